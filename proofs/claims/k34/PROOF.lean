import PyProof.Rows.All
import Wide.All
import OpenK.AllK
import Wide.FinOn
import Lean
import PyProof.EqAt
import PyProof.EqKinds
import PyProof.TupleCall
import PyProof.EnumStmt
import PyProof.EnumMake
import PyProof.EnumFor
import PyProof.ZipIter
import PyProof.CompFree
import PyProof.CompMap
import PyProof.Cells
import PyProof.ListMulRoad
import PyProof.ConsumeWalk
import PyProof.TupleOfGen
import PyProof.ListRange
import PySem.Challenge.RW_groupwalks_k34_whole_walks
set_option Elab.async false
set_option linter.all false
set_option maxRecDepth 100000
set_option maxHeartbeats 0
set_option compiler.postponeCompile true
set_option bootstrap.genMatcherCode false
set_option genSizeOfSpec false
set_option relaxedAutoImplicit false
set_option compiler.extract_closed false
noncomputable section
open Array renaming length_toList→di,getElem?_toList→Al,toList_append→CW
open Bool renaming and_eq_true→az,false_ne_true→bJ,false_eq_true→eU,and_false→jI,and_true→j8,or_eq_true→mP,true_and→o9
open Classical renaming propDecidable→cq
open False renaming elim→cD
open ForInStep renaming yield→dg
open Int renaming natCast_emod→lJ,emod_lt_of_pos→qY,natCast_nonneg→qZ,natCast_ediv→uC,toNat→uD,emod_nonneg→wB,natCast_add→wC,eq_ofNat_of_zero_le→An
open List renaming getElem?_eq_some_iff→ah,getElem?_append_right→ar,length_map→av,size_toArray→ay,mem_cons_of_mem→aA,range→aB,getElem?_set_ne→aF,length_append→aH,getElem?_append_left→aI,replicate→aK,append_assoc→aM,lookup_cons→aO,mem_append_left→aR,mem_append_right→aS,map_congr_left→aT,getElem?_set_self→aU,mem_cons→aX,mem_cons_self→ba,mem_map→bb,map_cons→be,mem_append→bh,mem_range→br,length_range→bu,all_eq_true→bH,map_map→bL,range'→bM,length_cons→bR,map_append→bS,getElem?_map→bT,getElem?_eq_getElem→bU,find?_cons→ck,all_cons→cm,length_nil→cH,replicate_succ→cP,length_reverse→cQ,mem_of_getElem?→dc,mem_singleton→du,take_append_of_le_length→dz,reverse_cons→dD,nil_append→dF,take_of_length_le→dJ,length_take→dM,set_append_right→dU,findIdx?_eq_some_iff_getElem→dZ,mem_reverse→eI,eq_nil_of_length_eq_zero→eS,mem_filter→fh,nodup_cons→fi,length_set→fj,range_succ→fk,flatten_cons→fD,mem_of_mem_take→fQ,nodup_iff_pairwise_ne→fR,length_drop→fY,filterMap_cons→gh,any_cons→gK,append_nil→gM,lookup_append→gQ,getElem?_replicate→g8,map_nil→iq,nodup_append→ir,length_replicate→iG,length_filter_le→iI,lookup→iZ,forIn_cons→jg,reverse_append→jn,getElem?_eq_none_iff→j2,idxOf_lt_length_iff→kc,getElem_mem→lr,nodup_range→lx,getElem?_cons_zero→ly,map_reverse→lz,all_nil→lY,of_mem_zip→mM,flatMap_append→oS,findIdx?_cons→pH,mem_range'_1→rh,foldl_append→rj,pairwise_map→rm,eraseIdxIfInBounds_toArray→rZ,range'_succ→tu,drop_length→tw,not_mem_nil→tz,any_eq_true→tE,map_id→uE,getD_eq_getElem?_getD→wH,perm_ext_iff_of_nodup→wI,drop_eq_getElem_cons→xR,sum_cons→y0,map_take→y3,eraseIdx_cons_succ→Ag,length_eq_zero_iff→Ah,getElem?_cons_succ→Ai,range_succ_eq_map→Am,length_singleton→CJ,dropLast_eq_take→CL,length→CQ,getElem_toArray→CV,range_eq_range'→CY,dropLast_concat→Da,reverse_reverse→Dc,mem_of_mem_drop→Dd
open List.Pairwise renaming nil→gc
open List.Perm renaming trans→CZ
open Nat renaming lt_of_lt_of_le→ae,le_refl→ak,lt_of_le_of_lt→aE,ne_of_lt→aP,le_trans→bg,mod_eq_of_lt→bp,lt_succ_self→bw,le_of_lt→bG,add_pos_left→bI,lt_irrefl→bQ,ne_of_gt→cZ,lt_trans→dk,zero_le→dB,lt_succ_of_lt→dE,le_succ→d8,zero_add→d9,le_of_lt_succ→ee,le_of_not_lt→eN,lt_of_le_of_ne→fg,mul_le_mul_right→fT,le_add_right→gf,div_eq_of_lt→gg,mul_comm→jH,le_succ_of_le→j7,add_mod_right→j9,le_of_eq→mQ,add_zero→mR,mod_self→mS,mod_add_mod→mT,mod_lt→qX,sub_self→se
open Ne renaming symm→eg
open Option renaming bind_some→ai,map_some→aV,isSome_iff_exists→gm,isSome_map→jY,map_eq_some_iff→yX,isSome_some→CT
open Option.some renaming inj→bq,injEq→eP
open PUnit renaming unit→o8
open PyProof.Rows renaming slot_tuple_getitem→cn,callWith_type1→cU,boot_tuple→jq,recsOf→lA,boot_list→tD
open PyProof.Rows.IsTup renaming new→kQ
open PySem renaming wpAny_bind→ag,wpAny_pure→ax,wpAny→aJ,wpAny_newObj_type→bx,mem_of_lookup→bN,wpAny_mono→cN,wpAny_truthy_bool→dm,wpAny_call_entry→dY,wpAny_field→eE,wpAny_holding→eM,wpAny_callSpecial?_slot→ff,wpAny_Call_Name_kw→fC,wpAny_passesOwn→fK,wpAny_loadPart'→fL,codeAny_builtin→fM,wpAny_of_eq→iD,wpAny_typeOf→iY,codeAny_mono→j5,PyData→lK,wpAny_assign_Name→lX,wpAny_comprehension_free→mO,wpAny_execs_nil→oQ,wpAny_specialOf→oR,codeAny→rf,wpAny_sequenceKey→wy,Addr→wD,wpAny_isInstance→xQ,wpAny_load→CH,wpAny_setField→CK,wpAny_runValue→CM
open PySem.Around renaming under_plainId→dw,frames_deeper→Ak
open PySem.AutoSeq1 renaming idx_int→pI
open PySem.Builtin.List renaming listTooLong→jf,listExtendWith→o7,listSameRef→rg
open PySem.Builtin.Range renaming rangeSize→dn,small→kR
open PySem.Builtin.Slice renaming slicePlaces→bY,sliceAdjust→dH,sliceApplied→eR,sliceFields→pG
open PySem.Builtin.SmallTypes renaming newClass→mN
open PySem.Builtin.Tuple renaming tupleExact→bE,tupleItemsOf→iH,tupleIsExact→o5,tupleTooMany→o6
open PySem.Calls renaming callWith_builtin→lI,evalArgs_plain→nV,spliced_cons→o4,Name_function_global→wx,call_function_entry→wG
open PySem.Data renaming seq→CU
open PySem.F renaming plain_list_iadd→fP,plainAttrs_list→gL,args_tuple_add_2→jW,entry_tuple_add→j6,slot_tuple_add→kP,entry_proto_collect→oI,plain_proto_collect→oJ,args_tuple_mul_2→sd,entry_tuple_mul→uA,entry_list_iadd→uB,slot_tuple_mul→wz,slot_tuple_index→wA,slot_list_pop→yY,type_list_pop→yZ
open PySem.Heap renaming get?_push_of_some→aq,get?_push_size→aC,lt_size→aD,size_push→bB,get?_update_other→dj,get?_update_self→dS,SameBut→q9
open PySem.Heap.IsSliceOf renaming new→ll
open PySem.Heap.SameBut renaming update→lq
open PySem.IsL renaming update→CI
open PySem.NameKind renaming free→aN,cell→cf
open PySem.Obj renaming mapSeq→dv,data_mapFields→jX,isFreed_of_fields→CS
open PySem.Paired renaming length→wF
open PySem.PassesOwn renaming never→qW
open PySem.PyData renaming eqvAll→d0,int→fo,eqv→fq,canLay0→hW,depthAll→i0,depth→jh,eqv→jo,canLayAll0→jZ
open PySem.SeqAt.EqAt renaming int_str→yV,str_int→yW
open PySem.Str renaming ofString→jG
open PySem.Value renaming ref→bc,none→jF,int→rV,str→rX,bool→wt,type→wu
open PySem.W renaming Frag→aj,keepIn→cR,kia_one→cW,fnOf→cX,cellsFrom_some→gZ,codeIn→g9,nsIn→hC,findIn→jm,OpenLaw→lu,mg_of→nW,callWith_K→oH,methodObj→o3,instObj→rY,lookIn→uz,hideAll_size→Ae,hideAll_none→Af,hideAll_get→Aj,of_hideAll→CG,specialIn→CN,kitx_list→CO,kitx_dict→CP
open Sum renaming inl→fe,inr→rW
open Sum.inl renaming inj→Ad
open True renaming intro→eT
section
namespace L2
open PySem PySem.Spec PyProof.Rows
abbrev Key:=Sum Int Str
noncomputable def qq:Key->Value->Bool
 | .inl k,v=>Value.isInt k v
 | .inr x,v=>Value.isStrOf x v
noncomputable def Lw (w:World):Key->Int
 | .inl k=>hashInt k
 | .inr x=>hashStr w x
theorem dC : ∀ {k:Key}{v:Value},qq k v=true->(∃ i t,k=fe i/\v=rV i t)\/(∃ x t,k=rW x/\v=rX x t)
 | .inl i,v,h=>by
   obtain⟨t,e⟩:=Value.isInt_shape (k:=i) (v:=v) h
   exact .inl ⟨i,t,rfl,e⟩
 | .inr x,v,h=>by
   obtain⟨t,e⟩:=Value.isStrOf_shape (x:=x) (v:=v) h
   exact .inr ⟨x,t,rfl,e⟩
theorem zx (i:Int) (t:Tok):qq (.inl i) (.int i t)=true:=by simp [qq,Value.isInt]
theorem zm (x:Str) (t:Tok):qq (.inr x) (.str x t)=true:=by simp [qq,Value.isStrOf]
theorem GA (a b:Int):decide ((fe a:Key)=fe b)=(a == b):=by
 by_cases e:a=b
 ·subst e;simp
 ·have h : ¬ (fe a:Key)=fe b:=fun q=>e (Ad q)
  rw [decide_eq_false h]
  exact (beq_eq_false_iff_ne.mpr e).symm
theorem HC (a b:Str):decide ((rW a:Key)=rW b)=decide (a=b):=by
 by_cases e:a=b
 ·subst e;simp
 ·have h : ¬ (rW a:Key)=rW b:=fun q=>e (Sum.inr.inj q)
  rw [decide_eq_false h,decide_eq_false e]
theorem F8 (a:Int) (b:Str):decide ((fe a:Key)=rW b)=false:=decide_eq_false (fun q=>nomatch q)
theorem GW (a:Str) (b:Int):decide ((rW a:Key)=fe b)=false:=decide_eq_false (fun q=>nomatch q)
noncomputable def dq (prog:Program) (w:World):PySem.KeyKind prog w Key where
 is:=qq
 hash:=Lw w
 inj:=fun v a b ha hb=>by
  rcases dC ha with⟨i,t,rfl,rfl⟩ | ⟨x,t,rfl,rfl⟩
  ·rcases dC hb with⟨j,u,rfl,e⟩ | ⟨y,u,rfl,e⟩
   ·injection e with e1 _;rw [e1]
   ·exact nomatch e
  ·rcases dC hb with⟨j,u,rfl,e⟩ | ⟨y,u,rfl,e⟩
   ·exact nomatch e
   ·injection e with e1 _;rw [e1]
 byValue:=fun k v h=>by
  rcases dC h with⟨i,t,rfl,rfl⟩ | ⟨x,t,rfl,rfl⟩ <;> rfl
 pyHash:=fun hv h=>by
  rcases dC hv with⟨i,t,rfl,rfl⟩ | ⟨x,t,rfl,rfl⟩
  ·exact wpAny_pyHash_int h
  ·exact wpAny_pyHash_str h
 eqBool:=fun hu hv h=>by
  rcases dC hu with⟨i,t,rfl,rfl⟩ | ⟨x,t,rfl,rfl⟩
  ·rcases dC hv with⟨j,u,rfl,rfl⟩ | ⟨y,u,rfl,rfl⟩
   ·rw [GA] at h;exact wpAny_eqBool_int h
   ·rw [F8] at h;exact yV i t y u _ _ _ _ h
  ·rcases dC hv with⟨j,u,rfl,rfl⟩ | ⟨y,u,rfl,rfl⟩
   ·rw [GW] at h;exact yW x t j u _ _ _ _ h
   ·rw [HC] at h;exact wpAny_eqBool_str h
 «strs»:=fun k x t v h=>by
  rcases dC h with⟨i,u,rfl,e⟩ | ⟨y,u,rfl,e⟩
  ·exact nomatch e
  ·injection e with e1 _
   subst e1
   cases v <;> rfl
theorem vV (prog:Program) (w:World) (i:Int) (t:Tok):(dq prog w).is (.inl i) (.int i t)=true:=zx i t
theorem vj (prog:Program) (w:World) (x:Str) (t:Tok):(dq prog w).is (.inr x) (.str x t)=true:=zm x t
end L2
namespace L2
open PySem PySem.Spec PyProof.Rows
inductive V where
 | non | bl (b:Bool) | int (i:Int) | str (x:Str) | byt (b:Array UInt8) | flt (b:UInt64) | ref (a:Addr) | ty (n:String)
 deriving DecidableEq
noncomputable def RelV:V->Value->Prop
 | .non,u=>u=jF
 | .bl b,u=>u=wt b
 | .int i,u => ∃ t,u=rV i t
 | .str x,u => ∃ t,u=rX x t
 | .byt b,u => ∃ t,u=Value.bytes b t
 | .flt b,u => ∃ t,u=Value.float b t
 | .ref a,u=>u=bc a
 | .ty n,u=>u=wu n
abbrev bK:List V->List Value->Prop:=Paired RelV
theorem bK.length {xs:List V}{us:List Value} (r:bK xs us):xs.length=us.length:=wF r
theorem bK.get : ∀ {xs:List V}{us:List Value}{i:Nat}{x:V},bK xs us->xs[i]? = some x -> ∃ u,us[i]? = some u/\RelV x u
 | _,_,_,_,.nil,e=>by simp at e
 | _,_,0,_,.cons r _,e=>by simp at e;subst e;exact⟨_,rfl,r⟩
 | _,_,i+1,x,.cons _ t,e=>by
   obtain⟨u,h1,h2⟩:=bK.get (i:=i) (x:=x) t (by simpa using e)
   exact⟨u,by simpa using h1,h2⟩
theorem bK.set {x:V}{u:Value} (r:RelV x u) : ∀ {xs:List V}{us:List Value} (i:Nat),bK xs us->bK (xs.set i x) (us.set i u)
 | _,_,_,.nil => .nil
 | _,_,0,.cons _ t => .cons r t
 | _,_,i+1,.cons q t => .cons q (bK.set r i t)
theorem bK.append : ∀ {xs ys:List V}{us ws:List Value},bK xs us->bK ys ws->bK (xs++ys) (us++ws)
 | _,_,_,_,.nil,s=>s
 | _,_,_,_,.cons r t,s => .cons r (bK.append t s)
theorem bK.take : ∀ {xs:List V}{us:List Value} (n:Nat),bK xs us->bK (xs.take n) (us.take n)
 | _,_,0,_ => .nil
 | _,_,_+1,.nil => .nil
 | _,_,n+1,.cons r t => .cons r (bK.take n t)
theorem bK.drop : ∀ {xs:List V}{us:List Value} (n:Nat),bK xs us->bK (xs.drop n) (us.drop n)
 | _,_,0,r=>r
 | _,_,_+1,.nil => .nil
 | _,_,n+1,.cons _ t=>bK.drop n t
noncomputable def pR:Option V->Option Value->Prop
 | some v,some u=>RelV v u
 | none,none=>True
 | _,_=>False
noncomputable def KV {κ:Type}:List (κ×V)->List (κ×Value)->Prop:=Paired fun (p:κ×V) (q:κ×Value)=>p.1=q.1/\RelV p.2 q.2
noncomputable def kV:Key->V
 | .inl i => .int i
 | .inr x => .str x
inductive HO where
 | lst (xs:List V)
 | tup (xs:List V)
 | dK (kvs:List (Key×V)) | dT (kvs:List (List Key×V))
 | set (S:Int->Bool) (n:Nat)
 | ins (C dx:Addr) (fs:List (Str×V))
 | own (x:Addr)
 | xd (fs:List (Str×V))
 | met (f x:Addr)
 | rng (lo hi:Int)
 | frz (o:Obj) (u:HO)
 | tbl (ps:Array Value)
 | ext (φ:Heap->Prop)
abbrev Hp:=Addr->Option HO
noncomputable def upd (H:Hp) (a:Addr) (o:HO):Hp:=fun b=>if b=a then some o else H b
theorem cg {H:Hp}{a:Addr}{o:HO}:upd H a o a=some o:=by unfold upd;rw [if_pos rfl]
theorem bz {H:Hp}{a b:Addr}{o:HO} (h:b≠a):upd H a o b=H b:=by unfold upd;rw [if_neg h]
theorem pU {H:Hp}{a b:Addr}{o u:HO} (h:H a=some o) (h':H b=some u) (d:o≠u):a≠b:=by
 intro e;subst e;rw [h] at h';exact d (bq h')
theorem bC {H:Hp}{a b:Addr}{o:HO} (h:H a=some o) (h':H b=none):a≠b:=by
 intro e;subst e;rw [h] at h';cases h'
section
variable (P:Program) (w:World)
noncomputable def dW (H:Hp) (h:Heap) (a:Addr):HO->Prop
 | .lst xs=>xs.length<=sizeLine /\ ∃ (its:List Value) (n:Nat),bK xs its/\h.get? a=some { cls := .type "list",data := .seq its.toArray n }
 | .tup xs=>xs.length<=sizeLine /\ ∃ its:List Value,bK xs its/\IsTup h a its.toArray /\ ∃ o,h.get? a=some o/\o.dict=none
 | .dK kvs=>kvs.length<=sizeLine/\(a == sysModules)=false /\ ∃ vs,KV kvs vs/\h.DictOf (dq P w) a vs
 | .dT kvs=>kvs.length<=sizeLine/\(a == sysModules)=false /\ ∃ xs:List (List Key×Addr×Value),
   Paired (fun (p:List Key×V) (q:List Key×Addr×Value)=>p.1=q.1/\H q.2.1=some (.tup (p.1.map kV))/\RelV p.2 q.2.2) kvs xs /\
   ∃ o es ep,h.get? a=some o/\o.ExactDict/\o.data = .dict es ep/\es.toList=xs.map (entryOfKey (tupleKind (dq P w)))/\(xs.map (·.1)).Nodup
 | .set S n=>h.SetOf (intKind P w) a S n
 | .ins C dx fs=>H dx=some (.own a)/\fs.length<=1000/\dx≠a/\h.get? a=some (rY C dx) /\
   ∃ mA,h.Ns1 dx mA/\(∀ f,pR (fs.lookup f) (mA f))/\PySem.Within mA (fs.map (·.1))
 | .own _ => ∃ o,h.get? a=some o
 | .xd fs => ∃ mA,h.Ns1 a mA /\ ∀ f,pR (fs.lookup f) (mA f)
 | .rng lo hi => ∃ t u v,h.get? a=some { cls := .type "range",data := .fields #[.int lo t,.int hi u,.int 1 v] }
 | .frz o u=>h.get? a=some o/\dW H h a u
 | .tbl ps=>h.get? a=some { cls := .none,data := .fields ps }
 | .met f x=>h.get? a=some (o3 (.ref f) (.ref x))
 | .ext φ=>φ h/\(∃ o,h.get? a=some o) /\ ∀ h1 h2:Heap,φ h1->(∀ o,h1.get? a=some o->h2.get? a=some o)->φ h2
noncomputable def HOk (H:Hp) (h:Heap):Prop := ∀ a o,H a=some o->dW P w H h a o
end
section
variable {P:Program}{w:World}{H H':Hp}{h h':Heap}{a:Addr}{o:HO}
theorem dW.lt (x:dW P w H h a o):a < h.objs.size:=by
 cases o with
 | lst xs=>obtain⟨_,_,_,_,e⟩:=x;exact aD e
 | tup xs=>obtain⟨_,_,_,p⟩:=x;exact p.1.lt
 | dK kvs=>obtain⟨_,_,_,_,o,_,_,e,_⟩:=x;exact aD e
 | dT kvs=>obtain⟨_,_,_,_,o,_,_,e,_⟩:=x;exact aD e
 | set S n=>obtain⟨o,_,_,_,e,_⟩:=x;exact aD e
 | ins C dx fs=>obtain⟨_,_,_,e,_⟩:=x;exact aD e
 | own y=>obtain⟨_,e⟩:=x;exact aD e
 | xd fs=>obtain⟨_,⟨_,_,_,e,_⟩,_⟩:=x;exact aD e
 | rng lo hi=>obtain⟨_,_,_,e⟩:=x;exact aD e
 | frz ob u=>obtain⟨e,_⟩:=x;exact aD e
 | tbl ps=>exact aD (show h.get? a=some _ from x)
 | met f y=>exact aD (show h.get? a=some _ from x)
 | ext φ=>obtain⟨_,⟨_,e⟩,_⟩:=x;exact aD e
theorem Paired.mapP {α β:Type}{F G:α->β->Prop} : ∀ {l₁:List α}{l₂:List β},Paired F l₁ l₂->(∀ a b,F a b->G a b)->Paired G l₁ l₂
 | _,_,.nil,_ => .nil
 | _,_,.cons r t,f => .cons (f _ _ r) (Paired.mapP t f)
theorem dW.stay (x:dW P w H h a o) (k : ∀ b u,(b=a\/H b=some (.own a))->h.get? b=some u->h'.get? b=some u)
  (ho : ∀ b,H b=some (.own a)->H' b=some (.own a)) (ht : ∀ b xs,H b=some (.tup xs)->H' b=some (.tup xs)):dW P w H' h' a o:=by
 induction o with
 | lst xs=>obtain⟨z,its,n,r,e⟩:=x;exact⟨z,its,n,r,k _ _ (.inl rfl) e⟩
 | tup xs=>obtain⟨z,its,r,⟨ob,e,c⟩,o2,e2,c2⟩:=x;exact⟨z,its,r,⟨ob,k _ _ (.inl rfl) e,c⟩,o2,k _ _ (.inl rfl) e2,c2⟩
 | dK kvs=>obtain⟨z,y,vs,r,ob,es,ep,e,c⟩:=x;exact⟨z,y,vs,r,ob,es,ep,k _ _ (.inl rfl) e,c⟩
 | dT kvs=>
   obtain⟨z,y,xs,r,ob,es,ep,e,c⟩:=x
   exact⟨z,y,xs,Paired.mapP r fun p q z=>⟨z.1,ht _ _ z.2.1,z.2.2⟩,ob,es,ep,k _ _ (.inl rfl) e,c⟩
 | set S n=>obtain⟨ob,es,ep,t,e,c⟩:=x;exact⟨ob,es,ep,t,k _ _ (.inl rfl) e,c⟩
 | ins C dx fs=>
   obtain⟨d,z,ne,e,mA,⟨od,es,ep,e2,c⟩,r⟩:=x
   exact⟨ho _ d,z,ne,k _ _ (.inl rfl) e,mA,⟨od,es,ep,k _ _ (.inr d) e2,c⟩,r⟩
 | own y=>obtain⟨ob,e⟩:=x;exact⟨ob,k _ _ (.inl rfl) e⟩
 | xd fs=>obtain⟨mA,⟨od,es,ep,e,c⟩,r⟩:=x;exact⟨mA,⟨od,es,ep,k _ _ (.inl rfl) e,c⟩,r⟩
 | rng lo hi=>obtain⟨t,u,v,e⟩:=x;exact⟨t,u,v,k _ _ (.inl rfl) e⟩
 | frz ob u ih=>obtain⟨e,q⟩:=x;exact⟨k _ _ (.inl rfl) e,ih q⟩
 | tbl ps=>
   have e:h.get? a=some { cls := .none,data := .fields ps }:=x
   show h'.get? a=some { cls := .none,data := .fields ps }
   exact k a _ (.inl rfl) e
 | met f y=>
   have e:h.get? a=some (o3 (.ref f) (.ref y)):=x
   show h'.get? a=some (o3 (.ref f) (.ref y))
   exact k a _ (.inl rfl) e
 | ext φ=>obtain⟨p,⟨o,e⟩,st⟩:=x;exact⟨st _ _ p fun o q=>k _ _ (.inl rfl) q,⟨o,k _ _ (.inl rfl) e⟩,st⟩
theorem HOk.lt (x:HOk P w H h) (e:H a=some o):a < h.objs.size:=(x a o e).lt
theorem HOk.fresh (x:HOk P w H h) (e:h.objs.size<=a):H a=none:=by
 cases q:H a with
 | none=>rfl
 | some u=>exact absurd (ae (x.lt q) e) (bQ _)
theorem HOk.kept (x:HOk P w H h) (k : ∀ b u,h.get? b=some u->h'.get? b=some u):HOk P w H h':=fun a o e=>
 (x a o e).stay (fun b u _ q=>k b u q) (fun _ q=>q) fun _ _ q=>q
theorem HOk.laid (x:HOk P w H h) (k : ∀ b u,h.get? b=some u->h'.get? b=some u) (hp:h.objs.size<=a) (new:dW P w (upd H a o) h' a o):HOk P w (upd H a o) h':=fun b u e=>by
 have hn:=x.fresh hp
 by_cases hb:b=a
 ·subst hb;rw [cg] at e;cases e;exact new
 ·rw [bz hb] at e
  exact (x b u e).stay (fun c v _ q=>k c v q) (fun c q=>by rw [bz (bC q hn)];exact q) fun c xs q=>by rw [bz (bC q hn)];exact q
end
noncomputable def Rd (H:Hp) (a:Addr) (u:HO):Prop:=H a=some u \/ ∃ o,H a=some (.frz o u)
theorem Rd.ok {P:Program}{w:World}{H:Hp}{h:Heap}{a:Addr}{u:HO} (r:Rd H a u) (x:HOk P w H h):dW P w H h a u:=by
 rcases r with r | ⟨o,r⟩
 ·exact x a u r
 ·obtain⟨_,q⟩:=x a _ r
  exact q
noncomputable def Mut:Option HO->Prop
 | some (.lst _)=>True
 | some (.dK _)=>True
 | some (.dT _)=>True
 | some (.set _ _)=>True
 | some (.ins _ _ _)=>True
 | some (.ext _)=>True
 | _=>False
section
variable {P:Program}{w:World}{H:Hp}{h h':Heap}{x e:Addr}{o':HO}
theorem HOk.write (ok:HOk P w H h) (mu:Mut (H x)) (he:e=x\/H e=some (.own x)) (k : ∀ b u,b≠e->h.get? b=some u->h'.get? b=some u) (heo : ∃ u,h'.get? e=some u)
  (new:dW P w (upd H x o') h' x o'):HOk P w (upd H x o') h':=fun b u q=>by
 have nown : ∀ c y,H c=some (.own y)->c≠x:=fun c y r z=>by subst z;rw [r] at mu;exact mu
 have ntup : ∀ c xs,H c=some (.tup xs)->c≠x:=fun c xs r z=>by subst z;rw [r] at mu;exact mu
 by_cases hb:b=x
 ·subst hb;rw [cg] at q;cases q;exact new
 ·rw [bz hb] at q
  by_cases hbe:b=e
  ·have q':H b=some (.own x):=by
    rcases he with z | z
    ·exact absurd (hbe.trans z) hb
    ·rw [hbe];exact z
   rw [q] at q';cases q'
   obtain⟨v,hv⟩:=heo
   exact⟨v,by rw [hbe];exact hv⟩
  ·refine (ok b u q).stay (fun c v hc r=>k c v ?_ r) (fun c r=>by rw [bz (nown c b r)];exact r) fun c xs r=>by rw [bz (ntup c xs r)];exact r
   rcases hc with rfl | hc
   ·exact hbe
   ·rintro rfl
    rcases he with z | z
    ·exact nown c b hc z
    ·rw [hc] at z;cases z;exact hb rfl
end
structure Un (fs ex:List Addr) (H H':Hp) (h h':Heap):Prop where
 keep : ∀ b o,h.get? b=some o->H b=none->b∉fs->b∉ex->h'.get? b=some o
 slot : ∀ b o,h.get? b=some o->H b=none->b∈fs->b∉ex -> ∃ sl,h'.get? b=some { o with slots:=sl }
 free : ∀ b o,h.get? b=some o->H b=none->b∉ex->H' b=none
 there : ∀ b o,h.get? b=some o->b∉ex -> ∃ o',h'.get? b=some o'
 tups : ∀ b xs,H b=some (.tup xs)->H' b=some (.tup xs)
 frzs : ∀ b o u,H b=some (.frz o u)->H' b=some (.frz o u)
 tbls : ∀ b ps,H b=some (.tbl ps) -> ∃ more,H' b=some (.tbl (ps++more))
section
variable {fs fs' ex ex':List Addr}{H H1 H2:Hp}{h h1 h2 h':Heap}{a x e:Addr}{o:HO}
theorem Un.any (u:Un fs ex H H1 h h1) {b:Addr}{ob:Obj} (q:h.get? b=some ob) (n:H b=none) (hx:b∉ex) : ∃ sl,h1.get? b=some { ob with slots:=sl }:=by
 by_cases hb:b∈fs
 ·exact u.slot b ob q n hb hx
 ·exact⟨ob.slots,u.keep b ob q n hb hx⟩
theorem Un.kept (k : ∀ b u,h.get? b=some u->h'.get? b=some u):Un fs ex H H h h':=
 ⟨fun b ob q _ _ _=>k b ob q,fun b ob q _ _ _=>⟨ob.slots,k b ob q⟩,fun _ _ _ n _=>n,fun b ob q _=>⟨ob,k b ob q⟩,fun _ _ q=>q,fun _ _ _ q=>q,fun _ ps q=>⟨#[],by rw [q];simp⟩⟩
theorem Un.refl:Un fs ex H H h h:=Un.kept fun _ _ q=>q
theorem Un.laid (k : ∀ b u,h.get? b=some u->h'.get? b=some u) (hp:h.objs.size<=a) (hn:H a=none):Un fs ex H (upd H a o) h h' where
 keep:=fun b u q _ _ _=>k b u q
 slot:=fun b u q _ _ _=>⟨u.slots,k b u q⟩
 free:=fun b u q n _=>by rw [bz (aP (ae (aD q) hp))];exact n
 there:=fun b u q _=>⟨u,k b u q⟩
 tups:=fun b xs q=>by rw [bz (bC q hn)];exact q
 frzs:=fun b u xs q=>by rw [bz (bC q hn)];exact q
 tbls:=fun b ps q=>⟨#[],by rw [bz (bC q hn),q];simp⟩
theorem Un.write (mu:Mut (H x)) (he:e=x\/H e=some (.own x)) (k : ∀ b u,b≠e->h.get? b=some u->h'.get? b=some u) (heo : ∃ u,h'.get? e=some u):Un fs ex H (upd H x o) h h':=by
 have hx : ∀ b,H b=none->b≠x:=fun b n z=>by subst z;rw [n] at mu;exact mu
 have hb : ∀ b,H b=none->b≠e:=fun b n z=>by
  subst z
  rcases he with r | r
  ·exact hx b n r
  ·rw [n] at r;cases r
 have hm : ∀ b u,H b=some u -> ¬ Mut (some u)->b≠x:=fun b u q nm z=>by subst z;rw [q] at mu;exact nm mu
 refine⟨fun b u q n _ _=>k b u (hb b n) q,fun b u q n _ _=>⟨u.slots,k b u (hb b n) q⟩,fun b u q n _=>by rw [bz (hx b n)];exact n,fun b u q _ => ?_,
  fun b xs q=>by rw [bz (hm b _ q fun z=>z)];exact q,fun b u xs q=>by rw [bz (hm b _ q fun z=>z)];exact q,fun b ps q=>⟨#[],by rw [bz (hm b _ q fun z=>z),q];simp⟩⟩
 by_cases hbe:b=e
 ·subst hbe;exact heo
 ·exact⟨u,k b u hbe q⟩
end
noncomputable def trk (h:Heap) (H:Hp):List Addr:=(aB h.objs.size).filter fun a=>(H a).isSome
noncomputable def rN (h:Heap) (H:Hp):Heap:=PySem.W.hideAll h (trk h H)
theorem sN (h:Heap) (H:Hp):(rN h H).objs.size=h.objs.size:=Ae _ _
theorem nq {h:Heap}{H:Hp}{b:Addr}{o:Obj} (e:h.get? b=some o) (n:H b=none):(rN h H).get? b=some o:=
 Aj _ e fun hm=>by
  have q:(H b).isSome=true:=(fh.mp hm).2
  rw [n] at q;simp at q
theorem yH {h:Heap}{H:Hp}{b:Addr}{o:Obj} (e:(rN h H).get? b=some o):h.get? b=some o/\H b=none:=by
 have e':h.get? b=some o:=CG (trk h H) e
 refine⟨e',?_⟩
 cases q:H b with
 | none=>rfl
 | some x=>
   have hm:b∈trk h H:=fh.mpr ⟨br.mpr (aD e'),by simp [q]⟩
   have z:(rN h H).get? b=none:=Af (trk h H) hm
   rw [z] at e;cases e
end L2
namespace L2
open PySem PySem.Spec PyProof.Rows
structure Mod (K:aj) (mg:Str->Option Value) (base:Heap):Prop where
 kin:K.In base
 glob:base.Ns mainGlobals mg
 blt : ∃ mb,base.Ns builtinsNs mb /\ ∀ x:Str,x≠"__name__"->mb x=bootBuiltins x
 nolimit:base.NoLimit
set_option genInjectivity false in
structure Cx where
 prog:Program
 w:World
 K:aj
 mg:Str->Option Value
 base:Heap
 A:Around
 N:List Str
 s₀:Shared
 H₀:Hp
 env:Env
 outer:List Env
 stack:List Env
 ex:List Addr
 fn:Str->Bool
 calm:Bool
 pn:List (Addr×Obj)
 xe:Value->Shared->Prop
noncomputable def frs (l:List Env):List Addr:=l.filterMap (·.frame)
abbrev Cx.fs (X:Cx):List Addr:=frs X.outer
noncomputable def Vis (sc:Scope) (x:Str):Prop:=sc.names.lookup x=some .local\/sc.names.lookup x=some .cell\/sc.names.lookup x=some .free
noncomputable def Loc (sc:Scope) (x:Str):Prop:=sc.names.lookup x=some .local\/sc.names.lookup x=some .cell
noncomputable def Look (env:Env) (h:Heap) (m:Str->Option Value) (x:Str) (u:Value):Prop:=
 (env.kindOf x=some .local/\m x=some u)\/((env.kindOf x=some .cell\/env.kindOf x=some .free) /\ ∃ c,env.cells.lookup x=some c/\h.IsCell c (some u))
structure Cx.Ok (X:Cx):Prop where
 mod:Mod X.K X.mg X.base
 kind:X.env.scope.kind = .function
 glob:X.env.globals=mainGlobals
 blt:X.env.builtins=builtinsNs
 above:X.s₀.heap.objs.size<=X.env.locals
 inj : ∀ x y c,X.env.cells.lookup x=some c->X.env.cells.lookup y=some c->x=y
 has : ∀ x,(X.env.kindOf x=some .cell\/X.env.kindOf x=some .free) -> ∃ c,X.env.cells.lookup x=some c
 cab : ∀ x c,X.fn x=true->X.env.cells.lookup x=some c->X.s₀.heap.objs.size<=c
 hd:X.calm=true->X.A.handled=none
 frames:X.A.frames=some X.stack
 stk:X.stack=X.outer\/(X.stack=X.env::X.outer/\X.env.frame=some X.env.locals)
 exf : ∀ b∈X.ex,b≠X.env.locals /\ ∀ x c,X.env.cells.lookup x=some c->c≠b
 bs : ∀ b o,X.base.get? b=some o->X.s₀.heap.get? b=some o/\X.H₀ b=none
 bsz:X.base.objs.size<=X.s₀.heap.objs.size
 noex : ∀ b o,X.base.get? b=some o->b∉X.ex
 exfs : ∀ b∈X.ex,b∉X.fs
 funs:X.s₀.heap.FunFrames X.base X.outer
 frf : ∀ b∈X.fs,X.H₀ b=none
structure Inv (X:Cx) (pins:List (Addr×Obj)) (σ:List (Option V)) (H:Hp) (s:Shared):Prop where
 ok:X.Ok
 os:s.os=X.s₀.os
 bare:AllBare s.gens
 base:Un X.fs X.ex X.H₀ H X.s₀.heap s.heap
 loc : ∃ m,s.heap.Ns X.env.locals m /\ ∀ (i:Nat) (x:Str) (v:V),X.N[i]? = some x->σ[i]? = some (some v)->Vis X.env.scope x -> ∃ u,RelV v u/\Look X.env s.heap m x u
 cell : ∀ x c,X.env.cells.lookup x=some c -> ∃ v,s.heap.IsCell c v
 free:H X.env.locals=none
 freeC : ∀ x c,X.env.cells.lookup x=some c->H c=none
 pin : ∀ p∈X.pn++pins,s.heap.get? p.1=some p.2/\H p.1=none/\p.1≠X.env.locals/\p.1∉X.fs /\ ∀ v,p.2.data ≠ .cell v
 hok:HOk X.prog X.w H s.heap
 len:σ.length=X.N.length
section
variable {X:Cx}{pins:List (Addr×Obj)}{σ:List (Option V)}{H H':Hp}{s:Shared}{h':Heap}
theorem Cx.Ok.nofr (ok:X.Ok) {b:Addr}{o:Obj} (e:X.base.get? b=some o):b∉X.fs:=fun hb=>by
 have:=(ok.funs.mem hb).1
 rw [e] at this;cases this
theorem Inv.bs (I:Inv X pins σ H s) : ∀ b o,X.base.get? b=some o->s.heap.get? b=some o/\H b=none:=fun b o e=>
 ⟨I.base.keep b o (I.ok.bs b o e).1 (I.ok.bs b o e).2 (I.ok.nofr e) (I.ok.noex b o e),I.base.free b o (I.ok.bs b o e).1 (I.ok.bs b o e).2 (I.ok.noex b o e)⟩
theorem Inv.bk (I:Inv X pins σ H s) : ∀ b o,X.base.get? b=some o->s.heap.get? b=some o:=fun b o e=>(I.bs b o e).1
theorem Inv.mod (I:Inv X pins σ H s):Mod X.K X.mg X.base:=I.ok.mod
theorem Inv.kIn (I:Inv X pins σ H s):X.K.In s.heap:=I.ok.mod.kin.keeps I.bk
theorem Inv.lt (I:Inv X pins σ H s):X.env.locals < s.heap.objs.size:=let ⟨_,hn,_⟩:=I.loc;hn.lt
theorem Inv.sz (I:Inv X pins σ H s):X.s₀.heap.objs.size<=s.heap.objs.size:=bg I.ok.above (bG I.lt)
theorem Inv.nofs (I:Inv X pins σ H s) {a:Addr} (h:s.heap.objs.size<=a):a∉X.fs:=fun hb=>by
 obtain⟨_,o,ho,_⟩:=I.ok.funs.mem hb
 exact absurd (ae (aD ho) (bg I.sz h)) (bQ _)
theorem Inv.cne (I:Inv X pins σ H s) : ∀ x c,X.env.cells.lookup x=some c->c≠X.env.locals:=fun x c e z=>by
 obtain⟨v,o,ho,hd⟩:=I.cell x c e
 obtain⟨m,⟨o',es,ep,ho',hd',_⟩,_⟩:=I.loc
 rw [z,ho'] at ho;cases ho;rw [hd'] at hd;cases hd
theorem Inv.funs (I:Inv X pins σ H s):s.heap.FunFrames X.base X.outer:=by
 have all : ∀ (l:List Env),(∀ b∈frs l,b∈X.fs)->X.s₀.heap.FunFrames X.base l->s.heap.FunFrames X.base l:=by
  intro l
  induction l with
  | nil=>intro _ _;trivial
  | cons env r ih=>
    intro hs hl
    obtain⟨hk,⟨L,o,hf,hn,ho,hd⟩,hr⟩:=hl
    have hL:L∈X.fs:=hs L (by unfold frs;rw [gh,hf];exact ba)
    obtain⟨sl,e⟩:=I.base.slot L o ho (I.ok.frf L hL) hL fun z=>I.ok.exfs L z hL
    exact⟨hk,⟨L,_,hf,hn,e,hd⟩,ih (fun b hb=>hs b (by unfold frs;rw [gh,hf];exact aA _ hb)) hr⟩
 exact all X.outer (fun _ hb=>hb) I.ok.funs
theorem Inv.stack (I:Inv X pins σ H s):s.heap.FunFrames X.base X.stack:=by
 rcases I.ok.stk with e | ⟨e,hf⟩
 ·rw [e];exact I.funs
 ·rw [e]
  obtain⟨m,hn,_⟩:=I.loc
  refine .cons (by rw [I.ok.kind];decide) hf hn ?_ I.funs
  exact Heap.get?_none_of_le (bg I.ok.bsz I.ok.above)
theorem Inv.stkSub (I:Inv X pins σ H s) : ∀ b∈frs X.stack,b∈X.env.locals::X.fs:=fun b hb=>by
 rcases I.ok.stk with e | ⟨e,hf⟩
 ·rw [e] at hb;exact aA _ hb
 ·rw [e] at hb
  unfold frs at hb
  rw [gh,hf] at hb
  exact hb
theorem Inv.stkFree (I:Inv X pins σ H s) : ∀ b∈frs X.stack,H b=none:=fun b hb=>by
 rcases aX.mp (I.stkSub b hb) with e | hb
 ·rw [e];exact I.free
 ·obtain⟨_,o,ho,_⟩:=I.ok.funs.mem hb
  exact I.base.free b o ho (I.ok.frf b hb) fun z=>I.ok.exfs b z hb
theorem Inv.step {g':Array GenState}{t':Nat}{d':Drawn}{ch:List Addr} (I:Inv X pins σ H s)
  (hch : ∀ b∈ch,(b∈X.ex\/X.s₀.heap.objs.size<=b)/\b≠X.env.locals/\(∀ x c,X.env.cells.lookup x=some c->c≠b) /\ ∀ p∈X.pn++pins,p.1≠b)
  (keep : ∀ b o,b≠X.env.locals->b∉X.fs->b∉ch->s.heap.get? b=some o->H b=none->h'.get? b=some o)
  (slot : ∀ b o,b≠X.env.locals->b∈X.fs->b∉ch->s.heap.get? b=some o->H b=none -> ∃ sl,h'.get? b=some { o with slots:=sl }) (free : ∀ b o,b∉ch->s.heap.get? b=some o->H b=none->H' b=none)
  (there : ∀ b o,b∉ch->s.heap.get? b=some o -> ∃ o',h'.get? b=some o')
  (tups : ∀ b xs,H b=some (.tup xs)->H' b=some (.tup xs)) (frzs : ∀ b o u,H b=some (.frz o u)->H' b=some (.frz o u)) (tbls : ∀ b ps,H b=some (.tbl ps) -> ∃ more,H' b=some (.tbl (ps++more)))
  (ns : ∀ m,s.heap.Ns X.env.locals m->h'.Ns X.env.locals m) (hok:HOk X.prog X.w H' h') (hg:AllBare g') :
  Inv X pins σ H' { s with heap:=h',gens:=g',drawn:=d',toks:=t' }:=by
 have neL : ∀ b o,X.s₀.heap.get? b=some o->b≠X.env.locals:=fun b o e=>aP (ae (aD e) I.ok.above)
 have neC : ∀ b o,X.s₀.heap.get? b=some o->b∉X.ex->b∉ch:=fun b o e hx hb=>by
  rcases (hch b hb).1 with z | z
  ·exact hx z
  ·exact absurd (ae (aD e) z) (bQ _)
 have cellK : ∀ x c,X.env.cells.lookup x=some c -> ∀ v,s.heap.IsCell c v->h'.IsCell c v:=fun x c e v ⟨o,ho,hd⟩=>by
  have nch:c∉ch:=fun z=>(hch c z).2.2.1 x c e rfl
  by_cases hc:c∈X.fs
  ·obtain⟨sl,q⟩:=slot c o (I.cne x c e) hc nch ho (I.freeC x c e)
   exact⟨_,q,hd⟩
  ·exact⟨o,keep c o (I.cne x c e) hc nch ho (I.freeC x c e),hd⟩
 refine⟨I.ok,I.os,hg,⟨fun b o e n hb hx => ?_,fun b o e n hb hx => ?_,fun b o e n hx => ?_,fun b o e hx => ?_,fun b xs e=>tups b xs (I.base.tups b xs e),fun b o xs e=>frzs b o xs (I.base.frzs b o xs e),fun b ps e => ?_⟩,?_,fun x c e => ?_,?_,fun x c e => ?_,fun p hp => ?_,hok,I.len⟩
 ·exact keep b o (neL b o e) hb (neC b o e hx) (I.base.keep b o e n hb hx) (I.base.free b o e n hx)
 ·obtain⟨sl,e1⟩:=I.base.slot b o e n hb hx
  obtain⟨sl',e2⟩:=slot b _ (neL b o e) hb (neC b o e hx) e1 (I.base.free b o e n hx)
  exact⟨sl',e2⟩
 ·obtain⟨o',e1⟩:=I.base.there b o e hx
  exact free b o' (neC b o e hx) e1 (I.base.free b o e n hx)
 ·obtain⟨o',e1⟩:=I.base.there b o e hx
  exact there b o' (neC b o e hx) e1
 ·obtain⟨m1,e1⟩:=I.base.tbls b ps e
  obtain⟨m2,e2⟩:=tbls b _ e1
  exact⟨m1++m2,by rw [e2,Array.append_assoc]⟩
 ·obtain⟨m,hn,hl⟩:=I.loc
  refine⟨m,ns m hn,fun i x v e1 e2 e3 => ?_⟩
  obtain⟨u,r,l⟩:=hl i x v e1 e2 e3
  refine⟨u,r,?_⟩
  rcases l with l | ⟨k,c,e,z⟩
  ·exact .inl l
  ·exact .inr ⟨k,c,e,cellK x c e _ z⟩
 ·obtain⟨v,z⟩:=I.cell x c e
  exact⟨v,cellK x c e v z⟩
 ·obtain⟨m,⟨o,_,_,ho,_⟩,_⟩:=I.loc
  exact free _ o (fun z=>(hch _ z).2.1 rfl) ho I.free
 ·obtain⟨v,o,ho,hd⟩:=I.cell x c e
  exact free c o (fun z=>(hch c z).2.2.1 x c e rfl) ho (I.freeC x c e)
 ·obtain⟨e,n,ne,nf,d⟩:=I.pin p hp
  have nch:p.1∉ch:=fun z=>(hch p.1 z).2.2.2 p hp rfl
  exact⟨keep p.1 p.2 ne nf nch e n,free p.1 p.2 nch e n,ne,nf,d⟩
theorem Inv.un {t':Nat} (I:Inv X pins σ H s) (u:Un X.fs [] H H' s.heap h') (hok:HOk X.prog X.w H' h'):Inv X pins σ H' { s with heap:=h',toks:=t' }:=by
 obtain⟨m,⟨o,es,ep,ho,r⟩,_⟩:=id I.loc
 obtain⟨sl,hL⟩:=u.any ho I.free (by simp)
 exact I.step (g':=s.gens) (d':=s.drawn) (ch := []) (fun _ z=>nomatch z) (fun b o _ hb _ e n=>u.keep b o e n hb (by simp)) (fun b o _ hb _ e n=>u.slot b o e n hb (by simp)) (fun b o _ e n=>u.free b o e n (by simp)) (fun b o _ e=>u.there b o e (by simp)) u.tups u.frzs u.tbls (fun m' hm=>by
  obtain⟨o',es',ep',ho',r'⟩:=hm
  rw [ho] at ho';cases ho'
  exact⟨_,es',ep',hL,r'⟩) hok I.bare
theorem Inv.call {g':Array GenState}{t':Nat}{d':Drawn}{ch:List Addr} (I:Inv X pins σ H s) (u:Un (frs X.stack) ch H H' s.heap h') (hok:HOk X.prog X.w H' h') (hg:AllBare g')
  (hch : ∀ b∈ch,(b∈X.ex\/X.s₀.heap.objs.size<=b)/\b≠X.env.locals/\(∀ x c,X.env.cells.lookup x=some c->c≠b) /\ ∀ p∈X.pn++pins,p.1≠b) :
  Inv X pins σ H' { s with heap:=h',gens:=g',drawn:=d',toks:=t' }:=by
 obtain⟨m,⟨o,es,ep,ho,r⟩,_⟩:=id I.loc
 obtain⟨sl,hL⟩:=u.any ho I.free fun z=>(hch _ z).2.1 rfl
 exact I.step (ch:=ch) hch (fun b o hL hb hc e n=>u.keep b o e n (fun z=>(aX.mp (I.stkSub b z)).elim hL hb) hc) (fun b o _ _ hc e n=>u.any e n hc) (fun b o hc e n=>u.free b o e n hc) (fun b o hc e=>u.there b o e hc) u.tups u.frzs u.tbls (fun m' hm=>by
  obtain⟨o',es',ep',ho',r'⟩:=hm
  rw [ho] at ho';cases ho'
  exact⟨_,es',ep',hL,r'⟩) hok hg
theorem Inv.turned {t':Nat}{it:Addr} (I:Inv X pins σ H s) (k : ∀ b o,b≠it->s.heap.get? b=some o->h'.get? b=some o) (hn:H it=none) (hL:it≠X.env.locals)
  (h1:it∈X.ex\/X.s₀.heap.objs.size<=it) (h2 : ∀ x c,X.env.cells.lookup x=some c->c≠it) (h3 : ∀ p∈X.pn++pins,p.1≠it):Inv X pins σ H { s with heap:=h',toks:=t' }:=by
 have nit : ∀ b u,H b=some u->b≠it:=fun b u e z=>by rw [z,hn] at e;cases e
 refine I.step (g':=s.gens) (d':=s.drawn) (ch := [it]) (fun b hb => ?_) (fun b o _ _ hc e _=>k b o (fun z=>hc (by simp [z])) e) (fun b o _ _ hc e _=>⟨o.slots,k b o (fun z=>hc (by simp [z])) e⟩) (fun _ _ _ _ n=>n)
  (fun b o hc e=>⟨o,k b o (fun z=>hc (by simp [z])) e⟩) (fun _ _ e=>e) (fun _ _ _ e=>e) (fun b ps e=>⟨#[],by rw [e];simp⟩) (fun m hm => ?_) (fun b u e => ?_) I.bare
 ·have e:b=it:=by simpa using hb
  subst e
  exact⟨h1,hL,h2,h3⟩
 ·obtain⟨o,es,ep,ho,r⟩:=hm
  exact⟨o,es,ep,k _ o (eg hL) ho,r⟩
 ·refine (I.hok b u e).stay (fun c v hc q=>k c v ?_ q) (fun _ q=>q) fun _ _ q=>q
  rcases hc with z | z
  ·rw [z];exact nit b u e
  ·exact nit c _ z
theorem Inv.tok (I:Inv X pins σ H s) (t:Nat):Inv X pins σ H { s with toks:=t }:=I.un (h':=s.heap) (t':=t) Un.refl I.hok
theorem Inv.kept {t':Nat} (I:Inv X pins σ H s) (k : ∀ b u,s.heap.get? b=some u->h'.get? b=some u):Inv X pins σ H { s with heap:=h',toks:=t' }:=I.un (Un.kept k) (I.hok.kept k)
theorem Inv.laid {a:Addr}{o:HO}{t':Nat} (I:Inv X pins σ H s) (k : ∀ b u,s.heap.get? b=some u->h'.get? b=some u) (hp:s.heap.objs.size<=a) (new:dW X.prog X.w (upd H a o) h' a o) :
  Inv X pins σ (upd H a o) { s with heap:=h',toks:=t' }:=I.un (Un.laid k hp (I.hok.fresh hp)) (I.hok.laid k hp new)
theorem Inv.write {x e:Addr}{o:HO}{t':Nat} (I:Inv X pins σ H s) (mu:Mut (H x)) (he:e=x\/H e=some (.own x)) (k : ∀ b u,b≠e->s.heap.get? b=some u->h'.get? b=some u) (heo : ∃ u,h'.get? e=some u)
  (new:dW X.prog X.w (upd H x o) h' x o):Inv X pins σ (upd H x o) { s with heap:=h',toks:=t' }:=I.un (Un.write mu he k heo) (I.hok.write mu he k heo new)
theorem Inv.weak {σ':List (Option V)} (I:Inv X pins σ H s) (hl:σ'.length=σ.length) (w : ∀ (i:Nat) v,σ'[i]? = some (some v)->σ[i]? = some (some v)):Inv X pins σ' H s:=
 ⟨I.ok,I.os,I.bare,I.base,let ⟨m,hn,hl'⟩:=I.loc;⟨m,hn,fun i x v e1 e2 e3=>hl' i x v e1 (w i v e2) e3⟩,I.cell,I.free,I.freeC,I.pin,I.hok,hl.trans I.len⟩
theorem Inv.pins_of {pins':List (Addr×Obj)} (I:Inv X pins σ H s) (h : ∀ p∈pins',s.heap.get? p.1=some p.2/\H p.1=none/\p.1≠X.env.locals/\p.1∉X.fs /\ ∀ v,p.2.data ≠ .cell v):Inv X pins' σ H s:=
 ⟨I.ok,I.os,I.bare,I.base,I.loc,I.cell,I.free,I.freeC,fun p hp=>(bh.mp hp).elim (fun z=>I.pin p (aR _ z)) (h p),I.hok,I.len⟩
theorem wb {N:List Str} (hN:N.Nodup) {i j:Nat}{x:Str} (a:N[i]? = some x) (b:N[j]? = some x):i=j:=by
 obtain⟨h1,e1⟩:=ah.mp a
 obtain⟨h2,e2⟩:=ah.mp b
 exact (List.getElem_inj hN).mp (e1.trans e2.symm)
theorem sY {M:Model}{A:Around}{E:Value->Shared->Prop}{i:Nat}{x:Str}{v:V}{u:Value}{Q:Unit->Shared->Prop} (I:Inv X pins σ H s) (hN:X.N.Nodup) (hi:X.N[i]? = some x) (hx:Loc X.env.scope x) (r:RelV v u)
  (h : ∀ s',Inv X pins (σ.set i (some v)) H s'->(∃ a,q9 a s.heap s'.heap/\(a=X.env.locals\/X.env.cells.lookup x=some a))->Q () s') (hf:X.fn x=true\/X.env.scope.names.lookup x=some .local:=by first | exact .inl rfl | exact .inr rfl | assumption):aJ M A (storeName X.env x u) Q E s:=by
 obtain⟨m,hn,hl⟩:=id I.loc
 have hcls:(X.env.scope.kind == .class||(X.env.scope.kind == .module&&X.env.locals != X.env.globals))=false:=by rw [I.ok.kind];rfl
 have hiσ:i < σ.length:=by rw [I.len];exact (ah.mp hi).1
 have cne:=I.cne
 have tracked : ∀ {a:Addr}{h':Heap},(∃ o,s.heap.get? a=some o/\H a=none)->q9 a s.heap h'->HOk X.prog X.w H h':=fun {a h'} ha hs b ob e=>by
  obtain⟨_,_,hfree⟩:=ha
  refine (I.hok b ob e).stay (fun c w' hc q=>(hs.2 c ?_).trans q) (fun _ q=>q) fun _ _ q=>q
  rintro rfl
  rcases hc with rfl | hc
  ·rw [hfree] at e;cases e
  ·rw [hfree] at hc;cases hc
 rcases hx with hk | hk
 ·refine wpAny_storeName_local hk hn (fun h' hn' hs => ?_) hcls
  obtain⟨oL,_,_,hoL,_⟩:=id hn
  refine h _ ⟨I.ok,I.os,I.bare,⟨fun b o e n hb hx => ?_,fun b o e n hb hx => ?_,I.base.free,fun b o e hx => ?_,I.base.tups,I.base.frzs,I.base.tbls⟩,⟨_,hn',fun j y v' e1 e2 e3 => ?_⟩,fun y c e => ?_,I.free,I.freeC,fun p hp => ?_,tracked ⟨oL,hoL,I.free⟩ hs,by simpa using I.len⟩ ⟨_,hs,.inl rfl⟩
  ·exact (hs.2 b (aP (ae (aD e) I.ok.above))).trans (I.base.keep b o e n hb hx)
  ·obtain⟨sl,e1⟩:=I.base.slot b o e n hb hx
   exact⟨sl,(hs.2 b (aP (ae (aD e) I.ok.above))).trans e1⟩
  ·obtain⟨o',e1⟩:=I.base.there b o e hx
   exact⟨o',(hs.2 b (aP (ae (aD e) I.ok.above))).trans e1⟩
  ·by_cases hj:j=i
   ·subst hj
    rw [hi] at e1;cases e1
    rw [aU hiσ] at e2
    cases e2
    exact⟨u,r,.inl ⟨hk,by simp⟩⟩
   ·rw [aF (eg hj)] at e2
    obtain⟨u',r',q⟩:=hl j y v' e1 e2 e3
    refine⟨u',r',?_⟩
    rcases q with⟨k,e⟩ | ⟨k,c,e,z⟩
    ·refine .inl ⟨k,?_⟩
     have:y≠x:=fun e=>hj (wb hN e1 (e▸hi))
     simp [this,e]
    ·exact .inr ⟨k,c,e,z.sameBut hs (cne y c e)⟩
  ·obtain⟨w',z⟩:=I.cell y c e
   exact⟨w',z.sameBut hs (cne y c e)⟩
  ·obtain⟨e,n,ne,nf,d⟩:=I.pin p hp
   exact⟨(hs.2 p.1 ne).trans e,n,ne,nf,d⟩
 ·have hfn:X.fn x=true:=by
   rcases hf with z | z
   ·exact z
   ·rw [z] at hk;cases hk
  obtain⟨c,hc⟩:=I.ok.has x (.inl hk)
  obtain⟨w',z⟩:=I.cell x c hc
  refine wpAny_storeName_cell I.ok.kind hk hc z (fun h' hc' hs => ?_)
  obtain⟨oc,hoc,hocd⟩:=id z
  refine h { s with heap:=h' } ⟨I.ok,I.os,I.bare,⟨fun b o e n hb hx => ?_,fun b o e n hb hx => ?_,I.base.free,fun b o e hx => ?_,I.base.tups,I.base.frzs,I.base.tbls⟩,⟨m,hn.sameBut hs (eg (cne x c hc)),fun j y v' e1 e2 e3 => ?_⟩,fun y c' e => ?_,I.free,I.freeC,fun p hp => ?_,tracked ⟨oc,hoc,I.freeC x c hc⟩ hs,by simpa using I.len⟩ ⟨c,hs,.inr hc⟩
  ·exact (hs.2 b (aP (ae (aD e) (I.ok.cab x c hfn hc)))).trans (I.base.keep b o e n hb hx)
  ·obtain⟨sl,e1⟩:=I.base.slot b o e n hb hx
   exact⟨sl,(hs.2 b (aP (ae (aD e) (I.ok.cab x c hfn hc)))).trans e1⟩
  ·obtain⟨o',e1⟩:=I.base.there b o e hx
   exact⟨o',(hs.2 b (aP (ae (aD e) (I.ok.cab x c hfn hc)))).trans e1⟩
  ·by_cases hj:j=i
   ·subst hj
    rw [hi] at e1;cases e1
    rw [aU hiσ] at e2
    cases e2
    exact⟨u,r,.inr ⟨.inl hk,c,hc,hc'⟩⟩
   ·rw [aF (eg hj)] at e2
    obtain⟨u',r',q⟩:=hl j y v' e1 e2 e3
    refine⟨u',r',?_⟩
    rcases q with q | ⟨k,c',e,z'⟩
    ·exact .inl q
    ·refine .inr ⟨k,c',e,z'.sameBut hs ?_⟩
     rintro rfl
     exact hj (wb hN e1 (I.ok.inj _ _ _ e hc▸hi))
  ·by_cases hcc:c'=c
   ·subst hcc;exact⟨_,hc'⟩
   ·obtain⟨w2,z2⟩:=I.cell y c' e
    exact⟨w2,z2.sameBut hs hcc⟩
  ·obtain⟨e,n,ne,nf,d⟩:=I.pin p hp
   refine⟨(hs.2 p.1 ?_).trans e,n,ne,nf,d⟩
   intro q
   rw [q,hoc] at e
   have q':oc=p.2:=bq e
   exact d w' (by rw [<- q'];exact hocd)
theorem mV {M:Model}{A:Around}{E:Value->Shared->Prop}{i:Nat}{x:Str}{v:V}{u:Value}{Q:Unit->Shared->Prop} (I:Inv X pins σ H s) (hN:X.N.Nodup) (hi:X.N[i]? = some x) (hx:Loc X.env.scope x) (r:RelV v u)
  (h : ∀ s',Inv X pins (σ.set i (some v)) H s'->Q () s') (hf:X.fn x=true\/X.env.scope.names.lookup x=some .local:=by first | exact .inl rfl | exact .inr rfl | assumption):aJ M A (storeName X.env x u) Q E s:=
 sY I hN hi hx r (fun s' I' _=>h s' I') hf
theorem Inv.call' {s':Shared}{ch:List Addr} (I:Inv X pins σ H s) (ho:s'.os=s.os) (u:Un (frs X.stack) ch H H' s.heap s'.heap) (hok:HOk X.prog X.w H' s'.heap) (hg:AllBare s'.gens)
  (hch : ∀ b∈ch,(b∈X.ex\/X.s₀.heap.objs.size<=b)/\b≠X.env.locals/\(∀ x c,X.env.cells.lookup x=some c->c≠b) /\ ∀ p∈X.pn++pins,p.1≠b):Inv X pins σ H' s':=by
 obtain⟨h',g',d',t',o'⟩:=s'
 have e:o'=s.os:=ho
 subst e
 exact I.call (g':=g') (t':=t') (d':=d') u hok hg hch
end
abbrev XK:=Value->Option Addr->Hp->Prop
abbrev St:=List (Option V)
abbrev VK:=V->Hp->Prop
abbrev TE:=St->Hp->VK->Prop
abbrev TT:=St->Hp->(Bool->Hp->Prop)->Prop
abbrev TA:=St->Hp->(List V->Hp->Prop)->Prop
structure Ends where
 nx:St->Hp->Prop
 rt:VK
 bk:St->Hp->Prop:=fun _ _=>False
 ct:St->Hp->Prop:=fun _ _=>False
abbrev TS:=Ends->St->Hp->Prop
noncomputable def EP (X:Cx) (pins:List (Addr×Obj)) (σ:St) (Q:VK) (u:Value) (s':Shared):Prop := ∃ v H',Inv X pins σ H' s'/\RelV v u/\Q v H'
noncomputable def TP (X:Cx) (pins:List (Addr×Obj)) (σ:St) (Q:Bool->Hp->Prop) (b:Bool) (s':Shared):Prop := ∃ H',Inv X pins σ H' s'/\Q b H'
noncomputable def AP (X:Cx) (pins:List (Addr×Obj)) (σ:St) (Q:List V->Hp->Prop) (us:List Value) (s':Shared):Prop := ∃ vs H',Inv X pins σ H' s'/\bK vs us/\Q vs H'
noncomputable def SP (X:Cx) (pins:List (Addr×Obj)) (D:Ends) (f:Flow) (s':Shared):Prop:=
 match f with
 | .next => ∃ σ' H',Inv X pins σ' H' s'/\D.nx σ' H'
 | .brk => ∃ σ' H',Inv X pins σ' H' s'/\D.bk σ' H'
 | .cont => ∃ σ' H',Inv X pins σ' H' s'/\D.ct σ' H'
 | .ret u => ∃ v σ' H',Inv X pins σ' H' s'/\RelV v u/\D.rt v H'
noncomputable def PE (X:Cx) (e:Expr) (t:TE):Prop:=
 ∀ (pins:List (Addr×Obj)) (s:Shared) (σ:St) (H:Hp) (Q:VK),Inv X pins σ H s->t σ H Q->aJ (model X.prog X.w) X.A (eval e X.env) (EP X pins σ Q) X.xe s
noncomputable def PT (X:Cx) (e:Expr) (t:TT):Prop:=
 ∀ (pins:List (Addr×Obj)) (s:Shared) (σ:St) (H:Hp) (Q:Bool->Hp->Prop),Inv X pins σ H s->t σ H Q->aJ (model X.prog X.w) X.A (isTrue e X.env (eval e X.env)) (TP X pins σ Q) X.xe s
noncomputable def PW (X:Cx) (e:Expr) (t:TT):Prop:=
 ∀ (whole:Sem Value) (pins:List (Addr×Obj)) (s:Shared) (σ:St) (H:Hp) (Q:Bool->Hp->Prop),Inv X pins σ H s->t σ H Q->aJ (model X.prog X.w) X.A (isTrue e X.env whole) (TP X pins σ Q) X.xe s
theorem PW.pt {X:Cx}{e:Expr}{t:TT} (h:PW X e t):PT X e t:=h _
noncomputable def PA (X:Cx) (es:List Expr) (t:TA):Prop:=
 ∀ (pos:Pos) (pins:List (Addr×Obj)) (s:Shared) (σ:St) (H:Hp) (Q:List V->Hp->Prop),Inv X pins σ H s->t σ H Q->aJ (model X.prog X.w) X.A (spliced (backTo pos (starEach es X.env))) (AP X pins σ Q) X.xe s
noncomputable def PS (X:Cx) (st:Stmt) (t:TS):Prop:=
 ∀ (pins:List (Addr×Obj)) (s:Shared) (σ:St) (H:Hp) (D:Ends),Inv X pins σ H s->t D σ H->aJ (model X.prog X.w) X.A (exec st X.env) (SP X pins D) X.xe s
noncomputable def PSs (X:Cx) (st:List Stmt) (t:TS):Prop:=
 ∀ (pins:List (Addr×Obj)) (s:Shared) (σ:St) (H:Hp) (D:Ends),Inv X pins σ H s->t D σ H->aJ (model X.prog X.w) X.A (execs st X.env) (SP X pins D) X.xe s
theorem thn {α:Type}{t:Sem α}{Q Q':α->Shared->Prop}{M:Model}{A:Around}{E:Value->Shared->Prop}{s:Shared} (h:aJ M A t Q E s) (hQ : ∀ a s,Q a s->Q' a s):aJ M A t Q' E s:=cN h hQ fun _ _ x=>x
end L2
namespace L2
open PySem PySem.Spec PyProof.Rows
section
variable {X:Cx}
noncomputable def Jf (i:Nat):TE:=fun σ H Q => ∃ v,σ[i]? = some (some v)/\Q v H
noncomputable def tC (v:V):TE:=fun _ H Q=>Q v H
theorem AH {i:Nat}{x:Str}{pos:Pos} (hN:X.N[i]? = some x) (hv:Vis X.env.scope x) (hd:(x == ("__debug__":Str))=false:=by decide) (hcd:(x == ("__classdict__":Str))=false:=by decide):PE X (.Name x pos) (Jf i):=by
 intro pins s σ H Q I h
 obtain⟨v,e,h⟩:=h
 obtain⟨m,hn,hl⟩:=I.loc
 obtain⟨u,r,l⟩:=hl i x v hN e hv
 have fin:EP X pins σ Q u s:=⟨v,H,I,r,h⟩
 rcases l with⟨hk,hm⟩ | ⟨hk,c,hc,hcell⟩
 ·exact wpAny_Name (wpAny_loadName_local I.ok.kind hk hn hm fin) hd
 ·rcases hk with hk | hk
  ·exact wpAny_Name (wpAny_loadName_cell I.ok.kind hk hc hcell fin) hd
  ·exact wpAny_Name (wpAny_loadName_free I.ok.kind hk hc hcell fin hcd) hd
theorem Ci {i j pos}:PE X (.Constant (.int i) j pos) (tC (.int i)):=fun _ _ _ H _ I h=>wpAny_Constant_int ⟨.int i,H,I.tok _,⟨_,rfl⟩,h⟩
theorem J7 {b j pos}:PE X (.Constant (.bool b) j pos) (tC (.bl b)):=fun _ _ _ H _ I h=>Constant_bool ⟨.bl b,H,I,rfl,h⟩
theorem FY {j pos}:PE X (.Constant .none j pos) (tC .non):=fun _ _ _ H _ I h=>Constant_none ⟨.non,H,I,rfl,h⟩
theorem Gw {x j pos}:PE X (.Constant (.str x) j pos) (tC (.str x)):=fun _ _ _ H _ I h=>Calls.Constant_str ⟨.str x,H,I.tok _,⟨_,rfl⟩,h⟩
noncomputable def Gl (X:Cx) (x:Str):Prop:=X.env.kindOf x=some .globalImplicit
theorem pe {E:Value->Shared->Prop}{pins:List (Addr×Obj)}{s:Shared}{σ:St}{H:Hp}{x:Str}{u:Value}{pos:Pos}{Q:Value->Shared->Prop} (I:Inv X pins σ H s) (hg:Gl X x) (hm:X.mg x=some u) (h:Q u s)
  (hd:(x == ("__debug__":Str))=false:=by decide):aJ (model X.prog X.w) X.A (eval (.Name x pos) X.env) Q E s:=
 wx I.ok.kind hg (Calls.loadGlobal_global (by rw [I.ok.glob];exact I.mod.glob.keeps I.bk) hm h) hd
theorem kM {E:Value->Shared->Prop}{pins:List (Addr×Obj)}{s:Shared}{σ:St}{H:Hp}{x:Str}{u:Value}{pos:Pos}{Q:Value->Shared->Prop} (I:Inv X pins σ H s) (hg:Gl X x) (hm:X.mg x=none) (hv:bootBuiltins x=some u) (h:Q u s)
  (hn:x≠"__name__":=by decide) (hd:(x == ("__debug__":Str))=false:=by decide):aJ (model X.prog X.w) X.A (eval (.Name x pos) X.env) Q E s:=by
 obtain⟨mb,h1,h2⟩:=I.mod.blt
 exact wx I.ok.kind hg (Calls.loadGlobal_builtin (by rw [I.ok.glob];exact I.mod.glob.keeps I.bk) hm (by rw [I.ok.blt];exact h1.keeps I.bk) ((h2 x hn).trans hv) h) hd
theorem DT {x:Str}{v:V}{u:Value}{pos:Pos} (hg:Gl X x) (hm:X.mg x=some u) (r:RelV v u) (hd:(x == ("__debug__":Str))=false:=by decide):PE X (.Name x pos) (tC v):=
 fun _ _ _ H _ I h=>pe I hg hm ⟨v,H,I,r,h⟩ hd
theorem DN {x:Str}{v:V}{u:Value}{pos:Pos} (hg:Gl X x) (hm:X.mg x=none) (hv:bootBuiltins x=some u) (r:RelV v u) (hn:x≠"__name__":=by decide) (hd:(x == ("__debug__":Str))=false:=by decide):PE X (.Name x pos) (tC v):=
 fun _ _ _ H _ I h=>kM I hg hm hv ⟨v,H,I,r,h⟩ hn hd
variable {a b:Expr}{ta tb:TE}{pos:Pos}
noncomputable def tB (t:TE):TT:=fun σ H Q=>t σ H fun x H1 => ∃ c,x = .bl c/\Q c H1
theorem GF {e:Expr}{t:TE} (h:PE X e t) (he : ∀ whole,isTrue e X.env whole=(do let v <- whole;standAt e.pos;holding [v] (truthy v)):=by intro _;rfl):PT X e (tB t):=by
 intro pins s σ H Q I hw
 refine isTrue_plain (thn (h pins s σ H _ I hw) fun v s1 ⟨x,H1,I1,r1,q1⟩ => ?_) (he _)
 obtain⟨d,rfl,q⟩:=q1
 cases r1
 exact dm ⟨H1,I1,q⟩
variable {tA tB':TT}{rest:List Expr}
noncomputable def IX (t u:TT):TT:=fun σ H Q=>t σ H fun c H1=>if c=true then u σ H1 Q else Q false H1
noncomputable def tOr (t u:TT):TT:=fun σ H Q=>t σ H fun c H1=>if c=true then Q true H1 else u σ H1 Q
noncomputable def J5 (t:TT):TT:=fun σ H Q=>t σ H fun c H1=>Q (!c) H1
theorem EB (ha:PT X a tA):PW X (.BoolOp .And [a] pos) tA:=by
 intro wh pins s σ H Q I h
 refine isTrue_and (thn (ha pins s σ H Q I h) fun c s1 e => ?_)
 cases c with
 | true=>exact isTrue_and_nil e
 | false=>exact e
theorem HN (ha:PT X a tA):PW X (.BoolOp .Or [a] pos) tA:=by
 intro wh pins s σ H Q I h
 refine isTrue_or (thn (ha pins s σ H Q I h) fun c s1 e => ?_)
 cases c with
 | false=>exact isTrue_or_nil e
 | true=>exact e
theorem Hm (ha:PT X a tA) (hb:PW X (.BoolOp .And (b::rest) pos) tB'):PW X (.BoolOp .And (a::b::rest) pos) (IX tA tB'):=by
 intro wh pins s σ H Q I h
 refine isTrue_and (thn (ha pins s σ H _ I h) fun c s1 ⟨H1,I1,q1⟩ => ?_)
 cases c with
 | true=>exact hb wh pins s1 σ H1 Q I1 q1
 | false=>exact⟨H1,I1,q1⟩
theorem I0 (ha:PT X a tA) (hb:PW X (.BoolOp .Or (b::rest) pos) tB'):PW X (.BoolOp .Or (a::b::rest) pos) (tOr tA tB'):=by
 intro wh pins s σ H Q I h
 refine isTrue_or (thn (ha pins s σ H _ I h) fun c s1 ⟨H1,I1,q1⟩ => ?_)
 cases c with
 | true=>exact⟨H1,I1,q1⟩
 | false=>exact hb wh pins s1 σ H1 Q I1 q1
theorem HP (ha:PT X a tA):PT X (.UnaryOp .Not a pos) (J5 tA):=by
 intro pins s σ H Q I h
 exact isTrue_not (ha pins s σ H (fun c H1=>Q (!c) H1) I h)
noncomputable def FP (ta tb:TE):TE:=fun σ H Q=>ta σ H fun x H1 => ∃ c,x = .bl c/\if c=true then tb σ H1 Q else Q (.bl false) H1
noncomputable def Li (ta tb:TE):TE:=fun σ H Q=>ta σ H fun x H1 => ∃ c,x = .bl c/\if c=true then Q (.bl true) H1 else tb σ H1 Q
noncomputable def FN (ta:TE):TE:=fun σ H Q=>ta σ H fun x H1 => ∃ c,x = .bl c/\Q (.bl (!c)) H1
theorem GK {op}{t:TE} (h:PE X a t):PE X (.BoolOp op [a] pos) t:=fun pins s σ H Q I hw=>BoolOp_one (h pins s σ H Q I hw)
theorem Hd (ha:PE X a ta) (hb:PE X (.BoolOp .And (b::rest) pos) tb):PE X (.BoolOp .And (a::b::rest) pos) (FP ta tb):=by
 intro pins s σ H Q I h
 refine BoolOp_and (thn (ha pins s σ H _ I h) fun v s1 ⟨x,H1,I1,r1,q1⟩ => ?_)
 obtain⟨c,rfl,q1⟩:=q1
 cases r1
 refine dm ?_
 cases c with
 | true=>exact hb pins s1 σ H1 Q I1 q1
 | false=>exact⟨.bl false,H1,I1,rfl,q1⟩
theorem Ki (ha:PE X a ta) (hb:PE X (.BoolOp .Or (b::rest) pos) tb):PE X (.BoolOp .Or (a::b::rest) pos) (Li ta tb):=by
 intro pins s σ H Q I h
 refine BoolOp_or (thn (ha pins s σ H _ I h) fun v s1 ⟨x,H1,I1,r1,q1⟩ => ?_)
 obtain⟨c,rfl,q1⟩:=q1
 cases r1
 refine dm ?_
 cases c with
 | false=>exact hb pins s1 σ H1 Q I1 q1
 | true=>exact⟨.bl true,H1,I1,rfl,q1⟩
theorem Ik (ha:PE X a ta):PE X (.UnaryOp .Not a pos) (FN ta):=by
 intro pins s σ H Q I h
 refine UnaryOp_ (thn (ha pins s σ H _ I h) fun v s1 ⟨x,H1,I1,r1,q1⟩ => ?_)
 obtain⟨c,rfl,q1⟩:=q1
 cases r1
 exact not_of (dm ⟨.bl (!c),H1,I1,rfl,q1⟩)
end
end L2
namespace L2
open PySem PySem.Spec PyProof.Rows
noncomputable def SqL (K:aj) (H:Hp) (a:Addr) (xs:List V):Prop:=
 Rd H a (.lst xs) \/
  ∃ (o:Obj) (its:Array Value) (n:Nat),K.lookup a=some o/\o.cls = .type "list"/\o.dict=none/\o.data = .seq its n/\its.size<=sizeLine/\bK xs its.toList
noncomputable def SqT (K:aj) (H:Hp) (a:Addr) (xs:List V):Prop:=
 Rd H a (.tup xs) \/
  ∃ (o:Obj) (its:Array Value) (n:Nat),K.lookup a=some o/\o.cls = .type "tuple"/\o.data = .seq its n/\its.size<=sizeLine/\bK xs its.toList
noncomputable def Ln:Value->Option V
 | .none=>some .non
 | .bool b=>some (.bl b)
 | .int i _=>some (.int i)
 | .str x _=>some (.str x)
 | .bytes b _=>some (.byt b)
 | .float b _=>some (.flt b)
 | .ref a=>some (.ref a)
 | .type n=>some (.ty n)
 | _=>none
theorem RelV.abs {x:V}{u:Value} (r:RelV x u):Ln u=some x:=by
 cases x with
 | non=>cases r;rfl
 | bl _=>cases r;rfl
 | int _=>obtain⟨t,rfl⟩:=r;rfl
 | str _=>obtain⟨t,rfl⟩:=r;rfl
 | byt _=>obtain⟨t,rfl⟩:=r;rfl
 | flt _=>obtain⟨t,rfl⟩:=r;rfl
 | ref _=>cases r;rfl
 | ty _=>cases r;rfl
theorem RelV.inj {x y:V}{u:Value} (r:RelV x u) (q:RelV y u):x=y:=bq (r.abs.symm.trans q.abs)
theorem bK.inj : ∀ {xs ys:List V}{us:List Value},bK xs us->bK ys us->xs=ys
 | _,_,_,.nil,.nil=>rfl
 | _,_,_,.cons r t,.cons r' t'=>by rw [r.inj r',bK.inj t t']
section
variable {X:Cx}{pins:List (Addr×Obj)}{σ:St}{H:Hp}{s:Shared}{a:Addr}{xs ys:List V}
theorem SqL.of {K:aj} (h:H a=some (.lst xs)):SqL K H a xs := .inl (.inl h)
theorem Inv.list (I:Inv X pins σ H s) (h:SqL X.K H a xs) : ∃ its:List Value,bK xs its/\PlainL s.heap a its.toArray/\xs.length<=sizeLine:=by
 rcases h with h | ⟨o,its,n,hk,hc,hd,hs,hz,r⟩
 ·obtain⟨z,its,n,r,e⟩:=h.ok I.hok
  exact⟨its,r,⟨_,n,e,rfl,rfl,rfl⟩,z⟩
 ·refine⟨its.toList,r,⟨o,n,I.kIn a o hk,hc,hd,by simpa using hs⟩,?_⟩
  have e:=r.length
  simp only [di] at e
  omega
theorem Inv.tuple (I:Inv X pins σ H s) (h:SqT X.K H a xs) : ∃ its:List Value,bK xs its/\IsTup s.heap a its.toArray/\xs.length<=sizeLine:=by
 rcases h with h | ⟨o,its,n,hk,hc,hs,hz,r⟩
 ·obtain⟨z,its,r,p⟩:=h.ok I.hok
  exact⟨its,r,p.1,z⟩
 ·refine⟨its.toList,r,⟨o,I.kIn a o hk,hc,n,by simpa using hs⟩,?_⟩
  have e:=r.length
  simp only [di] at e
  omega
theorem Inv.list_inj (I:Inv X pins σ H s) (h:SqL X.K H a xs) (h':SqL X.K H a ys):xs=ys:=by
 obtain⟨its,r,⟨o,n,e,_,_,d⟩,_⟩:=I.list h
 obtain⟨its',r',⟨o',n',e',_,_,d'⟩,_⟩:=I.list h'
 rw [e] at e';cases e'
 rw [d] at d'
 injection d' with d1 _
 have:its=its':=by simpa using congrArg Array.toList d1
 subst this
 exact r.inj r'
theorem Inv.tuple_inj (I:Inv X pins σ H s) (h:SqT X.K H a xs) (h':SqT X.K H a ys):xs=ys:=by
 obtain⟨its,r,⟨o,e,_,n,d⟩,_⟩:=I.tuple h
 obtain⟨its',r',⟨o',e',_,n',d'⟩,_⟩:=I.tuple h'
 rw [e] at e';cases e'
 rw [d] at d'
 injection d' with d1 _
 have:its=its':=by simpa using congrArg Array.toList d1
 subst this
 exact r.inj r'
end
abbrev Cx.wish (X:Cx) (E:Value->Shared->Prop):Cx:={ X with xe:=E }
abbrev Cx.nox (X:Cx):Cx:=X.wish fun _ _=>False
theorem Cx.Ok.wish {X:Cx} (ok:X.Ok) (E:Value->Shared->Prop):(X.wish E).Ok:=
 ⟨ok.mod,ok.kind,ok.glob,ok.blt,ok.above,ok.inj,ok.has,ok.cab,ok.hd,ok.frames,ok.stk,ok.exf,ok.bs,ok.bsz,ok.noex,ok.exfs,ok.funs,ok.frf⟩
theorem Cx.Ok.unwish {X:Cx}{E:Value->Shared->Prop} (ok:(X.wish E).Ok):X.Ok:=
 ⟨ok.mod,ok.kind,ok.glob,ok.blt,ok.above,ok.inj,ok.has,ok.cab,ok.hd,ok.frames,ok.stk,ok.exf,ok.bs,ok.bsz,ok.noex,ok.exfs,ok.funs,ok.frf⟩
section
variable {X:Cx}{pins:List (Addr×Obj)}{σ:St}{H:Hp}{s:Shared}{E:Value->Shared->Prop}
theorem Inv.wish (I:Inv X pins σ H s) (E:Value->Shared->Prop):Inv (X.wish E) pins σ H s:=⟨I.ok.wish E,I.os,I.bare,I.base,I.loc,I.cell,I.free,I.freeC,I.pin,I.hok,I.len⟩
theorem Inv.unwish (I:Inv (X.wish E) pins σ H s):Inv X pins σ H s:=⟨I.ok.unwish,I.os,I.bare,I.base,I.loc,I.cell,I.free,I.freeC,I.pin,I.hok,I.len⟩
theorem SP.unwish {D:Ends}{f:Flow}{s':Shared} (h:SP (X.wish E) pins D f s'):SP X pins D f s':=by
 cases f with
 | next=>obtain⟨σ',H',I,q⟩:=h;exact⟨σ',H',I.unwish,q⟩
 | brk=>obtain⟨σ',H',I,q⟩:=h;exact⟨σ',H',I.unwish,q⟩
 | cont=>obtain⟨σ',H',I,q⟩:=h;exact⟨σ',H',I.unwish,q⟩
 | ret u=>obtain⟨v,σ',H',I,r,q⟩:=h;exact⟨v,σ',H',I.unwish,r,q⟩
theorem PSs.nox {st:List Stmt}{t:TS} (h:PSs X.nox st t):PSs X st t:=fun pins s σ H D I hw=>
 cN (h pins s σ H D (I.wish _) hw) (fun _ _ q=>q.unwish) fun _ _ z=>cD z
end
section
variable {X:Cx}{st:Stmt}{rest:List Stmt}{t u:TS}{e:Expr}{te:TE}{pos:Pos}
noncomputable def A7:TS:=fun D σ H=>D.nx σ H
noncomputable def JJ (t u:TS):TS:=fun D σ H=>t { D with nx:=u D } σ H
theorem Ey:PSs X [] A7:=fun _ _ σ H _ I h=>oQ ⟨σ,H,I,h⟩
theorem AQ (h1:PS X st t) (h2:PSs X rest u):PSs X (st::rest) (JJ t u):=by
 intro pins s σ H D I h
 refine wpAny_execs_cons (thn (h1 pins s σ H { D with nx:=u D } I h) fun f s1 q => ?_)
 cases f with
 | next=>
   obtain⟨σ',H',I',q⟩:=q
   exact h2 pins s1 σ' H' D I' q
 | ret v=>exact q
 | brk=>exact q
 | cont=>exact q
theorem Fe (h1:PS X st t):PSs X [st] t:=by
 intro pins s σ H D I h
 refine wpAny_execs_cons (thn (h1 pins s σ H D I h) fun f s1 q => ?_)
 cases f with
 | next=>exact oQ q
 | ret v=>exact q
 | brk=>exact q
 | cont=>exact q
noncomputable def GH:TS:=fun D σ H=>D.bk σ H
noncomputable def J2:TS:=fun D σ H=>D.ct σ H
theorem E2:PS X (.Pass pos) A7:=fun _ _ σ H _ I h=>wpAny_Pass ⟨σ,H,I,h⟩
theorem Bf:PS X (.Break pos) GH:=fun _ _ σ H _ I h=>wpAny_Break ⟨σ,H,I,h⟩
theorem wa:PS X (.Continue pos) J2:=fun _ _ σ H _ I h=>wpAny_Continue ⟨σ,H,I,h⟩
theorem Inv.quiet {pins:List (Addr×Obj)}{σ:St}{H:Hp}{s:Shared} (I:Inv X pins σ H s):interactive X.env=false:=by simp [interactive,I.ok.kind]
noncomputable def Fg (te:TE):TS:=fun D σ H=>te σ H fun _ H1=>D.nx σ H1
theorem Eh (he:PE X e te) (hs:swapsWith e none pos.line X.env=pure false:=by rfl):PS X (.Expr e pos) (Fg te):=by
 intro pins s σ H D I h
 exact wpAny_Expr_any (thn (he pins s σ H _ I h) fun v s1 ⟨x,H1,I1,r1,q1⟩=>⟨σ,H1,I1,q1⟩) I.quiet hs
noncomputable def IP (te:TE):TS:=fun D σ H=>te σ H D.rt
theorem IB (he:PE X e te):PS X (.Return (some e) pos) (IP te):=by
 intro pins s σ H D I h
 exact wpAny_Return_some (thn (he pins s σ H _ I h) fun v s1 ⟨x,H1,I1,r1,q1⟩=>⟨x,σ,H1,I1,r1,q1⟩)
noncomputable def IH:TS:=fun D _ H=>D.rt .non H
theorem EN:PS X (.Return none pos) IH:=fun _ _ σ H _ I h=>wpAny_Return_none ⟨.non,σ,H,I,rfl,h⟩
noncomputable def KY (c:TT) (t u:TS):TS:=fun D σ H=>c σ H fun b H1=>if b=true then t D σ H1 else u D σ H1
theorem KA {c:Expr}{a b:List Stmt}{tc:TT} (hc:PT X c tc) (ha:PSs X a t) (hb:PSs X b u):PS X (.If c a b pos) (KY tc t u):=by
 intro pins s σ H D I h
 refine wpAny_If (thn (hc pins s σ H _ I h) fun d s1 ⟨H1,I1,q1⟩ => ?_)
 cases d with
 | true=>exact ha pins s1 σ H1 D I1 q1
 | false=>exact hb pins s1 σ H1 D I1 q1
end
abbrev TG:=V->St->Hp->(St->Hp->Prop)->Prop
abbrev TGs:=List V->St->Hp->(St->Hp->Prop)->Prop
noncomputable def PG (X:Cx) (target:Expr) (t:TG):Prop:=
 ∀ (pins:List (Addr×Obj)) (s:Shared) (σ:St) (H:Hp) (v:V) (u:Value) (Q:St->Hp->Prop),Inv X pins σ H s->RelV v u->t v σ H Q ->
  aJ (model X.prog X.w) X.A (assign target X.env u) (fun _ s' => ∃ σ' H',Inv X pins σ' H' s'/\Q σ' H') X.xe s
noncomputable def PGs (X:Cx) (ts:List Expr) (t:TGs):Prop:=
 ∀ (pins:List (Addr×Obj)) (s:Shared) (σ:St) (H:Hp) (vs:List V) (us:List Value) (Q:St->Hp->Prop),Inv X pins σ H s->bK vs us->t vs σ H Q ->
  aJ (model X.prog X.w) X.A (assignInOrder ((assignEach ts X.env).map (·.2)) us) (fun _ s' => ∃ σ' H',Inv X pins σ' H' s'/\Q σ' H') X.xe s
abbrev AJ:=V->V->V->Hp->(Hp->Prop)->Prop
noncomputable def GQ (X:Cx) (t:AJ):Prop:=
 ∀ (pins:List (Addr×Obj)) (s:Shared) (σ:St) (H:Hp) (o i v:V) (ov iv u:Value) (Q:Hp->Prop),Inv X pins σ H s->RelV o ov->RelV i iv->RelV v u->t o i v H Q ->
  aJ (model X.prog X.w) X.A (setItem ov iv u) (fun _ s' => ∃ H',Inv X pins σ H' s'/\Q H') X.xe s
section
variable {X:Cx}{pos:Pos}
noncomputable def iB (i:Nat):TG:=fun v σ H Q=>Q (σ.set i (some v)) H
theorem yE {i:Nat}{x:Str} (hN:X.N.Nodup) (hi:X.N[i]? = some x) (hx:Loc X.env.scope x) (hf:X.fn x=true\/X.env.scope.names.lookup x=some .local:=by first | exact .inl rfl | exact .inr rfl | assumption):PG X (.Name x pos) (iB i):=by
 intro pins s σ H v u Q I r h
 exact lX (mV I hN hi hx r (fun s' I'=>⟨_,H,I',h⟩) hf)
noncomputable def Lf:TGs:=fun vs σ H Q=>vs = []/\Q σ H
noncomputable def Fz (t:TG) (u:TGs):TGs:=fun vs σ H Q => ∃ v r,vs=v::r/\t v σ H fun σ' H'=>u r σ' H' Q
theorem ED:PGs X [] Lf:=by
 intro pins s σ H vs us Q I r h
 obtain⟨e,h⟩:=h
 subst e
 cases r
 exact assignInOrder_nil ⟨σ,H,I,h⟩
theorem As {e:Expr}{es:List Expr}{t:TG}{u:TGs} (h1:PG X e t) (h2:PGs X es u)
  (hs:(assignEach (e::es) X.env).map (·.2)=assign e X.env::(assignEach es X.env).map (·.2):=by rfl):PGs X (e::es) (Fz t u):=by
 intro pins s σ H vs us Q I r h
 obtain⟨v,vr,e1,h⟩:=h
 subst e1
 cases r with
 | cons r rr=>
   rw [hs]
   refine assignInOrder_cons (thn (h1 pins s σ H _ _ _ I r h) fun _ s1 ⟨σ1,H1,I1,q1⟩ => ?_)
   exact h2 pins s1 σ1 H1 _ _ Q I1 rr q1
noncomputable def Jn (K:aj) (n:Nat) (t:TGs):TG:=fun v σ H Q => ∃ a xs,v = .ref a/\SqT K H a xs/\xs.length=n/\t xs σ H Q
theorem HA {es:List Expr}{k:Nat}{t:TGs}{n:Nat} (hc:X.calm=true) (h:PGs X es t)
  (hn:(assignEach es X.env).length=n:=by rfl) (hst:(assignEach es X.env).findIdx? (·.1)=none:=by rfl):PG X (.Tuple es k pos) (Jn X.K n t):=by
 intro pins s σ H v u Q I r hw
 obtain⟨a,xs,e1,hq,hl,hw⟩:=hw
 subst e1
 cases r
 obtain⟨its,rv,ht,hz⟩:=I.tuple hq
 refine assign_Tuple_tuple (I.ok.hd hc) ht (by simp [hn,<- hl,rv.length]) hst fun h' hx => ?_
 have I1:Inv X pins σ H { s with heap:=h' }:=I.kept (t':=s.toks) fun b o e=>hx b o (aP (aD e)) e
 exact h pins _ σ H xs _ Q I1 (by simpa using rv) hw
noncomputable def Ig (to ti:TE) (t:AJ):TG:=fun v σ H Q=>to σ H fun o H1=>ti σ H1 fun i H2=>t o i v H2 fun H3=>Q σ H3
theorem Ic {o i:Expr}{to ti:TE}{t:AJ} (ho:PE X o to) (hi:PE X i ti) (hs:GQ X t)
  (ha : ∀ v,assign (.Subscript o i pos) X.env v=(do
   let ov <- holding [v] (eval o X.env)
   let iv <- holding [v,ov] (eval i X.env)
   standAt pos
   holding [v,ov,iv] (setItem ov iv v)
   release [v,ov,iv] []):=by intro _;rfl):PG X (.Subscript o i pos) (Ig to ti t):=by
 intro pins s σ H v u Q I r h
 rw [ha]
 refine ag (eM (thn (ho pins s σ H _ I h) fun ov s1 ⟨x,H1,I1,r1,q1⟩ => ?_))
 refine ag (eM (thn (hi pins s1 σ H1 _ I1 q1) fun iv s2 ⟨y,H2,I2,r2,q2⟩ => ?_))
 refine ag (wpAny_standAt (ag (eM (thn (hs pins s2 σ H2 x y v ov iv u _ I2 r1 r2 r q2) fun _ s3 ⟨H3,I3,q3⟩ => ?_))))
 exact wpAny_release ⟨σ,H3,I3,q3⟩
noncomputable def zX (te:TE) (g:TG):TS:=fun D σ H=>te σ H fun x H1=>g x σ H1 D.nx
theorem BD {tg e:Expr}{te:TE}{g:TG} (he:PE X e te) (hg:PG X tg g) (hs:swapsWithSole [tg] e pos.line X.env=pure false:=by rfl) (hw:swappedStores [tg] e X.env=pure none:=by rfl)
  (h1:(assignEach [tg] X.env).map (·.2) = [assign tg X.env]:=by rfl):PS X (.Assign [tg] e pos) (zX te g):=by
 intro pins s σ H D I h
 refine wpAny_Assign_stores (thn (he pins s σ H _ I h) fun v s1 ⟨x,H1,I1,r1,q1⟩ => ?_) hs hw
 rw [h1]
 exact thn (hg pins s1 σ H1 x v _ I1 r1 q1) fun _ s2 q=>q
theorem Hx {i:Nat}{x:Str}{e:Expr}{te:TE}{pos':Pos} (hN:X.N.Nodup) (hi:X.N[i]? = some x) (hx:Loc X.env.scope x) (he:PE X e te) (hs:swapsWith e (some (.Name x pos')) pos.line X.env=pure false:=by rfl) (hf:X.fn x=true\/X.env.scope.names.lookup x=some .local:=by first | exact .inl rfl | exact .inr rfl | assumption) :
  PS X (.Assign [.Name x pos'] e pos) (zX te (iB i)):=by
 intro pins s σ H D I h
 refine wpAny_Assign_Name (thn (he pins s σ H _ I h) fun v s1 ⟨y,H1,I1,r1,q1⟩ => ?_) hs
 exact mV I1 hN hi hx r1 (fun s2 I2=>⟨_,H1,I2,q1⟩) hf
end
section
variable {X:Cx}{pos:Pos}
noncomputable def A0 (c:TT) (tb:TS):TS:=fun D σ H => ∃ W:Nat->St->Hp->Prop,(∃ m,W m σ H) /\ ∀ m σ H,W m σ H ->
 c σ H fun b H1=>if b=true then ∃ N:St->Hp->Prop,(∀ σ' H',N σ' H' -> ∃ m',m' < m/\W m' σ' H')/\tb { D with nx:=N,ct:=N,bk:=D.nx } σ H1 else D.nx σ H1
theorem AS {c:Expr}{body:List Stmt}{tc:TT}{tb:TS} (hp:PassesOwn (model X.prog X.w) X.A X.env X.xe) (hc:PT X c tc) (hb:PSs X body tb):PS X (.While c body [] pos) (A0 tc tb):=by
 intro pins s σ H D I h
 obtain⟨W,⟨m0,w0⟩,turn⟩:=h
 refine wpAny_While (codeAny_whileLoop (fun n s' => ∃ σ' H',Inv X pins σ' H' s'/\W n σ' H') ?_ m0 ⟨σ,H,I,w0⟩)
 rintro n s1 ⟨σ1,H1,I1,w1⟩
 refine fK hp (thn (hc pins s1 σ1 H1 _ I1 (turn n σ1 H1 w1)) fun b s2 ⟨H2,I2,q2⟩ => ?_)
 cases b with
 | true=>
   obtain⟨N,hN,q2⟩:=q2
   rw [if_pos rfl]
   refine fK hp (thn (hb pins s2 σ1 H2 _ I2 q2) fun f s3 q3 => ?_)
   cases f with
   | next=>
     obtain⟨σ3,H3,I3,n3⟩:=q3
     obtain⟨m',hm,w3⟩:=hN σ3 H3 n3
     exact⟨m',hm,σ3,H3,I3,w3⟩
   | cont=>
     obtain⟨σ3,H3,I3,n3⟩:=q3
     obtain⟨m',hm,w3⟩:=hN σ3 H3 n3
     exact⟨m',hm,σ3,H3,I3,w3⟩
   | brk=>exact q3
   | ret v=>exact q3
 | false=>
   rw [if_neg bJ]
   exact oQ ⟨σ1,H2,I2,q2⟩
end
structure It where
 go:Nat->Hp->Prop
 yld:Nat->Hp->V->Hp->Prop
 stop:Nat->Hp->Prop
noncomputable def tU (X:Cx) (pins:List (Addr×Obj)) (H:Hp) (b:Addr):Prop:=
 H b=none/\b≠X.env.locals/\b∉X.fs/\(b∈X.ex\/X.s₀.heap.objs.size<=b)/\(∀ x c,X.env.cells.lookup x=some c->c≠b) /\ ∀ p∈X.pn++pins,p.1≠b
theorem Inv.fpOk {X:Cx}{pins:List (Addr×Obj)}{σ:St}{H H':Hp}{s:Shared}{b:Addr} (I:Inv X pins σ H s) (hb:s.heap.objs.size<=b) (hn:H' b=none):tU X pins H' b:=by
 refine⟨hn,cZ (ae I.lt hb),I.nofs hb,.inr (bg I.sz hb),fun x c e z => ?_,fun p hp z => ?_⟩
 ·obtain⟨v,q⟩:=I.cell x c e
  exact absurd (ae q.lt (by rw [z];exact hb)) (bQ _)
 ·exact absurd (ae (aD (I.pin p hp).1) (by rw [z];exact hb)) (bQ _)
structure Turn (P:Program) (w:World) (K:aj) (tg:Expr) (J:It) (fp:List Addr) (it:Addr) (tn:Nat->Heap->Prop):Prop where
 mem:it∈fp
 obj : ∀ i h,tn i h -> ∀ b∈fp,∃ o,h.get? b=some o /\ ∀ v,o.data ≠ .cell v
 keep : ∀ i h h',tn i h->(∀ b∈fp,∀ o,h.get? b=some o->h'.get? b=some o)->tn i h'
 item : ∀ (X:Cx),X.prog=P->X.w=w->X.K=K->X.calm=true -> ∀ (i:Nat) (pins:List (Addr×Obj)) (s:Shared) (σ:St) (H:Hp) (E:Value->Shared->Prop),Inv X pins σ H s->(∀ b∈fp,tU X pins H b)->tn i s.heap->J.go i H ->
  aJ (model P w) X.A (pyNext (.ref it)) (fun r s1 => ∃ u,r=some u /\
   aJ (model P w) X.A (letOwnedTupleGo tg (.ref it) u) (fun _ s2 => ∃ x H',Inv X pins σ H' s2/\RelV x u/\J.yld i H x H'/\tn (i+1) s2.heap /\ ∀ b∈fp,H' b=none) E s1) E s
 done : ∀ (X:Cx),X.prog=P->X.w=w->X.K=K->X.calm=true -> ∀ (i:Nat) (pins:List (Addr×Obj)) (s:Shared) (σ:St) (H:Hp) (E:Value->Shared->Prop),Inv X pins σ H s->(∀ b∈fp,tU X pins H b)->tn i s.heap->J.stop i H ->
  aJ (model P w) X.A (pyNext (.ref it)) (fun r s1=>r=none/\Inv X pins σ H s1) E s
 self : ∀ (A:Around) (i:Nat) (s:Shared) (Q:Value->Shared->Prop) (E:Value->Shared->Prop),tn i s.heap->Q (.ref it) s->aJ (model P w) A (pyIter (.ref it)) Q E s
abbrev TI:=St->Hp->(It->Hp->Prop)->Prop
noncomputable def PIE (X:Cx) (pins:List (Addr×Obj)) (σ:St) (tg:Expr) (R:It->Hp->Prop) (itv:Value) (s2:Shared):Prop:=
 ∃ (it:Addr) (fp:List Addr) (tn:Nat->Heap->Prop) (J:It) (H':Hp),itv = .ref it/\Inv X pins σ H' s2/\Turn X.prog X.w X.K tg J fp it tn/\tn 0 s2.heap/\(∀ b∈fp,tU X pins H' b)/\R J H'
noncomputable def PI (X:Cx) (tg iter:Expr) (wi:TI):Prop:=
 ∀ (pins:List (Addr×Obj)) (s:Shared) (σ:St) (H:Hp) (R:It->Hp->Prop),Inv X pins σ H s->wi σ H R ->
  aJ (model X.prog X.w) X.A (eval iter X.env) (fun v s1=>aJ (model X.prog X.w) X.A (pyIter v) (PIE X pins σ tg R) X.xe s1) X.xe s
theorem yh {M:Model}{A:Around}{E:Value->Shared->Prop}{s:Shared}{tg:Expr}{it:Addr}{u:Value}{o:Obj}{n:String}{vs:Array Value}{Q:Unit->Shared->Prop} (ho:s.heap.get? it=some o) (hc:o.cls = .type n) (hd:o.data = .fields vs)
  (hn : ["enumerate","zip","dict_itemiterator","dict_reverseitemiterator","odict_iterator","itertools.zip_longest","itertools.pairwise"].contains n=false) (hQ:Q () s):aJ M A (letOwnedTupleGo tg (.ref it) u) Q E s:=by
 unfold letOwnedTupleGo
 cases tg <;> first
  | exact ax hQ
  | (cases u <;> first
    | exact ax hQ
    | (refine ag (CH ho ?_)
       rw [hc,hd]
       show aJ M A (if (["enumerate","zip","dict_itemiterator","dict_reverseitemiterator","odict_iterator","itertools.zip_longest","itertools.pairwise"].contains n&&vs[0]? == some (rawInt _))=true then _ else _) Q E s
       rw [if_neg (by intro h;rw [hn,Bool.false_and] at h;cases h)]
       exact ax hQ))
noncomputable def Itl (K:aj) (a:Addr):It:=
 ⟨fun i H => ∃ xs x,SqL K H a xs/\xs[i]? = some x,fun i H x H'=>H'=H /\ ∀ xs,SqL K H a xs->xs[i]? = some x,fun i H => ∃ xs,SqL K H a xs/\xs.length<=i⟩
noncomputable def Itt (K:aj) (a:Addr):It:=
 ⟨fun i H => ∃ xs x,SqT K H a xs/\xs[i]? = some x,fun i H x H'=>H'=H /\ ∀ xs,SqT K H a xs->xs[i]? = some x,fun i H => ∃ xs,SqT K H a xs/\xs.length<=i⟩
noncomputable def Itr (lo:Int) (n:Nat):It:=⟨fun i _=>i < n,fun i H x H'=>H'=H/\x = .int (lo+i),fun i _=>n<=i⟩
theorem za {P:Program}{w:World}{K:aj}{tg:Expr} (a it:Addr):Turn P w K tg (Itl K a) [it] it (fun i h=>h.IsListIter it a i) where
 mem:=by simp
 obj:=fun i h st b hb=>by
  have e:b=it:=by simpa using hb
  subst e
  obtain⟨o,e,c,d⟩:=st
  exact⟨o,e,fun v z=>by rw [d] at z;cases z⟩
 keep:=fun i h h' st k=>st.at fun o e=>k it (by simp) o e
 item:=by
  intro X hP hw hK hc i pins s σ H E I hf st hg
  subst hP hw hK
  obtain⟨xs,x,hq,hx⟩:=hg
  obtain⟨its,rv,p,hz⟩:=I.list hq
  obtain⟨u,hu,ru⟩:=rv.get hx
  obtain⟨f0,f1,f2,f3,f4,f5⟩:=hf it (by simp)
  refine wpAny_pyNext_list_item st p.isList (x:=u) (by simpa using hu) fun h' st' sb => ?_
  have I1:Inv X pins σ H { s with heap:=h' }:=I.turned (t':=s.toks) (fun b o hb e=>(sb.2 b hb).trans e) f0 f1 f3 f4 f5
  obtain⟨o,e,c,d⟩:=id st'
  exact⟨u,rfl,yh (s:={ s with heap:=h' }) e c d (by decide) ⟨x,H,I1,ru,⟨rfl,fun ys hy=>by rw [I.list_inj hy hq];exact hx⟩,st',fun b hb=>(hf b hb).1⟩⟩
 done:=by
  intro X hP hw hK hc i pins s σ H E I hf st hg
  subst hP hw hK
  obtain⟨xs,hq,hx⟩:=hg
  obtain⟨its,rv,p,hz⟩:=I.list hq
  obtain⟨f0,f1,f2,f3,f4,f5⟩:=hf it (by simp)
  have hl:=rv.length
  exact wpAny_pyNext_list_end (I.ok.hd hc) st p.isList (by simp;omega) fun h' eb=>⟨rfl,I.turned (t':=s.toks) (fun b o hb e=>eb b o hb e) f0 f1 f3 f4 f5⟩
 self:=fun _ _ _ _ _ st h=>wpAny_pyIter_listiter st h
theorem xH {P:Program}{w:World}{K:aj}{tg:Expr} (a it:Addr):Turn P w K tg (Itt K a) [it] it (fun i h=>h.IsTupleIter it a i) where
 mem:=by simp
 obj:=fun i h st b hb=>by
  have e:b=it:=by simpa using hb
  subst e
  obtain⟨o,e,c,d⟩:=st
  exact⟨o,e,fun v z=>by rw [d] at z;cases z⟩
 keep:=fun i h h' st k=>st.at fun o e=>k it (by simp) o e
 item:=by
  intro X hP hw hK hc i pins s σ H E I hf st hg
  subst hP hw hK
  obtain⟨xs,x,hq,hx⟩:=hg
  obtain⟨its,rv,p,hz⟩:=I.tuple hq
  obtain⟨u,hu,ru⟩:=rv.get hx
  obtain⟨f0,f1,f2,f3,f4,f5⟩:=hf it (by simp)
  refine wpAny_pyNext_tuple_item st (show s.heap.IsTuple a its.toArray from p) (x:=u) (by simpa using hu) fun h' st' sb => ?_
  have I1:Inv X pins σ H { s with heap:=h' }:=I.turned (t':=s.toks) (fun b o hb e=>(sb.2 b hb).trans e) f0 f1 f3 f4 f5
  obtain⟨o,e,c,d⟩:=id st'
  exact⟨u,rfl,yh (s:={ s with heap:=h' }) e c d (by decide) ⟨x,H,I1,ru,⟨rfl,fun ys hy=>by rw [I.tuple_inj hy hq];exact hx⟩,st',fun b hb=>(hf b hb).1⟩⟩
 done:=by
  intro X hP hw hK hc i pins s σ H E I hf st hg
  subst hP hw hK
  obtain⟨xs,hq,hx⟩:=hg
  obtain⟨its,rv,p,hz⟩:=I.tuple hq
  obtain⟨f0,f1,f2,f3,f4,f5⟩:=hf it (by simp)
  have hl:=rv.length
  exact wpAny_pyNext_tuple_end (I.ok.hd hc) st (show s.heap.IsTuple a its.toArray from p) (by simp;omega) fun h' eb=>⟨rfl,I.turned (t':=s.toks) (fun b o hb e=>eb b o hb e) f0 f1 f3 f4 f5⟩
 self:=fun _ _ _ _ _ st h=>wpAny_pyIter_tupleiter st h
theorem xx {P:Program}{w:World}{K:aj}{tg:Expr} (it:Addr) (lo:Int) (n:Nat):Turn P w K tg (Itr lo n) [it] it (fun i h=>IsRangeIter h it (lo+(i:Nat)*1) ((n:Int) - (i:Nat)) 1) where
 mem:=by simp
 obj:=fun i h st b hb=>by
  have e:b=it:=by simpa using hb
  subst e
  exact⟨_,st,fun v z=>by
   have z':Data.fields _=Data.cell v:=z
   cases z'⟩
 keep:=fun i h h' st k=>k it (by simp) _ st
 item:=by
  intro X hP hw hK hc i pins s σ H E I hf st hg
  subst hP hw hK
  obtain⟨f0,f1,f2,f3,f4,f5⟩:=hf it (by simp)
  have W:=Walks.range (prog:=X.prog) (w:=X.w) (I.ok.hd hc) it lo 1 n
  refine W.item i s _ _ hg st fun v h' tk hv st' kk => ?_
  obtain⟨t,rfl⟩:=hv
  have I1:Inv X pins σ H { s with heap:=h',toks:=tk }:=I.turned (fun b o hb e=>kk b o (by simpa using hb) e) f0 f1 f3 f4 f5
  refine⟨_,rfl,yh (s:={ s with heap:=h',toks:=tk }) (n:="range_iterator") st' rfl rfl (by decide) ⟨.int (lo+i),H,I1,⟨t,?_⟩,⟨rfl,rfl⟩,st',fun b hb=>(hf b hb).1⟩⟩
  rw [Int.mul_one]
 done:=by
  intro X hP hw hK hc i pins s σ H E I hf st hg
  subst hP hw hK
  obtain⟨f0,f1,f2,f3,f4,f5⟩:=hf it (by simp)
  exact wpAny_pyNext_range_end (I.ok.hd hc) st (by have:n<=i:=hg;omega) fun h' eb=>⟨rfl,I.turned (t':=s.toks) (fun b o hb e=>eb b o hb e) f0 f1 f3 f4 f5⟩
 self:=fun _ _ _ _ _ st h=>wpAny_pyIter_rangeiter st h
end L2
namespace L2
open PySem PySem.Spec PyProof.Rows
section
variable {X:Cx}{tg:Expr}
noncomputable def sJ (K:aj) (tl:TE):TI:=fun σ H R=>tl σ H fun x H1 => ∃ a,x = .ref a/\(∃ xs,SqL K H1 a xs)/\R (Itl K a) H1
noncomputable def zH (K:aj) (tl:TE):TI:=fun σ H R=>tl σ H fun x H1 => ∃ a,x = .ref a/\(∃ xs,SqT K H1 a xs)/\R (Itt K a) H1
theorem DH {l:Expr}{tl:TE} (hl:PE X l tl):PI X tg l (sJ X.K tl):=by
 intro pins s σ H R I h
 refine thn (hl pins s σ H _ I h) fun v s1 ⟨x,H1,I1,r1,q1⟩ => ?_
 obtain⟨a,e,⟨xs,hq⟩,q⟩:=q1
 subst e
 cases r1
 obtain⟨its,rv,p,hz⟩:=I1.list hq
 refine wpAny_pyIter_list p.isList ?_
 refine⟨s1.heap.objs.size,[s1.heap.objs.size],_,_,H1,rfl,I1.kept (t':=s1.toks) fun b o e=>aq _ e,za a _,⟨_,aC _ rfl,rfl,rfl⟩,fun b hb => ?_,q⟩
 have e:b=s1.heap.objs.size:=by simpa using hb
 subst e
 exact I1.fpOk (ak _) (I1.hok.fresh (ak _))
theorem HG {l:Expr}{tl:TE} (hl:PE X l tl):PI X tg l (zH X.K tl):=by
 intro pins s σ H R I h
 refine thn (hl pins s σ H _ I h) fun v s1 ⟨x,H1,I1,r1,q1⟩ => ?_
 obtain⟨a,e,⟨xs,hq⟩,q⟩:=q1
 subst e
 cases r1
 obtain⟨its,rv,p,hz⟩:=I1.tuple hq
 refine wpAny_pyIter_tuple (show s1.heap.IsTuple a its.toArray from p) ?_
 refine⟨s1.heap.objs.size,[s1.heap.objs.size],_,_,H1,rfl,I1.kept (t':=s1.toks) fun b o e=>aq _ e,xH a _,⟨_,aC _ rfl,rfl,rfl⟩,fun b hb => ?_,q⟩
 have e:b=s1.heap.objs.size:=by simpa using hb
 subst e
 exact I1.fpOk (ak _) (I1.hok.fresh (ak _))
theorem va {pins:List (Addr×Obj)}{σ:St}{H:Hp}{s:Shared}{R:It->Hp->Prop}{E:Value->Shared->Prop}{lo hi:Int}{t u v:Tok}{tk:Nat} (I:Inv X pins σ H s) (h1 : -(2 ^ 62)<=lo) (h2:lo < 2 ^ 62) (h3 : -(2 ^ 62)<=hi) (h4:hi < 2 ^ 62)
  (q:R (Itr lo (hi - lo).toNat) H):aJ (model X.prog X.w) X.A (pyIter (.ref s.heap.objs.size)) (PIE X pins σ tg R) E { s with heap:=s.heap.push { cls := .type "range",data := .fields #[.int lo t,.int hi u,.int 1 v] },toks:=tk }:=by
 refine wpAny_pyIter_range (IsRange.new ..) (small_one h1 h2 h3 h4) ?_
 have I1:Inv X pins σ H { s with heap:=s.heap.push { cls := .type "range",data := .fields #[.int lo t,.int hi u,.int 1 v] },toks:=tk }:=I.kept fun b o e=>aq _ e
 refine⟨(s.heap.push { cls := .type "range",data := .fields #[.int lo t,.int hi u,.int 1 v] }).objs.size,[(s.heap.push { cls := .type "range",data := .fields #[.int lo t,.int hi u,.int 1 v] }).objs.size],_,_,H,rfl,
  I1.kept (t':=tk) fun b o e=>aq _ e,xx _ lo (hi - lo).toNat,?_,fun b hb => ?_,q⟩
 ·have e1:lo+((0:Nat):Int)*1=lo:=by simp
  have e2:(((hi - lo).toNat:Nat):Int) - ((0:Nat):Int)=dn lo hi 1:=by rw [rangeSize_one];split <;> omega
  show IsRangeIter _ _ (lo+((0:Nat):Int)*1) ((((hi - lo).toNat:Nat):Int) - ((0:Nat):Int)) 1
  rw [e1,e2]
  exact aC _ rfl
 ·have e:b=(s.heap.push { cls := .type "range",data := .fields #[.int lo t,.int hi u,.int 1 v] }).objs.size:=by simpa using hb
  subst e
  exact I1.fpOk (ak _) (I1.hok.fresh (ak _))
noncomputable def uK (ta:TA):TI:=fun σ H R=>ta σ H fun vs H1 => ∃ j:Int,vs = [.int j] /\ -(2 ^ 62)<=j/\j < 2 ^ 62/\R (Itr 0 j.toNat) H1
noncomputable def uH (ta:TA):TI:=fun σ H R=>ta σ H fun vs H1 => ∃ i j:Int,vs = [.int i,.int j]/\(-(2 ^ 62)<=i/\i < 2 ^ 62 /\ -(2 ^ 62)<=j/\j < 2 ^ 62)/\R (Itr i (j - i).toNat) H1
theorem z9 {a:Expr}{ta:TA}{p pos:Pos} (hg:Gl X "range") (hm:X.mg "range"=none) (ha:PA X [a] ta) (hs:starEach [a] X.env = [(false,eval a X.env)]:=by rfl):PI X tg (.Call (.Name "range" p) [a] [] pos) (uK ta):=by
 intro pins s σ H R I h
 refine Call_ (kM I hg hm boot_range (cU (thn (ha pos pins s σ H _ I h) fun us s1 ⟨vs,H1,I1,r1,q1⟩ => ?_) hs rfl))
 obtain⟨j,e,q1,q2,q⟩:=q1
 subst e
 cases r1 with
 | cons r rr=>
   cases rr
   obtain⟨t,rfl⟩:=r
   exact call_range_1 (va I1 (by omega) (by omega) q1 q2 (by simpa using q))
theorem zZ {a b:Expr}{ta:TA}{p pos:Pos} (hg:Gl X "range") (hm:X.mg "range"=none) (ha:PA X [a,b] ta) (hs:starEach [a,b] X.env = [(false,eval a X.env),(false,eval b X.env)]:=by rfl) (hs2:starEach [b] X.env = [(false,eval b X.env)]:=by rfl) :
  PI X tg (.Call (.Name "range" p) [a,b] [] pos) (uH ta):=by
 intro pins s σ H R I h
 refine Call_ (kM I hg hm boot_range (cU (thn (ha pos pins s σ H _ I h) fun us s1 ⟨vs,H1,I1,r1,q1⟩ => ?_) (by rw [hs,hs2]) (by rw [hs2];rfl)))
 obtain⟨i,j,e,⟨q1,q2,q3,q4⟩,q⟩:=q1
 subst e
 cases r1 with
 | cons r rr=>
   cases rr with
   | cons r' rr=>
     cases rr
     obtain⟨t,rfl⟩:=r
     obtain⟨t',rfl⟩:=r'
     exact call_range_2 (va I1 q1 q2 q3 q4 q)
noncomputable def wK (wi:TI) (g:TG) (tb:TS):TS:=fun D σ H=>wi σ H fun J H1 => ∃ W:Nat->Nat->St->Hp->Prop,(∃ m,W 0 m σ H1) /\ ∀ i m σ H,W i m σ H ->
 (J.stop i H/\D.nx σ H)\/(J.go i H /\ ∃ N:St->Hp->Prop,(∀ σ' H',N σ' H' -> ∃ m',m' < m/\W (i+1) m' σ' H') /\ ∀ x H',J.yld i H x H'->g x σ H' fun σ2 H2=>tb { D with nx:=N,ct:=N,bk:=D.nx } σ2 H2)
noncomputable def qw (fp:List Addr) (h:Heap):List (Addr×Obj):=fp.filterMap fun b=>(h.get? b).map fun o=>(b,o)
theorem jU {fp:List Addr}{h:Heap}{b:Addr}{o:Obj} (hb:b∈fp) (e:h.get? b=some o):(b,o)∈qw fp h:=List.mem_filterMap.mpr ⟨b,hb,by rw [e];rfl⟩
theorem y4 {fp:List Addr}{h:Heap}{p:Addr×Obj} (hp:p∈qw fp h):p.1∈fp/\h.get? p.1=some p.2:=by
 obtain⟨b,hb,e⟩:=List.mem_filterMap.mp hp
 cases q:h.get? b with
 | none=>rw [q] at e;cases e
 | some o=>
   rw [q] at e
   have e':(b,o)=p:=bq e
   subst e'
   exact⟨hb,q⟩
theorem Inv.pinned {pins:List (Addr×Obj)}{σ:St}{H:Hp}{s:Shared}{fp:List Addr} (I:Inv X pins σ H s) (hf : ∀ b∈fp,tU X pins H b) (ho : ∀ b∈fp,∃ o,s.heap.get? b=some o /\ ∀ v,o.data ≠ .cell v):Inv X (pins++qw fp s.heap) σ H s:=
 I.pins_of fun p hp=>(bh.mp hp).elim (fun z=>I.pin p (aS _ z)) fun z=>by
  obtain⟨hb,e⟩:=y4 z
  obtain⟨f0,f1,f2,_⟩:=hf p.1 hb
  obtain⟨o,e',d⟩:=ho p.1 hb
  rw [e] at e';cases e'
  exact⟨e,f0,f1,f2,d⟩
theorem Inv.unpinned {pins pl:List (Addr×Obj)}{σ:St}{H:Hp}{s:Shared} (I:Inv X (pins++pl) σ H s):Inv X pins σ H s:=I.pins_of fun p hp=>I.pin p (aS _ (aR _ hp))
theorem GS {iter:Expr}{body:List Stmt}{wi:TI}{g:TG}{tb:TS}{pos:Pos} (hp:PassesOwn (model X.prog X.w) X.A X.env X.xe) (hc:X.calm=true) (hi:PI X tg iter wi) (hg:PG X tg g) (hb:PSs X body tb)
  (hs : ∀ x,foldedSetIterable iter X.env x=pure x:=by intro _;rfl):PS X (.For tg iter body [] pos) (wK wi g tb):=by
 intro pins s σ H D I h
 refine wpAny_For (thn (hi pins s σ H _ I h) fun v s1 h1=>thn h1 fun itv s2 h2 => ?_) hs
 obtain⟨it,fp,tn,J,H2,e,I2,T,st2,f2,W,⟨m0,w0⟩,turn⟩:=h2
 subst e
 have stat : ∀ {H':Hp},(∀ b∈fp,H' b=none) -> ∀ b∈fp,tU X pins H' b:=fun hn b hb=>⟨hn b hb,(f2 b hb).2⟩
 refine codeAny_forLoop_any (fun n s' => ∃ i σ' H',Inv X pins σ' H' s'/\tn i s'.heap/\(∀ b∈fp,H' b=none)/\W i n σ' H') ?_ m0 ⟨0,σ,H2,I2,st2,fun b hb=>(f2 b hb).1,w0⟩
 rintro n s3 ⟨i,σ3,H3,I3,st3,fr3,w3⟩
 rcases turn i n σ3 H3 w3 with⟨stop,qn⟩ | ⟨go,N,hN,step⟩
 ·refine fK hp (thn (T.done X rfl rfl rfl hc i pins s3 σ3 H3 X.xe I3 (stat fr3) st3 stop) fun r s4 ⟨hr,I4⟩ => ?_)
  subst hr
  exact oQ ⟨σ3,H3,I4,qn⟩
 ·refine fK hp (thn (T.item X rfl rfl rfl hc i pins s3 σ3 H3 X.xe I3 (stat fr3) st3 go) fun r s4 ⟨u,hr,h4⟩ => ?_)
  subst hr
  refine fK hp (thn h4 fun _ s5 ⟨x,H5,I5,r5,y5,st5,fr5⟩ => ?_)
  have I5':=I5.pinned (stat fr5) (T.obj _ _ st5)
  refine fK hp (thn (hg _ s5 σ3 H5 x u _ I5' r5 (step x H5 y5)) fun _ s6 ⟨σ6,H6,I6,q6⟩ => ?_)
  refine fK hp (thn (hb _ s6 σ6 H6 _ I6 q6) fun f s7 q7 => ?_)
  have again : ∀ {σ7:St}{H7:Hp},Inv X (pins++qw fp s5.heap) σ7 H7 s7->N σ7 H7 -> ∃ m,m < n /\ ∃ i σ' H',Inv X pins σ' H' s7/\tn i s7.heap/\(∀ b∈fp,H' b=none)/\W i m σ' H':=fun {σ7 H7} I7 n7=>by
   obtain⟨m',hm,w7⟩:=hN σ7 H7 n7
   refine⟨m',hm,i+1,σ7,H7,I7.unpinned,T.keep _ _ _ st5 fun b hb o e=>(I7.pin (b,o) (aS _ (aS _ (jU hb e)))).1,fun b hb => ?_,w7⟩
   obtain⟨o,e,d⟩:=T.obj _ _ st5 b hb
   exact (I7.pin (b,o) (aS _ (aS _ (jU hb e)))).2.1
  cases f with
  | next=>obtain⟨σ7,H7,I7,n7⟩:=q7;exact again I7 n7
  | cont=>obtain⟨σ7,H7,I7,n7⟩:=q7;exact again I7 n7
  | brk=>obtain⟨σ7,H7,I7,q7⟩:=q7;exact⟨σ7,H7,I7.unpinned,q7⟩
  | ret v=>obtain⟨x7,σ7,H7,I7,r7,q7⟩:=q7;exact⟨x7,σ7,H7,I7.unpinned,r7,q7⟩
end
theorem EE {K:aj}{a:Addr}{xs:List V}{g:TG}{tb:TS}{D:Ends}{σ:St}{H:Hp} (Pv:Nat->St->Hp->Prop) (h0:Pv 0 σ H) (hl : ∀ i σ H,i<=xs.length->Pv i σ H->SqT K H a xs)
  (hs : ∀ i x σ H,xs[i]? = some x->Pv i σ H->g x σ H fun σ2 H2=>tb { D with nx:=Pv (i+1),ct:=Pv (i+1),bk:=D.nx } σ2 H2) (hd : ∀ σ H,Pv xs.length σ H->D.nx σ H) :
  ∃ W:Nat->Nat->St->Hp->Prop,(∃ m,W 0 m σ H) /\ ∀ i m σ H,W i m σ H ->
   ((Itt K a).stop i H/\D.nx σ H)\/((Itt K a).go i H /\ ∃ N:St->Hp->Prop,(∀ σ' H',N σ' H' -> ∃ m',m' < m/\W (i+1) m' σ' H') /\ ∀ x H',(Itt K a).yld i H x H'->g x σ H' fun σ2 H2=>tb { D with nx:=N,ct:=N,bk:=D.nx } σ2 H2):=by
 refine⟨fun i m σ H=>m=xs.length - i/\i<=xs.length/\Pv i σ H,⟨xs.length,by simp,dB _,h0⟩,?_⟩
 rintro i m σ H ⟨rfl,hi,p⟩
 have q:=hl i σ H hi p
 by_cases hlt:i < xs.length
 ·refine .inr ⟨⟨xs,xs[i],q,by simp [hlt]⟩,Pv (i+1),fun σ' H' p'=>⟨xs.length - (i+1),by omega,rfl,hlt,p'⟩,fun x H' y => ?_⟩
  obtain⟨e,y⟩:=y
  subst e
  exact hs i x σ _ (y xs q) p
 ·have e:i=xs.length:=by omega
  subst e
  exact .inl ⟨⟨xs,q,ak _⟩,hd σ H p⟩
theorem zp {lo:Int}{n:Nat}{g:TG}{tb:TS}{D:Ends}{σ:St}{H:Hp} (Pv:Nat->St->Hp->Prop) (h0:Pv 0 σ H)
  (hs : ∀ i σ H,i < n->Pv i σ H->g (.int (lo+i)) σ H fun σ2 H2=>tb { D with nx:=Pv (i+1),ct:=Pv (i+1),bk:=D.nx } σ2 H2) (hd : ∀ σ H,Pv n σ H->D.nx σ H) :
  ∃ W:Nat->Nat->St->Hp->Prop,(∃ m,W 0 m σ H) /\ ∀ i m σ H,W i m σ H ->
   ((Itr lo n).stop i H/\D.nx σ H)\/((Itr lo n).go i H /\ ∃ N:St->Hp->Prop,(∀ σ' H',N σ' H' -> ∃ m',m' < m/\W (i+1) m' σ' H') /\ ∀ x H',(Itr lo n).yld i H x H'->g x σ H' fun σ2 H2=>tb { D with nx:=N,ct:=N,bk:=D.nx } σ2 H2):=by
 refine⟨fun i m σ H=>m=n - i/\i<=n/\Pv i σ H,⟨n,by simp,dB _,h0⟩,?_⟩
 rintro i m σ H ⟨rfl,hi,p⟩
 by_cases hlt:i < n
 ·refine .inr ⟨hlt,Pv (i+1),fun σ' H' p'=>⟨n - (i+1),by omega,rfl,hlt,p'⟩,fun x H' y => ?_⟩
  obtain⟨e,y⟩:=y
  subst e y
  exact hs i σ _ hlt p
 ·have e:i=n:=by omega
  subst e
  exact .inl ⟨ak _,hd σ H p⟩
end L2
namespace L2
open PySem PySem.Spec PyProof.Rows
abbrev R2:=V->V->Hp->VK->Prop
noncomputable def OpR (X:Cx) (f:Value->Value->Sem Value) (r:R2):Prop:=
 ∀ (pins:List (Addr×Obj)) (s:Shared) (σ:St) (H:Hp) (x y:V) (v u:Value) (Q:VK),Inv X pins σ H s->RelV x v->RelV y u->r x y H Q ->
  aJ (model X.prog X.w) X.A (f v u) (EP X pins σ Q) X.xe s
noncomputable def UnR (X:Cx) (f:Value->Sem Value) (r:V->Hp->VK->Prop):Prop:=
 ∀ (pins:List (Addr×Obj)) (s:Shared) (σ:St) (H:Hp) (x:V) (v:Value) (Q:VK),Inv X pins σ H s->RelV x v->r x H Q ->
  aJ (model X.prog X.w) X.A (f v) (EP X pins σ Q) X.xe s
noncomputable def gO (X:Cx) (f:Value) (r:List V->Hp->VK->Prop):Prop:=
 ∀ (pins:List (Addr×Obj)) (s:Shared) (σ:St) (H:Hp) (xs:List V) (us:List Value) (Q:VK),Inv X pins σ H s->bK xs us->r xs H Q ->
  aJ (model X.prog X.w) X.A (call f us) (EP X pins σ Q) X.xe s
noncomputable def tOp (r:R2) (ta tb:TE):TE:=fun σ H Q=>ta σ H fun x H1=>tb σ H1 fun y H2=>r x y H2 Q
noncomputable def tUn (r:V->Hp->VK->Prop) (ta:TE):TE:=fun σ H Q=>ta σ H fun x H1=>r x H1 Q
noncomputable def rI (C:Int->Int->Prop) (g:Int->Int->V):R2:=fun x y H Q => ∃ i j,x = .int i/\y = .int j/\C i j/\Q (g i j) H
noncomputable def rI0 (g:Int->Int->V):R2:=fun x y H Q => ∃ i j,x = .int i/\y = .int j/\Q (g i j) H
noncomputable def rU (g:Int->V):V->Hp->VK->Prop:=fun x H Q => ∃ i,x = .int i/\Q (g i) H
section
variable {X:Cx}{a b c:Expr}{ta tb tc:TE}{pos:Pos}
theorem GV (ha:PE X a ta) (hb:PE X b tb) {pins:List (Addr×Obj)}{s:Shared}{σ:St}{H:Hp}{R:V->V->Hp->Prop} (I:Inv X pins σ H s)
  (h:ta σ H fun x H1=>tb σ H1 fun y H2=>R x y H2) {Q:Value->Shared->Prop}{f:Value->Value->Sem Value}
  (hf : ∀ v u s2 x y H2,Inv X pins σ H2 s2->RelV x v->RelV y u->R x y H2->aJ (model X.prog X.w) X.A (f v u) Q X.xe s2) :
  aJ (model X.prog X.w) X.A (eval a X.env) (fun v s₁=>aJ (model X.prog X.w) X.A (eval b X.env) (fun u s₂=>aJ (model X.prog X.w) X.A (f v u) Q X.xe s₂) X.xe s₁) X.xe s:=by
 refine thn (ha pins s σ H _ I h) fun v s1 ⟨x,H1,I1,r1,q1⟩ => ?_
 refine thn (hb pins s1 σ H1 _ I1 q1) fun u s2 ⟨y,H2,I2,r2,q2⟩ => ?_
 exact hf v u s2 x y H2 I2 r1 r2 q2
theorem si {op:Operator}{r:R2} (ho:OpR X (binaryOp op) r) (ha:PE X a ta) (hb:PE X b tb):PE X (.BinOp a op b pos) (tOp r ta tb):=by
 intro pins s σ H Q I h
 exact wpAny_BinOp (GV ha hb I h fun v u s2 x y H2 I2 rx ry q=>ho pins s2 σ H2 x y v u Q I2 rx ry q)
theorem FB {op:UnaryOp}{r:V->Hp->VK->Prop} (ho:UnR X (unaryOp op) r) (ha:PE X a ta):PE X (.UnaryOp op a pos) (tUn r ta):=by
 intro pins s σ H Q I h
 exact UnaryOp_ (thn (ha pins s σ H _ I h) fun v s1 ⟨x,H1,I1,r1,q1⟩=>ho pins s1 σ H1 x v Q I1 r1 q1)
theorem opI {f:Value->Value->Sem Value}{C:Int->Int->Prop}{g:Int->Int->Int}
  (rule : ∀ (i j:Int) (t u:Tok) (s:Shared) (Q:Value->Shared->Prop) (E:Value->Shared->Prop),C i j->Q (.int (g i j) s.toks) { s with toks:=s.toks+1 }->aJ (model X.prog X.w) X.A (f (.int i t) (.int j u)) Q E s) :
  OpR X f (rI C fun i j => .int (g i j)):=by
 intro pins s σ H x y v u Q I rx ry h
 obtain⟨i,j,rfl,rfl,hc,q⟩:=h
 obtain⟨t,rfl⟩:=rx
 obtain⟨t',rfl⟩:=ry
 exact rule i j t t' s _ _ hc ⟨.int (g i j),H,I.tok _,⟨_,rfl⟩,q⟩
theorem K0 {f:Value->Value->Sem Value}{g:Int->Int->Int}
  (rule : ∀ (i j:Int) (t u:Tok) (s:Shared) (Q:Value->Shared->Prop) (E:Value->Shared->Prop),Q (.int (g i j) s.toks) { s with toks:=s.toks+1 }->aJ (model X.prog X.w) X.A (f (.int i t) (.int j u)) Q E s) :
  OpR X f (rI0 fun i j => .int (g i j)):=by
 intro pins s σ H x y v u Q I rx ry h
 obtain⟨i,j,rfl,rfl,q⟩:=h
 obtain⟨t,rfl⟩:=rx
 obtain⟨t',rfl⟩:=ry
 exact rule i j t t' s _ _ ⟨.int (g i j),H,I.tok _,⟨_,rfl⟩,q⟩
theorem E7 {f:Value->Value->Sem Value}{g:Int->Int->Bool}
  (rule : ∀ (i j:Int) (t u:Tok) (s:Shared) (Q:Value->Shared->Prop) (E:Value->Shared->Prop),Q (.bool (g i j)) s->aJ (model X.prog X.w) X.A (f (.int i t) (.int j u)) Q E s) :
  OpR X f (rI0 fun i j => .bl (g i j)):=by
 intro pins s σ H x y v u Q I rx ry h
 obtain⟨i,j,rfl,rfl,q⟩:=h
 obtain⟨t,rfl⟩:=rx
 obtain⟨t',rfl⟩:=ry
 exact rule i j t t' s _ _ ⟨.bl (g i j),H,I,rfl,q⟩
noncomputable def Kd (i j:Int):Prop:=0 < j/\j < 1073741824
noncomputable def JN (i j:Int):Prop:=0<=j/\j<=1000000/\i.natAbs < 2 ^ 64
noncomputable def Ee (i j:Int):Prop:=(-(2 ^ 64) < i/\i < 2 ^ 64)\/(-(2 ^ 64) < j/\j < 2 ^ 64)
theorem Ee.ok {i j:Int} (h:Ee i j):IntMulOk i j:=by
 rcases h with⟨h1,h2⟩ | ⟨h1,h2⟩
 ·exact .of_left (intBits_le_64 h1 h2)
 ·exact .of_right (intBits_le_64 h1 h2)
theorem Gx:OpR X (binaryOp .Add) (rI0 fun i j => .int (i+j)):=K0 fun _ _ _ _ _ _ _ q=>add_int q
theorem FU:OpR X (binaryOp .Sub) (rI0 fun i j => .int (i - j)):=K0 fun _ _ _ _ _ _ _ q=>sub_int q
theorem F7:OpR X (binaryOp .Mult) (rI Ee fun i j => .int (i*j)):=opI fun _ _ _ _ _ _ _ hc q=>mul_int q hc.ok
theorem Dr:OpR X (binaryOp .FloorDiv) (rI Kd fun i j => .int (i / j)):=opI fun i j _ _ _ _ _ hc q=>by
 have h1:(0:Int) < j:=hc.1
 have h2:j < 1073741824:=hc.2
 exact floordiv_int (by omega) (by rw [Int.fdiv_eq_ediv_of_nonneg i (by omega)];exact q) (.inl (PyProof.noPylong_small (by omega)))
theorem HM:OpR X (binaryOp .Mod) (rI (fun _ j=>0 < j) fun i j => .int (i % j)):=opI fun i j _ _ _ _ _ hc q=>by
 have h1:(0:Int) < j:=hc
 exact mod_int' (by omega) (by rw [Int.fmod_eq_emod_of_nonneg i (by omega)];exact q)
theorem FW:OpR X (binaryOp .Pow) (rI JN fun i j => .int (i ^ j.toNat)):=opI fun _ _ _ _ _ _ _ hc q=>pow_int_small hc.1 hc.2.1 hc.2.2 q
theorem unI {f:Value->Sem Value}{g:Int->Int}
  (rule : ∀ (i:Int) (t:Tok) (s:Shared) (Q:Value->Shared->Prop) (E:Value->Shared->Prop),Q (.int (g i) s.toks) { s with toks:=s.toks+1 }->aJ (model X.prog X.w) X.A (f (.int i t)) Q E s) :
  UnR X f (rU fun i => .int (g i)):=by
 intro pins s σ H x v Q I rx h
 obtain⟨i,rfl,q⟩:=h
 obtain⟨t,rfl⟩:=rx
 exact rule i t s _ _ ⟨.int (g i),H,I.tok _,⟨_,rfl⟩,q⟩
theorem BQ:UnR X (unaryOp .USub) (rU fun i => .int (-i)):=unI fun _ _ _ _ _ q=>neg_int q
end
section
variable {X:Cx}{a b c:Expr}{ta tb tc:TE}{pos:Pos}
theorem KF:OpR X (compareOp .Lt) (rI0 fun i j => .bl (decide (i < j))):=E7 fun _ _ _ _ _ _ _ q=>lt_int q
theorem JA:OpR X (compareOp .LtE) (rI0 fun i j => .bl (decide (i<=j))):=E7 fun _ _ _ _ _ _ _ q=>le_int q
theorem JR:OpR X (compareOp .Gt) (rI0 fun i j => .bl (decide (j < i))):=E7 fun _ _ _ _ _ _ _ q=>gt_int q
theorem KO:OpR X (compareOp .GtE) (rI0 fun i j => .bl (decide (j<=i))):=E7 fun _ _ _ _ _ _ _ q=>ge_int q
theorem OpR.or {f:Value->Value->Sem Value}{r r':R2} (h:OpR X f r) (h':OpR X f r'):OpR X f (fun x y H Q=>r x y H Q\/r' x y H Q):=by
 intro pins s σ H x y v u Q I rx ry q
 rcases q with q | q
 ·exact h pins s σ H x y v u Q I rx ry q
 ·exact h' pins s σ H x y v u Q I rx ry q
theorem DD {op:CmpOp}{r:R2} (ho:OpR X (compareOp op) r) (ha:PE X a ta) (hb:PE X b tb) (hm:behindInMarks op b=false):PE X (.Compare a [op] [b] pos) (tOp r ta tb):=by
 intro pins s σ H Q I h
 exact wpAny_Compare1 (GV ha hb I h fun v u s2 x y H2 I2 rx ry q=>ho pins s2 σ H2 x y v u Q I2 rx ry q) hm
noncomputable def Cs (t:TE):TT:=fun σ H Q=>t σ H fun x H' => ∃ k,x = .bl k/\Q k H'
theorem Fb {op:CmpOp}{r:R2} (ho:OpR X (compareOp op) r) (ha:PE X a ta) (hb:PE X b tb) (hm:behindInMarks op b=false):PT X (.Compare a [op] [b] pos) (Cs (tOp r ta tb)):=by
 intro pins s σ H Q I h
 refine wpAny_isTrue_Compare1 (thn (ha pins s σ H _ I h) fun v s1 ⟨x,H1,I1,r1,q1⟩=>thn (hb pins s1 σ H1 _ I1 q1) fun u s2 ⟨y,H2,I2,r2,q2⟩=>
  thn (ho pins s2 σ H2 x y v u _ I2 r1 r2 q2) fun c s3 ⟨z,H3,I3,r3,k,e,q3⟩ => ?_) hm
 subst e
 cases r3
 exact dm ⟨H3,I3,q3⟩
noncomputable def xn (r r':R2) (ta tb tc:TE):TE:=fun σ H Q=>ta σ H fun x H1=>tb σ H1 fun y H2=>r x y H2 fun z H3 => ∃ k,z = .bl k /\
 (if k=true then tc σ H3 fun w' H4=>r' y w' H4 Q else Q (.bl false) H3)
theorem Bj {op op':CmpOp}{r r':R2} (ho:OpR X (compareOp op) r) (ho':OpR X (compareOp op') r') (ha:PE X a ta) (hb:PE X b tb) (hc:PE X c tc)
  (hm:lastMarks [op,op'] [b,c]=false:=by with_unfolding_all rfl):PE X (.Compare a [op,op'] [b,c] pos) (xn r r' ta tb tc):=by
 intro pins s σ H Q I h
 refine Compare_chain (thn (ha pins s σ H _ I h) fun v s1 ⟨x,H1,I1,r1,q1⟩=>chain_link (thn (hb pins s1 σ H1 _ I1 q1) fun u s2 ⟨y,H2,I2,r2,q2⟩=>
  thn (ho pins s2 σ H2 x y v u _ I2 r1 r2 q2) fun d s3 ⟨z,H3,I3,r3,k,e,q3⟩ => ?_)) hm
 subst e
 cases r3
 refine dm ?_
 cases k with
 | false=>exact ite_ff ⟨.bl false,H3,I3,rfl,q3⟩
 | true=>exact ite_tt (chain_last (thn (hc pins s3 σ H3 _ I3 q3) fun w' s4 ⟨z',H4,I4,r4,q4⟩=>ho' pins s4 σ H4 y z' u w' Q I4 r2 r4 q4))
theorem BN {op op':CmpOp}{r r':R2} (ho:OpR X (compareOp op) r) (ho':OpR X (compareOp op') r') (ha:PE X a ta) (hb:PE X b tb) (hc:PE X c tc)
  (hm:lastMarks [op,op'] [b,c]=false:=by with_unfolding_all rfl):PT X (.Compare a [op,op'] [b,c] pos) (Cs (xn r r' ta tb tc)):=by
 intro pins s σ H Q I h
 refine isTrue_chain (thn (ha pins s σ H _ I h) fun v s1 ⟨x,H1,I1,r1,q1⟩=>test_link (thn (hb pins s1 σ H1 _ I1 q1) fun u s2 ⟨y,H2,I2,r2,q2⟩=>
  thn (ho pins s2 σ H2 x y v u _ I2 r1 r2 q2) fun d s3 ⟨z,H3,I3,r3,k,e,q3⟩ => ?_)) hm
 subst e
 cases r3
 refine dm ?_
 cases k with
 | false=>
   obtain⟨k',e',q'⟩:=q3
   cases e'
   exact ite_ff ⟨H3,I3,q'⟩
 | true=>
   refine ite_tt (test_last (thn (hc pins s3 σ H3 _ I3 q3) fun w' s4 ⟨z',H4,I4,r4,q4⟩=>thn (ho' pins s4 σ H4 y z' u w' _ I4 r2 r4 q4) fun d' s5 ⟨z2,H5,I5,r5,k2,e2,q5⟩ => ?_))
   subst e2
   cases r5
   exact dm ⟨H5,I5,q5⟩
theorem mJ:(sizeLine:Nat) < 2 ^ 63:=by rw [sizeLine_eq];decide
theorem vals1 {x:V}{us:List Value} (r:bK [x] us) : ∃ u,us = [u]/\RelV x u:=by
 cases r with
 | cons r1 r2=>cases r2;exact⟨_,rfl,r1⟩
theorem vals2 {x y:V}{us:List Value} (r:bK [x,y] us) : ∃ u w',us = [u,w']/\RelV x u/\RelV y w':=by
 cases r with
 | cons r1 r2=>
   cases r2 with
   | cons r3 r4=>cases r4;exact⟨_,_,rfl,r1,r3⟩
theorem zu (hc:X.calm=true):gO X (.builtin "max") (fun xs H Q => ∃ i j,xs = [.int i,.int j]/\Q (.int (if j > i then j else i)) H):=by
 intro pins s σ H xs us Q I r h
 obtain⟨i,j,rfl,q⟩:=h
 obtain⟨u,w',rfl,⟨t,rfl⟩,⟨t',rfl⟩⟩:=vals2 r
 refine max_two_ints (I.ok.hd hc) fun h' tk k=>⟨_,H,I.kept k,?_,q⟩
 by_cases hj:j > i
 ·rw [if_pos hj,if_pos hj];exact⟨_,rfl⟩
 ·rw [if_neg hj,if_neg hj];exact⟨_,rfl⟩
theorem zT (hc:X.calm=true):gO X (.builtin "min") (fun xs H Q => ∃ i j,xs = [.int i,.int j]/\Q (.int (if j < i then j else i)) H):=by
 intro pins s σ H xs us Q I r h
 obtain⟨i,j,rfl,q⟩:=h
 obtain⟨u,w',rfl,⟨t,rfl⟩,⟨t',rfl⟩⟩:=vals2 r
 refine min_two_ints (I.ok.hd hc) fun h' tk k=>⟨_,H,I.kept k,?_,q⟩
 by_cases hj:j < i
 ·rw [if_pos hj,if_pos hj];exact⟨_,rfl⟩
 ·rw [if_neg hj,if_neg hj];exact⟨_,rfl⟩
end
end L2
namespace L2
open PySem PySem.Spec PyProof.Rows
structure G9 (h:Heap) (x dx C:Addr) (mA:Str->Option Value):Prop where
 obj:h.get? x=some (rY C dx)
 ns:h.Ns1 dx mA
 ne:dx≠x
theorem zM {h:Heap}{dx:Addr}{mA:Str->Option Value} (n:h.Ns1 dx mA) : ∃ od,h.get? dx=some od /\ ∀ name,uz name od=some (mA name):=by
 obtain⟨o,es,ep,ho,hd,hk,_,hm⟩:=n
 refine⟨o,ho,fun name => ?_⟩
 have e:=hm name
 unfold nsFind findBy at e
 rw [<- Array.find?_toList] at e
 unfold uz
 rw [hd]
 dsimp only
 split
 ·rename_i y q
  rw [q] at e
  exact congrArg some e
 ·rename_i q
  rw [q] at e
  have a:es.toList.any (·.refKey)=false:=by
   rw [List.any_eq_false]
   intro y hy
   obtain⟨z,t,hkey⟩:=hk y (Array.mem_toList_iff.mp hy)
   simp [DictEntry.refKey,hkey]
  have a' : ¬ es.toList.any (·.refKey)=true:=by rw [a];exact bJ
  rw [if_neg a']
  exact congrArg some e
theorem G9.look {h:Heap}{x dx C:Addr}{mA:Str->Option Value} (I:G9 h x dx C mA) : ∃ od,PySem.W.InstAt h x (rY C dx) C (some od) /\ ∀ name,uz name od=some (mA name):=
 let ⟨od,ho,hl⟩:=zM I.ns
 ⟨od,⟨I.obj,rfl,rfl,ho⟩,hl⟩
section
variable {prog:Program}{w:World}{A:Around}{E:Value->Shared->Prop}{s:Shared}{K:aj}{x dx C f:Addr}{mA:Str->Option Value}{name:Str}{v:Value}
end
theorem pR.some_of {v:V}{o:Option Value} (r:pR (some v) o) : ∃ u,o=some u/\RelV v u:=by
 cases o with
 | none=>exact (show False from r).elim
 | some u=>exact⟨u,rfl,r⟩
section
variable {P:Program}{w:World}{H H':Hp}{h h':Heap}{a C dx:Addr}{fs fs':List (Str×V)}
theorem E4 (hok:HOk P w H h) (e:H a=some (.ins C dx fs)) : ∃ mA,G9 h a dx C mA/\(∀ f,pR (fs.lookup f) (mA f))/\PySem.Within mA (fs.map (·.1))/\fs.length<=1000/\H dx=some (.own a):=by
 obtain⟨d,z,ne,ob,mA,n,r,q⟩:=(show dW P w H h a (.ins C dx fs) from hok a _ e)
 exact⟨mA,⟨ob,n,ne⟩,r,q,z,d⟩
end
structure Cls (K:aj) (C:Addr):Prop where
 pg:PySem.W.plainGet K C Str.empty=true
 hd:PySem.W.hasDictIn K C=true
 po:PySem.W.plainOver K C=true
 sa:jm K (.ref C) "__setattr__"=some (some (.builtin "object.__setattr__"))
theorem Cls.get {K:aj}{C:Addr} (c:Cls K C) (f:Str):PySem.W.plainGet K C f=true:=c.pg
structure Con (K:aj) (C:Addr) (f:Str) (v:V) (u:Value):Prop where
 at_:jm K (.ref C) f=some (some u)
 rel:RelV v u
 get:CN K u "__get__"=some none
 cp:PySem.W.copiedNames.contains f=false
structure LW (K:aj) (C:Addr) (m:Str) (f:Addr):Prop where
 at_:jm K (.ref C) m=some (some (.ref f))
 fn:PySem.W.isFn K (.ref f)=true
 kp:cR K (.ref f)=true
section
variable {X:Cx}{pins:List (Addr×Obj)}{σ:St}{H:Hp}{s:Shared}{a C dx:Addr}{fs:List (Str×V)}{f:Str}{v:V}{A:Around}{E:Value->Shared->Prop}
end
section
variable {X:Cx}{o e value:Expr}{f:Str}{pos pos' tpos:Pos}{ta tv:TE}
end
section
variable {X:Cx}{pins:List (Addr×Obj)}{σ:St}{H:Hp}{s:Shared}{A:Around}{E:Value->Shared->Prop}{Q:Value->Shared->Prop}{c:Value}{b:Bool}
inductive my (K:aj) (H:Hp):V->Value->Prop where
 | non:my K H .non (.type "NoneType")
 | bl (x:Bool):my K H (.bl x) (.type "bool")
 | int (i:Int):my K H (.int i) (.type "int")
 | str (x:Str):my K H (.str x) (.type "str")
 | flt (x:UInt64):my K H (.flt x) (.type "float")
 | lst {a:Addr}{xs:List V} (e:H a=some (.lst xs)):my K H (.ref a) (.type "list")
 | frz {a:Addr}{o:Obj}{xs:List V} (e:H a=some (.frz o (.lst xs))):my K H (.ref a) (.type "list")
 | tup {a:Addr}{xs:List V} (e:H a=some (.tup xs)):my K H (.ref a) (.type "tuple")
 | dK {a:Addr}{kvs:List (Key×V)} (e:H a=some (.dK kvs)):my K H (.ref a) (.type "dict")
 | dT {a:Addr}{kvs:List (List Key×V)} (e:H a=some (.dT kvs)):my K H (.ref a) (.type "dict")
 | ins {a C dx:Addr}{fs:List (Str×V)} (e:H a=some (.ins C dx fs)) (cl:Cls K C) (ha:jm K (.ref C) "__class__"=some (some (.builtin "object.__class__")))
   (hn:CN K (.builtin "object.__class__") "__get__"=some (some (.builtin "getset_descriptor.__get__"))) (htk:PySem.W.takesIn K (.builtin "object.__class__")=some true)
   (hm:PySem.W.mroIn K C (.type "object")=some true):my K H (.ref a) (.ref C)
theorem zO {x:V}{u t:Value} (I:Inv X pins σ H s) (rx:RelV x u) (ty:my X.K H x t) (e:PySem.W.kitOne X.K t c=some b) (h : ∀ tk,Q (.bool b) { s with toks:=tk }) :
  aJ (model X.prog X.w) A (call (.builtin "isinstance") [u,c]) Q E s:=by
 cases ty with
 | non=>cases (show u=jF from rx);exact cW PySem.W.kitx_none I.kIn eT e (fun z=>nomatch z) h
 | bl y=>cases (show u=wt y from rx);exact cW PySem.W.kitx_bool I.kIn eT e (fun z=>nomatch z) h
 | int i=>obtain⟨t,q⟩:=(show ∃ t,u=rV i t from rx);cases q;exact cW PySem.W.kitx_int I.kIn eT e (fun z=>nomatch z) h
 | str y=>obtain⟨t,q⟩:=(show ∃ t,u=rX y t from rx);cases q;exact cW PySem.W.kitx_str I.kIn eT e (fun z=>nomatch z) h
 | flt y=>obtain⟨t,q⟩:=(show ∃ t,u=Value.float y t from rx);cases q;exact cW PySem.W.kitx_float I.kIn eT e (fun z=>nomatch z) h
 | @lst a xs ea=>
   cases (show u=bc a from rx)
   obtain⟨_,_,n,_,h1⟩:=(show dW X.prog X.w H s.heap a (.lst xs) from I.hok a _ ea)
   exact cW CO I.kIn ⟨_,h1,rfl⟩ e (fun z=>nomatch z) h
 | @frz a ob xs ea=>
   cases (show u=bc a from rx)
   obtain⟨_,_,_,n,_,h1⟩:=(show dW X.prog X.w H s.heap a (.frz ob (.lst xs)) from I.hok a _ ea)
   exact cW CO I.kIn ⟨_,h1,rfl⟩ e (fun z=>nomatch z) h
 | @tup a xs ea=>
   cases (show u=bc a from rx)
   obtain⟨_,_,_,p⟩:=(show dW X.prog X.w H s.heap a (.tup xs) from I.hok a _ ea)
   obtain⟨o,h1,h2,_⟩:=p.1
   exact cW PySem.W.kitx_tuple I.kIn ⟨o,h1,h2⟩ e (fun z=>nomatch z) h
 | @dK a kvs ea=>
   cases (show u=bc a from rx)
   obtain⟨_,_,vs,_,p⟩:=(show dW X.prog X.w H s.heap a (.dK kvs) from I.hok a _ ea)
   obtain⟨o,es,ep,h1,h2,_⟩:=p
   exact cW CP I.kIn ⟨o,h1,h2.1⟩ e (fun z=>nomatch z) h
 | @dT a kvs ea=>
   cases (show u=bc a from rx)
   obtain⟨_,_,xs,_,o,es,ep,h1,h2,_⟩:=(show dW X.prog X.w H s.heap a (.dT kvs) from I.hok a _ ea)
   exact cW CP I.kIn ⟨o,h1,h2.1⟩ e (fun z=>nomatch z) h
 | @ins a C dx fs ea cl ha hn htk hm=>
   cases (show u=bc a from rx)
   obtain⟨mA,O,_⟩:=E4 I.hok ea
   obtain⟨od,J,_⟩:=O.look
   exact cW (PySem.W.kitx_own (cl.get _) cl.hd ha hn htk hm) I.kIn J e (fun z=>nomatch z) h
end
end L2
namespace L2
open PySem PySem.Spec PyProof.Rows
structure jD (k:Nat) (A:Around):Prop where
 hd:A.handled=none
 dp:A.depth+3*k+5 < recursionLimit
 un:A.units+16*k+200 < cLine
 gu:A.guards=some []
theorem jD.mono {j k:Nat}{A:Around} (r:jD k A) (h:j<=k):jD j A:=⟨r.hd,by have:=r.dp;omega,by have:=r.un;omega,r.gu⟩
theorem jD.deeper {k:Nat}{A:Around} (r:jD (k+1) A) (env:Env):jD k (A.deeper env):=
 ⟨r.hd,by have:=r.dp;show A.depth+1+3*k+5 < _;omega,by have:=r.un;show A.units+3+16*k+200 < _;omega,r.gu⟩
theorem jD.depth {k:Nat}{A:Around} (r:jD k A):A.depth < recursionLimit:=by have:=r.dp;omega
theorem jD.units {k:Nat}{A:Around} (r:jD k A):A.units+64 < cLine:=by have:=r.un;omega
noncomputable def uL:TA:=fun _ H Q=>Q [] H
noncomputable def oK (ta:TE) (tr:TA):TA:=fun σ H Q=>ta σ H fun x H1=>tr σ H1 fun xs H2=>Q (x::xs) H2
section
variable {X:Cx}{e:Expr}{es:List Expr}{te:TE}{t:TA}{pos:Pos}
theorem oA:PA X [] uL:=fun _ _ _ _ H Q I h=>Calls.spliced_nil ⟨[],H,I,.nil,h⟩
theorem jQ (ha:PE X e te) (hr:PA X es t) (hs:starEach (e::es) X.env=(false,eval e X.env)::starEach es X.env:=by rfl):PA X (e::es) (oK te t):=by
 intro pos pins s σ H Q I h
 rw [hs]
 show aJ _ _ (spliced ((false,eval e X.env)::backTo pos (starEach es X.env))) _ _ s
 refine o4 (thn (ha pins s σ H _ I h) fun u s1 ⟨x,H1,I1,r1,q1⟩ => ?_)
 exact thn (hr pos pins s1 σ H1 _ I1 q1) fun us s2 ⟨xs,H2,I2,r2,q2⟩=>⟨x::xs,H2,I2,.cons r1 r2,q2⟩
noncomputable def J0 (t:TA):TE:=fun σ H Q=>t σ H fun xs H1=>xs.length<=sizeLine /\ ∀ p,H1 p=none->Q (.ref p) (upd H1 p (.tup xs))
noncomputable def Ke (t:TA):TE:=fun σ H Q=>t σ H fun xs H1=>xs.length<=sizeLine /\ ∀ p,H1 p=none->Q (.ref p) (upd H1 p (.lst xs))
theorem Hk {x1} (h:PA X es t):PE X (.Tuple es x1 pos) (J0 t):=by
 intro pins s σ H Q I hq
 refine wpAny_Tuple_spliced (thn (h pos pins s σ H _ I hq) fun us s1 ⟨xs,H1,I1,r,z,q⟩=>⟨by rw [<- r.length];exact z,?_⟩)
 have hf:H1 s1.heap.objs.size=none:=I1.hok.fresh (ak _)
 refine⟨.ref s1.heap.objs.size,upd H1 s1.heap.objs.size (.tup xs),I1.laid (t':=s1.toks) (fun b u e=>aq _ e) (ak _) ?_,rfl,q _ hf⟩
 exact⟨z,us,r,⟨_,aC _ rfl,rfl,_,rfl⟩,_,aC _ rfl,rfl⟩
theorem Gz (h:PA X es t):PE X (.List es pos) (Ke t):=by
 intro pins s σ H Q I hq
 refine wpAny_List_spliced (thn (h pos pins s σ H _ I hq) fun us s1 ⟨xs,H1,I1,r,z,q⟩=>⟨by rw [<- r.length];exact z,?_⟩)
 have hf:H1 s1.heap.objs.size=none:=I1.hok.fresh (ak _)
 refine⟨.ref s1.heap.objs.size,upd H1 s1.heap.objs.size (.lst xs),I1.laid (t':=s1.toks) (fun b u e=>aq _ e) (ak _) ?_,rfl,q _ hf⟩
 exact⟨z,us,0,r,aC _ rfl⟩
end
abbrev Sp:=List V->Hp->VK->XK->Prop
abbrev CXT:=List Env->Hp->Shared->XK->Value->Shared->Prop
structure zz (P:Program) (w:World) (K:aj) (mg:Str->Option Value) (base:Heap) (A:Around) (outer:List Env) (s:Shared) (H:Hp):Prop where
 frames:A.frames=some outer
 mod:Mod K mg base
 bs : ∀ b o,base.get? b=some o->s.heap.get? b=some o/\H b=none
 bsz:base.objs.size<=s.heap.objs.size
 funs:s.heap.FunFrames base outer
 frf : ∀ b∈frs outer,H b=none
 hok:HOk P w H s.heap
 bare:AllBare s.gens
noncomputable def CE (outer:List Env) (P:Program) (w:World) (H:Hp) (s:Shared) (Q:VK) (u:Value) (s':Shared):Prop:=
 ∃ v H',s'.os=s.os/\AllBare s'.gens/\Un (frs outer) [] H H' s.heap s'.heap/\HOk P w H' s'.heap/\RelV v u/\Q v H'
noncomputable def CR (CX:CXT) (outer:List Env) (P:Program) (w:World) (H:Hp) (s:Shared) (Q:VK) (E:XK) (r:Result) (s':Shared):Prop:=
 match r with
 | .ok (.ret u)=>CE outer P w H s Q u s'
 | .ok _=>False
 | .error e=>CX outer H s E e s'
structure lE (P:Program) (w:World) (K:aj) (mg:Str->Option Value) (base:Heap) (CX:CXT) (k:Nat) (f:Addr) (fd:FuncData) (ps:List Str) (sp:Sp):Prop where
 len : ∀ vs H Q E,sp vs H Q E->vs.length=ps.length
 run : ∀ (A:Around) (outer:List Env) (s:Shared) (H:Hp) (args:Args) (us:List Value) (vs:List V) (Q:VK) (E:XK),jD k A->zz P w K mg base A outer s H->BindsTo s fd args (ps.zip us)->bK vs us->sp vs H Q E ->
  rf (model P w) A (.call (.ref f) args) (CR CX outer P w H s Q E) s
section
variable {X:Cx}{pins:List (Addr×Obj)}{σ:St}{H:Hp}{s s':Shared}
theorem Inv.env0 (I:Inv X pins σ H s):zz X.prog X.w X.K X.mg X.base X.A X.stack s H:=
 ⟨I.ok.frames,I.ok.mod,I.bs,bg I.ok.bsz I.sz,I.stack,I.stkFree,I.hok,I.bare⟩
theorem Inv.after {Q:VK}{u:Value} (I:Inv X pins σ H s) (h:CE X.stack X.prog X.w H s Q u s'):EP X pins σ Q u s':=by
 obtain⟨v,H',os,bare,un,hok,r,q⟩:=h
 obtain⟨hh,g,d,t,os'⟩:=s'
 obtain rfl:os'=s.os:=os
 exact⟨v,H',I.call (h':=hh) (g':=g) (d':=d) (t':=t) (ch := []) un hok bare (fun b z=>absurd z (by simp)),r,q⟩
end
noncomputable def yj (sp:Sp) (dvs:List V) (E:XK) (t:TA):TE:=fun σ H Q=>t σ H fun vs H1=>sp (vs++dvs) H1 Q E
noncomputable def Binds (K:aj) (fd:FuncData) (ps:List Str) (ds:List Value):Prop:=
 ∀ (s:Shared) (us:List Value),K.In s.heap->(us++ds).length=ps.length->BindsTo s fd ⟨us,[]⟩ (ps.zip (us++ds))
theorem Binds.all {K:aj}{fd:FuncData}{ps:List Str} (h : ∀ us:List Value,us.length=ps.length->bindArgs fd ⟨us,[]⟩=pure (ps.zip us)):Binds K fd ps []:=fun s us _ hl=>by
 rw [gM] at hl ⊢
 exact .of_eq (h us hl)
noncomputable def ux (CX:CXT) (X:Cx) (E:XK):Prop := ∀ (pins:List (Addr×Obj)) (σ:St) (H:Hp) (s:Shared) (e:Value) (s':Shared),Inv X pins σ H s->CX X.stack H s E e s'->X.xe e s'
section
variable {X:Cx}{CX:CXT}{k:Nat}{f C:Addr}{fd:FuncData}{ps:List Str}{sp:Sp}{dvs:List V}{ds:List Value}{E:XK}{x m:Str}{p pos apos:Pos}{e o:Expr}{es:List Expr}{ta:TE}{t:TA}
theorem tH {pins:List (Addr×Obj)}{σ:St}{H:Hp}{s:Shared}{Q:VK}{us:List Value}{vs:List V} (F:lE X.prog X.w X.K X.mg X.base CX k f fd ps sp) (hr:jD k X.A) (hb:Binds X.K fd ps ds) (hd:bK dvs ds) (hx:ux CX X E)
  (I:Inv X pins σ H s) (r:bK vs us) (h:sp (vs++dvs) H Q E):aJ (model X.prog X.w) X.A (call (.ref f) us) (EP X pins σ Q) X.xe s:=by
 have r2:bK (vs++dvs) (us++ds):=r.append hd
 have hl:(us++ds).length=ps.length:=by rw [<- r2.length];exact F.len _ _ _ _ h
 refine wpAny_call (j5 (F.run X.A X.stack s H ⟨us,[]⟩ (us++ds) (vs++dvs) Q E hr I.env0 (hb s us I.kIn hl) r2 h) fun r s' hq => ?_)
 cases r with
 | error e=>exact hx pins σ H s e s' I hq
 | ok fl=>
   cases fl with
   | ret u=>exact I.after hq
   | next=>exact cD hq
   | brk=>exact cD hq
   | cont=>exact cD hq
theorem Dm (F:lE X.prog X.w X.K X.mg X.base CX k f fd ps sp) (hr:jD k X.A) (hg:Gl X x) (hm:X.mg x=some (.ref f)) (hk:cR X.K (.ref f)=true) (hb:Binds X.K fd ps ds) (hd:bK dvs ds) (hx:ux CX X E)
  (ha:PA X (e::es) t) (hdb:(x == ("__debug__":Str))=false:=by decide) (he:starEach (e::es) X.env=(false,eval e X.env)::starEach es X.env:=by rfl) (hpl:(backTo pos (starEach es X.env)).any (·.1)=false:=by rfl) :
  PE X (.Call (.Name x p) (e::es) [] pos) (yj sp dvs E t):=by
 intro pins s σ H Q I h
 refine fC (pe I hg hm ?_ hdb)
 refine oH (h₀:=X.base) I.ok.mod.kin hk (thn (ha pos pins s σ H _ I h) fun us s1 ⟨vs,H1,I1,r,q⟩=>⟨I1.kIn,?_⟩) he hpl
 exact tH F hr hb hd hx I1 r q
theorem B4 (F:lE X.prog X.w X.K X.mg X.base CX k f fd ps sp) (hr:jD k X.A) (hg:Gl X x) (hm:X.mg x=some (.ref f)) (hk:cR X.K (.ref f)=true) (hb:Binds X.K fd ps ds) (hd:bK dvs ds) (hx:ux CX X E)
  (hdb:(x == ("__debug__":Str))=false:=by decide):PE X (.Call (.Name x p) [] [] pos) (yj sp dvs E uL):=by
 intro pins s σ H Q I h
 refine fC (pe I hg hm ?_ hdb)
 exact PySem.W.callWith_K0 I.kIn hk (tH (us := []) F hr hb hd hx I .nil h)
structure Mk (K:aj) (C f:Addr):Prop where
 makes:PySem.W.makesIn K C=true
 init:jm K (.ref C) "__init__"=some (some (.ref f))
 fn:PySem.W.isFn K (.ref f)=true
 kp:cR K (.ref C)=true
end
section
variable {X:Cx}{CX:CXT}{k:Nat}{f C:Addr}{fd:FuncData}{ps ks:List Str}{sp:Sp}{E:XK}{x m:Str}{p pos apos kpos:Pos}{e o:Expr}{es:List Expr}{kws:List Keyword}{te ta:TE}{t tk:TA}{nm:Option Str}
structure Lp (K:aj) (fd:FuncData) (ps ks:List Str) (g:List Value->List Value->List Value) (gV:List V->List V->List V):Prop where
 to : ∀ (s:Shared) (us ws:List Value),K.In s.heap->(g us ws).length=ps.length->BindsTo s fd ⟨us,ks.zip ws⟩ (ps.zip (g us ws))
 rel : ∀ {vs:List V}{us:List Value}{zs:List V}{ws:List Value},bK vs us->bK zs ws->bK (gV vs zs) (g us ws)
variable {g:List Value->List Value->List Value}{gV:List V->List V->List V}
end
structure bf (N P:List Str) (sc:Scope):Prop where
 kind:sc.kind = .function
 co:sc.isCoroutine=false
 gen:sc.isGenerator=false
 nd:N.Nodup
 pre:N.take P.length=P
 par : ∀ x∈P,sc.names.lookup x=some .local\/sc.names.lookup x=some .cell
 nofree : ∀ y∈sc.names,y.2 ≠ .free
theorem sU {kindOf:Str->Option NameKind}{x:Str} : ∀ {binds:List (Str×Value)}{m:Str->Option Value},(∀ v,(x,v)∉binds)->bindL kindOf binds m x=m x
 | [],_,_=>rfl
 | (n,v)::r,m,h=>by
   unfold bindL
   rw [sU fun w hw=>h w (aA _ hw)]
   split
   ·have:x≠n:=by rintro rfl;exact h v ba
    simp [this]
   ·rfl
theorem sy {kindOf:Str->Option NameKind}{x:Str} : ∀ {binds:List (Str×Value)}{m:Str->Option Value},(∀ v,(x,v)∉binds)->bindC kindOf binds m x=m x
 | [],_,_=>rfl
 | (n,v)::r,m,h=>by
   unfold bindC
   rw [sy fun w hw=>h w (aA _ hw)]
   split
   ·rfl
   ·have:x≠n:=by rintro rfl;exact h v ba
    simp [this]
theorem oo {kindOf:Str->Option NameKind}{x:Str}{v:Value} : ∀ {P:List Str}{vs:List Value}{i:Nat}{m:Str->Option Value},P.Nodup->P[i]? = some x->vs[i]? = some v->kindOf x=some .local ->
  bindL kindOf (P.zip vs) m x=some v
 | [],_,_,_,_,h,_,_=>by simp at h
 | _::_,[],_,_,_,_,h,_=>by simp at h
 | p::P,w::vs,0,m,nd,h1,h2,hk=>by
   simp at h1 h2;subst h1;subst h2
   show bindL kindOf ((p,w)::P.zip vs) m p=_
   unfold bindL
   rw [sU fun v hv=>(fi.mp nd).1 (mM hv).1,if_pos hk]
   simp
 | p::P,w::vs,i+1,m,nd,h1,h2,hk=>by
   show bindL kindOf ((p,w)::P.zip vs) m x=_
   unfold bindL
   exact oo (i:=i) (fi.mp nd).2 (by simpa using h1) (by simpa using h2) hk
theorem oE {kindOf:Str->Option NameKind}{x:Str}{v:Value} : ∀ {P:List Str}{vs:List Value}{i:Nat}{m:Str->Option Value},P.Nodup->P[i]? = some x->vs[i]? = some v->kindOf x≠some .local ->
  bindC kindOf (P.zip vs) m x=some v
 | [],_,_,_,_,h,_,_=>by simp at h
 | _::_,[],_,_,_,_,h,_=>by simp at h
 | p::P,w::vs,0,m,nd,h1,h2,hk=>by
   simp at h1 h2;subst h1;subst h2
   show bindC kindOf ((p,w)::P.zip vs) m p=_
   unfold bindC
   rw [sy fun v hv=>(fi.mp nd).1 (mM hv).1,if_neg hk]
   simp
 | p::P,w::vs,i+1,m,nd,h1,h2,hk=>by
   show bindC kindOf ((p,w)::P.zip vs) m x=_
   unfold bindC
   exact oE (i:=i) (fi.mp nd).2 (by simpa using h1) (by simpa using h2) hk
noncomputable def start (N:List Str) (vs:List V):St:=vs.map some++aK (N.length - vs.length) none
noncomputable def xD (CX:CXT) (P:Program) (w:World) (K:aj) (mg:Str->Option Value) (base:Heap) (N:List Str) (qual:Str) (scope:Scope) (f:Addr) (cd:Value) (A:Around) (outer:List Env) (s:Shared) (H:Hp) (E:XK):Cx where
 prog:=P
 w:=w
 K:=K
 mg:=mg
 base:=base
 A:=A.deeper (envOfC qual scope s.heap.objs.size f cd)
 N:=N
 s₀:=s
 H₀:=H
 env:=envOfC qual scope s.heap.objs.size f cd
 outer:=outer
 stack:=envOfC qual scope s.heap.objs.size f cd::outer
 ex := []
 calm:=true
 fn:=fun _=>true
 pn := []
 xe:=fun e s'=>aJ (model P w) (A.deeper (envOfC qual scope s.heap.objs.size f cd)) (leaving (envOfC qual scope s.heap.objs.size f cd) e) (fun _ s''=>CX outer H s E e s'') (fun e' s''=>CX outer H s E e' s'') s'
theorem iT {sc:Scope}{n:Nat}{x:Str} (h:sc.names.lookup x=some .cell) : ∃ c,(cellsFrom n sc.names []).lookup x=some c:=by
 have q:=gZ sc.names n [] (.inl h)
 exact gm.mp q
theorem z8 {CX:CXT}{P:Program}{w:World}{K:aj}{mg:Str->Option Value}{base:Heap}{N ps:List Str}{qual:Str}{scope:Scope}{f:Addr}{cd:Value}{A:Around}{outer:List Env}{s s1:Shared}{H:Hp}{E:XK}{us:List Value}{vs:List V}
  (S:bf N ps scope) (hd:A.handled=none) (e0:zz P w K mg base A outer s H) (hl:vs.length=ps.length) (r:bK vs us)
  (x:InCallC s s.heap.objs.size (bindL (envOfC qual scope s.heap.objs.size f cd).kindOf (ps.zip us) fun _=>none) (cellsFrom (s.heap.objs.size+1) scope.names []) (bindC (envOfC qual scope s.heap.objs.size f cd).kindOf (ps.zip us) fun _=>none) s1) :
  Inv (xD CX P w K mg base N qual scope f cd A outer s H E) [] (start N vs) H s1:=by
 have hpl:ps.length<=N.length:=by have:=congrArg CQ S.pre;rw [dM] at this;omega
 obtain⟨h1,tk,rfl,hk⟩:=x.done
 have noA : ∀ b:Addr,b∉(xD CX P w K mg base N qual scope f cd A outer s H E).ex:=fun b z=>absurd (show b∈([]:List Addr) from z) (by simp)
 refine⟨⟨e0.mod,S.kind,rfl,rfl,ak _,fun y z c h1 h2 => ?_,fun y hy => ?_,fun y c _ h => ?_,fun _=>hd,Ak e0.frames,.inr ⟨rfl,rfl⟩,fun b z=>absurd z (noA b),e0.bs,e0.bsz,fun b _ _=>noA b,fun b z=>absurd z (noA b),e0.funs,e0.frf⟩,
  rfl,e0.bare,Un.kept hk,⟨_,x.toInCall.ns,fun i y v h1 h2 h3 => ?_⟩,fun y c h=>⟨_,x.cell y c h⟩,e0.hok.fresh (ak _),fun y c h => ?_,fun p hp=>absurd (show p∈([]:List (Addr×Obj)) from hp) (by simp),e0.hok.kept hk,?_⟩
 ·exact name_of_addr x.apart (bN h1) (bN h2)
 ·have hy:scope.names.lookup y=some .cell\/scope.names.lookup y=some .free:=hy
  rcases hy with hy | hy
  ·exact iT hy
  ·exact absurd rfl (S.nofree _ (bN hy))
 ·exact bG (x.above y c (bN h))
 ·have hi:i < vs.length:=by
   unfold start at h2
   by_cases hi:i < vs.length
   ·exact hi
   ·rw [ar (by simpa using hi)] at h2
    rw [g8] at h2
    split at h2 <;> cases h2
  have ha:vs[i]? = some v:=by
   unfold start at h2
   rw [aI (by simpa using hi),bT] at h2
   cases e:vs[i]? with
   | none=>rw [e] at h2;cases h2
   | some a=>rw [e] at h2;cases h2;rfl
  obtain⟨u,hu,rv⟩:=r.get ha
  have hp:ps[i]? = some y:=by
   rw [<- S.pre,List.getElem?_take_of_lt (by omega)];exact h1
  have ndP:ps.Nodup:=by rw [<- S.pre];exact S.nd.sublist (List.take_sublist _ _)
  refine⟨u,rv,?_⟩
  rcases S.par y (dc hp) with k | k
  ·exact .inl ⟨k,oo ndP hp hu k⟩
  ·obtain⟨c,e⟩:=iT (n:=s.heap.objs.size+1) k
   refine .inr ⟨.inl k,c,e,?_⟩
   have q:=x.cell y c e
   rw [oE ndP hp hu (by show scope.names.lookup y≠_;rw [k];decide)] at q
   exact q
 ·exact e0.hok.fresh (bG (x.above y c (bN h)))
 ·unfold start
  show _=N.length
  rw [aH,av,iG]
  omega
theorem yL {CX:CXT}{P:Program}{w:World}{K:aj}{mg:Str->Option Value}{base:Heap}{k:Nat}{f:Addr}{name qual:Str}{params:Arguments}{body:List Stmt}{scope:Scope}{dV kV doc pm cdv ct oc:Value}{an od:Option Addr}
  {osl:Array (Option Value)}{N ps:List Str}{sp:Sp} (lk:K.lookup f=some ⟨oc,od,.func (cX name qual params body scope dV kV doc pm an cdv ct),osl⟩) (hcd:g9 K cdv qual=true) (S:bf N ps scope)
  (len : ∀ vs H Q E,sp vs H Q E->vs.length=ps.length)
  (hbody : ∀ (A:Around) (outer:List Env) (s:Shared) (H:Hp) (vs:List V) (Q:VK) (E:XK),jD k (A.deeper (envOfC qual scope s.heap.objs.size f cdv))->sp vs H Q E ->
   ∃ t,PSs (xD CX P w K mg base N qual scope f cdv A outer s H E) body t/\t { nx:=fun _ H'=>Q .non H',rt:=Q } (start N vs) H) :
  lE P w K mg base CX (k+1) f (cX name qual params body scope dV kV doc pm an cdv ct) ps sp:=by
 refine⟨len,fun A outer s H args us vs Q E hr e0 hb r hsp => ?_⟩
 have hl:=len _ _ _ _ hsp
 have KX:K.In s.heap:=e0.mod.kin.keeps fun b o e=>(e0.bs b o e).1
 have lim:s.heap.NoLimit:=e0.mod.nolimit.keeps fun b o e=>(e0.bs b o e).1
 have hkind : ∀ y∈ps.zip us,scope.names.lookup y.1=some .local\/(scope.names.lookup y.1=some .cell/\((cellsFrom (s.heap.objs.size+1) scope.names []).lookup y.1).isSome=true):=fun⟨n,v⟩ hy=>by
  rcases S.par n (mM hy).1 with q | q
  ·exact .inl q
  ·exact .inr ⟨q,gZ _ _ _ (.inl q)⟩
 refine codeAny_call_function hr.depth (KX _ _ lk) rfl S.co S.gen rfl (PySem.W.codeRec_of KX hcd) (hb _ _ _ _ ?_)
 refine wpAny_newFunctionEnv_cells S.kind hkind fun env he s1 x => ?_
 subst he
 refine⟨lim.keeps x.toInCall.keep,codeAny_func ?_⟩
 obtain⟨t,ht,hq⟩:=hbody A outer s H vs Q E (hr.deeper _) hsp
 have I:Inv (xD CX P w K mg base N qual scope f cdv A outer s H E) [] (start N vs) H s1:=z8 S hr.hd e0 hl r x
 refine cN (ht [] s1 (start N vs) H _ I hq) (fun fl s' hs => ?_) fun e s' hs=>hs
 have fin : ∀ {σ':St}{H':Hp}{v:V}{u:Value},Inv (xD CX P w K mg base N qual scope f cdv A outer s H E) [] σ' H' s'->RelV v u->Q v H'->CE outer P w H s Q u s':=
  fun {σ' H' v u} J rv q=>⟨v,H',J.os,J.bare,J.base,J.hok,rv,q⟩
 cases fl with
 | ret u=>
   obtain⟨v,σ',H',J,rv,q⟩:=hs
   exact fin J rv q
 | next=>
   obtain⟨σ',H',J,q⟩:=hs
   exact fin (v:=V.non) (u:=jF) J rfl q
 | brk=>
   obtain⟨_,_,_,q⟩:=hs
   exact cD q
 | cont=>
   obtain⟨_,_,_,q⟩:=hs
   exact cD q
end L2
namespace L2
open PySem PySem.Spec PyProof.Rows
section
variable {X:Cx}{x:Str}{p pos:Pos}{e:Expr}{es:List Expr}{t:TA}{id T:String}{r:List V->Hp->VK->Prop}
noncomputable def tCB (r:List V->Hp->VK->Prop) (t:TA):TE:=fun σ H Q=>t σ H fun vs H1=>r vs H1 Q
theorem jx (hc:gO X (.builtin id) r) (hg:Gl X x) (hm:X.mg x=none) (hv:bootBuiltins x=some (.builtin id)) (ha:PA X (e::es) t) (hn:x≠"__name__":=by decide) (hdb:(x == ("__debug__":Str))=false:=by decide)
  (he:starEach (e::es) X.env=(false,eval e X.env)::starEach es X.env:=by rfl) (hpl:(backTo pos (starEach es X.env)).any (·.1)=false:=by rfl):PE X (.Call (.Name x p) (e::es) [] pos) (tCB r t):=by
 intro pins s σ H Q I h
 refine fC (kM I hg hm hv ?_ hn hdb)
 exact PyProof.Rows.callWith_builtin1 (thn (ha pos pins s σ H _ I h) fun us s1 ⟨vs,H1,I1,r1,q1⟩=>hc pins s1 σ H1 vs us Q I1 r1 q1) he hpl
theorem jA (hc:gO X (.type T) r) (hg:Gl X x) (hm:X.mg x=none) (hv:bootBuiltins x=some (.type T)) (ha:PA X (e::es) t) (hn:x≠"__name__":=by decide) (hdb:(x == ("__debug__":Str))=false:=by decide)
  (he:starEach (e::es) X.env=(false,eval e X.env)::starEach es X.env:=by rfl) (hpl:(backTo pos (starEach es X.env)).any (·.1)=false:=by rfl):PE X (.Call (.Name x p) (e::es) [] pos) (tCB r t):=by
 intro pins s σ H Q I h
 refine fC (kM I hg hm hv ?_ hn hdb)
 exact cU (thn (ha pos pins s σ H _ I h) fun us s1 ⟨vs,H1,I1,r1,q1⟩=>hc pins s1 σ H1 vs us Q I1 r1 q1) he hpl
end
end L2
namespace HT
open PySem PyProof.Rows
section
open PySem.SeqAt
open PySem.AutoSeq1 (wpAny_loadPart')
open PySem.MeetsSeq PySem.MeetsSeq2 PySem.MeetsSeq3
end
section
variable {prog:Program}{w:World}{A:Around}{E:Value->Shared->Prop}{s:Shared}
theorem cat_tup {t b:Addr}{vs ws:List Value}{Q:Value->Shared->Prop} (ht:IsTup s.heap t vs.toArray) (hb:IsTup s.heap b ws.toArray) (hv:vs ≠ [])
  (h1:ws = []->Q (.ref t) s) (h2:ws ≠ []->Q (.ref s.heap.objs.size) { s with heap:=s.heap.push { cls := .type "tuple",data := .seq (vs++ws).toArray } })
  (hsz:vs.length+ws.length<=sizeLine):aJ (model prog w) A (binaryOp .Add (.ref t) (.ref b)) Q E s:=by
 obtain⟨⟨cls,dd,data,sl⟩,ho,hc,n,hd⟩:=id ht
 obtain⟨⟨cls2,dd2,data2,sl2⟩,ho2,hc2,n2,hd2⟩:=id hb
 simp only at hc hd hc2 hd2
 subst hc hd hc2 hd2
 have e:vs.toArray++ws.toArray=(vs++ws).toArray:=by simp
 by_cases hw:ws = []
 ·exact concat_meets ⟨_,ho,rfl⟩ ⟨_,ho2,rfl⟩ noFill_tuple_add seq_tuple_add kP j6 (jW _ _)
   (tuple_addW1 t b vs.toArray ws.toArray n n2 dd dd2 sl sl2 (by simpa using hv) (by simp [hw])) ⟨ho,ho2,h1 hw⟩
 ·refine concat_meets ⟨_,ho,rfl⟩ ⟨_,ho2,rfl⟩ noFill_tuple_add seq_tuple_add kP j6 (jW _ _)
   (tuple_addW2 t b vs.toArray ws.toArray n n2 dd dd2 sl sl2 (by simpa using hv) (by simpa using hw) (by rw [ay,ay];exact hsz)) ⟨ho,ho2,?_⟩
  rw [e]
  exact h2 hw
noncomputable def sIx (n d:Nat):Option Int->Nat
 | none=>d
 | some v=>if v < 0 then (v+(n:Int)).toNat else min v.toNat n
theorem sIx_nat (n d k:Nat):sIx n d (some (k:Int))=min k n:=by
 show (if (k:Int) < 0 then ((k:Int)+(n:Int)).toNat else min (k:Int).toNat n)=min k n
 rw [if_neg (by omega),Int.toNat_natCast]
theorem G0 (n d:Nat) (hd:d<=n) (o:Option Int):sIx n d o<=n:=by
 cases o with
 | none=>exact hd
 | some v=>
   show (if v < 0 then (v+(n:Int)).toNat else min v.toNat n)<=n
   by_cases hv:v < 0
   ·rw [if_pos hv];omega
   ·rw [if_neg hv];exact Nat.min_le_right _ _
theorem yK (v:Int) (n d:Nat):(if v < 0 then max (v+(n:Int)) 0 else min v (n:Int))=((sIx n d (some v):Nat):Int):=by
 show (if v < 0 then max (v+(n:Int)) 0 else min v (n:Int))=(((if v < 0 then (v+(n:Int)).toNat else min v.toNat n):Nat):Int)
 by_cases hv:v < 0
 ·simp only [if_pos hv];omega
 ·simp only [if_neg hv];omega
theorem xK (lo hi:Option Int) (n:Nat):dH lo hi 1 (n:Int)=(((sIx n 0 lo:Nat):Int),((sIx n n hi:Nat):Int)):=by
 have h1 : ¬ ((1:Int) < 0):=by omega
 unfold dH
 simp only [h1,if_false]
 refine Prod.ext ?_ ?_
 ·cases lo with
  | none=>rfl
  | some v=>exact yK v n 0
 ·cases hi with
  | none=>rfl
  | some v=>exact yK v n n
theorem xB (i j:Nat):bY (i:Int) (j:Int) 1=j - i:=by
 unfold bY
 have h1:(1:Int) > 0:=by omega
 simp only [h1,if_true,Int.ediv_one]
 split <;> omega
theorem slicePart_ {v:Value}{o:Option Int}{Q:Option Int->Shared->Prop} (p:IsPart v o) (h:Q o s):aJ (model prog w) A (Builtin.Slice.slicePartIndex v) Q E s:=by
 cases p with
 | none=>exact slicePart_none h
 | int i t=>exact slicePart_int h
theorem jy {sl:Addr}{vl vu:Value}{lo hi:Option Int}{n:Nat}{Q:Int×Int×Nat->Shared->Prop} (hs:s.heap.IsSliceOf sl vl vu .none) (pl:IsPart vl lo) (pu:IsPart vu hi)
  (h:Q (((sIx n 0 lo:Nat):Int),1,sIx n n hi - sIx n 0 lo) s):aJ (model prog w) A (eR (.ref sl) (pure (n:Int))) Q E s:=by
 obtain⟨os,hos,hcs,hds⟩:=id hs
 unfold eR pG
 refine ag (ag (eE hos hds (x:=vl) rfl (ag (eE hos hds (x:=vu) rfl (ag (eE hos hds (x := .none) rfl (ax ?_)))))))
 refine ag (slicePart_none ?_)
 show aJ _ _ (if ((1:Int) == 0)=true then _ else _) _ _ s
 rw [if_neg (by decide)]
 refine ag (slicePart_ pl (ag (slicePart_ pu (ag (ax ?_)))))
 show aJ _ _ (match dH lo hi 1 (n:Int) with | (lo,hi)=>pure (lo,(1:Int),bY lo hi 1)) _ _ s
 rw [xK lo hi n]
 show aJ _ _ (pure (((sIx n 0 lo:Nat):Int),(1:Int),bY ((sIx n 0 lo:Nat):Int) ((sIx n n hi:Nat):Int) 1)) _ _ s
 rw [xB]
 exact ax h
theorem AR (xs:Array Value) (i k:Nat):((aB k).filterMap fun (m:Nat)=>xs[((i:Int)+(m:Int)*1).toNat]?).toArray=((xs.toList.drop i).take k).toArray:=by
 have e:(fun (m:Nat)=>xs[((i:Int)+(m:Int)*1).toNat]?)=fun m=>xs[i+m]? := by
  funext m
  have:((i:Int)+(m:Int)*1).toNat=i+m:=by omega
  rw [this]
 rw [e]
 have:=pick_run xs i k
 rw [List.filterMap_map] at this
 have e2:((fun x=>xs[x]?)∘fun x=>i+x)=fun m=>xs[i+m]? := rfl
 rw [e2] at this
 rw [this]
theorem getItem_tuple_cut {t sl:Addr}{items:Array Value}{vl vu:Value}{lo hi:Option Int}{Q:Value->Shared->Prop} (ht:IsTup s.heap t items) (hs:s.heap.IsSliceOf sl vl vu .none) (pl:IsPart vl lo) (pu:IsPart vu hi)
  (hw : ¬ (sIx items.size 0 lo=0/\sIx items.size items.size hi=items.size))
  (h:Q (.ref s.heap.objs.size) { s with heap:=s.heap.push { cls := .type "tuple",data := .seq ((items.toList.drop (sIx items.size 0 lo)).take (sIx items.size items.size hi - sIx items.size 0 lo)).toArray } })
  (hsz:items.size<=sizeLine):aJ (model prog w) A (getItem (.ref t) (.ref sl)) Q E s:=by
 have htake:sizeOk (.seq ((items.toList.drop (sIx items.size 0 lo)).take (sIx items.size items.size hi - sIx items.size 0 lo)).toArray):=by
  show ((items.toList.drop (sIx items.size 0 lo)).take (sIx items.size items.size hi - sIx items.size 0 lo)).toArray.size<=sizeLine
  rw [ay,dM,fY,di]
  omega
 have hj:sIx items.size items.size hi<=items.size:=G0 _ _ (ak _) hi
 obtain⟨os,hos,hcs,hds⟩:=id hs
 have hTs:s.TypeIs (.ref sl) "slice":=⟨os,hos,hcs⟩
 unfold getItem
 try with_reducible refine eM ?_
 first | refine ag (ax ?_) | skip
 refine ag (wy ht.typeIs (by decide) ?_)
 refine ag (ff (name:=jG "__getitem__") ht.typeIs cn
  (dY cn ht.typeIs entry_tuple_getitem ?_ (args_tuple_getitem _ _)))
 show aJ _ _ (iH (.ref t) >>= _) _ _ s
 refine ag (tupleItemsOf_ ht ?_)
 refine ag (iY hTs ?_)
 rw [if_pos (by decide)]
 refine ag (jy hs pl pu ?_)
 have hno : ¬ ((((sIx items.size 0 lo:Nat):Int) == 0&&(1:Int) == 1&&(sIx items.size items.size hi - sIx items.size 0 lo) == items.size)=true):=by
  intro q
  rw [az,az] at q
  have q1:((sIx items.size 0 lo:Nat):Int)=0:=eq_of_beq q.1.1
  have q2:sIx items.size items.size hi - sIx items.size 0 lo=items.size:=eq_of_beq q.2
  exact hw ⟨by omega,by omega⟩
 show aJ _ _ (if (((sIx items.size 0 lo:Nat):Int) == 0&&(1:Int) == 1&&(sIx items.size items.size hi - sIx items.size 0 lo) == items.size)=true then _ else _) _ _ s
 rw [if_neg hno,AR]
 first
  | exact ag (m:=bE _) (bx (ax ⟨_,rfl,ax h⟩) htake)
  | exact ag (m:=bE _) (bx (ag (ax (ax ⟨_,rfl,ax h⟩))) htake)
  | exact ag (ag (m:=bE _) (bx (ax (ax ⟨_,rfl,ax h⟩)) htake))
  | exact ag (ag (m:=bE _) (bx (ax ⟨_,rfl,ax h⟩) htake))
end
end HT
namespace L2
open PySem PySem.Spec PyProof.Rows
abbrev TO:=St->Hp->(Option Int->Hp->Prop)->Prop
noncomputable def PO (X:Cx) (e:Option Expr) (t:TO):Prop:=
 ∀ (pins:List (Addr×Obj)) (s:Shared) (σ:St) (H:Hp) (Q:Option Int->Hp->Prop),Inv X pins σ H s->t σ H Q ->
  aJ (model X.prog X.w) X.A (evalPart e X.env) (fun u s' => ∃ o H',Inv X pins σ H' s'/\IsPart u o/\Q o H') X.xe s
noncomputable def yw:TO:=fun _ H Q=>Q none H
noncomputable def Fj (t:TE):TO:=fun σ H Q=>t σ H fun x H1 => ∃ i,x = .int i/\Q (some i) H1
section
variable {X:Cx}{e:Expr}{te:TE}{lo hi:Option Expr}{tl th:TO}{pos p2:Pos}
theorem DA:PO X none yw:=by
 intro pins s σ H Q I h
 rw [evalPart_none]
 exact ax ⟨none,H,I,.none,h⟩
theorem DE (h:PE X e te):PO X (some e) (Fj te):=by
 intro pins s σ H Q I hw
 rw [evalPart_some]
 refine thn (h pins s σ H _ I hw) fun u s1 ⟨x,H1,I1,r1,q1⟩ => ?_
 obtain⟨i,rfl,q⟩:=q1
 obtain⟨t,rfl⟩:=r1
 exact⟨some i,H1,I1,.int i t,q⟩
noncomputable def SlR (X:Cx) (r:V->Option Int->Option Int->Hp->VK->Prop):Prop:=
 ∀ (pins:List (Addr×Obj)) (s:Shared) (σ:St) (H:Hp) (x:V) (v vl vu:Value) (lo hi:Option Int) (sl:Addr) (Q:VK),Inv X pins σ H s->RelV x v->s.heap.IsSliceOf sl vl vu .none->IsPart vl lo->IsPart vu hi->r x lo hi H Q ->
  ∃ T id,typeLookup (.type T) "__getitem__"=pure (some (.builtin id))/\s.TypeIs v T/\aJ (model X.prog X.w) X.A (getItem v (.ref sl)) (EP X pins σ Q) X.xe s
theorem SlR.or {r r':V->Option Int->Option Int->Hp->VK->Prop} (h:SlR X r) (h':SlR X r'):SlR X (fun x lo hi H Q=>r x lo hi H Q\/r' x lo hi H Q):=by
 intro pins s σ H x v vl vu lo hi sl Q I rx hs pl pu q
 rcases q with q | q
 ·exact h pins s σ H x v vl vu lo hi sl Q I rx hs pl pu q
 ·exact h' pins s σ H x v vl vu lo hi sl Q I rx hs pl pu q
noncomputable def tSl (r:V->Option Int->Option Int->Hp->VK->Prop) (te:TE) (tl th:TO):TE:=fun σ H Q=>te σ H fun x H1=>tl σ H1 fun l H2=>th σ H2 fun u H3=>r x l u H3 Q
theorem Cd {r:V->Option Int->Option Int->Hp->VK->Prop} (hr:SlR X r) (he:PE X e te) (hl:PO X lo tl) (hu:PO X hi th):PE X (.Subscript e (.Slice lo hi none p2) pos) (tSl r te tl th):=by
 intro pins s σ H Q I h
 refine Subscript_ (thn (he pins s σ H _ I h) fun v s1 ⟨x,H1,I1,r1,q1⟩ => ?_)
 refine wpAny_Slice (thn (hl pins s1 σ H1 _ I1 q1) fun vl s2 ⟨l,H2,I2,pl,q2⟩=>thn (hu pins s2 σ H2 _ I2 q2) fun vu s3 ⟨u,H3,I3,pu,q3⟩ => ?_)
 rw [evalPart_none]
 refine ax ?_
 have I4:Inv X pins σ H3 { s3 with heap:=s3.heap.push { cls := .type "slice",data := .fields #[vl,vu,.none] } }:=I3.kept (t':=s3.toks) fun b ob q=>aq _ q
 obtain⟨T,id,hT,ht,hg⟩:=hr pins { s3 with heap:=s3.heap.push { cls := .type "slice",data := .fields #[vl,vu,.none] } } σ H3 x v vl vu l u s3.heap.objs.size Q I4 r1 (ll ..) pl pu q3
 show aJ (model X.prog X.w) X.A (subscriptTail e (.Slice lo hi none p2) v (.ref s3.heap.objs.size)) (EP X pins σ Q) X.xe { s3 with heap:=s3.heap.push { cls := .type "slice",data := .fields #[vl,vu,.none] } }
 exact tail_any (ops := [.ref s3.heap.objs.size,v]) ht hT hg (by with_unfolding_all rfl)
noncomputable def uO (xs:List V) (lo hi:Option Int):List V:=(xs.drop (HT.sIx xs.length 0 lo)).take (HT.sIx xs.length xs.length hi - HT.sIx xs.length 0 lo)
theorem oM (xs:List V) (lo hi:Option Int):(uO xs lo hi).length<=xs.length:=by
 unfold uO
 rw [dM,fY]
 omega
noncomputable def Jw (K:aj):V->Option Int->Option Int->Hp->VK->Prop:=fun x lo hi H Q => ∃ a xs,x = .ref a/\SqT K H a xs /\
 ¬ (HT.sIx xs.length 0 lo=0/\HT.sIx xs.length xs.length hi=xs.length) /\ ∀ p,H p=none->Q (.ref p) (upd H p (.tup (uO xs lo hi)))
theorem Gf:SlR X (Jw X.K):=by
 intro pins s σ H x v vl vu lo hi sl Q I rx hs pl pu h
 obtain⟨a,xs,rfl,hx,hw,q⟩:=h
 cases rx
 obtain⟨its,r,ht,hz⟩:=I.tuple hx
 have hlen:its.toArray.size=xs.length:=by rw [ay];exact r.length.symm
 refine⟨"tuple",_,PyProof.Rows.slot_tuple_getitem.lookup,ht.typeIs,?_⟩
 refine HT.getItem_tuple_cut ht hs pl pu (by rw [hlen];exact hw) ?_ (by rw [hlen];exact hz)
 rw [hlen]
 refine⟨.ref s.heap.objs.size,_,I.laid (t':=s.toks) (o := .tup (uO xs lo hi)) (fun b ob q=>aq _ q) (ak _) ?_,rfl,q _ (I.hok.fresh (ak _))⟩
 exact⟨bg (oM xs lo hi) hz,_,(r.drop (HT.sIx xs.length 0 lo)).take (HT.sIx xs.length xs.length hi - HT.sIx xs.length 0 lo),kQ _ _,_,aC _ rfl,rfl⟩
noncomputable def Fv (K:aj):R2:=fun x y H Q => ∃ a b xs ys,x = .ref a/\y = .ref b/\SqT K H a xs/\SqT K H b ys/\xs ≠ []/\xs.length+ys.length<=sizeLine /\
 (ys = []->Q (.ref a) H)/\(ys ≠ [] -> ∀ p,H p=none->Q (.ref p) (upd H p (.tup (xs++ys))))
theorem bK.nil_iff {xs:List V}{us:List Value} (r:bK xs us):us = []↔xs = []:=by
 cases r with
 | nil=>simp
 | cons _ _=>simp
theorem En:OpR X (binaryOp .Add) (Fv X.K):=by
 intro pins s σ H x y v u Q I rx ry h
 obtain⟨a,b,xs,ys,rfl,rfl,ha,hb,hx,hz,q1,q2⟩:=h
 cases rx
 cases ry
 obtain⟨its,r1,p1,_⟩:=I.tuple ha
 obtain⟨its2,r2,p2,_⟩:=I.tuple hb
 refine HT.cat_tup p1 p2 (fun z=>hx (r1.nil_iff.mp z)) (fun z=>⟨.ref a,H,I,rfl,q1 (r2.nil_iff.mp z)⟩) (fun z => ?_) (by rw [<- r1.length,<- r2.length];exact hz)
 refine⟨.ref s.heap.objs.size,_,I.laid (t':=s.toks) (o := .tup (xs++ys)) (fun b ob q=>aq _ q) (ak _) ?_,rfl,q2 (fun w=>z (r2.nil_iff.mpr w)) _ (I.hok.fresh (ak _))⟩
 exact⟨by rw [aH];exact hz,_,r1.append r2,kQ _ _,_,aC _ rfl,rfl⟩
end
end L2
namespace L2
open PySem PySem.Spec PyProof.Rows
noncomputable def ixN (n:Nat) (i:Int):Option Nat:=if 0<=i then (if i < n then some i.toNat else none) else if -(n:Int)<=i then some (i+n).toNat else none
noncomputable def atI {α:Type} (xs:List α) (i:Int):Option α:=(ixN xs.length i).bind fun j=>xs[j]?
theorem yD {n:Nat}{i:Int}{j:Nat} (h:ixN n i=some j):seqIndex? i n=some j/\j < n /\ -(n:Int)<=i/\i < n:=by
 unfold ixN at h
 by_cases h0:0<=i
 ·rw [if_pos h0] at h
  by_cases h1:i < n
  ·rw [if_pos h1] at h
   have e:i.toNat=j:=bq h
   exact⟨by rw [seqIndex_of h0 h1,e],by omega,by omega,h1⟩
  ·rw [if_neg h1] at h;cases h
 ·rw [if_neg h0] at h
  by_cases h1 : -(n:Int)<=i
  ·rw [if_pos h1] at h
   have e:(i+n).toNat=j:=bq h
   exact⟨by rw [seqIndex_neg (by omega) h1,e],by omega,h1,by omega⟩
  ·rw [if_neg h1] at h;cases h
theorem tX {α:Type}{xs:List α}{i:Int}{v:α} (h:atI xs i=some v) : ∃ j,seqIndex? i xs.length=some j/\xs[j]? = some v/\j < xs.length /\ -(xs.length:Int)<=i/\i < xs.length:=by
 unfold atI at h
 cases e:ixN xs.length i with
 | none=>rw [e] at h;cases h
 | some j=>
   rw [e] at h
   obtain⟨h1,h2,h3,h4⟩:=yD e
   exact⟨j,h1,h,h2,h3,h4⟩
noncomputable def um (b:Expr):Prop := ∀ o i,subscripted b false o i=operate [o,i] (getItem o i)
noncomputable def IxR (X:Cx) (r:R2):Prop:=
 ∀ (value slice:Expr) (pins:List (Addr×Obj)) (s:Shared) (σ:St) (H:Hp) (x y:V) (v u:Value) (Q:VK),Inv X pins σ H s->RelV x v->RelV y u->r x y H Q ->
  subscripted slice false v u=operate [v,u] (getItem v u)->aJ (model X.prog X.w) X.A (subscriptTail value slice v u) (EP X pins σ Q) X.xe s
noncomputable def MtR (X:Cx) (id:String) (r:V->List V->Hp->VK->Prop):Prop:=
 ∀ (pins:List (Addr×Obj)) (s:Shared) (σ:St) (H:Hp) (x:V) (xs:List V) (v:Value) (us:List Value) (Q:VK),Inv X pins σ H s->RelV x v->bK xs us->r x xs H Q ->
  aJ (model X.prog X.w) X.A (call (.builtin id) (v::us)) (EP X pins σ Q) X.xe s
section
variable {X:Cx}{a b:Expr}{ta tb:TE}{pos:Pos}
theorem IxR.or {r r':R2} (h:IxR X r) (h':IxR X r'):IxR X (fun x y H Q=>r x y H Q\/r' x y H Q):=by
 intro value slice pins s σ H x y v u Q I rx ry q hs
 rcases q with q | q
 ·exact h value slice pins s σ H x y v u Q I rx ry q hs
 ·exact h' value slice pins s σ H x y v u Q I rx ry q hs
theorem Kx {r:R2} (hr:IxR X r) (ha:PE X a ta) (hb:PE X b tb) (hs:um b):PE X (.Subscript a b pos) (tOp r ta tb):=by
 intro pins s σ H Q I h
 exact Subscript_ (GV ha hb I h fun v u s2 x y H2 I2 rx ry q=>hr a b pins s2 σ H2 x y v u Q I2 rx ry q (hs _ _))
noncomputable def Jq (K:aj):R2:=fun x y H Q => ∃ p xs i v,x = .ref p/\y = .int i/\SqL K H p xs/\atI xs i=some v/\Q v H
noncomputable def Kz (K:aj):R2:=fun x y H Q => ∃ p xs i v,x = .ref p/\y = .int i/\SqT K H p xs/\atI xs i=some v/\Q v H
noncomputable def Kk:R2:=fun x y H Q => ∃ z i c,x = .str z/\y = .int i/\z.length<=sizeLine/\atI z.cps.toList i=some c/\Q (.str ⟨#[c]⟩) H
theorem Eu:IxR X (Jq X.K):=by
 intro value slice pins s σ H x y v u Q I rx ry h hs
 obtain⟨p,xs,i,z,rfl,rfl,hq,he,q⟩:=h
 cases rx
 obtain⟨t,rfl⟩:=ry
 obtain⟨its,r,pl,hz⟩:=I.list hq
 obtain⟨j,h1,h2,h3,h4,h5⟩:=tX he
 obtain⟨w,ew,rw'⟩:=r.get h2
 have hl:=r.length
 have hn:=mJ
 have fin:EP X pins σ Q w s:=⟨z,H,I,rw',q⟩
 by_cases h0:0<=i
 ·have hj:i.toNat=j:=by
   rw [seqIndex_of h0 h5] at h1
   exact bq h1
  exact item_listR pl.isList h0 (by omega) (by rw [hj];simpa using ew) fin hs
 ·have hj:(i+(its.toArray.size:Int)).toNat=j:=by
   rw [seqIndex_neg (by omega) h4] at h1
   rw [ay,<- hl]
   exact bq h1
  exact subscriptTail_builtinR (x:=w) pl.isList.typeIs slot_list_getitem.lookup
   (wpAny_getItem_list_neg (Q:=fun r s'=>r=w/\EP X pins σ Q r s') pl.isList (by omega) (by rw [ay] <;> omega) (by omega) (by rw [hj];simpa using ew) ⟨rfl,fin⟩) hs
theorem GU:IxR X (Kz X.K):=by
 intro value slice pins s σ H x y v u Q I rx ry h hs
 obtain⟨p,xs,i,z,rfl,rfl,hq,he,q⟩:=h
 cases rx
 obtain⟨t,rfl⟩:=ry
 obtain⟨its,r,pl,hz⟩:=I.tuple hq
 obtain⟨j,h1,h2,h3,h4,h5⟩:=tX he
 obtain⟨w,ew,rw'⟩:=r.get h2
 have hl:=r.length
 have hn:=mJ
 have fin:EP X pins σ Q w s:=⟨z,H,I,rw',q⟩
 exact subscriptTail_builtinR (x:=w) pl.typeIs slot_tuple_getitem.lookup
  (getItem_tuple (j:=j) (Q:=fun r s'=>r=w/\EP X pins σ Q r s') pl (by omega) (by omega) (by rw [ay,<- hl];exact h1) (by simpa using ew) ⟨rfl,fin⟩) hs
theorem Hn:IxR X Kk:=by
 intro value slice pins s σ H x y v u Q I rx ry h hs
 obtain⟨z,i,c,rfl,rfl,hz,he,q⟩:=h
 obtain⟨t,rfl⟩:=rx
 obtain⟨t',rfl⟩:=ry
 obtain⟨j,h1,h2,h3,h4,h5⟩:=tX he
 have hl:z.cps.toList.length=z.length:=by simp [Str.length]
 rw [hl] at h1 h4 h5
 have hn:=mJ
 exact tail_any (typeIs_str s z t) slot_str_getitem.lookup (getItem_str (c:=c) (by
  have e1:decide (i < -(2 ^ 63:Int))=false:=decide_eq_false (by omega)
  have e2:decide (i >= 2 ^ 63)=false:=decide_eq_false (by omega)
  rw [e1,e2,Bool.or_false]) (by rw [h1];simpa using h2) ⟨.str ⟨#[c]⟩,H,I.tok _,⟨_,rfl⟩,q⟩) hs
noncomputable def rIx (K:aj):R2:=fun x y H Q=>Jq K x y H Q\/Kz K x y H Q\/Kk x y H Q
theorem Hu:IxR X (rIx X.K):=Eu.or (GU.or Hn)
theorem xJ (its:List Value) (n j:Nat) (u:Value):dv (·.setIfInBounds j u) { cls := .type "list",data := .seq its.toArray n }={ cls := .type "list",data := .seq (its.set j u).toArray n }:=by
 simp [dv]
theorem Inv.lst {pins:List (Addr×Obj)}{σ:St}{H:Hp}{s:Shared}{p:Addr}{xs:List V} (I:Inv X pins σ H s) (h:H p=some (.lst xs)) :
  ∃ (its:List Value) (n:Nat),bK xs its/\s.heap.get? p=some { cls := .type "list",data := .seq its.toArray n }/\xs.length<=sizeLine:=by
 obtain⟨z,its,n,r,e⟩:=I.hok p _ h
 exact⟨its,n,r,e,z⟩
theorem Inv.lstUpd {pins:List (Addr×Obj)}{σ:St}{H:Hp}{s:Shared}{p:Addr}{xs ys:List V}{its its':List Value}{n n':Nat}{f:Obj->Obj} (I:Inv X pins σ H s) (h:H p=some (.lst xs))
  (ho:s.heap.get? p=some { cls := .type "list",data := .seq its.toArray n }) (hf:f { cls := .type "list",data := .seq its.toArray n }={ cls := .type "list",data := .seq its'.toArray n' }) (r:bK ys its') (hz:ys.length<=sizeLine) (t:Nat) :
  Inv X pins σ (upd H p (.lst ys)) { s with heap:=s.heap.update p f,toks:=t }:=by
 have e:(s.heap.update p f).get? p=some { cls := .type "list",data := .seq its'.toArray n' }:=by
  rw [dS f ho (by rw [hf] <;> rfl),hf]
 refine I.write (x:=p) (e:=p) (by rw [h];trivial) (.inl rfl) (fun b u hb q=>(dj _ _ (eg hb)).trans q) ⟨_,e⟩ ?_
 exact⟨hz,its',n',r,e⟩
noncomputable def FQ:V->V->V->Hp->(Hp->Prop)->Prop:=fun o i v H Q => ∃ p xs k j,o = .ref p/\i = .int k/\H p=some (.lst xs)/\ixN xs.length k=some j/\Q (upd H p (.lst (xs.set j v)))
theorem set_list:GQ X FQ:=by
 intro pins s σ H o i v ov iv u Q I ro ri rv h
 obtain⟨p,xs,k,j,rfl,rfl,hp,hj,q⟩:=h
 cases ro
 obtain⟨t,rfl⟩:=ri
 obtain⟨its,n,r,ho,hz⟩:=I.lst hp
 obtain⟨h1,h2,h3,h4⟩:=yD hj
 have hl:=r.length
 have hn:=mJ
 have I':Inv X pins σ (upd H p (.lst (xs.set j v))) { s with heap:=s.heap.update p (dv (·.setIfInBounds j u)) }:=
  I.lstUpd hp ho (xJ its n j u) (r.set rv j) (by rw [fj];exact hz) s.toks
 by_cases h0:0<=k
 ·have hk:k.toNat=j:=by
   rw [seqIndex_of h0 h4] at h1
   exact bq h1
  exact PySem.W.ki_setAt ho h0 (by omega) (by rw [ay,<- hl];exact h4) (by rw [hk];exact⟨_,I',q⟩)
 ·have hk:(k+(its.toArray.size:Int)).toNat=j:=by
   rw [seqIndex_neg (by omega) h3] at h1
   rw [ay,<- hl]
   exact bq h1
  exact PySem.W.ki_setBack ho (by omega) (by rw [ay,<- hl];exact h3) (by omega) (by rw [hk];exact⟨_,I',q⟩)
theorem uy (lo hi:Option Int) (n:Nat):(sliceBounds lo hi none n).1=((HT.sIx n 0 lo:Nat):Int)/\(sliceBounds lo hi none n).2.1=((HT.sIx n n hi:Nat):Int)/\(sliceBounds lo hi none n).2.2=1:=by
 refine⟨?_,?_,rfl⟩
 ·cases lo with
  | none=>simp [sliceBounds,HT.sIx]
  | some i=>
    simp only [sliceBounds,HT.sIx,Option.getD_none,show (1:Int) > 0 by decide,if_true]
    by_cases h:i < 0
    ·simp only [h,if_true] <;> omega
    ·simp only [h,if_false] <;> omega
 ·cases hi with
  | none=>simp [sliceBounds,HT.sIx]
  | some i=>
    simp only [sliceBounds,HT.sIx,Option.getD_none,show (1:Int) > 0 by decide,if_true]
    by_cases h:i < 0
    ·simp only [h,if_true] <;> omega
    ·simp only [h,if_false] <;> omega
theorem rq (its:List Value) (lo hi:Option Int):slicePick its.toArray lo hi none=((its.drop (HT.sIx its.length 0 lo)).take (HT.sIx its.length its.length hi - HT.sIx its.length 0 lo)).toArray:=by
 obtain⟨h1,h2,h3⟩:=uy lo hi its.toArray.size
 unfold slicePick
 rw [h1,h2,h3]
 simp only [sliceRange_one,pick_run,ay] <;> rfl
noncomputable def Kv (K:aj):V->Option Int->Option Int->Hp->VK->Prop:=fun x lo hi H Q => ∃ a xs,x = .ref a/\SqL K H a xs /\ ∀ p,H p=none->Q (.ref p) (upd H p (.lst (uO xs lo hi)))
theorem EL:SlR X (Kv X.K):=by
 intro pins s σ H x v vl vu lo hi sl Q I rx hs pl pu h
 obtain⟨a,xs,rfl,hx,q⟩:=h
 cases rx
 obtain⟨its,r,ht,hz⟩:=I.list hx
 have hlen:=r.length
 refine⟨"list",_,slot_list_getitem.lookup,ht.isList.typeIs,?_⟩
 refine wpAny_getItem_list_slice ht.isList hs pl pu .none (by simp) ?_ (by rw [ay] <;> omega)
 rw [rq,<- hlen]
 refine⟨.ref s.heap.objs.size,_,I.laid (t':=s.toks) (o := .lst (uO xs lo hi)) (fun b ob q=>aq _ q) (ak _) ?_,rfl,q _ (I.hok.fresh (ak _))⟩
 exact⟨bg (oM xs lo hi) hz,_,0,(r.drop (HT.sIx xs.length 0 lo)).take (HT.sIx xs.length xs.length hi - HT.sIx xs.length 0 lo),aC _ rfl⟩
noncomputable def lN:V->Bool
 | .non=>true
 | .bl _=>true
 | .int _=>true
 | .str _=>true
 | _=>false
noncomputable def eqV:V->V->Bool
 | .non,.non=>true
 | .bl a,.bl b=>a == b
 | .bl a,.int b=>(if a then 1 else 0) == b
 | .int a,.bl b=>a == (if b then 1 else 0)
 | .int a,.int b=>a == b
 | .str a,.str b=>a == b
 | _,_=>false
theorem G4 {A:Around}{s:Shared}{y x:V}{u v:Value} (ry:RelV y u) (rx:RelV x v) (fy:lN y=true) (fx:lN x=true):SeqAt.EqAt A s u v (eqV y x):=by
 cases y with
 | non=>
   cases ry
   cases x with
   | non=>cases rx;exact SeqAt.EqAt.same _
   | bl b=>cases rx;exact SeqAt.EqAt.none_bool b
   | int b=>obtain⟨t,rfl⟩:=rx;exact SeqAt.EqAt.none_int b t
   | str b=>obtain⟨t,rfl⟩:=rx;exact SeqAt.EqAt.none_str b t
   | _=>exact absurd (show false=true from fx) bJ
 | bl a=>
   cases ry
   cases x with
   | non=>cases rx;exact SeqAt.EqAt.bool_none a
   | bl b=>cases rx;exact SeqAt.EqAt.bool_bool a b
   | int b=>obtain⟨t,rfl⟩:=rx;exact SeqAt.EqAt.bool_int a b t
   | str b=>obtain⟨t,rfl⟩:=rx;exact SeqAt.EqAt.bool_str a b t
   | _=>exact absurd (show false=true from fx) bJ
 | int a=>
   obtain⟨t',rfl⟩:=ry
   cases x with
   | non=>cases rx;exact SeqAt.EqAt.int_none a t'
   | bl b=>cases rx;exact SeqAt.EqAt.int_bool a t' b
   | int b=>obtain⟨t,rfl⟩:=rx;exact SeqAt.EqAt.int_int a t' b t
   | str b=>obtain⟨t,rfl⟩:=rx;exact yV a t' b t
   | _=>exact absurd (show false=true from fx) bJ
 | str a=>
   obtain⟨t',rfl⟩:=ry
   cases x with
   | non=>cases rx;exact SeqAt.EqAt.str_none a t'
   | bl b=>cases rx;exact SeqAt.EqAt.str_bool a t' b
   | int b=>obtain⟨t,rfl⟩:=rx;exact yW a t' b t
   | str b=>obtain⟨t,rfl⟩:=rx;exact SeqAt.EqAt.str_str a t' b t
   | _=>exact absurd (show false=true from fx) bJ
 | _=>exact absurd (show false=true from fy) bJ
noncomputable def eqU (x:V) (u:Value):Bool:=match u with
 | .none=>eqV .non x
 | .bool b=>eqV (.bl b) x
 | .int i _=>eqV (.int i) x
 | .str z _=>eqV (.str z) x
 | _=>false
theorem BU {x y:V}{u:Value} (r:RelV y u) (f:lN y=true):eqU x u=eqV y x:=by
 cases y with
 | non=>cases r;rfl
 | bl b=>cases r;rfl
 | int i=>obtain⟨t,rfl⟩:=r;rfl
 | str z=>obtain⟨t,rfl⟩:=r;rfl
 | _=>exact absurd (show false=true from f) bJ
theorem nD {x:V} : ∀ {xs:List V}{us:List Value},bK xs us->xs.all lN=true->us.any (eqU x)=xs.any fun y=>eqV y x
 | _,_,.nil,_=>rfl
 | y::xs,u::us,.cons r t,f=>by
   rw [cm,az] at f
   rw [gK,gK,BU r f.1,nD t f.2]
theorem ki {A:Around}{s:Shared}{x:V}{v:Value} (rx:RelV x v) (fx:lN x=true) : ∀ {xs:List V}{us:List Value},bK xs us->xs.all lN=true -> ∀ u∈us,SeqAt.EqAt A s u v (eqU x u)
 | _,_,.nil,_=>fun u hu=>by cases hu
 | y::xs,u::us,.cons r t,f=>fun u' hu=>by
   rw [cm,az] at f
   rcases aX.mp hu with rfl | hu
   ·rw [BU r f.1];exact G4 r rx f.1 fx
   ·exact ki rx fx t f.2 u' hu
noncomputable def inV (x:V) (xs:List V):Bool:=xs.any fun y=>eqV y x
noncomputable def rIn (K:aj) (neg:Bool):R2:=fun x y H Q => ∃ p xs,y = .ref p/\(SqL K H p xs\/SqT K H p xs)/\lN x=true/\xs.all lN=true/\Q (.bl (if neg then !inV x xs else inV x xs)) H
theorem zh:OpR X (compareOp .In) (rIn X.K false):=by
 intro pins s σ H x y v u Q I rx ry h
 obtain⟨p,xs,rfl,hq,fx,fs,q⟩:=h
 cases ry
 rcases hq with hq | hq
 ·obtain⟨its,r,pl,hz⟩:=I.list hq
  refine SeqAt.in_listAt (eqU x) pl.isList (fun w hw=>ki rx fx r fs w (by simpa using hw)) ⟨.bl _,H,I,rfl,?_⟩
  rw [show its.toArray.any (eqU x)=its.any (eqU x) by simp,nD r fs]
  exact q
 ·obtain⟨its,r,pl,hz⟩:=I.tuple hq
  refine SeqAt.in_tupleAt (eqU x) pl (fun w hw=>ki rx fx r fs w (by simpa using hw)) ⟨.bl _,H,I,rfl,?_⟩
  rw [show its.toArray.any (eqU x)=its.any (eqU x) by simp,nD r fs]
  exact q
theorem tI:OpR X (compareOp .NotIn) (rIn X.K true):=by
 intro pins s σ H x y v u Q I rx ry h
 obtain⟨p,xs,rfl,hq,fx,fs,q⟩:=h
 cases ry
 rcases hq with hq | hq
 ·obtain⟨its,r,pl,hz⟩:=I.list hq
  refine SeqAt.notIn_listAt (eqU x) pl.isList (fun w hw=>ki rx fx r fs w (by simpa using hw)) ⟨.bl _,H,I,rfl,?_⟩
  rw [show its.toArray.any (eqU x)=its.any (eqU x) by simp,nD r fs]
  exact q
 ·obtain⟨its,r,pl,hz⟩:=I.tuple hq
  refine SeqAt.notIn_tupleAt (eqU x) pl (fun w hw=>ki rx fx r fs w (by simpa using hw)) ⟨.bl _,H,I,rfl,?_⟩
  rw [show its.toArray.any (eqU x)=its.any (eqU x) by simp,nD r fs]
  exact q
theorem uk:gO X (.builtin "len") (fun xs H Q => ∃ p ys,xs = [.ref p]/\(SqL X.K H p ys\/SqT X.K H p ys)/\Q (.int ys.length) H):=by
 intro pins s σ H xs us Q I r h
 obtain⟨p,ys,rfl,hq,q⟩:=h
 obtain⟨u,rfl,rx⟩:=vals1 r
 cases rx
 have hn:=mJ
 rcases hq with hq | hq
 ·obtain⟨its,r',pl,hz⟩:=I.list hq
  have hlen:=r'.length
  exact Calls.call_len_list pl.isList (by simp only [ay] <;> omega) ⟨.int ys.length,H,I.tok _,⟨s.toks+1,by rw [ay,hlen]⟩,q⟩
 ·obtain⟨its,r',pl,hz⟩:=I.tuple hq
  have hlen:=r'.length
  exact len_tuple pl (by simp only [ay] <;> omega) ⟨.int ys.length,H,I.tok _,⟨s.toks+1,by rw [ay,hlen]⟩,q⟩
theorem gO.or {f:Value}{r r':List V->Hp->VK->Prop} (h:gO X f r) (h':gO X f r'):gO X f (fun xs H Q=>r xs H Q\/r' xs H Q):=by
 intro pins s σ H xs us Q I rs q
 rcases q with q | q
 ·exact h pins s σ H xs us Q I rs q
 ·exact h' pins s σ H xs us Q I rs q
theorem rR:gO X (.type "tuple") (fun xs H Q => ∃ p ys,xs = [.ref p]/\((SqL X.K H p ys /\ ∀ l,H l=none->Q (.ref l) (upd H l (.tup ys)))\/(SqT X.K H p ys/\Q (.ref p) H))):=by
 intro pins s σ H xs us Q I r h
 obtain⟨p,ys,rfl,h⟩:=h
 obtain⟨u,rfl,rx⟩:=vals1 r
 cases rx
 rcases h with⟨hq,q⟩ | ⟨hq,q⟩
 ·obtain⟨its,r',pl,hz⟩:=I.list hq
  have hlen:=r'.length
  refine call_tuple_list pl.isList (fun h' kp => ?_) (by simp only [ay] <;> omega)
  have I1:Inv X pins σ H { s with heap:=h' }:=I.kept (t':=s.toks) kp
  have I2:Inv X pins σ (upd H h'.objs.size (.tup ys)) { s with heap:=h'.push { cls := .type "tuple",data := .seq its.toArray } }:=
   I1.laid (t':=s.toks) (fun b o e=>aq _ e) (ak _) (show dW X.prog X.w _ _ _ (.tup ys) from⟨hz,its,r',kQ _ _,_,aC _ rfl,rfl⟩)
  exact⟨.ref h'.objs.size,_,I2,rfl,q _ (I1.hok.fresh (ak _))⟩
 ·obtain⟨its,r',pl,hz⟩:=I.tuple hq
  exact call_tuple_same pl ⟨.ref p,H,I,rfl,q⟩
noncomputable def tyV (K:aj) (T:String) (x:V) (H:Hp):Prop:=match x with
 | .str _=>T="str"
 | .int _=>T="int"
 | .ref p=>(T="list" /\ ∃ xs,SqL K H p xs)\/(T="tuple" /\ ∃ o,K.lookup p=some o/\o.cls = .type "tuple"/\o.dict=none) \/
   (T="dict"/\((∃ kvs,H p=some (.dK kvs)) \/ ∃ kvs,H p=some (.dT kvs)))\/(T="set" /\ ∃ S n,H p=some (.set S n))
 | _=>False
theorem Cr {pins:List (Addr×Obj)}{σ:St}{H:Hp}{s:Shared}{T:String}{x:V}{v:Value} (I:Inv X pins σ H s) (r:RelV x v) (ty:tyV X.K T x H) :
  s.TypeIs v T /\ ∀ a,v = .ref a -> ∃ ob,s.heap.get? a=some ob/\ob.dict=none:=by
 cases x with
 | str z=>
   obtain⟨t,rfl⟩:=r
   cases (show T="str" from ty)
   exact⟨typeIs_str s z t,fun _ e=>nomatch e⟩
 | int i=>
   obtain⟨t,rfl⟩:=r
   cases (show T="int" from ty)
   exact⟨typeIs_int s i t,fun _ e=>nomatch e⟩
 | ref p=>
   cases r
   rcases ty with⟨rfl,xs,hq⟩ | ⟨rfl,o,hk,hc,hd⟩ | ⟨rfl,hk⟩ | ⟨rfl,S,n,hk⟩
   ·obtain⟨its,_,pl,_⟩:=I.list hq
    refine⟨pl.isList.typeIs,fun a e => ?_⟩
    cases e
    obtain⟨o,n,e,c,hd,_⟩:=pl
    exact⟨o,e,hd⟩
   ·refine⟨⟨o,I.kIn p o hk,hc⟩,fun a e => ?_⟩
    cases e
    exact⟨o,I.kIn _ o hk,hd⟩
   ·have z : ∃ o,s.heap.get? p=some o/\o.ExactDict:=by
     rcases hk with⟨kvs,hk⟩ | ⟨kvs,hk⟩
     ·obtain⟨_,_,_,_,o,_,_,e,ex,_⟩:=I.hok p _ hk
      exact⟨o,e,ex⟩
     ·obtain⟨_,_,_,_,o,_,_,e,ex,_⟩:=I.hok p _ hk
      exact⟨o,e,ex⟩
    obtain⟨o,e,ex⟩:=z
    refine⟨⟨o,e,ex.1⟩,fun a e2 => ?_⟩
    cases e2
    exact⟨o,e,ex.2.1⟩
   ·obtain⟨o,_,_,_,e,ex,_⟩:=I.hok p _ hk
    refine⟨⟨o,e,ex.1⟩,fun a e2 => ?_⟩
    cases e2
    exact⟨o,e,ex.2.1⟩
 | _=>exact cD ty
noncomputable def JV (K:aj) (T:String) (r:V->List V->Hp->VK->Prop) (to:TE):TE:=fun σ H Q=>to σ H fun x H1=>tyV K T x H1/\r x [] H1 Q
noncomputable def tBM (K:aj) (T:String) (r:V->List V->Hp->VK->Prop) (to:TE) (t:TA):TE:=fun σ H Q=>to σ H fun x H1=>tyV K T x H1/\t σ H1 fun xs H2=>r x xs H2 Q
variable {o e:Expr}{es:List Expr}{to:TE}{t:TA}{name:Str}{apos cpos:Pos}{T id:String}{r:V->List V->Hp->VK->Prop}
theorem Hz (pa:PlainAttrs T) (slot:Slot T name id) (hty:typeOf (.builtin id)=pure (.type "method_descriptor")) (hm:MtR X id r) (ho:PE X o to)
  (hbase:attributeBase o name X.env (eval o X.env)=eval o X.env:=by rfl) (hline:(apos.endLine == cpos.line)=true:=by rfl):PE X (.Call (.Attribute o name apos) [] [] cpos) (JV X.K T r to):=by
 intro pins s σ H Q I h
 refine wpAny_Call_method0_late hbase hline (thn (ho pins s σ H _ I h) fun v s1 ⟨x,H1,I1,r1,ty,q1⟩ => ?_)
 obtain⟨h1,h2⟩:=Cr I1 r1 ty
 exact⟨T,id,pa,slot,hty,h1,h2,lI rfl (PySem.evalArgs_none (hm pins s1 σ H1 x [] v [] Q I1 r1 .nil q1))⟩
theorem Ap (pa:PlainAttrs T) (slot:Slot T name id) (hty:typeOf (.builtin id)=pure (.type "method_descriptor")) (hm:MtR X id r) (ho:PE X o to) (ha:PA X (e::es) t)
  (hbase:attributeBase o name X.env (eval o X.env)=eval o X.env:=by rfl)
  (hfew:((backTo cpos (starEach (e::es) X.env)).all (fun x => !x.1)&&(backToKw cpos (keywordEach [] X.env)).all (fun x=>x.1.isSome)
   && decide ((e::es).length+([]:List Keyword).length+(if ([]:List Keyword).isEmpty then 0 else 1) < 30))=true:=by rfl)
  (hline:(apos.endLine == cpos.line)=true:=by rfl) (hs:starEach (e::es) X.env=(false,eval e X.env)::starEach es X.env:=by rfl) (hplain:(backTo cpos (starEach es X.env)).any (·.1)=false:=by rfl) :
  PE X (.Call (.Attribute o name apos) (e::es) [] cpos) (tBM X.K T r to t):=by
 intro pins s σ H Q I h
 refine wpAny_Call_method_late hbase hfew hline rfl (thn (ho pins s σ H _ I h) fun v s1 ⟨x,H1,I1,r1,ty,q1⟩ => ?_)
 obtain⟨h1,h2⟩:=Cr I1 r1 ty
 refine⟨T,id,pa,slot,hty,h1,h2,?_⟩
 have hA:=ha cpos pins s1 σ H1 _ I1 q1
 rw [hs] at hA ⊢
 refine lI (by show (false||(backTo cpos (starEach es X.env)).any (·.1))=false;rw [hplain] <;> rfl) (nV ?_)
 exact thn hA fun us s2 ⟨vs,H2,I2,r2,q2⟩=>hm pins s2 σ H2 x vs v us Q I2 r1 r2 q2
end
end L2
namespace L2
open PySem PySem.Spec PyProof.Rows
noncomputable def MtM (X:Cx) (id:String) (r:V->List V->Hp->VK->Prop):Prop:=
 ∀ (pins:List (Addr×Obj)) (s:Shared) (σ:St) (H:Hp) (x:V) (xs:List V) (v:Value) (us:List Value) (Q:VK),Inv X pins σ H s->RelV x v->bK xs us->r x xs H Q ->
  aJ (model X.prog X.w) X.A (call (.builtin id) (v::us)) (EP X pins σ Q) X.xe s
theorem bK.one : ∀ {x:V}{us:List Value},bK [x] us -> ∃ u,us = [u]/\RelV x u
 | _,_,.cons r .nil=>⟨_,rfl,r⟩
theorem bK.zero : ∀ {us:List Value},bK [] us->us = []
 | _,.nil=>rfl
theorem bK.dropLast {xs:List V}{us:List Value} (h:bK xs us):bK xs.dropLast us.dropLast:=by
 induction h with
 | nil=>exact .nil
 | cons r t ih=>
   cases t with
   | nil=>exact .nil
   | cons q t'=>exact .cons r ih
theorem bK.eraseIdx : ∀ {xs:List V}{us:List Value} (i:Nat),bK xs us->bK (xs.eraseIdx i) (us.eraseIdx i)
 | _,_,_,.nil => .nil
 | _,_,0,.cons _ t=>t
 | _,_,i+1,.cons r t => .cons r (bK.eraseIdx i t)
theorem bK.rep {xs:List V}{us:List Value} (h:bK xs us) : ∀ k:Nat,bK (aK k xs).flatten (aK k us).flatten
 | 0 => .nil
 | k+1=>by
   rw [cP,cP,fD,fD]
   exact bK.append h (bK.rep h k)
theorem xF {α:Type} (l:List α):l.eraseIdx (l.length - 1)=l.dropLast:=by
 induction l with
 | nil=>rfl
 | cons a r ih=>
   cases r with
   | nil=>rfl
   | cons b r=>
     have e:(a::b::r).length - 1=((b::r).length - 1)+1:=by
      have h1:(a::b::r).length=r.length+2:=rfl
      have h2:(b::r).length=r.length+1:=rfl
      omega
     rw [e,Ag,ih]
     all_goals rfl
theorem sR {α:Type} : ∀ (l:List α) (i:Nat),(l.eraseIdx i).length<=l.length
 | [],_=>ak _
 | _::_,0=>d8 _
 | _::r,i+1=>Nat.succ_le_succ (sR r i)
section
variable {X:Cx}{pins:List (Addr×Obj)}{σ:St}{H:Hp}{s:Shared}{l b:Addr}{xs ys zs:List V}
theorem Inv.lset {its its':List Value}{n:Nat}{f:Array Value->Array Value}{t':Nat} (I:Inv X pins σ H s) (hH:H l=some (.lst xs))
  (e:s.heap.get? l=some { cls := .type "list",data := .seq its.toArray n }) (hf:f its.toArray=its'.toArray) (hv:bK ys its') (hz:ys.length<=sizeLine) :
  Inv X pins σ (upd H l (.lst ys)) { s with heap:=s.heap.update l (dv f),toks:=t' }:=by
 have q:=CI e f
 rw [hf] at q
 refine I.write (x:=l) (e:=l) (by rw [hH];exact trivial) (.inl rfl) (fun b' u hb hu=>(dj s.heap (dv f) (eg hb)).trans hu) ⟨_,q⟩ ?_
 exact⟨hz,its',_,hv,q⟩
theorem Inv.lnew {its:List Value}{t':Nat} (I:Inv X pins σ H s) (hv:bK ys its) (hz:ys.length<=sizeLine) :
  Inv X pins σ (upd H s.heap.objs.size (.lst ys)) { s with heap:=s.heap.push { cls := .type "list",data := .seq its.toArray },toks:=t' }:=
 I.laid (fun _ _ q=>aq _ q) (ak _) ⟨hz,its,0,hv,aC _ rfl⟩
theorem Inv.fresh (I:Inv X pins σ H s):H s.heap.objs.size=none:=I.hok.fresh (ak _)
theorem Inv.lstM (I:Inv X pins σ H s) (hH:H l=some (.lst xs)):xs.length<=sizeLine /\ ∃ (its:List Value) (n:Nat),bK xs its/\xs.length=its.length/\s.heap.get? l=some { cls := .type "list",data := .seq its.toArray n }:=by
 obtain⟨z,its,n,r,e⟩:=I.hok l _ hH
 exact⟨z,its,n,r,r.length,e⟩
theorem AN {n:Nat} (h:n<=sizeLine):jf n=false:=by
 unfold jf
 exact decide_eq_false (by omega)
end
section
variable {X:Cx}
noncomputable def yy:V->List V->Hp->VK->Prop:=fun x vs H Q => ∃ l xs y,x = .ref l/\vs = [y]/\H l=some (.lst xs)/\xs.length < sizeLine/\Q .non (upd H l (.lst (xs ++ [y])))
theorem zc:MtM X "list.append" yy:=by
 intro pins s σ H x vs v us Q I rx rv h
 obtain⟨l,xs,y,rfl,rfl,hH,hz,q⟩:=h
 cases rx
 obtain⟨u,rfl,ru⟩:=rv.one
 obtain⟨z,its,n,r,hl,e⟩:=I.lstM hH
 refine call_meets F.slot_list_append ⟨_,e,rfl⟩ F.entry_list_append (F.args_list_append_2 _ _) (PySem.list_append l its.toArray n u (by rw [ay];omega)) ⟨e,?_⟩
 refine⟨.non,_,I.lset (its':=its ++ [u]) hH e (by simp) (r.append (.cons ru .nil)) ?_,rfl,q⟩
 rw [aH,CJ]
 omega
noncomputable def yQ:V->List V->Hp->VK->Prop:=fun x vs H Q => ∃ l b xs zs,x = .ref l/\vs = [.ref b]/\H l=some (.lst xs)/\H b=some (.lst zs)/\xs.length+zs.length<=sizeLine/\Q .non (upd H l (.lst (xs++zs)))
theorem zw:MtM X "list.extend" yQ:=by
 intro pins s σ H x vs v us Q I rx rv h
 obtain⟨l,b,xs,zs,rfl,rfl,hH,hB,hz,q⟩:=h
 cases rx
 obtain⟨u,rfl,ru⟩:=rv.one
 cases ru
 obtain⟨z,its,n,r,hl,e⟩:=I.lstM hH
 obtain⟨z2,its2,n2,r2,hl2,e2⟩:=I.lstM hB
 have hsz:its.toArray.size+its2.toArray.size<=sizeLine:=by rw [ay,ay];omega
 have hlong : ¬ (!its.toArray.isEmpty&&jf (its.toArray.size+its2.toArray.size))=true:=by
  rw [AN hsz,jI]
  exact bJ
 refine call_meets F.slot_list_extend ⟨_,e,rfl⟩ F.entry_list_extend (F.args_list_extend_2 _ _)
  (AutoSeq1.list_extend_list_list_0 l its.toArray n b its2.toArray n2 hlong (by rw [ay];omega) (by omega)) ⟨e,e2,?_⟩
 refine⟨.non,_,I.lset (its':=its++its2) hH e (by simp) (r.append r2) ?_,rfl,q⟩
 rw [aH]
 omega
noncomputable def IG:V->List V->Hp->VK->Prop:=fun x vs H Q => ∃ l xs y,x = .ref l/\vs = []/\H l=some (.lst xs)/\xs[xs.length - 1]? = some y/\Q y (upd H l (.lst xs.dropLast))
theorem HD:MtM X "list.pop" IG:=by
 intro pins s σ H x vs v us Q I rx rv h
 obtain⟨l,xs,y,rfl,rfl,hH,hy,q⟩:=h
 cases rx
 have hus:=rv.zero
 subst hus
 obtain⟨z,its,n,r,hl,e⟩:=I.lstM hH
 obtain⟨u,hu,ru⟩:=r.get hy
 have hy':its.toArray[its.toArray.size - 1]? = some u:=by
  show its.toArray[its.length - 1]? = some u
  rw [<- Al,<- hl]
  exact hu
 refine call_meets F.slot_list_pop ⟨_,e,rfl⟩ F.entry_list_pop (F.args_list_pop_1 _) (MeetsSeq.list_pop_last l its.toArray n u hy' (by rw [ay];omega)) ⟨e,?_⟩
 refine⟨y,_,I.lset (its':=its.dropLast) hH e ?_ r.dropLast ?_,ru,q⟩
 ·show its.toArray.eraseIdxIfInBounds (its.toArray.size - 1)=its.dropLast.toArray
  rw [ay,rZ,xF]
 ·rw [List.length_dropLast]
  omega
noncomputable def Cn:V->List V->Hp->VK->Prop:=fun x vs H Q => ∃ l xs i k y,x = .ref l/\vs = [.int i]/\H l=some (.lst xs) /\ -(2 ^ 63)<=i/\i < 2 ^ 63/\seqIndex? i xs.length=some k/\xs[k]? = some y/\Q y (upd H l (.lst (xs.eraseIdx k)))
theorem Cy:MtM X "list.pop" Cn:=by
 intro pins s σ H x vs v us Q I rx rv h
 obtain⟨l,xs,i,k,y,rfl,rfl,hH,h1,h2,hk,hy,q⟩:=h
 cases rx
 obtain⟨u,rfl,ru⟩:=rv.one
 obtain⟨t,rfl⟩:=ru
 obtain⟨z,its,n,r,hl,e⟩:=I.lstM hH
 obtain⟨w,hw,rw'⟩:=r.get hy
 refine call_meets F.slot_list_pop ⟨_,e,rfl⟩ F.entry_list_pop (F.args_list_pop_2 _ _)
  (MeetsSeq.list_pop_at l its.toArray n i t k w (fitsIndex_both h1 h2) (by rw [ay,<- hl];exact hk) (by rw [<- Al];exact hw) (by rw [ay];omega)) ⟨e,?_⟩
 refine⟨y,_,I.lset (its':=its.eraseIdx k) hH e ?_ (r.eraseIdx k) ?_,rw',q⟩
 ·show its.toArray.eraseIdxIfInBounds k=(its.eraseIdx k).toArray
  rw [rZ]
 ·have:=sR xs k
  omega
noncomputable def Kc:R2:=fun x y H Q => ∃ l b xs zs,x = .ref l/\y = .ref b/\H l=some (.lst xs)/\H b=some (.lst zs)/\xs.length+zs.length<=sizeLine /\ ∀ p,H p=none->Q (.ref p) (upd H p (.lst (xs++zs)))
theorem Iv:OpR X (binaryOp .Add) Kc:=by
 intro pins s σ H x y v u Q I rx ry h
 obtain⟨l,b,xs,zs,rfl,rfl,hH,hB,hz,q⟩:=h
 cases rx
 cases ry
 obtain⟨z,its,n,r,hl,e⟩:=I.lstM hH
 obtain⟨z2,its2,n2,r2,hl2,e2⟩:=I.lstM hB
 refine PySem.P.add_list e e2 ?_ (by rw [ay,ay];omega)
 have ea:its.toArray++its2.toArray=(its++its2).toArray:=by simp
 rw [ea]
 exact⟨.ref _,_,I.lnew (t':=s.toks) (r.append r2) (by rw [aH];omega),rfl,q _ I.fresh⟩
theorem len_rep {α:Type} (xs:List α) (k:Nat):(aK k xs).flatten.length=k*xs.length:=by
 induction k with
 | zero=>simp
 | succ k ih=>rw [cP,fD,aH,ih,Nat.succ_mul,Nat.add_comm]
end
section
variable {prog:Program}{w:World}{A:Around}{E:Value->Shared->Prop}{s:Shared}
end
section
variable {X:Cx}
end
end L2
namespace Att
open PySem PySem.W PySem.Calls PyProof.Rows
theorem oX {P:Params}{h:Heap} : ∀ (ns:List Int) (vs:List Value),WellAll P h vs (ns.map WData.int)->IntsAre vs ns:=by
 intro ns
 induction ns with
 | nil=>
   intro vs w
   rw [iq] at w
   cases w
   exact .nil
 | cons n ns ih=>
   intro vs w
   rw [be] at w
   cases w with
   | cons a b=>
     cases a
     exact .cons _ _ (ih _ b)
theorem zC {l:OpenLaw}{n:Nat} (hn:l.most=some n) {P:Params}{h:Heap}{args:List WData}{vals:List Value}
  (hpre:l.row.toRowW.claim.pre args=true) (hwl:WellAll P h vals args) :
  ∃ a vs ns,vals = [bc a]/\args = [WData.list (ns.map WData.int)]/\h.get? a=some { cls := .type "list",data := .seq vs.toArray }/\IntsAre vs ns/\ns.length<=n:=by
 have hsh:WShape.hasAll [] args [.list .int]=true:=(pre_splitW hpre).1
 have hc:l.pre.holds [] { args:=args }=true:=(pre_splitW hpre).2
 obtain⟨d,r,rfl,h1,h2⟩:=hasAllW_cons hsh
 obtain rfl:=hasAllW_nil h2
 obtain⟨xs,rfl,h3⟩:=hasW_list h1
 obtain⟨ns,rfl⟩:=items_int h3
 have hlen:ns.length<=n:=by
  unfold OpenLaw.pre at hc
  have h4:(WTm.not (.lt (.lit (.int (n:Int))) (.len (.arg 0)))).holds [] { args := [.list (ns.map .int)] }=true:=by
   have h4:=(holds_andW hc).1
   rw [hn] at h4
   exact h4
  have h5:=condW_of h4 (w_not (w_lt w_lit (w_len_list (w_arg rfl))))
  rw [av] at h5
  refine eN fun q => ?_
  have q':(n:Int) < ((ns.length:Nat):Int):=by omega
  first
   | (rw [decide_eq_true q'] at h5;exact absurd h5 (by decide))
   | (simp at h5;omega)
 cases hwl with
 | cons w1 w2=>
   cases w2
   cases w1 with
   | list ho hall=>exact⟨_,_,ns,rfl,rfl,ho,oX ns _ hall,hlen⟩
theorem zY (l:OpenLaw) (args:List WData):l.row.toRowW.claim.post args (.bool true) args=true:=
 postW_of (r:=l.row.toRowW) (X:=(true == true))
  (show WShape.has [] (.bool true) .bool=true by first | rfl | decide | simp [WShape.has,WShape.arms,WShape.armsAll])
  (show (WTm.eq .res (.lit (.bool true))).value [] { args:=args,res:=some (.bool true),after:=args }=some (.bool (true == true)) from w_eq_bool (w_res rfl) w_lit) rfl
theorem attach_call {l:OpenLaw}{n:Nat}{q:Program}{loose:List Str}{XP:(Str->Option Value)->Heap->Prop}{YP:World->Heap->Prop}{d:DefRec}
  (hn:l.most=some n) (hdf:d.params.defaults = [])
  (call : ∀ (w:World) (s₀ s₁:Shared) (mg mb:Str->Option Value) (fa:Addr) (o:Obj) (pm cd doc:Value) (a:Addr) (vs:List Value) (ns:List Int),
   Ground q loose [] XP w s₀ mg mb s₁.heap->YP w s₁.heap ->
   s₁.heap.get? fa=some o->o.data = .func (docDef d.name d.params d.body d.scope pm cd doc)->s₁.heap.CodeRec cd d.name->mg d.name=some (.ref fa) ->
   s₁.heap.get? a=some { cls := .type "list",data := .seq vs.toArray }->IntsAre vs ns->ns.length<=n->s₁.gens = #[] ->
   rf (model l.prog w) callerA (.call (.ref fa) ⟨[.ref a],[]⟩) (fun r s'=>r = .ok (.ret (.bool true))/\OldK s₁.heap s'.heap/\s'.os=s₁.os/\AllBare s'.gens) s₁) :
  WalkO q loose XP YP l.row.toRowW d [] (fun f vs=>PySem.call f vs):=by
 intro w s₀ s₁ mg mb G Y fa o pm cd doc dV kV ho hd hcd hD hmg hg args vals as hpre hlay hrd hwl hlo
 obtain rfl:dV = .none:=Dflts.none hD hdf
 obtain rfl:kV = .none:=Dflts.noKw hD
 obtain⟨a,vs,ns,rfl,rfl,hobj,hints,hlen⟩:=zC hn hpre hwl
 refine enter_call (j5 (call w s₀ s₁ mg mb fa o pm cd doc a vs ns G Y ho (fd_plain hd) hcd hmg hobj hints hlen hg) fun r s' hq => ?_)
 obtain⟨rfl,h2,h3,h4⟩:=hq
 exact⟨.inl ⟨.bool true,.bool true,[],rfl,fun _=>rfl,.bool true,zY l _,fun _=>⟨gc,fun _ hm=>(nomatch hm)⟩⟩,h2,h3,h4⟩
section
variable {prog:Program}{w:World}{A:Around}{E:Value->Shared->Prop}{s:Shared}{K:Frag}
end
end Att
namespace L2
open PySem PySem.Spec PyProof.Rows
end L2
namespace L2
open PySem PySem.Spec PyProof.Rows
abbrev KOf {K:aj}{h:Heap} (_:K.In h):aj:=K
end L2
namespace L2
open PySem PySem.Spec PyProof.Rows
noncomputable def fN (s:Stmt):Arguments:=match s with
 | .FunctionDef _ a _ _ _ _ _ _ _ _=>a
 | _=>{ posonlyargs := [],args := [],vararg:=none,kwonlyargs := [],kw_defaults := [],kwarg:=none,defaults := [] }
noncomputable def aW (s:Stmt):List Stmt:=match s with
 | .FunctionDef _ _ b _ _ _ _ _ _ _=>b
 | _ => []
noncomputable def aw (s:Stmt):Scope:=match s with
 | .FunctionDef _ _ _ _ _ _ sc _ _ _=>sc
 | _=>{ kind := .function,names := [],isGenerator:=false,isCoroutine:=false }
abbrev CX0:CXT:=fun _ _ _ _ _ _=>False
abbrev E0:XK:=fun _ _ _=>False
theorem yu {X:Cx}:ux CX0 X E0:=fun _ _ _ _ _ _ _ h=>h.elim
structure Fun (K:aj) (x qual:Str) (st:Stmt) (f:Addr) (fd:FuncData):Prop where
 ex : ∃ (oc:Value) (od:Option Addr) (kV doc pm:Value) (an:Option Addr) (cdv ct:Value) (osl:Array (Option Value)),
  fd=cX x qual (fN st) (aW st) (aw st) .none kV doc pm an cdv ct/\K.lookup f=some ⟨oc,od,.func fd,osl⟩/\g9 K cdv qual=true
 kp:cR K (.ref f)=true
section
variable {P:Program}{w:World}{K:aj}{mg:Str->Option Value}{base:Heap}
theorem Fun.ok {x qual:Str}{st:Stmt}{f:Addr}{fd:FuncData}{N ps:List Str}{k:Nat}{sp:Sp} (F:Fun K x qual st f fd) (S:bf N ps (aw st)) (len : ∀ vs H Q E,sp vs H Q E->vs.length=ps.length)
  (hbody : ∀ (cdv:Value) (A:Around) (outer:List Env) (s:Shared) (H:Hp) (vs:List V) (Q:VK) (E:XK),jD k (A.deeper (envOfC qual (aw st) s.heap.objs.size f cdv))->sp vs H Q E ->
   ∃ t,PSs (xD CX0 P w K mg base N qual (aw st) f cdv A outer s H E).nox (aW st) t/\t { nx:=fun _ H'=>Q .non H',rt:=Q } (start N vs) H):lE P w K mg base CX0 (k+1) f fd ps sp:=by
 obtain⟨oc,od,kV,doc,pm,an,cdv,ct,osl,rfl,lk,hcd⟩:=F.ex
 refine yL lk hcd S len fun A outer s H vs Q E hr hsp => ?_
 obtain⟨t,h,q⟩:=hbody cdv A outer s H vs Q E hr hsp
 exact⟨t,h.nox,q⟩
theorem Fun.binds {x qual:Str}{st:Stmt}{f:Addr}{fd:FuncData}{ps:List Str} (F:Fun K x qual st f fd)
  (h : ∀ (kV doc pm:Value) (an:Option Addr) (cdv ct:Value) (us:List Value),us.length=ps.length->bindArgs (cX x qual (fN st) (aW st) (aw st) .none kV doc pm an cdv ct) ⟨us,[]⟩=pure (ps.zip us)):Binds K fd ps []:=by
 obtain⟨oc,od,kV,doc,pm,an,cdv,ct,osl,rfl,lk,hcd⟩:=F.ex
 exact .all (h kV doc pm an cdv ct)
theorem G8 {x qual:Str}{st:Stmt}{f:Addr}{oc:Value}{od an:Option Addr}{osl:Array (Option Value)}{kV doc pm cdv ct:Value} (l:K.lookup f=some ⟨oc,od,.func (cX x qual (fN st) (aW st) (aw st) .none kV doc pm an cdv ct),osl⟩)
  (c:g9 K cdv qual=true) (k:cR K (.ref f)=true):Fun K x qual st f (cX x qual (fN st) (aW st) (aw st) .none kV doc pm an cdv ct):=⟨⟨oc,od,kV,doc,pm,an,cdv,ct,osl,rfl,l,c⟩,k⟩
end
section
variable {X:Cx}
end
end L2
end
section
namespace PySem
namespace GR
theorem xt:typeLookup (.type "tuple") "__reversed__"=pure none:=by rw [typeLookup_type,builtinLookup_eq_fast];kernel_rfl
theorem uS:isSubtype (.type "tuple") (.type "dict")=pure false:=by rw [isSubtype_type];kernel_rfl
theorem su:Manifest.owners.lookup (String.ofList ['d','e','s','r','e','v','e','r'].reverse)=some Manifest.sig_reversed:=by kernel_rfl
theorem fE:Slot "reversed" "__next__" "reversed.__next__":=
 .of (owner:="reversed") (n:="__next__") (by rw [typeLookup_type,builtinLookup_eq_fast];kernel_rfl) (by decide +kernel) (by decide +kernel) (by decide +kernel) (by first | exact .inl (by decide +kernel) | exact .inr (by decide +kernel)) (by rw [isSubtype_type];kernel_rfl)
theorem kE:entryFor table "reversed.__next__"=some Builtin.«reversed.__next__»:=entryFor_of_tree (by kernel_rfl)
theorem j1 (a:Value):argsOk "reversed.__next__" ⟨[a],[]⟩:=by
 unfold argsOk;rw [signature?_of (id:="reversed.__next__") (n := ['_','_','t','x','e','n','_','_']) (o := ['d','e','s','r','e','v','e','r']) (by kernel_rfl) su];kernel_rfl
theorem lO:Slot "reversed" "__iter__" "reversed.__iter__":=
 .of (owner:="reversed") (n:="__iter__") (by rw [typeLookup_type,builtinLookup_eq_fast];kernel_rfl) (by decide +kernel) (by decide +kernel) (by decide +kernel) (by first | exact .inl (by decide +kernel) | exact .inr (by decide +kernel)) (by rw [isSubtype_type];kernel_rfl)
theorem oU (a:Value):argsOk "reversed.__iter__" ⟨[a],[]⟩:=by
 unfold argsOk;rw [signature?_of (id:="reversed.__iter__") (n := ['_','_','r','e','t','i','_','_']) (o := ['d','e','s','r','e','v','e','r']) (by kernel_rfl) su];kernel_rfl
theorem qg:entryFor table "reversed.__iter__"=some Builtin.«dict_keyiterator.__iter__»:=
 entryFor_alias (id':="dict_keyiterator.__iter__") (by kernel_rfl) (by first | rfl | decide +kernel | (unfold String.splitOn;simp +decide [String.splitOnAux])) (by decide +kernel) (by kernel_rfl)
theorem yf:mroOf (.type "reversed")=pure [.type "reversed",.type "object"]:=by rw [mroOf_type];kernel_rfl
theorem pS:typeLookup (.type "reversed") "__new__"=pure (some (.builtin "reversed.__new__")):=by rw [typeLookup_type,builtinLookup_eq_fast];kernel_rfl
theorem rD:Slot "reversed" "__init__" "object.__init__":=
 .of (owner:="object") (n:="__init__") (by rw [typeLookup_type,builtinLookup_eq_fast];kernel_rfl) (by decide +kernel) (by decide +kernel) (by decide +kernel) (by first | exact .inl (by decide +kernel) | exact .inr (by decide +kernel)) (by rw [isSubtype_type];kernel_rfl)
theorem xc:TypeCalled "reversed" "reversed.__new__" "object.__init__":=
 ⟨by decide +kernel,by decide +kernel,⟨_,_,yf⟩,madeBy_type yf pS (by decide +kernel),by decide +kernel,by rw [isSubtype_type];kernel_rfl,rD⟩
theorem p9 (a:Value):checkTypeCall "reversed" ⟨[a],[]⟩=pure ():=by kernel_rfl
theorem rC (a:Value):checkBuiltinCall "reversed.__new__" ⟨[.type "reversed",a],[]⟩=pure ():=by kernel_rfl
theorem rT:entryFor table "reversed.__new__"=some Builtin.«reversed.__new__»:=entryFor_of_tree (by kernel_rfl)
theorem Dh:isSubtype (.type "reversed") (.type "reversed")=pure true:=by rw [isSubtype_type];kernel_rfl
theorem ub (a:Value):mN "reversed" ⟨[.type "reversed",a],[]⟩=pure (.type "reversed",[a]):=by
 unfold mN;simp only [isType,Dh,pure_bind,Bool.not_true,eU,if_false]
noncomputable def revT (t:Addr) (i:Int):Obj:={ cls := .type "reversed",data := .fields #[.ref t,rawInt i] }
noncomputable def IsRevT (h:Heap) (a t:Addr) (i:Int):Prop := ∃ o,h.get? a=some o/\o.cls = .type "reversed"/\o.data = .fields #[.ref t,rawInt i]
theorem IsRevT.typeIs {s:Shared}{a t:Addr}{i:Int} (x:IsRevT s.heap a t i):s.TypeIs (.ref a) "reversed":=let ⟨o,ho,hc,_⟩:=x;⟨o,ho,hc⟩
theorem IsRevT.at {h h':Heap}{a t:Addr}{i:Int} (x:IsRevT h a t i) (e : ∀ o,h.get? a=some o->h'.get? a=some o):IsRevT h' a t i:=let ⟨o,ho,r⟩:=x;⟨o,e _ ho,r⟩
open PyProof.Rows in
theorem rB (t:Addr) (items:Array Value):Meets (Builtin.«reversed.__new__» ⟨[.type "reversed",.ref t],[]⟩) (fun _ R s=>IsTup s.heap t items/\(items.size:Int) < 2 ^ 63 /\
   R (.ok (.ret (.ref s.heap.objs.size))) { s with heap:=s.heap.push (revT t ((items.size:Int) - 1)),toks:=s.toks+1+1 }):=
 .of_wp fun prog w A R s h=>by
  obtain⟨ht,hz,h⟩:=h;unfold Builtin.«reversed.__new__»;refine ag (iD (ub _) ?_);(try dsimp only);refine ag (iD (a:=()) (by first | rfl | kernel_rfl) ?_);refine ag (iD (a:=()) (by first | rfl | kernel_rfl) ?_);(try dsimp only);refine ag (oR ht.typeIs xt ?_);(try dsimp only);refine ag ?_;show aJ _ _ (isInstance (.ref t) (.type "dict") >>= _) _ _ s;refine ag (xQ ht.typeIs uS ?_);rw [if_neg bJ];show aJ _ _ (specialOf (.ref t) (jG "__getitem__") >>= _) _ _ s;refine ag (oR ht.typeIs slot_tuple_getitem.lookup ?_);refine wpAny_ite ?_;rw [if_pos (by decide +kernel)];refine ax ?_;rw [if_neg (by decide)];refine ag (len_tuple ht hz ?_);refine ag (iD (a:=some (items.size:Int)) rfl ?_);refine ag ?_;unfold Builtin.SmallTypes.newRecord;exact bx (ax ⟨_,rfl,h⟩)
section
variable {prog:Program}{w:World}{A:Around}{E:Value->Shared->Prop}{s:Shared}
open PyProof.Rows
theorem call_rev {t:Addr}{items:Array Value}{Q:Value->Shared->Prop} (ht:IsTup s.heap t items) (hz:(items.size:Int) < 2 ^ 63)
  (h:Q (.ref s.heap.objs.size) { s with heap:=s.heap.push (revT t ((items.size:Int) - 1)),toks:=s.toks+1+1 }):aJ (model prog w) A (call (.type "reversed") [.ref t]) Q E s:=
 callType_new xc (by decide) (p9 _) (rC _) (fun obj=>F.args_object_init_2 obj _) rT (rB t items) ⟨ht,hz,⟨_,aC _ rfl,rfl⟩,h⟩
theorem next_rev_item {it t:Addr}{i:Nat}{items:Array Value}{x:Value}{Q:Option Value->Shared->Prop} (hit:IsRevT s.heap it t (i:Int)) (ht:IsTup s.heap t items) (hx:items[i]? = some x) (hz:(items.size:Int) < 2 ^ 63)
  (hQ : ∀ h',IsRevT h' it t ((i:Int) - 1)->q9 it s.heap h'->Q (some x) { s with heap:=h',toks:=s.toks+1 }):aJ (model prog w) A (pyNext (.ref it)) Q E s:=by
 obtain⟨o,ho,hc,hd⟩:=id hit
 have hi:i < items.size:=(Array.getElem?_eq_some_iff.mp hx).1
 unfold pyNext;refine ag (wpAny_attempt (ff (name:=jG "__next__") hit.typeIs fE (dY fE hit.typeIs kE ?_ (j1 _))));unfold Builtin.«reversed.__next__»;refine ag (iD (a:=(bc it,[])) rfl ?_);(try dsimp only);refine ag (eE ho hd (x := .ref t) rfl ?_);refine ag (eE ho hd (x:=rawInt (i:Int)) rfl ?_);show aJ _ _ (if (i:Int) < 0 then _ else _) _ _ s;rw [if_neg (by omega)];refine ag (oR ht.typeIs slot_tuple_getitem.lookup ?_);(try dsimp only);rw [if_neg (by simp)];refine ag (wpAny_mkInt ?_);refine ag (wpAny_attempt (getItem_tuple (j:=i) (x:=x) (s:={ s with toks:=s.toks+1 }) ht (by omega) (by omega) ?_ hx ?_))
 ·unfold seqIndex?
  simp
  omega
 ·refine ag (eE (s:={ s with toks:=s.toks+1 }) ho hd (x:=rawInt (i:Int)) rfl ?_);refine ag (CK (s:={ s with toks:=s.toks+1 }) ho hd (by simp) ?_);refine ax ⟨x,rfl,ax (hQ _ ?_ (lq ..))⟩
  exact⟨_,dS _ ho (CS (jX hd _)),(Obj.cls_mapFields ..).trans hc,by
   rw [jX hd];simp⟩
theorem next_rev_end {it t:Addr}{Q:Option Value->Shared->Prop} (hh:A.handled=none) (hit:IsRevT s.heap it t (-1))
  (hQ : ∀ h',Heap.ExtBut it s.heap h'->Q none { s with heap:=h' }):aJ (model prog w) A (pyNext (.ref it)) Q E s:=by
 obtain⟨o,ho,hc,hd⟩:=id hit;unfold pyNext;refine ag (wpAny_attempt (ff (name:=jG "__next__") hit.typeIs fE (dY fE hit.typeIs kE ?_ (j1 _))));unfold Builtin.«reversed.__next__»;refine ag (iD (a:=(bc it,[])) rfl ?_);(try dsimp only);refine ag (eE ho hd (x := .ref t) rfl ?_);refine ag (eE ho hd (x:=rawInt (-1)) rfl ?_);show aJ _ _ (if (-1:Int) < 0 then _ else _) _ _ s;rw [if_pos (by decide)];refine ag (wpAny_rule ?_);refine ag ?_;show aJ _ _ (setField (.ref it) 1 (rawInt (-1)) >>= _) _ _ s;refine ag (CK ho hd (by simp) ?_)
 have g1:=dS (h:=s.heap) (a:=it) (Obj.mapFields (·.setIfInBounds 1 (rawInt (-1)))) ho (CS (jX hd _))
 have d1:=jX hd (·.setIfInBounds 1 (rawInt (-1)))
 refine CK g1 d1 (by simp) ?_;refine ag ?_;show aJ _ _ (newExc (.type "StopIteration") [] >>= _) _ _ _;refine ag ?_;simp only [newExc,newTuple];refine ag (bx ?_ (by size_fits));refine ag (m:=firstArgMember _ _) (iD (a:=jF) (by first | rfl | (simp only [firstArgMember];rfl)) ?_);refine bx ?_ (by size_fits);simp only [raiseNew];refine ag (wpAny_handled ?_)
 first | rw [show A.in1.handled=none from hh] | rw [hh]
 refine ag (ax (wpAny_throw ?_));refine ag (xQ (T:="StopIteration") (b:=true) ⟨_,aC _ rfl,rfl⟩ isSubtype_stop ?_);exact ax (hQ _ ((((lq ..).extBut.trans (lq ..).extBut).push _).push _))
theorem iter_rev {it t:Addr}{i:Int}{Q:Value->Shared->Prop} (hit:IsRevT s.heap it t i) (h:Q (.ref it) s):aJ (model prog w) A (pyIter (.ref it)) Q E s:=by
 refine wpAny_pyIter_slot hit.typeIs lO (dY lO hit.typeIs qg ?_ (oU _));show aJ _ _ (ret (.ref it)) _ _ s;exact ax ⟨_,rfl,"reversed",_,hit.typeIs,fE.lookup,h⟩
end
end GR
end PySem
namespace L2
open PySem PySem.Spec PyProof.Rows
noncomputable def Itv (K:aj) (a:Addr) (n:Nat):It:=
 ⟨fun i H => ∃ xs x,SqT K H a xs/\xs.length=n/\xs.reverse[i]? = some x,fun i H x H'=>H'=H /\ ∀ xs,SqT K H a xs->xs.reverse[i]? = some x,fun i H => ∃ xs,SqT K H a xs/\xs.length=n/\n<=i⟩
theorem AI {P:Program}{w:World}{K:aj}{tg:Expr} (a it:Addr) (n:Nat):Turn P w K tg (Itv K a n) [it] it (fun i h=>i<=n/\GR.IsRevT h it a ((n:Int) - 1 - (i:Nat))) where
 mem:=by simp
 obj:=fun i h st b hb=>by
  have e:b=it:=by simpa using hb
  subst e;obtain⟨_,o,e,c,d⟩:=st;exact⟨o,e,fun v z=>by rw [d] at z;cases z⟩
 keep:=fun i h h' st k=>⟨st.1,st.2.at fun o e=>k it (by simp) o e⟩
 item:=by
  intro X hP hw hK hc i pins s σ H E I hf st hg
  subst hP hw hK;obtain⟨xs,x,hq,hn,hx⟩:=hg;obtain⟨its,rv,p,hz⟩:=I.tuple hq
  have hl:=rv.length
  have hi:i < n:=by have:=(ah.mp hx).1;rw [cQ] at this;omega
  have hx':xs[n - 1 - i]? = some x:=by
   rw [List.getElem?_reverse (by omega),hn] at hx;exact hx
  obtain⟨u,hu,ru⟩:=rv.get hx';obtain⟨f0,f1,f2,f3,f4,f5⟩:=hf it (by simp)
  have hn63:=mJ
  have st1:=st.2
  rw [show (n:Int) - 1 - (i:Nat)=((n - 1 - i:Nat):Int) by omega] at st1
  refine GR.next_rev_item st1 p (x:=u) (by simpa using hu) (by rw [ay];omega) fun h' st' sb => ?_
  have I1:Inv X pins σ H { s with heap:=h',toks:=s.toks+1 }:=I.turned (t':=s.toks+1) (fun b o hb e=>(sb.2 b hb).trans e) f0 f1 f3 f4 f5
  rw [show ((n - 1 - i:Nat):Int) - 1=(n:Int) - 1 - ((i+1:Nat):Int) by omega] at st'
  obtain⟨o,e,c,d⟩:=id st';exact⟨u,rfl,yh (s:={ s with heap:=h',toks:=s.toks+1 }) e c d (by decide) ⟨x,H,I1,ru,⟨rfl,fun ys hy=>by rw [I.tuple_inj hy hq];exact hx⟩,⟨by assumption,st'⟩,fun b hb=>(hf b hb).1⟩⟩
 done:=by
  intro X hP hw hK hc i pins s σ H E I hf st hg
  subst hP hw hK;obtain⟨xs,hq,hn,hx⟩:=hg;obtain⟨f0,f1,f2,f3,f4,f5⟩:=hf it (by simp)
  have st1:=st.2
  rw [show (n:Int) - 1 - (i:Nat) = -1 by have:=st.1;omega] at st1;exact GR.next_rev_end (I.ok.hd hc) st1 fun h' eb=>⟨rfl,I.turned (t':=s.toks) (fun b o hb e=>eb b o hb e) f0 f1 f3 f4 f5⟩
 self:=fun _ _ _ _ _ st h=>GR.iter_rev st.2 h
section
variable {X:Cx}{tg:Expr}
noncomputable def vN (K:aj) (ta:TA):TI:=fun σ H R=>ta σ H fun vs H1 => ∃ a xs,vs = [.ref a]/\SqT K H1 a xs/\R (Itv K a xs.length) H1
theorem HL {a:Expr}{ta:TA}{p pos:Pos} (hg:Gl X "reversed") (hm:X.mg "reversed"=none) (ha:PA X [a] ta) (hs:starEach [a] X.env = [(false,eval a X.env)]:=by rfl):PI X tg (.Call (.Name "reversed" p) [a] [] pos) (vN X.K ta):=by
 intro pins s σ H R I h
 refine Call_ (kM I hg hm PyProof.Rows.boot_reversed (cU (thn (ha pos pins s σ H _ I h) fun us s1 ⟨vs,H1,I1,r1,q1⟩ => ?_) hs rfl));obtain⟨b,xs,e,hq,q⟩:=q1;subst e
 cases r1 with
 | cons r rr=>
   cases rr
   cases r
   obtain⟨its,rv,pt,hz⟩:=I1.tuple hq
   have hl:=rv.length
   have hn63:=mJ
   refine GR.call_rev pt (by rw [ay];omega) ?_
   have I2:Inv X pins σ H1 { s1 with heap:=s1.heap.push (GR.revT b ((its.toArray.size:Int) - 1)),toks:=s1.toks+1+1 }:=I1.kept fun b o e=>aq _ e
   have st:GR.IsRevT (s1.heap.push (GR.revT b ((its.toArray.size:Int) - 1))) s1.heap.objs.size b ((xs.length:Int) - 1 - (0:Nat)):=⟨_,aC _ rfl,rfl,by
    show Data.fields #[.ref b,rawInt _]=_;rw [ay,hl];simp⟩
   refine GR.iter_rev st ?_;refine⟨s1.heap.objs.size,[s1.heap.objs.size],_,_,H1,rfl,I2,AI b _ xs.length,⟨dB _,st⟩,fun c hc => ?_,q⟩
   have e:c=s1.heap.objs.size:=by simpa using hc
   subst e;exact I1.fpOk (ak _) (I1.hok.fresh (ak _))
end
end L2
end
section
namespace PySem
namespace GE
open AutoSeq1 (wpAny_loadPart')
section
variable {prog:Program}{w:World}{A:Around}{E:Value->Shared->Prop}{s:Shared}
end
end GE
end PySem
namespace L2
open PySem PySem.Spec PyProof.Rows
section
variable {X:Cx}
end
end L2
end
section
namespace PySem
namespace GE
section
variable {prog:Program}{w:World}{A:Around}{E:Value->Shared->Prop}{s:Shared}
end
section
variable {prog:Program}{w:World}{A:Around}{E:Value->Shared->Prop}{s:Shared}
end
end GE
end PySem
namespace L2
open PySem PySem.Spec PyProof.Rows
section
variable {X:Cx}
end
end L2
end
section
namespace L2
open PySem PySem.Spec PyProof.Rows
section
variable {κ:Type} [DecidableEq κ]
noncomputable def kL (kvs:List (κ×V)) (k:κ):Option V:=(kvs.find? fun kv=>decide (kv.1=k)).map (·.2)
noncomputable def putK (kvs:List (κ×V)) (k:κ) (v:V):List (κ×V):=
 if (kvs.any fun kv=>decide (kv.1=k))=true then kvs.map (fun kv=>if kv.1=k then (kv.1,v) else kv) else kvs ++ [(k,v)]
theorem kB {p:κ×V}{r:List (κ×V)}{k:κ} (e:p.1=k):kL (p::r) k=some p.2:=by simp [kL,ck,e]
theorem kj {p:κ×V}{r:List (κ×V)}{k:κ} (e : ¬ p.1=k):kL (p::r) k=kL r k:=by simp [kL,ck,e]
theorem wk (k:κ) : ∀ kvs:List (κ×V),(kvs.any fun kv=>decide (kv.1=k))=(kL kvs k).isSome
 | []=>rfl
 | p::r=>by
   rw [gK]
   by_cases e:p.1=k
   ·simp only [kB e,decide_eq_true e,Bool.true_or,CT]
   ·rw [kj e,decide_eq_false e,Bool.false_or];exact wk k r
theorem km (kvs:List (κ×V)) (k:κ) (v:V):(putK kvs k v).length<=kvs.length+1:=by
 unfold putK
 split
 ·rw [av];omega
 ·rw [aH,bR,cH];omega
theorem pR.isSome_eq {o:Option V}{u:Option Value} (r:pR o u):o.isSome=u.isSome:=by
 cases o with
 | none=>cases u with
   | none=>rfl
   | some _=>exact (show False from r).elim
 | some _=>cases u with
   | none=>exact (show False from r).elim
   | some _=>rfl
theorem KV.val {kvs:List (κ×V)}{vs:List (κ×Value)} (r:KV kvs vs) (k:κ):pR (kL kvs k) (valueAt vs k):=by
 unfold KV at r
 induction r with
 | nil=>exact eT
 | @cons p q ps qs h t ih=>
   obtain⟨h1,h2⟩:=h
   by_cases e:p.1=k
   ·have e':q.1=k:=h1.symm.trans e
    have b:valueAt (q::qs) k=some q.2:=by simp [valueAt,ck,e']
    rw [kB e,b];exact h2
   ·have e' : ¬ q.1=k:=fun z=>e (h1.trans z)
    have b:valueAt (q::qs) k=valueAt qs k:=by simp [valueAt,ck,e']
    rw [kj e,b];exact ih
theorem KV.any {kvs:List (κ×V)}{vs:List (κ×Value)} (r:KV kvs vs) (k:κ):(kvs.any fun kv=>decide (kv.1=k))=vs.any fun kv=>decide (kv.1=k):=by
 unfold KV at r
 induction r with
 | nil=>rfl
 | cons h t ih=>rw [gK,gK,ih,h.1]
theorem KV.repl {kvs:List (κ×V)}{vs:List (κ×Value)} (r:KV kvs vs) (k:κ) {y:V}{u:Value} (ry:RelV y u) :
  KV (kvs.map fun kv=>if kv.1=k then (kv.1,y) else kv) (vs.map fun kv=>if kv.1=k then (kv.1,u) else kv):=by
 unfold KV at r ⊢
 induction r with
 | nil=>exact .nil
 | @cons p q ps qs h t ih=>
   rw [be,be]
   refine .cons ?_ ih
   obtain⟨h1,h2⟩:=h
   by_cases e:p.1=k
   ·rw [if_pos e,if_pos (h1.symm.trans e)];exact⟨h1,ry⟩
   ·rw [if_neg e,if_neg (fun z=>e (h1.trans z))];exact⟨h1,h2⟩
theorem KV.put {kvs:List (κ×V)}{vs:List (κ×Value)} (r:KV kvs vs) (k:κ) {y:V}{u:Value} (ry:RelV y u):KV (putK kvs k y) (stored vs k u):=by
 unfold putK stored
 rw [r.any k]
 by_cases e:(vs.any fun kv=>decide (kv.1=k))=true
 ·rw [if_pos e,if_pos e];exact r.repl k ry
 ·rw [if_neg e,if_neg e];exact Paired.snoc r ⟨rfl,ry⟩
theorem KV.length {kvs:List (κ×V)}{vs:List (κ×Value)} (r:KV kvs vs):kvs.length=vs.length:=wF r
end
theorem sM {P:Program}{w:World}{k:Key}{u:Value} (r:RelV (kV k) u):(dq P w).is k u=true:=by
 cases k with
 | inl i=>obtain⟨t,e⟩:=(show ∃ t,u=rV i t from r);subst e;exact vV P w i t
 | inr x=>obtain⟨t,e⟩:=(show ∃ t,u=rX x t from r);subst e;exact vj P w x t
theorem sP {P:Program}{w:World} : ∀ {ks:List Key}{us:List Value},bK (ks.map kV) us->ItemsAre (dq P w) ks us
 | [],_,r=>by rw [iq] at r;cases r;exact .nil
 | k::ks,_,r=>by
   rw [be] at r
   cases r with
   | cons h t=>exact .cons (sM h) (sP t)
abbrev KT (H:Hp):List (List Key×V)->List (List Key×Addr×Value)->Prop:=Paired fun p q=>p.1=q.1/\H q.2.1=some (.tup (p.1.map kV))/\RelV p.2 q.2.2
theorem KT.val {H:Hp}{kvs:List (List Key×V)}{xs:List (List Key×Addr×Value)} (r:KT H kvs xs) (k:List Key):pR (kL kvs k) ((atKey xs k).map (·.2)):=by
 induction r with
 | nil=>exact eT
 | @cons p q ps qs h t ih=>
   obtain⟨h1,_,h2⟩:=h
   by_cases e:p.1=k
   ·have e':q.1=k:=h1.symm.trans e
    have b:atKey (q::qs) k=some q.2:=by simp [atKey,ck,e']
    rw [kB e,b];exact h2
   ·have e' : ¬ q.1=k:=fun z=>e (h1.trans z)
    have b:atKey (q::qs) k=atKey qs k:=by simp [atKey,ck,e']
    rw [kj e,b];exact ih
theorem KT.repl {H:Hp}{kvs:List (List Key×V)}{xs:List (List Key×Addr×Value)} (r:KT H kvs xs) (k:List Key) {y:V}{u:Value} (ry:RelV y u) :
  KT H (kvs.map fun kv=>if kv.1=k then (kv.1,y) else kv) (xs.map (putAt k u)):=by
 induction r with
 | nil=>exact .nil
 | @cons p q ps qs h t ih=>
   rw [be,be]
   refine .cons ?_ ih
   obtain⟨h1,h2,h3⟩:=h
   unfold putAt
   by_cases e:p.1=k
   ·rw [if_pos e,if_pos (h1.symm.trans e)];exact⟨h1,h2,ry⟩
   ·rw [if_neg e,if_neg (fun z=>e (h1.trans z))];exact⟨h1,h2,h3⟩
theorem KT.put {H:Hp}{kvs:List (List Key×V)}{xs:List (List Key×Addr×Value)} (r:KT H kvs xs) (k:List Key) {b:Addr}{y:V}{u:Value} (hb:H b=some (.tup (k.map kV))) (ry:RelV y u) :
  KT H (putK kvs k y) (storedH xs k b u):=by
 have e:(kvs.any fun kv=>decide (kv.1=k))=(atKey xs k).isSome:=by
  rw [wk,(r.val k).isSome_eq,jY]
 unfold putK storedH
 rw [e]
 by_cases q:(atKey xs k).isSome=true
 ·rw [if_pos q,if_pos q];exact r.repl k ry
 ·rw [if_neg q,if_neg q];exact Paired.snoc r ⟨rfl,hb,ry⟩
theorem KT.keeps {H H':Hp}{kvs:List (List Key×V)}{xs:List (List Key×Addr×Value)} (r:KT H kvs xs) (ht : ∀ b ys,H b=some (.tup ys)->H' b=some (.tup ys)):KT H' kvs xs:=
 Paired.mapP r fun _ _ z=>⟨z.1,ht _ _ z.2.1,z.2.2⟩
section
variable {P:Program}{w:World}{H:Hp}{h:Heap}{a:Addr}
theorem Fk {u:HO} (ok:HOk P w H h) (e:Rd H a u):dW P w H h a u:=e.ok ok
theorem s9 {kvs:List (Key×V)} (ok:HOk P w H h) (e:Rd H a (.dK kvs)):kvs.length<=sizeLine/\(a == sysModules)=false /\ ∃ vs,KV kvs vs/\h.DictOf (dq P w) a vs:=
 show dW P w H h a (.dK kvs) from Fk ok e
theorem Fh {kvs:List (Key×V)} (ok:HOk P w H h) (e:H a=some (.dK kvs)):kvs.length<=sizeLine/\(a == sysModules)=false /\ ∃ vs,KV kvs vs/\h.DictOf (dq P w) a vs:=s9 ok (.inl e)
theorem qo {ks:List Key} (ok:HOk P w H h) (e:H a=some (.tup (ks.map kV))):(tupleKind (dq P w)).is h ks a:=by
 obtain⟨_,its,r,⟨o,h1,h2,n,h3⟩,_⟩:=(show dW P w H h a (.tup (ks.map kV)) from ok a _ e)
 exact⟨o,its.toArray,n,h1,h2,h3,by simpa using sP r⟩
theorem wd {kvs:List (List Key×V)} (ok:HOk P w H h) (e:Rd H a (.dT kvs)):kvs.length<=sizeLine/\(a == sysModules)=false /\
  ∃ xs,KT H kvs xs/\h.DictOfH (tupleKind (dq P w)) a xs:=by
 obtain⟨z,y,xs,r,o,es,ep,h1,h2,h3,h4,h5⟩:=(show dW P w H h a (.dT kvs) from Fk ok e)
 refine⟨z,y,xs,r,o,es,ep,h1,h2,h3,h4,fun x hx => ?_,h5⟩
 have all : ∀ {l:List (List Key×V)}{m:List (List Key×Addr×Value)},KT H l m -> ∀ x∈m,(tupleKind (dq P w)).is h x.1 x.2.1:=by
  intro l m q
  induction q with
  | nil=>intro x hx;exact nomatch hx
  | @cons p q ps qs hq t ih=>
    intro x hx
    rcases aX.mp hx with e | hx
    ·subst e
     exact qo ok (by rw [<- hq.1];exact hq.2.1)
    ·exact ih x hx
 exact all r x hx
theorem KE {kvs:List (List Key×V)} (ok:HOk P w H h) (e:H a=some (.dT kvs)):kvs.length<=sizeLine/\(a == sysModules)=false /\
  ∃ xs,KT H kvs xs/\h.DictOfH (tupleKind (dq P w)) a xs:=wd ok (.inl e)
end
noncomputable def rK (H:Hp) (a:Addr) (y:V) (r:Option V):Prop:=
 (∃ kvs k,Rd H a (.dK kvs)/\y=kV k/\r=kL kvs k) \/ ∃ kvs k b,Rd H a (.dT kvs)/\y = .ref b/\H b=some (.tup (k.map kV))/\r=kL kvs k
noncomputable def zB (H:Hp) (a:Addr) (y v:V) (H':Hp):Prop:=
 (∃ kvs k,H a=some (.dK kvs)/\y=kV k/\kvs.length < sizeLine/\H'=upd H a (.dK (putK kvs k v))) \/
 ∃ kvs k b,H a=some (.dT kvs)/\y = .ref b/\H b=some (.tup (k.map kV))/\kvs.length < sizeLine/\H'=upd H a (.dT (putK kvs k v))
theorem rK.k {H:Hp}{a:Addr}{kvs:List (Key×V)}{k:Key} (e:H a=some (.dK kvs)):rK H a (kV k) (kL kvs k) := .inl ⟨kvs,k,.inl e,rfl,rfl⟩
theorem rK.t {H:Hp}{a b:Addr}{kvs:List (List Key×V)}{k:List Key} (e:H a=some (.dT kvs)) (eb:H b=some (.tup (k.map kV))):rK H a (.ref b) (kL kvs k) := .inr ⟨kvs,k,b,.inl e,rfl,eb,rfl⟩
theorem zB.k {H:Hp}{a:Addr}{kvs:List (Key×V)}{k:Key}{v:V} (e:H a=some (.dK kvs)) (hl:kvs.length < sizeLine):zB H a (kV k) v (upd H a (.dK (putK kvs k v))) := .inl ⟨kvs,k,e,rfl,hl,rfl⟩
theorem zB.t {H:Hp}{a b:Addr}{kvs:List (List Key×V)}{k:List Key}{v:V} (e:H a=some (.dT kvs)) (eb:H b=some (.tup (k.map kV))) (hl:kvs.length < sizeLine) :
  zB H a (.ref b) v (upd H a (.dT (putK kvs k v))) := .inr ⟨kvs,k,b,e,rfl,eb,hl,rfl⟩
section
variable {X:Cx}{pins:List (Addr×Obj)}{σ:St}{H:Hp}{s:Shared}{a:Addr}{y v:V}{u r:Value}{o:Option V}{A:Around}{E:Value->Shared->Prop}
theorem Inv.big (I:Inv X pins σ H s):sysModules < s.heap.objs.size:=by
 have h:mainGlobals < s.heap.objs.size:=(I.mod.glob.keeps I.bk).lt
 exact dk (by decide) h
theorem zI {Q:Value->Shared->Prop} (hu:A.units+1 < cLine) (I:Inv X pins σ H s) (g:rK H a y (some v)) (ry:RelV y u) (h : ∀ w' s',Inv X pins σ H s'->RelV v w'->Q w' s') :
  aJ (model X.prog X.w) A (getItem (.ref a) u) Q E s:=by
 rcases g with⟨kvs,k,e,ey,l⟩ | ⟨kvs,k,b,e,ey,eb,l⟩
 ·subst ey
  obtain⟨z,hd,vs,rel,dd⟩:=s9 I.hok e
  obtain⟨w',hw,rw'⟩:=pR.some_of (v:=v) (o:=valueAt vs k) (by rw [l];exact rel.val k)
  exact wpAny_getItem_of (sM ry) dd.mapOf hw (h w' _ (I.tok _) rw')
 ·subst ey
  cases (show u=bc b from ry)
  obtain⟨z,hd,xs,rel,dd⟩:=wd I.hok e
  obtain⟨w',hw,rw'⟩:=pR.some_of (v:=v) (o:=(atKey xs k).map (·.2)) (by rw [l];exact rel.val k)
  obtain⟨p,hp,hp2⟩:=yX.mp hw
  refine wpAny_getItem_heap (tupleKind_room_in1 hu) (qo I.hok eb) dd hp ?_
  rw [hp2]
  exact h w' _ (I.tok _) rw'
theorem LQ {Q:Value->Shared->Prop} (hu:A.units+1 < cLine) (I:Inv X pins σ H s) (g:rK H a y o) (ry:RelV y u) (h : ∀ s',Inv X pins σ H s'->Q (.bool o.isSome) s') :
  aJ (model X.prog X.w) A (compareOp .In u (.ref a)) Q E s:=by
 rcases g with⟨kvs,k,e,ey,l⟩ | ⟨kvs,k,b,e,ey,eb,l⟩
 ·subst ey
  obtain⟨z,hd,vs,rel,dd⟩:=s9 I.hok e
  refine wpAny_in_of (sM ry) hd dd.mapOf ?_
  rw [<- (rel.val k).isSome_eq,<- l]
  exact h _ (I.tok _)
 ·subst ey
  cases (show u=bc b from ry)
  obtain⟨z,hd,xs,rel,dd⟩:=wd I.hok e
  refine wpAny_in_heap (tupleKind_room_in1 hu) (qo I.hok eb) hd dd ?_
  have q:=(rel.val k).isSome_eq
  rw [jY] at q
  rw [<- q,<- l]
  exact h _ (I.tok _)
theorem Ez {Q:Value->Shared->Prop} (hu:A.units+1 < cLine) (I:Inv X pins σ H s) (g:rK H a y o) (ry:RelV y u) (h : ∀ s',Inv X pins σ H s'->Q (.bool (!o.isSome)) s') :
  aJ (model X.prog X.w) A (compareOp .NotIn u (.ref a)) Q E s:=by
 rcases g with⟨kvs,k,e,ey,l⟩ | ⟨kvs,k,b,e,ey,eb,l⟩
 ·subst ey
  obtain⟨z,hd,vs,rel,dd⟩:=s9 I.hok e
  refine wpAny_notIn_of (sM ry) hd dd.mapOf ?_
  rw [<- (rel.val k).isSome_eq,<- l]
  exact h _ (I.tok _)
 ·subst ey
  cases (show u=bc b from ry)
  obtain⟨z,hd,xs,rel,dd⟩:=wd I.hok e
  refine wpAny_notIn_heap (tupleKind_room_in1 hu) (qo I.hok eb) hd dd ?_
  have q:=(rel.val k).isSome_eq
  rw [jY] at q
  rw [<- q,<- l]
  exact h _ (I.tok _)
theorem tK {h':Heap}{t':Nat}{ob:HO} (I:Inv X pins σ H s) (mu:Mut (H a)) (hs:q9 a s.heap h') (he : ∃ q,h'.get? a=some q) (new:dW X.prog X.w (upd H a ob) h' a ob) :
  Inv X pins σ (upd H a ob) { s with heap:=h',toks:=t' }:=
 I.write (x:=a) (e:=a) mu (.inl rfl) (fun b q hb z=>(hs.2 b hb).trans z) he new
theorem AK {P:Program}{w:World}{H':Hp}{h':Heap}{kvs:List (Key×V)}{vs:List (Key×Value)} (z:kvs.length<=sizeLine) (hd:(a == sysModules)=false) (rel:KV kvs vs) (dd:h'.DictOf (dq P w) a vs) :
  dW P w H' h' a (.dK kvs):=⟨z,hd,vs,rel,dd⟩
theorem Ac {H':Hp}{Q:Unit->Shared->Prop} (hu:A.units+1 < cLine) (I:Inv X pins σ H s) (g:zB H a y v H') (ry:RelV y u) (rv:RelV v r) (h : ∀ s',Inv X pins σ H' s'->Q () s') :
  aJ (model X.prog X.w) A (setItem (.ref a) u r) Q E s:=by
 rcases g with⟨kvs,k,e,ey,l,eH⟩ | ⟨kvs,k,b,e,ey,eb,l,eH⟩
 ·subst ey eH
  obtain⟨z,hd,vs,rel,dd⟩:=Fh I.hok e
  have hz:vs.length<=sizeLine:=by rw [<- rel.length];exact z
  have hl:(putK kvs k v).length<=sizeLine:=by have:=km kvs k v;omega
  refine wpAny_setItem_pairs (hsz:=hz) (sM ry) dd fun h' dd' hs=>h _ ?_
  have he : ∃ q,h'.get? a=some q:=let ⟨q,_,_,hq,_⟩:=dd';⟨q,hq⟩
  exact tK I (by rw [e];exact eT) hs he (AK hl hd (rel.put k rv) dd')
 ·subst ey eH
  cases (show u=bc b from ry)
  obtain⟨z,hd,xs,rel,dd⟩:=KE I.hok e
  have hz:xs.length<=sizeLine:=by rw [<- wF rel];exact z
  have hl:(putK kvs k v).length<=sizeLine:=by have:=km kvs k v;omega
  refine wpAny_setItem_heap (hsz:=hz) (tupleKind_room_in1 hu) (qo I.hok eb) dd fun h' dd' hs=>h _ ?_
  obtain⟨q,es,ep,hq,h2,h3,h4,_,h5⟩:=dd'
  refine tK I (by rw [e];exact eT) hs ⟨q,hq⟩ ⟨hl,hd,_,(rel.put k eb rv).keeps fun c ys ec => ?_,q,es,ep,hq,h2,h3,h4,h5⟩
  rw [bz (pU ec e (fun z=>nomatch z))]
  exact ec
end
section
variable {X:Cx}{pins:List (Addr×Obj)}{σ:St}{H:Hp}{s:Shared}{a:Addr}{kvs:List (Key×V)}{k:Key}{u:Value}{A:Around}{E:Value->Shared->Prop}
theorem A8 {Q:Value->Shared->Prop} (I:Inv X pins σ H s) (e:Rd H a (.dK kvs)) (h : ∀ t s',Inv X pins σ H s'->Q (.int kvs.length t) s'):aJ (model X.prog X.w) A (call (.builtin "len") [.ref a]) Q E s:=by
 obtain⟨z,hd,vs,rel,dd⟩:=s9 I.hok e
 refine call_len_dict hd dd (by rw [<- rel.length];rw [sizeLine_eq] at z;omega) ?_
 rw [<- rel.length]
 exact h _ _ (I.tok _)
end
theorem vY {X:Cx}{pins:List (Addr×Obj)}{σ:St}{H:Hp}{s:Shared}{a:Addr}{y:V}{o:Option V} (I:Inv X pins σ H s) (g:rK H a y o):s.TypeIs (.ref a) "dict":=by
 rcases g with⟨kvs,k,e,_,_⟩ | ⟨kvs,k,b,e,_,_,_⟩
 ·obtain⟨_,_,vs,_,dd⟩:=s9 I.hok e
  exact dd.typeIs
 ·obtain⟨_,_,xs,_,dd⟩:=wd I.hok e
  exact dd.typeIs
section
variable {X:Cx}{o i e value:Expr}{pos pos' tpos:Pos}{td ty tv:TE}
end
theorem A9 {P:Program}{w:World}{H:Hp} (h:Heap) (hb:sysModules < h.objs.size):dW P w H (h.push { cls := .type "dict",data := .dict #[] }) h.objs.size (.dK []):=
 ⟨dB _,beq_eq_false_iff_ne.mpr (eg (aP hb)),[],.nil,Heap.DictOf.new h⟩
section
variable {X:Cx}{pos:Pos}
end
noncomputable def xM:List (TE×TE)->St->Hp->(List (V×V)->Hp->Prop)->Prop
 | [],_,H,Q=>Q [] H
 | (tk,tv)::r,σ,H,Q=>tk σ H fun x H1=>tv σ H1 fun y H2=>xM r σ H2 fun ps H3=>Q ((x,y)::ps) H3
abbrev VV:List (V×V)->List (Value×Value)->Prop:=Paired fun p q=>RelV p.1 q.1/\RelV p.2 q.2
noncomputable def PPs (X:Cx) (pos:Pos) (keys:List (Option Expr)) (values:List Expr) (trs:List (TE×TE)):Prop:=
 ∀ (pins:List (Addr×Obj)) (s:Shared) (σ:St) (H:Hp) (Q:List (V×V)->Hp->Prop),Inv X pins σ H s->xM trs σ H Q ->
  aJ (model X.prog X.w) X.A (evalPairs (pairTrees keys values X.env pos)) (fun vs s' => ∃ ps H',Inv X pins σ H' s'/\VV ps vs/\Q ps H') X.xe s
theorem Dp {X:Cx}{pos:Pos}:PPs X pos [] [] []:=fun pins s σ H Q I h=>pairTrees_nil_walk ⟨[],H,I,.nil,h⟩
theorem AM {X:Cx}{pos:Pos}{k v:Expr}{ks:List (Option Expr)}{vs:List Expr}{tk tv:TE}{trs:List (TE×TE)} (hk:PE X k tk) (hv:PE X v tv) (hr:PPs X pos ks vs trs) :
  PPs X pos (some k::ks) (v::vs) ((tk,tv)::trs):=fun pins s σ H Q I h=>
 pairTrees_cons_walk (thn (hk pins s σ H _ I h) fun u s1 ⟨x,H1,I1,rx,q1⟩=>thn (hv pins s1 σ H1 _ I1 q1) fun w2 s2 ⟨y,H2,I2,ry,q2⟩=>
  thn (hr pins s2 σ H2 _ I2 q2) fun ws s3 ⟨ps,H3,I3,rel,q3⟩=>⟨(x,y)::ps,H3,I3,.cons ⟨rx,ry⟩ rel,q3⟩)
noncomputable def ox (kvs more:List (Key×V)):List (Key×V):=more.foldl (fun acc kv=>putK acc kv.1 kv.2) kvs
theorem KV.merge : ∀ {more:List (Key×V)}{rs:List (Key×Value)}{kvs:List (Key×V)}{vs:List (Key×Value)},KV more rs->KV kvs vs->KV (ox kvs more) (merged vs rs):=by
 intro more rs kvs vs r
 unfold KV at r
 induction r generalizing kvs vs with
 | nil=>intro q;exact q
 | @cons p q ps qs h t ih=>
   intro r0
   have e:KV (putK kvs p.1 p.2) (stored vs q.1 q.2):=by
    have:=r0.put p.1 h.2
    rw [<- h.1];exact this
   exact ih e
theorem lV : ∀ (more kvs:List (Key×V)),(ox kvs more).length<=kvs.length+more.length
 | [],kvs=>by show kvs.length<=kvs.length+0;omega
 | p::r,kvs=>by
   have h1:=lV r (putK kvs p.1 p.2)
   have h2:=km kvs p.1 p.2
   show (ox (putK kvs p.1 p.2) r).length<=_
   rw [bR];omega
theorem p6 {P:Program}{w:World} : ∀ {kvs:List (Key×V)}{ws:List (Value×Value)},VV (kvs.map fun kv=>(kV kv.1,kv.2)) ws -> ∃ rs,Carries (dq P w) ws rs/\KV kvs rs
 | [],_,r=>by rw [iq] at r;cases r;exact⟨[],eT,.nil⟩
 | p::kvs,_,r=>by
   rw [be] at r
   cases r with
   | @cons a b as bs h t=>
     obtain⟨rs,c,q⟩:=p6 (P:=P) (w:=w) t
     obtain⟨b1,b2⟩:=b
     exact⟨(p.1,b2)::rs,⟨sM h.1,rfl,c⟩,.cons ⟨rfl,h.2⟩ q⟩
noncomputable def Fo (trs:List (TE×TE)):TE:=fun σ H Q => ∀ p,H p=none->xM trs σ (upd H p (.dK [])) fun ps H2=>H2 p=some (.dK []) /\ ∃ kvs:List (Key×V),ps=kvs.map (fun kv=>(kV kv.1,kv.2))/\kvs.length<=15/\Q (.ref p) (upd H2 p (.dK (ox [] kvs)))
theorem Fd {X:Cx}{pos:Pos}{keys:List (Option Expr)}{values:List Expr}{trs:List (TE×TE)} (h:PPs X pos keys values trs) (hall:keys.all (·.isSome)=true) (hl:keys.length=values.length) (h0:keys ≠ [])
  (h15:keys.length<=15):PE X (.Dict keys values pos) (Fo trs):=by
 intro pins s σ H Q I q
 have hn:=I.hok.fresh (ak s.heap.objs.size)
 have I1:=I.laid (a:=s.heap.objs.size) (o := .dK []) (h':=s.heap.push { cls := .type "dict",data := .dict #[] }) (t':=s.toks) (fun _ _ q=>aq _ q) (ak _) (A9 s.heap I.big)
 refine wpAny_Dict_walk (knd:=dq X.prog X.w) hall hl h0 h15 (thn (h pins _ σ _ _ I1 (q _ hn)) fun ws s2 ⟨ps,H2,I2,rel,e,kvs,ep,lk,q2⟩ => ?_)
 subst ep
 obtain⟨rs,c,rk⟩:=p6 (P:=X.prog) (w:=X.w) rel
 obtain⟨z,hd,vs0,r0,dd⟩:=Fh I2.hok e
 cases r0
 refine⟨rs,c,dd,fun h' dd' hs=>⟨.ref s.heap.objs.size,_,?_,rfl,q2⟩⟩
 have hz:(ox [] kvs).length<=sizeLine:=by
  have h1:=lV kvs []
  rw [cH] at h1
  rw [sizeLine_eq];omega
 have he : ∃ q,h'.get? s.heap.objs.size=some q:=let ⟨q,_,_,hq,_⟩:=dd';⟨q,hq⟩
 exact tK I2 (by rw [e];exact eT) hs he (AK hz hd (rk.merge .nil) dd')
structure M1 (X:Cx) (o:Expr) (m:Str) (apos:Pos) (e:Expr) (cpos:Pos):Prop where
 base:attributeBase o m X.env (eval o X.env)=eval o X.env
 few:((backTo cpos (starEach [e] X.env)).all (fun x => !x.1)&&(backToKw cpos (keywordEach [] X.env)).all (fun x=>x.1.isSome)
  && decide (([e]:List Expr).length+([]:List Keyword).length+(if ([]:List Keyword).isEmpty then 0 else 1) < 30))=true
 line:(apos.endLine == cpos.line)=true
 trees:backTo cpos (starEach [e] X.env) = [(false,eval e X.env)]
structure M2 (X:Cx) (o:Expr) (m:Str) (apos:Pos) (e f:Expr) (cpos:Pos):Prop where
 base:attributeBase o m X.env (eval o X.env)=eval o X.env
 few:((backTo cpos (starEach [e,f] X.env)).all (fun x => !x.1)&&(backToKw cpos (keywordEach [] X.env)).all (fun x=>x.1.isSome)
  && decide (([e,f]:List Expr).length+([]:List Keyword).length+(if ([]:List Keyword).isEmpty then 0 else 1) < 30))=true
 line:(apos.endLine == cpos.line)=true
 trees:backTo cpos (starEach [e,f] X.env) = [(false,eval e X.env),(false,eval f X.env)]
section
variable {X:Cx}{pins:List (Addr×Obj)}{σ:St}{H:Hp}{s:Shared}{a:Addr}{y d:V}{u r:Value}{o:Option V}{A:Around}{E:Value->Shared->Prop}
end
section
variable {X:Cx}{o e f:Expr}{apos cpos:Pos}{td ty tx:TE}
end
section
variable {X:Cx}{pins:List (Addr×Obj)}{σ:St}{H:Hp}{s:Shared}{a:Addr}{kvs:List (Key×V)}{A:Around}{E:Value->Shared->Prop}
end
section
variable {X:Cx}{pins:List (Addr×Obj)}{σ:St}{H:Hp}{s:Shared}{a:Addr}{y:V}{u:Value}{A:Around}{E:Value->Shared->Prop}
end
end L2
namespace L2
open PySem PySem.Spec PyProof.Rows
section
variable {X:Cx}
theorem zr:gO X (.builtin "len") (fun xs H Q => ∃ a kvs,xs = [V.ref a]/\H a=some (.dK kvs)/\Q (.int kvs.length) H):=by
 intro pins s σ H xs us Q I r h
 obtain⟨a,kvs,rfl,ha,q⟩:=h
 obtain⟨u,rfl,ru⟩:=vals1 r
 cases ru
 exact A8 I (.inl ha) fun t s' I'=>⟨.int kvs.length,H,I',⟨t,rfl⟩,q⟩
end
section
variable {κ:Type} [DecidableEq κ]
end
end L2
end
section
namespace PySem
open Sem (wp)
noncomputable def iJ (env:Env):List (Str×NameKind)->List (Str×Addr)->List (Str×Addr)
 | [],acc=>acc
 | (n,k)::r,acc=>if k == .free then iJ env r ((n,(env.cells.lookup n).getD 0)::acc) else iJ env r acc
theorem iu {scope:Scope}{env:Env} (h : ∀ y∈scope.names,y.2 = .free -> ∃ c,env.cells.lookup y.1=some c):closureFor scope env=pure (iJ env scope.names []):=by
 simp only [closureFor]
 have go : ∀ (names:List (Str×NameKind)) (acc:List (Str×Addr)),(∀ y∈names,y.2 = .free -> ∃ c,env.cells.lookup y.1=some c) ->
   (forIn (m:=Sem) names acc fun x r=>if (x.2 == aN)=true then cellOf env x.1 >>= fun a=>pure (dg ((x.1,a)::r)) else pure (dg r))=pure (iJ env names acc):=by
  intro names
  induction names with
  | nil=>intro acc _;rfl
  | cons y r ih=>
    intro acc hy
    obtain⟨n,k⟩:=y
    rw [jg]
    by_cases hk:k = .free
    ·subst hk
     obtain⟨c,hc⟩:=hy (n,.free) ba rfl
     have e1:cellOf env n=pure c:=by unfold cellOf;rw [hc]
     have e2:iJ env ((n,aN)::r) acc=iJ env r ((n,c)::acc):=by
      show (if (aN == aN)=true then _ else _)=_
      rw [if_pos (by decide),hc];rfl
     rw [e2,<- ih _ fun z hz=>hy z (aA _ hz)]
     simp only [beq_self_eq_true,if_true,e1]
     rfl
    ·have hb:(k == aN)=false:=by simpa using hk
     have e2:iJ env ((n,k)::r) acc=iJ env r acc:=by
      show (if (k == aN)=true then _ else _)=_
      rw [if_neg (by rw [hb];decide)]
     rw [e2,<- ih _ fun z hz=>hy z (aA _ hz)]
     simp only [hb,eU,if_false]
     rfl
 exact (congrArg (fun z=>z >>= pure) (go scope.names [] h)).trans rfl
theorem nk {env:Env} : ∀ (names:List (Str×NameKind)) (acc:List (Str×Addr)),(∀ y∈names,y.2 = .free -> ∃ c,env.cells.lookup y.1=some c) -> ∀ x c,(iJ env names acc).lookup x=some c->env.cells.lookup x=some c\/acc.lookup x=some c
 | [],_,_,_,_,h => .inr h
 | (n,k)::r,acc,hy,x,c,h=>by
   unfold iJ at h
   split at h
   ·rename_i hk
    have hk':k = .free:=by simpa using hk
    subst hk'
    obtain⟨d,hd⟩:=hy (n,.free) ba rfl
    rcases nk r _ (fun z hz=>hy z (aA _ hz)) x c h with e | e
    ·exact .inl e
    ·rw [aO] at e
     cases hb:x == n with
     | true=>
       rw [hb] at e
       rw [beq_iff_eq.mp hb,hd]
       rw [hd] at e
       exact .inl e
     | false=>rw [hb] at e;exact .inr e
   ·exact nk r acc (fun z hz=>hy z (aA _ hz)) x c h
theorem nA {env:Env}{x:Str} : ∀ (names:List (Str×NameKind)) (acc:List (Str×Addr)),(names.lookup x=some .free\/(acc.lookup x).isSome=true)->((iJ env names acc).lookup x).isSome=true
 | [],_,h=>h.elim (fun e=>by cases e) id
 | (y,k)::r,acc,h=>by
   unfold iJ
   by_cases hk:(k == .free)=true
   ·rw [if_pos hk]
    refine nA r ((y,(env.cells.lookup y).getD 0)::acc) ?_
    by_cases hy:(x == y)=true
    ·exact .inr (by rw [aO,hy];rfl)
    ·refine h.imp (fun e => ?_) fun e => ?_
     ·rw [aO] at e;simpa only [hy] using e
     ·rw [aO];simpa only [hy] using e
   ·rw [if_neg hk]
    refine nA r acc ?_
    refine h.imp (fun e => ?_) id
    rw [aO] at e
    cases hb:x == y with
    | true=>rw [hb] at e;cases e;exact absurd rfl hk
    | false=>rw [hb] at e;exact e
theorem eG : ∀ (names:List (Str×NameKind)) (n:Nat) (acc:List (Str×Addr)),cellsFrom n names acc=cellsFrom n names []++acc
 | [],_,_=>rfl
 | (y,k)::r,n,acc=>by
   unfold cellsFrom
   split
   ·rw [eG r (n+1) ((y,n)::acc),eG r (n+1) [(y,n)],aM];rfl
   ·exact eG r n acc
theorem jk {x:Str} : ∀ (names:List (Str×NameKind)) (n:Nat) (acc:List (Str×Addr)) (c:Addr),(cellsFrom n names acc).lookup x=some c->(∃ k∈names,k.1=x/\k.2 = .cell)\/acc.lookup x=some c
 | [],_,_,_,h => .inr h
 | (y,k)::r,n,acc,c,h=>by
   unfold cellsFrom at h
   split at h
   ·rename_i hk
    rcases jk r _ _ c h with⟨z,hz,e⟩ | e
    ·exact .inl ⟨z,aA _ hz,e⟩
    ·rw [aO] at e
     cases hb:x == y with
     | true=>exact .inl ⟨(y,k),ba,(beq_iff_eq.mp hb).symm,by simpa using hk⟩
     | false=>rw [hb] at e;exact .inr e
   ·rcases jk r _ _ c h with⟨z,hz,e⟩ | e
    ·exact .inl ⟨z,aA _ hz,e⟩
    ·exact .inr e
section
variable {M:Model}{A:Around}{E:Value->Shared->Prop}{s:Shared}
theorem mW {scope:Scope}{globals:Addr}{cl:List (Str×Addr)}{qual:Str}{env:Env}{Q:Env->Shared->Prop}
  (hQ:Q { scope:=scope,locals:=s.heap.objs.size,globals:=globals,cells:=cellsFrom (s.heap.objs.size+1) scope.names cl,qual:=qual,func:=none,code:=env.code,frame:=env.frame,builtins:=env.builtins }
   { s with heap:=pushCells (s.heap.push { cls := .type "dict",data := .dict #[] }) scope.names }) :
  aJ M A (newFunctionEnv scope globals cl [] qual none .none (some env)) Q E s:=by
 simp only [newFunctionEnv,CT,if_true]
 refine ag (wpAny_alloc ?_)
 refine ag (wpAny_layCells _ (fun name kind cells=>by cases hkc:kind == cf <;> simp [hkc]) _ _ _ _ ?_)
 rw [show ({ s with heap:=s.heap.push { cls := .type "dict",data := .dict #[] } }:Shared).heap.objs.size=s.heap.objs.size+1 from bB ..]
 exact ax hQ
end
section
variable {prog:Program}{w:World}{A:Around}{R:Result->Shared->Prop}{s:Shared}
theorem kz {elt target iter:Expr}{ifs:List Expr}{scope:Scope}{pos:Pos}{it acc:Value}{env:Env} (I:Nat->Shared->Prop)
  (turn : ∀ n s,I n s->aJ (model prog w) A (pyNext it) (fun r s₁=>match r with
   | none=>R (.ok .next) s₁
   | some v=>aJ (model prog w) A (letOwnedTupleGo target it v) (fun _ s₁=>aJ (model prog w) A (assign target env v) (fun _ s₂=>
     aJ (model prog w) A (forIn ifs true fun c r=>if r=true then do let ok <- isTrue c env (eval c env);pure (dg ok) else pure (dg r)) (fun ok s₃=>
      if ok=true then aJ (model prog w) A (eval elt env) (fun x s₄=>
       aJ (model prog w) A (call (.builtin "list.append") [acc,x]) (fun _ s₅ => ∃ m,m < n/\I m s₅) (fun _ _=>False) s₄) (fun _ _=>False) s₃
      else ∃ m,m < n/\I m s₃) (fun _ _=>False) s₂) (fun _ _=>False) s₁) (fun _ _=>False) s₁) (fun _ _=>False) s)
  (n:Nat) (h:I n s) :
  rf (model prog w) A (.compLoop (.ListComp elt [⟨target,iter,ifs,0⟩] scope pos) 0 it acc env) R s:=by
 refine codeAny_loop rfl I (fun n s hI => ?_) n h
 show aJ _ A ((compTurn (.ListComp elt [⟨target,iter,ifs,0⟩] scope pos) 0 it acc env).onRaise (fun x=>do noteFrame x env;theTreesLotGoes x)) _ _ s
 refine wpAny_noted ?_
 rw [compTurn_list]
 refine ag (wpAny_standAt (ag (cN (turn n s hI) (fun r s₁ h₁ => ?_) fun _ _ h'=>h'.elim)))
 cases r with
 | none=>exact ax h₁
 | some v=>
   refine ag (cN h₁ (fun _ s₁ h₁ => ?_) fun _ _ h'=>h'.elim)
   refine ag (cN h₁ (fun _ s₂ h₂=>ag (cN h₂ (fun ok s₃ h₃ => ?_) fun _ _ h'=>h'.elim)) fun _ _ h'=>h'.elim)
   cases ok with
   | false=>exact ax ⟨rfl,h₃⟩
   | true=>
     exact ag (ag (cN h₃ (fun x s₄ h₄=>ag (cN h₄ (fun _ s₅ h₅=>ax (ax ⟨rfl,h₅⟩)) fun _ _ h'=>h'.elim)) fun _ _ h'=>h'.elim))
end
end PySem
end
section
namespace G
open PySem
section
inductive U where
 | non | bl (b:Bool) | int (i:Int) | str (x:Str) | tup (us:List U) | ref (n:Nat) | obj (a:Addr)
 deriving Inhabited
inductive Cell where
 | lst (us:List U)
 | frz (us:List U)
 | dic (kvs:List (L2.Key×U))
 deriving Inhabited
abbrev Sto:=List Cell
abbrev Rho:=List (Option U)
abbrev Res (α:Type):=Option (α×Sto)
abbrev ME:=Rho->Sto->Res U
abbrev MT:=Rho->Sto->Res Bool
abbrev MA:=Rho->Sto->Res (List U)
abbrev MF:=List U->Sto->Res U
noncomputable def bnd {α β:Type} (r:Option (α×Sto)) (k:α->Sto->Option β):Option β:=match r with
 | none=>none
 | some p=>k p.1 p.2
theorem aG {α β:Type}{a:α}{S:Sto}{k:α->Sto->Option β}:bnd (some (a,S)) k=k a S:=rfl
theorem aQ {α β:Type}{r:Option (α×Sto)}{k:α->Sto->Option β}{b:β} (h:bnd r k=some b) : ∃ a S,r=some (a,S)/\k a S=some b:=by
 cases r with
 | none=>cases h
 | some p=>exact⟨p.1,p.2,rfl,h⟩
noncomputable def big:Nat:=16777216
noncomputable def getL (S:Sto) (n:Nat):Option (List U):=match S[n]? with
 | some (.lst us)=>some us
 | some (.frz us)=>some us
 | some (.dic _)=>none
 | none=>none
noncomputable def cut {α:Type} (xs:List α) (lo hi:Option Int):List α:=(xs.drop (HT.sIx xs.length 0 lo)).take (HT.sIx xs.length xs.length hi - HT.sIx xs.length 0 lo)
abbrev F2:=U->U->Sto->Res U
noncomputable def bW:F2:=fun x y S=>match x,y with
 | .int i,.int j=>some (.int (i+j),S)
 | .tup xs,.tup ys=>if xs.length+ys.length<=big then some (.tup (xs++ys),S) else none
 | .ref n,.ref m=>match S[n]?,S[m]? with
   | some (.lst xs),some (.lst ys)=>if xs.length+ys.length<=big then some (.ref S.length,S ++ [.lst (xs++ys)]) else none
   | _,_=>none
 | _,_=>none
noncomputable def mm:F2:=fun x y S=>match x,y with
 | .int i,.int j=>some (.int (i - j),S)
 | _,_=>none
noncomputable def i9 (i j:Int):Prop:=(-(2 ^ 64) < i/\i < 2 ^ 64)\/(-(2 ^ 64) < j/\j < 2 ^ 64)
noncomputable instance (i j:Int):Decidable (i9 i j):=cq _
noncomputable def Ax (n:Nat) (k:Int):Prop:=0<=k/\k < 1000/\0 < n/\n < 1000
noncomputable instance (n:Nat) (k:Int):Decidable (Ax n k):=cq _
noncomputable def fZ:F2:=fun x y S=>match x,y with
 | .int i,.int j=>if i9 i j then some (.int (i*j),S) else none
 | .tup xs,.int k=>if Ax xs.length k then some (.tup (aK k.toNat xs).flatten,S) else none
 | _,_=>none
noncomputable def pW (j:Int):Prop:=0 < j/\j < 1073741824
noncomputable instance (j:Int):Decidable (pW j):=cq _
noncomputable def oDiv:F2:=fun x y S=>match x,y with
 | .int i,.int j=>if pW j then some (.int (i / j),S) else none
 | _,_=>none
noncomputable def oMod:F2:=fun x y S=>match x,y with
 | .int i,.int j=>if 0 < j then some (.int (i % j),S) else none
 | _,_=>none
noncomputable def FR (i j:Int):Prop:=0<=j/\j<=1000000/\i.natAbs < 2 ^ 64
noncomputable instance (i j:Int):Decidable (FR i j):=cq _
noncomputable def ua:F2:=fun x y S=>match x,y with
 | .int i,.int j=>if FR i j then some (.int (i ^ j.toNat),S) else none
 | _,_=>none
noncomputable def zg (p:Int->Int->Bool):F2:=fun x y S=>match x,y with
 | .int i,.int j=>some (.bl (p i j),S)
 | _,_=>none
abbrev oLt:F2:=zg fun i j=>decide (i < j)
abbrev oLe:F2:=zg fun i j=>decide (i<=j)
abbrev oGt:F2:=zg fun i j=>decide (j < i)
abbrev oGe:F2:=zg fun i j=>decide (j<=i)
noncomputable def dI (S:Sto):U->Option (List U)
 | .tup us=>some us
 | .ref n=>getL S n
 | _=>none
noncomputable def de {α β:Type} (f:α->Option β):List α->Option (List β)
 | []=>some []
 | x::xs=>(f x).bind fun y=>(de f xs).map fun ys=>y::ys
noncomputable def toD (S:Sto):Nat->U->Option PyData
 | 0,_=>none
 | _+1,.non=>some .none
 | _+1,.bl b=>some (.bool b)
 | _+1,.int i=>some (.int i)
 | _+1,.str x=>if hW (.str x)=true then some (.str x) else none
 | f+1,.tup us=>(de (toD S f) us).map .tuple
 | f+1,.ref n=>(getL S n).bind fun us=>(de (toD S f) us).map .list
 | _+1,.obj _=>none
noncomputable def eqU (S:Sto) (x y:U):Option Bool:=(toD S 40 x).bind fun a=>(toD S 40 y).map fun b=>jo a b
noncomputable def oEq:F2:=fun x y S=>(eqU S x y).map fun b=>(.bl b,S)
noncomputable def oNe:F2:=fun x y S=>(eqU S x y).map fun b=>(.bl (!b),S)
noncomputable def keyOf:U->Option L2.Key
 | .int i=>some (.inl i)
 | .str x=>some (.inr x)
 | _=>none
noncomputable def lC (kvs:List (L2.Key×U)) (k:L2.Key):Option U:=(kvs.find? fun kv=>decide (kv.1=k)).map (·.2)
noncomputable def uV (kvs:List (L2.Key×U)) (k:L2.Key) (u:U):List (L2.Key×U):=
 if (kvs.any fun kv=>decide (kv.1=k))=true then kvs.map (fun kv=>if kv.1=k then (kv.1,u) else kv) else kvs ++ [(k,u)]
noncomputable def fv (S:Sto):U->Option (List (L2.Key×U))
 | .ref n=>match S[n]? with
   | some (.dic kvs)=>some kvs
   | _=>none
 | _=>none
noncomputable def oIx:F2:=fun x y S=>match fv S x with
 | some kvs=>(keyOf y).bind fun k=>(lC kvs k).map fun u=>(u,S)
 | none=>match y with
   | .int i=>((dI S x).bind fun us=>L2.atI us i).map fun u=>(u,S)
   | _=>none
noncomputable def ab (i:Nat):ME:=fun ρ S=>match ρ[i]? with
 | some (some u)=>some (u,S)
 | _=>none
noncomputable def mC (u:U):ME:=fun _ S=>some (u,S)
noncomputable def m1 (f:U->Sto->Res U) (a:ME):ME:=fun ρ S=>bnd (a ρ S) fun x S1=>f x S1
noncomputable def m2 (f:F2) (a b:ME):ME:=fun ρ S=>bnd (a ρ S) fun x S1=>bnd (b ρ S1) fun y S2=>f x y S2
noncomputable def af:MA:=fun _ S=>some ([],S)
noncomputable def aa (a:ME) (r:MA):MA:=fun ρ S=>bnd (a ρ S) fun x S1=>bnd (r ρ S1) fun xs S2=>some (x::xs,S2)
noncomputable def cK (a:MA):ME:=fun ρ S=>bnd (a ρ S) fun xs S1=>if xs.length<=big then some (.tup xs,S1) else none
noncomputable def cM (a:MA):ME:=fun ρ S=>bnd (a ρ S) fun xs S1=>if xs.length<=big then some (.ref S1.length,S1 ++ [.lst xs]) else none
noncomputable def mFn (f:MF) (a:MA):ME:=fun ρ S=>bnd (a ρ S) fun xs S1=>f xs S1
noncomputable def eW:U->Sto->Res U:=fun x S=>match x with
 | .int i=>some (.int (-i),S)
 | _=>none
noncomputable def pP:Option ME->Rho->Sto->Res (Option Int)
 | none=>fun _ S=>some (none,S)
 | some a=>fun ρ S=>bnd (a ρ S) fun x S1=>match x with
   | .int i=>some (some i,S1)
   | _=>none
noncomputable def mSl (a:ME) (lo hi:Option ME):ME:=fun ρ S=>bnd (a ρ S) fun x S1=>bnd (pP lo ρ S1) fun l S2=>bnd (pP hi ρ S2) fun h S3=>match x with
 | .tup us=>some (.tup (cut us l h),S3)
 | .ref n=>(getL S3 n).map fun us=>(.ref S3.length,S3 ++ [.lst (cut us l h)])
 | _=>none
noncomputable def cOf (a:ME):MT:=fun ρ S=>bnd (a ρ S) fun x S1=>match x with
 | .bl b=>some (b,S1)
 | _=>none
noncomputable def qQ (a b:MT):MT:=fun ρ S=>bnd (a ρ S) fun k S1=>if k then b ρ S1 else some (false,S1)
noncomputable def cOr (a b:MT):MT:=fun ρ S=>bnd (a ρ S) fun k S1=>if k then some (true,S1) else b ρ S1
noncomputable def tW (a:MT):MT:=fun ρ S=>bnd (a ρ S) fun k S1=>some (!k,S1)
noncomputable def cTT:MT:=fun _ S=>some (true,S)
inductive Src where
 | imm (us:List U)
 | mut (n:Nat)
 | enl (n:Nat)
 | zlt (n:Nat) (us:List U)
abbrev MI:=Rho->Sto->Option (Src×Sto)
noncomputable def okR (i:Int):Prop := -(2 ^ 62)<=i/\i < 2 ^ 62
noncomputable instance (i:Int):Decidable (okR i):=cq _
noncomputable def bo (i:Int) (n:Nat):List U:=(aB n).map fun (k:Nat) => .int (i+k)
noncomputable def iR1 (a:MA):MI:=fun ρ S=>bnd (a ρ S) fun xs S1=>match xs with
 | [.int j]=>if okR j then some (.imm (bo 0 j.toNat),S1) else none
 | _=>none
noncomputable def iR2 (a:MA):MI:=fun ρ S=>bnd (a ρ S) fun xs S1=>match xs with
 | [.int i,.int j]=>if okR i/\okR j then some (.imm (bo i (j - i).toNat),S1) else none
 | _=>none
noncomputable def da (a:ME):MI:=fun ρ S=>bnd (a ρ S) fun x S1=>match x with
 | .tup us=>some (.imm us,S1)
 | .ref n=>(getL S1 n).map fun _=>(.mut n,S1)
 | _=>none
noncomputable def vb (a:MA):MI:=fun ρ S=>bnd (a ρ S) fun xs S1=>match xs with
 | [.tup us]=>some (.imm us.reverse,S1)
 | _=>none
noncomputable def gH (t:MT) (e:ME) (ρ:Rho):List U->List U->Sto->Res (List U)
 | [],acc,S=>some (acc,S)
 | x::xs,acc,S=>bnd (t (ρ ++ [some x]) S) fun k S1=>if k then bnd (e (ρ ++ [some x]) S1) fun y S2=>gH t e ρ xs (acc ++ [y]) S2 else gH t e ρ xs acc S1
noncomputable def kl (t:MT) (e:ME) (ρ:Rho) (n:Nat):Nat->Nat->List U->Sto->Res (List U)
 | 0,_,_,_=>none
 | f+1,i,acc,S=>(getL S n).bind fun us=>match us[i]? with
   | none=>some (acc,S)
   | some x=>bnd (t (ρ ++ [some x]) S) fun k S1=>if k then bnd (e (ρ ++ [some x]) S1) fun y S2=>kl t e ρ n f (i+1) (acc ++ [y]) S2 else kl t e ρ n f (i+1) acc S1
noncomputable def fuel:Nat:=100000
noncomputable def Fq (t:MT) (e:ME) (ρ:Rho):Src->Sto->Res (List U)
 | .imm us,S=>gH t e ρ us [] S
 | .mut n,S=>kl t e ρ n fuel 0 [] S
 | _,_=>none
noncomputable def bZ (it:MI) (t:MT) (e:ME):ME:=fun ρ S=>bnd (it ρ S) fun src S1=>bnd (Fq t e ρ src S1) fun ys S2=>if ys.length < big then some (.ref S2.length,S2 ++ [.lst ys]) else none
inductive Fl where
 | nx | rt (u:U) | bk | ct
abbrev MS:=Rho->Sto->Option (Fl×Rho×Sto)
noncomputable def dh:MS:=fun ρ S=>some (.nx,ρ,S)
noncomputable def aZ (a b:MS):MS:=fun ρ S=>match a ρ S with
 | some (.nx,ρ1,S1)=>b ρ1 S1
 | r=>r
noncomputable def bA (i:Nat) (e:ME):MS:=fun ρ S=>bnd (e ρ S) fun x S1=>some (.nx,ρ.set i (some x),S1)
noncomputable def iX (o i e:ME):MS:=fun ρ S=>bnd (e ρ S) fun x S1=>bnd (o ρ S1) fun p S2=>bnd (i ρ S2) fun j S3=>match p with
 | .ref n=>match S3[n]? with
   | some (.lst us)=>(match j with
     | .int k=>(L2.ixN us.length k).map fun m=>(.nx,ρ,S3.set n (.lst (us.set m x)))
     | _=>none)
   | some (.dic kvs)=>(keyOf j).bind fun k=>if kvs.length < big then some (.nx,ρ,S3.set n (.dic (uV kvs k x))) else none
   | _=>none
 | _=>none
noncomputable def df (e:ME):MS:=fun ρ S=>bnd (e ρ S) fun _ S1=>some (.nx,ρ,S1)
noncomputable def bV (e:ME):MS:=fun ρ S=>bnd (e ρ S) fun x S1=>some (.rt x,ρ,S1)
noncomputable def sIf (c:MT) (a b:MS):MS:=fun ρ S=>bnd (c ρ S) fun k S1=>if k then a ρ S1 else b ρ S1
noncomputable def aft (r:Option (Fl×Rho×Sto)) (k:MS):Option (Fl×Rho×Sto):=match r with
 | some (.nx,ρ1,S1)=>k ρ1 S1
 | some (.ct,ρ1,S1)=>k ρ1 S1
 | some (.bk,ρ1,S1)=>some (.nx,ρ1,S1)
 | r=>r
noncomputable def oW (i:Nat) (b:MS):List U->MS
 | [],ρ,S=>some (.nx,ρ,S)
 | x::xs,ρ,S=>aft (b (ρ.set i (some x)) S) (oW i b xs)
noncomputable def forL (i:Nat) (b:MS) (n:Nat):Nat->Nat->MS
 | 0,_,_,_=>none
 | f+1,k,ρ,S=>(getL S n).bind fun us=>match us[k]? with
   | none=>some (.nx,ρ,S)
   | some x=>aft (b (ρ.set i (some x)) S) (forL i b n f (k+1))
noncomputable def LM (i:Nat) (b:MS):Src->MS
 | .imm us=>oW i b us
 | .mut n=>forL i b n fuel 0
 | _=>fun _ _=>none
noncomputable def eo (i:Nat) (it:MI) (b:MS):MS:=fun ρ S=>bnd (it ρ S) fun src S1=>LM i b src ρ S1
noncomputable def whl (c:MT) (b:MS):Nat->MS
 | 0,_,_=>none
 | f+1,ρ,S=>bnd (c ρ S) fun k S1=>if k then aft (b ρ S1) (whl c b f) else some (.nx,ρ,S1)
noncomputable def iA (c:MT) (b:MS):MS:=whl c b fuel
noncomputable def run (k n:Nat) (b:MS):MF:=fun us S=>if us.length=k then match b (us.map some++aK (n - k) none) S with
  | some (.rt u,_,S1)=>some (u,S1)
  | some (.nx,_,S1)=>some (.non,S1)
  | _=>none
 else none
noncomputable def bF:MF:=fun us S=>match us with
 | [x]=>(match fv S x with
   | some kvs=>some (.int kvs.length,S)
   | none=>(dI S x).map fun xs=>(.int xs.length,S))
 | _=>none
noncomputable def bD:MF:=fun us S=>match us with
 | [x]=>(dI S x).map fun xs=>(.tup xs,S)
 | _=>none
noncomputable def vd:MF:=fun us S=>match us with
 | [.int i,.int j]=>some (.int (if j > i then j else i),S)
 | _=>none
noncomputable def Ar:U->Option Int
 | .int i=>some i
 | _=>none
noncomputable def wW:List Int->Option Int
 | []=>none
 | x::xs=>match wW xs with
   | none=>some x
   | some m=>some (if m < x then m else x)
noncomputable def oY:MF:=fun us S=>match us with
 | [.int i,.int j]=>some (.int (if j < i then j else i),S)
 | [.ref n]=>((getL S n).bind fun xs=>(de Ar xs).bind wW).map fun m=>(.int m,S)
 | _=>none
noncomputable def gU (it:MI):ME:=fun ρ S=>bnd (it ρ S) fun src S1=>match src with
 | .imm us=>if us.length<=big then some (.ref S1.length,S1 ++ [.lst us]) else none
 | _=>none
noncomputable def lP (it:MI):ME:=fun ρ S=>bnd (it ρ S) fun src S1=>match src with
 | .imm us=>if us.length<=big then some (.tup us,S1) else none
 | _=>none
noncomputable def tyU (S:Sto):U->Option String
 | .non=>some "NoneType"
 | .bl _=>some "bool"
 | .int _=>some "int"
 | .str _=>some "str"
 | .tup _=>some "tuple"
 | .ref n=>match S[n]? with
   | some (.lst _)=>some "list"
   | some (.dic _)=>some "dict"
   | _=>none
 | .obj _=>none
noncomputable def Gq (d:PyData):Prop:=d.showable=true/\d.shown.length<=sizeLine
noncomputable instance (d:PyData):Decidable (Gq d):=cq _
noncomputable def Eg (t T:String):Bool:=t == T||(t == "bool"&&T == "int")
noncomputable def mI (T:String):U->Sto->Res U:=fun x S=>(tyU S x).map fun t=>(.bl (Eg t T),S)
noncomputable def mML (f:Nat->List U->Sto->Res U) (o:ME) (a:MA):ME:=fun ρ S=>bnd (o ρ S) fun p S1=>match p with
 | .ref n=>(getL S1 n).bind fun _=>bnd (a ρ S1) fun xs S2=>f n xs S2
 | _=>none
noncomputable def cj:Nat->List U->Sto->Res U:=fun n xs S=>match xs with
 | [x]=>match S[n]? with
   | some (.lst us)=>if us.length < big then some (.non,S.set n (.lst (us ++ [x]))) else none
   | _=>none
 | _=>none
noncomputable def jj:Nat->List U->Sto->Res U:=fun n xs S=>match xs with
 | [.int i]=>match S[n]? with
   | some (.lst us)=>if okR i then (L2.ixN us.length i).bind fun j=>us[j]?.map fun y=>(y,S.set n (.lst (us.eraseIdx j))) else none
   | _=>none
 | _=>none
noncomputable def lG:Nat->List U->Sto->Res U:=fun n xs S=>match xs with
 | []=>match S[n]? with
   | some (.lst us)=>us[us.length - 1]?.map fun y=>(y,S.set n (.lst us.dropLast))
   | _=>none
 | _=>none
noncomputable def mMT (f:List U->List U->Sto->Res U) (o:ME) (a:MA):ME:=fun ρ S=>bnd (o ρ S) fun p S1=>match p with
 | .tup us=>bnd (a ρ S1) fun xs S2=>f us xs S2
 | _=>none
end
end G
end
section
namespace L2
open PySem PySem.Spec PyProof.Rows
noncomputable def blk (X:Cx) (N':List Str) (scope:Scope) (s₂:Shared) (H₂:Hp) (fp:List Addr):Cx:=
 { X with
  N:=N'
  s₀:=s₂
  H₀:=H₂
  env:={ scope:=relabel scope X.env,locals:=s₂.heap.objs.size+1,globals:=X.env.globals,cells:=cellsFrom (s₂.heap.objs.size+2) scope.names (iJ X.env scope.names []),qual:=X.env.qual,func:=none,code:=X.env.code,frame:=X.env.frame,builtins:=X.env.builtins }
  outer:=X.stack
  ex:=fp
  fn:=fun x=>scope.names.lookup x == some .cell
  pn := []
  xe:=fun _ _=>False }
structure gy (X:Cx) (N':List Str) (scope:Scope) (xs:List Str):Prop where
 kind:scope.kind = .function
 nd:(scope.names.map (·.1)).Nodup
 free : ∀ y∈scope.names,y.2 = .free->X.env.kindOf y.1=some .cell\/X.env.kindOf y.1=some .free
 own : ∀ x∈xs,scope.names.lookup x=some .local\/scope.names.lookup x=some .cell
 ndN:N'.Nodup
 len:N'.length=X.N.length+xs.length
 last : ∀ (j:Nat) (x:Str),xs[j]? = some x->N'[X.N.length+j]? = some x
 vis : ∀ (i:Nat) (y:Str),i < X.N.length->N'[i]? = some y->(scope.names.lookup y=some .local\/scope.names.lookup y=some .cell\/scope.names.lookup y=some .free)->X.N[i]? = some y/\scope.names.lookup y=some .free
theorem gF {env:Env} : ∀ {names:List (Str×NameKind)}{x:Str}{k:NameKind},
  (names.map fun (n,k)=>if (k == aN&&env.scope.kind == .function&&env.kindOf n == some .cell) then (n,cf) else (n,k)).lookup x=some k ->
  names.lookup x=some k\/(names.lookup x=some .free/\k = .cell)
 | [],_,_,h=>by simp at h
 | (n,k')::r,x,k,h=>by
   have ih := @gF env r x k
   have h':iZ x ((if (k' == aN&&env.scope.kind == .function&&env.kindOf n == some .cell)=true then (n,cf) else (n,k'))::(r.map fun (n,k)=>if (k == aN&&env.scope.kind == .function&&env.kindOf n == some .cell) then (n,cf) else (n,k)))=some k:=h
   by_cases hc:(k' == aN&&env.scope.kind == .function&&env.kindOf n == some .cell)=true
   ·rw [if_pos hc] at h'
    rw [aO] at h' ⊢
    cases hx:x == n with
    | true=>
      rw [hx] at h'
      have hk:k' = .free:=by
       rw [az,az] at hc
       simpa using hc.1.1
      subst hk
      exact .inr ⟨rfl,(bq h').symm⟩
    | false=>rw [hx] at h';exact ih h'
   ·rw [if_neg hc] at h'
    rw [aO] at h' ⊢
    cases hx:x == n with
    | true=>rw [hx] at h';exact .inl h'
    | false=>rw [hx] at h';exact ih h'
theorem iE {env:Env} : ∀ {names:List (Str×NameKind)}{x:Str},names.lookup x=some .cell ->
  (names.map fun (n,k)=>if (k == aN&&env.scope.kind == .function&&env.kindOf n == some .cell) then (n,cf) else (n,k)).lookup x=some .cell
 | [],_,h=>by simp at h
 | (n,k')::r,x,h=>by
   have ih := @iE env r x
   show iZ x ((if (k' == aN&&env.scope.kind == .function&&env.kindOf n == some .cell)=true then (n,cf) else (n,k'))::_)=_
   rw [aO] at h
   cases hx:x == n with
   | true=>
     rw [hx] at h
     cases h
     simp [aO,hx]
   | false=>
     rw [hx] at h
     by_cases hc:(k' == aN&&env.scope.kind == .function&&env.kindOf n == some .cell)=true
     ·rw [if_pos hc];simp only [aO,hx];exact ih h
     ·rw [if_neg hc];simp only [aO,hx];exact ih h
theorem jP {env:Env} : ∀ {names:List (Str×NameKind)}{x:Str},names.lookup x=some .free ->
  (names.map fun (n,k)=>if (k == aN&&env.scope.kind == .function&&env.kindOf n == some .cell) then (n,cf) else (n,k)).lookup x=some .cell \/
  (names.map fun (n,k)=>if (k == aN&&env.scope.kind == .function&&env.kindOf n == some .cell) then (n,cf) else (n,k)).lookup x=some .free
 | [],_,h=>by simp at h
 | (n,k')::r,x,h=>by
   have ih := @jP env r x
   show iZ x ((if (k' == aN&&env.scope.kind == .function&&env.kindOf n == some .cell)=true then (n,cf) else (n,k'))::_)=_\/iZ x ((if (k' == aN&&env.scope.kind == .function&&env.kindOf n == some .cell)=true then (n,cf) else (n,k'))::_)=_
   rw [aO] at h
   by_cases hc:(k' == aN&&env.scope.kind == .function&&env.kindOf n == some .cell)=true
   ·rw [if_pos hc]
    cases hx:x == n with
    | true=>exact .inl (by simp [aO,hx])
    | false=>
      rw [hx] at h
      simp only [aO,hx];exact ih h
   ·rw [if_neg hc]
    cases hx:x == n with
    | true=>rw [hx] at h;cases h;exact .inr (by simp [aO,hx])
    | false=>
      rw [hx] at h
      simp only [aO,hx];exact ih h
theorem nJ {env:Env} : ∀ {names:List (Str×NameKind)}{x:Str},names.lookup x=some .globalImplicit ->
  (names.map fun (n,k)=>if (k == aN&&env.scope.kind == .function&&env.kindOf n == some .cell) then (n,cf) else (n,k)).lookup x=some .globalImplicit
 | [],_,h=>by simp at h
 | (n,k')::r,x,h=>by
   have ih := @nJ env r x
   show iZ x ((if (k' == aN&&env.scope.kind == .function&&env.kindOf n == some .cell)=true then (n,cf) else (n,k'))::_)=_
   rw [aO] at h
   cases hx:x == n with
   | true=>
     rw [hx] at h
     cases h
     simp [aO,hx]
   | false=>
     rw [hx] at h
     by_cases hc:(k' == aN&&env.scope.kind == .function&&env.kindOf n == some .cell)=true
     ·rw [if_pos hc];simp only [aO,hx];exact ih h
     ·rw [if_neg hc];simp only [aO,hx];exact ih h
theorem jB : ∀ {names:List (Str×NameKind)}{x:Str}{k:NameKind},(names.map (·.1)).Nodup->(x,k)∈names->names.lookup x=some k
 | [],_,_,_,h=>by simp at h
 | (n,k')::r,x,k,nd,h=>by
   rw [be,fi] at nd
   rw [aO]
   rcases aX.mp h with e | h2
   ·cases e;simp
   ·have hne:x≠n:=by
     intro e
     subst e
     exact nd.1 (bb.mpr ⟨(x,k),h2,rfl⟩)
    have hb:(x == n)=false:=beq_eq_false_iff_ne.mpr hne
    rw [hb]
    exact jB nd.2 h2
theorem ju {X:Cx}{scope:Scope}{n:Nat} (hf : ∀ y∈scope.names,y.2 = .free -> ∃ c,X.env.cells.lookup y.1=some c) {x:Str}{c:Addr}
  (h:(cellsFrom n scope.names (iJ X.env scope.names [])).lookup x=some c):(cellsFrom n scope.names []).lookup x=some c\/X.env.cells.lookup x=some c:=by
 rw [eG,gQ] at h
 cases q:(cellsFrom n scope.names []).lookup x with
 | some d=>rw [q] at h;exact .inl h
 | none=>
   rw [q] at h
   have h':(iJ X.env scope.names []).lookup x=some c:=h
   rcases nk scope.names [] hf x c h' with e | e
   ·exact .inr e
   ·cases e
section
variable {X:Cx}{pins:List (Addr×Obj)}{σ:St}{H₂:Hp}{s₂:Shared}{N':List Str}{scope:Scope}{xs:List Str}{fp:List Addr}
theorem gy.frees (C:gy X N' scope xs) (ok:X.Ok) : ∀ y∈scope.names,y.2 = .free -> ∃ c,X.env.cells.lookup y.1=some c:=fun y hy e=>ok.has y.1 (C.free y hy e)
theorem E3 (C:gy X N' scope xs) {y:Str}{n:Nat} (h:scope.names.lookup y=some .cell\/scope.names.lookup y=some .free) : ∃ c,(cellsFrom n scope.names (iJ X.env scope.names [])).lookup y=some c:=by
 refine gm.mp (gZ scope.names n _ ?_)
 rcases h with h | h
 ·exact .inl h
 ·exact .inr (nA scope.names [] (.inl h))
theorem Ie (I:Inv X pins σ H₂ s₂) (C:gy X N' scope xs) (hfp : ∀ b∈fp,tU X pins H₂ b) (hlt : ∀ b∈fp,b < s₂.heap.objs.size):(blk X N' scope s₂ H₂ fp).Ok:=by
 have own : ∀ y c,(cellsFrom (s₂.heap.objs.size+2) scope.names []).lookup y=some c->s₂.heap.objs.size+2<=c:=fun y c h=>by
  have ok:=cellsFrom_ok scope.names ((s₂.heap.push default).push default) (s₂.heap.objs.size+2) [] ⟨fun _ _ hm=>(nomatch hm),gc⟩ (by rw [bB,bB];exact ak _)
  rw [bB,bB] at ok
  exact (ok.empty y c (bN h)).2
 have apart:(cellsFrom (s₂.heap.objs.size+2) scope.names []).Pairwise fun x y=>x.2≠y.2:=by
  have ok:=cellsFrom_ok scope.names ((s₂.heap.push default).push default) (s₂.heap.objs.size+2) [] ⟨fun _ _ hm=>(nomatch hm),gc⟩ (by rw [bB,bB];exact ak _)
  rw [bB,bB] at ok
  exact ok.apart
 have old : ∀ y c,X.env.cells.lookup y=some c->c < s₂.heap.objs.size:=fun y c h=>by obtain⟨v,z⟩:=I.cell y c h;exact z.lt
 refine⟨I.ok.mod,C.kind,I.ok.glob,I.ok.blt,d8 _,fun y z c h1 h2 => ?_,fun y hy => ?_,fun y c hy h => ?_,I.ok.hd,I.ok.frames,.inl rfl,fun b hb=>⟨?_,fun y c h z => ?_⟩,I.bs,bg I.ok.bsz I.sz,fun b o e hb => ?_,fun b hb z => ?_,I.stack,I.stkFree⟩
 ·rcases ju (C.frees I.ok) h1 with a | a <;> rcases ju (C.frees I.ok) h2 with b | b
  ·exact name_of_addr apart (bN a) (bN b)
  ·exact absurd (ae (old z c b) (bg (gf _ 2) (own y c a))) (bQ _)
  ·exact absurd (ae (old y c a) (bg (gf _ 2) (own z c b))) (bQ _)
  ·exact I.ok.inj y z c a b
 ·have hy:(relabel scope X.env).names.lookup y=some .cell\/(relabel scope X.env).names.lookup y=some .free:=hy
  refine E3 C ?_
  rcases hy with hy | hy
  ·rcases gF hy with e | ⟨e,_⟩
   ·exact .inl e
   ·exact .inr e
  ·rcases gF hy with e | ⟨e,_⟩
   ·exact .inr e
   ·exact .inr e
 ·have hy':scope.names.lookup y=some .cell:=by simpa [blk] using hy
  have h':(cellsFrom (s₂.heap.objs.size+2) scope.names (iJ X.env scope.names [])).lookup y=some c:=h
  rw [eG,gQ] at h'
  have q:=gm.mp (gZ scope.names (s₂.heap.objs.size+2) [] (.inl hy'))
  obtain⟨d,hd⟩:=q
  rw [hd] at h'
  have e:d=c:=bq h'
  subst e
  have:=own y d hd
  show s₂.heap.objs.size<=d
  omega
 ·have:=hlt b hb
  exact aP (dE this)
 ·have:=hlt b hb
  rcases ju (C.frees I.ok) h with a | a
  ·exact absurd (ae this (bg (gf _ 2) (z▸own y c a))) (bQ _)
  ·exact (hfp b hb).2.2.2.2.1 y c a z
 ·have z:=(hfp b hb).2.2.2.1
  rcases z with z | z
  ·exact I.ok.noex b o e z
  ·exact absurd (ae (aD e) (bg I.ok.bsz z)) (bQ _)
 ·rcases aX.mp (I.stkSub b z) with e | e
  ·exact (hfp b hb).2.1 e
  ·exact (hfp b hb).2.2.1 e
theorem zU (I:Inv X pins σ H₂ s₂) (C:gy X N' scope xs) (hfp : ∀ b∈fp,tU X pins H₂ b) (hlt : ∀ b∈fp,b < s₂.heap.objs.size) {lo do':Obj} (hdo:do'.data = .dict #[]) (hdo2:do'.isFreed=false) (hlo:lo.isFreed=false) :
  Inv (blk X N' scope s₂ H₂ fp) [] (σ++aK xs.length none) H₂ { s₂ with heap:=pushCells ((s₂.heap.push lo).push do') scope.names }:=by
 have sz:((s₂.heap.push lo).push do').objs.size=s₂.heap.objs.size+2:=by rw [bB,bB]
 have okc:=cellsFrom_ok scope.names ((s₂.heap.push lo).push do') (s₂.heap.objs.size+2) [] ⟨fun _ _ hm=>(nomatch hm),gc⟩ (by rw [sz];exact ak _)
 rw [sz] at okc
 have kp : ∀ b o,s₂.heap.get? b=some o->(pushCells ((s₂.heap.push lo).push do') scope.names).get? b=some o:=fun b o e=>pushCells_keeps _ _ b o (aq _ (aq _ e))
 have hL:(pushCells ((s₂.heap.push lo).push do') scope.names).get? (s₂.heap.objs.size+1)=some do':=pushCells_keeps _ _ _ _ (by
  have e:s₂.heap.objs.size+1=(s₂.heap.push lo).objs.size:=by rw [bB]
  rw [e];exact aC _ hdo2)
 refine⟨Ie I C hfp hlt,rfl,I.bare,Un.kept kp,⟨fun _=>none,⟨do',#[],_,hL,hdo,fun e he=>by simp at he,fun _=>rfl⟩,fun i y v h1 h2 h3 => ?_⟩,fun y c h => ?_,I.hok.fresh (d8 _),fun y c h => ?_,fun p hp=>absurd (show p∈([]:List (Addr×Obj)) from hp) (by simp),I.hok.kept kp,?_⟩
 ·have hi:i < X.N.length:=by
   by_cases hi:i < X.N.length
   ·exact hi
   ·rw [ar (by rw [I.len];exact eN (by assumption)),g8] at h2
    split at h2 <;> simp at h2
  rw [aI (by rw [I.len];exact hi)] at h2
  have hv:scope.names.lookup y=some .local\/scope.names.lookup y=some .cell\/scope.names.lookup y=some .free:=by
   rcases h3 with h3 | h3 | h3 <;> rcases gF h3 with e | ⟨e,e'⟩
   ·exact .inl e
   ·cases e'
   ·exact .inr (.inl e)
   ·exact .inr (.inr e)
   ·exact .inr (.inr e)
   ·cases e'
  obtain⟨hN,hfr⟩:=C.vis i y hi h1 hv
  have hmem:(y,aN)∈scope.names:=bN hfr
  have hk:=C.free _ hmem rfl
  have vis:Vis X.env.scope y := .inr hk
  obtain⟨m,hn,hl⟩:=I.loc
  obtain⟨u,r,l⟩:=hl i y v hN h2 vis
  refine⟨u,r,.inr ⟨jP hfr,?_⟩⟩
  rcases l with⟨hk',_⟩ | ⟨_,c,hc,hcell⟩
  ·rcases hk with hk | hk
   ·rw [hk] at hk';cases hk'
   ·rw [hk] at hk';cases hk'
  ·have nown:(cellsFrom (s₂.heap.objs.size+2) scope.names []).lookup y=none:=by
    cases q:(cellsFrom (s₂.heap.objs.size+2) scope.names []).lookup y with
    | none=>rfl
    | some d=>
      rcases jk scope.names _ _ d q with⟨z,hz,e1,e2⟩ | e
      ·obtain⟨z1,z2⟩:=z
       simp only at e1 e2
       subst e1;subst e2
       exact absurd (jB C.nd hz) (by rw [hfr];simp)
      ·cases e
   obtain⟨d,hd⟩:=gm.mp (nA (env:=X.env) (x:=y) scope.names [] (.inl hfr))
   have hd':X.env.cells.lookup y=some d:=by
    rcases nk scope.names [] (C.frees I.ok) y d hd with e | e
    ·exact e
    ·cases e
   rw [hc] at hd';cases hd'
   refine⟨c,?_,hcell.keeps kp⟩
   show (cellsFrom (s₂.heap.objs.size+2) scope.names (iJ X.env scope.names [])).lookup y=some c
   rw [eG,gQ,nown]
   exact hd
 ·rcases ju (C.frees I.ok) h with a | a
  ·exact⟨none,(okc.empty y c (bN a)).1⟩
  ·obtain⟨v,z⟩:=I.cell y c a
   exact⟨v,z.keeps kp⟩
 ·rcases ju (C.frees I.ok) h with a | a
  ·exact I.hok.fresh (bg (gf _ 2) (okc.empty y c (bN a)).2)
  ·exact I.freeC y c a
 ·show (σ++aK xs.length none).length=N'.length
  rw [aH,iG,I.len,C.len]
end
noncomputable def PTs (X:Cx) (ifs:List Expr) (t:TT):Prop:=
 ∀ (pins:List (Addr×Obj)) (s:Shared) (σ:St) (H:Hp) (Q:Bool->Hp->Prop),Inv X pins σ H s->t σ H Q ->
  aJ (model X.prog X.w) X.A (forIn ifs true fun c r=>if r=true then do let ok <- isTrue c X.env (eval c X.env);pure (dg ok) else pure (dg r)) (TP X pins σ Q) X.xe s
theorem EW {X:Cx}:PTs X [] (fun _ H Q=>Q true H):=fun pins s σ H Q I h=>by
 rw [List.forIn_nil]
 exact ax ⟨H,I,h⟩
theorem E8 {X:Cx}{c:Expr}{t:TT} (h:PT X c t):PTs X [c] t:=fun pins s σ H Q I q=>by
 rw [jg]
 simp only [if_true]
 refine ag (ag (thn (h pins s σ H Q I q) fun b s1 e=>ax ?_))
 show aJ _ _ (forIn [] b _) _ _ _
 rw [List.forIn_nil]
 exact ax e
noncomputable def nM (wi:TI) (tt:TT) (te:TE):TE:=fun σ H Q=>wi σ H fun J H1 => ∃ W:Nat->Nat->List V->Hp->Prop,(∃ m,W 0 m [] H1) /\ ∀ i m ys H,W i m ys H->ys.length < sizeLine /\
 ((J.stop i H /\ ∀ D,H D=none->Q (.ref D) (upd H D (.lst ys))) \/
  (J.go i H /\ ∀ x H',J.yld i H x H'->tt (σ ++ [some x]) H' fun b H3=>if b=true then te (σ ++ [some x]) H3 fun y H4 => ∃ m',m' < m/\W (i+1) m' (ys ++ [y]) H4 else ∃ m',m' < m/\W (i+1) m' ys H3))
theorem HOk.track {P:Program}{w:World}{H:Hp}{h:Heap}{a:Addr}{o:HO} (x:HOk P w H h) (hn:H a=none) (new:dW P w (upd H a o) h a o):HOk P w (upd H a o) h:=fun b u e=>by
 by_cases hb:b=a
 ·subst hb;rw [cg] at e;cases e;exact new
 ·rw [bz hb] at e
  exact (x b u e).stay (fun c v _ q=>q) (fun c q=>by rw [bz (bC q hn)];exact q) fun c xs q=>by rw [bz (bC q hn)];exact q
theorem HOk.but {P:Program}{w:World}{H:Hp}{h h':Heap}{a:Addr} (x:HOk P w H h) (hn:H a=none) (k : ∀ b o,b≠a->h.get? b=some o->h'.get? b=some o):HOk P w H h':=fun b u e=>by
 refine (x b u e).stay (fun c v hc q=>k c v ?_ q) (fun _ q=>q) fun _ _ q=>q
 rcases hc with rfl | hc
 ·exact bC e hn
 ·exact bC hc hn
noncomputable def xj (gT:V->Hp->(St->Hp->Prop)->Prop) (wi:TI) (tt:TT) (te:TE):TE:=fun σ H Q=>wi σ H fun J H1 => ∃ W:Nat->Nat->List V->Hp->Prop,(∃ m,W 0 m [] H1) /\ ∀ i m ys H,W i m ys H->ys.length < sizeLine /\
 ((J.stop i H /\ ∀ D,H D=none->Q (.ref D) (upd H D (.lst ys))) \/
  (J.go i H /\ ∀ x H',J.yld i H x H'->gT x H' fun τ H2=>tt (σ++τ) H2 fun b H3=>if b=true then te (σ++τ) H3 fun y H4 => ∃ m',m' < m/\W (i+1) m' (ys ++ [y]) H4 else ∃ m',m' < m/\W (i+1) m' ys H3))
noncomputable def gT1:V->Hp->(St->Hp->Prop)->Prop:=fun v H Q=>Q [some v] H
section
variable {X:Cx}{N':List Str}{scope:Scope}{x:Str}{xs:List Str}{tg:Expr}{gT:V->Hp->(St->Hp->Prop)->Prop}{px pos:Pos}{elt iter:Expr}{ifs:List Expr}{wi:TI}{tt:TT}{te:TE}
theorem nZ {use:Option (Value->Sem Unit)}{Qf:Value->Shared->Prop} (hc:X.calm=true) (C:gy X N' scope xs) (hi:PI X tg iter wi)
  (ht : ∀ s₂ H₂ fp,PTs (blk X N' scope s₂ H₂ fp) ifs tt) (he : ∀ s₂ H₂ fp,PE (blk X N' scope s₂ H₂ fp) elt te) {pins:List (Addr×Obj)}{s:Shared}{σ:St}{H:Hp}{Q:VK} (I:Inv X pins σ H s) (h:xj gT wi tt te σ H Q)
  (htg : ∀ (s₂:Shared) (H₂:Hp) (fp:List Addr) (pl:List (Addr×Obj)) (s:Shared) (H:Hp) (v:V) (u:Value) (Q:St->Hp->Prop),Inv (blk X N' scope s₂ H₂ fp) pl (σ++aK xs.length none) H s->RelV v u->gT v H Q ->
   aJ (model X.prog X.w) X.A (assign tg (blk X N' scope s₂ H₂ fp).env u) (fun _ s' => ∃ τ H',τ.length=xs.length/\Inv (blk X N' scope s₂ H₂ fp) pl (σ++τ) H' s'/\Q τ H') (fun _ _=>False) s)
  (hfin : ∀ (s':Shared) (L D:Addr) (H':Hp) (ml:Str->Option Value),s'.heap.Ns L ml->Inv X pins σ H' s'->H' L=none->L≠X.env.locals->X.s₀.heap.objs.size<=L->(∀ y c,X.env.cells.lookup y=some c->c≠L)->(∀ p∈X.pn++pins,p.1≠L) ->
   Q (.ref D) H'->compPost (model X.prog X.w) X.A X.xe use Qf (.ref D) L (.ok .next) s') :
  aJ (model X.prog X.w) X.A (eval iter X.env) (fun xv s₁=>aJ (model X.prog X.w) X.A (pyIter xv) (fun it s₂=>aJ (model X.prog X.w) X.A (newList []) (fun acc s₃=>
   aJ (model X.prog X.w) X.A (newFunctionEnv scope X.env.globals (iJ X.env scope.names []) [] X.env.qual none .none (some X.env)) (fun cenv s₄=>
    rf (model X.prog X.w) X.A (.compStart (.ListComp elt [⟨tg,iter,ifs,0⟩] scope pos) 0 it acc { cenv with scope:=relabel scope X.env }) (compPost (model X.prog X.w) X.A X.xe use Qf acc cenv.locals) s₄) X.xe s₃) X.xe s₂) X.xe s₁) X.xe s:=by
 refine thn (hi pins s σ H _ I h) fun v s1 h1=>thn h1 fun itv s2 h2 => ?_
 obtain⟨it,fp,tn,J,H2,e,I2,T,st2,f2,W,⟨m0,w0⟩,turn⟩:=h2
 subst e
 have hlt : ∀ b∈fp,b < s2.heap.objs.size:=fun b hb=>by obtain⟨o,ho,_⟩:=T.obj _ _ st2 b hb;exact aD ho
 refine bx (mW ?_)
 dsimp only
 have I4:Inv (blk X N' scope s2 H2 fp) [] (σ++aK xs.length none) H2 { s2 with heap:=pushCells ((s2.heap.push { cls := .type "list",dict:=none,data := .seq ([]:List Value).toArray }).push { cls := .type "dict",data := .dict #[] }) scope.names }:=
  zU I2 C f2 hlt rfl rfl rfl
 generalize hXb:blk X N' scope s2 H2 fp=Xb at I4
 have hD4:(pushCells ((s2.heap.push { cls := .type "list",dict:=none,data := .seq ([]:List Value).toArray }).push { cls := .type "dict",data := .dict #[] }) scope.names).get? s2.heap.objs.size=some { cls := .type "list",data := .seq ([]:List Value).toArray }:=
  pushCells_keeps _ _ _ _ (aq _ (aC _ rfl))
 have st4:tn 0 (pushCells ((s2.heap.push { cls := .type "list",dict:=none,data := .seq ([]:List Value).toArray }).push { cls := .type "dict",data := .dict #[] }) scope.names):=
  T.keep _ _ _ st2 fun b hb o e=>pushCells_keeps _ _ b o (aq _ (aq _ e))
 have henv:({ scope:=relabel scope X.env,locals:=(s2.heap.push { cls := .type "list",dict:=none,data := .seq ([]:List Value).toArray }).objs.size,globals:=X.env.globals,cells:=cellsFrom ((s2.heap.push { cls := .type "list",dict:=none,data := .seq ([]:List Value).toArray }).objs.size+1) scope.names (iJ X.env scope.names []),qual:=X.env.qual,func:=none,code:=X.env.code,frame:=X.env.frame,builtins:=X.env.builtins }:Env)=Xb.env:=by
  rw [<- hXb,bB];rfl
 generalize hs4:({ s2 with heap:=pushCells ((s2.heap.push { cls := .type "list",dict:=none,data := .seq ([]:List Value).toArray }).push { cls := .type "dict",data := .dict #[] }) scope.names }:Shared)=s4 at I4
 have hD4':s4.heap.get? s2.heap.objs.size=some { cls := .type "list",data := .seq ([]:List Value).toArray }:=by rw [<- hs4];exact hD4
 have st4':tn 0 s4.heap:=by rw [<- hs4];exact st4
 have hL:Xb.env.locals=s2.heap.objs.size+1:=by rw [<- hXb];rfl
 have hex:Xb.ex=fp:=by rw [<- hXb];rfl
 have hs0:Xb.s₀=s2:=by rw [<- hXb];rfl
 have hH0:Xb.H₀=H2:=by rw [<- hXb];rfl
 have hfs:Xb.fs=frs X.stack:=by rw [<- hXb];rfl
 have hpn:Xb.pn = []:=by rw [<- hXb];rfl
 have hK:Xb.K=X.K:=by rw [<- hXb];rfl
 have hP:Xb.prog=X.prog:=by rw [<- hXb];rfl
 have hw:Xb.w=X.w:=by rw [<- hXb];rfl
 have hA:Xb.A=X.A:=by rw [<- hXb];rfl
 have hxe:Xb.xe=fun _ _=>False:=by rw [<- hXb];rfl
 have hcb:Xb.calm=true:=by rw [<- hXb];exact hc
 have hNb:Xb.N=N':=by rw [<- hXb];rfl
 have hfn : ∀ y,scope.names.lookup y=some .cell->Xb.fn y=true:=fun y hy=>by rw [<- hXb];show (scope.names.lookup y == some .cell)=true;rw [hy];rfl
 have htb:PTs Xb ifs tt:=by rw [<- hXb];exact ht _ _ _
 have heb:PE Xb elt te:=by rw [<- hXb];exact he _ _ _
 have hgb : ∀ (pl:List (Addr×Obj)) (s:Shared) (H:Hp) (v:V) (u:Value) (Q:St->Hp->Prop),Inv Xb pl (σ++aK xs.length none) H s->RelV v u->gT v H Q ->
   aJ (model X.prog X.w) X.A (assign tg Xb.env u) (fun _ s' => ∃ τ H',τ.length=xs.length/\Inv Xb pl (σ++τ) H' s'/\Q τ H') (fun _ _=>False) s:=by
  rw [<- hXb];exact htg _ _ _
 have cellne : ∀ y c,Xb.env.cells.lookup y=some c->c≠s2.heap.objs.size:=fun y c e z=>by
  obtain⟨v,o,ho,hd⟩:=I4.cell y c e
  rw [z,hD4'] at ho
  cases ho
  cases hd
 have stat : ∀ {H':Hp}{pl:List (Addr×Obj)},(∀ b∈fp,H' b=none)->(∀ p∈pl,p.1=s2.heap.objs.size) -> ∀ b∈fp,tU Xb pl H' b:=fun {H' pl} hn hpl b hb=>by
  refine⟨hn b hb,?_,?_,.inl (by rw [hex];exact hb),fun y c e z => ?_,fun p hp z => ?_⟩
  ·rw [hL];exact aP (dE (hlt b hb))
  ·exact I4.ok.exfs b (by rw [hex];exact hb)
  ·exact (I4.ok.exf b (by rw [hex];exact hb)).2 y c e z
  ·rw [hpn] at hp
   have h1:=hpl p (by simpa using hp)
   have h2:=hlt b hb
   exact absurd h2 (by rw [<- z,h1];exact bQ _)
 have Dfs:s2.heap.objs.size∉Xb.fs:=by
  rw [hfs]
  intro z
  rcases aX.mp (I2.stkSub _ z) with e | e
  ·exact absurd I2.lt (by rw [<- e];exact bQ _)
  ·exact I2.nofs (ak _) e
 have fin : ∀ (s':Shared) (i m:Nat) (ys:List V) (its:List Value) (n:Nat) (H':Hp) (σ':St),Inv Xb [] σ' H' s'->H' s2.heap.objs.size=none->s'.heap.get? s2.heap.objs.size=some { cls := .type "list",data := .seq its.toArray n }->bK ys its->ys.length < sizeLine ->
   (∀ D,H' D=none->Q (.ref D) (upd H' D (.lst ys)))->compPost (model X.prog X.w) X.A X.xe use Qf (.ref s2.heap.objs.size) Xb.env.locals (.ok .next) s':=by
  intro s' i m ys its n H' σ' I' hDn hDo rv hz q
  obtain⟨ml,hml,_⟩:=I'.loc
  have kb : ∀ b o,b≠Xb.env.locals->s'.heap.get? b=some o->s'.heap.get? b=some o:=fun b o _ e=>e
  have hDL:s2.heap.objs.size≠Xb.env.locals:=by rw [hL];exact aP (bw _)
  have hok1:HOk X.prog X.w H' s'.heap:=by
   have:=I'.hok.but I'.free kb
   rw [hP,hw] at this;exact this
  have hok2:HOk X.prog X.w (upd H' s2.heap.objs.size (.lst ys)) s'.heap:=hok1.track hDn ⟨bG hz,its,n,rv,kb _ _ hDL hDo⟩
  have base:=I'.base
  rw [hs0,hH0,hex,hfs] at base
  have un:Un (frs X.stack) fp H2 (upd H' s2.heap.objs.size (.lst ys)) s2.heap s'.heap:=by
   have ltL : ∀ b o,s2.heap.get? b=some o->b≠Xb.env.locals:=fun b o e=>by rw [hL];exact aP (dE (aD e))
   have ltD : ∀ b o,s2.heap.get? b=some o->b≠s2.heap.objs.size:=fun b o e=>aP (aD e)
   refine⟨fun b o e n hb hx=>kb b o (ltL b o e) (base.keep b o e n hb hx),fun b o e n hb hx => ?_,fun b o e n hx => ?_,fun b o e hx => ?_,fun b xs e => ?_,fun b o u e => ?_,fun b ps e => ?_⟩
   ·obtain⟨sl,q⟩:=base.slot b o e n hb hx
    exact⟨sl,kb b _ (ltL b o e) q⟩
   ·rw [bz (ltD b o e)];exact base.free b o e n hx
   ·obtain⟨o',q⟩:=base.there b o e hx
    exact⟨o',kb b _ (ltL b o e) q⟩
   ·have q:=base.tups b xs e
    rw [bz (bC q hDn)];exact q
   ·have q:=base.frzs b o u e
    rw [bz (bC q hDn)];exact q
   ·obtain⟨more,q⟩:=base.tbls b ps e
    exact⟨more,by rw [bz (bC q hDn)];exact q⟩
  have os:s'.os=s2.os:=by rw [I'.os,hs0]
  have If:=I2.call' (s':=s') os un hok2 I'.bare fun b hb=>⟨(f2 b hb).2.2.2.1,(f2 b hb).2.1,(f2 b hb).2.2.2.2.1,(f2 b hb).2.2.2.2.2⟩
  refine hfin s' _ _ _ ml hml If ?_ ?_ ?_ ?_ ?_ (q _ hDn)
  ·rw [bz (eg hDL)];exact I'.free
  ·rw [hL];exact cZ (dE I2.lt)
  ·rw [hL];exact j7 I2.sz
  ·intro y c e z
   obtain⟨v,o,ho,_⟩:=I2.cell y c e
   have:=aD ho
   rw [z,hL] at this;exact absurd (Nat.lt_of_succ_lt this) (bQ _)
  ·intro p hp z
   have:=aD (I2.pin p hp).1
   rw [z,hL] at this;exact absurd (Nat.lt_of_succ_lt this) (bQ _)
 have loop : ∀ it':Addr,it'=it->rf (model X.prog X.w) X.A (.compLoop (.ListComp elt [⟨tg,iter,ifs,0⟩] scope pos) 0 (.ref it') (.ref s2.heap.objs.size) Xb.env) (compPost (model X.prog X.w) X.A X.xe use Qf (.ref s2.heap.objs.size) Xb.env.locals) s4:=by
  rintro it' rfl
  refine kz (fun n s' => ∃ (i:Nat) (ys:List V) (its:List Value) (nn:Nat) (H':Hp),Inv Xb [] (σ++aK xs.length none) H' s'/\tn i s'.heap/\(∀ b∈fp,H' b=none)/\H' s2.heap.objs.size=none /\
   s'.heap.get? s2.heap.objs.size=some { cls := .type "list",data := .seq its.toArray nn }/\bK ys its/\W i n ys H') ?_ m0 ⟨0,[],[],_,H2,I4,st4',fun b hb=>(f2 b hb).1,I2.hok.fresh (ak _),hD4',.nil,w0⟩
  rintro n s3 ⟨i,ys,its,nn,H3,I3,st3,fr3,hD3,hDo3,rv3,w3⟩
  obtain⟨hz,turn⟩:=turn i n ys H3 w3
  have pinD : ∀ {s':Shared}{H':Hp}{σ':St}{oD:Obj},Inv Xb [] σ' H' s'->H' s2.heap.objs.size=none->s'.heap.get? s2.heap.objs.size=some oD->(∀ v,oD.data ≠ .cell v)->Inv Xb [(s2.heap.objs.size,oD)] σ' H' s':=fun {s' H' σ' oD} I' hn ho hd=>
   I'.pins_of fun p hp=>by
    have e:p=(s2.heap.objs.size,oD):=by simpa using hp
    subst e
    exact⟨ho,hn,by rw [hL];show s2.heap.objs.size≠_;exact aP (bw _),Dfs,hd⟩
  have I3p:=pinD I3 hD3 hDo3 (fun v z=>by cases z)
  have hpl : ∀ p ∈ [(s2.heap.objs.size,({ cls := .type "list",data := .seq its.toArray nn }:Obj))],p.1=s2.heap.objs.size:=fun p hp=>by
   have e:=du.mp hp
   rw [e]
  rcases turn with⟨stop,qn⟩ | ⟨go,step⟩
  ·have q:=T.done Xb hP hw hK hcb i _ s3 _ H3 (fun _ _=>False) I3p (stat fr3 hpl) st3 stop
   rw [hA] at q
   refine cN q (fun r s5 ⟨hr,I5⟩ => ?_) fun _ _ z=>cD z
   subst hr
   exact fin s5 i n ys its nn H3 _ (I5.pins_of fun p hp=>absurd hp (by simp)) hD3 (I5.pin _ (aS _ (du.mpr rfl))).1 rv3 hz qn
  ·have q:=T.item Xb hP hw hK hcb i _ s3 _ H3 (fun _ _=>False) I3p (stat fr3 hpl) st3 go
   rw [hA] at q
   refine cN q (fun r s45 ⟨u,hr,h5⟩ => ?_) fun _ _ z=>cD z
   subst hr
   refine cN h5 (fun _ s5 ⟨y5,H5,I5,r5,yl5,st5,fr5⟩ => ?_) fun _ _ z=>cD z
   have hD5:=(I5.pin _ (aS _ (du.mpr rfl)))
   have I5':=I5.pinned (stat fr5 hpl) (T.obj _ _ st5)
   refine cN (hgb _ s5 H5 y5 _ _ I5' r5 (step y5 H5 yl5)) (fun _ s6 ⟨τ,H6,hτ,I6,q6⟩ => ?_) fun _ _ z=>cD z
   have qt:=htb _ s6 _ H6 _ I6 q6
   rw [hP,hw,hA,hxe] at qt
   refine cN qt (fun b s7 ⟨H7,I7,q7⟩ => ?_) fun _ _ z=>cD z
   have again : ∀ {s8:Shared}{H8:Hp}{σ8:St},Inv Xb ([(s2.heap.objs.size,({ cls := .type "list",data := .seq its.toArray nn }:Obj))]++qw fp s5.heap) σ8 H8 s8->tn (i+1) s8.heap/\(∀ b∈fp,H8 b=none)/\H8 s2.heap.objs.size=none/\s8.heap.get? s2.heap.objs.size=some { cls := .type "list",data := .seq its.toArray nn }:=fun {s8 H8 σ8} I8=>by
    refine⟨T.keep _ _ _ st5 fun b hb o e=>(I8.pin (b,o) (aS _ (aS _ (jU hb e)))).1,fun b hb => ?_,?_,?_⟩
    ·obtain⟨o,e,d⟩:=T.obj _ _ st5 b hb
     exact (I8.pin (b,o) (aS _ (aS _ (jU hb e)))).2.1
    ·exact (I8.pin _ (aS _ (aR _ (du.mpr rfl)))).2.1
    ·exact (I8.pin _ (aS _ (aR _ (du.mpr rfl)))).1
   have forget : ∀ {s8:Shared}{H8:Hp}{pl:List (Addr×Obj)},Inv Xb pl (σ++τ) H8 s8->Inv Xb [] (σ++aK xs.length none) H8 s8:=fun {s8 H8 pl} I8=>
    (I8.pins_of (pins' := []) fun p hp=>absurd hp (by simp)).weak (by simp [hτ]) fun j v hj=>by
     by_cases hjs:j < σ.length
     ·rw [aI hjs] at hj ⊢;exact hj
     ·rw [ar (by exact eN (by assumption)),g8] at hj
      split at hj <;> simp at hj
   cases b with
   | false=>
     have q7' : ∃ m',m' < n/\W (i+1) m' ys H7:=q7
     obtain⟨m',hm,w7⟩:=q7'
     obtain⟨a1,a2,a3,a4⟩:=again I7
     exact⟨m',hm,i+1,ys,its,nn,H7,forget I7,a1,a2,a3,a4,rv3,w7⟩
   | true=>
     have q7':te (σ++τ) H7 fun y H4 => ∃ m',m' < n/\W (i+1) m' (ys ++ [y]) H4:=q7
     have qe:=heb _ s7 _ H7 _ I7 q7'
     rw [hP,hw,hA,hxe] at qe
     refine cN qe (fun uv s8 ⟨y8,H8,I8,r8,m',hm,w8⟩ => ?_) fun _ _ z=>cD z
     obtain⟨a1,a2,a3,a4⟩:=again I8
     have I9:=forget I8
     have hl3:=rv3.length
     refine call_meets F.slot_list_append ⟨_,a4,rfl⟩ F.entry_list_append (F.args_list_append_2 _ _) (PySem.list_append s2.heap.objs.size its.toArray nn uv (by rw [ay];omega)) ⟨a4,?_⟩
     have hup:=CI a4 (·.push uv)
     have e1:(its.toArray.push uv)=(its ++ [uv]).toArray:=by simp
     rw [e1] at hup
     have I10:Inv Xb [] (σ++aK xs.length none) H8 { s8 with heap:=s8.heap.update s2.heap.objs.size (dv (·.push uv)) }:=
      I9.turned (t':=s8.toks) (fun b' u hb hu=>(dj s8.heap (dv (·.push uv)) (eg hb)).trans hu) a3 (by rw [hL];exact aP (bw _)) (.inr (by rw [hs0];exact ak _)) cellne (fun p hp=>by rw [hpn] at hp;exact absurd hp (by simp))
     refine⟨m',hm,i+1,ys ++ [y8],its ++ [uv],_,H8,I10,T.keep _ _ _ a1 fun b hb o e => ?_,a2,a3,hup,rv3.append (.cons r8 .nil),w8⟩
     exact (dj s8.heap (dv (·.push uv)) (by first | exact cZ (hlt b hb) | exact aP (hlt b hb))).trans e
 have start:=codeAny_compStart_list (loop it rfl) (T.self X.A 0 s4 _ _ st4' (loop it rfl))
 rw [henv]
 have eL:(s2.heap.push { cls := .type "list",dict:=none,data := .seq ([]:List Value).toArray }).objs.size=Xb.env.locals:=by rw [bB,hL]
 rw [eL]
 exact start
theorem yk (C:gy X N' scope [x]) {σ:St} (s₂:Shared) (H₂:Hp) (fp:List Addr) (pl:List (Addr×Obj)) (s:Shared) (H:Hp) (v:V) (u:Value) (Q:St->Hp->Prop) (I:Inv (blk X N' scope s₂ H₂ fp) pl (σ++aK [x].length none) H s) (r:RelV v u) (q:gT1 v H Q) :
  aJ (model X.prog X.w) X.A (assign (.Name x px) (blk X N' scope s₂ H₂ fp).env u) (fun _ s' => ∃ τ H',τ.length = [x].length/\Inv (blk X N' scope s₂ H₂ fp) pl (σ++τ) H' s'/\Q τ H') (fun _ _=>False) s:=by
 have hl:σ.length=X.N.length:=by
  have:=I.len
  rw [show (blk X N' scope s₂ H₂ fp).N=N' from rfl,C.len,aH,iG] at this
  omega
 have hlocx:Loc (blk X N' scope s₂ H₂ fp).env.scope x:=by
  rcases C.own x (by simp) with e | e
  ·exact .inl (lookup_relabel_local e)
  ·exact .inr (iE e)
 have hfx:(blk X N' scope s₂ H₂ fp).fn x=true\/(blk X N' scope s₂ H₂ fp).env.scope.names.lookup x=some .local:=by
  rcases C.own x (by simp) with e | e
  ·right;exact lookup_relabel_local e
  ·left;show (scope.names.lookup x == some .cell)=true;rw [e];rfl
 refine lX (mV I C.ndN (i:=X.N.length) (C.last 0 x rfl) hlocx r (fun s6 I6 => ?_) hfx)
 have hset:(σ++aK [x].length none).set X.N.length (some v)=σ ++ [some v]:=by
  rw [<- hl,dU _ _ (ak _)];simp
 rw [hset] at I6
 exact⟨[some v],H,rfl,I6,q⟩
theorem E6 (hc:X.calm=true) (C:gy X N' scope [x]) (hi:PI X (.Name x px) iter wi)
  (ht : ∀ s₂ H₂ fp,PTs (blk X N' scope s₂ H₂ fp) ifs tt) (he : ∀ s₂ H₂ fp,PE (blk X N' scope s₂ H₂ fp) elt te)
  (hs : ∀ x,foldedSetIterable iter X.env x=pure x:=by intro _;rfl) :
  PE X (.ListComp elt [⟨.Name x px,iter,ifs,0⟩] scope pos) (nM wi tt te):=by
 intro pins s σ H Q I h
 rw [eval_ListComp]
 refine mO (use:=none) (cl:=iJ X.env scope.names []) rfl hs (iu (C.frees I.ok)) C.kind (fun y hy e=>jB C.nd (by rw [<- e];exact hy)) ?_
 refine nZ (gT:=gT1) hc C hi ht he I h (yk C) fun s' L D H' ml hml I' hn h1 h2 h3 h4 q => ?_
 exact⟨ml,hml,fun h' hsb=>⟨.ref D,H',I'.turned (t':=s'.toks) (fun b o hb e=>(hsb.2 b hb).trans e) hn h1 (.inr h2) h3 h4,rfl,q⟩⟩
theorem Dj {i:Nat}{y:Str}{py spos:Pos} (hN:X.N.Nodup) (hi':X.N[i]? = some y) (hy:Loc X.env.scope y) (hc:X.calm=true) (C:gy X N' scope [x]) (hi:PI X (.Name x px) iter wi)
  (ht : ∀ s₂ H₂ fp,PTs (blk X N' scope s₂ H₂ fp) ifs tt) (he : ∀ s₂ H₂ fp,PE (blk X N' scope s₂ H₂ fp) elt te)
  (hsw:swapsWith (.ListComp elt [⟨.Name x px,iter,ifs,0⟩] scope pos) (some (.Name y py)) spos.line X.env=pure true)
  (hs : ∀ x,foldedSetIterable iter X.env x=pure x:=by intro _;rfl) (hf:X.fn y=true\/X.env.scope.names.lookup y=some .local:=by first | exact .inl rfl | exact .inr rfl | assumption) :
  PS X (.Assign [.Name y py] (.ListComp elt [⟨.Name x px,iter,ifs,0⟩] scope pos) spos) (zX (nM wi tt te) (iB i)):=by
 intro pins s σ H D I h
 rw [exec_Assign_Name_used _ _ _ _ hsw]
 refine ag (wpAny_standAt (ag ?_))
 show aJ _ X.A (do let _ <- comprehension (.ListComp elt [⟨.Name x px,iter,ifs,0⟩] scope pos) scope X.env _ (newList []) false (eval iter X.env) (some (assign (.Name y py) X.env))) _ _ s
 refine ag (cN (mO (use:=some (assign (.Name y py) X.env)) (Q:=fun _ s'=>SP X pins D .next s') (cl:=iJ X.env scope.names []) rfl hs (iu (C.frees I.ok)) C.kind (fun y hy e=>jB C.nd (by rw [<- e];exact hy))
  (nZ (gT:=gT1) (Q:=fun v H1=>iB i v σ H1 D.nx) hc C hi ht he I h (yk C) fun s' L D' H' ml hml I' hn h1 h2 h3 h4 q => ?_)) (fun _ s' hq=>ax (ax hq)) fun _ _ e=>e)
 show aJ _ X.A (assign (.Name y py) X.env (.ref D')) _ _ _
 refine lX (sY (v := .ref D') I' hN hi' hy rfl (fun s6 I6 hsb => ?_) hf)
 obtain⟨a,hsb,ha⟩:=hsb
 have haL:L≠a:=by
  rcases ha with e | e
  ·rw [e];exact h1
  ·exact eg (h3 _ _ e)
 refine⟨ml,hml.sameBut hsb haL,fun h' hsb' => ?_⟩
 exact⟨_,H',I6.turned (t':=s6.toks) (fun b o hb e=>(hsb'.2 b hb).trans e) hn h1 (.inr h2) h3 h4,q⟩
inductive eD:List Expr->List Str->Prop
 | nil:eD [] []
 | cons (x:Str) (p:Pos) {es xs}:eD es xs->eD (.Name x p::es) (x::xs)
noncomputable def gTt (K:aj) (n:Nat):V->Hp->(St->Hp->Prop)->Prop:=fun v H Q => ∃ a vs,v = .ref a/\SqT K H a vs/\vs.length=n/\Q (vs.map some) H
theorem eD.each {env:Env} : ∀ {es:List Expr}{xs:List Str},eD es xs->(assignEach es env).length=xs.length/\(assignEach es env).findIdx? (·.1)=none
 | _,_,.nil=>⟨rfl,rfl⟩
 | _,_,.cons x p r=>by
   obtain⟨a,b⟩:=eD.each (env:=env) r
   exact⟨by show (assignEach _ env).length+1=_;rw [a];rfl,by
    show (((false,_):Bool×(Value->Sem Unit))::assignEach _ env).findIdx? (·.1)=none
    rw [pH];simp [b]⟩
theorem vg {Xb:Cx}{pl:List (Addr×Obj)}{H:Hp}{E:Shared->Prop} (nd:Xb.N.Nodup) (own : ∀ x∈xs,Loc Xb.env.scope x/\(Xb.fn x=true\/Xb.env.scope.names.lookup x=some .local)) :
  ∀ {es:List Expr}{ys:List Str},eD es ys->(∀ y∈ys,y∈xs) -> ∀ (vs:List V) (us:List Value) (τ:St) (s:Shared),(∀ (j:Nat) (y:Str),ys[j]? = some y->Xb.N[τ.length+j]? = some y)->vs.length=ys.length->bK vs us ->
   Inv Xb pl (τ++aK ys.length none) H s->(∀ s',Inv Xb pl (τ++vs.map some) H s'->E s')->aJ (model X.prog X.w) X.A (assignInOrder ((assignEach es Xb.env).map (·.2)) us) (fun _ s'=>E s') (fun _ _=>False) s
 | _,_,.nil,_,vs,us,τ,s,hN,hl,r,I,k=>by
   have e:vs = []:=Ah.mp hl
   subst e
   cases r
   exact assignInOrder_nil (k s I)
 | _,_,@eD.cons x p es ys n,hm,vs,us,τ,s,hN,hl,r,I,k=>by
   cases r with
   | nil=>cases hl
   | @cons v u vs us ra rb=>
     obtain⟨ho,hf⟩:=own x (hm x (by simp))
     show aJ _ _ (assignInOrder (assign (.Name x p) Xb.env::(assignEach es Xb.env).map (·.2)) (u::us)) _ _ s
     refine assignInOrder_cons (lX (mV I nd (i:=τ.length) (hN 0 x rfl) ho ra (fun s6 I6 => ?_) hf))
     have hset:(τ++aK (x::ys).length none).set τ.length (some v)=(τ ++ [some v])++aK ys.length none:=by
      rw [dU _ _ (ak _)]
      simp [cP]
     rw [hset] at I6
     refine vg nd own n (fun y hy=>hm y (by simp [hy])) vs us (τ ++ [some v]) s6 (fun j y hj => ?_) (by simpa using hl) rb I6 fun s' I'=>k s' (by simpa using I')
     have:=hN (j+1) y (by simpa using hj)
     rw [aH,CJ,show τ.length+1+j=τ.length+(j+1) by omega]
     exact this
theorem He {es:List Expr}{kt:Nat}{pt:Pos} (hc:X.calm=true) (C:gy X N' scope xs) (n:eD es xs) {σ:St} (s₂:Shared) (H₂:Hp) (fp:List Addr) (pl:List (Addr×Obj)) (s:Shared) (H:Hp) (v:V) (u:Value) (Q:St->Hp->Prop) (I:Inv (blk X N' scope s₂ H₂ fp) pl (σ++aK xs.length none) H s) (r:RelV v u) (q:gTt X.K xs.length v H Q) :
  aJ (model X.prog X.w) X.A (assign (.Tuple es kt pt) (blk X N' scope s₂ H₂ fp).env u) (fun _ s' => ∃ τ H',τ.length=xs.length/\Inv (blk X N' scope s₂ H₂ fp) pl (σ++τ) H' s'/\Q τ H') (fun _ _=>False) s:=by
 have hl:σ.length=X.N.length:=by
  have:=I.len
  rw [show (blk X N' scope s₂ H₂ fp).N=N' from rfl,C.len,aH,iG] at this
  omega
 obtain⟨a,vs,rfl,hq,hv,q⟩:=q
 cases r
 obtain⟨its,rv,ht,hz⟩:=I.tuple hq
 obtain⟨h1,h2⟩:=n.each (env:=(blk X N' scope s₂ H₂ fp).env)
 refine assign_Tuple_tuple (I.ok.hd hc) ht (by simp [h1,<- hv,rv.length]) h2 fun h' hx => ?_
 have I1:Inv (blk X N' scope s₂ H₂ fp) pl (σ++aK xs.length none) H { s with heap:=h' }:=I.kept (t':=s.toks) fun b o e=>hx b o (aP (aD e)) e
 refine vg (X:=X) (xs:=xs) (Xb:=blk X N' scope s₂ H₂ fp) C.ndN (fun x hx=>⟨?_,?_⟩) n (fun y hy=>hy) vs _ σ _ (fun j y hj => ?_) hv (by simpa using rv) I1 fun s' I'=>⟨vs.map some,H,by simpa using hv,I',q⟩
 ·rcases C.own x hx with e | e
  ·exact .inl (lookup_relabel_local e)
  ·exact .inr (iE e)
 ·rcases C.own x hx with e | e
  ·right;exact lookup_relabel_local e
  ·left;show (scope.names.lookup x == some .cell)=true;rw [e];rfl
 ·rw [hl];exact C.last j y hj
theorem Br {es:List Expr}{kt:Nat}{pt:Pos} (hc:X.calm=true) (C:gy X N' scope xs) (n:eD es xs) (hi:PI X (.Tuple es kt pt) iter wi)
  (ht : ∀ s₂ H₂ fp,PTs (blk X N' scope s₂ H₂ fp) ifs tt) (he : ∀ s₂ H₂ fp,PE (blk X N' scope s₂ H₂ fp) elt te)
  (hs : ∀ x,foldedSetIterable iter X.env x=pure x:=by intro _;rfl) :
  PE X (.ListComp elt [⟨.Tuple es kt pt,iter,ifs,0⟩] scope pos) (xj (gTt X.K xs.length) wi tt te):=by
 intro pins s σ H Q I h
 rw [eval_ListComp]
 refine mO (use:=none) (cl:=iJ X.env scope.names []) rfl hs (iu (C.frees I.ok)) C.kind (fun y hy e=>jB C.nd (by rw [<- e];exact hy)) ?_
 refine nZ hc C hi ht he I h (He hc C n) fun s' L D H' ml hml I' hn h1 h2 h3 h4 q => ?_
 exact⟨ml,hml,fun h' hsb=>⟨.ref D,H',I'.turned (t':=s'.toks) (fun b o hb e=>(hsb.2 b hb).trans e) hn h1 (.inr h2) h3 h4,rfl,q⟩⟩
end
end L2
end
section
namespace HT
open PySem PyProof.Rows
open PySem.SeqAt
open PySem.AutoSeq1 (wpAny_loadPart')
open PySem.MeetsSeq PySem.MeetsSeq2 PySem.MeetsSeq3
section
variable {prog:Program}{w:World}{A:Around}{E:Value->Shared->Prop}{s:Shared}
theorem getItem_tuple_whole {t sl:Addr}{items:Array Value}{vl vu:Value}{lo hi:Option Int}{Q:Value->Shared->Prop} (ht:IsTup s.heap t items) (hs:s.heap.IsSliceOf sl vl vu .none) (pl:IsPart vl lo) (pu:IsPart vu hi)
  (hw:sIx items.size 0 lo=0/\sIx items.size items.size hi=items.size)
  (h:Q (.ref t) s):aJ (model prog w) A (getItem (.ref t) (.ref sl)) Q E s:=by
 obtain⟨os,hos,hcs,hds⟩:=id hs
 have hTs:s.TypeIs (.ref sl) "slice":=⟨os,hos,hcs⟩
 unfold getItem
 try with_reducible refine eM ?_
 first | refine ag (ax ?_) | skip
 refine ag (wy ht.typeIs (by decide) ?_)
 refine ag (ff (name:=jG "__getitem__") ht.typeIs cn
  (dY cn ht.typeIs entry_tuple_getitem ?_ (args_tuple_getitem _ _)))
 show aJ _ _ (iH (.ref t) >>= _) _ _ s
 refine ag (tupleItemsOf_ ht ?_)
 refine ag (iY hTs ?_)
 rw [if_pos (by decide)]
 refine ag (jy hs pl pu ?_)
 rw [hw.1,hw.2]
 show aJ _ _ (if (((0:Nat):Int) == 0&&(1:Int) == 1&&(items.size - 0) == items.size)=true then _ else _) _ _ s
 rw [if_pos (by simp)]
 obtain⟨o,ho,hc,n,hd⟩:=id ht
 refine ag (m:=o5 _) ?_
 unfold o5
 refine ag (iY ⟨o,ho,hc⟩ (ax ?_))
 rw [if_pos (by decide)]
 refine ag (wpAny_rule ?_)
 first
  | exact ax ⟨_,rfl,ax h⟩
  | exact ag (ax (ax ⟨_,rfl,ax h⟩))
theorem cat_tup0 {t b:Addr}{ws:List Value}{Q:Value->Shared->Prop} (ht:IsTup s.heap t ([]:List Value).toArray) (hb:IsTup s.heap b ws.toArray) (h:Q (.ref b) s):aJ (model prog w) A (binaryOp .Add (.ref t) (.ref b)) Q E s:=by
 obtain⟨⟨cls,dd,data,sl⟩,ho,hc,n,hd⟩:=id ht
 obtain⟨⟨cls2,dd2,data2,sl2⟩,ho2,hc2,n2,hd2⟩:=id hb
 simp only at hc hd hc2 hd2
 subst hc hd hc2 hd2
 exact concat_meets ⟨_,ho,rfl⟩ ⟨_,ho2,rfl⟩ noFill_tuple_add seq_tuple_add kP j6 (jW _ _)
   (tuple_addW0 t b #[] ws.toArray n n2 dd dd2 sl sl2 (by simp)) ⟨ho,ho2,h⟩
end
end HT
end
section
namespace G
open PySem PySem.SeqAt
open PySem.AutoSeq1 (wpAny_loadPart')
open PySem.MeetsSeq PySem.MeetsSeq2 PySem.MeetsSeq3
theorem rQ (l:Addr) (items:Array Value) (n:Nat) (dd:Option Addr) (sl:Array (Option Value)) (x:Value) (e:Value->Bool) (j:Nat) (hj:j < items.size)
  (hit:e items[j]=true) (hno : ∀ m (hm:m < items.size),m < j->e items[m]=false) :
  Meets (Builtin.«tuple.index» ⟨[.ref l,x],[]⟩)
   (fun A R s=>s.heap.get? l=some { cls := .type "tuple",dict:=dd,data := .seq items n,slots:=sl }/\(∀ y,y∈items->EqAt A.in1 s y x (e y))/\R (.ok (.ret (.int j s.toks))) { s with toks:=s.toks+1 }):=
 .of_wp fun prog w A R s h=>by
  obtain⟨hp,g,d,tk,os⟩:=s;obtain⟨hl,he,h⟩:=h
  simp only [Builtin.«tuple.index»,Std.Legacy.Range.forIn_eq_forIn_range']
  wp_walk using fL hl,wpAny_forIn_list _ (fun rest b s'=>b.1=none/\s'=⟨hp,g,d,tk,os⟩ /\ ∃ i,i<=j/\rest=bM i (items.size - i)) _
  case turn=>
   rintro y rest b s' ⟨hb,rfl,i,hij,hrest⟩
   have hlt:i < items.size:=by
    rcases Nat.lt_or_ge i items.size with q | q
    ·exact q
    ·exact aE (by assumption) (by assumption)
   obtain⟨k,hk⟩ : ∃ k,items.size - i=k+1:=⟨items.size - i - 1,by omega⟩
   rw [hk,tu] at hrest
   injection hrest with h1 h2
   subst h1
   have hg:items[y]? = some items[y]:=by simp [hlt]
   rw [hg]
   refine ag (he _ (Array.getElem_mem hlt) prog w _ _ ?_)
   by_cases hyj:y=j
   ·subst hyj
    rw [hit]
    wp_walk
    exact⟨_,rfl,h⟩
   ·rw [hno y hlt (by exact fg (by assumption) (by assumption))]
    wp_walk
    exact⟨rfl,rfl,y+1,by exact fg (by assumption) (by assumption),by rw [h2];congr 1;omega⟩
  case fin=>
   rintro ⟨b1,b2⟩ s' ⟨hb,rfl,i,hij,hrest⟩
   exfalso
   have h3:=congrArg CQ hrest
   simp at h3
   omega
  case h=>
   exact⟨rfl,rfl,0,dB _,by simp⟩
end G
end
section
namespace G
open PySem PySem.SeqAt
open PySem.AutoSeq1 (wpAny_loadPart')
open PySem.MeetsSeq PySem.MeetsSeq2 PySem.MeetsSeq3
theorem om:fillsNumberSlot (.type "tuple") "mul"=pure false:=
 fillsNumberSlot_seq (id:="tuple.__mul__") (r:=some (.builtin "tuple.__rmul__")) F.slot_tuple_mul.lookup (by decide +kernel) F.slot_tuple_rmul.lookup (by decide +kernel)
theorem uj:seqRepeat? (.type "tuple")=pure (some (.builtin "tuple.__mul__")):=by
 unfold seqRepeat?
 rw [seqSlot_of (T:="tuple") (name:="__mul__") (id:="tuple.__mul__") F.slot_tuple_mul.lookup (by decide +kernel),seqSlot_of (T:="tuple") (name:="__rmul__") (id:="tuple.__rmul__") F.slot_tuple_rmul.lookup (by decide +kernel)]
 rfl
theorem qp (a:Int) (t:Tok) (l:Addr) (items:Array Value) (n:Nat) (dd:Option Addr) (sl:Array (Option Value)) :
  Meets (Builtin.«int.__rmul__» ⟨[.int a t,.ref l],[]⟩) (fun _ R s=>s.heap.get? l=some { cls := .type "tuple",dict:=dd,data := .seq items n,slots:=sl }/\R (.ok (.ret Value.notImplemented)) s):=
 .of_wp fun prog w A R s h=>by obtain⟨hp,g,d,tk,os⟩:=s;obtain⟨hl,h⟩:=h;wp_walk;exact⟨_,rfl,h⟩
theorem rE (l:Addr) (items:Array Value) (n:Nat) (dd:Option Addr) (sl:Array (Option Value)) (t:Tok) :
  Meets (Builtin.«tuple.__mul__» ⟨[.ref l,.int 1 t],[]⟩) (fun _ R s=>s.heap.get? l=some { cls := .type "tuple",dict:=dd,data := .seq items n,slots:=sl }/\R (.ok (.ret (bc l))) { s with toks:=s.toks }):=
 .of_wp fun prog w A R s h=>by
  obtain⟨hp,g,d,tk,os⟩:=s;obtain⟨hl,h⟩:=h
  have f1:=pI
  have hno : ¬ ((decide ((1:Int) < -2 ^ 63)||decide ((1:Int) >= 2 ^ 63))=true):=by decide
  have hyes:(items.isEmpty||(1:Int) == 1)=true:=by simp
  wp_walk using fL hl
  exact⟨_,rfl,h⟩
theorem xP (l:Addr) (items:Array Value) (n:Nat) (dd:Option Addr) (sl:Array (Option Value)) (t:Tok) (he:items.isEmpty=false) :
  Meets (Builtin.«tuple.__mul__» ⟨[.ref l,.int 0 t],[]⟩) (fun _ R s=>s.heap.get? l=some { cls := .type "tuple",dict:=dd,data := .seq items n,slots:=sl }/\R (.ok (.ret (bc s.heap.objs.size))) { s with heap:=s.heap.push { cls:=wu "tuple",data:=CU #[] },toks:=s.toks }):=
 .of_wp fun prog w A R s h=>by
  obtain⟨hp,g,d,tk,os⟩:=s;obtain⟨hl,h⟩:=h
  have f1:=pI
  have hno : ¬ ((decide ((0:Int) < -2 ^ 63)||decide ((0:Int) >= 2 ^ 63))=true):=by decide
  have hno1 : ¬ ((items.isEmpty||(0:Int) == 1)=true):=by rw [he];decide
  have hyes:(decide ((0:Int)<=0)||items.isEmpty)=true:=by simp
  wp_walk using fL hl
  exact⟨_,rfl,h⟩
theorem xl (l:Addr) (items:Array Value) (n:Nat) (dd:Option Addr) (sl:Array (Option Value)) (k:Int) (t:Tok) (h1 : ¬ (items.isEmpty||k == 1)=true) (h0:0 < k) (hk:k < 1000) (hz:items.size < 1000) :
  Meets (Builtin.«tuple.__mul__» ⟨[.ref l,.int k t],[]⟩) (fun _ R s=>s.heap.get? l=some { cls := .type "tuple",dict:=dd,data := .seq items n,slots:=sl } /\
   R (.ok (.ret (bc s.heap.objs.size))) { s with heap:=s.heap.push { cls:=wu "tuple",data:=CU ((aK k.toNat items).foldl (· ++ ·) #[]) },toks:=s.toks }):=
 .of_wp fun prog w A R s h=>by
  obtain⟨hp,g,d,tk,os⟩:=s;obtain⟨hl,h⟩:=h
  have f1:=pI
  have hno : ¬ ((decide (k < -2 ^ 63)||decide (k >= 2 ^ 63))=true):=by
   rw [mP,decide_eq_true_eq,decide_eq_true_eq];omega
  have he:items.isEmpty=false:=by
   cases q:items.isEmpty with
   | false=>rfl
   | true=>rw [q] at h1;simp at h1
  have hno2 : ¬ ((decide (k<=0)||items.isEmpty)=true):=by
   rw [he,Bool.or_false,decide_eq_true_eq];omega
  have hp1:(items.size:Int)*k<=1000000:=by
   have a1:(items.size:Int)*k<=1000*k:=Int.mul_le_mul_of_nonneg_right (by omega) (by omega)
   omega
  have hm1 : ¬ ((items.size:Int)*k > (2 ^ 63 - 1) / 8):=by omega
  have hm2 : ¬ (o6 ((items.size:Int)*k)=true):=by
   unfold o6
   simp only [sizeLine_eq,decide_eq_true_eq,gt_iff_lt]
   omega
  have hsz:(List.foldl (fun x1 x2=>x1++x2) #[] (aK k.toNat items)).size<=sizeLine:=by
   have e : ∀ (m:Nat) (a:Array Value),(List.foldl (fun x1 x2=>x1++x2) a (aK m items)).size=a.size+m*items.size:=by
    intro m
    induction m with
    | zero=>intro a;simp
    | succ m ih=>intro a;rw [cP,List.foldl_cons,ih];simp;rw [Nat.succ_mul];omega
   rw [e]
   have a2:k.toNat*items.size<=1000*items.size:=fT _ (by omega)
   rw [sizeLine_eq]
   simp;omega
  wp_walk using fL hl
  rw [if_neg hno]
  wp_walk using fL hl
  rw [if_neg h1]
  wp_walk using fL hl
  rw [if_neg hm1]
  wp_walk using fL hl
  all_goals first | exact⟨_,rfl,h⟩ | skip
end G
end
section
namespace G
open PySem PySem.Spec L2
open PyProof.Rows hiding St
mutual
noncomputable def RU (H:Hp) (μ:List Addr):U->V->Prop
 | .non,v=>v = .non
 | .bl b,v=>v = .bl b
 | .int i,v=>v = .int i
 | .str x,v=>v = .str x
 | .tup us,v => ∃ a vs,v = .ref a/\H a=some (.tup vs)/\RUs H μ us vs
 | .ref n,v => ∃ a,v = .ref a/\μ[n]? = some a
 | .obj a,v=>v = .ref a
noncomputable def RUs (H:Hp) (μ:List Addr):List U->List V->Prop
 | [],vs=>vs = []
 | u::us,vs => ∃ v r,vs=v::r/\RU H μ u v/\RUs H μ us r
end
noncomputable def bj (H H':Hp):Prop := ∀ a vs,H a=some (.tup vs)->H' a=some (.tup vs)
noncomputable def Pre (μ μ':List Addr):Prop := ∃ t,μ'=μ++t
theorem bj.refl (H:Hp):bj H H:=fun _ _ h=>h
theorem bj.trans {H H1 H2:Hp} (a:bj H H1) (b:bj H1 H2):bj H H2:=fun c vs h=>b c vs (a c vs h)
theorem Pre.refl (μ:List Addr):Pre μ μ:=⟨[],by simp⟩
theorem Pre.trans {μ μ1 μ2:List Addr} (a:Pre μ μ1) (b:Pre μ1 μ2):Pre μ μ2:=by
 obtain⟨t,rfl⟩:=a
 obtain⟨u,rfl⟩:=b
 exact⟨t++u,by simp⟩
theorem Pre.get {μ μ':List Addr} (p:Pre μ μ') {n:Nat}{a:Addr} (h:μ[n]? = some a):μ'[n]? = some a:=by
 obtain⟨t,rfl⟩:=p
 have hn:n < μ.length:=(ah.mp h).1
 rw [aI hn];exact h
theorem bj.new {H:Hp}{p:Addr}{o:HO} (h:H p=none):bj H (upd H p o):=fun a vs e=>by rw [bz (bC e h)];exact e
theorem bj.wr {H:Hp}{p:Addr}{xs ys:List V} (h:H p=some (.lst xs)):bj H (upd H p (.lst ys)):=fun a vs e=>by
 rw [bz (pU e h (by intro z;cases z))];exact e
mutual
theorem RU.mono {H H':Hp}{μ μ':List Addr} (k:bj H H') (p:Pre μ μ') : ∀ (u:U) (v:V),RU H μ u v->RU H' μ' u v
 | .non,_,h=>by simpa [RU] using h
 | .bl _,_,h=>by simpa [RU] using h
 | .int _,_,h=>by simpa [RU] using h
 | .str _,_,h=>by simpa [RU] using h
 | .obj _,_,h=>by simpa [RU] using h
 | .ref n,v,h=>by
   simp only [RU] at h ⊢
   obtain⟨a,e,q⟩:=h
   exact⟨a,e,p.get q⟩
 | .tup us,v,h=>by
   simp only [RU] at h ⊢
   obtain⟨a,vs,e,q,r⟩:=h
   exact⟨a,vs,e,k a vs q,RUs.mono k p us vs r⟩
theorem RUs.mono {H H':Hp}{μ μ':List Addr} (k:bj H H') (p:Pre μ μ') : ∀ (us:List U) (vs:List V),RUs H μ us vs->RUs H' μ' us vs
 | [],_,h=>by simpa [RUs] using h
 | u::us,vs,h=>by
   simp only [RUs] at h ⊢
   obtain⟨v,r,e,a,b⟩:=h
   exact⟨v,r,e,RU.mono k p u v a,RUs.mono k p us r b⟩
end
section
variable {H:Hp}{μ:List Addr}
theorem RUs.nil:RUs H μ [] []:=by simp [RUs]
theorem RUs.cons {u:U}{us:List U}{v:V}{vs:List V} (a:RU H μ u v) (b:RUs H μ us vs):RUs H μ (u::us) (v::vs):=by
 simp only [RUs];exact⟨v,vs,rfl,a,b⟩
theorem RUs.inv {u:U}{us:List U}{vs:List V} (h:RUs H μ (u::us) vs) : ∃ v r,vs=v::r/\RU H μ u v/\RUs H μ us r:=by simpa only [RUs] using h
theorem RUs.nil_inv {vs:List V} (h:RUs H μ [] vs):vs = []:=by simpa only [RUs] using h
theorem RUs.len : ∀ {us:List U}{vs:List V},RUs H μ us vs->us.length=vs.length
 | [],vs,h=>by rw [h.nil_inv];rfl
 | u::us,vs,h=>by
   obtain⟨v,r,rfl,_,b⟩:=h.inv
   simp [b.len]
theorem RUs.get : ∀ {us:List U}{vs:List V}{i:Nat}{u:U},RUs H μ us vs->us[i]? = some u -> ∃ v,vs[i]? = some v/\RU H μ u v
 | [],vs,i,u,h,e=>by simp at e
 | x::us,vs,0,u,h,e=>by
   obtain⟨v,r,rfl,a,b⟩:=h.inv
   simp at e;subst e
   exact⟨v,rfl,a⟩
 | x::us,vs,i+1,u,h,e=>by
   obtain⟨v,r,rfl,a,b⟩:=h.inv
   obtain⟨w,h1,h2⟩:=RUs.get (i:=i) b (by simpa using e)
   exact⟨w,by simpa using h1,h2⟩
theorem RUs.append : ∀ {us ws:List U}{vs xs:List V},RUs H μ us vs->RUs H μ ws xs->RUs H μ (us++ws) (vs++xs)
 | [],ws,vs,xs,h,g=>by rw [h.nil_inv];exact g
 | u::us,ws,vs,xs,h,g=>by
   obtain⟨v,r,rfl,a,b⟩:=h.inv
   exact .cons a (b.append g)
theorem RUs.set {u:U}{v:V} (q:RU H μ u v) : ∀ {us:List U}{vs:List V} (i:Nat),RUs H μ us vs->RUs H μ (us.set i u) (vs.set i v)
 | [],vs,i,h=>by rw [h.nil_inv];simpa using RUs.nil
 | x::us,vs,0,h=>by
   obtain⟨w,r,rfl,a,b⟩:=h.inv
   exact .cons q b
 | x::us,vs,i+1,h=>by
   obtain⟨w,r,rfl,a,b⟩:=h.inv
   exact .cons a (RUs.set q i b)
theorem RUs.eraseIdx : ∀ {us:List U}{vs:List V} (i:Nat),RUs H μ us vs->RUs H μ (us.eraseIdx i) (vs.eraseIdx i)
 | [],vs,i,h=>by rw [h.nil_inv];simpa using RUs.nil
 | x::us,vs,0,h=>by
   obtain⟨w,r,rfl,a,b⟩:=h.inv
   exact b
 | x::us,vs,i+1,h=>by
   obtain⟨w,r,rfl,a,b⟩:=h.inv
   exact .cons a (RUs.eraseIdx i b)
theorem RUs.drop : ∀ {us:List U}{vs:List V} (i:Nat),RUs H μ us vs->RUs H μ (us.drop i) (vs.drop i)
 | us,vs,0,h=>h
 | [],vs,i+1,h=>by rw [h.nil_inv];simpa using RUs.nil
 | x::us,vs,i+1,h=>by
   obtain⟨w,r,rfl,a,b⟩:=h.inv
   exact RUs.drop i b
theorem RUs.take : ∀ {us:List U}{vs:List V} (i:Nat),RUs H μ us vs->RUs H μ (us.take i) (vs.take i)
 | us,vs,0,h=>by simpa using RUs.nil
 | [],vs,i+1,h=>by rw [h.nil_inv];simpa using RUs.nil
 | x::us,vs,i+1,h=>by
   obtain⟨w,r,rfl,a,b⟩:=h.inv
   exact .cons a (RUs.take i b)
theorem RUs.dropLast {us:List U}{vs:List V} (h:RUs H μ us vs):RUs H μ us.dropLast vs.dropLast:=by
 rw [CL,CL,h.len];exact h.take _
theorem RUs.ints : ∀ (ns:List Int),RUs H μ (ns.map U.int) (ns.map V.int)
 | [] => .nil
 | n::ns => .cons (by simp [RU]) (RUs.ints ns)
end
structure KX where
 K:aj
 caps:List U
 capv:List V
 cds:List (Addr×Obj)
 tabs:List (Addr×Str)
noncomputable instance:Coe KX aj:=⟨KX.K⟩
noncomputable def fz:HO := .ext fun _=>True
noncomputable def wO (H:Hp) (P:Addr) (q:Str):Prop := ∃ ps:Array Value,H P=some (.tbl ps)/\TriplesOk ps.toList /\
 ∀ pos cv,codeAmong pos ps.toList=some cv -> ∃ c oc vs t,cv = .ref c/\H c=some (.frz oc fz)/\oc.data = .fields vs/\vs[1]? = some (.str q t)
structure HX (K:KX) (μ:List Addr) (H:Hp):Prop where
 cap:RUs H μ K.caps K.capv
 cds : ∀ q∈K.cds,H q.1=some (.frz q.2 fz)
 tab : ∀ q∈K.tabs,wO H q.1 q.2
theorem HX.upd {K:KX}{μ μ':List Addr}{H:Hp}{p:Addr}{o':HO} (h:HX K μ H) (kp:bj H (upd H p o')) (pre:Pre μ μ') (nf : ∀ o,H p=some o->(∀ o' u,o ≠ .frz o' u) /\ ∀ ps,o ≠ .tbl ps):HX K μ' (upd H p o'):=by
 have f : ∀ a o u,H a=some (.frz o u)->L2.upd H p o' a=some (.frz o u):=fun a o u e=>by
  rw [bz]
  ·exact e
  ·rintro rfl
   exact (nf _ e).1 o u rfl
 refine⟨RUs.mono kp pre _ _ h.cap,fun q hq=>f _ _ _ (h.cds q hq),fun q hq => ?_⟩
 obtain⟨ps,e,tr,al⟩:=h.tab q hq
 refine⟨ps,?_,tr,fun pos cv hc => ?_⟩
 ·rw [bz]
  ·exact e
  ·intro z
   rw [z] at e
   exact (nf _ e).2 ps rfl
 ·obtain⟨c,oc,vs,t,e1,e2,e3,e4⟩:=al pos cv hc
  exact⟨c,oc,vs,t,e1,f _ _ _ e2,e3,e4⟩
noncomputable def dV (kvs:List (Key×U)) (vs:List V):List (Key×V):=(kvs.map (·.1)).zip vs
noncomputable def lQ (K:KX) (H:Hp) (μ:List Addr) (a:Addr):Cell->Prop
 | .lst us => ∃ vs,H a=some (.lst vs)/\RUs H μ us vs
 | .frz us => ∃ vs,((∃ o,H a=some (.frz o (.lst vs)))\/SqL K (fun _=>none) a vs)/\RUs H μ us vs
 | .dic kvs => ∃ vs,H a=some (.dK (dV kvs vs))/\RUs H μ (kvs.map (·.2)) vs
noncomputable def Cell.own:Cell->Bool
 | .frz _=>false
 | _=>true
structure HR (K:KX) (μ:List Addr) (S:Sto) (H:Hp):Prop where
 len:μ.length=S.length
 inj : ∀ (n m:Nat) (c d:Cell),S[n]? = some c->S[m]? = some d->c.own=true->d.own=true->μ[n]? = μ[m]? -> n=m
 cell : ∀ (n:Nat) (c:Cell) (a:Addr),S[n]? = some c->μ[n]? = some a->lQ K H μ a c
 ext:HX K μ H
structure ER (H:Hp) (μ:List Addr) (ρ:Rho) (σ:St):Prop where
 len:ρ.length=σ.length
 get : ∀ (i:Nat) (u:U),ρ[i]? = some (some u) -> ∃ v,σ[i]? = some (some v)/\RU H μ u v
theorem ER.mono {H H':Hp}{μ μ':List Addr}{ρ:Rho}{σ:St} (e:ER H μ ρ σ) (k:bj H H') (p:Pre μ μ'):ER H' μ' ρ σ:=
 ⟨e.len,fun i u h=>let ⟨v,a,b⟩:=e.get i u h;⟨v,a,RU.mono k p u v b⟩⟩
theorem ER.set {H:Hp}{μ:List Addr}{ρ:Rho}{σ:St} (e:ER H μ ρ σ) {u:U}{v:V} (r:RU H μ u v) (i:Nat):ER H μ (ρ.set i (some u)) (σ.set i (some v)):=by
 refine⟨by simpa using e.len,fun j w h => ?_⟩
 by_cases hj:i=j
 ·subst hj
  rw [List.getElem?_set] at h
  simp only [if_true] at h
  split at h
  ·rename_i hl
   cases h
   refine⟨v,?_,r⟩
   rw [aU (by rw [<- e.len];exact hl)]
  ·cases h
 ·rw [aF hj] at h
  obtain⟨x,a,b⟩:=e.get j w h
  exact⟨x,by rw [aF hj];exact a,b⟩
theorem ER.push {H:Hp}{μ:List Addr}{ρ:Rho}{σ:St} (e:ER H μ ρ σ) {u:U}{v:V} (r:RU H μ u v):ER H μ (ρ ++ [some u]) (σ ++ [some v]):=by
 refine⟨by simp [e.len],fun j w h => ?_⟩
 by_cases hj:j < ρ.length
 ·rw [aI hj] at h
  obtain⟨x,a,b⟩:=e.get j w h
  exact⟨x,by rw [aI (by rw [<- e.len];exact hj)];exact a,b⟩
 ·have hj':j=ρ.length:=by
   have:=(ah.mp h).1
   simp at this;omega
  subst hj'
  rw [ar (ak _)] at h
  simp at h;subst h
  refine⟨v,?_,r⟩
  rw [e.len,ar (ak _)];simp
section
variable {K:KX}{H:Hp}{μ:List Addr}{S:Sto}
theorem lQ.mono {H':Hp}{μ':List Addr}{a:Addr}{c:Cell} (h:lQ K H μ a c) (k:bj H H') (p:Pre μ μ') (l:c.own=true->H' a=H a) (f : ∀ o u,H a=some (.frz o u)->H' a=some (.frz o u)):lQ K H' μ' a c:=by
 cases c with
 | lst us=>
   obtain⟨vs,e,r⟩:=h
   exact⟨vs,(l rfl).trans e,RUs.mono k p us vs r⟩
 | dic kvs=>
   obtain⟨vs,e,r⟩:=h
   exact⟨vs,(l rfl).trans e,RUs.mono k p _ vs r⟩
 | frz us=>
   obtain⟨vs,e,r⟩:=h
   refine⟨vs,?_,RUs.mono k p us vs r⟩
   rcases e with⟨o,e⟩ | e
   ·exact .inl ⟨o,f o _ e⟩
   ·exact .inr e
theorem lQ.has {a:Addr}{c:Cell} (h:lQ K H μ a c) (ho:c.own=true) : ∃ o,H a=some o/\(∀ vs,o ≠ .tup vs)/\(∀ o' u,o ≠ .frz o' u) /\ ∀ ps,o ≠ .tbl ps:=by
 cases c with
 | lst us=>obtain⟨vs,e,r⟩:=h;exact⟨_,e,fun _ z=>(by cases z),fun _ _ z=>(by cases z),fun _ z=>(by cases z)⟩
 | dic kvs=>obtain⟨vs,e,r⟩:=h;exact⟨_,e,fun _ z=>(by cases z),fun _ _ z=>(by cases z),fun _ z=>(by cases z)⟩
 | frz us=>cases ho
theorem bj.wrG {H:Hp}{p:Addr}{o o':HO} (h:H p=some o) (ht : ∀ vs,o ≠ .tup vs):bj H (upd H p o'):=fun a vs e=>by
 rw [bz (pU e h (eg (ht vs)))];exact e
theorem HR.get (h:HR K μ S H) {n:Nat}{c:Cell} (e:S[n]? = some c) : ∃ a,μ[n]? = some a/\lQ K H μ a c:=by
 have hn:n < μ.length:=by rw [h.len];exact (ah.mp e).1
 exact⟨μ[n],by simp [hn],h.cell n c _ e (by simp [hn])⟩
theorem HR.wrC (h:HR K μ S H) {n:Nat}{c d:Cell}{a:Addr}{o':HO} (e:S[n]? = some c) (ea:μ[n]? = some a) (hc:c.own=true) (hd:d.own=true) (r:lQ K (upd H a o') μ a d):HR K μ (S.set n d) (upd H a o'):=by
 obtain⟨o,e0,nt,nf,nb⟩:=(h.cell n _ a e ea).has hc
 have kp:bj H (upd H a o'):=bj.wrG e0 nt
 have hn:n < S.length:=(ah.mp e).1
 have pick : ∀ (m:Nat) (c':Cell),(S.set n d)[m]? = some c'->c'.own=true -> ∃ c'',S[m]? = some c''/\c''.own=true:=fun m c' q hq=>by
  by_cases hm:n=m
  ·subst hm;exact⟨c,e,hc⟩
  ·rw [aF hm] at q;exact⟨c',q,hq⟩
 refine⟨by rw [fj];exact h.len,fun i j u1 u2 q1 q2 o1 o2 q3 => ?_,fun m c' b q1 q2 => ?_,h.ext.upd kp (Pre.refl _) fun o1 q=>by rw [e0] at q;cases q;exact⟨nf,nb⟩⟩
 ·obtain⟨w1,z1,y1⟩:=pick i u1 q1 o1
  obtain⟨w2,z2,y2⟩:=pick j u2 q2 o2
  exact h.inj i j w1 w2 z1 z2 y1 y2 q3
 ·by_cases hm:n=m
  ·subst hm
   rw [aU hn] at q1
   cases q1
   rw [ea] at q2;cases q2
   exact r
  ·rw [aF hm] at q1
   refine (h.cell m c' b q1 q2).mono kp (Pre.refl _) (fun hc' => ?_) fun o u hf => ?_
   ·refine bz ?_
    rintro rfl
    exact hm (h.inj n m c c' e q1 hc hc' (ea.trans q2.symm))
   ·rw [bz (pU hf e0 (eg (nf o u)))];exact hf
theorem HR.wr (h:HR K μ S H) {n:Nat}{us ws:List U}{vs:List V}{a:Addr} (e:S[n]? = some (.lst us)) (ea:μ[n]? = some a) (r:RUs H μ ws vs):HR K μ (S.set n (.lst ws)) (upd H a (.lst vs)):=by
 obtain⟨vs0,e0,r0⟩:=h.cell n _ a e ea
 exact h.wrC e ea rfl rfl ⟨vs,cg,RUs.mono (bj.wr e0) (Pre.refl _) ws vs r⟩
theorem HR.newC (h:HR K μ S H) {d:Cell}{p:Addr}{o':HO} (hp:H p=none) (hd:d.own=true) (r:lQ K (upd H p o') (μ ++ [p]) p d):HR K (μ ++ [p]) (S ++ [d]) (upd H p o'):=by
 have kp:bj H (upd H p o'):=bj.new hp
 have pre:Pre μ (μ ++ [p]):=⟨[p],rfl⟩
 have old : ∀ (n:Nat) (c:Cell),n < S.length->(S ++ [d])[n]? = some c->S[n]? = some c:=fun n c hn q=>by rwa [aI hn] at q
 have last : ∀ (n:Nat) (c:Cell),¬ n < S.length->(S ++ [d])[n]? = some c->n=S.length:=fun n c hn q=>by
  have:=(ah.mp q).1
  simp at this;omega
 have fresh : ∀ (n:Nat) (c:Cell),S[n]? = some c->c.own=true -> ∀ a,μ[n]? = some a->a≠p:=fun n c q hc a qa=>by
  obtain⟨o,e,_⟩:=(h.cell n _ a q qa).has hc
  exact bC e hp
 have mulast:(μ ++ [p])[S.length]? = some p:=by rw [<- h.len,ar (ak _)];simp
 have muold : ∀ (n:Nat),n < S.length->(μ ++ [p])[n]? = μ[n]? := fun n hn=>aI (by rw [h.len];exact hn)
 refine⟨by simp [h.len],fun i j u1 u2 q1 q2 o1 o2 q3 => ?_,fun m c b q1 q2 => ?_,h.ext.upd kp pre fun o1 q=>by rw [hp] at q;cases q⟩
 ·by_cases hi:i < S.length
  ·by_cases hj:j < S.length
   ·rw [muold i hi,muold j hj] at q3
    exact h.inj i j u1 u2 (old i _ hi q1) (old j _ hj q2) o1 o2 q3
   ·have e:=last j _ hj q2
    subst e
    obtain⟨a,ha,_⟩:=h.get (old i _ hi q1)
    rw [muold i hi,mulast,ha] at q3
    exact absurd (bq q3) (fresh i u1 (old i _ hi q1) o1 a ha)
  ·have e:=last i _ hi q1
   subst e
   by_cases hj:j < S.length
   ·obtain⟨a,ha,_⟩:=h.get (old j _ hj q2)
    rw [muold j hj,mulast,ha] at q3
    exact absurd (bq q3).symm (fresh j u2 (old j _ hj q2) o2 a ha)
   ·exact (last j _ hj q2).symm
 ·by_cases hm:m < S.length
  ·rw [muold m hm] at q2
   refine (h.cell m c b (old m c hm q1) q2).mono kp pre (fun hc => ?_) fun o u hf => ?_
   ·exact bz (fresh m c (old m _ hm q1) hc b q2)
   ·rw [bz (bC hf hp)];exact hf
  ·have e:=last m c hm q1
   subst e
   rw [mulast] at q2;cases q2
   rw [ar (ak _)] at q1
   simp at q1;subst q1
   exact r
theorem HR.new (h:HR K μ S H) {us:List U}{vs:List V}{p:Addr} (hp:H p=none) (r:RUs H μ us vs):HR K (μ ++ [p]) (S ++ [.lst us]) (upd H p (.lst vs)):=
 h.newC hp rfl ⟨vs,cg,RUs.mono (bj.new hp) ⟨[p],rfl⟩ us vs r⟩
theorem HR.tup (h:HR K μ S H) {vs:List V}{p:Addr} (hp:H p=none):HR K μ S (upd H p (.tup vs)):=by
 have kp:bj H (upd H p (.tup vs)):=bj.new hp
 refine⟨h.len,h.inj,fun m c b q1 q2=>(h.cell m c b q1 q2).mono kp (Pre.refl _) (fun hc => ?_) fun o u hf => ?_,h.ext.upd kp (Pre.refl _) fun o1 q=>by rw [hp] at q;cases q⟩
 ·obtain⟨o,e,_⟩:=(h.cell m _ b q1 q2).has hc
  exact bz (bC e hp)
 ·rw [bz (bC hf hp)];exact hf
theorem HR.sq (h:HR K μ S H) {n:Nat}{us:List U} (e:getL S n=some us) : ∃ a vs,μ[n]? = some a/\SqL K H a vs/\RUs H μ us vs:=by
 unfold getL at e
 split at e
 ·rename_i ws q
  cases e
  obtain⟨a,ha,vs,e1,r⟩:=h.get q
  exact⟨a,vs,ha,SqL.of e1,r⟩
 ·rename_i ws q
  cases e
  obtain⟨a,ha,vs,e1,r⟩:=h.get q
  refine⟨a,vs,ha,?_,r⟩
  rcases e1 with⟨o,e1⟩ | e1
  ·exact .inl (.inr ⟨o,e1⟩)
  ·rcases e1 with (e1 | ⟨o,e1⟩) | e1
   ·cases e1
   ·cases e1
   ·exact .inr e1
 ·cases e
 ·cases e
end
noncomputable def Aft (K:KX) (μ:List Addr) (H:Hp) (u:U) (S':Sto) (Q:VK):Prop := ∀ μ' v H',Pre μ μ'->bj H H'->HR K μ' S' H'->RU H' μ' u v->Q v H'
noncomputable def tM (K:KX) (m:ME):TE:=fun σ H Q => ∃ μ S ρ u S',HR K μ S H/\ER H μ ρ σ/\m ρ S=some (u,S')/\Aft K μ H u S' Q
noncomputable def tMT (K:KX) (m:MT):TT:=fun σ H Q => ∃ μ S ρ b S',HR K μ S H/\ER H μ ρ σ/\m ρ S=some (b,S') /\ ∀ μ' H',Pre μ μ'->bj H H'->HR K μ' S' H'->Q b H'
noncomputable def tMA (K:KX) (m:MA):TA:=fun σ H Q => ∃ μ S ρ us S',HR K μ S H/\ER H μ ρ σ/\m ρ S=some (us,S') /\ ∀ μ' vs H',Pre μ μ'->bj H H'->HR K μ' S' H'->RUs H' μ' us vs->Q vs H'
noncomputable def FlP (K:KX) (μ:List Addr) (H:Hp) (D:Ends):Fl×Rho×Sto->Prop
 | (.nx,ρ',S') => ∀ μ' σ' H',Pre μ μ'->bj H H'->HR K μ' S' H'->ER H' μ' ρ' σ'->D.nx σ' H'
 | (.bk,ρ',S') => ∀ μ' σ' H',Pre μ μ'->bj H H'->HR K μ' S' H'->ER H' μ' ρ' σ'->D.bk σ' H'
 | (.ct,ρ',S') => ∀ μ' σ' H',Pre μ μ'->bj H H'->HR K μ' S' H'->ER H' μ' ρ' σ'->D.ct σ' H'
 | (.rt u,_,S')=>Aft K μ H u S' D.rt
noncomputable def tMS (K:KX) (m:MS):TS:=fun D σ H => ∃ μ S ρ r,HR K μ S H/\ER H μ ρ σ/\m ρ S=some r/\FlP K μ H D r
theorem Aft.mono {K:KX}{μ μ1:List Addr}{H H1:Hp}{u:U}{S':Sto}{Q:VK} (a:Aft K μ H u S' Q) (p:Pre μ μ1) (k:bj H H1):Aft K μ1 H1 u S' Q:=
 fun μ' v H' p' k'=>a μ' v H' (p.trans p') (k.trans k')
theorem FlP.mono {K:KX}{μ μ1:List Addr}{H H1:Hp}{D:Ends}{r:Fl×Rho×Sto} (a:FlP K μ H D r) (p:Pre μ μ1) (k:bj H H1):FlP K μ1 H1 D r:=by
 obtain⟨f,ρ',S'⟩:=r
 cases f with
 | nx=>exact fun μ' σ' H' p' k'=>a μ' σ' H' (p.trans p') (k.trans k')
 | bk=>exact fun μ' σ' H' p' k'=>a μ' σ' H' (p.trans p') (k.trans k')
 | ct=>exact fun μ' σ' H' p' k'=>a μ' σ' H' (p.trans p') (k.trans k')
 | rt u=>exact Aft.mono a p k
end G
end
section
namespace G
open PySem PySem.Spec L2
open PyProof.Rows hiding St
section
variable {K:KX}{σ:St}{H:Hp}{Q:VK}
theorem nT {A B:Prop} (h:A):if true=true then A else B:=by rw [if_pos rfl];exact h
theorem nr {A B:Prop} (h:B):if false=true then A else B:=by rw [if_neg bJ];exact h
theorem IK {i:Nat} (h:tM K (ab i) σ H Q):Jf i σ H Q:=by
 obtain⟨μ,S,ρ,u,S',hr,er,e,k⟩:=h
 unfold ab at e
 split at e
 ·rename_i w q
  cases e
  obtain⟨v,hv,ru⟩:=er.get i _ q
  exact⟨v,hv,k μ v H (Pre.refl _) (bj.refl _) hr ru⟩
 ·cases e
theorem r_c {u:U}{v:V} (hv : ∀ H μ,RU H μ u v) (h:tM K (mC u) σ H Q):tC v σ H Q:=by
 obtain⟨μ,S,ρ,u',S',hr,er,e,k⟩:=h
 cases e
 exact k μ v H (Pre.refl _) (bj.refl _) hr (hv _ _)
noncomputable def OpU (K:KX) (r:R2) (f:F2):Prop := ∀ (μ:List Addr) (S:Sto) (H:Hp) (x y:U) (vx vy:V) (u:U) (S':Sto) (Q:VK),HR K μ S H->RU H μ x vx->RU H μ y vy->f x y S=some (u,S')->Aft K μ H u S' Q->r vx vy H Q
theorem uw {r:R2}{f:F2}{a b:ME} (o:OpU K r f) (h:tM K (m2 f a b) σ H Q):tOp r (tM K a) (tM K b) σ H Q:=by
 obtain⟨μ,S,ρ,u,S',hr,er,e,k⟩:=h
 obtain⟨x,S1,e1,e⟩:=aQ e
 obtain⟨y,S2,e2,e⟩:=aQ e
 refine⟨μ,S,ρ,x,S1,hr,er,e1,fun μ1 vx H1 p1 k1 hr1 rx => ?_⟩
 refine⟨μ1,S1,ρ,y,S2,hr1,er.mono k1 p1,e2,fun μ2 vy H2 p2 k2 hr2 ry => ?_⟩
 exact o μ2 S2 H2 x y vx vy u S' Q hr2 (RU.mono k2 p2 x vx rx) ry e (k.mono (p1.trans p2) (k1.trans k2))
noncomputable def UnU (K:KX) (r:V->Hp->VK->Prop) (f:U->Sto->Res U):Prop := ∀ (μ:List Addr) (S:Sto) (H:Hp) (x:U) (vx:V) (u:U) (S':Sto) (Q:VK),HR K μ S H->RU H μ x vx->f x S=some (u,S')->Aft K μ H u S' Q->r vx H Q
theorem Lx {r:V->Hp->VK->Prop}{f:U->Sto->Res U}{a:ME} (o:UnU K r f) (h:tM K (m1 f a) σ H Q):tUn r (tM K a) σ H Q:=by
 obtain⟨μ,S,ρ,u,S',hr,er,e,k⟩:=h
 obtain⟨x,S1,e1,e⟩:=aQ e
 refine⟨μ,S,ρ,x,S1,hr,er,e1,fun μ1 vx H1 p1 k1 hr1 rx => ?_⟩
 exact o μ1 S1 H1 x vx u S' Q hr1 rx e (k.mono p1 k1)
theorem Aft.now {μ:List Addr}{S:Sto}{u:U}{v:V} (k:Aft K μ H u S Q) (hr:HR K μ S H) (r:RU H μ u v):Q v H:=k μ v H (Pre.refl _) (bj.refl _) hr r
theorem eJ {μ:List Addr}{i:Int}:RU H μ (.int i) (.int i):=by simp [RU]
theorem dX {μ:List Addr}{b:Bool}:RU H μ (.bl b) (.bl b):=by simp [RU]
theorem oG {μ:List Addr}:RU H μ .non .non:=by simp [RU]
theorem iw {μ:List Addr}{us:List U}{vs:List V}{a:Addr} (e:H a=some (.tup vs)) (r:RUs H μ us vs):RU H μ (.tup us) (.ref a):=by
 simp only [RU];exact⟨a,vs,rfl,e,r⟩
theorem tZ {μ:List Addr}{n:Nat}{a:Addr} (e:μ[n]? = some a):RU H μ (.ref n) (.ref a):=by
 simp only [RU];exact⟨a,rfl,e⟩
theorem cw {μ:List Addr}{i:Int}{v:V} (h:RU H μ (.int i) v):v = .int i:=by simpa only [RU] using h
theorem fV {μ:List Addr}{b:Bool}{v:V} (h:RU H μ (.bl b) v):v = .bl b:=by simpa only [RU] using h
theorem fw {μ:List Addr}{us:List U}{v:V} (h:RU H μ (.tup us) v) : ∃ a vs,v = .ref a/\H a=some (.tup vs)/\RUs H μ us vs:=by simpa only [RU] using h
theorem dR {μ:List Addr}{n:Nat}{v:V} (h:RU H μ (.ref n) v) : ∃ a,v = .ref a/\μ[n]? = some a:=by simpa only [RU] using h
theorem yI {g:Int->Int->V}{f:F2}{k:Int->Int->U} (hf : ∀ x y S u S',f x y S=some (u,S') -> ∃ i j,x = .int i/\y = .int j/\u=k i j/\S'=S) (hg : ∀ H μ i j,RU H μ (k i j) (g i j)):OpU K (rI0 g) f:=by
 intro μ S H x y vx vy u S' Q hr rx ry e a
 obtain⟨i,j,rfl,rfl,rfl,rfl⟩:=hf x y S u S' e
 exact⟨i,j,cw rx,cw ry,a.now hr (hg _ _ _ _)⟩
theorem xa {C:Int->Int->Prop}{g:Int->Int->V}{f:F2}{k:Int->Int->U} (hf : ∀ x y S u S',f x y S=some (u,S') -> ∃ i j,x = .int i/\y = .int j/\C i j/\u=k i j/\S'=S) (hg : ∀ H μ i j,RU H μ (k i j) (g i j)):OpU K (rI C g) f:=by
 intro μ S H x y vx vy u S' Q hr rx ry e a
 obtain⟨i,j,rfl,rfl,c,rfl,rfl⟩:=hf x y S u S' e
 exact⟨i,j,cw rx,cw ry,c,a.now hr (hg _ _ _ _)⟩
theorem Hq:OpU K (rI0 fun i j => .int (i - j)) mm:=yI (k:=fun i j => .int (i - j)) (fun x y S u S' h=>by
 unfold mm at h;split at h <;> simp at h;obtain⟨rfl,rfl⟩:=h;exact⟨_,_,rfl,rfl,rfl,rfl⟩) fun _ _ _ _=>eJ
noncomputable def FT (K:aj):R2:=fun x y H Q => ∃ l k xs,x = .ref l/\y = .int k/\H l=some (.tup xs)/\Ax xs.length k/\(k=1->Q (.ref l) H)/\(k≠1 -> ∀ p,H p=none->Q (.ref p) (upd H p (.tup (aK k.toNat xs).flatten)))
theorem pX (its:List Value) : ∀ (m:Nat) (a:List Value),List.foldl (fun x1 x2=>x1++x2) a.toArray (aK m its.toArray)=(a++(aK m its).flatten).toArray
 | 0,a=>by simp
 | m+1,a=>by
   rw [cP,List.foldl_cons,List.append_toArray,pX its m (a++its),cP,fD,aM]
theorem RUs.rep {H:Hp}{μ:List Addr}{us:List U}{vs:List V} (r:RUs H μ us vs) : ∀ (m:Nat),RUs H μ (aK m us).flatten (aK m vs).flatten
 | 0=>by simpa using RUs.nil
 | m+1=>by
   rw [cP,fD,cP,fD]
   exact r.append (RUs.rep r m)
theorem Dv {X:Cx}:OpR X (binaryOp .Mult) (FT X.K):=by
 intro pins s σ H x y v u Q I rx ry h
 obtain⟨l,k,xs,rfl,rfl,hH,⟨h1,h2,h3,h4⟩,q1,q2⟩:=h
 cases (show v=bc l from rx)
 obtain⟨t,rfl⟩:=ry
 obtain⟨z,its,r,⟨⟨cls,dd,data,sl⟩,e,c,n,d⟩,_⟩:=I.hok l _ hH
 simp only at c d
 subst c d
 have hl:its.length=xs.length:=r.length.symm
 refine wpAny_binaryOp_repeat_ref (T:="tuple") (U:="int") (by decide) ⟨_,e,rfl⟩ (fun s'=>typeIs_int s' k t) om F.fills_int_mul F.slot_int_rmul uj F.slot_int_index.lookup
  (call_meets F.slot_int_rmul (typeIs_int s k t) F.entry_int_rmul (F.args_int_rmul_2 _ _) (qp k t l its.toArray n dd sl) ⟨e,rfl,⟨_,e,rfl⟩,?_⟩)
 by_cases hk:k=1
 ·subst hk
  exact call_meets wz ⟨_,e,rfl⟩ uA (sd _ _) (rE l its.toArray n dd sl t) ⟨e,⟨.ref l,H,I,rfl,q1 rfl⟩⟩
 ·by_cases hk0:k=0
  ·subst hk0
   refine call_meets wz ⟨_,e,rfl⟩ uA (sd _ _) (xP l its.toArray n dd sl t ?_) ⟨e,?_⟩
   ·cases its with
    | nil=>simp at hl;omega
    | cons a b=>rfl
   ·exact⟨.ref s.heap.objs.size,_,I.laid (t':=s.toks) (o := .tup []) (fun b ob q=>aq _ q) (ak _) ⟨dB _,[],.nil,kQ _ _,_,aC _ rfl,rfl⟩,rfl,by simpa using q2 hk _ (I.hok.fresh (ak _))⟩
  refine call_meets wz ⟨_,e,rfl⟩ uA (sd _ _) (xl l its.toArray n dd sl k t ?_ (by omega) h2 (by rw [ay];omega)) ⟨e,?_⟩
  ·intro w
   rw [mP] at w
   rcases w with w | w
   ·have:its = []:=by simpa using w
    rw [this] at hl;simp at hl;omega
   ·exact hk (by simpa using w)
  ·rw [show (#[]:Array Value)=([]:List Value).toArray from rfl,pX its k.toNat [],dF]
   refine⟨.ref s.heap.objs.size,_,I.laid (t':=s.toks) (o := .tup (aK k.toNat xs).flatten) (fun b ob q=>aq _ q) (ak _) ?_,rfl,q2 hk _ (I.hok.fresh (ak _))⟩
   refine⟨?_,_,r.rep k.toNat,kQ _ _,_,aC _ rfl,rfl⟩
   rw [len_rep,sizeLine_eq]
   have:k.toNat*xs.length<=1000*xs.length:=fT _ (by omega)
   omega
theorem Ib:OpU K (fun x y H Q=>rI Ee (fun i j => .int (i*j)) x y H Q\/FT K x y H Q) fZ:=by
 intro μ S H x y vx vy u S' Q hr rx ry e a
 unfold fZ at e
 split at e
 ·split at e
  ·rename_i hc
   simp at e;obtain⟨rfl,rfl⟩:=e
   exact .inl ⟨_,_,cw rx,cw ry,hc,a.now hr eJ⟩
  ·cases e
 ·rename_i xs k
  split at e
  ·rename_i hc
   simp at e;obtain⟨rfl,rfl⟩:=e
   obtain⟨p,vs,rfl,hp,r1⟩:=fw rx
   refine .inr ⟨p,k,vs,rfl,cw ry,hp,by rw [<- r1.len];exact hc,fun hk => ?_,fun hk t ht => ?_⟩
   ·subst hk
    have e1:(aK (1:Int).toNat xs).flatten=xs:=by simp
    rw [e1] at a
    exact a.now hr (iw hp r1)
   ·exact a μ _ _ (Pre.refl _) (bj.new ht) (hr.tup ht) (iw cg (RUs.mono (bj.new ht) (Pre.refl _) _ _ (r1.rep _)))
  ·cases e
 ·cases e
theorem HI:OpU K (rI Kd fun i j => .int (i / j)) oDiv:=xa (k:=fun i j => .int (i / j)) (fun x y S u S' h=>by
 unfold oDiv at h;split at h
 ·split at h
  ·rename_i hc;simp at h;obtain⟨rfl,rfl⟩:=h;exact⟨_,_,rfl,rfl,hc,rfl,rfl⟩
  ·cases h
 ·cases h) fun _ _ _ _=>eJ
theorem HU:OpU K (rI (fun _ j=>0 < j) fun i j => .int (i % j)) oMod:=xa (k:=fun i j => .int (i % j)) (fun x y S u S' h=>by
 unfold oMod at h;split at h
 ·split at h
  ·rename_i hc;simp at h;obtain⟨rfl,rfl⟩:=h;exact⟨_,_,rfl,rfl,hc,rfl,rfl⟩
  ·cases h
 ·cases h) fun _ _ _ _=>eJ
theorem IA:OpU K (rI JN fun i j => .int (i ^ j.toNat)) ua:=xa (k:=fun i j => .int (i ^ j.toNat)) (fun x y S u S' h=>by
 unfold ua at h;split at h
 ·split at h
  ·rename_i hc;simp at h;obtain⟨rfl,rfl⟩:=h;exact⟨_,_,rfl,rfl,hc,rfl,rfl⟩
  ·cases h
 ·cases h) fun _ _ _ _=>eJ
theorem t7 {p:Int->Int->Bool}:OpU K (rI0 fun i j => .bl (p i j)) (zg p):=yI (k:=fun i j => .bl (p i j)) (fun x y S u S' h=>by
 unfold zg at h;split at h <;> simp at h;obtain⟨rfl,rfl⟩:=h;exact⟨_,_,rfl,rfl,rfl,rfl⟩) fun _ _ _ _=>dX
noncomputable def FD (K:aj):R2:=fun x y H Q => ∃ a b ys,x = .ref a/\y = .ref b/\SqT K H a []/\SqT K H b ys/\Q (.ref b) H
theorem ET {X:Cx}:OpR X (binaryOp .Add) (FD X.K):=by
 intro pins s σ H x y v u Q I rx ry h
 obtain⟨a,b,ys,rfl,rfl,h1,h2,q⟩:=h
 cases (show v=bc a from rx)
 cases (show u=bc b from ry)
 obtain⟨its,r1,p1,_⟩:=I.tuple h1
 obtain⟨its2,r2,p2,_⟩:=I.tuple h2
 cases r1
 exact HT.cat_tup0 p1 p2 ⟨.ref b,H,I,rfl,q⟩
theorem Iz:OpU K (fun x y H Q=>rI0 (fun i j => .int (i+j)) x y H Q\/Fv K x y H Q\/FD K x y H Q\/Kc x y H Q) bW:=by
 intro μ S H x y vx vy u S' Q hr rx ry e a
 unfold bW at e
 split at e
 ·simp at e;obtain⟨rfl,rfl⟩:=e
  exact .inl ⟨_,_,cw rx,cw ry,a.now hr eJ⟩
 ·rename_i xs ys
  split at e
  ·rename_i hc
   simp at e;obtain⟨rfl,rfl⟩:=e
   obtain⟨p,vs,rfl,hp,r1⟩:=fw rx
   obtain⟨q,ws,rfl,hq,r2⟩:=fw ry
   by_cases hx:xs = []
   ·subst hx
    have hv:vs = []:=by have:=r1.len;exact eS (by simpa using this.symm)
    subst hv
    exact .inr (.inr (.inl ⟨p,q,ws,rfl,rfl,.inl (.inl hp),.inl (.inl hq),a.now hr (iw hq r2)⟩))
   refine .inr (.inl ⟨p,q,vs,ws,rfl,rfl,.inl (.inl hp),.inl (.inl hq),?_,?_,fun z => ?_,fun z t ht => ?_⟩)
   ·intro z;subst z;have:=r1.len;exact hx (eS (by simpa using this))
   ·have h1:=r1.len;have h2:=r2.len;unfold big at hc;rw [sizeLine_eq];omega
   ·subst z
    have:ys = []:=by have:=r2.len;exact eS (by simpa using this)
    subst this
    rw [gM] at a
    exact a.now hr (iw hp r1)
   ·refine a μ _ _ (Pre.refl _) (bj.new ht) (hr.tup ht) ?_
    have kp:bj H (upd H t (.tup (vs++ws))):=bj.new ht
    exact iw cg ((RUs.mono kp (Pre.refl _) _ _ r1).append (RUs.mono kp (Pre.refl _) _ _ r2))
  ·cases e
 ·rename_i n m
  split at e
  ·rename_i xs ys q1 q2
   split at e
   ·rename_i hc
    simp at e;obtain⟨rfl,rfl⟩:=e
    obtain⟨p,rfl,hp⟩:=dR rx
    obtain⟨q,rfl,hq⟩:=dR ry
    obtain⟨vs,e1,r1⟩:=hr.cell n _ p q1 hp
    obtain⟨ws,e2,r2⟩:=hr.cell m _ q q2 hq
    refine .inr (.inr (.inr ⟨p,q,vs,ws,rfl,rfl,e1,e2,?_,fun t ht => ?_⟩))
    ·have h1:=r1.len;have h2:=r2.len;unfold big at hc;rw [sizeLine_eq];omega
    ·refine a (μ ++ [t]) _ _ ⟨[t],rfl⟩ (bj.new ht) (hr.new ht (r1.append r2)) (tZ ?_)
     rw [<- hr.len,ar (ak _)];simp
   ·cases e
  ·cases e
 ·cases e
theorem HR.seq {μ:List Addr}{S:Sto}{x:U}{v:V}{us:List U} (hr:HR K μ S H) (r:RU H μ x v) (e:dI S x=some us) : ∃ a vs,v = .ref a/\(SqL K H a vs\/SqT K H a vs)/\RUs H μ us vs:=by
 unfold dI at e
 split at e
 ·cases e
  obtain⟨a,vs,rfl,h,q⟩:=fw r
  exact⟨a,vs,rfl,.inr (.inl (.inl h)),q⟩
 ·obtain⟨a,rfl,ha⟩:=dR r
  obtain⟨a',vs,ha',hs,q⟩:=hr.sq e
  rw [ha] at ha';cases ha'
  exact⟨a,vs,rfl,.inl hs,q⟩
 ·cases e
theorem EZ {μ:List Addr}{us:List U}{vs:List V}{i:Int}{u:U} (r:RUs H μ us vs) (e:atI us i=some u) : ∃ v,atI vs i=some v/\RU H μ u v:=by
 unfold atI at e ⊢
 rw [<- r.len]
 cases q:ixN us.length i with
 | none=>rw [q] at e;cases e
 | some j=>
   rw [q] at e
   exact r.get e
theorem kZ {μ:List Addr}{y:U}{v:V}{k:Key} (r:RU H μ y v) (e:keyOf y=some k):v=kV k:=by
 cases y <;> simp only [keyOf,eP,reduceCtorEq] at e <;> subst e <;> (simp only [RU] at r;exact r)
theorem xY {μ:List Addr}{k:Key}{u:U} : ∀ {kvs:List (Key×U)}{vs:List V},RUs H μ (kvs.map (·.2)) vs->lC kvs k=some u -> ∃ v,kL (dV kvs vs) k=some v/\RU H μ u v
 | [],vs,r,e=>by cases e
 | (j,x)::kvs,vs,r,e=>by
   obtain⟨v,r',rfl,a,b⟩:=r.inv
   show ∃ w,kL ((j,v)::dV kvs r') k=some w/\_
   by_cases h:j=k
   ·rw [kB h]
    simp [lC,ck,h] at e
    subst e
    exact⟨v,rfl,a⟩
   ·rw [kj h]
    refine xY b ?_
    simpa [lC,ck,h] using e
theorem qA {k:Key} : ∀ {kvs:List (Key×U)}{vs:List V},kvs.length=vs.length->(kL (dV kvs vs) k).isSome=(lC kvs k).isSome
 | [],vs,_=>by simp [dV,kL,lC]
 | (j,x)::kvs,[],h=>by simp at h
 | (j,x)::kvs,v::vs,h=>by
   show (kL ((j,v)::dV kvs vs) k).isSome=_
   by_cases hj:j=k
   ·rw [kB hj];simp [lC,ck,hj]
   ·rw [kj hj,qA (by simpa using h)];simp [lC,ck,hj]
theorem CD {k:Key} : ∀ {kvs:List (Key×U)}{vs:List V},kvs.length=vs.length->((dV kvs vs).any fun kv=>decide (kv.1=k))=kvs.any fun kv=>decide (kv.1=k)
 | [],vs,_=>by simp [dV]
 | (j,x)::kvs,[],h=>by simp at h
 | (j,x)::kvs,v::vs,h=>by
   show (((j,v)::dV kvs vs).any fun kv=>decide (kv.1=k))=_
   rw [gK,gK,CD (by simpa using h)]
theorem xp {kvs:List (Key×U)}{vs:List V} (h:kvs.length=vs.length):(dV kvs vs).length=kvs.length:=by
 simp [dV,h]
theorem yt {μ:List Addr}{k:Key}{u:U}{v:V} (ru:RU H μ u v) : ∀ {kvs:List (Key×U)}{vs:List V},RUs H μ (kvs.map (·.2)) vs ->
  ∃ ws,dV (kvs.map fun kv=>if kv.1=k then (kv.1,u) else kv) ws=(dV kvs vs).map (fun kv=>if kv.1=k then (kv.1,v) else kv)/\RUs H μ ((kvs.map fun kv=>if kv.1=k then (kv.1,u) else kv).map (·.2)) ws
 | [],vs,r=>⟨[],by simp [dV],.nil⟩
 | (j,x)::kvs,vs,r=>by
   obtain⟨w,r',rfl,a,b⟩:=r.inv
   obtain⟨ws,e,q⟩:=yt ru b
   show ∃ ws',dV ((if j=k then (j,u) else (j,x))::kvs.map fun kv=>if kv.1=k then (kv.1,u) else kv) ws'=(if j=k then (j,v) else (j,w))::(dV kvs r').map (fun kv=>if kv.1=k then (kv.1,v) else kv)/\RUs H μ (((if j=k then (j,u) else (j,x))::kvs.map fun kv=>if kv.1=k then (kv.1,u) else kv).map (·.2)) ws'
   by_cases h:j=k
   ·rw [if_pos h,if_pos h]
    exact⟨v::ws,by rw [<- e];rfl,.cons ru q⟩
   ·rw [if_neg h,if_neg h]
    exact⟨w::ws,by rw [<- e];rfl,.cons a q⟩
theorem yS {μ:List Addr}{k:Key}{u:U}{v:V}{kvs:List (Key×U)}{vs:List V} (ru:RU H μ u v) (r:RUs H μ (kvs.map (·.2)) vs) : ∃ ws,dV (uV kvs k u) ws=putK (dV kvs vs) k v/\RUs H μ ((uV kvs k u).map (·.2)) ws:=by
 have hl:kvs.length=vs.length:=by have:=r.len;rwa [av] at this
 unfold uV putK
 rw [CD hl]
 split
 ·exact yt ru r
 ·refine⟨vs ++ [v],?_,by rw [bS];exact r.append (.cons ru .nil)⟩
  unfold dV
  rw [bS,List.zip_append (by simpa using hl)]
  rfl
theorem HR.dic {μ:List Addr}{S:Sto}{x:U}{v:V}{kvs:List (Key×U)} (hr:HR K μ S H) (r:RU H μ x v) (e:fv S x=some kvs) : ∃ a vs,v = .ref a/\H a=some (.dK (dV kvs vs))/\RUs H μ (kvs.map (·.2)) vs:=by
 unfold fv at e
 split at e
 ·split at e
  ·rename_i q
   cases e
   obtain⟨a,rfl,ha⟩:=dR r
   obtain⟨vs,e1,r1⟩:=hr.cell _ _ a q ha
   exact⟨a,vs,rfl,e1,r1⟩
  ·cases e
 ·cases e
noncomputable def IS:R2:=fun x y H Q => ∃ a v,x = .ref a/\rK H a y (some v)/\Q v H
noncomputable def LF (K:aj):R2:=fun x y H Q=>rIx K x y H Q\/IS x y H Q
theorem F4 {X:Cx} (hu:X.A.units+1 < cLine):IxR X IS:=by
 intro value slice pins s σ H x y v u Q I rx ry h hs
 obtain⟨a,w,rfl,g,q⟩:=h
 obtain rfl:v=bc a:=rx
 exact tail_any (vY I g) PySem.F.slot_dict_getitem.lookup (zI hu I g ry fun w' s3 I3 rw'=>⟨w,H,I3,rw',q⟩) hs
theorem Kn:OpU K (LF K) oIx:=by
 intro μ S H x y vx vy u S' Q hr rx ry e a
 unfold oIx at e
 split at e
 ·rename_i kvs qd
  cases qk:keyOf y with
  | none=>rw [qk] at e;cases e
  | some kk=>
    rw [qk] at e
    simp only [ai] at e
    cases qv:lC kvs kk with
    | none=>rw [qv] at e;cases e
    | some w=>
      rw [qv] at e
      simp at e;obtain⟨rfl,rfl⟩:=e
      obtain⟨p,vs,rfl,hp,r⟩:=hr.dic rx qd
      obtain⟨v,hv,rv⟩:=xY r qv
      rw [kZ ry qk]
      exact .inr ⟨p,v,rfl,.inl ⟨_,kk,.inl hp,rfl,hv.symm⟩,a.now hr rv⟩
 split at e
 ·rename_i i
  refine .inl ?_
  cases q:dI S x with
  | none=>rw [q] at e;cases e
  | some us=>
    rw [q] at e
    simp only [ai] at e
    cases z:atI us i with
    | none=>rw [z] at e;cases e
    | some w=>
      rw [z] at e
      simp at e;obtain⟨rfl,rfl⟩:=e
      obtain⟨p,vs,rfl,hs,r⟩:=hr.seq rx q
      obtain⟨v,hv,rv⟩:=EZ r z
      rcases hs with hs | hs
      ·exact .inl ⟨p,vs,i,v,rfl,cw ry,hs,hv,a.now hr rv⟩
      ·exact .inr (.inl ⟨p,vs,i,v,rfl,cw ry,hs,hv,a.now hr rv⟩)
 ·cases e
theorem Ih:UnU K (rU fun i => .int (-i)) eW:=by
 intro μ S H x vx u S' Q hr rx e a
 unfold eW at e
 split at e
 ·cases e
  exact⟨_,cw rx,a.now hr eJ⟩
 ·cases e
theorem Jb {Q:List V->Hp->Prop} (h:tMA K af σ H Q):uL σ H Q:=by
 obtain⟨μ,S,ρ,us,S',hr,er,e,k⟩:=h
 cases e
 exact k μ [] H (Pre.refl _) (bj.refl _) hr .nil
theorem GN {a:ME}{r:MA}{Q:List V->Hp->Prop} (h:tMA K (aa a r) σ H Q):oK (tM K a) (tMA K r) σ H Q:=by
 obtain⟨μ,S,ρ,us,S',hr,er,e,k⟩:=h
 obtain⟨x,S1,e1,e⟩:=aQ e
 obtain⟨xs,S2,e2,e⟩:=aQ e
 cases e
 refine⟨μ,S,ρ,x,S1,hr,er,e1,fun μ1 vx H1 p1 k1 hr1 rx => ?_⟩
 refine⟨μ1,S1,ρ,xs,_,hr1,er.mono k1 p1,e2,fun μ2 vs H2 p2 k2 hr2 rs => ?_⟩
 exact k μ2 _ H2 (p1.trans p2) (k1.trans k2) hr2 (.cons (RU.mono k2 p2 x vx rx) rs)
theorem IQ {a:MA} (h:tM K (cK a) σ H Q):J0 (tMA K a) σ H Q:=by
 obtain⟨μ,S,ρ,u,S',hr,er,e,k⟩:=h
 obtain⟨xs,S1,e1,e⟩:=aQ e
 split at e
 ·rename_i hc
  cases e
  refine⟨μ,S,ρ,xs,_,hr,er,e1,fun μ1 vs H1 p1 k1 hr1 rs=>⟨?_,fun p hp => ?_⟩⟩
  ·have:=rs.len;unfold big at hc;rw [sizeLine_eq];omega
  ·exact k μ1 _ _ p1 (k1.trans (bj.new hp)) (hr1.tup hp) (iw cg (RUs.mono (bj.new hp) (Pre.refl _) _ _ rs))
 ·cases e
theorem iF {μ:List Addr}{S:Sto}{us:List U}{vs:List V}{p:Addr} (k:Aft K μ H (.ref S.length) (S ++ [.lst us]) Q) (hr:HR K μ S H) (rs:RUs H μ us vs) (hp:H p=none):Q (.ref p) (upd H p (.lst vs)):=by
 refine k (μ ++ [p]) _ _ ⟨[p],rfl⟩ (bj.new hp) (hr.new hp rs) (tZ ?_)
 rw [<- hr.len,ar (ak _)];simp
theorem Ji {a:MA} (h:tM K (cM a) σ H Q):Ke (tMA K a) σ H Q:=by
 obtain⟨μ,S,ρ,u,S',hr,er,e,k⟩:=h
 obtain⟨xs,S1,e1,e⟩:=aQ e
 split at e
 ·rename_i hc
  cases e
  refine⟨μ,S,ρ,xs,S1,hr,er,e1,fun μ1 vs H1 p1 k1 hr1 rs=>⟨?_,fun p hp => ?_⟩⟩
  ·have:=rs.len;unfold big at hc;rw [sizeLine_eq];omega
  ·exact iF (k.mono p1 k1) hr1 rs hp
 ·cases e
noncomputable def qD (K:KX) (r:List V->Hp->VK->Prop) (f:MF):Prop := ∀ (μ:List Addr) (S:Sto) (H:Hp) (us:List U) (vs:List V) (u:U) (S':Sto) (Q:VK),HR K μ S H->RUs H μ us vs->f us S=some (u,S')->Aft K μ H u S' Q->r vs H Q
theorem z0 {r:List V->Hp->VK->Prop}{f:MF}{a:MA} (o:qD K r f) (h:tM K (mFn f a) σ H Q):tCB r (tMA K a) σ H Q:=by
 obtain⟨μ,S,ρ,u,S',hr,er,e,k⟩:=h
 obtain⟨xs,S1,e1,e⟩:=aQ e
 refine⟨μ,S,ρ,xs,S1,hr,er,e1,fun μ1 vs H1 p1 k1 hr1 rs => ?_⟩
 exact o μ1 S1 H1 xs vs u S' Q hr1 rs e (k.mono p1 k1)
noncomputable def spM (K:KX) (m:MF):Sp:=fun vs H Q _ => ∃ μ S us u S',HR K μ S H/\RUs H μ us vs/\m us S=some (u,S')/\Aft K μ H u S' Q
theorem Bm {f:MF}{a:MA}{E:XK} (h:tM K (mFn f a) σ H Q):yj (spM K f) [] E (tMA K a) σ H Q:=by
 obtain⟨μ,S,ρ,u,S',hr,er,e,k⟩:=h
 obtain⟨xs,S1,e1,e⟩:=aQ e
 refine⟨μ,S,ρ,xs,S1,hr,er,e1,fun μ1 vs H1 p1 k1 hr1 rs => ?_⟩
 show spM K f (vs ++ []) H1 Q E
 rw [gM]
 exact⟨μ1,S1,xs,u,S',hr1,rs,e,k.mono p1 k1⟩
theorem Hy:qD K (fun xs H Q=>(∃ p ys,xs = [.ref p]/\(SqL K H p ys\/SqT K H p ys)/\Q (.int ys.length) H) \/ ∃ a kvs,xs = [V.ref a]/\H a=some (.dK kvs)/\Q (.int kvs.length) H) bF:=by
 intro μ S H us vs u S' Q hr rs e a
 unfold bF at e
 split at e
 ·rename_i x
  obtain⟨v,r,rfl,rx,rn⟩:=rs.inv
  rw [rn.nil_inv]
  split at e
  ·rename_i kvs qd
   cases e
   obtain⟨p,ws,rfl,hp,r'⟩:=hr.dic rx qd
   refine .inr ⟨p,_,rfl,hp,?_⟩
   have hl:kvs.length=ws.length:=by have:=r'.len;rwa [av] at this
   rw [xp hl]
   exact a.now hr eJ
  cases q:dI S x with
  | none=>rw [q] at e;cases e
  | some ws=>
    rw [q] at e;cases e
    obtain⟨p,ys,rfl,hs,r'⟩:=hr.seq rx q
    refine .inl ⟨p,ys,rfl,hs,?_⟩
    rw [<- r'.len]
    exact a.now hr eJ
 ·cases e
theorem B3:qD K (fun xs H Q => ∃ p ys,xs = [.ref p]/\((SqL K H p ys /\ ∀ l,H l=none->Q (.ref l) (upd H l (.tup ys)))\/(SqT K H p ys/\Q (.ref p) H))) bD:=by
 intro μ S H us vs u S' Q hr rs e a
 unfold bD at e
 split at e
 ·rename_i x
  obtain⟨v,r,rfl,rx,rn⟩:=rs.inv
  rw [rn.nil_inv]
  unfold dI at e
  split at e
  ·cases e
   obtain⟨p,ys,rfl,hp,r'⟩:=fw rx
   exact⟨p,ys,rfl,.inr ⟨.inl (.inl hp),a.now hr (iw hp r')⟩⟩
  ·rename_i n
   cases q:getL S n with
   | none=>rw [q] at e;cases e
   | some ws=>
     rw [q] at e;cases e
     obtain⟨p,rfl,hp⟩:=dR rx
     obtain⟨p',ys,hp',hs,r'⟩:=hr.sq q
     rw [hp] at hp';cases hp'
     refine⟨p,ys,rfl,.inl ⟨hs,fun l hl => ?_⟩⟩
     exact a μ _ _ (Pre.refl _) (bj.new hl) (hr.tup hl) (iw cg (RUs.mono (bj.new hl) (Pre.refl _) _ _ r'))
  ·cases e
 ·cases e
theorem HF:qD K (fun xs H Q => ∃ i j,xs = [.int i,.int j]/\Q (.int (if j > i then j else i)) H) vd:=by
 intro μ S H us vs u S' Q hr rs e a
 unfold vd at e
 split at e
 ·cases e
  obtain⟨v,r,rfl,rx,rs⟩:=rs.inv
  obtain⟨w,r,rfl,ry,rn⟩:=rs.inv
  rw [rn.nil_inv,cw rx,cw ry]
  exact⟨_,_,rfl,a.now hr eJ⟩
 ·cases e
theorem sZ : ∀ {ns:List Int}{m:Int},wW ns=some m->m∈ns /\ ∀ a∈ns,m<=a
 | [],m,h=>by cases h
 | x::xs,m,h=>by
   unfold wW at h
   cases q:wW xs with
   | none=>
     rw [q] at h;cases h
     cases xs with
     | nil=>exact⟨ba,fun a ha=>by simp at ha;omega⟩
     | cons y ys=>
       exfalso
       unfold wW at q
       split at q <;> cases q
   | some k=>
     rw [q] at h
     obtain⟨h1,h2⟩:=sZ q
     have e:(if k < x then k else x)=m:=bq h
     by_cases hk:k < x
     ·rw [if_pos hk] at e;subst e
      refine⟨aA _ h1,fun a ha => ?_⟩
      rcases aX.mp ha with z | z
      ·omega
      ·exact h2 a z
     ·rw [if_neg hk] at e;subst e
      refine⟨ba,fun a ha => ?_⟩
      rcases aX.mp ha with z | z
      ·omega
      ·have:=h2 a z;omega
theorem yC {μ:List Addr} : ∀ {us:List U}{vs:List V}{ns:List Int},RUs H μ us vs->de Ar us=some ns->vs=ns.map V.int
 | [],vs,ns,r,e=>by cases e;rw [r.nil_inv];rfl
 | u::us,vs,ns,r,e=>by
   obtain⟨v,r',rfl,a,b⟩:=r.inv
   unfold de at e
   cases u with
   | int x=>
     simp only [Ar,ai] at e
     cases q:de Ar us with
     | none=>rw [q] at e;cases e
     | some cs=>
       rw [q] at e;cases e
       rw [cw a,yC b q];rfl
   | _=>cases e
noncomputable def KR (K:aj):List V->Hp->VK->Prop:=fun xs H Q=>((∃ i j,xs = [.int i,.int j]/\Q (.int (if j < i then j else i)) H) \/ ∃ (p:Addr) (ns:List Int) (m:Int),xs = [.ref p]/\SqL K H p (ns.map V.int)/\m∈ns/\(∀ a∈ns,m<=a)/\Q (.int m) H)
theorem sh : ∀ {ns:List Int}{us:List Value},bK (ns.map V.int) us->IntsAre us ns
 | [],us,r=>by cases r;exact .nil
 | n::ns,us,r=>by
   cases r with
   | cons a b=>
     obtain⟨t,rfl⟩:=a
     exact .cons n t (sh b)
theorem zV {X:Cx} (hc:X.calm=true) (hu:X.A.units+64 < cLine):gO X (.builtin "min") (KR X.K):=by
 intro pins s σ H xs us Q I rs h
 rcases h with h | ⟨p,ns,m,rfl,hS,hm,hle,q⟩
 ·exact zT hc pins s σ H xs us Q I rs h
 cases rs with
 | cons r1 rr=>
   cases rr
   cases (show _=bc p from r1)
   obtain⟨its,rv,pl,_⟩:=I.list hS
   have hI:=sh rv
   have hl:=pl.isList
   obtain⟨ys,ey⟩:=hI.allInts.items
   have en:ns=ys.toList.map Prod.fst:=by rw [<- hI.numsOf,<- nums_intItems,<- ey]
   have lenE:ns.length=ys.size:=by rw [en];simp
   have pos:0 < ys.size:=by rw [<- lenE];exact List.length_pos_of_mem hm
   rw [ey] at hl
   refine min_intList (I.ok.hd hc) hl pos fun v h' tk hv hk => ?_
   obtain⟨t,rfl⟩:=intItems_at hv
   obtain⟨b1,b2⟩:=argBest_lt (numAt ys) (ys.size - 1)
   have hin:numAt ys (argBest (fun i j=>decide (numAt ys i < numAt ys j)) (ys.size - 1))∈ns:=by
    rw [en,numAt_eq]
    exact getD_mem (by rw [av,di];omega)
   obtain⟨j,hj,ej⟩:=mem_getD (show m∈ys.toList.map Prod.fst from en▸hm)
   have hj':j<=ys.size - 1:=by rw [av,di] at hj;omega
   have le2:=b2 j hj'
   rw [numAt_eq ys j,ej] at le2
   have le1:=hle _ hin
   have eq:numAt ys (argBest (fun i j=>decide (numAt ys i < numAt ys j)) (ys.size - 1))=m:=by omega
   exact⟨.int m,H,I.kept hk,⟨t,by rw [eq]⟩,q⟩
theorem GJ:qD K (KR K) oY:=by
 intro μ S H us vs u S' Q hr rs e a
 unfold oY at e
 split at e
 ·cases e
  obtain⟨v,r,rfl,rx,rs⟩:=rs.inv
  obtain⟨w,r,rfl,ry,rn⟩:=rs.inv
  rw [rn.nil_inv,cw rx,cw ry]
  exact .inl ⟨_,_,rfl,a.now hr eJ⟩
 ·rename_i n
  obtain⟨v,r,rfl,rx,rn⟩:=rs.inv
  rw [rn.nil_inv]
  cases q:getL S n with
  | none=>rw [q] at e;cases e
  | some xs=>
    rw [q] at e
    simp only [ai] at e
    cases q2:de Ar xs with
    | none=>rw [q2] at e;cases e
    | some ns=>
      rw [q2] at e
      simp only [ai] at e
      cases q3:wW ns with
      | none=>rw [q3] at e;cases e
      | some m=>
        rw [q3] at e;cases e
        obtain⟨p,rfl,hp⟩:=dR rx
        obtain⟨p',ys,hp',hs,r'⟩:=hr.sq q
        rw [hp] at hp';cases hp'
        rw [yC r' q2] at hs
        obtain⟨h1,h2⟩:=sZ q3
        exact .inr ⟨p,ns,_,rfl,hs,h1,h2,a.now hr eJ⟩
 ·cases e
noncomputable def MtU (K:KX) (r:V->List V->Hp->VK->Prop) (f:Nat->List U->Sto->Res U):Prop := ∀ (μ:List Addr) (S:Sto) (H:Hp) (n:Nat) (p:Addr) (us:List U) (vs:List V) (u:U) (S':Sto) (Q:VK),HR K μ S H->μ[n]? = some p->RUs H μ us vs->f n us S=some (u,S')->Aft K μ H u S' Q->r (.ref p) vs H Q
theorem FV {r:V->List V->Hp->VK->Prop}{f:Nat->List U->Sto->Res U}{o:ME}{a:MA} (m:MtU K r f) (h:tM K (mML f o a) σ H Q):tBM K "list" r (tM K o) (tMA K a) σ H Q:=by
 obtain⟨μ,S,ρ,u,S',hr,er,e,k⟩:=h
 obtain⟨x,S1,e1,e⟩:=aQ e
 split at e
 ·rename_i n
  cases q:getL S1 n with
  | none=>rw [q] at e;cases e
  | some ws=>
    rw [q] at e
    obtain⟨xs,S2,e2,e⟩:=aQ e
    refine⟨μ,S,ρ,_,S1,hr,er,e1,fun μ1 vx H1 p1 k1 hr1 rx => ?_⟩
    obtain⟨p,rfl,hp⟩:=dR rx
    obtain⟨p',ys,hp',hs,r'⟩:=hr1.sq q
    rw [hp] at hp';cases hp'
    refine⟨.inl ⟨rfl,ys,hs⟩,μ1,S1,ρ,xs,S2,hr1,er.mono k1 p1,e2,fun μ2 vs H2 p2 k2 hr2 rs => ?_⟩
    exact m μ2 S2 H2 n p xs vs u S' Q hr2 (p2.get hp) rs e (k.mono (p1.trans p2) (k1.trans k2))
 ·cases e
theorem KG {r:V->List V->Hp->VK->Prop}{f:Nat->List U->Sto->Res U}{o:ME} (m:MtU K r f) (h:tM K (mML f o af) σ H Q):JV K "list" r (tM K o) σ H Q:=by
 obtain⟨μ,S,ρ,u,S',hr,er,e,k⟩:=h
 obtain⟨x,S1,e1,e⟩:=aQ e
 split at e
 ·rename_i n
  cases q:getL S1 n with
  | none=>rw [q] at e;cases e
  | some ws=>
    rw [q] at e
    refine⟨μ,S,ρ,_,S1,hr,er,e1,fun μ1 vx H1 p1 k1 hr1 rx => ?_⟩
    obtain⟨p,rfl,hp⟩:=dR rx
    obtain⟨p',ys,hp',hs,r'⟩:=hr1.sq q
    rw [hp] at hp';cases hp'
    exact⟨.inl ⟨rfl,ys,hs⟩,m μ1 S1 H1 n p [] [] u S' Q hr1 hp .nil e (k.mono p1 k1)⟩
 ·cases e
theorem ui {μ:List Addr}{S:Sto}{n:Nat}{us ws:List U}{vs:List V}{p:Addr}{u:U}{v:V} (k:Aft K μ H u (S.set n (.lst ws)) Q) (hr:HR K μ S H) (e:S[n]? = some (.lst us)) (hp:μ[n]? = some p) (rs:RUs H μ ws vs) (ru:RU H μ u v) :
  Q v (upd H p (.lst vs)):=by
 obtain⟨vs0,e0,_⟩:=hr.cell n _ p e hp
 exact k μ _ _ (Pre.refl _) (bj.wr e0) (hr.wr e hp rs) (RU.mono (bj.wr e0) (Pre.refl _) _ _ ru)
theorem ze:MtU K yy cj:=by
 intro μ S H n p us vs u S' Q hr hp rs e a
 unfold cj at e
 split at e
 ·split at e
  ·rename_i ws q
   split at e
   ·rename_i hc
    cases e
    obtain⟨v,r,rfl,rx,rn⟩:=rs.inv
    rw [rn.nil_inv]
    obtain⟨xs,e0,r0⟩:=hr.cell n _ p q hp
    refine⟨p,xs,v,rfl,rfl,e0,?_,ui a hr q hp (r0.append (.cons rx .nil)) oG⟩
    have:=r0.len;unfold big at hc;rw [sizeLine_eq];omega
   ·cases e
  ·cases e
 ·cases e
theorem Gg {n:Nat}{i:Int}{j:Nat} (h:ixN n i=some j):j < n /\ -(n:Int)<=i/\i < n:=by
 unfold ixN at h
 split at h
 ·split at h
  ·cases h;omega
  ·cases h
 ·split at h
  ·cases h;omega
  ·cases h
theorem EC {n:Nat}{i:Int}{j:Nat} (h:ixN n i=some j):seqIndex? i n=some j:=by
 unfold ixN at h
 unfold seqIndex?
 split at h
 ·split at h
  ·cases h
   rename_i h0 h1
   simp only [show ¬ i < 0 by omega,if_false]
   first
    | (rw [if_pos (by omega)])
    | (simp;omega)
  ·cases h
 ·split at h
  ·cases h
   rename_i h0 h1
   simp only [show i < 0 by omega,if_true]
   first
    | (rw [if_pos (by omega)])
    | (simp;omega)
  ·cases h
theorem Gb:MtU K IG lG:=by
 intro μ S H n p us vs u S' Q hr hp rs e a
 unfold lG at e
 split at e
 ·split at e
  ·rename_i ws q
   cases z:ws[ws.length - 1]? with
   | none=>rw [z] at e;cases e
   | some y=>
     rw [z] at e;cases e
     rw [rs.nil_inv]
     obtain⟨xs,e0,r0⟩:=hr.cell n _ p q hp
     obtain⟨v,hv,rv⟩:=r0.get z
     exact⟨p,xs,v,rfl,rfl,e0,by rw [<- r0.len];exact hv,ui a hr q hp r0.dropLast rv⟩
  ·cases e
 ·cases e
theorem Bc:MtU K Cn jj:=by
 intro μ S H n p us vs u S' Q hr hp rs e a
 unfold jj at e
 split at e
 ·rename_i i
  split at e
  ·rename_i ws q
   split at e
   rotate_left
   ·cases e
   rename_i hR
   cases z:ixN ws.length i with
   | none=>rw [z] at e;cases e
   | some j=>
     rw [z] at e
     simp only [ai] at e
     cases z2:ws[j]? with
     | none=>rw [z2] at e;cases e
     | some y=>
       rw [z2] at e;cases e
       obtain⟨v,r,rfl,rx,rn⟩:=rs.inv
       rw [rn.nil_inv,cw rx]
       obtain⟨xs,e0,r0⟩:=hr.cell n _ p q hp
       obtain⟨w,hw,rw'⟩:=r0.get z2
       have hl:=Gg z
       have hlen:=r0.len
       refine⟨p,xs,i,j,w,rfl,rfl,e0,?_,?_,?_,hw,ui a hr q hp (r0.eraseIdx j) rw'⟩
       ·have:=hR.1;omega
       ·have:=hR.2;omega
       ·rw [<- hlen];exact EC z
  ·cases e
 ·cases e
theorem wX {t:TE}{m:ME}{Q:Bool->Hp->Prop} (ht : ∀ Q,tM K m σ H Q->t σ H Q) (h:tMT K (cOf m) σ H Q):Cs t σ H Q:=by
 obtain⟨μ,S,ρ,b,S',hr,er,e,k⟩:=h
 obtain⟨x,S1,e1,e⟩:=aQ e
 split at e
 ·cases e
  refine ht _ ⟨μ,S,ρ,_,_,hr,er,e1,fun μ1 vx H1 p1 k1 hr1 rx => ?_⟩
  exact⟨_,fV rx,k μ1 H1 p1 k1 hr1⟩
 ·cases e
theorem Lv {t:TE}{m:ME}{Q:Bool->Hp->Prop} (ht : ∀ Q,tM K m σ H Q->t σ H Q) (h:tMT K (cOf m) σ H Q):tB t σ H Q:=wX ht h
theorem JF {a b:MT}{Q:Bool->Hp->Prop} (h:tMT K (qQ a b) σ H Q):L2.IX (tMT K a) (tMT K b) σ H Q:=by
 obtain⟨μ,S,ρ,c,S',hr,er,e,k⟩:=h
 obtain⟨x,S1,e1,e⟩:=aQ e
 refine⟨μ,S,ρ,x,S1,hr,er,e1,fun μ1 H1 p1 k1 hr1 => ?_⟩
 cases x with
 | true=>exact nT ⟨μ1,S1,ρ,c,S',hr1,er.mono k1 p1,e,fun μ2 H2 p2 k2=>k μ2 H2 (p1.trans p2) (k1.trans k2)⟩
 | false=>
   have e':some (false,S1)=some (c,S'):=e
   cases e'
   exact nr (k μ1 H1 p1 k1 hr1)
theorem LA {a b:MT}{Q:Bool->Hp->Prop} (h:tMT K (cOr a b) σ H Q):L2.tOr (tMT K a) (tMT K b) σ H Q:=by
 obtain⟨μ,S,ρ,c,S',hr,er,e,k⟩:=h
 obtain⟨x,S1,e1,e⟩:=aQ e
 refine⟨μ,S,ρ,x,S1,hr,er,e1,fun μ1 H1 p1 k1 hr1 => ?_⟩
 cases x with
 | true=>
   have e':some (true,S1)=some (c,S'):=e
   cases e'
   exact nT (k μ1 H1 p1 k1 hr1)
 | false=>exact nr ⟨μ1,S1,ρ,c,S',hr1,er.mono k1 p1,e,fun μ2 H2 p2 k2=>k μ2 H2 (p1.trans p2) (k1.trans k2)⟩
theorem Jv {a:MT}{Q:Bool->Hp->Prop} (h:tMT K (tW a) σ H Q):L2.J5 (tMT K a) σ H Q:=by
 obtain⟨μ,S,ρ,c,S',hr,er,e,k⟩:=h
 obtain⟨x,S1,e1,e⟩:=aQ e
 cases e
 exact⟨μ,S,ρ,x,_,hr,er,e1,fun μ1 H1 p1 k1 hr1=>k μ1 H1 p1 k1 hr1⟩
section
variable {D:Ends}
theorem BY (h:tMS K dh D σ H):A7 D σ H:=by
 obtain⟨μ,S,ρ,r,hr,er,e,k⟩:=h
 cases e
 exact k μ σ H (Pre.refl _) (bj.refl _) hr er
theorem Kj {a b:MS} (h:tMS K (aZ a b) D σ H):JJ (tMS K a) (tMS K b) D σ H:=by
 obtain⟨μ,S,ρ,r,hr,er,e,k⟩:=h
 unfold aZ at e
 split at e
 ·rename_i ρ1 S1 q
  refine⟨μ,S,ρ,_,hr,er,q,fun μ1 σ1 H1 p1 k1 hr1 er1 => ?_⟩
  exact⟨μ1,S1,ρ1,r,hr1,er1,e,k.mono p1 k1⟩
 ·rename_i q
  refine⟨μ,S,ρ,r,hr,er,e,?_⟩
  obtain⟨f,ρ',S'⟩:=r
  cases f with
  | nx=>exact absurd e (q ρ' S')
  | bk=>exact k
  | ct=>exact k
  | rt u=>exact k
theorem Fu {i:Nat}{m:ME} (h:tMS K (bA i m) D σ H):zX (tM K m) (iB i) D σ H:=by
 obtain⟨μ,S,ρ,r,hr,er,e,k⟩:=h
 obtain⟨x,S1,e1,e⟩:=aQ e
 cases e
 exact⟨μ,S,ρ,x,S1,hr,er,e1,fun μ1 vx H1 p1 k1 hr1 rx=>k μ1 _ H1 p1 k1 hr1 ((er.mono k1 p1).set rx i)⟩
noncomputable def K8:AJ:=fun o i v H Q => ∃ a H',o = .ref a/\zB H a i v H'/\Q H'
noncomputable def Bi:AJ:=fun o i v H Q=>FQ o i v H Q\/K8 o i v H Q
theorem Eo {X:Cx} (hu:X.A.units+1 < cLine):GQ X Bi:=by
 intro pins s σ H o i v ov iv u Q I ro ri rv h
 rcases h with h | ⟨a,H',rfl,g,q⟩
 ·exact set_list pins s σ H o i v ov iv u Q I ro ri rv h
 ·obtain rfl:ov=bc a:=ro
  exact Ac hu I g ri rv fun s4 I4=>⟨H',I4,q⟩
theorem Ew {o i m:ME} (h:tMS K (iX o i m) D σ H):zX (tM K m) (Ig (tM K o) (tM K i) Bi) D σ H:=by
 obtain⟨μ,S,ρ,r,hr,er,e,k⟩:=h
 obtain⟨x,S1,e1,e⟩:=aQ e
 obtain⟨p,S2,e2,e⟩:=aQ e
 obtain⟨j,S3,e3,e⟩:=aQ e
 cases p with
 | ref n=>
   simp only at e
   split at e
   ·rename_i us q
    split at e
    rotate_left
    ·cases e
    rename_i kk
    cases z:ixN us.length kk with
    | none=>rw [z] at e;cases e
    | some m'=>
      rw [z] at e;cases e
      refine⟨μ,S,ρ,x,S1,hr,er,e1,fun μ1 vx H1 p1 k1 hr1 rx => ?_⟩
      refine⟨μ1,S1,ρ,_,S2,hr1,er.mono k1 p1,e2,fun μ2 vo H2 p2 k2 hr2 ro => ?_⟩
      refine⟨μ2,S2,ρ,_,S3,hr2,er.mono (k1.trans k2) (p1.trans p2),e3,fun μ3 vi H3 p3 k3 hr3 ri => ?_⟩
      obtain⟨a,rfl,ha⟩:=dR ro
      have ha3:=p3.get ha
      obtain⟨vs,e0,r0⟩:=hr3.cell n _ a q ha3
      have rx3:RU H3 μ3 x vx:=RU.mono (k2.trans k3) (p2.trans p3) _ _ rx
      refine .inl ⟨a,vs,kk,m',rfl,cw ri,e0,by rw [<- r0.len];exact z,?_⟩
      have kw:bj H3 (upd H3 a (.lst (vs.set m' vx))):=bj.wr e0
      exact k μ3 _ _ (p1.trans (p2.trans p3)) (k1.trans (k2.trans (k3.trans kw))) (hr3.wr q ha3 (r0.set rx3 m')) (er.mono (k1.trans (k2.trans (k3.trans kw))) (p1.trans (p2.trans p3)))
   ·rename_i kvs q
    cases qk:keyOf j with
    | none=>rw [qk] at e;cases e
    | some kk=>
      rw [qk] at e
      simp only [ai] at e
      split at e
      ·rename_i hz
       cases e
       refine⟨μ,S,ρ,x,S1,hr,er,e1,fun μ1 vx H1 p1 k1 hr1 rx => ?_⟩
       refine⟨μ1,S1,ρ,_,S2,hr1,er.mono k1 p1,e2,fun μ2 vo H2 p2 k2 hr2 ro => ?_⟩
       refine⟨μ2,S2,ρ,_,S3,hr2,er.mono (k1.trans k2) (p1.trans p2),e3,fun μ3 vi H3 p3 k3 hr3 ri => ?_⟩
       obtain⟨a,rfl,ha⟩:=dR ro
       have ha3:=p3.get ha
       obtain⟨vs,e0,r0⟩:=hr3.cell n _ a q ha3
       have rx3:RU H3 μ3 x vx:=RU.mono (k2.trans k3) (p2.trans p3) _ _ rx
       have hl:kvs.length=vs.length:=by have:=r0.len;rwa [av] at this
       obtain⟨ws,ew,rw'⟩:=yS (k:=kk) rx3 r0
       have kw:bj H3 (upd H3 a (.dK (putK (dV kvs vs) kk vx))):=bj.wrG e0 fun _ z=>by cases z
       refine .inr ⟨a,_,rfl,.inl ⟨_,kk,e0,kZ ri qk,by rw [xp hl,sizeLine_eq];exact hz,rfl⟩,?_⟩
       exact k μ3 _ _ (p1.trans (p2.trans p3)) (k1.trans (k2.trans (k3.trans kw))) (hr3.wrC q ha3 rfl rfl ⟨ws,by rw [ew];exact cg,RUs.mono kw (Pre.refl _) _ _ rw'⟩) (er.mono (k1.trans (k2.trans (k3.trans kw))) (p1.trans (p2.trans p3)))
      ·cases e
   ·cases e
 | _=>cases e
theorem H9 {m:ME} (h:tMS K (df m) D σ H):Fg (tM K m) D σ H:=by
 obtain⟨μ,S,ρ,r,hr,er,e,k⟩:=h
 obtain⟨x,S1,e1,e⟩:=aQ e
 cases e
 exact⟨μ,S,ρ,x,S1,hr,er,e1,fun μ1 vx H1 p1 k1 hr1 rx=>k μ1 σ H1 p1 k1 hr1 (er.mono k1 p1)⟩
theorem Kg {m:ME} (h:tMS K (bV m) D σ H):IP (tM K m) D σ H:=by
 obtain⟨μ,S,ρ,r,hr,er,e,k⟩:=h
 obtain⟨x,S1,e1,e⟩:=aQ e
 cases e
 exact⟨μ,S,ρ,x,S1,hr,er,e1,k⟩
theorem LH {c:MT}{a b:MS} (h:tMS K (sIf c a b) D σ H):KY (tMT K c) (tMS K a) (tMS K b) D σ H:=by
 obtain⟨μ,S,ρ,r,hr,er,e,k⟩:=h
 obtain⟨x,S1,e1,e⟩:=aQ e
 refine⟨μ,S,ρ,x,S1,hr,er,e1,fun μ1 H1 p1 k1 hr1 => ?_⟩
 cases x with
 | true=>exact nT ⟨μ1,S1,ρ,r,hr1,er.mono k1 p1,e,k.mono p1 k1⟩
 | false=>exact nr ⟨μ1,S1,ρ,r,hr1,er.mono k1 p1,e,k.mono p1 k1⟩
theorem m7 {b:MS}{ρ:Rho}{S:Sto}{μ μ0:List Addr}{H0:Hp}{k:MS}{r:Fl×Rho×Sto}{N:St->Hp->Prop} (hr:HR K μ S H) (er:ER H μ ρ σ) (e:aft (b ρ S) k=some r) (p:Pre μ0 μ) (kp:bj H0 H) (fl:FlP K μ0 H0 D r)
  (hN : ∀ μ1 σ1 H1 ρ1 S1,Pre μ0 μ1->bj H0 H1->HR K μ1 S1 H1->ER H1 μ1 ρ1 σ1->k ρ1 S1=some r->N σ1 H1):tMS K b { D with nx:=N,ct:=N,bk:=D.nx } σ H:=by
 unfold aft at e
 split at e
 ·rename_i ρ1 S1 q
  exact⟨μ,S,ρ,_,hr,er,q,fun μ1 σ1 H1 p1 k1 hr1 er1=>hN μ1 σ1 H1 ρ1 S1 (p.trans p1) (kp.trans k1) hr1 er1 e⟩
 ·rename_i ρ1 S1 q
  exact⟨μ,S,ρ,_,hr,er,q,fun μ1 σ1 H1 p1 k1 hr1 er1=>hN μ1 σ1 H1 ρ1 S1 (p.trans p1) (kp.trans k1) hr1 er1 e⟩
 ·rename_i ρ1 S1 q
  cases e
  exact⟨μ,S,ρ,_,hr,er,q,fun μ1 σ1 H1 p1 k1 hr1 er1=>fl μ1 σ1 H1 (p.trans p1) (kp.trans k1) hr1 er1⟩
 ·rename_i q1 q2 q3
  refine⟨μ,S,ρ,r,hr,er,e,?_⟩
  obtain⟨f,ρ',S'⟩:=r
  cases f with
  | nx=>exact absurd e (q1 ρ' S')
  | ct=>exact absurd e (q2 ρ' S')
  | bk=>exact absurd e (q3 ρ' S')
  | rt u=>exact Aft.mono fl p kp
theorem drop_cons {α:Type}{l:List α}{i:Nat}{x:α} (h:l[i]? = some x):l.drop i=x::l.drop (i+1):=by
 obtain⟨hi,e⟩:=ah.mp h
 rw [xR hi,e]
theorem Ip {i:Nat}{b:MS}{us:List U}{vs:List V}{ρ:Rho}{S:Sto}{μ:List Addr}{a:Addr}{r:Fl×Rho×Sto} (hr:HR K μ S H) (er:ER H μ ρ σ) (e:oW i b us ρ S=some r) (fl:FlP K μ H D r) (ha:H a=some (.tup vs)) (ru:RUs H μ us vs) :
  ∃ W:Nat->Nat->St->Hp->Prop,(∃ m,W 0 m σ H) /\ ∀ k m σ H,W k m σ H ->
   ((Itt K a).stop k H/\D.nx σ H)\/((Itt K a).go k H /\ ∃ N:St->Hp->Prop,(∀ σ' H',N σ' H' -> ∃ m',m' < m/\W (k+1) m' σ' H') /\ ∀ x H',(Itt K a).yld k H x H'->iB i x σ H' fun σ2 H2=>tMS K b { D with nx:=N,ct:=N,bk:=D.nx } σ2 H2):=by
 refine EE (xs:=vs) (fun k σ1 H1 => ∃ μ1 S1 ρ1,Pre μ μ1/\bj H H1/\HR K μ1 S1 H1/\ER H1 μ1 ρ1 σ1/\oW i b (us.drop k) ρ1 S1=some r) ⟨μ,S,ρ,Pre.refl _,bj.refl _,hr,er,e⟩ ?_ ?_ ?_
 ·rintro k σ1 H1 _ ⟨μ1,S1,ρ1,p1,k1,_⟩
  exact .inl (.inl (k1 a vs ha))
 ·rintro k x σ1 H1 hx ⟨μ1,S1,ρ1,p1,k1,hr1,er1,e1⟩
  have hk:k < us.length:=by rw [ru.len];exact (ah.mp hx).1
  have hu:us[k]? = some us[k]:=by simp [hk]
  obtain⟨v,hv,rv⟩:=ru.get hu
  rw [hx] at hv;cases hv
  rw [drop_cons hu] at e1
  have rv1:RU H1 μ1 us[k] x:=RU.mono k1 p1 _ _ rv
  exact m7 hr1 (er1.set rv1 i) e1 p1 k1 fl fun μ2 σ2 H2 ρ2 S2 p2 k2 hr2 er2 e2=>⟨μ2,S2,ρ2,p2,k2,hr2,er2,e2⟩
 ·rintro σ1 H1 ⟨μ1,S1,ρ1,p1,k1,hr1,er1,e1⟩
  rw [<- ru.len,tw] at e1
  cases e1
  exact fl μ1 σ1 H1 p1 k1 hr1 er1
theorem AY {i:Nat}{b:MS}{lo:Int}{n:Nat}{ρ:Rho}{S:Sto}{μ:List Addr}{r:Fl×Rho×Sto} (hr:HR K μ S H) (er:ER H μ ρ σ) (e:oW i b (bo lo n) ρ S=some r) (fl:FlP K μ H D r) :
  ∃ W:Nat->Nat->St->Hp->Prop,(∃ m,W 0 m σ H) /\ ∀ k m σ H,W k m σ H ->
   ((Itr lo n).stop k H/\D.nx σ H)\/((Itr lo n).go k H /\ ∃ N:St->Hp->Prop,(∀ σ' H',N σ' H' -> ∃ m',m' < m/\W (k+1) m' σ' H') /\ ∀ x H',(Itr lo n).yld k H x H'->iB i x σ H' fun σ2 H2=>tMS K b { D with nx:=N,ct:=N,bk:=D.nx } σ2 H2):=by
 refine zp (fun k σ1 H1 => ∃ μ1 S1 ρ1,Pre μ μ1/\bj H H1/\HR K μ1 S1 H1/\ER H1 μ1 ρ1 σ1/\oW i b ((bo lo n).drop k) ρ1 S1=some r) ⟨μ,S,ρ,Pre.refl _,bj.refl _,hr,er,e⟩ ?_ ?_
 ·rintro k σ1 H1 hk ⟨μ1,S1,ρ1,p1,k1,hr1,er1,e1⟩
  have hu:(bo lo n)[k]? = some (.int (lo+k)):=by simp [bo,hk]
  rw [drop_cons hu] at e1
  exact m7 hr1 (er1.set eJ i) e1 p1 k1 fl fun μ2 σ2 H2 ρ2 S2 p2 k2 hr2 er2 e2=>⟨μ2,S2,ρ2,p2,k2,hr2,er2,e2⟩
 ·rintro σ1 H1 ⟨μ1,S1,ρ1,p1,k1,hr1,er1,e1⟩
  have hl:(bo lo n).length=n:=by simp [bo]
  rw [List.drop_eq_nil_of_le (by exact mQ (by assumption))] at e1
  cases e1
  exact fl μ1 σ1 H1 p1 k1 hr1 er1
theorem Gv {i:Nat}{b:MS}{n f:Nat}{ρ:Rho}{S:Sto}{μ:List Addr}{a:Addr}{r:Fl×Rho×Sto} (hr:HR K μ S H) (er:ER H μ ρ σ) (e:forL i b n f 0 ρ S=some r) (fl:FlP K μ H D r) (ha:μ[n]? = some a) :
  ∃ W:Nat->Nat->St->Hp->Prop,(∃ m,W 0 m σ H) /\ ∀ k m σ H,W k m σ H ->
   ((Itl K a).stop k H/\D.nx σ H)\/((Itl K a).go k H /\ ∃ N:St->Hp->Prop,(∀ σ' H',N σ' H' -> ∃ m',m' < m/\W (k+1) m' σ' H') /\ ∀ x H',(Itl K a).yld k H x H'->iB i x σ H' fun σ2 H2=>tMS K b { D with nx:=N,ct:=N,bk:=D.nx } σ2 H2):=by
 refine⟨fun k m σ1 H1 => ∃ μ1 S1 ρ1,Pre μ μ1/\bj H H1/\HR K μ1 S1 H1/\ER H1 μ1 ρ1 σ1/\forL i b n m k ρ1 S1=some r,⟨f,μ,S,ρ,Pre.refl _,bj.refl _,hr,er,e⟩,?_⟩
 rintro k m σ1 H1 ⟨μ1,S1,ρ1,p1,k1,hr1,er1,e1⟩
 cases m with
 | zero=>cases e1
 | succ m=>
   unfold forL at e1
   cases q:getL S1 n with
   | none=>rw [q] at e1;cases e1
   | some us=>
     rw [q] at e1
     simp only [ai] at e1
     obtain⟨a',vs,ha',hs,rs⟩:=hr1.sq q
     rw [p1.get ha] at ha';cases ha'
     cases z:us[k]? with
     | none=>
       rw [z] at e1
       cases e1
       refine .inl ⟨⟨vs,hs,?_⟩,fl μ1 σ1 H1 p1 k1 hr1 er1⟩
       rw [<- rs.len];exact j2.mp z
     | some u=>
       rw [z] at e1
       obtain⟨v,hv,rv⟩:=rs.get z
       refine .inr ⟨⟨vs,v,hs,hv⟩,fun σ2 H2 => ∃ μ2 S2 ρ2,Pre μ μ2/\bj H H2/\HR K μ2 S2 H2/\ER H2 μ2 ρ2 σ2/\forL i b n m (k+1) ρ2 S2=some r,fun σ' H' w=>⟨m,bw _,w⟩,fun x H' y => ?_⟩
       obtain⟨e',y⟩:=y
       subst e'
       have hx:=y vs hs
       rw [hv] at hx;cases hx
       exact m7 hr1 (er1.set rv i) e1 p1 k1 fl fun μ2 σ2 H2 ρ2 S2 p2 k2 hr2 er2 e2=>⟨μ2,S2,ρ2,p2,k2,hr2,er2,e2⟩
theorem Ek {c:MT}{b:MS} (h:tMS K (iA c b) D σ H):A0 (tMT K c) (tMS K b) D σ H:=by
 obtain⟨μ,S,ρ,r,hr,er,e,fl⟩:=h
 refine⟨fun m σ1 H1 => ∃ μ1 S1 ρ1,Pre μ μ1/\bj H H1/\HR K μ1 S1 H1/\ER H1 μ1 ρ1 σ1/\whl c b m ρ1 S1=some r,⟨fuel,μ,S,ρ,Pre.refl _,bj.refl _,hr,er,e⟩,?_⟩
 rintro m σ1 H1 ⟨μ1,S1,ρ1,p1,k1,hr1,er1,e1⟩
 cases m with
 | zero=>cases e1
 | succ m=>
   unfold whl at e1
   obtain⟨x,S2,e2,e1⟩:=aQ e1
   refine⟨μ1,S1,ρ1,x,S2,hr1,er1,e2,fun μ2 H2 p2 k2 hr2 => ?_⟩
   cases x with
   | true=>
     refine nT ⟨fun σ3 H3 => ∃ μ3 S3 ρ3,Pre μ μ3/\bj H H3/\HR K μ3 S3 H3/\ER H3 μ3 ρ3 σ3/\whl c b m ρ3 S3=some r,fun σ' H' w=>⟨m,bw _,w⟩,?_⟩
     exact m7 hr2 (er1.mono k2 p2) e1 (p1.trans p2) (k1.trans k2) fl fun μ3 σ3 H3 ρ3 S3 p3 k3 hr3 er3 e3=>⟨μ3,S3,ρ3,p3,k3,hr3,er3,e3⟩
   | false=>
     have e':some (Fl.nx,ρ1,S2)=some r:=e1
     cases e'
     exact nr (fl μ2 σ1 H2 (p1.trans p2) (k1.trans k2) hr2 (er1.mono k2 p2))
end
end
end G
end
section
namespace G
open PySem PySem.Spec L2
open PyProof.Rows hiding St
section
variable {K:KX}{σ:St}{H:Hp}{Q:VK}{D:Ends}
theorem FL {a:MA}{R:It->Hp->Prop}{μ:List Addr}{S S1:Sto}{ρ:Rho}{src:Src} (hr:HR K μ S H) (er:ER H μ ρ σ) (e:iR1 a ρ S=some (src,S1))
  (hR : ∀ μ1 H1 n,Pre μ μ1->bj H H1->HR K μ1 S1 H1->src = .imm (bo 0 n)->R (Itr 0 n) H1):uK (tMA K a) σ H R:=by
 obtain⟨xs,S2,e1,e⟩:=aQ e
 split at e
 ·rename_i j
  split at e
  ·rename_i hj
   cases e
   refine⟨μ,S,ρ,_,_,hr,er,e1,fun μ1 vs H1 p1 k1 hr1 rs => ?_⟩
   obtain⟨v,r,rfl,rx,rn⟩:=rs.inv
   rw [rn.nil_inv,cw rx]
   exact⟨j,rfl,hj.1,hj.2,hR μ1 H1 _ p1 k1 hr1 rfl⟩
  ·cases e
 ·cases e
theorem Fs {a:MA}{R:It->Hp->Prop}{μ:List Addr}{S S1:Sto}{ρ:Rho}{src:Src} (hr:HR K μ S H) (er:ER H μ ρ σ) (e:iR2 a ρ S=some (src,S1))
  (hR : ∀ μ1 H1 lo n,Pre μ μ1->bj H H1->HR K μ1 S1 H1->src = .imm (bo lo n)->R (Itr lo n) H1):uH (tMA K a) σ H R:=by
 obtain⟨xs,S2,e1,e⟩:=aQ e
 split at e
 ·rename_i i j
  split at e
  ·rename_i hj
   cases e
   refine⟨μ,S,ρ,_,_,hr,er,e1,fun μ1 vs H1 p1 k1 hr1 rs => ?_⟩
   obtain⟨v,r,rfl,rx,rs⟩:=rs.inv
   obtain⟨w,r,rfl,ry,rn⟩:=rs.inv
   rw [rn.nil_inv,cw rx,cw ry]
   exact⟨i,j,rfl,⟨hj.1.1,hj.1.2,hj.2.1,hj.2.2⟩,hR μ1 H1 _ _ p1 k1 hr1 rfl⟩
  ·cases e
 ·cases e
theorem xC {a:ME}{R:It->Hp->Prop}{μ:List Addr}{S S1:Sto}{ρ:Rho}{src:Src} (hr:HR K μ S H) (er:ER H μ ρ σ) (e:da a ρ S=some (src,S1))
  (hT : ∀ μ1 H1 us p vs,Pre μ μ1->bj H H1->HR K μ1 S1 H1->src = .imm us->H1 p=some (.tup vs)->RUs H1 μ1 us vs->R (Itt K p) H1)
  (hL : ∀ μ1 H1 n p,Pre μ μ1->bj H H1->HR K μ1 S1 H1->src = .mut n->μ1[n]? = some p->R (Itl K p) H1):sJ K (tM K a) σ H R\/zH K (tM K a) σ H R:=by
 obtain⟨x,S2,e1,e⟩:=aQ e
 split at e
 ·cases e
  refine .inr ⟨μ,S,ρ,_,_,hr,er,e1,fun μ1 vx H1 p1 k1 hr1 rx => ?_⟩
  obtain⟨p,vs,rfl,hp,r⟩:=fw rx
  exact⟨p,rfl,⟨vs,.inl (.inl hp)⟩,hT μ1 H1 _ p vs p1 k1 hr1 rfl hp r⟩
 ·rename_i n
  cases q:getL S2 n with
  | none=>rw [q] at e;cases e
  | some ws=>
    rw [q] at e;cases e
    refine .inl ⟨μ,S,ρ,_,_,hr,er,e1,fun μ1 vx H1 p1 k1 hr1 rx => ?_⟩
    obtain⟨p,rfl,hp⟩:=dR rx
    obtain⟨p',ys,hp',hs,r'⟩:=hr1.sq q
    rw [hp] at hp';cases hp'
    exact⟨p,rfl,⟨ys,hs⟩,hL μ1 H1 n p p1 k1 hr1 rfl hp⟩
 ·cases e
theorem K1 {i:Nat}{a:MA}{b:MS} (h:tMS K (eo i (iR1 a) b) D σ H):wK (uK (tMA K a)) (iB i) (tMS K b) D σ H:=by
 obtain⟨μ,S,ρ,r,hr,er,e,fl⟩:=h
 obtain⟨src,S1,e1,e⟩:=aQ e
 refine FL hr er e1 fun μ1 H1 n p1 k1 hr1 hs => ?_
 subst hs
 exact AY hr1 (er.mono k1 p1) e (fl.mono p1 k1)
theorem KW {i:Nat}{a:MA}{b:MS} (h:tMS K (eo i (iR2 a) b) D σ H):wK (uH (tMA K a)) (iB i) (tMS K b) D σ H:=by
 obtain⟨μ,S,ρ,r,hr,er,e,fl⟩:=h
 obtain⟨src,S1,e1,e⟩:=aQ e
 refine Fs hr er e1 fun μ1 H1 lo n p1 k1 hr1 hs => ?_
 subst hs
 exact AY hr1 (er.mono k1 p1) e (fl.mono p1 k1)
theorem Lr {i:Nat}{a:ME}{b:MS} (h:tMS K (eo i (da a) b) D σ H):wK (fun σ H R=>sJ K (tM K a) σ H R\/zH K (tM K a) σ H R) (iB i) (tMS K b) D σ H:=by
 obtain⟨μ,S,ρ,r,hr,er,e,fl⟩:=h
 obtain⟨src,S1,e1,e⟩:=aQ e
 refine xC hr er e1 (fun μ1 H1 us p vs p1 k1 hr1 hs hp rs => ?_) fun μ1 H1 n p p1 k1 hr1 hs hp => ?_
 ·subst hs
  exact Ip hr1 (er.mono k1 p1) e (fl.mono p1 k1) hp rs
 ·subst hs
  exact Gv hr1 (er.mono k1 p1) e (fl.mono p1 k1) hp
theorem oi {t:MT}{e:ME}{ρ:Rho} : ∀ {us acc ys:List U}{S S':Sto},gH t e ρ us acc S=some (ys,S')->acc.length<=ys.length
 | [],acc,ys,S,S',h=>by cases h;exact ak _
 | x::us,acc,ys,S,S',h=>by
   obtain⟨k,S1,e1,h⟩:=aQ h
   cases k with
   | true=>
     obtain⟨y,S2,e2,h⟩:=aQ (show bnd (e (ρ ++ [some x]) S1) (fun y S2=>gH t e ρ us (acc ++ [y]) S2)=some (ys,S') from h)
     have:=oi h
     simp at this;exact bG (by assumption)
   | false=>exact oi (show gH t e ρ us acc S1=some (ys,S') from h)
theorem oz {t:MT}{e:ME}{ρ:Rho}{n:Nat} : ∀ {f i:Nat}{acc ys:List U}{S S':Sto},kl t e ρ n f i acc S=some (ys,S')->acc.length<=ys.length
 | 0,i,acc,ys,S,S',h=>by cases h
 | f+1,i,acc,ys,S,S',h=>by
   unfold kl at h
   cases q:getL S n with
   | none=>rw [q] at h;cases h
   | some us=>
     rw [q] at h
     simp only [ai] at h
     cases z:us[i]? with
     | none=>rw [z] at h;cases h;exact ak _
     | some x=>
       rw [z] at h
       obtain⟨k,S1,e1,h⟩:=aQ h
       cases k with
       | true=>
         obtain⟨y,S2,e2,h⟩:=aQ (show bnd (e (ρ ++ [some x]) S1) (fun y S2=>kl t e ρ n f (i+1) (acc ++ [y]) S2)=some (ys,S') from h)
         have:=oz h
         simp at this;exact bG (by assumption)
       | false=>exact oz (show kl t e ρ n f (i+1) acc S1=some (ys,S') from h)
noncomputable def uI (J:It) (σ:St) (tt:TT) (te:TE) (H1:Hp) (Q:VK):Prop := ∃ W:Nat->Nat->List V->Hp->Prop,(∃ m,W 0 m [] H1) /\ ∀ i m ys H,W i m ys H->ys.length < sizeLine /\
 ((J.stop i H /\ ∀ D,H D=none->Q (.ref D) (upd H D (.lst ys))) \/
  (J.go i H /\ ∀ x H',J.yld i H x H'->tt (σ ++ [some x]) H' fun b H3=>if b=true then te (σ ++ [some x]) H3 fun y H4 => ∃ m',m' < m/\W (i+1) m' (ys ++ [y]) H4 else ∃ m',m' < m/\W (i+1) m' ys H3))
theorem qx {J:It}{t:MT}{e:ME}{ρ:Rho}{us ys:List U}{μ:List Addr}{S S':Sto} (hr:HR K μ S H) (er:ER H μ ρ σ) (h:gH t e ρ us [] S=some (ys,S')) (hz:ys.length < big) (k:Aft K μ H (.ref S'.length) (S' ++ [.lst ys]) Q)
  (hstop : ∀ H',bj H H'->J.stop us.length H') (hgo : ∀ (i:Nat) H',i < us.length->bj H H'->J.go i H')
  (hy : ∀ (i:Nat) H' x H'' (u:U),us[i]? = some u->bj H H'->J.yld i H' x H''->H''=H'/\RU H μ u x):uI J σ (tMT K t) (tM K e) H Q:=by
 have hz':ys.length < sizeLine:=by unfold big at hz;rw [sizeLine_eq];exact hz
 refine⟨fun i m acc H1=>m=us.length - i/\i<=us.length /\ ∃ μ1 S1 au,Pre μ μ1/\bj H H1/\HR K μ1 S1 H1/\RUs H1 μ1 au acc/\gH t e ρ (us.drop i) au S1=some (ys,S'),⟨_,rfl,dB _,μ,S,[],Pre.refl _,bj.refl _,hr,.nil,h⟩,?_⟩
 rintro i m acc H1 ⟨rfl,hi,μ1,S1,au,p1,k1,hr1,ra,e1⟩
 have hl:=oi e1
 have hl2:=ra.len
 refine⟨by omega,?_⟩
 by_cases hlt:i < us.length
 ·have hu:us[i]? = some us[i]:=by simp [hlt]
  rw [drop_cons hu] at e1
  obtain⟨b,S2,e2,e1⟩:=aQ e1
  refine .inr ⟨hgo i H1 hlt k1,fun x H' y => ?_⟩
  obtain⟨rfl,rx⟩:=hy i H1 x H' us[i] hu k1 y
  have er1:ER H' μ1 (ρ ++ [some us[i]]) (σ ++ [some x]):=(er.mono k1 p1).push (RU.mono k1 p1 _ _ rx)
  refine⟨μ1,S1,_,b,S2,hr1,er1,e2,fun μ2 H2 p2 k2 hr2 => ?_⟩
  have ra2:=RUs.mono k2 p2 _ _ ra
  cases b with
  | true=>
    obtain⟨y',S3,e3,e1⟩:=aQ (show bnd (e (ρ ++ [some us[i]]) S2) (fun y S2=>gH t e ρ (us.drop (i+1)) (au ++ [y]) S2)=some (ys,S') from e1)
    refine nT ⟨μ2,S2,_,y',S3,hr2,er1.mono k2 p2,e3,fun μ3 v3 H3 p3 k3 hr3 rv3 => ?_⟩
    exact⟨us.length - (i+1),by omega,rfl,hlt,μ3,S3,au ++ [y'],p1.trans (p2.trans p3),k1.trans (k2.trans k3),hr3,(RUs.mono k3 p3 _ _ ra2).append (.cons rv3 .nil),e1⟩
  | false=>
    exact nr ⟨us.length - (i+1),by omega,rfl,hlt,μ2,S2,au,p1.trans p2,k1.trans k2,hr2,ra2,e1⟩
 ·have e:i=us.length:=by omega
  subst e
  rw [tw] at e1
  cases e1
  exact .inl ⟨hstop H1 k1,fun D hD=>iF (k.mono p1 k1) hr1 ra hD⟩
theorem B8 {t:MT}{e:ME}{ρ:Rho}{n f:Nat}{ys:List U}{μ:List Addr}{S S':Sto}{p:Addr} (hr:HR K μ S H) (er:ER H μ ρ σ) (h:kl t e ρ n f 0 [] S=some (ys,S')) (hz:ys.length < big) (k:Aft K μ H (.ref S'.length) (S' ++ [.lst ys]) Q)
  (hp:μ[n]? = some p):uI (Itl K p) σ (tMT K t) (tM K e) H Q:=by
 have hz':ys.length < sizeLine:=by unfold big at hz;rw [sizeLine_eq];exact hz
 refine⟨fun i m acc H1 => ∃ μ1 S1 au,Pre μ μ1/\bj H H1/\HR K μ1 S1 H1/\RUs H1 μ1 au acc/\kl t e ρ n m i au S1=some (ys,S'),⟨f,μ,S,[],Pre.refl _,bj.refl _,hr,.nil,h⟩,?_⟩
 rintro i m acc H1 ⟨μ1,S1,au,p1,k1,hr1,ra,e1⟩
 have hl:=oz e1
 have hl2:=ra.len
 refine⟨by omega,?_⟩
 cases m with
 | zero=>cases e1
 | succ m=>
   unfold kl at e1
   cases q:getL S1 n with
   | none=>rw [q] at e1;cases e1
   | some us=>
     rw [q] at e1
     simp only [ai] at e1
     obtain⟨a',vs,ha',hs,rs⟩:=hr1.sq q
     rw [p1.get hp] at ha';cases ha'
     cases z:us[i]? with
     | none=>
       rw [z] at e1
       cases e1
       exact .inl ⟨⟨vs,hs,by rw [<- rs.len];exact j2.mp z⟩,fun D hD=>iF (k.mono p1 k1) hr1 ra hD⟩
     | some u=>
       rw [z] at e1
       obtain⟨v,hv,rv⟩:=rs.get z
       obtain⟨b,S2,e2,e1⟩:=aQ e1
       refine .inr ⟨⟨vs,v,hs,hv⟩,fun x H' y => ?_⟩
       obtain⟨e',y⟩:=y
       subst e'
       have hx:=y vs hs
       rw [hv] at hx;cases hx
       have er1:ER _ μ1 (ρ ++ [some u]) (σ ++ [some v]):=(er.mono k1 p1).push rv
       refine⟨μ1,S1,_,b,S2,hr1,er1,e2,fun μ2 H2 p2 k2 hr2 => ?_⟩
       have ra2:=RUs.mono k2 p2 _ _ ra
       cases b with
       | true=>
         obtain⟨y',S3,e3,e1⟩:=aQ (show bnd (e (ρ ++ [some u]) S2) (fun y S2=>kl t e ρ n m (i+1) (au ++ [y]) S2)=some (ys,S') from e1)
         refine nT ⟨μ2,S2,_,y',S3,hr2,er1.mono k2 p2,e3,fun μ3 v3 H3 p3 k3 hr3 rv3 => ?_⟩
         exact⟨m,bw _,μ3,S3,au ++ [y'],p1.trans (p2.trans p3),k1.trans (k2.trans k3),hr3,(RUs.mono k3 p3 _ _ ra2).append (.cons rv3 .nil),e1⟩
       | false=>
         exact nr ⟨m,bw _,μ2,S2,au,p1.trans p2,k1.trans k2,hr2,ra2,e1⟩
theorem uJ {lo:Int}{n:Nat}{t:MT}{e:ME}{ρ:Rho}{ys:List U}{μ:List Addr}{S S':Sto} (hr:HR K μ S H) (er:ER H μ ρ σ) (h:gH t e ρ (bo lo n) [] S=some (ys,S')) (hz:ys.length < big) (k:Aft K μ H (.ref S'.length) (S' ++ [.lst ys]) Q) :
  uI (Itr lo n) σ (tMT K t) (tM K e) H Q:=by
 have hl:(bo lo n).length=n:=by simp [bo]
 refine qx hr er h hz k (fun H' _=>by rw [hl];exact ak _) (fun i H' hi _=>by rw [hl] at hi;exact hi) fun i H' x H'' u hu _ y => ?_
 obtain⟨rfl,rfl⟩:=y
 have hi:i < n:=by rw [<- hl];exact (ah.mp hu).1
 have e2:(bo lo n)[i]? = some (.int (lo+i)):=by simp [bo,hi]
 rw [e2] at hu;cases hu
 exact⟨rfl,eJ⟩
theorem Cp {us:List U}{vs:List V}{p:Addr}{t:MT}{e:ME}{ρ:Rho}{ys:List U}{μ:List Addr}{S S':Sto} (hr:HR K μ S H) (er:ER H μ ρ σ) (h:gH t e ρ us [] S=some (ys,S')) (hz:ys.length < big) (k:Aft K μ H (.ref S'.length) (S' ++ [.lst ys]) Q)
  (hp:H p=some (.tup vs)) (rs:RUs H μ us vs):uI (Itt K p) σ (tMT K t) (tM K e) H Q:=by
 refine qx hr er h hz k (fun H' kp=>⟨vs,.inl (.inl (kp p vs hp)),by rw [rs.len];exact ak _⟩) (fun i H' hi kp => ?_) fun i H' x H'' u hu kp y => ?_
 ·have hi':i < vs.length:=by rw [<- rs.len];exact hi
  exact⟨vs,vs[i],.inl (.inl (kp p vs hp)),by simp [hi']⟩
 ·obtain⟨rfl,y⟩:=y
  obtain⟨v,hv,rv⟩:=rs.get hu
  have:=y vs (.inl (.inl (kp p vs hp)))
  rw [hv] at this;cases this
  exact⟨rfl,rv⟩
theorem KZ {a:MA}{t:MT}{e:ME} (h:tM K (bZ (iR1 a) t e) σ H Q):nM (uK (tMA K a)) (tMT K t) (tM K e) σ H Q:=by
 obtain⟨μ,S,ρ,u,S',hr,er,e0,k⟩:=h
 obtain⟨src,S1,e1,e0⟩:=aQ e0
 obtain⟨ys,S2,e2,e0⟩:=aQ e0
 split at e0
 ·rename_i hz
  cases e0
  refine FL hr er e1 fun μ1 H1 n p1 k1 hr1 hs => ?_
  subst hs
  exact uJ hr1 (er.mono k1 p1) e2 hz (k.mono p1 k1)
 ·cases e0
theorem KS {a:MA}{t:MT}{e:ME} (h:tM K (bZ (iR2 a) t e) σ H Q):nM (uH (tMA K a)) (tMT K t) (tM K e) σ H Q:=by
 obtain⟨μ,S,ρ,u,S',hr,er,e0,k⟩:=h
 obtain⟨src,S1,e1,e0⟩:=aQ e0
 obtain⟨ys,S2,e2,e0⟩:=aQ e0
 split at e0
 ·rename_i hz
  cases e0
  refine Fs hr er e1 fun μ1 H1 lo n p1 k1 hr1 hs => ?_
  subst hs
  exact uJ hr1 (er.mono k1 p1) e2 hz (k.mono p1 k1)
 ·cases e0
theorem Lu {a:ME}{t:MT}{e:ME} (h:tM K (bZ (da a) t e) σ H Q):nM (fun σ H R=>sJ K (tM K a) σ H R\/zH K (tM K a) σ H R) (tMT K t) (tM K e) σ H Q:=by
 obtain⟨μ,S,ρ,u,S',hr,er,e0,k⟩:=h
 obtain⟨src,S1,e1,e0⟩:=aQ e0
 obtain⟨ys,S2,e2,e0⟩:=aQ e0
 split at e0
 ·rename_i hz
  cases e0
  refine xC hr er e1 (fun μ1 H1 us p vs p1 k1 hr1 hs hp rs => ?_) fun μ1 H1 n p p1 k1 hr1 hs hp => ?_
  ·subst hs
   exact Cp hr1 (er.mono k1 p1) e2 hz (k.mono p1 k1) hp rs
  ·subst hs
   exact B8 hr1 (er.mono k1 p1) e2 hz (k.mono p1 k1) hp
 ·cases e0
end
end G
end
section
namespace G
open PySem PySem.Spec L2
open PyProof.Rows hiding St
section
variable {K:KX}{σ:St}{H:Hp}{Q:VK}{D:Ends}
theorem RUs.revs {H:Hp}{μ:List Addr} : ∀ {us:List U}{vs:List V},RUs H μ us vs->RUs H μ us.reverse vs.reverse
 | [],vs,r=>by rw [r.nil_inv];exact .nil
 | u::us,vs,r=>by
   obtain⟨v,vs,rfl,a,b⟩:=r.inv
   rw [dD,dD]
   exact (RUs.revs b).append (.cons a .nil)
theorem BL {a:MA}{R:It->Hp->Prop}{μ:List Addr}{S S1:Sto}{ρ:Rho}{src:Src} (hr:HR K μ S H) (er:ER H μ ρ σ) (e:vb a ρ S=some (src,S1))
  (hR : ∀ μ1 H1 us p vs,Pre μ μ1->bj H H1->HR K μ1 S1 H1->src = .imm us.reverse->H1 p=some (.tup vs)->RUs H1 μ1 us vs->R (Itv K p vs.length) H1):vN K (tMA K a) σ H R:=by
 obtain⟨xs,S2,e1,e⟩:=aQ e
 split at e
 ·rename_i us
  cases e
  refine⟨μ,S,ρ,_,_,hr,er,e1,fun μ1 vs H1 p1 k1 hr1 rs => ?_⟩
  obtain⟨v,r,rfl,rx,rn⟩:=rs.inv
  rw [rn.nil_inv]
  obtain⟨p,vs,rfl,hp,r⟩:=fw rx
  exact⟨p,vs,rfl,.inl (.inl hp),hR μ1 H1 _ p vs p1 k1 hr1 rfl hp r⟩
 ·cases e
theorem BZ {us:List U}{vs:List V}{p:Addr}{t:MT}{e:ME}{ρ:Rho}{ys:List U}{μ:List Addr}{S S':Sto} (hr:HR K μ S H) (er:ER H μ ρ σ) (h:gH t e ρ us.reverse [] S=some (ys,S')) (hz:ys.length < big) (k:Aft K μ H (.ref S'.length) (S' ++ [.lst ys]) Q)
  (hp:H p=some (.tup vs)) (rs:RUs H μ us vs):uI (Itv K p vs.length) σ (tMT K t) (tM K e) H Q:=by
 have rr:=rs.revs
 have hl:=rr.len
 refine qx hr er h hz k (fun H' kp=>⟨vs,.inl (.inl (kp p vs hp)),rfl,by rw [hl,cQ];exact ak _⟩) (fun i H' hi kp => ?_) fun i H' x H'' u hu kp y => ?_
 ·have hi':i < vs.reverse.length:=by rw [<- hl];exact hi
  exact⟨vs,vs.reverse[i],.inl (.inl (kp p vs hp)),rfl,bU hi'⟩
 ·obtain⟨rfl,y⟩:=y
  obtain⟨v,hv,rv⟩:=rr.get hu
  have:=y vs (.inl (.inl (kp p vs hp)))
  rw [hv] at this;cases this
  exact⟨rfl,rv⟩
theorem GZ {a:MA}{t:MT}{e:ME} (h:tM K (bZ (vb a) t e) σ H Q):nM (vN K (tMA K a)) (tMT K t) (tM K e) σ H Q:=by
 obtain⟨μ,S,ρ,u,S',hr,er,e0,k⟩:=h
 obtain⟨src,S1,e1,e0⟩:=aQ e0
 obtain⟨ys,S2,e2,e0⟩:=aQ e0
 split at e0
 ·rename_i hz
  cases e0
  refine BL hr er e1 fun μ1 H1 us p vs p1 k1 hr1 hs hp rs => ?_
  subst hs
  exact BZ hr1 (er.mono k1 p1) e2 hz (k.mono p1 k1) hp rs
 ·cases e0
theorem BG {i:Nat}{b:MS}{us:List U}{vs:List V}{ρ:Rho}{S:Sto}{μ:List Addr}{a:Addr}{r:Fl×Rho×Sto} (hr:HR K μ S H) (er:ER H μ ρ σ) (e:oW i b us.reverse ρ S=some r) (fl:FlP K μ H D r) (ha:H a=some (.tup vs)) (ru:RUs H μ us vs) :
  ∃ W:Nat->Nat->St->Hp->Prop,(∃ m,W 0 m σ H) /\ ∀ k m σ H,W k m σ H ->
   ((Itv K a vs.length).stop k H/\D.nx σ H)\/((Itv K a vs.length).go k H /\ ∃ N:St->Hp->Prop,(∀ σ' H',N σ' H' -> ∃ m',m' < m/\W (k+1) m' σ' H') /\ ∀ x H',(Itv K a vs.length).yld k H x H'->iB i x σ H' fun σ2 H2=>tMS K b { D with nx:=N,ct:=N,bk:=D.nx } σ2 H2):=by
 have rr:=ru.revs
 refine⟨fun k m σ1 H1=>m+k=us.reverse.length /\ ∃ μ1 S1 ρ1,Pre μ μ1/\bj H H1/\HR K μ1 S1 H1/\ER H1 μ1 ρ1 σ1/\oW i b (us.reverse.drop k) ρ1 S1=some r,⟨us.reverse.length,rfl,μ,S,ρ,Pre.refl _,bj.refl _,hr,er,e⟩,?_⟩
 rintro k m σ1 H1 ⟨hm,μ1,S1,ρ1,p1,k1,hr1,er1,e1⟩
 have hq:SqT K H1 a vs := .inl (.inl (k1 a vs ha))
 cases m with
 | zero=>
   have hk:k=us.reverse.length:=by omega
   subst hk
   rw [tw] at e1
   cases e1
   exact .inl ⟨⟨vs,hq,rfl,by rw [rr.len,cQ];exact ak _⟩,fl μ1 σ1 H1 p1 k1 hr1 er1⟩
 | succ m=>
   have hk:k < us.reverse.length:=by omega
   have hu:us.reverse[k]? = some us.reverse[k]:=bU hk
   obtain⟨v,hv,rv⟩:=rr.get hu
   rw [drop_cons hu] at e1
   refine .inr ⟨⟨vs,v,hq,rfl,hv⟩,fun σ2 H2 => ∃ μ2 S2 ρ2,Pre μ μ2/\bj H H2/\HR K μ2 S2 H2/\ER H2 μ2 ρ2 σ2/\oW i b (us.reverse.drop (k+1)) ρ2 S2=some r,fun σ' H' w=>⟨m,bw _,by omega,w⟩,fun x H' y => ?_⟩
   obtain⟨e',y⟩:=y
   subst e'
   have hx:=y vs hq
   rw [hv] at hx;cases hx
   exact m7 hr1 (er1.set (RU.mono k1 p1 _ _ rv) i) e1 p1 k1 fl fun μ2 σ2 H2 ρ2 S2 p2 k2 hr2 er2 e2=>⟨μ2,S2,ρ2,p2,k2,hr2,er2,e2⟩
theorem Gu {i:Nat}{a:MA}{b:MS} (h:tMS K (eo i (vb a) b) D σ H):wK (vN K (tMA K a)) (iB i) (tMS K b) D σ H:=by
 obtain⟨μ,S,ρ,r,hr,er,e,fl⟩:=h
 obtain⟨src,S1,e1,e⟩:=aQ e
 refine BL hr er e1 fun μ1 H1 us p vs p1 k1 hr1 hs hp rs => ?_
 subst hs
 exact BG hr1 (er.mono k1 p1) e (fl.mono p1 k1) hp rs
end
end G
end
section
namespace G
open PySem PySem.Spec L2
open PyProof.Rows hiding St
theorem PE.con {X:Cx}{e:Expr}{t t':TE} (h:PE X e t) (hm : ∀ σ H Q,t' σ H Q->t σ H Q):PE X e t':=fun pins s σ H Q I q=>h pins s σ H Q I (hm σ H Q q)
theorem PT.con {X:Cx}{e:Expr}{t t':TT} (h:PT X e t) (hm : ∀ σ H Q,t' σ H Q->t σ H Q):PT X e t':=fun pins s σ H Q I q=>h pins s σ H Q I (hm σ H Q q)
theorem PW.con {X:Cx}{e:Expr}{t t':TT} (h:PW X e t) (hm : ∀ σ H Q,t' σ H Q->t σ H Q):PW X e t':=fun wh pins s σ H Q I q=>h wh pins s σ H Q I (hm σ H Q q)
theorem PA.con {X:Cx}{e:List Expr}{t t':TA} (h:PA X e t) (hm : ∀ σ H Q,t' σ H Q->t σ H Q):PA X e t':=fun pos pins s σ H Q I q=>h pos pins s σ H Q I (hm σ H Q q)
theorem PS.con {X:Cx}{e:Stmt}{t t':TS} (h:PS X e t) (hm : ∀ D σ H,t' D σ H->t D σ H):PS X e t':=fun pins s σ H D I q=>h pins s σ H D I (hm D σ H q)
theorem PSs.con {X:Cx}{e:List Stmt}{t t':TS} (h:PSs X e t) (hm : ∀ D σ H,t' D σ H->t D σ H):PSs X e t':=fun pins s σ H D I q=>h pins s σ H D I (hm D σ H q)
theorem PTs.con {X:Cx}{e:List Expr}{t t':TT} (h:PTs X e t) (hm : ∀ σ H Q,t' σ H Q->t σ H Q):PTs X e t':=fun pins s σ H Q I q=>h pins s σ H Q I (hm σ H Q q)
theorem PI.or {X:Cx}{tg it:Expr}{w1 w2:TI} (h1:PI X tg it w1) (h2:PI X tg it w2):PI X tg it (fun σ H R=>w1 σ H R\/w2 σ H R):=fun pins s σ H R I q=>by
 rcases q with q | q
 ·exact h1 pins s σ H R I q
 ·exact h2 pins s σ H R I q
structure Mo where
 P:Program
 w:World
 K:KX
 mg:Str->Option Value
 base:Heap
 mkr:Option (Addr×Str)
noncomputable def rO (ns:List (Str×NameKind)) (x:Str):Bool:=match ns.lookup x with
 | some .local=>true
 | some .cell=>true
 | some .free=>true
 | _=>false
noncomputable def qU (ns:List (Str×NameKind)) (x:Str):Bool:=match ns.lookup x with
 | some .local=>true
 | some .cell=>true
 | _=>false
noncomputable def eC (ns:List (Str×NameKind)) (x:Str):Bool:=match ns.lookup x with
 | some .globalImplicit=>true
 | _=>false
structure Sc (M:Mo) (X:Cx) (k:Nat) (N:List Str) (ns:List (Str×NameKind)):Prop where
 hP:X.prog=M.P
 hw:X.w=M.w
 hK:X.K=M.K
 hm:X.mg=M.mg
 hb:X.base=M.base
 hN:X.N=N
 nd:N.Nodup
 calm:X.calm=true
 loc : ∀ y,ns.lookup y=some .local->X.env.scope.names.lookup y=some .local
 cel : ∀ y,ns.lookup y=some .cell->X.env.scope.names.lookup y=some .cell/\X.fn y=true
 fre : ∀ y,ns.lookup y=some .free->X.env.scope.names.lookup y=some .cell\/X.env.scope.names.lookup y=some .free
 glo : ∀ y,ns.lookup y=some .globalImplicit->X.env.scope.names.lookup y=some .globalImplicit
 room:jD k X.A
 own:PassesOwn (model X.prog X.w) X.A X.env X.xe
 cod : ∀ c q,M.mkr=some (c,q)->X.env.code = .ref c/\X.env.qual=q
section
variable {M:Mo}{X:Cx}{k:Nat}{N:List Str}{ns:List (Str×NameKind)}
theorem Sc.vis (S:Sc M X k N ns) {x:Str} (h:rO ns x=true):Vis X.env.scope x:=by
 unfold rO at h
 split at h
 ·rename_i e;exact .inl (S.loc x e)
 ·rename_i e;exact .inr (.inl (S.cel x e).1)
 ·rename_i e;exact .inr (S.fre x e)
 ·cases h
theorem Sc.lo (S:Sc M X k N ns) {x:Str} (h:qU ns x=true):Loc X.env.scope x/\(X.fn x=true\/X.env.scope.names.lookup x=some .local):=by
 unfold qU at h
 split at h
 ·rename_i e;exact⟨.inl (S.loc x e),.inr (S.loc x e)⟩
 ·rename_i e;exact⟨.inr (S.cel x e).1,.inl (S.cel x e).2⟩
 ·cases h
theorem Sc.gl (S:Sc M X k N ns) {x:Str} (h:eC ns x=true):Gl X x:=by
 unfold eC at h
 split at h
 ·rename_i e;exact S.glo x e
 ·cases h
variable {a b c e:Expr}{es:List Expr}{ma mb mc:ME}{mt:MT}{mas:MA}{pos p1 p2:Pos}{x:Str}
theorem Ku (S:Sc M X k N ns) (i:Nat) (hi:N[i]? = some x) (hv:rO ns x=true) (hd:(x == ("__debug__":Str))=false) (hcd:(x == ("__classdict__":Str))=false):PE X (.Name x pos) (tM M.K (ab i)):=
 PE.con (AH (by rw [S.hN];exact hi) (S.vis hv) hd hcd) fun _ _ _ h=>IK h
theorem Ld {i:Int}{j}:PE X (.Constant (.int i) j pos) (tM M.K (mC (.int i))):=PE.con Ci fun _ _ _ h=>r_c (fun _ _=>eJ) h
theorem LK {i:Bool}{j}:PE X (.Constant (.bool i) j pos) (tM M.K (mC (.bl i))):=PE.con J7 fun _ _ _ h=>r_c (fun _ _=>dX) h
theorem IJ {j}:PE X (.Constant .none j pos) (tM M.K (mC .non)):=PE.con FY fun _ _ _ h=>r_c (fun _ _=>oG) h
theorem HS {u:U}{v:V}{g:Value} (S:Sc M X k N ns) (hg:eC ns x=true) (hm:M.mg x=some g) (r:RelV v g) (hv : ∀ H μ,RU H μ u v) (hd:(x == ("__debug__":Str))=false):PE X (.Name x pos) (tM M.K (mC u)):=
 PE.con (DT (S.gl hg) (by rw [S.hm];exact hm) r hd) fun _ _ _ h=>r_c hv h
theorem K7 (S:Sc M X k N ns) (ha:PE X a (tM M.K ma)) (hb:PE X b (tM M.K mb)):PE X (.BinOp a .Add b pos) (tM M.K (m2 bW ma mb)):=
 PE.con (si (Gx.or (OpR.or (S.hK▸En) (OpR.or (S.hK▸ET) Iv))) ha hb) fun _ _ _ h=>uw Iz h
theorem KI (ha:PE X a (tM M.K ma)) (hb:PE X b (tM M.K mb)):PE X (.BinOp a .Sub b pos) (tM M.K (m2 mm ma mb)):=PE.con (si FU ha hb) fun _ _ _ h=>uw Hq h
theorem J3 (S:Sc M X k N ns) (ha:PE X a (tM M.K ma)) (hb:PE X b (tM M.K mb)):PE X (.BinOp a .Mult b pos) (tM M.K (m2 fZ ma mb)):=PE.con (si (F7.or (S.hK▸Dv)) ha hb) fun _ _ _ h=>uw Ib h
theorem KN (ha:PE X a (tM M.K ma)) (hb:PE X b (tM M.K mb)):PE X (.BinOp a .FloorDiv b pos) (tM M.K (m2 oDiv ma mb)):=PE.con (si Dr ha hb) fun _ _ _ h=>uw HI h
theorem IM (ha:PE X a (tM M.K ma)) (hb:PE X b (tM M.K mb)):PE X (.BinOp a .Mod b pos) (tM M.K (m2 oMod ma mb)):=PE.con (si HM ha hb) fun _ _ _ h=>uw HU h
theorem IY (ha:PE X a (tM M.K ma)) (hb:PE X b (tM M.K mb)):PE X (.BinOp a .Pow b pos) (tM M.K (m2 ua ma mb)):=PE.con (si FW ha hb) fun _ _ _ h=>uw IA h
theorem JP (ha:PE X a (tM M.K ma)):PE X (.UnaryOp .USub a pos) (tM M.K (m1 eW ma)):=PE.con (FB BQ ha) fun _ _ _ h=>Lx Ih h
theorem Lo (S:Sc M X k N ns) (ha:PE X a (tM M.K ma)) (hb:PE X b (tM M.K mb)) (hs:um b):PE X (.Subscript a b pos) (tM M.K (m2 oIx ma mb)):=
 PE.con (Kx (IxR.or (S.hK▸Hu) (F4 (by have:=S.room.units;omega))) ha hb hs) fun _ _ _ h=>uw Kn h
theorem Lj:PA X [] (tMA M.K af):=PA.con oA fun _ _ _ h=>Jb h
theorem Gc (ha:PE X a (tM M.K ma)) (hr:PA X es (tMA M.K mas)) (hs:starEach (a::es) X.env=(false,eval a X.env)::starEach es X.env:=by rfl):PA X (a::es) (tMA M.K (aa ma mas)):=
 PA.con (jQ ha hr hs) fun _ _ _ h=>GN h
theorem JB {x1} (h:PA X es (tMA M.K mas)):PE X (.Tuple es x1 pos) (tM M.K (cK mas)):=PE.con (Hk h) fun _ _ _ h=>IQ h
theorem Jr (h:PA X es (tMA M.K mas)):PE X (.List es pos) (tM M.K (cM mas)):=PE.con (Gz h) fun _ _ _ h=>Ji h
theorem Jl (ha:PT X a (tMT M.K mt)) {mt':MT} (hb:PW X (.BoolOp .And (b::es) pos) (tMT M.K mt')):PW X (.BoolOp .And (a::b::es) pos) (tMT M.K (qQ mt mt')):=PW.con (Hm ha hb) fun _ _ _ h=>JF h
theorem LO (ha:PT X a (tMT M.K mt)) {mt':MT} (hb:PW X (.BoolOp .Or (b::es) pos) (tMT M.K mt')):PW X (.BoolOp .Or (a::b::es) pos) (tMT M.K (cOr mt mt')):=PW.con (I0 ha hb) fun _ _ _ h=>LA h
theorem Ga (ha:PT X a (tMT M.K mt)):PW X (.BoolOp .And [a] pos) (tMT M.K mt):=EB ha
theorem K3 (ha:PT X a (tMT M.K mt)):PW X (.BoolOp .Or [a] pos) (tMT M.K mt):=HN ha
theorem IU (ha:PT X a (tMT M.K mt)):PT X (.UnaryOp .Not a pos) (tMT M.K (tW mt)):=PT.con (HP ha) fun _ _ _ h=>Jv h
theorem Kl (ha:PE X a (tM M.K ma)) (he : ∀ whole,isTrue a X.env whole=(do let v <- whole;standAt a.pos;holding [v] (truthy v)):=by intro _;rfl):PT X a (tMT M.K (cOf ma)):=PT.con (GF ha he) fun _ _ _ h=>Lv (fun _ q=>q) h
theorem A8 (S:Sc M X k N ns) (hg:eC ns "len"=true) (hm:M.mg "len"=none) (ha:PA X (e::es) (tMA M.K mas)) (he:starEach (e::es) X.env=(false,eval e X.env)::starEach es X.env:=by rfl) (hpl:(backTo pos (starEach es X.env)).any (·.1)=false:=by rfl) :
  PE X (.Call (.Name "len" p1) (e::es) [] pos) (tM M.K (mFn bF mas)):=
 PE.con (jx (gO.or (S.hK▸uk) zr) (S.gl hg) (by rw [S.hm];exact hm) PySem.boot_len ha (by decide) (by decide) he hpl) fun _ _ _ h=>z0 Hy h
theorem EY (S:Sc M X k N ns) (hg:eC ns "tuple"=true) (hm:M.mg "tuple"=none) (ha:PA X (e::es) (tMA M.K mas)) (he:starEach (e::es) X.env=(false,eval e X.env)::starEach es X.env:=by rfl) (hpl:(backTo pos (starEach es X.env)).any (·.1)=false:=by rfl) :
  PE X (.Call (.Name "tuple" p1) (e::es) [] pos) (tM M.K (mFn bD mas)):=
 PE.con (jA (S.hK▸rR) (S.gl hg) (by rw [S.hm];exact hm) jq ha (by decide) (by decide) he hpl) fun _ _ _ h=>z0 B3 h
theorem ID (S:Sc M X k N ns) (hg:eC ns "max"=true) (hm:M.mg "max"=none) (ha:PA X (e::es) (tMA M.K mas)) (he:starEach (e::es) X.env=(false,eval e X.env)::starEach es X.env:=by rfl) (hpl:(backTo pos (starEach es X.env)).any (·.1)=false:=by rfl) :
  PE X (.Call (.Name "max" p1) (e::es) [] pos) (tM M.K (mFn vd mas)):=
 PE.con (jx (zu S.calm) (S.gl hg) (by rw [S.hm];exact hm) PyProof.Rows.boot_max ha (by decide) (by decide) he hpl) fun _ _ _ h=>z0 HF h
theorem Jg (S:Sc M X k N ns) (hg:eC ns "min"=true) (hm:M.mg "min"=none) (ha:PA X (e::es) (tMA M.K mas)) (he:starEach (e::es) X.env=(false,eval e X.env)::starEach es X.env:=by rfl) (hpl:(backTo pos (starEach es X.env)).any (·.1)=false:=by rfl) :
  PE X (.Call (.Name "min" p1) (e::es) [] pos) (tM M.K (mFn oY mas)):=
 PE.con (jx (S.hK▸zV S.calm (by have:=S.room.units;assumption)) (S.gl hg) (by rw [S.hm];exact hm) PyProof.Rows.boot_min ha (by decide) (by decide) he hpl) fun _ _ _ h=>z0 GJ h
structure Fn (M:Mo) (x:Str) (k:Nat) (ps:List Str) (m:MF):Prop where
 ex : ∃ (f:Addr) (fd:FuncData),M.mg x=some (.ref f)/\cR M.K (.ref f)=true/\Binds M.K fd ps []/\lE M.P M.w M.K M.mg M.base CX0 k f fd ps (spM M.K m)
theorem GC {mf:MF}{ps:List Str}{k':Nat} (S:Sc M X k N ns) (F:Fn M x k' ps mf) (hk:k'<=k) (hg:eC ns x=true) (ha:PA X (e::es) (tMA M.K mas)) (hd:(x == ("__debug__":Str))=false) (he:starEach (e::es) X.env=(false,eval e X.env)::starEach es X.env:=by rfl) (hpl:(backTo pos (starEach es X.env)).any (·.1)=false:=by rfl) :
  PE X (.Call (.Name x p1) (e::es) [] pos) (tM M.K (mFn mf mas)):=by
 obtain⟨f,fd,hm,hkp,hb,F⟩:=F.ex
 rw [<- S.hP,<- S.hw,<- S.hK,<- S.hm,<- S.hb] at F
 rw [<- S.hm] at hm
 rw [<- S.hK] at hkp hb
 exact PE.con (Dm F (S.room.mono hk) (S.gl hg) hm hkp hb .nil yu ha hd he hpl) fun _ _ _ h=>Bm h
theorem EU {mf:MF}{ps:List Str}{k':Nat} (S:Sc M X k N ns) (F:Fn M x k' ps mf) (hk:k'<=k) (hg:eC ns x=true) (hd:(x == ("__debug__":Str))=false) :
  PE X (.Call (.Name x p1) [] [] pos) (tM M.K (mFn mf af)):=by
 obtain⟨f,fd,hm,hkp,hb,F⟩:=F.ex
 rw [<- S.hP,<- S.hw,<- S.hK,<- S.hm,<- S.hb] at F
 rw [<- S.hm] at hm
 rw [<- S.hK] at hkp hb
 refine PE.con (B4 F (S.room.mono hk) (S.gl hg) hm hkp hb .nil yu hd) fun σ H Q h => ?_
 obtain⟨μ,S,ρ,u,S',hr,er,e,kk⟩:=h
 exact⟨μ,S,[],u,S',hr,.nil,e,kk⟩
theorem BR (S:Sc M X k N ns) (ho:PE X a (tM M.K ma)) (ha:PA X (e::es) (tMA M.K mas)) (hbase:attributeBase a "append" X.env (eval a X.env)=eval a X.env:=by rfl)
  (hfew:((backTo pos (starEach (e::es) X.env)).all (fun x => !x.1)&&(backToKw pos (keywordEach [] X.env)).all (fun x=>x.1.isSome)
   && decide ((e::es).length+([]:List Keyword).length+(if ([]:List Keyword).isEmpty then 0 else 1) < 30))=true:=by rfl)
  (hline:(p1.endLine == pos.line)=true:=by rfl) (hs:starEach (e::es) X.env=(false,eval e X.env)::starEach es X.env:=by rfl) (hpl:(backTo pos (starEach es X.env)).any (·.1)=false:=by rfl) :
  PE X (.Call (.Attribute a "append" p1) (e::es) [] pos) (tM M.K (mML cj ma mas)):=by
 exact PE.con (Ap gL PySem.F.slot_list_append PySem.F.type_list_append zc ho ha hbase hfew hline hs hpl) fun _ _ _ h=>S.hK▸FV ze h
theorem EV (S:Sc M X k N ns) (ho:PE X a (tM M.K ma)) (ha:PA X (e::es) (tMA M.K mas)) (hbase:attributeBase a "pop" X.env (eval a X.env)=eval a X.env:=by rfl)
  (hfew:((backTo pos (starEach (e::es) X.env)).all (fun x => !x.1)&&(backToKw pos (keywordEach [] X.env)).all (fun x=>x.1.isSome)
   && decide ((e::es).length+([]:List Keyword).length+(if ([]:List Keyword).isEmpty then 0 else 1) < 30))=true:=by rfl)
  (hline:(p1.endLine == pos.line)=true:=by rfl) (hs:starEach (e::es) X.env=(false,eval e X.env)::starEach es X.env:=by rfl) (hpl:(backTo pos (starEach es X.env)).any (·.1)=false:=by rfl) :
  PE X (.Call (.Attribute a "pop" p1) (e::es) [] pos) (tM M.K (mML jj ma mas)):=by
 exact PE.con (Ap gL yY yZ Cy ho ha hbase hfew hline hs hpl) fun _ _ _ h=>S.hK▸FV Bc h
theorem JL {tg:Expr} (S:Sc M X k N ns) (hg:eC ns "range"=true) (hm:M.mg "range"=none) (ha:PA X [a] (tMA M.K mas)) (hs:starEach [a] X.env = [(false,eval a X.env)]:=by rfl):PI X tg (.Call (.Name "range" p1) [a] [] pos) (uK (tMA M.K mas)):=
 z9 (S.gl hg) (by rw [S.hm];exact hm) ha hs
theorem Lb {tg:Expr} (S:Sc M X k N ns) (hg:eC ns "range"=true) (hm:M.mg "range"=none) (ha:PA X [a,b] (tMA M.K mas)) (hs:starEach [a,b] X.env = [(false,eval a X.env),(false,eval b X.env)]:=by rfl) (hs2:starEach [b] X.env = [(false,eval b X.env)]:=by rfl):PI X tg (.Call (.Name "range" p1) [a,b] [] pos) (uH (tMA M.K mas)):=
 zZ (S.gl hg) (by rw [S.hm];exact hm) ha hs hs2
theorem GM {tg:Expr} (S:Sc M X k N ns) (hg:eC ns "reversed"=true) (hm:M.mg "reversed"=none) (ha:PA X [a] (tMA M.K mas)) (hs:starEach [a] X.env = [(false,eval a X.env)]:=by rfl):PI X tg (.Call (.Name "reversed" p1) [a] [] pos) (vN M.K (tMA M.K mas)):=
 S.hK▸HL (S.gl hg) (by rw [S.hm];exact hm) ha hs
theorem KP {tg:Expr} (S:Sc M X k N ns) (ha:PE X a (tM M.K ma)):PI X tg a (fun σ H R=>sJ M.K (tM M.K ma) σ H R\/zH M.K (tM M.K ma) σ H R):=by
 have h:=PI.or (DH (tg:=tg) ha) (HG ha)
 rw [S.hK] at h
 exact h
noncomputable def mY (N N':List Str) (ns names:List (Str×NameKind)) (xs:List Str):Bool:=
 decide ((names.map (·.1)).Nodup)&&names.all (fun y=>if y.2 == .free then (match ns.lookup y.1 with | some .cell=>true | some .free=>true | _=>false) else true)&&xs.all (qU names)&&decide N'.Nodup &&
 (N'.length == N.length+xs.length)&&((aB xs.length).all fun j=>N'[N.length+j]? == xs[j]?)&&(aB N.length).all fun i=>match N'[i]? with
  | none=>true
  | some y=>if rO names y then N[i]? == some y&&names.lookup y == some .free else true
noncomputable def mU (N N':List Str) (ns names:List (Str×NameKind)) (x:Str):Bool:=mY N N' ns names [x]
theorem pT {N':List Str}{scope:Scope}{xs:List Str} (S:Sc M X k N ns) (hk:scope.kind = .function) (h:mY N N' ns scope.names xs=true):gy X N' scope xs:=by
 unfold mY at h
 simp only [az] at h
 obtain⟨⟨⟨⟨⟨⟨h1,h2⟩,h3⟩,h4⟩,h5⟩,h6⟩,h7⟩:=h
 refine⟨hk,of_decide_eq_true h1,fun y hy e => ?_,fun x hx => ?_,of_decide_eq_true h4,?_,fun j x hj => ?_,fun i y hi e hv => ?_⟩
 ·have:=bH.mp h2 y hy
  rw [if_pos (by rw [e];rfl)] at this
  split at this
  ·rename_i q;exact .inl (S.cel y.1 q).1
  ·rename_i q;exact S.fre y.1 q
  ·cases this
 ·have h3:=bH.mp h3 x hx
  unfold qU at h3
  split at h3
  ·rename_i q;exact .inl q
  ·rename_i q;exact .inr q
  ·cases h3
 ·rw [S.hN];exact eq_of_beq h5
 ·have hl:=(ah.mp hj).1
  have:=bH.mp h6 j (br.mpr hl)
  rw [S.hN,eq_of_beq this];exact hj
 ·rw [S.hN] at hi ⊢
  have:=bH.mp h7 i (br.mpr hi)
  rw [e] at this
  simp only at this
  have hvb:rO scope.names y=true:=by
   unfold rO
   rcases hv with q | q | q <;> rw [q]
  rw [if_pos hvb,az] at this
  exact⟨eq_of_beq this.1,eq_of_beq this.2⟩
theorem sD {N':List Str}{scope:Scope} (S:Sc M X k N ns) (hk:scope.kind = .function) (h:mU N N' ns scope.names x=true):gy X N' scope [x]:=pT S hk h
theorem oq {N':List Str}{scope:Scope}{xs:List Str} (S:Sc M X k N ns) (C:gy X N' scope xs) (s₂:Shared) (H₂:Hp) (fp:List Addr):Sc M (blk X N' scope s₂ H₂ fp) k N' scope.names where
 hP:=S.hP
 hw:=S.hw
 hK:=S.hK
 hm:=S.hm
 hb:=S.hb
 hN:=rfl
 nd:=C.ndN
 calm:=S.calm
 loc:=fun y h=>lookup_relabel_local h
 cel:=fun y h=>⟨iE h,by show (scope.names.lookup y == some .cell)=true;rw [h];rfl⟩
 fre:=fun y h=>jP h
 glo:=fun y h=>nJ h
 room:=S.room
 own:=qW
 cod:=S.cod
theorem AA {N':List Str}{scope:Scope}{px:Pos}{iter elt:Expr}{ifs:List Expr}{wi:TI}{mi:MI} (S:Sc M X k N ns) (hk:scope.kind = .function) (ok:mU N N' ns scope.names x=true) (hi:PI X (.Name x px) iter wi)
  (ht : ∀ X',Sc M X' k N' scope.names->PTs X' ifs (tMT M.K mt)) (he : ∀ X',Sc M X' k N' scope.names->PE X' elt (tM M.K mc)) (hr : ∀ σ H Q,tM M.K (bZ mi mt mc) σ H Q->nM wi (tMT M.K mt) (tM M.K mc) σ H Q)
  (hs : ∀ x,foldedSetIterable iter X.env x=pure x:=by intro _;rfl):PE X (.ListComp elt [⟨.Name x px,iter,ifs,0⟩] scope pos) (tM M.K (bZ mi mt mc)):=by
 have C:=sD S hk ok
 exact PE.con (E6 S.calm C hi (fun s₂ H₂ fp=>ht _ (oq S C s₂ H₂ fp)) (fun s₂ H₂ fp=>he _ (oq S C s₂ H₂ fp)) hs) hr
theorem Iu:PTs X [] (tMT M.K cTT):=PTs.con EW fun σ H Q h=>by
 obtain⟨μ,S,ρ,b,S',hr,er,e,kk⟩:=h
 cases e
 exact kk μ H (Pre.refl _) (bj.refl _) hr
theorem J4 (h:PT X c (tMT M.K mt)):PTs X [c] (tMT M.K mt):=E8 h
variable {st:Stmt}{sts:List Stmt}{ms ms':MS}
theorem Km:PSs X [] (tMS M.K dh):=PSs.con Ey fun _ _ _ h=>BY h
theorem IE (h1:PS X st (tMS M.K ms)) (h2:PSs X sts (tMS M.K ms')):PSs X (st::sts) (tMS M.K (aZ ms ms')):=PSs.con (AQ h1 h2) fun _ _ _ h=>Kj h
theorem Le (h1:PS X st (tMS M.K ms)):PSs X [st] (tMS M.K ms):=Fe h1
theorem FM (S:Sc M X k N ns) (i:Nat) (hi:N[i]? = some x) (ho:qU ns x=true) (he:PE X e (tM M.K ma)) (hs:swapsWith e (some (.Name x p1)) pos.line X.env=pure false:=by rfl):PS X (.Assign [.Name x p1] e pos) (tMS M.K (bA i ma)):=
 PS.con (Hx (by rw [S.hN];exact S.nd) (by rw [S.hN];exact hi) (S.lo ho).1 he hs (S.lo ho).2) fun _ _ _ h=>Fu h
theorem DJ (S:Sc M X k N ns) (ho:PE X a (tM M.K ma)) (hi:PE X b (tM M.K mb)) (he:PE X e (tM M.K mc)) (hs:swapsWithSole [.Subscript a b p1] e pos.line X.env=pure false:=by rfl) (hw:swappedStores [.Subscript a b p1] e X.env=pure none:=by rfl)
  (h1:(assignEach [.Subscript a b p1] X.env).map (·.2) = [assign (.Subscript a b p1) X.env]:=by rfl)
  (hasn : ∀ v,assign (.Subscript a b p1) X.env v=(do
   let ov <- holding [v] (eval a X.env)
   let iv <- holding [v,ov] (eval b X.env)
   standAt p1
   holding [v,ov,iv] (setItem ov iv v)
   release [v,ov,iv] []):=by intro _;rfl):PS X (.Assign [.Subscript a b p1] e pos) (tMS M.K (iX ma mb mc)):=
 PS.con (BD he (Ic ho hi (Eo (by have:=S.room.units;omega)) hasn) hs hw h1) fun _ _ _ h=>Ew h
theorem Hj (he:PE X e (tM M.K ma)) (hs:swapsWith e none pos.line X.env=pure false:=by rfl):PS X (.Expr e pos) (tMS M.K (df ma)):=PS.con (Eh he hs) fun _ _ _ h=>H9 h
theorem JZ (he:PE X e (tM M.K ma)):PS X (.Return (some e) pos) (tMS M.K (bV ma)):=PS.con (IB he) fun _ _ _ h=>Kg h
theorem Ly {sts':List Stmt} (hc:PT X c (tMT M.K mt)) (ha:PSs X sts (tMS M.K ms)) (hb:PSs X sts' (tMS M.K ms')):PS X (.If c sts sts' pos) (tMS M.K (sIf mt ms ms')):=PS.con (KA hc ha hb) fun _ _ _ h=>LH h
theorem KH {iter:Expr}{wi:TI}{mi:MI} (S:Sc M X k N ns) (i:Nat) (hi:N[i]? = some x) (ho:qU ns x=true) (hit:PI X (.Name x p1) iter wi) (hb:PSs X sts (tMS M.K ms)) (hr : ∀ D σ H,tMS M.K (eo i mi ms) D σ H->wK wi (iB i) (tMS M.K ms) D σ H)
  (hs : ∀ x,foldedSetIterable iter X.env x=pure x:=by intro _;rfl):PS X (.For (.Name x p1) iter sts [] pos) (tMS M.K (eo i mi ms)):=
 PS.con (GS S.own S.calm hit (yE (by rw [S.hN];exact S.nd) (by rw [S.hN];exact hi) (S.lo ho).1 (S.lo ho).2) hb hs) hr
theorem EA (S:Sc M X k N ns) (hc:PT X c (tMT M.K mt)) (hb:PSs X sts (tMS M.K ms)):PS X (.While c sts [] pos) (tMS M.K (iA mt ms)):=PS.con (AS S.own hc hb) fun _ _ _ h=>Ek h
end
theorem Sc.def {M:Mo}{N ps:List Str}{qual:Str}{scope:Scope}{f:Addr}{cdv:Value}{A:Around}{outer:List Env}{s:Shared}{H:Hp}{E:XK}{k:Nat} (S:bf N ps scope) (hr:jD k (A.deeper (envOfC qual scope s.heap.objs.size f cdv))) (h0 : ∀ c q,M.mkr=some (c,q)->cdv = .ref c/\qual++".<locals>."=q) :
  Sc M (xD CX0 M.P M.w M.K M.mg M.base N qual scope f cdv A outer s H E).nox k N scope.names:=
 ⟨rfl,rfl,rfl,rfl,rfl,rfl,S.nd,rfl,fun _ h=>h,fun _ h=>⟨h,rfl⟩,fun _ h => .inr h,fun _ h=>h,hr,qW,h0⟩
theorem sg {H:Hp}{μ:List Addr}{N:List Str}{us:List U}{vs:List V} (r:RUs H μ us vs):ER H μ (us.map some++aK (N.length - us.length) none) (L2.start N vs):=by
 unfold L2.start
 refine⟨by simp [r.len],fun i u h => ?_⟩
 by_cases hi:i < us.length
 ·rw [aI (by simpa using hi),bT] at h
  cases e:us[i]? with
  | none=>rw [e] at h;cases h
  | some w=>
    rw [e] at h;cases h
    obtain⟨v,hv,rv⟩:=r.get e
    refine⟨v,?_,rv⟩
    rw [aI (by simpa [<- r.len] using hi),bT,hv];rfl
 ·rw [ar (by simpa using hi)] at h
  rw [g8] at h
  split at h <;> cases h
theorem A5 {M:Mo} (h0:M.mkr=none) {x qual:Str}{st:Stmt}{f:Addr}{fd:FuncData}{N ps:List Str}{k:Nat}{ms:MS} (F:Fun M.K x qual st f fd) (S:bf N ps (aw st))
  (hb : ∀ X,Sc M X k N (aw st).names->PSs X (aW st) (tMS M.K ms)):lE M.P M.w M.K M.mg M.base CX0 (k+1) f fd ps (spM M.K (run ps.length N.length ms)):=by
 refine F.ok S (fun vs H Q E h => ?_) fun cdv A outer s H vs Q E hr h=>⟨tMS M.K ms,hb _ (Sc.def S hr fun c q h=>by rw [h0] at h;cases h),?_⟩
 ·obtain⟨μ,S',us,u,S'',hr,rs,e,_⟩:=h
  unfold run at e
  split at e
  ·rename_i hl;rw [<- rs.len];exact hl
  ·cases e
 ·obtain⟨μ,S1,us,u,S2,hr,rs,e,ka⟩:=h
  unfold run at e
  split at e
  ·rename_i hl
   have er:=sg (N:=N) rs
   rw [hl] at er
   split at e
   ·rename_i w ρ' S3 q
    cases e
    exact⟨μ,S1,_,_,hr,er,q,ka⟩
   ·rename_i ρ' S3 q
    cases e
    exact⟨μ,S1,_,_,hr,er,q,fun μ' σ' H' p' k' hr' er'=>ka μ' _ H' p' k' hr' oG⟩
   ·cases e
  ·cases e
end G
end
section
namespace G
open PySem PySem.Spec L2
open PyProof.Rows hiding St
mutual
inductive oj (K:aj) (H:Hp):V->PyData->Prop where
 | non:oj K H .non .none
 | bl (b:Bool):oj K H (.bl b) (.bool b)
 | int (i:Int):oj K H (.int i) (.int i)
 | str (x:Str):oj K H (.str x) (.str x)
 | tup {a:Addr}{vs:List V}{ds:List PyData}:SqT K H a vs->j0 K H vs ds->oj K H (.ref a) (.tuple ds)
 | lst {a:Addr}{vs:List V}{ds:List PyData}:SqL K H a vs->j0 K H vs ds->oj K H (.ref a) (.list ds)
inductive j0 (K:aj) (H:Hp):List V->List PyData->Prop where
 | nil:j0 K H [] []
 | cons {v:V}{vs:List V}{d:PyData}{ds:List PyData}:oj K H v d->j0 K H vs ds->j0 K H (v::vs) (d::ds)
end
section
variable {X:Cx}{pins:List (Addr×Obj)}{σ:St}{H:Hp}{s:Shared}
mutual
theorem oj.reads (I:Inv X pins σ H s) : ∀ {v:V}{d:PyData}{w:Value},oj X.K H v d->RelV v w -> ∃ as,Reads s.heap w d as
 | _,_,_,.non,r=>⟨[],by cases (show _=jF from r);exact .none⟩
 | _,_,_,.bl b,r=>⟨[],by cases (show _=wt b from r);exact .bool b⟩
 | _,_,_,.int i,r=>by
   obtain⟨t,e⟩:=(show ∃ t,_=rV i t from r)
   subst e;exact⟨[],.int i t⟩
 | _,_,_,.str x,r=>by
   obtain⟨t,e⟩:=(show ∃ t,_=rX x t from r)
   subst e;exact⟨[],.str x t⟩
 | _,_,_,.tup (a:=a) h rs,r=>by
   cases (show _=bc a from r)
   obtain⟨its,rv,⟨o,e,c,n,dt⟩,_⟩:=I.tuple h
   obtain⟨as,q⟩:=j0.reads I rs rv
   exact⟨as,.tuple e c dt q⟩
 | _,_,_,.lst (a:=a) h rs,r=>by
   cases (show _=bc a from r)
   obtain⟨its,rv,⟨o,n,e,c,dd,dt⟩,_⟩:=I.list h
   obtain⟨as,q⟩:=j0.reads I rs rv
   exact⟨a::as,.list e c dt q⟩
theorem j0.reads (I:Inv X pins σ H s) : ∀ {vs:List V}{ds:List PyData}{ws:List Value},j0 X.K H vs ds->bK vs ws -> ∃ as,ReadsAll s.heap ws ds as
 | _,_,_,.nil,r=>by cases r;exact⟨[],.nil⟩
 | _,_,_,.cons h rs,r=>by
   cases r with
   | cons r1 r2=>
     obtain⟨as,q⟩:=oj.reads I h r1
     obtain⟨bs,q'⟩:=j0.reads I rs r2
     exact⟨as++bs,.cons q q'⟩
end
end
theorem nE {α β:Type}{f:α->Option β}{P:α->β->Prop} (hf : ∀ x y,f x=some y->P x y) : ∀ {xs:List α}{ys:List β},de f xs=some ys->Paired P xs ys
 | [],ys,h=>by cases h;exact .nil
 | x::xs,ys,h=>by
   unfold de at h
   cases e:f x with
   | none=>rw [e] at h;cases h
   | some y=>
     rw [e] at h
     simp only [ai] at h
     cases e2:de f xs with
     | none=>rw [e2] at h;cases h
     | some zs=>
       rw [e2] at h;cases h
       exact .cons (hf x y e) (nE hf e2)
theorem pD {f:Nat} : ∀ {us:List U}{ds:List PyData},Paired (fun (_:U) (d:PyData)=>d.canLay0=true/\d.depth<=f) us ds->jZ ds=true/\i0 ds<=f
 | _,_,.nil=>⟨by simp [jZ],by simp [i0]⟩
 | _,_,.cons h t=>by
   obtain⟨a,b⟩:=pD t
   exact⟨by simp [jZ,h.1,a],by simp only [i0];exact Nat.max_le.mpr ⟨h.2,b⟩⟩
section
variable {K:KX}{H:Hp}{μ:List Addr}{S:Sto}
theorem pj {f:Nat} (hr:HR K μ S H) (ih : ∀ (u:U) (d:PyData),toD S f u=some d -> ∀ v,RU H μ u v->oj K H v d) : ∀ {us:List U}{ds:List PyData},de (toD S f) us=some ds -> ∀ {vs:List V},RUs H μ us vs->j0 K H vs ds
 | [],ds,h,vs,r=>by cases h;rw [r.nil_inv];exact .nil
 | u::us,ds,h,vs,r=>by
   unfold de at h
   cases e:toD S f u with
   | none=>rw [e] at h;cases h
   | some y=>
     rw [e] at h
     simp only [ai] at h
     cases e2:de (toD S f) us with
     | none=>rw [e2] at h;cases h
     | some zs=>
       rw [e2] at h;cases h
       obtain⟨v,r',rfl,a,b⟩:=r.inv
       exact .cons (ih u y e v a) (pj hr ih e2 b)
theorem pb (hr:HR K μ S H) : ∀ (f:Nat) (u:U) (d:PyData),toD S f u=some d -> ∀ v,RU H μ u v->oj K H v d
 | 0,u,d,h,v,r=>by cases u <;> cases h
 | f+1,.non,d,h,v,r=>by cases h;rw [show v = .non by simpa only [RU] using r];exact .non
 | f+1,.bl b,d,h,v,r=>by cases h;rw [fV r];exact .bl b
 | f+1,.int i,d,h,v,r=>by cases h;rw [cw r];exact .int i
 | f+1,.str x,d,h,v,r=>by
   unfold toD at h
   split at h
   ·cases h;rw [show v = .str x by simpa only [RU] using r];exact .str x
   ·cases h
 | f+1,.tup us,d,h,v,r=>by
   unfold toD at h
   cases e:de (toD S f) us with
   | none=>rw [e] at h;cases h
   | some ds=>
     rw [e] at h;cases h
     obtain⟨a,vs,rfl,ha,rs⟩:=fw r
     exact .tup (.inl (.inl ha)) (pj hr (pb hr f) e rs)
 | f+1,.ref n,d,h,v,r=>by
   unfold toD at h
   cases e0:getL S n with
   | none=>rw [e0] at h;cases h
   | some us=>
     rw [e0] at h
     simp only [ai] at h
     cases e:de (toD S f) us with
     | none=>rw [e] at h;cases h
     | some ds=>
       rw [e] at h;cases h
       obtain⟨a,rfl,ha⟩:=dR r
       obtain⟨a',vs,ha',hs,rs⟩:=hr.sq e0
       rw [ha] at ha';cases ha'
       exact .lst hs (pj hr (pb hr f) e rs)
 | f+1,.obj a,d,h,v,r=>by cases h
end
theorem pA (S:Sto) : ∀ (f:Nat) (u:U) (d:PyData),toD S f u=some d->d.canLay0=true/\d.depth<=f
 | 0,u,d,h=>by cases u <;> cases h
 | f+1,.non,d,h=>by cases h;exact⟨by simp [hW],by simp [jh]⟩
 | f+1,.bl b,d,h=>by cases h;exact⟨by simp [hW],by simp [jh]⟩
 | f+1,.int i,d,h=>by cases h;exact⟨by simp [hW],by simp [jh]⟩
 | f+1,.str x,d,h=>by
   unfold toD at h
   split at h
   ·rename_i q;cases h;exact⟨q,by simp [jh]⟩
   ·cases h
 | f+1,.tup us,d,h=>by
   unfold toD at h
   cases e:de (toD S f) us with
   | none=>rw [e] at h;cases h
   | some ds=>
     rw [e] at h;cases h
     obtain⟨a,b⟩:=pD (nE (fun x y q=>pA S f x y q) e)
     exact⟨by simpa [hW] using a,by simp only [jh];exact Nat.lt_succ_of_le (by assumption)⟩
 | f+1,.ref n,d,h=>by
   unfold toD at h
   cases e0:getL S n with
   | none=>rw [e0] at h;cases h
   | some us=>
     rw [e0] at h
     simp only [ai] at h
     cases e:de (toD S f) us with
     | none=>rw [e] at h;cases h
     | some ds=>
       rw [e] at h;cases h
       obtain⟨a,b⟩:=pD (nE (fun x y q=>pA S f x y q) e)
       exact⟨by simpa [hW] using a,by simp only [jh];exact Nat.lt_succ_of_le (by assumption)⟩
 | f+1,.obj a,d,h=>by cases h
noncomputable def pO (K:aj) (H:Hp) (v:V) (d:PyData):Prop:=oj K H v d/\d.canLay0=true/\d.depth<=40
noncomputable def Jo (K:aj):R2:=fun x y H Q => ∃ a b,pO K H x a/\pO K H y b/\Q (.bl (jo a b)) H
noncomputable def JX (K:aj):R2:=fun x y H Q => ∃ a b,pO K H x a/\pO K H y b/\Q (.bl (!jo a b)) H
theorem kW {K:aj}{H:Hp}{v:V}{d:PyData} (h:pO K H v d):SeqAt.shaped d=true:=by
 unfold SeqAt.shaped
 rw [h.2.1,decide_eq_true (bg h.2.2 (by decide))];rfl
section
variable {X:Cx}
theorem F9 (hu:X.A.units+64 < cLine):OpR X (compareOp .Eq) (Jo X.K):=by
 intro pins s σ H x y v u Q I rx ry h
 obtain⟨a,b,ha,hb,q⟩:=h
 obtain⟨as,r1⟩:=ha.1.reads I rx
 obtain⟨bs,r2⟩:=hb.1.reads I ry
 exact SeqAt.compareEq_shaped r1 r2 (kW ha) (kW hb) hu ⟨.bl _,H,I,rfl,q⟩
theorem Il (hu:X.A.units+64 < cLine):OpR X (compareOp .NotEq) (JX X.K):=by
 intro pins s σ H x y v u Q I rx ry h
 obtain⟨a,b,ha,hb,q⟩:=h
 obtain⟨as,r1⟩:=ha.1.reads I rx
 obtain⟨bs,r2⟩:=hb.1.reads I ry
 exact SeqAt.compareNe_shaped r1 r2 (kW ha) (kW hb) hu ⟨.bl _,H,I,rfl,q⟩
end
section
variable {K:KX}{μ:List Addr}{S:Sto}{H:Hp}
theorem vS {u:U}{v:V}{d:PyData} (hr:HR K μ S H) (r:RU H μ u v) (h:toD S 40 u=some d):pO K H v d:=⟨pb hr 40 u d h v r,pA S 40 u d h⟩
theorem yN {x y:U}{b:Bool} (h:eqU S x y=some b) : ∃ a c,toD S 40 x=some a/\toD S 40 y=some c/\b=jo a c:=by
 unfold eqU at h
 cases e1:toD S 40 x with
 | none=>rw [e1] at h;cases h
 | some a=>
   rw [e1] at h
   simp only [ai] at h
   cases e2:toD S 40 y with
   | none=>rw [e2] at h;cases h
   | some c=>rw [e2] at h;cases h;exact⟨a,c,rfl,rfl,rfl⟩
theorem K6:OpU K (Jo K) oEq:=by
 intro μ S H x y vx vy u S' Q hr rx ry e a
 unfold oEq at e
 cases q:eqU S x y with
 | none=>rw [q] at e;cases e
 | some b=>
   rw [q] at e;cases e
   obtain⟨d1,d2,e1,e2,rfl⟩:=yN q
   exact⟨d1,d2,vS hr rx e1,vS hr ry e2,a.now hr dX⟩
theorem IV:OpU K (JX K) oNe:=by
 intro μ S H x y vx vy u S' Q hr rx ry e a
 unfold oNe at e
 cases q:eqU S x y with
 | none=>rw [q] at e;cases e
 | some b=>
   rw [q] at e;cases e
   obtain⟨d1,d2,e1,e2,rfl⟩:=yN q
   exact⟨d1,d2,vS hr rx e1,vS hr ry e2,a.now hr dX⟩
end
end G
end
section
namespace G
open PySem PySem.Spec L2
open PyProof.Rows hiding St
section
noncomputable def J9 (K:aj):V->Option Int->Option Int->Hp->VK->Prop:=fun x lo hi H Q => ∃ a xs,x = .ref a/\SqT K H a xs /\
 (HT.sIx xs.length 0 lo=0/\HT.sIx xs.length xs.length hi=xs.length)/\Q (.ref a) H
theorem Bq {X:Cx}:SlR X (J9 X.K):=by
 intro pins s σ H x v vl vu lo hi sl Q I rx hs pl pu h
 obtain⟨a,xs,rfl,hx,hw,q⟩:=h
 cases rx
 obtain⟨its,r,ht,hz⟩:=I.tuple hx
 have hlen:its.toArray.size=xs.length:=by rw [ay];exact r.length.symm
 refine⟨"tuple",_,PyProof.Rows.slot_tuple_getitem.lookup,ht.typeIs,?_⟩
 exact HT.getItem_tuple_whole ht hs pl pu (by rw [hlen];exact hw) ⟨.ref a,H,I,rfl,q⟩
noncomputable def rSl (K:aj):V->Option Int->Option Int->Hp->VK->Prop:=fun x lo hi H Q=>Jw K x lo hi H Q\/(J9 K x lo hi H Q\/Kv K x lo hi H Q)
theorem HJ {X:Cx}:SlR X (rSl X.K):=SlR.or Gf (SlR.or Bq EL)
noncomputable def tO (K:KX):Option ME->TO
 | none=>yw
 | some m=>Fj (tM K m)
theorem xU {H:Hp}{μ:List Addr}{us:List U}{vs:List V} (r:RUs H μ us vs) (lo hi:Option Int):RUs H μ (cut us lo hi) (uO vs lo hi):=by
 unfold cut uO
 rw [r.len]
 exact (r.drop _).take _
section
variable {K:KX}{σ:St}{H:Hp}{Q:VK}
theorem BJ {a:Option ME}{μ:List Addr}{S S1:Sto}{ρ:Rho}{o:Option Int}{Q:Option Int->Hp->Prop} (hr:HR K μ S H) (er:ER H μ ρ σ) (e:pP a ρ S=some (o,S1))
  (k : ∀ μ1 H1,Pre μ μ1->bj H H1->HR K μ1 S1 H1->Q o H1):tO K a σ H Q:=by
 cases a with
 | none=>cases e;exact k μ H (Pre.refl _) (bj.refl _) hr
 | some m=>
   obtain⟨x,S2,e1,e⟩:=aQ (show bnd (m ρ S) (fun x S1=>match x with
    | .int i=>some (some i,S1)
    | _=>none)=some (o,S1) from e)
   split at e
   ·cases e
    exact⟨μ,S,ρ,_,_,hr,er,e1,fun μ1 v H1 p1 k1 hr1 rx=>⟨_,cw rx,k μ1 H1 p1 k1 hr1⟩⟩
   ·cases e
theorem DL {a:ME}{lo hi:Option ME} (h:tM K (mSl a lo hi) σ H Q):tSl (rSl K) (tM K a) (tO K lo) (tO K hi) σ H Q:=by
 obtain⟨μ,S,ρ,u,S',hr,er,e,k⟩:=h
 obtain⟨x,S1,e1,e⟩:=aQ e
 obtain⟨l,S2,e2,e⟩:=aQ e
 obtain⟨r,S3,e3,e⟩:=aQ e
 refine⟨μ,S,ρ,x,S1,hr,er,e1,fun μ1 vx H1 p1 k1 hr1 rx => ?_⟩
 refine BJ hr1 (er.mono k1 p1) e2 fun μ2 H2 p2 k2 hr2 => ?_
 refine BJ hr2 (er.mono (k1.trans k2) (p1.trans p2)) e3 fun μ3 H3 p3 k3 hr3 => ?_
 have k':=k.mono (p1.trans (p2.trans p3)) (k1.trans (k2.trans k3))
 have rx3:=RU.mono (k2.trans k3) (p2.trans p3) _ _ rx
 cases x with
 | tup us=>
   cases e
   obtain⟨p,vs,rfl,hp,rs⟩:=fw rx3
   by_cases hw:HT.sIx vs.length 0 l=0/\HT.sIx vs.length vs.length r=vs.length
   ·refine .inr (.inl ⟨p,vs,rfl,.inl (.inl hp),hw,k'.now hr3 ?_⟩)
    have e4:cut us l r=us:=by
     unfold cut
     rw [rs.len,hw.1,hw.2]
     simp [<- rs.len]
    rw [e4]
    exact iw hp rs
   ·refine .inl ⟨p,vs,rfl,.inl (.inl hp),hw,fun t ht => ?_⟩
    refine k' μ3 _ _ (Pre.refl _) (bj.new ht) (hr3.tup ht) (iw cg (RUs.mono (bj.new ht) (Pre.refl _) _ _ (xU rs l r)))
 | ref n=>
   simp only at e
   cases q:getL S3 n with
   | none=>rw [q] at e;cases e
   | some us=>
     rw [q] at e;cases e
     obtain⟨p,rfl,hp⟩:=dR rx3
     obtain⟨p',vs,hp',hs,rs⟩:=hr3.sq q
     rw [hp] at hp';cases hp'
     exact .inr (.inr ⟨p,vs,rfl,hs,fun t ht=>iF k' hr3 (xU rs l r) ht⟩)
 | _=>cases e
end
section
variable {M:Mo}{X:Cx}{k:Nat}{N:List Str}{ns:List (Str×NameKind)}{a b c e:Expr}{es:List Expr}{ma mb mc:ME}{mt:MT}{mas:MA}{pos p1 p2:Pos}{x:Str}
inductive kO (M:Mo) (X:Cx):Option Expr->Option ME->Prop where
 | none:kO M X .none .none
 | some {e:Expr}{m:ME}:PE X e (tM M.K m)->kO M X (.some e) (.some m)
theorem kO.po {lo:Option Expr}{m:Option ME} (h:kO M X lo m):PO X lo (tO M.K m):=by
 cases h with
 | none=>exact DA
 | some h=>exact DE h
theorem Dy {lo hi:Option Expr}{ml mh:Option ME} (S:Sc M X k N ns) (ha:PE X a (tM M.K ma)) (hl:kO M X lo ml) (hh:kO M X hi mh):PE X (.Subscript a (.Slice lo hi none p2) pos) (tM M.K (mSl ma ml mh)):=
 PE.con (Cd (S.hK▸HJ) ha hl.po hh.po) fun _ _ _ h=>DL h
end
noncomputable def h8 (a b:ME):ME:=fun ρ S=>bnd (a ρ S) fun x S1=>match x with
 | .bl true=>b ρ S1
 | .bl false=>some (.bl false,S1)
 | _=>none
noncomputable def mOr (a b:ME):ME:=fun ρ S=>bnd (a ρ S) fun x S1=>match x with
 | .bl true=>some (.bl true,S1)
 | .bl false=>b ρ S1
 | _=>none
noncomputable def xG:U->Sto->Res U:=fun x S=>match x with
 | .bl b=>some (.bl (!b),S)
 | _=>none
section
variable {K:KX}{σ:St}{H:Hp}{Q:VK}
theorem Ij {a b:ME} (h:tM K (h8 a b) σ H Q):FP (tM K a) (tM K b) σ H Q:=by
 obtain⟨μ,S,ρ,u,S',hr,er,e,k⟩:=h
 obtain⟨x,S1,e1,e⟩:=aQ e
 refine⟨μ,S,ρ,x,S1,hr,er,e1,fun μ1 vx H1 p1 k1 hr1 rx => ?_⟩
 split at e
 ·exact⟨true,fV rx,nT ⟨μ1,S1,ρ,u,S',hr1,er.mono k1 p1,e,k.mono p1 k1⟩⟩
 ·cases e
  exact⟨false,fV rx,nr (k μ1 _ H1 p1 k1 hr1 dX)⟩
 ·cases e
theorem IF {a b:ME} (h:tM K (mOr a b) σ H Q):Li (tM K a) (tM K b) σ H Q:=by
 obtain⟨μ,S,ρ,u,S',hr,er,e,k⟩:=h
 obtain⟨x,S1,e1,e⟩:=aQ e
 refine⟨μ,S,ρ,x,S1,hr,er,e1,fun μ1 vx H1 p1 k1 hr1 rx => ?_⟩
 split at e
 ·cases e
  exact⟨true,fV rx,nT (k μ1 _ H1 p1 k1 hr1 dX)⟩
 ·exact⟨false,fV rx,nr ⟨μ1,S1,ρ,u,S',hr1,er.mono k1 p1,e,k.mono p1 k1⟩⟩
 ·cases e
theorem Gj {a:ME} (h:tM K (m1 xG a) σ H Q):FN (tM K a) σ H Q:=by
 obtain⟨μ,S,ρ,u,S',hr,er,e,k⟩:=h
 obtain⟨x,S1,e1,e⟩:=aQ e
 refine⟨μ,S,ρ,x,S1,hr,er,e1,fun μ1 vx H1 p1 k1 hr1 rx => ?_⟩
 unfold xG at e
 split at e
 ·cases e
  exact⟨_,fV rx,k μ1 _ H1 p1 k1 hr1 dX⟩
 ·cases e
end
section
variable {X:Cx}{a b:Expr}{ta:TA}{p pos:Pos}
noncomputable def Bw (ta:TA):TE:=fun σ H Q=>ta σ H fun vs H1 => ∃ j:Int,vs = [.int j] /\ -(2 ^ 62)<=j/\j < 2 ^ 62 /\ ∀ r,H1 r=none->Q (.ref r) (upd H1 r (.rng 0 j))
noncomputable def BC (ta:TA):TE:=fun σ H Q=>ta σ H fun vs H1 => ∃ i j:Int,vs = [.int i,.int j]/\(-(2 ^ 62)<=i/\i < 2 ^ 62 /\ -(2 ^ 62)<=j/\j < 2 ^ 62) /\ ∀ r,H1 r=none->Q (.ref r) (upd H1 r (.rng i j))
theorem vn {pins:List (Addr×Obj)}{σ:St}{H:Hp}{s:Shared}{Q:VK}{lo hi:Int}{t u v:Tok}{tk:Nat} (I:Inv X pins σ H s) (q : ∀ r,H r=none->Q (.ref r) (upd H r (.rng lo hi))) :
  EP X pins σ Q (.ref s.heap.objs.size) { s with heap:=s.heap.push { cls := .type "range",data := .fields #[.int lo t,.int hi u,.int 1 v] },toks:=tk }:=by
 refine⟨.ref s.heap.objs.size,_,I.laid (t':=tk) (o := .rng lo hi) (fun b ob q=>aq _ q) (ak _) ?_,rfl,q _ (I.hok.fresh (ak _))⟩
 exact⟨t,u,v,aC _ rfl⟩
theorem yg (hg:Gl X "range") (hm:X.mg "range"=none) (ha:PA X [a] ta) (hs:starEach [a] X.env = [(false,eval a X.env)]:=by rfl):PE X (.Call (.Name "range" p) [a] [] pos) (Bw ta):=by
 intro pins s σ H Q I h
 refine Call_ (kM I hg hm boot_range (cU (thn (ha pos pins s σ H _ I h) fun us s1 ⟨vs,H1,I1,r1,q1⟩ => ?_) (by rw [hs];rfl) rfl))
 obtain⟨j,e,q1,q2,q⟩:=q1
 subst e
 cases r1 with
 | cons r rr=>
   cases rr
   obtain⟨t,rfl⟩:=r
   exact call_range_1 (vn I1 q)
theorem xZ (hg:Gl X "range") (hm:X.mg "range"=none) (ha:PA X [a,b] ta) (hs:starEach [a,b] X.env = [(false,eval a X.env),(false,eval b X.env)]:=by rfl) (hs2:starEach [b] X.env = [(false,eval b X.env)]:=by rfl) :
  PE X (.Call (.Name "range" p) [a,b] [] pos) (BC ta):=by
 intro pins s σ H Q I h
 refine Call_ (kM I hg hm boot_range (cU (thn (ha pos pins s σ H _ I h) fun us s1 ⟨vs,H1,I1,r1,q1⟩ => ?_) (by rw [hs,hs2]) (by rw [hs2];rfl)))
 obtain⟨i,j,e,⟨q1,q2,q3,q4⟩,q⟩:=q1
 subst e
 cases r1 with
 | cons r rr=>
   cases rr with
   | cons r' rr=>
     cases rr
     obtain⟨t,rfl⟩:=r
     obtain⟨t',rfl⟩:=r'
     exact call_range_2 (vn I1 q)
theorem ur : ∀ {xs:List V}{us:List Value},xs.length=us.length->(∀ (i:Nat) (x:V) (u:Value),xs[i]? = some x->us[i]? = some u->RelV x u)->bK xs us
 | [],[],_,_ => .nil
 | [],_::_,h,_=>by simp at h
 | _::_,[],h,_=>by simp at h
 | x::xs,u::us,h,k => .cons (k 0 x u rfl rfl) (ur (by simpa using h) fun i y w h1 h2=>k (i+1) y w (by simpa using h1) (by simpa using h2))
noncomputable def j3 (i:Int) (n:Nat):List V:=(aB n).map fun (k:Nat) => .int (i+k)
theorem lT (hc:X.calm=true):gO X (.type "list") (fun xs H Q => ∃ r lo hi,xs = [.ref r]/\H r=some (.rng lo hi)/\(-(2 ^ 62)<=lo/\lo < 2 ^ 62 /\ -(2 ^ 62)<=hi/\hi < 2 ^ 62)/\(hi - lo).toNat<=sizeLine /\ ∀ l,H l=none->Q (.ref l) (upd H l (.lst (j3 lo (hi - lo).toNat)))):=by
 intro pins s σ H xs us Q I rs h
 obtain⟨r,lo,hi,rfl,hr,⟨h1,h2,h3,h4⟩,hz,q⟩:=h
 cases rs with
 | cons r1 rr=>
   cases rr
   cases (show _=bc r from r1)
   obtain⟨t,u,v,e⟩:=I.hok r _ hr
   have hn:dn lo hi 1=((hi - lo).toNat:Nat):=by rw [rangeSize_one];split <;> omega
   refine call_list_range (n:=(hi - lo).toNat) (I.ok.hd hc) e (small_one h1 h2 h3 h4) hn (by rw [sizeLine_eq] at hz;exact hz) fun h' tk acc c' hk hl hacc => ?_
   obtain⟨hsz,hit⟩:=hacc
   refine⟨.ref s.heap.objs.size,_,I.laid (t':=tk) (o := .lst (j3 lo (hi - lo).toNat)) hk (ak _) ?_,rfl,q _ (I.hok.fresh (ak _))⟩
   refine⟨by rw [j3,av,bu];exact hz,acc.toList,c',?_,by simpa using hl⟩
   refine ur (by rw [j3,av,bu,di,hsz]) fun i x w h5 h6 => ?_
   have hlt:i < (hi - lo).toNat:=by
    have:=(ah.mp h5).1
    rwa [j3,av,bu] at this
   have hx:(j3 lo (hi - lo).toNat)[i]? = some (.int (lo+i)):=by simp [j3,hlt]
   rw [hx] at h5;cases h5
   obtain⟨t',e'⟩:=hit i w (by simpa using h6)
   exact⟨t',by rw [e'];simp⟩
end
end
end G
end
section
namespace G
open PySem PySem.Spec L2
open PyProof.Rows hiding St
section
theorem ym {H:Hp}{μ:List Addr} (i:Int) (n:Nat):RUs H μ (bo i n) (j3 i n):=by
 unfold bo j3
 induction n with
 | zero=>simpa using RUs.nil
 | succ n ih=>rw [fk,bS,bS];exact ih.append (.cons eJ .nil)
section
variable {K:KX}{σ:St}{H:Hp}{Q:VK}
noncomputable def rLR:List V->Hp->VK->Prop:=fun xs H Q => ∃ r lo hi,xs = [.ref r]/\H r=some (.rng lo hi)/\(-(2 ^ 62)<=lo/\lo < 2 ^ 62 /\ -(2 ^ 62)<=hi/\hi < 2 ^ 62)/\(hi - lo).toNat<=sizeLine /\ ∀ l,H l=none->Q (.ref l) (upd H l (.lst (j3 lo (hi - lo).toNat)))
theorem HR.rng {μ:List Addr}{S:Sto}{p:Addr}{i j:Int} (h:HR K μ S H) (hp:H p=none):HR K μ S (upd H p (.rng i j)):=by
 have kp:bj H (upd H p (.rng i j)):=bj.new hp
 refine⟨h.len,h.inj,fun m c b q1 q2=>(h.cell m c b q1 q2).mono kp (Pre.refl _) (fun hc => ?_) fun o u hf => ?_,h.ext.upd kp (Pre.refl _) fun o1 q=>by rw [hp] at q;cases q⟩
 ·obtain⟨o,e,_⟩:=(h.cell m _ b q1 q2).has hc
  exact bz (bC e hp)
 ·rw [bz (bC hf hp)];exact hf
theorem xW {μ:List Addr}{S1:Sto}{i j:Int}{r:Addr} (hr1:HR K μ S1 H) (ho:okR i/\okR j) (hz:(bo i (j - i).toNat).length<=big) (k:Aft K μ H (.ref S1.length) (S1 ++ [.lst (bo i (j - i).toNat)]) Q) (hrn:H r=none):rLR [.ref r] (upd H r (.rng i j)) Q:=by
 refine⟨r,i,j,rfl,cg,⟨ho.1.1,ho.1.2,ho.2.1,ho.2.2⟩,?_,fun l hl => ?_⟩
 ·unfold bo big at hz;rw [av,bu] at hz;rw [sizeLine_eq];exact hz
 ·exact iF (k.mono (Pre.refl _) (bj.new hrn)) (hr1.rng hrn) (ym _ _) hl
theorem Cb {a:MA} (h:tM K (gU (iR1 a)) σ H Q):tCB rLR (oK (Bw (tMA K a)) uL) σ H Q:=by
 obtain⟨μ,S,ρ,u,S',hr,er,e,k⟩:=h
 obtain⟨src,S1,e1,e⟩:=aQ e
 obtain⟨xs,S2,e2,e1⟩:=aQ e1
 refine⟨μ,S,ρ,xs,S2,hr,er,e2,fun μ1 vs H1 p1 k1 hr1 rs => ?_⟩
 split at e1
 ·rename_i j
  split at e1
  ·rename_i hj
   cases e1
   simp only at e
   split at e
   ·rename_i hz
    cases e
    obtain⟨v,r,rfl,rx,rn⟩:=rs.inv
    rw [rn.nil_inv,cw rx]
    refine⟨j,rfl,hj.1,hj.2,fun r hrn => ?_⟩
    have ez:(j - 0).toNat=j.toNat:=by simp
    exact xW (i:=0) hr1 ⟨⟨by decide,by decide⟩,hj⟩ (by rw [ez];exact hz) (by rw [ez];exact k.mono p1 k1) hrn
   ·cases e
  ·cases e1
 ·cases e1
theorem Bt {a:MA} (h:tM K (gU (iR2 a)) σ H Q):tCB rLR (oK (BC (tMA K a)) uL) σ H Q:=by
 obtain⟨μ,S,ρ,u,S',hr,er,e,k⟩:=h
 obtain⟨src,S1,e1,e⟩:=aQ e
 obtain⟨xs,S2,e2,e1⟩:=aQ e1
 refine⟨μ,S,ρ,xs,S2,hr,er,e2,fun μ1 vs H1 p1 k1 hr1 rs => ?_⟩
 split at e1
 ·rename_i i j
  split at e1
  ·rename_i hj
   cases e1
   simp only at e
   split at e
   ·rename_i hz
    cases e
    obtain⟨v,r,rfl,rx,rs⟩:=rs.inv
    obtain⟨w,r,rfl,ry,rn⟩:=rs.inv
    rw [rn.nil_inv,cw rx,cw ry]
    exact⟨i,j,rfl,⟨hj.1.1,hj.1.2,hj.2.1,hj.2.2⟩,fun r hrn=>xW hr1 hj hz (k.mono p1 k1) hrn⟩
   ·cases e
  ·cases e1
 ·cases e1
end
noncomputable def nR:List String := ["NoneType","bool","int","str","list","tuple","dict"]
noncomputable def jJ:List String := ["bool","int","str","list","tuple","dict"]
theorem Hl (K:aj) {t T:String} (ht:t∈nR) (hT:T∈jJ):PySem.W.kitOne K (.type t) (.type T)=some (Eg t T):=by
 simp only [nR,jJ,aX,tz,or_false] at ht hT
 rcases ht with rfl | rfl | rfl | rfl | rfl | rfl | rfl <;> rcases hT with rfl | rfl | rfl | rfl | rfl | rfl <;> first | rfl | kernel_rfl
theorem Ba {X:Cx}:gO X (.builtin "isinstance") (fun xs H Q => ∃ x t T,xs = [x,.ty T]/\my X.K H x (.type t)/\t∈nR/\T∈jJ/\Q (.bl (Eg t T)) H):=by
 intro pins s σ H xs us Q I rs h
 obtain⟨x,t,T,rfl,ty,ht,hT,q⟩:=h
 cases rs with
 | cons r1 rr=>
   cases rr with
   | cons r2 rr=>
     cases rr
     cases (show _=wu T from r2)
     exact zO I r1 ty (Hl X.K ht hT) fun tk=>⟨.bl _,H,I.tok _,rfl,q⟩
theorem K9 {K:KX}{μ:List Addr}{S:Sto}{H:Hp}{x:U}{v:V}{t:String} (hr:HR K μ S H) (r:RU H μ x v) (e:tyU S x=some t):my K H v (.type t)/\t∈nR:=by
 unfold tyU at e
 split at e
 ·cases e;rw [show v = .non by simpa only [RU] using r];exact⟨.non,by decide⟩
 ·cases e;rw [fV r];exact⟨.bl _,by decide⟩
 ·cases e;rw [cw r];exact⟨.int _,by decide⟩
 ·cases e;rw [show v = .str _ by simpa only [RU] using r];exact⟨.str _,by decide⟩
 ·cases e;obtain⟨a,vs,rfl,ha,_⟩:=fw r;exact⟨.tup ha,by decide⟩
 ·split at e
  ·rename_i q
   cases e
   obtain⟨a,rfl,ha⟩:=dR r
   obtain⟨vs,e1,_⟩:=hr.cell _ _ a q ha
   exact⟨.lst e1,by decide⟩
  ·rename_i q
   cases e
   obtain⟨a,rfl,ha⟩:=dR r
   obtain⟨vs,e1,_⟩:=hr.cell _ _ a q ha
   exact⟨.dK e1,by decide⟩
  ·cases e
 ·cases e
theorem IR {K:KX}{σ:St}{H:Hp}{Q:VK}{a:ME}{T:String} (hT:T∈jJ) (h:tM K (m1 (mI T) a) σ H Q) :
  tCB (fun xs H Q => ∃ x t T,xs = [x,.ty T]/\my K H x (.type t)/\t∈nR/\T∈jJ/\Q (.bl (Eg t T)) H) (oK (tM K a) (oK (tC (.ty T)) uL)) σ H Q:=by
 obtain⟨μ,S,ρ,u,S',hr,er,e,k⟩:=h
 obtain⟨x,S1,e1,e⟩:=aQ e
 refine⟨μ,S,ρ,x,S1,hr,er,e1,fun μ1 vx H1 p1 k1 hr1 rx => ?_⟩
 unfold mI at e
 cases q:tyU S1 x with
 | none=>rw [q] at e;cases e
 | some t=>
   rw [q] at e;cases e
   obtain⟨ty,ht⟩:=K9 hr1 rx q
   exact⟨vx,t,T,rfl,ty,ht,hT,k μ1 _ H1 p1 k1 hr1 dX⟩
noncomputable def Co (S:Sto) (x:U) (us:List U):Option Nat:=(de (toD S 39) us).bind fun ds=>(toD S 40 x).bind fun d=>ds.findIdx? fun y=>jo y d
noncomputable def dA:List U->List U->Sto->Res U:=fun us xs S=>match xs with
 | [x]=>(Co S x us).map fun k=>(.int k,S)
 | _=>none
noncomputable def HV (K:aj) (to:TE) (t:TA):TE:=fun σ H Q=>to σ H fun x H1=>(∃ p ys,x = .ref p/\H1 p=some (.tup ys))/\t σ H1 fun xs H2 => ∃ p ys v ds d j,x = .ref p/\xs = [v]/\H2 p=some (.tup ys) /\
 j0 K H2 ys ds/\jZ ds=true/\i0 ds<=40/\pO K H2 v d/\ds.findIdx? (fun y=>jo y d)=some j/\Q (.int j) H2
theorem Cu {X:Cx}{o e:Expr}{es:List Expr}{to:TE}{t:TA}{apos cpos:Pos} (hu:X.A.units+64 < cLine) (ho:PE X o to) (ha:PA X (e::es) t)
  (hbase:attributeBase o "index" X.env (eval o X.env)=eval o X.env:=by rfl)
  (hfew:((backTo cpos (starEach (e::es) X.env)).all (fun x => !x.1)&&(backToKw cpos (keywordEach [] X.env)).all (fun x=>x.1.isSome)
   && decide ((e::es).length+([]:List Keyword).length+(if ([]:List Keyword).isEmpty then 0 else 1) < 30))=true:=by rfl)
  (hline:(apos.endLine == cpos.line)=true:=by rfl) (hs:starEach (e::es) X.env=(false,eval e X.env)::starEach es X.env:=by rfl) (hplain:(backTo cpos (starEach es X.env)).any (·.1)=false:=by rfl) :
  PE X (.Call (.Attribute o "index" apos) (e::es) [] cpos) (HV X.K to t):=by
 intro pins s σ H Q I h
 refine wpAny_Call_method_late hbase hfew hline rfl (thn (ho pins s σ H _ I h) fun v s1 ⟨x,H1,I1,r1,⟨p,ys,hx,hp⟩,q1⟩ => ?_)
 subst hx
 cases (show v=bc p from r1)
 obtain⟨_,its,rv,⟨o1,e1,c1,n1,d1⟩,o2,e2,c2⟩:=I1.hok p _ hp
 refine⟨"tuple",_,PySem.F.plainAttrs_tuple,wA,PySem.F.type_tuple_index,⟨o1,e1,c1⟩,fun a ea=>by cases ea;exact⟨o2,e2,c2⟩,?_⟩
 have hA:=ha cpos pins s1 σ H1 _ I1 q1
 rw [hs] at hA ⊢
 refine lI (by show (false||(backTo cpos (starEach es X.env)).any (·.1))=false;rw [hplain] <;> rfl) (nV ?_)
 refine thn hA fun us s2 ⟨vs,H2,I2,r2,q2⟩ => ?_
 obtain⟨p',ys',v',ds,d,j,hx,hxs,hp',rd,hl,hdp,hd,hj,q⟩:=q2
 cases hx
 subst hxs
 cases r2 with
 | cons ra rr=>
   cases rr
   obtain⟨_,its2,rv2,⟨⟨cls,dd,data,sl⟩,e3,c3,n3,d3⟩,_⟩:=I2.hok p _ hp'
   simp only at c3 d3
   subst c3 d3
   obtain⟨as,rds⟩:=rd.reads I2 rv2
   obtain⟨bs,rdv⟩:=hd.1.reads I2 ra
   have hlen:its2.length=ds.length:=SeqAt.ReadsAll.length _ _ _ rds
   have hjl:j < ds.length:=by
    obtain⟨h1,_⟩:=dZ.mp hj
    exact h1
   have hmap:=SeqAt.readsAll_map ds _ _ hl rds
   have hget : ∀ (m:Nat) (h1:m < its2.length) (h2:m < ds.length),SeqAt.readOf s2.heap its2[m]=ds[m]:=fun m h1 h2=>by
    have:=congrArg (fun l=>l[m]?) hmap
    simp [h1,h2] at this
    exact this
   have heq:=SeqAt.items_eqAt (A:=X.A) (vs:=its2.toArray) (by simpa using rds) rdv hl hd.2.1 (by have:=Nat.min_le_left (i0 ds) d.depth;omega)
   obtain⟨h1,h2,h3⟩:=dZ.mp hj
   refine call_meets wA ⟨_,e3,rfl⟩ PySem.F.entry_tuple_index (PySem.F.args_tuple_index_2 _ _)
    (rQ p its2.toArray n3 dd sl _ (fun y=>jo (SeqAt.readOf s2.heap y) d) j (by rw [ay];omega) ?_ ?_) ⟨e3,heq,?_⟩
   ·have:=hget j (by omega) hjl
    simp only [CV,this];exact h2
   ·intro m hm hmj
    rw [ay] at hm
    have:=hget m hm (by exact dk (by assumption) (by assumption))
    simp only [CV,this]
    simpa using h3 m hmj
   ·exact⟨.int j,H2,I2.tok _,⟨_,rfl⟩,q⟩
theorem Dx {K:KX}{σ:St}{H:Hp}{Q:VK}{o:ME}{a:MA} (h:tM K (mMT dA o a) σ H Q):HV K (tM K o) (tMA K a) σ H Q:=by
 obtain⟨μ,S,ρ,u,S',hr,er,e,k⟩:=h
 obtain⟨x,S1,e1,e⟩:=aQ e
 refine⟨μ,S,ρ,x,S1,hr,er,e1,fun μ1 vx H1 p1 k1 hr1 rx => ?_⟩
 cases x with
 | tup us=>
   obtain⟨xs,S2,e2,e⟩:=aQ e
   obtain⟨p,vs,rfl,hp,rs⟩:=fw rx
   refine⟨⟨p,vs,rfl,hp⟩,μ1,S1,ρ,xs,S2,hr1,er.mono k1 p1,e2,fun μ2 ws H2 p2 k2 hr2 rws => ?_⟩
   unfold dA at e
   split at e
   ·rename_i x
    obtain⟨v,r,rfl,rx',rn⟩:=rws.inv
    rw [rn.nil_inv]
    cases q:Co S2 x us with
    | none=>rw [q] at e;cases e
    | some j=>
      rw [q] at e;cases e
      unfold Co at q
      cases q1:de (toD S' 39) us with
      | none=>rw [q1] at q;cases q
      | some ds=>
        rw [q1] at q
        simp only [ai] at q
        cases q2:toD S' 40 x with
        | none=>rw [q2] at q;cases q
        | some d=>
          rw [q2] at q
          simp only [ai] at q
          obtain⟨l1,l2⟩:=pD (nE (fun x y z=>pA S' 39 x y z) q1)
          exact⟨p,vs,v,ds,d,j,rfl,rfl,k2 p vs hp,pj hr2 (pb hr2 39) q1 (RUs.mono k2 p2 _ _ rs),l1,by exact bg (by assumption) (by decide),vS hr2 rx' q2,q,k μ2 _ H2 (p1.trans p2) (k1.trans k2) hr2 eJ⟩
   ·cases e
 | _=>cases e
end
end G
end
section
namespace G
open PySem PySem.Spec L2
open PyProof.Rows hiding St
section
theorem DU {h h':Heap}{o:Obj} (hk : ∀ b x,b ∉ [h.objs.size]->(h.push o).get? b=some x->h'.get? b=some x) : ∀ b x,h.get? b=some x->h'.get? b=some x:=
 fun b x e=>hk b x (fun hm=>by rw [du.mp hm] at e;exact bQ _ (aD e)) (aq _ e)
theorem xh (bs:List Bool):((aB bs.length).all fun i=>(bs[i]?).getD true)=bs.all id:=by
 rw [Bool.eq_iff_iff,bH,bH]
 constructor
 ·intro h b hb
  obtain⟨i,hi,rfl⟩:=List.getElem_of_mem hb
  have:=h i (br.mpr hi)
  simpa [bU hi] using this
 ·intro h i hi
  have hi':=br.mp hi
  simp only [bU hi',Option.getD_some]
  exact h _ (lr hi')
theorem z4 {bs:List Bool} : ∀ {us:List Value}{i:Nat}{v:Value},bK (bs.map V.bl) us->us[i]? = some v -> ∃ b,bs[i]? = some b/\v = .bool b:=fun {us i v} r h=>by
 have hl:=r.length
 rw [av] at hl
 have hi:i < bs.length:=by rw [hl];exact (ah.mp h).1
 obtain⟨u,hu,ru⟩:=r.get (i:=i) (x := .bl bs[i]) (by simp [hi])
 rw [h] at hu;cases hu
 exact⟨bs[i],by simp [hi],ru⟩
section
variable {X:Cx}
theorem zF (hc:X.calm=true):gO X (.builtin "all") (fun xs H Q => ∃ (p:Addr) (bs:List Bool),xs = [.ref p]/\SqL X.K H p (bs.map V.bl)/\Q (.bl (bs.all id)) H):=by
 intro pins s σ H xs us Q I rs h
 obtain⟨p,bs,rfl,hS,q⟩:=h
 cases rs with
 | cons r1 rr=>
   cases rr
   cases (show _=bc p from r1)
   obtain⟨its,rv,pl,_⟩:=I.list hS
   have hl:=pl.isList
   have hlt:p < s.heap.objs.size:=by obtain⟨_,e,_⟩:=hl;exact aD e
   refine call_all_walk (wpAny_pyIter_list hl ?_)
   refine⟨s.heap.objs.size,[s.heap.objs.size,p],[s.heap.objs.size],its.toArray.size,_,_,fun i=>(bs[i]?).getD true,rfl,Walks.list (A:=X.A.in1) (I.ok.hd hc) _ p (aP hlt) its.toArray,
    ⟨⟨_,aC _ rfl,rfl,rfl⟩,hl.push _⟩,fun i v s' Q' E' hP hQ => ?_,fun h' tk hk => ?_⟩
   ·obtain⟨b,e,rfl⟩:=z4 rv (by simpa using hP)
    simp only [e,Option.getD_some] at hQ
    exact dm hQ
   ·have e:((aB its.toArray.size).all fun i=>(bs[i]?).getD true)=bs.all id:=by
     rw [ay,<- rv.length,av];exact xh bs
    rw [e]
    exact⟨.bl _,H,I.kept (DU hk),rfl,q⟩
end
noncomputable def kH:U->Option Bool
 | .bl b=>some b
 | _=>none
noncomputable def rL:MF:=fun us S=>match us with
 | [.ref n]=>(getL S n).bind fun xs=>(de kH xs).map fun bs=>(.bl (bs.all id),S)
 | _=>none
theorem vP {H:Hp}{μ:List Addr} : ∀ {us:List U}{vs:List V}{bs:List Bool},RUs H μ us vs->de kH us=some bs->vs=bs.map V.bl
 | [],vs,bs,r,e=>by cases e;rw [r.nil_inv];rfl
 | u::us,vs,bs,r,e=>by
   obtain⟨v,r',rfl,a,b⟩:=r.inv
   unfold de at e
   cases u with
   | bl x=>
     simp only [kH,ai] at e
     cases q:de kH us with
     | none=>rw [q] at e;cases e
     | some cs=>
       rw [q] at e;cases e
       rw [fV a,vP b q];rfl
   | _=>cases e
section
variable {K:KX}
theorem F5:qD K (fun xs H Q => ∃ (p:Addr) (bs:List Bool),xs = [.ref p]/\SqL K H p (bs.map V.bl)/\Q (.bl (bs.all id)) H) rL:=by
 intro μ S H us vs u S' Q hr rs e a
 unfold rL at e
 split at e
 ·rename_i n
  obtain⟨v,r,rfl,rx,rn⟩:=rs.inv
  rw [rn.nil_inv]
  cases q:getL S n with
  | none=>rw [q] at e;cases e
  | some xs=>
    rw [q] at e
    simp only [ai] at e
    cases q2:de kH xs with
    | none=>rw [q2] at e;cases e
    | some bs=>
      rw [q2] at e;cases e
      obtain⟨p,rfl,hp⟩:=dR rx
      obtain⟨p',ys,hp',hs,r'⟩:=hr.sq q
      rw [hp] at hp';cases hp'
      rw [vP r' q2] at hs
      exact⟨p,bs,rfl,hs,a.now hr dX⟩
 ·cases e
end
end
end G
end
section
namespace G
open PySem PySem.Spec L2
open PyProof.Rows hiding St
section
noncomputable def eK:U->Option V
 | .non=>some .non
 | .bl b=>some (.bl b)
 | .int i=>some (.int i)
 | .str x=>some (.str x)
 | _=>none
noncomputable def oIn:F2:=fun x y S=>match fv S y with
 | some kvs=>(keyOf x).map fun k=>(.bl (lC kvs k).isSome,S)
 | none=>(eK x).bind fun vx=>(dI S y).bind fun ys=>(de eK ys).map fun vs=>(.bl (inV vx vs),S)
noncomputable def fS:F2:=fun x y S=>match fv S y with
 | some kvs=>(keyOf x).map fun k=>(.bl (!(lC kvs k).isSome),S)
 | none=>(eK x).bind fun vx=>(dI S y).bind fun ys=>(de eK ys).map fun vs=>(.bl (!inV vx vs),S)
theorem t6 {H:Hp}{μ:List Addr}{u:U}{v w:V} (e:eK u=some v) (r:RU H μ u w):w=v/\lN v=true:=by
 cases u <;> simp only [eK,eP,reduceCtorEq] at e <;> subst e <;> exact⟨by simpa only [RU] using r,rfl⟩
theorem qH {H:Hp}{μ:List Addr} : ∀ {us:List U}{vs ws:List V},de eK us=some vs->RUs H μ us ws->ws=vs/\vs.all lN=true
 | [],vs,ws,e,r=>by cases e;rw [r.nil_inv];exact⟨rfl,rfl⟩
 | u::us,vs,ws,e,r=>by
   obtain⟨v,r',rfl,a,b⟩:=r.inv
   unfold de at e
   cases q1:eK u with
   | none=>rw [q1] at e;cases e
   | some x=>
     cases q2:de eK us with
     | none=>rw [q1,q2] at e;cases e
     | some xs=>
       rw [q1,q2] at e;cases e
       obtain⟨e1,f1⟩:=t6 q1 a
       obtain⟨e2,f2⟩:=qH q2 b
       exact⟨by rw [e1,e2],by rw [cm,f1,f2];rfl⟩
section
variable {K:KX}
noncomputable def Ej (K:aj) (neg:Bool):R2:=fun y x H Q=>rIn K neg y x H Q \/ ∃ a o,x = .ref a/\rK H a y o/\Q (.bl (if neg then !o.isSome else o.isSome)) H
theorem GI {X:Cx} (hu:X.A.units+1 < cLine):OpR X (compareOp .In) (Ej X.K false):=by
 intro pins s σ H x y v u Q I rx ry h
 rcases h with h | ⟨a,o,rfl,g,q⟩
 ·exact zh pins s σ H x y v u Q I rx ry h
 ·obtain rfl:u=bc a:=ry
  exact LQ hu I g rx fun s3 I3=>⟨.bl o.isSome,H,I3,rfl,q⟩
theorem zt {X:Cx} (hu:X.A.units+1 < cLine):OpR X (compareOp .NotIn) (Ej X.K true):=by
 intro pins s σ H x y v u Q I rx ry h
 rcases h with h | ⟨a,o,rfl,g,q⟩
 ·exact tI pins s σ H x y v u Q I rx ry h
 ·obtain rfl:u=bc a:=ry
  exact Ez hu I g rx fun s3 I3=>⟨.bl (!o.isSome),H,I3,rfl,q⟩
theorem Jk:OpU K (Ej K false) oIn:=by
 intro μ S H x y vx vy u S' Q hr rx ry e a
 unfold oIn at e
 split at e
 ·rename_i kvs qd
  cases qk:keyOf x with
  | none=>rw [qk] at e;cases e
  | some kk=>
    rw [qk] at e;cases e
    obtain⟨p,vs,rfl,hp,r⟩:=hr.dic ry qd
    have hl:kvs.length=vs.length:=by have:=r.len;rwa [av] at this
    refine .inr ⟨p,_,rfl,.inl ⟨_,kk,.inl hp,kZ rx qk,rfl⟩,?_⟩
    simp only [eU,if_false]
    rw [qA hl]
    exact a.now hr dX
 refine .inl ?_
 cases q1:eK x with
 | none=>rw [q1] at e;cases e
 | some fx=>
   cases q2:dI S y with
   | none=>rw [q1,q2] at e;cases e
   | some ys=>
     cases q3:de eK ys with
     | none=>rw [q1,q2] at e;simp only [ai,q3] at e;cases e
     | some vs=>
       rw [q1,q2] at e;simp only [ai,q3] at e;cases e
       obtain⟨rfl,f1⟩:=t6 q1 rx
       obtain⟨p,zs,rfl,hs,r'⟩:=hr.seq ry q2
       obtain⟨rfl,f2⟩:=qH q3 r'
       exact⟨p,zs,rfl,hs,f1,f2,a.now hr dX⟩
theorem Cf:OpU K (Ej K true) fS:=by
 intro μ S H x y vx vy u S' Q hr rx ry e a
 unfold fS at e
 split at e
 ·rename_i kvs qd
  cases qk:keyOf x with
  | none=>rw [qk] at e;cases e
  | some kk=>
    rw [qk] at e;cases e
    obtain⟨p,vs,rfl,hp,r⟩:=hr.dic ry qd
    have hl:kvs.length=vs.length:=by have:=r.len;rwa [av] at this
    refine .inr ⟨p,_,rfl,.inl ⟨_,kk,.inl hp,kZ rx qk,rfl⟩,?_⟩
    simp only [if_true]
    rw [qA hl]
    exact a.now hr dX
 refine .inl ?_
 cases q1:eK x with
 | none=>rw [q1] at e;cases e
 | some fx=>
   cases q2:dI S y with
   | none=>rw [q1,q2] at e;cases e
   | some ys=>
     cases q3:de eK ys with
     | none=>rw [q1,q2] at e;simp only [ai,q3] at e;cases e
     | some vs=>
       rw [q1,q2] at e;simp only [ai,q3] at e;cases e
       obtain⟨rfl,f1⟩:=t6 q1 rx
       obtain⟨p,zs,rfl,hs,r'⟩:=hr.seq ry q2
       obtain⟨rfl,f2⟩:=qH q3 r'
       exact⟨p,zs,rfl,hs,f1,f2,a.now hr dX⟩
noncomputable def oIs:F2:=fun x y S=>match x,y with
 | .bl i,.bl j=>some (.bl (i == j),S)
 | .bl _,.non=>some (.bl false,S)
 | .non,.bl _=>some (.bl false,S)
 | .non,.non=>some (.bl true,S)
 | .tup _,.non=>some (.bl false,S)
 | .ref _,.non=>some (.bl false,S)
 | .int _,.non=>some (.bl false,S)
 | _,_=>none
noncomputable def ix:F2:=fun x y S=>match x,y with
 | .bl i,.bl j=>some (.bl (i != j),S)
 | .bl _,.non=>some (.bl true,S)
 | .non,.bl _=>some (.bl true,S)
 | .non,.non=>some (.bl false,S)
 | .tup _,.non=>some (.bl true,S)
 | .ref _,.non=>some (.bl true,S)
 | .int _,.non=>some (.bl true,S)
 | _,_=>none
noncomputable def rIs (neg:Bool):R2:=fun x y H Q=>(∃ i j,x = .bl i/\y = .bl j/\Q (.bl (if neg then i != j else i == j)) H)\/(∃ i,x = .bl i/\y = .non/\Q (.bl neg) H) \/
 (∃ j,x = .non/\y = .bl j/\Q (.bl neg) H)\/(x = .non/\y = .non/\Q (.bl (!neg)) H) \/
 (∃ p,x = .ref p/\y = .non/\Q (.bl neg) H)\/(∃ i,x = .int i/\y = .non/\Q (.bl neg) H)
theorem Ge {X:Cx}:OpR X (compareOp .Is) (rIs false):=by
 intro pins s σ H x y v u Q I rx ry h
 rcases h with⟨i,j,rfl,rfl,q⟩ | ⟨i,rfl,rfl,q⟩ | ⟨j,rfl,rfl,q⟩ | ⟨rfl,rfl,q⟩ | ⟨p,rfl,rfl,q⟩ | ⟨i,rfl,rfl,q⟩
 ·cases rx;cases ry
  exact is_bool ⟨.bl _,H,I,rfl,q⟩
 ·cases rx;cases ry
  exact is_bool_none ⟨.bl _,H,I,rfl,q⟩
 ·cases rx;cases ry
  exact ax ⟨.bl _,H,I,rfl,q⟩
 ·cases rx;cases ry
  exact is_none_none ⟨.bl _,H,I,rfl,q⟩
 ·cases rx;cases ry
  exact ax ⟨.bl _,H,I,rfl,q⟩
 ·obtain⟨t,rfl⟩:=rx;cases ry
  exact ax ⟨.bl _,H,I,rfl,q⟩
theorem zJ {X:Cx}:OpR X (compareOp .IsNot) (rIs true):=by
 intro pins s σ H x y v u Q I rx ry h
 rcases h with⟨i,j,rfl,rfl,q⟩ | ⟨i,rfl,rfl,q⟩ | ⟨j,rfl,rfl,q⟩ | ⟨rfl,rfl,q⟩ | ⟨p,rfl,rfl,q⟩ | ⟨i,rfl,rfl,q⟩
 ·cases rx;cases ry
  exact isnot_bool ⟨.bl _,H,I,rfl,q⟩
 ·cases rx;cases ry
  exact isnot_bool_none ⟨.bl _,H,I,rfl,q⟩
 ·cases rx;cases ry
  exact ax ⟨.bl _,H,I,rfl,q⟩
 ·cases rx;cases ry
  exact isnot_none_none ⟨.bl _,H,I,rfl,q⟩
 ·cases rx;cases ry
  exact ax ⟨.bl _,H,I,rfl,q⟩
 ·obtain⟨t,rfl⟩:=rx;cases ry
  exact ax ⟨.bl _,H,I,rfl,q⟩
theorem gI {H:Hp}{μ:List Addr}{v:V} (h:RU H μ .non v):v = .non:=by simpa only [RU] using h
theorem Ky:OpU K (rIs false) oIs:=by
 intro μ S H x y vx vy u S' Q hr rx ry e a
 unfold oIs at e
 split at e <;> cases e
 ·rw [fV rx,fV ry];exact .inl ⟨_,_,rfl,rfl,a.now hr dX⟩
 ·rw [fV rx,gI ry];exact .inr (.inl ⟨_,rfl,rfl,a.now hr dX⟩)
 ·rw [gI rx,fV ry];exact .inr (.inr (.inl ⟨_,rfl,rfl,a.now hr dX⟩))
 ·rw [gI rx,gI ry];exact .inr (.inr (.inr (.inl ⟨rfl,rfl,a.now hr dX⟩)))
 ·obtain⟨p,_,rfl,_⟩:=fw rx
  rw [gI ry];exact .inr (.inr (.inr (.inr (.inl ⟨_,rfl,rfl,a.now hr dX⟩))))
 ·obtain⟨p,rfl,_⟩:=dR rx
  rw [gI ry];exact .inr (.inr (.inr (.inr (.inl ⟨_,rfl,rfl,a.now hr dX⟩))))
 ·rw [cw rx,gI ry];exact .inr (.inr (.inr (.inr (.inr ⟨_,rfl,rfl,a.now hr dX⟩))))
theorem Bp:OpU K (rIs true) ix:=by
 intro μ S H x y vx vy u S' Q hr rx ry e a
 unfold ix at e
 split at e <;> cases e
 ·rw [fV rx,fV ry];exact .inl ⟨_,_,rfl,rfl,a.now hr dX⟩
 ·rw [fV rx,gI ry];exact .inr (.inl ⟨_,rfl,rfl,a.now hr dX⟩)
 ·rw [gI rx,fV ry];exact .inr (.inr (.inl ⟨_,rfl,rfl,a.now hr dX⟩))
 ·rw [gI rx,gI ry];exact .inr (.inr (.inr (.inl ⟨rfl,rfl,a.now hr dX⟩)))
 ·obtain⟨p,_,rfl,_⟩:=fw rx
  rw [gI ry];exact .inr (.inr (.inr (.inr (.inl ⟨_,rfl,rfl,a.now hr dX⟩))))
 ·obtain⟨p,rfl,_⟩:=dR rx
  rw [gI ry];exact .inr (.inr (.inr (.inr (.inl ⟨_,rfl,rfl,a.now hr dX⟩))))
 ·rw [cw rx,gI ry];exact .inr (.inr (.inr (.inr (.inr ⟨_,rfl,rfl,a.now hr dX⟩))))
noncomputable def mCh (f g:F2) (a b c:ME):ME:=fun ρ S=>bnd (a ρ S) fun x S1=>bnd (b ρ S1) fun y S2=>bnd (f x y S2) fun z S3=>match z with
 | .bl true=>bnd (c ρ S3) fun w S4=>g y w S4
 | .bl false=>some (.bl false,S3)
 | _=>none
theorem yz {σ:St}{H:Hp}{Q:VK}{r r':R2}{f g:F2}{a b c:ME} (o:OpU K r f) (o':OpU K r' g) (h:tM K (mCh f g a b c) σ H Q):xn r r' (tM K a) (tM K b) (tM K c) σ H Q:=by
 obtain⟨μ,S,ρ,u,S',hr,er,e,k⟩:=h
 obtain⟨x,S1,e1,e⟩:=aQ e
 obtain⟨y,S2,e2,e⟩:=aQ e
 obtain⟨z,S3,e3,e⟩:=aQ e
 refine⟨μ,S,ρ,x,S1,hr,er,e1,fun μ1 vx H1 p1 k1 hr1 rx => ?_⟩
 refine⟨μ1,S1,ρ,y,S2,hr1,er.mono k1 p1,e2,fun μ2 vy H2 p2 k2 hr2 ry => ?_⟩
 refine o μ2 S2 H2 x y vx vy z S3 _ hr2 (RU.mono k2 p2 x vx rx) ry e3 fun μ3 vz H3 p3 k3 hr3 rz => ?_
 split at e
 ·refine⟨true,fV rz,?_⟩
  rw [if_pos rfl]
  obtain⟨w,S4,e4,e⟩:=aQ e
  refine⟨μ3,S3,ρ,w,S4,hr3,er.mono ((k1.trans k2).trans k3) ((p1.trans p2).trans p3),e4,fun μ4 vw H4 p4 k4 hr4 rw' => ?_⟩
  exact o' μ4 S4 H4 y w vy vw u S' Q hr4 (RU.mono (k3.trans k4) (p3.trans p4) y vy ry) rw' e (k.mono (((p1.trans p2).trans p3).trans p4) (((k1.trans k2).trans k3).trans k4))
 ·cases e
  refine⟨false,fV rz,?_⟩
  rw [if_neg bJ]
  exact k μ3 _ H3 ((p1.trans p2).trans p3) ((k1.trans k2).trans k3) hr3 dX
 ·cases e
noncomputable def et:Nat->List U->Sto->Res U:=fun n xs S=>match xs with
 | [.ref m]=>match S[n]?,S[m]? with
   | some (.lst us),some (.lst ws)=>if us.length+ws.length<=big then some (.non,S.set n (.lst (us++ws))) else none
   | _,_=>none
 | _=>none
theorem zf:MtU K yQ et:=by
 intro μ S H n p us vs u S' Q hr hp rs e a
 unfold et at e
 split at e
 ·rename_i m
  split at e
  ·rename_i xs ws q q2
   split at e
   ·rename_i hc
    cases e
    obtain⟨v,r,rfl,rx,rn⟩:=rs.inv
    rw [rn.nil_inv]
    obtain⟨b,rfl,hb⟩:=dR rx
    obtain⟨ys,e0,r0⟩:=hr.cell n _ p q hp
    obtain⟨zs,e1,r1⟩:=hr.cell m _ b q2 hb
    refine⟨p,b,ys,zs,rfl,rfl,e0,e1,?_,ui a hr q hp (r0.append r1) oG⟩
    have:=r0.len;have:=r1.len;unfold big at hc;rw [sizeLine_eq];omega
   ·cases e
  ·cases e
 ·cases e
end
noncomputable def nL (ns:List Int):List Int:=ns.mergeSort fun i j=>decide (i<=j)
noncomputable def qu:U->Option Int
 | .int i=>some i
 | _=>none
noncomputable def wY (n:Nat):Prop:=n < 64
noncomputable instance (n:Nat):Decidable (wY n):=cq _
noncomputable def mw:L2.Key×U->Option Int
 | (.inl i,_)=>some i
 | _=>none
noncomputable def qb (S:Sto) (x:U):Option (List Int):=match fv S x with
 | some kvs=>de mw kvs
 | none=>(dI S x).bind fun xs=>de qu xs
noncomputable def dG:MF:=fun us S=>match us with
 | [x]=>(qb S x).bind fun ns=>if wY ns.length then some (.ref S.length,S ++ [.lst ((nL ns).map U.int)]) else none
 | _=>none
theorem iW (ns:List Int):(nL ns).Perm ns:=List.mergeSort_perm _ _
theorem vJ (ns:List Int):(nL ns).Pairwise (· <= ·):=by
 have h:=List.pairwise_mergeSort (le:=fun (i j:Int)=>decide (i<=j)) (fun a b c h1 h2=>by simp at *;omega) (fun a b=>by simp;omega) ns
 exact h.imp fun h=>by simpa using h
theorem oO : ∀ {as bs:List Int},as.Perm bs->as.Pairwise (· <= ·)->bs.Pairwise (· <= ·)->as=bs
 | [],bs,p,_,_=>by rw [List.nil_perm.mp p]
 | a::as,[],p,_,_=>by cases List.perm_nil.mp p
 | a::as,b::bs,p,h1,h2=>by
   rw [List.pairwise_cons] at h1 h2
   have e:a=b:=by
    have m1:a∈b::bs:=p.subset (by simp)
    have m2:b∈a::as:=p.symm.subset (by simp)
    rcases aX.mp m1 with e | m1
    ·exact e
    ·rcases aX.mp m2 with e | m2
     ·exact e.symm
     ·have:=h1.1 b m2;have:=h2.1 a m1;omega
   subst e
   rw [oO (List.perm_cons _ |>.mp p) h1.2 h2.2]
theorem pM {ns ms:List Int} (p:ms.Perm ns) (h:ms.Pairwise (· <= ·)):ms=nL ns:=oO (p.trans (iW ns).symm) h (vJ ns)
theorem yT {H:Hp}{μ:List Addr} : ∀ {us:List U}{vs:List V}{ns:List Int},RUs H μ us vs->de qu us=some ns->vs=ns.map V.int
 | [],vs,ns,r,e=>by cases e;rw [r.nil_inv];rfl
 | u::us,vs,ns,r,e=>by
   obtain⟨v,r',rfl,a,b⟩:=r.inv
   unfold de at e
   cases u with
   | int x=>
     simp only [qu,ai] at e
     cases q:de qu us with
     | none=>rw [q] at e;cases e
     | some cs=>
       rw [q] at e;cases e
       rw [cw a,yT b q];rfl
   | _=>cases e
theorem intsAre_of : ∀ {ns:List Int}{us:List Value},bK (ns.map V.int) us->IntsAre us ns
 | [],us,r=>by cases r;exact .nil
 | n::ns,us,r=>by
   cases r with
   | cons a b=>
     obtain⟨t,rfl⟩:=a
     exact .cons n t (intsAre_of b)
theorem nY : ∀ {ns:List Int}{us:List Value},IntsAre us ns->bK (ns.map V.int) us
 | _,_,.nil => .nil
 | _,_,.cons n t r => .cons ⟨t,rfl⟩ (nY r)
theorem jc : ∀ {ns:List Int}{us:List Value},IntsAre us ns->us.length=ns.length
 | _,_,.nil=>rfl
 | _,_,.cons n t r=>by simp [jc r]
theorem xo {prog:Program}{w:World}{A:Around}{E:Value->Shared->Prop}{s:Shared}{Q:List Value->Shared->Prop} (it:Addr) {T:String}{o:Obj}{items:Array Value}{n:Nat} (hT:T="list"\/T="tuple")
  (ho:s.heap.get? it=some o) (hc:o.cls = .type T) (hd:o.data = .seq items n) (hsz:items.size<=sizeLine)
  (hQ : ∀ h',(∀ b o',s.heap.get? b=some o'->h'.get? b=some o')->s.heap.objs.size<=h'.objs.size->Q items.toList { s with heap:=h' }) :
  aJ (model prog w) A (collect (.ref it)) Q E s:=by
 unfold collect
 refine ag (CM (fM oI ?_))
 rw [dw oJ _]
 show aJ _ A.in1 (newList [] >>= fun l=>again (.builtin "list.__iadd__" ⟨[l,.ref it],[]⟩)) _ _ s
 refine ag (bx (ax ⟨plainId_quiet fP _,fM uB ?_⟩))
 rw [dw fP _]
 have hS:(s.heap.push { cls := .type "list",data := .seq ([]:List Value).toArray }).get? s.heap.objs.size=some { cls := .type "list",data := .seq #[] 0 }:=aC _ rfl
 have hS₂:=dS (dv (· ++ items)) hS rfl
 refine cN (wpAny_extend_seq (hsz:=hsz) (A:=A) (R:=fun r s'=>r = .ok (.ret (.ref s.heap.objs.size))/\s'={ s with heap:=(s.heap.push { cls := .type "list",data := .seq ([]:List Value).toArray }).update s.heap.objs.size (dv (· ++ items)) })
  (s:={ s with heap:=s.heap.push { cls := .type "list",data := .seq ([]:List Value).toArray } }) _ it _ 0 hT hS (aq _ ho) hc hd ⟨rfl,rfl⟩) (fun fin s' h => ?_) (fun e s' h=>absurd h.1 (by simp))
 have fin':aJ (model prog w) A (match bc s.heap.objs.size with
   | bc a=>do
     match (<- load a).data with
      | CU xs _=>pure xs.toList
      | _=>unsupported "internal:collect"
   | _=>unsupported "internal:collect") Q E { s with heap:=(s.heap.push { cls := .type "list",data := .seq ([]:List Value).toArray }).update s.heap.objs.size (dv (· ++ items)) }:=by
  show aJ _ A (load s.heap.objs.size >>= _) _ _ _
  refine ag (CH hS₂ (ax ?_))
  show Q ((#[]:Array Value)++items).toList _
  rw [show ((#[]:Array Value)++items).toList=items.toList by simp]
  exact hQ _ (fun b o' hb=>(dj _ _ (cZ (aD hb))).trans (aq _ hb)) (by rw [Heap.size_update,size_push'];exact d8 _)
 cases fin with
 | done f=>
   obtain⟨e,rfl⟩:=h
   cases e
   exact fin'
 | again c'=>exact⟨h.1,j5 h.2 fun r s'' hr=>by obtain⟨rfl,rfl⟩:=hr;exact fin'⟩
theorem qE {prog:Program}{w:World}{A:Around}{E:Value->Shared->Prop}{s:Shared}{l:Addr}{T:String}{o:Obj}{n:Nat}{vs:List Value}{ns:List Int}{Q:Value->Shared->Prop} (hT:T="list"\/T="tuple")
  (ho:s.heap.get? l=some o) (hc:o.cls = .type T) (hd:o.data = .seq vs.toArray n) (hI:IntsAre vs ns) (h64:vs.length < 64)
  (h : ∀ (out:Array Value) (ns':List Int) (a:Addr) (e:Nat) (h':Heap),IntsAre out.toList ns'->ns'.Perm ns->ns'.Pairwise (· <= ·)->s.heap.objs.size<=a->(∀ b o',s.heap.get? b=some o'->h'.get? b=some o') ->
   h'.get? a=some (seqObj "list" out e)->Q (.ref a) { s with heap:=h' }) :
  aJ (model prog w) A (call (.builtin "sorted") [.ref l]) Q E s:=by
 refine wG kind_sorted plain_sorted entry_sorted (args_sorted1 _) ?_
 unfold Builtin.«sorted»
 refine ag (m:=checkCount "sorted" 1 1 _) (ax ?_)
 refine ag (xo l hT ho hc hd (by rw [ay,sizeLine_eq];omega) fun h1 hk hle => ?_)
 refine ag (wpAny_newList ?_)
 have hoL:(h1.push (seqObj "list" vs.toArray 0)).get? h1.objs.size=some (seqObj "list" vs.toArray 0):=aC _ rfl
 show aJ _ _ _ _ _ { s with heap:=h1.push (seqObj "list" vs.toArray 0) }
 refine ag (eM (dY slot_list_sort ⟨_,hoL,rfl⟩ entry_list_sort (list_sort_tree hoL hI h64 fun out ns' a1 a2 a3=>⟨_,rfl,?_⟩) (args_list_sort _)))
 obtain⟨e,he⟩:=sortedHeap_at (out:=out) hoL
 exact ax ⟨_,rfl,h out ns' _ e _ a1 a2 a3 hle (fun b o' hb=>by
  have hb1:=hk b o' hb
  have hlt:=aD hb1
  rw [sortedHeap_old (aP hlt) (by rw [size_push'];exact dE hlt),Heap.get?_push_ne _ _ _ (aP hlt)]
  exact hb1) he⟩
theorem tS {prog:Program}{w:World}{A:Around}{E:Value->Shared->Prop}{s:Shared}{Q:List Value->Shared->Prop}{d:Addr}{vs:List (Key×Value)}{ep:Nat} (hh:A.handled=none) (hS:(d == sysModules)=false) (hm:s.heap.DictAt (dq prog w) d vs ep) (hn:vs.length<=sizeLine)
  (hQ : ∀ s' acc,(∀ b o,s.heap.get? b=some o->s'.heap.get? b=some o)->s'.gens=s.gens->s'.drawn=s.drawn->s'.os=s.os->ItemsOf (fun i v => ∃ k x,vs[i]? = some (k,x)/\(dq prog w).is k v=true) acc vs.length->s.heap.objs.size<=s'.heap.objs.size->Q acc.toList s'):aJ (model prog w) A (collect (.ref d)) Q E s:=by
 have hdl:d < s.heap.objs.size:=hm.lt_size
 let lo:Obj:={ cls := .type "list",data := .seq ([]:List Value).toArray }
 let io:Obj:={ cls := .type "dict_keyiterator",data := .fields #[.ref d,.int 0 0,.int vs.length 0,.int ep 0] }
 have hm1:(s.heap.push lo).DictAt (dq prog w) d vs ep:=hm.push lo
 have hT1:Shared.TypeIs { s with heap:=s.heap.push lo } (.ref d) "dict":=hm1.dictOf.typeIs
 unfold collect
 refine ag (CM (fM oI ?_))
 rw [dw oJ _]
 show aJ _ A.in1 (newList [] >>= fun l=>again (.builtin "list.__iadd__" ⟨[l,.ref d],[]⟩)) _ _ s
 refine ag (bx (ax ⟨plainId_quiet fP _,fM uB ?_⟩))
 rw [dw fP _]
 show aJ _ A.in1 (o7 (.ref s.heap.objs.size) (.ref d) (.ref s.heap.objs.size)) _ _ _
 unfold o7
 refine ag (iY hT1 ?_)
 have hne:rg (.ref s.heap.objs.size) (.ref d)=false:=by simp [rg];exact cZ hdl
 rw [if_neg (by rw [hne];decide)]
 refine ag (wpAny_pyIter_dict hS hm1 ?_)
 refine ag (eM ?_)
 unfold Builtin.List.listLengthHint
 have hT2:Shared.TypeIs { s with heap:=(s.heap.push lo).push io } (.ref d) "dict":=(hm1.push io).dictOf.typeIs
 refine ag (oR hT2 PySem.F.slot_dict_len.lookup ?_)
 generalize hid:("dict.__len__":String)=id0
 wp_delta
 rw [show splitId id0=some ("dict","__len__") from by subst hid;decide +kernel]
 subst hid
 refine ag (xQ (b:=true) hT2 (by rw [isSubtype_type];kernel_rfl) ?_)
 simp only [Bool.not_true,eU,if_false]
 rw [if_pos (by decide +kernel)]
 refine ag (iY hT2 (ax ?_))
 rw [if_pos (by decide +kernel)]
 refine ag (wpAny_rule (ag ?_))
 have hne2:s.heap.objs.size≠(s.heap.push lo).objs.size:=by rw [bB];exact aP (bw _)
 have hL1:((s.heap.push lo).push io).get? s.heap.objs.size=some lo:=aq _ (aC _ rfl)
 show aJ _ A.in1 (updateSeq s.heap.objs.size (·.push .none) >>= fun _=>updateSeq s.heap.objs.size (·.pop)) _ _ _
 refine ag (wpAny_updateSeq hL1 rfl ?_)
 have hL2:=dS (dv (·.push jF)) hL1 rfl
 refine wpAny_updateSeq hL2 rfl ?_
 have hL3:=dS (dv (·.pop)) hL2 rfl
 have oth : ∀ b o,b≠s.heap.objs.size->((s.heap.push lo).push io).get? b=some o->((((s.heap.push lo).push io).update s.heap.objs.size (dv (·.push jF))).update s.heap.objs.size (dv (·.pop))).get? b=some o:=
  fun b o hb e=>(dj _ _ (eg hb)).trans ((dj _ _ (eg hb)).trans e)
 have hI:(s.heap.push lo).objs.size=s.heap.objs.size+1:=bB ..
 have hdI:d≠(s.heap.push lo).objs.size:=by rw [hI];exact aP (dE hdl)
 have W:=(Walks.dictKeys (prog:=prog) (w:=w) (A:=A.in1) (knd:=dq prog w) hh (s.heap.push lo).objs.size d hdI vs ep).toS
 have hSf:s.heap.objs.size ∉ [(s.heap.push lo).objs.size,d]:=by
  rw [hI]
  intro z
  rcases aX.mp z with z | z
  ·omega
  ·rw [du] at z;exact absurd z (cZ hdl)
 have it0:((s.heap.push lo).push io).IsKeyIter (s.heap.push lo).objs.size d 0 vs.length ep:=⟨io,aC _ rfl,rfl,rfl⟩
 refine ax ⟨plainId_quiet F.plain_extend_loop _,codeAny_extend_loopS W hn s.heap.objs.size hSf _ vs.length 0 _ _ _ rfl (dB _) ?_ hL3 (ItemsOf.nil _) fun s' acc' c' hmv hS' hacc => ?_⟩
 ·exact⟨it0.at fun o e=>oth _ o (eg hne2) e,(hm1.push io).at' fun o e=>oth _ o (aP hdl) e⟩
 ·show aJ _ A (load s.heap.objs.size >>= _) _ _ s'
  refine ag (CH hS' (ax (hQ s' acc' (fun b o e => ?_) hmv.gens hmv.drawn hmv.os hacc (bG (aD hS')))))
  have hb:b < s.heap.objs.size:=aD e
  refine hmv.heap b o ?_ (oth b o (aP hb) (aq _ (aq _ e)))
  rw [hI]
  intro z
  rcases aX.mp z with z | z
  ·exact absurd z (aP hb)
  ·rw [du] at z;exact absurd z (aP (dE hb))
theorem sj : ∀ {l:List Value}{ns:List Int},l.length=ns.length->(∀ (j:Nat) (v:Value),l[j]? = some v -> ∃ i t,ns[j]? = some i/\v = .int i t)->IntsAre l ns
 | [],[],_,_ => .nil
 | [],_::_,h,_=>by simp at h
 | _::_,[],h,_=>by simp at h
 | v::l,n::ns,h,k=>by
   obtain⟨i,t,e,rfl⟩:=k 0 v rfl
   simp at e;subst e
   exact .cons n t (sj (by simpa using h) fun j w hj=>by simpa using k (j+1) w (by simpa using hj))
theorem vp {prog:Program}{w:World}{A:Around}{E:Value->Shared->Prop}{s:Shared}{d:Addr}{vs:List (Key×Value)}{ns:List Int}{Q:Value->Shared->Prop} (hh:A.handled=none) (hS:(d == sysModules)=false) (hm:s.heap.DictOf (dq prog w) d vs) (hk:vs.map (·.1)=ns.map fe) (h64:ns.length < 64)
  (h : ∀ (out:Array Value) (ns':List Int) (a:Addr) (e:Nat) (h':Heap) (tk:Nat),IntsAre out.toList ns'->ns'.Perm ns->ns'.Pairwise (· <= ·)->s.heap.objs.size<=a->(∀ b o',s.heap.get? b=some o'->h'.get? b=some o') ->
   h'.get? a=some (seqObj "list" out e)->Q (.ref a) { s with heap:=h',toks:=tk }) :
  aJ (model prog w) A (call (.builtin "sorted") [.ref d]) Q E s:=by
 obtain⟨ep,hm⟩:=hm.dictAt
 have hlen:vs.length=ns.length:=by have:=congrArg CQ hk;simpa using this
 refine wG kind_sorted plain_sorted entry_sorted (args_sorted1 _) ?_
 unfold Builtin.«sorted»
 refine ag (m:=checkCount "sorted" 1 1 _) (ax (ag (tS hh hS hm (by rw [hlen,sizeLine_eq];omega) fun s1 acc hk1 hg hdr hos hacc hle => ?_)))
 have hI:IntsAre acc.toList ns:=sj (by rw [<- hlen,<- hacc.1];simp) fun j v hj=>by
  obtain⟨k,x,e,ik⟩:=hacc.2 j v (by simpa using hj)
  have e2:(vs.map (·.1))[j]? = some k:=by rw [bT,e];rfl
  rw [hk,bT] at e2
  cases q:ns[j]? with
  | none=>rw [q] at e2;cases e2
  | some i=>
    rw [q] at e2
    have e3:fe i=k:=bq e2
    subst e3
    rcases dC (show qq (fe i) v=true from ik) with⟨i',t,e4,e5⟩ | ⟨y,t,e4,_⟩
    ·cases e4;exact⟨_,t,rfl,e5⟩
    ·cases e4
 have hal:acc.toList.length < 64:=by rw [jc hI];exact h64
 refine ag (wpAny_newList ?_)
 have hoL:(s1.heap.push (seqObj "list" acc 0)).get? s1.heap.objs.size=some (seqObj "list" acc.toList.toArray 0):=aC _ rfl
 show aJ _ _ _ _ _ { s1 with heap:=s1.heap.push (seqObj "list" acc 0) }
 refine ag (eM (dY slot_list_sort ⟨_,hoL,rfl⟩ entry_list_sort (list_sort_tree hoL hI hal fun out ns' a1 a2 a3=>⟨_,rfl,?_⟩) (args_list_sort _)))
 obtain⟨e,he⟩:=sortedHeap_at (out:=out) hoL
 have hq:=h out ns' _ e _ s1.toks a1 a2 a3 hle (fun b o' hb=>by
  have hb1:=hk1 b o' hb
  have hlt:=aD hb1
  rw [sortedHeap_old (aP hlt) (by rw [size_push'];exact dE hlt),Heap.get?_push_ne _ _ _ (aP hlt)]
  exact hb1) he
 rw [<- hg,<- hdr,<- hos] at hq
 exact ax ⟨_,rfl,hq⟩
section
variable {X:Cx}
noncomputable def yx (K:aj):List V->Hp->VK->Prop:=fun xs H Q => ∃ (p:Addr) (ns:List Int),xs = [.ref p]/\((SqL K H p (ns.map V.int)\/SqT K H p (ns.map V.int)) \/ ∃ kvs,H p=some (.dK kvs)/\kvs.map (·.1)=ns.map fe)/\ns.length < 64 /\ ∀ l,H l=none->Q (.ref l) (upd H l (.lst ((nL ns).map V.int)))
theorem Ds {kvs:List (Key×V)}{vs:List (Key×Value)} (h:KV kvs vs):vs.map (·.1)=kvs.map (·.1):=by
 induction h with
 | nil=>rfl
 | cons a _ ih=>rw [be,be,ih,a.1]
theorem wc (hc:X.calm=true):gO X (.builtin "sorted") (yx X.K):=by
 intro pins s σ H xs us Q I rs h
 obtain⟨p,ns,rfl,hS,h64,q⟩:=h
 cases rs with
 | cons r1 rr=>
   cases rr
   cases (show _=bc p from r1)
   have fin : ∀ (out:Array Value) (ns':List Int) (a:Addr) (e:Nat) (h':Heap) (tk:Nat),IntsAre out.toList ns'->ns'.Perm ns->ns'.Pairwise (· <= ·)->s.heap.objs.size<=a->(∀ b o',s.heap.get? b=some o'->h'.get? b=some o') ->
    h'.get? a=some (seqObj "list" out e)->EP X pins σ Q (.ref a) { s with heap:=h',toks:=tk }:=by
    intro out ns' a e h' tk a1 a2 a3 hle hk he
    have e':=pM a2 a3
    subst e'
    refine⟨.ref a,_,I.laid (t':=tk) (o := .lst ((nL ns).map V.int)) hk hle ?_,rfl,q _ (I.hok.fresh hle)⟩
    refine⟨by rw [av,(iW ns).length_eq,sizeLine_eq];omega,out.toList,e,nY a1,?_⟩
    rw [he]
   rcases hS with (hS | hS) | ⟨kvs,hp,hks⟩
   ·obtain⟨its,rv,pl,_⟩:=I.list hS
    have hl:=pl.isList
    obtain⟨o,ho,hc,n,hd⟩:=hl
    have hI:=intsAre_of rv
    exact qE (.inl rfl) ho hc hd hI (by rw [jc hI];exact h64) fun out ns' a e h'=>fin out ns' a e h' s.toks
   ·obtain⟨its,rv,pl,_⟩:=I.tuple hS
    obtain⟨o,ho,hc,n,hd⟩:=pl
    have hI:=intsAre_of rv
    exact qE (.inr rfl) ho hc hd hI (by rw [jc hI];exact h64) fun out ns' a e h'=>fin out ns' a e h' s.toks
   ·obtain⟨_,hsm,vs,rel,dd⟩:=(show dW X.prog X.w H s.heap p (.dK kvs) from I.hok p _ hp)
    exact vp (I.ok.hd hc) hsm dd (by rw [Ds rel];exact hks) h64 fin
end
section
variable {K:KX}
theorem pY {H:Hp}{μ:List Addr} : ∀ ns:List Int,RUs H μ (ns.map U.int) (ns.map V.int)
 | [] => .nil
 | n::ns => .cons eJ (pY ns)
theorem yq : ∀ {kvs:List (Key×U)}{vs:List V},kvs.length=vs.length->(dV kvs vs).map (·.1)=kvs.map (·.1)
 | [],_,_=>rfl
 | _::_,[],h=>by simp at h
 | kv::kvs,v::vs,h=>by
   show kv.1::(dV kvs vs).map (·.1)=kv.1::kvs.map (·.1)
   rw [yq (by simpa using h)]
theorem sQ : ∀ {kvs:List (Key×U)}{ns:List Int},de mw kvs=some ns->kvs.map (·.1)=ns.map fe
 | [],ns,h=>by cases h;rfl
 | (k,u)::kvs,ns,h=>by
   unfold de at h
   cases k with
   | inr x=>cases h
   | inl i=>
     simp only [mw,ai] at h
     cases q:de mw kvs with
     | none=>rw [q] at h;cases h
     | some ms=>
       rw [q] at h;cases h
       rw [be,sQ q];rfl
theorem zy:qD K (yx K) dG:=by
 intro μ S H us vs u S' Q hr rs e a
 unfold dG at e
 split at e
 ·rename_i x
  obtain⟨v,r,rfl,rx,rn⟩:=rs.inv
  rw [rn.nil_inv]
  cases q:qb S x with
  | none=>rw [q] at e;cases e
  | some ns=>
    rw [q] at e;simp only [ai] at e
    split at e
    rotate_left
    ·cases e
    rename_i hc
    cases e
    unfold qb at q
    split at q
    ·rename_i kvs qd
     obtain⟨p,ws,rfl,hp,r'⟩:=hr.dic rx qd
     have hl:kvs.length=ws.length:=by have:=r'.len;rwa [av] at this
     exact⟨p,ns,rfl,.inr ⟨_,hp,by rw [yq hl];exact sQ q⟩,hc,fun l hl=>iF a hr (pY _) hl⟩
    ·cases q1:dI S x with
     | none=>rw [q1] at q;cases q
     | some ws=>
       rw [q1] at q
       obtain⟨p,ys,rfl,hs,r'⟩:=hr.seq rx q1
       rw [yT r' q] at hs
       exact⟨p,ns,rfl,.inl hs,hc,fun l hl=>iF a hr (pY _) hl⟩
 ·cases e
end
section
variable {X:Cx}
end
section
variable {K:KX}
end
end
end G
end
section
namespace G
open PySem PySem.Spec L2
open PyProof.Rows hiding St
section
section
variable {prog:Program}{w:World}{A:Around}{E:Value->Shared->Prop}{s:Shared}
theorem BB (xs:Array Value) (n:Nat) (hn:xs.size=n):((aB n).filterMap fun (k:Nat)=>xs[(((n:Int) - 1)+(k:Int)*(-1)).toNat]?).toArray=xs.toList.reverse.toArray:=by
 subst hn
 have e:(fun (k:Nat)=>xs[(((xs.size:Int) - 1)+(k:Int)*(-1)).toNat]?)=(fun i=>xs[i]?)∘fun k=>xs.size - 1 - k:=by
  funext k
  have e1:(((xs.size:Int) - 1)+(k:Int)*(-1)).toNat=xs.size - 1 - k:=by omega
  rw [e1];rfl
 rw [e,<- List.filterMap_map,PySem.W.krv_range,List.filterMap_reverse,PySem.W.krv_all]
theorem ow {sl:Addr}{n:Nat}{t:Tok}{Q:Int×Int×Nat->Shared->Prop} (hs:s.heap.IsSliceOf sl .none .none (.int (-1) t))
  (h:Q ((n:Int) - 1,-1,n) s):aJ (model prog w) A (eR (.ref sl) (pure (n:Int))) Q E s:=by
 obtain⟨os,hos,hcs,hds⟩:=id hs
 unfold eR pG
 refine ag (ag (eE hos hds (x := .none) rfl (ag (eE hos hds (x := .none) rfl (ag (eE hos hds (x := .int (-1) t) rfl (ax ?_)))))))
 refine ag (HT.slicePart_ (.int (-1) t) ?_)
 show aJ _ _ (if ((-1:Int) == 0)=true then _ else _) _ _ s
 rw [if_neg (by decide)]
 refine ag (HT.slicePart_ .none (ag (HT.slicePart_ .none (ag (ax ?_)))))
 show aJ _ _ (match dH none none (-1) (n:Int) with | (lo,hi)=>pure (lo,(-1:Int),bY lo hi (-1))) _ _ s
 have e1:dH none none (-1) (n:Int)=((n:Int) - 1,-1):=rfl
 have e2:bY ((n:Int) - 1) (-1) (-1)=n:=by
  unfold bY
  rw [if_neg (by decide)]
  split
  ·rw [show (-(-1):Int)=1 by decide,Int.ediv_one];omega
  ·omega
 rw [e1]
 show aJ _ _ (pure ((n:Int) - 1,(-1:Int),bY ((n:Int) - 1) (-1) (-1))) _ _ s
 rw [e2]
 exact ax h
theorem ng {t sl:Addr}{items:Array Value}{tk:Tok}{Q:Value->Shared->Prop} (ht:IsTup s.heap t items) (hs:s.heap.IsSliceOf sl .none .none (.int (-1) tk))
  (h:Q (.ref s.heap.objs.size) { s with heap:=s.heap.push { cls := .type "tuple",data := .seq items.toList.reverse.toArray } })
  (hsz:items.size<=sizeLine):aJ (model prog w) A (getItem (.ref t) (.ref sl)) Q E s:=by
 have htake:sizeOk (.seq items.toList.reverse.toArray):=by
  show items.toList.reverse.toArray.size<=sizeLine
  rw [ay,cQ,di];exact hsz
 obtain⟨os,hos,hcs,hds⟩:=id hs
 have hTs:s.TypeIs (.ref sl) "slice":=⟨os,hos,hcs⟩
 unfold getItem
 try with_reducible refine eM ?_
 first | refine ag (ax ?_) | skip
 refine ag (wy ht.typeIs (by decide) ?_)
 refine ag (ff (name:=jG "__getitem__") ht.typeIs cn
  (dY cn ht.typeIs entry_tuple_getitem ?_ (args_tuple_getitem _ _)))
 show aJ _ _ (iH (.ref t) >>= _) _ _ s
 refine ag (tupleItemsOf_ ht ?_)
 refine ag (iY hTs ?_)
 rw [if_pos (by decide)]
 refine ag (ow hs ?_)
 show aJ _ _ (if ((((items.size:Int) - 1) == 0&&(-1:Int) == 1&&items.size == items.size))=true then _ else _) _ _ s
 rw [if_neg (by simp),BB items _ rfl]
 first
  | exact ag (m:=bE _) (bx (ax ⟨_,rfl,ax h⟩) htake)
  | exact ag (m:=bE _) (bx (ag (ax (ax ⟨_,rfl,ax h⟩))) htake)
  | exact ag (ag (m:=bE _) (bx (ax (ax ⟨_,rfl,ax h⟩)) htake))
  | exact ag (ag (m:=bE _) (bx (ax ⟨_,rfl,ax h⟩) htake))
end
theorem bK.rev : ∀ {xs:List V}{us:List Value},bK xs us->bK xs.reverse us.reverse
 | _,_,.nil => .nil
 | x::xs,u::us,.cons a b=>by
   rw [dD,dD]
   exact (bK.rev b).append (.cons a .nil)
noncomputable def LL (K:aj):V->Hp->VK->Prop:=fun x H Q => ∃ a xs,x = .ref a/\((SqT K H a xs /\ ∀ p,H p=none->Q (.ref p) (upd H p (.tup xs.reverse)))\/(SqL K H a xs /\ ∀ p,H p=none->Q (.ref p) (upd H p (.lst xs.reverse))))
noncomputable def Ho (K:aj) (te:TE):TE:=fun σ H Q=>te σ H fun x H1=>LL K x H1 Q
section
variable {X:Cx}{e:Expr}{te:TE}{pos p2 p3 p4:Pos}{j:Nat}
theorem HY (he:PE X e te):PE X (.Subscript e (.Slice none none (some (.UnaryOp .USub (.Constant (.int 1) j p3) p4)) p2) pos) (Ho X.K te):=by
 intro pins s σ H Q I h
 refine Subscript_ (thn (he pins s σ H _ I h) fun v s1 ⟨x,H1,I1,r1,q1⟩ => ?_)
 refine wpAny_Slice ?_
 rw [evalPart_none,evalPart_some]
 refine ax (ax ?_)
 refine thn (FB BQ Ci pins s1 σ H1 (fun y H2=>y = .int (-1)/\H2=H1) I1 ⟨1,rfl,rfl,rfl⟩) fun u s3 ⟨y,H3,I3,ry,hy,hH⟩ => ?_
 subst hy hH
 obtain⟨t,rfl⟩:=ry
 have I4:Inv X pins σ H3 { s3 with heap:=s3.heap.push { cls := .type "slice",data := .fields #[.none,.none,.int (-1) t] } }:=I3.kept (t':=s3.toks) fun b ob q=>aq _ q
 show aJ (model X.prog X.w) X.A (subscriptTail e (.Slice none none (some (.UnaryOp .USub (.Constant (.int 1) j p3) p4)) p2) v (.ref s3.heap.objs.size)) (EP X pins σ Q) X.xe { s3 with heap:=s3.heap.push { cls := .type "slice",data := .fields #[.none,.none,.int (-1) t] } }
 obtain⟨a,xs,rfl,q1⟩:=q1
 cases r1
 rcases q1 with⟨hx,q⟩ | ⟨hx,q⟩
 ·obtain⟨its,r,ht,hz⟩:=I4.tuple hx
  have hlen:its.toArray.size=xs.length:=by rw [ay];exact r.length.symm
  refine tail_any (ops := [.ref a,.ref s3.heap.objs.size]) ht.typeIs PyProof.Rows.slot_tuple_getitem.lookup ?_ (by with_unfolding_all rfl)
  refine ng ht (ll ..) ?_ (by rw [hlen];exact hz)
  refine⟨.ref _,_,I4.laid (t':=s3.toks) (o := .tup xs.reverse) (fun b ob q=>aq _ q) (ak _) ?_,rfl,q _ (I4.hok.fresh (ak _))⟩
  exact⟨by rw [cQ];exact hz,_,bK.rev r,kQ _ _,_,aC _ rfl,rfl⟩
 ·obtain⟨its,r,ht,hz⟩:=I4.list hx
  refine tail_any (ops := [.ref a,.ref s3.heap.objs.size]) ht.isList.typeIs slot_list_getitem.lookup ?_ (by with_unfolding_all rfl)
  refine wpAny_getItem_list_slice ht.isList (ll ..) .none .none (.int (-1) t) (by decide) ?_ (by rw [ay,<- r.length];exact hz)
  rw [PySem.W.krv_pick]
  refine⟨.ref _,_,I4.laid (t':=s3.toks) (o := .lst xs.reverse) (fun b ob q=>aq _ q) (ak _) ?_,rfl,q _ (I4.hok.fresh (ak _))⟩
  exact⟨by rw [cQ];exact hz,_,0,bK.rev r,aC _ rfl⟩
end
noncomputable def mB:U->Sto->Res U:=fun x S=>match x with
 | .tup us=>some (.tup us.reverse,S)
 | .ref n=>(getL S n).map fun us=>(.ref S.length,S ++ [.lst us.reverse])
 | _=>none
theorem RUs.rev {H:Hp}{μ:List Addr} : ∀ {us:List U}{vs:List V},RUs H μ us vs->RUs H μ us.reverse vs.reverse
 | [],vs,r=>by rw [r.nil_inv];exact .nil
 | u::us,vs,r=>by
   obtain⟨v,r',rfl,a,b⟩:=r.inv
   rw [dD,dD]
   exact (RUs.rev b).append (.cons a .nil)
section
variable {K:KX}{σ:St}{H:Hp}{Q:VK}
theorem Kw {a:ME} (h:tM K (m1 mB a) σ H Q):Ho K (tM K a) σ H Q:=by
 obtain⟨μ,S,ρ,u,S',hr,er,e,k⟩:=h
 obtain⟨x,S1,e1,e⟩:=aQ e
 refine⟨μ,S,ρ,x,S1,hr,er,e1,fun μ1 vx H1 p1 k1 hr1 rx => ?_⟩
 have k':=k.mono p1 k1
 unfold mB at e
 split at e
 ·cases e
  obtain⟨p,vs,rfl,hp,rs⟩:=fw rx
  refine⟨p,vs,rfl,.inl ⟨.inl (.inl hp),fun l hl => ?_⟩⟩
  exact k' μ1 _ _ (Pre.refl _) (bj.new hl) (hr1.tup hl) (iw cg (RUs.mono (bj.new hl) (Pre.refl _) _ _ (RUs.rev rs)))
 ·rename_i n
  cases q:getL S1 n with
  | none=>rw [q] at e;cases e
  | some us=>
    rw [q] at e;cases e
    obtain⟨p,rfl,hp⟩:=dR rx
    obtain⟨p',ys,hp',hs,r'⟩:=hr1.sq q
    rw [hp] at hp';cases hp'
    exact⟨p,ys,rfl,.inr ⟨hs,fun l hl=>iF k' hr1 (RUs.rev r') hl⟩⟩
 ·cases e
end
end
end G
end
section
namespace G
open PySem PySem.Spec L2
open PyProof.Rows hiding St
section
noncomputable def qF (k v:ME):ME:=fun ρ S=>bnd (k ρ (S ++ [.dic []])) fun x S1=>bnd (v ρ S1) fun y S2=>(keyOf x).bind fun kk=>match S2[S.length]? with
 | some (.dic [])=>some (.ref S.length,S2.set S.length (.dic [(kk,y)]))
 | _=>none
section
variable {K:KX}{σ:St}{H:Hp}{Q:VK}
theorem Dk {μ:List Addr}{S:Sto}{p:Addr} (hr:HR K μ S H) (hp:H p=none):HR K (μ ++ [p]) (S ++ [.dic []]) (upd H p (.dK [])):=
 hr.newC hp rfl ⟨[],cg,.nil⟩
theorem DP {μ:List Addr}{S:Sto}{p:Addr} (hr:HR K μ S H):(μ ++ [p])[S.length]? = some p:=by
 rw [<- hr.len,ar (ak _)];simp
theorem GO {a b:ME} (h:tM K (qF a b) σ H Q):Fo [(tM K a,tM K b)] σ H Q:=by
 obtain⟨μ,S,ρ,u,S',hr,er,e,k⟩:=h
 intro p hp
 obtain⟨x,S1,e1,e⟩:=aQ e
 obtain⟨y,S2,e2,e⟩:=aQ e
 have pre:Pre μ (μ ++ [p]):=⟨[p],rfl⟩
 refine⟨μ ++ [p],S ++ [.dic []],ρ,x,S1,Dk hr hp,er.mono (bj.new hp) pre,e1,fun μ1 vx H1 p1 k1 hr1 rx => ?_⟩
 refine⟨μ1,S1,ρ,y,S2,hr1,er.mono ((bj.new hp).trans k1) (pre.trans p1),e2,fun μ2 vy H2 p2 k2 hr2 ry => ?_⟩
 cases qk:keyOf x with
 | none=>rw [qk] at e;cases e
 | some kk=>
   rw [qk] at e
   simp only [ai] at e
   split at e
   ·rename_i q
    cases e
    have hm:=p2.get (p1.get (DP hr (p:=p)))
    obtain⟨vs,e0,r0⟩:=hr2.cell _ _ p q hm
    have hv:vs = []:=r0.nil_inv
    subst hv
    have kw:bj H2 (upd H2 p (.dK (ox [] [(kk,vy)]))):=bj.wrG e0 fun _ z=>by cases z
    refine⟨e0,[(kk,vy)],?_,by simp,?_⟩
    ·rw [kZ (RU.mono k2 p2 _ _ rx) qk];rfl
    ·refine k μ2 _ _ (pre.trans (p1.trans p2)) ((bj.new hp).trans (k1.trans (k2.trans kw))) (hr2.wrC q hm rfl rfl ⟨[vy],by rw [cg];rfl,.cons (RU.mono kw (Pre.refl _) _ _ ry) .nil⟩) (tZ hm)
   ·cases e
noncomputable def Ka (i:Int):Prop:=i.natAbs.log2 < 1920
noncomputable instance (i:Int):Decidable (Ka i):=cq _
end
end
end G
end
section
namespace G
open PySem PySem.Spec L2
open PyProof.Rows hiding St
section
abbrev MG:=U->Rho->Sto->Option (Rho×Sto)
abbrev MGs:=List U->Rho->Sto->Option (Rho×Sto)
noncomputable def gN (i:Nat):MG:=fun u ρ S=>some (ρ.set i (some u),S)
noncomputable def gSb (o i:ME):MG:=fun x ρ S=>bnd (o ρ S) fun p S2=>bnd (i ρ S2) fun j S3=>match p with
 | .ref n=>match S3[n]? with
   | some (.lst us)=>(match j with
     | .int k=>(L2.ixN us.length k).map fun m=>(ρ,S3.set n (.lst (us.set m x)))
     | _=>none)
   | some (.dic kvs)=>(keyOf j).bind fun k=>if kvs.length < big then some (ρ,S3.set n (.dic (uV kvs k x))) else none
   | _=>none
 | _=>none
noncomputable def qR:MGs:=fun us ρ S=>match us with
 | []=>some (ρ,S)
 | _=>none
noncomputable def gp (g:MG) (r:MGs):MGs:=fun us ρ S=>match us with
 | []=>none
 | u::us=>(g u ρ S).bind fun p=>r us p.1 p.2
noncomputable def gTp (n:Nat) (gs:MGs):MG:=fun u ρ S=>match u with
 | .tup us=>if us.length=n then gs us ρ S else none
 | _=>none
noncomputable def vq (e:ME) (g:MG):MS:=fun ρ S=>bnd (e ρ S) fun x S1=>(g x ρ S1).map fun p=>(.nx,p.1,p.2)
noncomputable def tG (K:KX) (g:MG):TG:=fun v σ H Q => ∃ μ S ρ u r,HR K μ S H/\ER H μ ρ σ/\RU H μ u v/\g u ρ S=some r /\ ∀ μ' σ' H',Pre μ μ'->bj H H'->HR K μ' r.2 H'->ER H' μ' r.1 σ'->Q σ' H'
noncomputable def tGs (K:KX) (g:MGs):TGs:=fun vs σ H Q => ∃ μ S ρ us r,HR K μ S H/\ER H μ ρ σ/\RUs H μ us vs/\g us ρ S=some r /\ ∀ μ' σ' H',Pre μ μ'->bj H H'->HR K μ' r.2 H'->ER H' μ' r.1 σ'->Q σ' H'
theorem PG.con {X:Cx}{tg:Expr}{t u:TG} (h:PG X tg t) (k : ∀ v σ H Q,u v σ H Q->t v σ H Q):PG X tg u:=fun pins s σ H v w Q I r q=>h pins s σ H v w Q I r (k _ _ _ _ q)
theorem PGs.con {X:Cx}{tg:List Expr}{t u:TGs} (h:PGs X tg t) (k : ∀ v σ H Q,u v σ H Q->t v σ H Q):PGs X tg u:=fun pins s σ H v w Q I r q=>h pins s σ H v w Q I r (k _ _ _ _ q)
section
variable {K:KX}{σ:St}{H:Hp}{Q:St->Hp->Prop}{v:V}{D:Ends}
theorem LP {i:Nat} (h:tG K (gN i) v σ H Q):iB i v σ H Q:=by
 obtain⟨μ,S,ρ,u,r,hr,er,ru,e,k⟩:=h
 cases e
 exact k μ _ H (Pre.refl _) (bj.refl _) hr (er.set ru i)
theorem LV {o i:ME} (h:tG K (gSb o i) v σ H Q):Ig (tM K o) (tM K i) Bi v σ H Q:=by
 obtain⟨μ,S,ρ,x,r,hr,er,rx,e,k⟩:=h
 obtain⟨p,S2,e2,e⟩:=aQ e
 obtain⟨j,S3,e3,e⟩:=aQ e
 refine⟨μ,S,ρ,_,S2,hr,er,e2,fun μ2 vo H2 p2 k2 hr2 ro => ?_⟩
 refine⟨μ2,S2,ρ,_,S3,hr2,er.mono k2 p2,e3,fun μ3 vi H3 p3 k3 hr3 ri => ?_⟩
 have rx3:RU H3 μ3 x v:=RU.mono (k2.trans k3) (p2.trans p3) _ _ rx
 split at e
 ·rename_i n _
  obtain⟨a,rfl,ha⟩:=dR ro
  have ha3:=p3.get ha
  split at e
  ·rename_i us q
   split at e
   rotate_left
   ·cases e
   rename_i kk
   cases z:ixN us.length kk with
   | none=>rw [z] at e;cases e
   | some m'=>
     rw [z] at e;cases e
     obtain⟨vs,e0,r0⟩:=hr3.cell n _ a q ha3
     refine .inl ⟨a,vs,kk,m',rfl,cw ri,e0,by rw [<- r0.len];exact z,?_⟩
     have kw:bj H3 (upd H3 a (.lst (vs.set m' v))):=bj.wr e0
     exact k μ3 _ _ (p2.trans p3) (k2.trans (k3.trans kw)) (hr3.wr q ha3 (r0.set rx3 m')) (er.mono (k2.trans (k3.trans kw)) (p2.trans p3))
  ·rename_i kvs q
   cases qk:keyOf j with
   | none=>rw [qk] at e;cases e
   | some kk=>
     rw [qk] at e
     simp only [ai] at e
     split at e
     ·rename_i hz
      cases e
      obtain⟨vs,e0,r0⟩:=hr3.cell n _ a q ha3
      have hl:kvs.length=vs.length:=by have:=r0.len;rwa [av] at this
      obtain⟨ws,ew,rw'⟩:=yS (k:=kk) rx3 r0
      have kw:bj H3 (upd H3 a (.dK (putK (dV kvs vs) kk v))):=bj.wrG e0 fun _ z=>by cases z
      refine .inr ⟨a,_,rfl,.inl ⟨_,kk,e0,kZ ri qk,by rw [xp hl,sizeLine_eq];exact hz,rfl⟩,?_⟩
      exact k μ3 _ _ (p2.trans p3) (k2.trans (k3.trans kw)) (hr3.wrC q ha3 rfl rfl ⟨ws,by rw [ew];exact cg,RUs.mono kw (Pre.refl _) _ _ rw'⟩) (er.mono (k2.trans (k3.trans kw)) (p2.trans p3))
     ·cases e
  ·cases e
 ·cases e
theorem HE {vs:List V} (h:tGs K qR vs σ H Q):Lf vs σ H Q:=by
 obtain⟨μ,S,ρ,us,r,hr,er,rs,e,k⟩:=h
 cases us with
 | nil=>cases e;exact⟨rs.nil_inv,k μ _ H (Pre.refl _) (bj.refl _) hr er⟩
 | cons u us=>cases e
theorem EJ {g:MG}{gs:MGs}{vs:List V} (h:tGs K (gp g gs) vs σ H Q):Fz (tG K g) (tGs K gs) vs σ H Q:=by
 obtain⟨μ,S,ρ,us,r,hr,er,rs,e,k⟩:=h
 cases us with
 | nil=>cases e
 | cons u us=>
   obtain⟨v,vr,rfl,ra,rb⟩:=rs.inv
   cases q:g u ρ S with
   | none=>rw [show gp g gs (u::us) ρ S=(g u ρ S).bind fun p=>gs us p.1 p.2 from rfl,q] at e;cases e
   | some p=>
     rw [show gp g gs (u::us) ρ S=(g u ρ S).bind fun p=>gs us p.1 p.2 from rfl,q] at e
     refine⟨v,vr,rfl,μ,S,ρ,u,p,hr,er,ra,q,fun μ1 σ1 H1 p1 k1 hr1 er1 => ?_⟩
     exact⟨μ1,p.2,p.1,us,r,hr1,er1,RUs.mono k1 p1 _ _ rb,e,fun μ2 σ2 H2 p2 k2=>k μ2 σ2 H2 (p1.trans p2) (k1.trans k2)⟩
theorem Lc {n:Nat}{gs:MGs} (h:tG K (gTp n gs) v σ H Q):Jn K n (tGs K gs) v σ H Q:=by
 obtain⟨μ,S,ρ,u,r,hr,er,ru,e,k⟩:=h
 unfold gTp at e
 split at e
 ·rename_i us
  split at e
  ·rename_i hl
   obtain⟨a,vs,rfl,ha,rs⟩:=fw ru
   exact⟨a,vs,rfl,.inl (.inl ha),by rw [<- rs.len];exact hl,μ,S,ρ,us,r,hr,er,rs,e,k⟩
  ·cases e
 ·cases e
theorem KD {m:ME}{g:MG} (h:tMS K (vq m g) D σ H):zX (tM K m) (tG K g) D σ H:=by
 obtain⟨μ,S,ρ,r,hr,er,e,k⟩:=h
 obtain⟨x,S1,e1,e⟩:=aQ e
 cases q:g x ρ S1 with
 | none=>rw [q] at e;cases e
 | some p=>
   rw [q] at e;cases e
   exact⟨μ,S,ρ,x,S1,hr,er,e1,fun μ1 vx H1 p1 k1 hr1 rx=>⟨μ1,S1,ρ,x,p,hr1,er.mono k1 p1,rx,q,fun μ2 σ2 H2 p2 k2 hr2 er2=>k μ2 σ2 H2 (p1.trans p2) (k1.trans k2) hr2 er2⟩⟩
end
theorem vZ {a b c d:Expr}{p1 p2 p p3:Pos}{k k2:Nat}{vs:List Expr}{env:Env}:swappedStores [.Tuple [.Subscript a b p1,.Subscript c d p2] k p] (.Tuple vs k2 p3) env=pure none:=by
 unfold swappedStores
 simp only [List.filterMap_cons_none,List.filterMap_nil]
 split
 ·rfl
 ·split
  ·rfl
  ·rfl
end
end G
end
section
namespace G
open PySem PySem.Spec L2
open PyProof.Rows hiding St
section
section
variable {K:KX}{σ:St}{H:Hp}{Q:VK}{D:Ends}
end
end
end G
end
section
namespace G
open PySem PySem.Spec L2
open PyProof.Rows hiding St
section
noncomputable def zb (n:Nat):U->Option (List U)
 | .tup us=>if us.length=n then some us else none
 | _=>none
noncomputable def gY (c:Nat) (t:MT) (e:ME) (ρ:Rho) (n:Nat):Nat->Nat->List U->Sto->Res (List U)
 | 0,_,_,_=>none
 | f+1,i,acc,S=>(getL S n).bind fun ws=>match ws[i]? with
   | none=>some (acc,S)
   | some x=>(zb c x).bind fun us=>bnd (t (ρ++us.map some) S) fun k S1=>if k then bnd (e (ρ++us.map some) S1) fun y S2=>gY c t e ρ n f (i+1) (acc ++ [y]) S2 else gY c t e ρ n f (i+1) acc S1
noncomputable def Ca (c:Nat) (t:MT) (e:ME) (ρ:Rho):Src->Sto->Res (List U)
 | .mut n,S=>gY c t e ρ n fuel 0 [] S
 | _,_=>none
noncomputable def iP (c:Nat) (it:MI) (t:MT) (e:ME):ME:=fun ρ S=>bnd (it ρ S) fun src S1=>bnd (Ca c t e ρ src S1) fun ys S2=>if ys.length < big then some (.ref S2.length,S2 ++ [.lst ys]) else none
theorem mL {c:Nat}{t:MT}{e:ME}{ρ:Rho}{n:Nat} : ∀ {f i:Nat}{acc ys:List U}{S S':Sto},gY c t e ρ n f i acc S=some (ys,S')->acc.length<=ys.length
 | 0,i,acc,ys,S,S',h=>by cases h
 | f+1,i,acc,ys,S,S',h=>by
   unfold gY at h
   cases q0:getL S n with
   | none=>rw [q0] at h;cases h
   | some vs=>
     rw [q0] at h
     simp only [ai] at h
     cases z:vs[i]? with
     | none=>rw [z] at h;cases h;exact ak _
     | some x=>
       rw [z] at h
       simp only at h
       cases q:zb c x with
       | none=>rw [q] at h;cases h
       | some ws=>
         rw [q] at h
         simp only [ai] at h
         obtain⟨k,S1,e1,h⟩:=aQ h
         cases k with
         | true=>
           obtain⟨y,S2,e2,h⟩:=aQ (show bnd (e (ρ++ws.map some) S1) (fun y S2=>gY c t e ρ n f (i+1) (acc ++ [y]) S2)=some (ys,S') from h)
           have:=mL h
           simp at this;omega
         | false=>exact mL (show gY c t e ρ n f (i+1) acc S1=some (ys,S') from h)
section
variable {K:KX}{σ:St}{H:Hp}{Q:VK}
theorem ER.pushs {μ:List Addr} : ∀ {us:List U}{vs:List V}{ρ:Rho}{σ:St},ER H μ ρ σ->RUs H μ us vs->ER H μ (ρ++us.map some) (σ++vs.map some)
 | [],vs,ρ,σ,er,r=>by rw [r.nil_inv];simpa using er
 | u::us,vs,ρ,σ,er,r=>by
   obtain⟨v,r',rfl,a,b⟩:=r.inv
   have:=ER.pushs (er.push a) b
   simpa using this
theorem Bl {μ:List Addr}{c:Nat}{x:U}{v:V}{us:List U} (r:RU H μ x v) (e:zb c x=some us) : ∃ a vs,v = .ref a/\SqT K H a vs/\vs.length=c/\RUs H μ us vs:=by
 unfold zb at e
 split at e
 ·split at e
  ·rename_i hl
   cases e
   obtain⟨a,vs,rfl,ha,rs⟩:=fw r
   exact⟨a,vs,rfl,.inl (.inl ha),by rw [<- rs.len];exact hl,rs⟩
  ·cases e
 ·cases e
noncomputable def Ir (c:Nat) (K:aj) (J:It) (σ:St) (tt:TT) (te:TE) (H1:Hp) (Q:VK):Prop := ∃ W:Nat->Nat->List V->Hp->Prop,(∃ m,W 0 m [] H1) /\ ∀ i m ys H,W i m ys H->ys.length < sizeLine /\
 ((J.stop i H /\ ∀ D,H D=none->Q (.ref D) (upd H D (.lst ys))) \/
  (J.go i H /\ ∀ x H',J.yld i H x H'->gTt K c x H' fun τ H2=>tt (σ++τ) H2 fun b H3=>if b=true then te (σ++τ) H3 fun y H4 => ∃ m',m' < m/\W (i+1) m' (ys ++ [y]) H4 else ∃ m',m' < m/\W (i+1) m' ys H3))
theorem zL {c:Nat}{t:MT}{e:ME}{ρ:Rho}{n f:Nat}{ys:List U}{μ:List Addr}{S S':Sto}{p:Addr} (hr:HR K μ S H) (er:ER H μ ρ σ) (h:gY c t e ρ n f 0 [] S=some (ys,S')) (hz:ys.length < big) (k:Aft K μ H (.ref S'.length) (S' ++ [.lst ys]) Q)
  (hp:μ[n]? = some p):Ir c K (Itl K p) σ (tMT K t) (tM K e) H Q:=by
 have hz':ys.length < sizeLine:=by unfold big at hz;rw [sizeLine_eq];exact hz
 refine⟨fun i m acc H1 => ∃ μ1 S1 au,Pre μ μ1/\bj H H1/\HR K μ1 S1 H1/\RUs H1 μ1 au acc/\gY c t e ρ n m i au S1=some (ys,S'),⟨f,μ,S,[],Pre.refl _,bj.refl _,hr,.nil,h⟩,?_⟩
 rintro i m acc H1 ⟨μ1,S1,au,p1,k1,hr1,ra,e1⟩
 have hl:=mL e1
 have hl2:=ra.len
 refine⟨by omega,?_⟩
 cases m with
 | zero=>cases e1
 | succ m=>
   unfold gY at e1
   cases q0:getL S1 n with
   | none=>rw [q0] at e1;cases e1
   | some us=>
     rw [q0] at e1
     simp only [ai] at e1
     obtain⟨a',vs,ha',hs,rs⟩:=hr1.sq q0
     rw [p1.get hp] at ha';cases ha'
     cases z:us[i]? with
     | none=>
       rw [z] at e1
       cases e1
       exact .inl ⟨⟨vs,hs,by rw [<- rs.len];exact j2.mp z⟩,fun D hD=>iF (k.mono p1 k1) hr1 ra hD⟩
     | some u=>
       rw [z] at e1
       obtain⟨v,hv,rv⟩:=rs.get z
       simp only at e1
       cases q:zb c u with
       | none=>rw [q] at e1;cases e1
       | some ws=>
         rw [q] at e1
         simp only [ai] at e1
         obtain⟨b,S2,e2,e1⟩:=aQ e1
         refine .inr ⟨⟨vs,v,hs,hv⟩,fun x H' y => ?_⟩
         obtain⟨e',y⟩:=y
         subst e'
         have hx:=y vs hs
         rw [hv] at hx;cases hx
         obtain⟨a,xs,rfl,hsx,hc,rw'⟩:=Bl (K:=K) rv q
         refine⟨a,xs,rfl,hsx,hc,?_⟩
         have er1:ER _ μ1 (ρ++ws.map some) (σ++xs.map some):=ER.pushs (er.mono k1 p1) rw'
         refine⟨μ1,S1,_,b,S2,hr1,er1,e2,fun μ2 H2 p2 k2 hr2 => ?_⟩
         have ra2:=RUs.mono k2 p2 _ _ ra
         cases b with
         | true=>
           obtain⟨y',S3,e3,e1⟩:=aQ (show bnd (e (ρ++ws.map some) S2) (fun y S2=>gY c t e ρ n m (i+1) (au ++ [y]) S2)=some (ys,S') from e1)
           refine nT ⟨μ2,S2,_,y',S3,hr2,er1.mono k2 p2,e3,fun μ3 v3 H3 p3 k3 hr3 rv3 => ?_⟩
           exact⟨m,bw _,μ3,S3,au ++ [y'],p1.trans (p2.trans p3),k1.trans (k2.trans k3),hr3,(RUs.mono k3 p3 _ _ ra2).append (.cons rv3 .nil),e1⟩
         | false=>
           exact nr ⟨m,bw _,μ2,S2,au,p1.trans p2,k1.trans k2,hr2,ra2,e1⟩
theorem Jz {c:Nat}{a:ME}{t:MT}{e:ME} (h:tM K (iP c (da a) t e) σ H Q):xj (gTt K c) (fun σ H R=>sJ K (tM K a) σ H R\/zH K (tM K a) σ H R) (tMT K t) (tM K e) σ H Q:=by
 obtain⟨μ,S,ρ,u,S',hr,er,e0,k⟩:=h
 obtain⟨src,S1,e1,e0⟩:=aQ e0
 obtain⟨ys,S2,e2,e0⟩:=aQ e0
 split at e0
 ·rename_i hz
  cases e0
  refine xC hr er e1 (fun μ1 H1 us p vs p1 k1 hr1 hs hp rs => ?_) fun μ1 H1 n p p1 k1 hr1 hs hp => ?_
  ·subst hs
   cases (show none=some (ys,S2) from e2)
  ·subst hs
   exact zL hr1 (er.mono k1 p1) e2 hz (k.mono p1 k1) hp
 ·cases e0
end
end
end G
end
section
namespace G
open PySem PySem.Spec L2
open PyProof.Rows hiding St
section
section
variable {prog:Program}{w:World}{A:Around}{E:Value->Shared->Prop}{s:Shared}
theorem rH {Q:List Value->Shared->Prop}{r:Addr}{a b c:Int}{t u v:Tok}{n:Nat} (hh:A.handled=none) (hr:IsRange s.heap r a b c t u v) (hsmall:kR a b c=true)
  (hn:dn a b c=n) (hlen:n<=2 ^ 24)
  (hQ : ∀ (h':Heap) (tk:Nat) (acc:Array Value),(∀ b o,s.heap.get? b=some o->h'.get? b=some o)->s.heap.objs.size<=h'.objs.size->ItemsOf (fun i v => ∃ t,v = .int (a+i*c) t) acc n->Q acc.toList { s with heap:=h',toks:=tk }) :
  aJ (model prog w) A (collect (.ref r)) Q E s:=by
 unfold collect
 refine ag (CM (fM oI ?_))
 rw [dw oJ _]
 show aJ _ A.in1 (newList [] >>= fun l=>again (.builtin "list.__iadd__" ⟨[l,.ref r],[]⟩)) _ _ s
 refine ag (bx (ax ⟨plainId_quiet fP _,fM uB ?_⟩))
 rw [dw fP _]
 have hS:(s.heap.push { cls := .type "list",data := .seq ([]:List Value).toArray }).get? s.heap.objs.size=some { cls := .type "list",data := .seq #[] 0 }:=aC _ rfl
 have lt : ∀ b o,s.heap.get? b=some o->b≠s.heap.objs.size:=fun b o e=>aP (aD e)
 refine cN (wpAny_extend_range (A:=A) (R:=fun x s' => ∃ h' tk acc c',x = .ok (.ret (.ref s.heap.objs.size))/\s'={ s with heap:=h',toks:=tk }/\(∀ b o,s.heap.get? b=some o->h'.get? b=some o) /\
   h'.get? s.heap.objs.size=some { cls := .type "list",dict:=none,data := .seq acc c',slots := #[] }/\ItemsOf (fun i v => ∃ t,v = .int (a+i*c) t) acc n)
  (s:={ s with heap:=s.heap.push { cls := .type "list",data := .seq ([]:List Value).toArray } }) hh (aq _ hr) hsmall hn hlen s.heap.objs.size (.ref s.heap.objs.size) 0 hS
  fun h' tk acc c' hk hS' hacc=>⟨h',tk,acc,c',rfl,rfl,fun b o e=>hk b o (lt b o e) (aq _ e),hS',hacc⟩) (fun fin s' h => ?_) (fun e s' h=>by obtain⟨_,_,_,_,h,_⟩:=h;cases h)
 have fin' : ∀ x s',(∃ h' tk acc c',x=(.ok (.ret (.ref s.heap.objs.size)):Result)/\s'={ s with heap:=h',toks:=tk }/\(∀ b o,s.heap.get? b=some o->h'.get? b=some o) /\
   h'.get? s.heap.objs.size=some { cls := .type "list",dict:=none,data := .seq acc c',slots := #[] }/\ItemsOf (fun i v => ∃ t,v = .int (a+i*c) t) acc n)->x = .ok (.ret (.ref s.heap.objs.size))/\aJ (model prog w) A (match bc s.heap.objs.size with
   | bc a=>do
     match (<- load a).data with
      | CU xs _=>pure xs.toList
      | _=>unsupported "internal:collect"
   | _=>unsupported "internal:collect") Q E s':=by
  rintro x s' ⟨h',tk,acc,c',rfl,rfl,hk,hS',hacc⟩
  refine⟨rfl,?_⟩
  show aJ _ A (load s.heap.objs.size >>= _) _ _ _
  refine ag (CH hS' (ax ?_))
  exact hQ h' tk acc hk (bG (aD hS')) hacc
 cases fin with
 | done f=>
   obtain⟨e,q⟩:=fin' _ _ h
   cases e
   exact q
 | again c'=>exact⟨h.1,j5 h.2 fun r s'' hr=>by
   obtain⟨e,q⟩:=fin' _ _ hr
   subst e
   exact q⟩
theorem ky {Q₁:Value->Shared->Prop}{r:Addr}{a b c:Int}{t u v:Tok}{n:Nat} (hh:A.handled=none) (hr:IsRange s.heap r a b c t u v) (hsmall:kR a b c=true)
  (hn:dn a b c=n) (hlen:n<=2 ^ 24)
  (h : ∀ (h':Heap) (tk:Nat) (acc:Array Value),(∀ b o,s.heap.get? b=some o->h'.get? b=some o)->s.heap.objs.size<=h'.objs.size->ItemsOf (fun i v => ∃ t,v = .int (a+i*c) t) acc n->Q₁ (.ref h'.objs.size) { s with heap:=h'.push { cls := .type "tuple",data := .seq acc },toks:=tk }) :
  rf (model prog w) A (.call (.builtin "tuple.__new__") ⟨[.type "tuple",.ref r],[]⟩) (wants Q₁ E) s:=by
 refine codeAny_of_tree ?_
 show aJ _ A.in1 (do checkBuiltinCall "tuple.__new__" ⟨[.type "tuple",.ref r],[]⟩;again (.builtin "tuple.__new__" ⟨[.type "tuple",.ref r],[]⟩)) _ _ s
 refine ag (iD (F.newCall_tuple_1 _) (ax ⟨plainId_quiet F.plain_tuple_new _,fM F.entry_tuple_new ?_⟩))
 rw [dw F.plain_tuple_new _]
 have hsub:=sub_tuple_self
 have hinit:=init_tuple_lookup
 have hmh:=madeHere_tuple
 have hTI:s.TypeIs (.ref r) "range":=⟨_,hr,rfl⟩
 have hh1:A.in1.handled=none:=hh
 wp_walk using iY hTI,rH hh1 hr hsmall hn hlen
 intro h' tk acc hk hle hacc
 show aJ _ _ (bE acc.toList.toArray >>= fun v=>ret v) _ _ _
 unfold bE
 refine ag (bx ?_ (by show acc.toList.toArray.size<=sizeLine;simp only [Array.toArray_toList];rw [hacc.1,sizeLine_eq];exact hlen))
 refine ax ?_
 have e:acc.toList.toArray=acc:=by simp
 rw [e]
 exact h h' tk acc hk hle hacc
theorem oy {Q:Value->Shared->Prop}{r:Addr}{a b c:Int}{t u v:Tok}{n:Nat} (hh:A.handled=none) (hr:IsRange s.heap r a b c t u v) (hsmall:kR a b c=true)
  (hn:dn a b c=n) (hlen:n<=2 ^ 24)
  (h : ∀ (h':Heap) (tk:Nat) (acc:Array Value),(∀ b o,s.heap.get? b=some o->h'.get? b=some o)->s.heap.objs.size<=h'.objs.size->ItemsOf (fun i v => ∃ t,v = .int (a+i*c) t) acc n->Q (.ref h'.objs.size) { s with heap:=h'.push { cls := .type "tuple",data := .seq acc },toks:=tk }) :
  aJ (model prog w) A (call (.type "tuple") [.ref r]) Q E s:=by
 refine callType_codes (Q₁:=fun obj s₁=>s₁.TypeIs obj "tuple"/\Q obj s₁) F.called_tuple (F.typeCall_tuple_1 _) F.entry_object_init
  (ky hh hr hsmall hn hlen fun h' tk acc hk hle hacc=>⟨⟨_,aC _ rfl,rfl⟩,h h' tk acc hk hle hacc⟩) fun obj s₁ h₁ => ?_
 exact⟨h₁.1,F.args_object_init_2 obj _,object_init_meets F.called_tuple.init.lookup F.called_tuple.made (by decide) prog w A.in1 _ s₁ ⟨h₁.1,rfl,h₁.2⟩⟩
end
theorem kI {X:Cx} (hc:X.calm=true):gO X (.type "tuple") (fun xs H Q => ∃ r lo hi,xs = [.ref r]/\H r=some (.rng lo hi)/\(-(2 ^ 62)<=lo/\lo < 2 ^ 62 /\ -(2 ^ 62)<=hi/\hi < 2 ^ 62)/\(hi - lo).toNat<=sizeLine /\ ∀ l,H l=none->Q (.ref l) (upd H l (.tup (j3 lo (hi - lo).toNat)))):=by
 intro pins s σ H xs us Q I rs h
 obtain⟨r,lo,hi,rfl,hr,⟨h1,h2,h3,h4⟩,hz,q⟩:=h
 cases rs with
 | cons r1 rr=>
   cases rr
   cases (show _=bc r from r1)
   obtain⟨t,u,v,e⟩:=I.hok r _ hr
   have hn:dn lo hi 1=((hi - lo).toNat:Nat):=by rw [rangeSize_one];split <;> omega
   refine oy (n:=(hi - lo).toNat) (I.ok.hd hc) e (small_one h1 h2 h3 h4) hn (by rw [sizeLine_eq] at hz;exact hz) fun h' tk acc hk hle hacc => ?_
   obtain⟨hsz,hit⟩:=hacc
   refine⟨.ref h'.objs.size,_,I.laid (t':=tk) (o := .tup (j3 lo (hi - lo).toNat)) (fun b o e=>aq _ (hk b o e)) hle ?_,rfl,q _ (I.hok.fresh hle)⟩
   refine⟨by rw [j3,av,bu];exact hz,acc.toList,?_,kQ _ _,_,aC _ rfl,rfl⟩
   refine ur (by rw [j3,av,bu,di,hsz]) fun i x w h5 h6 => ?_
   have hlt:i < (hi - lo).toNat:=by
    have:=(ah.mp h5).1
    rwa [j3,av,bu] at this
   have hx:(j3 lo (hi - lo).toNat)[i]? = some (.int (lo+i)):=by simp [j3,hlt]
   rw [hx] at h5;cases h5
   obtain⟨t',e'⟩:=hit i w (by simpa using h6)
   exact⟨t',by rw [e'];simp⟩
section
variable {K:KX}{σ:St}{H:Hp}{Q:VK}
noncomputable def rTR:List V->Hp->VK->Prop:=fun xs H Q => ∃ r lo hi,xs = [.ref r]/\H r=some (.rng lo hi)/\(-(2 ^ 62)<=lo/\lo < 2 ^ 62 /\ -(2 ^ 62)<=hi/\hi < 2 ^ 62)/\(hi - lo).toNat<=sizeLine /\ ∀ l,H l=none->Q (.ref l) (upd H l (.tup (j3 lo (hi - lo).toNat)))
theorem vA {μ:List Addr}{S1:Sto}{i j:Int}{r:Addr} (hr1:HR K μ S1 H) (ho:okR i/\okR j) (hz:(bo i (j - i).toNat).length<=big) (k:Aft K μ H (.tup (bo i (j - i).toNat)) S1 Q) (hrn:H r=none):rTR [.ref r] (upd H r (.rng i j)) Q:=by
 refine⟨r,i,j,rfl,cg,⟨ho.1.1,ho.1.2,ho.2.1,ho.2.2⟩,?_,fun l hl => ?_⟩
 ·unfold bo big at hz;rw [av,bu] at hz;rw [sizeLine_eq];exact hz
 ·have k2:=k.mono (Pre.refl _) (bj.new hrn (o := .rng i j))
  exact k2 μ _ _ (Pre.refl _) (bj.new hl) ((hr1.rng hrn).tup hl) (iw cg (RUs.mono (bj.new hl) (Pre.refl _) _ _ (ym _ _)))
theorem DY {a:MA} (h:tM K (lP (iR1 a)) σ H Q):tCB rTR (oK (Bw (tMA K a)) uL) σ H Q:=by
 obtain⟨μ,S,ρ,u,S',hr,er,e,k⟩:=h
 obtain⟨src,S1,e1,e⟩:=aQ e
 obtain⟨xs,S2,e2,e1⟩:=aQ e1
 refine⟨μ,S,ρ,xs,S2,hr,er,e2,fun μ1 vs H1 p1 k1 hr1 rs => ?_⟩
 split at e1
 ·rename_i j
  split at e1
  ·rename_i hj
   cases e1
   simp only at e
   split at e
   ·rename_i hz
    cases e
    obtain⟨v,r,rfl,rx,rn⟩:=rs.inv
    rw [rn.nil_inv,cw rx]
    refine⟨j,rfl,hj.1,hj.2,fun r hrn => ?_⟩
    have ez:(j - 0).toNat=j.toNat:=by simp
    exact vA (i:=0) hr1 ⟨⟨by decide,by decide⟩,hj⟩ (by rw [ez];exact hz) (by rw [ez];exact k.mono p1 k1) hrn
   ·cases e
  ·cases e1
 ·cases e1
theorem Dl {a:MA} (h:tM K (lP (iR2 a)) σ H Q):tCB rTR (oK (BC (tMA K a)) uL) σ H Q:=by
 obtain⟨μ,S,ρ,u,S',hr,er,e,k⟩:=h
 obtain⟨src,S1,e1,e⟩:=aQ e
 obtain⟨xs,S2,e2,e1⟩:=aQ e1
 refine⟨μ,S,ρ,xs,S2,hr,er,e2,fun μ1 vs H1 p1 k1 hr1 rs => ?_⟩
 split at e1
 ·rename_i i j
  split at e1
  ·rename_i hj
   cases e1
   simp only at e
   split at e
   ·rename_i hz
    cases e
    obtain⟨v,r,rfl,rx,rs⟩:=rs.inv
    obtain⟨w,r,rfl,ry,rn⟩:=rs.inv
    rw [rn.nil_inv,cw rx,cw ry]
    exact⟨i,j,rfl,⟨hj.1.1,hj.1.2,hj.2.1,hj.2.2⟩,fun r hrn=>vA hr1 hj hz (k.mono p1 k1) hrn⟩
   ·cases e
  ·cases e1
 ·cases e1
end
end
end G
end
section
namespace G
open PySem PySem.Spec L2
open PyProof.Rows hiding St
section
noncomputable def xw (i:Nat) (f:Addr) (φ:MF) (a:MA):ME:=fun ρ S=>match ρ[i]? with
 | some (some (.obj g))=>if g=f then mFn φ a ρ S else none
 | _=>none
noncomputable def mz (is:List Nat) (ρ:Rho):Option (List U):=de (fun i=>(ρ[i]?).bind id) is
noncomputable def p8 (np:Nat) (ml:ME) (cs:List U):MF:=fun us S=>if us.length=np then ml (us.map some++cs.map some) S else none
noncomputable def mn (F:Addr->MF->MF) (np:Nat) (is:List Nat) (ml:ME) (ma:ME):ME:=fun ρ S=>bnd (ma ρ S) fun x S1=>(mz is ρ).bind fun cs=>
 open Classical in
 if h : ∃ r,∀ f,F f (p8 np ml cs) [x,.obj f] S1=some r then some h.choose else none
theorem AD {F:Addr->MF->MF}{np:Nat}{is:List Nat}{ml ma:ME}{ρ:Rho}{S S1:Sto}{x:U}{cs:List U}{r:U×Sto} (ha:ma ρ S=some (x,S1)) (hc:mz is ρ=some cs) (h : ∀ f,F f (p8 np ml cs) [x,.obj f] S1=some r) :
  mn F np is ml ma ρ S=some r:=by
 have hx : ∃ r,∀ f,F f (p8 np ml cs) [x,.obj f] S1=some r:=⟨r,h⟩
 unfold mn
 rw [ha]
 simp only [aG,hc,ai]
 rw [dif_pos hx]
 have e:=(hx.choose_spec 0).symm.trans (h 0)
 exact e
end
structure Lam (M:Mo) (f:Addr) (k:Nat) (ps:List Str) (φ:MF):Prop where
 ex : ∃ fd:FuncData,((∃ (oc:Value) (od:Option Addr) (sl:Array (Option Value)),M.base.get? f=some ⟨oc,od,.func fd,sl⟩)\/cR M.K (.ref f)=true)/\Binds M.K fd ps []/\lE M.P M.w M.K M.mg M.base CX0 k f fd ps (spM M.K φ)
section
variable {M:Mo}{X:Cx}{k:Nat}{N:List Str}{ns:List (Str×NameKind)}{e:Expr}{es:List Expr}{mas:MA}{x:Str}{p1 pos:Pos}
theorem Dt {f:Addr}{φ:MF}{ps:List Str}{k':Nat} (S:Sc M X k N ns) (F:Lam M f k' ps φ) (hk:k'<=k) (i:Nat) (hi:N[i]? = some x) (hv:rO ns x=true) (ha:PA X (e::es) (tMA M.K mas))
  (hd:(x == ("__debug__":Str))=false) (hcd:(x == ("__classdict__":Str))=false)
  (he:starEach (e::es) X.env=(false,eval e X.env)::starEach es X.env) (hpl:(backTo pos (starEach es X.env)).any (·.1)=false) :
  PE X (.Call (.Name x p1) (e::es) [] pos) (tM M.K (xw i f φ mas)):=by
 obtain⟨fd,hf,hb,F⟩:=F.ex
 rw [<- S.hP,<- S.hw,<- S.hK,<- S.hm,<- S.hb] at F
 rw [<- S.hb,<- S.hK] at hf
 rw [<- S.hK] at hb
 intro pins s σ H Q I h
 obtain⟨μ,S0,ρ,u,S',hr,er,q,aft⟩:=h
 unfold xw at q
 split at q
 rotate_left
 ·cases q
 rename_i g hg
 split at q
 rotate_left
 ·cases q
 rename_i hgf
 subst hgf
 obtain⟨v,hσ,rv⟩:=er.get i _ hg
 have hv':v = .ref g:=by simpa only [RU] using rv
 subst hv'
 refine fC (thn (AH (X:=X) (by rw [S.hN];exact hi) (S.vis hv) hd hcd pins s σ H (fun v H1=>v = .ref g/\H1=H) I ⟨_,hσ,rfl,rfl⟩) fun w s1 ⟨v,H1,I1,r1,e1,e2⟩ => ?_)
 subst e1;subst e2
 obtain rfl:w=bc g:=r1
 have hc:yj (spM M.K φ) [] E0 (tMA M.K mas) σ H1 Q:=Bm ⟨μ,S0,ρ,u,S',hr,er,q,aft⟩
 have hA:=ha pos pins s1 σ H1 _ I1 hc
 rcases hf with⟨oc,od,sl,hf⟩ | hf
 rotate_left
 ·exact oH (h₀:=X.base) I1.ok.mod.kin hf (thn hA fun us s2 ⟨vs,H2,I2,r2,q2⟩=>⟨I2.kIn,tH F (S.room.mono hk) hb .nil yu I2 r2 q2⟩) he hpl
 rw [he]
 refine PySem.W.callWith_of (P:=fun h=>h.get? g=some ⟨oc,od,.func fd,sl⟩) (by show ((false||(backTo pos (starEach es X.env)).any (·.1))||false)=false;rw [hpl];rfl)
  (fun h q=>⟨.frame,.inl rfl,(PySem.W.Looks.ld (part:=none) q).andThen .now⟩) (nV ?_)
 rw [he] at hA
 refine thn hA fun us s2 ⟨vs,H2,I2,r2,q2⟩=>⟨I2.bk g _ hf,?_⟩
 exact tH F (S.room.mono hk) hb .nil yu I2 r2 q2
end
end G
end
section
namespace G
open PySem PySem.Spec L2
open PySem.W (envX kla_fn kla_obj CodeHd tabObj)
open PyProof.Rows hiding St
structure kh (ps fs:List Str) (scope:Scope):Prop where
 kind:scope.kind = .function
 co:scope.isCoroutine=false
 gen:scope.isGenerator=false
 nd:(ps++fs).Nodup
 par : ∀ p∈ps,scope.names.lookup p=some .local\/scope.names.lookup p=some .cell
 cel : ∀ x∈scope.names,x.2 = .cell->scope.names.lookup x.1=some .cell
 fre : ∀ y∈scope.names,y.2 = .free->y.1∈fs
 free : ∀ y∈fs,scope.names.lookup y=some .free
theorem mj : ∀ (names:List (Str×NameKind)) (n:Nat) (a b:List (Str×Addr)),cellsFrom n names (a++b)=cellsFrom n names a++b
 | [],_,_,_=>rfl
 | (x,k)::r,n,a,b=>by
   unfold cellsFrom
   cases k == cf with
   | true=>exact mj r (n+1) ((x,n)::a) b
   | false=>exact mj r n a b
theorem y9 (names:List (Str×NameKind)) (n:Nat) (b:List (Str×Addr)):cellsFrom n names b=cellsFrom n names []++b:=mj names n [] b
theorem oB : ∀ (names:List (Str×NameKind)) (n:Nat) (a:List (Str×Addr)) {x:Str}{c:Addr},(x,c)∈cellsFrom n names a->(x,cf)∈names\/(x,c)∈a
 | [],_,_,_,_,h => .inr h
 | (y,k)::r,n,a,x,c,h=>by
   unfold cellsFrom at h
   split at h
   ·rename_i hk
    rcases oB r (n+1) _ h with h | h
    ·exact .inl (aA _ h)
    ·rcases aX.mp h with e | h
     ·cases e;rw [eq_of_beq hk];exact .inl ba
     ·exact .inr h
   ·exact (oB r n a h).imp (aA _) id
theorem fO {α:Type}{x:Str}{c:α} : ∀ {a b:List (Str×α)},a.lookup x=some c->(a++b).lookup x=some c
 | a,b,h=>by rw [gQ,h];rfl
theorem iz {α:Type}{x:Str} : ∀ {a b:List (Str×α)},a.lookup x=none->(a++b).lookup x=b.lookup x
 | a,b,h=>by rw [gQ,h];rfl
theorem gR {α:Type}{x:Str}{c:α}{a b:List (Str×α)} (h:(a++b).lookup x=some c):a.lookup x=some c\/(a.lookup x=none/\b.lookup x=some c):=by
 cases q:a.lookup x with
 | some d=>rw [fO q] at h;exact .inl h
 | none=>rw [iz q] at h;exact .inr ⟨rfl,h⟩
theorem pK {f g:Str×Value->PUnit->Sem (ForInStep PUnit)} : ∀ {l:List (Str×Value)},(∀ x∈l,∀ u,f x u=g x u)->forIn l o8 f=forIn l o8 g
 | [],_=>rfl
 | x::l,h=>by
   rw [jg,jg,h x ba]
   have ih:=pK (l:=l) fun y hy=>h y (aA _ hy)
   congr 1
   funext r
   cases r with
   | done u=>rfl
   | yield u=>exact ih
theorem xq {env:Env}{cs:List (Str×Addr)}{x:Str}{v:Value} (h:env.kindOf x=some .local\/env.cells.lookup x=cs.lookup x):storeName env x v=storeName { env with cells:=cs } x v:=by
 rcases h with h | h
 ·have h':Env.kindOf { env with cells:=cs } x=some .local:=h
  unfold storeName
  rw [h,h']
  rfl
 ·have e:cellOf env x=cellOf { env with cells:=cs } x:=by unfold cellOf;rw [h]
  unfold storeName
  rw [e]
  rfl
theorem DI {M:Model}{A:Around}{E:Value->Shared->Prop}{s:Shared}{scope:Scope}{g:Addr}{cl:List (Str×Addr)}{binds:List (Str×Value)}{qual:Str}{func:Option Addr}{code:Value}{bt:Addr}{Q:Env->Shared->Prop} (hk:scope.kind = .function)
  (hb : ∀ x∈binds,scope.names.lookup x.1=some .local\/scope.names.lookup x.1=some .cell)
  (hQ : ∀ s',InCallC s s.heap.objs.size (bindL (fun x=>scope.names.lookup x) binds fun _=>none) (cellsFrom (s.heap.objs.size+1) scope.names []) (bindC (fun x=>scope.names.lookup x) binds fun _=>none) s' ->
   Q (newEnv scope s.heap.objs.size g (cellsFrom (s.heap.objs.size+1) scope.names []++cl) qual func code none bt) s') :
  aJ M A (newFunctionEnv scope g cl binds qual func code none bt) Q E s:=by
 have ok:CellsOk (pushCells (s.heap.push { cls := .type "frame",data := .dict #[] }) scope.names) (s.heap.objs.size+1) (cellsFrom (s.heap.push { cls := .type "frame",data := .dict #[] }).objs.size scope.names []):=
  cellsFrom_ok scope.names _ _ [] ⟨fun _ _ z=>(nomatch z),gc⟩ (by rw [bB];exact ak _)
 rw [bB] at ok
 have inC:InCallC s s.heap.objs.size (fun _=>none) (cellsFrom (s.heap.objs.size+1) scope.names []) (fun _=>none) { s with heap:=pushCells (s.heap.push { cls := .type "frame",data := .dict #[] }) scope.names }:=
  ⟨⟨⟨_,s.toks,rfl⟩,(Heap.Ns.new s.heap (.type "frame")).keeps fun b o e=>pushCells_keeps _ _ b o e,fun b o e=>pushCells_keeps _ _ b o (aq _ e),ak _⟩,
   fun n c hc=>(ok.empty n c (mem_of_lookup hc)).1,ok.apart,fun n c hm=>Nat.lt_of_succ_le (ok.empty n c hm).2⟩
 simp only [newFunctionEnv,Option.isSome_none,eU,if_false]
 refine ag (wpAny_alloc (ag (wpAny_layCells _ (fun nm kd cs=>by cases q:kd == cf <;> simp [q]) _ _ _ _ ?_)))
 rw [show ({ s with heap:=s.heap.push { cls := .type "frame",data := .dict #[] } }:Shared).heap.objs.size=s.heap.objs.size+1 from bB ..,y9]
 refine ag ?_
 have same : ∀ x∈binds,∀ v:Value,storeName (newEnv scope s.heap.objs.size g (cellsFrom (s.heap.objs.size+1) scope.names []++cl) qual func code none bt) x.1 v=storeName (newEnv scope s.heap.objs.size g (cellsFrom (s.heap.objs.size+1) scope.names []) qual func code none bt) x.1 v:=fun x hx v=>by
  refine xq (env:=newEnv scope s.heap.objs.size g (cellsFrom (s.heap.objs.size+1) scope.names []++cl) qual func code none bt) ?_
  rcases hb x hx with h | h
  ·exact .inl h
  ·obtain⟨c,hc⟩:=iT (n:=s.heap.objs.size+1) h
   exact .inr (by rw [hc];exact fO hc)
 show aJ M A (forIn binds o8 fun x _=>(do storeName (newEnv scope s.heap.objs.size g (cellsFrom (s.heap.objs.size+1) scope.names []++cl) qual func code none bt) x.1 x.2;pure (dg o8))) _ E _
 rw [pK (g:=fun x _=>(do storeName (newEnv scope s.heap.objs.size g (cellsFrom (s.heap.objs.size+1) scope.names []) qual func code none bt) x.1 x.2;pure (dg o8))) fun x hx u=>by rw [same x hx]]
 refine wpAny_bindParams (s₀:=s) (env:=newEnv scope s.heap.objs.size g (cellsFrom (s.heap.objs.size+1) scope.names []) qual func code none bt) _ (fun _ _ _=>rfl) hk binds _ _ _ _ inC (fun x hx => ?_) fun s' x=>ax (hQ s' x)
 rcases hb x hx with h | h
 ·exact .inl h
 ·obtain⟨c,hc⟩:=iT (n:=s.heap.objs.size+1) h
  exact .inr ⟨h,by show ((cellsFrom (s.heap.objs.size+1) scope.names []).lookup x.1).isSome=true;rw [hc];rfl⟩
noncomputable def lL (base:Heap) (cl:List (Str×Addr)):List Str->List V->Prop
 | [],[]=>True
 | y::fs,v::vs=>(∃ c o u,cl.lookup y=some c/\base.get? c=some o/\o.data = .cell (some u)/\RelV v u)/\lL base cl fs vs
 | _,_=>False
theorem lL.len {base:Heap}{cl:List (Str×Addr)} : ∀ {fs:List Str}{vs:List V},lL base cl fs vs->fs.length=vs.length
 | [],[],_=>rfl
 | _::_,_::_,h=>by simp [lL.len h.2]
 | [],_::_,h=>h.elim
 | _::_,[],h=>h.elim
theorem lL.get {base:Heap}{cl:List (Str×Addr)} : ∀ {fs:List Str}{vs:List V}{i:Nat}{y:Str}{v:V},lL base cl fs vs->fs[i]? = some y->vs[i]? = some v -> ∃ c o u,cl.lookup y=some c/\base.get? c=some o/\o.data = .cell (some u)/\RelV v u
 | [],_,i,y,v,_,h1,_=>by simp at h1
 | _::_,[],i,y,v,h,_,_=>h.elim
 | _::_,_::_,0,y,v,h,h1,h2=>by
   simp at h1 h2;subst h1;subst h2
   exact h.1
 | _::_,_::_,i+1,y,v,h,h1,h2=>lL.get (i:=i) h.2 (by simpa using h1) (by simpa using h2)
noncomputable def tR (qual:Str) (scope:Scope) (L f:Addr) (cd:Value) (cl:List (Str×Addr)):Env:=envX qual scope L f cd (cellsFrom (L+1) scope.names []++cl)
noncomputable def Cq (P:Program) (w:World) (K:aj) (mg:Str->Option Value) (base:Heap) (N:List Str) (qual:Str) (scope:Scope) (f:Addr) (cd:Value) (cl:List (Str×Addr)) (A:Around) (outer:List Env) (s:Shared) (H:Hp):Cx where
 prog:=P
 w:=w
 K:=K
 mg:=mg
 base:=base
 A:=A.deeper (tR qual scope s.heap.objs.size f cd cl)
 N:=N
 s₀:=s
 H₀:=H
 env:=tR qual scope s.heap.objs.size f cd cl
 outer:=outer
 stack:=tR qual scope s.heap.objs.size f cd cl::outer
 ex := []
 calm:=true
 fn:=fun x=>scope.names.lookup x == some .cell
 pn := []
 xe:=fun _ _=>False
theorem DF {P:Program}{w:World}{K:aj}{mg:Str->Option Value}{base:Heap}{ps fs:List Str}{qual:Str}{scope:Scope}{f:Addr}{cd:Value}{cl:List (Str×Addr)}{A:Around}{outer:List Env}{s s1:Shared}{H:Hp}{us:List Value}{vs cv:List V}
  (S:kh ps fs scope) (hd:A.handled=none) (e0:zz P w K mg base A outer s H) (hl:vs.length=ps.length) (r:bK vs us) (C:lL base cl fs cv)
  (hcl : ∀ y c,cl.lookup y=some c -> ∃ o v,base.get? c=some o/\o.data = .cell v) (inj : ∀ x y c,cl.lookup x=some c->cl.lookup y=some c->x=y)
  (x:InCallC s s.heap.objs.size (bindL (fun y=>scope.names.lookup y) (ps.zip us) fun _=>none) (cellsFrom (s.heap.objs.size+1) scope.names []) (bindC (fun y=>scope.names.lookup y) (ps.zip us) fun _=>none) s1) :
  Inv (Cq P w K mg base (ps++fs) qual scope f cd cl A outer s H) [] (vs.map some++cv.map some) H s1:=by
 obtain⟨h1,tk,rfl,hk⟩:=x.done
 have ndP:ps.Nodup:=(ir.mp S.nd).1
 have newc : ∀ y c,(cellsFrom (s.heap.objs.size+1) scope.names []).lookup y=some c->scope.names.lookup y=some .cell/\s.heap.objs.size < c:=fun y c e=>by
  have m:=mem_of_lookup e
  rcases oB _ _ _ m with z | z
  ·exact⟨S.cel _ z rfl,x.above y c m⟩
  ·simp at z
 have oldc : ∀ y c,cl.lookup y=some c->c < s.heap.objs.size/\(∃ v,h1.IsCell c v)/\H c=none:=fun y c e=>by
  obtain⟨o,v,e1,e2⟩:=hcl y c e
  exact⟨aD (e0.bs c o e1).1,⟨v,o,hk _ _ (e0.bs c o e1).1,e2⟩,(e0.bs c o e1).2⟩
 have frc : ∀ y∈fs,(cellsFrom (s.heap.objs.size+1) scope.names []).lookup y=none:=fun y hy=>by
  cases q:(cellsFrom (s.heap.objs.size+1) scope.names []).lookup y with
  | none=>rfl
  | some c=>
    have:=(newc y c q).1
    rw [S.free y hy] at this;cases this
 have noA : ∀ b:Addr,b∉(Cq P w K mg base (ps++fs) qual scope f cd cl A outer s H).ex:=fun b z=>absurd (show b∈([]:List Addr) from z) (by simp)
 refine⟨⟨e0.mod,S.kind,rfl,rfl,ak _,fun y z c e1 e2 => ?_,fun y hy => ?_,fun y c hy e => ?_,fun _=>hd,Ak e0.frames,.inr ⟨rfl,rfl⟩,fun b z=>absurd z (noA b),e0.bs,e0.bsz,fun b _ _=>noA b,fun b z=>absurd z (noA b),e0.funs,e0.frf⟩,
  rfl,e0.bare,Un.kept hk,⟨_,x.toInCall.ns,fun i y v h2 h3 h4 => ?_⟩,fun y c h => ?_,e0.hok.fresh (ak _),fun y c h => ?_,fun p hp=>absurd (show p∈([]:List (Addr×Obj)) from hp) (by simp),e0.hok.kept hk,?_⟩
 ·rcases gR e1 with e1 | ⟨_,e1⟩
  ·rcases gR e2 with e2 | ⟨_,e2⟩
   ·exact name_of_addr x.apart (mem_of_lookup e1) (mem_of_lookup e2)
   ·exact absurd (dk (newc y c e1).2 (oldc z c e2).1) (bQ _)
  ·rcases gR e2 with e2 | ⟨_,e2⟩
   ·exact absurd (dk (newc z c e2).2 (oldc y c e1).1) (bQ _)
   ·exact inj y z c e1 e2
 ·have hy:scope.names.lookup y=some .cell\/scope.names.lookup y=some .free:=hy
  rcases hy with hy | hy
  ·obtain⟨c,hc⟩:=iT (n:=s.heap.objs.size+1) hy
   exact⟨c,fO hc⟩
  ·have hf:=S.fre _ (mem_of_lookup hy) rfl
   obtain⟨i,hi⟩:=List.getElem?_of_mem hf
   have hi2:i < cv.length:=by rw [<- C.len];exact (ah.mp hi).1
   obtain⟨c,o,u,e,_⟩:=C.get hi (bU hi2)
   exact⟨c,(iz (frc y hf)).trans e⟩
 ·rcases gR e with e | ⟨_,e⟩
  ·exact bG (newc y c e).2
  ·have hy':scope.names.lookup y=some .cell:=eq_of_beq hy
   obtain⟨c',hc'⟩:=iT (n:=s.heap.objs.size+1) hy'
   rename_i z
   rw [hc'] at z;cases z
 ·have hN:(ps++fs)[i]? = some y:=h2
  by_cases hi:i < ps.length
  ·rw [aI hi] at hN
   rw [aI (by simpa [hl] using hi),bT] at h3
   cases e:vs[i]? with
   | none=>rw [e] at h3;cases h3
   | some a=>
     rw [e] at h3;cases h3
     obtain⟨u,hu,rv⟩:=r.get e
     refine⟨u,rv,?_⟩
     rcases S.par y (dc hN) with kd | kd
     ·exact .inl ⟨kd,oo ndP hN hu kd⟩
     ·obtain⟨c,hc⟩:=iT (n:=s.heap.objs.size+1) kd
      refine .inr ⟨.inl kd,c,fO hc,?_⟩
      have z:=x.cell y c hc
      rw [oE ndP hN hu (by show scope.names.lookup y≠_;rw [kd];decide)] at z
      exact z
  ·rw [ar (by exact eN (by assumption))] at hN
   rw [ar (by simp;omega),bT] at h3
   simp only [av,hl] at h3
   cases e:cv[i - ps.length]? with
   | none=>rw [e] at h3;cases h3
   | some a=>
     rw [e] at h3;cases h3
     have hf:=dc hN
     obtain⟨c,o,u,e1,e2,e3,e4⟩:=C.get hN e
     exact⟨u,e4,.inr ⟨.inr (S.free y hf),c,(iz (frc y hf)).trans e1,o,hk _ _ (e0.bs c o e2).1,e3⟩⟩
 ·rcases gR h with e | ⟨_,e⟩
  ·exact⟨_,x.cell y c e⟩
  ·exact (oldc y c e).2.1
 ·rcases gR h with e | ⟨_,e⟩
  ·exact e0.hok.fresh (bG (newc y c e).2)
  ·exact (oldc y c e).2.2
 ·show (vs.map some++cv.map some).length=(ps++fs).length
  simp [hl,C.len]
theorem Hr {M:Mo} (h0:M.mkr=none) {name qual:Str}{params:Arguments}{body:Expr}{scope:Scope}{cl:List (Str×Addr)}{pm ctv:Value}{c f:Addr}{oc:Obj}{ws:Array Value}{t:Tok}{ps fs:List Str}{k:Nat}{ml:ME}{od:Option Addr}{fc:Value}{fsl:Array (Option Value)}
  (hf:M.base.get? f=some ⟨fc,od,.func (kla_fn name qual params body scope cl pm (.ref c) ctv),fsl⟩) (hc:(c,oc)∈M.K.cds) (hoc:oc.data = .fields ws) (hq:ws[1]? = some (.str qual t))
  (S:kh ps fs scope) (C:lL M.base cl fs M.K.capv) (hcl : ∀ y c,cl.lookup y=some c -> ∃ o v,M.base.get? c=some o/\o.data = .cell v) (inj : ∀ x y c,cl.lookup x=some c->cl.lookup y=some c->x=y)
  (hb : ∀ X,Sc M X k (ps++fs) scope.names->PE X body (tM M.K ml)) :
  lE M.P M.w M.K M.mg M.base CX0 (k+1) f (kla_fn name qual params body scope cl pm (.ref c) ctv) ps (spM M.K (p8 ps.length ml M.K.caps)):=by
 have len : ∀ vs H Q E,spM M.K (p8 ps.length ml M.K.caps) vs H Q E->vs.length=ps.length:=fun vs H Q E h=>by
  obtain⟨μ,S',us,u,S'',hr,rs,e,_⟩:=h
  unfold p8 at e
  split at e
  ·rename_i hl;rw [<- rs.len];exact hl
  ·cases e
 refine⟨len,fun A outer s H args us vs Q E hr e0 hbd r hsp => ?_⟩
 have hl:=len _ _ _ _ hsp
 obtain⟨μ,S1,zs,u,S2,hR,rs,e,ka⟩:=hsp
 have hco:s.heap.get? c=some oc:=(e0.hok c _ (hR.ext.cds _ hc)).1
 have lim:s.heap.NoLimit:=e0.mod.nolimit.keeps fun b o e=>(e0.bs b o e).1
 refine PySem.W.kla_callFunE hr.depth (e0.bs f _ hf).1 rfl S.co S.gen rfl ⟨c,oc,ws,t,rfl,hco,hoc,hq⟩ (hbd _ _ _ _ ?_)
 refine DI S.kind (fun x hx=>S.par _ (mM hx).1) fun s1 x=>⟨lim.keeps x.toInCall.keep,?_⟩
 show rf _ _ (.expr body (tR qual scope s.heap.objs.size f (.ref c) cl)) _ _
 have I:=DF (qual:=qual) (f:=f) (cd := .ref c) S hr.hd e0 hl r C hcl inj x
 have SS:Sc M (Cq M.P M.w M.K M.mg M.base (ps++fs) qual scope f (.ref c) cl A outer s H) k (ps++fs) scope.names:=
  ⟨rfl,rfl,rfl,rfl,rfl,rfl,S.nd,rfl,fun _ h=>h,fun y h=>⟨h,by show (scope.names.lookup y == some .cell)=true;rw [h];rfl⟩,fun _ h => .inr h,fun _ h=>h,hr.deeper _,qW,fun c q h=>by rw [h0] at h;cases h⟩
 unfold p8 at e
 split at e
 rotate_left
 ·cases e
 have er:ER H μ (zs.map some++M.K.caps.map some) (vs.map some++M.K.capv.map some):=by
  have all:=rs.append hR.ext.cap
  refine⟨by simp [rs.len,hR.ext.cap.len],fun i w hw => ?_⟩
  rw [<- bS,bT] at hw
  cases q:(zs++M.K.caps)[i]? with
  | none=>rw [q] at hw;cases hw
  | some w'=>
    rw [q] at hw;cases hw
    obtain⟨v,hv,rv⟩:=all.get q
    exact⟨v,by rw [<- bS,bT,hv];rfl,rv⟩
 refine PySem.W.kla_codeExpr (cN (hb _ SS [] _ _ H Q I ⟨μ,S1,_,u,S2,hR,er,e,ka⟩) (fun v s' hs => ?_) fun e s' hs=>hs.elim)
 obtain⟨x,H',J,rv,q⟩:=hs
 exact⟨x,H',J.os,J.bare,J.base,J.hok,rv,q⟩
noncomputable def fU (cells:List (Str×Addr)):List (Str×NameKind)->List (Str×Addr)->List (Str×Addr)
 | [],acc=>acc
 | (y,k)::r,acc=>if k == .free then (match cells.lookup y with
   | some c=>fU cells r ((y,c)::acc)
   | none=>fU cells r acc) else fU cells r acc
theorem xO {env:Env}{scope:Scope} (h : ∀ y∈scope.names,y.2 = .free -> ∃ c,env.cells.lookup y.1=some c):closureFor scope env=pure (fU env.cells scope.names []):=by
 unfold closureFor
 have key : ∀ (l:List (Str×NameKind)) (acc:List (Str×Addr)),(∀ y∈l,y.2 = .free -> ∃ c,env.cells.lookup y.1=some c) ->
   (forIn l acc fun (x:Str×NameKind) (r:List (Str×Addr))=>if (x.2 == aN)=true then (do let a <- cellOf env x.1;pure (dg ((x.1,a)::r))) else pure (dg r):Sem _)=pure (fU env.cells l acc):=by
  intro l
  induction l with
  | nil=>intro acc _;rfl
  | cons y l ih=>
    intro acc hh
    rw [jg]
    unfold fU
    cases q:y.2 == aN with
    | true=>
      obtain⟨c,hc⟩:=hh y ba (eq_of_beq q)
      have e:cellOf env y.1=pure c:=by unfold cellOf;rw [hc]
      simp only [if_true,e,pure_bind,hc]
      exact ih _ fun z hz=>hh z (aA _ hz)
    | false=>
      simp only [eU,if_false,pure_bind]
      exact ih _ fun z hz=>hh z (aA _ hz)
 have e:=key scope.names [] h
 show (forIn scope.names ([]:List (Str×Addr)) _ >>= fun r=>pure r:Sem _)=_
 rw [bind_pure]
 refine Eq.trans ?_ e
 congr 1
theorem kS {cells:List (Str×Addr)} : ∀ (l:List (Str×NameKind)) (acc:List (Str×Addr)) {y:Str}{c:Addr},(y,c)∈fU cells l acc->(y,c)∈acc\/(cells.lookup y=some c/\(y,aN)∈l)
 | [],acc,y,c,h => .inl h
 | (z,k)::l,acc,y,c,h=>by
   unfold fU at h
   split at h
   ·rename_i hk
    split at h
    ·rename_i d hd
     rcases kS l _ h with h | h
     ·rcases aX.mp h with e | h
      ·cases e;exact .inr ⟨hd,by rw [eq_of_beq hk];exact ba⟩
      ·exact .inl h
     ·exact .inr ⟨h.1,aA _ h.2⟩
    ·exact (kS l _ h).imp id fun h=>⟨h.1,aA _ h.2⟩
   ·exact (kS l _ h).imp id fun h=>⟨h.1,aA _ h.2⟩
theorem kX {cells:List (Str×Addr)} : ∀ (l:List (Str×NameKind)) (acc:List (Str×Addr)) {y:Str}{c:Addr},(y,c)∈acc->(y,c)∈fU cells l acc
 | [],acc,y,c,h=>h
 | (z,k)::l,acc,y,c,h=>by
   unfold fU
   split
   ·split
    ·exact kX l _ (aA _ h)
    ·exact kX l _ h
   ·exact kX l _ h
theorem kY {cells:List (Str×Addr)} : ∀ (l:List (Str×NameKind)) (acc:List (Str×Addr)) {y:Str}{c:Addr},(y,aN)∈l->cells.lookup y=some c->(y,c)∈fU cells l acc
 | [],acc,y,c,h,_=>by simp at h
 | (z,k)::l,acc,y,c,h,hc=>by
   unfold fU
   rcases aX.mp h with e | h
   ·cases e
    simp only [beq_self_eq_true,if_true,hc]
    exact kX l _ ba
   ·split
    ·split
     ·exact kY l _ h hc
     ·exact kY l _ h hc
    ·exact kY l _ h hc
theorem lookup_mem {α:Type} : ∀ {l:List (Str×α)}{y:Str}{c:α},(y,c)∈l -> ∃ d,l.lookup y=some d
 | [],y,c,h=>by simp at h
 | (z,d)::l,y,c,h=>by
   rw [aO]
   cases q:y == z with
   | true=>exact⟨d,rfl⟩
   | false=>
     rcases aX.mp h with e | h
     ·cases e;simp at q
     ·exact lookup_mem h
theorem jS {cells:List (Str×Addr)}{l:List (Str×NameKind)}{y:Str}{c:Addr} (h:(fU cells l []).lookup y=some c):cells.lookup y=some c/\(y,aN)∈l:=by
 rcases kS l [] (bN h) with h | h
 ·simp at h
 ·exact h
theorem zA {cells:List (Str×Addr)}{l:List (Str×NameKind)}{y:Str}{c:Addr} (h:(y,aN)∈l) (hc:cells.lookup y=some c):(fU cells l []).lookup y=some c:=by
 obtain⟨d,hd⟩:=lookup_mem (kY l [] h hc)
 have:=(jS hd).1
 rw [hc] at this;cases this
 exact hd
end G
end
section
namespace G
open PySem PySem.Spec L2
open PySem.W (envX kla_fn kla_obj CodeHd tabObj)
open PyProof.Rows hiding St
theorem wQ {pos:Pos}{a b:Int}{c cv:Value} (l:List Value) (h:TriplesOk l) (hc:codeAmong pos (l ++ [rawInt a,rawInt b,c])=some cv):codeAmong pos l=some cv\/cv=c:=by
 fun_induction TriplesOk l with
 | case1=>
   simp only [dF,rawInt,codeAmong] at hc
   split at hc
   ·cases hc;exact .inr rfl
   ·cases hc
 | case2 x t y u z rest ih=>
   simp only [List.cons_append,codeAmong] at hc ⊢
   split at hc
   ·rename_i q;rw [if_pos q];exact .inl hc
   ·rename_i q;rw [if_neg q];exact ih h hc
 | case3 l h1 h2=>exact h.elim
section
variable {K:KX}{H:Hp}{μ:List Addr}{S:Sto}
theorem HR.table {P c:Addr}{ps:Array Value}{oc:Obj}{ws:Array Value}{t:Tok}{a b:Int}{q:Str} (h:HR K μ S H) (hP:H P=some (.tbl ps)) (hc:H c=none) (hoc:oc.data = .fields ws) (hq:ws[1]? = some (.str q t)) (un : ∀ r∈K.tabs,r.1=P->r.2=q) :
  bj H (upd (upd H c (.frz oc fz)) P (.tbl (ps ++ #[rawInt a,rawInt b,.ref c])))/\HR K μ S (upd (upd H c (.frz oc fz)) P (.tbl (ps ++ #[rawInt a,rawInt b,.ref c]))):=by
 have stay : ∀ x o,H x=some o->(∀ ps,o ≠ .tbl ps)->upd (upd H c (.frz oc fz)) P (.tbl (ps ++ #[rawInt a,rawInt b,.ref c])) x=some o:=fun x o e n=>by
  rw [bz (pU e hP (n ps)),bz (bC e hc)];exact e
 have kp:bj H (upd (upd H c (.frz oc fz)) P (.tbl (ps ++ #[rawInt a,rawInt b,.ref c]))):=fun x vs e=>stay x _ e fun _ z=>by cases z
 have fr : ∀ x o u,H x=some (.frz o u)->upd (upd H c (.frz oc fz)) P (.tbl (ps ++ #[rawInt a,rawInt b,.ref c])) x=some (.frz o u):=fun x o u e=>stay x _ e fun _ z=>by cases z
 have hcP:c≠P:=(bC hP hc).symm
 refine⟨kp,h.len,h.inj,fun m d x q1 q2=>(h.cell m d x q1 q2).mono kp (Pre.refl _) (fun hd => ?_) fun o u e=>fr x o u e,RUs.mono kp (Pre.refl _) _ _ h.ext.cap,fun r hr=>fr _ _ _ (h.ext.cds r hr),fun r hr => ?_⟩
 ·obtain⟨o,e,_,_,nb⟩:=(h.cell m d x q1 q2).has hd
  rw [stay x o e nb,e]
 ·obtain⟨ps',e,tr,al⟩:=h.ext.tab r hr
  by_cases hr':r.1=P
  ·rw [hr',hP] at e
   cases e
   refine⟨ps ++ #[rawInt a,rawInt b,.ref c],by rw [hr',cg],by rw [CW];exact TriplesOk_snoc _ _ _ _ tr,fun pos cv hcv => ?_⟩
   rw [CW] at hcv
   rcases wQ _ tr hcv with z | z
   ·obtain⟨d,od,vs,t',e1,e2,e3,e4⟩:=al pos cv z
    exact⟨d,od,vs,t',e1,fr _ _ _ e2,e3,e4⟩
   ·exact⟨c,oc,ws,t,z,by rw [bz hcP,cg],hoc,by rw [un r hr hr'];exact hq⟩
  ·refine⟨ps',by rw [bz hr',bz (bC e hc)];exact e,tr,fun pos cv hcv => ?_⟩
   obtain⟨d,od,vs,t',e1,e2,e3,e4⟩:=al pos cv hcv
   exact⟨d,od,vs,t',e1,fr _ _ _ e2,e3,e4⟩
end
section
variable {X:Cx}{pins:List (Addr×Obj)}{σ:St}{H:Hp}{s:Shared}
theorem z6 {P c:Addr}{ps more:Array Value}{oc ob:Obj}{h':Heap}{tk:Nat} (I:Inv X pins σ H s) (hP:H P=some (.tbl ps)) (hx:Heap.ExtBut P s.heap h') (hge:s.heap.objs.size<=c) (hc:h'.get? c=some oc) (htb:h'.get? P=some (tabObj (ps++more))) :
  Inv X pins σ (upd (upd H c (.frz oc fz)) P (.tbl (ps++more))) { s with heap:=h'.push ob,toks:=tk }:=by
 have hcn:H c=none:=I.hok.fresh hge
 have kp : ∀ b o,b≠P->s.heap.get? b=some o->(h'.push ob).get? b=some o:=fun b o n e=>aq _ (hx b o n e)
 have nP : ∀ b,H b=none->b≠P:=fun b n z=>by rw [z,hP] at n;cases n
 have stay : ∀ x o,H x=some o->(∀ ps,o ≠ .tbl ps)->upd (upd H c (.frz oc fz)) P (.tbl (ps++more)) x=some o:=fun x o e n=>by
  rw [bz (pU e hP (n ps)),bz (bC e hcn)];exact e
 refine I.step (g':=s.gens) (d':=s.drawn) (ch := []) (fun _ z=>nomatch z) (fun b o _ _ _ e n=>kp b o (nP b n) e) (fun b o _ _ _ e n=>⟨o.slots,kp b o (nP b n) e⟩)
  (fun b o _ e n=>by rw [bz (nP b n),bz (aP (ae (aD e) hge))];exact n) (fun b o _ e => ?_) (fun b xs e=>stay b _ e fun _ z=>by cases z) (fun b o u e=>stay b _ e fun _ z=>by cases z)
  (fun b qs e => ?_) (fun m hm => ?_) (fun b u e => ?_) I.bare
 ·by_cases hb:b=P
  ·exact⟨_,by rw [hb];exact aq _ htb⟩
  ·exact⟨o,kp b o hb e⟩
 ·by_cases hb:b=P
  ·rw [hb,hP] at e
   cases e
   exact⟨more,by rw [hb,cg]⟩
  ·exact⟨#[],by rw [bz hb,bz (bC e hcn),e];simp⟩
 ·exact (hm.extBut hx (nP _ I.free)).push _
 ·by_cases hb:b=P
  ·rw [hb,cg] at e
   cases e
   rw [hb]
   exact aq _ htb
  ·rw [bz hb] at e
   by_cases hbc:b=c
   ·rw [hbc,cg] at e
    cases e
    rw [hbc]
    exact⟨aq _ hc,trivial,⟨_,aq _ hc⟩,fun _ _ _ _=>trivial⟩
   ·rw [bz hbc] at e
    refine (I.hok b u e).stay (fun d v hd q=>kp d v ?_ q) (fun d q=>stay d _ q fun _ z=>by cases z) fun d xs q=>stay d _ q fun _ z=>by cases z
    rcases hd with z | z
    ·rw [z];exact hb
    ·exact pU z hP (by intro z;cases z)
noncomputable def baseOf (h:Heap) (H:Hp) (fr:List Addr):Heap:=PySem.W.hideAll (rN h H) fr
theorem iR {h:Heap}{H:Hp}{fr:List Addr}{b:Addr}{o:Obj} (e:h.get? b=some o) (n:H b=none) (hf:b∉fr):(baseOf h H fr).get? b=some o:=Aj _ (nq e n) hf
theorem zW {h:Heap}{H:Hp}{fr:List Addr}{b:Addr}{o:Obj} (e:(baseOf h H fr).get? b=some o):h.get? b=some o/\H b=none:=yH (CG fr e)
theorem uW (I:Inv X pins σ H s) : ∀ b o,X.base.get? b=some o->(baseOf s.heap H (frs X.stack)).get? b=some o:=fun b o e=>
 iR (I.bs b o e).1 (I.bs b o e).2 fun z=>by
  have:=(I.stack.mem z).1
  rw [e] at this;cases this
theorem zN (I:Inv X pins σ H s):zz X.prog X.w X.K X.mg (baseOf s.heap H (frs X.stack)) X.A X.stack s H:=by
 have k:=uW I
 obtain⟨m1,m2,⟨mb,m3,m4⟩,m5⟩:=I.ok.mod
 refine⟨I.ok.frames,⟨m1.keeps k,m2.keeps k,⟨mb,m3.keeps k,m4⟩,m5.keeps k⟩,fun b o e=>zW e,by rw [baseOf,Ae,sN];exact ak _,?_,I.stkFree,I.hok,I.bare⟩
 have all : ∀ l:List Env,(∀ b∈frs l,b∈frs X.stack)->s.heap.FunFrames X.base l->s.heap.FunFrames (baseOf s.heap H (frs X.stack)) l:=by
  intro l
  induction l with
  | nil=>intro _ _;trivial
  | cons env r ih=>
    intro hs hl
    obtain⟨hk,⟨L,o,hf,hn,ho,hd⟩,hr⟩:=hl
    have hL:L∈frs X.stack:=hs L (by unfold frs;rw [gh,hf];exact ba)
    exact⟨hk,⟨L,o,hf,Af _ hL,ho,hd⟩,ih (fun b hb=>hs b (by unfold frs;rw [gh,hf];exact aA _ hb)) hr⟩
 exact all X.stack (fun _ h=>h) I.stack
end
end G
end
section
namespace G
open PySem PySem.Spec L2
open PySem.W (envX kla_fn kla_obj CodeHd tabObj)
open PyProof.Rows hiding St
noncomputable def h9 (mg:Str->Option Value) (base:Heap):Prop := ∃ bm ob,mg "__builtins__"=some (.ref bm)/\bm≠builtinsNs/\base.get? bm=some ob/\ob.cls = .type "module"/\ob.dict=some builtinsNs/\ob.data = .plain
theorem h9.keeps {mg:Str->Option Value}{b b':Heap} (h:h9 mg b) (k : ∀ a o,b.get? a=some o->b'.get? a=some o):h9 mg b':=
 let ⟨bm,ob,e1,e2,e3,r⟩:=h;⟨bm,ob,e1,e2,k _ _ e3,r⟩
structure Mkr (M:Mo) (c P:Addr) (q:Str):Prop where
 hd : ∀ h:Heap,M.K.K.In h->CodeHd h c P
 bl:h9 M.mg M.base
 gP:mainGlobals≠P
 mem:(P,q)∈M.K.tabs
 un : ∀ r∈M.K.tabs,r.1=P->r.2=q
noncomputable def KX.to (K:KX) (caps:List U) (capv:List V) (cds:List (Addr×Obj)):KX:=⟨K.K,caps,capv,cds,K.tabs⟩
noncomputable def Mo.to (M:Mo) (caps:List U) (capv:List V) (cds:List (Addr×Obj)) (base:Heap):Mo:=⟨M.P,M.w,M.K.to caps capv cds,M.mg,base,none⟩
structure FnC (M:Mo) (x:Str) (k:Nat) (ps:List Str) (F:Addr->MF->MF):Prop where
 ex : ∃ (f:Addr) (fd:FuncData),M.mg x=some (.ref f)/\cR M.K (.ref f)=true/\Binds M.K fd ps [] /\
  ∀ (caps:List U) (capv:List V) (cds:List (Addr×Obj)) (base:Heap) (g:Addr) (j:Nat) (lps:List Str) (φ:MF),h9 M.mg base->k<=j->Lam (M.to caps capv cds base) g j lps φ ->
   lE M.P M.w M.K M.mg base CX0 (j+1) f fd ps (spM (M.K.to caps capv cds) (F g φ))
noncomputable def pJ (p:Arguments):Option (List Str):=match p with
 | ⟨[],[a,b],none,[],[],none,[]⟩=>some [a.arg,b.arg]
 | _=>none
theorem zl {p:Arguments}{ps:List Str} (h:pJ p=some ps) (nd:ps.Nodup) {K:aj}{name qual:Str}{body:Expr}{scope:Scope}{cl:List (Str×Addr)}{pm cdv ct:Value}:Binds K (kla_fn name qual p body scope cl pm cdv ct) ps []:=by
 unfold pJ at h
 split at h
 ·rename_i a b
  cases h
  have hne:(b.arg == a.arg)=false:=by
   have:a.arg≠b.arg:=by simpa using nd
   simpa using eg this
  refine .all fun us hl => ?_
  match us,hl with
  | [x,y],_=>
    have e:([(a.arg,x),(b.arg,y)].lookup a.arg)=some x:=by simp [iZ]
    have e2:([(a.arg,x),(b.arg,y)].lookup b.arg)=some y:=by simp [iZ,hne]
    simp [bindArgs,seqItems?,e,e2]
    rfl
 ·cases h
theorem Au {p:Arguments}{ps:List Str} (h:pJ p=some ps) (env:Env):defaultsOf p env=([],[]):=by
 unfold pJ at h
 split at h
 ·rfl
 ·cases h
section
variable {M:Mo}{X:Cx}{k:Nat}{N:List Str}{ns:List (Str×NameKind)}{pins:List (Addr×Obj)}{σ:St}{H:Hp}{s:Shared}
theorem wj (S:Sc M X k N ns) (I:Inv X pins σ H s) {y:Str}{c:Addr} (hy:ns.lookup y=some .cell) (hc:X.env.cells.lookup y=some c):c∉frs X.stack:=fun z=>by
 have fn:=(S.cel y hy).2
 rcases aX.mp (I.stkSub c z) with e | hb
 ·exact I.cne y c hc e
 ·obtain⟨_,o,ho,_⟩:=I.ok.funs.mem hb
  exact absurd (ae (aD ho) (I.ok.cab y c fn hc)) (bQ _)
theorem yJ (S:Sc M X k N ns) (I:Inv X pins σ H s) {μ:List Addr}{ρ:Rho} (er:ER H μ ρ σ) {names:List (Str×NameKind)} : ∀ {fs:List Str}{is:List Nat}{cs:List U},(∀ y∈fs,ns.lookup y=some .cell/\(y,aN)∈names) ->
  de (fun y=>N.findIdx? (· == y)) fs=some is->mz is ρ=some cs -> ∃ cv,RUs H μ cs cv/\lL (baseOf s.heap H (frs X.stack)) (fU X.env.cells names []) fs cv
 | [],is,cs,_,h1,h2=>by cases h1;cases h2;exact⟨[],.nil,trivial⟩
 | y::fs,is,cs,hf,h1,h2=>by
   unfold de at h1
   cases e1:N.findIdx? (· == y) with
   | none=>rw [e1] at h1;cases h1
   | some i=>
     rw [e1] at h1
     simp only [ai] at h1
     cases e2:de (fun y=>N.findIdx? (· == y)) fs with
     | none=>rw [e2] at h1;cases h1
     | some is'=>
       rw [e2] at h1;cases h1
       unfold mz de at h2
       cases e3:(ρ[i]?).bind id with
       | none=>rw [e3] at h2;cases h2
       | some u=>
         rw [e3] at h2
         simp only [ai] at h2
         cases e4:de (fun i=>(ρ[i]?).bind id) is' with
         | none=>rw [e4] at h2;cases h2
         | some cs'=>
           rw [e4] at h2;cases h2
           obtain⟨cv,r1,r2⟩:=yJ S I er (fun z hz=>hf z (aA _ hz)) e2 (show mz is' ρ=some cs' from e4)
           have hρ:ρ[i]? = some (some u):=by
            cases q:ρ[i]? with
            | none=>rw [q] at e3;cases e3
            | some o=>rw [q] at e3;cases o with
              | none=>cases e3
              | some w=>cases e3;rfl
           obtain⟨v,hσ,rv⟩:=er.get i u hρ
           obtain⟨hi,hy,_⟩:=dZ.mp e1
           have hN:X.N[i]? = some y:=by rw [S.hN,bU hi,eq_of_beq hy]
           obtain⟨m,hn,hl⟩:=I.loc
           have hcl:=(S.cel y (hf y ba).1).1
           obtain⟨w,rw',l⟩:=hl i y v hN hσ (.inr (.inl hcl))
           rcases l with⟨hk,_⟩ | ⟨_,c,hc,o,ho,hd⟩
           ·have hk':X.env.scope.names.lookup y=some .local:=hk
            rw [hcl] at hk';cases hk'
           ·refine⟨v::cv,.cons rv r1,⟨c,o,w,zA (hf y ba).2 hc,?_,hd,rw'⟩,r2⟩
            exact iR ho (I.freeC y c hc) (wj S I (hf y ba).1 hc)
theorem Ei {F:Addr->MF->MF}{f0:Addr}{fd0:FuncData}{gps ps fs:List Str}{is:List Nat}{k' j:Nat}{ml:ME}{params:Arguments}{body:Expr}{scope:Scope}{qual:Str}{pm ctv:Value}{c' f:Addr}{oc:Obj}{ws:Array Value}{t:Tok}
  {μ:List Addr}{S1 S':Sto}{ρ:Rho}{x u:U}{cs:List U}{v1:V}{u1:Value}{Q:VK}
  (S:Sc M X k N ns) (hB:h9 M.mg M.base) (hj:k'<=j+1) (hk:j+2<=k) (hbd:Binds M.K fd0 gps [])
  (FF : ∀ (caps:List U) (capv:List V) (cds:List (Addr×Obj)) (base:Heap) (g:Addr) (j:Nat) (lps:List Str) (φ:MF),h9 M.mg base->k'<=j->Lam (M.to caps capv cds base) g j lps φ->lE M.P M.w M.K M.mg base CX0 (j+1) f0 fd0 gps (spM (M.K.to caps capv cds) (F g φ)))
  (hps:pJ params=some ps) (LS:kh ps fs scope) (hfs : ∀ y∈fs,ns.lookup y=some .cell/\(y,aN)∈scope.names) (his:de (fun y=>N.findIdx? (· == y)) fs=some is)
  (hb : ∀ (caps:List U) (capv:List V) (cds:List (Addr×Obj)) (base:Heap),h9 M.mg base -> ∀ (X':Cx),Sc (M.to caps capv cds base) X' j (ps++fs) scope.names->PE X' body (tM (M.K.to caps capv cds) ml))
  (I:Inv X pins σ H s) (hr:HR M.K μ S1 H) (er:ER H μ ρ σ) (hcs:mz is ρ=some cs) (spec:F f (p8 ps.length ml cs) [x,.obj f] S1=some (u,S')) (rx:RU H μ x v1) (ru:RelV v1 u1) (aft:Aft M.K μ H u S' Q)
  (hf:s.heap.get? f=some (kla_obj "<lambda>" qual params body scope (fU X.env.cells scope.names []) pm c' ctv)) (hfn:H f=none) (hff:f∉frs X.stack) (hc:H c'=some (.frz oc fz)) (hoc:oc.data = .fields ws) (hq:ws[1]? = some (.str qual t)) :
  aJ (model X.prog X.w) X.A (call (.ref f0) [u1,.ref f]) (EP X pins σ Q) X.xe s:=by
 obtain⟨cv,rc,C⟩:=yJ S I er hfs his hcs
 have hB':h9 M.mg (baseOf s.heap H (frs X.stack)):=hB.keeps fun a o e=>uW I a o (by rw [S.hb];exact e)
 have lam:Lam (M.to cs cv (M.K.cds ++ [(c',oc)]) (baseOf s.heap H (frs X.stack))) f (j+1) ps (p8 ps.length ml cs):=by
  refine⟨_,.inl ⟨_,_,_,iR hf hfn hff⟩,zl hps (ir.mp LS.nd).1,?_⟩
  refine Hr (M:=M.to cs cv (M.K.cds ++ [(c',oc)]) (baseOf s.heap H (frs X.stack))) rfl (iR hf hfn hff) (aS _ ba) hoc hq LS C (fun y c e => ?_) (fun y z c e1 e2=>I.ok.inj y z c (jS e1).1 (jS e2).1) (hb _ _ _ _ hB')
  obtain⟨e1,e2⟩:=jS e
  obtain⟨v,o,ho,hd⟩:=I.cell y c e1
  exact⟨o,v,iR ho (I.freeC y c e1) (wj S I (hfs y (LS.fre _ e2 rfl)).1 e1),hd⟩
 have FO:=FF _ _ _ _ f (j+1) ps _ hB' hj lam
 rw [<- S.hP,<- S.hw,<- S.hK,<- S.hm] at FO
 have hr':HR (M.K.to cs cv (M.K.cds ++ [(c',oc)])) μ S1 H:=⟨hr.len,hr.inj,hr.cell,rc,fun q hq=>by
  rcases bh.mp hq with z | z
  ·exact hr.ext.cds q z
  ·have e:q=(c',oc):=by simpa using z
   rw [e];exact hc,hr.ext.tab⟩
 have hsp:spM (M.K.to cs cv (M.K.cds ++ [(c',oc)])) (F f (p8 ps.length ml cs)) [v1,.ref f] H Q E0:=by
  refine⟨μ,S1,[x,.obj f],u,S',hr',.cons rx (.cons (by simp only [RU]) .nil),spec,fun μ' v H' p' k' hr2 ru2 => ?_⟩
  refine aft μ' v H' p' k' ⟨hr2.len,hr2.inj,hr2.cell,RUs.mono k' p' _ _ hr.ext.cap,fun q hq=>hr2.ext.cds q (aR _ hq),hr2.ext.tab⟩ ru2
 have hl:([u1,bc f] ++ []).length=gps.length:=by have:=FO.len _ _ _ _ hsp;simpa using this
 rw [<- S.hK] at hbd
 refine wpAny_call (j5 (FO.run X.A X.stack s H ⟨[u1,.ref f],[]⟩ [u1,.ref f] [v1,.ref f] Q E0 (S.room.mono hk) (zN I) (hbd s _ I.kIn hl) (.cons ru (.cons rfl .nil)) hsp) fun r s' hq => ?_)
 cases r with
 | error e=>exact hq.elim
 | ok fl=>
   cases fl with
   | ret u=>exact I.after hq
   | next=>exact cD hq
   | brk=>exact cD hq
   | cont=>exact cD hq
theorem Eb {F:Addr->MF->MF}{gps ps fs:List Str}{is:List Nat}{k' j:Nat}{ml ma:ME}{g q:Str}{c P:Addr}{params:Arguments}{a body:Expr}{scope:Scope}{p1 lp pos:Pos}
  (S:Sc M X k N ns) (FC:FnC M g k' gps F) (hj:k'<=j+1) (hk:j+2<=k) (hmk:M.mkr=some (c,q)) (MK:Mkr M c P (q++"<lambda>"))
  (hg:eC ns g=true) (hgd:(g == ("__debug__":Str))=false) (ha:PE X a (tM M.K ma)) (hs:starEach [a,.Lambda params body scope lp] X.env=(false,eval a X.env)::starEach [.Lambda params body scope lp] X.env)
  (hps:pJ params=some ps) (LS:kh ps fs scope) (hfs : ∀ y∈fs,ns.lookup y=some .cell/\(y,aN)∈scope.names) (his:de (fun y=>N.findIdx? (· == y)) fs=some is)
  (hb : ∀ (caps:List U) (capv:List V) (cds:List (Addr×Obj)) (base:Heap),h9 M.mg base -> ∀ (X':Cx),Sc (M.to caps capv cds base) X' j (ps++fs) scope.names->PE X' body (tM (M.K.to caps capv cds) ml)) :
  PE X (.Call (.Name g p1) [a,.Lambda params body scope lp] [] pos) (tM M.K (mn F ps.length is ml ma)):=by
 intro pins s σ H Q I h
 obtain⟨μ,S0,ρ,u,S',hr,er,qm,aft⟩:=h
 unfold mn at qm
 obtain⟨x,S1,e1,qm⟩:=aQ qm
 cases hcs:mz is ρ with
 | none=>rw [hcs] at qm;cases qm
 | some cs=>
 rw [hcs] at qm
 simp only [ai] at qm
 split at qm
 rotate_left
 ·cases qm
 rename_i hx
 have spec : ∀ f,F f (p8 ps.length ml cs) [x,.obj f] S1=some (u,S'):=fun f=>(hx.choose_spec f).trans qm
 obtain⟨f0,fd0,hm,hkp,hbd,FF⟩:=FC.ex
 rw [<- S.hK] at hkp
 refine fC (pe I (S.gl hg) (by rw [S.hm];exact hm) ?_ hgd)
 refine oH (h₀:=X.base) I.ok.mod.kin hkp ?_ hs rfl
 rw [hs]
 show aJ _ _ (spliced ((false,eval a X.env)::backTo pos (starEach [.Lambda params body scope lp] X.env))) _ _ s
 refine o4 (thn (ha pins s σ H (fun v H1 => ∃ μ1,Pre μ μ1/\bj H H1/\HR M.K μ1 S1 H1/\RU H1 μ1 x v) I ⟨μ,S0,ρ,x,S1,hr,er,e1,fun μ' v H' p k hr' ru=>⟨μ',p,k,hr',ru⟩⟩) fun u1 s1 ⟨v1,H1,I1,r1,μ1,pr1,kp1,hr1,rx1⟩ => ?_)
 obtain⟨hcode,hqual⟩:=S.cod c q hmk
 obtain⟨ps0,hP,tr,al⟩:=hr1.ext.tab _ MK.mem
 have hPh:s1.heap.get? P=some (tabObj ps0):=I1.hok P _ hP
 have kin:M.K.K.In s1.heap:=by have:=I1.kIn;rwa [S.hK] at this
 have C:CodeHd s1.heap c P:=MK.hd _ kin
 have hgl:s1.heap.Ns mainGlobals X.mg:=I1.mod.glob.keeps I1.bk
 obtain⟨bm,ob,b1,b2,b5,b6,b7,b8⟩:=MK.bl
 have b5':s1.heap.get? bm=some ob:=I1.bk bm ob (by rw [S.hb];exact b5)
 have b3:bm≠mainGlobals:=fun z=>by
  obtain⟨o,es,ep,e,hd,_⟩:=hgl
  rw [<- z,b5'] at e;cases e;rw [b8] at hd;cases hd
 have b4:bm≠P:=fun z=>by
  rw [z,hPh] at b5';cases b5';cases b8
 have BA:s1.heap.BuiltinsAt X.mg P:=⟨bm,ob,by rw [S.hm];exact b1,b2,b3,b4,b5',b6,b7,b8⟩
 have hclo:closureFor scope X.env=pure (fU X.env.cells scope.names []):=xO fun y hy hyf=>I.ok.has y.1 (.inl (S.cel y.1 (hfs y.1 (LS.fre y hy hyf)).1).1)
 show aJ _ _ (spliced [(false,eval (.Lambda params body scope lp) X.env)]) _ _ s1
 refine o4 (PySem.W.kla_eval (Au hps _) ?_)
 have fin : ∀ (H2:Hp) (s2:Shared) (c' f:Addr) (ctv:Value) (oc:Obj) (ws:Array Value) (t:Tok),Inv X pins σ H2 s2->bj H1 H2->HR M.K μ1 S1 H2 ->
   s2.heap.get? f=some (kla_obj "<lambda>" (X.env.qual++"<lambda>") params body scope (fU X.env.cells scope.names []) ((X.mg "__name__").getD .none) c' ctv)->H2 f=none->s1.heap.objs.size<=f->H2 c'=some (.frz oc fz)->oc.data = .fields ws->ws[1]? = some (.str (q++"<lambda>") t) ->
   aJ (model X.prog X.w) X.A (spliced []) (fun vs s₂=>X.K.In s₂.heap/\aJ (model X.prog X.w) X.A (call (.ref f0) ([]++(u1::bc f::vs))) (EP X pins σ Q) X.xe s₂) X.xe s2:=by
  intro H2 s2 c' f ctv oc ws t I2 kp2 hr2 hf hfn hfs' hc hoc hq
  have hff:f∉frs X.stack:=fun z=>by
   obtain⟨_,o,ho,_⟩:=I1.stack.mem z
   exact absurd (ae (aD ho) hfs') (bQ _)
  rw [<- hqual] at hq
  exact Calls.spliced_nil ⟨I2.kIn,Ei S MK.bl hj hk hbd FF hps LS hfs his hb I2 hr2 (er.mono (kp1.trans kp2) pr1) hcs (spec f) (RU.mono kp2 (Pre.refl _) _ _ rx1) r1 (aft.mono pr1 (kp1.trans kp2)) hf hfn hff hc hoc hq⟩
 cases ham:codeAmong lp ps0.toList with
 | none=>
   refine PySem.W.kla_makeFunction (mg:=X.mg) hclo I1.ok.glob hgl hcode C hPh tr ham MK.gP BA fun c' ctv h' tk hx hge hlt hrec htb => ?_
   obtain⟨c2,oc,ws,t,e,hoc,hd,hq'⟩:=hrec
   cases e
   have I2:=z6 (ob:=kla_obj "<lambda>" (X.env.qual++"<lambda>") params body scope (fU X.env.cells scope.names []) ((X.mg "__name__").getD .none) c' ctv) (tk:=tk) I1 hP hx hge hoc htb
   rw [hqual] at hq'
   obtain⟨kp2,hr2⟩:=hr1.table (a:=(lp.line:Int)) (b:=(lp.col:Int)) hP (I1.hok.fresh hge) hd hq' MK.un
   have hsz:s1.heap.objs.size<=h'.objs.size:=bg hge (bG hlt)
   refine fin _ _ c' h'.objs.size ctv oc ws t I2 kp2 hr2 (aC _ rfl) ?_ hsz ?_ hd hq'
   ·rw [bz (cZ (aD htb)),bz (cZ hlt)]
    exact I1.hok.fresh hsz
   ·rw [bz (bC hP (I1.hok.fresh hge)).symm,cg]
 | some cv=>
   obtain⟨c',oc,ws,t,rfl,hfr,hd,hq'⟩:=al lp cv ham
   refine PySem.W.kla_makeFunctionHit (mg:=X.mg) hclo I1.ok.glob hgl hcode C hPh tr ham BA fun ctv h' tk hk hsz => ?_
   have I2:=I1.kept (t':=tk) (h':=h'.push (kla_obj "<lambda>" (X.env.qual++"<lambda>") params body scope (fU X.env.cells scope.names []) ((X.mg "__name__").getD .none) c' ctv)) (fun b o e=>aq _ (hk b o e))
   exact fin H1 _ c' h'.objs.size ctv oc ws t I2 (bj.refl _) hr1 (aC _ rfl) (I1.hok.fresh hsz) hsz hfr hd hq'
end
end G
end
section
namespace G
open PySem PySem.Spec L2
open PyProof.Rows hiding St
section
abbrev NS:=List (Str×NameKind)
structure Tb where
 D:List (Str×MF)
 C:List (Str×U)
 L:List (Str×Addr×MF)
 H:List (Str×(Addr->MF->MF))
 mkr:Bool
noncomputable def Tb.bare (T:Tb):Tb:=⟨T.D,T.C,[],T.H,false⟩
noncomputable def frees (sc:Scope):List Str:=(sc.names.filter fun y=>y.2 == .free).map (·.1)
noncomputable def xA (ps:List Str) (sc:Scope) (ns:NS):Bool:=
 sc.kind == .function && !sc.isCoroutine && !sc.isGenerator&&decide ((ps++frees sc).Nodup)&&ps.all (fun p=>sc.names.lookup p == some .local||sc.names.lookup p == some .cell)&&sc.names.all (fun y => !(y.2 == .cell)||sc.names.lookup y.1 == some .cell)&&(frees sc).all fun y=>sc.names.lookup y == some .free&&ns.lookup y == some .cell
noncomputable def notStar:Expr->Bool
 | .Starred _ _=>false
 | _=>true
noncomputable def la:Expr->Bool
 | .ListComp _ _ _ _=>false
 | .SetComp _ _ _ _=>false
 | .DictComp _ _ _ _ _=>false
 | _=>true
noncomputable def iN:Expr->Bool
 | .Set _ _ _=>false
 | _=>true
noncomputable def mX:Expr->Bool
 | .Slice _ _ _ _=>false
 | _=>true
noncomputable def notTuple:Expr->Bool
 | .Tuple _ _ _=>false
 | _=>true
noncomputable def pv:List Expr->Bool
 | [.Subscript _ _ _,.Subscript _ _ _]=>true
 | _=>false
noncomputable def baseOk:Expr->Bool
 | .Call (.Name _ _) [] [] _=>false
 | _=>true
noncomputable def plainT:Expr->Bool
 | .Name _ _=>true
 | .Call _ _ _ _=>true
 | .Subscript _ _ _=>true
 | .Constant _ _ _=>true
 | _=>false
noncomputable def dummy (N:List Str):Str:=⟨#[N.length+1]⟩
noncomputable def zk (N:List Str) (x:Str):List Str:=(N.map fun y=>if y == x then dummy N else y) ++ [x]
noncomputable def AV (N xs:List Str):List Str:=(N.zipIdx.map fun (y,i)=>if xs.contains y then (⟨#[N.length+1,i]⟩:Str) else y)++xs
noncomputable def namesOf:List Expr->Option (List Str)
 | []=>some []
 | .Name x _::r=>(namesOf r).map fun xs=>x::xs
 | _=>none
noncomputable def ft (x:Str):Bool := !(x == ("__debug__":Str)) && !(x == ("__classdict__":Str))
noncomputable def slot (N:List Str) (x:Str):Option Nat:=N.findIdx? (· == x)
noncomputable def Gy (g:Str):Option MF:=
 if g == ("len":Str) then some bF else if g == ("tuple":Str) then some bD
 else if g == ("max":Str) then some vd else if g == ("min":Str) then some oY else if g == ("all":Str) then some rL
 else if g == ("sorted":Str) then some dG    else none
noncomputable def jt:List Str := ["len","tuple","list","max","min","range","isinstance","bool","int","str","dict","all","any","sorted","reversed","zip","enumerate","set","sum","repr"]
noncomputable def Aq (t:Str):Option String:=
 if t == ("tuple":Str) then some "tuple" else if t == ("list":Str) then some "list" else if t == ("int":Str) then some "int"
 else if t == ("bool":Str) then some "bool" else if t == ("str":Str) then some "str" else if t == ("dict":Str) then some "dict" else none
noncomputable def Im:Operator->Option F2
 | .Add=>some bW
 | .Sub=>some mm
 | .Mult=>some fZ
 | .FloorDiv=>some oDiv
 | .Mod=>some oMod
 | .Pow=>some ua
 | _=>none
noncomputable def u9:CmpOp->Option F2
 | .Lt=>some oLt
 | .LtE=>some oLe
 | .Gt=>some oGt
 | .GtE=>some oGe
 | .Eq=>some oEq
 | .NotEq=>some oNe
 | .In=>some oIn
 | .NotIn=>some fS
 | .Is=>some oIs
 | .IsNot=>some ix
noncomputable def sNo:MS:=fun _ _=>none
noncomputable def JD:MS:=fun ρ S=>some (.bk,ρ,S)
noncomputable def Jx:MS:=fun ρ S=>some (.ct,ρ,S)
noncomputable def A6 (name:Str) (ma:ME) (mas:MA):Option ME:=
 if name == ("append":Str) then some (mML cj ma mas) else if name == ("pop":Str) then some (mML jj ma mas)
 else if name == ("index":Str) then some (mMT dA ma mas)
 else if name == ("extend":Str) then some (mML et ma mas) else none
set_option genInjectivity false in
structure Rc where
 e:Tb->List Str->NS->Expr->Option ME
 c:Tb->List Str->NS->Str->List Expr->Option ME
 v:Tb->List Str->NS->Str->List Expr->Option ME
 o:Tb->List Str->NS->Option Expr->Option (Option ME)
 t:Tb->List Str->NS->Expr->Option MT
 l:Tb->List Str->NS->Bool->List Expr->Option MT
 f:Tb->List Str->NS->List Expr->Option MT
 a:Tb->List Str->NS->List Expr->Option MA
 i:Tb->List Str->NS->Expr->Option MI
 g:Tb->List Str->NS->Expr->Option MG
 gs:Tb->List Str->NS->List Expr->Option MGs
 s:Tb->List Str->NS->Stmt->Option MS
 b:Tb->List Str->NS->List Stmt->Option MS
section
variable (R:Rc) (T:Tb) (N:List Str) (ns:NS)
noncomputable def K4:Const->Option ME
 | .int i=>some (mC (.int i))
 | .bool b=>some (mC (.bl b))
 | .none=>some (mC .non)
 | .str x=>some (mC (.str x))
 | _=>none
noncomputable def eUn (a:Expr):UnaryOp->Option ME
 | .USub=>(R.e T N ns a).map (m1 eW)
 | .Not=>(R.e T N ns a).map (m1 xG)
 | _=>none
noncomputable def eBo (op:BoolOp) (p:Pos):List Expr->Option ME
 | []=>none
 | [a]=>R.e T N ns a
 | a::b::r=>(R.e T N ns a).bind fun ma=>match op with
   | .And=>(R.e T N ns (.BoolOp .And (b::r) p)).map (h8 ma)
   | .Or=>(R.e T N ns (.BoolOp .Or (b::r) p)).map (mOr ma)
noncomputable def eCm (a:Expr):List CmpOp->List Expr->Option ME
 | [op],[b]=>if iN b then (R.e T N ns a).bind fun ma=>(R.e T N ns b).bind fun mb=>(u9 op).map fun f=>m2 f ma mb else none
 | [op,op'],[b,c]=>if iN b&&iN c then (R.e T N ns a).bind fun ma=>(R.e T N ns b).bind fun mb=>(R.e T N ns c).bind fun mc=>(u9 op).bind fun f=>(u9 op').map fun g=>mCh f g ma mb mc else none
 | _,_=>none
noncomputable def Ep:Expr->Bool
 | .UnaryOp .USub (.Constant (.int i) _ _) _=>i == 1
 | _=>false
noncomputable def eSl (a:Expr) (lo hi:Option Expr):Option Expr->Option ME
 | none=>(R.e T N ns a).bind fun ma=>(R.o T N ns lo).bind fun ml=>(R.o T N ns hi).map (mSl ma ml)
 | some s=>if lo.isNone&&hi.isNone&&Ep s then (R.e T N ns a).map (m1 mB) else none
noncomputable def eSb (a:Expr):Expr->Option ME
 | .Slice lo hi st _=>eSl R T N ns a lo hi st
 | b=>if mX b then (R.e T N ns a).bind fun ma=>(R.e T N ns b).map (m2 oIx ma) else none
noncomputable def eDi:List (Option Expr)->List Expr->Option ME
 | [some a],[b]=>(R.e T N ns a).bind fun ma=>(R.e T N ns b).map (qF ma)
 | _,_=>none
noncomputable def eLt (elt it:Expr) (ifs:List Expr) (scope:Scope):Expr->Option ME
 | .Name x _=>if scope.kind == .function&&mU N (zk N x) ns scope.names x&&iN it then
    (R.i T N ns it).bind fun mi=>(R.f T (zk N x) scope.names ifs).bind fun mt=>(R.e T (zk N x) scope.names elt).map (bZ mi mt)
   else none
 | .Tuple ts _ _=>(namesOf ts).bind fun xs=>
   if scope.kind == .function&&mY N (AV N xs) ns scope.names xs&&iN it then
    (R.e T N ns it).bind fun mi=>(R.f T (AV N xs) scope.names ifs).bind fun mt=>(R.e T (AV N xs) scope.names elt).map (iP xs.length (da mi) mt)
   else none
 | _=>none
noncomputable def eLc (elt:Expr) (scope:Scope):List Comprehension->Option ME
 | [c]=>if c.is_async=0 then eLt R T N ns elt c.iter c.ifs scope c.target else none
 | _=>none
noncomputable def eRg (g:Str):List Expr->Option ME
 | [a]=>(R.a T N ns [a]).map fun m=>if g == ("list":Str) then gU (iR1 m) else lP (iR1 m)
 | [a,b]=>(R.a T N ns [a,b]).map fun m=>if g == ("list":Str) then gU (iR2 m) else lP (iR2 m)
 | _=>none
noncomputable def eC1 (g:Str):Expr->Option ME
 | .Call (.Name r q) rs [] rp=>if (g == ("list":Str)||g == ("tuple":Str))&&r == ("range":Str) then (if eC ns r then eRg R T N ns g rs else none) else R.c T N ns g [.Call (.Name r q) rs [] rp]
 | a=>R.c T N ns g [a]
noncomputable def eIs (g t:Str) (tp:Pos) (a:Expr):Option ME:=
 if g == ("isinstance":Str) then (if eC ns t&&notStar a then (Aq t).bind fun c=>(R.e T N ns a).map (m1 (mI c)) else none) else R.c T N ns g [a,.Name t tp]
noncomputable def Jc (g:Str) (a:Expr) (p:Arguments) (b:Expr) (sc:Scope):Option ME:=
 if T.mkr&&notStar a then (pJ p).bind fun ps=>
    if xA ps sc ns then (de (fun y=>N.findIdx? (· == y)) (frees sc)).bind fun is=>(R.e T N ns a).bind fun ma=>(R.e T.bare (ps++frees sc) sc.names b).bind fun ml=>(T.H.lookup g).map fun F=>mn F ps.length is ml ma else none
   else none
noncomputable def eC2 (g:Str) (a:Expr):Expr->Option ME
 | .Name t tp=>eIs R T N ns g t tp a
 | .Lambda p b sc _=>Jc R T N ns g a p b sc
 | b=>R.c T N ns g [a,b]
noncomputable def eCf (g:Str):List Expr->Option ME
 | []=>(T.D.lookup g).map fun mf=>mFn mf af
 | [a]=>eC1 R T N ns g a
 | [a,b]=>eC2 R T N ns g a b
 | a::b::c::r=>R.c T N ns g (a::b::c::r)
noncomputable def eMe (o:Expr) (name:Str) (p q:Pos):List Expr->Option ME
 | []=>if baseOk o&&(p.endLine == q.line)&&name == ("pop":Str) then (R.e T N ns o).map fun mo=>mML lG mo af else none
 | [a]=>if baseOk o&&(p.endLine == q.line)&&notStar a then (R.e T N ns o).bind fun mo=>(R.a T N ns [a]).bind (A6 name mo) else none
 | _=>none
noncomputable def eCa (as:List Expr) (q:Pos):Expr->Option ME
 | .Name g _=>if eC ns g&&ft g then eCf R T N ns g as else R.v T N ns g as
 | .Attribute o name p=>eMe R T N ns o name p q as
 | _=>none
end
noncomputable def sE (R:Rc) (T:Tb):List Str->NS->Expr->Option ME:=fun N ns e=>match e with
  | .Name x _=>if ft x then (if rO ns x then (slot N x).map ab else if eC ns x then (T.C.lookup x).map mC else none) else none
  | .Constant c _ _=>K4 c
  | .BinOp a op b _=>(R.e T N ns a).bind fun ma=>(R.e T N ns b).bind fun mb=>(Im op).map fun f=>m2 f ma mb
  | .UnaryOp op a _=>eUn R T N ns a op
  | .BoolOp op vs p=>eBo R T N ns op p vs
  | .Compare a ops bs _=>eCm R T N ns a ops bs
  | .Subscript a b _=>eSb R T N ns a b
  | .Dict ks vs _=>eDi R T N ns ks vs
  | .Tuple es _ _=>(R.a T N ns es).map cK
  | .List es _=>(R.a T N ns es).map cM
  | .ListComp elt gens scope _=>eLc R T N ns elt scope gens
  | .Call f as kws q=>if kws.isEmpty then eCa R T N ns as q f else none
  | _=>none
noncomputable def sC (R:Rc) (T:Tb):List Str->NS->Str->List Expr->Option ME:=fun N ns g as=>(R.a T N ns as).bind fun mas=>match Gy g with
  | some mf=>some (mFn mf mas)
  | none=>(T.D.lookup g).map fun mf=>mFn mf mas
noncomputable def sV (R:Rc) (T:Tb):List Str->NS->Str->List Expr->Option ME:=fun N ns g as=>match as with
 | []=>none
 | a::as=>if rO ns g&&ft g then (T.L.lookup g).bind fun q=>(slot N g).bind fun i=>(R.a T N ns (a::as)).map (xw i q.1 q.2) else none
noncomputable def sO (R:Rc) (T:Tb):List Str->NS->Option Expr->Option (Option ME):=fun N ns o=>match o with
  | none=>some none
  | some e=>(R.e T N ns e).map some
noncomputable def sT (R:Rc) (T:Tb):List Str->NS->Expr->Option MT:=fun N ns e=>match e with
  | .UnaryOp .Not a _=>(R.t T N ns a).map tW
  | .BoolOp .And vs _=>R.l T N ns true vs
  | .BoolOp .Or vs _=>R.l T N ns false vs
  | .Compare a ops bs _=>(eCm R T N ns a ops bs).map cOf
  | e=>if plainT e then (R.e T N ns e).map cOf else none
noncomputable def sL (R:Rc) (T:Tb):List Str->NS->Bool->List Expr->Option MT:=fun N ns b vs=>match vs with
  | []=>none
  | [a]=>R.t T N ns a
  | a::r=>(R.t T N ns a).bind fun ma=>(R.l T N ns b r).map fun mr=>if b then qQ ma mr else cOr ma mr
noncomputable def sF (R:Rc) (T:Tb):List Str->NS->List Expr->Option MT:=fun N ns ifs=>match ifs with
  | []=>some cTT
  | [c]=>R.t T N ns c
  | _=>none
noncomputable def sA (R:Rc) (T:Tb):List Str->NS->List Expr->Option MA:=fun N ns es=>match es with
  | []=>some af
  | e::r=>if notStar e then (R.e T N ns e).bind fun m=>(R.a T N ns r).map (aa m) else none
noncomputable def sI (R:Rc) (T:Tb):List Str->NS->Expr->Option MI:=fun N ns e=>match e with
  | .Call (.Name g q) as [] p=>
    if g == ("range":Str) then
     if eC ns g then match as with
      | [a]=>(R.a T N ns [a]).map iR1
      | [a,b]=>(R.a T N ns [a,b]).map iR2
      | _=>none
     else none
    else if g == ("reversed":Str) then
     if eC ns g then match as with
      | [a]=>(R.a T N ns [a]).map vb
      | _=>none
     else none
    else (R.e T N ns (.Call (.Name g q) as [] p)).map da
  | e=>(R.e T N ns e).map da
noncomputable def sG (R:Rc) (T:Tb):List Str->NS->Expr->Option MG:=fun N ns e=>match e with
  | .Name x _=>if qU ns x then (slot N x).map gN else none
  | .Tuple es _ _=>(R.gs T N ns es).map (gTp es.length)
  | _=>none
noncomputable def sGs (R:Rc) (T:Tb):List Str->NS->List Expr->Option MGs:=fun N ns es=>match es with
  | []=>some qR
  | e::r=>if notStar e then (R.g T N ns e).bind fun g=>(R.gs T N ns r).map (gp g) else none
noncomputable def Gp (R:Rc) (T:Tb) (N:List Str) (ns:NS) (y:Str) (elt it:Expr) (ifs:List Expr) (scope:Scope):Expr->Option MS
 | .Name x _=>
   if qU ns y&&(scope.kind == .function&&mU N (zk N x) ns scope.names x&&iN it) then
    (slot N y).bind fun i=>(R.i T N ns it).bind fun mi=>(R.f T (zk N x) scope.names ifs).bind fun mt=>(R.e T (zk N x) scope.names elt).map fun me=>bA i (bZ mi mt me)
   else none
 | _=>none
noncomputable def IL (R:Rc) (T:Tb) (N:List Str) (ns:NS) (y:Str) (elt:Expr) (scope:Scope):List Comprehension->Option MS
 | [c]=>if c.is_async=0 then Gp R T N ns y elt c.iter c.ifs scope c.target else none
 | _=>none
noncomputable def G6 (R:Rc) (T:Tb) (N:List Str) (ns:NS) (x:Str):Expr->Option MS
 | .ListComp elt gens scope _=>IL R T N ns x elt scope gens
 | e=>if qU ns x&&la e then (slot N x).bind fun i=>(R.e T N ns e).map (bA i) else none
noncomputable def GG (R:Rc) (T:Tb) (N:List Str) (ns:NS) (e:Expr):Expr->Option MS
  | .Name x _=>G6 R T N ns x e
  | .Subscript a b _=>if la e&&mX b then (R.e T N ns a).bind fun ma=>(R.e T N ns b).bind fun mb=>(R.e T N ns e).map (iX ma mb) else none
  | .Tuple ts kt pt=>if la e&&(notTuple e||pv ts) then (R.g T N ns (.Tuple ts kt pt)).bind fun g=>(R.e T N ns e).map fun me=>vq me g else none
  | _=>none
noncomputable def sAs (R:Rc) (T:Tb) (N:List Str) (ns:NS) (e:Expr):List Expr->Option MS
 | [t]=>GG R T N ns e t
 | _=>none
noncomputable def sAu (R:Rc) (T:Tb) (N:List Str) (ns:NS) (x:Str) (e:Expr):Operator->Option MS
  | .Add=>none
  | _=>none
noncomputable def JH (R:Rc) (T:Tb) (N:List Str) (ns:NS) (op:Operator) (e:Expr):Expr->Option MS
 | .Name x _=>sAu R T N ns x e op
 | _=>none
noncomputable def sRt (R:Rc) (T:Tb) (N:List Str) (ns:NS):Option Expr->Option MS
 | some e=>(R.e T N ns e).map bV
 | none=>some (bV (mC .non))
noncomputable def sFo (R:Rc) (T:Tb) (N:List Str) (ns:NS) (it:Expr) (body:List Stmt):Expr->Option MS
  | .Name x _=>if qU ns x&&iN it then (slot N x).bind fun i=>(R.i T N ns it).bind fun mi=>(R.b T N ns body).map (eo i mi) else none
  | .Tuple ts kt pt=>none
  | _=>none
noncomputable def Jh (R:Rc) (T:Tb) (N:List Str) (ns:NS) (t it:Expr) (body:List Stmt):List Stmt->Option MS
 | []=>sFo R T N ns it body t
 | _=>none
noncomputable def sWh (R:Rc) (T:Tb) (N:List Str) (ns:NS) (c:Expr) (body:List Stmt):List Stmt->Option MS
 | []=>(R.t T N ns c).bind fun mc=>(R.b T N ns body).map (iA mc)
 | _=>none
noncomputable def sS (R:Rc) (T:Tb):List Str->NS->Stmt->Option MS:=fun N ns st=>match st with
  | .Assign ts e _=>sAs R T N ns e ts
  | .AugAssign t op e _=>JH R T N ns op e t
  | .Expr e _=>if la e then (R.e T N ns e).map df else none
  | .Return o _=>sRt R T N ns o
  | .If c a b _=>(R.t T N ns c).bind fun mc=>(R.b T N ns a).bind fun ma=>(R.b T N ns b).map (sIf mc ma)
  | .For t it body els _=>Jh R T N ns t it body els
  | .While c body els _=>sWh R T N ns c body els
  | .Pass _=>some dh
  | .Break _=>some JD
  | .Raise _ _ _=>some sNo
  | .Continue _=>some Jx
  | _=>none
noncomputable def sB (R:Rc) (T:Tb):List Str->NS->List Stmt->Option MS:=fun N ns sts=>match sts with
  | []=>some dh
  | [s]=>R.s T N ns s
  | s::r=>(R.s T N ns s).bind fun ms=>(R.b T N ns r).map (aZ ms)
noncomputable def rc:Nat->Rc
 | 0=>⟨fun _ _ _ _=>none,fun _ _ _ _ _=>none,fun _ _ _ _ _=>none,fun _ _ _ _=>none,fun _ _ _ _=>none,fun _ _ _ _ _=>none,fun _ _ _ _=>none,fun _ _ _ _=>none,fun _ _ _ _=>none,fun _ _ _ _=>none,fun _ _ _ _=>none,fun _ _ _ _=>none,fun _ _ _ _=>none⟩
 | n+1=>⟨sE (rc n),sC (rc n),sV (rc n),sO (rc n),sT (rc n),sL (rc n),sF (rc n),sA (rc n),sI (rc n),sG (rc n),sGs (rc n),sS (rc n),sB (rc n)⟩
abbrev cE (T:Tb) (n:Nat):=(rc n).e T
abbrev cC (T:Tb) (n:Nat):=(rc n).c T
abbrev cV (T:Tb) (n:Nat):=(rc n).v T
abbrev cO (T:Tb) (n:Nat):=(rc n).o T
abbrev cT (T:Tb) (n:Nat):=(rc n).t T
abbrev cL (T:Tb) (n:Nat):=(rc n).l T
abbrev cF (T:Tb) (n:Nat):=(rc n).f T
abbrev cA (T:Tb) (n:Nat):=(rc n).a T
abbrev cI (T:Tb) (n:Nat):=(rc n).i T
abbrev cG (T:Tb) (n:Nat):=(rc n).g T
abbrev cGs (T:Tb) (n:Nat):=(rc n).gs T
abbrev cS (T:Tb) (n:Nat):=(rc n).s T
abbrev cB (T:Tb) (n:Nat):=(rc n).b T
end
end G
end
section
namespace G
open PySem PySem.Spec L2
open PyProof.Rows hiding St
section
variable {env:Env}{e a b o:Expr}{es:List Expr}{pos q:Pos}
theorem cJ (h:notStar e=true) (es:List Expr) (env:Env):starEach (e::es) env=(false,eval e env)::starEach es env:=by
 cases e <;> first | rfl | cases h
theorem uo (pos:Pos) (env:Env) : ∀ {es:List Expr},es.all notStar=true->(backTo pos (starEach es env)).any (·.1)=false
 | [],_=>rfl
 | e::es,h=>by
   rw [cm,az] at h
   rw [cJ h.1]
   show (false||(backTo pos (starEach es env)).any (·.1))=false
   rw [uo pos env h.2];rfl
theorem Ct (h:plainT e=true) (env:Env) : ∀ whole,isTrue e env whole=(do let v <- whole;standAt e.pos;holding [v] (truthy v)):=by
 intro whole
 cases e <;> first | rfl | cases h
theorem ph (h:iN e=true) (env:Env) : ∀ x,foldedSetIterable e env x=pure x:=by
 intro x
 cases e <;> first | rfl | cases h
theorem tF (h:iN b=true) (op:CmpOp):behindInMarks op b=false:=by
 cases b <;> first | rfl | cases h
theorem JT (h:mX b=true):um b:=by
 intro o i
 cases b <;> first | rfl | cases h
theorem nu (h:baseOk o=true) (name:Str) (env:Env):attributeBase o name env (eval o env)=eval o env:=by
 cases o with
 | Call f as ks p=>
   cases f with
   | Name x p=>
     cases as with
     | nil=>cases ks with
       | nil=>cases h
       | cons k ks=>rfl
     | cons a as=>rfl
   | _=>rfl
 | _=>rfl
theorem tV (h:la e=true) (t:Option Expr) (line:Nat) (env:Env):swapsWith e t line env=pure false:=by
 cases e <;> first | rfl | cases h
theorem xX (h:la e=true) (t:Expr) (line:Nat) (env:Env):swapsWithSole [t] e line env=pure false:=by
 unfold swapsWithSole
 exact tV h _ _ _
theorem tY (h:notStar a=true) (q:Pos) (env:Env):((backTo q (starEach [a] env)).all (fun x => !x.1)&&(backToKw q (keywordEach [] env)).all (fun x=>x.1.isSome)
   && decide ([a].length+([]:List Keyword).length+(if ([]:List Keyword).isEmpty then 0 else 1) < 30))=true:=by
 rw [cJ h];rfl
theorem Hf (h:mX b=true) (env:Env) : ∀ v,assign (.Subscript a b pos) env v=(do
   let ov <- holding [v] (eval a env)
   let iv <- holding [v,ov] (eval b env)
   standAt pos
   holding [v,ov,iv] (setItem ov iv v)
   release [v,ov,iv] []):=by
 intro v
 cases b <;> first | rfl | cases h
theorem v5 (h:notStar e=true) (es:List Expr) (env:Env):assignEach (e::es) env=(false,assign e env)::assignEach es env:=by
 cases e <;> first | rfl | cases h
theorem yR (env:Env) : ∀ es:List Expr,es.all notStar=true->(assignEach es env).length=es.length/\(assignEach es env).findIdx? (·.1)=none
 | [],_=>⟨rfl,rfl⟩
 | e::es,h=>by
   rw [cm,az] at h
   obtain⟨a,b⟩:=yR env es h.2
   rw [v5 h.1]
   exact⟨by simp [a],by rw [pH];simp [b]⟩
theorem uG {ts:List Expr}{kt:Nat}{pt:Pos} (h:(notTuple e||pv ts)=true):swappedStores [.Tuple ts kt pt] e env=pure none:=by
 cases e with
 | Tuple vs k2 p2=>
   have h':pv ts=true:=h
   unfold pv at h'
   split at h'
   ·exact vZ
   ·cases h'
 | _=>rfl
theorem wJ:swappedStores [.Subscript a b pos] e env=pure none:=by
 cases e <;> rfl
end
theorem i6 {T:Tb} : ∀ {n:Nat}{N:List Str}{ns:NS}{es:List Expr}{m:MA},cA T n N ns es=some m->es.all notStar=true
 | 0,_,_,_,_,h=>by simp [cA,rc] at h
 | n+1,_,_,[],_,h=>rfl
 | n+1,N,ns,e::es,m,h=>by
   simp only [cA,rc,sA] at h
   split at h
   ·rename_i hs
    cases e1:(rc n).e T N ns e with
    | none=>rw [e1] at h;cases h
    | some me=>
      rw [e1] at h
      simp only [ai] at h
      cases e2:(rc n).a T N ns es with
      | none=>rw [e2] at h;cases h
      | some mr=>rw [cm,hs,i6 e2];rfl
   ·cases h
theorem uM {T:Tb} : ∀ {n:Nat}{N:List Str}{ns:NS}{es:List Expr}{m:MGs},cGs T n N ns es=some m->es.all notStar=true
 | 0,_,_,_,_,h=>by simp [cGs,rc] at h
 | n+1,_,_,[],_,h=>rfl
 | n+1,N,ns,e::es,m,h=>by
   simp only [cGs,rc,sGs] at h
   split at h
   ·rename_i hs
    cases e1:(rc n).g T N ns e with
    | none=>rw [e1] at h;cases h
    | some me=>
      rw [e1] at h
      simp only [ai] at h
      cases e2:(rc n).gs T N ns es with
      | none=>rw [e2] at h;cases h
      | some mr=>rw [cm,hs,uM e2];rfl
   ·cases h
theorem slot_get {N:List Str}{x:Str}{i:Nat} (h:slot N x=some i):N[i]? = some x:=by
 unfold slot at h
 obtain⟨h1,h2,_⟩:=dZ.mp h
 rw [bU h1,eq_of_beq h2]
theorem gw {x:Str} (h:ft x=true):(x == ("__debug__":Str))=false/\(x == ("__classdict__":Str))=false:=by
 unfold ft at h
 rw [az] at h
 simpa using h
theorem bind_eq {α β:Type}{o:Option α}{f:α->Option β}{b:β} (h:o.bind f=some b) : ∃ a,o=some a/\f a=some b:=by
 cases o with
 | none=>cases h
 | some a=>exact⟨a,rfl,h⟩
theorem map_eq {α β:Type}{o:Option α}{f:α->β}{b:β} (h:o.map f=some b) : ∃ a,o=some a/\f a=b:=by
 cases o with
 | none=>cases h
 | some a=>exact⟨a,rfl,bq h⟩
section
variable {M:Mo}{X:Cx}{k:Nat}{N:List Str}{ns:NS}{a b c e:Expr}{es:List Expr}{ma mb mc:ME}{mt:MT}{mas:MA}{pos p1 p2:Pos}{x:Str}
theorem KU (S:Sc M X k N ns) (hg:eC ns "all"=true) (hm:M.mg "all"=none) (ha:PA X (e::es) (tMA M.K mas)) (he:starEach (e::es) X.env=(false,eval e X.env)::starEach es X.env) (hpl:(backTo pos (starEach es X.env)).any (·.1)=false) :
  PE X (.Call (.Name "all" p1) (e::es) [] pos) (tM M.K (mFn rL mas)):=
 PE.con (jx (S.hK▸zF S.calm) (S.gl hg) (by rw [S.hm];exact hm) PyProof.Rows.boot_all ha (by decide) (by decide) he hpl) fun _ _ _ h=>z0 F5 h
theorem AE (S:Sc M X k N ns) (hg:eC ns "sorted"=true) (hm:M.mg "sorted"=none) (ha:PA X (e::es) (tMA M.K mas)) (he:starEach (e::es) X.env=(false,eval e X.env)::starEach es X.env) (hpl:(backTo pos (starEach es X.env)).any (·.1)=false) :
  PE X (.Call (.Name "sorted" p1) (e::es) [] pos) (tM M.K (mFn dG mas)):=
 PE.con (jx (S.hK▸wc S.calm) (S.gl hg) (by rw [S.hm];exact hm) PyProof.Rows.boot_sorted ha (by decide) (by decide) he hpl) fun _ _ _ h=>z0 zy h
theorem B7 (S:Sc M X k N ns) (ho:PE X b (tM M.K mb)) (ha:PA X [a] (tMA M.K mas)) (hb:baseOk b=true) (hs:notStar a=true) (hl:(p1.endLine == pos.line)=true):PE X (.Call (.Attribute b "extend" p1) [a] [] pos) (tM M.K (mML et mb mas)):=by
 exact PE.con (Ap gL PySem.F.slot_list_extend PySem.F.type_list_extend zw ho ha (nu hb _ _) (tY hs _ _) hl (cJ hs _ _) rfl) fun _ _ _ h=>S.hK▸FV zf h
theorem AC {op:CmpOp}{f:F2} (S:Sc M X k N ns) (h:u9 op=some f) : ∃ r,OpR X (compareOp op) r/\OpU M.K r f:=by
 cases op <;> simp only [u9,eP,reduceCtorEq] at h <;> subst h
 ·exact⟨_,S.hK▸F9 S.room.units,K6⟩
 ·exact⟨_,S.hK▸Il S.room.units,IV⟩
 ·exact⟨_,KF,t7⟩
 ·exact⟨_,JA,t7⟩
 ·exact⟨_,JR,t7⟩
 ·exact⟨_,KO,t7⟩
 ·exact⟨_,Ge,Ky⟩
 ·exact⟨_,zJ,Bp⟩
 ·exact⟨_,S.hK▸GI (by have:=S.room.units;omega),Jk⟩
 ·exact⟨_,S.hK▸zt (by have:=S.room.units;omega),Cf⟩
theorem KC {j:Nat}{p3 p4:Pos} (S:Sc M X k N ns) (ha:PE X a (tM M.K ma)):PE X (.Subscript a (.Slice none none (some (.UnaryOp .USub (.Constant (.int 1) j p3) p4)) p2) pos) (tM M.K (m1 mB ma)):=by
 refine PE.con (t:=Ho M.K (tM M.K ma)) ?_ fun _ _ _ h=>Kw h
 rw [<- S.hK]
 exact HY ha
theorem Hv {N':List Str}{scope:Scope}{px py spos:Pos}{iter elt:Expr}{ifs:List Expr}{wi:TI}{mi:MI}{y:Str} (S:Sc M X k N ns) (i:Nat) (hy:N[i]? = some y) (ho:qU ns y=true) (hk:scope.kind = .function) (ok:mU N N' ns scope.names x=true) (hi:PI X (.Name x px) iter wi)
  (ht : ∀ X',Sc M X' k N' scope.names->PTs X' ifs (tMT M.K mt)) (he : ∀ X',Sc M X' k N' scope.names->PE X' elt (tM M.K mc)) (hr : ∀ σ H Q,tM M.K (bZ mi mt mc) σ H Q->nM wi (tMT M.K mt) (tM M.K mc) σ H Q)
  (hs : ∀ x,foldedSetIterable iter X.env x=pure x):PS X (.Assign [.Name y py] (.ListComp elt [⟨.Name x px,iter,ifs,0⟩] scope pos) spos) (tMS M.K (bA i (bZ mi mt mc))):=by
 have C:=sD S hk ok
 have e : ∃ b,swapsWith (.ListComp elt [⟨.Name x px,iter,ifs,0⟩] scope pos) (some (.Name y py)) spos.line X.env=pure b:=⟨_,rfl⟩
 obtain⟨b,e⟩:=e
 cases b with
 | true=>exact PS.con (Dj (by rw [S.hN];exact S.nd) (by rw [S.hN];exact hy) (S.lo ho).1 S.calm C hi (fun s₂ H₂ fp=>ht _ (oq S C s₂ H₂ fp)) (fun s₂ H₂ fp=>he _ (oq S C s₂ H₂ fp)) e hs (S.lo ho).2) fun _ _ _ h=>hr _ _ _ (Fu h)
 | false=>exact FM S i hy ho (AA S hk ok hi ht he hr hs) e
theorem HW (ha:PE X a (tM M.K ma)) (hb:PE X b (tM M.K mb)):PE X (.Dict [some a] [b] pos) (tM M.K (qF ma mb)):=
 PE.con (Fd (AM ha hb Dp) rfl rfl (by simp) (by simp)) fun _ _ _ h=>GO h
theorem vh : ∀ {ts:List Expr}{xs:List Str},namesOf ts=some xs->eD ts xs
 | [],xs,h=>by cases h;exact .nil
 | t::ts,xs,h=>by
   cases t with
   | Name x p=>
     unfold namesOf at h
     cases q:namesOf ts with
     | none=>rw [q] at h;cases h
     | some ys=>rw [q] at h;cases h;exact .cons x p (vh q)
   | _=>cases h
theorem Ec {N' xs:List Str}{scope:Scope}{kt:Nat}{pt:Pos}{ts:List Expr}{iter elt:Expr}{ifs:List Expr}{mi:ME} (S:Sc M X k N ns) (hk:scope.kind = .function) (ok:mY N N' ns scope.names xs=true) (hn:eD ts xs) (hi:PE X iter (tM M.K mi))
  (ht : ∀ X',Sc M X' k N' scope.names->PTs X' ifs (tMT M.K mt)) (he : ∀ X',Sc M X' k N' scope.names->PE X' elt (tM M.K mc))
  (hs : ∀ x,foldedSetIterable iter X.env x=pure x):PE X (.ListComp elt [⟨.Tuple ts kt pt,iter,ifs,0⟩] scope pos) (tM M.K (iP xs.length (da mi) mt mc)):=by
 have C:=pT S hk ok
 refine PE.con (Br S.calm C hn (KP S hi) (fun s₂ H₂ fp=>ht _ (oq S C s₂ H₂ fp)) (fun s₂ H₂ fp=>he _ (oq S C s₂ H₂ fp)) hs) fun _ _ _ h => ?_
 rw [S.hK]
 exact Jz h
theorem BO {as:Expr}{q rp:Pos} (S:Sc M X k N ns) (hg:eC ns "list"=true) (hm:M.mg "list"=none) (hg2:eC ns "range"=true) (hm2:M.mg "range"=none) (ha:PA X [as] (tMA M.K mas)) (hs:notStar as=true) :
  PE X (.Call (.Name "list" p1) [.Call (.Name "range" q) [as] [] rp] [] pos) (tM M.K (gU (iR1 mas))):=
 PE.con (jA (lT S.calm) (S.gl hg) (by rw [S.hm];exact hm) tD (jQ (yg (S.gl hg2) (by rw [S.hm];exact hm2) ha (by rw [cJ hs];rfl)) oA) (by decide) (by decide)) fun _ _ _ h=>Cb h
theorem B6 {as bs:Expr}{q rp:Pos} (S:Sc M X k N ns) (hg:eC ns "list"=true) (hm:M.mg "list"=none) (hg2:eC ns "range"=true) (hm2:M.mg "range"=none) (ha:PA X [as,bs] (tMA M.K mas)) (hs:notStar as=true) (hs2:notStar bs=true) :
  PE X (.Call (.Name "list" p1) [.Call (.Name "range" q) [as,bs] [] rp] [] pos) (tM M.K (gU (iR2 mas))):=
 PE.con (jA (lT S.calm) (S.gl hg) (by rw [S.hm];exact hm) tD (jQ (xZ (S.gl hg2) (by rw [S.hm];exact hm2) ha (by rw [cJ hs,cJ hs2];rfl) (by rw [cJ hs2];rfl)) oA) (by decide) (by decide)) fun _ _ _ h=>Bt h
theorem Dz {as:Expr}{q rp:Pos} (S:Sc M X k N ns) (hg:eC ns "tuple"=true) (hm:M.mg "tuple"=none) (hg2:eC ns "range"=true) (hm2:M.mg "range"=none) (ha:PA X [as] (tMA M.K mas)) (hs:notStar as=true) :
  PE X (.Call (.Name "tuple" p1) [.Call (.Name "range" q) [as] [] rp] [] pos) (tM M.K (lP (iR1 mas))):=
 PE.con (jA (kI S.calm) (S.gl hg) (by rw [S.hm];exact hm) jq (jQ (yg (S.gl hg2) (by rw [S.hm];exact hm2) ha (by rw [cJ hs];rfl)) oA) (by decide) (by decide)) fun _ _ _ h=>DY h
theorem DV {as bs:Expr}{q rp:Pos} (S:Sc M X k N ns) (hg:eC ns "tuple"=true) (hm:M.mg "tuple"=none) (hg2:eC ns "range"=true) (hm2:M.mg "range"=none) (ha:PA X [as,bs] (tMA M.K mas)) (hs:notStar as=true) (hs2:notStar bs=true) :
  PE X (.Call (.Name "tuple" p1) [.Call (.Name "range" q) [as,bs] [] rp] [] pos) (tM M.K (lP (iR2 mas))):=
 PE.con (jA (kI S.calm) (S.gl hg) (by rw [S.hm];exact hm) jq (jQ (xZ (S.gl hg2) (by rw [S.hm];exact hm2) ha (by rw [cJ hs,cJ hs2];rfl) (by rw [cJ hs2];rfl)) oA) (by decide) (by decide)) fun _ _ _ h=>Dl h
theorem JQ {t:Str}{c:String} (S:Sc M X k N ns) (hg:eC ns "isinstance"=true) (hm:M.mg "isinstance"=none) (hg2:eC ns t=true) (hm2:M.mg t=none) (hb:bootBuiltins t=some (.type c)) (hc:c∈jJ) (hn:t≠"__name__") (hd:(t == ("__debug__":Str))=false)
  (ha:PE X a (tM M.K ma)) (hs:notStar a=true):PE X (.Call (.Name "isinstance" p1) [a,.Name t p2] [] pos) (tM M.K (m1 (mI c) ma)):=by
 refine PE.con (jx Ba (S.gl hg) (by rw [S.hm];exact hm) PyProof.Rows.boot_isinstance (jQ ha (jQ (DN (v := .ty c) (S.gl hg2) (by rw [S.hm];exact hm2) hb rfl hn hd) oA) (cJ hs _ _)) (by decide) (by decide) (cJ hs _ _) rfl) fun _ _ _ h => ?_
 rw [S.hK]
 exact IR hc h
theorem EH (S:Sc M X k N ns) (ho:PE X b (tM M.K mb)) (ha:PA X [a] (tMA M.K mas)) (hb:baseOk b=true) (hs:notStar a=true) (hl:(p1.endLine == pos.line)=true):PE X (.Call (.Attribute b "index" p1) [a] [] pos) (tM M.K (mMT dA mb mas)):=by
 refine PE.con (t:=HV M.K (tM M.K mb) (tMA M.K mas)) ?_ fun _ _ _ h=>Dx h
 rw [<- S.hK]
 exact Cu S.room.units ho ha (nu hb _ _) (tY hs _ _) hl (cJ hs _ _) rfl
theorem GX (S:Sc M X k N ns) (ho:PE X b (tM M.K mb)) (hb:baseOk b=true) (hl:(p1.endLine == pos.line)=true):PE X (.Call (.Attribute b "pop" p1) [] [] pos) (tM M.K (mML lG mb af)):=by
 exact PE.con (Hz gL yY yZ HD ho (nu hb _ _) hl) fun _ _ _ h=>S.hK▸KG Gb h
section
variable {X:Cx}
end
theorem LB {st:Stmt}:PS X st (tMS M.K sNo):=by
 intro pins s σ H D I h
 obtain⟨μ,S,ρ,r,hr,er,e,kk⟩:=h
 cases e
theorem JC:PS X (.Break pos) (tMS M.K JD):=PS.con Bf fun D σ H h=>by
 obtain⟨μ,S,ρ,r,hr,er,e,kk⟩:=h
 cases e
 exact kk μ σ H (Pre.refl _) (bj.refl _) hr er
theorem Ju:PS X (.Continue pos) (tMS M.K Jx):=PS.con wa fun D σ H h=>by
 obtain⟨μ,S,ρ,r,hr,er,e,kk⟩:=h
 cases e
 exact kk μ σ H (Pre.refl _) (bj.refl _) hr er
theorem Iw:PS X (.Pass pos) (tMS M.K dh):=PS.con E2 fun D σ H h=>BY h
theorem Hi:PS X (.Return none pos) (tMS M.K (bV (mC .non))):=PS.con EN fun D σ H h=>by
 obtain⟨μ,S,ρ,r,hr,er,e,kk⟩:=h
 cases e
 exact kk μ _ H (Pre.refl _) (bj.refl _) hr oG
theorem GP (ha:PE X a (tM M.K ma)) (hb:PE X (.BoolOp .And (b::es) pos) (tM M.K mb)):PE X (.BoolOp .And (a::b::es) pos) (tM M.K (h8 ma mb)):=PE.con (Hd ha hb) fun _ _ _ h=>Ij h
theorem J8 (ha:PE X a (tM M.K ma)) (hb:PE X (.BoolOp .Or (b::es) pos) (tM M.K mb)):PE X (.BoolOp .Or (a::b::es) pos) (tM M.K (mOr ma mb)):=PE.con (Ki ha hb) fun _ _ _ h=>IF h
theorem Iq (ha:PE X a (tM M.K ma)):PE X (.UnaryOp .Not a pos) (tM M.K (m1 xG ma)):=PE.con (Ik ha) fun _ _ _ h=>Gj h
end
end G
end
section
namespace G
open PySem PySem.Spec L2
open PyProof.Rows hiding St
structure TOk (M:Mo) (T:Tb) (k:Nat):Prop where
 D : ∀ x mf,T.D.lookup x=some mf -> ∃ k' ps,k'<=k/\Fn M x k' ps mf
 C : ∀ x u,T.C.lookup x=some u -> ∃ g v,M.mg x=some g/\RelV v g /\ ∀ H μ,RU H μ u v
 B : ∀ x∈jt,M.mg x=none
 L : ∀ x q,T.L.lookup x=some q -> ∃ k' ps,k'<=k/\Lam M q.1 k' ps q.2
 mkr:T.mkr=true -> ∃ c q P,M.mkr=some (c,q)/\Mkr M c P (q++"<lambda>")
noncomputable def GOk (M:Mo) (T:Tb) (k:Nat):Prop:=TOk M T k/\(T.mkr=true -> ∃ j,j+2<=k/\(∀ x F,T.H.lookup x=some F -> ∃ k' ps,k'<=j+1/\FnC M x k' ps F) /\ ∀ caps capv cds base,h9 M.mg base->TOk (M.to caps capv cds base) T.bare j)
noncomputable def IOk (M:Mo) (X:Cx) (tg it:Expr) (mi:MI):Prop := ∃ wi,PI X tg it wi /\
 (∀ i ms D σ H,tMS M.K (eo i mi ms) D σ H->wK wi (iB i) (tMS M.K ms) D σ H) /\
 (∀ mt mc σ H Q,tM M.K (bZ mi mt mc) σ H Q->nM wi (tMT M.K mt) (tM M.K mc) σ H Q)
structure Snd (M:Mo) (T:Tb) (k n:Nat):Prop where
 e : ∀ N ns e m,cE T n N ns e=some m -> ∀ X,Sc M X k N ns->PE X e (tM M.K m)
 c : ∀ N ns g as m,cC T n N ns g as=some m->eC ns g=true->ft g=true -> ∀ a r,as=a::r -> ∀ X p1 pos,Sc M X k N ns->PE X (.Call (.Name g p1) as [] pos) (tM M.K m)
 v : ∀ N ns g as m,cV T n N ns g as=some m -> ∀ a r,as=a::r -> ∀ X p1 pos,Sc M X k N ns->PE X (.Call (.Name g p1) as [] pos) (tM M.K m)
 v0 : ∀ N ns g m,cV T n N ns g []≠some m
 o : ∀ N ns o m,cO T n N ns o=some m -> ∀ X,Sc M X k N ns->kO M X o m
 t : ∀ N ns e m,cT T n N ns e=some m -> ∀ X,Sc M X k N ns->PT X e (tMT M.K m)
 l : ∀ N ns b vs m pos,cL T n N ns b vs=some m -> ∀ X,Sc M X k N ns->PW X (.BoolOp (if b then .And else .Or) vs pos) (tMT M.K m)
 f : ∀ N ns vs m,cF T n N ns vs=some m -> ∀ X,Sc M X k N ns->PTs X vs (tMT M.K m)
 a : ∀ N ns es m,cA T n N ns es=some m -> ∀ X,Sc M X k N ns->PA X es (tMA M.K m)
 i : ∀ N ns tg it m,cI T n N ns it=some m -> ∀ X,Sc M X k N ns->IOk M X tg it m
 g : ∀ N ns e m,cG T n N ns e=some m -> ∀ X,Sc M X k N ns->PG X e (tG M.K m)
 gs : ∀ N ns es m,cGs T n N ns es=some m -> ∀ X,Sc M X k N ns->PGs X es (tGs M.K m)
 s : ∀ N ns st m,cS T n N ns st=some m -> ∀ X,Sc M X k N ns->PS X st (tMS M.K m)
 b : ∀ N ns sts m,cB T n N ns sts=some m -> ∀ X,Sc M X k N ns->PSs X sts (tMS M.K m)
theorem eO {α:Type}{x:α}{P:Prop} (h:(none:Option α)=some x):P:=by cases h
theorem Ll (M:Mo) (T:Tb) (k:Nat):Snd M T k 0:=
 ⟨fun _ _ _ _ h=>eO h,fun _ _ _ _ _ h=>eO h,fun _ _ _ _ _ h=>eO h,fun _ _ _ _ h=>eO h,fun _ _ _ _ h=>eO h,fun _ _ _ _ h=>eO h,fun _ _ _ _ _ _ h=>eO h,fun _ _ _ _ h=>eO h,fun _ _ _ _ h=>eO h,fun _ _ _ _ _ h=>eO h,fun _ _ _ _ h=>eO h,fun _ _ _ _ h=>eO h,fun _ _ _ _ h=>eO h,fun _ _ _ _ h=>eO h⟩
section
variable {M:Mo}{T:Tb}{k n:Nat}
theorem HK {N:List Str}{ns:NS}{X:Cx}{a b:Expr}{ma mb:ME}{op:Operator}{f:F2}{pos:Pos} (h:Im op=some f) (S:Sc M X k N ns) (ha:PE X a (tM M.K ma)) (hb:PE X b (tM M.K mb)):PE X (.BinOp a op b pos) (tM M.K (m2 f ma mb)):=by
 cases op <;> simp only [Im,eP,reduceCtorEq] at h <;> subst h
 ·exact K7 S ha hb
 ·exact KI ha hb
 ·exact J3 S ha hb
 ·exact IM ha hb
 ·exact IY ha hb
 ·exact KN ha hb
theorem Ia {N:List Str}{ns:NS}{X:Cx}{a b:Expr}{ma mb:ME}{op:CmpOp}{f:F2}{pos:Pos} (h:u9 op=some f) (S:Sc M X k N ns) (ha:PE X a (tM M.K ma)) (hb:PE X b (tM M.K mb)) (hs:iN b=true) :
  PE X (.Compare a [op] [b] pos) (tM M.K (m2 f ma mb))/\PT X (.Compare a [op] [b] pos) (tMT M.K (cOf (m2 f ma mb))):=by
 obtain⟨r,ho,ou⟩:=AC S h
 exact⟨PE.con (DD ho ha hb (tF hs _)) fun _ _ _ h=>uw ou h,PT.con (Fb ho ha hb (tF hs _)) fun _ _ _ h=>wX (fun _ q=>uw ou q) h⟩
theorem Bs {N:List Str}{ns:NS}{X:Cx}{a b c:Expr}{ma mb mc:ME}{op op':CmpOp}{f g:F2}{pos:Pos} (h:u9 op=some f) (h':u9 op'=some g) (S:Sc M X k N ns) (ha:PE X a (tM M.K ma)) (hb:PE X b (tM M.K mb)) (hc:PE X c (tM M.K mc)) (hs:iN c=true) :
  PE X (.Compare a [op,op'] [b,c] pos) (tM M.K (mCh f g ma mb mc))/\PT X (.Compare a [op,op'] [b,c] pos) (tMT M.K (cOf (mCh f g ma mb mc))):=by
 obtain⟨r,ho,ou⟩:=AC S h
 obtain⟨r',ho',ou'⟩:=AC S h'
 have hm:lastMarks [op,op'] [b,c]=false:=tF hs _
 exact⟨PE.con (Bj ho ho' ha hb hc hm) fun _ _ _ h=>yz ou ou' h,PT.con (BN ho ho' ha hb hc hm) fun _ _ _ h=>wX (fun _ q=>yz ou ou' q) h⟩
theorem G3 {t:Str}{c:String} (h:Aq t=some c):bootBuiltins t=some (.type c)/\c∈jJ/\t≠"__name__"/\(t == ("__debug__":Str))=false/\t∈jt:=by
 unfold Aq at h
 repeat' split at h
 all_goals first
  | cases h
    done
  | (rename_i q
     cases h
     rw [eq_of_beq q]
     exact⟨by decide +kernel,by decide,by decide +kernel,by decide +kernel,by decide +kernel⟩)
theorem Dw {N:List Str}{ns:NS}{X:Cx}{g:Str}{e:Expr}{es:List Expr}{mas:MA}{p1 pos:Pos}{mf:MF} (O:TOk M T k) (h:Gy g=some mf) (hg:eC ns g=true) (S:Sc M X k N ns) (ha:PA X (e::es) (tMA M.K mas)) (hs:(e::es).all notStar=true) :
  PE X (.Call (.Name g p1) (e::es) [] pos) (tM M.K (mFn mf mas)):=by
 rw [cm,az] at hs
 have he:=cJ hs.1 es X.env
 have hp:=uo pos X.env hs.2
 unfold Gy at h
 repeat' split at h
 all_goals first
  | (cases h;done)
  | (rename_i q
     cases h
     rw [eq_of_beq q] at hg ⊢
     first
      | exact A8 S hg (O.B _ (by decide +kernel)) ha he hp
      | exact EY S hg (O.B _ (by decide +kernel)) ha he hp
      | exact ID S hg (O.B _ (by decide +kernel)) ha he hp
      | exact Jg S hg (O.B _ (by decide +kernel)) ha he hp
      | exact KU S hg (O.B _ (by decide +kernel)) ha he hp
      | exact AE S hg (O.B _ (by decide +kernel)) ha he hp)
theorem Es {N:List Str}{ns:NS}{X:Cx}{name:Str}{a o:Expr}{mo m:ME}{mas:MA}{p1 pos:Pos} (h:A6 name mo mas=some m) (S:Sc M X k N ns) (ho:PE X o (tM M.K mo)) (ha:PA X [a] (tMA M.K mas)) (hb:baseOk o=true) (hl:(p1.endLine == pos.line)=true) (hs:notStar a=true) :
  PE X (.Call (.Attribute o name p1) [a] [] pos) (tM M.K m):=by
 unfold A6 at h
 repeat' split at h
 all_goals first
  | (cases h;done)
  | (rename_i q
     cases h
     rw [eq_of_beq q]
     first
      | exact BR S ho ha (nu hb _ _) (tY hs _ _) hl (cJ hs _ _) rfl
      | exact EV S ho ha (nu hb _ _) (tY hs _ _) hl (cJ hs _ _) rfl
      | exact EH S ho ha hb hs hl
      | exact B7 S ho ha hb hs hl)
end
end G
end
section
namespace G
open PySem PySem.Spec L2
open PyProof.Rows hiding St
section
variable {M:Mo}{T:Tb}{k n:Nat}
theorem vW {ps:List Str}{sc:Scope}{ns:NS} (h:xA ps sc ns=true):kh ps (frees sc) sc /\ ∀ y∈frees sc,ns.lookup y=some .cell/\(y,aN)∈sc.names:=by
 unfold xA at h
 simp only [az,bH,Bool.not_eq_true',decide_eq_true_eq] at h
 obtain⟨⟨⟨⟨⟨⟨h1,h2⟩,h3⟩,h4⟩,h5⟩,h6⟩,h7⟩:=h
 have fm : ∀ y∈frees sc,(y,aN)∈sc.names:=fun y hy=>by
  obtain⟨z,hz,e⟩:=bb.mp hy
  obtain⟨a,b⟩:=fh.mp hz
  obtain⟨z1,z2⟩:=z
  cases e
  have:z2 = .free:=eq_of_beq b
  rw [this] at a;exact a
 refine⟨⟨eq_of_beq h1,h2,h3,h4,fun p hp => ?_,fun x hx e => ?_,fun y hy e=>bb.mpr ⟨y,fh.mpr ⟨hy,by rw [e];rfl⟩,rfl⟩,fun y hy=>eq_of_beq (h7 y hy).1⟩,fun y hy=>⟨eq_of_beq (h7 y hy).2,fm y hy⟩⟩
 ·have:=h5 p hp
  rw [mP] at this
  exact this.imp eq_of_beq eq_of_beq
 ·have:=h6 x hx
  rw [e] at this
  simpa using this
theorem KJ (O:TOk M T k) (R:Snd M T k n) : ∀ N ns g as m,cV T (n+1) N ns g as=some m -> ∀ a r,as=a::r -> ∀ X p1 pos,Sc M X k N ns->PE X (.Call (.Name g p1) as [] pos) (tM M.K m):=by
 intro N ns g as m h a r e X p1 pos S
 subst e
 simp only [cV,rc,sV] at h
 split at h
 ·rename_i hs
  rw [az] at hs
  obtain⟨q,e1,h⟩:=bind_eq h
  obtain⟨i,e2,h⟩:=bind_eq h
  obtain⟨mas,e3,rfl⟩:=map_eq h
  obtain⟨k',ps,hk,F⟩:=O.L _ _ e1
  have hst:=i6 e3
  rw [cm,az] at hst
  obtain⟨n1,n2⟩:=gw hs.2
  exact Dt S F hk i (slot_get e2) hs.1 (R.a _ _ _ _ e3 X S) n1 n2 (cJ hst.1 _ _) (uo _ _ hst.2)
 ·cases h
section
variable {N:List Str}{ns:NS}{X:Cx}{m:ME}
theorem EX {c:Const}{j}{pos:Pos} (h:K4 c=some m):PE X (.Constant c j pos) (tM M.K m):=by
 cases c <;> first | (cases h;done) | skip
 all_goals cases h
 all_goals first | exact Ld | exact LK | exact IJ | exact PE.con Gw fun _ _ _ q=>r_c (fun _ _=>by simp only [RU]) q
theorem FZ (R:Snd M T k n) {op:UnaryOp}{a:Expr}{pos:Pos} (h:eUn (rc n) T N ns a op=some m) (S:Sc M X k N ns):PE X (.UnaryOp op a pos) (tM M.K m):=by
 cases op <;> first | (cases h;done) | skip
 all_goals obtain⟨ma,e1,rfl⟩:=map_eq h
 all_goals first | exact JP (R.e _ _ _ _ e1 X S) | exact Iq (R.e _ _ _ _ e1 X S)
theorem GY (R:Snd M T k n) {op:BoolOp}{vs:List Expr}{p:Pos} (h:eBo (rc n) T N ns op p vs=some m) (S:Sc M X k N ns):PE X (.BoolOp op vs p) (tM M.K m):=by
 unfold eBo at h
 split at h
 ·cases h
 ·exact GK (R.e _ _ _ _ h X S)
 ·obtain⟨ma,e1,h⟩:=bind_eq h
  cases op
  ·obtain⟨mb,e2,rfl⟩:=map_eq h
   exact GP (R.e _ _ _ _ e1 X S) (R.e _ _ _ _ e2 X S)
  ·obtain⟨mb,e2,rfl⟩:=map_eq h
   exact J8 (R.e _ _ _ _ e1 X S) (R.e _ _ _ _ e2 X S)
theorem CA (R:Snd M T k n) {a:Expr}{ops:List CmpOp}{bs:List Expr}{pos:Pos} (h:eCm (rc n) T N ns a ops bs=some m) (S:Sc M X k N ns):PE X (.Compare a ops bs pos) (tM M.K m)/\PT X (.Compare a ops bs pos) (tMT M.K (cOf m)):=by
 unfold eCm at h
 split at h
 ·split at h
  ·rename_i hs
   obtain⟨ma,e1,h⟩:=bind_eq h
   obtain⟨mb,e2,h⟩:=bind_eq h
   obtain⟨f,e3,rfl⟩:=map_eq h
   exact Ia e3 S (R.e _ _ _ _ e1 X S) (R.e _ _ _ _ e2 X S) hs
  ·cases h
 ·split at h
  ·rename_i hs
   rw [az] at hs
   obtain⟨ma,e1,h⟩:=bind_eq h
   obtain⟨mb,e2,h⟩:=bind_eq h
   obtain⟨mc,e3,h⟩:=bind_eq h
   obtain⟨f,e4,h⟩:=bind_eq h
   obtain⟨g,e5,rfl⟩:=map_eq h
   exact Bs e4 e5 S (R.e _ _ _ _ e1 X S) (R.e _ _ _ _ e2 X S) (R.e _ _ _ _ e3 X S) hs.2
  ·cases h
 ·cases h
theorem DX {s:Expr} (h:Ep s=true) : ∃ j p3 p4,s = .UnaryOp .USub (.Constant (.int 1) j p3) p4:=by
 unfold Ep at h
 split at h
 ·rename_i i j p3 p4
  rw [eq_of_beq h];exact⟨j,p3,p4,rfl⟩
 ·cases h
theorem G2 (R:Snd M T k n) {a b:Expr}{pos:Pos} (h:eSb (rc n) T N ns a b=some m) (S:Sc M X k N ns):PE X (.Subscript a b pos) (tM M.K m):=by
 unfold eSb at h
 split at h
 ·rename_i lo hi st p
  cases st with
  | none=>
    obtain⟨ma,e1,h⟩:=bind_eq h
    obtain⟨ml,e2,h⟩:=bind_eq h
    obtain⟨mh,e3,rfl⟩:=map_eq h
    exact Dy S (R.e _ _ _ _ e1 X S) (R.o _ _ _ _ e2 X S) (R.o _ _ _ _ e3 X S)
  | some s=>
    have h:(if lo.isNone&&hi.isNone&&Ep s then ((rc n).e T N ns a).map (m1 mB) else none)=some m:=h
    split at h
    ·rename_i hs
     rw [az,az] at hs
     obtain⟨⟨h1,h2⟩,h3⟩:=hs
     cases lo with
     | some z=>cases h1
     | none=>
       cases hi with
       | some z=>cases h2
       | none=>
         obtain⟨j,p3,p4,rfl⟩:=DX h3
         obtain⟨ma,e1,rfl⟩:=map_eq h
         exact KC S (R.e _ _ _ _ e1 X S)
    ·cases h
 ·split at h
  ·rename_i hs
   obtain⟨ma,e1,h⟩:=bind_eq h
   obtain⟨mb,e2,rfl⟩:=map_eq h
   exact Lo S (R.e _ _ _ _ e1 X S) (R.e _ _ _ _ e2 X S) (JT hs)
  ·cases h
theorem G5 (R:Snd M T k n) {ks:List (Option Expr)}{vs:List Expr}{pos:Pos} (h:eDi (rc n) T N ns ks vs=some m) (S:Sc M X k N ns):PE X (.Dict ks vs pos) (tM M.K m):=by
 unfold eDi at h
 split at h
 ·obtain⟨ma,e1,h⟩:=bind_eq h
  obtain⟨mb,e2,rfl⟩:=map_eq h
  exact HW (R.e _ _ _ _ e1 X S) (R.e _ _ _ _ e2 X S)
 ·cases h
theorem Hh (R:Snd M T k n) {elt:Expr}{scope:Scope}{gens:List Comprehension}{pos:Pos} (h:eLc (rc n) T N ns elt scope gens=some m) (S:Sc M X k N ns):PE X (.ListComp elt gens scope pos) (tM M.K m):=by
 unfold eLc at h
 split at h
 rotate_left
 ·cases h
 rename_i c
 obtain⟨tg,it,ifs,ia⟩:=c
 split at h
 rotate_left
 ·cases h
 rename_i h0
 have h0':ia=0:=h0
 subst h0'
 have h:eLt (rc n) T N ns elt it ifs scope tg=some m:=h
 unfold eLt at h
 split at h
 ·split at h
  ·rename_i hs
   rw [az,az] at hs
   obtain⟨mi,e1,h⟩:=bind_eq h
   obtain⟨mt,e2,h⟩:=bind_eq h
   obtain⟨mc,e3,rfl⟩:=map_eq h
   obtain⟨wi,h1,_,h3⟩:=R.i _ _ _ _ _ e1 X S
   exact AA S (eq_of_beq hs.1.1) hs.1.2 h1 (fun X' S'=>R.f _ _ _ _ e2 X' S') (fun X' S'=>R.e _ _ _ _ e3 X' S') (h3 mt mc) (ph hs.2 _)
  ·cases h
 ·obtain⟨xs,e0,h⟩:=bind_eq h
  split at h
  ·rename_i hs
   rw [az,az] at hs
   obtain⟨mi,e1,h⟩:=bind_eq h
   obtain⟨mt,e2,h⟩:=bind_eq h
   obtain⟨mc,e3,rfl⟩:=map_eq h
   exact Ec S (eq_of_beq hs.1.1) hs.1.2 (vh e0) (R.e _ _ _ _ e1 X S) (fun X' S'=>R.f _ _ _ _ e2 X' S') (fun X' S'=>R.e _ _ _ _ e3 X' S') (ph hs.2 _)
  ·cases h
 ·cases h
theorem Gm (O:TOk M T k) (R:Snd M T k n) {g:Str}{rs:List Expr}{p1 q rp pos:Pos} (h:eRg (rc n) T N ns g rs=some m) (S:Sc M X k N ns) (hl:g="list"\/g="tuple") (hg:eC ns g=true) (hr:eC ns "range"=true) :
  PE X (.Call (.Name g p1) [.Call (.Name "range" q) rs [] rp] [] pos) (tM M.K m):=by
 unfold eRg at h
 split at h
 ·obtain⟨ma,e1,rfl⟩:=map_eq h
  have hst:=i6 e1
  simp only [cm,lY,j8] at hst
  rcases hl with rfl | rfl
  ·rw [if_pos (by decide +kernel)]
   exact BO S hg (O.B _ (by decide +kernel)) hr (O.B _ (by decide +kernel)) (R.a _ _ _ _ e1 X S) hst
  ·rw [if_neg (by decide +kernel)]
   exact Dz S hg (O.B _ (by decide +kernel)) hr (O.B _ (by decide +kernel)) (R.a _ _ _ _ e1 X S) hst
 ·obtain⟨ma,e1,rfl⟩:=map_eq h
  have hst:=i6 e1
  simp only [cm,lY,j8,az] at hst
  rcases hl with rfl | rfl
  ·rw [if_pos (by decide +kernel)]
   exact B6 S hg (O.B _ (by decide +kernel)) hr (O.B _ (by decide +kernel)) (R.a _ _ _ _ e1 X S) hst.1 hst.2
  ·rw [if_neg (by decide +kernel)]
   exact DV S hg (O.B _ (by decide +kernel)) hr (O.B _ (by decide +kernel)) (R.a _ _ _ _ e1 X S) hst.1 hst.2
 ·cases h
theorem GD (Gk:GOk M T k) (R:Snd M T k n) (RA : ∀ M T k,GOk M T k->Snd M T k n) {g:Str}{as:List Expr}{p1 pos:Pos} (h:eCf (rc n) T N ns g as=some m) (S:Sc M X k N ns) (hg:eC ns g=true) (hn:ft g=true) :
  PE X (.Call (.Name g p1) as [] pos) (tM M.K m):=by
 have O:=Gk.1
 unfold eCf at h
 split at h
 ·obtain⟨mf,e1,rfl⟩:=map_eq h
  obtain⟨k',ps,hk,F⟩:=O.D _ _ e1
  exact EU S F hk hg (gw hn).1
 ·unfold eC1 at h
  split at h
  ·split at h
   ·rename_i hl
    rw [az,mP] at hl
    split at h
    ·rename_i hr
     rw [eq_of_beq hl.2] at hr ⊢
     exact Gm O R h S (hl.1.imp eq_of_beq eq_of_beq) hg hr
    ·cases h
   ·exact R.c _ _ _ _ _ h hg hn _ _ rfl X _ _ S
  ·exact R.c _ _ _ _ _ h hg hn _ _ rfl X _ _ S
 ·unfold eC2 at h
  split at h
  ·unfold eIs at h
   split at h
   ·rename_i hl
    split at h
    ·rename_i ht
     obtain⟨c,e1,h⟩:=bind_eq h
     obtain⟨ma,e2,rfl⟩:=map_eq h
     obtain⟨c1,c2,c3,c4,c5⟩:=G3 e1
     rw [az] at ht
     rw [eq_of_beq hl] at hg ⊢
     exact JQ S hg (O.B _ (by decide +kernel)) ht.1 (O.B _ c5) c1 c2 c3 c4 (R.e _ _ _ _ e2 X S) ht.2
    ·cases h
   ·exact R.c _ _ _ _ _ h hg hn _ _ rfl X _ _ S
  ·unfold Jc at h
   split at h
   ·rename_i hs
    rw [az] at hs
    obtain⟨hT,hst⟩:=hs
    obtain⟨ps,e0,h⟩:=bind_eq h
    split at h
    ·rename_i hl
     obtain⟨is,e1,h⟩:=bind_eq h
     obtain⟨ma,e2,h⟩:=bind_eq h
     obtain⟨ml,e3,h⟩:=bind_eq h
     obtain⟨F,e4,rfl⟩:=map_eq h
     obtain⟨c,q,P,hmk,MK⟩:=O.mkr hT
     obtain⟨j,hj,hH,hB⟩:=Gk.2 hT
     obtain⟨k',gps,hk',FC⟩:=hH _ _ e4
     obtain⟨LS,hfs⟩:=vW hl
     exact Eb S FC hk' hj hmk MK hg (gw hn).1 (R.e _ _ _ _ e2 X S) (cJ hst _ _) e0 LS hfs e1
      fun caps capv cds base hb X' S'=>(RA _ _ _ ⟨hB caps capv cds base hb,fun z=>by cases z⟩).e _ _ _ _ e3 X' S'
    ·cases h
   ·cases h
  ·exact R.c _ _ _ _ _ h hg hn _ _ rfl X _ _ S
 ·exact R.c _ _ _ _ _ h hg hn _ _ rfl X _ _ S
theorem HZ (R:Snd M T k n) {o:Expr}{name:Str}{p q:Pos}{as:List Expr} (h:eMe (rc n) T N ns o name p q as=some m) (S:Sc M X k N ns):PE X (.Call (.Attribute o name p) as [] q) (tM M.K m):=by
 unfold eMe at h
 split at h
 ·split at h
  ·rename_i hs
   rw [az,az] at hs
   obtain⟨mo,e1,rfl⟩:=map_eq h
   rw [eq_of_beq hs.2]
   exact GX S (R.e _ _ _ _ e1 X S) hs.1.1 hs.1.2
  ·cases h
 ·split at h
  ·rename_i hs
   rw [az,az] at hs
   obtain⟨mo,e1,h⟩:=bind_eq h
   obtain⟨mas,e2,h⟩:=bind_eq h
   exact Es h S (R.e _ _ _ _ e1 X S) (R.a _ _ _ _ e2 X S) hs.1.1 hs.1.2 hs.2
  ·cases h
 ·cases h
end
theorem II (Gk:GOk M T k) (R:Snd M T k n) (RA : ∀ M T k,GOk M T k->Snd M T k n) : ∀ N ns e m,cE T (n+1) N ns e=some m -> ∀ X,Sc M X k N ns->PE X e (tM M.K m):=by
 have O:=Gk.1
 intro N ns e m h X S
 have h:sE (rc n) T N ns e=some m:=h
 cases e with
 | Name x p=>
   have h:(if ft x then (if rO ns x then (slot N x).map ab else if eC ns x then (T.C.lookup x).map mC else none) else none)=some m:=h
   split at h
   ·rename_i hn
    obtain⟨n1,n2⟩:=gw hn
    split at h
    ·rename_i hv
     obtain⟨i,e1,rfl⟩:=map_eq h
     exact Ku S i (slot_get e1) hv n1 n2
    ·split at h
     ·rename_i hg
      obtain⟨u,e1,rfl⟩:=map_eq h
      obtain⟨g,v,hm,r,hv⟩:=O.C _ _ e1
      exact HS S hg hm r hv n1
     ·cases h
   ·cases h
 | Constant c j p=>exact EX h
 | BinOp a op b p=>
   obtain⟨ma,e1,h⟩:=bind_eq (show ((rc n).e T N ns a).bind _=some m from h)
   obtain⟨mb,e2,h⟩:=bind_eq h
   obtain⟨f,e3,rfl⟩:=map_eq h
   exact HK e3 S (R.e _ _ _ _ e1 X S) (R.e _ _ _ _ e2 X S)
 | UnaryOp op a p=>exact FZ R h S
 | BoolOp op vs p=>exact GY R h S
 | Compare a ops bs p=>exact (CA R h S).1
 | Subscript a b p=>exact G2 R h S
 | Dict ks vs p=>exact G5 R h S
 | Tuple es j p=>
   obtain⟨ma,e1,rfl⟩:=map_eq (show ((rc n).a T N ns es).map cK=some m from h)
   exact JB (R.a _ _ _ _ e1 X S)
 | List es p=>
   obtain⟨ma,e1,rfl⟩:=map_eq (show ((rc n).a T N ns es).map cM=some m from h)
   exact Jr (R.a _ _ _ _ e1 X S)
 | ListComp elt gens scope p=>exact Hh R h S
 | Call f as kws q=>
   have h:(if kws.isEmpty then eCa (rc n) T N ns as q f else none)=some m:=h
   cases kws with
   | cons w ws=>cases h
   | nil=>
     have h:eCa (rc n) T N ns as q f=some m:=h
     unfold eCa at h
     split at h
     ·split at h
      ·rename_i hs
       rw [az] at hs
       exact GD Gk R RA h S hs.1 hs.2
      ·cases as with
       | nil=>exact absurd h (R.v0 _ _ _ _)
       | cons a r=>exact R.v _ _ _ _ _ h _ _ rfl X _ _ S
     ·exact HZ R h S
     ·cases h
 | _=>cases h
theorem KM (O:TOk M T k) (R:Snd M T k n) : ∀ N ns g as m,cC T (n+1) N ns g as=some m->eC ns g=true->ft g=true -> ∀ a r,as=a::r -> ∀ X p1 pos,Sc M X k N ns->PE X (.Call (.Name g p1) as [] pos) (tM M.K m):=by
 intro N ns g as m h hg hn a r e X p1 pos S
 subst e
 simp only [cC,rc,sC] at h
 obtain⟨mas,e1,h⟩:=bind_eq h
 have hst:=i6 e1
 split at h
 ·rename_i mf hb
  cases h
  exact Dw O hb hg S (R.a _ _ _ _ e1 X S) hst
 ·obtain⟨mf,e2,rfl⟩:=map_eq h
  obtain⟨k',ps,hk,F⟩:=O.D _ _ e2
  rw [cm,az] at hst
  exact GC S F hk hg (R.a _ _ _ _ e1 X S) (gw hn).1 (cJ hst.1 _ _) (uo _ _ hst.2)
theorem Lg (R:Snd M T k n) : ∀ N ns o m,cO T (n+1) N ns o=some m -> ∀ X,Sc M X k N ns->kO M X o m:=by
 intro N ns o m h X S
 simp only [cO,rc,sO] at h
 split at h
 ·cases h;exact .none
 ·obtain⟨me,e1,rfl⟩:=map_eq h
  exact .some (R.e _ _ _ _ e1 X S)
theorem Ja (R:Snd M T k n) : ∀ N ns e m,cT T (n+1) N ns e=some m -> ∀ X,Sc M X k N ns->PT X e (tMT M.K m):=by
 intro N ns e m h X S
 simp only [cT,rc,sT] at h
 split at h
 ·obtain⟨ma,e1,rfl⟩:=map_eq h
  exact IU (R.t _ _ _ _ e1 X S)
 ·exact PW.pt (R.l _ _ true _ _ _ h X S)
 ·exact PW.pt (R.l _ _ false _ _ _ h X S)
 ·obtain⟨mc,e1,rfl⟩:=map_eq h
  exact (CA R e1 S).2
 ·split at h
  ·rename_i hs
   obtain⟨ma,e1,rfl⟩:=map_eq h
   exact Kl (R.e _ _ _ _ e1 X S) (Ct hs _)
  ·cases h
theorem Jt (R:Snd M T k n) : ∀ N ns b vs m pos,cL T (n+1) N ns b vs=some m -> ∀ X,Sc M X k N ns->PW X (.BoolOp (if b then .And else .Or) vs pos) (tMT M.K m):=by
 intro N ns b vs m pos h X S
 simp only [cL,rc,sL] at h
 split at h
 ·cases h
 ·cases b
  ·exact K3 (R.t _ _ _ _ h X S)
  ·exact Ga (R.t _ _ _ _ h X S)
 ·rename_i a r hr
  obtain⟨ma,e1,h⟩:=bind_eq h
  obtain⟨mr,e2,rfl⟩:=map_eq h
  cases r with
  | nil=>exact (hr rfl).elim
  | cons c r=>
    have h2:=R.l _ _ b _ _ pos e2 X S
    cases b
    ·exact LO (R.t _ _ _ _ e1 X S) h2
    ·exact Jl (R.t _ _ _ _ e1 X S) h2
theorem JW (R:Snd M T k n) : ∀ N ns vs m,cF T (n+1) N ns vs=some m -> ∀ X,Sc M X k N ns->PTs X vs (tMT M.K m):=by
 intro N ns vs m h X S
 simp only [cF,rc,sF] at h
 split at h
 ·cases h;exact Iu
 ·exact J4 (R.t _ _ _ _ h X S)
 ·cases h
theorem Je (R:Snd M T k n) : ∀ N ns es m,cA T (n+1) N ns es=some m -> ∀ X,Sc M X k N ns->PA X es (tMA M.K m):=by
 intro N ns es m h X S
 simp only [cA,rc,sA] at h
 split at h
 ·cases h;exact Lj
 ·split at h
  ·rename_i hs
   obtain⟨ma,e1,h⟩:=bind_eq h
   obtain⟨mr,e2,rfl⟩:=map_eq h
   exact Gc (R.e _ _ _ _ e1 X S) (R.a _ _ _ _ e2 X S) (cJ hs _ _)
  ·cases h
theorem Az {N:List Str}{ns:NS}{X:Cx}{tg e:Expr}{m:ME} (S:Sc M X k N ns) (h:PE X e (tM M.K m)):IOk M X tg e (da m):=
 ⟨_,KP S h,fun _ _ _ _ _ q=>Lr q,fun _ _ _ _ _ q=>Lu q⟩
theorem Kh (O:TOk M T k) (R:Snd M T k n) : ∀ N ns tg it m,cI T (n+1) N ns it=some m -> ∀ X,Sc M X k N ns->IOk M X tg it m:=by
 intro N ns tg it m h X S
 simp only [cI,rc,sI] at h
 split at h
 ·split at h
  ·rename_i hr
   split at h
   ·rename_i hg
    rw [eq_of_beq hr] at hg ⊢
    split at h
    ·obtain⟨ma,e1,rfl⟩:=map_eq h
     have hst:=i6 e1
     simp only [cm,lY,j8] at hst
     exact⟨_,JL S hg (O.B _ (by decide +kernel)) (R.a _ _ _ _ e1 X S) (cJ hst _ _),fun _ _ _ _ _ q=>K1 q,fun _ _ _ _ _ q=>KZ q⟩
    ·obtain⟨ma,e1,rfl⟩:=map_eq h
     have hst:=i6 e1
     simp only [cm,lY,j8,az] at hst
     exact⟨_,Lb S hg (O.B _ (by decide +kernel)) (R.a _ _ _ _ e1 X S) (by rw [cJ hst.1,cJ hst.2];rfl) (by rw [cJ hst.2];rfl),fun _ _ _ _ _ q=>KW q,fun _ _ _ _ _ q=>KS q⟩
    ·cases h
   ·cases h
  ·split at h
   ·rename_i hr
    split at h
    ·rename_i hg
     rw [eq_of_beq hr] at hg ⊢
     split at h
     ·obtain⟨ma,e1,rfl⟩:=map_eq h
      have hst:=i6 e1
      simp only [cm,lY,j8] at hst
      exact⟨_,GM S hg (O.B _ (by decide +kernel)) (R.a _ _ _ _ e1 X S) (cJ hst _ _),fun _ _ _ _ _ q=>Gu q,fun _ _ _ _ _ q=>GZ q⟩
     ·cases h
    ·cases h
   ·obtain⟨ma,e1,rfl⟩:=map_eq h
    exact Az S (R.e _ _ _ _ e1 X S)
 ·obtain⟨ma,e1,rfl⟩:=map_eq h
  exact Az S (R.e _ _ _ _ e1 X S)
theorem JG (R:Snd M T k n) : ∀ N ns e m,cG T (n+1) N ns e=some m -> ∀ X,Sc M X k N ns->PG X e (tG M.K m):=by
 intro N ns e m h X S
 simp only [cG,rc,sG] at h
 split at h
 ·split at h
  ·rename_i hs
   obtain⟨i,e1,rfl⟩:=map_eq h
   exact PG.con (yE (by rw [S.hN];exact S.nd) (by rw [S.hN];exact slot_get e1) (S.lo hs).1 (S.lo hs).2) fun _ _ _ _ q=>LP q
  ·cases h
 ·obtain⟨gs,e1,rfl⟩:=map_eq h
  obtain⟨h1,h2⟩:=yR X.env _ (uM e1)
  refine PG.con (HA S.calm (R.gs _ _ _ _ e1 X S) h1 h2) fun _ _ _ _ q => ?_
  rw [S.hK]
  exact Lc q
 ·cases h
theorem Ht (R:Snd M T k n) : ∀ N ns es m,cGs T (n+1) N ns es=some m -> ∀ X,Sc M X k N ns->PGs X es (tGs M.K m):=by
 intro N ns es m h X S
 simp only [cGs,rc,sGs] at h
 split at h
 ·cases h;exact PGs.con ED fun _ _ _ _ q=>HE q
 ·split at h
  ·rename_i hs
   obtain⟨g,e1,h⟩:=bind_eq h
   obtain⟨gs,e2,rfl⟩:=map_eq h
   exact PGs.con (As (R.g _ _ _ _ e1 X S) (R.gs _ _ _ _ e2 X S) (by rw [v5 hs];rfl)) fun _ _ _ _ q=>EJ q
  ·cases h
theorem Dn {N:List Str}{ns:NS}{X:Cx}{m:MS} (R:Snd M T k n) {y:Str}{elt it tg:Expr}{ifs:List Expr}{scope:Scope}{p1:Pos}{p2 p3:Pos} (h:Gp (rc n) T N ns y elt it ifs scope tg=some m) (S:Sc M X k N ns) :
  PS X (.Assign [.Name y p1] (.ListComp elt [⟨tg,it,ifs,0⟩] scope p2) p3) (tMS M.K m):=by
 unfold Gp at h
 split at h
 ·split at h
  ·rename_i hs
   rw [az,az,az] at hs
   obtain⟨i,e0,h⟩:=bind_eq h
   obtain⟨mi,e1,h⟩:=bind_eq h
   obtain⟨mt,e2,h⟩:=bind_eq h
   obtain⟨mc,e3,rfl⟩:=map_eq h
   obtain⟨wi,h1,_,h3⟩:=R.i _ _ _ _ _ e1 X S
   exact Hv S i (slot_get e0) hs.1 (eq_of_beq hs.2.1.1) hs.2.1.2 h1 (fun X' S'=>R.f _ _ _ _ e2 X' S') (fun X' S'=>R.e _ _ _ _ e3 X' S') (h3 mt mc) (ph hs.2.2 _)
  ·cases h
 ·cases h
theorem Dg {N:List Str}{ns:NS}{X:Cx}{m:MS} (R:Snd M T k n) {x:Str}{e:Expr}{p1:Pos}{p3:Pos} (h:G6 (rc n) T N ns x e=some m) (S:Sc M X k N ns):PS X (.Assign [.Name x p1] e p3) (tMS M.K m):=by
 unfold G6 at h
 split at h
 ·unfold IL at h
  split at h
  ·rename_i c
   obtain⟨tg,it,ifs,ia⟩:=c
   split at h
   ·rename_i h0
    have h0':ia=0:=h0
    subst h0'
    exact Dn R h S
   ·cases h
  ·cases h
 ·split at h
  ·rename_i hs
   rw [az] at hs
   obtain⟨i,e1,h⟩:=bind_eq h
   obtain⟨me,e2,rfl⟩:=map_eq h
   exact FM S i (slot_get e1) hs.1 (R.e _ _ _ _ e2 X S) (tV hs.2 _ _ _)
  ·cases h
theorem EM {N:List Str}{ns:NS}{X:Cx}{m:MS} (R:Snd M T k n) {t e:Expr}{p3:Pos} (h:GG (rc n) T N ns e t=some m) (S:Sc M X k N ns):PS X (.Assign [t] e p3) (tMS M.K m):=by
 unfold GG at h
 split at h
 ·exact Dg R h S
 ·split at h
  ·rename_i hs
   rw [az] at hs
   obtain⟨ma,e1,h⟩:=bind_eq h
   obtain⟨mb,e2,h⟩:=bind_eq h
   obtain⟨me,e3,rfl⟩:=map_eq h
   exact DJ S (R.e _ _ _ _ e1 X S) (R.e _ _ _ _ e2 X S) (R.e _ _ _ _ e3 X S) (xX hs.1 _ _ _) wJ rfl (Hf hs.2 _)
  ·cases h
 ·split at h
  ·rename_i hs
   rw [az] at hs
   obtain⟨g,e1,h⟩:=bind_eq h
   obtain⟨me,e2,rfl⟩:=map_eq h
   exact PS.con (BD (R.e _ _ _ _ e2 X S) (R.g _ _ _ _ e1 X S) (xX hs.1 _ _ _) (uG hs.2) rfl) fun _ _ _ q=>KD q
  ·cases h
 ·cases h
theorem Gr {N:List Str}{ns:NS}{X:Cx}{m:MS} (R:Snd M T k n) {x:Str}{e:Expr}{op:Operator}{p1:Pos}{p3:Pos} (h:sAu (rc n) T N ns x e op=some m) (S:Sc M X k N ns):PS X (.AugAssign (.Name x p1) op e p3) (tMS M.K m):=by
 unfold sAu at h
 split at h
 ·cases h
 ·cases h
theorem Io {N:List Str}{ns:NS}{X:Cx}{m:MS} (O:TOk M T k) (R:Snd M T k n) {t it:Expr}{body:List Stmt}{p3:Pos} (h:sFo (rc n) T N ns it body t=some m) (S:Sc M X k N ns):PS X (.For t it body [] p3) (tMS M.K m):=by
 unfold sFo at h
 split at h
 ·split at h
  ·rename_i hs
   rw [az] at hs
   obtain⟨i,e1,h⟩:=bind_eq h
   obtain⟨mi,e2,h⟩:=bind_eq h
   obtain⟨mb,e3,rfl⟩:=map_eq h
   obtain⟨wi,h1,h2,_⟩:=R.i _ _ _ _ _ e2 X S
   exact KH S i (slot_get e1) hs.1 h1 (R.b _ _ _ _ e3 X S) (h2 i mb) (ph hs.2 _)
  ·cases h
 ·cases h
 ·cases h
theorem JY (O:TOk M T k) (R:Snd M T k n) : ∀ N ns st m,cS T (n+1) N ns st=some m -> ∀ X,Sc M X k N ns->PS X st (tMS M.K m):=by
 intro N ns st m h X S
 simp only [cS,rc,sS] at h
 split at h
 ·unfold sAs at h
  split at h
  ·exact EM R h S
  ·cases h
 ·unfold JH at h
  split at h
  ·exact Gr R h S
  ·cases h
 ·split at h
  ·rename_i hs
   obtain⟨me,e2,rfl⟩:=map_eq h
   exact Hj (R.e _ _ _ _ e2 X S) (tV hs _ _ _)
  ·cases h
 ·unfold sRt at h
  split at h
  ·obtain⟨me,e2,rfl⟩:=map_eq h
   exact JZ (R.e _ _ _ _ e2 X S)
  ·cases h;exact Hi
 ·obtain⟨mc,e1,h⟩:=bind_eq h
  obtain⟨ma,e2,h⟩:=bind_eq h
  obtain⟨mb,e3,rfl⟩:=map_eq h
  exact Ly (R.t _ _ _ _ e1 X S) (R.b _ _ _ _ e2 X S) (R.b _ _ _ _ e3 X S)
 ·unfold Jh at h
  split at h
  ·exact Io O R h S
  ·cases h
 ·unfold sWh at h
  split at h
  ·obtain⟨mc,e1,h⟩:=bind_eq h
   obtain⟨mb,e2,rfl⟩:=map_eq h
   exact EA S (R.t _ _ _ _ e1 X S) (R.b _ _ _ _ e2 X S)
  ·cases h
 ·cases h;exact Iw
 ·cases h;exact JC
 ·cases h;exact LB
 ·cases h;exact Ju
 ·cases h
theorem Kt (R:Snd M T k n) : ∀ N ns sts m,cB T (n+1) N ns sts=some m -> ∀ X,Sc M X k N ns->PSs X sts (tMS M.K m):=by
 intro N ns sts m h X S
 simp only [cB,rc,sB] at h
 split at h
 ·cases h;exact Km
 ·exact Le (R.s _ _ _ _ h X S)
 ·obtain⟨ma,e1,h⟩:=bind_eq h
  obtain⟨mr,e2,rfl⟩:=map_eq h
  exact IE (R.s _ _ _ _ e1 X S) (R.b _ _ _ _ e2 X S)
theorem snd : ∀ n M T k,GOk M T k->Snd M T k n
 | 0,M,T,k,_=>Ll M T k
 | n+1,M,T,k,Gk=>by
   have RA:=snd n
   have R:=RA M T k Gk
   exact⟨II Gk R RA,KM Gk.1 R,KJ Gk.1 R,fun N ns g m h=>(by cases (show (none:Option ME)=some m from h)),Lg R,Ja R,Jt R,JW R,Je R,Kh Gk.1 R,JG R,Ht R,JY Gk.1 R,Kt R⟩
theorem GOk.of (O:TOk M T k) (h:T.mkr=false):GOk M T k:=⟨O,fun z=>by rw [h] at z;cases z⟩
theorem yL {x qual:Str}{st:Stmt}{f:Addr}{fd:FuncData}{N ps:List Str}{ms:MS}{fu:Nat} (O:TOk M T k) (h0:M.mkr=none) (h1:T.mkr=false) (F:Fun M.K x qual st f fd) (S:bf N ps (aw st)) (hm:M.mg x=some (.ref f)) (hb:Binds M.K fd ps [])
  (h:cB T fu N (aw st).names (aW st)=some ms):Fn M x (k+1) ps (run ps.length N.length ms):=
 ⟨f,fd,hm,F.2,hb,A5 h0 F S fun X S'=>(snd fu M T k (.of O h1)).b _ _ _ _ h X S'⟩
end
end G
end
section
namespace G
open PySem PySem.Spec L2
open PyProof.Rows hiding St
structure Def (K:aj) (x:Str) (st:Stmt):Prop where
 ex : ∃ f fd,hC K mainGlobals x=some (some (.ref f))/\Fun K x x st f fd
theorem cz {K:aj}{x:Str}{st:Stmt}{f:Addr}{od an:Option Addr}{sl:Array (Option Value)}{oc kV doc pm cd ct:Value} (a:hC K mainGlobals x=some (some (.ref f)))
  (l:K.lookup f=some ⟨oc,od,.func (cX x x (fN st) (aW st) (aw st) .none kV doc pm an cd ct),sl⟩) (c:g9 K cd x=true) (k:cR K (.ref f)=true):Def K x st:=
 ⟨f,_,a,G8 l c k⟩
section
variable {M:Mo}{T:Tb}{k:Nat}{h:Heap}{x:Str}{st:Stmt}{N ps:List Str}{ms:MS}{fu:Nat}
theorem Def.fn (O:TOk M T k) (h0:M.mkr=none) (h1:T.mkr=false) (X:M.K.K.In h) (Gn:h.Ns mainGlobals M.mg) (D:Def M.K x st) (S:bf N ps (aw st))
  (hb : ∀ (kV doc pm:Value) (an:Option Addr) (cdv ct:Value) (us:List Value),us.length=ps.length->bindArgs (cX x x (fN st) (aW st) (aw st) .none kV doc pm an cdv ct) ⟨us,[]⟩=pure (ps.zip us))
  (hc:cB T fu N (aw st).names (aW st)=some ms):Fn M x (k+1) ps (run ps.length N.length ms):=by
 obtain⟨f,fd,a,F⟩:=D.ex
 exact yL O h0 h1 F S (nW X Gn a) (F.binds hb) hc
theorem TOk.mono {j:Nat} (O:TOk M T k) (hj:k<=j):TOk M T j where
 D:=fun y g hy=>let ⟨k',ps',hk,F'⟩:=O.D y g hy;⟨k',ps',bg hk hj,F'⟩
 C:=O.C
 B:=O.B
 L:=fun y q hy=>let ⟨k',ps',hk,F'⟩:=O.L y q hy;⟨k',ps',bg hk hj,F'⟩
 mkr:=O.mkr
theorem TOk.cons {j:Nat}{mf:MF} (O:TOk M T k) (F:Fn M x j ps mf) (hj:k<=j):TOk M ⟨(x,mf)::T.D,T.C,T.L,T.H,T.mkr⟩ j where
 D:=fun y g hy=>by
  rw [aO] at hy
  cases e:y == x with
  | true=>rw [e] at hy;cases hy;rw [eq_of_beq e];exact⟨j,ps,ak _,F⟩
  | false=>
    rw [e] at hy
    obtain⟨k',ps',hk,F'⟩:=O.D y g hy
    exact⟨k',ps',bg hk hj,F'⟩
 C:=O.C
 B:=O.B
 L:=(O.mono hj).L
 mkr:=O.mkr
theorem TOk.setH {Hs:List (Str×(Addr->MF->MF))} (O:TOk M T k):TOk M ⟨T.D,T.C,T.L,Hs,T.mkr⟩ k:=⟨O.D,O.C,O.B,O.L,O.mkr⟩
theorem TOk.nil (X:M.K.K.In h) (Gn:h.Ns mainGlobals M.mg) (B : ∀ x∈jt,hC M.K mainGlobals x=some none):TOk M ⟨[],[],[],[],false⟩ 0 where
 D:=fun y g hy=>by cases hy
 C:=fun y g hy=>by cases hy
 B:=fun y hy=>PySem.W.mg_none_of X Gn (B y hy)
 L:=fun y g hy=>by cases hy
 mkr:=fun h=>by cases h
theorem Def.fnC {y:Str}{msC:Addr->MF->MS} (O : ∀ caps capv cds base,h9 M.mg base->TOk (M.to caps capv cds base) T k) (h1:T.mkr=false) (hL:T.L = []) (X:M.K.K.In h) (Gn:h.Ns mainGlobals M.mg) (D:Def M.K x st) (S:bf N ps (aw st))
  (hb : ∀ (kV doc pm:Value) (an:Option Addr) (cdv ct:Value) (us:List Value),us.length=ps.length->bindArgs (cX x x (fN st) (aW st) (aw st) .none kV doc pm an cdv ct) ⟨us,[]⟩=pure (ps.zip us))
  (hc : ∀ g φ,cB ⟨T.D,T.C,[(y,g,φ)],T.H,T.mkr⟩ fu N (aw st).names (aW st)=some (msC g φ)):FnC M x k ps fun g φ=>run ps.length N.length (msC g φ):=by
 obtain⟨f,fd,a,F⟩:=D.ex
 refine⟨f,fd,nW X Gn a,F.2,F.binds hb,fun caps capv cds base g j lps φ hbb hkj lam => ?_⟩
 have O':TOk (M.to caps capv cds base) ⟨T.D,T.C,[(y,g,φ)],T.H,T.mkr⟩ j:=by
  have O1:=(O caps capv cds base hbb).mono hkj
  refine⟨O1.D,O1.C,O1.B,fun z q hz => ?_,fun hm=>by rw [h1] at hm;cases hm⟩
  rw [aO] at hz
  cases e:z == y with
  | true=>rw [e] at hz;cases hz;exact⟨j,lps,ak _,lam⟩
  | false=>rw [e] at hz;cases hz
 exact A5 (M:=M.to caps capv cds base) rfl F S fun X' S'=>(snd fu _ _ _ (.of O' h1)).b _ _ _ _ (hc g φ) X' S'
end
structure rM (K:aj) (x:Str) (st:Stmt) (c P:Addr):Prop where
 ex : ∃ (f:Addr) (oc:Value) (od:Option Addr) (kV doc pm:Value) (an:Option Addr) (ct:Value) (sl:Array (Option Value)),hC K mainGlobals x=some (some (.ref f)) /\
  K.lookup f=some ⟨oc,od,.func (cX x x (fN st) (aW st) (aw st) .none kV doc pm an (.ref c) ct),sl⟩/\g9 K (.ref c) x=true/\cR K (.ref f)=true
 cd : ∃ (vs:Array Value) (od:Option Addr) (sl:Array (Option Value)) (file:Str) (tf:Tok) (flags:Int) (tg:Tok) (inF:Bool) (text:Int) (tt:Tok),K.lookup c=some ⟨.type "code",od,.fields vs,sl⟩/\vs[11]? = some (.ref P)/\vs.getD 11 .none = .ref P/\vs.getD 18 .none = .str file tf /\
  vs.getD 7 .none = .int flags tg/\vs.getD 9 .none = .bool inF/\vs.getD 10 .none = .int text tt/\c≠P
section
variable {M:Mo}{T:Tb}{k:Nat}{h:Heap}{x:Str}{st:Stmt}{N ps:List Str}{ms:MS}{fu:Nat}{c P:Addr}
theorem rM.mkr (D:rM M.K x st c P) (B:h9 M.mg M.base) (X:M.K.K.In h) (Gn:h.Ns mainGlobals M.mg) {q:Str} (hm:(P,q)∈M.K.tabs) (nd:(M.K.tabs.map (·.1)).Nodup) (hg:mainGlobals≠P):Mkr M c P q where
 hd:=fun h' X'=>by
  obtain⟨vs,od,sl,file,tf,flags,tg,inF,text,tt,e,r⟩:=D.cd
  obtain⟨r1,r2,r3,r4,r5,r6,r7⟩:=r
  exact⟨_,vs,file,tf,flags,tg,inF,text,tt,X' _ _ e,rfl,rfl,r1,r2,r3,r4,r5,r6,r7⟩
 bl:=B
 gP:=hg
 mem:=hm
 un:=fun r hr e=>by
  have key : ∀ (l:List (Addr×Str)),(l.map (·.1)).Nodup->r∈l->(P,q)∈l->r.2=q:=by
   intro l
   induction l with
   | nil=>intro _ h;simp at h
   | cons y l ih=>
     intro nd h1 h2
     rw [be,fi] at nd
     rcases aX.mp h1 with h1 | h1
     ·rcases aX.mp h2 with h2 | h2
      ·rw [h1,<- h2]
      ·exact absurd (bb.mpr ⟨_,h2,rfl⟩) (by rw [<- e,h1] at *;exact nd.1)
     ·rcases aX.mp h2 with h2 | h2
      ·exact absurd (bb.mpr ⟨r,h1,e⟩) (by rw [<- h2] at nd;exact nd.1)
      ·exact ih nd.2 h1 h2
  exact key _ nd hr hm
theorem rM.fn (D:rM M.K x st c P) (h0:M.mkr=none) (O : ∀ caps capv cds base,h9 M.mg base->TOk (M.to caps capv cds base) T k) (O0:TOk M T k) (hL:T.L = []) (h1:T.mkr=false) (hH : ∀ y F,T.H.lookup y=some F -> ∃ k' ps,k'<=k+1/\FnC M y k' ps F) (MK:Mkr M c P (x++".<locals>."++"<lambda>"))
  (X:M.K.K.In h) (Gn:h.Ns mainGlobals M.mg) (S:bf N ps (aw st))
  (hb : ∀ (kV doc pm:Value) (an:Option Addr) (cdv ct:Value) (us:List Value),us.length=ps.length->bindArgs (cX x x (fN st) (aW st) (aw st) .none kV doc pm an cdv ct) ⟨us,[]⟩=pure (ps.zip us))
  (hc:cB ⟨T.D,T.C,T.L,T.H,true⟩ fu N (aw st).names (aW st)=some ms):Fn M x (k+3) ps (run ps.length N.length ms):=by
 obtain⟨f,oc,od,kV,doc,pm,an,ct,sl,a,lk,hcd,hkp⟩:=D.ex
 let M1:Mo:=⟨M.P,M.w,M.K,M.mg,M.base,some (c,x++".<locals>.")⟩
 have O1:TOk M1 ⟨T.D,T.C,T.L,T.H,true⟩ (k+2):=by
  have Om:=O0.mono (show k<=k+2 by omega)
  refine⟨fun y g hy => ?_,Om.C,Om.B,fun y q hy => ?_,fun _=>⟨c,x++".<locals>.",P,rfl,MK.hd,MK.bl,MK.gP,MK.mem,MK.un⟩⟩
  ·obtain⟨k',ps',hk,F'⟩:=Om.D y g hy
   exact⟨k',ps',hk,⟨F'.ex⟩⟩
  ·rw [show (⟨T.D,T.C,T.L,T.H,true⟩:Tb).L=T.L from rfl,hL] at hy
   cases hy
 have G1:GOk M1 ⟨T.D,T.C,T.L,T.H,true⟩ (k+2):=⟨O1,fun _=>⟨k,ak _,fun y F hy=>by
  obtain⟨k',ps',hk,FC⟩:=hH y F hy
  exact⟨k',ps',hk,⟨FC.ex⟩⟩,fun caps capv cds base hbb=>by
   have Ob:=O caps capv cds base hbb
   exact⟨Ob.D,Ob.C,Ob.B,fun y q hy=>(by cases hy),fun z=>(by cases z)⟩⟩⟩
 refine⟨f,_,nW X Gn a,hkp,.all (hb kV doc pm an (.ref c) ct),?_⟩
 have len : ∀ vs H Q E,spM M.K (run ps.length N.length ms) vs H Q E->vs.length=ps.length:=fun vs H Q E h=>by
  obtain⟨μ,S',us,u,S'',hr,rs,e,_⟩:=h
  unfold run at e
  split at e
  ·rename_i hl;rw [<- rs.len];exact hl
  ·cases e
 refine L2.yL lk hcd S len fun A outer s H vs Q E hr h=>⟨tMS M.K ms,((snd fu M1 _ _ G1).b _ _ _ _ hc _ (Sc.def (M:=M1) S hr fun c' q' hq=>by cases hq;exact⟨rfl,rfl⟩)).nox,?_⟩
 obtain⟨μ,S1,us,u,S2,hr,rs,e,ka⟩:=h
 unfold run at e
 split at e
 ·rename_i hl
  have er:=sg (N:=N) rs
  rw [hl] at er
  split at e
  ·rename_i w ρ' S3 q
   cases e
   exact⟨μ,S1,_,_,hr,er,q,ka⟩
  ·rename_i ρ' S3 q
   cases e
   exact⟨μ,S1,_,_,hr,er,q,fun μ' σ' H' p' k' hr' er'=>ka μ' _ H' p' k' hr' oG⟩
  ·cases e
 ·cases e
end
section
variable {M:Mo}
theorem pw {Hs:List (Str×(Addr->MF->MF))}{j k:Nat} (h : ∀ y F,Hs.lookup y=some F -> ∃ k' ps,k'<=j/\FnC M y k' ps F) (hj:j<=k) : ∀ y F,Hs.lookup y=some F -> ∃ k' ps,k'<=k/\FnC M y k' ps F:=fun y F hy=>
 let ⟨k',ps,a,b⟩:=h y F hy;⟨k',ps,bg a hj,b⟩
theorem EF {Hs:List (Str×(Addr->MF->MF))}{i j k:Nat}{x:Str}{F0:Addr->MF->MF}{ps:List Str} (h : ∀ y F,Hs.lookup y=some F -> ∃ k' ps,k'<=j/\FnC M y k' ps F) (F1:FnC M x i ps F0) (hi:i<=k) (hj:j<=k) : ∀ y F,((x,F0)::Hs).lookup y=some F -> ∃ k' ps,k'<=k/\FnC M y k' ps F:=fun y F hy=>by
 rw [aO] at hy
 cases e:y == x with
 | true=>rw [e] at hy;cases hy;rw [eq_of_beq e];exact⟨i,ps,hi,F1⟩
 | false=>rw [e] at hy;exact pw h hj y F hy
end
theorem EI {K:aj}{x:Str}{st:Stmt}{f c P:Addr}{od an od':Option Addr}{sl sl':Array (Option Value)}{oc kV doc pm ct:Value}{vs:Array Value}{file:Str}{tf tg tt:Tok}{flags text:Int}{inF:Bool} (a:hC K mainGlobals x=some (some (.ref f)))
  (l:K.lookup f=some ⟨oc,od,.func (cX x x (fN st) (aW st) (aw st) .none kV doc pm an (.ref c) ct),sl⟩) (cc:g9 K (.ref c) x=true) (k:cR K (.ref f)=true)
  (e:K.lookup c=some ⟨.type "code",od',.fields vs,sl'⟩) (r1:vs[11]? = some (.ref P)) (r2:vs.getD 11 .none = .ref P) (r3:vs.getD 18 .none = .str file tf) (r4:vs.getD 7 .none = .int flags tg) (r5:vs.getD 9 .none = .bool inF) (r6:vs.getD 10 .none = .int text tt) (r7:c≠P):rM K x st c P:=
 ⟨⟨f,oc,od,kV,doc,pm,an,ct,sl,a,l,cc,k⟩,⟨vs,od',sl',file,tf,flags,tg,inF,text,tt,e,r1,r2,r3,r4,r5,r6,r7⟩⟩
theorem FX {l:lu}{w:World}{K:aj}{h:Heap}{mg:Str->Option Value}{fa:Addr}{st:Stmt}{N:List Str}{ms:MS}{fu k:Nat}{T:Tb} (X:K.In h) (Gn:h.Ns mainGlobals mg) (hfa:mg "law"=some (.ref fa))
  (D:Def K "law" st) (S:bf N ["script"] (aw st))
  (hb : ∀ (kV doc pm:Value) (an:Option Addr) (cdv ct:Value) (us:List Value),us.length = ["script"].length->bindArgs (cX "law" "law" (fN st) (aW st) (aw st) .none kV doc pm an cdv ct) ⟨us,[]⟩=pure ((["script"]:List Str).zip us))
  {tabs:List (Addr×Str)} (h1:T.mkr=false) (hO : ∀ base:Heap,h9 mg base->TOk ⟨l.prog,w,⟨K,[],[],[],tabs⟩,mg,base,none⟩ T k) (hc:cB T fu N (aw st).names (aW st)=some ms) :
  ∃ fd:FuncData,(∀ (s:Shared) (v:Value),BindsTo s fd ⟨[v],[]⟩ [("script",v)]) /\ ∀ base:Heap,K.In base->base.Ns mainGlobals mg->h9 mg base->lE l.prog w K mg base CX0 (k+1) fa fd ["script"] (spM ⟨K,[],[],[],tabs⟩ (run 1 N.length ms)):=by
 obtain⟨f,fd,a,F⟩:=D.ex
 have e:=hfa.symm.trans (nW X Gn a)
 cases e
 refine⟨fd,fun s v => ?_,fun base _ _ hbb=>A5 (M:=⟨l.prog,w,⟨K,[],[],[],tabs⟩,mg,base,none⟩) rfl F S fun X' S'=>(snd fu _ _ _ (.of (hO base hbb) h1)).b _ _ _ _ hc X' S'⟩
 obtain⟨oc,od,kV,doc,pm,an,cdv,ct,osl,rfl,lk,hcd⟩:=F.ex
 exact .of_eq (hb kV doc pm an cdv ct [v] rfl)
theorem K2 {K:aj}{tabs:List (Addr×Str)}{H:Hp}{a:Addr}{ns:List Int}{m:MF} (hT : ∀ q∈tabs,wO H q.1 q.2) (hS:SqL K H a (ns.map V.int)) (hm : ∀ S:Sto,S.length=1->getL S 0=some (ns.map U.int) -> ∃ S',m [.ref 0] S=some (.bl true,S')) :
  spM ⟨K,[],[],[],tabs⟩ m [.ref a] H (fun v _=>v = .bl true) fun _ _ _=>False:=by
 have key : ∃ c:Cell,lQ ⟨K,[],[],[],tabs⟩ H [a] a c/\getL [c] 0=some (ns.map U.int):=by
  rcases hS with (h | ⟨o,h⟩) | h
  ·exact⟨.lst (ns.map U.int),⟨_,h,RUs.ints ns⟩,rfl⟩
  ·exact⟨.frz (ns.map U.int),⟨_,.inl ⟨o,h⟩,RUs.ints ns⟩,rfl⟩
  ·exact⟨.frz (ns.map U.int),⟨_,.inr (.inr h),RUs.ints ns⟩,rfl⟩
 obtain⟨c,hc,hg⟩:=key
 obtain⟨S',e⟩:=hm [c] rfl hg
 refine⟨[a],[c],[.ref 0],.bl true,S',⟨rfl,fun n m us ws q1 q2 _ _ _ => ?_,fun n c' b q1 q2 => ?_,⟨.nil,fun q hq=>(nomatch hq),hT⟩⟩,.cons (tZ rfl) .nil,e,fun μ' v H' _ _ _ r=>fV r⟩
 ·have h1:=(ah.mp q1).1
  have h2:=(ah.mp q2).1
  simp at h1 h2;omega
 ·have h1:=(ah.mp q1).1
  simp at h1;subst h1
  cases q1;cases q2
  exact hc
end G
end
section
namespace G
open PySem PySem.Spec L2
open PySem.W (CodeHd tabObj tabIn)
open PyProof.Rows hiding St
theorem rM.tab {K:aj}{x:Str}{st:Stmt}{c P:Addr} (D:rM K x st c P):tabIn K x=some (c,P):=by
 obtain⟨f,oc,od,kV,doc,pm,an,ct,sl,e1,e2,_⟩:=D.ex
 obtain⟨vs,od',sl',file,tf,flags,tg,inF,text,tt,e3,e4,_⟩:=D.cd
 unfold tabIn
 simp only [e1,e2,e3,e4]
noncomputable def vk (K:aj) (tabs:List (Addr×Str)) (a:Addr) (o:Obj) (xs:List V):Hp:=fun b=>
 if b∈tabs.map (·.1) then some (.tbl #[]) else if b=a/\K.lookup a=none then some (.frz o (.lst xs)) else none
section
variable {P:Program}{w:World}{K:aj}{mg mb:Str->Option Value}{k:Nat}{fa a:Addr}{fd:FuncData}{x:Str}{sp:Sp}{s:Shared}{vs:List Value}{ns:List Int}{tabs:List (Addr×Str)}
theorem Di (kx:K.In s.heap) (hns:s.heap.Ns mainGlobals mg) (hb:s.heap.Ns builtinsNs mb) (hbb : ∀ x:Str,x≠"__name__"->mb x=bootBuiltins x) (hlim:s.heap.NoLimit) (hbm:h9 mg s.heap) (hg:s.gens = #[])
  (ha:s.heap.get? a=some { cls := .type "list",data := .seq vs.toArray }) (hi:IntsAre vs ns) (hl:ns.length<=sizeLine) (hr:jD k callerA)
  (hT : ∀ r∈tabs,K.lookup r.1=none /\ ∃ c,s.heap.TableAt c r.1 #[])
  (F : ∀ base:Heap,K.In base->base.Ns mainGlobals mg->h9 mg base->lE P w K mg base CX0 k fa fd [x] sp) (hbind : ∀ (s:Shared) (u:Value),BindsTo s fd ⟨[u],[]⟩ [(x,u)])
  (hsp : ∀ H:Hp,(∀ r∈tabs,wO H r.1 r.2)->SqL K H a (ns.map V.int)->sp [.ref a] H (fun v _=>v = .bl true) fun _ _ _=>False) :
  rf (model P w) callerA (.call (.ref fa) ⟨[.ref a],[]⟩) (fun r s'=>r = .ok (.ret (.bool true))/\OldK s.heap s'.heap/\s'.os=s.os/\AllBare s'.gens) s:=by
 have rv:=nY hi
 have lenV:=hi.length
 let o:Obj:={ cls := .type "list",data := .seq vs.toArray }
 let H:=vk K tabs a o (ns.map V.int)
 have hH:H=vk K tabs a o (ns.map V.int):=rfl
 have tab : ∀ b,b∈tabs.map (·.1)->H b=some (.tbl #[])/\K.lookup b=none /\ ∃ c,s.heap.TableAt c b #[]:=fun b hb=>by
  obtain⟨r,hr,e⟩:=bb.mp hb
  subst e
  exact⟨if_pos hb,hT r hr⟩
 have anot:a∉tabs.map (·.1):=fun z=>by
  obtain⟨_,_,c,ht⟩:=tab a z
  have e:=ht.2
  rw [ha] at e
  cases e
 have Hof : ∀ b u,H b=some u->(b∈tabs.map (·.1)/\u = .tbl #[])\/(b=a/\K.lookup a=none/\u = .frz o (.lst (ns.map V.int))):=fun b u e=>by
  rw [hH] at e
  unfold vk at e
  split at e
  ·rename_i z;cases e;exact .inl ⟨z,rfl⟩
  ·split at e
   ·rename_i z;cases e;exact .inr ⟨z.1,z.2,rfl⟩
   ·cases e
 have nodic : ∀ {b:Addr}{o:Obj}{es:Array DictEntry}{ep:Nat},s.heap.get? b=some o->o.data = .dict es ep->H b=none:=fun {b o' es ep} e d=>by
  cases q:H b with
  | none=>rfl
  | some u=>
    rcases Hof b u q with⟨z,_⟩ | ⟨z,_⟩
    ·obtain⟨_,_,c,ht⟩:=tab b z
     have e2:=ht.2
     rw [e] at e2;cases e2;cases d
    ·subst z
     rw [ha] at e;cases e;cases d
 have nsK : ∀ {b:Addr}{m:Str->Option Value},s.heap.Ns b m->(rN s.heap H).Ns b m:=fun {b m} ⟨o,es,ep,e,d,r⟩=>⟨o,es,ep,nq e (nodic e d),d,r⟩
 have hKb:K.In (rN s.heap H):=fun b o' e=>nq (kx b o' e) (by
  cases q:H b with
  | none=>rfl
  | some u=>
    rcases Hof b u q with⟨z,_⟩ | ⟨z,z2,_⟩
    ·rw [(tab b z).2.1] at e;cases e
    ·rw [z,z2] at e;cases e)
 have hok:HOk P w H s.heap:=fun b u e=>by
  rcases Hof b u e with⟨z,rfl⟩ | ⟨rfl,z2,rfl⟩
  ·obtain⟨_,_,c,ht⟩:=tab b z
   exact ht.2
  ·exact⟨ha,by rw [av];exact hl,vs,_,rv,ha⟩
 have hS:SqL K H a (ns.map V.int):=by
  cases hk:K.lookup a with
  | some o'=>
    have e:=kx a o' hk
    rw [ha] at e
    cases e
    exact .inr ⟨_,vs.toArray,_,hk,rfl,rfl,rfl,by rw [ay,lenV];exact hl,by simpa using rv⟩
  | none=>exact .inl (.inr ⟨o,by show vk K tabs a o (ns.map V.int) a=_;unfold vk;rw [if_neg anot,if_pos ⟨rfl,hk⟩]⟩)
 have hM:Mod K mg (rN s.heap H):=⟨hKb,nsK hns,⟨mb,nsK hb,hbb⟩,let ⟨mc,h1,h2⟩:=hlim;⟨mc,nsK h1,h2⟩⟩
 have e0:zz P w K mg (rN s.heap H) callerA [] s H:=⟨rfl,hM,fun b o e=>yH e,mQ (sN _ _),trivial,fun b hb=>absurd (show b∈([]:List Addr) from hb) (by simp),hok,.of_eq hg⟩
 have hBb:h9 mg (rN s.heap H):=by
  obtain⟨bm,ob,e1,e2,e3,e4,e5,e6⟩:=hbm
  refine⟨bm,ob,e1,e2,nq e3 ?_,e4,e5,e6⟩
  cases q:H bm with
  | none=>rfl
  | some u=>
    rcases Hof bm u q with⟨z,_⟩ | ⟨z,_⟩
    ·obtain⟨_,_,c,ht⟩:=tab bm z
     have e:=ht.2
     rw [e3] at e;cases e;cases e6
    ·rw [z,ha] at e3;cases e3;cases e6
 have hTR : ∀ r∈tabs,wO H r.1 r.2:=fun r hr=>⟨#[],(tab r.1 (bb.mpr ⟨r,hr,rfl⟩)).1,trivial,fun pos cv h=>by cases h⟩
 refine j5 ((F _ hKb (nsK hns) hBb).run callerA [] s H ⟨[.ref a],[]⟩ [.ref a] [.ref a] _ _ hr e0 (hbind s (.ref a)) (.cons rfl .nil) (hsp H hTR hS)) fun r s' h => ?_
 cases r with
 | error e=>exact h.elim
 | ok fl=>
   cases fl with
   | next=>exact cD h
   | brk=>exact cD h
   | cont=>exact cD h
   | ret u=>
     obtain⟨v,H',os,bare,un,hok',r',q⟩:=h
     have q':v = .bl true:=q
     subst q'
     obtain rfl:u=wt true:=r'
     refine⟨rfl,⟨fun b o' e => ?_,fun b o' e=>un.there b o' e (by simp)⟩,os,bare⟩
     cases q:H b with
     | none=>exact .inl (un.keep b o' e q (by intro z;exact absurd (show b∈([]:List Addr) from z) (by simp)) (by simp))
     | some u=>
       rcases Hof b u q with⟨z,rfl⟩ | ⟨rfl,_,rfl⟩
       ·obtain⟨_,_,c,ht⟩:=tab b z
        obtain⟨more,e2⟩:=un.tbls b #[] q
        have e3:s'.heap.get? b=some { cls := .none,data := .fields (#[]++more) }:=hok' b _ e2
        have e4:=ht.2
        rw [e] at e4
        cases e4
        exact .inr (.inl ⟨ht.isCodeTable,rfl,#[],more,rfl,e3⟩)
       ·obtain⟨e2,_⟩:=hok' b _ (un.frzs b _ _ q)
        rw [ha] at e
        cases e
        exact .inl e2
end
theorem A4 {l:lu}{n k:Nat}{q:Program}{loose:List Str}{XP:(Str->Option Value)->Heap->Prop}{YP:World->Heap->Prop}{d:DefRec}{K:Params->aj}{x:Str}
  (hn:l.most=some n) (hn2:n<=sizeLine) (hdf:d.params.defaults = []) (hr:jD k callerA) (hY : ∀ (w:World) (h:Heap),YP w h->(K w.params).In h)
  (F : ∀ (w:World) (mg:Str->Option Value) (fa:Addr) (h:Heap),(K w.params).In h->h.Ns mainGlobals mg->mg d.name=some (.ref fa) -> ∃ (tabs:List (Addr×Str)) (fd:FuncData) (sp:Sp),
   (∀ r∈tabs,(K w.params).lookup r.1=none /\ ∃ x d c,(recsOf q).find? (fun e=>e.name == x)=some d/\tabIn (K w.params) x=some (c,r.1)) /\
   (∀ (s:Shared) (u:Value),BindsTo s fd ⟨[u],[]⟩ [(x,u)])/\(∀ base:Heap,(K w.params).In base->base.Ns mainGlobals mg->h9 mg base->lE l.prog w (K w.params) mg base CX0 k fa fd [x] sp) /\
   ∀ (H:Hp) (a:Addr) (ns:List Int),ns.length<=n->(∀ r∈tabs,wO H r.1 r.2)->SqL (K w.params) H a (ns.map V.int)->sp [.ref a] H (fun v _=>v = .bl true) fun _ _ _=>False) :
  PySem.W.WalkO q loose XP YP l.row.toRowW d [] (fun f vs=>PySem.call f vs):=by
 refine Att.attach_call hn hdf fun w s₀ s₁ mg mb fa o pm cd doc a vs ns G Y ho hd hcd hmg hobj hints hlen hg => ?_
 have kx:=hY w _ Y
 obtain⟨tabs,fd,sp,hT,hb,hF,hsp⟩:=F w mg fa _ kx G.T.g hmg
 refine Di (tabs:=tabs) kx G.T.g G.T.b G.T.builtins G.T.nolimit G.T.bmain hg hobj hints (bg hlen hn2) hr (fun r hr => ?_) hF hb fun H h1 h2=>hsp H a ns hlen h1 h2
 obtain⟨h1,x',d',c,h2,h3⟩:=hT r hr
 obtain⟨h4,h5⟩:=PySem.W.tab_of G.T kx h2 h3
 exact⟨h1,c,h4.tab h5⟩
end G
end
section
namespace G
open PySem PySem.Spec L2
theorem us0 {p:List Value->Prop} (h:p []) : ∀ us:List Value,us.length=0->p us
 | [],_=>h
theorem us1 {p:List Value->Prop} (h : ∀ a,p [a]) : ∀ us:List Value,us.length=1->p us
 | [a],_=>h a
theorem us2 {p:List Value->Prop} (h : ∀ a b,p [a,b]) : ∀ us:List Value,us.length=2->p us
 | [a,b],_=>h a b
theorem us3 {p:List Value->Prop} (h : ∀ a b c,p [a,b,c]) : ∀ us:List Value,us.length=3->p us
 | [a,b,c],_=>h a b c
theorem us4 {p:List Value->Prop} (h : ∀ a b c d,p [a,b,c,d]) : ∀ us:List Value,us.length=4->p us
 | [a,b,c,d],_=>h a b c d
noncomputable def Bd (x:Str) (st:Stmt) (ps:List Str):Prop := ∀ (kV doc pm:Value) (an:Option Addr) (cdv ct:Value) (us:List Value),us.length=ps.length->bindArgs (cX x x (fN st) (aW st) (aw st) .none kV doc pm an cdv ct) ⟨us,[]⟩=pure (ps.zip us)
structure Ch (P:Program) (w:World) (K:aj) (mg:Str->Option Value) (tabs:List (Addr×Str)) (T:Tb) (k:Nat):Prop where
 o : ∀ (caps:List U) (capv:List V) (cds:List (Addr×Obj)) (base:Heap),h9 mg base->TOk ⟨P,w,⟨K,caps,capv,cds,tabs⟩,mg,base,none⟩ T k
 h : ∀ (caps:List U) (capv:List V) (cds:List (Addr×Obj)) (base:Heap),h9 mg base -> ∀ y F,T.H.lookup y=some F -> ∃ k' ps,k'<=k/\FnC ⟨P,w,⟨K,caps,capv,cds,tabs⟩,mg,base,none⟩ y k' ps F
section
variable {P:Program}{w:World}{K:aj}{mg:Str->Option Value}{tabs:List (Addr×Str)}{T T':Tb}{k j:Nat}{h:Heap}{x:Str}{st:Stmt}{N ps:List Str}{ms:MS}{fu:Nat}
theorem Ch.dfn (c:Ch P w K mg tabs T k) (O : ∀ (caps:List U) (capv:List V) (cds:List (Addr×Obj)) (base:Heap),h9 mg base->TOk ⟨P,w,⟨K,caps,capv,cds,tabs⟩,mg,base,none⟩ T' k) (h1:T'.mkr=false) (X:K.In h) (Gn:h.Ns mainGlobals mg) (D:Def K x st) (S:bf N ps (aw st)) (hb:Bd x st ps)
  (hc:cB T' fu N (aw st).names (aW st)=some ms):Ch P w K mg tabs ⟨(x,run ps.length N.length ms)::T.D,T.C,T.L,T.H,T.mkr⟩ (k+1):=
 ⟨fun a b d e f=>(c.o a b d e f).cons (D.fn (M:=⟨P,w,⟨K,a,b,d,tabs⟩,mg,e,none⟩) (O a b d e f) rfl h1 X Gn S hb hc) (d8 k),fun a b d e f=>pw (c.h a b d e f) (d8 k)⟩
theorem Ch.cls {y:Str}{msC:Addr->MF->MS} (c:Ch P w K mg tabs T k) (h1:T.mkr=false) (hL:T.L = []) (X:K.In h) (Gn:h.Ns mainGlobals mg) (D:Def K x st) (S:bf N ps (aw st)) (hb:Bd x st ps)
  (hc : ∀ g φ,cB ⟨T.D,T.C,[(y,g,φ)],T.H,T.mkr⟩ fu N (aw st).names (aW st)=some (msC g φ)):Ch P w K mg tabs ⟨T.D,T.C,T.L,(x,fun g φ=>run ps.length N.length (msC g φ))::T.H,T.mkr⟩ k:=
 ⟨fun a b d e f=>(c.o a b d e f).setH,fun a b d e f=>EF (c.h a b d e f) (D.fnC (M:=⟨P,w,⟨K,a,b,d,tabs⟩,mg,e,none⟩) c.o h1 hL X Gn S hb hc) (ak k) (ak k)⟩
theorem Ch.lam_ {a p:Addr} (c:Ch P w K mg tabs T k) (h1:T.mkr=false) (hL:T.L = []) (hm:(p,x++".<locals>."++"<lambda>")∈tabs) (nd:(tabs.map (·.1)).Nodup) (hg:mainGlobals≠p) (X:K.In h) (Gn:h.Ns mainGlobals mg) (D:rM K x st a p) (S:bf N ps (aw st)) (hb:Bd x st ps)
  (hc:cB ⟨T.D,T.C,T.L,T.H,true⟩ fu N (aw st).names (aW st)=some ms):Ch P w K mg tabs ⟨(x,run ps.length N.length ms)::T.D,T.C,T.L,T.H,T.mkr⟩ (k+3):=
 ⟨fun a b d e f=>(c.o a b d e f).cons (D.fn (M:=⟨P,w,⟨K,a,b,d,tabs⟩,mg,e,none⟩) rfl c.o (c.o a b d e f) hL h1 (pw (c.h a b d e f) (d8 k)) (D.mkr (M:=⟨P,w,⟨K,a,b,d,tabs⟩,mg,e,none⟩) f X Gn hm nd hg) X Gn S hb hc) (gf k 3),fun a b d e f=>pw (c.h a b d e f) (gf k 3)⟩
end
end G
end
section
namespace W
open PySem PySem.Spec L2 G
section
noncomputable def fF:MS:=aZ (sIf (cOf (m2 oLt (ab 1) (mFn bF (aa (ab 0) af)))) (bV (m2 oIx (ab 0) (ab 1))) dh) (bV (mC (.int 0)))
noncomputable def hU:MF:=run 2 2 fF
noncomputable def i4:MS:=aZ (bA 2 (mFn hU (aa (ab 0) (aa (ab 1) af)))) (aZ (sIf (cOf (m2 oGe (ab 2) (m2 ua (mC (.int 10)) (mC (.int 18))))) (bV (cM (aa (m2 mm (ab 2) (m2 ua (mC (.int 10)) (mC (.int 18)))) (aa (mC (.bl true)) af)))) dh) (bV (cM (aa (m2 oMod (ab 2) (mC (.int 2147483647))) (aa (mC (.bl false)) af)))))
noncomputable def i2:MF:=run 2 3 i4
noncomputable def jT:MS:=aZ (sIf (cOf (m2 oIx (ab 0) (mC (.int 1)))) (aZ (bA 2 (m2 oMod (m2 oIx (ab 0) (mC (.int 0))) (ab 1))) (aZ (iX (ab 0) (mC (.int 0)) (m2 oDiv (m2 oIx (ab 0) (mC (.int 0))) (ab 1))) (bV (ab 2)))) dh) (aZ (iX (ab 0) (mC (.int 0)) (m2 oMod (m2 bW (m2 fZ (m2 oIx (ab 0) (mC (.int 0))) (mC (.int 48271))) (mC (.int 29))) (mC (.int 2147483647)))) (aZ (bA 3 (m2 oMod (m2 bW (m2 bW (m2 fZ (m2 oIx (ab 0) (mC (.int 0))) (m2 oIx (ab 0) (mC (.int 0)))) (m2 fZ (mC (.int 39373)) (m2 oIx (ab 0) (mC (.int 0))))) (mC (.int 7))) (mC (.int 2147483629)))) (aZ (bA 3 (m2 oMod (m2 bW (m2 fZ (ab 3) (ab 3)) (m2 fZ (mC (.int 16807)) (ab 3))) (mC (.int 2147483587)))) (bV (m2 oMod (m2 oDiv (ab 3) (mC (.int 8))) (ab 1))))))
noncomputable def aL:MF:=run 2 4 jT
noncomputable def kD:MS:=bV (mFn bD (aa (bZ (iR1 (aa (ab 0) af)) cTT (mFn bD (aa (bZ (iR1 (aa (ab 0) af)) cTT (m2 oMod (m2 bW (ab 1) (ab 2)) (ab 0))) af))) af))
noncomputable def b9:MF:=run 1 1 kD
noncomputable def ko:MS:=aZ (bA 1 (cM af)) (aZ (eo 2 (iR1 (aa (m2 fZ (mC (.int 2)) (ab 0)) af)) (aZ (bA 3 (cM af)) (aZ (eo 4 (iR1 (aa (m2 fZ (mC (.int 2)) (ab 0)) af)) (aZ (bA 5 (m2 oMod (m2 bW (m2 oMod (ab 2) (ab 0)) (m2 fZ (m2 oIx (cM (aa (mC (.int 1)) (aa (m1 eW (mC (.int 1))) af))) (m2 oDiv (ab 2) (ab 0))) (m2 oMod (ab 4) (ab 0)))) (ab 0))) (df (mML cj (ab 3) (aa (m2 bW (ab 5) (m2 fZ (ab 0) (m2 oMod (m2 bW (m2 oDiv (ab 2) (ab 0)) (m2 oDiv (ab 4) (ab 0))) (mC (.int 2))))) af))))) (df (mML cj (ab 1) (aa (mFn bD (aa (ab 3) af)) af)))))) (bV (mFn bD (aa (ab 1) af))))
noncomputable def eV:MF:=run 1 6 ko
noncomputable def jl:MS:=aZ (bA 0 (cM (aa (cM (aa (mC (.int 0)) (aa (mC (.int 0)) (aa (mC (.int 0)) (aa (mC (.int 0)) af))))) (aa (cM (aa (mC (.int 0)) (aa (mC (.int 1)) (aa (mC (.int 0)) (aa (mC (.int 1)) af))))) (aa (cM (aa (mC (.int 0)) (aa (mC (.int 1)) (aa (mC (.int 1)) (aa (mC (.int 0)) af))))) (aa (cM (aa (mC (.int 0)) (aa (mC (.int 0)) (aa (mC (.int 1)) (aa (mC (.int 1)) af))))) af)))))) (aZ (bA 1 (cM (aa (cM (aa (mC (.int 0)) (aa (mC (.int 1)) (aa (mC (.int 2)) (aa (mC (.int 3)) af))))) (aa (cM (aa (mC (.int 1)) (aa (mC (.int 0)) (aa (mC (.int 3)) (aa (mC (.int 2)) af))))) (aa (cM (aa (mC (.int 2)) (aa (mC (.int 3)) (aa (mC (.int 0)) (aa (mC (.int 1)) af))))) (aa (cM (aa (mC (.int 3)) (aa (mC (.int 2)) (aa (mC (.int 1)) (aa (mC (.int 0)) af))))) af)))))) (aZ (bA 2 (cM af)) (aZ (eo 3 (iR1 (aa (mC (.int 8)) af)) (aZ (bA 4 (cM af)) (aZ (eo 5 (iR1 (aa (mC (.int 8)) af)) (aZ (bA 6 (m2 oMod (m2 bW (m2 bW (ab 3) (ab 5)) (m2 oIx (m2 oIx (ab 0) (m2 oDiv (ab 3) (mC (.int 2)))) (m2 oDiv (ab 5) (mC (.int 2))))) (mC (.int 2)))) (df (mML cj (ab 4) (aa (m2 bW (m2 fZ (mC (.int 2)) (m2 oIx (m2 oIx (ab 1) (m2 oDiv (ab 3) (mC (.int 2)))) (m2 oDiv (ab 5) (mC (.int 2))))) (ab 6)) af))))) (df (mML cj (ab 2) (aa (mFn bD (aa (ab 4) af)) af)))))) (bV (mFn bD (aa (ab 2) af))))))
noncomputable def fH:MF:=run 0 7 jl
noncomputable def mK:MS:=aZ (bA 2 (mFn bF (aa (ab 1) af))) (aZ (bA 3 (cM af)) (aZ (eo 4 (iR1 (aa (m2 fZ (mFn bF (aa (ab 0) af)) (ab 2)) af)) (aZ (bA 5 (cM af)) (aZ (eo 6 (iR1 (aa (m2 fZ (mFn bF (aa (ab 0) af)) (ab 2)) af)) (aZ (bA 7 (m2 oIx (m2 oIx (ab 0) (m2 oDiv (ab 4) (ab 2))) (m2 oDiv (ab 6) (ab 2)))) (df (mML cj (ab 5) (aa (m2 bW (m2 fZ (ab 7) (ab 2)) (m2 oIx (m2 oIx (ab 1) (m2 oMod (ab 4) (ab 2))) (m2 oMod (ab 6) (ab 2)))) af))))) (df (mML cj (ab 3) (aa (mFn bD (aa (ab 5) af)) af)))))) (bV (mFn bD (aa (ab 3) af)))))
noncomputable def jV:MF:=run 2 8 mK
noncomputable def ku:MS:=bV (mFn bD (aa (bZ (da (ab 1)) cTT (mFn bD (aa (bZ (da (ab 1)) cTT (mMT dA (ab 1) (aa (m2 oIx (m2 oIx (ab 0) (ab 2)) (ab 3)) af))) af))) af))
noncomputable def i8:MF:=run 2 2 ku
noncomputable def kg:MS:=aZ (bA 2 (gU (iR2 (aa (mC (.int 1)) (aa (ab 1) af))))) (bV (m2 bW (cK (aa (mC (.int 0)) af)) (mFn bD (aa (bZ (iR1 (aa (m2 mm (ab 1) (mC (.int 1))) af)) cTT (mML jj (ab 2) (aa (mFn aL (aa (ab 0) (aa (mFn bF (aa (ab 2) af)) af))) af))) af))))
noncomputable def eY:MF:=run 2 3 kg
noncomputable def kr:MS:=aZ (bA 2 (mFn aL (aa (ab 0) (aa (mC (.int 8)) af)))) (aZ (bA 3 (mFn b9 (aa (m2 bW (mC (.int 1)) (mFn aL (aa (ab 0) (aa (ab 1) af)))) af))) (aZ (sIf (cOr (cOf (m2 oEq (ab 2) (mC (.int 1)))) (cOf (m2 oEq (ab 2) (mC (.int 2))))) (bA 3 (mFn eV (aa (m2 bW (mC (.int 1)) (mFn aL (aa (ab 0) (aa (m2 oDiv (ab 1) (mC (.int 2))) af)))) af))) dh) (aZ (sIf (qQ (cOf (m2 oEq (ab 2) (mC (.int 3)))) (cOf (m2 oGt (ab 1) (mC (.int 7))))) (bA 3 (mFn fH af)) dh) (aZ (sIf (cOf (m2 oGt (ab 2) (mC (.int 3)))) (aZ (bA 4 (m2 bW (mC (.int 2)) (mFn aL (aa (ab 0) (aa (mC (.int 3)) af))))) (aZ (bA 5 (m2 oIx (cM (aa (mFn b9 (aa (ab 4) af)) (aa (mFn eV (aa (ab 4) af)) af))) (mFn aL (aa (ab 0) (aa (mC (.int 2)) af))))) (aZ (sIf (cOf (m2 oGt (mFn bF (aa (ab 5) af)) (ab 1))) (bA 5 (mFn b9 (aa (ab 4) af))) dh) (bA 3 (mFn jV (aa (ab 5) (aa (mFn b9 (aa (m2 bW (mC (.int 1)) (mFn aL (aa (ab 0) (aa (m2 oDiv (ab 1) (mFn bF (aa (ab 5) af))) af)))) af)) af))))))) dh) (aZ (sIf (cOf (m2 oEq (mFn aL (aa (ab 0) (aa (mC (.int 3)) af))) (mC (.int 0)))) (bA 3 (mFn i8 (aa (ab 3) (aa (mFn eY (aa (ab 0) (aa (mFn bF (aa (ab 3) af)) af))) af)))) dh) (bV (ab 3)))))))
noncomputable def fW:MF:=run 2 6 kr
end
end W
end
section
namespace W
structure Grp (m:Nat) (T:Nat->Nat->Nat):Prop where
 pos:0 < m
 cl : ∀ i j,i < m->j < m->T i j < m
 l0 : ∀ i,i < m->T 0 i=i
 r0 : ∀ i,i < m->T i 0=i
 inv : ∀ i,i < m -> ∃ j,j < m/\T i j=0/\T j i=0
 as : ∀ i j k,i < m->j < m->k < m->T (T i j) k=T i (T j k)
noncomputable def eh (n:Nat):Nat->Nat->Nat:=fun i j=>(i+j) % n
theorem jE {n:Nat} (h:0 < n):Grp n (eh n) where
 pos:=h
 cl:=fun i j _ _=>qX _ h
 l0:=fun i hi=>by unfold eh;rw [d9];exact bp hi
 r0:=fun i hi=>by unfold eh;rw [mR];exact bp hi
 inv:=fun i hi=>by
  by_cases h0:i=0
  ·subst h0;exact⟨0,h,by simp [eh],by simp [eh]⟩
  ·refine⟨n - i,by omega,?_,?_⟩ <;> unfold eh
   ·rw [show i+(n - i)=n by omega,mS]
   ·rw [show n - i+i=n by omega,mS]
 as:=fun i j k _ _ _=>by
  unfold eh
  rw [mT,Nat.add_mod_mod,Nat.add_assoc]
noncomputable def fX (n:Nat):Nat->Nat->Nat:=fun i j=>
 (if i < n then (i % n+j % n) % n else (i % n+(n - j % n)) % n)+n*((i / n+j / n) % 2)
theorem half {n i:Nat} (h:i < 2*n):(i < n/\i % n=i/\i / n=0)\/(n<=i/\i % n=i - n/\i / n=1):=by
 by_cases hi:i < n
 ·exact .inl ⟨hi,bp hi,gg hi⟩
 ·refine .inr ⟨by omega,?_,?_⟩
  ·rw [Nat.mod_eq_sub_mod (by omega),bp (by omega)]
  ·exact Nat.div_eq_of_lt_le (by omega) (by omega)
theorem eu {n a b:Nat} (ha:a < n) (hb:b < n):fX n a b=(a+b) % n:=by
 unfold fX
 rw [if_pos ha,bp ha,bp hb,gg ha,gg hb];simp
theorem DQ {n a:Nat} (ha:a < n):(n+a) / n=1:=Nat.div_eq_of_lt_le (by omega) (by omega)
theorem DR {n a:Nat} (ha:a < n):(n+a) % n=a:=by rw [Nat.add_mod_left];exact bp ha
theorem hV {n a b:Nat} (ha:a < n) (hb:b < n):fX n a (n+b)=n+(a+b) % n:=by
 unfold fX
 rw [if_pos ha,bp ha,DR hb,gg ha,DQ hb];simp;omega
theorem hE {n a b:Nat} (ha:a < n) (hb:b < n):fX n (n+a) b=n+(a+(n - b)) % n:=by
 unfold fX
 rw [if_neg (by omega),DR ha,bp hb,gg hb,DQ ha];simp;omega
theorem hJ {n a b:Nat} (ha:a < n) (hb:b < n):fX n (n+a) (n+b)=(a+(n - b)) % n:=by
 unfold fX
 rw [if_neg (by omega),DR ha,DR hb,DQ ha,DQ hb];simp
theorem Ls {n a b:Nat} (ha:a < n) (hb:b < n):(a+b) % n=if a+b < n then a+b else a+b - n:=by
 split
 ·exact bp (by assumption)
 ·rw [Nat.mod_eq_sub_mod (by omega),bp (by omega)]
theorem LN {n a b:Nat} (ha:a < n) (hb:b < n):(a+(n - b)) % n=if b<=a then a - b else a+n - b:=by
 split
 ·rw [show a+(n - b)=(a - b)+n by omega,j9,bp (by omega)]
 ·rw [bp (by omega)];omega
theorem kn {n i:Nat} (h:i < 2*n):(i < n) \/ ∃ a,a < n/\i=n+a:=by
 by_cases hi:i < n
 ·exact .inl hi
 ·exact .inr ⟨i - n,by omega,by omega⟩
theorem DZ {n a b c:Nat}:((a+b) % n+c) % n=(a+(b+c) % n) % n:=by rw [mT,Nat.add_mod_mod,Nat.add_assoc]
theorem IZ {n a b c:Nat} (hb:b < n) (hc:c < n):((a+(n - b)) % n+(n - c)) % n=(a+(n - (b+c) % n)) % n:=by
 rw [mT,Ls hb hc]
 split
 ·rw [show a+(n - b)+(n - c)=a+(n - (b+c))+n by omega,j9]
 ·rw [show a+(n - b)+(n - c)=a+(n - (b+c - n)) by omega]
theorem Kr {n a b c:Nat} (hb:b < n) (hc:c < n):((a+(n - b)) % n+c) % n=(a+(n - (b+(n - c)) % n)) % n:=by
 rw [mT,LN hb hc]
 split
 ·rw [show a+(n - b)+c=a+(n - (b - c)) by omega]
 ·rw [show a+(n - b)+c=a+(n - (b+n - c))+n by omega,j9]
theorem uQ {n:Nat} (h:0 < n):Grp (2*n) (fX n):=by
 have ml : ∀ x,x % n < n:=fun x=>qX _ h
 have cl : ∀ i j,i < 2*n->j < 2*n->fX n i j < 2*n:=fun i j hi hj=>by
  rcases kn hi with hi | ⟨a,ha,rfl⟩ <;> rcases kn hj with hj | ⟨b,hb,rfl⟩
  ·rw [eu hi hj];have:=ml (i+j);omega
  ·rw [hV hi hb];have:=ml (i+b);omega
  ·rw [hE ha hj];have:=ml (a+(n - j));omega
  ·rw [hJ ha hb];have:=ml (a+(n - b));omega
 refine⟨by omega,cl,fun i hi => ?_,fun i hi => ?_,fun i hi => ?_,fun i j k hi hj hk => ?_⟩
 ·rcases kn hi with hi | ⟨a,ha,rfl⟩
  ·rw [eu h hi,d9,bp hi]
  ·rw [hV h ha,d9,bp ha]
 ·rcases kn hi with hi | ⟨a,ha,rfl⟩
  ·rw [eu hi h,mR,bp hi]
  ·rw [hE ha h,Nat.sub_zero,j9,bp ha]
 ·rcases kn hi with hi | ⟨a,ha,rfl⟩
  ·by_cases h0:i=0
   ·subst h0;exact⟨0,by omega,by rw [eu h h];simp,by rw [eu h h];simp⟩
   ·have hl:n - i < n:=by omega
    refine⟨n - i,by omega,?_,?_⟩
    ·rw [eu hi hl,show i+(n - i)=n by omega,mS]
    ·rw [eu hl hi,show n - i+i=n by omega,mS]
  ·refine⟨n+a,by omega,?_,?_⟩ <;> rw [hJ ha ha,show a+(n - a)=n by omega,mS]
 ·rcases kn hi with hi | ⟨a,ha,rfl⟩ <;> rcases kn hj with hj | ⟨b,hb,rfl⟩ <;> rcases kn hk with hk | ⟨c,hc,rfl⟩
  ·rw [eu hi hj,eu hj hk,eu (ml _) hk,eu hi (ml _),DZ]
  ·rw [eu hi hj,hV hj hc,hV (ml _) hc,hV hi (ml _),DZ]
  ·rw [hV hi hb,hE hb hk,hE (ml _) hk,hV hi (ml _),DZ]
  ·rw [hV hi hb,hJ hb hc,hJ (ml _) hc,eu hi (ml _),DZ]
  ·rw [hE ha hj,eu hj hk,hE (ml _) hk,hE ha (ml _),IZ hj hk]
  ·rw [hE ha hj,hV hj hc,hJ (ml _) hc,hJ ha (ml _),IZ hj hc]
  ·rw [hJ ha hb,hE hb hk,eu (ml _) hk,hJ ha (ml _),Kr hb hk]
  ·rw [hJ ha hb,hJ hb hc,hV (ml _) hc,hE ha (ml _),Kr hb hc]
noncomputable def mZ (m:Nat) (A B:Nat->Nat->Nat):Nat->Nat->Nat:=fun i j=>A (i / m) (j / m)*m+B (i % m) (j % m)
theorem wV {m a b:Nat} (hb:b < m):(a*m+b) / m=a/\(a*m+b) % m=b:=by
 have hm:0 < m:=by omega
 constructor
 ·rw [jH,Nat.mul_add_div hm,gg hb];rfl
 ·rw [jH,Nat.mul_add_mod,bp hb]
theorem Cz {k m:Nat}{A B:Nat->Nat->Nat} (ga:Grp k A) (gb:Grp m B):Grp (k*m) (mZ m A B):=by
 have hm:=gb.pos
 have dl : ∀ i,i < k*m->i / m < k:=fun i hi=>Nat.div_lt_of_lt_mul (by rw [jH];exact hi)
 have rl : ∀ i,i % m < m:=fun i=>qX _ hm
 have lt : ∀ a b,a < k->b < m->a*m+b < k*m:=fun a b ha hb=>by
  have:(a+1)*m<=k*m:=fT m ha
  rw [Nat.add_mul] at this;omega
 refine⟨Nat.mul_pos ga.pos hm,fun i j hi hj=>lt _ _ (ga.cl _ _ (dl i hi) (dl j hj)) (gb.cl _ _ (rl i) (rl j)),fun i hi => ?_,fun i hi => ?_,fun i hi => ?_,fun i j l hi hj hl => ?_⟩
 ·unfold mZ;rw [Nat.zero_div,Nat.zero_mod,ga.l0 _ (dl i hi),gb.l0 _ (rl i),jH];exact Nat.div_add_mod i m
 ·unfold mZ;rw [Nat.zero_div,Nat.zero_mod,ga.r0 _ (dl i hi),gb.r0 _ (rl i),jH];exact Nat.div_add_mod i m
 ·obtain⟨a,ha,a1,a2⟩:=ga.inv _ (dl i hi)
  obtain⟨b,hb,b1,b2⟩:=gb.inv _ (rl i)
  obtain⟨p1,p2⟩:=wV (a:=a) hb
  refine⟨a*m+b,lt a b ha hb,?_,?_⟩ <;> unfold mZ <;> rw [p1,p2]
  ·rw [a1,b1];simp
  ·rw [a2,b2];simp
 ·unfold mZ
  obtain⟨p1,p2⟩:=wV (a:=A (i / m) (j / m)) (gb.cl _ _ (rl i) (rl j))
  obtain⟨q1,q2⟩:=wV (a:=A (j / m) (l / m)) (gb.cl _ _ (rl j) (rl l))
  rw [p1,p2,q1,q2,ga.as _ _ _ (dl i hi) (dl j hj) (dl l hl),gb.as _ _ _ (rl i) (rl j) (rl l)]
noncomputable def La:List (List Nat) := [[0,1,2,3,4,5,6,7],[1,0,3,2,5,4,7,6],[2,3,1,0,6,7,5,4],[3,2,0,1,7,6,4,5],[4,5,7,6,1,0,2,3],[5,4,6,7,0,1,3,2],[6,7,4,5,3,2,1,0],[7,6,5,4,2,3,0,1]]
noncomputable def fB:Nat->Nat->Nat:=fun i j=>(La.getD i []).getD j 0
noncomputable def q1:Bool:=(aB 8).all fun i=>(fB 0 i == i)&&(fB i 0 == i)&&((aB 8).any fun j=>(fB i j == 0)&&(fB j i == 0))&&(aB 8).all fun j=>decide (fB i j < 8)&&(aB 8).all fun k=>fB (fB i j) k == fB i (fB j k)
theorem Ko:q1=true:=by decide +kernel
theorem zo:Grp 8 fB:=by
 have h:=bH.mp Ko
 have g : ∀ i,i < 8->_:=fun i hi=>h i (br.mpr hi)
 simp only [az,bH,tE,br,beq_iff_eq,decide_eq_true_eq] at g
 refine⟨by decide,fun i j hi hj=>((g i hi).2 j hj).1,fun i hi=>(g i hi).1.1.1,fun i hi=>(g i hi).1.1.2,fun i hi => ?_,fun i j k hi hj hk=>((g i hi).2 j hj).2 k hk⟩
 obtain⟨j,hj,a,b⟩:=(g i hi).1.2
 exact⟨j,hj,a,b⟩
structure Ord (m:Nat) (o p:Nat->Nat):Prop where
 ol : ∀ i,i < m->o i < m
 pl : ∀ i,i < m->p i < m
 po : ∀ i,i < m->p (o i)=i
 op : ∀ i,i < m->o (p i)=i
 o0:o 0=0
noncomputable def ek (T:Nat->Nat->Nat) (o p:Nat->Nat):Nat->Nat->Nat:=fun i j=>p (T (o i) (o j))
theorem sX {m:Nat}{T:Nat->Nat->Nat}{o p:Nat->Nat} (g:Grp m T) (h:Ord m o p):Grp m (ek T o p):=by
 have p0:p 0=0:=by have:=h.po 0 g.pos;rwa [h.o0] at this
 refine⟨g.pos,fun i j hi hj=>h.pl _ (g.cl _ _ (h.ol i hi) (h.ol j hj)),fun i hi => ?_,fun i hi => ?_,fun i hi => ?_,fun i j k hi hj hk => ?_⟩
 ·unfold ek;rw [h.o0,g.l0 _ (h.ol i hi),h.po i hi]
 ·unfold ek;rw [h.o0,g.r0 _ (h.ol i hi),h.po i hi]
 ·obtain⟨j,hj,a,b⟩:=g.inv _ (h.ol i hi)
  refine⟨p j,h.pl j hj,?_,?_⟩ <;> unfold ek <;> rw [h.op j hj]
  ·rw [a,p0]
  ·rw [b,p0]
 ·unfold ek
  rw [h.op _ (g.cl _ _ (h.ol i hi) (h.ol j hj)),h.op _ (g.cl _ _ (h.ol j hj) (h.ol k hk)),g.as _ _ _ (h.ol i hi) (h.ol j hj) (h.ol k hk)]
end W
end
section
namespace W
theorem lZ {α:Type} : ∀ (l:List α) (i:Nat) (h:i < l.length),(l[i]::l.eraseIdx i).Perm l
 | x::l,0,_=>by simp
 | x::l,i+1,h=>by
   have h':i < l.length:=by simpa using h
   have:=lZ l i h'
   simp only [List.getElem_cons_succ,Ag]
   exact (List.Perm.swap _ _ _).trans (this.cons x)
theorem Ed {l:List Nat} (nd:l.Nodup) {i:Nat} (h:i < l.length):l.idxOf l[i]=i:=by
 have h1:l.idxOf l[i] < l.length:=kc.mpr (lr h)
 have h2:=List.getElem_idxOf h1
 exact (List.getElem_inj nd).mp h2
structure lF (m:Nat) (l:List Nat):Prop where
 perm:l.Perm (aB m)
 z:l[0]? = some 0
noncomputable def oF (l:List Nat):Nat->Nat:=fun i=>l.getD i 0
noncomputable def pF (l:List Nat):Nat->Nat:=fun x=>l.idxOf x
section
variable {m:Nat}{l:List Nat}
theorem lF.len (h:lF m l):l.length=m:=by have:=h.perm.length_eq;simpa using this
theorem lF.nd (h:lF m l):l.Nodup:=h.perm.nodup_iff.mpr lx
theorem lF.mem (h:lF m l) {x:Nat}:x∈l↔x < m:=by rw [h.perm.mem_iff,br]
theorem lF.get (h:lF m l) {i:Nat} (hi:i < m):l[i]? = some (oF l i):=by
 have hl:i < l.length:=by rw [h.len];exact hi
 simp [oF,hl]
theorem lF.ord (h:lF m l):Ord m (oF l) (pF l) where
 ol:=fun i hi=>h.mem.mp (dc (h.get hi))
 pl:=fun x hx=>by
  have:=kc.mpr (h.mem.mpr hx)
  rw [h.len] at this;exact this
 po:=fun i hi=>by
  have hl:i < l.length:=by rw [h.len];exact hi
  have e:oF l i=l[i]:=by simp [oF,hl]
  unfold pF;rw [e];exact Ed h.nd hl
 op:=fun x hx=>by
  have h1:=kc.mpr (h.mem.mpr hx)
  have h2:=List.getElem_idxOf h1
  unfold oF pF
  rw [wH,bU h1,h2];rfl
 o0:=by
  unfold oF
  rw [wH,h.z];rfl
end
theorem zE {m:Nat}{xs:List Nat} (hm:0 < m) (h:xs.Perm (bM 1 (m - 1))):lF m (0::xs):=by
 refine⟨?_,rfl⟩
 have e:aB m=0::bM 1 (m - 1):=by
  rw [CY]
  have:m=(m - 1)+1:=by omega
  rw [this,tu]
  simp
 rw [e]
 exact h.cons 0
end W
end
section
namespace W
section
variable {m:Nat}{T:Nat->Nat->Nat}
theorem Grp.cancel (g:Grp m T) {a b c:Nat} (ha:a < m) (hb:b < m) (hc:c < m) (h:T a b=T a c):b=c:=by
 obtain⟨i,hi,h1,h2⟩:=g.inv a ha
 have e1:T i (T a b)=b:=by rw [<- g.as i a b hi ha hb,h2,g.l0 b hb]
 have e2:T i (T a c)=c:=by rw [<- g.as i a c hi ha hc,h2,g.l0 c hc]
 rw [<- e1,<- e2,h]
theorem Grp.inv1 (g:Grp m T) {i:Nat} (hi:i < m) : ∃ j,j < m/\T i j=0/\T j i=0 /\ ∀ k,k < m->T i k=0->k=j:=by
 obtain⟨j,hj,h1,h2⟩:=g.inv i hi
 exact⟨j,hj,h1,h2,fun k hk h=>g.cancel hi hk hj (h.trans h1.symm)⟩
end
theorem ue : ∀ (m:Nat) (l:List Nat),l.Nodup->(∀ x∈l,x < m)->l.length<=m
 | 0,l,_,h=>by
   cases l with
   | nil=>simp
   | cons x l=>exact absurd (h x (by simp)) (by omega)
 | m+1,l,nd,h=>by
   have h1:=ue m (l.erase m) (nd.erase m) fun x hx=>by
    have hx2:=(List.Nodup.mem_erase_iff nd).mp hx
    have:=h x hx2.2
    have:=hx2.1
    omega
   have h2:l.length<=(l.erase m).length+1:=by
    rw [List.length_erase]
    split <;> omega
   omega
theorem idx_map {f:Nat->Nat}{x:Nat} : ∀ (n s k:Nat),s<=k->k < s+n->f k=x->(∀ j,s<=j->j < k->f j≠x)->((bM s n).map f).idxOf x=k - s
 | 0,s,k,h1,h2,_,_=>by omega
 | n+1,s,k,h1,h2,hp,hn=>by
   rw [tu,be,List.idxOf_cons]
   by_cases hs:s=k
   ·subst hs;simp [hp]
   ·have hb:(f s == x)=false:=by simpa using hn s (ak _) (by exact fg (by assumption) (by assumption))
    rw [hb]
    simp only [cond_false]
    rw [idx_map n (s+1) k (by exact fg (by assumption) (by assumption)) (by omega) hp fun j h1 h2=>hn j (by exact bG (by assumption)) h2]
    omega
end W
end
section
namespace W
open L2 G
noncomputable def Ex (S S':Sto):Prop := ∃ t,S'=S++t
theorem Ex.refl (S:Sto):Ex S S:=⟨[],by simp⟩
theorem Ex.trans {S S1 S2:Sto} (a:Ex S S1) (b:Ex S1 S2):Ex S S2:=by
 obtain⟨t,rfl⟩:=a
 obtain⟨u,rfl⟩:=b
 exact⟨t++u,by simp⟩
theorem Ex.push (S:Sto) (c:Cell):Ex S (S ++ [c]):=⟨[c],rfl⟩
theorem Ex.get {S S':Sto} (h:Ex S S') {n:Nat} (hn:n < S.length):S'[n]? = S[n]? := by
 obtain⟨t,rfl⟩:=h
 exact aI hn
theorem Ex.some {S S':Sto} (h:Ex S S') {n:Nat}{c:Cell} (e:S[n]? = some c):S'[n]? = some c:=by
 rw [h.get (ah.mp e).1];exact e
theorem Ex.len {S S':Sto} (h:Ex S S'):S.length<=S'.length:=by
 obtain⟨t,rfl⟩:=h
 simp
noncomputable def lD (n:Nat) (S:Sto):Prop := ∃ s b,S[n]? = some (.lst [.int s,.bl b])
structure Stp (n:Nat) (S S':Sto):Prop where
 len:S.length<=S'.length
 same : ∀ m,m < S.length->m≠n->S'[m]? = S[m]?
 st:lD n S'
theorem Stp.refl {n:Nat}{S:Sto} (h:lD n S):Stp n S S:=⟨ak _,fun _ _ _=>rfl,h⟩
theorem Stp.trans {n:Nat}{S S1 S2:Sto} (a:Stp n S S1) (b:Stp n S1 S2):Stp n S S2:=
 ⟨bg a.len b.len,fun m h1 h2=>(b.same m (ae h1 a.len) h2).trans (a.same m h1 h2),b.st⟩
theorem lD.lt {n:Nat}{S:Sto} (h:lD n S):n < S.length:=by
 obtain⟨s,b,e⟩:=h
 exact (ah.mp e).1
theorem lD.ex {n:Nat}{S S':Sto} (h:lD n S) (e:Ex S S'):lD n S':=by
 obtain⟨s,b,q⟩:=h
 exact⟨s,b,e.some q⟩
theorem Stp.ex {n:Nat}{S S':Sto} (h:lD n S) (e:Ex S S'):Stp n S S':=⟨e.len,fun m h1 _=>e.get h1,h.ex e⟩
theorem Stp.some {n:Nat}{S S':Sto} (h:Stp n S S') {m:Nat}{c:Cell} (hm:m≠n) (e:S[m]? = some c):S'[m]? = some c:=by
 rw [h.same m (ah.mp e).1 hm];exact e
theorem yO {n:Nat}{S:Sto}{many:Int} (h:lD n S) (hm:0 < many) (hm2:many < 1073741824) :
  ∃ r S',aL [.ref n,.int many] S=some (.int r,S')/\0<=r/\r < many/\Stp n S S'/\S'.length=S.length:=by
 obtain⟨s,b,e⟩:=h
 have hn:=(ah.mp e).1
 have hd:pW many:=⟨hm,hm2⟩
 have hd8:pW 8:=⟨by decide,by decide⟩
 cases b with
 | true=>
   refine⟨s % many,S.set n (.lst [.int (s / many),.bl true]),?_,wB _ (by omega),qY _ hm,⟨by simp,fun m h1 h2=>by rw [aF (eg h2)],⟨s / many,true,by rw [aU hn]⟩⟩,by simp⟩
   simp [aL,G.run,jT,aZ,sIf,cOf,m2,ab,mC,bnd,oIx,fv,dI,getL,e,atI,ixN,bA,oMod,oDiv,hm,hd,iX,bV]
 | false=>
   have b1 : ∀ x m:Int,0 < m->m < 4294967296->i9 (x % m) (x % m):=fun x m h1 h2=>by
    have h3:=wB x (show m≠0 by omega)
    have h4:=qY x h1
    exact .inl ⟨by omega,by omega⟩
   have hg : ∀ c:Cell,(S.set n c)[n]? = Option.some c:=fun c=>aU hn
   have k1:i9 s 48271 := .inr ⟨by decide,by decide⟩
   have k2:=b1 (s*48271+29) 2147483647 (by decide) (by decide)
   generalize hs1:(s*48271+29) % 2147483647=s1 at k2
   have k3:i9 39373 s1 := .inl ⟨by decide,by decide⟩
   have k4:=b1 (s1*s1+39373*s1+7) 2147483629 (by decide) (by decide)
   generalize hm1:(s1*s1+39373*s1+7) % 2147483629=m1 at k4
   have k5:i9 16807 m1 := .inl ⟨by decide,by decide⟩
   refine⟨(m1*m1+16807*m1) % 2147483587 / 8 % many,S.set n (.lst [.int s1,.bl false]),?_,wB _ (by omega),qY _ hm,⟨by simp,fun m h1 h2=>by rw [aF (eg h2)],⟨s1,false,by rw [aU hn]⟩⟩,by simp⟩
   simp [aL,G.run,jT,aZ,sIf,cOf,m2,ab,mC,bnd,oIx,fv,dI,getL,e,atI,ixN,bA,oMod,oDiv,bW,fZ,hm,hd,iX,bV,dh,hg,k1,k2,k3,k4,k5,hs1,hm1,hd8]
end W
end
section
namespace W
open L2 G
section
theorem nQ {i:Nat}{b:MS} (P:Nat->Rho->Sto->Prop) : ∀ (us:List U) (k:Nat) (ρ:Rho) (S:Sto),P k ρ S ->
  (∀ (j:Nat) (u:U) (ρ:Rho) (S:Sto),us[j]? = some u->P (k+j) ρ S -> ∃ ρ' S',b (ρ.set i (some u)) S=some (.nx,ρ',S')/\P (k+j+1) ρ' S') ->
  ∃ ρ' S',oW i b us ρ S=some (.nx,ρ',S')/\P (k+us.length) ρ' S'
 | [],k,ρ,S,h,_=>⟨ρ,S,rfl,h⟩
 | u::us,k,ρ,S,h,st=>by
   obtain⟨ρ1,S1,e1,h1⟩:=st 0 u ρ S rfl h
   obtain⟨ρ2,S2,e2,h2⟩:=nQ P us (k+1) ρ1 S1 h1 fun j v ρ S hj hp=>by
    have:=st (j+1) v ρ S (by simpa using hj) (by rw [show k+(j+1)=k+1+j by omega];exact hp)
    rw [show k+(j+1)+1=k+1+j+1 by omega] at this
    exact this
   refine⟨ρ2,S2,?_,by rw [show k+(u::us).length=k+1+us.length by simp;omega];exact h2⟩
   show aft (b (ρ.set i (some u)) S) (oW i b us)=_
   rw [e1];exact e2
theorem nX {e:ME}{ρ:Rho} (g:Nat->U) (P:Nat->Sto->Prop) : ∀ (us:List U) (k:Nat) (acc:List U) (S:Sto),P k S ->
  (∀ (j:Nat) (u:U) (S:Sto),us[j]? = some u->P (k+j) S -> ∃ S',e (ρ ++ [some u]) S=some (g (k+j),S')/\P (k+j+1) S') ->
  ∃ S',gH cTT e ρ us acc S=some (acc++(aB us.length).map (fun j=>g (k+j)),S')/\P (k+us.length) S'
 | [],k,acc,S,h,_=>⟨S,by simp [gH],h⟩
 | u::us,k,acc,S,h,st=>by
   obtain⟨S1,e1,h1⟩:=st 0 u S rfl h
   obtain⟨S2,e2,h2⟩:=nX g P us (k+1) (acc ++ [g k]) S1 h1 fun j v S hj hp=>by
    have:=st (j+1) v S (by simpa using hj) (by rw [show k+(j+1)=k+1+j by omega];exact hp)
    rw [show k+(j+1)+1=k+1+j+1 by omega,show k+(j+1)=k+1+j by omega] at this
    exact this
   refine⟨S2,?_,by rw [show k+(u::us).length=k+1+us.length by simp;omega];exact h2⟩
   show bnd (cTT (ρ ++ [some u]) S) _=_
   simp only [cTT,aG,if_true]
   rw [e1]
   simp only [aG,mR]
   rw [e2]
   simp only [aM,eP,Prod.mk.injEq,and_true]
   rw [bR,Am,be,bL]
   simp only [List.singleton_append,mR,List.append_cancel_left_eq,List.cons.injEq,true_and]
   apply aT
   intro j _
   simp only [Function.comp]
   congr 1;omega
noncomputable def wU (n:Nat) (g:Nat->U):U := .tup ((aB n).map g)
theorem pd {n:Nat} (h:n < big):okR (n:Int):=by
 unfold big at h
 exact⟨by exact qZ _,by omega⟩
theorem lU {ρ:Rho}{S S0:Sto}{a:ME}{u:U} (ha:a ρ S=some (u,S0)):aa a af ρ S=some ([u],S0):=by
 simp only [aa,af,ha,aG]
theorem GT {ρ:Rho}{S S0:Sto}{a:MA}{j:Int} (ha:a ρ S=some ([.int j],S0)) (h:okR j):iR1 a ρ S=some (.imm (bo 0 j.toNat),S0):=by
 unfold iR1
 rw [ha]
 exact if_pos h
theorem nN {ρ:Rho}{S S0:Sto}{a:ME}{n:Nat} (ha:a ρ S=some (.int n,S0)) (h:n < big):iR1 (aa a af) ρ S=some (.imm (bo 0 n),S0):=by
 rw [GT (lU ha) (pd h),Int.toNat_natCast]
theorem nv {ρ:Rho}{S S0 S1:Sto}{it:MI}{t:MT}{e:ME}{us ys:List U} (hi:it ρ S=some (.imm us,S0)) (h:gH t e ρ us [] S0=some (ys,S1)) (hz:ys.length < big):bZ it t e ρ S=some (.ref S1.length,S1 ++ [.lst ys]):=by
 simp only [bZ,hi,aG,Fq,h]
 exact if_pos hz
theorem dQ {ρ:Rho}{S S1:Sto}{a:ME}{ys:List U} (h:a ρ S=some (.ref S1.length,S1 ++ [.lst ys])):mFn bD (aa a af) ρ S=some (.tup ys,S1 ++ [.lst ys]):=by
 unfold mFn
 rw [lU h]
 show (dI (S1 ++ [Cell.lst ys]) (.ref S1.length)).map _=_
 have:dI (S1 ++ [Cell.lst ys]) (.ref S1.length)=some ys:=by
  show getL (S1 ++ [Cell.lst ys]) S1.length=_
  unfold getL
  rw [ar (ak _)]
  simp
 rw [this];rfl
theorem AX {ρ:Rho}{S S0:Sto}{a e:ME}{n:Nat} (ha:a ρ S=some (.int n,S0)) (hn:n < big) (g:Nat->U) (P:Nat->Sto->Prop) (h0:P 0 S0)
  (hs : ∀ (j:Nat) (S:Sto),j < n->P j S -> ∃ S',e (ρ ++ [some (.int j)]) S=some (g j,S')/\P (j+1) S') :
  ∃ S',mFn bD (aa (bZ (iR1 (aa a af)) cTT e) af) ρ S=some (wU n g,S' ++ [.lst ((aB n).map g)])/\P n S':=by
 obtain⟨S1,e1,h1⟩:=nX (e:=e) (ρ:=ρ) g P (bo 0 n) 0 [] S0 h0 fun j u S hj hp=>by
  have hl:j < n:=by have:=(ah.mp hj).1;simpa [bo] using this
  have hu:(bo 0 n)[j]? = some (.int j):=by simp [bo,hl]
  rw [hu] at hj;cases hj
  simpa using hs j S hl (by simpa using hp)
 have hlen:(bo 0 n).length=n:=by simp [bo]
 simp only [hlen,d9,dF] at e1 h1
 exact⟨S1,dQ (nv (nN ha hn) e1 (by rw [av,bu];exact hn)),h1⟩
theorem Kp {ρ:Rho}{S S0:Sto}{a e:ME}{us:List U} (ha:a ρ S=some (.tup us,S0)) (hn:us.length < big) (g:Nat->U) (P:Nat->Sto->Prop) (h0:P 0 S0)
  (hs : ∀ (j:Nat) (u:U) (S:Sto),us[j]? = some u->P j S -> ∃ S',e (ρ ++ [some u]) S=some (g j,S')/\P (j+1) S') :
  ∃ S',mFn bD (aa (bZ (da a) cTT e) af) ρ S=some (wU us.length g,S' ++ [.lst ((aB us.length).map g)])/\P us.length S':=by
 obtain⟨S1,e1,h1⟩:=nX (e:=e) (ρ:=ρ) g P us 0 [] S0 h0 fun j u S hj hp=>by
  simpa using hs j u S hj (by simpa using hp)
 simp only [d9,dF] at e1 h1
 exact⟨S1,dQ (nv (it:=da a) (us:=us) (by unfold da;rw [ha];rfl) e1 (by rw [av,bu];exact hn)),h1⟩
noncomputable def ji (m:Nat) (T:Nat->Nat->Nat) (i:Nat):U:=wU m fun j => .int (T i j)
noncomputable def tab (m:Nat) (T:Nat->Nat->Nat):U:=wU m (ji m T)
theorem lg {α:Type}{f:Nat->α}{m i:Nat} (h:i < m):atI ((aB m).map f) (i:Int)=some (f i):=by
 simp [atI,ixN,h]
theorem kC {n:Nat}{S:Sto} (h:0 < n) (hn:n < big) : ∃ S',b9 [.int n] S=some (tab n (eh n),S')/\Ex S S':=by
 have key : ∃ S',mFn bD (aa (bZ (iR1 (aa (ab 0) af)) cTT (mFn bD (aa (bZ (iR1 (aa (ab 0) af)) cTT (m2 oMod (m2 bW (ab 1) (ab 2)) (ab 0))) af))) af) [some (.int n)] S=some (wU n (ji n (eh n)),S' ++ [.lst ((aB n).map (ji n (eh n)))])/\Ex S S':=by
  refine AX (S0:=S) (by simp [ab]) hn _ (fun _ S'=>Ex S S') (Ex.refl S) fun i S1 hi hx => ?_
  obtain⟨S2,e2,h2⟩:=AX (ρ := [some (.int n),some (.int i)]) (S:=S1) (S0:=S1) (a:=ab 0) (e:=m2 oMod (m2 bW (ab 1) (ab 2)) (ab 0)) (n:=n) (by simp [ab]) hn (fun j => .int (eh n i j)) (fun _ S'=>S'=S1) rfl fun j S' hj hx=>by
   refine⟨S',?_,hx⟩
   have h0:(0:Int) < n:=by omega
   simp only [m2,ab,List.cons_append,dF,Ai,ly,aG,bW,oMod,h0,if_true,eh,lJ,wC]
  subst h2
  exact⟨S2 ++ [_],e2,hx.trans (Ex.push _ _)⟩
 obtain⟨S',e,hx⟩:=key
 refine⟨S' ++ [.lst ((aB n).map (ji n (eh n)))],?_,hx.trans (Ex.push _ _)⟩
 simp only [b9,G.run,kD,bV,bR,cH,be,iq,se,List.replicate_zero,gM,if_true,e,aG,tab]
end
end W
end
section
namespace W
open L2 G
section
theorem sH {n:Nat} (h:0 < n) (h2:n < 1000):pW (n:Int):=⟨by omega,by omega⟩
theorem pz {i j:Int} (h1 : -1000000000<=i) (h2:i<=1000000000):i9 i j := .inl ⟨by omega,by omega⟩
theorem so {n:Nat}{j:Int} (h:n < 1000000):i9 (n:Int) j:=pz (by exact qZ _) (by omega)
noncomputable def Agr (L:List Nat) (ρ0 ρ:Rho):Prop:=ρ.length=ρ0.length /\ ∀ i,i∉L->ρ[i]? = ρ0[i]?
theorem Agr.refl (L:List Nat) (ρ:Rho):Agr L ρ ρ:=⟨rfl,fun _ _=>rfl⟩
theorem Agr.set {L:List Nat}{ρ0 ρ:Rho}{i:Nat}{v:Option U} (h:Agr L ρ0 ρ) (hi:i∈L):Agr L ρ0 (ρ.set i v):=
 ⟨by rw [fj];exact h.1,fun j hj=>by rw [aF (by rintro rfl;exact hj hi)];exact h.2 j hj⟩
structure Sm (b:Nat) (S0 S:Sto):Prop where
 len:S0.length<=S.length
 same : ∀ m,m < b->S[m]? = S0[m]?
theorem Sm.trans {b:Nat}{S0 S1 S2:Sto} (a:Sm b S0 S1) (c:Sm b S1 S2):Sm b S0 S2:=⟨bg a.len c.len,fun m h=>(c.same m h).trans (a.same m h)⟩
theorem Sm.ex {b:Nat}{S0 S:Sto} (h:Ex S0 S) (hb:b<=S0.length):Sm b S0 S:=⟨h.len,fun m hm=>h.get (ae hm hb)⟩
theorem Sm.set {b n:Nat}{S0 S:Sto}{c:Cell} (h:Sm b S0 S) (hn:b<=n):Sm b S0 (S.set n c):=
 ⟨by rw [fj];exact h.len,fun m hm=>by rw [aF (by omega)];exact h.same m hm⟩
structure Wr (r:Nat) (S S':Sto):Prop where
 len:S.length<=S'.length
 same : ∀ m,m < S.length->m≠r->S'[m]? = S[m]?
theorem Wr.trans {r:Nat}{S S1 S2:Sto} (a:Wr r S S1) (b:Wr r S1 S2):Wr r S S2:=
 ⟨bg a.len b.len,fun m h1 h2=>(b.same m (ae h1 a.len) h2).trans (a.same m h1 h2)⟩
theorem Wr.refl (r:Nat) (S:Sto):Wr r S S:=⟨ak _,fun _ _ _=>rfl⟩
theorem Wr.ex {r:Nat}{S S':Sto} (h:Ex S S'):Wr r S S':=⟨h.len,fun m hm _=>h.get hm⟩
theorem Wr.set (r:Nat) (S:Sto) (c:Cell):Wr r S (S.set r c):=⟨by simp,fun m _ h=>aF (eg h)⟩
theorem Wr.sm {r b:Nat}{S S':Sto} (h:Wr r S S') (hb:b<=r) (hr:b<=S.length):Sm b S S':=⟨h.len,fun m hm=>h.same m (by exact ae (by assumption) (by assumption)) (by omega)⟩
theorem nc {ρ:Rho}{i:Nat}{v:Option U} (h:i < ρ.length):(ρ.set i v)[i]? = some v:=aU h
theorem var_eq {ρ:Rho}{S:Sto}{i:Nat}{u:U} (h:ρ[i]? = some (some u)):ab i ρ S=some (u,S):=by simp only [ab,h]
theorem BI {ρ:Rho}{S:Sto}{i:Nat}{a:ME}{n:Nat}{b:MS} (ha:a ρ S=some (.int n,S)) (h:n < big):eo i (iR1 (aa a af)) b ρ S=oW i b (bo 0 n) ρ S:=by
 unfold eo
 rw [nN ha h]
 rfl
theorem kT {ρ:Rho}{S:Sto}{i:Nat}{a:ME}{n:Nat}{b:MS} (ha:a ρ S=some (.int n,S)) (h:n < big) (P:Nat->Rho->Sto->Prop) (h0:P 0 ρ S)
  (st : ∀ (j:Nat) (ρ:Rho) (S:Sto),j < n->P j ρ S -> ∃ ρ' S',b (ρ.set i (some (.int j))) S=some (.nx,ρ',S')/\P (j+1) ρ' S') :
  ∃ ρ' S',eo i (iR1 (aa a af)) b ρ S=some (.nx,ρ',S')/\P n ρ' S':=by
 rw [BI ha h]
 obtain⟨ρ',S',e,q⟩:=nQ (i:=i) (b:=b) P (bo 0 n) 0 ρ S h0 fun j u ρ S hj hp=>by
  have hl:j < n:=by have:=(ah.mp hj).1;simpa [bo] using this
  have hu:(bo 0 n)[j]? = some (.int j):=by simp [bo,hl]
  rw [hu] at hj;cases hj
  simpa using st j ρ S hl (by simpa using hp)
 have hlen:(bo 0 n).length=n:=by simp [bo]
 rw [hlen,d9] at q
 exact⟨ρ',S',e,q⟩
theorem append_eq {ρ:Rho}{S S1:Sto}{o a:ME}{r:Nat}{u:U}{row:List U} (ho:o ρ S=some (.ref r,S)) (ha:a ρ S=some (u,S1)) (hr:S[r]? = some (Cell.lst row)) (hr1:S1[r]? = some (Cell.lst row)) (hl:row.length < big) :
  df (mML cj o (aa a af)) ρ S=some (.nx,ρ,S1.set r (Cell.lst (row ++ [u]))):=by
 simp only [df,mML,ho,aG,getL,hr,ai,lU ha,cj,hr1,hl,if_true]
theorem jC {ρ:Rho}{S:Sto}{a:ME}{r:Nat}{row:List U} (ha:a ρ S=some (.ref r,S)) (hr:S[r]? = some (Cell.lst row)):mFn bD (aa a af) ρ S=some (.tup row,S):=by
 simp only [mFn,lU ha,aG,bD,dI,getL,hr,aV]
theorem build {fs rs is js:Nat}{L:List Nat}{ρ0:Rho}{S0:Sto}{bIn:MS}{a:ME}{m:Nat}{T:Nat->Nat->Nat} (hm:m < big) (h1:rs∈L) (h2:is∈L) (h3:js∈L) (h4:fs∉L) (d1:rs≠is) (d2:js≠is) (d3:js≠rs)
  (l1:rs < ρ0.length) (l2:is < ρ0.length) (l3:js < ρ0.length) (hf:ρ0[fs]? = some (some (.ref S0.length)))
  (ha : ∀ ρ S,Agr L ρ0 ρ->Sm S0.length S0 S->a ρ S=some (.int m,S))
  (hb : ∀ (i j r:Nat) (ρ:Rho) (S:Sto) (row:List U),i < m->j < m->Agr L ρ0 ρ->ρ[is]? = some (some (.int i))->ρ[js]? = some (some (.int j))->ρ[rs]? = some (some (.ref r))->Sm S0.length S0 S->S0.length < r->S[r]? = some (Cell.lst row)->row.length < big ->
   ∃ ρ' S',bIn ρ S=some (.nx,ρ',S')/\Agr L ρ0 ρ'/\ρ'[is]? = some (some (.int i))/\ρ'[rs]? = some (some (.ref r))/\Wr r S S'/\S'[r]? = some (Cell.lst (row ++ [.int (T i j)]))) :
  ∃ ρ' S',eo is (iR1 (aa a af)) (aZ (bA rs (cM af)) (aZ (eo js (iR1 (aa a af)) bIn) (df (mML cj (ab fs) (aa (mFn bD (aa (ab rs) af)) af))))) ρ0 (S0 ++ [Cell.lst []])=some (.nx,ρ',S') /\
   Agr L ρ0 ρ'/\Sm S0.length S0 S'/\S'[S0.length]? = some (Cell.lst ((aB m).map (ji m T))):=by
 have s0:Sm S0.length S0 (S0 ++ [Cell.lst []]):=Sm.ex (Ex.push _ _) (ak _)
 refine kT (P:=fun k ρ S=>Agr L ρ0 ρ/\Sm S0.length S0 S/\S0.length < S.length/\S[S0.length]? = some (Cell.lst ((aB k).map (ji m T)))) (ha _ _ (Agr.refl _ _) s0) hm ⟨Agr.refl _ _,s0,by simp,by rw [ar (ak _)];simp⟩ ?_ |>.imp fun ρ' h=>h.imp fun S' h=>⟨h.1,h.2.1,h.2.2.1,h.2.2.2.2⟩
 rintro i ρ S hi ⟨g1,g2,g3,g4⟩
 have r0:S.length < (S ++ [Cell.lst ([]:List U)]).length:=by simp
 have e0:bA rs (cM af) (ρ.set is (some (.int i))) S=some (.nx,(ρ.set is (some (.int i))).set rs (some (.ref S.length)),S ++ [Cell.lst []]):=by
  have hz:([]:List U).length<=big:=dB _
  simp only [bA,cM,af,aG,hz,if_true]
 have ga:Agr L ρ0 ((ρ.set is (some (.int i))).set rs (some (.ref S.length))):=(g1.set h2).set h1
 have gs:Sm S0.length S0 (S ++ [Cell.lst ([]:List U)]):=g2.trans (Sm.ex (Ex.push _ _) g2.len)
 obtain⟨ρ1,S1,e1,q1,q2,q3,q4,q5⟩:=kT (b:=bIn) (i:=js) (P:=fun k ρ1 S1=>Agr L ρ0 ρ1/\ρ1[is]? = some (some (.int i))/\ρ1[rs]? = some (some (.ref S.length))/\Wr S.length (S ++ [Cell.lst ([]:List U)]) S1/\S1[S.length]? = some (Cell.lst ((aB k).map fun j => .int (T i j))))
  (ha _ _ ga gs) hm ⟨ga,by rw [aF d1,nc (by rw [g1.1];exact l2)],by rw [nc (by rw [fj,g1.1];exact l1)],Wr.refl _ _,by rw [ar (ak _)];simp⟩ (by
   rintro j ρ1 S1 hj ⟨q1,q2,q3,q4,q5⟩
   have sm1:Sm S0.length S0 S1:=gs.trans (q4.sm (bG g3) (by simp;omega))
   obtain⟨ρ2,S2,f1,f2,f3,f4,f5,f6⟩:=hb i j S.length (ρ1.set js (some (.int j))) S1 _ hi hj (q1.set h3) (by rw [aF d2];exact q2) (nc (by rw [q1.1];exact l3)) (by rw [aF d3];exact q3) sm1 g3 q5 (by rw [av,bu];exact dk (by assumption) (by assumption))
   exact⟨ρ2,S2,f1,f2,f3,f4,q4.trans f5,by rw [f6,fk,bS];rfl⟩)
 have g5:S1[S0.length]? = some (Cell.lst ((aB i).map (ji m T))):=by
  rw [q4.same _ (by simp;exact j7 (by assumption)) (by exact aP (by assumption)),(Ex.push S _).get g3];exact g4
 have sm1:Sm S0.length S0 S1:=gs.trans (q4.sm (bG g3) (by simp;omega))
 have hfv:ab fs ρ1 S1=some (.ref S0.length,S1):=var_eq (by rw [q1.2 fs h4];exact hf)
 have e2:=append_eq (o:=ab fs) hfv (jC (a:=ab rs) (var_eq q3) q5) g5 g5 (by rw [av,bu];exact dk (by assumption) (by assumption))
 refine⟨ρ1,S1.set S0.length (Cell.lst ((aB (i+1)).map (ji m T))),?_,q1,sm1.set (ak _),?_,?_⟩
 ·simp only [aZ,e0,e1,e2]
  rw [fk,bS];rfl
 ·rw [fj];have:=q4.len;simp at this;exact dk (by assumption) (by assumption)
 ·exact aU (by have:=q4.len;simp at this;exact dk (by assumption) (by assumption))
noncomputable def pE:MS:=aZ (bA 5 (m2 oMod (m2 bW (m2 oMod (ab 2) (ab 0)) (m2 fZ (m2 oIx (cM (aa (mC (.int 1)) (aa (m1 eW (mC (.int 1))) af))) (m2 oDiv (ab 2) (ab 0))) (m2 oMod (ab 4) (ab 0)))) (ab 0))) (df (mML cj (ab 3) (aa (m2 bW (ab 5) (m2 fZ (ab 0) (m2 oMod (m2 bW (m2 oDiv (ab 2) (ab 0)) (m2 oDiv (ab 4) (ab 0))) (mC (.int 2))))) af)))
theorem zi {n i j c:Int}{f r:Nat}{x y:Option U}{S:Sto}{row:List U} (h0:0 < n) (hd:pW n) (hc:atI [U.int 1,U.int (-1)] (i / n)=some (.int c)) (k1:i9 c (j % n)) (k2:i9 n ((i / n+j / n) % 2))
  (hr:(S ++ [Cell.lst [U.int 1,U.int (-1)]])[r]? = some (Cell.lst row)) (hl:row.length < big) :
  pE ([some (U.int n),some (U.ref f),some (U.int i),some (U.ref r),x,y].set 4 (some (U.int j))) S =
   some (Fl.nx,[some (U.int n),some (U.ref f),some (U.int i),some (U.ref r),some (U.int j),some (U.int ((i % n+c*(j % n)) % n))],(S ++ [Cell.lst [U.int 1,U.int (-1)]]).set r (Cell.lst (row ++ [U.int ((i % n+c*(j % n)) % n+n*((i / n+j / n) % 2))]))):=by
 have hb2:2<=big:=by decide
 simp [pE,aZ,bA,m2,m1,ab,mC,cM,aa,af,bnd,oMod,bW,fZ,oDiv,oIx,fv,eW,dI,getL,h0,hd,hb2,hc,k1,k2,df,mML,cj,hr,hl]
theorem BH {n i j f r:Nat}{x y:Option U}{S:Sto}{row:List U} (hn:0 < n) (hn2:n < 1000) (hi:i < 2*n) (hj:j < 2*n) (hr:S[r]? = some (Cell.lst row)) (hl:row.length < big) :
  ∃ z,pE ([some (U.int n),some (U.ref f),some (U.int i),some (U.ref r),x,y].set 4 (some (U.int j))) S =
   some (Fl.nx,[some (U.int n),some (U.ref f),some (U.int i),some (U.ref r),some (U.int j),z],(S ++ [Cell.lst [U.int 1,U.int (-1)]]).set r (Cell.lst (row ++ [U.int (fX n i j:Nat)]))):=by
 have hd:=sH hn hn2
 have h0:(0:Int) < n:=by omega
 have hr2:=(Ex.push S (Cell.lst [U.int 1,U.int (-1)])).some hr
 have hk:i9 (n:Int) (((i:Int) / n+j / n) % 2):=so (by exact ae (by assumption) (by decide))
 have hc : ∃ c:Int,atI [U.int 1,U.int (-1)] ((i:Int) / n)=some (.int c)/\i9 c ((j:Int) % n)/\((i:Int) % n+c*((j:Int) % n)) % n+n*(((i:Int) / n+j / n) % 2)=(fX n i j:Nat):=by
  rcases half hi with⟨h1,h2,h3⟩ | ⟨h1,h2,h3⟩
  ·refine⟨1,?_,pz (by decide) (by decide),?_⟩
   ·have:(i:Int) / n=0:=by rw [<- uC,h3];rfl
    rw [this];rfl
   ·unfold fX
    rw [if_pos h1,Int.one_mul]
    push_cast
    rfl
  ·refine⟨-1,?_,pz (by decide) (by decide),?_⟩
   ·have:(i:Int) / n=1:=by rw [<- uC,h3];rfl
    rw [this];rfl
   ·unfold fX
    have hjm:j % n < n:=qX _ hn
    rw [if_neg (by omega)]
    have e1:((i:Int) % n + -1*((j:Int) % n)) % n=((i % n+(n - j % n)) % n:Nat):=by
     have e2:((n - j % n:Nat):Int)=(n:Int) - (j:Int) % n:=by omega
     rw [lJ,wC,e2,lJ]
     rw [show (i:Int) % n+((n:Int) - (j:Int) % n)=((i:Int) % n + -1*((j:Int) % n))+n by omega,Int.add_emod_right]
    rw [e1]
    push_cast
    rfl
 obtain⟨c,c1,c2,c3⟩:=hc
 rw [<- c3]
 exact⟨_,zi h0 hd c1 c2 hk hr2 hl⟩
end
end W
end
section
namespace W
open L2 G
section
theorem aY {a b:MS}{ρ ρ1:Rho}{S S1:Sto} (h:a ρ S=some (.nx,ρ1,S1)):aZ a b ρ S=b ρ1 S1:=by simp only [aZ,h]
theorem cx {e:ME}{ρ:Rho}{S S1:Sto}{u:U} (h:e ρ S=some (u,S1)):bV e ρ S=some (.rt u,ρ,S1):=by simp only [bV,h,aG]
theorem bO {e:ME}{ρ:Rho}{S S1:Sto}{u:U}{i:Nat} (h:e ρ S=some (u,S1)):bA i e ρ S=some (.nx,ρ.set i (some u),S1):=by simp only [bA,h,aG]
theorem i5 {ρ:Rho}{S:Sto}:cM af ρ S=some (.ref S.length,S ++ [Cell.lst []]):=by
 have hz:([]:List U).length<=big:=dB _
 simp only [cM,af,aG,hz,if_true]
theorem cy {k n:Nat}{b:MS}{us:List U}{S S1:Sto}{u:U}{ρ:Rho} (hl:us.length=k) (h:b (us.map some++aK (n - k) none) S=some (.rt u,ρ,S1)):G.run k n b us S=some (u,S1):=by
 simp only [G.run,hl,if_true,h]
theorem Sm.toEx {S S':Sto} (h:Sm S.length S S'):Ex S S':=by
 refine⟨S'.drop S.length,List.ext_getElem? fun i => ?_⟩
 by_cases hi:i < S.length
 ·rw [aI hi];exact h.same i hi
 ·rw [ar (by exact eN (by assumption)),List.getElem?_drop];congr 1;omega
theorem Lm {ρ:Rho} (h:ρ.length=6) : ∃ a b c d e f,ρ = [a,b,c,d,e,f]:=by
 match ρ,h with
 | [a,b,c,d,e,f],_=>exact⟨a,b,c,d,e,f,rfl⟩
theorem vR {n:Nat}{S:Sto} (hn:0 < n) (hn2:n < 1000) : ∃ S',eV [.int n] S=some (tab (2*n) (fX n),S')/\Ex S S':=by
 have hbig:2*n < big:=by unfold big;omega
 obtain⟨ρ1,S1,e1,q1,q2,q3⟩:=build (fs:=1) (rs:=3) (is:=2) (js:=4) (L := [2,3,4,5]) (ρ0 := [some (.int n),some (.ref S.length),none,none,none,none]) (S0:=S) (bIn:=pE) (a:=m2 fZ (mC (.int 2)) (ab 0)) (m:=2*n) (T:=fX n)
  hbig (by decide) (by decide) (by decide) (by decide) (by decide) (by decide) (by decide) (by simp) (by simp) (by simp) rfl
  (fun ρ S' g s=>by
   have h0:ρ[0]? = some (some (.int n)):=g.2 0 (by decide)
   have hk:i9 2 (n:Int):=pz (by decide) (by decide)
   simp only [m2,mC,aG,var_eq h0,fZ,hk,if_true]
   rfl)
  (fun i j r ρ S' row hi hj g gi gj gr s hr he hl=>by
   obtain⟨a,b,c,d,e,f,rfl⟩:=Lm g.1
   have h0:some a=some (some (.int n)):=g.2 0 (by decide)
   have h1:some b=some (some (.ref S.length)):=g.2 1 (by decide)
   simp only [eP,Ai,ly] at h0 h1 gi gj gr
   subst h0 h1 gi gj gr
   obtain⟨z,ez⟩:=BH (f:=S.length) (x:=none) (y:=f) hn hn2 hi hj he hl
   refine⟨_,_,ez,⟨rfl,fun k hk => ?_⟩,rfl,rfl,(Wr.ex (Ex.push _ _)).trans (Wr.set _ _ _),?_⟩
   ·match k with
    | 0=>rfl
    | 1=>rfl
    | 2=>exact absurd (by decide) hk
    | 3=>exact absurd (by decide) hk
    | 4=>exact absurd (by decide) hk
    | 5=>exact absurd (by decide) hk
    | k+6=>rfl
   ·exact aU (by have:=(ah.mp he).1;simp;exact j7 (by assumption)))
 have e2:mFn bD (aa (ab 1) af) ρ1 S1=some (tab (2*n) (fX n),S1):=jC (var_eq (by rw [q1.2 1 (by decide)];rfl)) q3
 refine⟨S1,cy (ρ:=ρ1) rfl ?_,?_⟩
 ·show ko [some (.int n),none,none,none,none,none] S=_
  exact (aY (bO i5)).trans ((aY e1).trans (cx e2))
 ·exact q2.toEx
end
end W
end
section
namespace W
open L2 G
section
section
variable {ρ:Rho}{S S1 S2:Sto}{a b:ME}
theorem op2 {f:F2}{x y:U}{r:Res U} (ha:a ρ S=some (x,S1)) (hb:b ρ S1=some (y,S2)) (h:f x y S2=r):m2 f a b ρ S=r:=by simp only [m2,ha,hb,aG,h]
theorem wZ {us:List U}{z:Int}{u:U} (ha:a ρ S=some (.tup us,S1)) (hb:b ρ S1=some (.int z,S2)) (h:atI us z=some u):m2 oIx a b ρ S=some (u,S2):=op2 ha hb (by simp only [oIx,fv,dI,ai,h,aV])
theorem EK {n:Nat}{us:List U}{z:Int}{u:U} (ha:a ρ S=some (.ref n,S1)) (hb:b ρ S1=some (.int z,S2)) (hn:S2[n]? = some (Cell.lst us)) (h:atI us z=some u):m2 oIx a b ρ S=some (u,S2):=op2 ha hb (by simp only [oIx,fv,dI,getL,hn,ai,h,aV])
theorem Jj {x y:Int} (ha:a ρ S=some (.int x,S1)) (hb:b ρ S1=some (.int y,S2)):m2 bW a b ρ S=some (.int (x+y),S2):=op2 ha hb rfl
theorem Bv {x y:Int} (ha:a ρ S=some (.int x,S1)) (hb:b ρ S1=some (.int y,S2)):m2 mm a b ρ S=some (.int (x - y),S2):=op2 ha hb rfl
theorem KB {x y:Int} (ha:a ρ S=some (.int x,S1)) (hb:b ρ S1=some (.int y,S2)) (h:i9 x y):m2 fZ a b ρ S=some (.int (x*y),S2):=op2 ha hb (if_pos h)
theorem JE {x y:Int} (ha:a ρ S=some (.int x,S1)) (hb:b ρ S1=some (.int y,S2)) (h:pW y):m2 oDiv a b ρ S=some (.int (x / y),S2):=op2 ha hb (if_pos h)
theorem Fi {x y:Int} (ha:a ρ S=some (.int x,S1)) (hb:b ρ S1=some (.int y,S2)) (h:0 < y):m2 oMod a b ρ S=some (.int (x % y),S2):=op2 ha hb (if_pos h)
theorem c_i {z:Int}:mC (.int z) ρ S=some (.int z,S):=rfl
theorem ve {us:List U} (ha:a ρ S=some (.tup us,S1)):mFn bF (aa a af) ρ S=some (.int us.length,S1):=by
 simp only [mFn,lU ha,aG,bF,fv,dI,aV]
theorem len_tab {m:Nat}{T:Nat->Nat->Nat} (ha:a ρ S=some (tab m T,S1)):mFn bF (aa a af) ρ S=some (.int m,S1):=by
 rw [ve (us:=(aB m).map (ji m T)) ha,av,bu]
theorem jK {m i:Nat}{T:Nat->Nat->Nat} (hi:i < m) (ha:a ρ S=some (tab m T,S1)) (hb:b ρ S1=some (.int i,S2)):m2 oIx a b ρ S=some (ji m T i,S2):=wZ ha hb (lg hi)
theorem kA {m i j:Nat}{T:Nat->Nat->Nat} (hj:j < m) (ha:a ρ S=some (ji m T i,S1)) (hb:b ρ S1=some (.int j,S2)):m2 oIx a b ρ S=some (.int (T i j),S2):=wZ ha hb (lg hj)
theorem tq {x y:Nat} (ha:a ρ S=some (.int x,S1)) (hb:b ρ S1=some (.int y,S2)) (h:0 < y) (h2:y < 1000):m2 oDiv a b ρ S=some (.int (x / y:Nat),S2):=by rw [JE ha hb (sH h h2),uC]
theorem AW {x y:Nat} (ha:a ρ S=some (.int x,S1)) (hb:b ρ S1=some (.int y,S2)) (h:0 < y):m2 oMod a b ρ S=some (.int (x % y:Nat),S2):=by rw [Fi ha hb (by omega),lJ]
theorem CC {x y:Nat} (ha:a ρ S=some (.int x,S1)) (hb:b ρ S1=some (.int y,S2)) (h:x < 1000000):m2 fZ a b ρ S=some (.int (x*y:Nat),S2):=by rw [KB ha hb (so h),Int.natCast_mul]
theorem add_n {x y:Nat} (ha:a ρ S=some (.int x,S1)) (hb:b ρ S1=some (.int y,S2)):m2 bW a b ρ S=some (.int (x+y:Nat),S2):=by rw [Jj ha hb,wC]
end
theorem Agr.of {L:List Nat}{ρ0 ρ:Rho}{i:Nat}{v:Option U} (h:Agr L ρ0 ρ) (hi:i∉L) (e:ρ0[i]? = some v):ρ[i]? = some v:=(h.2 i hi).trans e
noncomputable def Hb:MS:=aZ (bA 7 (m2 oIx (m2 oIx (ab 0) (m2 oDiv (ab 4) (ab 2))) (m2 oDiv (ab 6) (ab 2)))) (df (mML cj (ab 5) (aa (m2 bW (m2 fZ (ab 7) (ab 2)) (m2 oIx (m2 oIx (ab 1) (m2 oMod (ab 4) (ab 2))) (m2 oMod (ab 6) (ab 2)))) af)))
theorem DO {k m:Nat}{A B:Nat->Nat->Nat}{S:Sto} (hk:0 < k) (hk2:k < 1000) (hm:0 < m) (hm2:m < 1000) (ca : ∀ i j,i < k->j < k->A i j < k) : ∃ S',jV [tab k A,tab m B] S=some (tab (k*m) (mZ m A B),S')/\Ex S S':=by
 have hkm:k*m < 1000000:=by
  calc k*m<=999*m:=fT m (by exact ee (by assumption))
   _<=999*999:=Nat.mul_le_mul_left 999 (by exact ee (by assumption))
   _ < 1000000:=by decide
 have hbig:k*m < big:=by unfold big;exact ae (by assumption) (by decide)
 have dl : ∀ i,i < k*m->i / m < k:=fun i hi=>Nat.div_lt_of_lt_mul (by rw [jH];exact hi)
 have rl : ∀ i,i % m < m:=fun i=>qX _ hm
 obtain⟨ρ1,S1,e1,q1,q2,q3⟩:=build (fs:=3) (rs:=5) (is:=4) (js:=6) (L := [4,5,6,7]) (ρ0 := [some (tab k A),some (tab m B),some (.int m),some (.ref S.length),none,none,none,none]) (S0:=S) (bIn:=Hb) (a:=m2 fZ (mFn bF (aa (ab 0) af)) (ab 2)) (m:=k*m) (T:=mZ m A B)
  hbig (by decide) (by decide) (by decide) (by decide) (by decide) (by decide) (by decide) (by simp) (by simp) (by simp) rfl
  (fun ρ S' g s=>CC (len_tab (var_eq (g.of (by decide) rfl))) (var_eq (g.of (by decide) rfl)) (by exact ae (by assumption) (by decide)))
  (fun i j r ρ S' row hi hj g gi gj gr s hr he hl=>by
   have v0 : ∀ S',ab 0 ρ S'=some (tab k A,S'):=fun S'=>var_eq (g.of (by decide) rfl)
   have v2 : ∀ S',ab 2 ρ S'=some (.int m,S'):=fun S'=>var_eq (g.of (by decide) rfl)
   have e7:m2 oIx (m2 oIx (ab 0) (m2 oDiv (ab 4) (ab 2))) (m2 oDiv (ab 6) (ab 2)) ρ S'=some (.int (A (i / m) (j / m)),S'):=
    kA (dl j hj) (jK (dl i hi) (v0 _) (tq (var_eq gi) (v2 _) hm hm2)) (tq (var_eq gj) (v2 _) hm hm2)
   have hlen:ρ.length=8:=g.1
   have g':Agr [4,5,6,7] _ (ρ.set 7 (some (.int (A (i / m) (j / m))))):=g.set (by decide)
   have w2 : ∀ S',ab 2 (ρ.set 7 (some (.int (A (i / m) (j / m))))) S'=some (.int m,S'):=fun S'=>var_eq (g'.of (by decide) rfl)
   have w1 : ∀ S',ab 1 (ρ.set 7 (some (.int (A (i / m) (j / m))))) S'=some (tab m B,S'):=fun S'=>var_eq (g'.of (by decide) rfl)
   have w7 : ∀ S',ab 7 (ρ.set 7 (some (.int (A (i / m) (j / m))))) S'=some (.int (A (i / m) (j / m)),S'):=fun S'=>var_eq (nc (by omega))
   have n4:(ρ.set 7 (some (.int (A (i / m) (j / m)))))[4]? = some (some (.int i)):=by rw [aF (by decide)];exact gi
   have n5:(ρ.set 7 (some (.int (A (i / m) (j / m)))))[5]? = some (some (.ref r)):=by rw [aF (by decide)];exact gr
   have n6:(ρ.set 7 (some (.int (A (i / m) (j / m)))))[6]? = some (some (.int j)):=by rw [aF (by decide)];exact gj
   have hA:A (i / m) (j / m) < 1000000:=dk (ca _ _ (dl i hi) (dl j hj)) (by exact ae (by assumption) (by decide))
   have ev:m2 bW (m2 fZ (ab 7) (ab 2)) (m2 oIx (m2 oIx (ab 1) (m2 oMod (ab 4) (ab 2))) (m2 oMod (ab 6) (ab 2))) (ρ.set 7 (some (.int (A (i / m) (j / m))))) S'=some (.int (mZ m A B i j:Nat),S'):=
    add_n (CC (w7 _) (w2 _) hA) (kA (rl j) (jK (rl i) (w1 _) (AW (var_eq n4) (w2 _) hm)) (AW (var_eq n6) (w2 _) hm))
   exact⟨_,_,(aY (bO e7)).trans (append_eq (var_eq n5) ev he he hl),g',n4,n5,Wr.set _ _ _,aU (ah.mp he).1⟩)
 have e2:mFn bD (aa (ab 3) af) ρ1 S1=some (tab (k*m) (mZ m A B),S1):=jC (var_eq (q1.of (by decide) rfl)) q3
 refine⟨S1,cy (ρ:=ρ1) rfl ?_,q2.toEx⟩
 show mK [some (tab k A),some (tab m B),none,none,none,none,none,none] S=_
 exact (aY (bO (len_tab (var_eq rfl)))).trans ((aY (bO i5)).trans ((aY e1).trans (cx e2)))
end
end W
end
section
namespace W
open L2 G
section
noncomputable def oa:Nat->Nat->Nat:=fun a b=>([[0,0,0,0],[0,1,0,1],[0,1,1,0],[0,0,1,1]].getD a []).getD b 0
noncomputable def xy:Nat->Nat->Nat:=fun a b=>([[0,1,2,3],[1,0,3,2],[2,3,0,1],[3,2,1,0]].getD a []).getD b 0
noncomputable def uN (i j:Nat):Nat:=2*xy (i / 2) (j / 2)+(i+j+oa (i / 2) (j / 2)) % 2
theorem Cj:((aB 8).all fun i=>(aB 8).all fun j=>uN i j == fB i j)=true:=by decide +kernel
theorem zQ {i j:Nat} (hi:i < 8) (hj:j < 8):uN i j=fB i j:=by
 have h:=bH.mp (bH.mp Cj i (br.mpr hi)) j (br.mpr hj)
 exact eq_of_beq h
noncomputable def Df:MS:=aZ (bA 6 (m2 oMod (m2 bW (m2 bW (ab 3) (ab 5)) (m2 oIx (m2 oIx (ab 0) (m2 oDiv (ab 3) (mC (.int 2)))) (m2 oDiv (ab 5) (mC (.int 2))))) (mC (.int 2)))) (df (mML cj (ab 4) (aa (m2 bW (m2 fZ (mC (.int 2)) (m2 oIx (m2 oIx (ab 1) (m2 oDiv (ab 3) (mC (.int 2)))) (m2 oDiv (ab 5) (mC (.int 2))))) (ab 6)) af)))
noncomputable def qK (T:Nat->Nat->Nat) (a:Nat):Cell := .lst ((aB 4).map fun b => .int (T a b))
noncomputable def AF (s:Nat):Cell := .lst ((aB 4).map fun a => .ref (s+a))
noncomputable def ten (s:Nat):Sto := [qK oa 0,qK oa 1,qK oa 2,qK oa 3,AF s,qK xy 0,qK xy 1,qK xy 2,qK xy 3,AF (s+5)]
theorem look {S S':Sto}{n k:Nat}{c:Cell} (s:Sm (S++ten S.length).length (S++ten S.length) S') (hk:(ten S.length)[k]? = some c) (hn:n=S.length+k):S'[n]? = some c:=by
 have hl:k < (ten S.length).length:=(ah.mp hk).1
 rw [s.same n (by rw [aH];omega),ar (by omega),hn]
 rw [show S.length+k - S.length=k by omega];exact hk
theorem vU {S S':Sto}{ρ:Rho}{v p q x y:Nat}{T:Nat->Nat->Nat} (hv:ρ[v]? = some (some (.ref x))) (hx:S'[x]? = some (AF y)) (hy : ∀ a,a < 4->S'[y+a]? = some (qK T a)) {i j:Nat} (hi:ρ[p]? = some (some (.int i))) (hj:ρ[q]? = some (some (.int j))) (li:i < 8) (lj:j < 8) :
  m2 oIx (m2 oIx (ab v) (m2 oDiv (ab p) (mC (.int 2)))) (m2 oDiv (ab q) (mC (.int 2))) ρ S'=some (.int (T (i / 2) (j / 2)),S'):=
 EK (EK (var_eq hv) (tq (y:=2) (var_eq hi) c_i (by decide) (by decide)) hx (lg (by omega))) (tq (y:=2) (var_eq hj) c_i (by decide) (by decide)) (hy _ (by omega)) (lg (by omega))
theorem ja {ρ:Rho}{S:Sto}{x y z w:Int}:cM (aa (mC (.int x)) (aa (mC (.int y)) (aa (mC (.int z)) (aa (mC (.int w)) af)))) ρ S=some (.ref S.length,S ++ [Cell.lst [.int x,.int y,.int z,.int w]]):=by
 have hz:4<=big:=by decide
 simp [cM,aa,mC,af,aG,hz]
theorem vm {ρ:Rho}{S S1 S2 S3 S4:Sto}{a b c d:ME}{x y z w:U} (ha:a ρ S=some (x,S1)) (hb:b ρ S1=some (y,S2)) (hc:c ρ S2=some (z,S3)) (hd:d ρ S3=some (w,S4)) :
  cM (aa a (aa b (aa c (aa d af)))) ρ S=some (.ref S4.length,S4 ++ [Cell.lst [x,y,z,w]]):=by
 have hz:4<=big:=by decide
 simp only [cM,aa,af,aG,ha,hb,hc,hd]
 simp [hz]
theorem wM {S:Sto} : ∃ S',fH [] S=some (tab 8 fB,S')/\Ex S S':=by
 have e0:=vm (ρ := [none,none,none,none,none,none,none]) (S:=S) (ja (x:=0) (y:=0) (z:=0) (w:=0)) (ja (x:=0) (y:=1) (z:=0) (w:=1)) (ja (x:=0) (y:=1) (z:=1) (w:=0)) (ja (x:=0) (y:=0) (z:=1) (w:=1))
 have e1:=vm (ρ := [some (.ref (S.length+4)),none,none,none,none,none,none]) (S:=S++(ten S.length).take 5) (ja (x:=0) (y:=1) (z:=2) (w:=3)) (ja (x:=1) (y:=0) (z:=3) (w:=2)) (ja (x:=2) (y:=3) (z:=0) (w:=1)) (ja (x:=3) (y:=2) (z:=1) (w:=0))
 have e0':=e0.trans (b:=_) (c:=some (U.ref (S.length+4),S++(ten S.length).take 5)) (by simp only [aM,aH];rfl)
 have e1':=e1.trans (b:=_) (c:=some (U.ref (S.length+9),S++ten S.length)) (by simp only [aM,aH];rfl)
 obtain⟨ρ1,S1,f1,q1,q2,q3⟩:=build (fs:=2) (rs:=4) (is:=3) (js:=5) (L := [3,4,5,6]) (ρ0 := [some (.ref (S.length+4)),some (.ref (S.length+9)),some (.ref (S++ten S.length).length),none,none,none,none]) (S0:=S++ten S.length) (bIn:=Df) (a:=mC (.int 8)) (m:=8) (T:=fB)
  (by decide) (by decide) (by decide) (by decide) (by decide) (by decide) (by decide) (by decide) (by simp) (by simp) (by simp) rfl
  (fun ρ S' g s=>rfl)
  (fun i j r ρ S' row hi hj g gi gj gr s hr he hl=>by
   have hlen:ρ.length=7:=g.1
   have hs : ∀ a,a < 4->S'[S.length+a]? = some (qK oa a):=fun a ha=>look (k:=a) s (by match a,ha with | 0,_=>rfl | 1,_=>rfl | 2,_=>rfl | 3,_=>rfl) rfl
   have hkk : ∀ a,a < 4->S'[S.length+5+a]? = some (qK xy a):=fun a ha=>look (k:=5+a) s (by match a,ha with | 0,_=>rfl | 1,_=>rfl | 2,_=>rfl | 3,_=>rfl) (by omega)
   have t1:=vU (S:=S) (T:=oa) (v:=0) (g.of (by decide) rfl) (look (k:=4) s rfl rfl) hs gi gj hi hj
   have e6:m2 oMod (m2 bW (m2 bW (ab 3) (ab 5)) (m2 oIx (m2 oIx (ab 0) (m2 oDiv (ab 3) (mC (.int 2)))) (m2 oDiv (ab 5) (mC (.int 2))))) (mC (.int 2)) ρ S'=some (.int ((i+j+oa (i / 2) (j / 2)) % 2:Nat),S'):=
    AW (y:=2) (add_n (add_n (var_eq gi) (var_eq gj)) t1) c_i (by decide)
   have g':Agr [3,4,5,6] _ (ρ.set 6 (some (.int ((i+j+oa (i / 2) (j / 2)) % 2:Nat)))):=g.set (by decide)
   have n3:(ρ.set 6 (some (.int ((i+j+oa (i / 2) (j / 2)) % 2:Nat))))[3]? = some (some (.int i)):=by rw [aF (by decide)];exact gi
   have n4:(ρ.set 6 (some (.int ((i+j+oa (i / 2) (j / 2)) % 2:Nat))))[4]? = some (some (.ref r)):=by rw [aF (by decide)];exact gr
   have n5:(ρ.set 6 (some (.int ((i+j+oa (i / 2) (j / 2)) % 2:Nat))))[5]? = some (some (.int j)):=by rw [aF (by decide)];exact gj
   have t2:=vU (S:=S) (T:=xy) (v:=1) (g'.of (by decide) rfl) (look (k:=9) s rfl rfl) hkk n3 n5 hi hj
   have ev:m2 bW (m2 fZ (mC (.int 2)) (m2 oIx (m2 oIx (ab 1) (m2 oDiv (ab 3) (mC (.int 2)))) (m2 oDiv (ab 5) (mC (.int 2))))) (ab 6) (ρ.set 6 (some (.int ((i+j+oa (i / 2) (j / 2)) % 2:Nat)))) S'=some (.int (fB i j:Nat),S'):=by
    rw [<- zQ hi hj]
    exact add_n (CC (x:=2) c_i t2 (by decide)) (var_eq (nc (by omega)))
   exact⟨_,_,(aY (bO e6)).trans (append_eq (var_eq n4) ev he he hl),g',n3,n4,Wr.set _ _ _,aU (ah.mp he).1⟩)
 have f2:mFn bD (aa (ab 2) af) ρ1 S1=some (tab 8 fB,S1):=jC (var_eq (q1.of (by decide) rfl)) q3
 refine⟨S1,cy (ρ:=ρ1) rfl ?_,Ex.trans ⟨ten S.length,rfl⟩ q2.toEx⟩
 show jl [none,none,none,none,none,none,none] S=_
 exact (aY (bO e0')).trans ((aY (bO e1')).trans ((aY (bO i5)).trans ((aY f1).trans (cx f2))))
end
end W
end
section
namespace W
open L2 G
section
theorem sW {e:ME}{ρ:Rho} (P:List U->Sto->Prop) : ∀ (us acc:List U) (S:Sto),P acc S ->
  (∀ (k:Nat) (acc':List U) (u:U) (S:Sto),us[k]? = some u->acc'.length=acc.length+k->P acc' S -> ∃ v S',e (ρ ++ [some u]) S=some (v,S')/\P (acc' ++ [v]) S') ->
  ∃ ys S',gH cTT e ρ us acc S=some (ys,S')/\P ys S'/\ys.length=acc.length+us.length
 | [],acc,S,h,_=>⟨acc,S,rfl,h,by simp⟩
 | u::us,acc,S,h,st=>by
   obtain⟨v,S1,e1,h1⟩:=st 0 acc u S rfl (by simp) h
   obtain⟨ys,S2,e2,h2,h3⟩:=sW P us (acc ++ [v]) S1 h1 fun k acc' w S hk hl hp=>st (k+1) acc' w S (by simpa using hk) (by simp at hl;omega) hp
   refine⟨ys,S2,?_,h2,by simp at h3 ⊢;omega⟩
   show bnd (cTT (ρ ++ [some u]) S) _=_
   simp only [cTT,aG,if_true]
   rw [e1]
   exact e2
theorem sr {ρ:Rho}{S S0:Sto}{a e:ME}{n:Nat} (ha:a ρ S=some (.int n,S0)) (hn:n < big) (P:List U->Sto->Prop) (h0:P [] S0)
  (hs : ∀ (k:Nat) (acc:List U) (S:Sto),k < n->acc.length=k->P acc S -> ∃ v S',e (ρ ++ [some (.int k)]) S=some (v,S')/\P (acc ++ [v]) S') :
  ∃ ys S',mFn bD (aa (bZ (iR1 (aa a af)) cTT e) af) ρ S=some (.tup ys,S' ++ [.lst ys])/\P ys S'/\ys.length=n:=by
 obtain⟨ys,S1,e1,h1,h2⟩:=sW (e:=e) (ρ:=ρ) P (bo 0 n) [] S0 h0 fun k acc u S hk hl hp=>by
  have hlt:k < n:=by have:=(ah.mp hk).1;simpa [bo] using this
  have hu:(bo 0 n)[k]? = some (.int k):=by simp [bo,hlt]
  rw [hu] at hk;cases hk
  exact hs k acc S hlt (by simpa using hl) hp
 have hlen:(bo 0 n).length=n:=by simp [bo]
 rw [hlen] at h2
 simp only [cH,d9] at h2
 exact⟨ys,S1,dQ (nv (nN ha hn) e1 (by rw [h2];exact hn)),h1,h2⟩
theorem Stp.set {n r:Nat}{S S':Sto}{c:Cell} (h:Stp n S S') (hr:S.length<=r) (hn:r≠n):Stp n S (S'.set r c):=by
 refine⟨by rw [fj];exact h.len,fun m h1 h2=>by rw [aF (by omega)];exact h.same m h1 h2,?_⟩
 obtain⟨s,b,e⟩:=h.st
 exact⟨s,b,by rw [aF hn];exact e⟩
theorem Stp.step {n:Nat}{S S1 S2:Sto} (a:Stp n S S1) (e:Ex S1 S2):Stp n S S2:=a.trans (Stp.ex a.st e)
theorem b0 {f:MF}{ρ:Rho}{S S1 S2:Sto}{a b:ME}{x y:U}{r:Res U} (ha:a ρ S=some (x,S1)) (hb:b ρ S1=some (y,S2)) (h:f [x,y] S2=r):mFn f (aa a (aa b af)) ρ S=r:=by
 simp only [mFn,aa,af,ha,hb,aG,h]
theorem jd {f:MF}{ρ:Rho}{S S1:Sto}{a:ME}{x:U}{r:Res U} (ha:a ρ S=some (x,S1)) (h:f [x] S1=r):mFn f (aa a af) ρ S=r:=by
 simp only [mFn,lU ha,aG,h]
theorem vG {ρ:Rho}{S:Sto}{a:ME}{r:Nat}{us:List U} (ha:a ρ S=some (.ref r,S)) (hr:S[r]? = some (Cell.lst us)):mFn bF (aa a af) ρ S=some (.int us.length,S):=
 jd ha (by simp only [bF,fv,dI,getL,hr,aV])
theorem sf {α β:Type} (f:α->β) : ∀ (l:List α) (j:Nat),(l.map f).eraseIdx j=(l.eraseIdx j).map f
 | [],_=>rfl
 | _::_,0=>rfl
 | x::l,j+1=>by simp [sf f l j]
noncomputable def ao (l:List Nat):List U:=l.map fun (x:Nat)=>U.int x
theorem wq {ρ:Rho}{S S1:Sto}{o a:ME}{r:Nat}{l:List Nat}{j:Nat} (ho:o ρ S=some (.ref r,S)) (ha:a ρ S=some (.int j,S1)) (hr:S[r]? = some (Cell.lst (ao l))) (hr1:S1[r]? = some (Cell.lst (ao l))) (hj:j < l.length) (hl:l.length < big) :
  mML jj o (aa a af) ρ S=some (.int l[j],S1.set r (Cell.lst (ao (l.eraseIdx j)))):=by
 have hok:okR (j:Int):=pd (by exact dk (by assumption) (by assumption))
 have hx:ixN (ao l).length (j:Int)=some j:=by
  have:(ao l).length=l.length:=by simp [ao]
  rw [this];simp [ixN,hj]
 have hg:(ao l)[j]? = some (.int l[j]):=by simp [ao,hj]
 have he:(ao l).eraseIdx j=ao (l.eraseIdx j):=sf _ _ _
 simp only [mML,ho,aG,getL,hr,ai,lU ha,jj,hr1,hok,if_true,hx,hg,aV,he]
theorem sk {ρ:Rho}{S:Sto}{a b:ME}{i j:Int} (ha:a ρ S=some (.int i,S)) (hb:b ρ S=some (.int j,S)) (h1:okR i) (h2:okR j) (hz:(bo i (j - i).toNat).length<=big):gU (iR2 (aa a (aa b af))) ρ S=some (.ref S.length,S ++ [Cell.lst (bo i (j - i).toNat)]):=by
 have e:iR2 (aa a (aa b af)) ρ S=some (.imm (bo i (j - i).toNat),S):=by
  unfold iR2
  simp only [aa,af,ha,hb,aG]
  exact if_pos ⟨h1,h2⟩
 simp only [gU,e,aG,hz,if_true]
theorem cat_t {ρ:Rho}{S S1 S2:Sto}{a b:ME}{xs ys:List U} (ha:a ρ S=some (.tup xs,S1)) (hb:b ρ S1=some (.tup ys,S2)) (hz:xs.length+ys.length<=big):m2 bW a b ρ S=some (.tup (xs++ys),S2):=op2 ha hb (by simp only [bW,hz,if_true])
theorem jN (m:Nat) (hm:0 < m):bo 1 ((m:Int) - 1).toNat=ao (bM 1 (m - 1)):=by
 have e:((m:Int) - 1).toNat=m - 1:=by omega
 rw [e]
 unfold bo ao
 rw [List.range'_eq_map_range,bL]
 apply aT
 intro k _
 simp
theorem wm {n m:Nat}{S:Sto} (h:lD n S) (hm:0 < m) (hm2:m < 1000) : ∃ l S',eY [.ref n,.int m] S=some (.tup (ao l),S')/\Stp n S S'/\lF m l:=by
 have hn:=h.lt
 have hbig:m < big:=by unfold big;exact ae (by assumption) (by decide)
 have e0:gU (iR2 (aa (mC (.int 1)) (aa (ab 1) af))) [some (.ref n),some (.int m),none] S=some (.ref S.length,S ++ [Cell.lst (ao (bM 1 (m - 1)))]):=by
  rw [sk (i:=1) (j:=m) rfl (var_eq rfl) ⟨by decide,by decide⟩ (pd hbig) (by rw [jN m hm];simp [ao];omega),jN m hm]
 have st0:Stp n S (S ++ [Cell.lst (ao (bM 1 (m - 1)))]):=Stp.ex h (Ex.push _ _)
 obtain⟨ys,S1,e1,⟨tk,rem,rfl,q1,q2,q3⟩,e2⟩:=sr (ρ := [some (.ref n),some (.int m),some (.ref S.length)]) (S:=S ++ [Cell.lst (ao (bM 1 (m - 1)))]) (S0:=S ++ [Cell.lst (ao (bM 1 (m - 1)))])
  (a:=m2 mm (ab 1) (mC (.int 1))) (e:=mML jj (ab 2) (aa (mFn aL (aa (ab 0) (aa (mFn bF (aa (ab 2) af)) af))) af)) (n:=m - 1)
  (by rw [Bv (var_eq rfl) c_i];congr 3;omega) (by omega)
  (fun acc S' => ∃ tk rem:List Nat,acc=ao tk/\S'[S.length]? = some (Cell.lst (ao rem))/\(tk++rem).Perm (bM 1 (m - 1))/\Stp n S S')
  ⟨[],bM 1 (m - 1),rfl,by rw [ar (ak _)];simp,by simp,st0⟩
  (by
   rintro k acc S' hk hl ⟨tk,rem,rfl,q1,q2,q3⟩
   have htk:tk.length=k:=by simpa [ao] using hl
   have hrem:rem.length=m - 1 - k:=by
    have:=q2.length_eq
    simp at this;omega
   obtain⟨r,S2,t1,t2,t3,t4,t5⟩:=yO (many:=(rem.length:Int)) q3.st (by omega) (by omega)
   obtain⟨j,rfl⟩:=An t2
   have hj:j < rem.length:=by omega
   have ho : ∀ S',ab 2 ([some (U.ref n),some (.int m),some (.ref S.length)] ++ [some (.int k)]) S'=some (.ref S.length,S'):=fun S'=>var_eq rfl
   have hv : ∀ S',ab 0 ([some (U.ref n),some (.int m),some (.ref S.length)] ++ [some (.int k)]) S'=some (.ref n,S'):=fun S'=>var_eq rfl
   have hlen:mFn bF (aa (ab 2) af) ([some (U.ref n),some (.int m),some (.ref S.length)] ++ [some (.int k)]) S'=some (.int rem.length,S'):=by
    rw [vG (ho _) q1];simp [ao]
   have q1':S2[S.length]? = some (Cell.lst (ao rem)):=t4.some (by exact cZ (by assumption)) q1
   refine⟨_,_,wq (ho _) (b0 (hv _) hlen t1) q1 q1' hj (by omega),tk ++ [rem[j]],rem.eraseIdx j,by simp [ao],?_,?_,?_⟩
   ·exact aU (ah.mp q1').1
   ·refine CZ ?_ q2
    rw [aM]
    exact (lZ rem j hj).append_left tk
   ·exact (q3.trans t4).set (ak _) (by exact cZ (by assumption)))
 have hrem:rem = []:=by
  have:=q2.length_eq
  simp [ao] at this e2
  exact eS (by omega)
 subst hrem
 rw [gM] at q2
 refine⟨0::tk,S1 ++ [Cell.lst (ao tk)],cy (ρ := [some (.ref n),some (.int m),some (.ref S.length)]) rfl ?_,q3.step (Ex.push _ _),zE hm q2⟩
 show kg [some (.ref n),some (.int m),none] S=_
 refine (aY (bO e0)).trans (cx ?_)
 have ez:cK (aa (mC (.int 0)) af) [some (.ref n),some (.int m),some (.ref S.length)] (S ++ [Cell.lst (ao (bM 1 (m - 1)))])=some (.tup [.int 0],S ++ [Cell.lst (ao (bM 1 (m - 1)))]):=by
  have hb1:1<=big:=by decide
  simp [cK,lU (show mC (.int 0) _ _=some (U.int 0,S ++ [Cell.lst (ao (bM 1 (m - 1)))]) from rfl),aG,hb1]
 exact cat_t ez e1 (by simp [ao] at e2 ⊢;omega)
theorem EO {S:Sto}{f:Nat}{i:Int}:toD S (f+1) (.int i)=some (.int i):=rfl
theorem p5 {S:Sto}{f:Nat} : ∀ (l:List Nat),de (toD S (f+1)) (ao l)=some (l.map fun (x:Nat)=>fo x)
 | []=>rfl
 | x::l=>by
   show (toD S (f+1) (.int x)).bind _=_
   rw [EO]
   simp only [ai]
   rw [show List.map (fun (x:Nat)=>U.int x) l=ao l from rfl,p5 l]
   rfl
theorem vQ (x:Nat) : ∀ (l:List Nat),x∈l->(l.map fun (x:Nat)=>fo x).findIdx? (fun y=>fq y (.int x))=some (l.idxOf x)
 | [],h=>by simp at h
 | y::l,h=>by
   have e:fq (.int y) (.int x)=decide (y=x):=by
    simp [fq]
    by_cases hxy:y=x
    ·subst hxy;simp
    ·have : ¬ ((y:Int)=x):=by omega
     simp [hxy,this]
   rw [be,pH,e,List.idxOf_cons]
   by_cases hxy:y=x
   ·subst hxy;simp
   ·have hm:x∈l:=by
     rcases aX.mp h with z | z
     ·exact absurd z.symm hxy
     ·exact z
    have hb:(y == x)=false:=by simpa using hxy
    rw [vQ x l hm]
    simp [hxy,hb]
theorem Fc {S:Sto}{x:Nat}{l:List Nat} (h:x∈l):Co S (.int x) (ao l)=some (l.idxOf x):=by
 unfold Co
 rw [p5 l]
 simp only [ai]
 rw [show toD S 40 (.int x)=some (.int x) from rfl]
 exact vQ x l h
theorem nH {ρ:Rho}{S S1:Sto}{o a:ME}{l:List Nat}{x:Nat} (ho:o ρ S=some (.tup (ao l),S)) (ha:a ρ S=some (.int x,S1)) (h:x∈l):mMT dA o (aa a af) ρ S=some (.int (l.idxOf x:Nat),S1):=by
 simp only [mMT,ho,aG,lU ha,dA,Fc h,aV]
 rfl
theorem qV {l:List Nat}{j:Nat}{u:U} (h:(ao l)[j]? = some u):j < l.length/\u = .int (oF l j):=by
 have hl:j < l.length:=by have:=(ah.mp h).1;simpa [ao] using this
 have:(ao l)[j]? = some (.int l[j]):=by simp [ao,hl]
 rw [this] at h;cases h
 exact⟨hl,by simp [oF,hl]⟩
theorem cu (l:List Nat):(ao l).length=l.length:=by simp [ao]
theorem BV {m:Nat}{T:Nat->Nat->Nat}{l:List Nat}{S:Sto} (hm:m < big) (g : ∀ i j,i < m->j < m->T i j < m) (ho:lF m l) : ∃ S',i8 [tab m T,.tup (ao l)] S=some (tab m (ek T (oF l) (pF l)),S')/\Ex S S':=by
 have hlen:=ho.len
 obtain⟨S1,e1,h1⟩:=Kp (ρ := [some (tab m T),some (.tup (ao l))]) (S:=S) (S0:=S) (a:=ab 1) (us:=ao l) (e:=mFn bD (aa (bZ (da (ab 1)) cTT (mMT dA (ab 1) (aa (m2 oIx (m2 oIx (ab 0) (ab 2)) (ab 3)) af))) af))
  (var_eq rfl) (by rw [cu,hlen];exact hm) (ji m (ek T (oF l) (pF l))) (fun _ S'=>Ex S S') (Ex.refl _) (by
   intro i u S' hu hx
   obtain⟨hi,rfl⟩:=qV hu
   rw [hlen] at hi
   obtain⟨S2,e2,h2⟩:=Kp (ρ := [some (tab m T),some (.tup (ao l)),some (.int (oF l i))]) (S:=S') (S0:=S') (a:=ab 1) (us:=ao l) (e:=mMT dA (ab 1) (aa (m2 oIx (m2 oIx (ab 0) (ab 2)) (ab 3)) af))
    (var_eq rfl) (by rw [cu,hlen];exact hm) (fun j => .int (ek T (oF l) (pF l) i j)) (fun _ S''=>S''=S') rfl (by
     intro j u S'' hu hx
     obtain⟨hj,rfl⟩:=qV hu
     rw [hlen] at hj
     refine⟨S'',?_,hx⟩
     exact nH (var_eq rfl) (kA (ho.ord.ol j hj) (jK (ho.ord.ol i hi) (var_eq rfl) (var_eq rfl)) (var_eq rfl)) (ho.mem.mpr (g _ _ (ho.ord.ol i hi) (ho.ord.ol j hj))))
   subst h2
   rw [cu,hlen] at e2
   exact⟨_,e2,hx.trans (Ex.push _ _)⟩)
 rw [cu,hlen] at e1
 exact⟨_,cy (ρ := [some (tab m T),some (.tup (ao l))]) rfl (show ku [some (tab m T),some (.tup (ao l))] S=_ from cx e1),h1.trans (Ex.push _ _)⟩
end
end W
end
section
namespace W
open L2 G
section
theorem y7 {ρ:Rho}{S S1 S2:Sto}{a b:ME}{x y:Int} (ha:a ρ S=some (.int x,S1)) (hb:b ρ S1=some (.int y,S2)):m2 oEq a b ρ S=some (.bl (x == y),S2):=op2 ha hb rfl
theorem Et {ρ:Rho}{S S1 S2:Sto}{a b:ME}{x y:Int} (ha:a ρ S=some (.int x,S1)) (hb:b ρ S1=some (.int y,S2)):m2 oGt a b ρ S=some (.bl (decide (y < x)),S2):=op2 ha hb rfl
theorem of_eq {ρ:Rho}{S S1:Sto}{a:ME}{b:Bool} (h:a ρ S=some (.bl b,S1)):cOf a ρ S=some (b,S1):=by simp only [cOf,h,aG]
theorem or_eq {ρ:Rho}{S S1 S2:Sto}{a b:MT}{x y:Bool} (ha:a ρ S=some (x,S1)) (hb:b ρ S1=some (y,S2)) (e:x=true->S2=S1):cOr a b ρ S=some (x||y,S2):=by
 cases x
 ·simp [cOr,ha,hb,aG]
 ·simp [cOr,ha,aG,e rfl]
theorem and_eq {ρ:Rho}{S S1 S2:Sto}{a b:MT}{x y:Bool} (ha:a ρ S=some (x,S1)) (hb:b ρ S1=some (y,S2)) (e:x=false->S2=S1):qQ a b ρ S=some (x&&y,S2):=by
 cases x
 ·simp [qQ,ha,aG,e rfl]
 ·simp [qQ,ha,hb,aG]
theorem qI {c:MT}{a b:MS}{ρ:Rho}{S S1:Sto} (h:c ρ S=some (true,S1)):sIf c a b ρ S=a ρ S1:=by simp [sIf,h,aG]
theorem jO {c:MT}{a b:MS}{ρ:Rho}{S S1:Sto} (h:c ρ S=some (false,S1)):sIf c a b ρ S=b ρ S1:=by simp [sIf,h,aG]
theorem gS {n m:Nat}{S:Sto} (h:lD n S) (hm:0 < m) (hm2:m < 1000) : ∃ r S',aL [.ref n,.int m] S=some (.int (r:Nat),S')/\r < m/\Stp n S S':=by
 obtain⟨r,S',e,h1,h2,h3,_⟩:=yO (many:=(m:Int)) h (by omega) (by omega)
 obtain⟨r,rfl⟩:=An h1
 exact⟨r,S',e,by omega,h3⟩
noncomputable def gA:MS:=sIf (cOr (cOf (m2 oEq (ab 2) (mC (.int 1)))) (cOf (m2 oEq (ab 2) (mC (.int 2))))) (bA 3 (mFn eV (aa (m2 bW (mC (.int 1)) (mFn aL (aa (ab 0) (aa (m2 oDiv (ab 1) (mC (.int 2))) af)))) af))) dh
noncomputable def gB:MS:=sIf (qQ (cOf (m2 oEq (ab 2) (mC (.int 3)))) (cOf (m2 oGt (ab 1) (mC (.int 7))))) (bA 3 (mFn fH af)) dh
noncomputable def gC:MS:=sIf (cOf (m2 oGt (ab 2) (mC (.int 3)))) (aZ (bA 4 (m2 bW (mC (.int 2)) (mFn aL (aa (ab 0) (aa (mC (.int 3)) af))))) (aZ (bA 5 (m2 oIx (cM (aa (mFn b9 (aa (ab 4) af)) (aa (mFn eV (aa (ab 4) af)) af))) (mFn aL (aa (ab 0) (aa (mC (.int 2)) af))))) (aZ (sIf (cOf (m2 oGt (mFn bF (aa (ab 5) af)) (ab 1))) (bA 5 (mFn b9 (aa (ab 4) af))) dh) (bA 3 (mFn jV (aa (ab 5) (aa (mFn b9 (aa (m2 bW (mC (.int 1)) (mFn aL (aa (ab 0) (aa (m2 oDiv (ab 1) (mFn bF (aa (ab 5) af))) af)))) af)) af))))))) dh
noncomputable def gD:MS:=sIf (cOf (m2 oEq (mFn aL (aa (ab 0) (aa (mC (.int 3)) af))) (mC (.int 0)))) (bA 3 (mFn i8 (aa (ab 3) (aa (mFn eY (aa (ab 0) (aa (mFn bF (aa (ab 3) af)) af))) af)))) dh
structure Gs (n most way:Nat) (S0:Sto) (ρ:Rho) (S:Sto):Prop where
 ex : ∃ m T x y,ρ = [some (.ref n),some (.int most),some (.int way),some (tab m T),x,y]/\Grp m T/\m<=most
 st:Stp n S0 S
section
variable {n most way:Nat}{S0 S:Sto}{ρ:Rho}
theorem Ks (h6:6<=most) (hm:most < 1000) (g:Gs n most way S0 ρ S) : ∃ ρ' S',gA ρ S=some (.nx,ρ',S')/\Gs n most way S0 ρ' S':=by
 obtain⟨⟨m,T,x,y,rfl,gr,hle⟩,st⟩:=g
 have hc:=or_eq (of_eq (y7 (ρ := [some (.ref n),some (.int most),some (.int way),some (tab m T),x,y]) (S:=S) (a:=ab 2) (b:=mC (.int 1)) (var_eq rfl) c_i)) (of_eq (y7 (a:=ab 2) (b:=mC (.int 2)) (var_eq rfl) c_i)) fun _=>rfl
 cases hb:(((way:Int) == 1)||((way:Int) == 2)) with
 | false=>
   rw [hb] at hc
   exact⟨_,S,jO hc,⟨m,T,x,y,rfl,gr,hle⟩,st⟩
 | true=>
   rw [hb] at hc
   obtain⟨r,S1,e1,w1,s1⟩:=gS (m:=most / 2) st.st (by omega) (by omega)
   obtain⟨S2,e2,s2⟩:=vR (n:=1+r) (S:=S1) (by exact bI (by decide) _) (by omega)
   refine⟨_,S2,(qI hc).trans (bO (jd (x := .int (1+r:Nat)) (add_n (x:=1) c_i (b0 (var_eq rfl) (tq (y:=2) (var_eq rfl) c_i (by decide) (by decide)) e1)) e2)),⟨_,_,x,y,rfl,uQ (by exact bI (by decide) _),by omega⟩,(st.trans s1).step s2⟩
theorem Js (g:Gs n most way S0 ρ S) : ∃ ρ' S',gB ρ S=some (.nx,ρ',S')/\Gs n most way S0 ρ' S':=by
 obtain⟨⟨m,T,x,y,rfl,gr,hle⟩,st⟩:=g
 have hc:=and_eq (of_eq (y7 (ρ := [some (.ref n),some (.int most),some (.int way),some (tab m T),x,y]) (S:=S) (a:=ab 2) (b:=mC (.int 3)) (var_eq rfl) c_i)) (of_eq (Et (a:=ab 1) (b:=mC (.int 7)) (var_eq rfl) c_i)) fun _=>rfl
 cases hb:(((way:Int) == 3)&&decide ((7:Int) < most)) with
 | false=>
   rw [hb] at hc
   exact⟨_,S,jO hc,⟨m,T,x,y,rfl,gr,hle⟩,st⟩
 | true=>
   rw [hb] at hc
   obtain⟨S2,e2,s2⟩:=wM (S:=S)
   have h7:(7:Int) < most:=by simp at hb;exact hb.2
   refine⟨_,S2,(qI hc).trans (bO (show mFn fH af _ S=_ from e2)),⟨_,_,x,y,rfl,zo,by omega⟩,st.step s2⟩
theorem BE {ρ:Rho}{S S1 S2:Sto}{a b:ME}{x y:U} (ha:a ρ S=some (x,S1)) (hb:b ρ S1=some (y,S2)):cM (aa a (aa b af)) ρ S=some (.ref S2.length,S2 ++ [Cell.lst [x,y]]):=by
 have hz:2<=big:=by decide
 simp [cM,aa,af,aG,ha,hb,hz]
theorem JS (h6:6<=most) (hm:most < 1000) (g:Gs n most way S0 ρ S) : ∃ ρ' S',gC ρ S=some (.nx,ρ',S')/\Gs n most way S0 ρ' S':=by
 obtain⟨⟨m,T,x,y,rfl,gr,hle⟩,st⟩:=g
 have hbig : ∀ x,x<=most->x < big:=fun x hx=>by unfold big;exact aE (by assumption) (ae (by assumption) (by decide))
 have hc:=of_eq (Et (ρ := [some (.ref n),some (.int most),some (.int way),some (tab m T),x,y]) (S:=S) (a:=ab 2) (b:=mC (.int 3)) (var_eq rfl) c_i)
 cases hb:decide ((3:Int) < way) with
 | false=>
   rw [hb] at hc
   exact⟨_,S,jO hc,⟨m,T,x,y,rfl,gr,hle⟩,st⟩
 | true=>
   rw [hb] at hc
   obtain⟨r,S1,e1,w1,s1⟩:=gS (m:=3) st.st (by decide) (by decide)
   have f1:m2 bW (mC (.int 2)) (mFn aL (aa (ab 0) (aa (mC (.int 3)) af))) [some (.ref n),some (.int most),some (.int way),some (tab m T),x,y] S=some (.int (2+r:Nat),S1):=
    add_n (x:=2) c_i (b0 (var_eq rfl) c_i e1)
   obtain⟨S2,e2,s2⟩:=kC (n:=2+r) (S:=S1) (by exact bI (by decide) _) (hbig _ (by omega))
   obtain⟨S3,e3,s3⟩:=vR (n:=2+r) (S:=S2) (by exact bI (by decide) _) (by omega)
   have st3:Stp n S0 (S3 ++ [Cell.lst [tab (2+r) (eh (2+r)),tab (2*(2+r)) (fX (2+r))]]):=(((st.trans s1).step s2).step s3).step (Ex.push _ _)
   obtain⟨q,S4,e4,w4,s4⟩:=gS (m:=2) st3.st (by decide) (by decide)
   have hcell:S4[S3.length]? = some (Cell.lst [tab (2+r) (eh (2+r)),tab (2*(2+r)) (fX (2+r))]):=by
    refine s4.some ?_ (by rw [ar (ak _)];simp)
    have:=(((st.trans s1).step s2).step s3).st.lt
    exact cZ (by assumption)
   have one : ∃ k K,atI [tab (2+r) (eh (2+r)),tab (2*(2+r)) (fX (2+r))] (q:Int)=some (tab k K)/\Grp k K/\k<=8:=by
    have:q=0\/q=1:=by omega
    rcases this with rfl | rfl
    ·exact⟨_,_,rfl,jE (by exact bI (by decide) _),by omega⟩
    ·exact⟨_,_,rfl,uQ (by exact bI (by decide) _),by omega⟩
   obtain⟨k,K,hix,gk,hk8⟩:=one
   have f5:m2 oIx (cM (aa (mFn b9 (aa (ab 4) af)) (aa (mFn eV (aa (ab 4) af)) af))) (mFn aL (aa (ab 0) (aa (mC (.int 2)) af))) [some (.ref n),some (.int most),some (.int way),some (tab m T),some (.int (2+r:Nat)),y] S1=some (tab k K,S4):=
    EK (BE (jd (x := .int (2+r:Nat)) (var_eq rfl) e2) (jd (x := .int (2+r:Nat)) (var_eq rfl) e3)) (b0 (var_eq rfl) c_i e4) hcell hix
   have st4:=st3.trans s4
   have cut : ∃ k' K' S5,sIf (cOf (m2 oGt (mFn bF (aa (ab 5) af)) (ab 1))) (bA 5 (mFn b9 (aa (ab 4) af))) dh [some (.ref n),some (.int most),some (.int way),some (tab m T),some (.int (2+r:Nat)),some (tab k K)] S4 =
     some (.nx,[some (.ref n),some (.int most),some (.int way),some (tab m T),some (.int (2+r:Nat)),some (tab k' K')],S5)/\Grp k' K'/\k'<=most/\k'<=8/\Stp n S0 S5:=by
    have hc2:=of_eq (Et (ρ := [some (.ref n),some (.int most),some (.int way),some (tab m T),some (.int (2+r:Nat)),some (tab k K)]) (S:=S4) (a:=mFn bF (aa (ab 5) af)) (b:=ab 1) (len_tab (var_eq rfl)) (var_eq rfl))
    cases hb2:decide ((most:Int) < k) with
    | false=>
      rw [hb2] at hc2
      have : ¬ ((most:Int) < k):=by simpa using hb2
      exact⟨k,K,S4,jO hc2,gk,by omega,hk8,st4⟩
    | true=>
      rw [hb2] at hc2
      obtain⟨S5,e5,s5⟩:=kC (n:=2+r) (S:=S4) (by exact bI (by decide) _) (hbig _ (by omega))
      exact⟨_,_,S5,(qI hc2).trans (bO (jd (x := .int (2+r:Nat)) (var_eq rfl) e5)),jE (by exact bI (by decide) _),by omega,by omega,st4.step s5⟩
   obtain⟨k',K',S5,f6,gk',hkm,hk8',st5⟩:=cut
   have kp:=gk'.pos
   have hdiv:0 < most / k':=Nat.div_pos hkm kp
   have hdl:most / k'<=most:=Nat.div_le_self _ _
   obtain⟨t,S6,e6,w6,s6⟩:=gS (m:=most / k') st5.st hdiv (by exact aE (by assumption) (by assumption))
   obtain⟨S7,e7,s7⟩:=kC (n:=1+t) (S:=S6) (by exact bI (by decide) _) (hbig _ (by omega))
   obtain⟨S8,e8,s8⟩:=DO (k:=k') (m:=1+t) (A:=K') (B:=eh (1+t)) (S:=S7) kp (by exact aE (by assumption) (by decide)) (by exact bI (by decide) _) (by omega) gk'.cl
   have hsz:k'*(1+t)<=most:=bg (Nat.mul_le_mul_left k' (by omega:1+t<=most / k')) (Nat.mul_div_le most k')
   refine⟨_,S8,(qI hc).trans ((aY (bO f1)).trans ((aY (bO f5)).trans ((aY f6).trans (bO (b0 (var_eq rfl) (jd (x := .int (1+t:Nat)) ?_ e7) e8))))),⟨_,_,_,_,rfl,Cz gk' (jE (by exact bI (by decide) _)),hsz⟩,((st5.trans s6).step s7).step s8⟩
   exact add_n (x:=1) c_i (b0 (var_eq rfl) (tq (var_eq rfl) (len_tab (var_eq rfl)) kp (by exact aE (by assumption) (by decide))) e6)
theorem Jy (hm:most < 1000) (g:Gs n most way S0 ρ S) : ∃ ρ' S',gD ρ S=some (.nx,ρ',S')/\Gs n most way S0 ρ' S':=by
 obtain⟨⟨m,T,x,y,rfl,gr,hle⟩,st⟩:=g
 obtain⟨r,S1,e1,w1,s1⟩:=gS (m:=3) st.st (by decide) (by decide)
 have hc:=of_eq (y7 (ρ := [some (.ref n),some (.int most),some (.int way),some (tab m T),x,y]) (S:=S) (a:=mFn aL (aa (ab 0) (aa (mC (.int 3)) af))) (b:=mC (.int 0)) (b0 (var_eq rfl) c_i e1) c_i)
 cases hb:((r:Int) == 0) with
 | false=>
   rw [hb] at hc
   exact⟨_,S1,jO hc,⟨m,T,x,y,rfl,gr,hle⟩,st.trans s1⟩
 | true=>
   rw [hb] at hc
   obtain⟨l,S2,e2,s2,ol⟩:=wm (m:=m) s1.st gr.pos (by exact aE (by assumption) (by assumption))
   obtain⟨S3,e3,s3⟩:=BV (m:=m) (T:=T) (S:=S2) (by unfold big;exact aE (by assumption) (ae (by assumption) (by decide))) gr.cl ol
   refine⟨_,S3,(qI hc).trans (bO (b0 (var_eq rfl) (b0 (var_eq rfl) (len_tab (var_eq rfl)) e2) e3)),⟨_,_,x,y,rfl,sX gr ol.ord,hle⟩,((st.trans s1).trans s2).step s3⟩
end
theorem Av {n most:Nat}{S:Sto} (h:lD n S) (h6:6<=most) (hm:most < 1000) : ∃ m T S',fW [.ref n,.int most] S=some (tab m T,S')/\Grp m T/\m<=most/\Stp n S S':=by
 have hbig : ∀ x,x<=most->x < big:=fun x hx=>by unfold big;exact aE (by assumption) (ae (by assumption) (by decide))
 obtain⟨way,S1,e1,w1,s1⟩:=gS (m:=8) h (by decide) (by decide)
 obtain⟨r2,S2,e2,w2,s2⟩:=gS (m:=most) s1.st (by exact Nat.zero_lt_of_lt (by assumption)) hm
 obtain⟨S3,e3,s3⟩:=kC (n:=1+r2) (S:=S2) (by exact bI (by decide) _) (hbig _ (by omega))
 have f1:m2 bW (mC (.int 1)) (mFn aL (aa (ab 0) (aa (ab 1) af))) [some (.ref n),some (.int most),some (.int way),none,none,none] S1=some (.int (1+r2:Nat),S2):=add_n (x:=1) (y:=r2) c_i (b0 (var_eq rfl) (var_eq rfl) e2)
 have g0:Gs n most way S [some (.ref n),some (.int most),some (.int way),some (tab (1+r2) (eh (1+r2))),none,none] S3:=⟨⟨_,_,none,none,rfl,jE (by exact bI (by decide) _),by omega⟩,(s1.trans s2).step s3⟩
 obtain⟨ρ4,S4,e4,g4⟩:=Ks h6 hm g0
 obtain⟨ρ5,S5,e5,g5⟩:=Js g4
 obtain⟨ρ6,S6,e6,g6⟩:=JS h6 hm g5
 obtain⟨ρ7,S7,e7,g7⟩:=Jy hm g6
 obtain⟨⟨m,T,x,y,rfl,gr,hle⟩,st⟩:=g7
 refine⟨m,T,S7,cy (ρ := [some (.ref n),some (.int most),some (.int way),some (tab m T),x,y]) rfl ?_,gr,hle,st⟩
 show kr [some (.ref n),some (.int most),none,none,none,none] S=_
 exact (aY (bO (b0 (var_eq rfl) c_i e1))).trans ((aY (bO (jd f1 e3))).trans ((aY e4).trans ((aY e5).trans ((aY e6).trans ((aY e7).trans (cx (var_eq rfl)))))))
end
end W
end
section
namespace W
open L2 G
section
noncomputable def Scr (ns:List Int) (S:Sto):Prop:=getL S 0=some (ns.map U.int)
theorem Scr.ex {ns:List Int}{S S':Sto} (h:Scr ns S) (e : ∀ c,S[0]? = some c->S'[0]? = some c):Scr ns S':=by
 unfold Scr getL at h ⊢
 split at h
 ·rename_i us q;rw [e _ q];exact h
 ·rename_i us q;rw [e _ q];exact h
 ·cases h
 ·cases h
theorem Scr.lt {ns:List Int}{S:Sto} (h:Scr ns S):0 < S.length:=by
 unfold Scr getL at h
 split at h
 ·rename_i q;exact (ah.mp q).1
 ·rename_i q;exact (ah.mp q).1
 ·cases h
 ·cases h
theorem d5 {α:Type} (S:List α) (c:α):(S ++ [c])[S.length]? = some c:=by
 rw [ar (ak _)];simp
theorem JM {ρ:Rho}{S S1 S2:Sto}{a b:ME}{x y:Int} (ha:a ρ S=some (.int x,S1)) (hb:b ρ S1=some (.int y,S2)):m2 oLt a b ρ S=some (.bl (decide (x < y)),S2):=op2 ha hb rfl
theorem IC {ρ:Rho}{S S1 S2:Sto}{a b:ME}{x y:Int} (ha:a ρ S=some (.int x,S1)) (hb:b ρ S1=some (.int y,S2)):m2 oGe a b ρ S=some (.bl (decide (y<=x)),S2):=op2 ha hb rfl
theorem Fp {S:Sto}{r:Nat}{us:List U} (h:getL S r=some us):fv S (.ref r)=none:=by
 unfold getL at h
 show (match S[r]? with
  | some (.dic kvs)=>some kvs
  | _=>none)=none
 split at h <;> rename_i q <;> first | (cases h;done) | (rw [q])
theorem Fm {ρ:Rho}{S:Sto}{a:ME}{r:Nat}{us:List U} (ha:a ρ S=some (.ref r,S)) (hr:getL S r=some us):mFn bF (aa a af) ρ S=some (.int us.length,S):=
 jd ha (by simp only [bF,Fp hr,dI,hr,aV])
theorem LD {ρ:Rho}{S S1 S2:Sto}{a b:ME}{n:Nat}{us:List U}{z:Int}{u:U} (ha:a ρ S=some (.ref n,S1)) (hb:b ρ S1=some (.int z,S2)) (hn:getL S2 n=some us) (h:atI us z=some u):m2 oIx a b ρ S=some (u,S2):=op2 ha hb (by simp only [oIx,Fp hn,dI,hn,ai,h,aV])
theorem ud {α:Type}{us:List α}{k:Nat}{u:α} (h:us[k]? = some u):atI us (k:Int)=some u:=by
 have hk:k < us.length:=(ah.mp h).1
 simp [atI,ixN,hk]
 exact (ah.mp h).2
theorem Ef {ns:List Int}{S:Sto}{k:Nat} (h:Scr ns S) : ∃ z,hU [.ref 0,.int k] S=some (.int z,S):=by
 have hc:=of_eq (JM (ρ := [some (.ref 0),some (.int k)]) (S:=S) (a:=ab 1) (b:=mFn bF (aa (ab 0) af)) (var_eq rfl) (Fm (var_eq rfl) h))
 rw [av] at hc
 cases hb:decide ((k:Int) < ns.length) with
 | true=>
   rw [hb] at hc
   have hk:k < ns.length:=by simpa using hb
   have e:=LD (ρ := [some (.ref 0),some (.int k)]) (S:=S) (a:=ab 0) (b:=ab 1) (var_eq rfl) (var_eq rfl) h (ud (k:=k) (u := .int ns[k]) (by simp [hk]))
   refine⟨ns[k],cy (ρ := [some (.ref 0),some (.int k)]) rfl ?_⟩
   show fF [some (.ref 0),some (.int k)] S=_
   unfold fF aZ
   rw [qI hc,cx e]
 | false=>
   rw [hb] at hc
   refine⟨0,cy (ρ := [some (.ref 0),some (.int k)]) rfl ?_⟩
   show fF [some (.ref 0),some (.int k)] S=_
   exact (aY ((jO hc).trans rfl)).trans (cx c_i)
theorem FA {ρ:Rho}{S:Sto}:m2 ua (mC (.int 10)) (mC (.int 18)) ρ S=some (.int (10 ^ (18:Int).toNat),S):=op2 rfl rfl (if_pos ⟨by decide,by decide,by decide⟩)
theorem Be {ns:List Int}{S:Sto}{k:Nat} (h:Scr ns S) : ∃ S',i2 [.ref 0,.int k] S=some (.ref S.length,S')/\Ex S S'/\lD S.length S':=by
 obtain⟨z,e1⟩:=Ef (k:=k) h
 have e2:bA 2 (mFn hU (aa (ab 0) (aa (ab 1) af))) [some (.ref 0),some (.int k),none] S=some (.nx,[some (.ref 0),some (.int k),some (.int z)],S):=bO (b0 (var_eq rfl) (var_eq rfl) e1)
 have hc:=of_eq (IC (ρ := [some (.ref 0),some (.int k),some (.int z)]) (S:=S) (a:=ab 2) (var_eq rfl) FA)
 generalize hp:(10:Int) ^ (18:Int).toNat=p at hc
 have hpe : ∀ ρ (S:Sto),m2 ua (mC (.int 10)) (mC (.int 18)) ρ S=some (.int p,S):=fun ρ S=>by rw [FA,hp]
 cases hb:decide (p<=z) with
 | true=>
   rw [hb] at hc
   have e3:=BE (ρ := [some (.ref 0),some (.int k),some (.int z)]) (S:=S) (a:=m2 mm (ab 2) (m2 ua (mC (.int 10)) (mC (.int 18)))) (b:=mC (.bl true)) (Bv (var_eq rfl) (hpe _ _)) rfl
   refine⟨_,cy (ρ := [some (.ref 0),some (.int k),some (.int z)]) rfl ?_,Ex.push _ _,⟨z - p,true,d5 _ _⟩⟩
   show i4 [some (.ref 0),some (.int k),none] S=_
   refine (aY e2).trans ?_
   unfold aZ
   rw [qI hc,cx e3]
 | false=>
   rw [hb] at hc
   have e3:=BE (ρ := [some (.ref 0),some (.int k),some (.int z)]) (S:=S) (a:=m2 oMod (ab 2) (mC (.int 2147483647))) (b:=mC (.bl false)) (Fi (var_eq rfl) c_i (by decide)) rfl
   refine⟨_,cy (ρ := [some (.ref 0),some (.int k),some (.int z)]) rfl ?_,Ex.push _ _,⟨z % 2147483647,false,d5 _ _⟩⟩
   show i4 [some (.ref 0),some (.int k),none] S=_
   exact (aY e2).trans ((aY ((jO hc).trans rfl)).trans (cx e3))
theorem uT {i n:Nat}{b:MS} (us:List U) (P:Nat->Rho->Sto->Prop) (hl : ∀ k ρ S,P k ρ S->getL S n=some us)
  (st : ∀ (k:Nat) (u:U) (ρ:Rho) (S:Sto),us[k]? = some u->P k ρ S -> ∃ ρ' S',b (ρ.set i (some u)) S=some (.nx,ρ',S')/\P (k+1) ρ' S') :
  ∀ (f k:Nat) (ρ:Rho) (S:Sto),k<=us.length->us.length - k < f->P k ρ S -> ∃ ρ' S',forL i b n f k ρ S=some (.nx,ρ',S')/\P us.length ρ' S'
 | 0,k,ρ,S,h1,h2,_=>by omega
 | f+1,k,ρ,S,h1,h2,hp=>by
   unfold forL
   rw [hl k ρ S hp]
   simp only [ai]
   by_cases hk:k < us.length
   ·have hu:us[k]? = some us[k]:=by simp [hk]
    obtain⟨ρ1,S1,e1,p1⟩:=st k us[k] ρ S hu hp
    obtain⟨ρ2,S2,e2,p2⟩:=uT us P hl st f (k+1) ρ1 S1 (by assumption) (by omega) p1
    refine⟨ρ2,S2,?_,p2⟩
    simp only [hu,aft,e1,e2]
   ·have:k=us.length:=by omega
    subst this
    exact⟨ρ,S,by simp,hp⟩
theorem w9 {i n:Nat}{b:MS}{e:ME}{ρ:Rho}{S S1:Sto}{us:List U} (he:e ρ S=some (.ref n,S1)) (hu:us.length < 100000) (P:Nat->Rho->Sto->Prop) (h0:P 0 ρ S1) (hl : ∀ k ρ S,P k ρ S->getL S n=some us)
  (st : ∀ (k:Nat) (u:U) (ρ:Rho) (S:Sto),us[k]? = some u->P k ρ S -> ∃ ρ' S',b (ρ.set i (some u)) S=some (.nx,ρ',S')/\P (k+1) ρ' S') :
  ∃ ρ' S',eo i (da e) b ρ S=some (.nx,ρ',S')/\P us.length ρ' S':=by
 obtain⟨ρ',S',e1,p1⟩:=uT us P hl st fuel 0 ρ S1 (dB _) (by unfold fuel;assumption) h0
 refine⟨ρ',S',?_,p1⟩
 unfold eo da
 rw [he]
 simp only [aG,hl 0 ρ S1 h0,aV]
 exact e1
theorem A3 {i:Nat}{b:MS}{e:ME}{ρ:Rho}{S S1:Sto}{us:List U} (he:e ρ S=some (.tup us,S1)) (P:Nat->Rho->Sto->Prop) (h0:P 0 ρ S1)
  (st : ∀ (k:Nat) (u:U) (ρ:Rho) (S:Sto),us[k]? = some u->P k ρ S -> ∃ ρ' S',b (ρ.set i (some u)) S=some (.nx,ρ',S')/\P (k+1) ρ' S') :
  ∃ ρ' S',eo i (da e) b ρ S=some (.nx,ρ',S')/\P us.length ρ' S':=by
 obtain⟨ρ',S',e1,p1⟩:=nQ (i:=i) (b:=b) P us 0 ρ S1 h0 fun j u ρ S hj hp=>by simpa using st j u ρ S hj (by simpa using hp)
 rw [d9] at p1
 refine⟨ρ',S',?_,p1⟩
 unfold eo da
 rw [he]
 exact e1
noncomputable def cY (T:Nat->Nat->Nat) (w:List Nat):Nat:=w.foldl T 0
noncomputable def plc (T:Nat->Nat->Nat) (w:List Nat):List Nat:=(aB (w.length+1)).map fun k=>cY T (w.take k)
theorem E9 {m:Nat}{T:Nat->Nat->Nat} (hp:0 < m) (cl : ∀ i j,i < m->j < m->T i j < m) {w:List Nat} (hw : ∀ x∈w,x < m):cY T w < m:=by
 unfold cY
 have : ∀ (w:List Nat) (a:Nat),a < m->(∀ x∈w,x < m)->w.foldl T a < m:=by
  intro w
  induction w with
  | nil=>intro a ha _;exact ha
  | cons x w ih=>intro a ha h;exact ih _ (cl a x ha (h x (by simp))) fun y hy=>h y (by simp [hy])
 exact this w 0 hp hw
theorem z7 {T:Nat->Nat->Nat}{w:List Nat}{k x:Nat} (h:w[k]? = some x):cY T (w.take (k+1))=T (cY T (w.take k)) x:=by
 unfold cY
 rw [List.take_add_one,h]
 simp
theorem AL {α:Type}{f:Nat->α}{k:Nat}:atI ((aB (k+1)).map f) (-1)=some (f k):=by
 have e:ixN ((aB (k+1)).map f).length (-1)=some k:=by
  rw [av,bu]
  unfold ixN
  rw [if_neg (by decide),if_pos (by omega)]
  congr 1;omega
 unfold atI
 rw [e]
 simp
theorem vK {l:List Nat}{k:Nat}{u:U} (h:(ao l)[k]? = some u) : ∃ x,l[k]? = some x/\u = .int x:=by
 obtain⟨hk,rfl⟩:=qV h
 exact⟨oF l k,by simp [oF,hk],rfl⟩
theorem Do {ρ:Rho}{S:Sto}:m1 eW (mC (.int 1)) ρ S=some (.int (-1),S):=rfl
end
end W
end
section
namespace W
open L2 G
section
theorem qG : ∀ (a b:List Nat),d0 (a.map fun (x:Nat)=>fo x) (b.map fun (x:Nat)=>fo x)=decide (a=b)
 | [],[]=>by simp [d0]
 | [],_::_=>by simp [d0]
 | _::_,[]=>by simp [d0]
 | x::a,y::b=>by
   simp only [be,d0,fq,qG a b]
   by_cases h:x=y
   ·subst h;simp
   ·have : ¬ ((x:Int)=y):=by omega
    simp [h,this]
theorem qC {S:Sto}{f:Nat}{l:List Nat}:toD S (f+2) (.tup (ao l))=some (.tuple (l.map fun (x:Nat)=>fo x)):=by
 show (de (toD S (f+1)) (ao l)).map _=_
 rw [p5 l];rfl
theorem yo {S:Sto}{a b:List Nat}:G.eqU S (.tup (ao a)) (.tup (ao b))=some (decide (a=b)):=by
 unfold G.eqU
 rw [qC (f:=38),qC (f:=38)]
 simp only [ai,aV,fq,qG]
theorem BX {ρ:Rho}{S S1 S2:Sto}{a b:ME}{x y:List Nat} (ha:a ρ S=some (.tup (ao x),S1)) (hb:b ρ S1=some (.tup (ao y),S2)):m2 oNe a b ρ S=some (.bl (!decide (x=y)),S2):=
 op2 ha hb (by simp only [oNe,yo,aV])
theorem isT {ρ:Rho}{S S1:Sto}{a:ME}{us:List U} (ha:a ρ S=some (.tup us,S1)):m1 (mI "tuple") a ρ S=some (.bl true,S1):=by
 simp only [m1,ha,aG,mI,tyU,aV]
 rfl
theorem not_eq {ρ:Rho}{S S1:Sto}{c:MT}{b:Bool} (h:c ρ S=some (b,S1)):tW c ρ S=some (!b,S1):=by simp only [tW,h,aG]
theorem DB {n m t:Nat}{ρ:Rho}{S S0:Sto}{a:ME}{sv mv:ME} (ha:a ρ S=some (.int t,S0)) (ht:t < 1000) (h:lD n S0) (hm:0 < m) (hm2:m < 1000)
  (hs : ∀ z (S:Sto),sv (ρ ++ [z]) S=some (.ref n,S)) (hv : ∀ z (S:Sto),mv (ρ ++ [z]) S=some (.int m,S)) :
  ∃ w S',mFn bD (aa (bZ (iR1 (aa a af)) cTT (mFn aL (aa sv (aa mv af)))) af) ρ S=some (.tup (ao w),S')/\Stp n S0 S'/\(∀ x∈w,x < m)/\w.length=t:=by
 obtain⟨ys,S1,e1,⟨w,rfl,q1,q2⟩,q3⟩:=sr (e:=mFn aL (aa sv (aa mv af))) ha (by unfold big;exact ae (by assumption) (by decide)) (fun acc S' => ∃ w,acc=ao w/\(∀ x∈w,x < m)/\Stp n S0 S') ⟨[],rfl,by simp,Stp.refl h⟩ (by
  rintro k acc S' hk hl ⟨w,rfl,q1,q2⟩
  obtain⟨r,S2,e2,h2,h3⟩:=gS (m:=m) q2.st hm hm2
  refine⟨_,S2,b0 (hs _ _) (hv _ _) e2,w ++ [r],by simp [ao],fun x hx => ?_,q2.trans h3⟩
  rcases bh.mp hx with hx | hx
  ·exact q1 x hx
  ·simp at hx;omega)
 exact⟨w,_,e1,q2.step (Ex.push _ _),q1,by simpa [ao] using q3⟩
theorem Cg {ns:List Int}{S:Sto}{ρ:Rho}{c:Nat} (h:Scr ns S) (hv:ρ[0]? = some (some (.ref 0))) (hl:ns.length<=63) : ∃ q:Nat,q < 1000/\mFn vd (aa (mC (.int 1)) (aa (mFn oY (aa (mFn bF (aa (ab 0) af)) (aa (mC (.int c)) af))) af)) ρ S=some (.int q,S):=by
 have e1:mFn oY (aa (mFn bF (aa (ab 0) af)) (aa (mC (.int c)) af)) ρ S=some (.int (if (c:Int) < (ns.map U.int).length then (c:Int) else (ns.map U.int).length),S):=b0 (Fm (var_eq hv) h) c_i rfl
 have e2:=b0 (f:=vd) (a:=mC (.int 1)) (S:=S) (ρ:=ρ) c_i e1 rfl
 rw [av] at e2
 refine⟨max 1 (min ns.length c),by omega,?_⟩
 rw [e2]
 show some (U.int (if (if (c:Int) < ns.length then (c:Int) else ns.length) > 1 then (if (c:Int) < ns.length then (c:Int) else ns.length) else 1),S)=_
 have:(if (if (c:Int) < ns.length then (c:Int) else ns.length) > 1 then (if (c:Int) < ns.length then (c:Int) else ns.length) else 1)=((max 1 (min ns.length c):Nat):Int):=by
  by_cases h:(c:Int) < ns.length
  ·simp only [h,if_true];split <;> omega
  ·simp only [h,if_false];split <;> omega
 rw [this]
theorem DG {ρ:Rho}{S S1 S2:Sto}{a b:ME}{x y:Nat} (ha:a ρ S=some (.int x,S1)) (hb:b ρ S1=some (.int y,S2)):m2 oEq a b ρ S=some (.bl (decide (x=y)),S2):=by
 rw [y7 ha hb]
 congr 3
 by_cases h:x=y
 ·subst h;simp
 ·have : ¬ ((x:Int)=y):=by omega
  simp [h,this]
theorem LI {ρ:Rho}{S S1 S2:Sto}{a b:ME}{x y:Nat} (ha:a ρ S=some (.int x,S1)) (hb:b ρ S1=some (.int y,S2)):m2 oNe a b ρ S=some (.bl (!decide (x=y)),S2):=by
 rw [op2 (f:=oNe) ha hb rfl]
 show some (U.bl (!((x:Int) == y)),S2)=_
 congr 4
 by_cases h:x=y
 ·subst h;simp
 ·have : ¬ ((x:Int)=y):=by omega
  simp [h,this]
end
end W
end
section
namespace W
open L2 G
section
theorem Ce {m:Nat}{T:Nat->Nat->Nat}{i:Nat}:ji m T i = .tup (ao ((aB m).map (T i))):=by
 unfold ji wU ao
 rw [bL];rfl
noncomputable def unT (m:Nat) (T:Nat->Nat->Nat) (i:Nat):Nat:=((aB m).map (T i)).idxOf 0
theorem nB {m:Nat}{T:Nat->Nat->Nat} (g:Grp m T) {i:Nat} (hi:i < m):unT m T i < m/\T i (unT m T i)=0/\T (unT m T i) i=0 /\ ∀ k,k < m->T i k=0->k=unT m T i:=by
 obtain⟨j,hj,h1,h2,h3⟩:=g.inv1 hi
 have e:unT m T i=j:=by
  unfold unT
  rw [CY,idx_map (k:=j) m 0 (dB _) (by omega) h1 fun k _ hk h0=>by have:=h3 k (by exact dk (by assumption) (by assumption)) h0;omega]
  omega
 rw [e];exact⟨hj,h1,h2,h3⟩
theorem HQ {m:Nat}{T:Nat->Nat->Nat} (g:Grp m T) {i:Nat} (hi:i < m):0∈(aB m).map (T i):=by
 obtain⟨h1,h2,_⟩:=nB g hi
 exact bb.mpr ⟨unT m T i,br.mpr h1,h2⟩
theorem AB {ρ:Rho}{S S1:Sto}{a:ME}{u:U} (ha:a ρ S=some (u,S1)):cK (aa a af) ρ S=some (.tup [u],S1):=by
 have hb1:1<=big:=by decide
 simp [cK,lU ha,aG,hb1]
theorem or_false {ρ:Rho}{S S1 S2:Sto}{a b:MT} (ha:a ρ S=some (false,S1)) (hb:b ρ S1=some (false,S2)):cOr a b ρ S=some (false,S2):=by
 rw [or_eq ha hb (by intro z;cases z)];rfl
end
end W
end
section
namespace W
open L2 G
section
noncomputable def iV (l:List Nat):List Int:=l.map fun (x:Nat)=>(x:Int)
noncomputable def srt (l:List Nat):List Nat:=(nL (iV l)).map uD
theorem xm (l:List Nat):(nL (iV l)).map U.int=ao (srt l):=by
 unfold ao srt
 rw [bL]
 apply aT
 intro i hi
 have hm:=(iW (iV l)).mem_iff.mp hi
 obtain⟨x,_,rfl⟩:=bb.mp hm
 rfl
theorem mH : ∀ l:List Nat,(iV l).map uD=l
 | []=>rfl
 | x::l=>by
   show uD (x:Int)::(iV l).map uD=x::l
   rw [mH l];rfl
theorem jv (l:List Nat):(srt l).Perm l:=by
 have h:=(iW (iV l)).map uD
 rw [mH] at h
 exact h
theorem oe {a b:List Nat} (p:a.Perm b):srt a=srt b:=by
 unfold srt
 rw [pM ((iW (iV a)).trans (p.map _)) (vJ _)]
 rfl
theorem nj {l:List Nat}{x:Nat}:x∈srt l↔x∈l:=(jv l).mem_iff
theorem nU (l:List Nat):(srt l).length=l.length:=(jv l).length_eq
theorem mx : ∀ (l:List Nat),de qu (ao l)=some (iV l)
 | []=>rfl
 | x::l=>by
   show (qu (.int x)).bind _=_
   simp only [qu,ai]
   rw [show List.map (fun (x:Nat)=>U.int x) l=ao l from rfl,mx l]
   rfl
theorem qJ {S:Sto}{x:U}{l:List Nat} (h:qb S x=some (iV l)) (hl:l.length < 64):dG [x] S=some (.ref S.length,S ++ [.lst (ao (srt l))]):=by
 have ok:wY (iV l).length:=by unfold iV;rw [av];exact hl
 simp only [dG,h,ai,ok,if_true,xm]
theorem qr {ρ:Rho}{S S1:Sto}{a:ME}{n:Nat}{l:List Nat} (ha:a ρ S=some (.ref n,S1)) (hn:S1[n]? = some (Cell.lst (ao l))) (hl:l.length < 64):mFn dG (aa a af) ρ S=some (.ref S1.length,S1 ++ [.lst (ao (srt l))]):=
 jd ha (qJ (by simp only [qb,fv,hn,dI,getL,ai,mx]) hl)
noncomputable def v9 (m:List (L2.Key×U)) (k:L2.Key):Bool:=(lC m k).isSome
theorem vc {m:List (L2.Key×U)}{k:L2.Key}:v9 m k=true ↔ ∃ kv∈m,kv.1=k:=by
 unfold v9 lC
 rw [jY,List.find?_isSome]
 simp
theorem Em {ρ:Rho}{S S1 S2:Sto}{a b:ME}{x:Int}{r:Nat}{kvs:List (L2.Key×U)} (ha:a ρ S=some (.int x,S1)) (hb:b ρ S1=some (.ref r,S2)) (hr:S2[r]? = some (Cell.dic kvs)):cOf (m2 fS a b) ρ S=some (!v9 kvs (.inl x),S2):=
 of_eq (op2 ha hb (by simp only [fS,fv,hr,keyOf,aV,v9]))
section
variable {m:Nat}{T:Nat->Nat->Nat}{t n:Nat}
end
end
end W
end
section
namespace W
open L2 G
section
open PySem in
open PySem in
open PySem in
inductive Pl:lK->Prop where
 | non:Pl .none
 | bl (b:Bool):Pl (.bool b)
 | int (i:Int):i.natAbs < 10 ^ 12->Pl (.int i)
 | lst (xs:List lK):(∀ x∈xs,Pl x)->Pl (.list xs)
 | tup (xs:List lK):(∀ x∈xs,Pl x)->Pl (.tuple xs)
open PySem in
open PySem in
open PySem in
open PySem in
open PySem in
open PySem in
open PySem in
open PySem in
open PySem in
open PySem in
noncomputable def JI (l:List Nat):lK := .tuple (l.map fun (x:Nat)=>fo x)
open PySem in
open PySem in
theorem i7 {f:MF}{ρ:Rho}{S S1 S2 S3:Sto}{a b c:ME}{x y z:U}{r:Res U} (ha:a ρ S=some (x,S1)) (hb:b ρ S1=some (y,S2)) (hc:c ρ S2=some (z,S3)) (h:f [x,y,z] S3=r):mFn f (aa a (aa b (aa c af))) ρ S=r:=by
 simp only [mFn,aa,af,ha,hb,hc,aG,h]
end
end W
end
section
namespace W
open L2 G
section
theorem pC {c:MT}{b:MS} (P:Nat->Rho->Sto->Prop) (Q:Rho->Sto->Prop)
  (hc : ∀ μ ρ S,P μ ρ S -> ∃ k S1,c ρ S=some (k,S1)/\(k=false->Q ρ S1)/\(k=true -> ∃ ρ' S' μ',μ' < μ/\b ρ S1=some (.nx,ρ',S')/\P μ' ρ' S')) :
  ∀ (f μ:Nat) (ρ:Rho) (S:Sto),μ < f->P μ ρ S -> ∃ ρ' S',whl c b f ρ S=some (.nx,ρ',S')/\Q ρ' S'
 | 0,μ,ρ,S,h,_=>by omega
 | f+1,μ,ρ,S,h,hp=>by
   obtain⟨k,S1,e,q1,q2⟩:=hc μ ρ S hp
   unfold whl
   rw [e]
   simp only [aG]
   cases k with
   | false=>exact⟨ρ,S1,by simp,q1 rfl⟩
   | true=>
     obtain⟨ρ1,S2,μ1,hl,e1,p1⟩:=q2 rfl
     obtain⟨ρ2,S3,e2,q⟩:=pC P Q hc f μ1 ρ1 S2 (by omega) p1
     exact⟨ρ2,S3,by simp only [if_true,aft,e1,e2],q⟩
section
variable {S x:Sto}{c e c' e':Cell}
theorem h0:(S ++ [c,e]++x)[S.length]? = some c:=by rw [aM,ar (ak _)];simp
theorem h1:(S ++ [c,e]++x)[S.length+1]? = some e:=by rw [aM,ar (by exact d8 _)];simp
theorem t0:(S ++ [c,e]++x).set S.length c'=S ++ [c',e]++x:=by
 rw [aM,dU _ _ (ak _),se,aM];rfl
theorem t1:(S ++ [c,e]++x).set (S.length+1) e'=S ++ [c,e']++x:=by
 rw [aM,dU _ _ (by exact d8 _),show S.length+1 - S.length=1 by omega,aM];rfl
end
theorem DK {ρ:Rho}{S:Sto}{o:ME}{r:Nat}{l:List Nat}{h:Nat} (ho:o ρ S=some (.ref r,S)) (hr:S[r]? = some (Cell.lst (ao (l ++ [h])))):mML lG o af ρ S=some (.int h,S.set r (Cell.lst (ao l))):=by
 simp only [mML,ho,aG,getL,hr,ai,af,lG]
 simp [ao,Da]
inductive Rch (T:Nat->Nat->Nat) (ths:List Nat):Nat->Prop where
 | zero:Rch T ths 0
 | step {x y:Nat}:Rch T ths x->y∈ths->Rch T ths (T x y)
structure Dfs (m:Nat) (T:Nat->Nat->Nat) (ths:List Nat) (ks:List Nat) (C:Nat->Prop):Prop where
 nd:ks.Nodup
 lt : ∀ x∈ks,x < m
 z:0∈ks
 rc : ∀ x∈ks,Rch T ths x
 cl : ∀ x∈ks,C x \/ ∀ y∈ths,T x y∈ks
section
variable {m:Nat}{T:Nat->Nat->Nat}{ths ks st:List Nat}
theorem Dfs.all (d:Dfs m T ths ks fun _=>False) {x:Nat}:x∈ks↔Rch T ths x:=by
 refine⟨d.rc x,fun h => ?_⟩
 induction h with
 | zero=>exact d.z
 | step _ hy ih=>exact ((d.cl _ ih).resolve_left id) _ hy
theorem Dfs.len (d:Dfs m T ths ks C):ks.length<=m:=ue m ks d.nd d.lt
theorem Er {a b:List Nat} (ha:a.Nodup) (hb:b.Nodup) (h : ∀ x,x∈a↔x∈b):a.Perm b:=(wI ha hb).mpr fun x=>h x
noncomputable def tryD (T:Nat->Nat->Nat) (h y:Nat) (p:List Nat×List Nat):List Nat×List Nat:=if T h y∈p.1 then p else (p.1 ++ [T h y],p.2 ++ [T h y])
structure Inn (m:Nat) (T:Nat->Nat->Nat) (ths:List Nat) (h k:Nat) (p:List Nat×List Nat) (μ:Nat):Prop where
 d:Dfs m T ths p.1 fun x=>x∈p.2\/x=h
 sub : ∀ x∈p.2,x∈p.1
 hk:h∈p.1
 hh : ∀ y∈ths.take k,T h y∈p.1
 ms:2*(m - p.1.length)+p.2.length<=μ
theorem Inn.try {h k μ y:Nat}{p:List Nat×List Nat} (g:Grp m T) (ht : ∀ x∈ths,x < m) (n:Inn m T ths h k p μ) (hy:ths[k]? = some y):Inn m T ths h (k+1) (tryD T h y p) μ:=by
 have hym:y∈ths:=dc hy
 have htk:ths.take (k+1)=ths.take k ++ [y]:=by rw [List.take_add_one,hy];rfl
 unfold tryD
 split
 ·rename_i hin
  refine⟨n.d,n.sub,n.hk,fun z hz => ?_,n.ms⟩
  rw [htk] at hz
  rcases bh.mp hz with hz | hz
  ·exact n.hh z hz
  ·simp at hz;rw [hz];exact hin
 ·rename_i hin
  have nd:(p.1 ++ [T h y]).Nodup:=by
   rw [ir]
   exact⟨n.d.nd,by simp,fun a ha b hb=>by simp at hb;rintro rfl;exact hin (hb▸ha)⟩
  have hlt:T h y < m:=g.cl _ _ (n.d.lt h n.hk) (ht y hym)
  have lt : ∀ x∈p.1 ++ [T h y],x < m:=fun x hx=>by
   rcases bh.mp hx with hx | hx
   ·exact n.d.lt x hx
   ·simp at hx;omega
  refine⟨⟨nd,lt,aR _ n.d.z,fun x hx => ?_,fun x hx => ?_⟩,fun x hx => ?_,aR _ n.hk,fun z hz => ?_,?_⟩
  ·rcases bh.mp hx with hx | hx
   ·exact n.d.rc x hx
   ·simp at hx;rw [hx];exact .step (n.d.rc h n.hk) hym
  ·rcases bh.mp hx with hx | hx
   ·rcases n.d.cl x hx with (c | c) | c
    ·exact .inl (.inl (aR _ c))
    ·exact .inl (.inr c)
    ·exact .inr fun y hy=>aR _ (c y hy)
   ·exact .inl (.inl (aS _ hx))
  ·rcases bh.mp hx with hx | hx
   ·exact aR _ (n.sub x hx)
   ·exact aS _ hx
  ·rw [htk] at hz
   rcases bh.mp hz with hz | hz
   ·exact aR _ (n.hh z hz)
   ·simp at hz;rw [hz];exact aS _ (by simp)
  ·have:=ue m _ nd lt
   have:=n.ms
   simp only [aH,bR,cH] at *
   omega
structure xg (m:Nat) (T:Nat->Nat->Nat) (ths ks st:List Nat) (μ:Nat):Prop where
 d:Dfs m T ths ks fun x=>x∈st
 sub : ∀ x∈st,x∈ks
 ms:2*(m - ks.length)+st.length<=μ
theorem xg.start (hm:0 < m):xg m T ths [0] [0] (2*m):=
 ⟨⟨by simp,by simpa using hm,by simp,fun x hx=>by simp at hx;rw [hx];exact .zero,fun x hx => .inl hx⟩,fun x hx=>hx,by simp;omega⟩
theorem xg.pop {h μ:Nat} (s:xg m T ths ks (st ++ [h]) (μ+1)):Inn m T ths h 0 (ks,st) μ:=
 ⟨⟨s.d.nd,s.d.lt,s.d.z,s.d.rc,fun x hx=>(s.d.cl x hx).imp (fun c=>by simpa using c) id⟩,fun x hx=>s.sub x (aR _ hx),s.sub h (by simp),by simp,by have:=s.ms;simp only [aH,bR,cH] at this;show 2*(m - ks.length)+st.length<=μ;exact ee (by assumption)⟩
theorem Inn.done {h μ:Nat}{p:List Nat×List Nat} (n:Inn m T ths h ths.length p μ):xg m T ths p.1 p.2 μ:=
 ⟨⟨n.d.nd,n.d.lt,n.d.z,n.d.rc,fun x hx=>by
  rcases n.d.cl x hx with (c | c) | c
  ·exact .inl c
  ·subst c;exact .inr fun y hy=>n.hh y (by rw [List.take_length];exact hy)
  ·exact .inr c⟩,n.sub,n.ms⟩
end
end
end W
end
section
namespace W
open L2 G
section
section
variable {m:Nat}{T:Nat->Nat->Nat}{ths:List Nat}{S x:Sto}{v:U}
noncomputable def spR (m:Nat) (T:Nat->Nat->Nat) (v:U) (S:Sto) (r:List (Option U)):Rho := [some (tab m T),some v,some (.ref S.length),some (.ref (S.length+1))]++r
noncomputable def Wk (S:Sto) (v:U) (ths:List Nat):Prop:=v = .tup (ao ths) \/ ∃ r,v = .ref r/\S[r]? = some (.lst (ao ths))/\ths.length < 1000
noncomputable def Bg:MT:=cOf (m2 oGt (mFn bF (aa (ab 3) af)) (mC (.int 0)))
theorem Inn.st_le {h k μ:Nat}{p:List Nat×List Nat} (n:Inn m T ths h k p μ) (hμ:μ < 1000) (hm:m < 64):p.1.length < big/\p.2.length < big:=by
 have:=n.ms
 have:=n.d.len
 unfold big
 omega
theorem kU {α:Type} : ∀ {l:List α},l ≠ [] -> ∃ a b,l=a ++ [b]
 | l,h=>⟨l.dropLast,l.getLast h,(List.dropLast_concat_getLast h).symm⟩
theorem Bz {ρ:Rho}{S S1:Sto}{a:ME}{x:U} (ha:a ρ S=some (x,S1)):cM (aa a af) ρ S=some (.ref S1.length,S1 ++ [Cell.lst [x]]):=by
 have hq:1<=big:=by decide
 simp [cM,aa,af,aG,ha,hq]
end
end
end W
end
section
namespace W
open L2 G
section
noncomputable def tups (ls:List (List Nat)):List U:=ls.map fun l=>U.tup (ao l)
open PySem in
structure Sml (ls:List (List Nat)):Prop where
 len:ls.length<=64
 each : ∀ l∈ls,l.length<=64
 lt : ∀ l∈ls,∀ x∈l,x < 1000
open PySem in
open PySem in
open PySem in
theorem yr {l:List Nat}{x:Nat}:inV (.int x) (l.map fun (y:Nat)=>V.int y)=decide (x∈l):=by
 unfold inV
 rw [List.any_map]
 by_cases h:x∈l
 ·rw [decide_eq_true h,tE]
  exact⟨x,h,by simp [eqV]⟩
 ·rw [decide_eq_false h,List.any_eq_false]
  intro y hy
  have:y≠x:=fun e=>h (e▸hy)
  simp [eqV];omega
theorem og : ∀ (l:List Nat),de eK (ao l)=some (l.map fun (y:Nat)=>V.int y)
 | []=>rfl
 | x::l=>by
   show (eK (.int x)).bind _=_
   simp only [eK,ai]
   have:=og l
   unfold ao at this
   rw [this];rfl
noncomputable def atM:MS:=bV (lP (iR1 (aa (mFn bF (aa (ab 0) af)) af)))
theorem IT {m:Nat}{T:Nat->Nat->Nat}{S:Sto} (hm:m < 1000):G.run 1 1 atM [tab m T] S=some (.tup (ao (aB m)),S):=by
 refine cy (ρ := [some (tab m T)]) rfl (cx ?_)
 have e1:=nN (ρ := [some (tab m T)]) (S:=S) (a:=mFn bF (aa (ab 0) af)) (n:=m) (len_tab (var_eq rfl)) (by unfold big;exact ae (by assumption) (by decide))
 have e2:bo 0 m=ao (aB m):=by
  unfold bo ao
  apply aT
  intro k _
  simp
 rw [e2] at e1
 have hz:(ao (aB m)).length<=big:=by rw [cu,bu];unfold big;omega
 show lP (iR1 (aa (mFn bF (aa (ab 0) af)) af)) [some (tab m T)] S=_
 simp only [lP,e1,aG,hz,if_true]
section
variable {m:Nat}{T:Nat->Nat->Nat}{part:List Nat}{S:Sto}
end
end
end W
end
section
namespace W
open L2 G
section
theorem jM {t:MT}{e:ME}{ρ:Rho}{S:Sto}{p:U->Bool}{f:U->U} : ∀ (us acc:List U),(∀ u∈us,t (ρ ++ [some u]) S=some (p u,S))->(∀ u∈us,p u=true->e (ρ ++ [some u]) S=some (f u,S)) ->
  gH t e ρ us acc S=some (acc++(us.filter p).map f,S)
 | [],acc,_,_=>by simp [gH]
 | u::us,acc,ht,he=>by
   unfold gH
   rw [ht u (by simp)]
   simp only [aG]
   cases hp:p u with
   | true=>
     rw [if_pos rfl,he u (by simp) hp]
     simp only [aG]
     rw [jM us _ (fun v hv=>ht v (aA _ hv)) (fun v hv=>he v (aA _ hv)),List.filter_cons_of_pos hp]
     simp
   | false=>
     rw [if_neg bJ,jM us _ (fun v hv=>ht v (aA _ hv)) (fun v hv=>he v (aA _ hv)),List.filter_cons_of_neg (by rw [hp];decide)]
theorem zR {t:MT}{e a:ME}{ρ:Rho}{S S1:Sto}{us:List U}{p:U->Bool}{f:U->U} (ha:a ρ S=some (.tup us,S1)) (hl:us.length < big) (ht : ∀ u∈us,t (ρ ++ [some u]) S1=some (p u,S1)) (he : ∀ u∈us,p u=true->e (ρ ++ [some u]) S1=some (f u,S1)) :
  bZ (da a) t e ρ S=some (.ref S1.length,S1 ++ [.lst ((us.filter p).map f)]):=by
 have hi:da a ρ S=some (.imm us,S1):=by simp only [da,ha,aG]
 have e1:=jM us [] ht he
 rw [dF] at e1
 refine nv hi e1 ?_
 have:=iI p us
 rw [av];exact aE (by assumption) (by assumption)
theorem qN {t:MT}{e a:ME}{ρ:Rho}{S S1:Sto}{l:List Nat}{p:Nat->Bool}{f:Nat->U} (ha:a ρ S=some (.tup (ao l),S1)) (hl:l.length < big) (ht : ∀ x∈l,t (ρ ++ [some (.int x)]) S1=some (p x,S1)) (he : ∀ x∈l,p x=true->e (ρ ++ [some (.int x)]) S1=some (f x,S1)) :
  bZ (da a) t e ρ S=some (.ref S1.length,S1 ++ [.lst ((l.filter p).map f)]):=by
 have nat : ∀ u∈ao l,∃ x∈l,u = .int (x:Nat):=fun u hu=>by
  obtain⟨x,hx,rfl⟩:=bb.mp hu;exact⟨x,hx,rfl⟩
 let g:U->Nat:=fun u=>match u with | .int i=>i.toNat | _=>0
 have gx : ∀ x:Nat,g (.int x)=x:=fun x=>by simp [g]
 have h:=zR (t:=t) (e:=e) (p:=fun u=>p (g u)) (f:=fun u=>f (g u)) ha (by rw [cu];exact hl) (fun u hu=>by
  obtain⟨x,hx,rfl⟩:=nat u hu
  rw [gx];exact ht x hx) (fun u hu hp=>by
  obtain⟨x,hx,rfl⟩:=nat u hu
  rw [gx] at hp ⊢;exact he x hx hp)
 rw [h]
 have:((ao l).filter fun u=>p (g u)).map (fun u=>f (g u))=(l.filter p).map f:=by
  unfold ao
  rw [List.filter_map,bL]
  have e1:(fun u=>p (g u))∘(fun (x:Nat)=>U.int x)=p:=by funext x;simp [gx]
  have e2:(fun u=>f (g u))∘(fun (x:Nat)=>U.int x)=f:=by funext x;simp [gx]
  rw [e1,e2]
 rw [this]
theorem tm {t:MT}{e a:ME}{ρ:Rho}{S S1:Sto}{l:List Nat}{p:Nat->Bool}{f:Nat->U} (ha:a ρ S=some (.tup (ao l),S1)) (hl:l.length < 1000) (ht : ∀ x∈l,t (ρ ++ [some (.int x)]) S1=some (p x,S1)) (he : ∀ x∈l,p x=true->e (ρ ++ [some (.int x)]) S1=some (f x,S1)) :
  bZ (da a) t e ρ S=some (.ref S1.length,S1 ++ [.lst ((l.filter p).map f)]):=
 qN ha (by unfold big;exact ae (by assumption) (by decide)) ht he
theorem EG {ρ:Rho}{S S1 S2:Sto}{a b:ME}{x:Nat}{l:List Nat} (ha:a ρ S=some (.int x,S1)) (hb:b ρ S1=some (.tup (ao l),S2)):cOf (m2 fS a b) ρ S=some (!decide (x∈l),S2):=by
 refine of_eq (op2 ha hb ?_)
 simp only [fS,fv,eK,ai,dI,og,aV,yr]
theorem xu {ρ:Rho}{S S1 S2:Sto}{a b:ME}{x y:U} (ha:a ρ S=some (x,S1)) (hb:b ρ S1=some (y,S2)):cK (aa a (aa b af)) ρ S=some (.tup [x,y],S2):=by
 have hb2:2<=big:=by decide
 simp [cK,aa,af,ha,hb,aG,hb2]
theorem qy {m:Nat}{T:Nat->Nat->Nat}{S:Sto} (g:Grp m T) {i:Nat} (hi:i < m):G.run 2 2 (bV (mMT dA (m2 oIx (ab 0) (ab 1)) (aa (mC (.int 0)) af))) [tab m T,.int i] S=some (.int (unT m T i),S):=by
 have h0:=HQ g hi
 have e:=jK (ρ := [some (tab m T),some (.int i)]) (S:=S) (a:=ab 0) (b:=ab 1) hi (var_eq rfl) (var_eq rfl)
 rw [Ce] at e
 exact cy (ρ := [some (tab m T),some (.int i)]) rfl (cx (nH (x:=0) e c_i h0))
section
variable {m:Nat}{T:Nat->Nat->Nat}{st left:List Nat}{S:Sto}
noncomputable def prU (T:Nat->Nat->Nat) (h s:Nat):U := .tup [.int s,.int (T h s:Nat)]
theorem Ft {f:MF}{ρ:Rho}{S S1 S2 S3 S4:Sto}{a b c d:ME}{x y z v:U}{r:Res U} (ha:a ρ S=some (x,S1)) (hb:b ρ S1=some (y,S2)) (hc:c ρ S2=some (z,S3)) (hd:d ρ S3=some (v,S4)) (h:f [x,y,z,v] S4=r):mFn f (aa a (aa b (aa c (aa d af)))) ρ S=r:=by
 simp only [mFn,aa,af,ha,hb,hc,hd,aG,h]
theorem Hc {ρ:Rho}{S S1 S2:Sto}{a b:ME}{x y:List Nat} (ha:a ρ S=some (.tup (ao x),S1)) (hb:b ρ S1=some (.tup (ao y),S2)) (hl:x.length+y.length<=big):m2 bW a b ρ S=some (.tup (ao (x++y)),S2):=by
 refine op2 ha hb ?_
 simp only [bW]
 rw [if_pos (by rw [cu,cu];exact hl)]
 simp [ao]
theorem tj {ρ:Rho}{S S1 S2:Sto}{a b:ME}{x y:List Nat} (ha:a ρ S=some (.tup (ao x),S1)) (hb:b ρ S1=some (.tup (ao y),S2)) (hl:x.length+y.length < 1000):m2 bW a b ρ S=some (.tup (ao (x++y)),S2):=
 Hc ha hb (by unfold big;omega)
end
end
end W
end
section
namespace W
open L2 G
section
abbrev Nod:=List Nat×List Nat
noncomputable def lnU (p:Nod):U := .tup [.tup (ao p.1),.tup (ao p.2)]
noncomputable def lnD (p:Nod):lK := .tuple [JI p.1,JI p.2]
theorem Ha {S:Sto}{f:Nat} (p:Nod):toD S (f+3) (lnU p)=some (lnD p):=by
 show (de (toD S (f+2)) [.tup (ao p.1),.tup (ao p.2)]).map _=_
 simp only [de,qC,ai,aV]
 rfl
theorem yv {S:Sto}{f:Nat} : ∀ (ls:List Nod),de (toD S (f+3)) (ls.map lnU)=some (ls.map lnD)
 | []=>rfl
 | p::ls=>by
   show (toD S (f+3) (lnU p)).bind _=_
   rw [Ha]
   simp only [ai]
   rw [yv ls]
   rfl
theorem yF {S:Sto}{n:Nat}{ls:List Nod} (h:S[n]? = some (Cell.lst (ls.map lnU))):toD S 40 (.ref n)=some (.list (ls.map lnD)):=by
 show (getL S n).bind _=_
 unfold getL
 rw [h]
 simp only [ai]
 rw [yv (f:=36)]
 rfl
theorem GL {ρ:Rho}{S S1 S2:Sto}{a b:ME}{n k:Nat}{x:List Nod} (ha:a ρ S=some (.ref n,S1)) (hb:b ρ S1=some (.ref k,S2)) (hn:S2[n]? = some (Cell.lst (x.map lnU))) (hk:S2[k]? = some (Cell.lst [])):m2 oNe a b ρ S=some (.bl (!decide (x = [])),S2):=by
 refine op2 ha hb ?_
 have e2:toD S2 40 (.ref k)=some (.list []):=by
  have:=yF (S:=S2) (n:=k) (ls := []) hk
  simpa using this
 simp only [oNe,G.eqU,yF hn,e2,ai,aV,fq]
 cases x <;> simp [d0]
noncomputable def ef (th:List Nat):Nat:=(th.getLast?).getD 0
theorem md {l:List Nat}{x:Nat}:ef (l ++ [x])=x:=by simp [ef]
theorem yn {th:List Nat} (h:th ≠ []):atI (ao th) (-1)=some (.int (ef th:Nat)):=by
 obtain⟨l,x,rfl⟩:=kU h
 rw [md]
 have hl:(ao (l ++ [x])).length=l.length+1:=by simp [ao]
 unfold atI
 have:L2.ixN (ao (l ++ [x])).length (-1)=some l.length:=by
  rw [hl];unfold L2.ixN
  rw [if_neg (by decide),if_pos (by omega)]
  congr 1;omega
 rw [this]
 simp [ao]
theorem qh {m:Nat}{th:List Nat} (h:th ≠ []) (hl : ∀ x∈th,x < m):ef th < m:=by
 obtain⟨l,x,rfl⟩:=kU h
 rw [md];exact hl x (by simp)
noncomputable def kids (T:Nat->Nat->Nat) (st:List Nat) (p:Nod):List Nod:=(st.filter fun s => !decide (T (ef p.2) s∈p.2)).map fun s=>(p.1 ++ [s],p.2 ++ [T (ef p.2) s])
noncomputable def j4 (T:Nat->Nat->Nat) (st:List Nat) (L:Nod->List (List Nat)):Nat->Nod->List (List Nat)
 | 0,p=>L p
 | k+1,p=>(kids T st p).flatMap (j4 T st L k)
theorem qc {e:ME}{ρ:Rho}{n c:Nat}{S:Sto}{us:List U}{f:U->U} (hu:getL S n=some us) (he : ∀ u∈us,∃ ws,zb c u=some ws/\e (ρ++ws.map some) S=some (f u,S)) :
  ∀ (k i:Nat) (acc:List U),i<=us.length->us.length - i < k->gY c cTT e ρ n k i acc S=some (acc++(us.drop i).map f,S)
 | 0,i,acc,h1,h2=>by omega
 | k+1,i,acc,h1,h2=>by
   unfold gY
   rw [hu]
   simp only [ai]
   by_cases hi:i < us.length
   ·have hd:us.drop i=us[i]::us.drop (i+1):=xR hi
    obtain⟨ws,e1,e2⟩:=he _ (lr hi)
    rw [bU hi]
    simp only
    rw [e1]
    simp only [ai,cTT,aG,if_true]
    rw [e2]
    simp only [aG]
    have ih:=qc hu he k (i+1) (acc ++ [f us[i]]) (by assumption) (by omega)
    rw [ih,hd,be,aM]
    rfl
   ·rw [List.getElem?_eq_none (by exact eN (by assumption)),List.drop_of_length_le (by exact eN (by assumption))]
    simp
noncomputable def bX (S:Sto) (F:List (List Nat)) (ln:List Nod) (x:Sto):Sto:=S ++ [.lst (tups F),.lst (ln.map lnU)]++x
section
variable {m:Nat}{T:Nat->Nat->Nat}{st:List Nat}{S x:Sto}{F:List (List Nat)}{ln:List Nod}{ρ:Rho}
theorem eF {c:Cell}:bX S F ln x ++ [c]=bX S F ln (x ++ [c]):=by simp [bX]
theorem uU {i n h:Nat}{he:ME}{p:Nod} (hh:h < m) (hs : ∀ s∈st,s < m) (hsl:st.length < 1000) (hp1:p.1.length < 400) (hp2:p.2.length < 400) (hln:ln.length < 100000) (hl:ef p.2=h)
  (h0':ρ[0]? = some (some (tab m T))) (h1':ρ[1]? = some (some (.tup (ao st)))) (h4:ρ[4]? = some (some (.ref (S.length+1)))) (h5:ρ[5]? = some (some (.tup (ao p.1)))) (h6:ρ[6]? = some (some (.tup (ao p.2)))) (hn:ρ.length=n) (hi:i < n) (hi6:6 < i)
  (hhe : ∀ z (S:Sto),he (ρ++z) S=some (.int (h:Nat),S)) :
  ∃ v x',aZ (bA i (bZ (da (ab 1)) (cOf (m2 fS (m2 oIx (m2 oIx (ab 0) he) (ab n)) (ab 6))) (cK (aa (ab n) (aa (m2 oIx (m2 oIx (ab 0) he) (ab n)) af))))) (df (mML et (ab 4) (aa (iP 2 (da (m1 mB (ab i))) cTT (cK (aa (m2 bW (ab 5) (cK (aa (ab n) af))) (aa (m2 bW (ab 6) (cK (aa (ab (n+1)) af))) af)))) af))) ρ (bX S F ln x) =
   some (.nx,ρ.set i v,bX S F (ln++(kids T st p).reverse) x'):=by
 have ap : ∀ {j:Nat}{v:Option U}{z:Rho},ρ[j]? = some v->(ρ++z)[j]? = some v:=fun {j v z} e=>by
  have:=(ah.mp e).1
  rw [aI this];exact e
 have apn : ∀ {v:Option U}{z:Rho},(ρ++(v::z))[n]? = some v:=fun {v z}=>by rw [ar (by exact mQ (by assumption)),hn];simp
 have ev : ∀ (s:Nat) (S':Sto),s∈st->m2 oIx (m2 oIx (ab 0) he) (ab n) (ρ ++ [some (.int s)]) S'=some (.int (T h s:Nat),S'):=fun s S' hs'=>kA (T:=T) (i:=h) (j:=s) (hs s hs') (jK hh (var_eq (ap h0')) (hhe _ _)) (var_eq apn)
 have e1:=tm (t:=cOf (m2 fS (m2 oIx (m2 oIx (ab 0) he) (ab n)) (ab 6))) (e:=cK (aa (ab n) (aa (m2 oIx (m2 oIx (ab 0) he) (ab n)) af))) (ρ:=ρ) (S:=bX S F ln x) (a:=ab 1) (l:=st) (p:=fun s => !decide (T h s∈p.2)) (f:=prU T h) (var_eq h1') hsl (fun s hs'=>EG (ev s _ hs') (var_eq (ap h6))) (fun s hs' _=>xu (var_eq apn) (ev s _ hs'))
 generalize hfr:(st.filter fun s => !decide (T h s∈p.2))=fr at e1
 have hfl:fr.length<=st.length:=by rw [<- hfr];exact iI _ _
 have g7:(ρ.set i (some (.ref (bX S F ln x).length)))[i]? = some (some (.ref (bX S F ln x).length)):=aU (by omega)
 have ne : ∀ {j:Nat}{v w:Option U},j≠i->ρ[j]? = some v->(ρ.set i w)[j]? = some v:=fun {j v w} hj e=>by rw [aF (by omega)];exact e
 have hlen:(ρ.set i (some (.ref (bX S F ln x).length))).length=n:=by simp [hn]
 rw [eF] at e1
 have c1:(bX S F ln (x ++ [Cell.lst (fr.map (prU T h))]))[(bX S F ln x).length]? = some (Cell.lst (fr.map (prU T h))):=by rw [<- eF];exact d5 _ _
 have e2:m1 mB (ab i) (ρ.set i (some (.ref (bX S F ln x).length))) (bX S F ln (x ++ [Cell.lst (fr.map (prU T h))]))=some (.ref (bX S F ln (x ++ [Cell.lst (fr.map (prU T h))])).length,bX S F ln (x ++ [Cell.lst (fr.map (prU T h))] ++ [Cell.lst (fr.reverse.map (prU T h))])):=by
  simp only [m1,var_eq g7,aG,mB,getL,c1,aV]
  rw [eF,lz]
 have c2:(bX S F ln (x ++ [Cell.lst (fr.map (prU T h))] ++ [Cell.lst (fr.reverse.map (prU T h))]))[(bX S F ln (x ++ [Cell.lst (fr.map (prU T h))])).length]? = some (Cell.lst (fr.reverse.map (prU T h))):=by rw [<- eF];exact d5 _ _
 generalize hS2:bX S F ln (x ++ [Cell.lst (fr.map (prU T h))] ++ [Cell.lst (fr.reverse.map (prU T h))])=S2 at e2 c2
 generalize hr2:(bX S F ln (x ++ [Cell.lst (fr.map (prU T h))])).length=r2 at e2 c2
 have hg2:getL S2 r2=some (fr.reverse.map (prU T h)):=by unfold getL;rw [c2]
 have e3:=qc (c:=2) (e:=cK (aa (m2 bW (ab 5) (cK (aa (ab n) af))) (aa (m2 bW (ab 6) (cK (aa (ab (n+1)) af))) af))) (ρ:=ρ.set i (some (.ref (bX S F ln x).length))) (f:=fun u=>match u with | .tup [.int a,.int b]=>lnU (p.1 ++ [a.toNat],p.2 ++ [b.toNat]) | _ => .non) hg2 (by
  intro u hu
  obtain⟨s,_,rfl⟩:=bb.mp hu
  refine⟨[.int s,.int (T h s:Nat)],rfl,?_⟩
  have ap2 : ∀ {j:Nat}{v:Option U}{z:Rho},(ρ.set i (some (.ref (bX S F ln x).length)))[j]? = some v->(ρ.set i (some (.ref (bX S F ln x).length))++z)[j]? = some v:=fun {j v z} e=>by
   have:=(ah.mp e).1
   rw [aI this];exact e
  have q1:(ρ.set i (some (.ref (bX S F ln x).length))++([.int s,.int (T h s:Nat)]:List U).map some)[n]? = some (some (.int s)):=by rw [ar (by exact mQ (by assumption)),hlen];simp
  have q2:(ρ.set i (some (.ref (bX S F ln x).length))++([.int s,.int (T h s:Nat)]:List U).map some)[n+1]? = some (some (.int (T h s:Nat))):=by rw [ar (by omega),hlen];simp
  refine (xu (tj (x:=p.1) (y := [s]) (var_eq (ap2 (ne (by omega) h5))) (AB (var_eq q1)) (by simp;exact aE (by assumption) (by decide))) (tj (x:=p.2) (y := [T h s]) (var_eq (ap2 (ne (by exact aP (by assumption)) h6))) (AB (var_eq q2)) (by simp;exact aE (by assumption) (by decide)))).trans ?_
  simp [prU,lnU]) fuel 0 [] (dB _) (by rw [av,cQ];unfold fuel;exact aE (by assumption) (ae (by assumption) (by decide)))
 rw [List.drop_zero,dF,bL] at e3
 have hk:(fr.reverse.map ((fun u=>match u with | .tup [.int a,.int b]=>lnU (p.1 ++ [a.toNat],p.2 ++ [b.toNat]) | _ => .non)∘prU T h))=((kids T st p).reverse).map lnU:=by
  unfold kids
  rw [hl,hfr,<- lz,bL]
  apply aT
  intro s _
  simp [prU]
 rw [hk] at e3
 have hkl:(kids T st p).reverse.length < 1000:=by
  rw [cQ];unfold kids;rw [av,hl,hfr];exact aE (by assumption) (by assumption)
 have e4:iP 2 (da (m1 mB (ab i))) cTT (cK (aa (m2 bW (ab 5) (cK (aa (ab n) af))) (aa (m2 bW (ab 6) (cK (aa (ab (n+1)) af))) af))) (ρ.set i (some (.ref (bX S F ln x).length))) (bX S F ln (x ++ [Cell.lst (fr.map (prU T h))]))=some (.ref S2.length,S2 ++ [.lst (((kids T st p).reverse).map lnU)]):=by
  have hi2:da (m1 mB (ab i)) (ρ.set i (some (.ref (bX S F ln x).length))) (bX S F ln (x ++ [Cell.lst (fr.map (prU T h))]))=some (.mut r2,S2):=by simp only [da,e2,aG,hg2,aV]
  simp only [iP,hi2,aG,Ca,e3]
  exact if_pos (by rw [av];unfold big;exact ae (by assumption) (by decide))
 have c3:(S2 ++ [Cell.lst (((kids T st p).reverse).map lnU)])[S.length+1]? = some (.lst (ln.map lnU)):=by rw [<- hS2,eF];exact h1
 have c4:(S2 ++ [Cell.lst (((kids T st p).reverse).map lnU)])[S2.length]? = some (.lst (((kids T st p).reverse).map lnU)):=d5 _ _
 have c5:(bX S F ln (x ++ [Cell.lst (fr.map (prU T h))]))[S.length+1]? = some (.lst (ln.map lnU)):=h1
 refine⟨some (.ref (bX S F ln x).length),x ++ [Cell.lst (fr.map (prU T h))] ++ [Cell.lst (fr.reverse.map (prU T h))] ++ [Cell.lst (((kids T st p).reverse).map lnU)],(aY (bO e1)).trans ?_⟩
 have e5:mML et (ab 4) (aa (iP 2 (da (m1 mB (ab i))) cTT (cK (aa (m2 bW (ab 5) (cK (aa (ab n) af))) (aa (m2 bW (ab 6) (cK (aa (ab (n+1)) af))) af)))) af) (ρ.set i (some (.ref (bX S F ln x).length))) (bX S F ln (x ++ [Cell.lst (fr.map (prU T h))]))=some (.non,bX S F (ln++(kids T st p).reverse) (x ++ [Cell.lst (fr.map (prU T h))] ++ [Cell.lst (fr.reverse.map (prU T h))] ++ [Cell.lst (((kids T st p).reverse).map lnU)])):=by
  simp only [mML,var_eq (ne (by omega) h4),aG,getL,c5,ai,aa,af,e4,et,c3,c4]
  rw [if_pos (by rw [av,av];unfold big;omega)]
  congr 2
  rw [<- hS2,eF]
  show (S ++ [_,_]++_).set (S.length+1) _=_
  rw [t1]
  simp [bX]
 simp only [df,e5,aG]
noncomputable def vX:MT:=qQ (cOf (m2 oNe (ab 4) (cM af))) (cOf (m2 oLt (mFn bF (aa (ab 3) af)) (ab 2)))
theorem xV {most:Nat} (h2:ρ[2]? = some (some (.int most))) (h3:ρ[3]? = some (some (.ref S.length))) (h4:ρ[4]? = some (some (.ref (S.length+1)))) :
  vX ρ (bX S F ln x)=some (!decide (ln = [])&&decide (F.length < most),bX S F ln (x ++ [.lst []])):=by
 have e1:cOf (m2 oNe (ab 4) (cM af)) ρ (bX S F ln x)=some (!decide (ln = []),bX S F ln (x ++ [.lst []])):=by
  refine of_eq (GL (var_eq h4) (i5.trans (by rw [eF])) h1 ?_)
  rw [<- eF];exact d5 _ _
 have e2:cOf (m2 oLt (mFn bF (aa (ab 3) af)) (ab 2)) ρ (bX S F ln (x ++ [.lst []]))=some (decide (F.length < most),bX S F ln (x ++ [.lst []])):=by
  have:=of_eq (JM (ρ:=ρ) (S:=bX S F ln (x ++ [.lst []])) (a:=mFn bF (aa (ab 3) af)) (b:=ab 2) (vG (var_eq h3) h0) (var_eq h2))
  rw [this]
  congr 2
  simp [tups]
 exact and_eq e1 e2 fun _=>rfl
theorem ye {p:Nod} (h4:ρ[4]? = some (some (.ref (S.length+1)))) :
  vq (mML lG (ab 4) af) (gTp 2 (gp (gN 5) (gp (gN 6) qR))) ρ (bX S F (ln ++ [p]) x)=some (.nx,(ρ.set 5 (some (.tup (ao p.1)))).set 6 (some (.tup (ao p.2))),bX S F ln x):=by
 have e1:mML lG (ab 4) af ρ (bX S F (ln ++ [p]) x)=some (lnU p,bX S F ln x):=by
  have c:(bX S F (ln ++ [p]) x)[S.length+1]? = some (.lst ((ln ++ [p]).map lnU)):=h1
  simp only [mML,var_eq h4,aG,getL,c,ai,af,lG]
  simp only [bS,be,iq,aH,bR,cH,Da]
  rw [ar (by simp)]
  simp only [av,Nat.add_sub_cancel_left,d9,Nat.add_sub_cancel,se,ly,aV]
  congr 2
  exact t1
 simp only [vq,e1,aG]
 rfl
end
noncomputable def gv (b:Nat):Nat->Nat
 | 0=>1
 | k+1=>1+b*gv b k
noncomputable def msr (b m:Nat) (ln:List Nod):Nat:=(ln.map fun p=>gv b (m - 1 - p.1.length)).sum
noncomputable def rest (T:Nat->Nat->Nat) (st:List Nat) (L:Nod->List (List Nat)) (m:Nat) (ln:List Nod):List (List Nat):=ln.reverse.flatMap fun p=>j4 T st L (m - 1 - p.1.length) p
structure Nd (m:Nat) (p:Nod):Prop where
 le:p.1.length<=m - 1
 len:p.2.length=p.1.length+1
 lt : ∀ x∈p.2,x < m
section
variable {m:Nat}{T:Nat->Nat->Nat}{st:List Nat}{L:Nod->List (List Nat)}{ln:List Nod}{p:Nod}
theorem oC {b k:Nat}:1<=gv b k:=by cases k <;> simp [gv]
theorem yB {b:Nat}{a c:List Nod}:msr b m (a++c)=msr b m a+msr b m c:=by simp [msr]
theorem m8 {b:Nat} : ∀ ln:List Nod,ln.length<=msr b m ln
 | []=>by simp
 | p::ln=>by
   have:=m8 (b:=b) ln
   have:=oC (b:=b) (k:=m - 1 - p.1.length)
   simp only [msr,be,y0,bR] at *
   omega
theorem ug (g:Grp m T) (hs : ∀ s∈st,s < m) (n:Nd m p) (h:p.1.length < m - 1) {q:Nod} (hq:q∈kids T st p):Nd m q/\q.1.length=p.1.length+1:=by
 obtain⟨s,hs1,rfl⟩:=bb.mp hq
 have hsm:=(fh.mp hs1).1
 have hne:p.2 ≠ []:=by intro z;have:=n.len;rw [z] at this;simp at this
 refine⟨⟨by simp;assumption,by simp [n.len],fun x hx => ?_⟩,by simp⟩
 rcases bh.mp hx with hx | hx
 ·exact n.lt x hx
 ·simp at hx;rw [hx];exact g.cl _ _ (qh hne n.lt) (hs s hsm)
theorem Bh (g:Grp m T) (hs : ∀ s∈st,s < m) (n:Nd m p) (h:p.1.length < m - 1):msr st.length m (kids T st p).reverse+1<=msr st.length m [p]:=by
 have hk:(kids T st p).length<=st.length:=by unfold kids;rw [av];exact iI _ _
 have e1 : ∀ q∈(kids T st p).reverse,gv st.length (m - 1 - q.1.length)=gv st.length (m - 1 - p.1.length - 1):=fun q hq=>by
  rw [(ug g hs n h (eI.mp hq)).2];congr 1
 have e2:msr st.length m (kids T st p).reverse=(kids T st p).length*gv st.length (m - 1 - p.1.length - 1):=by
  unfold msr
  rw [aT e1,List.map_const',List.sum_replicate_nat,cQ]
 obtain⟨k,hk2⟩ : ∃ k,m - 1 - p.1.length=k+1:=⟨m - 1 - p.1.length - 1,by omega⟩
 rw [e2]
 simp only [msr,be,iq,y0,List.sum_nil,mR]
 rw [hk2,Nat.add_sub_cancel,gv]
 have:=fT (gv st.length k) hk
 omega
theorem xf (h:p.1.length < m - 1) (hk : ∀ q∈kids T st p,q.1.length=p.1.length+1):rest T st L m (ln++(kids T st p).reverse)=rest T st L m (ln ++ [p]):=by
 unfold rest
 rw [jn,Dc,jn,oS,oS]
 congr 1
 obtain⟨k,hk2⟩ : ∃ k,m - 1 - p.1.length=k+1:=⟨m - 1 - p.1.length - 1,by omega⟩
 simp only [dD,List.reverse_nil,dF,List.flatMap_cons,List.flatMap_nil,gM]
 rw [hk2,j4]
 rw [List.flatMap_def,List.flatMap_def]
 congr 1
 apply aT
 intro q hq
 rw [hk q hq]
 congr 1
 omega
theorem zv (h:p.1.length=m - 1):rest T st L m (ln ++ [p])=L p++rest T st L m ln:=by
 unfold rest
 rw [jn,oS]
 congr 1
 simp [h,j4]
end
end
end W
end
section
namespace W
open L2 G
section
theorem xr {ρ:Rho}{S S0:Sto}{i:Nat}{a:ME}{n:Nat}{b:MS} (ha:a ρ S=some (.int n,S0)) (h:n < big) (P:Nat->Rho->Sto->Prop) (h0:P 0 ρ S0)
  (hs : ∀ (j:Nat) (ρ:Rho) (S:Sto),j < n->P j ρ S -> ∃ ρ' S',b (ρ.set i (some (.int j))) S=some (.nx,ρ',S')/\P (j+1) ρ' S') :
  ∃ ρ' S',eo i (iR1 (aa a af)) b ρ S=some (.nx,ρ',S')/\P n ρ' S':=by
 obtain⟨ρ',S',e1,p1⟩:=nQ (i:=i) (b:=b) P (bo 0 n) 0 ρ S0 h0 fun j u ρ S hj hp=>by
  have hl:j < n:=by have:=(ah.mp hj).1;simpa [bo] using this
  have hu:(bo 0 n)[j]? = some (.int j):=by simp [bo,hl]
  rw [hu] at hj;cases hj
  simpa using hs j ρ S hl (by simpa using hp)
 have hlen:(bo 0 n).length=n:=by simp [bo]
 rw [hlen,d9] at p1
 refine⟨ρ',S',?_,p1⟩
 unfold eo
 rw [nN ha h]
 exact e1
theorem JK {ρ:Rho}{S S1 S2:Sto}{a b:ME}{x y:Nat} (ha:a ρ S=some (.int x,S1)) (hb:b ρ S1=some (.int y,S2)):mFn oY (aa a (aa b af)) ρ S=some (.int (min x y:Nat),S2):=by
 refine b0 ha hb ?_
 show some (U.int (if (y:Int) < x then (y:Int) else x),S2)=_
 congr 3
 split <;> omega
noncomputable def yA:MS:=df (mML cj (ab 4) (aa (mML jj (ab 3) (aa (mFn aL (aa (ab 0) (aa (mFn bF (aa (ab 3) af)) af))) af)) af))
noncomputable def BP:MS:=aZ (bA 3 (gU (iR2 (aa (mC (.int 1)) (aa (mFn bF (aa (ab 1) af)) af))))) (aZ (bA 4 (cM af)) (aZ (eo 5 (iR1 (aa (mFn oY (aa (mFn bF (aa (ab 3) af)) (aa (m2 bW (mC (.int 1)) (mFn aL (aa (ab 0) (aa (ab 2) af)))) af))) af)) yA) (bV (mFn bD (aa (mFn dG (aa (ab 4) af)) af)))))
theorem zq {n m most:Nat}{T:Nat->Nat->Nat}{S:Sto} (h:lD n S) (g:Grp m T) (hm:m < 60) (hmo:0 < most) (hmo2:most < 60) : ∃ w S',G.run 3 6 BP [.ref n,tab m T,.int (most:Nat)] S=some (.tup (ao w),S')/\Stp n S S'/\(∀ x∈w,x < m)/\w.length<=most/\w.length < 60/\w.Nodup/\(∀ x∈w,x≠0)/\(1 < m->w ≠ [])/\srt w=w:=by
 have hp:=g.pos
 have hbig:m < big:=by unfold big;exact ae (by assumption) (by decide)
 have hn:=h.lt
 have e1:gU (iR2 (aa (mC (.int 1)) (aa (mFn bF (aa (ab 1) af)) af))) [some (.ref n),some (tab m T),some (.int (most:Nat)),none,none,none] S=some (.ref S.length,S ++ [Cell.lst (ao (bM 1 (m - 1)))]):=by
  rw [sk (i:=1) (j:=m) rfl (len_tab (var_eq rfl)) ⟨by decide,by decide⟩ (pd hbig) (by rw [jN m (by assumption)];simp [ao];omega),jN m (by assumption)]
 have e2:cM af [some (.ref n),some (tab m T),some (.int (most:Nat)),some (.ref S.length),none,none] (S ++ [Cell.lst (ao (bM 1 (m - 1)))])=some (.ref (S.length+1),S ++ [Cell.lst (ao (bM 1 (m - 1)))] ++ [Cell.lst []]):=i5.trans (by simp)
 generalize hS2:S ++ [Cell.lst (ao (bM 1 (m - 1)))] ++ [Cell.lst []]=S2 at e2
 have x2:Ex S S2:=⟨_,by rw [<- hS2,aM]⟩
 have g3:S2[S.length]? = some (Cell.lst (ao (bM 1 (m - 1)))):=by rw [<- hS2,aM,ar (ak _)];simp
 have g4:S2[S.length+1]? = some (Cell.lst (ao [])):=by rw [<- hS2,aM,ar (by exact d8 _)];simp [ao]
 have st2:Stp n S S2:=Stp.ex h x2
 obtain⟨r,S3,e3,hr,st3⟩:=gS (m:=most) st2.st hmo (by exact ae (by assumption) (by decide))
 have hlen:(bM 1 (m - 1)).length=m - 1:=by simp
 have e4:mFn oY (aa (mFn bF (aa (ab 3) af)) (aa (m2 bW (mC (.int 1)) (mFn aL (aa (ab 0) (aa (ab 2) af)))) af)) [some (.ref n),some (tab m T),some (.int (most:Nat)),some (.ref S.length),some (.ref (S.length+1)),none] S2=some (.int (min (m - 1) (1+r):Nat),S3):=by
  refine JK (x:=m - 1) (y:=1+r) ?_ (add_n (x:=1) (y:=r) c_i (b0 (var_eq rfl) (var_eq rfl) e3))
  have:=vG (ρ := [some (.ref n),some (tab m T),some (.int (most:Nat)),some (.ref S.length),some (.ref (S.length+1)),none]) (S:=S2) (a:=ab 3) (var_eq rfl) g3
  rw [this,cu,hlen]
 obtain⟨ρ5,S5,e5,a5,l5,w5,rfl,q3,q4,q5,q6,q7,q8,st5⟩:=xr (i:=5) (b:=yA) e4 (by unfold big;omega)
  (fun k ρ S' => ∃ a l w,ρ = [some (.ref n),some (tab m T),some (.int (most:Nat)),some (.ref S.length),some (.ref (S.length+1)),a]/\S'[S.length]? = some (Cell.lst (ao l))/\S'[S.length+1]? = some (Cell.lst (ao w))/\l.length+k=m - 1/\w.length=k/\(∀ x∈l,x < m)/\(w++l).Perm (bM 1 (m - 1))/\Stp n S S')
  ⟨none,bM 1 (m - 1),[],rfl,st3.some (by exact cZ (by assumption)) g3,st3.some (by omega) g4,by rw [hlen];rfl,rfl,fun x hx=>by have:=rh.mp hx;omega,by simp,st2.trans st3⟩ (by
   rintro k ρ S' hk ⟨a,l,w,rfl,c3,c4,hl,hw,lt1,lt2,st⟩
   have hlp:0 < l.length:=by omega
   obtain⟨q,S6,e6,hq,st6⟩:=gS (m:=l.length) st.st hlp (by omega)
   have c3':=st6.some (by exact cZ (by assumption)) c3
   have c4':=st6.some (by omega) c4
   have el:mFn bF (aa (ab 3) af) [some (.ref n),some (tab m T),some (.int (most:Nat)),some (.ref S.length),some (.ref (S.length+1)),some (.int k)] S'=some (.int (l.length:Nat),S'):=by
    have:=vG (ρ := [some (.ref n),some (tab m T),some (.int (most:Nat)),some (.ref S.length),some (.ref (S.length+1)),some (.int k)]) (S:=S') (a:=ab 3) (var_eq rfl) c3
    rw [this,cu]
   have ep:=wq (ρ := [some (.ref n),some (tab m T),some (.int (most:Nat)),some (.ref S.length),some (.ref (S.length+1)),some (.int k)]) (o:=ab 3) (a:=mFn aL (aa (ab 0) (aa (mFn bF (aa (ab 3) af)) af))) (r:=S.length) (j:=q) (l:=l) (var_eq rfl) (b0 (var_eq rfl) el e6) c3 c3' hq (by unfold big;omega)
   have hin:l[q]∈l:=lr hq
   generalize hx:l[q]=xv at ep hin
   have lS:S.length < S6.length:=(ah.mp c3').1
   have c4'':(S6.set S.length (Cell.lst (ao (l.eraseIdx q))))[S.length+1]? = some (Cell.lst (ao w)):=by rw [aF (by exact aP (bw _))];exact c4'
   have ea:=append_eq (ρ := [some (.ref n),some (tab m T),some (.int (most:Nat)),some (.ref S.length),some (.ref (S.length+1)),some (.int k)]) (o:=ab 4) (r:=S.length+1) (var_eq rfl) ep c4 c4'' (by rw [cu];unfold big;omega)
   refine⟨_,_,ea,some (.int k),l.eraseIdx q,w ++ [xv],rfl,?_,?_,?_,by simp [hw],fun z hz=>lt1 z (List.mem_of_mem_eraseIdx hz),?_,?_⟩
   ·rw [aF (by exact Nat.succ_ne_self _)]
    exact aU lS
   ·rw [aU (ah.mp c4'').1]
    simp [ao]
   ·rw [List.length_eraseIdx,if_pos hq];omega
   ·rw [aM]
    refine CZ (List.Perm.append_left w ?_) lt2
    show (xv::l.eraseIdx q).Perm l
    rw [<- hx]
    exact lZ l q hq
   ·exact ((st.trans st6).set (by exact ak _) (by exact cZ (by assumption))).set (by exact d8 _) (by omega))
 have hw:w5.length < 60:=by omega
 have e6:=dQ (qr (ρ := [some (.ref n),some (tab m T),some (.int (most:Nat)),some (.ref S.length),some (.ref (S.length+1)),a5]) (S:=S5) (a:=ab 4) (var_eq rfl) q4 (by exact ae (by assumption) (by decide)))
 refine⟨srt w5,_,cy (ρ := [some (.ref n),some (tab m T),some (.int (most:Nat)),some (.ref S.length),some (.ref (S.length+1)),a5]) rfl (show BP [some (.ref n),some (tab m T),some (.int (most:Nat)),none,none,none] S=_ from (aY (bO e1)).trans ((aY (bO e2)).trans ((aY e5).trans (cx e6)))),st5.step (Ex.push _ _),fun x hx => ?_,?_,?_,?_,fun x hx => ?_,fun h1 z => ?_,oe (jv w5)⟩
 ·have:=rh.mp (q8.mem_iff.mp (aR l5 (nj.mp hx)));omega
 ·rw [nU];omega
 ·rw [nU];assumption
 ·rw [(jv w5).nodup_iff]
  have:=q8.nodup_iff.mpr List.nodup_range'
  exact (ir.mp this).1
 ·have:=rh.mp (q8.mem_iff.mp (aR l5 (nj.mp hx)));omega
 ·have:w5.length=0:=by rw [<- nU,z];rfl
  omega
theorem Bn {α:Type}{xs:List α}{k:Nat}:cut xs none (some (k:Int))=xs.take k:=by
 have h1:HT.sIx xs.length 0 none=0:=rfl
 have h2:HT.sIx xs.length xs.length (some (k:Int))=min k xs.length:=HT.sIx_nat _ _ k
 unfold cut
 rw [h1,h2,List.drop_zero,Nat.sub_zero]
 by_cases h:k<=xs.length
 ·rw [Nat.min_eq_left h]
 ·rw [Nat.min_eq_right (by omega),dJ (ak _),dJ (by omega)]
theorem BF {F:List (List Nat)}{k:Nat}:cut (tups F) none (some (k:Int))=tups (F.take k):=by
 rw [Bn];unfold tups;rw [y3]
section
variable {m:Nat}{T:Nat->Nat->Nat}{st:List Nat}{S:Sto}
noncomputable def ic (m:Nat) (T:Nat->Nat->Nat) (st:List Nat) (most:Nat) (S:Sto) (r:List (Option U)):Rho := [some (tab m T),some (.tup (ao st)),some (.int most),some (.ref S.length),some (.ref (S.length+1))]++r
structure Sv (m:Nat) (T:Nat->Nat->Nat) (st:List Nat) (L:Nod->List (List Nat)) (F:List (List Nat)) (ln:List Nod) (μ:Nat):Prop where
 nd : ∀ p∈ln,Nd m p
 tot:F++rest T st L m ln=j4 T st L (m - 1) ([],[0])
 ms:msr st.length m ln<=μ
 bd:μ<=30000
theorem Sv.start {L:Nod->List (List Nat)} (hm:0 < m) (hz:gv st.length (m - 1)<=30000):Sv m T st L [] [([],[0])] (gv st.length (m - 1)):=
 ⟨fun p hp=>by simp at hp;subst hp;exact⟨by simp,rfl,by simpa using hm⟩,by simp [rest],by simp [msr],hz⟩
theorem Sv.stop {L:Nod->List (List Nat)}{F:List (List Nat)}{ln:List Nod}{μ most:Nat} (s:Sv m T st L F ln μ) (h:(!decide (ln = [])&&decide (F.length < most))=false):F.take most=(j4 T st L (m - 1) ([],[0])).take most:=by
 rw [<- s.tot]
 by_cases hl:ln = []
 ·subst hl;simp [rest]
 ·have:most<=F.length:=by simpa [hl] using h
  rw [dz this]
theorem Sv.leaf {L:Nod->List (List Nat)}{F:List (List Nat)}{ln:List Nod}{μ:Nat}{p:Nod} (s:Sv m T st L F (ln ++ [p]) (μ+1)) (h:p.1.length=m - 1):Sv m T st L (F++L p) ln μ:=by
 refine⟨fun q hq=>s.nd q (aR _ hq),?_,?_,by have:=s.bd;exact bG (by assumption)⟩
 ·have:=s.tot
  rw [zv h] at this
  rw [<- this,aM]
 ·have:=s.ms
  rw [yB] at this
  have h1:=oC (b:=st.length) (k:=m - 1 - p.1.length)
  simp only [msr,be,iq,y0,List.sum_nil] at this ⊢
  omega
theorem Sv.inner {L:Nod->List (List Nat)}{F:List (List Nat)}{ln:List Nod}{μ:Nat}{p:Nod} (g:Grp m T) (hs : ∀ s∈st,s < m) (s:Sv m T st L F (ln ++ [p]) (μ+1)) (h:p.1.length < m - 1):Sv m T st L F (ln++(kids T st p).reverse) μ:=by
 have np:=s.nd p (by simp)
 refine⟨fun q hq => ?_,?_,?_,by have:=s.bd;exact bG (by assumption)⟩
 ·rcases bh.mp hq with hq | hq
  ·exact s.nd q (aR _ hq)
  ·exact (ug g hs np h (eI.mp hq)).1
 ·rw [xf h fun q hq=>(ug g hs np h hq).2];exact s.tot
 ·have:=s.ms
  have:=Bh g hs np h
  rw [yB] at *
  omega
noncomputable def FI:MS:=aZ (vq (mML lG (ab 4) af) (gTp 2 (gp (gN 5) (gp (gN 6) qR)))) (sIf (cOf (m2 oEq (mFn bF (aa (ab 5) af)) (m2 mm (mFn bF (aa (ab 0) af)) (mC (.int 1))))) (df (mML cj (ab 3) (aa (ab 5) af))) (aZ (bA 7 (bZ (da (ab 1)) (cOf (m2 fS (m2 oIx (m2 oIx (ab 0) (m2 oIx (ab 6) (m1 eW (mC (.int 1))))) (ab 8)) (ab 6))) (cK (aa (ab 8) (aa (m2 oIx (m2 oIx (ab 0) (m2 oIx (ab 6) (m1 eW (mC (.int 1))))) (ab 8)) af))))) (df (mML et (ab 4) (aa (iP 2 (da (m1 mB (ab 7))) cTT (cK (aa (m2 bW (ab 5) (cK (aa (ab 8) af))) (aa (m2 bW (ab 6) (cK (aa (ab 9) af))) af)))) af)))))
noncomputable def FH:MS:=aZ (bA 3 (cM af)) (aZ (bA 4 (cM (aa (cK (aa (cK af) (aa (cK (aa (mC (.int 0)) af)) af))) af))) (aZ (iA vX FI) (bV (ab 3))))
noncomputable def yl:MS:=aZ (vq (mML lG (ab 4) af) (gTp 2 (gp (gN 5) (gp (gN 6) qR)))) (aZ (bA 7 (m2 oIx (ab 6) (m1 eW (mC (.int 1))))) (sIf (cOf (m2 oEq (mFn bF (aa (ab 5) af)) (m2 mm (mFn bF (aa (ab 0) af)) (mC (.int 1))))) (df (mML et (ab 3) (aa (bZ (da (ab 1)) (cOf (m2 oEq (m2 oIx (m2 oIx (ab 0) (ab 7)) (ab 9)) (mC (.int 0)))) (m2 bW (ab 5) (cK (aa (ab 9) af)))) af))) (aZ (bA 8 (bZ (da (ab 1)) (cOf (m2 fS (m2 oIx (m2 oIx (ab 0) (ab 7)) (ab 9)) (ab 6))) (cK (aa (ab 9) (aa (m2 oIx (m2 oIx (ab 0) (ab 7)) (ab 9)) af))))) (df (mML et (ab 4) (aa (iP 2 (da (m1 mB (ab 8))) cTT (cK (aa (m2 bW (ab 5) (cK (aa (ab 9) af))) (aa (m2 bW (ab 6) (cK (aa (ab 10) af))) af)))) af))))))
noncomputable def yi:MS:=aZ (bA 3 (cM af)) (aZ (bA 4 (cM (aa (cK (aa (cK af) (aa (cK (aa (mC (.int 0)) af)) af))) af))) (aZ (iA vX yl) (bV (mSl (ab 3) none (some (ab 2))))))
noncomputable def uY (p:Nod):List (List Nat) := [p.1]
noncomputable def lB (T:Nat->Nat->Nat) (st:List Nat) (p:Nod):List (List Nat):=(st.filter fun s=>decide (T (ef p.2) s=0)).map fun s=>p.1 ++ [s]
theorem Jm {ρ:Rho}{S':Sto}{p:Nod} (h0':ρ[0]? = some (some (tab m T))) (h5:ρ[5]? = some (some (.tup (ao p.1)))) (hm:0 < m):cOf (m2 oEq (mFn bF (aa (ab 5) af)) (m2 mm (mFn bF (aa (ab 0) af)) (mC (.int 1)))) ρ S'=some (decide (p.1.length=m - 1),S'):=by
 have:=of_eq (y7 (ρ:=ρ) (S:=S') (a:=mFn bF (aa (ab 5) af)) (b:=m2 mm (mFn bF (aa (ab 0) af)) (mC (.int 1))) (ve (var_eq h5)) (Bv (len_tab (var_eq h0')) c_i))
 rw [this,cu]
 congr 2
 by_cases h:p.1.length=m - 1
 ·rw [decide_eq_true h,h];simp;omega
 ·rw [decide_eq_false h];simp;omega
theorem Fx {ρ:Rho}{S':Sto}{th:List Nat} (h6:ρ[6]? = some (some (.tup (ao th)))) (hne:th ≠ []):m2 oIx (ab 6) (m1 eW (mC (.int 1))) ρ S'=some (.int (ef th:Nat),S'):=wZ (var_eq h6) Do (yn hne)
theorem wg {ρ:Rho}{S':Sto}:cM (aa (cK (aa (cK af) (aa (cK (aa (mC (.int 0)) af)) af))) af) ρ S'=some (.ref S'.length,S' ++ [.lst [lnU ([],[0])]]):=Bz (xu (x := .tup []) rfl (AB c_i))
theorem ES {most:Nat} (g:Grp m T) (hm:m < 100) (hs : ∀ s∈st,s < m) (hsl:st.length < 1000) (hmo:most < 100000) (hz:gv st.length (m - 1)<=30000) :
  ∃ F S',G.run 3 8 FH [tab m T,.tup (ao st),.int (most:Nat)] S=some (.ref S.length,S')/\Ex S S'/\S'[S.length]? = some (.lst (tups F))/\F=(j4 T st uY (m - 1) ([],[0])).take most:=by
 have hp:=g.pos
 obtain⟨ρ1,S1,e1,r,F,ln,x,rfl,rfl,hF⟩:=pC (c:=vX) (b:=FI) (fun μ ρ S' => ∃ a b c F ln x,ρ=ic m T st most S [a,b,c]/\S'=bX S F ln x/\Sv m T st uY F ln μ/\F.length<=most)
  (fun ρ S' => ∃ r F ln x,ρ=ic m T st most S r/\S'=bX S F ln x/\F=(j4 T st uY (m - 1) ([],[0])).take most) (by
  rintro μ ρ S' ⟨a,b,c,F,ln,x,rfl,rfl,s,hFm⟩
  refine⟨_,_,xV (most:=most) rfl rfl rfl,fun hf=>⟨_,F,ln,_,rfl,rfl,by rw [<- s.stop hf,dJ hFm]⟩,fun ht => ?_⟩
  rw [az] at ht
  have hne:ln ≠ []:=by simpa using ht.1
  have hFl:F.length < most:=of_decide_eq_true ht.2
  obtain⟨ln,p,rfl⟩:=kU hne
  have np:=s.nd p (by simp)
  have hln:ln.length < 100000:=by
   have:=m8 (m:=m) (b:=st.length) (ln ++ [p])
   have:=s.ms;have:=s.bd
   simp only [aH,bR,cH] at *
   omega
  have hth:p.2 ≠ []:=by intro z;have:=np.len;rw [z] at this;simp at this
  cases μ with
  | zero=>
    have:=s.ms
    have:=m8 (m:=m) (b:=st.length) (ln ++ [p])
    simp at this;omega
  | succ μ=>
  have e1:=ye (S:=S) (F:=F) (ln:=ln) (x:=x ++ [.lst []]) (p:=p) (ρ:=ic m T st most S [a,b,c]) rfl
  have ec:=Jm (m:=m) (T:=T) (p:=p) (ρ:=ic m T st most S [some (.tup (ao p.1)),some (.tup (ao p.2)),c]) (S':=bX S F ln (x ++ [.lst []])) rfl rfl hp
  by_cases hl:p.1.length=m - 1
  ·rw [decide_eq_true hl] at ec
   have e2:=append_eq (ρ:=ic m T st most S [some (.tup (ao p.1)),some (.tup (ao p.2)),c]) (S:=bX S F ln (x ++ [.lst []])) (o:=ab 3) (a:=ab 5) (var_eq rfl) (var_eq rfl) h0 h0 (by simp only [tups,av];unfold big;exact dk (by assumption) (ae (by assumption) (by decide)))
   rw [show (bX S F ln (x ++ [Cell.lst []])).set S.length (Cell.lst (tups F ++ [.tup (ao p.1)]))=bX S (F++uY p) ln (x ++ [Cell.lst []]) from (show (S ++ [_,_]++_).set S.length _=_ from t0).trans (by simp [bX,tups,uY])] at e2
   exact⟨_,_,μ,bw _,(aY e1).trans ((qI ec).trans e2),_,_,_,_,_,_,rfl,rfl,s.leaf hl,by simp [uY];assumption⟩
  ·rw [decide_eq_false hl] at ec
   have hlt:p.1.length < m - 1:=by have:=np.le;exact fg (by assumption) (by assumption)
   obtain⟨v,x',e2⟩:=uU (S:=S) (F:=F) (ln:=ln) (x:=x ++ [.lst []]) (i:=7) (n:=8) (h:=ef p.2) (he:=m2 oIx (ab 6) (m1 eW (mC (.int 1)))) (p:=p) (ρ:=ic m T st most S [some (.tup (ao p.1)),some (.tup (ao p.2)),c]) (qh hth np.lt) hs hsl (by omega) (by have:=np.len;omega) hln rfl rfl rfl rfl rfl rfl rfl (by decide) (by decide) (fun z S'=>Fx rfl hth)
   exact⟨_,_,μ,bw _,(aY e1).trans ((jO ec).trans e2),_,_,_,_,_,_,rfl,rfl,s.inner g hs hlt,hFm⟩) fuel (gv st.length (m - 1)) (ic m T st most S [none,none,none]) (bX S [] [([],[0])] []) (by unfold fuel;exact aE (by assumption) (by decide)) ⟨_,_,_,_,_,_,rfl,rfl,Sv.start hp hz,by simp⟩
 refine⟨F,bX S F ln x,cy (ρ:=ic m T st most S r) rfl ?_,⟨[.lst (tups F),.lst (ln.map lnU)]++x,by unfold bX;rw [aM]⟩,h0,hF⟩
 show FH [some (tab m T),some (.tup (ao st)),some (.int (most:Nat)),none,none,none,none,none] S=_
 refine (aY (bO i5)).trans ((aY (bO wg)).trans ?_)
 refine (aY (ρ1:=ic m T st most S r) (S1:=bX S F ln x) ?_).trans (cx (var_eq rfl))
 rw [<- e1]
 simp [iA,bX,ic,tups]
theorem zd {ρ:Rho}{S S1:Sto}{o a:ME}{r k:Nat}{us ws:List U} (ho:o ρ S=some (.ref r,S)) (ha:a ρ S=some (.ref k,S1)) (hr:S[r]? = some (Cell.lst us)) (hr1:S1[r]? = some (Cell.lst us)) (hk:S1[k]? = some (Cell.lst ws)) (hl:us.length+ws.length<=big) :
  df (mML et o (aa a af)) ρ S=some (.nx,ρ,S1.set r (.lst (us++ws))):=by
 simp only [df,mML,ho,aG,getL,hr,ai,aa,af,ha,et,hr1,hk]
 rw [if_pos hl]
 simp only [aG]
theorem z3 {most:Nat} (g:Grp m T) (hm:m < 100) (hs : ∀ s∈st,s < m) (hsl:st.length < 1000) (hmo:most < 100000) (hz:gv st.length (m - 1)<=30000) :
  ∃ r S',G.run 3 9 yi [tab m T,.tup (ao st),.int (most:Nat)] S=some (.ref r,S')/\Ex S S'/\S'[r]? = some (.lst (tups ((j4 T st (lB T st) (m - 1) ([],[0])).take most))):=by
 have hp:=g.pos
 obtain⟨ρ1,S1,e1,r,F,ln,x,rfl,rfl,hF⟩:=pC (c:=vX) (b:=yl) (fun μ ρ S' => ∃ a b c d F ln x,ρ=ic m T st most S [a,b,c,d]/\S'=bX S F ln x/\Sv m T st (lB T st) F ln μ)
  (fun ρ S' => ∃ r F ln x,ρ=ic m T st most S r/\S'=bX S F ln x/\F.take most=(j4 T st (lB T st) (m - 1) ([],[0])).take most) (by
  rintro μ ρ S' ⟨a,b,c,d,F,ln,x,rfl,rfl,s⟩
  refine⟨_,_,xV (most:=most) rfl rfl rfl,fun hf=>⟨_,F,ln,_,rfl,rfl,s.stop hf⟩,fun ht => ?_⟩
  rw [az] at ht
  have hne:ln ≠ []:=by simpa using ht.1
  have hFl:F.length < most:=of_decide_eq_true ht.2
  obtain⟨ln,p,rfl⟩:=kU hne
  have np:=s.nd p (by simp)
  have hln:ln.length < 100000:=by
   have:=m8 (m:=m) (b:=st.length) (ln ++ [p])
   have:=s.ms;have:=s.bd
   simp only [aH,bR,cH] at *
   omega
  have hth:p.2 ≠ []:=by intro z;have:=np.len;rw [z] at this;simp at this
  cases μ with
  | zero=>
    have:=s.ms
    have:=m8 (m:=m) (b:=st.length) (ln ++ [p])
    simp at this;omega
  | succ μ=>
  have e1:=ye (S:=S) (F:=F) (ln:=ln) (x:=x ++ [.lst []]) (p:=p) (ρ:=ic m T st most S [a,b,c,d]) rfl
  have e0:bA 7 (m2 oIx (ab 6) (m1 eW (mC (.int 1)))) (ic m T st most S [some (.tup (ao p.1)),some (.tup (ao p.2)),c,d]) (bX S F ln (x ++ [.lst []]))=some (.nx,ic m T st most S [some (.tup (ao p.1)),some (.tup (ao p.2)),some (.int (ef p.2:Nat)),d],bX S F ln (x ++ [.lst []])):=bO (Fx rfl hth)
  have ec:=Jm (m:=m) (T:=T) (p:=p) (ρ:=ic m T st most S [some (.tup (ao p.1)),some (.tup (ao p.2)),some (.int (ef p.2:Nat)),d]) (S':=bX S F ln (x ++ [.lst []])) rfl rfl hp
  have hla:=qh hth np.lt
  by_cases hl:p.1.length=m - 1
  ·rw [decide_eq_true hl] at ec
   have e2:=tm (t:=cOf (m2 oEq (m2 oIx (m2 oIx (ab 0) (ab 7)) (ab 9)) (mC (.int 0)))) (e:=m2 bW (ab 5) (cK (aa (ab 9) af))) (ρ:=ic m T st most S [some (.tup (ao p.1)),some (.tup (ao p.2)),some (.int (ef p.2:Nat)),d]) (S:=bX S F ln (x ++ [.lst []])) (a:=ab 1) (l:=st) (p:=fun s=>decide (T (ef p.2) s=0)) (f:=fun s => .tup (ao (p.1 ++ [s]))) (var_eq rfl) hsl
    (fun s hs'=>of_eq (DG (y:=0) (kA (T:=T) (i:=ef p.2) (j:=s) (hs s hs') (jK hla (var_eq rfl) (var_eq rfl)) (var_eq rfl)) c_i)) (fun s hs' _=>tj (x:=p.1) (y := [s]) (var_eq rfl) (AB (var_eq rfl)) (by simp;omega))
   have hrl:((st.filter fun s=>decide (T (ef p.2) s=0)).map fun s=>U.tup (ao (p.1 ++ [s])))=tups (lB T st p):=by
    unfold tups lB;rw [bL];rfl
   rw [hrl,eF] at e2
   have hll:(lB T st p).length<=st.length:=by unfold lB;rw [av];exact iI _ _
   have e3:=zd (ρ:=ic m T st most S [some (.tup (ao p.1)),some (.tup (ao p.2)),some (.int (ef p.2:Nat)),d]) (o:=ab 3) (r:=S.length) (var_eq rfl) e2 h0 h0 (by rw [<- eF];exact d5 _ _) (by simp only [tups,av];unfold big;omega)
   rw [show (bX S F ln (x ++ [Cell.lst []] ++ [Cell.lst (tups (lB T st p))])).set S.length (Cell.lst (tups F++tups (lB T st p)))=bX S (F++lB T st p) ln (x ++ [Cell.lst []] ++ [Cell.lst (tups (lB T st p))]) from (show (S ++ [_,_]++_).set S.length _=_ from t0).trans (by simp [bX,tups])] at e3
   exact⟨_,_,μ,bw _,(aY e1).trans ((aY e0).trans ((qI ec).trans e3)),_,_,_,_,_,_,_,rfl,rfl,s.leaf hl⟩
  ·rw [decide_eq_false hl] at ec
   have hlt:p.1.length < m - 1:=by have:=np.le;exact fg (by assumption) (by assumption)
   obtain⟨v,x',e2⟩:=uU (S:=S) (F:=F) (ln:=ln) (x:=x ++ [.lst []]) (i:=8) (n:=9) (h:=ef p.2) (he:=ab 7) (p:=p) (ρ:=ic m T st most S [some (.tup (ao p.1)),some (.tup (ao p.2)),some (.int (ef p.2:Nat)),d]) hla hs hsl (by omega) (by have:=np.len;omega) hln rfl rfl rfl rfl rfl rfl rfl (by decide) (by decide) (fun z S'=>var_eq rfl)
   exact⟨_,_,μ,bw _,(aY e1).trans ((aY e0).trans ((jO ec).trans e2)),_,_,_,_,_,_,_,rfl,rfl,s.inner g hs hlt⟩) fuel (gv st.length (m - 1)) (ic m T st most S [none,none,none,none]) (bX S [] [([],[0])] []) (by unfold fuel;exact aE (by assumption) (by decide)) ⟨_,_,_,_,_,_,_,rfl,rfl,Sv.start hp hz⟩
 have e9:mSl (ab 3) none (some (ab 2)) (ic m T st most S r) (bX S F ln x)=some (.ref (bX S F ln x).length,bX S F ln x ++ [.lst (tups (F.take most))]):=by
  have c:(bX S F ln x)[S.length]? = some (.lst (tups F)):=h0
  have v3:ab 3 (ic m T st most S r) (bX S F ln x)=some (.ref S.length,bX S F ln x):=var_eq rfl
  have v2:ab 2 (ic m T st most S r) (bX S F ln x)=some (.int (most:Nat),bX S F ln x):=var_eq rfl
  simp only [mSl,v3,aG,pP,v2,getL,c,aV]
  rw [BF]
 rw [hF] at e9
 refine⟨(bX S F ln x).length,bX S F ln x ++ [.lst (tups ((j4 T st (lB T st) (m - 1) ([],[0])).take most))],cy (ρ:=ic m T st most S r) rfl ?_,⟨[.lst (tups F),.lst (ln.map lnU)]++x ++ [.lst (tups ((j4 T st (lB T st) (m - 1) ([],[0])).take most))],by unfold bX;simp⟩,d5 _ _⟩
 show yi [some (tab m T),some (.tup (ao st)),some (.int (most:Nat)),none,none,none,none,none,none] S=_
 refine (aY (bO i5)).trans ((aY (bO wg)).trans ?_)
 refine (aY (ρ1:=ic m T st most S r) (S1:=bX S F ln x) ?_).trans (cx e9)
 rw [<- e1]
 simp [iA,bX,ic,tups]
end
end
end W
end
section
namespace W
open L2 G
section
theorem Ex.set {S S':Sto}{r:Nat}{c:Cell} (h:Ex S S') (hr:S.length<=r):Ex S (S'.set r c):=by
 obtain⟨t,rfl⟩:=h
 exact⟨t.set (r - S.length) c,by rw [dU _ _ hr]⟩
theorem qM {b c:Nat} (h:b<=c) : ∀ {j k:Nat},j<=k->gv b j<=gv c k
 | 0,k,_=>oC
 | j+1,0,h2=>by omega
 | j+1,k+1,h2=>by
   unfold gv
   have:=Nat.mul_le_mul h (qM h (j:=j) (k:=k) (by exact ee (by assumption)))
   omega
section
variable {m:Nat}{T:Nat->Nat->Nat}{st:List Nat}
structure Lft (m:Nat) (th left:List Nat):Prop where
 nd:left.Nodup
 mem : ∀ y,y∈left↔y < m/\y∉th
end
structure Lng (ls:List (List Nat)):Prop where
 len:ls.length<=9000
 each : ∀ l∈ls,l.length<=8
 lt : ∀ l∈ls,∀ x∈l,x < 1000
open PySem in
open PySem in
section
variable {m:Nat}{T:Nat->Nat->Nat}{st:List Nat}{S:Sto}
noncomputable def unM:MS:=bV (mMT dA (m2 oIx (ab 0) (ab 1)) (aa (mC (.int 0)) af))
end
end
end W
end
section
namespace W
open L2 G
section
abbrev Rds:=List (Nat×List Nat)
noncomputable def kF (ks:Rds):List Nat:=ks.map Prod.fst
noncomputable def d7 (ks:Rds):List (L2.Key×U):=ks.map fun p=>(fe (p.1:Int),U.tup (ao p.2))
theorem By {ks:Rds}{x:Nat}:v9 (d7 ks) (.inl (x:Int))=decide (x∈kF ks):=by
 have:v9 (d7 ks) (.inl (x:Int))=true↔x∈kF ks:=by
  rw [vc]
  unfold d7 kF
  constructor
  ·rintro ⟨kv,hm,e⟩
   obtain⟨y,hy,rfl⟩:=bb.mp hm
   have e':(y.1:Int)=x:=Ad e
   exact bb.mpr ⟨y,hy,by omega⟩
  ·intro h
   obtain⟨y,hy,rfl⟩:=bb.mp h
   exact⟨_,bb.mpr ⟨y,hy,rfl⟩,rfl⟩
 by_cases h:x∈kF ks
 ·rw [this.mpr h];simp [h]
 ·cases q:v9 (d7 ks) (.inl (x:Int)) with
  | true=>exact absurd (this.mp q) h
  | false=>simp [h]
theorem Kb {ks:Rds}{x:Nat}{w:List Nat} (h:x∉kF ks):uV (d7 ks) (.inl (x:Int)) (.tup (ao w))=d7 (ks ++ [(x,w)]):=by
 unfold uV
 rw [if_neg]
 ·simp [d7]
 ·intro z
  obtain⟨kv,hm,e⟩:=tE.mp z
  have:v9 (d7 ks) (.inl (x:Int))=true:=vc.mpr ⟨kv,hm,of_decide_eq_true e⟩
  rw [By] at this
  exact h (of_decide_eq_true this)
theorem zD (ks:Rds):(d7 ks).length=ks.length:=by simp [d7]
theorem pQ : ∀ (ks:Rds),de mw (d7 ks)=some (iV (kF ks))
 | []=>rfl
 | x::l=>by
   show (mw (fe (x.1:Int),U.tup (ao x.2))).bind _=_
   simp only [mw,ai]
   rw [show List.map (fun (p:Nat×List Nat)=>(fe (p.1:Int),U.tup (ao p.2))) l=d7 l from rfl,pQ l]
   rfl
noncomputable def gW (ks:Rds) (x:Nat):List Nat:=((ks.find? fun p=>decide (p.1=x)).map Prod.snd).getD []
theorem FS {x:Nat} : ∀ {ks:Rds},x∈kF ks->lC (d7 ks) (.inl (x:Int))=some (.tup (ao (gW ks x)))
 | [],h=>by simp [kF] at h
 | p::ks,h=>by
   unfold lC gW d7
   rw [be,ck,ck]
   by_cases e:p.1=x
   ·have:(fe (p.1:Int):L2.Key) = .inl (x:Int):=by rw [e]
    simp [e]
   ·have e1 : ¬ ((fe (p.1:Int):L2.Key) = .inl (x:Int)):=fun z=>e (by have:=Ad z;omega)
    simp only [decide_eq_false e,decide_eq_false e1]
    have h':x∈kF ks:=by
     rcases aX.mp (show x∈p.1::kF ks from h) with z | z
     ·exact absurd z.symm e
     ·exact z
    exact FS (ks:=ks) h'
theorem mq {x:Nat} : ∀ {ks:Rds},x∈kF ks->(x,gW ks x)∈ks
 | [],h=>by simp [kF] at h
 | p::ks,h=>by
   unfold gW
   rw [ck]
   by_cases e:p.1=x
   ·rw [decide_eq_true e]
    show (x,p.2)∈p::ks
    rw [<- e];exact ba
   ·have h':x∈kF ks:=by
     rcases aX.mp (show x∈p.1::kF ks from h) with z | z
     ·exact absurd z.symm e
     ·exact z
    rw [decide_eq_false e]
    exact aA _ (mq (ks:=ks) h')
structure Rd (T:Nat->Nat->Nat) (ths:List Nat) (ks:Rds):Prop where
 go : ∀ p∈ks,cY T p.2=p.1
 by' : ∀ p∈ks,∀ y∈p.2,y∈ths
 len : ∀ p∈ks,p.2.length < ks.length
section
variable {m:Nat}{T:Nat->Nat->Nat}{ths:List Nat}{S x:Sto}{v:U}
noncomputable def eQ (S:Sto) (p:Rds×List Nat) (x:Sto):Sto:=S ++ [.dic (d7 p.1),.lst (ao p.2)]++x
noncomputable def xi (T:Nat->Nat->Nat) (h y:Nat) (p:Rds×List Nat):Rds×List Nat:=if T h y∈kF p.1 then p else (p.1 ++ [(T h y,gW p.1 h ++ [y])],p.2 ++ [T h y])
noncomputable def cvR (p:Rds×List Nat):List Nat×List Nat:=(kF p.1,p.2)
theorem De {h y:Nat}{p:Rds×List Nat}:cvR (xi T h y p)=tryD T h y (cvR p):=by
 by_cases e:T h y∈kF p.1
 ·rw [xi,if_pos e,tryD,if_pos (show T h y∈(cvR p).1 from e)]
 ·rw [xi,if_neg e,tryD,if_neg (show ¬ T h y∈(cvR p).1 from e)]
  simp [cvR,kF]
theorem DM {h y:Nat}{p:Rds×List Nat} (hr:Rd T ths p.1) (hh:h∈kF p.1) (hy:y∈ths):Rd T ths (xi T h y p).1:=by
 unfold xi
 split
 ·exact hr
 ·have hm:=mq hh
  refine⟨fun q hq => ?_,fun q hq => ?_,fun q hq => ?_⟩
  ·rcases bh.mp hq with hq | hq
   ·exact hr.go q hq
   ·simp at hq;subst hq
    show cY T (gW p.1 h ++ [y])=T h y
    have:=hr.go _ hm
    unfold cY at this ⊢
    rw [rj,this];rfl
  ·rcases bh.mp hq with hq | hq
   ·exact hr.by' q hq
   ·simp at hq;subst hq
    intro z hz
    rcases bh.mp hz with hz | hz
    ·exact hr.by' _ hm z hz
    ·simp at hz;rw [hz];exact hy
  ·rw [aH]
   rcases bh.mp hq with hq | hq
   ·have:=hr.len q hq;simp;exact j7 (by assumption)
   ·simp at hq;subst hq
    have:=hr.len _ hm
    simp at this ⊢;assumption
theorem LJ {ρ:Rho}{S S1 S2:Sto}{a b:ME}{r:Nat}{y:Nat}{kvs:List (L2.Key×U)}{u:U} (ha:a ρ S=some (.ref r,S1)) (hb:b ρ S1=some (.int (y:Nat),S2)) (hr:S2[r]? = some (Cell.dic kvs)) (h:lC kvs (.inl (y:Int))=some u):m2 oIx a b ρ S=some (u,S2):=
 op2 ha hb (by simp only [oIx,fv,hr,keyOf,ai,h,aV])
theorem KL {ρ:Rho}{S:Sto}{o i e:ME}{r:Nat}{z:Int}{u:U}{kvs:List (L2.Key×U)} (he:e ρ S=some (u,S)) (ho:o ρ S=some (.ref r,S)) (hi:i ρ S=some (.int z,S)) (hr:S[r]? = some (Cell.dic kvs)) (hl:kvs.length < big):iX o i e ρ S=some (.nx,ρ,S.set r (.dic (uV kvs (.inl z) u))):=by
 simp only [iX,he,aG,ho,hi,hr,keyOf,ai,hl,if_true]
noncomputable def n8:MS:=aZ (bA 6 (m2 oIx (m2 oIx (ab 0) (ab 4)) (ab 5))) (sIf (cOf (m2 fS (ab 6) (ab 2))) (aZ (iX (ab 2) (ab 6) (m2 bW (m2 oIx (ab 2) (ab 4)) (cK (aa (ab 5) af)))) (df (mML cj (ab 3) (aa (ab 6) af)))) dh)
noncomputable def FE:MS:=aZ (bA 4 (mML lG (ab 3) af)) (eo 5 (da (ab 1)) n8)
noncomputable def yd:MS:=aZ (bA 2 (qF (mC (.int 0)) (cK af))) (aZ (bA 3 (cM (aa (mC (.int 0)) af))) (aZ (iA Bg FE) (bV (ab 2))))
noncomputable def spM:MS:=bV (mFn bD (aa (mFn dG (aa (mFn (G.run 2 7 yd) (aa (ab 0) (aa (ab 1) af))) af)) af))
theorem z5 {c:Option U}{h y:Nat}{p:Rds×List Nat} (hh:h < m) (hy:y < m) (hk:h∈kF p.1) (hr:Rd T ths p.1) (l1:p.1.length < 1000) (l2:p.2.length < big) :
  n8 (spR m T v S [some (.int h),some (.int y),c]) (eQ S p x)=some (.nx,spR m T v S [some (.int h),some (.int y),some (.int (T h y:Nat))],eQ S (xi T h y p) x):=by
 have e6:m2 oIx (m2 oIx (ab 0) (ab 4)) (ab 5) (spR m T v S [some (.int h),some (.int y),c]) (eQ S p x)=some (.int (T h y:Nat),eQ S p x):=kA hy (jK hh (var_eq rfl) (var_eq rfl)) (var_eq rfl)
 refine (aY (bO e6)).trans ?_
 show sIf _ _ _ (spR m T v S [some (.int h),some (.int y),some (.int (T h y:Nat))]) (eQ S p x)=_
 have ec:=Em (ρ:=spR m T v S [some (.int h),some (.int y),some (.int (T h y:Nat))]) (a:=ab 6) (b:=ab 2) (x:=T h y) (var_eq rfl) (var_eq rfl) (show (eQ S p x)[S.length]? = _ from h0)
 rw [By] at ec
 unfold xi
 by_cases hin:T h y∈kF p.1
 ·rw [if_pos hin]
  rw [decide_eq_true hin] at ec
  exact jO ec
 ·rw [if_neg hin]
  rw [decide_eq_false hin] at ec
  refine (qI ec).trans ?_
  have hrl:=hr.len _ (mq hk)
  have ea:m2 bW (m2 oIx (ab 2) (ab 4)) (cK (aa (ab 5) af)) (spR m T v S [some (.int h),some (.int y),some (.int (T h y:Nat))]) (eQ S p x)=some (.tup (ao (gW p.1 h ++ [y])),eQ S p x):=tj (x:=gW p.1 h) (y := [y]) (LJ (y:=h) (var_eq rfl) (var_eq rfl) (show (eQ S p x)[S.length]? = _ from h0) (FS hk)) (AB (var_eq rfl)) (by simp at hrl ⊢;exact aE (by assumption) (by assumption))
  have e1:=KL (o:=ab 2) (i:=ab 6) ea (var_eq rfl) (var_eq rfl) (show (eQ S p x)[S.length]? = _ from h0) (by rw [zD];unfold big;exact ae (by assumption) (by decide))
  rw [Kb hin,show (eQ S p x).set S.length (.dic (d7 (p.1 ++ [(T h y,gW p.1 h ++ [y])])))=eQ S (p.1 ++ [(T h y,gW p.1 h ++ [y])],p.2) x from t0] at e1
  refine (aY e1).trans ?_
  have e2:=append_eq (ρ:=spR m T v S [some (.int h),some (.int y),some (.int (T h y:Nat))]) (o:=ab 3) (a:=ab 6) (var_eq rfl) (var_eq rfl) (show (eQ S (p.1 ++ [(T h y,gW p.1 h ++ [y])],p.2) x)[S.length+1]? = _ from h1) h1 (by rw [cu];exact l2)
  rw [show (eQ S (p.1 ++ [(T h y,gW p.1 h ++ [y])],p.2) x).set (S.length+1) _=S ++ [.dic (d7 (p.1 ++ [(T h y,gW p.1 h ++ [y])])),_]++x from t1] at e2
  rw [e2]
  simp [eQ,ao]
theorem DW {a b c:Option U}{h μ:Nat}{p:Rds×List Nat} (g:Grp m T) (hm:m < 64) (hμ:μ < 1000) (ht : ∀ z∈ths,z < m) (hv:Wk S v ths) (n:Inn m T ths h 0 (cvR p) μ) (hr:Rd T ths p.1) :
  ∃ b' c' q,eo 5 (da (ab 1)) n8 (spR m T v S [some (.int h),b,c]) (eQ S p x)=some (.nx,spR m T v S [some (.int h),b',c'],eQ S q x)/\Inn m T ths h ths.length (cvR q) μ/\Rd T ths q.1:=by
 have hh:h < m:=n.d.lt h n.hk
 have stp : ∀ (k:Nat) (u:U) (ρ:Rho) (S':Sto),(ao ths)[k]? = some u->(∃ b c q,S'=eQ S q x/\ρ=spR m T v S [some (.int h),b,c]/\Inn m T ths h k (cvR q) μ/\Rd T ths q.1) -> ∃ ρ' S'',n8 (ρ.set 5 (some u)) S'=some (.nx,ρ',S'') /\ ∃ b c q,S''=eQ S q x/\ρ'=spR m T v S [some (.int h),b,c]/\Inn m T ths h (k+1) (cvR q) μ/\Rd T ths q.1:=by
  rintro k u ρ S' hu ⟨b,c,q,rfl,rfl,q3,q4⟩
  obtain⟨y,hy,rfl⟩:=vK hu
  have l:=q3.st_le hμ hm
  have hym:=dc hy
  have l1:q.1.length < 1000:=by have:=q3.d.len;simp only [cvR,kF,av] at this;exact aE (by assumption) (ae (by assumption) (by decide))
  refine⟨_,_,z5 (S:=S) (x:=x) (v:=v) (c:=c) hh (ht y hym) q3.hk q4 l1 l.2,_,_,_,rfl,rfl,?_,DM q4 q3.hk hym⟩
  rw [De]
  exact q3.try g ht hy
 rcases hv with rfl | ⟨r,rfl,hr1,hl⟩
 ·obtain⟨ρ',S',e,b',c',q,rfl,rfl,q3,q4⟩:=A3 (i:=5) (b:=n8) (e:=ab 1) (ρ:=spR m T (.tup (ao ths)) S [some (.int h),b,c]) (S:=eQ S p x) (us:=ao ths) (var_eq rfl) _ ⟨b,c,p,rfl,rfl,n,hr⟩ stp
  rw [cu] at q3
  exact⟨b',c',q,e,q3,q4⟩
 ·have hrl:=(ah.mp hr1).1
  obtain⟨ρ',S',e,b',c',q,rfl,rfl,q3,q4⟩:=w9 (i:=5) (b:=n8) (e:=ab 1) (ρ:=spR m T (.ref r) S [some (.int h),b,c]) (S:=eQ S p x) (us:=ao ths) (var_eq rfl) (by rw [cu];exact ae (by assumption) (by decide)) _ ⟨b,c,p,rfl,rfl,n,hr⟩
   (by
    rintro k ρ S' ⟨b,c,q,rfl,_⟩
    unfold getL eQ
    rw [aM,aI hrl,hr1]) stp
  rw [cu] at q3
  exact⟨b',c',q,e,q3,q4⟩
theorem CB (g:Grp m T) (hm:m < 64) (ht : ∀ z∈ths,z < m) (hv:Wk S v ths) : ∃ ks S',G.run 2 7 yd [tab m T,v] S=some (.ref S.length,S')/\Ex S S'/\S'[S.length]? = some (.dic (d7 ks))/\Dfs m T ths (kF ks) (fun _=>False)/\Rd T ths ks:=by
 have hp:=g.pos
 obtain⟨ρ',S1,e1,⟨r,ks,x,rfl,rfl,d,hr⟩⟩:=pC (c:=Bg) (b:=FE) (fun μ ρ S' => ∃ a b c p x,ρ=spR m T v S [a,b,c]/\S'=eQ S p x/\xg m T ths (kF p.1) p.2 μ/\μ < 1000/\Rd T ths p.1)
  (fun ρ S' => ∃ r ks x,ρ=spR m T v S r/\S'=eQ S (ks,[]) x/\Dfs m T ths (kF ks) (fun _=>False)/\Rd T ths ks) (by
  rintro μ ρ S' ⟨a,b,c,p,x,rfl,rfl,s,hμ,hr⟩
  have ec:Bg (spR m T v S [a,b,c]) (eQ S p x)=some (decide ((0:Int) < (ao p.2).length),eQ S p x):=of_eq (Et (vG (var_eq rfl) h1) c_i)
  refine⟨_,_,ec,fun hf => ?_,fun hf => ?_⟩
  ·have h2:p.2 = []:=by
    have:=of_decide_eq_false hf
    rw [cu] at this
    exact Ah.mp (by omega)
   refine⟨_,p.1,x,rfl,by rw [<- h2],?_,hr⟩
   have:=s.d
   rw [h2] at this
   exact⟨this.nd,this.lt,this.z,this.rc,fun x hx=>(this.cl x hx).imp (by simp) id⟩
  ·have h2:p.2 ≠ []:=fun e=>by rw [e] at hf;simp [ao] at hf
   obtain⟨st,h,e⟩:=kU h2
   obtain⟨ks,s2⟩:=p
   subst e
   cases μ with
   | zero=>have:=s.ms;simp at this
   | succ μ=>
   have e4:bA 4 (mML lG (ab 3) af) (spR m T v S [a,b,c]) (eQ S (ks,st ++ [h]) x)=some (.nx,spR m T v S [some (.int h),b,c],eQ S (ks,st) x):=by
    rw [bO (i:=4) (DK (ρ:=spR m T v S [a,b,c]) (S:=eQ S (ks,st ++ [h]) x) (o:=ab 3) (r:=S.length+1) (var_eq rfl) h1)]
    rw [show (eQ S (ks,st ++ [h]) x).set (S.length+1) (Cell.lst (ao st))=eQ S (ks,st) x from t1]
    rfl
   obtain⟨b',c',q,e5,i,hq⟩:=DW (S:=S) (x:=x) (a:=a) (b:=b) (c:=c) (p:=(ks,st)) g hm (by exact bG (by assumption)) ht hv s.pop hr
   exact⟨_,_,μ,bw _,(aY e4).trans e5,_,_,_,q,x,rfl,rfl,i.done,by exact bG (by assumption),hq⟩) fuel (2*m) (spR m T v S [none,none,none]) (eQ S ([(0,[])],[0]) []) (by unfold fuel;omega) ⟨_,_,_,([(0,[])],[0]),[],rfl,rfl,xg.start hp,by omega,⟨fun p hp=>by simp at hp;subst hp;rfl,fun p hp=>by simp at hp;subst hp;simp,fun p hp=>by simp at hp;subst hp;simp⟩⟩
 refine⟨ks,_,cy (ρ:=spR m T v S r) rfl ?_,?_,(show (eQ S (ks,[]) x)[S.length]? = _ from h0),d,hr⟩
 ·show yd [some (tab m T),some v,none,none,none,none,none] S=_
  have ed:qF (mC (.int 0)) (cK af) [some (tab m T),some v,none,none,none,none,none] S=some (.ref S.length,S ++ [.dic (d7 [(0,[])])]):=by
   simp [qF,mC,cK,af,aG,keyOf,d7,ao]
  refine (aY (bO ed)).trans ((aY (bO (Bz c_i))).trans ?_)
  refine (aY (ρ1:=spR m T v S r) (S1:=eQ S (ks,[]) x) ?_).trans (cx (var_eq rfl))
  rw [<- e1]
  simp [iA,eQ,spR,ao]
 ·unfold eQ;rw [aM];exact⟨_,rfl⟩
theorem Gi (g:Grp m T) (hm:m < 64) (ht : ∀ z∈ths,z < m) (hv:Wk S v ths) : ∃ ks S',G.run 2 2 spM [tab m T,v] S=some (.tup (ao (srt ks)),S')/\Ex S S'/\Dfs m T ths ks fun _=>False:=by
 obtain⟨ks,S1,e1,x1,q1,d,_⟩:=CB (v:=v) g hm ht hv
 have hl:(kF ks).length < 64:=aE d.len hm
 have e2:mFn dG (aa (mFn (G.run 2 7 yd) (aa (ab 0) (aa (ab 1) af))) af) [some (tab m T),some v] S=some (.ref S1.length,S1 ++ [.lst (ao (srt (kF ks)))]):=jd (b0 (var_eq rfl) (var_eq rfl) e1) (qJ (by simp only [qb,fv,q1,pQ]) hl)
 exact⟨kF ks,_,cy (ρ := [some (tab m T),some v]) rfl (cx (dQ e2)),x1.trans (Ex.push _ _),d⟩
theorem Lk (g:Grp m T) (hm:m < 64) (ht : ∀ z∈ths,z < m) : ∃ ks S',G.run 2 2 spM [tab m T,.tup (ao ths)] S=some (.tup (ao (srt ks)),S')/\Ex S S'/\Dfs m T ths ks fun _=>False:=Gi g hm ht (.inl rfl)
end
end
end W
end
section
namespace W
open L2 G
section
theorem yb {α β γ:Sort _}{f:α->β->γ}{a a':α}{b b':β} (h1:a=a') (h2:b=b'):f a b=f a' b':=by rw [h1,h2]
section
variable {m:Nat}{T:Nat->Nat->Nat}
abbrev Lt (m:Nat) (w:List Nat):Prop := ∀ x∈w,x < m
theorem Lt.app {a b:List Nat} (ha:Lt m a) (hb:Lt m b):Lt m (a++b):=fun x hx=>(bh.mp hx).elim (ha x) (hb x)
theorem Lt.tk {a:List Nat} (ha:Lt m a) (k:Nat):Lt m (a.take k):=fun x hx=>ha x (fQ hx)
theorem Lt.dr {a:List Nat} (ha:Lt m a) (k:Nat):Lt m (a.drop k):=fun x hx=>ha x (Dd hx)
theorem lM (g:Grp m T) {w:List Nat} (hw:Lt m w):cY T w < m:=E9 g.pos g.cl hw
theorem pk (g:Grp m T) : ∀ (w:List Nat) (x:Nat),x < m->Lt m w->w.foldl T x=T x (cY T w)
 | [],x,hx,_=>by show x=T x 0;rw [g.r0 x hx]
 | y::w,x,hx,h=>by
   have hy:y < m:=h y (by simp)
   have hw:Lt m w:=fun z hz=>h z (aA _ hz)
   show w.foldl T (T x y)=T x (w.foldl T (T 0 y))
   rw [pk g w _ (g.cl x y hx hy) hw,g.l0 y hy,pk g w y hy hw,g.as x y _ hx hy (lM g hw)]
theorem ny (g:Grp m T) {a b:List Nat} (ha:Lt m a) (hb:Lt m b):cY T (a++b)=T (cY T a) (cY T b):=by
 show (a++b).foldl T 0=_
 rw [rj]
 exact pk g b _ (lM g ha) hb
theorem n0 (g:Grp m T) {x:Nat}{w:List Nat} (hx:x < m) (hw:Lt m w):cY T (x::w)=T x (cY T w):=by
 show w.foldl T (T 0 x)=_
 rw [g.l0 x hx];exact pk g w x hx hw
theorem n9 {w:List Nat}{x:Nat}:cY T (w ++ [x])=T (cY T w) x:=by unfold cY;rw [rj];rfl
theorem oP (g:Grp m T) {x:Nat} (hx:x < m):unT m T x < m:=(nB g hx).1
theorem F3 (g:Grp m T) {x:Nat} (hx:x < m):T x (unT m T x)=0:=(nB g hx).2.1
theorem Hg (g:Grp m T) {x:Nat} (hx:x < m):T (unT m T x) x=0:=(nB g hx).2.2.1
theorem yc (g:Grp m T) {x y:Nat} (hx:x < m) (hy:y < m) (h:T x y=0):y=unT m T x:=(nB g hx).2.2.2 y hy h
theorem Fw (g:Grp m T) {x:Nat} (hx:x < m):unT m T (unT m T x)=x:=(yc g (oP g hx) hx (Hg g hx)).symm
theorem BW (g:Grp m T) {x y:Nat} (hx:x < m) (hy:y < m):unT m T (T x y)=T (unT m T y) (unT m T x):=by
 have h1:=oP g hx
 have h2:=oP g hy
 refine (yc g (g.cl _ _ hx hy) (g.cl _ _ h2 h1) ?_).symm
 rw [g.as x y _ hx hy (g.cl _ _ h2 h1),<- g.as y _ _ hy h2 h1,F3 g hy,g.l0 _ h1,F3 g hx]
theorem Cw (g:Grp m T):unT m T 0=0:=(yc g g.pos g.pos (g.l0 0 g.pos)).symm
noncomputable def bk (m:Nat) (T:Nat->Nat->Nat) (w:List Nat):List Nat:=w.reverse.map (unT m T)
theorem Cm (g:Grp m T) {w:List Nat} (hw:Lt m w):Lt m (bk m T w):=fun x hx=>by
 obtain⟨y,hy,rfl⟩:=bb.mp hx
 exact oP g (hw y (eI.mp hy))
theorem mG {w:List Nat}:(bk m T w).length=w.length:=by simp [bk]
theorem Jp (g:Grp m T) {w:List Nat} (hw:Lt m w):bk m T (bk m T w)=w:=by
 unfold bk
 rw [<- lz,Dc,bL]
 have:w.map (unT m T∘unT m T)=w.map id:=aT fun x hx=>Fw g (hw x hx)
 rw [this,uE]
theorem nC (g:Grp m T) : ∀ {w:List Nat},Lt m w->cY T (bk m T w)=unT m T (cY T w)
 | [],_=>(Cw g).symm
 | x::w,h=>by
   have hx:x < m:=h x (by simp)
   have hw:Lt m w:=fun z hz=>h z (aA _ hz)
   have e:bk m T (x::w)=bk m T w ++ [unT m T x]:=by simp [bk]
   rw [e,n9,nC g hw,n0 g hx hw,BW g hx (lM g hw)]
theorem B9 (g:Grp m T) {x:Nat}{w:List Nat} (hx:x < m) (hw:Lt m w):plc T (x::w)=0::(plc T w).map (T x):=by
 unfold plc
 rw [bR,Am,be,bL,bL]
 refine yb rfl (aT fun k _ => ?_)
 show cY T (x::w.take k)=_
 exact n0 g hx (hw.tk k)
theorem vO {w:List Nat}{x:Nat}:plc T (w ++ [x])=plc T w ++ [T (cY T w) x]:=by
 unfold plc
 rw [aH,bR,cH,fk,bS]
 refine yb (aT fun k hk => ?_) ?_
 ·have:=br.mp hk
  rw [dz (by exact ee (by assumption))]
 ·show [cY T ((w ++ [x]).take (w.length+1))]=_
  rw [dJ (by simp),n9]
theorem pB {w:List Nat}:(plc T w).length=w.length+1:=by simp [plc]
theorem p7 (g:Grp m T) {w:List Nat} (hw:Lt m w):Lt m (plc T w):=fun x hx=>by
 obtain⟨k,_,rfl⟩:=bb.mp hx
 exact lM g (hw.tk k)
theorem xE (g:Grp m T) : ∀ {w:List Nat},Lt m w->plc T (bk m T w)=(plc T w).reverse.map (T (unT m T (cY T w)))
 | [],_=>by
   show [0] = [T (unT m T 0) 0]
   rw [Cw g,g.l0 0 g.pos]
 | x::w,h=>by
   have hx:x < m:=h x (by simp)
   have hw:Lt m w:=fun z hz=>h z (aA _ hz)
   have e:bk m T (x::w)=bk m T w ++ [unT m T x]:=by simp [bk]
   have hc:=lM g hw
   have hu:=oP g hc
   have hux:=oP g hx
   rw [e,vO,xE g hw,B9 g hx hw,nC g hw,n0 g hx hw,BW g hx hc,dD,bS,<- lz,bL]
   refine yb (aT fun y hy => ?_) ?_
   ·have hy:y < m:=p7 g hw y (eI.mp hy)
    show _=T (T (unT m T (cY T w)) (unT m T x)) (T x y)
    rw [g.as _ _ _ hu hux (g.cl _ _ hx hy),<- g.as _ _ _ hux hx hy,Hg g hx,g.l0 y hy]
   ·show _ = [T (T (unT m T (cY T w)) (unT m T x)) 0]
    rw [g.r0 _ (g.cl _ _ hu hux)]
noncomputable def pre (T:Nat->Nat->Nat) (w:List Nat):List Nat:=(aB w.length).map fun k=>cY T (w.take k)
theorem lh {w:List Nat}:plc T w=pre T w ++ [cY T w]:=by
 unfold plc pre
 rw [fk,bS]
 simp
theorem uq {w:List Nat}:(pre T w).length=w.length:=by simp [pre]
theorem Bo (g:Grp m T) {w:List Nat} (hw:Lt m w):Lt m (pre T w):=fun x hx=>p7 g hw x (by rw [lh];exact aR _ hx)
theorem pre_app (g:Grp m T) {a b:List Nat} (ha:Lt m a) (hb:Lt m b):pre T (a++b)=pre T a++(pre T b).map (T (cY T a)):=by
 unfold pre
 rw [aH,List.range_add,bS,bL,bL]
 refine yb (aT fun k hk => ?_) (aT fun k hk => ?_)
 ·have:=br.mp hk
  rw [dz (by exact bG (by assumption))]
 ·show cY T ((a++b).take (a.length+k))=T (cY T a) (cY T (b.take k))
  rw [List.take_append,dJ (by omega),show a.length+k - a.length=k by omega]
  exact ny g ha (hb.tk k)
structure All (m:Nat) (l:List Nat):Prop where
 nd:l.Nodup
 lt:Lt m l
 len:l.length=m
theorem All.mem {l:List Nat} (h:All m l) {x:Nat} (hx:x < m):x∈l:=by
 apply Classical.byContradiction
 intro z
 have:=ue m (x::l) (fi.mpr ⟨z,h.nd⟩) (fun y hy=>(aX.mp hy).elim (fun e=>e▸hx) (h.lt y))
 have:=h.len
 simp at *
 omega
theorem All.perm {l:List Nat} (h:All m l):l.Perm (aB m):=
 (wI h.nd lx).mpr fun x=>⟨fun hx=>br.mpr (h.lt x hx),fun hx=>h.mem (br.mp hx)⟩
theorem All.of {l:List Nat} (h:l.Perm (aB m)):All m l:=
 ⟨h.nodup_iff.mpr lx,fun x hx=>br.mp (h.mem_iff.mp hx),by have:=h.length_eq;simpa using this⟩
theorem All.congr {a b:List Nat} (h:All m a) (p:b.Perm a):All m b:=All.of (p.trans h.perm)
theorem All.map {f:Nat->Nat}{l:List Nat} (h:All m l) (lt : ∀ x,x < m->f x < m) (inj : ∀ x y,x < m->y < m->f x=f y->x=y):All m (l.map f):=by
 refine⟨?_,fun x hx => ?_,by simp [h.len]⟩
 ·rw [fR,rm]
  exact List.Pairwise.imp_of_mem (fun ha hb hab e=>hab (inj _ _ (h.lt _ ha) (h.lt _ hb) e)) (fR.mp h.nd)
 ·obtain⟨y,hy,rfl⟩:=bb.mp hx
  exact lt y (h.lt y hy)
theorem All.left (g:Grp m T) {a:Nat}{l:List Nat} (ha:a < m) (h:All m l):All m (l.map (T a)):=
 h.map (fun x hx=>g.cl a x ha hx) fun x y hx hy e=>g.cancel ha hx hy e
theorem All.unmap {f:Nat->Nat}{l:List Nat} (h:All m (l.map f)) (lt:Lt m l):All m l:=by
 refine⟨?_,lt,by have:=h.len;simpa using this⟩
 have:=h.nd
 rw [fR,rm] at this
 rw [fR]
 exact this.imp fun hn e=>hn (by rw [e])
abbrev Way (m:Nat) (T:Nat->Nat->Nat) (w:List Nat):Prop:=All m (plc T w)
structure Rnd (m:Nat) (T:Nat->Nat->Nat) (w:List Nat):Prop where
 home:cY T w=0
 all:All m (pre T w)
theorem Way.bk (g:Grp m T) {w:List Nat} (hw:Lt m w) (h:Way m T w):Way m T (bk m T w):=by
 show All m (plc T (W.bk m T w))
 rw [xE g hw]
 exact All.left g (oP g (lM g hw)) (h.congr (List.reverse_perm _))
theorem Rnd.begun (g:Grp m T) {a b:List Nat} (ha:Lt m a) (hb:Lt m b) (h:Rnd m T (a++b)):Rnd m T (b++a):=by
 have ca:=lM g ha
 have cb:=lM g hb
 have h0:=h.home
 rw [ny g ha hb] at h0
 have e:cY T b=unT m T (cY T a):=yc g ca cb h0
 refine⟨?_,?_⟩
 ·rw [ny g hb ha,e];exact Hg g ca
 ·have hl:Lt m (pre T (b++a)):=Bo g (hb.app ha)
  refine All.unmap (f:=T (cY T a)) ?_ hl
  have h2:=h.all
  rw [pre_app g ha hb] at h2
  rw [pre_app g hb ha,bS,bL]
  have:(pre T a).map (T (cY T a)∘T (cY T b))=pre T a:=by
   have:(pre T a).map (T (cY T a)∘T (cY T b))=(pre T a).map id:=aT fun x hx=>by
    have hx:=Bo g ha x hx
    show T (cY T a) (T (cY T b) x)=x
    rw [<- g.as _ _ _ ca cb hx,h0,g.l0 x hx]
   rw [this,uE]
  rw [this]
  exact h2.congr List.perm_append_comm
theorem Rnd.bk (g:Grp m T) {w:List Nat} (hw:Lt m w) (h:Rnd m T w):Rnd m T (bk m T w):=by
 refine⟨by rw [nC g hw,h.home,Cw g],?_⟩
 have e:=xE g hw
 rw [h.home,Cw g] at e
 have e2:(plc T w).reverse.map (T 0)=(plc T w).reverse:=by
  have:(plc T w).reverse.map (T 0)=(plc T w).reverse.map id:=aT fun x hx=>g.l0 x (p7 g hw x (eI.mp hx))
  rw [this,uE]
 rw [e2,lh,lh,nC g hw,h.home,Cw g,jn] at e
 have hp:=h.all.perm
 cases q:pre T w with
 | nil=>have:=h.all.len;rw [q] at this;have:=g.pos;simp at *;omega
 | cons x l=>
   have hx:x=0:=by
    have hl:0 < w.length:=by have:=uq (T:=T) (w:=w);rw [q] at this;simp at this;omega
    have:(pre T w)[0]? = some 0:=by
     unfold pre
     rw [bT,List.getElem?_range hl];rfl
    rw [q] at this;simpa using this
   rw [q,hx] at e
   have e3:pre T (W.bk m T w) ++ [0]=(0::l.reverse) ++ [0]:=by rw [e];simp
   have e4:pre T (W.bk m T w)=0::l.reverse:=(List.append_inj_left' e3 rfl)
   rw [e4]
   have h2:=h.all
   rw [q,hx] at h2
   exact h2.congr ((List.reverse_perm l).cons 0)
theorem Rnd.way {w:List Nat}{x:Nat} (h:Rnd m T (w ++ [x])):Way m T w:=by
 have h2:=h.all
 show All m (plc T w)
 have:pre T (w ++ [x])=plc T w:=by
  unfold pre plc
  rw [aH,bR,cH]
  refine aT fun k hk => ?_
  have:=br.mp hk
  rw [dz (by exact ee (by assumption))]
 rwa [this] at h2
theorem Iy {o p:Nat->Nat} (g:Grp m T) (h:Ord m o p) {x y:Nat} (hx:x < m) (hy:y < m):ek T o p (p x) (p y)=p (T x y):=by unfold ek;rw [h.op x hx,h.op y hy]
theorem LU {o p:Nat->Nat} (g:Grp m T) (h:Ord m o p):p 0=0:=by have:=h.po 0 g.pos;rwa [h.o0] at this
theorem yG {o p:Nat->Nat} (g:Grp m T) (h:Ord m o p) : ∀ (w:List Nat) (x:Nat),x < m->Lt m w->(w.map p).foldl (ek T o p) (p x)=p (w.foldl T x)
 | [],x,_,_=>rfl
 | y::w,x,hx,hw=>by
   have hy:y < m:=hw y (by simp)
   show (w.map p).foldl (ek T o p) (ek T o p (p x) (p y))=_
   rw [Iy g h hx hy]
   exact yG g h w _ (g.cl x y hx hy) fun z hz=>hw z (aA _ hz)
theorem Ii {o p:Nat->Nat} (g:Grp m T) (h:Ord m o p) {w:List Nat} (hw:Lt m w):plc (ek T o p) (w.map p)=(plc T w).map p:=by
 unfold plc
 rw [av,bL]
 refine aT fun k _ => ?_
 show ((w.map p).take k).foldl (ek T o p) 0=p ((w.take k).foldl T 0)
 rw [<- y3]
 have:=yG g h (w.take k) 0 g.pos (hw.tk k)
 rwa [LU g h] at this
theorem HB {o p:Nat->Nat} (h:Ord m o p) {x y:Nat} (hx:x < m) (hy:y < m) (e:p x=p y):x=y:=by rw [<- h.op x hx,<- h.op y hy,e]
theorem Way.named {o p:Nat->Nat} (g:Grp m T) (h:Ord m o p) {w:List Nat} (hw:Lt m w) (hy:Way m T w):Way m (ek T o p) (w.map p):=by
 show All m (plc (ek T o p) (w.map p))
 rw [Ii g h hw]
 exact hy.map (fun x hx=>h.pl x hx) fun x y hx hy e=>HB h hx hy e
theorem B1 {st w:List Nat} (h : ∀ x∈w,x∈st):Rch T st (cY T w):=by
 suffices ∀ (w:List Nat) (x:Nat),(∀ y∈w,y∈st)->Rch T st x->Rch T st (w.foldl T x) from this w 0 h .zero
 intro w
 induction w with
 | nil=>intro x _ r;exact r
 | cons y w ih=>intro x h r;exact ih _ (fun z hz=>h z (aA _ hz)) (.step r (h y (by simp)))
theorem Way.rch {st w:List Nat} (h:Way m T w) (hs : ∀ x∈w,x∈st) {x:Nat} (hx:x < m):Rch T st x:=by
 obtain⟨k,_,rfl⟩:=bb.mp (All.mem h hx)
 exact B1 fun y hy=>hs y (fQ hy)
structure Gd (T:Nat->Nat->Nat) (st:List Nat) (p:Nod):Prop where
 pl:p.2=plc T p.1
 nd:p.2.Nodup
 by' : ∀ x∈p.1,x∈st
theorem pL {w:List Nat}:ef (plc T w)=cY T w:=by rw [lh,md]
theorem uc {st:List Nat}{L:Nod->List (List Nat)} : ∀ (k:Nat) (p:Nod) (w:List Nat),Gd T st p->w∈j4 T st L k p -> ∃ q:Nod,Gd T st q/\q.1.length=p.1.length+k/\w∈L q
 | 0,p,w,h,e=>⟨p,h,rfl,e⟩
 | k+1,p,w,h,e=>by
   obtain⟨q,hq,e⟩:=List.mem_flatMap.mp (show w∈(kids T st p).flatMap (j4 T st L k) from e)
   obtain⟨s,hs,rfl⟩:=bb.mp hq
   obtain⟨hs1,hs2⟩:=fh.mp hs
   have hn:T (ef p.2) s∉p.2:=by simpa using hs2
   have hl:ef p.2=cY T p.1:=by rw [h.pl,pL]
   have gd:Gd T st (p.1 ++ [s],p.2 ++ [T (ef p.2) s]):=by
    refine⟨?_,?_,fun x hx => ?_⟩
    ·show p.2 ++ [T (ef p.2) s]=plc T (p.1 ++ [s])
     rw [vO,hl,<- h.pl]
    ·show (p.2 ++ [T (ef p.2) s]).Nodup
     rw [ir]
     exact⟨h.nd,by simp,fun a ha b hb=>by simp at hb;rintro rfl;exact hn (hb▸ha)⟩
    ·rcases bh.mp hx with hx | hx
     ·exact h.by' x hx
     ·simp at hx;rw [hx];exact hs1
   obtain⟨q,g1,g2,g3⟩:=uc k _ w gd e
   exact⟨q,g1,by rw [g2];simp;omega,g3⟩
theorem vL {st:List Nat}:Gd T st ([],[0]):=⟨rfl,by simp,by simp⟩
theorem Ab {st w:List Nat} (g:Grp m T) (hs:Lt m st) (h:w∈j4 T st uY (m - 1) ([],[0])):Way m T w/\(∀ x∈w,x∈st)/\w.length=m - 1:=by
 obtain⟨q,g1,g2,g3⟩:=uc _ _ _ vL h
 have e:w=q.1:=by simpa [uY] using g3
 subst e
 have hp:=g.pos
 have hl:q.1.length=m - 1:=by simpa using g2
 refine⟨⟨by rw [<- g1.pl];exact g1.nd,p7 g fun x hx=>hs x (g1.by' x hx),by rw [pB];omega⟩,g1.by',hl⟩
theorem vf {st w:List Nat} (g:Grp m T) (hs:Lt m st) (h:w∈j4 T st (lB T st) (m - 1) ([],[0])):Rnd m T w/\(∀ x∈w,x∈st)/\w.length=m:=by
 obtain⟨q,g1,g2,g3⟩:=uc _ _ _ vL h
 obtain⟨s,hs1,rfl⟩:=bb.mp g3
 obtain⟨hs1,hs2⟩:=fh.mp hs1
 have hl:ef q.2=cY T q.1:=by rw [g1.pl,pL]
 rw [hl] at hs2
 have hs2:=of_decide_eq_true hs2
 have hp:=g.pos
 have hlen:q.1.length=m - 1:=by simpa using g2
 have lt1:Lt m q.1:=fun x hx=>hs x (g1.by' x hx)
 refine⟨⟨by rw [n9];exact hs2,?_⟩,fun x hx => ?_,by simp;omega⟩
 ·have:pre T (q.1 ++ [s])=plc T q.1:=by
   unfold pre plc
   rw [aH,bR,cH]
   refine aT fun k hk => ?_
   have:=br.mp hk
   rw [dz (by exact ee (by assumption))]
  rw [this]
  exact⟨by rw [<- g1.pl];exact g1.nd,p7 g lt1,by rw [pB];omega⟩
 ·rcases bh.mp hx with hx | hx
  ·exact g1.by' x hx
  ·simp at hx;rw [hx];exact hs1
end
theorem qj {ρ:Rho}{S S1 S2:Sto}{a b:ME}{x y:Bool} (ha:a ρ S=some (.bl x,S1)) (hb:x=true->b ρ S1=some (.bl y,S2)) (hf:x=false->S2=S1):h8 a b ρ S=some (.bl (x&&y),S2):=by
 cases x with
 | true=>simp only [h8,ha,aG,hb rfl,o9]
 | false=>simp only [h8,ha,aG,hf rfl,Bool.false_and]
theorem mE {ρ:Rho}{S S1 S2:Sto}{a b:ME}{x y:Bool} (ha:a ρ S=some (.bl x,S1)) (hb:b ρ S1=some (.bl y,S2)) (x1:Ex S S1) (x2:Ex S1 S2) : ∃ S',h8 a b ρ S=some (.bl (x&&y),S')/\Ex S S':=by
 cases x with
 | true=>exact⟨S2,qj ha (fun _=>hb) (fun z=>by cases z),x1.trans x2⟩
 | false=>exact⟨S1,qj (y:=y) ha (fun z=>by cases z) (fun _=>rfl),x1⟩
theorem uF {α:Type}{f:α->Bool} : ∀ l:List α,de kH (l.map fun x=>U.bl (f x))=some (l.map f)
 | []=>rfl
 | x::l=>by
   show (kH (U.bl (f x))).bind _=_
   simp only [kH,ai]
   rw [uF l]
   rfl
theorem Ck {α:Type}{ρ:Rho}{S S1:Sto}{a:ME}{r:Nat}{f:α->Bool}{l:List α} (ha:a ρ S=some (.ref r,S1)) (hr:S1[r]? = some (.lst (l.map fun x=>U.bl (f x)))):mFn rL (aa a af) ρ S=some (.bl (l.all f),S1):=by
 refine jd ha ?_
 simp only [rL,getL,hr,ai,uF,aV]
 congr 2
 simp [List.all_map,Function.comp_def]
theorem LG {ρ:Rho}{S S1 S2:Sto}{a b:ME}{x y:List Nat} (ha:a ρ S=some (.tup (ao x),S1)) (hb:b ρ S1=some (.tup (ao y),S2)):m2 oEq a b ρ S=some (.bl (decide (x=y)),S2):=
 op2 ha hb (by simp only [oEq,yo,aV])
theorem AG {ρ:Rho}{S S1:Sto}{a:ME}{l:List Nat} (ha:a ρ S=some (.tup (ao l),S1)) (hl:l.length < 64):mFn dG (aa a af) ρ S=some (.ref S1.length,S1 ++ [.lst (ao (srt l))]):=
 jd ha (qJ (by simp only [qb,fv,dI,ai,mx]) hl)
theorem zP (m:Nat):srt (aB m)=aB m:=by
 have h:iV (aB m)=nL (iV (aB m)):=pM (List.Perm.refl _) (by
  unfold iV
  rw [rm]
  exact (List.pairwise_lt_range (n:=m)).imp fun h=>by omega)
 unfold srt
 rw [<- h];exact mH _
theorem pf {m:Nat}{l:List Nat}:decide (srt l=aB m)=true↔All m l:=by
 rw [decide_eq_true_iff]
 constructor
 ·intro h
  exact All.of ((jv l).symm.trans (by rw [h]))
 ·intro h
  rw [oe h.perm,zP]
section
variable {m:Nat}{T:Nat->Nat->Nat}{st w:List Nat}{S:Sto}
noncomputable def nbM:MS:=bV (h8 (m1 (mI "int") (ab 0)) (h8 (m1 xG (m1 (mI "bool") (ab 0))) (mCh oLe oLt (mC (.int 0)) (ab 0) (ab 1))))
theorem J1 {x n:Nat}:G.run 2 2 nbM [.int (x:Nat),.int (n:Nat)] S=some (.bl (decide (x < n)),S):=by
 refine cy (ρ := [some (.int (x:Nat)),some (.int (n:Nat))]) rfl (cx ?_)
 have h1:m1 (mI "int") (ab 0) [some (.int (x:Nat)),some (.int (n:Nat))] S=some (.bl true,S):=rfl
 have h2:m1 xG (m1 (mI "bool") (ab 0)) [some (.int (x:Nat)),some (.int (n:Nat))] S=some (.bl true,S):=rfl
 have h3:mCh oLe oLt (mC (.int 0)) (ab 0) (ab 1) [some (.int (x:Nat)),some (.int (n:Nat))] S=some (.bl (decide (x < n)),S):=by
  have v0:ab 0 [some (.int (x:Nat)),some (.int (n:Nat))] S=some (.int (x:Nat),S):=rfl
  have v1:ab 1 [some (.int (x:Nat)),some (.int (n:Nat))] S=some (.int (n:Nat),S):=rfl
  have l:oLe (.int 0) (.int (x:Nat)) S=some (.bl true,S):=by
   show some (U.bl (decide ((0:Int)<=(x:Int))),S)=_
   rw [decide_eq_true (by exact qZ _)]
  have l2:oLt (.int (x:Nat)) (.int (n:Nat)) S=some (.bl (decide (x < n)),S):=by
   show some (U.bl (decide ((x:Int) < (n:Int))),S)=_
   congr 2
   simp
  simp only [mCh,mC,aG,v0,l,v1,l2]
 exact qj h1 (fun _=>qj h2 (fun _=>h3) (fun z=>by cases z)) (fun z=>by cases z)
noncomputable def B2:MS:=bV (h8 (m1 (mI "tuple") (ab 0)) (mFn rL (aa (bZ (da (ab 0)) cTT (mFn (G.run 2 2 nbM) (aa (ab 2) (aa (ab 1) af)))) af)))
theorem nG {ρ:Rho}{S:Sto}{e a:ME}{l:List Nat}{f:Nat->U} (ha:a ρ S=some (.tup (ao l),S)) (hl:l.length < 10000000) (he : ∀ x∈l,e (ρ ++ [some (.int x)]) S=some (f x,S)):bZ (da a) cTT e ρ S=some (.ref S.length,S ++ [.lst (l.map f)]):=by
 have h:=qN (t:=cTT) (e:=e) (ρ:=ρ) (S:=S) (a:=a) (l:=l) (p:=fun _=>true) (f:=f) ha (by unfold big;exact ae (by assumption) (by decide)) (fun _ _=>rfl) (fun x hx _=>he x hx)
 rwa [List.filter_eq_self.mpr (fun _ _=>rfl)] at h
theorem B0 {n:Nat} (hl:w.length < 10000000) : ∃ S',G.run 2 2 B2 [.tup (ao w),.int (n:Nat)] S=some (.bl (w.all fun x=>decide (x < n)),S')/\Ex S S':=by
 have h1:m1 (mI "tuple") (ab 0) [some (.tup (ao w)),some (.int (n:Nat))] S=some (.bl true,S):=isT (var_eq rfl)
 have h2:=nG (e:=mFn (G.run 2 2 nbM) (aa (ab 2) (aa (ab 1) af))) (ρ := [some (.tup (ao w)),some (.int (n:Nat))]) (S:=S) (a:=ab 0) (l:=w) (f:=fun x => .bl (decide (x < n))) (var_eq rfl) hl (fun x _=>b0 (var_eq rfl) (var_eq rfl) J1)
 obtain⟨S',e,x⟩:=mE h1 (Ck h2 (d5 _ _)) (Ex.refl _) (Ex.push _ _)
 exact⟨S',cy (ρ := [some (.tup (ao w)),some (.int (n:Nat))]) rfl (cx (e.trans (by rw [o9]))),x⟩
noncomputable def wbM:MS:=bV (h8 (mFn (G.run 2 2 B2) (aa (ab 2) (aa (mFn bF (aa (ab 0) af)) af))) (mFn rL (aa (bZ (da (ab 2)) cTT (m2 oIn (ab 3) (ab 1))) af)))
theorem Lq {ρ:Rho}{S S1 S2:Sto}{a b:ME}{x:Nat}{l:List Nat} (ha:a ρ S=some (.int x,S1)) (hb:b ρ S1=some (.tup (ao l),S2)):m2 oIn a b ρ S=some (.bl (decide (x∈l)),S2):=
 op2 ha hb (by simp only [oIn,fv,eK,ai,dI,og,aV,yr])
theorem Ff (hl:w.length < 10000000) (hw:Lt m w) : ∃ S',G.run 3 3 wbM [tab m T,.tup (ao st),.tup (ao w)] S=some (.bl (w.all fun x=>decide (x∈st)),S')/\Ex S S':=by
 obtain⟨S1,e1,x1⟩:=B0 (S:=S) (n:=m) hl
 have ht:(w.all fun x=>decide (x < m))=true:=bH.mpr fun x hx=>decide_eq_true (hw x hx)
 rw [ht] at e1
 have h1:mFn (G.run 2 2 B2) (aa (ab 2) (aa (mFn bF (aa (ab 0) af)) af)) [some (tab m T),some (.tup (ao st)),some (.tup (ao w))] S=some (.bl true,S1):=b0 (var_eq rfl) (len_tab (var_eq rfl)) e1
 have h2:=nG (e:=m2 oIn (ab 3) (ab 1)) (ρ := [some (tab m T),some (.tup (ao st)),some (.tup (ao w))]) (S:=S1) (a:=ab 2) (l:=w) (f:=fun x => .bl (decide (x∈st))) (var_eq rfl) hl (fun x _=>Lq (var_eq rfl) (var_eq rfl))
 obtain⟨S',e,x⟩:=mE h1 (Ck h2 (d5 _ _)) x1 (Ex.push _ _)
 exact⟨S',cy (ρ := [some (tab m T),some (.tup (ao st)),some (.tup (ao w))]) rfl (cx (e.trans (by rw [o9]))),x⟩
noncomputable def AO:MS:=bV (m2 oEq (mFn bD (aa (mFn dG (aa (ab 1) af)) af)) (mFn (G.run 1 1 atM) (aa (ab 0) af)))
theorem BS {l:List Nat} (hm:m < 1000) (hl:l.length < 64) : ∃ S',G.run 2 2 AO [tab m T,.tup (ao l)] S=some (.bl (decide (srt l=aB m)),S')/\Ex S S':=
 ⟨_,cy (ρ := [some (tab m T),some (.tup (ao l))]) rfl (cx (LG (dQ (AG (var_eq rfl) hl)) (jd (var_eq rfl) (IT hm)))),Ex.push _ _⟩
noncomputable def plM:MS:=aZ (bA 2 (cM (aa (mC (.int 0)) af))) (aZ (eo 3 (da (ab 1)) (df (mML cj (ab 2) (aa (m2 oIx (m2 oIx (ab 0) (m2 oIx (ab 2) (m1 eW (mC (.int 1))))) (ab 3)) af)))) (bV (mFn bD (aa (ab 2) af))))
theorem Bu (g:Grp m T) (hw:Lt m w) (hl:w.length < 10000000) : ∃ S',G.run 2 4 plM [tab m T,.tup (ao w)] S=some (.tup (ao (plc T w)),S')/\Ex S S':=by
 have hone:cM (aa (mC (.int 0)) af) [some (tab m T),some (.tup (ao w)),none,none] S=some (.ref S.length,S ++ [Cell.lst [.int 0]]):=Bz rfl
 obtain⟨ρ1,S1,e1,⟨x,rfl⟩,q1,q2⟩:=A3 (i:=3) (b:=df (mML cj (ab 2) (aa (m2 oIx (m2 oIx (ab 0) (m2 oIx (ab 2) (m1 eW (mC (.int 1))))) (ab 3)) af))) (e:=ab 1)
  (ρ := [some (tab m T),some (.tup (ao w)),some (.ref S.length),none]) (S:=S ++ [Cell.lst [.int 0]]) (S1:=S ++ [Cell.lst [.int 0]]) (us:=ao w) (var_eq rfl)
  (fun k ρ S'=>(∃ x,ρ = [some (tab m T),some (.tup (ao w)),some (.ref S.length),x])/\Ex S S'/\S'[S.length]? = some (Cell.lst (ao ((aB (k+1)).map fun i=>cY T (w.take i)))))
  ⟨⟨none,rfl⟩,Ex.push _ _,by rw [d5];simp [ao,cY]⟩
  (by
   rintro k u ρ S' hu ⟨⟨x,rfl⟩,q1,q2⟩
   obtain⟨y,hy,rfl⟩:=vK hu
   have hym:y < m:=hw y (dc hy)
   have hpm:cY T (w.take k) < m:=lM g (hw.tk k)
   have hlast:atI (ao ((aB (k+1)).map fun i=>cY T (w.take i))) (-1)=some (.int (cY T (w.take k))):=by
    unfold ao
    rw [bL]
    exact AL
   have ev:m2 oIx (m2 oIx (ab 0) (m2 oIx (ab 2) (m1 eW (mC (.int 1))))) (ab 3) [some (tab m T),some (.tup (ao w)),some (.ref S.length),some (.int y)] S'=some (.int (T (cY T (w.take k)) y),S'):=
    kA hym (jK hpm (var_eq rfl) (EK (var_eq rfl) Do q2 hlast)) (var_eq rfl)
   have hkl:k < w.length:=(ah.mp hy).1
   refine⟨_,_,append_eq (var_eq rfl) ev q2 q2 (by simp [ao];unfold big;exact aE (by assumption) (ae (by assumption) (by decide))),⟨_,rfl⟩,q1.set (ak _),?_⟩
   rw [aU (ah.mp q2).1]
   rw [fk (n:=k+1),bS]
   simp [ao,z7 hy])
 rw [cu] at q2
 refine⟨S1,cy (ρ := [some (tab m T),some (.tup (ao w)),some (.ref S.length),x]) rfl ?_,q1⟩
 show plM [some (tab m T),some (.tup (ao w)),none,none] S=_
 exact (aY (bO hone)).trans ((aY e1).trans (cx (jC (var_eq rfl) q2)))
noncomputable def gtM:MS:=bV (h8 (mFn (G.run 2 2 B2) (aa (ab 1) (aa (mFn bF (aa (ab 0) af)) af))) (mFn (G.run 2 2 AO) (aa (ab 0) (aa (mFn (G.run 2 4 plM) (aa (ab 0) (aa (ab 1) af))) af))))
theorem Lh (g:Grp m T) (hm:m < 1000) (hw:Lt m w) (hl:w.length < 63) : ∃ S',G.run 2 2 gtM [tab m T,.tup (ao w)] S=some (.bl (decide (srt (plc T w)=aB m)),S')/\Ex S S':=by
 obtain⟨S1,e1,x1⟩:=B0 (S:=S) (n:=m) (w:=w) (by exact ae (by assumption) (by decide))
 have ht:(w.all fun x=>decide (x < m))=true:=bH.mpr fun x hx=>decide_eq_true (hw x hx)
 rw [ht] at e1
 obtain⟨S2,e2,x2⟩:=Bu (S:=S1) g hw (by exact ae (by assumption) (by decide))
 obtain⟨S3,e3,x3⟩:=BS (T:=T) (S:=S2) (l:=plc T w) hm (by rw [pB];exact aE (by assumption) (by decide))
 obtain⟨S',e,x⟩:=mE (ρ := [some (tab m T),some (.tup (ao w))]) (a:=mFn (G.run 2 2 B2) (aa (ab 1) (aa (mFn bF (aa (ab 0) af)) af))) (b:=mFn (G.run 2 2 AO) (aa (ab 0) (aa (mFn (G.run 2 4 plM) (aa (ab 0) (aa (ab 1) af))) af))) (b0 (var_eq rfl) (len_tab (var_eq rfl)) e1) (b0 (var_eq rfl) (b0 (var_eq rfl) (var_eq rfl) e2) e3) x1 (x2.trans x3)
 exact⟨S',cy (ρ := [some (tab m T),some (.tup (ao w))]) rfl (cx (e.trans (by rw [o9]))),x⟩
noncomputable def iwM:MS:=bV (h8 (mFn (G.run 3 3 wbM) (aa (ab 0) (aa (ab 1) (aa (ab 2) af)))) (mFn (G.run 2 2 gtM) (aa (ab 0) (aa (ab 2) af))))
theorem Fy (g:Grp m T) (hm:m < 1000) (hw:Lt m w) (hl:w.length < 63) : ∃ S',G.run 3 3 iwM [tab m T,.tup (ao st),.tup (ao w)] S=some (.bl ((w.all fun x=>decide (x∈st))&&decide (srt (plc T w)=aB m)),S')/\Ex S S':=by
 obtain⟨S1,e1,x1⟩:=Ff (S:=S) (T:=T) (st:=st) (by exact ae (by assumption) (by decide)) hw
 obtain⟨S2,e2,x2⟩:=Lh (S:=S1) g hm hw hl
 obtain⟨S',e,x⟩:=mE (ρ := [some (tab m T),some (.tup (ao st)),some (.tup (ao w))]) (a:=mFn (G.run 3 3 wbM) (aa (ab 0) (aa (ab 1) (aa (ab 2) af)))) (b:=mFn (G.run 2 2 gtM) (aa (ab 0) (aa (ab 2) af))) (i7 (var_eq rfl) (var_eq rfl) (var_eq rfl) e1) (b0 (var_eq rfl) (var_eq rfl) e2) x1 x2
 exact⟨S',cy (ρ := [some (tab m T),some (.tup (ao st)),some (.tup (ao w))]) rfl (cx e),x⟩
theorem DS (g:Grp m T) (hm:m < 1000) (hw:Lt m w) (hl:w.length < 63) (hs : ∀ x∈w,x∈st) (h:Way m T w) : ∃ S',G.run 3 3 iwM [tab m T,.tup (ao st),.tup (ao w)] S=some (.bl true,S')/\Ex S S':=by
 obtain⟨S',e,x⟩:=Fy (S:=S) (st:=st) g hm hw hl
 refine⟨S',?_,x⟩
 rw [e,pf.mpr h,bH.mpr fun x hx=>decide_eq_true (hs x hx)]
 rfl
theorem LC (g:Grp m T) (hm:m < 1000) (hw:Lt m w) (hl:w.length < 63) (h:w.length+1≠m) : ∃ S',G.run 3 3 iwM [tab m T,.tup (ao st),.tup (ao w)] S=some (.bl false,S')/\Ex S S':=by
 obtain⟨S',e,x⟩:=Fy (S:=S) (st:=st) g hm hw hl
 refine⟨S',?_,x⟩
 have:decide (srt (plc T w)=aB m)=false:=by
  cases q:decide (srt (plc T w)=aB m) with
  | false=>rfl
  | true=>have:=(pf.mp q).len;rw [pB] at this;exact absurd this h
 rw [e,this,jI]
theorem vB (hne:True):atI (ao (plc T w)) (-1)=some (.int (cY T w:Nat)):=by
 have:=yn (th:=plc T w) (by rw [lh];simp)
 rw [pL] at this
 exact this
theorem Ao {α:Type}{xs:List α}{y:α}:cut (xs ++ [y]) none (some (-1))=xs:=by
 unfold cut
 have h1:HT.sIx (xs ++ [y]).length 0 none=0:=rfl
 have h2:HT.sIx (xs ++ [y]).length (xs ++ [y]).length (some (-1))=xs.length:=by
  unfold HT.sIx
  simp
  omega
 rw [h1,h2]
 simp
theorem xS {ρ:Rho}{S S1:Sto}{a:ME}{l:List Nat}{x:Nat} (ha:a ρ S=some (.tup (ao (l ++ [x])),S1)):mSl a none (some (m1 eW (mC (.int 1)))) ρ S=some (.tup (ao l),S1):=by
 have e:ao (l ++ [x])=ao l ++ [.int x]:=by simp [ao]
 rw [e] at ha
 have n1:m1 eW (mC (.int 1)) ρ S1=some (.int (-1),S1):=rfl
 simp only [mSl,ha,aG,pP,n1,Ao]
noncomputable def crM:MS:=aZ (bA 2 (mFn (G.run 2 4 plM) (aa (ab 0) (aa (ab 1) af)))) (bV (h8 (m2 oEq (m2 oIx (ab 2) (m1 eW (mC (.int 1)))) (mC (.int 0))) (mFn (G.run 2 2 AO) (aa (ab 0) (aa (mSl (ab 2) none (some (m1 eW (mC (.int 1))))) af)))))
theorem JO (g:Grp m T) (hm:m < 1000) (hw:Lt m w) (hl:w.length < 63) : ∃ S',G.run 2 3 crM [tab m T,.tup (ao w)] S=some (.bl (decide (cY T w=0)&&decide (srt (pre T w)=aB m)),S')/\Ex S S':=by
 obtain⟨S1,e1,x1⟩:=Bu (S:=S) g hw (by exact ae (by assumption) (by decide))
 obtain⟨S2,e2,x2⟩:=BS (T:=T) (S:=S1) (l:=pre T w) hm (by rw [uq];exact ae (by assumption) (by decide))
 have h1:m2 oEq (m2 oIx (ab 2) (m1 eW (mC (.int 1)))) (mC (.int 0)) [some (tab m T),some (.tup (ao w)),some (.tup (ao (plc T w)))] S1=some (.bl (decide (cY T w=0)),S1):=DG (y:=0) (wZ (var_eq rfl) Do (vB trivial)) c_i
 have h2:mFn (G.run 2 2 AO) (aa (ab 0) (aa (mSl (ab 2) none (some (m1 eW (mC (.int 1))))) af)) [some (tab m T),some (.tup (ao w)),some (.tup (ao (plc T w)))] S1=some (.bl (decide (srt (pre T w)=aB m)),S2):=b0 (var_eq rfl) (xS (l:=pre T w) (x:=cY T w) (by rw [<- lh];exact var_eq rfl)) e2
 obtain⟨S',e,x⟩:=mE h1 h2 (Ex.refl _) x2
 refine⟨S',cy (ρ := [some (tab m T),some (.tup (ao w)),some (.tup (ao (plc T w)))]) rfl ?_,x1.trans x⟩
 show crM [some (tab m T),some (.tup (ao w)),none] S=_
 exact (aY (bO (b0 (var_eq rfl) (var_eq rfl) e1))).trans (cx e)
noncomputable def irM:MS:=bV (h8 (mFn (G.run 3 3 wbM) (aa (ab 0) (aa (ab 1) (aa (ab 2) af)))) (h8 (m2 oGe (mFn bF (aa (ab 2) af)) (mC (.int 2))) (mFn (G.run 2 3 crM) (aa (ab 0) (aa (ab 2) af)))))
theorem FJ (g:Grp m T) (hm:m < 1000) (hw:Lt m w) (hl:w.length < 63) : ∃ S',G.run 3 3 irM [tab m T,.tup (ao st),.tup (ao w)] S=some (.bl ((w.all fun x=>decide (x∈st))&&(decide (2<=w.length)&&(decide (cY T w=0)&&decide (srt (pre T w)=aB m)))),S')/\Ex S S':=by
 obtain⟨S1,e1,x1⟩:=Ff (S:=S) (T:=T) (st:=st) (by exact ae (by assumption) (by decide)) hw
 have h2:m2 oGe (mFn bF (aa (ab 2) af)) (mC (.int 2)) [some (tab m T),some (.tup (ao st)),some (.tup (ao w))] S1=some (.bl (decide (2<=w.length)),S1):=by
  have:=IC (ρ := [some (tab m T),some (.tup (ao st)),some (.tup (ao w))]) (S:=S1) (a:=mFn bF (aa (ab 2) af)) (b:=mC (.int 2)) (ve (var_eq rfl)) c_i
  rw [this,cu]
  congr 2
  simp
  omega
 obtain⟨S2,e2,x2⟩:=JO (S:=S1) g hm hw hl
 obtain⟨S3,e3,x3⟩:=mE (ρ := [some (tab m T),some (.tup (ao st)),some (.tup (ao w))]) (b:=mFn (G.run 2 3 crM) (aa (ab 0) (aa (ab 2) af))) h2 (b0 (var_eq rfl) (var_eq rfl) e2) (Ex.refl _) x2
 obtain⟨S',e,x⟩:=mE (ρ := [some (tab m T),some (.tup (ao st)),some (.tup (ao w))]) (a:=mFn (G.run 3 3 wbM) (aa (ab 0) (aa (ab 1) (aa (ab 2) af)))) (i7 (var_eq rfl) (var_eq rfl) (var_eq rfl) e1) e3 x1 x3
 exact⟨S',cy (ρ := [some (tab m T),some (.tup (ao st)),some (.tup (ao w))]) rfl (cx e),x⟩
theorem HH (g:Grp m T) (hm:m < 1000) (hw:Lt m w) (hl:w.length < 63) (h2:2<=w.length) (hs : ∀ x∈w,x∈st) (h:Rnd m T w) : ∃ S',G.run 3 3 irM [tab m T,.tup (ao st),.tup (ao w)] S=some (.bl true,S')/\Ex S S':=by
 obtain⟨S',e,x⟩:=FJ (S:=S) (st:=st) g hm hw hl
 refine⟨S',?_,x⟩
 rw [e,pf.mpr h.all,bH.mpr fun x hx=>decide_eq_true (hs x hx),decide_eq_true h2,decide_eq_true h.home]
 rfl
theorem LR (g:Grp m T) (hm:m < 1000) (hw:Lt m w) (hl:w.length < 63) (h:w.length≠m) : ∃ S',G.run 3 3 irM [tab m T,.tup (ao st),.tup (ao w)] S=some (.bl false,S')/\Ex S S':=by
 obtain⟨S',e,x⟩:=FJ (S:=S) (st:=st) g hm hw hl
 refine⟨S',?_,x⟩
 have:decide (srt (pre T w)=aB m)=false:=by
  cases q:decide (srt (pre T w)=aB m) with
  | false=>rfl
  | true=>have:=(pf.mp q).len;rw [uq] at this;exact absurd this h
 rw [e,this,jI,jI,jI]
noncomputable def rcM:MS:=bV (m2 oEq (mFn bF (aa (mFn (G.run 2 2 spM) (aa (ab 0) (aa (ab 1) af))) af)) (mFn bF (aa (ab 0) af)))
theorem K5 (g:Grp m T) (hm:m < 64) (ht:Lt m st) (h : ∀ x,x < m->Rch T st x) : ∃ S',G.run 2 2 rcM [tab m T,.tup (ao st)] S=some (.bl true,S')/\Ex S S':=by
 obtain⟨ks,S1,e1,x1,d⟩:=Lk (S:=S) g hm ht
 have hk:(srt ks).length=m:=by
  rw [nU]
  have h1:=d.len
  have h2:=(Er d.nd lx fun x=>⟨fun hx=>br.mpr (d.lt x hx),fun hx=>d.all.mpr (h x (br.mp hx))⟩).length_eq
  simpa using h2
 refine⟨S1,cy (ρ := [some (tab m T),some (.tup (ao st))]) rfl (cx ?_),x1⟩
 have:=DG (ρ := [some (tab m T),some (.tup (ao st))]) (S:=S) (x:=(srt ks).length) (y:=m) (a:=mFn bF (aa (mFn (G.run 2 2 spM) (aa (ab 0) (aa (ab 1) af))) af)) (b:=mFn bF (aa (ab 0) af)) (by rw [ve (b0 (var_eq rfl) (var_eq rfl) e1),cu]) (len_tab (var_eq rfl))
 rw [decide_eq_true hk] at this
 exact this
noncomputable def usM:MS:=bV (mFn bD (aa (mFn dG (aa (bZ (da (ab 1)) cTT (mFn (G.run 2 2 unM) (aa (ab 0) (aa (ab 2) af)))) af)) af))
theorem Bk (g:Grp m T) (hs:Lt m st) (hl:st.length < 64) : ∃ S',G.run 2 2 usM [tab m T,.tup (ao st)] S=some (.tup (ao (srt (st.map (unT m T)))),S')/\Ex S S':=by
 have h:=nG (e:=mFn (G.run 2 2 unM) (aa (ab 0) (aa (ab 2) af))) (ρ := [some (tab m T),some (.tup (ao st))]) (S:=S) (a:=ab 1) (l:=st) (f:=fun x => .int (unT m T x:Nat)) (var_eq rfl) (by exact ae (by assumption) (by decide)) (fun x hx=>b0 (var_eq rfl) (var_eq rfl) (qy g (hs x hx)))
 rw [show (st.map fun x=>U.int (unT m T x:Nat))=ao (st.map (unT m T)) by simp [ao]] at h
 exact⟨_,cy (ρ := [some (tab m T),some (.tup (ao st))]) rfl (cx (dQ (qr h (d5 _ _) (by rw [av];exact hl)))),(Ex.push _ _).trans (Ex.push _ _)⟩
noncomputable def bkM:MS:=bV (mFn bD (aa (bZ (vb (aa (ab 1) af)) cTT (mFn (G.run 2 2 unM) (aa (ab 0) (aa (ab 2) af)))) af))
theorem BM (g:Grp m T) (hw:Lt m w) (hl:w.length < 10000000) : ∃ S',G.run 2 2 bkM [tab m T,.tup (ao w)] S=some (.tup (ao (bk m T w)),S')/\Ex S S':=by
 have hi:vb (aa (ab 1) af) [some (tab m T),some (.tup (ao w))] S=some (.imm (ao w.reverse),S):=by
  have v:ab 1 [some (tab m T),some (.tup (ao w))] S=some (.tup (ao w),S):=rfl
  simp only [vb,aa,af,v,aG]
  simp [ao]
 have h1 : ∀ u∈ao w.reverse,mFn (G.run 2 2 unM) (aa (ab 0) (aa (ab 2) af)) ([some (tab m T),some (.tup (ao w))] ++ [some u]) S=some ((fun u=>match u with | .int i => .int (unT m T i.toNat:Nat) | _ => .non) u,S):=fun u hu=>by
  obtain⟨x,hx,rfl⟩:=bb.mp hu
  have hx:=hw x (eI.mp hx)
  have:=b0 (f:=G.run 2 2 unM) (ρ := [some (tab m T),some (.tup (ao w)),some (.int x)]) (S:=S) (a:=ab 0) (b:=ab 2) (var_eq rfl) (var_eq rfl) (qy g hx)
  simpa using this
 have h2:=jM (t:=cTT) (e:=mFn (G.run 2 2 unM) (aa (ab 0) (aa (ab 2) af))) (ρ := [some (tab m T),some (.tup (ao w))]) (S:=S) (p:=fun _=>true) (f:=fun u=>match u with | .int i => .int (unT m T i.toNat:Nat) | _ => .non) (ao w.reverse) [] (fun _ _=>rfl) (fun u hu _=>h1 u hu)
 rw [List.filter_eq_self.mpr (fun _ _=>rfl),dF] at h2
 have h3:(ao w.reverse).map (fun u=>match u with | .int i=>U.int (unT m T i.toNat:Nat) | _ => .non)=ao (bk m T w):=by
  unfold ao bk
  rw [bL,bL]
  apply aT
  intro x _
  simp
 rw [h3] at h2
 exact⟨_,cy (ρ := [some (tab m T),some (.tup (ao w))]) rfl (cx (dQ (nv hi h2 (by rw [cu,mG];unfold big;exact ae (by assumption) (by decide))))),Ex.push _ _⟩
noncomputable def baM:MS:=bV (m2 bW (mSl (ab 0) (some (ab 1)) none) (mSl (ab 0) none (some (ab 1))))
theorem Cc {α:Type}{xs:List α}{k:Nat} (h:k<=xs.length):cut xs (some (k:Int)) none=xs.drop k:=by
 have h1:HT.sIx xs.length 0 (some (k:Int))=min k xs.length:=HT.sIx_nat _ _ k
 have h2:HT.sIx xs.length xs.length none=xs.length:=rfl
 unfold cut
 rw [h1,h2,Nat.min_eq_left h,dJ (by rw [fY];exact ak _)]
theorem JU {k:Nat} (hk:k<=w.length) (hl:w.length < 500):G.run 2 2 baM [.tup (ao w),.int (k:Nat)] S=some (.tup (ao (w.drop k++w.take k)),S):=by
 refine cy (ρ := [some (.tup (ao w)),some (.int (k:Nat))]) rfl (cx ?_)
 have v0:ab 0 [some (.tup (ao w)),some (.int (k:Nat))] S=some (.tup (ao w),S):=rfl
 have v1:ab 1 [some (.tup (ao w)),some (.int (k:Nat))] S=some (.int (k:Nat),S):=rfl
 have e1:mSl (ab 0) (some (ab 1)) none [some (.tup (ao w)),some (.int (k:Nat))] S=some (.tup (ao (w.drop k)),S):=by
  simp only [mSl,v0,aG,pP,v1,Cc (xs:=ao w) (k:=k) (by rw [cu];exact hk)]
  simp [ao,List.map_drop]
 have e2:mSl (ab 0) none (some (ab 1)) [some (.tup (ao w)),some (.int (k:Nat))] S=some (.tup (ao (w.take k)),S):=by
  simp only [mSl,v0,aG,pP,v1,Bn]
  simp [ao,y3]
 exact tj e1 e2 (by rw [fY,dM];omega)
end
noncomputable def tabS (S:Sto) (n:Nat) (T:Nat->Nat->Nat) (k:Nat):Sto:=S ++ [Cell.lst ((aB k).map (ji n T))]++(aB k).map fun i=>Cell.lst ((aB n).map fun j=>U.int (T i j))
theorem y6 {S:Sto}{n k:Nat}{T:Nat->Nat->Nat}:((tabS S n T k) ++ [Cell.lst ((aB n).map fun j=>U.int (T k j))]).set S.length (Cell.lst ((aB k).map (ji n T) ++ [ji n T k]))=tabS S n T (k+1):=by
 unfold tabS
 rw [aM,aM,dU _ _ (ak _),se]
 simp [fk]
noncomputable def tbM (g:wD) (φ:MF):MS:=aZ (bA 2 (cM af)) (aZ (eo 3 (iR1 (aa (ab 0) af)) (df (mML cj (ab 2) (aa (mFn bD (aa (bZ (iR1 (aa (ab 0) af)) cTT (xw 1 g φ (aa (ab 3) (aa (ab 4) af)))) af)) af)))) (bV (mFn bD (aa (ab 2) af))))
theorem Bx {n:Nat}{T:Nat->Nat->Nat}{S:Sto}{φ:MF} (hn:n < big) (hφ : ∀ i j (S:Sto),i < n->j < n->φ [.int (i:Nat),.int (j:Nat)] S=some (.int (T i j:Nat),S)) (g:wD) :
  G.run 2 4 (tbM g φ) [.int (n:Nat),.obj g] S=some (tab n T,tabS S n T n):=by
 have cell : ∀ k,(tabS S n T k)[S.length]? = some (Cell.lst ((aB k).map (ji n T))):=fun k=>by
  unfold tabS
  rw [aM,ar (ak _)];simp
 obtain⟨ρ1,S1,e1,⟨x,rfl⟩,rfl⟩:=kT (i:=3) (a:=ab 0) (n:=n) (b:=df (mML cj (ab 2) (aa (mFn bD (aa (bZ (iR1 (aa (ab 0) af)) cTT (xw 1 g φ (aa (ab 3) (aa (ab 4) af)))) af)) af)))
  (ρ := [some (.int n),some (.obj g),some (.ref S.length),none]) (S:=tabS S n T 0) (var_eq rfl) hn
  (fun k ρ S'=>(∃ x,ρ = [some (.int n),some (.obj g),some (.ref S.length),x])/\S'=tabS S n T k) ⟨⟨none,rfl⟩,rfl⟩ (by
   rintro k ρ S' hk ⟨⟨x,rfl⟩,rfl⟩
   obtain⟨S2,e2,h2⟩:=AX (ρ := [some (.int n),some (.obj g),some (.ref S.length),some (.int k)]) (S:=tabS S n T k) (S0:=tabS S n T k) (a:=ab 0) (e:=xw 1 g φ (aa (ab 3) (aa (ab 4) af))) (n:=n) (var_eq rfl) hn (fun j => .int (T k j)) (fun _ S''=>S''=tabS S n T k) rfl (by
    rintro j S'' hj rfl
    refine⟨_,?_,rfl⟩
    show (if g=g then mFn φ (aa (ab 3) (aa (ab 4) af)) _ _ else none)=_
    rw [if_pos rfl]
    exact b0 (var_eq rfl) (var_eq rfl) (hφ k j _ hk hj))
   subst h2
   have hl:((aB k).map (ji n T)).length < big:=by rw [av,bu];exact dk (by assumption) (by assumption)
   have e3:=append_eq (ρ := [some (.int n),some (.obj g),some (.ref S.length),some (.int k)]) (o:=ab 2) (r:=S.length) (row:=(aB k).map (ji n T)) (var_eq rfl) e2 (cell k) ((Ex.push _ _).some (cell k)) hl
   rw [show wU n (fun j=>U.int (T k j))=ji n T k from rfl,y6] at e3
   exact⟨_,_,e3,⟨_,rfl⟩,rfl⟩)
 have e0:cM af [some (.int n),some (.obj g),none,none] S=some (.ref S.length,tabS S n T 0):=i5.trans (by simp [tabS])
 have e2:mFn bD (aa (ab 2) af) [some (.int n),some (.obj g),some (.ref S.length),x] (tabS S n T n)=some (tab n T,tabS S n T n):=jC (var_eq rfl) (cell n)
 exact cy (ρ := [some (.int n),some (.obj g),some (.ref S.length),x]) rfl (show tbM g φ [some (.int n),some (.obj g),none,none] S=_ from (aY (bO e0)).trans ((aY e1).trans (cx e2)))
theorem Dq {S:Sto}{n k:Nat}{T:Nat->Nat->Nat}:Ex S (tabS S n T k):=⟨_,by unfold tabS;rw [aM]⟩
noncomputable def nmM:MS:=bV (mn (fun g φ=>G.run 2 4 (tbM g φ)) 2 [0,1] (mMT dA (ab 3) (aa (m2 oIx (m2 oIx (ab 2) (m2 oIx (ab 3) (ab 0))) (m2 oIx (ab 3) (ab 1))) af)) (mFn bF (aa (ab 0) af)))
theorem Jd {m:Nat}{T:Nat->Nat->Nat}{l:List Nat}{S:Sto} (hm:m < big) (g : ∀ i j,i < m->j < m->T i j < m) (ho:lF m l) : ∃ S',G.run 2 2 nmM [tab m T,.tup (ao l)] S=some (tab m (ek T (oF l) (pF l)),S')/\Ex S S':=by
 have hlen:=ho.len
 refine⟨tabS S m (ek T (oF l) (pF l)) m,cy (ρ := [some (tab m T),some (.tup (ao l))]) rfl (show nmM [some (tab m T),some (.tup (ao l))] S=_ from cx ?_),Dq⟩
 refine AD (cs := [tab m T,.tup (ao l)]) (len_tab (var_eq rfl)) rfl fun f=>Bx hm (fun i j S' hi hj => ?_) f
 have gi:atI (ao l) (i:Int)=some (.int (oF l i)):=ud (by unfold ao;rw [bT,ho.get hi];rfl)
 have gj:atI (ao l) (j:Int)=some (.int (oF l j)):=ud (by unfold ao;rw [bT,ho.get hj];rfl)
 show mMT dA (ab 3) (aa (m2 oIx (m2 oIx (ab 2) (m2 oIx (ab 3) (ab 0))) (m2 oIx (ab 3) (ab 1))) af) [some (.int (i:Nat)),some (.int (j:Nat)),some (tab m T),some (.tup (ao l))] S'=_
 exact nH (var_eq rfl) (kA (ho.ord.ol j hj) (jK (ho.ord.ol i hi) (var_eq rfl) (wZ (var_eq rfl) (var_eq rfl) gi)) (wZ (var_eq rfl) (var_eq rfl) gj)) (ho.mem.mpr (g _ _ (ho.ord.ol i hi) (ho.ord.ol j hj)))
end
end W
end
section
namespace W
open L2 G
section
section
variable {m:Nat}{T:Nat->Nat->Nat}
structure Sn (m:Nat) (T:Nat->Nat->Nat) (p:List Nat):Prop where
 lt:Lt m p
 nd:(plc T p).Nodup
 cl : ∀ x∈plc T p,∀ y∈plc T p,T x y∈plc T p
end
section
variable {m:Nat}{T:Nat->Nat->Nat}{S:Sto}
abbrev Pln (m:Nat) (T:Nat->Nat->Nat):Prop := ∀ i j,i < m->j < m->T i j=T j i
end
end
end W
end
section
namespace W
open L2 G
section
section
variable {m:Nat}{T:Nat->Nat->Nat}{S:Sto}
structure Pg (n most:Nat) (S0:Sto) (ρ:Rho) (S:Sto):Prop where
 h : ∃ m T,ρ = [some (.ref n),some (.int (most:Nat)),some (tab m T)]/\Grp m T/\Pln m T/\m<=most
 st:Stp n S0 S
end
end
end W
end
namespace W
open PySem PySem.Spec L2 G
section
noncomputable def oN:MS:=aZ (bA 3 (gU (iR2 (aa (mC (.int 1)) (aa (mFn bF (aa (ab 1) af)) af))))) (aZ (bA 4 (cM af)) (aZ (eo 5 (iR1 (aa (mFn oY (aa (mFn bF (aa (ab 3) af)) (aa (m2 bW (mC (.int 1)) (mFn aL (aa (ab 0) (aa (ab 2) af)))) af))) af)) (df (mML cj (ab 4) (aa (mML jj (ab 3) (aa (mFn aL (aa (ab 0) (aa (mFn bF (aa (ab 3) af)) af))) af)) af)))) (bV (mFn bD (aa (mFn dG (aa (ab 4) af)) af)))))
noncomputable def i3:MF:=run 3 6 oN
noncomputable def pN:MS:=aZ (bA 3 (cM af)) (aZ (bA 4 (cM (aa (cK (aa (cK af) (aa (cK (aa (mC (.int 0)) af)) af))) af))) (aZ (iA (qQ (cOf (m2 oNe (ab 4) (cM af))) (cOf (m2 oLt (mFn bF (aa (ab 3) af)) (ab 2)))) (aZ (vq (mML lG (ab 4) af) (gTp 2 (gp (gN 5) (gp (gN 6) qR)))) (sIf (cOf (m2 oEq (mFn bF (aa (ab 5) af)) (m2 mm (mFn bF (aa (ab 0) af)) (mC (.int 1))))) (df (mML cj (ab 3) (aa (ab 5) af))) (aZ (bA 7 (bZ (da (ab 1)) (cOf (m2 fS (m2 oIx (m2 oIx (ab 0) (m2 oIx (ab 6) (m1 eW (mC (.int 1))))) (ab 8)) (ab 6))) (cK (aa (ab 8) (aa (m2 oIx (m2 oIx (ab 0) (m2 oIx (ab 6) (m1 eW (mC (.int 1))))) (ab 8)) af))))) (df (mML et (ab 4) (aa (iP 2 (da (m1 mB (ab 7))) cTT (cK (aa (m2 bW (ab 5) (cK (aa (ab 8) af))) (aa (m2 bW (ab 6) (cK (aa (ab 9) af))) af)))) af))))))) (bV (ab 3))))
noncomputable def iQ:MF:=run 3 8 pN
noncomputable def m6:MS:=aZ (bA 3 (cM af)) (aZ (bA 4 (cM (aa (cK (aa (cK af) (aa (cK (aa (mC (.int 0)) af)) af))) af))) (aZ (iA (qQ (cOf (m2 oNe (ab 4) (cM af))) (cOf (m2 oLt (mFn bF (aa (ab 3) af)) (ab 2)))) (aZ (vq (mML lG (ab 4) af) (gTp 2 (gp (gN 5) (gp (gN 6) qR)))) (aZ (bA 7 (m2 oIx (ab 6) (m1 eW (mC (.int 1))))) (sIf (cOf (m2 oEq (mFn bF (aa (ab 5) af)) (m2 mm (mFn bF (aa (ab 0) af)) (mC (.int 1))))) (df (mML et (ab 3) (aa (bZ (da (ab 1)) (cOf (m2 oEq (m2 oIx (m2 oIx (ab 0) (ab 7)) (ab 9)) (mC (.int 0)))) (m2 bW (ab 5) (cK (aa (ab 9) af)))) af))) (aZ (bA 8 (bZ (da (ab 1)) (cOf (m2 fS (m2 oIx (m2 oIx (ab 0) (ab 7)) (ab 9)) (ab 6))) (cK (aa (ab 9) (aa (m2 oIx (m2 oIx (ab 0) (ab 7)) (ab 9)) af))))) (df (mML et (ab 4) (aa (iP 2 (da (m1 mB (ab 8))) cTT (cK (aa (m2 bW (ab 5) (cK (aa (ab 9) af))) (aa (m2 bW (ab 6) (cK (aa (ab 10) af))) af)))) af)))))))) (bV (mSl (ab 3) none (some (ab 2))))))
noncomputable def gG:MF:=run 3 9 m6
noncomputable def uP:MS:=bV (mMT dA (m2 oIx (ab 0) (ab 1)) (aa (mC (.int 0)) af))
noncomputable def qS:MF:=run 2 2 uP
noncomputable def kG:MS:=bV (mFn bD (aa (mFn dG (aa (bZ (da (ab 1)) cTT (mFn qS (aa (ab 0) (aa (ab 2) af)))) af)) af))
noncomputable def bP:MF:=run 2 2 kG
noncomputable def i1:MS:=bV (h8 (m1 (mI "int") (ab 0)) (h8 (m1 xG (m1 (mI "bool") (ab 0))) (mCh oLe oLt (mC (.int 0)) (ab 0) (ab 1))))
noncomputable def je:MF:=run 2 2 i1
noncomputable def iC:MS:=bV (h8 (m1 (mI "tuple") (ab 0)) (mFn rL (aa (bZ (da (ab 0)) cTT (mFn je (aa (ab 2) (aa (ab 1) af)))) af)))
noncomputable def fA:MF:=run 2 2 iC
noncomputable def nS:MS:=bV (h8 (mFn fA (aa (ab 2) (aa (mFn bF (aa (ab 0) af)) af))) (mFn rL (aa (bZ (da (ab 2)) cTT (m2 oIn (ab 3) (ab 1))) af)))
noncomputable def jL:MF:=run 3 3 nS
noncomputable def nI:MS:=bV (lP (iR1 (aa (mFn bF (aa (ab 0) af)) af)))
noncomputable def ni:MF:=run 1 1 nI
noncomputable def jr:MS:=bV (m2 oEq (mFn bD (aa (mFn dG (aa (ab 1) af)) af)) (mFn ni (aa (ab 0) af)))
noncomputable def gX:MF:=run 2 2 jr
noncomputable def vD:MS:=aZ (bA 2 (cM (aa (mC (.int 0)) af))) (aZ (eo 3 (da (ab 1)) (df (mML cj (ab 2) (aa (m2 oIx (m2 oIx (ab 0) (m2 oIx (ab 2) (m1 eW (mC (.int 1))))) (ab 3)) af)))) (bV (mFn bD (aa (ab 2) af))))
noncomputable def hZ:MF:=run 2 4 vD
noncomputable def kK:MS:=bV (h8 (mFn fA (aa (ab 1) (aa (mFn bF (aa (ab 0) af)) af))) (mFn gX (aa (ab 0) (aa (mFn hZ (aa (ab 0) (aa (ab 1) af))) af))))
noncomputable def kf:MF:=run 2 2 kK
noncomputable def vF:MS:=bV (h8 (mFn jL (aa (ab 0) (aa (ab 1) (aa (ab 2) af)))) (mFn kf (aa (ab 0) (aa (ab 2) af))))
noncomputable def eZ:MF:=run 3 3 vF
noncomputable def yU:MS:=aZ (bA 2 (qF (mC (.int 0)) (cK af))) (aZ (bA 3 (cM (aa (mC (.int 0)) af))) (aZ (iA (cOf (m2 oGt (mFn bF (aa (ab 3) af)) (mC (.int 0)))) (aZ (bA 4 (mML lG (ab 3) af)) (eo 5 (da (ab 1)) (aZ (bA 6 (m2 oIx (m2 oIx (ab 0) (ab 4)) (ab 5))) (sIf (cOf (m2 fS (ab 6) (ab 2))) (aZ (iX (ab 2) (ab 6) (m2 bW (m2 oIx (ab 2) (ab 4)) (cK (aa (ab 5) af)))) (df (mML cj (ab 3) (aa (ab 6) af)))) dh))))) (bV (ab 2))))
noncomputable def yM:MF:=run 2 7 yU
noncomputable def BK:MS:=bV (mFn bD (aa (mFn dG (aa (mFn yM (aa (ab 0) (aa (ab 1) af))) af)) af))
noncomputable def A1:MF:=run 2 2 BK
noncomputable def sx:MS:=bV (m2 oEq (mFn bF (aa (mFn A1 (aa (ab 0) (aa (ab 1) af))) af)) (mFn bF (aa (ab 0) af)))
noncomputable def jz:MF:=run 2 2 sx
noncomputable def ql (g:wD) (φ:MF):MS:=aZ (bA 2 (cM af)) (aZ (eo 3 (iR1 (aa (ab 0) af)) (df (mML cj (ab 2) (aa (mFn bD (aa (bZ (iR1 (aa (ab 0) af)) cTT (xw 1 g φ (aa (ab 3) (aa (ab 4) af)))) af)) af)))) (bV (mFn bD (aa (ab 2) af))))
noncomputable def qL (g:wD) (φ:MF):MF:=run 2 4 (ql g φ)
noncomputable def xT:MS:=bV (mn qL 2 [0,1] (mMT dA (ab 3) (aa (m2 oIx (m2 oIx (ab 2) (m2 oIx (ab 3) (ab 0))) (m2 oIx (ab 3) (ab 1))) af)) (mFn bF (aa (ab 0) af)))
noncomputable def pq:MF:=run 2 2 xT
noncomputable def CF:MS:=bV (mFn bD (aa (bZ (vb (aa (ab 1) af)) cTT (mFn qS (aa (ab 0) (aa (ab 2) af)))) af))
noncomputable def d4:MF:=run 2 2 CF
noncomputable def iy:MS:=aZ (bA 4 (mFn bP (aa (ab 0) (aa (ab 1) af)))) (aZ (sIf (cOr (cOf (m2 ix (mFn eZ (aa (ab 0) (aa (ab 1) (aa (ab 2) af)))) (mC (.bl true)))) (cOf (m2 ix (mFn eZ (aa (ab 0) (aa (ab 4) (aa (mFn d4 (aa (ab 0) (aa (ab 2) af))) af)))) (mC (.bl true))))) (bV (mC (.bl false))) dh) (aZ (sIf (cOr (cOf (m2 ix (mFn jz (aa (ab 0) (aa (ab 1) af))) (mC (.bl true)))) (cOf (m2 ix (mFn jz (aa (ab 0) (aa (ab 4) af))) (mC (.bl true))))) (bV (mC (.bl false))) dh) (aZ (bA 5 (mFn bD (aa (bZ (da (ab 2)) cTT (mMT dA (ab 3) (aa (ab 7) af))) af))) (aZ (bA 6 (mFn bD (aa (mFn dG (aa (bZ (da (ab 1)) cTT (mMT dA (ab 3) (aa (ab 7) af))) af)) af))) (bV (m2 oIs (mFn eZ (aa (mFn pq (aa (ab 0) (aa (ab 3) af))) (aa (ab 6) (aa (ab 5) af)))) (mC (.bl true))))))))
noncomputable def eA:MF:=run 4 7 iy
noncomputable def lW:MS:=aZ (bA 2 (mFn hZ (aa (ab 0) (aa (ab 1) af)))) (bV (h8 (m2 oEq (m2 oIx (ab 2) (m1 eW (mC (.int 1)))) (mC (.int 0))) (mFn gX (aa (ab 0) (aa (mSl (ab 2) none (some (m1 eW (mC (.int 1))))) af)))))
noncomputable def lR:MF:=run 2 3 lW
noncomputable def qi:MS:=bV (h8 (mFn jL (aa (ab 0) (aa (ab 1) (aa (ab 2) af)))) (h8 (m2 oGe (mFn bF (aa (ab 2) af)) (mC (.int 2))) (mFn lR (aa (ab 0) (aa (ab 2) af)))))
noncomputable def ei:MF:=run 3 3 qi
noncomputable def qO:MS:=bV (m2 bW (mSl (ab 0) (some (ab 1)) none) (mSl (ab 0) none (some (ab 1))))
noncomputable def jR:MF:=run 2 2 qO
noncomputable def gE:MS:=aZ (bA 4 (mFn bP (aa (ab 0) (aa (ab 1) af)))) (aZ (sIf (cOr (cOf (m2 ix (mFn ei (aa (ab 0) (aa (ab 1) (aa (ab 2) af)))) (mC (.bl true)))) (cOf (m2 ix (mFn eZ (aa (ab 0) (aa (ab 1) (aa (mSl (ab 2) none (some (m1 eW (mC (.int 1))))) af)))) (mC (.bl true))))) (bV (mC (.bl false))) dh) (aZ (sIf (cOr (cOf (m2 ix (mFn ei (aa (ab 0) (aa (ab 1) (aa (mFn jR (aa (ab 2) (aa (ab 3) af))) af)))) (mC (.bl true)))) (cOf (m2 ix (mFn ei (aa (ab 0) (aa (ab 4) (aa (mFn d4 (aa (ab 0) (aa (ab 2) af))) af)))) (mC (.bl true))))) (bV (mC (.bl false))) dh) (bV (h8 (m2 oIs (mFn ei (aa (ab 0) (aa (ab 1) (aa (mSl (ab 2) none (some (m1 eW (mC (.int 1))))) af)))) (mC (.bl false))) (m2 oIs (mFn eZ (aa (ab 0) (aa (ab 1) (aa (ab 2) af)))) (mC (.bl false)))))))
noncomputable def dP:MF:=run 4 5 gE
noncomputable def FG:MS:=aZ (eo 1 (iR1 (aa (mFn vd (aa (mC (.int 1)) (aa (mFn oY (aa (mFn bF (aa (ab 0) af)) (aa (mC (.int 4)) af))) af))) af)) (aZ (bA 2 (mFn i2 (aa (ab 0) (aa (ab 1) af)))) (aZ (bA 3 (mFn fW (aa (ab 2) (aa (mC (.int 8)) af)))) (aZ (sIf (cOf (m2 oEq (mFn bF (aa (ab 3) af)) (mC (.int 1)))) (bA 3 (mFn b9 (aa (m2 bW (mC (.int 2)) (mFn aL (aa (ab 2) (aa (mC (.int 7)) af)))) af))) dh) (aZ (bA 4 (mFn i3 (aa (ab 2) (aa (ab 3) (aa (mC (.int 4)) af))))) (aZ (bA 5 (mFn eY (aa (ab 2) (aa (mFn bF (aa (ab 3) af)) af)))) (aZ (eo 6 (da (mFn iQ (aa (ab 3) (aa (ab 4) (aa (mC (.int 2)) af))))) (sIf (tW (cOf (mFn eA (aa (ab 3) (aa (ab 4) (aa (ab 6) (aa (ab 5) af))))))) (bV (mC (.bl false))) dh)) (aZ (eo 7 (da (mFn gG (aa (ab 3) (aa (ab 4) (aa (mC (.int 2)) af))))) (sIf (tW (cOf (mFn dP (aa (ab 3) (aa (ab 4) (aa (ab 7) (aa (mFn aL (aa (ab 2) (aa (mFn bF (aa (ab 7) af)) af))) af))))))) (bV (mC (.bl false))) dh)) (aZ (bA 7 (mFn bD (aa (bZ (iR1 (aa (mFn aL (aa (ab 2) (aa (mC (.int 9)) af))) af)) cTT (mFn aL (aa (ab 2) (aa (mFn bF (aa (ab 3) af)) af)))) af))) (aZ (sIf (cOr (cOf (m2 oNe (m2 oIx (mFn hZ (aa (ab 3) (aa (m2 bW (ab 7) (mFn d4 (aa (ab 3) (aa (ab 7) af)))) af))) (m1 eW (mC (.int 1)))) (mC (.int 0)))) (cOf (m2 oNe (mFn d4 (aa (ab 3) (aa (mFn d4 (aa (ab 3) (aa (ab 7) af))) af))) (ab 7)))) (bV (mC (.bl false))) dh) (sIf (cOf (m2 oNe (mFn bP (aa (ab 3) (aa (mFn bP (aa (ab 3) (aa (ab 4) af))) af))) (ab 4))) (bV (mC (.bl false))) dh))))))))))) (bV (mC (.bl true)))
noncomputable def IW:MF:=run 1 8 FG
end
section
open L2 G
theorem jb {ρ:Rho}{S S1:Sto}{a:ME} (h:a ρ S=some (.bl true,S1)):cOf (m2 ix a (mC (.bl true))) ρ S=some (false,S1):=of_eq (op2 h rfl rfl)
theorem Lz {ρ:Rho}{S S1:Sto}{a:ME} (h:a ρ S=some (.bl true,S1)):m2 oIs a (mC (.bl true)) ρ S=some (.bl true,S1):=op2 h rfl rfl
theorem Kf {ρ:Rho}{S S1:Sto}{a:ME} (h:a ρ S=some (.bl false,S1)):m2 oIs a (mC (.bl false)) ρ S=some (.bl true,S1):=op2 h rfl rfl
section
variable {m:Nat}{T:Nat->Nat->Nat}{st w l:List Nat}{S:Sto}
theorem Bb (g:Grp m T) (h : ∀ x∈w,x∈st) : ∀ x∈bk m T w,x∈srt (st.map (unT m T)):=fun x hx=>by
 obtain⟨y,hy,rfl⟩:=bb.mp hx
 exact nj.mpr (bb.mpr ⟨y,h y (eI.mp hy),rfl⟩)
theorem FK (g:Grp m T) (hs:Lt m st):Lt m (srt (st.map (unT m T))):=fun x hx=>by
 obtain⟨y,hy,rfl⟩:=bb.mp (nj.mp hx)
 exact oP g (hs y hy)
theorem yp {ρ:Rho}{i j:Nat}{v:List Nat} (hi:ρ[i]? = some (some (.tup (ao v)))) (hj:ρ[j]? = some (some (.tup (ao l)))) (hn:ρ.length=7) (ho:lF m l) (hv:Lt m v) (hl:v.length < 1000):bZ (da (ab i)) cTT (mMT dA (ab j) (aa (ab 7) af)) ρ S=some (.ref S.length,S ++ [.lst (ao (v.map (pF l)))]):=by
 have h:=nG (e:=mMT dA (ab j) (aa (ab 7) af)) (ρ:=ρ) (S:=S) (a:=ab i) (l:=v) (f:=fun x => .int (pF l x:Nat)) (var_eq hi) (by exact ae (by assumption) (by decide)) (fun x hx=>by
  refine nH (var_eq ?_) (var_eq ?_) (ho.mem.mpr (hv x hx))
  ·have:=(ah.mp hj).1
   rw [aI this];exact hj
  ·rw [ar (by exact mQ (by assumption)),hn];rfl)
 rw [show (v.map fun x=>U.int (pF l x:Nat))=ao (v.map (pF l)) by simp [ao]] at h
 exact h
theorem E5 (g:Grp m T) (hm:m < 60) (hs:Lt m st) (hsl:st.length < 60) (hw:Way m T w) (hws : ∀ x∈w,x∈st) (hwl:w.length < 60) (ho:lF m l) : ∃ S',eA [tab m T,.tup (ao st),.tup (ao w),.tup (ao l)] S=some (.bl true,S')/\Ex S S':=by
 have lw:Lt m w:=fun x hx=>hs x (hws x hx)
 have lb:=Cm g lw
 obtain⟨S1,e1,x1⟩:=Bk (S:=S) g hs (by exact ae (by assumption) (by decide))
 generalize hus:srt (st.map (unT m T))=us at e1
 have lus:Lt m us:=hus▸FK g hs
 have bus : ∀ x∈bk m T w,x∈us:=hus▸Bb g hws
 obtain⟨S2,e2,x2⟩:=DS (S:=S1) g (by exact ae (by assumption) (by decide)) lw (by exact ae (by assumption) (by decide)) hws hw
 obtain⟨S3,e3,x3⟩:=BM (S:=S2) g lw (by exact ae (by assumption) (by decide))
 obtain⟨S4,e4,x4⟩:=DS (S:=S3) (st:=us) g (by exact ae (by assumption) (by decide)) lb (by rw [mG];exact ae (by assumption) (by decide)) bus (Way.bk g lw hw)
 obtain⟨S5,e5,x5⟩:=K5 (S:=S4) g (by exact ae (by assumption) (by decide)) hs (fun x hx=>Way.rch hw hws hx)
 obtain⟨S6,e6,x6⟩:=K5 (S:=S5) (st:=us) g (by exact ae (by assumption) (by decide)) lus (fun x hx=>Way.rch (Way.bk g lw hw) bus hx)
 have c1:=W.or_false (ρ := [some (tab m T),some (.tup (ao st)),some (.tup (ao w)),some (.tup (ao l)),some (.tup (ao us)),none,none]) (jb (i7 (f:=eZ) (a:=ab 0) (b:=ab 1) (c:=ab 2) (var_eq rfl) (var_eq rfl) (var_eq rfl) e2))
  (jb (i7 (f:=eZ) (a:=ab 0) (b:=ab 4) (c:=mFn d4 (aa (ab 0) (aa (ab 2) af))) (var_eq rfl) (var_eq rfl) (b0 (f:=d4) (var_eq rfl) (var_eq rfl) e3) e4))
 have c2:=W.or_false (ρ := [some (tab m T),some (.tup (ao st)),some (.tup (ao w)),some (.tup (ao l)),some (.tup (ao us)),none,none]) (jb (b0 (f:=jz) (a:=ab 0) (b:=ab 1) (var_eq rfl) (var_eq rfl) e5)) (jb (b0 (f:=jz) (a:=ab 0) (b:=ab 4) (var_eq rfl) (var_eq rfl) e6))
 have n1:=yp (S:=S6) (ρ := [some (tab m T),some (.tup (ao st)),some (.tup (ao w)),some (.tup (ao l)),some (.tup (ao us)),none,none]) (i:=2) (j:=3) (v:=w) rfl rfl rfl ho lw (by exact ae (by assumption) (by decide))
 have t1:=dQ n1
 generalize hS7:S6 ++ [Cell.lst (ao (w.map (pF l)))]=S7 at t1
 have n2:=yp (S:=S7) (ρ := [some (tab m T),some (.tup (ao st)),some (.tup (ao w)),some (.tup (ao l)),some (.tup (ao us)),some (.tup (ao (w.map (pF l)))),none]) (i:=1) (j:=3) (v:=st) rfl rfl rfl ho hs (by exact ae (by assumption) (by decide))
 have t2:=dQ (qr n2 (d5 _ _) (by rw [av];exact ae (by assumption) (by decide)))
 generalize hS8:S7 ++ [Cell.lst (ao (st.map (pF l)))] ++ [Cell.lst (ao (srt (st.map (pF l))))]=S8 at t2
 have x8:Ex S6 S8:=by rw [<- hS8,<- hS7];exact ((Ex.push _ _).trans (Ex.push _ _)).trans (Ex.push _ _)
 obtain⟨S9,e9,x9⟩:=Jd (S:=S8) (T:=T) (l:=l) (by unfold big;exact ae (by assumption) (by decide)) g.cl ho
 have gn:=sX g ho.ord
 have ln:Lt m (w.map (pF l)):=fun x hx=>by obtain⟨y,hy,rfl⟩:=bb.mp hx;exact ho.ord.pl y (lw y hy)
 obtain⟨S10,e10,x10⟩:=DS (S:=S9) (st:=srt (st.map (pF l))) gn (by exact ae (by assumption) (by decide)) ln (by rw [av];exact ae (by assumption) (by decide)) (fun x hx=>by
  obtain⟨y,hy,rfl⟩:=bb.mp hx
  exact nj.mpr (bb.mpr ⟨y,hws y hy,rfl⟩)) (Way.named g ho.ord lw hw)
 have r:=Lz (ρ := [some (tab m T),some (.tup (ao st)),some (.tup (ao w)),some (.tup (ao l)),some (.tup (ao us)),some (.tup (ao (w.map (pF l)))),some (.tup (ao (srt (st.map (pF l)))))]) (i7 (f:=eZ) (a:=mFn pq (aa (ab 0) (aa (ab 3) af))) (b:=ab 6) (c:=ab 5) (b0 (f:=pq) (var_eq rfl) (var_eq rfl) e9) (var_eq rfl) (var_eq rfl) e10)
 refine⟨S10,cy (ρ := [some (tab m T),some (.tup (ao st)),some (.tup (ao w)),some (.tup (ao l)),some (.tup (ao us)),some (.tup (ao (w.map (pF l)))),some (.tup (ao (srt (st.map (pF l)))))]) rfl ?_,(((((((x1.trans x2).trans x3).trans x4).trans x5).trans x6).trans x8).trans x9).trans x10⟩
 show iy [some (tab m T),some (.tup (ao st)),some (.tup (ao w)),some (.tup (ao l)),none,none,none] S=_
 exact (aY (bO (b0 (f:=bP) (var_eq rfl) (var_eq rfl) e1))).trans ((aY ((jO c1).trans rfl)).trans ((aY ((jO c2).trans rfl)).trans ((aY (bO t1)).trans ((aY (bO t2)).trans (cx r)))))
theorem zG {k:Nat} (g:Grp m T) (hm:m < 60) (hm2:2<=m) (hs:Lt m st) (hsl:st.length < 60) (hw:Rnd m T w) (hws : ∀ x∈w,x∈st) (hwl:w.length=m) (hk:k < w.length) : ∃ S',dP [tab m T,.tup (ao st),.tup (ao w),.int (k:Nat)] S=some (.bl true,S')/\Ex S S':=by
 have lw:Lt m w:=fun x hx=>hs x (hws x hx)
 have lb:=Cm g lw
 obtain⟨S1,e1,x1⟩:=Bk (S:=S) g hs (by exact ae (by assumption) (by decide))
 generalize hus:srt (st.map (unT m T))=us at e1
 have bus : ∀ x∈bk m T w,x∈us:=hus▸Bb g hws
 obtain⟨v,y,hvy⟩:=kU (l:=w) (by intro z;rw [z] at hk;simp at hk)
 have lv:Lt m v:=fun x hx=>lw x (by rw [hvy];exact aR _ hx)
 have hvl:v.length=m - 1:=by rw [hvy] at hwl;simp at hwl;omega
 have wv:Way m T v:=by rw [hvy] at hw;exact hw.way
 obtain⟨S2,e2,x2⟩:=HH (S:=S1) (st:=st) g (by exact ae (by assumption) (by decide)) lw (by omega) (by omega) hws hw
 obtain⟨S3,e3,x3⟩:=DS (S:=S2) (st:=st) g (by exact ae (by assumption) (by decide)) lv (by omega) (fun x hx=>hws x (by rw [hvy];exact aR _ hx)) wv
 have lbe:Lt m (w.drop k++w.take k):=(lw.dr k).app (lw.tk k)
 have hbe:Rnd m T (w.drop k++w.take k):=Rnd.begun g (lw.tk k) (lw.dr k) (by rw [List.take_append_drop];exact hw)
 obtain⟨S4,e4,x4⟩:=HH (S:=S3) (st:=st) g (by exact ae (by assumption) (by decide)) lbe (by rw [aH,fY,dM];omega) (by rw [aH,fY,dM];omega) (fun x hx=>by
  rcases bh.mp hx with hx | hx
  ·exact hws x (Dd hx)
  ·exact hws x (fQ hx)) hbe
 obtain⟨S5,e5,x5⟩:=BM (S:=S4) g lw (by omega)
 obtain⟨S6,e6,x6⟩:=HH (S:=S5) (st:=us) g (by exact ae (by assumption) (by decide)) lb (by rw [mG];omega) (by rw [mG];omega) bus (Rnd.bk g lw hw)
 obtain⟨S7,e7,x7⟩:=LR (S:=S6) (st:=st) g (by exact ae (by assumption) (by decide)) lv (by omega) (by omega)
 obtain⟨S8,e8,x8⟩:=LC (S:=S7) (st:=st) (T:=T) g (by exact ae (by assumption) (by decide)) lw (by omega) (by omega)
 have sl : ∀ S',mSl (ab 2) none (some (m1 eW (mC (.int 1)))) [some (tab m T),some (.tup (ao st)),some (.tup (ao w)),some (.int (k:Nat)),some (.tup (ao us))] S'=some (.tup (ao v),S'):=fun S'=>xS (x:=y) (by rw [<- hvy];exact var_eq rfl)
 have c1:=W.or_false (ρ := [some (tab m T),some (.tup (ao st)),some (.tup (ao w)),some (.int (k:Nat)),some (.tup (ao us))]) (jb (i7 (f:=ei) (a:=ab 0) (b:=ab 1) (c:=ab 2) (var_eq rfl) (var_eq rfl) (var_eq rfl) e2))
  (jb (i7 (f:=eZ) (a:=ab 0) (b:=ab 1) (var_eq rfl) (var_eq rfl) (sl _) e3))
 have c2:=W.or_false (ρ := [some (tab m T),some (.tup (ao st)),some (.tup (ao w)),some (.int (k:Nat)),some (.tup (ao us))]) (jb (i7 (f:=ei) (a:=ab 0) (b:=ab 1) (c:=mFn jR (aa (ab 2) (aa (ab 3) af))) (var_eq rfl) (var_eq rfl) (b0 (f:=jR) (var_eq rfl) (var_eq rfl) (JU (by exact bG (by assumption)) (by omega))) e4))
  (jb (i7 (f:=ei) (a:=ab 0) (b:=ab 4) (c:=mFn d4 (aa (ab 0) (aa (ab 2) af))) (var_eq rfl) (var_eq rfl) (b0 (f:=d4) (var_eq rfl) (var_eq rfl) e5) e6))
 have r1:=Kf (ρ := [some (tab m T),some (.tup (ao st)),some (.tup (ao w)),some (.int (k:Nat)),some (.tup (ao us))]) (i7 (f:=ei) (a:=ab 0) (b:=ab 1) (var_eq rfl) (var_eq rfl) (sl _) e7)
 have r2:=Kf (ρ := [some (tab m T),some (.tup (ao st)),some (.tup (ao w)),some (.int (k:Nat)),some (.tup (ao us))]) (i7 (f:=eZ) (a:=ab 0) (b:=ab 1) (c:=ab 2) (var_eq rfl) (var_eq rfl) (var_eq rfl) e8)
 refine⟨S8,cy (ρ := [some (tab m T),some (.tup (ao st)),some (.tup (ao w)),some (.int (k:Nat)),some (.tup (ao us))]) rfl ?_,((((((x1.trans x2).trans x3).trans x4).trans x5).trans x6).trans x7).trans x8⟩
 show gE [some (tab m T),some (.tup (ao st)),some (.tup (ao w)),some (.int (k:Nat)),none] S=_
 exact (aY (bO (b0 (f:=bP) (var_eq rfl) (var_eq rfl) e1))).trans ((aY ((jO c1).trans rfl)).trans ((aY ((jO c2).trans rfl)).trans (cx (qj r1 (fun _=>r2) (fun z=>by cases z)))))
end
theorem t8 {m:Nat}{T:Nat->Nat->Nat}{w:List Nat}{S:Sto} (g:Grp m T) (hw:Lt m w) (hl:w.length < 1000) : ∃ S',d4 [tab m T,.tup (ao w)] S=some (.tup (ao (bk m T w)),S')/\Ex S S':=BM g hw (by exact ae (by assumption) (by decide))
theorem DC {m:Nat}{T:Nat->Nat->Nat}{w:List Nat}{S:Sto} (g:Grp m T) (hw:Lt m w) (hl:w.length < 1000) : ∃ S',hZ [tab m T,.tup (ao w)] S=some (.tup (ao (plc T w)),S')/\Ex S S':=Bu g hw (by exact ae (by assumption) (by decide))
theorem ya {m:Nat}{T:Nat->Nat->Nat}{st:List Nat}{S:Sto} (g:Grp m T) (hs:Lt m st) (hl:st.length < 64) : ∃ S',bP [tab m T,.tup (ao st)] S=some (.tup (ao (srt (st.map (unT m T)))),S')/\Ex S S':=Bk g hs hl
theorem Kq {m:Nat}{T:Nat->Nat->Nat}{st:List Nat} (g:Grp m T) (hs:Lt m st) (hst:srt st=st):srt ((srt (st.map (unT m T))).map (unT m T))=st:=by
 have h1:((srt (st.map (unT m T))).map (unT m T)).Perm st:=by
  refine ((jv (st.map (unT m T))).map (unT m T)).trans ?_
  rw [bL]
  have:st.map (unT m T∘unT m T)=st.map id:=aT fun x hx=>Fw g (hs x hx)
  rw [this,uE]
 rw [oe h1,hst]
theorem seq_assoc {a b c:MS}{ρ:Rho}{S:Sto}:aZ (aZ a b) c ρ S=aZ a (aZ b c) ρ S:=by
 unfold aZ
 cases h:a ρ S with
 | none=>rfl
 | some r=>obtain⟨f,ρ1,S1⟩:=r;cases f <;> rfl
noncomputable def Cv:MS:=sIf (tW (cOf (mFn eA (aa (ab 3) (aa (ab 4) (aa (ab 6) (aa (ab 5) af))))))) (bV (mC (.bl false))) dh
noncomputable def uX:MS:=sIf (tW (cOf (mFn dP (aa (ab 3) (aa (ab 4) (aa (ab 7) (aa (mFn aL (aa (ab 2) (aa (mFn bF (aa (ab 7) af)) af))) af))))))) (bV (mC (.bl false))) dh
theorem vM {F:List (List Nat)}{k:Nat}{u:U} (h:(tups F)[k]? = some u) : ∃ w∈F,u = .tup (ao w):=by
 unfold tups at h
 rw [bT] at h
 obtain⟨w,hw,rfl⟩:=yX.mp h
 exact⟨w,dc hw,rfl⟩
theorem Hw {b m:Nat} (h1:b<=4) (h2:m<=8):gv b (m - 1)<=30000:=bg (qM h1 (k:=7) (by omega)) (by decide)
theorem J6 {n:Nat}{a b c d e:Option U}{k:Nat}{S:Sto} (h:lD n S) : ∃ m T S',aZ (bA 3 (mFn fW (aa (ab 2) (aa (mC (.int 8)) af)))) (sIf (cOf (m2 oEq (mFn bF (aa (ab 3) af)) (mC (.int 1)))) (bA 3 (mFn b9 (aa (m2 bW (mC (.int 2)) (mFn aL (aa (ab 2) (aa (mC (.int 7)) af)))) af))) dh) [some (.ref 0),some (.int k),some (.ref n),a,b,c,d,e] S=some (.nx,[some (.ref 0),some (.int k),some (.ref n),some (tab m T),b,c,d,e],S')/\Grp m T/\2<=m/\m<=8/\Stp n S S':=by
 obtain⟨m,T,S1,e1,g,hm,st1⟩:=Av (most:=8) h (by decide) (by decide)
 have f1:=bO (i:=3) (b0 (f:=fW) (ρ := [some (.ref 0),some (.int k),some (.ref n),a,b,c,d,e]) (S:=S) (a:=ab 2) (b:=mC (.int 8)) (var_eq rfl) c_i e1)
 have hp:=g.pos
 have ec:=of_eq (DG (ρ := [some (.ref 0),some (.int k),some (.ref n),some (tab m T),b,c,d,e]) (S:=S1) (a:=mFn bF (aa (ab 3) af)) (b:=mC (.int 1)) (x:=m) (y:=1) (len_tab (var_eq rfl)) c_i)
 by_cases h1:m=1
 ·rw [decide_eq_true h1] at ec
  obtain⟨r,S2,e2,hr,st2⟩:=gS (m:=7) st1.st (by decide) (by decide)
  obtain⟨S3,e3,x3⟩:=kC (n:=2+r) (S:=S2) (by exact bI (by decide) _) (by unfold big;omega)
  have f3:=bO (i:=3) (jd (f:=b9) (ρ := [some (.ref 0),some (.int k),some (.ref n),some (tab m T),b,c,d,e]) (S:=S1) (a:=m2 bW (mC (.int 2)) (mFn aL (aa (ab 2) (aa (mC (.int 7)) af)))) (add_n (x:=2) (y:=r) c_i (b0 (f:=aL) (var_eq rfl) c_i e2)) e3)
  exact⟨2+r,eh (2+r),S3,(aY f1).trans ((qI ec).trans f3),jE (by exact bI (by decide) _),by omega,by omega,(st1.trans st2).step x3⟩
 ·rw [decide_eq_false h1] at ec
  exact⟨m,T,S1,(aY f1).trans ((jO ec).trans rfl),g,by omega,hm,st1⟩
theorem AU (ns:List Int) (hl:ns.length<=63) (S:Sto) (h1:S.length=1) (h2:getL S 0=some (ns.map U.int)) : ∃ S',IW [.ref 0] S=some (.bl true,S'):=by
 obtain⟨q,hq,eq⟩:=Cg (ρ := [some (.ref 0),none,none,none,none,none,none,none]) (c:=4) h2 rfl hl
 obtain⟨ρ1,S1,e1,_,_⟩:=kT (i:=1) (a:=mFn vd (aa (mC (.int 1)) (aa (mFn oY (aa (mFn bF (aa (ab 0) af)) (aa (mC (.int 4)) af))) af))) (n:=q)
  (b:=aZ (bA 2 (mFn i2 (aa (ab 0) (aa (ab 1) af)))) (aZ (bA 3 (mFn fW (aa (ab 2) (aa (mC (.int 8)) af)))) (aZ (sIf (cOf (m2 oEq (mFn bF (aa (ab 3) af)) (mC (.int 1)))) (bA 3 (mFn b9 (aa (m2 bW (mC (.int 2)) (mFn aL (aa (ab 2) (aa (mC (.int 7)) af)))) af))) dh) (aZ (bA 4 (mFn i3 (aa (ab 2) (aa (ab 3) (aa (mC (.int 4)) af))))) (aZ (bA 5 (mFn eY (aa (ab 2) (aa (mFn bF (aa (ab 3) af)) af)))) (aZ (eo 6 (da (mFn iQ (aa (ab 3) (aa (ab 4) (aa (mC (.int 2)) af))))) Cv) (aZ (eo 7 (da (mFn gG (aa (ab 3) (aa (ab 4) (aa (mC (.int 2)) af))))) uX) (aZ (bA 7 (mFn bD (aa (bZ (iR1 (aa (mFn aL (aa (ab 2) (aa (mC (.int 9)) af))) af)) cTT (mFn aL (aa (ab 2) (aa (mFn bF (aa (ab 3) af)) af)))) af))) (aZ (sIf (cOr (cOf (m2 oNe (m2 oIx (mFn hZ (aa (ab 3) (aa (m2 bW (ab 7) (mFn d4 (aa (ab 3) (aa (ab 7) af)))) af))) (m1 eW (mC (.int 1)))) (mC (.int 0)))) (cOf (m2 oNe (mFn d4 (aa (ab 3) (aa (mFn d4 (aa (ab 3) (aa (ab 7) af))) af))) (ab 7)))) (bV (mC (.bl false))) dh) (sIf (cOf (m2 oNe (mFn bP (aa (ab 3) (aa (mFn bP (aa (ab 3) (aa (ab 4) af))) af))) (ab 4))) (bV (mC (.bl false))) dh))))))))))
  (ρ := [some (.ref 0),none,none,none,none,none,none,none]) (S:=S) eq (by unfold big;exact ae (by assumption) (by decide))
  (fun k ρ S'=>(∃ a b c d e f g,ρ = [some (.ref 0),a,b,c,d,e,f,g])/\Scr ns S') ⟨⟨none,none,none,none,none,none,none,rfl⟩,h2⟩
  (by
   rintro k ρ S' hk ⟨⟨u1,u2,u3,u4,u5,u6,u7,rfl⟩,hs⟩
   have h0:=hs.lt
   obtain⟨S2,f2,x2,st2⟩:=Be (k:=k) hs
   obtain⟨m,T,S3,f3,g,hm2,hm,st3⟩:=J6 (k:=k) (a:=u3) (b:=u4) (c:=u5) (d:=u6) (e:=u7) st2
   obtain⟨w,S4,f4,st4,hw,hwl,_,nd,nz,_,hsrt⟩:=zq (most:=4) st3.st g (by exact aE (by assumption) (by decide)) (by decide) (by decide)
   have g4:=bO (i:=4) (i7 (f:=i3) (ρ := [some (.ref 0),some (.int k),some (.ref S'.length),some (tab m T),u4,u5,u6,u7]) (S:=S3) (a:=ab 2) (b:=ab 3) (c:=mC (.int 4)) (var_eq rfl) (var_eq rfl) c_i f4)
   obtain⟨l,S5,f5,st5,ho⟩:=wm (m:=m) st4.st (by exact bG (by assumption)) (by exact aE (by assumption) (by decide))
   have g5:=bO (i:=5) (b0 (f:=eY) (ρ := [some (.ref 0),some (.int k),some (.ref S'.length),some (tab m T),some (.tup (ao w)),u5,u6,u7]) (S:=S4) (a:=ab 2) (b:=mFn bF (aa (ab 3) af)) (var_eq rfl) (len_tab (var_eq rfl)) f5)
   have hz:=Hw (b:=w.length) (m:=m) (by assumption) hm
   obtain⟨F,S6,f6,x6,c6,hF⟩:=ES (T:=T) (st:=w) (S:=S5) (most:=2) g (by exact aE (by assumption) (by decide)) hw (by exact ae (by assumption) (by decide)) (by decide) hz
   have hFl:F.length<=2:=by rw [hF,dM];omega
   obtain⟨ρ7,S7,f7,⟨v6,rfl⟩,x7,_⟩:=w9 (i:=6) (b:=Cv) (e:=mFn iQ (aa (ab 3) (aa (ab 4) (aa (mC (.int 2)) af)))) (ρ := [some (.ref 0),some (.int k),some (.ref S'.length),some (tab m T),some (.tup (ao w)),some (.tup (ao l)),u6,u7]) (S:=S5) (us:=tups F)
    (i7 (f:=iQ) (var_eq rfl) (var_eq rfl) c_i f6) (by unfold tups;rw [av];exact aE (by assumption) (by decide))
    (fun j ρ S7=>(∃ v,ρ = [some (.ref 0),some (.int k),some (.ref S'.length),some (tab m T),some (.tup (ao w)),some (.tup (ao l)),v,u7])/\Ex S6 S7/\S7[S5.length]? = some (.lst (tups F))) ⟨⟨_,rfl⟩,Ex.refl _,c6⟩ (fun j ρ S7 hp=>by unfold getL;rw [hp.2.2]) (by
     rintro j u ρ S7 hu ⟨⟨v,rfl⟩,x7,c7⟩
     obtain⟨y,hy,rfl⟩:=vM hu
     rw [hF] at hy
     obtain⟨hy1,hy2,hy3⟩:=Ab g hw (fQ hy)
     obtain⟨S8,f8,x8⟩:=E5 (S:=S7) g (by exact aE (by assumption) (by decide)) hw (by assumption) hy1 hy2 (by omega) ho
     have c:=not_eq (of_eq (Ft (f:=eA) (ρ := [some (.ref 0),some (.int k),some (.ref S'.length),some (tab m T),some (.tup (ao w)),some (.tup (ao l)),some (.tup (ao y)),u7]) (a:=ab 3) (b:=ab 4) (c:=ab 6) (d:=ab 5) (var_eq rfl) (var_eq rfl) (var_eq rfl) (var_eq rfl) f8))
     exact⟨_,S8,(jO c).trans rfl,⟨_,rfl⟩,x7.trans x8,x8.some c7⟩)
   have st7:Stp S'.length S2 S7:=(((st3.trans st4).trans st5).step x6).step x7
   obtain⟨r9,S9,f9,x9,c9⟩:=z3 (T:=T) (st:=w) (S:=S7) (most:=2) g (by exact aE (by assumption) (by decide)) hw (by exact ae (by assumption) (by decide)) (by decide) hz
   have st9:=st7.step x9
   have hr9:r9≠S'.length:=by
    intro z
    obtain⟨s,b,e⟩:=st9.st
    rw [<- z,c9] at e
    have e:=Cell.lst.inj (bq e)
    cases q:List.take 2 (j4 T w (lB T w) (m - 1) ([],[0])) with
    | nil=>rw [q] at e;cases e
    | cons a b=>rw [q] at e;cases (List.cons.inj e).1
   generalize hG:(j4 T w (lB T w) (m - 1) ([],[0])).take 2=F2 at c9
   have hGl:F2.length<=2:=by rw [<- hG,dM];omega
   obtain⟨ρ10,S10,f10,⟨v7,rfl⟩,st10,_⟩:=w9 (i:=7) (b:=uX) (e:=mFn gG (aa (ab 3) (aa (ab 4) (aa (mC (.int 2)) af)))) (ρ := [some (.ref 0),some (.int k),some (.ref S'.length),some (tab m T),some (.tup (ao w)),some (.tup (ao l)),v6,u7]) (S:=S7) (us:=tups F2)
    (i7 (f:=gG) (var_eq rfl) (var_eq rfl) c_i f9) (by unfold tups;rw [av];exact aE (by assumption) (by decide))
    (fun j ρ S10=>(∃ v,ρ = [some (.ref 0),some (.int k),some (.ref S'.length),some (tab m T),some (.tup (ao w)),some (.tup (ao l)),v6,v])/\Stp S'.length S2 S10/\S10[r9]? = some (.lst (tups F2))) ⟨⟨_,rfl⟩,st9,c9⟩ (fun j ρ S10 hp=>by unfold getL;rw [hp.2.2]) (by
     rintro j u ρ S10 hu ⟨⟨v,rfl⟩,st10,c10⟩
     obtain⟨y,hy,rfl⟩:=vM hu
     rw [<- hG] at hy
     obtain⟨hy1,hy2,hy3⟩:=vf g hw (fQ hy)
     obtain⟨t,S11,f11,ht,st11⟩:=gS (m:=y.length) st10.st (by omega) (by omega)
     obtain⟨S12,f12,x12⟩:=zG (S:=S11) (k:=t) g (by exact aE (by assumption) (by decide)) hm2 hw (by assumption) hy1 hy2 hy3 ht
     have el:mFn bF (aa (ab 7) af) [some (.ref 0),some (.int k),some (.ref S'.length),some (tab m T),some (.tup (ao w)),some (.tup (ao l)),v6,some (.tup (ao y))] S10=some (.int (y.length:Nat),S10):=by rw [ve (us:=ao y) (var_eq rfl),cu]
     have c:=not_eq (of_eq (Ft (f:=dP) (ρ := [some (.ref 0),some (.int k),some (.ref S'.length),some (tab m T),some (.tup (ao w)),some (.tup (ao l)),v6,some (.tup (ao y))]) (a:=ab 3) (b:=ab 4) (c:=ab 7) (var_eq rfl) (var_eq rfl) (var_eq rfl) (b0 (f:=aL) (a:=ab 2) (var_eq rfl) el f11) f12))
     exact⟨_,S12,(jO c).trans rfl,⟨_,rfl⟩,(st10.trans st11).step x12,x12.some (st11.some hr9 c10)⟩)
   obtain⟨t,S11,f11,ht,st11⟩:=gS (m:=9) st10.st (by decide) (by decide)
   obtain⟨y,S12,f12,st12,hy,hyl⟩:=DB (n:=S'.length) (m:=m) (sv:=ab 2) (mv:=mFn bF (aa (ab 3) af)) (ρ := [some (.ref 0),some (.int k),some (.ref S'.length),some (tab m T),some (.tup (ao w)),some (.tup (ao l)),v6,v7]) (a:=mFn aL (aa (ab 2) (aa (mC (.int 9)) af))) (b0 (f:=aL) (a:=ab 2) (var_eq rfl) c_i f11) (by exact ae (by assumption) (by decide)) st11.st g.pos (by exact aE (by assumption) (by decide)) (fun z S=>var_eq rfl) (fun z S=>len_tab (var_eq rfl))
   have lb:=Cm g hy
   obtain⟨S13,f13,x13⟩:=t8 (S:=S12) g hy (by omega)
   obtain⟨S14,f14,x14⟩:=DC (S:=S13) (w:=y++bk m T y) g (Lt.app hy lb) (by rw [aH,mG];omega)
   obtain⟨S15,f15,x15⟩:=t8 (S:=S14) g hy (by omega)
   obtain⟨S16,f16,x16⟩:=t8 (S:=S15) g lb (by rw [mG];omega)
   rw [Jp g hy] at f16
   have hc0:cY T (y++bk m T y)=0:=by rw [ny g hy lb,nC g hy,F3 g (lM g hy)]
   have q1:cOf (m2 oNe (m2 oIx (mFn hZ (aa (ab 3) (aa (m2 bW (ab 7) (mFn d4 (aa (ab 3) (aa (ab 7) af)))) af))) (m1 eW (mC (.int 1)))) (mC (.int 0))) [some (.ref 0),some (.int k),some (.ref S'.length),some (tab m T),some (.tup (ao w)),some (.tup (ao l)),v6,some (.tup (ao y))] S12=some (false,S14):=by
    have:=of_eq (LI (ρ := [some (.ref 0),some (.int k),some (.ref S'.length),some (tab m T),some (.tup (ao w)),some (.tup (ao l)),v6,some (.tup (ao y))]) (S:=S12) (x:=cY T (y++bk m T y)) (y:=0) (b:=mC (.int 0)) (wZ (b0 (f:=hZ) (a:=ab 3) (var_eq rfl) (tj (x:=y) (y:=bk m T y) (a:=ab 7) (var_eq rfl) (b0 (f:=d4) (a:=ab 3) (b:=ab 7) (var_eq rfl) (var_eq rfl) f13) (by rw [mG];omega)) f14) Do (vB trivial)) c_i)
    rw [this,hc0];rfl
   have q2:cOf (m2 oNe (mFn d4 (aa (ab 3) (aa (mFn d4 (aa (ab 3) (aa (ab 7) af))) af))) (ab 7)) [some (.ref 0),some (.int k),some (.ref S'.length),some (tab m T),some (.tup (ao w)),some (.tup (ao l)),v6,some (.tup (ao y))] S14=some (false,S16):=by
    have:=of_eq (BX (ρ := [some (.ref 0),some (.int k),some (.ref S'.length),some (tab m T),some (.tup (ao w)),some (.tup (ao l)),v6,some (.tup (ao y))]) (S:=S14) (y:=y) (b:=ab 7) (b0 (f:=d4) (a:=ab 3) (var_eq rfl) (b0 (f:=d4) (a:=ab 3) (b:=ab 7) (var_eq rfl) (var_eq rfl) f15) f16) (var_eq rfl))
    rw [this];simp
   obtain⟨S17,f17,x17⟩:=ya (S:=S16) g hw (by exact ae (by assumption) (by decide))
   obtain⟨S18,f18,x18⟩:=ya (S:=S17) (st:=srt (w.map (unT m T))) g (FK g hw) (by rw [nU,av];exact ae (by assumption) (by decide))
   rw [Kq g hw hsrt] at f18
   have q3:cOf (m2 oNe (mFn bP (aa (ab 3) (aa (mFn bP (aa (ab 3) (aa (ab 4) af))) af))) (ab 4)) [some (.ref 0),some (.int k),some (.ref S'.length),some (tab m T),some (.tup (ao w)),some (.tup (ao l)),v6,some (.tup (ao y))] S16=some (false,S18):=by
    have:=of_eq (BX (ρ := [some (.ref 0),some (.int k),some (.ref S'.length),some (tab m T),some (.tup (ao w)),some (.tup (ao l)),v6,some (.tup (ao y))]) (S:=S16) (y:=w) (b:=ab 4) (b0 (f:=bP) (a:=ab 3) (var_eq rfl) (b0 (f:=bP) (a:=ab 3) (b:=ab 4) (var_eq rfl) (var_eq rfl) f17) f18) (var_eq rfl))
    rw [this];simp
   refine⟨[some (.ref 0),some (.int k),some (.ref S'.length),some (tab m T),some (.tup (ao w)),some (.tup (ao l)),v6,some (.tup (ao y))],S18,(aY (bO (b0 (var_eq rfl) (var_eq rfl) f2))).trans ?_,⟨_,_,_,_,_,_,_,rfl⟩,?_⟩
   ·rw [<- seq_assoc]
    exact (aY f3).trans ((aY g4).trans ((aY g5).trans ((aY f7).trans ((aY f10).trans ((aY (bO f12)).trans ((aY ((jO (W.or_false q1 q2)).trans rfl)).trans ((jO q3).trans rfl)))))))
   ·exact ((hs.ex fun c h=>x2.some h).ex fun c h=>((st10.trans st11).trans st12).some (by exact aP (by assumption)) h).ex fun c h=>(((((x13.trans x14).trans x15).trans x16).trans x17).trans x18).some h)
 exact⟨S1,cy (ρ:=ρ1) rfl ((aY e1).trans (cx rfl))⟩
end
noncomputable def top (i:Nat):Stmt:=PySem.Challenge.pw_groupwalks_k34_whole_walks.main.body.getD i (.Pass ⟨0,0,0,0⟩)
abbrev fJ:Stmt:=top 23
abbrev hX:Stmt:=top 24
abbrev iL:Stmt:=top 25
abbrev ip:Stmt:=top 26
abbrev ig:Stmt:=top 27
abbrev fI:Stmt:=top 29
abbrev iS:Stmt:=top 28
abbrev il:Stmt:=top 31
abbrev ie:Stmt:=top 30
abbrev ib:Stmt:=top 32
abbrev ij:Stmt:=top 33
abbrev iU:Stmt:=top 35
abbrev gJ:Stmt:=top 34
abbrev kq:Stmt:=top 4
abbrev fb:Stmt:=top 21
abbrev dN:Stmt:=top 1
abbrev dy:Stmt:=top 2
abbrev gz:Stmt:=top 15
abbrev gq:Stmt:=top 3
abbrev d6:Stmt:=top 12
abbrev ke:Stmt:=top 11
abbrev eX:Stmt:=top 14
abbrev kJ:Stmt:=top 16
abbrev m9:Stmt:=top 8
abbrev qT:Stmt:=top 9
abbrev jw:Stmt:=top 18
abbrev iM:Stmt:=top 5
abbrev nK:Stmt:=top 6
abbrev qz:Stmt:=top 20
abbrev eB:Stmt:=top 36
abbrev fG:Stmt:=top 13
abbrev iK:Stmt:=top 17
abbrev iO:Stmt:=top 19
abbrev dO:Stmt:=top 37
abbrev yP:Stmt:=top 38
noncomputable def T0:Tb:=⟨[],[],[],[],false⟩
noncomputable def T1:Tb:=⟨("_law_cell_at",hU)::T0.D,T0.C,[],T0.H,false⟩
noncomputable def T2:Tb:=⟨("_law_state",i2)::T1.D,T1.C,[],T1.H,false⟩
noncomputable def T3:Tb:=⟨("_law_take",aL)::T2.D,T2.C,[],T2.H,false⟩
noncomputable def T4:Tb:=⟨("_law_clock",b9)::T3.D,T3.C,[],T3.H,false⟩
noncomputable def T5:Tb:=⟨("_law_flips",eV)::T4.D,T4.C,[],T4.H,false⟩
noncomputable def T6:Tb:=⟨("_law_quarter",fH)::T5.D,T5.C,[],T5.H,false⟩
noncomputable def T7:Tb:=⟨("_law_both",jV)::T6.D,T6.C,[],T6.H,false⟩
noncomputable def T8:Tb:=⟨("_law_named",i8)::T7.D,T7.C,[],T7.H,false⟩
noncomputable def T9:Tb:=⟨("_law_order",eY)::T8.D,T8.C,[],T8.H,false⟩
noncomputable def T10:Tb:=⟨("_law_group",fW)::T9.D,T9.C,[],T9.H,false⟩
noncomputable def T11:Tb:=⟨("_law_steps",i3)::T10.D,T10.C,[],T10.H,false⟩
noncomputable def T12:Tb:=⟨("_law_ways",iQ)::T11.D,T11.C,[],T11.H,false⟩
noncomputable def T13:Tb:=⟨("_law_rounds",gG)::T12.D,T12.C,[],T12.H,false⟩
noncomputable def T14:Tb:=⟨("undone",qS)::T13.D,T13.C,[],T13.H,false⟩
noncomputable def T15:Tb:=⟨("undone_steps",bP)::T14.D,T14.C,[],T14.H,false⟩
noncomputable def T16:Tb:=⟨("is_number_below",je)::T15.D,T15.C,[],T15.H,false⟩
noncomputable def T17:Tb:=⟨("are_numbers_below",fA)::T16.D,T16.C,[],T16.H,false⟩
noncomputable def T18:Tb:=⟨("is_walk_by",jL)::T17.D,T17.C,[],T17.H,false⟩
noncomputable def T19:Tb:=⟨("all_things",ni)::T18.D,T18.C,[],T18.H,false⟩
noncomputable def T20:Tb:=⟨("are_all_things",gX)::T19.D,T19.C,[],T19.H,false⟩
noncomputable def T21:Tb:=⟨("places",hZ)::T20.D,T20.C,[],T20.H,false⟩
noncomputable def T22:Tb:=⟨("goes_through",kf)::T21.D,T21.C,[],T21.H,false⟩
noncomputable def T23:Tb:=⟨("is_way",eZ)::T22.D,T22.C,[],T22.H,false⟩
noncomputable def T24:Tb:=⟨("roads",yM)::T23.D,T23.C,[],T23.H,false⟩
noncomputable def T25:Tb:=⟨("span",A1)::T24.D,T24.C,[],T24.H,false⟩
noncomputable def T26:Tb:=⟨("reaches",jz)::T25.D,T25.C,[],T25.H,false⟩
noncomputable def T27:Tb:=⟨T26.D,T26.C,[],("table_of",qL)::T26.H,false⟩
noncomputable def T28:Tb:=⟨("named",pq)::T27.D,T27.C,[],T27.H,false⟩
noncomputable def T29:Tb:=⟨("back",d4)::T28.D,T28.C,[],T28.H,false⟩
noncomputable def T30:Tb:=⟨("_law_way_right",eA)::T29.D,T29.C,[],T29.H,false⟩
noncomputable def T31:Tb:=⟨("comes_round",lR)::T30.D,T30.C,[],T30.H,false⟩
noncomputable def T32:Tb:=⟨("is_round",ei)::T31.D,T31.C,[],T31.H,false⟩
noncomputable def T33:Tb:=⟨("begun_at",jR)::T32.D,T32.C,[],T32.H,false⟩
noncomputable def T34:Tb:=⟨("_law_round_right",dP)::T33.D,T33.C,[],T33.H,false⟩
theorem rG:cB T0 80 (["script","k"]:List Str) (aw fJ).names (aW fJ)=some fF:=by kernel_rfl
theorem qP:bf (["script","k"]:List Str) (["script","k"]:List Str) (aw fJ):=⟨rfl,rfl,rfl,by decide +kernel,rfl,by decide +kernel,by decide +kernel⟩
theorem wo:cB T1 80 (["script","k","cell"]:List Str) (aw hX).names (aW hX)=some i4:=by kernel_rfl
theorem uf:bf (["script","k","cell"]:List Str) (["script","k"]:List Str) (aw hX):=⟨rfl,rfl,rfl,by decide +kernel,rfl,by decide +kernel,by decide +kernel⟩
theorem wR:cB T2 80 (["state","many","found","mixed"]:List Str) (aw iL).names (aW iL)=some jT:=by kernel_rfl
theorem vC:bf (["state","many","found","mixed"]:List Str) (["state","many"]:List Str) (aw iL):=⟨rfl,rfl,rfl,by decide +kernel,rfl,by decide +kernel,by decide +kernel⟩
theorem v8:cB T3 80 (["n"]:List Str) (aw ip).names (aW ip)=some kD:=by kernel_rfl
theorem tN:bf (["n"]:List Str) (["n"]:List Str) (aw ip):=⟨rfl,rfl,rfl,by decide +kernel,rfl,by decide +kernel,by decide +kernel⟩
theorem we:cB T4 80 (["n","found","i","row","j","turn"]:List Str) (aw ig).names (aW ig)=some ko:=by kernel_rfl
theorem tJ:bf (["n","found","i","row","j","turn"]:List Str) (["n"]:List Str) (aw ig):=⟨rfl,rfl,rfl,by decide +kernel,rfl,by decide +kernel,by decide +kernel⟩
theorem rJ:cB T5 80 (["signs","kinds","found","one","row","other","sign"]:List Str) (aw fI).names (aW fI)=some jl:=by kernel_rfl
theorem pV:bf (["signs","kinds","found","one","row","other","sign"]:List Str) ([]:List Str) (aw fI):=⟨rfl,rfl,rfl,by decide +kernel,rfl,by decide +kernel,by decide +kernel⟩
theorem xI:cB T6 80 (["one","other","size","found","i","row","j","ahead"]:List Str) (aw iS).names (aW iS)=some mK:=by kernel_rfl
theorem vt:bf (["one","other","size","found","i","row","j","ahead"]:List Str) (["one","other"]:List Str) (aw iS):=⟨rfl,rfl,rfl,by decide +kernel,rfl,by decide +kernel,by decide +kernel⟩
theorem vv:cB T7 80 (["group","order"]:List Str) (aw il).names (aW il)=some ku:=by kernel_rfl
theorem tP:bf (["group","order"]:List Str) (["group","order"]:List Str) (aw il):=⟨rfl,rfl,rfl,by decide +kernel,rfl,by decide +kernel,by decide +kernel⟩
theorem uR:cB T8 80 (["state","many","left"]:List Str) (aw ie).names (aW ie)=some kg:=by kernel_rfl
theorem tQ:bf (["state","many","left"]:List Str) (["state","many"]:List Str) (aw ie):=⟨rfl,rfl,rfl,by decide +kernel,rfl,by decide +kernel,by decide +kernel⟩
theorem vT:cB T9 80 (["state","most","way","found","first","one"]:List Str) (aw ib).names (aW ib)=some kr:=by kernel_rfl
theorem uu:bf (["state","most","way","found","first","one"]:List Str) (["state","most"]:List Str) (aw ib):=⟨rfl,rfl,rfl,by decide +kernel,rfl,by decide +kernel,by decide +kernel⟩
theorem vH:cB T10 80 (["state","group","most","left","found","k"]:List Str) (aw ij).names (aW ij)=some oN:=by kernel_rfl
theorem uh:bf (["state","group","most","left","found","k"]:List Str) (["state","group","most"]:List Str) (aw ij):=⟨rfl,rfl,rfl,by decide +kernel,rfl,by decide +kernel,by decide +kernel⟩
theorem xN:cB T11 80 (["group","steps","most","found","line","walk","there","fresh"]:List Str) (aw iU).names (aW iU)=some pN:=by kernel_rfl
theorem uZ:bf (["group","steps","most","found","line","walk","there","fresh"]:List Str) (["group","steps","most"]:List Str) (aw iU):=⟨rfl,rfl,rfl,by decide +kernel,rfl,by decide +kernel,by decide +kernel⟩
theorem t9:cB T12 80 (["group","steps","most","found","line","walk","there","here","fresh"]:List Str) (aw gJ).names (aW gJ)=some m6:=by kernel_rfl
theorem rP:bf (["group","steps","most","found","line","walk","there","here","fresh"]:List Str) (["group","steps","most"]:List Str) (aw gJ):=⟨rfl,rfl,rfl,by decide +kernel,rfl,by decide +kernel,by decide +kernel⟩
theorem Aw:cB T13 80 (["group","thing"]:List Str) (aw kq).names (aW kq)=some uP:=by kernel_rfl
theorem zS:bf (["group","thing"]:List Str) (["group","thing"]:List Str) (aw kq):=⟨rfl,rfl,rfl,by decide +kernel,rfl,by decide +kernel,by decide +kernel⟩
theorem pZ:cB T14 80 (["group","steps"]:List Str) (aw fb).names (aW fb)=some kG:=by kernel_rfl
theorem oT:bf (["group","steps"]:List Str) (["group","steps"]:List Str) (aw fb):=⟨rfl,rfl,rfl,by decide +kernel,rfl,by decide +kernel,by decide +kernel⟩
theorem nF:cB T15 80 (["value","many"]:List Str) (aw dN).names (aW dN)=some i1:=by kernel_rfl
theorem mD:bf (["value","many"]:List Str) (["value","many"]:List Str) (aw dN):=⟨rfl,rfl,rfl,by decide +kernel,rfl,by decide +kernel,by decide +kernel⟩
theorem lH:cB T16 80 (["value","many"]:List Str) (aw dy).names (aW dy)=some iC:=by kernel_rfl
theorem kN:bf (["value","many"]:List Str) (["value","many"]:List Str) (aw dy):=⟨rfl,rfl,rfl,by decide +kernel,rfl,by decide +kernel,by decide +kernel⟩
theorem tL:cB T17 80 (["group","steps","thing"]:List Str) (aw gz).names (aW gz)=some nS:=by kernel_rfl
theorem rF:bf (["group","steps","thing"]:List Str) (["group","steps","thing"]:List Str) (aw gz):=⟨rfl,rfl,rfl,by decide +kernel,rfl,by decide +kernel,by decide +kernel⟩
theorem tT:cB T18 80 (["group"]:List Str) (aw gq).names (aW gq)=some nI:=by kernel_rfl
theorem rA:bf (["group"]:List Str) (["group"]:List Str) (aw gq):=⟨rfl,rfl,rfl,by decide +kernel,rfl,by decide +kernel,by decide +kernel⟩
theorem ot:cB T19 80 (["group","come_to"]:List Str) (aw d6).names (aW d6)=some jr:=by kernel_rfl
theorem nO:bf (["group","come_to"]:List Str) (["group","come_to"]:List Str) (aw d6):=⟨rfl,rfl,rfl,by decide +kernel,rfl,by decide +kernel,by decide +kernel⟩
theorem Ay:cB T20 80 (["group","walk","come_to","thing"]:List Str) (aw ke).names (aW ke)=some vD:=by kernel_rfl
theorem zj:bf (["group","walk","come_to","thing"]:List Str) (["group","walk"]:List Str) (aw ke):=⟨rfl,rfl,rfl,by decide +kernel,rfl,by decide +kernel,by decide +kernel⟩
theorem qf:cB T21 80 (["group","thing"]:List Str) (aw eX).names (aW eX)=some kK:=by kernel_rfl
theorem oV:bf (["group","thing"]:List Str) (["group","thing"]:List Str) (aw eX):=⟨rfl,rfl,rfl,by decide +kernel,rfl,by decide +kernel,by decide +kernel⟩
theorem A2:cB T22 80 (["group","steps","thing"]:List Str) (aw kJ).names (aW kJ)=some vF:=by kernel_rfl
theorem Aa:bf (["group","steps","thing"]:List Str) (["group","steps","thing"]:List Str) (aw kJ):=⟨rfl,rfl,rfl,by decide +kernel,rfl,by decide +kernel,by decide +kernel⟩
theorem Du:cB T23 80 (["group","things","found","waiting","place","thing","onward"]:List Str) (aw m9).names (aW m9)=some yU:=by kernel_rfl
theorem AZ:bf (["group","things","found","waiting","place","thing","onward"]:List Str) (["group","things"]:List Str) (aw m9):=⟨rfl,rfl,rfl,by decide +kernel,rfl,by decide +kernel,by decide +kernel⟩
theorem F6:cB T24 80 (["group","things"]:List Str) (aw qT).names (aW qT)=some BK:=by kernel_rfl
theorem Ea:bf (["group","things"]:List Str) (["group","things"]:List Str) (aw qT):=⟨rfl,rfl,rfl,by decide +kernel,rfl,by decide +kernel,by decide +kernel⟩
theorem zK:cB T25 80 (["group","steps"]:List Str) (aw jw).names (aW jw)=some sx:=by kernel_rfl
theorem wN:bf (["group","steps"]:List Str) (["group","steps"]:List Str) (aw jw):=⟨rfl,rfl,rfl,by decide +kernel,rfl,by decide +kernel,by decide +kernel⟩
theorem xk : ∀ g φ,cB ⟨T26.D,T26.C,[("times",g,φ)],T26.H,T26.mkr⟩ 80 (["many","times","rows","i"]:List Str) (aw iM).names (aW iM)=some (ql g φ):=by intro g φ;kernel_rfl
theorem vE:bf (["many","times","rows","i"]:List Str) (["many","times"]:List Str) (aw iM):=⟨rfl,rfl,rfl,by decide +kernel,rfl,by decide +kernel,by decide +kernel⟩
theorem El:cB ⟨T27.D,T27.C,T27.L,T27.H,true⟩ 80 (["group","order"]:List Str) (aw nK).names (aW nK)=some xT:=by kernel_rfl
theorem B5:bf (["group","order"]:List Str) (["group","order"]:List Str) (aw nK):=⟨rfl,rfl,rfl,by decide +kernel,rfl,by decide +kernel,by decide +kernel⟩
theorem G7:cB T28 80 (["group","walk"]:List Str) (aw qz).names (aW qz)=some CF:=by kernel_rfl
theorem E1:bf (["group","walk"]:List Str) (["group","walk"]:List Str) (aw qz):=⟨rfl,rfl,rfl,by decide +kernel,rfl,by decide +kernel,by decide +kernel⟩
theorem oZ:cB T29 80 (["group","steps","way","order","there","numbers","new_steps"]:List Str) (aw eB).names (aW eB)=some iy:=by kernel_rfl
theorem oh:bf (["group","steps","way","order","there","numbers","new_steps"]:List Str) (["group","steps","way","order"]:List Str) (aw eB):=⟨rfl,rfl,rfl,by decide +kernel,rfl,by decide +kernel,by decide +kernel⟩
theorem rS:cB T30 80 (["group","walk","come_to"]:List Str) (aw fG).names (aW fG)=some lW:=by kernel_rfl
theorem qB:bf (["group","walk","come_to"]:List Str) (["group","walk"]:List Str) (aw fG):=⟨rfl,rfl,rfl,by decide +kernel,rfl,by decide +kernel,by decide +kernel⟩
theorem wL:cB T31 80 (["group","steps","thing"]:List Str) (aw iK).names (aW iK)=some qi:=by kernel_rfl
theorem vI:bf (["group","steps","thing"]:List Str) (["group","steps","thing"]:List Str) (aw iK):=⟨rfl,rfl,rfl,by decide +kernel,rfl,by decide +kernel,by decide +kernel⟩
theorem xb:cB T32 80 (["walk","k"]:List Str) (aw iO).names (aW iO)=some qO:=by kernel_rfl
theorem u0:bf (["walk","k"]:List Str) (["walk","k"]:List Str) (aw iO):=⟨rfl,rfl,rfl,by decide +kernel,rfl,by decide +kernel,by decide +kernel⟩
theorem nh:cB T33 80 (["group","steps","walk","at","there"]:List Str) (aw dO).names (aW dO)=some gE:=by kernel_rfl
theorem mF:bf (["group","steps","walk","at","there"]:List Str) (["group","steps","walk","at"]:List Str) (aw dO):=⟨rfl,rfl,rfl,by decide +kernel,rfl,by decide +kernel,by decide +kernel⟩
theorem KQ:cB T34 80 (["script","k","state","group","steps","order","way","walk"]:List Str) (aw yP).names (aW yP)=some FG:=by kernel_rfl
theorem GB:bf (["script","k","state","group","steps","order","way","walk"]:List Str) (["script"]:List Str) (aw yP):=⟨rfl,rfl,rfl,by decide +kernel,rfl,by decide +kernel,by decide +kernel⟩
theorem chain {P:Program}{w:World}{K:aj}{mg:Str->Option Value}{h:Heap}{k27 p27:Addr} (X:K.In h) (Gn:h.Ns mainGlobals mg) (B : ∀ x∈jt,hC K mainGlobals x=some none)  (g27:mainGlobals≠p27) (nd:([p27]:List Addr).Nodup)
  (D0:Def K "_law_cell_at" fJ) (D1:Def K "_law_state" hX) (D2:Def K "_law_take" iL) (D3:Def K "_law_clock" ip) (D4:Def K "_law_flips" ig) (D5:Def K "_law_quarter" fI) (D6:Def K "_law_both" iS) (D7:Def K "_law_named" il) (D8:Def K "_law_order" ie) (D9:Def K "_law_group" ib) (D10:Def K "_law_steps" ij) (D11:Def K "_law_ways" iU) (D12:Def K "_law_rounds" gJ) (D13:Def K "undone" kq) (D14:Def K "undone_steps" fb) (D15:Def K "is_number_below" dN) (D16:Def K "are_numbers_below" dy) (D17:Def K "is_walk_by" gz) (D18:Def K "all_things" gq) (D19:Def K "are_all_things" d6) (D20:Def K "places" ke) (D21:Def K "goes_through" eX) (D22:Def K "is_way" kJ) (D23:Def K "roads" m9) (D24:Def K "span" qT) (D25:Def K "reaches" jw) (D26:Def K "table_of" iM) (D27:rM K "named" nK k27 p27) (D28:Def K "back" qz) (D29:Def K "_law_way_right" eB) (D30:Def K "comes_round" fG) (D31:Def K "is_round" iK) (D32:Def K "begun_at" iO) (D33:Def K "_law_round_right" dO) : ∀ (caps:List U) (capv:List V) (cds:List (Addr×Obj)) (base:Heap),h9 mg base->TOk ⟨P,w,⟨K,caps,capv,cds,[(p27,("named":Str)++".<locals>."++"<lambda>")]⟩,mg,base,none⟩ T34 35:=by
 have C0:Ch P w K mg [(p27,("named":Str)++".<locals>."++"<lambda>")] T0 0:=⟨fun _ _ _ _ _=>TOk.nil X Gn B,fun _ _ _ _ _ _ _ z=>by cases z⟩
 have nd:(([(p27,("named":Str)++".<locals>."++"<lambda>")]:List (Addr×Str)).map (·.1)).Nodup:=by simpa using nd
 have C1:Ch P w K mg _ T1 1:=C0.dfn C0.o rfl X Gn D0 qP (fun _ _ _ _ _ _=>us2 fun _ _=>rfl) rG
 have C2:Ch P w K mg _ T2 2:=C1.dfn C1.o rfl X Gn D1 uf (fun _ _ _ _ _ _=>us2 fun _ _=>rfl) wo
 have C3:Ch P w K mg _ T3 3:=C2.dfn C2.o rfl X Gn D2 vC (fun _ _ _ _ _ _=>us2 fun _ _=>rfl) wR
 have C4:Ch P w K mg _ T4 4:=C3.dfn C3.o rfl X Gn D3 tN (fun _ _ _ _ _ _=>us1 fun _=>rfl) v8
 have C5:Ch P w K mg _ T5 5:=C4.dfn C4.o rfl X Gn D4 tJ (fun _ _ _ _ _ _=>us1 fun _=>rfl) we
 have C6:Ch P w K mg _ T6 6:=C5.dfn C5.o rfl X Gn D5 pV (fun _ _ _ _ _ _=>us0 rfl) rJ
 have C7:Ch P w K mg _ T7 7:=C6.dfn C6.o rfl X Gn D6 vt (fun _ _ _ _ _ _=>us2 fun _ _=>rfl) xI
 have C8:Ch P w K mg _ T8 8:=C7.dfn C7.o rfl X Gn D7 tP (fun _ _ _ _ _ _=>us2 fun _ _=>rfl) vv
 have C9:Ch P w K mg _ T9 9:=C8.dfn C8.o rfl X Gn D8 tQ (fun _ _ _ _ _ _=>us2 fun _ _=>rfl) uR
 have C10:Ch P w K mg _ T10 10:=C9.dfn C9.o rfl X Gn D9 uu (fun _ _ _ _ _ _=>us2 fun _ _=>rfl) vT
 have C11:Ch P w K mg _ T11 11:=C10.dfn C10.o rfl X Gn D10 uh (fun _ _ _ _ _ _=>us3 fun _ _ _=>rfl) vH
 have C12:Ch P w K mg _ T12 12:=C11.dfn C11.o rfl X Gn D11 uZ (fun _ _ _ _ _ _=>us3 fun _ _ _=>rfl) xN
 have C13:Ch P w K mg _ T13 13:=C12.dfn C12.o rfl X Gn D12 rP (fun _ _ _ _ _ _=>us3 fun _ _ _=>rfl) t9
 have C14:Ch P w K mg _ T14 14:=C13.dfn C13.o rfl X Gn D13 zS (fun _ _ _ _ _ _=>us2 fun _ _=>rfl) Aw
 have C15:Ch P w K mg _ T15 15:=C14.dfn C14.o rfl X Gn D14 oT (fun _ _ _ _ _ _=>us2 fun _ _=>rfl) pZ
 have C16:Ch P w K mg _ T16 16:=C15.dfn C15.o rfl X Gn D15 mD (fun _ _ _ _ _ _=>us2 fun _ _=>rfl) nF
 have C17:Ch P w K mg _ T17 17:=C16.dfn C16.o rfl X Gn D16 kN (fun _ _ _ _ _ _=>us2 fun _ _=>rfl) lH
 have C18:Ch P w K mg _ T18 18:=C17.dfn C17.o rfl X Gn D17 rF (fun _ _ _ _ _ _=>us3 fun _ _ _=>rfl) tL
 have C19:Ch P w K mg _ T19 19:=C18.dfn C18.o rfl X Gn D18 rA (fun _ _ _ _ _ _=>us1 fun _=>rfl) tT
 have C20:Ch P w K mg _ T20 20:=C19.dfn C19.o rfl X Gn D19 nO (fun _ _ _ _ _ _=>us2 fun _ _=>rfl) ot
 have C21:Ch P w K mg _ T21 21:=C20.dfn C20.o rfl X Gn D20 zj (fun _ _ _ _ _ _=>us2 fun _ _=>rfl) Ay
 have C22:Ch P w K mg _ T22 22:=C21.dfn C21.o rfl X Gn D21 oV (fun _ _ _ _ _ _=>us2 fun _ _=>rfl) qf
 have C23:Ch P w K mg _ T23 23:=C22.dfn C22.o rfl X Gn D22 Aa (fun _ _ _ _ _ _=>us3 fun _ _ _=>rfl) A2
 have C24:Ch P w K mg _ T24 24:=C23.dfn C23.o rfl X Gn D23 AZ (fun _ _ _ _ _ _=>us2 fun _ _=>rfl) Du
 have C25:Ch P w K mg _ T25 25:=C24.dfn C24.o rfl X Gn D24 Ea (fun _ _ _ _ _ _=>us2 fun _ _=>rfl) F6
 have C26:Ch P w K mg _ T26 26:=C25.dfn C25.o rfl X Gn D25 wN (fun _ _ _ _ _ _=>us2 fun _ _=>rfl) zK
 have C27:Ch P w K mg _ T27 26:=C26.cls rfl rfl X Gn D26 vE (fun _ _ _ _ _ _=>us2 fun _ _=>rfl) xk
 have C28:Ch P w K mg _ T28 29:=C27.lam_ rfl rfl (by simp) nd g27 X Gn D27 B5 (fun _ _ _ _ _ _=>us2 fun _ _=>rfl) El
 have C29:Ch P w K mg _ T29 30:=C28.dfn C28.o rfl X Gn D28 E1 (fun _ _ _ _ _ _=>us2 fun _ _=>rfl) G7
 have C30:Ch P w K mg _ T30 31:=C29.dfn C29.o rfl X Gn D29 oh (fun _ _ _ _ _ _=>us4 fun _ _ _ _=>rfl) oZ
 have C31:Ch P w K mg _ T31 32:=C30.dfn C30.o rfl X Gn D30 qB (fun _ _ _ _ _ _=>us2 fun _ _=>rfl) rS
 have C32:Ch P w K mg _ T32 33:=C31.dfn C31.o rfl X Gn D31 vI (fun _ _ _ _ _ _=>us3 fun _ _ _=>rfl) wL
 have C33:Ch P w K mg _ T33 34:=C32.dfn C32.o rfl X Gn D32 u0 (fun _ _ _ _ _ _=>us2 fun _ _=>rfl) xb
 have C34:Ch P w K mg _ T34 35:=C33.dfn C33.o rfl X Gn D33 mF (fun _ _ _ _ _ _=>us4 fun _ _ _ _=>rfl) nh
 exact fun caps capv cds base hbb=>(C34.o caps capv cds base hbb)
theorem all_mk {l:lu}{w:World}{K:aj}{h:Heap}{mg:Str->Option Value}{fa:Addr}{q:Program}{k27 p27:Addr} (X:K.In h) (Gn:h.Ns mainGlobals mg) (hfa:mg "law"=some (.ref fa)) (B : ∀ x∈jt,hC K mainGlobals x=some none)  (g27:mainGlobals≠p27) (nd:([p27]:List Addr).Nodup)
  (D0:Def K "_law_cell_at" fJ) (D1:Def K "_law_state" hX) (D2:Def K "_law_take" iL) (D3:Def K "_law_clock" ip) (D4:Def K "_law_flips" ig) (D5:Def K "_law_quarter" fI) (D6:Def K "_law_both" iS) (D7:Def K "_law_named" il) (D8:Def K "_law_order" ie) (D9:Def K "_law_group" ib) (D10:Def K "_law_steps" ij) (D11:Def K "_law_ways" iU) (D12:Def K "_law_rounds" gJ) (D13:Def K "undone" kq) (D14:Def K "undone_steps" fb) (D15:Def K "is_number_below" dN) (D16:Def K "are_numbers_below" dy) (D17:Def K "is_walk_by" gz) (D18:Def K "all_things" gq) (D19:Def K "are_all_things" d6) (D20:Def K "places" ke) (D21:Def K "goes_through" eX) (D22:Def K "is_way" kJ) (D23:Def K "roads" m9) (D24:Def K "span" qT) (D25:Def K "reaches" jw) (D26:Def K "table_of" iM) (D27:rM K "named" nK k27 p27) (D28:Def K "back" qz) (D29:Def K "_law_way_right" eB) (D30:Def K "comes_round" fG) (D31:Def K "is_round" iK) (D32:Def K "begun_at" iO) (D33:Def K "_law_round_right" dO) (D34:Def K "law" yP) {d27:DefRec} (n27:K.lookup p27=none) (r27:(lA q).find? (fun e=>e.name == ("named":Str))=some d27) :
  ∃ (tabs:List (Addr×Str)) (fd:FuncData) (sp:Sp),(∀ r∈tabs,K.lookup r.1=none /\ ∃ x d c,(lA q).find? (fun e=>e.name == x)=some d/\PySem.W.tabIn K x=some (c,r.1))/\(∀ (s:Shared) (v:Value),BindsTo s fd ⟨[v],[]⟩ [("script",v)]) /\
   (∀ base:Heap,K.In base->base.Ns mainGlobals mg->h9 mg base->lE l.prog w K mg base CX0 36 fa fd ["script"] sp) /\ ∀ (H:Hp) (a:Addr) (ns:List Int),ns.length<=63->(∀ r∈tabs,wO H r.1 r.2)->SqL K H a (ns.map V.int)->sp [.ref a] H (fun v _=>v = .bl true) fun _ _ _=>False:=by
 obtain⟨fd,h1,h2⟩:=FX (l:=l) (w:=w) (tabs := [(p27,("named":Str)++".<locals>."++"<lambda>")]) X Gn hfa D34 GB (fun _ _ _ _ _ _=>us1 fun _=>rfl) rfl (fun base hbb=>chain X Gn B   g27 nd D0 D1 D2 D3 D4 D5 D6 D7 D8 D9 D10 D11 D12 D13 D14 D15 D16 D17 D18 D19 D20 D21 D22 D23 D24 D25 D26 D27 D28 D29 D30 D31 D32 D33 [] [] [] base hbb) KQ
 refine⟨[(p27,("named":Str)++".<locals>."++"<lambda>")],fd,_,?_,h1,h2,fun H a ns hl hT hS=>K2 hT hS fun S h1 h2=>AU ns hl S h1 h2⟩
 intro r hr
 simp only [aX,tz,_root_.or_false] at hr
 rcases hr with rfl
 ·exact⟨n27,_,_,_,r27,D27.tab⟩
theorem walk {l:lu}{q:Program}{loose:List Str}{XP:(Str->Option Value)->Heap->Prop}{YP:World->Heap->Prop}{d:DefRec}{K:Params->aj} (hn:l.most=some 63) (hdf:d.params.defaults = [])
  (hY : ∀ (w:World) (h:Heap),YP w h->(K w.params).In h)
  (F : ∀ (w:World) (mg:Str->Option Value) (fa:Addr) (h:Heap),(K w.params).In h->h.Ns mainGlobals mg->mg d.name=some (.ref fa) -> ∃ (tabs:List (Addr×Str)) (fd:FuncData) (sp:Sp),
   (∀ r∈tabs,(K w.params).lookup r.1=none /\ ∃ x d c,(lA q).find? (fun e=>e.name == x)=some d/\PySem.W.tabIn (K w.params) x=some (c,r.1))/\(∀ (s:Shared) (v:Value),BindsTo s fd ⟨[v],[]⟩ [("script",v)]) /\
   (∀ base:Heap,(K w.params).In base->base.Ns mainGlobals mg->h9 mg base->lE l.prog w (K w.params) mg base CX0 36 fa fd ["script"] sp) /\ ∀ (H:Hp) (a:Addr) (ns:List Int),ns.length<=63->(∀ r∈tabs,wO H r.1 r.2)->SqL (K w.params) H a (ns.map V.int)->sp [.ref a] H (fun v _=>v = .bl true) fun _ _ _=>False) :
  PySem.W.WalkO q loose XP YP l.row.toRowW d [] (fun f vs=>PySem.call f vs):=
 A4 (n:=63) (k:=36) (x:="script") hn (by decide) hdf ⟨rfl,by decide,by decide,rfl⟩ hY F
end W
open PySem PySem.W PyProof.Rows
set_option maxRecDepth 100000 in
set_option maxHeartbeats 0 in
theorem PySem.Challenge.cw_groupwalks_k34_whole_walks_holds : PySem.Challenge.rw_groupwalks_k34_whole_walks.Holds := by
 w_on;o_law;k_head;(case hw=>w_witness2)
 k_fill
 refine W.walk (l:=PySem.Challenge.rw_groupwalks_k34_whole_walks) rfl rfl (fun w h Y=>PySem.W.km_in_of Y) ?F
 case F=>
  intro w mg fa h KX Gh hmg
  refine' W.all_mk KX Gh hmg ?B  ?g27 ?nd (G.cz ?a0 ?l0 ?c0 ?k0) (G.cz ?a1 ?l1 ?c1 ?k1) (G.cz ?a2 ?l2 ?c2 ?k2) (G.cz ?a3 ?l3 ?c3 ?k3) (G.cz ?a4 ?l4 ?c4 ?k4) (G.cz ?a5 ?l5 ?c5 ?k5) (G.cz ?a6 ?l6 ?c6 ?k6) (G.cz ?a7 ?l7 ?c7 ?k7) (G.cz ?a8 ?l8 ?c8 ?k8) (G.cz ?a9 ?l9 ?c9 ?k9) (G.cz ?a10 ?l10 ?c10 ?k10) (G.cz ?a11 ?l11 ?c11 ?k11) (G.cz ?a12 ?l12 ?c12 ?k12) (G.cz ?a13 ?l13 ?c13 ?k13) (G.cz ?a14 ?l14 ?c14 ?k14) (G.cz ?a15 ?l15 ?c15 ?k15) (G.cz ?a16 ?l16 ?c16 ?k16) (G.cz ?a17 ?l17 ?c17 ?k17) (G.cz ?a18 ?l18 ?c18 ?k18) (G.cz ?a19 ?l19 ?c19 ?k19) (G.cz ?a20 ?l20 ?c20 ?k20) (G.cz ?a21 ?l21 ?c21 ?k21) (G.cz ?a22 ?l22 ?c22 ?k22) (G.cz ?a23 ?l23 ?c23 ?k23) (G.cz ?a24 ?l24 ?c24 ?k24) (G.cz ?a25 ?l25 ?c25 ?k25) (G.cz ?a26 ?l26 ?c26 ?k26) (G.EI ?a27 ?l27 ?c27 ?k27 ?e27 ?u27 ?v27 ?w27 ?x27 ?y27 ?z27 ?t27) (G.cz ?a28 ?l28 ?c28 ?k28) (G.cz ?a29 ?l29 ?c29 ?k29) (G.cz ?a30 ?l30 ?c30 ?k30) (G.cz ?a31 ?l31 ?c31 ?k31) (G.cz ?a32 ?l32 ?c32 ?k32) (G.cz ?a33 ?l33 ?c33 ?k33) (G.cz ?a34 ?l34 ?c34 ?k34) ?n27 ?r27
  case B=>
   intro x hx
   simp only [G.jt,aX,tz,or_false] at hx
   rcases hx with rfl | rfl | rfl | rfl | rfl | rfl | rfl | rfl | rfl | rfl | rfl | rfl | rfl | rfl | rfl | rfl | rfl | rfl | rfl | rfl
   all_goals k_is
  (case a0=>k_is);(case l0=>k_is);(case c0=>k_is);(case k0=>k_is)
  (case a1=>k_is);(case l1=>k_is);(case c1=>k_is);(case k1=>k_is)
  (case a2=>k_is);(case l2=>k_is);(case c2=>k_is);(case k2=>k_is)
  (case a3=>k_is);(case l3=>k_is);(case c3=>k_is);(case k3=>k_is)
  (case a4=>k_is);(case l4=>k_is);(case c4=>k_is);(case k4=>k_is)
  (case a5=>k_is);(case l5=>k_is);(case c5=>k_is);(case k5=>k_is)
  (case a6=>k_is);(case l6=>k_is);(case c6=>k_is);(case k6=>k_is)
  (case a7=>k_is);(case l7=>k_is);(case c7=>k_is);(case k7=>k_is)
  (case a8=>k_is);(case l8=>k_is);(case c8=>k_is);(case k8=>k_is)
  (case a9=>k_is);(case l9=>k_is);(case c9=>k_is);(case k9=>k_is)
  (case a10=>k_is);(case l10=>k_is);(case c10=>k_is);(case k10=>k_is)
  (case a11=>k_is);(case l11=>k_is);(case c11=>k_is);(case k11=>k_is)
  (case a12=>k_is);(case l12=>k_is);(case c12=>k_is);(case k12=>k_is)
  (case a13=>k_is);(case l13=>k_is);(case c13=>k_is);(case k13=>k_is)
  (case a14=>k_is);(case l14=>k_is);(case c14=>k_is);(case k14=>k_is)
  (case a15=>k_is);(case l15=>k_is);(case c15=>k_is);(case k15=>k_is)
  (case a16=>k_is);(case l16=>k_is);(case c16=>k_is);(case k16=>k_is)
  (case a17=>k_is);(case l17=>k_is);(case c17=>k_is);(case k17=>k_is)
  (case a18=>k_is);(case l18=>k_is);(case c18=>k_is);(case k18=>k_is)
  (case a19=>k_is);(case l19=>k_is);(case c19=>k_is);(case k19=>k_is)
  (case a20=>k_is);(case l20=>k_is);(case c20=>k_is);(case k20=>k_is)
  (case a21=>k_is);(case l21=>k_is);(case c21=>k_is);(case k21=>k_is)
  (case a22=>k_is);(case l22=>k_is);(case c22=>k_is);(case k22=>k_is)
  (case a23=>k_is);(case l23=>k_is);(case c23=>k_is);(case k23=>k_is)
  (case a24=>k_is);(case l24=>k_is);(case c24=>k_is);(case k24=>k_is)
  (case a25=>k_is);(case l25=>k_is);(case c25=>k_is);(case k25=>k_is)
  (case a26=>k_is);(case l26=>k_is);(case c26=>k_is);(case k26=>k_is)
  (case a27=>k_is);(case l27=>k_is);(case c27=>k_is);(case k27=>k_is)
  (case e27=>k_is);(case u27=>rfl);(case v27=>rfl);(case w27=>rfl);(case x27=>rfl);(case y27=>rfl);(case z27=>rfl);(case t27=>decide)
  (case a28=>k_is);(case l28=>k_is);(case c28=>k_is);(case k28=>k_is)
  (case a29=>k_is);(case l29=>k_is);(case c29=>k_is);(case k29=>k_is)
  (case a30=>k_is);(case l30=>k_is);(case c30=>k_is);(case k30=>k_is)
  (case a31=>k_is);(case l31=>k_is);(case c31=>k_is);(case k31=>k_is)
  (case a32=>k_is);(case l32=>k_is);(case c32=>k_is);(case k32=>k_is)
  (case a33=>k_is);(case l33=>k_is);(case c33=>k_is);(case k33=>k_is)
  (case a34=>k_is);(case l34=>k_is);(case c34=>k_is);(case k34=>k_is)
  (case g27=>decide)
  (case nd=>decide)
  (case n27=>kernel_rfl);(case r27=>rfl)
