import PyProof.Rows.All
import Wide.All
import OpenK.AllK
import Wide.FinOn
import Lean
import PyProof.EqAt
import PyProof.EqKinds
import PyProof.TupleCall
import KE.KSortTup
import PyProof.EnumStmt
import PyProof.EnumMake
import PyProof.EnumFor
import PyProof.ZipIter
import PyProof.SetKind
import PyProof.Rows.SetFrom
import PyProof.CompFree
import PyProof.CompMap
import PyProof.Cells
import PyProof.ListMulRoad
import PyProof.ConsumeWalk
import PyProof.TupleOfGen
import PyProof.ListRange
import PySem.Challenge.RW_groupwalks_k56_whole_two_steps
set_option bootstrap.genMatcherCode false
set_option Elab.async false
set_option linter.all false
set_option maxRecDepth 100000
set_option maxHeartbeats 0
set_option compiler.postponeCompile true
set_option bootstrap.genMatcherCode false
set_option genSizeOfSpec false
set_option relaxedAutoImplicit false
set_option compiler.extract_closed false
open Option renaming some → a_,none → b_
open Bool renaming true → c_,false → d_
open PySem renaming Addr → e_,Value → f_,Shared → g_
open scoped BitVec
set_option hygiene false
local macro_rules
|`(0#0)=>`(by lia)
|`(0#1)=>`(var_eq rfl)
|`(0#2)=>`(by decide)
|`(0#3)=>`(ae 0)
local macro_rules
|`(0#4)=>`(by simp)
|`(0#5)=>`(by assumption)
|`(0#6)=>`(s.heap.objs.size)
|`(0#7)=>`(S.length)
local macro_rules
|`(0#8)=>`(a_ (tab m T))
|`(0#9)=>`(by decide +kernel)
|`(1#0)=>`(mC (.int 0))
|`(1#1)=>`(us.length)
local macro_rules
|`(1#2)=>`(xs.length)
|`(1#3)=>`(model X.prog X.w)
|`(1#4)=>`(mC (.int 1))
|`(1#5)=>`(model prog w)
local macro_rules
|`(1#6)=>`(by omega)
|`(1#7)=>`(mC (.int 2))
|`(1#8)=>`(aa (ae 2) ah)
|`(1#9)=>`(au1._auto_1)
local macro_rules
|`(2#0)=>`(a_ (.ref S.length))
|`(2#1)=>`(vs.length)
|`(2#2)=>`(Pre.refl _)
|`(2#3)=>`(aa (ae 4) ah)
local macro_rules
|`(2#4)=>`(a.toList++b.toList)
|`(2#5)=>`(items.size)
|`(2#6)=>`(Rs.flatten.length)
|`(2#7)=>`(λ_ _ _ _ _ _=>us2 λ_ _=>rfl)
local macro_rules
|`(2#8)=>`(a_ (.tup (ax w)))
|`(2#9)=>`(aa 0#3 (aa (ae 1) ah))
|`(3#0)=>`([.int (a:Nat),.int (b:Nat)])
|`(3#1)=>`(goF T (dW m T a b p c))
local macro_rules
|`(3#2)=>`(s2.heap.objs.size)
|`(3#3)=>`((starEach (e::es) X.env=(d_,eval e X.env)::starEach es X.env))
|`(3#4)=>`(⟨μ,S,G,x,S1,hr,er,e1,λY0 vx H1 p1 k1 ZZ rx =>?_⟩)
|`(3#5)=>`(((backTo pos (starEach es X.env)).any (·.1)=d_))
local macro_rules
|`(3#6)=>`([(XJ,("left_sides":Str)++".<locals>."++"<lambda>"),(XO,("rings":Str)++".<locals>."++"<lambda>"),(XA,("named":Str)++".<locals>."++"<lambda>")])
set_option relaxedAutoImplicit true
theorem au1(h:0=0:=by rfl):0=0:=h
theorem au2(h:0=0:=by decide):0=0:=h
theorem au3(h:Nat->0=0:=by intro _;rfl):0=0:=h 0
theorem au4(h:0=0\/0=1:=by first |exact .inl rfl |exact .inr rfl |assumption):0=0:=rfl
noncomputable section
open Array renaming length_toList→bR,getElem?_eq_getElem→bW,getElem?_toList→cq,toList_append→cx,toList_push→dA,toList_setIfInBounds→B0,getElem?_eq_none→GA,toList_reverse→JP
open Bool renaming and_eq_true→aE,false_ne_true→dm,false_eq_true→eP,and_true→fW,not_true→E6
open Classical renaming propDecidable→ck,byContradiction→ij
open False renaming elim→ej
open ForInStep renaming yield→fB
open Int renaming toNat_natCast→cj,ofNat_lt→gU,natCast_emod→pk,emod_lt_of_pos→wU,natCast_ediv→Ad,toNat→Ae,emod_nonneg→Ca,natCast_add→Cb,eq_ofNat_of_zero_le→GH
open LT renaming lt→JT
open List renaming getElem?_eq_some_iff→ag,range→ao,length_map→ar,mem_map→aw,nodup_iff_pairwise_ne→ay,mem_range→aA,mem_cons_of_mem→aB,getElem?_eq_getElem→aC,mem_cons→aG,getElem?_set_ne→aN,getD_eq_getElem?_getD→aP,mem_append→aQ,map_congr_left→aR,replicate→aS,getElem?_append_left→aT,length_append→aU,getElem?_set_self→aV,pairwise_map→aW,length_range→aZ,mem_append_right→a8,getElem?_map→a9,range'→ba,mem_append_left→bf,getElem?_append_right→bj,map_map→bq,mem_filter→bw,mem_singleton→bx,append_assoc→bz,mem_of_getElem?→bK,map_append→bL,size_toArray→bO,getElem_mem→bP,length_cons→bU,mem_cons_self→bX,append_nil→cb,length_eq_zero_iff→cu,all_cons→cH,take_of_length_le→cR,length_take→c6,all_eq_true→dc,pairwise_iff_getElem→di,map_cons→dw,lookup_cons→dy,pairwise_append→dH,drop_of_length_le→dO,mem_reverse→dP,eq_nil_of_length_eq_zero→d5,nodup_cons→eg,nil_append→eh,findIdx?_eq_some_iff_getElem→eC,drop_left→eE,nodup_append→eF,pairwise_lt_range→eG,range_succ→eI,drop_eq_getElem_cons→eN,length→eV,mem_of_mem_take→eW,take_add_one→fg,cons_append→fq,take_left→fA,perm_ext_iff_of_nodup→fC,getElem?_eq_none→fH,extract_eq_take_drop→fO,mem_of_mem_drop→fR,length_pos_iff→gh,getElem_map→gn,all_nil→gJ,foldl_cons→gW,take_append_drop→hC,length_filter_le→hJ,length_drop→iJ,not_mem_nil→iK,length_set→jd,find?_cons→je,pairwise_cons→jh,lookup_append→ji,getElem?_replicate→jt,take_sublist→jL,ext_getElem?→jM,nodup_range→ke,any_eq_true→kf,mem_flatMap→kg,mem_iff_getElem→kI,drop_drop→lU,reverse_perm→mY,flatten_cons→mZ,any_cons→m7,idxOf_lt_length_iff→nh,ext_getElem→oS,filter_cons_of_pos→oX,filter_cons_of_neg→oY,of_mem_zip→qi,pairwise_reverse→qu,length_replicate→qx,drop_zero→rK,range_eq_range'→rM,map→rN,map_id→rO,filterMap_cons→tX,reverse_append→tZ,length_reverse→t7,getElem_of_mem→t8,replicate_succ→t9,getElem?_range→ua,filter_eq_self→ub,getElem?_take→uM,find?_eq_none→uQ,drop_sublist→wV,toArray→wW,reverse_cons→wZ,mem_range'_1→xb,zipIdx_cons→yK,drop_length→yN,dropLast_concat_getLast→Af,forIn_cons→Ai,length_nil→Aj,idxOf_cons→Ak,foldl→Cd,perm_cons→Ce,length_eraseIdx_of_lt→Cg,getElem?_eq_none_iff→DH,eraseIdx_cons_succ→Gy,pairwise_mergeSort→GB,range_succ_eq_map→GG,map_id'→GI,set_append_right→JR,dropLast_eq_take→JU,pairwise_flatMap→JV,perm_cons_erase→J2,lookup→J3,getElem_toArray→J4,map_eq_cons_iff→J5
open List.Pairwise renaming imp_of_mem→bM,nil→iO
open List.Perm renaming trans→JZ
open Nat renaming lt_of_lt_of_le→ai,le_refl→ak,le_of_lt→aI,ne_of_lt→aJ,le_trans→aK,lt_of_le_of_lt→aM,lt_trans→aX,lt_irrefl→bu,lt_of_le_of_ne→bH,zero_le→bS,lt_succ_self→bV,mod_eq_of_lt→cf,add_pos_left→cg,lt_succ_of_lt→cU,le_succ_of_le→dD,ne_of_gt→dQ,le_of_not_lt→dS,le_of_lt_succ→d6,add_sub_cancel_left→eB,pos_of_ne_zero→eS,add_assoc→eU,le_add_right→fw,lt_or_eq_of_le→fG,le_succ→fS,zero_add→fT,mul_le_mul_right→iG,div_eq_of_lt→iQ,mod_lt→jw,lt_of_succ_lt_succ→jT,min_eq_left→lu,mul_comm→lT,sub_add_cancel→mQ,lt_trichotomy→m8,add_mod_right→nc,sub_sub_right→ng,lt_succ_iff_lt_or_eq→ot,sub_add_comm→pj,succ_mul→qo,mod_self→qp,sub_le→qr,mod_add_mod→qy,pow_le_pow_right→tu,mul_le_mul_left→uk,add_comm→xF,zero_lt_of_lt→xG,max_eq_right→Ab,le_antisymm→BY,max_eq_left→BZ,div_add_mod→B9,lt_of_add_lt_add_left→E5,exists_eq_add_of_le→GF,lt_or_ge→JO,sub_self→JQ
open Ne renaming symm→eD
open Option renaming bind_some→aO,map_eq_some_iff→dh,map_some→dr,isSome_iff_exists→iR,isSome_map→uO
open Option.some renaming inj→eR,injEq→kY
open Prod.mk renaming injEq→B4
open PyProof.Rows renaming callWith_type1→cM,slot_tuple_getitem→fF,recsOf→hU,boot_sorted→kX,boot_list→lV,callWith_builtin1→rH,boot_tuple→xE
open PyProof.Rows.F renaming plain_set_update_loop→gZ,entry_set_update_loop→m9
open PyProof.Rows.IsTup renaming new→rJ
open PyProof.Rows.SortSt renaming mk'→Ag
open PySem renaming wpAny_bind→ab,wpAny_pure→aj,wpAny→aD,wpAny_call_entry→bG,wpAny_newObj_type→bJ,wpAny_callSpecial?_slot→bN,mem_of_lookup→cw,wpAny_setField_rec→cZ,wpAny_field→dg,wpAny_mono→dv,codeAny_builtin→dB,wpAny_holding→dC,wpAny_of_eq→dR,wpAny_truthy_bool→eK,wpAny_Call_Name_kw→eZ,wpAny_rule→fb,wpAny_seqItems→fi,wpAny_loadPart'→fo,wpAny_attempt→fJ,wpAny_isInstance→gR,wpAny_passesOwn→ir,Addr→iu,codeAny_mono→jb,wpAny_typeOf→jc,wpAny_setEntries_of→jx,wpAny_pyIter_tuple→jS,wpAny_setState_of→kG,wpAny_runValue→kH,wpAny_askSetting→lx,wpAny_updateSeq→mM,wpAny_specialOf→mN,wpAny_setField→ow,wpAny_pyIter_list→pL,codeAny→pM,wpAny_newList→qj,wpAny_execs_nil→tY,wpAny_updateSeq_pair→wN,wpAny_fieldsOf→wO,wpAny_handled→yL,wpAny_onRaise→yM,wpAny_load→z9,wpAny_assign_Name→BX,wpAny_pyIter_slot→B5,wpAny_throw→E7,codeAny_of_tree→Gz,wpAny_newTuple→JS
open PySem.Around renaming under_plainId→fP,frames_deeper→GD
open PySem.AutoSeq1 renaming idx_int→JY
open PySem.Builtin.List renaming listTooLong→ic,listSameRef→ie,listExtendWith→jZ
open PySem.Builtin.Range renaming rangeSize→iA,small→ox
open PySem.Builtin.Slice renaming slicePlaces→kE,sliceAdjust→uL
open PySem.Builtin.SmallTypes renaming nextOf→en,newClass→ql
open PySem.Builtin.Tuple renaming tupleItemsOf→ui,tupleTooMany→uj,tupleExact→wR
open PySem.Calls renaming call_function_entry→iM,spliced_cons→lQ,callWith_builtin→pf,evalArgs_plain→rE,spliced_nil→wM,Name_function_global→BW
open PySem.Data renaming seq→wY
open PySem.F renaming slot_tuple_iterator_next→iP,plainAttrs_list→i9,plain_list_iadd→j9,entry_proto_collect→kJ,args_tuple_add_2→mL,entry_tuple_add→mX,slot_tuple_add→oo,entry_list_iadd→oV,slot_zip_next→rL,args_tuple_mul_2→xD,entry_tuple_mul→Ac,slot_tuple_mul→B7,slot_tuple_index→B8,args_tuple_iterator_next_1→DG,entry_tuple_iterator_next→E8,plain_set_new→E9,slot_set_iter→Fb,slot_list_pop→Fc,type_list_pop→Fd
open PySem.Heap renaming get?_push_of_some→af,get?_push_size→av,lt_size→az,size_push→bE,get?_update_other→cQ,get?_update_self→cY,SameBut→eT,ExtBut→jv,get?_push_ne→m6,IsTuple→wX
open PySem.Heap.SameBut renaming update→fK
open PySem.IsL renaming update→JN
open PySem.NameKind renaming free→br,cell→eO
open PySem.Obj renaming mapSeq→cN,data_mapFields→gS,isFreed_of_fields→rF
open PySem.Paired renaming length→Cc
open PySem.PassesOwn renaming never→wQ
open PySem.PyData renaming eqvAll→dj,eqv→ff,int→fQ,canLay0→jG,canLayAll0→mO,eqv→oU,depthAll→ph,depth→uP
open PySem.SeqAt.EqAt renaming int_str→E3,str_int→E4
open PySem.SetTable renaming below→bg,grown→hG,has→Cf
open PySem.SetTable.below renaming go→iL
open PySem.SetTable.probe renaming go→B6
open PySem.Shared renaming heap→qw,TypeIs→tq
open PySem.Str renaming ofString→fU
open PySem.Value renaming ref→bZ,none→cJ,type→ja,int→rG,isInt_shape→wL
open PySem.W renaming Frag→aq,keepIn→dZ,kia_one→d8,fnOf→d9,nsIn→fL,cellsFrom_some→jr,codeIn→ju,mg_of→mP,OpenLaw→oW,callWith_K→tm,instObj→xC,lookIn→Aa,hideAll_size→Gw,hideAll_none→Gx,hideAll_get→GC,of_hideAll→JM,kitx_list→JW,kitx_dict→JX
open String renaming splitOnAux→uN,splitOn→Ah
open Sum renaming inl→jR,inr→JL
open True renaming intro→gI
namespace _L
open PySem PySem.Spec PyProof.Rows
abbrev Key:=Sum Int Str
def vL:Key->f_->Bool
 |.inl k,v=>Value.isInt k v
 |.inr x,v=>Value.isStrOf x v
def R8(w:World):Key->Int
 |.inl k=>hashInt k
 |.inr x=>hashStr w x
theorem fe:∀{k:Key}{v:f_},vL k v=c_->(∃i t,k=jR i/\v=rG i t)\/(∃x t,k=JL x/\v=Value.str x t)
 | .inl i,v,h=>by
   obtain⟨t,e⟩:=wL h;exact .inl ⟨i,t,rfl,e⟩
 | .inr x,v,h=>by
   obtain⟨t,e⟩:=Value.isStrOf_shape h;exact .inr ⟨x,t,rfl,e⟩
theorem FW(i:Int)(t:Tok):vL (.inl i) (.int i t)=c_:=by simp[vL,Value.isInt]
theorem Gi(x:Str)(t:Tok):vL (.inr x) (.str x t)=c_:=by simp[vL,Value.isStrOf]
theorem NN(a b:Int):decide ((jR a:Key)=jR b)=(a==b):=by
 grind
theorem MW(a b:Str):decide ((JL a:Key)=JL b)=decide (a=b):=by
 grind
theorem Oo(a:Int)(b:Str):decide ((jR a:Key)=JL b)=d_:=decide_eq_false (λq=>nomatch q)
theorem Nd(a:Str)(b:Int):decide ((JL a:Key)=jR b)=d_:=decide_eq_false (λq=>nomatch q)
def fN(prog:Program)(w:World):PySem.KeyKind prog w Key where
 is:=vL
 hash:=R8 w
 inj:=λv a b ha hb=>by
  rcases fe ha with⟨i,t,rfl,rfl⟩|⟨x,t,rfl,rfl⟩
  .rcases fe hb with⟨j,u,rfl,e⟩|⟨y,u,rfl,e⟩
   .injection e with e1 _;rw[e1]
   .exact nomatch e
  .rcases fe hb with⟨j,u,rfl,e⟩|⟨y,u,rfl,e⟩
   .exact nomatch e
   .injection e with e1 _;rw[e1]
 byValue:=λk v h=>by
  rcases fe h with⟨i,t,rfl,rfl⟩|⟨x,t,rfl,rfl⟩<;>rfl
 pyHash:=λhv h=>by
  rcases fe hv with⟨i,t,rfl,rfl⟩|⟨x,t,rfl,rfl⟩
  .exact wpAny_pyHash_int h
  .exact wpAny_pyHash_str h
 eqBool:=λhu hv h=>by
  rcases fe hu with⟨i,t,rfl,rfl⟩|⟨x,t,rfl,rfl⟩
  .rcases fe hv with⟨j,u,rfl,rfl⟩|⟨y,u,rfl,rfl⟩
   .rw[NN]at h;exact wpAny_eqBool_int h
   .rw[Oo]at h;exact E3 i t y u _ _ _ _ h
  .rcases fe hv with⟨j,u,rfl,rfl⟩|⟨y,u,rfl,rfl⟩
   .rw[Nd]at h;exact E4 x t j u _ _ _ _ h
   .rw[MW]at h;exact wpAny_eqBool_str h
 «strs»:=λk x t v h=>by
  rcases fe h with⟨i,u,rfl,e⟩|⟨y,u,rfl,e⟩
  .exact nomatch e
  .injection e with e1 _
   subst e1;cases v<;>rfl
inductive V where
 |non |bl (b:Bool) |int (i:Int) |str (x:Str) |byt (b:Array UInt8) |flt (b:UInt64) |ref (a:e_) |ty (n:String)
def RelV:V->f_->Prop
 |.non,u=>u=cJ
 |.bl b,u=>u=Value.bool b
 |.int i,u=>∃t,u=rG i t
 |.str x,u=>∃t,u=Value.str x t
 |.byt b,u=>∃t,u=Value.bytes b t
 |.flt b,u=>∃t,u=Value.float b t
 |.ref a,u=>u=bZ a
 |.ty n,u=>u=ja n
abbrev cX:List V->List f_->Prop:=Paired RelV
variable{xs:List V}{us:List f_}
theorem cX.length(r:cX xs us):1#2=1#1:=Cc r
theorem cX.get:∀{xs:List V}{us:List f_}{i:Nat}{x:V},cX xs us->xs[i]?=a_ x->∃u,us[i]?=a_ u/\RelV x u
 |_,_,_,_,.nil,e=>by simp at e
 |_,_,0,_,.cons r _,e=>by simp_all
 | _,_,i+1,x,.cons _ t,e=>by
   obtain⟨u,h1,h2⟩:=cX.get t (by simpa using e)
   simp_all
theorem cX.set{x:V}{u:f_}(r:RelV x u):∀{xs:List V}{us:List f_} (i:Nat),cX xs us->cX (xs.set i x) (us.set i u)
 |_,_,_,.nil=>.nil
 |_,_,0,.cons _ t=>.cons r t
 |_,_,i+1,.cons q t=>.cons q (cX.set r i t)
theorem cX.append:∀{xs ys:List V}{us ws:List f_},cX xs us->cX ys ws->cX (xs++ys) (us++ws)
 |_,_,_,_,.nil,s=>s
 |_,_,_,_,.cons r t,s=>.cons r (cX.append t s)
theorem cX.take:∀{xs:List V}{us:List f_} (n:Nat),cX xs us->cX (xs.take n) (us.take n)
 |_,_,0,_=>.nil
 |_,_,_+1,.nil=>.nil
 |_,_,n+1,.cons r t=>.cons r (cX.take n t)
theorem cX.drop:∀{xs:List V}{us:List f_} (n:Nat),cX xs us->cX (xs.drop n) (us.drop n)
 |_,_,0,r=>r
 |_,_,_+1,.nil=>.nil
 |_,_,n+1,.cons _ t=>cX.drop n t
def wz:Option V->Option f_->Prop
 |some v,a_ u=>RelV v u
 |none,b_=>True
 |_,_=>False
def KV{κ:Type}:List (κ×V)->List (κ×f_)->Prop:=Paired λ(p:κ×V) (q:κ×f_)=>p.1=q.1/\RelV p.2 q.2
def kV:Key->V
 |.inl i=>.int i
 |.inr x=>.str x
inductive HO where
 |lst (xs:List V)
 |tup (xs:List V)
 |dK (kvs:List (Key×V)) |dT (kvs:List (List Key×V))
 |set (S:Int->Bool) (n:Nat)
 |ins (C dx:e_) (fs:List (Str×V))
 |own (x:e_)
 |xd (fs:List (Str×V))
 |met (f x:e_)
 |rng (lo hi:Int)
 |frz (o:Obj) (u:HO)
 |tbl (ps:Array f_)
 |ext (φ:Heap->Prop)
abbrev Hp:=e_->Option HO
def upd(H:Hp)(a:e_)(o:HO):Hp:=λb=>if b=a then a_ o else H b
variable{H:Hp}{a:e_}{o:HO}
theorem du:upd H a o a=a_ o:=by unfold upd;rw[if_pos rfl]
variable{b:e_}
theorem bB(h:b≠a):upd H a o b=H b:=by unfold upd;rw[if_neg h]
theorem tJ{u:HO}(h:H a=a_ o)(h':H b=a_ u)(d:o≠u):a≠b:=by
 grind
theorem bF(h:H a=a_ o)(h':H b=b_):a≠b:=by
 grind
section
variable (P:Program) (w:World)
def ip(H:Hp)(h:Heap)(a:e_):HO->Prop
 |.lst xs=>1#2<=sizeLine /\ ∃ (ZY:List f_) (n:Nat),cX xs ZY/\h.get? a=a_ { cls := .type "list",data := .seq ZY.toArray n }
 |.tup xs=>1#2<=sizeLine /\ ∃ZY:List f_,cX xs ZY/\IsTup h a ZY.toArray /\ ∃o,h.get? a=a_ o/\o.dict=b_
 |.dK kvs=>kvs.length<=sizeLine/\(a==sysModules)=d_ /\ ∃vs,KV kvs vs/\h.DictOf (fN P w) a vs
 | .dT kvs=>kvs.length<=sizeLine/\(a==sysModules)=d_ /\ ∃xs:List (List Key×e_×f_),
   Paired (λ(p:List Key×V) (q:List Key×e_×f_)=>p.1=q.1/\H q.2.1=a_ (.tup (p.1.map kV))/\RelV p.2 q.2.2) kvs xs /\
   ∃o es ep,h.get? a=a_ o/\o.ExactDict/\o.data=.dict es ep/\es.toList=xs.map (entryOfKey (tupleKind (fN P w)))/\(xs.map (·.1)).Nodup
 |.set S n=>h.SetOf (intKind P w) a S n
 | .ins C dx fs=>H dx=a_ (.own a)/\fs.length<=1000/\dx≠a/\h.get? a=a_ (xC C dx) /\
   ∃mA,h.Ns1 dx mA/\(∀f,wz (fs.lookup f) (mA f))/\PySem.Within mA (fs.map (·.1))
 |.own _=>∃o,h.get? a=a_ o
 |.xd fs=>∃mA,h.Ns1 a mA /\ ∀f,wz (fs.lookup f) (mA f)
 |.rng lo hi=>∃ t u v,h.get? a=a_ { cls := .type "range",data := .fields #[.int lo t,.int hi u,.int 1 v] }
 |.frz o u=>h.get? a=a_ o/\ip H h a u
 |.tbl ps=>h.get? a=a_ { cls:= .none,data:= .fields ps }
 |.met f x=>h.get? a=a_ (PySem.W.methodObj (.ref f) (.ref x))
 |.ext φ=>φ h/\(∃o,h.get? a=a_ o) /\ ∀h1 h2:Heap,φ h1->(∀o,h1.get? a=a_ o->h2.get? a=a_ o)->φ h2
def HOk(H:Hp)(h:Heap):Prop:= ∀a o,H a=a_ o->ip P w H h a o
end
section
variable {P:Program}{w:World}{H H':Hp}{h h':Heap}{a:e_}{o:HO}
theorem ip.lt(x:ip P w H h a o):a<h.objs.size:=by
 cases o with
 |lst xs=>obtain⟨_,_,_,_,e⟩:=x;exact az e
 |tup xs=>obtain⟨_,_,_,p⟩:=x;exact p.1.lt
 |dK kvs=>obtain⟨_,_,_,_,o,_,_,e,_⟩:=x;exact az e
 |dT kvs=>obtain⟨_,_,_,_,o,_,_,e,_⟩:=x;exact az e
 |set S n=>obtain⟨o,_,_,_,e,_⟩:=x;exact az e
 |ins C dx fs=>obtain⟨_,_,_,e,_⟩:=x;exact az e
 |own y=>obtain⟨_,e⟩:=x;exact az e
 |xd fs=>obtain⟨_,⟨_,_,_,e,_⟩,_⟩:=x;exact az e
 |rng lo hi=>obtain⟨_,_,_,e⟩:=x;exact az e
 |frz ob u=>obtain⟨e,_⟩:=x;exact az e
 |tbl ps=>exact az (x)
 |met f y=>exact az (x)
 |ext φ=>obtain⟨_,⟨_,e⟩,_⟩:=x;exact az e
theorem Paired.mapP{α β:Type}{F C':α->β->Prop}:∀{l₁:List α}{l₂:List β},Paired F l₁ l₂->(∀a b,F a b->C' a b)->Paired C' l₁ l₂:=by
 intro l m h f
 induction h with
 |nil=>exact .nil
 |cons r t ih=>exact .cons (f _ _ r) ih
theorem ip.stay(x:ip P w H h a o)(k:∀b u,(b=a\/H b=a_ (.own a))->h.get? b=a_ u->h'.get? b=a_ u)
  (ho:∀b,H b=a_ (.own a)->H' b=a_ (.own a)) (ht:∀b xs,H b=a_ (.tup xs)->H' b=a_ (.tup xs)):ip P w H' h' a o:=by
 induction o with
 |lst xs=>obtain⟨z,ZY,n,r,e⟩:=x;exact⟨z,_,n,r,k _ _ (.inl rfl) e⟩
 |tup xs=>obtain⟨z,ZY,r,⟨ob,e,c⟩,o2,e2,c2⟩:=x;exact⟨z,_,r,⟨ob,k _ _ (.inl rfl) e,c⟩,o2,k _ _ (.inl rfl) e2,c2⟩
 |dK kvs=>obtain⟨z,y,vs,r,ob,es,ep,e,c⟩:=x;exact⟨z,y,vs,r,ob,es,ep,k _ _ (.inl rfl) e,c⟩
 | dT kvs=>
   obtain⟨z,y,xs,r,ob,es,ep,e,c⟩:=x;exact⟨z,y,xs,Paired.mapP r λp q z=>⟨z.1,ht _ _ z.2.1,z.2.2⟩,ob,es,ep,k _ _ (.inl rfl) e,c⟩
 |set S n=>obtain⟨ob,es,ep,t,e,c⟩:=x;exact⟨ob,es,ep,t,k _ _ (.inl rfl) e,c⟩
 | ins C dx fs=>
   obtain⟨d,z,ne,e,mA,⟨od,es,ep,e2,c⟩,r⟩:=x;exact⟨ho _ d,z,ne,k _ _ (.inl rfl) e,mA,⟨od,es,ep,k _ _ (.inr d) e2,c⟩,r⟩
 |own y=>obtain⟨ob,e⟩:=x;exact⟨ob,k _ _ (.inl rfl) e⟩
 |xd fs=>obtain⟨mA,⟨od,es,ep,e,c⟩,r⟩:=x;exact⟨mA,⟨od,es,ep,k _ _ (.inl rfl) e,c⟩,r⟩
 |rng lo hi=>obtain⟨t,u,v,e⟩:=x;exact⟨t,u,v,k _ _ (.inl rfl) e⟩
 |frz ob u ih=>obtain⟨e,q⟩:=x;exact⟨k _ _ (.inl rfl) e,ih q⟩
 | tbl ps=>
   have e:=x;exact k a _ (.inl rfl) e
 | met f y=>
   have e:=x;exact k a _ (.inl rfl) e
 |ext φ=>obtain⟨p,⟨o,e⟩,st⟩:=x;exact⟨st _ _ p λo q=>k _ _ (.inl rfl) q,⟨o,k _ _ (.inl rfl) e⟩,st⟩
theorem HOk.lt(x:HOk P w H h)(e:H a=a_ o):a<h.objs.size:=(x a o e).lt
theorem HOk.fresh(x:HOk P w H h)(e:h.objs.size<=a):H a=b_:=by
 cases q:H a with
 |none=>rfl
 |some u=>exact absurd (ai (x.lt q) e) (bu _)
theorem HOk.kept(x:HOk P w H h)(k:∀b u,h.get? b=a_ u->h'.get? b=a_ u):HOk P w H h':=λa o e=>
 (x a o e).stay (λb u _ q=>k b u q) (λ_ q=>q) λ_ _ q=>q
theorem HOk.laid(x:HOk P w H h)(k:∀b u,h.get? b=a_ u->h'.get? b=a_ u)(hp:h.objs.size<=a)(new:ip P w (upd H a o) h' a o):HOk P w (upd H a o) h':=λb u e=>by
 have hn:=x.fresh hp;by_cases hb:b=a
 .subst hb;rw[du]at e;grind
 .rw[bB hb]at e
  exact(x b u e).stay (λc v _ q=>k c v q) (λc q=>by rw[bB (bF q hn)];omega) λc xs q=>by rw[bB (bF q hn)];omega
end
def Rd(H:Hp)(a:e_)(u:HO):Prop:=H a=a_ u \/ ∃o,H a=a_ (.frz o u)
variable{P:Program}{w:World}{h:Heap}
theorem Rd.ok{u:HO}(r:Rd H a u)(x:HOk P w H h):ip P w H h a u:=by
 rcases r with r|⟨o,r⟩
 .exact x a u r
 .obtain⟨_,q⟩:=x a _ r
  omega
def Mut:Option HO->Prop
 |some (.lst _)=>True
 |some (.dK _)=>True
 |some (.dT _)=>True
 |some (.set _ _)=>True
 |some (.ins _ _ _)=>True
 |some (.ext _)=>True
 |_=>False
section
variable {P:Program}{w:World}{H:Hp}{h h':Heap}{x e:e_}{o':HO}
theorem HOk.write(ok:HOk P w H h)(mu:Mut (H x))(he:e=x\/H e=a_ (.own x))(k:∀b u,b≠e->h.get? b=a_ u->h'.get? b=a_ u)(VC:∃u,h'.get? e=a_ u)
  (new:ip P w (upd H x o') h' x o'):HOk P w (upd H x o') h':=λb u q=>by
 have nown:∀c y,H c=a_ (.own y)->c≠x:=λc y r z=>by subst z;rw[r]at mu;exact mu
 by_cases hb:b=x
 .subst hb;rw[du]at q;grind
 .rw[bB hb]at q
  by_cases hbe:b=e
  .have q':H b=a_ (.own x):=by
    grind
   rw[q]at q';cases q';obtain⟨v,hv⟩:=VC;exact⟨v,by rw[hbe];omega⟩
  .refine(ok b u q).stay (λc v hc r=>k c v ?_ r) (λc r=>by rw[bB (nown c b r)];omega) λc xs r=>by rw[bB ((λc xs r z=>by subst z;rw[r]at mu;exact mu) c xs r)];omega
   grind
end
structure Un(fs ex:List e_)(H H':Hp)(h h':Heap):Prop where
 keep:∀b o,h.get? b=a_ o->H b=b_->b∉fs->b∉ex->h'.get? b=a_ o
 slot:∀b o,h.get? b=a_ o->H b=b_->b∈fs->b∉ex->∃sl,h'.get? b=a_ { o with slots:=sl }
 free:∀b o,h.get? b=a_ o->H b=b_->b∉ex->H' b=b_
 there:∀b o,h.get? b=a_ o->b∉ex->∃o',h'.get? b=a_ o'
 tups:∀b xs,H b=a_ (.tup xs)->H' b=a_ (.tup xs)
 frzs:∀b o u,H b=a_ (.frz o u)->H' b=a_ (.frz o u)
 tbls:∀b ps,H b=a_ (.tbl ps)->∃more,H' b=a_ (.tbl (ps++more))
section
variable {fs fs' ex ex':List e_}{H H1 H2:Hp}{h h1 h2 h':Heap}{a x e:e_}{o:HO}
theorem Un.any(u:Un fs ex H H1 h h1){ob:Obj}(q:h.get? b=a_ ob)(n:H b=b_)(hx:b∉ex):∃sl,h1.get? b=a_ { ob with slots:=sl }:=by
 by_cases hb:b∈fs
 .exact u.slot b ob q n hb hx
 .exact⟨_,u.keep b ob q n hb hx⟩
theorem Un.kept(k:∀b u,h.get? b=a_ u->h'.get? b=a_ u):Un fs ex H H h h':=
 ⟨λb ob q _ _ _=>k b ob q,λb ob q _ _ _=>⟨_,k b ob q⟩,λ_ _ _ n _=>n,λb ob q _=>⟨ob,k b ob q⟩,λ_ _ q=>q,λ_ _ _ q=>q,λ_ ps q=>⟨#[],by rw[q];simp⟩⟩
theorem Un.refl:Un fs ex H H h h:=Un.kept λ_ _ q=>q
theorem Un.laid(k:∀b u,h.get? b=a_ u->h'.get? b=a_ u)(hp:h.objs.size<=a)(hn:H a=b_):Un fs ex H (upd H a o) h h' where
 keep:=λb u q _ _ _=>k b u q
 slot:=λb u q _ _ _=>⟨_,k b u q⟩
 free:=λb u q n _=>by rw[bB (aJ (ai (az q) hp))];omega
 there:=λb u q _=>⟨u,k b u q⟩
 tups:=λb xs q=>by rw[bB (bF q hn)];omega
 frzs:=λb u xs q=>by rw[bB (bF q hn)];omega
 tbls:=λb ps q=>⟨#[],by rw[bB (bF q hn),q];simp⟩
theorem Un.write(mu:Mut (H x))(he:e=x\/H e=a_ (.own x))(k:∀b u,b≠e->h.get? b=a_ u->h'.get? b=a_ u)(VC:∃u,h'.get? e=a_ u):Un fs ex H (upd H x o) h h':=by
 have hx:∀b,H b=b_->b≠x:=λb n z=>by subst z;rw[n]at mu;exact mu
 have hb:∀b,H b=b_->b≠e:=λb n z=>by
  grind
 have hm:∀b u,H b=a_ u->¬Mut (a_ u)->b≠x:=λb u q nm z=>by grind
 refine⟨λb u q n _ _=>k b u (hb b n) q,λb u q n _ _=>⟨_,k b u (hb b n) q⟩,λb u q n _=>by rw[bB (hx b n)];omega,λb u q _ =>?_,
  λb xs q=>by rw[bB (hm b _ q λz=>z)];omega,λb u xs q=>by rw[bB (hm b _ q λz=>z)];omega,λb ps q=>⟨#[],by rw[bB (hm b _ q λz=>z),q];simp⟩⟩
 grind
end
def trk(h:Heap)(H:Hp):List e_:=(ao h.objs.size).filter λa=>(H a).isSome
def AN(h:Heap)(H:Hp):Heap:=PySem.W.hideAll h (trk h H)
theorem xX(h:Heap)(H:Hp):(AN h H).objs.size=h.objs.size:=Gw _ _
variable{o:Obj}
theorem rf(e:h.get? b=a_ o)(n:H b=b_):(AN h H).get? b=a_ o:=
 GC _ e λhm=>by
  have q:=(bw.mp hm).2
  grind
theorem DI(e:(AN h H).get? b=a_ o):h.get? b=a_ o/\H b=b_:=by
 have e':=JM _ e;refine⟨e',?_⟩;cases q:H b with
 |none=>rfl
 | some x=>
   have z:(AN h H).get? b=b_:=Gx _ (bw.mpr ⟨aA.mpr (az e'),by simp[q]⟩)
   grind
def Lc(g h:Heap)(L:e_):List (e_×Obj):=(ao h.objs.size).filterMap λa=>if a=L\/(g.get? a).isSome=c_ then b_ else(h.get? a).map λo=>(a,o)
def rest(g h:Heap)(L d:e_):List (e_×Obj):=(Lc g h L).filter λp=>decide (p.1≠d)
structure Mod(K:aq)(mg:Str->Option f_)(base:Heap):Prop where
 kin:K.In base
 glob:base.Ns mainGlobals mg
 blt :∃ mb,base.Ns builtinsNs mb /\ ∀ x:Str,x≠"__name__"->mb x=bootBuiltins x
 nolimit:base.NoLimit
set_option genInjectivity false in
structure Cx where
 prog:Program
 w:World
 K:aq
 mg:Str->Option f_
 base:Heap
 A:Around
 N:List Str
 s₀:g_
 H₀:Hp
 env:Env
 outer:List Env
 stack:List Env
 ex:List e_
 fn:Str->Bool
 calm:Bool
 pn:List (e_×Obj)
 xe:f_->g_->Prop
def frs(l:List Env):List e_:=l.filterMap (·.frame)
abbrev Cx.fs(X:Cx):List e_:=frs X.outer
def Vis(sc:Scope)(x:Str):Prop:=sc.names.lookup x=a_ .local\/sc.names.lookup x=a_ .cell\/sc.names.lookup x=a_ .free
def Loc(sc:Scope)(x:Str):Prop:=sc.names.lookup x=a_ .local\/sc.names.lookup x=a_ .cell
def Look(env:Env)(h:Heap)(m:Str->Option f_)(x:Str)(u:f_):Prop:=
 (env.kindOf x=a_ .local/\m x=a_ u)\/((env.kindOf x=a_ .cell\/env.kindOf x=a_ .free) /\ ∃c,env.cells.lookup x=a_ c/\h.IsCell c (a_ u))
structure Cx.Ok(X:Cx):Prop where
 mod:Mod X.K X.mg X.base
 kind:X.env.scope.kind=.function
 glob:X.env.globals=mainGlobals
 blt:X.env.builtins=builtinsNs
 above:X.s₀.heap.objs.size<=X.env.locals
 inj:∀x y c,X.env.cells.lookup x=a_ c->X.env.cells.lookup y=a_ c->x=y
 has:∀x,(X.env.kindOf x=a_ .cell\/X.env.kindOf x=a_ .free)->∃c,X.env.cells.lookup x=a_ c
 cab:∀x c,X.fn x=c_->X.env.cells.lookup x=a_ c->X.s₀.heap.objs.size<=c
 hd:X.calm=c_->X.A.handled=b_
 frames:X.A.frames=a_ X.stack
 stk:X.stack=X.outer\/(X.stack=X.env::X.outer/\X.env.frame=a_ X.env.locals)
 exf:∀b∈X.ex,b≠X.env.locals /\ ∀x c,X.env.cells.lookup x=a_ c->c≠b
 bs:∀b o,X.base.get? b=a_ o->X.s₀.heap.get? b=a_ o/\X.H₀ b=b_
 bsz:X.base.objs.size<=X.s₀.heap.objs.size
 noex:∀b o,X.base.get? b=a_ o->b∉X.ex
 exfs:∀b∈X.ex,b∉X.fs
 funs:X.s₀.heap.FunFrames X.base X.outer
 frf:∀b∈X.fs,X.H₀ b=b_
structure Inv(X:Cx)(pins:List (e_×Obj))(σ:List (Option V))(H:Hp)(s:g_):Prop where
 ok:X.Ok
 os:s.os=X.s₀.os
 bare:AllBare s.gens
 base:Un X.fs X.ex X.H₀ H X.s₀.heap s.heap
 loc:∃m,s.heap.Ns X.env.locals m /\ ∀(i:Nat) (x:Str) (v:V),X.N[i]?=a_ x->σ[i]?=a_ (a_ v)->Vis X.env.scope x->∃u,RelV v u/\Look X.env s.heap m x u
 cell:∀x c,X.env.cells.lookup x=a_ c->∃v,s.heap.IsCell c v
 free:H X.env.locals=b_
 freeC:∀x c,X.env.cells.lookup x=a_ c->H c=b_
 pin:∀p∈X.pn++pins,s.heap.get? p.1=a_ p.2/\H p.1=b_/\p.1≠X.env.locals/\p.1∉X.fs /\ ∀v,p.2.data≠.cell v
 hok:HOk X.prog X.w H s.heap
 len:σ.length=X.N.length
section
variable {X:Cx}{pins:List (e_×Obj)}{σ:List (Option V)}{H H':Hp}{s:g_}{h':Heap}
theorem Cx.Ok.nofr(ok:X.Ok)(e:X.base.get? b=a_ o):b∉X.fs:=λhb=>by
 have:=(ok.funs.mem hb).1
 grind
theorem Inv.bs(I:Inv X pins σ H s):∀b o,X.base.get? b=a_ o->s.heap.get? b=a_ o/\H b=b_:=λb o e=>
 ⟨I.base.keep b o (I.ok.bs b o e).1 (I.ok.bs b o e).2 (I.ok.nofr e) (I.ok.noex b o e),I.base.free b o (I.ok.bs b o e).1 (I.ok.bs b o e).2 (I.ok.noex b o e)⟩
theorem Inv.bk(I:Inv X pins σ H s):∀b o,X.base.get? b=a_ o->s.heap.get? b=a_ o:=λb o e=>(I.bs b o e).1
theorem Inv.mod(I:Inv X pins σ H s):Mod X.K X.mg X.base:=I.ok.mod
theorem Inv.kIn(I:Inv X pins σ H s):X.K.In s.heap:=I.ok.mod.kin.keeps I.bk
theorem Inv.lt(I:Inv X pins σ H s):X.env.locals<0#6:=let ⟨_,hn,_⟩:=I.loc;hn.lt
theorem Inv.sz(I:Inv X pins σ H s):X.s₀.heap.objs.size<=0#6:=aK I.ok.above (aI I.lt)
theorem Inv.nofs(I:Inv X pins σ H s)(h:0#6<=a):a∉X.fs:=λhb=>by
 obtain⟨_,o,ho,_⟩:=I.ok.funs.mem hb;exact absurd (ai (az ho) (aK I.sz h)) (bu _)
theorem Inv.cne(I:Inv X pins σ H s):∀x c,X.env.cells.lookup x=a_ c->c≠X.env.locals:=λx c e z=>by
 obtain⟨v,o,ho,hd⟩:=I.cell x c e;obtain⟨m,⟨o',es,ep,YG,XZ,_⟩,_⟩:=I.loc
 grind
theorem Inv.funs(I:Inv X pins σ H s):s.heap.FunFrames X.base X.outer:=by
 have all:∀(l:List _),(∀b∈frs l,b∈X.fs)->X.s₀.heap.FunFrames X.base l->s.heap.FunFrames X.base l:=by
  intro l
  induction l with
  |nil=>intro _ _;trivial
  | cons env r ih=>
    intro hs hl;obtain⟨hk,⟨L,o,hf,hn,ho,hd⟩,hr⟩:=hl;have hL:=hs L (by unfold frs;simp_all);obtain⟨sl,e⟩:=I.base.slot L o ho (I.ok.frf L hL) hL λz=>I.ok.exfs L z hL;exact⟨hk,⟨L,_,hf,hn,e,hd⟩,ih (λb hb=>hs b (by unfold frs;rw[tX,hf];exact aB _ hb)) hr⟩
 exact all _ (λ_ hb=>hb) I.ok.funs
theorem Inv.stack(I:Inv X pins σ H s):s.heap.FunFrames X.base X.stack:=by
 rcases I.ok.stk with e|⟨e,hf⟩
 .rw[e];exact I.funs
 .rw[e]
  obtain⟨m,hn,_⟩:=I.loc;exact .cons (by rw[I.ok.kind];decide) hf hn (Heap.get?_none_of_le (aK I.ok.bsz I.ok.above)) I.funs
theorem Inv.stkSub(I:Inv X pins σ H s):∀b∈frs X.stack,b∈X.env.locals::X.fs:=λb hb=>by
 rcases I.ok.stk with e|⟨e,hf⟩
 .grind
 .rw[e]at hb
  unfold frs at hb;rw[tX,hf]at hb;exact hb
theorem Inv.stkFree(I:Inv X pins σ H s):∀b∈frs X.stack,H b=b_:=λb hb=>by
 rcases aG.mp (I.stkSub b hb) with e|hb
 .rw[e];exact I.free
 .obtain⟨_,o,ho,_⟩:=I.ok.funs.mem hb
  exact I.base.free b o ho (I.ok.frf b hb) λz=>I.ok.exfs b z hb
variable{g':Array GenState}{t':Nat}{d':Drawn}
theorem Inv.step{ch:List e_}(I:Inv X pins σ H s)
  (Yp:∀b∈ch,(b∈X.ex\/X.s₀.heap.objs.size<=b)/\b≠X.env.locals/\(∀x c,X.env.cells.lookup x=a_ c->c≠b) /\ ∀p∈X.pn++pins,p.1≠b)
  (keep:∀b o,b≠X.env.locals->b∉X.fs->b∉ch->s.heap.get? b=a_ o->H b=b_->h'.get? b=a_ o)
  (slot:∀b o,b≠X.env.locals->b∈X.fs->b∉ch->s.heap.get? b=a_ o->H b=b_->∃sl,h'.get? b=a_ { o with slots:=sl }) (free:∀b o,b∉ch->s.heap.get? b=a_ o->H b=b_->H' b=b_)
  (there:∀b o,b∉ch->s.heap.get? b=a_ o->∃o',h'.get? b=a_ o')
  (tups:∀b xs,H b=a_ (.tup xs)->H' b=a_ (.tup xs)) (frzs:∀b o u,H b=a_ (.frz o u)->H' b=a_ (.frz o u)) (tbls:∀b ps,H b=a_ (.tbl ps)->∃more,H' b=a_ (.tbl (ps++more)))
  (ns:∀m,s.heap.Ns X.env.locals m->h'.Ns X.env.locals m) (hok:HOk X.prog X.w H' h') (hg:AllBare g'):
  Inv X pins σ H' { s with heap:=h',gens:=g',drawn:=d',toks:=t' }:=by
 have neL:∀b o,X.s₀.heap.get? b=a_ o->b≠X.env.locals:=λb o e=>aJ (ai (az e) I.ok.above);have neC:∀b o,X.s₀.heap.get? b=a_ o->b∉X.ex->b∉ch:=λb o e hx hb=>by
  rcases (Yp b hb).1 with z|z
  .exact hx z
  .exact absurd (ai (az e) z) (bu _)
 have cellK:∀x c,X.env.cells.lookup x=a_ c->∀v,s.heap.IsCell c v->h'.IsCell c v:=λx c e v ⟨o,ho,hd⟩=>by
  have VM:=λz=>(Yp c z).2.2.1 x c e rfl;by_cases hc:c∈X.fs
  .obtain⟨sl,q⟩:=slot c o (I.cne x c e) hc VM ho (I.freeC x c e)
   exact⟨_,q,hd⟩
  .exact⟨o,keep c o (I.cne x c e) hc VM ho (I.freeC x c e),hd⟩
 refine⟨I.ok,I.os,hg,⟨λb o e n hb hx=>?_,λb o e n hb hx=>?_,λb o e n hx=>?_,λb o e hx=>?_,λb xs e=>tups b xs (I.base.tups b xs e),λb o xs e=>frzs b o xs (I.base.frzs b o xs e),λb ps e=>?_⟩,?_,λx c e=>?_,?_,λx c e=>?_,λp hp=>?_,hok,I.len⟩
 .exact keep b o (neL b o e) hb (neC b o e hx) (I.base.keep b o e n hb hx) (I.base.free b o e n hx)
 .obtain⟨sl,e1⟩:=I.base.slot b o e n hb hx
  obtain⟨V5,e2⟩:=slot b _ (neL b o e) hb (neC b o e hx) e1 (I.base.free b o e n hx);exact⟨_,e2⟩
 .obtain⟨o',e1⟩:=I.base.there b o e hx
  exact free b o' (neC b o e hx) e1 (I.base.free b o e n hx)
 .obtain⟨o',e1⟩:=I.base.there b o e hx
  exact there b o' (neC b o e hx) e1
 .obtain⟨m1,e1⟩:=I.base.tbls b ps e
  grind
 .obtain⟨m,hn,hl⟩:=I.loc
  refine⟨m,ns m hn,λi x v e1 e2 e3=>?_⟩;obtain⟨u,r,l⟩:=hl i x v e1 e2 e3;refine⟨u,r,?_⟩;rcases l with l | ⟨k,c,e,z⟩
  .exact .inl l
  .exact .inr ⟨k,c,e,cellK x c e _ z⟩
 .obtain⟨v,z⟩:=I.cell x c e
  exact⟨v,cellK x c e v z⟩
 .obtain⟨m,⟨o,_,_,ho,_⟩,_⟩:=I.loc
  exact free _ o (λz=>(Yp _ z).2.1 rfl) ho I.free
 .obtain⟨v,o,ho,hd⟩:=I.cell x c e
  exact free c o (λz=>(Yp c z).2.2.1 x c e rfl) ho (I.freeC x c e)
 .obtain⟨e,n,ne,nf,d⟩:=I.pin p hp
  have VM:=λz=>(Yp _ z).2.2.2 p hp rfl;exact⟨keep _ _ ne nf VM e n,free _ _ VM e n,ne,nf,d⟩
theorem Inv.un(I:Inv X pins σ H s)(u:Un X.fs [] H H' s.heap h')(hok:HOk X.prog X.w H' h'):Inv X pins σ H' { s with heap:=h',toks:=t' }:=by
 obtain⟨m,⟨o,es,ep,ho,r⟩,_⟩:=id I.loc;obtain⟨sl,hL⟩:=u.any ho I.free 0#4
 exact I.step (ch:= []) (λ_ z=>nomatch z) (λb o _ hb _ e n=>u.keep b o e n hb 0#4) (λb o _ hb _ e n=>u.slot b o e n hb 0#4) (λb o _ e n=>u.free b o e n 0#4) (λb o _ e=>u.there b o e 0#4) u.tups u.frzs u.tbls (λm' hm=>by
  obtain⟨o',Xl,ep',YG,r'⟩:=hm;rw[ho]at YG;cases YG
  exact⟨_,_,_,hL,r'⟩) hok I.bare
theorem Inv.call{ch:List e_}(I:Inv X pins σ H s)(u:Un (frs X.stack) ch H H' s.heap h')(hok:HOk X.prog X.w H' h')(hg:AllBare g')
  (Yp:∀b∈ch,(b∈X.ex\/X.s₀.heap.objs.size<=b)/\b≠X.env.locals/\(∀x c,X.env.cells.lookup x=a_ c->c≠b) /\ ∀p∈X.pn++pins,p.1≠b):
  Inv X pins σ H' { s with heap:=h',gens:=g',drawn:=d',toks:=t' }:=by
 obtain⟨m,⟨o,es,ep,ho,r⟩,_⟩:=id I.loc;obtain⟨sl,hL⟩:=u.any ho I.free λz=>(Yp _ z).2.1 rfl
 exact I.step Yp (λb o hL hb hc e n=>u.keep b o e n (λz=>(aG.mp (I.stkSub b z)).elim hL hb) hc) (λb o _ _ hc e n=>u.any e n hc) (λb o hc e n=>u.free b o e n hc) (λb o hc e=>u.there b o e hc) u.tups u.frzs u.tbls (λm' hm=>by
  obtain⟨o',Xl,ep',YG,r'⟩:=hm;rw[ho]at YG;cases YG
  exact⟨_,_,_,hL,r'⟩) hok hg
theorem Inv.turned{it:e_}(I:Inv X pins σ H s)(k:∀b o,b≠it->s.heap.get? b=a_ o->h'.get? b=a_ o)(hn:H it=b_)(hL:it≠X.env.locals)
  (h1:it∈X.ex\/X.s₀.heap.objs.size<=it) (h2:∀x c,X.env.cells.lookup x=a_ c->c≠it) (h3:∀p∈X.pn++pins,p.1≠it):Inv X pins σ H { s with heap:=h',toks:=t' }:=by
 refine I.step (ch:= [it]) (λb hb=>?_) (λb o _ _ hc e _=>k b o (λz=>hc (by simp[z])) e) (λb o _ _ hc e _=>⟨_,k b o (λz=>hc (by simp[z])) e⟩) (λ_ _ _ _ n=>n)
  (λb o hc e=>⟨o,k b o (λz=>hc (by simp[z])) e⟩) (λ_ _ e=>e) (λ_ _ _ e=>e) (λb ps e=>⟨#[],by rw[e];simp⟩) (λm hm=>?_) (λb u e=>?_) I.bare
 .have e:=by simpa using hb
  subst e;exact⟨h1,hL,h2,h3⟩
 .obtain⟨o,es,ep,ho,r⟩:=hm
  exact⟨o,es,ep,k _ o (eD hL) ho,r⟩
 .refine(I.hok b u e).stay (λc v hc q=>k c v ?_ q) (λ_ q=>q) λ_ _ q=>q
  grind
theorem Inv.tok(I:Inv X pins σ H s)(t:Nat):Inv X pins σ H { s with toks:=t }:=I.un Un.refl I.hok
theorem Inv.kept{t':Nat}(I:Inv X pins σ H s)(k:∀b u,s.heap.get? b=a_ u->h'.get? b=a_ u):Inv X pins σ H { s with heap:=h',toks:=t' }:=I.un (Un.kept k) (I.hok.kept k)
theorem Inv.laid{a:e_}{o:HO}{t':Nat}(I:Inv X pins σ H s)(k:∀b u,s.heap.get? b=a_ u->h'.get? b=a_ u)(hp:0#6<=a)(new:ip X.prog X.w (upd H a o) h' a o):
  Inv X pins σ (upd H a o) { s with heap:=h',toks:=t' }:=I.un (Un.laid k hp (I.hok.fresh hp)) (I.hok.laid k hp new)
theorem Inv.write{x e:e_}{o:HO}{t':Nat}(I:Inv X pins σ H s)(mu:Mut (H x))(he:e=x\/H e=a_ (.own x))(k:∀b u,b≠e->s.heap.get? b=a_ u->h'.get? b=a_ u)(VC:∃u,h'.get? e=a_ u)
  (new:ip X.prog X.w (upd H x o) h' x o):Inv X pins σ (upd H x o) { s with heap:=h',toks:=t' }:=I.un (Un.write mu he k VC) (I.hok.write mu he k VC new)
theorem Inv.weak{Y3:List (Option V)}(I:Inv X pins σ H s)(hl:Y3.length=σ.length)(w:∀(i:Nat) v,Y3[i]?=a_ (a_ v)->σ[i]?=a_ (a_ v)):Inv X pins Y3 H s:=
 ⟨I.ok,I.os,I.bare,I.base,let ⟨m,hn,hl'⟩:=I.loc;⟨m,hn,λi x v e1 e2 e3=>hl' i x v e1 (w i v e2) e3⟩,I.cell,I.free,I.freeC,I.pin,I.hok,hl.trans I.len⟩
theorem Inv.pins_of{Xs:List (e_×Obj)}(I:Inv X pins σ H s)(h:∀p∈Xs,s.heap.get? p.1=a_ p.2/\H p.1=b_/\p.1≠X.env.locals/\p.1∉X.fs /\ ∀v,p.2.data≠.cell v):Inv X Xs σ H s:=
 ⟨I.ok,I.os,I.bare,I.base,I.loc,I.cell,I.free,I.freeC,λp hp=>(aQ.mp hp).elim (λz=>I.pin p (bf _ z)) (h p),I.hok,I.len⟩
variable{i:Nat}{x:Str}
theorem A6{N:List Str}(hN:N.Nodup){j:Nat}(a:N[i]?=a_ x)(b:N[j]?=a_ x):i=j:=by
 obtain⟨h1,e1⟩:=ag.mp a;obtain⟨h2,e2⟩:=ag.mp b;exact(List.getElem_inj hN).mp (e1.trans e2.symm)
variable{M:Model}{A:Around}{E:f_->g_->Prop}{u:f_}{Q:Unit->g_->Prop}
theorem xW{v:V}(I:Inv X pins σ H s)(hN:X.N.Nodup)(hi:X.N[i]?=a_ x)(hx:Loc X.env.scope x)(r:RelV v u)
  (h:∀s',Inv X pins (σ.set i (a_ v)) H s'->(∃a,eT a s.heap s'.heap/\(a=X.env.locals\/X.env.cells.lookup x=a_ a))->Q () s') (hf:autoParam (X.fn x=c_\/X.env.scope.names.lookup x=a_ .local) au4._auto_1):aD M A (storeName X.env x u) Q E s:=by
 obtain⟨m,hn,hl⟩:=id I.loc;have Z0:i<σ.length:=by rw[I.len];exact(ag.mp hi).1
 have cne:=I.cne;have tracked:∀{a:e_}{h':Heap},(∃o,s.heap.get? a=a_ o/\H a=b_)->eT a _ h'->HOk _ _ H h':=λ{a h'} ha hs b ob e=>by
  obtain⟨_,_,hfree⟩:=ha;refine(I.hok b ob e).stay (λc w' hc q=>(hs.2 c ?_).trans q) (λ_ q=>q) λ_ _ q=>q
  grind
 rcases hx with hk|hk
 .refine wpAny_storeName_local hk hn (λh' hn' hs=>?_) (by rw[I.ok.kind];rfl)
  obtain⟨oL,_,_,YX,_⟩:=id hn;refine h _ ⟨I.ok,I.os,I.bare,⟨λb o e n hb hx=>?_,λb o e n hb hx=>?_,I.base.free,λb o e hx=>?_,I.base.tups,I.base.frzs,I.base.tbls⟩,⟨_,hn',λj y v' e1 e2 e3=>?_⟩,λy c e=>?_,I.free,I.freeC,λp hp=>?_,tracked ⟨oL,YX,I.free⟩ hs,by simpa using I.len⟩ ⟨_,hs,.inl rfl⟩
  .exact(hs.2 b (aJ (ai (az e) I.ok.above))).trans (I.base.keep b o e n hb hx)
  .obtain⟨sl,e1⟩:=I.base.slot b o e n hb hx
   exact⟨sl,(hs.2 b (aJ (ai (az e) I.ok.above))).trans e1⟩
  .obtain⟨o',e1⟩:=I.base.there b o e hx
   exact⟨o',(hs.2 b (aJ (ai (az e) I.ok.above))).trans e1⟩
  .by_cases hj:j=i
   .subst hj
    rw[hi]at e1;cases e1;rw[aV Z0]at e2;cases e2;exact⟨u,r,.inl ⟨hk,by simp⟩⟩
   .rw[aN (eD hj)]at e2
    obtain⟨u',r',q⟩:=hl j y v' e1 e2 e3;refine⟨u',r',?_⟩;rcases q with⟨k,e⟩|⟨k,c,e,z⟩
    .refine .inl ⟨k,?_⟩
     have:y≠x:=λe=>hj (A6 hN e1 (e▸hi))<;>simp_all
    .exact .inr ⟨k,c,e,z.sameBut hs (cne y c e)⟩
  .obtain⟨w',z⟩:=I.cell y c e
   exact⟨w',z.sameBut hs (cne y c e)⟩
  .obtain⟨e,n,ne,nf,d⟩:=I.pin p hp
   exact⟨(hs.2 _ ne).trans e,n,ne,nf,d⟩
 .have Xr:X.fn x=c_:=by
   grind
  obtain⟨c,hc⟩:=I.ok.has x (.inl hk);obtain⟨w',z⟩:=I.cell x c hc;refine wpAny_storeName_cell I.ok.kind hk hc z (λh' Wv hs=>?_);obtain⟨oc,Ye,hocd⟩:=id z;refine h _ ⟨I.ok,I.os,I.bare,⟨λb o e n hb hx=>?_,λb o e n hb hx=>?_,I.base.free,λb o e hx=>?_,I.base.tups,I.base.frzs,I.base.tbls⟩,⟨m,hn.sameBut hs (eD (cne x c hc)),λj y v' e1 e2 e3=>?_⟩,λy c' e=>?_,I.free,I.freeC,λp hp=>?_,tracked ⟨oc,Ye,I.freeC x c hc⟩ hs,by simpa using I.len⟩ ⟨c,hs,.inr hc⟩
  .exact(hs.2 b (aJ (ai (az e) (I.ok.cab x c Xr hc)))).trans (I.base.keep b o e n hb hx)
  .obtain⟨sl,e1⟩:=I.base.slot b o e n hb hx
   exact⟨sl,(hs.2 b (aJ (ai (az e) (I.ok.cab x c Xr hc)))).trans e1⟩
  .obtain⟨o',e1⟩:=I.base.there b o e hx
   exact⟨o',(hs.2 b (aJ (ai (az e) (I.ok.cab x c Xr hc)))).trans e1⟩
  .by_cases hj:j=i
   .subst hj
    rw[hi]at e1;cases e1;rw[aV Z0]at e2;cases e2;exact⟨u,r,.inr ⟨.inl hk,c,hc,Wv⟩⟩
   .rw[aN (eD hj)]at e2
    obtain⟨u',r',q⟩:=hl j y v' e1 e2 e3;refine⟨u',r',?_⟩;rcases q with q|⟨k,c',e,z'⟩
    .exact .inl q
    .refine .inr ⟨k,c',e,z'.sameBut hs ?_⟩
     rintro rfl;exact hj (A6 hN e1 (I.ok.inj _ _ _ e hc▸hi))
  .by_cases TQ:c'=c
   .subst TQ;exact⟨_,Wv⟩
   .obtain⟨w2,z2⟩:=I.cell y c' e
    exact⟨w2,z2.sameBut hs TQ⟩
  .obtain⟨e,n,ne,nf,d⟩:=I.pin p hp
   refine⟨(hs.2 _ ?_).trans e,n,ne,nf,d⟩;intro q<;>simp_all
theorem rB{v:V}(I:Inv X pins σ H s)(hN:X.N.Nodup)(hi:X.N[i]?=a_ x)(hx:Loc X.env.scope x)(r:RelV v u)
  (h:∀s',Inv X pins (σ.set i (a_ v)) H s'->Q () s') (hf:autoParam (X.fn x=c_\/X.env.scope.names.lookup x=a_ .local) au4._auto_1):aD M A (storeName X.env x u) Q E s:=
 xW I hN hi hx r (λs' I' _=>h s' I') hf
theorem Inv.call'{s':g_}{ch:List e_}(I:Inv X pins σ H s)(ho:s'.os=s.os)(u:Un (frs X.stack) ch H H' s.heap s'.heap)(hok:HOk X.prog X.w H' s'.heap)(hg:AllBare s'.gens)
  (Yp:∀b∈ch,(b∈X.ex\/X.s₀.heap.objs.size<=b)/\b≠X.env.locals/\(∀x c,X.env.cells.lookup x=a_ c->c≠b) /\ ∀p∈X.pn++pins,p.1≠b):Inv X pins σ H' s':=by
 obtain⟨h',g',d',t',o'⟩:=s';subst ho;exact I.call u hok hg Yp
end
abbrev XK:=f_->Option e_->Hp->Prop
abbrev St:=List (Option V)
abbrev VK:=V->Hp->Prop
abbrev TE:=St->Hp->VK->Prop
abbrev TT:=St->Hp->(Bool->Hp->Prop)->Prop
abbrev TA:=St->Hp->(List V->Hp->Prop)->Prop
structure Ends where
 nx:St->Hp->Prop
 rt:VK
 bk:St->Hp->Prop:=λ_ _=>False
 ct:St->Hp->Prop:=λ_ _=>False
abbrev TS:=Ends->St->Hp->Prop
def EP(X:Cx)(pins:List (e_×Obj))(σ:St)(Q:VK)(u:f_)(s':g_):Prop:= ∃v H',Inv X pins σ H' s'/\RelV v u/\Q v H'
def TP(X:Cx)(pins:List (e_×Obj))(σ:St)(Q:Bool->Hp->Prop)(b:Bool)(s':g_):Prop:= ∃H',Inv X pins σ H' s'/\Q b H'
def AP(X:Cx)(pins:List (e_×Obj))(σ:St)(Q:List V->Hp->Prop)(us:List f_)(s':g_):Prop:= ∃vs H',Inv X pins σ H' s'/\cX vs us/\Q vs H'
def SP(X:Cx)(pins:List (e_×Obj))(D:Ends)(f:Flow)(s':g_):Prop:=
 match f with
 |.next=>∃Y3 H',Inv X pins Y3 H' s'/\D.nx Y3 H'
 |.brk=>∃Y3 H',Inv X pins Y3 H' s'/\D.bk Y3 H'
 |.cont=>∃Y3 H',Inv X pins Y3 H' s'/\D.ct Y3 H'
 |.ret u=>∃v Y3 H',Inv X pins Y3 H' s'/\RelV v u/\D.rt v H'
def PE(X:Cx)(e:Expr)(t:TE):Prop:=
 ∀(pins:List (e_×Obj)) (s:g_) (σ:St) (H:Hp) (Q:VK),Inv X pins σ H s->t σ H Q->aD 1#3 X.A (eval e X.env) (EP X pins σ Q) X.xe s
def PT(X:Cx)(e:Expr)(t:TT):Prop:=
 ∀(pins:List (e_×Obj)) (s:g_) (σ:St) (H:Hp) (Q:Bool->Hp->Prop),Inv X pins σ H s->t σ H Q->aD 1#3 X.A (isTrue e X.env (eval e X.env)) (TP X pins σ Q) X.xe s
def PW(X:Cx)(e:Expr)(t:TT):Prop:=
 ∀(whole:Sem f_) (pins:List (e_×Obj)) (s:g_) (σ:St) (H:Hp) (Q:Bool->Hp->Prop),Inv X pins σ H s->t σ H Q->aD 1#3 X.A (isTrue e X.env whole) (TP X pins σ Q) X.xe s
variable{X:Cx}{e:Expr}
theorem PW.pt{t:TT}(h:PW X e t):PT X e t:=h _
def PA(X:Cx)(es:List Expr)(t:TA):Prop:=
 ∀(pos:Pos) (pins:List (e_×Obj)) (s:g_) (σ:St) (H:Hp) (Q:List V->Hp->Prop),Inv X pins σ H s->t σ H Q->aD 1#3 X.A (spliced (backTo pos (starEach es X.env))) (AP X pins σ Q) X.xe s
def PS(X:Cx)(st:Stmt)(t:TS):Prop:=
 ∀(pins:List (e_×Obj)) (s:g_) (σ:St) (H:Hp) (D:Ends),Inv X pins σ H s->t D σ H->aD 1#3 X.A (exec st X.env) (SP X pins D) X.xe s
def PSs(X:Cx)(st:List Stmt)(t:TS):Prop:=
 ∀(pins:List (e_×Obj)) (s:g_) (σ:St) (H:Hp) (D:Ends),Inv X pins σ H s->t D σ H->aD 1#3 X.A (execs st X.env) (SP X pins D) X.xe s
variable{M:Model}{A:Around}{E:f_->g_->Prop}
theorem thn{α:Type}{t:Sem α}{Q Q':α->g_->Prop}{s:g_}(h:aD M A t Q E s)(hQ:∀a s,Q a s->Q' a s):aD M A t Q' E s:=dv h hQ λ_ _ x=>x
section
variable {X:Cx}
def QS(i:Nat):TE:=λσ H Q=>∃v,σ[i]?=a_ (a_ v)/\Q v H
def tC(v:V):TE:=λ_ H Q=>Q v H
variable{x:Str}
theorem IZ{i:Nat}{pos:Pos}(hN:X.N[i]?=a_ x)(hv:Vis X.env.scope x)(hd:autoParam ((x==("__debug__":Str))=d_) au2._auto_1)(Z8:autoParam ((x==("__classdict__":Str))=d_) au2._auto_1):PE X (.Name x pos) (QS i):=by
 intro pins s σ H Q I h;obtain⟨v,e,h⟩:=h;obtain⟨m,hn,hl⟩:=I.loc;obtain⟨u,r,l⟩:=hl i x v hN e hv;have fin:EP X _ σ Q u s:=⟨v,H,I,r,h⟩;rcases l with⟨hk,hm⟩|⟨hk,c,hc,Zv⟩
 .exact wpAny_Name (wpAny_loadName_local I.ok.kind hk hn hm fin) hd
 .rcases hk with hk|hk
  .exact wpAny_Name (wpAny_loadName_cell I.ok.kind hk hc Zv fin) hd
  .exact wpAny_Name (wpAny_loadName_free I.ok.kind hk hc Zv fin Z8) hd
theorem Nj{i j pos}:PE X (.Constant (.int i) j pos) (tC (.int i)):=λ_ _ _ H _ I h=>wpAny_Constant_int ⟨.int i,H,I.tok _,⟨_,rfl⟩,h⟩
theorem Rm{b j pos}:PE X (.Constant (.bool b) j pos) (tC (.bl b)):=λ_ _ _ H _ I h=>Constant_bool ⟨.bl b,H,I,rfl,h⟩
theorem OS{j pos}:PE X (.Constant .none j pos) (tC .non):=λ_ _ _ H _ I h=>Constant_none ⟨.non,H,I,rfl,h⟩
theorem Nk{x j pos}:PE X (.Constant (.str x) j pos) (tC (.str x)):=λ_ _ _ H _ I h=>Calls.Constant_str ⟨.str x,H,I.tok _,⟨_,rfl⟩,h⟩
def Gl(X:Cx)(x:Str):Prop:=X.env.kindOf x=a_ .globalImplicit
variable{pins:List (e_×Obj)}{s:g_}{σ:St}{u:f_}{Q:f_->g_->Prop}
theorem uu{pos:Pos}(I:Inv X pins σ H s)(hg:Gl X x)(hm:X.mg x=a_ u)(h:Q u s)
  (hd:autoParam ((x==("__debug__":Str))=d_) au2._auto_1):aD 1#3 X.A (eval (.Name x pos) X.env) Q E s:=
 BW I.ok.kind hg (Calls.loadGlobal_global (by rw[I.ok.glob];exact I.mod.glob.keeps I.bk) hm h) hd
theorem ky{pos:Pos}(I:Inv X pins σ H s)(hg:Gl X x)(hm:X.mg x=b_)(hv:bootBuiltins x=a_ u)(h:Q u s)
  (hn:autoParam (x≠"__name__") au2._auto_1) (hd:autoParam ((x==("__debug__":Str))=d_) au2._auto_1):aD 1#3 X.A (eval (.Name x pos) X.env) Q E s:=by
 obtain⟨mb,h1,h2⟩:=I.mod.blt;exact BW I.ok.kind hg (Calls.loadGlobal_builtin (by rw[I.ok.glob];exact I.mod.glob.keeps I.bk) hm (by rw[I.ok.blt];exact h1.keeps I.bk) ((h2 x hn).trans hv) h) hd
variable {a b:Expr}{ta tb:TE}{pos:Pos}
def tB(t:TE):TT:=λσ H Q=>t σ H λx H1=>∃c,x=.bl c/\Q c H1
variable {tA tB':TT}{rest:List Expr}
def Sg(t u:TT):TT:=λσ H Q=>t σ H λc H1=>if c=c_ then u σ H1 Q else Q d_ H1
def tOr(t u:TT):TT:=λσ H Q=>t σ H λc H1=>if c=c_ then Q c_ H1 else u σ H1 Q
def Sx(t:TT):TT:=λσ H Q=>t σ H λc H1=>Q (!c) H1
def Mp(ta tb:TE):TE:=λσ H Q=>ta σ H λx H1=>∃c,x=.bl c/\if c=c_ then tb σ H1 Q else Q (.bl d_) H1
def Rq(ta tb:TE):TE:=λσ H Q=>ta σ H λx H1=>∃c,x=.bl c/\if c=c_ then Q (.bl c_) H1 else tb σ H1 Q
def Qa(ta:TE):TE:=λσ H Q=>ta σ H λx H1=>∃c,x=.bl c/\Q (.bl (!c)) H1
theorem MP(ha:PE X a ta)(hb:PE X (.BoolOp .And (b::rest) pos) tb):PE X (.BoolOp .And (a::b::rest) pos) (Mp ta tb):=by
 intro pins s σ H Q I h;refine BoolOp_and (thn (ha _ s σ H _ I h) λv s1 ⟨x,H1,I1,r1,q1⟩=>?_);obtain⟨c,rfl,q1⟩:=q1;cases r1;refine eK ?_;cases c with
 |true=>exact hb _ s1 σ H1 Q I1 q1
 |false=>exact⟨.bl _,H1,I1,rfl,q1⟩
theorem Qp(ha:PE X a ta)(hb:PE X (.BoolOp .Or (b::rest) pos) tb):PE X (.BoolOp .Or (a::b::rest) pos) (Rq ta tb):=by
 intro pins s σ H Q I h;refine BoolOp_or (thn (ha _ s σ H _ I h) λv s1 ⟨x,H1,I1,r1,q1⟩=>?_);obtain⟨c,rfl,q1⟩:=q1;cases r1;refine eK ?_;cases c with
 |false=>exact hb _ s1 σ H1 Q I1 q1
 |true=>exact⟨.bl _,H1,I1,rfl,q1⟩
theorem NM(ha:PE X a ta):PE X (.UnaryOp .Not a pos) (Qa ta):=by
 intro pins s σ H Q I h;refine UnaryOp_ (thn (ha _ s σ H _ I h) λv s1 ⟨x,H1,I1,r1,q1⟩=>?_);obtain⟨c,rfl,q1⟩:=q1;cases r1;exact not_of (eK ⟨.bl _,H1,I1,rfl,q1⟩)
def tIf(t:TT)(ta tb:TE):TE:=λσ H Q=>t σ H λc H1=>if c=c_ then ta σ H1 Q else tb σ H1 Q
end
def SqL(K:aq)(H:Hp)(a:e_)(xs:List V):Prop:=
 Rd H a (.lst xs) \/
  ∃ (o:Obj) (ZY:Array f_) (n:Nat),K.lookup a=a_ o/\o.cls=.type "list"/\o.dict=b_/\o.data=.seq ZY n/\ZY.size<=sizeLine/\cX xs ZY.toList
def SqT(K:aq)(H:Hp)(a:e_)(xs:List V):Prop:=
 Rd H a (.tup xs) \/
  ∃ (o:Obj) (ZY:Array f_) (n:Nat),K.lookup a=a_ o/\o.cls=.type "tuple"/\o.data=.seq ZY n/\ZY.size<=sizeLine/\cX xs ZY.toList
def RN:f_->Option V
 |.none=>a_ .non
 |.bool b=>a_ (.bl b)
 |.int i _=>a_ (.int i)
 |.str x _=>a_ (.str x)
 |.bytes b _=>a_ (.byt b)
 |.float b _=>a_ (.flt b)
 |.ref a=>a_ (.ref a)
 |.type n=>a_ (.ty n)
 |_=>b_
variable{u:f_}{x:V}
theorem RelV.abs(r:RelV x u):RN u=a_ x:=by
 cases x with
 |non=>cases r;rfl
 |bl _=>cases r;rfl
 |int _=>obtain⟨t,rfl⟩:=r;rfl
 |str _=>obtain⟨t,rfl⟩:=r;rfl
 |byt _=>obtain⟨t,rfl⟩:=r;rfl
 |flt _=>obtain⟨t,rfl⟩:=r;rfl
 |ref _=>cases r;rfl
 |ty _=>cases r;rfl
theorem RelV.inj{y:V}(r:RelV x u)(q:RelV y u):x=y:=eR (r.abs.symm.trans q.abs)
theorem cX.inj:∀{xs ys:List V}{us:List f_},cX xs us->cX ys us->xs=ys:=by
 intro xs ys us h
 induction h generalizing ys with
 |nil=>intro q;cases q;rfl
 |cons r t ih=>intro q;cases q with |cons r' t'=>rw[r.inj r',ih t']
section
variable {X:Cx}{pins:List (e_×Obj)}{σ:St}{H:Hp}{s:g_}{a:e_}{xs ys:List V}
theorem SqL.of{K:aq}(h:H a=a_ (.lst xs)):SqL K H a xs:= .inl (.inl h)
theorem SqT.of{K:aq}(h:H a=a_ (.tup xs)):SqT K H a xs:= .inl (.inl h)
theorem Inv.list(I:Inv X pins σ H s)(h:SqL X.K H a xs):∃ZY:List f_,cX xs ZY/\PlainL s.heap a ZY.toArray/\1#2<=sizeLine:=by
 rcases h with h|⟨o,ZY,n,hk,hc,hd,hs,hz,r⟩
 .obtain⟨z,ZY,n,r,e⟩:=h.ok I.hok
  exact⟨_,r,⟨_,n,e,rfl,rfl,rfl⟩,z⟩
 .refine⟨_,r,⟨o,n,I.kIn a o hk,hc,hd,by omega⟩,?_⟩
  have e:=r.length
  grind
theorem Inv.tuple(I:Inv X pins σ H s)(h:SqT X.K H a xs):∃ZY:List f_,cX xs ZY/\IsTup s.heap a ZY.toArray/\1#2<=sizeLine:=by
 rcases h with h|⟨o,ZY,n,hk,hc,hs,hz,r⟩
 .obtain⟨z,ZY,r,p⟩:=h.ok I.hok
  exact⟨_,r,p.1,z⟩
 .refine⟨_,r,⟨o,I.kIn a o hk,hc,n,by omega⟩,?_⟩
  have e:=r.length
  simp_all
theorem Inv.list_inj(I:Inv X pins σ H s)(h:SqL X.K H a xs)(h':SqL X.K H a ys):xs=ys:=by
 obtain⟨ZY,r,⟨o,n,e,_,_,d⟩,_⟩:=I.list h;obtain⟨Zg,r',⟨o',n',e',_,_,d'⟩,_⟩:=I.list h';have:ZY=Zg:=by grind
 subst this;exact r.inj r'
theorem Inv.tuple_inj(I:Inv X pins σ H s)(h:SqT X.K H a xs)(h':SqT X.K H a ys):xs=ys:=by
 obtain⟨ZY,r,⟨o,e,_,n,d⟩,_⟩:=I.tuple h;obtain⟨Zg,r',⟨o',e',_,n',d'⟩,_⟩:=I.tuple h';have:ZY=Zg:=by grind
 subst this;exact r.inj r'
end
abbrev Cx.wish(X:Cx)(E:f_->g_->Prop):Cx:={ X with xe:=E }
abbrev Cx.nox(X:Cx):Cx:=X.wish λ_ _=>False
theorem Cx.Ok.wish(ok:X.Ok)(E:f_->g_->Prop):(X.wish E).Ok:=
 ⟨ok.mod,ok.kind,ok.glob,ok.blt,ok.above,ok.inj,ok.has,ok.cab,ok.hd,ok.frames,ok.stk,ok.exf,ok.bs,ok.bsz,ok.noex,ok.exfs,ok.funs,ok.frf⟩
theorem Cx.Ok.unwish(ok:(X.wish E).Ok):X.Ok:=
 ⟨ok.mod,ok.kind,ok.glob,ok.blt,ok.above,ok.inj,ok.has,ok.cab,ok.hd,ok.frames,ok.stk,ok.exf,ok.bs,ok.bsz,ok.noex,ok.exfs,ok.funs,ok.frf⟩
section
variable {X:Cx}{pins:List (e_×Obj)}{σ:St}{H:Hp}{s:g_}{E:f_->g_->Prop}
theorem Inv.wish(I:Inv X pins σ H s)(E:f_->g_->Prop):Inv (X.wish E) pins σ H s:=⟨I.ok.wish E,I.os,I.bare,I.base,I.loc,I.cell,I.free,I.freeC,I.pin,I.hok,I.len⟩
theorem Inv.unwish(I:Inv (X.wish E) pins σ H s):Inv X pins σ H s:=⟨I.ok.unwish,I.os,I.bare,I.base,I.loc,I.cell,I.free,I.freeC,I.pin,I.hok,I.len⟩
theorem SP.unwish{D:Ends}{f:Flow}{s':g_}(h:SP (X.wish E) pins D f s'):SP X pins D f s':=by
 cases f with
 |next=>obtain⟨Y3,H',I,q⟩:=h;exact⟨_,H',I.unwish,q⟩
 |brk=>obtain⟨Y3,H',I,q⟩:=h;exact⟨_,H',I.unwish,q⟩
 |cont=>obtain⟨Y3,H',I,q⟩:=h;exact⟨_,H',I.unwish,q⟩
 |ret u=>obtain⟨v,Y3,H',I,r,q⟩:=h;exact⟨v,_,H',I.unwish,r,q⟩
theorem PSs.nox{st:List Stmt}{t:TS}(h:PSs X.nox st t):PSs X st t:=λpins s σ H D I hw=>
 dv (h _ s σ H D (I.wish _) hw) (λ_ _ q=>q.unwish) λ_ _ z=>ej z
end
section
variable {X:Cx}{st:Stmt}{rest:List Stmt}{t u:TS}{e:Expr}{te:TE}{pos:Pos}
def PR:TS:=λD σ H=>D.nx σ H
def RC(t u:TS):TS:=λD σ H=>t { D with nx:=u D } σ H
def Sq:TS:=λD σ H=>D.bk σ H
def Su:TS:=λD σ H=>D.ct σ H
theorem Inv.quiet{pins:List (e_×Obj)}{σ:St}{s:g_}(I:Inv X pins σ H s):interactive X.env=d_:=by simp[interactive,I.ok.kind]
def PH(te:TE):TS:=λD σ H=>te σ H λ_ H1=>D.nx σ H1
def Sv(te:TE):TS:=λD σ H=>te σ H D.rt
def Sr:TS:=λD _ H=>D.rt .non H
def Rp(c:TT)(t u:TS):TS:=λD σ H=>c σ H λb H1=>if b=c_ then t D σ H1 else u D σ H1
theorem Qn{c:Expr}{a b:List Stmt}{tc:TT}(hc:PT X c tc)(ha:PSs X a t)(hb:PSs X b u):PS X (.If c a b pos) (Rp tc t u):=by
 intro pins s σ H D I h;refine wpAny_If (thn (hc _ s σ H _ I h) λd s1 ⟨H1,I1,q1⟩=>?_);cases d with
 |true=>exact ha _ s1 σ H1 D I1 q1
 |false=>exact hb _ s1 σ H1 D I1 q1
end
abbrev TG:=V->St->Hp->(St->Hp->Prop)->Prop
abbrev TGs:=List V->St->Hp->(St->Hp->Prop)->Prop
def PG(X:Cx)(target:Expr)(t:TG):Prop:=
 ∀(pins:List (e_×Obj)) (s:g_) (σ:St) (H:Hp) (v:V) (u:f_) (Q:St->Hp->Prop),Inv X pins σ H s->RelV v u->t v σ H Q ->
  aD 1#3 X.A (assign target X.env u) (λ_ s'=>∃Y3 H',Inv X pins Y3 H' s'/\Q Y3 H') X.xe s
def PGs(X:Cx)(ts:List Expr)(t:TGs):Prop:=
 ∀(pins:List (e_×Obj)) (s:g_) (σ:St) (H:Hp) (vs:List V) (us:List f_) (Q:St->Hp->Prop),Inv X pins σ H s->cX vs us->t vs σ H Q ->
  aD 1#3 X.A (assignInOrder ((assignEach ts X.env).map (·.2)) us) (λ_ s'=>∃Y3 H',Inv X pins Y3 H' s'/\Q Y3 H') X.xe s
abbrev Ih:=V->V->V->Hp->(Hp->Prop)->Prop
def Rj(X:Cx)(t:Ih):Prop:=
 ∀(pins:List (e_×Obj)) (s:g_) (σ:St) (H:Hp) (o i v:V) (ov iv u:f_) (Q:Hp->Prop),Inv X pins σ H s->RelV o ov->RelV i iv->RelV v u->t o i v H Q ->
  aD 1#3 X.A (setItem ov iv u) (λ_ s'=>∃H',Inv X pins σ H' s'/\Q H') X.xe s
abbrev TIp:=V->V->Hp->VK->Prop
def PIp(X:Cx)(op:Operator)(t:TIp):Prop:=
 ∀(pins:List (e_×Obj)) (s:g_) (σ:St) (H:Hp) (x y:V) (v u:f_) (Q:VK),Inv X pins σ H s->RelV x v->RelV y u->t x y H Q ->
  aD 1#3 X.A (inplaceOp op v u) (EP X pins σ Q) X.xe s
section
variable {X:Cx}{pos:Pos}
def pv(i:Nat):TG:=λv σ H Q=>Q (σ.set i (a_ v)) H
variable{i:Nat}
theorem Ez{x:Str}(hN:X.N.Nodup)(hi:X.N[i]?=a_ x)(hx:Loc X.env.scope x)(hf:autoParam (X.fn x=c_\/X.env.scope.names.lookup x=a_ .local) au4._auto_1):PG X (.Name x pos) (pv i):=λpins s σ H v u Q I r h=>BX (rB I hN hi hx r (λs' I'=>⟨_,H,I',h⟩) hf)
def RI:TGs:=λvs σ H Q=>vs=[]/\Q σ H
def QF(t:TG)(u:TGs):TGs:=λvs σ H Q=>∃v r,vs=v::r/\t v σ H λY3 H'=>u r Y3 H' Q
variable{es:List Expr}
theorem HN{t:TG}{u:TGs}(h1:PG X e t)(h2:PGs X es u)
  (hs:autoParam ((assignEach (e::es) X.env).map (·.2)=assign e X.env::(assignEach es X.env).map (·.2)) 1#9):PGs X (e::es) (QF t u):=by
 intro pins s σ H vs us Q I r h;obtain⟨v,vr,e1,h⟩:=h;subst e1;cases r with
 | cons r rr=>
   rw[hs];exact assignInOrder_cons (thn (h1 _ s σ H _ _ _ I r h) λ_ s1 ⟨_,H1,I1,q1⟩=>(h2 _ s1 _ H1 _ _ Q I1 rr q1))
def R7(K:aq)(n:Nat)(t:TGs):TG:=λv σ H Q=>∃a xs,v=.ref a/\SqT K H a xs/\1#2=n/\t xs σ H Q
theorem Of{k:Nat}{t:TGs}{n:Nat}(hc:X.calm=c_)(h:PGs X es t)
  (hn:autoParam ((assignEach es X.env).length=n) 1#9) (ZW:autoParam ((assignEach es X.env).findIdx? (·.1)=b_) 1#9):PG X (.Tuple es k pos) (R7 X.K n t):=by
 intro pins s σ H v u Q I r hw;obtain⟨a,xs,e1,hq,hl,hw⟩:=hw;subst e1;cases r;obtain⟨ZY,rv,ht,hz⟩:=I.tuple hq;exact assign_Tuple_tuple (I.ok.hd hc) ht (by simp[hn,<-hl,rv.length]) ZW λh' hx=>(h _ _ σ H xs _ Q (I.kept (t':=s.toks) λb o e=>hx b o (aJ (az e)) e) 1#6 hw)
def Qi(to ti:TE)(t:Ih):TG:=λv σ H Q=>to σ H λo H1=>ti σ H1 λi H2=>t o i v H2 λH3=>Q σ H3
theorem OQ{o i:Expr}{to ti:TE}{t:Ih}(ho:PE X o to)(hi:PE X i ti)(hs:Rj X t)
  (ha:autoParam (∀v,assign (.Subscript o i pos) X.env v=(do
   let ov <- holding [v] (eval o X.env)
   let iv <- holding [v,ov] (eval i X.env)
   standAt pos
   holding [v,ov,iv] (setItem ov iv v)
   release [v,ov,iv] [])) au3._auto_1):PG X (.Subscript o i pos) (Qi to ti t):=by
 intro pins s σ H v u Q I r h;rw[ha];exact ab (dC (thn (ho _ s σ H _ I h) λov s1 ⟨x,H1,I1,r1,q1⟩=>(ab (dC (thn (hi _ s1 σ H1 _ I1 q1) λiv s2 ⟨y,H2,I2,r2,q2⟩=>(ab (wpAny_standAt (ab (dC (thn (hs _ s2 σ H2 x y v ov iv u _ I2 r1 r2 r q2) λ_ s3 ⟨H3,I3,q3⟩=>(wpAny_release ⟨σ,H3,I3,q3⟩)))))))))))
def Lh(te:TE)(g:TG):TS:=λD σ H=>te σ H λx H1=>g x σ H1 D.nx
variable{te:TE}
theorem JF{tg:Expr}{g:TG}(he:PE X e te)(hg:PG X tg g)(hs:autoParam (swapsWithSole [tg] e pos.line X.env=pure d_) 1#9)(hw:autoParam (swappedStores [tg] e X.env=pure b_) 1#9)
  (h1:autoParam ((assignEach [tg] X.env).map (·.2)=[assign tg X.env]) 1#9):PS X (.Assign [tg] e pos) (Lh te g):=by
 intro pins s σ H D I h;refine wpAny_Assign_stores (thn (he _ s σ H _ I h) λv s1 ⟨x,H1,I1,r1,q1⟩=>?_) hs hw;rw[h1];exact thn (hg _ s1 σ H1 x v _ I1 r1 q1) λ_ s2 q=>q
def Qv(i:Nat)(te:TE)(ti:TIp):TS:=λD σ H=>∃x,σ[i]?=a_ (a_ x)/\te σ H λy H1=>ti x y H1 λz H2=>D.nx (σ.set i (a_ z)) H2
theorem Ou{x:Str}{op:Operator}{ti:TIp}{pos':Pos}(hN:X.N.Nodup)(hi:X.N[i]?=a_ x)(hx:Loc X.env.scope x)(he:PE X e te)(ho:PIp X op ti)(hf:autoParam (X.fn x=c_\/X.env.scope.names.lookup x=a_ .local) au4._auto_1):
  PS X (.AugAssign (.Name x pos') op e pos) (Qv i te ti):=by
 intro pins s σ H D I h;obtain⟨v,e1,h⟩:=h;obtain⟨m,hn,hl⟩:=I.loc;obtain⟨u,r,l⟩:=hl i x v hi e1 (by rcases hx with k |k;exact .inl k;exact .inr (.inl k));refine wpAny_AugAssign_Name ?_;have go:aD 1#3 X.A (eval e X.env) (λw ZX=>aD 1#3 X.A (inplaceOp op u w) (λr YJ=>aD 1#3 X.A (storeName X.env x r) (λ_=>SP X pins D .next) X.xe YJ) X.xe ZX) X.xe s:=thn (he pins s σ H _ I h) λw s1 ⟨y,H1,I1,r1,q1⟩=>(thn (ho pins s1 σ H1 v y u w _ I1 r r1 q1) λz s2 ⟨zv,H2,I2,r2,q2⟩=>(rB I2 hN hi hx r2 (λs3 I3=>⟨_,H2,I3,q2⟩) hf));rcases l with⟨hk,hm⟩ | ⟨hk,c,hc,Zv⟩
 .exact wpAny_loadName_local I.ok.kind hk hn hm go
 .rcases hk with hk|hk
  .exact wpAny_loadName_cell I.ok.kind hk hc Zv go
  .rcases hx with k|k
   .have:X.env.scope.names.lookup x=a_ .free:=hk
    rw[k]at this;cases this
   .have:X.env.scope.names.lookup x=a_ .free:=hk
    rw[k]at this;cases this
def ipI(f:Int->Int->Int):TIp:=λx y H Q=>∃i j,x=.int i/\y=.int j/\Q (.int (f i j)) H
theorem OO:PIp X .Add (ipI λi j=>i+j):=by
 intro pins s σ H x y v u Q I r1 r2 h;obtain⟨i,j,e1,e2,q⟩:=h;subst e1;subst e2;obtain⟨t,rfl⟩:=r1;obtain⟨t',rfl⟩:=r2;exact iadd_int ⟨.int _,H,I.tok _,⟨_,rfl⟩,q⟩
end
section
variable {X:Cx}{pos:Pos}
def Nb(c:TT)(tb:TS):TS:=λD σ H=>∃W:Nat->St->Hp->Prop,(∃m,W m σ H) /\ ∀m σ H,W m σ H ->
 c σ H λb H1=>if b=c_ then ∃N:St->Hp->Prop,(∀Y3 H',N Y3 H'->∃m',m'<m/\W m' Y3 H')/\tb { D with nx:=N,ct:=N,bk:=D.nx } σ H1 else D.nx σ H1
end
structure It where
 go:Nat->Hp->Prop
 yld:Nat->Hp->V->Hp->Prop
 stop:Nat->Hp->Prop
def we(X:Cx)(pins:List (e_×Obj))(H:Hp)(b:e_):Prop:=
 H b=b_/\b≠X.env.locals/\b∉X.fs/\(b∈X.ex\/X.s₀.heap.objs.size<=b)/\(∀x c,X.env.cells.lookup x=a_ c->c≠b) /\ ∀p∈X.pn++pins,p.1≠b
variable{pins:List (e_×Obj)}{s:g_}{σ:St}
theorem Inv.fpOk{H':Hp}(I:Inv X pins σ H s)(hb:0#6<=b)(hn:H' b=b_):we X pins H' b:=by
 refine⟨hn,dQ (ai I.lt hb),I.nofs hb,.inr (aK I.sz hb),λx c e z=>?_,λp hp z=>?_⟩
 .obtain⟨v,q⟩:=I.cell x c e
  exact absurd (ai q.lt (by rw[z];omega)) (bu _)
 .exact absurd (ai (az (I.pin p hp).1) (by rw[z];omega)) (bu _)
structure Turn(P:Program)(w:World)(K:aq)(tg:Expr)(J:It)(fp:List e_)(it:e_)(tn:Nat->Heap->Prop):Prop where
 mem:it∈fp
 obj:∀i h,tn i h->∀b∈fp,∃o,h.get? b=a_ o /\ ∀v,o.data≠.cell v
 keep:∀i h h',tn i h->(∀b∈fp,∀o,h.get? b=a_ o->h'.get? b=a_ o)->tn i h'
 item:∀(X:Cx),X.prog=P->X.w=w->X.K=K->X.calm=c_->∀(i:Nat) (pins:List (e_×Obj)) (s:g_) (σ:St) (H:Hp) (E:f_->g_->Prop),Inv X pins σ H s->(∀b∈fp,we X pins H b)->tn i s.heap->J.go i H ->
  aD (model P w) X.A (pyNext (.ref it)) (λr s1 =>∃u,r=a_ u /\
   aD (model P w) X.A (letOwnedTupleGo tg (.ref it) u) (λ_ s2 =>∃x H',Inv X pins σ H' s2/\RelV x u/\J.yld i H x H'/\tn (i+1) s2.heap /\ ∀b∈fp,H' b=b_) E s1) E s
 done:∀(X:Cx),X.prog=P->X.w=w->X.K=K->X.calm=c_->∀(i:Nat) (pins:List (e_×Obj)) (s:g_) (σ:St) (H:Hp) (E:f_->g_->Prop),Inv X pins σ H s->(∀b∈fp,we X pins H b)->tn i s.heap->J.stop i H ->
  aD (model P w) X.A (pyNext (.ref it)) (λr s1=>r=b_/\Inv X pins σ H s1) E s
 self:∀(A:Around) (i:Nat) (s:g_) (Q:f_->g_->Prop) (E:f_->g_->Prop),tn i s.heap->Q (.ref it) s->aD (model P w) A (pyIter (.ref it)) Q E s
abbrev TI:=St->Hp->(It->Hp->Prop)->Prop
def PIE(X:Cx)(pins:List (e_×Obj))(σ:St)(tg:Expr)(R:It->Hp->Prop)(itv:f_)(s2:g_):Prop:=
 ∃(it:e_) (fp:List e_) (tn:Nat->Heap->Prop) (J:It) (H':Hp),itv=.ref it/\Inv X pins σ H' s2/\Turn X.prog X.w X.K tg J fp it tn/\tn 0 s2.heap/\(∀b∈fp,we X pins H' b)/\R J H'
def PI(X:Cx)(tg iter:Expr)(wi:TI):Prop:=
 ∀(pins:List (e_×Obj)) (s:g_) (σ:St) (H:Hp) (R:It->Hp->Prop),Inv X pins σ H s->wi σ H R ->
  aD 1#3 X.A (eval iter X.env) (λv s1=>aD 1#3 X.A (pyIter v) (PIE X pins σ tg R) X.xe s1) X.xe s
variable{tg:Expr}
theorem E2{it:e_}{n:String}{vs:Array f_}{Q:Unit->g_->Prop}(ho:s.heap.get? it=a_ o)(hc:o.cls=.type n)(hd:o.data=.fields vs)
  (hn : ["enumerate","zip","dict_itemiterator","dict_reverseitemiterator","odict_iterator","itertools.zip_longest","itertools.pairwise"].contains n=d_) (hQ:Q () s):aD M A (letOwnedTupleGo tg (.ref it) u) Q E s:=by
 cases tg<;>first
  |exact aj hQ
  | (cases u <;> first
    |exact aj hQ
    | (refine ab (z9 ho ?_)
       rw[hc,hd];show aD M A (if (["enumerate","zip","dict_itemiterator","dict_reverseitemiterator","odict_iterator","itertools.zip_longest","itertools.pairwise"].contains n&&vs[0]? == a_ _)=c_ then _ else _) Q E s;rw[if_neg (by grind)]
       exact aj hQ))
def Itl(K:aq)(a:e_):It:=
 ⟨λi H=>∃xs x,SqL K H a xs/\xs[i]?=a_ x,λi H x H'=>H'=H /\ ∀xs,SqL K H a xs->xs[i]?=a_ x,λi H=>∃xs,SqL K H a xs/\1#2<=i⟩
def Itt(K:aq)(a:e_):It:=
 ⟨λi H=>∃xs x,SqT K H a xs/\xs[i]?=a_ x,λi H x H'=>H'=H /\ ∀xs,SqT K H a xs->xs[i]?=a_ x,λi H=>∃xs,SqT K H a xs/\1#2<=i⟩
def Itr(lo:Int)(n:Nat):It:=⟨λi _=>i<n,λi H x H'=>H'=H/\x=.int (lo+i),λi _=>n<=i⟩
variable{K:aq}
theorem Ga(a it:e_):Turn P w K tg (Itl K a) [it] it (λi h=>h.IsListIter it a i) where
 mem:=by simp
 obj:=λi h st b hb=>by
  have e:=by simpa using hb
  obtain⟨o,e,c,d⟩:=st
  simp_all
 keep:=λi h h' st k=>st.at λo e=>k it 0#4 o e
 item:=by
  intro X hP hw hK hc i pins s σ H E I hf st hg;subst hP hw hK;obtain⟨xs,x,hq,hx⟩:=hg;obtain⟨ZY,rv,p,hz⟩:=I.list hq;obtain⟨u,hu,ru⟩:=rv.get hx;obtain⟨f0,f1,f2,f3,f4,f5⟩:=hf it 0#4;refine wpAny_pyNext_list_item st p.isList (by simpa using hu) λh' Z' sb=>?_;obtain⟨o,e,c,d⟩:=id Z';exact⟨u,rfl,E2 e c d 0#2 ⟨x,H,(I.turned (t':=s.toks) (λb o hb e=>(sb.2 b hb).trans e) f0 f1 f3 f4 f5),ru,⟨rfl,λys hy=>by rw[I.list_inj hy hq];lia⟩,Z',λb hb=>(hf b hb).1⟩⟩
 done:=by
  intro X hP hw hK hc i pins s σ H E I hf st hg;subst hP hw hK;obtain⟨xs,hq,hx⟩:=hg;obtain⟨ZY,rv,p,hz⟩:=I.list hq;obtain⟨f0,f1,f2,f3,f4,f5⟩:=hf it 0#4;have hl:=rv.length;exact wpAny_pyNext_list_end (I.ok.hd hc) st p.isList (by simp;lia) λh' eb=>⟨rfl,I.turned (λb o hb e=>eb b o hb e) f0 f1 f3 f4 f5⟩
 self:=λ_ _ _ _ _ st h=>wpAny_pyIter_listiter st h
theorem Dm(a it:e_):Turn P w K tg (Itt K a) [it] it (λi h=>h.IsTupleIter it a i) where
 mem:=by simp
 obj:=λi h st b hb=>by
  have e:=by simpa using hb
  obtain⟨o,e,c,d⟩:=st
  simp_all
 keep:=λi h h' st k=>st.at λo e=>k it 0#4 o e
 item:=by
  intro X hP hw hK hc i pins s σ H E I hf st hg;subst hP hw hK;obtain⟨xs,x,hq,hx⟩:=hg;obtain⟨ZY,rv,p,hz⟩:=I.tuple hq;obtain⟨u,hu,ru⟩:=rv.get hx;obtain⟨f0,f1,f2,f3,f4,f5⟩:=hf it 0#4;refine wpAny_pyNext_tuple_item st (p) (by simpa using hu) λh' Z' sb=>?_;obtain⟨o,e,c,d⟩:=id Z';exact⟨u,rfl,E2 e c d 0#2 ⟨x,H,(I.turned (t':=s.toks) (λb o hb e=>(sb.2 b hb).trans e) f0 f1 f3 f4 f5),ru,⟨rfl,λys hy=>by rw[I.tuple_inj hy hq];lia⟩,Z',λb hb=>(hf b hb).1⟩⟩
 done:=by
  intro X hP hw hK hc i pins s σ H E I hf st hg;subst hP hw hK;obtain⟨xs,hq,hx⟩:=hg;obtain⟨ZY,rv,p,hz⟩:=I.tuple hq;obtain⟨f0,f1,f2,f3,f4,f5⟩:=hf it 0#4;have hl:=rv.length;exact wpAny_pyNext_tuple_end (I.ok.hd hc) st (p) (by simp;lia) λh' eb=>⟨rfl,I.turned (λb o hb e=>eb b o hb e) f0 f1 f3 f4 f5⟩
 self:=λ_ _ _ _ _ st h=>wpAny_pyIter_tupleiter st h
theorem Dz(it:e_)(lo:Int)(n:Nat):Turn P w K tg (Itr lo n) [it] it (λi h=>IsRangeIter h it (lo+(i:Nat)*1) ((n:Int)-(i:Nat)) 1) where
 mem:=by simp
 obj:=λi h st b hb=>by
  simp_all
 keep:=λi h h' st k=>k it 0#4 _ st
 item:=by
  intro X hP hw hK hc i pins s σ H E I hf st hg;subst hP hw hK;obtain⟨f0,f1,f2,f3,f4,f5⟩:=hf it 0#4;refine(Walks.range (prog:=X.prog) (w:=X.w) (I.ok.hd hc) it lo 1 n).item i s _ _ hg st λv h' tk hv Z' kk=>?_;obtain⟨t,rfl⟩:=hv;refine⟨_,rfl,E2 Z' rfl rfl 0#2 ⟨.int _,H,(I.turned (λb o hb e=>kk b o (by simpa using hb) e) f0 f1 f3 f4 f5),⟨t,?_⟩,⟨rfl,rfl⟩,Z',λb hb=>(hf b hb).1⟩⟩<;>simp_all
 done:=by
  intro X hP hw hK hc i pins s σ H E I hf st hg;obtain⟨f0,f1,f2,f3,f4,f5⟩:=hf it 0#4;exact wpAny_pyNext_range_end (I.ok.hd hc) st (by have:n<=i:=hg;lia) λh' eb=>⟨rfl,I.turned (λb o hb e=>eb b o hb e) f0 f1 f3 f4 f5⟩
 self:=λ_ _ _ _ _ st h=>wpAny_pyIter_rangeiter st h
section
variable {X:Cx}{tg:Expr}
def LO(K:aq)(tl:TE):TI:=λσ H R=>tl σ H λx H1=>∃a,x=.ref a/\(∃xs,SqL K H1 a xs)/\R (Itl K a) H1
def PP(K:aq)(tl:TE):TI:=λσ H R=>tl σ H λx H1=>∃a,x=.ref a/\(∃xs,SqT K H1 a xs)/\R (Itt K a) H1
variable{l:Expr}{tl:TE}
theorem K2(hl:PE X l tl):PI X tg l (LO X.K tl):=by
 intro pins s σ H R I h;refine thn (hl _ s σ H _ I h) λv s1 ⟨x,H1,I1,r1,q1⟩=>?_;obtain⟨a,e,⟨xs,hq⟩,q⟩:=q1;subst e;cases r1;obtain⟨ZY,rv,p,hz⟩:=I1.list hq;refine pL p.isList ?_;refine⟨_,_,_,_,H1,rfl,I1.kept λb o e=>af _ e,Ga a _,⟨_,av _ rfl,rfl,rfl⟩,λb hb=>?_,q⟩;have e:=by simpa using hb
 subst e;exact I1.fpOk (ak _) (I1.hok.fresh (ak _))
theorem MO(hl:PE X l tl):PI X tg l (PP X.K tl):=by
 intro pins s σ H R I h;refine thn (hl _ s σ H _ I h) λv s1 ⟨x,H1,I1,r1,q1⟩=>?_;obtain⟨a,e,⟨xs,hq⟩,q⟩:=q1;subst e;cases r1;obtain⟨ZY,rv,p,hz⟩:=I1.tuple hq;refine jS (p) ?_;refine⟨_,_,_,_,H1,rfl,I1.kept λb o e=>af _ e,Dm a _,⟨_,av _ rfl,rfl,rfl⟩,λb hb=>?_,q⟩;have e:=by simpa using hb
 subst e;exact I1.fpOk (ak _) (I1.hok.fresh (ak _))
theorem BR{R:It->Hp->Prop}{lo hi:Int}{t u v:Tok}{tk:Nat}(I:Inv X pins σ H s)(h1: -(2^62)<=lo)(h2:lo<2^62)(h3: -(2^62)<=hi)(h4:hi<2^62)
  (q:R (Itr lo (hi-lo).toNat) H):aD 1#3 X.A (pyIter (.ref 0#6)) (PIE X pins σ tg R) E { s with heap:=s.heap.push { cls := .type "range",data := .fields #[.int lo t,.int hi u,.int 1 v] },toks:=tk }:=by
 refine wpAny_pyIter_range (IsRange.new ..) (small_one h1 h2 h3 h4) ?_;have I1:Inv X _ σ H { s with heap:=s.heap.push { cls := .type "range",data := .fields #[.int lo t,.int hi u,.int 1 v] },toks:=tk }:=I.kept fun b o e=>af _ e
 refine⟨_,_,_,_,H,rfl,
  I1.kept λb o e=>af _ e,Dz _ lo _,?_,λb hb =>?_,q⟩
 .have e1:lo+((0:Nat))*1=lo:=by simp
  have e2:(((hi-lo).toNat))-((0:Nat))=iA lo hi 1:=by rw[rangeSize_one];grind
  rw[e1,e2];exact av _ rfl
 .have e:b=(s.heap.push { cls := .type "range",data := .fields #[.int lo t,.int hi u,.int 1 v] }).objs.size:=by simpa using hb
  subst e;exact I1.fpOk (ak _) (I1.hok.fresh (ak _))
def Hx(ta:TA):TI:=λσ H R=>ta σ H λvs H1=>∃j:Int,vs=[.int j] /\ -(2^62)<=j/\j<2^62/\R (Itr 0 j.toNat) H1
def Jo(ta:TA):TI:=λσ H R=>ta σ H λvs H1=>∃i j:Int,vs=[.int i,.int j]/\(-(2^62)<=i/\i<2^62 /\ -(2^62)<=j/\j<2^62)/\R (Itr i (j-i).toNat) H1
def HD(wi:TI)(g:TG)(tb:TS):TS:=λD σ H=>wi σ H λJ H1=>∃W:Nat->Nat->St->Hp->Prop,(∃m,W 0 m σ H1) /\ ∀i m σ H,W i m σ H ->
 (J.stop i H/\D.nx σ H)\/(J.go i H /\ ∃N:St->Hp->Prop,(∀Y3 H',N Y3 H'->∃m',m'<m/\W (i+1) m' Y3 H') /\ ∀x H',J.yld i H x H'->g x σ H' λY9 H2=>tb { D with nx:=N,ct:=N,bk:=D.nx } Y9 H2)
def zh(fp:List e_)(h:Heap):List (e_×Obj):=fp.filterMap λb=>(h.get? b).map λo=>(b,o)
variable{fp:List e_}
theorem mB(hb:b∈fp)(e:h.get? b=a_ o):(b,o)∈zh fp h:=List.mem_filterMap.mpr ⟨b,hb,by rw[e];rfl⟩
theorem Fo{p:e_×Obj}(hp:p∈zh fp h):p.1∈fp/\h.get? p.1=a_ p.2:=by
 obtain⟨b,hb,e⟩:=List.mem_filterMap.mp hp;cases q:h.get? b<;>grind
theorem Inv.pinned{fp:List e_}(I:Inv X pins σ H s)(hf:∀b∈fp,we X pins H b)(ho:∀b∈fp,∃o,s.heap.get? b=a_ o /\ ∀v,o.data≠.cell v):Inv X (pins++zh fp s.heap) σ H s:=
 I.pins_of λp hp=>(aQ.mp hp).elim (λz=>I.pin p (a8 _ z)) λz=>by
  obtain⟨hb,e⟩:=Fo z;obtain⟨f0,f1,f2,_⟩:=hf _ hb
  grind
theorem Inv.unpinned{pl:List (e_×Obj)}(I:Inv X (pins++pl) σ H s):Inv X pins σ H s:=I.pins_of λp hp=>I.pin p (a8 _ (bf _ hp))
theorem Hd{iter:Expr}{body:List Stmt}{wi:TI}{g:TG}{tb:TS}{pos:Pos}(hp:PassesOwn 1#3 X.A X.env X.xe)(hc:X.calm=c_)(hi:PI X tg iter wi)(hg:PG X tg g)(hb:PSs X body tb)
  (hs:autoParam (∀x,foldedSetIterable iter X.env x=pure x) au3._auto_1):PS X (.For tg iter body [] pos) (HD wi g tb):=by
 intro pins s σ H D I h;refine wpAny_For (thn (hi _ s σ H _ I h) λv s1 h1=>thn h1 λitv s2 h2=>?_) hs;obtain⟨it,fp,tn,J,H2,e,I2,T,Zj,f2,W,⟨m0,w0⟩,turn⟩:=h2;subst e;have stat:∀{H':Hp},(∀b∈fp,H' b=b_)->∀b∈fp,we X _ H' b:=λhn b hb=>⟨hn b hb,(f2 b hb).2⟩;refine codeAny_forLoop_any (λn s'=>∃i Y3 H',Inv X _ Y3 H' s'/\tn i s'.heap/\(∀b∈fp,H' b=b_)/\W i n Y3 H') ?_ m0 ⟨0,σ,H2,I2,Zj,λb hb=>(f2 b hb).1,w0⟩;rintro n s3 ⟨i,X8,H3,I3,ZC,VL,w3⟩;rcases turn i n _ H3 w3 with⟨stop,qn⟩ | ⟨go,N,hN,step⟩
 .refine ir hp (thn (T.done X rfl rfl rfl hc i _ s3 _ H3 _ I3 (stat VL) ZC stop) λr s4 ⟨hr,I4⟩=>?_)
  subst hr;exact tY ⟨_,H3,I4,qn⟩
 .refine ir hp (thn (T.item X rfl rfl rfl hc i _ s3 _ H3 _ I3 (stat VL) ZC go) λr s4 ⟨u,hr,h4⟩=>?_)
  subst hr;refine ir hp (thn h4 λ_ s5 ⟨x,H5,I5,r5,y5,Zk,UM⟩=>?_);refine ir hp (thn (hg _ s5 _ H5 x u _ (I5.pinned (stat UM) (T.obj _ _ Zk)) r5 (step x H5 y5)) λ_ s6 ⟨Z9,H6,I6,q6⟩=>?_);refine ir hp (thn (hb _ s6 _ H6 _ I6 q6) λf s7 q7=>?_);have again:∀{X5:St}{H7:Hp},Inv X _ _ H7 s7->N _ H7->∃m,m<n /\ ∃i Y3 H',Inv X pins Y3 H' s7/\tn i _/\(∀b∈fp,H' b=b_)/\W i m Y3 H':=λ{X5 H7} I7 n7=>by
   obtain⟨m',hm,w7⟩:=hN _ H7 n7;refine⟨m',hm,_,X5,H7,I7.unpinned,T.keep _ _ _ Zk λb hb o e=>(I7.pin _ (a8 _ (a8 _ (mB hb e)))).1,λb hb=>?_,w7⟩;obtain⟨o,e,d⟩:=T.obj _ _ Zk b hb;exact(I7.pin _ (a8 _ (a8 _ (mB hb e)))).2.1
  cases f with
  |next=>obtain⟨X5,H7,I7,n7⟩:=q7;exact again I7 n7
  |cont=>obtain⟨X5,H7,I7,n7⟩:=q7;exact again I7 n7
  |brk=>obtain⟨X5,H7,I7,q7⟩:=q7;exact⟨_,H7,I7.unpinned,q7⟩
  |ret v=>obtain⟨x7,X5,H7,I7,r7,q7⟩:=q7;exact⟨x7,_,H7,I7.unpinned,r7,q7⟩
end
variable{tb:TS}{D:Ends}
theorem KW{g:TG}{σ:St}{H:Hp}(Pv:Nat->St->Hp->Prop)(h0:Pv 0 σ H)(hl:∀i σ H,i<=1#2->Pv i σ H->SqT K H a xs)
  (hs:∀i x σ H,xs[i]?=a_ x->Pv i σ H->g x σ H λY9 H2=>tb { D with nx:=Pv (i+1),ct:=Pv (i+1),bk:=D.nx } Y9 H2) (hd:∀σ H,Pv xs.length σ H->D.nx σ H):
  ∃W:Nat->Nat->St->Hp->Prop,(∃m,W 0 m σ H) /\ ∀i m σ H,W i m σ H ->
   ((Itt K a).stop i H/\D.nx σ H)\/((Itt K a).go i H /\ ∃N:St->Hp->Prop,(∀Y3 H',N Y3 H'->∃m',m'<m/\W (i+1) m' Y3 H') /\ ∀x H',(Itt K a).yld i H x H'->g x σ H' λY9 H2=>tb { D with nx:=N,ct:=N,bk:=D.nx } Y9 H2):=by
 refine⟨λi m σ H=>m=1#2-i/\i<=1#2/\Pv i σ H,⟨1#2,by simp,bS _,h0⟩,?_⟩;rintro i m σ H ⟨rfl,hi,p⟩;have q:=hl i σ H hi p;by_cases ZR:i<1#2
 .refine .inr ⟨⟨xs,xs[i],q,by simp⟩,_,λY3 H' p'=>⟨_,by lia,rfl,ZR,p'⟩,λx H' y=>?_⟩
  obtain⟨e,y⟩:=y;subst e;exact hs i x σ _ (y xs q) p
 .have e:i=1#2:=by lia
  subst e;exact .inl ⟨⟨xs,q,ak _⟩,hd σ H p⟩
variable{n:Nat}
theorem Fj{lo:Int}{g:TG}{σ:St}{H:Hp}(Pv:Nat->St->Hp->Prop)(h0:Pv 0 σ H)
  (hs:∀i σ H,i<n->Pv i σ H->g (.int (lo+i)) σ H λY9 H2=>tb { D with nx:=Pv (i+1),ct:=Pv (i+1),bk:=D.nx } Y9 H2) (hd:∀σ H,Pv n σ H->D.nx σ H):
  ∃W:Nat->Nat->St->Hp->Prop,(∃m,W 0 m σ H) /\ ∀i m σ H,W i m σ H ->
   ((Itr lo n).stop i H/\D.nx σ H)\/((Itr lo n).go i H /\ ∃N:St->Hp->Prop,(∀Y3 H',N Y3 H'->∃m',m'<m/\W (i+1) m' Y3 H') /\ ∀x H',(Itr lo n).yld i H x H'->g x σ H' λY9 H2=>tb { D with nx:=N,ct:=N,bk:=D.nx } Y9 H2):=by
 refine⟨λi m σ H=>m=n-i/\i<=n/\Pv i σ H,⟨n,by simp,bS _,h0⟩,?_⟩;rintro i m σ H ⟨rfl,hi,p⟩;by_cases ZR:i<n
 .refine .inr ⟨ZR,_,λY3 H' p'=>⟨_,by lia,rfl,ZR,p'⟩,λx H' y=>?_⟩
  obtain⟨e,y⟩:=y
  simp_all
 .have e:i=n:=by lia
  subst e;exact .inl ⟨ak _,hd σ H p⟩
abbrev R2:=V->V->Hp->VK->Prop
def OpR(X:Cx)(f:f_->f_->Sem f_)(r:R2):Prop:=
 ∀(pins:List (e_×Obj)) (s:g_) (σ:St) (H:Hp) (x y:V) (v u:f_) (Q:VK),Inv X pins σ H s->RelV x v->RelV y u->r x y H Q ->
  aD 1#3 X.A (f v u) (EP X pins σ Q) X.xe s
def UnR(X:Cx)(f:f_->Sem f_)(r:V->Hp->VK->Prop):Prop:=
 ∀(pins:List (e_×Obj)) (s:g_) (σ:St) (H:Hp) (x:V) (v:f_) (Q:VK),Inv X pins σ H s->RelV x v->r x H Q ->
  aD 1#3 X.A (f v) (EP X pins σ Q) X.xe s
def jg(X:Cx)(f:f_)(r:List V->Hp->VK->Prop):Prop:=
 ∀(pins:List (e_×Obj)) (s:g_) (σ:St) (H:Hp) (xs:List V) (us:List f_) (Q:VK),Inv X pins σ H s->cX xs us->r xs H Q ->
  aD 1#3 X.A (call f us) (EP X pins σ Q) X.xe s
def tOp(r:R2)(ta tb:TE):TE:=λσ H Q=>ta σ H λx H1=>tb σ H1 λy H2=>r x y H2 Q
def tUn(r:V->Hp->VK->Prop)(ta:TE):TE:=λσ H Q=>ta σ H λx H1=>r x H1 Q
def rI(C:Int->Int->Prop)(g:Int->Int->V):R2:=λx y H Q=>∃i j,x=.int i/\y=.int j/\C i j/\Q (g i j) H
def rI0(g:Int->Int->V):R2:=λx y H Q=>∃i j,x=.int i/\y=.int j/\Q (g i j) H
def rU(g:Int->V):V->Hp->VK->Prop:=λx H Q=>∃i,x=.int i/\Q (g i) H
section
variable {X:Cx}{a b c:Expr}{ta tb tc:TE}{pos:Pos}
variable{f:f_->f_->Sem f_}
theorem Ox(ha:PE X a ta)(hb:PE X b tb){R:V->V->Hp->Prop}(I:Inv X pins σ H s)
  (h:ta σ H λx H1=>tb σ H1 λy H2=>R x y H2) {Q:f_->g_->Prop}
  (hf:∀v u s2 x y H2,Inv X pins σ H2 s2->RelV x v->RelV y u->R x y H2->aD 1#3 X.A (f v u) Q X.xe s2):
  aD 1#3 X.A (eval a X.env) (λv ZV=>aD 1#3 X.A (eval b X.env) (λu ZX=>aD 1#3 X.A (f v u) Q X.xe ZX) X.xe ZV) X.xe s:=thn (ha _ s σ H _ I h) λv s1 ⟨x,H1,I1,r1,q1⟩=>(thn (hb _ s1 σ H1 _ I1 q1) λu s2 ⟨y,H2,I2,r2,q2⟩=>(hf v u s2 x y H2 I2 r1 r2 q2))
theorem ym{op:Operator}{r:R2}(ho:OpR X (binaryOp op) r)(ha:PE X a ta)(hb:PE X b tb):PE X (.BinOp a op b pos) (tOp r ta tb):=λpins s σ H Q I h=>wpAny_BinOp (Ox ha hb I h λv u s2 x y H2 I2 rx ry q=>ho _ s2 σ H2 x y v u Q I2 rx ry q)
theorem Po{op:UnaryOp}{r:V->Hp->VK->Prop}(ho:UnR X (unaryOp op) r)(ha:PE X a ta):PE X (.UnaryOp op a pos) (tUn r ta):=λpins s σ H Q I h=>UnaryOp_ (thn (ha _ s σ H _ I h) λv s1 ⟨x,H1,I1,r1,q1⟩=>ho _ s1 σ H1 x v Q I1 r1 q1)
variable{g:Int->Int->Int}
theorem opI{C:Int->Int->Prop}
  (rule:∀(i j:Int) (t u:Tok) (s:g_) (Q:f_->g_->Prop) (E:f_->g_->Prop),C i j->Q (.int (g i j) s.toks) { s with toks:=s.toks+1 }->aD 1#3 X.A (f (.int i t) (.int j u)) Q E s):
  OpR X f (rI C λi j=>.int (g i j)):=by
 intro pins s σ H x y v u Q I rx ry h;obtain⟨i,j,rfl,rfl,hc,q⟩:=h;obtain⟨t,rfl⟩:=rx;obtain⟨t',rfl⟩:=ry;exact rule i j t t' s _ _ hc ⟨.int _,H,I.tok _,⟨_,rfl⟩,q⟩
theorem QQ
  (rule:∀(i j:Int) (t u:Tok) (s:g_) (Q:f_->g_->Prop) (E:f_->g_->Prop),Q (.int (g i j) s.toks) { s with toks:=s.toks+1 }->aD 1#3 X.A (f (.int i t) (.int j u)) Q E s):
  OpR X f (rI0 λi j=>.int (g i j)):=by
 intro pins s σ H x y v u Q I rx ry h;obtain⟨i,j,rfl,rfl,q⟩:=h;obtain⟨t,rfl⟩:=rx;obtain⟨t',rfl⟩:=ry;exact rule i j t t' s _ _ ⟨.int _,H,I.tok _,⟨_,rfl⟩,q⟩
theorem LF{g:Int->Int->Bool}
  (rule:∀(i j:Int) (t u:Tok) (s:g_) (Q:f_->g_->Prop) (E:f_->g_->Prop),Q (.bool (g i j)) s->aD 1#3 X.A (f (.int i t) (.int j u)) Q E s):
  OpR X f (rI0 λi j=>.bl (g i j)):=by
 intro pins s σ H x y v u Q I rx ry h;obtain⟨i,j,rfl,rfl,q⟩:=h;obtain⟨t,rfl⟩:=rx;obtain⟨t',rfl⟩:=ry;exact rule i j t t' s _ _ ⟨.bl _,H,I,rfl,q⟩
def PC(i j:Int):Prop:=0<j/\j<1073741824
def Pk(i j:Int):Prop:=0<=j/\j<=1000000/\i.natAbs<2^64
def Lx(i j:Int):Prop:=(-(2^64)<i/\i<2^64)\/(-(2^64)<j/\j<2^64)
theorem Lx.ok{i j:Int}(h:Lx i j):IntMulOk i j:=by
 rcases h with⟨h1,h2⟩|⟨h1,h2⟩
 .exact .of_left (intBits_le_64 h1 h2)
 .exact .of_right (intBits_le_64 h1 h2)
theorem Oe:OpR X (binaryOp .Add) (rI0 λi j=>.int (i+j)):=QQ λ_ _ _ _ _ _ _ q=>add_int q
theorem M5:OpR X (binaryOp .Sub) (rI0 λi j=>.int (i-j)):=QQ λ_ _ _ _ _ _ _ q=>sub_int q
theorem Mx:OpR X (binaryOp .Mult) (rI Lx λi j=>.int (i*j)):=opI λ_ _ _ _ _ _ _ hc q=>mul_int q hc.ok
theorem KU:OpR X (binaryOp .FloorDiv) (rI PC λi j=>.int (i/j)):=opI λi j _ _ _ _ _ hc q=>by
 have h1:=hc.1;have h2:=hc.2;exact floordiv_int 0#0 (by rw[Int.fdiv_eq_ediv_of_nonneg i 0#0];lia) (.inl (PyProof.noPylong_small 0#0))
theorem Oi:OpR X (binaryOp .Mod) (rI (λ_ j=>0<j) λi j=>.int (i%j)):=opI λi j _ _ _ _ _ hc q=>mod_int' 0#0 (by rw[Int.fmod_eq_emod_of_nonneg i 0#0];lia)
theorem NC:OpR X (binaryOp .Pow) (rI Pk λi j=>.int (i^j.toNat)):=opI λ_ _ _ _ _ _ _ hc q=>pow_int_small hc.1 hc.2.1 hc.2.2 q
theorem unI{f:f_->Sem f_}{g:Int->Int}
  (rule:∀(i:Int) (t:Tok) (s:g_) (Q:f_->g_->Prop) (E:f_->g_->Prop),Q (.int (g i) s.toks) { s with toks:=s.toks+1 }->aD 1#3 X.A (f (.int i t)) Q E s):
  UnR X f (rU λi=>.int (g i)):=by
 intro pins s σ H x v Q I rx h;obtain⟨i,rfl,q⟩:=h;obtain⟨t,rfl⟩:=rx;exact rule i t s _ _ ⟨.int _,H,I.tok _,⟨_,rfl⟩,q⟩
theorem NV:UnR X (unaryOp .USub) (rU λi=>.int (-i)):=unI λ_ _ _ _ _ q=>neg_int q
end
section
variable {X:Cx}{a b c:Expr}{ta tb tc:TE}{pos:Pos}
theorem OpR.or{f:f_->f_->Sem f_}{r r':R2}(h:OpR X f r)(h':OpR X f r'):OpR X f (λx y H Q=>r x y H Q\/r' x y H Q):=by
 intro pins s σ H x y v u Q I rx ry q;rcases q with q|q
 .exact h _ s σ H x y v u Q I rx ry q
 .exact h' _ s σ H x y v u Q I rx ry q
def PQ(t:TE):TT:=λσ H Q=>t σ H λx H'=>∃k,x=.bl k/\Q k H'
def M0(r r':R2)(ta tb tc:TE):TE:=λσ H Q=>ta σ H λx H1=>tb σ H1 λy H2=>r x y H2 λz H3=>∃k,z=.bl k /\
 (if k=c_ then tc σ H3 λw' H4=>r' y w' H4 Q else Q (.bl d_) H3)
theorem pY:(sizeLine:Nat)<2^63:=by decide
theorem vals1(r:cX [x] us):∃u,us=[u]/\RelV x u:=by
 cases r with
 |cons r1 r2=>cases r2;exact⟨_,rfl,r1⟩
theorem vals2{y:V}(r:cX [x,y] us):∃u w',us=[u,w']/\RelV x u/\RelV y w':=by
 cases r with
 | cons r1 r2=>
   cases r2 with
   |cons r3 r4=>cases r4;exact⟨_,_,rfl,r1,r3⟩
theorem FX(hc:X.calm=c_):jg X (.builtin "min") (fun xs H Q=>∃ i j,xs=[.int i,.int j]/\Q (.int (if j<i then j else i)) H):=by
 intro pins s σ H xs us Q I r h;obtain⟨i,j,rfl,q⟩:=h;obtain⟨u,w',rfl,⟨t,rfl⟩,⟨t',rfl⟩⟩:=vals2 r;refine min_two_ints (I.ok.hd hc) λh' tk k=>⟨_,H,I.kept k,?_,q⟩;by_cases hj:j<i
 .rw[if_pos hj,if_pos hj];exact⟨_,rfl⟩
 .rw[if_neg hj,if_neg hj];exact⟨_,rfl⟩
end
structure Od(h:Heap)(x dx C:e_)(mA:Str->Option f_):Prop where
 obj:h.get? x=a_ (xC C dx)
 ns:h.Ns1 dx mA
 ne:dx≠x
theorem Od.look{x dx C:e_}{mA:Str->Option f_}(I:Od h x dx C mA):∃od,PySem.W.InstAt h x (xC C dx) C (a_ od) /\ ∀name,Aa name od=a_ (mA name):=
 let ⟨od,ho,hl⟩:=(show ∃od,h.get? dx=a_ od /\ ∀name,Aa name od=a_ (mA name) by
   obtain⟨o,es,ep,ho,hd,hk,_,hm⟩:=I.ns;refine⟨o,ho,λname=>?_⟩;have e:=hm name;unfold nsFind findBy at e;rw[<-Array.find?_toList]at e;unfold Aa;rw[hd];dsimp only
   split
   .grind
   .have a:es.toList.any (·.refKey)=d_:=by
     rw[List.any_eq_false];intro y hy;obtain⟨z,t,XR⟩:=hk y (Array.mem_toList_iff.mp hy);simp[DictEntry.refKey,XR]
    grind)
 ⟨od,⟨I.obj,rfl,rfl,ho⟩,hl⟩
section
variable {prog:Program}{w:World}{A:Around}{E:f_->g_->Prop}{s:g_}{K:aq}{x dx C f:e_}{mA:Str->Option f_}{name:Str}{v:f_}
end
theorem wz.some_of{v:V}{o:Option f_}(r:wz (a_ v) o):∃u,o=a_ u/\RelV v u:=by
 cases o with
 |none=>exact(r).elim
 |some u=>exact⟨u,rfl,r⟩
section
variable {P:Program}{w:World}{H H':Hp}{h h':Heap}{a C dx:e_}{fs fs':List (Str×V)}
theorem Kk(hok:HOk P w H h)(e:H a=a_ (.ins C dx fs)):∃mA,Od h a dx C mA/\(∀f,wz (fs.lookup f) (mA f))/\PySem.Within mA (fs.map (·.1))/\fs.length<=1000/\H dx=a_ (.own a):=by
 obtain⟨d,z,ne,ob,mA,n,r,q⟩:=(hok a _ e);exact⟨mA,⟨ob,n,ne⟩,r,q,z,d⟩
end
structure Cls(K:aq)(C:e_):Prop where
 pg:PySem.W.plainGet K C Str.empty=c_
 hd:PySem.W.hasDictIn K C=c_
 po:PySem.W.plainOver K C=c_
 sa:PySem.W.findIn K (.ref C) "__setattr__"=a_ (a_ (.builtin "object.__setattr__"))
theorem Cls.get{C:e_}(c:Cls K C)(f:Str):PySem.W.plainGet K C f=c_:=c.pg
section
variable {X:Cx}{pins:List (e_×Obj)}{σ:St}{H:Hp}{s:g_}{a C dx:e_}{fs:List (Str×V)}{f:Str}{v:V}{A:Around}{E:f_->g_->Prop}
end
section
variable {X:Cx}{o e value:Expr}{f:Str}{pos pos' Uu:Pos}{ta tv:TE}
end
section
variable {X:Cx}{pins:List (e_×Obj)}{σ:St}{H:Hp}{s:g_}{A:Around}{E:f_->g_->Prop}{Q:f_->g_->Prop}{c:f_}{b:Bool}
inductive p6(K:aq)(H:Hp):V->f_->Prop where
 |non:p6 K H .non (.type "NoneType")
 |bl (x:Bool):p6 K H (.bl x) (.type "bool")
 |int (i:Int):p6 K H (.int i) (.type "int")
 |str (x:Str):p6 K H (.str x) (.type "str")
 |flt (x:UInt64):p6 K H (.flt x) (.type "float")
 |lst {a:e_}{xs:List V} (e:H a=a_ (.lst xs)):p6 K H (.ref a) (.type "list")
 |frz {a:e_}{o:Obj}{xs:List V} (e:H a=a_ (.frz o (.lst xs))):p6 K H (.ref a) (.type "list")
 |tup {a:e_}{xs:List V} (e:H a=a_ (.tup xs)):p6 K H (.ref a) (.type "tuple")
 |dK {a:e_}{kvs:List (Key×V)} (e:H a=a_ (.dK kvs)):p6 K H (.ref a) (.type "dict")
 |dT {a:e_}{kvs:List (List Key×V)} (e:H a=a_ (.dT kvs)):p6 K H (.ref a) (.type "dict")
 | ins {a C dx:e_}{fs:List (Str×V)} (e:H a=a_ (.ins C dx fs)) (cl:Cls K C) (ha:PySem.W.findIn K (.ref C) "__class__"=a_ (a_ (.builtin "object.__class__")))
   (hn:PySem.W.specialIn K (.builtin "object.__class__") "__get__"=a_ (a_ (.builtin "getset_descriptor.__get__"))) (htk:PySem.W.takesIn K (.builtin "object.__class__")=a_ c_)
   (hm:PySem.W.mroIn K C (.type "object")=a_ c_):p6 K H (.ref a) (.ref C)
theorem FZ{t:f_}(I:Inv X pins σ H s)(rx:RelV x u)(ty:p6 X.K H x t)(e:PySem.W.kitOne X.K t c=a_ b)(h:∀tk,Q (.bool b) { s with toks:=tk }):
  aD 1#3 A (call (.builtin "isinstance") [u,c]) Q E s:=by
 cases ty with
 |non=>cases (rx);exact d8 PySem.W.kitx_none I.kIn gI e (λz=>nomatch z) h
 |bl y=>cases (rx);exact d8 PySem.W.kitx_bool I.kIn gI e (λz=>nomatch z) h
 |int i=>obtain⟨t,q⟩:=(rx);cases q;exact d8 PySem.W.kitx_int I.kIn gI e (λz=>nomatch z) h
 |str y=>obtain⟨t,q⟩:=(rx);cases q;exact d8 PySem.W.kitx_str I.kIn gI e (λz=>nomatch z) h
 |flt y=>obtain⟨t,q⟩:=(rx);cases q;exact d8 PySem.W.kitx_float I.kIn gI e (λz=>nomatch z) h
 | @lst a xs ea=>
   cases (rx);obtain⟨_,_,n,_,h1⟩:=(I.hok a _ ea);exact d8 JW I.kIn ⟨_,h1,rfl⟩ e (λz=>nomatch z) h
 | @frz a ob xs ea=>
   cases (rx);obtain⟨_,_,_,n,_,h1⟩:=(I.hok a _ ea);exact d8 JW I.kIn ⟨_,h1,rfl⟩ e (λz=>nomatch z) h
 | @tup a xs ea=>
   cases (rx);obtain⟨_,_,_,p⟩:=(I.hok a _ ea);obtain⟨o,h1,h2,_⟩:=p.1;exact d8 PySem.W.kitx_tuple I.kIn ⟨o,h1,h2⟩ e (λz=>nomatch z) h
 | @dK a kvs ea=>
   cases (rx);obtain⟨_,_,vs,_,p⟩:=(I.hok a _ ea);obtain⟨o,es,ep,h1,h2,_⟩:=p;exact d8 JX I.kIn ⟨o,h1,h2.1⟩ e (λz=>nomatch z) h
 | @dT a kvs ea=>
   cases (rx);obtain⟨_,_,xs,_,o,es,ep,h1,h2,_⟩:=(I.hok a _ ea);exact d8 JX I.kIn ⟨o,h1,h2.1⟩ e (λz=>nomatch z) h
 | @ins a C dx fs ea cl ha hn htk hm=>
   cases (rx);obtain⟨mA,O,_⟩:=Kk I.hok ea;obtain⟨od,J,_⟩:=O.look;exact d8 (PySem.W.kitx_own (cl.get _) cl.hd ha hn htk hm) I.kIn J e (λz=>nomatch z) h
end
structure lN(k:Nat)(A:Around):Prop where
 hd:A.handled=b_
 dp:A.depth+3*k+5<recursionLimit
 un:A.units+16*k+200<cLine
 gu:A.guards=a_ []
theorem lN.mono{j k:Nat}(r:lN k A)(h:j<=k):lN j A:=⟨r.hd,by have:=r.dp;lia,by have:=r.un;lia,r.gu⟩
theorem lN.deeper{k:Nat}(r:lN (k+1) A)(env:Env):lN k (A.deeper env):=
 ⟨r.hd,by have:=r.dp;show A.depth+1+3*k+5<_;lia,by have:=r.un;show A.units+3+16*k+200<_;lia,r.gu⟩
theorem lN.depth{k:Nat}(r:lN k A):A.depth<recursionLimit:=by have:=r.dp;lia
theorem lN.units{k:Nat}(r:lN k A):A.units+64<cLine:=by have:=r.un;lia
def Ko:TA:=λ_ H Q=>Q [] H
def Io(ta:TE)(tr:TA):TA:=λσ H Q=>ta σ H λx H1=>tr σ H1 λxs H2=>Q (x::xs) H2
section
variable {X:Cx}{e:Expr}{es:List Expr}{te:TE}{t:TA}{pos:Pos}
theorem vS:PA X [] Ko:=λ_ _ _ _ H Q I h=>wM ⟨[],H,I,.nil,h⟩
theorem oH(ha:PE X e te)(hr:PA X es t)(hs:autoParam 3#3 1#9):PA X (e::es) (Io te t):=by
 intro pos pins s σ H Q I h;rw[hs];exact lQ (thn (ha _ s σ H _ I h) λu s1 ⟨x,H1,I1,r1,q1⟩=>(thn (hr _ _ s1 σ H1 _ I1 q1) λus s2 ⟨xs,H2,I2,r2,q2⟩=>⟨_,H2,I2,.cons r1 r2,q2⟩))
def Sd(t:TA):TE:=λσ H Q=>t σ H λxs H1=>1#2<=sizeLine /\ ∀p,H1 p=b_->Q (.ref p) (upd H1 p (.tup xs))
def RK(t:TA):TE:=λσ H Q=>t σ H λxs H1=>1#2<=sizeLine /\ ∀p,H1 p=b_->Q (.ref p) (upd H1 p (.lst xs))
theorem MN{x1}(h:PA X es t):PE X (.Tuple es x1 pos) (Sd t):=by
 intro pins s σ H Q I hq;refine wpAny_Tuple_spliced (thn (h _ _ s σ H _ I hq) λus s1 ⟨xs,H1,I1,r,z,q⟩=>⟨by rw[<-r.length];omega,?_⟩);refine⟨.ref _,_,I1.laid (λb u e=>af _ e) (ak _) ?_,rfl,q _ (I1.hok.fresh (ak _))⟩;exact⟨z,us,r,⟨_,av _ rfl,rfl,_,rfl⟩,_,av _ rfl,rfl⟩
end
abbrev Sp:=List V->Hp->VK->XK->Prop
abbrev CXT:=List Env->Hp->g_->XK->f_->g_->Prop
structure GU(P:Program)(w:World)(K:aq)(mg:Str->Option f_)(base:Heap)(A:Around)(outer:List Env)(s:g_)(H:Hp):Prop where
 frames:A.frames=a_ outer
 mod:Mod K mg base
 bs:∀b o,base.get? b=a_ o->s.heap.get? b=a_ o/\H b=b_
 bsz:base.objs.size<=s.heap.objs.size
 funs:s.heap.FunFrames base outer
 frf:∀b∈frs outer,H b=b_
 hok:HOk P w H s.heap
 bare:AllBare s.gens
def CE(outer:List Env)(P:Program)(w:World)(H:Hp)(s:g_)(Q:VK)(u:f_)(s':g_):Prop:=
 ∃v H',s'.os=s.os/\AllBare s'.gens/\Un (frs outer) [] H H' s.heap s'.heap/\HOk P w H' s'.heap/\RelV v u/\Q v H'
def CR(CX:CXT)(outer:List Env)(P:Program)(w:World)(H:Hp)(s:g_)(Q:VK)(E:XK)(r:Result)(s':g_):Prop:=
 match r with
 |.ok (.ret u)=>CE outer P w H s Q u s'
 |.ok _=>False
 |.error e=>CX outer H s E e s'
structure lJ(P:Program)(w:World)(K:aq)(mg:Str->Option f_)(base:Heap)(CX:CXT)(k:Nat)(f:e_)(fd:FuncData)(ps:List Str)(sp:Sp):Prop where
 len:∀vs H Q E,sp vs H Q E->vs.length=ps.length
 run:∀(A:Around) (outer:List Env) (s:g_) (H:Hp) (args:Args) (us:List f_) (vs:List V) (Q:VK) (E:XK),lN k A->GU P w K mg base A outer s H->BindsTo s fd args (ps.zip us)->cX vs us->sp vs H Q E ->
  pM (model P w) A (.call (.ref f) args) (CR CX outer P w H s Q E) s
section
variable {X:Cx}{pins:List (e_×Obj)}{σ:St}{H:Hp}{s s':g_}
theorem Inv.env0(I:Inv X pins σ H s):GU X.prog X.w X.K X.mg X.base X.A X.stack s H:=
 ⟨I.ok.frames,I.ok.mod,I.bs,aK I.ok.bsz I.sz,I.stack,I.stkFree,I.hok,I.bare⟩
theorem Inv.after{Q:VK}(I:Inv X pins σ H s)(h:CE X.stack X.prog X.w H s Q u s'):EP X pins σ Q u s':=by
 obtain⟨v,H',os,bare,un,hok,r,q⟩:=h;obtain⟨hh,g,d,t,os'⟩:=s';obtain rfl:os'=s.os:=os;exact⟨v,H',I.call un hok bare (λb z=>absurd z 0#4),r,q⟩
end
def EX(sp:Sp)(Xo:List V)(E:XK)(t:TA):TE:=λσ H Q=>t σ H λvs H1=>sp (vs++Xo) H1 Q E
def Binds(K:aq)(fd:FuncData)(ps:List Str)(ds:List f_):Prop:=
 ∀(s:g_) (us:List f_),K.In s.heap->(us++ds).length=ps.length->BindsTo s fd ⟨us,[]⟩ (ps.zip (us++ds))
variable{ps:List Str}
theorem Binds.all{fd:FuncData}(h:∀us:List f_,1#1=ps.length->bindArgs fd ⟨us,[]⟩=pure (ps.zip us)):Binds K fd ps []:=λs us _ hl=>by
 rw[cb]at hl ⊢;exact .of_eq (h us hl)
def yY(CX:CXT)(X:Cx)(E:XK):Prop:= ∀(pins:List (e_×Obj)) (σ:St) (H:Hp) (s:g_) (e:f_) (s':g_),Inv X pins σ H s->CX X.stack H s E e s'->X.xe e s'
section
variable {X:Cx}{CX:CXT}{k:Nat}{f C:e_}{fd:FuncData}{ps:List Str}{sp:Sp}{Xo:List V}{ds:List f_}{E:XK}{x m:Str}{p pos apos:Pos}{e o:Expr}{es:List Expr}{ta:TE}{t:TA}
theorem zo{Q:VK}{vs:List V}(F:lJ X.prog X.w X.K X.mg X.base CX k f fd ps sp)(hr:lN k X.A)(hb:Binds X.K fd ps ds)(hd:cX Xo ds)(hx:yY CX X E)
  (I:Inv X pins σ H s) (r:cX vs us) (h:sp (vs++Xo) H Q E):aD 1#3 X.A (call (.ref f) us) (EP X pins σ Q) X.xe s:=by
 have r2:=r.append hd;refine wpAny_call (jb (F.run _ _ s H _ _ _ Q E hr I.env0 (hb s us I.kIn (by rw[<-r2.length];exact F.len _ _ _ _ h)) r2 h) λr s' hq=>?_);cases r with
 |error e=>exact hx _ σ H s e s' I hq
 | ok fl=>
   cases fl with
   |ret u=>exact I.after hq
   |next=>exact ej hq
   |brk=>exact ej hq
   |cont=>exact ej hq
theorem LB(F:lJ X.prog X.w X.K X.mg X.base CX k f fd ps sp)(hr:lN k X.A)(hg:Gl X x)(hm:X.mg x=a_ (.ref f))(hk:dZ X.K (.ref f)=c_)(hb:Binds X.K fd ps ds)(hd:cX Xo ds)(hx:yY CX X E)
  (ha:PA X (e::es) t) (WQ:autoParam ((x==("__debug__":Str))=d_) au2._auto_1) (he:autoParam 3#3 1#9) (ZJ:autoParam 3#5 1#9) :
  PE X (.Call (.Name x p) (e::es) [] pos) (EX sp Xo E t):=λpins s σ H Q I h=>eZ (uu I hg hm (tm I.ok.mod.kin hk (thn (ha _ _ s σ H _ I h) λus s1 ⟨vs,H1,I1,r,q⟩=>⟨I1.kIn,(zo F hr hb hd hx I1 r q)⟩) he ZJ) WQ)
theorem GZ(F:lJ X.prog X.w X.K X.mg X.base CX k f fd ps sp)(hr:lN k X.A)(hg:Gl X x)(hm:X.mg x=a_ (.ref f))(hk:dZ X.K (.ref f)=c_)(hb:Binds X.K fd ps ds)(hd:cX Xo ds)(hx:yY CX X E)
  (WQ:autoParam ((x==("__debug__":Str))=d_) au2._auto_1):PE X (.Call (.Name x p) [] [] pos) (EX sp Xo E Ko):=fun pins s σ H Q I h=>eZ (uu I hg hm (PySem.W.callWith_K0 I.kIn hk (zo F hr hb hd hx I .nil h)) WQ)
end
section
variable {X:Cx}{CX:CXT}{k:Nat}{f C:e_}{fd:FuncData}{ps ks:List Str}{sp:Sp}{E:XK}{x m:Str}{p pos apos kpos:Pos}{e o:Expr}{es:List Expr}{Vj:List Keyword}{te ta:TE}{t tk:TA}{nm:Option Str}
variable {g:List f_->List f_->List f_}{gV:List V->List V->List V}
end
structure bo(N P:List Str)(sc:Scope):Prop where
 kind:sc.kind=.function
 co:sc.isCoroutine=d_
 gen:sc.isGenerator=d_
 nd:N.Nodup
 pre:N.take P.length=P
 par:∀x∈P,sc.names.lookup x=a_ .local\/sc.names.lookup x=a_ .cell
 nofree:∀y∈sc.names,y.2≠.free
theorem xO{kindOf:Str->Option NameKind}{x:Str}:∀{binds:List (Str×f_)}{m:Str->Option f_},(∀v,(x,v)∉binds)->bindL kindOf binds m x=m x
 |[],_,_=>rfl
 | (n,v)::r,m,h=>by
   unfold bindL;rw[xO λw hw=>h w (aB _ hw)]
   split<;>grind
theorem yC{kindOf:Str->Option NameKind}{x:Str}:∀{binds:List (Str×f_)}{m:Str->Option f_},(∀v,(x,v)∉binds)->bindC kindOf binds m x=m x
 |[],_,_=>rfl
 | (n,v)::r,m,h=>by
   unfold bindC;rw[yC λw hw=>h w (aB _ hw)]
   split<;>grind
theorem rW{kindOf:Str->Option NameKind}{x:Str}{v:f_}:∀{P:List Str}{vs:List f_}{i:Nat}{m:Str->Option f_},P.Nodup->P[i]?=a_ x->vs[i]?=a_ v->kindOf x=a_ .local ->
  bindL kindOf (P.zip vs) m x=a_ v
 |[],_,_,_,_,h,_,_=>by simp at h
 |_::_,[],_,_,_,_,h,_=>by simp at h
 | p::P,w::vs,0,m,nd,h1,h2,hk=>by
   simp at h1 h2;subst h1;subst h2;show bindL _ ((p,w)::P.zip vs) m p=_;unfold bindL;rw[xO λv hv=>(eg.mp nd).1 (qi hv).1,if_pos hk];simp
 | p::P,w::vs,i+1,m,nd,h1,h2,hk=>by
   unfold bindL;exact rW (eg.mp nd).2 (by simpa using h1) (by simpa using h2) hk
theorem sj{kindOf:Str->Option NameKind}{x:Str}{v:f_}:∀{P:List Str}{vs:List f_}{i:Nat}{m:Str->Option f_},P.Nodup->P[i]?=a_ x->vs[i]?=a_ v->kindOf x≠a_ .local ->
  bindC kindOf (P.zip vs) m x=a_ v
 |[],_,_,_,_,h,_,_=>by simp at h
 |_::_,[],_,_,_,_,h,_=>by simp at h
 | p::P,w::vs,0,m,nd,h1,h2,hk=>by
   simp at h1 h2;subst h1;subst h2;show bindC _ ((p,w)::P.zip vs) m p=_;unfold bindC;rw[yC λv hv=>(eg.mp nd).1 (qi hv).1,if_neg hk];simp
 | p::P,w::vs,i+1,m,nd,h1,h2,hk=>by
   unfold bindC;exact sj (eg.mp nd).2 (by simpa using h1) (by simpa using h2) hk
def start(N:List Str)(vs:List V):St:=vs.map a_++aS (N.length-2#1) b_
def F7(CX:CXT)(P:Program)(w:World)(K:aq)(mg:Str->Option f_)(base:Heap)(N:List Str)(qual:Str)(scope:Scope)(f:e_)(cd:f_)(A:Around)(outer:List Env)(s:g_)(H:Hp)(E:XK):Cx where
 prog:=P
 w:=w
 K:=K
 mg:=mg
 base:=base
 A:=A.deeper (envOfC qual scope s.heap.objs.size f cd)
 N:=N
 s₀:=s
 H₀:=H
 env:=envOfC qual scope s.heap.objs.size f cd
 outer:=outer
 stack:=envOfC qual scope s.heap.objs.size f cd::outer
 ex:= []
 calm:=c_
 fn:=λ_=>c_
 pn:= []
 xe:=λe s'=>aD (model P w) (A.deeper (envOfC qual scope s.heap.objs.size f cd)) (leaving (envOfC qual scope s.heap.objs.size f cd) e) (λ_ Wd=>CX outer H s E e Wd) (λe' Wd=>CX outer H s E e' Wd) s'
theorem ko{sc:Scope}{x:Str}(h:sc.names.lookup x=a_ .cell):∃c,(cellsFrom n sc.names []).lookup x=a_ c:=iR.mp (jr _ n [] (.inl h))
variable{f:e_}{CX:CXT}{mg:Str->Option f_}{base:Heap}{qual:Str}{scope:Scope}
theorem Gm{N:List Str}{cd:f_}{outer:List Env}{s1:g_}{E:XK}{vs:List V}
  (S:bo N ps scope) (hd:A.handled=b_) (e0:GU P w K mg base A outer s H) (hl:2#1=ps.length) (r:cX vs us)
  (x:InCallC s s.heap.objs.size (bindL (envOfC qual scope s.heap.objs.size f cd).kindOf (ps.zip us) λ_=>b_) (cellsFrom (0#6+1) scope.names []) (bindC (envOfC qual scope s.heap.objs.size f cd).kindOf (ps.zip us) λ_=>b_) s1):
  Inv (F7 CX P w K mg base N qual scope f cd A outer s H E) [] (start N vs) H s1:=by
 have ZJ:ps.length<=N.length:=by have:=congrArg eV S.pre;grind
 obtain⟨h1,tk,rfl,hk⟩:=x.done;have noA:∀b,b∉(F7 CX P w K mg base N qual scope f cd A outer s H E).ex:=λb z=>absurd (show b∈[] from z) 0#4
 refine⟨⟨e0.mod,S.kind,rfl,rfl,ak _,λy z c h1 h2 =>?_,λy hy =>?_,λy c _ h =>?_,λ_=>hd,GD e0.frames,.inr ⟨rfl,rfl⟩,λb z=>absurd z (noA b),e0.bs,e0.bsz,λb _ _=>noA b,λb z=>absurd z (noA b),e0.funs,e0.frf⟩,
  rfl,e0.bare,Un.kept hk,⟨_,x.toInCall.ns,λi y v h1 h2 h3 =>?_⟩,λy c h=>⟨_,x.cell y c h⟩,e0.hok.fresh (ak _),λy c h =>?_,λp hp=>absurd (show p∈[] from hp) (by simp),e0.hok.kept hk,?_⟩
 .exact name_of_addr x.apart (cw h1) (cw h2)
 .rcases hy with hy|hy
  .exact ko hy
  .exact absurd rfl (S.nofree _ (cw hy))
 .exact aI (x.above y c (cw h))
 .have hi:i<2#1:=by
   unfold start at h2;by_cases hi:i<2#1
   .omega
   .rw[bj (by simpa using hi)]at h2
    rw[jt]at h2<;>simp_all
  have ha:vs[i]?=a_ v:=by
   unfold start at h2;rw[aT _]at h2<;>simp_all
  obtain⟨u,hu,rv⟩:=r.get ha;have hp:ps[i]?=a_ y:=by
   rw[<-S.pre,List.getElem?_take_of_lt 0#0];exact h1
  have Wi:ps.Nodup:=by rw[<-S.pre];exact S.nd.sublist (jL _ _)
  refine⟨u,rv,?_⟩;rcases S.par y (bK hp) with k|k
  .exact .inl ⟨k,rW Wi hp hu k⟩
  .obtain⟨c,e⟩:=ko k
   refine .inr ⟨.inl k,c,e,?_⟩;have q:=x.cell y c e;rw[sj Wi hp hu (by show scope.names.lookup y≠_;rw[k];decide)]at q;omega
 .exact e0.hok.fresh (aI (x.above y c (cw h)))
 .unfold start
  show _=N.length
  grind
theorem ES{k:Nat}{name:Str}{params:Arguments}{body:List Stmt}{dV kV doc pm cdv ct oc:f_}{an od:Option e_}
  {osl:Array (Option f_)}{N:List Str}{sp:Sp} (lk:K.lookup f=a_ ⟨oc,od,.func (d9 name qual params body scope dV kV doc pm an cdv ct),osl⟩) (Z8:ju K cdv qual=c_) (S:bo N ps scope)
  (len:∀vs H Q E,sp vs H Q E->2#1=ps.length)
  (Yi: ∀(A:Around) (outer:List Env) (s:g_) (H:Hp) (vs:List V) (Q:VK) (E:XK),lN k (A.deeper (envOfC qual scope s.heap.objs.size f cdv))->sp vs H Q E ->
   ∃t,PSs (F7 CX P w K mg base N qual scope f cdv A outer s H E) body t/\t { nx:=λ_ H'=>Q .non H',rt:=Q } (start N vs) H):
  lJ P w K mg base CX (k+1) f (d9 name qual params body scope dV kV doc pm an cdv ct) ps sp:=by
 refine⟨len,λA outer s H args us vs Q E hr e0 hb r YC=>?_⟩;have KX:=e0.mod.kin.keeps λb o e=>(e0.bs b o e).1;have W2:∀y∈ps.zip us,scope.names.lookup y.1=a_ _\/(scope.names.lookup y.1=a_ _/\((cellsFrom (0#6+1) _ []).lookup y.1).isSome=c_):=fun⟨n,v⟩ hy=>by
  rcases S.par n (qi hy).1 with q|q
  .exact .inl q
  .exact .inr ⟨q,jr _ _ _ (.inl q)⟩
 refine codeAny_call_function hr.depth (KX _ _ lk) rfl S.co S.gen rfl (PySem.W.codeRec_of KX Z8) (hb _ _ _ _ ?_);refine wpAny_newFunctionEnv_cells S.kind W2 λenv he s1 x=>?_;subst he;refine⟨(e0.mod.nolimit.keeps λb o e=>(e0.bs b o e).1).keeps x.toInCall.keep,codeAny_func ?_⟩;obtain⟨t,ht,hq⟩:=Yi A _ s H vs Q E (hr.deeper _) YC;refine dv (ht [] s1 _ H _ (Gm S hr.hd e0 (len _ _ _ _ YC) r x) hq) (λfl s' hs=>?_) λe s' hs=>hs;have fin:∀{Y3:St}{H':Hp}{v:V}{u:f_},Inv (F7 CX P w K mg base N qual scope f cdv A _ s H E) [] Y3 H' s'->RelV v u->Q v H'->CE outer P w H s Q u s':=
  λ{Y3 H' v u} J rv q=>⟨v,H',J.os,J.bare,J.base,J.hok,rv,q⟩
 cases fl with
 | ret u=>
   obtain⟨v,Y3,H',J,rv,q⟩:=hs;exact fin J rv q
 | next=>
   obtain⟨Y3,H',J,q⟩:=hs;exact fin (v:=V.non) J rfl q
 | brk=>
   obtain⟨_,_,_,q⟩:=hs<;>simp_all
 | cont=>
   obtain⟨_,_,_,q⟩:=hs<;>simp_all
section
variable {X:Cx}{x:Str}{p pos:Pos}{e:Expr}{es:List Expr}{t:TA}{id T:String}{r:List V->Hp->VK->Prop}
def tCB(r:List V->Hp->VK->Prop)(t:TA):TE:=λσ H Q=>t σ H λvs H1=>r vs H1 Q
theorem kl(hc:jg X (.builtin id) r)(hg:Gl X x)(hm:X.mg x=b_)(hv:bootBuiltins x=a_ (.builtin id))(ha:PA X (e::es) t)(hn:autoParam (x≠"__name__") au2._auto_1)(WQ:autoParam ((x==("__debug__":Str))=d_) au2._auto_1)
  (he:autoParam 3#3 1#9) (ZJ:autoParam 3#5 1#9):PE X (.Call (.Name x p) (e::es) [] pos) (tCB r t):=λpins s σ H Q I h=>eZ (ky I hg hm hv (rH (thn (ha _ _ s σ H _ I h) λus s1 ⟨vs,H1,I1,r1,q1⟩=>hc _ s1 σ H1 vs us Q I1 r1 q1) he ZJ) hn WQ)
theorem lG(hc:jg X (.type T) r)(hg:Gl X x)(hm:X.mg x=b_)(hv:bootBuiltins x=a_ (.type T))(ha:PA X (e::es) t)(hn:autoParam (x≠"__name__") au2._auto_1)(WQ:autoParam ((x==("__debug__":Str))=d_) au2._auto_1)
  (he:autoParam 3#3 1#9) (ZJ:autoParam 3#5 1#9):PE X (.Call (.Name x p) (e::es) [] pos) (tCB r t):=λpins s σ H Q I h=>eZ (ky I hg hm hv (cM (thn (ha _ _ s σ H _ I h) λus s1 ⟨vs,H1,I1,r1,q1⟩=>hc _ s1 σ H1 vs us Q I1 r1 q1) he ZJ) hn WQ)
end
end _L
namespace HT
open PySem PyProof.Rows
def lexLt:List Int->List Int->Bool
 |[],[]=>d_
 |[],_::_=>c_
 |_::_,[]=>d_
 |x::xs,y::ys=>if x=y then lexLt xs ys else decide (x<y)
theorem lexLt_cons(x y:Int)(xs ys:List Int):lexLt (x::xs) (y::ys)=if x=y then lexLt xs ys else decide (x<y):=rfl
section
open PySem.SeqAt
open PySem.AutoSeq1 (wpAny_loadPart')
open PySem.MeetsSeq PySem.MeetsSeq2 PySem.MeetsSeq3
end
section
variable {prog:Program}{w:World}{A:Around}{E:f_->g_->Prop}{s:g_}
variable{Q:f_->g_->Prop}
theorem cat_tup{t b:e_}{vs ws:List f_}(ht:IsTup s.heap t vs.toArray)(hb:IsTup s.heap b ws.toArray)(hv:vs≠[])
  (h1:ws=[]->Q (.ref t) s) (h2:ws ≠ []->Q (.ref 0#6) { s with heap:=s.heap.push { cls := .type "tuple",data := .seq (vs++ws).toArray } })
  (ZF:2#1+ws.length<=sizeLine):aD 1#5 A (binaryOp .Add (.ref t) (.ref b)) Q E s:=by
 obtain⟨⟨cls,dd,data,sl⟩,ho,hc,n,hd⟩:=id ht;obtain⟨⟨U6,dd2,data2,sl2⟩,Yy,XT,n2,hd2⟩:=id hb;subst hc hd XT hd2;have e:vs.toArray++ws.toArray=(vs++ws).toArray:=by simp
 by_cases hw:ws=[]
 .exact concat_meets ⟨_,ho,rfl⟩ ⟨_,Yy,rfl⟩ noFill_tuple_add seq_tuple_add oo mX (mL _ _)
   (tuple_addW1 t b _ _ n n2 dd _ sl _ (by simpa using hv) (by simp[hw])) ⟨ho,Yy,h1 hw⟩
 .refine concat_meets ⟨_,ho,rfl⟩ ⟨_,Yy,rfl⟩ noFill_tuple_add seq_tuple_add oo mX (mL _ _)
   (tuple_addW2 t b _ _ n n2 dd _ sl _ (by simpa using hv) (by simpa using hw) 1#6) ⟨ho,Yy,?_⟩
  rw[e];exact h2 hw
def sIx(n d:Nat):Option Int->Nat
 |none=>d
 |some v=>if v<0 then(v+(n:Int)).toNat else min v.toNat n
theorem Si(n d:Nat)(hd:d<=n)(o:Option Int):sIx n d o<=n:=by
 cases o with
 |none=>exact hd
 | some v=>
   show(if v<0 then(v+n).toNat else min _ n)<=n
   grind
theorem EO(v:Int)(n d:Nat):(if v<0 then max (v+(n:Int)) 0 else min v (n:Int))=((sIx n d (a_ v):Nat):Int):=by
 show(if v<0 then max _ 0 else min v _)=(((if v<0 then(v+n).toNat else min _ n)))
 grind
theorem CV(i j:Nat):kE (i:Int) (j:Int) 1=j-i:=by
 unfold kE
 grind
theorem wq{v:f_}{o:Option Int}{Q:Option Int->g_->Prop}(p:IsPart v o)(h:Q o s):aD 1#5 A (Builtin.Slice.slicePartIndex v) Q E s:=by
 cases p with
 |none=>exact slicePart_none h
 |int i t=>exact slicePart_int h
theorem lE{sl:e_}{vl vu:f_}{lo hi:Option Int}{n:Nat}{Q:Int×Int×Nat->g_->Prop}(hs:s.heap.IsSliceOf sl vl vu .none)(pl:IsPart vl lo)(pu:IsPart vu hi)
  (h:Q (((sIx n 0 lo:Nat):Int),1,sIx n n hi-sIx n 0 lo) s):aD 1#5 A (Builtin.Slice.sliceApplied (.ref sl) (pure (n:Int))) Q E s:=by
 obtain⟨os,Yx,XW,W4⟩:=id hs;refine ab (ab (dg Yx W4 (x:=vl) rfl (ab (dg Yx W4 (x:=vu) rfl (ab (dg Yx W4 rfl (aj ?_)))))));refine ab (slicePart_none ?_);refine ab (wq pl (ab (wq pu (ab (aj ?_)))));show aD _ _ (match uL lo hi 1 _ with | (lo,hi)=>pure (lo,(1:Int),kE lo hi 1)) _ _ s
 rw[(show uL lo hi 1 (n:Int)=(((sIx n 0 lo:Nat):Int),((sIx n n hi:Nat):Int)) by
   refine Prod.ext ?_ ?_
   .cases lo with
    |none=>rfl
    |some v=>exact EO v n 0
   .cases hi with
    |none=>rfl
    | some v=>exact EO v n n)]
 show aD _ _ (pure _) _ _ s;rw[CV];exact aj h
theorem IM(xs:Array f_)(i k:Nat):((ao k).filterMap λ(m:Nat)=>xs[((i:Int)+(m:Int)*1).toNat]?).toArray=((xs.toList.drop i).take k).toArray:=by
 have e:(λ(m:Nat)=>xs[(i+(m:Int)*1).toNat]?)=λm=>xs[i+m]? := by
  grind
 have:=pick_run xs i k;have e2:((λx=>xs[x]?)∘λx=>i+x)=λm=>xs[i+m]? := rfl
 simp_all
theorem getItem_tuple_cut{t sl:e_}{items:Array f_}{vl vu:f_}{lo hi:Option Int}(ht:IsTup s.heap t items)(hs:s.heap.IsSliceOf sl vl vu .none)(pl:IsPart vl lo)(pu:IsPart vu hi)
  (hw: ¬(sIx items.size 0 lo=0/\sIx items.size items.size hi=2#5))
  (h:Q (.ref 0#6) { s with heap:=s.heap.push { cls := .type "tuple",data := .seq ((items.toList.drop (sIx items.size 0 lo)).take (sIx items.size items.size hi-sIx items.size 0 lo)).toArray } })
  (ZF:2#5<=sizeLine):aD 1#5 A (getItem (.ref t) (.ref sl)) Q E s:=by
 have VH:=by
  show((items.toList.drop (sIx items.size 0 lo)).take (sIx items.size items.size hi-sIx items.size 0 lo)).toArray.size<=sizeLine;rw[bO,c6,iJ,bR];omega
 obtain⟨os,Yx,XW,W4⟩:=id hs;unfold getItem
 try with_reducible refine dC ?_
 refine ab (wpAny_sequenceKey ht.typeIs 0#2 ?_)
 refine ab (bN ht.typeIs fF
  (bG fF ht.typeIs entry_tuple_getitem ?_ (args_tuple_getitem _ _)))
 show aD _ _ (ui _ >>= _) _ _ s;refine ab (tupleItemsOf_ ht ?_);refine ab (jc ⟨os,Yx,XW⟩ ?_);refine ab (lE hs pl pu ?_);have V': ¬((((sIx items.size 0 lo):Int)==0&&(1:Int)==1&&(sIx items.size items.size hi-sIx items.size 0 lo)==2#5)=c_):=by
  grind
 show aD _ _ (if (((sIx _ 0 lo):Int)==0&&1==1&&(sIx _ _ hi-sIx _ 0 lo)==2#5)=c_ then _ else _) _ _ s;rw[if_neg V',IM]
 first
  |exact ab (bJ (aj ⟨_,rfl,aj h⟩) VH)
  |grind
  |grind
  |grind
end
end HT
namespace _L
open PySem PySem.Spec PyProof.Rows
abbrev TO:=St->Hp->(Option Int->Hp->Prop)->Prop
def PO(X:Cx)(e:Option Expr)(t:TO):Prop:=
 ∀(pins:List (e_×Obj)) (s:g_) (σ:St) (H:Hp) (Q:Option Int->Hp->Prop),Inv X pins σ H s->t σ H Q ->
  aD 1#3 X.A (evalPart e X.env) (λu s'=>∃o H',Inv X pins σ H' s'/\IsPart u o/\Q o H') X.xe s
def KR:TO:=λ_ H Q=>Q b_ H
def Pf(t:TE):TO:=λσ H Q=>t σ H λx H1=>∃i,x=.int i/\Q (a_ i) H1
section
variable {X:Cx}{e:Expr}{te:TE}{lo hi:Option Expr}{tl th:TO}{pos p2:Pos}
def SlR(X:Cx)(r:V->Option Int->Option Int->Hp->VK->Prop):Prop:=
 ∀(pins:List (e_×Obj)) (s:g_) (σ:St) (H:Hp) (x:V) (v vl vu:f_) (lo hi:Option Int) (sl:e_) (Q:VK),Inv X pins σ H s->RelV x v->s.heap.IsSliceOf sl vl vu .none->IsPart vl lo->IsPart vu hi->r x lo hi H Q ->
  ∃ T id,typeLookup (.type T) "__getitem__"=pure (a_ (.builtin id))/\s.TypeIs v T/\aD 1#3 X.A (getItem v (.ref sl)) (EP X pins σ Q) X.xe s
theorem SlR.or{r r':V->Option Int->Option Int->Hp->VK->Prop}(h:SlR X r)(h':SlR X r'):SlR X (λx lo hi H Q=>r x lo hi H Q\/r' x lo hi H Q):=by
 intro pins s σ H x v vl vu lo hi sl Q I rx hs pl pu q;rcases q with q|q
 .exact h _ s σ H x v vl vu lo hi sl Q I rx hs pl pu q
 .exact h' _ s σ H x v vl vu lo hi sl Q I rx hs pl pu q
def tSl(r:V->Option Int->Option Int->Hp->VK->Prop)(te:TE)(tl th:TO):TE:=λσ H Q=>te σ H λx H1=>tl σ H1 λl H2=>th σ H2 λu H3=>r x l u H3 Q
def F5(xs:List V)(lo hi:Option Int):List V:=(xs.drop (HT.sIx xs.length 0 lo)).take (HT.sIx xs.length xs.length hi-HT.sIx xs.length 0 lo)
theorem tI(xs:List V)(lo hi:Option Int):(F5 xs lo hi).length<=1#2:=by
 unfold F5;rw[c6,iJ]
 lia
def O9(K:aq):V->Option Int->Option Int->Hp->VK->Prop:=λx lo hi H Q=>∃a xs,x=.ref a/\SqT K H a xs /\
 ¬(HT.sIx xs.length 0 lo=0/\HT.sIx xs.length xs.length hi=1#2) /\ ∀p,H p=b_->Q (.ref p) (upd H p (.tup (F5 xs lo hi)))
theorem MH:SlR X (O9 X.K):=by
 intro pins s σ H x v vl vu lo hi sl Q I rx hs pl pu h;obtain⟨a,xs,rfl,hx,hw,q⟩:=h;cases rx;obtain⟨ZY,r,ht,hz⟩:=I.tuple hx;have hlen:ZY.toArray.size=1#2:=r.length.symm;refine⟨_,_,PyProof.Rows.slot_tuple_getitem.lookup,ht.typeIs,?_⟩;refine HT.getItem_tuple_cut ht hs pl pu (by rw[hlen];omega) ?_ (by rw[hlen];omega);rw[hlen];refine⟨.ref _,_,I.laid (λb ob q=>af _ q) (ak _) ?_,rfl,q _ (I.hok.fresh (ak _))⟩;exact⟨aK (tI xs lo hi) hz,_,(r.drop _).take _,rJ _ _,_,av _ rfl,rfl⟩
def Mc(K:aq):R2:=λx y H Q=>∃a b xs ys,x=.ref a/\y=.ref b/\SqT K H a xs/\SqT K H b ys/\xs≠[]/\1#2+ys.length<=sizeLine /\
 (ys=[]->Q (.ref a) H)/\(ys≠[]->∀p,H p=b_->Q (.ref p) (upd H p (.tup (xs++ys))))
theorem cX.nil_iff{xs:List V}{us:List f_}(r:cX xs us):us=[]↔xs=[]:=by
 cases r<;>simp_all
theorem Ks:OpR X (binaryOp .Add) (Mc X.K):=by
 intro pins s σ H x y v u Q I rx ry h;obtain⟨a,b,xs,ys,rfl,rfl,ha,hb,hx,hz,q1,q2⟩:=h;cases rx;cases ry;obtain⟨ZY,r1,p1,_⟩:=I.tuple ha;obtain⟨ZA,r2,p2,_⟩:=I.tuple hb;refine HT.cat_tup p1 p2 (λz=>hx (r1.nil_iff.mp z)) (λz=>⟨.ref a,H,I,rfl,q1 (r2.nil_iff.mp z)⟩) (λz=>?_) (by rw[<-r1.length,<-r2.length];omega);refine⟨.ref _,_,I.laid (λb ob q=>af _ q) (ak _) ?_,rfl,q2 (λw=>z (r2.nil_iff.mpr w)) _ (I.hok.fresh (ak _))⟩;exact⟨by simp_all,_,r1.append r2,rJ _ _,_,av _ rfl,rfl⟩
end
def ixN(n:Nat)(i:Int):Option Nat:=if 0<=i then(if i<n then a_ i.toNat else b_) else if -(n:Int)<=i then a_ (i+n).toNat else b_
def atI{α:Type}(xs:List α)(i:Int):Option α:=(ixN xs.length i).bind λj=>xs[j]?
variable{n:Nat}{i:Int}
theorem Eb{j:Nat}(h:ixN n i=a_ j):seqIndex? i n=a_ j/\j<n /\ -(n:Int)<=i/\i<n:=by
 unfold ixN at h;by_cases h0:0<=i
 .rw[if_pos h0]at h
  by_cases h1:i<n
  .rw[if_pos h1]at h
   have e:=eR h;exact⟨by rw[seqIndex_of h0 h1,e],by lia,by lia,h1⟩
  simp_all
 .rw[if_neg h0]at h
  by_cases h1: -n<=i
  .rw[if_pos h1]at h
   have e:=eR h;exact⟨by rw[seqIndex_neg 0#0 h1,e],by lia,h1,by lia⟩
  simp_all
theorem zV{α:Type}{xs:List α}{v:α}(h:atI xs i=a_ v):∃j,seqIndex? i 1#2=a_ j/\xs[j]?=a_ v/\j<1#2 /\ -(1#2:Int)<=i/\i<1#2:=by
 unfold atI at h;cases e:ixN _ i with
 |none=>rw[e]at h;cases h
 | some j=>
   rw[e]at h;obtain⟨h1,h2,h3,h4⟩:=Eb e;exact⟨j,h1,h,h2,h3,h4⟩
def DW(b:Expr):Prop:= ∀o i,subscripted b d_ o i=operate [o,i] (getItem o i)
def IxR(X:Cx)(r:R2):Prop:=
 ∀(value slice:Expr) (pins:List (e_×Obj)) (s:g_) (σ:St) (H:Hp) (x y:V) (v u:f_) (Q:VK),Inv X pins σ H s->RelV x v->RelV y u->r x y H Q ->
  subscripted slice d_ v u=operate [v,u] (getItem v u)->aD 1#3 X.A (subscriptTail value slice v u) (EP X pins σ Q) X.xe s
def MtR(X:Cx)(id:String)(r:V->List V->Hp->VK->Prop):Prop:=
 ∀(pins:List (e_×Obj)) (s:g_) (σ:St) (H:Hp) (x:V) (xs:List V) (v:f_) (us:List f_) (Q:VK),Inv X pins σ H s->RelV x v->cX xs us->r x xs H Q ->
  aD 1#3 X.A (call (.builtin id) (v::us)) (EP X pins σ Q) X.xe s
section
variable {X:Cx}{a b:Expr}{ta tb:TE}{pos:Pos}
theorem IxR.or{r r':R2}(h:IxR X r)(h':IxR X r'):IxR X (λx y H Q=>r x y H Q\/r' x y H Q):=by
 intro value slice pins s σ H x y v u Q I rx ry q hs;rcases q with q|q
 .exact h _ _ _ s σ H x y v u Q I rx ry q hs
 .exact h' _ _ _ s σ H x y v u Q I rx ry q hs
theorem Qe{r:R2}(hr:IxR X r)(ha:PE X a ta)(hb:PE X b tb)(hs:DW b):PE X (.Subscript a b pos) (tOp r ta tb):=λpins s σ H Q I h=>Subscript_ (Ox ha hb I h λv u s2 x y H2 I2 rx ry q=>hr a b _ s2 σ H2 x y v u Q I2 rx ry q (hs _ _))
def O3(K:aq):R2:=λx y H Q=>∃p xs i v,x=.ref p/\y=.int i/\SqL K H p xs/\atI xs i=a_ v/\Q v H
def Pz(K:aq):R2:=λx y H Q=>∃p xs i v,x=.ref p/\y=.int i/\SqT K H p xs/\atI xs i=a_ v/\Q v H
def PV:R2:=λx y H Q=>∃z i c,x=.str z/\y=.int i/\z.length<=sizeLine/\atI z.cps.toList i=a_ c/\Q (.str ⟨#[c]⟩) H
theorem KN:IxR X (O3 X.K):=by
 intro value slice pins s σ H x y v u Q I rx ry h hs;obtain⟨p,xs,i,z,rfl,rfl,hq,he,q⟩:=h;cases rx;obtain⟨t,rfl⟩:=ry;obtain⟨ZY,r,pl,hz⟩:=I.list hq;obtain⟨j,h1,h2,h3,h4,h5⟩:=zV he;obtain⟨w,ew,Zc⟩:=r.get h2;have hl:=r.length;have hn:=pY;have fin:EP X _ σ Q w s:=⟨z,H,I,Zc,q⟩;by_cases h0:0<=i
 .have hj:=by
   rw[seqIndex_of h0 h5]at h1;exact eR h1
  exact item_listR pl.isList h0 0#0 (by rw[hj];simpa using ew) fin hs
 .have hj:(i+ZY.toArray.size).toNat=j:=by
   rw[seqIndex_neg 0#0 h4]at h1<;>simp_all
  exact subscriptTail_builtinR pl.isList.typeIs slot_list_getitem.lookup
   (wpAny_getItem_list_neg pl.isList 0#0 (by simp_all) 0#0 (by rw[hj];simpa using ew) ⟨rfl,fin⟩) hs
theorem Mz:IxR X (Pz X.K):=by
 intro value slice pins s σ H x y v u Q I rx ry h hs;obtain⟨p,xs,i,z,rfl,rfl,hq,he,q⟩:=h;cases rx;obtain⟨t,rfl⟩:=ry;obtain⟨ZY,r,pl,hz⟩:=I.tuple hq;obtain⟨j,h1,h2,h3,h4,h5⟩:=zV he;obtain⟨w,ew,Zc⟩:=r.get h2;have hl:=r.length;have hn:=pY;exact subscriptTail_builtinR pl.typeIs slot_tuple_getitem.lookup
  (getItem_tuple (j:=j) pl 0#0 0#0 (by simp_all) (by simpa using ew) ⟨rfl,⟨z,H,I,Zc,q⟩⟩) hs
theorem MZ:IxR X PV:=by
 intro value slice pins s σ H x y v u Q I rx ry h hs;obtain⟨z,i,c,rfl,rfl,hz,he,q⟩:=h;obtain⟨t,rfl⟩:=rx;obtain⟨t',rfl⟩:=ry;obtain⟨j,h1,h2,h3,h4,h5⟩:=zV he;have hl:z.cps.toList.length=z.length:=by simp[Str.length]
 rw[hl]at h1 h4 h5;have hn:=pY
 exact tail_any (typeIs_str s z t) slot_str_getitem.lookup (getItem_str (by
  grind) (by rw[h1];simpa using h2) ⟨.str _,H,I.tok _,⟨_,rfl⟩,q⟩) hs
def rIx(K:aq):R2:=λx y H Q=>O3 K x y H Q\/Pz K x y H Q\/PV x y H Q
theorem Cw(ZY:List f_)(n j:Nat)(u:f_):cN (·.setIfInBounds j u) { cls := .type "list",data := .seq ZY.toArray n }={ cls := .type "list",data := .seq (ZY.set j u).toArray n }:=by
 simp[cN]
theorem Inv.lst{pins:List (e_×Obj)}{σ:St}{H:Hp}{s:g_}{p:e_}{xs:List V}(I:Inv X pins σ H s)(h:H p=a_ (.lst xs)):
  ∃ (ZY:List f_) (n:Nat),cX xs ZY/\s.heap.get? p=a_ { cls := .type "list",data := .seq ZY.toArray n }/\1#2<=sizeLine:=by
 obtain⟨z,ZY,n,r,e⟩:=I.hok p _ h;exact⟨_,n,r,e,z⟩
variable{pins:List (e_×Obj)}{σ:St}{s:g_}
theorem Inv.lstUpd{H:Hp}{p:e_}{xs ys:List V}{ZY Zg:List f_}{n':Nat}{f:Obj->Obj}(I:Inv X pins σ H s)(h:H p=a_ (.lst xs))
  (ho:s.heap.get? p=a_ { cls := .type "list",data := .seq ZY.toArray n }) (hf:f { cls := .type "list",data := .seq ZY.toArray n }={ cls := .type "list",data := .seq Zg.toArray n' }) (r:cX ys Zg) (hz:ys.length<=sizeLine) (t:Nat) :
  Inv X pins σ (upd H p (.lst ys)) { s with heap:=s.heap.update p f,toks:=t }:=by
 have e:(s.heap.update p f).get? p=a_ { cls := .type "list",data := .seq Zg.toArray n' }:=by
  rw[cY f ho (by rw[hf]<;>rfl),hf]
 refine I.write (by rw[h];trivial) (.inl rfl) (λb u hb q=>(cQ _ _ (eD hb)).trans q) ⟨_,e⟩ ?_;exact⟨hz,_,n',r,e⟩
def Mt:V->V->V->Hp->(Hp->Prop)->Prop:=λo i v H Q=>∃p xs k j,o=.ref p/\i=.int k/\H p=a_ (.lst xs)/\ixN xs.length k=a_ j/\Q (upd H p (.lst (xs.set j v)))
theorem set_list:Rj X Mt:=by
 intro pins s σ H o i v ov iv u Q I ro ri rv h;obtain⟨p,xs,k,j,rfl,rfl,hp,hj,q⟩:=h;cases ro;obtain⟨t,rfl⟩:=ri;obtain⟨ZY,n,r,ho,hz⟩:=I.lst hp;obtain⟨h1,h2,h3,h4⟩:=Eb hj;have hl:=r.length;have hn:=pY;have I':=
  I.lstUpd hp ho (Cw _ n j u) (r.set rv j) (by simp_all) s.toks
 by_cases h0:0<=k
 .have hk:=by
   rw[seqIndex_of h0 h4]at h1;exact eR h1
  exact PySem.W.ki_setAt ho h0 0#0 (by simp_all) (by rw[hk];exact⟨_,I',q⟩)
 .have hk:(k+ZY.toArray.size).toNat=j:=by
   rw[seqIndex_neg _ h3]at h1<;>simp_all
  exact PySem.W.ki_setBack ho 0#0 (by simp_all) 0#0 (by rw[hk];exact⟨_,I',q⟩)
theorem zd(lo hi:Option Int)(n:Nat):(sliceBounds lo hi b_ n).1=((HT.sIx n 0 lo:Nat):Int)/\(sliceBounds lo hi b_ n).2.1=((HT.sIx n n hi:Nat):Int)/\(sliceBounds lo hi b_ n).2.2=1:=by
 refine⟨?_,?_,rfl⟩
 .cases lo with
  |none=>simp[sliceBounds,HT.sIx]
  | some i=>
    simp[sliceBounds,HT.sIx,Option.getD_none,show(1:Int)>0 by decide,if_true];by_cases h:i<0
    .simp only[h,if_true]<;>lia
    .simp[h,if_false]<;>lia
 .cases hi with
  |none=>simp[sliceBounds,HT.sIx]
  | some i=>
    simp[sliceBounds,HT.sIx,Option.getD_none,show(1:Int)>0 by decide,if_true];by_cases h:i<0
    .simp only[h,if_true]<;>lia
    .simp[h,if_false]<;>lia
theorem xn(ZY:List f_)(lo hi:Option Int):slicePick ZY.toArray lo hi b_=((ZY.drop (HT.sIx ZY.length 0 lo)).take (HT.sIx ZY.length ZY.length hi-HT.sIx ZY.length 0 lo)).toArray:=by
 obtain⟨h1,h2,h3⟩:=zd lo hi _;unfold slicePick;rw[h1,h2,h3];simp only[sliceRange_one,pick_run]<;>rfl
def Pb(K:aq):V->Option Int->Option Int->Hp->VK->Prop:=λx lo hi H Q=>∃a xs,x=.ref a/\SqL K H a xs /\ ∀p,H p=b_->Q (.ref p) (upd H p (.lst (F5 xs lo hi)))
theorem KO:SlR X (Pb X.K):=by
 intro pins s σ H x v vl vu lo hi sl Q I rx hs pl pu h;obtain⟨a,xs,rfl,hx,q⟩:=h;cases rx;obtain⟨ZY,r,ht,hz⟩:=I.list hx;have hlen:=r.length;refine⟨_,_,slot_list_getitem.lookup,ht.isList.typeIs,?_⟩;refine wpAny_getItem_list_slice ht.isList hs pl pu .none 0#4 ?_ (by grind);rw[xn,<-hlen];refine⟨.ref _,_,I.laid (λb ob q=>af _ q) (ak _) ?_,rfl,q _ (I.hok.fresh (ak _))⟩;exact⟨aK (tI xs lo hi) hz,_,0,(r.drop _).take _,av _ rfl⟩
def pA:V->Bool
 |.non=>c_
 |.bl _=>c_
 |.int _=>c_
 |.str _=>c_
 |_=>d_
def eqV:V->V->Bool
 |.non,.non=>c_
 |.bl a,.bl b=>a==b
 |.bl a,.int b=>(if a then 1 else 0)==b
 |.int a,.bl b=>a==(if b then 1 else 0)
 |.int a,.int b=>a==b
 |.str a,.str b=>a==b
 |_,_=>d_
variable{x:V}
theorem MR{A:Around}{y:V}{u v:f_}(ry:RelV y u)(rx:RelV x v)(fy:pA y=c_)(fx:pA x=c_):SeqAt.EqAt A s u v (eqV y x):=by
 cases y with
 | non=>
   cases ry;cases x with
   |non=>cases rx;exact SeqAt.EqAt.same _
   |bl b=>cases rx;exact SeqAt.EqAt.none_bool b
   |int b=>obtain⟨t,rfl⟩:=rx;exact SeqAt.EqAt.none_int b t
   |str b=>obtain⟨t,rfl⟩:=rx;exact SeqAt.EqAt.none_str b t
   |_=>exact absurd (fx) dm
 | bl a=>
   cases ry;cases x with
   |non=>cases rx;exact SeqAt.EqAt.bool_none a
   |bl b=>cases rx;exact SeqAt.EqAt.bool_bool a b
   |int b=>obtain⟨t,rfl⟩:=rx;exact SeqAt.EqAt.bool_int a b t
   |str b=>obtain⟨t,rfl⟩:=rx;exact SeqAt.EqAt.bool_str a b t
   |_=>exact absurd (fx) dm
 | int a=>
   obtain⟨t',rfl⟩:=ry;cases x with
   |non=>cases rx;exact SeqAt.EqAt.int_none a t'
   |bl b=>cases rx;exact SeqAt.EqAt.int_bool a t' b
   |int b=>obtain⟨t,rfl⟩:=rx;exact SeqAt.EqAt.int_int a t' b t
   |str b=>obtain⟨t,rfl⟩:=rx;exact E3 a t' b t
   |_=>exact absurd (fx) dm
 | str a=>
   obtain⟨t',rfl⟩:=ry;cases x with
   |non=>cases rx;exact SeqAt.EqAt.str_none a t'
   |bl b=>cases rx;exact SeqAt.EqAt.str_bool a t' b
   |int b=>obtain⟨t,rfl⟩:=rx;exact E4 a t' b t
   |str b=>obtain⟨t,rfl⟩:=rx;exact SeqAt.EqAt.str_str a t' b t
   |_=>exact absurd (fx) dm
 |_=>exact absurd (fy) dm
def eqU(x:V)(u:f_):Bool:=match u with
 |.none=>eqV .non x
 |.bool b=>eqV (.bl b) x
 |.int i _=>eqV (.int i) x
 |.str z _=>eqV (.str z) x
 |_=>d_
theorem HB{y:V}{u:f_}(r:RelV y u)(f:pA y=c_):eqU x u=eqV y x:=by
 cases y with
 |non=>cases r;rfl
 |bl b=>cases r;rfl
 |int i=>obtain⟨t,rfl⟩:=r;rfl
 |str z=>obtain⟨t,rfl⟩:=r;rfl
 |_=>exact absurd (f) dm
theorem qY{x:V}:∀{xs:List V}{us:List f_},cX xs us->xs.all pA=c_->us.any (eqU x)=xs.any λy=>eqV y x
 |_,_,.nil,_=>rfl
 | y::xs,u::us,.cons r t,f=>by
   rw[cH,aE]at f;rw[m7,m7,HB r f.1,qY t f.2]
theorem nW{A:Around}{s:g_}{x:V}{v:f_}(rx:RelV x v)(fx:pA x=c_):∀{xs:List V}{us:List f_},cX xs us->xs.all pA=c_->∀u∈us,SeqAt.EqAt A s u v (eqU x u)
 |_,_,.nil,_=>λu hu=>by cases hu
 | y::xs,u::us,.cons r t,f=>λu' hu=>by
   rw[cH,aE]at f;rcases aG.mp hu with rfl|hu
   .rw[HB r f.1];exact MR r rx f.1 fx
   .exact nW rx fx t f.2 u' hu
def inV(x:V)(xs:List V):Bool:=xs.any λy=>eqV y x
def rIn(K:aq)(neg:Bool):R2:=λx y H Q=>∃p xs,y=.ref p/\(SqL K H p xs\/SqT K H p xs)/\pA x=c_/\xs.all pA=c_/\Q (.bl (if neg then !inV x xs else inV x xs)) H
theorem FI:OpR X (compareOp .In) (rIn X.K d_):=by
 intro pins s σ H x y v u Q I rx ry h;obtain⟨p,xs,rfl,hq,fx,fs,q⟩:=h;cases ry;rcases hq with hq|hq
 .obtain⟨ZY,r,pl,hz⟩:=I.list hq
  refine SeqAt.in_listAt _ pl.isList (λw hw=>nW rx fx r fs w (by simpa using hw)) ⟨.bl _,H,I,rfl,?_⟩;rw[show ZY.toArray.any _=ZY.any (eqU x) by simp,qY r fs];exact q
 .obtain⟨ZY,r,pl,hz⟩:=I.tuple hq
  refine SeqAt.in_tupleAt _ pl (λw hw=>nW rx fx r fs w (by simpa using hw)) ⟨.bl _,H,I,rfl,?_⟩;rw[show ZY.toArray.any _=ZY.any (eqU x) by simp,qY r fs];exact q
theorem zB:OpR X (compareOp .NotIn) (rIn X.K c_):=by
 intro pins s σ H x y v u Q I rx ry h;obtain⟨p,xs,rfl,hq,fx,fs,q⟩:=h;cases ry;rcases hq with hq|hq
 .obtain⟨ZY,r,pl,hz⟩:=I.list hq
  refine SeqAt.notIn_listAt _ pl.isList (λw hw=>nW rx fx r fs w (by simpa using hw)) ⟨.bl _,H,I,rfl,?_⟩;rw[show ZY.toArray.any _=ZY.any (eqU x) by simp,qY r fs];exact q
 .obtain⟨ZY,r,pl,hz⟩:=I.tuple hq
  refine SeqAt.notIn_tupleAt _ pl (λw hw=>nW rx fx r fs w (by simpa using hw)) ⟨.bl _,H,I,rfl,?_⟩;rw[show ZY.toArray.any _=ZY.any (eqU x) by simp,qY r fs];exact q
theorem zM:jg X (.builtin "len") (fun xs H Q=>∃ p ys,xs=[.ref p]/\(SqL X.K H p ys\/SqT X.K H p ys)/\Q (.int ys.length) H):=by
 intro pins s σ H xs us Q I r h;obtain⟨p,ys,rfl,hq,q⟩:=h;obtain⟨u,rfl,rx⟩:=vals1 r;cases rx;have hn:=pY;rcases hq with hq|hq
 .obtain⟨ZY,r',pl,hz⟩:=I.list hq
  have hlen:=r'.length;exact Calls.call_len_list pl.isList (by simp only[bO]<;>lia) ⟨.int _,H,I.tok _,⟨_,by rw[bO,hlen]⟩,q⟩
 .obtain⟨ZY,r',pl,hz⟩:=I.tuple hq
  have hlen:=r'.length;exact len_tuple pl (by simp only[bO]<;>lia) ⟨.int _,H,I.tok _,⟨_,by rw[bO,hlen]⟩,q⟩
theorem jg.or{f:f_}{r r':List V->Hp->VK->Prop}(h:jg X f r)(h':jg X f r'):jg X f (λxs H Q=>r xs H Q\/r' xs H Q):=by
 intro pins s σ H xs us Q I rs q;rcases q with q|q
 .exact h _ s σ H xs us Q I rs q
 .exact h' _ s σ H xs us Q I rs q
theorem yU:jg X (.type "list") (fun xs H Q=>∃ p ys,xs=[.ref p]/\(SqL X.K H p ys\/SqT X.K H p ys) /\ ∀ l,H l=b_->Q (.ref l) (upd H l (.lst ys))):=by
 intro pins s σ H xs us Q I r h;obtain⟨p,ys,rfl,hq,q⟩:=h;obtain⟨u,rfl,rx⟩:=vals1 r;cases rx;have fin:∀(ZY:List _),cX ys _->ys.length<=sizeLine->∀(h':Heap) (c':Nat),(∀b o',s.heap.get? b=a_ o'->h'.get? b=a_ o') ->
   h'.get? _=a_ _->EP X _ σ Q _ _:=λZY r' hz h' c' kp e=>
  ⟨.ref _,_,I.laid (t':=s.toks) kp (ak _) (show ip _ _ _ h' _ (.lst ys) from⟨hz,ZY,c',r',e⟩),rfl,q _ (I.hok.fresh (ak _))⟩
 rcases hq with hq|hq
 .obtain⟨ZY,r',pl,hz⟩:=I.list hq
  have hlen:=r'.length;obtain⟨o,ho,hc,n,hd⟩:=pl.isList;exact call_list_seq p (.inl rfl) ho hc hd (λh' c' kp e=>fin _ r' hz h' c' kp e) (by simp<;>lia)
 .obtain⟨ZY,r',pl,hz⟩:=I.tuple hq
  have hlen:=r'.length;obtain⟨o,ho,hc,n,hd⟩:=pl;exact call_list_seq p (.inr rfl) ho hc hd (λh' c' kp e=>fin _ r' hz h' c' kp e) (by simp<;>lia)
theorem xk:jg X (.type "tuple") (fun xs H Q=>∃ p ys,xs=[.ref p]/\((SqL X.K H p ys /\ ∀ l,H l=b_->Q (.ref l) (upd H l (.tup ys)))\/(SqT X.K H p ys/\Q (.ref p) H))):=by
 intro pins s σ H xs us Q I r h;obtain⟨p,ys,rfl,h⟩:=h;obtain⟨u,rfl,rx⟩:=vals1 r;cases rx;rcases h with⟨hq,q⟩|⟨hq,q⟩
 .obtain⟨ZY,r',pl,hz⟩:=I.list hq
  have hlen:=r'.length;refine call_tuple_list pl.isList (λh' kp=>?_) (by simp<;>lia);have I1:=I.kept (t':=s.toks) kp;have I2:=
   I1.laid (t':=s.toks) (λb o e=>af _ e) (ak _) (show ip _ _ _ _ _ (.tup ys) from⟨hz,_,r',rJ _ _,_,av _ rfl,rfl⟩)
  exact⟨.ref _,_,I2,rfl,q _ (I1.hok.fresh (ak _))⟩
 .obtain⟨ZY,r',pl,hz⟩:=I.tuple hq
  exact call_tuple_same pl ⟨.ref p,H,I,rfl,q⟩
def tyV(K:aq)(T:String)(x:V)(H:Hp):Prop:=match x with
 |.str _=>T="str"
 |.int _=>T="int"
 | .ref p=>(T="list" /\ ∃ xs,SqL K H p xs)\/(T="tuple" /\ ∃ o,K.lookup p=a_ o/\o.cls=.type "tuple"/\o.dict=b_) \/
   (T="dict"/\((∃ kvs,H p=a_ (.dK kvs)) \/ ∃ kvs,H p=a_ (.dT kvs)))\/(T="set" /\ ∃ S n,H p=a_ (.set S n))
 |_=>False
theorem Ir{H:Hp}{T:String}{v:f_}(I:Inv X pins σ H s)(r:RelV x v)(ty:tyV X.K T x H):
  s.TypeIs v T /\ ∀a,v=.ref a->∃ob,s.heap.get? a=a_ ob/\ob.dict=b_:=by
 cases x with
 | str z=>
   obtain⟨t,rfl⟩:=r;cases (ty);exact⟨typeIs_str s z t,λ_ e=>nomatch e⟩
 | int i=>
   obtain⟨t,rfl⟩:=r;cases (ty);exact⟨typeIs_int s i t,λ_ e=>nomatch e⟩
 | ref p=>
   cases r;rcases ty with⟨rfl,xs,hq⟩|⟨rfl,o,hk,hc,hd⟩|⟨rfl,hk⟩|⟨rfl,S,n,hk⟩
   .obtain⟨ZY,_,pl,_⟩:=I.list hq
    refine⟨pl.isList.typeIs,λa e=>?_⟩;obtain⟨o,n,e,c,hd,_⟩:=pl<;>simp_all
   .refine⟨⟨o,I.kIn p o hk,hc⟩,λa e=>?_⟩
    cases e;exact⟨o,I.kIn _ o hk,hd⟩
   .have z:∃o,s.heap.get? p=a_ o/\o.ExactDict:=by
     rcases hk with⟨kvs,hk⟩|⟨kvs,hk⟩
     .obtain⟨_,_,_,_,o,_,_,e,ex,_⟩:=I.hok p _ hk<;>simp_all
     .obtain⟨_,_,_,_,o,_,_,e,ex,_⟩:=I.hok p _ hk<;>simp_all
    obtain⟨o,e,ex⟩:=z;refine⟨⟨o,e,ex.1⟩,λa e2=>?_⟩;cases e2;exact⟨o,e,ex.2.1⟩
   .obtain⟨o,_,_,_,e,ex,_⟩:=I.hok p _ hk
    refine⟨⟨o,e,ex.1⟩,λa e2=>?_⟩;cases e2;exact⟨o,e,ex.2.1⟩
 |_=>exact ej ty
def PJ(K:aq)(T:String)(r:V->List V->Hp->VK->Prop)(to:TE):TE:=λσ H Q=>to σ H λx H1=>tyV K T x H1/\r x [] H1 Q
def tBM(K:aq)(T:String)(r:V->List V->Hp->VK->Prop)(to:TE)(t:TA):TE:=λσ H Q=>to σ H λx H1=>tyV K T x H1/\t σ H1 λxs H2=>r x xs H2 Q
variable {o e:Expr}{es:List Expr}{to:TE}{t:TA}{name:Str}{apos cpos:Pos}{T id:String}{r:V->List V->Hp->VK->Prop}
theorem Ng(pa:PlainAttrs T)(slot:Slot T name id)(Uj:typeOf (.builtin id)=pure (.type "method_descriptor"))(hm:MtR X id r)(ho:PE X o to)
  (Zw:autoParam (attributeBase o name X.env (eval o X.env)=eval o X.env) 1#9) (Zx:autoParam ((apos.endLine==cpos.line)=c_) 1#9):PE X (.Call (.Attribute o name apos) [] [] cpos) (PJ X.K T r to):=by
 intro pins s σ H Q I h;refine wpAny_Call_method0_late Zw Zx (thn (ho _ s σ H _ I h) λv s1 ⟨x,H1,I1,r1,ty,q1⟩=>?_);obtain⟨h1,h2⟩:=Ir I1 r1 ty;exact⟨T,id,pa,slot,Uj,h1,h2,pf rfl (PySem.evalArgs_none (hm _ s1 σ H1 x [] v [] Q I1 r1 .nil q1))⟩
theorem HQ(pa:PlainAttrs T)(slot:Slot T name id)(Uj:typeOf (.builtin id)=pure (.type "method_descriptor"))(hm:MtR X id r)(ho:PE X o to)(ha:PA X (e::es) t)
  (Zw:autoParam (attributeBase o name X.env (eval o X.env)=eval o X.env) 1#9)
  (YI:autoParam (((backTo cpos (starEach (e::es) X.env)).all (λx => !x.1)&&(backToKw cpos (keywordEach [] X.env)).all (λx=>x.1.isSome)
   && decide ((e::es).length+([]:List Keyword).length+(if ([]:List Keyword).isEmpty then 0 else 1)<30))=c_) au1._auto_1)
  (Zx:autoParam ((apos.endLine==cpos.line)=c_) 1#9) (hs:autoParam 3#3 1#9) (YK:autoParam ((backTo cpos (starEach es X.env)).any (·.1)=d_) 1#9):
  PE X (.Call (.Attribute o name apos) (e::es) [] cpos) (tBM X.K T r to t):=by
 intro pins s σ H Q I h;refine wpAny_Call_method_late Zw YI Zx rfl (thn (ho _ s σ H _ I h) λv s1 ⟨x,H1,I1,r1,ty,q1⟩=>?_);obtain⟨h1,h2⟩:=Ir I1 r1 ty;refine⟨T,id,pa,slot,Uj,h1,h2,?_⟩;have hA:=ha cpos _ s1 σ H1 _ I1 q1;rw[hs]at hA ⊢;exact pf (by show(d_||(backTo _ _).any _)=d_;rw[YK]<;>rfl) (rE (thn hA λus s2 ⟨vs,H2,I2,r2,q2⟩=>hm _ s2 σ H2 x vs v us Q I2 r1 r2 q2))
end
def MtM(X:Cx)(id:String)(r:V->List V->Hp->VK->Prop):Prop:=
 ∀(pins:List (e_×Obj)) (s:g_) (σ:St) (H:Hp) (x:V) (xs:List V) (v:f_) (us:List f_) (Q:VK),Inv X pins σ H s->RelV x v->cX xs us->r x xs H Q ->
  aD 1#3 X.A (call (.builtin id) (v::us)) (EP X pins σ Q) X.xe s
theorem cX.one:∀{x:V}{us:List f_},cX [x] us->∃u,us=[u]/\RelV x u:=by
 intro x us h;cases h with |cons r t=>cases t;exact⟨_,rfl,r⟩
theorem cX.zero:∀{us:List f_},cX [] us->us=[]
 |_,.nil=>rfl
theorem cX.dropLast{xs:List V}{us:List f_}(h:cX xs us):cX xs.dropLast us.dropLast:=by
 induction h with
 |nil=>exact .nil
 | cons r t ih=>
   cases t with
   |nil=>exact .nil
   |cons q t'=>exact .cons r ih
theorem cX.eraseIdx:∀{xs:List V}{us:List f_} (i:Nat),cX xs us->cX (xs.eraseIdx i) (us.eraseIdx i)
 |_,_,_,.nil=>.nil
 |_,_,0,.cons _ t=>t
 |_,_,i+1,.cons r t=>.cons r (cX.eraseIdx i t)
theorem cX.rep{xs:List V}{us:List f_}(h:cX xs us):∀k:Nat,cX (aS k xs).flatten (aS k us).flatten
 |0=>.nil
 |k+1=>cX.append h (cX.rep h k)
theorem MQ{α:Type}(l:List α):l.eraseIdx (l.length-1)=l.dropLast:=by
 grind
theorem yD{α:Type}:∀(l:List α) (i:Nat),(l.eraseIdx i).length<=l.length
 |[],_=>ak _
 |_::_,0=>fS _
 |_::r,i+1=>Nat.succ_le_succ (yD r i)
section
variable {X:Cx}{pins:List (e_×Obj)}{σ:St}{H:Hp}{s:g_}{l b:e_}{xs ys zs:List V}
theorem Inv.lset{ZY Zg:List f_}{f:Array f_->Array f_}{t':Nat}(I:Inv X pins σ H s)(hH:H l=a_ (.lst xs))
  (e:s.heap.get? l=a_ { cls := .type "list",data := .seq ZY.toArray n }) (hf:f ZY.toArray=Zg.toArray) (hv:cX ys Zg) (hz:ys.length<=sizeLine) :
  Inv X pins σ (upd H l (.lst ys)) { s with heap:=s.heap.update l (cN f),toks:=t' }:=by
 have q:=JN e f;rw[hf]at q;refine I.write (by rw[hH];exact trivial) (.inl rfl) (λb' u hb hu=>(cQ _ _ (eD hb)).trans hu) ⟨_,q⟩ ?_;exact⟨hz,_,_,hv,q⟩
theorem Inv.lstM(I:Inv X pins σ H s)(hH:H l=a_ (.lst xs)):1#2<=sizeLine /\ ∃ (ZY:List f_) (n:Nat),cX xs ZY/\1#2=ZY.length/\s.heap.get? l=a_ { cls := .type "list",data := .seq ZY.toArray n }:=by
 obtain⟨z,ZY,n,r,e⟩:=I.hok l _ hH;exact⟨z,_,n,r,r.length,e⟩
theorem Bf(h:n<=sizeLine):ic n=d_:=decide_eq_false 0#0
end
section
variable {X:Cx}
def ED:V->List V->Hp->VK->Prop:=λx vs H Q=>∃l xs y,x=.ref l/\vs=[y]/\H l=a_ (.lst xs)/\1#2<sizeLine/\Q .non (upd H l (.lst (xs++[y])))
theorem Fh:MtM X "list.append" ED:=by
 intro pins s σ H x vs v us Q I rx rv h;obtain⟨l,xs,y,rfl,rfl,hH,hz,q⟩:=h;cases rx;obtain⟨u,rfl,ru⟩:=rv.one;obtain⟨z,ZY,n,r,hl,e⟩:=I.lstM hH;refine call_meets F.slot_list_append ⟨_,e,rfl⟩ F.entry_list_append (F.args_list_append_2 _ _) (PySem.list_append l _ n u (by grind)) ⟨e,?_⟩;refine⟨.non,_,I.lset hH e 0#4 (r.append (.cons ru .nil)) ?_,rfl,q⟩;rw[aU];assumption
def zi:V->List V->Hp->VK->Prop:=λx vs H Q=>∃l b xs zs,x=.ref l/\vs=[.ref b]/\H l=a_ (.lst xs)/\H b=a_ (.lst zs)/\1#2+zs.length<=sizeLine/\Q .non (upd H l (.lst (xs++zs)))
theorem FU:MtM X "list.extend" zi:=by
 intro pins s σ H x vs v us Q I rx rv h;obtain⟨l,b,xs,zs,rfl,rfl,hH,hB,hz,q⟩:=h;cases rx;obtain⟨u,rfl,ru⟩:=rv.one;cases ru;obtain⟨z,ZY,n,r,hl,e⟩:=I.lstM hH;obtain⟨z2,ZA,n2,r2,YZ,e2⟩:=I.lstM hB;have ZF:ZY.toArray.size+ZA.toArray.size<=sizeLine:=by grind
 have Yk: ¬(!ZY.toArray.isEmpty&&ic (ZY.toArray.size+ZA.toArray.size))=c_:=by
  rw[Bf ZF]
  grind
 refine call_meets F.slot_list_extend ⟨_,e,rfl⟩ F.entry_list_extend (F.args_list_extend_2 _ _)
  (AutoSeq1.list_extend_list_list_0 l _ n b _ n2 Yk (by grind) (aK 1#6 0#2)) ⟨e,e2,?_⟩
 refine⟨.non,_,I.lset hH e 0#4 (r.append r2) ?_,rfl,q⟩
 simp_all
def Qb:V->List V->Hp->VK->Prop:=λx vs H Q=>∃l xs y,x=.ref l/\vs=[]/\H l=a_ (.lst xs)/\xs[1#2-1]?=a_ y/\Q y (upd H l (.lst xs.dropLast))
theorem Og:MtM X "list.pop" Qb:=by
 intro pins s σ H x vs v us Q I rx rv h;obtain⟨l,xs,y,rfl,rfl,hH,hy,q⟩:=h;cases rx;have hus:=rv.zero;subst hus;obtain⟨z,ZY,n,r,hl,e⟩:=I.lstM hH;obtain⟨u,hu,ru⟩:=r.get hy;have Yc:=by
  show ZY.toArray[ZY.length-1]?=a_ u
  simp_all
 refine call_meets F.slot_list_pop ⟨_,e,rfl⟩ F.entry_list_pop (F.args_list_pop_1 _) (MeetsSeq.list_pop_last l _ n u Yc (by simp_all)) ⟨e,?_⟩;refine⟨y,_,I.lset hH e ?_ r.dropLast ?_,ru,q⟩
 .simp_all
 .rw[List.length_dropLast]
  lia
def He:V->List V->Hp->VK->Prop:=λx vs H Q=>∃l xs i k y,x=.ref l/\vs=[.int i]/\H l=a_ (.lst xs) /\ -(2^63)<=i/\i<2^63/\seqIndex? i 1#2=a_ k/\xs[k]?=a_ y/\Q y (upd H l (.lst (xs.eraseIdx k)))
theorem HA:MtM X "list.pop" He:=by
 intro pins s σ H x vs v us Q I rx rv h;obtain⟨l,xs,i,k,y,rfl,rfl,hH,h1,h2,hk,hy,q⟩:=h;cases rx;obtain⟨u,rfl,ru⟩:=rv.one;obtain⟨t,rfl⟩:=ru;obtain⟨z,ZY,n,r,hl,e⟩:=I.lstM hH;obtain⟨w,hw,Zc⟩:=r.get hy;refine call_meets F.slot_list_pop ⟨_,e,rfl⟩ F.entry_list_pop (F.args_list_pop_2 _ _)
  (MeetsSeq.list_pop_at l _ n i t k w (fitsIndex_both h1 h2) (by simp_all) (by simp_all) (by simp_all)) ⟨e,?_⟩
 refine⟨y,_,I.lset hH e ?_ (r.eraseIdx k) ?_,Zc,q⟩
 .simp_all
 .have:=yD xs k
  exact aK 1#6 1#6
theorem len_rep{α:Type}(xs:List α)(k:Nat):(aS k xs).flatten.length=k*1#2:=by
 simp_all
end
section
variable {prog:Program}{w:World}{A:Around}{E:f_->g_->Prop}{s:g_}
end
section
variable {X:Cx}
end
end _L
namespace Att
open PySem PySem.W PySem.Calls PyProof.Rows
variable{P:Params}{h:Heap}
theorem uc:∀(ns:List Int) (vs:List f_),WellAll P h vs (ns.map WData.int)->IntsAre vs ns:=by
 intro ns
 induction ns with
 | nil=>
   intro vs w;cases w;exact .nil
 | cons n ns ih=>
   intro vs w;cases w with
   | cons a b=>
     cases a;exact .cons _ _ (ih _ b)
variable{l:OpenLaw}{n:Nat}
theorem Gf(hn:l.most=a_ n){args:List WData}{vals:List f_}
  (XD:l.row.toRowW.claim.pre args=c_) (WG:WellAll P h vals args):
  ∃ a vs ns,vals=[bZ a]/\args=[WData.list (ns.map WData.int)]/\h.get? a=a_ { cls := .type "list",data := .seq vs.toArray }/\IntsAre vs ns/\ns.length<=n:=by
 obtain⟨d,r,rfl,h1,h2⟩:=hasAllW_cons ((pre_splitW XD).1);obtain rfl:=hasAllW_nil h2;obtain⟨xs,rfl,h3⟩:=hasW_list h1;obtain⟨ns,rfl⟩:=items_int h3;have hlen:=by
  have h4:=by
   have h4:=(holds_andW ((pre_splitW XD).2)).1;rw[hn]at h4;omega
  have h5:=condW_of h4 (w_not (w_lt w_lit (w_len_list (w_arg rfl))))
  first
   |grind
   |(simp at h5;omega)
 cases WG with
 | cons w1 w2=>
   cases w2;cases w1 with
   |list ho YA=>exact⟨_,_,ns,rfl,rfl,ho,uc ns _ YA,hlen⟩
theorem attach_call{q:Program}{loose:List Str}{XP:(Str->Option f_)->Heap->Prop}{YP:World->Heap->Prop}{d:DefRec}
  (hn:l.most=a_ n) (Wn:d.params.defaults=[])
  (call: ∀(w:World) (s₀ ZV:g_) (mg mb:Str->Option f_) (fa:e_) (o:Obj) (pm cd doc:f_) (a:e_) (vs:List f_) (ns:List Int),
   Ground q loose [] XP w s₀ mg mb ZV.heap->YP w ZV.heap ->
   ZV.heap.get? fa=a_ o->o.data=.func (docDef d.name d.params d.body d.scope pm cd doc)->ZV.heap.CodeRec cd d.name->mg d.name=a_ (.ref fa) ->
   ZV.heap.get? a=a_ { cls := .type "list",data := .seq vs.toArray }->IntsAre vs ns->ns.length<=n->ZV.gens = #[] ->
   pM (model l.prog w) callerA (.call (.ref fa) ⟨[.ref a],[]⟩) (λr s'=>r = .ok (.ret (.bool c_))/\OldK ZV.heap s'.heap/\s'.os=ZV.os/\AllBare s'.gens) ZV):
  WalkO q loose XP YP l.row.toRowW d [] (λf vs=>PySem.call f vs):=by
 intro w s₀ ZV mg mb C' Y fa o pm cd doc dV kV ho hd Z8 hD Wh hg args vals as XD hlay M' WG hlo;obtain rfl:dV=.none:=Dflts.none hD Wn;obtain rfl:kV=.none:=Dflts.noKw hD;obtain⟨a,vs,ns,rfl,rfl,Xd,hints,hlen⟩:=Gf hn XD WG;refine enter_call (jb (call w _ _ mg mb fa o pm cd _ a vs ns C' Y ho (fd_plain hd) Z8 Wh Xd hints hlen hg) λr s' hq=>?_);obtain⟨rfl,h2,h3,h4⟩:=hq
 exact⟨.inl ⟨_,_,[],rfl,λ_=>rfl,.bool _,(postW_of
  (by first |rfl |decide |simp)
  (w_eq_bool (w_res rfl) w_lit) rfl),λ_=>⟨iO,λ_ hm=>(nomatch hm)⟩⟩,h2,h3,h4⟩
section
variable {prog:Program}{w:World}{A:Around}{E:f_->g_->Prop}{s:g_}{K:Frag}
end
end Att
namespace _L
open PySem PySem.Spec PyProof.Rows
abbrev KOf{K:aq}{h:Heap}(_:K.In h):aq:=K
def ix(s:Stmt):Arguments:=match s with
 |.FunctionDef _ a _ _ _ _ _ _ _ _=>a
 |_=>{ posonlyargs:= [],args:= [],vararg:=b_,kwonlyargs:= [],kw_defaults:= [],kwarg:=b_,defaults:= [] }
def dJ(s:Stmt):List Stmt:=match s with
 |.FunctionDef _ _ b _ _ _ _ _ _ _=>b
 |_=>[]
def aH(s:Stmt):Scope:=match s with
 |.FunctionDef _ _ _ _ _ _ sc _ _ _=>sc
 |_=>{ kind:= .function,names:= [],isGenerator:=d_,isCoroutine:=d_ }
abbrev CX0:CXT:=λ_ _ _ _ _ _=>False
abbrev E0:XK:=λ_ _ _=>False
theorem EU{X:Cx}:yY CX0 X E0:=λ_ _ _ _ _ _ _ h=>h.elim
structure Fun(K:aq)(x qual:Str)(st:Stmt)(f:e_)(fd:FuncData):Prop where
 ex:∃(oc:f_) (od:Option e_) (kV doc pm:f_) (an:Option e_) (cdv ct:f_) (osl:Array (Option f_)),
  fd=d9 x qual (ix st) (dJ st) (aH st) .none kV doc pm an cdv ct/\K.lookup f=a_ ⟨oc,od,.func fd,osl⟩/\ju K cdv qual=c_
 kp:dZ K (.ref f)=c_
section
variable {P:Program}{w:World}{K:aq}{mg:Str->Option f_}{base:Heap}
variable{st:Stmt}{f:e_}{fd:FuncData}{ps:List Str}
theorem Fun.ok{x qual:Str}{N:List Str}{k:Nat}{sp:Sp}(F:Fun K x qual st f fd)(S:bo N ps (aH st))(len:∀vs H Q E,sp vs H Q E->2#1=ps.length)
  (Yi: ∀(cdv:f_) (A:Around) (outer:List Env) (s:g_) (H:Hp) (vs:List V) (Q:VK) (E:XK),lN k (A.deeper (envOfC qual (aH st) s.heap.objs.size f cdv))->sp vs H Q E ->
   ∃t,PSs (F7 CX0 P w K mg base N qual (aH st) f cdv A outer s H E).nox (dJ st) t/\t { nx:=λ_ H'=>Q .non H',rt:=Q } (start N vs) H):lJ P w K mg base CX0 (k+1) f fd ps sp:=by
 obtain⟨oc,od,kV,doc,pm,an,cdv,ct,osl,rfl,lk,Z8⟩:=F.ex;refine ES lk Z8 S len λA outer s H vs Q E hr YC=>?_;obtain⟨t,h,q⟩:=Yi _ A _ s H vs Q E hr YC;exact⟨t,h.nox,q⟩
theorem Fun.binds{x qual:Str}(F:Fun K x qual st f fd)
  (h:∀(kV doc pm:f_) (an:Option e_) (cdv ct:f_) (us:List f_),1#1=ps.length->bindArgs (d9 x qual (ix st) (dJ st) (aH st) .none kV doc pm an cdv ct) ⟨us,[]⟩=pure (ps.zip us)):Binds K fd ps []:=by
 obtain⟨oc,od,kV,doc,pm,an,cdv,ct,osl,rfl,lk,Z8⟩:=F.ex;exact .all (h kV _ pm an _ ct)
end
section
variable {X:Cx}
end
end _L
namespace HT
open PySem PyProof.Rows
section
open PySem.SeqAt
open PySem.AutoSeq1 (wpAny_loadPart')
open PySem.MeetsSeq PySem.MeetsSeq2 PySem.MeetsSeq3
end
section
variable {prog:Program}{w:World}{A:Around}{E:f_->g_->Prop}{s:g_}
end
end HT
namespace _L
open PySem PyProof.Rows
section
variable {X:Cx}
end
end _L
namespace PySem
namespace GE
theorem Kz(l:e_)(items:Array f_)(n:Nat)(b:e_)(Zr:Array f_)(n2:Nat)(sl:Array (Option f_))(Vd: ¬(!items.isEmpty&&ic (2#5+Zr.size))=c_)(WD:2#5<=sizeLine)(Zm:2#5+Zr.size<=sizeLine+1):
  Meets (Builtin.«list.extend» ⟨[.ref l,.ref b],[]⟩) (fun _ R s=>s.heap.get? l=a_ { cls := .type "list",dict:=b_,data := .seq items n,slots := #[] }/\s.heap.get? b=a_ { cls := .type "tuple",dict:=b_,data := .seq Zr n2,slots:=sl }/\R (.ok (.ret cJ)) { s with heap:=s.heap.update l (cN fun x=>x++Zr),toks:=s.toks }):=
 .of_wp λprog w A R s h=>by
  obtain⟨hp,g,d,tk,os⟩:=s;obtain⟨hl,hb,h⟩:=h;have f1:=JY;have f2:=AutoSeq1.sub_tuple_tuple;have f3:=AutoSeq1.sub_list_list;have f4:=AutoSeq1.sub_tuple_list;have f5:=AutoSeq1.sub_list_tuple;have VE:(items++Zr).size<=sizeLine+1:=by rw[Array.size_append];exact Zm
  wp_walk using (mM hl rfl (hz:=WD) (_hz':=VE)),fo hl,fo hb
  exact⟨_,rfl,h⟩
end GE
end PySem
namespace _L
open PySem PySem.Spec PyProof.Rows
section
variable {X:Cx}
def L0:V->List V->Hp->VK->Prop:=λx vs H Q=>∃l b xs zs,x=.ref l/\vs=[.ref b]/\H l=a_ (.lst xs)/\H b=a_ (.tup zs)/\1#2+zs.length<=sizeLine/\Q .non (upd H l (.lst (xs++zs)))
theorem Lq:MtM X "list.extend" fun x vs H Q=>zi x vs H Q\/L0 x vs H Q:=by
 intro pins s σ H x vs v us Q I rx rv h;rcases h with h|h
 .exact FU _ s σ H x vs v us Q I rx rv h
 obtain⟨l,b,xs,zs,rfl,rfl,hH,hB,hz,q⟩:=h;cases rx;obtain⟨u,rfl,ru⟩:=rv.one;cases ru;obtain⟨z,ZY,n,r,hl,e⟩:=I.lstM hH;obtain⟨z2,ZA,r2,⟨o,e2,c2,n2,d2⟩,o',e3,c3⟩:=I.hok b _ hB;rw[e2]at e3;cases e3;obtain⟨oc,od,dt,sl⟩:=o;cases c2;cases d2;cases c3;have l2:=r2.length;have ZF:ZY.toArray.size+ZA.toArray.size<=sizeLine:=by grind
 have Yk: ¬(!ZY.toArray.isEmpty&&ic (ZY.toArray.size+ZA.toArray.size))=c_:=by
  rw[Bf ZF]
  grind
 refine call_meets F.slot_list_extend ⟨_,e,rfl⟩ F.entry_list_extend (F.args_list_extend_2 _ _)
  (GE.Kz l _ n b _ n2 sl Yk (by grind) 0#0) ⟨e,e2,?_⟩
 refine⟨.non,_,I.lset hH e 0#4 (r.append r2) ?_,rfl,q⟩
 simp_all
end
end _L
namespace GQ
open PySem PySem.W PyProof.Rows
def gal:Bool->Keyed->Array Keyed->Nat->Nat->Nat->StateT SortSt Sem (Option Nat):=sortPriv% PySem.Builtin.gallop
def mLo:Array Keyed->Array Keyed->StateT SortSt Sem (Array Keyed):=sortPriv% PySem.Builtin.mergeLo
def mHi:Array Keyed->Array Keyed->StateT SortSt Sem (Array Keyed):=sortPriv% PySem.Builtin.mergeHi
def Dv(M:Model)(A:Around)(E:f_->g_->Prop)(s:g_)(κ:SortKind)(r:Keyed->Nat)(D:Keyed->Prop):Prop:=
 ∀(x y:Keyed) (st:SortSt) (Q:Option Bool->SortSt->Prop),kindOf st=κ->D x->D y->Q (a_ (decide (r x<r y))) st->wpS M A E s (lt' x y) Q st
def bey(r:Keyed->Nat)(left:Bool)(key x:Keyed):Bool:=if left then decide (r x<r key) else !decide (r key<r x)
section
variable {M:Model}{A:Around}{E:f_->g_->Prop}{s:g_}{κ:SortKind}{r:Keyed->Nat}{D:Keyed->Prop}{st:SortSt}
variable{i:Nat}
theorem kr{arr:Array Keyed}{x:Keyed}{Q:Keyed->SortSt->Prop}(h:arr[i]?=a_ x)(q:Q x st):wpS M A E s (elem' arr i) Q st:=by
 rw[elem'_eq,h];exact wpS_pure q
variable{c:Prop}
theorem w_t{α:Type}[Decidable c]{x y:StateT SortSt Sem α}{Q:α->SortSt->Prop}(h:c)(k:wpS M A E s x Q st):wpS M A E s (if c then x else y) Q st:=by rw[if_pos h];exact k
theorem w_f{α:Type}[Decidable c]{x y:StateT SortSt Sem α}{Q:α->SortSt->Prop}(h: ¬c)(k:wpS M A E s y Q st):wpS M A E s (if c then x else y) Q st:=by rw[if_neg h];exact k
theorem Sw{α:Type}[Decidable c]{x y:StateT SortSt Sem α}{Q:α->SortSt->Prop}(k:wpS M A E s x Q st)(l:wpS M A E s y Q st):wpS M A E s (if c then x else y) Q st:=by split<;>assumption
variable (o:Dv M A E s κ r D)
include o
variable{left:Bool}{key:Keyed}
theorem PU{x:Keyed}{arr:Array Keyed}{Q:Option Bool->SortSt->Prop}(hk:kindOf st=κ)(hx:arr[i]?=a_ x)(dx:D x)(dk:D key)(q:Q (a_ (bey r left key x)) st):
  wpS M A E s (elem' arr i >>= λx=>if left=c_ then lt' x key else lt' key x >>= λb=>pure (b.map λb=>!b)) Q st:=by
 refine wpS_bind (kr hx ?_);cases left with
 |true=>exact o x key st Q hk dx dk q
 |false=>exact wpS_bind (o key x st _ hk dk dx (wpS_pure q))
theorem Pp{arr:Array Keyed}{base n hint:Nat}{b:Nat->Bool}{Q:Option Nat->SortSt->Prop}(hB:∀i,i<n->∃x,arr[base+i]?=a_ x/\D x/\bey r left key x=b i)
  (mono:∀i j,i<=j->j<n->b j=c_->b i=c_) (hh:hint<n) (hk:kindOf st=κ) (dk:D key)
  (q:∀k,k<=n->(∀i,i<k->b i=c_)->(∀i,k<=i->i<n->b i=d_)->Q (a_ k) st):wpS M A E s (gal left key arr base n hint) Q st:=by
 have ask:∀i,i<n->∀Q:Option Bool->SortSt->Prop,Q (a_ (b i)) st->wpS M A E s (elem' arr (base+i) >>= λx=>if left=c_ then lt' x key else lt' key x >>= λb=>pure (b.map λb=>!b)) Q st:=λi hi Q q=>by
  obtain⟨x,hx,dx,e⟩:=hB i hi;exact PU o hk hx dx dk (by rw[e];exact q)
 have up:∀i j,i<=j->j<n->b i=d_->b j=d_:=λi j h1 h2 h3=>by
  cases h:b j with
  |false=>rfl
  |true=>rw[mono i j h1 h2 h]at h3;cases h3
 unfold gal;refine wpS_bind (ask hint hh _ ?_);refine have H:∀l f:Nat,l<=f->f<=n->(∀i,i<l->b i=c_)->(∀i,f<=i->i<n->b i=d_)->(?P1:Nat->Nat->Prop) l f:= ?h1;?k1
 case k1=>
  cases hb:b hint with
  | true=>
    simp only[if_true]
    refine wpS_bind (wpS_mono (wpS_forRange (I:=λx c Z'=>st=Z' /\ ∃l f,c=(b_,l,f)/\l<f/\x+1<=f/\hint+l<n/\b (hint+l)=c_)
     (Q:=λc Z'=>st=Z' /\ ∃l f,c=(b_,l,f)/\l<f/\hint+l<n/\b (hint+l)=c_/\(hint+f<n->b (hint+f)=d_)) ?_ ?_ ⟨rfl,0,1,rfl,Nat.one_pos,ak _,hh,hb⟩) ?_)
    .rintro x c Z' _ hx ⟨rfl,l,f,rfl,h1,h2,h3,h4⟩
     by_cases hf:f >= n-hint
     .refine w_t hf ?_
      exact wpS_pure ⟨rfl,l,f,rfl,h1,h3,h4,λ_=>by lia⟩
     .refine w_f hf ?_
      refine wpS_bind (ask (hint+f) 0#0 _ ?_);cases hm:b (hint+f) with
      |true=>exact wpS_pure ⟨rfl,f,2*f+1,rfl,by lia,by lia,by lia,hm⟩
      |false=>exact wpS_pure ⟨rfl,l,f,rfl,h1,h3,h4,λ_=>hm⟩
    .rintro c Z' ⟨rfl,l,f,rfl,h1,h2,h3,h4⟩
     exact⟨rfl,l,f,rfl,h1,h3,h4,λ_=>by lia⟩
    .rintro c Z' ⟨rfl,l,f,rfl,h1,h3,h4,h5⟩
     have c1:hint+l+1<=hint+min f (n-hint):=by lia
     have c2:hint+min f (n-hint)<=n:=by lia
     have c3:∀i,i<hint+l+1->b i=c_:=λi hi=>mono i _ (d6 hi) h3 h4
     have c4: ∀i,hint+min f (n - hint)<=i->i<n->b i=d_:=λi hi hn=>up _ i hi hn (by
      have:hint+min f (n-hint)=hint+f:=by lia
      rw[this];exact h5 (by lia))
     dsimp only;generalize hint+l+1=lo at c1 c3;generalize hint+min f (n-hint)=hi at c1 c2 c4;exact H lo hi c1 c2 c3 c4
  | false=>
    simp only[eP,if_false]
    refine wpS_bind (wpS_mono (wpS_forRange (I:=λx c Z'=>st=Z' /\ ∃l f,c=(b_,l,f)/\l<f/\x+1<=f/\l<=hint/\b (hint - l)=d_)
     (Q:=λc Z'=>st=Z' /\ ∃l f,c=(b_,l,f)/\l<f/\l<=hint/\b (hint - l)=d_/\(f<=hint->b (hint - f)=c_)) ?_ ?_ ⟨rfl,0,1,rfl,Nat.one_pos,ak _,bS _,hb⟩) ?_)
    .rintro x c Z' _ hx ⟨rfl,l,f,rfl,h1,h2,h3,h4⟩
     by_cases hf:f >= hint+1
     .refine w_t hf ?_
      exact wpS_pure ⟨rfl,l,f,rfl,h1,h3,h4,λ_=>by lia⟩
     .refine w_f hf ?_
      refine wpS_bind (ask (hint-f) 0#0 _ ?_);cases hm:b (hint-f) with
      |true=>exact wpS_pure ⟨rfl,l,f,rfl,h1,h3,h4,λ_=>hm⟩
      |false=>exact wpS_pure ⟨rfl,f,2*f+1,rfl,by lia,by lia,by lia,hm⟩
    .rintro c Z' ⟨rfl,l,f,rfl,h1,h2,h3,h4⟩
     exact⟨rfl,l,f,rfl,h1,h3,h4,λ_=>by lia⟩
    .rintro c Z' ⟨rfl,l,f,rfl,h1,h3,h4,h5⟩
     have c1:hint+1-min f (hint+1)<=hint-l:=by lia
     have c2:hint-l<=n:=by lia
     have c3:∀i,i<hint+1-min f (hint+1)->b i=c_:=λi hi=>mono i (hint-f) 0#0 0#0 (h5 0#0);have c4:∀i,hint-l<=i->i<n->b i=d_:=λi hi hn=>up _ i hi hn h4;generalize hint+1-min f (hint+1)=lo at c1 c3;generalize hint-l=hi at c1 c2 c4;exact H lo hi c1 c2 c3 c4
 clear hh hB;intro l f g1 g2 g4 g5
 refine wpS_bind (wpS_mono (wpS_forRange (I:=λx c Yw=>Yw=st /\ ∃l f,c=(b_,l,f)/\l<=f/\f<=n/\f - l<=n - x/\(∀i,i<l->b i=c_)/\(∀i,f<=i->i<n->b i=d_))
  (Q:=λc Yw=>Yw=st /\ ∃l,c=(b_,l,l)/\l<=n/\(∀i,i<l->b i=c_)/\(∀i,l<=i->i<n->b i=d_)) ?_ ?_ ⟨rfl,l,f,rfl,g1,g2,by lia,g4,g5⟩) ?_)
 .clear g1 g2 g4 g5
  rintro x c Yw _ hx ⟨rfl,l,f,rfl,g1,g2,g3,g4,g5⟩;dsimp only;by_cases hf:l >= f
  .refine w_t hf ?_
   obtain rfl:=BY g1 hf;exact wpS_pure ⟨rfl,l,rfl,g2,g4,g5⟩
  .refine w_f hf ?_
   have q1:l<=l+(f-l)/2:=fw _ _;have q2:l+(f-l)/2<f:=by lia
   refine wpS_bind (ask (l+(f-l)/2) (ai q2 g2) _ ?_);cases hm:b (l+(f-l)/2) with
   |true=>exact wpS_pure ⟨rfl,_,_,rfl,q2,g2,by lia,λi hi=>mono i _ (d6 hi) (ai q2 g2) hm,g5⟩
   |false=>exact wpS_pure ⟨rfl,_,_,rfl,q1,aK (aI q2) g2,by lia,g4,λi hi hn=>up _ i hi hn hm⟩
 .clear g1 g2 g4 g5
  rintro c Yw ⟨rfl,l,f,rfl,g1,g2,g3,g4,g5⟩;obtain rfl:l=f:=by lia
  exact⟨rfl,l,rfl,g2,g4,g5⟩
 .rintro c Yw ⟨rfl,l,rfl,g2,g4,g5⟩
  exact wpS_pure (q l g2 g4 g5)
end
structure Jn(lt:Keyed->Keyed->Prop)(T out A B:List Keyed):Prop where
 p:(out++(A++B)).Perm T
 a:(out++A).Pairwise lt
 b:(out++B).Pairwise lt
section
variable {lt:Keyed->Keyed->Prop}{T out A B A1 A2:List Keyed}{x y:Keyed}
theorem Jn.sym(j:Jn lt T out A B):Jn lt T out B A:=⟨(List.perm_append_comm.append_left out).trans j.p,j.b,j.a⟩
theorem Jn.mv(j:Jn lt T out (A1++A2) B)(h:∀x∈A1,∀y∈B,lt x y):Jn lt T (out++A1) A2 B:=by
 have ha:=j.a;have hb:=j.b;rw[<-bz]at ha;refine⟨by rw[bz,<-bz A1];exact j.p,ha,?_⟩;rw[dH]at ha hb ⊢;refine⟨ha.1,hb.2.1,λx hx y hy=>?_⟩;rcases aQ.mp hx with hx |hx
 .exact hb.2.2 x hx y hy
 .exact h x hx y hy
theorem Jn.m1(j:Jn lt T out (x::A2) B)(h:∀y∈B,lt x y):Jn lt T (out++[x]) A2 B:=Jn.mv (A1:= [x]) j λz hz y hy=>by rw[bx.mp hz];exact h y hy
theorem Jn.fin(j:Jn lt T out A []):(out++A).Perm T/\(out++A).Pairwise lt:=⟨by have:=j.p;rwa[cb]at this,j.a⟩
theorem Jn.las(j:Jn lt T out A B)(h:∀x∈A,∀y∈B,lt x y):(out++A++B).Perm T/\(out++A++B).Pairwise lt:=(Jn.mv (A2:= []) (by rw[cb];exact j) h).sym.fin
theorem Jn.hd(j:Jn lt T out (x::A) B):∀y∈A,lt x y:=(jh.mp (dH.mp j.a).2.1).1
theorem Jn.ln(j:Jn lt T out A B):out.length+(A.length+B.length)=T.length:=by
 have:=j.p.length_eq;rwa[aU,aU]at this
end
def Eg(st Z':SortSt):Prop:=kindOf Z'=kindOf st/\arrOf Z'=arrOf st/\pendingOf Z'=pendingOf st/\failedOf Z'=failedOf st
theorem Eg.refl(st:SortSt):Eg st st:=⟨rfl,rfl,rfl,rfl⟩
variable{i:Nat}{a:Array Keyed}
theorem xH(h:i<a.size):∃x,a[i]?=a_ x/\x∈a.toList/\a.toList.drop i=x::a.toList.drop (i+1):=
 ⟨a[i],bW h,by simp,by rw[eN (by simpa using h)];simp⟩
theorem rV(h0:0<i)(h:i<=a.size):∃x,a[i-1]?=a_ x/\x∈a.toList/\(a.toList.take i).reverse=x::(a.toList.take (i-1)).reverse:=by
 obtain⟨j,rfl⟩ :∃j,i=j+1:=⟨i-1,by lia⟩;rw[Nat.add_sub_cancel];have hj:j<a.toList.length:=by rw[bR];exact h
 exact⟨a[j],bW h,by simp,by rw[List.take_succ_eq_append_getElem hj];simp⟩
theorem Ff(a:Array Keyed)(i:Nat):(a.extract i).toList=a.toList.drop i:=by
 simp only[Array.toList_extract,fO];exact cR 0#4
theorem F6(a:Array Keyed)(i j:Nat):(a.extract i j).toList=(a.toList.drop i).take (j-i):=by simp[fO]
section
variable {M:Model}{A:Around}{E:f_->g_->Prop}{s:g_}{κ:SortKind}{r:Keyed->Nat}{D:Keyed->Prop}{st:SortSt}
variable (o:Dv M A E s κ r D)
include o
theorem Gq{left:Bool}{key:Keyed}{arr:Array Keyed}{base n hint:Nat}{Q:Option Nat->SortSt->Prop}{L:List Keyed}(hL:(arr.toList.drop base).take n=L)(hn:base+n<=arr.size)(sr:L.Pairwise λx y=>r x<r y)(dl:∀x∈L,D x)(ne:∀x∈L,r x≠r key)
  (hh:hint<n) (hk:kindOf st=κ) (dk:D key) (q:∀L1 Lb,L=L1++Lb->(∀x∈L1,r x<r key)->(∀x∈Lb,r key<r x)->Q (a_ L1.length) st):wpS M A E s (gal left key arr base n hint) Q st:=by
 have ll:L.length=n:=by rw[<-hL];simp;lia
 have gt:∀i (h:i<n),arr[base+i]?=a_ (L[i]' 0#0):=λi h=>by
  have:L[i]?=a_ (L[i]' 0#0):=aC _;rw[<-this,<-hL,uM,if_pos h,List.getElem?_drop,cq]
 refine Pp o (b:=λi=>decide (r (L.getD i key)<r key)) (λi hi=>⟨_,gt i hi,dl _ (bP _),?_⟩) (λi j YN hj h=>?_) hh hk dk λk WJ h1 h2=>?_
 .have hl:i<L.length:=by lia
  have e:L.getD i key=L[i]:=by simp[hl]
  have ZN:=ne _ (bP hl);rw[e];cases left with
  |true=>rfl
  | false=>
    show(!decide (r key<r L[i]))=decide (r L[i]<r key);by_cases h:r L[i]<r key
    .rw[decide_eq_true h,decide_eq_false 0#0];rfl
    .rw[decide_eq_false h,decide_eq_true 0#0];rfl
 .have ZM:i<L.length:=by lia
  have Zz:j<L.length:=by lia
  have e1:L.getD i key=L[i]:=by simp[ZM]
  have e2:L.getD j key=L[j]:=by simp[Zz]
  simp only[e1,e2,decide_eq_true_eq]at h ⊢;rcases JO i j with g|g
  .have:=di.mp sr i j ZM Zz g
   exact aX 0#5 0#5
  .obtain rfl:i=j:=by lia
   exact h
 .have:=q (L.take k) (L.drop k) (hC k L).symm (λx hx=>?_) λx hx=>?_
  .rwa[c6,lu 0#0]at this
  .obtain⟨i,hi,rfl⟩:=kI.mp hx
   rw[c6]at hi;have:=h1 i 0#0;have e1:L.getD i key=L[i]' 0#0:=by simp[show i<L.length by lia]
   simp only[e1,decide_eq_true_eq]at this;simpa using this
  .obtain⟨i,hi,rfl⟩:=kI.mp hx
   rw[iJ]at hi;have:=h2 (k+i) 0#0 0#0;have hl:k+i<L.length:=by lia
   have e1:L.getD (k+i) key=L[k+i]' 0#5:=by simp[hl]
   simp only[e1,decide_eq_false_iff_not]at this;have ZN:=ne _ (bP hl);simp only[List.getElem_drop]
   lia
end
section
variable {M:Model}{A:Around}{E:f_->g_->Prop}{s:g_}{κ:SortKind}{r:Keyed->Nat}{D:Keyed->Prop}{st:SortSt}
variable (o:Dv M A E s κ r D)
include o
theorem RP{a b:Array Keyed}{Q:Array Keyed->SortSt->Prop}(hk:kindOf st=κ)(h1:0<a.size)(h2:0<b.size)(sa:a.toList.Pairwise λx y=>r x<r y)(sb:b.toList.Pairwise λx y=>r x<r y)(ne:∀x∈a.toList,∀y∈b.toList,r x≠r y)(da:∀x∈a.toList,D x)(db:∀x∈b.toList,D x)
  (fst:∀y,b[0]?=a_ y->∀x∈a.toList,r y<r x) (lst:∀x,a[a.size-1]?=a_ x->∀y∈b.toList,r y<r x)
  (q:∀out Z',Eg st Z'->out.toList.Perm 2#4->(out.toList.Pairwise λx y=>r x<r y)->Q out Z'):wpS M A E s (mLo a b) Q st:=by
 have dn:∀{out:Array Keyed}{i:Nat},Jn (λx y=>r x<r y) 2#4 out.toList (a.toList.drop i) []->∀{j:Nat},b.toList.drop j=[]->(out++a.extract i++b.extract j).toList.Perm 2#4/\(out++a.extract i++b.extract j).toList.Pairwise λx y=>r x<r y:=λ{out i} J {j} hj=>by
  rw[cx,cx,Ff,Ff,hj,cb];exact J.fin
 have dn2:∀{out:Array Keyed}{i:Nat},Jn (λx y=>r x<r y) 2#4 out.toList [] (b.toList.drop i)->∀{j:Nat},a.toList.drop j=[]->(out++a.extract j++b.extract i).toList.Perm 2#4/\(out++a.extract j++b.extract i).toList.Pairwise λx y=>r x<r y:=λ{out i} J {j} hj=>by
  rw[cx,cx,Ff,Ff,hj,cb];exact J.sym.fin
 have ls:∀{out:Array Keyed}{i j:Nat},Jn (λx y=>r x<r y) 2#4 out.toList (a.toList.drop i) (b.toList.drop j)->i+1=a.size->(out++b.extract j++a.extract i).toList.Perm 2#4/\(out++b.extract j++a.extract i).toList.Pairwise λx y=>r x<r y:=λ{out i j} J hi=>by
  rw[cx,cx,Ff,Ff];refine J.sym.las λx hx y hy=>?_;obtain⟨z,z1,z2,z3⟩:=xH (a:=a) (i:=i) (by exact Nat.le_of_eq 0#5);rw[z3,dO (by simp;lia)]at hy;rw[bx.mp hy];exact lst z (by rw[show a.size-1=i by lia];exact z1) x (fR hx)
 unfold mLo;refine wpS_bind (wpS_lift (fb ⟨rfl,?_⟩));obtain⟨y0,e0,m0,d0⟩:=xH h2;refine wpS_bind (kr e0 ?_);have J0:Jn (λx y=>r x<r y) 2#4 (#[y0]:Array Keyed).toList (a.toList.drop 0) (b.toList.drop 1):=by
  refine Jn.sym (Jn.m1 (out:= []) (x:=y0) ⟨?_,?_,?_⟩ λx hx=>fst y0 e0 x hx)
  .rw[eh,<-d0,rK];exact List.perm_append_comm
  .rw[eh,<-d0];exact sb
  .exact sa
 by_cases c1:1=b.size
 .refine w_t (by simpa using c1) ?_
  have hd:b.toList.drop 1=[]:=dO (by simp;lia);rw[hd]at J0;exact wpS_pure (q _ _ (.refl _) (dn J0 hd).1 (dn J0 hd).2)
 refine w_f (by simpa using c1) ?_;by_cases c2:0+1=a.size
 .refine w_t (by simpa using c2) ?_
  exact wpS_pure (q _ _ (.refl _) (ls J0 c2).1 (ls J0 c2).2)
 refine w_f (by simpa using c2) ?_;refine wpS_bind (wpS_get ?_);have KK:∀{Z'},Eg st Z'->kindOf Z'=κ:=λg=>g.1.trans hk
 refine wpS_bind (wpS_mono (wpS_forRange
  (I:=λx c Z'=>Eg st Z' /\ ∃out i j mg,c=(b_,out,i,j,mg)/\Jn (λx y=>r x<r y) 2#4 out.toList (a.toList.drop i) (b.toList.drop j)/\i+1<a.size/\j<b.size/\x+1<=i+j)
  (Q:=λc Z'=>Eg st Z' /\ ∃out c',c=(a_ out,c')/\out.toList.Perm 2#4/\out.toList.Pairwise λx y=>r x<r y)
  ?_ ?_ ⟨.refl _,_,0,1,_,rfl,J0,by exact bH (by assumption) (by assumption),by exact bH (by assumption) (by assumption),by decide⟩) ?_)
 .rintro x c ZH _ hx ⟨g1,out,i,j,mg,rfl,J,hi,hj,hp⟩
  refine wpS_bind (wpS_mono (wpS_forRange
   (I:=λy c Z'=>Eg st Z' /\ ∃out i j c',c=(b_,out,i,j,c')/\Jn (λx y=>r x<r y) 2#4 out.toList (a.toList.drop i) (b.toList.drop j)/\i+1<a.size/\j<b.size/\x+1+min y 1<=i+j)
   (Q:=λc Z'=>Eg st Z'/\((∃out i j c',c=(b_,out,i,j,c')/\Jn (λx y=>r x<r y) 2#4 out.toList (a.toList.drop i) (b.toList.drop j)/\i+1<a.size/\j<b.size/\x+2<=i+j) \/ ∃out c',c=(a_ out,c')/\out.toList.Perm 2#4/\out.toList.Pairwise λx y=>r x<r y))
   ?_ ?_ ⟨g1,_,_,_,_,rfl,J,hi,hj,by assumption⟩) ?_)
  .clear J hi hj hp h1 h2 c1 c2 J0
   rintro y c Zj _ hy ⟨g2,out,i,j,c',rfl,J,hi,hj,hp⟩;obtain⟨u,u1,u2,u3⟩:=xH hj;obtain⟨v,v1,v2,v3⟩:=xH (a:=a) (i:=i) (by exact aI 0#5);refine wpS_bind (kr u1 (wpS_bind (kr v1 (wpS_bind (o _ _ _ _ (KK g2) (db u u2) (da v v2) ?_)))));rw[u3,v3]at J;have ZN:=ne v v2 u u2;by_cases hl:r u<r v
   .rw[decide_eq_true hl]
    dsimp only;refine w_t rfl ?_;refine wpS_bind (kr u1 ?_)
    have J':=J.sym.m1 (λz hz=>by
     rcases aG.mp hz with rfl|hz
     .exact hl
     ·exact aX hl (J.hd z hz))
    rw[<-v3,<-dA]at J';have J':=J'.sym;by_cases e:j+1=b.size
    .refine w_t (by simpa using e) ?_
     have hd:b.toList.drop (j+1)=[]:=dO (by simp;lia);rw[hd]at J';exact wpS_pure ⟨g2,.inr ⟨_,_,rfl,dn J' hd⟩⟩
    .refine w_f (by simpa using e) ?_
     split
     .exact wpS_pure ⟨g2,.inl ⟨_,_,_,_,rfl,J',hi,by exact bH 0#5 0#5,by lia⟩⟩
     .exact wpS_pure ⟨g2,_,_,_,_,rfl,J',hi,by exact bH 0#5 0#5,by lia⟩
   .rw[decide_eq_false hl]
    dsimp only;refine w_f 0#2 ?_;refine wpS_bind (kr v1 ?_)
    have J':=J.m1 (λz hz=>by
     rcases aG.mp hz with rfl|hz
     .lia
     ·exact aX (show r v<r u by lia) (J.sym.hd z hz))
    rw[<-u3,<-dA]at J';by_cases e:i+1+1=a.size
    .refine w_t (by simpa using e) ?_
     exact wpS_pure ⟨g2,.inr ⟨_,_,rfl,ls J' e⟩⟩
    .refine w_f (by simpa using e) ?_
     split
     .exact wpS_pure ⟨g2,.inl ⟨_,_,_,_,rfl,J',by exact bH 0#5 0#5,hj,by lia⟩⟩
     .exact wpS_pure ⟨g2,_,_,_,_,rfl,J',by exact bH 0#5 0#5,hj,by lia⟩
  .clear J hi hj hp h1 h2 c1 c2 J0
   rintro c Zj ⟨g2,out,i,j,c',rfl,J,hi,hj,hp⟩;exact⟨g2,.inl ⟨_,_,_,_,rfl,J,hi,hj,by lia⟩⟩
  .clear J hi hj hp h1 h2 c1 c2 J0
   rintro c Zj ⟨g2,⟨out,i,j,⟨ac,bc⟩,rfl,J,hi,hj,hp⟩|⟨out,⟨o1,i,j,ac,bc⟩,rfl,h⟩⟩
   .dsimp only
    refine wpS_bind (wpS_lift (fb ⟨rfl,?_⟩))
    refine wpS_bind (wpS_mono (wpS_forRange
     (I:=λy c Z'=>Eg st Z' /\ ∃out i j c',c=(b_,out,i,j,c')/\Jn (λx y=>r x<r y) 2#4 out.toList (a.toList.drop i) (b.toList.drop j)/\i+1<a.size/\j<b.size/\x+2<=i+j)
     (Q:=λc Z'=>Eg st Z'/\((∃out i j c',c=(b_,out,i,j,c')/\Jn (λx y=>r x<r y) 2#4 out.toList (a.toList.drop i) (b.toList.drop j)/\i+1<a.size/\j<b.size/\x+2<=i+j) \/ ∃out c',c=(a_ out,c')/\out.toList.Perm 2#4/\out.toList.Pairwise λx y=>r x<r y))
     ?_ ?_ ⟨g2,_,_,_,_,rfl,J,hi,hj,hp⟩) ?_)
    .clear J hi hj hp
     rintro y c ZC _ hy ⟨g3,out,i,j,⟨mg,ac,bc⟩,rfl,J,hi,hj,hp⟩;obtain⟨u,u1,u2,u3⟩:=xH hj;refine have H:∀m:Nat,(?P1:Nat->Prop) m:= ?h1;?k1
     case k1=>
      by_cases c:mg>1
      .refine w_t c ?_
       generalize mg-1=m;exact H m
      .refine w_f c ?_
       exact H mg
     intro m;refine wpS_bind (wpS_modify (wpS_bind (kr u1 (wpS_bind (Gq o (arr:=a) (base:=i) (n:=a.size-i) (L:=a.toList.drop i) (cR 0#4) 0#0 (sa.sublist (wV _ _)) (λz hz=>da z (fR hz)) (λz hz=>ne z (fR hz) u u2) 0#0 (KK g3) (db u u2) λL1 Lb eL f1 f2=>?_)))));have ll:L1.length+Lb.length=a.size-i:=by
      have:=congrArg eV eL;simpa using this.symm
     have ed:a.toList.drop (i+L1.length)=Lb:=by rw[<-lU,eL,eE]
     have et:(a.extract i (i+L1.length)).toList=L1:=by rw[F6,eB,eL,fA]
     rw[eL,u3]at J
     have J1:=J.mv (λz hz w hw=>by
      rcases aG.mp hw with rfl|hw
      .exact f1 z hz
      ·exact aX (f1 z hz) (J.sym.hd w hw))
     refine have H:∀(out:Array Keyed) (i:Nat),Jn (λx y=>r x<r y) 2#4 out.toList (a.toList.drop i) (u::b.toList.drop (j+1))->(∀z∈a.toList.drop i,r u<r z)->i+1<a.size->x+2<=i+j->(?P2:Array Keyed->Nat->Prop) out i:= ?h2;?k2
     case k2=>
      by_cases c:L1.length>0
      .refine w_t c ?_
       rw[<-et,<-cx (xs:=out),<-ed]at J1;rw[<-ed]at f2;generalize out++a.extract i (i+L1.length)=out2 at J1;by_cases c2:i+L1.length+1=a.size
       .refine w_t (by simpa using c2) ?_
        rw[<-u3]at J1;exact wpS_pure ⟨g3,.inr ⟨_,_,rfl,ls J1 c2⟩⟩
       .refine w_f (by simpa using c2) ?_
        by_cases c3:i+L1.length=a.size
        .refine w_t (by simpa using c3) ?_
         rw[dO (by simp;lia),<-u3]at J1;exact wpS_pure ⟨g3,.inr ⟨_,_,rfl,dn2 J1 (dO (by simp;lia))⟩⟩
        .refine w_f (by simpa using c3) ?_
         have h3:i+L1.length+1<a.size:=by lia
         have h4:x+2<=i+L1.length+j:=by lia
         generalize i+L1.length=i2 at J1 f2 h3 h4;exact H out2 i2 J1 f2 h3 h4
      .refine w_f c ?_
       obtain rfl:L1=[]:=cu.mp 0#0;rw[cb,<-ed]at J1;rw[<-ed]at f2;exact H out i J1 f2 hi hp
     clear J J1 ed et eL f1 f2 ll hi hp;intro out i J f2 hi hp;refine wpS_bind (kr u1 ?_);have J:=J.sym.m1 f2;rw[<-dA]at J;by_cases c:j+1=b.size
     .refine w_t (by simpa using c) ?_
      have hd:b.toList.drop (j+1)=[]:=dO (by simp;lia);rw[hd]at J;exact wpS_pure ⟨g3,.inr ⟨_,_,rfl,dn J.sym hd⟩⟩
     refine w_f (by simpa using c) ?_;obtain⟨v,v1,v2,v3⟩:=xH (a:=a) (i:=i) (by exact aI 0#5);refine wpS_bind (kr v1 (wpS_bind (Gq o (arr:=b) (base:=j+1) (n:=b.size-(j+1)) (L:=b.toList.drop (j+1)) (cR 0#4) 0#0 (sb.sublist (wV _ _)) (λz hz=>db z (fR hz)) (λz hz=>(ne v v2 z (fR hz)).symm) 0#0 (KK g3) (da v v2) λM1 M2 eM k1 k2=>?_)));have ll:M1.length+M2.length=b.size-(j+1):=by
      have:=congrArg eV eM;simpa using this.symm
     have ed:b.toList.drop (j+1+M1.length)=M2:=by rw[<-lU,eM,eE]
     have et:(b.extract (j+1) (j+1+M1.length)).toList=M1:=by rw[F6,eB,eM,fA]
     rw[eM,v3]at J
     have J1:=J.mv (λz hz w hw=>by
      rcases aG.mp hw with rfl|hw
      .exact k1 z hz
      ·exact aX (k1 z hz) (J.sym.hd w hw))
     generalize out.push u=out1 at J1 J;refine have H:∀(out:Array Keyed) (j:Nat),Jn (λx y=>r x<r y) 2#4 out.toList (v::a.toList.drop (i+1)) (b.toList.drop j)->(∀z∈b.toList.drop j,r v<r z)->j<b.size->x+2<=i+j->(?P3:Array Keyed->Nat->Prop) out j:= ?h3;?k3
     case k3=>
      by_cases c:M1.length>0
      .refine w_t c ?_
       rw[<-et,<-cx (xs:=out1),<-ed]at J1;rw[<-ed]at k2;generalize out1++b.extract (j+1) (j+1+M1.length)=out2 at J1;by_cases c2:j+1+M1.length=b.size
       .refine w_t (by simpa using c2) ?_
        have hd:b.toList.drop (j+1+M1.length)=[]:=dO (by simp;lia);rw[hd,<-v3]at J1;exact wpS_pure ⟨g3,.inr ⟨_,_,rfl,dn J1.sym hd⟩⟩
       .refine w_f (by simpa using c2) ?_
        have h3:j+1+M1.length<b.size:=by lia
        have h4:x+2<=i+(j+1+M1.length):=by lia
        generalize j+1+M1.length=j2 at J1 k2 h3 h4;exact H out2 j2 J1.sym k2 h3 h4
      .refine w_f c ?_
       obtain rfl:M1=[]:=cu.mp 0#0;rw[cb,<-ed]at J1;rw[<-ed]at k2;have h3:j+1+0<b.size:=by exact bH 0#5 0#5
       have h4:x+2<=i+(j+1+0):=by exact dD 0#5
       exact H out1 (j+1) J1.sym k2 h3 h4
     clear J J1 ed et eM k1 k2 ll;intro out j J k2 hj hp;refine wpS_bind (kr v1 ?_);have J:=J.m1 k2;rw[<-dA]at J;by_cases c:i+1+1=a.size
     .refine w_t (by simpa using c) ?_
      exact wpS_pure ⟨g3,.inr ⟨_,_,rfl,ls J c⟩⟩
     refine w_f (by simpa using c) ?_
     split
     .exact wpS_pure ⟨g3,.inl ⟨_,_,_,_,rfl,J,by exact bH 0#5 0#5,hj,by lia⟩⟩
     .exact wpS_pure ⟨g3,_,_,_,_,rfl,J,by exact bH 0#5 0#5,hj,by lia⟩
    .rintro c ZC ⟨g3,h⟩
     exact⟨g3,.inl h⟩
    .rintro c ZC ⟨g3,⟨out,i,j,⟨mg,ac,bc⟩,rfl,J,hi,hj,hp⟩|⟨out,⟨o1,i,j,mg,ac,bc⟩,rfl,h⟩⟩
     .exact wpS_bind (wpS_modify (wpS_pure ⟨g3,_,_,_,_,rfl,J,hi,hj,by assumption⟩))
     .exact wpS_pure ⟨g3,_,_,rfl,h⟩
   .exact wpS_pure ⟨g2,_,_,rfl,h⟩
 .rintro c ZH ⟨g1,out,i,j,mg,rfl,J,hi,hj,hp⟩
  lia
 .rintro c ZH ⟨g1,out,c',rfl,h⟩
  exact wpS_pure (q _ _ g1 h.1 h.2)
end
theorem rvs{r:Keyed->Nat}{T L:List Keyed}(h:L.Perm T/\L.Pairwise λx y=>r y<r x):L.reverse.Perm T/\L.reverse.Pairwise λx y=>r x<r y:=⟨(mY L).trans h.1,qu.mpr h.2⟩
section
variable {M:Model}{A:Around}{E:f_->g_->Prop}{s:g_}{κ:SortKind}{r:Keyed->Nat}{D:Keyed->Prop}{st:SortSt}
variable (o:Dv M A E s κ r D)
include o
theorem RR{a b:Array Keyed}{Q:Array Keyed->SortSt->Prop}(hk:kindOf st=κ)(h1:0<a.size)(h2:0<b.size)(sa:a.toList.Pairwise λx y=>r x<r y)(sb:b.toList.Pairwise λx y=>r x<r y)(ne:∀x∈a.toList,∀y∈b.toList,r x≠r y)(da:∀x∈a.toList,D x)(db:∀x∈b.toList,D x)
  (fst:∀y,b[0]?=a_ y->∀x∈a.toList,r y<r x) (lst:∀x,a[a.size-1]?=a_ x->∀y∈b.toList,r y<r x)
  (q:∀out Z',Eg st Z'->out.toList.Perm 2#4->(out.toList.Pairwise λx y=>r x<r y)->Q out Z'):wpS M A E s (mHi a b) Q st:=by
 have dn:∀{out:Array Keyed}{i:Nat},Jn (λx y=>r y<r x) 2#4 out.toList (a.toList.take i).reverse []->(a.extract 0 i++b.extract 0 0++out.reverse).toList.Perm 2#4/\(a.extract 0 i++b.extract 0 0++out.reverse).toList.Pairwise λx y=>r x<r y:=λ{out i} J=>by
  have:=rvs J.fin;simpa [fO]using this
 have dn2:∀{out:Array Keyed}{i:Nat},Jn (λx y=>r y<r x) 2#4 out.toList [] (b.toList.take i).reverse->(a.extract 0 0++b.extract 0 i++out.reverse).toList.Perm 2#4/\(a.extract 0 0++b.extract 0 i++out.reverse).toList.Pairwise λx y=>r x<r y:=λ{out i} J=>by
  have:=rvs J.sym.fin;simpa [fO]using this
 have ls:∀{out:Array Keyed}{i:Nat},Jn (λx y=>r y<r x) 2#4 out.toList (a.toList.take i).reverse (b.toList.take 1).reverse->(b.extract 0 1++a.extract 0 i++out.reverse).toList.Perm 2#4/\(b.extract 0 1++a.extract 0 i++out.reverse).toList.Pairwise λx y=>r x<r y:=λ{out i} J=>by
  have:=rvs (J.las λx hx y hy=>by
   obtain⟨z,z1,z2,z3⟩:=rV (a:=b) (i:=1) 0#2 0#5;rw[z3]at hy;have hy:y=z:=by simpa using hy
   rw[hy]
   exact fst z z1 x (eW (dP.mp hx)))
  simpa [fO]using this
 unfold mHi;refine wpS_bind (wpS_lift (fb ⟨rfl,?_⟩));obtain⟨y0,e0,m0,d0⟩:=rV h1 (ak _);refine wpS_bind (kr e0 ?_);have J0:Jn (λx y=>r y<r x) 2#4 (#[y0]:Array Keyed).toList (a.toList.take (a.size-1)).reverse (b.toList.take b.size).reverse:=by
  have ea:(a.toList.take a.size).reverse=a.toList.reverse:=by rw[cR 0#4]
  have eb:(b.toList.take b.size).reverse=b.toList.reverse:=by rw[cR 0#4]
  rw[eb];refine Jn.m1 (out:= []) (x:=y0) ⟨?_,?_,?_⟩ λx hx=>lst y0 e0 x (dP.mp hx)
  .rw[eh,<-d0,ea];exact(mY _).append (mY _)
  .rw[eh,<-d0,ea];exact qu.mpr sa
  .exact qu.mpr sb
 by_cases c1:a.size-1=0
 .refine w_t (by simpa using c1) ?_
  rw[c1]at J0 ⊢;exact wpS_pure (q _ _ (.refl _) (dn2 J0).1 (dn2 J0).2)
 refine w_f (by simpa using c1) ?_;by_cases c2:b.size=1
 .refine w_t (by simpa using c2) ?_
  rw[c2]at J0 ⊢;exact wpS_pure (q _ _ (.refl _) (ls J0).1 (ls J0).2)
 refine w_f (by simpa using c2) ?_;refine wpS_bind (wpS_get ?_);have KK:∀{Z'},Eg st Z'->kindOf Z'=κ:=λg=>g.1.trans hk
 refine wpS_bind (wpS_mono (wpS_forRange
  (I:=λx c Z'=>Eg st Z' /\ ∃out i j mg,c=(b_,i,j,out,mg)/\Jn (λx y=>r y<r x) 2#4 out.toList (a.toList.take i).reverse (b.toList.take j).reverse/\0<i/\i<a.size/\1<j/\j<=b.size/\i+j+(x+1)<=a.size+b.size)
  (Q:=λc Z'=>Eg st Z' /\ ∃out c',c=(a_ out,c')/\out.toList.Perm 2#4/\out.toList.Pairwise λx y=>r x<r y)
  ?_ ?_ ⟨.refl _,_,_,_,_,rfl,J0,by exact eS (by assumption),by lia,by lia,by exact ak _,by lia⟩) ?_)
 .rintro x c ZH _ hx ⟨g1,out,i,j,mg,rfl,J,hi,ZM,hj,Zz,hp⟩
  refine wpS_bind (wpS_mono (wpS_forRange
   (I:=λy c Z'=>Eg st Z' /\ ∃out i j c',c=(b_,i,j,out,c')/\Jn (λx y=>r y<r x) 2#4 out.toList (a.toList.take i).reverse (b.toList.take j).reverse/\0<i/\i<a.size/\1<j/\j<=b.size/\i+j+(x+1+min y 1)<=a.size+b.size)
   (Q:=λc Z'=>Eg st Z'/\((∃out i j c',c=(b_,i,j,out,c')/\Jn (λx y=>r y<r x) 2#4 out.toList (a.toList.take i).reverse (b.toList.take j).reverse/\0<i/\i<a.size/\1<j/\j<=b.size/\i+j+(x+2)<=a.size+b.size) \/ ∃out c',c=(a_ out,c')/\out.toList.Perm 2#4/\out.toList.Pairwise λx y=>r x<r y))
   ?_ ?_ ⟨g1,_,_,_,_,rfl,J,hi,ZM,hj,Zz,by assumption⟩) ?_)
  .clear J hi ZM hj Zz hp h1 h2 c1 c2 J0
   rintro y c Zj _ hy ⟨g2,out,i,j,c',rfl,J,hi,ZM,hj,Zz,hp⟩;obtain⟨u,u1,u2,u3⟩:=rV (a:=b) (i:=j) (by exact aI 0#5) Zz;obtain⟨v,v1,v2,v3⟩:=rV (a:=a) (i:=i) hi (by exact aI 0#5);refine wpS_bind (kr u1 (wpS_bind (kr v1 (wpS_bind (o _ _ _ _ (KK g2) (db u u2) (da v v2) ?_)))));rw[u3,v3]at J;have ZN:=ne v v2 u u2;by_cases hl:r u<r v
   .rw[decide_eq_true hl]
    dsimp only;refine w_t rfl ?_;refine wpS_bind (kr v1 ?_)
    have J':=J.m1 (λz hz=>by
     rcases aG.mp hz with rfl|hz
     .exact hl
     ·exact aX (J.sym.hd z hz) hl)
    rw[<-u3,<-dA]at J';by_cases e:i-1=0
    .refine w_t (by simpa using e) ?_
     rw[e]at J' ⊢;exact wpS_pure ⟨g2,.inr ⟨_,_,rfl,dn2 J'⟩⟩
    .refine w_f (by simpa using e) ?_
     split
     .exact wpS_pure ⟨g2,.inl ⟨_,_,_,_,rfl,J',by exact eS 0#5,by lia,by assumption,by assumption,by lia⟩⟩
     .exact wpS_pure ⟨g2,_,_,_,_,rfl,J',by exact eS 0#5,by lia,by assumption,by assumption,by lia⟩
   .rw[decide_eq_false hl]
    dsimp only;refine w_f 0#2 ?_;refine wpS_bind (kr u1 ?_)
    have J':=J.sym.m1 (λz hz=>by
     rcases aG.mp hz with rfl|hz
     .lia
     ·exact aX (J.hd z hz) (show r v<r u by lia))
    rw[<-v3,<-dA]at J';have J':=J'.sym;by_cases e:j-1=1
    .refine w_t (by simpa using e) ?_
     rw[e]at J' ⊢;exact wpS_pure ⟨g2,.inr ⟨_,_,rfl,ls J'⟩⟩
    .refine w_f (by simpa using e) ?_
     split
     .exact wpS_pure ⟨g2,.inl ⟨_,_,_,_,rfl,J',by assumption,by assumption,by lia,by lia,by lia⟩⟩
     .exact wpS_pure ⟨g2,_,_,_,_,rfl,J',by assumption,by assumption,by lia,by lia,by lia⟩
  .clear J hi ZM hj Zz hp h1 h2 c1 c2 J0
   rintro c Zj ⟨g2,out,i,j,c',rfl,J,hi,ZM,hj,Zz,hp⟩;exact⟨g2,.inl ⟨_,_,_,_,rfl,J,hi,ZM,hj,Zz,by lia⟩⟩
  .clear J hi ZM hj Zz hp h1 h2 c1 c2 J0
   rintro c Zj ⟨g2,⟨out,i,j,⟨ac,bc⟩,rfl,J,hi,ZM,hj,Zz,hp⟩|⟨out,⟨i,j,o1,ac,bc⟩,rfl,h⟩⟩
   .dsimp only
    refine wpS_bind (wpS_lift (fb ⟨rfl,?_⟩))
    refine wpS_bind (wpS_mono (wpS_forRange
     (I:=λy c Z'=>Eg st Z' /\ ∃out i j c',c=(b_,i,j,out,c')/\Jn (λx y=>r y<r x) 2#4 out.toList (a.toList.take i).reverse (b.toList.take j).reverse/\0<i/\i<a.size/\1<j/\j<=b.size/\i+j+(x+2)<=a.size+b.size)
     (Q:=λc Z'=>Eg st Z'/\((∃out i j c',c=(b_,i,j,out,c')/\Jn (λx y=>r y<r x) 2#4 out.toList (a.toList.take i).reverse (b.toList.take j).reverse/\0<i/\i<a.size/\1<j/\j<=b.size/\i+j+(x+2)<=a.size+b.size) \/ ∃out c',c=(a_ out,c')/\out.toList.Perm 2#4/\out.toList.Pairwise λx y=>r x<r y))
     ?_ ?_ ⟨g2,_,_,_,_,rfl,J,hi,ZM,hj,Zz,hp⟩) ?_)
    .clear J hi ZM hj Zz hp
     rintro y c ZC _ hy ⟨g3,out,i,j,⟨mg,ac,bc⟩,rfl,J,hi,ZM,hj,Zz,hp⟩;dsimp only;obtain⟨u,u1,u2,u3⟩:=rV (a:=b) (i:=j) (by exact aI 0#5) Zz;refine have H:∀m:Nat,(?P1:Nat->Prop) m:= ?h1;?k1
     case k1=>
      by_cases c:mg>1
      .refine w_t c ?_
       generalize mg-1=m;exact H m
      .refine w_f c ?_
       exact H mg
     intro m;refine wpS_bind (wpS_modify (wpS_bind (kr u1 (wpS_bind (Gq o (arr:=a) (base:=0) (n:=i) (L:=a.toList.take i) rfl 0#0 (sa.sublist (jL _ _)) (λz hz=>da z (eW hz)) (λz hz=>ne z (eW hz) u u2) 0#0 (KK g3) (db u u2) λL1 Lb eL f1 f2=>?_)))));generalize hl:L1.length=l;have ll:l+Lb.length=i:=by
      have:=congrArg eV eL;simp at this;lia
     have ed:a.toList.take l=L1:=by
      have e:=fA (l₁:=L1) (l₂:=Lb);rw[<-eL,List.take_take,hl,lu 0#0]at e;exact e
     have et:(a.extract l i).reverse.toList=Lb.reverse:=by
      rw[JP,F6,<-List.drop_take,eL,<-hl,eE]
     subst ed;rw[eL,u3,tZ]at J
     have J1:=J.mv (λz hz w hw=>by
      rcases aG.mp hw with rfl|hw
      .exact f2 z (dP.mp hz)
      ·exact aX (J.sym.hd w hw) (f2 z (dP.mp hz)))
     have f1:∀z∈(a.toList.take l).reverse,r z<r u:=λz hz=>f1 z (dP.mp hz);clear J;refine have H:∀(out:Array Keyed) (i ac:Nat),Jn (λx y=>r y<r x) 2#4 out.toList (a.toList.take i).reverse (u::(b.toList.take (j-1)).reverse)->(∀z∈(a.toList.take i).reverse,r z<r u)->0<i->i<a.size->i+j+(x+2)<=a.size+b.size->(?P2:Array Keyed->Nat->Nat->Prop) out i ac:= ?h2;?k2
     case k2=>
      by_cases c:i-l>0
      .refine w_t c ?_
       rw[<-et,<-cx (xs:=out)]at J1;by_cases c2:l=0
       .refine w_t (by simpa using c2) ?_
        rw[<-u3]at J1;clear H;subst c2;exact wpS_pure ⟨g3,.inr ⟨_,_,rfl,dn2 J1⟩⟩
       .refine w_f (by simpa using c2) ?_
        generalize e3:out++(a.extract l i).reverse=out2;rw[e3]at J1;generalize e4:i-l=Te;generalize e2:l=i2;exact H out2 i2 Te (e2▸J1) (e2▸f1) 0#0 0#0 0#0
      .refine w_f c ?_
       have:Lb=[]:=cu.mp 0#0;rw[this]at ll J1;have e:l=i:=by simpa using ll
       have f1:=f1;rw[e]at f1 J1;rw[List.reverse_nil,cb]at J1;exact H out i _ J1 f1 hi ZM hp
     clear J1 et eL f1 f2 ll hi ZM hp hl;intro out i Te J f2 hi ZM hp;refine wpS_bind (kr u1 ?_);have J:=J.sym.m1 f2;rw[<-dA]at J;by_cases c:j-1=1
     .refine w_t (by simpa using c) ?_
      rw[c]at J ⊢;exact wpS_pure ⟨g3,.inr ⟨_,_,rfl,ls J.sym⟩⟩
     refine w_f (by simpa using c) ?_;obtain⟨v,v1,v2,v3⟩:=rV (a:=a) (i:=i) hi (by exact aI 0#5);refine wpS_bind (kr v1 (wpS_bind (Gq o (arr:=b) (base:=0) (n:=j-1) (L:=b.toList.take (j-1)) rfl 0#0 (sb.sublist (jL _ _)) (λz hz=>db z (eW hz)) (λz hz=>(ne v v2 z (eW hz)).symm) 0#0 (KK g3) (da v v2) λM1 M2 eM k1 k2=>?_)));generalize hl:M1.length=l;have ll:l+M2.length=j-1:=by
      have:=congrArg eV eM;simp at this;lia
     have ed:b.toList.take l=M1:=by
      have e:=fA (l₁:=M1) (l₂:=M2);rw[<-eM,List.take_take,hl,lu 0#0]at e;exact e
     have et:(b.extract l (j-1)).reverse.toList=M2.reverse:=by
      rw[JP,F6,<-List.drop_take,eM,<-hl,eE]
     subst ed;rw[eM,v3,tZ]at J
     have J1:=J.mv (λz hz w hw=>by
      rcases aG.mp hw with rfl|hw
      .exact k2 z (dP.mp hz)
      ·exact aX (J.sym.hd w hw) (k2 z (dP.mp hz)))
     have k1:∀z∈(b.toList.take l).reverse,r z<r v:=λz hz=>k1 z (dP.mp hz);clear J;generalize out.push u=out1 at J1;refine have H:∀(out:Array Keyed) (j bc:Nat),Jn (λx y=>r y<r x) 2#4 out.toList (v::(a.toList.take (i-1)).reverse) (b.toList.take j).reverse->(∀z∈(b.toList.take j).reverse,r z<r v)->1<j->j<=b.size->i+j+(x+2)<=a.size+b.size->(?P3:Array Keyed->Nat->Nat->Prop) out j bc:= ?h3;?k3
     case k3=>
      by_cases c:j-1-l>0
      .refine w_t c ?_
       rw[<-et,<-cx (xs:=out1)]at J1;by_cases c2:l=1
       .refine w_t (by simpa using c2) ?_
        rw[<-v3]at J1;clear H;subst c2;exact wpS_pure ⟨g3,.inr ⟨_,_,rfl,ls J1.sym⟩⟩
       .refine w_f (by simpa using c2) ?_
        by_cases c3:l=0
        .refine w_t (by simpa using c3) ?_
         rw[<-v3]at J1;clear H;subst c3;exact wpS_pure ⟨g3,.inr ⟨_,_,rfl,dn J1.sym⟩⟩
        .refine w_f (by simpa using c3) ?_
         generalize e3:out1++(b.extract l (j-1)).reverse=out2;rw[e3]at J1;generalize e4:j-1-l=Tc;generalize e2:l=j2;exact H out2 j2 Tc (e2▸J1.sym) (e2▸k1) 0#0 0#0 0#0
      .refine w_f c ?_
       have:M2=[]:=cu.mp 0#0;rw[this]at ll J1;have e:l=j-1:=by simpa using ll
       have k1:=k1;rw[e]at k1 J1;rw[List.reverse_nil,cb]at J1;exact H out1 (j-1) _ J1.sym k1 0#0 0#0 0#0
     clear J1 et eM k1 k2 ll hl;intro out j Tc J k2 hj Zz hp;refine wpS_bind (kr v1 ?_);have J:=J.m1 k2;rw[<-dA]at J;by_cases c:i-1=0
     .refine w_t (by simpa using c) ?_
      rw[c]at J ⊢;exact wpS_pure ⟨g3,.inr ⟨_,_,rfl,dn2 J⟩⟩
     refine w_f (by simpa using c) ?_
     split
     .exact wpS_pure ⟨g3,.inl ⟨_,_,_,_,rfl,J,by exact eS 0#5,by lia,by assumption,by assumption,by lia⟩⟩
     .exact wpS_pure ⟨g3,_,_,_,_,rfl,J,by exact eS 0#5,by lia,by assumption,by assumption,by lia⟩
    .rintro c ZC ⟨g3,h⟩
     exact⟨g3,.inl h⟩
    .rintro c ZC ⟨g3,⟨out,i,j,⟨mg,ac,bc⟩,rfl,J,hi,ZM,hj,Zz,hp⟩|⟨out,⟨i,j,o1,mg,ac,bc⟩,rfl,h⟩⟩
     .exact wpS_bind (wpS_modify (wpS_pure ⟨g3,_,_,_,_,rfl,J,hi,ZM,hj,Zz,by assumption⟩))
     .exact wpS_pure ⟨g3,_,_,rfl,h⟩
   .exact wpS_pure ⟨g2,_,_,rfl,h⟩
 .rintro c ZH ⟨g1,out,i,j,mg,rfl,J,hi,ZM,hj,Zz,hp⟩
  lia
 .rintro c ZH ⟨g1,out,c',rfl,h⟩
  exact wpS_pure (q _ _ g1 h.1 h.2)
end
def kk(r:Keyed->Nat)(xs:Array Keyed)(i:Nat):Nat:=(xs[i]?.map r).getD 0
structure Bs(κ:SortKind)(r:Keyed->Nat)(D:Keyed->Prop)(a₀:Array Keyed)(st:SortSt):Prop where
 kind:kindOf st=κ
 fail:failedOf st=b_
 perm:(arrOf st).toList.Perm a₀.toList
def Fs(r:Keyed->Nat)(D:Keyed->Prop)(a₀:Array Keyed):Prop:=(∀x∈a₀.toList,D x)/\(a₀.toList.map r).Nodup
def Asc(r:Keyed->Nat)(xs:Array Keyed)(i j:Nat):Prop:= ∀p q,i<=p->p<q->q<j->kk r xs p<kk r xs q
section
variable {M:Model}{A:Around}{E:f_->g_->Prop}{s:g_}{κ:SortKind}{r:Keyed->Nat}{D:Keyed->Prop}{st:SortSt}{a₀:Array Keyed}
theorem Bs.size(B:Bs κ r D a₀ st):(arrOf st).size=a₀.size:=by simpa using B.perm.length_eq
variable{xs:Array Keyed}
theorem Bs.arr(B:Bs κ r D a₀ st)(p:xs.toList.Perm (arrOf st).toList):Bs κ r D a₀ (setArr st xs):=⟨B.kind,B.fail,p.trans B.perm⟩
theorem yJ(h:i<xs.size):kk r xs i=r xs[i]:=by simp[kk,h]
variable{j:Nat}
theorem Bs.ne(B:Bs κ r D a₀ st)(F:Fs r D a₀)(hi:i<(arrOf st).size)(hj:j<(arrOf st).size)(h:i≠j):kk r (arrOf st) i≠kk r (arrOf st) j:=(by
  have nd:=(B.perm.map r).nodup_iff.mpr F.2;have nd:=di.mp nd;rw[yJ hi,yJ hj];rcases Nat.lt_or_gt_of_ne h with g|g
  .have:=nd i j (by simpa using hi) (by simpa using hj) g
   rwa[gn,gn]at this
  .have:=nd j i (by simpa using hj) (by simpa using hi) g
   rw[gn,gn]at this
   exact this.symm)
theorem Asc.more(h:Asc r xs i j)(h1:i<j)(hk:kk r xs (j-1)<kk r xs j):Asc r xs i (j+1):=λp q hp hpq hq=>by
 rcases ot.mp hq with hq|rfl
 .exact h p q hp hpq hq
 .by_cases e:p=q-1
  .rw[e];exact hk
  .exact aX (h p (q-1) hp 0#0 0#0) hk
variable (o:Dv M A E s κ r D) (F:Fs r D a₀)
include o F
theorem G7{Q:Option Bool->SortSt->Prop}(B:Bs κ r D a₀ st)(hi:i<(arrOf st).size)(hj:j<(arrOf st).size)(q:Q (a_ (decide (kk r (arrOf st) i<kk r (arrOf st) j))) st):wpS M A E s (ltAt' i j) Q st:=by
 rw[ltAt'_eq];have m:∀k (h:k<(arrOf st).size),D (arrOf st)[k]:=λk h=>F.1 _ (B.perm.mem_iff.mp 0#4);refine wpS_bind (wpS_get (wpS_bind (kr (bW hi) (wpS_bind (kr (bW hj) (o _ _ _ _ B.kind (m i hi) (m j hj) ?_))))));rwa[yJ hi,yJ hj]at q
theorem LY{lo n ZE:Nat}{Q:Option (Option Nat)×Nat->SortSt->Prop}{f:Nat->Option (Option Nat)×Nat->StateT SortSt Sem (ForInStep (Option (Option Nat)×Nat))}(B:Bs κ r D a₀ st)(hz:lo+ZE<=(arrOf st).size)(h1:1<=n)(hn:n<=ZE)(hs:Asc r (arrOf st) lo (lo+n))
  (hf:∀x m (R:ForInStep (Option (Option Nat)×Nat)->SortSt->Prop),wpS M A E s (ltAt' (lo+m) (lo+m-1)) (λc Z'=>∃b,c=a_ b/\R (if b=c_ then .done (b_,m) else .yield (b_,m+1)) Z') st->wpS M A E s (f x (b_,m)) R st)
  (q:∀m,n<=m->m<=ZE->Asc r (arrOf st) lo (lo+m)->(m<ZE->kk r (arrOf st) (lo+m)<kk r (arrOf st) (lo+m-1))->Q (b_,m) st):wpS M A E s (forIn [n:ZE] (b_,n) f) Q st:=by
 refine wpS_forRange (I:=λx c Z'=>Z'=st/\c=(b_,x)/\x<=ZE/\Asc r (arrOf st) lo (lo+x)) ?_ ?_ ⟨rfl,rfl,hn,hs⟩
 .rintro x c Z' hx1 hx ⟨rfl,rfl,_,hs⟩
  refine hf _ _ _ (G7 o F B 0#0 0#0 ⟨_,rfl,?_⟩);by_cases c:kk r (arrOf Z') (lo+x)<kk r (arrOf Z') (lo+x-1)
  .rw[decide_eq_true c]
   exact q x hx1 0#5 hs λ_=>c
  .rw[decide_eq_false c]
   have:=B.ne F (show lo+x<(arrOf Z').size by lia) (show lo+x-1<_ by lia) 0#0;exact⟨rfl,rfl,by assumption,hs.more 0#0 0#0⟩
 .rintro c Z' ⟨rfl,rfl,h,hs⟩
  rw[Ab hn]at h hs ⊢;exact q _ hn (ak _) hs λh=>absurd h (bu _)
theorem O8{lo ZE:Nat}{Q:Option Nat->SortSt->Prop}(B:Bs κ r D a₀ st)(h1:1<=ZE)(hz:lo+ZE<=(arrOf st).size)
  (q:∀m Z',Bs κ r D a₀ Z'->pendingOf Z'=pendingOf st->1<=m->m<=ZE->(∀k,k<lo->(arrOf Z')[k]?=(arrOf st)[k]?)->Asc r (arrOf Z') lo (lo+m)->Q (a_ m) Z'):wpS M A E s (countRun' lo ZE) Q st:=by
 have fol:∀{Z':SortSt}{lo m:Nat}{f:Nat->Option (Option Nat)×Nat->StateT SortSt Sem (ForInStep (Option (Option Nat)×Nat))}{R:ForInStep (Option (Option Nat)×Nat)->SortSt->Prop},wpS M A E s (ltAt' (lo+m) (lo+m-1)) (λc Z'=>∃b,c=a_ b/\R (if b=c_ then .done (b_,m) else .yield (b_,m+1)) Z') Z' ->
   wpS M A E s (ltAt' (lo+m) (lo+m - 1) >>= λc=>match c with |some b=>if b=c_ then pure (.done (b_,m)) else pure (.yield (b_,m+1)) |_=>pure (.done (a_ b_,m))) R Z':=λh=>wpS_bind (wpS_mono h λc Z' ⟨b,e,g⟩=>by
  subst e;cases b with
  |true=>exact wpS_pure g
  | false=>exact wpS_pure g)
 unfold countRun';refine wpS_bind (LY o F (n:=1) B hz (ak _) h1 (λp q _ _ _=>by lia) (λx m R h=>fol (f:=λ_ _=>pure (.done (b_,0))) h) λn Vq XU hs hd=>?_);by_cases e:n=ZE
 .refine w_t (by simpa using e) ?_
  exact wpS_pure (q n st B rfl Vq XU (λ_ _=>rfl) hs)
 refine w_f (by simpa using e) ?_;by_cases e1:n>1
 .refine w_t e1 ?_
  refine wpS_bind (G7 o F B 0#0 0#0 ?_);rw[decide_eq_true (hs lo (lo+n-1) (ak _) 0#0 0#0)];exact wpS_pure (q n st B rfl Vq XU (λ_ _=>rfl) hs)
 refine w_f e1 ?_;obtain rfl:n=1:=by lia
 refine wpS_bind (wpS_lift (fb ⟨rfl,?_⟩))
 refine wpS_bind (wpS_mono (wpS_forRange (I:=λx c Z'=>Z'=st/\c=(b_,x,0)/\x<=ZE /\ ∀p q,lo<=p->p<q->q<lo+x->kk r (arrOf st) q<kk r (arrOf st) p)
  (Q:=λc Z'=>Z'=st /\ ∃x,c=(b_,x,0)/\2<=x/\x<=ZE /\ ∀p q,lo<=p->p<q->q<lo+x->kk r (arrOf st) q<kk r (arrOf st) p) ?_ ?_ ⟨rfl,rfl,by exact bH (by assumption) (by assumption),λp q h1 h2 h3 =>?_⟩) ?_)
 .rintro x c Z' hx1 hx ⟨rfl,rfl,h,hs⟩
  dsimp only;refine wpS_bind (G7 o F B 0#0 0#0 ?_);have:=B.ne F (show lo+x<(arrOf Z').size by lia) (show lo+x-1<_ by lia) 0#0;by_cases c:kk r (arrOf Z') (lo+x)<kk r (arrOf Z') (lo+x-1)
  .rw[decide_eq_true c]
   refine wpS_pure ⟨rfl,rfl,by assumption,λp q h1 h2 h3=>?_⟩;by_cases e:q=lo+x
   .subst e
    by_cases e:p=lo+x-1
    .rw[e];exact c
    .exact aX c (hs p (lo+x-1) h1 0#0 0#0)
   .exact hs p q h1 h2 0#0
  .rw[decide_eq_false c]
   refine wpS_bind (G7 o F B 0#0 0#0 ?_);rw[decide_eq_true 0#0];exact wpS_pure ⟨rfl,x,rfl,by assumption,h,hs⟩
 .rintro c Z' ⟨rfl,rfl,h,hs⟩
  exact⟨rfl,_,rfl,by lia,h,hs⟩
 .obtain⟨rfl,rfl⟩:p=lo/\q=lo+1:=by lia
  exact hd (by exact bH 0#5 0#5)
 .rintro c Z' ⟨rfl,x,rfl,hx,Xx,hs⟩
  dsimp only;refine w_f 0#2 ?_;have e:=λk=>getElem?_mirror_all (xs:=arrOf Z') (i:=lo) (j:=lo+x) 0#0 k;have ek:∀k,lo<=k->k<lo+x->kk r (mirror (arrOf Z') lo (lo+x) ((lo+x-lo)/2)) k=kk r (arrOf Z') (lo+(lo+x)-1-k):=λk h1 h2=>by
   unfold kk;rw[e,if_pos ⟨h1,h2⟩]
  have B':=B.arr (xs:=mirror (arrOf Z') lo (lo+x) ((lo+x-lo)/2)) (mirror_perm _ _ _ _).toList;refine wpS_bind (wpS_modify (wpS_bind (LY o F (n:=x) B' (show lo+ZE<=(mirror (arrOf Z') lo (lo+x) ((lo+x-lo)/2)).size by rw[mirror_size];exact hz) (by exact aI 0#5) Xx (λp q h1 h2 h3=>?_) (λx m R h=>fol (f:=λ_ _=>pure (.done (b_,0))) h) λm XQ Zf hs hd=>?_)))
  .show kk r (mirror (arrOf Z') lo (lo+x) ((lo+x-lo)/2)) p<kk r (mirror (arrOf Z') lo (lo+x) ((lo+x-lo)/2)) q
   rw[ek p h1 (by exact aX 0#5 0#5),ek q 0#0 h3];exact hs _ _ 0#0 0#0 0#0
  .exact wpS_pure (q m _ B' rfl 0#0 Zf (λk hk=>(e k).trans (if_neg 0#0)) hs)
theorem OW{lo n ok:Nat}{Q:Bool->SortSt->Prop}(B:Bs κ r D a₀ st)(hz:lo+n<=(arrOf st).size)(h1:1<=ok)(hok:ok<=n)(hs:Asc r (arrOf st) lo (lo+ok))
  (q:∀Z',Bs κ r D a₀ Z'->pendingOf Z'=pendingOf st->(∀k,k<lo->(arrOf Z')[k]?=(arrOf st)[k]?)->Asc r (arrOf Z') lo (lo+n)->Q c_ Z'):wpS M A E s (binarySort' lo n ok) Q st:=by
 unfold binarySort'
 refine wpS_bind (wpS_mono (wpS_forRange (I:=λk c Z'=>c=(b_,())/\Bs κ r D a₀ Z'/\pendingOf Z'=pendingOf st/\(∀k,k<lo->(arrOf Z')[k]? = (arrOf st)[k]?)/\k<=n/\Asc r (arrOf Z') lo (lo+k))
  (Q:=λc Z'=>c=(b_,())/\Bs κ r D a₀ Z'/\pendingOf Z'=pendingOf st/\(∀k,k<lo->(arrOf Z')[k]? = (arrOf st)[k]?)/\Asc r (arrOf Z') lo (lo+n)) ?_ ?_ ⟨rfl,B,rfl,λ_ _=>rfl,by lia,by rw[BZ h1];exact hs⟩) ?_)
 .rintro k c ZH WJ hk ⟨rfl,B1,p1,e1,_,hs⟩
  have zz:(arrOf ZH).size=(arrOf st).size:=B1.size.trans B.size.symm
  refine wpS_bind (wpS_mono (wpS_forRange (I:=λx c Z'=>Z'=ZH /\ ∃l u,c=(b_,l,u)/\l<=u/\u<=k/\u - l<=k - x/\(∀i,i<l->kk r (arrOf ZH) (lo+i)<kk r (arrOf ZH) (lo+k))/\(∀i,u<=i->i<k->kk r (arrOf ZH) (lo+k)<kk r (arrOf ZH) (lo+i)))
   (Q:=λc Z'=>Z'=ZH /\ ∃l u,c=(b_,l,u)/\l<=k/\(∀i,i<l->kk r (arrOf ZH) (lo+i)<kk r (arrOf ZH) (lo+k))/\(∀i,l<=i->i<k->kk r (arrOf ZH) (lo+k)<kk r (arrOf ZH) (lo+i))) ?_ ?_ ⟨rfl,0,k,rfl,by lia,by exact ak _,by exact ak _,λi hi=>by lia,λi h1 h2=>by lia⟩) ?_)
  .rintro x c Z' _ hx ⟨rfl,l,u,rfl,g1,g2,g3,g4,g5⟩
   dsimp only;by_cases hg:l >= u
   .refine w_t hg ?_
    obtain rfl:l=u:=by lia
    exact wpS_pure ⟨rfl,l,l,rfl,g2,g4,g5⟩
   .refine w_f hg ?_
    refine wpS_bind (G7 o F B1 0#0 0#0 ?_);have hn:=B1.ne F (show lo+k<(arrOf Z').size by lia) (show lo+(l+u)/2<_ by lia) 0#0;by_cases c:kk r (arrOf Z') (lo+k)<kk r (arrOf Z') (lo+(l+u)/2)
    .rw[decide_eq_true c]
     refine wpS_pure ⟨rfl,l,(l+u)/2,rfl,by lia,by lia,by lia,g4,λi h1 h2=>?_⟩;by_cases e:i=(l+u)/2
     .rw[e];exact c
     .exact aX c (hs _ _ 0#0 0#0 0#0)
    .rw[decide_eq_false c]
     refine wpS_pure ⟨rfl,(l+u)/2+1,u,rfl,by lia,by assumption,by lia,λi h1=>?_,g5⟩;by_cases e:i=(l+u)/2
     .rw[e];lia
     .exact aX (hs (lo+i) (lo+(l+u)/2) 0#0 0#0 0#0) 0#0
  .rintro c Z' ⟨rfl,l,u,rfl,g1,g2,g3,g4,g5⟩
   obtain rfl:l=u:=by lia
   exact⟨rfl,l,l,rfl,g2,g4,g5⟩
  .rintro c Z' ⟨rfl,l,u,rfl,g2,g4,g5⟩
   have e:=getElem?_bubble (xs:=arrOf Z') (src:=lo+k) 0#0 (lo+k-(lo+l)) 0#0;have ek:∀i,kk r (bubble (arrOf Z') (lo+k) (lo+k-(lo+l))) i=if i=lo+l then kk r (arrOf Z') (lo+k) else if lo+l<i/\i<=lo+k then kk r (arrOf Z') (i-1) else kk r (arrOf Z') i:=λi=>by
    unfold kk;rw[e i,show lo+k-(lo+k-(lo+l))=lo+l by lia]
    repeat' split
    all_goals rfl
   refine wpS_bind (wpS_modify (wpS_pure ⟨rfl,B1.arr (xs:=bubble (arrOf Z') (lo+k) (lo+k-(lo+l))) (bubble_perm _ _ _).toList,p1,λi hi=>?_,by assumption,λi j h1 h2 h3=>?_⟩))
   .rw[<-e1 i hi]
    exact(e i).trans ((if_neg 0#0).trans (if_neg 0#0))
   .show kk r (bubble (arrOf Z') (lo+k) (lo+k-(lo+l))) i<kk r (bubble (arrOf Z') (lo+k) (lo+k-(lo+l))) j
    rw[ek,ek];obtain⟨x,rfl⟩:=GF h1;obtain⟨y,rfl⟩:=GF (aI (aM h1 h2));have h2:x<y:=E5 h2;have h3:y<=k:=d6 (E5 h3);clear h1;by_cases e1:x=l
    .rw[if_pos (by rw[e1]),if_neg 0#0,if_pos 0#0,show lo+y-1=lo+(y-1) by lia]
     exact g5 _ 0#0 0#0
    .rw[if_neg 0#0]
     by_cases e2:l<x
     .rw[if_pos 0#0,if_neg 0#0,if_pos 0#0]
      exact hs _ _ 0#0 0#0 0#0
     .rw[if_neg 0#0]
      by_cases e3:y=l
      .rw[if_pos (by rw[e3])];exact g4 x 0#0
      .rw[if_neg 0#0]
       by_cases e4:l<y
       .rw[if_pos 0#0,show lo+y-1=lo+(y-1) by lia]
        rcases JO x (y-1) with z|z
        .exact hs _ _ 0#0 0#0 0#0
        .lia
       .rw[if_neg 0#0]
        exact hs _ _ 0#0 0#0 0#0
 .rintro c Z' ⟨rfl,B1,p1,e1,h,hs⟩
  rw[show max (max ok 1) n=n by lia]at hs;exact⟨rfl,B1,p1,e1,hs⟩
 .rintro c Z' ⟨rfl,B1,p1,e1,hs⟩
  exact wpS_pure (q Z' B1 p1 e1 hs)
end
theorem QB{S:List Keyed}{c:Nat}(m:List Keyed):∀(old P:List Keyed) (a:Array Keyed) (j:Nat),m.length=old.length->a.toList=P++old++S->P.length=c+j ->
  ((m.zipIdx j).foldl (λa x=>a.setIfInBounds (c+x.2) x.1) a).toList=P++m++S:=by
 induction m with
 | nil=>
   intro old P a j hl h hc;rw[cu.mp hl.symm]at h;exact h
 | cons x m ih=>
   intro old P a j hl h hc;obtain⟨y,old,rfl⟩:=List.exists_cons_of_length_pos (l:=old) (by rw[<-hl];exact Nat.succ_pos _)
   rw[yK,gW,ih old (P++[x]) (a.setIfInBounds (c+j) x) (j+1) (by simpa using hl) (by
    rw[B0,h,<-hc]
    simp) (by rw[aU,hc];rfl)]
   simp
def rns:Nat->List (List Keyed)->List (Nat×Nat)
 |_,[]=>[]
 |s,R::Rs=>(s,R.length)::rns (s+R.length) Rs
theorem uE:∀(s:Nat) (Rs Zy:List (List Keyed)),rns s (Rs++Zy)=rns s Rs++rns (s+2#6) Zy
 |s,[],Zy=>by simp[rns]
 | s,R::Rs,Zy=>by
   rw[fq,rns,rns,uE,fq,mZ,aU,eU]
theorem jE:∀(s:Nat) (Rs:List (List Keyed)),(rns s Rs).length=Rs.length
 |s,[]=>rfl
 |s,R::Rs=>by rw[rns,bU,jE,bU]
abbrev p2(t:Nat×Nat×Nat):Nat×Nat:=(t.1,t.2.1)
structure Ru(κ:SortKind)(r:Keyed->Nat)(D:Keyed->Prop)(a₀:Array Keyed)(st:SortSt)(Rs:List (List Keyed))(rest:List Keyed):Prop where
 b:Bs κ r D a₀ st
 e:(arrOf st).toList=Rs.flatten++rest
 s:∀R∈Rs,R≠[]/\R.Pairwise λx y=>r x<r y
 p:(pendingOf st).toList.map p2=rns 0 Rs
section
variable {M:Model}{A:Around}{E:f_->g_->Prop}{s:g_}{κ:SortKind}{r:Keyed->Nat}{D:Keyed->Prop}{st:SortSt}{a₀:Array Keyed}
theorem GY{α β:Type}(f:α->β):∀(l:List α) (i:Nat),(l.eraseIdx i).map f=(l.map f).eraseIdx i
 |[],i=>rfl
 |x::l,0=>rfl
 |x::l,i+1=>by rw[Gy,dw,dw,Gy,GY f l i]
theorem Rf(f:Nat×Nat×Nat->Nat×Nat×Nat)(h:∀x,p2 (f x)=p2 x)(p:Array (Nat×Nat×Nat))(i:Nat):(p.modify i f).toList.map p2=p.toList.map p2:=by
 rw[Array.toList_modify];refine jM λj=>?_;rw[a9,a9,List.getElem?_modify];cases p.toList[j]? with
 |none=>rfl
 | some x=>
   by_cases e:i=j
   .show a_ (p2 (if i=j then f x else x))=a_ (p2 x)
    rw[if_pos e,h]
   .simp[e]
theorem Hi:∀{Rs:List (List Keyed)},(∀R∈Rs,R≠[])->Rs.length<=2#6
 |[],_=>ak _
 | R::Rs,h=>by
   have h1:=Hi (Rs:=Rs) λR hR=>h R (.tail _ hR);have h2:=gh.mpr (h R (.head _));rw[bU,mZ,aU];lia
theorem ite_le(c:Prop)[Decidable c](n:Nat):(if c then n-1 else n)<=n:=by split<;>lia
variable{Q:PUnit->SortSt->Prop}
theorem w_mod{st:SortSt}{f:SortSt->SortSt}(h:∀Z',Z'=f st->Q ⟨⟩ Z'):wpS M A E s (modify f:StateT SortSt Sem PUnit) Q st:=wpS_modify (h _ rfl)
theorem Qh{st Z':SortSt}(h:Q ⟨⟩ Z'):wpS M A E s (set Z':StateT SortSt Sem PUnit) Q st:=by
 unfold wpS;rw[StateT.run_set];exact aj ⟨rfl,h⟩
variable (o:Dv M A E s κ r D) (F:Fs r D a₀)
include o F
variable{Q:Bool->SortSt->Prop}
theorem R4{pw UB:Nat}{P X Y S:List Keyed}(B:Bs κ r D a₀ st)(e:(arrOf st).toList=P++(X++(Y++S)))(hX:X≠[])(hY:Y≠[])(sX:X.Pairwise λx y=>r x<r y)(sY:Y.Pairwise λx y=>r x<r y)
  (p1:(pendingOf st)[i]?=a_ (P.length,X.length,pw)) (p2:(pendingOf st)[i+1]?=a_ (P.length+X.length,Y.length,UB))
  (q:∀Z' Z,Bs κ r D a₀ Z'->(arrOf Z').toList=P++(Z++S)->Z.length=X.length+Y.length->(Z.Pairwise λx y=>r x<r y)->pendingOf Z'=((pendingOf st).setIfInBounds i (P.length,X.length+Y.length,pw)).eraseIdxIfInBounds (i+1)->Q c_ Z'):wpS M A E s (mergeAt' i) Q st:=by
 obtain⟨k0,xs,pd,mg,fl⟩:=st;have nd:(xs.toList.map r).Nodup:=(B.perm.map r).nodup_iff.mpr F.2;have dd:∀x∈xs.toList,D x:=λx hx=>F.1 x (B.perm.mem_iff.mp hx);have hk:k0=κ:=B.kind;have hf:fl=b_:=B.fail;have hp:xs.toList.Perm a₀.toList:=B.perm;replace e:xs.toList=P++(X++(Y++S)):=e;replace p1:pd[i]?=a_ (P.length,X.length,pw):=p1;replace p2:pd[i+1]?=a_ (P.length+X.length,Y.length,UB):=p2;unfold mergeAt';refine wpS_bind (wpS_get ?_);rw[e,bL,bL,bL]at nd;have nXY:∀x∈X,∀y∈Y,r x≠r y:=λx hx y hy=>by
  have:=(eF.mp (eF.mp nd).2.1).2.2;exact this _ (List.mem_map_of_mem hx) _ (bf _ (List.mem_map_of_mem hy))
 have ZF:xs.size=P.length+(X.length+(Y.length+0#7)):=by rw[<-bR,e];simp
 have gX:(xs.toList.drop P.length).take X.length=X:=by rw[e,eE,fA]
 have gY:(xs.toList.drop (P.length+X.length)).take Y.length=Y:=by rw[e,<-lU,eE,eE,fA]
 have dX:∀x∈X,D x:=λx hx=>dd x (by rw[e];simp[hx]);have dY:∀x∈Y,D x:=λx hx=>dd x (by rw[e];simp[hx]);have lX:=gh.mpr hX;have lY:=gh.mpr hY;rw[p1,p2];dsimp only;refine wpS_bind (Qh ?_);obtain⟨y0,Y',rfl⟩:=List.exists_cons_of_ne_nil hY;have ey:xs[P.length+X.length]?=a_ y0:=by
  rw[<-cq,e,<-bz];simp
 refine wpS_bind (kr ey (wpS_bind (Gq o gX 0#0 sX dX (λx hx=>nXY x hx y0 (.head _)) lX hk (dY y0 (.head _)) λX1 X2 eX f1 f2=>?_)));subst eX;rw[aU]at *;dsimp only;rw[eB];have fY:=(jh.mp sY).1;have Wu:=dH.mp sX;by_cases c:X2.length=0
 .refine w_t (by simpa using c) ?_
  obtain rfl:=cu.mp c;rw[cb]at *;refine wpS_pure (q _ (X1++y0::Y') ⟨hk,hf,hp⟩ (by rw[bz];exact e) 0#4 (dH.mpr ⟨sX,sY,λx hx y hy=>?_⟩) rfl);rcases aG.mp hy with rfl |hy
  .exact f1 x hx
  .exact aX (f1 x hx) (fY y hy)
 refine w_f (by simpa using c) ?_;have c':X2≠[]:=λz=>c (by rw[z];rfl);obtain⟨Tg,xl,Xx⟩ :∃l x,X2=l++[x]:=⟨_,_,(Af c').symm⟩;have mx:xl∈X2:=by rw[Xx];simp
 have ex:xs[P.length+X1.length+X2.length-1]?=a_ xl:=by
  have e':P++(X1++X2++(y0::Y'++S))=(P++X1++Tg)++(xl::(y0::Y'++S)):=by rw[Xx];simp
  rw[<-cq,e,e',bj (by rw[Xx];simp;lia)];rw[show P.length+X1.length+X2.length-1-(P++X1++Tg).length=0 by rw[Xx];simp;lia];rfl
 have xm:∀x∈X2,r x=r xl\/r x<r xl:=λx hx=>by
  rw[Xx]at hx Wu;rcases aQ.mp hx with hx|hx
  .exact .inr ((dH.mp Wu.2.1).2.2 x hx xl 0#4)
  .exact .inl (by rw[bx.mp hx])
 refine wpS_bind (kr ex (wpS_bind (Gq o gY 0#0 sY dY (λy hy=>(nXY xl (by simp[mx]) y hy).symm) (by exact ak _) hk (dX xl (by simp[mx])) λY1 Y2 eY g1 g2=>?_)));have h0:=f2 xl mx;cases Y1 with
 | nil=>
   have:=g2 y0 (by rw[eh]at eY;rw[<-eY];exact .head _)
   lia
 |cons y1 Y1=>
 refine w_f 0#4 ?_;obtain⟨rfl,rfl⟩:y0=y1/\Y'=Y1++Y2:=by simpa using eY
 have Ve:=(dH (l₁:=y0::Y1) (l₂:=Y2)).mp sY;have ex:(xs.extract (P.length+X1.length) (P.length+(X1.length+X2.length))).toList=X2:=by
  rw[F6,<-lU,e,eE,bz,eE,show P.length+(X1.length+X2.length)-(P.length+X1.length)=X2.length by lia,fA]
 have Yd:(xs.extract (P.length+(X1.length+X2.length)) (P.length+(X1.length+X2.length)+(y0::Y1).length)).toList=y0::Y1:=by
  rw[F6,eB,<-lU,e,eE,<-aU,eE];exact fA (l₁:=y0::Y1) (l₂:=Y2++S)▸by simp
 have zx:(xs.extract (P.length+X1.length) (P.length+(X1.length+X2.length))).size=X2.length:=by rw[<-bR,ex]
 generalize xs.extract (P.length+X1.length) (P.length+(X1.length+X2.length))=xa at ex zx;generalize xs.extract (P.length+(X1.length+X2.length)) (P.length+(X1.length+X2.length)+(y0::Y1).length)=ya at Yd;have w1:0<xa.size:=by rw[zx];exact eS 0#5
 have w2:0<ya.size:=by rw[<-bR,Yd];simp
 have w3:∀x∈xa.toList,∀y∈ya.toList,r x≠r y:=λx hx y hy=>by
  rw[ex]at hx;rw[Yd]at hy;exact nXY x (a8 _ hx) y (by rw[<-fq];exact bf _ hy)
 have w4:∀x∈xa.toList,D x:=λx hx=>dX x (a8 _ (by rwa[ex]at hx));have w5:∀x∈ya.toList,D x:=λx hx=>dY x (by rw[Yd]at hx;rw[<-fq];exact bf _ hx);have w6:∀y,ya[0]?=a_ y->∀x∈xa.toList,r y<r x:=λy hy x hx=>by
  rw[<-cq,Yd]at hy;cases hy;exact f2 x (by rwa[ex]at hx)
 have w7:∀x,xa[xa.size-1]?=a_ x->∀y∈ya.toList,r y<r x:=λx hx y hy=>by
  rw[<-cq,zx,ex,Xx]at hx;obtain rfl:xl=x:=by simpa using hx
  exact g1 y (by rwa[Yd]at hy)
 refine have H:∀(out:Array Keyed) (Z':SortSt),Eg (Ag k0 xs ((pd.setIfInBounds i (P.length,X1.length+X2.length+(y0::(Y1++Y2)).length,pw)).eraseIdxIfInBounds (i+1)) mg fl) Z'->out.toList.Perm (X2++(y0::Y1))->(out.toList.Pairwise λx y=>r x<r y)->(?P1:Array Keyed->SortSt->Prop) out Z':= ?h1;?k1
 case k1=>
  split
  .refine wpS_bind (RP o hk w1 w2 (by rw[ex];exact Wu.2.1) (by rw[Yd];exact Ve.1) w3 w4 w5 w6 w7 ?_)
   intro out Z' u1 u2 u3;rw[ex,Yd]at u2;exact H out Z' u1 u2 u3
  .refine wpS_bind (RR o hk w1 w2 (by rw[ex];exact Wu.2.1) (by rw[Yd];exact Ve.1) w3 w4 w5 w6 w7 ?_)
   intro out Z' u1 u2 u3;rw[ex,Yd]at u2;exact H out Z' u1 u2 u3
 clear w1 w2 w3 w4 w5 w6 w7 ex Yd zx;rintro out ⟨k1,Ug,pd1,mg1,SG⟩ ⟨u1,u2,u3,u4⟩ Wz hso;replace u1:k1=k0:=u1;replace u2:Ug=xs:=u2;replace u3:pd1=_:=u3;replace u4:SG=fl:=u4;subst u1 u2 u4;have lo:out.toList.length=X2.length+(Y1.length+1):=by rw[Wz.length_eq];simp
 have ew:(Cd (λa x=>a.setIfInBounds (P.length+X1.length+x.2) x.1) Ug out.toList.zipIdx).toList=(P++X1)++out.toList++(Y2++S):=by
  refine QB out.toList (X2++(y0::Y1)) (P++X1) Ug 0 Wz.length_eq ?_ 0#4;rw[e];simp
 refine wpS_bind (wpS_modify (wpS_bind (wpS_get (wpS_pure ?_))));show Q SG.isNone _;rw[hf];refine q _ (X1++(out.toList++Y2)) ⟨hk,rfl,?_⟩ (ew.trans 0#4) (by rw[aU,aU,lo,bU,aU];lia) ?_ u3
 .refine(List.Perm.of_eq ew).trans (JZ ?_ hp)
  rw[e];have:=(Wz.append_right (Y2++S)).append_left (P++X1);simpa using this
 .have om:∀x∈out.toList,x∈X2\/x∈y0::Y1:=λx hx=>aQ.mp (Wz.mem_iff.mp hx)
  refine dH.mpr ⟨Wu.1,dH.mpr ⟨hso,Ve.2.1,λx hx y hy=>?_⟩,λx hx y hy=>?_⟩
  .rcases om x hx with hx|hx
   .have h1:=xm x hx
    have h2:=g2 y hy
    lia
   .exact Ve.2.2 x hx y hy
  .have hy:y∈X2\/y∈y0::(Y1++Y2):=by
    rcases aQ.mp hy with hy|hy
    .exact(om y hy).imp id λh=>by rw[<-fq];exact bf _ h
    .exact .inr (by rw[<-fq];exact a8 _ hy)
   rcases hy with hy|hy
   .exact Wu.2.2 x hx y hy
   .rcases aG.mp hy with rfl|hy
    .exact f1 x hx
    .exact aX (f1 x hx) (fY y hy)
theorem Re{Rs:List (List Keyed)}{rest:List Keyed}(Gr:Ru κ r D a₀ st Rs rest)(hi:i+1<Rs.length)(q:∀Z' Zy,Ru κ r D a₀ Z' Zy rest->Zy.length+1=Rs.length->Q c_ Z'):wpS M A E s (mergeAt' i) Q st:=by
 obtain⟨R1,X,Y,R2,rfl,hl⟩ :∃R1 X Y R2,Rs=R1++X::Y::R2/\R1.length=i:=by
  refine⟨Rs.take i,Rs[i],Rs[i+1],Rs.drop (i+2),?_,by simp;lia⟩;rw[<-eN hi,<-eN (by exact aI 0#5),hC]
 subst hl;have hX:=Gr.s X 0#4;have hY:=Gr.s Y 0#4;have pp:=Gr.p;rw[uE,rns,rns,fT]at pp;have gp:∀j,((pendingOf st).toList.map p2)[j]?=((pendingOf st)[j]?).map p2:=λj=>by rw[a9,cq]
 have g0:=gp R1.length;have g1:=gp (R1.length+1);rw[pp,bj (by rw[jE];exact ak _),jE,JQ]at g0;rw[pp,bj (by rw[jE];exact fS _),jE,eB]at g1;obtain⟨⟨a1,a2,pw⟩,e0,b0⟩:=dh.mp g0.symm;obtain⟨⟨a3,a4,UB⟩,e1,b1⟩:=dh.mp g1.symm;simp only[p2,B4]at b0 b1;obtain⟨rfl,rfl⟩:=b0;obtain⟨rfl,rfl⟩:=b1;refine R4 o F (S:=R2.flatten++rest) Gr.b (by rw[Gr.e];simp) hX.1 hY.1 hX.2 hY.2 e0 e1 λZ' Z B' e' l' s' p'=>q Z' (R1++Z::R2) ⟨B',by rw[e'];simp,λR hR=>?_,?_⟩ (by simp;lia)
 .rcases aQ.mp hR with h|h
  .exact Gr.s R (by simp[h])
  .rcases aG.mp h with rfl|h
   .refine⟨λz=>?_,s'⟩
    have:=gh.mpr hX.1;rw[z]at l';simp at l';lia
   .exact Gr.s R (by simp[h])
 .rw[p',Array.toList_eraseIdxIfInBounds,B0,GY,List.map_set,pp,uE,rns,fT,l',JR _ _ (by rw[jE];exact ak _),jE,JQ,List.eraseIdx_append_of_length_le (by rw[jE];exact fS _),jE,eB,eU]
  rfl
omit o F in
theorem Ru.new{Z':SortSt}{Rs:List (List Keyed)}{rest:List Keyed}{n:Nat}(Gr:Ru κ r D a₀ st Rs rest)(B:Bs κ r D a₀ Z')(hp:pendingOf Z'=pendingOf st)(hk:∀k,k<2#6->(arrOf Z')[k]?=(arrOf st)[k]?)(hn:2#6+n<=(arrOf Z').size)(h:Asc r (arrOf Z') Rs.flatten.length (2#6+n)):
  ∃R Vw,Ru κ r D a₀ Z' Rs (R++Vw)/\R.length=n/\R.Pairwise λx y=>r x<r y:=by
 have et:(arrOf Z').toList.take 2#6=Rs.flatten:=by
  have e2:(arrOf st).toList.take 2#6=Rs.flatten:=by rw[Gr.e,fA]
  refine Eq.trans (jM λk=>?_) e2;rw[uM,uM]
  split
  .have:=hk k 0#5
   rwa[<-cq,<-cq]at this
  .rfl
 have lz:((arrOf Z').toList.drop 2#6).length=(arrOf Z').size-2#6:=by simp
 refine⟨((arrOf Z').toList.drop 2#6).take n,((arrOf Z').toList.drop 2#6).drop n,⟨B,?_,Gr.s,by rw[hp];exact Gr.p⟩,by rw[c6,lz];lia,?_⟩
 .rw[hC]
  have:=hC Rs.flatten.length (arrOf Z').toList;rw[et]at this;exact this.symm
 .rw[di]
  intro i j hi hj YN;rw[c6,lz]at hi hj;have:=h (2#6+i) (2#6+j) 0#0 0#0 0#0;rw[yJ 0#0,yJ 0#0]at this;simpa using this
theorem Ny{Q:Unit->SortSt->Prop}(B:Bs κ r D a₀ st)(hp:pendingOf st = #[])(q:∀Z',Bs κ r D a₀ Z'->((arrOf Z').toList.Pairwise λx y=>r x<r y)->Q () Z'):wpS M A E s sortRuns' Q st:=by
 have gl:∀{Z' Rs rest},Ru κ r D a₀ Z' Rs rest->2#6+rest.length=a₀.size/\(arrOf Z').size=a₀.size:=λGr=>⟨by rw[<-aU,<-Gr.e,Gr.b.perm.length_eq,bR],Gr.b.size⟩;unfold sortRuns';refine wpS_bind (wpS_get ?_);have ZF:(arrOf st).size=a₀.size:=B.size;generalize hz:(arrOf st).size=z at ZF;have pl:∀{Z' Rs rest},Ru κ r D a₀ Z' Rs rest->(pendingOf Z').size=Rs.length:=λGr=>by
  have:=congrArg eV Gr.p;rwa[ar,bR,jE]at this
 dsimp only;generalize (sortPriv% PySem.Builtin.minRun) z z 0=mr
 refine wpS_bind (wpS_mono (wpS_forRange (I:=λx c Z' =>∃Rs rest,c=(b_,2#6)/\Ru κ r D a₀ Z' Rs rest/\x<=2#6)
  (Q:=λc Z' =>∃n Rs,c=(b_,n)/\Ru κ r D a₀ Z' Rs []) ?_ ?_ ⟨[],(arrOf st).toList,rfl,⟨B,rfl,λR hR=>absurd hR (by simp),by rw[hp];rfl⟩,bS _⟩) ?_)
 .rintro x c ZH _ hx ⟨Rs,rest,rfl,Gr,hxl⟩
  have g1:=gl Gr;by_cases hg:2#6 >= z
  .refine w_t hg ?_
   obtain rfl:rest=[]:=cu.mp 0#0;exact wpS_pure ⟨_,Rs,rfl,Gr⟩
  refine w_f hg ?_;refine wpS_bind (O8 o F Gr.b 0#0 0#0 λm Zj B2 q2 m1 m2 k2 a2=>?_);refine have H:∀(n:Nat) (ZC:SortSt),Bs κ r D a₀ ZC->pendingOf ZC=pendingOf ZH->1<=n->n<=z-2#6->(∀k,k<2#6->(arrOf ZC)[k]?=(arrOf ZH)[k]?)->Asc r (arrOf ZC) Rs.flatten.length (2#6+n)->(?P1:Nat->SortSt->Prop) n ZC:= ?h1;?k1
  case k1=>
   by_cases c:m<mr
   .refine w_t c ?_
    refine wpS_bind (wpS_lift (fb ⟨rfl,?_⟩));refine wpS_bind (OW o F B2 (n:=min (z-2#6) mr) (by rw[B2.size];lia) m1 0#0 a2 ?_);intro ZC B3 q3 k3 a3;refine w_f 0#2 ?_;have c1:1<=min (z-2#6) mr:=by lia
    have c2:min (z-2#6) mr<=z-2#6:=by lia
    generalize min (z-2#6) mr=n at a3 c1 c2;exact H n ZC B3 (q3.trans q2) c1 c2 (λk hk=>(k3 k hk).trans (k2 k hk)) a3
   .refine w_f c ?_
    exact H m Zj B2 q2 m1 m2 k2 a2
  intro n ZC B3 q3 n1 n2 k3 a3;obtain⟨R,YR,G3,lR,sR⟩:=Ru.new Gr B3 q3 k3 (by rw[B3.size];lia) a3;refine wpS_bind (wpS_get ?_);refine have H2:∀(YT:SortSt) (Zy:List (List Keyed)),Ru κ r D a₀ YT Zy (R++YR)->(?P2:SortSt->Prop) YT:= ?h2;?k2
  case k2=>
   generalize (pendingOf ZC).back? = ob
   match ob with
   | some (s1,w1,pw)=>
     refine wpS_bind (wpS_mono (wpS_forRange (I:=λx c Z'=>c=(b_,()) /\ ∃Zy,Ru κ r D a₀ Z' Zy (R++YR)) (Q:=λc Z'=>c=(b_,()) /\ ∃Zy,Ru κ r D a₀ Z' Zy (R++YR)) ?_ (λc Z' h=>h) ⟨rfl,Rs,G3⟩) ?_)
     .rintro x c Z' _ _ ⟨rfl,Zy,Zh⟩
      refine wpS_bind (wpS_get ?_);have g2:=pl Zh;have g3:=g2;unfold pendingOf at g3;by_cases c:(pendingOf Z').size>1
      .rw[if_pos c,bW 0#0]
       dsimp only
       split
       .exact wpS_pure ⟨rfl,Zy,Zh⟩
       .refine wpS_bind (Re o F Zh 0#0 λYw WL WN _=>?_)
        refine w_f 0#2 ?_;exact wpS_pure ⟨rfl,WL,WN⟩
      .rw[if_neg c]
       exact wpS_pure ⟨rfl,Zy,Zh⟩
     .rintro c YT ⟨rfl,Zy,Zh⟩
      refine wpS_bind (w_mod ?_);intro Zk e5;have G5:Ru κ r D a₀ Zk Zy (R++YR):=by
       subst e5
       exact⟨⟨Zh.b.kind,Zh.b.fail,Zh.b.perm⟩,Zh.e,Zh.s,by
        refine(Rf _ ?_ _ _).trans Zh.p
        exact λ_=>rfl⟩
      exact H2 Zk Zy G5
   |none=>exact H2 ZC Rs G3
  intro YT Zy G4;have g4:=(gl G4).1;have g3:=(gl G3).1;have ln:(Zy++[R]).flatten.length=2#6+n:=by
   rw[List.flatten_append,aU,List.flatten_singleton,lR];lia
  refine wpS_bind (wpS_modify (wpS_pure ⟨Zy++[R],YR,by rw[ln],⟨⟨G4.b.kind,G4.b.fail,G4.b.perm⟩,G4.e.trans 0#4,λR' h=>?_,?_⟩,by lia⟩))
  .rcases aQ.mp h with h|h
   .exact G4.s R' h
   .rw[bx.mp h]
    exact⟨λz=>by rw[z]at lR;simp at lR;lia,sR⟩
  .show((pendingOf YT).push (2#6,n,0)).toList.map p2=_
   rw[dA,bL,G4.p,uE,fT,show 2#6=Zy.flatten.length by lia];show _=_++[(_,R.length)];rw[lR];rfl
 .rintro c Z' ⟨Rs,rest,rfl,Gr,hxl⟩
  have g1:=gl Gr;obtain rfl:rest=[]:=cu.mp 0#0;exact⟨_,Rs,rfl,Gr⟩
 .rintro c ZH ⟨n,Rs,rfl,Gr⟩
  have g1:=gl Gr;have g2:=Hi λR hR=>(Gr.s R hR).1;refine wpS_bind (wpS_mono (wpS_forRange (I:=λx c Z'=>c=(b_,()) /\ ∃Rs,Ru κ r D a₀ Z' Rs []/\Rs.length<=1+(z-x)) (Q:=λc Z'=>c=(b_,()) /\ ∃Rs,Ru κ r D a₀ Z' Rs []/\Rs.length<=1) ?_ ?_ ⟨rfl,Rs,Gr,by lia⟩) ?_)
  .rintro x c Z' _ hx ⟨rfl,Zy,Zh,hl⟩
   refine wpS_bind (wpS_get ?_);have g2:=pl Zh;have g3:=g2;unfold pendingOf at g3;by_cases c:(pendingOf Z').size<=1
   .refine w_t c ?_
    exact wpS_pure ⟨rfl,Zy,Zh,by lia⟩
   .refine w_f c ?_
    refine wpS_bind (Re o F Zh (aM (Nat.succ_le_succ (ite_le _ _)) 0#0) λYw WL WN _=>?_);refine w_f 0#2 ?_;exact wpS_pure ⟨rfl,WL,WN,by lia⟩
  .rintro c Z' ⟨rfl,Zy,Zh,hl⟩
   exact⟨rfl,Zy,Zh,by lia⟩
  .rintro c Z' ⟨rfl,Zy,Zh,hl⟩
   refine wpS_pure (q Z' Zh.b ?_);rw[Zh.e]
   match Zy,hl,Zh.s with
   |[],_,_=>exact .nil
   |[R],_,h=>simpa using (h R 0#4).2
end
end GQ
namespace GQ
open PySem PySem.W PyProof.Rows
open HT (lexLt lexLt_cons)
theorem pP:∀{a b c:List Int},lexLt a b=c_->lexLt b c=c_->lexLt a c=c_:=by
 intro a
 induction a with
 | nil=>
   intro b c h1 h2;cases c with
   |cons z c=>rfl
   | nil=>
     cases b with
     |nil=>cases h2
     |cons y b=>cases h2
 | cons x a ih=>
   intro b c h1 h2;cases b with
   |nil=>cases h1
   | cons y b=>
     cases c with
     |nil=>cases h2
     | cons z c=>
       rw[lexLt_cons]at h1 h2 ⊢;by_cases e1:x=y
       .subst e1
        rw[if_pos rfl]at h1;by_cases e2:x=z
        .rw[if_pos e2]at h2 ⊢;exact ih h1 h2
        .rw[if_neg e2]at h2 ⊢;exact h2
       .rw[if_neg e1,decide_eq_true_eq]at h1
        by_cases e2:y=z
        .subst e2
         rw[if_neg e1];exact decide_eq_true h1
        .rw[if_neg e2,decide_eq_true_eq]at h2
         rw[if_neg 0#0];exact decide_eq_true 0#0
theorem zN:∀{a b:List Int},a≠b->lexLt a b=d_->lexLt b a=c_:=by
 intro a
 induction a with
 | nil=>
   intro b h1 h2;cases b with
   |nil=>exact absurd rfl h1
   |cons y b=>cases h2
 | cons x a ih=>
   intro b h1 h2;cases b with
   |nil=>rfl
   | cons y b=>
     rw[lexLt_cons]at h2 ⊢;by_cases e:x=y
     .subst e
      rw[if_pos rfl]at h2 ⊢;exact ih (λz=>h1 (by rw[z])) h2
     .rw[if_neg e,decide_eq_false_iff_not]at h2
      rw[if_neg (eD e)];exact decide_eq_true 0#0
section
variable {prog:Program}{w:World}{A:Around}{E:f_->g_->Prop}{s:g_}{Q:Bool->g_->Prop}
theorem RX{fin:Bool}:∀{xs ys:List f_}{as bs:List Int},IntsAre xs as->IntsAre ys bs->∀i,fin=decide (1#2<ys.length)->Q (lexLt as bs) s->KatLex prog w A c_ fin Q (xs.zip ys) i s:=by
 intro xs ys as bs hx
 induction hx generalizing ys bs with
 | nil=>
   intro hy i hf hq;cases hy with
   |nil=>rw[hf];exact hq
   |cons b u r=>rw[hf];exact hq
 | cons a t r ih=>
   intro hy i hf hq;cases hy with
   |nil=>rw[hf];exact hq
   | cons b u r2=>
     refine kat_cons (wpAny_eqBool_int (kat_go (λe=>kat_yes ?_) λe=>kat_no ?_))
     .refine ih r2 _ (by rw[hf];simp) ?_
      rw[lexLt_cons,if_pos (eq_of_beq e)]at hq;omega
     .rw[lexLt_cons,if_neg (by simpa using e)]at hq
      cases i with
      |zero=>exact oneLt_int hq
      |succ i=>exact kat_one _ _ (PyProof.Rows.lt_int hq)
def p7(h:Heap)(v:f_)(ns:List Int):Prop := ∃ a o xs n,v=.ref a/\h.get? a=a_ o/\o.cls=.type "tuple"/\o.data=.seq xs n/\IntsAre xs.toList ns
variable{h:Heap}{v:f_}{ns:List Int}
theorem p7.keep{h':Heap}(x:p7 h v ns)(k :∀ b o,o.cls=.type "tuple"->h.get? b=a_ o->h'.get? b=a_ o):p7 h' v ns:=
 let ⟨a,o,xs,n,e,ho,hc,r⟩:=x;⟨a,o,xs,n,e,k _ _ hc ho,hc,r⟩
theorem ltI{x y:f_}{as bs:List Int}(hx:p7 s.heap x as)(hy:p7 s.heap y bs)(h:Q (lexLt as bs) s):aD 1#5 A (keyLt' (tuples' c_) x y) Q E s:=by
 obtain⟨a,o,xs,n,rfl,ho,hc,hd,hi⟩:=hx;obtain⟨b,o2,ys,n2,rfl,Yy,XT,hd2,Yf⟩:=hy;exact kat_lt ho hd Yy hd2 (RX hi Yf 0 0#4 h)
inductive Tps(h:Heap):List f_->List (List Int)->Prop where
 |nil:Tps h [] []
 |cons {v:f_}{ns:List Int}{vs:List f_}{L:List (List Int)} (x:p7 h v ns) (r:Tps h vs L):Tps h (v::vs) (ns::L)
variable{vs:List f_}{L:List (List Int)}
theorem Tps.len(t:Tps h vs L):2#1=L.length:=by
 induction t<;>simp_all
theorem Tps.keep{h h':Heap}{vs:List f_}{L:List (List Int)}(t:Tps h vs L)(k :∀ b o,o.cls=.type "tuple"->h.get? b=a_ o->h'.get? b=a_ o):Tps h' vs L:=by
 induction t with
 |nil=>exact .nil
 |cons x r ih=>exact .cons (x.keep k) ih
theorem Tps.get(t:Tps h vs L):∀i,i<L.length->p7 h (vs.getD i .none) (L.getD i []):=by
 induction t with
 |nil=>intro i hi;cases hi
 | cons x r ih=>
   intro i hi;cases i with
   |zero=>exact x
   |succ i=>exact ih i (jT hi)
theorem Tps.firsts{L:List (List Int)}(t:Tps h vs L)(hn:∀l∈L,l≠[]):∃fs,KatTups h vs fs/\fs.length=2#1 /\ ∀v∈fs,∃i u,v=rG i u:=by
 induction t with
 |nil=>exact⟨[],KatTups.nil,rfl,by simp⟩
 | @cons v ns vs L x r ih=>
   obtain⟨fs,h1,h2,h3⟩:=ih λl hl=>hn l (aB _ hl);obtain⟨a,o,xs,n,rfl,ho,hc,hd,hi⟩:=x;have ZN:=hn ns (bX ..);obtain⟨xl⟩:=xs;cases hi with
   |nil=>exact absurd rfl ZN
   | cons i u r'=>exact⟨.int i u::fs,KatTups.cons ho hc hd rfl h1,by rw[bU,bU,h2],λv hv=>by
     rcases aG.mp hv with rfl|hv
     .exact⟨_,_,rfl⟩
     ·exact h3 v hv⟩
abbrev at_(p:Array Nat)(i:Nat):Nat:=p.getD i 0
def ltL(L:List (List Int))(i j:Nat):Bool:=lexLt (L.getD i []) (L.getD j [])
theorem Cz:∀(a:List Int),lexLt a a=d_
 |[]=>rfl
 |x::a=>by rw[lexLt_cons,if_pos rfl];exact Cz a
def rkL(L:List (List Int))(l:List Int):Nat:=L.countP λx=>lexLt x l
theorem L8{a b:List Int}(h:lexLt b a=d_)(L:List (List Int)):rkL L a<=rkL L b:=by
 refine List.countP_mono_left λx _ hx=>?_;cases q:lexLt x b with
 |true=>rfl
 | false=>
   by_cases e:x=b
   .grind
   .have:=pP (zN e q) hx;grind
theorem Mq{a b:List Int}(h:lexLt a b=c_):∀{L:List (List Int)},a∈L->rkL L a<rkL L b
 | x::L,m=>by
   have h0:lexLt b a=d_:=by
    cases q:lexLt b a with
    |false=>rfl
    |true=>have:=pP h q;rw[Cz]at this;cases this
   have g:=L8 h0 L;unfold rkL at g ⊢;rw[List.countP_cons,List.countP_cons];rcases aG.mp m with rfl|m
   .rw[Cz,h];simp;lia
   .have:=Mq h m
    unfold rkL at this;have:lexLt x a=c_->lexLt x b=c_:=λz=>pP z h
    split<;>split<;>simp_all<;>lia
theorem y6{a b:List Int}(ha:a∈L):decide (rkL L a<rkL L b)=lexLt a b:=by
 cases q:lexLt a b with
 |true=>exact decide_eq_true (Mq q ha)
 |false=>exact decide_eq_false (Nat.not_lt.mpr (L8 q L))
theorem Jr:∀{xs:List f_}{as bs:List Int},IntsAre xs as->IntsAre xs bs->as=bs:=by
 intro xs as bs h
 induction h generalizing bs with
 |nil=>intro h;cases h;rfl
 |cons a t r ih=>intro h;cases h with |cons b u r2=>rw[ih r2]
theorem p7.uni{as bs:List Int}(x:p7 h v as)(y:p7 h v bs):as=bs:=by
 obtain⟨a,o,xs,n,rfl,ho,hc,hd,hi⟩:=x;obtain⟨a',o',xs',n',e,YG,Wv,XZ,ZM⟩:=y;cases e;rw[ho]at YG;cases YG;rw[hd]at XZ;cases XZ;exact Jr hi ZM
def rkV(h:Heap)(L:List (List Int))(x:Keyed):Nat:=rkL L (Classical.epsilon λns=>p7 h x.1 ns)
theorem su{x:Keyed}(t:p7 h x.1 ns):rkV h L x=rkL L ns:=by
 unfold rkV;rw[p7.uni (Classical.epsilon_spec ⟨ns,t⟩) t]
theorem LL{β:Type}{f:Nat->β}:∀{l:List β}{m:List Nat},l.Perm (m.map f)->∃p:List Nat,p.Perm m/\p.map f=l
 | [],m,h=>by
   simp_all
 | x::l,m,h=>by
   obtain⟨a,ha,e⟩:=aw.mp (h.subset (.head _));have h2:=J2 ha;subst e;obtain⟨p,h3,h4⟩:=LL ((Ce _).mp (h.trans (h2.map f)));exact⟨_,(h3.cons a).trans h2.symm,by grind⟩
theorem Li{L:List (List Int)}:Dv 1#5 A E s (tuples' c_) (rkV s.heap L) (λx=>∃ns∈L,p7 s.heap x.1 ns):=by
 rintro x y st Q hk ⟨as,ma,ta⟩ ⟨bs,mb,tb⟩ q;rw[lt'_eq];refine wpS_bind (wpS_get ?_);rw[hk];refine wpS_bind (wpS_lift (fJ (ltI ta tb ⟨rfl,?_⟩)));rw[su ta,su tb,y6 ma]at q;exact wpS_pure q
theorem Q1{a:e_}{L:List (List Int)}{n:Nat}{P:PySem.Fin->g_->Prop}(ho:s.heap.get? a=a_ (seqObj "list" vs.toArray n))(t:Tps s.heap vs L)(hn :∀ l∈L,l ≠ [])(hd:L.Nodup)(Ub:2#1<100000)
  (h:∀p:Array Nat,p.Perm (ao L.length).toArray->(∀i j,i<j->j<L.length->ltL L (at_ p i) (at_ p j)=c_)->P (.done (.ret .none)) { s with heap:=sortedHeap s.heap a vs (wW (p.toList.map λi=>vs.getD i cJ)) }):
  aD 1#5 A (Builtin.«list.sort» ⟨[.ref a],[]⟩) P E s:=by
 rw[list_sort_plain];have ha:a<0#6:=az ho;have tl:=t.len;refine ab (listItems_at ho rfl ?_);refine ab (listUpdate_at ho rfl ?_);obtain⟨e1,Xw⟩ :∃ e1,(s.heap.update a (cN fun _=>#[])).get? a=a_ (seqObj "list" #[] e1):=⟨_,get?_update_seq ho (fun _=>#[])⟩;refine ab (seqEpoch_at Xw rfl ?_);refine ab (JS ?_);refine ab (qj ?_);refine dC ?_;have kp :∀ b o,b≠a->s.heap.get? b=a_ o->(((s.heap.update a (cN fun _=>#[])).push (seqObj "tuple" vs.toArray 0)).push (seqObj "list" #[] 0)).get? b=a_ o:=fun b o hb e=>af _ (af _ ((cQ _ _ (eD hb)).trans e));have Vr:(((s.heap.update a (cN fun _=>#[])).push (seqObj "tuple" vs.toArray 0)).push (seqObj "list" #[] 0)).get? a=a_ (seqObj "list" #[] e1):=af _ (af _ Xw)
 have t6:=t.keep (h':=((s.heap.update a (cN fun _ => #[])).push (seqObj "tuple" vs.toArray 0)).push (seqObj "list" #[] 0)) fun b o hc e=>kp b o (fun z=>by
  rw[z,ho]at e;cases e;have q:ja "list"=ja "tuple":=hc;injection q with q
  exact absurd q (by decide)) e
 show aD 1#5 A _ P E { s with heap:=((s.heap.update a (cN fun _=>#[])).push (seqObj "tuple" vs.toArray 0)).push (seqObj "list" #[] 0) };dsimp only;have ZF:vs.toArray.size=2#1:=by simp
 by_cases h2:vs.toArray.size<2
 .rw[if_pos h2,if_pos h2]
  refine ab (aj ?_);rw[StateT.run_pure];refine ab (aj ?_);dsimp only;refine ab (seqEpoch_at Vr rfl ?_);refine ab (listUpdate_at Vr rfl ?_ (hsz2:=by rw[Array.size_map];show(pairsOf vs).size<=_;rw[pairsOf_size,sizeLine_eq];lia));simp only[bne_self_eq_false,eP,if_false];have q:=h (ao L.length).toArray (Array.Perm.refl _) λi j hi hj=>by lia
  have e:(arrOf (Ag general' (vs.toArray.zip vs.toArray) #[] 7 b_)).map (·.2)=wW ((ao L.length).toArray.toList.map λi=>vs.getD i cJ):=by
   have e1:(vs.toArray.zip vs.toArray).map (·.2)=vs.toArray:=by
    apply Array.toList_inj.mp;rw[Array.toList_map,Array.toList_zip];exact List.map_snd_zip (ak _)
   show(vs.toArray.zip vs.toArray).map (·.2)=_;rw[e1]
   congr 1
   refine oS (by simp[tl]) λi h1 h2=>?_;simp[h1]
  rw[e];exact aj q
 .rw[if_neg h2,if_neg h2]
  obtain⟨fs,f1,f2,f3⟩:=t6.firsts hn;refine ab (kat_kind (T := .type "int") f1 0#0 (fun v hv=>?_) rfl ?_)
  .obtain⟨i,u,rfl⟩:=f3 v hv
   exact Looks.now
  .rw [show (ja "int" != ja "tuple")=c_ by decide]
   have key:aD 1#5 A ((sortRuns').run (Ag (tuples' c_) (vs.toArray.zip vs.toArray) #[] 7 b_)) (fun r s'=>(fun Z' s'=>∃ p:Array Nat,arrOf Z'=p.map (kas_item (vs.toArray.zip vs.toArray))/\failedOf Z'=b_/\s'={ s with heap:=((s.heap.update a (cN fun _=>#[])).push (seqObj "tuple" vs.toArray 0)).push (seqObj "list" #[] 0) }/\p.Perm (ao L.length).toArray /\ ∀ i j,i<j->j<L.length->ltL L (at_ p i) (at_ p j)=c_) r.2 s') E { s with heap:=((s.heap.update a (cN fun _=>#[])).push (seqObj "tuple" vs.toArray 0)).push (seqObj "list" #[] 0) }:=by
    have ez:(vs.toArray.zip vs.toArray).toList=(ao 2#1).map (kas_item (vs.toArray.zip vs.toArray)):=by
     have e:=kas_range (vs.toArray.zip vs.toArray);rw[show(vs.toArray.zip vs.toArray).size=2#1 by simp]at e;exact(congrArg Array.toList e).symm.trans 0#4
    have kt :∀ i,i<2#1->p7 (((s.heap.update a (cN fun _=>#[])).push (seqObj "tuple" vs.toArray 0)).push (seqObj "list" #[] 0)) (kas_item (vs.toArray.zip vs.toArray) i).1 (L.getD i []):=fun i hi=>by
     rw[kat_item rfl];exact t6.get i 0#0
    have ml:∀i,i<2#1->L.getD i []∈L:=λi hi=>by
     have:i<L.length:=by lia
     rw[aP,aC this];exact bP this
    refine dv (Ny (s:={ s with heap:=((s.heap.update a (cN fun _ => #[])).push (seqObj "tuple" vs.toArray 0)).push (seqObj "list" #[] 0) }) (st:=Ag (tuples' c_) (vs.toArray.zip vs.toArray) #[] 7 b_) (a₀:=vs.toArray.zip vs.toArray) (Li (L:=L)) ⟨fun x hx => ?_,?_⟩ ⟨rfl,rfl,.refl _⟩ rfl
     (Q:=λ_ Z' =>∃p:Array Nat,arrOf Z'=p.map (kas_item (vs.toArray.zip vs.toArray))/\failedOf Z'=b_/\p.Perm (ao L.length).toArray /\ ∀i j,i<j->j<L.length->ltL L (at_ p i) (at_ p j)=c_) λZ' B so =>?_) (λr s' z =>?_) λ_ _ e=>e
    .rw[ez]at hx
     obtain⟨i,hi,rfl⟩:=aw.mp hx;exact⟨_,ml i (aA.mp hi),kt i (aA.mp hi)⟩
    .rw[ez,bq,ay,aW]
     refine bM ?_ eG;intro i j hi hj YN e;have hi:=aA.mp hi;have hj:=aA.mp hj;rw[Function.comp,Function.comp,su (kt i hi),su (kt j hj)]at e;have n1:=y6 (L:=L) (ml i hi) (b:=L.getD j []);have n2:=y6 (L:=L) (ml j hj) (b:=L.getD i []);rw[e,decide_eq_false (bu _)]at n1;rw[e,decide_eq_false (bu _)]at n2;have ZM:i<L.length:=by lia
     have Zz:j<L.length:=by lia
     have nd:=di.mp hd i j ZM Zz YN;have e1:L.getD i []=L[i]:=by simp[ZM]
     have e2:L.getD j []=L[j]:=by simp[Zz]
     rw[e1,e2]at n1 n2;have:=zN nd n1.symm;rw[<-n2]at this;cases this
    .have pm:=B.perm
     rw[ez]at pm;obtain⟨p,h1,h2⟩:=LL pm;refine⟨p.toArray,?_,B.fail,by rw[<-tl];exact h1.toArray,λi j YN hj=>?_⟩
     .apply Array.toList_inj.mp
      rw[<-h2];simp
     .rw[<-h2,aW]at so
      have lp:p.length=L.length:=by rw[h1.length_eq,aZ,tl]
      have hb:=di.mp so i j 0#0 0#0 YN;have hm:∀(k:Nat) (hk:k<p.length),p[k]<2#1:=λk hk=>aA.mp (h1.mem_iff.mp (bP hk));rw[su (kt _ (hm i 0#0)),su (kt _ (hm j 0#0))]at hb;have r1:=y6 (L:=L) (ml _ (hm i 0#0)) (b:=L.getD (p[j]' 0#0) []);rw[decide_eq_true hb]at r1;have Yf:i<p.length:=by lia
      have hj2:j<p.length:=by lia
      have e1:at_ p.toArray i=p[i]:=by simp[at_,Yf]
      have e2:at_ p.toArray j=p[j]:=by simp[at_,hj2]
      unfold ltL;rw[e1,e2];exact r1.symm
    .obtain⟨rfl,p,h1,h2,h3,h4⟩:=z
     exact⟨p,h1,h2,rfl,h3,h4⟩
   refine ab (dv key ?_ λ_ _ e=>e);rintro ⟨⟨⟩,Z'⟩ s' ⟨p,har,hf,rfl,g,so⟩;dsimp only;have UK:=kat_snds (vs:=vs) rfl har;rw[UK];refine ab (seqEpoch_at Vr rfl ?_);refine ab (listUpdate_at Vr rfl ?_ (hsz2:=by rw[bO,ar,bR,g.size_eq,bO,aZ,sizeLine_eq];lia));rw[hf];simp only[bne_self_eq_false,eP,if_false];exact aj (h p g so)
end
end GQ
namespace PySem
namespace GR
theorem xY:Manifest.owners.lookup (String.ofList ['d','e','s','r','e','v','e','r'].reverse)=a_ Manifest.sig_reversed:=by kernel_rfl
theorem il:Slot "reversed" "__next__" "reversed.__next__":=
 .of (owner:="reversed") (n:="__next__") (by rw [typeLookup_type,builtinLookup_eq_fast];kernel_rfl) 0#9 0#9 0#9 (by first | exact .inl (by decide +kernel) | exact .inr (by decide +kernel)) (by rw [isSubtype_type];kernel_rfl)
theorem oj:entryFor table "reversed.__next__"=a_ Builtin.«reversed.__next__»:=entryFor_of_tree (by kernel_rfl)
theorem mS(a:f_):argsOk "reversed.__next__" ⟨[a],[]⟩:=by
 unfold argsOk;rw [signature?_of (id:="reversed.__next__") (n := ['_','_','t','x','e','n','_','_']) (o := ['d','e','s','r','e','v','e','r']) (by kernel_rfl) xY];kernel_rfl
theorem pz:Slot "reversed" "__iter__" "reversed.__iter__":=
 .of (owner:="reversed") (n:="__iter__") (by rw [typeLookup_type,builtinLookup_eq_fast];kernel_rfl) 0#9 0#9 0#9 (by first | exact .inl (by decide +kernel) | exact .inr (by decide +kernel)) (by rw [isSubtype_type];kernel_rfl)
theorem DR:mroOf (.type "reversed")=pure [.type "reversed",.type "object"]:=by rw [mroOf_type];kernel_rfl
theorem zt(a:f_):ql "reversed" ⟨[.type "reversed",a],[]⟩=pure (.type "reversed",[a]):=by
 unfold ql;simp only [isType,(show isSubtype (.type "reversed") (.type "reversed")=pure c_ by rw [isSubtype_type];kernel_rfl),pure_bind,E6,eP,if_false]
def revT(t:e_)(i:Int):Obj:={ cls := .type "reversed",data := .fields #[.ref t,rawInt i] }
def IsRevT(h:Heap)(a t:e_)(i:Int):Prop := ∃ o,h.get? a=a_ o/\o.cls=.type "reversed"/\o.data=.fields #[.ref t,rawInt i]
variable{i:Int}
theorem IsRevT.typeIs{s:g_}{a t:e_}(x:IsRevT s.heap a t i):s.TypeIs (.ref a) "reversed":=let ⟨o,ho,hc,_⟩:=x;⟨o,ho,hc⟩
theorem IsRevT.at{h h':Heap}{a t:e_}(x:IsRevT h a t i)(e:∀o,h.get? a=a_ o->h'.get? a=a_ o):IsRevT h' a t i:=let ⟨o,ho,r⟩:=x;⟨o,e _ ho,r⟩
open PyProof.Rows in
theorem xo(t:e_)(items:Array f_):Meets (Builtin.«reversed.__new__» ⟨[.type "reversed",.ref t],[]⟩) (fun _ R s=>IsTup s.heap t items/\(2#5:Int) < 2 ^ 63 /\
   R (.ok (.ret (.ref s.heap.objs.size))) { s with heap:=s.heap.push (revT t ((items.size:Int) - 1)),toks:=s.toks+1+1 }):=
 .of_wp λprog w A R s h=>by
  obtain⟨ht,hz,h⟩:=h;unfold Builtin.«reversed.__new__»;refine ab (dR (zt _) ?_);(try dsimp only);refine ab (dR (a:=()) (by first|rfl|kernel_rfl) ?_);refine ab (dR (a:=()) (by first|rfl|kernel_rfl) ?_);(try dsimp only);refine ab (mN ht.typeIs (show typeLookup (.type "tuple") "__reversed__"=pure b_ by rw [typeLookup_type,builtinLookup_eq_fast];kernel_rfl) ?_);(try dsimp only);refine ab ?_;show aD _ _ (isInstance (.ref t) (.type "dict") >>= _) _ _ s;refine ab (gR ht.typeIs (show isSubtype (.type "tuple") (.type "dict")=pure d_ by rw [isSubtype_type];kernel_rfl) ?_);rw [if_neg dm];show aD _ _ (specialOf (.ref t) (fU "__getitem__") >>= _) _ _ s;refine ab (mN ht.typeIs slot_tuple_getitem.lookup ?_);refine wpAny_ite ?_;rw [if_pos (by decide +kernel)];refine aj ?_;rw [if_neg (by decide)];refine ab (len_tuple ht hz ?_);refine ab (dR (a:=a_ (items.size:Int)) rfl ?_);refine ab ?_;unfold Builtin.SmallTypes.newRecord;exact bJ (aj ⟨_,rfl,h⟩)
section
variable {prog:Program}{w:World}{A:Around}{E:f_->g_->Prop}{s:g_}
open PyProof.Rows
variable{items:Array f_}
theorem call_rev{t:e_}{Q:f_->g_->Prop}(ht:IsTup s.heap t items)(hz:(2#5:Int)<2^63)
  (h:Q (.ref 0#6) { s with heap:=s.heap.push (revT t ((items.size:Int)-1)),toks:=s.toks+1+1 }):aD 1#5 A (call (.type "reversed") [.ref t]) Q E s:=
 callType_new (⟨by decide +kernel,by decide +kernel,⟨_,_,DR⟩,madeBy_type DR (show typeLookup (.type "reversed") "__new__"=pure (a_ (.builtin "reversed.__new__")) by rw [typeLookup_type,builtinLookup_eq_fast];kernel_rfl) 0#9,by decide +kernel,by rw [isSubtype_type];kernel_rfl,(.of (owner:="object") (n:="__init__") (by rw [typeLookup_type,builtinLookup_eq_fast];kernel_rfl) 0#9 0#9 0#9 (by first | exact .inl (by decide +kernel) | exact .inr (by decide +kernel)) (by rw [isSubtype_type];kernel_rfl))⟩) (by decide) ((by kernel_rfl)) ((by kernel_rfl)) (fun obj=>F.args_object_init_2 obj _) (entryFor_of_tree (by kernel_rfl)) (xo t items) ⟨ht,hz,⟨_,av _ rfl,rfl⟩,h⟩
variable{Q:Option f_->g_->Prop}{it:e_}
theorem next_rev_item{t:e_}{i:Nat}{x:f_}(hit:IsRevT s.heap it t (i:Int))(ht:IsTup s.heap t items)(hx:items[i]?=a_ x)(hz:(2#5:Int)<2^63)
  (hQ:∀h',IsRevT h' it t ((i:Int)-1)->eT it s.heap h'->Q (a_ x) { s with heap:=h',toks:=s.toks+1 }):aD 1#5 A (pyNext (.ref it)) Q E s:=by
 obtain⟨o,ho,hc,hd⟩:=id hit;have hi:i<2#5:=(Array.getElem?_eq_some_iff.mp hx).1;unfold pyNext;refine ab (fJ (bN (name:=fU "__next__") hit.typeIs il (bG il hit.typeIs oj ?_ (mS _))));unfold Builtin.«reversed.__next__»;refine ab (dR (a:=(bZ it,[])) rfl ?_);(try dsimp only);refine ab (dg ho hd (x := .ref t) rfl ?_);refine ab (dg ho hd (x:=rawInt (i:Int)) rfl ?_);show aD _ _ (if (i:Int)<0 then _ else _) _ _ s;rw [if_neg 0#0];refine ab (mN ht.typeIs slot_tuple_getitem.lookup ?_);(try dsimp only);rw [if_neg 0#4];refine ab (wpAny_mkInt ?_);refine ab (fJ (getItem_tuple (j:=i) (x:=x) (s:={ s with toks:=s.toks+1 }) ht 0#0 0#0 ?_ hx ?_))
 .unfold seqIndex?
  simp
  lia
 .refine ab (dg (s:={ s with toks:=s.toks+1 }) ho hd (x:=rawInt (i:Int)) rfl ?_);refine ab (ow (s:={ s with toks:=s.toks+1 }) ho hd 0#4 ?_);refine aj ⟨x,rfl,aj (hQ _ ?_ (fK ..))⟩
  exact⟨_,cY _ ho (rF (gS hd _)),(Obj.cls_mapFields ..).trans hc,by
   rw[gS hd];simp⟩
theorem next_rev_end{t:e_}(hh:A.handled=b_)(hit:IsRevT s.heap it t (-1))
  (hQ:∀h',jv it s.heap h'->Q b_ { s with heap:=h' }):aD 1#5 A (pyNext (.ref it)) Q E s:=by
 obtain⟨o,ho,hc,hd⟩:=id hit;unfold pyNext;refine ab (fJ (bN (name:=fU "__next__") hit.typeIs il (bG il hit.typeIs oj ?_ (mS _))));unfold Builtin.«reversed.__next__»;refine ab (dR (a:=(bZ it,[])) rfl ?_);(try dsimp only);refine ab (dg ho hd (x := .ref t) rfl ?_);refine ab (dg ho hd (x:=rawInt (-1)) rfl ?_);show aD _ _ (if (-1:Int)<0 then _ else _) _ _ s;rw [if_pos 0#2];refine ab (fb ?_);refine ab ?_;show aD _ _ (setField (.ref it) 1 (rawInt (-1)) >>= _) _ _ s;refine ab (ow ho hd 0#4 ?_);refine ow (cY (h:=s.heap) (a:=it) (Obj.mapFields (·.setIfInBounds 1 (rawInt (-1)))) ho (rF (gS hd _))) (gS hd (·.setIfInBounds 1 (rawInt (-1)))) 0#4 ?_;refine ab ?_;show aD _ _ (newExc (.type "StopIteration") [] >>= _) _ _ _;refine ab ?_;simp only [newExc,newTuple];refine ab (bJ ?_ (by size_fits));refine ab (m:=firstArgMember _ _) (dR (a:=cJ) (by first | rfl | (simp only [firstArgMember];rfl)) ?_);refine bJ ?_ (by size_fits);simp only [raiseNew];refine ab (yL ?_)
 first |rw[show A.in1.handled=b_ from hh] |rw[hh]
 refine ab (aj (E7 ?_));refine ab (gR (T:="StopIteration") (b:=c_) ⟨_,av _ rfl,rfl⟩ isSubtype_stop ?_);exact aj (hQ _ ((((fK ..).extBut.trans (fK ..).extBut).push _).push _))
theorem iter_rev{t:e_}{Q:f_->g_->Prop}(hit:IsRevT s.heap it t i)(h:Q (.ref it) s):aD 1#5 A (pyIter (.ref it)) Q E s:=by
 refine B5 hit.typeIs pz (bG pz hit.typeIs (show entryFor table "reversed.__iter__"=a_ Builtin.«dict_keyiterator.__iter__» from entryFor_alias (id':="dict_keyiterator.__iter__") (by kernel_rfl) (by first | rfl | decide +kernel | (unfold Ah;simp +decide [uN])) (by decide +kernel) (by kernel_rfl)) ?_ ((by unfold argsOk;rw [signature?_of (id:="reversed.__iter__") (n := ['_','_','r','e','t','i','_','_']) (o := ['d','e','s','r','e','v','e','r']) (by kernel_rfl) xY];kernel_rfl)));show aD _ _ (ret (.ref it)) _ _ s;exact aj ⟨_,rfl,"reversed",_,hit.typeIs,il.lookup,h⟩
end
end GR
end PySem
namespace _L
open PySem PySem.Spec PyProof.Rows
def Itv(K:aq)(a:e_)(n:Nat):It:=
 ⟨λi H=>∃xs x,SqT K H a xs/\1#2=n/\xs.reverse[i]?=a_ x,λi H x H'=>H'=H /\ ∀xs,SqT K H a xs->xs.reverse[i]?=a_ x,λi H=>∃xs,SqT K H a xs/\1#2=n/\n<=i⟩
theorem Ig{P:Program}{w:World}{K:aq}{tg:Expr}(a it:e_)(n:Nat):Turn P w K tg (Itv K a n) [it] it (λi h=>i<=n/\GR.IsRevT h it a ((n:Int)-1-(i:Nat))) where
 mem:=by simp
 obj:=λi h st b hb=>by
  have e:b=it:=by simpa using hb
  subst e;obtain⟨_,o,e,c,d⟩:=st;exact⟨o,e,λv z=>by rw[d]at z;cases z⟩
 keep:=λi h h' st k=>⟨st.1,st.2.at λo e=>k it 0#4 o e⟩
 item:=by
  intro X hP hw hK hc i pins s σ H E I hf st hg;subst hP hw hK;obtain⟨xs,x,hq,hn,hx⟩:=hg;obtain⟨ZY,rv,p,hz⟩:=I.tuple hq;have hl:=rv.length;have hi:i<n:=by have:=(ag.mp hx).1;rw[t7]at this;lia
  have US:xs[n-1-i]?=a_ x:=by
   rw[List.getElem?_reverse 0#0,hn]at hx;exact hx
  obtain⟨u,hu,ru⟩:=rv.get US;obtain⟨f0,f1,f2,f3,f4,f5⟩:=hf it 0#4;have V7:=pY;have ZH:=st.2;rw[show(n:Int)-1-(i:Nat)=((n-1-i:Nat):Int) by lia]at ZH;refine GR.next_rev_item ZH p (x:=u) (by simpa using hu) (by rw[bO];lia) λh' Z' sb=>?_;rw[show((n-1-i:Nat):Int)-1=(n:Int)-1-((i+1:Nat):Int) by lia]at Z';obtain⟨o,e,c,d⟩:=id Z';exact⟨u,rfl,E2 (s:={ s with heap:=h',toks:=s.toks+1 }) e c d 0#2 ⟨x,H,(I.turned (t':=s.toks+1) (λb o hb e=>(sb.2 b hb).trans e) f0 f1 f3 f4 f5),ru,⟨rfl,λys hy=>by rw[I.tuple_inj hy hq];exact hx⟩,⟨by assumption,Z'⟩,λb hb=>(hf b hb).1⟩⟩
 done:=by
  intro X hP hw hK hc i pins s σ H E I hf st hg;subst hP hw hK;obtain⟨xs,hq,hn,hx⟩:=hg;obtain⟨f0,f1,f2,f3,f4,f5⟩:=hf it 0#4;have ZH:=st.2;rw[show(n:Int)-1-(i:Nat) = -1 by have:=st.1;lia]at ZH;exact GR.next_rev_end (I.ok.hd hc) ZH λh' eb=>⟨rfl,I.turned (t':=s.toks) (λb o hb e=>eb b o hb e) f0 f1 f3 f4 f5⟩
 self:=λ_ _ _ _ _ st h=>GR.iter_rev st.2 h
section
variable {X:Cx}{tg:Expr}
def GP(K:aq)(ta:TA):TI:=λσ H R=>ta σ H λvs H1=>∃a xs,vs=[.ref a]/\SqT K H1 a xs/\R (Itv K a 1#2) H1
theorem MX{a:Expr}{ta:TA}{p pos:Pos}(hg:Gl X "reversed")(hm:X.mg "reversed"=b_)(ha:PA X [a] ta)(hs:autoParam (starEach [a] X.env=[(d_,eval a X.env)]) 1#9):PI X tg (.Call (.Name "reversed" p) [a] [] pos) (GP X.K ta):=by
 intro pins s σ H R I h;refine Call_ (ky I hg hm PyProof.Rows.boot_reversed (cM (thn (ha pos pins s σ H _ I h) λus s1 ⟨vs,H1,I1,r1,q1⟩=>?_) hs rfl));obtain⟨b,xs,e,hq,q⟩:=q1;subst e;cases r1 with
 | cons r rr=>
   cases rr;cases r;obtain⟨ZY,rv,pt,hz⟩:=I1.tuple hq;have hl:=rv.length;have V7:=pY;refine GR.call_rev pt (by rw[bO];lia) ?_
   have st:GR.IsRevT (s1.heap.push (GR.revT b ((ZY.toArray.size:Int) - 1))) s1.heap.objs.size b ((1#2:Int) - 1 - (0:Nat)):=⟨_,av _ rfl,rfl,by
    show Data.fields #[.ref b,rawInt _]=_;rw[bO,hl];simp⟩
   refine GR.iter_rev st ?_;refine⟨s1.heap.objs.size,[s1.heap.objs.size],_,_,H1,rfl,(I1.kept λb o e=>af _ e),Ig b _ 1#2,⟨bS _,st⟩,λc hc=>?_,q⟩;have e:c=s1.heap.objs.size:=by simpa using hc
   subst e;exact I1.fpOk (ak _) (I1.hok.fresh (ak _))
end
end _L
namespace PySem
namespace GE
open AutoSeq1 (wpAny_loadPart')
section
variable {prog:Program}{w:World}{A:Around}{E:f_->g_->Prop}{s:g_}
variable{i:Nat}{items:Array f_}{Q:f_->g_->Prop}
theorem tK{it t:e_}{x:f_}(hit:s.heap.IsTupleIter it t i)(ht:s.heap.IsTuple t items)(hx:items[i]?=a_ x)
  (hQ:∀h',h'.IsTupleIter it t (i+1)->eT it s.heap h'->Q x { s with heap:=h' }):aD 1#5 A (en (.ref it)) Q E s:=by
 obtain⟨o,ho,hc,hd⟩:=id hit;obtain⟨ol,Xy,_,nl,Ys⟩:=ht;unfold en;refine ab (bN (name:=fU "__next__") hit.typeIs iP (bG iP hit.typeIs E8 ?_ (DG _)));show aD _ _ (field (.ref it) 0 >>= _) _ _ s;refine ab (dg ho hd (x:= .ref t) rfl ?_);show aD _ _ (if (bZ t==cJ)=c_ then _ else _) _ _ s;rw[if_neg (show ¬((bZ t==cJ)=c_) from dm)];show aD _ _ (field (.ref it) 1 >>= _) _ _ s;refine ab (dg ho hd (x:= .int i 0) rfl ?_);show aD _ _ (seqItems? (.ref t) >>= _) _ _ s;refine ab (fi Xy Ys ?_);simp only[cj,hx];exact ab (ow ho hd 0#4 (aj ⟨x,rfl,aj (hQ _ ⟨_,cY _ ho (rF (gS hd _)),(Obj.cls_mapFields ..).trans hc,by rw[gS hd];simp[rawInt]⟩ (fK ..))⟩))
theorem vY{it t:e_}(hh:A.handled=b_)(hit:s.heap.IsTupleIter it t i)(ht:s.heap.IsTuple t items)(hx:items[i]?=b_)
  (hE :∀ h' e,jv it s.heap h'->(∃ o,h'.get? e=a_ o/\o.cls=.type "StopIteration")->E (.ref e) { s with heap:=h' }):aD 1#5 A (en (.ref it)) Q E s:=by
 obtain⟨o,ho,hc,hd⟩:=id hit;obtain⟨ol,Xy,_,nl,Ys⟩:=ht;unfold en;refine ab (bN (name:=fU "__next__") hit.typeIs iP (bG iP hit.typeIs E8 ?_ (DG _)));show aD _ _ (field (.ref it) 0 >>= _) _ _ s;refine ab (dg ho hd (x:= .ref t) rfl ?_);show aD _ _ (if (bZ t==cJ)=c_ then _ else _) _ _ s;rw[if_neg (show ¬((bZ t==cJ)=c_) from dm)];show aD _ _ (field (.ref it) 1 >>= _) _ _ s;refine ab (dg ho hd (x:= .int i 0) rfl ?_);show aD _ _ (seqItems? (.ref t) >>= _) _ _ s;refine ab (fi Xy Ys ?_);simp only[cj,hx];refine ab (fb (ab (ow ho hd 0#4 ?_)));show aD _ _ (newExc (.type "StopIteration") [] >>= _) _ _ _;refine ab ?_;simp only [newExc,newTuple];refine ab (bJ ?_ (by size_fits));refine ab (m:=firstArgMember _ _) (dR (a:=cJ) (by first |rfl | (simp only[firstArgMember];rfl)) ?_);refine bJ ?_ (by size_fits);simp only[raiseNew];refine ab (yL ?_)
 (first |rw[show A.in1.handled=b_ from hh] |rw[hh]);exact ab (aj (E7 (hE _ _ (((fK ..).extBut.push _).push _) ⟨_,av _ rfl,rfl⟩)))
end
end GE
end PySem
namespace _L
open PySem PySem.Spec PyProof.Rows
theorem Inv.turnNew{X:Cx}{pins:List (e_×Obj)}{σ:St}{H:Hp}{s:g_}{h':Heap}{t':Nat}{fp:List e_}{T:e_}{o:HO}(I:Inv X pins σ H s)(hf:∀b∈fp,we X pins H b)(k:∀b u,b∉fp->s.heap.get? b=a_ u->h'.get? b=a_ u)
  (hT:0#6<=T) (new:ip X.prog X.w (upd H T o) h' T o):Inv X pins σ (upd H T o) { s with heap:=h',toks:=t' }:=by
 have hn:=I.hok.fresh hT;have nfp:∀b u,H b=a_ u->b∉fp:=λb u e z=>by rw[(hf b z).1]at e;cases e
 refine I.step (λb hb=>⟨(hf b hb).2.2.2.1,(hf b hb).2.1,(hf b hb).2.2.2.2.1,(hf b hb).2.2.2.2.2⟩) (λb o _ _ hc e _=>k b o hc e) (λb o _ _ hc e _=>⟨_,k b o hc e⟩)
  (λb o _ e n=>by rw[bB ((λb u e z=>absurd (ai (az e) (by rw[z];omega)) (bu _)) b o e)];omega) (λb o hc e=>⟨o,k b o hc e⟩) (λb xs e=>by rw[bB (bF e hn)];omega) (λb o u e=>by rw[bB (bF e hn)];omega) (λb ps e=>⟨#[],by rw[bB (bF e hn),e];simp⟩) (λm hm=>?_) (λb u e=>?_) I.bare
 .obtain⟨o,es,ep,ho,r⟩:=hm
  exact⟨o,es,ep,k _ o (λz=>(hf _ z).2.1 rfl) ho,r⟩
 .by_cases hb:b=T
  .subst hb;rw[du]at e;grind
  .rw[bB hb]at e
   refine(I.hok b u e).stay (λc v hc q=>k c v ?_ q) (λc q=>by rw[bB (bF q hn)];omega) λc xs q=>by rw[bB (bF q hn)];omega
   grind
section
variable {X:Cx}
end
end _L
namespace PySem
namespace GE
section
variable {prog:Program}{w:World}{A:Around}{E:f_->g_->Prop}{s:g_}
def iY:Bool->Heap->e_->e_->Nat->Prop
 |true,h,i,l,k=>h.IsListIter i l k
 |false,h,i,l,k=>h.IsTupleIter i l k
def mR:Bool->Heap->e_->Array f_->Prop
 |true,h,l,xs=>h.IsList l xs
 |false,h,l,xs=>h.IsTuple l xs
variable{b:Bool}{h h':Heap}{l:e_}
theorem Dp{i:e_}{k:Nat}(x:iY b h i l k)(f:∀o,h.get? i=a_ o->h'.get? i=a_ o):iY b h' i l k:=by
 cases b<;>(obtain⟨o,e,r⟩:=x;exact⟨o,f o e,r⟩)
theorem iY.extBut{i c:e_}{k:Nat}(x:iY b h i l k)(f:jv c h h')(n:i≠c):iY b h' i l k:=Dp x λo e=>f _ o n e
variable{xs:Array f_}
theorem mR.extBut{c:e_}(x:mR b h l xs)(f:jv c h h')(n:l≠c):mR b h' l xs:=by
 cases b<;>(obtain⟨o,e,r⟩:=x;exact⟨o,f _ o n e,r⟩)
theorem iY.lt{i:e_}{k:Nat}(x:iY b h i l k):i<h.objs.size:=by
 cases b<;>(obtain⟨o,e,_⟩:=x;exact az e)
variable{i:Nat}{items:Array f_}{x:f_}{Q:f_->g_->Prop}
theorem wc{it t:e_}(hit:iY b s.heap it t i)(ht:mR b s.heap t items)(hx:items[i]?=a_ x)
  (hQ:∀h',iY b h' it t (i+1)->eT it s.heap h'->Q x { s with heap:=h' }):aD 1#5 A (en (.ref it)) Q E s:=by
 cases b
 .exact tK hit ht hx hQ
 .exact wpAny_nextOf_list_item hit ht hx hQ
theorem FS{it t:e_}(hh:A.handled=b_)(hit:iY b s.heap it t i)(ht:mR b s.heap t items)(hx:items[i]?=b_)
  (hE :∀ h' e,jv it s.heap h'->(∃ o,h'.get? e=a_ o/\o.cls=.type "StopIteration")->E (.ref e) { s with heap:=h' }):aD 1#5 A (en (.ref it)) Q E s:=by
 cases b
 .exact vY hh hit ht hx hE
 .exact wpAny_nextOf_list_end hh hit ht hx hE
variable{l1 l2:e_}
theorem Fq{s:e_}(la:l1<s)(lb:l2<s):ZipApart (s+4) (s+2) (s+3) s (s+1) l1 l2:=by
 have up:∀{a b:Nat},a<b->s+a≠s+b:=λh=>aJ (Nat.add_lt_add_left h s);have z:∀{a:Nat},0<a->s≠s+a:=λh=>aJ (Nat.lt_add_of_pos_right h);have b1:=λa=>aJ (Nat.lt_add_right a la);have b2:=λa=>aJ (Nat.lt_add_right a lb);exact⟨up 0#2,up 0#2,z 0#2,up 0#2,up 0#2,(z 0#2).symm,(up 0#2).symm,(z 0#2).symm,(up 0#2).symm,z 0#2,b1 4,b1 3,b1 0,b1 1,b2 4,b2 3,b2 0,b2 1⟩
variable{b a:f_}{b0:Bool}{i1 i2:e_}{k1 k2:Nat}{ys:Array f_}
theorem M8{z TI TO:e_}{y:f_}(D:ZipApart z TI TO i1 i2 l1 l2)(hz:IsZip s.heap z TI TO .none)(Zi:IsPair s.heap TI (.ref i1) (.ref i2))(YY:IsPair s.heap TO a b)(h1:iY b0 s.heap i1 l1 k1)(h2:s.heap.IsTupleIter i2 l2 k2)(Zd:mR b0 s.heap l1 xs)(YZ:s.heap.IsTuple l2 ys)(hx:xs[k1]?=a_ x)(hy:ys[k2]?=a_ y)(hQ:∀h',IsZip h' z TI TO (rawInt 0#6)->IsPair h' TO x y->iY b0 h' i1 l1 (k1+1)->h'.IsTupleIter i2 l2 (k2+1)->IsPair h' s.heap.objs.size x y->h'.objs.size=0#6+1->(∀c o,c≠z->c≠TO->c≠i1->c≠i2->s.heap.get? c=a_ o->h'.get? c=a_ o)->Q (.ref 0#6) { s with heap:=h' }):aD 1#5 A (Builtin.«zip.__next__» ⟨[.ref z],[]⟩) (λfin s'=>∃v,fin=.done (.ret v)/\Q v s') E s:=by
 show aD _ _ (field (.ref z) 2 >>= _) _ _ _;refine ab (dg hz rfl (x:= .bool d_) rfl ?_);refine ab (dg hz rfl (x:= .ref TI) rfl ?_);refine ab (fi Zi rfl ?_);refine ab ?_;refine ab (dg hz rfl (x:= .none) rfl (aj ?_));simp only[if_true];refine ab (fb ?_);refine ab (dg hz rfl (x:= .ref TO) rfl ?_);refine ab (cZ hz 0#4 λYV YE ZQ=>?_);refine ab ?_;simp only[yK,List.zipIdx_nil,Ai,List.forIn_nil];refine ab (ab (yM ?_));refine ab (wc (h1.extBut ZQ.extBut D.i1z) (Zd.extBut ZQ.extBut D.l1z) hx λWK Xv ZO=>aj ?_);have Zn:IsPair WK TO a b:=ZO.extBut _ _ D.TOi1 (ZQ.extBut _ _ D.TOz YY);refine ab (fi Zn rfl ?_);refine ab (wN Zn λW' Yo ZL=>?_);refine ab (wpAny_letGo (aj ?_));refine ab (ab (yM ?_));refine ab (tK (((h2.extBut ZQ.extBut D.i2z).extBut ZO.extBut D.i12.symm).extBut ZL.extBut D.TOi2.symm) (((YZ.extBut ZQ.extBut D.l2z).extBut ZO.extBut D.l2i1).extBut ZL.extBut D.l2TO) hy λWa VT Zu=>aj ?_);have Yj:IsPair Wa TO x b:=Zu.extBut _ _ D.TOi2 Yo;refine ab (fi Yj rfl ?_);refine ab (wN Yj λYO Zb Zs=>?_);replace Zb:IsPair YO TO x y:=Zb;refine ab (wpAny_letGo (aj (aj ?_)));refine ab (fi Zb rfl ?_);refine ab (JS ?_);have ZF:YO.objs.size=0#6:=by rw[Zs.1,Zu.1,ZL.1,ZO.1,ZQ.1]
 have Xh:=Zs.extBut _ _ D.TOz.symm (Zu.extBut _ _ D.i2z.symm (ZL.extBut _ _ D.TOz.symm (ZO.extBut _ _ D.i1z.symm YE)));have Vz:z<YO.objs.size:=az Xh;refine ab ?_;refine ab (cZ (af _ Xh) 0#4 λh₇ W0 Yn=>?_);refine cZ W0 0#4 λVZ Xt Ym=>?_;have up:∀c o,c≠z->YO.get? c=a_ o->VZ.get? c=a_ o:=λc o c1 e=>Ym.extBut _ _ c1 (Yn.extBut _ _ c1 (af _ e));have Xk:=Ym.extBut _ _ (dQ Vz) (Yn.extBut _ _ (dQ Vz) (av _ rfl));have hz8:VZ.objs.size=YO.objs.size+1:=by rw[Ym.1,Yn.1,bE]
 rw[ZF]at Xt Xk hz8;refine aj ⟨_,rfl,?_⟩;rw[ZF];exact hQ VZ Xt (up _ _ D.TOz Zb) (Dp (((Xv.extBut ZL.extBut D.TOi1.symm).extBut Zu.extBut D.i12).extBut Zs.extBut D.TOi1.symm) λo e=>up _ o D.i1z e) ((VT.extBut Zs.extBut D.TOi2.symm).at λo e=>up _ o D.i2z e) Xk hz8 λc o c1 c2 c3 c4 e=>up c o c1 ((λc o c1 c2 c3 c4 e=>Zs.extBut _ _ c2 (Zu.extBut _ _ c4 (ZL.extBut _ _ c2 (ZO.extBut _ _ c3 (ZQ.extBut _ _ c1 e))))) c o c1 c2 c3 c4 e)
theorem Nz{z TI TO:e_}{Q:Fin->g_->Prop}(hh:A.handled=b_)(D:ZipApart z TI TO i1 i2 l1 l2)(hz:IsZip s.heap z TI TO .none)(Zi:IsPair s.heap TI (.ref i1) (.ref i2))(YY:IsPair s.heap TO a b)(h1:iY b0 s.heap i1 l1 k1)(h2:s.heap.IsTupleIter i2 l2 k2)(Zd:mR b0 s.heap l1 xs)(YZ:s.heap.IsTuple l2 ys)(X6:xs[k1]?=b_\/ys[k2]?=b_)(hE :∀ h' e,(∀ c o,c≠z->c≠TO->c≠i1->c≠i2->s.heap.get? c=a_ o->h'.get? c=a_ o)->(∃ o,h'.get? e=a_ o/\o.cls=.type "StopIteration")->E (.ref e) { s with heap:=h' }):aD 1#5 A (Builtin.«zip.__next__» ⟨[.ref z],[]⟩) Q E s:=by
 show aD _ _ (field (.ref z) 2 >>= _) _ _ _;refine ab (dg hz rfl (x:= .bool d_) rfl ?_);refine ab (dg hz rfl (x:= .ref TI) rfl ?_);refine ab (fi Zi rfl ?_);refine ab ?_;refine ab (dg hz rfl (x:= .none) rfl (aj ?_));simp only[if_true];refine ab (fb ?_);refine ab (dg hz rfl (x:= .ref TO) rfl ?_);refine ab (cZ hz 0#4 λYV YE ZQ=>?_);refine ab ?_;simp only[yK,List.zipIdx_nil,Ai,List.forIn_nil];refine ab (ab (yM ?_));cases hx:xs[k1]? with
 | none=>
   refine ab (FS hh (h1.extBut ZQ.extBut D.i1z) (Zd.extBut ZQ.extBut D.l1z) hx λWK e ZO he=>?_);obtain⟨oe,WW,We⟩:=he;have Xp:=ZO _ _ D.i1z.symm YE;have UH:e≠z:=λx=>by subst x;rw[Xp]at WW;cases WW;simp at We
   refine cZ Xp 0#4 λW' _ ZL=>hE W' e (λc o c1 _ c3 _ x=>ZL.extBut _ _ c1 (ZO _ _ c3 (ZQ.extBut _ _ c1 x))) ⟨oe,ZL.extBut _ _ UH WW,We⟩
 | some x=>
   refine ab (wc (h1.extBut ZQ.extBut D.i1z) (Zd.extBut ZQ.extBut D.l1z) hx λWK Xv ZO=>aj ?_);have Zn:IsPair WK TO a b:=ZO.extBut _ _ D.TOi1 (ZQ.extBut _ _ D.TOz YY);refine ab (fi Zn rfl ?_);refine ab (wN Zn λW' Yo ZL=>?_);refine ab (wpAny_letGo (aj ?_));refine ab (ab (yM ?_));refine ab (vY hh (((h2.extBut ZQ.extBut D.i2z).extBut ZO.extBut D.i12.symm).extBut ZL.extBut D.TOi2.symm) (((YZ.extBut ZQ.extBut D.l2z).extBut ZO.extBut D.l2i1).extBut ZL.extBut D.l2TO) (by rcases X6 with h |h;rw[hx]at h;cases h;exact h) λWa e Zu he=>?_);obtain⟨oe,WW,We⟩:=he;have Xq:=Zu _ _ D.i2z.symm (ZL.extBut _ _ D.TOz.symm (ZO.extBut _ _ D.i1z.symm YE));have UH:e≠z:=λx=>by subst x;rw[Xq]at WW;cases WW;simp at We
   refine cZ Xq 0#4 λYO _ Zs=>hE YO e (λc o c1 c2 c3 c4 x=>Zs.extBut _ _ c1 (Zu _ _ c4 (ZL.extBut _ _ c2 (ZO.extBut _ _ c3 (ZQ.extBut _ _ c1 x))))) ⟨oe,Zs.extBut _ _ UH WW,We⟩
variable{Q:Option f_->g_->Prop}
theorem FT{z TI TO:e_}{y:f_}(D:ZipApart z TI TO i1 i2 l1 l2)(hz:IsZip s.heap z TI TO .none)(Zi:IsPair s.heap TI (.ref i1) (.ref i2))(YY:IsPair s.heap TO a b)(h1:iY b0 s.heap i1 l1 k1)(h2:s.heap.IsTupleIter i2 l2 k2)(Zd:mR b0 s.heap l1 xs)(YZ:s.heap.IsTuple l2 ys)(hx:xs[k1]?=a_ x)(hy:ys[k2]?=a_ y)(hQ:∀h',IsZip h' z TI TO (rawInt 0#6)->IsPair h' TO x y->iY b0 h' i1 l1 (k1+1)->h'.IsTupleIter i2 l2 (k2+1)->IsPair h' s.heap.objs.size x y->h'.objs.size=0#6+1->(∀c o,c≠z->c≠TO->c≠i1->c≠i2->s.heap.get? c=a_ o->h'.get? c=a_ o)->Q (a_ (.ref 0#6)) { s with heap:=h' }):aD 1#5 A (pyNext (.ref z)) Q E s:=by
 have hT:s.TypeIs (.ref z) _:=⟨_,hz,rfl⟩;exact ab (fJ (bN hT rL (bG rL hT F.entry_zip_next (M8 D hz Zi YY h1 h2 Zd YZ hx hy λh' a1 a2 a3 a4 a5 a6 a7=>aj (hQ h' a1 a2 a3 a4 a5 a6 a7)) (F.args_zip_next_1 _))))
theorem FA{z TI TO:e_}(hh:A.handled=b_)(D:ZipApart z TI TO i1 i2 l1 l2)(hz:IsZip s.heap z TI TO .none)(Zi:IsPair s.heap TI (.ref i1) (.ref i2))(YY:IsPair s.heap TO a b)(h1:iY b0 s.heap i1 l1 k1)(h2:s.heap.IsTupleIter i2 l2 k2)(Zd:mR b0 s.heap l1 xs)(YZ:s.heap.IsTuple l2 ys)(X6:xs[k1]?=b_\/ys[k2]?=b_)(hQ:∀h',(∀c o,c≠z->c≠TO->c≠i1->c≠i2->s.heap.get? c=a_ o->h'.get? c=a_ o)->Q b_ { s with heap:=h' }):aD 1#5 A (pyNext (.ref z)) Q E s:=by
 have hT:s.TypeIs (.ref z) _:=⟨_,hz,rfl⟩;refine ab (fJ (bN hT rL (bG rL hT F.entry_zip_next (Nz hh D hz Zi YY h1 h2 Zd YZ X6 λh' e hk he=>?_) (F.args_zip_next_1 _))));obtain⟨o,ho,hc⟩:=he;exact ab (gR ⟨o,ho,hc⟩ isSubtype_stop (aj (hQ _ hk)))
end
abbrev zH1(b0:Bool)(h:Heap)(l1:e_):Heap:=h.push { cls := .type (if b0 then "list_iterator" else "tuple_iterator"),data := .fields #[.ref l1,.int 0 0] }
abbrev zH2(b0:Bool)(h:Heap)(a b:e_):Heap:=(zH1 b0 h a).push { cls := .type "tuple_iterator",data := .fields #[.ref b,.int 0 0] }
abbrev zH3(b0:Bool)(h:Heap)(a b:e_):Heap:=(zH2 b0 h a b).push { cls := .type "tuple",data := .seq #[.ref h.objs.size,.ref (zH1 b0 h a).objs.size] }
abbrev zH4(b0:Bool)(h:Heap)(a b:e_):Heap:=(zH3 b0 h a b).push { cls := .type "tuple",data := .seq #[.none,.none] }
abbrev zH5(b0:Bool)(h:Heap)(a b:e_):Heap:=(zH4 b0 h a b).push { cls := .type "zip",data := .fields #[.none,.bool d_,.bool d_,.ref (zH2 b0 h a b).objs.size,.ref (zH3 b0 h a b).objs.size] }
section
variable {prog:Program}{w:World}{A:Around}{E:f_->g_->Prop}{s:g_}
theorem I9{b0:Bool}{a b:e_}{xs ys:Array f_}{Q:f_->g_->Prop}(Zd:mR b0 s.heap a xs)(YZ:s.heap.IsTuple b ys)
  (h :∀ h',IsZip h' (0#6+4) (0#6+2) (0#6+3) .none->IsPair h' (0#6+2) (.ref 0#6) (.ref (0#6+1))->IsPair h' (0#6+3) .none .none->iY b0 h' s.heap.objs.size a 0->h'.IsTupleIter (0#6+1) b 0->h'.objs.size=0#6+5->(∀ c o,s.heap.get? c=a_ o->h'.get? c=a_ o)->Q (.ref (0#6+4)) { s with heap:=h' }):aD 1#5 A (call (.type "zip") [.ref a,.ref b]) Q E s:=by
 refine callType_new F.called_zip 0#2 (F.typeCall_zip_2 _ _) (F.newCall_zip_2 _ _) (fun obj=>F.args_object_init_3 obj _ _) F.entry_zip_new ((show Meets (Builtin.«zip.__new__» ⟨[.type "zip",.ref a,.ref b],[]⟩) (fun _ R s=>mR b0 s.heap a xs/\s.heap.IsTuple b ys/\R (.ok (.ret (.ref (zH4 b0 s.heap a b).objs.size))) { s with heap:=zH5 b0 s.heap a b }) from .of_wp fun prog w A R s h=>by
  obtain⟨hp,g,d,tk,os⟩:=s;obtain⟨Zd,YZ,h⟩:=h;have Xe:=sub_zip;have Yq:wX (qw ⟨zH1 b0 hp a,g,d,tk,os⟩) b ys:=by
   obtain⟨o,ho,r⟩:=YZ;exact⟨o,af _ ho,r⟩
  cases b0 with
  | true=>
    have XM:Heap.IsList (qw ⟨hp,g,d,tk,os⟩) a xs:=Zd;have Yq:wX (qw ⟨hp.push { cls := .type "list_iterator",data := .fields #[.ref a,.int 0 0] },g,d,tk,os⟩) b ys:=Yq
    wp_walk using pL XM,jS Yq
    exact⟨_,rfl,h⟩
  | false=>
    have XM:wX (qw ⟨hp,g,d,tk,os⟩) a xs:=Zd;have Yq:wX (qw ⟨hp.push { cls := .type "tuple_iterator",data := .fields #[.ref a,.int 0 0] },g,d,tk,os⟩) b ys:=Yq
    wp_walk using jS XM,jS Yq
    exact⟨_,rfl,h⟩)) ⟨Zd,YZ,?_⟩
 have z1:(zH1 b0 _ a).objs.size=0#6+1:=bE ..;have z2:(zH2 b0 s.heap a b).objs.size=0#6+2:=by rw[bE,z1]
 have z3:(zH3 b0 s.heap a b).objs.size=0#6+3:=by rw[bE,z2]
 have z4:(zH4 b0 s.heap a b).objs.size=0#6+4:=by rw[bE,z3]
 have g5:(zH5 b0 s.heap a b).get? _=a_ _:=av _ rfl;have g4:(zH5 b0 s.heap a b).get? _=a_ _:=af _ (av _ rfl);have g3:(zH5 b0 s.heap a b).get? _=a_ _:=af _ (af _ (av _ rfl));have g2:(zH5 b0 s.heap a b).get? _=a_ _:=af _ (af _ (af _ (av _ rfl)));rw[z2,z3,z4]at g5;rw[z1,z2]at g3;rw[z3]at g4;rw[z1]at g2;rw[z4];exact⟨⟨_,g5,rfl⟩,h _ g5 g3 g4 (by cases b0<;>exact⟨_,(af _ (af _ (af _ (af _ (av _ rfl))))),rfl,rfl⟩) ⟨_,g2,rfl,rfl⟩ (by rw[bE,z4]) λc o x=>af _ (af _ (af _ (af _ (af _ x))))⟩
end
end GE
end PySem
namespace _L
open PySem PySem.Spec PyProof.Rows
variable{X:Cx}{pins:List (e_×Obj)}{σ:St}{H:Hp}{s:g_}
theorem Inv.turnFp{h':Heap}{t':Nat}{fp:List e_}(I:Inv X pins σ H s)(hf:∀b∈fp,we X pins H b)(k:∀b u,b∉fp->s.heap.get? b=a_ u->h'.get? b=a_ u):Inv X pins σ H { s with heap:=h',toks:=t' }:=by
 have nfp:∀b u,H b=a_ u->b∉fp:=λb u e z=>by rw[(hf b z).1]at e;cases e
 refine I.step (λb hb=>⟨(hf b hb).2.2.2.1,(hf b hb).2.1,(hf b hb).2.2.2.2.1,(hf b hb).2.2.2.2.2⟩) (λb o _ _ hc e _=>k b o hc e) (λb o _ _ hc e _=>⟨_,k b o hc e⟩)
  (λ_ _ _ _ n=>n) (λb o hc e=>⟨o,k b o hc e⟩) (λ_ _ e=>e) (λ_ _ _ e=>e) (λb ps e=>⟨#[],by rw[e];simp⟩) (λm hm=>?_) (λb u e=>?_) I.bare
 .obtain⟨o,es,ep,ho,r⟩:=hm
  exact⟨o,es,ep,k _ o (λz=>(hf _ z).2.1 rfl) ho,r⟩
 .refine(I.hok b u e).stay (λc v hc q=>k c v ?_ q) (λ_ q=>q) λ_ _ q=>q
  grind
def SqB(b0:Bool)(K:aq)(H:Hp)(a:e_)(xs:List V):Prop:=match b0 with
 |true=>SqL K H a xs
 |false=>SqT K H a xs
variable{b0:Bool}{a:e_}{xs:List V}
theorem Inv.seqB(I:Inv X pins σ H s)(h:SqB b0 X.K H a xs):∃ZY,cX xs ZY/\GE.mR b0 s.heap a ZY.toArray:=by
 cases b0 with
 |true=>obtain⟨ZY,rv,p,_⟩:=I.list h;exact⟨_,rv,p.isList⟩
 |false=>obtain⟨ZY,rv,p,_⟩:=I.tuple h;exact⟨_,rv,p⟩
theorem Inv.seqB_inj{ys:List V}(I:Inv X pins σ H s)(h:SqB b0 X.K H a xs)(h':SqB b0 X.K H a ys):xs=ys:=by
 cases b0 with
 |true=>exact I.list_inj h h'
 |false=>exact I.tuple_inj h h'
def Itz(K:aq)(b0:Bool)(a b:e_):It:=
 ⟨λi H =>∃xs x ys y,SqB b0 K H a xs/\xs[i]? = a_ x/\SqT K H b ys/\ys[i]? = a_ y,λi H x H' =>∃T u v,(∀xs,SqB b0 K H a xs->xs[i]? = a_ u)/\(∀ys,SqT K H b ys->ys[i]? = a_ v)/\H T=b_/\x = .ref T/\H'=upd H T (.tup [u,v]),
  λi H =>∃xs ys,SqB b0 K H a xs/\SqT K H b ys/\(xs.length<=i\/ys.length<=i)⟩
variable{ts:List Expr}{kt:Nat}
theorem Hn{P:Program}{w:World}{K:aq}{pt:Pos}{l1 l2 z TI TO i1 i2:e_}(D:ZipApart z TI TO i1 i2 l1 l2):Turn P w K (.Tuple ts kt pt) (Itz K b0 l1 l2) [z,TI,TO,i1,i2] z
  (λi h=>IsZip h z TI TO .none/\IsPair h TI (.ref i1) (.ref i2)/\(∃p q,IsPair h TO p q)/\GE.iY b0 h i1 l1 i/\h.IsTupleIter i2 l2 i) where
 mem:=by simp
 obj:=λi h st b hb=>by
  obtain⟨hz,Zi,⟨p,q,YY⟩,h1,o2,Yy,c2,d2⟩:=st;obtain⟨o1,Xw,c1,d1⟩ :∃o,h.get? i1=a_ o/\True/\o.data=.fields #[.ref l1,rawInt i]:=by cases b0<;>(obtain⟨o,e,_,d⟩:=h1;exact⟨o,e,trivial,d⟩)
  simp only[aG,iK,or_false]at hb;rcases hb with rfl|rfl|rfl|rfl|rfl
  .exact⟨_,hz,λv y=>by have y':Data.fields _=Data.cell v:=y;cases y'⟩
  .exact⟨_,Zi,λv y=>by have y':wY _ _=Data.cell v:=y;cases y'⟩
  .exact⟨_,YY,λv y=>by have y':wY _ _=Data.cell v:=y;cases y'⟩
  .exact⟨o1,Xw,λv y=>by rw[d1]at y;cases y⟩
  .exact⟨o2,Yy,λv y=>by rw[d2]at y;cases y⟩
 keep:=λi h h' st k=>by
  obtain⟨hz,Zi,⟨p,q,YY⟩,h1,o2,Yy,r2⟩:=st;exact⟨k z 0#4 _ hz,k TI 0#4 _ Zi,⟨p,q,k TO 0#4 _ YY⟩,GE.Dp h1 λo e=>k i1 0#4 o e,o2,k i2 0#4 _ Yy,r2⟩
 item:=by
  intro X hP hw hK hc i pins s σ H E I hf st hg;subst hP hw hK;obtain⟨xs,x,ys,y,Xu,hx,Xi,hy⟩:=hg;obtain⟨VD,Vn,p1⟩:=I.seqB Xu;obtain⟨ZA,Xj,p2,Ws⟩:=I.tuple Xi;obtain⟨u,hu,ru⟩:=Vn.get hx;obtain⟨v,hv,rv⟩:=Xj.get hy;obtain⟨hz,Zi,⟨p,q,YY⟩,h1,h2⟩:=st;have SX:=az hz;have lts:∀b∈[z,TI,TO,i1,i2],b<0#6:=λb hb=>by
   simp only[aG,iK,or_false]at hb;rcases hb with rfl|rfl|rfl|rfl|rfl
   .exact SX
   .exact az Zi
   .exact az YY
   .exact h1.lt
   .obtain⟨o,ho,_⟩:=h2;exact az ho
  refine GE.FT (b0:=b0) D hz Zi YY h1 h2 p1 (show s.heap.IsTuple l2 ZA.toArray from p2) (x:=u) (y:=v) (by simpa using hu) (by simpa using hv) λh' VE UD h1' h2' hT ZF hk=>?_;refine⟨_,rfl,wpAny_letOwnedTupleGo_zip (s:={ s with heap:=h' }) VE λVl he2 Zm=>?_⟩;have XY:Vl.get? 0#6=a_ { cls := .type "tuple",data := .seq #[u,v] }:=(Zm.2 _ (dQ SX)).trans hT;have k:∀b o,b ∉ [z,TI,TO,i1,i2]->s.heap.get? b=a_ o->Vl.get? b=a_ o:=λb o hb eo=>by
   simp only[aG,iK,or_false,not_or]at hb;exact(Zm.2 b hb.1).trans (hk b o hb.1 hb.2.2.1 hb.2.2.2.1 hb.2.2.2.2 eo)
  have new:ip X.prog X.w (upd H s.heap.objs.size (.tup [x,y])) Vl s.heap.objs.size (.tup [x,y]):=⟨by rw[sizeLine_eq];show 2<=16777216;decide,[u,v],.cons ru (.cons rv .nil),⟨_,XY,rfl,_,rfl⟩,_,XY,rfl⟩;have t1:GE.iY b0 Vl i1 l1 (i+1):=h1'.extBut Zm.extBut D.i1z;have t2:Vl.IsTupleIter i2 l2 (i+1):=h2'.extBut Zm.extBut D.i2z
  exact⟨.ref 0#6,_,I.turnNew (t':=s.toks) hf k (ak _) new,rfl,⟨_,x,y,λzs hy=>by rw[I.seqB_inj hy Xu];exact hx,λzs Yc=>by rw[I.tuple_inj Yc Xi];exact hy,I.hok.fresh (ak _),rfl,rfl⟩,⟨he2,Zm.extBut _ _ D.TIz (hk _ _ D.TIz D.TITO D.TIi1 D.TIi2 Zi),⟨u,v,Zm.extBut _ _ D.TOz UD⟩,t1,t2⟩,λb hb=>by
   rw[bB (λe=>absurd (lts b hb) (by rw[e];exact bu _))]
   exact(hf b hb).1⟩
 done:=by
  intro X hP hw hK hc i pins s σ H E I hf st hg;subst hP hw hK;obtain⟨xs,ys,Xu,Xi,hx⟩:=hg;obtain⟨VD,Vn,p1⟩:=I.seqB Xu;obtain⟨ZA,Xj,p2,Ws⟩:=I.tuple Xi;obtain⟨hz,Zi,⟨p,q,YY⟩,h1,h2⟩:=st;have e1:=Vn.length;have e2:=Xj.length;refine GE.FA (b0:=b0) (I.ok.hd hc) D hz Zi YY h1 h2 p1 (show s.heap.IsTuple l2 ZA.toArray from p2) ?_ λh' hk=>⟨rfl,I.turnFp (t':=s.toks) hf λb o hb e=>?_⟩
  .rcases hx with hx|hx
   .exact .inl (by simp;omega)
   .exact .inr (by simp;omega)
  .simp only[aG,iK,or_false,not_or]at hb
   exact hk b o hb.1 hb.2.2.1 hb.2.2.2.1 hb.2.2.2.2 e
 self:=λ_ _ _ _ _ st h=>wpAny_pyIter_zip st.1 h
section
variable {X:Cx}
def Mh(K:aq)(ta:TA):TI:=λσ H R=>ta σ H λvs H1=>∃b0 a b xs ys,vs=[.ref a,.ref b]/\SqB b0 K H1 a xs/\SqT K H1 b ys/\R (Itz K b0 a b) H1
theorem Oq{a b:Expr}{ta:TA}{p pos:Pos}{pt:Pos}(hg:Gl X "zip")(hm:X.mg "zip"=b_)(ha:PA X [a,b] ta)(hs:starEach [a,b] X.env=(d_,eval a X.env)::starEach [b] X.env)(Zm:starEach [b] X.env=[(d_,eval b X.env)]):PI X (.Tuple ts kt pt) (.Call (.Name "zip" p) [a,b] [] pos) (Mh X.K ta):=by
 intro pins s σ H R I h;refine Call_ (ky I hg hm (show bootBuiltins "zip"=a_ (.type "zip") by decide +kernel) (cM (thn (ha _ _ s σ H _ I h) fun us s1 ⟨vs,H1,I1,r1,q1⟩=>?_) 1#6 (by rw [Zm];rfl)));obtain⟨b0,l1,l2,xs,ys,e,Xu,Xi,q⟩:=q1;subst e;cases r1 with
 | cons r rr=>
   cases rr with
   | cons r2 rr=>
     cases rr;cases r;cases r2;obtain⟨VD,Vn,p1⟩:=I1.seqB Xu;obtain⟨ZA,Xj,p2,Ws⟩:=I1.tuple Xi;refine GE.I9 p1 (p2) λh' he Zi YY hi1 Yf ZF hk=>?_;refine wpAny_pyIter_zip he ?_;refine⟨_,_,_,_,H1,rfl,(I1.kept hk),Hn (GE.Fq (by cases b0<;>(obtain⟨o,ho,_⟩:=p1;exact az ho)) (by obtain⟨o,ho,_⟩:=(p2);exact az ho)),⟨he,Zi,⟨_,_,YY⟩,hi1,Yf⟩,λc hc=>?_,q⟩;have hle:s1.heap.objs.size<=c:=by
      grind
     exact I1.fpOk hle (I1.hok.fresh hle)
end
end _L
namespace _L
open PySem PyProof.Rows
def JI(off:List e_)(h h':Heap):Prop:= ∀b o,b∉off->h.get? b=a_ o->h'.get? b=a_ o
section
variable {prog:Program}{w:World}{A:Around}{E:f_->g_->Prop}{s:g_}{I S:e_}{fp wr:List e_}{n:Nat}{P:Nat->f_->Prop}{St:Nat->Heap->Prop}{h0:Heap}{v0:f_}{R:Result->g_->Prop}
end
def qG(xs:Array Nat):Prop:=xs.toList.Pairwise (· < ·)
variable{xs:Array Nat}{j:Nat}
theorem qG.lt(r:qG xs){i:Nat}(h:i<j)(hj:j<xs.size):xs[i]'(aX h hj)<xs[j]:=by
 have:=(di.mp r) i j (by simpa using aX h hj) (by simpa using hj) h;simpa using this
theorem vk{xs:Array Nat}(r:qG xs){j:Nat}:∀(f lo hi:Nat),lo<=hi->hi<=xs.size->hi-lo<=f->(∀i (h:i<xs.size),i<lo->xs[i]<j)->(∀i (h:i<xs.size),hi<=i->j<=xs[i]) ->
  iL xs j f lo hi<=xs.size/\(∀i (h:i<xs.size),i<iL xs j f lo hi->xs[i]<j) /\ ∀i (h:i<xs.size),iL xs j f lo hi<=i->j<=xs[i]
 | 0,lo,hi,h1,h2,h3,a,b=>by
   unfold iL;have:lo=hi:=by lia
   subst this;exact⟨h2,a,b⟩
 | f+1,lo,hi,h1,h2,h3,a,b=>by
   unfold iL;by_cases h:lo<hi
   .rw[if_pos h]
    dsimp only;have hm:(lo+hi)/2<xs.size:=by lia
    have em:xs.getD ((lo+hi)/2) j=xs[(lo+hi)/2]:=by simp[Array.getD,hm]
    rw[em];by_cases q:xs[(lo+hi)/2]<j
    .rw[if_pos q]
     refine vk r f _ _ 0#0 h2 0#0 (λi ZM hl=>?_) b;by_cases z:i=(lo+hi)/2
     .subst z;exact q
     .exact aX (r.lt (show i<(lo+hi)/2 by lia) hm) q
    .rw[if_neg q]
     refine vk r f _ _ 0#0 (aI 0#5) 0#0 a (λi ZM hl=>?_);by_cases z:i=(lo+hi)/2
     .subst z;exact dS 0#5
     .have:=r.lt (show(lo+hi)/2<i by lia) ZM
      lia
   .rw[if_neg h]
    have:lo=hi:=by lia
    subst this;exact⟨h2,a,b⟩
theorem pW{xs:Array Nat}(r:qG xs)(j:Nat):bg xs j<=xs.size/\(∀i (h:i<xs.size),i<bg xs j->xs[i]<j) /\ ∀i (h:i<xs.size),bg xs j<=i->j<=xs[i]:=
 vk r _ _ _ (bS _) (ak _) (ak _) (λi _ h=>absurd h (Nat.not_lt_zero i)) λi h1 h2=>absurd h1 (Nat.not_lt.mpr h2)
theorem CF(r:qG xs){i:Nat}(hi:i<xs.size):bg xs (xs[i]+1)=i+1:=by
 obtain⟨h1,h2,h3⟩:=pW r (xs[i]+1);rcases m8 (bg xs (xs[i]+1)) (i+1) with z|z|z
 .have:=h3 i hi (d6 0#5);exact absurd 0#5 (bu _)
 .exact z
 .have hs:i+1<xs.size:=ai 0#5 0#5
  have:=h2 (i+1) hs z;have:=r.lt (show i<i+1 by exact ak _) hs
  lia
theorem CA(r:qG xs):bg xs 0=0:=by
 obtain⟨h1,h2,h3⟩:=pW r 0;by_cases z:bg xs 0=0
 .exact z
 .have:=h2 0 0#0 (eS 0#5);lia
theorem Hh(r:qG xs)(h:xs[bg xs j]? ≠ a_ j):qG (SetTable.insertAt xs (bg xs j) j):=by
 obtain⟨h1,h2,h3⟩:=pW r j;unfold qG;rw[SetTable.toList_insertAt];have rl:xs.toList.Pairwise (· < ·):=r;have lt:∀x∈xs.toList.take (bg xs j),x<j:=λx hx=>by
  obtain⟨i,hi,rfl⟩:=t8 hx;rw[c6,bR]at hi;simpa using (h2 i 0#0 0#0)
 have gt:∀x∈xs.toList.drop (bg xs j),j<x:=λx hx=>by
  obtain⟨i,hi,rfl⟩:=t8 hx;rw[iJ,bR]at hi;have hb:bg xs j+i<xs.size:=by lia
  have e:(xs.toList.drop (bg xs j))[i]'(by rw[iJ,bR];exact hi)=xs[bg xs j+i]:=by simp
  rw[e];rcases fG (h3 (bg xs j+i) hb 0#0) with z|z
  .exact z
  .exfalso
   by_cases i0:i=0
   .subst i0
    exact h (by rw[bW 0#5];simpa using z.symm)
   .have a:=h3 (bg xs j) 0#0 (ak _)
    have b:=r.lt (show bg xs j<bg xs j+i by lia) hb
    lia
 refine dH.mpr ⟨rl.sublist (jL _ _),jh.mpr ⟨gt,rl.sublist (wV _ _)⟩,λa ha b hb=>?_⟩;rcases aG.mp hb with rfl |hb
 .exact lt a ha
 .exact aX (lt a ha) (gt b hb)
structure kZ(t:SetTable)(led:Bool):Prop where
 r:qG t.place
 d:t.dummies = #[]
 l:t.led=led
theorem kZ.fresh(led:Bool):kZ (.fresh 0 0 led) led:=⟨.nil,rfl,rfl⟩
variable{led:Bool}
theorem kZ.stand{t:SetTable}(n:Nat)(h:kZ t led):kZ (t.standIn n) led:=⟨by
 show(Array.range n).toList.Pairwise (· < ·)
 rw[Array.toList_range];exact eG,rfl,h.l⟩
theorem K7{t:SetTable}(h:kZ t led)(j:Nat):t.slot j≠.dummy:=by
 have:Cf t.dummies j=d_:=by rw[h.d];rfl
 unfold SetTable.slot;dsimp only
 split
 .exact λz=>by cases z
 .rw[this];exact λz=>by cases z
theorem CO{t:SetTable}(h:t.slot j=.empty):t.place[bg t.place j]? ≠ a_ j:=λz=>by
 unfold SetTable.slot at h;dsimp only at h;rw[if_pos (by rw[z];exact beq_self_eq_true _)]at h;cases h
theorem Aq{t:SetTable}{led:Bool}(ht:kZ t led){hash:Nat->Int}{h:Int}:∀(f:Nat) (p:SetTable.Probe) {j:Nat}{d:Option Nat},p.dummy=b_->B6 t hash h f p=a_ (.empty j d)->t.slot j=.empty/\d=b_
 |0,p,j,d,_,e=>by cases e
 | f+1,p,j,d,hd,e=>by
   unfold B6 at e
   split at e
   .rename_i q;cases e;exact⟨q,hd⟩
   .rename_i q;exact absurd q (K7 ht _)
   .split at e
    .cases e
    .exact Aq ht f _ (by unfold SetTable.advance;split<;>exact hd) e
theorem kZ.put{t:SetTable}(ht:kZ t led)(h:t.place[bg t.place j]? ≠ a_ j):kZ (t.put j).1 led:=by
 refine⟨Hh ht.r h,?_,ht.l⟩;show(if Cf t.dummies j then _ else t.dummies) = #[];rw[if_neg (by rw[ht.d];simp[Cf])];exact ht.d
theorem kZ.orStand{t:SetTable}(n:Nat)(h:kZ t led):kZ (t.orStandIn n) led:=by
 unfold SetTable.orStandIn
 split
 .exact h
 .exact h.stand n
theorem kZ.lay{t:SetTable}(ht:kZ t led)(es:Array (Int×f_))(h:Int)(x:f_):kZ (layNew t es h x).2.1 led:=by
 unfold layNew
 split
 ·rename_i j b e;exact(ht.put ((by
   unfold SetTable.freeSlot at e
   split at e
   .rename_i j' d q
    obtain⟨q1,q2⟩:=Aq ht _ _ rfl q;subst q2;cases e;exact CO q1
   ·cases e))).orStand _
 .exact ht.stand _
theorem kZ.relay{t:SetTable}(ht:kZ t led)(es:Array (Int×f_))(n:Nat):kZ (relayAll t es n).2.1 led:=by
 unfold relayAll
 split
 .rename_i t' order e
  dsimp only
  split
  .unfold SetTable.relaid SetTable.laid at e
   simp only[bind,Option.bind]at e
   split at e
   .cases e
   .cases e
    refine⟨?_,rfl,ht.l⟩;show List.Pairwise _ _;rw[List.toList_toArray];refine aW.mpr (List.pairwise_filterMap.mpr (List.pairwise_lt_range.imp λ{a b} ZU x hx y hy=>?_));obtain⟨_,_,rfl⟩:=dh.mp hx;obtain⟨_,_,rfl⟩:=dh.mp hy;exact ZU
  .exact ht.stand _
 .exact ht.stand _
theorem jk{α:Type}:∀(l:List α) (i:Nat) (h:i<l.length),(l[i]::l.eraseIdx i).Perm l
 |x::l,0,h=>.refl _
 |x::l,i+1,h=>(List.Perm.swap x _ _).trans (.cons x (jk l i (by simpa using h)))
theorem DM{α:Type}{next:Nat->Nat}:∀(f k:Nat) (left:List α) (out:Array α),f=left.length->(pickOrder.go next f k left out).toList.Perm (out.toList++left)
 | 0,k,left,out,h=>by
   rw[cu.mp h.symm];show out.toList.Perm (out.toList++[]);rw[cb]
 | f+1,k,left,out,h=>by
   unfold pickOrder.go;have hl:next k%left.length<left.length:=jw _ 0#0;rw[aC hl];dsimp only;refine(DM f (k+1) _ _ (by rw[Cg hl];lia)).trans ?_;rw[dA,bz];exact List.Perm.append_left _ (jk left _ hl)
theorem Fk{α:Type}(next:Nat->Nat)(xs:Array α):(pickOrder next xs).toList.Perm xs.toList:=by
 simpa [pickOrder]using (DM (next:=next) xs.size 0 xs.toList #[] 0#4)
theorem wp_choose{M:Model}{A:Around}{E:f_->g_->Prop}{s:g_}{src:Source}{n:Nat}{Q:Nat->g_->Prop}(hn:n≠0)(h:∀i d,i<n->Q i { s with drawn:=d }):aD M A (choose src n) Q E s:=λΓ p _=>by
 unfold choose;rw[Sem.wp_choose];exact⟨hn,h _ _ (jw _ (eS hn))⟩
theorem Bv{M:Model}{A:Around}{E:f_->g_->Prop}{α:Type}:∀(n:Nat) (xs:List α) (s:g_) {Q:List α->g_->Prop},n=1#2->(∀l d,l.Perm xs->Q l { s with drawn:=d })->aD M A (drawOrder n xs) Q E s
 | 0,xs,s,Q,hn,h=>by
   rw[cu.mp hn.symm]at h ⊢;exact aj (h [] s.drawn (.refl _))
 |n+1,[],s,Q,hn,h=>by cases hn
 | n+1,x::xs,s,Q,hn,h=>by
   unfold drawOrder;refine ab (wp_choose 0#4 λi d hi=>?_);rw[aC hi];dsimp only;exact ab (Bv n _ _ (by rw[Cg hi];lia) λl d' hl=>aj (h _ d' ((List.Perm.cons _ hl).trans (jk _ i hi))))
def NH:f_->Int
 |.int i _=>i
 |_=>0
theorem Av:∀{vs:List f_},(∀v∈vs,∃i t,v=.int i t)->IntsAre vs (vs.map NH)
 |[],_=>.nil
 | v::vs,h=>by
   obtain⟨i,t,rfl⟩:=h v 0#4;exact .cons i t (Av λw hw=>h w (aB _ hw))
def mV(es:Array (Int×f_))(ep:Nat)(t:SetTable):Obj:={ cls := .type "set",dict:=b_,data := .set es ep t,slots := #[] }
structure zw(prog:Program)(w:World)(led:Bool)(ns:List Int)(es:Array (Int×f_))(t:SetTable):Prop where
 fit:t.fits es.size=c_
 tab:kZ t led
 el:ElemsOf (intKind prog w) es.toList
 sm:es.size<scanBound
 pm:(es.toList.map λe=>NH e.2).Perm ns
def wF(prog:Program)(w:World)(h:Heap)(a:e_)(led:Bool)(ns:List Int):Prop:= ∃es ep t,h.get? a=a_ (mV es ep t)/\zw prog w led ns es t
section
variable {prog:Program}{w:World}{A:Around}{E:f_->g_->Prop}{s:g_}{led:Bool}{ns:List Int}
variable{es:Array (Int×f_)}
theorem zw.len{t:SetTable}(h:zw prog w led ns es t):es.size=ns.length:=by simpa using h.pm.length_eq
theorem zw.int{t:SetTable}(h:zw prog w led ns es t){e:Int×f_}(he:e∈es.toList):∃i u,e.2=.int i u:=by
 obtain⟨⟨k,hk,_⟩,_⟩:=h.el e he;obtain⟨u,hu⟩:=wL (k:=k) (v:=e.2) hk;exact⟨k,u,hu⟩
variable{a:e_}{ep:Nat}
theorem yA{Xl:Array (Int×f_)}{t t':SetTable}{Q:Unit->g_->Prop}(ho:s.heap.get? a=a_ (mV es ep t))(hz:Xl.size<scanBound)
  (h:∀h',eT a s.heap h'->h'.get? a=a_ (mV Xl (ep+1) t')->Q () { s with heap:=h' }):aD 1#5 A (storeSet a Xl t') Q E s:=by
 refine wpAny_storeSet_of ho rfl (h _ (fK ..) ?_) (fits_of_scanBound hz);have g:=cY (Obj.putSet Xl t') ho (by rw[putSet_of Xl t' rfl];rfl);rw[putSet_of Xl t' rfl]at g;exact g
theorem BN{g:Bool->Sem Unit}(hg:∀(b:Bool) (ZV:g_) (Q':Unit->g_->Prop),Q' () ZV->aD 1#5 A (g b) Q' E ZV){Ze:Array (Int×f_)}{t t2:SetTable}(ho:s.heap.get? a=a_ (mV es ep t))(he:zw prog w led ns Ze t2)
  {wd:Bool}{R:Option Bool->g_->Prop} (h:∀h',eT a s.heap h'->wF prog w h' a led ns->R (a_ c_) { s with heap:=h' }):
  aD 1#5 A (storeSet a Ze t2 >>= λ_=>if (!wd&&t2.tooFull)=c_ then(g (relayAll t2 Ze (hG Ze.size)).2.2 >>= λ_=>storeSet a (relayAll t2 Ze (hG Ze.size)).1 (relayAll t2 Ze (hG Ze.size)).2.1 >>= λ_=>pure (a_ c_)) else pure (a_ c_)) R E s:=by
 refine ab (yA ho he.sm λh1 s1 g1=>?_)
 split
 .have hp:=relayAll_perm t2 Ze (hG Ze.size);have ZF:(relayAll t2 Ze (hG Ze.size)).1.size=Ze.size:=by simpa using hp.length_eq
  exact ab (hg _ _ _ (ab (yA g1 (by rw[ZF];exact he.sm) λh2 s2 g2=>aj (h h2 (s1.trans s2) ⟨_,_,_,g2,(relayAll_fits t2 Ze (hG Ze.size)),(he.tab.relay Ze (hG Ze.size)),he.el.perm hp,by rw[ZF];exact he.sm,(hp.map _).trans he.pm⟩))))
 .exact aj (h h1 s1 ⟨_,_,_,g1,he⟩)
theorem J7{i:Int}{u:Tok}{Q:Bool->g_->Prop}(hS:wF prog w s.heap a led ns)(hr:ns.length+1<scanBound)
  (h:∀h',eT a s.heap h'->wF prog w h' a led (if i∈ns then ns else ns++[i])->∀b,Q b { s with heap:=h' }):aD 1#5 A (setAddHashed a (.int i u) ((intKind prog w).hash i)) Q E s:=by
 obtain⟨es,ep,t,ho,he⟩:=hS;have XR:(intKind prog w).is i (.int i u)=c_:=intKind_is _ _ _ _;have Um:(rG i u).scannable=c_:=rfl;have mem:i∈ns ↔ ∃e∈es.toList,(intKind prog w).is i e.2=c_:=by
  rw[<-he.pm.mem_iff,aw];constructor
  .rintro ⟨e,m,q⟩
   obtain⟨j,u',hu⟩:=he.int m;rw[hu]at q;have q:j=i:=q;subst q;exact⟨e,m,by rw[hu];exact intKind_is _ _ _ _⟩
  .rintro ⟨e,m,q⟩
   obtain⟨u',hu⟩:=wL (k:=i) (v:=e.2) q;exact⟨e,m,by rw[hu];rfl⟩
 unfold setAddHashed setAddHashedIn;refine dC (ab (kG ho rfl he.fit ?_));dsimp only;rw[byScan_of Um he.sm he.el];simp only[↓reduceIte];unfold setAddByScan;refine ab (ab (fb (ab (wpAny_setScan_of XR ho rfl he.fit he.el ?_))));cases hq:List.findIdx? (λe=>(intKind prog w).is i e.2) es.toList with
 | some j=>
   dsimp only;obtain⟨hj,hpj,_⟩:=eC.mp hq;have ZI:i∈ns:=mem.mpr ⟨es.toList[j],bP hj,hpj⟩;refine aj (aj ?_);rw[if_pos ZI]at h;exact h s.heap (Heap.SameBut.refl a s.heap) ⟨es,ep,t,ho,he⟩ _
 | none=>
   dsimp only;have ZI:i∉ns:=λz=>by
    obtain⟨e,m,q⟩:=mem.mp z;have:=List.findIdx?_eq_none_iff.mp hq e m;rw[q]at this;cases this
   rw[if_neg ZI]at h;have hp:=layNew_perm t es ((intKind prog w).hash i) (.int i u);have hf:=layNew_fits t es ((intKind prog w).hash i) (.int i u);have ht:=he.tab.lay es ((intKind prog w).hash i) (.int i u);generalize layNew t es ((intKind prog w).hash i) (.int i u)=L at hp hf ht ⊢;obtain⟨Ze,t1,wd,gave⟩:=L;dsimp only at hp hf ht ⊢;rw[dA]at hp;have ZF:Ze.size=es.size+1:=by simpa using hp.length_eq
   have he1:zw prog w led (ns++[i]) Ze t1:=⟨hf,ht,(he.el.push XR Um).perm hp,by rw[ZF,he.len];exact hr,(hp.map _).trans (by rw[bL];exact he.pm.append_right _)⟩;have hg :∀ (b:Bool) (ZV:g_) (Q':Unit->g_->Prop),Q' () ZV->aD 1#5 A (match b with | true=>rule "set.scan.the-table-gave-way" | false=>pure ()) Q' E ZV:=fun b ZV Q' q=>by cases b<;>first | exact aj q | exact fb q
   refine ab (hg _ _ _ ?_);have fin:∀h',eT a s.heap h'->wF prog w h' a led (ns++[i])->Q c_ { s with heap:=h' }:=λh' x y=>h h' x y _
   split
   .refine ab ?_;rw[hashByValue_scannable 8 Um];refine aj ?_
    refine BN (led:=led) (ns:=ns++[i]) hg ho ?_ λh' x y=>?_
    .exact he1
    .dsimp only;exact aj (fin h' x y)
   .refine ab (aj ?_);simp only[↓reduceIte]
    refine BN hg ho he1 λh' x y=>?_;dsimp only;exact aj (fin h' x y)
def ddp(l:List Int):List Int:=l.foldl (λacc x=>if x∈acc then acc else acc++[x]) []
theorem AW:∀(l acc:List Int),(l.foldl (λacc x=>if x∈acc then acc else acc++[x]) acc).length<=acc.length+l.length
 |[],acc=>by simp
 | x::l,acc=>by
   have:=AW l (if x∈acc then acc else acc++[x]);have h:(if x∈acc then acc else acc++[x]).length<=acc.length+1:=by split<;>simp
   simp only[gW,bU]
   lia
theorem Kj(l:List Int):(ddp l).length<=l.length:=by simpa [ddp]using (AW l [])
theorem Bi{R:Result->g_->Prop}{I S:e_}{fp wr:List e_}{vs:List Int}{P:Nat->f_->Prop}{St:Nat->Heap->Prop}(W:Walks prog w A.in1 I fp wr vs.length P St)(hf:S∉fp)
  (hv:∀i v,P i v->∃t,v=.int (vs.getD i 0) t) (hb:2#1+1<scanBound):∀(k i:Nat) (s:g_),i+k=2#1->St i s.heap->wF prog w s.heap S led (ddp (vs.take i)) ->
   (∀ h' tk,JI (S::wr) s.heap h'->wF prog w h' S led (ddp vs)->R (.ok (.ret .none)) { s with heap:=h',toks:=tk })->pM 1#5 A (.builtin "set.update.loop" ⟨[.ref S,.ref I],[]⟩) R s:=by
 have hw:S∉wr:=λh=>hf (W.sub _ h);intro k
 induction k with
 | zero=>
   intro i s e st hS hR;refine dB m9 ?_;rw[fP gZ _];show aD _ A.in1 (pyNext (.ref I) >>= _) _ _ s;have e:i=2#1:=e;subst e;refine ab (W.done s _ _ st λh' tk hk=>?_);show aD _ A.in1 (ret cJ) _ _ _;refine aj (hR h' tk (λb o hb e=>hk b o (λq=>hb (aB _ q)) e) ?_);rw[List.take_length]at hS;obtain⟨es,ep,t,ho,he⟩:=hS;exact⟨es,ep,t,hk S _ hw ho,he⟩
 | succ k ih=>
   intro i s e st hS hR;refine dB m9 ?_;rw[fP gZ _];show aD _ A.in1 (pyNext (.ref I) >>= _) _ _ s;refine ab (W.item i s _ _ 0#0 st λv h' tk hP Z' hk=>?_);obtain⟨u,rfl⟩:=hv i v hP;have Za:wF prog w h' S led (ddp (vs.take i)):=by
    obtain⟨es,ep,t,ho,he⟩:=hS;exact⟨es,ep,t,hk S _ hw ho,he⟩
   have hl:=Kj (vs.take i);rw[c6]at hl;have hi:i<2#1:=by lia
   have ev:vs.getD i 0=vs[i]:=by simp[List.getD,hi]
   have tk1:ddp (vs.take (i+1))=if vs.getD i 0∈ddp (vs.take i) then ddp (vs.take i) else ddp (vs.take i)++[vs.getD i 0]:=by rw[fg,aC hi,ev];unfold ddp;rw[List.foldl_append];rfl
   show aD _ A.in1 (holding [rG (vs.getD i 0) u] (setAdd S (.int (vs.getD i 0) u)) >>= _) _ _ _;refine ab (dC ?_);unfold setAdd;refine dC (ab ((intKind prog w).pyHash (k:=vs.getD i 0) (intKind_is _ _ _ _) ?_));refine J7 (led:=led) Za 0#0 λh2 s2 Us b=>?_;rw[<-tk1]at Us;refine aj ⟨plainId_quiet gZ _,ih (i+1) _ 0#0 (W.frame _ _ _ Z' λb hb o e=>?_) Us λh3 tk3 hd hS3=>hR h3 tk3 (λb o hb e=>hd b o hb ?_) hS3⟩
   .rw[s2.2 b (λq:b=S=>hf (by rw[<-q];exact hb))];exact e
   .rw[s2.2 b (λq:b=S=>hb (by rw[q];exact bX))];exact hk b o (λq=>hb (aB _ q)) e
theorem KB(a:f_){Q₁:f_->g_->Prop}(h:Q₁ (.ref 0#6) { s with heap:=s.heap.push (mV #[] 0 (.fresh 0 0 (!w.params.followText "set-order"))) }):pM 1#5 A (.call (.builtin "set.__new__") ⟨[.type "set",a],[]⟩) (wants Q₁ E) s:=by
 refine Gz ?_;show aD _ A.in1 (do checkBuiltinCall "set.__new__" ⟨[.type "set",a],[]⟩;again (.builtin "set.__new__" ⟨[.type "set",a],[]⟩)) _ _ s;refine ab (dR (PySem.F.newCall_set_1 a) (aj ⟨plainId_quiet E9 _,dB PySem.F.entry_set_new ?_⟩));rw[fP E9 _];unfold Builtin.«set.__new__» Builtin.Frozenset.newClass;have Xe:=sub_set_self;obtain⟨hp,g,d,tk,os⟩:=s;dsimp only;wp_walk;refine lx (aj ?_);dsimp only;simp only[newObj];exact ab (wpAny_alloc (aj (aj h)))
set_option maxHeartbeats 8000000 in
theorem Ju{l:e_}{T:String}{items:Array f_}{nl:Nat}{vs:List Int}{Q:f_->g_->Prop}(hT:T="list"\/T="tuple")(hh:A.handled=b_){od:Option e_}{osl:Array (Option f_)}(Xy:s.heap.get? l=a_ { cls := .type T,dict:=od,data := .seq items nl,slots:=osl })(hi:IntsAre items.toList vs)(hb:2#1+1<scanBound)
  (h :∀ (h':Heap) (tk:Nat),wF prog w h' s.heap.objs.size (!w.params.followText "set-order") (ddp vs)->JI [] s.heap h'->Q (.ref 0#6) { s with heap:=h',toks:=tk }):aD 1#5 A (call (.type "set") [.ref l]) Q E s:=by
 obtain⟨c,tl,hmro⟩:=PySem.F.called_set.mro;have hmade:=PySem.F.called_set.made;have Xe:=PySem.F.called_set.sub;have Tf:items.size=vs.length:=by have:=hi.length;simpa using this
 refine wpAny_call (Gz ?_);show aD _ _ (callAny (.type "set") _) _ _ _;refine aj ⟨Code.quiet_builtin _ 0#9,dB PySem.F.entry_type_call ?_⟩;rw [Around.under_plain (weight_type_call_type "set" [.ref l] []) rfl];have h1:=PySem.F.called_set.notType;have h2:=PySem.F.called_set.canCreate;have hct:=PySem.F.typeCall_set_1 (.ref l)
 repeat (any_goals (first |assumption |wp_step))
 generalize hled:(!w.params.followText "set-order")=led at h;refine jb (KB (.ref l) (E:=E) (Q₁:=λobj ZV=>obj=.ref 0#6/\ZV={ s with heap:=s.heap.push (mV #[] 0 (.fresh 0 0 led)) }) (by rw[hled];exact⟨rfl,rfl⟩)) λr ZV hr=>?_;cases r with
 |error e=>exact hr
 | ok fl=>
   cases fl with
   | ret obj=>
     obtain⟨rfl,rfl⟩:=hr;generalize hg:s.heap.push (mV #[] 0 (.fresh 0 0 led))=g;have gz:g.objs.size=0#6+1:=by rw[<-hg];exact bE ..
     have hS:g.get? 0#6=a_ (mV #[] 0 (.fresh 0 0 led)):=by rw[<-hg];exact av _ rfl
     have hk:∀b o,s.heap.get? b=a_ o->g.get? b=a_ o:=λb o e=>by rw[<-hg];exact af _ e
     have hTS:tq { s with heap:=g } (.ref 0#6) "set":=⟨_,hS,rfl⟩;have hli:=PySem.F.called_set.init.lookup;have hbi:=PySem.F.called_set.init.bind (.ref 0#6)
     repeat (any_goals (first |assumption |wp_step))
     refine jb (codeAny_call_builtin (R:=wants (λr ZX=>r=.none /\ ∃h' tk,ZX={ s with heap:=h',toks:=tk }/\wF prog w h' s.heap.objs.size led (ddp vs)/\JI [] s.heap h') E) PySem.F.called_set.init.plain PySem.F.entry_set_init (check_set_init_1 hTS ?_)) λr₂ ZX Ya=>?_
     .have VR:=hk _ _ Xy
      have hls:isSubtype (.type T) (.type "set")=pure d_:=by rcases hT with rfl|rfl<;>first|exact PySem.F.sub_list_set|exact sub_tup_set
      have hlf:isSubtype (.type T) (.type "frozenset")=pure d_:=by rcases hT with rfl|rfl<;>first|exact PySem.F.sub_list_frozenset|exact sub_tup_frz
      have ZN:(ja T==ja "dict")=d_:=by rcases hT with rfl|rfl<;>decide
      unfold Builtin.«set.__init__» noKeywords Builtin.Frozenset.updateFrom;generalize hPI:pyIter=PI;unfold mV at hS
      wp_walk
      subst hPI;have lS: @JT Nat _ l 0#6:=az Xy;have lI:l≠g.objs.size:=λq=>by have q': @Eq Nat l g.objs.size:=q;lia
      have hf:0#6 ∉ [g.objs.size,l]:=λq=>by
       rcases aG.mp q with q|q
       .have q': @Eq Nat s.heap.objs.size g.objs.size:=q;lia
       .have q': @Eq Nat s.heap.objs.size l:=bx.mp q;lia
      have hv:∀(i:Nat) (v:f_),items[i]?=a_ v->∃t,v=.int (vs.getD i 0) t:=λi v hv=>PyProof.Rows.IntsAre.int_at hi i v (by rw[cq];exact hv);have Tu:A.in1.in1.in1.handled=b_:=by simp[hh]
      have fr:zw prog w led (ddp []) #[] (.fresh 0 0 led):=⟨rfl,kZ.fresh led,λe he=>by simp at he,by decide,by exact .refl _⟩;have fin:∀(io:Obj) (h':Heap),JI [0#6,g.objs.size] (g.push io) h'->JI [] s.heap h':=λio h' hd b o _ e=>by
       have lb: @JT Nat _ b 0#6:=az e;refine hd b o (λq=>?_) (af _ (hk b o e));rcases aG.mp q with q |q
       .have q': @Eq Nat b 0#6:=q;lia
       .have q': @Eq Nat b g.objs.size:=bx.mp q;lia
      rcases hT with rfl|rfl
      .have Zd:g.IsList l items:=⟨_,VR,rfl,nl,rfl⟩
       refine pL Zd (ab (kH ?_));have W:=Walks.list (prog:=prog) (w:=w) (A:=A.in1.in1.in1) Tu g.objs.size l lI items;rw[Tf]at W;exact Bi (led:=led) W hf hv hb vs.length 0 _ 0#0 ⟨⟨_,av _ rfl,rfl,rfl⟩,Zd.push _⟩ ⟨_,_,_,af _ hS,fr⟩ λh' tk hd Za=>aj (aj ⟨rfl,h',tk,rfl,Za,fin _ h' hd⟩)
      .have Zd:g.IsTuple l items:=⟨_,VR,rfl,nl,rfl⟩
       refine jS Zd (ab (kH ?_));have W:=Walks.tuple (prog:=prog) (w:=w) (A:=A.in1.in1.in1) Tu g.objs.size l lI items;rw[Tf]at W;exact Bi (led:=led) W hf hv hb vs.length 0 _ 0#0 ⟨⟨_,av _ rfl,rfl,rfl⟩,Zd.push _⟩ ⟨_,_,_,af _ hS,fr⟩ λh' tk hd Za=>aj (aj ⟨rfl,h',tk,rfl,Za,fin _ h' hd⟩)
     .cases r₂ with
      |error e=>exact Ya
      | ok fl₂=>
        cases fl₂ with
        | ret r=>
          obtain⟨rfl,h',tk,rfl,Za,hd⟩:=Ya
          repeat (any_goals (first |assumption |wp_step))
          exact h _ _ Za hd
        |_=>exact Ya.elim
   |_=>exact hr.elim
end
end _L
namespace PySem
namespace GS
theorem Bn:Manifest.owners.lookup (String.ofList ['r','o','t','a','r','e','t','i','_','t','e','s'].reverse)=a_ Manifest.sig_set_iterator:=by kernel_rfl
theorem slot_si:Slot "set_iterator" "__next__" "set_iterator.__next__":=
 .of (owner:="set_iterator") (n:="__next__") (by rw [typeLookup_type,builtinLookup_eq_fast];kernel_rfl) 0#9 0#9 0#9 (by first | exact .inl (by decide +kernel) | exact .inr (by decide +kernel)) (by rw [isSubtype_type];kernel_rfl)
theorem entry_si:entryFor table "set_iterator.__next__"=a_ Builtin.«set_iterator.__next__»:=entryFor_of_tree (by kernel_rfl)
theorem args_si(a:f_):argsOk "set_iterator.__next__" ⟨[a],[]⟩:=by
 unfold argsOk;rw [signature?_of (id:="set_iterator.__next__") (n := ['_','_','t','x','e','n','_','_']) (o := ['r','o','t','a','r','e','t','i','_','t','e','s']) (by kernel_rfl) Bn];kernel_rfl
theorem slot_sii:Slot "set_iterator" "__iter__" "set_iterator.__iter__":=
 .of (owner:="set_iterator") (n:="__iter__") (by rw [typeLookup_type,builtinLookup_eq_fast];kernel_rfl) 0#9 0#9 0#9 (by first | exact .inl (by decide +kernel) | exact .inr (by decide +kernel)) (by rw [isSubtype_type];kernel_rfl)
theorem args_sii(a:f_):argsOk "set_iterator.__iter__" ⟨[a],[]⟩:=by
 unfold argsOk;rw [signature?_of (id:="set_iterator.__iter__") (n := ['_','_','r','e','t','i','_','_']) (o := ['r','o','t','a','r','e','t','i','_','t','e','s']) (by kernel_rfl) Bn];kernel_rfl
theorem entry_sii:entryFor table "set_iterator.__iter__"=a_ Builtin.«dict_keyiterator.__iter__»:=
 entryFor_alias (id':="dict_keyiterator.__iter__") (by kernel_rfl) (by first | rfl | decide +kernel | (unfold Ah;simp +decide [uN])) (by decide +kernel) (by kernel_rfl)
theorem entry_seti:entryFor table "set.__iter__"=a_ Builtin.«frozenset.__iter__»:=
 entryFor_alias (id':="frozenset.__iter__") (by kernel_rfl) (by first | rfl | decide +kernel | (unfold Ah;simp +decide [uN])) (by decide +kernel) (by kernel_rfl)
end GS
end PySem
namespace _L
open PySem PyProof.Rows
def uf(first:f_)(i:Nat)(a:e_)(n ep:Nat):Obj:={ cls := .type "set_iterator",data := .fields #[first,rawInt i,.ref a,rawInt n,rawInt ep] }
section
variable {prog:Program}{w:World}{A:Around}{E:f_->g_->Prop}{s:g_}{I a:e_}{es:Array (Int×f_)}{ep:Nat}{t:SetTable}
variable{i:Nat}
theorem AX{first:f_}{n:Nat}{Q:f_->g_->Prop}(h:s.heap.get? I=a_ (uf first i a n ep))(q:Q (.ref I) s):aD (model prog w) A (pyIter (.ref I)) Q E s:=by
 have hT:s.TypeIs (.ref I) "set_iterator":=⟨_,h,rfl⟩;refine B5 hT GS.slot_sii (bG GS.slot_sii hT GS.entry_sii ?_ (GS.args_sii _));show aD _ _ (ret (.ref I)) _ _ s;exact aj ⟨_,rfl,"set_iterator",_,hT,GS.slot_si.lookup,q⟩
def wt(w:World)(a:e_)(ep:Nat)(es:Array (Int×f_)):List (Int×f_):=if w.params.followText "set-order"=c_ then (pickOrder (w.params.setOrder a ep) es).toList else es.toList
theorem oI:(wt w a ep es).Perm es.toList:=by
 unfold wt
 split
 .exact Fk _ _
 .exact .refl _
theorem EN{slot i:Nat}{Q:Option (f_×Nat)->g_->Prop}(ho:s.heap.get? a=a_ (mV es ep t))(hf:t.fits es.size=c_)(hr:qG t.place)(hl:w.params.followText "set-order"=d_->t.led=c_/\(t.plain=c_\/es.size<=1)/\bg t.place slot=i)
  (hq :∀ j,(w.params.followText "set-order"=d_->∀ h:i<t.place.size,j=t.place[i]+1)->Q (((wt w a ep es)[i]?).map fun e=>(e.2,j)) s):aD 1#5 A (setNext a slot i ep) Q E s:=by
 have hz:t.place.size=es.size:=by simp only[SetTable.fits,aE,beq_iff_eq]at hf;exact hf.1
 unfold setNext;refine ab (kG ho rfl hf ?_);dsimp only;unfold setsByText;refine ab (ab (lx (aj ?_)));cases hb:w.params.followText "set-order" with
 | true=>
   have Vt:(model prog w).w.params.followText "set-order"=c_:=hb;simp only[Vt,if_true,bne_self_eq_false,eP,if_false];unfold setWalk;refine ab (ab (kG ho rfl hf ?_));(try dsimp only);unfold setsByText;refine ab (ab (lx (aj ?_)));simp only[Vt,if_true];refine ab (lx (aj (aj ?_)));have:=hq slot (λz=>by rw[hb]at z;cases z);unfold wt at this;rw[if_pos hb,cq]at this;exact this
 | false=>
   have Vt:(model prog w).w.params.followText "set-order"=d_:=hb;obtain⟨h1,h2,h3⟩:=hl hb;simp only[Vt,eP,if_false];refine wpAny_ite_split (λz=>?_) (λ_=>?_)
   .have z':(!t.plain&&decide (es.size>1))=c_:=z
    rw[aE]at z';rcases h2 with h2|h2
    .rw[h2]at z';exact absurd z'.1 0#2
    .have:=of_decide_eq_true z'.2;lia
   .refine ab ?_;show aD _ _ (if (!t.led && !es.isEmpty)=c_ then unsupported "set:maker-not-led" else pure ()) _ _ s;rw [h1,if_neg 0#4];refine aj ?_;(try dsimp only);rw [h3]
    have YG:(wt w a ep es)[i]?=es[i]? := by unfold wt;rw[if_neg (by rw[hb];decide),cq]
    rw[YG]at hq;by_cases hi:i<es.size
    .rw[bW hi,bW 0#0]
     have:=hq (t.place[i]+1) (λ_ _=>rfl);rw[bW hi]at this;exact aj this
    .rw[GA 0#0]
     have:=hq 0 (λ_ h=>by lia);rw[GA 0#0]at this;exact aj this
variable{Q:Option f_->g_->Prop}
theorem Dw{slot:Nat}{v:f_}(hI:s.heap.get? I=a_ (uf (rawInt slot) i a es.size ep))(ho:s.heap.get? a=a_ (mV es ep t))(hf:t.fits es.size=c_)(hr:qG t.place)
  (hl:w.params.followText "set-order"=d_->t.led=c_/\(t.plain=c_\/es.size<=1)/\bg t.place slot=i) (hv:((wt w a ep es)[i]?).map (·.2)=a_ v)
  (hQ :∀ (h':Heap) (YB:Nat),h'.get? I=a_ (uf (rawInt YB) (i+1) a es.size ep)->(w.params.followText "set-order"=d_->bg t.place YB=i+1)->eT I s.heap h'->Q (a_ v) { s with heap:=h' }):aD 1#5 A (pyNext (.ref I)) Q E s:=by
 have hT:s.TypeIs (.ref I) "set_iterator":=⟨_,hI,rfl⟩;have hz:t.place.size=es.size:=by simp only[SetTable.fits,aE,beq_iff_eq]at hf;exact hf.1
 unfold pyNext;refine ab (fJ (bN (name:=fU "__next__") hT GS.slot_si (bG GS.slot_si hT GS.entry_si ?_ (GS.args_si _))));unfold Builtin.«set_iterator.__next__»;refine ab (dR (a:=(bZ I,[])) rfl ?_);(try dsimp only);refine ab (wO hI rfl ?_);show aD _ _ (setEntries a >>= _) _ _ s;refine ab (jx ho rfl hf ?_);rw[if_neg 0#4];show aD _ _ (setNext a ((slot:Int)).toNat ((i:Int)).toNat ((ep:Int)).toNat >>= _) _ _ s;rw[cj,cj,cj];refine ab (EN ho hf hr hl λj hj=>?_);obtain⟨e,he,rfl⟩:=dh.mp hv;rw[he];have hi:i<es.size:=by have:=(ag.mp he).1;rw[(oI (w:=w) (a:=a) (ep:=ep) (es:=es)).length_eq]at this;simpa using this
 show aD _ _ (setField (.ref I) 0 (rawInt j) >>= _) _ _ s;refine ab (cZ hI 0#4 λh1 g1 s1=>?_);refine ab (cZ g1 0#4 λh2 g2 s2=>?_);refine aj ⟨_,rfl,aj (hQ h2 j ?_ (λhb=>?_) (s1.trans s2))⟩
 .exact g2
 .rw[hj hb 0#0];exact CF hr _
theorem F4{slot:Nat}(hh:A.handled=b_)(hI:s.heap.get? I=a_ (uf (rawInt slot) es.size a es.size ep))(ho:s.heap.get? a=a_ (mV es ep t))(hf:t.fits es.size=c_)(hr:qG t.place)
  (hl:w.params.followText "set-order"=d_->t.led=c_/\(t.plain=c_\/es.size<=1)/\bg t.place slot=es.size) (hQ :∀ h',jv I s.heap h'->Q b_ { s with heap:=h' }):aD 1#5 A (pyNext (.ref I)) Q E s:=by
 have hT:s.TypeIs (.ref I) "set_iterator":=⟨_,hI,rfl⟩;unfold pyNext;refine ab (fJ (bN (name:=fU "__next__") hT GS.slot_si (bG GS.slot_si hT GS.entry_si ?_ (GS.args_si _))));unfold Builtin.«set_iterator.__next__»;refine ab (dR (a:=(bZ I,[])) rfl ?_);(try dsimp only);refine ab (wO hI rfl ?_);show aD _ _ (setEntries a >>= _) _ _ s;refine ab (jx ho rfl hf ?_);rw[if_neg 0#4];show aD _ _ (setNext a ((slot:Int)).toNat ((es.size:Int)).toNat ((ep:Int)).toNat >>= _) _ _ s;rw[cj,cj,cj];refine ab (EN ho hf hr hl λj hj=>?_);rw[fH (by rw[(oI (w:=w) (a:=a) (ep:=ep) (es:=es)).length_eq];simp)];show aD _ _ (setField (.ref I) 2 .none >>= _) _ _ s;refine ab (cZ hI 0#4 λh1 g1 s1=>?_);show aD _ _ (newExc (.type "StopIteration") [] >>= _) _ _ _;refine ab ?_;simp only [newExc,newTuple];refine ab (bJ ?_ (by size_fits));refine ab (m:=firstArgMember _ _) (dR (a:=cJ) (by first | rfl | (simp only [firstArgMember];rfl)) ?_);refine bJ ?_ (by size_fits);simp only [raiseNew];refine ab (yL ?_)
 first |rw[show A.in1.handled=b_ from hh] |rw[hh]
 refine ab (aj (E7 ?_));refine ab (gR (T:="StopIteration") (b:=c_) ⟨_,av _ rfl,rfl⟩ isSubtype_stop ?_);exact aj (hQ _ ((s1.extBut.push _).push _))
def tupI(idx:List Nat):Obj:={ cls := .type "tuple",data := .seq (idx.map fun (k:Nat)=>rawInt k).toArray }
variable{F:e_}{idx:List Nat}
theorem Cp{k:Nat}{e:Int×f_}(hI:s.heap.get? I=a_ (uf (.ref F) i a es.size ep))(ho:s.heap.get? a=a_ (mV es ep t))(hF:s.heap.get? F=a_ (tupI idx))(hf:t.fits es.size=c_)(hk:idx[i]?=a_ k)(he:es[k]?=a_ e)
  (hQ:∀h',h'.get? I=a_ (uf (.ref F) (i+1) a es.size ep)->eT I s.heap h'->Q (a_ e.2) { s with heap:=h' }):aD 1#5 A (pyNext (.ref I)) Q E s:=by
 have hT:s.TypeIs (.ref I) "set_iterator":=⟨_,hI,rfl⟩;unfold pyNext;refine ab (fJ (bN (name:=fU "__next__") hT GS.slot_si (bG GS.slot_si hT GS.entry_si ?_ (GS.args_si _))));unfold Builtin.«set_iterator.__next__»;refine ab (dR (a:=(bZ I,[])) rfl ?_);(try dsimp only);refine ab (wO hI rfl ?_);show aD _ _ (setEntries a >>= _) _ _ s;refine ab (jx ho rfl hf ?_);rw[if_neg 0#4];show aD _ _ (seqItems? (.ref F) >>= _) _ _ s;refine ab (fi hF rfl ?_);(try dsimp only);rw[cj];have h1:((idx.map λ(k:Nat)=>rawInt k).toArray)[i]?=a_ (rawInt k):=by simp[hk]
 rw[h1];show aD _ _ (setNextDrawn a ((k:Int)).toNat ((ep:Int)).toNat >>= _) _ _ s;rw[cj,cj];unfold setNextDrawn;refine ab (ab (kG ho rfl hf ?_));dsimp only;rw[if_neg 0#4,he];exact aj (ab (cZ hI 0#4 λh2 g2 s2=>(aj ⟨_,rfl,aj (hQ h2 g2 s2)⟩)))
theorem FR(hh:A.handled=b_)(hI:s.heap.get? I=a_ (uf (.ref F) idx.length a es.size ep))(ho:s.heap.get? a=a_ (mV es ep t))(hF:s.heap.get? F=a_ (tupI idx))(hf:t.fits es.size=c_)
  (hQ:∀h',jv I s.heap h'->Q b_ { s with heap:=h' }):aD 1#5 A (pyNext (.ref I)) Q E s:=by
 have hT:s.TypeIs (.ref I) "set_iterator":=⟨_,hI,rfl⟩;unfold pyNext;refine ab (fJ (bN (name:=fU "__next__") hT GS.slot_si (bG GS.slot_si hT GS.entry_si ?_ (GS.args_si _))));unfold Builtin.«set_iterator.__next__»;refine ab (dR (a:=(bZ I,[])) rfl ?_);(try dsimp only);refine ab (wO hI rfl ?_);show aD _ _ (setEntries a >>= _) _ _ s;refine ab (jx ho rfl hf ?_);rw[if_neg 0#4];show aD _ _ (seqItems? (.ref F) >>= _) _ _ s;refine ab (fi hF rfl ?_);(try dsimp only);rw[cj];have h1:((idx.map λ(k:Nat)=>rawInt k).toArray)[idx.length]?=b_:=by simp
 rw[h1];show aD _ _ (setField (.ref I) 0 (rawInt 0) >>= _) _ _ s;refine ab (cZ hI 0#4 λh2 g2 s2=>?_);refine ab (cZ g2 0#4 λh3 g3 s3=>?_);show aD _ _ (newExc (.type "StopIteration") [] >>= _) _ _ _;refine ab ?_;simp only [newExc,newTuple];refine ab (bJ ?_ (by size_fits));refine ab (m:=firstArgMember _ _) (dR (a:=cJ) (by first | rfl | (simp only [firstArgMember];rfl)) ?_);refine bJ ?_ (by size_fits);simp only [raiseNew];refine ab (yL ?_)
 first |rw[show A.in1.handled=b_ from hh] |rw[hh]
 refine ab (aj (E7 ?_));refine ab (gR (T:="StopIteration") (b:=c_) ⟨_,av _ rfl,rfl⟩ isSubtype_stop ?_);exact aj (hQ _ (((s2.extBut.trans s3.extBut).push _).push _))
end
section
variable {prog:Program}{w:World}{A:Around}{E:f_->g_->Prop}{s:g_}{I a:e_}{es:Array (Int×f_)}{ep:Nat}{t:SetTable}
theorem QG(hh:A.handled=b_)(ZN:a≠I)(hf:t.fits es.size=c_)(hr:qG t.place)(hl:w.params.followText "set-order"=d_->t.led=c_/\(t.plain=c_\/es.size<=1)) :
  Walks prog w A I [I,a] [I] es.size (fun i v=>((wt w a ep es).map (·.2))[i]?=a_ v) (fun i h=>∃ slot:Nat,h.get? I=a_ (uf (rawInt slot) i a es.size ep)/\h.get? a=a_ (mV es ep t)/\(w.params.followText "set-order"=d_->bg t.place slot=i)) where
 sub:=λb hb=>by simp at hb;simp[hb]
 frame:=λ_ _ _ ⟨slot,g1,g2,g3⟩ hk=>⟨slot,hk I 0#4 _ g1,hk a 0#4 _ g2,g3⟩
 item:=λi s Q E hi ⟨slot,g1,g2,g3⟩ hQ=>by
  have YZ:i<(wt w a ep es).length:=by rw[oI.length_eq];simpa using hi
  refine Dw (v:=(wt w a ep es)[i].2) g1 g2 hf hr (λhb=>⟨(hl hb).1,(hl hb).2,g3 hb⟩) (by rw[aC YZ];rfl) λh' YB q1 q2 q3=>?_;exact hQ _ h' s.toks (by rw[a9,aC YZ];rfl) ⟨YB,q1,(q3.2 a ZN).trans g2,q2⟩ λb o hb e=>(q3.2 b (λz=>hb (by simp[z]))).trans e
 done:=λs Q E ⟨slot,g1,g2,g3⟩ hQ=>F4 hh g1 g2 hf hr (λhb=>⟨(hl hb).1,(hl hb).2,g3 hb⟩) λh' Ud=>hQ h' s.toks λb o hb e=>Ud b o (λz=>hb (by simp[z])) e
 self:=λ_ _ _ _ ⟨_,g1,_,_⟩ hQ=>AX g1 hQ
theorem zu:∀(l:List Nat),(∀k∈l,k<es.size)->(l.filterMap λk=>(es[k]?).map (·.2))=l.map λk=>(es[k]?.getD default).2
 |[],_=>rfl
 | k::l,h=>by
   rw[List.filterMap_cons_some (b:=(es[k]?.getD default).2) (by simp[(h k 0#4)]),dw,zu l λj hj=>h j (aB _ hj)]
variable{idx:List Nat}
theorem Iy{n:Nat}(hp:idx.Perm (ao n)):idx.length=n:=by simpa using hp.length_eq
theorem Pa{F:e_}(hh:A.handled=b_)(ZN:a≠I)(hnF:F≠I)(hf:t.fits es.size=c_)(hp:idx.Perm (ao es.size)):
  Walks prog w A I [I,a,F] [I] es.size (λi v=>(idx.filterMap λk=>(es[k]?).map (·.2))[i]?=a_ v) (λi h=>h.get? I=a_ (uf (.ref F) i a es.size ep)/\h.get? a=a_ (mV es ep t)/\h.get? F=a_ (tupI idx)) where
 sub:=λb hb=>by simp at hb;simp[hb]
 frame:=λ_ _ _ st hk=>⟨hk I 0#4 _ st.1,hk a 0#4 _ st.2.1,hk F 0#4 _ st.2.2⟩
 item:=λi s Q E hi st hQ=>by
  have hl:idx.length=es.size:=by simpa using hp.length_eq
  have Yf:i<idx.length:=by lia
  have hk:idx[i]<es.size:=aA.mp (hp.mem_iff.mp (bP Yf));refine Cp (k:=idx[i]) (e:=es[idx[i]]) st.1 st.2.1 st.2.2 hf (aC Yf) (bW hk) λh' q1 q3=>?_;refine hQ _ h' s.toks ?_ ⟨q1,(q3.2 a ZN).trans st.2.1,(q3.2 F hnF).trans st.2.2⟩ λb o hb e=>(q3.2 b (λz=>hb (by simp[z]))).trans e;have e:(idx.filterMap λk=>(es[k]?).map (·.2))=idx.map λk=>(es[k]?.getD default).2:=zu idx λk YM=>aA.mp (hp.mem_iff.mp YM);rw[e,a9,aC Yf];simp[hk]
 done:=λs Q E st hQ=>FR hh ((Iy hp).symm▸st.1) st.2.1 st.2.2 hf λh' Ud=>hQ h' s.toks λb o hb e=>Ud b o (λz=>hb (by simp[z])) e
 self:=λ_ _ _ _ st hQ=>AX st.1 hQ
theorem Jq{ns:List Int}{Q:f_->g_->Prop}(ho:s.heap.get? a=a_ (mV es ep t))(he:zw prog w (!w.params.followText "set-order") ns es t)(hz:es.size<=sizeLine)
  (hQ:∀(I:e_) (fp:List e_) (St:Nat->Heap->Prop) (L:List f_) h' d,(∀A':Around,A'.handled=b_->Walks prog w A' I fp [I] es.size (λi v=>L[i]?=a_ v) St)->St 0 h'->(∀b∈fp,b<h'.objs.size)->L.Perm (es.toList.map (·.2))->(∀b o,s.heap.get? b=a_ o->h'.get? b=a_ o)->0#6<=I->(∀b∈fp,b=a\/0#6<=b)->Q (.ref I) { s with heap:=h',drawn:=d }):
  aD 1#5 A (pyIter (.ref a)) Q E s:=by
 have hT:s.TypeIs (.ref a) "set":=⟨_,ho,rfl⟩;have la: @JT Nat _ a 0#6:=az ho;refine B5 hT Fb (bG Fb hT GS.entry_seti ?_ (PySem.F.args_set_iter_1 _));unfold Builtin.«frozenset.__iter__»;refine ab (dR (a:=a) rfl ?_);unfold Builtin.Frozenset.sizeOf;refine ab (ab (jx ho rfl he.fit (aj ?_)));unfold setDrawn;refine ab (ab (kG ho rfl he.fit ?_));dsimp only;unfold setsByText;refine ab (ab (lx (aj (aj ?_))));have fin:∀(first:f_) (h1:Heap) d (fp:List e_) (St:Nat->Heap->Prop) (L:List f_),(∀b o,s.heap.get? b=a_ o->h1.get? b=a_ o) -> @LE.le Nat _ s.heap.objs.size h1.objs.size->(∀A':Around,A'.handled=b_->Walks prog w A' h1.objs.size fp [h1.objs.size] es.size (λi v=>L[i]?=a_ v) St)->St 0 (h1.push (uf first 0 a es.size ep)) ->
   (∀ b∈fp,b=h1.objs.size\/(@JT Nat _ b h1.objs.size/\(b=a \/ @LE.le Nat _ s.heap.objs.size b)))->L.Perm (es.toList.map (·.2))->aD 1#5 A.in1 (setEpoch a >>= fun e=>newFields "set_iterator" [first,rawInt 0,.ref a,rawInt es.size,rawInt e] >>= fun v=>ret v) (fun f s'=>∃ v,f=.done (.ret v) /\ ∃ T' r,s'.TypeIs v T'/\typeLookup (.type T') (fU "__next__")=pure (a_ r)/\Q v s') E { s with heap:=h1,drawn:=d }:=by
  intro first h1 d fp St L hk hle W st XS hL
  refine ab (wpAny_setEpoch_of (s:={ s with heap:=h1,drawn:=d }) (hk _ _ ho) rfl he.fit ?_);unfold newFields;refine ab (bJ ?_ (by size_fits));have sz:(h1.push (uf first 0 a es.size ep)).objs.size=h1.objs.size+1:=bE ..;refine aj ⟨_,rfl,"set_iterator",_,⟨_,av _ rfl,rfl⟩,GS.slot_si.lookup,hQ h1.objs.size fp St L _ d W st (fun b hb=>?_) hL (fun b o e=>af _ (hk b o e)) hle fun b hb=>?_⟩
  .show @JT Nat _ b (h1.push (uf first 0 a es.size ep)).objs.size
   rw[sz];rcases XS b hb with z|z
   .rw[z];exact bV _
   .exact cU z.1
  .rcases XS b hb with z|z
   .rw[z];exact .inr hle
   .exact z.2
 refine wpAny_ite_split (λz=>?_) (λz=>?_)
 .have z':(!w.params.followText "set-order"&&(!t.plain&&decide (es.size>1)))=c_:=z
  refine ab (Bv _ _ _ 0#4 λidx d hp=>?_);have hl:idx.length=es.size:=by simpa using hp.length_eq
  refine ab (JS ?_ (by rw[ar,hl];exact hz));have sz:(s.heap.push (tupI idx)).objs.size=0#6+1:=bE ..;refine fin (.ref 0#6) (s.heap.push (tupI idx)) d [(s.heap.push (tupI idx)).objs.size,a,0#6] _ (idx.filterMap λk=>(es[k]?).map (·.2)) (λb o e=>af _ e) (by rw[sz];exact fS _) (λA' hh=>Pa (ep:=ep) (t:=t) hh (aJ (by rw[sz];exact cU la)) (aJ (by rw[sz];exact bV _)) he.fit hp) ⟨av _ rfl,af _ (af _ ho),af _ (av _ rfl)⟩ (λb hb=>?_) ?_
  .rcases aG.mp hb with q|hb
   .exact .inl q
   .rcases aG.mp hb with q|hb
    .exact .inr ⟨by rw[q,sz];exact cU la,.inl q⟩
    .have q:=bx.mp hb
     exact .inr ⟨by rw[q,sz];exact bV _,.inr (by rw[q];exact ak _)⟩
  .rw[zu idx λk hk=>aA.mp (hp.mem_iff.mp hk)]
   refine(hp.map _).trans ?_;rw[<-zu (ao es.size) λk hk=>aA.mp hk,<-List.map_filterMap,filterMap_getElem?_range]
 .have z' : ¬ (!w.params.followText "set-order"&&(!t.plain&&decide (es.size>1)))=c_:=z
  refine ab (aj ?_);refine fin (rawInt (0:Nat)) s.heap s.drawn [0#6,a] _ ((wt w a ep es).map (·.2)) (λb o e=>e) (ak _) (λA' hh=>QG (ep:=ep) hh (aJ la) he.fit he.tab.r λhb=>?_) ⟨0,av _ rfl,af _ ho,λ_=>CA he.tab.r⟩ (λb hb=>?_) (oI.map _)
  .refine⟨by rw[he.tab.l,hb];rfl,?_⟩
   rw[hb]at z';by_cases p:t.plain=c_
   .exact .inl p
   .right
    rw[Bool.not_eq_true]at p;rw[p]at z';simpa using z'
  .rcases aG.mp hb with q|hb
   .exact .inl q
   .have q:=bx.mp hb
    exact .inr ⟨by rw[q];exact la,.inl q⟩
end
end _L
namespace _L
open PySem PySem.Spec PyProof.Rows
section
variable {κ:Type} [DecidableEq κ]
def oh(kvs:List (κ×V))(k:κ):Option V:=(kvs.find? λkv=>decide (kv.1=k)).map (·.2)
def putK(kvs:List (κ×V))(k:κ)(v:V):List (κ×V):=
 if (kvs.any λkv=>decide (kv.1=k))=c_ then kvs.map (λkv=>if kv.1=k then(kv.1,v) else kv) else kvs++[(k,v)]
theorem nT{p:κ×V}{r:List (κ×V)}{k:κ}(e:p.1=k):oh (p::r) k=a_ p.2:=by simp[oh,e]
theorem nD{p:κ×V}{r:List (κ×V)}{k:κ}(e: ¬p.1=k):oh (p::r) k=oh r k:=by simp[oh,e]
theorem Bg(k:κ):∀kvs:List (κ×V),(kvs.any λkv=>decide (kv.1=k))=(oh kvs k).isSome
 |[]=>rfl
 | p::r=>by
   rw[m7];by_cases e:p.1=k
   .simp[nT e,decide_eq_true e]
   .rw[nD e,decide_eq_false e];exact Bg k r
theorem nX(kvs:List (κ×V))(k:κ)(v:V):(putK kvs k v).length<=kvs.length+1:=by
 unfold putK
 split<;>simp_all
theorem wz.isSome_eq{o:Option V}{u:Option f_}(r:wz o u):o.isSome=u.isSome:=by
 cases o with
 | none=>cases u with
   |none=>rfl
   |some _=>exact(r).elim
 | some _=>cases u with
   |none=>exact(r).elim
   |some _=>rfl
theorem KV.val{kvs:List (κ×V)}{vs:List (κ×f_)}(r:KV kvs vs)(k:κ):wz (oh kvs k) (valueAt vs k):=by
 induction r with
 |nil=>exact gI
 | @cons p q ps qs h t ih=>
   obtain⟨h1,h2⟩:=h;by_cases e:p.1=k
   .have e':=h1.symm.trans e
    have b:valueAt (q::qs) k=a_ q.2:=by simp[valueAt,e']
    rw[nT e,b];exact h2
   .have e': ¬q.1=k:=λz=>e (h1.trans z)
    have b:valueAt (q::qs) k=valueAt qs k:=by simp[valueAt,e']
    rw[nD e,b];omega
theorem KV.any{kvs:List (κ×V)}{vs:List (κ×f_)}(r:KV kvs vs)(k:κ):(kvs.any λkv=>decide (kv.1=k))=vs.any λkv=>decide (kv.1=k):=by
 induction r<;>simp_all
variable{u:f_}
theorem KV.repl{kvs:List (κ×V)}{vs:List (κ×f_)}(r:KV kvs vs)(k:κ){y:V}(ry:RelV y u):
  KV (kvs.map λkv=>if kv.1=k then(kv.1,y) else kv) (vs.map λkv=>if kv.1=k then(kv.1,u) else kv):=by
 induction r with
 |nil=>exact .nil
 | @cons p q ps qs h t ih=>
   refine .cons ?_ ih
   grind
theorem KV.put{kvs:List (κ×V)}{vs:List (κ×f_)}(r:KV kvs vs)(k:κ){y:V}(ry:RelV y u):KV (putK kvs k y) (stored vs k u):=by
 unfold putK stored;rw[r.any k];by_cases e:(vs.any λkv=>decide (kv.1=k))=c_
 .rw[if_pos e,if_pos e];exact r.repl k ry
 .rw[if_neg e,if_neg e];exact Paired.snoc r ⟨rfl,ry⟩
theorem KV.length{kvs:List (κ×V)}{vs:List (κ×f_)}(r:KV kvs vs):kvs.length=2#1:=Cc r
end
variable{u:f_}{P:Program}{w:World}
theorem xM{k:Key}(r:RelV (kV k) u):(fN P w).is k u=c_:=by
 cases k with
 |inl i=>obtain⟨t,e⟩:=(r);subst e;exact FW i t
 |inr x=>obtain⟨t,e⟩:=(r);subst e;exact Gi x t
theorem yz{P:Program}{w:World}:∀{ks:List Key}{us:List f_},cX (ks.map kV) us->ItemsAre (fN P w) ks us
 |[],_,r=>by cases r;exact .nil
 | k::ks,_,r=>by
   cases r with
   |cons h t=>exact .cons (xM h) (yz t)
abbrev KT(H:Hp):List (List Key×V)->List (List Key×e_×f_)->Prop:=Paired λp q=>p.1=q.1/\H q.2.1=a_ (.tup (p.1.map kV))/\RelV p.2 q.2.2
variable{H:Hp}{kvs:List (List Key×V)}{xs:List (List Key×e_×f_)}
theorem KT.val(r:KT H kvs xs)(k:List Key):wz (oh kvs k) ((atKey xs k).map (·.2)):=by
 induction r with
 |nil=>exact gI
 | @cons p q ps qs h t ih=>
   obtain⟨h1,_,h2⟩:=h;by_cases e:p.1=k
   .have e':=h1.symm.trans e
    have b:atKey (q::qs) k=a_ q.2:=by simp[atKey,e']
    rw[nT e,b];exact h2
   .have e': ¬q.1=k:=λz=>e (h1.trans z)
    have b:atKey (q::qs) k=atKey qs k:=by simp[atKey,e']
    rw[nD e,b];omega
variable{y:V}
theorem KT.repl(r:KT H kvs xs)(k:List Key)(ry:RelV y u):
  KT H (kvs.map λkv=>if kv.1=k then(kv.1,y) else kv) (xs.map (putAt k u)):=by
 induction r with
 |nil=>exact .nil
 | @cons p q ps qs h t ih=>
   refine .cons ?_ ih;unfold putAt;by_cases e:p.1=k<;>simp_all
variable{b:e_}
theorem KT.put(r:KT H kvs xs)(k:List Key)(hb:H b=a_ (.tup (k.map kV)))(ry:RelV y u):
  KT H (putK kvs k y) (storedH xs k b u):=by
 have e:(kvs.any λkv=>decide (kv.1=k))=(atKey xs k).isSome:=by
  rw[Bg,(r.val k).isSome_eq,uO]
 unfold putK storedH;rw[e];by_cases q:(atKey xs k).isSome=c_
 .rw[if_pos q,if_pos q];exact r.repl k ry
 .rw[if_neg q,if_neg q];exact Paired.snoc r ⟨rfl,hb,ry⟩
variable{H':Hp}
theorem KT.keeps(r:KT H kvs xs)(ht:∀b ys,H b=a_ (.tup ys)->H' b=a_ (.tup ys)):KT H' kvs xs:=
 Paired.mapP r λ_ _ z=>⟨z.1,ht _ _ z.2.1,z.2.2⟩
section
variable {P:Program}{w:World}{H:Hp}{h:Heap}{a:e_}
theorem Mi{u:HO}(ok:HOk P w H h)(e:Rd H a u):ip P w H h a u:=e.ok ok
theorem yx{kvs:List (Key×V)}(ok:HOk P w H h)(e:Rd H a (.dK kvs)):kvs.length<=sizeLine/\(a==sysModules)=d_ /\ ∃vs,KV kvs vs/\h.DictOf (fN P w) a vs:=
 Mi ok e
theorem Mr{kvs:List (Key×V)}(ok:HOk P w H h)(e:H a=a_ (.dK kvs)):kvs.length<=sizeLine/\(a==sysModules)=d_ /\ ∃vs,KV kvs vs/\h.DictOf (fN P w) a vs:=yx ok (.inl e)
theorem wu{ks:List Key}(ok:HOk P w H h)(e:H a=a_ (.tup (ks.map kV))):(tupleKind (fN P w)).is h ks a:=by
 obtain⟨_,ZY,r,⟨o,h1,h2,n,h3⟩,_⟩:=(ok a _ e);exact⟨o,_,n,h1,h2,h3,by simpa using yz r⟩
theorem BG(ok:HOk P w H h)(e:Rd H a (.dT kvs)):kvs.length<=sizeLine/\(a==sysModules)=d_ /\
  ∃xs,KT H kvs xs/\h.DictOfH (tupleKind (fN P w)) a xs:=by
 obtain⟨z,y,xs,r,o,es,ep,h1,h2,h3,h4,h5⟩:=(Mi ok e);refine⟨z,y,xs,r,o,es,ep,h1,h2,h3,h4,λx hx=>?_,h5⟩;have all:∀{l:List _}{m:List _},KT H l m->∀x∈m,(tupleKind (fN P w)).is h x.1 x.2.1:=by
  intro l m q
  induction q with
  |nil=>grind
  | @cons p q ps qs hq t ih=>
    intro x hx;rcases aG.mp hx with e|hx
    .exact wu ok (by simp_all)
    .exact ih x hx
 exact all r x hx
end
def xf(H:Hp)(a:e_)(y:V)(r:Option V):Prop:=
 (∃kvs k,Rd H a (.dK kvs)/\y=kV k/\r=oh kvs k) \/ ∃kvs k b,Rd H a (.dT kvs)/\y=.ref b/\H b=a_ (.tup (k.map kV))/\r=oh kvs k
def Gp(H:Hp)(a:e_)(y v:V)(H':Hp):Prop:=
 (∃kvs k,H a=a_ (.dK kvs)/\y=kV k/\kvs.length<sizeLine/\H'=upd H a (.dK (putK kvs k v))) \/
 ∃kvs k b,H a=a_ (.dT kvs)/\y=.ref b/\H b=a_ (.tup (k.map kV))/\kvs.length<sizeLine/\H'=upd H a (.dT (putK kvs k v))
theorem xf.k{H:Hp}{a:e_}{kvs:List (Key×V)}{k:Key}(e:H a=a_ (.dK kvs)):xf H a (kV k) (oh kvs k):= .inl ⟨kvs,k,.inl e,rfl,rfl⟩
variable{a:e_}
theorem xf.t{k:List Key}(e:H a=a_ (.dT kvs))(eb:H b=a_ (.tup (k.map kV))):xf H a (.ref b) (oh kvs k):= .inr ⟨kvs,k,b,.inl e,rfl,eb,rfl⟩
theorem Gp.k{H:Hp}{a:e_}{kvs:List (Key×V)}{k:Key}{v:V}(e:H a=a_ (.dK kvs))(hl:kvs.length<sizeLine):Gp H a (kV k) v (upd H a (.dK (putK kvs k v))):= .inl ⟨kvs,k,e,rfl,hl,rfl⟩
theorem Gp.t{k:List Key}{v:V}(e:H a=a_ (.dT kvs))(eb:H b=a_ (.tup (k.map kV)))(hl:kvs.length<sizeLine):
  Gp H a (.ref b) v (upd H a (.dT (putK kvs k v))):= .inr ⟨kvs,k,b,e,rfl,eb,hl,rfl⟩
section
variable {X:Cx}{pins:List (e_×Obj)}{σ:St}{H:Hp}{s:g_}{a:e_}{y v:V}{u r:f_}{o:Option V}{A:Around}{E:f_->g_->Prop}
theorem Inv.big(I:Inv X pins σ H s):sysModules<0#6:=aX 0#2 ((I.mod.glob.keeps I.bk).lt)
variable{Q:f_->g_->Prop}
theorem Fx(hu:A.units+1<cLine)(I:Inv X pins σ H s)(g:xf H a y (a_ v))(ry:RelV y u)(h:∀w' s',Inv X pins σ H s'->RelV v w'->Q w' s'):
  aD 1#3 A (getItem (.ref a) u) Q E s:=by
 rcases g with⟨kvs,k,e,ey,l⟩|⟨kvs,k,b,e,ey,eb,l⟩
 .subst ey
  obtain⟨z,hd,vs,rel,dd⟩:=yx I.hok e;obtain⟨w',hw,Zc⟩:=wz.some_of (by rw[l];exact rel.val k);exact wpAny_getItem_of (xM ry) dd.mapOf hw (h w' _ (I.tok _) Zc)
 .subst ey
  cases (ry);obtain⟨z,hd,xs,rel,dd⟩:=BG I.hok e;obtain⟨w',hw,Zc⟩:=wz.some_of (by rw[l];exact rel.val k);obtain⟨p,hp,Xa⟩:=dh.mp hw;refine wpAny_getItem_heap (tupleKind_room_in1 hu) (wu I.hok eb) dd hp ?_;rw[Xa];exact h w' _ (I.tok _) Zc
theorem RZ(hu:A.units+1<cLine)(I:Inv X pins σ H s)(g:xf H a y o)(ry:RelV y u)(h:∀s',Inv X pins σ H s'->Q (.bool o.isSome) s'):
  aD 1#3 A (compareOp .In u (.ref a)) Q E s:=by
 rcases g with⟨kvs,k,e,ey,l⟩|⟨kvs,k,b,e,ey,eb,l⟩
 .subst ey
  obtain⟨z,hd,vs,rel,dd⟩:=yx I.hok e;refine wpAny_in_of (xM ry) hd dd.mapOf ?_;rw[<-(rel.val k).isSome_eq,<-l];exact h _ (I.tok _)
 .subst ey
  cases (ry);obtain⟨z,hd,xs,rel,dd⟩:=BG I.hok e;refine wpAny_in_heap (tupleKind_room_in1 hu) (wu I.hok eb) hd dd ?_;have q:=(rel.val k).isSome_eq;rw[uO]at q;rw[<-q,<-l];exact h _ (I.tok _)
theorem Ld(hu:A.units+1<cLine)(I:Inv X pins σ H s)(g:xf H a y o)(ry:RelV y u)(h:∀s',Inv X pins σ H s'->Q (.bool (!o.isSome)) s'):
  aD 1#3 A (compareOp .NotIn u (.ref a)) Q E s:=by
 rcases g with⟨kvs,k,e,ey,l⟩|⟨kvs,k,b,e,ey,eb,l⟩
 .subst ey
  obtain⟨z,hd,vs,rel,dd⟩:=yx I.hok e;refine wpAny_notIn_of (xM ry) hd dd.mapOf ?_;rw[<-(rel.val k).isSome_eq,<-l];exact h _ (I.tok _)
 .subst ey
  cases (ry);obtain⟨z,hd,xs,rel,dd⟩:=BG I.hok e;refine wpAny_notIn_heap (tupleKind_room_in1 hu) (wu I.hok eb) hd dd ?_;have q:=(rel.val k).isSome_eq;rw[uO]at q;rw[<-q,<-l];exact h _ (I.tok _)
variable{h':Heap}
theorem zH{t':Nat}{ob:HO}(I:Inv X pins σ H s)(mu:Mut (H a))(hs:eT a s.heap h')(he:∃q,h'.get? a=a_ q)(new:ip X.prog X.w (upd H a ob) h' a ob):
  Inv X pins σ (upd H a ob) { s with heap:=h',toks:=t' }:=
 I.write mu (.inl rfl) (λb q hb z=>(hs.2 b hb).trans z) he new
theorem HV{kvs:List (Key×V)}{vs:List (Key×f_)}(z:kvs.length<=sizeLine)(hd:(a==sysModules)=d_)(rel:KV kvs vs)(dd:h'.DictOf (fN P w) a vs):
  ip P w H' h' a (.dK kvs):=⟨z,hd,vs,rel,dd⟩
theorem Fw{Q:Unit->g_->Prop}(hu:A.units+1<cLine)(I:Inv X pins σ H s)(g:Gp H a y v H')(ry:RelV y u)(rv:RelV v r)(h:∀s',Inv X pins σ H' s'->Q () s'):
  aD 1#3 A (setItem (.ref a) u r) Q E s:=by
 rcases g with⟨kvs,k,e,ey,l,eH⟩|⟨kvs,k,b,e,ey,eb,l,eH⟩
 .subst ey eH
  obtain⟨z,hd,vs,rel,dd⟩:=Mr I.hok e;have hz:2#1<=sizeLine:=by rw[<-rel.length];omega
  exact wpAny_setItem_pairs (xM ry) dd λh' WR hs=>h _ (zH I (by rw[e];exact gI) hs (let ⟨q,_,_,hq,_⟩:=WR;⟨q,hq⟩) (HV (by have:=nX kvs k v;exact aK 1#6 0#5) hd (rel.put k rv) WR))
 .subst ey eH
  cases (ry);obtain⟨z,hd,xs,rel,dd⟩:=(BG I.hok (.inl e));have hz:1#2<=sizeLine:=by rw[<-Cc rel];omega
  refine wpAny_setItem_heap (tupleKind_room_in1 hu) (wu I.hok eb) dd λh' WR hs=>h _ ?_;obtain⟨q,es,ep,hq,h2,h3,h4,_,h5⟩:=WR;refine zH I (by rw[e];exact gI) hs ⟨q,hq⟩ ⟨(by have:=nX kvs k v;exact aK 1#6 0#5),hd,_,(rel.put k eb rv).keeps λc ys ec=>?_,q,es,ep,hq,h2,h3,h4,h5⟩;rw[bB (tJ ec e (λz=>nomatch z))];omega
end
section
variable {X:Cx}{pins:List (e_×Obj)}{σ:St}{H:Hp}{s:g_}{a:e_}{kvs:List (Key×V)}{k:Key}{u:f_}{A:Around}{E:f_->g_->Prop}
theorem Iu{Q:f_->g_->Prop}(I:Inv X pins σ H s)(e:Rd H a (.dK kvs))(h :∀ t s',Inv X pins σ H s'->Q (.int kvs.length t) s'):aD 1#3 A (call (.builtin "len") [.ref a]) Q E s:=by
 obtain⟨z,hd,vs,rel,dd⟩:=yx I.hok e;refine call_len_dict hd dd (by rw[<-rel.length];rw[sizeLine_eq]at z;lia) ?_;rw[<-rel.length];exact h _ _ (I.tok _)
end
theorem AG{X:Cx}{pins:List (e_×Obj)}{σ:St}{s:g_}{o:Option V}(I:Inv X pins σ H s)(g:xf H a y o):s.TypeIs (.ref a) "dict":=by
 rcases g with⟨kvs,k,e,_,_⟩|⟨kvs,k,b,e,_,_,_⟩
 .obtain⟨_,_,vs,_,dd⟩:=yx I.hok e
  exact dd.typeIs
 .obtain⟨_,_,xs,_,dd⟩:=BG I.hok e
  exact dd.typeIs
section
variable {X:Cx}{o i e value:Expr}{pos pos' Uu:Pos}{td ty tv:TE}
end
theorem AZ (h:Heap)(hb:sysModules<h.objs.size):ip P w H (h.push { cls := .type "dict",data := .dict #[] }) h.objs.size (.dK []):=
 ⟨bS _,beq_eq_false_iff_ne.mpr (eD (aJ hb)),[],.nil,Heap.DictOf.new h⟩
def MV:TE:=λ_ H Q=>∀p,H p=b_->Q (.ref p) (upd H p (.dK []))
section
variable {X:Cx}{pos:Pos}
theorem GW:PE X (.Dict [] [] pos) MV:=λpins s σ H Q I h=>
 wpAny_Dict_empty ⟨.ref _,_,I.laid (λ_ _ q=>af _ q) (ak _) (AZ _ I.big),rfl,h _ (I.hok.fresh (ak _))⟩
end
def Ds:List (TE×TE)->St->Hp->(List (V×V)->Hp->Prop)->Prop
 |[],_,H,Q=>Q [] H
 |(tk,tv)::r,σ,H,Q=>tk σ H λx H1=>tv σ H1 λy H2=>Ds r σ H2 λps H3=>Q ((x,y)::ps) H3
abbrev VV:List (V×V)->List (f_×f_)->Prop:=Paired λp q=>RelV p.1 q.1/\RelV p.2 q.2
def PPs(X:Cx)(pos:Pos)(keys:List (Option Expr))(values:List Expr)(WC:List (TE×TE)):Prop:=
 ∀(pins:List (e_×Obj)) (s:g_) (σ:St) (H:Hp) (Q:List (V×V)->Hp->Prop),Inv X pins σ H s->Ds WC σ H Q ->
  aD 1#3 X.A (evalPairs (pairTrees keys values X.env pos)) (λvs s'=>∃ps H',Inv X pins σ H' s'/\VV ps vs/\Q ps H') X.xe s
theorem GX{X:Cx}{pos:Pos}{k v:Expr}{ks:List (Option Expr)}{vs:List Expr}{tk tv:TE}{WC:List (TE×TE)}(hk:PE X k tk)(hv:PE X v tv)(hr:PPs X pos ks vs WC):
  PPs X pos (a_ k::ks) (v::vs) ((tk,tv)::WC):=λpins s σ H Q I h=>
 pairTrees_cons_walk (thn (hk _ s σ H _ I h) λu s1 ⟨x,H1,I1,rx,q1⟩=>thn (hv _ s1 σ H1 _ I1 q1) λw2 s2 ⟨y,H2,I2,ry,q2⟩=>
  thn (hr _ s2 σ H2 _ I2 q2) λws s3 ⟨ps,H3,I3,rel,q3⟩=>⟨_,H3,I3,.cons ⟨rx,ry⟩ rel,q3⟩)
def sk(kvs more:List (Key×V)):List (Key×V):=more.foldl (λacc kv=>putK acc kv.1 kv.2) kvs
theorem KV.merge:∀{more:List (Key×V)}{rs:List (Key×f_)}{kvs:List (Key×V)}{vs:List (Key×f_)},KV more rs->KV kvs vs->KV (sk kvs more) (merged vs rs):=by
 intro more rs kvs vs r
 induction r generalizing kvs vs with
 |nil=>intro q;exact q
 | @cons p q ps qs h t ih=>
   intro r0;have e:KV (putK kvs p.1 p.2) (stored vs q.1 q.2):=by
    have:=r0.put p.1 h.2<;>simp_all
   exact ih e
theorem pK:∀(more kvs:List (Key×V)),(sk kvs more).length<=kvs.length+more.length
 |[],kvs=>ak _
 | p::r,kvs=>by
   have h1:=pK r (putK kvs p.1 p.2);have h2:=nX kvs p.1 p.2;show(sk _ r).length<=_
   grind
theorem wa{P:Program}{w:World}:∀{kvs:List (Key×V)}{ws:List (f_×f_)},VV (kvs.map λkv=>(kV kv.1,kv.2)) ws->∃rs,Carries (fN P w) ws rs/\KV kvs rs
 |[],_,r=>by cases r;exact⟨[],gI,.nil⟩
 | p::kvs,_,r=>by
   cases r with
   | @cons a b as bs h t=>
     obtain⟨rs,c,q⟩:=wa t;obtain⟨b1,b2⟩:=b;exact⟨(p.1,b2)::rs,⟨xM h.1,rfl,c⟩,.cons ⟨rfl,h.2⟩ q⟩
def Pm(WC:List (TE×TE)):TE:=λσ H Q=>∀p,H p=b_->Ds WC σ (upd H p (.dK [])) λps H2=>H2 p=a_ (.dK []) /\ ∃kvs:List (Key×V),ps=kvs.map (λkv=>(kV kv.1,kv.2))/\kvs.length<=15/\Q (.ref p) (upd H2 p (.dK (sk [] kvs)))
structure M1(X:Cx)(o:Expr)(m:Str)(apos:Pos)(e:Expr)(cpos:Pos):Prop where
 base:attributeBase o m X.env (eval o X.env)=eval o X.env
 few:((backTo cpos (starEach [e] X.env)).all (λx => !x.1)&&(backToKw cpos (keywordEach [] X.env)).all (λx=>x.1.isSome)
  && decide (([e]:List Expr).length+([]:List Keyword).length+(if ([]:List Keyword).isEmpty then 0 else 1)<30))=c_
 line:(apos.endLine==cpos.line)=c_
 trees:backTo cpos (starEach [e] X.env)=[(d_,eval e X.env)]
structure M2(X:Cx)(o:Expr)(m:Str)(apos:Pos)(e f:Expr)(cpos:Pos):Prop where
 base:attributeBase o m X.env (eval o X.env)=eval o X.env
 few:((backTo cpos (starEach [e,f] X.env)).all (λx => !x.1)&&(backToKw cpos (keywordEach [] X.env)).all (λx=>x.1.isSome)
  && decide (([e,f]:List Expr).length+([]:List Keyword).length+(if ([]:List Keyword).isEmpty then 0 else 1)<30))=c_
 line:(apos.endLine==cpos.line)=c_
 trees:backTo cpos (starEach [e,f] X.env)=[(d_,eval e X.env),(d_,eval f X.env)]
section
variable {X:Cx}{pins:List (e_×Obj)}{σ:St}{H:Hp}{s:g_}{a:e_}{y d:V}{u r:f_}{o:Option V}{A:Around}{E:f_->g_->Prop}
end
section
variable {X:Cx}{o e f:Expr}{apos cpos:Pos}{td ty tx:TE}
end
section
variable {X:Cx}{pins:List (e_×Obj)}{σ:St}{H:Hp}{s:g_}{a:e_}{kvs:List (Key×V)}{A:Around}{E:f_->g_->Prop}
end
section
variable {X:Cx}{pins:List (e_×Obj)}{σ:St}{H:Hp}{s:g_}{a:e_}{y:V}{u:f_}{A:Around}{E:f_->g_->Prop}
end
section
variable {X:Cx}
theorem FL:jg X (.builtin "len") (fun xs H Q=>∃ a kvs,xs=[V.ref a]/\H a=a_ (.dK kvs)/\Q (.int kvs.length) H):=by
 intro pins s σ H xs us Q I r h;obtain⟨a,kvs,rfl,ha,q⟩:=h;obtain⟨u,rfl,ru⟩:=vals1 r;cases ru;exact Iu I (.inl ha) λt s' I'=>⟨.int _,H,I',⟨t,rfl⟩,q⟩
end
section
variable {κ:Type} [DecidableEq κ]
end
end _L
namespace PySem
open Sem (wp)
def nA(env:Env):List (Str×NameKind)->List (Str×e_)->List (Str×e_)
 |[],acc=>acc
 |(n,k)::r,acc=>if k==.free then nA env r ((n,(env.cells.lookup n).getD 0)::acc) else nA env r acc
variable{env:Env}
theorem mU{scope:Scope}(h:∀y∈scope.names,y.2=.free->∃c,env.cells.lookup y.1=a_ c):closureFor scope env=pure (nA env scope.names []):=by
 have go:∀(names:List _) (acc:List _),(∀y∈names,y.2=.free->∃c,env.cells.lookup y.1=a_ c) ->
   (forIn names acc λx r=>if (x.2==br)=c_ then cellOf env x.1 >>= λa=>pure (fB ((x.1,a)::r)) else pure (fB r))=pure (nA env names acc):=by
  intro names
  induction names with
  |nil=>intro acc _;rfl
  | cons y r ih=>
    intro acc hy;obtain⟨n,k⟩:=y;by_cases hk:k=.free
    .subst hk
     obtain⟨c,hc⟩:=hy _ bX rfl;have e1:cellOf env n=pure c:=by unfold cellOf;rw[hc]
     have e2:nA env ((n,br)::r) acc=nA env r ((n,c)::acc):=by
      show(if (br==br)=c_ then _ else _)=_<;>simp_all
     simp_all
    .have e2:nA env ((n,k)::r) acc=nA env r acc:=by
      show(if (k==br)=c_ then _ else _)=_<;>simp_all
     simp_all
 exact(congrArg (λz=>z >>= pure) (go _ [] h)).trans rfl
theorem q9{env:Env}:∀(names:List (Str×NameKind)) (acc:List (Str×e_)),(∀y∈names,y.2=.free->∃c,env.cells.lookup y.1=a_ c)->∀x c,(nA env names acc).lookup x=a_ c->env.cells.lookup x=a_ c\/acc.lookup x=a_ c
 |[],_,_,_,_,h=>.inr h
 | (n,k)::r,acc,hy,x,c,h=>by
   unfold nA at h
   split at h
   .rename_i hk
    have YM:=by simpa using hk
    subst YM;obtain⟨d,hd⟩:=hy _ bX rfl;rcases q9 r _ (λz hz=>hy z (aB _ hz)) x c h with e |e<;>grind
   .exact q9 r _ (λz hz=>hy z (aB _ hz)) x c h
theorem qK{env:Env}{x:Str}:∀(names:List (Str×NameKind)) (acc:List (Str×e_)),(names.lookup x=a_ .free\/(acc.lookup x).isSome=c_)->((nA env names acc).lookup x).isSome=c_
 |[],_,h=>h.elim (λe=>by cases e) id
 | (y,k)::r,acc,h=>by
   unfold nA;by_cases hk:(k==.free)=c_
   .rw[if_pos hk]
    refine qK r _ ?_<;>grind
   .rw[if_neg hk]
    refine qK r _ ?_<;>grind
theorem gm:∀(names:List (Str×NameKind)) (n:Nat) (acc:List (Str×e_)),cellsFrom n names acc=cellsFrom n names []++acc
 |[],_,_=>rfl
 | (y,k)::r,n,acc=>by
   unfold cellsFrom
   split
   .rw[gm r _ _,gm r _ [(y,n)],bz];rfl
   .exact gm r n _
theorem k9{x:Str}:∀(names:List (Str×NameKind)) (n:Nat) (acc:List (Str×e_)) (c:e_),(cellsFrom n names acc).lookup x=a_ c->(∃k∈names,k.1=x/\k.2=.cell)\/acc.lookup x=a_ c
 |[],_,_,_,h=>.inr h
 | (y,k)::r,n,acc,c,h=>by
   unfold cellsFrom at h
   split at h
   .rcases k9 r _ _ c h with⟨z,hz,e⟩|e
    .exact .inl ⟨z,aB _ hz,e⟩
    .rw[dy]at e
     cases hb:x==y<;>simp_all
   .rcases k9 r _ _ c h with⟨z,hz,e⟩|e
    .exact .inl ⟨z,aB _ hz,e⟩
    .exact .inr e
section
variable {M:Model}{A:Around}{E:f_->g_->Prop}{s:g_}
theorem qC{scope:Scope}{globals:e_}{cl:List (Str×e_)}{qual:Str}{Q:Env->g_->Prop}
  (hQ:Q { scope:=scope,locals:=s.heap.objs.size,globals:=globals,cells:=cellsFrom (s.heap.objs.size+1) scope.names cl,qual:=qual,func:=b_,code:=env.code,frame:=env.frame,builtins:=env.builtins }
   { s with heap:=pushCells (s.heap.push { cls := .type "dict",data := .dict #[] }) scope.names }) :
  aD M A (newFunctionEnv scope globals cl [] qual b_ .none (a_ env)) Q E s:=by
 refine ab (wpAny_alloc ?_);refine ab (wpAny_layCells _ (λname kind cells=>by grind) _ _ _ _ ?_);rw[bE ..];exact aj hQ
end
section
variable {prog:Program}{w:World}{A:Around}{R:Result->g_->Prop}{s:g_}
theorem oi{elt target iter:Expr}{ifs:List Expr}{scope:Scope}{pos:Pos}{it acc:f_}(I:Nat->g_->Prop)
  (turn: ∀n s,I n s->aD 1#5 A (pyNext it) (λr ZV=>match r with
   |none=>R (.ok .next) ZV
   | some v=>aD 1#5 A (letOwnedTupleGo target it v) (λ_ ZV=>aD 1#5 A (assign target env v) (λ_ ZX=>
     aD 1#5 A (forIn ifs c_ λc r=>if r=c_ then do let ok <- isTrue c env (eval c env);pure (fB ok) else pure (fB r)) (λok YJ=>
      if ok=c_ then aD 1#5 A (eval elt env) (λx XI=>
       aD (model prog w) A (call (.builtin "list.append") [acc,x]) (fun _ VB => ∃ m,m < n/\I m VB) (fun _ _=>False) XI) (fun _ _=>False) YJ
      else ∃m,m<n/\I m YJ) (λ_ _=>False) ZX) (λ_ _=>False) ZV) (λ_ _=>False) ZV) (λ_ _=>False) s)
  (n:Nat) (h:I n s):
  pM 1#5 A (.compLoop (.ListComp elt [⟨target,iter,ifs,0⟩] scope pos) 0 it acc env) R s:=by
 refine codeAny_loop rfl I (λn s hI=>?_) n h;refine wpAny_noted ?_;rw[compTurn_list];refine ab (wpAny_standAt (ab (dv (turn n s hI) (λr ZV YV=>?_) λ_ _ h'=>h'.elim)));cases r with
 |none=>exact aj YV
 | some v=>
   refine ab (dv YV (λ_ ZV YV=>?_) λ_ _ h'=>h'.elim);refine ab (dv YV (λ_ ZX WK=>ab (dv WK (λok YJ W'=>?_) λ_ _ h'=>h'.elim)) λ_ _ h'=>h'.elim);cases ok with
   |false=>exact aj ⟨rfl,W'⟩
   | true=>
     exact ab (ab (dv W' (λx XI Wa=>ab (dv Wa (λ_ VB YO=>aj (aj ⟨rfl,YO⟩)) λ_ _ h'=>h'.elim)) λ_ _ h'=>h'.elim))
end
end PySem
namespace _G
open PySem
inductive U where
 |non |bl (b:Bool) |int (i:Int) |str (x:Str) |tup (us:List U) |ref (n:Nat) |obj (a:e_)
 deriving Inhabited
inductive Cell where
 |lst (us:List U)
 |frz (us:List U)
 |dic (kvs:List (_L.Key×U))
 |dit (f:Bool) (kvs:List (List _L.Key×U))
 deriving Inhabited
abbrev Sto:=List Cell
abbrev Rho:=List (Option U)
abbrev Res(α:Type):=Option (α×Sto)
abbrev ME:=Rho->Sto->Res U
abbrev MT:=Rho->Sto->Res Bool
abbrev MA:=Rho->Sto->Res (List U)
abbrev MF:=List U->Sto->Res U
def bnd{α β:Type}(r:Option (α×Sto))(k:α->Sto->Option β):Option β:=match r with
 |none=>b_
 |some p=>k p.1 p.2
theorem aF{α β:Type}{a:α}{S:Sto}{k:α->Sto->Option β}:bnd (a_ (a,S)) k=k a S:=rfl
theorem be{α β:Type}{r:Option (α×Sto)}{k:α->Sto->Option β}{b:β}(h:bnd r k=a_ b):∃a S,r=a_ (a,S)/\k a S=a_ b:=by
 cases r with
 |none=>cases h
 |some p=>exact⟨_,_,rfl,h⟩
def big:Nat:=16777216
def getL(S:Sto)(n:Nat):Option (List U):=match S[n]? with
 |some (.lst us)=>a_ us
 |some (.frz us)=>a_ us
 |some (.dic _)=>b_
 |some (.dit _ _)=>b_
 |none=>b_
def cut{α:Type}(xs:List α)(lo hi:Option Int):List α:=(xs.drop (HT.sIx xs.length 0 lo)).take (HT.sIx xs.length xs.length hi-HT.sIx xs.length 0 lo)
abbrev F2:=U->U->Sto->Res U
def eQ:F2:=λx y S=>match x,y with
 |.int i,.int j=>a_ (.int (i+j),S)
 |.tup xs,.tup ys=>if 1#2+ys.length<=big then a_ (.tup (xs++ys),S) else b_
 |_,_=>b_
def xw:F2:=λx y S=>match x,y with
 |.int i,.int j=>a_ (.int (i-j),S)
 |_,_=>b_
def lD(i j:Int):Prop:=(-(2^64)<i/\i<2^64)\/(-(2^64)<j/\j<2^64)
instance(i j:Int):Decidable (lD i j):=ck _
def EV(n:Nat)(k:Int):Prop:=0<=k/\k<1000/\0<n/\n<1000
instance(n:Nat)(k:Int):Decidable (EV n k):=ck _
def iB:F2:=λx y S=>match x,y with
 |.int i,.int j=>if lD i j then a_ (.int (i*j),S) else b_
 |.tup xs,.int k=>if EV xs.length k then a_ (.tup (aS k.toNat xs).flatten,S) else b_
 |_,_=>b_
def yr(j:Int):Prop:=0<j/\j<1073741824
instance(j:Int):Decidable (yr j):=ck _
def oDiv:F2:=λx y S=>match x,y with
 |.int i,.int j=>if yr j then a_ (.int (i/j),S) else b_
 |_,_=>b_
def oMod:F2:=λx y S=>match x,y with
 |.int i,.int j=>if 0<j then a_ (.int (i%j),S) else b_
 |_,_=>b_
def LK(i j:Int):Prop:=0<=j/\j<=1000000/\i.natAbs<2^64
instance(i j:Int):Decidable (LK i j):=ck _
def FP:F2:=λx y S=>match x,y with
 |.int i,.int j=>if LK i j then a_ (.int (i^j.toNat),S) else b_
 |_,_=>b_
def FE(p:Int->Int->Bool):F2:=λx y S=>match x,y with
 |.int i,.int j=>a_ (.bl (p i j),S)
 |_,_=>b_
abbrev oLt:F2:=FE λi j=>decide (i<j)
abbrev oLe:F2:=FE λi j=>decide (i<=j)
abbrev oGt:F2:=FE λi j=>decide (j<i)
abbrev oGe:F2:=FE λi j=>decide (j<=i)
def eA(S:Sto):U->Option (List U)
 |.tup us=>a_ us
 |.ref n=>getL S n
 |_=>b_
def dG{α β:Type}(f:α->Option β):List α->Option (List β)
 |[]=>a_ []
 |x::xs=>(f x).bind λy=>(dG f xs).map λys=>y::ys
def toD(S:Sto):Nat->U->Option PyData
 |0,_=>b_
 |_+1,.non=>a_ .none
 |_+1,.bl b=>a_ (.bool b)
 |_+1,.int i=>a_ (.int i)
 |_+1,.str x=>if jG (.str x)=c_ then a_ (.str x) else b_
 |f+1,.tup us=>(dG (toD S f) us).map .tuple
 |f+1,.ref n=>(getL S n).bind λus=>(dG (toD S f) us).map .list
 |_+1,.obj _=>b_
def eqU(S:Sto)(x y:U):Option Bool:=(toD S 40 x).bind λa=>(toD S 40 y).map λb=>oU a b
def oEq:F2:=λx y S=>(eqU S x y).map λb=>(.bl b,S)
def oNe:F2:=λx y S=>(eqU S x y).map λb=>(.bl (!b),S)
def keyOf:U->Option _L.Key
 |.int i=>a_ (.inl i)
 |.str x=>a_ (.inr x)
 |_=>b_
def j0{κ:Type}[DecidableEq κ](kvs:List (κ×U))(k:κ):Option U:=(kvs.find? λkv=>decide (kv.1=k)).map (·.2)
def nu{κ:Type}[DecidableEq κ](kvs:List (κ×U))(k:κ)(u:U):List (κ×U):=
 if (kvs.any λkv=>decide (kv.1=k))=c_ then kvs.map (λkv=>if kv.1=k then(kv.1,u) else kv) else kvs++[(k,u)]
def gO(S:Sto):U->Option (List (_L.Key×U))
 | .ref n=>match S[n]? with
   |some (.dic kvs)=>a_ kvs
   |_=>b_
 |_=>b_
def oIx:F2:=λx y S=>match gO S x with
 |some kvs=>(keyOf y).bind λk=>(j0 kvs k).map λu=>(u,S)
 | none=>match y with
   |.int i=>((eA S x).bind λus=>_L.atI us i).map λu=>(u,S)
   |_=>b_
def ae(i:Nat):ME:=λG S=>match G[i]? with
 |some (a_ u)=>a_ (u,S)
 |_=>b_
def mC(u:U):ME:=λ_ S=>a_ (u,S)
def m1(f:U->Sto->Res U)(a:ME):ME:=λG S=>bnd (a G S) λx S1=>f x S1
def m2(f:F2)(a b:ME):ME:=λG S=>bnd (a G S) λx S1=>bnd (b G S1) λy S2=>f x y S2
def ah:MA:=λ_ S=>a_ ([],S)
def aa(a:ME)(r:MA):MA:=λG S=>bnd (a G S) λx S1=>bnd (r G S1) λxs S2=>a_ (x::xs,S2)
def iU(a:MA):ME:=λG S=>bnd (a G S) λxs S1=>if 1#2<=big then a_ (.tup xs,S1) else b_
def dN(a:MA):ME:=λG S=>bnd (a G S) λxs S1=>if 1#2<=big then a_ (.ref S1.length,S1++[.lst xs]) else b_
def mFn(f:MF)(a:MA):ME:=λG S=>bnd (a G S) λxs S1=>f xs S1
def mn:U->Sto->Res U:=λx S=>match x with
 |.int i=>a_ (.int (-i),S)
 |_=>b_
def Da(c:MT)(a b:ME):ME:=λG S=>bnd (c G S) λk S1=>if k then a G S1 else b G S1
def Bo:Option ME->Rho->Sto->Res (Option Int)
 |none=>λ_ S=>a_ (b_,S)
 | some a=>λG S=>bnd (a G S) λx S1=>match x with
   |.int i=>a_ (a_ i,S1)
   |_=>b_
def mSl(a:ME)(lo hi:Option ME):ME:=λG S=>bnd (a G S) λx S1=>bnd (Bo lo G S1) λl S2=>bnd (Bo hi G S2) λh S3=>match x with
 |.tup us=>a_ (.tup (cut us l h),S3)
 |.ref n=>(getL S3 n).map λus=>(.ref S3.length,S3++[.lst (cut us l h)])
 |_=>b_
def cOf(a:ME):MT:=λG S=>bnd (a G S) λx S1=>match x with
 |.bl b=>a_ (b,S1)
 |_=>b_
def pe(a b:MT):MT:=λG S=>bnd (a G S) λk S1=>if k then b G S1 else a_ (d_,S1)
def cOr(a b:MT):MT:=λG S=>bnd (a G S) λk S1=>if k then a_ (c_,S1) else b G S1
def IE(a:MT):MT:=λG S=>bnd (a G S) λk S1=>a_ (!k,S1)
def cTT:MT:=λ_ S=>a_ (c_,S)
inductive Src where
 |imm (us:List U)
 |mut (n:Nat)
 |enl (n:Nat)
 |zlt (n:Nat) (us:List U)
 |zpt (us vs:List U)
abbrev MI:=Rho->Sto->Option (Src×Sto)
def okR(i:Int):Prop:= -(2^62)<=i/\i<2^62
instance(i:Int):Decidable (okR i):=ck _
def bI(i:Int)(n:Nat):List U:=(ao n).map λ(k:Nat)=>.int (i+k)
def iR1(a:MA):MI:=λG S=>bnd (a G S) λxs S1=>match xs with
 |[.int j]=>if okR j then a_ (.imm (bI 0 j.toNat),S1) else b_
 |_=>b_
def iR2(a:MA):MI:=λG S=>bnd (a G S) λxs S1=>match xs with
 |[.int i,.int j]=>if okR i/\okR j then a_ (.imm (bI i (j-i).toNat),S1) else b_
 |_=>b_
def dq(a:ME):MI:=λG S=>bnd (a G S) λx S1=>match x with
 |.tup us=>a_ (.imm us,S1)
 |.ref n=>(getL S1 n).map λ_=>(.mut n,S1)
 |_=>b_
def Dj(a:MA):MI:=λG S=>bnd (a G S) λxs S1=>match xs with
 |[.tup us]=>a_ (.imm us.reverse,S1)
 |_=>b_
def CM(a:MA):MI:=λG S=>bnd (a G S) λxs S1=>match xs with
 |[.ref n,.tup us]=>(getL S1 n).map λ_=>(.zlt n us,S1)
 |[.tup us,.tup vs]=>a_ (.zpt us vs,S1)
 |_=>b_
def jV(t:MT)(e:ME)(G:Rho):List U->List U->Sto->Res (List U)
 |[],acc,S=>a_ (acc,S)
 |x::xs,acc,S=>bnd (t (G++[a_ x]) S) λk S1=>if k then bnd (e (G++[a_ x]) S1) λy S2=>jV t e G xs (acc++[y]) S2 else jV t e G xs acc S1
def kW(t:MT)(e:ME)(G:Rho)(n:Nat):Nat->Nat->List U->Sto->Res (List U)
 |0,_,_,_=>b_
 | f+1,i,acc,S=>(getL S n).bind λus=>match us[i]? with
   |none=>a_ (acc,S)
   |some x=>bnd (t (G++[a_ x]) S) λk S1=>if k then bnd (e (G++[a_ x]) S1) λy S2=>kW t e G n f (i+1) (acc++[y]) S2 else kW t e G n f (i+1) acc S1
def fuel:Nat:=100000
def Bm(t:MT)(e:ME)(G:Rho):Src->Sto->Res (List U)
 |.imm us,S=>jV t e G us [] S
 |.mut n,S=>kW t e G n fuel 0 [] S
 |_,_=>b_
def bY(it:MI)(t:MT)(e:ME):ME:=λG S=>bnd (it G S) λsrc S1=>bnd (Bm t e G src S1) λys S2=>if ys.length<big then a_ (.ref S2.length,S2++[.lst ys]) else b_
inductive Fl where
 |nx |rt (u:U) |bk |ct
abbrev MS:=Rho->Sto->Option (Fl×Rho×Sto)
def dE:MS:=λG S=>a_ (.nx,G,S)
def aY(a b:MS):MS:=λG S=>match a G S with
 |some (.nx,Y5,S1)=>b Y5 S1
 |r=>r
def bC(i:Nat)(e:ME):MS:=λG S=>bnd (e G S) λx S1=>a_ (.nx,G.set i (a_ x),S1)
def gv(o i e:ME):MS:=λG S=>bnd (e G S) λx S1=>bnd (o G S1) λp S2=>bnd (i G S2) λj S3=>match p with
 | .ref n=>match S3[n]? with
   | some (.lst us)=>(match j with
     |.int k=>(_L.ixN us.length k).map λm=>(.nx,G,S3.set n (.lst (us.set m x)))
     | _=>b_)
   |some (.dic kvs)=>(keyOf j).bind λk=>if kvs.length<big then a_ (.nx,G,S3.set n (.dic (nu kvs k x))) else b_
   |_=>b_
 |_=>b_
def eJ(e:ME):MS:=λG S=>bnd (e G S) λ_ S1=>a_ (.nx,G,S1)
def cn(e:ME):MS:=λG S=>bnd (e G S) λx S1=>a_ (.rt x,G,S1)
def sIf(c:MT)(a b:MS):MS:=λG S=>bnd (c G S) λk S1=>if k then a G S1 else b G S1
def aft(r:Option (Fl×Rho×Sto))(k:MS):Option (Fl×Rho×Sto):=match r with
 |some (.nx,Y5,S1)=>k Y5 S1
 |some (.ct,Y5,S1)=>k Y5 S1
 |some (.bk,Y5,S1)=>a_ (.nx,Y5,S1)
 |r=>r
def vd(i:Nat)(b:MS):List U->MS
 |[],G,S=>a_ (.nx,G,S)
 |x::xs,G,S=>aft (b (G.set i (a_ x)) S) (vd i b xs)
def forL(i:Nat)(b:MS)(n:Nat):Nat->Nat->MS
 |0,_,_,_=>b_
 | f+1,k,G,S=>(getL S n).bind λus=>match us[k]? with
   |none=>a_ (.nx,G,S)
   |some x=>aft (b (G.set i (a_ x)) S) (forL i b n f (k+1))
def RY(i:Nat)(b:MS):Src->MS
 |.imm us=>vd i b us
 |.mut n=>forL i b n fuel 0
 |_=>λ_ _=>b_
def fv(i:Nat)(it:MI)(b:MS):MS:=λG S=>bnd (it G S) λsrc S1=>RY i b src G S1
def whl(c:MT)(b:MS):Nat->MS
 |0,_,_=>b_
 |f+1,G,S=>bnd (c G S) λk S1=>if k then aft (b G S1) (whl c b f) else a_ (.nx,G,S1)
def nS(c:MT)(b:MS):MS:=whl c b fuel
def run(k n:Nat)(b:MS):MF:=λus S=>if 1#1=k then match b (us.map a_++aS (n-k) b_) S with
  |some (.rt u,_,S1)=>a_ (u,S1)
  |some (.nx,_,S1)=>a_ (.non,S1)
  |_=>b_
 else b_
def cp:MF:=λus S=>match us with
 | [x]=>(match gO S x with
   |some kvs=>a_ (.int kvs.length,S)
   | none=>(eA S x).map λxs=>(.int xs.length,S))
 |_=>b_
def bQ:MF:=λus S=>match us with
 |[x]=>(eA S x).map λxs=>(.tup xs,S)
 |_=>b_
def xZ:MF:=λus S=>match us with
 |[x]=>(eA S x).map λxs=>(.ref 0#7,S++[.lst xs])
 |_=>b_
def AU:MF:=λus S=>match us with
 |[.int i,.int j]=>a_ (.int (if j>i then j else i),S)
 |_=>b_
def A8:U->Option Int
 |.int i=>a_ i
 |_=>b_
def pG:U->Option (List Int)
 |.tup us=>dG A8 us
 |_=>b_
def zU:MF:=λus S=>match us with
 |[.int i,.int j]=>a_ (.int (if j<i then j else i),S)
 |_=>b_
def jm(it:MI):ME:=λG S=>bnd (it G S) λsrc S1=>match src with
 |.imm us=>if 1#1<=big then a_ (.ref S1.length,S1++[.lst us]) else b_
 |_=>b_
def Bu(it:MI):ME:=λG S=>bnd (it G S) λsrc S1=>match src with
 |.imm us=>if 1#1<=big then a_ (.tup us,S1) else b_
 |_=>b_
def tyU(S:Sto):U->Option String
 |.non=>a_ "NoneType"
 |.bl _=>a_ "bool"
 |.int _=>a_ "int"
 |.str _=>a_ "str"
 |.tup _=>a_ "tuple"
 | .ref n=>match S[n]? with
   |some (.lst _)=>a_ "list"
   |some (.dic _)=>a_ "dict"
   |_=>b_
 |.obj _=>b_
def OJ(d:PyData):Prop:=d.showable=c_/\d.shown.length<=sizeLine
instance(d:PyData):Decidable (OJ d):=ck _
def Kg(t T:String):Bool:=t==T||(t == "bool"&&T == "int")
def r9(T:String):U->Sto->Res U:=λx S=>(tyU S x).map λt=>(.bl (Kg t T),S)
def mML(f:Nat->List U->Sto->Res U)(o:ME)(a:MA):ME:=λG S=>bnd (o G S) λp S1=>match p with
 |.ref n=>(getL S1 n).bind λ_=>bnd (a G S1) λxs S2=>f n xs S2
 |_=>b_
def de:Nat->List U->Sto->Res U:=λn xs S=>match xs with
 | [x]=>match S[n]? with
   |some (.lst us)=>if 1#1<big then a_ (.non,S.set n (.lst (us++[x]))) else b_
   |_=>b_
 |_=>b_
def nq:Nat->List U->Sto->Res U:=λn xs S=>match xs with
 | [.int i]=>match S[n]? with
   |some (.lst us)=>if okR i then(_L.ixN us.length i).bind λj=>us[j]?.map λy=>(y,S.set n (.lst (us.eraseIdx j))) else b_
   |_=>b_
 |_=>b_
def Bz:Nat->List U->Sto->Res U:=λn xs S=>match xs with
 | []=>match S[n]? with
   |some (.lst us)=>us[1#1-1]?.map λy=>(y,S.set n (.lst us.dropLast))
   |_=>b_
 |_=>b_
def mMT(f:List U->List U->Sto->Res U)(o:ME)(a:MA):ME:=λG S=>bnd (o G S) λp S1=>match p with
 |.tup us=>bnd (a G S1) λxs S2=>f us xs S2
 |_=>b_
end _G
namespace _L
open PySem PySem.Spec PyProof.Rows
def blk(X:Cx)(N':List Str)(scope:Scope)(ZX:g_)(ZT:Hp)(fp:List e_):Cx:=
 { X with
  N:=N'
  s₀:=ZX
  H₀:=ZT
  env:={ scope:=relabel scope X.env,locals:=ZX.heap.objs.size+1,globals:=X.env.globals,cells:=cellsFrom (ZX.heap.objs.size+2) scope.names (nA X.env scope.names []),qual:=X.env.qual,func:=b_,code:=X.env.code,frame:=X.env.frame,builtins:=X.env.builtins }
  outer:=X.stack
  ex:=fp
  fn:=λx=>scope.names.lookup x==a_ .cell
  pn:= []
  xe:=λ_ _=>False }
structure k8(X:Cx)(N':List Str)(scope:Scope)(xs:List Str):Prop where
 kind:scope.kind=.function
 nd:(scope.names.map (·.1)).Nodup
 free:∀y∈scope.names,y.2=.free->X.env.kindOf y.1=a_ .cell\/X.env.kindOf y.1=a_ .free
 own:∀x∈xs,scope.names.lookup x=a_ .local\/scope.names.lookup x=a_ .cell
 ndN:N'.Nodup
 len:N'.length=X.N.length+xs.length
 last:∀(j:Nat) (x:Str),xs[j]?=a_ x->N'[X.N.length+j]?=a_ x
 vis:∀(i:Nat) (y:Str),i<X.N.length->N'[i]?=a_ y->(scope.names.lookup y=a_ .local\/scope.names.lookup y=a_ .cell\/scope.names.lookup y=a_ .free)->X.N[i]?=a_ y/\scope.names.lookup y=a_ .free
theorem i6{env:Env}:∀{names:List (Str×NameKind)}{x:Str}{k:NameKind},
  (names.map λ(n,k)=>if (k==br&&env.scope.kind==.function&&env.kindOf n==a_ .cell) then(n,eO) else(n,k)).lookup x=a_ k ->
  names.lookup x=a_ k\/(names.lookup x=a_ .free/\k=.cell)
 |[],_,_,h=>by simp at h
 | (n,k')::r,x,k,h=>by
   have ih:= @i6 env r x k;have h':J3 x ((if (k'==br&&env.scope.kind==.function&&env.kindOf n==a_ _)=c_ then(n,eO) else(n,k'))::(r.map _))=a_ k:=h;by_cases hc:(k'==br&&env.scope.kind==.function&&env.kindOf n==a_ .cell)=c_
   .rw[if_pos hc]at h'
    rw[dy]at h' ⊢;cases hx:x==n<;>simp_all
   .rw[if_neg hc]at h'
    rw[dy]at h' ⊢;cases hx:x==n<;>simp_all
theorem mH{env:Env}:∀{names:List (Str×NameKind)}{x:Str},names.lookup x=a_ .cell ->
  (names.map λ(n,k)=>if (k==br&&env.scope.kind==.function&&env.kindOf n==a_ .cell) then(n,eO) else(n,k)).lookup x=a_ .cell
 |[],_,h=>by simp at h
 | (n,k')::r,x,h=>by
   have ih:= @mH env r x
   grind
theorem mE{env:Env}:∀{names:List (Str×NameKind)}{x:Str},names.lookup x=a_ .free ->
  (names.map λ(n,k)=>if (k==br&&env.scope.kind==.function&&env.kindOf n==a_ .cell) then(n,eO) else(n,k)).lookup x=a_ .cell \/
  (names.map λ(n,k)=>if (k==br&&env.scope.kind==.function&&env.kindOf n==a_ .cell) then(n,eO) else(n,k)).lookup x=a_ .free
 |[],_,h=>by simp at h
 | (n,k')::r,x,h=>by
   have ih:= @mE env r x;show J3 x ((if (k'==br&&env.scope.kind==.function&&env.kindOf n==a_ _)=c_ then(n,eO) else(n,k'))::_)=_\/J3 x ((if (k'==br&&env.scope.kind==.function&&env.kindOf n==a_ _)=c_ then(n,eO) else(n,k'))::_)=_;rw[dy]at h;by_cases hc:(k'==br&&env.scope.kind==.function&&env.kindOf n==a_ .cell)=c_
   .rw[if_pos hc]
    cases hx:x==n with
    |true=>exact .inl (by simp[dy,hx])
    | false=>
      rw[hx]at h;simp only[dy,hx];exact ih h
   .rw[if_neg hc]<;>grind
theorem qF{env:Env}:∀{names:List (Str×NameKind)}{x:Str},names.lookup x=a_ .globalImplicit ->
  (names.map λ(n,k)=>if (k==br&&env.scope.kind==.function&&env.kindOf n==a_ .cell) then(n,eO) else(n,k)).lookup x=a_ .globalImplicit
 |[],_,h=>by simp at h
 | (n,k')::r,x,h=>by
   have ih:= @qF env r x
   grind
theorem oM:∀{names:List (Str×NameKind)}{x:Str}{k:NameKind},(names.map (·.1)).Nodup->(x,k)∈names->names.lookup x=a_ k
 |[],_,_,_,h=>by simp at h
 | (n,k')::r,x,k,nd,h=>by
   rw[dw,eg]at nd;rw[dy];rcases aG.mp h with e|h2
   .cases e;simp
   .have ZN:x≠n:=by
     grind
    rw[(beq_eq_false_iff_ne.mpr ZN)];exact oM nd.2 h2
variable{n:Nat}
theorem lP{X:Cx}{scope:Scope}(hf:∀y∈scope.names,y.2=.free->∃c,X.env.cells.lookup y.1=a_ c){x:Str}{c:e_}
  (h:(cellsFrom n scope.names (nA X.env scope.names [])).lookup x=a_ c):(cellsFrom n scope.names []).lookup x=a_ c\/X.env.cells.lookup x=a_ c:=by
 rw[gm,ji]at h;cases q:(cellsFrom n _ []).lookup x with
 |some d=>simp_all
 | none=>
   rw[q]at h;rcases q9 _ [] hf x c h with e|e<;>simp_all
section
variable {X:Cx}{pins:List (e_×Obj)}{σ:St}{ZT:Hp}{ZX:g_}{N':List Str}{scope:Scope}{xs:List Str}{fp:List e_}
theorem k8.frees(C:k8 X N' scope xs)(ok:X.Ok):∀y∈scope.names,y.2=.free->∃c,X.env.cells.lookup y.1=a_ c:=λy hy e=>ok.has _ (C.free y hy e)
theorem Km(C:k8 X N' scope xs){y:Str}(h:scope.names.lookup y=a_ .cell\/scope.names.lookup y=a_ .free):∃c,(cellsFrom n scope.names (nA X.env scope.names [])).lookup y=a_ c:=by
 refine iR.mp (jr _ n _ ?_);rcases h with h|h
 .exact .inl h
 .exact .inr (qK _ [] (.inl h))
theorem CG(I:Inv X pins σ ZT ZX)(C:k8 X N' scope xs)(XS:∀b∈fp,we X pins ZT b)(ZR:∀b∈fp,b<ZX.heap.objs.size):(blk X N' scope ZX ZT fp).Ok:=by
 have own:=λy c h=>by
  have ok:=cellsFrom_ok scope.names ((ZX.heap.push default).push default) _ [] ⟨λ_ _ hm=>(nomatch hm),iO⟩ (ak _);rw[bE,bE]at ok;exact(ok.empty y c (cw h)).2
 have apart:=by
  have ok:=cellsFrom_ok scope.names ((ZX.heap.push default).push default) _ [] ⟨λ_ _ hm=>(nomatch hm),iO⟩ (ak _);rw[bE,bE]at ok;exact ok.apart
 have old:∀y c,X.env.cells.lookup y=a_ c->c<ZX.heap.objs.size:=λy c h=>by obtain⟨v,z⟩:=I.cell y c h;exact z.lt
 refine⟨I.ok.mod,C.kind,I.ok.glob,I.ok.blt,fS _,λy z c h1 h2=>?_,λy hy=>?_,λy c hy h=>?_,I.ok.hd,I.ok.frames,.inl rfl,λb hb=>⟨?_,λy c h z=>?_⟩,I.bs,aK I.ok.bsz I.sz,λb o e hb=>?_,λb hb z=>?_,I.stack,I.stkFree⟩
 .rcases lP (C.frees I.ok) h1 with a|a<;>rcases lP (C.frees I.ok) h2 with b|b
  .exact name_of_addr apart (cw a) (cw b)
  .exact absurd (ai (old z c b) (aK (fw _ 2) (own y c a))) (bu _)
  .exact absurd (ai (old y c a) (aK (fw _ 2) (own z c b))) (bu _)
  .exact I.ok.inj y z c a b
 .refine Km C ?_
  rcases hy with hy|hy
  .rcases i6 hy with e|⟨e,_⟩<;>simp_all
  .rcases i6 hy with e|⟨e,_⟩<;>simp_all
 .have h':(cellsFrom _ _ _).lookup y=a_ c:=h
  rw[gm,ji]at h';obtain⟨d,hd⟩:=(iR.mp (jr _ (ZX.heap.objs.size+2) [] (.inl (by simpa [blk]using hy))));rw[hd]at h';have e:=eR h';subst e;have:=own y d hd;show ZX.heap.objs.size<=d
  lia
 .exact aJ (cU (ZR b hb))
 .rcases lP (C.frees I.ok) h with a|a
  .exact absurd (ai (ZR b hb) (aK (fw _ 2) (z▸own y c a))) (bu _)
  .exact(XS b hb).2.2.2.2.1 y c a z
 .have z:=(XS b hb).2.2.2.1
  rcases z with z|z
  .exact I.ok.noex b o e z
  .exact absurd (ai (az e) (aK I.ok.bsz z)) (bu _)
 .rcases aG.mp (I.stkSub b z) with e|e
  .exact(XS b hb).2.1 e
  .exact(XS b hb).2.2.1 e
theorem FJ(I:Inv X pins σ ZT ZX)(C:k8 X N' scope xs)(XS:∀b∈fp,we X pins ZT b)(ZR:∀b∈fp,b<ZX.heap.objs.size){lo VU:Obj}(hdo:VU.data=.dict #[])(Ui:VU.isFreed=d_)(hlo:lo.isFreed=d_):
  Inv (blk X N' scope ZX ZT fp) [] (σ++aS xs.length b_) ZT { ZX with heap:=pushCells ((ZX.heap.push lo).push VU) scope.names }:=by
 have sz:((ZX.heap.push lo).push VU).objs.size=ZX.heap.objs.size+2:=by simp_all
 have U8:=cellsFrom_ok scope.names _ _ [] ⟨λ_ _ hm=>(nomatch hm),iO⟩ (by rw[sz];exact ak _);rw[sz]at U8;have kp:∀b o,ZX.heap.get? b=a_ o->(pushCells ((ZX.heap.push lo).push VU) scope.names).get? b=a_ o:=λb o e=>pushCells_keeps _ _ b o (af _ (af _ e))
 have hL:(pushCells _ scope.names).get? (ZX.heap.objs.size+1)=a_ _:=pushCells_keeps _ _ _ _ (by
  have e:ZX.heap.objs.size+1=(ZX.heap.push lo).objs.size:=by rw[bE]
  rw[e];exact av _ Ui)
 refine⟨CG I C XS ZR,rfl,I.bare,Un.kept kp,⟨_,⟨_,_,_,hL,hdo,λe he=>by simp at he,λ_=>rfl⟩,λi y v h1 h2 h3=>?_⟩,λy c h=>?_,I.hok.fresh (fS _),λy c h=>?_,λp hp=>absurd (show p∈[] from hp) 0#4,I.hok.kept kp,?_⟩
 .have hi:i<X.N.length:=by
   by_cases hi:i<X.N.length
   .omega
   .rw[bj (by rw[I.len];simp_all),jt]at h2<;>simp_all
  rw[aT (by rw[I.len];omega)]at h2;have hv:scope.names.lookup y=a_ .local\/scope.names.lookup y=a_ .cell\/scope.names.lookup y=a_ .free:=by
   rcases h3 with h3|h3|h3<;>rcases i6 h3 with e|⟨e,e'⟩<;>grind
  obtain⟨hN,WI⟩:=C.vis i y hi h1 hv;have hk:=C.free _ (cw WI) rfl;obtain⟨m,hn,hl⟩:=I.loc;obtain⟨u,r,l⟩:=hl i y v hN h2 (.inr hk);refine⟨u,r,.inr ⟨mE WI,?_⟩⟩;rcases l with⟨YM,_⟩|⟨_,c,hc,Zv⟩
  .simp_all
  .have nown:(cellsFrom (ZX.heap.objs.size+2) scope.names []).lookup y=b_:=by
    cases q:(cellsFrom _ _ []).lookup y with
    |none=>rfl
    | some d=>
      rcases k9 _ _ _ d q with⟨z,hz,e1,e2⟩|e
      .obtain⟨z1,z2⟩:=z
       simp at e1 e2;subst e1;subst e2;exact absurd (oM C.nd hz) (by rw[WI];simp)
      .cases e
   obtain⟨d,hd⟩:=iR.mp (qK _ [] (.inl WI));have XZ:X.env.cells.lookup y=a_ d:=by
    rcases q9 _ [] (C.frees I.ok) y d hd with e|e<;>simp_all
   rw[hc]at XZ;cases XZ;refine⟨c,?_,Zv.keeps kp⟩;show(cellsFrom _ _ _).lookup y=a_ c;rw[gm,ji,nown];exact hd
 .rcases lP (C.frees I.ok) h with a|a
  .exact⟨_,(U8.empty y c (cw a)).1⟩
  .obtain⟨v,z⟩:=I.cell y c a
   exact⟨v,z.keeps kp⟩
 .rcases lP (C.frees I.ok) h with a|a
  .exact I.hok.fresh (aK (fw _ 2) (U8.empty y c (cw a)).2)
  .exact I.freeC y c a
 .show(σ++aS _ _).length=N'.length
  rw[aU,qx,I.len,C.len]
end
def PTs(X:Cx)(ifs:List Expr)(t:TT):Prop:=
 ∀(pins:List (e_×Obj)) (s:g_) (σ:St) (H:Hp) (Q:Bool->Hp->Prop),Inv X pins σ H s->t σ H Q ->
  aD 1#3 X.A (forIn ifs c_ λc r=>if r=c_ then do let ok <- isTrue c X.env (eval c X.env);pure (fB ok) else pure (fB r)) (TP X pins σ Q) X.xe s
def yw(wi:TI)(tt:TT)(te:TE):TE:=λσ H Q=>wi σ H λJ H1=>∃W:Nat->Nat->List V->Hp->Prop,(∃m,W 0 m [] H1) /\ ∀i m ys H,W i m ys H->ys.length<sizeLine /\
 ((J.stop i H /\ ∀D,H D=b_->Q (.ref D) (upd H D (.lst ys))) \/
  (J.go i H /\ ∀x H',J.yld i H x H'->tt (σ++[a_ x]) H' λb H3=>if b=c_ then te (σ++[a_ x]) H3 λy H4 =>∃m',m'<m/\W (i+1) m' (ys++[y]) H4 else ∃m',m'<m/\W (i+1) m' ys H3))
variable{P:Program}{w:World}{a:e_}
theorem HOk.track{H:Hp}{h:Heap}{o:HO}(x:HOk P w H h)(hn:H a=b_)(new:ip P w (upd H a o) h a o):HOk P w (upd H a o) h:=λb u e=>by
 by_cases hb:b=a
 .subst hb;rw[du]at e;grind
 .rw[bB hb]at e
  exact(x b u e).stay (λc v _ q=>q) (λc q=>by rw[bB (bF q hn)];omega) λc xs q=>by rw[bB (bF q hn)];omega
theorem HOk.but{H:Hp}{h h':Heap}(x:HOk P w H h)(hn:H a=b_)(k:∀b o,b≠a->h.get? b=a_ o->h'.get? b=a_ o):HOk P w H h':=λb u e=>by
 refine(x b u e).stay (λc v hc q=>k c v ?_ q) (λ_ q=>q) λ_ _ q=>q
 grind
def ML(gT:V->Hp->(St->Hp->Prop)->Prop)(wi:TI)(tt:TT)(te:TE):TE:=λσ H Q=>wi σ H λJ H1=>∃W:Nat->Nat->List V->Hp->Prop,(∃m,W 0 m [] H1) /\ ∀i m ys H,W i m ys H->ys.length<sizeLine /\
 ((J.stop i H /\ ∀D,H D=b_->Q (.ref D) (upd H D (.lst ys))) \/
  (J.go i H /\ ∀x H',J.yld i H x H'->gT x H' λτ H2=>tt (σ++τ) H2 λb H3=>if b=c_ then te (σ++τ) H3 λy H4 =>∃m',m'<m/\W (i+1) m' (ys++[y]) H4 else ∃m',m'<m/\W (i+1) m' ys H3))
def gT1:V->Hp->(St->Hp->Prop)->Prop:=λv H Q=>Q [a_ v] H
section
variable {X:Cx}{N':List Str}{scope:Scope}{x:Str}{xs:List Str}{tg:Expr}{gT:V->Hp->(St->Hp->Prop)->Prop}{px pos:Pos}{elt iter:Expr}{ifs:List Expr}{wi:TI}{tt:TT}{te:TE}
variable{σ:St}
theorem yq{use:Option (f_->Sem Unit)}{Qf:f_->g_->Prop}(hc:X.calm=c_)(C:k8 X N' scope xs)(hi:PI X tg iter wi)
  (ht:∀ZX ZT fp,PTs (blk X N' scope ZX ZT fp) ifs tt) (he:∀ZX ZT fp,PE (blk X N' scope ZX ZT fp) elt te) {pins:List (e_×Obj)}{s:g_}{H:Hp}{Q:VK} (I:Inv X pins σ H s) (h:ML gT wi tt te σ H Q)
  (htg: ∀(ZX:g_) (ZT:Hp) (fp:List e_) (pl:List (e_×Obj)) (s:g_) (H:Hp) (v:V) (u:f_) (Q:St->Hp->Prop),Inv (blk X N' scope ZX ZT fp) pl (σ++aS xs.length b_) H s->RelV v u->gT v H Q ->
   aD (model X.prog X.w) X.A (assign tg (blk X N' scope ZX ZT fp).env u) (λ_ s' =>∃τ H',τ.length=xs.length/\Inv (blk X N' scope ZX ZT fp) pl (σ++τ) H' s'/\Q τ H') (λ_ _=>False) s)
  (Ue: ∀(s':g_) (L D:e_) (H':Hp) (ml:Str->Option f_),s'.heap.Ns L ml->Inv X pins σ H' s'->H' L=b_->L≠X.env.locals->X.s₀.heap.objs.size<=L->(∀y c,X.env.cells.lookup y=a_ c->c≠L)->(∀p∈X.pn++pins,p.1≠L) ->
   Q (.ref D) H'->compPost (model X.prog X.w) X.A X.xe use Qf (.ref D) L (.ok .next) s'):
  aD 1#3 X.A (eval iter X.env) (λxv ZV=>aD 1#3 X.A (pyIter xv) (λit ZX=>aD 1#3 X.A (newList []) (λacc YJ=>
   aD 1#3 X.A (newFunctionEnv scope X.env.globals (nA X.env scope.names []) [] X.env.qual b_ .none (a_ X.env)) (λUt XI=>
    pM (model X.prog X.w) X.A (.compStart (.ListComp elt [⟨tg,iter,ifs,0⟩] scope pos) 0 it acc { Ut with scope:=relabel scope X.env }) (compPost (model X.prog X.w) X.A X.xe use Qf acc Ut.locals) XI) X.xe YJ) X.xe ZX) X.xe ZV) X.xe s:=by
 refine thn (hi pins s σ H _ I h) λv s1 h1=>thn h1 λitv s2 h2=>?_;obtain⟨it,fp,tn,J,H2,e,I2,T,Zj,f2,W,⟨m0,w0⟩,turn⟩:=h2;subst e;have ZR:∀b∈fp,b<3#2:=λb hb=>by obtain⟨o,ho,_⟩:=T.obj _ _ Zj b hb;exact az ho
 refine bJ (qC ?_);have I4:Inv _ [] _ H2 { s2 with heap:=pushCells ((s2.heap.push { cls := .type "list",dict:=b_,data := .seq [].toArray }).push { cls := .type "dict",data := .dict #[] }) _ }:=
  FJ I2 C f2 ZR rfl rfl rfl
 generalize hXb:blk X N' scope s2 H2 fp=Xb at I4;have hD4:(pushCells ((s2.heap.push _).push { cls := .type "dict",data := .dict #[] }) scope.names).get? _=a_ { cls := .type "list",data := .seq [].toArray }:=
  pushCells_keeps _ _ _ _ (af _ (av _ rfl))
 have YT:tn 0 (pushCells ((s2.heap.push { cls := .type "list",dict:=b_,data := .seq [].toArray }).push { cls := .type "dict",data := .dict #[] }) scope.names):=
  T.keep _ _ _ Zj λb hb o e=>pushCells_keeps _ _ b o (af _ (af _ e))
 have Up:({ scope:=relabel scope X.env,locals:=(s2.heap.push { cls := .type "list",dict:=b_,data := .seq [].toArray }).objs.size,globals:=X.env.globals,cells:=cellsFrom ((s2.heap.push { cls := .type "list",dict:=b_,data := .seq [].toArray }).objs.size+1) scope.names (nA X.env scope.names []),qual:=X.env.qual,func:=b_,code:=X.env.code,frame:=X.env.frame,builtins:=X.env.builtins }:Env)=Xb.env:=by
  rw[<-hXb,bE];rfl
 generalize hs4:({ s2 with heap:=pushCells _ _ }:g_)=s4 at I4;have W9:s4.heap.get? 3#2=a_ { cls := .type "list",data := .seq [].toArray }:=by rw [<-hs4];exact hD4
 have W6:tn 0 s4.heap:=by rw[<-hs4];exact YT
 have hL:Xb.env.locals=3#2+1:=by rw[<-hXb];rfl
 have hex:Xb.ex=fp:=by rw[<-hXb];rfl
 have Vd:Xb.s₀=s2:=by rw[<-hXb];rfl
 have hH0:Xb.H₀=H2:=by rw[<-hXb];rfl
 have XX:Xb.fs=frs X.stack:=by rw[<-hXb];rfl
 have TU:Xb.pn=[]:=by rw[<-hXb];rfl
 have hK:Xb.K=X.K:=by rw[<-hXb];rfl
 have hP:Xb.prog=X.prog:=by rw[<-hXb];rfl
 have hw:Xb.w=X.w:=by rw[<-hXb];rfl
 have hA:Xb.A=X.A:=by rw[<-hXb];rfl
 have TF:Xb.xe=λ_ _=>False:=by rw[<-hXb];rfl
 have SM:Xb.calm=c_:=by rw[<-hXb];exact hc
 have WT:PTs Xb ifs tt:=by rw[<-hXb];exact ht _ _ _
 have heb:PE Xb elt te:=by rw[<-hXb];exact he _ _ _
 have hgb:∀(pl:List _) (s:g_) (H:Hp) (v:V) (u:f_) (Q:St->Hp->Prop),Inv Xb pl (σ++aS xs.length b_) H s->RelV v u->gT v H Q ->
   aD 1#3 X.A (assign tg Xb.env u) (λ_ s'=>∃τ H',τ.length=1#2/\Inv Xb pl (σ++τ) H' s'/\Q τ H') (λ_ _=>False) s:=by
  rw[<-hXb];exact htg _ _ _
 have WO:∀y c,Xb.env.cells.lookup y=a_ c->c≠3#2:=λy c e z=>by
  obtain⟨v,o,ho,hd⟩:=I4.cell y c e;rw[z,W9]at ho;cases ho;cases hd
 have stat:∀{H':Hp}{pl:List _},(∀b∈fp,H' b=b_)->(∀p∈pl,p.1=3#2)->∀b∈fp,we Xb pl H' b:=λ{H' pl} hn ZJ b hb=>by
  refine⟨hn b hb,?_,?_,.inl (by rw[hex];exact hb),λy c e z=>?_,λp hp z=>?_⟩
  .rw[hL];exact aJ (cU (ZR b hb))
  .exact I4.ok.exfs b (by rw[hex];exact hb)
  .exact(I4.ok.exf b (by rw[hex];exact hb)).2 y c e z
  .rw[TU]at hp
   exact absurd (ZR b hb) (by rw[<-z,(ZJ p (by simpa using hp))];exact bu _)
 have Dfs:3#2∉Xb.fs:=by
  rw[XX];intro z;rcases aG.mp (I2.stkSub _ z) with e|e
  .exact absurd I2.lt (by rw[<-e];exact bu _)
  .exact I2.nofs (ak _) e
 have fin :∀ (s':g_) (i m:Nat) (ys:List V) (ZY:List f_) (n:Nat) (H':Hp) (Y3:St),Inv Xb [] Y3 H' s'->H' 3#2=b_->s'.heap.get? 3#2=a_ { cls := .type "list",data := .seq ZY.toArray n }->cX ys ZY->ys.length<sizeLine ->
   (∀D,H' D=b_->Q (.ref D) (upd H' D (.lst ys)))->compPost 1#3 X.A X.xe use Qf (.ref 3#2) Xb.env.locals (.ok .next) s':=by
  intro s' i m ys ZY n H' Y3 I' Wg hDo rv hz q;obtain⟨ml,Wm,_⟩:=I'.loc;have kb:∀b o,b≠Xb.env.locals->s'.heap.get? b=a_ o->s'.heap.get? b=a_ o:=λb o _ e=>e;have hDL:3#2≠Xb.env.locals:=by rw[hL];exact aJ (bV _)
  have UA:=by
   have:=I'.hok.but I'.free kb;rw[hP,hw]at this;exact this
  have base:=I'.base;rw[Vd,hH0,hex,XX]at base;have un:Un (frs X.stack) fp H2 (upd H' s2.heap.objs.size (.lst ys)) s2.heap s'.heap:=by
   have ltL:∀b o,s2.heap.get? b=a_ o->b≠Xb.env.locals:=λb o e=>by rw[hL];exact aJ (cU (az e))
   refine⟨λb o e n hb hx=>kb b o (ltL b o e) (base.keep b o e n hb hx),λb o e n hb hx=>?_,λb o e n hx=>?_,λb o e hx=>?_,λb xs e=>?_,λb o u e=>?_,λb ps e=>?_⟩
   .obtain⟨sl,q⟩:=base.slot b o e n hb hx
    exact⟨sl,kb b _ (ltL b o e) q⟩
   .rw[bB ((λb o e=>aJ (az e)) b o e)];exact base.free b o e n hx
   .obtain⟨o',q⟩:=base.there b o e hx
    exact⟨o',kb b _ (ltL b o e) q⟩
   .have q:=base.tups b xs e
    rw[bB (bF q Wg)];exact q
   .have q:=base.frzs b o u e
    rw[bB (bF q Wg)];exact q
   .obtain⟨more,q⟩:=base.tbls b ps e
    exact⟨more,by rw[bB (bF q Wg)];exact q⟩
  refine Ue s' _ _ _ ml Wm (I2.call' (by rw[I'.os,Vd]) un (UA.track Wg ⟨aI hz,ZY,n,rv,kb _ _ hDL hDo⟩) I'.bare λb hb=>⟨(f2 b hb).2.2.2.1,(f2 b hb).2.1,(f2 b hb).2.2.2.2.1,(f2 b hb).2.2.2.2.2⟩) ?_ ?_ ?_ ?_ ?_ (q _ Wg)
  .rw[bB (eD hDL)];exact I'.free
  .rw[hL];exact dQ (cU I2.lt)
  .rw[hL];exact dD I2.sz
  .intro y c e z
   obtain⟨v,o,ho,_⟩:=I2.cell y c e;have:=az ho;rw[z,hL]at this;exact absurd (Nat.lt_of_succ_lt this) (bu _)
  .intro p hp z
   have:=az (I2.pin p hp).1;rw[z,hL]at this;exact absurd (Nat.lt_of_succ_lt this) (bu _)
 have loop:∀UC:e_,UC=it->pM 1#3 X.A (.compLoop (.ListComp elt [⟨tg,iter,ifs,0⟩] scope pos) 0 (.ref UC) (.ref 3#2) Xb.env) (compPost 1#3 X.A X.xe use Qf (.ref 3#2) Xb.env.locals) s4:=by
  rintro UC rfl
  refine oi (λn s' =>∃(i:Nat) (ys:List V) (ZY:List f_) (nn:Nat) (H':Hp),Inv Xb [] _ H' s'/\tn i s'.heap/\(∀b∈fp,H' b=b_)/\H' _=b_ /\
   s'.heap.get? _=a_ { cls := .type "list",data := .seq ZY.toArray nn }/\cX ys ZY/\W i n ys H') ?_ m0 ⟨0,[],[],_,H2,I4,W6,fun b hb=>(f2 b hb).1,I2.hok.fresh (ak _),W9,.nil,w0⟩
  rintro n s3 ⟨i,ys,ZY,nn,H3,I3,ZC,VL,L',Uc,WB,w3⟩;obtain⟨hz,turn⟩:=turn i n ys H3 w3;have V6:∀{s':g_}{H':Hp}{Y3:St}{oD:Obj},Inv Xb [] Y3 H' s'->H' _=b_->s'.heap.get? _=a_ oD->(∀v,oD.data≠.cell v)->Inv Xb [(3#2,oD)] Y3 H' s':=λ{s' H' Y3 oD} I' hn ho hd=>
   I'.pins_of λp hp=>by
    have e:=by simpa using hp
    subst e;exact⟨ho,hn,by rw[hL];exact aJ (bV _),Dfs,hd⟩
  have I3p:=V6 I3 L' Uc (λv z=>by cases z);have ZJ :∀ p ∈ [(3#2,({ cls := .type "list",data := .seq ZY.toArray nn }:Obj))],p.1=3#2:=fun p hp=>by
   have e:=bx.mp hp;rw[e]
  rcases turn with⟨stop,qn⟩|⟨go,step⟩
  .have q:=T.done Xb hP hw hK SM i _ s3 _ H3 (λ_ _=>False) I3p (stat VL ZJ) ZC stop
   rw[hA]at q;refine dv q (λr s5 ⟨hr,I5⟩=>?_) λ_ _ z=>ej z;subst hr;exact fin s5 i n ys ZY nn H3 _ (I5.pins_of λp hp=>absurd hp 0#4) L' (I5.pin _ (a8 _ (bx.mpr rfl))).1 WB hz qn
  .have q:=T.item Xb hP hw hK SM i _ s3 _ H3 (λ_ _=>False) I3p (stat VL ZJ) ZC go
   rw[hA]at q;refine dv q (λr s45 ⟨u,hr,h5⟩=>?_) λ_ _ z=>ej z;subst hr;refine dv h5 (λ_ s5 ⟨y5,H5,I5,r5,yl5,Zk,UM⟩=>?_) λ_ _ z=>ej z;refine dv (hgb _ s5 H5 y5 _ _ (I5.pinned (stat UM ZJ) (T.obj _ _ Zk)) r5 (step y5 H5 yl5)) (λ_ s6 ⟨τ,H6,hτ,I6,q6⟩=>?_) λ_ _ z=>ej z;have qt:=WT _ s6 _ H6 _ I6 q6;rw[hP,hw,hA,TF]at qt;refine dv qt (λb s7 ⟨H7,I7,q7⟩=>?_) λ_ _ z=>ej z;have again :∀ {s8:g_}{H8:Hp}{X9:St},Inv Xb ([(3#2,({ cls := .type "list",data := .seq ZY.toArray nn }:Obj))]++zh fp s5.heap) X9 H8 s8->tn (i+1) s8.heap/\(∀ b∈fp,H8 b=b_)/\H8 _=b_/\s8.heap.get? _=a_ _:=fun {s8 H8 X9} I8=>by
    refine⟨T.keep _ _ _ Zk λb hb o e=>(I8.pin (b,o) (a8 _ (a8 _ (mB hb e)))).1,λb hb=>?_,?_,?_⟩
    .obtain⟨o,e,d⟩:=T.obj _ _ Zk b hb
     exact(I8.pin (b,o) (a8 _ (a8 _ (mB hb e)))).2.1
    .exact(I8.pin _ (a8 _ (bf _ (bx.mpr rfl)))).2.1
    .exact(I8.pin _ (a8 _ (bf _ (bx.mpr rfl)))).1
   have forget:∀{s8:g_}{H8:Hp}{pl:List _},Inv Xb pl (σ++τ) H8 s8->Inv Xb [] (σ++aS xs.length b_) H8 s8:=λ{s8 H8 pl} I8=>
    (I8.pins_of λp hp=>absurd hp 0#4).weak (by simp[hτ]) λj v hj=>by
     by_cases hjs:j<σ.length
     .rw[aT hjs]at hj ⊢;exact hj
     .rw[bj (dS 0#5),jt]at hj
      split at hj<;>simp at hj
   cases b with
   | false=>
     obtain⟨m',hm,w7⟩:=q7;obtain⟨a1,a2,a3,a4⟩:=again I7;exact⟨m',hm,i+1,ys,ZY,nn,H7,forget I7,a1,a2,a3,a4,WB,w7⟩
   | true=>
     have qe:=heb _ s7 _ H7 _ I7 q7;rw[hP,hw,hA,TF]at qe;refine dv qe (λuv s8 ⟨y8,H8,I8,r8,m',hm,w8⟩=>?_) λ_ _ z=>ej z;obtain⟨a1,a2,a3,a4⟩:=again I8;have hl3:=WB.length;refine call_meets F.slot_list_append ⟨_,a4,rfl⟩ F.entry_list_append (F.args_list_append_2 _ _) (PySem.list_append _ _ nn uv (by rw[bO];lia)) ⟨a4,?_⟩;have TY:=JN a4 (·.push uv);have e1:(ZY.toArray.push uv)=(ZY++[uv]).toArray:=by simp
     rw[e1]at TY;have I10:=
      (forget I8).turned (t':=s8.toks) (λb' u hb hu=>(cQ s8.heap (cN (·.push uv)) (eD hb)).trans hu) a3 (by rw[hL];exact aJ (bV _)) (.inr (by rw[Vd];exact ak _)) WO (λp hp=>by rw[TU]at hp;exact absurd hp 0#4)
     exact⟨m',hm,i+1,ys++[y8],_,_,H8,I10,T.keep _ _ _ a1 λb hb o e=>((cQ s8.heap _ (by first |exact dQ (ZR b hb) |exact aJ (ZR b hb))).trans e),a2,a3,TY,WB.append (.cons r8 .nil),w8⟩
 rw[Up];have eL:(s2.heap.push { cls := .type "list",dict:=b_,data := .seq [].toArray }).objs.size=Xb.env.locals:=by rw [bE,hL]
 rw[eL];exact(codeAny_compStart_list (loop it rfl) (T.self X.A 0 s4 _ _ W6 (loop it rfl)))
theorem Ek(C:k8 X N' scope [x])(ZX:g_)(ZT:Hp)(fp:List e_)(pl:List (e_×Obj))(s:g_)(H:Hp)(v:V)(u:f_)(Q:St->Hp->Prop)(I:Inv (blk X N' scope ZX ZT fp) pl (σ++aS [x].length b_) H s)(r:RelV v u)(q:gT1 v H Q):
  aD 1#3 X.A (assign (.Name x px) (blk X N' scope ZX ZT fp).env u) (λ_ s'=>∃τ H',τ.length=[x].length/\Inv (blk X N' scope ZX ZT fp) pl (σ++τ) H' s'/\Q τ H') (λ_ _=>False) s:=by
 have hl:σ.length=X.N.length:=by
  have:=I.len;rw[show(blk X N' _ _ _ fp).N=N' from rfl,C.len,aU,qx]at this
  lia
 have VG:Loc (blk X N' scope ZX ZT fp).env.scope x:=by
  rcases C.own x 0#4 with e|e
  .exact .inl (lookup_relabel_local e)
  .exact .inr (mH e)
 have hfx:(blk X N' scope ZX ZT fp).fn x=c_\/(blk X N' scope ZX ZT fp).env.scope.names.lookup x=a_ .local:=by
  rcases C.own x 0#4 with e|e
  .right;exact lookup_relabel_local e
  .left;show(scope.names.lookup x==a_ _)=c_;rw[e];rfl
 refine BX (rB I C.ndN (i:=X.N.length) (C.last 0 x rfl) VG r (λs6 I6=>?_) hfx);have XH:(σ++aS [x].length b_).set X.N.length (a_ v)=σ++[a_ v]:=by
  rw[<-hl];simp
 rw[XH]at I6;exact⟨_,H,rfl,I6,q⟩
end
end _L
namespace HT
open PySem PyProof.Rows
open PySem.SeqAt
open PySem.AutoSeq1 (wpAny_loadPart')
open PySem.MeetsSeq PySem.MeetsSeq2 PySem.MeetsSeq3
section
variable {prog:Program}{w:World}{A:Around}{E:f_->g_->Prop}{s:g_}
variable{Q:f_->g_->Prop}
theorem getItem_tuple_whole{t sl:e_}{items:Array f_}{vl vu:f_}{lo hi:Option Int}(ht:IsTup s.heap t items)(hs:s.heap.IsSliceOf sl vl vu .none)(pl:IsPart vl lo)(pu:IsPart vu hi)
  (hw:sIx items.size 0 lo=0/\sIx items.size items.size hi=2#5)
  (h:Q (.ref t) s):aD 1#5 A (getItem (.ref t) (.ref sl)) Q E s:=by
 obtain⟨os,Yx,XW,W4⟩:=id hs;unfold getItem
 try with_reducible refine dC ?_
 refine ab (wpAny_sequenceKey ht.typeIs 0#2 ?_)
 refine ab (bN ht.typeIs fF
  (bG fF ht.typeIs entry_tuple_getitem ?_ (args_tuple_getitem _ _)))
 show aD _ _ (ui _ >>= _) _ _ s;refine ab (tupleItemsOf_ ht ?_);refine ab (jc ⟨os,Yx,XW⟩ ?_);refine ab (lE hs pl pu ?_);rw[hw.1,hw.2];show aD _ _ (if (0==0&&1==1&&(2#5-0)==2#5)=c_ then _ else _) _ _ s;rw[if_pos 0#4];obtain⟨o,ho,hc,n,hd⟩:=id ht;refine ab ?_;refine ab (jc ⟨o,ho,hc⟩ (aj ?_));refine ab (fb ?_)
 first
  |exact aj ⟨_,rfl,aj h⟩
  |grind
theorem cat_tup0{t b:e_}{ws:List f_}(ht:IsTup s.heap t ([]:List f_).toArray)(hb:IsTup s.heap b ws.toArray)(h:Q (.ref b) s):aD 1#5 A (binaryOp .Add (.ref t) (.ref b)) Q E s:=by
 obtain⟨⟨cls,dd,data,sl⟩,ho,hc,n,hd⟩:=id ht;obtain⟨⟨U6,dd2,data2,sl2⟩,Yy,XT,n2,hd2⟩:=id hb;subst hc hd XT hd2;exact concat_meets ⟨_,ho,rfl⟩ ⟨_,Yy,rfl⟩ noFill_tuple_add seq_tuple_add oo mX (mL _ _)
   (tuple_addW0 t b _ _ n n2 dd _ sl _ 0#4) ⟨ho,Yy,h⟩
end
end HT
namespace _G
open PySem PySem.SeqAt
open PySem.AutoSeq1 (wpAny_loadPart')
open PySem.MeetsSeq PySem.MeetsSeq2 PySem.MeetsSeq3
theorem xB(l:e_)(items:Array f_)(n:Nat)(dd:Option e_)(sl:Array (Option f_))(x:f_)(e:f_->Bool)(j:Nat)(hj:j<2#5)
  (hit:e items[j]=c_) (V':∀m (hm:m<2#5),m<j->e items[m]=d_):
  Meets (Builtin.«tuple.index» ⟨[.ref l,x],[]⟩)
   (fun A R s=>s.heap.get? l=a_ { cls := .type "tuple",dict:=dd,data := .seq items n,slots:=sl }/\(∀ y,y∈items->EqAt A.in1 s y x (e y))/\R (.ok (.ret (.int j s.toks))) { s with toks:=s.toks+1 }):=
 .of_wp λprog w A R s h=>by
  obtain⟨hp,g,d,tk,os⟩:=s;obtain⟨hl,he,h⟩:=h;simp only[Builtin.«tuple.index»,Std.Legacy.Range.forIn_eq_forIn_range']
  wp_walk using fo hl,wpAny_forIn_list _ (λrest b s'=>b.1=b_/\s'=⟨hp,g,d,tk,os⟩ /\ ∃i,i<=j/\rest=ba i (items.size-i)) _
  case turn=>
   rintro y rest b s' ⟨hb,rfl,i,YN,YH⟩;have ZR:i<2#5:=by
    rcases JO i 2#5 with q|q
    .exact q
    .exact aM 0#5 0#5
   obtain⟨k,hk⟩ :∃k,2#5-i=k+1:=⟨2#5-i-1,by lia⟩;rw[hk]at YH;injection YH with h1 h2
   subst h1;have hg:items[y]?=a_ items[y]:=by simp[ZR]
   rw[hg];refine ab (he _ (Array.getElem_mem ZR) prog w _ _ ?_);by_cases hyj:y=j
   .subst hyj
    wp_walk
    exact⟨_,rfl,h⟩
   .rw[V' y ZR (bH 0#5 0#5)]
    wp_walk
    exact⟨rfl,rfl,y+1,bH 0#5 0#5,by rw[h2];congr 1;lia⟩
  case fin=>
   rintro ⟨b1,b2⟩ s' ⟨hb,rfl,i,YN,YH⟩;exfalso;have h3:=congrArg eV YH;simp at h3
   lia
  case h=>
   exact⟨rfl,rfl,0,bS _,by simp⟩
theorem sZ:fillsNumberSlot (.type "tuple") "mul"=pure d_:=
 fillsNumberSlot_seq F.slot_tuple_mul.lookup 0#9 F.slot_tuple_rmul.lookup 0#9
theorem Ci(l:e_)(items:Array f_)(n:Nat)(dd:Option e_)(sl:Array (Option f_))(t:Tok)(he:items.isEmpty=d_):
  Meets (Builtin.«tuple.__mul__» ⟨[.ref l,.int 0 t],[]⟩) (fun _ R s=>s.heap.get? l=a_ { cls := .type "tuple",dict:=dd,data := .seq items n,slots:=sl }/\R (.ok (.ret (bZ 0#6))) { s with heap:=s.heap.push { cls:=ja "tuple",data:=wY #[] },toks:=s.toks }):=
 .of_wp λprog w A R s h=>by
  obtain⟨hl,h⟩:=h
  wp_walk using fo hl
  exact⟨_,rfl,h⟩
theorem Dy(l:e_)(items:Array f_)(n:Nat)(dd:Option e_)(sl:Array (Option f_))(k:Int)(t:Tok)(h1: ¬(items.isEmpty||k==1)=c_)(h0:0<k)(hk:k<1000)(hz:2#5<1000):
  Meets (Builtin.«tuple.__mul__» ⟨[.ref l,.int k t],[]⟩) (fun _ R s=>s.heap.get? l=a_ { cls := .type "tuple",dict:=dd,data := .seq items n,slots:=sl } /\
   R (.ok (.ret (bZ s.heap.objs.size))) { s with heap:=s.heap.push { cls:=ja "tuple",data:=wY ((aS k.toNat items).foldl (· ++ ·) #[]) },toks:=s.toks }):=
 .of_wp λprog w A R s h=>by
  obtain⟨hp,g,d,tk,os⟩:=s;obtain⟨hl,h⟩:=h;have f1:=JY;have V': ¬((decide (k < -2^63)||decide (k >= 2^63))=c_):=by
   rw[Bool.or_eq_true,decide_eq_true_eq,decide_eq_true_eq];lia
  have he:items.isEmpty=d_:=by
   cases q:items.isEmpty with
   |false=>rfl
   |true=>rw[q]at h1;simp at h1
  have hno2: ¬((decide (k<=0)||items.isEmpty)=c_):=by
   rw[he,Bool.or_false,decide_eq_true_eq];lia
  have SH:(2#5:Int)*k<=1000000:=by
   have a1:(2#5:Int)*k<=1000*k:=Int.mul_le_mul_of_nonneg_right 0#0 0#0
   lia
  have XQ: ¬((2#5:Int)*k>(2^63-1)/8):=by lia
  have Zf: ¬(uj ((2#5:Int)*k)=c_):=by
   unfold uj;simp only[sizeLine_eq,decide_eq_true_eq,gt_iff_lt]
   lia
  have ZF:(Cd (λx1 x2=>x1++x2) #[] (aS k.toNat items)).size<=sizeLine:=by
   have e:∀(m:Nat) (a:Array f_),(Cd (λx1 x2=>x1++x2) a (aS m items)).size=a.size+m*2#5:=by
    intro m
    induction m with
    |zero=>intro a;simp
    |succ m ih=>intro a;rw[t9,gW,ih];simp;rw[qo];lia
   rw[e];have a2:k.toNat*2#5<=1000*2#5:=iG _ 0#0;rw[sizeLine_eq];simp;lia
  wp_walk using fo hl
  rw[if_neg V']
  wp_walk using fo hl
  rw[if_neg h1]
  wp_walk using fo hl
  rw[if_neg XQ]
  wp_walk using fo hl
  all_goals first |exact⟨_,rfl,h⟩ |skip
end _G
namespace _G
open PySem PySem.Spec _L
open PyProof.Rows hiding St
mutual
def RU(H:Hp)(μ:List e_):U->V->Prop
 |.non,v=>v=.non
 |.bl b,v=>v=.bl b
 |.int i,v=>v=.int i
 |.str x,v=>v=.str x
 |.tup us,v=>∃a vs,v=.ref a/\H a=a_ (.tup vs)/\RUs H μ us vs
 |.ref n,v=>∃a,v=.ref a/\μ[n]?=a_ a
 |.obj a,v=>v=.ref a
def RUs(H:Hp)(μ:List e_):List U->List V->Prop
 |[],vs=>vs=[]
 |u::us,vs=>∃v r,vs=v::r/\RU H μ u v/\RUs H μ us r
end
structure bD(H H':Hp):Prop where
 t:∀a vs,H a=a_ (.tup vs)->H' a=a_ (.tup vs)
 f:∀a o u,H a=a_ (.frz o u)->H' a=a_ (.frz o u)
instance{H H':Hp}:CoeFun (bD H H') λ_=>∀a vs,H a=a_ (.tup vs)->H' a=a_ (.tup vs):=⟨bD.t⟩
def Pre(μ Y6:List e_):Prop:= ∃t,Y6=μ++t
theorem bD.refl(H:Hp):bD H H:=⟨λ_ _ h=>h,λ_ _ _ h=>h⟩
variable{H H1:Hp}
theorem bD.trans{H2:Hp}(a:bD H H1)(b:bD H1 H2):bD H H2:=⟨λc vs h=>b c vs (a c vs h),λc o u h=>b.f c o u (a.f c o u h)⟩
theorem Pre.refl(μ:List e_):Pre μ μ:=⟨[],by simp⟩
variable{μ Y0:List e_}
theorem Pre.trans{Y7:List e_}(a:Pre μ Y0)(b:Pre Y0 Y7):Pre μ Y7:=by
 obtain⟨t,rfl⟩:=a;obtain⟨u,rfl⟩:=b;exact⟨t++u,by simp⟩
variable{n:Nat}{a:e_}
theorem Pre.get{Y6:List e_}(p:Pre μ Y6)(h:μ[n]?=a_ a):Y6[n]?=a_ a:=by
 obtain⟨t,rfl⟩:=p;rw[aT ((ag.mp h).1)];omega
variable{p:e_}
theorem bD.new{o:HO}(h:H p=b_):bD H (upd H p o):=⟨λa vs e=>by rw[bB (bF e h)];omega,λa _ _ e=>by rw[bB (bF e h)];omega⟩
theorem bD.wr{xs ys:List V}(h:H p=a_ (.lst xs)):bD H (upd H p (.lst ys)):=⟨λa vs e=>by
 rw[bB (tJ e h (by grind))];omega,λa _ _ e=>by
 rw[bB (tJ e h (by grind))];omega⟩
mutual
theorem RU.mono{H H':Hp}{μ Y6:List e_}(k:bD H H')(p:Pre μ Y6):∀(u:U) (v:V),RU H μ u v->RU H' Y6 u v
 |.non,_,h=>by simpa [RU]using h
 |.bl _,_,h=>by simpa [RU]using h
 |.int _,_,h=>by simpa [RU]using h
 |.str _,_,h=>by simpa [RU]using h
 |.obj _,_,h=>by simpa [RU]using h
 | .ref n,v,h=>by
   simp only[RU]at h ⊢;obtain⟨a,e,q⟩:=h;exact⟨a,e,p.get q⟩
 | .tup us,v,h=>by
   simp only[RU]at h ⊢;obtain⟨a,vs,e,q,r⟩:=h;exact⟨a,vs,e,k a vs q,RUs.mono k p us vs r⟩
theorem RUs.mono{H H':Hp}{μ Y6:List e_}(k:bD H H')(p:Pre μ Y6):∀(us:List U) (vs:List V),RUs H μ us vs->RUs H' Y6 us vs
 |[],_,h=>by simpa [RUs]using h
 | u::us,vs,h=>by
   simp only[RUs]at h ⊢;obtain⟨v,r,e,a,b⟩:=h;exact⟨v,r,e,RU.mono k p u v a,RUs.mono k p us r b⟩
end
section
variable {H:Hp}{μ:List e_}
theorem RUs.nil:RUs H μ [] []:=by simp[RUs]
theorem RUs.cons{u:U}{us:List U}{v:V}{vs:List V}(a:RU H μ u v)(b:RUs H μ us vs):RUs H μ (u::us) (v::vs):=⟨v,vs,rfl,a,b⟩
variable{us:List U}{vs:List V}
theorem RUs.inv{u:U}(h:RUs H μ (u::us) vs):∃v r,vs=v::r/\RU H μ u v/\RUs H μ us r:=by simpa only [RUs]using h
theorem RUs.nil_inv(h:RUs H μ [] vs):vs=[]:=by simpa only [RUs]using h
theorem RUs.len:∀{us:List U}{vs:List V},RUs H μ us vs->1#1=2#1
 |[],vs,h=>by rw[h.nil_inv];rfl
 | u::us,vs,h=>by
   obtain⟨v,r,rfl,_,b⟩:=h.inv;simp[b.len]
theorem RUs.get:∀{us:List U}{vs:List V}{i:Nat}{u:U},RUs H μ us vs->us[i]?=a_ u->∃v,vs[i]?=a_ v/\RU H μ u v
 |[],vs,i,u,h,e=>by simp at e
 | x::us,vs,0,u,h,e=>by
   obtain⟨v,r,rfl,a,b⟩:=h.inv
   simp_all
 | x::us,vs,i+1,u,h,e=>by
   obtain⟨v,r,rfl,a,b⟩:=h.inv;obtain⟨w,h1,h2⟩:=RUs.get b (by simpa using e)
   simp_all
theorem RUs.append:∀{us ws:List U}{vs xs:List V},RUs H μ us vs->RUs H μ ws xs->RUs H μ (us++ws) (vs++xs)
 |[],ws,vs,xs,h,g=>by rw[h.nil_inv];exact g
 | u::us,ws,vs,xs,h,g=>by
   obtain⟨v,r,rfl,a,b⟩:=h.inv;exact .cons a (b.append g)
theorem RUs.set{u:U}{v:V}(q:RU H μ u v):∀{us:List U}{vs:List V} (i:Nat),RUs H μ us vs->RUs H μ (us.set i u) (vs.set i v)
 |[],vs,i,h=>by rw[h.nil_inv];simpa using RUs.nil
 | x::us,vs,0,h=>by
   obtain⟨w,r,rfl,a,b⟩:=h.inv;exact .cons q b
 | x::us,vs,i+1,h=>by
   obtain⟨w,r,rfl,a,b⟩:=h.inv;exact .cons a (RUs.set q i b)
theorem RUs.eraseIdx:∀{us:List U}{vs:List V} (i:Nat),RUs H μ us vs->RUs H μ (us.eraseIdx i) (vs.eraseIdx i)
 |[],vs,i,h=>by rw[h.nil_inv];simpa using RUs.nil
 | x::us,vs,0,h=>by
   obtain⟨w,r,rfl,a,b⟩:=h.inv;exact b
 | x::us,vs,i+1,h=>by
   obtain⟨w,r,rfl,a,b⟩:=h.inv;exact .cons a (RUs.eraseIdx i b)
theorem RUs.drop:∀{us:List U}{vs:List V} (i:Nat),RUs H μ us vs->RUs H μ (us.drop i) (vs.drop i)
 |us,vs,0,h=>h
 |[],vs,i+1,h=>by rw[h.nil_inv];simpa using RUs.nil
 | x::us,vs,i+1,h=>by
   obtain⟨w,r,rfl,a,b⟩:=h.inv;exact RUs.drop i b
theorem RUs.take:∀{us:List U}{vs:List V} (i:Nat),RUs H μ us vs->RUs H μ (us.take i) (vs.take i)
 |us,vs,0,h=>by simpa using RUs.nil
 |[],vs,i+1,h=>by rw[h.nil_inv];simpa using RUs.nil
 | x::us,vs,i+1,h=>by
   obtain⟨w,r,rfl,a,b⟩:=h.inv;exact .cons a (RUs.take i b)
theorem RUs.dropLast(h:RUs H μ us vs):RUs H μ us.dropLast vs.dropLast:=by
 rw[JU,JU,h.len];exact h.take _
theorem RUs.ints:∀(ns:List Int),RUs H μ (ns.map U.int) (ns.map V.int)
 |[]=>.nil
 |n::ns=>.cons (by simp[RU]) (RUs.ints ns)
end
structure KX where
 K:aq
 caps:List U
 capv:List V
 cds:List (e_×Obj)
 tabs:List (e_×Str)
instance:Coe KX aq:=⟨KX.K⟩
def fz:HO:= .ext λ_=>True
def CN(H:Hp)(P:e_)(q:Str):Prop:= ∃ps:Array f_,H P=a_ (.tbl ps)/\TriplesOk ps.toList /\
 ∀pos cv,codeAmong pos ps.toList=a_ cv->∃c oc vs t,cv=.ref c/\H c=a_ (.frz oc fz)/\oc.data=.fields vs/\vs[1]?=a_ (.str q t)
structure HX(K:KX)(μ:List e_)(H:Hp):Prop where
 cap:RUs H μ K.caps K.capv
 cds:∀q∈K.cds,H q.1=a_ (.frz q.2 fz)
 tab:∀q∈K.tabs,CN H q.1 q.2
theorem HX.upd{K:KX}{μ Y6:List e_}{H:Hp}{p:e_}{o':HO}(h:HX K μ H)(kp:bD H (upd H p o'))(pre:Pre μ Y6)(nf:∀o,H p=a_ o->(∀o' u,o≠.frz o' u) /\ ∀ps,o≠.tbl ps):HX K Y6 (upd H p o'):=by
 have f:∀a o u,H a=a_ _->_L.upd H p o' a=a_ (.frz o u):=λa o u e=>by
  rw[bB]
  .omega
  .rintro rfl
   exact(nf _ e).1 o u rfl
 refine⟨RUs.mono kp pre _ _ h.cap,λq hq=>f _ _ _ (h.cds q hq),λq hq=>?_⟩;obtain⟨ps,e,tr,al⟩:=h.tab q hq;refine⟨ps,?_,tr,λpos cv hc=>?_⟩
 .rw[bB]
  .omega
  .intro z
   rw[z]at e;exact(nf _ e).2 ps rfl
 .obtain⟨c,oc,vs,t,e1,e2,e3,e4⟩:=al _ cv hc
  exact⟨c,oc,vs,t,e1,f _ _ _ e2,e3,e4⟩
def dV{κ:Type}(kvs:List (κ×U))(vs:List V):List (κ×V):=(kvs.map (·.1)).zip vs
def pJ(K:KX)(H:Hp)(μ:List e_)(a:e_):Cell->Prop
 |.lst us=>∃vs,H a=a_ (.lst vs)/\RUs H μ us vs
 |.frz us=>∃vs,((∃o,H a=a_ (.frz o (.lst vs)))\/SqL K (λ_=>b_) a vs)/\RUs H μ us vs
 |.dic kvs=>∃vs,H a=a_ (.dK (dV kvs vs))/\RUs H μ (kvs.map (·.2)) vs
 |.dit d_ kvs=>∃vs,H a=a_ (.dT (dV kvs vs))/\RUs H μ (kvs.map (·.2)) vs
 |.dit c_ kvs=>∃vs,(∃o,H a=a_ (.frz o (.dT (dV kvs vs))))/\RUs H μ (kvs.map (·.2)) vs
def Cell.own:Cell->Bool
 |.frz _=>d_
 |.dit f _=>!f
 |_=>c_
structure HR(K:KX)(μ:List e_)(S:Sto)(H:Hp):Prop where
 len:μ.length=S.length
 inj:∀(n m:Nat) (c d:Cell),S[n]?=a_ c->S[m]?=a_ d->c.own=c_->d.own=c_->μ[n]?=μ[m]? -> n=m
 cell:∀(n:Nat) (c:Cell) (a:e_),S[n]?=a_ c->μ[n]?=a_ a->pJ K H μ a c
 ext:HX K μ H
structure ER(H:Hp)(μ:List e_)(G:Rho)(σ:St):Prop where
 len:G.length=σ.length
 get:∀(i:Nat) (u:U),G[i]?=a_ (a_ u)->∃v,σ[i]?=a_ (a_ v)/\RU H μ u v
theorem ER.mono{H H':Hp}{μ Y6:List e_}{G:Rho}{σ:St}(e:ER H μ G σ)(k:bD H H')(p:Pre μ Y6):ER H' Y6 G σ:=
 ⟨e.len,λi u h=>let ⟨v,a,b⟩:=e.get i u h;⟨v,a,RU.mono k p u v b⟩⟩
variable{u:U}{G:Rho}{σ:St}{v:V}
theorem ER.set(e:ER H μ G σ)(r:RU H μ u v)(i:Nat):ER H μ (G.set i (a_ u)) (σ.set i (a_ v)):=by
 refine⟨by simpa using e.len,λj w h=>?_⟩;by_cases hj:i=j
 .subst hj
  rw[List.getElem?_set]at h;simp only[if_true]at h
  split at h
  .cases h
   refine⟨v,?_,r⟩;rw[aV (by rw[<-e.len];omega)]
  .cases h
 .rw[aN hj]at h
  obtain⟨x,a,b⟩:=e.get j w h
  simp_all
theorem ER.push(e:ER H μ G σ)(r:RU H μ u v):ER H μ (G++[a_ u]) (σ++[a_ v]):=by
 refine⟨by simp[e.len],λj w h=>?_⟩;by_cases hj:j<G.length
 .rw[aT hj]at h
  obtain⟨x,a,b⟩:=e.get j w h;exact⟨x,by rw[aT (by rw[<-e.len];lia)];lia,b⟩
 .have Zz:j=G.length:=by
   have:=(ag.mp h).1;simp at this;lia
  subst Zz;simp at h;subst h;refine⟨v,?_,r⟩;rw[e.len];simp
section
variable {K:KX}{H:Hp}{μ:List e_}{S:Sto}
theorem pJ.mono{H':Hp}{Y6:List e_}{a:e_}{c:Cell}(h:pJ K H μ a c)(k:bD H H')(p:Pre μ Y6)(l:c.own=c_->H' a=H a)(f:∀o u,H a=a_ (.frz o u)->H' a=a_ (.frz o u)):pJ K H' Y6 a c:=by
 cases c with
 | lst us=>
   obtain⟨vs,e,r⟩:=h;exact⟨vs,(l rfl).trans e,RUs.mono k p us vs r⟩
 | dic kvs=>
   obtain⟨vs,e,r⟩:=h;exact⟨vs,(l rfl).trans e,RUs.mono k p _ vs r⟩
 | dit b kvs=>
   cases b with
   | false=>
     obtain⟨vs,e,r⟩:=h;exact⟨vs,(l rfl).trans e,RUs.mono k p _ vs r⟩
   | true=>
     obtain⟨vs,⟨o,e⟩,r⟩:=h;exact⟨vs,⟨o,f o _ e⟩,RUs.mono k p _ vs r⟩
 | frz us=>
   obtain⟨vs,e,r⟩:=h;refine⟨vs,?_,RUs.mono k p us vs r⟩
   grind
variable{c:Cell}
theorem pJ.has(h:pJ K H μ a c)(ho:c.own=c_):∃o,H a=a_ o/\(∀vs,o≠.tup vs)/\(∀o' u,o≠.frz o' u) /\ ∀ps,o≠.tbl ps:=by
 cases c with
 |lst us=>obtain⟨vs,e,r⟩:=h;simp_all
 |dic kvs=>obtain⟨vs,e,r⟩:=h;simp_all
 | dit b kvs=>
   cases b with
   |false=>obtain⟨vs,e,r⟩:=h;simp_all
   |true=>cases ho
 |frz us=>cases ho
variable{o':HO}
theorem bD.wrG{H:Hp}{o:HO}(h:H p=a_ o)(ht: ∀vs,o≠.tup vs)(hf: ∀ob u,o≠.frz ob u):bD H (upd H p o'):=⟨λa vs e=>by
 rw[bB (tJ e h (eD (ht vs)))];omega,λa ob u e=>by
 rw[bB (tJ e h (eD (hf ob u)))];omega⟩
theorem HR.get(h:HR K μ S H)(e:S[n]?=a_ c):∃a,μ[n]?=a_ a/\pJ K H μ a c:=by
 have hn:n<μ.length:=by rw[h.len];exact(ag.mp e).1
 exact⟨μ[n],by simp,h.cell n c _ e 0#4⟩
theorem HR.wrC(h:HR K μ S H){d:Cell}(e:S[n]?=a_ c)(ea:μ[n]?=a_ a)(hc:c.own=c_)(r:pJ K (upd H a o') μ a d):HR K μ (S.set n d) (upd H a o'):=by
 obtain⟨o,e0,nt,nf,nb⟩:=(h.cell n _ a e ea).has hc;have kp:bD H (upd H a o'):=bD.wrG e0 nt nf;have hn:=(ag.mp e).1;have pick:∀(m:Nat) (c':Cell),(S.set n d)[m]?=a_ c'->c'.own=c_->∃Td,S[m]?=a_ Td/\Td.own=c_:=λm c' q hq=>by
  by_cases hm:n=m<;>simp_all
 refine⟨by rw[jd];exact h.len,λi j u1 u2 q1 q2 o1 o2 q3=>?_,λm c' b q1 q2=>?_,h.ext.upd kp 2#2 λo1 q=>by simp_all⟩
 .obtain⟨w1,z1,y1⟩:=pick i u1 q1 o1
  obtain⟨w2,z2,y2⟩:=pick j u2 q2 o2;exact h.inj i j w1 w2 z1 z2 y1 y2 q3
 .by_cases hm:n=m
  .simp_all
  .rw[aN hm]at q1
   refine(h.cell m c' b q1 q2).mono kp 2#2 (λWv=>?_) λo u hf=>?_
   .refine bB ?_
    rintro rfl;exact hm (h.inj n m c c' e q1 hc Wv (ea.trans q2.symm))
   .rw[bB (tJ hf e0 (eD (nf o u)))];omega
theorem HR.wr(h:HR K μ S H){n:Nat}{us ws:List U}{vs:List V}{a:e_}(e:S[n]?=a_ (.lst us))(ea:μ[n]?=a_ a)(r:RUs H μ ws vs):HR K μ (S.set n (.lst ws)) (upd H a (.lst vs)):=by
 obtain⟨TN,e0,r0⟩:=h.cell n _ a e ea;exact h.wrC e ea rfl ⟨vs,du,RUs.mono (bD.wr e0) 2#2 ws vs r⟩
theorem HR.newC(h:HR K μ S H){d:Cell}(hp:H p=b_)(hd:d.own=c_)(r:pJ K (upd H p o') (μ++[p]) p d):HR K (μ++[p]) (S++[d]) (upd H p o'):=by
 have kp:bD H (upd H p o'):=bD.new hp;have pre:Pre μ _:=⟨[p],rfl⟩;have old:∀(n:Nat) (c:Cell),n<0#7->(S++[d])[n]?=a_ c->S[n]?=a_ c:=λn c hn q=>by rwa[aT hn]at q
 have last:∀(n:Nat) (c:Cell),¬n<0#7->(S++[d])[n]?=a_ c->n=0#7:=λn c hn q=>by
  have:=(ag.mp q).1;simp at this;lia
 have fresh:∀(n:Nat) (c:Cell),S[n]?=a_ c->c.own=c_->∀a,μ[n]?=a_ a->a≠p:=λn c q hc a qa=>by
  obtain⟨o,e,_⟩:=(h.cell n _ a q qa).has hc;exact bF e hp
 have YL:(μ++[p])[0#7]?=a_ p:=by rw[<-h.len];simp
 have YS:∀(n:Nat),n<0#7->(μ++[p])[n]?=μ[n]? := λn hn=>aT (by rw[h.len];exact hn);refine⟨by simp[h.len],λi j u1 u2 q1 q2 o1 o2 q3=>?_,λm c b q1 q2=>?_,h.ext.upd kp pre λo1 q=>by rw[hp]at q;cases q⟩
 .by_cases hi:i<0#7
  .by_cases hj:j<0#7
   .rw[YS i hi,YS j hj]at q3
    exact h.inj i j u1 u2 (old i _ hi q1) (old j _ hj q2) o1 o2 q3
   .have e:=last j _ hj q2
    subst e;obtain⟨a,ha,_⟩:=h.get (old i _ hi q1);rw[YS i hi,YL,ha]at q3;exact absurd (eR q3) (fresh i u1 (old i _ hi q1) o1 a ha)
  .have e:=last i _ hi q1
   subst e;by_cases hj:j<0#7
   .obtain⟨a,ha,_⟩:=h.get (old j _ hj q2)
    rw[YS j hj,YL,ha]at q3;exact absurd (eR q3).symm (fresh j u2 (old j _ hj q2) o2 a ha)
   .exact(last j _ hj q2).symm
 .by_cases hm:m<0#7
  .rw[YS m hm]at q2
   refine(h.cell m c b (old m c hm q1) q2).mono kp pre (λhc=>?_) λo u hf=>?_
   .exact bB (fresh m c (old m _ hm q1) hc b q2)
   .rw[bB (bF hf hp)];exact hf
  .have e:=last m c hm q1
   subst e;rw[YL]at q2;cases q2;simp at q1;subst q1;exact r
theorem HR.new(h:HR K μ S H){us:List U}{vs:List V}{p:e_}(hp:H p=b_)(r:RUs H μ us vs):HR K (μ++[p]) (S++[.lst us]) (upd H p (.lst vs)):=
 h.newC hp rfl ⟨vs,du,RUs.mono (bD.new hp) ⟨_,rfl⟩ us vs r⟩
theorem HR.tup(h:HR K μ S H){vs:List V}{p:e_}(hp:H p=b_):HR K μ S (upd H p (.tup vs)):=by
 have kp:bD H (upd H p (.tup vs)):=bD.new hp;refine⟨h.len,h.inj,λm c b q1 q2=>(h.cell m c b q1 q2).mono kp 2#2 (λhc=>?_) λo u hf=>?_,h.ext.upd kp 2#2 λo1 q=>by grind⟩
 .obtain⟨o,e,_⟩:=(h.cell m _ b q1 q2).has hc
  exact bB (bF e hp)
 .rw[bB (bF hf hp)];omega
theorem HR.sq(h:HR K μ S H){us:List U}(e:getL S n=a_ us):∃a vs,μ[n]?=a_ a/\SqL K H a vs/\RUs H μ us vs:=by
 unfold getL at e
 split at e
 .rename_i ws q
  cases e;obtain⟨a,ha,vs,e1,r⟩:=h.get q;exact⟨a,vs,ha,SqL.of e1,r⟩
 .rename_i ws q
  cases e;obtain⟨a,ha,vs,e1,r⟩:=h.get q;refine⟨a,vs,ha,?_,r⟩;rcases e1 with⟨o,e1⟩|e1
  .exact .inl (.inr ⟨o,e1⟩)
  .rcases e1 with (e1|⟨o,e1⟩)|e1
   .cases e1
   .cases e1
   .exact .inr e1
 .cases e
 .cases e
 .cases e
end
def Aft(K:KX)(μ:List e_)(H:Hp)(u:U)(S':Sto)(Q:VK):Prop:= ∀Y6 v H',Pre μ Y6->bD H H'->HR K Y6 S' H'->RU H' Y6 u v->Q v H'
def tM(K:KX)(m:ME):TE:=λσ H Q=>∃μ S G u S',HR K μ S H/\ER H μ G σ/\m G S=a_ (u,S')/\Aft K μ H u S' Q
def tMT(K:KX)(m:MT):TT:=λσ H Q=>∃μ S G b S',HR K μ S H/\ER H μ G σ/\m G S=a_ (b,S') /\ ∀Y6 H',Pre μ Y6->bD H H'->HR K Y6 S' H'->Q b H'
def tMA(K:KX)(m:MA):TA:=λσ H Q=>∃μ S G us S',HR K μ S H/\ER H μ G σ/\m G S=a_ (us,S') /\ ∀Y6 vs H',Pre μ Y6->bD H H'->HR K Y6 S' H'->RUs H' Y6 us vs->Q vs H'
def FlP(K:KX)(μ:List e_)(H:Hp)(D:Ends):Fl×Rho×Sto->Prop
 |(.nx,Y4,S')=>∀Y6 Y3 H',Pre μ Y6->bD H H'->HR K Y6 S' H'->ER H' Y6 Y4 Y3->D.nx Y3 H'
 |(.bk,Y4,S')=>∀Y6 Y3 H',Pre μ Y6->bD H H'->HR K Y6 S' H'->ER H' Y6 Y4 Y3->D.bk Y3 H'
 |(.ct,Y4,S')=>∀Y6 Y3 H',Pre μ Y6->bD H H'->HR K Y6 S' H'->ER H' Y6 Y4 Y3->D.ct Y3 H'
 |(.rt u,_,S')=>Aft K μ H u S' D.rt
def tMS(K:KX)(m:MS):TS:=λD σ H=>∃μ S G r,HR K μ S H/\ER H μ G σ/\m G S=a_ r/\FlP K μ H D r
variable{K:KX}{S':Sto}{Q:VK}
theorem Aft.mono(a:Aft K μ H u S' Q)(p:Pre μ Y0)(k:bD H H1):Aft K Y0 H1 u S' Q:=
 λY6 v H' p' k'=>a _ v H' (p.trans p') (k.trans k')
theorem FlP.mono{K:KX}{μ Y0:List e_}{H H1:Hp}{D:Ends}{r:Fl×Rho×Sto}(a:FlP K μ H D r)(p:Pre μ Y0)(k:bD H H1):FlP K Y0 H1 D r:=by
 obtain⟨f,Y4,S'⟩:=r;cases f with
 |nx=>exact λY6 Y3 H' p' k'=>a _ _ H' (p.trans p') (k.trans k')
 |bk=>exact λY6 Y3 H' p' k'=>a _ _ H' (p.trans p') (k.trans k')
 |ct=>exact λY6 Y3 H' p' k'=>a _ _ H' (p.trans p') (k.trans k')
 |rt u=>exact Aft.mono a p k
section
variable {K:KX}{σ:St}{H:Hp}{Q:VK}
theorem vT{A B:Prop}(h:A):if c_=c_ then A else B:=by grind
theorem u0{A B:Prop}(h:B):if d_=c_ then A else B:=by grind
theorem Ph{i:Nat}(h:tM K (ae i) σ H Q):QS i σ H Q:=by
 obtain⟨μ,S,G,u,S',hr,er,e,k⟩:=h;unfold ae at e
 split at e
 .rename_i w q
  cases e;obtain⟨v,hv,ru⟩:=er.get i _ q;exact⟨v,hv,k μ v H 2#2 (bD.refl _) hr ru⟩
 .cases e
theorem r_c(hv:∀H μ,RU H μ u v)(h:tM K (mC u) σ H Q):tC v σ H Q:=by
 obtain⟨μ,S,G,u',S',hr,er,e,k⟩:=h;cases e;exact k μ v H 2#2 (bD.refl _) hr (hv _ _)
def OpU(K:KX)(r:R2)(f:F2):Prop:= ∀(μ:List e_) (S:Sto) (H:Hp) (x y:U) (vx vy:V) (u:U) (S':Sto) (Q:VK),HR K μ S H->RU H μ x vx->RU H μ y vy->f x y S=a_ (u,S')->Aft K μ H u S' Q->r vx vy H Q
variable{f:F2}
theorem yR{r:R2}{a b:ME}(o:OpU K r f)(h:tM K (m2 f a b) σ H Q):tOp r (tM K a) (tM K b) σ H Q:=by
 obtain⟨μ,S,G,u,S',hr,er,e,k⟩:=h;obtain⟨x,S1,e1,e⟩:=be e;obtain⟨y,S2,e2,e⟩:=be e;exact⟨μ,S,G,x,S1,hr,er,e1,λY0 vx H1 p1 k1 ZZ rx=>⟨_,S1,G,y,S2,ZZ,er.mono k1 p1,e2,λY7 vy H2 p2 k2 ZS ry=>(o _ S2 H2 x y vx vy u S' Q ZS (RU.mono k2 p2 x vx rx) ry e (k.mono (p1.trans p2) (k1.trans k2)))⟩⟩
def UnU(K:KX)(r:V->Hp->VK->Prop)(f:U->Sto->Res U):Prop:= ∀(μ:List e_) (S:Sto) (H:Hp) (x:U) (vx:V) (u:U) (S':Sto) (Q:VK),HR K μ S H->RU H μ x vx->f x S=a_ (u,S')->Aft K μ H u S' Q->r vx H Q
theorem RJ{r:V->Hp->VK->Prop}{f:U->Sto->Res U}{a:ME}(o:UnU K r f)(h:tM K (m1 f a) σ H Q):tUn r (tM K a) σ H Q:=by
 obtain⟨μ,S,G,u,S',hr,er,e,k⟩:=h;obtain⟨x,S1,e1,e⟩:=be e;exact⟨μ,S,G,x,S1,hr,er,e1,λY0 vx H1 p1 k1 ZZ rx=>(o _ S1 H1 x vx u S' Q ZZ rx e (k.mono p1 k1))⟩
variable{S:Sto}
theorem Aft.now(k:Aft K μ H u S Q)(hr:HR K μ S H)(r:RU H μ u v):Q v H:=k μ v H 2#2 (bD.refl _) hr r
variable{i:Int}
theorem fZ:RU H μ (.int i) (.int i):=by simp[RU]
variable{b:Bool}
theorem jW:RU H μ (.bl b) (.bl b):=by simp[RU]
theorem p8:RU H μ .non .non:=by simp[RU]
variable{us:List U}{vs:List V}
theorem jO(e:H a=a_ (.tup vs))(r:RUs H μ us vs):RU H μ (.tup us) (.ref a):=⟨a,vs,rfl,e,r⟩
theorem z7(e:μ[n]?=a_ a):RU H μ (.ref n) (.ref a):=⟨a,rfl,e⟩
theorem dI(h:RU H μ (.int i) v):v=.int i:=by simpa only [RU]using h
theorem kB(h:RU H μ (.bl b) v):v=.bl b:=by simpa only [RU]using h
theorem gq(h:RU H μ (.tup us) v):∃a vs,v=.ref a/\H a=a_ (.tup vs)/\RUs H μ us vs:=by simpa only [RU]using h
theorem gQ(h:RU H μ (.ref n) v):∃a,v=.ref a/\μ[n]?=a_ a:=by simpa only [RU]using h
variable{g:Int->Int->V}
theorem DS{k:Int->Int->U}(hf:∀x y S u S',f x y S=a_ (u,S')->∃i j,x=.int i/\y=.int j/\u=k i j/\S'=S)(hg:∀H μ i j,RU H μ (k i j) (g i j)):OpU K (rI0 g) f:=by
 intro μ S H x y vx vy u S' Q hr rx ry e a;obtain⟨i,j,rfl,rfl,rfl,rfl⟩:=hf x y S u S' e;exact⟨i,j,dI rx,dI ry,a.now hr (hg _ _ _ _)⟩
theorem CZ{C:Int->Int->Prop}{k:Int->Int->U}(hf:∀x y S u S',f x y S=a_ (u,S')->∃i j,x=.int i/\y=.int j/\C i j/\u=k i j/\S'=S)(hg:∀H μ i j,RU H μ (k i j) (g i j)):OpU K (rI C g) f:=by
 intro μ S H x y vx vy u S' Q hr rx ry e a;obtain⟨i,j,rfl,rfl,c,rfl,rfl⟩:=hf x y S u S' e;exact⟨i,j,dI rx,dI ry,c,a.now hr (hg _ _ _ _)⟩
theorem OA:OpU K (rI0 λi j => .int (i - j)) xw:=DS (λx y S u S' h=>by
 unfold xw at h;split at h <;> simp at h;simp_all) λ_ _ _ _=>fZ
def L6(K:aq):R2:=λx y H Q=>∃l k xs,x=.ref l/\y=.int k/\H l=a_ (.tup xs)/\EV xs.length k/\(k=1->Q (.ref l) H)/\(k≠1->∀p,H p=b_->Q (.ref p) (upd H p (.tup (aS k.toNat xs).flatten)))
theorem vn(ZY:List f_):∀(m:Nat) (a:List f_),Cd (λx1 x2=>x1++x2) a.toArray (aS m ZY.toArray)=(a++(aS m ZY).flatten).toArray
 |0,a=>by simp
 | m+1,a=>by
   rw[t9,gW,List.append_toArray,vn _ m _,t9,mZ,bz]
theorem RUs.rep{H:Hp}{μ:List e_}{us:List U}{vs:List V}(r:RUs H μ us vs):∀(m:Nat),RUs H μ (aS m us).flatten (aS m vs).flatten
 |0=>by simpa using RUs.nil
 |m+1=>r.append (RUs.rep r m)
theorem KY{X:Cx}:OpR X (binaryOp .Mult) (L6 X.K):=by
 intro pins s σ H x y v u Q I rx ry h;obtain⟨l,k,xs,rfl,rfl,hH,⟨h1,h2,h3,h4⟩,q1,q2⟩:=h;cases (rx);obtain⟨t,rfl⟩:=ry;obtain⟨z,ZY,r,⟨⟨cls,dd,data,sl⟩,e,c,n,d⟩,_⟩:=I.hok l _ hH;subst c d;have hl:=r.length.symm;refine wpAny_binaryOp_repeat_ref 0#2 ⟨_,e,rfl⟩ (λs'=>typeIs_int s' k t) sZ F.fills_int_mul F.slot_int_rmul rfl F.slot_int_index.lookup
  (call_meets F.slot_int_rmul (typeIs_int s k t) F.entry_int_rmul (F.args_int_rmul_2 _ _) ((show Meets (Builtin.«int.__rmul__» ⟨[.int k t,.ref l],[]⟩) (fun _ R s=>s.heap.get? l=a_ { cls := .type "tuple",dict:=dd,data := .seq _ n,slots:=sl }/\R (.ok (.ret Value.notImplemented)) s) from .of_wp fun prog w A R s h=>by obtain⟨hl,h⟩:=h;wp_walk;simp_all)) ⟨e,rfl,⟨_,e,rfl⟩,?_⟩)
 by_cases hk:k=1
 .subst hk
  exact call_meets B7 ⟨_,e,rfl⟩ Ac (xD _ _) ((show Meets (Builtin.«tuple.__mul__» ⟨[.ref l,.int 1 t],[]⟩) (fun _ R s=>s.heap.get? l=a_ { cls := .type "tuple",dict:=dd,data := .seq _ n,slots:=sl }/\R (.ok (.ret (bZ l))) { s with toks:=s.toks }) from .of_wp fun prog w A R s h=>by
  obtain⟨hl,h⟩:=h
  wp_walk using fo hl
  exact⟨_,rfl,h⟩)) ⟨e,⟨.ref l,H,I,rfl,q1 rfl⟩⟩
 .by_cases hk0:k=0
  .subst hk0
   refine call_meets B7 ⟨_,e,rfl⟩ Ac (xD _ _) (Ci l _ n dd sl t ?_) ⟨e,?_⟩
   .grind
   .exact⟨.ref _,_,I.laid (o:= .tup []) (λb ob q=>af _ q) (ak _) ⟨bS _,[],.nil,rJ _ _,_,av _ rfl,rfl⟩,rfl,by simpa using q2 hk _ (I.hok.fresh (ak _))⟩
  refine call_meets B7 ⟨_,e,rfl⟩ Ac (xD _ _) (Dy l _ n dd sl k t ?_ 0#0 h2 (by grind)) ⟨e,?_⟩
  .grind
  .rw[vn _ _ []]
   refine⟨.ref _,_,I.laid (λb ob q=>af _ q) (ak _) ?_,rfl,q2 hk _ (I.hok.fresh (ak _))⟩;refine⟨?_,_,r.rep _,rJ _ _,_,av _ rfl,rfl⟩;rw[len_rep,sizeLine_eq];have:k.toNat*1#2<=1000*1#2:=iG _ 0#0
   lia
theorem Nv:OpU K (λx y H Q=>rI Lx (λi j=>.int (i*j)) x y H Q\/L6 K x y H Q) iB:=by
 intro μ S H x y vx vy u S' Q hr rx ry e a;unfold iB at e
 split at e
 .split at e
  .rename_i hc
   simp at e;obtain⟨rfl,rfl⟩:=e;exact .inl ⟨_,_,dI rx,dI ry,hc,a.now hr fZ⟩
  .cases e
 .rename_i xs k
  split at e
  .rename_i hc
   simp at e;obtain⟨rfl,rfl⟩:=e;obtain⟨p,vs,rfl,hp,r1⟩:=gq rx;refine .inr ⟨p,k,vs,rfl,dI ry,hp,by rw[<-r1.len];exact hc,λhk=>?_,λhk t ht=>?_⟩
   .subst hk
    have e1:(aS (1:Int).toNat xs).flatten=xs:=by simp
    rw[e1]at a;exact a.now hr (jO hp r1)
   .exact a μ _ _ 2#2 (bD.new ht) (hr.tup ht) (jO du (RUs.mono (bD.new ht) 2#2 _ _ (r1.rep _)))
  .cases e
 .cases e
theorem NO:OpU K (rI PC λi j => .int (i / j)) oDiv:=CZ (k:=λi j => .int (i / j)) (λx y S u S' h=>by
 unfold oDiv at h;split at h
 .split at h
  .rename_i hc;simp at h;obtain⟨rfl,rfl⟩:=h;exact⟨_,_,rfl,rfl,hc,rfl,rfl⟩
  .cases h
 ·cases h) λ_ _ _ _=>fZ
theorem Nu:OpU K (rI Pk λi j => .int (i ^ j.toNat)) FP:=CZ (k:=λi j => .int (i ^ j.toNat)) (λx y S u S' h=>by
 unfold FP at h;split at h
 .split at h
  .rename_i hc;simp at h;obtain⟨rfl,rfl⟩:=h;exact⟨_,_,rfl,rfl,hc,rfl,rfl⟩
  .cases h
 ·cases h) λ_ _ _ _=>fZ
theorem zE{p:Int->Int->Bool}:OpU K (rI0 λi j => .bl (p i j)) (FE p):=DS (λx y S u S' h=>by
 unfold FE at h;split at h <;> simp at h;simp_all) λ_ _ _ _=>jW
def Mj(K:aq):R2:=λx y H Q=>∃a b ys,x=.ref a/\y=.ref b/\SqT K H a []/\SqT K H b ys/\Q (.ref b) H
theorem K1{X:Cx}:OpR X (binaryOp .Add) (Mj X.K):=by
 intro pins s σ H x y v u Q I rx ry h;obtain⟨a,b,ys,rfl,rfl,h1,h2,q⟩:=h;cases (rx);cases (ry);obtain⟨ZY,r1,p1,_⟩:=I.tuple h1;obtain⟨ZA,r2,p2,_⟩:=I.tuple h2;cases r1;exact HT.cat_tup0 p1 p2 ⟨.ref b,H,I,rfl,q⟩
theorem Nf:OpU K (λx y H Q=>rI0 (λi j=>.int (i+j)) x y H Q\/Mc K x y H Q\/Mj K x y H Q) eQ:=by
 intro μ S H x y vx vy u S' Q hr rx ry e a;unfold eQ at e
 split at e
 .simp at e;obtain⟨rfl,rfl⟩:=e
  exact .inl ⟨_,_,dI rx,dI ry,a.now hr fZ⟩
 .rename_i xs ys
  split at e
  .rename_i hc
   simp at e;obtain⟨rfl,rfl⟩:=e;obtain⟨p,vs,rfl,hp,r1⟩:=gq rx;obtain⟨q,ws,rfl,hq,r2⟩:=gq ry;by_cases hx:xs=[]
   .subst hx
    have hv:vs=[]:=by have:=r1.len;exact d5 (by simpa using this.symm)
    subst hv;exact .inr (.inr ⟨p,q,ws,rfl,rfl,.inl (.inl hp),.inl (.inl hq),a.now hr (jO hq r2)⟩)
   refine .inr (.inl ⟨p,q,vs,ws,rfl,rfl,.inl (.inl hp),.inl (.inl hq),?_,?_,λz=>?_,λz t ht=>?_⟩)
   .intro z;subst z;have:=r1.len;exact hx (d5 (by simpa using this))
   .have h1:=r1.len;have h2:=r2.len;unfold big at hc;rw[sizeLine_eq];lia
   .subst z
    have:ys=[]:=by have:=r2.len;exact d5 (by simpa using this)
    subst this;rw[cb]at a;exact a.now hr (jO hp r1)
   .refine a μ _ _ 2#2 (bD.new ht) (hr.tup ht) ?_
    have kp:bD H (upd H t (.tup (vs++ws))):=bD.new ht;exact jO du ((RUs.mono kp 2#2 _ _ r1).append (RUs.mono kp 2#2 _ _ r2))
  .cases e
 .cases e
theorem HR.seq{x:U}(hr:HR K μ S H)(r:RU H μ x v)(e:eA S x=a_ us):∃a vs,v=.ref a/\(SqL K H a vs\/SqT K H a vs)/\RUs H μ us vs:=by
 unfold eA at e
 split at e
 .cases e
  obtain⟨a,vs,rfl,h,q⟩:=gq r;exact⟨a,vs,rfl,.inr (.inl (.inl h)),q⟩
 .obtain⟨a,rfl,ha⟩:=gQ r
  obtain⟨a',vs,YW,hs,q⟩:=hr.sq e;rw[ha]at YW;cases YW;exact⟨a,vs,rfl,.inl hs,q⟩
 .cases e
theorem Kv(r:RUs H μ us vs)(e:atI us i=a_ u):∃v,atI vs i=a_ v/\RU H μ u v:=by
 unfold atI at e ⊢;rw[<-r.len];cases q:ixN _ i with
 |none=>rw[q]at e;cases e
 | some j=>
   rw[q]at e;exact r.get e
theorem rq{y:U}{k:Key}(r:RU H μ y v)(e:keyOf y=a_ k):v=kV k:=by
 cases y<;>simp[keyOf]at e<;>subst e<;>(exact r)
theorem DV{κ:Type}[DecidableEq κ]{μ:List e_}{k:κ}{u:U}:∀{kvs:List (κ×U)}{vs:List V},RUs H μ (kvs.map (·.2)) vs->j0 kvs k=a_ u->∃v,oh (dV kvs vs) k=a_ v/\RU H μ u v
 |[],vs,r,e=>by cases e
 | (j,x)::kvs,vs,r,e=>by
   obtain⟨v,r',rfl,a,b⟩:=r.inv;show ∃w,oh ((j,v)::dV _ r') k=a_ w/\_;by_cases h:j=k
   .rw[nT h]
    simp[j0,h]at e<;>simp_all
   .rw[nD h]
    refine DV b ?_;simpa [j0,je,h]using e
theorem vG{κ:Type}[DecidableEq κ]{k:κ}:∀{kvs:List (κ×U)}{vs:List V},kvs.length=2#1->(oh (dV kvs vs) k).isSome=(j0 kvs k).isSome
 |[],vs,_=>by simp[dV,oh,j0]
 |(j,x)::kvs,[],h=>by simp at h
 | (j,x)::kvs,v::vs,h=>by
   show(oh ((j,v)::dV _ vs) k).isSome=_;by_cases hj:j=k
   .rw[nT hj];simp[j0,hj]
   .rw[nD hj,vG (by simpa using h)];simp[j0,hj]
theorem GT{κ:Type}[DecidableEq κ]{k:κ}:∀{kvs:List (κ×U)}{vs:List V},kvs.length=2#1->((dV kvs vs).any λkv=>decide (kv.1=k))=kvs.any λkv=>decide (kv.1=k)
 |[],vs,_=>by simp[dV]
 |(j,x)::kvs,[],h=>by simp at h
 | (j,x)::kvs,v::vs,h=>by
   show(((j,v)::dV _ vs).any _)=_;rw[m7,m7,GT (by simpa using h)]
theorem HM{κ:Type}{kvs:List (κ×U)}(h:kvs.length=2#1):(dV kvs vs).length=kvs.length:=by
 simp[dV,h]
theorem EI{κ:Type}[DecidableEq κ]{μ:List e_}{k:κ}{u:U}{v:V}(ru:RU H μ u v):∀{kvs:List (κ×U)}{vs:List V},RUs H μ (kvs.map (·.2)) vs ->
  ∃ws,dV (kvs.map λkv=>if kv.1=k then(kv.1,u) else kv) ws=(dV kvs vs).map (λkv=>if kv.1=k then(kv.1,v) else kv)/\RUs H μ ((kvs.map λkv=>if kv.1=k then(kv.1,u) else kv).map (·.2)) ws
 |[],vs,r=>⟨[],by simp[dV],.nil⟩
 | (j,x)::kvs,vs,r=>by
   obtain⟨w,r',rfl,a,b⟩:=r.inv;obtain⟨ws,e,q⟩:=EI ru b;show ∃ws',dV ((if j=k then(j,u) else(j,x))::kvs.map _) _=(if j=k then(j,v) else(j,w))::(dV _ r').map _/\RUs H μ (((if j=k then(j,u) else(j,x))::kvs.map _).map _) _;by_cases h:j=k
   .rw[if_pos h,if_pos h]
    exact⟨_,by rw[<-e];rfl,.cons ru q⟩
   .rw[if_neg h,if_neg h]
    exact⟨_,by rw[<-e];rfl,.cons a q⟩
theorem Kc{κ:Type}[DecidableEq κ]{k:κ}{kvs:List (κ×U)}(ru:RU H μ u v)(r:RUs H μ (kvs.map (·.2)) vs):∃ws,dV (nu kvs k u) ws=putK (dV kvs vs) k v/\RUs H μ ((nu kvs k u).map (·.2)) ws:=by
 have hl:=by have:=r.len;rwa[ar]at this
 unfold nu putK;rw[GT hl]
 split
 .exact EI ru r
 .refine⟨_,?_,by rw[bL];exact r.append (.cons ru .nil)⟩
  unfold dV;rw[bL,List.zip_append (by simpa using hl)];rfl
theorem HR.dic{x:U}{kvs:List (Key×U)}(hr:HR K μ S H)(r:RU H μ x v)(e:gO S x=a_ kvs):∃a vs,v=.ref a/\H a=a_ (.dK (dV kvs vs))/\RUs H μ (kvs.map (·.2)) vs:=by
 unfold gO at e
 split at e
 .split at e
  .rename_i q
   cases e;obtain⟨a,rfl,ha⟩:=gQ r;obtain⟨vs,e1,r1⟩:=hr.cell _ _ a q ha;exact⟨a,vs,rfl,e1,r1⟩
  .cases e
 .cases e
def Rt:R2:=λx y H Q=>∃a v,x=.ref a/\xf H a y (a_ v)/\Q v H
def R9(K:aq):R2:=λx y H Q=>rIx K x y H Q\/Rt x y H Q
theorem QI:OpU K (R9 K) oIx:=by
 intro μ S H x y vx vy u S' Q hr rx ry e a;unfold oIx at e
 split at e
 .rename_i kvs qd
  cases qk:keyOf y with
  |none=>simp_all
  | some kk=>
    rw[qk]at e;simp only[aO]at e;cases qv:j0 _ kk with
    |none=>rw[qv]at e;cases e
    | some w=>
      rw[qv]at e;simp at e;obtain⟨rfl,rfl⟩:=e;obtain⟨p,vs,rfl,hp,r⟩:=hr.dic rx qd;obtain⟨v,hv,rv⟩:=DV r qv;rw[rq ry qk];exact .inr ⟨p,v,rfl,.inl ⟨_,kk,.inl hp,rfl,hv.symm⟩,a.now hr rv⟩
 split at e
 .rename_i i
  refine .inl ?_;cases q:eA S x with
  |none=>rw[q]at e;cases e
  | some us=>
    rw[q]at e;simp only[aO]at e;cases z:atI us i with
    |none=>rw[z]at e;cases e
    | some w=>
      rw[z]at e;simp at e;obtain⟨rfl,rfl⟩:=e;obtain⟨p,vs,rfl,hs,r⟩:=hr.seq rx q;obtain⟨v,hv,rv⟩:=Kv r z;rcases hs with hs|hs
      .exact .inl ⟨p,vs,i,v,rfl,dI ry,hs,hv,a.now hr rv⟩
      .exact .inr (.inl ⟨p,vs,i,v,rfl,dI ry,hs,hv,a.now hr rv⟩)
 .cases e
theorem ON:UnU K (rU λi=>.int (-i)) mn:=by
 intro μ S H x vx u S' Q hr rx e a;unfold mn at e
 split at e
 .cases e
  exact⟨_,dI rx,a.now hr fZ⟩
 .cases e
theorem Rk{Q:List V->Hp->Prop}(h:tMA K ah σ H Q):Ko σ H Q:=by
 obtain⟨μ,S,G,us,S',hr,er,e,k⟩:=h;cases e;exact k μ [] H 2#2 (bD.refl _) hr .nil
theorem jB(k:Aft K μ H (.ref 0#7) (S++[.lst us]) Q)(hr:HR K μ S H)(rs:RUs H μ us vs)(hp:H p=b_):Q (.ref p) (upd H p (.lst vs)):=by
 refine k _ _ _ ⟨_,rfl⟩ (bD.new hp) (hr.new hp rs) (z7 ?_);rw[<-hr.len];simp
theorem QR{a:MA}(h:tM K (dN a) σ H Q):RK (tMA K a) σ H Q:=by
 obtain⟨μ,S,G,u,S',hr,er,e,k⟩:=h;obtain⟨xs,S1,e1,e⟩:=be e
 split at e
 .rename_i hc
  cases e;refine⟨μ,S,G,xs,S1,hr,er,e1,λY0 vs H1 p1 k1 ZZ rs=>⟨?_,λp hp=>?_⟩⟩
  .have:=rs.len;unfold big at hc;rw[sizeLine_eq];lia
  .exact jB (k.mono p1 k1) ZZ rs hp
 .cases e
def vA(K:KX)(r:List V->Hp->VK->Prop)(f:MF):Prop:= ∀(μ:List e_) (S:Sto) (H:Hp) (us:List U) (vs:List V) (u:U) (S':Sto) (Q:VK),HR K μ S H->RUs H μ us vs->f us S=a_ (u,S')->Aft K μ H u S' Q->r vs H Q
theorem zY{r:List V->Hp->VK->Prop}{f:MF}{a:MA}(o:vA K r f)(h:tM K (mFn f a) σ H Q):tCB r (tMA K a) σ H Q:=by
 obtain⟨μ,S,G,u,S',hr,er,e,k⟩:=h;obtain⟨xs,S1,e1,e⟩:=be e;exact⟨μ,S,G,xs,S1,hr,er,e1,λY0 vs H1 p1 k1 ZZ rs=>(o _ S1 H1 xs vs u S' Q ZZ rs e (k.mono p1 k1))⟩
def spM(K:KX)(m:MF):Sp:=λvs H Q _=>∃μ S us u S',HR K μ S H/\RUs H μ us vs/\m us S=a_ (u,S')/\Aft K μ H u S' Q
theorem Jz{f:MF}{a:MA}{E:XK}(h:tM K (mFn f a) σ H Q):EX (spM K f) [] E (tMA K a) σ H Q:=by
 obtain⟨μ,S,G,u,S',hr,er,e,k⟩:=h;obtain⟨xs,S1,e1,e⟩:=be e;refine⟨μ,S,G,xs,S1,hr,er,e1,λY0 vs H1 p1 k1 ZZ rs=>?_⟩;show spM K f _ H1 Q E;rw[cb];exact⟨_,S1,xs,u,S',ZZ,rs,e,k.mono p1 k1⟩
def Rz(K:aq):List V->Hp->VK->Prop:=λxs H Q=>((∃i j,xs=[.int i,.int j]/\Q (.int (if j<i then j else i)) H))
theorem Nq:vA K (Rz K) zU:=by
 intro μ S H us vs u S' Q hr rs e a;unfold zU at e
 split at e
 .cases e
  obtain⟨v,r,rfl,rx,rs⟩:=rs.inv;obtain⟨w,r,rfl,ry,rn⟩:=rs.inv;rw[rn.nil_inv,dI rx,dI ry];exact⟨_,_,rfl,a.now hr fZ⟩
 .cases e
def MtU(K:KX)(r:V->List V->Hp->VK->Prop)(f:Nat->List U->Sto->Res U):Prop:= ∀(μ:List e_) (S:Sto) (H:Hp) (n:Nat) (p:e_) (us:List U) (vs:List V) (u:U) (S':Sto) (Q:VK),HR K μ S H->μ[n]?=a_ p->RUs H μ us vs->f n us S=a_ (u,S')->Aft K μ H u S' Q->r (.ref p) vs H Q
variable{r:V->List V->Hp->VK->Prop}{f:Nat->List U->Sto->Res U}
theorem Ot{o:ME}{a:MA}(m:MtU K r f)(h:tM K (mML f o a) σ H Q):tBM K "list" r (tM K o) (tMA K a) σ H Q:=by
 obtain⟨μ,S,G,u,S',hr,er,e,k⟩:=h;obtain⟨x,S1,e1,e⟩:=be e
 split at e
 .rename_i n
  cases q:getL S1 n with
  |none=>rw[q]at e;cases e
  | some ws=>
    rw[q]at e;obtain⟨xs,S2,e2,e⟩:=be e;refine⟨μ,S,G,_,S1,hr,er,e1,λY0 vx H1 p1 k1 ZZ rx=>?_⟩;obtain⟨p,rfl,hp⟩:=gQ rx;obtain⟨p',ys,Zl,hs,r'⟩:=ZZ.sq q;rw[hp]at Zl;cases Zl;exact⟨.inl ⟨rfl,ys,hs⟩,_,S1,G,xs,S2,ZZ,er.mono k1 p1,e2,λY7 vs H2 p2 k2 ZS rs=>(m _ S2 H2 n p xs vs u S' Q ZS (p2.get hp) rs e (k.mono (p1.trans p2) (k1.trans k2)))⟩
 .cases e
theorem PF{o:ME}(m:MtU K r f)(h:tM K (mML f o ah) σ H Q):PJ K "list" r (tM K o) σ H Q:=by
 obtain⟨μ,S,G,u,S',hr,er,e,k⟩:=h;obtain⟨x,S1,e1,e⟩:=be e
 split at e
 .rename_i n
  cases q:getL S1 n with
  |none=>rw[q]at e;cases e
  | some ws=>
    rw[q]at e;refine⟨μ,S,G,_,S1,hr,er,e1,λY0 vx H1 p1 k1 ZZ rx=>?_⟩;obtain⟨p,rfl,hp⟩:=gQ rx;obtain⟨p',ys,Zl,hs,r'⟩:=ZZ.sq q;rw[hp]at Zl;cases Zl;exact⟨.inl ⟨rfl,ys,hs⟩,m _ S1 H1 n p [] [] u S' Q ZZ hp .nil e (k.mono p1 k1)⟩
 .cases e
theorem vp{ws:List U}(k:Aft K μ H u (S.set n (.lst ws)) Q)(hr:HR K μ S H)(e:S[n]?=a_ (.lst us))(hp:μ[n]?=a_ p)(rs:RUs H μ ws vs)(ru:RU H μ u v):
  Q v (upd H p (.lst vs)):=by
 obtain⟨TN,e0,_⟩:=hr.cell n _ p e hp;exact k μ _ _ 2#2 (bD.wr e0) (hr.wr e hp rs) (RU.mono (bD.wr e0) 2#2 _ _ ru)
theorem FD:MtU K ED de:=by
 intro μ S H n p us vs u S' Q hr hp rs e a;unfold de at e
 split at e
 .split at e
  .rename_i ws q
   split at e
   .rename_i hc
    cases e;obtain⟨v,r,rfl,rx,rn⟩:=rs.inv;rw[rn.nil_inv];obtain⟨xs,e0,r0⟩:=hr.cell n _ p q hp;refine⟨p,xs,v,rfl,rfl,e0,?_,vp a hr q hp (r0.append (.cons rx .nil)) p8⟩;have:=r0.len;unfold big at hc;rw[sizeLine_eq];lia
   .cases e
  .cases e
 .cases e
variable{j:Nat}
theorem R6(h:ixN n i=a_ j):j<n /\ -(n:Int)<=i/\i<n:=by
 unfold ixN at h
 grind
theorem KL(h:ixN n i=a_ j):seqIndex? i n=a_ j:=by
 unfold ixN at h;unfold seqIndex?
 grind
theorem OM:MtU K Qb Bz:=by
 intro μ S H n p us vs u S' Q hr hp rs e a;unfold Bz at e
 split at e
 .split at e
  .rename_i ws q
   cases z:ws[ws.length-1]? with
   |none=>rw[z]at e;cases e
   | some y=>
     rw[z]at e;cases e;rw[rs.nil_inv];obtain⟨xs,e0,r0⟩:=hr.cell n _ p q hp;obtain⟨v,hv,rv⟩:=r0.get z;exact⟨p,xs,v,rfl,rfl,e0,by rw[<-r0.len];omega,vp a hr q hp r0.dropLast rv⟩
  .cases e
 .cases e
theorem IT:MtU K He nq:=by
 intro μ S H n p us vs u S' Q hr hp rs e a;unfold nq at e
 split at e
 .rename_i i
  split at e
  .rename_i ws q
   split at e
   rotate_left
   .cases e
   rename_i hR
   cases z:ixN _ i with
   |none=>rw[z]at e;cases e
   | some j=>
     rw[z]at e;simp only[aO]at e;cases z2:ws[j]? with
     |none=>simp_all
     | some y=>
       rw[z2]at e;cases e;obtain⟨v,r,rfl,rx,rn⟩:=rs.inv;rw[rn.nil_inv,dI rx];obtain⟨xs,e0,r0⟩:=hr.cell n _ p q hp;obtain⟨w,hw,Zc⟩:=r0.get z2;refine⟨p,xs,i,j,w,rfl,rfl,e0,?_,?_,?_,hw,vp a hr q hp (r0.eraseIdx j) Zc⟩
       .have:=hR.1;lia
       .have:=hR.2;lia
       .rw[<-r0.len];exact KL z
  .cases e
 .cases e
theorem Dg{t:TE}{m:ME}{Q:Bool->Hp->Prop}(ht:∀Q,tM K m σ H Q->t σ H Q)(h:tMT K (cOf m) σ H Q):PQ t σ H Q:=by
 obtain⟨μ,S,G,b,S',hr,er,e,k⟩:=h;obtain⟨x,S1,e1,e⟩:=be e
 split at e
 .cases e
  exact ht _ ⟨μ,S,G,_,_,hr,er,e1,λY0 vx H1 p1 k1 ZZ rx=>⟨_,kB rx,k _ H1 p1 k1 ZZ⟩⟩
 .cases e
theorem Pq{a b:MT}{Q:Bool->Hp->Prop}(h:tMT K (pe a b) σ H Q):_L.Sg (tMT K a) (tMT K b) σ H Q:=by
 obtain⟨μ,S,G,c,S',hr,er,e,k⟩:=h;obtain⟨x,S1,e1,e⟩:=be e;refine⟨μ,S,G,x,S1,hr,er,e1,λY0 H1 p1 k1 ZZ=>?_⟩;cases x with
 |true=>exact vT ⟨_,S1,G,c,S',ZZ,er.mono k1 p1,e,λY7 H2 p2 k2=>k _ H2 (p1.trans p2) (k1.trans k2)⟩
 | false=>
   grind
theorem R0{a b:MT}{Q:Bool->Hp->Prop}(h:tMT K (cOr a b) σ H Q):_L.tOr (tMT K a) (tMT K b) σ H Q:=by
 obtain⟨μ,S,G,c,S',hr,er,e,k⟩:=h;obtain⟨x,S1,e1,e⟩:=be e;refine⟨μ,S,G,x,S1,hr,er,e1,λY0 H1 p1 k1 ZZ=>?_⟩;cases x with
 | true=>
   grind
 |false=>exact u0 ⟨_,S1,G,c,S',ZZ,er.mono k1 p1,e,λY7 H2 p2 k2=>k _ H2 (p1.trans p2) (k1.trans k2)⟩
theorem PY{c:MT}{a b:ME}(h:tM K (Da c a b) σ H Q):tIf (tMT K c) (tM K a) (tM K b) σ H Q:=by
 obtain⟨μ,S,G,u,S',hr,er,e,k⟩:=h;obtain⟨x,S1,e1,e⟩:=be e;refine⟨μ,S,G,x,S1,hr,er,e1,λY0 H1 p1 k1 ZZ=>?_⟩;cases x with
 |true=>exact vT ⟨_,S1,G,u,S',ZZ,er.mono k1 p1,e,k.mono p1 k1⟩
 |false=>exact u0 ⟨_,S1,G,u,S',ZZ,er.mono k1 p1,e,k.mono p1 k1⟩
section
variable {D:Ends}
theorem Hq(h:tMS K dE D σ H):PR D σ H:=by
 obtain⟨μ,S,G,r,hr,er,e,k⟩:=h;cases e;exact k μ σ H 2#2 (bD.refl _) hr er
variable{b:MS}
theorem Pn{a:MS}(h:tMS K (aY a b) D σ H):RC (tMS K a) (tMS K b) D σ H:=by
 obtain⟨μ,S,G,r,hr,er,e,k⟩:=h;unfold aY at e
 split at e
 .rename_i Y5 S1 q
  exact⟨μ,S,G,_,hr,er,q,λY0 Y8 H1 p1 k1 ZZ ZG=>⟨_,S1,_,r,ZZ,ZG,e,k.mono p1 k1⟩⟩
 .rename_i q
  refine⟨μ,S,G,r,hr,er,e,?_⟩;obtain⟨f,Y4,S'⟩:=r;cases f with
  |nx=>exact absurd e (q _ S')
  |bk=>exact k
  |ct=>exact k
  |rt u=>exact k
variable{i:Nat}{m:ME}
theorem Mk(h:tMS K (bC i m) D σ H):Lh (tM K m) (pv i) D σ H:=by
 obtain⟨μ,S,G,r,hr,er,e,k⟩:=h;obtain⟨x,S1,e1,e⟩:=be e;cases e;exact⟨μ,S,G,x,S1,hr,er,e1,λY0 vx H1 p1 k1 ZZ rx=>k _ _ H1 p1 k1 ZZ ((er.mono k1 p1).set rx i)⟩
def Qk:Ih:=λo i v H Q=>∃a H',o=.ref a/\Gp H a i v H'/\Q H'
def PN:Ih:=λo i v H Q=>Mt o i v H Q\/Qk o i v H Q
theorem Kt{o i:ME}(h:tMS K (gv o i m) D σ H):Lh (tM K m) (Qi (tM K o) (tM K i) PN) D σ H:=by
 obtain⟨μ,S,G,r,hr,er,e,k⟩:=h;obtain⟨x,S1,e1,e⟩:=be e;obtain⟨p,S2,e2,e⟩:=be e;obtain⟨j,S3,e3,e⟩:=be e;cases p with
 | ref n=>
   simp at e
   split at e
   .rename_i us q
    split at e
    rotate_left
    .cases e
    rename_i kk
    cases z:ixN _ kk with
    |none=>rw[z]at e;cases e
    | some m'=>
      rw[z]at e;cases e;refine 3#4;refine⟨_,S1,G,_,S2,ZZ,er.mono k1 p1,e2,λY7 vo H2 p2 k2 ZS ro=>?_⟩;refine⟨_,S2,G,_,S3,ZS,er.mono (k1.trans k2) (p1.trans p2),e3,λX6 vi H3 p3 k3 YU ri=>?_⟩;obtain⟨a,rfl,ha⟩:=gQ ro;have Vx:=p3.get ha;obtain⟨vs,e0,r0⟩:=YU.cell n _ a q Vx;refine .inl ⟨a,vs,kk,m',rfl,dI ri,e0,by rw[<-r0.len];omega,?_⟩;have kw:bD H3 (upd H3 a (.lst (vs.set m' vx))):=bD.wr e0;exact k _ _ _ (p1.trans (p2.trans p3)) (k1.trans (k2.trans (k3.trans kw))) (YU.wr q Vx (r0.set (RU.mono (k2.trans k3) (p2.trans p3) _ _ rx) m')) (er.mono (k1.trans (k2.trans (k3.trans kw))) (p1.trans (p2.trans p3)))
   .rename_i kvs q
    cases qk:keyOf j with
    |none=>simp_all
    | some kk=>
      rw[qk]at e
      split at e
      .rename_i hz
       cases e;refine 3#4;refine⟨_,S1,G,_,S2,ZZ,er.mono k1 p1,e2,λY7 vo H2 p2 k2 ZS ro=>?_⟩;refine⟨_,S2,G,_,S3,ZS,er.mono (k1.trans k2) (p1.trans p2),e3,λX6 vi H3 p3 k3 YU ri=>?_⟩;obtain⟨a,rfl,ha⟩:=gQ ro;have Vx:=p3.get ha;obtain⟨vs,e0,r0⟩:=YU.cell n _ a q Vx;obtain⟨ws,ew,Zc⟩:=Kc (RU.mono (k2.trans k3) (p2.trans p3) _ _ rx) r0;have kw:bD H3 (upd H3 a (.dK (putK (dV kvs vs) kk vx))):=bD.wrG e0 (λ_ z=>by cases z) λ_ _ z=>by cases z
       exact .inr ⟨a,_,rfl,.inl ⟨_,kk,e0,rq ri qk,by rw[HM (by have:=r0.len;rwa[ar]at this)];exact hz,rfl⟩,(k _ _ _ (p1.trans (p2.trans p3)) (k1.trans (k2.trans (k3.trans kw))) (YU.wrC q Vx rfl ⟨ws,by rw[ew];exact du,RUs.mono kw 2#2 _ _ Zc⟩) (er.mono (k1.trans (k2.trans (k3.trans kw))) (p1.trans (p2.trans p3))))⟩
      .cases e
   .cases e
 |_=>cases e
theorem NR(h:tMS K (eJ m) D σ H):PH (tM K m) D σ H:=by
 obtain⟨μ,S,G,r,hr,er,e,k⟩:=h;obtain⟨x,S1,e1,e⟩:=be e;cases e;exact⟨μ,S,G,x,S1,hr,er,e1,λY0 vx H1 p1 k1 ZZ rx=>k _ σ H1 p1 k1 ZZ (er.mono k1 p1)⟩
variable{S:Sto}{r:Fl×Rho×Sto}
theorem oK{X4:List e_}{H0:Hp}{k:MS}{N:St->Hp->Prop}(hr:HR K μ S H)(er:ER H μ G σ)(e:aft (b G S) k=a_ r)(p:Pre X4 μ)(kp:bD H0 H)(fl:FlP K X4 H0 D r)
  (hN:∀Y0 Y8 H1 Y5 S1,Pre X4 Y0->bD H0 H1->HR K Y0 S1 H1->ER H1 Y0 Y5 Y8->k Y5 S1=a_ r->N Y8 H1):tMS K b { D with nx:=N,ct:=N,bk:=D.nx } σ H:=by
 unfold aft at e
 split at e
 .rename_i Y5 S1 q
  exact⟨μ,S,G,_,hr,er,q,λY0 Y8 H1 p1 k1 ZZ ZG=>hN _ _ H1 _ S1 (p.trans p1) (kp.trans k1) ZZ ZG e⟩
 .rename_i Y5 S1 q
  exact⟨μ,S,G,_,hr,er,q,λY0 Y8 H1 p1 k1 ZZ ZG=>hN _ _ H1 _ S1 (p.trans p1) (kp.trans k1) ZZ ZG e⟩
 .rename_i Y5 S1 q
  cases e;exact⟨μ,S,G,_,hr,er,q,λY0 Y8 H1 p1 k1 ZZ ZG=>fl _ _ H1 (p.trans p1) (kp.trans k1) ZZ ZG⟩
 .rename_i q1 q2 q3
  refine⟨μ,S,G,r,hr,er,e,?_⟩;obtain⟨f,Y4,S'⟩:=r;cases f with
  |nx=>exact absurd e (q1 _ S')
  |ct=>exact absurd e (q2 _ S')
  |bk=>exact absurd e (q3 _ S')
  |rt u=>exact Aft.mono fl p kp
theorem drop_cons{α:Type}{l:List α}{x:α}(h:l[i]?=a_ x):l.drop i=x::l.drop (i+1):=by
 obtain⟨hi,e⟩:=ag.mp h;rw[eN hi,e]
theorem Nc{us:List U}{vs:List V}(hr:HR K μ S H)(er:ER H μ G σ)(e:vd i b us G S=a_ r)(fl:FlP K μ H D r)(ha:H a=a_ (.tup vs))(ru:RUs H μ us vs):
  ∃W:Nat->Nat->St->Hp->Prop,(∃m,W 0 m σ H) /\ ∀k m σ H,W k m σ H ->
   ((Itt K a).stop k H/\D.nx σ H)\/((Itt K a).go k H /\ ∃N:St->Hp->Prop,(∀Y3 H',N Y3 H'->∃m',m'<m/\W (k+1) m' Y3 H') /\ ∀x H',(Itt K a).yld k H x H'->pv i x σ H' λY9 H2=>tMS K b { D with nx:=N,ct:=N,bk:=D.nx } Y9 H2):=by
 refine KW (xs:=vs) (λk Y8 H1=>∃Y0 S1 Y5,Pre μ Y0/\bD H H1/\HR K Y0 S1 H1/\ER H1 Y0 Y5 Y8/\vd i b (us.drop k) Y5 S1=a_ r) ⟨μ,S,G,Pre.refl _,bD.refl _,hr,er,e⟩ ?_ ?_ ?_
 .rintro k Y8 H1 _ ⟨Y0,S1,Y5,p1,k1,_⟩
  exact .inl (.inl (k1 a vs ha))
 .rintro k x Y8 H1 hx ⟨Y0,S1,Y5,p1,k1,ZZ,ZG,e1⟩
  have hk:k<1#1:=by rw[ru.len];exact(ag.mp hx).1
  have hu:us[k]?=a_ us[k]:=by simp
  obtain⟨v,hv,rv⟩:=ru.get hu;rw[hx]at hv;cases hv;rw[drop_cons hu]at e1;exact oK ZZ (ZG.set (RU.mono k1 p1 _ _ rv) i) e1 p1 k1 fl λY7 Y9 H2 X0 S2 p2 k2 ZS Yb e2=>⟨_,S2,_,p2,k2,ZS,Yb,e2⟩
 .rintro Y8 H1 ⟨Y0,S1,Y5,p1,k1,ZZ,ZG,e1⟩
  rw[<-ru.len,yN]at e1;cases e1;exact fl _ _ H1 p1 k1 ZZ ZG
theorem IF{lo:Int}(hr:HR K μ S H)(er:ER H μ G σ)(e:vd i b (bI lo n) G S=a_ r)(fl:FlP K μ H D r):
  ∃W:Nat->Nat->St->Hp->Prop,(∃m,W 0 m σ H) /\ ∀k m σ H,W k m σ H ->
   ((Itr lo n).stop k H/\D.nx σ H)\/((Itr lo n).go k H /\ ∃N:St->Hp->Prop,(∀Y3 H',N Y3 H'->∃m',m'<m/\W (k+1) m' Y3 H') /\ ∀x H',(Itr lo n).yld k H x H'->pv i x σ H' λY9 H2=>tMS K b { D with nx:=N,ct:=N,bk:=D.nx } Y9 H2):=by
 refine Fj (λk Y8 H1=>∃Y0 S1 Y5,Pre μ Y0/\bD H H1/\HR K Y0 S1 H1/\ER H1 Y0 Y5 Y8/\vd i b ((bI lo n).drop k) Y5 S1=a_ r) ⟨μ,S,G,Pre.refl _,bD.refl _,hr,er,e⟩ ?_ ?_
 .rintro k Y8 H1 hk ⟨Y0,S1,Y5,p1,k1,ZZ,ZG,e1⟩
  have hu:(bI lo n)[k]?=a_ (.int (lo+k)):=by simp[bI,hk]
  rw[drop_cons hu]at e1;exact oK ZZ (ZG.set fZ i) e1 p1 k1 fl λY7 Y9 H2 X0 S2 p2 k2 ZS Yb e2=>⟨_,S2,_,p2,k2,ZS,Yb,e2⟩
 .rintro Y8 H1 ⟨Y0,S1,Y5,p1,k1,ZZ,ZG,e1⟩
  have hl:(bI lo n).length=n:=by simp[bI]
  rw[List.drop_eq_nil_of_le (by simp_all)]at e1;cases e1;exact fl _ _ H1 p1 k1 ZZ ZG
theorem Nh{f:Nat}(hr:HR K μ S H)(er:ER H μ G σ)(e:forL i b n f 0 G S=a_ r)(fl:FlP K μ H D r)(ha:μ[n]?=a_ a):
  ∃W:Nat->Nat->St->Hp->Prop,(∃m,W 0 m σ H) /\ ∀k m σ H,W k m σ H ->
   ((Itl K a).stop k H/\D.nx σ H)\/((Itl K a).go k H /\ ∃N:St->Hp->Prop,(∀Y3 H',N Y3 H'->∃m',m'<m/\W (k+1) m' Y3 H') /\ ∀x H',(Itl K a).yld k H x H'->pv i x σ H' λY9 H2=>tMS K b { D with nx:=N,ct:=N,bk:=D.nx } Y9 H2):=by
 refine⟨λk m Y8 H1=>∃Y0 S1 Y5,Pre μ Y0/\bD H H1/\HR K Y0 S1 H1/\ER H1 Y0 Y5 Y8/\forL i b n m k Y5 S1=a_ r,⟨f,μ,S,G,Pre.refl _,bD.refl _,hr,er,e⟩,?_⟩;rintro k m Y8 H1 ⟨Y0,S1,Y5,p1,k1,ZZ,ZG,e1⟩;cases m with
 |zero=>cases e1
 | succ m=>
   unfold forL at e1;cases q:getL S1 n with
   |none=>simp_all
   | some us=>
     rw[q]at e1;simp at e1;obtain⟨a',vs,YW,hs,rs⟩:=ZZ.sq q;rw[p1.get ha]at YW;cases YW;cases z:us[k]? with
     | none=>
       rw[z]at e1;cases e1;refine .inl ⟨⟨vs,hs,?_⟩,fl _ _ H1 p1 k1 ZZ ZG⟩;rw[<-rs.len];simp_all
     | some u=>
       rw[z]at e1;obtain⟨v,hv,rv⟩:=rs.get z;refine .inr ⟨⟨vs,v,hs,hv⟩,_,λY3 H' w=>⟨m,bV _,w⟩,λx H' y=>?_⟩;obtain⟨e',y⟩:=y;subst e';have hx:=y vs hs;rw[hv]at hx;cases hx;exact oK ZZ (ZG.set rv i) e1 p1 k1 fl λY7 Y9 H2 X0 S2 p2 k2 ZS Yb e2=>⟨_,S2,_,p2,k2,ZS,Yb,e2⟩
theorem K4{c:MT}(h:tMS K (nS c b) D σ H):Nb (tMT K c) (tMS K b) D σ H:=by
 obtain⟨μ,S,G,r,hr,er,e,fl⟩:=h;refine⟨λm Y8 H1=>∃Y0 S1 Y5,Pre μ Y0/\bD H H1/\HR K Y0 S1 H1/\ER H1 Y0 Y5 Y8/\whl c b m Y5 S1=a_ r,⟨_,μ,S,G,Pre.refl _,bD.refl _,hr,er,e⟩,?_⟩;rintro m Y8 H1 ⟨Y0,S1,Y5,p1,k1,ZZ,ZG,e1⟩;cases m with
 |zero=>cases e1
 | succ m=>
   obtain⟨x,S2,e2,e1⟩:=be e1;refine⟨_,S1,_,x,S2,ZZ,ZG,e2,λY7 H2 p2 k2 ZS=>?_⟩;cases x with
   | true=>
     exact vT ⟨_,λY3 H' w=>⟨m,bV _,w⟩,(oK ZS (ZG.mono k2 p2) e1 (p1.trans p2) (k1.trans k2) fl λX6 X8 H3 X7 S3 p3 k3 YU er3 e3=>⟨_,S3,_,p3,k3,YU,er3,e3⟩)⟩
   | false=>
     cases e1;exact u0 (fl _ _ H2 (p1.trans p2) (k1.trans k2) ZS (ZG.mono k2 p2))
end
end
section
variable {K:KX}{σ:St}{H:Hp}{Q:VK}{D:Ends}
variable{R:It->Hp->Prop}{S S1:Sto}{src:Src}
theorem Md{a:MA}(hr:HR K μ S H)(er:ER H μ G σ)(e:iR1 a G S=a_ (src,S1))
  (hR:∀Y0 H1 n,Pre μ Y0->bD H H1->HR K Y0 S1 H1->src=.imm (bI 0 n)->R (Itr 0 n) H1):Hx (tMA K a) σ H R:=by
 obtain⟨xs,S2,e1,e⟩:=be e
 split at e
 .rename_i j
  split at e
  .rename_i hj
   cases e;refine⟨μ,S,G,_,_,hr,er,e1,λY0 vs H1 p1 k1 ZZ rs=>?_⟩;obtain⟨v,r,rfl,rx,rn⟩:=rs.inv;rw[rn.nil_inv,dI rx];exact⟨j,rfl,hj.1,hj.2,hR _ H1 _ p1 k1 ZZ rfl⟩
  .cases e
 .cases e
theorem L4{a:MA}(hr:HR K μ S H)(er:ER H μ G σ)(e:iR2 a G S=a_ (src,S1))
  (hR:∀Y0 H1 lo n,Pre μ Y0->bD H H1->HR K Y0 S1 H1->src=.imm (bI lo n)->R (Itr lo n) H1):Jo (tMA K a) σ H R:=by
 obtain⟨xs,S2,e1,e⟩:=be e
 split at e
 .rename_i i j
  split at e
  .rename_i hj
   cases e;refine⟨μ,S,G,_,_,hr,er,e1,λY0 vs H1 p1 k1 ZZ rs=>?_⟩;obtain⟨v,r,rfl,rx,rs⟩:=rs.inv;obtain⟨w,r,rfl,ry,rn⟩:=rs.inv;rw[rn.nil_inv,dI rx,dI ry];exact⟨i,j,rfl,⟨hj.1.1,hj.1.2,hj.2.1,hj.2.2⟩,hR _ H1 _ _ p1 k1 ZZ rfl⟩
  .cases e
 .cases e
theorem IH{a:ME}(hr:HR K μ S H)(er:ER H μ G σ)(e:dq a G S=a_ (src,S1))
  (hT:∀Y0 H1 us p vs,Pre μ Y0->bD H H1->HR K Y0 S1 H1->src=.imm us->H1 p=a_ (.tup vs)->RUs H1 Y0 us vs->R (Itt K p) H1)
  (hL:∀Y0 H1 n p,Pre μ Y0->bD H H1->HR K Y0 S1 H1->src=.mut n->Y0[n]?=a_ p->R (Itl K p) H1):LO K (tM K a) σ H R\/PP K (tM K a) σ H R:=by
 obtain⟨x,S2,e1,e⟩:=be e
 split at e
 .cases e
  refine .inr ⟨μ,S,G,_,_,hr,er,e1,λY0 vx H1 p1 k1 ZZ rx=>?_⟩;obtain⟨p,vs,rfl,hp,r⟩:=gq rx;exact⟨p,rfl,⟨vs,.inl (.inl hp)⟩,hT _ H1 _ p vs p1 k1 ZZ rfl hp r⟩
 .rename_i n
  cases q:getL S2 n with
  |none=>rw[q]at e;cases e
  | some ws=>
    rw[q]at e;cases e;refine .inl ⟨μ,S,G,_,_,hr,er,e1,λY0 vx H1 p1 k1 ZZ rx=>?_⟩;obtain⟨p,rfl,hp⟩:=gQ rx;obtain⟨p',ys,Zl,hs,r'⟩:=ZZ.sq q;rw[hp]at Zl;cases Zl;exact⟨p,rfl,⟨ys,hs⟩,hL _ H1 n p p1 k1 ZZ rfl hp⟩
 .cases e
theorem s9{t:MT}{e:ME}{G:Rho}:∀{us acc ys:List U}{S S':Sto},jV t e G us acc S=a_ (ys,S')->acc.length<=ys.length
 |[],acc,ys,S,S',h=>by cases h<;>simp_all
 | x::us,acc,ys,S,S',h=>by
   obtain⟨k,S1,e1,h⟩:=be h;cases k with
   | true=>
     obtain⟨y,S2,e2,h⟩:=be (show bnd _ (λy S2=>jV t e G us (acc++[y]) S2)=a_ _ from h);have:=s9 h;simp at this;exact aI 0#5
   |false=>exact s9 (h)
theorem sx{t:MT}{e:ME}{G:Rho}{n:Nat}:∀{f i:Nat}{acc ys:List U}{S S':Sto},kW t e G n f i acc S=a_ (ys,S')->acc.length<=ys.length
 |0,i,acc,ys,S,S',h=>by cases h
 | f+1,i,acc,ys,S,S',h=>by
   unfold kW at h;cases q:getL S n with
   |none=>rw[q]at h;cases h
   | some us=>
     rw[q]at h;simp at h;cases z:us[i]? with
     |none=>simp_all
     | some x=>
       rw[z]at h;obtain⟨k,S1,e1,h⟩:=be h;cases k with
       | true=>
         obtain⟨y,S2,e2,h⟩:=be (show bnd _ (λy S2=>kW t e G n f _ (acc++[y]) S2)=a_ _ from h);have:=sx h;simp at this;exact aI 0#5
       |false=>exact sx (h)
def HL(J:It)(σ:St)(tt:TT)(te:TE)(H1:Hp)(Q:VK):Prop:= ∃W:Nat->Nat->List V->Hp->Prop,(∃m,W 0 m [] H1) /\ ∀i m ys H,W i m ys H->ys.length<sizeLine /\
 ((J.stop i H /\ ∀D,H D=b_->Q (.ref D) (upd H D (.lst ys))) \/
  (J.go i H /\ ∀x H',J.yld i H x H'->tt (σ++[a_ x]) H' λb H3=>if b=c_ then te (σ++[a_ x]) H3 λy H4 =>∃m',m'<m/\W (i+1) m' (ys++[y]) H4 else ∃m',m'<m/\W (i+1) m' ys H3))
variable{e:ME}{ys:List U}
theorem xN{t:MT}{Y4:Rho}{Y3:St}{au:List U}{acc:List V}{next:List U->Sto->Res (List U)}(W:List V->Hp->Prop)(ZZ:HR K Y0 S1 H1)(ZG:ER H1 Y0 Y4 Y3)(ra:RUs H1 Y0 au acc)
  (e1:bnd (t Y4 S1) (λk S2=>if k then bnd (e Y4 S2) λy S3=>next (au++[y]) S3 else next au S2)=a_ (ys,S'))
  (hW:∀Y7 S2 au2 XN H2,Pre Y0 Y7->bD H1 H2->HR K Y7 S2 H2->RUs H2 Y7 au2 XN->next au2 S2=a_ (ys,S')->W XN H2):
  tMT K t Y3 H1 λb H3=>if b=c_ then tM K e Y3 H3 λy H4=>W (acc++[y]) H4 else W acc H3:=by
 obtain⟨b,S2,e2,e1⟩:=be e1;refine⟨_,S1,_,b,S2,ZZ,ZG,e2,λY7 H2 p2 k2 ZS=>?_⟩;have Wy:=RUs.mono k2 p2 _ _ ra;cases b with
 | true=>
   obtain⟨y',S3,e3,e1⟩:=be (show bnd _ (λy S2=>next (au++[y]) S2)=a_ _ from e1);exact vT ⟨_,S2,_,y',S3,ZS,ZG.mono k2 p2,e3,λX6 v3 H3 p3 k3 YU WB=>hW _ S3 _ _ H3 (p2.trans p3) (k2.trans k3) YU ((RUs.mono k3 p3 _ _ Wy).append (.cons WB .nil)) e1⟩
 |false=>exact u0 (hW _ S2 _ _ H2 p2 k2 ZS Wy e1)
theorem uS{J:It}{t:MT}{us:List U}(hr:HR K μ S H)(er:ER H μ G σ)(h:jV t e G us [] S=a_ (ys,S'))(hz:ys.length<big)(k:Aft K μ H (.ref S'.length) (S'++[.lst ys]) Q)
  (Vv:∀H',bD H H'->J.stop us.length H') (hgo:∀(i:Nat) H',i<1#1->bD H H'->J.go i H')
  (hy:∀(i:Nat) H' x Wb (u:U),us[i]?=a_ u->bD H H'->J.yld i H' x Wb->Wb=H'/\RU H μ u x):HL J σ (tMT K t) (tM K e) H Q:=by
 have VE:ys.length<sizeLine:=hz;refine⟨λi m acc H1=>m=1#1-i/\i<=1#1 /\ ∃Y0 S1 au,Pre μ Y0/\bD H H1/\HR K Y0 S1 H1/\RUs H1 Y0 au acc/\jV t e G (us.drop i) au S1=a_ _,⟨_,rfl,bS _,μ,S,[],Pre.refl _,bD.refl _,hr,.nil,h⟩,?_⟩;rintro i m acc H1 ⟨rfl,hi,Y0,S1,au,p1,k1,ZZ,ra,e1⟩;have hl:=s9 e1;have YZ:=ra.len;refine⟨by lia,?_⟩;by_cases ZR:i<1#1
 .have hu:us[i]?=a_ us[i]:=by simp
  rw[drop_cons hu]at e1;refine .inr ⟨hgo i H1 ZR k1,λx H' y=>?_⟩;obtain⟨rfl,rx⟩:=hy i H1 x H' _ hu k1 y;exact xN (λacc H1=>∃m',m'<1#1-i/\m'=1#1-(i+1)/\i+1<=1#1 /\ ∃Y0 S1 au,Pre μ Y0/\bD H H1/\HR K Y0 S1 H1/\RUs H1 Y0 au _/\jV t e G _ au S1=a_ _) ZZ ((er.mono k1 p1).push (RU.mono k1 p1 _ _ rx)) ra e1 λY7 S2 au2 XN H2 p2 k2 ZS Wy q=>⟨_,by lia,rfl,ZR,_,S2,_,p1.trans p2,k1.trans k2,ZS,Wy,q⟩
 .have e:i=1#1:=by lia
  subst e;rw[yN]at e1;cases e1;exact .inl ⟨Vv H1 k1,λD hD=>jB (k.mono p1 k1) ZZ ra hD⟩
theorem Ia{t:MT}{f:Nat}(hr:HR K μ S H)(er:ER H μ G σ)(h:kW t e G n f 0 [] S=a_ (ys,S'))(hz:ys.length<big)(k:Aft K μ H (.ref S'.length) (S'++[.lst ys]) Q)
  (hp:μ[n]?=a_ p):HL (Itl K p) σ (tMT K t) (tM K e) H Q:=by
 have VE:ys.length<sizeLine:=hz;refine⟨λi m acc H1=>∃Y0 S1 au,Pre μ Y0/\bD H H1/\HR K Y0 S1 H1/\RUs H1 Y0 au acc/\kW t e G n m i au S1=a_ _,⟨f,μ,S,[],Pre.refl _,bD.refl _,hr,.nil,h⟩,?_⟩;rintro i m acc H1 ⟨Y0,S1,au,p1,k1,ZZ,ra,e1⟩;have hl:=sx e1;have YZ:=ra.len;refine⟨by lia,?_⟩;cases m with
 |zero=>cases e1
 | succ m=>
   unfold kW at e1;cases q:getL S1 n with
   |none=>simp_all
   | some us=>
     rw[q]at e1;simp at e1;obtain⟨a',vs,YW,hs,rs⟩:=ZZ.sq q;rw[p1.get hp]at YW;cases YW;cases z:us[i]? with
     | none=>
       rw[z]at e1;cases e1;exact .inl ⟨⟨vs,hs,by rw[<-rs.len];simp_all⟩,λD hD=>jB (k.mono p1 k1) ZZ ra hD⟩
     | some u=>
       rw[z]at e1;obtain⟨v,hv,rv⟩:=rs.get z;refine .inr ⟨⟨vs,v,hs,hv⟩,λx H' y=>?_⟩;obtain⟨e',y⟩:=y;subst e';have hx:=y vs hs;rw[hv]at hx;cases hx;exact xN (λacc H1=>∃m',m'<m+1 /\ ∃Y0 S1 au,Pre μ Y0/\bD H H1/\HR K Y0 S1 H1/\RUs H1 Y0 au _/\kW t e G n m' _ au S1=a_ _) ZZ ((er.mono k1 p1).push rv) ra e1 λY7 S2 au2 XN H2 p2 k2 ZS Wy q=>⟨m,bV _,_,S2,_,p1.trans p2,k1.trans k2,ZS,Wy,q⟩
theorem Bb{lo:Int}{t:MT}(hr:HR K μ S H)(er:ER H μ G σ)(h:jV t e G (bI lo n) [] S=a_ (ys,S'))(hz:ys.length<big)(k:Aft K μ H (.ref S'.length) (S'++[.lst ys]) Q):
  HL (Itr lo n) σ (tMT K t) (tM K e) H Q:=by
 have hl:(bI lo n).length=n:=by simp[bI]
 refine uS hr er h hz k (λH' _=>by rw[hl];exact ak _) (λi H' hi _=>by rw[hl]at hi;exact hi) λi H' x Wb u hu _ y=>?_;obtain⟨rfl,rfl⟩:=y;have hi:i<n:=by rw[<-hl];exact(ag.mp hu).1
 have e2:(bI lo n)[i]?=a_ (.int (lo+i)):=by simp[bI,hi]
 rw[e2]at hu;cases hu;exact⟨rfl,fZ⟩
theorem OZ{a:MA}{t:MT}(h:tM K (bY (iR1 a) t e) σ H Q):yw (Hx (tMA K a)) (tMT K t) (tM K e) σ H Q:=by
 obtain⟨μ,S,G,u,S',hr,er,e0,k⟩:=h;obtain⟨src,S1,e1,e0⟩:=be e0;obtain⟨ys,S2,e2,e0⟩:=be e0
 split at e0
 .rename_i hz
  cases e0;refine Md hr er e1 λY0 H1 n p1 k1 ZZ hs=>?_;subst hs;exact Bb ZZ (er.mono k1 p1) e2 hz (k.mono p1 k1)
 .cases e0
theorem Qw{a:MA}{t:MT}(h:tM K (bY (iR2 a) t e) σ H Q):yw (Jo (tMA K a)) (tMT K t) (tM K e) σ H Q:=by
 obtain⟨μ,S,G,u,S',hr,er,e0,k⟩:=h;obtain⟨src,S1,e1,e0⟩:=be e0;obtain⟨ys,S2,e2,e0⟩:=be e0
 split at e0
 .rename_i hz
  cases e0;refine L4 hr er e1 λY0 H1 lo n p1 k1 ZZ hs=>?_;subst hs;exact Bb ZZ (er.mono k1 p1) e2 hz (k.mono p1 k1)
 .cases e0
end
section
variable {K:KX}{σ:St}{H:Hp}{Q:VK}{D:Ends}
theorem RUs.revs{H:Hp}{μ:List e_}:∀{us:List U}{vs:List V},RUs H μ us vs->RUs H μ us.reverse vs.reverse
 |[],vs,r=>by rw[r.nil_inv];exact .nil
 | u::us,vs,r=>by
   obtain⟨v,vs,rfl,a,b⟩:=r.inv;rw[wZ,wZ];exact(RUs.revs b).append (.cons a .nil)
theorem IY{a:MA}{R:It->Hp->Prop}{S S1:Sto}{src:Src}(hr:HR K μ S H)(er:ER H μ G σ)(e:Dj a G S=a_ (src,S1))
  (hR:∀Y0 H1 us p vs,Pre μ Y0->bD H H1->HR K Y0 S1 H1->src=.imm us.reverse->H1 p=a_ (.tup vs)->RUs H1 Y0 us vs->R (Itv K p 2#1) H1):GP K (tMA K a) σ H R:=by
 obtain⟨xs,S2,e1,e⟩:=be e
 split at e
 .rename_i us
  cases e;refine⟨μ,S,G,_,_,hr,er,e1,λY0 vs H1 p1 k1 ZZ rs=>?_⟩;obtain⟨v,r,rfl,rx,rn⟩:=rs.inv;rw[rn.nil_inv];obtain⟨p,vs,rfl,hp,r⟩:=gq rx;exact⟨p,vs,rfl,.inl (.inl hp),hR Y0 H1 _ p vs p1 k1 ZZ rfl hp r⟩
 .cases e
theorem Oa{a:MA}{t:MT}{e:ME}(h:tM K (bY (Dj a) t e) σ H Q):yw (GP K (tMA K a)) (tMT K t) (tM K e) σ H Q:=by
 obtain⟨μ,S,G,u,S',hr,er,e0,k⟩:=h;obtain⟨src,S1,e1,e0⟩:=be e0;obtain⟨ys,S2,e2,e0⟩:=be e0
 split at e0
 .rename_i hz
  cases e0;refine IY hr er e1 λY0 H1 us p vs p1 k1 ZZ hs hp rs=>?_;subst hs;have rr:=rs.revs;have hl:=rr.len;refine uS ZZ (er.mono k1 p1) e2 hz (k.mono p1 k1) (λH' kp=>⟨vs,.inl (.inl (kp p vs hp)),rfl,by rw[hl,t7];exact ak _⟩) (λi H' hi kp=>?_) λi H' x Wb u hu kp y=>?_
  .have ZM:i<vs.reverse.length:=by rw[<-hl];exact hi
   exact⟨vs,vs.reverse[i],.inl (.inl (kp p vs hp)),rfl,aC ZM⟩
  .obtain⟨rfl,y⟩:=y
   obtain⟨v,hv,rv⟩:=rr.get hu;have:=y vs (.inl (.inl (kp p vs hp)));rw[hv]at this;cases this;exact⟨rfl,rv⟩
 .cases e0
theorem HP{i:Nat}{b:MS}{us:List U}{vs:List V}{S:Sto}{r:Fl×Rho×Sto}(hr:HR K μ S H)(er:ER H μ G σ)(e:vd i b us.reverse G S=a_ r)(fl:FlP K μ H D r)(ha:H a=a_ (.tup vs))(ru:RUs H μ us vs):
  ∃W:Nat->Nat->St->Hp->Prop,(∃m,W 0 m σ H) /\ ∀k m σ H,W k m σ H ->
   ((Itv K a 2#1).stop k H/\D.nx σ H)\/((Itv K a 2#1).go k H /\ ∃N:St->Hp->Prop,(∀Y3 H',N Y3 H'->∃m',m'<m/\W (k+1) m' Y3 H') /\ ∀x H',(Itv K a 2#1).yld k H x H'->pv i x σ H' λY9 H2=>tMS K b { D with nx:=N,ct:=N,bk:=D.nx } Y9 H2):=by
 have rr:=ru.revs;refine⟨λk m Y8 H1=>m+k=us.reverse.length /\ ∃Y0 S1 Y5,Pre μ Y0/\bD H H1/\HR K Y0 S1 H1/\ER H1 Y0 Y5 Y8/\vd i b (us.reverse.drop k) Y5 S1=a_ r,⟨us.reverse.length,rfl,μ,S,G,Pre.refl _,bD.refl _,hr,er,e⟩,?_⟩;rintro k m Y8 H1 ⟨hm,Y0,S1,Y5,p1,k1,ZZ,ZG,e1⟩;have hq:SqT K H1 a vs:= .inl (.inl (k1 a vs ha));cases m with
 | zero=>
   have hk:k=us.reverse.length:=by lia
   subst hk;rw[yN]at e1;cases e1;exact .inl ⟨⟨vs,hq,rfl,by rw[rr.len,t7];exact ak _⟩,fl Y0 Y8 H1 p1 k1 ZZ ZG⟩
 | succ m=>
   have hk:k<us.reverse.length:=by lia
   have hu:us.reverse[k]?=a_ us.reverse[k]:=aC hk;obtain⟨v,hv,rv⟩:=rr.get hu;rw[drop_cons hu]at e1;refine .inr ⟨⟨vs,v,hq,rfl,hv⟩,λY9 H2=>∃Y7 S2 X0,Pre μ Y7/\bD H H2/\HR K Y7 S2 H2/\ER H2 Y7 X0 Y9/\vd i b (us.reverse.drop (k+1)) X0 S2=a_ r,λY3 H' w=>⟨m,bV _,by lia,w⟩,λx H' y=>?_⟩;obtain⟨e',y⟩:=y;subst e';have hx:=y vs hq;rw[hv]at hx;cases hx;exact oK ZZ (ZG.set (RU.mono k1 p1 _ _ rv) i) e1 p1 k1 fl λY7 Y9 H2 X0 S2 p2 k2 ZS Yb e2=>⟨Y7,S2,X0,p2,k2,ZS,Yb,e2⟩
end
variable{X:Cx}{e:Expr}
theorem PE.con{t t':TE}(h:PE X e t)(hm:∀σ H Q,t' σ H Q->t σ H Q):PE X e t':=λpins s σ H Q I q=>h _ s σ H Q I (hm σ H Q q)
variable{t':TT}
theorem PT.con{t:TT}(h:PT X e t)(hm:∀σ H Q,t' σ H Q->t σ H Q):PT X e t':=λpins s σ H Q I q=>h _ s σ H Q I (hm σ H Q q)
theorem PW.con{t:TT}(h:PW X e t)(hm:∀σ H Q,t' σ H Q->t σ H Q):PW X e t':=λwh pins s σ H Q I q=>h wh _ s σ H Q I (hm σ H Q q)
variable{e:List Expr}
theorem PA.con{t t':TA}(h:PA X e t)(hm:∀σ H Q,t' σ H Q->t σ H Q):PA X e t':=λpos pins s σ H Q I q=>h _ _ s σ H Q I (hm σ H Q q)
theorem PS.con{e:Stmt}{t t':TS}(h:PS X e t)(hm:∀D σ H,t' D σ H->t D σ H):PS X e t':=λpins s σ H D I q=>h _ s σ H D I (hm D σ H q)
theorem PSs.con{e:List Stmt}{t t':TS}(h:PSs X e t)(hm:∀D σ H,t' D σ H->t D σ H):PSs X e t':=λpins s σ H D I q=>h _ s σ H D I (hm D σ H q)
theorem PTs.con{t:TT}(h:PTs X e t)(hm:∀σ H Q,t' σ H Q->t σ H Q):PTs X e t':=λpins s σ H Q I q=>h _ s σ H Q I (hm σ H Q q)
variable{tg:Expr}
theorem PI.or{it:Expr}{w1 w2:TI}(h1:PI X tg it w1)(h2:PI X tg it w2):PI X tg it (λσ H R=>w1 σ H R\/w2 σ H R):=λpins s σ H R I q=>by
 rcases q with q|q
 .exact h1 _ s σ H R I q
 .exact h2 _ s σ H R I q
structure Mo where
 P:Program
 w:World
 K:KX
 mg:Str->Option f_
 base:Heap
 mkr:Option (e_×Str)
def xj(ns:List (Str×NameKind))(x:Str):Bool:=match ns.lookup x with
 |some .local=>c_
 |some .cell=>c_
 |some .free=>c_
 |_=>d_
def ug(ns:List (Str×NameKind))(x:Str):Bool:=match ns.lookup x with
 |some .local=>c_
 |some .cell=>c_
 |_=>d_
def hV(ns:List (Str×NameKind))(x:Str):Bool:=match ns.lookup x with
 |some .globalImplicit=>c_
 |_=>d_
structure Sc(M:Mo)(X:Cx)(k:Nat)(N:List Str)(ns:List (Str×NameKind)):Prop where
 hP:X.prog=M.P
 hw:X.w=M.w
 hK:X.K=M.K
 hm:X.mg=M.mg
 hb:X.base=M.base
 hN:X.N=N
 nd:N.Nodup
 calm:X.calm=c_
 loc:∀y,ns.lookup y=a_ .local->X.env.scope.names.lookup y=a_ .local
 cel:∀y,ns.lookup y=a_ .cell->X.env.scope.names.lookup y=a_ .cell/\X.fn y=c_
 fre:∀y,ns.lookup y=a_ .free->X.env.scope.names.lookup y=a_ .cell\/X.env.scope.names.lookup y=a_ .free
 glo:∀y,ns.lookup y=a_ .globalImplicit->X.env.scope.names.lookup y=a_ .globalImplicit
 room:lN k X.A
 own:PassesOwn (model X.prog X.w) X.A X.env X.xe
 cod:∀c q,M.mkr=a_ (c,q)->X.env.code=.ref c/\X.env.qual=q
section
variable {M:Mo}{X:Cx}{k:Nat}{N:List Str}{ns:List (Str×NameKind)}
theorem Sc.vis(S:Sc M X k N ns){x:Str}(h:xj ns x=c_):Vis X.env.scope x:=by
 unfold xj at h
 split at h
 .rename_i e;exact .inl (S.loc x e)
 .rename_i e;exact .inr (.inl (S.cel x e).1)
 .rename_i e;exact .inr (S.fre x e)
 grind
theorem Sc.lo(S:Sc M X k N ns){x:Str}(h:ug ns x=c_):Loc X.env.scope x/\(X.fn x=c_\/X.env.scope.names.lookup x=a_ .local):=by
 unfold ug at h
 split at h
 .rename_i e;exact⟨.inl (S.loc x e),.inr (S.loc x e)⟩
 .rename_i e;exact⟨.inr (S.cel x e).1,.inl (S.cel x e).2⟩
 grind
theorem Sc.gl(S:Sc M X k N ns){x:Str}(h:hV ns x=c_):Gl X x:=by
 unfold hV at h
 split at h
 .rename_i e;exact S.glo x e
 grind
variable {a b c e:Expr}{es:List Expr}{ma mb mc:ME}{mt:MT}{ZP:MA}{pos p1 p2:Pos}{x:Str}
theorem P7(S:Sc M X k N ns)(i:Nat)(hi:N[i]?=a_ x)(hv:xj ns x=c_)(hd:(x==("__debug__":Str))=d_)(Z8:(x==("__classdict__":Str))=d_):PE X (.Name x pos) (tM M.K (ae i)):=
 PE.con (IZ (by rw[S.hN];omega) (S.vis hv) hd Z8) λ_ _ _ h=>Ph h
theorem P0{x1}(h:PA X es (tMA M.K ZP)):PE X (.Tuple es x1 pos) (tM M.K (iU ZP)):=PE.con (MN h) λ_ _ _ h=>(by
  obtain⟨μ,S,G,u,S',hr,er,e,k⟩:=h;obtain⟨xs,S1,e1,e⟩:=be e
  split at e
  .rename_i hc
   cases e;refine⟨μ,S,G,xs,_,hr,er,e1,λY0 vs H1 p1 k1 ZZ rs=>⟨?_,λp hp=>?_⟩⟩
   .have:=rs.len;unfold big at hc;rw[sizeLine_eq];lia
   .exact k _ _ _ p1 (k1.trans (bD.new hp)) (ZZ.tup hp) (jO du (RUs.mono (bD.new hp) 2#2 _ _ rs))
  ·cases e)
theorem Px(h:PA X es (tMA M.K ZP)):PE X (.List es pos) (tM M.K (dN ZP)):=PE.con ((by
  intro pins s σ H Q I hq;refine wpAny_List_spliced (thn (h _ _ s σ H _ I hq) λus s1 ⟨xs,H1,I1,r,z,q⟩=>⟨by rw[<-r.length];omega,?_⟩);refine⟨.ref _,_,I1.laid (λb u e=>af _ e) (ak _) ?_,rfl,q _ (I1.hok.fresh (ak _))⟩
  exact⟨z,us,0,r,av _ rfl⟩)) λ_ _ _ h=>QR h
theorem Iu(S:Sc M X k N ns)(hg:hV ns "len"=c_)(hm:M.mg "len"=b_)(ha:PA X (e::es) (tMA M.K ZP))(he:autoParam 3#3 1#9)(ZJ:autoParam 3#5 1#9) :
  PE X (.Call (.Name "len" p1) (e::es) [] pos) (tM M.K (mFn cp ZP)):=
 PE.con (kl (jg.or (S.hK▸zM) FL) (S.gl hg) (by rw[S.hm];omega) PySem.boot_len ha 0#2 0#2 he ZJ) λ_ _ _ h=>zY (by
   intro μ S H us vs u S' Q hr rs e a;unfold cp at e
   split at e
   .rename_i x
    obtain⟨v,r,rfl,rx,rn⟩:=rs.inv;rw[rn.nil_inv]
    split at e
    .rename_i kvs qd
     cases e;obtain⟨p,ws,rfl,hp,r'⟩:=hr.dic rx qd;refine .inr ⟨p,_,rfl,hp,?_⟩;rw[HM (by have:=r'.len;rwa[ar]at this)];exact a.now hr fZ
    cases q:eA S x with
    |none=>rw[q]at e;cases e
    | some ws=>
      rw[q]at e;cases e;obtain⟨p,ys,rfl,hs,r'⟩:=hr.seq rx q;refine .inl ⟨p,ys,rfl,hs,?_⟩;rw[<-r'.len];exact a.now hr fZ
   ·cases e) h
theorem Lr(S:Sc M X k N ns)(hg:hV ns "tuple"=c_)(hm:M.mg "tuple"=b_)(ha:PA X (e::es) (tMA M.K ZP))(he:autoParam 3#3 1#9)(ZJ:autoParam 3#5 1#9) :
  PE X (.Call (.Name "tuple" p1) (e::es) [] pos) (tM M.K (mFn bQ ZP)):=
 PE.con (lG (S.hK▸xk) (S.gl hg) (by rw[S.hm];omega) xE ha 0#2 0#2 he ZJ) λ_ _ _ h=>zY (by
   intro μ S H us vs u S' Q hr rs e a;unfold bQ at e
   split at e
   .obtain⟨v,r,rfl,rx,rn⟩:=rs.inv
    rw[rn.nil_inv];unfold eA at e
    split at e
    .cases e
     obtain⟨p,ys,rfl,hp,r'⟩:=gq rx;exact⟨p,ys,rfl,.inr ⟨.inl (.inl hp),a.now hr (jO hp r')⟩⟩
    .rename_i n
     cases q:getL S n with
     |none=>rw[q]at e;cases e
     | some ws=>
       rw[q]at e;cases e;obtain⟨p,rfl,hp⟩:=gQ rx;obtain⟨p',ys,Zl,hs,r'⟩:=hr.sq q;rw[hp]at Zl;cases Zl;exact⟨p,ys,rfl,.inl ⟨hs,λl hl=>(a μ _ _ 2#2 (bD.new hl) (hr.tup hl) (jO du (RUs.mono (bD.new hl) 2#2 _ _ r')))⟩⟩
    .cases e
   ·cases e) h
theorem PD(S:Sc M X k N ns)(hg:hV ns "max"=c_)(hm:M.mg "max"=b_)(ha:PA X (e::es) (tMA M.K ZP))(he:autoParam 3#3 1#9)(ZJ:autoParam 3#5 1#9) :
  PE X (.Call (.Name "max" p1) (e::es) [] pos) (tM M.K (mFn AU ZP)):=
 PE.con (kl ((show jg X (.builtin "max") (fun xs H Q => ∃ i j,xs = [.int i,.int j]/\Q (.int (if j > i then j else i)) H) by
   intro pins s σ H xs us Q I r h;obtain⟨i,j,rfl,q⟩:=h;obtain⟨u,w',rfl,⟨t,rfl⟩,⟨t',rfl⟩⟩:=vals2 r;refine max_two_ints (I.ok.hd S.calm) λh' tk k=>⟨_,H,I.kept k,?_,q⟩;by_cases hj:j>i
   .rw[if_pos hj,if_pos hj];exact⟨_,rfl⟩
   ·rw[if_neg hj,if_neg hj];exact⟨_,rfl⟩)) (S.gl hg) (by rw[S.hm];omega) PyProof.Rows.boot_max ha (by decide) (by decide) he ZJ) λ_ _ _ h=>zY (by
   intro μ S H us vs u S' Q hr rs e a;unfold AU at e
   split at e
   .cases e
    obtain⟨v,r,rfl,rx,rs⟩:=rs.inv;obtain⟨w,r,rfl,ry,rn⟩:=rs.inv;rw[rn.nil_inv,dI rx,dI ry];exact⟨_,_,rfl,a.now hr fZ⟩
   ·cases e) h
theorem QT(S:Sc M X k N ns)(hg:hV ns "min"=c_)(hm:M.mg "min"=b_)(ha:PA X (e::es) (tMA M.K ZP))(he:autoParam 3#3 1#9)(ZJ:autoParam 3#5 1#9) :
  PE X (.Call (.Name "min" p1) (e::es) [] pos) (tM M.K (mFn zU ZP)):=
 PE.con (kl (S.hK▸(by
   intro pins s σ H xs us Q I rs h
   exact FX S.calm pins s σ H xs us Q I rs h)) (S.gl hg) (by rw[S.hm];omega) PyProof.Rows.boot_min ha (by decide) (by decide) he ZJ) λ_ _ _ h=>zY Nq h
structure Fn(M:Mo)(x:Str)(k:Nat)(ps:List Str)(m:MF):Prop where
 ex:∃(f:e_) (fd:FuncData),M.mg x=a_ (.ref f)/\dZ M.K (.ref f)=c_/\Binds M.K fd ps []/\lJ M.P M.w M.K M.mg M.base CX0 k f fd ps (spM M.K m)
theorem GK(S:Sc M X k N ns)(ho:PE X a (tM M.K ma))(ha:PA X (e::es) (tMA M.K ZP))(Zw:autoParam (attributeBase a "append" X.env (eval a X.env)=eval a X.env) 1#9)
  (YI:autoParam (((backTo pos (starEach (e::es) X.env)).all (λx => !x.1)&&(backToKw pos (keywordEach [] X.env)).all (λx=>x.1.isSome)
   && decide ((e::es).length+([]:List Keyword).length+(if ([]:List Keyword).isEmpty then 0 else 1)<30))=c_) au1._auto_1)
  (Zx:autoParam ((p1.endLine==pos.line)=c_) 1#9) (hs:autoParam 3#3 1#9) (ZJ:autoParam 3#5 1#9):
  PE X (.Call (.Attribute a "append" p1) (e::es) [] pos) (tM M.K (mML de ma ZP)):=PE.con (HQ i9 PySem.F.slot_list_append PySem.F.type_list_append Fh ho ha Zw YI Zx hs ZJ) fun _ _ _ h=>S.hK▸Ot FD h
theorem KP(S:Sc M X k N ns)(ho:PE X a (tM M.K ma))(ha:PA X (e::es) (tMA M.K ZP))(Zw:autoParam (attributeBase a "pop" X.env (eval a X.env)=eval a X.env) 1#9)
  (YI:autoParam (((backTo pos (starEach (e::es) X.env)).all (λx => !x.1)&&(backToKw pos (keywordEach [] X.env)).all (λx=>x.1.isSome)
   && decide ((e::es).length+([]:List Keyword).length+(if ([]:List Keyword).isEmpty then 0 else 1)<30))=c_) au1._auto_1)
  (Zx:autoParam ((p1.endLine==pos.line)=c_) 1#9) (hs:autoParam 3#3 1#9) (ZJ:autoParam 3#5 1#9):
  PE X (.Call (.Attribute a "pop" p1) (e::es) [] pos) (tM M.K (mML nq ma ZP)):=PE.con (HQ i9 Fc Fd HA ho ha Zw YI Zx hs ZJ) fun _ _ _ h=>S.hK▸Ot IT h
theorem Q9 (S:Sc M X k N ns)(hg:hV ns "range"=c_)(hm:M.mg "range"=b_)(ha:PA X [a] (tMA M.K ZP))(hs:autoParam (starEach [a] X.env=[(d_,eval a X.env)]) 1#9):PI X tg (.Call (.Name "range" p1) [a] [] pos) (Hx (tMA M.K ZP)):=
 (by
   intro pins s σ H R I h;refine Call_ (ky I (S.gl hg) (by rw[S.hm];omega) boot_range (cM (thn (ha _ _ s σ H _ I h) λus s1 ⟨vs,H1,I1,r1,q1⟩=>?_) hs rfl));obtain⟨j,e,q1,q2,q⟩:=q1;subst e;cases r1 with
   | cons r rr=>
     cases rr;obtain⟨t,rfl⟩:=r
     exact call_range_1 (BR I1 (by decide) (by decide) q1 q2 (by simpa using q)))
theorem Ri (S:Sc M X k N ns)(hg:hV ns "range"=c_)(hm:M.mg "range"=b_)(ha:PA X [a,b] (tMA M.K ZP))(hs:autoParam (starEach [a,b] X.env=[(d_,eval a X.env),(d_,eval b X.env)]) 1#9)(Zm:autoParam (starEach [b] X.env=[(d_,eval b X.env)]) 1#9):PI X tg (.Call (.Name "range" p1) [a,b] [] pos) (Jo (tMA M.K ZP)):=
 (by
   intro pins s σ H R I h;refine Call_ (ky I (S.gl hg) (by rw[S.hm];omega) boot_range (cM (thn (ha _ _ s σ H _ I h) λus s1 ⟨vs,H1,I1,r1,q1⟩=>?_) (by rw[hs,Zm]) (by rw[Zm];rfl)));obtain⟨i,j,e,⟨q1,q2,q3,q4⟩,q⟩:=q1;subst e;cases r1 with
   | cons r rr=>
     cases rr with
     | cons r' rr=>
       cases rr;obtain⟨t,rfl⟩:=r;obtain⟨t',rfl⟩:=r'
       exact call_range_2 (BR I1 q1 q2 q3 q4 q))
def y9(N N':List Str)(ns names:List (Str×NameKind))(xs:List Str):Bool:=
 decide ((names.map (·.1)).Nodup)&&names.all (λy=>if y.2==.free then(match ns.lookup y.1 with |some .cell=>c_ |some .free=>c_ |_=>d_) else c_)&&xs.all (ug names)&&decide N'.Nodup &&
 (N'.length==N.length+1#2)&&((ao 1#2).all λj=>N'[N.length+j]? == xs[j]?)&&(ao N.length).all λi=>match N'[i]? with
  |none=>c_
  |some y=>if xj names y then N[i]? == a_ y&&names.lookup y==a_ .free else c_
def qS(N N':List Str)(ns names:List (Str×NameKind))(x:Str):Bool:=y9 N N' ns names [x]
variable{N' xs:List Str}{scope:Scope}
theorem Cr(S:Sc M X k N ns)(hk:scope.kind=.function)(h:y9 N N' ns scope.names xs=c_):k8 X N' scope xs:=by
 unfold y9 at h;simp only[aE]at h;obtain⟨⟨⟨⟨⟨⟨h1,h2⟩,h3⟩,h4⟩,h5⟩,h6⟩,h7⟩:=h;refine⟨hk,of_decide_eq_true h1,λy hy e=>?_,λx hx=>?_,of_decide_eq_true h4,?_,λj x hj=>?_,λi y hi e hv=>?_⟩
 .have:=dc.mp h2 y hy
  rw[if_pos (by rw[e];rfl)]at this
  split at this
  .rename_i q;exact .inl (S.cel _ q).1
  .rename_i q;exact S.fre _ q
  grind
 .have h3:=dc.mp h3 x hx
  unfold ug at h3
  split at h3<;>grind
 .rw[S.hN];exact eq_of_beq h5
 .have:=dc.mp h6 j (aA.mpr ((ag.mp hj).1))
  rw[S.hN,eq_of_beq this];omega
 .rw[S.hN]at hi ⊢
  have:=dc.mp h7 i (aA.mpr hi);rw[e]at this;have hvb:xj scope.names y=c_:=by
   unfold xj;rcases hv with q|q|q<;>rw[q]
  grind
theorem xJ(S:Sc M X k N ns)(hk:scope.kind=.function)(h:qS N N' ns scope.names x=c_):k8 X N' scope [x]:=Cr S hk h
theorem zD(S:Sc M X k N ns)(C:k8 X N' scope xs)(ZX:g_)(ZT:Hp)(fp:List e_):Sc M (blk X N' scope ZX ZT fp) k N' scope.names where
 hP:=S.hP
 hw:=S.hw
 hK:=S.hK
 hm:=S.hm
 hb:=S.hb
 hN:=rfl
 nd:=C.ndN
 calm:=S.calm
 loc:=λy h=>lookup_relabel_local h
 cel:=λy h=>⟨mH h,by show(scope.names.lookup y==a_ _)=c_;rw[h];rfl⟩
 fre:=λy h=>mE h
 glo:=λy h=>qF h
 room:=S.room
 own:=wQ
 cod:=S.cod
variable{iter:Expr}{wi:TI}{mi:MI}
theorem IL{px:Pos}{elt:Expr}{ifs:List Expr}(S:Sc M X k N ns)(hk:scope.kind=.function)(ok:qS N N' ns scope.names x=c_)(hi:PI X (.Name x px) iter wi)
  (ht:∀X',Sc M X' k N' scope.names->PTs X' ifs (tMT M.K mt)) (he:∀X',Sc M X' k N' scope.names->PE X' elt (tM M.K mc)) (hr:∀σ H Q,tM M.K (bY mi mt mc) σ H Q->yw wi (tMT M.K mt) (tM M.K mc) σ H Q)
  (hs:autoParam (∀x,foldedSetIterable iter X.env x=pure x) au3._auto_1):PE X (.ListComp elt [⟨.Name x px,iter,ifs,0⟩] scope pos) (tM M.K (bY mi mt mc)):=by
 have C:=xJ S hk ok;exact PE.con ((λpins s σ H Q I h=>wpAny_comprehension_free rfl hs (mU (C.frees I.ok)) C.kind (λy hy e=>oM C.nd (by rw[<-e];omega)) (yq (gT:=gT1) S.calm C hi (λZX ZT fp=>ht _ (zD S C _ _ fp)) (λZX ZT fp=>he _ (zD S C _ _ fp)) I h (Ek C) λs' L D H' ml Wm I' hn h1 h2 h3 h4 q=>(⟨ml,Wm,λh' Vy=>⟨.ref D,H',I'.turned (λb o hb e=>(Vy.2 b hb).trans e) hn h1 (.inr h2) h3 h4,rfl,q⟩⟩)))) hr
theorem MC:PTs X [] (tMT M.K cTT):=PTs.con (λpins s σ H Q I h=>aj ⟨H,I,h⟩) λσ H Q h=>by
 obtain⟨μ,S,G,b,S',hr,er,e,kk⟩:=h;cases e;exact kk μ H 2#2 (bD.refl _) hr
variable {st:Stmt}{sts:List Stmt}{ms ms':MS}
theorem LV(S:Sc M X k N ns)(i:Nat)(hi:N[i]?=a_ x)(ho:ug ns x=c_)(he:PE X e (tM M.K ma))(hs:autoParam (swapsWith e (a_ (.Name x p1)) pos.line X.env=pure d_) 1#9):PS X (.Assign [.Name x p1] e pos) (tMS M.K (bC i ma)):=
 PS.con ((λpins s σ H D I h=>wpAny_Assign_Name (thn (he _ s σ H _ I h) λv s1 ⟨y,H1,I1,r1,q1⟩=>(rB I1 (by rw[S.hN];exact S.nd) (by rw[S.hN];omega) (S.lo ho).1 r1 (λs2 I2=>⟨_,H1,I2,q1⟩) (S.lo ho).2)) hs)) λ_ _ _ h=>Mk h
theorem Pi(S:Sc M X k N ns)(i:Nat)(hi:N[i]?=a_ x)(ho:ug ns x=c_)(hit:PI X (.Name x p1) iter wi)(hb:PSs X sts (tMS M.K ms))(hr:∀D σ H,tMS M.K (fv i mi ms) D σ H->HD wi (pv i) (tMS M.K ms) D σ H)
  (hs:autoParam (∀x,foldedSetIterable iter X.env x=pure x) au3._auto_1):PS X (.For (.Name x p1) iter sts [] pos) (tMS M.K (fv i mi ms)):=
 PS.con (Hd S.own S.calm hit (Ez (by rw[S.hN];exact S.nd) (by rw[S.hN];omega) (S.lo ho).1 (S.lo ho).2) hb hs) hr
end
variable{A:Around}{f:e_}{N:List Str}{qual:Str}{s:g_}
theorem Sc.def{M:Mo}{ps:List Str}{scope:Scope}{cdv:f_}{outer:List Env}{E:XK}{k:Nat}(S:bo N ps scope)(hr:lN k (A.deeper (envOfC qual scope s.heap.objs.size f cdv)))(h0 :∀ c q,M.mkr=a_ (c,q)->cdv=.ref c/\qual++".<locals>."=q) :
  Sc M (F7 CX0 M.P M.w M.K M.mg M.base N qual scope f cdv A outer s H E).nox k N scope.names:=
 ⟨rfl,rfl,rfl,rfl,rfl,rfl,S.nd,rfl,λ_ h=>h,λ_ h=>⟨h,rfl⟩,λ_ h=>.inr h,λ_ h=>h,hr,wQ,h0⟩
variable{us:List U}{vs:List V}
theorem yi(r:RUs H μ us vs):ER H μ (us.map a_++aS (N.length-1#1) b_) (_L.start N vs):=by
 unfold _L.start;refine⟨by simp[r.len],λi u h=>?_⟩;by_cases hi:i<1#1
 .rw[aT (by simpa using hi),a9]at h
  cases e:us[i]? with
  |none=>rw[e]at h;cases h
  | some w=>
    rw[e]at h;cases h;obtain⟨v,hv,rv⟩:=r.get e;refine⟨v,?_,rv⟩;rw[aT (by simpa [<-r.len]using hi),a9,hv];rfl
 .rw[bj (by simpa using hi)]at h
  rw[jt]at h
  simp_all
theorem IC{M:Mo}(h0:M.mkr=b_){x:Str}{st:Stmt}{fd:FuncData}{ps:List Str}{k:Nat}{ms:MS}(F:Fun M.K x qual st f fd)(S:bo N ps (aH st))
  (hb:∀X,Sc M X k N (aH st).names->PSs X (dJ st) (tMS M.K ms)):lJ M.P M.w M.K M.mg M.base CX0 (k+1) f fd ps (spM M.K (run ps.length N.length ms)):=by
 refine F.ok S (λvs H Q E h=>?_) λcdv A outer s H vs Q E hr h=>⟨_,hb _ (Sc.def S hr λc q h=>by grind),?_⟩
 .obtain⟨μ,S',us,u,Yh,hr,rs,e,_⟩:=h
  unfold run at e
  split at e
  .rw[<-rs.len];omega
  .cases e
 .obtain⟨μ,S1,us,u,S2,hr,rs,e,ka⟩:=h
  unfold run at e
  split at e
  .rename_i hl
   have er:=yi (N:=N) rs;rw[hl]at er
   split at e
   .rename_i w Y4 S3 q
    cases e;exact⟨μ,S1,_,_,hr,er,q,ka⟩
   .rename_i Y4 S3 q
    cases e;exact⟨μ,S1,_,_,hr,er,q,λY6 Y3 H' p' k' Yu er'=>ka _ _ H' p' k' Yu p8⟩
   .cases e
  .cases e
mutual
inductive rR(K:aq)(H:Hp):V->PyData->Prop where
 |non:rR K H .non .none
 |bl (b:Bool):rR K H (.bl b) (.bool b)
 |int (i:Int):rR K H (.int i) (.int i)
 |str (x:Str):rR K H (.str x) (.str x)
 |tup {a:e_}{vs:List V}{ds:List PyData}:SqT K H a vs->mT K H vs ds->rR K H (.ref a) (.tuple ds)
 |lst {a:e_}{vs:List V}{ds:List PyData}:SqL K H a vs->mT K H vs ds->rR K H (.ref a) (.list ds)
inductive mT(K:aq)(H:Hp):List V->List PyData->Prop where
 |nil:mT K H [] []
 |cons {v:V}{vs:List V}{d:PyData}{ds:List PyData}:rR K H v d->mT K H vs ds->mT K H (v::vs) (d::ds)
end
section
variable {X:Cx}{pins:List (e_×Obj)}{σ:St}{H:Hp}{s:g_}
mutual
theorem rR.reads(I:Inv X pins σ H s):∀{v:V}{d:PyData}{w:f_},rR X.K H v d->RelV v w->∃as,Reads s.heap w d as
 |_,_,_,.non,r=>⟨[],by cases (show _=cJ from r);exact .none⟩
 |_,_,_,.bl b,r=>⟨[],by cases (show _=Value.bool b from r);exact .bool b⟩
 | _,_,_,.int i,r=>by
   obtain⟨t,e⟩:=(show ∃t,_=rG i t from r);subst e;exact⟨[],.int i t⟩
 | _,_,_,.str x,r=>by
   obtain⟨t,e⟩:=(show ∃t,_=Value.str x t from r);subst e;exact⟨[],.str x t⟩
 | _,_,_,.tup (a:=a) h rs,r=>by
   cases (show _=bZ a from r);obtain⟨ZY,rv,⟨o,e,c,n,dt⟩,_⟩:=I.tuple h;obtain⟨as,q⟩:=mT.reads I rs rv;exact⟨as,.tuple e c dt q⟩
 | _,_,_,.lst (a:=a) h rs,r=>by
   cases (show _=bZ a from r);obtain⟨ZY,rv,⟨o,n,e,c,dd,dt⟩,_⟩:=I.list h;obtain⟨as,q⟩:=mT.reads I rs rv;exact⟨a::as,.list e c dt q⟩
theorem mT.reads(I:Inv X pins σ H s):∀{vs:List V}{ds:List PyData}{ws:List f_},mT X.K H vs ds->cX vs ws->∃as,ReadsAll s.heap ws ds as
 |_,_,_,.nil,r=>by cases r;exact⟨[],.nil⟩
 | _,_,_,.cons h rs,r=>by
   cases r with
   | cons r1 r2=>
     obtain⟨as,q⟩:=rR.reads I h r1;obtain⟨bs,q'⟩:=mT.reads I rs r2;exact⟨as++bs,.cons q q'⟩
end
end
theorem qW{α β:Type}{f:α->Option β}{P:α->β->Prop}(hf:∀x y,f x=a_ y->P x y):∀{xs:List α}{ys:List β},dG f xs=a_ ys->Paired P xs ys
 |[],ys,h=>by cases h;exact .nil
 | x::xs,ys,h=>by
   unfold dG at h;cases e:f x with
   |none=>grind
   | some y=>
     rw[e]at h;cases e2:dG f xs with
     |none=>simp_all
     | some zs=>
       rw[e2]at h;cases h;exact .cons (hf x y e) (qW hf e2)
theorem uq{f:Nat}:∀{us:List U}{ds:List PyData},Paired (λ(_:U) (d:PyData)=>d.canLay0=c_/\d.depth<=f) us ds->mO ds=c_/\ph ds<=f
 |_,_,.nil=>⟨by simp[mO],by simp[ph]⟩
 | _,_,.cons h t=>by
   obtain⟨a,b⟩:=uq t;exact⟨by simp[mO,h.1,a],Nat.max_le.mpr ⟨h.2,b⟩⟩
section
variable {K:KX}{H:Hp}{μ:List e_}{S:Sto}
theorem uG{f:Nat}(hr:HR K μ S H)(ih:∀(u:U) (d:PyData),toD S f u=a_ d->∀v,RU H μ u v->rR K H v d):∀{us:List U}{ds:List PyData},dG (toD S f) us=a_ ds->∀{vs:List V},RUs H μ us vs->mT K H vs ds
 |[],ds,h,vs,r=>by cases h;rw[r.nil_inv];exact .nil
 | u::us,ds,h,vs,r=>by
   unfold dG at h;cases e:toD S f u with
   |none=>grind
   | some y=>
     rw[e]at h;cases e2:dG _ us with
     |none=>rw[e2]at h;cases h
     | some zs=>
       rw[e2]at h;cases h;obtain⟨v,r',rfl,a,b⟩:=r.inv;exact .cons (ih u y e v a) (uG hr ih e2 b)
theorem uF(hr:HR K μ S H):∀(f:Nat) (u:U) (d:PyData),toD S f u=a_ d->∀v,RU H μ u v->rR K H v d
 |0,u,d,h,v,r=>by cases u<;>cases h
 |f+1,.non,d,h,v,r=>by cases h;rw[show v=.non by simpa only [RU]using r];exact .non
 |f+1,.bl b,d,h,v,r=>by cases h;rw[kB r];exact .bl b
 |f+1,.int i,d,h,v,r=>by cases h;rw[dI r];exact .int i
 | f+1,.str x,d,h,v,r=>by
   unfold toD at h
   split at h
   .cases h;rw[show v=.str x by simpa only [RU]using r];exact .str x
   grind
 | f+1,.tup us,d,h,v,r=>by
   unfold toD at h;cases e:dG _ us with
   |none=>rw[e]at h;cases h
   | some ds=>
     rw[e]at h;cases h;obtain⟨a,vs,rfl,ha,rs⟩:=gq r;exact .tup (.inl (.inl ha)) (uG hr (uF hr f) e rs)
 | f+1,.ref n,d,h,v,r=>by
   unfold toD at h;cases e0:getL S n with
   |none=>grind
   | some us=>
     rw[e0]at h;simp only[aO]at h;cases e:dG _ us with
     |none=>rw[e]at h;cases h
     | some ds=>
       rw[e]at h;cases h;obtain⟨a,rfl,ha⟩:=gQ r;obtain⟨a',vs,YW,hs,rs⟩:=hr.sq e0;rw[ha]at YW;cases YW;exact .lst hs (uG hr (uF hr f) e rs)
 |f+1,.obj a,d,h,v,r=>by cases h
end
theorem uI(S:Sto):∀(f:Nat) (u:U) (d:PyData),toD S f u=a_ d->d.canLay0=c_/\d.depth<=f
 |0,u,d,h=>by cases u<;>cases h
 |f+1,.non,d,h=>by cases h;exact⟨by simp[jG],by simp[uP]⟩
 |f+1,.bl b,d,h=>by cases h;exact⟨by simp[jG],by simp[uP]⟩
 |f+1,.int i,d,h=>by cases h;exact⟨by simp[jG],by simp[uP]⟩
 | f+1,.str x,d,h=>by
   unfold toD at h
   split at h
   .rename_i q;cases h;exact⟨q,by simp[uP]⟩
   grind
 | f+1,.tup us,d,h=>by
   unfold toD at h;cases e:dG _ us with
   |none=>rw[e]at h;cases h
   | some ds=>
     rw[e]at h;cases h;obtain⟨a,b⟩:=uq (qW (λx y q=>uI S f x y q) e);exact⟨by simpa [jG]using a,Nat.lt_succ_of_le 1#6⟩
 | f+1,.ref n,d,h=>by
   unfold toD at h;cases e0:getL S n with
   |none=>simp_all
   | some us=>
     rw[e0]at h;simp only[aO]at h;cases e:dG _ us with
     |none=>rw[e]at h;cases h
     | some ds=>
       rw[e]at h;cases h;obtain⟨a,b⟩:=uq (qW (λx y q=>uI S f x y q) e);exact⟨by simpa [jG]using a,Nat.lt_succ_of_le 1#6⟩
 |f+1,.obj a,d,h=>by cases h
def vV(K:aq)(H:Hp)(v:V)(d:PyData):Prop:=rR K H v d/\d.canLay0=c_/\d.depth<=40
def RD(K:aq):R2:=λx y H Q=>∃a b,vV K H x a/\vV K H y b/\Q (.bl (oU a b)) H
def Sf(K:aq):R2:=λx y H Q=>∃a b,vV K H x a/\vV K H y b/\Q (.bl (!oU a b)) H
variable{d:PyData}
theorem oC{K:aq}(h:vV K H v d):SeqAt.shaped d=c_:=by
 unfold SeqAt.shaped;rw[h.2.1,decide_eq_true (aK h.2.2 0#2)];rfl
section
variable {X:Cx}
end
section
variable {K:KX}{μ:List e_}{S:Sto}{H:Hp}
theorem BK(hr:HR K μ S H)(r:RU H μ u v)(h:toD S 40 u=a_ d):vV K H v d:=⟨uF hr 40 u d h v r,uI S 40 u d h⟩
theorem Ej{x y:U}{b:Bool}(h:eqU S x y=a_ b):∃a c,toD S 40 x=a_ a/\toD S 40 y=a_ c/\b=oU a c:=by
 unfold eqU at h;cases e1:toD S 40 x with
 |none=>simp_all
 | some a=>
   cases e2:toD S 40 y<;>grind
theorem Pd:OpU K (RD K) oEq:=by
 intro μ S H x y vx vy u S' Q hr rx ry e a;unfold oEq at e;cases q:eqU S x y with
 |none=>rw[q]at e;cases e
 | some b=>
   rw[q]at e;cases e;obtain⟨d1,d2,e1,e2,rfl⟩:=Ej q;exact⟨d1,d2,BK hr rx e1,BK hr ry e2,a.now hr jW⟩
theorem OV:OpU K (Sf K) oNe:=by
 intro μ S H x y vx vy u S' Q hr rx ry e a;unfold oNe at e;cases q:eqU S x y with
 |none=>rw[q]at e;cases e
 | some b=>
   rw[q]at e;cases e;obtain⟨d1,d2,e1,e2,rfl⟩:=Ej q;exact⟨d1,d2,BK hr rx e1,BK hr ry e2,a.now hr jW⟩
end
def Pr(K:aq):V->Option Int->Option Int->Hp->VK->Prop:=λx lo hi H Q=>∃a xs,x=.ref a/\SqT K H a xs /\
 (HT.sIx xs.length 0 lo=0/\HT.sIx xs.length xs.length hi=1#2)/\Q (.ref a) H
theorem G9:SlR X (Pr X.K):=by
 intro pins s σ H x v vl vu lo hi sl Q I rx hs pl pu h;obtain⟨a,xs,rfl,hx,hw,q⟩:=h;cases rx;obtain⟨ZY,r,ht,hz⟩:=I.tuple hx;have hlen:ZY.toArray.size=1#2:=r.length.symm;exact⟨_,_,PyProof.Rows.slot_tuple_getitem.lookup,ht.typeIs,(HT.getItem_tuple_whole ht hs pl pu (by rw[hlen];omega) ⟨.ref a,H,I,rfl,q⟩)⟩
def rSl(K:aq):V->Option Int->Option Int->Hp->VK->Prop:=λx lo hi H Q=>O9 K x lo hi H Q\/(Pr K x lo hi H Q\/Pb K x lo hi H Q)
def tO(K:KX):Option ME->TO
 |none=>KR
 |some m=>Pf (tM K m)
theorem Em(r:RUs H μ us vs)(lo hi:Option Int):RUs H μ (cut us lo hi) (F5 vs lo hi):=by
 unfold cut F5;rw[r.len];exact(r.drop _).take _
section
variable {K:KX}{σ:St}{H:Hp}{Q:VK}
theorem Ho{a:Option ME}{S S1:Sto}{o:Option Int}{Q:Option Int->Hp->Prop}(hr:HR K μ S H)(er:ER H μ G σ)(e:Bo a G S=a_ (o,S1))
  (k:∀Y0 H1,Pre μ Y0->bD H H1->HR K Y0 S1 H1->Q o H1):tO K a σ H Q:=by
 cases a with
 |none=>cases e;exact k μ H 2#2 (bD.refl _) hr
 | some m=>
   obtain⟨x,S2,e1,e⟩:=be (show bnd (m G S) (λx S1=>match x with
    |.int i=>a_ (a_ i,S1)
    | _=>b_)=a_ _ from e)
   split at e
   .cases e
    exact⟨μ,S,G,_,_,hr,er,e1,λY0 v H1 p1 k1 ZZ rx=>⟨_,dI rx,k _ H1 p1 k1 ZZ⟩⟩
   .cases e
theorem Kx{a:ME}{lo hi:Option ME}(h:tM K (mSl a lo hi) σ H Q):tSl (rSl K) (tM K a) (tO K lo) (tO K hi) σ H Q:=by
 obtain⟨μ,S,G,u,S',hr,er,e,k⟩:=h;obtain⟨x,S1,e1,e⟩:=be e;obtain⟨l,S2,e2,e⟩:=be e;obtain⟨r,S3,e3,e⟩:=be e;refine 3#4;refine Ho ZZ (er.mono k1 p1) e2 λY7 H2 p2 k2 ZS=>?_;refine Ho ZS (er.mono (k1.trans k2) (p1.trans p2)) e3 λX6 H3 p3 k3 YU=>?_;have k':=k.mono (p1.trans (p2.trans p3)) (k1.trans (k2.trans k3));have SV:=RU.mono (k2.trans k3) (p2.trans p3) _ _ rx;cases x with
 | tup us=>
   cases e;obtain⟨p,vs,rfl,hp,rs⟩:=gq SV;by_cases hw:HT.sIx vs.length 0 l=0/\HT.sIx vs.length vs.length r=2#1
   .refine .inr (.inl ⟨p,vs,rfl,.inl (.inl hp),hw,k'.now YU ?_⟩)
    have e4:cut us l r=us:=by
     unfold cut;rw[rs.len,hw.1,hw.2];simp[<-rs.len]
    grind
   .refine .inl ⟨p,vs,rfl,.inl (.inl hp),hw,λt ht=>?_⟩
    refine k' _ _ _ 2#2 (bD.new ht) (YU.tup ht) (jO du (RUs.mono (bD.new ht) 2#2 _ _ (Em rs l r)))
 | ref n=>
   simp only at e;cases q:getL S3 n with
   |none=>rw[q]at e;cases e
   | some us=>
     rw[q]at e;cases e;obtain⟨p,rfl,hp⟩:=gQ SV;obtain⟨p',vs,Zl,hs,rs⟩:=YU.sq q;rw[hp]at Zl;cases Zl;exact .inr (.inr ⟨p,vs,rfl,hs,λt ht=>jB k' YU (Em rs l r) ht⟩)
 |_=>cases e
end
section
variable {M:Mo}{X:Cx}{k:Nat}{N:List Str}{ns:List (Str×NameKind)}{a b c e:Expr}{es:List Expr}{ma mb mc:ME}{mt:MT}{ZP:MA}{pos p1 p2:Pos}{x:Str}
inductive sf(M:Mo)(X:Cx):Option Expr->Option ME->Prop where
 |none:sf M X .none .none
 |some {e:Expr}{m:ME}:PE X e (tM M.K m)->sf M X (.some e) (.some m)
theorem sf.po{lo:Option Expr}{m:Option ME}(h:sf M X lo m):PO X lo (tO M.K m):=by
 cases h with
 |none=>exact λpins s σ H Q I h=>aj ⟨_,H,I,.none,h⟩
 |some h=>
       intro pins s σ H Q I hw;refine thn (h _ s σ H _ I hw) λu s1 ⟨x,H1,I1,r1,q1⟩=>?_;obtain⟨i,rfl,q⟩:=q1;obtain⟨t,rfl⟩:=r1;exact⟨_,H1,I1,.int i t,q⟩
end
def j7(a b:ME):ME:=λG S=>bnd (a G S) λx S1=>match x with
 |.bl c_=>b G S1
 |.bl d_=>a_ (.bl d_,S1)
 |_=>b_
def mOr(a b:ME):ME:=λG S=>bnd (a G S) λx S1=>match x with
 |.bl c_=>a_ (.bl c_,S1)
 |.bl d_=>b G S1
 |_=>b_
def xi:U->Sto->Res U:=λx S=>match x with
 |.bl b=>a_ (.bl (!b),S)
 |_=>b_
section
variable {K:KX}{σ:St}{H:Hp}{Q:VK}
theorem Oz{a b:ME}(h:tM K (j7 a b) σ H Q):Mp (tM K a) (tM K b) σ H Q:=by
 obtain⟨μ,S,G,u,S',hr,er,e,k⟩:=h;obtain⟨x,S1,e1,e⟩:=be e;refine 3#4
 split at e
 .exact⟨_,kB rx,vT ⟨_,S1,G,u,S',ZZ,er.mono k1 p1,e,k.mono p1 k1⟩⟩
 .cases e
  exact⟨_,kB rx,u0 (k _ _ H1 p1 k1 ZZ jW)⟩
 .cases e
end
section
variable {X:Cx}{a b:Expr}{ta:TA}{p pos:Pos}
def QL(ta:TA):TE:=λσ H Q=>ta σ H λvs H1=>∃j:Int,vs=[.int j] /\ -(2^62)<=j/\j<2^62 /\ ∀r,H1 r=b_->Q (.ref r) (upd H1 r (.rng 0 j))
def O2(ta:TA):TE:=λσ H Q=>ta σ H λvs H1=>∃i j:Int,vs=[.int i,.int j]/\(-(2^62)<=i/\i<2^62 /\ -(2^62)<=j/\j<2^62) /\ ∀r,H1 r=b_->Q (.ref r) (upd H1 r (.rng i j))
theorem A0{pins:List (e_×Obj)}{lo hi:Int}{t u v:Tok}{tk:Nat}(I:Inv X pins σ H s)(q:∀r,H r=b_->Q (.ref r) (upd H r (.rng lo hi))):
  EP X pins σ Q (.ref 0#6) { s with heap:=s.heap.push { cls := .type "range",data := .fields #[.int lo t,.int hi u,.int 1 v] },toks:=tk }:=by
 refine⟨.ref _,_,I.laid (λb ob q=>af _ q) (ak _) ?_,rfl,q _ (I.hok.fresh (ak _))⟩;exact⟨t,u,v,av _ rfl⟩
theorem DL(hg:Gl X "range")(hm:X.mg "range"=b_)(ha:PA X [a] ta)(hs:autoParam (starEach [a] X.env=[(d_,eval a X.env)]) 1#9):PE X (.Call (.Name "range" p) [a] [] pos) (QL ta):=by
 intro pins s σ H Q I h;refine Call_ (ky I hg hm boot_range (cM (thn (ha _ _ s σ H _ I h) λus s1 ⟨vs,H1,I1,r1,q1⟩=>?_) (by rw[hs];rfl) rfl));obtain⟨j,e,q1,q2,q⟩:=q1;subst e;cases r1 with
 | cons r rr=>
   cases rr;obtain⟨t,rfl⟩:=r;exact call_range_1 (A0 I1 q)
theorem Lp(hg:Gl X "range")(hm:X.mg "range"=b_)(ha:PA X [a,b] ta)(hs:autoParam (starEach [a,b] X.env=[(d_,eval a X.env),(d_,eval b X.env)]) 1#9)(Zm:autoParam (starEach [b] X.env=[(d_,eval b X.env)]) 1#9) :
  PE X (.Call (.Name "range" p) [a,b] [] pos) (O2 ta):=by
 intro pins s σ H Q I h;refine Call_ (ky I hg hm boot_range (cM (thn (ha _ _ s σ H _ I h) λus s1 ⟨vs,H1,I1,r1,q1⟩=>?_) (by rw[hs,Zm]) (by rw[Zm];rfl)));obtain⟨i,j,e,⟨q1,q2,q3,q4⟩,q⟩:=q1;subst e;cases r1 with
 | cons r rr=>
   cases rr with
   | cons r' rr=>
     cases rr;obtain⟨t,rfl⟩:=r;obtain⟨t',rfl⟩:=r';exact call_range_2 (A0 I1 q)
theorem zJ:∀{xs:List V}{us:List f_},1#2=1#1->(∀(i:Nat) (x:V) (u:f_),xs[i]?=a_ x->us[i]?=a_ u->RelV x u)->cX xs us
 |[],[],_,_=>.nil
 |[],_::_,h,_=>by simp at h
 |_::_,[],h,_=>by simp at h
 |x::xs,u::us,h,k=>.cons (k 0 x u rfl rfl) (zJ (by simpa using h) λi y w h1 h2=>k (i+1) y w (by simpa using h1) (by simpa using h2))
def o4(i:Int)(n:Nat):List V:=(ao n).map λ(k:Nat)=>.int (i+k)
theorem pH(hc:X.calm=c_):jg X (.type "list") (fun xs H Q=>∃ r lo hi,xs=[.ref r]/\H r=a_ (.rng lo hi)/\(-(2^62)<=lo/\lo<2^62 /\ -(2^62)<=hi/\hi<2^62)/\(hi-lo).toNat<=sizeLine /\ ∀ l,H l=b_->Q (.ref l) (upd H l (.lst (o4 lo (hi-lo).toNat)))):=by
 intro pins s σ H xs us Q I rs h;obtain⟨r,lo,hi,rfl,hr,⟨h1,h2,h3,h4⟩,hz,q⟩:=h;cases rs with
 | cons r1 rr=>
   cases rr;cases (r1);obtain⟨t,u,v,e⟩:=I.hok r _ hr;refine call_list_range (I.ok.hd hc) e (small_one h1 h2 h3 h4) (by rw[rangeSize_one];grind) (hz) λh' tk acc c' hk hl ZK=>?_;obtain⟨ZF,hit⟩:=ZK;refine⟨.ref _,_,I.laid hk (ak _) ?_,rfl,q _ (I.hok.fresh (ak _))⟩;refine⟨by rw[o4,ar,aZ];omega,_,c',?_,by omega⟩;refine zJ (by rw[o4,ar,aZ,bR,ZF]) λi x w h5 h6=>?_;have ZR:=by
    have:=(ag.mp h5).1;rwa[o4,ar,aZ]at this
   have hx:(o4 lo (hi-lo).toNat)[i]?=a_ (.int (lo+i)):=by simp[o4,ZR]
   rw[hx]at h5;cases h5;obtain⟨t',e'⟩:=hit i w (by simpa using h6);exact⟨t',by rw[e'];simp⟩
end
theorem Ec(i:Int)(n:Nat):RUs H μ (bI i n) (o4 i n):=by
 unfold bI o4
 induction n with
 |zero=>simpa using RUs.nil
 |succ n ih=>rw[eI,bL,bL];exact ih.append (.cons fZ .nil)
section
variable {K:KX}{σ:St}{H:Hp}{Q:VK}
def rLR:List V->Hp->VK->Prop:=λxs H Q=>∃r lo hi,xs=[.ref r]/\H r=a_ (.rng lo hi)/\(-(2^62)<=lo/\lo<2^62 /\ -(2^62)<=hi/\hi<2^62)/\(hi-lo).toNat<=sizeLine /\ ∀l,H l=b_->Q (.ref l) (upd H l (.lst (o4 lo (hi-lo).toNat)))
theorem HR.rng{μ:List e_}{S:Sto}{p:e_}{i j:Int}(h:HR K μ S H)(hp:H p=b_):HR K μ S (upd H p (.rng i j)):=by
 have kp:bD H (upd H p (.rng i j)):=bD.new hp;refine⟨h.len,h.inj,λm c b q1 q2=>(h.cell m c b q1 q2).mono kp 2#2 (λhc=>?_) λo u hf=>?_,h.ext.upd kp 2#2 λo1 q=>by grind⟩
 .obtain⟨o,e,_⟩:=(h.cell m _ b q1 q2).has hc
  exact bB (bF e hp)
 .rw[bB (bF hf hp)];omega
theorem EE{S1:Sto}{i j:Int}{r:e_}(ZZ:HR K μ S1 H)(ho:okR i/\okR j)(hz:(bI i (j-i).toNat).length<=big)(k:Aft K μ H (.ref S1.length) (S1++[.lst (bI i (j-i).toNat)]) Q)(Yl:H r=b_):rLR [.ref r] (upd H r (.rng i j)) Q:=by
 refine⟨r,i,j,rfl,du,⟨ho.1.1,ho.1.2,ho.2.1,ho.2.2⟩,?_,λl hl=>?_⟩
 .unfold bI big at hz;rw[ar,aZ]at hz;exact hz
 .exact jB (k.mono 2#2 (bD.new Yl)) (ZZ.rng Yl) (Ec _ _) hl
end
def qL:List String := ["NoneType","bool","int","str","list","tuple","dict"]
def mI:List String := ["bool","int","str","list","tuple","dict"]
variable{T:String}
theorem Oj(K:aq){t:String}(ht:t∈qL)(hT:T∈mI):PySem.W.kitOne K (.type t) (.type T)=a_ (Kg t T):=by
 simp[qL,mI]at ht hT;rcases ht with rfl|rfl|rfl|rfl|rfl|rfl|rfl<;>rcases hT with rfl|rfl|rfl|rfl|rfl|rfl<;>first|rfl|grind
theorem Jk :jg X (.builtin "isinstance") (fun xs H Q=>∃ x t T,xs=[x,.ty T]/\p6 X.K H x (.type t)/\t∈qL/\T∈mI/\Q (.bl (Kg t T)) H):=by
 intro pins s σ H xs us Q I rs h;obtain⟨x,t,T,rfl,ty,ht,hT,q⟩:=h;cases rs with
 | cons r1 rr=>
   cases rr with
   | cons r2 rr=>
     cases rr;cases (r2);exact FZ I r1 ty (Oj _ ht hT) λtk=>⟨.bl _,H,I.tok _,rfl,q⟩
theorem Qq{S:Sto}{x:U}{t:String}(hr:HR K μ S H)(r:RU H μ x v)(e:tyU S x=a_ t):p6 K H v (.type t)/\t∈qL:=by
 unfold tyU at e
 split at e
 .cases e;rw[show v=.non by simpa only [RU]using r];exact⟨.non,by decide⟩
 .cases e;rw[kB r];exact⟨.bl _,by decide⟩
 .cases e;rw[dI r];exact⟨.int _,by decide⟩
 .cases e;rw[show v=.str _ by simpa only [RU]using r];exact⟨.str _,by decide⟩
 .cases e;obtain⟨a,vs,rfl,ha,_⟩:=gq r;exact⟨.tup ha,by decide⟩
 .split at e
  .rename_i q
   cases e;obtain⟨a,rfl,ha⟩:=gQ r;obtain⟨vs,e1,_⟩:=hr.cell _ _ a q ha;exact⟨.lst e1,by decide⟩
  .rename_i q
   cases e;obtain⟨a,rfl,ha⟩:=gQ r;obtain⟨vs,e1,_⟩:=hr.cell _ _ a q ha;exact⟨.dK e1,by decide⟩
  .cases e
 .cases e
theorem P8{H:Hp}{Q:VK}{a:ME}{T:String}(hT:T∈mI)(h:tM K (m1 (r9 T) a) σ H Q):
  tCB (λxs H Q=>∃x t T,xs=[x,.ty T]/\p6 K H x (.type t)/\t∈qL/\T∈mI/\Q (.bl (Kg t T)) H) (Io (tM K a) (Io (tC (.ty T)) Ko)) σ H Q:=by
 obtain⟨μ,S,G,u,S',hr,er,e,k⟩:=h;obtain⟨x,S1,e1,e⟩:=be e;refine 3#4;unfold r9 at e;cases q:tyU S1 x with
 |none=>rw[q]at e;cases e
 | some t=>
   rw[q]at e;cases e;obtain⟨ty,ht⟩:=Qq ZZ rx q;exact⟨vx,t,T,rfl,ty,ht,hT,k _ _ H1 p1 k1 ZZ jW⟩
def IR(S:Sto)(x:U)(us:List U):Option Nat:=(dG (toD S 39) us).bind λds=>(toD S 40 x).bind λd=>ds.findIdx? λy=>oU y d
def fj:List U->List U->Sto->Res U:=λus xs S=>match xs with
 |[x]=>(IR S x us).map λk=>(.int k,S)
 |_=>b_
def Qx(K:aq)(to:TE)(t:TA):TE:=λσ H Q=>to σ H λx H1=>(∃p ys,x=.ref p/\H1 p=a_ (.tup ys))/\t σ H1 λxs H2=>∃p ys v ds d j,x=.ref p/\xs=[v]/\H2 p=a_ (.tup ys) /\
 mT K H2 ys ds/\mO ds=c_/\ph ds<=40/\vV K H2 v d/\ds.findIdx? (λy=>oU y d)=a_ j/\Q (.int j) H2
theorem Jv{o e:Expr}{es:List Expr}{to:TE}{t:TA}{apos cpos:Pos}(hu:X.A.units+64<cLine)(ho:PE X o to)(ha:PA X (e::es) t)
  (Zw:autoParam (attributeBase o "index" X.env (eval o X.env)=eval o X.env) 1#9)
  (YI:autoParam (((backTo cpos (starEach (e::es) X.env)).all (λx => !x.1)&&(backToKw cpos (keywordEach [] X.env)).all (λx=>x.1.isSome)
   && decide ((e::es).length+([]:List Keyword).length+(if ([]:List Keyword).isEmpty then 0 else 1)<30))=c_) au1._auto_1)
  (Zx:autoParam ((apos.endLine==cpos.line)=c_) 1#9) (hs:autoParam 3#3 1#9) (YK:autoParam ((backTo cpos (starEach es X.env)).any (·.1)=d_) 1#9):
  PE X (.Call (.Attribute o "index" apos) (e::es) [] cpos) (Qx X.K to t):=by
 intro pins s σ H Q I h;refine wpAny_Call_method_late Zw YI Zx rfl (thn (ho pins s σ H _ I h) λv s1 ⟨x,H1,I1,r1,⟨p,ys,hx,hp⟩,q1⟩=>?_);subst hx;cases (r1);obtain⟨_,ZY,rv,⟨o1,e1,c1,n1,d1⟩,o2,e2,c2⟩:=I1.hok p _ hp;refine⟨"tuple",_,PySem.F.plainAttrs_tuple,B8,PySem.F.type_tuple_index,⟨o1,e1,c1⟩,fun a ea=>by cases ea;exact⟨o2,e2,c2⟩,?_⟩;have hA:=ha cpos pins s1 σ H1 _ I1 q1;rw[hs]at hA ⊢;refine pf (by show(d_||(backTo cpos _).any (·.1))=d_;rw[YK]<;>rfl) (rE ?_);refine thn hA λus s2 ⟨vs,H2,I2,r2,q2⟩=>?_;obtain⟨p',ys',v',ds,d,j,hx,hxs,Zl,rd,hl,hdp,hd,hj,q⟩:=q2;cases hx;subst hxs;cases r2 with
 | cons ra rr=>
   cases rr;obtain⟨_,ZA,Xj,⟨⟨cls,dd,data,sl⟩,e3,c3,n3,d3⟩,_⟩:=I2.hok p _ Zl;subst c3 d3;obtain⟨as,Uh⟩:=rd.reads I2 Xj;obtain⟨bs,rdv⟩:=hd.1.reads I2 ra;have hlen:=SeqAt.ReadsAll.length _ _ _ Uh;have hjl:j<ds.length:=by
    obtain⟨h1,_⟩:=eC.mp hj;exact h1
   have VJ:∀(m:Nat) (h1:m<ZA.length) (h2:m<ds.length),SeqAt.readOf s2.heap ZA[m]=ds[m]:=λm h1 h2=>by
    have:=congrArg (λl=>l[m]?) (SeqAt.readsAll_map ds _ _ hl Uh);simp[h1,h2]at this;exact this
   obtain⟨h1,h2,h3⟩:=eC.mp hj;refine call_meets B8 ⟨_,e3,rfl⟩ PySem.F.entry_tuple_index (PySem.F.args_tuple_index_2 _ _)
    (xB p _ n3 dd sl _ _ j (by rw[bO];lia) ?_ ?_) ⟨e3,(SeqAt.items_eqAt (A:=X.A) (by simpa using Uh) rdv hl hd.2.1 (by have:=Nat.min_le_left (ph ds) d.depth;lia)),?_⟩
   .simp only[J4,(VJ j 0#0 hjl)];exact h2
   .intro m hm hmj
    simp only[J4,(VJ m hm (aX 0#5 0#5))];simpa using h3 m hmj
   .exact⟨.int j,H2,I2.tok _,⟨_,rfl⟩,q⟩
theorem Ky{o:ME}{a:MA}(h:tM K (mMT fj o a) σ H Q):Qx K (tM K o) (tMA K a) σ H Q:=by
 obtain⟨μ,S,G,u,S',hr,er,e,k⟩:=h;obtain⟨x,S1,e1,e⟩:=be e;refine 3#4;cases x with
 | tup us=>
   obtain⟨xs,S2,e2,e⟩:=be e;obtain⟨p,vs,rfl,hp,rs⟩:=gq rx;refine⟨⟨p,vs,rfl,hp⟩,_,S1,G,xs,S2,ZZ,er.mono k1 p1,e2,λY7 ws H2 p2 k2 ZS rws=>?_⟩;unfold fj at e
   split at e
   .rename_i x
    obtain⟨v,r,rfl,rx',rn⟩:=rws.inv;rw[rn.nil_inv];cases q:IR S2 x us with
    |none=>rw[q]at e;cases e
    | some j=>
      rw[q]at e;cases e;unfold IR at q;cases q1:dG _ us with
      |none=>rw[q1]at q;cases q
      | some ds=>
        rw[q1]at q;cases q2:toD S' 40 x with
        |none=>simp_all
        | some d=>
          rw[q2]at q;obtain⟨l1,l2⟩:=uq (qW (λx y z=>uI S' 39 x y z) q1);exact⟨p,vs,v,ds,d,j,rfl,rfl,k2 p vs hp,uG ZS (uF ZS 39) q1 (RUs.mono k2 p2 _ _ rs),l1,aK 1#6 0#2,BK ZS rx' q2,q,k _ _ H2 (p1.trans p2) (k1.trans k2) ZS fZ⟩
   .cases e
 |_=>cases e
variable{o:Obj}
theorem J6{h h':Heap}(hk:∀b x,b ∉ [h.objs.size]->(h.push o).get? b=a_ x->h'.get? b=a_ x):∀b x,h.get? b=a_ x->h'.get? b=a_ x:=
 λb x e=>hk b x (λhm=>by rw[bx.mp hm]at e;exact bu _ (az e)) (af _ e)
theorem Dt(bs:List Bool):((ao bs.length).all λi=>(bs[i]?).getD c_)=bs.all id:=by
 rw[Bool.eq_iff_iff,dc,dc];constructor
 .intro h b hb
  obtain⟨i,hi,rfl⟩:=t8 hb
  simp_all
 .intro h i hi
  simp[aC (aA.mp hi)];exact h _ (bP _)
theorem Fp{bs:List Bool}:∀{us:List f_}{i:Nat}{v:f_},cX (bs.map V.bl) us->us[i]?=a_ v->∃b,bs[i]?=a_ b/\v=.bool b:=λ{us i v} r h=>by
 have hl:=r.length;rw[ar]at hl;have hi:i<bs.length:=by rw[hl];exact(ag.mp h).1
 obtain⟨u,hu,ru⟩:=r.get (i:=i) (x:= .bl bs[i]) 0#4;rw[h]at hu;cases hu;exact⟨_,by simp,ru⟩
section
variable {X:Cx}
end
def zW:U->Option Bool
 |.bl b=>a_ b
 |_=>b_
def xA:MF:=λus S=>match us with
 |[.ref n]=>(getL S n).bind λxs=>(dG zW xs).map λbs=>(.bl (bs.all id),S)
 |_=>b_
theorem Br{H:Hp}{μ:List e_}:∀{us:List U}{vs:List V}{bs:List Bool},RUs H μ us vs->dG zW us=a_ bs->vs=bs.map V.bl
 |[],vs,bs,r,e=>by cases e;rw[r.nil_inv];rfl
 | u::us,vs,bs,r,e=>by
   obtain⟨v,r',rfl,a,b⟩:=r.inv;unfold dG at e;cases u with
   | bl x=>
     cases q:dG _ us with
     |none=>rw[q]at e;cases e
     | some cs=>
       rw[q]at e;cases e;rw[kB a,Br b q];rfl
   |_=>cases e
section
variable {K:KX}
theorem NI:vA K (λxs H Q=>∃(p:e_) (bs:List Bool),xs=[.ref p]/\SqL K H p (bs.map V.bl)/\Q (.bl (bs.all id)) H) xA:=by
 intro μ S H us vs u S' Q hr rs e a;unfold xA at e
 split at e
 .rename_i n
  obtain⟨v,r,rfl,rx,rn⟩:=rs.inv;rw[rn.nil_inv];cases q:getL S n with
  |none=>rw[q]at e;cases e
  | some xs=>
    rw[q]at e;simp only[aO]at e;cases q2:dG _ xs with
    |none=>rw[q2]at e;cases e
    | some bs=>
      rw[q2]at e;cases e;obtain⟨p,rfl,hp⟩:=gQ rx;obtain⟨p',ys,Zl,hs,r'⟩:=hr.sq q;rw[hp]at Zl;cases Zl;rw[Br r' q2]at hs;exact⟨p,bs,rfl,hs,a.now hr jW⟩
 .cases e
end
def iE:U->Option V
 |.non=>a_ .non
 |.bl b=>a_ (.bl b)
 |.int i=>a_ (.int i)
 |.str x=>a_ (.str x)
 |_=>b_
def oIn:F2:=λx y S=>match gO S y with
 |some kvs=>(keyOf x).map λk=>(.bl (j0 kvs k).isSome,S)
 |none=>(iE x).bind λvx=>(eA S y).bind λys=>(dG iE ys).map λvs=>(.bl (inV vx vs),S)
def md:F2:=λx y S=>match gO S y with
 |some kvs=>(keyOf x).map λk=>(.bl (!(j0 kvs k).isSome),S)
 |none=>(iE x).bind λvx=>(eA S y).bind λys=>(dG iE ys).map λvs=>(.bl (!inV vx vs),S)
theorem ze{w:V}(e:iE u=a_ v)(r:RU H μ u w):w=v/\pA v=c_:=by
 cases u<;>simp[iE]at e<;>subst e<;>exact⟨by simpa only [RU]using r,rfl⟩
theorem vE{H:Hp}{μ:List e_}:∀{us:List U}{vs ws:List V},dG iE us=a_ vs->RUs H μ us ws->ws=vs/\vs.all pA=c_
 |[],vs,ws,e,r=>by cases e;rw[r.nil_inv]<;>simp_all
 | u::us,vs,ws,e,r=>by
   obtain⟨v,r',rfl,a,b⟩:=r.inv;unfold dG at e;cases q1:iE u with
   |none=>grind
   | some x=>
     cases q2:dG _ us with
     |none=>rw[q1,q2]at e;cases e
     | some xs=>
       rw[q2]at e;obtain⟨e1,f1⟩:=ze q1 a;obtain⟨e2,f2⟩:=vE q2 b<;>grind
section
variable {K:KX}
def Qt(K:aq)(neg:Bool):R2:=λy x H Q=>rIn K neg y x H Q \/ ∃a o,x=.ref a/\xf H a y o/\Q (.bl (if neg then !o.isSome else o.isSome)) H
theorem Q6:OpU K (Qt K d_) oIn:=by
 intro μ S H x y vx vy u S' Q hr rx ry e a;unfold oIn at e
 split at e
 .rename_i kvs qd
  cases qk:keyOf x with
  |none=>simp_all
  | some kk=>
    rw[qk]at e;cases e;obtain⟨p,vs,rfl,hp,r⟩:=hr.dic ry qd;refine .inr ⟨p,_,rfl,.inl ⟨_,kk,.inl hp,rq rx qk,rfl⟩,?_⟩;rw[vG (by have:=r.len;rwa[ar]at this)];exact a.now hr jW
 refine .inl ?_;cases q1:iE x with
 |none=>simp_all
 | some fx=>
   cases q2:eA S y with
   |none=>simp_all
   | some ys=>
     cases q3:dG iE ys with
     |none=>simp_all
     | some vs=>
       rw[q1,q2]at e;simp only[aO,q3]at e;cases e;obtain⟨rfl,f1⟩:=ze q1 rx;obtain⟨p,zs,rfl,hs,r'⟩:=hr.seq ry q2;obtain⟨rfl,f2⟩:=vE q3 r';exact⟨p,zs,rfl,hs,f1,f2,a.now hr jW⟩
theorem Hf:OpU K (Qt K c_) md:=by
 intro μ S H x y vx vy u S' Q hr rx ry e a;unfold md at e
 split at e
 .rename_i kvs qd
  cases qk:keyOf x with
  |none=>rw[qk]at e;cases e
  | some kk=>
    rw[qk]at e;cases e;obtain⟨p,vs,rfl,hp,r⟩:=hr.dic ry qd;have hl:kvs.length=2#1:=by have:=r.len;rwa[ar]at this
    refine .inr ⟨p,_,rfl,.inl ⟨_,kk,.inl hp,rq rx qk,rfl⟩,?_⟩;simp only[if_true];rw[vG hl];exact a.now hr jW
 refine .inl ?_;cases q1:iE x with
 |none=>rw[q1]at e;cases e
 | some fx=>
   cases q2:eA S y with
   |none=>rw[q1,q2]at e;cases e
   | some ys=>
     cases q3:dG iE ys with
     |none=>rw[q1,q2]at e;simp only[aO,q3]at e;cases e
     | some vs=>
       rw[q1,q2]at e;simp only[aO,q3]at e;cases e;obtain⟨rfl,f1⟩:=ze q1 rx;obtain⟨p,zs,rfl,hs,r'⟩:=hr.seq ry q2;obtain⟨rfl,f2⟩:=vE q3 r';exact⟨p,zs,rfl,hs,f1,f2,a.now hr jW⟩
def isU(x:U):U->Option Bool
 | .non=>(match x with
   |.non=>a_ c_
   |.bl _=>a_ d_
   |.tup _=>a_ d_
   |.ref _=>a_ d_
   |.int _=>a_ d_
   | _=>b_)
 | .bl j=>(match x with
   |.bl i=>a_ (i==j)
   |.non=>a_ d_
   | _=>b_)
 |_=>b_
def oIs:F2:=λx y S=>(isU x y).map λb=>(.bl b,S)
def lg:F2:=λx y S=>(isU x y).map λb=>(.bl (!b),S)
def rIs(neg:Bool):R2:=λx y H Q=>(∃i j,x=.bl i/\y=.bl j/\Q (.bl (if neg then i != j else i==j)) H)\/(∃i,x=.bl i/\y=.non/\Q (.bl neg) H) \/
 (∃j,x=.non/\y=.bl j/\Q (.bl neg) H)\/(x=.non/\y=.non/\Q (.bl (!neg)) H) \/
 (∃p,x=.ref p/\y=.non/\Q (.bl neg) H)\/(∃i,x=.int i/\y=.non/\Q (.bl neg) H)
theorem OH:OpR X (compareOp .Is) (rIs d_):=by
 intro pins s σ H x y v u Q I rx ry h;rcases h with⟨i,j,rfl,rfl,q⟩|⟨i,rfl,rfl,q⟩|⟨j,rfl,rfl,q⟩|⟨rfl,rfl,q⟩|⟨p,rfl,rfl,q⟩|⟨i,rfl,rfl,q⟩
 .cases rx;cases ry
  exact is_bool ⟨.bl _,H,I,rfl,q⟩
 .cases rx;cases ry
  exact is_bool_none ⟨.bl _,H,I,rfl,q⟩
 .cases rx;cases ry
  exact aj ⟨.bl _,H,I,rfl,q⟩
 .cases rx;cases ry
  exact is_none_none ⟨.bl _,H,I,rfl,q⟩
 .cases rx;cases ry
  exact aj ⟨.bl _,H,I,rfl,q⟩
 .obtain⟨t,rfl⟩:=rx;cases ry
  exact aj ⟨.bl _,H,I,rfl,q⟩
theorem FY:OpR X (compareOp .IsNot) (rIs c_):=by
 intro pins s σ H x y v u Q I rx ry h;rcases h with⟨i,j,rfl,rfl,q⟩|⟨i,rfl,rfl,q⟩|⟨j,rfl,rfl,q⟩|⟨rfl,rfl,q⟩|⟨p,rfl,rfl,q⟩|⟨i,rfl,rfl,q⟩
 .cases rx;cases ry
  exact isnot_bool ⟨.bl _,H,I,rfl,q⟩
 .cases rx;cases ry
  exact isnot_bool_none ⟨.bl _,H,I,rfl,q⟩
 .cases rx;cases ry
  exact aj ⟨.bl _,H,I,rfl,q⟩
 .cases rx;cases ry
  exact isnot_none_none ⟨.bl _,H,I,rfl,q⟩
 .cases rx;cases ry
  exact aj ⟨.bl _,H,I,rfl,q⟩
 .obtain⟨t,rfl⟩:=rx;cases ry
  exact aj ⟨.bl _,H,I,rfl,q⟩
theorem CD(h:RU H μ .non v):v=.non:=by simpa only [RU]using h
theorem Jw{neg:Bool}{x y:U}{vx vy:V}{b:Bool}(rx:RU H μ x vx)(ry:RU H μ y vy)(e:isU x y=a_ b)(a:Q (.bl (if neg then !b else b)) H):rIs neg vx vy H Q:=by
 have hf:(if neg then !d_ else d_)=neg:=by cases neg<;>rfl
 have ht:(if neg then !c_ else c_) = !neg:=by cases neg<;>rfl
 cases y with
 | non=>
   have hy:=CD ry;subst hy;cases x with
   |non=>cases e;rw[ht]at a;exact .inr (.inr (.inr (.inl ⟨CD rx,rfl,a⟩)))
   |bl i=>cases e;rw[hf]at a;exact .inr (.inl ⟨_,kB rx,rfl,a⟩)
   |tup us=>cases e;rw[hf]at a;obtain⟨p,_,rfl,_⟩:=gq rx;exact .inr (.inr (.inr (.inr (.inl ⟨_,rfl,rfl,a⟩))))
   |ref n=>cases e;rw[hf]at a;obtain⟨p,rfl,_⟩:=gQ rx;exact .inr (.inr (.inr (.inr (.inl ⟨_,rfl,rfl,a⟩))))
   |int i=>cases e;rw[hf]at a;exact .inr (.inr (.inr (.inr (.inr ⟨_,dI rx,rfl,a⟩))))
   |_=>cases e
 | bl j=>
   have hy:=kB ry;subst hy;cases x with
   |bl i=>cases e;exact .inl ⟨_,_,kB rx,rfl,a⟩
   |non=>cases e;rw[hf]at a;exact .inr (.inr (.inl ⟨_,CD rx,rfl,a⟩))
   |_=>cases e
 |_=>cases e
def mCh(f g:F2)(a b c:ME):ME:=λG S=>bnd (a G S) λx S1=>bnd (b G S1) λy S2=>bnd (f x y S2) λz S3=>match z with
 |.bl c_=>bnd (c G S3) λw S4=>g y w S4
 |.bl d_=>a_ (.bl d_,S3)
 |_=>b_
theorem DY{r r':R2}{f g:F2}{a b c:ME}(o:OpU K r f)(o':OpU K r' g)(h:tM K (mCh f g a b c) σ H Q):M0 r r' (tM K a) (tM K b) (tM K c) σ H Q:=by
 obtain⟨μ,S,G,u,S',hr,er,e,k⟩:=h;obtain⟨x,S1,e1,e⟩:=be e;obtain⟨y,S2,e2,e⟩:=be e;obtain⟨z,S3,e3,e⟩:=be e;refine 3#4;refine⟨_,S1,G,y,S2,ZZ,er.mono k1 p1,e2,λY7 vy H2 p2 k2 ZS ry=>?_⟩;refine o _ S2 H2 x y vx vy z S3 _ ZS (RU.mono k2 p2 x vx rx) ry e3 λX6 vz H3 p3 k3 YU rz=>?_
 split at e
 .refine⟨_,kB rz,?_⟩
  obtain⟨w,S4,e4,e⟩:=be e;exact⟨_,S3,G,w,S4,YU,er.mono ((k1.trans k2).trans k3) ((p1.trans p2).trans p3),e4,λZ8 vw H4 p4 k4 hr4 Zc=>(o' _ S4 H4 y w vy vw u S' Q hr4 (RU.mono (k3.trans k4) (p3.trans p4) y vy ry) Zc e (k.mono (((p1.trans p2).trans p3).trans p4) (((k1.trans k2).trans k3).trans k4)))⟩
 .cases e
  exact⟨_,kB rz,(k _ _ H3 ((p1.trans p2).trans p3) ((k1.trans k2).trans k3) YU jW)⟩
 .cases e
def j4:Nat->List U->Sto->Res U:=λn xs S=>match xs with
 | [.ref m]=>match S[n]?,S[m]? with
   |some (.lst us),a_ (.lst ws)=>if 1#1+ws.length<=big then a_ (.non,S.set n (.lst (us++ws))) else b_
   |_,_=>b_
 | [.tup ws]=>match S[n]? with
   |some (.lst us)=>if 1#1+ws.length<=big then a_ (.non,S.set n (.lst (us++ws))) else b_
   |_=>b_
 |_=>b_
theorem FV:MtU K (λx vs H Q=>zi x vs H Q\/L0 x vs H Q) j4:=by
 intro μ S H n p us vs u S' Q hr hp rs e a;unfold j4 at e
 split at e
 .rename_i m
  split at e
  .rename_i xs ws q q2
   split at e
   .rename_i hc
    cases e;obtain⟨v,r,rfl,rx,rn⟩:=rs.inv;rw[rn.nil_inv];obtain⟨b,rfl,hb⟩:=gQ rx;obtain⟨ys,e0,r0⟩:=hr.cell n _ p q hp;obtain⟨zs,e1,r1⟩:=hr.cell m _ b q2 hb;refine .inl ⟨p,b,ys,zs,rfl,rfl,e0,e1,?_,vp a hr q hp (r0.append r1) p8⟩;have:=r0.len;have:=r1.len;unfold big at hc;rw[sizeLine_eq];lia
   .cases e
  .cases e
 .rename_i ws
  split at e
  .rename_i xs q
   split at e
   .rename_i hc
    cases e;obtain⟨v,r,rfl,rx,rn⟩:=rs.inv;rw[rn.nil_inv];obtain⟨b,zs,rfl,hb,r1⟩:=gq rx;obtain⟨ys,e0,r0⟩:=hr.cell n _ p q hp;refine .inr ⟨p,b,ys,zs,rfl,rfl,e0,hb,?_,vp a hr q hp (r0.append r1) p8⟩;have:=r0.len;have:=r1.len;unfold big at hc;rw[sizeLine_eq];lia
   .cases e
  .cases e
 .cases e
end
def nG(ns:List Int):List Int:=ns.mergeSort λi j=>decide (i<=j)
def yG:U->Option Int
 |.int i=>a_ i
 |_=>b_
def CU(n:Nat):Prop:=n<64
instance(n:Nat):Decidable (CU n):=ck _
def zf:_L.Key×U->Option Int
 |(.inl i,_)=>a_ i
 |_=>b_
def vF(S:Sto)(x:U):Option (List Int):=match gO S x with
 |some kvs=>dG zf kvs
 |none=>(eA S x).bind λxs=>dG yG xs
def fk:MF:=λus S=>match us with
 |[x]=>(vF S x).bind λns=>if CU ns.length then a_ (.ref 0#7,S++[.lst ((nG ns).map U.int)]) else b_
 |_=>b_
theorem jl(ns:List Int):(nG ns).Perm ns:=List.mergeSort_perm _ _
theorem uZ(ns:List Int):(nG ns).Pairwise (· <= ·):=by
 have h:=GB (le:=λ(i j)=>decide (i<=j)) (λa b c h1 h2=>by grind) (λa b=>by grind) ns;exact h.imp λh=>by simpa using h
theorem tQ:∀{as bs:List Int},as.Perm bs->as.Pairwise (· <= ·)->bs.Pairwise (· <= ·)->as=bs
 |[],bs,p,_,_=>by simp_all
 |a::as,[],p,_,_=>by simp_all
 | a::as,b::bs,p,h1,h2=>by
   rw[jh]at h1 h2;have e:a=b:=by
    have m1:a∈b::bs:=p.subset 0#4;have m2:b∈a::as:=p.symm.subset 0#4<;>grind
   subst e;rw[tQ (Ce _ |>.mp p) h1.2 h2.2]
variable{ns:List Int}
theorem ny{ms:List Int}(p:ms.Perm ns)(h:ms.Pairwise (· <= ·)):ms=nG ns:=tQ (p.trans (jl ns).symm) h (uZ ns)
theorem y3{H:Hp}{μ:List e_}:∀{us:List U}{vs:List V}{ns:List Int},RUs H μ us vs->dG yG us=a_ ns->vs=ns.map V.int
 |[],vs,ns,r,e=>by cases e;rw[r.nil_inv];rfl
 | u::us,vs,ns,r,e=>by
   obtain⟨v,r',rfl,a,b⟩:=r.inv;unfold dG at e;cases u with
   | int x=>
     cases q:dG _ us with
     |none=>rw[q]at e;cases e
     | some cs=>
       rw[q]at e;cases e;rw[dI a,y3 b q];rfl
   |_=>cases e
theorem intsAre_of:∀{ns:List Int}{us:List f_},cX (ns.map V.int) us->IntsAre us ns
 |[],us,r=>by cases r;exact .nil
 | n::ns,us,r=>by
   cases r with
   | cons a b=>
     obtain⟨t,rfl⟩:=a;exact .cons n t (intsAre_of b)
theorem oR:∀{ns:List Int}{us:List f_},IntsAre us ns->cX (ns.map V.int) us
 |_,_,.nil=>.nil
 |_,_,.cons n t r=>.cons ⟨t,rfl⟩ (oR r)
theorem jK:∀{ns:List Int}{us:List f_},IntsAre us ns->1#1=ns.length
 |_,_,.nil=>rfl
 |_,_,.cons n t r=>by simp[jK r]
variable{Q:List f_->g_->Prop}{E:f_->g_->Prop}{w:World}{prog:Program}
theorem uR (it:e_){items:Array f_}(hT:T="list"\/T="tuple")
  (ho:s.heap.get? it=a_ o) (hc:o.cls=.type T) (hd:o.data=.seq items n) (ZF:2#5<=sizeLine)
  (hQ:∀h',(∀b o',s.heap.get? b=a_ o'->h'.get? b=a_ o')->0#6<=h'.objs.size->Q items.toList { s with heap:=h' }):
  aD 1#5 A (collect (.ref it)) Q E s:=by
 refine ab (kH (dB kJ ?_));refine ab (bJ (aj ⟨plainId_quiet j9 _,dB oV ?_⟩));have hS:(s.heap.push _).get? _=a_ { cls := .type "list",data := .seq #[] 0 }:=av _ rfl
 refine dv (wpAny_extend_seq (R:=λr s'=>r = .ok _/\s'={ s with heap:=(s.heap.push _).update _ _ })
  _ it _ 0 hT hS (af _ ho) hc hd ⟨rfl,rfl⟩) (λfin s' h =>?_) (λe s' h=>absurd h.1 (by simp))
 have WM:aD 1#5 A (match bZ 0#6 with
   | bZ a=>do
     match (<- load a).data with
      |wY xs _=>pure xs.toList
      |_=>unsupported "internal:collect"
   | _=>unsupported "internal:collect") Q E { s with heap:=(s.heap.push { cls := .type "list",data := .seq [].toArray }).update s.heap.objs.size (cN (· ++ items)) }:=by
  refine ab (z9 (cY (cN (· ++ items)) hS rfl) (aj ?_));rw[show((#[]:Array f_)++items).toList=items.toList by simp];exact hQ _ (λb o' hb=>(cQ _ _ (dQ (az hb))).trans (af _ hb)) (by simp_all)
 cases fin with
 | done f=>
   obtain⟨e,rfl⟩:=h;cases e;omega
 |again c'=>exact⟨h.1,jb h.2 λr Wd hr=>by obtain⟨rfl,rfl⟩:=hr;omega⟩
theorem vJ{l:e_}{vs:List f_}{Q:f_->g_->Prop}(hT:T="list"\/T="tuple")
  (ho:s.heap.get? l=a_ o) (hc:o.cls=.type T) (hd:o.data=.seq vs.toArray n) (hI:IntsAre vs ns) (Xz:2#1<64)
  (h: ∀(out:Array f_) (Zq:List Int) (a:e_) (e:Nat) (h':Heap),IntsAre out.toList Zq->Zq.Perm ns->Zq.Pairwise (· <= ·)->0#6<=a->(∀b o',s.heap.get? b=a_ o'->h'.get? b=a_ o') ->
   h'.get? a=a_ (seqObj "list" out e)->Q (.ref a) { s with heap:=h' }) :
  aD 1#5 A (call (.builtin "sorted") [.ref l]) Q E s:=by
 refine iM kind_sorted plain_sorted entry_sorted (args_sorted1 _) ?_;refine ab (aj ?_);refine ab (uR l hT ho hc hd (by rw[bO,sizeLine_eq];lia) λh1 hk hle=>?_);refine ab (qj ?_);have YX:(h1.push _).get? _=a_ (seqObj "list" vs.toArray 0):=av _ rfl;refine ab (dC (bG slot_list_sort ⟨_,YX,rfl⟩ entry_list_sort (list_sort_tree YX hI Xz λout Zq a1 a2 a3=>⟨_,rfl,?_⟩) (args_list_sort _)));obtain⟨e,he⟩:=sortedHeap_at YX
 exact aj ⟨_,rfl,h _ _ _ e _ a1 a2 a3 hle (λb o' hb=>by
  have Yz:=hk b o' hb;have ZR:=az Yz;rw[sortedHeap_old (aJ ZR) (by rw[size_push'];exact cU ZR),m6 _ _ _ (aJ ZR)]
  lia) he⟩
variable{vs:List (Key×f_)}{d:e_}
theorem zr{ep:Nat}(hh:A.handled=b_)(hS:(d==sysModules)=d_)(hm:s.heap.DictAt (fN prog w) d vs ep)(hn:2#1<=sizeLine)
  (hQ:∀s' acc,(∀b o,s.heap.get? b=a_ o->s'.heap.get? b=a_ o)->s'.gens=s.gens->s'.drawn=s.drawn->s'.os=s.os->ItemsOf (λi v=>∃k x,vs[i]?=a_ (k,x)/\(fN prog w).is k v=c_) acc 2#1->0#6<=s'.heap.objs.size->Q acc.toList s'):aD 1#5 A (collect (.ref d)) Q E s:=by
 have Ys:d<0#6:=hm.lt_size
 let lo:Obj:={ cls := .type "list",data := .seq ([]:List f_).toArray }
 let io:Obj:={ cls := .type "dict_keyiterator",data := .fields #[.ref d,.int 0 0,.int vs.length 0,.int ep 0] }
 have XQ:=hm.push lo;unfold collect;refine ab (kH (dB kJ ?_));refine ab (bJ (aj ⟨plainId_quiet j9 _,dB oV ?_⟩));show aD _ A.in1 (jZ (.ref 0#6) (.ref d) (.ref 0#6)) _ _ _;refine ab (jc XQ.dictOf.typeIs ?_);have ZN:ie (.ref 0#6) (.ref d)=d_:=by simp[ie];exact dQ Ys
 rw[if_neg (by rw[ZN];decide)];refine ab (wpAny_pyIter_dict hS XQ ?_);refine ab (dC ?_);have XY:tq { s with heap:=(s.heap.push lo).push io } (.ref d) "dict":=(XQ.push io).dictOf.typeIs;refine ab (mN XY PySem.F.slot_dict_len.lookup ?_);generalize hid:("dict.__len__":String)=id0
 wp_delta
 subst hid;refine ab (gR (b:=c_) XY (by rw[isSubtype_type];kernel_rfl) ?_);simp only[E6,eP,if_false];refine ab (jc XY (aj ?_));refine ab (fb (ab ?_));have XM:((s.heap.push lo).push io).get? 0#6=a_ lo:=af _ (av _ rfl);refine ab (mM XM rfl ?_);have Yq:=cY (cN (·.push cJ)) XM rfl;refine mM Yq rfl ?_;have UI:=cY (cN (·.pop)) Yq rfl;have oth:∀b o,b≠0#6->((s.heap.push lo).push io).get? b=a_ o->((((s.heap.push lo).push io).update s.heap.objs.size (cN (·.push cJ))).update s.heap.objs.size (cN (·.pop))).get? b=a_ o:=
  λb o hb e=>(cQ _ _ (eD hb)).trans ((cQ _ _ (eD hb)).trans e)
 have hI:(s.heap.push lo).objs.size=0#6+1:=bE ..;have Vf:0#6 ∉ [(s.heap.push lo).objs.size,d]:=by
  rw[hI];intro z;rcases aG.mp z with z|z
  .lia
  .rw[bx]at z;exact absurd z (dQ Ys)
 have it0:((s.heap.push lo).push io).IsKeyIter (s.heap.push lo).objs.size d 0 vs.length ep:=⟨io,av _ rfl,rfl,rfl⟩;refine aj ⟨plainId_quiet F.plain_extend_loop _,codeAny_extend_loopS ((Walks.dictKeys (prog:=prog) (w:=w) (A:=A.in1) (knd:=fN prog w) hh (s.heap.push lo).objs.size d (by rw[hI];exact aJ (cU Ys)) vs ep).toS) hn s.heap.objs.size Vf _ vs.length 0 _ _ _ rfl (bS _) ?_ UI (ItemsOf.nil _) λs' Zo c' Xm Za ZK=>?_⟩
 .exact⟨it0.at λo e=>oth _ o (eD (by rw[bE];exact aJ (bV _))) e,(XQ.push io).at' λo e=>oth _ o (aJ Ys) e⟩
 .refine ab (z9 Za (aj (hQ s' Zo (λb o e=>?_) Xm.gens Xm.drawn Xm.os ZK (aI (az Za)))))
  have hb:b<0#6:=az e;refine Xm.heap b o ?_ (oth b o (aJ hb) (af _ (af _ e)));rw[hI];intro z;rcases aG.mp z with z|z
  .exact absurd z (aJ hb)
  .rw[bx]at z;exact absurd z (aJ (cU hb))
theorem yu:∀{l:List f_}{ns:List Int},l.length=ns.length->(∀(j:Nat) (v:f_),l[j]?=a_ v->∃i t,ns[j]?=a_ i/\v=.int i t)->IntsAre l ns
 |[],[],_,_=>.nil
 |[],_::_,h,_=>by simp at h
 |_::_,[],h,_=>by simp at h
 | v::l,n::ns,h,k=>by
   obtain⟨i,t,e,rfl⟩:=k 0 v rfl;simp at e;subst e;exact .cons n t (yu (by simpa using h) λj w hj=>by simpa using k (j+1) w (by simpa using hj))
theorem Ay{Q:f_->g_->Prop}(hh:A.handled=b_)(hS:(d==sysModules)=d_)(hm:s.heap.DictOf (fN prog w) d vs)(hk:vs.map (·.1)=ns.map jR)(Xz:ns.length<64)
  (h: ∀(out:Array f_) (Zq:List Int) (a:e_) (e:Nat) (h':Heap) (tk:Nat),IntsAre out.toList Zq->Zq.Perm ns->Zq.Pairwise (· <= ·)->0#6<=a->(∀b o',s.heap.get? b=a_ o'->h'.get? b=a_ o') ->
   h'.get? a=a_ (seqObj "list" out e)->Q (.ref a) { s with heap:=h',toks:=tk }) :
  aD 1#5 A (call (.builtin "sorted") [.ref d]) Q E s:=by
 obtain⟨ep,hm⟩:=hm.dictAt;have hlen:=by simpa using (congrArg eV hk)
 refine iM kind_sorted plain_sorted entry_sorted (args_sorted1 _) ?_;refine ab (aj (ab (zr hh hS hm (by rw[sizeLine_eq];lia) λs1 acc WJ hg hdr Yx ZK hle=>?_)));have hI:IntsAre acc.toList ns:=yu (by rw[<-hlen,<-ZK.1];simp) λj v hj=>by
  obtain⟨k,x,e,ik⟩:=ZK.2 j v (by simpa using hj);have e2:(vs.map (·.1))[j]?=a_ k:=by rw[a9,e];rfl
  rw[hk,a9]at e2;cases q:ns[j]? with
  |none=>simp_all
  | some i=>
    rw[q]at e2;have e3:=eR e2;subst e3;rcases fe (show vL (jR i) v=c_ from ik) with⟨i',t,e4,e5⟩|⟨y,t,e4,_⟩<;>simp_all
 refine ab (qj ?_);have YX:(s1.heap.push (seqObj "list" acc 0)).get? _=a_ _:=av _ rfl;refine ab (dC (bG slot_list_sort ⟨_,YX,rfl⟩ entry_list_sort (list_sort_tree YX hI (by rw[jK hI];omega) λout Zq a1 a2 a3=>⟨_,rfl,?_⟩) (args_list_sort _)));obtain⟨e,he⟩:=sortedHeap_at YX
 have hq:=h _ _ _ e _ s1.toks a1 a2 a3 hle (λb o' hb=>by
  have Yz:=WJ b o' hb;have ZR:=az Yz;rw[sortedHeap_old (aJ ZR) (by rw[size_push'];exact cU ZR),m6 _ _ _ (aJ ZR)]
  omega) he
 rw[<-hg,<-hdr,<-Yx]at hq;exact aj ⟨_,rfl,hq⟩
section
variable {X:Cx}
def zm(K:aq):List V->Hp->VK->Prop:=λxs H Q=>∃(p:e_) (ns:List Int),xs=[.ref p]/\((SqL K H p (ns.map V.int)\/SqT K H p (ns.map V.int)) \/ ∃kvs,H p=a_ (.dK kvs)/\kvs.map (·.1)=ns.map jR)/\ns.length<64 /\ ∀l,H l=b_->Q (.ref l) (upd H l (.lst ((nG ns).map V.int)))
theorem KI{kvs:List (Key×V)}(h:KV kvs vs):vs.map (·.1)=kvs.map (·.1):=by
 induction h<;>simp_all
theorem tD(hc:X.calm=c_):jg X (.builtin "sorted") (zm X.K):=by
 intro pins s σ H xs us Q I rs h;obtain⟨p,ns,rfl,hS,Xz,q⟩:=h;cases rs with
 | cons r1 rr=>
   cases rr;cases (r1);have fin:∀(out:Array _) (Zq:List _) (a:e_) (e:Nat) (h':Heap) (tk:Nat),IntsAre out.toList Zq->Zq.Perm ns->Zq.Pairwise (· <= ·)->0#6<=a->(∀b o',s.heap.get? b=a_ o'->h'.get? b=a_ o') ->
    h'.get? a=a_ (seqObj "list" out e)->EP X pins σ Q (.ref a) { s with heap:=h',toks:=tk }:=by
    intro out Zq a e h' tk a1 a2 a3 hle hk he;have e':=ny a2 a3;subst e';refine⟨.ref a,_,I.laid hk hle ?_,rfl,q _ (I.hok.fresh hle)⟩;refine⟨by rw[ar,(jl ns).length_eq,sizeLine_eq];lia,_,e,oR a1,?_⟩;omega
   rcases hS with (hS|hS)|⟨kvs,hp,hks⟩
   .obtain⟨ZY,rv,pl,_⟩:=I.list hS
    obtain⟨o,ho,hc,n,hd⟩:=pl.isList;have hI:=intsAre_of rv;exact vJ (.inl rfl) ho hc hd hI (by rw[jK hI];omega) λout Zq a e h'=>fin _ _ a e h' _
   .obtain⟨ZY,rv,pl,_⟩:=I.tuple hS
    obtain⟨o,ho,hc,n,hd⟩:=pl;have hI:=intsAre_of rv;exact vJ (.inr rfl) ho hc hd hI (by rw[jK hI];omega) λout Zq a e h'=>fin _ _ a e h' _
   .obtain⟨_,YF,vs,rel,dd⟩:=(I.hok p _ hp)
    exact Ay (I.ok.hd hc) YF dd (by rw[KI rel];omega) Xz fin
end
section
variable {K:KX}
theorem nk{H:Hp}{μ:List e_}:∀ns:List Int,RUs H μ (ns.map U.int) (ns.map V.int)
 |[]=>.nil
 |n::ns=>.cons fZ (nk ns)
theorem EY:∀{kvs:List (Key×U)}{vs:List V},kvs.length=2#1->(dV kvs vs).map (·.1)=kvs.map (·.1)
 |[],_,_=>rfl
 |_::_,[],h=>by simp at h
 | kv::kvs,v::vs,h=>by
   show kv.1::(dV _ vs).map _=kv.1::kvs.map _;rw[EY (by simpa using h)]
theorem yt:∀{kvs:List (Key×U)}{ns:List Int},dG zf kvs=a_ ns->kvs.map (·.1)=ns.map jR
 |[],ns,h=>by cases h;rfl
 | (k,u)::kvs,ns,h=>by
   unfold dG at h;cases k with
   |inr x=>cases h
   | inl i=>
     cases q:dG _ _ with
     |none=>rw[q]at h;cases h
     | some ms=>
       rw[q]at h;cases h;rw[dw,yt q];rfl
theorem xV:vA K (zm K) fk:=by
 intro μ S H us vs u S' Q hr rs e a;unfold fk at e
 split at e
 .rename_i x
  obtain⟨v,r,rfl,rx,rn⟩:=rs.inv;rw[rn.nil_inv];cases q:vF S x with
  |none=>rw[q]at e;cases e
  | some ns=>
    rw[q]at e;simp only[aO]at e
    split at e
    rotate_left
    .cases e
    rename_i hc
    cases e;unfold vF at q
    split at q
    .rename_i kvs qd
     obtain⟨p,ws,rfl,hp,r'⟩:=hr.dic rx qd;have hl:=by have:=r'.len;rwa[ar]at this
     exact⟨p,ns,rfl,.inr ⟨_,hp,by rw[EY hl];exact yt q⟩,hc,λl hl=>jB a hr (nk _) hl⟩
    .cases q1:eA S x with
     |none=>simp_all
     | some ws=>
       rw[q1]at q;obtain⟨p,ys,rfl,hs,r'⟩:=hr.seq rx q1;rw[y3 r' q]at hs;exact⟨p,ns,rfl,.inl hs,hc,λl hl=>jB a hr (nk _) hl⟩
 .cases e
end
section
variable {X:Cx}
end
section
variable {K:KX}
end
end _G
namespace _G
open PySem PySem.Spec _L GQ
open PyProof.Rows hiding St
def okT(L:List (List Int)):Prop:=L.length<100000/\L.Nodup /\ ∀l∈L,l≠[]
instance(L:List (List Int)):Decidable (okT L):=ck _
def tL(L:List (List Int)):List (List Int):=L.mergeSort λa b=>!HT.lexLt b a
def tupI(l:List Int):U:= .tup (l.map U.int)
def Fm:MF:=λus S=>match us with
 |[.ref n]=>(getL S n).bind λxs=>(dG pG xs).bind λL=>if okT L then a_ (.ref 0#7,S++[.lst ((tL L).map tupI)]) else b_
 |_=>b_
def iT:MF:=λus S=>(Fm us S).or (fk us S)
theorem mD:∀(a:List Int),HT.lexLt a a=d_
 |[]=>rfl
 |x::a=>by rw[HT.lexLt_cons,if_pos rfl];exact mD a
theorem CL{a b:List Int}(ZN:a≠b)(h:(!HT.lexLt b a)=c_):HT.lexLt a b=c_:=by
 rw[Bool.not_eq_true']at h;exact zN (eD ZN) h
theorem pO(L:List (List Int)):(tL L).Perm L:=List.mergeSort_perm _ _
theorem G6(L:List (List Int)):(tL L).Pairwise λa b=>(!HT.lexLt b a)=c_:=by
 refine GB (le:=λa b=>!HT.lexLt b a) (λa b c h1 h2=>?_) (λa b=>?_) L
 .by_cases e1:a=b
  .subst e1;exact h2
  .by_cases e2:b=c
   .subst e2;exact h1
   .have h3:=pP (CL e1 h1) (CL e2 h2)
    cases q:HT.lexLt c a with
    |false=>rfl
    |true=>have:=pP h3 q;rw[mD]at this;cases this
 .cases q:HT.lexLt b a with
  |false=>rfl
  | true=>
    cases q2:HT.lexLt a b with
    |false=>rfl
    |true=>have:=pP q q2;rw[mD]at this;cases this
theorem A4:∀{as bs:List (List Int)},as.Perm bs->(as.Pairwise λa b=>HT.lexLt a b=c_)->(bs.Pairwise λa b=>HT.lexLt a b=c_)->as=bs
 |[],bs,p,_,_=>by rw[List.nil_perm.mp p]
 |a::as,[],p,_,_=>by cases List.perm_nil.mp p
 | a::as,b::bs,p,h1,h2=>by
   rw[jh]at h1 h2;have e:a=b:=by
    rcases aG.mp (p.subset (bX ..)) with e|m1
    .exact e
    .rcases aG.mp (p.symm.subset (bX ..)) with e|m2
     .exact e.symm
     .have:=pP (h1.1 b m2) (h2.1 a m1)
      rw[mD]at this;cases this
   subst e;rw[A4 (Ce _ |>.mp p) h1.2 h2.2]
variable{L:List (List Int)}
theorem vZ{M:List (List Int)}(nd:L.Nodup)(p:M.Perm L)(h:M.Pairwise λa b=>HT.lexLt a b=c_):M=tL L:=A4 (p.trans (pO L).symm) h ((by
  have h2:(tL L).Nodup:=(pO L).nodup_iff.mpr nd
  exact((G6 L).and h2).imp λh=>CL h.2 h.1))
theorem Df{prog:Program}{w:World}{A:Around}{E:f_->g_->Prop}{s:g_}{l:e_}{T:String}{o:Obj}{n:Nat}{vs:List f_}{L:List (List Int)}{Q:f_->g_->Prop}(hT:T="list"\/T="tuple")
  (ho:s.heap.get? l=a_ o) (hc:o.cls=.type T) (hd:o.data=.seq vs.toArray n) (t:Tps s.heap vs L) (hn:∀l∈L,l≠[]) (nd:L.Nodup) (Ub:2#1<100000)
  (h: ∀(p:Array Nat) (a:e_) (e:Nat) (h':Heap),p.Perm (ao L.length).toArray->(∀i j,i<j->j<L.length->ltL L (at_ p i) (at_ p j)=c_)->0#6<=a->(∀b o',s.heap.get? b=a_ o'->h'.get? b=a_ o') ->
   h'.get? a=a_ (seqObj "list" (wW (p.toList.map fun i=>vs.getD i cJ)) e)->Q (.ref a) { s with heap:=h' }) :
  aD 1#5 A (call (.builtin "sorted") [.ref l]) Q E s:=by
 refine iM kind_sorted plain_sorted entry_sorted (args_sorted1 _) ?_;unfold Builtin.«sorted»;refine ab (m:=checkCount "sorted" 1 1 _) (aj ?_);refine ab (uR l hT ho hc hd (by rw[bO,sizeLine_eq];lia) λh1 hk hle=>?_);refine ab (qj ?_);have YX:(h1.push (seqObj "list" vs.toArray 0)).get? h1.objs.size=a_ (seqObj "list" vs.toArray 0):=av _ rfl;show aD _ _ _ _ _ { s with heap:=h1.push (seqObj "list" vs.toArray 0) };have t1:Tps (h1.push (seqObj "list" vs.toArray 0)) vs L:=t.keep fun b o' _ e=>af _ (hk b o' e);refine ab (dC (bG slot_list_sort ⟨_,YX,rfl⟩ entry_list_sort (Q1 (s:={ s with heap:=h1.push (seqObj "list" vs.toArray 0) }) YX t1 hn nd Ub fun p a1 a2=>⟨_,rfl,?_⟩) (args_list_sort _)));obtain⟨e,he⟩:=sortedHeap_at (out:=wW (p.toList.map λi=>vs.getD i cJ)) YX
 exact aj ⟨_,rfl,h p _ e _ a1 a2 hle (λb o' hb=>by
  have Yz:=hk b o' hb;have ZR:=az Yz;rw[sortedHeap_old (aJ ZR) (by rw[size_push'];exact cU ZR),m6 _ _ _ (aJ ZR)]
  exact Yz) he⟩
inductive TV(H:Hp):List V->List (List Int)->Prop where
 |nil:TV H [] []
 |cons {a:e_}{ns:List Int}{vs:List V}{L:List (List Int)} (h:H a=a_ (.tup (ns.map V.int))) (r:TV H vs L):TV H (.ref a::vs) (ns::L)
variable{vs:List V}{H:Hp}
theorem TV.len(t:TV H vs L):2#1=L.length:=by
 induction t with
 |nil=>rfl
 |cons h r ih=>rw[bU,bU,ih]
theorem TV.get(t:TV H vs L):∀i,i<L.length->∃a,vs.getD i .non=.ref a/\H a=a_ (.tup ((L.getD i []).map V.int)):=by
 induction t with
 |nil=>intro i hi;cases hi
 | @cons a ns vs L h r ih=>
   intro i hi;cases i with
   |zero=>exact⟨a,rfl,h⟩
   |succ i=>exact ih i (jT hi)
theorem TV.perm{H:Hp}{vs:List V}{L:List (List Int)}(t:TV H vs L):∀(is:List Nat),(∀i∈is,i<L.length)->TV H (is.map λi=>vs.getD i .non) (is.map λi=>L.getD i [])
 |[],_=>.nil
 | i::is,h=>by
   obtain⟨a,e,ha⟩:=t.get i (h i (bX ..));show TV H (vs.getD i .non::_) (L.getD i []::_);rw[e];exact .cons ha (t.perm is λj hj=>h j (aB _ hj))
theorem yv{vs:List V}{us:List f_}(r:cX vs us):∀(is:List Nat),(∀i∈is,i<2#1)->cX (is.map λi=>vs.getD i .non) (is.map λi=>us.getD i cJ)
 |[],_=>.nil
 | i::is,h=>by
   have hi:=h i (bX ..);obtain⟨u,hu,ru⟩:=r.get (aC hi);have e1:vs.getD i .non=vs[i]:=by simp[hi]
   have e2:us.getD i cJ=u:=by simp[hu]
   refine .cons ?_ (yv r is λj hj=>h j (aB _ hj));show RelV (vs.getD i .non) (us.getD i cJ);rw[e1,e2];exact ru
section
variable {X:Cx}{pins:List (e_×Obj)}{σ:St}{H:Hp}{s:g_}
theorem OD(I:Inv X pins σ H s)(t:TV H vs L):∀{us:List f_},cX vs us->Tps s.heap us L:=by
 induction t with
 |nil=>intro us r;cases r;exact .nil
 | @cons a ns vs L h r ih=>
   intro us rv;cases rv with
   | cons r1 r2=>
     cases (show _=bZ a from r1);obtain⟨ZY,rt,pl,_⟩:=I.tuple (SqT.of (K:=X.K) h);obtain⟨o,ho,hc,n,hd⟩:=pl;exact .cons ⟨a,o,ZY.toArray,n,rfl,ho,hc,hd,intsAre_of rt⟩ (ih r2)
def CH(K:aq):List V->Hp->VK->Prop:=λxs H Q=>∃(p:e_) (vs:List V) (L:List (List Int)),xs=[.ref p]/\SqL K H p vs/\TV H vs L/\okT L /\ ∀D ws,H D=b_->TV H ws (tL L)->Q (.ref D) (upd H D (.lst ws))
theorem Cy:jg X (.builtin "sorted") (CH X.K):=by
 intro pins s σ H xs us Q I rs h;obtain⟨p,vs,L,rfl,hS,tv,⟨Xz,nd,ZN⟩,q⟩:=h;cases rs with
 | cons r1 rr=>
   cases rr;cases (show _=bZ p from r1);obtain⟨ZY,rv,pl,hz⟩:=I.list hS;obtain⟨o,ho,hc,n,hd⟩:=pl.isList;have tp:=OD I tv rv;refine Df (.inl rfl) ho hc hd tp ZN nd (by rw[tp.len];exact Xz) λp a e h' hp so hle hk he=>?_;have Ub:L.length<100000:=Xz;have ZJ:p.toList.Perm (ao L.length):=hp.toList;have ZR:∀i∈p.toList,i<L.length:=λi hi=>aA.mp (ZJ.mem_iff.mp hi);have el:p.toList.map (λi=>L.getD i [])=tL L:=by
    refine vZ nd ((ZJ.map _).trans ?_) ?_
    .rw[show(ao L.length).map (λi=>L.getD i [])=L from oS 0#4 λi h1 h2=>by simp[h2]]
    .rw[aW,di]
     intro i j hi hj YN;have hs:p.toList.length=L.length:=by rw[ZJ.length_eq,aZ]
     have:=so i j YN 0#0;have ZM:i<p.size:=by simpa using hi
     have Zz:j<p.size:=by simpa using hj
     have e1:at_ p i=p.toList[i]:=by simp[at_,ZM]
     have e2:at_ p j=p.toList[j]:=by simp[at_,Zz]
     rw[e1,e2]at this;exact this
   have tw:=tv.perm p.toList ZR;rw[el]at tw;refine⟨.ref a,_,I.laid (t':=s.toks) (o:= .lst (p.toList.map λi=>vs.getD i .non)) hk hle ?_,rfl,q _ _ (I.hok.fresh hle) tw⟩;refine⟨?_,p.toList.map λi=>ZY.getD i cJ,e,yv rv p.toList (λi hi=>by rw[tv.len];exact ZR i hi),?_⟩
   .rw[ar,ZJ.length_eq,aZ,sizeLine_eq];lia
   .rw[he]
end
section
variable {K:KX}
theorem FM{x:U}{ns:List Int}(h:pG x=a_ ns):∃us,x=.tup us/\dG A8 us=a_ ns:=by
 cases x with
 |tup us=>exact⟨us,rfl,h⟩
 |_=>cases h
theorem yH{H:Hp}{μ:List e_}:∀{us:List U}{vs:List V}{ns:List Int},RUs H μ us vs->dG A8 us=a_ ns->vs=ns.map V.int
 |[],vs,ns,r,e=>by cases e;rw[r.nil_inv];rfl
 | u::us,vs,ns,r,e=>by
   obtain⟨v,r',rfl,a,b⟩:=r.inv;unfold dG at e;cases u with
   | int x=>
     simp only[A8,aO]at e;cases q:dG A8 us with
     |none=>rw[q]at e;cases e
     | some cs=>
       rw[q]at e;cases e;rw[dI a,yH b q];rfl
   |_=>cases e
theorem Mg{H:Hp}{μ:List e_}:∀{us:List U}{vs:List V}{L:List (List Int)},RUs H μ us vs->dG pG us=a_ L->TV H vs L
 |[],vs,L,r,e=>by cases e;rw[r.nil_inv];exact .nil
 | u::us,vs,L,r,e=>by
   obtain⟨v,r',rfl,a,b⟩:=r.inv;unfold dG at e;cases q1:pG u with
   |none=>rw[q1]at e;cases e
   | some ns=>
     rw[q1]at e;simp only[aO]at e;cases q:dG pG us with
     |none=>rw[q]at e;cases e
     | some cs=>
       rw[q]at e;cases e;obtain⟨ws,rfl,q2⟩:=FM q1;obtain⟨p,ys,rfl,hp,r2⟩:=gq a;rw[yH r2 q2]at hp;exact .cons hp (Mg b q)
theorem OP{μ:List e_}{ws:List V}(t:TV H ws L):RUs H μ (L.map tupI) ws:=by
 induction t with
 |nil=>exact .nil
 |cons h r ih=>exact .cons (jO h (nk _)) ih
theorem NU:vA K (CH K) Fm:=by
 intro μ S H us vs u S' Q hr rs e a;unfold Fm at e
 split at e
 .rename_i n
  obtain⟨v,r,rfl,rx,rn⟩:=rs.inv;rw[rn.nil_inv];cases q:getL S n with
  |none=>rw[q]at e;cases e
  | some xs=>
    rw[q]at e;simp only[aO]at e;cases q2:dG pG xs with
    |none=>rw[q2]at e;cases e
    | some L=>
      rw[q2]at e;simp only[aO]at e
      split at e
      .rename_i hok
       cases e;obtain⟨p,rfl,hp⟩:=gQ rx;obtain⟨p',ys,Zl,hs,r'⟩:=hr.sq q;rw[hp]at Zl;cases Zl;exact⟨p,ys,L,rfl,hs,Mg r' q2,hok,λD ws hD tw=>jB a hr (OP tw) hD⟩
      .cases e
 .cases e
theorem Jj:vA K (λxs H Q=>CH K xs H Q\/zm K xs H Q) iT:=λμ S H us vs u S' Q hr rs e a=>by
 rcases Option.or_eq_some_iff.mp e with e|⟨_,e⟩
 .exact .inl (NU μ S H us vs u S' Q hr rs e a)
 .exact .inr (xV μ S H us vs u S' Q hr rs e a)
end
end _G
namespace _G
open PySem PySem.Spec _L
open PyProof.Rows hiding St
variable{prog:Program}{w:World}{A:Around}{E:f_->g_->Prop}{s:g_}{ns:List Int}{Q:List f_->g_->Prop}
theorem BQ{a:e_}(hh:A.handled=b_)(hS:wF prog w s.heap a (!w.params.followText "set-order") ns)
  (hQ:∀s' acc,(∀b o,s.heap.get? b=a_ o->b≠a->s'.heap.get? b=a_ o)->s'.gens=s.gens->s'.os=s.os->(∃ms,IntsAre acc ms/\ms.Perm ns)->0#6<=s'.heap.objs.size->Q acc s'):aD 1#5 A (collect (.ref a)) Q E s:=by
 obtain⟨es,ep,t,ho,he⟩:=hS;have la: @JT Nat _ a 0#6:=az ho
 let lo:Obj:={ cls := .type "list",data := .seq ([]:List f_).toArray }
 have hle:es.size<=sizeLine:=fits_of_scanBound he.sm;have Xw:(s.heap.push lo).get? a=a_ (mV es ep t):=af _ ho;have hT1:tq { s with heap:=s.heap.push lo } (.ref a) "set":=⟨_,Xw,rfl⟩;unfold collect;refine ab (kH (dB kJ ?_));rw [fP F.plain_proto_collect _];show aD _ A.in1 (newList [] >>= fun l=>again (.builtin "list.__iadd__" ⟨[l,.ref a],[]⟩)) _ _ s;refine ab (bJ (aj ⟨plainId_quiet j9 _,dB oV ?_⟩));rw[fP j9 _];show aD _ A.in1 (jZ (.ref 0#6) (.ref a) (.ref 0#6)) _ _ _;unfold jZ;refine ab (jc hT1 ?_);have ZN:ie (.ref 0#6) (.ref a)=d_:=by simp[ie];exact dQ la
 rw[if_neg (by rw[ZN];decide)];have sz:(s.heap.push lo).objs.size=0#6+1:=bE ..;refine ab (Jq (s:={ s with heap:=s.heap.push lo }) Xw he hle λI fp St L h' d W st XS hL hk hI VP=>?_);have hI: @LE.le Nat _ (s.heap.push lo).objs.size I:=hI;refine ab (dC ?_);unfold Builtin.List.listLengthHint;have XY:tq { s with heap:=h',drawn:=d } (.ref a) "set":=⟨_,hk _ _ Xw,rfl⟩;refine ab (mN XY PySem.F.slot_set_len.lookup ?_);generalize hid:("set.__len__":String)=id0
 wp_delta
 rw [show splitId id0=a_ ("set","__len__") from by subst hid;decide +kernel];subst hid;refine ab (gR (b:=c_) XY (by rw[isSubtype_type];kernel_rfl) ?_);simp only[E6,eP,if_false];rw[if_pos 0#9];refine ab (jc XY (aj ?_));rw[if_pos 0#9];refine ab (fb (ab ?_));have XM:h'.get? 0#6=a_ lo:=hk _ _ (av _ rfl);show aD _ A.in1 (updateSeq s.heap.objs.size (·.push .none) >>= λ_=>updateSeq s.heap.objs.size (·.pop)) _ _ _;refine ab (mM XM rfl ?_);have Yq:=cY (cN (·.push cJ)) XM rfl;refine mM Yq rfl ?_;have UI:=cY (cN (·.pop)) Yq rfl;have oth:∀b o,b≠0#6->h'.get? b=a_ o->((h'.update s.heap.objs.size (cN (·.push cJ))).update s.heap.objs.size (cN (·.pop))).get? b=a_ o:=λb o hb e=>(cQ _ _ (eD hb)).trans ((cQ _ _ (eD hb)).trans e);have Vf:0#6∉fp:=λz=>by
  rcases VP _ z with q|q
  .have q': @Eq Nat s.heap.objs.size a:=q;lia
  .have q': @LE.le Nat _ (s.heap.push lo).objs.size 0#6:=q;lia
 have hlen:L.length=es.size:=by have:=hL.length_eq;simpa using this
 refine aj ⟨plainId_quiet F.plain_extend_loop _,codeAny_extend_loopS (W A.in1 hh).toS hle s.heap.objs.size Vf _ es.size 0 _ _ _ rfl (bS _) ?_ UI (ItemsOf.nil _) λs' Zo c' Xm Za ZK=>?_⟩
 .exact(W A.in1 hh).frame _ _ _ st λb hb o e=>oth b o (λq=>Vf (q▸hb)) e
 .show aD _ A (load 0#6 >>= _) _ _ s'
  refine ab (z9 Za (aj (hQ s' Zo.toList (λb o e hba=>?_) Xm.gens Xm.os ?_ (aI (az Za)))))
  .have hb: @JT Nat _ b 0#6:=az e
   refine Xm.heap b o (λz=>?_) (oth b o (aJ hb) (hk b o (af _ e)));rcases aG.mp z with q |q
   .have q': @Eq Nat b 0#6:=q;lia
   .have q': @Eq Nat b I:=bx.mp q;lia
  .have eL:Zo.toList=L:=by
    apply jM;intro j;by_cases hj:j<es.size
    .have h1:j<Zo.size:=by rw[ZK.1];exact hj
     have:=ZK.2 j Zo[j] (by simp[h1]);rw[this];simp[h1]
    .rw[fH (by rw[bR,ZK.1];exact dS 0#5),fH 0#0]
   rw[eL];refine⟨L.map NH,Av λv hv=>?_,(hL.map _).trans (by rw[bq];exact he.pm)⟩;obtain⟨e,hm,rfl⟩:=aw.mp (hL.mem_iff.mp hv);exact he.int hm
theorem DD{d:e_}{Q:f_->g_->Prop}(hh:A.handled=b_)(hS:wF prog w s.heap d (!w.params.followText "set-order") ns)(Xz:ns.length<64)
  (h: ∀(out:Array f_) (Zq:List Int) (a:e_) (e:Nat) (s':g_),IntsAre out.toList Zq->Zq.Perm ns->Zq.Pairwise (· <= ·)->0#6<=a->(∀b o',s.heap.get? b=a_ o'->b≠d->s'.heap.get? b=a_ o')->s'.gens=s.gens->s'.os=s.os ->
   s'.heap.get? a=a_ (seqObj "list" out e)->Q (.ref a) s') :
  aD 1#5 A (call (.builtin "sorted") [.ref d]) Q E s:=by
 refine iM kind_sorted plain_sorted entry_sorted (args_sorted1 _) ?_;unfold Builtin.«sorted»;refine ab (m:=checkCount "sorted" 1 1 _) (aj (ab (BQ (A:=A.in1) hh hS fun s1 acc WJ hg Yx ⟨ms,hI,hp⟩ hle=>?_)));have hal:acc.length<64:=by rw[jK hI,hp.length_eq];exact Xz
 refine ab (qj ?_);have YX:(s1.heap.push (seqObj "list" acc.toArray 0)).get? s1.heap.objs.size=a_ (seqObj "list" acc.toArray 0):=av _ rfl;show aD _ _ _ _ _ { s1 with heap:=s1.heap.push (seqObj "list" acc.toArray 0) };refine ab (dC (bG slot_list_sort ⟨_,YX,rfl⟩ entry_list_sort (list_sort_tree YX hI hal λout Zq a1 a2 a3=>⟨_,rfl,?_⟩) (args_list_sort _)));obtain⟨e,he⟩:=sortedHeap_at (out:=out) YX
 exact aj ⟨_,rfl,h out Zq _ e _ a1 (a2.trans hp) a3 hle (λb o' hb Xf=>by
  have Yz:=WJ b o' hb Xf;have ZR:=az Yz;show(Heap.get? _ b)=_;rw[sortedHeap_old (aJ ZR) (by rw[size_push'];exact cU ZR),m6 _ _ _ (aJ ZR)]
  exact Yz) hg Yx he⟩
def Kp(n m:Nat):Prop:=n<4000/\m<64
instance(n m:Nat):Decidable (Kp n m):=ck _
def bSS:MF:=λus S=>match us with
 |[x]=>((eA S x).bind λxs=>dG yG xs).bind λns=>if Kp ns.length (ddp ns).length then a_ (.ref 0#7,S++[.lst ((nG (ddp ns)).map U.int)]) else b_
 |_=>b_
def rSS(K:aq):List V->Hp->VK->Prop:=λxs H Q=>∃(p:e_) (ns:List Int),xs=[.ref p]/\(SqL K H p (ns.map V.int)\/SqT K H p (ns.map V.int))/\Kp ns.length (ddp ns).length /\ ∀l,H l=b_->Q (.ref l) (upd H l (.lst ((nG (ddp ns)).map V.int)))
theorem Py{K:KX}:vA K (rSS K) bSS:=by
 intro μ S H us vs u S' Q hr rs e a;unfold bSS at e
 split at e
 .rename_i x
  obtain⟨v,r,rfl,rx,rn⟩:=rs.inv;rw[rn.nil_inv];cases q1:eA S x with
  |none=>rw[q1]at e;cases e
  | some ws=>
    rw[q1]at e;simp only[aO]at e;cases q:dG yG ws with
    |none=>rw[q]at e;cases e
    | some ns=>
      rw[q]at e;simp only[aO]at e
      split at e
      rotate_left
      .cases e
      rename_i hc
      cases e;obtain⟨p,ys,rfl,hs,r'⟩:=hr.seq rx q1;rw[y3 r' q]at hs;exact⟨p,ns,rfl,hs,hc,λl hl=>jB a hr (nk _) hl⟩
 .cases e
variable{X:Cx}
theorem Inv.drawn{pins:List (e_×Obj)}{σ:_L.St}{H:Hp}{s':g_}(I:Inv X pins σ H s)(h1:s'.heap=s.heap)(h2:s'.gens=s.gens)(h3:s'.os=s.os):Inv X pins σ H s':=by
 obtain⟨a,b,c,d,e⟩:=s';simp only at h1 h2 h3;subst h1 h2 h3;exact⟨I.ok,I.os,I.bare,I.base,I.loc,I.cell,I.free,I.freeC,I.pin,I.hok,I.len⟩
theorem QD{e:Expr}{t:TA}{p q rp pos:Pos}(hc:X.calm=c_)(hg:Gl X "sorted")(hm:X.mg "sorted"=b_)(XC:Gl X "set")(Zf:X.mg "set"=b_)(ha:PA X [e] t)(he:starEach [e] X.env=(d_,eval e X.env)::starEach [] X.env):PE X (.Call (.Name "sorted" p) [.Call (.Name "set" q) [e] [] rp] [] pos) (tCB (rSS X.K) t):=by
 intro pins s σ H Q I h;refine eZ (ky I hg hm kX ?_ 0#2 0#2);refine rH ?_ rfl rfl;show aD _ _ (spliced ((d_,eval (.Call (.Name "set" q) [e] [] rp) X.env)::backTo pos (starEach [] X.env))) _ _ s;refine lQ (eZ (ky I XC Zf PyProof.Rows.boot_set ?_ 0#2 0#2));refine cM (thn (ha rp pins s σ H _ I h) λus s1 ⟨vs,H1,I1,r1,q1⟩=>?_) he rfl;obtain⟨a,ns,rfl,hS,⟨WJ,WA⟩,qq⟩:=q1;cases r1 with
 | cons r1 rr=>
   cases rr;cases (show _=bZ a from r1);have hh:=I1.ok.hd hc;have fin :∀ (T:String) (items:Array f_) (nl:Nat) (od:Option e_) (osl:Array (Option f_)),T="list"\/T="tuple"->s1.heap.get? a=a_ { cls := .type T,dict:=od,data := .seq items nl,slots:=osl }->IntsAre items.toList ns ->
     aD 1#3 X.A (call (.type "set") [.ref a]) (fun u s2=>aD 1#3 X.A (spliced (backTo pos (starEach [] X.env))) (fun us s3=>aD 1#3 X.A (call (.builtin "sorted") (u::us)) (EP X pins σ Q) X.xe s3) X.xe s2) X.xe s1:=by
    intro T items nl od osl hT Xy hi;refine Ju hT hh Xy hi (by unfold scanBound;exact aM 0#5 0#2) λh2 tk XH hold=>wM ?_;refine DD (s:={ s1 with heap:=h2,toks:=tk }) hh XH WA λout Zq l ee s3 a1 a2 a3 hle Yt hgn Yx hl=>?_;have e':=ny a2 a3;subst e';have la:∀b o,s1.heap.get? b=a_ o->s3.heap.get? b=a_ o:=λb o e=>Yt b o (hold b o 0#4 e) (aJ (az e));have lz:s1.heap.objs.size<=l:=by
     obtain⟨es,ep,t,g,_⟩:=XH;have: @JT Nat _ s1.heap.objs.size h2.objs.size:=az g;have z: @LE.le Nat _ h2.objs.size l:=hle;exact aI (ai this z)
    have I3:=I1.laid (t':=s3.toks) (o:= .lst ((nG (ddp ns)).map V.int)) (h':=s3.heap) (a:=l) la lz ⟨by rw[ar,(jl _).length_eq,sizeLine_eq];lia,out.toList,ee,oR a1,by rw[hl]⟩;exact⟨.ref l,_,Inv.drawn I3 rfl hgn Yx,rfl,qq _ (I1.hok.fresh lz)⟩
   rcases hS with hS|hS
   .obtain⟨ZY,rv,pl,_⟩:=I1.list hS
    obtain⟨⟨oc,od,odt,osl⟩,ho,YQ,n,hd⟩:=pl.isList;simp only at YQ hd;subst YQ hd;exact fin "list" _ n _ _ (.inl rfl) ho (intsAre_of rv)
   .obtain⟨ZY,rv,pl,_⟩:=I1.tuple hS
    obtain⟨⟨oc,od,odt,osl⟩,ho,YQ,n,hd⟩:=pl;simp only at YQ hd;subst YQ hd;exact fin "tuple" _ n _ _ (.inr rfl) ho (intsAre_of rv)
section
variable {prog:Program}{w:World}{A:Around}{E:f_->g_->Prop}{s:g_}
end
section
variable {X:Cx}{e:Expr}{te:TE}{pos p2 p3 p4:Pos}{j:Nat}
end
section
variable {K:KX}{σ:St}{H:Hp}{Q:VK}
end
def qH:ME:=λ_ S=>a_ (.ref 0#7,S++[.dic []])
def yE(k v:ME):ME:=λG S=>bnd (k G (S++[.dic []])) λx S1=>bnd (v G S1) λy S2=>(keyOf x).bind λkk=>match S2[0#7]? with
 |some (.dic [])=>a_ (.ref 0#7,S2.set S.length (.dic [(kk,y)]))
 |_=>b_
section
variable {K:KX}{σ:St}{H:Hp}{Q:VK}
variable{μ:List e_}{S:Sto}{p:e_}
theorem Er(hr:HR K μ S H)(hp:H p=b_):HR K (μ++[p]) (S++[.dic []]) (upd H p (.dK [])):=
 hr.newC hp rfl ⟨[],du,.nil⟩
theorem DO(hr:HR K μ S H):(μ++[p])[0#7]?=a_ p:=by
 rw[<-hr.len];simp
theorem NK{a b:ME}(h:tM K (yE a b) σ H Q):Pm [(tM K a,tM K b)] σ H Q:=by
 obtain⟨μ,S,G,u,S',hr,er,e,k⟩:=h;intro p hp;obtain⟨x,S1,e1,e⟩:=be e;obtain⟨y,S2,e2,e⟩:=be e;have pre:Pre μ _:=⟨[p],rfl⟩;refine⟨_,_,G,x,S1,Er hr hp,er.mono (bD.new hp) pre,e1,λY0 vx H1 p1 k1 ZZ rx=>?_⟩;refine⟨_,S1,G,y,S2,ZZ,er.mono ((bD.new hp).trans k1) (pre.trans p1),e2,λY7 vy H2 p2 k2 ZS ry=>?_⟩;cases qk:keyOf x with
 |none=>simp_all
 | some kk=>
   rw[qk]at e
   split at e
   .rename_i q
    cases e;have hm:=p2.get (p1.get (DO hr));obtain⟨vs,e0,r0⟩:=ZS.cell _ _ p q hm;have kw:bD H2 (upd H2 p (.dK (sk [] [(kk,vy)]))):=bD.wrG e0 (λ_ z=>by cases z) λ_ _ z=>by cases z
    refine⟨e0,[(kk,vy)],?_,by simp,?_⟩
    .rw[rq (RU.mono k2 p2 _ _ rx) qk];rfl
    .refine k _ _ _ (pre.trans (p1.trans p2)) ((bD.new hp).trans (k1.trans (k2.trans kw))) (ZS.wrC q hm rfl ⟨_,by rw[du];rfl,.cons (RU.mono kw 2#2 _ _ ry) .nil⟩) (z7 hm)
   .cases e
def Ss(i:Int):Prop:=i.natAbs.log2<1920
end
abbrev MG:=U->Rho->Sto->Option (Rho×Sto)
abbrev MGs:=List U->Rho->Sto->Option (Rho×Sto)
def gN(i:Nat):MG:=λu G S=>a_ (G.set i (a_ u),S)
def tW:MGs:=λus G S=>match us with
 |[]=>a_ (G,S)
 |_=>b_
def iD(g:MG)(r:MGs):MGs:=λus G S=>match us with
 |[]=>b_
 |u::us=>(g u G S).bind λp=>r us p.1 p.2
def gTp(n:Nat)(gs:MGs):MG:=λu G S=>match u with
 |.tup us=>if 1#1=n then gs us G S else b_
 |_=>b_
def I0(e:ME)(g:MG):MS:=λG S=>bnd (e G S) λx S1=>(g x G S1).map λp=>(.nx,p.1,p.2)
def tG(K:KX)(g:MG):TG:=λv σ H Q=>∃μ S G u r,HR K μ S H/\ER H μ G σ/\RU H μ u v/\g u G S=a_ r /\ ∀Y6 Y3 H',Pre μ Y6->bD H H'->HR K Y6 r.2 H'->ER H' Y6 r.1 Y3->Q Y3 H'
def tGs(K:KX)(g:MGs):TGs:=λvs σ H Q=>∃μ S G us r,HR K μ S H/\ER H μ G σ/\RUs H μ us vs/\g us G S=a_ r /\ ∀Y6 Y3 H',Pre μ Y6->bD H H'->HR K Y6 r.2 H'->ER H' Y6 r.1 Y3->Q Y3 H'
theorem PG.con{tg:Expr}{t u:TG}(h:PG X tg t)(k:∀v σ H Q,u v σ H Q->t v σ H Q):PG X tg u:=λpins s σ H v w Q I r q=>h _ s σ H v w Q I r (k _ _ _ _ q)
theorem PGs.con{tg:List Expr}{t u:TGs}(h:PGs X tg t)(k:∀v σ H Q,u v σ H Q->t v σ H Q):PGs X tg u:=λpins s σ H v w Q I r q=>h _ s σ H v w Q I r (k _ _ _ _ q)
section
variable {K:KX}{σ:St}{H:Hp}{Q:St->Hp->Prop}{v:V}{D:Ends}
theorem RW{i:Nat}(h:tG K (gN i) v σ H Q):pv i v σ H Q:=by
 obtain⟨μ,S,G,u,r,hr,er,ru,e,k⟩:=h;cases e;exact k μ _ H 2#2 (bD.refl _) hr (er.set ru i)
theorem OI{vs:List V}(h:tGs K tW vs σ H Q):RI vs σ H Q:=by
 obtain⟨μ,S,G,us,r,hr,er,rs,e,k⟩:=h;cases us with
 |nil=>cases e;exact⟨rs.nil_inv,k μ _ H 2#2 (bD.refl _) hr er⟩
 |cons u us=>cases e
theorem P4{m:ME}{g:MG}(h:tMS K (I0 m g) D σ H):Lh (tM K m) (tG K g) D σ H:=by
 obtain⟨μ,S,G,r,hr,er,e,k⟩:=h;obtain⟨x,S1,e1,e⟩:=be e;cases q:g x G S1 with
 |none=>rw[q]at e;cases e
 | some p=>
   rw[q]at e;cases e;exact⟨μ,S,G,x,S1,hr,er,e1,λY0 vx H1 p1 k1 ZZ rx=>⟨_,S1,G,x,p,ZZ,er.mono k1 p1,rx,q,λY7 Y9 H2 p2 k2 ZS Yb=>k _ _ H2 (p1.trans p2) (k1.trans k2) ZS Yb⟩⟩
end
def tE(g:MG)(b:MS)(n:Nat)(us:List U):Nat->Nat->MS
 |0,_,_,_=>b_
 | f+1,k,G,S=>(getL S n).bind λxs=>match xs[k]? with
   |none=>a_ (.nx,G,S)
   | some x=>match us[k]? with
     |none=>a_ (.nx,G,S)
     |some y=>(g (.tup [x,y]) G S).bind λp=>aft (b p.1 p.2) (tE g b n us f (k+1))
def Pe(g:MG)(b:MS):Src->MS
 |.zlt n us=>tE g b n us fuel 0
 |_=>λ_ _=>b_
def wG(g:MG)(it:MI)(b:MS):MS:=λG S=>bnd (it G S) λsrc S1=>Pe g b src G S1
section
variable {K:KX}{σ:St}{H:Hp}{Q:VK}{D:Ends}
variable{G:Rho}{S:Sto}{μ:List e_}{r:Fl×Rho×Sto}
theorem JH{g:MG}{b:MS}{x:U}{v:V}{X4:List e_}{H0:Hp}{k:MS}{N:St->Hp->Prop}(hr:HR K μ S H)(er:ER H μ G σ)(rx:RU H μ x v)(e:((g x G S).bind λp=>aft (b p.1 p.2) k)=a_ r)(p:Pre X4 μ)(kp:bD H0 H)(fl:FlP K X4 H0 D r)
  (hN:∀Y0 Y8 H1 Y5 S1,Pre X4 Y0->bD H0 H1->HR K Y0 S1 H1->ER H1 Y0 Y5 Y8->k Y5 S1=a_ r->N Y8 H1):tG K g v σ H λY9 H2=>tMS K b { D with nx:=N,ct:=N,bk:=D.nx } Y9 H2:=by
 cases q:g x G S with
 |none=>rw[q]at e;cases e
 | some y=>
   rw[q]at e;exact⟨μ,S,G,x,y,hr,er,rx,q,λY0 Y8 H1 p1 k1 ZZ ZG=>oK ZZ ZG e (p.trans p1) (kp.trans k1) fl hN⟩
theorem NZ{a:MA}{R:It->Hp->Prop}{S1:Sto}{src:Src}(hr:HR K μ S H)(er:ER H μ G σ)(e:CM a G S=a_ (src,S1))
  (hR:∀Y0 H1 n us p q vs,Pre μ Y0->bD H H1->HR K Y0 S1 H1->src=.zlt n us->Y0[n]?=a_ p->H1 q=a_ (.tup vs)->RUs H1 Y0 us vs->R (Itz K c_ p q) H1)
  (hT:∀Y0 H1 us ws p q xs ys,Pre μ Y0->bD H H1->HR K Y0 S1 H1->src=.zpt us ws->H1 p=a_ (.tup xs)->RUs H1 Y0 us xs->H1 q=a_ (.tup ys)->RUs H1 Y0 ws ys->R (Itz K d_ p q) H1):Mh K (tMA K a) σ H R:=by
 obtain⟨xs,S2,e1,e⟩:=be e
 split at e
 .rename_i n us
  cases q:getL S2 n with
  |none=>rw[q]at e;cases e
  | some ws=>
    rw[q]at e;simp only[dr,kY,B4]at e;obtain⟨e2,e3⟩:=e;subst e3;refine⟨μ,S,G,_,_,hr,er,e1,λY0 vs H1 p1 k1 ZZ rs=>?_⟩;obtain⟨v,r,rfl,rx,rn⟩:=rs.inv;obtain⟨v2,r2,rfl,ry,UN⟩:=rn.inv;rw[UN.nil_inv];obtain⟨p,rfl,hp⟩:=gQ rx;obtain⟨p2,vs,rfl,Xa,r⟩:=gq ry;obtain⟨a',zs,YW,hs,_⟩:=ZZ.sq q;rw[hp]at YW;cases YW;exact⟨c_,p,p2,zs,vs,rfl,hs,.inl (.inl Xa),hR Y0 H1 n us p p2 vs p1 k1 ZZ e2.symm hp Xa r⟩
 .cases e
  refine⟨μ,S,G,_,_,hr,er,e1,λY0 vs H1 p1 k1 ZZ rs=>?_⟩;obtain⟨v,r,rfl,rx,rn⟩:=rs.inv;obtain⟨v2,r2,rfl,ry,UN⟩:=rn.inv;rw[UN.nil_inv];obtain⟨p,xs,rfl,hp,r⟩:=gq rx;obtain⟨p2,ys,rfl,Xa,r2⟩:=gq ry;exact⟨d_,p,p2,xs,ys,rfl,.inl (.inl hp),.inl (.inl Xa),hT Y0 H1 _ _ p p2 xs ys p1 k1 ZZ rfl hp r Xa r2⟩
 .cases e
theorem Ll{g:MG}{b:MS}{n f:Nat}{us:List U}{vs:List V}{a c:e_}(hr:HR K μ S H)(er:ER H μ G σ)(e:tE g b n us f 0 G S=a_ r)(fl:FlP K μ H D r)(ha:μ[n]?=a_ a)(hc:H c=a_ (.tup vs))(ru:RUs H μ us vs):
  ∃W:Nat->Nat->St->Hp->Prop,(∃m,W 0 m σ H) /\ ∀k m σ H,W k m σ H ->
   ((Itz K c_ a c).stop k H/\D.nx σ H)\/((Itz K c_ a c).go k H /\ ∃N:St->Hp->Prop,(∀Y3 H',N Y3 H'->∃m',m'<m/\W (k+1) m' Y3 H') /\ ∀x H',(Itz K c_ a c).yld k H x H'->tG K g x σ H' λY9 H2=>tMS K b { D with nx:=N,ct:=N,bk:=D.nx } Y9 H2):=by
 refine⟨λk m Y8 H1=>∃Y0 S1 Y5,Pre μ Y0/\bD H H1/\HR K Y0 S1 H1/\ER H1 Y0 Y5 Y8/\tE g b n us m k Y5 S1=a_ r,⟨f,μ,S,G,Pre.refl _,bD.refl _,hr,er,e⟩,?_⟩;rintro k m Y8 H1 ⟨Y0,S1,Y5,p1,k1,ZZ,ZG,e1⟩;have hq:SqT K H1 c vs:= .inl (.inl (k1 c vs hc));cases m with
 |zero=>cases e1
 | succ m=>
   unfold tE at e1;cases q:getL S1 n with
   |none=>rw[q]at e1;cases e1
   | some xs=>
     rw[q]at e1;simp only[aO]at e1;obtain⟨a',ws,YW,hs,rs⟩:=ZZ.sq q;rw[p1.get ha]at YW;cases YW;cases z:xs[k]? with
     | none=>
       rw[z]at e1;cases e1;refine .inl ⟨⟨ws,vs,hs,hq,.inl ?_⟩,fl Y0 Y8 H1 p1 k1 ZZ ZG⟩;rw[<-rs.len];exact DH.mp z
     | some u=>
       rw[z]at e1;obtain⟨v,hv,rv⟩:=rs.get z;cases z2:us[k]? with
       | none=>
         simp only[z2]at e1;cases e1;refine .inl ⟨⟨ws,vs,hs,hq,.inr ?_⟩,fl Y0 Y8 H1 p1 k1 ZZ ZG⟩;rw[<-ru.len];exact DH.mp z2
       | some y=>
         simp only[z2]at e1;obtain⟨v2,hv2,Xj⟩:=ru.get z2;refine .inr ⟨⟨ws,v,vs,v2,hs,hv,hq,hv2⟩,λY9 H2=>∃Y7 S2 X0,Pre μ Y7/\bD H H2/\HR K Y7 S2 H2/\ER H2 Y7 X0 Y9/\tE g b n us m (k+1) X0 S2=a_ r,λY3 H' w=>⟨m,bV _,w⟩,λx H' yl=>?_⟩;obtain⟨T,w1,w2,hy1,Ul,hT,rfl,rfl⟩:=yl;have f':=hy1 ws hs;rw[hv]at f';cases f';have VW:=Ul vs hq;rw[hv2]at VW;cases VW;have kp:bD H1 (upd H1 T (.tup [v,v2])):=bD.new hT;exact JH (ZZ.tup hT) (ZG.mono kp 2#2) (jO du (.cons (RU.mono kp 2#2 _ _ rv) (.cons (RU.mono (k1.trans kp) p1 _ _ Xj) .nil))) e1 p1 (k1.trans kp) fl λY7 Y9 H2 X0 S2 p2 k2 ZS Yb e2=>⟨Y7,S2,X0,p2,k2,ZS,Yb,e2⟩
end
section
variable {K:KX}{σ:St}{H:Hp}{Q:VK}
end
section
variable {prog:Program}{w:World}{A:Around}{E:f_->g_->Prop}{s:g_}
variable{r:e_}{n:Nat}
theorem xg{a b c:Int}{t u v:Tok}(hh:A.handled=b_)(hr:IsRange s.heap r a b c t u v)(Zp:ox a b c=c_)
  (hn:iA a b c=n) (hlen:n<=2^24)
  (hQ:∀(h':Heap) (tk:Nat) (acc:Array f_),(∀b o,s.heap.get? b=a_ o->h'.get? b=a_ o)->0#6<=h'.objs.size->ItemsOf (λi v=>∃t,v=.int (a+i*c) t) acc n->Q acc.toList { s with heap:=h',toks:=tk }):
  aD 1#5 A (collect (.ref r)) Q E s:=by
 refine ab (kH (dB kJ ?_));refine ab (bJ (aj ⟨plainId_quiet j9 _,dB oV ?_⟩))
 refine dv (wpAny_extend_range (R:=λx s' =>∃h' tk acc c',x = .ok _/\s'={ s with heap:=h',toks:=tk }/\(∀b o,s.heap.get? b=a_ o->h'.get? b=a_ o) /\
   h'.get? _=a_ { cls:= .type _,dict:=b_,data:= .seq acc c',slots:= #[] }/\ItemsOf _ acc n)
  hh (af _ hr) Zp hn hlen _ _ 0 (av _ rfl)
  λh' tk acc c' hk Za ZK=>⟨h',tk,_,c',rfl,rfl,λb o e=>hk b o ((λb o e=>aJ (az e)) b o e) (af _ e),Za,ZK⟩) (λfin s' h =>?_) (λe s' h=>by simp_all)
 have WM: ∀x s',(∃h' tk acc c',x=(.ok (.ret (.ref 0#6)):Result)/\s'={ s with heap:=h',toks:=tk }/\(∀b o,s.heap.get? b=a_ o->h'.get? b=a_ o) /\
   h'.get? s.heap.objs.size=a_ { cls := .type "list",dict:=b_,data := .seq acc c',slots := #[] }/\ItemsOf (fun i v=>∃ t,v=.int (a+i*c) t) acc n)->x=.ok (.ret (.ref s.heap.objs.size))/\aD (model prog w) A (match bZ s.heap.objs.size with
   | bZ a=>do
     match (<- load a).data with
      |wY xs _=>pure xs.toList
      |_=>unsupported "internal:collect"
   | _=>unsupported "internal:collect") Q E s':=by
  rintro x s' ⟨h',tk,acc,c',rfl,rfl,hk,Za,ZK⟩;exact⟨rfl,(ab (z9 Za (aj (hQ h' tk _ hk (aI (az Za)) ZK))))⟩
 cases fin with
 | done f=>
   obtain⟨e,q⟩:=WM _ _ h;cases e;omega
 | again c'=>exact⟨h.1,jb h.2 λr Wd hr=>by
   obtain⟨e,q⟩:=WM _ _ hr;subst e
   omega⟩
theorem nF{Q₁:f_->g_->Prop}{a b c:Int}{t u v:Tok}(hh:A.handled=b_)(hr:IsRange s.heap r a b c t u v)(Zp:ox a b c=c_)
  (hn:iA a b c=n) (hlen:n<=2^24)
  (h :∀ (h':Heap) (tk:Nat) (acc:Array f_),(∀ b o,s.heap.get? b=a_ o->h'.get? b=a_ o)->0#6<=h'.objs.size->ItemsOf (fun i v=>∃ t,v=.int (a+i*c) t) acc n->Q₁ (.ref h'.objs.size) { s with heap:=h'.push { cls := .type "tuple",data := .seq acc },toks:=tk }) :
  pM 1#5 A (.call (.builtin "tuple.__new__") ⟨[.type "tuple",.ref r],[]⟩) (wants Q₁ E) s:=by
 refine Gz ?_;show aD _ A.in1 (do checkBuiltinCall "tuple.__new__" ⟨[.type "tuple",.ref r],[]⟩;again (.builtin "tuple.__new__" ⟨[.type "tuple",.ref r],[]⟩)) _ _ s;refine ab (dR (F.newCall_tuple_1 _) (aj ⟨plainId_quiet F.plain_tuple_new _,dB F.entry_tuple_new ?_⟩));rw[fP F.plain_tuple_new _];have Xe:=sub_tuple_self;have hinit:=init_tuple_lookup;have hmh:=madeHere_tuple;have Zi:s.TypeIs (.ref r) "range":=⟨_,hr,rfl⟩;have hh1:A.in1.handled=b_:=hh
 wp_walk using jc Zi,xg hh1 hr Zp hn hlen
 intro h' tk acc hk hle ZK;show aD _ _ (wR acc.toList.toArray >>= λv=>ret v) _ _ _;unfold wR;refine ab (bJ ?_ (by show acc.toList.toArray.size<=sizeLine;simp only[Array.toArray_toList];rw[ZK.1,sizeLine_eq];exact hlen));refine aj ?_;have e:acc.toList.toArray=acc:=by simp
 rw[e];exact h h' tk acc hk hle ZK
theorem rQ{Q:f_->g_->Prop}{a b c:Int}{t u v:Tok}(hh:A.handled=b_)(hr:IsRange s.heap r a b c t u v)(Zp:ox a b c=c_)
  (hn:iA a b c=n) (hlen:n<=2^24)
  (h :∀ (h':Heap) (tk:Nat) (acc:Array f_),(∀ b o,s.heap.get? b=a_ o->h'.get? b=a_ o)->0#6<=h'.objs.size->ItemsOf (fun i v=>∃ t,v=.int (a+i*c) t) acc n->Q (.ref h'.objs.size) { s with heap:=h'.push { cls := .type "tuple",data := .seq acc },toks:=tk }) :
  aD 1#5 A (call (.type "tuple") [.ref r]) Q E s:=by
 refine callType_codes (Q₁:=λobj ZV=>ZV.TypeIs obj _/\Q obj ZV) F.called_tuple (F.typeCall_tuple_1 _) F.entry_object_init
  (nF hh hr Zp hn hlen λh' tk acc hk hle ZK=>⟨⟨_,av _ rfl,rfl⟩,h h' tk _ hk hle ZK⟩) λobj ZV YV=>?_
 exact⟨YV.1,F.args_object_init_2 _ _,object_init_meets F.called_tuple.init.lookup F.called_tuple.made 0#2 _ w _ _ _ ⟨YV.1,rfl,YV.2⟩⟩
end
theorem wk (hc:X.calm=c_):jg X (.type "tuple") (fun xs H Q=>∃ r lo hi,xs=[.ref r]/\H r=a_ (.rng lo hi)/\(-(2^62)<=lo/\lo<2^62 /\ -(2^62)<=hi/\hi<2^62)/\(hi-lo).toNat<=sizeLine /\ ∀ l,H l=b_->Q (.ref l) (upd H l (.tup (o4 lo (hi-lo).toNat)))):=by
 intro pins s σ H xs us Q I rs h;obtain⟨r,lo,hi,rfl,hr,⟨h1,h2,h3,h4⟩,hz,q⟩:=h;cases rs with
 | cons r1 rr=>
   cases rr;cases (r1);obtain⟨t,u,v,e⟩:=I.hok r _ hr;refine rQ (I.ok.hd hc) e (small_one h1 h2 h3 h4) (by rw[rangeSize_one];grind) (hz) λh' tk acc hk hle ZK=>?_;obtain⟨ZF,hit⟩:=ZK;refine⟨.ref _,_,I.laid (λb o e=>af _ (hk b o e)) hle ?_,rfl,q _ (I.hok.fresh hle)⟩;refine⟨by rw[o4,ar,aZ];omega,_,?_,rJ _ _,_,av _ rfl,rfl⟩;refine zJ (by rw[o4,ar,aZ,bR,ZF]) λi x w h5 h6=>?_;have ZR:=by
    have:=(ag.mp h5).1;rwa[o4,ar,aZ]at this
   have hx:(o4 lo (hi-lo).toNat)[i]?=a_ (.int (lo+i)):=by simp[o4,ZR]
   rw[hx]at h5;cases h5;obtain⟨t',e'⟩:=hit i w (by simpa using h6);exact⟨t',by rw[e'];simp⟩
section
variable {K:KX}{σ:St}{H:Hp}{Q:VK}
def rTR:List V->Hp->VK->Prop:=λxs H Q=>∃r lo hi,xs=[.ref r]/\H r=a_ (.rng lo hi)/\(-(2^62)<=lo/\lo<2^62 /\ -(2^62)<=hi/\hi<2^62)/\(hi-lo).toNat<=sizeLine /\ ∀l,H l=b_->Q (.ref l) (upd H l (.tup (o4 lo (hi-lo).toNat)))
theorem HU{μ:List e_}{S1:Sto}{i j:Int}{r:e_}(ZZ:HR K μ S1 H)(ho:okR i/\okR j)(hz:(bI i (j-i).toNat).length<=big)(k:Aft K μ H (.tup (bI i (j-i).toNat)) S1 Q)(Yl:H r=b_):rTR [.ref r] (upd H r (.rng i j)) Q:=by
 refine⟨r,i,j,rfl,du,⟨ho.1.1,ho.1.2,ho.2.1,ho.2.2⟩,?_,λl hl=>?_⟩
 .unfold bI big at hz;rw[ar,aZ]at hz;exact hz
 .exact(k.mono 2#2 (bD.new Yl (o:= .rng i j))) μ _ _ 2#2 (bD.new hl) ((ZZ.rng Yl).tup hl) (jO du (RUs.mono (bD.new hl) 2#2 _ _ (Ec _ _)))
end
def wA(i:Nat)(f:e_)(φ:MF)(a:MA):ME:=λG S=>match G[i]? with
 |some (a_ (.obj g))=>if g=f then mFn φ a G S else b_
 |_=>b_
def sD(is:List Nat)(G:Rho):Option (List U):=dG (λi=>(G[i]?).bind id) is
def zK(np:Nat)(ml:ME)(cs:List U):MF:=λus S=>if 1#1=np then ml (us.map a_++cs.map a_) S else b_
def mm(F:e_->MF->MF)(np:Nat)(is:List Nat)(ml:ME)(ma:ME):ME:=λG S=>bnd (ma G S) λx S1=>(sD is G).bind λcs=>
 open Classical in
 if h:∃r,∀f,F f (zK np ml cs) [x,.obj f] S1=a_ r then a_ h.choose else b_
theorem vt{F:e_->MF->MF}{np:Nat}{is:List Nat}{ml ma:ME}{G:Rho}{S S1:Sto}{x:U}{cs:List U}{r:U×Sto}(ha:ma G S=a_ (x,S1))(hc:sD is G=a_ cs)(h:∀f,F f (zK np ml cs) [x,.obj f] S1=a_ r):
  mm F np is ml ma G S=a_ r:=by
 have hx:∃r,∀f,F f _ [x,.obj f] S1=a_ r:=⟨r,h⟩;unfold mm;rw[ha];simp only[aF,hc,aO];rw[dif_pos hx];have e:=(hx.choose_spec 0).symm.trans (h 0);omega
structure Lam(M:Mo)(f:e_)(k:Nat)(ps:List Str)(φ:MF):Prop where
 ex:∃fd:FuncData,((∃(oc:f_) (od:Option e_) (sl:Array (Option f_)),M.base.get? f=a_ ⟨oc,od,.func fd,sl⟩)\/dZ M.K (.ref f)=c_)/\Binds M.K fd ps []/\lJ M.P M.w M.K M.mg M.base CX0 k f fd ps (spM M.K φ)
section
variable {M:Mo}{X:Cx}{k:Nat}{N:List Str}{ns:List (Str×NameKind)}{e:Expr}{es:List Expr}{ZP:MA}{x:Str}{p1 pos:Pos}
theorem Kf{f:e_}{φ:MF}{ps:List Str}{k':Nat}(S:Sc M X k N ns)(F:Lam M f k' ps φ)(hk:k'<=k)(i:Nat)(hi:N[i]?=a_ x)(hv:xj ns x=c_)(ha:PA X (e::es) (tMA M.K ZP))
  (hd:(x==("__debug__":Str))=d_) (Z8:(x==("__classdict__":Str))=d_)
  (he:starEach (e::es) X.env=(d_,eval e X.env)::starEach es X.env) (ZJ:(backTo pos (starEach es X.env)).any (·.1)=d_):
  PE X (.Call (.Name x p1) (e::es) [] pos) (tM M.K (wA i f φ ZP)):=by
 obtain⟨fd,hf,hb,F⟩:=F.ex;rw[<-S.hP,<-S.hw,<-S.hK,<-S.hm,<-S.hb]at F;rw[<-S.hb,<-S.hK]at hf;rw[<-S.hK]at hb;intro pins s σ H Q I h;obtain⟨μ,S0,G,u,S',hr,er,q,aft⟩:=h;unfold wA at q
 split at q
 rotate_left
 .cases q
 rename_i g hg
 split at q
 rotate_left
 .cases q
 rename_i hgf
 subst hgf;obtain⟨v,X3,rv⟩:=er.get i _ hg;subst 1#6;refine eZ (thn (IZ (by rw[S.hN];omega) (S.vis hv) hd Z8 _ s σ H (λv H1=>v=.ref g/\H1=H) I ⟨_,X3,rfl,rfl⟩) λw s1 ⟨v,H1,I1,r1,e1,e2⟩=>?_);subst e1;subst e2;obtain rfl:w=bZ g:=r1;have hc:EX _ [] E0 _ σ H1 Q:=Jz ⟨μ,S0,G,u,S',hr,er,q,aft⟩;have hA:=ha pos _ s1 σ H1 _ I1 hc;rcases hf with⟨oc,od,sl,hf⟩ |hf
 rotate_left
 .exact tm I1.ok.mod.kin hf (thn hA λus s2 ⟨vs,H2,I2,r2,q2⟩=>⟨I2.kIn,zo F (S.room.mono hk) hb .nil EU I2 r2 q2⟩) he ZJ
 rw[he];refine PySem.W.callWith_of (P:=λh=>h.get? g=a_ ⟨oc,od,.func fd,sl⟩) (by show((d_||(backTo _ _).any _)||false)=d_;rw[ZJ];rfl)
  (λh q=>⟨_,.inl rfl,(PySem.W.Looks.ld q).andThen .now⟩) (rE ?_)
 rw[he]at hA;exact thn hA λus s2 ⟨vs,H2,I2,r2,q2⟩=>⟨I2.bk g _ hf,(zo F (S.room.mono hk) hb .nil EU I2 r2 q2)⟩
end
end _G
namespace _G
open PySem PySem.Spec _L
open PySem.W (envX kla_fn kla_obj CodeHd tabObj)
open PyProof.Rows hiding St
structure nO(ps fs:List Str)(scope:Scope):Prop where
 kind:scope.kind=.function
 co:scope.isCoroutine=d_
 gen:scope.isGenerator=d_
 nd:(ps++fs).Nodup
 par:∀p∈ps,scope.names.lookup p=a_ .local\/scope.names.lookup p=a_ .cell
 cel:∀x∈scope.names,x.2=.cell->scope.names.lookup x.1=a_ .cell
 fre:∀y∈scope.names,y.2=.free->y.1∈fs
 free:∀y∈fs,scope.names.lookup y=a_ .free
theorem pR:∀(names:List (Str×NameKind)) (n:Nat) (a b:List (Str×e_)),cellsFrom n names (a++b)=cellsFrom n names a++b
 |[],_,_,_=>rfl
 | (x,k)::r,n,a,b=>by
   unfold cellsFrom;cases k==eO with
   |true=>exact pR r _ ((x,n)::a) b
   |false=>exact pR r n a b
theorem FQ(names:List (Str×NameKind))(n:Nat)(b:List (Str×e_)):cellsFrom n names b=cellsFrom n names []++b:=pR _ n [] b
theorem sM:∀(names:List (Str×NameKind)) (n:Nat) (a:List (Str×e_)) {x:Str}{c:e_},(x,c)∈cellsFrom n names a->(x,eO)∈names\/(x,c)∈a
 |[],_,_,_,_,h=>.inr h
 | (y,k)::r,n,a,x,c,h=>by
   unfold cellsFrom at h
   split at h
   .rcases sM r _ _ h with h|h<;>grind
   .exact(sM r n a h).imp (aB _) id
variable{x:Str}
theorem iy{α:Type}{c:α}:∀{a b:List (Str×α)},a.lookup x=a_ c->(a++b).lookup x=a_ c
 |a,b,h=>by rw[ji,h];rfl
theorem jP{α:Type}:∀{a b:List (Str×α)},a.lookup x=b_->(a++b).lookup x=b.lookup x
 |a,b,h=>by rw[ji,h];rfl
theorem jn{α:Type}{c:α}{a b:List (Str×α)}(h:(a++b).lookup x=a_ c):a.lookup x=a_ c\/(a.lookup x=b_/\b.lookup x=a_ c):=by
 cases q:a.lookup x with
 |some d=>rw[iy q]at h;exact .inl h
 |none=>rw[jP q]at h;exact .inr ⟨rfl,h⟩
theorem uY{f g:Str×f_->PUnit->Sem (ForInStep PUnit)}:∀{l:List (Str×f_)},(∀x∈l,∀u,f x u=g x u)->forIn l PUnit.unit f=forIn l PUnit.unit g
 |[],_=>rfl
 | x::l,h=>by
   have ih:=uY λy hy=>h y (aB _ hy)
   simp_all
variable{env:Env}
theorem Cm{cs:List (Str×e_)}{v:f_}(h:env.kindOf x=a_ .local\/env.cells.lookup x=cs.lookup x):storeName env x v=storeName { env with cells:=cs } x v:=by
 rcases h with h|h
 .have h':Env.kindOf { env with cells:=cs } x=a_ _:=h
  unfold storeName;rw[h,h'];rfl
 .have e:cellOf env x=cellOf { env with cells:=cs } x:=by unfold cellOf;rw[h]
  unfold storeName;rw[e];rfl
variable{A:Around}{scope:Scope}{cl:List (Str×e_)}{qual:Str}
theorem Ln{M:Model}{E:f_->g_->Prop}{s:g_}{g:e_}{binds:List (Str×f_)}{func:Option e_}{code:f_}{bt:e_}{Q:Env->g_->Prop}(hk:scope.kind=.function)
  (hb:∀x∈binds,scope.names.lookup x.1=a_ .local\/scope.names.lookup x.1=a_ .cell)
  (hQ: ∀s',InCallC s s.heap.objs.size (bindL (λx=>scope.names.lookup x) binds λ_=>b_) (cellsFrom (0#6+1) scope.names []) (bindC (λx=>scope.names.lookup x) binds λ_=>b_) s' ->
   Q (newEnv scope s.heap.objs.size g (cellsFrom (s.heap.objs.size+1) scope.names []++cl) qual func code b_ bt) s'):
  aD M A (newFunctionEnv scope g cl binds qual func code b_ bt) Q E s:=by
 have ok:CellsOk (pushCells (s.heap.push { cls := .type "frame",data := .dict #[] }) _) _ _:=
  cellsFrom_ok scope.names _ _ [] ⟨λ_ _ z=>(nomatch z),iO⟩ (ak _)
 rw[bE]at ok;have inC:InCallC s _ _ _ _ _:=
  ⟨⟨⟨_,s.toks,rfl⟩,(Heap.Ns.new _ _).keeps λb o e=>pushCells_keeps _ _ b o e,λb o e=>pushCells_keeps _ _ b o (af _ e),ak _⟩,
   λn c hc=>(ok.empty n c (mem_of_lookup hc)).1,ok.apart,λn c hm=>Nat.lt_of_succ_le (ok.empty n c hm).2⟩
 refine ab (wpAny_alloc (ab (wpAny_layCells _ (λnm kd cs=>by cases q:kd==eO<;>simp[q]) _ _ _ _ ?_)));rw[bE ..,FQ];refine ab ?_;have same:∀x∈binds,∀v,storeName (newEnv _ s.heap.objs.size g (cellsFrom (0#6+1) _ []++cl) _ _ _ b_ bt) _ v=storeName (newEnv _ _ g _ qual func code b_ bt) _ v:=λx hx v=>by
  refine Cm ?_;rcases hb x hx with h|h
  .exact .inl h
  .obtain⟨c,hc⟩:=ko h
   exact .inr (by rw[hc];exact iy hc)
 show aD M A (forIn binds _ λx _=>(do storeName (newEnv _ _ g _ _ _ _ b_ bt) x.1 _;pure _)) _ E _;rw[uY λx hx u=>by rw[same x hx]];refine wpAny_bindParams _ (λ_ _ _=>rfl) hk _ _ _ _ _ inC (λx hx=>?_) λs' x=>aj (hQ s' x);rcases hb x hx with h |h
 .exact .inl h
 .obtain⟨c,hc⟩:=ko h
  exact .inr ⟨h,by show((cellsFrom _ _ []).lookup _).isSome=c_;rw[hc];rfl⟩
def pB(base:Heap)(cl:List (Str×e_)):List Str->List V->Prop
 |[],[]=>True
 |y::fs,v::vs=>(∃c o u,cl.lookup y=a_ c/\base.get? c=a_ o/\o.data=.cell (a_ u)/\RelV v u)/\pB base cl fs vs
 |_,_=>False
theorem pB.len{base:Heap}{cl:List (Str×e_)}:∀{fs:List Str}{vs:List V},pB base cl fs vs->fs.length=2#1
 |[],[],_=>rfl
 |_::_,_::_,h=>by simp[pB.len h.2]
 |[],_::_,h=>h.elim
 |_::_,[],h=>h.elim
theorem pB.get{base:Heap}{cl:List (Str×e_)}:∀{fs:List Str}{vs:List V}{i:Nat}{y:Str}{v:V},pB base cl fs vs->fs[i]?=a_ y->vs[i]?=a_ v->∃c o u,cl.lookup y=a_ c/\base.get? c=a_ o/\o.data=.cell (a_ u)/\RelV v u
 |[],_,i,y,v,_,h1,_=>by simp at h1
 |_::_,[],i,y,v,h,_,_=>h.elim
 | _::_,_::_,0,y,v,h,h1,h2=>by
   simp at h1 h2;subst h1;subst h2;exact h.1
 |_::_,_::_,i+1,y,v,h,h1,h2=>pB.get h.2 (by simpa using h1) (by simpa using h2)
def zS(qual:Str)(scope:Scope)(L f:e_)(cd:f_)(cl:List (Str×e_)):Env:=envX qual scope L f cd (cellsFrom (L+1) scope.names []++cl)
def Jb(P:Program)(w:World)(K:aq)(mg:Str->Option f_)(base:Heap)(N:List Str)(qual:Str)(scope:Scope)(f:e_)(cd:f_)(cl:List (Str×e_))(A:Around)(outer:List Env)(s:g_)(H:Hp):Cx where
 prog:=P
 w:=w
 K:=K
 mg:=mg
 base:=base
 A:=A.deeper (zS qual scope s.heap.objs.size f cd cl)
 N:=N
 s₀:=s
 H₀:=H
 env:=zS qual scope s.heap.objs.size f cd cl
 outer:=outer
 stack:=zS qual scope s.heap.objs.size f cd cl::outer
 ex:= []
 calm:=c_
 fn:=λx=>scope.names.lookup x==a_ .cell
 pn:= []
 xe:=λ_ _=>False
variable{mg:Str->Option f_}{ps:List Str}{f:e_}{us:List f_}{cv:List V}
theorem KS{P:Program}{w:World}{K:aq}{base:Heap}{fs:List Str}{cd:f_}{outer:List Env}{s s1:g_}{H:Hp}{vs:List V}
  (S:nO ps fs scope) (hd:A.handled=b_) (e0:GU P w K mg base A outer s H) (hl:2#1=ps.length) (r:cX vs us) (C:pB base cl fs cv)
  (YQ:∀y c,cl.lookup y=a_ c->∃o v,base.get? c=a_ o/\o.data=.cell v) (inj:∀x y c,cl.lookup x=a_ c->cl.lookup y=a_ c->x=y)
  (x:InCallC s s.heap.objs.size (bindL (λy=>scope.names.lookup y) (ps.zip us) λ_=>b_) (cellsFrom (0#6+1) scope.names []) (bindC (λy=>scope.names.lookup y) (ps.zip us) λ_=>b_) s1):
  Inv (Jb P w K mg base (ps++fs) qual scope f cd cl A outer s H) [] (vs.map a_++cv.map a_) H s1:=by
 obtain⟨h1,tk,rfl,hk⟩:=x.done;have Wi:=(eF.mp S.nd).1;have newc:∀y c,(cellsFrom _ _ []).lookup y=a_ c->scope.names.lookup y=a_ _/\0#6<c:=λy c e=>by
  have m:=mem_of_lookup e;rcases sM _ _ _ m with z|z
  .exact⟨S.cel _ z rfl,x.above y c m⟩
  .simp at z
 have oldc:∀y c,cl.lookup y=a_ c->c<0#6/\(∃v,h1.IsCell c v)/\H c=b_:=λy c e=>by
  obtain⟨o,v,e1,e2⟩:=YQ y c e;exact⟨az (e0.bs c o e1).1,⟨v,o,hk _ _ (e0.bs c o e1).1,e2⟩,(e0.bs c o e1).2⟩
 have frc:∀y∈fs,(cellsFrom _ _ []).lookup y=b_:=λy hy=>by
  cases q:(cellsFrom _ _ []).lookup y with
  |none=>rfl
  | some c=>
    have:=(newc y c q).1;rw[S.free y hy]at this;grind
 have noA:∀b,b∉(Jb P w K mg base (ps++fs) qual scope f cd cl A outer s H).ex:=λb z=>absurd (show b∈[] from z) 0#4
 refine⟨⟨e0.mod,S.kind,rfl,rfl,ak _,λy z c e1 e2 =>?_,λy hy =>?_,λy c hy e =>?_,λ_=>hd,GD e0.frames,.inr ⟨rfl,rfl⟩,λb z=>absurd z (noA b),e0.bs,e0.bsz,λb _ _=>noA b,λb z=>absurd z (noA b),e0.funs,e0.frf⟩,
  rfl,e0.bare,Un.kept hk,⟨_,x.toInCall.ns,λi y v h2 h3 h4 =>?_⟩,λy c h =>?_,e0.hok.fresh (ak _),λy c h =>?_,λp hp=>absurd (show p∈[] from hp) (by simp),e0.hok.kept hk,?_⟩
 .rcases jn e1 with e1|⟨_,e1⟩
  .rcases jn e2 with e2|⟨_,e2⟩
   .exact name_of_addr x.apart (mem_of_lookup e1) (mem_of_lookup e2)
   .exact absurd (aX (newc y c e1).2 (oldc z c e2).1) (bu _)
  .rcases jn e2 with e2|⟨_,e2⟩
   .exact absurd (aX (newc z c e2).2 (oldc y c e1).1) (bu _)
   .exact inj y z c e1 e2
 .rcases hy with hy|hy
  .obtain⟨c,hc⟩:=ko hy
   exact⟨c,iy hc⟩
  .have hf:=S.fre _ (mem_of_lookup hy) rfl
   obtain⟨i,hi⟩:=List.getElem?_of_mem hf;have Yf:i<cv.length:=by rw[<-C.len];exact(ag.mp hi).1
   obtain⟨c,o,u,e,_⟩:=C.get hi (aC Yf);exact⟨c,(jP (frc y hf)).trans e⟩
 .rcases jn e with e|⟨_,e⟩
  .exact aI (newc y c e).2
  .obtain⟨c',Wv⟩:=ko (eq_of_beq hy)
   rename_i z
   rw[Wv]at z;cases z
 .have hN:(ps++fs)[i]?=a_ y:=h2
  by_cases hi:i<ps.length
  .rw[aT hi]at hN
   rw[aT (by simpa [hl]using hi),a9]at h3;cases e:vs[i]? with
   |none=>rw[e]at h3;cases h3
   | some a=>
     rw[e]at h3;cases h3;obtain⟨u,hu,rv⟩:=r.get e;refine⟨u,rv,?_⟩;rcases S.par y (bK hN) with kd|kd
     .exact .inl ⟨kd,rW Wi hN hu kd⟩
     .obtain⟨c,hc⟩:=ko kd
      refine .inr ⟨.inl kd,c,iy hc,?_⟩;have z:=x.cell y c hc;rw[sj Wi hN hu (by rw[kd];decide)]at z
      lia
  .rw[bj (by simp_all)]at hN
   rw[bj (by simp;lia),a9]at h3;simp only[ar,hl]at h3;cases e:cv[i-ps.length]? with
   |none=>simp_all
   | some a=>
     rw[e]at h3;cases h3;have hf:=bK hN;obtain⟨c,o,u,e1,e2,e3,e4⟩:=C.get hN e;exact⟨u,e4,.inr ⟨.inr (S.free y hf),c,(jP (frc y hf)).trans e1,o,hk _ _ (e0.bs c o e2).1,e3⟩⟩
 .rcases jn h with e|⟨_,e⟩
  .exact⟨_,x.cell y c e⟩
  .exact(oldc y c e).2.1
 .rcases jn h with e|⟨_,e⟩
  .exact e0.hok.fresh (aI (newc y c e).2)
  .exact(oldc y c e).2.2
 .show(vs.map _++cv.map _).length=(ps++fs).length
  simp[hl,C.len]
variable{cs:List U}{params:Arguments}{body:Expr}{oc:Obj}{ws:Array f_}
theorem NJ{M:Mo}(h0:M.mkr=b_){name:Str}{pm Yg:f_}{c:e_}{t:Tok}{fs:List Str}{k:Nat}{ml:ME}{od:Option e_}{fc:f_}{fsl:Array (Option f_)}(UU:∀μ S H,HR M.K μ S H->RUs H μ cs cv)
  (hf:M.base.get? f=a_ ⟨fc,od,.func (kla_fn name qual params body scope cl pm (.ref c) Yg),fsl⟩) (hc:(c,oc)∈M.K.cds) (Ye:oc.data=.fields ws) (hq:ws[1]?=a_ (.str qual t))
  (S:nO ps fs scope) (C:pB M.base cl fs cv) (YQ:∀y c,cl.lookup y=a_ c->∃o v,M.base.get? c=a_ o/\o.data=.cell v) (inj:∀x y c,cl.lookup x=a_ c->cl.lookup y=a_ c->x=y)
  (hb:∀X,Sc M X k (ps++fs) scope.names->PE X body (tM M.K ml)):
  lJ M.P M.w M.K M.mg M.base CX0 (k+1) f (kla_fn name qual params body scope cl pm (.ref c) Yg) ps (spM M.K (zK ps.length ml cs)):=by
 have len:∀vs H Q E,spM M.K (zK ps.length ml cs) vs H Q E->2#1=ps.length:=λvs H Q E h=>by
  obtain⟨μ,S',us,u,Yh,hr,rs,e,_⟩:=h;unfold zK at e
  split at e
  .rename_i hl;rw[<-rs.len];exact hl
  .cases e
 refine⟨len,λA outer s H args us vs Q E hr e0 Xf r YC=>?_⟩;have hl:=len _ _ _ _ YC;obtain⟨μ,S1,zs,u,S2,hR,rs,e,ka⟩:=YC;refine PySem.W.kla_callFunE hr.depth (e0.bs f _ hf).1 rfl S.co S.gen rfl ⟨c,oc,ws,t,rfl,((e0.hok c _ (hR.ext.cds _ hc)).1),Ye,hq⟩ (Xf _ _ _ _ ?_);refine Ln S.kind (λx hx=>S.par _ (qi hx).1) λs1 x=>⟨(e0.mod.nolimit.keeps λb o e=>(e0.bs b o e).1).keeps x.toInCall.keep,?_⟩;show pM _ _ (.expr body (zS qual scope s.heap.objs.size f (.ref c) cl)) _ _;have SS:Sc M (Jb M.P M.w M.K M.mg M.base (ps++fs) qual scope f (.ref c) cl A outer s H) k (ps++fs) scope.names:=
  ⟨rfl,rfl,rfl,rfl,rfl,rfl,S.nd,rfl,λ_ h=>h,λy h=>⟨h,by show(scope.names.lookup y==a_ .cell)=c_;rw[h];rfl⟩,λ_ h=>.inr h,λ_ h=>h,hr.deeper _,wQ,λc q h=>by rw[h0]at h;cases h⟩
 unfold zK at e
 split at e
 rotate_left
 .cases e
 have er:ER H μ (zs.map a_++cs.map a_) (vs.map a_++cv.map a_):=by
  have rc:=UU _ _ _ hR;refine⟨by simp[rs.len,rc.len],λi w hw=>?_⟩;rw[<-bL,a9]at hw;cases q:(zs++cs)[i]? with
  |none=>rw[q]at hw;cases hw
  | some w'=>
    rw[q]at hw;cases hw;obtain⟨v,hv,rv⟩:=(rs.append rc).get q;exact⟨v,by rw[<-bL,a9,hv];rfl,rv⟩
 refine PySem.W.kla_codeExpr (dv (hb _ SS [] _ _ H Q (KS (qual:=qual) (f:=f) (cd:= .ref c) S hr.hd e0 hl r C YQ inj x) ⟨μ,S1,_,u,S2,hR,er,e,ka⟩) (λv s' hs=>?_) λe s' hs=>hs.elim);obtain⟨x,H',J,rv,q⟩:=hs;exact⟨x,H',J.os,J.bare,J.base,J.hok,rv,q⟩
def i7(cells:List (Str×e_)):List (Str×NameKind)->List (Str×e_)->List (Str×e_)
 |[],acc=>acc
 | (y,k)::r,acc=>if k==.free then(match cells.lookup y with
   |some c=>i7 cells r ((y,c)::acc)
   | none=>i7 cells r acc) else i7 cells r acc
theorem CJ{scope:Scope}(h:∀y∈scope.names,y.2=.free->∃c,env.cells.lookup y.1=a_ c):closureFor scope env=pure (i7 env.cells scope.names []):=by
 unfold closureFor;have key:∀(l:List _) (acc:List _),(∀y∈l,y.2=.free->∃c,env.cells.lookup y.1=a_ c) ->
   (forIn l acc λx r=>if (x.2==br)=c_ then(do let a <- cellOf env x.1;pure (fB ((x.1,a)::r))) else pure (fB r):Sem _)=pure (i7 env.cells l acc):=by
  intro l
  induction l with
  |nil=>intro acc _;rfl
  | cons y l ih=>
    intro acc hh;rw[Ai];unfold i7;cases q:y.2==br with
    | true=>
      obtain⟨c,hc⟩:=hh y bX (eq_of_beq q);have e:cellOf env y.1=pure c:=by unfold cellOf;rw[hc]
      simp only[e,hc];exact ih _ λz hz=>hh z (aB _ hz)
    | false=>
      exact ih _ λz hz=>hh z (aB _ hz)
 have e:=key _ [] h;rw[bind_pure];omega
theorem oN{cells:List (Str×e_)}:∀(l:List (Str×NameKind)) (acc:List (Str×e_)) {y:Str}{c:e_},(y,c)∈i7 cells l acc->(y,c)∈acc\/(cells.lookup y=a_ c/\(y,br)∈l)
 |[],acc,y,c,h=>.inl h
 | (z,k)::l,acc,y,c,h=>by
   unfold i7 at h
   split at h
   .split at h
    .rcases oN l _ h with h|h<;>grind
    .exact(oN l _ h).imp id λh=>⟨h.1,aB _ h.2⟩
   .exact(oN l _ h).imp id λh=>⟨h.1,aB _ h.2⟩
theorem oz{cells:List (Str×e_)}:∀(l:List (Str×NameKind)) (acc:List (Str×e_)) {y:Str}{c:e_},(y,c)∈acc->(y,c)∈i7 cells l acc
 |[],acc,y,c,h=>h
 | (z,k)::l,acc,y,c,h=>by
   unfold i7
   split
   .split
    .exact oz l _ (aB _ h)
    .exact oz l _ h
   .exact oz l _ h
theorem oy{cells:List (Str×e_)}:∀(l:List (Str×NameKind)) (acc:List (Str×e_)) {y:Str}{c:e_},(y,br)∈l->cells.lookup y=a_ c->(y,c)∈i7 cells l acc
 |[],acc,y,c,h,_=>by simp at h
 | (z,k)::l,acc,y,c,h,hc=>by
   unfold i7;rcases aG.mp h with e|h
   .cases e
    simp[hc];exact oz l _ bX
   .split
    .split
     .exact oy l _ h hc
     .exact oy l _ h hc
    .exact oy l _ h hc
theorem lookup_mem{α:Type}:∀{l:List (Str×α)}{y:Str}{c:α},(y,c)∈l->∃d,l.lookup y=a_ d
 |[],y,c,h=>by simp at h
 | (z,d)::l,y,c,h=>by
   rw[dy];cases q:y==z with
   |true=>exact⟨d,rfl⟩
   | false=>
     rcases aG.mp h with e|h
     .grind
     .exact lookup_mem h
variable{cells:List (Str×e_)}{l:List (Str×NameKind)}{y:Str}{c:e_}
theorem l9(h:(i7 cells l []).lookup y=a_ c):cells.lookup y=a_ c/\(y,br)∈l:=by
 rcases oN l [] (cw h) with h|h<;>simp_all
theorem FK(h:(y,br)∈l)(hc:cells.lookup y=a_ c):(i7 cells l []).lookup y=a_ c:=by
 obtain⟨d,hd⟩:=lookup_mem (oy l [] h hc);have:=(l9 hd).1
 grind
theorem Cs{pos:Pos}{a b:Int}{c cv:f_}(l:List f_)(h:TriplesOk l)(hc:codeAmong pos (l++[rawInt a,rawInt b,c])=a_ cv):codeAmong pos l=a_ cv\/cv=c:=by
 fun_induction TriplesOk l with
 | case1=>
   simp[rawInt,codeAmong]at hc
   grind
 | case2 x t y u z rest ih=>
   simp only[fq,codeAmong]at hc ⊢
   split at hc
   .rename_i q;rw[if_pos q];exact .inl hc
   .rename_i q;rw[if_neg q];exact ih h hc
 |case3 l h1 h2=>exact h.elim
section
variable {K:KX}{H:Hp}{μ:List e_}{S:Sto}
theorem HR.table{P:e_}{ps:Array f_}{t:Tok}{a b:Int}{q:Str}(h:HR K μ S H)(hP:H P=a_ (.tbl ps))(hc:H c=b_)(Ye:oc.data=.fields ws)(hq:ws[1]?=a_ (.str q t))(un:∀r∈K.tabs,r.1=P->r.2=q):
  bD H (upd (upd H c (.frz oc fz)) P (.tbl (ps ++ #[rawInt a,rawInt b,.ref c])))/\HR K μ S (upd (upd H c (.frz oc fz)) P (.tbl (ps ++ #[rawInt a,rawInt b,.ref c]))):=by
 have stay:∀x o,H x=a_ o->(∀ps,o≠.tbl ps)->upd (upd H c (.frz oc fz)) P (.tbl (ps ++ #[rawInt a,rawInt b,.ref c])) x=a_ o:=λx o e n=>by
  rw[bB (tJ e hP (n ps)),bB (bF e hc)];omega
 have kp:bD H _:=⟨λx vs e=>stay x _ e (λ_ z=>nomatch z),λx o u e=>stay x _ e (λ_ z=>nomatch z)⟩;have fr:∀x o u,H x=a_ _->upd _ P _ x=a_ (.frz o u):=λx o u e=>stay x _ e λ_ z=>by cases z
 refine⟨kp,h.len,h.inj,λm d x q1 q2=>(h.cell m d x q1 q2).mono kp 2#2 (λhd=>?_) λo u e=>fr x o u e,RUs.mono kp 2#2 _ _ h.ext.cap,λr hr=>fr _ _ _ (h.ext.cds r hr),λr hr=>?_⟩
 .obtain⟨o,e,_,_,nb⟩:=(h.cell m d x q1 q2).has hd
  rw[stay x o e nb,e]
 .obtain⟨V8,e,tr,al⟩:=h.ext.tab r hr
  by_cases Yu:r.1=P
  .rw[Yu,hP]at e
   cases e;refine⟨_,by rw[Yu,du],by rw[cx];exact TriplesOk_snoc _ _ _ _ tr,λpos cv Vb=>?_⟩;rw[cx]at Vb;rcases Cs _ tr Vb with z |z
   .obtain⟨d,od,vs,t',e1,e2,e3,e4⟩:=al _ cv z
    exact⟨d,od,vs,t',e1,fr _ _ _ e2,e3,e4⟩
   .exact⟨c,oc,ws,t,z,by rw[bB ((bF hP hc).symm),du],Ye,by rw[un r hr Yu];omega⟩
  .refine⟨_,by rw[bB Yu,bB (bF e hc)];omega,tr,λpos cv Vb=>?_⟩
   obtain⟨d,od,vs,t',e1,e2,e3,e4⟩:=al _ cv Vb;exact⟨d,od,vs,t',e1,fr _ _ _ e2,e3,e4⟩
end
section
variable {X:Cx}{pins:List (e_×Obj)}{σ:St}{H:Hp}{s:g_}
theorem Fi{P:e_}{ps more:Array f_}{ob:Obj}{h':Heap}{tk:Nat}(I:Inv X pins σ H s)(hP:H P=a_ (.tbl ps))(hx:jv P s.heap h')(WZ:0#6<=c)(hc:h'.get? c=a_ oc)(WT:h'.get? P=a_ (tabObj (ps++more))):
  Inv X pins σ (upd (upd H c (.frz oc fz)) P (.tbl (ps++more))) { s with heap:=h'.push ob,toks:=tk }:=by
 have To:=I.hok.fresh WZ;have kp:∀b o,b≠P->s.heap.get? b=a_ o->(h'.push ob).get? b=a_ o:=λb o n e=>af _ (hx b o n e);have nP:∀b,H b=b_->b≠P:=λb n z=>by grind
 have stay:∀x o,H x=a_ o->(∀ps,o≠.tbl ps)->upd (upd H c (.frz oc fz)) P (.tbl (ps++more)) x=a_ o:=λx o e n=>by
  rw[bB (tJ e hP (n ps)),bB (bF e To)];omega
 refine I.step (ch:= []) (λ_ z=>nomatch z) (λb o _ _ _ e n=>kp b o (nP b n) e) (λb o _ _ _ e n=>⟨_,kp b o (nP b n) e⟩)
  (λb o _ e n=>by rw[bB (nP b n),bB (aJ (ai (az e) WZ))];omega) (λb o _ e=>?_) (λb xs e=>stay b _ e λ_ z=>by cases z) (λb o u e=>stay b _ e λ_ z=>by cases z)
  (λb qs e=>?_) (λm hm=>?_) (λb u e=>?_) I.bare
 .by_cases hb:b=P
  .exact⟨_,by rw[hb];exact af _ WT⟩
  .exact⟨o,kp b o hb e⟩
 .by_cases hb:b=P
  .rw[hb,hP]at e
   cases e;exact⟨_,by rw[hb,du]⟩
  .exact⟨#[],by rw[bB hb,bB (bF e To),e];simp⟩
 .exact(hm.extBut hx (nP _ I.free)).push _
 .by_cases hb:b=P
  .rw[hb,du]at e
   cases e;rw[hb];exact af _ WT
  .rw[bB hb]at e
   by_cases hbc:b=c
   .rw[hbc,du]at e
    cases e;rw[hbc];exact⟨af _ hc,trivial,⟨_,af _ hc⟩,λ_ _ _ _=>trivial⟩
   .rw[bB hbc]at e
    refine(I.hok b u e).stay (λd v hd q=>kp d v ?_ q) (λd q=>stay d _ q λ_ z=>by cases z) λd xs q=>stay d _ q λ_ z=>by cases z
    grind
def baseOf(h:Heap)(H:Hp)(fr:List e_):Heap:=PySem.W.hideAll (AN h H) fr
variable{h:Heap}{fr:List e_}{b:e_}{o:Obj}
theorem kz{H:Hp}(e:h.get? b=a_ o)(n:H b=b_)(hf:b∉fr):(baseOf h H fr).get? b=a_ o:=GC _ (rf e n) hf
theorem Ge{H:Hp}(e:(baseOf h H fr).get? b=a_ o):h.get? b=a_ o/\H b=b_:=DI (JM fr e)
theorem Bj(I:Inv X pins σ H s):∀b o,X.base.get? b=a_ o->(baseOf s.heap H (frs X.stack)).get? b=a_ o:=λb o e=>
 kz (I.bs b o e).1 (I.bs b o e).2 λz=>by
  have:=(I.stack.mem z).1
  grind
end
def iW(mg:Str->Option f_)(base:Heap):Prop := ∃ bm ob,mg "__builtins__"=a_ (.ref bm)/\bm≠builtinsNs/\base.get? bm=a_ ob/\ob.cls=.type "module"/\ob.dict=a_ builtinsNs/\ob.data=.plain
theorem iW.keeps{b b':Heap}(h:iW mg b)(k:∀a o,b.get? a=a_ o->b'.get? a=a_ o):iW mg b':=
 let ⟨bm,ob,e1,e2,e3,r⟩:=h;⟨bm,ob,e1,e2,k _ _ e3,r⟩
structure Mkr(M:Mo)(c P:e_)(q:Str):Prop where
 hd:∀h:Heap,M.K.K.In h->CodeHd h c P
 bl:iW M.mg M.base
 gP:mainGlobals≠P
 mem:(P,q)∈M.K.tabs
 un:∀r∈M.K.tabs,r.1=P->r.2=q
def KX.to(K:KX)(caps:List U)(capv:List V)(cds:List (e_×Obj)):KX:=⟨K.K,caps,capv,cds,K.tabs⟩
def Mo.to(M:Mo)(caps:List U)(capv:List V)(cds:List (e_×Obj))(base:Heap):Mo:=⟨M.P,M.w,M.K.to caps capv cds,M.mg,base,b_⟩
structure FnC(M:Mo)(x:Str)(k:Nat)(ps:List Str)(F:e_->MF->MF):Prop where
 ex:∃(f:e_) (fd:FuncData),M.mg x=a_ (.ref f)/\dZ M.K (.ref f)=c_/\Binds M.K fd ps [] /\
  ∀(caps:List U) (capv:List V) (cds:List (e_×Obj)) (base:Heap) (g:e_) (j:Nat) (lps:List Str) (φ:MF),iW M.mg base->k<=j->Lam (M.to caps capv cds base) g j lps φ ->
   lJ M.P M.w M.K M.mg base CX0 (j+1) f fd ps (spM (M.K.to caps capv cds) (F g φ))
def uK:List (List Str) := [["x"],["least"],["walk"],["i","j"],["one","other"],["group","steps"]]
def Ef(p:Arguments):Bool:=p.posonlyargs.isEmpty&&(p.vararg.isNone&&(p.kwonlyargs.isEmpty&&(p.kw_defaults.isEmpty&&(p.kwarg.isNone&&p.defaults.isEmpty))))
def Be(p:Arguments):Option (List Str):=if Ef p&&uK.contains (p.args.map (·.arg)) then a_ (p.args.map (·.arg)) else b_
theorem As{p:Arguments}(h:Be p=a_ ps):∃as,p=⟨[],as,b_,[],[],b_,[]⟩/\as.map (·.arg)=ps/\ps∈uK:=by
 unfold Be at h
 split at h
 .rename_i q
  cases h;rw[aE]at q
  exact⟨_,(by
    have h:=q.1;obtain⟨a,b,c,d,e,f,g⟩:=p;unfold Ef at h
    simp_all),rfl,List.contains_iff_mem.mp q.2⟩
 .cases h
variable{as:List Arg}
theorem QA(e:as.map (·.arg)=[x]):∃an ps,as=[⟨x,an,ps⟩]:=by
 obtain⟨a,l,rfl,h1,h2⟩:=J5.mp e;rw[List.map_eq_nil_iff.mp h2];obtain⟨n,an,ps⟩:=a
 grind
theorem Sj(e:as.map (·.arg)=[x,y]):∃an ps UR ps2,as=[⟨x,an,ps⟩,⟨y,UR,ps2⟩]:=by
 obtain⟨a,l,rfl,h1,h2⟩:=J5.mp e;obtain⟨UR,ps2,rfl⟩:=QA h2;obtain⟨n,an,ps⟩:=a
 grind
theorem Q8{α:Type}{us:List α}(h:1#1=1):∃a,us=[a]:=List.length_eq_one_iff.mp h
theorem Ii(e:as.map (·.arg)=ps)(hk:ps∈uK){fd:FuncData}(hp:fd.params=⟨[],as,b_,[],[],b_,[]⟩)(hd:fd.defaults=.none)(hl:1#1=ps.length):bindArgs fd ⟨us,[]⟩=pure (ps.zip us):=by
 obtain⟨c1,c2,pr,c4,c5,df,c7,c8,c9,SJ,c11,UE,c13⟩:=fd;cases hp;cases hd;simp[uK,or_false]at hk;rcases hk with rfl|rfl|rfl|rfl|rfl|rfl
 all_goals first
  |(obtain⟨an,q,rfl⟩:=QA e;obtain⟨a,rfl⟩:=Q8 hl;rfl)
  | (obtain⟨an,q,UR,q2,rfl⟩:=Sj e;obtain⟨a,b,rfl⟩:=(show ∃a b,us = [a,b] by
    cases us with
    |nil=>cases hl
    | cons a us=>
      obtain⟨b,rfl⟩:=Q8 (Nat.succ.inj hl)
      exact⟨a,b,rfl⟩);rfl)
section
variable {M:Mo}{X:Cx}{k:Nat}{N:List Str}{ns:List (Str×NameKind)}{pins:List (e_×Obj)}{σ:St}{H:Hp}{s:g_}
theorem A7(S:Sc M X k N ns)(I:Inv X pins σ H s)(hy:ns.lookup y=a_ .cell)(hc:X.env.cells.lookup y=a_ c):c∉frs X.stack:=λz=>by
 rcases aG.mp (I.stkSub c z) with e|hb
 .exact I.cne y c hc e
 .obtain⟨_,o,ho,_⟩:=I.ok.funs.mem hb
  exact absurd (ai (az ho) (I.ok.cab y c ((S.cel y hy).2) hc)) (bu _)
theorem Eo(S:Sc M X k N ns)(I:Inv X pins σ H s){μ:List e_}{G:Rho}(er:ER H μ G σ){names:List (Str×NameKind)}:∀{fs:List Str}{is:List Nat}{cs:List U},(∀y∈fs,ns.lookup y=a_ .cell/\(y,br)∈names) ->
  dG (λy=>N.findIdx? (· == y)) fs=a_ is->sD is G=a_ cs->∃cv,RUs H μ cs cv/\pB (baseOf s.heap H (frs X.stack)) (i7 X.env.cells names []) fs cv
 |[],is,cs,_,h1,h2=>by cases h1;cases h2;exact⟨[],.nil,trivial⟩
 | y::fs,is,cs,hf,h1,h2=>by
   unfold dG at h1;cases e1:N.findIdx? _ with
   |none=>rw[e1]at h1;cases h1
   | some i=>
     rw[e1]at h1;cases e2:dG _ fs with
     |none=>rw[e2]at h1;cases h1
     | some is'=>
       rw[e2]at h1;cases h1;unfold sD dG at h2;cases e3:(G[i]?).bind id with
       |none=>simp_all
       | some u=>
         rw[e3]at h2;cases e4:dG _ _ with
         |none=>rw[e4]at h2;cases h2
         | some cs'=>
           rw[e4]at h2;cases h2;obtain⟨cv,r1,r2⟩:=Eo S I er (λz hz=>hf z (aB _ hz)) e2 (e4);have Z3:G[i]?=a_ (a_ u):=by
            grind
           obtain⟨v,X3,rv⟩:=er.get i u Z3;obtain⟨hi,hy,_⟩:=eC.mp e1;obtain⟨m,hn,hl⟩:=I.loc;have YQ:=(S.cel y (hf y bX).1).1;obtain⟨w,Zc,l⟩:=hl i y v (by rw[S.hN,aC hi,eq_of_beq hy]) X3 (.inr (.inl YQ));rcases l with⟨hk,_⟩|⟨_,c,hc,o,ho,hd⟩
           .have YM:X.env.scope.names.lookup y=a_ _:=hk<;>grind
           .exact⟨_,.cons rv r1,⟨c,o,w,FK (hf y bX).2 hc,(kz ho (I.freeC y c hc) (A7 S I (hf y bX).1 hc)),hd,Zc⟩,r2⟩
variable{F:e_->MF->MF}{is:List Nat}
theorem Kd{f0:e_}{U3:FuncData}{W3 fs:List Str}{k' j:Nat}{ml:ME}{pm Yg:f_}{c':e_}{t:Tok}
  {μ:List e_}{S1 S':Sto}{G:Rho}{x u:U}{v1:V}{u1:f_}{Q:VK}
  (S:Sc M X k N ns) (hB:iW M.mg M.base) (hj:k'<=j+1) (hk:j+2<=k) (Xf:Binds M.K U3 W3 [])
  (FF:∀(caps:List U) (capv:List V) (cds:List (e_×Obj)) (base:Heap) (g:e_) (j:Nat) (lps:List Str) (φ:MF),iW M.mg base->k'<=j->Lam (M.to caps capv cds base) g j lps φ->lJ M.P M.w M.K M.mg base CX0 (j+1) f0 U3 W3 (spM (M.K.to caps capv cds) (F g φ)))
  (Vu:Be params=a_ ps) (LS:nO ps fs scope) (XX:∀y∈fs,ns.lookup y=a_ .cell/\(y,br)∈scope.names) (UZ:dG (λy=>N.findIdx? (· == y)) fs=a_ is)
  (hb:∀(caps:List U) (capv:List V) (cds:List (e_×Obj)) (base:Heap),iW M.mg base->∀(X':Cx),Sc (M.to caps capv cds base) X' j (ps++fs) scope.names->PE X' body (tM (M.K.to caps capv cds) ml))
  (I:Inv X pins σ H s) (hr:HR M.K μ S1 H) (er:ER H μ G σ) (XW:sD is G=a_ cs) (spec:F f (zK ps.length ml cs) [x,.obj f] S1=a_ (u,S')) (rx:RU H μ x v1) (ru:RelV v1 u1) (aft:Aft M.K μ H u S' Q)
  (hf:s.heap.get? f=a_ (kla_obj "<lambda>" qual params body scope (i7 X.env.cells scope.names []) pm c' Yg)) (Xr:H f=b_) (Vm:f∉frs X.stack) (hc:H c'=a_ (.frz oc fz)) (Ye:oc.data=.fields ws) (hq:ws[1]?=a_ (.str qual t)) :
  aD 1#3 X.A (call (.ref f0) [u1,.ref f]) (EP X pins σ Q) X.xe s:=by
 obtain⟨cv,rc,C⟩:=Eo S I er XX UZ XW;have Tt:iW M.mg (baseOf s.heap H (frs X.stack)):=hB.keeps λa o e=>Bj I a o (by rw[S.hb];exact e);have lam:Lam (M.to cs cv (M.K.cds++[(c',oc)]) (baseOf s.heap H (frs X.stack))) f (j+1) ps (zK ps.length ml cs):=by
  refine⟨_,.inl ⟨_,_,_,kz hf Xr Vm⟩,(by
    obtain⟨as,rfl,e,hk⟩:=As Vu
    exact .all λus hl=>Ii e hk rfl rfl hl),?_⟩
  refine NJ (M:=M.to cs cv (M.K.cds++[(c',oc)]) (baseOf s.heap H (frs X.stack))) rfl (λ_ _ _ h=>h.ext.cap) (kz hf Xr Vm) (a8 _ bX) Ye hq LS C (λy c e=>?_) (λy z c e1 e2=>I.ok.inj y z c (l9 e1).1 (l9 e2).1) (hb _ _ _ _ Tt);obtain⟨e1,e2⟩:=l9 e;obtain⟨v,o,ho,hd⟩:=I.cell y c e1;exact⟨o,v,kz ho (I.freeC y c e1) (A7 S I (XX y (LS.fre _ e2 rfl)).1 e1),hd⟩
 have FO:=FF _ _ _ _ f (j+1) ps _ Tt hj lam;rw[<-S.hP,<-S.hw,<-S.hK,<-S.hm]at FO
 have Yu:HR (M.K.to cs cv (M.K.cds++[(c',oc)])) μ S1 H:=⟨hr.len,hr.inj,hr.cell,rc,λq hq=>by
  rcases aQ.mp hq with z|z
  .exact hr.ext.cds q z
  .have e:q=(c',oc):=by simpa using z
   rw[e];exact hc,hr.ext.tab⟩
 have YC:spM (M.K.to cs cv (M.K.cds++[(c',oc)])) (F f (zK ps.length ml cs)) [v1,.ref f] H Q E0:=by
  refine⟨μ,S1,[x,.obj f],u,S',Yu,.cons rx (.cons (by simp only[RU]) .nil),spec,λY6 v H' p' k' ZS ru2=>?_⟩;refine aft Y6 v H' p' k' ⟨ZS.len,ZS.inj,ZS.cell,RUs.mono k' p' _ _ hr.ext.cap,λq hq=>ZS.ext.cds q (bf _ hq),ZS.ext.tab⟩ ru2
 rw[<-S.hK]at Xf
 refine wpAny_call (jb (FO.run X.A X.stack s H ⟨[u1,.ref f],[]⟩ [u1,.ref f] [v1,.ref f] Q E0 (S.room.mono hk) ((by
   have k:=Bj I;obtain⟨m1,m2,⟨mb,m3,m4⟩,m5⟩:=I.ok.mod;refine⟨I.ok.frames,⟨m1.keeps k,m2.keeps k,⟨mb,m3.keeps k,m4⟩,m5.keeps k⟩,λb o e=>Ge e,by rw[baseOf,Gw,xX]<;>simp_all,?_,I.stkFree,I.hok,I.bare⟩;have all:∀l,(∀b∈frs l,b∈frs X.stack)->s.heap.FunFrames X.base l->s.heap.FunFrames (baseOf s.heap H (frs X.stack)) l:=by
    intro l
    induction l with
    |nil=>intro _ _;trivial
    | cons env r ih=>
      intro hs hl;obtain⟨hk,⟨L,o,hf,hn,ho,hd⟩,hr⟩:=hl;exact⟨hk,⟨L,o,hf,Gx _ (hs L (by unfold frs;simp_all)),ho,hd⟩,ih (λb hb=>hs b (by unfold frs;rw[tX,hf];exact aB _ hb)) hr⟩
   exact all _ (λ_ h=>h) I.stack)) (Xf s _ I.kIn (by simpa using (FO.len _ _ _ _ YC))) (.cons ru (.cons rfl .nil)) YC) λr s' hq =>?_)
 cases r with
 |error e=>exact hq.elim
 | ok fl=>
   cases fl with
   |ret u=>exact I.after hq
   |next=>exact ej hq
   |brk=>exact ej hq
   |cont=>exact ej hq
theorem Lj{W3 fs:List Str}{k' j:Nat}{ml ma:ME}{g q:Str}{P:e_}{a:Expr}{p1 lp pos:Pos}
  (S:Sc M X k N ns) (FC:FnC M g k' W3 F) (hj:k'<=j+1) (hk:j+2<=k) (U4:M.mkr=a_ (c,q)) (MK:Mkr M c P (q++"<lambda>"))
  (hg:hV ns g=c_) (hgd:(g==("__debug__":Str))=d_) (ha:PE X a (tM M.K ma)) (hs:starEach [a,.Lambda params body scope lp] X.env=(d_,eval a X.env)::starEach [.Lambda params body scope lp] X.env)
  (Vu:Be params=a_ ps) (LS:nO ps fs scope) (XX:∀y∈fs,ns.lookup y=a_ .cell/\(y,br)∈scope.names) (UZ:dG (λy=>N.findIdx? (· == y)) fs=a_ is)
  (hb:∀(caps:List U) (capv:List V) (cds:List (e_×Obj)) (base:Heap),iW M.mg base->∀(X':Cx),Sc (M.to caps capv cds base) X' j (ps++fs) scope.names->PE X' body (tM (M.K.to caps capv cds) ml)):
  PE X (.Call (.Name g p1) [a,.Lambda params body scope lp] [] pos) (tM M.K (mm F ps.length is ml ma)):=by
 intro pins s σ H Q I h;obtain⟨μ,S0,G,u,S',hr,er,qm,aft⟩:=h;obtain⟨x,S1,e1,qm⟩:=be qm;cases XW:sD is G with
 |none=>rw[XW]at qm;cases qm
 |some cs=>
 rw[XW]at qm;simp only[aO]at qm
 split at qm
 rotate_left
 .cases qm
 rename_i hx
 have spec:=λf=>(hx.choose_spec f).trans qm;obtain⟨f0,U3,hm,Yt,Xf,FF⟩:=FC.ex;rw[<-S.hK]at Yt;refine eZ (uu I (S.gl hg) (by rw[S.hm];exact hm) ?_ hgd);refine tm I.ok.mod.kin Yt ?_ hs rfl;rw[hs];refine lQ (thn (ha _ s σ H (λv H1=>∃Y0,Pre μ _/\bD H H1/\HR _ _ S1 H1/\RU H1 _ x v) I ⟨μ,S0,G,x,S1,hr,er,e1,λY6 v H' p k Yu ru=>⟨Y6,p,k,Yu,ru⟩⟩) λu1 s1 ⟨v1,H1,I1,r1,Y0,L2,SD,ZZ,rx1⟩=>?_);obtain⟨Xg,Xn⟩:=S.cod c q U4;obtain⟨ps0,hP,tr,al⟩:=ZZ.ext.tab _ MK.mem;have UY:=I1.hok P _ hP;have C:=MK.hd _ (by have:=I1.kIn;rwa[S.hK]at this);have UT:=I1.mod.glob.keeps I1.bk;obtain⟨bm,ob,b1,b2,b5,b6,b7,b8⟩:=MK.bl;have Va:=I1.bk bm ob (by rw[S.hb];exact b5);have b3:bm≠mainGlobals:=λz=>by
  obtain⟨o,es,ep,e,hd,_⟩:=UT;rw[<-z,Va]at e;cases e;rw[b8]at hd;cases hd
 have b4:bm≠P:=λz=>by
  rw[z,UY]at Va;cases Va;cases b8
 have BA:s1.heap.BuiltinsAt X.mg P:=⟨bm,ob,by rw[S.hm];exact b1,b2,b3,b4,Va,b6,b7,b8⟩;have VQ:=CJ λy hy hyf=>I.ok.has _ (.inl (S.cel _ (XX _ (LS.fre y hy hyf)).1).1)
 refine lQ (PySem.W.kla_eval ((by
   obtain⟨as,rfl,_⟩:=As Vu
   rfl)) ?_)
 have fin:∀(H2:Hp) (s2:g_) (c' f:e_) (Yg:f_) (oc:Obj) (ws:Array _) (t:Tok),Inv X pins σ H2 s2->bD H1 H2->HR M.K Y0 S1 H2 ->
   s2.heap.get? f=a_ (kla_obj "<lambda>" (X.env.qual++"<lambda>") params body scope (i7 X.env.cells scope.names []) ((X.mg "__name__").getD .none) c' Yg)->H2 f=b_->s1.heap.objs.size<=f->H2 c'=a_ (.frz oc fz)->oc.data=.fields ws->ws[1]?=a_ (.str (q++"<lambda>") t) ->
   aD 1#3 X.A (spliced []) (λvs ZX=>X.K.In ZX.heap/\aD 1#3 X.A (call (.ref f0) ([]++(u1::bZ f::vs))) (EP X pins σ Q) X.xe ZX) X.xe s2:=by
  intro H2 s2 c' f Yg oc ws t I2 Wl ZS hf Xr V4 hc Ye hq;have Vm:f∉frs _:=λz=>by
   obtain⟨_,o,ho,_⟩:=I1.stack.mem z;exact absurd (ai (az ho) V4) (bu _)
  rw[<-Xn]at hq;exact wM ⟨I2.kIn,Kd S MK.bl hj hk Xf FF Vu LS XX UZ hb I2 ZS (er.mono (SD.trans Wl) L2) XW (spec f) (RU.mono Wl 2#2 _ _ rx1) r1 (aft.mono L2 (SD.trans Wl)) hf Xr Vm hc Ye hq⟩
 cases ham:codeAmong lp _ with
 | none=>
   refine PySem.W.kla_makeFunction VQ I1.ok.glob UT Xg C UY tr ham MK.gP BA λc' Yg h' tk hx WZ ZR Uw WT=>?_;obtain⟨c2,oc,ws,t,e,Ye,hd,VO⟩:=Uw;cases e;rw[Xn]at VO;obtain⟨Wl,ZS⟩:=ZZ.table hP (I1.hok.fresh WZ) hd VO MK.un;have ZF:=aK WZ (aI ZR);refine fin _ _ c' _ _ oc ws t (Fi (ob:=kla_obj "<lambda>" (X.env.qual++"<lambda>") params body scope (i7 X.env.cells scope.names []) ((X.mg "__name__").getD .none) c' Yg) (tk:=tk) I1 hP hx WZ Ye WT) Wl ZS (av _ rfl) ?_ ZF ?_ hd VO
   .rw[bB (dQ (az WT)),bB (dQ ZR)]
    exact I1.hok.fresh ZF
   .rw[bB (bF hP (I1.hok.fresh WZ)).symm,du]
 | some cv=>
   obtain⟨c',oc,ws,t,rfl,WI,hd,VO⟩:=al lp cv ham;exact PySem.W.kla_makeFunctionHit VQ I1.ok.glob UT Xg C UY tr ham BA fun Yg h' tk hk ZF=>(fin H1 _ c' _ _ oc ws t (I1.kept (t':=tk) (h':=h'.push (kla_obj "<lambda>" (X.env.qual++"<lambda>") params body scope (i7 X.env.cells scope.names []) ((X.mg "__name__").getD .none) c' Yg)) (fun b o e=>af _ (hk b o e))) (bD.refl _) ZZ (av _ rfl) (I1.hok.fresh ZF) ZF WI hd VO)
end
end _G
namespace _G
open PySem PySem.Spec _L
open PyProof.Rows hiding St
def Trc(e T:e_)(cls:f_)(h:Heap):Prop:= ∃(oe:Obj) (vs:Array f_) (a0:f_) (oT:Obj) (ts:Array f_),h.get? e=a_ oe/\(oe.cls=cls/\vs[0]?=a_ a0)/\oe.data=.fields vs/\vs[1]?=a_ (.ref T)/\T≠e/\h.get? T=a_ oT/\oT.data=.fields ts/\ts[3]?=a_ .none
def CX1(P:Program)(w:World):CXT:=λouter H s E ev s'=>∃(e T:e_) (cls:f_) (H':Hp),ev=.ref e/\s'.os=s.os/\AllBare s'.gens/\Un (frs outer) [] H H' s.heap s'.heap/\HOk P w H' s'.heap/\Trc e T cls s'.heap/\s.heap.get? e=b_/\s.heap.get? T=b_/\H' e=b_/\H' T=b_/\E cls b_ H'
structure Left(fs:List e_)(e T:e_)(h h':Heap):Prop where
 keep:∀b o,b∉fs->b≠e->b≠T->h.get? b=a_ o->h'.get? b=a_ o
 slot:∀b o,b∈fs->h.get? b=a_ o->∃sl,h'.get? b=a_ { o with slots:=sl }
theorem Left.hok{P:Program}{w:World}{fs:List e_}{e T:e_}{H:Hp}{h h':Heap}(l:Left fs e T h h')(x:HOk P w H h)(hf:∀b∈fs,H b=b_)(he:H e=b_)(hT:H T=b_):HOk P w H h':=λa o q=>by
 refine(x a o q).stay (λb u hb e1=>?_) (λ_ z=>z) λ_ _ z=>z;have key:∃o,H b=a_ o:=by
  grind
 obtain⟨ob,key⟩:=key;exact l.keep b u (λz=>by grind) (λz=>by grind) (λz=>by grind) e1
section
variable {X:Cx}{pins:List (e_×Obj)}{σ:St}{H H':Hp}{s s':g_}
end
end _G
namespace _G
open PySem PySem.Spec _L
open PySem.W (envX kla_fn kla_obj CodeHd tabObj)
open PyProof.Rows hiding St
abbrev RF:=List U->Sto->Option (Nat×Sto)
abbrev VF:=MF->RF->Sto->Res U
def Rw(vf:VF)(g:e_)(φ:MF)(ψ:RF):MF:=λus S=>match us with
 |[.obj a]=>if a=g then vf φ ψ S else b_
 |_=>b_
def Sl(cl:Nat->e_)(K:KX)(μ:List e_)(H:Hp)(C:Nat)(S':Sto)(E:XK):Prop:= ∀Y6 H',Pre μ Y6->bD H H'->HR K Y6 S' H'->E (.ref (cl C)) b_ H'
def spX(cl:Nat->e_)(K:KX)(r:RF):Sp:=λvs H _ E=>∃μ S us C S',HR K μ S H/\RUs H μ us vs/\r us S=a_ (C,S')/\Sl cl K μ H C S' E
structure FnX(M:Mo)(cl:Nat->e_)(x:Str)(k:Nat)(ps:List Str)(r:RF):Prop where
 ex:∃(f:e_) (fd:FuncData),M.mg x=a_ (.ref f)/\dZ M.K (.ref f)=c_/\Binds M.K fd ps []/\lJ M.P M.w M.K M.mg M.base (CX1 M.P M.w) k f fd ps (spX cl M.K r)
structure Sh(M:Mo)(cl:Nat->e_)(f:e_)(k:Nat)(ps:List Str)(r:RF):Prop where
 ex:∃fd:FuncData,((∃(oc:f_) (od:Option e_) (sl:Array (Option f_)),M.base.get? f=a_ ⟨oc,od,.func fd,sl⟩)\/dZ M.K (.ref f)=c_)/\Binds M.K fd ps []/\lJ M.P M.w M.K M.mg M.base (CX1 M.P M.w) k f fd ps (spX cl M.K r)
structure FnR(M:Mo)(cl:Nat->e_)(x:Str)(k d:Nat)(vf:VF):Prop where
 ex :∃ (f:e_) (fd:FuncData),M.mg x=a_ (.ref f)/\dZ M.K (.ref f)=c_/\Binds M.K fd ["call"] [] /\
  ∀(caps:List U) (capv:List V) (cds:List (e_×Obj)) (base:Heap) (g:e_) (j:Nat) (φ:MF) (ψ:RF),iW M.mg base->k<=j->Lam (M.to caps capv cds base) g j [] φ->Sh (M.to caps capv cds base) cl g j [] ψ ->
   lJ M.P M.w M.K M.mg base CX0 (j+d) f fd ["call"] (spM (M.K.to caps capv cds) (Rw vf g φ ψ))
section
variable {M:Mo}{X:Cx}{k:Nat}{N:List Str}{ns:List (Str×NameKind)}{pins:List (e_×Obj)}{σ:St}{H:Hp}{s:g_}{cl:Nat->e_}{vf:VF}{d:Nat}
end
end _G
namespace _G
open PySem PySem.Spec _L
open PySem.W (envX fnX fnMade CodeHd tabObj)
open PyProof.Rows hiding St
def sml(i:Int):Prop:= -(2^64)<i/\i<2^64
instance(i:Int):Decidable (sml i):=ck _
section
variable {M:Mo}{X:Cx}{k:Nat}{N:List Str}{ns:List (Str×NameKind)}
end
section
variable {M:Mo}{X:Cx}{k:Nat}{N:List Str}{ns:List (Str×NameKind)}{pins:List (e_×Obj)}{σ:St}{H:Hp}{s:g_}
end
end _G
namespace _G
open PySem PySem.Spec _L
open PyProof.Rows hiding St
abbrev NS:=List (Str×NameKind)
structure Zt where
 R:List (Str×RF)
 F:List (Str×VF)
 cl:Nat->e_
 nm:Str
def z0:Zt:=⟨[],[],fun _=>0,"<lambda>"⟩
def Zt.to(z:Zt)(nm:Str):Zt:=⟨z.R,z.F,z.cl,nm⟩
structure Tb where
 D:List (Str×MF)
 C:List (Str×U)
 L:List (Str×e_×MF)
 H:List (Str×(e_->MF->MF))
 mkr:Bool
 Z:Zt
def Tb.bare(T:Tb):Tb:=⟨T.D,T.C,[],T.H,d_,T.Z⟩
def frees(sc:Scope):List Str:=(sc.names.filter λy=>y.2==.free).map (·.1)
def CW(ps:List Str)(sc:Scope)(ns:NS):Bool:=
 sc.kind==.function && !sc.isCoroutine && !sc.isGenerator&&decide ((ps++frees sc).Nodup)&&ps.all (λp=>sc.names.lookup p==a_ .local||sc.names.lookup p==a_ .cell)&&sc.names.all (λy=>!(y.2==.cell)||sc.names.lookup y.1==a_ .cell)&&(frees sc).all λy=>sc.names.lookup y==a_ .free&&ns.lookup y==a_ .cell
def notStar:Expr->Bool
 |.Starred _ _=>d_
 |_=>c_
def l5:Expr->Bool
 |.ListComp _ _ _ _=>d_
 |.SetComp _ _ _ _=>d_
 |.DictComp _ _ _ _ _=>d_
 |_=>c_
def lq:Expr->Bool
 |.Set _ _ _=>d_
 |_=>c_
def qR:Expr->Bool
 |.Slice _ _ _ _=>d_
 |_=>c_
def notTuple:Expr->Bool
 |.Tuple _ _ _=>d_
 |_=>c_
def EZ:List Expr->Bool
 |[.Subscript _ _ _,.Subscript _ _ _]=>c_
 |_=>d_
def baseOk:Expr->Bool
 |.Call (.Name _ _) [] [] _=>d_
 |_=>c_
def plainT:Expr->Bool
 |.Name _ _=>c_
 |.Call _ _ _ _=>c_
 |.Subscript _ _ _=>c_
 |.Constant _ _ _=>c_
 |_=>d_
def dummy(N:List Str):Str:=⟨#[N.length+1]⟩
def F3(N:List Str)(x:Str):List Str:=(N.map λy=>if y==x then dummy N else y)++[x]
def g8(x:Str):Bool := !(x==("__debug__":Str)) && !(x==("__classdict__":Str))
def slot(N:List Str)(x:Str):Option Nat:=N.findIdx? (· == x)
def MJ(g:Str):Option MF:=
 if g==("len":Str) then a_ cp else if g==("tuple":Str) then a_ bQ else if g==("list":Str) then a_ xZ
 else if g==("max":Str) then a_ AU else if g==("min":Str) then a_ zU else if g==("all":Str) then a_ xA
 else if g==("sorted":Str) then a_ fk    else b_
def ly:List Str := ["len","tuple","list","max","min","range","isinstance","bool","int","str","dict","all","any","sorted","reversed","zip","enumerate","set","sum","repr"]
def IP(t:Str):Option String:=
 if t==("tuple":Str) then a_ "tuple" else if t==("list":Str) then a_ "list" else if t==("int":Str) then a_ "int"
 else if t==("bool":Str) then a_ "bool" else if t==("str":Str) then a_ "str" else if t==("dict":Str) then a_ "dict" else b_
def Q3:Operator->Option F2
 |.Add=>a_ eQ
 |.Sub=>a_ xw
 |.Mult=>a_ iB
 |.FloorDiv=>a_ oDiv
 |.Mod=>a_ oMod
 |.Pow=>a_ FP
 |_=>b_
def CT:CmpOp->Option F2
 |.Lt=>a_ oLt
 |.LtE=>a_ oLe
 |.Gt=>a_ oGt
 |.GtE=>a_ oGe
 |.Eq=>a_ oEq
 |.NotEq=>a_ oNe
 |.In=>a_ oIn
 |.NotIn=>a_ md
 |.Is=>a_ oIs
 |.IsNot=>a_ lg
def Dx(i:Nat)(e:ME):MS:=λG S=>match G[i]? with
 | some (a_ (.int x))=>bnd (e G S) λy S1=>match y with
   |.int y=>a_ (.nx,G.set i (a_ (.int (x+y))),S1)
   |_=>b_
 |_=>b_
def sNo:MS:=λ_ _=>b_
def QO:MS:=λG S=>a_ (.bk,G,S)
def QK:MS:=λG S=>a_ (.ct,G,S)
def Iv(name:Str)(ma:ME)(ZP:MA):Option ME:=
 if name==("append":Str) then a_ (mML de ma ZP) else if name==("pop":Str) then a_ (mML nq ma ZP)
 else if name==("index":Str) then a_ (mMT fj ma ZP)
 else if name==("extend":Str) then a_ (mML j4 ma ZP) else b_
set_option genInjectivity false in
structure Rc where
 e:Tb->List Str->NS->Expr->Option ME
 c:Tb->List Str->NS->Str->List Expr->Option ME
 v:Tb->List Str->NS->Str->List Expr->Option ME
 o:Tb->List Str->NS->Option Expr->Option (Option ME)
 t:Tb->List Str->NS->Expr->Option MT
 l:Tb->List Str->NS->Bool->List Expr->Option MT
 f:Tb->List Str->NS->List Expr->Option MT
 a:Tb->List Str->NS->List Expr->Option MA
 i:Tb->List Str->NS->Expr->Option MI
 g:Tb->List Str->NS->Expr->Option MG
 gs:Tb->List Str->NS->List Expr->Option MGs
 s:Tb->List Str->NS->Stmt->Option MS
 b:Tb->List Str->NS->List Stmt->Option MS
section
variable (R:Rc) (T:Tb) (N:List Str) (ns:NS)
def RE:Const->Option ME
 |.int i=>a_ (mC (.int i))
 |.bool b=>a_ (mC (.bl b))
 |.none=>a_ (mC .non)
 |.str x=>a_ (mC (.str x))
 |_=>b_
def eUn(a:Expr):UnaryOp->Option ME
 |.USub=>(R.e T N ns a).map (m1 mn)
 |.Not=>(R.e T N ns a).map (m1 xi)
 |_=>b_
def eBo(op:BoolOp)(p:Pos):List Expr->Option ME
 |[]=>b_
 |[a]=>R.e T N ns a
 | a::b::r=>(R.e T N ns a).bind λma=>match op with
   |.And=>(R.e T N ns (.BoolOp .And (b::r) p)).map (j7 ma)
   |.Or=>(R.e T N ns (.BoolOp .Or (b::r) p)).map (mOr ma)
def eCm(a:Expr):List CmpOp->List Expr->Option ME
 |[op],[b]=>if lq b then(R.e T N ns a).bind λma=>(R.e T N ns b).bind λmb=>(CT op).map λf=>m2 f ma mb else b_
 |[op,Wx],[b,c]=>if lq b&&lq c then(R.e T N ns a).bind λma=>(R.e T N ns b).bind λmb=>(R.e T N ns c).bind λmc=>(CT op).bind λf=>(CT Wx).map λg=>mCh f g ma mb mc else b_
 |_,_=>b_
def eSl(a:Expr)(lo hi:Option Expr):Option Expr->Option ME
 |none=>(R.e T N ns a).bind λma=>(R.o T N ns lo).bind λml=>(R.o T N ns hi).map (mSl ma ml)
 |some _=>b_
def eSb(a:Expr):Expr->Option ME
 |.Slice lo hi st _=>eSl R T N ns a lo hi st
 |b=>if qR b then(R.e T N ns a).bind λma=>(R.e T N ns b).map (m2 oIx ma) else b_
def eDi:List (Option Expr)->List Expr->Option ME
 |[],[]=>a_ qH
 |[a_ a],[b]=>(R.e T N ns a).bind λma=>(R.e T N ns b).map (yE ma)
 |_,_=>b_
def eLn(elt it:Expr)(ifs:List Expr)(scope:Scope)(x:Str):Option ME:=
 (R.i T N ns it).bind λmi=>(R.f T (F3 N x) scope.names ifs).bind λmt=>(R.e T (F3 N x) scope.names elt).map (bY mi mt)
def eLt(elt it:Expr)(ifs:List Expr)(scope:Scope):Expr->Option ME
 |.Name x _=>if scope.kind==.function&&qS N (F3 N x) ns scope.names x&&lq it then eLn R T N ns elt it ifs scope x else b_
 |_=>b_
def eLc(elt:Expr)(scope:Scope):List Comprehension->Option ME
 |[c]=>if c.is_async=0 then eLt R T N ns elt c.iter c.ifs scope c.target else b_
 |_=>b_
def eRg(g:Str):List Expr->Option ME
 |[a]=>if g==("list":Str) then (R.a T N ns [a]).map fun m=>jm (iR1 m) else (R.a T N ns [a]).map fun m=>Bu (iR1 m)
 |[a,b]=>if g==("list":Str) then (R.a T N ns [a,b]).map fun m=>jm (iR2 m) else b_
 |_=>b_
def eSS:List Expr->Option ME
 |[a]=>(R.a T N ns [a]).map (mFn bSS)
 |_=>b_
def Sb(T:Tb)(g:Str):Bool:=g==("sorted":Str)&&T.Z.nm==("sorted":Str)
def eC1(g:Str):Expr->Option ME
 |.Call (.Name r q) rs [] rp=>if (g==("list":Str)||g==("tuple":Str))&&r==("range":Str) then (if hV ns r then eRg R T N ns g rs else b_) else if g==("sorted":Str)&&r==("set":Str) then (if hV ns r then eSS R T N ns rs else b_) else R.c T N ns g [.Call (.Name r q) rs [] rp]
 |a=>if Sb T g then(R.a T N ns [a]).map (mFn iT) else R.c T N ns g [a]
def eIs(g t:Str)(tp:Pos)(a:Expr):Option ME:=
 if g==("isinstance":Str) then (if hV ns t&&notStar a then (IP t).bind fun c=>(R.e T N ns a).map (m1 (r9 c)) else b_) else R.c T N ns g [a,.Name t tp]
def QY(g:Str)(a:Expr)(p:Arguments)(b:Expr)(sc:Scope):Option ME:=
 if T.mkr&&T.Z.nm==("<lambda>":Str)&&notStar a then (Be p).bind fun ps=>
    if CW ps sc ns then(dG (λy=>N.findIdx? (· == y)) (frees sc)).bind λis=>(R.e T N ns a).bind λma=>(R.e T.bare (ps++frees sc) sc.names b).bind λml=>(T.H.lookup g).map λF=>mm F ps.length is ml ma else b_
   else b_
def eC2(g:Str)(a:Expr):Expr->Option ME
 |.Name t tp=>eIs R T N ns g t tp a
 |.Lambda p b sc _=>QY R T N ns g a p b sc
 |b=>R.c T N ns g [a,b]
def eCf(g:Str):List Expr->Option ME
 |[]=>(T.D.lookup g).map λmf=>mFn mf ah
 |[a]=>eC1 R T N ns g a
 |[a,b]=>eC2 R T N ns g a b
 |a::b::c::r=>R.c T N ns g (a::b::c::r)
def eMe(o:Expr)(name:Str)(p q:Pos):List Expr->Option ME
 |[]=>if baseOk o&&(p.endLine==q.line)&&name==("pop":Str) then (R.e T N ns o).map fun mo=>mML Bz mo ah else b_
 |[a]=>if baseOk o&&(p.endLine==q.line)&&notStar a then(R.e T N ns o).bind λmo=>(R.a T N ns [a]).bind (Iv name mo) else b_
 |_=>b_
def eCa(as:List Expr)(q:Pos):Expr->Option ME
 |.Name g _=>if hV ns g&&g8 g then eCf R T N ns g as else R.v T N ns g as
 |.Attribute o name p=>eMe R T N ns o name p q as
 |_=>b_
end
def sE(R:Rc)(T:Tb):List Str->NS->Expr->Option ME:=λN ns e=>match e with
  |.Name x _=>if g8 x then(if xj ns x then(slot N x).map ae else if hV ns x then(T.C.lookup x).map mC else b_) else b_
  |.Constant c _ _=>RE c
  |.BinOp a op b _=>(R.e T N ns a).bind λma=>(R.e T N ns b).bind λmb=>(Q3 op).map λf=>m2 f ma mb
  |.UnaryOp op a _=>eUn R T N ns a op
  |.BoolOp op vs p=>eBo R T N ns op p vs
  |.Compare a ops bs _=>eCm R T N ns a ops bs
  |.IfExp c a b _=>(R.t T N ns c).bind λmc=>(R.e T N ns a).bind λma=>(R.e T N ns b).map (Da mc ma)
  |.Subscript a b _=>eSb R T N ns a b
  |.Dict ks vs _=>eDi R T N ns ks vs
  |.Tuple es _ _=>(R.a T N ns es).map iU
  |.List es _=>(R.a T N ns es).map dN
  |.ListComp elt gens scope _=>eLc R T N ns elt scope gens
  |.Call f as Vj q=>if Vj.isEmpty then eCa R T N ns as q f else b_
  |_=>b_
def sC(R:Rc)(T:Tb):List Str->NS->Str->List Expr->Option ME:=λN ns g as=>(R.a T N ns as).bind λZP=>match MJ g with
  |some mf=>a_ (mFn mf ZP)
  |none=>(T.D.lookup g).map λmf=>mFn mf ZP
def sV(R:Rc)(T:Tb):List Str->NS->Str->List Expr->Option ME:=λN ns g as=>match as with
 |[]=>b_
 |a::as=>if xj ns g&&g8 g then(T.L.lookup g).bind λq=>(slot N g).bind λi=>(R.a T N ns (a::as)).map (wA i q.1 q.2) else b_
def sO(R:Rc)(T:Tb):List Str->NS->Option Expr->Option (Option ME):=λN ns o=>match o with
  |none=>a_ b_
  |some e=>(R.e T N ns e).map a_
def sT(R:Rc)(T:Tb):List Str->NS->Expr->Option MT:=λN ns e=>match e with
  |.UnaryOp .Not a _=>(R.t T N ns a).map IE
  |.BoolOp .And vs _=>R.l T N ns c_ vs
  |.BoolOp .Or vs _=>R.l T N ns d_ vs
  |.Compare a ops bs _=>(eCm R T N ns a ops bs).map cOf
  |e=>if plainT e then(R.e T N ns e).map cOf else b_
def sL(R:Rc)(T:Tb):List Str->NS->Bool->List Expr->Option MT:=λN ns b vs=>match vs with
  |[]=>b_
  |[a]=>R.t T N ns a
  |a::r=>(R.t T N ns a).bind λma=>(R.l T N ns b r).map λmr=>if b then pe ma mr else cOr ma mr
def sF(R:Rc)(T:Tb):List Str->NS->List Expr->Option MT:=λN ns ifs=>match ifs with
  |[]=>a_ cTT
  |[c]=>R.t T N ns c
  |_=>b_
def sA(R:Rc)(T:Tb):List Str->NS->List Expr->Option MA:=λN ns es=>match es with
  |[]=>a_ ah
  |e::r=>if notStar e then(R.e T N ns e).bind λm=>(R.a T N ns r).map (aa m) else b_
def sI(R:Rc)(T:Tb):List Str->NS->Expr->Option MI:=λN ns e=>match e with
  | .Call (.Name g q) as [] p=>
    if g==("range":Str) then
     if hV ns g then match as with
      |[a]=>(R.a T N ns [a]).map iR1
      |[a,b]=>(R.a T N ns [a,b]).map iR2
      |_=>b_
     else b_
    else if g==("reversed":Str) then
     if hV ns g then match as with
      |[a]=>(R.a T N ns [a]).map Dj
      |_=>b_
     else b_
    else(R.e T N ns (.Call (.Name g q) as [] p)).map dq
  |e=>(R.e T N ns e).map dq
def sG(R:Rc)(T:Tb):List Str->NS->Expr->Option MG:=λN ns e=>match e with
  |.Name x _=>if ug ns x then(slot N x).map gN else b_
  |.Tuple es _ _=>(R.gs T N ns es).map (gTp es.length)
  |_=>b_
def sGs(R:Rc)(T:Tb):List Str->NS->List Expr->Option MGs:=λN ns es=>match es with
  |[]=>a_ tW
  |e::r=>if notStar e then(R.g T N ns e).bind λg=>(R.gs T N ns r).map (iD g) else b_
def My(R:Rc)(T:Tb)(N:List Str)(ns:NS)(e:Expr):Option MI:=match e with
  |.Call (.Name g q) [a,b] [] p=>if g==("zip":Str) then (if hV ns g then (R.a T N ns [a,b]).map CM else b_) else b_
  |_=>b_
def eIt(R:Rc)(T:Tb)(N:List Str)(ns:NS)(e:Expr):Option MI:=match e with
  |e=>My R T N ns e
def M3(R:Rc)(T:Tb)(N:List Str)(ns:NS)(y:Str)(elt it:Expr)(ifs:List Expr)(scope:Scope):Expr->Option MS
 | .Name x _=>
   if ug ns y&&(scope.kind==.function&&qS N (F3 N x) ns scope.names x&&lq it) then
    (slot N y).bind λi=>(R.i T N ns it).bind λmi=>(R.f T (F3 N x) scope.names ifs).bind λmt=>(R.e T (F3 N x) scope.names elt).map λme=>bC i (bY mi mt me)
   else b_
 |_=>b_
def Rg(R:Rc)(T:Tb)(N:List Str)(ns:NS)(y:Str)(elt:Expr)(scope:Scope):List Comprehension->Option MS
 |[c]=>if c.is_async=0 then M3 R T N ns y elt c.iter c.ifs scope c.target else b_
 |_=>b_
def MD(R:Rc)(T:Tb)(N:List Str)(ns:NS)(x:Str):Expr->Option MS
 |.ListComp elt gens scope _=>Rg R T N ns x elt scope gens
 |e=>if ug ns x&&l5 e then(slot N x).bind λi=>(R.e T N ns e).map (bC i) else b_
def Ra(R:Rc)(T:Tb)(N:List Str)(ns:NS)(e:Expr):Expr->Option MS
  |.Name x _=>MD R T N ns x e
  |.Subscript a b _=>if l5 e&&qR b then(R.e T N ns a).bind λma=>(R.e T N ns b).bind λmb=>(R.e T N ns e).map (gv ma mb) else b_
  |.Tuple ts kt pt=>if l5 e&&(notTuple e||EZ ts) then(R.g T N ns (.Tuple ts kt pt)).bind λg=>(R.e T N ns e).map λme=>I0 me g else b_
  |_=>b_
def sAs(R:Rc)(T:Tb)(N:List Str)(ns:NS)(e:Expr):List Expr->Option MS
 |[t]=>Ra R T N ns e t
 |_=>b_
def sAu(R:Rc)(T:Tb)(N:List Str)(ns:NS)(x:Str)(e:Expr):Operator->Option MS
  |.Add=>if ug ns x then(slot N x).bind λi=>(R.e T N ns e).map (Dx i) else b_
  |_=>b_
def Nm(R:Rc)(T:Tb)(N:List Str)(ns:NS)(op:Operator)(e:Expr):Expr->Option MS
 |.Name x _=>sAu R T N ns x e op
 |_=>b_
def sRt(R:Rc)(T:Tb)(N:List Str)(ns:NS):Option Expr->Option MS
 |some e=>(R.e T N ns e).map cn
 |none=>a_ (cn (mC .non))
def sFo(R:Rc)(T:Tb)(N:List Str)(ns:NS)(it:Expr)(body:List Stmt):Expr->Option MS
  |.Name x _=>if ug ns x&&lq it then(slot N x).bind λi=>(R.i T N ns it).bind λmi=>(R.b T N ns body).map (fv i mi) else b_
  |.Tuple ts kt pt=>if lq it then(R.g T N ns (.Tuple ts kt pt)).bind λg=>(eIt R T N ns it).bind λmi=>(R.b T N ns body).map (wG g mi) else b_
  |_=>b_
def Nw(R:Rc)(T:Tb)(N:List Str)(ns:NS)(t it:Expr)(body:List Stmt):List Stmt->Option MS
 |[]=>sFo R T N ns it body t
 |_=>b_
def sWh(R:Rc)(T:Tb)(N:List Str)(ns:NS)(c:Expr)(body:List Stmt):List Stmt->Option MS
 |[]=>(R.t T N ns c).bind λmc=>(R.b T N ns body).map (nS mc)
 |_=>b_
def sS(R:Rc)(T:Tb):List Str->NS->Stmt->Option MS:=λN ns st=>match st with
  |.Assign ts e _=>sAs R T N ns e ts
  |.AugAssign t op e _=>Nm R T N ns op e t
  |.Expr e _=>if l5 e then(R.e T N ns e).map eJ else b_
  |.Return o _=>sRt R T N ns o
  |.If c a b _=>(R.t T N ns c).bind λmc=>(R.b T N ns a).bind λma=>(R.b T N ns b).map (sIf mc ma)
  |.For t it body els _=>Nw R T N ns t it body els
  |.While c body els _=>sWh R T N ns c body els
  |.Pass _=>a_ dE
  |.Break _=>a_ QO
  |.Raise _ _ _=>a_ sNo
  |.Continue _=>a_ QK
  |_=>b_
section
variable (R:Rc) (T:Tb) (N:List Str) (ns:NS)
end
def sB(R:Rc)(T:Tb):List Str->NS->List Stmt->Option MS:=λN ns sts=>match sts with
  |[]=>a_ dE
  |[s]=>R.s T N ns s
  |s::r=>(R.s T N ns s).bind λms=>(R.b T N ns r).map (aY ms)
def rc:Nat->Rc
 |0=>⟨λ_ _ _ _=>b_,λ_ _ _ _ _=>b_,λ_ _ _ _ _=>b_,λ_ _ _ _=>b_,λ_ _ _ _=>b_,λ_ _ _ _ _=>b_,λ_ _ _ _=>b_,λ_ _ _ _=>b_,λ_ _ _ _=>b_,λ_ _ _ _=>b_,λ_ _ _ _=>b_,λ_ _ _ _=>b_,λ_ _ _ _=>b_⟩
 |n+1=>⟨sE (rc n),sC (rc n),sV (rc n),sO (rc n),sT (rc n),sL (rc n),sF (rc n),sA (rc n),sI (rc n),sG (rc n),sGs (rc n),sS (rc n),sB (rc n)⟩
abbrev cE(T:Tb)(n:Nat):=(rc n).e T
abbrev cC(T:Tb)(n:Nat):=(rc n).c T
abbrev cV(T:Tb)(n:Nat):=(rc n).v T
abbrev cO(T:Tb)(n:Nat):=(rc n).o T
abbrev cT(T:Tb)(n:Nat):=(rc n).t T
abbrev cL(T:Tb)(n:Nat):=(rc n).l T
abbrev cF(T:Tb)(n:Nat):=(rc n).f T
abbrev cA(T:Tb)(n:Nat):=(rc n).a T
abbrev cI(T:Tb)(n:Nat):=(rc n).i T
abbrev cG(T:Tb)(n:Nat):=(rc n).g T
abbrev cGs(T:Tb)(n:Nat):=(rc n).gs T
abbrev cS(T:Tb)(n:Nat):=(rc n).s T
abbrev cB(T:Tb)(n:Nat):=(rc n).b T
section
variable {env:Env}{e a b o:Expr}{es:List Expr}{pos q:Pos}
theorem dF(h:notStar e=c_)(es:List Expr)(env:Env):starEach (e::es) env=(d_,eval e env)::starEach es env:=by
 cases e<;>first |rfl |cases h
theorem zX(pos:Pos)(env:Env):∀{es:List Expr},es.all notStar=c_->(backTo pos (starEach es env)).any (·.1)=d_
 |[],_=>rfl
 | e::es,h=>by
   rw[cH,aE]at h;rw[dF h.1];show(d_||(backTo _ _).any _)=d_;rw[zX _ _ h.2];rfl
theorem IW(h:plainT e=c_)(env:Env):∀whole,isTrue e env whole=(do let v <- whole;standAt e.pos;holding [v] (truthy v)):=by
 intro whole;cases e<;>first |rfl |cases h
theorem uo(h:lq e=c_)(env:Env):∀x,foldedSetIterable e env x=pure x:=by
 intro x;cases e<;>first |rfl |cases h
theorem zb(h:lq b=c_)(op:CmpOp):behindInMarks op b=d_:=by
 cases b<;>first |rfl |cases h
theorem QV(h:qR b=c_):DW b:=by
 intro o i;cases b<;>first |rfl |cases h
theorem qD(h:baseOk o=c_)(name:Str)(env:Env):attributeBase o name env (eval o env)=eval o env:=by
 cases o with
 | Call f as ks p=>
   cases f with
   | Name x p=>
     cases as with
     | nil=>cases ks with
       |nil=>cases h
       |cons k ks=>rfl
     |cons a as=>rfl
   |_=>rfl
 |_=>rfl
theorem yT(h:l5 e=c_)(t:Option Expr)(line:Nat)(env:Env):swapsWith e t line env=pure d_:=by
 cases e<;>first |rfl |cases h
theorem Ei(h:l5 e=c_)(t:Expr)(line:Nat)(env:Env):swapsWithSole [t] e line env=pure d_:=yT h _ _ _
theorem yO(h:notStar a=c_)(q:Pos)(env:Env):((backTo q (starEach [a] env)).all (λx => !x.1)&&(backToKw q (keywordEach [] env)).all (λx=>x.1.isSome)
   && decide ([a].length+([]:List Keyword).length+(if ([]:List Keyword).isEmpty then 0 else 1)<30))=c_:=by
 rw[dF h];rfl
theorem Ow(h:qR b=c_)(env:Env): ∀v,assign (.Subscript a b pos) env v=(do
   let ov <- holding [v] (eval a env)
   let iv <- holding [v,ov] (eval b env)
   standAt pos
   holding [v,ov,iv] (setItem ov iv v)
   release [v,ov,iv] []):=by
 intro v;cases b<;>first |rfl |cases h
theorem BS(h:notStar e=c_)(es:List Expr)(env:Env):assignEach (e::es) env=(d_,assign e env)::assignEach es env:=by
 cases e<;>first |rfl |cases h
theorem Eu(env:Env):∀es:List Expr,es.all notStar=c_->(assignEach es env).length=es.length/\(assignEach es env).findIdx? (·.1)=b_
 |[],_=>⟨rfl,rfl⟩
 | e::es,h=>by
   rw[cH,aE]at h;obtain⟨a,b⟩:=Eu env es h.2;rw[BS h.1];exact⟨by simp[a],by rw[List.findIdx?_cons];simp[b]⟩
theorem Cn:swappedStores [.Subscript a b pos] e env=pure b_:=by
 cases e<;>rfl
end
theorem iw{T:Tb}:∀{n:Nat}{N:List Str}{ns:NS}{es:List Expr}{m:MA},cA T n N ns es=a_ m->es.all notStar=c_
 |0,_,_,_,_,h=>by simp[cA,rc]at h
 |n+1,_,_,[],_,h=>rfl
 | n+1,N,ns,e::es,m,h=>by
   simp only[cA,rc,sA]at h
   split at h
   .rename_i hs
    cases e1:(rc n).e T N ns e with
    |none=>simp_all
    | some me=>
      cases e2:(rc n).a T N ns es with
      |none=>grind
      |some mr=>rw[cH,hs,iw e2];rfl
   grind
theorem BO{T:Tb}:∀{n:Nat}{N:List Str}{ns:NS}{es:List Expr}{m:MGs},cGs T n N ns es=a_ m->es.all notStar=c_
 |0,_,_,_,_,h=>by simp[cGs,rc]at h
 |n+1,_,_,[],_,h=>rfl
 | n+1,N,ns,e::es,m,h=>by
   simp only[cGs,rc,sGs]at h
   split at h
   .rename_i hs
    cases e1:(rc n).g T N ns e with
    |none=>simp_all
    | some me=>
      cases e2:(rc n).gs T N ns es with
      |none=>grind
      |some mr=>rw[cH,hs,BO e2];rfl
   grind
variable{N:List Str}{x:Str}{i:Nat}
theorem slot_get(h:slot N x=a_ i):N[i]?=a_ x:=by
 obtain⟨h1,h2,_⟩:=eC.mp h
 simp_all
theorem i8 (h:g8 x=c_):(x==("__debug__":Str))=d_/\(x==("__classdict__":Str))=d_:=by
 unfold g8 at h
 simp_all
theorem bind_eq{α β:Type}{o:Option α}{f:α->Option β}{b:β}(h:o.bind f=a_ b):∃a,o=a_ a/\f a=a_ b:=by
 cases o<;>simp_all
theorem map_eq{α β:Type}{o:Option α}{f:α->β}{b:β}(h:o.map f=a_ b):∃a,o=a_ a/\f a=b:=by
 simp_all
section
variable {M:Mo}{X:Cx}{k:Nat}{N:List Str}{ns:NS}{a b c e:Expr}{es:List Expr}{ma mb mc:ME}{mt:MT}{ZP:MA}{pos p1 p2:Pos}{x:Str}
theorem MM(S:Sc M X k N ns)(hg:hV ns "list"=c_)(hm:M.mg "list"=b_)(ha:PA X (e::es) (tMA M.K ZP))(he:starEach (e::es) X.env=(d_,eval e X.env)::starEach es X.env)(ZJ:(backTo pos (starEach es X.env)).any (·.1)=d_) :
  PE X (.Call (.Name "list" p1) (e::es) [] pos) (tM M.K (mFn xZ ZP)):=
 PE.con (lG (S.hK▸yU) (S.gl hg) (by rw[S.hm];omega) lV ha 0#2 0#2 he ZJ) λ_ _ _ h=>zY (by
   intro μ S H us vs u S' Q hr rs e a;unfold xZ at e
   split at e
   .rename_i x
    obtain⟨v,r,rfl,rx,rn⟩:=rs.inv;rw[rn.nil_inv];cases q:eA S x with
    |none=>rw[q]at e;cases e
    | some ws=>
      rw[q]at e;cases e;obtain⟨p,ys,rfl,hs,r'⟩:=hr.seq rx q;exact⟨p,ys,rfl,hs,λl hl=>jB a hr r' hl⟩
   ·cases e) h
theorem QN(S:Sc M X k N ns)(hg:hV ns "all"=c_)(hm:M.mg "all"=b_)(ha:PA X (e::es) (tMA M.K ZP))(he:starEach (e::es) X.env=(d_,eval e X.env)::starEach es X.env)(ZJ:(backTo pos (starEach es X.env)).any (·.1)=d_) :
  PE X (.Call (.Name "all" p1) (e::es) [] pos) (tM M.K (mFn xA ZP)):=
 PE.con (kl (S.hK▸(by
   intro pins s σ H xs us Q I rs h;obtain⟨p,bs,rfl,hS,q⟩:=h;cases rs with
   | cons r1 rr=>
     cases rr;cases (r1);obtain⟨ZY,rv,pl,_⟩:=I.list hS;have hl:=pl.isList;refine call_all_walk (pL hl ?_)
     refine⟨_,_,_,_,_,_,λi=>(bs[i]?).getD c_,rfl,Walks.list (A:=X.A.in1) (I.ok.hd S.calm) _ p (aJ (by obtain⟨_,e,_⟩:=hl;exact az e)) _,
      ⟨⟨_,av _ rfl,rfl,rfl⟩,hl.push _⟩,λi v s' Q' E' hP hQ =>?_,λh' tk hk =>?_⟩
     .obtain⟨b,e,rfl⟩:=Fp rv (by simpa using hP)
      simp[e]at hQ;exact eK hQ
     .have e:((ao ZY.toArray.size).all λi=>(bs[i]?).getD c_)=bs.all id:=by
       rw[bO,<-rv.length,ar];exact Dt bs
      rw[e]
      exact⟨.bl _,H,I.kept (J6 hk),rfl,q⟩)) (S.gl hg) (by rw[S.hm];omega) PyProof.Rows.boot_all ha (by decide) (by decide) he ZJ) λ_ _ _ h=>zY NI h
theorem Jd(S:Sc M X k N ns)(hg:hV ns "sorted"=c_)(hm:M.mg "sorted"=b_)(ha:PA X (e::es) (tMA M.K ZP))(he:starEach (e::es) X.env=(d_,eval e X.env)::starEach es X.env)(ZJ:(backTo pos (starEach es X.env)).any (·.1)=d_) :
  PE X (.Call (.Name "sorted" p1) (e::es) [] pos) (tM M.K (mFn fk ZP)):=
 PE.con (kl (S.hK▸tD S.calm) (S.gl hg) (by rw[S.hm];omega) kX ha 0#2 0#2 he ZJ) λ_ _ _ h=>zY xV h
theorem JK{op:CmpOp}{f:F2}(S:Sc M X k N ns)(h:CT op=a_ f):∃r,OpR X (compareOp op) r/\OpU M.K r f:=by
 cases op<;>simp only[CT,kY,reduceCtorEq]at h<;>subst h
 ·exact⟨_,S.hK▸(by
   intro pins s σ H x y v u Q I rx ry h;obtain⟨a,b,ha,hb,q⟩:=h;obtain⟨as,r1⟩:=ha.1.reads I rx;obtain⟨bs,r2⟩:=hb.1.reads I ry
   exact SeqAt.compareEq_shaped r1 r2 (oC ha) (oC hb) S.room.units ⟨.bl _,H,I,rfl,q⟩),Pd⟩
 ·exact⟨_,S.hK▸(by
   intro pins s σ H x y v u Q I rx ry h;obtain⟨a,b,ha,hb,q⟩:=h;obtain⟨as,r1⟩:=ha.1.reads I rx;obtain⟨bs,r2⟩:=hb.1.reads I ry
   exact SeqAt.compareNe_shaped r1 r2 (oC ha) (oC hb) S.room.units ⟨.bl _,H,I,rfl,q⟩),OV⟩
 .exact⟨_,(LF λ_ _ _ _ _ _ _ q=>lt_int q),zE⟩
 .exact⟨_,(LF λ_ _ _ _ _ _ _ q=>le_int q),zE⟩
 .exact⟨_,(LF λ_ _ _ _ _ _ _ q=>gt_int q),zE⟩
 .exact⟨_,(LF λ_ _ _ _ _ _ _ q=>ge_int q),zE⟩
 ·exact⟨_,OH,(by
   intro μ S H x y vx vy u S' Q hr rx ry e a;unfold oIs at e;cases q:isU x y with
   |none=>rw[q]at e;cases e
   | some b=>rw[q]at e;cases e;exact Jw rx ry q (a.now hr jW))⟩
 ·exact⟨_,FY,(by
   intro μ S H x y vx vy u S' Q hr rx ry e a;unfold lg at e;cases q:isU x y with
   |none=>rw[q]at e;cases e
   | some b=>rw[q]at e;cases e;exact Jw rx ry q (a.now hr jW))⟩
 ·exact⟨_,S.hK▸(by
   intro pins s σ H x y v u Q I rx ry h;rcases h with h|⟨a,o,rfl,g,q⟩
   .exact FI _ s σ H x y v u Q I rx ry h
   .obtain rfl:u=bZ a:=ry
    exact RZ (by have:=S.room.units;lia) I g rx λs3 I3=>⟨.bl _,H,I3,rfl,q⟩),Q6⟩
 ·exact⟨_,S.hK▸(by
   intro pins s σ H x y v u Q I rx ry h;rcases h with h|⟨a,o,rfl,g,q⟩
   .exact zB _ s σ H x y v u Q I rx ry h
   .obtain rfl:u=bZ a:=ry
    exact Ld (by have:=S.room.units;lia) I g rx λs3 I3=>⟨.bl _,H,I3,rfl,q⟩),Hf⟩
theorem Np{N':List Str}{scope:Scope}{px py W7:Pos}{iter elt:Expr}{ifs:List Expr}{wi:TI}{mi:MI}{y:Str}(S:Sc M X k N ns)(i:Nat)(hy:N[i]?=a_ y)(ho:ug ns y=c_)(hk:scope.kind=.function)(ok:qS N N' ns scope.names x=c_)(hi:PI X (.Name x px) iter wi)
  (ht:∀X',Sc M X' k N' scope.names->PTs X' ifs (tMT M.K mt)) (he:∀X',Sc M X' k N' scope.names->PE X' elt (tM M.K mc)) (hr:∀σ H Q,tM M.K (bY mi mt mc) σ H Q->yw wi (tMT M.K mt) (tM M.K mc) σ H Q)
  (hs:∀x,foldedSetIterable iter X.env x=pure x):PS X (.Assign [.Name y py] (.ListComp elt [⟨.Name x px,iter,ifs,0⟩] scope pos) W7) (tMS M.K (bC i (bY mi mt mc))):=by
 have C:=xJ S hk ok;have e:∃b,swapsWith (.ListComp elt [⟨.Name x px,iter,ifs,0⟩] scope pos) (a_ (.Name y py)) W7.line X.env=pure b:=⟨_,rfl⟩;obtain⟨b,e⟩:=e;cases b with
 | true=>exact PS.con ((by
   have hy:=(S.lo ho).1;intro pins s σ H D I h;rw[exec_Assign_Name_used _ _ _ _ e];refine ab (wpAny_standAt (ab ?_))
   refine ab (dv (wpAny_comprehension_free rfl hs (mU (C.frees I.ok)) C.kind (λy hy e=>oM C.nd (by rw[<- e];omega))
    (yq (gT:=gT1) (Q:=λv H1=>pv i v σ H1 _) S.calm C hi (λZX ZT fp=>ht _ (zD S C _ _ fp)) (λZX ZT fp=>he _ (zD S C _ _ fp)) I h (Ek C) λs' L D' H' ml Wm I' hn h1 h2 h3 h4 q =>?_)) (λ_ s' hq=>aj (aj hq)) λ_ _ e=>e)
   refine BX (xW (v:= .ref D') I' (by rw[S.hN];exact S.nd) (by rw[S.hN];omega) hy rfl (λs6 I6 Vy=>?_) (S.lo ho).2);obtain⟨a,Vy,ha⟩:=Vy;have haL:L≠a:=by
    rcases ha with e|e
    .rw[e];omega
    .exact eD (h3 _ _ e)
   exact⟨ml,Wm.sameBut Vy haL,λh' Uv=>⟨_,H',I6.turned (λb o hb e=>(Uv.2 b hb).trans e) hn h1 (.inr h2) h3 h4,q⟩⟩)) λ_ _ _ h=>hr _ _ _ (Mk h)
 |false=>exact LV S i hy ho (IL S hk ok hi ht he hr hs) e
variable{as:Expr}{q rp:Pos}
theorem Ij (S:Sc M X k N ns)(hg:hV ns "list"=c_)(hm:M.mg "list"=b_)(XC:hV ns "range"=c_)(Zf:M.mg "range"=b_)(ha:PA X [as] (tMA M.K ZP))(hs:notStar as=c_) :
  PE X (.Call (.Name "list" p1) [.Call (.Name "range" q) [as] [] rp] [] pos) (tM M.K (jm (iR1 ZP))):=
 PE.con (lG (pH S.calm) (S.gl hg) (by rw[S.hm];omega) lV (oH (DL (S.gl XC) (by rw[S.hm];omega) ha (by rw[dF hs];rfl)) vS) 0#2 0#2) λ_ _ _ h=>(by
   obtain⟨μ,S,G,u,S',hr,er,e,k⟩:=h;obtain⟨src,S1,e1,e⟩:=be e;obtain⟨xs,S2,e2,e1⟩:=be e1;refine⟨μ,S,G,xs,S2,hr,er,e2,λY0 vs H1 p1 k1 ZZ rs=>?_⟩
   split at e1
   .rename_i j
    split at e1
    .rename_i hj
     cases e1;simp only at e
     split at e
     .cases e
      obtain⟨v,r,rfl,rx,rn⟩:=rs.inv;rw[rn.nil_inv,dI rx];refine⟨j,rfl,hj.1,hj.2,λr Yl=>?_⟩;have ez:(j-0).toNat=j.toNat:=by simp
      exact EE ZZ ⟨⟨by decide,by decide⟩,hj⟩ (by rw[ez];omega) (by rw[ez];exact k.mono p1 k1) Yl
     .cases e
    .cases e1
   ·cases e1)
theorem Hz{bs:Expr}(S:Sc M X k N ns)(hg:hV ns "list"=c_)(hm:M.mg "list"=b_)(XC:hV ns "range"=c_)(Zf:M.mg "range"=b_)(ha:PA X [as,bs] (tMA M.K ZP))(hs:notStar as=c_)(Zm:notStar bs=c_) :
  PE X (.Call (.Name "list" p1) [.Call (.Name "range" q) [as,bs] [] rp] [] pos) (tM M.K (jm (iR2 ZP))):=
 PE.con (lG (pH S.calm) (S.gl hg) (by rw[S.hm];omega) lV (oH (Lp (S.gl XC) (by rw[S.hm];omega) ha (by rw[dF hs,dF Zm];rfl) (by rw[dF Zm];rfl)) vS) 0#2 0#2) λ_ _ _ h=>(by
   obtain⟨μ,S,G,u,S',hr,er,e,k⟩:=h;obtain⟨src,S1,e1,e⟩:=be e;obtain⟨xs,S2,e2,e1⟩:=be e1;refine⟨μ,S,G,xs,S2,hr,er,e2,λY0 vs H1 p1 k1 ZZ rs=>?_⟩
   split at e1
   .rename_i i j
    split at e1
    .rename_i hj
     cases e1;simp only at e
     split at e
     .rename_i hz
      cases e;obtain⟨v,r,rfl,rx,rs⟩:=rs.inv;obtain⟨w,r,rfl,ry,rn⟩:=rs.inv;rw[rn.nil_inv,dI rx,dI ry];exact⟨i,j,rfl,⟨hj.1.1,hj.1.2,hj.2.1,hj.2.2⟩,λr Yl=>EE ZZ hj hz (k.mono p1 k1) Yl⟩
     .cases e
    .cases e1
   ·cases e1)
theorem Ki (S:Sc M X k N ns)(hg:hV ns "tuple"=c_)(hm:M.mg "tuple"=b_)(XC:hV ns "range"=c_)(Zf:M.mg "range"=b_)(ha:PA X [as] (tMA M.K ZP))(hs:notStar as=c_) :
  PE X (.Call (.Name "tuple" p1) [.Call (.Name "range" q) [as] [] rp] [] pos) (tM M.K (Bu (iR1 ZP))):=
 PE.con (lG (wk S.calm) (S.gl hg) (by rw[S.hm];omega) xE (oH (DL (S.gl XC) (by rw[S.hm];omega) ha (by rw[dF hs];rfl)) vS) 0#2 0#2) λ_ _ _ h=>(by
   obtain⟨μ,S,G,u,S',hr,er,e,k⟩:=h;obtain⟨src,S1,e1,e⟩:=be e;obtain⟨xs,S2,e2,e1⟩:=be e1;refine⟨μ,S,G,xs,S2,hr,er,e2,λY0 vs H1 p1 k1 ZZ rs=>?_⟩
   split at e1
   .rename_i j
    split at e1
    .rename_i hj
     cases e1;simp only at e
     split at e
     .cases e
      obtain⟨v,r,rfl,rx,rn⟩:=rs.inv;rw[rn.nil_inv,dI rx];refine⟨j,rfl,hj.1,hj.2,λr Yl=>?_⟩;have ez:(j-0).toNat=j.toNat:=by simp
      exact HU ZZ ⟨⟨by decide,by decide⟩,hj⟩ (by rw[ez];omega) (by rw[ez];exact k.mono p1 k1) Yl
     .cases e
    .cases e1
   ·cases e1)
theorem P9{t:Str}{c:String}(S:Sc M X k N ns)(hg:hV ns "isinstance"=c_)(hm:M.mg "isinstance"=b_)(XC:hV ns t=c_)(Zf:M.mg t=b_)(hb:bootBuiltins t=a_ (.type c))(hc:c∈mI)(hn:t≠"__name__")(hd:(t==("__debug__":Str))=d_)
  (ha:PE X a (tM M.K ma)) (hs:notStar a=c_):PE X (.Call (.Name "isinstance" p1) [a,.Name t p2] [] pos) (tM M.K (m1 (r9 c) ma)):=by
 refine PE.con (kl Jk (S.gl hg) (by rw[S.hm];omega) PyProof.Rows.boot_isinstance (oH ha (oH ((λ_ _ _ H _ I h=>ky I (S.gl XC) (by rw[S.hm];omega) hb ⟨(.ty c),H,I,rfl,h⟩ hn hd)) vS) (dF hs _ _)) 0#2 0#2 (dF hs _ _) rfl) λ_ _ _ h=>?_;rw[S.hK];exact P8 hc h
section
variable {X:Cx}
end
theorem RS{st:Stmt}:PS X st (tMS M.K sNo):=by
 intro pins s σ H D I h;obtain⟨μ,S,G,r,hr,er,e,kk⟩:=h;cases e
theorem O4{K:KX}{D:Ends}{σ:St}{H:Hp}{m:ME}(h:tMS K (Dx i m) D σ H):Qv i (tM K m) (ipI λi j=>i+j) D σ H:=by
 obtain⟨μ,S,G,r,hr,er,e,kk⟩:=h;unfold Dx at e
 split at e
 .rename_i x q
  obtain⟨y,S1,e1,e⟩:=be e;obtain⟨v,hv,rv⟩:=er.get i _ q;refine⟨v,hv,μ,S,G,y,S1,hr,er,e1,λY0 vy H1 p1 k1 ZZ ry=>?_⟩
  split at e
  .rename_i z
   cases e;exact⟨x,z,dI rv,dI ry,kk Y0 _ H1 p1 k1 ZZ ((er.mono k1 p1).set fZ i)⟩
  .cases e
 .cases e
theorem PB:PS X (.Break pos) (tMS M.K QO):=PS.con (λ_ _ σ H _ I h=>wpAny_Break ⟨σ,H,I,h⟩) λD σ H h=>by
 obtain⟨μ,S,G,r,hr,er,e,kk⟩:=h;cases e;exact kk μ σ H 2#2 (bD.refl _) hr er
theorem Q4:PS X (.Continue pos) (tMS M.K QK):=PS.con (λ_ _ σ H _ I h=>wpAny_Continue ⟨σ,H,I,h⟩) λD σ H h=>by
 obtain⟨μ,S,G,r,hr,er,e,kk⟩:=h;cases e;exact kk μ σ H 2#2 (bD.refl _) hr er
theorem NA:PS X (.Return b_ pos) (tMS M.K (cn (mC .non))):=PS.con (λ_ _ σ H _ I h=>wpAny_Return_none ⟨.non,σ,H,I,rfl,h⟩) λD σ H h=>by
 obtain⟨μ,S,G,r,hr,er,e,kk⟩:=h;cases e;exact kk μ _ H 2#2 (bD.refl _) hr p8
end
section
variable {M:Mo}{cl:Nat->e_}{k n fu:Nat}{N:List Str}{ns:NS}{X:Cx}{E:XK}
end
structure TOk(M:Mo)(T:Tb)(k:Nat):Prop where
 D:∀x mf,T.D.lookup x=a_ mf->∃k' ps,k'<=k/\Fn M x k' ps mf
 C:∀x u,T.C.lookup x=a_ u->∃g v,M.mg x=a_ g/\RelV v g /\ ∀H μ,RU H μ u v
 B:∀x∈ly,M.mg x=b_
 L:∀x q,T.L.lookup x=a_ q->∃k' ps,k'<=k/\Lam M q.1 k' ps q.2
 mkr:T.mkr=c_->∃c q P,M.mkr=a_ (c,q)/\Mkr M c P (q++T.Z.nm)
 Z:∀x r,T.Z.R.lookup x=a_ r->∃k' ps,k'<=k/\FnX M T.Z.cl x k' ps r
def GOk(M:Mo)(T:Tb)(k:Nat):Prop:=TOk M T k/\(T.mkr=c_->∃j,j+4<=k/\(∀x F,T.H.lookup x=a_ F->∃k' ps,k'<=j+1/\FnC M x k' ps F)/\(∀x vf,T.Z.F.lookup x=a_ vf->∃k' d,d<=3/\k'<=j+1/\FnR M T.Z.cl x k' d vf) /\ ∀caps capv cds base,iW M.mg base->TOk (M.to caps capv cds base) T.bare j)
def IOk(M:Mo)(X:Cx)(tg it:Expr)(mi:MI):Prop:= ∃wi,PI X tg it wi /\
 (∀i ms D σ H,tMS M.K (fv i mi ms) D σ H->HD wi (pv i) (tMS M.K ms) D σ H) /\
 (∀mt mc σ H Q,tM M.K (bY mi mt mc) σ H Q->yw wi (tMT M.K mt) (tM M.K mc) σ H Q)
structure Snd(M:Mo)(T:Tb)(k n:Nat):Prop where
 e:∀N ns e m,cE T n N ns e=a_ m->∀X,Sc M X k N ns->PE X e (tM M.K m)
 c:∀N ns g as m,cC T n N ns g as=a_ m->hV ns g=c_->g8 g=c_->∀a r,as=a::r->∀X p1 pos,Sc M X k N ns->PE X (.Call (.Name g p1) as [] pos) (tM M.K m)
 v:∀N ns g as m,cV T n N ns g as=a_ m->∀a r,as=a::r->∀X p1 pos,Sc M X k N ns->PE X (.Call (.Name g p1) as [] pos) (tM M.K m)
 v0:∀N ns g m,cV T n N ns g []≠a_ m
 o:∀N ns o m,cO T n N ns o=a_ m->∀X,Sc M X k N ns->sf M X o m
 t:∀N ns e m,cT T n N ns e=a_ m->∀X,Sc M X k N ns->PT X e (tMT M.K m)
 l:∀N ns b vs m pos,cL T n N ns b vs=a_ m->∀X,Sc M X k N ns->PW X (.BoolOp (if b then .And else .Or) vs pos) (tMT M.K m)
 f:∀N ns vs m,cF T n N ns vs=a_ m->∀X,Sc M X k N ns->PTs X vs (tMT M.K m)
 a:∀N ns es m,cA T n N ns es=a_ m->∀X,Sc M X k N ns->PA X es (tMA M.K m)
 i:∀N ns tg it m,cI T n N ns it=a_ m->∀X,Sc M X k N ns->IOk M X tg it m
 g:∀N ns e m,cG T n N ns e=a_ m->∀X,Sc M X k N ns->PG X e (tG M.K m)
 gs:∀N ns es m,cGs T n N ns es=a_ m->∀X,Sc M X k N ns->PGs X es (tGs M.K m)
 s:∀N ns st m,cS T n N ns st=a_ m->∀X,Sc M X k N ns->PS X st (tMS M.K m)
 b:∀N ns sts m,cB T n N ns sts=a_ m->∀X,Sc M X k N ns->PSs X sts (tMS M.K m)
theorem gE{α:Type}{x:α}{P:Prop}(h:(b_:Option α)=a_ x):P:=by cases h
section
variable {M:Mo}{T:Tb}{k n:Nat}
variable{ns:NS}{X:Cx}{pos:Pos}
theorem IS{a b c:Expr}{ma mb mc:ME}{op Wx:CmpOp}{f g:F2}(h:CT op=a_ f)(h':CT Wx=a_ g)(S:Sc M X k N ns)(ha:PE X a (tM M.K ma))(hb:PE X b (tM M.K mb))(hc:PE X c (tM M.K mc))(hs:lq c=c_):
  PE X (.Compare a [op,Wx] [b,c] pos) (tM M.K (mCh f g ma mb mc))/\PT X (.Compare a [op,Wx] [b,c] pos) (tMT M.K (cOf (mCh f g ma mb mc))):=by
 obtain⟨r,ho,ou⟩:=JK S h;obtain⟨r',YG,TR⟩:=JK S h';have hm:lastMarks [op,Wx] [b,c]=d_:=zb hs _
 exact⟨PE.con ((by
   intro pins s σ H Q I h
   refine Compare_chain (thn (ha _ s σ H _ I h) λv s1 ⟨x,H1,I1,r1,q1⟩=>chain_link (thn (hb _ s1 σ H1 _ I1 q1) λu s2 ⟨y,H2,I2,r2,q2⟩=>
    thn (ho _ s2 σ H2 x y v u _ I2 r1 r2 q2) λd s3 ⟨z,H3,I3,r3,k,e,q3⟩ =>?_)) hm
   subst e;cases r3;refine eK ?_;cases k with
   |false=>exact ite_ff ⟨.bl _,H3,I3,rfl,q3⟩
   |true=>exact ite_tt (chain_last (thn (hc _ s3 σ H3 _ I3 q3) λw' s4 ⟨z',H4,I4,r4,q4⟩=>YG _ s4 σ H4 y z' u w' Q I4 r2 r4 q4)))) λ_ _ _ h=>DY ou TR h,PT.con ((by
   intro pins s σ H Q I h
   refine isTrue_chain (thn (ha _ s σ H _ I h) λv s1 ⟨x,H1,I1,r1,q1⟩=>test_link (thn (hb _ s1 σ H1 _ I1 q1) λu s2 ⟨y,H2,I2,r2,q2⟩=>
    thn (ho _ s2 σ H2 x y v u _ I2 r1 r2 q2) λd s3 ⟨z,H3,I3,r3,k,e,q3⟩ =>?_)) hm
   subst e;cases r3;refine eK ?_;cases k with
   | false=>
     obtain⟨k',e',q'⟩:=q3;cases e';exact ite_ff ⟨H3,I3,q'⟩
   | true=>
     refine ite_tt (test_last (thn (hc _ s3 σ H3 _ I3 q3) λw' s4 ⟨z',H4,I4,r4,q4⟩=>thn (YG _ s4 σ H4 y z' u w' _ I4 r2 r4 q4) λd' s5 ⟨z2,H5,I5,r5,k2,e2,q5⟩=>?_));subst e2;cases r5
     exact eK ⟨H5,I5,q5⟩)) λ_ _ _ h=>Dg (λ_ q=>DY ou TR q) h⟩
theorem NW{t:Str}{c:String}(h:IP t=a_ c):bootBuiltins t=a_ (.type c)/\c∈mI/\t≠"__name__"/\(t==("__debug__":Str))=d_/\t∈ly:=by
 unfold IP at h
 repeat' split at h
 all_goals first
  | cases h
    done
  | (rename_i q
     cases h;rw[eq_of_beq q]
     exact⟨by decide +kernel,by decide,by decide +kernel,by decide +kernel,by decide +kernel⟩)
variable{ZP:MA}
theorem KC{g:Str}{e:Expr}{es:List Expr}{p1:Pos}{mf:MF}(O:TOk M T k)(h:MJ g=a_ mf)(hg:hV ns g=c_)(S:Sc M X k N ns)(ha:PA X (e::es) (tMA M.K ZP))(hs:(e::es).all notStar=c_):
  PE X (.Call (.Name g p1) (e::es) [] pos) (tM M.K (mFn mf ZP)):=by
 rw[cH,aE]at hs;have he:=dF hs.1 es X.env;have hp:=zX pos X.env hs.2;unfold MJ at h
 repeat' split at h
 all_goals first
  |(cases h;done)
  | (rename_i q
     cases h;rw[eq_of_beq q]at hg ⊢
     first
      |exact Iu S hg (O.B _ (by decide +kernel)) ha he hp
      |exact Lr S hg (O.B _ (by decide +kernel)) ha he hp
      |exact MM S hg (O.B _ (by decide +kernel)) ha he hp
      |exact PD S hg (O.B _ (by decide +kernel)) ha he hp
      |exact QT S hg (O.B _ (by decide +kernel)) ha he hp
      |exact QN S hg (O.B _ (by decide +kernel)) ha he hp
      | exact Jd S hg (O.B _ (by decide +kernel)) ha he hp)
theorem LG{name:Str}{a o:Expr}{mo m:ME}{p1:Pos}(h:Iv name mo ZP=a_ m)(S:Sc M X k N ns)(ho:PE X o (tM M.K mo))(ha:PA X [a] (tMA M.K ZP))(hb:baseOk o=c_)(hl:(p1.endLine==pos.line)=c_)(hs:notStar a=c_):
  PE X (.Call (.Attribute o name p1) [a] [] pos) (tM M.K m):=by
 unfold Iv at h
 repeat' split at h
 all_goals first
  |(cases h;done)
  | (rename_i q
     cases h;rw[eq_of_beq q]
     first
      |exact GK S ho ha (qD hb _ _) (yO hs _ _) hl (dF hs _ _) rfl
      |exact KP S ho ha (qD hb _ _) (yO hs _ _) hl (dF hs _ _) rfl
      | refine PE.con ?_ λ_ _ _ h=>Ky h
        rw[<-S.hK];exact Jv S.room.units ho ha (qD hb _ _) (yO hs _ _) hl (dF hs _ _) rfl
      | exact PE.con (HQ i9 PySem.F.slot_list_extend PySem.F.type_list_extend Lq ho ha (qD hb _ _) (yO hs _ _) hl (dF hs _ _) rfl) λ_ _ _ h=>S.hK▸Ot FV h)
end
section
variable {M:Mo}{T:Tb}{k n:Nat}
variable{ps:List Str}{ns:NS}
theorem AF{sc:Scope}(h:CW ps sc ns=c_):nO ps (frees sc) sc /\ ∀y∈frees sc,ns.lookup y=a_ .cell/\(y,br)∈sc.names:=by
 unfold CW at h;simp only[aE,dc,Bool.not_eq_true',decide_eq_true_eq]at h;obtain⟨⟨⟨⟨⟨⟨h1,h2⟩,h3⟩,h4⟩,h5⟩,h6⟩,h7⟩:=h;have fm:∀y∈frees sc,(y,br)∈sc.names:=λy hy=>by
  obtain⟨z,hz,e⟩:=aw.mp hy
  grind
 refine⟨⟨eq_of_beq h1,h2,h3,h4,λp hp=>?_,λx hx e=>?_,λy hy e=>aw.mpr ⟨y,bw.mpr ⟨hy,by rw[e];rfl⟩,rfl⟩,λy hy=>eq_of_beq (h7 y hy).1⟩,λy hy=>⟨eq_of_beq (h7 y hy).2,fm y hy⟩⟩
 .grind
 .have:=h6 x hx
  simp_all
theorem GOk.of(O:TOk M T k)(h:T.mkr=d_):GOk M T k:=⟨O,λz=>by grind⟩
theorem Qy(O:TOk M T k)(R:Snd M T k n):∀N ns g as m,cV T (n+1) N ns g as=a_ m->∀a r,as=a::r->∀X p1 pos,Sc M X k N ns->PE X (.Call (.Name g p1) as [] pos) (tM M.K m):=by
 intro N ns g as m h a r e X p1 pos S;subst e;simp only[cV,rc,sV]at h
 split at h
 .rename_i hs
  rw[aE]at hs;obtain⟨q,e1,h⟩:=bind_eq h;obtain⟨i,e2,h⟩:=bind_eq h;obtain⟨ZP,e3,rfl⟩:=map_eq h;obtain⟨k',ps,hk,F⟩:=O.L _ _ e1;have ZW:=iw e3;rw[cH,aE]at ZW;obtain⟨n1,n2⟩:=i8 hs.2;exact Kf S F hk i (slot_get e2) hs.1 (R.a _ _ _ _ e3 X S) n1 n2 (dF ZW.1 _ _) (zX _ _ ZW.2)
 grind
section
variable {N:List Str}{ns:NS}{X:Cx}{m:ME}
variable{vs:List Expr}
theorem OE(R:Snd M T k n){op:BoolOp}{p:Pos}(h:eBo (rc n) T N ns op p vs=a_ m)(S:Sc M X k N ns):PE X (.BoolOp op vs p) (tM M.K m):=by
 unfold eBo at h
 split at h
 .cases h
 .exact λpins s σ H Q I hw=>BoolOp_one ((R.e _ _ _ _ h X S) _ s σ H Q I hw)
 .obtain⟨ma,e1,h⟩:=bind_eq h
  cases op
  .obtain⟨mb,e2,rfl⟩:=map_eq h
   exact PE.con (MP (R.e _ _ _ _ e1 X S) (R.e _ _ _ _ e2 X S)) λ_ _ _ h=>Oz h
  .obtain⟨mb,e2,rfl⟩:=map_eq h
   exact PE.con (Qp (R.e _ _ _ _ e1 X S) (R.e _ _ _ _ e2 X S)) λ_ _ _ h=>(by
  obtain⟨μ,S,G,u,S',hr,er,e,k⟩:=h;obtain⟨x,S1,e1,e⟩:=be e;refine 3#4
  split at e
  .cases e
   exact⟨_,kB rx,vT (k _ _ H1 p1 k1 ZZ jW)⟩
  .exact⟨_,kB rx,u0 ⟨_,S1,G,u,S',ZZ,er.mono k1 p1,e,k.mono p1 k1⟩⟩
  ·cases e)
variable{pos:Pos}
theorem G8(R:Snd M T k n){a:Expr}{ops:List CmpOp}{bs:List Expr}(h:eCm (rc n) T N ns a ops bs=a_ m)(S:Sc M X k N ns):PE X (.Compare a ops bs pos) (tM M.K m)/\PT X (.Compare a ops bs pos) (tMT M.K (cOf m)):=by
 unfold eCm at h
 split at h
 .split at h
  .rename_i hs
   obtain⟨ma,e1,h⟩:=bind_eq h;obtain⟨mb,e2,h⟩:=bind_eq h;obtain⟨f,e3,rfl⟩:=map_eq h;have ha:=R.e _ _ _ _ e1 X S;have hb:=R.e _ _ _ _ e2 X S;obtain⟨r,ho,ou⟩:=JK S e3
   exact⟨PE.con ((λpins s σ H Q I h=>wpAny_Compare1 (Ox ha hb I h λv u s2 x y H2 I2 rx ry q=>ho _ s2 σ H2 x y v u Q I2 rx ry q) (zb hs _))) λ_ _ _ e3=>yR ou e3,PT.con ((by
     intro pins s σ H Q I h
     refine wpAny_isTrue_Compare1 (thn (ha _ s σ H _ I h) λv s1 ⟨x,H1,I1,r1,q1⟩=>thn (hb _ s1 σ H1 _ I1 q1) λu s2 ⟨y,H2,I2,r2,q2⟩=>
      thn (ho _ s2 σ H2 x y v u _ I2 r1 r2 q2) λc s3 ⟨z,H3,I3,r3,k,e,q3⟩ =>?_) (zb hs _)
     subst e;cases r3
     exact eK ⟨H3,I3,q3⟩)) λ_ _ _ e3=>Dg (λ_ q=>yR ou q) e3⟩
  .cases h
 .split at h
  .rename_i hs
   rw[aE]at hs;obtain⟨ma,e1,h⟩:=bind_eq h;obtain⟨mb,e2,h⟩:=bind_eq h;obtain⟨mc,e3,h⟩:=bind_eq h;obtain⟨f,e4,h⟩:=bind_eq h;obtain⟨g,e5,rfl⟩:=map_eq h;exact IS e4 e5 S (R.e _ _ _ _ e1 X S) (R.e _ _ _ _ e2 X S) (R.e _ _ _ _ e3 X S) hs.2
  .cases h
 .cases h
theorem NX(R:Snd M T k n){a b:Expr}(h:eSb (rc n) T N ns a b=a_ m)(S:Sc M X k N ns):PE X (.Subscript a b pos) (tM M.K m):=by
 unfold eSb at h
 split at h
 .rename_i lo hi st p
  cases st with
  | none=>
    obtain⟨ma,e1,h⟩:=bind_eq h;obtain⟨ml,e2,h⟩:=bind_eq h;obtain⟨mh,e3,rfl⟩:=map_eq h
    exact PE.con ((by
      intro pins s σ H Q I h;refine Subscript_ (thn ((R.e _ _ _ _ e1 X S) _ s σ H _ I h) λv s1 ⟨x,H1,I1,r1,q1⟩=>?_);refine wpAny_Slice (thn ((R.o _ _ _ _ e2 X S).po _ s1 σ H1 _ I1 q1) λvl s2 ⟨l,H2,I2,pl,q2⟩=>thn ((R.o _ _ _ _ e3 X S).po _ s2 σ H2 _ I2 q2) λvu s3 ⟨u,H3,I3,pu,q3⟩=>?_);refine aj ?_;obtain⟨T,id,hT,ht,hg⟩:=(S.hK▸(SlR.or MH (SlR.or G9 KO))) _ _ σ H3 x v vl vu l u _ Q (I3.kept λb ob q=>af _ q) r1 (Heap.IsSliceOf.new ..) pl pu q3
      exact tail_any ht hT hg (by with_unfolding_all rfl))) λ_ _ _ h=>Kx h
  | some s=>
    cases h
 .split at h
  .rename_i hs
   obtain⟨ma,e1,h⟩:=bind_eq h;obtain⟨mb,e2,rfl⟩:=map_eq h
   exact PE.con (Qe (IxR.or (S.hK▸(KN.or (Mz.or MZ))) ((by
     intro value slice pins s σ H x y v u Q I rx ry h hs;obtain⟨a,w,rfl,g,q⟩:=h;obtain rfl:v=bZ a:=rx
     exact tail_any (AG I g) PySem.F.slot_dict_getitem.lookup (Fx (by have:=S.room.units;lia) I g ry λw' s3 I3 Zc=>⟨w,H,I3,Zc,q⟩) hs))) (R.e _ _ _ _ e1 X S) (R.e _ _ _ _ e2 X S) (QV hs)) λ_ _ _ h=>yR QI h
  .cases h
theorem Ni(R:Snd M T k n){ks:List (Option Expr)}(h:eDi (rc n) T N ns ks vs=a_ m)(S:Sc M X k N ns):PE X (.Dict ks vs pos) (tM M.K m):=by
 unfold eDi at h
 split at h
 ·cases h;exact PE.con GW λ_ _ _ h=>(by
   obtain⟨μ,S,G,u,S',hr,er,e,k⟩:=h;cases e;intro p hp
   exact k _ _ _ ⟨_,rfl⟩ (bD.new hp) (Er hr hp) (z7 (DO hr)))
 .obtain⟨ma,e1,h⟩:=bind_eq h
  obtain⟨mb,e2,rfl⟩:=map_eq h
  exact PE.con ((by
    intro pins s σ H Q I q;refine wpAny_Dict_walk (knd:=fN _ _) rfl rfl 0#4 0#4 (thn ((GX (R.e _ _ _ _ e1 X S) (R.e _ _ _ _ e2 X S) (show PPs X pos [] [] [] from λpins s σ H Q I h=>pairTrees_nil_walk ⟨[],H,I,.nil,h⟩)) _ _ σ _ _ (I.laid (t':=s.toks) (λ_ _ q=>af _ q) (ak _) (AZ _ I.big)) (q _ (I.hok.fresh (ak _)))) λws s2 ⟨ps,H2,I2,rel,e,kvs,ep,lk,q2⟩=>?_);subst ep;obtain⟨rs,c,rk⟩:=wa rel;obtain⟨z,hd,TN,r0,dd⟩:=Mr I2.hok e;cases r0;refine⟨rs,c,dd,λh' WR hs=>⟨.ref _,_,?_,rfl,q2⟩⟩;have hz:(sk [] kvs).length<=sizeLine:=by
     have h1:=pK kvs [];rw[Aj]at h1;rw[sizeLine_eq];lia
    exact zH I2 (by rw[e];exact gI) hs (let ⟨q,_,_,hq,_⟩:=WR;⟨q,hq⟩) (HV hz hd (rk.merge .nil) WR))) λ_ _ _ h=>NK h
 .cases h
theorem Na(O:TOk M T k)(R:Snd M T k n){elt:Expr}{scope:Scope}{gens:List Comprehension}(h:eLc (rc n) T N ns elt scope gens=a_ m)(S:Sc M X k N ns):PE X (.ListComp elt gens scope pos) (tM M.K m):=by
 unfold eLc at h
 split at h
 rotate_left
 .cases h
 rename_i c
 obtain⟨tg,it,ifs,ia⟩:=c
 split at h
 rotate_left
 .cases h
 rename_i h0
 have Uq:ia=0:=h0;subst Uq;have h:eLt (rc n) T N ns elt it ifs scope tg=a_ m:=h;unfold eLt at h
 split at h
 .split at h
  .rename_i hs
   rw[aE,aE]at hs;have hk:=eq_of_beq hs.1.1;have ok:=hs.1.2;have hs:=hs.2;unfold eLn at h;obtain⟨mi,e1,h⟩:=bind_eq h;obtain⟨mt,e2,h⟩:=bind_eq h;obtain⟨mc,e3,rfl⟩:=map_eq h;obtain⟨wi,h1,_,h3⟩:=R.i _ _ _ _ _ e1 X S;exact IL S hk ok h1 (λX' S'=>R.f _ _ _ _ e2 X' S') (λX' S'=>R.e _ _ _ _ e3 X' S') (h3 mt mc) (uo hs _)
  .cases h
 .cases h
theorem Nx(Gk:GOk M T k)(R:Snd M T k n)(RA:∀M T k,GOk M T k->Snd M T k n){g:Str}{as:List Expr}{p1:Pos}(h:eCf (rc n) T N ns g as=a_ m)(S:Sc M X k N ns)(hg:hV ns g=c_)(hn:g8 g=c_):
  PE X (.Call (.Name g p1) as [] pos) (tM M.K m):=by
 have O:=Gk.1;unfold eCf at h
 split at h
 .obtain⟨mf,e1,rfl⟩:=map_eq h
  obtain⟨k',ps,hk,F⟩:=O.D _ _ e1;obtain⟨f,fd,hm,Yt,hb,F⟩:=F.ex;rw[<-S.hP,<-S.hw,<-S.hK,<-S.hm,<-S.hb]at F;rw[<-S.hm]at hm;rw[<-S.hK]at Yt hb;refine PE.con (GZ F (S.room.mono hk) (S.gl hg) hm Yt hb .nil EU (i8 hn).1) λσ H Q h=>?_;obtain⟨μ,S,G,u,S',hr,er,e,kk⟩:=h;exact⟨μ,S,[],u,S',hr,.nil,e,kk⟩
 .unfold eC1 at h
  split at h
  .split at h
   .rename_i hl
    rw[aE,Bool.or_eq_true]at hl
    split at h
    .rename_i hr
     rw[eq_of_beq hl.2]at hr ⊢;have hl:=hl.1.imp eq_of_beq eq_of_beq;unfold eRg at h
     split at h
     .rcases hl with rfl|rfl
      .rw[if_pos 0#9]at h
       obtain⟨ma,e1,rfl⟩:=map_eq h;have ZW:=iw e1;simp only[cH,gJ,fW]at ZW;exact Ij S hg (O.B _ 0#9) hr (O.B _ 0#9) (R.a _ _ _ _ e1 X S) ZW
      .rw[if_neg 0#9]at h
       obtain⟨ma,e1,rfl⟩:=map_eq h;have ZW:=iw e1;simp only[cH,gJ,fW]at ZW;exact Ki S hg (O.B _ 0#9) hr (O.B _ 0#9) (R.a _ _ _ _ e1 X S) ZW
     .rcases hl with rfl|rfl
      .rw[if_pos 0#9]at h
       obtain⟨ma,e1,rfl⟩:=map_eq h;have ZW:=iw e1;simp only[cH,gJ,fW,aE]at ZW;exact Hz S hg (O.B _ 0#9) hr (O.B _ 0#9) (R.a _ _ _ _ e1 X S) ZW.1 ZW.2
      .rw[if_neg 0#9]at h
       cases h
     .cases h
    .cases h
   .split at h
    .rename_i hl
     rw[aE]at hl
     split at h
     .rename_i hr
      rw[eq_of_beq hl.2]at hr ⊢;rw[eq_of_beq hl.1]at hg ⊢;unfold eSS at h
      split at h
      .obtain⟨ma,e1,rfl⟩:=map_eq h
       have ZW:=iw e1;simp only[cH,gJ,fW]at ZW;exact PE.con (S.hK▸QD S.calm (S.gl hg) (by rw[S.hm];exact(O.B _ 0#9)) (S.gl hr) (by rw[S.hm];exact(O.B _ 0#9)) (R.a _ _ _ _ e1 X S) (by rw[dF ZW])) λ_ _ _ h=>zY Py h
      .cases h
     .cases h
    .exact R.c _ _ _ _ _ h hg hn _ _ rfl X _ _ S
  .split at h
   .rename_i hs
    obtain⟨h1,_⟩:=Bool.and_eq_true_iff.mp hs;rw[eq_of_beq h1]at hg ⊢;obtain⟨ma,e1,rfl⟩:=map_eq h;have ZW:=iw e1;simp only[cH,gJ,fW]at ZW;exact PE.con (kl (S.hK▸λpins s σ H xs us Q I rs h=>h.elim (Cy pins s σ H xs us Q I rs) (tD S.calm pins s σ H xs us Q I rs)) (S.gl hg) (by rw[S.hm];exact(O.B _ 0#9)) kX (R.a _ _ _ _ e1 X S) 0#2 0#2 (dF ZW _ _) rfl) λ_ _ _ h=>zY Jj h
   .exact R.c _ _ _ _ _ h hg hn _ _ rfl X _ _ S
 .unfold eC2 at h
  split at h
  .unfold eIs at h
   split at h
   .rename_i hl
    split at h
    .rename_i ht
     obtain⟨c,e1,h⟩:=bind_eq h;obtain⟨ma,e2,rfl⟩:=map_eq h;obtain⟨c1,c2,c3,c4,c5⟩:=NW e1;rw[aE]at ht;rw[eq_of_beq hl]at hg ⊢;exact P9 S hg (O.B _ 0#9) ht.1 (O.B _ c5) c1 c2 c3 c4 (R.e _ _ _ _ e2 X S) ht.2
    .cases h
   .exact R.c _ _ _ _ _ h hg hn _ _ rfl X _ _ S
  .unfold QY at h
   split at h
   .rename_i hs
    rw[aE,aE]at hs;obtain⟨⟨hT,Vo⟩,ZW⟩:=hs;obtain⟨ps,e0,h⟩:=bind_eq h
    split at h
    .rename_i hl
     obtain⟨is,e1,h⟩:=bind_eq h;obtain⟨ma,e2,h⟩:=bind_eq h;obtain⟨ml,e3,h⟩:=bind_eq h;obtain⟨F,e4,rfl⟩:=map_eq h;obtain⟨c,q,P,U4,MK⟩:=O.mkr hT;rw[eq_of_beq Vo]at MK;obtain⟨j,hj,hH,hF,hB⟩:=Gk.2 hT;obtain⟨k',W3,YM,FC⟩:=hH _ _ e4;obtain⟨LS,XX⟩:=AF hl;exact Lj S FC YM 0#0 U4 MK hg (i8 hn).1 (R.e _ _ _ _ e2 X S) (dF ZW _ _) e0 LS XX e1
      λcaps capv cds base hb X' S'=>(RA _ _ _ ⟨hB caps capv cds base hb,λz=>by cases z⟩).e _ _ _ _ e3 X' S'
    .cases h
   .cases h
  .exact R.c _ _ _ _ _ h hg hn _ _ rfl X _ _ S
 .exact R.c _ _ _ _ _ h hg hn _ _ rfl X _ _ S
end
theorem P6(Gk:GOk M T k)(R:Snd M T k n)(RA:∀M T k,GOk M T k->Snd M T k n):∀N ns e m,cE T (n+1) N ns e=a_ m->∀X,Sc M X k N ns->PE X e (tM M.K m):=by
 have O:=Gk.1;intro N ns e m h X S;cases e with
 | Name x p=>
   have h:(if g8 x then(if xj ns x then(slot N x).map _ else if hV ns x then(T.C.lookup x).map mC else b_) else b_)=a_ m:=h
   split at h
   .rename_i hn
    obtain⟨n1,n2⟩:=i8 hn
    split at h
    .rename_i hv
     obtain⟨i,e1,rfl⟩:=map_eq h;exact P7 S i (slot_get e1) hv n1 n2
    .split at h
     .rename_i hg
      obtain⟨u,e1,rfl⟩:=map_eq h;obtain⟨g,v,hm,r,hv⟩:=O.C _ _ e1;exact PE.con ((λ_ _ _ H _ I h=>uu I (S.gl hg) (by rw[S.hm];omega) ⟨v,H,I,r,h⟩ n1)) λ_ _ _ h=>r_c hv h
     .cases h
   .cases h
 |Constant c j p=>
           cases c<;>first |grind |skip
           all_goals cases h
           all_goals first |exact PE.con Nj λ_ _ _ h=>r_c (λ_ _=>fZ) h |exact PE.con Rm λ_ _ _ h=>r_c (λ_ _=>jW) h |exact PE.con OS λ_ _ _ h=>r_c (λ_ _=>p8) h |exact PE.con Nk λ_ _ _ q=>r_c (λ_ _=>by simp[RU]) q
 | BinOp a op b p=>
   obtain⟨ma,e1,h⟩:=bind_eq (h);obtain⟨mb,e2,h⟩:=bind_eq h;obtain⟨f,e3,rfl⟩:=map_eq h;have ha:=R.e _ _ _ _ e1 X S;have hb:=R.e _ _ _ _ e2 X S;cases op<;>simp only[Q3,kY,reduceCtorEq]at e3<;>subst e3
   .exact PE.con (ym (Oe.or (OpR.or (S.hK▸Ks) (S.hK▸K1))) ha hb) λ_ _ _ h=>yR Nf h
   .exact PE.con (ym M5 ha hb) λ_ _ _ h=>yR OA h
   .exact PE.con (ym (Mx.or (S.hK▸KY)) ha hb) λ_ _ _ h=>yR Nv h
   .exact PE.con (ym Oi ha hb) λ_ _ _ h=>yR (CZ (λx y S u S' h=>by unfold oMod at h;split at h<;>simp_all) λ_ _ _ _=>fZ) h
   .exact PE.con (ym NC ha hb) λ_ _ _ h=>yR Nu h
   .exact PE.con (ym KU ha hb) λ_ _ _ h=>yR NO h
 |UnaryOp op a p=>
           cases op<;>first | (cases h) |skip
           all_goals obtain⟨ma,e1,rfl⟩:=map_eq h
           all_goals first |exact PE.con (Po NV (R.e _ _ _ _ e1 X S)) λ_ _ _ h=>RJ ON h |exact PE.con (NM (R.e _ _ _ _ e1 X S)) λ_ _ _ h=>(by
  obtain⟨μ,S,G,u,S',hr,er,e,k⟩:=h;obtain⟨x,S1,e1,e⟩:=be e;refine 3#4;unfold xi at e
  split at e
  .cases e
   exact⟨_,kB rx,k _ _ H1 p1 k1 ZZ jW⟩
  ·cases e)
 |BoolOp op vs p=>exact OE R h S
 |Compare a ops bs p=>exact(G8 R h S).1
 | IfExp c a b p=>
   obtain⟨mc,e1,h⟩:=bind_eq (h);obtain⟨ma,e2,h⟩:=bind_eq h;obtain⟨mb,e3,rfl⟩:=map_eq h
   exact PE.con ((by
     intro pins s σ H Q I h;refine wpAny_IfExp (thn ((R.t _ _ _ _ e1 X S) _ s σ H _ I h) λd s1 ⟨H1,I1,q1⟩=>?_);cases d with
     |true=>exact(R.e _ _ _ _ e2 X S) _ s1 σ H1 Q I1 q1
     | false=>exact(R.e _ _ _ _ e3 X S) _ s1 σ H1 Q I1 q1)) λ_ _ _ h=>PY h
 |Subscript a b p=>exact NX R h S
 |Dict ks vs p=>exact Ni R h S
 | Tuple es j p=>
   obtain⟨ma,e1,rfl⟩:=map_eq (h);exact P0 (R.a _ _ _ _ e1 X S)
 | List es p=>
   obtain⟨ma,e1,rfl⟩:=map_eq (h);exact Px (R.a _ _ _ _ e1 X S)
 |ListComp elt gens scope p=>exact Na Gk.1 R h S
 | Call f as Vj q=>
   cases Vj with
   |cons w ws=>cases h
   | nil=>
     have h:eCa _ T N ns as q f=a_ m:=h;unfold eCa at h
     split at h
     .split at h
      .rename_i hs
       rw[aE]at hs;exact Nx Gk R RA h S hs.1 hs.2
      .cases as with
       |nil=>exact absurd h (R.v0 _ _ _ _)
       |cons a r=>exact R.v _ _ _ _ _ h _ _ rfl X _ _ S
     .unfold eMe at h
      split at h
      .split at h
       .rename_i hs
        rw[aE,aE]at hs;obtain⟨mo,e1,rfl⟩:=map_eq h;rw[eq_of_beq hs.2];exact PE.con (Ng i9 Fc Fd Og (R.e _ _ _ _ e1 X S) (qD hs.1.1 _ _) hs.1.2) λ_ _ _ h=>S.hK▸PF OM h
       .cases h
      .split at h
       .rename_i hs
        rw[aE,aE]at hs;obtain⟨mo,e1,h⟩:=bind_eq h;obtain⟨ZP,e2,h⟩:=bind_eq h;exact LG h S (R.e _ _ _ _ e1 X S) (R.a _ _ _ _ e2 X S) hs.1.1 hs.1.2 hs.2
       .cases h
      .cases h
     .cases h
 |_=>cases h
theorem PZ(O:TOk M T k)(R:Snd M T k n):∀N ns g as m,cC T (n+1) N ns g as=a_ m->hV ns g=c_->g8 g=c_->∀a r,as=a::r->∀X p1 pos,Sc M X k N ns->PE X (.Call (.Name g p1) as [] pos) (tM M.K m):=by
 intro N ns g as m h hg hn a r e X p1 pos S;subst e;obtain⟨ZP,e1,h⟩:=bind_eq h;have ZW:=iw e1
 split at h
 .rename_i mf hb
  cases h;exact KC O hb hg S (R.a _ _ _ _ e1 X S) ZW
 .obtain⟨mf,e2,rfl⟩:=map_eq h
  obtain⟨k',ps,hk,F⟩:=O.D _ _ e2;rw[cH,aE]at ZW;obtain⟨f,fd,hm,Yt,hb,F⟩:=F.ex;rw[<-S.hP,<-S.hw,<-S.hK,<-S.hm,<-S.hb]at F;rw[<-S.hm]at hm;rw[<-S.hK]at Yt hb;exact PE.con (LB F (S.room.mono hk) (S.gl hg) hm Yt hb .nil EU (R.a _ _ _ _ e1 X S) (i8 hn).1 (dF ZW.1 _ _) (zX _ _ ZW.2)) λ_ _ _ h=>Jz h
theorem PL(R:Snd M T k n):∀N ns o m,cO T (n+1) N ns o=a_ m->∀X,Sc M X k N ns->sf M X o m:=by
 intro N ns o m h X S;simp[cO,rc,sO]at h
 split at h
 .cases h;exact .none
 .obtain⟨me,e1,rfl⟩:=map_eq h
  exact .some (R.e _ _ _ _ e1 X S)
theorem QP(R:Snd M T k n):∀N ns e m,cT T (n+1) N ns e=a_ m->∀X,Sc M X k N ns->PT X e (tMT M.K m):=by
 intro N ns e m h X S;simp[cT,rc,sT]at h
 split at h
 .obtain⟨ma,e1,rfl⟩:=map_eq h
  exact PT.con ((λpins s σ H Q I h=>isTrue_not ((R.t _ _ _ _ e1 X S) _ s σ H _ I h))) λ_ _ _ h=>(by
    obtain⟨μ,S,G,c,S',hr,er,e,k⟩:=h;obtain⟨x,S1,e1,e⟩:=be e;cases e
    exact⟨μ,S,G,x,_,hr,er,e1,λY0 H1 p1 k1 ZZ=>k _ H1 p1 k1 ZZ⟩)
 .exact PW.pt (R.l _ _ _ _ _ _ h X S)
 .exact PW.pt (R.l _ _ _ _ _ _ h X S)
 .obtain⟨mc,e1,rfl⟩:=map_eq h
  exact(G8 R e1 S).2
 .split at h
  .rename_i hs
   obtain⟨ma,e1,rfl⟩:=map_eq h
   exact PT.con ((by
     intro pins s σ H Q I hw;refine isTrue_plain (thn ((R.e _ _ _ _ e1 X S) _ s σ H _ I hw) λv s1 ⟨x,H1,I1,r1,q1⟩=>?_) ((IW hs _) _);obtain⟨d,rfl,q⟩:=q1;cases r1
     exact eK ⟨H1,I1,q⟩)) λ_ _ _ h=>(Dg (λ_ q=>q) h)
  grind
theorem PX(R:Snd M T k n):∀N ns b vs m pos,cL T (n+1) N ns b vs=a_ m->∀X,Sc M X k N ns->PW X (.BoolOp (if b then .And else .Or) vs pos) (tMT M.K m):=by
 intro N ns b vs m pos h X S;simp[cL,rc,sL]at h
 split at h
 .cases h
 .cases b
  .have ha:=R.t _ _ _ _ h X S
   intro wh pins s σ H Q I h;refine isTrue_or (thn (ha _ s σ H Q I h) λc s1 e=>?_);cases c with
   |false=>exact isTrue_or_nil e
   |true=>exact e
  .have ha:=R.t _ _ _ _ h X S
   intro wh pins s σ H Q I h;refine isTrue_and (thn (ha _ s σ H Q I h) λc s1 e=>?_);cases c with
   |true=>exact isTrue_and_nil e
   |false=>exact e
 .rename_i a r hr
  obtain⟨ma,e1,h⟩:=bind_eq h;obtain⟨mr,e2,rfl⟩:=map_eq h;cases r with
  |nil=>exact(hr rfl).elim
  | cons c r=>
    have h2:=R.l _ _ b _ _ pos e2 X S;cases b
    ·exact PW.con ((by
      intro wh pins s σ H Q I h;refine isTrue_or (thn ((R.t _ _ _ _ e1 X S) _ s σ H _ I h) λc s1 ⟨H1,I1,q1⟩=>?_);cases c with
      |true=>exact⟨H1,I1,q1⟩
      | false=>exact h2 wh _ s1 σ H1 Q I1 q1)) λ_ _ _ h=>R0 h
    ·exact PW.con ((by
      intro wh pins s σ H Q I h;refine isTrue_and (thn ((R.t _ _ _ _ e1 X S) _ s σ H _ I h) λc s1 ⟨H1,I1,q1⟩=>?_);cases c with
      |true=>exact h2 wh _ s1 σ H1 Q I1 q1
      | false=>exact⟨H1,I1,q1⟩)) λ_ _ _ h=>Pq h
theorem Rl(R:Snd M T k n):∀N ns vs m,cF T (n+1) N ns vs=a_ m->∀X,Sc M X k N ns->PTs X vs (tMT M.K m):=by
 intro N ns vs m h X S;simp[cF,rc,sF]at h
 split at h
 .cases h;exact MC
 .exact(λpins s σ H Q I q=>ab (ab (thn ((R.t _ _ _ _ h X S) _ s σ H Q I q) λb s1 e=>aj (aj e))))
 .cases h
theorem O6(R:Snd M T k n):∀N ns es m,cA T (n+1) N ns es=a_ m->∀X,Sc M X k N ns->PA X es (tMA M.K m):=by
 intro N ns es m h X S;simp[cA,rc,sA]at h
 split at h
 .cases h;exact PA.con vS λ_ _ _ h=>Rk h
 .split at h
  .rename_i hs
   obtain⟨ma,e1,h⟩:=bind_eq h;obtain⟨mr,e2,rfl⟩:=map_eq h
   exact PA.con (oH (R.e _ _ _ _ e1 X S) (R.a _ _ _ _ e2 X S) (dF hs _ _)) λ_ _ _ h=>(by
     obtain⟨μ,S,G,us,S',hr,er,e,k⟩:=h;obtain⟨x,S1,e1,e⟩:=be e;obtain⟨xs,S2,e2,e⟩:=be e;cases e
     exact⟨μ,S,G,x,S1,hr,er,e1,λY0 vx H1 p1 k1 ZZ rx=>⟨_,S1,G,xs,_,ZZ,er.mono k1 p1,e2,λY7 vs H2 p2 k2 ZS rs=>(k _ _ H2 (p1.trans p2) (k1.trans k2) ZS (.cons (RU.mono k2 p2 x vx rx) rs))⟩⟩)
  grind
variable{X:Cx}
theorem IA{tg e:Expr}{m:ME}(S:Sc M X k N ns)(h:PE X e (tM M.K m)):IOk M X tg e (dq m):=
 ⟨_,(by
   have h:=PI.or (K2 (tg:=tg) h) (MO h);rw[S.hK]at h
   omega),λ_ _ _ _ _ q=>(by
   obtain⟨μ,S,G,r,hr,er,e,fl⟩:=q;obtain⟨src,S1,e1,e⟩:=be e;refine IH hr er e1 (λY0 H1 us p vs p1 k1 ZZ hs hp rs=>?_) λY0 H1 n p p1 k1 ZZ hs hp=>?_
   .subst hs
    exact Nc ZZ (er.mono k1 p1) e (fl.mono p1 k1) hp rs
   .subst hs
    exact Nh ZZ (er.mono k1 p1) e (fl.mono p1 k1) hp),λ_ _ _ _ _ q=>(by
   obtain⟨μ,S,G,u,S',hr,er,e0,k⟩:=q;obtain⟨src,S1,e1,e0⟩:=be e0;obtain⟨ys,S2,e2,e0⟩:=be e0
   split at e0
   .rename_i hz
    cases e0;refine IH hr er e1 (λY0 H1 us p vs p1 k1 ZZ hs hp rs=>?_) λY0 H1 n p p1 k1 ZZ hs hp=>?_
    .subst hs
     refine uS ZZ (er.mono k1 p1) e2 hz (k.mono p1 k1) (λH' kp=>⟨vs,.inl (.inl (kp p vs hp)),by rw[rs.len]<;>simp_all⟩) (λi H' hi kp=>?_) λi H' x Wb u hu kp y=>?_
     .have ZM:i<2#1:=by rw[<-rs.len];omega
      exact⟨vs,vs[i],.inl (.inl (kp p vs hp)),by simp⟩
     .obtain⟨rfl,y⟩:=y
      obtain⟨v,hv,rv⟩:=rs.get hu;have:=y vs (.inl (.inl (kp p vs hp)))
      grind
    .subst hs
     exact Ia ZZ (er.mono k1 p1) e2 hz (k.mono p1 k1) hp
   ·cases e0)⟩
theorem Ql(O:TOk M T k)(R:Snd M T k n):∀N ns tg it m,cI T (n+1) N ns it=a_ m->∀X,Sc M X k N ns->IOk M X tg it m:=by
 intro N ns tg it m h X S;simp only[cI,rc,sI]at h
 split at h
 .split at h
  .rename_i hr
   split at h
   .rename_i hg
    rw[eq_of_beq hr]at hg ⊢
    split at h
    .obtain⟨ma,e1,rfl⟩:=map_eq h
     have ZW:=iw e1;simp only[cH,gJ,fW]at ZW
     exact⟨_,Q9 S hg (O.B _ 0#9) (R.a _ _ _ _ e1 X S) (dF ZW _ _),λ_ _ _ _ _ q=>(by
       obtain⟨μ,S,G,r,hr,er,e,fl⟩:=q;obtain⟨src,S1,e1,e⟩:=be e;refine Md hr er e1 λY0 H1 n p1 k1 ZZ hs=>?_;subst hs
       exact IF ZZ (er.mono k1 p1) e (fl.mono p1 k1)),λ_ _ _ _ _ q=>OZ q⟩
    .obtain⟨ma,e1,rfl⟩:=map_eq h
     have ZW:=iw e1;simp only[cH,gJ,fW,aE]at ZW
     exact⟨_,Ri S hg (O.B _ 0#9) (R.a _ _ _ _ e1 X S) (by rw[dF ZW.1,dF ZW.2];rfl) (by rw[dF ZW.2];rfl),λ_ _ _ _ _ q=>(by
       obtain⟨μ,S,G,r,hr,er,e,fl⟩:=q;obtain⟨src,S1,e1,e⟩:=be e;refine L4 hr er e1 λY0 H1 lo n p1 k1 ZZ hs=>?_;subst hs
       exact IF ZZ (er.mono k1 p1) e (fl.mono p1 k1)),λ_ _ _ _ _ q=>Qw q⟩
    .cases h
   .cases h
  .split at h
   .rename_i hr
    split at h
    .rename_i hg
     rw[eq_of_beq hr]at hg ⊢
     split at h
     .obtain⟨ma,e1,rfl⟩:=map_eq h
      have ZW:=iw e1;simp only[cH,gJ,fW]at ZW
      exact⟨_,(S.hK▸MX (S.gl hg) (by rw[S.hm];exact(O.B _ 0#9)) (R.a _ _ _ _ e1 X S) (dF ZW _ _)),λ_ _ _ _ _ q=>(by
        obtain⟨μ,S,G,r,hr,er,e,fl⟩:=q;obtain⟨src,S1,e1,e⟩:=be e;refine IY hr er e1 λY0 H1 us p vs p1 k1 ZZ hs hp rs=>?_;subst hs
        exact HP ZZ (er.mono k1 p1) e (fl.mono p1 k1) hp rs),λ_ _ _ _ _ q=>Oa q⟩
     .cases h
    .cases h
   .obtain⟨ma,e1,rfl⟩:=map_eq h
    exact IA S (R.e _ _ _ _ e1 X S)
 .obtain⟨ma,e1,rfl⟩:=map_eq h
  exact IA S (R.e _ _ _ _ e1 X S)
theorem QJ(R:Snd M T k n):∀N ns e m,cG T (n+1) N ns e=a_ m->∀X,Sc M X k N ns->PG X e (tG M.K m):=by
 intro N ns e m h X S;simp only[cG,rc,sG]at h
 split at h
 .split at h
  .rename_i hs
   obtain⟨i,e1,rfl⟩:=map_eq h;exact PG.con (Ez (by rw[S.hN];exact S.nd) (by rw[S.hN];exact slot_get e1) (S.lo hs).1 (S.lo hs).2) λ_ _ _ _ q=>RW q
  .cases h
 .obtain⟨gs,e1,rfl⟩:=map_eq h
  obtain⟨h1,h2⟩:=Eu X.env _ (BO e1);refine PG.con (Of S.calm (R.gs _ _ _ _ e1 X S) h1 h2) λ_ _ _ _ q=>?_;rw[S.hK];obtain⟨μ,S,G,u,r,hr,er,ru,e,k⟩:=q;unfold gTp at e
  split at e
  .rename_i us
   split at e
   .obtain⟨a,vs,rfl,ha,rs⟩:=gq ru
    exact⟨a,vs,rfl,.inl (.inl ha),by rw[<-rs.len];omega,μ,S,G,us,r,hr,er,rs,e,k⟩
   .cases e
  .cases e
 .cases h
theorem OL(R:Snd M T k n):∀N ns es m,cGs T (n+1) N ns es=a_ m->∀X,Sc M X k N ns->PGs X es (tGs M.K m):=by
 intro N ns es m h X S;simp[cGs,rc,sGs]at h
 split at h
 ·cases h;exact PGs.con (by
   intro pins s σ H vs us Q I r h;obtain⟨e,h⟩:=h
   exact assignInOrder_nil ⟨σ,H,I,h⟩) λ_ _ _ _ q=>OI q
 .split at h
  .rename_i hs
   obtain⟨g,e1,h⟩:=bind_eq h;obtain⟨gs,e2,rfl⟩:=map_eq h
   exact PGs.con (HN (R.g _ _ _ _ e1 X S) (R.gs _ _ _ _ e2 X S) (by rw[BS hs];rfl)) λ_ _ _ _ q=>(by
     obtain⟨μ,S,G,us,r,hr,er,rs,e,k⟩:=q;cases us with
     |nil=>cases e
     | cons u us=>
       obtain⟨v,vr,rfl,ra,rb⟩:=rs.inv;cases q:g u G S with
       |none=>rw[show iD g gs _ G S=(g u G S).bind _ from rfl,q]at e;cases e
       | some p=>
         rw[show iD g gs _ G S=(g u G S).bind _ from rfl,q]at e
         exact⟨v,vr,rfl,μ,S,G,u,p,hr,er,ra,q,λY0 Y8 H1 p1 k1 ZZ ZG=>⟨_,_,_,us,r,ZZ,ZG,RUs.mono k1 p1 _ _ rb,e,λY7 Y9 H2 p2 k2=>k _ _ H2 (p1.trans p2) (k1.trans k2)⟩⟩)
  grind
variable{it:Expr}{mi:MI}{ts:List Expr}{kt:Nat}
theorem KD(O:TOk M T k)(R:Snd M T k n){pt:Pos}(h:My (rc n) T N ns it=a_ mi)(S:Sc M X k N ns):
  ∃wi,PI X (.Tuple ts kt pt) it wi /\ ∀g mb D σ H,tMS M.K (wG g mi mb) D σ H->HD wi (tG M.K g) (tMS M.K mb) D σ H:=by
 unfold My at h
 split at h
 .split at h
  .rename_i hr
   split at h
   .rename_i hg
    rw[eq_of_beq hr]at hg ⊢;obtain⟨ma,e1,rfl⟩:=map_eq h;have ZW:=iw e1;simp only[cH,gJ,fW,aE]at ZW
    exact⟨_,(S.hK▸Oq (S.gl hg) (by rw[S.hm];exact(O.B _ 0#9)) (R.a _ _ _ _ e1 X S) (dF ZW.1 _ _) (dF ZW.2 _ _)),λ_ _ _ _ _ q=>(by
      obtain⟨μ,S,G,r,hr,er,e,fl⟩:=q;obtain⟨src,S1,e1,e⟩:=be e;refine NZ hr er e1 (λY0 H1 n us p q vs p1 k1 ZZ hs hp hq rs=>?_) λY0 H1 us ws p q xs ys p1 k1 ZZ hs _ _ _ _=>?_
      .subst hs
       exact Ll ZZ (er.mono k1 p1) e (fl.mono p1 k1) hp hq rs
      .subst hs
       cases (show b_=a_ r from e))⟩
   .cases h
  .cases h
 .cases h
theorem Os(O:TOk M T k)(R:Snd M T k n){pt:Pos}(h:eIt (rc n) T N ns it=a_ mi)(S:Sc M X k N ns):
  ∃wi,PI X (.Tuple ts kt pt) it wi /\ ∀g mb D σ H,tMS M.K (wG g mi mb) D σ H->HD wi (tG M.K g) (tMS M.K mb) D σ H:=by
 unfold eIt at h
 .exact KD O R h S
variable{p1:Pos}
theorem KQ{m:MS}(R:Snd M T k n){y:Str}{elt tg:Expr}{ifs:List Expr}{scope:Scope}{p2 p3:Pos}(h:M3 (rc n) T N ns y elt it ifs scope tg=a_ m)(S:Sc M X k N ns):
  PS X (.Assign [.Name y p1] (.ListComp elt [⟨tg,it,ifs,0⟩] scope p2) p3) (tMS M.K m):=by
 unfold M3 at h
 split at h
 .split at h
  .rename_i hs
   rw[aE,aE,aE]at hs;obtain⟨i,e0,h⟩:=bind_eq h;obtain⟨mi,e1,h⟩:=bind_eq h;obtain⟨mt,e2,h⟩:=bind_eq h;obtain⟨mc,e3,rfl⟩:=map_eq h;obtain⟨wi,h1,_,h3⟩:=R.i _ _ _ _ _ e1 X S;exact Np S i (slot_get e0) hs.1 (eq_of_beq hs.2.1.1) hs.2.1.2 h1 (λX' S'=>R.f _ _ _ _ e2 X' S') (λX' S'=>R.e _ _ _ _ e3 X' S') (h3 mt mc) (uo hs.2.2 _)
  .cases h
 .cases h
theorem KZ{m:MS}(R:Snd M T k n){e:Expr}{p3:Pos}(h:MD (rc n) T N ns x e=a_ m)(S:Sc M X k N ns):PS X (.Assign [.Name x p1] e p3) (tMS M.K m):=by
 unfold MD at h
 split at h
 .unfold Rg at h
  split at h
  .rename_i c
   obtain⟨tg,it,ifs,ia⟩:=c
   split at h
   .rename_i h0
    have Uq:=h0;subst Uq;exact KQ R h S
   .cases h
  .cases h
 .split at h
  .rename_i hs
   rw[aE]at hs;obtain⟨i,e1,h⟩:=bind_eq h;obtain⟨me,e2,rfl⟩:=map_eq h;exact LV S i (slot_get e1) hs.1 (R.e _ _ _ _ e2 X S) (yT hs.2 _ _ _)
  grind
theorem O7(O:TOk M T k)(R:Snd M T k n):∀N ns st m,cS T (n+1) N ns st=a_ m->∀X,Sc M X k N ns->PS X st (tMS M.K m):=by
 intro N ns st m h X S;cases st with
 | Assign ts e p=>
   have h:sAs _ T N ns e ts=a_ m:=h;unfold sAs at h
   split at h
   .unfold Ra at h
    split at h
    .exact KZ R h S
    .split at h
     .rename_i hs
      rw[aE]at hs;obtain⟨ma,e1,h⟩:=bind_eq h;obtain⟨mb,e2,h⟩:=bind_eq h;obtain⟨me,e3,rfl⟩:=map_eq h
      exact PS.con (JF (R.e _ _ _ _ e3 X S) (OQ (R.e _ _ _ _ e1 X S) (R.e _ _ _ _ e2 X S) ((by
    intro pins s σ H o i v ov iv u Q I ro ri rv h;rcases h with h|⟨a,H',rfl,g,q⟩
    .exact set_list _ s σ H o i v ov iv u Q I ro ri rv h
    .obtain rfl:ov=bZ a:=ro
     exact Fw (by have:=S.room.units;lia) I g ri rv λs4 I4=>⟨H',I4,q⟩)) (Ow hs.2 _)) (Ei hs.1 _ _ _) Cn rfl) λ_ _ _ h=>Kt h
     .cases h
    .split at h
     .rename_i hs
      rw[aE]at hs;obtain⟨g,e1,h⟩:=bind_eq h;obtain⟨me,e2,rfl⟩:=map_eq h
      exact PS.con (JF (R.e _ _ _ _ e2 X S) (R.g _ _ _ _ e1 X S) (Ei hs.1 _ _ _) ((by
        cases e with
        | Tuple vs k2 p2=>
          have h':=hs.2;unfold EZ at h'
          split at h'
          .unfold swappedStores
           simp_all
          .cases h'
        | _=>rfl)) rfl) λ_ _ _ q=>P4 q
     .cases h
    .cases h
   .cases h
 | AugAssign t op e p=>
   have h:Nm _ T N ns op e t=a_ m:=h;unfold Nm at h
   split at h
   .unfold sAu at h
    split at h
    .split at h
     .rename_i hs
      obtain⟨i,e1,h⟩:=bind_eq h;obtain⟨me,e2,rfl⟩:=map_eq h;exact PS.con (Ou (by rw[S.hN];exact S.nd) (by rw[S.hN];exact(slot_get e1)) (S.lo hs).1 (R.e _ _ _ _ e2 X S) OO (S.lo hs).2) λ_ _ _ h=>O4 h
     .cases h
    .cases h
   .cases h
 | Expr e p=>
   have h:(if l5 e then((rc n).e T N ns e).map _ else b_)=a_ m:=h
   split at h
   .rename_i hs
    obtain⟨me,e2,rfl⟩:=map_eq h;exact PS.con ((λpins s σ H D I h=>wpAny_Expr_any (thn ((R.e _ _ _ _ e2 X S) _ s σ H _ I h) λv s1 ⟨x,H1,I1,r1,q1⟩=>⟨σ,H1,I1,q1⟩) I.quiet (yT hs _ _ _))) λ_ _ _ h=>NR h
   .cases h
 | Return o p=>
   have h:sRt _ T N ns o=a_ m:=h;unfold sRt at h
   split at h
   .obtain⟨me,e2,rfl⟩:=map_eq h
    exact PS.con ((λpins s σ H D I h=>wpAny_Return_some (thn ((R.e _ _ _ _ e2 X S) _ s σ H _ I h) λv s1 ⟨x,H1,I1,r1,q1⟩=>⟨x,σ,H1,I1,r1,q1⟩))) λ_ _ _ h=>(by
      obtain⟨μ,S,G,r,hr,er,e,k⟩:=h;obtain⟨x,S1,e1,e⟩:=be e;cases e
      exact⟨μ,S,G,x,S1,hr,er,e1,k⟩)
   .cases h;exact NA
 | If c a b p=>
   obtain⟨mc,e1,h⟩:=bind_eq h;obtain⟨ma,e2,h⟩:=bind_eq h;obtain⟨mb,e3,rfl⟩:=map_eq h
   exact PS.con (Qn (R.t _ _ _ _ e1 X S) (R.b _ _ _ _ e2 X S) (R.b _ _ _ _ e3 X S)) λ_ _ _ h=>(by
     obtain⟨μ,S,G,r,hr,er,e,k⟩:=h;obtain⟨x,S1,e1,e⟩:=be e;refine⟨μ,S,G,x,S1,hr,er,e1,λY0 H1 p1 k1 ZZ=>?_⟩;cases x with
     |true=>exact vT ⟨_,S1,G,r,ZZ,er.mono k1 p1,e,k.mono p1 k1⟩
     | false=>exact u0 ⟨_,S1,G,r,ZZ,er.mono k1 p1,e,k.mono p1 k1⟩)
 | For t it body els p=>
   have h:Nw _ T N ns t it _ _=a_ m:=h;unfold Nw at h
   split at h
   .unfold sFo at h
    split at h
    .split at h
     .rename_i hs
      rw[aE]at hs;obtain⟨i,e1,h⟩:=bind_eq h;obtain⟨mi,e2,h⟩:=bind_eq h;obtain⟨mb,e3,rfl⟩:=map_eq h;obtain⟨wi,h1,h2,_⟩:=R.i _ _ _ _ _ e2 X S;exact Pi S i (slot_get e1) hs.1 h1 (R.b _ _ _ _ e3 X S) (h2 i mb) (uo hs.2 _)
     .cases h
    .rename_i ts kt pt
     split at h
     .rename_i hs
      obtain⟨g,e1,h⟩:=bind_eq h;obtain⟨mi,e2,h⟩:=bind_eq h;obtain⟨mb,e3,rfl⟩:=map_eq h;obtain⟨wi,h1,h2⟩:=Os O R e2 S;exact PS.con (Hd S.own S.calm h1 (R.g _ _ _ _ e1 X S) (R.b _ _ _ _ e3 X S) (uo hs _)) λ_ _ _ q=>h2 _ _ _ _ _ q
     .cases h
    .cases h
   .cases h
 | While c body els p=>
   have h:sWh _ T N ns c _ _=a_ m:=h;unfold sWh at h
   split at h
   .obtain⟨mc,e1,h⟩:=bind_eq h
    obtain⟨mb,e2,rfl⟩:=map_eq h
    exact PS.con ((by
      intro pins s σ H D I h;obtain⟨W,⟨m0,w0⟩,turn⟩:=h;refine wpAny_While (codeAny_whileLoop (λn s'=>∃Y3 H',Inv X _ Y3 H' s'/\W n Y3 H') ?_ m0 ⟨σ,H,I,w0⟩);rintro n s1 ⟨Y8,H1,I1,w1⟩;refine ir S.own (thn ((R.t _ _ _ _ e1 X S) _ s1 _ H1 _ I1 (turn n _ H1 w1)) λb s2 ⟨H2,I2,q2⟩=>?_);cases b with
      | true=>
        obtain⟨N,hN,q2⟩:=q2;refine ir S.own (thn ((R.b _ _ _ _ e2 X S) _ s2 _ H2 _ I2 q2) λf s3 q3=>?_);cases f with
        | next=>
          obtain⟨X8,H3,I3,n3⟩:=q3;obtain⟨m',hm,w3⟩:=hN _ H3 n3;exact⟨m',hm,_,H3,I3,w3⟩
        | cont=>
          obtain⟨X8,H3,I3,n3⟩:=q3;obtain⟨m',hm,w3⟩:=hN _ H3 n3;exact⟨m',hm,_,H3,I3,w3⟩
        |brk=>exact q3
        |ret v=>exact q3
      | false=>
        exact tY ⟨_,H2,I2,q2⟩)) λ_ _ _ h=>K4 h
   .cases h
 | Pass p=>
   cases h;exact PS.con (λ_ _ σ H _ I h=>wpAny_Pass ⟨σ,H,I,h⟩) λD σ H h=>Hq h
 | Break p=>
   cases h;exact PB
 | Raise a b p=>
   cases h;exact RS
 | Continue p=>
   cases h;exact Q4
 |_=>cases h
theorem OU(Gk:GOk M T k)(R:Snd M T k n)(RA:∀M T k,GOk M T k->Snd M T k n):∀N ns sts m,cB T (n+1) N ns sts=a_ m->∀X,Sc M X k N ns->PSs X sts (tMS M.K m):=by
 intro N ns sts m h X S;simp only[cB,rc,sB]at h
 split at h
 .cases h;exact PSs.con (λ_ _ σ H _ I h=>tY ⟨σ,H,I,h⟩) λ_ _ _ h=>Hq h
 .have h1:=R.s _ _ _ _ h X S
  intro pins s σ H D I h;refine wpAny_execs_cons (thn (h1 _ s σ H D I h) λf s1 q=>?_);cases f with
  |next=>exact tY q
  |ret v=>omega
  |brk=>omega
  |cont=>omega
 .obtain⟨ma,e1,h⟩:=bind_eq h
  obtain⟨mr,e2,rfl⟩:=map_eq h
  exact PSs.con ((by
    intro pins s σ H D I h;refine wpAny_execs_cons (thn ((R.s _ _ _ _ e1 X S) _ s σ H _ I h) λf s1 q=>?_);cases f with
    | next=>
      obtain⟨Y3,H',I',q⟩:=q;exact(R.b _ _ _ _ e2 X S) _ s1 _ H' D I' q
    |ret v=>exact q
    |brk=>exact q
    | cont=>exact q)) λ_ _ _ h=>Pn h
theorem snd:∀n M T k,GOk M T k->Snd M T k n
 |0,M,T,k,_=>⟨λ_ _ _ _ h=>gE h,λ_ _ _ _ _ h=>gE h,λ_ _ _ _ _ h=>gE h,λ_ _ _ _ h=>gE h,λ_ _ _ _ h=>gE h,λ_ _ _ _ h=>gE h,λ_ _ _ _ _ _ h=>gE h,λ_ _ _ _ h=>gE h,λ_ _ _ _ h=>gE h,λ_ _ _ _ _ h=>gE h,λ_ _ _ _ h=>gE h,λ_ _ _ _ h=>gE h,λ_ _ _ _ h=>gE h,λ_ _ _ _ h=>gE h⟩
 | n+1,M,T,k,Gk=>by
   have RA:=snd n;have R:=RA M T k Gk;exact⟨P6 Gk R RA,PZ Gk.1 R,Qy Gk.1 R,λN ns g m h=>(by cases (h)),PL R,QP R,PX R,Rl R,O6 R,Ql Gk.1 R,QJ R,OL R,O7 Gk.1 R,OU Gk R RA⟩
theorem ES{qual:Str}{st:Stmt}{f:e_}{fd:FuncData}{ms:MS}{fu:Nat}(O:TOk M T k)(h0:M.mkr=b_)(h1:T.mkr=d_)(F:Fun M.K x qual st f fd)(S:bo N ps (aH st))(hm:M.mg x=a_ (.ref f))(hb:Binds M.K fd ps [])
  (h:cB T fu N (aH st).names (dJ st)=a_ ms):Fn M x (k+1) ps (run ps.length N.length ms):=
 ⟨f,fd,hm,F.2,hb,IC h0 F S λX S'=>(snd fu M T k (.of O h1)).b _ _ _ _ h X S'⟩
end
structure Def(K:aq)(x:Str)(st:Stmt):Prop where
 ex:∃f fd,fL K mainGlobals x=a_ (a_ (.ref f))/\Fun K x x st f fd
variable{f:e_}{st:Stmt}{K:aq}{od an:Option e_}{sl:Array (Option f_)}
theorem Mw{oc kV doc pm cd ct:f_}(a:fL K mainGlobals x=a_ (a_ (.ref f)))
  (l:K.lookup f=a_ ⟨oc,od,.func (d9 x x (ix st) (dJ st) (aH st) .none kV doc pm an cd ct),sl⟩) (c:ju K cd x=c_) (k:dZ K (.ref f)=c_):Def K x st:=
 ⟨f,_,a,(⟨⟨oc,od,kV,_,pm,an,_,ct,_,rfl,l,c⟩,k⟩)⟩
section
variable {M:Mo}{T:Tb}{k:Nat}{h:Heap}{x:Str}{st:Stmt}{N ps:List Str}{ms:MS}{fu:Nat}
theorem Def.fn(O:TOk M T k)(h0:M.mkr=b_)(h1:T.mkr=d_)(X:M.K.K.In h)(Gn:h.Ns mainGlobals M.mg)(D:Def M.K x st)(S:bo N ps (aH st))
  (hb:∀(kV doc pm:f_) (an:Option e_) (cdv ct:f_) (us:List f_),1#1=ps.length->bindArgs (d9 x x (ix st) (dJ st) (aH st) .none kV doc pm an cdv ct) ⟨us,[]⟩=pure (ps.zip us))
  (hc:cB T fu N (aH st).names (dJ st)=a_ ms):Fn M x (k+1) ps (run ps.length N.length ms):=by
 obtain⟨f,fd,a,F⟩:=D.ex;exact ES O h0 h1 F S (mP X Gn a) (F.binds hb) hc
theorem TOk.mono{j:Nat}(O:TOk M T k)(hj:k<=j):TOk M T j where
 Z:=λy r hy=>let ⟨k',_,hk,F'⟩:=O.Z y r hy;⟨k',_,aK hk hj,F'⟩
 D:=λy g hy=>let ⟨k',_,hk,F'⟩:=O.D y g hy;⟨k',_,aK hk hj,F'⟩
 C:=O.C
 B:=O.B
 L:=λy q hy=>let ⟨k',_,hk,F'⟩:=O.L y q hy;⟨k',_,aK hk hj,F'⟩
 mkr:=O.mkr
theorem TOk.cons{j:Nat}{mf:MF}(O:TOk M T k)(F:Fn M x j ps mf)(hj:k<=j):TOk M ⟨(x,mf)::T.D,T.C,T.L,T.H,T.mkr,T.Z⟩ j where
 D:=λy g hy=>by
  rw[dy]at hy;cases e:y==x with
  |true=>rw[e]at hy;cases hy;rw[eq_of_beq e];exact⟨j,ps,ak _,F⟩
  | false=>
    rw[e]at hy;obtain⟨k',V8,hk,F'⟩:=O.D y g hy;exact⟨k',_,aK hk hj,F'⟩
 C:=O.C
 B:=O.B
 L:=(O.mono hj).L
 mkr:=O.mkr
 Z:=(O.mono hj).Z
theorem TOk.setH{Hs:List (Str×(e_->MF->MF))}(O:TOk M T k):TOk M ⟨T.D,T.C,T.L,Hs,T.mkr,T.Z⟩ k:=⟨O.D,O.C,O.B,O.L,O.mkr,O.Z⟩
theorem TOk.con{i:Int}(O:TOk M T k)(X:M.K.K.In h)(Gn:h.Ns mainGlobals M.mg)(a:∃t,fL M.K mainGlobals x=a_ (a_ (.int i t))):TOk M ⟨T.D,(x,.int i)::T.C,T.L,T.H,T.mkr,T.Z⟩ k where
 D:=O.D
 C:=λy u hy=>by
  rw[dy]at hy;cases e:y==x with
  | true=>
    rw[e]at hy;cases hy;rw[eq_of_beq e];obtain⟨t,a⟩:=a;exact⟨_,.int i,mP X Gn a,⟨t,rfl⟩,λ_ _=>fZ⟩
  |false=>rw[e]at hy;exact O.C y u hy
 B:=O.B
 L:=O.L
 mkr:=O.mkr
 Z:=O.Z
theorem TOk.nil{Fs:List (Str×VF)}{cl:Nat->e_}{nm:Str}(X:M.K.K.In h)(Gn:h.Ns mainGlobals M.mg)(B:∀x∈ly,fL M.K mainGlobals x=a_ b_):TOk M ⟨[],[],[],[],d_,⟨[],Fs,cl,nm⟩⟩ 0 where
 D:=λy g hy=>by cases hy
 C:=λy g hy=>by cases hy
 B:=λy hy=>PySem.W.mg_none_of X Gn (B y hy)
 L:=λy g hy=>by cases hy
 mkr:=λh=>by cases h
 Z:=λy g hy=>by cases hy
theorem Def.fnC{y:Str}{msC:e_->MF->MS}(O:∀caps capv cds base,iW M.mg base->TOk (M.to caps capv cds base) T k)(h1:T.mkr=d_)(hL:T.L=[])(X:M.K.K.In h)(Gn:h.Ns mainGlobals M.mg)(D:Def M.K x st)(S:bo N ps (aH st))
  (hb:∀(kV doc pm:f_) (an:Option e_) (cdv ct:f_) (us:List f_),1#1=ps.length->bindArgs (d9 x x (ix st) (dJ st) (aH st) .none kV doc pm an cdv ct) ⟨us,[]⟩=pure (ps.zip us))
  (hc:∀g φ,cB ⟨T.D,T.C,[(y,g,φ)],T.H,T.mkr,T.Z⟩ fu N (aH st).names (dJ st)=a_ (msC g φ)):FnC M x k ps λg φ=>run ps.length N.length (msC g φ):=by
 obtain⟨f,fd,a,F⟩:=D.ex;refine⟨f,fd,mP X Gn a,F.2,F.binds hb,λcaps capv cds base g j lps φ Yv hkj lam=>?_⟩;have O':TOk (M.to caps capv cds base) ⟨T.D,T.C,[(y,g,φ)],T.H,T.mkr,T.Z⟩ j:=by
  have O1:=(O caps capv cds _ Yv).mono hkj;refine⟨O1.D,O1.C,O1.B,λz q hz=>?_,(λhm=>by grind),O1.Z⟩;rw[dy]at hz;cases e:z==y with
  |true=>rw[e]at hz;cases hz;exact⟨j,_,ak _,lam⟩
  |false=>simp_all
 exact IC (M:=M.to _ _ cds _) rfl F S λX' S'=>(snd fu _ _ _ (.of O' h1)).b _ _ _ _ (hc g φ) X' S'
end
structure o6(K:aq)(x:Str)(st:Stmt)(c P:e_):Prop where
 ex:∃(f:e_) (oc:f_) (od:Option e_) (kV doc pm:f_) (an:Option e_) (ct:f_) (sl:Array (Option f_)),fL K mainGlobals x=a_ (a_ (.ref f)) /\
  K.lookup f=a_ ⟨oc,od,.func (d9 x x (ix st) (dJ st) (aH st) .none kV doc pm an (.ref c) ct),sl⟩/\ju K (.ref c) x=c_/\dZ K (.ref f)=c_
 cd :∃ (vs:Array f_) (od:Option e_) (sl:Array (Option f_)) (file:Str) (tf:Tok) (flags:Int) (tg:Tok) (inF:Bool) (text:Int) (tt:Tok),K.lookup c=a_ ⟨.type "code",od,.fields vs,sl⟩/\vs[11]?=a_ (.ref P)/\vs.getD 11 .none=.ref P/\vs.getD 18 .none=.str file tf /\
  vs.getD 7 .none=.int flags tg/\vs.getD 9 .none=.bool inF/\vs.getD 10 .none=.int text tt/\c≠P
section
variable {M:Mo}{T:Tb}{k:Nat}{h:Heap}{x:Str}{st:Stmt}{N ps:List Str}{ms:MS}{fu:Nat}{c P:e_}
theorem o6.mkr(D:o6 M.K x st c P)(B:iW M.mg M.base)(X:M.K.K.In h)(Gn:h.Ns mainGlobals M.mg){q:Str}(hm:(P,q)∈M.K.tabs)(nd:(M.K.tabs.map (·.1)).Nodup)(hg:mainGlobals≠P):Mkr M c P q where
 hd:=λh' X'=>by
  obtain⟨vs,od,sl,file,tf,flags,tg,inF,text,tt,e,r⟩:=D.cd;obtain⟨r1,r2,r3,r4,r5,r6,r7⟩:=r;exact⟨_,vs,_,tf,_,tg,_,_,tt,X' _ _ e,rfl,rfl,r1,r2,r3,r4,r5,r6,r7⟩
 bl:=B
 gP:=hg
 mem:=hm
 un:=λr hr e=>by
  have key:∀(l:List _),(l.map (·.1)).Nodup->r∈l->(P,q)∈l->r.2=q:=by
   intro l
   induction l<;>grind
  exact key _ nd hr hm
theorem o6.ok(D:o6 M.K x st c P)(h0:M.mkr=b_)(O :∀ caps capv cds base,iW M.mg base->TOk (M.to caps capv cds base) T k)(O0:TOk M T k)(hL:T.L=[])(h1:T.mkr=d_)(hH :∀ y F,T.H.lookup y=a_ F->∃ k' ps,k'<=k+1/\FnC M y k' ps F)(hF :∀ y vf,T.Z.F.lookup y=a_ vf->∃ k' d,d<=3/\k'<=k+1/\FnR M T.Z.cl y k' d vf){nm:Str}(MK:Mkr M c P (x++".<locals>."++nm))
  (S:bo N ps (aH st)) (hc:cB ⟨T.D,T.C,T.L,T.H,c_,T.Z.to nm⟩ fu N (aH st).names (dJ st)=a_ ms)
  {oc kV doc pm ct:f_} (lk:M.K.K.lookup f=a_ ⟨oc,od,.func (d9 x x (ix st) (dJ st) (aH st) .none kV doc pm an (.ref c) ct),sl⟩) (Z8:ju M.K.K (.ref c) x=c_):
  lJ M.P M.w M.K M.mg M.base CX0 (k+5) f (d9 x x (ix st) (dJ st) (aH st) .none kV doc pm an (.ref c) ct) ps (spM M.K (run ps.length N.length ms)):=by
 let M1:Mo:=⟨M.P,M.w,M.K,M.mg,M.base,a_ (c,x++".<locals>.")⟩
 have O1:TOk M1 ⟨T.D,T.C,T.L,T.H,c_,T.Z.to nm⟩ (k+4):=by
  have Om:=O0.mono (show k<=k+4 by lia);refine⟨λy g hy=>?_,Om.C,Om.B,λy q hy=>?_,λ_=>⟨c,_,P,rfl,MK.hd,MK.bl,MK.gP,MK.mem,MK.un⟩,λy r hy=>?_⟩
  .obtain⟨k',V8,hk,F'⟩:=Om.D y g hy
   exact⟨k',_,hk,⟨F'.ex⟩⟩
  .rw[hL]at hy
   cases hy
  .obtain⟨k',V8,hk,F'⟩:=Om.Z y r hy
   exact⟨k',_,hk,⟨F'.ex⟩⟩
 have G1:GOk M1 _ _:=⟨O1,λ_=>⟨k,ak _,λy F hy=>by
  obtain⟨k',V8,hk,FC⟩:=hH y F hy;exact⟨k',_,hk,⟨FC.ex⟩⟩,λy rz hy=>by
  obtain⟨k',d,hd,hk,FC⟩:=hF y rz hy;exact⟨k',d,hd,hk,⟨FC.ex⟩⟩,λcaps capv cds base Yv=>by
   have Ob:=O caps capv cds _ Yv
   exact⟨Ob.D,Ob.C,Ob.B,λy q hy=>(by cases hy),λz=>(by cases z),Ob.Z⟩⟩⟩
 have len:∀vs H Q E,spM M.K (run _ N.length ms) vs H Q E->2#1=ps.length:=λvs H Q E h=>by
  obtain⟨μ,S',us,u,Yh,hr,rs,e,_⟩:=h;unfold run at e
  split at e
  .rename_i hl;rw[<-rs.len];exact hl
  .cases e
 refine _L.ES lk Z8 S len λA outer s H vs Q E hr h=>⟨_,((snd fu M1 _ _ G1).b _ _ _ _ hc _ (Sc.def S hr λc' q' hq=>by cases hq;exact⟨rfl,rfl⟩)).nox,?_⟩;obtain⟨μ,S1,us,u,S2,hr,rs,e,ka⟩:=h;unfold run at e
 split at e
 .rename_i hl
  have er:=yi (N:=N) rs;rw[hl]at er
  split at e
  .rename_i w Y4 S3 q
   cases e;exact⟨μ,S1,_,_,hr,er,q,ka⟩
  .rename_i Y4 S3 q
   cases e;exact⟨μ,S1,_,_,hr,er,q,λY6 Y3 H' p' k' Yu er'=>ka _ _ H' p' k' Yu p8⟩
  .cases e
 .cases e
theorem o6.fn(D:o6 M.K x st c P)(h0:M.mkr=b_)(O :∀ caps capv cds base,iW M.mg base->TOk (M.to caps capv cds base) T k)(O0:TOk M T k)(hL:T.L=[])(h1:T.mkr=d_)(hH :∀ y F,T.H.lookup y=a_ F->∃ k' ps,k'<=k+1/\FnC M y k' ps F)(hF :∀ y vf,T.Z.F.lookup y=a_ vf->∃ k' d,d<=3/\k'<=k+1/\FnR M T.Z.cl y k' d vf){nm:Str}(MK:Mkr M c P (x++".<locals>."++nm))
  (X:M.K.K.In h) (Gn:h.Ns mainGlobals M.mg) (S:bo N ps (aH st))
  (hb:∀(kV doc pm:f_) (an:Option e_) (cdv ct:f_) (us:List f_),1#1=ps.length->bindArgs (d9 x x (ix st) (dJ st) (aH st) .none kV doc pm an cdv ct) ⟨us,[]⟩=pure (ps.zip us))
  (hc:cB ⟨T.D,T.C,T.L,T.H,c_,T.Z.to nm⟩ fu N (aH st).names (dJ st)=a_ ms):Fn M x (k+5) ps (run ps.length N.length ms):=by
 obtain⟨f,oc,od,kV,doc,pm,an,ct,sl,a,lk,Z8,Yt⟩:=D.ex;exact⟨f,_,mP X Gn a,Yt,.all (hb kV _ pm an _ ct),D.ok h0 O O0 hL h1 hH hF MK S hc lk Z8⟩
end
section
variable {M:Mo}
variable{Hs:List (Str×(e_->MF->MF))}
theorem uD{j k:Nat}(h:∀y F,Hs.lookup y=a_ F->∃k' ps,k'<=j/\FnC M y k' ps F)(hj:j<=k):∀y F,Hs.lookup y=a_ F->∃k' ps,k'<=k/\FnC M y k' ps F:=λy F hy=>
 let ⟨k',ps,a,b⟩:=h y F hy;⟨k',ps,aK a hj,b⟩
theorem Lg{j k:Nat}{F0:e_->MF->MF}{ps:List Str}(h:∀y F,Hs.lookup y=a_ F->∃k' ps,k'<=j/\FnC M y k' ps F)(F1:FnC M x i ps F0)(hi:i<=k)(hj:j<=k):∀y F,((x,F0)::Hs).lookup y=a_ F->∃k' ps,k'<=k/\FnC M y k' ps F:=λy F hy=>by
 rw[dy]at hy;cases e:y==x with
 |true=>rw[e]at hy;cases hy;rw[eq_of_beq e];exact⟨i,ps,hi,F1⟩
 |false=>rw[e]at hy;exact uD h hj y F hy
end
theorem zR{c P:e_}{od':Option e_}{V5:Array (Option f_)}{oc kV doc pm ct:f_}{vs:Array f_}{file:Str}{tf tg tt:Tok}{flags text:Int}{inF:Bool}(a:fL K mainGlobals x=a_ (a_ (.ref f)))
  (l:K.lookup f=a_ ⟨oc,od,.func (d9 x x (ix st) (dJ st) (aH st) .none kV doc pm an (.ref c) ct),sl⟩) (cc:ju K (.ref c) x=c_) (k:dZ K (.ref f)=c_)
  (e:K.lookup c=a_ ⟨.type "code",od',.fields vs,V5⟩) (r1:vs[11]?=a_ (.ref P)) (r2:vs.getD 11 .none=.ref P) (r3:vs.getD 18 .none=.str file tf) (r4:vs.getD 7 .none=.int flags tg) (r5:vs.getD 9 .none=.bool inF) (r6:vs.getD 10 .none=.int text tt) (r7:c≠P):o6 K x st c P:=
 ⟨⟨f,oc,od,kV,_,pm,an,ct,sl,a,l,cc,k⟩,⟨vs,_,_,_,tf,_,tg,_,_,tt,e,r1,r2,r3,r4,r5,r6,r7⟩⟩
theorem M7{l:oW}{w:World}{h:Heap}{mg:Str->Option f_}{fa:e_}{ms:MS}{fu k:Nat}{T:Tb}(X:K.In h)(Gn:h.Ns mainGlobals mg)(VP:mg "law"=a_ (.ref fa))
  (D:Def K "law" st) (S:bo N ["script"] (aH st))
  (hb :∀ (kV doc pm:f_) (an:Option e_) (cdv ct:f_) (us:List f_),1#1=["script"].length->bindArgs (d9 "law" "law" (ix st) (dJ st) (aH st) .none kV doc pm an cdv ct) ⟨us,[]⟩=pure ((["script"]:List Str).zip us))
  {tabs:List (e_×Str)} (h1:T.mkr=d_) (hO:∀base:Heap,iW mg base->TOk ⟨l.prog,w,⟨K,[],[],[],tabs⟩,mg,base,b_⟩ T k) (hc:cB T fu N (aH st).names (dJ st)=a_ ms):
  ∃ fd:FuncData,(∀ (s:g_) (v:f_),BindsTo s fd ⟨[v],[]⟩ [("script",v)]) /\ ∀ base:Heap,K.In base->base.Ns mainGlobals mg->iW mg base->lJ l.prog w K mg base CX0 (k+1) fa fd ["script"] (spM ⟨K,[],[],[],tabs⟩ (run 1 N.length ms)):=by
 obtain⟨f,fd,a,F⟩:=D.ex;have e:=VP.symm.trans (mP X Gn a);cases e;refine⟨fd,λs v=>?_,λbase _ _ Yv=>IC rfl F S λX' S'=>(snd fu _ _ _ (.of (hO _ Yv) h1)).b _ _ _ _ hc X' S'⟩;obtain⟨oc,od,kV,doc,pm,an,cdv,ct,osl,rfl,lk,Z8⟩:=F.ex;exact .of_eq (hb kV _ pm an _ ct _ rfl)
theorem Qs{tabs:List (e_×Str)}{H:Hp}{a:e_}{ns:List Int}{m:MF}(hT:∀q∈tabs,CN H q.1 q.2)(hS:SqL K H a (ns.map V.int))(hm:∀S:Sto,0#7=1->getL S 0=a_ (ns.map U.int)->∃S',m [.ref 0] S=a_ (.bl c_,S')):
  spM ⟨K,[],[],[],tabs⟩ m [.ref a] H (λv _=>v=.bl c_) λ_ _ _=>False:=by
 have key:∃c:Cell,pJ ⟨K,[],[],[],tabs⟩ H [a] a c/\getL [c] 0=a_ (ns.map U.int):=by
  rcases hS with (h|⟨o,h⟩)|h
  .exact⟨.lst _,⟨_,h,RUs.ints ns⟩,rfl⟩
  .exact⟨.frz _,⟨_,.inl ⟨o,h⟩,RUs.ints ns⟩,rfl⟩
  .exact⟨.frz _,⟨_,.inr (.inr h),RUs.ints ns⟩,rfl⟩
 obtain⟨c,hc,hg⟩:=key;obtain⟨S',e⟩:=hm _ rfl hg;refine⟨[a],_,_,_,S',⟨rfl,λn m us ws q1 q2 _ _ _=>?_,λn c' b q1 q2=>?_,⟨.nil,λq hq=>(nomatch hq),hT⟩⟩,.cons (z7 rfl) .nil,e,λY6 v H' _ _ _ r=>kB r⟩
 .have h1:=(ag.mp q1).1
  have h2:=(ag.mp q2).1<;>simp_all
 .have h1:=(ag.mp q1).1
  simp_all
end _G
namespace _G
open PySem PySem.Spec _L
open PySem.W (CodeHd tabObj tabIn)
open PyProof.Rows hiding St
theorem o6.tab{K:aq}{x:Str}{st:Stmt}{c P:e_}(D:o6 K x st c P):tabIn K x=a_ (c,P):=by
 obtain⟨f,oc,od,kV,doc,pm,an,ct,sl,e1,e2,_⟩:=D.ex;obtain⟨vs,od',V5,file,tf,flags,tg,inF,text,tt,e3,e4,_⟩:=D.cd;unfold tabIn
 simp_all
def Ao(K:aq)(tabs:List (e_×Str))(a:e_)(o:Obj)(xs:List V):Hp:=λb=>
 if b∈tabs.map (·.1) then a_ (.tbl #[]) else if b=a/\K.lookup a=b_ then a_ (.frz o (.lst xs)) else b_
section
variable {P:Program}{w:World}{K:aq}{mg mb:Str->Option f_}{k:Nat}{fa a:e_}{fd:FuncData}{x:Str}{sp:Sp}{s:g_}{vs:List f_}{ns:List Int}{tabs:List (e_×Str)}
theorem Kn(kx:K.In s.heap)(SO:s.heap.Ns mainGlobals mg)(hb:s.heap.Ns builtinsNs mb)(Yv :∀ x:Str,x≠"__name__"->mb x=bootBuiltins x)(Uz:s.heap.NoLimit)(hbm:iW mg s.heap)(hg:s.gens = #[])
  (ha:s.heap.get? a=a_ { cls := .type "list",data := .seq vs.toArray }) (hi:IntsAre vs ns) (hl:ns.length<=sizeLine) (hr:lN k callerA)
  (hT:∀r∈tabs,K.lookup r.1=b_ /\ ∃c,s.heap.TableAt c r.1 #[])
  (F:∀base:Heap,K.In base->base.Ns mainGlobals mg->iW mg base->lJ P w K mg base CX0 k fa fd [x] sp) (VX:∀(s:g_) (u:f_),BindsTo s fd ⟨[u],[]⟩ [(x,u)])
  (YC:∀H:Hp,(∀r∈tabs,CN H r.1 r.2)->SqL K H a (ns.map V.int)->sp [.ref a] H (λv _=>v=.bl c_) λ_ _ _=>False):
  pM (model P w) callerA (.call (.ref fa) ⟨[.ref a],[]⟩) (λr s'=>r=.ok (.ret (.bool c_))/\OldK s.heap s'.heap/\s'.os=s.os/\AllBare s'.gens) s:=by
 have rv:=oR hi;have V3:=hi.length
 let o:Obj:={ cls := .type "list",data := .seq vs.toArray }
 let H:=Ao K tabs a o (ns.map V.int)
 have hH:H=Ao K _ a o _:=rfl;have tab:∀b,b∈tabs.map (·.1)->H b=a_ _/\K.lookup b=b_ /\ ∃c,s.heap.TableAt c b _:=λb hb=>by
  obtain⟨r,hr,e⟩:=aw.mp hb;subst e;exact⟨if_pos hb,hT r hr⟩
 have U2:a∉tabs.map _:=λz=>by
  obtain⟨_,_,c,ht⟩:=tab a z;have e:=ht.2;rw[ha]at e;cases e
 have Vs:∀b u,H b=a_ u->(b∈tabs.map _/\u=.tbl _)\/(b=a/\K.lookup a=b_/\u=.frz o _):=λb u e=>by
  rw[hH]at e;unfold Ao at e
  split at e
  .rename_i z;cases e;exact .inl ⟨z,rfl⟩
  .split at e
   .rename_i z;cases e;exact .inr ⟨z.1,z.2,rfl⟩
   .cases e
 have nodic:∀{b:e_}{o:Obj}{es:Array _}{ep:Nat},s.heap.get? b=a_ o->o.data=.dict es ep->H b=b_:=λ{b o' es ep} e d=>by
  cases q:H b with
  |none=>rfl
  | some u=>
    rcases Vs b u q with⟨z,_⟩|⟨z,_⟩
    .obtain⟨_,_,c,ht⟩:=tab b z
     have e2:=ht.2;rw[e]at e2;cases e2;cases d
    .subst z
     rw[ha]at e;cases e;cases d
 have nsK:∀{b:e_}{m:Str->Option _},s.heap.Ns b m->(AN _ H).Ns b m:=λ{b m} ⟨o,es,ep,e,d,r⟩=>⟨o,es,ep,rf e (nodic e d),d,r⟩
 have SI:K.In (AN _ H):=λb o' e=>rf (kx b o' e) (by
  cases q:H b <;> grind)
 have hok:HOk P w H s.heap:=λb u e=>by
  rcases Vs b u e with⟨z,rfl⟩|⟨rfl,z2,rfl⟩
  .obtain⟨_,_,c,ht⟩:=tab b z
   exact ht.2
  .exact⟨ha,by rw[ar];exact hl,vs,_,rv,ha⟩
 have hS:SqL K H a (ns.map V.int):=by
  cases hk:K.lookup a with
  | some o'=>
    have e:=kx a o' hk;rw[ha]at e;cases e;exact .inr ⟨_,_,_,hk,rfl,rfl,rfl,by rw[bO,V3];exact hl,by simpa using rv⟩
  |none=>exact .inl (.inr ⟨o,by show Ao K _ a o _ a=_;unfold Ao;rw[if_neg U2,if_pos ⟨rfl,hk⟩]⟩)
 have hM:Mod K mg _:=⟨SI,nsK SO,⟨mb,nsK hb,Yv⟩,let ⟨mc,h1,h2⟩:=Uz;⟨mc,nsK h1,h2⟩⟩;have e0:GU P w K mg _ callerA [] s H:=⟨rfl,hM,λb o e=>DI e,Nat.le_of_eq (xX _ _),trivial,λb hb=>absurd (show b∈[] from hb) 0#4,hok,.of_eq hg⟩;have hBb:iW mg (AN s.heap H):=by
  obtain⟨bm,ob,e1,e2,e3,e4,e5,e6⟩:=hbm;refine⟨bm,ob,e1,e2,rf e3 ?_,e4,e5,e6⟩;cases q:H bm with
  |none=>rfl
  | some u=>
    rcases Vs bm u q with⟨z,_⟩|⟨z,_⟩
    .obtain⟨_,_,c,ht⟩:=tab bm z
     have e:=ht.2;rw[e3]at e;cases e;cases e6
    .rw[z,ha]at e3;cases e3;cases e6
 have hTR:∀r∈tabs,CN H _ r.2:=λr hr=>⟨_,(tab _ (aw.mpr ⟨r,hr,rfl⟩)).1,trivial,λpos cv h=>by cases h⟩;refine jb ((F _ SI (nsK SO) hBb).run _ [] s H _ [.ref a] [.ref a] _ _ hr e0 (VX s _) (.cons rfl .nil) (YC H hTR hS)) λr s' h=>?_;cases r with
 |error e=>exact h.elim
 | ok fl=>
   cases fl with
   |next=>exact ej h
   |brk=>exact ej h
   |cont=>exact ej h
   | ret u=>
     obtain⟨v,H',os,bare,un,Wc,r',q⟩:=h;have q':=q;subst q';obtain rfl:u=Value.bool _:=r';refine⟨rfl,⟨λb o' e=>?_,λb o' e=>un.there b o' e 0#4⟩,os,bare⟩;cases q:H b with
     |none=>exact .inl (un.keep b o' e q (by intro z;exact absurd (show b∈[] from z) 0#4) 0#4)
     | some u=>
       rcases Vs b u q with⟨z,rfl⟩|⟨rfl,_,rfl⟩
       .obtain⟨_,_,c,ht⟩:=tab b z
        obtain⟨more,e2⟩:=un.tbls b _ q;have e3:=Wc b _ e2;have e4:=ht.2;rw[e]at e4;cases e4;exact .inr (.inl ⟨ht.isCodeTable,rfl,_,_,rfl,e3⟩)
       .obtain⟨e2,_⟩:=Wc b _ (un.frzs b _ _ q)
        rw[ha]at e;cases e;exact .inl e2
end
theorem Ji{l:oW}{n k:Nat}{q:Program}{loose:List Str}{XP:(Str->Option f_)->Heap->Prop}{YP:World->Heap->Prop}{d:DefRec}{K:Params->aq}{x:Str}
  (hn:l.most=a_ n) (XU:n<=sizeLine) (Wn:d.params.defaults=[]) (hr:lN k callerA) (hY:∀(w:World) (h:Heap),YP w h->(K w.params).In h)
  (F: ∀(w:World) (mg:Str->Option f_) (fa:e_) (h:Heap),(K w.params).In h->h.Ns mainGlobals mg->mg d.name=a_ (.ref fa) -> ∃(tabs:List (e_×Str)) (fd:FuncData) (sp:Sp),
   (∀r∈tabs,(K w.params).lookup r.1=b_ /\ ∃x d c,(recsOf q).find? (λe=>e.name==x)=a_ d/\tabIn (K w.params) x=a_ (c,r.1)) /\
   (∀(s:g_) (u:f_),BindsTo s fd ⟨[u],[]⟩ [(x,u)])/\(∀base:Heap,(K w.params).In base->base.Ns mainGlobals mg->iW mg base->lJ l.prog w (K w.params) mg base CX0 k fa fd [x] sp) /\
   ∀(H:Hp) (a:e_) (ns:List Int),ns.length<=n->(∀r∈tabs,CN H r.1 r.2)->SqL (K w.params) H a (ns.map V.int)->sp [.ref a] H (λv _=>v = .bl c_) λ_ _ _=>False):
  PySem.W.WalkO q loose XP YP l.row.toRowW d [] (λf vs=>PySem.call f vs):=by
 refine Att.attach_call hn Wn λw s₀ ZV mg mb fa o pm cd doc a vs ns C' Y ho hd Z8 Wh Xd hints hlen hg=>?_;have kx:=hY w _ Y;obtain⟨tabs,fd,sp,hT,hb,hF,YC⟩:=F w mg fa _ kx C'.T.g Wh;refine Kn kx C'.T.g C'.T.b C'.T.builtins C'.T.nolimit C'.T.bmain hg Xd hints (aK hlen XU) hr (λr hr=>?_) hF hb λH h1 h2=>YC H a ns hlen h1 h2;obtain⟨h1,x',d',c,h2,h3⟩:=hT r hr;obtain⟨h4,h5⟩:=PySem.W.tab_of C'.T kx h2 h3;exact⟨h1,c,h4.tab h5⟩
end _G
namespace _G
open PySem PySem.Spec _L
variable{p:List f_->Prop}
theorem usC{n:Nat}(h:∀a us,1#1=n->p (a::us)):∀us:List f_,1#1=n+1->p us:=λus hl=>by
 cases us<;>simp_all
theorem us0(h:p []):∀us:List f_,1#1=0->p us
 |[],_=>h
theorem us1(h:∀a,p [a]):∀us:List f_,1#1=1->p us:=usC λa us hl=>d5 hl▸h a
theorem us2(h:∀a b,p [a,b]):∀us:List f_,1#1=2->p us:=usC λa=>us1 (h a)
theorem us3(h:∀a b c,p [a,b,c]):∀us:List f_,1#1=3->p us:=usC λa=>us2 (h a)
theorem TOk.nm{M:Mo}{T:Tb}{k:Nat}(h:TOk M T k)(x:Str):TOk M ⟨T.D,T.C,[],T.H,d_,T.Z.to x⟩ k:=⟨h.D,h.C,h.B,λ_ _ e=>(by cases e),λz=>(by cases z),h.Z⟩
def Bd(x:Str)(st:Stmt)(ps:List Str):Prop:= ∀(kV doc pm:f_) (an:Option e_) (cdv ct:f_) (us:List f_),1#1=ps.length->bindArgs (d9 x x (ix st) (dJ st) (aH st) .none kV doc pm an cdv ct) ⟨us,[]⟩=pure (ps.zip us)
structure Ch(P:Program)(w:World)(K:aq)(mg:Str->Option f_)(tabs:List (e_×Str))(T:Tb)(k:Nat):Prop where
 o:∀(caps:List U) (capv:List V) (cds:List (e_×Obj)) (base:Heap),iW mg base->TOk ⟨P,w,⟨K,caps,capv,cds,tabs⟩,mg,base,b_⟩ T k
 h:∀(caps:List U) (capv:List V) (cds:List (e_×Obj)) (base:Heap),iW mg base->∀y F,T.H.lookup y=a_ F->∃k' ps,k'<=k/\FnC ⟨P,w,⟨K,caps,capv,cds,tabs⟩,mg,base,b_⟩ y k' ps F
 r:∀(caps:List U) (capv:List V) (cds:List (e_×Obj)) (base:Heap),iW mg base->∀y vf,T.Z.F.lookup y=a_ vf->∃k' d,d<=3/\k'<=k/\FnR ⟨P,w,⟨K,caps,capv,cds,tabs⟩,mg,base,b_⟩ T.Z.cl y k' d vf
theorem zc{M:Mo}{Fs:List (Str×VF)}{cl:Nat->e_}{j k:Nat}(h:∀y vf,Fs.lookup y=a_ vf->∃k' d,d<=3/\k'<=j/\FnR M cl y k' d vf)(hj:j<=k):∀y vf,Fs.lookup y=a_ vf->∃k' d,d<=3/\k'<=k/\FnR M cl y k' d vf:=λy vf hy=>
 let ⟨k',d,hd,a,b⟩:=h y vf hy;⟨k',d,hd,aK a hj,b⟩
section
variable {P:Program}{w:World}{K:aq}{mg:Str->Option f_}{tabs:List (e_×Str)}{T T':Tb}{k j:Nat}{h:Heap}{x:Str}{st:Stmt}{N ps:List Str}{ms:MS}{fu:Nat}
theorem Ch.dfn(c:Ch P w K mg tabs T k)(O:∀(caps:List U) (capv:List V) (cds:List (e_×Obj)) (base:Heap),iW mg base->TOk ⟨P,w,⟨K,caps,capv,cds,tabs⟩,mg,base,b_⟩ T' k)(h1:T'.mkr=d_)(X:K.In h)(Gn:h.Ns mainGlobals mg)(D:Def K x st)(S:bo N ps (aH st))(hb:Bd x st ps)
  (hc:cB T' fu N (aH st).names (dJ st)=a_ ms):Ch P w K mg tabs ⟨(x,run ps.length N.length ms)::T.D,T.C,T.L,T.H,T.mkr,T.Z⟩ (k+1):=
 ⟨λa b d e f=>(c.o a b d e f).cons (D.fn (O a b d e f) rfl h1 X Gn S hb hc) (fS k),λa b d e f=>uD (c.h a b d e f) (fS k),λa b d e f=>zc (c.r a b d e f) (fS k)⟩
theorem Ch.cls{y:Str}{msC:e_->MF->MS}(c:Ch P w K mg tabs T k)(h1:T.mkr=d_)(hL:T.L=[])(X:K.In h)(Gn:h.Ns mainGlobals mg)(D:Def K x st)(S:bo N ps (aH st))(hb:Bd x st ps)
  (hc:∀g φ,cB ⟨T.D,T.C,[(y,g,φ)],T.H,T.mkr,T.Z⟩ fu N (aH st).names (dJ st)=a_ (msC g φ)):Ch P w K mg tabs ⟨T.D,T.C,T.L,(x,λg φ=>run ps.length N.length (msC g φ))::T.H,T.mkr,T.Z⟩ k:=
 ⟨λa b d e f=>(c.o a b d e f).setH,λa b d e f=>Lg (c.h a b d e f) (D.fnC c.o h1 hL X Gn S hb hc) (ak k) (ak k),c.r⟩
theorem Ch.lam_{a p:e_}{nm:Str}(c:Ch P w K mg tabs T k)(h1:T.mkr=d_)(hL:T.L=[])(hm:(p,x++".<locals>."++nm)∈tabs)(nd:(tabs.map (·.1)).Nodup)(hg:mainGlobals≠p)(X:K.In h)(Gn:h.Ns mainGlobals mg)(D:o6 K x st a p)(S:bo N ps (aH st))(hb:Bd x st ps)
  (hc:cB ⟨T.D,T.C,T.L,T.H,c_,T.Z.to nm⟩ fu N (aH st).names (dJ st)=a_ ms):Ch P w K mg tabs ⟨(x,run ps.length N.length ms)::T.D,T.C,T.L,T.H,T.mkr,T.Z⟩ (k+5):=
 ⟨λa b d e f=>(c.o a b d e f).cons (D.fn rfl c.o (c.o a b d e f) hL h1 (uD (c.h a b d e f) (fS k)) (zc (c.r a b d e f) (fS k)) (D.mkr f X Gn hm nd hg) X Gn S hb hc) (fw k 5),λa b d e f=>uD (c.h a b d e f) (fw k 5),λa b d e f=>zc (c.r a b d e f) (fw k 5)⟩
end
def Tb.dd(T:Tb)(x:Str)(f:MF):Tb:=⟨(x,f)::T.D,T.C,[],T.H,d_,T.Z⟩
def Tb.hh(T:Tb)(x:Str)(F:e_->MF->MF):Tb:=⟨T.D,T.C,[],(x,F)::T.H,d_,T.Z⟩
def Tb.xx(T:Tb)(x:Str)(f:MF)(r:RF):Tb:=⟨(x,f)::T.D,T.C,[],T.H,d_,⟨(x,r)::T.Z.R,T.Z.F,T.Z.cl,T.Z.nm⟩⟩
def Tb.qq(T:Tb)(x:Str)(vf:VF):Tb:=⟨T.D,T.C,[],T.H,d_,⟨T.Z.R,(x,vf)::T.Z.F,T.Z.cl,T.Z.nm⟩⟩
abbrev cD(T:Tb)(N:List Str)(st:Stmt):Option MS:=cB T 80 N (aH st).names (dJ st)
def fsB(N P:List Str)(sc:Scope):Bool:=sc.kind==.function && !sc.isCoroutine && !sc.isGenerator&&decide N.Nodup&&N.take P.length==P&&P.all (λx=>sc.names.lookup x==a_ .local||sc.names.lookup x==a_ .cell)&&sc.names.all λy=>!(y.2==.free)
theorem d7{N P:List Str}{sc:Scope}(h:fsB N P sc=c_):bo N P sc:=by
 unfold fsB at h;simp only[aE]at h;obtain⟨⟨⟨⟨⟨⟨h1,h2⟩,h3⟩,h4⟩,h5⟩,h6⟩,h7⟩:=h;refine⟨eq_of_beq h1,by simpa using h2,by simpa using h3,of_decide_eq_true h4,eq_of_beq h5,λx hx=>?_,λy hy z=>?_⟩<;>grind
def OB(K:aq):List (Str×Stmt)->Prop
 |[]=>True
 |p::r=>Def K p.1 p.2/\OB K r
end _G
namespace _W
open PySem PySem.Spec _L _G
def jz:MS:=aY (sIf (cOf (m2 oLt (ae 1) (mFn cp (aa 0#3 ah)))) (cn (m2 oIx 0#3 (ae 1))) dE) (cn 1#0)
def lr:MF:=run 2 2 jz
def tR:MS:=aY (bC 2 (mFn lr 2#9)) (aY (sIf (cOf (m2 oGe (ae 2) (m2 FP (mC (.int 10)) (mC (.int 18))))) (cn (dN (aa (m2 xw (ae 2) (m2 FP (mC (.int 10)) (mC (.int 18)))) (aa (mC (.bl c_)) ah)))) dE) (cn (dN (aa (m2 oMod (ae 2) (mC (.int 2147483647))) (aa (mC (.bl d_)) ah)))))
def nC:MF:=run 2 3 tR
def mz:MS:=aY (sIf (cOf (m2 oIx 0#3 1#4)) (aY (bC 2 (m2 oMod (m2 oIx 0#3 1#0) (ae 1))) (aY (gv 0#3 1#0 (m2 oDiv (m2 oIx 0#3 1#0) (ae 1))) (cn (ae 2)))) dE) (aY (gv 0#3 1#0 (m2 oMod (m2 eQ (m2 iB (m2 oIx 0#3 1#0) (mC (.int 48271))) (mC (.int 29))) (mC (.int 2147483647)))) (aY (bC 3 (m2 oMod (m2 eQ (m2 eQ (m2 iB (m2 oIx 0#3 1#0) (m2 oIx 0#3 1#0)) (m2 iB (mC (.int 39373)) (m2 oIx 0#3 1#0))) (mC (.int 7))) (mC (.int 2147483629)))) (aY (bC 3 (m2 oMod (m2 eQ (m2 iB (ae 3) (ae 3)) (m2 iB (mC (.int 16807)) (ae 3))) (mC (.int 2147483587)))) (cn (m2 oMod (m2 oDiv (ae 3) (mC (.int 8))) (ae 1))))))
def bA:MF:=run 2 4 mz
def ni:MS:=cn (mFn bQ (aa (bY (iR1 (aa 0#3 ah)) cTT (mFn bQ (aa (bY (iR1 (aa 0#3 ah)) cTT (m2 oMod (m2 eQ (ae 1) (ae 2)) 0#3)) ah))) ah))
def dM:MF:=run 1 1 ni
def tS:MS:=aY (bC 1 (dN ah)) (aY (fv 2 (iR1 (aa (m2 iB 1#7 0#3) ah)) (aY (bC 3 (dN ah)) (aY (fv 4 (iR1 (aa (m2 iB 1#7 0#3) ah)) (aY (bC 5 (m2 oMod (m2 eQ (m2 oMod (ae 2) 0#3) (m2 iB (m2 oIx (dN (aa 1#4 (aa (m1 mn 1#4) ah))) (m2 oDiv (ae 2) 0#3)) (m2 oMod (ae 4) 0#3))) 0#3)) (eJ (mML de (ae 3) (aa (m2 eQ (ae 5) (m2 iB 0#3 (m2 oMod (m2 eQ (m2 oDiv (ae 2) 0#3) (m2 oDiv (ae 4) 0#3)) 1#7))) ah))))) (eJ (mML de (ae 1) (aa (mFn bQ (aa (ae 3) ah)) ah)))))) (cn (mFn bQ (aa (ae 1) ah))))
def gL:MF:=run 1 6 tS
def pD:MS:=aY (bC 0 (dN (aa (dN (aa 1#0 (aa 1#0 (aa 1#0 (aa 1#0 ah))))) (aa (dN (aa 1#0 (aa 1#4 (aa 1#0 (aa 1#4 ah))))) (aa (dN (aa 1#0 (aa 1#4 (aa 1#4 (aa 1#0 ah))))) (aa (dN (aa 1#0 (aa 1#0 (aa 1#4 (aa 1#4 ah))))) ah)))))) (aY (bC 1 (dN (aa (dN (aa 1#0 (aa 1#4 (aa 1#7 (aa (mC (.int 3)) ah))))) (aa (dN (aa 1#4 (aa 1#0 (aa (mC (.int 3)) (aa 1#7 ah))))) (aa (dN (aa 1#7 (aa (mC (.int 3)) (aa 1#0 (aa 1#4 ah))))) (aa (dN (aa (mC (.int 3)) (aa 1#7 (aa 1#4 (aa 1#0 ah))))) ah)))))) (aY (bC 2 (dN ah)) (aY (fv 3 (iR1 (aa (mC (.int 8)) ah)) (aY (bC 4 (dN ah)) (aY (fv 5 (iR1 (aa (mC (.int 8)) ah)) (aY (bC 6 (m2 oMod (m2 eQ (m2 eQ (ae 3) (ae 5)) (m2 oIx (m2 oIx 0#3 (m2 oDiv (ae 3) 1#7)) (m2 oDiv (ae 5) 1#7))) 1#7)) (eJ (mML de (ae 4) (aa (m2 eQ (m2 iB 1#7 (m2 oIx (m2 oIx (ae 1) (m2 oDiv (ae 3) 1#7)) (m2 oDiv (ae 5) 1#7))) (ae 6)) ah))))) (eJ (mML de (ae 2) (aa (mFn bQ 2#3) ah)))))) (cn (mFn bQ 1#8)))))
def jC:MF:=run 0 7 pD
def uX:MS:=aY (bC 2 (mFn cp (aa (ae 1) ah))) (aY (bC 3 (dN ah)) (aY (fv 4 (iR1 (aa (m2 iB (mFn cp (aa 0#3 ah)) (ae 2)) ah)) (aY (bC 5 (dN ah)) (aY (fv 6 (iR1 (aa (m2 iB (mFn cp (aa 0#3 ah)) (ae 2)) ah)) (aY (bC 7 (m2 oIx (m2 oIx 0#3 (m2 oDiv (ae 4) (ae 2))) (m2 oDiv (ae 6) (ae 2)))) (eJ (mML de (ae 5) (aa (m2 eQ (m2 iB (ae 7) (ae 2)) (m2 oIx (m2 oIx (ae 1) (m2 oMod (ae 4) (ae 2))) (m2 oMod (ae 6) (ae 2)))) ah))))) (eJ (mML de (ae 3) (aa (mFn bQ (aa (ae 5) ah)) ah)))))) (cn (mFn bQ (aa (ae 3) ah)))))
def mw:MF:=run 2 8 uX
def tF:MS:=cn (mFn bQ (aa (bY (dq (ae 1)) cTT (mFn bQ (aa (bY (dq (ae 1)) cTT (mMT fj (ae 1) (aa (m2 oIx (m2 oIx 0#3 (ae 2)) (ae 3)) ah))) ah))) ah))
def kS:MF:=run 2 2 tF
def tz:MS:=aY (bC 2 (jm (iR2 (aa 1#4 (aa (ae 1) ah))))) (cn (m2 eQ (iU (aa 1#0 ah)) (mFn bQ (aa (bY (iR1 (aa (m2 xw (ae 1) 1#4) ah)) cTT (mML nq (ae 2) (aa (mFn bA (aa 0#3 (aa (mFn cp 1#8) ah))) ah))) ah))))
def iH:MF:=run 2 3 tz
def nJ:MS:=aY (bC 2 (mFn bA (aa 0#3 (aa (mC (.int 8)) ah)))) (aY (bC 3 (mFn dM (aa (m2 eQ 1#4 (mFn bA 2#9)) ah))) (aY (sIf (cOr (cOf (m2 oEq (ae 2) 1#4)) (cOf (m2 oEq (ae 2) 1#7))) (bC 3 (mFn gL (aa (m2 eQ 1#4 (mFn bA (aa 0#3 (aa (m2 oDiv (ae 1) 1#7) ah)))) ah))) dE) (aY (sIf (pe (cOf (m2 oEq (ae 2) (mC (.int 3)))) (cOf (m2 oGt (ae 1) (mC (.int 7))))) (bC 3 (mFn jC ah)) dE) (aY (sIf (cOf (m2 oGt (ae 2) (mC (.int 3)))) (aY (bC 4 (m2 eQ 1#7 (mFn bA (aa 0#3 (aa (mC (.int 3)) ah))))) (aY (bC 5 (m2 oIx (dN (aa (mFn dM 2#3) (aa (mFn gL 2#3) ah))) (mFn bA (aa 0#3 (aa 1#7 ah))))) (aY (sIf (cOf (m2 oGt (mFn cp (aa (ae 5) ah)) (ae 1))) (bC 5 (mFn dM 2#3)) dE) (bC 3 (mFn mw (aa (ae 5) (aa (mFn dM (aa (m2 eQ 1#4 (mFn bA (aa 0#3 (aa (m2 oDiv (ae 1) (mFn cp (aa (ae 5) ah))) ah)))) ah)) ah))))))) dE) (aY (sIf (cOf (m2 oEq (mFn bA (aa 0#3 (aa (mC (.int 3)) ah))) 1#0)) (bC 3 (mFn kS (aa (ae 3) (aa (mFn iH (aa 0#3 (aa (mFn cp (aa (ae 3) ah)) ah))) ah)))) dE) (cn (ae 3)))))))
def nU:MF:=run 2 6 nJ
end _W
namespace _W
structure Grp(m:Nat)(T:Nat->Nat->Nat):Prop where
 pos:0<m
 cl:∀i j,i<m->j<m->T i j<m
 l0:∀i,i<m->T 0 i=i
 r0:∀i,i<m->T i 0=i
 inv:∀i,i<m->∃j,j<m/\T i j=0/\T j i=0
 as:∀i j k,i<m->j<m->k<m->T (T i j) k=T i (T j k)
def gK(n:Nat):Nat->Nat->Nat:=λi j=>(i+j)%n
variable{n:Nat}
theorem lC(h:0<n):Grp n (gK n) where
 pos:=h
 cl:=λi j _ _=>jw _ h
 l0:=λi hi=>by unfold gK;rw[fT];exact cf hi
 r0:=λi hi=>by exact cf hi
 inv:=λi hi=>by
  by_cases h0:i=0
  .subst h0;exact⟨0,h,by simp[gK],by simp[gK]⟩
  .refine⟨n-i,by lia,?_,?_⟩<;>unfold gK
   .rw[show i+(n-i)=n by lia,qp]
   .rw[show n-i+i=n by lia,qp]
 as:=λi j k _ _ _=>by
  unfold gK;rw[qy,Nat.add_mod_mod,eU]
def jf(n:Nat):Nat->Nat->Nat:=λi j=>
 (if i<n then(i%n+j%n)%n else(i%n+(n-j%n))%n)+n*((i/n+j/n)%2)
variable{i:Nat}
theorem half(h:i<2*n):(i<n/\i%n=i/\i/n=0)\/(n<=i/\i%n=i-n/\i/n=1):=by
 by_cases hi:i<n
 .exact .inl ⟨hi,cf hi,iQ hi⟩
 .refine .inr ⟨by lia,?_,?_⟩
  .rw[Nat.mod_eq_sub_mod 0#0,cf 0#0]
  .exact Nat.div_eq_of_lt_le 0#0 0#0
variable{a b:Nat}
theorem gc(ha:a<n)(hb:b<n):jf n a b=(a+b)%n:=by
 unfold jf;rw[if_pos ha,iQ ha,iQ hb];simp
theorem J8(ha:a<n):(n+a)/n=1:=Nat.div_eq_of_lt_le 0#0 0#0
theorem R3(ha:a<n):(n+a)%n=a:=by rw[Nat.add_mod_left];exact cf ha
theorem jy(ha:a<n)(hb:b<n):jf n a (n+b)=n+(a+b)%n:=by
 unfold jf;rw[if_pos ha,iQ ha,J8 hb];simp;lia
theorem jA(ha:a<n)(hb:b<n):jf n (n+a) b=n+(a+(n-b))%n:=by
 unfold jf;rw[if_neg 0#0,cf hb,iQ hb,J8 ha];simp;lia
theorem jD(ha:a<n)(hb:b<n):jf n (n+a) (n+b)=(a+(n-b))%n:=by
 unfold jf;rw[if_neg 0#0,R3 hb,J8 ha,J8 hb];simp
theorem So(ha:a<n)(hb:b<n):(a+b)%n=if a+b<n then a+b else a+b-n:=by
 split
 .exact cf 1#6
 .rw[Nat.mod_eq_sub_mod 0#0,cf 1#6]
theorem Sk(ha:a<n)(hb:b<n):(a+(n-b))%n=if b<=a then a-b else a+n-b:=by
 have e:=Nat.add_sub_assoc (aI hb) a
 split
 .rename_i h
  rw[<-e,pj h,nc,cf (aM (qr a b) ha)]
 .rename_i h
  rw[cf (Nat.lt_of_lt_of_eq (Nat.add_lt_add_right (Nat.lt_of_not_le h) _) (Nat.add_sub_cancel' (aI hb))),e]
theorem nV(h:i<2*n):(i<n) \/ ∃a,a<n/\i=n+a:=by
 by_cases hi:i<n
 .exact .inl hi
 .exact .inr ⟨i-n,by lia,by lia⟩
variable{c:Nat}
theorem Kl:((a+b)%n+c)%n=(a+(b+c)%n)%n:=by rw[qy,Nat.add_mod_mod,eU]
theorem QX(hb:b<n)(hc:c<n):((a+(n-b))%n+(n-c))%n=(a+(n-(b+c)%n))%n:=by
 rw[qy,So hb hc]
 split
 .rename_i h
  have h1:n-b=n-(b+c)+c:=by rw[Nat.sub_add_eq,mQ (Nat.le_sub_of_add_le' (aI h))]
  rw[h1,<-eU,eU _ c,Nat.add_sub_cancel' (aI hc),nc]
 .rename_i h
  rw[<-ng b (aI hc),ng n (Nat.sub_le_of_le_add (dS h)),pj (aI hb),eU]
theorem Pl(hb:b<n)(hc:c<n):((a+(n-b))%n+c)%n=(a+(n-(b+(n-c))%n))%n:=by
 rw[qy,Sk hb hc]
 split
 .rename_i h
  rw[ng n h,pj (aI hb),eU]
 .rename_i h
  have h':=aI (Nat.lt_of_not_le h);rw[xF b n,<-ng n h',Nat.sub_sub_self (aK (qr c b) (aI hc)),<-nc (a+(c-b)) n,eU a _ n,xF _ n,<-Nat.add_sub_assoc h' n,pj (aI hb),eU]
theorem Au(h:0<n):Grp (2*n) (jf n):=by
 have ml:∀x,x%n<n:=λx=>jw _ h;have cl:∀i j,i<2*n->j<2*n->jf n i j<2*n:=λi j hi hj=>by
  rcases nV hi with hi|⟨a,ha,rfl⟩<;>rcases nV hj with hj|⟨b,hb,rfl⟩
  .rw[gc hi hj];have:=ml (i+j);lia
  .rw[jy hi hb];have:=ml (i+b);lia
  .rw[jA ha hj];have:=ml (a+(n-j));lia
  .rw[jD ha hb];have:=ml (a+(n-b));lia
 refine⟨by lia,cl,λi hi=>?_,λi hi=>?_,λi hi=>?_,λi j k hi hj hk=>?_⟩
 .rcases nV hi with hi|⟨a,ha,rfl⟩
  .rw[gc h hi,fT,cf hi]
  .rw[jy h ha,fT,cf ha]
 .rcases nV hi with hi|⟨a,ha,rfl⟩
  .rw[gc hi h,Nat.add_zero,cf hi]
  .rw[jA ha h,Nat.sub_zero,nc,cf ha]
 .rcases nV hi with hi|⟨a,ha,rfl⟩
  .by_cases h0:i=0
   .subst h0;exact⟨0,by omega,by rw[gc h h];simp,by rw[gc h h];simp⟩
   .have hl:n-i<n:=by omega
    refine⟨n-i,by lia,?_,?_⟩
    .rw[gc hi hl,show i+(n-i)=n by omega,qp]
    .rw[gc hl hi,show n-i+i=n by omega,qp]
  .refine⟨_,by omega,?_,?_⟩<;>rw[jD ha ha,show a+(n-a)=n by omega,qp]
 .rcases nV hi with hi|⟨a,ha,rfl⟩<;>rcases nV hj with hj|⟨b,hb,rfl⟩<;>rcases nV hk with hk|⟨c,hc,rfl⟩
  .rw[gc hi hj,gc hj hk,gc (ml _) hk,gc hi (ml _),Kl]
  .rw[gc hi hj,jy hj hc,jy (ml _) hc,jy hi (ml _),Kl]
  .rw[jy hi hb,jA hb hk,jA (ml _) hk,jy hi (ml _),Kl]
  .rw[jy hi hb,jD hb hc,jD (ml _) hc,gc hi (ml _),Kl]
  .rw[jA ha hj,gc hj hk,jA (ml _) hk,jA ha (ml _),QX hj hk]
  .rw[jA ha hj,jy hj hc,jD (ml _) hc,jD ha (ml _),QX hj hc]
  .rw[jD ha hb,jA hb hk,gc (ml _) hk,jD ha (ml _),Pl hb hk]
  .rw[jD ha hb,jD hb hc,jy (ml _) hc,jA ha (ml _),Pl hb hc]
def vX(m:Nat)(A B:Nat->Nat->Nat):Nat->Nat->Nat:=λi j=>A (i/m) (j/m)*m+B (i%m) (j%m)
variable{m:Nat}
theorem DF(hb:b<m):(a*m+b)/m=a/\(a*m+b)%m=b:=by
 have hm:0<m:=by lia
 constructor
 .rw[lT,Nat.mul_add_div hm,iQ hb];rfl
 .rw[lT,Nat.mul_add_mod,cf hb]
theorem Jl{k:Nat}{A B:Nat->Nat->Nat}(ga:Grp k A)(gb:Grp m B):Grp (k*m) (vX m A B):=by
 have hm:=gb.pos;have dl:∀i,i<k*m->i/m<k:=λi hi=>Nat.div_lt_of_lt_mul (by rw[lT];exact hi);have rl:∀i,i%m<m:=λi=>jw _ hm;have lt:∀a b,a<k->b<m->a*m+b<k*m:=λa b ha hb=>by
  have:(a+1)*m<=k*m:=iG m ha;rw[Nat.add_mul]at this;lia
 refine⟨Nat.mul_pos ga.pos hm,λi j hi hj=>lt _ _ (ga.cl _ _ (dl i hi) (dl j hj)) (gb.cl _ _ (rl i) (rl j)),λi hi=>?_,λi hi=>?_,λi hi=>?_,λi j l hi hj hl=>?_⟩
 .unfold vX;rw[Nat.zero_div,Nat.zero_mod,ga.l0 _ (dl i hi),gb.l0 _ (rl i),lT];exact B9 i m
 .unfold vX;rw[Nat.zero_div,Nat.zero_mod,ga.r0 _ (dl i hi),gb.r0 _ (rl i),lT];exact B9 i m
 .obtain⟨a,ha,a1,a2⟩:=ga.inv _ (dl i hi)
  obtain⟨b,hb,b1,b2⟩:=gb.inv _ (rl i);obtain⟨p1,p2⟩:=DF hb;refine⟨_,lt a b ha hb,?_,?_⟩<;>unfold vX<;>rw[p1,p2]
  .rw[a1,b1];simp
  .rw[a2,b2];simp
 .unfold vX
  obtain⟨p1,p2⟩:=DF (gb.cl _ _ (rl i) (rl j));obtain⟨q1,q2⟩:=DF (gb.cl _ _ (rl j) (rl l));rw[p1,p2,q1,q2,ga.as _ _ _ (dl i hi) (dl j hj) (dl l hl),gb.as _ _ _ (rl i) (rl j) (rl l)]
def Qr:List (List Nat):= [[0,1,2,3,4,5,6,7],[1,0,3,2,5,4,7,6],[2,3,1,0,6,7,5,4],[3,2,0,1,7,6,4,5],[4,5,7,6,1,0,2,3],[5,4,6,7,0,1,3,2],[6,7,4,5,3,2,1,0],[7,6,5,4,2,3,0,1]]
def iS:Nat->Nat->Nat:=λi j=>(Qr.getD i []).getD j 0
def q1:Bool:=(ao 8).all λi=>(iS 0 i==i)&&(iS i 0==i)&&((ao 8).any λj=>(iS i j==0)&&(iS j i==0))&&(ao 8).all λj=>decide (iS i j<8)&&(ao 8).all λk=>iS (iS i j) k==iS i (iS j k)
theorem Q5:q1=c_:=by decide +kernel
theorem Gv:Grp 8 iS:=by
 have h:=dc.mp Q5;have g:=λi hi=>h i (aA.mpr hi);simp at g;refine⟨by decide,λi j hi hj=>((g i hi).2 j hj).1,λi hi=>(g i hi).1.1.1,λi hi=>(g i hi).1.1.2,λi hi=>?_,λi j k hi hj hk=>((g i hi).2 j hj).2 k hk⟩
 simp_all
structure Ord(m:Nat)(o p:Nat->Nat):Prop where
 ol:∀i,i<m->o i<m
 pl:∀i,i<m->p i<m
 po:∀i,i<m->p (o i)=i
 op:∀i,i<m->o (p i)=i
 o0:o 0=0
def ib(T:Nat->Nat->Nat)(o p:Nat->Nat):Nat->Nat->Nat:=λi j=>p (T (o i) (o j))
variable{T:Nat->Nat->Nat}
theorem sh{o p:Nat->Nat}(g:Grp m T)(h:Ord m o p):Grp m (ib T o p):=by
 have p0:=by have:=h.po 0 g.pos;rwa[h.o0]at this
 refine⟨g.pos,λi j hi hj=>h.pl _ (g.cl _ _ (h.ol i hi) (h.ol j hj)),λi hi=>?_,λi hi=>?_,λi hi=>?_,λi j k hi hj hk=>?_⟩
 .unfold ib;rw[h.o0,g.l0 _ (h.ol i hi),h.po i hi]
 .unfold ib;rw[h.o0,g.r0 _ (h.ol i hi),h.po i hi]
 .obtain⟨j,hj,a,b⟩:=g.inv _ (h.ol i hi)
  refine⟨_,h.pl j hj,?_,?_⟩<;>unfold ib<;>rw[h.op j hj]<;>simp_all
 .unfold ib
  rw[h.op _ (g.cl _ _ (h.ol i hi) (h.ol j hj)),h.op _ (g.cl _ _ (h.ol j hj) (h.ol k hk)),g.as _ _ _ (h.ol i hi) (h.ol j hj) (h.ol k hk)]
theorem jk{α:Type}:∀(l:List α) (i:Nat) (h:i<l.length),(l[i]::l.eraseIdx i).Perm l
 |x::l,0,_=>by simp
 | x::l,i+1,h=>by
   have h':=by simpa using h
   have:=jk l i h';exact(List.Perm.swap _ _ _).trans (this.cons x)
theorem Lf{l:List Nat}(nd:l.Nodup)(h:i<l.length):l.idxOf l[i]=i:=by
 grind
structure qI(m:Nat)(l:List Nat):Prop where
 perm:l.Perm (ao m)
 z:l[0]?=a_ 0
def oF(l:List Nat):Nat->Nat:=λi=>l.getD i 0
def pF(l:List Nat):Nat->Nat:=λx=>l.idxOf x
section
variable {m:Nat}{l:List Nat}
theorem qI.len(h:qI m l):l.length=m:=by have:=h.perm.length_eq;simpa using this
theorem qI.nd(h:qI m l):l.Nodup:=h.perm.nodup_iff.mpr ke
theorem qI.mem(h:qI m l){x:Nat}:x∈l↔x<m:=by rw[h.perm.mem_iff,aA]
theorem qI.get(h:qI m l)(hi:i<m):l[i]?=a_ (oF l i):=by
 have hl:i<l.length:=by rw[h.len];omega
 simp[oF,hl]
theorem qI.ord(h:qI m l):Ord m (oF l) (pF l) where
 ol:=λi hi=>h.mem.mp (bK (h.get hi))
 pl:=λx hx=>by
  have:=nh.mpr (h.mem.mpr hx);rw[h.len]at this;exact this
 po:=λi hi=>by
  have hl:i<l.length:=by rw[h.len];omega
  have e:oF l i=l[i]:=by simp[oF,hl]
  rw[e];exact Lf h.nd hl
 op:=λx hx=>by
  have h1:=nh.mpr (h.mem.mpr hx);unfold oF pF
  simp_all
 o0:=by
  unfold oF;rw[aP,h.z];rfl
end
theorem Fv{xs:List Nat}(hm:0<m)(h:xs.Perm (ba 1 (m-1))):qI m (0::xs):=by
 refine⟨?_,rfl⟩;have e:ao m=0::ba 1 (m-1):=by
  rw[rM];have:m=(m-1)+1:=by lia
  rw[this,List.range'_succ];simp
 simp_all
section
variable {m:Nat}{T:Nat->Nat->Nat}
theorem Grp.cancel(g:Grp m T)(ha:a<m)(hb:b<m)(hc:c<m)(h:T a b=T a c):b=c:=by
 obtain⟨i,hi,h1,h2⟩:=g.inv a ha;have e1:T i (T a b)=b:=by rw[<-g.as i a b hi ha hb,h2,g.l0 b hb]
 have e2:T i (T a c)=c:=by rw[<-g.as i a c hi ha hc,h2,g.l0 c hc]
 simp_all
theorem Grp.cancelR(g:Grp m T)(ha:a<m)(hb:b<m)(hc:c<m)(h:T b a=T c a):b=c:=by
 obtain⟨i,hi,h1,h2⟩:=g.inv a ha;have e1:T (T b a) i=b:=by rw[g.as b a i hb ha hi,h1,g.r0 b hb]
 have e2:T (T c a) i=c:=by rw[g.as c a i hc ha hi,h1,g.r0 c hc]
 simp_all
theorem Grp.inv1(g:Grp m T)(hi:i<m):∃j,j<m/\T i j=0/\T j i=0 /\ ∀k,k<m->T i k=0->k=j:=by
 obtain⟨j,hj,h1,h2⟩:=g.inv i hi;exact⟨j,hj,h1,h2,λk hk h=>g.cancel hi hk hj (h.trans h1.symm)⟩
def pw(T:Nat->Nat->Nat)(x:Nat):Nat->Nat
 |0=>0
 |n+1=>T (pw T x n) x
theorem gy(g:Grp m T){x:Nat}(hx:x<m):∀n,pw T x n<m
 |0=>g.pos
 |n+1=>g.cl _ _ (gy g hx n) hx
theorem sU(g:Grp m T){x:Nat}(hx:x<m)(a:Nat):∀b,pw T x (a+b)=T (pw T x a) (pw T x b)
 |0=>by show pw T x a=T _ 0;rw[g.r0 _ (gy g hx a)]
 | b+1=>by
   show T (pw T x (a+b)) x=T _ (T _ x);rw[sU g hx a b,g.as _ _ _ (gy g hx a) (gy g hx b) hx]
theorem DJ(g:Grp m T){x:Nat}(hx:x<m)(ZU:a<=b)(h:pw T x a=pw T x b):pw T x (b-a)=0:=by
 have e:b=a+(b-a):=by lia
 rw[e,sU g hx]at h;have e2:T (pw T x a) 0=T (pw T x a) (pw T x (b-a)):=by rw[g.r0 _ (gy g hx a)];lia
 exact(g.cancel (gy g hx a) g.pos (gy g hx _) e2).symm
end
theorem sH:∀(m:Nat) (l:List Nat),l.Nodup->(∀x∈l,x<m)->l.length<=m
 | 0,l,_,h=>by
   cases l with
   |nil=>simp
   |cons x l=>exact absurd (h x 0#4) 0#0
 | m+1,l,nd,h=>by
   have h1:=sH m _ (nd.erase m) λx hx=>by
    grind
   grind
theorem Jh{f:Nat->Nat}(h:∀i,i<=m->f i<m):∃i j,i<j/\j<=m/\f i=f j:=by
 apply ij;intro no;have inj:=λi j h1 h2 e=>no ⟨i,j,h1,h2,e⟩;have nd:((ao (m+1)).map f).Nodup:=by
  rw[ay,aW];refine bM ?_ (eG)
  grind
 have:=sH m _ nd (λx hx=>by
  obtain⟨i,hi,rfl⟩:=aw.mp hx
  exact h i (by have:=aA.mp hi;exact d6 (by omega)))
 simp at this
 grind
theorem least{P:Nat->Prop}:∀n,P n->∃k,k<=n/\P k /\ ∀j,j<k->¬P j:=by
 intro n
 induction n using Nat.strongRecOn with
 | ind n ih=>
   intro h;by_cases hx:∃j,j<n/\P j
   .obtain⟨j,hj,hp⟩:=hx
    obtain⟨k,h1,h2,h3⟩:=ih j hj hp<;>grind
   .exact⟨n,ak _,h,λj hj hp=>hx ⟨j,hj,hp⟩⟩
theorem Grp.ord(g:Grp m T){x:Nat}(hx:x<m):∃n,1<=n/\n<=m/\pw T x n=0 /\ ∀k,1<=k->k<n->pw T x k≠0:=by
 obtain⟨a,b,h1,h2,h3⟩:=Jh λi _=>gy g hx i;have h4:=DJ g hx (aI h1) h3;obtain⟨n,k1,⟨k2,k3⟩,k4⟩:=least (P:=λn=>1<=n/\pw T x n=0) _ ⟨by lia,h4⟩;exact⟨n,k2,by lia,k3,λj j1 j2 j3=>k4 j j2 ⟨j1,j3⟩⟩
theorem idx_map{f:Nat->Nat}{x:Nat}:∀(n s k:Nat),s<=k->k<s+n->f k=x->(∀j,s<=j->j<k->f j≠x)->((ba s n).map f).idxOf x=k-s
 |0,s,k,h1,h2,_,_=>by lia
 | n+1,s,k,h1,h2,hp,hn=>by
   rw[List.range'_succ,dw,Ak];by_cases hs:s=k
   .subst hs;simp[hp]
   .have hb:(f s==x)=d_:=by simpa using hn s (ak _) (by exact bH 0#5 0#5)
    rw[hb];simp only[cond_false];rw[idx_map n (s+1) k (by exact bH 0#5 0#5) 0#0 hp λj h1 h2=>hn j (by exact aI 0#5) h2]
    lia
end _W
namespace _W
open _L _G
def Ex(S S':Sto):Prop:= ∃t,S'=S++t
theorem Ex.refl(S:Sto):Ex S S:=⟨[],by simp⟩
variable{S S1 S2:Sto}
theorem Ex.trans(a:Ex S S1)(b:Ex S1 S2):Ex S S2:=by
 obtain⟨t,rfl⟩:=a;obtain⟨u,rfl⟩:=b;exact⟨t++u,by simp⟩
theorem Ex.push(S:Sto)(c:Cell):Ex S (S++[c]):=⟨_,rfl⟩
variable{S':Sto}{n:Nat}
theorem Ex.get(h:Ex S S')(hn:n<0#7):S'[n]?=S[n]? := by
 obtain⟨t,rfl⟩:=h;exact aT hn
variable{c:Cell}
theorem Ex.some(h:Ex S S')(e:S[n]?=a_ c):S'[n]?=a_ c:=by
 rw[h.get (ag.mp e).1];omega
theorem Ex.len(h:Ex S S'):0#7<=S'.length:=by
 obtain⟨t,rfl⟩:=h;simp
def o5(n:Nat)(S:Sto):Prop:= ∃s b,S[n]?=a_ (.lst [.int s,.bl b])
structure Stp(n:Nat)(S S':Sto):Prop where
 len:S.length<=S'.length
 same:∀m,m<S.length->m≠n->S'[m]?=S[m]?
 st:o5 n S'
theorem Stp.refl(h:o5 n S):Stp n S S:=⟨ak _,λ_ _ _=>rfl,h⟩
theorem Stp.trans{n:Nat}{S S1 S2:Sto}(a:Stp n S S1)(b:Stp n S1 S2):Stp n S S2:=
 ⟨aK a.len b.len,λm h1 h2=>(b.same m (ai h1 a.len) h2).trans (a.same m h1 h2),b.st⟩
theorem o5.lt(h:o5 n S):n<0#7:=by
 obtain⟨s,b,e⟩:=h;exact(ag.mp e).1
theorem o5.ex(h:o5 n S)(e:Ex S S'):o5 n S':=by
 obtain⟨s,b,q⟩:=h;exact⟨s,b,e.some q⟩
theorem Stp.ex{n:Nat}{S S':Sto}(h:o5 n S)(e:Ex S S'):Stp n S S':=⟨e.len,λm h1 _=>e.get h1,h.ex e⟩
variable{m:Nat}
theorem Stp.some(h:Stp n S S')(hm:m≠n)(e:S[m]?=a_ c):S'[m]?=a_ c:=by
 rw[h.same m (ag.mp e).1 hm];omega
theorem El{many:Int}(h:o5 n S)(hm:0<many)(Zf:many<1073741824):
  ∃r S',bA [.ref n,.int many] S=a_ (.int r,S')/\0<=r/\r<many/\Stp n S S'/\S'.length=0#7:=by
 obtain⟨s,b,e⟩:=h;have hn:=(ag.mp e).1;have hd:yr many:=⟨hm,Zf⟩;have hd8:yr 8:=⟨by decide,by decide⟩;cases b with
 | true=>
   refine⟨s%many,S.set n (.lst _),?_,Ca _ 0#0,wU _ hm,⟨by simp,λm h1 h2=>by rw[aN (eD h2)],⟨s/many,c_,by rw[aV hn]⟩⟩,by simp⟩;simp[bA,_G.run,mz,aY,sIf,cOf,m2,ae,mC,bnd,oIx,gO,eA,getL,e,atI,ixN,bC,oMod,oDiv,hm,hd,gv,cn]
 | false=>
   have b1:∀x m,0<m->m<4294967296->lD (x%m) (x%m):=λx m h1 h2=>by
    have h3:=Ca x (show m≠0 by lia);have h4:=wU x h1;exact .inl ⟨by lia,by lia⟩
   have hg:∀c,(S.set n c)[n]?=Option.some c:=λc=>aV hn;have k1:lD s 48271:= .inr ⟨by decide,by decide⟩;have k2:=b1 (s*48271+29) 2147483647 0#2 0#2;generalize WD:(s*48271+29)%2147483647=s1 at k2;have k3:lD 39373 s1:= .inl ⟨by decide,by decide⟩;have k4:=b1 (s1*s1+39373*s1+7) 2147483629 0#2 0#2;generalize XQ:(s1*s1+39373*s1+7)%2147483629=m1 at k4;have k5:lD 16807 m1:= .inl ⟨by decide,by decide⟩;refine⟨(m1*m1+16807*m1)%2147483587/8%many,S.set n (.lst _),?_,Ca _ 0#0,wU _ hm,⟨by simp,λm h1 h2=>by rw[aN (eD h2)],⟨s1,d_,by rw[aV hn]⟩⟩,by simp⟩;simp[bA,_G.run,mz,aY,sIf,cOf,m2,ae,mC,bnd,oIx,gO,eA,getL,e,atI,ixN,bC,oMod,oDiv,eQ,iB,hm,hd,gv,cn,dE,hg,k1,k2,k3,k4,k5,WD,XQ,hd8]
theorem vB{i:Nat}{b:MS}(P:Nat->Rho->Sto->Prop):∀(us:List U) (k:Nat) (G:Rho) (S:Sto),P k G S ->
  (∀(j:Nat) (u:U) (G:Rho) (S:Sto),us[j]?=a_ u->P (k+j) G S->∃Y4 S',b (G.set i (a_ u)) S=a_ (.nx,Y4,S')/\P (k+j+1) Y4 S') ->
  ∃Y4 S',vd i b us G S=a_ (.nx,Y4,S')/\P (k+1#1) Y4 S'
 |[],k,G,S,h,_=>⟨G,S,rfl,h⟩
 | u::us,k,G,S,h,st=>by
   obtain⟨Y5,S1,e1,h1⟩:=st 0 u G S rfl h;obtain⟨X0,S2,e2,h2⟩:=vB P us _ _ S1 h1 λj v G S hj hp=>by
    have:=st (j+1) v G S (by simpa using hj) (by grind);rw[show k+(j+1)+1=k+1+j+1 by lia]at this;omega
   refine⟨_,S2,?_,by rw[show k+(u::us).length=k+1+1#1 by grind];omega⟩;show aft _ _=_;rw[e1];exact e2
theorem oO{e:ME}{G:Rho}(g:Nat->U)(P:Nat->Sto->Prop):∀(us:List U) (k:Nat) (acc:List U) (S:Sto),P k S ->
  (∀(j:Nat) (u:U) (S:Sto),us[j]?=a_ u->P (k+j) S->∃S',e (G++[a_ u]) S=a_ (g (k+j),S')/\P (k+j+1) S') ->
  ∃S',jV cTT e G us acc S=a_ (acc++(ao 1#1).map (λj=>g (k+j)),S')/\P (k+1#1) S'
 |[],k,acc,S,h,_=>⟨S,by simp[jV],h⟩
 | u::us,k,acc,S,h,st=>by
   obtain⟨S1,e1,h1⟩:=st 0 u S rfl h;obtain⟨S2,e2,h2⟩:=oO g P us (k+1) _ S1 h1 λj v S hj hp=>by
    have:=st (j+1) v S (by simpa using hj) (by rw[show k+(j+1)=k+1+j by omega];omega);rw[show k+(j+1)=k+1+j by omega]at this;omega
   refine⟨S2,?_,by rw[show k+(u::us).length=k+1+1#1 by simp;lia];omega⟩;show bnd _ _=_;simp only[cTT,aF,if_true];rw[e1];simp only[aF];rw[e2];simp only[bz,kY,B4,and_true];rw[bU,GG,dw,bq];simp only[List.singleton_append,List.append_cancel_left_eq,List.cons.injEq,true_and];apply aR
   grind
def Cu(n:Nat)(g:Nat->U):U:= .tup ((ao n).map g)
theorem um(h:n<big):okR (n:Int):=by
 unfold big at h;exact⟨by simp_all,by lia⟩
variable{G:Rho}{S0:Sto}{a:ME}{u:U}
theorem pq(ha:a G S=a_ (u,S0)):aa a ah G S=a_ ([u],S0):=by
 simp[aa,ah,ha,aF]
variable{j:Int}
theorem OR{a:MA}(ha:a G S=a_ ([.int j],S0))(h:okR j):iR1 a G S=a_ (.imm (bI 0 j.toNat),S0):=by
 unfold iR1;rw[ha];exact if_pos h
theorem oB(ha:a G S=a_ (.int n,S0))(h:n<big):iR1 (aa a ah) G S=a_ (.imm (bI 0 n),S0):=by
 rw[OR (pq ha) (um h),cj]
variable{e:ME}{us ys:List U}
theorem l4{it:MI}{t:MT}(hi:it G S=a_ (.imm us,S0))(h:jV t e G us [] S0=a_ (ys,S1))(hz:ys.length<big):bY it t e G S=a_ (.ref S1.length,S1++[.lst ys]):=by
 simp only[bY,hi,aF,Bm,h];exact if_pos hz
theorem fh(h:a G S=a_ (.ref S1.length,S1++[.lst ys])):mFn bQ (aa a ah) G S=a_ (.tup ys,S1++[.lst ys]):=by
 unfold mFn;rw[pq h];show(eA _ _).map _=_;have:eA (S1++[Cell.lst ys]) (.ref S1.length)=a_ ys:=by
  show getL _ _=_;unfold getL;simp
 rw[this];rfl
theorem HH{S:Sto}(ha:a G S=a_ (.int n,S0))(hn:n<big)(g:Nat->U)(P:Nat->Sto->Prop)(h0:P 0 S0)
  (hs:∀(j:Nat) (S:Sto),j<n->P j S->∃S',e (G++[a_ (.int j)]) S=a_ (g j,S')/\P (j+1) S'):
  ∃S',mFn bQ (aa (bY (iR1 (aa a ah)) cTT e) ah) G S=a_ (Cu n g,S'++[.lst ((ao n).map g)])/\P n S':=by
 obtain⟨S1,e1,h1⟩:=oO g P (bI 0 n) 0 [] S0 h0 λj u S hj hp=>by
  have hl:=by have:=(ag.mp hj).1;simpa [bI]using this
  have hu:(bI 0 n)[j]?=a_ (.int j):=by simp[bI,hl]
  rw[hu]at hj;cases hj;simpa using hs j S hl (by simpa using hp)
 have hlen:(bI 0 n).length=n:=by simp[bI]
 simp[hlen]at e1 h1;exact⟨S1,fh (l4 (oB ha hn) e1 (by simp_all)),h1⟩
theorem QE{S:Sto}(ha:a G S=a_ (.tup us,S0))(hn:1#1<big)(g:Nat->U)(P:Nat->Sto->Prop)(h0:P 0 S0)
  (hs:∀(j:Nat) (u:U) (S:Sto),us[j]?=a_ u->P j S->∃S',e (G++[a_ u]) S=a_ (g j,S')/\P (j+1) S'):
  ∃S',mFn bQ (aa (bY (dq a) cTT e) ah) G S=a_ (Cu us.length g,S'++[.lst ((ao 1#1).map g)])/\P us.length S':=by
 obtain⟨S1,e1,h1⟩:=oO g P us 0 [] S0 h0 λj u S hj hp=>by
  simpa using hs j u S hj (by simpa using hp)
 simp at e1 h1;exact⟨S1,fh (l4 (by unfold dq;rw[ha];rfl) e1 (by simp_all)),h1⟩
def mW(m:Nat)(T:Nat->Nat->Nat)(i:Nat):U:=Cu m λj=>.int (T i j)
def tab(m:Nat)(T:Nat->Nat->Nat):U:=Cu m (mW m T)
variable{i:Nat}
theorem oQ{α:Type}{f:Nat->α}(h:i<m):atI ((ao m).map f) (i:Int)=a_ (f i):=by
 simp[atI,ixN,h]
theorem nv(h:0<n)(hn:n<big):∃S',dM [.int n] S=a_ (tab n (gK n),S')/\Ex S S':=by
 have key:∃S',mFn bQ (aa (bY (iR1 (aa 0#3 ah)) cTT (mFn bQ (aa (bY (iR1 (aa 0#3 ah)) cTT (m2 oMod (m2 eQ (ae 1) (ae 2)) 0#3)) ah))) ah) [a_ (.int n)] S=a_ (Cu n (mW n (gK n)),S'++[.lst ((ao n).map (mW n (gK n)))])/\Ex S S':=by
  refine HH (by simp[ae]) hn _ (λ_ S'=>Ex S S') (Ex.refl S) λi S1 hi hx=>?_;obtain⟨S2,e2,h2⟩:=HH (G:= [a_ (.int n),a_ (.int i)]) (S:=S1) (a:=ae 0) (e:=m2 oMod (m2 eQ (ae 1) (ae 2)) 0#3) (by simp[ae]) hn (λj=>.int (gK n i j)) (λ_ S'=>S'=S1) rfl λj S' hj hx=>by
   refine⟨S',?_,hx⟩;have h0:(0:Int)<n:=by lia
   simp only[m2,ae,fq,eh,List.getElem?_cons_succ,List.getElem?_cons_zero,aF,eQ,oMod,h0,if_true,gK,pk,Cb]
  subst h2;exact⟨_,e2,hx.trans (Ex.push _ _)⟩
 obtain⟨S',e,hx⟩:=key;refine⟨S'++[.lst ((ao n).map (mW n (gK n)))],?_,hx.trans (Ex.push _ _)⟩;simp[dM,_G.run,ni,cn,bU,Aj,dw,List.map_nil,JQ,List.replicate_zero,cb,if_true,e,aF,tab]
theorem yp(h:0<n)(h2:n<1000):yr (n:Int):=⟨by lia,by lia⟩
theorem ux{i:Int}(h1: -1000000000<=i)(h2:i<=1000000000):lD i j:= .inl ⟨by lia,by lia⟩
theorem xT(h:n<1000000):lD (n:Int) j:=ux (by simp_all) 0#0
def Agr(L:List Nat)(G' G:Rho):Prop:=G.length=G'.length /\ ∀i,i∉L->G[i]?=G'[i]?
theorem Agr.refl(L:List Nat)(G:Rho):Agr L G G:=⟨rfl,λ_ _=>rfl⟩
variable{L:List Nat}{G':Rho}{v:Option U}
theorem Agr.set(h:Agr L G' G)(hi:i∈L):Agr L G' (G.set i v):=
 ⟨by rw[jd];exact h.1,λj hj=>by rw[aN (by grind)];exact h.2 j hj⟩
structure Sm(b:Nat)(S0 S:Sto):Prop where
 len:S0.length<=S.length
 same:∀m,m<b->S[m]?=S0[m]?
theorem Sm.trans{b:Nat}{S0 S1 S2:Sto}(a:Sm b S0 S1)(c:Sm b S1 S2):Sm b S0 S2:=⟨aK a.len c.len,λm h=>(c.same m h).trans (a.same m h)⟩
variable{b:Nat}
theorem Sm.ex(h:Ex S0 S)(hb:b<=S0.length):Sm b S0 S:=⟨h.len,λm hm=>h.get (ai hm hb)⟩
theorem Sm.set(h:Sm b S0 S)(hn:b<=n):Sm b S0 (S.set n c):=
 ⟨by rw[jd];exact h.len,λm hm=>by rw[aN 0#0];exact h.same m hm⟩
structure Wr(r:Nat)(S S':Sto):Prop where
 len:S.length<=S'.length
 same:∀m,m<S.length->m≠r->S'[m]?=S[m]?
theorem Wr.trans{r:Nat}{S S1 S2:Sto}(a:Wr r S S1)(b:Wr r S1 S2):Wr r S S2:=
 ⟨aK a.len b.len,λm h1 h2=>(b.same m (ai h1 a.len) h2).trans (a.same m h1 h2)⟩
theorem Wr.refl(r:Nat)(S:Sto):Wr r S S:=⟨ak _,λ_ _ _=>rfl⟩
variable{r:Nat}
theorem Wr.ex(h:Ex S S'):Wr r S S':=⟨h.len,λm hm _=>h.get hm⟩
theorem Wr.set(r:Nat)(S:Sto)(c:Cell):Wr r S (S.set r c):=⟨by simp,λm _ h=>aN (eD h)⟩
theorem Wr.sm(h:Wr r S S')(hb:b<=r)(hr:b<=0#7):Sm b S S':=⟨h.len,λm hm=>h.same m (by exact ai 1#6 1#6) 0#0⟩
theorem qV(h:i<G.length):(G.set i v)[i]?=a_ v:=aV h
theorem var_eq(h:G[i]?=a_ (a_ u)):ae i G S=a_ (u,S):=by simp[ae,h]
variable{b:MS}
theorem lO{G:Rho}{S:Sto}(ha:a G S=a_ (.int n,S))(h:n<big)(P:Nat->Rho->Sto->Prop)(h0:P 0 G S)
  (st:∀(j:Nat) (G:Rho) (S:Sto),j<n->P j G S->∃Y4 S',b (G.set i (a_ (.int j))) S=a_ (.nx,Y4,S')/\P (j+1) Y4 S'):
  ∃Y4 S',fv i (iR1 (aa a ah)) b G S=a_ (.nx,Y4,S')/\P n Y4 S':=by
 rw[(show fv i (iR1 (aa a ah)) b G S=vd i b (bI 0 n) G S by
   unfold fv;rw[oB ha h]
   rfl)]
 obtain⟨Y4,S',e,q⟩:=vB P (bI 0 n) 0 G S h0 λj u G S hj hp=>by
  have hl:=by have:=(ag.mp hj).1;simpa [bI]using this
  have hu:(bI 0 n)[j]?=a_ (.int j):=by simp[bI,hl]
  rw[hu]at hj;cases hj;simpa using st j G S hl (by simpa using hp)
 have hlen:(bI 0 n).length=n:=by simp[bI]
 rw[hlen,fT]at q;exact⟨_,S',e,q⟩
variable{o:ME}{row:List U}
theorem append_eq(ho:o G S=a_ (.ref r,S))(ha:a G S=a_ (u,S1))(hr:S[r]?=a_ (Cell.lst row))(ZZ:S1[r]?=a_ (Cell.lst row))(hl:row.length<big):
  eJ (mML de o (aa a ah)) G S=a_ (.nx,G,S1.set r (Cell.lst (row++[u]))):=by
 simp[eJ,mML,ho,aF,getL,hr,pq ha,de,ZZ,hl]
theorem kA(ha:a G S=a_ (.ref r,S))(hr:S[r]?=a_ (Cell.lst row)):mFn bQ (aa a ah) G S=a_ (.tup row,S):=by
 simp[mFn,pq ha,aF,bQ,eA,getL,hr]
variable{T:Nat->Nat->Nat}
theorem build{fs rs is js:Nat}{bIn:MS}(hm:m<big)(h1:rs∈L)(h2:is∈L)(h3:js∈L)(h4:fs∉L)(d1:rs≠is)(d2:js≠is)(d3:js≠rs)
  (l1:rs<G'.length) (l2:is<G'.length) (l3:js<G'.length) (hf:G'[fs]?=a_ (a_ (.ref S0.length)))
  (ha:∀G S,Agr L G' G->Sm S0.length S0 S->a G S=a_ (.int m,S))
  (hb: ∀(i j r:Nat) (G:Rho) (S:Sto) (row:List U),i<m->j<m->Agr L G' G->G[is]? = a_ (a_ (.int i))->G[js]? = a_ (a_ (.int j))->G[rs]? = a_ (a_ (.ref r))->Sm S0.length S0 S->S0.length<r->S[r]? = a_ (Cell.lst row)->row.length<big ->
   ∃Y4 S',bIn G S=a_ (.nx,Y4,S')/\Agr L G' Y4/\Y4[is]? = a_ (a_ (.int i))/\Y4[rs]? = a_ (a_ (.ref r))/\Wr r S S'/\S'[r]? = a_ (Cell.lst (row++[.int (T i j)]))):
  ∃Y4 S',fv is (iR1 (aa a ah)) (aY (bC rs (dN ah)) (aY (fv js (iR1 (aa a ah)) bIn) (eJ (mML de (ae fs) (aa (mFn bQ (aa (ae rs) ah)) ah))))) G' (S0++[Cell.lst []])=a_ (.nx,Y4,S') /\
   Agr L G' Y4/\Sm S0.length S0 S'/\S'[S0.length]?=a_ (Cell.lst ((ao m).map (mW m T))):=by
 have s0:Sm _ S0 (S0++[Cell.lst []]):=Sm.ex (Ex.push _ _) (ak _);refine lO (P:=λk G S=>Agr L _ G/\Sm _ S0 S/\S0.length<0#7/\S[S0.length]?=a_ (Cell.lst ((ao k).map _))) (ha _ _ (Agr.refl _ _) s0) hm ⟨Agr.refl _ _,s0,by simp,by simp⟩ ?_ |>.imp λY4 h=>h.imp λS' h=>⟨h.1,h.2.1,h.2.2.1,h.2.2.2.2⟩
 rintro i G S hi ⟨g1,g2,g3,g4⟩;have e0:bC rs (dN ah) (G.set is (a_ (.int i))) S=a_ (.nx,(G.set is (a_ (.int i))).set rs (a_ (.ref 0#7)),S++[Cell.lst []]):=by
  have hz:([]:List U).length<=big:=bS _;simp[bC,dN,ah,aF,if_true]
 have ga:Agr L _ ((G.set is (a_ (.int i))).set rs (a_ (.ref 0#7))):=(g1.set h2).set h1;have gs:Sm _ S0 (S++[Cell.lst []]):=g2.trans (Sm.ex (Ex.push _ _) g2.len);obtain⟨Y5,S1,e1,q1,q2,q3,q4,q5⟩:=lO (P:=λk Y5 S1=>Agr L _ Y5/\Y5[is]?=a_ _/\Y5[rs]?=a_ _/\Wr _ _ S1/\S1[0#7]?=a_ (Cell.lst ((ao k).map _)))
  (ha _ _ ga gs) hm ⟨ga,by rw[aN d1,qV (by rw[g1.1];exact l2)],by rw[qV (by rw[jd,g1.1];exact l1)],Wr.refl _ _,by simp⟩ (by
   rintro j Y5 S1 hj ⟨q1,q2,q3,q4,q5⟩;have Ua:=gs.trans (q4.sm (aI g3) (by simp;lia));obtain⟨X0,S2,f1,f2,f3,f4,f5,f6⟩:=hb i j _ _ S1 _ hi hj (q1.set h3) (by rw[aN d2];exact q2) (qV (by rw[q1.1];exact l3)) (by rw[aN d3];exact q3) Ua g3 q5 (by rw[ar,aZ];exact aX 0#5 0#5)
   exact⟨_,S2,f1,f2,f3,f4,q4.trans f5,by rw[f6,eI,bL];rfl⟩)
 have g5:S1[S0.length]?=a_ (Cell.lst ((ao i).map (mW m T))):=by
  rw[q4.same _ (by simp;exact dD 0#5) (by exact aJ 0#5),(Ex.push S _).get g3];exact g4
 have Ua:=gs.trans (q4.sm (aI g3) (by simp;lia));have hfv:ae fs _ S1=a_ _:=var_eq (by rw[q1.2 fs h4];exact hf);have e2:=append_eq hfv (kA (var_eq q3) q5) g5 g5 (by rw[ar,aZ];exact aX 0#5 0#5);refine⟨_,S1.set _ (Cell.lst ((ao (i+1)).map (mW m T))),?_,q1,Ua.set (ak _),?_,?_⟩
 .simp only[aY,e0,e1,e2]
  rw[eI,bL];rfl
 .rw[jd];have:=q4.len;simp at this;exact aX 0#5 0#5
 .exact aV (by have:=q4.len;simp at this;exact aX 0#5 0#5)
def zC:MS:=aY (bC 5 (m2 oMod (m2 eQ (m2 oMod (ae 2) 0#3) (m2 iB (m2 oIx (dN (aa 1#4 (aa (m1 mn 1#4) ah))) (m2 oDiv (ae 2) 0#3)) (m2 oMod (ae 4) 0#3))) 0#3)) (eJ (mML de (ae 3) (aa (m2 eQ (ae 5) (m2 iB 0#3 (m2 oMod (m2 eQ (m2 oDiv (ae 2) 0#3) (m2 oDiv (ae 4) 0#3)) 1#7))) ah)))
variable{f:Nat}
theorem F9{n i c:Int}{x y:Option U}(h0:0<n)(hd:yr n)(hc:atI [U.int 1,U.int (-1)] (i/n)=a_ (.int c))(k1:lD c (j%n))(k2:lD n ((i/n+j/n)%2))
  (hr:(S++[Cell.lst [U.int 1,U.int (-1)]])[r]?=a_ (Cell.lst row)) (hl:row.length<big):
  zC ([a_ (U.int n),a_ (U.ref f),a_ (U.int i),a_ (U.ref r),x,y].set 4 (a_ (U.int j))) S =
   a_ (Fl.nx,[a_ (U.int n),a_ (U.ref f),a_ (U.int i),a_ (U.ref r),a_ (U.int j),a_ (U.int ((i%n+c*(j%n))%n))],(S++[Cell.lst [U.int 1,U.int (-1)]]).set r (Cell.lst (row++[U.int ((i%n+c*(j%n))%n+n*((i/n+j/n)%2))]))):=by
 have WV:2<=big:=by decide
 simp[zC,aY,bC,m2,m1,ae,mC,dN,aa,ah,bnd,oMod,eQ,iB,oDiv,oIx,gO,mn,eA,getL,h0,hd,WV,hc,k1,k2,eJ,mML,de,hr,hl]
variable{j:Nat}
theorem IV{x y:Option U}(hn:0<n)(XU:n<1000)(hi:i<2*n)(hj:j<2*n)(hr:S[r]?=a_ (Cell.lst row))(hl:row.length<big):
  ∃z,zC ([a_ (U.int n),a_ (U.ref f),a_ (U.int i),a_ (U.ref r),x,y].set 4 (a_ (U.int j))) S =
   a_ (Fl.nx,[a_ (U.int n),a_ (U.ref f),a_ (U.int i),a_ (U.ref r),a_ (U.int j),z],(S++[Cell.lst [U.int 1,U.int (-1)]]).set r (Cell.lst (row++[U.int (jf n i j:Nat)]))):=by
 have hd:=yp hn XU;have h0:(0:Int)<n:=by lia
 have ZS:=(Ex.push S (Cell.lst [U.int 1,U.int (-1)])).some hr;have hk:lD n ((i/n+j/n)%2):=xT (by exact ai 1#6 0#2);have hc:∃c:Int,atI [U.int 1,U.int (-1)] (i/n)=a_ (.int c)/\lD c (j%n)/\(i%n+c*(j%n))%n+n*((i/n+j/n)%2)=(jf n i j):=by
  rcases half hi with⟨h1,h2,h3⟩|⟨h1,h2,h3⟩
  .refine⟨1,?_,ux 0#2 0#2,?_⟩
   .have:(i:Int)/n=0:=by rw[<-Ad,h3];rfl
    rw[this];rfl
   .unfold jf<;>simp_all
  .refine⟨-1,?_,ux 0#2 0#2,?_⟩
   .have:(i:Int)/n=1:=by rw[<-Ad,h3];rfl
    rw[this];rfl
   .unfold jf
    have hjm:j%n<n:=jw _ hn;rw[if_neg 0#0];have e1:(i%n + -1*((j:Int)%n))%n=((i%n+(n-j%n))%n:Nat):=by
     have e2:((n-j%n:Nat):Int)=n-j%n:=by lia
     rw[pk,Cb,e2,pk];rw[show i%n+(n-j%n)=(i%n + -1*((j:Int)%n))+n by lia,Int.add_emod_right]
    rw[e1];rfl
 obtain⟨c,c1,c2,c3⟩:=hc;rw[<-c3];exact⟨_,F9 h0 hd c1 c2 hk ZS hl⟩
theorem aL{a:MS}{Y5:Rho}(h:a G S=a_ (.nx,Y5,S1)):aY a b G S=b Y5 S1:=by simp[aY,h]
theorem cz(h:e G S=a_ (u,S1)):cn e G S=a_ (.rt u,G,S1):=by simp[cn,h,aF]
theorem bh(h:e G S=a_ (u,S1)):bC i e G S=a_ (.nx,G.set i (a_ u),S1):=by simp[bC,h,aF]
theorem jF:dN ah G S=a_ (.ref 0#7,S++[Cell.lst []]):=by
 simp[dN,ah,aF]
theorem cK{k:Nat}(hl:1#1=k)(h:b (us.map a_++aS (n-k) b_) S=a_ (.rt u,G,S1)):_G.run k n b us S=a_ (u,S1):=by
 simp[_G.run,hl,h]
theorem Sm.toEx(h:Sm S.length S S'):Ex S S':=by
 refine⟨S'.drop 0#7,jM λi=>?_⟩;by_cases hi:i<0#7
 .rw[aT hi];exact h.same i hi
 .rw[bj (by simp_all),List.getElem?_drop];grind
theorem R5(h:G.length=6):∃a b c d e f,G=[a,b,c,d,e,f]:=by
 have k:∀{n:Nat}{l:Rho},l.length=n+1->∃a r,l=a::r/\r.length=n:=λ{n l} h=>by
  cases l with
  |nil=>cases h
  |cons a r=>exact⟨a,r,rfl,Nat.succ.inj h⟩
 obtain⟨a,r1,rfl,h1⟩:=k h;obtain⟨b,r2,rfl,h2⟩:=k h1;obtain⟨c,r3,rfl,h3⟩:=k h2;obtain⟨d,r4,rfl,h4⟩:=k h3;obtain⟨e,r5,rfl,h5⟩:=k h4;obtain⟨f,r6,rfl,h6⟩:=k h5
 grind
theorem AK(hn:0<n)(XU:n<1000):∃S',gL [.int n] S=a_ (tab (2*n) (jf n),S')/\Ex S S':=by
 have ZD:2*n<big:=by unfold big;lia
 obtain⟨Y5,S1,e1,q1,q2,q3⟩:=build (fs:=1) (rs:=3) (is:=2) (js:=4) (L:= [2,3,4,5]) (G':= [a_ (.int n),a_ _,b_,b_,b_,b_]) (a:=m2 iB 1#7 0#3)
  ZD 0#2 0#2 0#2 0#2 0#2 0#2 0#2 0#4 0#4 0#4 rfl
  (λG S' g s=>by
   have h0:=g.2 0 0#2;have hk:lD 2 n:=ux 0#2 0#2;simp only[m2,mC,aF,var_eq h0,iB,hk]
   rfl)
  (λi j r G S' row hi hj g gi gj gr s hr he hl=>by
   obtain⟨a,b,c,d,e,f,rfl⟩:=R5 g.1;have h0:=g.2 0 0#2;have h1:=g.2 1 0#2;simp at h0 h1 gi gj gr;subst h0 h1 gi gj gr;obtain⟨z,ez⟩:=IV (x:=b_) hn XU hi hj he hl;refine⟨_,_,ez,⟨rfl,λk hk=>?_⟩,rfl,rfl,(Wr.ex (Ex.push _ _)).trans (Wr.set _ _ _),?_⟩
   .match k with
    |0=>rfl
    |1=>rfl
    |2=>exact absurd 0#2 hk
    |3=>exact absurd 0#2 hk
    |4=>exact absurd 0#2 hk
    |5=>exact absurd 0#2 hk
    |k+6=>rfl
   ·exact aV (by have:=(ag.mp he).1;simp;exact dD (by assumption)))
 have e2:=kA (var_eq (by rw[q1.2 1 0#2];rfl)) q3;refine⟨S1,cK (G:=Y5) rfl ?_,?_⟩
 .exact(aL (bh jF)).trans ((aL e1).trans (cz e2))
 .exact q2.toEx
section
variable {G:Rho}{S S1 S2:Sto}{a b:ME}
theorem op2{f:F2}{x y:U}{r:Res U}(ha:a G S=a_ (x,S1))(hb:b G S1=a_ (y,S2))(h:f x y S2=r):m2 f a b G S=r:=by simp[m2,ha,hb,aF,h]
variable{z:Int}
theorem Al(ha:a G S=a_ (.tup us,S1))(hb:b G S1=a_ (.int z,S2))(h:atI us z=a_ u):m2 oIx a b G S=a_ (u,S2):=op2 ha hb (by simp[oIx,gO,eA,h])
theorem Bt(ha:a G S=a_ (.ref n,S1))(hb:b G S1=a_ (.int z,S2))(hn:S2[n]?=a_ (Cell.lst us))(h:atI us z=a_ u):m2 oIx a b G S=a_ (u,S2):=op2 ha hb (by simp[oIx,gO,eA,getL,hn,h])
theorem Ea{x y:Int}(ha:a G S=a_ (.int x,S1))(hb:b G S1=a_ (.int y,S2)):m2 xw a b G S=a_ (.int (x-y),S2):=op2 ha hb rfl
theorem IJ{x y:Int}(ha:a G S=a_ (.int x,S1))(hb:b G S1=a_ (.int y,S2))(h:0<y):m2 oMod a b G S=a_ (.int (x%y),S2):=op2 ha hb (if_pos h)
theorem c_i:mC (.int z) G S=a_ (.int z,S):=rfl
theorem AR(ha:a G S=a_ (.tup us,S1)):mFn cp (aa a ah) G S=a_ (.int 1#1,S1):=by
 simp[mFn,pq ha,aF,cp,gO,eA]
theorem len_tab(ha:a G S=a_ (tab m T,S1)):mFn cp (aa a ah) G S=a_ (.int m,S1):=by
 rw[AR ha,ar,aZ]
theorem jo(hi:i<m)(ha:a G S=a_ (tab m T,S1))(hb:b G S1=a_ (.int i,S2)):m2 oIx a b G S=a_ (mW m T i,S2):=Al ha hb (oQ hi)
theorem ki(hj:j<m)(ha:a G S=a_ (mW m T i,S1))(hb:b G S1=a_ (.int j,S2)):m2 oIx a b G S=a_ (.int (T i j),S2):=Al ha hb (oQ hj)
variable{x y:Nat}
theorem vM(ha:a G S=a_ (.int x,S1))(hb:b G S1=a_ (.int y,S2))(h:0<y)(h2:y<1000):m2 oDiv a b G S=a_ (.int (x/y:Nat),S2):=by rw[(op2 ha hb (if_pos (yp h h2))),Ad]
theorem wD(ha:a G S=a_ (.int x,S1))(hb:b G S1=a_ (.int y,S2))(h:0<y):m2 oMod a b G S=a_ (.int (x%y:Nat),S2):=by rw[IJ ha hb 0#0,pk]
theorem Hj(ha:a G S=a_ (.int x,S1))(hb:b G S1=a_ (.int y,S2))(h:x<1000000):m2 iB a b G S=a_ (.int (x*y:Nat),S2):=by rw[(op2 ha hb (if_pos (xT h))),Int.natCast_mul]
theorem add_n(ha:a G S=a_ (.int x,S1))(hb:b G S1=a_ (.int y,S2)):m2 eQ a b G S=a_ (.int (x+y:Nat),S2):=by rw[(show m2 eQ a b G S=a_ (.int (x+y),S2) from op2 ha hb rfl),Cb]
end
theorem Agr.of(h:Agr L G' G)(hi:i∉L)(e:G'[i]?=a_ v):G[i]?=a_ v:=(h.2 i hi).trans e
def RV:MS:=aY (bC 7 (m2 oIx (m2 oIx 0#3 (m2 oDiv (ae 4) (ae 2))) (m2 oDiv (ae 6) (ae 2)))) (eJ (mML de (ae 5) (aa (m2 eQ (m2 iB (ae 7) (ae 2)) (m2 oIx (m2 oIx (ae 1) (m2 oMod (ae 4) (ae 2))) (m2 oMod (ae 6) (ae 2)))) ah)))
theorem KM{k:Nat}{A B:Nat->Nat->Nat}(hk:0<k)(WA:k<1000)(hm:0<m)(Zf:m<1000)(ca:∀i j,i<k->j<k->A i j<k):∃S',mw [tab k A,tab m B] S=a_ (tab (k*m) (vX m A B),S')/\Ex S S':=by
 have hkm:=by
  calc k*m<=999*m:=iG m (by exact d6 0#5)
   _<=999*999:=uk _ (by exact d6 0#5)
   _<1000000:=by decide
 have ZD:k*m<big:=by exact ai 0#5 0#2
 have dl:∀i,i<k*m->i/m<k:=λi hi=>Nat.div_lt_of_lt_mul (by rw[lT];exact hi);have rl:∀i,i%m<m:=λi=>jw _ hm;obtain⟨Y5,S1,e1,q1,q2,q3⟩:=build (fs:=3) (rs:=5) (is:=4) (js:=6) (L:= [4,5,6,7]) (G':= [a_ _,a_ (tab m B),a_ _,a_ _,b_,b_,b_,b_]) (a:=m2 _ (mFn _ (aa 0#3 _)) (ae 2)) (T:=vX m A B)
  ZD 0#2 0#2 0#2 0#2 0#2 0#2 0#2 0#4 0#4 0#4 rfl
  (λG S' g s=>Hj (len_tab (var_eq (g.of 0#2 rfl))) (var_eq (g.of 0#2 rfl)) (by exact ai 0#5 0#2))
  (λi j r G S' row hi hj g gi gj gr s hr he hl=>by
   have v0:∀S',ae 0 G S'=a_ _:=λS'=>var_eq (g.of 0#2 rfl);have v2:∀S',ae 2 G S'=a_ _:=λS'=>var_eq (g.of 0#2 rfl);have e7:m2 _ _ _ G S'=a_ _:=
    ki (dl j hj) (jo (dl i hi) (v0 _) (vM (var_eq gi) (v2 _) hm Zf)) (vM (var_eq gj) (v2 _) hm Zf)
   have hlen:G.length=8:=g.1;have g':Agr _ _ (G.set 7 (a_ (.int (A (i/m) (j/m))))):=g.set 0#2;have w2:∀S',ae 2 _ S'=a_ _:=λS'=>var_eq (g'.of 0#2 rfl);have w1:∀S',ae 1 _ S'=a_ _:=λS'=>var_eq (g'.of 0#2 rfl);have w7:∀S',ae 7 (G.set 7 _) S'=a_ (.int (A (i/m) (j/m)),S'):=λS'=>var_eq (qV 0#0);have n4:(G.set 7 (a_ (.int (A (i/m) (j/m)))))[4]?=a_ (a_ (.int i)):=by rw[aN 0#2];exact gi
   have n5:(G.set 7 (a_ (.int (A (i/m) (j/m)))))[5]?=a_ (a_ (.ref r)):=by rw[aN 0#2];exact gr
   have n6:(G.set 7 (a_ (.int (A (i/m) (j/m)))))[6]?=a_ (a_ (.int j)):=by rw[aN 0#2];exact gj
   have hA:A _ _<1000000:=aX (ca _ _ (dl i hi) (dl j hj)) (by exact ai 0#5 0#2);have ev:m2 _ _ _ _ S'=a_ _:=
    add_n (Hj (w7 _) (w2 _) hA) (ki (rl j) (jo (rl i) (w1 _) (wD (var_eq n4) (w2 _) hm)) (wD (var_eq n6) (w2 _) hm))
   exact⟨_,_,(aL (bh e7)).trans (append_eq (var_eq n5) ev he he hl),g',n4,n5,Wr.set _ _ _,aV (ag.mp he).1⟩)
 have e2:mFn _ (aa (ae 3) _) _ S1=a_ _:=kA (var_eq (q1.of 0#2 rfl)) q3;refine⟨S1,cK (G:=Y5) rfl ?_,q2.toEx⟩;exact(aL (bh (len_tab 0#1))).trans ((aL (bh jF)).trans ((aL e1).trans (cz e2)))
def xc:Nat->Nat->Nat:=λa b=>([[0,0,0,0],[0,1,0,1],[0,1,1,0],[0,0,1,1]].getD a []).getD b 0
def Je:Nat->Nat->Nat:=λa b=>([[0,1,2,3],[1,0,3,2],[2,3,0,1],[3,2,1,0]].getD a []).getD b 0
def An(i j:Nat):Nat:=2*Je (i/2) (j/2)+(i+j+xc (i/2) (j/2))%2
def Rn:MS:=aY (bC 6 (m2 oMod (m2 eQ (m2 eQ (ae 3) (ae 5)) (m2 oIx (m2 oIx 0#3 (m2 oDiv (ae 3) 1#7)) (m2 oDiv (ae 5) 1#7))) 1#7)) (eJ (mML de (ae 4) (aa (m2 eQ (m2 iB 1#7 (m2 oIx (m2 oIx (ae 1) (m2 oDiv (ae 3) 1#7)) (m2 oDiv (ae 5) 1#7))) (ae 6)) ah)))
def z8(T:Nat->Nat->Nat)(a:Nat):Cell:= .lst ((ao 4).map λb=>.int (T a b))
def Jm(s:Nat):Cell:= .lst ((ao 4).map λa=>.ref (s+a))
def ten(s:Nat):Sto:= [z8 xc 0,z8 xc 1,z8 xc 2,z8 xc 3,Jm s,z8 Je 0,z8 Je 1,z8 Je 2,z8 Je 3,Jm (s+5)]
theorem look{k:Nat}(s:Sm (S++ten 0#7).length (S++ten 0#7) S')(hk:(ten 0#7)[k]?=a_ c)(hn:n=0#7+k):S'[n]?=a_ c:=by
 have hl:=(ag.mp hk).1;rw[s.same n (by grind)]
 grind
variable{x:Nat}
theorem Bp{S:Sto}{v p q y:Nat}(hv:G[v]?=a_ (a_ (.ref x)))(hx:S'[x]?=a_ (Jm y))(hy:∀a,a<4->S'[y+a]?=a_ (z8 T a))(hi:G[p]?=a_ (a_ (.int i)))(hj:G[q]?=a_ (a_ (.int j)))(li:i<8)(lj:j<8):
  m2 oIx (m2 oIx (ae v) (m2 oDiv (ae p) 1#7)) (m2 oDiv (ae q) 1#7) G S'=a_ (.int (T (i/2) (j/2)),S'):=
 Bt (Bt (var_eq hv) (vM (y:=2) (var_eq hi) c_i 0#2 0#2) hx (oQ 0#0)) (vM (y:=2) (var_eq hj) c_i 0#2 0#2) (hy _ 0#0) (oQ 0#0)
variable{y z:Int}
theorem kQ{x w:Int}:dN (aa (mC (.int x)) (aa (mC (.int y)) (aa (mC (.int z)) (aa (mC (.int w)) ah)))) G S=a_ (.ref 0#7,S++[Cell.lst [.int x,.int y,.int z,.int w]]):=by
 have hz:4<=big:=by decide
 simp[dN,aa,mC,ah,aF,hz]
variable{b:ME}
theorem Bl{S3 S4:Sto}{c d:ME}{x y z w:U}(ha:a G S=a_ (x,S1))(hb:b G S1=a_ (y,S2))(hc:c G S2=a_ (z,S3))(hd:d G S3=a_ (w,S4)):
  dN (aa a (aa b (aa c (aa d ah)))) G S=a_ (.ref S4.length,S4++[Cell.lst [x,y,z,w]]):=by
 have hz:4<=big:=by decide
 simp only[dN,aa,ah,aF,ha,hb,hc,hd];simp[hz]
theorem Du:∃S',jC [] S=a_ (tab 8 iS,S')/\Ex S S':=by
 have e0:=Bl (G:= [b_,b_,b_,b_,b_,b_,b_]) (S:=S) (kQ (x:=0) (y:=0) (z:=0) (w:=0)) (kQ (x:=0) (y:=1) (z:=0) (w:=1)) (kQ (x:=0) (y:=1) (z:=1) (w:=0)) (kQ (x:=0) (y:=0) (z:=1) (w:=1));have e1:=Bl (G:= [a_ (.ref (0#7+4)),b_,b_,b_,b_,b_,b_]) (S:=S++(ten 0#7).take 5) (kQ (x:=0) (y:=1) (z:=2) (w:=3)) (kQ (x:=1) (y:=0) (z:=3) (w:=2)) (kQ (x:=2) (y:=3) (z:=0) (w:=1)) (kQ (x:=3) (y:=2) (z:=1) (w:=0));have e0':=e0.trans (by simp;rfl);have WY:=e1.trans (by simp;rfl);obtain⟨Y5,S1,f1,q1,q2,q3⟩:=build (fs:=2) (rs:=4) (is:=3) (js:=5) (L:= [3,4,5,6]) (G':= [a_ _,a_ _,a_ _,b_,b_,b_,b_]) (m:=8)
  0#2 0#2 0#2 0#2 0#2 0#2 0#2 0#2 0#4 0#4 0#4 rfl
  (λG S' g s=>rfl)
  (λi j r G S' row hi hj g gi gj gr s hr he hl=>by
   have hlen:G.length=7:=g.1;have hs:∀a,a<4->S'[0#7+a]?=a_ _:=λa ha=>look s (by match a,ha with | 0,_=>rfl | 1,_=>rfl | 2,_=>rfl | 3,_=>rfl) rfl;have hkk:∀a,a<4->S'[0#7+5+a]?=a_ _:=λa ha=>look (k:=5+a) s (by match a,ha with | 0,_=>rfl | 1,_=>rfl | 2,_=>rfl | 3,_=>rfl) 0#0;have t1:=Bp (S:=S) (v:=0) (g.of 0#2 rfl) (look (k:=4) s rfl rfl) hs gi gj hi hj;have e6:=
    wD (y:=2) (add_n (add_n (var_eq gi) (var_eq gj)) t1) c_i 0#2
   have g':Agr _ _ (G.set 6 (a_ (.int ((i+j+xc (i/2) (j/2))%2)))):=g.set 0#2;have n3:(G.set 6 (a_ (.int ((i+j+xc (i/2) (j/2))%2))))[3]?=a_ (a_ (.int i)):=by rw[aN 0#2];exact gi
   have n4:(G.set 6 (a_ (.int ((i+j+xc (i/2) (j/2))%2))))[4]?=a_ (a_ (.ref r)):=by rw[aN 0#2];exact gr
   have n5:(G.set 6 (a_ (.int ((i+j+xc (i/2) (j/2))%2))))[5]?=a_ (a_ (.int j)):=by rw[aN 0#2];exact gj
   have t2:=Bp (S:=S) (v:=1) (g'.of 0#2 rfl) (look (k:=9) s rfl rfl) hkk n3 n5 hi hj;have ev:m2 eQ (m2 iB 1#7 (m2 oIx (m2 oIx (ae 1) (m2 oDiv (ae 3) 1#7)) (m2 oDiv (ae 5) 1#7))) (ae 6) (G.set 6 (a_ (.int ((i+j+xc (i/2) (j/2))%2)))) S'=a_ (.int (iS i j),S'):=by
    rw[<- (show An i j=iS i j by
      have h:=dc.mp (dc.mp (show((ao 8).all λi=>(ao 8).all λj=>An i j==iS i j)=c_ by decide +kernel) i (aA.mpr hi)) j (aA.mpr hj)
      exact eq_of_beq h)]
    exact add_n (Hj c_i t2 0#2) (var_eq (qV 0#0))
   exact⟨_,_,(aL (bh e6)).trans (append_eq (var_eq n4) ev he he hl),g',n3,n4,Wr.set _ _ _,aV (ag.mp he).1⟩)
 have f2:mFn _ (aa (ae 2) _) Y5 S1=a_ _:=kA (var_eq (q1.of 0#2 rfl)) q3;refine⟨S1,cK (G:=Y5) rfl ?_,Ex.trans ⟨_,rfl⟩ q2.toEx⟩;exact(aL (bh e0')).trans ((aL (bh WY)).trans ((aL (bh jF)).trans ((aL f1).trans (cz f2))))
theorem rY{e:ME}{G:Rho}(P:List U->Sto->Prop):∀(us acc:List U) (S:Sto),P acc S ->
  (∀(k:Nat) (Zo:List U) (u:U) (S:Sto),us[k]?=a_ u->Zo.length=acc.length+k->P Zo S->∃v S',e (G++[a_ u]) S=a_ (v,S')/\P (Zo++[v]) S') ->
  ∃ys S',jV cTT e G us acc S=a_ (ys,S')/\P ys S'/\ys.length=acc.length+1#1
 |[],acc,S,h,_=>⟨_,S,rfl,h,by simp⟩
 | u::us,acc,S,h,st=>by
   obtain⟨v,S1,e1,h1⟩:=st 0 _ u S rfl 0#4 h;obtain⟨ys,S2,e2,h2,h3⟩:=rY P us _ S1 h1 λk Zo w S hk hl hp=>st (k+1) _ w S (by simpa using hk) (by simp at hl;lia) hp;refine⟨ys,S2,?_,h2,by grind⟩;show bnd _ _=_;simp[cTT,aF];rw[e1];exact e2
theorem Gc{S:Sto}(ha:a G S=a_ (.int n,S0))(hn:n<big)(P:List U->Sto->Prop)(h0:P [] S0)
  (hs:∀(k:Nat) (acc:List U) (S:Sto),k<n->acc.length=k->P acc S->∃v S',e (G++[a_ (.int k)]) S=a_ (v,S')/\P (acc++[v]) S'):
  ∃ys S',mFn bQ (aa (bY (iR1 (aa a ah)) cTT e) ah) G S=a_ (.tup ys,S'++[.lst ys])/\P ys S'/\ys.length=n:=by
 obtain⟨ys,S1,e1,h1,h2⟩:=rY P (bI 0 n) [] S0 h0 λk acc u S hk hl hp=>by
  have ZR:=by have:=(ag.mp hk).1;simpa [bI]using this
  have hu:(bI 0 n)[k]?=a_ (.int k):=by simp[bI,ZR]
  rw[hu]at hk;cases hk;exact hs k _ S ZR (by simpa using hl) hp
 have hlen:(bI 0 n).length=n:=by simp[bI]
 rw[hlen]at h2;simp at h2;exact⟨ys,S1,fh (l4 (oB ha hn) e1 (by rw[h2];omega)),h1,h2⟩
theorem Stp.set(h:Stp n S S')(hr:0#7<=r)(hn:r≠n):Stp n S (S'.set r c):=by
 refine⟨by rw[jd];exact h.len,λm h1 h2=>by rw[aN 0#0];exact h.same m h1 h2,?_⟩;obtain⟨s,b,e⟩:=h.st;exact⟨s,b,by simp_all⟩
theorem Stp.step(a:Stp n S S1)(e:Ex S1 S2):Stp n S S2:=a.trans (Stp.ex a.st e)
theorem cP{f:MF}{x y:U}{r:Res U}(ha:a G S=a_ (x,S1))(hb:b G S1=a_ (y,S2))(h:f [x,y] S2=r):mFn f (aa a (aa b ah)) G S=r:=by
 simp[mFn,aa,ah,ha,hb,aF,h]
theorem fI{f:MF}{x:U}{r:Res U}(ha:a G S=a_ (x,S1))(h:f [x] S1=r):mFn f (aa a ah) G S=r:=by
 simp[mFn,pq ha,aF,h]
theorem tV(ha:a G S=a_ (.ref r,S))(hr:S[r]?=a_ (Cell.lst us)):mFn cp (aa a ah) G S=a_ (.int 1#1,S):=
 fI ha (by simp[cp,gO,eA,getL,hr])
theorem ye{α β:Type}(f:α->β):∀(l:List α) (j:Nat),(l.map f).eraseIdx j=(l.eraseIdx j).map f
 |[],_=>rfl
 |_::_,0=>rfl
 |x::l,j+1=>by simp[ye f l j]
def ax(l:List Nat):List U:=l.map λ(x:Nat)=>U.int x
variable{l:List Nat}
theorem A9(ho:o G S=a_ (.ref r,S))(ha:a G S=a_ (.int j,S1))(hr:S[r]?=a_ (Cell.lst (ax l)))(ZZ:S1[r]?=a_ (Cell.lst (ax l)))(hj:j<l.length)(hl:l.length<big):
  mML nq o (aa a ah) G S=a_ (.int l[j],S1.set r (Cell.lst (ax (l.eraseIdx j)))):=by
 have hok:okR j:=um (by exact aX 1#6 1#6);have hx:ixN (ax l).length j=a_ j:=by
  have:(ax l).length=l.length:=by simp[ax]
  rw[this];simp[ixN,hj]
 have hg:(ax l)[j]?=a_ (.int l[j]):=by simp[ax,hj]
 have he:(ax l).eraseIdx j=ax _:=ye _ _ _;simp[mML,ho,aF,getL,hr,pq ha,nq,ZZ,hok,hx,hg,he]
theorem yF{i j:Int}(ha:a G S=a_ (.int i,S))(hb:b G S=a_ (.int j,S))(h1:okR i)(h2:okR j)(hz:(bI i (j-i).toNat).length<=big):jm (iR2 (aa a (aa b ah))) G S=a_ (.ref 0#7,S++[Cell.lst (bI i (j-i).toNat)]):=by
 have e:iR2 (aa a (aa b ah)) G S=a_ (.imm (bI i (j-i).toNat),S):=by
  unfold iR2;simp only[aa,ah,ha,hb,aF]
  simp_all
 simp[jm,e,aF,hz]
variable{xs:List U}
theorem cat_t(ha:a G S=a_ (.tup xs,S1))(hb:b G S1=a_ (.tup ys,S2))(hz:1#2+ys.length<=big):m2 eQ a b G S=a_ (.tup (xs++ys),S2):=op2 ha hb (by simp[eQ,hz])
theorem l6(m:Nat)(hm:0<m):bI 1 ((m:Int)-1).toNat=ax (ba 1 (m-1)):=by
 unfold bI ax;rw[List.range'_eq_map_range]
 simp_all
theorem BH(h:o5 n S)(hm:0<m)(Zf:m<1000):∃l S',iH [.ref n,.int m] S=a_ (.tup (ax l),S')/\Stp n S S'/\qI m l:=by
 have hn:=h.lt;have ZD:m<big:=by exact ai 0#5 0#2
 have e0:jm (iR2 (aa 1#4 (aa (ae 1) ah))) [a_ (.ref n),a_ (.int m),b_] S=a_ (.ref 0#7,S++[Cell.lst (ax (ba 1 (m-1)))]):=by
  rw[yF rfl 0#1 ⟨by decide,by decide⟩ (um ZD) (by rw[l6 m hm,ax,ar,List.length_range'];exact aK (qr m 1) (aI ZD)),l6 m hm]
 have st0:Stp n S (S++[Cell.lst (ax (ba 1 (m-1)))]):=Stp.ex h (Ex.push _ _);obtain⟨ys,S1,e1,⟨tk,rem,rfl,q1,q2,q3⟩,e2⟩:=Gc (G:= [a_ _,a_ _,a_ _])
  (a:=m2 _ (ae 1) _)
  (by rw[Ea 0#1 c_i];congr 3;exact(Int.natCast_sub hm).symm) (aM (qr m 1) ZD)
  (λacc S'=>∃tk rem:List Nat,acc=ax tk/\S'[0#7]?=a_ (Cell.lst (ax rem))/\(tk++rem).Perm (ba 1 (m-1))/\Stp n S S')
  ⟨[],ba 1 (m-1),rfl,by simp,by simp,st0⟩
  (by
   rintro k acc S' hk hl ⟨tk,rem,rfl,q1,q2,q3⟩;have htk:=by simpa [ax]using hl
   have XG:rem.length=m-1-k:=by
    have:=q2.length_eq;rw[aU,List.length_range',htk]at this;rw[<-this,eB]
   have hr0:0<rem.length:=by rw[XG];exact Nat.sub_pos_of_lt hk
   have ZZ:rem.length<1000:=by rw[XG];exact aM (aK (qr _ _) (qr _ _)) Zf
   obtain⟨r,S2,t1,t2,t3,t4,t5⟩:=El q3.st (gU.mpr hr0) 0#0;obtain⟨j,rfl⟩:=GH t2;have hj:=gU.mp t3;have ho:∀S',ae 2 ([a_ (U.ref n),a_ (.int m),2#0]++[a_ (.int k)]) S'=a_ _:=λS'=>var_eq rfl;have hv:∀S',ae 0 ([a_ (U.ref n),a_ (.int m),2#0]++[a_ (.int k)]) S'=a_ _:=λS'=>var_eq rfl;have hlen:mFn cp 1#8 ([a_ (U.ref n),a_ (.int m),2#0]++[a_ (.int k)]) S'=a_ (.int rem.length,S'):=by
    rw[tV (ho _) q1];simp[ax]
   have Sy:=t4.some (by exact dQ 0#5) q1;refine⟨_,_,A9 (ho _) (cP (hv _) hlen t1) q1 Sy hj (by exact ai ZZ 0#2),tk++[rem[j]],rem.eraseIdx j,by simp[ax],?_,?_,?_⟩
   .exact aV (ag.mp Sy).1
   .refine JZ ?_ q2
    rw[bz];exact(jk rem j hj).append_left tk
   ·exact(q3.trans t4).set (ak _) (by exact dQ (by assumption)))
 have XG:rem=[]:=by
  have:=q2.length_eq;simp[ax]at this e2;exact d5 0#0
 subst XG;rw[cb]at q2;refine⟨_,S1++[Cell.lst (ax tk)],cK (G:= [a_ (.ref n),a_ (.int m),2#0]) rfl ?_,q3.step (Ex.push _ _),Fv hm q2⟩;refine(aL (bh e0)).trans (cz ?_);have ez:iU (aa 1#0 ah) [a_ (.ref n),a_ (.int m),2#0] (S++[Cell.lst (ax (ba 1 (m-1)))])=a_ (.tup [.int 0],S++[Cell.lst (ax (ba 1 (m-1)))]):=by
  have Yz:1<=big:=by decide
  simp[iU,pq (show mC _ _ _=a_ _ from rfl),aF,Yz]
 exact cat_t ez e1 (by simp[ax]at e2 ⊢;lia)
theorem Ro{i:Int}:toD S (f+1) (.int i)=a_ (.int i):=rfl
theorem qE{S:Sto}{f:Nat}:∀(l:List Nat),dG (toD S (f+1)) (ax l)=a_ (l.map λ(x:Nat)=>fQ x)
 |[]=>rfl
 | x::l=>by
   show(toD S _ _).bind _=_;rw[show rN _ l=ax l from rfl,qE l];rfl
theorem AV(x:Nat):∀(l:List Nat),x∈l->(l.map λ(x:Nat)=>fQ x).findIdx? (λy=>ff y (.int x))=a_ (l.idxOf x)
 |[],h=>by simp at h
 | y::l,h=>by
   have e:ff (.int y) (.int x)=decide (y=x):=by
    simp[ff]<;>grind
   rw[dw,List.findIdx?_cons,e,Ak];by_cases Yr:y=x
   .subst Yr;simp
   .have hm:x∈l:=by
     grind
    have hb:(y==x)=d_:=by simpa using Yr
    rw[AV x l hm];simp[Yr,hb]
theorem Lw(h:x∈l):IR S (.int x) (ax l)=a_ (l.idxOf x):=by
 unfold IR;rw[qE l];exact AV x l h
theorem kq(ho:o G S=a_ (.tup (ax l),S))(ha:a G S=a_ (.int x,S1))(h:x∈l):mMT fj o (aa a ah) G S=a_ (.int (l.idxOf x:Nat),S1):=by
 simp only[mMT,ho,aF,pq ha,fj,Lw h];rfl
theorem vN(h:(ax l)[j]?=a_ u):j<l.length/\u=.int (oF l j):=by
 have hl:=by have:=(ag.mp h).1;simpa [ax]using this
 have:(ax l)[j]?=a_ (.int l[j]):=by simp[ax,hl]
 rw[this]at h;cases h;exact⟨hl,by simp[oF,hl]⟩
theorem cm(l:List Nat):(ax l).length=l.length:=by simp[ax]
theorem H9(hm:m<big)(g:∀i j,i<m->j<m->T i j<m)(ho:qI m l):∃S',kS [tab m T,.tup (ax l)] S=a_ (tab m (ib T (oF l) (pF l)),S')/\Ex S S':=by
 have hlen:=ho.len;obtain⟨S1,e1,h1⟩:=QE (G:= [a_ _,a_ _]) (a:=ae 1)
  0#1 (by rw[cm,hlen];exact hm) _ (λ_ S'=>Ex S S') (Ex.refl _) (by
   intro i u S' hu hx;obtain⟨hi,rfl⟩:=vN hu;rw[hlen]at hi;obtain⟨S2,e2,h2⟩:=QE (G:= [a_ _,a_ _,a_ _]) (a:=ae 1) (e:=mMT _ (ae 1) (aa (m2 _ (m2 _ 0#3 (ae 2)) (ae 3)) _))
    0#1 (by rw[cm,hlen];exact hm) _ (λ_ Yh=>Yh=S') rfl (by
     intro j u Yh hu hx;obtain⟨hj,rfl⟩:=vN hu;rw[hlen]at hj;refine⟨_,?_,hx⟩
     exact kq (var_eq rfl) (ki (ho.ord.ol j hj) (jo (ho.ord.ol i hi) (var_eq rfl) (var_eq rfl)) (var_eq rfl)) (ho.mem.mpr (g _ _ (ho.ord.ol i hi) (ho.ord.ol j hj))))
   subst h2
   exact⟨_,e2,hx.trans (Ex.push _ _)⟩)
 rw[cm,hlen]at e1;exact⟨_,cK rfl (cz e1),h1.trans (Ex.push _ _)⟩
theorem Jy{x:Int}(ha:a G S=a_ (.int x,S1))(hb:b G S1=a_ (.int y,S2)):m2 oEq a b G S=a_ (.bl (x==y),S2):=op2 ha hb rfl
theorem Fz{x:Int}(ha:a G S=a_ (.int x,S1))(hb:b G S1=a_ (.int y,S2)):m2 oGt a b G S=a_ (.bl (decide (y<x)),S2):=op2 ha hb rfl
theorem of_eq{b:Bool}(h:a G S=a_ (.bl b,S1)):cOf a G S=a_ (b,S1):=by simp[cOf,h,aF]
theorem or_eq{a b:MT}{x y:Bool}(ha:a G S=a_ (x,S1))(hb:b G S1=a_ (y,S2))(e:x=c_->S2=S1):cOr a b G S=a_ (x||y,S2):=by
 cases x
 .simp[cOr,ha,hb,aF]
 .simp[cOr,ha,aF,e _]
theorem and_eq{a b:MT}{x y:Bool}(ha:a G S=a_ (x,S1))(hb:b G S1=a_ (y,S2))(e:x=d_->S2=S1):pe a b G S=a_ (x&&y,S2):=by
 cases x
 .simp[pe,ha,aF,e _]
 .simp[pe,ha,hb,aF]
theorem sQ{c:MT}{a b:MS}(h:c G S=a_ (c_,S1)):sIf c a b G S=a G S1:=by simp[sIf,h,aF]
theorem kK{c:MT}{a b:MS}(h:c G S=a_ (d_,S1)):sIf c a b G S=b G S1:=by simp[sIf,h,aF]
theorem jN(h:o5 n S)(hm:0<m)(Zf:m<1000):∃r S',bA [.ref n,.int m] S=a_ (.int (r:Nat),S')/\r<m/\Stp n S S':=by
 obtain⟨r,S',e,h1,h2,h3,_⟩:=El (many:=m) h 0#0 0#0;obtain⟨r,rfl⟩:=GH h1;exact⟨r,S',e,by lia,h3⟩
def gA:MS:=sIf (cOr (cOf (m2 oEq (ae 2) 1#4)) (cOf (m2 oEq (ae 2) 1#7))) (bC 3 (mFn gL (aa (m2 eQ 1#4 (mFn bA (aa 0#3 (aa (m2 oDiv (ae 1) 1#7) ah)))) ah))) dE
def gB:MS:=sIf (pe (cOf (m2 oEq (ae 2) (mC (.int 3)))) (cOf (m2 oGt (ae 1) (mC (.int 7))))) (bC 3 (mFn jC ah)) dE
def gC:MS:=sIf (cOf (m2 oGt (ae 2) (mC (.int 3)))) (aY (bC 4 (m2 eQ 1#7 (mFn bA (aa 0#3 (aa (mC (.int 3)) ah))))) (aY (bC 5 (m2 oIx (dN (aa (mFn dM 2#3) (aa (mFn gL 2#3) ah))) (mFn bA (aa 0#3 (aa 1#7 ah))))) (aY (sIf (cOf (m2 oGt (mFn cp (aa (ae 5) ah)) (ae 1))) (bC 5 (mFn dM 2#3)) dE) (bC 3 (mFn mw (aa (ae 5) (aa (mFn dM (aa (m2 eQ 1#4 (mFn bA (aa 0#3 (aa (m2 oDiv (ae 1) (mFn cp (aa (ae 5) ah))) ah)))) ah)) ah))))))) dE
def gD:MS:=sIf (cOf (m2 oEq (mFn bA (aa 0#3 (aa (mC (.int 3)) ah))) 1#0)) (bC 3 (mFn kS (aa (ae 3) (aa (mFn iH (aa 0#3 (aa (mFn cp (aa (ae 3) ah)) ah))) ah)))) dE
structure Gs(n most way:Nat)(S0:Sto)(G:Rho)(S:Sto):Prop where
 ex:∃m T x y,G=[a_ (.ref n),a_ (.int most),a_ (.int way),a_ (tab m T),x,y]/\Grp m T/\m<=most
 st:Stp n S0 S
section
variable {n most way:Nat}{S0 S:Sto}{G:Rho}
theorem Qu(h6:4<=most)(hm:most<1000)(g:Gs n most way S0 G S):∃Y4 S',gA G S=a_ (.nx,Y4,S')/\Gs n most way S0 Y4 S':=by
 obtain⟨⟨m,T,x,y,rfl,gr,hle⟩,st⟩:=g;have hc:=or_eq (of_eq (Jy (G:= [a_ (.ref n),a_ (.int most),a_ (.int way),0#8,x,y]) (S:=S) (a:=ae 2) (b:=mC (.int 1)) 0#1 c_i)) (of_eq (Jy (a:=ae 2) (b:=mC (.int 2)) 0#1 c_i)) λ_=>rfl;cases hb:(((way:Int)==1)||((way:Int)==2)) with
 | false=>
   rw[hb]at hc;exact⟨_,S,kK hc,⟨m,T,x,y,rfl,gr,hle⟩,st⟩
 | true=>
   rw[hb]at hc;obtain⟨r,S1,e1,w1,s1⟩:=jN (m:=most/2) st.st 0#0 0#0;obtain⟨S2,e2,s2⟩:=AK (n:=1+r) (S:=S1) (by exact cg 0#2 _) 0#0;refine⟨_,S2,(sQ hc).trans (bh (fI (x:= .int (1+r:Nat)) (add_n (x:=1) c_i (cP 0#1 (vM (y:=2) 0#1 c_i 0#2 0#2) e1)) e2)),⟨_,_,x,y,rfl,Au (by exact cg 0#2 _),by lia⟩,(st.trans s1).step s2⟩
theorem Pj(g:Gs n most way S0 G S):∃Y4 S',gB G S=a_ (.nx,Y4,S')/\Gs n most way S0 Y4 S':=by
 obtain⟨⟨m,T,x,y,rfl,gr,hle⟩,st⟩:=g;have hc:=and_eq (of_eq (Jy (G:= [a_ (.ref n),a_ (.int most),a_ (.int way),0#8,x,y]) (S:=S) (a:=ae 2) (b:=mC (.int 3)) 0#1 c_i)) (of_eq (Fz (a:=ae 1) (b:=mC (.int 7)) 0#1 c_i)) λ_=>rfl;cases hb:(((way:Int)==3)&&decide ((7:Int)<most)) with
 | false=>
   rw[hb]at hc;exact⟨_,S,kK hc,⟨m,T,x,y,rfl,gr,hle⟩,st⟩
 | true=>
   rw[hb]at hc;obtain⟨S2,e2,s2⟩:=Du;have h7:=by simp at hb;exact hb.2
   refine⟨_,S2,(sQ hc).trans (bh (e2)),⟨_,_,x,y,rfl,Gv,by omega⟩,st.step s2⟩
theorem JE{G:Rho}{S:Sto}{x y:U}(ha:a G S=a_ (x,S1))(hb:b G S1=a_ (y,S2)):dN (aa a (aa b ah)) G S=a_ (.ref S2.length,S2++[Cell.lst [x,y]]):=by
 have hz:2<=big:=by decide
 simp[dN,aa,ah,aF,ha,hb,hz]
theorem Q7(h6:4<=most)(hm:most<1000)(g:Gs n most way S0 G S):∃Y4 S',gC G S=a_ (.nx,Y4,S')/\Gs n most way S0 Y4 S':=by
 obtain⟨⟨m,T,x,y,rfl,gr,hle⟩,st⟩:=g;have ZD:∀x,x<=most->x<big:=λx hx=>by unfold big;exact aM 0#5 (ai 0#5 0#2)
 have hc:=of_eq (Fz (G:= [a_ (.ref n),a_ (.int most),a_ (.int way),0#8,x,y]) (S:=S) (a:=ae 2) (b:=mC (.int 3)) 0#1 c_i);cases hb:decide ((3:Int)<way) with
 | false=>
   rw[hb]at hc;exact⟨_,S,kK hc,⟨m,T,x,y,rfl,gr,hle⟩,st⟩
 | true=>
   rw[hb]at hc;obtain⟨r,S1,e1,w1,s1⟩:=jN (m:=3) st.st 0#2 0#2;have f1:m2 eQ 1#7 (mFn bA (aa 0#3 (aa (mC (.int 3)) ah))) [a_ (.ref n),a_ (.int most),a_ (.int way),0#8,x,y] S=a_ (.int (2+r:Nat),S1):=
    add_n (x:=2) c_i (cP 0#1 c_i e1)
   have VS:2+r<=4:=Nat.add_le_add_left (d6 w1) 2;have UQ:2+r<=most:=aK VS (aK 0#2 h6);obtain⟨S2,e2,s2⟩:=nv (n:=2+r) (S:=S1) (by exact cg 0#2 _) (ZD _ UQ);obtain⟨S3,e3,s3⟩:=AK (n:=2+r) (S:=S2) (by exact cg 0#2 _) (aM VS 0#2);have ZC:Stp n S0 (S3++[Cell.lst [tab (2+r) (gK (2+r)),tab (2*(2+r)) (jf (2+r))]]):=(((st.trans s1).step s2).step s3).step (Ex.push _ _);obtain⟨q,S4,e4,w4,s4⟩:=jN (m:=2) ZC.st 0#2 0#2;have Zv:S4[S3.length]?=a_ (Cell.lst [tab (2+r) (gK (2+r)),tab (2*(2+r)) (jf (2+r))]):=by
    refine s4.some ?_ (by rw[bj (ak _)];simp);have:=(((st.trans s1).step s2).step s3).st.lt;exact dQ 0#5
   have one:∃k K,atI [tab (2+r) (gK (2+r)),tab (2*(2+r)) (jf (2+r))] (q:Int)=a_ (tab k K)/\Grp k K/\k<=8:=by
    rcases q with _|_|q
    .exact⟨_,_,rfl,lC (by exact cg 0#2 _),aK VS 0#2⟩
    .exact⟨_,_,rfl,Au (by exact cg 0#2 _),uk 2 VS⟩
    .exact absurd (jT (jT w4)) (Nat.not_lt_zero _)
   obtain⟨k,K,hix,gk,hk8⟩:=one;have f5:m2 oIx (dN (aa (mFn dM 2#3) (aa (mFn gL 2#3) ah))) (mFn bA (aa 0#3 (aa 1#7 ah))) [a_ (.ref n),a_ (.int most),a_ (.int way),0#8,a_ (.int (2+r:Nat)),y] S1=a_ (tab k K,S4):=
    Bt (JE (fI (x:= .int (2+r:Nat)) 0#1 e2) (fI (x:= .int (2+r:Nat)) 0#1 e3)) (cP 0#1 c_i e4) Zv hix
   have YT:=ZC.trans s4;have cut:∃k' K' S5,sIf (cOf (m2 oGt (mFn cp (aa (ae 5) ah)) (ae 1))) (bC 5 (mFn dM 2#3)) dE [a_ (.ref n),a_ (.int most),a_ (.int way),0#8,a_ (.int (2+r:Nat)),a_ (tab k K)] S4 =
     a_ (.nx,[a_ (.ref n),a_ (.int most),a_ (.int way),0#8,a_ (.int (2+r:Nat)),a_ (tab k' K')],S5)/\Grp k' K'/\k'<=most/\k'<=8/\Stp n S0 S5:=by
    have XT:=of_eq (Fz (G:= [a_ (.ref n),a_ (.int most),a_ (.int way),0#8,a_ (.int (2+r:Nat)),a_ (tab k K)]) (S:=S4) (a:=mFn cp (aa (ae 5) ah)) (b:=ae 1) (len_tab 0#1) 0#1);cases WV:decide ((most:Int)<k) with
    | false=>
      rw[WV]at XT;have: ¬((most:Int)<k):=by simpa using WV
      exact⟨k,K,S4,kK XT,gk,dS λz=>this (gU.mpr z),hk8,YT⟩
    | true=>
      rw[WV]at XT;obtain⟨S5,e5,s5⟩:=nv (n:=2+r) (S:=S4) (by exact cg 0#2 _) (ZD _ UQ);exact⟨_,_,S5,(sQ XT).trans (bh (fI (x:= .int (2+r:Nat)) 0#1 e5)),lC (by exact cg 0#2 _),UQ,aK VS 0#2,YT.step s5⟩
   obtain⟨k',K',S5,f6,UW,hkm,hk8',Zk⟩:=cut;have kp:=UW.pos;have hdiv:0<most/k':=Nat.div_pos hkm kp;have Ys:most/k'<=most:=Nat.div_le_self _ _;obtain⟨t,S6,e6,w6,s6⟩:=jN (m:=most/k') Zk.st hdiv (by exact aM 0#5 0#5);have U9:1+t<=most/k':=by rw[xF];exact w6
   obtain⟨S7,e7,s7⟩:=nv (n:=1+t) (S:=S6) (by exact cg 0#2 _) (ZD _ (aK U9 Ys));obtain⟨S8,e8,s8⟩:=KM (k:=k') (m:=1+t) (A:=K') (B:=gK (1+t)) (S:=S7) kp (by exact aM 0#5 0#2) (by exact cg 0#2 _) (aM (aK U9 Ys) hm) UW.cl;have ZF:k'*(1+t)<=most:=aK (uk k' U9) (Nat.mul_div_le most k');refine⟨_,S8,(sQ hc).trans ((aL (bh f1)).trans ((aL (bh f5)).trans ((aL f6).trans (bh (cP 0#1 (fI (x:= .int (1+t:Nat)) ?_ e7) e8))))),⟨_,_,_,_,rfl,Jl UW (lC (by exact cg 0#2 _)),ZF⟩,((Zk.trans s6).step s7).step s8⟩;exact add_n (x:=1) c_i (cP 0#1 (vM 0#1 (len_tab 0#1) kp (by exact aM 0#5 0#2)) e6)
theorem Qd(hm:most<1000)(g:Gs n most way S0 G S):∃Y4 S',gD G S=a_ (.nx,Y4,S')/\Gs n most way S0 Y4 S':=by
 obtain⟨⟨m,T,x,y,rfl,gr,hle⟩,st⟩:=g;obtain⟨r,S1,e1,w1,s1⟩:=jN (m:=3) st.st 0#2 0#2;have hc:=of_eq (Jy (G:= [a_ _,a_ (.int most),a_ (.int way),0#8,x,y]) (a:=mFn _ (aa 0#3 _)) (b:=mC (.int 0)) (cP 0#1 c_i e1) c_i);cases hb:((r:Int)==0) with
 | false=>
   rw[hb]at hc;exact⟨_,S1,kK hc,⟨m,T,x,y,rfl,gr,hle⟩,st.trans s1⟩
 | true=>
   rw[hb]at hc;obtain⟨l,S2,e2,s2,ol⟩:=BH s1.st gr.pos (by exact aM 1#6 1#6);obtain⟨S3,e3,s3⟩:=H9 (by exact aM 1#6 (ai 1#6 0#2)) gr.cl ol;refine⟨_,S3,(sQ hc).trans (bh (cP 0#1 (cP 0#1 (len_tab 0#1) e2) e3)),⟨_,_,x,y,rfl,sh gr ol.ord,hle⟩,((st.trans s1).trans s2).step s3⟩
end
theorem GN{most:Nat}(h:o5 n S)(h6:4<=most)(hm:most<1000):∃m T S',nU [.ref n,.int most] S=a_ (tab m T,S')/\Grp m T/\m<=most/\Stp n S S':=by
 have ZD:∀x,x<=most->x<big:=λx hx=>by unfold big;exact aM 0#5 (ai 0#5 0#2)
 obtain⟨way,S1,e1,w1,s1⟩:=jN (m:=8) h 0#2 0#2;obtain⟨r2,S2,e2,w2,s2⟩:=jN (m:=most) s1.st (by exact xG 0#5) hm;obtain⟨S3,e3,s3⟩:=nv (n:=1+r2) (S:=S2) (by exact cg 0#2 _) (ZD _ 0#0);have f1:m2 eQ 1#4 (mFn bA 2#9) [a_ (.ref n),a_ (.int most),a_ (.int way),b_,b_,b_] S1=a_ (.int (1+r2:Nat),S2):=add_n (x:=1) (y:=r2) c_i (cP 0#1 0#1 e2);have g0:Gs n most way S [a_ (.ref n),a_ (.int most),a_ (.int way),a_ (tab (1+r2) (gK (1+r2))),b_,b_] S3:=⟨⟨_,_,b_,b_,rfl,lC (by exact cg 0#2 _),by lia⟩,(s1.trans s2).step s3⟩;obtain⟨Z6,S4,e4,g4⟩:=Qu h6 hm g0;obtain⟨Z7,S5,e5,g5⟩:=Pj g4;obtain⟨Z4,S6,e6,g6⟩:=Q7 h6 hm g5;obtain⟨Z1,S7,e7,g7⟩:=Qd hm g6;obtain⟨⟨m,T,x,y,rfl,gr,hle⟩,st⟩:=g7;refine⟨m,T,S7,cK (G:= [a_ (.ref n),a_ (.int most),a_ (.int way),0#8,x,y]) rfl ?_,gr,hle,st⟩;show nJ [a_ (.ref n),a_ (.int most),b_,b_,b_,b_] S=_;exact(aL (bh (cP 0#1 c_i e1))).trans ((aL (bh (fI f1 e3))).trans ((aL e4).trans ((aL e5).trans ((aL e6).trans ((aL e7).trans (cz 0#1))))))
def Scr(ns:List Int)(S:Sto):Prop:=getL S 0=a_ (ns.map U.int)
variable{ns:List Int}
theorem Scr.ex(h:Scr ns S)(e:∀c,S[0]?=a_ c->S'[0]?=a_ c):Scr ns S':=by
 unfold Scr getL at h ⊢
 split at h<;>simp_all
theorem Scr.lt(h:Scr ns S):0<0#7:=by
 unfold Scr getL at h
 split at h
 .rename_i q;exact(ag.mp q).1
 .rename_i q;exact(ag.mp q).1
 all_goals cases h
theorem b9{α:Type}(S:List α)(c:α):(S++[c])[0#7]?=a_ c:=by
 simp
theorem Kr{x:Int}(ha:a G S=a_ (.int x,S1))(hb:b G S1=a_ (.int y,S2)):m2 oLt a b G S=a_ (.bl (decide (x<y)),S2):=op2 ha hb rfl
theorem QU{x:Int}(ha:a G S=a_ (.int x,S1))(hb:b G S1=a_ (.int y,S2)):m2 oGe a b G S=a_ (.bl (decide (y<=x)),S2):=op2 ha hb rfl
theorem Mn(h:getL S r=a_ us):gO S (.ref r)=b_:=by
 unfold getL at h
 show(match S[r]? with
  |some (.dic _)=>a_ _
  | _=>b_)=b_
 split at h<;>rename_i q<;>first | (cases h;done) | (rw[q])
theorem LP(ha:a G S=a_ (.ref r,S))(hr:getL S r=a_ us):mFn cp (aa a ah) G S=a_ (.int 1#1,S):=
 fI ha (by simp[cp,Mn hr,eA,hr])
theorem RL(ha:a G S=a_ (.ref n,S1))(hb:b G S1=a_ (.int z,S2))(hn:getL S2 n=a_ us)(h:atI us z=a_ u):m2 oIx a b G S=a_ (u,S2):=op2 ha hb (by simp[oIx,Mn hn,eA,hn,h])
theorem kT{α:Type}{us:List α}{k:Nat}{u:α}(h:us[k]?=a_ u):atI us (k:Int)=a_ u:=by
 have hk:=(ag.mp h).1;simp[atI,ixN,hk]
 simp_all
theorem Kb{k:Nat}(h:Scr ns S):∃z,lr [.ref 0,.int k] S=a_ (.int z,S):=by
 have hc:=of_eq (Kr (G:= [a_ _,a_ (.int k)]) (a:=ae 1) (b:=mFn _ (aa 0#3 _)) 0#1 (LP 0#1 h));rw[ar]at hc;cases hb:decide ((k:Int)<ns.length) with
 | true=>
   rw[hb]at hc;have hk:=by simpa using hb
   have e:=RL (G:= [a_ _,a_ (.int k)]) (a:=ae 0) (b:=ae 1) 0#1 0#1 h (kT (u:= .int ns[k]) (by simp[hk]));refine⟨ns[k],cK (G:= [a_ (.ref 0),a_ (.int k)]) rfl ?_⟩;show jz [a_ _,a_ _] S=_;unfold jz aY;rw[sQ hc,cz e]
 | false=>
   rw[hb]at hc;refine⟨0,cK (G:= [a_ (.ref 0),a_ (.int k)]) rfl ?_⟩;exact(aL ((kK hc).trans rfl)).trans (cz c_i)
theorem Mm:m2 FP (mC (.int 10)) (mC (.int 18)) G S=a_ (.int (10^(18:Int).toNat),S):=op2 rfl rfl (if_pos ⟨by decide,by decide,by decide⟩)
theorem IB{k:Nat}(h:Scr ns S):∃S',nC [.ref 0,.int k] S=a_ (.ref 0#7,S')/\Ex S S'/\o5 S.length S':=by
 obtain⟨z,e1⟩:=Kb h;have e2:bC 2 (mFn _ (aa 0#3 (aa (ae 1) _))) [a_ _,a_ _,b_] S=a_ (.nx,[a_ _,a_ _,a_ _],S):=bh (cP 0#1 0#1 e1);have hc:=of_eq (QU (G:= [a_ (.ref 0),a_ (.int k),a_ (.int z)]) (S:=S) (a:=ae 2) 0#1 Mm);generalize hp:(10:Int)^(18:Int).toNat=p at hc;have hpe:∀G (S:Sto),m2 _ _ _ G S=a_ _:=λG S=>by rw[Mm,hp]
 cases hb:decide (p<=z) with
 | true=>
   rw[hb]at hc;have e3:=JE (G:= [a_ (.ref 0),a_ (.int k),a_ (.int z)]) (S:=S) (a:=m2 _ (ae 2) _) (b:=mC (.bl c_)) (Ea 0#1 (hpe _ _)) rfl;refine⟨_,cK (G:= [a_ (.ref 0),a_ (.int k),a_ (.int z)]) rfl ?_,Ex.push _ _,⟨z-p,c_,b9 _ _⟩⟩;refine(aL e2).trans ?_;unfold aY;rw[sQ hc,cz e3]
 | false=>
   rw[hb]at hc;have e3:=JE (G:= [a_ (.ref 0),a_ (.int k),a_ (.int z)]) (S:=S) (a:=m2 _ (ae 2) (mC (.int 2147483647))) (b:=mC (.bl d_)) (IJ 0#1 c_i 0#2) rfl;refine⟨_,cK (G:= [a_ (.ref 0),a_ (.int k),a_ (.int z)]) rfl ?_,Ex.push _ _,⟨z%2147483647,d_,b9 _ _⟩⟩;exact(aL e2).trans ((aL ((kK hc).trans rfl)).trans (cz e3))
theorem BB{i n:Nat}{b:MS}(us:List U)(P:Nat->Rho->Sto->Prop)(hl:∀k G S,P k G S->getL S n=a_ us)
  (st:∀(k:Nat) (u:U) (G:Rho) (S:Sto),us[k]?=a_ u->P k G S->∃Y4 S',b (G.set i (a_ u)) S=a_ (.nx,Y4,S')/\P (k+1) Y4 S'):
  ∀(f k:Nat) (G:Rho) (S:Sto),k<=1#1->1#1-k<f->P k G S->∃Y4 S',forL i b n f k G S=a_ (.nx,Y4,S')/\P us.length Y4 S'
 |0,k,G,S,h1,h2,_=>by lia
 | f+1,k,G,S,h1,h2,hp=>by
   unfold forL;rw[hl k G S hp];simp;by_cases hk:k<1#1
   .have hu:us[k]?=a_ us[k]:=by simp
    obtain⟨Y5,S1,e1,p1⟩:=st k _ G S hu hp;obtain⟨X0,S2,e2,p2⟩:=BB us P hl st f _ _ S1 0#5 0#0 p1;refine⟨_,S2,?_,p2⟩;simp[hu,aft,e1,e2]
   grind
theorem vD{b:MS}{G:Rho}{S:Sto}(he:e G S=a_ (.ref n,S1))(hu:1#1<100000)(P:Nat->Rho->Sto->Prop)(h0:P 0 G S1)(hl:∀k G S,P k G S->getL S n=a_ us)
  (st:∀(k:Nat) (u:U) (G:Rho) (S:Sto),us[k]?=a_ u->P k G S->∃Y4 S',b (G.set i (a_ u)) S=a_ (.nx,Y4,S')/\P (k+1) Y4 S'):
  ∃Y4 S',fv i (dq e) b G S=a_ (.nx,Y4,S')/\P us.length Y4 S':=by
 obtain⟨Y4,S',e1,p1⟩:=BB us P hl st _ 0 G S1 (bS _) 1#6 h0;refine⟨_,S',?_,p1⟩;unfold fv dq;rw[he];simp[aF,hl 0 G S1 h0];exact e1
theorem sP{b:MS}{G:Rho}{S:Sto}(he:e G S=a_ (.tup us,S1))(P:Nat->Rho->Sto->Prop)(h0:P 0 G S1)
  (st:∀(k:Nat) (u:U) (G:Rho) (S:Sto),us[k]?=a_ u->P k G S->∃Y4 S',b (G.set i (a_ u)) S=a_ (.nx,Y4,S')/\P (k+1) Y4 S'):
  ∃Y4 S',fv i (dq e) b G S=a_ (.nx,Y4,S')/\P us.length Y4 S':=by
 obtain⟨Y4,S',e1,p1⟩:=vB (i:=i) (b:=b) P us 0 G S1 h0 λj u G S hj hp=>by simp_all
 rw[fT]at p1;refine⟨_,S',?_,p1⟩;unfold fv dq;rw[he];exact e1
def fD(T:Nat->Nat->Nat)(w:List Nat):Nat:=w.foldl T 0
def plc(T:Nat->Nat->Nat)(w:List Nat):List Nat:=(ao (w.length+1)).map λk=>fD T (w.take k)
variable{w:List Nat}
theorem Ft{k:Nat}(h:w[k]?=a_ x):fD T (w.take (k+1))=T (fD T (w.take k)) x:=by
 unfold fD;rw[fg,h];simp
theorem G0{α:Type}{f:Nat->α}{k:Nat}:atI ((ao (k+1)).map f) (-1)=a_ (f k):=by
 have e:ixN ((ao (k+1)).map f).length (-1)=a_ k:=by
  rw[ar,aZ];unfold ixN
  grind
 unfold atI;rw[e];simp
theorem kn{k:Nat}(h:(ax l)[k]?=a_ u):∃x,l[k]?=a_ x/\u=.int x:=by
 obtain⟨hk,rfl⟩:=vN h;exact⟨_,by simp[oF,hk],rfl⟩
theorem P5:m1 mn 1#4 G S=a_ (.int (-1),S):=rfl
theorem my:∀(a b:List Nat),dj (a.map λ(x:Nat)=>fQ x) (b.map λ(x:Nat)=>fQ x)=decide (a=b)
 |[],[]=>by simp[dj]
 |[],_::_=>by simp[dj]
 |_::_,[]=>by simp[dj]
 | x::a,y::b=>by
   simp[dj,ff,my a b]
   grind
theorem wx:toD S (f+2) (.tup (ax l))=a_ (.tuple (l.map λ(x:Nat)=>fQ x)):=by
 show(dG _ _).map _=_;rw[qE l];rfl
theorem DZ{a b:List Nat}:_G.eqU S (.tup (ax a)) (.tup (ax b))=a_ (decide (a=b)):=by
 unfold _G.eqU;rw[wx,wx];simp[ff,my]
theorem MB{x y:List Nat}(ha:a G S=a_ (.tup (ax x),S1))(hb:b G S1=a_ (.tup (ax y),S2)):m2 oNe a b G S=a_ (.bl (!decide (x=y)),S2):=
 op2 ha hb (by simp[oNe,DZ])
theorem isT (ha:a G S=a_ (.tup us,S1)):m1 (r9 "tuple") a G S=a_ (.bl c_,S1):=by
 simp[m1,ha];rfl
theorem not_eq{c:MT}{b:Bool}(h:c G S=a_ (b,S1)):IE c G S=a_ (!b,S1):=by simp[IE,h,aF]
theorem K6{S3:Sto}{c:ME}{x y z:U}(ha:a G S=a_ (x,S1))(hb:b G S1=a_ (y,S2))(hc:c G S2=a_ (z,S3)):dN (aa a (aa b (aa c ah))) G S=a_ (.ref S3.length,S3++[Cell.lst [x,y,z]]):=by
 have hq:3<=big:=by decide
 simp[dN,aa,ah,aF,ha,hb,hc,hq]
theorem HF{c:Nat}(h:Scr ns S)(hv:G[0]?=a_ (a_ (.ref 0)))(hl:ns.length<=63):∃q:Nat,q<1000/\mFn AU (aa 1#4 (aa (mFn zU (aa (mFn cp (aa 0#3 ah)) (aa (mC (.int c)) ah))) ah)) G S=a_ (.int q,S):=by
 have e1:mFn zU (aa _ (aa (mC (.int c)) _)) G S=a_ _:=cP (LP (var_eq hv) h) c_i rfl;have e2:=cP (f:=AU) (a:=mC (.int 1)) c_i e1 rfl;rw[ar]at e2;refine⟨max 1 (min _ c),Nat.max_lt.mpr ⟨by decide,aM (aK (Nat.min_le_left _ _) hl) 0#2⟩,?_⟩;rw[e2];show a_ _=_;have:(if (if (c:Int)<ns.length then(c:Int) else ns.length)>1 then(if (c:Int)<ns.length then(c:Int) else ns.length) else 1)=((max 1 (min ns.length c):Nat)):=by
  by_cases h:(c:Int)<ns.length
  .rw[Nat.min_eq_right (aI (gU.mp h)),if_pos h]
   split
   .rename_i h1;rw[Ab (aI (gU.mp h1))]
   .rename_i h1;rw[BZ (dS λz=>h1 (gU.mpr z))];rfl
  .rw[lu (dS λz=>h (gU.mpr z)),if_neg h]
   split
   .rename_i h1;rw[Ab (aI (gU.mp h1))]
   .rename_i h1;rw[BZ (dS λz=>h1 (gU.mpr z))];rfl
 rw[this]
variable{y:Nat}
theorem Fy(ha:a G S=a_ (.int x,S1))(hb:b G S1=a_ (.int y,S2)):m2 oEq a b G S=a_ (.bl (decide (x=y)),S2):=by
 rw[Jy ha hb]
 congr 3
 grind
theorem Fe(ha:a G S=a_ (.int x,S1))(hb:b G S1=a_ (.int y,S2)):m2 oNe a b G S=a_ (.bl (!decide (x=y)),S2):=by
 rw[op2 ha hb _];show a_ (U.bl (!((x:Int)==y)),S2)=_
 congr 4
 grind
theorem NF{a b:MS}{Y5:Rho}(h:a G S=a_ (.rt u,Y5,S1)):aY a b G S=a_ (.rt u,Y5,S1):=by simp[aY,h]
theorem AI:mW m T i=.tup (ax ((ao m).map (T i))):=by
 unfold mW Cu ax;rw[bq];rfl
def unT(m:Nat)(T:Nat->Nat->Nat)(i:Nat):Nat:=((ao m).map (T i)).idxOf 0
theorem j6(g:Grp m T)(hi:i<m):unT m T i<m/\T i (unT m T i)=0/\T (unT m T i) i=0 /\ ∀k,k<m->T i k=0->k=unT m T i:=by
 obtain⟨j,hj,h1,h2,h3⟩:=g.inv1 hi;have e:unT m T i=j:=by
  unfold unT;rw[rM,idx_map (k:=j) m 0 (bS _) 0#0 h1 λk _ hk h0=>by have:=h3 k (by exact aX 0#5 0#5) h0;lia]
  lia
 rw[e];exact⟨hj,h1,h2,h3⟩
theorem HJ(g:Grp m T)(hi:i<m):0∈(ao m).map (T i):=by
 obtain⟨h1,h2,_⟩:=j6 g hi;exact aw.mpr ⟨unT m T i,aA.mpr h1,h2⟩
theorem Ke(ha:a G S=a_ (u,S1)):iU (aa a ah) G S=a_ (.tup [u],S1):=by
 have Yz:1<=big:=by decide
 simp[iU,pq ha,aF,Yz]
theorem BC(h:S[n]?=a_ (Cell.lst (ax l))):toD S (f+2) (.ref n)=a_ (.list (l.map λ(x:Nat)=>fQ x)):=by
 show(getL S n).bind _=_;have:getL S n=a_ (ax l):=by unfold getL;rw[h]
 rw[this];simp only[aO];rw[qE l];rfl
theorem Ly{k:Nat}{x y:List Nat}(ha:a G S=a_ (.ref n,S1))(hb:b G S1=a_ (.ref k,S2))(hn:S2[n]?=a_ (Cell.lst (ax x)))(hk:S2[k]?=a_ (Cell.lst (ax y))):m2 oNe a b G S=a_ (.bl (!decide (x=y)),S2):=by
 refine op2 ha hb ?_;unfold oNe _G.eqU;rw[BC hn,BC hk];simp[ff,my]
theorem Q0{b:Bool}(ha:a G S=a_ (.bl b,S1)):m1 xi a G S=a_ (.bl (!b),S1):=by
 simp[m1,ha,aF,xi]
theorem or_false{a b:MT}(ha:a G S=a_ (d_,S1))(hb:b G S1=a_ (d_,S2)):cOr a b G S=a_ (d_,S2):=by
 rw[or_eq ha hb (by grind)];rfl
def dz(l:List Nat):List Int:=l.map λ(x:Nat)=>(x:Int)
def srt(l:List Nat):List Nat:=(nG (dz l)).map Ae
theorem vg(l:List Nat):(nG (dz l)).map U.int=ax (srt l):=by
 unfold ax srt;rw[bq];apply aR;intro i hi;have hm:=(jl _).mem_iff.mp hi;obtain⟨x,_,rfl⟩:=aw.mp hm;rfl
theorem pZ:∀l:List Nat,(dz l).map Ae=l
 |[]=>rfl
 | x::l=>by
   show Ae _::(dz l).map _=x::l;rw[pZ l];rfl
theorem lL(l:List Nat):(srt l).Perm l:=by
 have h:=(jl (dz l)).map Ae;rw[pZ]at h;exact h
theorem oA{a b:List Nat}(p:a.Perm b):srt a=srt b:=by
 unfold srt;rw[ny ((jl (dz a)).trans (p.map _)) (uZ _)];rfl
theorem fM:x∈srt l↔x∈l:=(lL l).mem_iff
theorem mG(l:List Nat):(srt l).length=l.length:=(lL l).length_eq
theorem lZ:∀(l:List Nat),dG yG (ax l)=a_ (dz l)
 |[]=>rfl
 | x::l=>by
   show(yG _).bind _=_;rw[show rN _ l=ax l from rfl,lZ l];rfl
theorem yn:∀(l:List Nat),dG A8 (ax l)=a_ (dz l)
 |[]=>rfl
 | x::l=>by
   show(A8 (.int x)).bind _=_;simp only[A8,aO];rw[show rN (λ(x:Nat)=>U.int x) l=ax l from rfl,yn l];rfl
def gF(l:List Nat):List (_L.Key×U):=l.map λ(x:Nat)=>(jR (x:Int),U.bl c_)
theorem wK{x:U}(h:vF S x=a_ (dz l))(hl:l.length<64):fk [x] S=a_ (.ref 0#7,S++[.lst (ax (srt l))]):=by
 have ok:CU (dz l).length:=by unfold dz;rw[ar];exact hl
 simp[fk,h,ok,vg]
theorem q8(ha:a G S=a_ (.ref n,S1))(hn:S1[n]?=a_ (Cell.lst (ax l)))(hl:l.length<64):mFn fk (aa a ah) G S=a_ (.ref S1.length,S1++[.lst (ax (srt l))]):=
 fI ha (wK (by simp[vF,gO,hn,eA,getL,lZ]) hl)
def Ax(m:List (_L.Key×U))(k:_L.Key):Bool:=(j0 m k).isSome
theorem rh{m:List (_L.Key×U)}{k:_L.Key}:Ax m k=c_ ↔ ∃kv∈m,kv.1=k:=by
 unfold Ax j0;simp
variable{kvs:List (_L.Key×U)}
theorem zG{x:Int}(ha:a G S=a_ (.int x,S1))(hb:b G S1=a_ (.ref r,S2))(hr:S2[r]?=a_ (Cell.dic kvs)):cOf (m2 md a b) G S=a_ (!Ax kvs (.inl x),S2):=
 of_eq (op2 ha hb (by simp only[md,gO,hr,keyOf,dr,Ax]))
theorem Ry{i:ME}{x:Int}(ho:o G S=a_ (.ref r,S))(hi:i G S=a_ (.int x,S))(hr:S[r]?=a_ (Cell.dic kvs))(hl:kvs.length<big):gv o i (mC (.bl c_)) G S=a_ (.nx,G,S.set r (.dic (nu kvs (.inl x) (.bl c_)))):=by
 simp[gv,mC,aF,ho,hi,hr,keyOf,hl]
section
variable {m:Nat}{T:Nat->Nat->Nat}{t n:Nat}
def orb(T:Nat->Nat->Nat)(t n x:Nat):List Nat:=(ao n).map λi=>T x (pw T t i)
theorem iz:y∈orb T t n x ↔ ∃i,i<n/\y=T x (pw T t i):=by
 unfold orb;rw[aw];constructor
 .rintro ⟨i,hi,rfl⟩;exact⟨i,aA.mp hi,rfl⟩
 .rintro ⟨i,hi,rfl⟩;exact⟨i,aA.mpr hi,rfl⟩
theorem La:(orb T t n x).length=n:=by simp[orb]
theorem qZ(g:Grp m T)(ht:t<m)(hx:x<m)(i:Nat):T (T x (pw T t i)) t=T x (pw T t (i+1)):=by
 rw[show pw T t (i+1)=T (pw T t i) t from rfl,g.as x _ t hx (gy g ht i) ht]
theorem Ey(g:Grp m T)(ht:t<m)(h0:pw T t n=0)(i:Nat):pw T t (n+i)=pw T t i:=by
 rw[sU g ht n i,h0,g.l0 _ (gy g ht i)]
theorem lB(g:Grp m T)(ht:t<m)(h0:pw T t n=0){z:Nat}(hx:x<m)(h1:y∈orb T t n x)(h2:z∈orb T t n y):z∈orb T t n x:=by
 obtain⟨i,hi,rfl⟩:=iz.mp h1;obtain⟨j,hj,rfl⟩:=iz.mp h2;have e:T (T x (pw T t i)) (pw T t j)=T x (pw T t (i+j)):=by rw[g.as _ _ _ hx (gy g ht i) (gy g ht j),sU g ht i j]
 rw[e];by_cases YN:i+j<n
 .exact iz.mpr ⟨i+j,YN,rfl⟩
 .refine iz.mpr ⟨i+j-n,by lia,?_⟩
  rw[<-Ey g ht h0 (i+j-n),show n+(i+j-n)=i+j by lia]
theorem IG(g:Grp m T)(hn:0<n)(hx:x<m):x∈orb T t n x:=iz.mpr ⟨0,hn,(g.r0 x hx).symm⟩
theorem jI(g:Grp m T)(ht:t<m)(hn:0<n)(h0:pw T t n=0)(hx:x<m)(h:y∈orb T t n x):x∈orb T t n y:=by
 obtain⟨i,hi,rfl⟩:=iz.mp h;have e:T (T x (pw T t i)) (pw T t (n-i))=x:=by
  rw[g.as _ _ _ hx (gy g ht i) (gy g ht (n-i)),<-sU g ht i (n-i),show i+(n-i)=n by lia,h0,g.r0 x hx]
 by_cases hi0:i=0
 .subst hi0
  refine iz.mpr ⟨0,hn,?_⟩;have e1:T x (pw T t 0)=x:=g.r0 x hx;rw[e1,e1]
 .exact iz.mpr ⟨n-i,by lia,e.symm⟩
theorem NL(g:Grp m T)(ht:t<m)(hx:x<m)(h:y∈orb T t n x):y<m:=by
 obtain⟨i,hi,rfl⟩:=iz.mp h;exact g.cl _ _ hx (gy g ht i)
theorem OF(g:Grp m T)(ht:t<m)(h1:∀k,1<=k->k<n->pw T t k≠0)(hx:x<m)(hi:1<=i)(ZI:i<n):T x (pw T t i)≠x:=λe=>by
 have:=g.cancel hx (gy g ht i) g.pos (e.trans (g.r0 x hx).symm);exact h1 i hi ZI this
def pC(T:Nat->Nat->Nat)(t n x:Nat):Bool:=(orb T t n x).all λy=>decide (x<=y)
theorem kc{x:Nat}:pC T t n x=c_ ↔ ∀y∈orb T t n x,x<=y:=by
 unfold pC;rw[dc];simp
end
open PySem in
open PySem in
open PySem in
open PySem in
open PySem in
open PySem in
open PySem in
open PySem in
open PySem in
open PySem in
open PySem in
open PySem in
open PySem in
def JB(l:List Nat):PySem.PyData:= .tuple (l.map λ(x:Nat)=>fQ x)
open PySem in
open PySem in
theorem kj{f:MF}{G:Rho}{S S1 S2 S3:Sto}{a b c:ME}{x y z:U}{r:Res U}(ha:a G S=a_ (x,S1))(hb:b G S1=a_ (y,S2))(hc:c G S2=a_ (z,S3))(h:f [x,y,z] S3=r):mFn f (aa a (aa b (aa c ah))) G S=r:=by
 simp[mFn,aa,ah,ha,hb,hc,aF,h]
theorem ur{c:MT}{b:MS}(P:Nat->Rho->Sto->Prop)(Q:Rho->Sto->Prop)
  (hc:∀μ G S,P μ G S->∃k S1,c G S=a_ (k,S1)/\(k=d_->Q G S1)/\(k=c_->∃Y4 S' Y6,Y6<μ/\b G S1=a_ (.nx,Y4,S')/\P Y6 Y4 S')):
  ∀(f μ:Nat) (G:Rho) (S:Sto),μ<f->P μ G S->∃Y4 S',whl c b f G S=a_ (.nx,Y4,S')/\Q Y4 S'
 |0,μ,G,S,h,_=>by lia
 | f+1,μ,G,S,h,hp=>by
   obtain⟨k,S1,e,q1,q2⟩:=hc μ G S hp;unfold whl;rw[e];simp[aF];cases k with
   |false=>exact⟨G,S1,by simp,q1 rfl⟩
   | true=>
     obtain⟨Y5,S2,Y0,hl,e1,p1⟩:=q2 rfl;obtain⟨X0,S3,e2,q⟩:=ur P Q hc f _ _ S2 0#0 p1;exact⟨_,S3,by simp[if_true,aft,e1,e2],q⟩
section
variable {S x:Sto}{c e c' e':Cell}
theorem h0:(S++[c,e]++x)[0#7]?=a_ c:=by simp
theorem h1:(S++[c,e]++x)[0#7+1]?=a_ e:=by simp
theorem t0:(S++[c,e]++x).set S.length c'=S++[c',e]++x:=by
 grind
theorem t1:(S++[c,e]++x).set (0#7+1) e'=S++[c,e']++x:=by
 grind
end
theorem vh:Ax (gF l) (.inl (x:Int))=decide (x∈l):=by
 have:Ax (gF l) (.inl x)=c_↔x∈l:=by
  rw[rh];unfold gF;constructor
  .grind
  .intro h
   exact⟨_,aw.mpr ⟨x,h,rfl⟩,rfl⟩
 grind
theorem IQ(l:List Nat):(gF l).length=l.length:=by simp[gF]
variable{h:Nat}
theorem LD(ho:o G S=a_ (.ref r,S))(hr:S[r]?=a_ (Cell.lst (ax (l++[h])))):mML Bz o ah G S=a_ (.int h,S.set r (Cell.lst (ax l))):=by
 simp only[mML,ho,aF,getL,hr,ah,Bz];simp[ax]
inductive Rch(T:Nat->Nat->Nat)(ths:List Nat):Nat->Prop where
 |zero:Rch T ths 0
 |step {x y:Nat}:Rch T ths x->y∈ths->Rch T ths (T x y)
structure Dfs(m:Nat)(T:Nat->Nat->Nat)(ths:List Nat)(ks:List Nat)(C:Nat->Prop):Prop where
 nd:ks.Nodup
 lt:∀x∈ks,x<m
 z:0∈ks
 rc:∀x∈ks,Rch T ths x
 cl:∀x∈ks,C x \/ ∀y∈ths,T x y∈ks
section
variable {m:Nat}{T:Nat->Nat->Nat}{ths ks st:List Nat}
theorem Dfs.all(d:Dfs m T ths ks λ_=>False):x∈ks↔Rch T ths x:=by
 refine⟨d.rc x,λh=>?_⟩
 induction h with
 |zero=>exact d.z
 |step _ hy ih=>exact((d.cl _ ih).resolve_left id) _ hy
theorem Dfs.len(d:Dfs m T ths ks C):ks.length<=m:=sH m ks d.nd d.lt
theorem Lv{a b:List Nat}(ha:a.Nodup)(hb:b.Nodup)(h:∀x,x∈a↔x∈b):a.Perm b:=(fC ha hb).mpr λx=>h x
def tryD(T:Nat->Nat->Nat)(h y:Nat)(p:List Nat×List Nat):List Nat×List Nat:=if T h y∈p.1 then p else(p.1++[T h y],p.2++[T h y])
structure Inn(m:Nat)(T:Nat->Nat->Nat)(ths:List Nat)(h k:Nat)(p:List Nat×List Nat)(μ:Nat):Prop where
 d:Dfs m T ths p.1 λx=>x∈p.2\/x=h
 sub:∀x∈p.2,x∈p.1
 hk:h∈p.1
 hh:∀y∈ths.take k,T h y∈p.1
 ms:2*(m-p.1.length)+p.2.length<=μ
variable{μ:Nat}{p:List Nat×List Nat}
theorem Inn.try{k:Nat}(g:Grp m T)(ht:∀x∈ths,x<m)(n:Inn m T ths h k p μ)(hy:ths[k]?=a_ y):Inn m T ths h (k+1) (tryD T h y p) μ:=by
 have YD:=bK hy;have htk:ths.take (k+1)=ths.take k++[y]:=by rw[fg,hy];rfl
 unfold tryD
 split
 .rename_i ZI
  refine⟨n.d,n.sub,n.hk,λz hz=>?_,n.ms⟩;rw[htk]at hz;rcases aQ.mp hz with hz |hz
  .exact n.hh z hz
  .simp at hz;rw[hz];exact ZI
 .rename_i ZI
  have nd:(p.1++[T h y]).Nodup:=by
   rw[eF];exact⟨n.d.nd,by simp,λa ha b hb=>by simp at hb;rintro rfl;exact ZI (hb▸ha)⟩
  have ZR:=g.cl _ _ (n.d.lt h n.hk) (ht y YD);have lt:∀x∈p.1++[T h y],x<m:=λx hx=>by
   rcases aQ.mp hx with hx|hx
   .exact n.d.lt x hx
   .simp at hx;lia
  refine⟨⟨nd,lt,bf _ n.d.z,λx hx=>?_,λx hx=>?_⟩,λx hx=>?_,bf _ n.hk,λz hz=>?_,?_⟩
  .rcases aQ.mp hx with hx|hx
   .exact n.d.rc x hx
   .simp at hx;rw[hx];exact .step (n.d.rc h n.hk) YD
  .rcases aQ.mp hx with hx|hx
   .rcases n.d.cl x hx with (c|c)|c<;>simp_all
   .exact .inl (.inl (a8 _ hx))
  .rcases aQ.mp hx with hx|hx
   .exact bf _ (n.sub x hx)
   .exact a8 _ hx
  .rw[htk]at hz
   rcases aQ.mp hz with hz|hz
   .exact bf _ (n.hh z hz)
   simp_all
  .have:=sH m _ nd lt
   have:=n.ms;simp at *
   lia
structure Di(m:Nat)(T:Nat->Nat->Nat)(ths ks st:List Nat)(μ:Nat):Prop where
 d:Dfs m T ths ks λx=>x∈st
 sub:∀x∈st,x∈ks
 ms:2*(m-ks.length)+st.length<=μ
theorem Di.start(hm:0<m):Di m T ths [0] [0] (2*m):=
 ⟨⟨by simp,by simpa using hm,by simp,λx hx=>by simp at hx;rw[hx];exact .zero,λx hx=>.inl hx⟩,λx hx=>hx,by simp;lia⟩
theorem Di.pop(s:Di m T ths ks (st++[h]) (μ+1)):Inn m T ths h 0 (ks,st) μ:=
 ⟨⟨s.d.nd,s.d.lt,s.d.z,s.d.rc,λx hx=>(s.d.cl x hx).imp (λc=>by simpa using c) id⟩,λx hx=>s.sub x (bf _ hx),s.sub h 0#4,by simp,by have:=s.ms;simp at this;exact d6 0#5⟩
theorem Inn.done(n:Inn m T ths h ths.length p μ):Di m T ths p.1 p.2 μ:=
 ⟨⟨n.d.nd,n.d.lt,n.d.z,n.d.rc,λx hx=>by
  rcases n.d.cl x hx with (c|c)|c
  .exact .inl c
  .subst c;exact .inr λy hy=>n.hh y (by grind)
  ·exact .inr c⟩,n.sub,n.ms⟩
end
section
variable {m:Nat}{T:Nat->Nat->Nat}{ths:List Nat}{S x:Sto}{v:U}
def spR(m:Nat)(T:Nat->Nat->Nat)(v:U)(S:Sto)(r:List (Option U)):Rho:= [0#8,a_ v,2#0,a_ (.ref (0#7+1))]++r
def Wk(S:Sto)(v:U)(ths:List Nat):Prop:=v=.tup (ax ths) \/ ∃r,v=.ref r/\S[r]?=a_ (.lst (ax ths))/\ths.length<1000
def Ma:MT:=cOf (m2 oGt (mFn cp (aa (ae 3) ah)) 1#0)
theorem Inn.st_le{k μ:Nat}{p:List Nat×List Nat}(n:Inn m T ths h k p μ)(Z2:μ<1000)(hm:m<64):p.1.length<big/\p.2.length<big:=by
 have:=n.ms;have:=n.d.len;unfold big
 lia
theorem qO{α:Type}:∀{l:List α},l≠[]->∃a b,l=a++[b]
 |l,h=>⟨_,_,(Af h).symm⟩
theorem EW{S:Sto}{x:U}(ha:a G S=a_ (x,S1)):dN (aa a ah) G S=a_ (.ref S1.length,S1++[Cell.lst [x]]):=by
 have hq:1<=big:=by decide
 simp[dN,aa,ah,aF,ha,hq]
end
def tups(ls:List (List Nat)):List U:=ls.map λl=>U.tup (ax l)
theorem xU{S:Sto}{f:Nat}:∀(ls:List (List Nat)),dG (toD S (f+2)) (tups ls)=a_ (ls.map JB)
 |[]=>rfl
 | l::ls=>by
   show(toD S _ _).bind _=_;rw[wx];have:=xU (S:=S) (f:=f) ls;unfold tups at this;rw[this];rfl
theorem AS{ls:List (List Nat)}(h:S[n]?=a_ (Cell.lst (tups ls))):toD S 40 (.ref n)=a_ (.list (ls.map JB)):=by
 show(getL S n).bind _=_;unfold getL;rw[h];simp only[aO];rw[xU];rfl
theorem BL:∀(a b:List (List Nat)),dj (a.map JB) (b.map JB)=decide (a=b)
 |[],[]=>by simp[dj]
 |[],_::_=>by simp[dj]
 |_::_,[]=>by simp[dj]
 | x::a,y::b=>by
   rw[dw,dw,dj,BL a b];unfold JB;rw[ff,my]
   simp_all
open PySem in
open PySem in
open PySem in
open PySem in
theorem K8{l:List Nat}{x:Nat}:inV (.int x) (l.map λ(y:Nat)=>V.int y)=decide (x∈l):=by
 unfold inV;rw[List.any_map];by_cases h:x∈l
 .rw[decide_eq_true h,kf]
  exact⟨x,h,beq_self_eq_true _⟩
 .rw[decide_eq_false h,List.any_eq_false]
  intro y hy;have q:y≠x:=λe=>h (e▸hy);exact λz=>q (Int.ofNat.inj (eq_of_beq z))
theorem xP:∀(l:List Nat),dG iE (ax l)=a_ (l.map λ(y:Nat)=>V.int y)
 |[]=>rfl
 | x::l=>by
   show(iE _).bind _=_;have:=xP l;unfold ax at this;rw[this];rfl
theorem DU(h:S[r]?=a_ (Cell.lst us)):gO S (.ref r)=b_:=by
 simp[gO,h]
def sdF(r:Nat->List Nat):Nat->List (List Nat)×List Nat
 |0=>([],[])
 |k+1=>if k∈(sdF r k).2 then sdF r k else((sdF r k).1++[srt (r k)],(sdF r k).2++r k)
def putN(l:List Nat)(x:Nat):List Nat:=if x∈l then l else l++[x]
theorem GM:nu (gF l) (.inl (x:Int)) (.bl c_)=gF (putN l x):=by
 unfold putN
 split
 .rename_i h
  unfold nu;have:((gF l).any λkv=>decide (kv.1=jR (x:Int)))=c_:=by
   rw[kf];exact⟨_,aw.mpr ⟨x,h,rfl⟩,by simp⟩
  rw[if_pos this];unfold gF
  simp_all
 .rename_i h
  unfold nu;rw[if_neg]
  .simp[gF]
  .intro z
   obtain⟨kv,hm,e⟩:=kf.mp z;have:=rh.mpr ⟨kv,hm,of_decide_eq_true e⟩;rw[vh]at this
   grind
theorem vR:∀{xs l:List Nat}{y:Nat},y∈xs.foldl putN l↔y∈l\/y∈xs
 |[],l,y=>by simp
 | x::xs,l,y=>by
   rw[gW,vR,(show y∈putN l x↔y∈l\/y=x by
     unfold putN
     split <;> simp_all)]
   simp[or_assoc]
theorem rm:∀{xs l:List Nat},(xs.foldl putN l).length<=l.length+1#2
 |[],l=>by simp
 | x::xs,l=>by
   have:=rm (xs:=xs) (l:=putN l x);have:=(show(putN l x).length<=l.length+1 by unfold putN;split<;>simp)
   grind
def pcF(r:Nat->List Nat)(ext:Nat->Sto):Nat->List (List Nat)×List Nat×Sto
 |0=>([],[],[])
 |k+1=>if k∈(pcF r ext k).2.1 then pcF r ext k else((pcF r ext k).1++[srt (r k)],(srt (r k)).foldl putN (pcF r ext k).2.1,(pcF r ext k).2.2++ext k)
theorem CQ{r:Nat->List Nat}{ext:Nat->Sto}:∀k,(pcF r ext k).1=(sdF r k).1 /\ ∀y,y∈(pcF r ext k).2.1↔y∈(sdF r k).2
 |0=>⟨rfl,λy=>Iff.rfl⟩
 | k+1=>by
   obtain⟨h1,h2⟩:=CQ (r:=r) (ext:=ext) k;unfold pcF sdF;by_cases h:k∈(sdF r k).2
   .simp_all
   .rw[if_neg h,if_neg λz=>h ((h2 k).mp z)]
    refine⟨by rw[h1],λy=>?_⟩;rw[vR,h2,fM,aQ]
theorem JJ{r:Nat->List Nat}{ext:Nat->Sto}{B:Nat}(hr:∀k,(r k).length<=B):∀k,(pcF r ext k).1.length<=k/\(pcF r ext k).2.1.length<=k*B
 |0=>by simp[pcF]
 | k+1=>by
   have:=JJ (ext:=ext) hr k;have:=hr k;unfold pcF;rw[qo]
   split
   .lia
   .have h:=rm (xs:=srt (r k)) (l:=(pcF r ext k).2.1)
    rw[mG]at h<;>grind
def cW(S:Sto)(p:List (List Nat)×List Nat×Sto):Sto:=S++[.lst (tups p.1),.dic (gF p.2.1)]++p.2.2
def uW(g:iu)(φ:MF):MS:=sIf (cOf (m2 md (ae 4) (ae 3))) (aY (bC 5 (wA 1 g φ 2#3)) (aY (eJ (mML de (ae 2) (aa (ae 5) ah))) (fv 6 (dq (ae 5)) (gv (ae 3) (ae 6) (mC (.bl c_)))))) dE
def uB(g:iu)(φ:MF):MS:=aY (bC 2 (dN ah)) (aY (bC 3 qH) (aY (fv 4 (dq 0#3) (uW g φ)) (cn (ae 2))))
theorem yj{x:Sto}{xs:List Nat}(h5:G[5]?=a_ (a_ (.tup (ax xs))))(h3:G[3]?=a_ (a_ (.ref (0#7+1))))(h7:G.length=7)(hb:l.length+1#2<big):
  ∃v,fv 6 (dq (ae 5)) (gv (ae 3) (ae 6) (mC (.bl c_))) G (S++[c,.dic (gF l)]++x)=a_ (.nx,G.set 6 v,S++[c,.dic (gF (xs.foldl putN l))]++x):=by
 obtain⟨Y4,S',e,⟨v,rfl⟩,rfl⟩:=sP (S:=S++[c,.dic (gF l)]++x) (var_eq h5)
  (λk Y4 S'=>(∃v,Y4=G.set 6 v)/\S'=S++[c,.dic (gF ((xs.take k).foldl putN l))]++x) ⟨⟨G[6]' 0#0,by simp⟩,by simp⟩ (by
  rintro k u Y4 S' hu ⟨⟨v,rfl⟩,rfl⟩;obtain⟨y,hy,rfl⟩:=kn hu;rw[List.set_set];have g3:(G.set 6 (a_ (.int y)))[3]?=a_ (a_ (.ref (0#7+1))):=by rw[aN 0#2];exact h3
  have g6:(G.set 6 _)[6]?=a_ (a_ (.int y)):=aV 0#0
  have e:=Ry (var_eq g3) (var_eq g6) (h1 (x:=x) (c:=c) (e:= .dic (gF ((xs.take k).foldl putN l)))) (by
   rw[IQ];have:=rm (xs:=xs.take k) (l:=l);have:(xs.take k).length<=1#2:=by rw[c6];lia
   lia)
  rw[t1,GM]at e;refine⟨_,_,e,⟨_,rfl⟩,?_⟩;rw[fg,hy,List.foldl_append]
  rfl)
 rw[cm,List.take_length]at e;exact⟨v,e⟩
variable{ext:Nat->Sto}{φ:MF}
theorem FB{r:Nat->List Nat}{S:Sto}(hm:m<64)(hr:∀k,(r k).length<=64)(Wq:∀i (S:Sto),i<m->φ [.int (i:Nat)] S=a_ (.tup (ax (srt (r i))),S++ext i))(g:iu):
  _G.run 2 7 (uB g φ) [.tup (ax (ao m)),.obj g] S=a_ (.ref 0#7,cW S (pcF r ext m)):=by
 obtain⟨Y5,S1,e1,⟨a,b,c,rfl⟩,WY⟩:=sP (i:=4) (e:=ae 0) (b:=uW g φ) 0#1
  (λk G S'=>(∃a b c,G = [a_ (.tup (ax (ao m))),a_ (.obj g),2#0,a_ (.ref (0#7+1)),a,b,c])/\S'=cW S (pcF r ext k)) ⟨⟨_,_,_,rfl⟩,rfl⟩ (by
   rintro k u G S' hu ⟨⟨a,b,c,rfl⟩,rfl⟩;obtain⟨k',YM,rfl⟩:=kn hu;have hk:=by have:=(ag.mp YM).1;simpa using this
   rw[ua hk]at YM;cases YM;have bd:=JJ (ext:=ext) hr k;have ec:=zG (G:= [a_ (.tup (ax (ao m))),a_ (.obj g),2#0,a_ _,a_ (.int k),b,c]) (a:=ae 4) (b:=ae 3) 0#1 0#1 (show(cW S (pcF r ext k))[0#7+1]?=_ from h1);rw[vh]at ec;by_cases ZI:k∈(pcF r ext k).2.1
   .rw[decide_eq_true ZI]at ec
    refine⟨_,_,(kK ec).trans rfl,⟨_,_,_,rfl⟩,?_⟩;rw[pcF,if_pos ZI]
   .rw[decide_eq_false ZI]at ec
    have e5:wA 1 g φ 2#3 [a_ (.tup (ax (ao m))),a_ (.obj g),2#0,a_ (.ref (0#7+1)),a_ (.int k),b,c] (cW S (pcF r ext k))=a_ (.tup (ax (srt (r k))),cW S (pcF r ext k)++ext k):=by
     show(if g=g then mFn φ _ _ _ else b_)=_;rw[if_pos rfl];exact fI 0#1 (Wq k _ hk)
    have hx:cW S (pcF r ext k)++ext k=S++[.lst (tups (pcF r ext k).1),.dic (gF (pcF r ext k).2.1)]++((pcF r ext k).2.2++ext k):=by simp[cW]
    rw[hx]at e5;have e6:=append_eq (G:= [a_ (.tup (ax (ao m))),a_ (.obj g),a_ _,a_ (.ref (S.length+1)),a_ (.int k),a_ (.tup (ax (srt (r k)))),c]) (o:=ae 2) (a:=ae 5) 0#1 0#1 (h0 (S:=S) (x:=(pcF r ext k).2.2++ext k) (c:= .lst (tups (pcF r ext k).1)) (e:= .dic (gF (pcF r ext k).2.1))) h0 (by simp[tups,ar];unfold big;lia);rw[t0]at e6
    obtain⟨v,e7⟩:=yj (G:= [a_ _,a_ _,a_ _,a_ _,a_ _,a_ _,c]) (xs:=srt (r k)) (l:=(pcF r ext k).2.1) rfl rfl rfl (by
     rw[mG];have:=hr k
     unfold big;lia)
    refine⟨_,_,(sQ ec).trans ((aL (bh e5)).trans ((aL e6).trans e7)),⟨_,_,_,rfl⟩,?_⟩;rw[pcF,if_neg ZI]
    simp[cW,tups])
 rw[cm,aZ]at WY;subst WY;refine cK (G:= [a_ (.tup (ax (ao m))),a_ (.obj g),2#0,a_ (.ref (0#7+1)),a,b,c]) rfl ?_;have e2:qH [a_ (.tup (ax (ao m))),a_ (.obj g),2#0,b_,b_,b_,b_] (S++[Cell.lst []])=a_ (.ref (0#7+1),cW S (pcF r ext 0)):=by
  simp[qH,cW,pcF,tups,gF]
 exact(aL (bh jF)).trans ((aL (bh e2)).trans ((aL e1).trans (cz 0#1)))
variable{f:Nat->Nat}{part:List Nat}
theorem OC{S:Sto}(hi:G[i]?=a_ (a_ (.tup (ax part))))(hl:part.length<64)(he:∀(x:Nat) (S:Sto),x∈part->e (G++[a_ (.int x)]) S=a_ (.int (f x:Nat),S)):
  mFn bQ (aa (mFn fk (aa (bY (dq (ae i)) cTT e) ah)) ah) G S=a_ (.tup (ax (srt (part.map f))),S++[.lst (ax (part.map f)),.lst (ax (srt (part.map f)))]):=by
 have hz:(part.map f).length<64:=by rw[ar];exact hl
 obtain⟨S1,e1,rfl⟩:=oO (λj => .int (f (oF part j))) (λ_ S'=>S'=S) _ 0 [] S rfl (by
  rintro j u S' hu rfl;obtain⟨x,hx,rfl⟩:=kn hu;refine⟨S',?_,rfl⟩;have:oF part (0+j)=x:=by rw[fT];unfold oF;rw[aP,hx];rfl
  rw[this]
  exact he x S' (bK hx))
 have hm:(ao (ax part).length).map (λj=>U.int (f (oF part (0+j))))=ax (part.map f):=by
  unfold ax;apply jM;intro j;rw[a9,a9,a9];by_cases h:j<part.length
  .simp[oF,h]
  .rw[fH (by simpa using h),fH (by exact dS 0#5)];rfl
 rw[hm,eh]at e1;have e2:=l4 (it:=dq (ae i)) (by unfold dq;rw[var_eq hi];rfl) e1 (by rw[cm];exact ai 0#5 0#2);have e3:=fh (q8 e2 (b9 _ _) hz);rw[e3];simp
theorem map_len(h:part.length<64):(part.map f).length<=64:=by rw[ar];exact aI 1#6
def BJ(T:Nat->Nat->Nat)(part:List Nat)(left:Bool)(x:Nat):List Nat:=part.map λo=>if left then T x o else T o x
def atM:MS:=cn (Bu (iR1 (aa (mFn cp (aa 0#3 ah)) ah)))
theorem IU(hm:m<1000):_G.run 1 1 atM [tab m T] S=a_ (.tup (ax (ao m)),S):=by
 refine cK rfl (cz ?_);have e1:=oB (G:= [0#8]) (S:=S) (a:=mFn _ (aa 0#3 _)) (len_tab 0#1) (by exact ai 1#6 0#2);have e2:bI 0 m=ax (ao m):=by
  apply aR;simp
 rw[e2]at e1;have hz:(ax (ao m)).length<=big:=by rw[cm,aZ];unfold big;lia
 simp[Bu,e1,aF,hz]
def lsM:MS:=cn (mm (λg φ=>_G.run 2 7 (uB g φ)) 1 [0,1] (mFn bQ (aa (mFn fk (aa (bY (dq (ae 2)) cTT (m2 oIx (m2 oIx (ae 1) 0#3) (ae 3))) ah)) ah)) (mFn (_G.run 1 1 atM) (aa 0#3 ah)))
def JD(m:Nat)(T:Nat->Nat->Nat)(part:List Nat)(left:Bool):List (List Nat):=(sdF (BJ T part left) m).1
section
variable {m:Nat}{T:Nat->Nat->Nat}{part:List Nat}{S:Sto}
theorem xK{left:Bool}:Ex S (cW S (pcF (BJ T part left) ext m))/\(cW S (pcF (BJ T part left) ext m))[0#7]?=a_ (Cell.lst (tups (JD m T part left))):=by
 refine⟨⟨_,by unfold cW;rw[bz]⟩,?_⟩;have:=h0 (S:=S) (x:=(pcF (BJ T part left) ext m).2.2) (c:= .lst (tups (pcF (BJ T part left) ext m).1)) (e:= .dic (gF (pcF (BJ T part left) ext m).2.1));rw[(CQ m).1]at this;unfold cW;rw[(CQ m).1];exact this
theorem Ls(g:Grp m T)(hm:m<64)(hl:part.length<64)(hp:∀x∈part,x<m):∃S',_G.run 2 2 lsM [tab m T,.tup (ax part)] S=a_ (.ref 0#7,S')/\Ex S S'/\S'[0#7]?=a_ (Cell.lst (tups (JD m T part c_))):=by
 refine⟨cW S (pcF _ (λi=>[.lst (ax (BJ T part c_ i)),.lst (ax (srt (BJ T part c_ i)))]) m),cK rfl (cz ?_),xK.1,xK.2⟩;refine vt (fI 0#1 (IU (by exact ai 1#6 0#2))) rfl λf=>FB hm (λk=>map_len hl) (λi S' hi=>?_) f;exact OC rfl hl λx S hx=>ki (j:=x) (hp x hx) (jo hi 0#1 0#1) 0#1
end
theorem Iz{t:Nat}{S:Sto}{sv mv:ME}(ha:a G S=a_ (.int t,S0))(ht:t<1000)(h:o5 n S0)(hm:0<m)(Zf:m<1000)
  (hs:∀z (S:Sto),sv (G++[z]) S=a_ (.ref n,S)) (hv:∀z (S:Sto),mv (G++[z]) S=a_ (.int m,S)):
  ∃w S',bY (iR1 (aa a ah)) cTT (mFn bA (aa sv (aa mv ah))) G S=a_ (.ref S'.length,S'++[.lst (ax w)])/\Stp n S0 S'/\(∀x∈w,x<m)/\w.length=t:=by
 obtain⟨ys,S1,e1,⟨w,rfl,q1,q2⟩,q3⟩:=rY (λacc S' =>∃w,acc=ax w/\(∀x∈w,x<m)/\Stp n S0 S') (bI 0 t) [] S0 ⟨[],rfl,by simp,Stp.refl h⟩ (by
  rintro k acc u S' hk hl ⟨w,rfl,q1,q2⟩;obtain⟨r,S2,e2,h2,h3⟩:=jN q2.st hm Zf;refine⟨_,S2,cP (hs _ _) (hv _ _) e2,w++[r],by simp[ax],λx hx=>?_,q2.trans h3⟩
  grind)
 have hlen:(bI 0 t).length=t:=by simp[bI]
 have hw:=by rw[cm]at q3;simpa [hlen]using q3
 exact⟨w,S1,l4 (oB ha (by exact ai 1#6 0#2)) e1 (by rw[cm,hw];exact ai 1#6 0#2),q2,q1,hw⟩
theorem pV{t:MT}{e:ME}{G:Rho}{n:Nat}{S:Sto}{us:List U}{p:U->Bool}{f:U->U}(hu:getL S n=a_ us)(ht:∀u∈us,t (G++[a_ u]) S=a_ (p u,S))(he:∀u∈us,p u=c_->e (G++[a_ u]) S=a_ (f u,S)):
  ∀(k i:Nat) (acc:List U),i<=1#1->1#1-i<k->kW t e G n k i acc S=a_ (acc++((us.drop i).filter p).map f,S)
 |0,i,acc,h1,h2=>by omega
 | k+1,i,acc,h1,h2=>by
   unfold kW;rw[hu];simp;by_cases hi:i<1#1
   .have hd:=eN hi
    have hm:=bP hi;rw[aC hi];simp;rw[ht _ hm];simp[aF];rw[hd];cases hp:p _ with
    | true=>
      rw[if_pos rfl,he _ hm hp];simp only[aF];rw[pV hu ht he k _ _ 0#5 1#6,oX hp];simp
    | false=>
      rw[if_neg dm,pV hu ht he k _ _ 0#5 1#6,oY (by rw[hp];decide)]
   .rw[fH (by simp_all),dO (by simp_all)]
    simp
theorem lW{t:MT}{e:ME}{G:Rho}{S:Sto}{p:U->Bool}{f:U->U}:∀(us acc:List U),(∀u∈us,t (G++[a_ u]) S=a_ (p u,S))->(∀u∈us,p u=c_->e (G++[a_ u]) S=a_ (f u,S)) ->
  jV t e G us acc S=a_ (acc++(us.filter p).map f,S)
 |[],acc,_,_=>by simp[jV]
 | u::us,acc,ht,he=>by
   unfold jV;rw[ht u 0#4];simp[aF];cases hp:p u with
   | true=>
     rw[he u 0#4 hp];simp[aF];rw[lW us _ (λv hv=>ht v (aB _ hv)) (λv hv=>he v (aB _ hv)),oX hp];simp
   | false=>
     rw[if_neg dm,lW us _ (λv hv=>ht v (aB _ hv)) (λv hv=>he v (aB _ hv)),oY (by grind)]
theorem FN{t:MT}{us:List U}{p:U->Bool}{f:U->U}(ha:a G S=a_ (.tup us,S1))(hl:1#1<big)(ht:∀u∈us,t (G++[a_ u]) S1=a_ (p u,S1))(he:∀u∈us,p u=c_->e (G++[a_ u]) S1=a_ (f u,S1)):
  bY (dq a) t e G S=a_ (.ref S1.length,S1++[.lst ((us.filter p).map f)]):=by
 have hi:dq a G S=a_ (.imm us,S1):=by simp[dq,ha,aF]
 have e1:=lW us [] ht he;refine l4 hi e1 ?_;have:=hJ p us;rw[ar];exact aM 1#6 1#6
variable{p:Nat->Bool}
theorem uT{t:MT}{l:List Nat}{f:Nat->U}(ha:a G S=a_ (.tup (ax l),S1))(hl:l.length<big)(ht:∀x∈l,t (G++[a_ (.int x)]) S1=a_ (p x,S1))(he:∀x∈l,p x=c_->e (G++[a_ (.int x)]) S1=a_ (f x,S1)):
  bY (dq a) t e G S=a_ (.ref S1.length,S1++[.lst ((l.filter p).map f)]):=by
 have nat:∀u∈ax l,∃x∈l,u=.int x:=λu hu=>by
  obtain⟨x,hx,rfl⟩:=aw.mp hu;exact⟨x,hx,rfl⟩
 let g:U->Nat:=λu=>match u with | .int i=>i.toNat |_=>0
 have gx:∀x:Nat,g (.int x)=x:=λx=>by simp[g]
 have h:=FN (p:=λu=>p (g u)) (f:=λu=>f (g u)) ha (by rw[cm];exact hl) (λu hu=>by
  obtain⟨x,hx,rfl⟩:=nat u hu
  exact ht x hx) (λu hu hp=>by
  obtain⟨x,hx,rfl⟩:=nat u hu
  exact he x hx hp)
 rw[h];have:((ax l).filter λu=>p (g u)).map (λu=>f (g u))=(l.filter p).map f:=by
  unfold ax;rw[List.filter_map,bq];have e1:(λu=>p (g u))∘(λ(x:Nat)=>U.int x)=p:=by funext x;simp[gx]
  have e2:(λu=>f (g u))∘(λ(x:Nat)=>U.int x)=f:=by funext x;simp[gx]
  rw[e1,e2]
 rw[this]
theorem yy{t:MT}{l:List Nat}{f:Nat->U}(ha:a G S=a_ (.tup (ax l),S1))(hl:l.length<1000)(ht:∀x∈l,t (G++[a_ (.int x)]) S1=a_ (p x,S1))(he:∀x∈l,p x=c_->e (G++[a_ (.int x)]) S1=a_ (f x,S1)):
  bY (dq a) t e G S=a_ (.ref S1.length,S1++[.lst ((l.filter p).map f)]):=
 uT ha (by exact ai 1#6 0#2) ht he
theorem vH(g:Grp m T)(hi:i<m):_G.run 2 2 (cn (mMT fj (m2 oIx 0#3 (ae 1)) (aa 1#0 ah))) [tab m T,.int i] S=a_ (.int (unT m T i),S):=by
 have h0:=HJ g hi;have e:=jo (G:= [0#8,a_ (.int i)]) (S:=S) (a:=ae 0) (b:=ae 1) hi 0#1 0#1;rw[AI]at e;exact cK (G:= [0#8,a_ (.int i)]) rfl (cz (kq (x:=0) e c_i h0))
section
variable {m:Nat}{T:Nat->Nat->Nat}{st left:List Nat}{S:Sto}
def gos(T:Nat->Nat->Nat)(st:List Nat)(h:Nat)(left:List Nat):List Nat:=st.filter λs=>decide (T h s∈left)
theorem Nl{S:Sto}{x y:List Nat}(ha:a G S=a_ (.tup (ax x),S1))(hb:b G S1=a_ (.tup (ax y),S2))(hl:x.length+y.length<=big):m2 eQ a b G S=a_ (.tup (ax (x++y)),S2):=by
 refine op2 ha hb ?_;simp only[eQ];rw[if_pos (by rw[cm,cm];omega)];simp[ax]
theorem LJ{S:Sto}{x y:List Nat}(ha:a G S=a_ (.tup (ax x),S1))(hb:b G S1=a_ (.tup (ax y),S2))(hl:x.length+y.length<1000):m2 eQ a b G S=a_ (.tup (ax (x++y)),S2):=
 Nl ha hb (by unfold big;lia)
end
abbrev Nod:=List Nat×List Nat
def gG(th:List Nat):Nat:=(th.getLast?).getD 0
theorem mq:gG (l++[x])=x:=by simp[gG]
variable{th:List Nat}
theorem Ku(h:th≠[]):atI (ax th) (-1)=a_ (.int (gG th:Nat)):=by
 obtain⟨l,x,rfl⟩:=qO h;rw[mq];have hl:(ax (l++[x])).length=l.length+1:=by simp[ax]
 unfold atI;have:_L.ixN (ax (l++[x])).length (-1)=a_ l.length:=by
  rw[hl];unfold _L.ixN
  grind
 rw[this];simp[ax]
theorem AH{th:List Nat}(h:th≠[])(hl:∀x∈th,x<m):gG th<m:=by
 obtain⟨l,x,rfl⟩:=qO h;rw[mq];exact hl x 0#4
def kids(T:Nat->Nat->Nat)(st:List Nat)(p:Nod):List Nod:=(st.filter λs=>!decide (T (gG p.2) s∈p.2)).map λs=>(p.1++[s],p.2++[T (gG p.2) s])
def Bh(T:Nat->Nat->Nat)(st:List Nat)(L:Nod->List (List Nat)):Nat->Nod->List (List Nat)
 |0,p=>L p
 |k+1,p=>(kids T st p).flatMap (Bh T st L k)
section
variable {m:Nat}{T:Nat->Nat->Nat}{st:List Nat}{S x:Sto}{F:List (List Nat)}{ln:List Nod}{G:Rho}
end
def Mu(b:Nat):Nat->Nat
 |0=>1
 |k+1=>1+b*Mu b k
def msr(b m:Nat)(ln:List Nod):Nat:=(ln.map λp=>Mu b (m-1-p.1.length)).sum
def rest(T:Nat->Nat->Nat)(st:List Nat)(L:Nod->List (List Nat))(m:Nat)(ln:List Nod):List (List Nat):=ln.reverse.flatMap λp=>Bh T st L (m-1-p.1.length) p
section
variable {m:Nat}{T:Nat->Nat->Nat}{st:List Nat}{L:Nod->List (List Nat)}{ln:List Nod}{p:Nod}
end
theorem Pt(ha:a G S=a_ (.int x,S1))(hb:b G S1=a_ (.int y,S2)):mFn zU (aa a (aa b ah)) G S=a_ (.int (min x y:Nat),S2):=by
 refine cP ha hb ?_;show a_ _=_
 grind
section
variable {m:Nat}{T:Nat->Nat->Nat}{st:List Nat}{S:Sto}
def NB(T:Nat->Nat->Nat)(st:List Nat)(p:Nod):List (List Nat):=(st.filter λs=>decide (T (gG p.2) s=0)).map λs=>p.1++[s]
theorem yB{S:Sto}{k:Nat}{ws:List U}(ho:o G S=a_ (.ref r,S))(ha:a G S=a_ (.ref k,S1))(hr:S[r]?=a_ (Cell.lst us))(ZZ:S1[r]?=a_ (Cell.lst us))(hk:S1[k]?=a_ (Cell.lst ws))(hl:1#1+ws.length<=big):
  eJ (mML j4 o (aa a ah)) G S=a_ (.nx,G,S1.set r (.lst (us++ws))):=by
 simp[eJ,mML,ho,aF,getL,hr,aa,ah,ha,j4,ZZ,hk];rw[if_pos hl];simp[aF]
end
theorem Ex.set{S S':Sto}{r:Nat}{c:Cell}(h:Ex S S')(hr:0#7<=r):Ex S (S'.set r c):=by
 obtain⟨t,rfl⟩:=h;exact⟨t.set (r-0#7) c,by rw[JR _ _ hr]⟩
theorem DE{t:MT}{us:List U}{p:U->Bool}{f:U->U}(ha:a G S=a_ (.ref n,S1))(hu:S1[n]?=a_ (Cell.lst us))(hl:1#1<100000)(ht:∀u∈us,t (G++[a_ u]) S1=a_ (p u,S1))(he:∀u∈us,p u=c_->e (G++[a_ u]) S1=a_ (f u,S1)):
  bY (dq a) t e G S=a_ (.ref S1.length,S1++[.lst ((us.filter p).map f)]):=by
 have hg:getL S1 n=a_ us:=by unfold getL;rw[hu]
 have hi:dq a G S=a_ (.mut n,S1):=by simp only[dq,ha,aF,hg,dr]
 have e1:=pV hg ht he fuel 0 [] (bS _) (by unfold fuel;assumption);rw[rK,eh]at e1;simp only[bY,hi,aF,Bm,e1];refine if_pos ?_;have:=hJ p us;rw[ar];unfold big;exact aM 0#5 (ai 0#5 0#2)
section
variable {m:Nat}{T:Nat->Nat->Nat}{st:List Nat}
def se(T:Nat->Nat->Nat)(st:List Nat)(last:Nat->Option (List Nat)):Nat->Nat->List Nat->List (List Nat)
 |0,h,_=>(last h).toList
 |k+1,h,left=>(gos T st h left).flatMap λs=>(se T st last k (T h s) (left.filter λy=>!decide (y=T h s))).map λw=>s::w
theorem Bc{α β:Type}{f:α->List β}{B:Nat}:∀(l:List α),(∀x∈l,(f x).length<=B)->(l.flatMap f).length<=l.length*B
 |[],_=>by simp
 | x::l,h=>by
   have h1:=h x 0#4;have h2:=Bc l λy hy=>h y (aB _ hy);rw[List.flatMap_cons,aU,bU,qo]
   lia
structure Lft(m:Nat)(th left:List Nat):Prop where
 nd:left.Nodup
 mem:∀y,y∈left↔y<m/\y∉th
theorem Lft.kid{left:List Nat}(l:Lft m th left):Lft m (th++[x]) (left.filter λy=>!decide (y=x)):=
 ⟨l.nd.filter _,λy=>by
  rw[bw,l.mem y];simp;constructor
  .rintro ⟨⟨a,b⟩,c⟩;exact⟨a,b,c⟩
  ·rintro ⟨a,b,c⟩;exact⟨⟨a,b⟩,c⟩⟩
theorem Gb(hm:0<m):Lft m [0] (ba 1 (m-1)):=by
 refine⟨List.nodup_range',λy=>?_⟩;rw[xb];simp
 lia
theorem Ap{L:Nod->List (List Nat)}{last:Nat->Option (List Nat)}(g:Grp m T)(hs:∀s∈st,s<m)(hL:∀p:Nod,p.2≠[]->(∀x∈p.2,x<m)->L p=(last (gG p.2)).toList.map λw=>p.1++w):
  ∀(k:Nat) (p:Nod) (left:List Nat),p.2≠[]->(∀x∈p.2,x<m)->Lft m p.2 left->Bh T st L k p=(se T st last k (gG p.2) left).map λw=>p.1++w
 |0,p,left,h1,h2,l=>hL p h1 h2
 | k+1,p,left,h1,h2,l=>by
   unfold Bh se;have hh:=AH h1 h2;have hg:gos T st (gG p.2) left=st.filter λs=>!decide (T (gG p.2) s∈p.2):=by
    unfold gos;apply List.filter_congr;intro s YF;have:=g.cl _ _ hh (hs s YF);by_cases z:T (gG p.2) s∈p.2
    .have:T (gG p.2) s∉left:=λy=>((l.mem _).mp y).2 z
     simp[z,this]
    .have:T (gG p.2) s∈left:=(l.mem _).mpr ⟨this,z⟩
     simp[z,this]
   rw[hg];unfold kids;rw[List.flatMap_map,List.map_flatMap];rw[List.flatMap_def,List.flatMap_def]
   congr 1
   apply aR;intro s YF;have YF:=(bw.mp YF).1
   have ih:=Ap g hs hL k (p.1++[s],p.2++[T (gG p.2) s]) (left.filter λy => !decide (y=T (gG p.2) s)) 0#4 (λx hx=>by
    rcases aQ.mp hx with hx|hx
    .exact h2 x hx
    ·simp at hx;rw[hx];exact g.cl _ _ hh (hs s YF)) l.kid
   rw[ih];simp only[mq];rw[bq];apply aR;intro w _;simp
def qJ(m:Nat)(T:Nat->Nat->Nat)(st:List Nat)(h:Nat):Option (List Nat):=if unT m T h∈st then a_ [unT m T h] else b_
theorem By{p:Nat->Bool}{x:Nat}:∀(l:List Nat),l.Nodup->(∀s∈l,p s=decide (s=x))->l.filter p=if x∈l then [x] else []
 |[],_,_=>by simp
 | y::l,nd,h=>by
   have hy:=h y 0#4;have XF:=eg.mp nd;have ih:=By l XF.2 λs hs=>h s (aB _ hs);by_cases e:y=x
   .subst e
    rw[oX (by rw[hy];simp),ih,if_neg XF.1];simp
   .rw[oY (by rw[hy];simpa using e),ih]
    simp[eD e]
def gH(m:Nat)(T:Nat->Nat->Nat)(st:List Nat):List (List Nat):=se T st (qJ m T st) (m-1) 0 (ba 1 (m-1))
end
open PySem in
open PySem in
section
variable {m:Nat}{T:Nat->Nat->Nat}{st:List Nat}{S:Sto}
def unM:MS:=cn (mMT fj (m2 oIx 0#3 (ae 1)) (aa 1#0 ah))
end
abbrev Rds:=List (Nat×List Nat)
def kF(ks:Rds):List Nat:=ks.map Prod.fst
def h9(ks:Rds):List (_L.Key×U):=ks.map λp=>(jR (p.1:Int),U.tup (ax p.2))
variable{ks:Rds}
theorem Ht:Ax (h9 ks) (.inl (x:Int))=decide (x∈kF ks):=by
 have:Ax (h9 ks) (.inl x)=c_↔x∈kF ks:=by
  rw[rh];unfold h9 kF;constructor
  .grind
  .intro h
   obtain⟨y,hy,rfl⟩:=aw.mp h;exact⟨_,aw.mpr ⟨y,hy,rfl⟩,rfl⟩
 grind
theorem Qz(h:x∉kF ks):nu (h9 ks) (.inl (x:Int)) (.tup (ax w))=h9 (ks++[(x,w)]):=by
 unfold nu;rw[if_neg]
 .simp[h9]
 .intro z
  obtain⟨kv,hm,e⟩:=kf.mp z;have:=rh.mpr ⟨kv,hm,of_decide_eq_true e⟩;rw[Ht]at this
  grind
theorem Gj(ks:Rds):(h9 ks).length=ks.length:=by simp[h9]
theorem ve:∀(ks:Rds),dG zf (h9 ks)=a_ (dz (kF ks))
 |[]=>rfl
 | x::l=>by
   show(zf _).bind _=_;rw[show rN _ l=h9 l from rfl,ve l];rfl
def pN(ks:Rds)(x:Nat):List Nat:=((ks.find? λp=>decide (p.1=x)).map Prod.snd).getD []
theorem L9{x:Nat}:∀{ks:Rds},x∈kF ks->j0 (h9 ks) (.inl (x:Int))=a_ (.tup (ax (pN ks x)))
 |[],h=>by simp[kF]at h
 | p::ks,h=>by
   unfold j0 pN h9;rw[dw,je,je];by_cases e:p.1=x
   .simp[e]
   .have e1: ¬((jR p.1:_L.Key)=.inl x):=λz=>e (by grind)
    simp only[decide_eq_false e,decide_eq_false e1];have h':x∈kF ks:=by
     rcases aG.mp (h) with z|z
     .simp_all
     .exact z
    exact L9 h'
theorem p9{x:Nat}:∀{ks:Rds},x∈kF ks->(x,pN ks x)∈ks
 |[],h=>by simp[kF]at h
 | p::ks,h=>by
   unfold pN;rw[je];by_cases e:p.1=x
   .rw[decide_eq_true e]<;>grind
   .have h':x∈kF ks:=by
     rcases aG.mp (show x∈p.1::kF ks from h) with z|z<;>grind
    rw[decide_eq_false e];exact aB _ (p9 h')
structure Rd(T:Nat->Nat->Nat)(ths:List Nat)(ks:Rds):Prop where
 go:∀p∈ks,fD T p.2=p.1
 by':∀p∈ks,∀y∈p.2,y∈ths
 len:∀p∈ks,p.2.length<ks.length
section
variable {m:Nat}{T:Nat->Nat->Nat}{ths:List Nat}{S x:Sto}{v:U}
def jQ(S:Sto)(p:Rds×List Nat)(x:Sto):Sto:=S++[.dic (h9 p.1),.lst (ax p.2)]++x
def CS(T:Nat->Nat->Nat)(h y:Nat)(p:Rds×List Nat):Rds×List Nat:=if T h y∈kF p.1 then p else(p.1++[(T h y,pN p.1 h++[y])],p.2++[T h y])
def cvR(p:Rds×List Nat):List Nat×List Nat:=(kF p.1,p.2)
theorem LC{p:Rds×List Nat}:cvR (CS T h y p)=tryD T h y (cvR p):=by
 by_cases e:T h y∈kF p.1
 .rw[CS,if_pos e,tryD,if_pos (show T h y∈(cvR p).1 from e)]
 .rw[CS,if_neg e,tryD,if_neg (show ¬T h y∈(cvR p).1 from e)]
  simp[cvR,kF]
theorem K0{p:Rds×List Nat}(hr:Rd T ths p.1)(hh:h∈kF p.1)(hy:y∈ths):Rd T ths (CS T h y p).1:=by
 unfold CS
 split
 .omega
 .have hm:=p9 hh
  refine⟨λq hq=>?_,λq hq=>?_,λq hq=>?_⟩
  .rcases aQ.mp hq with hq|hq
   .exact hr.go q hq
   .have:=hr.go _ hm
    unfold fD at this ⊢<;>simp_all
  .rcases aQ.mp hq with hq|hq
   .exact hr.by' q hq
   .simp at hq;subst hq
    intro z hz;rcases aQ.mp hz with hz|hz
    .exact hr.by' _ hm z hz
    simp_all
  .rcases aQ.mp hq with hq|hq
   .have:=hr.len q hq;simp;exact dD 0#5
   .have:=hr.len _ hm<;>simp_all
theorem NG{S:Sto}(ha:a G S=a_ (.ref r,S1))(hb:b G S1=a_ (.int (y:Nat),S2))(hr:S2[r]?=a_ (Cell.dic kvs))(h:j0 kvs (.inl (y:Int))=a_ u):m2 oIx a b G S=a_ (u,S2):=
 op2 ha hb (by simp[oIx,gO,hr,keyOf,h])
theorem Ml{S:Sto}{i:ME}(he:e G S=a_ (u,S))(ho:o G S=a_ (.ref r,S))(hi:i G S=a_ (.int z,S))(hr:S[r]?=a_ (Cell.dic kvs))(hl:kvs.length<big):gv o i e G S=a_ (.nx,G,S.set r (.dic (nu kvs (.inl z) u))):=by
 simp[gv,he,aF,ho,hi,hr,keyOf,hl]
def yV:MS:=aY (bC 6 (m2 oIx (m2 oIx 0#3 (ae 4)) (ae 5))) (sIf (cOf (m2 md (ae 6) (ae 2))) (aY (gv (ae 2) (ae 6) (m2 eQ (m2 oIx (ae 2) (ae 4)) (iU (aa (ae 5) ah)))) (eJ (mML de (ae 3) (aa (ae 6) ah)))) dE)
def LZ:MS:=aY (bC 4 (mML Bz (ae 3) ah)) (fv 5 (dq (ae 1)) yV)
def LU:MS:=aY (bC 2 (yE 1#0 (iU ah))) (aY (bC 3 (dN (aa 1#0 ah))) (aY (nS Ma LZ) (cn (ae 2))))
def spM:MS:=cn (mFn bQ (aa (mFn fk (aa (mFn (_G.run 2 7 LU) 2#9) ah)) ah))
theorem Fu{c:Option U}{p:Rds×List Nat}(hh:h<m)(hy:y<m)(hk:h∈kF p.1)(hr:Rd T ths p.1)(l1:p.1.length<1000)(l2:p.2.length<big):
  yV (spR m T v S [a_ (.int h),a_ (.int y),c]) (jQ S p x)=a_ (.nx,spR m T v S [a_ (.int h),a_ (.int y),a_ (.int (T h y:Nat))],jQ S (CS T h y p) x):=by
 have e6:m2 _ (m2 _ 0#3 (ae 4)) (ae 5) (spR m T v S [a_ _,a_ _,c]) (jQ S p x)=a_ _:=ki hy (jo hh 0#1 0#1) 0#1;refine(aL (bh e6)).trans ?_;have ec:=zG (G:=spR m T v S [a_ (.int h),a_ (.int y),a_ _]) (a:=ae 6) (b:=ae 2) (x:=T h y) 0#1 0#1 (show(jQ S p x)[0#7]?=_ from h0);rw[Ht]at ec;unfold CS;by_cases ZI:T h y∈kF p.1
 .rw[if_pos ZI]
  rw[decide_eq_true ZI]at ec;exact kK ec
 .rw[if_neg ZI]
  rw[decide_eq_false ZI]at ec;refine(sQ ec).trans ?_;have Uy:=hr.len _ (p9 hk);have ea:m2 _ (m2 _ (ae 2) (ae 4)) (iU (aa (ae 5) _)) (spR m T v S [a_ _,a_ _,a_ (.int (T h y))]) (jQ S p x)=a_ _:=LJ (y:= [y]) (NG 0#1 0#1 (h0) (L9 hk)) (Ke 0#1) (by exact aM 0#5 1#6);have e1:=Ml (o:=ae 2) (i:=ae 6) ea 0#1 0#1 (h0) (by rw[Gj];exact ai 1#6 0#2);rw[Qz ZI,show(jQ S p x).set _ _=jQ S (p.1++[(T h y,pN _ h++[y])],p.2) x from t0]at e1;refine(aL e1).trans ?_;have e2:=append_eq (G:=spR m T v S [a_ (.int h),a_ (.int y),a_ (.int (T h y))]) (o:=ae 3) (a:=ae 6) 0#1 0#1 (show(jQ S (p.1++[(T h y,pN p.1 h++[y])],p.2) x)[0#7+1]?=_ from h1) h1 (by rw[cm];omega);rw[e2];simp[jQ,ax]
theorem Ha(g:Grp m T)(hm:m<64)(ht:∀z∈ths,z<m)(hv:Wk S v ths):∃ks S',_G.run 2 7 LU [tab m T,v] S=a_ (.ref 0#7,S')/\Ex S S'/\S'[0#7]?=a_ (.dic (h9 ks))/\Dfs m T ths (kF ks) (λ_=>False)/\Rd T ths ks:=by
 have hp:=g.pos;obtain⟨Y4,S1,e1,⟨r,ks,x,rfl,rfl,d,hr⟩⟩:=ur (b:=LZ) (λμ G S'=>∃a b c p x,G=spR m T v S [a,b,c]/\S'=jQ S p x/\Di m T ths (kF p.1) p.2 μ/\μ<1000/\Rd T ths p.1)
  (λG S' =>∃r ks x,G=spR m T v S r/\S'=jQ S (ks,[]) x/\Dfs m T _ (kF ks) _/\Rd T _ ks) (by
  rintro μ G S' ⟨a,b,c,p,x,rfl,rfl,s,Z2,hr⟩;have ec:Ma (spR m T v S [a,b,c]) (jQ S p x)=a_ _:=of_eq (Fz (tV 0#1 h1) c_i);refine⟨_,_,ec,λhf=>?_,λhf=>?_⟩
  .have h2:p.2=[]:=by
    have:=of_decide_eq_false hf;rw[cm]at this<;>simp_all
   refine⟨_,_,x,rfl,by rw[<-h2],?_,hr⟩;have:=s.d;rw[h2]at this;exact⟨this.nd,this.lt,this.z,this.rc,λx hx=>(this.cl x hx).imp 0#4 id⟩
  .have h2:p.2≠[]:=λe=>by rw[e]at hf;simp[ax]at hf
   obtain⟨st,h,e⟩:=qO h2;obtain⟨ks,s2⟩:=p;subst e;cases μ with
   |zero=>have:=s.ms;simp at this
   |succ μ=>
   have e4:bC 4 (mML Bz (ae 3) ah) (spR m T v S [a,b,c]) (jQ S (ks,st++[h]) x)=a_ (.nx,spR m T v S [a_ (.int h),b,c],jQ S (ks,st) x):=by
    rw[bh (LD (S:=jQ S _ x) 0#1 h1)];rw[show(jQ S (ks,st++[h]) x).set _ _=jQ S (ks,st) x from t1];rfl
   obtain⟨b',c',q,e5,i,hq⟩:=(show ∃b' c' q,fv 5 (dq (ae 1)) yV (spR m T v S [a_ (.int h),b,c]) (jQ S ((ks,st)) x)=a_ (.nx,spR m T v S [a_ (.int h),b',c'],jQ S q x)/\Inn m T ths h ths.length (cvR q) μ/\Rd T ths q.1 by
     have hh:=s.pop.d.lt h s.pop.hk;have stp:∀(k:Nat) (u:U) (G:Rho) (S':Sto),(ax ths)[k]?=a_ u->(∃b c q,S'=jQ S q x/\G=spR m T v S [a_ (.int h),b,c]/\Inn m T ths h k (cvR q) μ/\Rd T ths q.1)->∃Y4 Yh,yV (G.set 5 (a_ u)) S'=a_ (.nx,Y4,Yh) /\ ∃b c q,Yh=jQ S q x/\Y4=spR m T v S [a_ (.int h),b,c]/\Inn m T ths h (k+1) (cvR q) μ/\Rd T ths q.1:=by
      rintro k u G S' hu ⟨b,c,q,rfl,rfl,q3,q4⟩;obtain⟨y,hy,rfl⟩:=kn hu;have l:=q3.st_le (by exact aI 0#5) hm;have YD:=bK hy;have l1:q.1.length<1000:=by have:=q3.d.len;simp[cvR,kF]at this;exact aM 1#6 (ai 1#6 0#2)
      refine⟨_,_,Fu hh (ht y YD) q3.hk q4 l1 l.2,_,_,_,rfl,rfl,?_,K0 q4 q3.hk YD⟩;rw[LC];exact q3.try g ht hy
     rcases hv with rfl|⟨r,rfl,ZZ,hl⟩
     .obtain⟨Y4,S',e,b',c',q,rfl,rfl,q3,q4⟩:=sP (e:=ae 1) 0#1 _ ⟨b,c,((ks,st)),rfl,rfl,s.pop,hr⟩ stp
      rw[cm]at q3;exact⟨b',c',q,e,q3,q4⟩
     .have Uy:=(ag.mp ZZ).1
      obtain⟨Y4,S',e,b',c',q,rfl,rfl,q3,q4⟩:=vD (e:=ae 1) 0#1 (by rw[cm];exact ai 1#6 0#2) _ ⟨b,c,((ks,st)),rfl,rfl,s.pop,hr⟩
       (by
        rintro k G S' ⟨b,c,q,rfl,_⟩;unfold getL jQ
        rw[bz,aT Uy,ZZ]) stp
      rw[cm]at q3
      exact⟨b',c',q,e,q3,q4⟩)
   exact⟨_,_,μ,bV _,(aL e4).trans e5,_,_,_,q,x,rfl,rfl,i.done,by exact aI (by assumption),hq⟩) fuel _ (spR m T v S [b_,b_,b_]) _ (by unfold fuel;lia) ⟨_,_,_,([(0,[])],[0]),[],rfl,rfl,Di.start hp,by lia,⟨λp hp=>by simp at hp;subst hp;rfl,λp hp=>by simp_all,λp hp=>by simp_all⟩⟩
 refine⟨ks,_,cK (G:=spR m T v S r) rfl ?_,?_,(show(jQ S (ks,[]) x)[0#7]?=_ from h0),d,hr⟩
 .have ed:yE 1#0 (iU ah) [0#8,a_ v,b_,b_,b_,b_,b_] S=a_ (.ref 0#7,S++[.dic (h9 [(0,[])])]):=by
   simp[yE,mC,iU,ah,aF,keyOf,h9,ax]
  refine(aL (bh ed)).trans ((aL (bh (EW c_i))).trans ?_);refine(aL ?_).trans (cz 0#1);rw[<-e1];simp[nS,jQ,spR,ax]
 .unfold jQ;rw[bz];exact⟨_,rfl⟩
theorem M4(g:Grp m T)(hm:m<64)(ht:∀z∈ths,z<m)(hv:Wk S v ths):∃ks S',_G.run 2 2 spM [tab m T,v] S=a_ (.tup (ax (srt ks)),S')/\Ex S S'/\Dfs m T ths ks λ_=>False:=by
 obtain⟨ks,S1,e1,x1,q1,d,_⟩:=Ha g hm ht hv;have hl:=aM d.len hm;have e2:mFn _ (aa (mFn _ (aa 0#3 (aa (ae 1) _))) _) [a_ _,a_ v] S=a_ _:=fI (cP 0#1 0#1 e1) (wK (by simp[vF,gO,q1,ve]) hl);exact⟨_,_,cK rfl (cz (fh e2)),x1.trans (Ex.push _ _),d⟩
end
theorem Im{α β γ:Sort _}{f:α->β->γ}{a a':α}{b b':β}(h1:a=a')(h2:b=b'):f a b=f a' b':=by rw[h1,h2]
section
variable {m:Nat}{T:Nat->Nat->Nat}
abbrev Lt(m:Nat)(w:List Nat):Prop:= ∀x∈w,x<m
theorem Lt.tk{a:List Nat}(ha:Lt m a)(k:Nat):Lt m (a.take k):=λx hx=>ha x (eW hx)
theorem xR(g:Grp m T)(hw:Lt m w):fD T w<m:=(by
  unfold fD;have:∀(w:List Nat) (a:Nat),a<m->(∀x∈w,x<m)->w.foldl T a<m:=by
   intro w
   induction w with
   |nil=>intro a ha _;exact ha
   |cons x w ih=>intro a ha h;exact ih _ (g.cl a x ha (h x 0#4)) λy hy=>h y (by simp[hy])
  exact this w 0 g.pos hw)
theorem zF(g:Grp m T):∀(w:List Nat) (x:Nat),x<m->Lt m w->w.foldl T x=T x (fD T w)
 |[],x,hx,_=>by show x=T x 0;rw[g.r0 x hx]
 | y::w,x,hx,h=>by
   have hy:y<m:=h y 0#4;have hw:Lt m w:=λz hz=>h z (aB _ hz);show w.foldl T (T x y)=T x (w.foldl T (T 0 y));rw[zF g w _ (g.cl x y hx hy) hw,g.l0 y hy,zF g w y hy hw,g.as x y _ hx hy (xR g hw)]
theorem si(g:Grp m T)(hx:x<m)(hw:Lt m w):fD T (x::w)=T x (fD T w):=by
 show w.foldl T (T 0 x)=_;rw[g.l0 x hx];exact zF g w x hx hw
theorem lM:fD T (w++[x])=T (fD T w) x:=by unfold fD;simp_all
theorem g9(g:Grp m T)(hx:x<m):unT m T x<m:=(j6 g hx).1
theorem LH(g:Grp m T)(hx:x<m):T x (unT m T x)=0:=(j6 g hx).2.1
theorem M9(g:Grp m T)(hx:x<m):T (unT m T x) x=0:=(j6 g hx).2.2.1
theorem DX(g:Grp m T)(hx:x<m)(hy:y<m)(h:T x y=0):y=unT m T x:=(j6 g hx).2.2.2 y hy h
theorem DN(g:Grp m T)(hx:x<m):unT m T (unT m T x)=x:=(DX g (g9 g hx) hx (M9 g hx)).symm
theorem Iq(g:Grp m T)(hx:x<m)(hy:y<m):unT m T (T x y)=T (unT m T y) (unT m T x):=by
 have h1:=g9 g hx;have h2:=g9 g hy;refine(DX g (g.cl _ _ hx hy) (g.cl _ _ h2 h1) ?_).symm;rw[g.as x y _ hx hy (g.cl _ _ h2 h1),<-g.as y _ _ hy h2 h1,LH g hy,g.l0 _ h1,LH g hx]
theorem HG(g:Grp m T):unT m T 0=0:=(DX g g.pos g.pos (g.l0 0 g.pos)).symm
def bk(m:Nat)(T:Nat->Nat->Nat)(w:List Nat):List Nat:=w.reverse.map (unT m T)
theorem Ck:(bk m T w).length=w.length:=by simp[bk]
theorem uy(g:Grp m T):∀{w:List Nat},Lt m w->fD T (bk m T w)=unT m T (fD T w)
 |[],_=>(HG g).symm
 | x::w,h=>by
   have hx:x<m:=h x 0#4;have hw:Lt m w:=λz hz=>h z (aB _ hz);have e:bk m T (x::w)=bk m T w++[unT m T x]:=by simp[bk]
   rw[e,lM,uy g hw,si g hx hw,Iq g hx (xR g hw)]
theorem lH:plc T (w++[x])=plc T w++[T (fD T w) x]:=by
 unfold plc;rw[aU,bU,Aj,eI,bL];refine Im (aR λk hk=>?_) ?_
 .grind
 .show [fD T _]=_
  rw[cR 0#4,lM]
theorem Ka:(plc T w).length=w.length+1:=by simp[plc]
theorem zZ(g:Grp m T)(hw:Lt m w):Lt m (plc T w):=λx hx=>by
 obtain⟨k,_,rfl⟩:=aw.mp hx;exact xR g (hw.tk k)
theorem Ja(g:Grp m T):∀{w:List Nat},Lt m w->plc T (bk m T w)=(plc T w).reverse.map (T (unT m T (fD T w)))
 | [],_=>by
   show [0]=[T (unT m T 0) 0];rw[HG g,g.l0 0 g.pos]
 | x::w,h=>by
   have hx:x<m:=h x 0#4;have hw:Lt m w:=λz hz=>h z (aB _ hz);have e:bk m T (x::w)=bk m T w++[unT m T x]:=by simp[bk]
   have hc:=xR g hw;have hu:=g9 g hc;have V1:=g9 g hx
   rw[e,lH,Ja g hw,(show plc T (x::w)=0::(plc T w).map (T x) by
     unfold plc;rw[bU,GG,dw,bq,bq];refine Im rfl (aR λk _=>?_);show fD T (x::w.take k)=_
     exact si g hx (hw.tk k)),uy g hw,si g hx hw,Iq g hx hc,wZ,bL,<- List.map_reverse,bq]
   refine Im (aR λy hy=>?_) ?_
   .have hy:y<m:=zZ g hw y (dP.mp hy)
    show _=T (T (unT m T (fD T w)) (unT m T x)) (T x y);rw[g.as _ _ _ hu V1 (g.cl _ _ hx hy),<-g.as _ _ _ V1 hx hy,M9 g hx,g.l0 y hy]
   .show _=[T (T (unT m T (fD T w)) (unT m T x)) 0]
    rw[g.r0 _ (g.cl _ _ hu V1)]
def pre(T:Nat->Nat->Nat)(w:List Nat):List Nat:=(ao w.length).map λk=>fD T (w.take k)
theorem kU:plc T w=pre T w++[fD T w]:=by
 unfold plc pre;rw[eI];simp
theorem EB:(pre T w).length=w.length:=by simp[pre]
structure All(m:Nat)(l:List Nat):Prop where
 nd:l.Nodup
 lt:Lt m l
 len:l.length=m
theorem All.mem(h:All m l)(hx:x<m):x∈l:=by
 apply ij;intro z;have:=sH m (x::l) (eg.mpr ⟨z,h.nd⟩) (λy hy=>(aG.mp hy).elim (λe=>e▸hx) (h.lt y));have:=h.len;simp at *
 lia
theorem All.perm(h:All m l):l.Perm (ao m):=
 (fC h.nd ke).mpr λx=>⟨λhx=>aA.mpr (h.lt x hx),λhx=>h.mem (aA.mp hx)⟩
theorem All.of(h:l.Perm (ao m)):All m l:=
 ⟨h.nodup_iff.mpr ke,λx hx=>aA.mp (h.mem_iff.mp hx),by have:=h.length_eq;simpa using this⟩
theorem All.congr{a b:List Nat}(h:All m a)(p:b.Perm a):All m b:=All.of (p.trans h.perm)
theorem All.map(h:All m l)(lt:∀x,x<m->f x<m)(inj:∀x y,x<m->y<m->f x=f y->x=y):All m (l.map f):=by
 refine⟨?_,λx hx=>?_,by simp[h.len]⟩
 .rw[ay,aW]
  exact bM (λha hb ZU e=>ZU (inj _ _ (h.lt _ ha) (h.lt _ hb) e)) (ay.mp h.nd)
 .obtain⟨y,hy,rfl⟩:=aw.mp hx
  exact lt y (h.lt y hy)
theorem All.unmap(h:All m (l.map f))(lt:Lt m l):All m l:=by
 refine⟨?_,lt,by have:=h.len;simpa using this⟩;have:=h.nd;rw[ay,aW]at this;rw[ay];exact this.imp λhn e=>hn (by rw[e])
structure Rnd(m:Nat)(T:Nat->Nat->Nat)(w:List Nat):Prop where
 home:fD T w=0
 all:All m (pre T w)
theorem Rnd.bk(g:Grp m T){w:List Nat}(hw:Lt m w)(h:Rnd m T w):Rnd m T (bk m T w):=by
 refine⟨by rw[uy g hw,h.home,HG g],?_⟩;have e:=Ja g hw;rw[h.home,HG g]at e;have e2:(plc T w).reverse.map (T 0)=(plc T w).reverse:=by
  have:(plc T w).reverse.map (T 0)=(plc T w).reverse.map id:=aR λx hx=>g.l0 x (zZ g hw x (dP.mp hx));rw[this,rO]
 rw[e2,kU,kU,uy g hw,h.home,HG g,tZ]at e;have hp:=h.all.perm;cases q:pre T w with
 |nil=>have:=h.all.len;rw[q]at this;have:=g.pos;simp at *;lia
 | cons x l=>
   have hx:x=0:=by
    have hl:0<w.length:=by have:=EB (T:=T) (w:=w);rw[q]at this;simp at this;lia
    have:(pre T w)[0]?=a_ 0:=by
     unfold pre;rw[a9,ua hl];rfl
    rw[q]at this;simpa using this
   rw[q,hx]at e;have e3:pre T (_W.bk m T w)++[0]=(0::l.reverse)++[0]:=by rw[e];simp
   have e4:pre T (_W.bk m T w)=0::l.reverse:=(List.append_inj_left' e3 rfl);rw[e4];have h2:=h.all;rw[q,hx]at h2;exact h2.congr ((mY l).cons 0)
theorem LA{o p:Nat->Nat}(g:Grp m T)(h:Ord m o p):p 0=0:=by have:=h.po 0 g.pos;rwa[h.o0]at this
theorem za{o p:Nat->Nat}(g:Grp m T)(h:Ord m o p):∀(w:List Nat) (x:Nat),x<m->Lt m w->(w.map p).foldl (ib T o p) (p x)=p (w.foldl T x)
 |[],x,_,_=>rfl
 | y::w,x,hx,hw=>by
   have hy:y<m:=hw y 0#4;show(w.map p).foldl (ib T o p) (ib T o p (p x) (p y))=_;rw[(show ib T o p (p x) (p y)=p (T x y) by unfold ib;rw[h.op x hx,h.op y hy])];exact za g h w _ (g.cl x y hx hy) λz hz=>hw z (aB _ hz)
theorem De{o p:Nat->Nat}(h:Ord m o p)(hx:x<m)(hy:y<m)(e:p x=p y):x=y:=by rw[<-h.op x hx,<-h.op y hy,e]
structure Gd(T:Nat->Nat->Nat)(st:List Nat)(p:Nod):Prop where
 pl:p.2=plc T p.1
 nd:p.2.Nodup
 by':∀x∈p.1,x∈st
theorem lK:gG (plc T w)=fD T w:=by rw[kU,mq]
theorem DP{st:List Nat}{L:Nod->List (List Nat)}:∀(k:Nat) (p:Nod) (w:List Nat),Gd T st p->w∈Bh T st L k p->∃q:Nod,Gd T st q/\q.1.length=p.1.length+k/\w∈L q
 |0,p,w,h,e=>⟨p,h,rfl,e⟩
 | k+1,p,w,h,e=>by
   obtain⟨q,hq,e⟩:=kg.mp (e);obtain⟨s,hs,rfl⟩:=aw.mp hq;have hl:gG p.2=fD T p.1:=by rw[h.pl,lK]
   have gd:Gd T st (p.1++[s],p.2++[T (gG p.2) s]):=by
    refine⟨?_,?_,λx hx=>?_⟩
    .rw[lH,hl,<-h.pl]
    .rw[eF]
     exact⟨h.nd,by simp,λa ha b hb=>by grind⟩
    .rcases aQ.mp hx with hx|hx
     .exact h.by' x hx
     grind
   obtain⟨q,g1,g2,g3⟩:=DP k _ w gd e
   grind
theorem BE{st w:List Nat}(g:Grp m T)(hs:Lt m st)(h:w∈Bh T st (NB T st) (m-1) ([],[0])):Rnd m T w/\(∀x∈w,x∈st)/\w.length=m:=by
 obtain⟨q,g1,g2,g3⟩:=DP _ _ _ ⟨rfl,by simp,by simp⟩ h;obtain⟨s,WD,rfl⟩:=aw.mp g3;obtain⟨WD,Zm⟩:=bw.mp WD;have hl:gG q.2=fD T q.1:=by rw[g1.pl,lK]
 rw[hl]at Zm;have Zm:=of_decide_eq_true Zm;have hp:=g.pos;have hlen:=by simpa using g2
 have U7:=λx hx=>hs x (g1.by' x hx);refine⟨⟨by rw[lM];omega,?_⟩,λx hx=>?_,by simp;omega⟩
 .have:pre T (q.1++[s])=plc T q.1:=by
   unfold pre plc;rw[aU];refine aR λk hk=>?_;have:=aA.mp hk;rw[List.take_append_of_le_length (by exact d6 1#6)]
  rw[this];exact⟨by rw[<-g1.pl];exact g1.nd,zZ g U7,by rw[Ka];omega⟩
 .rcases aQ.mp hx with hx|hx
  .exact g1.by' x hx
  grind
end
theorem zI{x y:Bool}(ha:a G S=a_ (.bl x,S1))(hb:x=c_->b G S1=a_ (.bl y,S2))(hf:x=d_->S2=S1):j7 a b G S=a_ (.bl (x&&y),S2):=by
 cases x with
 |true=>simp[j7,ha,aF,hb _]
 |false=>simp[j7,ha,aF,hf _]
theorem wC{x y:Bool}(ha:a G S=a_ (.bl x,S1))(hb:b G S1=a_ (.bl y,S2))(x1:Ex S S1)(x2:Ex S1 S2):∃S',j7 a b G S=a_ (.bl (x&&y),S')/\Ex S S':=by
 cases x with
 |true=>exact⟨S2,zI ha (λ_=>hb) (λz=>by cases z),x1.trans x2⟩
 |false=>exact⟨S1,zI ha (λz=>by cases z) (λ_=>rfl),x1⟩
theorem AE{α:Type}{f:α->Bool}:∀l:List α,dG zW (l.map λx=>U.bl (f x))=a_ (l.map f)
 |[]=>rfl
 | x::l=>by
   show(zW _).bind _=_;rw[AE l];rfl
theorem Jt{α:Type}{f:α->Bool}{l:List α}(ha:a G S=a_ (.ref r,S1))(hr:S1[r]?=a_ (.lst (l.map λx=>U.bl (f x)))):mFn xA (aa a ah) G S=a_ (.bl (l.all f),S1):=by
 refine fI ha ?_;simp only[xA,getL,hr,aO,AE]
 simp_all
theorem Se{x y:List Nat}(ha:a G S=a_ (.tup (ax x),S1))(hb:b G S1=a_ (.tup (ax y),S2)):m2 oEq a b G S=a_ (.bl (decide (x=y)),S2):=
 op2 ha hb (by simp[oEq,DZ])
theorem yI(m:Nat):srt (ao m)=ao m:=by
 have h:dz (ao m)=nG (dz (ao m)):=ny (List.Perm.refl _) (by
  unfold dz;rw[aW]
  exact(eG (n:=m)).imp λh=>by lia)
 unfold srt;rw[<-h];exact pZ _
theorem J9:decide (srt l=ao m)=c_↔All m l:=by
 rw[decide_eq_true_iff];constructor
 .intro h
  exact All.of ((lL l).symm.trans (by rw[h]))
 .intro h
  rw[oA h.perm,yI]
theorem G2:srt (srt l)=srt l:=oA (lL l)
section
variable {m:Nat}{T:Nat->Nat->Nat}{st w:List Nat}{S:Sto}
def nbM:MS:=cn (j7 (m1 (r9 "int") 0#3) (j7 (m1 xi (m1 (r9 "bool") 0#3)) (mCh oLe oLt 1#0 0#3 (ae 1))))
theorem Qg:_G.run 2 2 nbM [.int (x:Nat),.int (n:Nat)] S=a_ (.bl (decide (x<n)),S):=by
 have h1:m1 (r9 "int") 0#3 [a_ (.int x),a_ (.int n)] S=a_ _:=rfl;have h2:m1 xi (m1 (r9 "bool") 0#3) [a_ (.int x),a_ (.int n)] S=a_ _:=rfl;have h3:mCh oLe oLt 1#0 0#3 (ae 1) [a_ (.int x),a_ (.int n)] S=a_ (.bl (decide (x<n)),S):=by
  have v0:ae 0 [a_ (.int x),a_ (.int n)] S=a_ _:=rfl;have v1:ae 1 [a_ (.int x),a_ (.int n)] S=a_ _:=rfl;have l:oLe (.int 0) (.int x) S=a_ (.bl c_,S):=by
   show a_ _=_<;>simp_all
  have l2:oLt (.int x) (.int n) S=a_ (.bl (decide (x<n)),S):=by
   show a_ _=_;simp
  simp[mCh,mC,aF,v0,l,v1,l2]
 exact zI h1 (λ_=>zI h2 (λ_=>h3) (λz=>by cases z)) (λz=>by cases z)
def MU:MS:=cn (j7 (m1 (r9 "tuple") 0#3) (mFn xA (aa (bY (dq 0#3) cTT (mFn (_G.run 2 2 nbM) (aa (ae 2) (aa (ae 1) ah)))) ah)))
theorem nI{S:Sto}{l:List Nat}{f:Nat->U}(ha:a G S=a_ (.tup (ax l),S))(hl:l.length<10000000)(he:∀x∈l,e (G++[a_ (.int x)]) S=a_ (f x,S)):bY (dq a) cTT e G S=a_ (.ref 0#7,S++[.lst (l.map f)]):=by
 have h:=uT (t:=cTT) ha (by exact ai 1#6 0#2) (λ_ _=>rfl) (λx hx _=>he x hx);rwa[ub.mpr (λ_ _=>rfl)]at h
def wbM:MS:=cn (j7 (mFn (_G.run 2 2 MU) (aa (ae 2) (aa (mFn cp (aa 0#3 ah)) ah))) (mFn xA (aa (bY (dq (ae 2)) cTT (m2 oIn (ae 3) (ae 1))) ah)))
theorem Rb(hl:w.length<10000000)(hw:Lt m w):∃S',_G.run 3 3 wbM [tab m T,.tup (ax st),.tup (ax w)] S=a_ (.bl (w.all λx=>decide (x∈st)),S')/\Ex S S':=by
 obtain⟨S1,e1,x1⟩:=(show ∃S',_G.run 2 2 MU [.tup (ax w),.int (m:Nat)] S=a_ (.bl (w.all λx=>decide (x<m)),S')/\Ex S S' by
   have h1:m1 _ 0#3 [2#8,a_ (.int m)] S=a_ _:=isT 0#1;have h2:=nI (e:=mFn _ (aa (ae 2) (aa (ae 1) _))) (G:= [a_ _,a_ (.int m)]) (S:=S) (a:=ae 0) 0#1 hl (λx _=>cP 0#1 0#1 Qg);obtain⟨S',e,x⟩:=wC h1 (Jt h2 (b9 _ _)) (Ex.refl _) (Ex.push _ _)
   exact⟨S',cK rfl (cz (e.trans (by rw[Bool.true_and]))),x⟩)
 have ht:(w.all λx=>decide (x<m))=c_:=dc.mpr λx hx=>decide_eq_true (hw x hx);rw[ht]at e1;have h1:mFn (_G.run 2 2 MU) (aa (ae 2) (aa (mFn cp (aa 0#3 ah)) ah)) [0#8,a_ (.tup (ax st)),2#8] S=a_ (.bl c_,S1):=cP 0#1 (len_tab 0#1) e1;have h2:=nI (e:=m2 oIn (ae 3) (ae 1)) (G:= [0#8,a_ (.tup (ax st)),2#8]) (S:=S1) (a:=ae 2) (l:=w) (f:=λx=>.bl (decide (x∈st))) 0#1 hl (λx _=>(op2 0#1 0#1 (by simp[oIn,gO,iE,eA,xP,K8])));obtain⟨S',e,x⟩:=wC h1 (Jt h2 (b9 _ _)) x1 (Ex.push _ _);exact⟨S',cK (G:= [0#8,a_ (.tup (ax st)),2#8]) rfl (cz (e.trans (by rw[Bool.true_and]))),x⟩
def OG:MS:=cn (m2 oEq (mFn bQ (aa (mFn fk (aa (ae 1) ah)) ah)) (mFn (_G.run 1 1 atM) (aa 0#3 ah)))
def plM:MS:=aY (bC 2 (dN (aa 1#0 ah))) (aY (fv 3 (dq (ae 1)) (eJ (mML de (ae 2) (aa (m2 oIx (m2 oIx 0#3 (m2 oIx (ae 2) (m1 mn 1#4))) (ae 3)) ah)))) (cn (mFn bQ 1#8)))
theorem L7(g:Grp m T)(hw:Lt m w)(hl:w.length<10000000):∃S',_G.run 2 4 plM [tab m T,.tup (ax w)] S=a_ (.tup (ax (plc T w)),S')/\Ex S S':=by
 have V0:dN (aa 1#0 ah) [0#8,2#8,b_,b_] S=a_ (.ref 0#7,S++[Cell.lst [.int 0]]):=EW rfl;obtain⟨Y5,S1,e1,⟨x,rfl⟩,q1,q2⟩:=sP (i:=3) (b:=eJ (mML de (ae 2) (aa (m2 oIx (m2 oIx 0#3 (m2 oIx (ae 2) (m1 mn 1#4))) (ae 3)) ah))) (e:=ae 1)
  (G:= [0#8,2#8,2#0,b_]) (S:=S++[Cell.lst [.int 0]]) (S1:=S++[Cell.lst [.int 0]]) (us:=ax w) 0#1
  (λk G S'=>(∃x,G=[0#8,2#8,2#0,x])/\Ex S S'/\S'[0#7]?=a_ (Cell.lst (ax ((ao (k+1)).map λi=>fD T (w.take i)))))
  ⟨⟨b_,rfl⟩,Ex.push _ _,by rw[b9];simp[ax,fD]⟩
  (by
   rintro k u G S' hu ⟨⟨x,rfl⟩,q1,q2⟩;obtain⟨y,hy,rfl⟩:=kn hu;have YD:y<m:=hw y (bK hy);have Wz:fD T (w.take k)<m:=xR g (hw.tk k);have Wo:atI (ax ((ao (k+1)).map λi=>fD T (w.take i))) (-1)=a_ (.int (fD T (w.take k))):=by
    unfold ax;rw[bq];exact G0
   have ev:m2 oIx (m2 oIx 0#3 (m2 oIx (ae 2) (m1 mn 1#4))) (ae 3) [0#8,2#8,2#0,a_ (.int y)] S'=a_ (.int (T (fD T (w.take k)) y),S'):=
    ki YD (jo Wz 0#1 (Bt 0#1 P5 q2 Wo)) 0#1
   have hkl:k<w.length:=(ag.mp hy).1;refine⟨_,_,append_eq 0#1 ev q2 q2 (by simp[ax];unfold big;exact aM 0#5 (ai 0#5 0#2)),⟨_,rfl⟩,q1.set (ak _),?_⟩;rw[aV (ag.mp q2).1];rw[eI (n:=k+1),bL]
   simp[ax,Ft hy])
 rw[cm]at q2;refine⟨S1,cK (G:= [0#8,2#8,2#0,x]) rfl ?_,q1⟩;show plM [0#8,2#8,b_,b_] S=_;exact(aL (bh V0)).trans ((aL e1).trans (cz (kA 0#1 q2)))
theorem HE{α:Type}{xs:List α}{y:α}:cut (xs++[y]) b_ (a_ (-1))=xs:=by
 unfold cut;have h1:HT.sIx (xs++[y]).length 0 b_=0:=rfl;have h2:HT.sIx (xs++[y]).length (xs++[y]).length (a_ (-1))=1#2:=by
  unfold HT.sIx;simp
  lia
 rw[h1,h2];simp
theorem KH{S:Sto}(ha:a G S=a_ (.tup (ax (l++[x])),S1)):mSl a b_ (a_ (m1 mn 1#4)) G S=a_ (.tup (ax l),S1):=by
 have e:ax (l++[x])=ax l++[.int x]:=by simp[ax]
 rw[e]at ha;have n1:m1 mn 1#4 G S1=a_ _:=rfl;simp[mSl,ha,aF,Bo,n1,HE]
def crM:MS:=aY (bC 2 (mFn (_G.run 2 4 plM) 2#9)) (cn (j7 (m2 oEq (m2 oIx (ae 2) (m1 mn 1#4)) 1#0) (mFn (_G.run 2 2 OG) (aa 0#3 (aa (mSl (ae 2) b_ (a_ (m1 mn 1#4))) ah)))))
theorem OX(g:Grp m T)(hm:m<1000)(hw:Lt m w)(hl:w.length<63):∃S',_G.run 2 3 crM [tab m T,.tup (ax w)] S=a_ (.bl (decide (fD T w=0)&&decide (srt (pre T w)=ao m)),S')/\Ex S S':=by
 obtain⟨S1,e1,x1⟩:=L7 (S:=S) g hw (by exact ai 0#5 0#2);obtain⟨S2,e2,x2⟩:=(show ∃S',_G.run 2 2 OG [tab m T,.tup (ax (pre T w))] S1=a_ (.bl (decide (srt (pre T w)=ao m)),S')/\Ex S1 S' from⟨_,cK rfl (cz (Se (fh ((fI 0#1 (wK (by simp[vF,gO,eA,lZ]) (by rw[EB];exact ai 0#5 0#2))))) (fI 0#1 (IU hm)))),Ex.push _ _⟩)
 have h1:m2 oEq (m2 oIx (ae 2) (m1 mn 1#4)) 1#0 [0#8,2#8,a_ (.tup (ax (plc T w)))] S1=a_ (.bl (decide (fD T w=0)),S1):=Fy (y:=0) (Al 0#1 P5 ((by
   have:=Ku (th:=plc T w) (by rw[kU];simp);rw[lK]at this
   omega))) c_i
 have h2:mFn (_G.run 2 2 OG) (aa 0#3 (aa (mSl (ae 2) b_ (a_ (m1 mn 1#4))) ah)) [0#8,2#8,a_ (.tup (ax (plc T w)))] S1=a_ (.bl (decide (srt (pre T w)=ao m)),S2):=cP 0#1 (KH (l:=pre T w) (x:=fD T w) (by rw[<-kU];exact var_eq rfl)) e2;obtain⟨S',e,x⟩:=wC h1 h2 (Ex.refl _) x2;refine⟨S',cK (G:= [0#8,2#8,a_ (.tup (ax (plc T w)))]) rfl ?_,x1.trans x⟩;show crM [0#8,2#8,b_] S=_;exact(aL (bh (cP 0#1 0#1 e1))).trans (cz e)
def irM:MS:=cn (j7 (mFn (_G.run 3 3 wbM) (aa 0#3 (aa (ae 1) 1#8))) (j7 (m2 oGe (mFn cp 1#8) 1#7) (mFn (_G.run 2 3 crM) (aa 0#3 1#8))))
theorem Rr(g:Grp m T)(hm:m<1000)(hw:Lt m w)(hl:w.length<63)(h2:2<=w.length)(hs:∀x∈w,x∈st)(h:Rnd m T w):∃S',_G.run 3 3 irM [tab m T,.tup (ax st),.tup (ax w)] S=a_ (.bl c_,S')/\Ex S S':=by
 obtain⟨S',e,x⟩:=(show ∃S',_G.run 3 3 irM [tab m T,.tup (ax st),.tup (ax w)] S=a_ (.bl ((w.all λx=>decide (x∈st))&&(decide (2<=w.length)&&(decide (fD T w=0)&&decide (srt (pre T w)=ao m)))),S')/\Ex S S' by
   obtain⟨S1,e1,x1⟩:=Rb (S:=S) (T:=T) (st:=st) (by exact ai 0#5 0#2) hw;have h2:m2 oGe (mFn cp 1#8) 1#7 [0#8,a_ (.tup (ax st)),2#8] S1=a_ (.bl (decide (2<=w.length)),S1):=by
    have:=QU (G:= [0#8,a_ (.tup (ax st)),2#8]) (S:=S1) (a:=mFn cp 1#8) (b:=mC (.int 2)) (AR 0#1) c_i;rw[this,cm]
    congr 2
    simp
    lia
   obtain⟨S2,e2,x2⟩:=OX (S:=S1) g hm hw hl;obtain⟨S3,e3,x3⟩:=wC (G:= [0#8,a_ (.tup (ax st)),2#8]) (b:=mFn (_G.run 2 3 crM) (aa 0#3 1#8)) h2 (cP 0#1 0#1 e2) (Ex.refl _) x2;obtain⟨S',e,x⟩:=wC (G:= [0#8,a_ (.tup (ax st)),2#8]) (a:=mFn (_G.run 3 3 wbM) (aa 0#3 (aa (ae 1) 1#8))) (kj 0#1 0#1 0#1 e1) e3 x1 x3
   exact⟨S',cK (G:= [a_ (tab m T),a_ (.tup (ax st)),a_ (.tup (ax w))]) rfl (cz e),x⟩)
 refine⟨S',?_,x⟩;rw[e,J9.mpr h.all,dc.mpr λx hx=>decide_eq_true (hs x hx),decide_eq_true h2,decide_eq_true h.home];rfl
def usM:MS:=cn (mFn bQ (aa (mFn fk (aa (bY (dq (ae 1)) cTT (mFn (_G.run 2 2 unM) (aa 0#3 1#8))) ah)) ah))
theorem Qc(g:Grp m T)(hs:Lt m st)(hl:st.length<64):∃S',_G.run 2 2 usM [tab m T,.tup (ax st)] S=a_ (.tup (ax (srt (st.map (unT m T)))),S')/\Ex S S':=by
 have h:=nI (e:=mFn (_G.run 2 2 unM) (aa 0#3 1#8)) (G:= [0#8,a_ (.tup (ax st))]) (S:=S) (a:=ae 1) (l:=st) (f:=λx=>.int (unT m T x:Nat)) 0#1 (by exact ai 0#5 0#2) (λx hx=>cP 0#1 0#1 (vH g (hs x hx)));rw[show(st.map λx=>U.int (unT m T x:Nat))=ax (st.map (unT m T)) by simp[ax]]at h;exact⟨_,cK (G:= [0#8,a_ (.tup (ax st))]) rfl (cz (fh (q8 h (b9 _ _) (by rw[ar];exact hl)))),(Ex.push _ _).trans (Ex.push _ _)⟩
def bkM:MS:=cn (mFn bQ (aa (bY (Dj (aa (ae 1) ah)) cTT (mFn (_G.run 2 2 unM) (aa 0#3 1#8))) ah))
theorem Qj(g:Grp m T)(hw:Lt m w)(hl:w.length<10000000):∃S',_G.run 2 2 bkM [tab m T,.tup (ax w)] S=a_ (.tup (ax (bk m T w)),S')/\Ex S S':=by
 have hi:Dj (aa (ae 1) ah) [0#8,2#8] S=a_ (.imm (ax w.reverse),S):=by
  have v:ae 1 [0#8,2#8] S=a_ (.tup (ax w),S):=rfl;simp only[Dj,aa,ah,v,aF];simp[ax]
 have h1:∀u∈ax w.reverse,mFn (_G.run 2 2 unM) (aa 0#3 1#8) ([0#8,2#8]++[a_ u]) S=a_ ((λu=>match u with | .int i=>.int (unT m T i.toNat:Nat) |_=>.non) u,S):=λu hu=>by
  obtain⟨x,hx,rfl⟩:=aw.mp hu;have hx:=hw x (dP.mp hx);have:=cP (f:=_G.run 2 2 unM) (G:= [0#8,2#8,a_ (.int x)]) (S:=S) (a:=ae 0) (b:=ae 2) 0#1 0#1 (vH g hx);simpa using this
 have h2:=lW (t:=cTT) (e:=mFn (_G.run 2 2 unM) (aa 0#3 1#8)) (G:= [0#8,2#8]) (S:=S) (p:=λ_=>c_) (f:=λu=>match u with | .int i=>.int (unT m T i.toNat:Nat) |_=>.non) (ax w.reverse) [] (λ_ _=>rfl) (λu hu _=>h1 u hu);rw[ub.mpr (λ_ _=>rfl),eh]at h2;have h3:(ax w.reverse).map (λu=>match u with | .int i=>U.int (unT m T i.toNat:Nat) |_=>.non)=ax (bk m T w):=by
  unfold ax bk;rw[bq,bq];apply aR;intro x _;simp
 rw[h3]at h2;exact⟨_,cK (G:= [0#8,2#8]) rfl (cz (fh (l4 hi h2 (by rw[cm,Ck];unfold big;exact ai 0#5 0#2)))),Ex.push _ _⟩
end
def tabS(S:Sto)(n:Nat)(T:Nat->Nat->Nat)(k:Nat):Sto:=S++[Cell.lst ((ao k).map (mW n T))]++(ao k).map λi=>Cell.lst ((ao n).map λj=>U.int (T i j))
def tbM(g:iu)(φ:MF):MS:=aY (bC 2 (dN ah)) (aY (fv 3 (iR1 (aa 0#3 ah)) (eJ (mML de (ae 2) (aa (mFn bQ (aa (bY (iR1 (aa 0#3 ah)) cTT (wA 1 g φ (aa (ae 3) 2#3))) ah)) ah)))) (cn (mFn bQ 1#8)))
theorem Jg{S:Sto}(hn:n<big)(Wq:∀i j (S:Sto),i<n->j<n->φ [.int (i:Nat),.int (j:Nat)] S=a_ (.int (T i j:Nat),S))(g:iu):
  _G.run 2 4 (tbM g φ) [.int (n:Nat),.obj g] S=a_ (tab n T,tabS S n T n):=by
 have cell:∀k,(tabS S n T k)[0#7]?=a_ (Cell.lst ((ao k).map (mW n T))):=λk=>by
  unfold tabS;rw[bz,bj (ak _)];simp
 obtain⟨Y5,S1,e1,⟨x,rfl⟩,rfl⟩:=lO (i:=3) (a:=ae 0) (n:=n) (b:=eJ (mML de (ae 2) (aa (mFn bQ (aa (bY (iR1 (aa 0#3 ah)) cTT (wA 1 g φ (aa (ae 3) 2#3))) ah)) ah)))
  (G:= [a_ (.int n),a_ (.obj g),2#0,b_]) (S:=tabS S n T 0) 0#1 hn
  (λk G S'=>(∃x,G = [a_ (.int n),a_ (.obj g),2#0,x])/\S'=tabS S n T k) ⟨⟨b_,rfl⟩,rfl⟩ (by
   rintro k G S' hk ⟨⟨x,rfl⟩,rfl⟩
   obtain⟨S2,e2,h2⟩:=HH (G:= [a_ (.int n),a_ (.obj g),2#0,a_ (.int k)]) (S:=tabS S n T k) (S0:=tabS S n T k) (a:=ae 0) (e:=wA 1 g φ (aa (ae 3) 2#3)) (n:=n) 0#1 hn (λj => .int (T k j)) (λ_ Yh=>Yh=tabS S n T k) rfl (by
    rintro j Yh hj rfl;refine⟨_,?_,rfl⟩;show(if g=g then mFn φ (aa (ae 3) 2#3) _ _ else b_)=_;rw[if_pos rfl]
    exact cP (var_eq rfl) (var_eq rfl) (Wq k j _ hk hj))
   subst h2;have hl:((ao k).map (mW n T)).length<big:=by rw[ar,aZ];exact aX 0#5 0#5
   have e3:=append_eq (G:= [a_ (.int n),a_ (.obj g),2#0,a_ (.int k)]) (o:=ae 2) (r:=0#7) (row:=(ao k).map (mW n T)) 0#1 e2 (cell k) ((Ex.push _ _).some (cell k)) hl
   rw[show Cu n (λj=>U.int (T k j))=mW n T k from rfl,(show((tabS S n T k)++[Cell.lst ((ao n).map λj=>U.int (T k j))]).set S.length (Cell.lst ((ao k).map (mW n T)++[mW n T k]))=tabS S n T (k+1) by
     unfold tabS
     simp[eI])]at e3
   exact⟨_,_,e3,⟨_,rfl⟩,rfl⟩)
 have e0:dN ah [a_ (.int n),a_ (.obj g),b_,b_] S=a_ (.ref 0#7,tabS S n T 0):=jF.trans (by simp[tabS]);have e2:mFn bQ 1#8 [a_ (.int n),a_ (.obj g),2#0,x] (tabS S n T n)=a_ (tab n T,tabS S n T n):=kA 0#1 (cell n);exact cK (G:= [a_ (.int n),a_ (.obj g),2#0,x]) rfl (show tbM g φ [a_ (.int n),a_ (.obj g),b_,b_] S=_ from(aL (bh e0)).trans ((aL e1).trans (cz e2)))
def nmM:MS:=cn (mm (λg φ=>_G.run 2 4 (tbM g φ)) 2 [0,1] (mMT fj (ae 3) (aa (m2 oIx (m2 oIx (ae 2) (m2 oIx (ae 3) 0#3)) (m2 oIx (ae 3) (ae 1))) ah)) (mFn cp (aa 0#3 ah)))
theorem Pu(hm:m<big)(g:∀i j,i<m->j<m->T i j<m)(ho:qI m l):∃S',_G.run 2 2 nmM [tab m T,.tup (ax l)] S=a_ (tab m (ib T (oF l) (pF l)),S')/\Ex S S':=by
 have hlen:=ho.len;refine⟨tabS S m (ib T (oF l) (pF l)) m,cK (G:= [0#8,a_ (.tup (ax l))]) rfl (show nmM [0#8,a_ (.tup (ax l))] S=_ from cz ?_),⟨_,by unfold tabS;rw[bz]⟩⟩;refine vt (cs:= [tab m T,.tup (ax l)]) (len_tab 0#1) rfl λf=>Jg hm (λi j S' hi hj=>?_) f;have gi:atI (ax l) (i:Int)=a_ (.int (oF l i)):=kT (by unfold ax;rw[a9,ho.get hi];rfl);have gj:atI (ax l) (j:Int)=a_ (.int (oF l j)):=kT (by unfold ax;rw[a9,ho.get hj];rfl);show mMT fj (ae 3) (aa (m2 oIx (m2 oIx (ae 2) (m2 oIx (ae 3) 0#3)) (m2 oIx (ae 3) (ae 1))) ah) [a_ (.int (i:Nat)),a_ (.int (j:Nat)),0#8,a_ (.tup (ax l))] S'=_;exact kq 0#1 (ki (ho.ord.ol j hj) (jo (ho.ord.ol i hi) 0#1 (Al 0#1 0#1 gi)) (Al 0#1 0#1 gj)) (ho.mem.mpr (g _ _ (ho.ord.ol i hi) (ho.ord.ol j hj)))
section
variable {m:Nat}{T:Nat->Nat->Nat}
structure Sn(m:Nat)(T:Nat->Nat->Nat)(p:List Nat):Prop where
 lt:Lt m p
 nd:(plc T p).Nodup
 cl:∀x∈plc T p,∀y∈plc T p,T x y∈plc T p
theorem Sn.last{p:List Nat}(h:Sn m T p)(hp:p≠[]):fD T p≠0:=by
 intro z;have h1:=h.nd;rw[kU,eF]at h1;have h0:0∈pre T p:=aw.mpr ⟨0,aA.mpr (gh.mpr hp),rfl⟩;exact h1.2.2 0 h0 (fD T p) 0#4 z.symm
end
section
variable {m:Nat}{T:Nat->Nat->Nat}{S:Sto}
abbrev Pln(m:Nat)(T:Nat->Nat->Nat):Prop:= ∀i j,i<m->j<m->T i j=T j i
theorem Qm{S:Sto}{s k:Nat}(ha:a G S=a_ (.tup (ax [s]),S1))(hb:b G S1=a_ (.int (k:Nat),S2))(hk:k<1000):m2 iB a b G S=a_ (.tup (ax (aS k s)),S2):=by
 refine op2 ha hb ?_;have h:EV (ax [s]).length (k:Int):=⟨by exact Int.natCast_nonneg _,by lia,by simp[ax],by simp[ax]⟩;simp only[iB,if_pos h,cj]
 congr 2
 simp[ax]
end
section
variable {m:Nat}{T:Nat->Nat->Nat}{S:Sto}
end
theorem yc:∀(l acc:List Int) (x:Int),x∈l.foldl (λacc x=>if x∈acc then acc else acc++[x]) acc↔x∈acc\/x∈l
 |[],acc,x=>by simp
 | y::l,acc,x=>by
   rw[gW,yc l];by_cases h:y∈acc
   .rw[if_pos h,aG]
    constructor
    .rintro (z|z)
     .exact .inl z
     .exact .inr (.inr z)
    .rintro (z|rfl|z)
     .exact .inl z
     .exact .inl h
     .exact .inr z
   .rw[if_neg h,aQ,bx,aG,or_assoc]
theorem Es{l:List Int}{x:Int}:x∈ddp l↔x∈l:=by unfold ddp;rw[yc];simp
theorem yh:∀(l acc:List Int),acc.Nodup->(l.foldl (λacc x=>if x∈acc then acc else acc++[x]) acc).Nodup
 |[],acc,h=>h
 | y::l,acc,h=>by
   rw[gW];refine yh l _ ?_;by_cases z:y∈acc
   .rw[if_pos z];exact h
   .rw[if_neg z];exact eF.mpr ⟨h,by simp,λa ha b hb=>by simp at hb;rw[hb];exact λe=>z (e▸ha)⟩
def ddN(l:List Nat):List Nat:=(ddp (dz l)).map Ae
theorem oE(l:List Nat):dz (ddN l)=ddp (dz l):=by
 unfold dz ddN;rw[bq]
 conv=>rhs;rw[<-rO (ddp (l.map λ(x:Nat)=>(x:Int)))]
 apply aR;intro x hx;obtain⟨y,_,rfl⟩:=aw.mp (Es.mp hx);simp
theorem E1:x∈ddN l↔x∈l:=by
 have h:(x:Int)∈dz (ddN l)↔(x:Int)∈dz l:=by rw[oE];exact Es
 have e:∀k:List Nat,(x:Int)∈dz k↔x∈k:=λk=>by
  unfold dz;rw[aw];constructor
  .rintro ⟨y,hy,e⟩
   have:y=x:=by lia
   rw[<-this];exact hy
  .exact λh=>⟨x,h,rfl⟩
 rw[<-e,<-e];exact h
theorem RT(ha:a G S=a_ (.ref n,S1))(hn:S1[n]?=a_ (Cell.lst (ax l)))(h1:l.length<4000)(h2:(ddN l).length<64):mFn bSS (aa a ah) G S=a_ (.ref S1.length,S1++[.lst (ax (srt (ddN l)))]):=by
 refine fI (f:=bSS) ha ?_;have h3:(ddp (dz l)).length<64:=by rw[<-oE];simpa [dz]using h2
 have ok:Kp (dz l).length (ddp (dz l)).length:=⟨by simpa [dz]using h1,h3⟩;simp only[bSS,eA,getL,hn,aO,lZ];rw[if_pos ok,<-oE,vg]
theorem pX{e:ME}{G:Rho}{n:Nat}{us:List U}{f:U->U}(P:Sto->Prop)(hP:∀S,P S->getL S n=a_ us)(he:∀u∈us,∀S,P S->∃S',e (G++[a_ u]) S=a_ (f u,S')/\P S'):
  ∀(k i:Nat) (acc:List U) (S:Sto),i<=1#1->1#1-i<k->P S->∃S',kW cTT e G n k i acc S=a_ (acc++(us.drop i).map f,S')/\P S'
 |0,i,acc,S,h1,h2,_=>by lia
 | k+1,i,acc,S,h1,h2,h=>by
   unfold kW;rw[hP S h];simp only[aO];by_cases hi:i<1#1
   .have hd:=eN hi
    obtain⟨S1,e1,p1⟩:=he _ (bP hi) S h;obtain⟨S2,e2,p2⟩:=pX P hP he k _ _ S1 0#5 0#0 p1;refine⟨S2,?_,p2⟩;rw[aC hi];simp only[cTT,aF];rw[e1];simp only[aF];rw[e2,hd,bz];rfl
   simp_all
theorem Oy(h:l.Pairwise (· < ·)):srt l=l:=by
 have h1:(dz l).Pairwise (· <= ·):=aW.mpr (h.imp λ{a b} ZU=>by omega);have h2:=ny (List.Perm.refl _) h1;unfold srt;rw[<-h2];unfold dz;rw[bq]
 conv=>rhs;rw[<-rO l]
 apply aR;simp
section
variable {m:Nat}{T:Nat->Nat->Nat}{S:Sto}{u:U}{st:List Nat}
theorem mc{r:MA}{x:U}(ha:a G S=a_ (x,S1))(hr:r G S1=a_ (xs,S2)):aa a r G S=a_ (x::xs,S2):=by simp[aa,ha,hr,aF]
theorem ml{r:MA}(h:r G S=a_ (xs,S1))(hl:1#2<1000):dN r G S=a_ (.ref S1.length,S1++[.lst xs]):=by
 have:xs.length<=big:=by unfold big;lia
 simp[dN,h,aF,this]
theorem wy:∀(a b:List Nat),a.Nodup->(∀x∈a,x∈b)->b.length<=a.length->a.Perm b
 | [],b,_,_,h=>by
   have e:b=[]:=d5 (by simpa using h);rw[e]
 | x::a,b,h,hs,hl=>by
   have hx:=hs x 0#4;have h2:=List.length_erase_of_mem hx;have h1:=wy a (b.erase x) (eg.mp h).2 (λy hy=>(List.mem_erase_of_ne (λe:y=x=>(eg.mp h).1 (by rw[<-e];exact hy))).mpr (hs y (aB _ hy))) (by simp only[bU]at hl;omega);exact(h1.cons x).trans (J2 hx).symm
end
def itF(f:Nat->Nat):Nat->Nat->Nat
 |0,x=>x
 |k+1,x=>f (itF f k x)
structure Inj(m:Nat)(f:Nat->Nat):Prop where
 lt:∀x,x<m->f x<m
 inj:∀x y,x<m->y<m->f x=f y->x=y
section
variable {m:Nat}{f:Nat->Nat}
theorem jj(h:Inj m f){x:Nat}(hx:x<m):∀k,itF f k x<m
 |0=>hx
 |k+1=>h.lt _ (jj h hx k)
theorem sW{x:Nat}:∀k,itF f (k+1) x=itF f k (f x)
 |0=>rfl
 |k+1=>by show f (itF f (k+1) x)=f (itF f k (f x));rw[sW k]
theorem kO{x:Nat}(j:Nat):∀k,itF f (k+j) x=itF f k (itF f j x)
 |0=>by rw[fT];rfl
 |k+1=>by rw[Nat.add_right_comm];show f (itF f (k+j) x)=f _;rw[kO j k]
theorem uw(h:Inj m f){x y:Nat}(hx:x<m)(hy:y<m):∀k,itF f k x=itF f k y->x=y
 |0,e=>e
 |k+1,e=>uw h hx hy k (h.inj _ _ (jj h hx k) (jj h hy k) e)
def gw(m:Nat)(f:Nat->Nat)(x:Nat):Nat:=((ao m).find? λk=>decide (itF f (k+1) x=x)).getD 0+1
theorem iq(h:Inj m f)(hx:x<m):1<=gw m f x/\gw m f x<=m/\itF f (gw m f x) x=x /\ ∀k,1<=k->k<gw m f x->itF f k x≠x:=by
 obtain⟨i,j,YN,hj,e⟩:=Jh (m:=m) (f:=λk=>itF f k x) λi _=>jj h hx i;have e1:itF f (j-i) x=x:=by
  have e:itF f i x=itF f j x:=e;rw[show j=i+(j-i) by lia,kO]at e;exact(uw h hx (jj h hx _) i e).symm
 unfold gw;cases q:(ao m).find? λk=>decide (itF f (k+1) x=x) with
 | none=>
   have:=uQ.mp q (j-i-1) (aA.mpr 0#0);rw[show j-i-1+1=j-i by lia]at this;simp[e1]at this
 | some i=>
   obtain⟨i1,i2,i3⟩:=List.find?_range_eq_some.mp q;have i2:=aA.mp i2;refine⟨by simp,by simp;assumption,by simpa using i1,λk k1 k2 z=>?_⟩;simp at k2;have:=i3 (k-1) 0#0;rw[show k-1+1=k by lia]at this;simp[z]at this
def rgK(f:Nat->Nat)(x k:Nat):List Nat:=(ao k).map λi=>itF f i x
def rg(m:Nat)(f:Nat->Nat)(x:Nat):List Nat:=rgK f x (gw m f x)
theorem qT{k:Nat}:rgK f x (k+1)=rgK f x k++[itF f k x]:=by simp[rgK,eI]
theorem EA{k:Nat}:(rgK f x k).length=k:=by simp[rgK]
theorem mF:(rg m f x).length=gw m f x:=EA
theorem Hl(h:Inj m f)(hx:x<m):Lt m (rg m f x):=λy hy=>by
 obtain⟨i,_,rfl⟩:=aw.mp hy;exact jj h hx i
theorem L3(h:Inj m f)(hx:x<m):(rg m f x).Nodup:=by
 obtain⟨p1,p2,p3,p4⟩:=iq h hx;unfold rg rgK;rw[ay,aW];refine bM (R:=λa b=>a<b) ?_ eG;intro a b ha hb ZU e;have hb:=aA.mp hb;rw[show b=a+(b-a) by lia,kO]at e;have:=uw h hx (jj h hx _) a e;exact p4 (b-a) 0#0 0#0 this.symm
theorem Dk(h:Inj m f)(hx:x<m):gw m f x<=m:=(iq h hx).2.1
theorem uJ(h:Inj m f)(hx:x<m):gw m f x=m ↔ ∀y,y<m->y∈rg m f x:=by
 constructor
 .intro e y hy
  exact(All.mk (L3 h hx) (Hl h hx) (by rw[mF,e])).mem hy
 .intro hy
  have:=(wy (ao m) (rg m f x) ke (λy q=>hy y (aA.mp q)) (by rw[mF,aZ];exact Dk h hx)).length_eq;rw[aZ,mF]at this;exact this.symm
end
def sdG(q:Nat->List Nat):Nat->List (List Nat)×List Nat
 |0=>([],[])
 |k+1=>if k∈(sdG q k).2 then sdG q k else((sdG q k).1++[q k],(sdG q k).2++q k)
def pcG(q:Nat->List Nat)(ext:Nat->Sto):Nat->List (List Nat)×List Nat×Sto
 |0=>([],[],[])
 |k+1=>if k∈(pcG q ext k).2.1 then pcG q ext k else((pcG q ext k).1++[q k],(q k).foldl putN (pcG q ext k).2.1,(pcG q ext k).2.2++ext k)
theorem Do{q:Nat->List Nat}{ext:Nat->Sto}:∀k,(pcG q ext k).1=(sdG q k).1 /\ ∀y,y∈(pcG q ext k).2.1↔y∈(sdG q k).2
 |0=>⟨rfl,λy=>Iff.rfl⟩
 | k+1=>by
   obtain⟨i1,i2⟩:=Do (q:=q) (ext:=ext) k;by_cases h:k∈(sdG q k).2
   .rw[pcG,sdG,if_pos h,if_pos ((i2 k).mpr h)];exact⟨i1,i2⟩
   .rw[pcG,sdG,if_neg h,if_neg (λz=>h ((i2 k).mp z))]
    refine⟨by show _++_=_++_;rw[i1],λy=>?_⟩;show y∈(q k).foldl putN (pcG q ext k).2.1↔y∈(sdG q k).2++q k;rw[vR,i2,aQ]
theorem EL{q:Nat->List Nat}:∀k,(sdG q k).1.length<=k
 |0=>ak _
 | k+1=>by
   have:=EL (q:=q) k;rw[sdG]
   split
   .exact dD 0#5
   .simp;assumption
theorem Jx{q:Nat->List Nat}{ext:Nat->Sto}{B:Nat}:∀k,(∀i,i<k->(q i).length<=B)->(pcG q ext k).1.length<=k/\(pcG q ext k).2.1.length<=k*B
 |0,_=>⟨ak _,bS _⟩
 | k+1,h=>by
   obtain⟨h1,h3⟩:=Jx (q:=q) (ext:=ext) (B:=B) k λi hi=>h i (by exact dD 0#5);have h2:=h k (bV _);rw[pcG,qo]
   split
   .exact⟨by exact dD 0#5,by lia⟩
   .refine⟨by simp;assumption,?_⟩
    have:=rm (xs:=q k) (l:=(pcG q ext k).2.1);show((q k).foldl putN (pcG q ext k).2.1).length<=_
    lia
variable{q:Nat->List Nat}
theorem Cv(hm:m<64)(hr:∀k,k<m->(q k).length<=64)(Wq:∀i (S':Sto),i<m->Ex S S'->φ [.int (i:Nat)] S'=a_ (.tup (ax (q i)),S'++ext i))(g:iu):
  _G.run 2 7 (uB g φ) [.tup (ax (ao m)),.obj g] S=a_ (.ref 0#7,cW S (pcG q ext m)):=by
 obtain⟨Y5,S1,e1,⟨a,b,c,rfl⟩,WY⟩:=sP (i:=4) (e:=ae 0) (us:=ax (ao m)) (b:=uW g φ) (G:= [a_ (.tup (ax (ao m))),a_ (.obj g),2#0,a_ (.ref (0#7+1)),b_,b_,b_]) (S:=cW S (pcG q ext 0)) 0#1
  (λk G S'=>(∃a b c,G = [a_ (.tup (ax (ao m))),a_ (.obj g),2#0,a_ (.ref (0#7+1)),a,b,c])/\S'=cW S (pcG q ext k)) ⟨⟨_,_,_,rfl⟩,rfl⟩ (by
   rintro k u G S' hu ⟨⟨a,b,c,rfl⟩,rfl⟩;obtain⟨k',YM,rfl⟩:=kn hu;have hk:k<m:=by have:=(ag.mp YM).1;simpa using this
   rw[ua hk]at YM;cases YM;have bd:=Jx (q:=q) (ext:=ext) (B:=64) k λi hi=>hr i (by exact aX 0#5 0#5);have ec:=zG (G:= [a_ (.tup (ax (ao m))),a_ (.obj g),2#0,a_ (.ref (0#7+1)),a_ (.int k),b,c]) (a:=ae 4) (b:=ae 3) (x:=k) 0#1 0#1 (show(cW S (pcG q ext k))[0#7+1]?=_ from h1);rw[vh]at ec;by_cases ZI:k∈(pcG q ext k).2.1
   .rw[decide_eq_true ZI]at ec
    refine⟨_,_,(kK ec).trans rfl,⟨_,_,_,rfl⟩,?_⟩;rw[pcG,if_pos ZI]
   .rw[decide_eq_false ZI]at ec
    have hex:Ex S (cW S (pcG q ext k)):=⟨_,by unfold cW;rw[bz]⟩;have e5:wA 1 g φ 2#3 [a_ (.tup (ax (ao m))),a_ (.obj g),2#0,a_ (.ref (0#7+1)),a_ (.int k),b,c] (cW S (pcG q ext k))=a_ (.tup (ax (q k)),cW S (pcG q ext k)++ext k):=by
     show(if g=g then mFn φ 2#3 _ _ else b_)=_;rw[if_pos rfl];exact fI 0#1 (Wq k _ hk hex)
    have hx:cW S (pcG q ext k)++ext k=S++[.lst (tups (pcG q ext k).1),.dic (gF (pcG q ext k).2.1)]++((pcG q ext k).2.2++ext k):=by simp[cW]
    rw[hx]at e5;have e6:=append_eq (G:= [a_ (.tup (ax (ao m))),a_ (.obj g),2#0,a_ (.ref (S.length+1)),a_ (.int k),a_ (.tup (ax (q k))),c]) (o:=ae 2) (a:=ae 5) (u:= .tup (ax (q k))) 0#1 0#1 (h0 (S:=S) (x:=(pcG q ext k).2.2++ext k) (c:= .lst (tups (pcG q ext k).1)) (e:= .dic (gF (pcG q ext k).2.1))) h0 (by simp only[tups,ar];unfold big;lia);rw[t0]at e6
    obtain⟨v,e7⟩:=yj (S:=S) (x:=(pcG q ext k).2.2++ext k) (c:= .lst (tups (pcG q ext k).1++[.tup (ax (q k))])) (G:= [a_ (.tup (ax (ao m))),a_ (.obj g),2#0,a_ (.ref (0#7+1)),a_ (.int k),a_ (.tup (ax (q k))),c]) (xs:=q k) (l:=(pcG q ext k).2.1) rfl rfl rfl (by
     have:=hr k hk;have h3:k*64<=64*64:=iG _ 0#0
     unfold big;lia)
    refine⟨_,_,(sQ ec).trans ((aL (bh e5)).trans ((aL e6).trans e7)),⟨_,_,_,rfl⟩,?_⟩;rw[pcG,if_neg ZI]
    simp[cW,tups])
 rw[cm,aZ]at WY;subst WY;refine cK (G:= [a_ (.tup (ax (ao m))),a_ (.obj g),2#0,a_ (.ref (0#7+1)),a,b,c]) rfl ?_;show uB g φ [a_ (.tup (ax (ao m))),a_ (.obj g),b_,b_,b_,b_,b_] S=_;have e2:qH [a_ (.tup (ax (ao m))),a_ (.obj g),2#0,b_,b_,b_,b_] (S++[Cell.lst []])=a_ (.ref (0#7+1),cW S (pcG q ext 0)):=by
  simp[qH,cW,pcG,tups,gF]
 exact(aL (bh jF)).trans ((aL (bh e2)).trans ((aL e1).trans (cz 0#1)))
theorem tN:Ex S (cW S (pcG q ext m))/\(cW S (pcG q ext m))[0#7]?=a_ (Cell.lst (tups (sdG q m).1)):=by
 refine⟨⟨_,by unfold cW;rw[bz]⟩,?_⟩;have:=h0 (S:=S) (x:=(pcG q ext m).2.2) (c:= .lst (tups (pcG q ext m).1)) (e:= .dic (gF (pcG q ext m).2.1));rw[(Do m).1]at this;unfold cW;rw[(Do m).1];exact this
theorem rP{q:Nat->List Nat}:∀{m:Nat},1<=m->(sdG q m).1[0]?=a_ (q 0)/\(∀y,y∈q 0->y∈(sdG q m).2)
 |0,h=>by exact absurd 0#5 (bu _)
 |1,_=>by simp[sdG]
 | m+2,_=>by
   obtain⟨h1,h2⟩:=rP (q:=q) (m:=m+1) 0#0;rw[sdG]
   split
   .exact⟨h1,h2⟩
   .refine⟨?_,λy hy=>bf _ (h2 y hy)⟩
    rw[aT]
    .exact h1
    .exact(ag.mp h1).1
theorem EG{q:Nat->List Nat}:∀{m:Nat},1<=m->((sdG q m).1.length=1 ↔ ∀y,y<m->0<y->y∈q 0)/\((sdG q m).1.length=1->(sdG q m).2=q 0)
 |0,h=>by exact absurd 0#5 (bu _)
 | 1,_=>by
   refine⟨⟨λ_ y h1 h2=>by lia,λ_=>by simp[sdG]⟩,λ_=>by simp[sdG]⟩
 | m+2,_=>by
   obtain⟨h1,h2⟩:=EG (q:=q) (m:=m+1) 0#0;have h3:=(rP (q:=q) (m:=m+1) 0#0);have XB:1<=(sdG q (m+1)).1.length:=(ag.mp h3.1).1;rw[sdG];by_cases z:m+1∈(sdG q (m+1)).2
   .rw[if_pos z]
    refine⟨⟨λe y hy UO=>?_,λYA=>h1.mpr λy hy UO=>YA y (by exact dD 0#5) UO⟩,h2⟩;by_cases YD:y=m+1
    .subst YD;rw[h2 e]at z;exact z
    .exact h1.mp e y 0#0 UO
   .rw[if_neg z]
    refine⟨⟨λe=>?_,λYA=>?_⟩,λe=>?_⟩
    .simp at e;rw[e]at XB;simp at XB
    .exact absurd (h3.2 _ (YA (m+1) (by exact ak _) 0#0)) z
    .simp at e;rw[e]at XB;simp at XB
section
variable {m:Nat}{T:Nat->Nat->Nat}{S:Sto}
end
section
variable {S:Sto}
end
open PySem in
open PySem in
section
variable {S:Sto}
section
variable {n m r:Nat} (hn:0<n) (XU:n<100) (hm:0<m) (Zf:m<100) (hr:r<100)
include hn XU hm Zf hr
end
end
section
variable {m:Nat}{T:Nat->Nat->Nat}
open Classical in
end
theorem Kw{D:List (_L.Key×U)}{k j:_L.Key}:j0 (nu D k u) j=if k=j then a_ u else j0 D j:=by
 unfold j0 nu;by_cases h:(D.any λkv=>decide (kv.1=k))=c_
 .rw[if_pos h]
  induction D with
  |nil=>simp at h
  | cons p D ih=>
    rw[dw,je];by_cases hp:p.1=k
    .rw[if_pos hp]
     by_cases hk:k=j
     .simp_all
     .have h1:decide (p.1=j)=d_:=decide_eq_false (by rw[hp];omega)
      simp only[h1,if_neg hk];rw[je,h1];by_cases h2:(D.any λkv=>decide (kv.1=k))=c_
      .simp_all
      .have:D.map (λkv=>if kv.1=k then(kv.1,u) else kv)=D:=by
        conv=>rhs;rw[<-rO D]
        apply aR<;>grind
       rw[this]
    .rw[if_neg hp]<;>grind
 .rw[if_neg h,List.find?_append]
  by_cases hk:k=j
  .subst hk
   have:D.find? (λkv=>decide (kv.1=k))=b_:=by
    rw[uQ];intro kv hkv hd;exact h (kf.mpr ⟨kv,hkv,hd⟩)
   rw[this];simp
  grind
def xu(D:List (_L.Key×U))(xs:List Nat)(v:Nat):List (_L.Key×U):=xs.foldl (λD (x:Nat)=>nu D (.inl (x:Int)) (.int (v:Nat))) D
theorem uV{v:Nat}:∀{xs:List Nat}{D:List (_L.Key×U)},(xu D xs v).length<=D.length+1#2
 |[],D=>by simp[xu]
 | x::xs,D=>by
   have h1:=uV (v:=v) (xs:=xs) (D:=nu D (.inl x) (.int v))
   have h2:=(show(nu D (.inl x) (.int v)).length<=D.length+1 by
     unfold nu
     split
     .simp
     ·simp)
   show(xu _ xs v).length<=_
   grind
theorem Ba{v x:Nat}:∀{xs:List Nat}{D:List (_L.Key×U)},j0 (xu D xs v) (.inl (x:Int))=if x∈xs then a_ (.int (v:Nat)) else j0 D (.inl (x:Int))
 |[],D=>by simp[xu]
 | y::xs,D=>by
   show j0 (xu _ xs v) _=_;rw[Ba,Kw]
   grind
section
variable {m:Nat}{T:Nat->Nat->Nat}{P:List Nat}
end
section
variable {m:Nat}{T:Nat->Nat->Nat}{P:List Nat}
end
end _W
namespace _W
open PySem PySem.Spec _L _G
def wI:MS:=aY (bC 2 (mFn nU 2#9)) (aY (sIf (cOf (m2 oLt (mFn cp 1#8) (mC (.int 3)))) (bC 2 (mFn dM (aa (m2 eQ (mC (.int 3)) (mFn bA (aa 0#3 (aa (m2 xw (ae 1) 1#7) ah)))) ah))) dE) (aY (bC 3 (jm (iR2 (aa 1#4 (aa (mFn cp 1#8) ah))))) (aY (bC 4 (mML nq (ae 3) (aa (mFn bA (aa 0#3 (aa (mFn cp (aa (ae 3) ah)) ah))) ah))) (aY (bC 5 (m2 oIx (ae 3) (mFn bA (aa 0#3 (aa (mFn cp (aa (ae 3) ah)) ah))))) (cn (iU (aa (ae 2) (aa (iU (aa (mFn zU (aa (ae 4) (aa (ae 5) ah))) (aa (mFn AU (aa (ae 4) (aa (ae 5) ah))) ah))) ah))))))))
def mJ:MF:=run 2 6 wI
def BI(g:iu)(φ:MF):MS:=aY (bC 2 (dN ah)) (aY (bC 3 qH) (aY (fv 4 (dq 0#3) (sIf (cOf (m2 md (ae 4) (ae 3))) (aY (bC 5 (wA 1 g φ 2#3)) (aY (eJ (mML de (ae 2) (aa (ae 5) ah))) (fv 6 (dq (ae 5)) (gv (ae 3) (ae 6) (mC (.bl c_)))))) dE)) (cn (ae 2))))
def vO(g:iu)(φ:MF):MF:=run 2 7 (BI g φ)
def qX:MS:=cn (Bu (iR1 (aa (mFn cp (aa 0#3 ah)) ah)))
def j8:MF:=run 1 1 qX
def qM:MS:=cn (mm vO 1 [0,1] (mFn bQ (aa (mFn fk (aa (bY (dq (ae 2)) cTT (m2 oIx (m2 oIx (ae 1) 0#3) (ae 3))) ah)) ah)) (mFn j8 (aa 0#3 ah)))
def l7:MF:=run 2 2 qM
def Et:MS:=aY (bC 2 (yE 1#0 (iU ah))) (aY (bC 3 (dN (aa 1#0 ah))) (aY (nS (cOf (m2 oGt (mFn cp (aa (ae 3) ah)) 1#0)) (aY (bC 4 (mML Bz (ae 3) ah)) (fv 5 (dq (ae 1)) (aY (bC 6 (m2 oIx (m2 oIx 0#3 (ae 4)) (ae 5))) (sIf (cOf (m2 md (ae 6) (ae 2))) (aY (gv (ae 2) (ae 6) (m2 eQ (m2 oIx (ae 2) (ae 4)) (iU (aa (ae 5) ah)))) (eJ (mML de (ae 3) (aa (ae 6) ah)))) dE))))) (cn (ae 2))))
def Ee:MF:=run 2 7 Et
def Jp:MS:=cn (mFn bQ (aa (mFn fk (aa (mFn Ee 2#9) ah)) ah))
def Dn:MF:=run 2 2 Jp
def AQ:MS:=cn (mMT fj (m2 oIx 0#3 (ae 1)) (aa 1#0 ah))
def kC:MF:=run 2 2 AQ
def yd:MS:=cn (m2 oIx (m2 oIx 0#3 (m2 oIx (ae 1) 1#0)) (mFn kC (aa 0#3 (aa (m2 oIx (ae 1) 1#4) ah))))
def oP:MF:=run 2 2 yd
def DT:MS:=cn (mFn l7 (aa 0#3 (aa (mFn Dn (aa 0#3 (aa (iU (aa (mFn oP 2#9) ah)) ah))) ah)))
def kP:MF:=run 2 2 DT
def nZ:MS:=aY (bC 3 qH) (aY (wG (gTp 2 (iD (gN 4) (iD (gN 5) tW))) (CM (aa (mFn kP 2#9) 1#8)) (fv 6 (dq (ae 4)) (gv (ae 3) (ae 6) (m2 oIx (ae 1) (ae 5))))) (cn (ae 3)))
def iX:MF:=run 3 7 nZ
def tU:MS:=aY (bC 3 (dN 1#8)) (aY (bC 4 (m2 oIx (m2 oIx 0#3 (ae 2)) (m2 oIx (ae 1) (ae 2)))) (aY (nS (cOf (m2 oNe (ae 4) (ae 2))) (aY (eJ (mML de (ae 3) 2#3)) (bC 4 (m2 oIx (m2 oIx 0#3 (ae 4)) (m2 oIx (ae 1) (ae 4)))))) (cn (mFn bQ (aa (ae 3) ah)))))
def kR:MF:=run 3 5 tU
def xI:MS:=aY (bC 3 (mFn iX (aa 0#3 (aa (ae 1) 1#8)))) (aY (bC 4 (mFn kR (aa 0#3 (aa (ae 3) (aa 1#0 ah))))) (cn (Da (cOf (m2 oEq (mFn cp 2#3) (mFn cp (aa 0#3 ah)))) (mFn bQ (aa (bY (dq (ae 4)) cTT (m2 oIx (ae 3) (ae 5))) ah)) (mC .non))))
def iI:MF:=run 3 5 xI
def tP:MS:=aY (bC 2 (dN (aa (iU ah) ah))) (aY (nS (cOf (m2 oLt (mFn cp (aa (m2 oIx (ae 2) 1#0) ah)) (ae 1))) (aY (bC 3 (dN ah)) (aY (fv 4 (dq (ae 2)) (eJ (mML j4 (ae 3) (aa (bY (dq 0#3) cTT (m2 eQ (ae 4) (iU (aa (ae 5) ah)))) ah)))) (bC 2 (ae 3))))) (cn (ae 2)))
def jH:MF:=run 2 5 tP
def jY:MS:=aY (bC 2 (mFn cp (aa (mFn kP 2#9) ah))) (aY (sIf (cOf (m2 oGt (ae 2) (mC (.int 10)))) sNo dE) (aY (bC 3 (bY (dq (mFn jH (aa (iU (aa 1#0 (aa 1#4 ah))) 1#8))) cTT (mFn iI (aa 0#3 (aa (ae 1) 2#3))))) (cn (mFn iT (aa (bY (dq (ae 3)) (cOf (m2 lg (ae 4) (mC .non))) (ae 4)) ah)))))
def bT:MF:=run 2 4 jY
def EK:MS:=aY (bC 3 (mFn iX (aa 0#3 (aa (ae 1) 1#8)))) (cn (mm vO 1 [3,0] (mFn kR (aa (ae 2) (aa (ae 1) (aa 0#3 ah)))) (mFn j8 (aa 0#3 ah))))
def oJ:MF:=run 3 4 EK
def vc:MS:=aY (bC 2 (ae 1)) (aY (bC 3 1#4) (aY (nS (cOf (m2 oNe (ae 2) 1#0)) (aY (bC 2 (m2 oIx (m2 oIx 0#3 (ae 2)) (ae 1))) (Dx 3 1#4))) (cn (ae 3))))
def fE:MF:=run 2 4 vc
def tH:MS:=cn (j7 (m2 oEq (m2 oMod (mFn fE (aa 0#3 (aa (mFn oP 2#9) ah))) 1#7) 1#4) (m2 oEq (m2 oMod (m2 oDiv (mFn cp (aa 0#3 ah)) (mFn fE (aa 0#3 (aa (m2 oIx (ae 1) 1#0) ah)))) 1#7) 1#0))
def fV:MF:=run 2 2 tH
def kN:MS:=cn (j7 (m1 (r9 "int") 0#3) (j7 (m1 xi (m1 (r9 "bool") 0#3)) (mCh oLe oLt 1#0 0#3 (ae 1))))
def kM:MF:=run 2 2 kN
def jU:MS:=cn (j7 (m1 (r9 "tuple") 0#3) (mFn xA (aa (bY (dq 0#3) cTT (mFn kM (aa (ae 2) (aa (ae 1) ah)))) ah)))
def jX:MF:=run 2 2 jU
def qA:MS:=cn (j7 (mFn jX (aa (ae 2) (aa (mFn cp (aa 0#3 ah)) ah))) (mFn xA (aa (bY (dq (ae 2)) cTT (m2 oIn (ae 3) (ae 1))) ah)))
def rj:MF:=run 3 3 qA
def BM:MS:=aY (bC 2 (dN (aa 1#0 ah))) (aY (fv 3 (dq (ae 1)) (eJ (mML de (ae 2) (aa (m2 oIx (m2 oIx 0#3 (m2 oIx (ae 2) (m1 mn 1#4))) (ae 3)) ah)))) (cn (mFn bQ 1#8)))
def vP:MF:=run 2 4 BM
def lF:MS:=cn (m2 oEq (mFn bQ (aa (mFn fk (aa (ae 1) ah)) ah)) (mFn j8 (aa 0#3 ah)))
def lA:MF:=run 2 2 lF
def pE:MS:=aY (bC 2 (mFn vP 2#9)) (cn (j7 (m2 oEq (m2 oIx (ae 2) (m1 mn 1#4)) 1#0) (mFn lA (aa 0#3 (aa (mSl (ae 2) b_ (a_ (m1 mn 1#4))) ah)))))
def pI:MF:=run 2 3 pE
def wH:MS:=cn (j7 (mFn rj (aa 0#3 (aa (ae 1) 1#8))) (j7 (m2 oGe (mFn cp 1#8) 1#7) (mFn pI (aa 0#3 1#8))))
def pS:MF:=run 3 3 wH
def km:MS:=aY (bC 3 (mFn oJ (aa 0#3 (aa (ae 1) 1#8)))) (aY (bC 4 (dN ah)) (aY (fv 5 (dq (ae 3)) (eJ (mML j4 (ae 4) (aa (mFn xZ (aa (ae 5) ah)) ah)))) (aY (sIf (cOf (m2 oNe (mFn fk 2#3) (jm (iR1 (aa (mFn cp (aa 0#3 ah)) ah))))) (cn (mC (.bl d_))) dE) (aY (bC 6 (mFn iI (aa 0#3 (aa (ae 1) 1#8)))) (aY (sIf (cOr (cOf (m2 oNe (m2 oIs (ae 6) (mC .non)) (m2 oGt (mFn cp (aa (ae 3) ah)) 1#4))) (pe (cOf (m2 lg (ae 6) (mC .non))) (cOf (m2 lg (mFn pS (aa 0#3 (aa (ae 1) (aa (ae 6) ah)))) (mC (.bl c_)))))) (cn (mC (.bl d_))) dE) (aY (bC 7 (m2 oIx (m2 oIx 0#3 (m2 oIx (ae 1) 1#0)) (mFn kC (aa 0#3 (aa (m2 oIx (ae 1) 1#4) ah))))) (aY (sIf (cOf (m2 oEq (m2 oMod (mFn fE (aa 0#3 (aa (ae 7) ah))) 1#7) 1#0)) (cn (mC (.bl c_))) dE) (aY (bC 8 (mFn cp (aa (mFn oJ (aa 0#3 (aa (ae 1) (aa (m2 iB (iU (aa 1#0 ah)) (mFn cp 1#8)) ah)))) ah))) (aY (sIf (cOf (m2 oNe (m2 oMod (m2 xw (mFn cp (aa (ae 3) ah)) (ae 8)) 1#7) 1#0)) (cn (mC (.bl d_))) dE) (cn (mOr (m1 xi (mFn fV 2#9)) (m2 oEq (m2 oMod (mFn cp (aa (ae 3) ah)) 1#7) 1#0))))))))))))
def fX:MF:=run 3 9 km
def nB:MS:=aY (bC 3 (mFn vP (aa 0#3 1#8))) (aY (bC 4 (dN ah)) (aY (fv 5 (dq (mFn kP 2#9)) (aY (bC 6 (mFn bSS (aa (bY (dq (ae 5)) cTT (m2 oIx (ae 2) (mMT fj (ae 3) (aa (ae 7) ah)))) ah))) (aY (sIf (cOf (m2 oNe (mFn cp (aa (ae 6) ah)) 1#4)) (cn (mC .non)) dE) (eJ (mML de (ae 4) (aa (mMT fj (ae 1) (aa (m2 oIx (ae 6) 1#0) ah)) ah)))))) (cn (mFn bQ 2#3))))
def gM:MF:=run 3 7 nB
def n9:MS:=cn (mFn bQ (aa (mFn fk (aa (bY (dq (ae 1)) cTT (mFn kC (aa 0#3 1#8))) ah)) ah))
def iZ:MF:=run 2 2 n9
def HS:MS:=cn (mFn bQ (aa (bY (Dj (aa (ae 1) ah)) cTT (mFn kC (aa 0#3 1#8))) ah))
def tj:MF:=run 2 2 HS
def vW(g:iu)(φ:MF):MS:=aY (bC 2 (dN ah)) (aY (fv 3 (iR1 (aa 0#3 ah)) (eJ (mML de (ae 2) (aa (mFn bQ (aa (bY (iR1 (aa 0#3 ah)) cTT (wA 1 g φ (aa (ae 3) 2#3))) ah)) ah)))) (cn (mFn bQ 1#8)))
def wJ(g:iu)(φ:MF):MF:=run 2 4 (vW g φ)
def DQ:MS:=cn (mm wJ 2 [0,1] (mMT fj (ae 3) (aa (m2 oIx (m2 oIx (ae 2) (m2 oIx (ae 3) 0#3)) (m2 oIx (ae 3) (ae 1))) ah)) (mFn cp (aa 0#3 ah)))
def uH:MF:=run 2 2 DQ
def Ms:MS:=aY (fv 1 (iR1 (aa (mFn AU (aa 1#4 (aa (mFn zU (aa (mFn cp (aa 0#3 ah)) (aa (mC (.int 4)) ah))) ah))) ah)) (aY (bC 2 (mFn nC 2#9)) (aY (I0 (mFn mJ (aa (ae 2) (aa (m2 oIx (dN (aa (mC (.int 8)) (aa (mC (.int 12)) (aa (mC (.int 16)) ah)))) (mFn bA (aa (ae 2) (aa (mC (.int 3)) ah)))) ah))) (gTp 2 (iD (gN 3) (iD (gN 4) tW)))) (aY (bC 5 (mFn cp (aa (mFn kP (aa (ae 3) 2#3)) ah))) (aY (fv 6 (iR1 (aa (mC (.int 3)) ah)) (sIf (IE (cOf (mFn fX (aa (ae 3) (aa (ae 4) (aa (mFn bQ (aa (bY (iR1 (aa (ae 5) ah)) cTT (mFn bA (aa (ae 2) (aa 1#7 ah)))) ah)) ah)))))) (cn (mC (.bl d_))) dE)) (sIf (cOf (m2 oLt (ae 5) (mC (.int 9)))) (aY (bC 7 (mFn bT (aa (ae 3) 2#3))) (aY (sIf (pe (cOf (mFn fV (aa (ae 3) 2#3))) (cOf (m2 oNe (ae 7) (dN ah)))) (cn (mC (.bl d_))) dE) (aY (fv 8 (dq (mSl (ae 7) b_ (a_ (mC (.int 4))))) (aY (bC 9 (mFn gM (aa (ae 3) (aa (ae 4) (aa (ae 8) ah))))) (sIf (cOr (cOf (m2 oIs (ae 9) (mC .non))) (cOf (m2 oNe (mFn iI (aa (ae 3) (aa (ae 4) (aa (ae 9) ah)))) (ae 8)))) (cn (mC (.bl d_))) dE))) (aY (bC 10 (mFn bT (aa (ae 3) (aa (mFn iZ (aa (ae 3) 2#3)) ah)))) (aY (sIf (cOf (m2 oNe (mFn iT (aa (bY (dq (ae 7)) cTT (mFn tj (aa (ae 3) (aa (ae 13) ah)))) ah)) (ae 10))) (cn (mC (.bl d_))) dE) (aY (bC 11 (mFn iH (aa (ae 2) (aa (mFn cp (aa (ae 3) ah)) ah)))) (aY (bC 12 (mFn bQ (aa (mFn iT (aa (bY (dq (ae 4)) cTT (mMT fj (ae 11) (aa (ae 13) ah))) ah)) ah))) (sIf (cOf (m2 oNe (mFn cp (aa (mFn bT (aa (mFn uH (aa (ae 3) (aa (ae 11) ah))) (aa (ae 12) ah))) ah)) (mFn cp (aa (ae 7) ah)))) (cn (mC (.bl d_))) dE)))))))) dE)))))) (cn (mC (.bl c_)))
def Q2:MF:=run 1 13 Ms
section
open _L _G
variable{m i:Nat}{T:Nat->Nat->Nat}{S:Sto}
theorem xQ(g:Grp m T)(hi:i<m):kC [tab m T,.int i] S=a_ (.int (unT m T i),S):=by
 have h0:=HJ g hi;have e:=jo (G:= [0#8,a_ _]) (S:=S) (a:=ae 0) (b:=ae 1) hi 0#1 0#1;rw[AI]at e;exact cK rfl (cz (kq e c_i h0))
variable{G:Rho}{S1:Sto}{a:ME}{x:Nat}
theorem Pg{S2:Sto}{b:ME}{y:Nat}(ha:a G S=a_ (.int x,S1))(hb:b G S1=a_ (.int y,S2)):mFn AU (aa a (aa b ah)) G S=a_ (.int (max x y:Nat),S2):=by
 refine cP ha hb ?_;show a_ _=_
 grind
theorem NT{S2:Sto}{b:ME}{x y:U}(ha:a G S=a_ (x,S1))(hb:b G S1=a_ (y,S2)):iU (aa a (aa b ah)) G S=a_ (.tup [x,y],S2):=by
 have WV:2<=big:=by decide
 simp[iU,aa,ah,ha,hb,aF,WV]
variable{n:Nat}
theorem Lu{most:Nat}(h:o5 n S)(h6:6<=most)(h10:most<=24):∃m T a b S',mJ [.ref n,.int (most:Nat)] S=a_ (.tup [tab m T,.tup 3#0],S')/\Grp m T/\3<=m/\m<=most/\a<m/\b<m/\a<b/\Stp n S S':=by
 obtain⟨m0,T0,S1,e1,g0,Uo,ZH⟩:=GN (most:=most) h 0#0 0#0;have key:∃m T S2,sIf (cOf (m2 oLt (mFn cp 1#8) (mC (.int 3)))) (bC 2 (mFn dM (aa (m2 eQ (mC (.int 3)) (mFn bA (aa 0#3 (aa (m2 xw (ae 1) 1#7) ah)))) ah))) dE [a_ (.ref n),a_ (.int most),a_ (tab m0 T0),b_,b_,b_] S1=a_ (.nx,[a_ (.ref n),a_ (.int most),0#8,b_,b_,b_],S2)/\Grp m T/\3<=m/\m<=most/\Stp n S S2:=by
  have ec:cOf (m2 oLt (mFn cp 1#8) (mC (.int 3))) [a_ (.ref n),a_ (.int most),a_ (tab m0 T0),b_,b_,b_] S1=a_ _:=of_eq (Kr (len_tab 0#1) c_i);by_cases ZR:m0<3
  .obtain⟨r,S2,e2,hr,Zj⟩:=jN (m:=most-2) ZH.st 0#0 0#0
   obtain⟨S3,e3,x3⟩:=nv (n:=3+r) (by exact cg 0#2 _) (by unfold big;lia);refine⟨3+r,_,S3,?_,lC (by exact cg 0#2 _),by lia,by lia,(ZH.trans Zj).step x3⟩;rw[show decide _=c_ by simp;lia]at ec;refine(sQ ec).trans (bh (fI (add_n c_i (cP 0#1 (Ea 0#1 c_i) ?_)) e3));rw[show((most-2:Nat):Int)=most-2 by lia]at e2;exact e2
  .rw[show decide _=d_ by simp;lia]at ec
   exact⟨m0,T0,S1,(kK ec).trans rfl,g0,by exact dS 0#5,Uo,ZH⟩
 obtain⟨m,T,S2,e2,g,Ur,hm,Zj⟩:=key;have hn:=h.lt;have hm24:m<=24:=by lia
 have ZD:m<big:=by exact aM 0#5 0#2
 have e3:jm (iR2 (aa 1#4 (aa (mFn cp 1#8) ah))) [a_ (.ref n),a_ (.int most),0#8,b_,b_,b_] S2=a_ (.ref S2.length,S2++[Cell.lst (ax (ba 1 (m-1)))]):=by
  rw[yF rfl (len_tab 0#1) ⟨by decide,by decide⟩ (um ZD) (by rw[l6 m (by exact xG 0#5)];simp[ax];exact aK 0#5 0#2),l6 m (by exact xG 0#5)]
 have ZC:Stp n S (S2++[Cell.lst (ax (ba 1 (m-1)))]):=Zj.step (Ex.push _ _);have g3:(S2++[Cell.lst (ax (ba 1 (m-1)))])[S2.length]?=a_ _:=b9 _ _;obtain⟨r,S4,e4,hr,YT⟩:=jN (m:=m-1) ZC.st 0#0 0#0;have ZN:S2.length≠n:=by have:=Zj.len;lia
 have g4:=YT.some ZN g3;have hlen:(ba 1 (m-1)).length=m-1:=by simp
 have l1:mFn cp (aa (ae 3) ah) [a_ (.ref n),a_ (.int most),0#8,a_ (.ref S2.length),b_,b_] (S2++[Cell.lst (ax (ba 1 (m-1)))])=a_ (.int (m-1:Nat),S2++[Cell.lst (ax (ba 1 (m-1)))]):=by
  rw[tV 0#1 g3];simp[ax]
 have p1:=A9 (o:=ae 3) (a:=mFn _ (aa 0#3 _)) 0#1 (cP 0#1 l1 e4) g3 g4 (by rw[hlen];exact hr) 0#0;have Zk:Stp n S (S4.set _ (Cell.lst (ax ((ba 1 (m-1)).eraseIdx r)))):=(ZC.trans YT).set Zj.len ZN;have g5:(S4.set _ _)[S2.length]?=a_ (Cell.lst (ax ((ba 1 (m-1)).eraseIdx r))):=aV (ag.mp g4).1;have hle:((ba 1 (m-1)).eraseIdx r).length=m-2:=by rw[List.length_eraseIdx,if_pos (by rw[hlen];exact hr),hlen];lia
 obtain⟨q,S6,e6,hq,Wt⟩:=jN (m:=m-2) Zk.st 0#0 0#0;have g6:=Wt.some ZN g5;have va:(ba 1 _)[r]'(by rw[hlen];exact hr)<m:=by simp;lia
 have Ww:q<((ba 1 (m-1)).eraseIdx r).length:=by rw[hle];exact hq
 have vb:((ba 1 _).eraseIdx r)[q]'(Ww)<m:=by
  have ZI:=List.mem_of_mem_eraseIdx (bP Ww);have:=(xb.mp ZI)
  lia
 have Tz:(ba 1 _)[r]'(by rw[hlen];exact hr)≠((ba 1 _).eraseIdx r)[q]'(Ww):=by
  obtain⟨i,hi,hir,e⟩:=List.mem_eraseIdx_iff_getElem.mp (bP Ww);rw[<-e];simp;lia
 generalize hA:(ba 1 _)[r]'(by rw[hlen];exact hr)=A at va p1 Tz;generalize hB:((ba 1 _).eraseIdx r)[q]'(Ww)=B at vb Tz;have l2:mFn cp (aa (ae 3) ah) [a_ (.ref n),a_ (.int most),0#8,a_ (.ref S2.length),a_ (.int A),b_] (S4.set S2.length (Cell.lst (ax ((ba 1 (m-1)).eraseIdx r))))=a_ (.int (m-2:Nat),S4.set S2.length (Cell.lst (ax ((ba 1 (m-1)).eraseIdx r)))):=by
  rw[tV 0#1 g5];simp only[ax,ar,hle]
 have i1:m2 oIx (ae 3) (mFn bA (aa 0#3 (aa (mFn cp (aa (ae 3) ah)) ah))) [a_ (.ref n),a_ (.int most),0#8,a_ (.ref S2.length),a_ (.int A),b_] (S4.set S2.length (Cell.lst (ax ((ba 1 (m-1)).eraseIdx r))))=a_ (.int B,S6):=by
  refine Bt 0#1 (cP 0#1 l2 e6) g6 (kT ?_);unfold ax;rw[a9,aC Ww,hB];rfl
 refine⟨m,T,min A B,max A B,S6,cK (G:= [a_ (.ref n),a_ (.int most),0#8,a_ (.ref S2.length),a_ (.int A),a_ (.int B)]) rfl ?_,g,Ur,hm,by lia,by lia,by lia,Zk.trans Wt⟩;exact(aL (bh (cP 0#1 0#1 e1))).trans ((aL e2).trans ((aL (bh e3)).trans ((aL (bh p1)).trans ((aL (bh i1)).trans (cz (NT 0#1 (NT (Pt 0#1 0#1) (Pg 0#1 0#1))))))))
theorem JC{x y:U}(ha:a G S=a_ (.tup [x,y],S1)):m2 oIx a 1#0 G S=a_ (x,S1):=Al ha rfl rfl
theorem Mf{x y:U}(ha:a G S=a_ (.tup [x,y],S1)):m2 oIx a 1#4 G S=a_ (y,S1):=Al ha rfl rfl
theorem EH(g:Grp m T){a b:Nat}(ha:a<m)(hb:b<m):oP [tab m T,.tup 3#0] S=a_ (.int (T a (unT m T b)),S):=
 cK rfl (cz (ki (j6 g hb).1 (jo ha 0#1 (JC 0#1)) (cP 0#1 (Mf 0#1) (xQ g hb))))
def iC(m:Nat)(T:Nat->Nat->Nat)(t n:Nat):List (List Nat):=((ao m).filter (pC T t n)).map λx=>srt (orb T t n x)
abbrev qU(ls:List (List Nat)):List U:=tups ls
theorem HI{t:Nat}:(iC m T t n).length<=m:=by
 unfold iC;rw[ar];exact aK (hJ _ _) 0#4
theorem yb{t k:Nat}:iC (k+1) T t n=iC k T t n++(if pC T t n k then [srt (orb T t n k)] else []):=by
 unfold iC;rw[eI,List.filter_append,bL]
 grind
theorem II{t k:Nat}(g:Grp m T)(ht:t<m)(hn:0<n)(h0:pw T t n=0)(hk:k<m):pC T t n k=c_ ↔ ¬∃x,x<k/\k∈orb T t n x:=by
 rw[kc];constructor
 .rintro h ⟨x,hx,hm⟩
  have:=h x (jI g ht hn h0 (by exact aX 1#6 1#6) hm)
  lia
 .intro h y hy
  refine dS λZR=>h ⟨y,ZR,jI g ht hn h0 hk hy⟩
theorem Ep{T:Nat->Nat->Nat}{m t n:Nat}(g:Grp m T)(ht:t<m)(hn:0<n)(h0:pw T t n=0){r:Nat->List Nat}(hr:∀x,(r x).Perm (orb T t n x)):∀k,k<=m ->
  (∀y:Nat,y∈(sdF r k).2 ↔ ∃x,x<k/\y∈orb T t n x)/\(sdF r k).1=iC k T t n
 | 0,_=>⟨λy=>by
   constructor
   .intro h;simp[sdF]at h
   lia,rfl⟩
 | k+1,hk=>by
   obtain⟨i1,i2⟩:=Ep g ht hn h0 hr k (by exact aI 0#5);have WU:=II g ht hn h0 0#5;by_cases q:k∈(sdF r k).2
   .have e:sdF r (k+1)=sdF r k:=by rw[sdF,if_pos q]
    obtain⟨x0,hx0,Uo⟩:=(i1 k).mp q;have hf:pC T t n k=d_:=by
     cases w:pC T t n k<;>simp_all
    rw[e];refine⟨λy=>(i1 y).trans ⟨?_,?_⟩,?_⟩
    .rintro ⟨x,hx,hm⟩;exact⟨x,by exact dD 0#5,hm⟩
    .rintro ⟨x,hx,hm⟩
     by_cases hxk:x=k
     .subst hxk;exact⟨x0,hx0,lB g ht h0 (by exact aX 1#6 0#5) Uo hm⟩
     grind
    .rw[i2,yb,hf];simp
   .have e:sdF r (k+1)=((sdF r k).1++[srt (r k)],(sdF r k).2++r k):=by rw[sdF,if_neg q]
    have hf:=WU.mpr λh=>q ((i1 k).mpr h);rw[e];refine⟨λy=>?_,?_⟩
    .grind
    .rw[i2,yb,hf,oA (hr k)];simp
theorem Mv{t:Nat}(h:Rch T [t] x):∃i,x=pw T t i:=by
 induction h with
 |zero=>exact⟨0,rfl⟩
 | step _ hy ih=>
   obtain⟨i,rfl⟩:=ih;simp at hy;subst hy;exact⟨i+1,rfl⟩
theorem Hc{T:Nat->Nat->Nat}{t:Nat}:∀i,Rch T [t] (pw T t i)
 |0=>.zero
 |i+1=>.step (Hc i) 0#4
def pws(T:Nat->Nat->Nat)(t n:Nat):List Nat:=(ao n).map (pw T t)
section
variable {m:Nat}{T:Nat->Nat->Nat}{t n:Nat}
theorem qQ{S:Sto}(g:Grp m T)(hm:m<64){a b:Nat}(ha:a<m)(hb:b<m)(he:t=T a (unT m T b))(hn0:1<=n)(hn:n<64)(h1:∀k,1<=k->k<n->pw T t k≠0)(h0:pw T t n=0):
  ∃r S',kP [tab m T,.tup 3#0] S=a_ (.ref r,S')/\Ex S S'/\0#7<=r/\S'[r]?=a_ (.lst (qU (iC m T t n))):=by
 have ht:t<m:=by rw[he];exact g.cl _ _ ha (j6 g hb).1
 obtain⟨ks,S1,e1,x1,d⟩:=(show ∃ks S',_G.run 2 2 spM [tab m T,.tup (ax ([t]))] S=a_ (.tup (ax (srt ks)),S')/\Ex S S'/\Dfs m T ([t]) ks λ_=>False from M4 g hm (by simpa using ht) (.inl rfl))
 have hp:=(show ks.Perm (pws T t n) by
   refine Lv d.nd ?_ λx=>?_
   .unfold pws
    rw[ay,aW];refine bM ?_ (eG);intro a b ha hb ZU e;have hb:=aA.mp hb;exact h1 _ 0#0 0#0 (DJ g ht (by exact aI 0#0) e)
   .rw[d.all]
    constructor
    .intro h
     obtain⟨i,rfl⟩:=Mv h;refine aw.mpr ⟨i%n,aA.mpr (jw _ 0#5),?_⟩;have:∀q r,pw T t (n*q+r)=pw T t r:=λq=>by
      induction q with
      |zero=>simp_all
      |succ q ih=>intro r;rw[Nat.mul_succ,eU,ih,Ey g ht h0]
     have e:=this (i/n) (i%n);rw[B9]at e<;>simp_all
    .intro h
     obtain⟨i,_,rfl⟩:=aw.mp h
     exact Hc i)
 obtain⟨S2,e2,x2,q2⟩:=Ls g hm (by rw[mG,hp.length_eq];simpa [pws]using hn) (λx hx=>d.lt x (fM.mp hx));have hs:JD m T (srt ks) c_=iC m T t n:=by
  refine(Ep g ht 0#5 h0 (λx=>?_) m (ak _)).2;show(rN _ _).Perm _;have:(rN (λo=>if c_=c_ then T x o else T o x) (srt ks))=(srt ks).map (T x):=by simp
  refine(((lL ks).trans hp).map (T x)).trans ?_;rw[show(pws T t n).map _=orb T t n x by simp[pws,orb,bq]]
 rw[hs]at q2;have et:=EH (S:=S) g ha hb;rw[<-he]at et;have e3:=Ke (cP (a:=ae 0) (b:=ae 1) (G:= [a_ _,a_ _]) 0#1 0#1 et);exact⟨_,_,cK rfl (cz (cP (f:=l7) (a:=ae 0) 0#1 (cP (f:=Dn) (a:=ae 0) 0#1 e3 e1) e2)),x1.trans x2,x1.len,q2⟩
end
section
variable {m:Nat}{T:Nat->Nat->Nat}{t n:Nat}
end
section
variable {m:Nat}{T:Nat->Nat->Nat}{S:Sto}
def stp(a b c:Nat):Nat:=if c=0 then a else b
def dK(a b:Nat)(L:List (List Nat))(c:List Nat):Nat->List (_L.Key×U)
 |0=>[]
 |k+1=>xu (dK a b L c k) (L.getD k []) (stp a b (c.getD k 0))
def sK(a b:Nat)(L:List (List Nat))(c:List Nat):Nat->Nat->Option Nat
 |0,_=>b_
 |k+1,x=>if x∈L.getD k [] then a_ (stp a b (c.getD k 0)) else sK a b L c k x
theorem Jc{a b x:Nat}{L:List (List Nat)}{c:List Nat}:∀k,j0 (dK a b L c k) (.inl (x:Int))=(sK a b L c k x).map λ(v:Nat)=>U.int (v:Nat)
 |0=>rfl
 | k+1=>by
   rw[dK,Ba,sK]
   split
   .rfl
   .exact Jc k
theorem Hr{a b:Nat}{L:List (List Nat)}{c:List Nat}(h:∀s∈L,s.length<=64):∀k,(dK a b L c k).length<=k*64
 |0=>bS _
 | k+1=>by
   have h1:=Hr (a:=a) (b:=b) (c:=c) h k;have h2:=uV (v:=stp a b (c.getD k 0)) (xs:=L.getD k []) (D:=dK a b L c k);have h3:(L.getD k []).length<=64:=by
    rw[aP];cases q:L[k]? with
    |none=>simp
    |some s=>simpa using h s (bK q)
   rw[dK];lia
theorem vq{a b x y:Nat}{L:List (List Nat)}{c:List Nat}:∀k,sK a b L c k x=a_ y->y=a\/y=b
 |0,h=>by cases h
 | k+1,h=>by
   rw[sK]at h
   split at h
   .injection h with h
    rw[<-h];unfold stp;grind
   .exact vq k h
theorem Ew{a b x:Nat}{L:List (List Nat)}{c:List Nat}:∀k,(∃i,i<k/\x∈L.getD i [])->∃y,sK a b L c k x=a_ y
 |0,⟨i,h,_⟩=>by omega
 | k+1,⟨i,h,hx⟩=>by
   rw[sK];by_cases z:x∈L.getD k []
   .exact⟨_,if_pos z⟩
   .rw[if_neg z]
    refine Ew k ⟨i,?_,hx⟩;rcases ot.mp h with q|q<;>simp_all
theorem wj{a b x y:Nat}{L:List (List Nat)}{c:List Nat}(h:∀s∈L,x∈s↔y∈s):∀k,sK a b L c k x=sK a b L c k y
 |0=>rfl
 | k+1=>by
   have:x∈L.getD k []↔y∈L.getD k []:=by
    rw[aP];cases q:L[k]? with
    |none=>simp
    |some s=>simpa using h s (bK q)
   rw[sK,sK,wj h k]
   grind
def chF(a b:Nat)(L:List (List Nat))(c:List Nat)(x:Nat):Nat:=(sK a b L c L.length x).getD 0
def goF(T:Nat->Nat->Nat)(ch:Nat->Nat)(x:Nat):Nat:=T x (ch x)
theorem EF{t n x:Nat}(g:Grp m T)(ht:t<m)(hn:0<n)(h0:pw T t n=0)(hx:x<m):∃i,i<(iC m T t n).length/\x∈(iC m T t n).getD i []:=by
 have W8:x∈orb T t n x:=aw.mpr ⟨0,aA.mpr hn,g.r0 x hx⟩;obtain⟨y,hy,WU⟩ :∃y∈orb T t n x,∀z∈orb T t n x,y<=z:=by
  have:∀(l:List Nat),l≠[]->∃y∈l,∀z∈l,y<=z:=by
   intro l hl
   induction l with
   |nil=>exact absurd rfl hl
   | cons w l ih=>
     by_cases YZ:l=[]
     .simp_all
     grind
  exact this _ (List.ne_nil_of_mem W8)
 have YD:y<m:=by
  obtain⟨i,_,rfl⟩:=aw.mp hy;exact g.cl _ _ hx (gy g ht i)
 have Yr:=jI g ht hn h0 hx hy;have hmy:=kc.mpr λz hz=>WU z (lB g ht h0 hx hy hz);have XE:srt _∈iC m T t n:=aw.mpr ⟨y,bw.mpr ⟨aA.mpr YD,hmy⟩,rfl⟩;obtain⟨i,hi,e⟩:=kI.mp XE;refine⟨i,hi,?_⟩;rw[aP,aC hi];rw[e];exact fM.mpr Yr
theorem AD{t n x:Nat}(g:Grp m T)(ht:t<m)(hn:0<n)(h0:pw T t n=0)(hx:x<m):∀s∈iC m T t n,T x t∈s↔x∈s:=by
 intro s hs;obtain⟨y,hy,rfl⟩:=aw.mp hs;have YD:=aA.mp (bw.mp hy).1;have SK:T x t∈orb T t n x:=by
  by_cases h1:n=1
  .subst h1
   have:=by have:T 0 t=0:=h0;rwa[g.l0 t ht]at this
   subst this;exact aw.mpr ⟨0,by simp,rfl⟩
  .refine aw.mpr ⟨1,aA.mpr 0#0,?_⟩
   show T x (T 0 t)=T x t;rw[g.l0 t ht]
 rw[fM,fM];constructor
 .intro h
  exact lB g ht h0 YD h (jI g ht hn h0 hx SK)
 .intro h
  exact lB g ht h0 YD h SK
theorem EC{t n:Nat}(hn:n<=64):∀s∈iC m T t n,s.length<=64:=λs hs=>by
 obtain⟨y,_,rfl⟩:=aw.mp hs;rw[mG];simpa [orb]using hn
theorem Oh{t n:Nat}(g:Grp m T)(ht:t<m):∀s∈iC m T t n,Lt m s:=λs hs x hx=>by
 obtain⟨y,hy,rfl⟩:=aw.mp hs;obtain⟨i,_,rfl⟩:=aw.mp (fM.mp hx);exact g.cl _ _ (aA.mp (bw.mp hy).1) (gy g ht i)
variable{c:List Nat}
theorem sJ{a b t n x:Nat}(g:Grp m T)(ht:t<m)(hn:0<n)(h0:pw T t n=0)(hx:x<m):sK a b (iC m T t n) c (iC m T t n).length x=a_ (chF a b (iC m T t n) c x):=by
 obtain⟨y,hy⟩:=Ew _ (EF g ht hn h0 hx);unfold chF;rw[hy];rfl
theorem go_inj{a b n:Nat}(g:Grp m T)(ha:a<m)(hb:b<m)(hn:0<n)(h0:pw T (T a (unT m T b)) n=0):Inj m (goF T (chF a b (iC m T (T a (unT m T b)) n) c)):=by
 have hu:=g9 g hb;have ht:=g.cl _ _ ha hu;generalize hL:iC m T _ n=L;have val:∀x,x<m->chF a b L c x=a\/chF a b L c x=b:=λx hx=>by
  have:=sJ (a:=a) (b:=b) (c:=c) g ht hn h0 hx;rw[hL]at this;exact vq _ this
 have same:∀x,x<m->chF a b L c _=chF a b L c x:=λx hx=>by
  unfold chF;rw[wj (λs hs=>AD g ht hn h0 hx s (hL▸hs))]
 have lt:∀x,x<m->chF a b L c x<m:=λx hx=>by rcases val x hx with e |e<;>rw[e]<;>assumption
 have key:∀x y,x<m->y<m->T x a=T y b->y=T x _:=λx y hx hy e=>by
  rw[<-g.as x a _ hx ha hu,e,g.as y b _ hy hb hu,LH g hb,g.r0 y hy]
 refine⟨λx hx=>g.cl _ _ hx (lt x hx),λx y hx hy e=>?_⟩;unfold goF at e;by_cases hc:chF a b L c x=chF a b L c y
 .rw[hc]at e
  exact g.cancelR (lt y hy) hx hy e
 .rcases val x hx with e1|e1<;>rcases val y hy with e2|e2
  .grind
  .rw[e1,e2]at e
   have h:=same x hx;rw[<-key x y hx hy e]at h<;>simp_all
  .rw[e1,e2]at e
   have h:=same y hy;rw[<-key y x hy hx e.symm]at h;exact absurd h hc
  grind
theorem xS{g:MG}{b:MS}{n:Nat}{us:List U}(xs:List U)(hlen:1#1=1#2)(P:Nat->Rho->Sto->Prop)(hl:∀k G S,P k G S->getL S n=a_ xs)
  (st:∀(k:Nat) (x y:U) (G:Rho) (S:Sto),xs[k]?=a_ x->us[k]?=a_ y->P k G S->∃Y5 S1 Y4 S',g (.tup [x,y]) G S=a_ (Y5,S1)/\b Y5 S1=a_ (.nx,Y4,S')/\P (k+1) Y4 S'):
  ∀(f k:Nat) (G:Rho) (S:Sto),k<=1#2->1#2-k<f->P k G S->∃Y4 S',tE g b n us f k G S=a_ (.nx,Y4,S')/\P xs.length Y4 S'
 |0,k,G,S,h1,h2,_=>by lia
 | f+1,k,G,S,h1,h2,hp=>by
   unfold tE;rw[hl k G S hp];simp;by_cases hk:k<1#2
   .have hu:xs[k]?=a_ xs[k]:=by simp
    have hv:us[k]?=a_ us[k]:=by simp
    obtain⟨G',S0,Y5,S1,e0,e1,p1⟩:=st k _ _ G S hu hv hp;obtain⟨X0,S2,e2,p2⟩:=xS xs hlen P hl st f _ _ S1 0#5 0#0 p1;refine⟨_,S2,?_,p2⟩;simp[hu,hv,e0,aft,e1,e2]
   grind
def zgM(F:MF):MS:=aY (bC 3 qH) (aY (wG (gTp 2 (iD (gN 4) (iD (gN 5) tW))) (CM (aa (mFn F 2#9) 1#8)) (fv 6 (dq (ae 4)) (gv (ae 3) (ae 6) (m2 oIx (ae 1) (ae 5))))) (cn (ae 3)))
theorem On{F:MF}{a b:Nat}{L:List (List Nat)}{c:List Nat}{tb:U}(hF:∀S,∃r S',F [tb,.tup 3#0] S=a_ (.ref r,S')/\Ex S S'/\S'[r]?=a_ (.lst (qU L)))(hL:∀s∈L,s.length<=64)(hl:L.length<64)(hc:c.length=L.length)(XT:∀x∈c,x<2):
  ∃d S',_G.run 3 7 (zgM F) [tb,.tup 3#0,.tup (ax c)] S=a_ (.ref d,S')/\Ex S S'/\S'[d]?=a_ (.dic (dK a b L c L.length)):=by
 obtain⟨r,S1,e1,x1,g1⟩:=hF (S++[Cell.dic []]);have d1:=x1.some (b9 _ _);have M':r≠0#7:=λz=>by grind
 have hz:(qU L).length=L.length:=by simp[tups]
 obtain⟨X0,S2,e2,⟨u4,u5,u6,rfl⟩,x2,q2,r2⟩:=xS (g:=gTp 2 (iD (gN 4) (iD (gN 5) tW))) (qU L) (by rw[cm,hz,hc])
  (λk G S'=>(∃u4 u5 u6,G = [a_ tb,a_ (.tup [.int a,.int b]),a_ (.tup (ax c)),2#0,u4,u5,u6])/\Ex S S'/\S'[S.length]? = a_ (.dic (dK a b L c k))/\S'[r]? = a_ _) (λk G S' hp=>by unfold getL;rw[hp.2.2.2]) (by
   rintro k x y G S' hx hy ⟨⟨u4,u5,u6,rfl⟩,xs,qs,rs⟩;have hk:=by have:=(ag.mp hx).1;omega
   have US:x=.tup (ax (L.getD k [])):=by
    unfold qU tups at hx<;>simp_all
   subst US;have hkc:k<c.length:=by lia
   have Yc:y=.int (c.getD k 0):=by
    unfold ax at hy<;>simp_all
   subst Yc;have YQ:c.getD k 0<2:=by simp_all
   have hsl:(L.getD k []).length<=64:=by simp_all
   have Ys:=Hr (a:=a) (b:=b) (c:=c) hL k;generalize hsd:L.getD k []=sd at *;have hv:∀(z:Option U) (S':Sto),m2 oIx (ae 1) (ae 5) [a_ tb,a_ (.tup [.int a,.int b]),a_ (.tup (ax c)),2#0,a_ (.tup (ax sd)),a_ (.int (c.getD k 0)),z] S'=a_ (.int (stp a b (c.getD k 0)),S'):=λz S'=>by
    generalize c.getD k 0=cc at YQ;rcases ot.mp YQ with q|q
    .have:cc=0:=by lia
     subst this;rfl
    .subst q;rfl
   obtain⟨X7,S3,e3,⟨u6',rfl⟩,x3,q3,r3⟩:=sP (i:=6) (e:=ae 4) 0#1
    (λj G S3=>(∃z,G=[a_ tb,a_ (.tup [.int a,.int b]),a_ (.tup (ax c)),2#0,a_ (.tup (ax sd)),a_ (.int (c.getD k 0)),z])/\Ex S S3/\S3[0#7]?=a_ (.dic (xu (dK a b L c k) (sd.take j) (stp a b (c.getD k 0))))/\S3[r]?=a_ _)
    ⟨⟨_,rfl⟩,xs,by simpa [xu]using qs,rs⟩ (by
     rintro j u G S3 hu ⟨⟨z,rfl⟩,x3,q3,r3⟩;obtain⟨w,hw,rfl⟩:=kn hu;have ZJ:=uV (v:=stp a b (c.getD k 0)) (xs:=sd.take j) (D:=dK a b L c k);have htl:(sd.take j).length<=64:=by rw[c6];lia
     have:=Ml (G:= [a_ tb,a_ _,a_ _,a_ _,a_ _,a_ _,a_ (.int w)]) (o:=ae 3) (i:=ae 6) (hv _ S3) 0#1 0#1 q3 (by
      unfold big;lia)
     refine⟨_,_,this,⟨_,rfl⟩,x3.set (ak _),?_,?_⟩
     .rw[aV (ag.mp q3).1,fg,hw]
      simp[xu]
     ·rw[aN (λz=>M' z.symm)];omega)
   rw[cm,cR (ak _)]at q3;refine⟨_,_,_,S3,rfl,e3,⟨_,_,_,rfl⟩,x3,?_,r3⟩
   rw[dK,hsd];omega) fuel 0 _ S1 (bS _) (by rw[hz];exact ai (by omega) (by decide)) ⟨⟨_,_,_,rfl⟩,(Ex.push _ _).trans x1,d1,g1⟩
 rw[hz]at q2;have hi:CM (aa (mFn F 2#9) 1#8) [a_ tb,a_ (.tup [.int a,.int b]),a_ (.tup (ax c)),2#0,b_,b_,b_] (S++[Cell.dic []])=a_ (.zlt r (ax c),S1):=by
  have h1:=mc (cP (a:=ae 0) (b:=ae 1) (G:= [a_ tb,a_ _,a_ (.tup (ax c)),2#0,b_,b_,b_]) 0#1 0#1 e1) (mc (a:=ae 2) 0#1 (show ah _ _=_ from rfl));have h2:getL S1 r=a_ (qU L):=by unfold getL;rw[g1]
  simp[CM,h1,aF,h2,dr]
 have ef:wG (gTp 2 (iD (gN 4) (iD (gN 5) tW))) (CM (aa (mFn F 2#9) 1#8)) (fv 6 (dq (ae 4)) (gv (ae 3) (ae 6) (m2 oIx (ae 1) (ae 5)))) [a_ tb,a_ (.tup [.int a,.int b]),a_ (.tup (ax c)),2#0,b_,b_,b_] (S++[Cell.dic []])=a_ (.nx,[a_ tb,a_ (.tup [.int a,.int b]),a_ (.tup (ax c)),2#0,u4,u5,u6],S2):=by
  unfold wG;rw[hi];exact e2
 exact⟨_,S2,cK rfl ((aL (bh rfl)).trans ((aL ef).trans (cz 0#1))),x2,q2⟩
end
section
variable {m:Nat}{T:Nat->Nat->Nat}{S:Sto}{D:List (_L.Key×U)}{ch:Nat->Nat}
structure Cho(m:Nat)(T:Nat->Nat->Nat)(D:List (_L.Key×U))(ch:Nat->Nat):Prop where
 val:∀x,x<m->j0 D (.inl ((x:Nat):Int))=a_ (.int (ch x:Nat))
 lt:∀x,x<m->ch x<m
 inj:Inj m (goF T ch)
theorem Kh{c c':Cell}:(S++[c]).set S.length c'=S++[c']:=by
 grind
theorem LR{G:Rho}{e:ME}{d y:Nat}(C:Cho m T D ch)(h0:ae 0 G S=a_ (tab m T,S))(h1:ae 1 G S=a_ (.ref d,S))(hd:S[d]?=a_ (.dic D))(hy:y<m)(he:e G S=a_ (.int (y:Nat),S)):m2 oIx (m2 oIx 0#3 e) (m2 oIx (ae 1) e) G S=a_ (.int (goF T ch y:Nat),S):=
 ki (C.lt y hy) (jo hy h0 he) (NG h1 he hd (C.val y hy))
def rfB:MS:=aY (eJ (mML de (ae 3) 2#3)) (bC 4 (m2 oIx (m2 oIx 0#3 (ae 4)) (m2 oIx (ae 1) (ae 4))))
theorem LN{d x:Nat}(C:Cho m T D ch)(hm:m<64)(hd:S[d]?=a_ (.dic D))(hx:x<m):kR [tab m T,.ref d,.int (x:Nat)] S=a_ (.tup (ax (rg m (goF T ch) x)),S++[.lst (ax (rg m (goF T ch) x))]):=by
 obtain⟨p1,p2,p3,p4⟩:=iq C.inj hx;unfold rg;generalize hn:gw m (goF T ch) x=n at p1 p2 p3 p4;obtain⟨Y5,S1,e1,rfl,rfl⟩:=ur (b:=rfB) (λμ G S'=>∃j,1<=j/\j<=n/\μ=n-j/\G=[0#8,a_ (.ref d),a_ (.int (x:Nat)),2#0,a_ (.int (itF (goF T ch) j x:Nat))]/\S'=S++[.lst (ax (rgK (goF T ch) x j))])
  (λG S'=>G = [0#8,a_ (.ref d),a_ (.int (x:Nat)),2#0,a_ (.int (itF (goF T ch) n x:Nat))]/\S'=S++[.lst (ax (rgK (goF T ch) x n))]) (by
  rintro μ G S' ⟨j,j1,j2,rfl,rfl,rfl⟩;have ec:=of_eq (Fe (G:= [0#8,a_ (.ref d),a_ (.int (x:Nat)),2#0,a_ _]) (S:=S++[.lst (ax (rgK (goF T ch) x j))]) (a:=ae 4) (b:=ae 2) (x:=itF (goF T ch) j x) (y:=x) 0#1 0#1);refine⟨_,_,ec,λhf=>?_,λhf=>?_⟩
  .have ZI:=by simpa using hf
   have:j=n:=by
    apply ij;intro z;exact p4 j j1 (by exact bH 0#5 0#5) ZI
   subst this;exact⟨rfl,rfl⟩
  .have ZI:=by simpa using hf
   have hj:j<n:=by
    apply ij;intro z;have:j=n:=by lia
    subst this;exact ZI p3
   have ea:=append_eq (G:= [0#8,a_ (.ref d),a_ (.int (x:Nat)),2#0,a_ (.int (itF (goF T ch) j x:Nat))]) (S:=S++[.lst (ax (rgK (goF T ch) x j))]) (o:=ae 3) (a:=ae 4) 0#1 0#1 (b9 _ _) (b9 _ _) (by rw[cm,EA];unfold big;lia);have hs:(S++[Cell.lst (ax (rgK (goF T ch) x j))]).set S.length (.lst (ax (rgK (goF T ch) x j)++[.int (itF (goF T ch) j x:Nat)]))=S++[.lst (ax (rgK (goF T ch) x (j+1)))]:=by
    rw[Kh,qT];simp[ax]
   rw[hs]at ea;have XZ:(S++[Cell.lst (ax (rgK (goF T ch) x (j+1)))])[d]?=a_ (.dic D):=(Ex.push _ _).some hd
   refine⟨_,_,n - (j+1),by lia,(aL ea).trans (bh (LR C rfl rfl XZ (jj C.inj hx j) (var_eq rfl))),j+1,by exact dD (by assumption),by assumption,rfl,rfl,rfl⟩) fuel (n - 1) _ (S++[.lst (ax [x])]) (by unfold fuel;lia) ⟨1,ak _,p1,rfl,rfl,rfl⟩
 refine cK (G:= [0#8,a_ (.ref d),a_ (.int (x:Nat)),2#0,a_ (.int (itF (goF T ch) n x:Nat))]) rfl ?_;have XZ:(S++[Cell.lst [U.int (x:Nat)]])[d]?=a_ (.dic D):=(Ex.push _ _).some hd;exact(aL (bh (EW 0#1))).trans ((aL (bh (LR C rfl rfl XZ hx 0#1))).trans ((aL e1).trans (cz (kA 0#1 (b9 _ _)))))
end
section
variable {m:Nat}{T:Nat->Nat->Nat}{S:Sto}{a b p:Nat}{c:List Nat}
abbrev tOf(m:Nat)(T:Nat->Nat->Nat)(a b:Nat):Nat:=T a (unT m T b)
abbrev lOf(m:Nat)(T:Nat->Nat->Nat)(a b p:Nat):List (List Nat):=iC m T (tOf m T a b) p
abbrev dW(m:Nat)(T:Nat->Nat->Nat)(a b p:Nat)(c:List Nat):Nat->Nat:=chF a b (lOf m T a b p) c
abbrev rOf(m:Nat)(T:Nat->Nat->Nat)(a b p:Nat)(c:List Nat):Nat->List Nat:=rg m 3#1
abbrev dOf(m:Nat)(T:Nat->Nat->Nat)(a b p:Nat)(c:List Nat):List (_L.Key×U):=dK a b (lOf m T a b p) c (lOf m T a b p).length
structure Two(m:Nat)(T:Nat->Nat->Nat)(a b p:Nat)(c:List Nat):Prop where
 g:Grp m T
 hm:m<60
 ha:a<m
 hb:b<m
 n0:1<=p
 n:p<60
 h1:∀k,1<=k->k<p->pw T (tOf m T a b) k≠0
 h0:pw T (tOf m T a b) p=0
 cl:c.length=(lOf m T a b p).length
 c2:∀x∈c,x<2
theorem Two.cho(w:Two m T a b p c):Cho m T (dOf m T a b p c) (dW m T a b p c):=by
 have ht:=w.g.cl _ _ w.ha (g9 w.g w.hb);have hv:∀x,x<m->sK a b _ c _ x=a_ (dW m T a b p c x):=λx hx=>sJ w.g ht w.n0 w.h0 hx;refine⟨λx hx=>?_,λx hx=>?_,go_inj w.g w.ha w.hb w.n0 w.h0⟩
 .rw[Jc,hv x hx];rfl
 .rcases vq _ (hv x hx) with e|e
  .rw[e];exact w.ha
  .rw[e];exact w.hb
theorem Two.len(w:Two m T a b p c):(lOf m T a b p).length<60:=aM HI w.hm
theorem yf(w:Two m T a b p c):∃d S',iX [tab m T,.tup 3#0,.tup (ax c)] S=a_ (.ref d,S')/\Ex S S'/\S'[d]?=a_ (.dic (dOf m T a b p c)):=
 On (λS=>by
  obtain⟨r,S',e,x,_,q⟩:=qQ w.g (by have:=w.hm;exact ai 1#6 0#2) w.ha w.hb rfl w.n0 (by have:=w.n;exact ai 1#6 0#2) w.h1 w.h0
  exact⟨r,S',e,x,q⟩) (EC (by have:=w.n;lia)) (by have:=w.len;exact ai (by omega) (by decide)) w.cl w.c2
theorem Ie{G:Rho}{e:ME}{d i j:Nat}{l:List Nat}(w:Two m T a b p c)(he:e G S=a_ (.tup (ax l),S))(hl:Lt m l)(hll:l.length<1000)(hd:S[d]?=a_ (.dic (dOf m T a b p c)))(hi:∀z,(G++[z])[i]?=a_ (a_ (.ref d)))(hj:∀z,(G++[z])[j]?=a_ z):mFn bQ (aa (bY (dq e) cTT (m2 oIx (ae i) (ae j))) ah) G S=a_ (.tup (ax (l.map (dW m T a b p c))),S++[.lst (ax (l.map (dW m T a b p c)))]):=by
 have h:=nI he (by exact ai 1#6 0#2) (λx hx=>NG (var_eq (hi _)) (var_eq (hj _)) hd (w.cho.val x (hl x hx)));rw[show(l.map _)=ax (l.map (dW m T a b p c)) by simp[ax]]at h;exact fh h
theorem zq(w:Two m T a b p c):∃S',iI [tab m T,.tup 3#0,.tup (ax c)] S=a_ (if gw m 3#1 0=m then .tup (ax ((rOf m T a b p c 0).map (dW m T a b p c))) else .non,S')/\Ex S S':=by
 obtain⟨d,S1,e1,x1,g1⟩:=yf w;have C:=w.cho;have hm:=w.hm;have hp:=w.g.pos;have e2:=LN C (by exact ai 1#6 0#2) g1 hp;have g2:(S1++[Cell.lst (ax (rOf m T a b p c 0))])[d]?=a_ _:=(Ex.push _ _).some g1;have x2:Ex S (S1++[Cell.lst (ax (rOf m T a b p c 0))]):=x1.trans (Ex.push _ _);generalize Us:S1++[Cell.lst _]=S2 at e2 g2 x2;have hl:=by
  have:=AR (G:= [0#8,a_ (.tup [.int a,.int b]),a_ (.tup (ax c)),a_ (.ref d),a_ (.tup (ax (rOf m T a b p c 0)))]) (S:=S2) (a:=ae 4) 0#1;rwa[cm,mF]at this
 have ec:=of_eq (Fy (b:=mFn _ (aa 0#3 _)) hl (len_tab 0#1));have et:=Ie (G:= [0#8,a_ (.tup [.int a,.int b]),a_ (.tup (ax c)),a_ _,a_ _]) (e:=ae 4) (i:=3) (j:=5) w 0#1 (Hl C.inj hp) (by rw[mF];have:=Dk C.inj hp;exact aM 1#6 (ai 1#6 0#2)) g2 (λ_=>rfl) (λ_=>rfl);by_cases z:gw m 3#1 0=m
 .rw[decide_eq_true z]at ec
  have ei:Da (cOf (m2 oEq (mFn cp 2#3) (mFn cp (aa 0#3 ah)))) (mFn bQ (aa (bY (dq (ae 4)) cTT (m2 oIx (ae 3) (ae 5))) ah)) (mC .non) [0#8,a_ (.tup [.int a,.int b]),a_ (.tup (ax c)),a_ (.ref d),a_ (.tup (ax (rOf m T a b p c 0)))] S2=a_ (.tup (ax ((rOf m T a b p c 0).map (dW m T a b p c))),S2++[.lst (ax ((rOf m T a b p c 0).map (dW m T a b p c)))]):=by
   simp[Da,ec];exact et
  rw[if_pos z];exact⟨_,cK rfl ((aL (bh (kj 0#1 0#1 0#1 e1))).trans ((aL (bh (kj 0#1 0#1 (c_i) e2))).trans (cz ei))),x2.trans (Ex.push _ _)⟩
 .rw[decide_eq_false z]at ec
  have ei:Da (cOf (m2 oEq (mFn cp 2#3) (mFn cp (aa 0#3 ah)))) (mFn bQ (aa (bY (dq (ae 4)) cTT (m2 oIx (ae 3) (ae 5))) ah)) (mC .non) [0#8,a_ (.tup [.int a,.int b]),a_ (.tup (ax c)),a_ (.ref d),a_ (.tup (ax (rOf m T a b p c 0)))] S2=a_ (.non,S2):=by
   simp[Da,ec];rfl
  rw[if_neg z];exact⟨_,cK rfl ((aL (bh (kj 0#1 0#1 0#1 e1))).trans ((aL (bh (kj 0#1 0#1 (c_i) e2))).trans (cz ei))),x2⟩
end
variable{j:Nat}
theorem JA{l:List Nat}(nd:l.Nodup)(hi:i<l.length)(hj:j<l.length)(e:l[i]=l[j]):i=j:=by
 have h:=di.mp (ay.mp nd);rcases m8 i j with q|q|q
 .simp_all
 .omega
 .exact absurd e.symm (h j i hj hi q)
section
variable {m:Nat}{T:Nat->Nat->Nat}{st:List Nat}
theorem Me{f:Nat->Nat}(h:Inj m f)(hp:0<m)(hm:gw m f 0=m){i j:Nat}(YN:i<j)(hj:j<m):itF f i 0≠itF f j 0:=λe=>by
 have q:=(iq h hp).2.2.2;rw[show j=i+(j-i) by lia,kO]at e;exact q _ 0#0 0#0 (uw h hp (jj h hp _) i e).symm
theorem HY(g:Grp m T){ch:Nat->Nat}(h:Inj m (goF T ch))(hv:∀x,x<m->ch x∈st)(hs:∀s∈st,s<m)(hm:gw m (goF T ch) 0=m):∀(k i:Nat) (left:List Nat),i+k+1=m->(∀y,y∈left ↔ ∃j,i<j/\j<m/\y=itF (goF T ch) j 0) ->
  (ba i (k+1)).map (λj=>ch (itF (goF T ch) j 0))∈se T st (qJ m T st) k (itF (goF T ch) i 0) left
 | 0,i,left,hi,hl=>by
   have hx:=jj h g.pos i;have e:=by
    have:=(iq h g.pos).2.2.1;rw[hm,show m=i+1 by lia]at this;omega
   have hc:=hv _ hx;have e2:=DX g hx (hs _ hc) e;unfold se qJ
   simp_all
 | k+1,i,left,hi,hl=>by
   have hx:=jj h g.pos i;have hc:=hv _ hx;have ZI:=(hl _).mpr ⟨_,bV _,by lia,rfl⟩;refine kg.mpr ⟨_,bw.mpr ⟨hc,decide_eq_true ZI⟩,?_⟩;refine aw.mpr ⟨(ba (i+1) (k+1)).map (λj=>ch (itF (goF T ch) j 0)),?_,?_⟩
   .refine HY g h hv hs hm k _ _ 0#0 λy=>?_
    rw[bw,hl y];constructor
    .rintro ⟨⟨j,j1,j2,rfl⟩,ZN⟩
     refine⟨j,?_,j2,rfl⟩;rcases fG j1 with q|q
     .omega
     .rw[<-q]at ZN
      rw[show itF _ _ 0=T _ _ from rfl]at ZN<;>simp_all
    .rintro ⟨j,j1,j2,rfl⟩
     refine⟨⟨j,by lia,j2,rfl⟩,?_⟩;have:=Me h g.pos hm j1 j2;have:itF _ j 0≠T _ _:=λz=>this z.symm<;>simp_all
   .rfl
variable{ch:Nat->Nat}
theorem Ed(g:Grp m T)(h:Inj m (goF T ch))(hv:∀x,x<m->ch x∈st)(hs:∀s∈st,s<m)(hm:gw m (goF T ch) 0=m):(rg m (goF T ch) 0).map ch∈gH m T st:=by
 have hp:=g.pos;have:=HY g h hv hs hm (m-1) 0 (ba 1 (m-1)) 0#0 λy=>by
  rw[xb];constructor
  .intro hy
   have:=(uJ h hp).mp hm y 0#0;obtain⟨j,hj,rfl⟩:=aw.mp this;rw[hm]at hj;refine⟨j,?_,aA.mp hj,rfl⟩;cases j with
   |zero=>have h0:itF (goF T ch) 0 0=0:=rfl;lia
   |succ j=>exact Nat.succ_pos _
  .rintro ⟨j,j1,j2,rfl⟩
   have h1:=jj h hp j;have h2:=Me h hp hm j1 j2;have h0:itF (goF T ch) 0 0=0:=rfl
   lia
 rw[mQ hp,<-rM]at this;unfold rg rgK;rw[hm,bq];exact this
def trl(T:Nat->Nat->Nat):Nat->List Nat->List Nat
 |h,[]=>[h]
 |h,s::w=>h::trl T (T h s) w
theorem EJ:∀(w:List Nat) (h:Nat),(trl T h w).length=w.length+1
 |[],h=>rfl
 |s::w,h=>by simp[trl,EJ w]
variable{w:List Nat}
theorem LX{h:Nat}:(trl T h w).getD 0 0=h:=by cases w<;>rfl
theorem Aw:∀(w:List Nat) (h i:Nat),i<w.length->(trl T h w).getD (i+1) 0=T ((trl T h w).getD i 0) (w.getD i 0)
 |[],h,i,hi=>by simp at hi
 | s::w,h,0,hi=>by
   show(trl T _ w).getD 0 0=_;rw[LX];rfl
 | s::w,h,i+1,hi=>by
   have:=Aw w (T h s) i (by simpa using hi);exact this
theorem Iw(g:Grp m T)(hs:∀s∈st,s<m):∀(k h:Nat) (left w:List Nat),h<m->w∈se T st (qJ m T st) k h left->w.length=k+1/\(∀s∈w,s∈st) /\ ∃l:List Nat,trl T h w=h::l++[0]/\l.Nodup/\(∀x∈l,x∈left)
 | 0,h,left,w,hh,e=>by
   unfold se qJ at e;by_cases z:unT m T h∈st
   .rw[if_pos z]at e
    simp at e;subst e;refine⟨rfl,by simpa using z,[],?_,by simp,by simp⟩;simp[trl,LH g hh]
   simp_all
 | k+1,h,left,w,hh,e=>by
   obtain⟨s,YF,e⟩:=kg.mp e;obtain⟨v,hv,rfl⟩:=aw.mp e;obtain⟨s1,s2⟩:=bw.mp YF;obtain⟨i1,i2,l,i3,i4,i5⟩:=Iw g hs k _ _ v (g.cl _ _ hh (hs s s1)) hv;refine⟨by simp[i1],?_,T h s::l,?_,?_,?_⟩
   .grind
   .show h::trl T _ v=_<;>simp_all
   .grind
   grind
structure Rdw(m:Nat)(T:Nat->Nat->Nat)(st w:List Nat)(x:Nat->Nat):Prop where
 len:w.length=m
 st:∀i,i<m->w.getD i 0∈st
 z:x 0=0
 e:x m=0
 step:∀i,i<m->x (i+1)=T (x i) (w.getD i 0)
 inj:∀i j,i<m->j<m->x i=x j->i=j
 sur:∀y,y<m->∃i,i<m/\x i=y
 lt:∀i,i<m->x i<m
theorem Cq(g:Grp m T)(hs:∀s∈st,s<m)(hw:w∈gH m T st):∃x,Rdw m T st w x:=by
 have hp:=g.pos;obtain⟨h1,h2,l,h3,h4,h5⟩:=Iw g hs _ 0 _ w hp hw;rw[mQ hp]at h1;have hl:=by
  have:=congrArg eV h3;rw[EJ]at this;simp at this;omega
 have n0:0∉l:=λz=>by grind
 have nd:=eg.mpr ⟨n0,h4⟩;have lt:∀y∈(0::l),y<m:=λy hy=>by
  grind
 have al:All m _:=⟨nd,lt,by simp;omega⟩;have ll:(0::l).length=m:=by simp;omega
 have gx:∀i (hi:i<m),(trl T 0 w).getD i 0=(0::l)[i]'(by rw[ll];omega):=λi hi=>by
  rw[h3,aP,aT (by rw[ll];omega),aC _];rfl
 refine⟨λi=>(trl T 0 w).getD i 0,h1,λi hi=>?_,LX,?_,λi hi=>Aw w 0 i 0#0,λi j hi hj e=>?_,λy hy=>?_,λi hi=>?_⟩
 .simp_all
 .rw[h3,aP,bj (by simp_all),ll]
  simp
 .rw[gx i hi,gx j hj]at e
  exact JA nd _ _ e
 .obtain⟨i,hi,e⟩:=kI.mp (al.mem hy)
  have ZM:=by rw[ll]at hi;exact hi
  exact⟨i,ZM,(gx i ZM).trans e⟩
 .rw[gx i hi]
  exact lt _ (bP _)
variable{x:Nat->Nat}
theorem Rdw.fn(r:Rdw m T st w x):∃σ:Nat->Nat,∀i,i<m->σ (x i)=w.getD i 0:=by
 refine⟨λy=>w.getD (((ao m).find? λi=>decide (x i=y)).getD 0) 0,λi hi=>?_⟩;show w.getD _ 0=_;cases q:(ao m).find? _ with
 | none=>
   have:=uQ.mp q i (aA.mpr hi);simp at this
 | some j=>
   have h1:=List.find?_some q;have h2:=aA.mp (List.mem_of_find?_eq_some q);rw[r.inj j i h2 hi (of_decide_eq_true h1)];rfl
theorem Rdw.same(r:Rdw m T st w x)(hp:0<m)(hc:∀i,i<m->ch (x i)=w.getD i 0):Inj m (goF T ch)/\gw m (goF T ch) 0=m/\(rg m (goF T ch) 0).map ch=w:=by
 have ZH:∀i,i<m->goF T ch _=x _:=λi hi=>by unfold goF;rw[hc i hi,<-r.step i hi]
 have U7:∀i,i<=m->x i<m:=λi hi=>by
  rcases fG hi with q|q
  .exact r.lt i q
  .rw[q,r.e];exact hp
 have I:Inj m (goF T ch):=by
  refine⟨λy hy=>?_,λy z hy hz e=>?_⟩
  .obtain⟨i,hi,rfl⟩:=r.sur y hy
   rw[ZH i hi];exact U7 _ hi
  .obtain⟨i,hi,rfl⟩:=r.sur y hy
   obtain⟨j,hj,rfl⟩:=r.sur z hz;rw[ZH i hi,ZH j hj]at e;rcases fG (show i+1<=m from hi) with q1|q1
   .rcases fG (show j+1<=m from hj) with q2|q2
    .rw[show i=j by have:=r.inj _ _ q1 q2 e;lia]
    .rw[q2,r.e,<-r.z]at e
     have:=r.inj _ _ q1 hp e
     lia
   .rcases fG (hj) with q2|q2
    .rw[q1,r.e,<-r.z]at e
     have:=r.inj _ _ hp q2 e
     lia
    .rw[show i=j by lia]
 have it:∀i,i<=m->itF (goF T ch) i 0=x i:=by
  intro i
  induction i with
  |zero=>intro _;exact r.z.symm
  | succ i ih=>
    intro hi;show goF T ch _=_;rw[ih 0#0,ZH i hi]
 obtain⟨p1,p2,p3,p4⟩:=iq I hp;have W5:gw m (goF T ch) 0=m:=by
  rcases fG p2 with q|q
  .rw[it _ p2]at p3
   have:=r.inj _ _ q hp (p3.trans r.z.symm)
   lia
  .exact q
 refine⟨I,W5,?_⟩;unfold rg rgK;rw[W5,bq];refine oS (by simp[r.len]) λi h1 h2=>?_;have hi:=by simpa using h1
 rw[gn,List.getElem_range];show ch (itF _ i 0)=_;rw[it i (aI hi),hc i hi,aP,aC h2];rfl
end
section
variable {m:Nat}{T:Nat->Nat->Nat}{a b n:Nat}
variable{y:Nat}
theorem CB(g:Grp m T)(ha:a<m)(hb:b<m)(hy:y<m):T (T y (T a (unT m T b))) b=T y a:=by
 have hu:=g9 g hb;rw[g.as y _ _ hy (g.cl _ _ ha hu) hb,g.as a _ _ ha hu hb,M9 g hb,g.r0 a ha]
variable{σ:Nat->Nat}
theorem HK(g:Grp m T)(ha:a<m)(hb:b<m)(ZU:a≠b)(I:Inj m (goF T σ))(hv:∀x,x<m->σ x=a\/σ x=b)(hy:y<m)(e:σ y=a):∀i,σ (T y (pw T (tOf m T a b) i))=a:=by
 have ht:=g.cl _ _ ha (g9 g hb);have one:∀z,z<m->σ z=a->σ _=a:=λz hz e=>by
  have Ws:=g.cl _ _ hz ht;rcases hv _ Ws with q|q
  .omega
  .have e2:goF T σ (T z (tOf m T a b))=goF T σ z:=by
    unfold goF;rw[q,e];exact CB g ha hb hz
   have e3:=I.inj _ _ Ws hz e2<;>simp_all
 intro i
 induction i with
 |zero=>show σ (T y 0)=a;rw[g.r0 y hy];omega
 | succ i ih=>
   rw[<-qZ g ht hy i];exact one _ (g.cl _ _ hy (gy g ht i)) ih
theorem KF(g:Grp m T)(ha:a<m)(hb:b<m)(ZU:a≠b)(hn:0<n)(h0:pw T (tOf m T a b) n=0)(I:Inj m (goF T σ))(hv:∀x,x<m->σ x=a\/σ x=b){z:Nat}(hy:y<m)(hz:z∈orb T (tOf m T a b) n y):σ y=σ z:=by
 have ht:=g.cl _ _ ha (g9 g hb);have SY:=NL g ht hy hz;have hs:=jI g ht hn h0 hy hz;obtain⟨i,_,hi⟩:=iz.mp hz;obtain⟨j,_,hj⟩:=iz.mp hs;rcases hv y hy with q1|q1
 .have:=HK g ha hb ZU I hv hy q1 i
  rw[q1,hi,this]
 .rcases hv z SY with q2|q2
  .have:=HK g ha hb ZU I hv SY q2 j
   rw[<-hj,q1]at this<;>simp_all
  .rw[q1,q2]
theorem zy{x y:Nat}{L:List (List Nat)}{c:List Nat}:∀k,sK a b L c k x=a_ y->∃i,i<k/\x∈L.getD i []/\y=stp a b (c.getD i 0)
 |0,h=>by cases h
 | k+1,h=>by
   rw[sK]at h;by_cases z:x∈L.getD k []
   .rw[if_pos z]at h
    injection h with h
    exact⟨k,bV _,z,h.symm⟩
   .rw[if_neg z]at h
    obtain⟨i,h1,h2,h3⟩:=zy k h<;>grind
abbrev mnL(m:Nat)(T:Nat->Nat->Nat)(t n:Nat):List Nat:=(ao m).filter (pC T t n)
theorem IX{t:Nat}:(mnL m T t n).Nodup:=List.nodup_range.filter _
theorem rZ{t:Nat}:(iC m T t n).length=(mnL m T t n).length:=by unfold iC;grind
variable{i:Nat}
theorem vv{t:Nat}(hi:i<(iC m T t n).length):(iC m T t n).getD i []=srt (orb T t n ((mnL m T t n)[i]'(by rw[<-rZ];exact hi))):=by
 rw[aP,aC hi];exact gn _
theorem zO{t:Nat}(hi:i<(mnL m T t n).length):(mnL m T t n)[i]<m/\pC T t n (mnL m T t n)[i]=c_:=by
 obtain⟨h1,h2⟩:=bw.mp (bP hi)
 simp_all
theorem ET{c:List Nat}(g:Grp m T){t:Nat}(ht:t<m)(hn:0<n)(h0:pw T t n=0){x:Nat}(hx:x<m)(hi:i<(iC m T t n).length)(h1:x∈(iC m T t n).getD i []):chF a b (iC m T t n) c x=stp a b (c.getD i 0):=by
 obtain⟨j,hj,h2,h3⟩:=zy _ (sJ g ht hn h0 hx)
 rw[h3,(show i=j by
   have ZM:=hi;have Zz:=hj;rw[rZ]at ZM Zz;rw[vv hi,fM]at h1;rw[vv hj,fM]at h2;obtain⟨a1,a2⟩:=zO ZM;obtain⟨b1,b2⟩:=zO Zz;have c1:=lB g ht h0 a1 h1 (jI g ht hn h0 b1 h2);have c2:=jI g ht hn h0 a1 c1;have d1:=kc.mp a2 _ c1;have d2:=kc.mp b2 _ c2
   exact JA IX _ _ (BY d1 d2))]
theorem qc(g:Grp m T)(ha:a<m)(hb:b<m)(ZU:a≠b)(hn:0<n)(h0:pw T (tOf m T a b) n=0){w:List Nat}(hw:w∈gH m T [a,b]):
  ∃c:List Nat,c.length=(lOf m T a b n).length/\(∀x∈c,x<2)/\gw m (goF T (dW m T a b n c)) 0=m/\(rOf m T a b n c 0).map (dW m T a b n c)=w:=by
 have ht:=g.cl _ _ ha (g9 g hb);have hs:∀s∈[a,b],s<m:=λs hs=>by
  simp at hs;rcases hs with rfl|rfl<;>assumption
 obtain⟨x,r⟩:=Cq g hs hw;obtain⟨σ,X3⟩:=r.fn;obtain⟨I,_,_⟩:=r.same g.pos X3;have hv:∀y,y<m->σ y=a\/σ y=b:=λy hy=>by
  obtain⟨i,hi,rfl⟩:=r.sur y hy;rw[X3 i hi];simpa using r.st i hi
 refine⟨(mnL m T _ n).map λy=>if σ y=a then 0 else 1,by rw[ar,<-rZ],λy hy=>?_,?_⟩
 .obtain⟨z,_,rfl⟩:=aw.mp hy
  split<;>decide
 have key:∀y,y<m->dW m T a b n ((mnL m T _ n).map λy=>if σ y=a then 0 else 1) y=σ y:=λy hy=>by
  obtain⟨i,hi,h1⟩:=EF g ht hn h0 hy;show chF a b _ _ y=_;rw[ET g ht hn h0 hy hi h1];have ZM:=hi;rw[rZ]at ZM;rw[vv hi,fM]at h1;obtain⟨a1,_⟩:=zO ZM;rw[<-KF g ha hb ZU hn h0 I hv a1 h1,aP,aC (by rw[ar];omega),gn];generalize (mnL m T _ n)[i]=z at a1;rcases hv z a1 with q|q
  .rw[q,if_pos rfl];rfl
  .rw[q,if_neg (eD ZU)];rfl
 obtain⟨_,h2,h3⟩:=r.same g.pos (ch:=dW m T a b n _) λi hi=>by rw[key _ (r.lt i hi),X3 i hi]
 exact⟨h2,h3⟩
theorem Dd(g:Grp m T)(ha:a<m)(hb:b<m)(ZU:a≠b)(hn:0<n)(h0:pw T (tOf m T a b) n=0){c d:List Nat}(hc:c.length=(lOf m T a b n).length)(hd:d.length=(lOf m T a b n).length)(c2:∀x∈c,x<2)(d2:∀x∈d,x<2)
  (pc:gw m (goF T (dW m T a b n c)) 0=m) (pd:gw m (goF T (dW m T a b n d)) 0=m) (e:(rOf m T a b n c 0).map (dW m T a b n c)=(rOf m T a b n d 0).map (dW m T a b n d)):c=d:=by
 have ht:=g.cl _ _ ha (g9 g hb);have I:=go_inj (c:=c) g ha hb hn h0;have hp:=g.pos;unfold rOf rg rgK at e;rw[pc,pd,bq]at e;have e1:∀i,i<m->dW m T a b n c _=dW m T a b n d _:=λi hi=>by
  have:=congrArg (λl=>l[i]?) e;simpa [hi]using this
 have e2:∀i,i<=m->itF (goF T (dW m T a b n c)) i 0=itF (goF T (dW m T a b n d)) i 0:=by
  intro i
  induction i with
  |zero=>intro _;rfl
  | succ i ih=>
    intro hi;show T _ _=T _ _;rw[e1 i hi,ih 0#0]
 have e3:∀y,y<m->dW m T a b n c y=dW m T a b n d y:=λy hy=>by
  obtain⟨i,hi,rfl⟩:=aw.mp ((uJ I hp).mp pc y hy);rw[pc]at hi;have hi:=aA.mp hi;rw[e1 i hi,e2 i (aI hi)]
 refine oS (hc.trans hd.symm) λi h1 h2=>?_;have hi:i<(lOf m T a b n).length:=by rw[<-hc];exact h1
 have ZM:=hi;rw[rZ]at ZM;obtain⟨a1,_⟩:=zO ZM;have hz:(mnL m T _ n)[i]∈(lOf m T a b n).getD i []:=by
  rw[vv hi,fM];exact IG g hn a1
 have e4:=e3 _ a1;unfold dW lOf at e4;rw[ET g ht hn h0 a1 hi hz,ET g ht hn h0 a1 hi hz]at e4;have g1:c.getD i 0=c[i]:=by rw[aP,aC h1];rfl
 have g2:d.getD i 0=d[i]:=by rw[aP,aC h2];rfl
 rw[g1,g2]at e4;have l1:=c2 _ (bP h1);have l2:=d2 _ (bP h2);generalize c[i]=u at e4 l1;generalize d[i]=v at e4 l2;unfold stp at e4
 grind
theorem sN(g:Grp m T)(ha:a<m)(hb:b<m)(ZU:a≠b)(hn:0<n)(h0:pw T (tOf m T a b) n=0):2*(lOf m T a b n).length<=m:=by
 have ht:=g.cl _ _ ha (g9 g hb);have t0:=λz=>by
  have:=CB g ha hb g.pos;rw[g.l0 a ha,show T a _=0 from z,g.l0 0 g.pos,g.l0 b hb]at this;exact ZU this.symm
 have hm:∀x∈mnL m T _ n,x<m/\pC T (tOf m T a b) n x=c_:=λx hx=>by
  obtain⟨h1,h2⟩:=bw.mp hx;exact⟨aA.mp h1,h2⟩
 have ZI:∀x,x<m->T x (tOf m T a b)∈orb T (tOf m T a b) n x:=λx hx=>by
  by_cases h1:n=1
  .subst h1
   have:T 0 _=0:=h0;rw[g.l0 _ ht]at this<;>simp_all
  .refine iz.mpr ⟨1,by lia,?_⟩
   show T x _=T x (T 0 _);rw[g.l0 _ ht]
 have nd:(mnL m T (tOf m T a b) n++(mnL m T (tOf m T a b) n).map λx=>T x (tOf m T a b)).Nodup:=by
  rw[eF];refine⟨IX,?_,λx hx y hy e=>?_⟩
  .rw[ay,aW]
   refine bM ?_ (ay.mp IX);intro x y hx hy ZN e;exact ZN (g.cancelR ht (hm x hx).1 (hm y hy).1 e)
  .subst e
   obtain⟨y,Yc,rfl⟩:=aw.mp hy;have h1:=ZI y (hm y Yc).1;have h2:=kc.mp (hm y Yc).2 _ h1;have h3:=kc.mp (hm _ hx).2 _ (jI g ht hn h0 (hm y Yc).1 h1);have h4:T y (tOf m T a b)=T y 0:=by rw[g.r0 y (hm y Yc).1];lia
   exact t0 (g.cancel (hm y Yc).1 ht g.pos h4)
 have:=sH m _ nd λx hx=>by
  rcases aQ.mp hx with hx|hx
  .exact(hm x hx).1
  .obtain⟨y,hy,rfl⟩:=aw.mp hx
   exact g.cl _ _ (hm y hy).1 ht
 rw[aU,ar]at this;rw[rZ]
 lia
end
def iN:Nat->List (List Nat)
 |0=>[[]]
 |k+1=>(iN k).flatMap λw=>[w++[0],w++[1]]
theorem nH:∀k,(iN k).length=2^k
 |0=>rfl
 | k+1=>by
   have:∀l:List _,(l.flatMap λw=>[w++[0],w++[1]]).length=l.length*2:=by
    intro l
    induction l with
    |nil=>rfl
    |cons x l ih=>rw[List.flatMap_cons,aU,ih];grind
   rw[iN,this,nH k,Nat.pow_succ]
theorem jJ:∀k (w:List Nat),w∈iN k↔w.length=k /\ ∀x∈w,x<2
 | 0,w=>by
   simp[iN]
   simp_all
 | k+1,w=>by
   rw[iN,kg];constructor
   .rintro ⟨v,hv,hw⟩
    obtain⟨h1,h2⟩:=(jJ k v).mp hv;simp at hw;rcases hw with rfl|rfl
    .refine⟨by simp[h1],λx hx=>?_⟩
     rcases aQ.mp hx with hx|hx<;>simp_all
    .refine⟨by simp[h1],λx hx=>?_⟩
     rcases aQ.mp hx with hx|hx<;>simp_all
   .rintro ⟨h1,h2⟩
    have ZN:w≠[]:=λz=>by simp_all
    obtain⟨v,s,rfl⟩:=qO ZN;refine⟨v,(jJ k v).mpr ⟨by simpa using h1,λx hx=>h2 x (bf _ hx)⟩,?_⟩;have:=h2 s 0#4<;>grind
theorem En:∀k,(iN k).Nodup
 |0=>by simp[iN]
 | k+1=>by
   rw[iN,ay,JV];refine⟨λw _=>by simp,List.Pairwise.imp ?_ (ay.mp (En k))⟩
   simp_all
section
variable {m:Nat}{T:Nat->Nat->Nat}{st:List Nat}
theorem rD{last:Nat->Option (List Nat)}(ZW:st.Pairwise (· < ·)):∀(k h:Nat) (left:List Nat),((se T st last k h left).map dz).Pairwise λa b=>HT.lexLt a b=c_
 | 0,h,left=>by
   unfold se
   grind
 | k+1,h,left=>by
   unfold se;rw[aW,JV];refine⟨λs _=>?_,(ZW.filter _).imp λ{s t} ZR=>?_⟩
   .have:=rD (last:=last) ZW k (T h s) (left.filter λy=>!decide (y=T h s))
    rw[aW]at this ⊢;refine this.imp λ{u v} huv=>?_;show HT.lexLt (s::dz u) (s::dz v)=c_;rw[HT.lexLt_cons,if_pos rfl];omega
   .intro x hx y hy
    obtain⟨u,_,rfl⟩:=aw.mp hx;obtain⟨v,_,rfl⟩:=aw.mp hy;show HT.lexLt (s::dz u) (t::dz v)=c_;rw[HT.lexLt_cons];grind
end
theorem oG{u v:List Nat}(h:dz u=dz v):u=v:=by
 exact List.map_inj_right (λa b e=>by lia) |>.mp h
section
variable {m:Nat}{T:Nat->Nat->Nat}{a b n:Nat}
abbrev wOf(m:Nat)(T:Nat->Nat->Nat)(a b n:Nat)(c:List Nat):List Nat:=(rOf m T a b n c 0).map (dW m T a b n c)
def gdC(m:Nat)(T:Nat->Nat->Nat)(a b n:Nat)(c:List Nat):Bool:=decide (gw m (goF T (dW m T a b n c)) 0=m)
def walks(m:Nat)(T:Nat->Nat->Nat)(a b n:Nat):List (List Nat):=((iN (lOf m T a b n).length).filter (gdC m T a b n)).map (wOf m T a b n)
theorem vQ(g:Grp m T)(ha:a<m)(hb:b<m)(ZU:a≠b)(hn:0<n)(h0:pw T (tOf m T a b) n=0):(walks m T a b n).Nodup:=by
 unfold walks;rw[ay,aW];refine bM ?_ (ay.mp ((En _).filter _));intro c d hc hd ZN e;obtain⟨c1,c2⟩:=bw.mp hc;obtain⟨d1,d2⟩:=bw.mp hd;obtain⟨c3,c4⟩:=(jJ _ _).mp c1;obtain⟨d3,d4⟩:=(jJ _ _).mp d1;exact ZN (Dd g ha hb ZU hn h0 c3 d3 c4 d4 (of_decide_eq_true c2) (of_decide_eq_true d2) e)
theorem Ik{w:List Nat}(hp:0<m)(h:w∈walks m T a b n):w≠[]:=λz=>by
 obtain⟨c,hc,e⟩:=aw.mp h;have h2:=of_decide_eq_true (bw.mp hc).2;have:=congrArg eV e;rw[ar,mF,h2]at this
 grind
theorem wB(g:Grp m T)(ha:a<m)(hb:b<m)(ZU:a<b)(hn:0<n)(h0:pw T (tOf m T a b) n=0):tL ((walks m T a b n).map dz)=(gH m T [a,b]).map dz:=by
 have ZN:a≠b:=by lia
 have rise:=rD (T:=T) (st:= [a,b]) (last:=qJ m T [a,b]) (by simpa using ZU) (m-1) 0 (ba 1 (m-1));have nd1:((walks m T a b n).map dz).Nodup:=by
  rw[ay,aW];exact(ay.mp (vQ g ha hb ZN hn h0)).imp λZU e=>ZU (oG e)
 refine(vZ nd1 ?_ rise).symm;refine List.Perm.map _ ?_
 refine(fC ?_ (vQ g ha hb ZN hn h0)).mpr λw=>((show w∈walks m T a b n↔w∈gH m T [a,b] by
   have ht:=g.cl _ _ ha (g9 g hb);have hs:∀s∈[a,b],s<m:=λs hs=>by
    simp at hs;rcases hs with rfl|rfl<;>assumption
   constructor
   .intro h
    obtain⟨c,hc,rfl⟩:=aw.mp h;obtain⟨c1,c2⟩:=bw.mp hc;refine Ed g (go_inj g ha hb hn h0) (λx hx=>?_) hs (of_decide_eq_true c2);have:=vq _ (sJ (a:=a) (b:=b) (c:=c) g ht hn h0 hx)<;>simp_all
   .intro h
    obtain⟨c,h1,h2,h3,h4⟩:=qc g ha hb ZN hn h0 h
    exact aw.mpr ⟨c,bw.mpr ⟨(jJ _ _).mpr ⟨h1,h2⟩,decide_eq_true h3⟩,h4⟩)).symm
 rw[aW]at rise;exact ay.mpr (rise.imp λ{u v} h e=>by rw[e,mD]at h;cases h)
end
def awB:MS:=aY (bC 3 (dN ah)) (aY (fv 4 (dq (ae 2)) (eJ (mML j4 (ae 3) (aa (bY (dq 0#3) cTT (m2 eQ (ae 4) (iU (aa (ae 5) ah)))) ah)))) (bC 2 (ae 3)))
def awC:MT:=cOf (m2 oLt (mFn cp (aa (m2 oIx (ae 2) 1#0) ah)) (ae 1))
theorem QH{N:Nat}(hN:N<=10):∃r S',jH [.tup [.int 0,.int 1],.int (N:Nat)] S=a_ (.ref r,S')/\Ex S S'/\S'[r]?=a_ (.lst (tups (iN N))):=by
 have pw5:∀k,k<=10->(iN k).length<=1024:=λk hk=>by
  rw[nH];exact tu 0#2 hk
 obtain⟨Y5,S1,e1,r,u3,u4,rfl,x1,g1⟩:=ur (b:=awB)
  (λμ G S'=>∃k r u3 u4,k<=N/\μ=N-k/\G=[a_ (.tup (ax [0,1])),a_ (.int N),a_ (.ref r),u3,u4]/\Ex S S'/\S'[r]?=a_ (.lst (tups (iN k))))
  (λG S' =>∃r u3 u4,G = [a_ (.tup (ax [0,1])),a_ (.int N),a_ (.ref r),u3,u4]/\Ex S S'/\S'[r]? = a_ (.lst (tups (iN N)))) (by
  rintro μ G S' ⟨k,r,u3,u4,hk,rfl,rfl,x,gr⟩;obtain⟨w0,l0,hw0⟩ :∃w0 l0,iN k=w0::l0:=by
   cases q:iN k with
   | nil=>
     have:=nH k<;>grind
   |cons w0 l0=>exact⟨w0,l0,rfl⟩
  have WG:=((jJ k w0).mp (by rw[hw0];simp)).1;have e5:m2 _ (ae 2) _ [a_ (.tup (ax [0,1])),a_ (.int N),a_ _,u3,u4] S'=a_ _:=Bt 0#1 c_i gr (kT (k:=0) (by rw[hw0];rfl));have ec:=of_eq (Kr (AR e5) (b:=ae 1) 0#1);rw[cm]at ec;refine⟨_,_,ec,λhf=>?_,λht=>?_⟩
  .grind
  .have hkN:k<N:=by
    grind
   have Uy:=(ag.mp gr).1;have h32:=pw5 k 0#0;obtain⟨X7,S3,e3,⟨z,rfl⟩,x3,r3,q3⟩:=vD (i:=4) (e:=ae 2) (us:=tups (iN k)) 0#1 (by unfold tups;grind)
    (λi G S3=>(∃z,G=[a_ (.tup (ax [0,1])),a_ (.int N),a_ (.ref r),a_ (.ref S'.length),z])/\Ex S S3/\S3[r]?=a_ _/\S3[S'.length]?=a_ (.lst (tups (((iN k).take i).flatMap λw=>[w++[0],w++[1]]))))
    ⟨⟨_,rfl⟩,x.trans (Ex.push _ _),(Ex.push _ _).some gr,b9 _ _⟩ (λi G S3 hp=>by unfold getL;rw[hp.2.2.1]) (by
     rintro i u G S3 hu ⟨⟨z,rfl⟩,x3,r3,q3⟩;obtain⟨w,hw,rfl⟩ :∃w,(iN k)[i]?=a_ w/\U.tup _=u:=by
      unfold tups at hu;rw[a9]at hu;exact dh.mp hu
     have wl:=((jJ k w).mp (bK hw)).1;have ei:=yy (t:=cTT) (e:=m2 _ (ae 4) (iU (aa (ae 5) _))) (G:= [a_ _,a_ (.int N),a_ (.ref r),a_ (.ref S'.length),a_ _]) (S:=S3) (a:=ae 0) (l:= [0,1]) 0#1 0#2 (λ_ _=>rfl) (λs _ _=>LJ (x:=w) (y:= [s]) 0#1 (Ke 0#1) (by simp;lia));have hfl:=Bc (f:=λw=>[w++[0],w++[1]]) (B:=2) ((iN k).take i) λ_ _=>ak _;have htl:((iN k).take i).length<=1024:=by rw[c6];lia
     have ee:=yB (o:=ae 3) 0#1 ei q3 ((Ex.push _ _).some q3) (b9 _ _) (by
      unfold tups;rw[ar];have:((([0,1]).filter λ_=>c_).map λs=>U.tup (ax (w++[s]))).length=2:=rfl;rw[this]
      unfold big;lia)
     have hq:S'.length<(S3++[Cell.lst ((([0,1]).filter λ_=>c_).map λs=>U.tup (ax (w++[s])))]).length:=by
      have:=(ag.mp q3).1;simp;lia
     refine⟨_,_,ee,⟨_,rfl⟩,(x3.trans (Ex.push _ _)).set x.len,?_,?_⟩
     .rw[aN 0#0];exact(Ex.push _ _).some r3
     .rw[aV hq,fg,hw]
      simp[tups])
   rw[show(tups _).length=(iN k).length by simp[tups],cR (ak _)]at q3
   exact⟨_,_,_,by lia,(aL (bh jF)).trans ((aL e3).trans (bh (var_eq rfl))),_,_,_,_,hkN,rfl,rfl,x3,q3⟩) fuel N _ _ (by unfold fuel;lia) ⟨0,_,_,_,bS _,rfl,rfl,Ex.push _ _,b9 _ _⟩
 refine⟨r,S1,cK (G:= [a_ (.tup (ax [0,1])),a_ (.int N),a_ (.ref r),u3,u4]) rfl ?_,x1,g1⟩;refine(aL (bh (EW rfl))).trans ((aL ?_).trans (cz 0#1));exact e1
def dU:U->List Nat
 | .tup us=>us.map λu=>match u with
   |.int i=>i.toNat
   |_=>0
 |_=>[]
theorem yW{c:List Nat}:dU (.tup (ax c))=c:=by
 show(ax c).map _=c;unfold ax;rw[bq];exact GI c
def nnU:U->Bool
 |.non=>d_
 |_=>c_
section
variable {m:Nat}{T:Nat->Nat->Nat}{a b p:Nat}{S:Sto}
def vC(m:Nat)(T:Nat->Nat->Nat)(a b p:Nat)(c:List Nat):U:=if gw m 3#1 0=m then .tup (ax (wOf m T a b p c)) else .non
variable{c:List Nat}
theorem Pc:nnU (vC m T a b p c)=gdC m T a b p c:=by
 unfold vC gdC;by_cases z:gw m 3#1 0=m
 .rw[if_pos z,decide_eq_true z];rfl
 .rw[if_neg z,decide_eq_false z];rfl
theorem QC{G:Rho}{e:ME}{S:Sto}(h:e G S=a_ (vC m T a b p c,S)):cOf (m2 lg e (mC .non)) G S=a_ (nnU (vC m T a b p c),S):=by
 unfold vC at h ⊢;by_cases z:gw m 3#1 0=m
 .rw[if_pos z]at h ⊢
  exact of_eq (op2 h rfl rfl)
 .rw[if_neg z]at h ⊢
  exact of_eq (op2 h rfl rfl)
theorem Ol:(((iN (lOf m T a b p).length).map (vC m T a b p)).filter nnU).map (λu=>u)=tups (walks m T a b p):=by
 rw[GI,List.filter_map];unfold tups walks;rw[bq];have e:(nnU∘vC m T a b p)=gdC m T a b p:=funext λc=>Pc;rw[e];apply aR;intro c hc;have:=of_decide_eq_true (bw.mp hc).2;unfold vC
 simp_all
theorem qg:∀(ls:List (List Nat)),dG pG (tups ls)=a_ (ls.map dz)
 |[]=>rfl
 | l::ls=>by
   show(pG _).bind _=_;rw[show pG _=dG _ _ from rfl,yn];show(dG _ (tups ls)).map _=_;rw[qg ls];rfl
theorem yo{ls:List (List Nat)}:(ls.map dz).map _G.tupI=tups ls:=by
 rw[bq];apply aR;intro l _;show U.tup _=_;unfold dz ax;rw[bq];rfl
theorem Ov(g:Grp m T)(hm:m<60)(Tq:(lOf m T a b p).length<=10)(ha:a<m)(hb:b<m)(ZU:a<b)(p1:1<=p)(p2:p<=m)(h1:∀k,1<=k->k<p->pw T (tOf m T a b) k≠0)(h0:pw T (tOf m T a b) p=0):
  ∃r S',bT [tab m T,.tup 3#0] S=a_ (.ref r,S')/\Ex S S'/\S'[r]?=a_ (.lst (tups (gH m T [a,b]))):=by
 have ZN:a≠b:=by lia
 have U5:=wB g ha hb ZU p1 h0;obtain⟨r1,S1,e1,x1,l1,q1⟩:=qQ g 0#0 ha hb rfl p1 0#0 h1 h0;have two:∀c,c.length=(lOf m T a b p).length->(∀x∈c,x<2)->Two m T a b p c:=λc h3 h4=>⟨g,by lia,ha,hb,p1,by lia,h1,h0,h3,h4⟩;have e2:mFn cp (aa (mFn kP 2#9) ah) [0#8,a_ (.tup [.int a,.int b]),b_,b_] S=a_ (.int ((lOf m T a b p).length:Nat),S1):=by
  refine fI (cP 0#1 0#1 e1) ?_;simp only[cp,DU q1,eA,getL,q1,dr];rw[show(qU _).length=(lOf m T a b p).length by simp[qU,tups]]
 have c2:cOf (m2 oGt (ae 2) (mC (.int 10))) [0#8,a_ (.tup [.int a,.int b]),a_ (.int ((lOf m T a b p).length:Nat)),b_] S1=a_ (d_,S1):=by
  rw[of_eq (Fz 0#1 c_i),decide_eq_false 0#0]
 obtain⟨r3,S3,e3,x3,q3⟩:=QH Tq;have hl32:(iN (lOf m T a b p).length).length<=1024:=by
  rw[nH];exact tu 0#2 Tq
 obtain⟨S4,e4,x4⟩:=pX (G:= [a_ _,a_ _,a_ (.int ((lOf m T a b p).length:Nat)),b_]) (f:=λu=>vC m T a b p (dU u)) _ (λS' x=>by unfold getL;rw[x.some q3]) (λu hu S' x=>by
  obtain⟨c,hc,rfl⟩:=aw.mp hu;obtain⟨c1,c2⟩:=(jJ _ _).mp hc;obtain⟨S5,e5,x5⟩:=zq (two c c1 c2);refine⟨S5,?_,x.trans x5⟩;rw[yW]
  exact kj (a:=ae 0) (b:=ae 1) (c:=ae 4) (var_eq rfl) (var_eq rfl) (var_eq rfl) e5) fuel 0 [] S3 (bS _) (by unfold fuel tups;rw[ar];lia) (Ex.refl _)
 rw[rK,eh,show(tups _).map _=(iN _).map (vC m T a b p) by
  unfold tups;rw[bq];apply aR;intro c _;show vC m T a b p _=_
  rw[yW]]at e4
 have e5:bY (dq (mFn jH (aa (iU (aa 1#0 (aa 1#4 ah))) 1#8))) cTT (mFn iI (aa 0#3 (aa (ae 1) 2#3))) [0#8,a_ (.tup 3#0),a_ (.int ((lOf m T a b p).length:Nat)),b_] S1=a_ (.ref S4.length,S4++[.lst ((iN (lOf m T a b p).length).map (vC m T a b p))]):=by
  have h3:mFn _ (aa _ 1#8) [0#8,a_ (.tup 3#0),a_ _,b_] S1=a_ _:=cP (NT c_i c_i) 0#1 e3;have hg:getL S3 r3=a_ (tups (iN (lOf m T a b p).length)):=by unfold getL;rw[q3]
  have hi:dq (mFn jH (aa (iU (aa 1#0 (aa 1#4 ah))) 1#8)) [0#8,a_ (.tup 3#0),a_ (.int ((lOf m T a b p).length:Nat)),b_] S1=a_ (.mut r3,S3):=by
   simp only[dq,h3,aF,hg,dr]
  simp only[bY,hi,aF,Bm,e4];exact if_pos (by rw[ar];unfold big;lia)
 have e6:=DE (t:=cOf (m2 lg (ae 4) (mC .non))) (e:=ae 4) (a:=ae 3) (G:= [0#8,a_ (.tup 3#0),a_ (.int ((lOf m T a b p).length:Nat)),a_ _]) (S:=S4++[.lst ((iN (lOf m T a b p).length).map (vC m T a b p))]) 0#1 (b9 _ _) (by rw[ar];lia) (λu hu=>by
  obtain⟨c,_,rfl⟩:=aw.mp hu
  exact QC (var_eq rfl)) (λu _ _=>var_eq rfl)
 rw[Ol]at e6;have x5:Ex S (S4++[Cell.lst ((iN (lOf m T a b p).length).map (vC m T a b p))]):=((x1.trans x3).trans x4).trans (Ex.push _ _);generalize S4++[Cell.lst _]=S5 at e5 e6 x5;have e7:mFn iT (aa (bY (dq (ae 3)) (cOf (m2 lg (ae 4) (mC .non))) (ae 4)) ah) [0#8,a_ (.tup 3#0),a_ (.int ((lOf m T a b p).length:Nat)),a_ (.ref S4.length)] S5=a_ (.ref (S5++[Cell.lst (tups (walks m T a b p))]).length,S5++[Cell.lst (tups (walks m T a b p))]++[.lst (tups (gH m T [a,b]))]):=by
  refine fI e6 ?_;have hg:getL (S5++[Cell.lst (tups (walks m T a b p))]) S5.length=a_ (tups (walks m T a b p)):=by unfold getL;rw[b9]
  simp only[iT,Fm,hg,aO,qg];have ok:okT ((walks m T a b p).map dz):=by
   refine⟨by
    rw[ar];unfold walks;rw[ar]
    exact aM (hJ _ _) (by lia),?_,?_⟩
   .rw[ay,aW]
    exact(ay.mp (vQ g ha hb ZN p1 h0)).imp λZU e=>ZU (oG e)
   .intro l hl z
    obtain⟨w,hw,rfl⟩:=aw.mp hl;exact Ik g.pos hw (oG z)
  rw[if_pos ok,U5,yo];rfl
 refine⟨(S5++[Cell.lst (tups (walks m T a b p))]).length,_,cK (G:= [0#8,a_ (.tup 3#0),a_ (.int ((lOf m T a b p).length:Nat)),a_ (.ref S4.length)]) rfl ?_,(x5.trans (Ex.push _ _)).trans (Ex.push _ _),b9 _ _⟩;exact(aL (bh e2)).trans ((aL ((kK c2).trans rfl)).trans ((aL (bh e5)).trans (cz e7)))
end
section
variable {m:Nat}{T:Nat->Nat->Nat}{S:Sto}{a b p:Nat}{c:List Nat}
theorem AA(w:Two m T a b p c):∃r S',oJ [tab m T,.tup 3#0,.tup (ax c)] S=a_ (.ref r,S')/\Ex S S'/\0#7<=r/\S'[r]?=a_ (.lst (tups (sdG (rOf m T a b p c) m).1)):=by
 obtain⟨d,S1,e1,x1,g1⟩:=yf w;have C:=w.cho;have hm:=w.hm;refine⟨_,cW S1 (pcG _ (λi=>[.lst (ax (rOf m T a b p c i))]) m),cK (G:= [0#8,a_ (.tup [.int a,.int b]),a_ (.tup (ax c)),a_ (.ref d)]) rfl ?_,x1.trans tN.1,x1.len,tN.2⟩;refine(aL (bh (kj 0#1 0#1 0#1 e1))).trans (cz ?_);refine vt (fI 0#1 (IU (by exact ai 1#6 0#2))) rfl λf=>Cv (by exact ai 1#6 0#2) (λk hk=>by rw[mF];have:=Dk C.inj hk;exact aX 0#5 (ai 1#6 0#2)) (λi S' hi hx=>?_) f;exact kj (G:= [a_ _,a_ _,a_ _]) (a:=ae 2) (b:=ae 1) (c:=ae 0) 0#1 0#1 0#1 (LN C (by exact ai 1#6 0#2) (hx.some g1) hi)
end
theorem tT{m:Nat}{T:Nat->Nat->Nat}{S:Sto}(g:Grp m T){x n:Nat}(hx:x<m)(h1:∀k,1<=k->k<n->pw T x k≠0)(h0:pw T x n=0):
  ∀(d f t:Nat),t+d=n->1<=t->d<f->whl (cOf (m2 oNe (ae 2) 1#0)) (aY (bC 2 (m2 oIx (m2 oIx 0#3 (ae 2)) (ae 1))) (Dx 3 1#4)) f [0#8,a_ (.int x),a_ (.int (pw T x t)),a_ (.int t)] S=a_ (.nx,[0#8,a_ (.int x),a_ (.int (0:Nat)),a_ (.int n)],S)
 |0,0,t,h2,h3,h4=>by lia
 | 0,f+1,t,h2,h3,h4=>by
   have:t=n:=by lia
   subst this;have ht:cOf (m2 _ (ae 2) 1#0) [0#8,a_ (.int x),a_ (.int (pw T x t)),a_ (.int t)] S=a_ _:=of_eq (Fe 0#1 c_i);unfold whl;rw[h0];rfl
 |d+1,0,t,h2,h3,h4=>by lia
 | d+1,f+1,t,h2,h3,h4=>by
   have ht:cOf (m2 _ (ae 2) 1#0) [0#8,a_ (.int x),a_ (.int (pw T x t)),a_ (.int t)] S=a_ _:=of_eq (Fe 0#1 c_i);unfold whl;rw[ht];have ZN:=h1 t h3 0#0;simp[aF,decide_eq_false ZN,if_true];have eb:aY (bC 2 (m2 oIx (m2 oIx 0#3 (ae 2)) (ae 1))) (Dx 3 1#4) [0#8,a_ (.int x),a_ (.int (pw T x t)),a_ (.int t)] S=a_ (.nx,[0#8,a_ (.int x),a_ (.int (pw T x (t+1))),a_ (.int (t+1))],S):=by
    refine(aL (bh (ki hx (jo (gy g hx t) 0#1 0#1) 0#1))).trans ?_;simp[Dx,mC,aF,pw]
   rw[eb];exact tT g hx h1 h0 d f _ 0#0 0#0 0#0
theorem kL(g:Grp m T)(hx:x<m)(hn:1<=n)(hm:n<1000)(h1:∀k,1<=k->k<n->pw T x k≠0)(h0:pw T x n=0):fE [tab m T,.int x] S=a_ (.int n,S):=by
 have SH:pw T x 1=x:=g.l0 x hx;have e:=tT (S:=S) g hx h1 h0 (n-1) fuel 1 0#0 (ak _) (by unfold fuel;lia);rw[SH]at e;exact cK rfl ((aL (bh 0#1)).trans ((aL (bh rfl)).trans ((aL e).trans (cz 0#1))))
theorem Qo{S2:Sto}{b:ME}{x y:Bool}(ha:a G S=a_ (.bl x,S1))(hb:b G S1=a_ (.bl y,S2))(h:S2=S1):j7 a b G S=a_ (.bl (x&&y),S1):=by
 subst h;cases x
 .simp[j7,ha,aF]
 .simp[j7,ha,aF,hb]
theorem yk{S:Sto}(g:Grp m T){a b p q:Nat}(ha:a<m)(hb:b<m)(Xu:1<=q)(Xi:q<1000)
  (ep:∀S,fE [tab m T,.int (T a (unT m T b):Nat)] S=a_ (.int (p:Nat),S)) (eq:∀S,fE [tab m T,.int a] S=a_ (.int (q:Nat),S)):
  fV [tab m T,.tup 3#0] S=a_ (.bl (decide (p%2=1)&&decide (m/q%2=0)),S):=by
 have e1:=Fy (G:= [a_ _,a_ _]) (y:=1) (wD (y:=2) (cP (a:=ae 0) (b:=mFn _ (aa 0#3 (aa (ae 1) _))) 0#1 (cP 0#1 0#1 (EH g ha hb)) (ep S)) c_i 0#2) c_i;have e2:=Fy (G:= [a_ _,a_ (.tup [.int _,.int b])]) (y:=0) (wD (y:=2) (vM (a:=mFn _ (aa 0#3 _)) (len_tab 0#1) (cP (a:=ae 0) (b:=m2 _ (ae 1) _) 0#1 (JC 0#1) (eq S)) Xu Xi) c_i 0#2) c_i;exact cK rfl (cz (Qo e1 e2 rfl))
theorem sub_len:∀{a b:List (List Nat)},a.Nodup->(∀x∈a,x∈b)->a.length<=b.length
 |[],b,_,_=>bS _
 | x::a,b,nd,h=>by
   have XF:=eg.mp nd;have ih:=sub_len (b:=b.erase x) XF.2 λy hy=>by
    grind
   grind
theorem DK{A B:List (List Nat)}{f:List Nat->List Nat}(nd:A.Nodup)(h:∀w∈A,f w∈B)(inj:∀u∈A,∀v∈A,f u=f v->u=v):A.length<=B.length:=by
 have:=sub_len (b:=B) (by
  rw[ay,aW]
  exact bM (λha hb ZU e=>ZU (inj _ ha _ hb e)) (ay.mp nd)) (λx hx=>by
  grind) <;> simp_all
section
variable {m:Nat}{T:Nat->Nat->Nat}{st:List Nat}
theorem zp{last:Nat->Option (List Nat)}(ZW:st.Pairwise (· < ·))(k h:Nat)(left:List Nat):(se T st last k h left).Nodup:=by
 have r:=rD (T:=T) (last:=last) ZW k h left;rw[aW]at r;exact ay.mpr (r.imp λ{u v} h e=>by rw[e,mD]at h;cases h)
theorem MY{a b:List Nat}:(plc T (a++b)).take (a.length+1)=plc T a:=by
 unfold plc;rw[<-List.map_take,List.take_range,lu 0#4];refine aR λk hk=>?_
 grind
theorem AY{L:Nod->List (List Nat)}{z:List Nat}:∀(w p:List Nat),(∀x∈w,x∈st)->(plc T (p++w)).Nodup->z∈L (p++w,plc T (p++w))->z∈Bh T st L w.length (p,plc T p)
 |[],p,_,_,h=>by rw[cb]at h;exact h
 | s::w,p,hs,hn,h=>by
   have e:p++s::w=p++[s]++w:=by simp
   rw[e]at hn h;have ih:=AY w _ (λx hx=>hs x (aB _ hx)) hn h;have Vq:(plc T (p++[s])).Nodup:=by
    have:=MY (T:=T) (a:=p++[s]) (b:=w);rw[<-this];exact List.Pairwise.sublist (jL _ _) hn
   rw[lH]at Vq;refine kg.mpr ⟨_,aw.mpr ⟨s,bw.mpr ⟨hs s 0#4,?_⟩,rfl⟩,?_⟩
   .rw[lK]<;>grind
   .rw[lK,<-lH];omega
variable{w:List Nat}
theorem Hg{x:Nat}:pre T (w++[x])=plc T w:=by
 have h1:=lH (T:=T) (w:=w) (x:=x);rw[kU]at h1
 simp_all
theorem gf(g:Grp m T)(hs:Lt m st)(nd:st.Nodup){w:List Nat}:w∈gH m T st↔Rnd m T w/\(∀x∈w,x∈st)/\w.length=m:=by
 rw[<- (show Bh T st (NB T st) (m - 1) ([],[0])=gH m T st by
   rw[Ap g hs (last:=qJ m T st) (λp h1 h2=>by
    have hh:=AH h1 h2;obtain⟨u1,u2,u3,u4⟩:=j6 g hh;unfold NB qJ;rw[By (x:=unT m T (gG p.2)) st nd λs YF=>?_]
    .split<;>simp
    .by_cases z:s=unT m T (gG p.2)
     .subst z;simp[u2]
     .have:T (gG p.2) s≠0:=λy=>z (u4 s (hs s YF) y)
      simp[z,this]) (m - 1) ([],[0]) _ (by simp) (by simpa using g.pos) (Gb g.pos)]
   show rN (λw=>w) (se T st (qJ m T st) (m-1) 0 (ba 1 (m-1)))=_
   rw[GI];rfl)]
 exact⟨BE g hs,fun⟨h1,h2,h3⟩=>(by
   have h:=h1;have hl:=h3;have hs:=h2;obtain⟨v,x,rfl⟩:=(qO (gh.mp (by rw[hl];exact g.pos)));have h1:=by simp at hl;omega
   have h2:=h.home;rw[lM]at h2;have h3:=h.all.nd;rw[Hg]at h3;rw[<-h1];refine AY v [] (λy hy=>hs y (bf _ hy)) h3 ?_;refine aw.mpr ⟨x,bw.mpr ⟨hs x 0#4,?_⟩,rfl⟩;show decide (T (gG (plc T v)) x=0)=c_
   rw[lK,h2];rfl)⟩
theorem Ar(h:st.Pairwise (· < ·)):st.Nodup:=ay.mpr (h.imp λ{a b} ZU=>by lia)
theorem qB{w:List Nat}(hs:Lt m st)(h:∀x∈w,x∈st):Lt m w:=λx hx=>hs x (h x hx)
theorem ND(h:srt w=w)(nd:w.Nodup):w.Pairwise (· < ·):=by
 have h1:(srt w).Pairwise (· <= ·):=by
  exact aW.mpr ((uZ _).imp λ{a b} ZU=>by lia)
 rw[h]at h1;exact(h1.and (ay.mp nd)).imp λ{a b} ZU=>by lia
theorem AC{f:Nat->Nat}(ZW:st.Pairwise (· < ·))(hs:Lt m st)(inj:∀x y,x<m->y<m->f x=f y->x=y):(srt (st.map f)).Pairwise (· < ·):=by
 refine ND G2 ((lL _).nodup_iff.mpr ?_);rw[ay,aW];exact bM (λha hb ZU e=>by grind) ZW
theorem OK(g:Grp m T)(x y:Nat)(hx:x<m)(hy:y<m)(e:unT m T x=unT m T y):x=y:=by rw[<-DN g hx,<-DN g hy,e]
theorem Pw(g:Grp m T)(hs:Lt m st):Lt m (srt (st.map (unT m T))):=λx hx=>by
 obtain⟨y,hy,rfl⟩:=aw.mp (fM.mp hx);exact g9 g (hs y hy)
theorem K5(g:Grp m T)(hs:Lt m st):∀x∈srt (st.map (unT m T)),unT m T x∈st:=λx hx=>by
 obtain⟨y,hy,rfl⟩:=aw.mp (fM.mp hx);rw[DN g (hs y hy)];omega
theorem QW:∀x∈st,unT m T x∈srt (st.map (unT m T)):=λx hx=>fM.mpr (aw.mpr ⟨x,hx,rfl⟩)
variable{o p:Nat->Nat}
theorem GL(g:Grp m T)(h:Ord m o p)(hw:Lt m w):pre (ib T o p) (w.map p)=(pre T w).map p:=by
 unfold pre;rw[ar,bq];refine aR λk _=>?_;rw[<-List.map_take];have:=za g h _ 0 g.pos (hw.tk k);rwa[LA g h]at this
theorem L5(g:Grp m T)(h:Ord m o p)(hw:Lt m w):fD (ib T o p) (w.map p)=p (fD T w):=by
 have:=za g h w 0 g.pos hw;rwa[LA g h]at this
theorem Ic(h:Ord m o p)(hw:Lt m w):(w.map p).map o=w:=by
 have:w.map (o∘p)=w.map id:=aR λx hx=>h.op x (hw x hx)
 simp_all
theorem yQ(h:Ord m o p)(hw:Lt m w):(w.map o).map p=w:=by
 have:w.map (p∘o)=w.map id:=aR λx hx=>h.po x (hw x hx)
 simp_all
theorem LQ(h:Ord m o p)(hs:Lt m st):Lt m (srt (st.map p)):=λx hx=>by
 obtain⟨y,hy,rfl⟩:=aw.mp (fM.mp hx);exact h.pl y (hs y hy)
theorem RH{o:Nat->Nat}(h:Ord m o p)(hs:Lt m st){w:List Nat}(hw:∀x∈w,x∈srt (st.map p)):∀x∈w.map o,x∈st:=λx hx=>by
 obtain⟨y,hy,rfl⟩:=aw.mp hx;obtain⟨z,hz,rfl⟩:=aw.mp (fM.mp (hw y hy));rw[h.op z (hs z hz)];omega
theorem RM{p:Nat->Nat}{w:List Nat}(hw:∀x∈w,x∈st):∀x∈w.map p,x∈srt (st.map p):=λx hx=>by
 obtain⟨y,hy,rfl⟩:=aw.mp hx;exact fM.mpr (aw.mpr ⟨y,hw y hy,rfl⟩)
theorem Dh(h:Ord m o p)(hs:Lt m st)(ZW:st.Pairwise (· < ·)):(srt (st.map p)).Pairwise (· < ·):=AC ZW hs λx y hx hy e=>De h hx hy e
theorem Kq(g:Grp m T)(h:Ord m o p)(hs:Lt m st)(ZW:st.Pairwise (· < ·)):(gH m (ib T o p) (srt (st.map p))).length=(gH m T st).length:=by
 have g':=sh g h;have WS:=LQ h hs;have nd:=Ar ZW;have XF:=Ar (Dh h hs ZW);refine BY (DK (f:=λw=>w.map o) (zp (Dh h hs ZW) _ _ _) (λw hw=>?_) λu hu v hv e=>?_) (DK (f:=λw=>w.map p) (zp ZW _ _ _) (λw hw=>?_) λu hu v hv e=>?_)
 .obtain⟨⟨h0,h1⟩,h2,h3⟩:=(gf g' WS XF).mp hw
  have lw:=qB WS h2
  have lo:=(show Lt m (w.map o) from λx hx=>by
 obtain⟨y,hy,rfl⟩:=aw.mp hx
 exact h.ol y (lw y hy))
  rw[<-yQ h lw,GL g h lo]at h1;rw[<-yQ h lw,L5 g h lo]at h0;refine(gf g hs nd).mpr ⟨⟨De h (xR g lo) g.pos (by rw[h0,LA g h]),h1.unmap ((λx hx=>zZ g lo x (by rw[kU];exact bf _ hx)))⟩,RH h hs h2,by grind⟩
 .have l1:=qB WS ((gf g' WS XF).mp hu).2.1
  have l2:=qB WS ((gf g' WS XF).mp hv).2.1;rw[<-yQ h l1,<-yQ h l2];exact congrArg _ e
 .obtain⟨⟨h0,h1⟩,h2,h3⟩:=(gf g hs nd).mp hw
  have lw:=qB hs h2;refine(gf g' WS XF).mpr ⟨⟨by rw[L5 g h lw,h0,LA g h],?_⟩,RM h2,by grind⟩;rw[GL g h lw];exact h1.map (λx hx=>h.pl x hx) λx y hx hy e=>De h hx hy e
 .have l1:=qB hs ((gf g hs nd).mp hu).2.1
  have l2:=qB hs ((gf g hs nd).mp hv).2.1;rw[<-Ic h l1,<-Ic h l2];exact congrArg _ e
end
def del(m:Nat)(f:Nat->Nat)(x:Nat):Nat:=if f x=m then f m else f x
def cy:Nat->(Nat->Nat)->Nat
 |0,_=>0
 |m+1,f=>cy m (del m f)+if f m=m then 1 else 0
theorem gg:∀{m:Nat}{f g:Nat->Nat},(∀x,x<m->f x=g x)->cy m f=cy m g
 |0,_,_,_=>rfl
 | m+1,f,g,h=>by
   unfold cy;rw[h m 0#0,gg (g:=del m g) λx hx=>by unfold del;grind]
variable{f:Nat->Nat}
theorem uC(h:Inj (m+1) f):Inj m (del m f):=by
 refine⟨λx hx=>?_,λx y hx hy e=>?_⟩
 .unfold del
  have h1:=h.lt x 0#0;have h2:=h.lt m 0#0;by_cases c:f x=m
  .rw[if_pos c]
   have:f m≠m:=λz=>by have:=h.inj x m 0#0 0#0 (c.trans z.symm);lia
   lia
  grind
 .unfold del at e
  by_cases c:f x=m
  .rw[if_pos c]at e
   by_cases d:f y=m
   .exact h.inj x y 0#0 0#0 (c.trans d.symm)
   .rw[if_neg d]at e
    have:=h.inj m y 0#0 0#0 e
    lia
  .rw[if_neg c]at e
   by_cases d:f y=m
   .rw[if_pos d]at e
    have:=h.inj x m 0#0 0#0 e
    lia
   .rw[if_neg d]at e
    exact h.inj x y 0#0 0#0 e
def sw(i j x:Nat):Nat:=if x=i then j else if x=j then i else x
theorem Eh:sw i j (sw i j x)=x:=by
 unfold sw
 grind
theorem Inj.onto(h:Inj m f)(y:Nat)(hy:y<m):∃u,u<m/\f u=y:=by
 have p:=wy ((ao m).map f) _ (by
  rw[ay,aW];refine bM ?_ eG;intro a b ha hb ZU e;have:=h.inj a b (aA.mp ha) (aA.mp hb) e
  lia) (λy hy=>by
  obtain⟨x,hx,rfl⟩:=aw.mp hy
  exact aA.mpr (h.lt x (aA.mp hx))) (by simp)
 obtain⟨u,hu,e⟩:=aw.mp (p.mem_iff.mpr (aA.mpr hy));exact⟨u,aA.mp hu,e⟩
theorem K9:sw i j x=sw j i x:=by
 unfold sw
 grind
theorem Inj.comp{g:Nat->Nat}(hf:Inj m f)(hg:Inj m g):Inj m λx=>f (g x):=⟨λx hx=>hf.lt _ (hg.lt x hx),λx y hx hy e=>hg.inj x y hx hy (hf.inj _ _ (hg.lt x hx) (hg.lt y hy) e)⟩
theorem Nn(hi:i<m)(hj:j<m):Inj m (sw i j):=⟨λx hx=>(by
  unfold sw
  split
  .omega
  ·split <;> assumption),λx y _ _ e=>by rw[<- Eh (x:=x),e,Eh]⟩
theorem A5:∀{m:Nat}{f:Nat->Nat}{i j:Nat},Inj m f->i<j->j<m->(cy m (λx=>f (sw i j x))+cy m f)%2=1
 |0,f,i,j,_,_,hj=>by lia
 | m+1,f,i,j,h,YN,hj=>by
   by_cases c:j<m
   .have ih:=A5 (uC h) YN c
    have e1:cy (m+1) (λx=>f (sw i j x))=cy m (λx=>del m f (sw i j x))+if f m=m then 1 else 0:=by
     show cy m _+(if f (sw i j m)=m then 1 else 0)=_;rw[show sw i j m=m by unfold sw;rw[if_neg 0#0,if_neg 0#0]]
     congr 1
     refine gg λx hx=>?_;show(if f (sw i j x)=m then f (sw i j m) else f (sw i j x))=if f (sw i j x)=m then f m else f (sw i j x)
     rw[show sw i j m=m by unfold sw;rw[if_neg 0#0,if_neg 0#0]]
    rw[e1,show cy (m+1) f=cy m (del m f)+if f m=m then 1 else 0 from rfl]
    lia
   .obtain rfl:j=m:=by lia
    have s1:sw i j j=i:=by unfold sw;rw[if_neg 0#0,if_pos rfl]
    have s2:sw i j i=j:=by unfold sw;rw[if_pos rfl]
    have s3:∀x,x<j->x≠i->sw i j x=x:=λx h1 h2=>by unfold sw;rw[if_neg h2,if_neg 0#0]
    have ne:f i≠f j:=λz=>by have:=h.inj i j 0#0 0#0 z;lia
    show(cy j _+(if f (sw i j j)=j then 1 else 0)+(cy j (del j f)+if f j=j then 1 else 0))%2=1;rw[s1];by_cases d:f j=j
    .have e:cy j (del j _)=cy j (del j f):=gg λx hx=>by
      show(if f (sw i j x)=j then f (sw i j j) else f (sw i j x))=if f x=j then f j else f x
      rw[s1];by_cases w:x=i
      .rw[w,s2,if_pos d,if_neg 0#0]
      .rw[s3 x hx w]
       by_cases u:f x=j
       .have:=h.inj x j 0#0 0#0 (u.trans d.symm);lia
       .rw[if_neg u,if_neg u]
     rw[e,if_pos d,if_neg 0#0];lia
    .by_cases v:f i=j
     .have e:cy j (del j _)=cy j (del j f):=gg λx hx=>by
       show(if f (sw i j x)=j then f (sw i j j) else f (sw i j x))=if f x=j then f j else f x
       rw[s1];by_cases w:x=i
       .rw[w,s2,if_neg d,if_pos v]
       .rw[s3 x hx w,v]
        by_cases u:f x=j
        .have:=h.inj x i 0#0 0#0 (u.trans v.symm);lia
        .rw[if_neg u,if_neg u]
      rw[e,if_neg d,if_pos v];lia
     .rw[if_neg d,if_neg v]
      obtain⟨u,hu,eu⟩ :∃u,u<j+1/\f u=j:=h.onto j 0#0;have Uk:u<j:=by
       have:u≠j:=λz=>d (by rw[<-z];rw[z]at eu;rw[z];exact eu)
       lia
      have hui:u≠i:=λz=>v (by rw[<-z];exact eu);have e:cy j (del j _)=cy j (λx=>del j f (sw i u x)):=gg λx hx=>by
       show(if f (sw i j x)=j then f (sw i j j) else f (sw i j x))=if f (sw i u x)=j then f j else f (sw i u x)
       rw[s1];by_cases w:x=i
       .subst w
        rw[s2,show sw x u x=u by unfold sw;rw[if_pos rfl],if_neg d,if_pos eu]
       .rw[s3 x hx w]
        by_cases y:x=u
        .subst y
         rw[if_pos eu,show sw i x x=i by unfold sw;rw[if_neg w,if_pos rfl],if_neg v]
        .rw[show sw i u x=x by unfold sw;rw[if_neg w,if_neg y]]
         have:f x≠j:=λz=>y (h.inj x u 0#0 0#0 (z.trans eu.symm));rw[if_neg this,if_neg this]
      rw[e];rcases Nat.lt_or_gt_of_ne hui with g|g
      .have ih:=A5 (uC h) g 0#0
       rw[gg λx _=>by
        rw[K9]]
       lia
      .have ih:=A5 (uC h) g Uk
       lia
theorem GO:∀m,cy m (λx=>x)=m
 |0=>rfl
 | m+1=>by
   show cy m _+(if m=m then 1 else 0)=_;rw[if_pos rfl,gg (f:=del m _) λx hx=>if_neg (aJ hx),GO m]
theorem rT{m:Nat}:∀(k:Nat) {f g:Nat->Nat},Inj m f->Inj m g->(∀x,k<=x->x<m->g x=x)->(cy m (λx=>f (g x))+cy m f+cy m g+m)%2=0
 | 0,f,g,hf,hg,h=>by
   rw[gg λx hx=>by rw[h x (bS _) hx],gg λx hx=>h x (bS _) hx,GO]
   lia
 | k+1,f,g,hf,hg,h=>by
   by_cases hk:m<=k
   .exact rT k hf hg λx h1 h2=>by lia
   by_cases e:g k=k
   .exact rT k hf hg λx h1 h2=>by
     grind
   have hu:g k<k:=by
    have h1:=hg.lt k 0#0;rcases m8 _ k with z|z|z
    .omega
    .exact absurd z e
    .exact absurd (hg.inj _ k h1 0#0 (h _ z h1)) e
   have hu2:g k<m:=by lia
   have WA:k<m:=by lia
   have is:=Nn hu2 WA;have ig:=is.comp hg;have fx:∀x,k<=x->x<m->sw (g k) k _=x:=λx h1 h2=>by
    by_cases z:x=k
    .rw[z];unfold sw;rw[if_pos rfl]
    .rw[h x 0#0 h2]
     unfold sw<;>grind
   have i1:=rT k (hf.comp is) ig fx;have i2:=rT k is ig fx;have e1:cy m (λx=>f (sw (g k) k _))=cy m λx=>f (g x):=gg λx _=>by rw[Eh]
   have e2:cy m (λx=>sw (g k) k _)=cy m g:=gg λx _=>Eh;rw[e2]at i2;have s1:=A5 hf hu WA;have s2:=A5 ⟨λx hx=>hx,λx y _ _ e=>e⟩ hu WA;rw[GO]at s2
   grind
theorem QM{g:Nat->Nat}(hf:Inj m f)(hg:Inj m g):cy m (λx=>f (g (g x)))%2=cy m f%2:=by
 have h1:=rT m (hf.comp hg) hg λx h1 h2=>by lia
 have h2:=rT m hf hg λx h1 h2=>by lia
 lia
section
variable {m:Nat}{f:Nat->Nat}
def Rh(f:Nat->Nat)(x y:Nat):Prop:= ∃k,itF f k x=y
theorem HC(h:Inj m f){x y:Nat}(hx:x<m):y∈rg m f x↔Rh f x y:=by
 obtain⟨p1,_,p3,_⟩:=iq h hx;constructor
 .intro hy
  obtain⟨i,_,rfl⟩:=aw.mp hy;exact⟨i,rfl⟩
 .rintro ⟨k,rfl⟩
  refine aw.mpr ⟨k%gw m f x,aA.mpr (jw _ p1),?_⟩;have:∀q,itF f (gw m f x*q) x=x:=λq=>by
   induction q with
   |zero=>rfl
   |succ q ih=>rw[Nat.mul_succ,kO,p3,ih]
  have e:=Nat.mod_add_div k (gw m f x);have e2:itF f k x=itF f (k%gw m f x) (itF f (gw m f x*(k/gw m f x)) x):=by rw[<-kO,e]
  rw[e2,this]
theorem Rh.trans{x y z:Nat}(h1:Rh f x y)(h2:Rh f y z):Rh f x z:=by
 obtain⟨j,rfl⟩:=h1;obtain⟨k,rfl⟩:=h2;exact⟨_,kO j k⟩
theorem Rh.symm(h:Inj m f){x y:Nat}(hx:x<m)(r:Rh f x y):Rh f y x:=by
 obtain⟨i,hi,rfl⟩:=aw.mp ((HC h hx).mpr r);have hi:=aA.mp hi;exact⟨gw m f x-i,by rw[<-kO,mQ 0#0];exact(iq h hx).2.2.1⟩
theorem CI(h:Inj (m+1) f):∀(k:Nat) {x y:Nat},x<m->y<m->itF f k x=y->Rh (del m f) x y
 |0,x,y,_,_,e=>⟨0,e⟩
 |1,x,y,hx,hy,e=>⟨1,by show del m f x=y;unfold del;rw[if_neg (by rw[show f x=y from e];lia)];exact e⟩
 | k+2,x,y,hx,hy,e=>by
   by_cases c:f x=m
   .have e1:del m f x=f m:=if_pos c
    have hl:f m<m:=by
     have h1:=h.lt m 1#6;have:f m≠m:=λz=>by have:=h.inj x m 0#0 1#6 (c.trans z.symm);lia
     lia
    rw[sW,sW,c]at e;obtain⟨j,hj⟩:=CI h k hl hy e;exact⟨_,by rw[sW,e1];omega⟩
   .have e1:del m f x=f x:=if_neg c
    have hl:f x<m:=by have:=h.lt x 0#0;lia
    rw[sW]at e;obtain⟨j,hj⟩:=CI h _ hl hy e;exact⟨_,by rw[sW,e1];omega⟩
theorem Hm(h:Inj (m+1) f):∀(k:Nat) {x:Nat},x<m->Rh f x (itF (del m f) k x)
 |0,x,_=>⟨0,rfl⟩
 | k+1,x,hx=>by
   refine(Hm h k hx).trans ?_;show Rh f _ (del m f _);unfold del
   split
   .rename_i c
    exact⟨2,congrArg f c⟩
   .exact⟨1,rfl⟩
open Classical in
def cnt(m:Nat)(f:Nat->Nat)(k:Nat):Nat:=((ao k).filter λx=>decide (∀y,y<x->¬Rh f y x)).length
theorem qP{k:Nat}:(¬(∀y,y<k->¬Rh f y k)->cnt m f (k+1)=cnt m f k)/\((∀y,y<k->¬Rh f y k)->cnt m f (k+1)=cnt m f k+1):=by
 unfold cnt;rw[eI]
 simp_all
theorem Il:∀{m:Nat}{f:Nat->Nat},Inj m f->cnt m f m=cy m f
 |0,f,_=>rfl
 | m+1,f,h=>by
   have ih:=Il (uC h);have e:cnt (m+1) f m=cnt m (del m f) m:=by
    unfold cnt
    congr 1
    refine List.filter_congr λx hx=>?_;have hx:=aA.mp hx
    congr 1
    refine propext ⟨λg y hy r=>?_,λg y hy r=>?_⟩
    .obtain⟨k,rfl⟩:=r
     exact g y hy (Hm h k 0#0)
    .obtain⟨k,e⟩:=r
     exact g y hy (CI h k 0#0 hx e)
   show _=cy m _+_;rw[<-ih,<-e];by_cases c:f m=m
   .rw[if_pos c]
    refine(qP).2 λy hy r=>?_;obtain⟨k,e⟩:=r.symm h 0#0;have:∀k,itF f k m=m:=λk=>by
     induction k with
     |zero=>rfl
     |succ k ih=>show f _=m;rw[ih,c]
    grind
   .rw[if_neg c]
    refine(qP).1 λg=>?_;obtain⟨u,hu,eu⟩:=h.onto m 0#0;have:u≠m:=λz=>c (by simp_all);exact g u 0#0 ⟨1,eu⟩
theorem wg(h:Inj m f):∀k,k<=m->(sdG (rg m f) k).1.length=cnt m f k/\(∀z,z∈(sdG (rg m f) k).2 ↔ ∃y,y<k/\Rh f y z)/\(sdG (rg m f) k).2.Nodup/\(sdG (rg m f) k).2=(sdG (rg m f) k).1.flatten
 |0,_=>⟨rfl,λz=>⟨λq=>absurd q (by simp[sdG]),fun⟨y,hy,_⟩=>by lia⟩,.nil,rfl⟩
 | k+1,hk=>by
   obtain⟨i1,i2,i3,i4⟩:=wg h k 0#0;by_cases c:k∈(sdG (rg m f) k).2
   .rw[sdG,if_pos c]
    obtain⟨y,hy,r⟩:=(i2 k).mp c;refine⟨by rw[i1,(qP).1 λg=>g y hy r],λz=>(i2 z).trans ⟨fun⟨y,hy,r⟩=>⟨y,by lia,r⟩,fun⟨w,hw,q⟩=>?_⟩,i3,i4⟩;by_cases e:w=k
    .subst e;exact⟨y,hy,r.trans q⟩
    grind
   .rw[sdG,if_neg c]
    have nr:=λy hy r=>c ((i2 k).mpr ⟨y,hy,r⟩);refine⟨by rw[aU,i1,(qP).2 nr];rfl,λz=>?_,?_,?_⟩
    .rw[aQ,i2,HC h 0#0]<;>grind
    .refine eF.mpr ⟨i3,L3 h 0#0,λa ha b hb e=>?_⟩
     subst e;obtain⟨y,hy,r⟩:=(i2 a).mp ha;exact nr y hy (r.trans (Rh.symm h 0#0 ((HC h 0#0).mp hb)))
    grind
theorem qz(h:Inj m f):(sdG (rg m f) m).1.length=cy m f:=by rw[(wg h m (ak _)).1,Il h]
theorem yg(h:Inj m f):(sdG (rg m f) m).1.flatten.Perm (ao m):=by
 obtain⟨_,i2,i3,i4⟩:=wg h m (ak _);rw[<-i4];refine(fC i3 ke).mpr λz=>?_;rw[i2,aA];constructor
 .rintro ⟨y,hy,k,rfl⟩
  exact jj h hy k
 .exact λhz=>⟨z,hz,0,rfl⟩
end
end
section
open _L _G
section
variable {m:Nat}{T:Nat->Nat->Nat}{a b p q:Nat}{c c0:List Nat}
theorem Sa(g:Grp m T){t n x:Nat}(ht:t<m)(hn:0<n)(h0:pw T t n=0)(hx:x<m):chF a b (iC m T t n) c (T x t)=chF a b (iC m T t n) c x:=by
 unfold chF;rw[wj (AD g ht hn h0 hx)]
theorem LW(g:Grp m T){t n x:Nat}(ht:t<m)(hn:0<n)(h0:pw T t n=0)(hx:x<m):∀k,chF a b (iC m T t n) c (T x (pw T t k))=chF a b (iC m T t n) c x
 |0=>by show chF _ _ _ _ (T x 0)=_;rw[g.r0 x hx]
 |k+1=>by rw[<-qZ g ht hx k,Sa g ht hn h0 (g.cl _ _ hx (gy g ht k)),LW g ht hn h0 hx k]
theorem Two.ht(w:Two m T a b p c):tOf m T a b<m:=w.g.cl _ _ w.ha (g9 w.g w.hb)
theorem HZ(w:Two m T a b p c){x:Nat}(hx:x<m):dW m T a b p c x=a\/dW m T a b p c x=b:=vq _ (sJ w.g w.ht w.n0 w.h0 hx)
theorem zj(w:Two m T a b p c)(z:∀x∈c,x=0){x:Nat}(hx:x<m):dW m T a b p c x=a:=by
 obtain⟨i,_,_,e⟩:=zy _ (sJ w.g w.ht w.n0 w.h0 hx);have:c.getD i 0=0:=by
  rw[aP];cases q:c[i]? with
  |none=>rfl
  |some v=>exact z v (bK q)
 rw[this]at e;exact e
theorem Mb(w:Two m T a b p c)(w0:Two m T a b p c0)(z:∀x∈c0,x=0)(hp:p%2=1)(ZU:a≠b):cy m 3#1%2=cy m (goF T (dW m T a b p c0))%2:=by
 have g:=w.g;have ht:=w.ht;have hs:=gy g ht ((p-1)/2);have inv:∀x,x<m->dW m T a b p c (T x (pw T _ ((p-1)/2)))=dW m T a b p c x:=λx hx=>LW g ht w.n0 w.h0 hx _;have ig:Inj m λx=>if dW m T a b p c x=b then T x (pw T (tOf m T a b) ((p-1)/2)) else x:=by
  refine⟨λx hx=>?_,λx y hx hy e=>?_⟩
  .split
   .exact g.cl _ _ hx hs
   lia
  .by_cases c1:dW m T a b p c x=b
   .rw[if_pos c1]at e
    by_cases c2:dW m T a b p c y=b
    .rw[if_pos c2]at e
     exact g.cancelR hs hx hy e
    .rw[if_neg c2]at e
     rw[<-e,inv x hx]at c2<;>simp_all
   .rw[if_neg c1]at e
    by_cases c2:dW m T a b p c y=b<;>simp_all
 rw[<-QM w0.cho.inj ig]
 congr 1
 refine gg λx hx=>?_;unfold goF;by_cases c1:dW m T a b p c x=b
 .rw[if_pos c1,inv x hx,if_pos c1,c1]
  have hy:=g.cl _ _ hx hs;have Ul:=g.cl _ _ hy hs;rw[zj w0 z Ul,g.as _ _ _ hx hs hs,<-sU g ht];have hq:=gy g ht ((p-1)/2+(p-1)/2);rw[<-CB g w.ha w.hb (g.cl _ _ hx hq),qZ g ht hx,show(p-1)/2+(p-1)/2+1=p by lia,w.h0,g.r0 x hx]
 .rw[if_neg c1,if_neg c1,zj w0 z hx]
  rcases HZ w hx with e|e<;>simp_all
theorem vj(w:Two m T a b p c)(z:∀x∈c,x=0){x:Nat}(hx:x<m):∀k,itF 3#1 k x=T x (pw T a k)
 |0=>(w.g.r0 x hx).symm
 | k+1=>by
   show goF T _ _=_;have hk:=w.g.cl _ _ hx (gy w.g w.ha k);rw[vj w z hx k];unfold goF;rw[zj w z hk,qZ w.g w.ha hx]
theorem DC{f:Nat->List Nat}:∀k,∀r∈(sdG f k).1,∃x,x<k/\r=f x
 |0,r,h=>by cases h
 | k+1,r,h=>by
   rw[sdG]at h
   split at h
   .obtain⟨x,hx,e⟩:=DC k r h
    exact⟨x,by lia,e⟩
   .rcases aQ.mp h with h|h
    .obtain⟨x,hx,e⟩:=DC k r h
     exact⟨x,by lia,e⟩
    .exact⟨k,by lia,bx.mp h⟩
theorem Hv:∀(L:List (List Nat)),(∀r∈L,r.length=q)->L.flatten.length=L.length*q
 |[],_=>by simp
 | r::L,h=>by
   rw[mZ,aU,Hv L λr hr=>h r (.tail _ hr),h r (.head _),bU,qo,xF]
theorem K3(w:Two m T a b p c)(z:∀x∈c,x=0)(q1:1<=q)(h0:pw T a q=0)(h1:∀k,1<=k->k<q->pw T a k≠0):cy m 3#1=m/q:=by
 have I:=w.cho.inj;have e:=(yg I).length_eq
 rw[Hv _ λr hr=>by
  obtain⟨x,hx,rfl⟩:=DC m r hr
  rw[mF,(show gw m 3#1 x=q by
    obtain⟨s1,s2,s3,s4⟩:=iq w.cho.inj hx;rw[vj w z hx]at s3;rcases m8 _ q with e|e|e
    .exact absurd s3 (OF w.g w.ha h1 hx s1 e)
    .omega
    .have:=s4 q q1 e
     rw[vj w z hx,h0,w.g.r0 x hx]at this
     simp_all)],aZ,qz I]at e
 exact(Nat.div_eq_of_eq_mul_left q1 e.symm).symm
theorem Ib(w:Two m T a b p c)(w0:Two m T a b p c0)(z:∀x∈c0,x=0)(ZU:a≠b)(hp:p%2=1)(q1:1<=q)(h0:pw T a q=0)(h1:∀k,1<=k->k<q->pw T a k≠0)(hq:m/q%2=0):cy m 3#1%2=0:=by
 rw[Mb w w0 z hp ZU,K3 w0 z q1 h0 h1,hq]
theorem BP(w:Two m T a b p c):(cy m 3#1=1)↔gw m 3#1 0=m:=by
 have I:=w.cho.inj;have h0:=w.g.pos;rw[<-qz I,(EG h0).1,uJ I h0];constructor
 .intro h y hy
  by_cases e:y=0
  .subst e;exact aw.mpr ⟨0,aA.mpr (iq I h0).1,rfl⟩
  grind
 simp_all
end
end
section
open _L _G
variable{G:Rho}{S S1:Sto}{a:ME}
theorem M6{us:List U}(ha:a G S=a_ (.tup us,S1)):mFn xZ (aa a ah) G S=a_ (.ref S1.length,S1++[.lst us]):=fI ha rfl
theorem NQ{n:Nat}(ha:a G S=a_ (.int n,S1))(hn:n<1000):jm (iR1 (aa a ah)) G S=a_ (.ref S1.length,S1++[.lst (ax (ao n))]):=by
 have e:=oB ha (by unfold big;lia);have hz:(bI 0 n).length<=big:=by simp[bI,ar];unfold big;lia
 simp only[jm,e,aF];rw[if_pos hz];simp[bI,ax]
theorem O5{b:ME}{r:Res U}(ha:a G S=a_ (.bl d_,S1))(hb:b G S1=r):mOr a b G S=r:=by
 simp[mOr,ha,aF,hb]
theorem Cj{a b:MT}(ha:a G S=a_ (d_,S1)):pe a b G S=a_ (d_,S1):=by simp[pe,ha,aF]
theorem HW{a b:MT}{r:Option (Bool×Sto)}(ha:a G S=a_ (c_,S1))(hb:b G S1=r):pe a b G S=r:=by simp[pe,ha,aF,hb]
section
variable {m:Nat}{T:Nat->Nat->Nat}{S:Sto}{a b p q:Nat}{c:List Nat}
def thB:MS:=eJ (mML j4 (ae 4) (aa (mFn xZ (aa (ae 5) ah)) ah))
variable{r:Nat}
theorem Ip{L:List (List Nat)}{t0 t1 t2 u5 v6 v7 v8:Option U}(hr:S[r]?=a_ (.lst (tups L)))(hL:L.length<1000)(hf:L.flatten.length<1000):
  ∃u S',fv 5 (dq (ae 3)) thB [t0,t1,t2,a_ (.ref r),2#0,u5,v6,v7,v8] (S++[.lst []])=a_ (.nx,[t0,t1,t2,a_ (.ref r),2#0,u,v6,v7,v8],S')/\Ex S S'/\S'[0#7]?=a_ (.lst (ax L.flatten)):=by
 obtain⟨X7,S3,e3,⟨z,rfl⟩,x3,q3⟩:=vD (i:=5) (e:=ae 3) (us:=tups L) (S:=S++[.lst []]) 0#1 (by unfold tups;rw[ar];lia)
  (λi G S3=>(∃z,G=[t0,t1,t2,a_ (.ref r),2#0,z,v6,v7,v8])/\Ex S S3/\S3[0#7]?=a_ (.lst (ax (L.take i).flatten)))
  ⟨⟨_,rfl⟩,Ex.push _ _,by rw[b9];rfl⟩ (λi G S3 hp=>by unfold getL;rw[hp.2.1.some hr]) (by
   rintro i u G S3 hu ⟨⟨z,rfl⟩,x3,q3⟩;obtain⟨w,hw,rfl⟩ :∃w,L[i]?=a_ w/\U.tup _=u:=by
    unfold tups at hu;rw[a9]at hu;exact dh.mp hu
   have ft:(L.take (i+1)).flatten=(L.take i).flatten++w:=by rw[fg,hw];simp
   have fl:(L.take (i+1)).flatten.length<=L.flatten.length:=by
    have e:L.flatten=(L.take (i+1)).flatten++(L.drop (i+1)).flatten:=by rw[<-List.flatten_append,hC]
    simp_all
   rw[ft,aU]at fl;have ei:=M6 (G:= [t0,t1,t2,a_ (.ref r),2#0,2#8,v6,v7,v8]) (S:=S3) (a:=ae 5) 0#1
   have ee:=yB (o:=ae 4) 0#1 ei q3 ((Ex.push _ _).some q3) (b9 _ _) (by
    rw[cm,cm];unfold big;lia)
   have hq:0#7<(S3++[Cell.lst (ax w)]).length:=by
    have:=(ag.mp q3).1;simp;lia
   refine⟨_,_,ee,⟨_,rfl⟩,(x3.trans (Ex.push _ _)).set (ak _),?_⟩;rw[aV hq,ft]
   simp[ax])
 rw[show(tups L).length=L.length by simp[tups],cR (ak _)]at q3;exact⟨z,S3,e3,x3,q3⟩
theorem Two.zero(w:Two m T a b p c):Two m T a b p (aS c.length 0):=⟨w.g,w.hm,w.ha,w.hb,w.n0,w.n,w.h1,w.h0,by rw[qx];exact w.cl,λx hx=>by simp_all⟩
theorem EM(w:Two m T a b p c):Lt m (wOf m T a b p c):=λy hy=>by
 obtain⟨x,hx,rfl⟩:=aw.mp hy;exact w.cho.lt x (Hl w.cho.inj w.g.pos x hx)
theorem IK(w:Two m T a b p c)(ZU:a≠b)(hp:gw m 3#1 0=m):wOf m T a b p c∈gH m T [a,b]:=by
 refine Ed w.g w.cho.inj (λx hx=>?_) (λs hs=>?_) hp
 .have:=HZ w hx<;>simp_all
 .simp at hs
  rcases hs with rfl|rfl
  .exact w.ha
  .exact w.hb
abbrev RB:MT:=cOr (cOf (m2 oNe (m2 oIs (ae 6) (mC .non)) (m2 oGt (mFn cp (aa (ae 3) ah)) 1#4))) (pe (cOf (m2 lg (ae 6) (mC .non))) (cOf (m2 lg (mFn pS (aa 0#3 (aa (ae 1) (aa (ae 6) ah)))) (mC (.bl c_)))))
theorem Oc{v4 v5 v7 v8:Option U}(w:Two m T a b p c)(ZU:a≠b)(h2:2<=m)(hr:S[r]?=a_ (.lst (tups (sdG (rOf m T a b p c) m).1))):
  ∃S',RB [0#8,a_ (.tup 3#0),a_ (.tup (ax c)),a_ (.ref r),v4,v5,a_ (if gw m 3#1 0=m then .tup (ax ((rOf m T a b p c 0).map (dW m T a b p c))) else .non),v7,v8] S=a_ (d_,S')/\Ex S S':=by
 have I:=w.cho.inj;have hn:=qz I;have one:=BP w;have pos:=by
  have:=(rP (q:=rOf m T a b p c) w.g.pos).1;exact(ag.mp this).1
 have hlen:∀G,G[3]?=a_ _->m2 _ _ _ G S=a_ (.bl (decide (1<(sdG (rOf m T a b p c) m).1.length)),S):=λG h=>by
  have:=Fz (tV (var_eq h) hr) (y:=1) c_i;rw[this]
  congr 3
  rw[show(tups _).length=(sdG (rOf m T a b p c) m).1.length by simp[tups]];rw[decide_eq_decide];lia
 by_cases hp:gw m 3#1 0=m
 .rw[if_pos hp]
  have l1:=hn.trans (one.mpr hp);have e0:=hlen [0#8,a_ (.tup [.int a,.int b]),a_ (.tup (ax c)),a_ _,v4,v5,a_ (.tup (ax (wOf m T a b p c))),v7,v8] rfl;rw[l1]at e0;have hw:=IK w ZU hp
  obtain⟨h1,h3,h4⟩:=(gf w.g (λs hs=>by
   simp at hs;rcases hs with rfl|rfl
   .exact w.ha
   ·exact w.hb) (by simpa using ZU)).mp hw
  obtain⟨S2,e2,x2⟩:=Rr w.g (by have:=w.hm;lia) (EM w) (by have:=w.hm;lia) 0#0 h3 h1;have e3:=kj (G:= [a_ _,a_ _,a_ (.tup (ax c)),a_ (.ref r),v4,v5,a_ _,v7,v8]) (a:=ae 0) (b:=ae 1) (c:=ae 6) 0#1 0#1 0#1 e2;refine⟨S2,_W.or_false (of_eq (op2 (op2 0#1 rfl rfl) e0 rfl)) (HW (of_eq (op2 0#1 rfl rfl)) (of_eq (op2 e3 rfl rfl))),x2⟩
 .rw[if_neg hp]
  have l1:(sdG (rOf m T a b p c) m).1.length≠1:=λz=>hp (one.mp (hn.symm.trans z));have e0:=hlen [0#8,a_ (.tup [.int a,.int b]),a_ (.tup (ax c)),a_ _,v4,v5,a_ .non,v7,v8] rfl;rw[decide_eq_true 0#0]at e0;exact⟨S,_W.or_false (of_eq (op2 (op2 0#1 rfl rfl) e0 rfl)) (Cj (of_eq (op2 0#1 rfl rfl))),Ex.refl _⟩
end
end
section
open _L _G
section
variable {m:Nat}{T:Nat->Nat->Nat}{S:Sto}{a b p q:Nat}{c:List Nat}
abbrev rh6(m:Nat)(T:Nat->Nat->Nat)(a b:Nat)(c:List Nat)(u3 u4 u5 u6 u7 u8:Option U):Rho:= [0#8,a_ (.tup 3#0),a_ (.tup (ax c)),u3,u4,u5,u6,u7,u8]
abbrev RQ:MS:=aY (bC 7 (m2 oIx (m2 oIx 0#3 (m2 oIx (ae 1) 1#0)) (mFn kC (aa 0#3 (aa (m2 oIx (ae 1) 1#4) ah))))) (aY (sIf (cOf (m2 oEq (m2 oMod (mFn fE (aa 0#3 (aa (ae 7) ah))) 1#7) 1#0)) (cn (mC (.bl c_))) dE) (aY (bC 8 (mFn cp (aa (mFn oJ (aa 0#3 (aa (ae 1) (aa (m2 iB (iU (aa 1#0 ah)) (mFn cp 1#8)) ah)))) ah))) (aY (sIf (cOf (m2 oNe (m2 oMod (m2 xw (mFn cp (aa (ae 3) ah)) (ae 8)) 1#7) 1#0)) (cn (mC (.bl d_))) dE) (cn (mOr (m1 xi (mFn fV 2#9)) (m2 oEq (m2 oMod (mFn cp (aa (ae 3) ah)) 1#7) 1#0))))))
theorem KE{r:Nat}{u4 u5 u6 u7 u8:Option U}(w:Two m T a b p c)(ZU:a≠b)(hr:S[r]?=a_ (.lst (tups (sdG (rOf m T a b p c) m).1))):
  ∃Y4 S',RQ (rh6 m T a b c (a_ (.ref r)) u4 u5 u6 u7 u8) S=a_ (.rt (.bl c_),Y4,S')/\Ex S S':=by
 have g:=w.g;have ht:=w.ht;obtain⟨q,q1,q2,q3,q4⟩:=g.ord w.ha;have hm:=w.hm;have e1:m2 _ (m2 _ 0#3 (m2 _ (ae 1) _)) (mFn _ (aa 0#3 (aa (m2 _ (ae 1) _) _))) (rh6 m T a b c (a_ (.ref r)) u4 u5 u6 u7 u8) S=a_ _:=
  ki (j6 g w.hb).1 (jo w.ha 0#1 (JC 0#1)) (cP 0#1 (Mf 0#1) (xQ g w.hb))
 have op:∀S,fE _ S=a_ _:=λS=>kL g ht w.n0 (by have:=w.n;lia) w.h1 w.h0;have oq:∀S,fE _ S=a_ _:=λS=>kL g w.ha q1 0#0 q4 q3;have c2:=of_eq (Fy (G:=rh6 m T a b c (a_ (.ref r)) u4 u5 u6 _ u8) (y:=0) (wD (y:=2) (cP (a:=ae 0) (b:=ae 7) 0#1 0#1 (op S)) c_i 0#2) c_i);by_cases he:p%2=0
 .rw[decide_eq_true he]at c2
  exact⟨_,S,(aL (bh e1)).trans (NF ((sQ c2).trans (cz rfl))),Ex.refl _⟩
 rw[decide_eq_false he]at c2;have hp:p%2=1:=by lia
 have cl:c.length<1000:=by have:=w.cl;have:=w.len;lia
 obtain⟨r5,S5,e5,x5,_,g5⟩:=AA w.zero;have z0:∀x∈aS c.length 0,x=0:=λx hx=>(List.mem_replicate.mp hx).2;have n0:=qz w.zero.cho.inj;have n1:=qz w.cho.inj;have par:=Mb w w.zero z0 hp ZU;have e6:mFn cp (aa (mFn oJ (aa 0#3 (aa (ae 1) (aa (m2 iB (iU (aa 1#0 ah)) (mFn cp 1#8)) ah)))) ah) (rh6 m T a b c (a_ (.ref r)) u4 u5 u6 (a_ (.int (tOf m T a b))) u8) S=a_ (.int (cy m (goF T (dW m T a b p (aS c.length 0)))),S5):=by
  have hl:=AR (G:=rh6 m T a b c (a_ (.ref r)) u4 u5 u6 (a_ (.int (tOf m T a b))) u8) (S:=S) (a:=ae 2) 0#1;rw[cm]at hl;refine fI (kj 0#1 0#1 (Qm (Ke rfl) hl cl) e5) ?_;simp only[cp,DU g5,eA,getL,g5,dr];rw[show(tups _).length=(sdG (rOf m T a b p (aS c.length 0)) m).1.length by simp[tups],n0]
 have hr5:=x5.some hr;have e7:mFn cp (aa (ae 3) ah) (rh6 m T a b c (a_ (.ref r)) u4 u5 u6 (a_ (.int (tOf m T a b))) (a_ (.int (cy m (goF T (dW m T a b p (aS c.length 0))))))) S5=a_ (.int (cy m 3#1),S5):=by
  rw[tV 0#1 hr5,show(tups _).length=(sdG (rOf m T a b p c) m).1.length by simp[tups],n1]
 have e8:=IJ (y:=2) (Ea e7 (b:=ae 8) 0#1) c_i 0#2;rw[show((cy m _:Nat)-(cy m _:Nat):Int)%2=(0:Int) by lia]at e8;have c8:=of_eq (Fe e8 (y:=0) c_i);have eb:=cP (G:=rh6 m T a b c (a_ (.ref r)) u4 u5 u6 (a_ (.int (tOf m T a b))) (a_ (.int (cy m (goF T (dW m T a b p (aS c.length 0))))))) (S:=S5) (a:=ae 0) (b:=ae 1) 0#1 0#1 (yk g w.ha w.hb q1 0#0 op oq);have e9:=Q0 eb;have fin:mOr (m1 xi (mFn fV 2#9)) (m2 oEq (m2 oMod (mFn cp (aa (ae 3) ah)) 1#7) 1#0) (rh6 m T a b c (a_ (.ref r)) u4 u5 u6 (a_ (.int (tOf m T a b))) (a_ (.int (cy m (goF T (dW m T a b p (aS c.length 0))))))) S5=a_ (.bl c_,S5):=by
  by_cases hq:m/q%2=0
  .rw[decide_eq_true hp,decide_eq_true hq]at e9
   have:=Ib w w.zero z0 ZU hp q1 q3 q4 hq;have WE:=Fy (wD (y:=2) e7 c_i 0#2) (y:=0) c_i;rw[decide_eq_true this]at WE;exact O5 e9 WE
  .rw[decide_eq_true hp,decide_eq_false hq]at e9
   simp[mOr,e9,aF]
 exact⟨_,S5,(aL (bh e1)).trans ((aL ((kK c2).trans rfl)).trans ((aL (bh e6)).trans ((aL ((kK c8).trans rfl)).trans (cz fin)))),x5⟩
theorem KJ(w:Two m T a b p c)(ZU:a≠b)(h2:2<=m):∃S',fX [tab m T,.tup 3#0,.tup (ax c)] S=a_ (.bl c_,S')/\Ex S S':=by
 obtain⟨r,S1,e1,x1,l1,q1⟩:=AA (S:=S) w;have hm:=w.hm;have YA:=yg w.cho.inj;have hfl:(sdG (rOf m T a b p c) m).1.flatten.length=m:=by rw[YA.length_eq,aZ]
 have hL:=EL (q:=rOf m T a b p c) m;obtain⟨u,S3,e3,x3,q3⟩:=Ip (S:=S1) q1 0#0 0#0;have f4:=Ly (q8 (G:=rh6 m T a b c (a_ (.ref r)) _ u b_ b_ b_) (S:=S3) (a:=ae 4) 0#1 q3 0#0) (NQ (len_tab (a:=ae 0) (m:=m) (T:=T) 0#1) 0#0) ((Ex.push _ _).some (b9 _ _)) (b9 _ _);rw[decide_eq_true (by rw[oA YA,yI])]at f4;generalize hS4:S3++[Cell.lst _]++[Cell.lst _]=S4 at f4;have x4:Ex S3 S4:=by rw[<-hS4];exact(Ex.push _ _).trans (Ex.push _ _)
 obtain⟨S5,e5,x5⟩:=zq (S:=S4) w;have q5:=((x3.trans x4).trans x5).some q1;obtain⟨S6,e6,x6⟩:=Oc (S:=S5) (v5:=u) w ZU h2 q5;obtain⟨Z1,S7,e7,x7⟩:=KE (S:=S6) (u5:=u) w ZU (x6.some q5);refine⟨S7,cK (G:=Z1) rfl ?_,((((x1.trans x3).trans x4).trans x5).trans x6).trans x7⟩;exact(aL (bh (kj 0#1 0#1 0#1 e1))).trans ((aL (bh jF)).trans ((aL e3).trans ((aL ((kK (of_eq f4)).trans rfl)).trans ((aL (bh (kj 0#1 0#1 0#1 e5))).trans ((aL ((kK e6).trans rfl)).trans e7)))))
end
end
section
open _L _G
section
variable {m:Nat}{T:Nat->Nat->Nat}{S:Sto}{a b p q:Nat}{c:List Nat}
theorem ID{f:Nat->Nat}{ch:Nat->Nat}(hf:∀x,f x=T x (ch x)):∀k,plc T ((rgK f 0 k).map ch)=rgK f 0 (k+1)/\fD T ((rgK f 0 k).map ch)=itF f k 0
 |0=>⟨rfl,rfl⟩
 | k+1=>by
   obtain⟨h1,h2⟩:=ID hf k;rw[qT,bL,dw,List.map_nil,lH,lM,h1,h2,<-hf,qT (k:=k+1)];exact⟨rfl,rfl⟩
theorem NY{l:List Nat}{v:Nat}(hl:l≠[])(h:∀x∈l,x=v):ddN l=[v]:=by
 have hm:v∈ddN l:=by
  obtain⟨x,hx⟩:=List.exists_mem_of_ne_nil l hl;rw[E1,<-h x hx];omega
 have nd:=(show(ddN l).Nodup by
   have h:(dz (ddN l)).Nodup:=by rw[oE];exact yh _ [] List.nodup_nil
   unfold dz at h
   exact(aW.mp h).imp λ{a b} ZU e=>ZU (by rw[e]))
 have ha:=λx hx=>h x (E1.mp hx)
 match q:ddN l with
 |[]=>grind
 |[x]=>simp_all
 | x::y::r=>
   simp_all
def bsB:MS:=aY (bC 6 (mFn bSS (aa (bY (dq (ae 5)) cTT (m2 oIx (ae 2) (mMT fj (ae 3) (aa (ae 7) ah)))) ah))) (aY (sIf (cOf (m2 oNe (mFn cp (aa (ae 6) ah)) 1#4)) (cn (mC .non)) dE) (eJ (mML de (ae 4) (aa (mMT fj (ae 1) (aa (m2 oIx (ae 6) 1#0) ah)) ah))))
abbrev rb6(m:Nat)(T:Nat->Nat->Nat)(a b:Nat)(w:List Nat)(u3 u4 u5 u6:Option U):Rho:= [0#8,a_ (.tup 3#0),2#8,u3,u4,u5,u6]
theorem Nt(w:Two m T a b p c)(ZU:a≠b)(hp:gw m 3#1 0=m):∃S',gM [tab m T,.tup 3#0,.tup (ax (wOf m T a b p c))] S=a_ (.tup (ax c),S')/\Ex S S':=by
 have g:=w.g;have hm:=w.hm;have wl:(wOf m T a b p c).length=m:=by rw[ar,mF,hp]
 obtain⟨S1,e1,x1⟩:=L7 g (EM w) 0#0;have s1:mFn _ (aa 0#3 1#8) (rb6 m T a b _ b_ b_ b_ b_) S=a_ _:=cP 0#1 0#1 e1;obtain⟨r2,S2,e2,x2,l2,q2⟩:=qQ g 0#0 w.ha w.hb rfl w.n0 (by have:=w.n;lia) w.h1 w.h0;have s2:mFn _ 2#9 (rb6 m T a b (wOf m T a b p c) (a_ (.tup (ax (plc T (wOf m T a b p c))))) (a_ (.ref S1.length)) b_ b_) (S1++[.lst []])=a_ _:=cP 0#1 0#1 e2;have hll:=w.len;obtain⟨X7,S3,e3,⟨z5,z6,rfl⟩,x3,q3⟩:=vD (i:=5) (us:=tups (lOf m T a b p)) (b:=bsB) s2 (by unfold tups;rw[ar];lia)
  (λi G S3=>(∃z5 z6,G=rb6 m T a b _ _ _ z5 z6)/\(Ex S S3/\S3[r2]?=a_ (.lst (tups (lOf m T a b p))))/\S3[S1.length]?=a_ (.lst (ax (c.take i))))
  ⟨⟨_,_,rfl⟩,⟨(x1.trans (Ex.push _ _)).trans x2,q2⟩,by rw[x2.some (b9 _ _)];rfl⟩ (λi G S3 hp=>by unfold getL;rw[hp.2.1.2]) (by
   rintro i u G S3 hu ⟨⟨z5,z6,rfl⟩,⟨x3,r3⟩,q3⟩;obtain⟨s,hs,rfl⟩ :∃s,(lOf m T a b p)[i]?=a_ s/\U.tup _=u:=by
    unfold tups at hu;rw[a9]at hu;exact dh.mp hu
   have hi:=(ag.mp hs).1;have Vk:i<c.length:=by rw[w.cl];exact hi
   have sg:(lOf m T a b p).getD i []=s:=by rw[aP,hs];rfl
   have YF:=bK hs;have slt:=Oh g w.ht s YF;have sl:=EC (by have:=w.n;lia) s YF;have Yp:∀x∈s,dW m T a b p c x=stp a b _:=λx hx=>ET g w.ht w.n0 w.h0 (slt x hx) hi (by rw[sg];exact hx);have sne:s≠[]:=λz=>by
    have e:=congrArg eV (sg.symm.trans (vv hi));rw[mG,La,z]at e;have:=w.n0;simp at e;lia
   have f5:=yy (t:=cTT) (e:=m2 oIx (ae 2) (mMT _ (ae 3) (aa (ae 7) ah))) (G:=rb6 m T a b _ _ (a_ (.ref S1.length)) _ z6) (S:=S3) (a:=ae 5) (l:=s) 0#1 0#0 (λ_ _=>rfl) (λx hx _=>by
    obtain⟨a1,a2⟩:=(show x∈plc T (wOf m T a b p c)/\(ax (wOf m T a b p c))[(plc T (wOf m T a b p c)).idxOf x]? = a_ (.int (dW m T a b p c x:Nat)) by
      have I:=w.cho.inj;have ZI:=(uJ I w.g.pos).mp hp x (slt x hx)
      rw[(show plc T (wOf m T a b p c)=rOf m T a b p c 0++[itF 3#1 m 0] by
        unfold wOf rOf rg
        rw[hp,(ID (T:=T) (f:=goF T _) (λx=>rfl) m).1,qT])]
      rw[List.idxOf_append];have hl:=nh.mpr ZI;unfold ax wOf
      simp_all)
    exact Al (var_eq rfl) (kq (var_eq rfl) (var_eq rfl) a1) (kT a2))
   rw[ub.mpr (λ_ _=>rfl),show s.map _=ax _ by unfold ax;rw[bq];rfl]at f5
   have TC:=NY (λz=>sne (List.map_eq_nil_iff.mp z)) (λy hy=>by
    obtain⟨x,hx,rfl⟩:=aw.mp hy
    exact Yp x hx)
   have f6:=RT f5 (b9 _ _) (by rw[ar];lia) (by rw[TC];simp);rw[TC,Oy 0#4]at f6;have x6:Ex S3 (S3++[Cell.lst (ax (s.map (dW m T a b p c)))]++[Cell.lst (ax [stp a b (c.getD i 0)])]):=(Ex.push _ _).trans (Ex.push _ _);have q6:(S3++[Cell.lst _]++[Cell.lst (ax [stp a b (c.getD i 0)])])[(S3++[Cell.lst (ax (s.map (dW m T a b p c)))]).length]?=a_ _:=b9 _ _;generalize (S3++[Cell.lst _]).length=r6 at f6 q6;generalize S3++[Cell.lst _]++[Cell.lst _]=S6 at f6 x6 q6;have c7:=of_eq (Fe (G:=rb6 m T a b (wOf m T a b p c) (a_ (.tup (ax (plc T (wOf m T a b p c))))) (a_ (.ref S1.length)) (a_ (.tup (ax s))) _) (y:=1) (tV (a:=ae 6) 0#1 q6) c_i);have ci2:c.getD i 0<2:=by
    rw[aP,aC Vk];exact w.c2 _ (bP Vk)
   have ZW:stp a b (c.getD i 0)∈[a,b] /\ [a,b].idxOf (stp a b (c.getD i 0))=c.getD i 0:=by
    unfold stp;by_cases z:c.getD i 0=0
    .rw[z];simp
    .rw[if_neg z,show c.getD i 0=1 by lia]
     rw[Ak,beq_eq_false_iff_ne.mpr ZU];simp
   have f8:=by
    have:=kq (G:=rb6 m T a b (wOf m T a b p c) (a_ (.tup (ax (plc T (wOf m T a b p c))))) (a_ (.ref S1.length)) (a_ (.tup (ax s))) _) (o:=ae 1) (a:=m2 oIx (ae 6) _) 0#1 (Bt 0#1 c_i q6 (kT (k:=0) rfl)) ZW.1;rw[ZW.2]at this;exact this
   have q7:=x6.some q3;have f9:=append_eq (o:=ae 4) 0#1 f8 q7 q7 (by rw[cm,c6];unfold big;lia);have hq:=(ag.mp q7).1;have r6':=x6.some r3;refine⟨_,_,(aL (bh f6)).trans ((aL ((kK c7).trans rfl)).trans f9),⟨_,_,rfl⟩,⟨(x3.trans x6).set x1.len,?_⟩,?_⟩
   .rw[aN (by simp at l2;lia)]
    exact r6'
   .rw[aV hq,fg,aC Vk]
    have:c.getD i 0=c[i]:=by rw[aP,aC Vk];rfl
    rw[this];unfold ax
    rw[bL];rfl)
 rw[show(tups _).length=c.length by simp[tups,w.cl],cR (ak _)]at q3;refine⟨S3,cK (G:=rb6 m T a b (wOf m T a b p c) (a_ (.tup (ax (plc T (wOf m T a b p c))))) (a_ (.ref S1.length)) z5 z6) rfl ?_,x3.1⟩;refine(aL (bh s1)).trans ((aL (bh jF)).trans ((aL e3).trans (cz ?_)));exact fI 0#1 (by simp only[bQ,eA,getL,q3,dr])
end
end
section
open _L _G
section
variable {m:Nat}{T:Nat->Nat->Nat}{S:Sto}{a b p q:Nat}{c:List Nat}
theorem Jf(g:Grp m T)(hm:m<=16)(ha:a<m)(hb:b<m)(ZU:a<b):∃r S',bT [tab m T,.tup (ax [a,b])] S=a_ (.ref r,S')/\Ex S S'/\S'[r]?=a_ (.lst (tups (gH m T [a,b]))):=by
 obtain⟨p,p1,p2,p3,p4⟩:=g.ord (g.cl a _ ha (g9 g hb));have h:=sN g ha hb 0#0 p1 p3;exact Ov g 0#0 0#0 ha hb ZU p1 p2 p4 p3
theorem LM(g:Grp m T)(hm:m<=16)(ha:a<m)(hb:b<m)(ZU:a<b):(gH m T [a,b]).length<=256:=by
 obtain⟨p,p1,p2,p3,p4⟩:=g.ord (g.cl a _ ha (g9 g hb));have h:=sN g ha hb 0#0 p1 p3;have h1:=congrArg eV (wB g ha hb ZU p1 p3);rw[(pO _).length_eq,ar,ar]at h1;rw[<-h1];unfold walks;rw[ar];have h2:=hJ (gdC m T a b p) (iN (lOf m T a b p).length);rw[nH]at h2;have h3:2^(lOf m T a b p).length<=2^8:=tu 0#2 0#0
 lia
theorem Hb:∀{us:List Nat},1#1=2->us.Pairwise (· < ·)->Lt m us->∃x y,us=[x,y]/\x<m/\y<m/\x<y
 |[x,y],_,h,l=>⟨x,y,rfl,l x 0#4,l y 0#4,by simpa using h⟩
theorem OT(g:Grp m T)(hm:m<60)(ha:a<m)(hb:b<m)(ZU:a≠b)(p1:1<=p)(p2:p<=m)(h1:∀k,1<=k->k<p->pw T (tOf m T a b) k≠0)(h0:pw T (tOf m T a b) p=0)(hp:p%2=1)(q1:1<=q)(q0:pw T a q=0)(q4:∀k,1<=k->k<q->pw T a k≠0)(hq:m/q%2=0):gH m T [a,b]=[]:=by
 refine List.eq_nil_iff_forall_not_mem.mpr λw hw=>?_;obtain⟨c,c1,c2,c3,_⟩:=qc g ha hb ZU p1 h0 hw;have tw:Two m T a b p c:=⟨g,hm,ha,hb,p1,by lia,h1,h0,c1,c2⟩;have e:=Ib tw tw.zero (λx hx=>(List.mem_replicate.mp hx).2) ZU hp q1 q0 q4 hq;rw[(BP tw).mpr c3]at e;cases e
theorem F8{us:List Nat}(g:Grp m T)(hs:Lt m [a,b])(ZW: [a,b].Pairwise (· < ·))(hu:Lt m us)(WX:us.Pairwise (· < ·))(h1:∀x∈[a,b],unT m T x∈us)(h2:∀x∈us,unT m T x∈[a,b]):(gH m T us).Perm ((gH m T [a,b]).map (bk m T)):=by
 have key:∀{st us:List _},Lt m st->st.Pairwise _->Lt m us->us.Pairwise _->(∀x∈st,unT m T x∈us)->∀w∈gH m T st,bk m T w∈gH m T us/\bk m T _=w:=λ{st us} hs ZW hu WX h w hw=>by
  obtain⟨h1,h2,h3⟩:=(gf g hs (Ar ZW)).mp hw
  refine⟨(gf g hu (Ar WX)).mpr ⟨h1.bk g (qB hs h2),λx hx =>?_,by rw[Ck];omega⟩,(show bk m T (bk m T w)=w by
    unfold bk;rw[<-List.map_reverse,List.reverse_reverse,bq];have:w.map (unT m T∘unT m T)=w.map id:=aR λx hx=>DN g ((qB hs h2) x hx)
    rw[this,rO])⟩
  obtain⟨y,hy,rfl⟩:=aw.mp hx
  simp_all
 refine(fC (zp WX _ _ _) ?_).mpr λw=>⟨λhw=>?_,λhw=>?_⟩
 .rw[ay,aW]
  refine bM (λ{u v} Uk hv ZN e=>ZN ?_) (ay.mp (zp ZW _ 0 _));rw[<-(key hs ZW hu WX h1 u Uk).2,<-(key hs ZW hu WX h1 v hv).2,e]
 .obtain⟨k1,k2⟩:=key hu WX hs ZW h2 w hw
  exact aw.mpr ⟨_,k1,k2⟩
 .obtain⟨v,hv,rfl⟩:=aw.mp hw
  exact(key hs ZW hu WX h1 v hv).1
variable{G:Rho}{S1:Sto}{r:Nat}
theorem RG{e:ME}{L M:List (List Nat)}(he:e G S=a_ (.ref r,S1))(hr:S1[r]?=a_ (.lst (tups L)))(hl:L.length<100000)(hn:∀w∈L,w≠[])(hp:M.Perm L)(hM:(M.map dz).Pairwise λa b=>HT.lexLt a b=c_):mFn iT (aa e ah) G S=a_ (.ref S1.length,S1++[.lst (tups M)]):=by
 refine fI he ?_;have hg:getL S1 r=a_ (tups L):=by unfold getL;rw[hr]
 have nM:=ay.mpr (hM.imp λ{u v} h e=>by rw[e,mD]at h;cases h);have nL:=(hp.map _).nodup_iff.mp nM
 have ok:okT _:=⟨by simp_all,nL,λl h z=>by
  obtain⟨w,hw,rfl⟩:=aw.mp h
  exact hn w hw (oG z)⟩
 simp only[iT,Fm,hg,aO,qg];rw[if_pos ok,<-vZ nL (hp.map _) hM,yo];rfl
theorem RO{e:ME}{l:List Nat}(he:e G S=a_ (.ref r,S1))(hr:S1[r]?=a_ (.lst (ax l)))(h0:l≠[])(hl:l.length<64):mFn iT (aa e ah) G S=a_ (.ref S1.length,S1++[.lst (ax (srt l))]):=by
 have e1:=q8 he hr hl;have e2:=by
  simp[mFn,aa,ah,he,aF]at e1;omega
 refine fI he ?_;have hg:getL S1 r=a_ (ax l):=by unfold getL;rw[hr]
 have hn:dG pG (ax l)=b_:=by
  match l,h0 with
  |x::l,_=>rfl
 simp only[iT,Fm,hg,aO,hn,e2];rfl
abbrev rl6(k:Int)(n m:Nat)(T:Nat->Nat->Nat)(a b N:Nat)(u6 u7 u8 u9 u10 u11 u12:Option U):Rho:= [a_ (.ref 0),a_ (.int k),a_ (.ref n),0#8,a_ (.tup (ax [a,b])),a_ (.int (N:Nat)),u6,u7,u8,u9,u10,u11,u12]
abbrev QZ:MS:=aY (bC 9 (mFn gM (aa (ae 3) (aa (ae 4) (aa (ae 8) ah))))) (sIf (cOr (cOf (m2 oIs (ae 9) (mC .non))) (cOf (m2 oNe (mFn iI (aa (ae 3) (aa (ae 4) (aa (ae 9) ah)))) (ae 8)))) (cn (mC (.bl d_))) dE)
theorem Lo{k:Int}{n N:Nat}{u6 u8 u9 u10 u11 u12:Option U}(g:Grp m T)(hm:m<=16)(ha:a<m)(hb:b<m)(ZU:a<b)(hr:S[r]?=a_ (.lst (tups (gH m T [a,b])))):
  ∃v8 v9 S',fv 8 (dq (mSl (ae 7) b_ (a_ (mC (.int 4))))) QZ (rl6 k n m T a b N u6 (a_ (.ref r)) u8 u9 u10 u11 u12) S=a_ (.nx,rl6 k n m T a b N u6 (a_ (.ref r)) v8 v9 u10 u11 u12,S')/\Ex S S':=by
 obtain⟨p,p1,p2,p3,p4⟩:=g.ord (g.cl a _ ha (g9 g hb));have hlen:=LM g hm ha hb ZU;have hg:getL S r=a_ (tups (gH m T [a,b])):=by unfold getL;rw[hr]
 have e1:mSl (ae 7) b_ (a_ (mC (.int 4))) (rl6 k n m T a b N u6 (a_ (.ref r)) u8 u9 u10 u11 u12) S=a_ (.ref 0#7,S++[.lst (cut (tups (gH m T [a,b])) b_ (a_ 4))]):=by
  have v7:ae 7 (rl6 k n m T a b N u6 _ u8 u9 u10 u11 u12) S=a_ (.ref r,S):=var_eq rfl;simp[mSl,v7,aF,Bo,mC,hg,dr]
 have UP:∀u∈cut (tups _) b_ (a_ 4),∃w∈gH m T [a,b],u=.tup (ax w):=λu hu=>by
  have:=fR (eW hu);obtain⟨w,hw,rfl⟩:=aw.mp this;exact⟨w,hw,rfl⟩
 have YQ:(cut (tups (gH m T [a,b])) b_ (a_ 4)).length<100000:=by
  unfold cut;rw[c6,iJ];have:(tups (gH m T [a,b])).length<=256:=by simpa [tups]using hlen
  lia
 obtain⟨X7,S3,e3,⟨v8,v9,rfl⟩,x3⟩:=vD (i:=8) (b:=QZ) e1 YQ
  (λ_ G S3=>(∃v8 v9,G=rl6 k n m T a b N u6 _ v8 v9 _ _ _)/\Ex _ S3) ⟨⟨_,_,rfl⟩,Ex.refl _⟩ (λi G S3 hp=>by unfold getL;rw[hp.2.some (b9 _ _)]) (by
   rintro i u G S3 hu ⟨⟨v8,v9,rfl⟩,x3⟩;obtain⟨w,hw,rfl⟩:=UP u (bK hu);obtain⟨c,c1,c2,c3,c4⟩:=qc g ha hb 0#0 p1 p3 hw;have tw:Two m T a b p c:=⟨g,by lia,ha,hb,p1,by lia,p4,p3,c1,c2⟩;obtain⟨S4,e4,x4⟩:=Nt tw 0#0 c3;obtain⟨S5,e5,x5⟩:=zq tw;rw[if_pos c3]at e5;rw[show wOf m T a b p c=w from c4]at e4;rw[c4]at e5;have f4:=kj (G:=rl6 k n m T a b N u6 (a_ (.ref r)) _ v9 u10 u11 u12) (a:=ae 3) (b:=ae 4) (c:=ae 8) 0#1 0#1 0#1 e4;have f5:=MB (y:=w) (kj (G:=rl6 k n m T a b N u6 (a_ (.ref r)) _ _ u10 u11 u12) (a:=ae 3) (b:=ae 4) (c:=ae 9) 0#1 0#1 0#1 e5) (b:=ae 8) 0#1;rw[decide_eq_true rfl]at f5
   exact⟨_,S5,(aL (bh f4)).trans ((kK (_W.or_false (of_eq (op2 (var_eq rfl) rfl rfl)) (of_eq f5))).trans rfl),⟨_,_,rfl⟩,(x3.trans x4).trans x5⟩)
 exact⟨v8,v9,S3,e3,(Ex.push _ _).trans x3⟩
end
end
section
open _L _G
section
variable {m:Nat}{T:Nat->Nat->Nat}{S:Sto}{a b p q:Nat}{c:List Nat}
abbrev Rv:MS:=aY (bC 7 (mFn bT (aa (ae 3) 2#3))) (aY (sIf (pe (cOf (mFn fV (aa (ae 3) 2#3))) (cOf (m2 oNe (ae 7) (dN ah)))) (cn (mC (.bl d_))) dE) (aY (fv 8 (dq (mSl (ae 7) b_ (a_ (mC (.int 4))))) (aY (bC 9 (mFn gM (aa (ae 3) (aa (ae 4) (aa (ae 8) ah))))) (sIf (cOr (cOf (m2 oIs (ae 9) (mC .non))) (cOf (m2 oNe (mFn iI (aa (ae 3) (aa (ae 4) (aa (ae 9) ah)))) (ae 8)))) (cn (mC (.bl d_))) dE))) (aY (bC 10 (mFn bT (aa (ae 3) (aa (mFn iZ (aa (ae 3) 2#3)) ah)))) (aY (sIf (cOf (m2 oNe (mFn iT (aa (bY (dq (ae 7)) cTT (mFn tj (aa (ae 3) (aa (ae 13) ah)))) ah)) (ae 10))) (cn (mC (.bl d_))) dE) (aY (bC 11 (mFn iH (aa (ae 2) (aa (mFn cp (aa (ae 3) ah)) ah)))) (aY (bC 12 (mFn bQ (aa (mFn iT (aa (bY (dq (ae 4)) cTT (mMT fj (ae 11) (aa (ae 13) ah))) ah)) ah))) (sIf (cOf (m2 oNe (mFn cp (aa (mFn bT (aa (mFn uH (aa (ae 3) (aa (ae 11) ah))) (aa (ae 12) ah))) ah)) (mFn cp (aa (ae 7) ah)))) (cn (mC (.bl d_))) dE)))))))
variable{n:Nat}
theorem Bk{G:Rho}{S1 S2:Sto}{x y:ME}{k:Nat}{L:List (List Nat)}(ha:x G S=a_ (.ref n,S1))(hb:y G S1=a_ (.ref k,S2))(hn:S2[n]?=a_ (Cell.lst (tups L)))(hk:S2[k]?=a_ (Cell.lst (tups L))):m2 oNe x y G S=a_ (.bl d_,S2):=by
 refine op2 ha hb ?_;simp only[oNe,_G.eqU,AS hn,AS hk,aO,dr,ff,BL];simp
theorem PK{k:Int}{N r:Nat}{u6 u8 u9 u10 u11 u12:Option U}(g:Grp m T)(hm:m<=16)(ha:a<m)(hb:b<m)(ZU:a<b)(hr:S[r]?=a_ (.lst (tups (gH m T [a,b])))):
  ∃S',pe (cOf (mFn fV (aa (ae 3) 2#3))) (cOf (m2 oNe (ae 7) (dN ah))) (rl6 k n m T a b N u6 (a_ (.ref r)) u8 u9 u10 u11 u12) S=a_ (d_,S')/\Ex S S':=by
 obtain⟨p,p1,p2,p3,p4⟩:=g.ord (g.cl a _ ha (g9 g hb));obtain⟨q,q1,q2,q3,q4⟩:=g.ord ha;have eb:=of_eq (cP (G:=rl6 k n m T a b N u6 (a_ (.ref r)) u8 u9 u10 u11 u12) (S:=S) (a:=ae 3) (b:=ae 4) 0#1 0#1 (yk g ha hb q1 0#0 (λS=>kL g (g.cl a _ ha (g9 g hb)) p1 0#0 p4 p3) (λS=>kL g ha q1 0#0 q4 q3)));by_cases hp:p%2=1
 .by_cases hq:m/q%2=0
  .rw[decide_eq_true hp,decide_eq_true hq]at eb
   have e0:=OT g 0#0 ha hb 0#0 p1 p2 p4 p3 hp q1 q3 q4 hq;rw[e0]at hr;exact⟨_,HW eb (of_eq (Bk 0#1 jF ((Ex.push _ _).some hr) (b9 _ _))),Ex.push _ _⟩
  .rw[decide_eq_false hq,Bool.and_false]at eb
   exact⟨S,Cj eb,Ex.refl _⟩
 .rw[decide_eq_false hp]at eb
  exact⟨S,Cj eb,Ex.refl _⟩
theorem OY{k:Int}{N r:Nat}{u6 u8 u9 u10 u11 u12:Option U}(g:Grp m T)(hm:m<=16)(ha:a<m)(hb:b<m)(ZU:a<b)(hr:S[r]?=a_ (.lst (tups (gH m T [a,b])))):
  ∃r2 S2,(mFn bT (aa (ae 3) (aa (mFn iZ (aa (ae 3) 2#3)) ah)) (rl6 k n m T a b N u6 (a_ (.ref r)) u8 u9 u10 u11 u12) S=a_ (.ref r2,S2)/\Ex S S2) /\
   ∃S3,m2 oNe (mFn iT (aa (bY (dq (ae 7)) cTT (mFn tj (aa (ae 3) (aa (ae 13) ah)))) ah)) (ae 10) (rl6 k n m T a b N u6 (a_ (.ref r)) u8 u9 (a_ (.ref r2)) u11 u12) S2=a_ (.bl d_,S3)/\Ex S2 S3:=by
 have hs:Lt m [a,b]:=λs hs=>by
  simp at hs;rcases hs with rfl|rfl<;>assumption
 have ZW: [a,b].Pairwise (· < ·):=by simpa using ZU
 have hul:=Pw g hs;have hur:=AC ZW hs (OK g);obtain⟨x,y,Xc,hx,hy,Yr⟩:=Hb (by rw[mG];rfl) hur hul;obtain⟨S1,e1,x1⟩:=Qc g hs 0#4;rw[Xc]at e1;obtain⟨r2,S2,e2,x2,q2⟩:=Jf g hm hx hy Yr;refine⟨r2,S2,⟨cP 0#1 (cP 0#1 0#1 e1) e2,x1.trans x2⟩,?_⟩;have ZS:=(x1.trans x2).some hr;have hlen:=LM g hm ha hb ZU;have XE:∀w∈gH m T _,Lt m w/\w.length=m:=λw hw=>by
  obtain⟨_,h2,h3⟩:=(gf g hs (Ar ZW)).mp hw;exact⟨qB hs h2,h3⟩
 obtain⟨S4,e4,x4⟩:=pX (G:=rl6 k n m T a b N u6 (a_ (.ref r)) u8 u9 (a_ (.ref r2)) u11 u12) (f:=λu => .tup (ax (bk m T (dU u)))) _ (λS' x=>by unfold getL;rw[x.some ZS]) (λu hu S' x=>by
  obtain⟨w,hw,rfl⟩:=aw.mp hu;obtain⟨h1,h2⟩:=XE w hw;obtain⟨S5,e5,x5⟩:=Qj g h1 0#0;refine⟨S5,?_,x.trans x5⟩;rw[yW]
  exact cP (f:=tj) (a:=ae 3) (b:=ae 13) (var_eq rfl) (var_eq rfl) e5) fuel 0 [] S2 (bS _) (by unfold fuel tups;rw[ar];lia) (Ex.refl _)
 rw[rK,eh,show(tups _).map _=tups _ by
  unfold tups;rw[bq,bq];apply aR;intro c _;show U.tup _=_
  rw[yW];rfl]at e4
 have e5:bY (dq (ae 7)) cTT (mFn tj (aa (ae 3) (aa (ae 13) ah))) (rl6 k n m T a b N u6 (a_ (.ref r)) u8 u9 (a_ (.ref r2)) u11 u12) S2=a_ (.ref S4.length,S4++[.lst (tups ((gH m T [a,b]).map (bk m T)))]):=by
  have hg:getL S2 r=a_ (tups (gH m T [a,b])):=by unfold getL;rw[ZS]
  have hi:dq (ae 7) (rl6 k n m T a b N u6 (a_ (.ref r)) u8 u9 (a_ (.ref r2)) u11 u12) S2=a_ (.mut r,S2):=by
   have v7:ae 7 (rl6 k n m T a b N u6 _ u8 u9 (a_ (.ref r2)) u11 u12) S2=a_ (.ref r,S2):=var_eq rfl;simp[dq,v7,aF,hg,dr]
  simp only[bY,hi,aF,Bm,e4];exact if_pos (by unfold tups;rw[ar,ar];unfold big;lia)
 have bp:=F8 g hs ZW (us:= [x,y]) (by rw[<-Xc];exact hul) (by rw[<-Xc];exact hur) (λz hz=>by rw[<-Xc];exact QW z hz) (λz hz=>K5 g hs z (by rw[Xc];exact hz))
 have f6:=RG e5 (b9 _ _) (by rw[ar];lia) (λw hw z=>by
  obtain⟨v,hv,rfl⟩:=aw.mp hw;have:=congrArg eV z;rw[Ck,(XE v hv).2]at this;simp at this
  lia) bp (rD (by simpa using Yr) _ _ _)
 have q6:=((x4.trans (Ex.push _ (Cell.lst (tups ((gH m T [a,b]).map (bk m T)))))).trans (Ex.push _ (Cell.lst (tups (gH m T [x,y]))))).some q2;exact⟨_,Bk f6 0#1 (b9 _ _) q6,(x4.trans (Ex.push _ _)).trans (Ex.push _ _)⟩
theorem CG{k:Int}{N:Nat}{u6 o7 o8 o9 Vi Wp WH:Option U}(h:o5 n S)(g:Grp m T)(h3:3<=m)(hm:m<=16)(ha:a<m)(hb:b<m)(ZU:a<b):
  ∃u7 u8 u9 u10 u11 u12 S',Rv (rl6 k n m T a b N u6 o7 o8 o9 Vi Wp WH) S=a_ (.nx,rl6 k n m T a b N u6 u7 u8 u9 u10 u11 u12,S')/\Stp n S S':=by
 obtain⟨r1,S1,e1,x1,q1⟩:=Jf g hm ha hb ZU;obtain⟨S2,e2,x2⟩:=PK (k:=k) (n:=n) (N:=N) (u6:=u6) (u8:=o8) (u9:=o9) (u10:=Vi) (u11:=Wp) (u12:=WH) g hm ha hb ZU q1;have q2:=x2.some q1;obtain⟨v8,v9,S3,e3,x3⟩:=Lo (k:=k) (n:=n) (N:=N) (u6:=u6) (u8:=o8) (u9:=o9) (u10:=Vi) (u11:=Wp) (u12:=WH) g hm ha hb ZU q2;have q3:=x3.some q2;obtain⟨r4,S4,⟨e4,x4⟩,S5,e5,x5⟩:=OY (k:=k) (n:=n) (N:=N) (u6:=u6) (u8:=v8) (u9:=v9) (u10:=Vi) (u11:=Wp) (u12:=WH) g hm ha hb ZU q3;have q5:=(x4.trans x5).some q3;have Zk:=Stp.ex h ((((x1.trans x2).trans x3).trans x4).trans x5);obtain⟨l,S6,e6,Wt,ol⟩:=BH (m:=m) Zk.st 0#0 0#0;have ZZ:r1≠n:=λz=>by
  obtain⟨s,bb,hq⟩:=Zk.st;rw[z]at q5;rw[q5]at hq;have e:tups (gH m T [a,b])=[.int s,.bl bb]:=by simp_all
  have:=congrArg (λl=>l[1]?) e;unfold tups at this
  simp_all
 have q6:=Wt.some ZZ q5;have hs:Lt m [a,b]:=λs hs=>by
  simp at hs;rcases hs with rfl|rfl<;>assumption
 have ZW: [a,b].Pairwise (· < ·):=by simpa using ZU
 have f6:=cP (G:=rl6 k n m T a b N u6 (a_ (.ref r1)) v8 v9 (a_ (.ref r4)) Wp WH) (a:=ae 2) (b:=mFn _ (aa (ae 3) _)) 0#1 (len_tab 0#1) e6;have f7:=nI (e:=mMT _ (ae 11) (aa (ae 13) _)) (G:=rl6 k n m T a b N u6 (a_ (.ref r1)) v8 v9 (a_ (.ref r4)) _ WH) (S:=S6) (a:=ae 4) (f:=λx=>.int (pF l x)) 0#1 0#4 (λx hx=>kq 0#1 0#1 (ol.mem.mpr (hs x hx)));rw[show([a,b].map _)=ax ([a,b].map (pF l)) by simp[ax]]at f7;have f8:=fh (RO f7 (b9 _ _) 0#4 0#4);have x8:Ex S6 (S6++[Cell.lst (ax ([a,b].map (pF l)))]++[Cell.lst (ax (srt ([a,b].map (pF l))))]):=(Ex.push _ _).trans (Ex.push _ _);generalize S6++[Cell.lst _]++[Cell.lst _]=S8 at f8 x8;have od:=ol.ord;have g':=sh g od;have hnl:=LQ od hs;have hnr:=Dh od hs ZW;have Vo:=Kq g od hs ZW;obtain⟨x,y,Xc,hx,hy,Yr⟩:=Hb (by rw[mG];rfl) hnr hnl;rw[Xc]at f8 Vo;obtain⟨S9,e9,x9⟩:=Pu (by unfold big;lia) g.cl ol;obtain⟨r10,Vp,WE,Vg,q10⟩:=Jf g' hm hx hy Yr;have f10:mFn cp (aa (mFn bT (aa (mFn uH (aa (ae 3) (aa (ae 11) ah))) (aa (ae 12) ah))) ah) (rl6 k n m T a b N u6 (a_ (.ref r1)) v8 v9 (a_ (.ref r4)) (a_ (.tup (ax l))) (a_ (.tup (ax [x,y])))) S8=a_ (.int ((gH m T [a,b]).length),Vp):=by
  refine fI (cP (cP 0#1 0#1 e9) 0#1 WE) ?_;simp only[cp,DU q10,eA,getL,q10,dr];rw[show(tups _).length=(gH m T _).length by rw[<-Vo];simp[tups]]
 have q11:=((x8.trans x9).trans Vg).some q6;have f11:mFn cp (aa (ae 7) ah) (rl6 k n m T a b N u6 (a_ (.ref r1)) v8 v9 (a_ (.ref r4)) (a_ (.tup (ax l))) (a_ (.tup (ax [x,y])))) Vp=a_ (.int ((gH m T [a,b]).length),Vp):=by
  rw[tV 0#1 q11];simp[tups]
 have UE:=of_eq (Fe f10 f11);rw[decide_eq_true rfl]at UE;refine⟨a_ (.ref r1),v8,v9,a_ (.ref r4),a_ (.tup (ax l)),a_ (.tup (ax [x,y])),_,?_,(((Zk.trans Wt).step x8).step x9).step Vg⟩;exact(aL (bh (cP 0#1 0#1 e1))).trans ((aL ((kK e2).trans rfl)).trans ((aL e3).trans ((aL (bh e4)).trans ((aL ((kK (of_eq e5)).trans rfl)).trans ((aL (bh f6)).trans ((aL (bh f8)).trans ((kK UE).trans rfl)))))))
end
end
section
open _L _G
abbrev Rx:MS:=sIf (IE (cOf (mFn fX (aa (ae 3) (aa (ae 4) (aa (mFn bQ (aa (bY (iR1 (aa (ae 5) ah)) cTT (mFn bA (aa (ae 2) (aa 1#7 ah)))) ah)) ah)))))) (cn (mC (.bl d_))) dE
theorem GV(ns:List Int)(hl:ns.length<=63)(S:Sto)(h1:0#7=1)(h2:getL S 0=a_ (ns.map U.int)):∃S',Q2 [.ref 0] S=a_ (.bl c_,S'):=by
 obtain⟨q,hq,eq⟩:=HF (G:= [a_ _,b_,b_,b_,b_,b_,b_,b_,b_,b_,b_,b_,b_]) h2 rfl hl;obtain⟨Y5,S1,e1,_,_⟩:=lO (i:=1)
  (b:=aY (bC 2 (mFn _ (aa 0#3 (aa (ae 1) _)))) (aY _ (aY (bC 5 _) (aY _ (sIf _ _ dE)))))
  eq (by unfold big;lia)
  (λk G S'=>(∃a b c d e f g h i j x y,G=[a_ _,a,b,c,d,e,f,g,h,i,j,x,y])/\Scr ns S') ⟨⟨_,_,_,_,_,_,_,_,_,_,_,_,rfl⟩,h2⟩
  (by
   rintro k G S' hk ⟨⟨u1,u2,u3,u4,u5,u6,u7,u8,u9,u10,u11,u12,rfl⟩,hs⟩;have h0:=hs.lt;obtain⟨S2,f2,x2,Zj⟩:=IB hs;have f3:dN (aa (mC (.int 8)) (aa (mC (.int 12)) (aa (mC (.int 16)) _))) [a_ (.ref 0),a_ (.int k),a_ (.ref S'.length),u3,u4,u5,u6,u7,u8,u9,u10,u11,u12] S2=a_ _:=K6 c_i c_i c_i;have ZC:Stp _ S2 (S2++[Cell.lst (ax [8,12,16])]):=Stp.ex Zj (Ex.push _ _);obtain⟨r,S4,f4,hr,YT⟩:=jN (m:=3) ZC.st 0#2 0#2;have ZN:S2.length≠S'.length:=by have:=Zj.lt;lia
   have g4:=YT.some ZN (b9 _ _);obtain⟨most,W1,hm6,hm16⟩ :∃most:Nat,(ax [8,12,16])[r]?=a_ (.int most)/\6<=most/\most<=16:=by
    rcases r with _|_|_|r
    .exact⟨8,rfl,by decide,by decide⟩
    .exact⟨12,rfl,by decide,by decide⟩
    .exact⟨16,rfl,by decide,by decide⟩
    .lia
   have f5:m2 _ _ (mFn _ (aa (ae 2) (aa (mC (.int 3)) _))) _ S2=a_ _:=Bt f3 (cP 0#1 c_i f4) g4 (kT W1);obtain⟨m,T,x,y,S5,f6,gr,Ur,hm,hx,hy,Yr,Zk⟩:=Lu YT.st hm6 0#0;have a3:I0 (mFn mJ (aa (ae 2) (aa (m2 oIx (dN (aa (mC (.int 8)) (aa (mC (.int 12)) (aa (mC (.int 16)) ah)))) (mFn bA (aa (ae 2) (aa (mC (.int 3)) ah)))) ah))) (gTp 2 (iD (gN 3) (iD (gN 4) tW))) [a_ (.ref 0),a_ (.int k),a_ (.ref S'.length),u3,u4,u5,u6,u7,u8,u9,u10,u11,u12] S2=a_ (.nx,[a_ (.ref 0),a_ (.int k),a_ (.ref S'.length),0#8,a_ (.tup (ax [x,y])),u5,u6,u7,u8,u9,u10,u11,u12],S5):=by
    have:=cP (a:=ae 2) 0#1 f5 f6;simp[I0,this];rfl
   have ht:=gr.cl x _ hx (g9 gr hy);obtain⟨p,p1,p2,p3,p4⟩:=gr.ord ht;obtain⟨r7,S7,f7,x7,_,q7⟩:=qQ gr 0#0 hx hy rfl p1 0#0 p4 p3;have e5:mFn cp (aa (mFn kP (aa (ae 3) 2#3)) ah) [a_ (.ref 0),a_ (.int k),a_ (.ref S'.length),0#8,a_ (.tup (ax [x,y])),u5,u6,u7,u8,u9,u10,u11,u12] S5=a_ (.int ((lOf m T x y p).length),S7):=by
    refine fI (cP 0#1 0#1 f7) ?_;simp only[cp,DU q7,eA,getL,q7,dr];rw[show(qU _).length=(lOf m T x y p).length by simp[tups]]
   have few:=sN gr hx hy 0#0 p1 p3;have st7:=((ZC.trans YT).trans Zk).step x7;obtain⟨Z5,S8,e8,⟨v6,rfl⟩,st8⟩:=lO (i:=6) (a:=mC (.int 3)) (b:=Rx) rfl 0#2
    (λi G S8=>(∃v6,G=rl6 k S'.length m T x y (lOf m T x y p).length v6 u7 u8 u9 u10 u11 u12)/\Stp _ S2 S8) ⟨⟨_,rfl⟩,st7⟩ (by
     rintro i G S8 hi ⟨⟨v6,rfl⟩,st8⟩;obtain⟨w,S9,e9,st9,hw,WG⟩:=Iz (m:=2) (sv:=ae 2) (G:=rl6 k _ m T x y (lOf m T x y p).length _ u7 u8 u9 _ _ _) (a:=ae 5) 0#1 0#0 st8.st 0#2 0#2 (λz S=>var_eq rfl) (λz S=>c_i);have tw:Two m T x y p w:=⟨gr,by lia,hx,hy,p1,by lia,p4,p3,WG,hw⟩;obtain⟨Vp,WE,Vg⟩:=KJ tw 0#0 0#0;have SJ:=not_eq (of_eq (kj (a:=ae 3) (b:=ae 4) 0#1 0#1 (fh e9) WE))
     exact⟨_,_,(kK SJ).trans rfl,⟨_,rfl⟩,((st8.trans st9).step (Ex.push _ _)).step Vg⟩)
   have c9:=of_eq (Kr (G:=rl6 k S'.length m T x y (lOf m T x y p).length v6 u7 u8 u9 u10 u11 u12) (S:=S8) (a:=ae 5) (y:=9) 0#1 c_i);rw[decide_eq_true 0#0]at c9;obtain⟨w7,w8,w9,w10,w11,w12,S11,e11,V2⟩:=CG st8.st gr Ur 0#0 hx hy Yr;refine⟨_,_,(aL (bh (cP 0#1 0#1 f2))).trans ((aL a3).trans ((aL (bh e5)).trans ((aL e8).trans ((sQ c9).trans e11)))),⟨_,_,_,_,_,_,_,_,_,_,_,_,rfl⟩,?_⟩
   exact(hs.ex λc h=>x2.some h).ex λc h=>(st8.trans V2).some (by lia) h)
 exact⟨S1,cK rfl ((aL e1).trans (cz rfl))⟩
end
def top(i:Nat):Stmt:=PySem.Challenge.pw_groupwalks_k56_whole_two_steps.main.body.getD i (.Pass ⟨0,0,0,0⟩)
abbrev k7:Stmt:=top 36
abbrev og:Stmt:=top 37
abbrev qb:Stmt:=top 38
abbrev nz:Stmt:=top 39
abbrev nj:Stmt:=top 40
abbrev lh:Stmt:=top 42
abbrev qh:Stmt:=top 41
abbrev nQ:Stmt:=top 44
abbrev nN:Stmt:=top 43
abbrev nR:Stmt:=top 45
abbrev qf:Stmt:=top 47
abbrev qN:Stmt:=top 14
abbrev l8:Stmt:=top 6
abbrev j5:Stmt:=top 15
abbrev zk:Stmt:=top 12
abbrev Ct:Stmt:=top 13
abbrev vU:Stmt:=top 7
abbrev rX:Stmt:=top 27
abbrev yP:Stmt:=top 28
abbrev kh:Stmt:=top 29
abbrev oa:Stmt:=top 30
abbrev sy:Stmt:=top 32
abbrev nE:Stmt:=top 22
abbrev hZ:Stmt:=top 33
abbrev uA:Stmt:=top 31
abbrev pT:Stmt:=top 8
abbrev nY:Stmt:=top 34
abbrev iV:Stmt:=top 4
abbrev h8:Stmt:=top 5
abbrev mK:Stmt:=top 20
abbrev wm:Stmt:=top 17
abbrev jq:Stmt:=top 18
abbrev k6:Stmt:=top 19
abbrev p5:Stmt:=top 21
abbrev iF:Stmt:=top 48
abbrev kD:Stmt:=top 49
abbrev ku:Stmt:=top 24
abbrev CY:Stmt:=top 23
abbrev mj:Stmt:=top 9
abbrev uz:Stmt:=top 10
abbrev LI:Stmt:=top 50
abbrev N0:List Str := ["script","k"]
abbrev N1:List Str := ["script","k","cell"]
abbrev N2:List Str := ["state","many","found","mixed"]
abbrev N3:List Str := ["n"]
abbrev N4:List Str := ["n","found","i","row","j","turn"]
abbrev N5:List Str := ["signs","kinds","found","one","row","other","sign"]
abbrev N6:List Str := ["one","other","size","found","i","row","j","ahead"]
abbrev N7:List Str := ["group","order"]
abbrev N8:List Str := ["state","many","left"]
abbrev N9:List Str := ["state","most","way","found","first","one"]
abbrev N10:List Str := ["state","most","group","left","one","other"]
abbrev N11:List Str := ["rising","piece_at","found","met","least","piece","one"]
abbrev N12:List Str := ["group"]
abbrev N13:List Str := ["group","part"]
abbrev N14:List Str := ["group","things","found","waiting","place","thing","onward"]
abbrev N15:List Str := ["group","things"]
abbrev N16:List Str := ["group","thing"]
abbrev N17:List Str := ["group","steps"]
abbrev N18:List Str := ["group","steps"]
abbrev N19:List Str := ["group","steps","choice","chosen","side","which","thing"]
abbrev N20:List Str := ["group","chosen","first","ring","onward"]
abbrev N21:List Str := ["group","steps","choice","chosen","ring"]
abbrev N22:List Str := ["steps","many","found","longer","walk"]
abbrev N23:List Str := ["group","steps","many","walks"]
abbrev N24:List Str := ["group","steps","choice","chosen"]
abbrev N25:List Str := ["group","thing","product","taken"]
abbrev N26:List Str := ["group","steps"]
abbrev N27:List Str := ["value","many"]
abbrev N28:List Str := ["value","many"]
abbrev N29:List Str := ["group","steps","thing"]
abbrev N30:List Str := ["group","walk","come_to","thing"]
abbrev N31:List Str := ["group","come_to"]
abbrev N32:List Str := ["group","walk","come_to"]
abbrev N33:List Str := ["group","steps","thing"]
abbrev N34:List Str := ["group","steps","choice","some","there","ring","walk","turn","plain"]
abbrev N35:List Str := ["group","steps","walk","there","found","side","some"]
abbrev N36:List Str := ["group","steps"]
abbrev N37:List Str := ["group","walk"]
abbrev N38:List Str := ["many","times","rows","i"]
abbrev N39:List Str := ["group","order"]
abbrev N40:List Str := ["script","k","state","group","steps","many","turn","some","walk","choice","about","order","numbers"]
def T0:Tb:=⟨[],[("MOST_SIDES",.int 10)],[],[],d_,z0⟩
def T1:Tb:=T0.dd "_law_cell_at" lr
def T2:Tb:=T1.dd "_law_state" nC
def T3:Tb:=T2.dd "_law_take" bA
def T4:Tb:=T3.dd "_law_clock" dM
def T5:Tb:=T4.dd "_law_flips" gL
def T6:Tb:=T5.dd "_law_quarter" jC
def T7:Tb:=T6.dd "_law_both" mw
def T8:Tb:=T7.dd "_law_named" kS
def T9:Tb:=T8.dd "_law_order" iH
def T10:Tb:=T9.dd "_law_group" nU
def T11:Tb:=T10.dd "_law_pair" mJ
def T12:Tb:=T11.hh "pieces" vO
def T13:Tb:=T12.dd "all_things" j8
def T14:Tb:=T13.dd "left_sides" l7
def T15:Tb:=T14.dd "roads" Ee
def T16:Tb:=T15.dd "span" Dn
def T17:Tb:=T16.dd "undone" kC
def T18:Tb:=T17.dd "turn_of" oP
def T19:Tb:=T18.dd "sides" kP
def T20:Tb:=T19.dd "chosen_steps" iX
def T21:Tb:=T20.dd "ring_from" kR
def T22:Tb:=T21.dd "walk_of" iI
def T23:Tb:=T22.dd "all_walks" jH
def T24:Tb:=T23.dd "all_rounds_of_two" bT
def T25:Tb:=T24.dd "rings" oJ
def T26:Tb:=T25.dd "order_of" fE
def T27:Tb:=T26.dd "is_barred" fV
def T28:Tb:=T27.dd "is_number_below" kM
def T29:Tb:=T28.dd "are_numbers_below" jX
def T30:Tb:=T29.dd "is_walk_by" rj
def T31:Tb:=T30.dd "places" vP
def T32:Tb:=T31.dd "are_all_things" lA
def T33:Tb:=T32.dd "comes_round" pI
def T34:Tb:=T33.dd "is_round" pS
def T35:Tb:=T34.dd "_law_choice_right" fX
def T36:Tb:=T35.dd "_law_by_sides" gM
def T37:Tb:=T36.dd "undone_steps" iZ
def T38:Tb:=T37.dd "back" tj
def T39:Tb:=T38.hh "table_of" wJ
def T40:Tb:=T39.dd "named" uH
theorem xh:cD T0 N0 k7=a_ jz:=by kernel_rfl
theorem vK:bo N0 (N0.take 2) (aH k7):=d7 0#9
theorem AL:cD T1 N1 og=a_ tR:=by kernel_rfl
theorem zP:bo N1 (N1.take 2) (aH og):=d7 0#9
theorem Dq:cD T2 N2 qb=a_ mz:=by kernel_rfl
theorem BD:bo N2 (N2.take 2) (aH qb):=d7 0#9
theorem Az:cD T3 N3 nz=a_ ni:=by kernel_rfl
theorem zg:bo N3 (N3.take 1) (aH nz):=d7 0#9
theorem AM:cD T4 N4 nj=a_ tS:=by kernel_rfl
theorem zT:bo N4 (N4.take 1) (aH nj):=d7 0#9
theorem xt:cD T5 N5 lh=a_ pD:=by kernel_rfl
theorem vm:bo N5 (N5.take 0) (aH lh):=d7 0#9
theorem Co:cD T6 N6 qh=a_ uX:=by kernel_rfl
theorem Bw:bo N6 (N6.take 2) (aH qh):=d7 0#9
theorem AB:cD T7 N7 nQ=a_ tF:=by kernel_rfl
theorem zl:bo N7 (N7.take 2) (aH nQ):=d7 0#9
theorem BF:cD T8 N8 nN=a_ tz:=by kernel_rfl
theorem zA:bo N8 (N8.take 2) (aH nN):=d7 0#9
theorem Bx:cD T9 N9 nR=a_ nJ:=by kernel_rfl
theorem zL:bo N9 (N9.take 2) (aH nR):=d7 0#9
theorem CK:cD T10 N10 qf=a_ wI:=by kernel_rfl
theorem AO:bo N10 (N10.take 2) (aH qf):=d7 0#9
theorem Hu :∀ g φ,cB ⟨T11.D,T11.C,[("piece_at",g,φ)],T11.H,T11.mkr,T11.Z⟩ 80 (["rising","piece_at","found","met","least","piece","one"]:List Str) (aH qN).names (dJ qN)=a_ (BI g φ):=by intro g φ;kernel_rfl
theorem FG:bo N11 (N11.take 2) (aH qN):=d7 0#9
theorem y4:cD T12 N12 l8=a_ qX:=by kernel_rfl
theorem xp:bo N12 (N12.take 1) (aH l8):=d7 0#9
theorem yS:cD ⟨T13.D,T13.C,T13.L,T13.H,c_,T13.Z.to "<lambda>"⟩ N13 j5=a_ qM:=by kernel_rfl
theorem xy:bo N13 (N13.take 2) (aH j5):=d7 0#9
theorem Lm:cD T14 N14 zk=a_ Et:=by kernel_rfl
theorem Hw:bo N14 (N14.take 2) (aH zk):=d7 0#9
theorem Nr:cD T15 N15 Ct=a_ Jp:=by kernel_rfl
theorem Lz:bo N15 (N15.take 2) (aH Ct):=d7 0#9
theorem Js:cD T16 N16 vU=a_ AQ:=by kernel_rfl
theorem Gu:bo N16 (N16.take 2) (aH vU):=d7 0#9
theorem Gg:cD T17 N17 rX=a_ yd:=by kernel_rfl
theorem Dc:bo N17 (N17.take 2) (aH rX):=d7 0#9
theorem KA:cD T18 N18 yP=a_ DT:=by kernel_rfl
theorem GJ:bo N18 (N18.take 2) (aH yP):=d7 0#9
theorem wb:cD T19 N19 kh=a_ nZ:=by kernel_rfl
theorem ue:bo N19 (N19.take 3) (aH kh):=d7 0#9
theorem Bq:cD T20 N20 oa=a_ tU:=by kernel_rfl
theorem yX:bo N20 (N20.take 3) (aH oa):=d7 0#9
theorem FH:cD T21 N21 sy=a_ xI:=by kernel_rfl
theorem CP:bo N21 (N21.take 3) (aH sy):=d7 0#9
theorem Am:cD T22 N22 nE=a_ tP:=by kernel_rfl
theorem y7:bo N22 (N22.take 2) (aH nE):=d7 0#9
theorem oZ:cD ⟨T23.D,T23.C,[],T23.H,d_,T23.Z.to "sorted"⟩ N23 hZ=a_ jY:=by kernel_rfl
theorem nK:bo N23 (N23.take 2) (aH hZ):=d7 0#9
theorem Le:cD ⟨T24.D,T24.C,T24.L,T24.H,c_,T24.Z.to "<lambda>"⟩ N24 uA=a_ EK:=by kernel_rfl
theorem Hk:bo N24 (N24.take 3) (aH uA):=d7 0#9
theorem Dl:cD T25 N25 pT=a_ vc:=by kernel_rfl
theorem BV:bo N25 (N25.take 2) (aH pT):=d7 0#9
theorem AJ:cD T26 N26 nY=a_ tH:=by kernel_rfl
theorem yZ:bo N26 (N26.take 2) (aH nY):=d7 0#9
theorem rC:cD T27 N27 iV=a_ kN:=by kernel_rfl
theorem pQ:bo N27 (N27.take 2) (aH iV):=d7 0#9
theorem pb:cD T28 N28 h8=a_ jU:=by kernel_rfl
theorem n8:bo N28 (N28.take 2) (aH h8):=d7 0#9
theorem zQ:cD T29 N29 mK=a_ qA:=by kernel_rfl
theorem xq:bo N29 (N29.take 3) (aH mK):=d7 0#9
theorem Hy:cD T30 N30 wm=a_ BM:=by kernel_rfl
theorem Fg:bo N30 (N30.take 2) (aH wm):=d7 0#9
theorem rS:cD T31 N31 jq=a_ lF:=by kernel_rfl
theorem rA:bo N31 (N31.take 2) (aH jq):=d7 0#9
theorem xr:cD T32 N32 k6=a_ pE:=by kernel_rfl
theorem vI:bo N32 (N32.take 2) (aH k6):=d7 0#9
theorem Dr:cD T33 N33 p5=a_ wH:=by kernel_rfl
theorem A3:bo N33 (N33.take 3) (aH p5):=d7 0#9
theorem pU:cD T34 N34 iF=a_ km:=by kernel_rfl
theorem o3:bo N34 (N34.take 3) (aH iF):=d7 0#9
theorem uU:cD T35 N35 kD=a_ nB:=by kernel_rfl
theorem uh:bo N35 (N35.take 3) (aH kD):=d7 0#9
theorem wo:cD T36 N36 ku=a_ n9:=by kernel_rfl
theorem ud:bo N36 (N36.take 2) (aH ku):=d7 0#9
theorem NP:cD T37 N37 CY=a_ HS:=by kernel_rfl
theorem Lk:bo N37 (N37.take 2) (aH CY):=d7 0#9
theorem CC :∀ g φ,cB ⟨T38.D,T38.C,[("times",g,φ)],T38.H,T38.mkr,T38.Z⟩ 80 (["many","times","rows","i"]:List Str) (aH mj).names (dJ mj)=a_ (vW g φ):=by intro g φ;kernel_rfl
theorem BU:bo N38 (N38.take 2) (aH mj):=d7 0#9
theorem KG:cD ⟨T39.D,T39.C,T39.L,T39.H,c_,T39.Z.to "<lambda>"⟩ N39 uz=a_ DQ:=by kernel_rfl
theorem JG:bo N39 (N39.take 2) (aH uz):=d7 0#9
theorem PM:cD ⟨T40.D,T40.C,[],T40.H,d_,T40.Z.to "sorted"⟩ N40 LI=a_ Ms:=by kernel_rfl
abbrev dL:List (Str×Stmt):=("_law_cell_at",k7)::("_law_state",og)::("_law_take",qb)::("_law_clock",nz)::("_law_flips",nj)::("_law_quarter",lh)::("_law_both",qh)::("_law_named",nQ)::("_law_order",nN)::("_law_group",nR)::("_law_pair",qf)::("pieces",qN)::("all_things",l8)::("roads",zk)::("span",Ct)::("undone",vU)::("turn_of",rX)::("sides",yP)::("chosen_steps",kh)::("ring_from",oa)::("walk_of",sy)::("all_walks",nE)::("all_rounds_of_two",hZ)::("order_of",pT)::("is_barred",nY)::("is_number_below",iV)::("are_numbers_below",h8)::("is_walk_by",mK)::("places",wm)::("are_all_things",jq)::("comes_round",k6)::("is_round",p5)::("_law_choice_right",iF)::("_law_by_sides",kD)::("undone_steps",ku)::("back",CY)::("table_of",mj)::("law",LI) :: []
variable{w:World}{h:Heap}{mg:Str->Option f_}
theorem chain{P:Program}{K:aq}{Wj XJ:e_}{VY XO:e_}{VN XA:e_}(X:K.In h)(Gn:h.Ns mainGlobals mg)(B :∀ x∈ly,fL K mainGlobals x=a_ b_)(kc0 :∃ t,fL K mainGlobals "MOST_SIDES"=a_ (a_ (.int 10 t)))(Wf:mainGlobals≠XJ)(VI:mainGlobals≠XO)(VA:mainGlobals≠XA)(nd:([XJ,XO,XA]:List e_).Nodup)
  (DA:OB K dL) (Vh:o6 K "left_sides" j5 Wj XJ) (Vc:o6 K "rings" uA VY XO) (V9:o6 K "named" uz VN XA) :∀ (caps:List U) (capv:List V) (cds:List (e_×Obj)) (base:Heap),iW mg base->TOk ⟨P,w,⟨K,caps,capv,cds,3#6⟩,mg,base,b_⟩ ⟨T40.D,T40.C,[],T40.H,d_,T40.Z.to "sorted"⟩ 50:=by
 obtain⟨D0,D1,D2,D3,D4,D5,D6,D7,D8,D9,TJ,D11,P',D14,Sz,SR,D17,TM,U0,D20,Tj,D22,SE,SN,SU,D27,U1,D29,TH,Tr,D32,TX,Tn,Ti,D36,Tv,D38,Th,_⟩:=DA;have C0:Ch P w K mg 3#6 T0 0:=⟨fun _ _ _ _ _=>TOk.con (TOk.nil X Gn B) X Gn kc0,(fun _ _ _ _ _ _ _ z=>by cases z),(fun _ _ _ _ _ _ _ z=>by cases z)⟩;have nd:((3#6:List (e_×Str)).map (·.1)).Nodup:=by simpa using nd
 have C1:Ch P w K mg _ T1 1:=C0.dfn C0.o rfl X Gn D0 vK 2#7 xh;have C2:Ch P w K mg _ T2 2:=C1.dfn C1.o rfl X Gn D1 zP 2#7 AL;have C3:Ch P w K mg _ T3 3:=C2.dfn C2.o rfl X Gn D2 BD 2#7 Dq;have C4:Ch P w K mg _ T4 4:=C3.dfn C3.o rfl X Gn D3 zg (λ_ _ _ _ _ _=>us1 λ_=>rfl) Az;have C5:Ch P w K mg _ T5 5:=C4.dfn C4.o rfl X Gn D4 zT (λ_ _ _ _ _ _=>us1 λ_=>rfl) AM;have C6:Ch P w K mg _ T6 6:=C5.dfn C5.o rfl X Gn D5 vm (λ_ _ _ _ _ _=>us0 rfl) xt;have C7:Ch P w K mg _ T7 7:=C6.dfn C6.o rfl X Gn D6 Bw 2#7 Co;have C8:Ch P w K mg _ T8 8:=C7.dfn C7.o rfl X Gn D7 zl 2#7 AB;have C9:Ch P w K mg _ T9 9:=C8.dfn C8.o rfl X Gn D8 zA 2#7 BF;have Ta:Ch P w K mg _ T10 10:=C9.dfn C9.o rfl X Gn D9 zL 2#7 Bx;have C11:Ch P w K mg _ T11 11:=Ta.dfn Ta.o rfl X Gn TJ AO 2#7 CK;have C12:Ch P w K mg _ T12 11:=C11.cls rfl rfl X Gn D11 FG 2#7 Hu;have C13:Ch P w K mg _ T13 12:=C12.dfn C12.o rfl X Gn P' xp (λ_ _ _ _ _ _=>us1 λ_=>rfl) y4;have SQ:Ch P w K mg _ T14 17:=C13.lam_ rfl rfl 0#4 nd Wf X Gn Vh xy 2#7 yS;have C15:Ch P w K mg _ T15 18:=SQ.dfn SQ.o rfl X Gn D14 Hw 2#7 Lm;have SF:Ch P w K mg _ T16 19:=C15.dfn C15.o rfl X Gn Sz Lz 2#7 Nr;have SA:Ch P w K mg _ T17 20:=SF.dfn SF.o rfl X Gn SR Gu 2#7 Js;have C18:Ch P w K mg _ T18 21:=SA.dfn SA.o rfl X Gn D17 Dc 2#7 Gg;have SW:Ch P w K mg _ T19 22:=C18.dfn C18.o rfl X Gn TM GJ 2#7 KA;have TB:Ch P w K mg _ T20 23:=SW.dfn SW.o rfl X Gn U0 ue (λ_ _ _ _ _ _=>us3 λ_ _ _=>rfl) wb;have Tp:Ch P w K mg _ T21 24:=TB.dfn TB.o rfl X Gn D20 yX (λ_ _ _ _ _ _=>us3 λ_ _ _=>rfl) Bq;have C22:Ch P w K mg _ T22 25:=Tp.dfn Tp.o rfl X Gn Tj CP (λ_ _ _ _ _ _=>us3 λ_ _ _=>rfl) FH;have TK:Ch P w K mg _ T23 26:=C22.dfn C22.o rfl X Gn D22 y7 2#7 Am;have C24:Ch P w K mg _ T24 27:=TK.dfn (T':=⟨T23.D,T23.C,[],T23.H,d_,T23.Z.to "sorted"⟩) (fun caps capv cds base Yv=>((TK.o caps capv cds base Yv).nm "sorted")) rfl X Gn SE nK (fun _ _ _ _ _ _=>us2 fun _ _=>rfl) oZ;have Ts:Ch P w K mg _ T25 32:=C24.lam_ rfl rfl 0#4 nd VI X Gn Vc Hk (λ_ _ _ _ _ _=>us3 λ_ _ _=>rfl) Le;have C26:Ch P w K mg _ T26 33:=Ts.dfn Ts.o rfl X Gn SN BV 2#7 Dl;have Tw:Ch P w K mg _ T27 34:=C26.dfn C26.o rfl X Gn SU yZ 2#7 AJ;have C28:Ch P w K mg _ T28 35:=Tw.dfn Tw.o rfl X Gn D27 pQ 2#7 rC;have C29:Ch P w K mg _ T29 36:=C28.dfn C28.o rfl X Gn U1 n8 2#7 pb;have C30:Ch P w K mg _ T30 37:=C29.dfn C29.o rfl X Gn D29 xq (λ_ _ _ _ _ _=>us3 λ_ _ _=>rfl) zQ;have C31:Ch P w K mg _ T31 38:=C30.dfn C30.o rfl X Gn TH Fg 2#7 Hy;have Tx:Ch P w K mg _ T32 39:=C31.dfn C31.o rfl X Gn Tr rA 2#7 rS;have TZ:Ch P w K mg _ T33 40:=Tx.dfn Tx.o rfl X Gn D32 vI 2#7 xr;have C34:Ch P w K mg _ T34 41:=TZ.dfn TZ.o rfl X Gn TX A3 (λ_ _ _ _ _ _=>us3 λ_ _ _=>rfl) Dr;have TL:Ch P w K mg _ T35 42:=C34.dfn C34.o rfl X Gn Tn o3 (λ_ _ _ _ _ _=>us3 λ_ _ _=>rfl) pU;have C36:Ch P w K mg _ T36 43:=TL.dfn TL.o rfl X Gn Ti uh (λ_ _ _ _ _ _=>us3 λ_ _ _=>rfl) uU;have C37:Ch P w K mg _ T37 44:=C36.dfn C36.o rfl X Gn D36 ud 2#7 wo;have C38:Ch P w K mg _ T38 45:=C37.dfn C37.o rfl X Gn Tv Lk 2#7 NP;have C39:Ch P w K mg _ T39 45:=C38.cls rfl rfl X Gn D38 BU 2#7 CC;have C40:Ch P w K mg _ T40 50:=C39.lam_ rfl rfl 0#4 nd VA X Gn V9 JG 2#7 KG;exact fun caps capv cds base Yv=>((C40.o caps capv cds base Yv).nm "sorted")
variable{q:Program}
theorem all_mk{l:oW}{K:aq}{fa:e_}{Wj XJ:e_}{VY XO:e_}{VN XA:e_}(X:K.In h)(Gn:h.Ns mainGlobals mg)(VP:mg "law"=a_ (.ref fa))(B :∀ x∈ly,fL K mainGlobals x=a_ b_)(kc0 :∃ t,fL K mainGlobals "MOST_SIDES"=a_ (a_ (.int 10 t)))(Wf:mainGlobals≠XJ)(VI:mainGlobals≠XO)(VA:mainGlobals≠XA)(nd:([XJ,XO,XA]:List e_).Nodup)
  (DA:OB K dL) (Vh:o6 K "left_sides" j5 Wj XJ) (Vc:o6 K "rings" uA VY XO) (V9:o6 K "named" uz VN XA) {d13:DefRec} (UL:K.lookup XJ=b_) (UG:(hU q).find? (fun e=>e.name==("left_sides":Str))=a_ d13) {d24:DefRec} (UX:K.lookup XO=b_) (UJ:(hU q).find? (fun e=>e.name==("rings":Str))=a_ d24) {d39:DefRec} (Ux:K.lookup XA=b_) (U':(hU q).find? (fun e=>e.name==("named":Str))=a_ d39) :
  ∃ (tabs:List (e_×Str)) (fd:FuncData) (sp:Sp),(∀ r∈tabs,K.lookup r.1=b_ /\ ∃ x d c,(hU q).find? (fun e=>e.name==x)=a_ d/\PySem.W.tabIn K x=a_ (c,r.1))/\(∀ (s:g_) (v:f_),BindsTo s fd ⟨[v],[]⟩ [("script",v)]) /\
   (∀ base:Heap,K.In base->base.Ns mainGlobals mg->iW mg base->lJ l.prog w K mg base CX0 51 fa fd ["script"] sp) /\ ∀ (H:Hp) (a:e_) (ns:List Int),ns.length<=63->(∀ r∈tabs,CN H r.1 r.2)->SqL K H a (ns.map V.int)->sp [.ref a] H (fun v _=>v=.bl c_) fun _ _ _=>False:=by
 have DB:=DA;obtain⟨D0,D1,D2,D3,D4,D5,D6,D7,D8,D9,TJ,D11,P',D14,Sz,SR,D17,TM,U0,D20,Tj,D22,SE,SN,SU,D27,U1,D29,TH,Tr,D32,TX,Tn,Ti,D36,Tv,D38,Th,_⟩:=DA;have DA:=DB;obtain⟨fd,h1,h2⟩:=M7 (l:=l) (w:=w) (tabs := 3#6) X Gn VP Th (d7 0#9) (fun _ _ _ _ _ _=>us1 fun _=>rfl) rfl (fun base Yv=>chain X Gn B  kc0 Wf VI VA nd DA Vh Vc V9 [] [] [] base Yv) PM;refine⟨3#6,fd,_,?_,h1,h2,fun H a ns hl hT hS=>Qs hT hS fun S h1 h2=>GV ns hl S h1 h2⟩;intro r hr;simp only[aG,iK,_root_.or_false]at hr;rcases hr with rfl |rfl |rfl
 .exact⟨UL,_,_,_,UG,Vh.tab⟩
 .exact⟨UX,_,_,_,UJ,Vc.tab⟩
 .exact⟨Ux,_,_,_,U',V9.tab⟩
theorem walk{l:oW}{loose:List Str}{XP:(Str->Option f_)->Heap->Prop}{YP:World->Heap->Prop}{d:DefRec}{K:Params->aq}(hn:l.most=a_ 63)(Wn:d.params.defaults=[])
  (hY:∀(w:World) (h:Heap),YP w h->(K w.params).In h)
  (F: ∀(w:World) (mg:Str->Option f_) (fa:e_) (h:Heap),(K w.params).In h->h.Ns mainGlobals mg->mg d.name=a_ (.ref fa) -> ∃(tabs:List (e_×Str)) (fd:FuncData) (sp:Sp),
   (∀ r∈tabs,(K w.params).lookup r.1=b_ /\ ∃ x d c,(hU q).find? (fun e=>e.name==x)=a_ d/\PySem.W.tabIn (K w.params) x=a_ (c,r.1))/\(∀ (s:g_) (v:f_),BindsTo s fd ⟨[v],[]⟩ [("script",v)]) /\
   (∀ base:Heap,(K w.params).In base->base.Ns mainGlobals mg->iW mg base->lJ l.prog w (K w.params) mg base CX0 51 fa fd ["script"] sp) /\ ∀ (H:Hp) (a:e_) (ns:List Int),ns.length<=63->(∀ r∈tabs,CN H r.1 r.2)->SqL (K w.params) H a (ns.map V.int)->sp [.ref a] H (fun v _=>v = .bl c_) fun _ _ _=>False) :
  PySem.W.WalkO q loose XP YP l.row.toRowW d [] (λf vs=>PySem.call f vs):=
 Ji (n:=63) (k:=51) (x:="script") hn 0#2 Wn ⟨rfl,by decide,by decide,rfl⟩ hY F
end _W
open PySem PySem.W PyProof.Rows
namespace PySem.W.Fast
theorem tw6110860727536204834:True:=trivial
theorem tw12916939977142062976:True:=trivial
theorem tw16571285322043215365:True:=trivial
theorem tw17376029992090380650:True:=trivial
theorem tw6501398593201168625:True:=trivial
theorem tw3730156591222362295:True:=trivial
theorem tw10848904892862381707:True:=trivial
theorem tw3581972388695925328:True:=trivial
theorem tw13973013311092965623:True:=trivial
theorem tw7457126741564615022:True:=trivial
theorem tw8442118702511107526:True:=trivial
theorem tw9658226237779432100:True:=trivial
theorem tw5187961908973021365:True:=trivial
theorem tw13339064041319818744:True:=trivial
theorem tw12458589830721797424:True:=trivial
theorem tw7386642635505942167:True:=trivial
theorem tw5956554069851759866:True:=trivial
theorem tw1340135073283976037:True:=trivial
theorem tw8753456279768023892:True:=trivial
theorem tw9302752571059397996:True:=trivial
theorem tw12171655788360644102:True:=trivial
theorem tw10378116898036670249:True:=trivial
theorem tw18148887224207472508:True:=trivial
theorem tw14789111953962860457:True:=trivial
theorem tw10864108861747605525:True:=trivial
theorem tw3262179476173006556:True:=trivial
theorem tw17887912770533436468:True:=trivial
theorem tw12508909074999623597:True:=trivial
theorem tw640324882102044674:True:=trivial
theorem tw8429914116935067652:True:=trivial
theorem tw1482011576556788166:True:=trivial
theorem tw16235587171533530303:True:=trivial
theorem tw10828994801686701360:True:=trivial
theorem tw59200127333128551:True:=trivial
theorem tw11580907337169756693:True:=trivial
theorem tw12314366109530782574:True:=trivial
theorem tw4844694045872608720:True:=trivial
theorem tw4882093347305409516:True:=trivial
theorem tw940650596413613548:True:=trivial
theorem tw10513455873061840190:True:=trivial
theorem tw16771717663921748436:True:=trivial
theorem tw15701142136512000151:True:=trivial
theorem tw9145805049399386493:True:=trivial
theorem tw1255007564713042549:True:=trivial
theorem tw10593506600722033059:True:=trivial
theorem tw18329697189629191859:True:=trivial
theorem tw16122359810745096132:True:=trivial
theorem tw997313625539488261:True:=trivial
theorem tw6392074396977111797:True:=trivial
theorem tw14035525955011052852:True:=trivial
theorem tw5220874194286312085:True:=trivial
theorem tw3934056378510788873:True:=trivial
theorem tw1574220689189448392:True:=trivial
theorem tw10211623318542636540:True:=trivial
theorem tw7101719868872700131:True:=trivial
theorem tw16588968831163586507:True:=trivial
theorem tw14191537495384992734:True:=trivial
theorem tw16587929586973601735:True:=trivial
theorem tw13275926959500927728:True:=trivial
theorem tw14004105538654201885:True:=trivial
theorem tw9525773901981661950:True:=trivial
theorem tw11624045011188917077:True:=trivial
theorem tw3043041376692373656:True:=trivial
theorem tw2306839163781450775:True:=trivial
theorem tw10451646773141994271:True:=trivial
theorem tw10805166743860894515:True:=trivial
theorem tw14261790499751285328:True:=trivial
theorem tw18020776936366117904:True:=trivial
theorem tw12396041503342130613:True:=trivial
theorem tw18243367086314195050:True:=trivial
theorem tw15412606526475897715:True:=trivial
theorem tw490334597406342944:True:=trivial
theorem tw11514807456147729911:True:=trivial
theorem tw7105527011620571917:True:=trivial
theorem tw376359715582440008:True:=trivial
theorem tw12924711228530831806:True:=trivial
theorem tw8378357537287382863:True:=trivial
theorem tw13636676746235977401:True:=trivial
theorem tw10211149999085908900:True:=trivial
theorem tw3350986103870543593:True:=trivial
theorem tw16350884091554652556:True:=trivial
theorem tw4497967848841833678:True:=trivial
theorem tw10574849175282278715:True:=trivial
theorem tw14178153814980563742:True:=trivial
theorem tw4790590216125528443:True:=trivial
theorem tw17691586945030883122:True:=trivial
theorem tw4628924968012324006:True:=trivial
theorem tw13066649048083149998:True:=trivial
theorem tw13646051112450407202:True:=trivial
theorem tw11765335251786672663:True:=trivial
theorem tw13776600868671375318:True:=trivial
theorem tw3071867452851813175:True:=trivial
theorem tw18051300871428179098:True:=trivial
theorem tw15599757460271398477:True:=trivial
theorem tw9489618207267862941:True:=trivial
theorem tw17450944053278669374:True:=trivial
theorem tw8150473742183687935:True:=trivial
theorem tw4355054914183455810:True:=trivial
theorem tw17357968168885304291:True:=trivial
theorem tw11299711753429403:True:=trivial
theorem tw16469635854266918974:True:=trivial
theorem tw8816815693330133440:True:=trivial
theorem tw8273273100400464253:True:=trivial
theorem tw15459952896883723348:True:=trivial
theorem tw10855390730825163574:True:=trivial
theorem tw7644959411697347228:True:=trivial
theorem tw6013707689644017788:True:=trivial
theorem tw3394203898801546802:True:=trivial
theorem tw2424111103736160291:True:=trivial
theorem tw13594894345619714344:True:=trivial
theorem tw17091644880565933687:True:=trivial
theorem tw1431091773918103642:True:=trivial
theorem tw12524275413965013605:True:=trivial
theorem tw13570573462355046841:True:=trivial
theorem tw7858289633387315411:True:=trivial
theorem tw14066327956319587171:True:=trivial
theorem tw8467161302552501673:True:=trivial
theorem tw1778968712782834240:True:=trivial
theorem tw2141204822614003687:True:=trivial
theorem tw14590742291647202921:True:=trivial
theorem tw15079902942542843215:True:=trivial
theorem tw13104781323664189928:True:=trivial
theorem tw16468322019322836844:True:=trivial
theorem tw9951326436498626501:True:=trivial
theorem tw4084921074759239011:True:=trivial
theorem tw1130747414091214338:True:=trivial
theorem tw14808587398028694667:True:=trivial
theorem tw8440201562714228936:True:=trivial
theorem tw10815982548032424442:True:=trivial
theorem tw11887141259777636876:True:=trivial
theorem tw301749834328844020:True:=trivial
theorem tw17008300173157072273:True:=trivial
theorem tw13459266775406451117:True:=trivial
theorem tw10164973308832839992:True:=trivial
theorem tw9229136753997106091:True:=trivial
theorem tw7775507711683830953:True:=trivial
theorem tw9748402841154239177:True:=trivial
theorem tw9845412307644139744:True:=trivial
theorem tw6107401451841330042:True:=trivial
theorem tw937245401845885237:True:=trivial
theorem tw15224409741555222768:True:=trivial
theorem tw8401960998257598116:True:=trivial
theorem tw16704877815201302940:True:=trivial
theorem tw5054517130959388780:True:=trivial
theorem tw14380059146904107005:True:=trivial
theorem tw8022012956570390628:True:=trivial
theorem tw7351698350026186220:True:=trivial
theorem tw13424513288109120766:True:=trivial
theorem tw1834630347354368066:True:=trivial
theorem tw16587338440110424075:True:=trivial
theorem tw121473506331308683:True:=trivial
theorem tw5570337453051887047:True:=trivial
theorem tw4825530187991206697:True:=trivial
theorem tw4575109400203871472:True:=trivial
theorem tw6296172611381961578:True:=trivial
theorem tw1663524590558004287:True:=trivial
theorem tw2003349666412978189:True:=trivial
theorem tw9276602152247641771:True:=trivial
theorem tw236843059775702713:True:=trivial
theorem tw13734157074814577386:True:=trivial
theorem tw658125983518127344:True:=trivial
theorem tw7100717780169139053:True:=trivial
theorem tw9006923695394864578:True:=trivial
theorem tw9973588097059131639:True:=trivial
theorem tw2800102634084538967:True:=trivial
theorem tw4198037090722256471:True:=trivial
theorem tw5722309360751532207:True:=trivial
theorem tw200584148962739363:True:=trivial
theorem tw12362862036220523591:True:=trivial
theorem tw5867792054454665538:True:=trivial
theorem tw17764401225072113286:True:=trivial
theorem tw6445591142149565410:True:=trivial
theorem tw13325624166173271701:True:=trivial
theorem tw1922443596172558520:True:=trivial
theorem tw15246886537962568206:True:=trivial
theorem tw12226648987141379696:True:=trivial
theorem tw764628609463125906:True:=trivial
theorem tw11603680876504601037:True:=trivial
theorem tw610899085622880239:True:=trivial
theorem tw14863757894161171913:True:=trivial
theorem tw1941347702002481510:True:=trivial
theorem tw5324618122880666759:True:=trivial
theorem tw13801295483654598636:True:=trivial
theorem tw7533603026012045217:True:=trivial
theorem tw9974286520119124845:True:=trivial
theorem tw1747229387006956981:True:=trivial
theorem tw2249955237715946296:True:=trivial
theorem tw14742611778749030133:True:=trivial
theorem tw5879597638947772736:True:=trivial
theorem tw4793369184852953877:True:=trivial
theorem tw14890828546065782144:True:=trivial
theorem tw12922772045816435722:True:=trivial
theorem tw8030406854800586129:True:=trivial
theorem tw14669350873596829620:True:=trivial
theorem tw10308230797944026918:True:=trivial
theorem tw1795448757169006565:True:=trivial
theorem tw14187599429513805126:True:=trivial
end PySem.W.Fast
set_option maxRecDepth 100000 in
set_option maxHeartbeats 0 in
theorem PySem.Challenge.cw_groupwalks_k56_whole_two_steps_holds : PySem.Challenge.rw_groupwalks_k56_whole_two_steps.Holds := by
 w_on;o_law;k_head;(case hw=>w_witness2)
 k_fill
 refine _W.walk (l:=PySem.Challenge.rw_groupwalks_k56_whole_two_steps) rfl rfl (λw h Y=>PySem.W.km_in_of Y) ?F
 case F=>
  intro w mg fa h KX Gh Wh;refine' _W.all_mk KX Gh Wh ?B ?con0 ?Wf ?VI ?VA ?nd ?DA (_G.zR ?a13 ?l13 ?c13 ?Wj ?e13 ?u13 ?v13 ?w13 ?x13 ?y13 ?z13 ?t13) (_G.zR ?a24 ?l24 ?c24 ?VY ?e24 ?u24 ?v24 ?w24 ?x24 ?y24 ?z24 ?t24) (_G.zR ?a39 ?l39 ?c39 ?VN ?e39 ?u39 ?v39 ?w39 ?x39 ?y39 ?z39 ?t39) ?UL ?UG ?UX ?UJ ?Ux ?U'
  (case con0=>exact⟨_,by k_is⟩)
  case B=>
   intro x hx;simp only[_G.ly,aG,iK,or_false]at hx;rcases hx with rfl|rfl|rfl|rfl|rfl|rfl|rfl|rfl|rfl|rfl|rfl|rfl|rfl|rfl|rfl|rfl|rfl|rfl|rfl|rfl
   all_goals k_is
  case DA=>
   iterate 38 (refine' And.intro (_G.Mw ?a ?l ?c ?k) ?_;(case a=>k_is);(case l=>k_is);(case c=>k_is);(case k=>k_is))
   trivial
  (case a13=>k_is);(case l13=>k_is);(case c13=>k_is);(case Wj=>k_is)
  (case e13=>k_is);(case u13=>rfl);(case v13=>rfl);(case w13=>rfl);(case x13=>rfl);(case y13=>rfl);(case z13=>rfl);(case t13=>decide)
  (case a24=>k_is);(case l24=>k_is);(case c24=>k_is);(case VY=>k_is)
  (case e24=>k_is);(case u24=>rfl);(case v24=>rfl);(case w24=>rfl);(case x24=>rfl);(case y24=>rfl);(case z24=>rfl);(case t24=>decide)
  (case a39=>k_is);(case l39=>k_is);(case c39=>k_is);(case VN=>k_is)
  (case e39=>k_is);(case u39=>rfl);(case v39=>rfl);(case w39=>rfl);(case x39=>rfl);(case y39=>rfl);(case z39=>rfl);(case t39=>decide)
  (case Wf=>decide)
  (case VI=>decide)
  (case VA=>decide)
  (case nd=>decide)
  (case UL=>kernel_rfl);(case UG=>rfl)
  (case UX=>kernel_rfl);(case UJ=>rfl)
  (case Ux=>kernel_rfl);(case U'=>rfl)
