import PyProof.Rows.All
import Wide.All
import OpenK.AllK
import Wide.FinOn
import Lean
import PyProof.EqAt
import PyProof.EqKinds
import PyProof.TupleCall
import PyProof.EnumStmt
import PyProof.EnumMake
import PyProof.EnumFor
import PyProof.ZipIter
import PyProof.SetKind
import PyProof.Rows.SetFrom
import PyProof.CompFree
import PyProof.CompMap
import PyProof.Cells
import PyProof.ListMulRoad
import PyProof.ConsumeWalk
import PyProof.TupleOfGen
import PyProof.ListRange
import PySem.Challenge.RW_groupwalks_k64_ways_woven
set_option bootstrap.genMatcherCode false
set_option Elab.async false
set_option linter.all false
set_option maxRecDepth 100000
set_option maxHeartbeats 0
set_option compiler.postponeCompile true
set_option bootstrap.genMatcherCode false
set_option genSizeOfSpec false
set_option relaxedAutoImplicit false
set_option compiler.extract_closed false
open scoped BitVec
set_option hygiene false
local macro_rules
|`(0#0)=>`(var_eq rfl)
|`(0#1)=>`(by decide)
|`(0#2)=>`(by omega)
|`(0#3)=>`(by simp)
local macro_rules
|`(0#4)=>`(ae 0)
|`(0#5)=>`(S.length)
|`(0#6)=>`(ae 1)
|`(0#7)=>`(ae 2)
local macro_rules
|`(0#8)=>`(s.heap.objs.size)
|`(0#9)=>`(us.length)
|`(1#0)=>`(by decide +kernel)
|`(1#1)=>`(by assumption)
local macro_rules
|`(1#2)=>`(model X.prog X.w)
|`(1#3)=>`(some (tab m T))
|`(1#4)=>`(xs.length)
|`(1#5)=>`(aw l)
local macro_rules
|`(1#6)=>`(mC (.int 1))
|`(1#7)=>`(au1._auto_1)
|`(1#8)=>`(aq _)
|`(1#9)=>`((e::es))
local macro_rules
|`(2#0)=>`(model prog w)
|`(2#1)=>`(Pre.refl _)
|`(2#2)=>`(Addr×Obj)
|`(2#3)=>`(mC (.int 0))
local macro_rules
|`(2#4)=>`(l.length)
|`(2#5)=>`(some (.ref 0#5))
|`(2#6)=>`(vs.length)
|`(2#7)=>`(mC (.int 2))
local macro_rules
|`(2#8)=>`(tMA M.K mas)
|`(2#9)=>`(ys.length)
|`(3#0)=>`(tM M.K ma)
|`(3#1)=>`(aa (ae 1) ai)
local macro_rules
|`(3#2)=>`(some (tab m B))
|`(3#3)=>`(scope.names)
|`(3#4)=>`(some (tab k A))
|`(3#5)=>`(some (.ref n))
local macro_rules
|`(3#6)=>`(some (.tup (aw l)))
|`(3#7)=>`(Ex.push _ _)
|`(3#8)=>`(S.gl hg)
|`(3#9)=>`(S++[.lst []])
local macro_rules
|`(4#0)=>`(some (.int n))
|`(4#1)=>`(aa a ai)
|`(4#2)=>`(items.size)
|`(4#3)=>`(λ_ _ _ _ _ _=>us2 λ_ _=>rfl)
local macro_rules
|`(4#4)=>`(mFn cw 4#8)
|`(4#5)=>`(aa 0#7 ai)
|`(4#6)=>`(kvs.length)
|`(4#7)=>`(X.stack)
local macro_rules
|`(4#8)=>`(aa (ae 0) ai)
|`(4#9)=>`(aa (ae 3) ai)
|`(5#0)=>`(some (.tup (aw w)))
|`(5#1)=>`(some (.int i))
local macro_rules
|`(5#2)=>`(some (.obj 0))
|`(5#3)=>`(by rw[S.hm];omega)
|`(5#4)=>`([Cell.lst []])
|`(5#5)=>`((.inl rfl))
local macro_rules
|`(5#6)=>`(ns.length)
|`(5#7)=>`(tMA K a)
|`(5#8)=>`(len_tab 0#0)
|`(5#9)=>`(tMT M.K mt)
local macro_rules
|`(6#0)=>`(ps.length)
|`(6#1)=>`(S1.length)
|`(6#2)=>`(M.to caps capv cds base)
|`(6#3)=>`(by simp_all)
local macro_rules
|`(6#4)=>`(Str×NameKind)
|`(6#5)=>`(X.env.locals)
|`(6#6)=>`(Str×Addr)
|`(6#7)=>`(s2.heap.objs.size)
local macro_rules
|`(6#8)=>`(some (.ref 0))
|`(6#9)=>`((.nx,Y4,S'))
|`(7#0)=>`(tM M.K mb)
|`(7#1)=>`((.ref 0#8))
local macro_rules
|`(7#2)=>`((.int x,S1))
|`(7#3)=>`(tM M.K m)
|`(7#4)=>`((x == ("__debug__":Str)))
|`(7#5)=>`(R.e _ _ _ _ e1 X S)
local macro_rules
|`(7#6)=>`(s1.heap.objs.size)
|`(7#7)=>`(aa 2#3 ai)
|`(7#8)=>`(I.ok.hd hc)
|`(7#9)=>`(aU.refl _)
local macro_rules
|`(8#0)=>`((.int y,S2))
|`(8#1)=>`(blk X N' scope ZY ZU fp)
|`(8#2)=>`(R.e _ _ _ _ e2 X S)
|`(8#3)=>`(some (.int (x:Nat)))
local macro_rules
|`(8#4)=>`(EP X pins σ Q)
|`(8#5)=>`(aa (ae 4) ai)
|`(8#6)=>`(some (.int k))
|`(8#7)=>`(p1.trans p2)
local macro_rules
|`(8#8)=>`(M.K.to caps capv cds)
|`(8#9)=>`((.ref S'.length))
|`(9#0)=>`(er.mono k1 p1)
|`(9#1)=>`(k1.trans k2)
local macro_rules
|`(9#2)=>`(au2._auto_1)
|`(9#3)=>`(r.length)
|`(9#4)=>`(p.length)
|`(9#5)=>`((starEach (e::es) X.env=(false,eval e X.env)::starEach es X.env))
local macro_rules
|`(9#6)=>`(⟨μ,S,G,x,S1,hr,er,e1,λY0 vx H1 p1 k1 Z' rx =>?_⟩)
|`(9#7)=>`(by exact cp 0#1 _)
|`(9#8)=>`(some (.int (m:Nat)))
|`(9#9)=>`(some (.int (j:Nat)))
local macro_rules
|`(10#0)=>`(λz=>nomatch z)
|`(10#1)=>`(ns.map V.int)
|`(10#2)=>`(k.mono p1 k1)
|`(10#3)=>`(some (.obj g))
local macro_rules
|`(10#4)=>`(h'.objs.size)
|`(10#5)=>`((.Name x p1))
|`(10#6)=>`(baseOf s.heap H (frs X.stack))
|`(10#7)=>`([tab k A,u,tab m B,v])
local macro_rules
|`(10#8)=>`(R.a _ _ _ _ e1 X S)
|`(10#9)=>`([Cell.lst [.int 0]])
|`(11#0)=>`(ha _ s σ H _ I h)
|`(11#1)=>`(aa 0#7 4#9)
local macro_rules
|`(11#2)=>`((.Tuple ts kt pt))
|`(11#3)=>`(S.room.mono hk)
|`(11#4)=>`(aa 0#4 3#1)
|`(11#5)=>`(O.B _ 1#0)
local macro_rules
|`(11#6)=>`(M.K.cds++[(c',oc)])
|`(11#7)=>`(ZZ.toArray.size)
|`(11#8)=>`([Cell.lst 1#5])
|`(11#9)=>`(G++[some u])
local macro_rules
|`(12#0)=>`(h.objs.size)
|`(12#1)=>`(((backTo pos (starEach es X.env)).any (·.1)=false))
|`(12#2)=>`([x,some u,y,some (.ref (0#5+2))])
|`(12#3)=>`(bZ (mC (.bl false)))
local macro_rules
|`(12#4)=>`(some (.tup (aw p)))
|`(12#5)=>`(by rw[<- hE];rfl)
|`(12#6)=>`(by simp;omega)
|`(12#7)=>`(aa 0#4 4#5)
local macro_rules
|`(12#8)=>`(scope.kind)
|`(12#9)=>`([some (.ref n),some (.tup (aw l)),some (.int (m:Nat)),some (.int (k:Nat)),some od,none])
|`(13#0)=>`(eG X.env.cells scope.names [])
|`(13#1)=>`((false,eval a X.env))
local macro_rules
|`(13#2)=>`([3#4,some u,3#2,some v,none])
|`(13#3)=>`(⟨.bl _,H,I,rfl,q⟩)
|`(13#4)=>`(ZY.heap.objs.size)
|`(13#5)=>`(aa 0#4 (aa (ae 3) (aa 0#6 4#5)))
local macro_rules
|`(13#6)=>`(λ_ _ _ _ _ _=>us4 λ_ _ _ _=>rfl)
|`(13#7)=>`(λ_ _ _ _ _ _=>us1 λ_=>rfl)
|`(13#8)=>`(((l.map (· * m)).take j))
|`(13#9)=>`(by unfold big;omega)
local macro_rules
|`(14#0)=>`((false,eval b X.env))
|`(14#1)=>`(starEach es X.env)
|`(14#2)=>`(by simpa using hj)
|`(14#3)=>`(mSl 0#6 none (some (ae 3)))
local macro_rules
|`(14#4)=>`(X.s₀.heap.objs.size)
|`(14#5)=>`(G.set i (some u))
|`(14#6)=>`(ZJ.objs.size)
|`(14#7)=>`(⟨μ,S,G,_,_,hr,er,e1,λY0 vs H1 p1 k1 Z' rs =>?_⟩)
local macro_rules
|`(14#8)=>`((.ListComp elt [⟨.Name x px,iter,ifs,0⟩] scope pos))
|`(14#9)=>`([kL b [0,1,2],kL b [3,4,5],kL b [0,1,2,3,4,5]])
|`(15#0)=>`((∀x,foldedSetIterable iter X.env x=pure x))
|`(15#1)=>`(⟨T.D,T.C,T.L,T.H,true,T.Z.to nm⟩)
local macro_rules
|`(15#2)=>`(us.map some++bu (n - k) none)
|`(15#3)=>`((X.mg "__name__").getD .none)
|`(15#4)=>`(starEach [a] X.env = [13#1])
|`(15#5)=>`((.builtin "object.__class__"))
local macro_rules
|`(15#6)=>`([Cell.dic [(.inl 0,.int 1)]])
|`(15#7)=>`((λy=>N.findIdx? (· == y)))
|`(15#8)=>`(run ps.length N.length ms)
|`(15#9)=>`(⟨by decide,by decide⟩)
local macro_rules
|`(16#0)=>`(show ai _ _=_ from rfl)
|`(16#1)=>`(X.env.qual++"<lambda>")
|`(16#2)=>`([(Xo,("_law_woven":Str)++".<locals>."++"<lambda>"),(XH,("put_together":Str)++".<locals>."++"<lambda>"),(Xm,("_law_right":Str)++".<locals>."++"<lambda>")])
|`(16#3)=>`(k==aS&&env.scope.kind==.function&&env.kindOf n==some .cell)
local macro_rules
|`(16#4)=>`((∀Y1 H',N Y1 H' -> ∃m',m'<m/\W (k+1) m' Y1 H'))
|`(16#5)=>`(some (.tup (aw (a++thL (bk m T p) p 0 (l.take j)))))
|`(16#6)=>`((∀b o',s.heap.get? b=some o'->h'.get? b=some o'))
|`(16#7)=>`([3#5,some (.int most),some (.int way),1#3,x,y])
local macro_rules
|`(16#8)=>`(X.fn x=true\/X.env.scope.names.lookup x=some .local)
|`(16#9)=>`(some (.int ((i+j+uu (i / 2) (j / 2)) % 2)))
|`(17#0)=>`(m2 oGt (m2 d7 4#4 0#7) (mC (.int 24)))
|`(17#1)=>`(mFn ba (aa 0#4 (aa (mC (.int 3)) ai)))
local macro_rules
|`(17#2)=>`(kvs.any λkv=>decide (kv.1=k))
|`(17#3)=>`((x == ("__classdict__":Str)))
|`(17#4)=>`(⟨k',Xz,hk,⟨F'.ex⟩⟩)
|`(17#5)=>`(dB (gN 6) (dB (gN 7) jx))
local macro_rules
|`(17#6)=>`(cOf (m1 (ig "int") 0#7))
|`(17#7)=>`([3#5,3#6,some (.int (m:Nat)),some (.int (k:Nat)),some od,some (.ref (S3++[Cell.lst (aw l)]).length)])
|`(17#8)=>`(m2 bR (m2 bR (ae 5) (eA (aa (ae 7) ai))) (m2 oIx (ae 4) (m2 oMod (ae 6) 2#7)))
|`(17#9)=>`(mML iU (ae 4) (aa (m2 oIx (cq (aa 0#7 4#9)) (m2 oMod (ae 5) 2#7)) ai))
local macro_rules
|`(18#0)=>`(thn (ha _ _ s σ H _ I h) λus s1 ⟨vs,H1,I1,r1,q1⟩ =>?_)
|`(18#1)=>`((J.stop i H /\ ∀D,H D=none->Q (.ref D) (upd H D (.lst ys))))
|`(18#2)=>`(cP x x (fk st) (br st) (ax st) .none kV doc pm an cdv ct)
|`(18#3)=>`(⟨μ,S,G,x,S1,hr,er,e1,λY0 H1 p1 k1 Z' =>?_⟩)
local macro_rules
|`(18#4)=>`(⟨_,S1,G,u,S',Z',er.mono k1 p1,e,k.mono p1 k1⟩)
|`(18#5)=>`(λacc x=>if x∈acc then acc else acc++[x])
|`(18#6)=>`((∀x c,X.env.cells.lookup x=some c->c≠b))
|`(18#7)=>`([6#8,none,none,none,none,none,none,none])
local macro_rules
|`(18#8)=>`([x,some u,y,some (.ref (0#5+2)),5#1])
|`(18#9)=>`([.Tuple [.Name x px,.Name y py] kt pt])
|`(19#0)=>`(⟨.str _,_,I.tok _,⟨_,rfl⟩,q⟩)
|`(19#1)=>`(k1.trans (k2.trans (k3.trans kw)))
local macro_rules
|`(19#2)=>`([.tup (aw (bk m T p)),.tup (aw p)])
|`(19#3)=>`(m2 oIx (m2 oIx 0#4 0#7) (ae 3))
|`(19#4)=>`(some (.int (A (i / m) (j / m))))
|`(19#5)=>`(cOr (eE (cOf (mFn bM (aa (ae 3) (aa (ae 7) (aa (ae 4) (aa (ae 6) ai))))))) (eE (cOf (mFn bM (aa (ae 4) (aa (ae 6) (aa (ae 3) (aa (ae 7) ai))))))))
local macro_rules
|`(19#6)=>`(if (k'==aS&&env.scope.kind==.function&&env.kindOf n==some _)=true then(n,dM) else(n,k'))
|`(19#7)=>`(⟨.ref _,_,I.laid (λb ob q=>ag _ q) (aq _) ?_,rfl,q _ (I.hok.fresh (aq _))⟩)
|`(19#8)=>`(m2 d7 2#7 (m2 oIx (m2 oIx 0#6 (m2 oDiv (ae 3) 2#7)) (m2 oDiv (ae 5) 2#7)))
|`(19#9)=>`((∀c o,c≠z->c≠TO->c≠i1->c≠i2->s.heap.get? c=some o->h'.get? c=some o))
local macro_rules
|`(20#0)=>`(mML bV 0#7 (aa (m2 oIx (m2 oIx 0#4 (m2 oIx 0#7 (m1 mQ 1#6))) (ae 3)) ai))
|`(20#1)=>`(m2 d7 (m2 oIx (m2 oIx (ae 3) (m2 oDiv 0#4 0#7)) (m2 oDiv 0#6 0#7)) 0#7)
|`(20#2)=>`(by first | exact .inl (by decide +kernel) | exact .inr (by decide +kernel))
|`(20#3)=>`((∀ (s:Shared) (v:Value),BindsTo s fd ⟨[v],[]⟩ [("script",v)]))
local macro_rules
|`(20#4)=>`(thn (ha pos pins s σ H _ I h) λus s1 ⟨vs,H1,I1,r1,q1⟩ =>?_)
|`(20#5)=>`(m2 oIx (m2 oIx (ae 4) (m2 oMod 0#4 0#7)) (m2 oMod 0#6 0#7))
|`(20#6)=>`(cP x x (fk st) (br st) (ax st) .none kV doc pm an (.ref c) ct)
|`(20#7)=>`(cP x qual (fk st) (br st) (ax st) .none kV doc pm an cdv ct)
local macro_rules
|`(20#8)=>`(⟨rfl,I.turned (λb o hb e=>eb b o hb e) f0 f1 f3 f4 f5⟩)
|`(20#9)=>`(aa (mIs u (b 3)) (aa (mIs u (b 4)) (aa (mIs u (b 5)) ai)))
|`(21#0)=>`([6#8,5#1,some 8#9,3#4,3#2,5#0,some (.tup (aw z)),u7])
|`(21#1)=>`(by rw [typeLookup_type,builtinLookup_eq_fast];kernel_rfl)
local macro_rules
|`(21#2)=>`(⟨μ,S,G,_,_,hr,er,e1,λY0 vx H1 p1 k1 Z' rx =>?_⟩)
|`(21#3)=>`(⟨Y0,S1,G,C,S',Z',er.mono k1 p1,q,aft.mono p1 k1⟩)
|`(21#4)=>`((∃ o,h'.get? e=some o/\o.cls = .type "StopIteration"))
|`(21#5)=>`(cOr (eE (cOf (mFn dv 11#4))) (eE (cOf (mFn dv 11#1))))
local macro_rules
|`(21#6)=>`((∀Y1 H',N Y1 H' -> ∃m',m'<m/\W (i+1) m' Y1 H'))
|`(21#7)=>`(match a G S with |some (.nx,Y3,S1)=>b _ S1 |r=>r)
|`(21#8)=>`(aZ (fv 3 (iR1 4#8) (dj 22#6)) (bZ (mFn bO 4#5)))
|`(21#9)=>`(some (.builtin "BaseException.__getattribute__"))
local macro_rules
|`(22#0)=>`(aa (mFn dq 11#1) (aa (mFn dq (aa 0#7 8#5)) ai))
|`(22#1)=>`((∀ b o,s.heap.get? b=some o->h'.get? b=some o))
|`(22#2)=>`(dj (mML bV (ae 4) (aa (m2 d7 (ae 6) 0#6) ai)))
|`(22#3)=>`([tab (2+r) (fB (2+r)),tab (2*(2+r)) (hG (2+r))])
local macro_rules
|`(22#4)=>`((∀b o,s.heap.get? b=some o->h'.get? b=some o))
|`(22#5)=>`(nL qual scope s.heap.objs.size f (.ref c) Xp)
|`(22#6)=>`(mML bV 0#7 (aa (mFn bO (aa (dc (iR1 4#8) cTT (ph 1 g φ (aa (ae 3) (aa (ae 4) ai)))) ai)) ai))
theorem au1(h:0=0:=by rfl):0=0:=h
theorem au2(h:0=0:=by decide):0=0:=h
theorem au3(h:Nat->0=0:=by intro _;rfl):0=0:=h 0
theorem au4(h:0=0\/0=1:=by first |exact .inl rfl |exact .inr rfl |assumption):0=0:=rfl
noncomputable section
open Array renaming length_toList→eZ,toList_append→GM
open Bool renaming and_eq_true→ak,and_eq_true_iff→eO,and_true→eS,false_ne_true→hJ,false_eq_true→hU,not_true→BO,true_and→BW
open Classical renaming propDecidable→cf
open False renaming elim→bH
open ForInStep renaming yield→en
open Int renaming ofNat_lt→fH,toNat_natCast→lg,natCast_emod→mY,emod_lt_of_pos→ui,natCast_ediv→xI,toNat→xJ,emod_nonneg→zE,natCast_add→zF,eq_ofNat_of_zero_le→Dp
open List renaming getElem?_eq_some_iff→ah,mem_cons_of_mem→az,range→aB,getElem?_set_ne→aE,length_map→aF,mem_cons→aI,getElem?_set_self→aJ,length_append→aK,mem_append_right→aR,getElem?_append_left→aT,mem_cons_self→aV,mem_singleton→a8,size_toArray→be,length_range→bf,getElem?_eq_getElem→bo,replicate→bu,mem_map→bw,all_cons→bx,lookup_cons→bF,getElem?_append_right→bI,length_cons→bP,getElem?_map→cu,mem_range→cz,not_mem_nil→cM,all_eq_true→cN,mem_of_getElem?→cY,map_append→cZ,mem_append_left→dw,findIdx?_eq_some_iff_getElem→dA,mem_append→dE,range'→dF,reverse_cons→dW,length_reverse→d4,map_congr_left→d5,length_take→eg,nodup_cons→eN,map_map→eP,eq_nil_of_length_eq_zero→fo,all_nil→ft,length_nil→fK,append_assoc→fX,length_drop→gq,filterMap_cons→gF,map_cons→gU,append_nil→g8,length_set→g9,lookup_append→hZ,getElem?_replicate→iq,getElem_mem→i3,drop_length→i5,mem_reverse→i6,range_eq_range'→jn,of_mem_zip→jI,range_succ→jJ,pairwise_map→k9,take_length→mK,nodup_range→mO,range'_succ→mP,nil_append→oq,length_replicate→ot,set_append_right→ox,mem_of_mem_take→pz,mem_of_mem_drop→pB,getElem_of_mem→qP,filter_eq_self→qS,findIdx?_cons→rM,nodup_append→uk,cons_append→vO,length→xw,mem_filter→xK,forIn_cons→xM,foldl_cons→xN,getD_eq_getElem?_getD→zM,perm_ext_iff_of_nodup→zO,nodup_iff_pairwise_ne→zP,any_cons→BS,idxOf_lt_length_iff→BU,getElem?_cons_succ→Dj,getElem?_cons_zero→Dk,pairwise_lt_range→Dn,take_of_length_le→Dq,zipWith→Dr,length_filter_le→GA,lookup→GJ,getElem_toArray→GK,getElem?_mapIdx→GL,map_eq_cons_iff→GN,map→GO
open List.Pairwise renaming nil→gw
open Nat renaming lt_of_lt_of_le→ao,le_refl→aq,le_trans→aD,ne_of_lt→aG,le_of_lt→aM,lt_of_le_of_lt→aN,lt_trans→bg,mod_eq_of_lt→bh,lt_irrefl→bp,ne_of_gt→bD,add_pos_left→cp,lt_succ_self→dy,le_succ→dQ,lt_succ_of_lt→dX,zero_add→d9,zero_le→ee,le_add_right→ej,div_eq_of_lt→ek,le_of_not_lt→fj,lt_of_le_of_ne→fG,add_assoc→fQ,le_mul_of_pos_left→iO,min_eq_left→jW,mul_comm→kh,mod_lt→kO,add_mod_right→lr,sub_sub_right→ls,sub_add_comm→mX,mod_self→om,sub_le→oo,mod_add_mod→oy,mul_le_mul_right→qA,mul_le_mul_left→rm,le_succ_of_le→uP,le_of_lt_succ→uR,add_comm→Gy,lt_of_succ_lt_succ→Gz,succ_mul→GB,div_lt_iff_lt_mul→GP
open Nat.succ renaming inj→zL
open Ne renaming symm→cX
open Option renaming bind_some→aH,isSome_iff_exists→cH,map_eq_some_iff→iC,filter_eq_some_iff→ki,map_some→vN
open Option.some renaming inj→dO,injEq→jK
open PyProof.Rows renaming callWith_type1→bz,slot_tuple_getitem→cQ,recsOf→fT,callWith_builtin1→pv,boot_tuple→uQ,boot_list→vQ
open PyProof.Rows.F renaming plain_set_update_loop→fJ,entry_set_update_loop→lh
open PyProof.Rows.IsTup renaming new→pq
open PySem renaming wpAny_bind→af,wpAny_pure→ar,wpAny→aC,wpAny_field→bc,wpAny_callSpecial?_slot→bB,wpAny_mono→bG,mem_of_lookup→bJ,wpAny_call_entry→bX,wpAny_newObj_type→cb,wpAny_Call_Name_kw→cJ,wpAny_setField_rec→cK,codeAny_builtin→de,wpAny_holding→dG,wpAny_truthy_bool→dI,wpAny_pyIter_tuple→eK,codeAny_mono→ff,wpAny_seqItems→fF,wpAny_of_eq→fO,wpAny_passesOwn→gc,wpAny_rule→gS,wpAny_attempt→iH,wpAny_execs_nil→iI,wpAny_loadPart'→iJ,wpAny_typeOf→ji,wpAny_loadPart_at→jk,wpAny_isInstance→jV,PyData→jX,codeAny→jY,wpAny_setField→mj,wpAny_runValue→mm,wpAny_assign_Name→nu,wpAny_pyIter_list→nv,wpAny_comprehension_free→oj,wpAny_specialOf→qO,Addr→rA,wpAny_updateSeq_pair→uf,codeAny_call_builtin→ug,wpAny_standAt→vL,wpAny_onRaise→vM,wpAny_call→xu,wpAny_sequenceKey→zy,wpAny_execs_cons→AO,wpAny_letGo→BQ,Str→BV,wpAny_updateSeq→De,codeAny_of_tree→Dg,wpAny_load→Gv
open PySem.Around renaming under_plainId→i4,frames_deeper→Dm
open PySem.Builtin.List renaming listTooLong→fY,listSameRef→uj
open PySem.Builtin.Range renaming rangeSize→dJ,small→mn
open PySem.Builtin.Slice renaming slicePlaces→dz,sliceAdjust→fI,sliceApplied→rh
open PySem.Builtin.SmallTypes renaming nextOf→bj,ownedTupleIsFree→bT,ownedTupleHandOut→dH,newClass→oi
open PySem.Builtin.Tuple renaming tupleItemsOf→iY,tupleExact→uh
open PySem.Calls renaming spliced_cons→dm,spliced_nil→eM,evalArgs_plain→jj,Constant_str→rg,Name_function_global→zx,call_function_entry→zJ,callWith_builtin→Dd
open PySem.Data renaming cell→Df,fields→GG,seq→GI
open PySem.F renaming slot_tuple_iterator_next→gy,plainAttrs_list→gZ,slot_enumerate_next→jm,typeOf_object_class→jr,args_tuple_add_2→kM,entry_tuple_add→k8,slot_tuple_add→md,slot_zip_next→pw,entry_proto_collect→qy,args_object_init_2→rj,plain_list_iadd→xD,entry_list_iadd→xF,excBase_ValueError→xG,slot_list_append→zA,type_list_append→zB,slot_tuple_index→zC,args_tuple_iterator_next_1→AQ,entry_tuple_iterator_next→BP,plain_set_new→BR,args_enumerate_next_1→GH
open PySem.Heap renaming get?_push_of_some→ag,get?_push_size→av,lt_size→ay,size_push→a9,SameBut→cU,get?_update_self→di,get?_update_other→dC,ExtBut→jl,IsTuple→ny,FlyingW→nz
open PySem.Heap.IsSliceOf renaming new→mJ
open PySem.Heap.SameBut renaming update→eC
open PySem.IsL renaming update→Gw
open PySem.NameKind renaming free→aS,cell→dM
open PySem.Obj renaming mapSeq→fD,data_mapFields→fE,isFreed_of_fields→pj
open PySem.Paired renaming length→zG
open PySem.PassesOwn renaming never→lq
open PySem.PyData renaming int→dD,strOk→dN,canLay0→eh,canLayAll0→eD,eqv→fL,eqvAll→fR,depthAll→kZ,eqv→mL,depthAll→mV,showable→mW,intsShortAll→pA,showableAll→qR,depth→rN,intsShort→um,weightAll→uo,shownAll→vR,hasDict_of_canLay→zK,strOk→zN
open PySem.SetTable renaming below→bE,grown→fP,has→zH
open PySem.SetTable.below renaming go→gv
open PySem.SetTable.probe renaming go→zz
open PySem.Shared renaming heap→kN,TypeIs→zI
open PySem.Str renaming ofString→d8,empty→xr
open PySem.Value renaming ref→bY,none→ei,builtin→qQ,isInt_shape→ue,int→uN,type→zw
open PySem.W renaming Frag→aj,nsIn→aX,kitOne→cg,mg_of→ck,kia_one→cx,keepIn→cy,fnOf→cP,hideAll_get→eR,hideAll_none→fV,codeIn→fW,hideAll→gE,cellsFrom_some→ip,of_hideAll→jT,callWith_K→jU,OpenLaw→mM,hideAll_size→oh,instObj→uO,kla_makeFunctionHit→vP,lookIn→xq,exmOne→xH,kla_makeFunction→zD,kla_callFunE→Dh,kla_codeExpr→Di,callWith_K0→Dl,callWith_of→Do,mg_none_of→Gx,kitx_none→GC,kitx_list→GD,kitx_dict→GF
open PySem.W.Looks renaming ld→pk
open Sum renaming inl→og,inr→Gu
open True renaming intro→fq
namespace _L
open PySem PySem.Spec PyProof.Rows
abbrev Key:=Sum Int Str
def tJ:Key->Value->Bool
 |.inl k,v=>Value.isInt k v
 |.inr x,v=>Value.isStrOf x v
def QW(w:World):Key->Int
 |.inl k=>hashInt k
 |.inr x=>hashStr w x
theorem dR:∀{k:Key}{v:Value},tJ k v=true->(∃i t,k=og i/\v=uN i t)\/(∃x t,k=Gu x/\v=Value.str x t)
 | .inl i,v,h=>by
   obtain⟨t,e⟩:=ue h;exact .inl ⟨i,t,rfl,e⟩
 | .inr x,v,h=>by
   obtain⟨t,e⟩:=Value.isStrOf_shape h;exact .inr ⟨x,t,rfl,e⟩
theorem CO(i:Int)(t:Tok):tJ (.inl i) (.int i t)=true:=by simp[tJ,Value.isInt]
theorem Cy(x:Str)(t:Tok):tJ (.inr x) (.str x t)=true:=by simp[tJ,Value.isStrOf]
theorem Lc(a b:Int):decide ((og a:Key)=og b)=(a==b):=by
 grind
theorem Lx(a b:Str):decide ((Gu a:Key)=Gu b)=decide (a=b):=by
 grind
theorem Mh(a:Int)(b:Str):decide ((og a:Key)=Gu b)=false:=decide_eq_false (λq=>nomatch q)
theorem KI(a:Str)(b:Int):decide ((Gu a:Key)=og b)=false:=decide_eq_false (λq=>nomatch q)
def dP(prog:Program)(w:World):PySem.KeyKind prog w Key where
 is:=tJ
 hash:=QW w
 inj:=λv a b ha hb=>by
  rcases dR ha with⟨i,t,rfl,rfl⟩|⟨x,t,rfl,rfl⟩
  .rcases dR hb with⟨j,u,rfl,e⟩|⟨y,u,rfl,e⟩
   .injection e with e1 _;rw[e1]
   .exact nomatch e
  .rcases dR hb with⟨j,u,rfl,e⟩|⟨y,u,rfl,e⟩
   .exact nomatch e
   .injection e with e1 _;rw[e1]
 byValue:=λk v h=>by
  rcases dR h with⟨i,t,rfl,rfl⟩|⟨x,t,rfl,rfl⟩<;>rfl
 pyHash:=λhv h=>by
  rcases dR hv with⟨i,t,rfl,rfl⟩|⟨x,t,rfl,rfl⟩
  .exact wpAny_pyHash_int h
  .exact wpAny_pyHash_str h
 eqBool:=λhu hv h=>by
  rcases dR hu with⟨i,t,rfl,rfl⟩|⟨x,t,rfl,rfl⟩
  .rcases dR hv with⟨j,u,rfl,rfl⟩|⟨y,u,rfl,rfl⟩
   .rw[Lc]at h;exact wpAny_eqBool_int h
   .rw[Mh]at h;exact SeqAt.EqAt.int_str i t y u _ _ _ _ h
  .rcases dR hv with⟨j,u,rfl,rfl⟩|⟨y,u,rfl,rfl⟩
   .rw[KI]at h;exact SeqAt.EqAt.str_int x t j u _ _ _ _ h
   .rw[Lx]at h;exact wpAny_eqBool_str h
 «strs»:=λk x t v h=>by
  rcases dR h with⟨i,u,rfl,e⟩|⟨y,u,rfl,e⟩
  .exact nomatch e
  .injection e with e1 _
   subst e1;cases v<;>rfl
theorem yy(prog:Program)(w:World)(i:Int)(t:Tok):(dP prog w).is (.inl i) (.int i t)=true:=CO i t
theorem xX(prog:Program)(w:World)(x:Str)(t:Tok):(dP prog w).is (.inr x) (.str x t)=true:=Cy x t
inductive V where
 |non |bl (b:Bool) |int (i:Int) |str (x:Str) |byt (b:Array UInt8) |flt (b:UInt64) |ref (a:Addr) |ty (n:String)
def RelV:V->Value->Prop
 |.non,u=>u=ei
 |.bl b,u=>u=Value.bool b
 |.int i,u=>∃t,u=uN i t
 |.str x,u=>∃t,u=Value.str x t
 |.byt b,u=>∃t,u=Value.bytes b t
 |.flt b,u=>∃t,u=Value.float b t
 |.ref a,u=>u=bY a
 |.ty n,u=>u=zw n
abbrev cm:List V->List Value->Prop:=Paired RelV
variable{xs:List V}{us:List Value}
theorem cm.length(r:cm xs us):1#4=0#9:=zG r
theorem cm.get:∀{xs:List V}{us:List Value}{i:Nat}{x:V},cm xs us->xs[i]?=some x->∃u,us[i]?=some u/\RelV x u
 |_,_,_,_,.nil,e=>by simp at e
 |_,_,0,_,.cons r _,e=>by simp_all
 | _,_,i+1,x,.cons _ t,e=>by
   obtain⟨u,h1,h2⟩:=cm.get t (by simpa using e)
   simp_all
theorem cm.set{x:V}{u:Value}(r:RelV x u):∀{xs:List V}{us:List Value} (i:Nat),cm xs us->cm (xs.set i x) (us.set i u)
 |_,_,_,.nil=>.nil
 |_,_,0,.cons _ t=>.cons r t
 |_,_,i+1,.cons q t=>.cons q (cm.set r i t)
theorem cm.append:∀{xs ys:List V}{us ws:List Value},cm xs us->cm ys ws->cm (xs++ys) (us++ws)
 |_,_,_,_,.nil,s=>s
 |_,_,_,_,.cons r t,s=>.cons r (cm.append t s)
theorem cm.take:∀{xs:List V}{us:List Value} (n:Nat),cm xs us->cm (xs.take n) (us.take n)
 |_,_,0,_=>.nil
 |_,_,_+1,.nil=>.nil
 |_,_,n+1,.cons r t=>.cons r (cm.take n t)
theorem cm.drop:∀{xs:List V}{us:List Value} (n:Nat),cm xs us->cm (xs.drop n) (us.drop n)
 |_,_,0,r=>r
 |_,_,_+1,.nil=>.nil
 |_,_,n+1,.cons _ t=>cm.drop n t
def sP:Option V->Option Value->Prop
 |some v,some u=>RelV v u
 |none,none=>True
 |_,_=>False
def KV{κ:Type}:List (κ×V)->List (κ×Value)->Prop:=Paired λ(p:κ×V) (q:κ×Value)=>p.1=q.1/\RelV p.2 q.2
def kV:Key->V
 |.inl i=>.int i
 |.inr x=>.str x
inductive HO where
 |lst (xs:List V)
 |tup (xs:List V)
 |dK (kvs:List (Key×V)) |dT (kvs:List (List Key×V))
 |set (S:Int->Bool) (n:Nat)
 |ins (C dx:Addr) (fs:List (Str×V))
 |own (x:Addr)
 |xd (fs:List (Str×V))
 |met (f x:Addr)
 |rng (lo hi:Int)
 |frz (o:Obj) (u:HO)
 |tbl (ps:Array Value)
 |ext (φ:Heap->Prop)
abbrev Hp:=Addr->Option HO
def upd(H:Hp)(a:Addr)(o:HO):Hp:=λb=>if b=a then some o else H b
variable{H:Hp}{a:Addr}{o:HO}
theorem bS:upd H a o a=some o:=by unfold upd;rw[if_pos rfl]
variable{b:Addr}
theorem aP(h:b≠a):upd H a o b=H b:=by unfold upd;rw[if_neg h]
theorem qB{u:HO}(h:H a=some o)(h':H b=some u)(d:o≠u):a≠b:=by
 grind
theorem aQ(h:H a=some o)(h':H b=none):a≠b:=by
 grind
section
variable (P:Program) (w:World)
def fb(H:Hp)(h:Heap)(a:Addr):HO->Prop
 |.lst xs=>1#4<=sizeLine /\ ∃ (ZZ:List Value) (n:Nat),cm xs ZZ/\h.get? a=some { cls := .type "list",data := .seq ZZ.toArray n }
 |.tup xs=>1#4<=sizeLine /\ ∃ZZ:List Value,cm xs ZZ/\IsTup h a ZZ.toArray /\ ∃o,h.get? a=some o/\o.dict=none
 |.dK kvs=>4#6<=sizeLine/\(a==sysModules)=false /\ ∃vs,KV kvs vs/\h.DictOf (dP P w) a vs
 | .dT kvs=>4#6<=sizeLine/\(a==sysModules)=false /\ ∃xs:List (List Key×Addr×Value),
   Paired (λ(p:List Key×V) (q:List Key×Addr×Value)=>p.1=q.1/\H q.2.1=some (.tup (p.1.map kV))/\RelV p.2 q.2.2) kvs xs /\
   ∃o es ep,h.get? a=some o/\o.ExactDict/\o.data=.dict es ep/\es.toList=xs.map (entryOfKey (tupleKind (dP P w)))/\(xs.map (·.1)).Nodup
 |.set S n=>h.SetOf (intKind P w) a S n
 | .ins C dx fs=>H dx=some (.own a)/\fs.length<=1000/\dx≠a/\h.get? a=some (uO C dx) /\
   ∃mA,h.Ns1 dx mA/\(∀f,sP (fs.lookup f) (mA f))/\PySem.Within mA (fs.map (·.1))
 |.own _=>∃o,h.get? a=some o
 |.xd fs=>∃mA,h.Ns1 a mA /\ ∀f,sP (fs.lookup f) (mA f)
 |.rng lo hi=>∃ t u v,h.get? a=some { cls := .type "range",data := .fields #[.int lo t,.int hi u,.int 1 v] }
 |.frz o u=>h.get? a=some o/\fb H h a u
 |.tbl ps=>h.get? a=some { cls:= .none,data:= .fields ps }
 |.met f x=>h.get? a=some (PySem.W.methodObj (.ref f) (.ref x))
 |.ext φ=>φ h/\(∃o,h.get? a=some o) /\ ∀h1 h2:Heap,φ h1->(∀o,h1.get? a=some o->h2.get? a=some o)->φ h2
def HOk(H:Hp)(h:Heap):Prop:= ∀a o,H a=some o->fb P w H h a o
end
section
variable {P:Program}{w:World}{H H':Hp}{h h':Heap}{a:Addr}{o:HO}
theorem fb.lt(x:fb P w H h a o):a<12#0:=by
 cases o with
 |lst xs=>obtain⟨_,_,_,_,e⟩:=x;exact ay e
 |tup xs=>obtain⟨_,_,_,p⟩:=x;exact p.1.lt
 |dK kvs=>obtain⟨_,_,_,_,o,_,_,e,_⟩:=x;exact ay e
 |dT kvs=>obtain⟨_,_,_,_,o,_,_,e,_⟩:=x;exact ay e
 |set S n=>obtain⟨o,_,_,_,e,_⟩:=x;exact ay e
 |ins C dx fs=>obtain⟨_,_,_,e,_⟩:=x;exact ay e
 |own y=>obtain⟨_,e⟩:=x;exact ay e
 |xd fs=>obtain⟨_,⟨_,_,_,e,_⟩,_⟩:=x;exact ay e
 |rng lo hi=>obtain⟨_,_,_,e⟩:=x;exact ay e
 |frz ob u=>obtain⟨e,_⟩:=x;exact ay e
 |tbl ps=>exact ay (x)
 |met f y=>exact ay (x)
 |ext φ=>obtain⟨_,⟨_,e⟩,_⟩:=x;exact ay e
theorem Paired.mapP{α β:Type}{F v6:α->β->Prop}:∀{VT:List α}{W4:List β},Paired F VT W4->(∀a b,F a b->v6 a b)->Paired v6 VT W4:=by
 intro l m h f
 induction h with
 |nil=>exact .nil
 |cons r t ih=>exact .cons (f _ _ r) ih
theorem fb.stay(x:fb P w H h a o)(k:∀b u,(b=a\/H b=some (.own a))->h.get? b=some u->h'.get? b=some u)
  (ho:∀b,H b=some (.own a)->H' b=some (.own a)) (ht:∀b xs,H b=some (.tup xs)->H' b=some (.tup xs)):fb P w H' h' a o:=by
 induction o with
 |lst xs=>obtain⟨z,ZZ,n,r,e⟩:=x;exact⟨z,_,n,r,k _ _ 5#5 e⟩
 |tup xs=>obtain⟨z,ZZ,r,⟨ob,e,c⟩,o2,e2,c2⟩:=x;exact⟨z,_,r,⟨ob,k _ _ 5#5 e,c⟩,o2,k _ _ 5#5 e2,c2⟩
 |dK kvs=>obtain⟨z,y,vs,r,ob,es,ep,e,c⟩:=x;exact⟨z,y,vs,r,ob,es,ep,k _ _ 5#5 e,c⟩
 | dT kvs=>
   obtain⟨z,y,xs,r,ob,es,ep,e,c⟩:=x;exact⟨z,y,xs,Paired.mapP r λp q z=>⟨z.1,ht _ _ z.2.1,z.2.2⟩,ob,es,ep,k _ _ 5#5 e,c⟩
 |set S n=>obtain⟨ob,es,ep,t,e,c⟩:=x;exact⟨ob,es,ep,t,k _ _ 5#5 e,c⟩
 | ins C dx fs=>
   obtain⟨d,z,ne,e,mA,⟨od,es,ep,e2,c⟩,r⟩:=x;exact⟨ho _ d,z,ne,k _ _ 5#5 e,mA,⟨od,es,ep,k _ _ (.inr d) e2,c⟩,r⟩
 |own y=>obtain⟨ob,e⟩:=x;exact⟨ob,k _ _ 5#5 e⟩
 |xd fs=>obtain⟨mA,⟨od,es,ep,e,c⟩,r⟩:=x;exact⟨mA,⟨od,es,ep,k _ _ 5#5 e,c⟩,r⟩
 |rng lo hi=>obtain⟨t,u,v,e⟩:=x;exact⟨t,u,v,k _ _ 5#5 e⟩
 |frz ob u ih=>obtain⟨e,q⟩:=x;exact⟨k _ _ 5#5 e,ih q⟩
 | tbl ps=>
   have e:=x;exact k a _ 5#5 e
 | met f y=>
   have e:=x;exact k a _ 5#5 e
 |ext φ=>obtain⟨p,⟨o,e⟩,st⟩:=x;exact⟨st _ _ p λo q=>k _ _ 5#5 q,⟨o,k _ _ 5#5 e⟩,st⟩
theorem HOk.lt(x:HOk P w H h)(e:H a=some o):a<12#0:=(x a o e).lt
theorem HOk.fresh(x:HOk P w H h)(e:12#0<=a):H a=none:=by
 cases q:H a with
 |none=>rfl
 |some u=>exact absurd (ao (x.lt q) e) (bp _)
theorem HOk.kept(x:HOk P w H h)(k:∀b u,h.get? b=some u->h'.get? b=some u):HOk P w H h':=λa o e=>
 (x a o e).stay (λb u _ q=>k b u q) (λ_ q=>q) λ_ _ q=>q
theorem HOk.laid(x:HOk P w H h)(k:∀b u,h.get? b=some u->h'.get? b=some u)(hp:12#0<=a)(new:fb P w (upd H a o) h' a o):HOk P w (upd H a o) h':=λb u e=>by
 have hn:=x.fresh hp;by_cases hb:b=a
 .subst hb;rw[bS]at e;grind
 .rw[aP hb]at e
  exact(x b u e).stay (λc v _ q=>k c v q) (λc q=>by rw[aP (aQ q hn)];omega) λc xs q=>by rw[aP (aQ q hn)];omega
end
def Rd(H:Hp)(a:Addr)(u:HO):Prop:=H a=some u \/ ∃o,H a=some (.frz o u)
variable{P:Program}{w:World}{h:Heap}
theorem Rd.ok{u:HO}(r:Rd H a u)(x:HOk P w H h):fb P w H h a u:=by
 rcases r with r|⟨o,r⟩
 .exact x a u r
 .obtain⟨_,q⟩:=x a _ r
  omega
def Mut:Option HO->Prop
 |some (.lst _)=>True
 |some (.dK _)=>True
 |some (.dT _)=>True
 |some (.set _ _)=>True
 |some (.ins _ _ _)=>True
 |some (.ext _)=>True
 |_=>False
section
variable {P:Program}{w:World}{H:Hp}{h h':Heap}{x e:Addr}{o':HO}
theorem HOk.write(ok:HOk P w H h)(mu:Mut (H x))(he:e=x\/H e=some (.own x))(k:∀b u,b≠e->h.get? b=some u->h'.get? b=some u)(VC:∃u,h'.get? e=some u)
  (new:fb P w (upd H x o') h' x o'):HOk P w (upd H x o') h':=λb u q=>by
 have nown:∀c y,H c=some (.own y)->c≠x:=λc y r z=>by subst z;rw[r]at mu;exact mu
 have ntup:∀c xs,H c=some (.tup xs)->c≠x:=λc xs r z=>by subst z;rw[r]at mu;exact mu
 by_cases hb:b=x
 .subst hb;rw[bS]at q;grind
 .rw[aP hb]at q
  by_cases XE:b=e
  .have q':H b=some (.own x):=by
    grind
   rw[q]at q';cases q';obtain⟨v,hv⟩:=VC;exact⟨v,by rw[XE];omega⟩
  .refine(ok b u q).stay (λc v hc r=>k c v ?_ r) (λc r=>by rw[aP (nown c b r)];omega) λc xs r=>by rw[aP (ntup c xs r)];omega
   grind
end
structure Un(fs ex:List Addr)(H H':Hp)(h h':Heap):Prop where
 keep:∀b o,h.get? b=some o->H b=none->b∉fs->b∉ex->h'.get? b=some o
 slot:∀b o,h.get? b=some o->H b=none->b∈fs->b∉ex->∃sl,h'.get? b=some { o with slots:=sl }
 free:∀b o,h.get? b=some o->H b=none->b∉ex->H' b=none
 there:∀b o,h.get? b=some o->b∉ex->∃o',h'.get? b=some o'
 tups:∀b xs,H b=some (.tup xs)->H' b=some (.tup xs)
 frzs:∀b o u,H b=some (.frz o u)->H' b=some (.frz o u)
 tbls:∀b ps,H b=some (.tbl ps)->∃more,H' b=some (.tbl (ps++more))
section
variable {fs QZ ex ex':List Addr}{H H1 H2:Hp}{h h1 h2 h':Heap}{a x e:Addr}{o:HO}
theorem Un.any(u:Un fs ex H H1 h h1){ob:Obj}(q:h.get? b=some ob)(n:H b=none)(hx:b∉ex):∃sl,h1.get? b=some { ob with slots:=sl }:=by
 by_cases hb:b∈fs
 .exact u.slot b ob q n hb hx
 .exact⟨_,u.keep b ob q n hb hx⟩
theorem Un.kept(k:∀b u,h.get? b=some u->h'.get? b=some u):Un fs ex H H h h':=
 ⟨λb ob q _ _ _=>k b ob q,λb ob q _ _ _=>⟨_,k b ob q⟩,λ_ _ _ n _=>n,λb ob q _=>⟨ob,k b ob q⟩,λ_ _ q=>q,λ_ _ _ q=>q,λ_ ps q=>⟨#[],by rw[q];simp⟩⟩
theorem Un.refl:Un fs ex H H h h:=Un.kept λ_ _ q=>q
theorem Un.laid(k:∀b u,h.get? b=some u->h'.get? b=some u)(hp:12#0<=a)(hn:H a=none):Un fs ex H (upd H a o) h h' where
 keep:=λb u q _ _ _=>k b u q
 slot:=λb u q _ _ _=>⟨_,k b u q⟩
 free:=λb u q n _=>by rw[aP (aG (ao (ay q) hp))];omega
 there:=λb u q _=>⟨u,k b u q⟩
 tups:=λb xs q=>by rw[aP (aQ q hn)];omega
 frzs:=λb u xs q=>by rw[aP (aQ q hn)];omega
 tbls:=λb ps q=>⟨#[],by rw[aP (aQ q hn),q];simp⟩
theorem Un.write(mu:Mut (H x))(he:e=x\/H e=some (.own x))(k:∀b u,b≠e->h.get? b=some u->h'.get? b=some u)(VC:∃u,h'.get? e=some u):Un fs ex H (upd H x o) h h':=by
 have hx:∀b,H b=none->b≠x:=λb n z=>by subst z;rw[n]at mu;exact mu
 have hb:∀b,H b=none->b≠e:=λb n z=>by
  grind
 have hm:∀b u,H b=some u->¬Mut (some u)->b≠x:=λb u q nm z=>by grind
 refine⟨λb u q n _ _=>k b u (hb b n) q,λb u q n _ _=>⟨_,k b u (hb b n) q⟩,λb u q n _=>by rw[aP (hx b n)];omega,λb u q _ =>?_,
  λb xs q=>by rw[aP (hm b _ q λz=>z)];omega,λb u xs q=>by rw[aP (hm b _ q λz=>z)];omega,λb ps q=>⟨#[],by rw[aP (hm b _ q λz=>z),q];simp⟩⟩
 grind
end
def trk(h:Heap)(H:Hp):List Addr:=(aB 12#0).filter λa=>(H a).isSome
def xY(h:Heap)(H:Hp):Heap:=gE h (trk h H)
theorem pR(h:Heap)(H:Hp):(xY h H).objs.size=12#0:=oh _ _
variable{o:Obj}
theorem o7(e:h.get? b=some o)(n:H b=none):(xY h H).get? b=some o:=
 eR _ e λhm=>by
  have q:=(xK.mp hm).2
  grind
theorem AX(e:(xY h H).get? b=some o):h.get? b=some o/\H b=none:=by
 have e':=jT _ e;refine⟨e',?_⟩;cases q:H b with
 |none=>rfl
 | some x=>
   have hm:b∈trk h H:=xK.mpr ⟨cz.mpr (ay e'),by simp[q]⟩;have z:(xY h H).get? b=none:=fV _ hm
   grind
def Hx(g h:Heap)(L:Addr):List 2#2:=(aB 12#0).filterMap λa=>if a=L\/(g.get? a).isSome=true then none else(h.get? a).map λo=>(a,o)
def rest(g h:Heap)(L d:Addr):List 2#2:=(Hx g h L).filter λp=>decide (p.1≠d)
structure Mod(K:aj)(mg:Str->Option Value)(base:Heap):Prop where
 kin:K.In base
 glob:base.Ns mainGlobals mg
 blt :∃ mb,base.Ns builtinsNs mb /\ ∀ x:Str,x≠"__name__"->mb x=bootBuiltins x
 nolimit:base.NoLimit
set_option genInjectivity false in
structure Cx where
 prog:Program
 w:World
 K:aj
 mg:Str->Option Value
 base:Heap
 A:Around
 N:List Str
 s₀:Shared
 H₀:Hp
 env:Env
 outer:List Env
 stack:List Env
 ex:List Addr
 fn:Str->Bool
 calm:Bool
 pn:List (Addr×Obj)
 xe:Value->Shared->Prop
def frs(l:List Env):List Addr:=l.filterMap (·.frame)
abbrev Cx.fs(X:Cx):List Addr:=frs X.outer
def Vis(sc:Scope)(x:Str):Prop:=sc.names.lookup x=some .local\/sc.names.lookup x=some .cell\/sc.names.lookup x=some .free
def Loc(sc:Scope)(x:Str):Prop:=sc.names.lookup x=some .local\/sc.names.lookup x=some .cell
def Look(env:Env)(h:Heap)(m:Str->Option Value)(x:Str)(u:Value):Prop:=
 (env.kindOf x=some .local/\m x=some u)\/((env.kindOf x=some .cell\/env.kindOf x=some .free) /\ ∃c,env.cells.lookup x=some c/\h.IsCell c (some u))
structure Cx.Ok(X:Cx):Prop where
 mod:Mod X.K X.mg X.base
 kind:X.env.scope.kind=.function
 glob:X.env.globals=mainGlobals
 blt:X.env.builtins=builtinsNs
 above:X.s₀.heap.objs.size<=X.env.locals
 inj:∀x y c,X.env.cells.lookup x=some c->X.env.cells.lookup y=some c->x=y
 has:∀x,(X.env.kindOf x=some .cell\/X.env.kindOf x=some .free)->∃c,X.env.cells.lookup x=some c
 cab:∀x c,X.fn x=true->X.env.cells.lookup x=some c->X.s₀.heap.objs.size<=c
 hd:X.calm=true->X.A.handled=none
 frames:X.A.frames=some X.stack
 stk:X.stack=X.outer\/(X.stack=X.env::X.outer/\X.env.frame=some X.env.locals)
 exf:∀b∈X.ex,b≠X.env.locals /\ ∀x c,X.env.cells.lookup x=some c->c≠b
 bs:∀b o,X.base.get? b=some o->X.s₀.heap.get? b=some o/\X.H₀ b=none
 bsz:X.base.objs.size<=X.s₀.heap.objs.size
 noex:∀b o,X.base.get? b=some o->b∉X.ex
 exfs:∀b∈X.ex,b∉X.fs
 funs:X.s₀.heap.FunFrames X.base X.outer
 frf:∀b∈X.fs,X.H₀ b=none
structure Inv(X:Cx)(pins:List (Addr×Obj))(σ:List (Option V))(H:Hp)(s:Shared):Prop where
 ok:X.Ok
 os:s.os=X.s₀.os
 bare:AllBare s.gens
 base:Un X.fs X.ex X.H₀ H X.s₀.heap s.heap
 loc:∃m,s.heap.Ns X.env.locals m /\ ∀(i:Nat) (x:Str) (v:V),X.N[i]?=some x->σ[i]?=some (some v)->Vis X.env.scope x->∃u,RelV v u/\Look X.env s.heap m x u
 cell:∀x c,X.env.cells.lookup x=some c->∃v,s.heap.IsCell c v
 free:H X.env.locals=none
 freeC:∀x c,X.env.cells.lookup x=some c->H c=none
 pin:∀p∈X.pn++pins,s.heap.get? p.1=some p.2/\H p.1=none/\p.1≠X.env.locals/\p.1∉X.fs /\ ∀v,p.2.data≠.cell v
 hok:HOk X.prog X.w H s.heap
 len:σ.length=X.N.length
section
variable {X:Cx}{pins:List (Addr×Obj)}{σ:List (Option V)}{H H':Hp}{s:Shared}{h':Heap}
theorem Cx.Ok.nofr(ok:X.Ok)(e:X.base.get? b=some o):b∉X.fs:=λhb=>by
 have:=(ok.funs.mem hb).1
 grind
theorem Inv.bs(I:Inv X pins σ H s):∀b o,X.base.get? b=some o->s.heap.get? b=some o/\H b=none:=λb o e=>
 ⟨I.base.keep b o (I.ok.bs b o e).1 (I.ok.bs b o e).2 (I.ok.nofr e) (I.ok.noex b o e),I.base.free b o (I.ok.bs b o e).1 (I.ok.bs b o e).2 (I.ok.noex b o e)⟩
theorem Inv.bk(I:Inv X pins σ H s):∀b o,X.base.get? b=some o->s.heap.get? b=some o:=λb o e=>(I.bs b o e).1
theorem Inv.mod(I:Inv X pins σ H s):Mod X.K X.mg X.base:=I.ok.mod
theorem Inv.kIn(I:Inv X pins σ H s):X.K.In s.heap:=I.ok.mod.kin.keeps I.bk
theorem Inv.lt(I:Inv X pins σ H s):6#5<0#8:=let ⟨_,hn,_⟩:=I.loc;hn.lt
theorem Inv.sz(I:Inv X pins σ H s):14#4<=0#8:=aD I.ok.above (aM I.lt)
theorem Inv.nofs(I:Inv X pins σ H s)(h:0#8<=a):a∉X.fs:=λhb=>by
 obtain⟨_,o,ho,_⟩:=I.ok.funs.mem hb;exact absurd (ao (ay ho) (aD I.sz h)) (bp _)
theorem Inv.cne(I:Inv X pins σ H s):∀x c,X.env.cells.lookup x=some c->c≠6#5:=λx c e z=>by
 obtain⟨v,o,ho,hd⟩:=I.cell x c e;obtain⟨m,⟨o',es,ep,Yq,VM,_⟩,_⟩:=I.loc
 grind
theorem Inv.funs(I:Inv X pins σ H s):s.heap.FunFrames X.base X.outer:=by
 have all:∀(l:List _),(∀b∈frs l,b∈X.fs)->X.s₀.heap.FunFrames X.base l->s.heap.FunFrames X.base l:=by
  intro l
  induction l with
  |nil=>intro _ _;trivial
  | cons env r ih=>
    intro hs hl;obtain⟨hk,⟨L,o,hf,hn,ho,hd⟩,hr⟩:=hl;have hL:=hs L (by unfold frs;simp_all);obtain⟨sl,e⟩:=I.base.slot L o ho (I.ok.frf L hL) hL λz=>I.ok.exfs L z hL;exact⟨hk,⟨L,_,hf,hn,e,hd⟩,ih (λb hb=>hs b (by unfold frs;rw[gF,hf];exact az _ hb)) hr⟩
 exact all _ (λ_ hb=>hb) I.ok.funs
theorem Inv.stack(I:Inv X pins σ H s):s.heap.FunFrames X.base 4#7:=by
 rcases I.ok.stk with e|⟨e,hf⟩
 .rw[e];exact I.funs
 .rw[e]
  obtain⟨m,hn,_⟩:=I.loc;refine .cons (by rw[I.ok.kind];decide) hf hn ?_ I.funs;exact Heap.get?_none_of_le (aD I.ok.bsz I.ok.above)
theorem Inv.stkSub(I:Inv X pins σ H s):∀b∈frs 4#7,b∈6#5::X.fs:=λb hb=>by
 rcases I.ok.stk with e|⟨e,hf⟩
 .grind
 .rw[e]at hb
  unfold frs at hb;rw[gF,hf]at hb;exact hb
theorem Inv.stkFree(I:Inv X pins σ H s):∀b∈frs 4#7,H b=none:=λb hb=>by
 rcases aI.mp (I.stkSub b hb) with e|hb
 .rw[e];exact I.free
 .obtain⟨_,o,ho,_⟩:=I.ok.funs.mem hb
  exact I.base.free b o ho (I.ok.frf b hb) λz=>I.ok.exfs b z hb
variable{g':Array GenState}{t':Nat}{d':Drawn}
theorem Inv.step{ch:List Addr}(I:Inv X pins σ H s)
  (XM:∀b∈ch,(b∈X.ex\/14#4<=b)/\b≠6#5/\18#6 /\ ∀p∈X.pn++pins,p.1≠b)
  (keep:∀b o,b≠6#5->b∉X.fs->b∉ch->s.heap.get? b=some o->H b=none->h'.get? b=some o)
  (slot:∀b o,b≠6#5->b∈X.fs->b∉ch->s.heap.get? b=some o->H b=none->∃sl,h'.get? b=some { o with slots:=sl }) (free:∀b o,b∉ch->s.heap.get? b=some o->H b=none->H' b=none)
  (there:∀b o,b∉ch->s.heap.get? b=some o->∃o',h'.get? b=some o')
  (tups:∀b xs,H b=some (.tup xs)->H' b=some (.tup xs)) (frzs:∀b o u,H b=some (.frz o u)->H' b=some (.frz o u)) (tbls:∀b ps,H b=some (.tbl ps)->∃more,H' b=some (.tbl (ps++more)))
  (ns:∀m,s.heap.Ns X.env.locals m->h'.Ns X.env.locals m) (hok:HOk X.prog X.w H' h') (hg:AllBare g'):
  Inv X pins σ H' { s with heap:=h',gens:=g',drawn:=d',toks:=t' }:=by
 have neL:∀b o,X.s₀.heap.get? b=some o->b≠6#5:=λb o e=>aG (ao (ay e) I.ok.above);have neC:∀b o,X.s₀.heap.get? b=some o->b∉X.ex->b∉ch:=λb o e hx hb=>by
  rcases (XM b hb).1 with z|z
  .exact hx z
  .exact absurd (ao (ay e) z) (bp _)
 have cellK:∀x c,X.env.cells.lookup x=some c->∀v,s.heap.IsCell c v->h'.IsCell c v:=λx c e v ⟨o,ho,hd⟩=>by
  have VZ:=λz=>(XM c z).2.2.1 x c e rfl;by_cases hc:c∈X.fs
  .obtain⟨sl,q⟩:=slot c o (I.cne x c e) hc VZ ho (I.freeC x c e)
   exact⟨_,q,hd⟩
  .exact⟨o,keep c o (I.cne x c e) hc VZ ho (I.freeC x c e),hd⟩
 refine⟨I.ok,I.os,hg,⟨λb o e n hb hx=>?_,λb o e n hb hx=>?_,λb o e n hx=>?_,λb o e hx=>?_,λb xs e=>tups b xs (I.base.tups b xs e),λb o xs e=>frzs b o xs (I.base.frzs b o xs e),λb ps e=>?_⟩,?_,λx c e=>?_,?_,λx c e=>?_,λp hp=>?_,hok,I.len⟩
 .exact keep b o (neL b o e) hb (neC b o e hx) (I.base.keep b o e n hb hx) (I.base.free b o e n hx)
 .obtain⟨sl,e1⟩:=I.base.slot b o e n hb hx
  obtain⟨XD,e2⟩:=slot b _ (neL b o e) hb (neC b o e hx) e1 (I.base.free b o e n hx);exact⟨_,e2⟩
 .obtain⟨o',e1⟩:=I.base.there b o e hx
  exact free b o' (neC b o e hx) e1 (I.base.free b o e n hx)
 .obtain⟨o',e1⟩:=I.base.there b o e hx
  exact there b o' (neC b o e hx) e1
 .obtain⟨m1,e1⟩:=I.base.tbls b ps e
  grind
 .obtain⟨m,hn,hl⟩:=I.loc
  refine⟨m,ns m hn,λi x v e1 e2 e3=>?_⟩;obtain⟨u,r,l⟩:=hl i x v e1 e2 e3;refine⟨u,r,?_⟩;rcases l with l | ⟨k,c,e,z⟩
  .exact .inl l
  .exact .inr ⟨k,c,e,cellK x c e _ z⟩
 .obtain⟨v,z⟩:=I.cell x c e
  exact⟨v,cellK x c e v z⟩
 .obtain⟨m,⟨o,_,_,ho,_⟩,_⟩:=I.loc
  exact free _ o (λz=>(XM _ z).2.1 rfl) ho I.free
 .obtain⟨v,o,ho,hd⟩:=I.cell x c e
  exact free c o (λz=>(XM c z).2.2.1 x c e rfl) ho (I.freeC x c e)
 .obtain⟨e,n,ne,nf,d⟩:=I.pin p hp
  have VZ:=λz=>(XM _ z).2.2.2 p hp rfl;exact⟨keep _ _ ne nf VZ e n,free _ _ VZ e n,ne,nf,d⟩
theorem Inv.un(I:Inv X pins σ H s)(u:Un X.fs [] H H' s.heap h')(hok:HOk X.prog X.w H' h'):Inv X pins σ H' { s with heap:=h',toks:=t' }:=by
 obtain⟨m,⟨o,es,ep,ho,r⟩,_⟩:=id I.loc;obtain⟨sl,hL⟩:=u.any ho I.free 0#3
 exact I.step (ch:= []) (λ_ z=>nomatch z) (λb o _ hb _ e n=>u.keep b o e n hb 0#3) (λb o _ hb _ e n=>u.slot b o e n hb 0#3) (λb o _ e n=>u.free b o e n 0#3) (λb o _ e=>u.there b o e 0#3) u.tups u.frzs u.tbls (λm' hm=>by
  obtain⟨o',Xk,ep',Yq,r'⟩:=hm;rw[ho]at Yq;cases Yq
  exact⟨_,_,_,hL,r'⟩) hok I.bare
theorem Inv.call{ch:List Addr}(I:Inv X pins σ H s)(u:Un (frs 4#7) ch H H' s.heap h')(hok:HOk X.prog X.w H' h')(hg:AllBare g')
  (XM:∀b∈ch,(b∈X.ex\/14#4<=b)/\b≠6#5/\18#6 /\ ∀p∈X.pn++pins,p.1≠b):
  Inv X pins σ H' { s with heap:=h',gens:=g',drawn:=d',toks:=t' }:=by
 obtain⟨m,⟨o,es,ep,ho,r⟩,_⟩:=id I.loc;obtain⟨sl,hL⟩:=u.any ho I.free λz=>(XM _ z).2.1 rfl
 exact I.step XM (λb o hL hb hc e n=>u.keep b o e n (λz=>(aI.mp (I.stkSub b z)).elim hL hb) hc) (λb o _ _ hc e n=>u.any e n hc) (λb o hc e n=>u.free b o e n hc) (λb o hc e=>u.there b o e hc) u.tups u.frzs u.tbls (λm' hm=>by
  obtain⟨o',Xk,ep',Yq,r'⟩:=hm;rw[ho]at Yq;cases Yq
  exact⟨_,_,_,hL,r'⟩) hok hg
theorem Inv.turned{it:Addr}(I:Inv X pins σ H s)(k:∀b o,b≠it->s.heap.get? b=some o->h'.get? b=some o)(hn:H it=none)(hL:it≠6#5)
  (h1:it∈X.ex\/14#4<=it) (h2:∀x c,X.env.cells.lookup x=some c->c≠it) (h3:∀p∈X.pn++pins,p.1≠it):Inv X pins σ H { s with heap:=h',toks:=t' }:=by
 refine I.step (ch:= [it]) (λb hb=>?_) (λb o _ _ hc e _=>k b o (λz=>hc (by simp[z])) e) (λb o _ _ hc e _=>⟨_,k b o (λz=>hc (by simp[z])) e⟩) (λ_ _ _ _ n=>n)
  (λb o hc e=>⟨o,k b o (λz=>hc (by simp[z])) e⟩) (λ_ _ e=>e) (λ_ _ _ e=>e) (λb ps e=>⟨#[],by rw[e];simp⟩) (λm hm=>?_) (λb u e=>?_) I.bare
 .have e:=by simpa using hb
  subst e;exact⟨h1,hL,h2,h3⟩
 .obtain⟨o,es,ep,ho,r⟩:=hm
  exact⟨o,es,ep,k _ o (cX hL) ho,r⟩
 .refine(I.hok b u e).stay (λc v hc q=>k c v ?_ q) (λ_ q=>q) λ_ _ q=>q
  grind
theorem Inv.tok(I:Inv X pins σ H s)(t:Nat):Inv X pins σ H { s with toks:=t }:=I.un Un.refl I.hok
theorem Inv.kept{t':Nat}(I:Inv X pins σ H s)(k:∀b u,s.heap.get? b=some u->h'.get? b=some u):Inv X pins σ H { s with heap:=h',toks:=t' }:=I.un (Un.kept k) (I.hok.kept k)
theorem Inv.laid{a:Addr}{o:HO}{t':Nat}(I:Inv X pins σ H s)(k:∀b u,s.heap.get? b=some u->h'.get? b=some u)(hp:0#8<=a)(new:fb X.prog X.w (upd H a o) h' a o):
  Inv X pins σ (upd H a o) { s with heap:=h',toks:=t' }:=I.un (Un.laid k hp (I.hok.fresh hp)) (I.hok.laid k hp new)
theorem Inv.write{x e:Addr}{o:HO}{t':Nat}(I:Inv X pins σ H s)(mu:Mut (H x))(he:e=x\/H e=some (.own x))(k:∀b u,b≠e->s.heap.get? b=some u->h'.get? b=some u)(VC:∃u,h'.get? e=some u)
  (new:fb X.prog X.w (upd H x o) h' x o):Inv X pins σ (upd H x o) { s with heap:=h',toks:=t' }:=I.un (Un.write mu he k VC) (I.hok.write mu he k VC new)
theorem Inv.weak{Y1:List (Option V)}(I:Inv X pins σ H s)(hl:Y1.length=σ.length)(w:∀(i:Nat) v,Y1[i]?=some (some v)->σ[i]?=some (some v)):Inv X pins Y1 H s:=
 ⟨I.ok,I.os,I.bare,I.base,let ⟨m,hn,f'⟩:=I.loc;⟨m,hn,λi x v e1 e2 e3=>f' i x v e1 (w i v e2) e3⟩,I.cell,I.free,I.freeC,I.pin,I.hok,hl.trans I.len⟩
theorem Inv.pins_of{WX:List (Addr×Obj)}(I:Inv X pins σ H s)(h:∀p∈WX,s.heap.get? p.1=some p.2/\H p.1=none/\p.1≠6#5/\p.1∉X.fs /\ ∀v,p.2.data≠.cell v):Inv X WX σ H s:=
 ⟨I.ok,I.os,I.bare,I.base,I.loc,I.cell,I.free,I.freeC,λp hp=>(dE.mp hp).elim (λz=>I.pin p (dw _ z)) (h p),I.hok,I.len⟩
variable{i:Nat}{x:Str}
theorem sv{N:List Str}(hN:N.Nodup){j:Nat}(a:N[i]?=some x)(b:N[j]?=some x):i=j:=by
 obtain⟨h1,e1⟩:=ah.mp a;obtain⟨h2,e2⟩:=ah.mp b;exact(List.getElem_inj hN).mp (e1.trans e2.symm)
variable{M:Model}{A:Around}{E:Value->Shared->Prop}{u:Value}{Q:Unit->Shared->Prop}
theorem vJ{v:V}(I:Inv X pins σ H s)(hN:X.N.Nodup)(hi:X.N[i]?=some x)(hx:Loc X.env.scope x)(r:RelV v u)
  (h:∀s',Inv X pins (σ.set i (some v)) H s'->(∃a,cU a s.heap s'.heap/\(a=6#5\/X.env.cells.lookup x=some a))->Q () s') (hf:autoParam 16#8 au4._auto_1):aC M A (storeName X.env x u) Q E s:=by
 obtain⟨m,hn,hl⟩:=id I.loc;have XX:(X.env.scope.kind==.class||(X.env.scope.kind==.module&&6#5 != X.env.globals))=false:=by rw[I.ok.kind];rfl
 have X6:i<σ.length:=by rw[I.len];exact(ah.mp hi).1
 have cne:=I.cne;have tracked:∀{a:Addr}{h':Heap},(∃o,s.heap.get? a=some o/\H a=none)->cU a _ h'->HOk _ _ H h':=λ{a h'} ha hs b ob e=>by
  obtain⟨_,_,hfree⟩:=ha;refine(I.hok b ob e).stay (λc w' hc q=>(hs.2 c ?_).trans q) (λ_ q=>q) λ_ _ q=>q
  grind
 rcases hx with hk|hk
 .refine wpAny_storeName_local hk hn (λh' V1 hs=>?_) XX
  obtain⟨oL,_,_,XJ,_⟩:=id hn;refine h _ ⟨I.ok,I.os,I.bare,⟨λb o e n hb hx=>?_,λb o e n hb hx=>?_,I.base.free,λb o e hx=>?_,I.base.tups,I.base.frzs,I.base.tbls⟩,⟨_,V1,λj y v' e1 e2 e3=>?_⟩,λy c e=>?_,I.free,I.freeC,λp hp=>?_,tracked ⟨oL,XJ,I.free⟩ hs,by simpa using I.len⟩ ⟨_,hs,.inl rfl⟩
  .exact(hs.2 b (aG (ao (ay e) I.ok.above))).trans (I.base.keep b o e n hb hx)
  .obtain⟨sl,e1⟩:=I.base.slot b o e n hb hx
   exact⟨sl,(hs.2 b (aG (ao (ay e) I.ok.above))).trans e1⟩
  .obtain⟨o',e1⟩:=I.base.there b o e hx
   exact⟨o',(hs.2 b (aG (ao (ay e) I.ok.above))).trans e1⟩
  .by_cases hj:j=i
   .subst hj
    rw[hi]at e1;cases e1;rw[aJ X6]at e2;cases e2;exact⟨u,r,.inl ⟨hk,by simp⟩⟩
   .rw[aE (cX hj)]at e2
    obtain⟨u',r',q⟩:=hl j y v' e1 e2 e3;refine⟨u',r',?_⟩;rcases q with⟨k,e⟩|⟨k,c,e,z⟩
    .refine .inl ⟨k,?_⟩
     have:y≠x:=λe=>hj (sv hN e1 (e▸hi))<;>simp_all
    .exact .inr ⟨k,c,e,z.sameBut hs (cne y c e)⟩
  .obtain⟨w',z⟩:=I.cell y c e
   exact⟨w',z.sameBut hs (cne y c e)⟩
  .obtain⟨e,n,ne,nf,d⟩:=I.pin p hp
   exact⟨(hs.2 _ ne).trans e,n,ne,nf,d⟩
 .have YJ:X.fn x=true:=by
   grind
  obtain⟨c,hc⟩:=I.ok.has x (.inl hk);obtain⟨w',z⟩:=I.cell x c hc;refine wpAny_storeName_cell I.ok.kind hk hc z (λh' VI hs=>?_);obtain⟨oc,Za,hocd⟩:=id z;refine h _ ⟨I.ok,I.os,I.bare,⟨λb o e n hb hx=>?_,λb o e n hb hx=>?_,I.base.free,λb o e hx=>?_,I.base.tups,I.base.frzs,I.base.tbls⟩,⟨m,hn.sameBut hs (cX (cne x c hc)),λj y v' e1 e2 e3=>?_⟩,λy c' e=>?_,I.free,I.freeC,λp hp=>?_,tracked ⟨oc,Za,I.freeC x c hc⟩ hs,by simpa using I.len⟩ ⟨c,hs,.inr hc⟩
  .exact(hs.2 b (aG (ao (ay e) (I.ok.cab x c YJ hc)))).trans (I.base.keep b o e n hb hx)
  .obtain⟨sl,e1⟩:=I.base.slot b o e n hb hx
   exact⟨sl,(hs.2 b (aG (ao (ay e) (I.ok.cab x c YJ hc)))).trans e1⟩
  .obtain⟨o',e1⟩:=I.base.there b o e hx
   exact⟨o',(hs.2 b (aG (ao (ay e) (I.ok.cab x c YJ hc)))).trans e1⟩
  .by_cases hj:j=i
   .subst hj
    rw[hi]at e1;cases e1;rw[aJ X6]at e2;cases e2;exact⟨u,r,.inr ⟨.inl hk,c,hc,VI⟩⟩
   .rw[aE (cX hj)]at e2
    obtain⟨u',r',q⟩:=hl j y v' e1 e2 e3;refine⟨u',r',?_⟩;rcases q with q|⟨k,c',e,z'⟩
    .exact .inl q
    .refine .inr ⟨k,c',e,z'.sameBut hs ?_⟩
     rintro rfl;exact hj (sv hN e1 (I.ok.inj _ _ _ e hc▸hi))
  .by_cases Tf:c'=c
   .subst Tf;exact⟨_,VI⟩
   .obtain⟨w2,z2⟩:=I.cell y c' e
    exact⟨w2,z2.sameBut hs Tf⟩
  .obtain⟨e,n,ne,nf,d⟩:=I.pin p hp
   refine⟨(hs.2 _ ?_).trans e,n,ne,nf,d⟩;intro q<;>simp_all
theorem i9{v:V}(I:Inv X pins σ H s)(hN:X.N.Nodup)(hi:X.N[i]?=some x)(hx:Loc X.env.scope x)(r:RelV v u)
  (h:∀s',Inv X pins (σ.set i (some v)) H s'->Q () s') (hf:autoParam 16#8 au4._auto_1):aC M A (storeName X.env x u) Q E s:=
 vJ I hN hi hx r (λs' I' _=>h s' I') hf
theorem Inv.call'{s':Shared}{ch:List Addr}(I:Inv X pins σ H s)(ho:s'.os=s.os)(u:Un (frs 4#7) ch H H' s.heap s'.heap)(hok:HOk X.prog X.w H' s'.heap)(hg:AllBare s'.gens)
  (XM:∀b∈ch,(b∈X.ex\/14#4<=b)/\b≠6#5/\18#6 /\ ∀p∈X.pn++pins,p.1≠b):Inv X pins σ H' s':=by
 obtain⟨h',g',d',t',o'⟩:=s';have e:=ho;subst e;exact I.call u hok hg XM
end
abbrev XK:=Value->Option Addr->Hp->Prop
abbrev St:=List (Option V)
abbrev VK:=V->Hp->Prop
abbrev TE:=St->Hp->VK->Prop
abbrev TT:=St->Hp->(Bool->Hp->Prop)->Prop
abbrev TA:=St->Hp->(List V->Hp->Prop)->Prop
structure Ends where
 nx:St->Hp->Prop
 rt:VK
 bk:St->Hp->Prop:=λ_ _=>False
 ct:St->Hp->Prop:=λ_ _=>False
abbrev TS:=Ends->St->Hp->Prop
def EP(X:Cx)(pins:List 2#2)(σ:St)(Q:VK)(u:Value)(s':Shared):Prop:= ∃v H',Inv X pins σ H' s'/\RelV v u/\Q v H'
def TP(X:Cx)(pins:List 2#2)(σ:St)(Q:Bool->Hp->Prop)(b:Bool)(s':Shared):Prop:= ∃H',Inv X pins σ H' s'/\Q b H'
def AP(X:Cx)(pins:List 2#2)(σ:St)(Q:List V->Hp->Prop)(us:List Value)(s':Shared):Prop:= ∃vs H',Inv X pins σ H' s'/\cm vs us/\Q vs H'
def SP(X:Cx)(pins:List 2#2)(D:Ends)(f:Flow)(s':Shared):Prop:=
 match f with
 |.next=>∃Y1 H',Inv X pins Y1 H' s'/\D.nx Y1 H'
 |.brk=>∃Y1 H',Inv X pins Y1 H' s'/\D.bk Y1 H'
 |.cont=>∃Y1 H',Inv X pins Y1 H' s'/\D.ct Y1 H'
 |.ret u=>∃v Y1 H',Inv X pins Y1 H' s'/\RelV v u/\D.rt v H'
def PE(X:Cx)(e:Expr)(t:TE):Prop:=
 ∀(pins:List 2#2) (s:Shared) (σ:St) (H:Hp) (Q:VK),Inv X pins σ H s->t σ H Q->aC 1#2 X.A (eval e X.env) 8#4 X.xe s
def PT(X:Cx)(e:Expr)(t:TT):Prop:=
 ∀(pins:List 2#2) (s:Shared) (σ:St) (H:Hp) (Q:Bool->Hp->Prop),Inv X pins σ H s->t σ H Q->aC 1#2 X.A (isTrue e X.env (eval e X.env)) (TP X pins σ Q) X.xe s
def PW(X:Cx)(e:Expr)(t:TT):Prop:=
 ∀(whole:Sem Value) (pins:List 2#2) (s:Shared) (σ:St) (H:Hp) (Q:Bool->Hp->Prop),Inv X pins σ H s->t σ H Q->aC 1#2 X.A (isTrue e X.env whole) (TP X pins σ Q) X.xe s
variable{X:Cx}{e:Expr}
theorem PW.pt{t:TT}(h:PW X e t):PT X e t:=h _
def PA(X:Cx)(es:List Expr)(t:TA):Prop:=
 ∀(pos:Pos) (pins:List 2#2) (s:Shared) (σ:St) (H:Hp) (Q:List V->Hp->Prop),Inv X pins σ H s->t σ H Q->aC 1#2 X.A (spliced (backTo pos 14#1)) (AP X pins σ Q) X.xe s
def PS(X:Cx)(st:Stmt)(t:TS):Prop:=
 ∀(pins:List 2#2) (s:Shared) (σ:St) (H:Hp) (D:Ends),Inv X pins σ H s->t D σ H->aC 1#2 X.A (exec st X.env) (SP X pins D) X.xe s
def PSs(X:Cx)(st:List Stmt)(t:TS):Prop:=
 ∀(pins:List 2#2) (s:Shared) (σ:St) (H:Hp) (D:Ends),Inv X pins σ H s->t D σ H->aC 1#2 X.A (execs st X.env) (SP X pins D) X.xe s
variable{M:Model}{A:Around}{E:Value->Shared->Prop}
theorem thn{α:Type}{t:Sem α}{Q Q':α->Shared->Prop}{s:Shared}(h:aC M A t Q E s)(hQ:∀a s,Q a s->Q' a s):aC M A t Q' E s:=bG h hQ λ_ _ x=>x
section
variable {X:Cx}
def PR(i:Nat):TE:=λσ H Q=>∃v,σ[i]?=some (some v)/\Q v H
def tC(v:V):TE:=λ_ H Q=>Q v H
variable{x:Str}
theorem rO{i:Nat}{pos:Pos}(hN:X.N[i]?=some x)(hv:Vis X.env.scope x)(hd:autoParam (7#4=false) 9#2)(ZF:autoParam (17#3=false) 9#2):PE X (.Name x pos) (PR i):=by
 intro pins s σ H Q I h;obtain⟨v,e,h⟩:=h;obtain⟨m,hn,hl⟩:=I.loc;obtain⟨u,r,l⟩:=hl i x v hN e hv;have fin:EP X _ σ Q u s:=⟨v,H,I,r,h⟩;rcases l with⟨hk,hm⟩|⟨hk,c,hc,Zc⟩
 .exact wpAny_Name (wpAny_loadName_local I.ok.kind hk hn hm fin) hd
 .rcases hk with hk|hk
  .exact wpAny_Name (wpAny_loadName_cell I.ok.kind hk hc Zc fin) hd
  .exact wpAny_Name (wpAny_loadName_free I.ok.kind hk hc Zc fin ZF) hd
theorem E9{i j pos}:PE X (.Constant (.int i) j pos) (tC (.int i)):=λ_ _ _ H _ I h=>wpAny_Constant_int ⟨.int i,H,I.tok _,⟨_,rfl⟩,h⟩
theorem MZ{b j pos}:PE X (.Constant (.bool b) j pos) (tC (.bl b)):=λ_ _ _ H _ I h=>Constant_bool ⟨.bl b,H,I,rfl,h⟩
theorem Mz{j pos}:PE X (.Constant .none j pos) (tC .non):=λ_ _ _ H _ I h=>Constant_none ⟨.non,H,I,rfl,h⟩
theorem EM{x j pos}:PE X (.Constant (.str x) j pos) (tC (.str x)):=λ_ _ _ H _ I h=>rg ⟨.str x,H,I.tok _,⟨_,rfl⟩,h⟩
def Gl(X:Cx)(x:Str):Prop:=X.env.kindOf x=some .globalImplicit
variable{pins:List (Addr×Obj)}{s:Shared}{σ:St}{u:Value}{Q:Value->Shared->Prop}
theorem iW{pos:Pos}(I:Inv X pins σ H s)(hg:Gl X x)(hm:X.mg x=some u)(h:Q u s)
  (hd:autoParam (7#4=false) 9#2):aC 1#2 X.A (eval (.Name x pos) X.env) Q E s:=
 zx I.ok.kind hg (Calls.loadGlobal_global (by rw[I.ok.glob];exact I.mod.glob.keeps I.bk) hm h) hd
theorem gG{pos:Pos}(I:Inv X pins σ H s)(hg:Gl X x)(hm:X.mg x=none)(hv:bootBuiltins x=some u)(h:Q u s)
  (hn:autoParam (x≠"__name__") 9#2) (hd:autoParam (7#4=false) 9#2):aC 1#2 X.A (eval (.Name x pos) X.env) Q E s:=by
 obtain⟨mb,h1,h2⟩:=I.mod.blt;exact zx I.ok.kind hg (Calls.loadGlobal_builtin (by rw[I.ok.glob];exact I.mod.glob.keeps I.bk) hm (by rw[I.ok.blt];exact h1.keeps I.bk) ((h2 x hn).trans hv) h) hd
theorem IS{v:V}{pos:Pos}(hg:Gl X x)(hm:X.mg x=some u)(r:RelV v u)(hd:autoParam (7#4=false) 9#2):PE X (.Name x pos) (tC v):=
 λ_ _ _ H _ I h=>iW I hg hm ⟨v,H,I,r,h⟩ hd
theorem Iy{v:V}{pos:Pos}(hg:Gl X x)(hm:X.mg x=none)(hv:bootBuiltins x=some u)(r:RelV v u)(hn:autoParam (x≠"__name__") 9#2)(hd:autoParam (7#4=false) 9#2):PE X (.Name x pos) (tC v):=
 λ_ _ _ H _ I h=>gG I hg hm hv ⟨v,H,I,r,h⟩ hn hd
variable {a b:Expr}{ta tb:TE}{pos:Pos}
def tB(t:TE):TT:=λσ H Q=>t σ H λx H1=>∃c,x=.bl c/\Q c H1
theorem LA{t:TE}(h:PE X e t)(he:autoParam (∀whole,isTrue e X.env whole=(do let v <- whole;standAt e.pos;holding [v] (truthy v))) au3._auto_1):PT X e (tB t):=by
 intro pins s σ H Q I hw;refine isTrue_plain (thn (h _ s σ H _ I hw) λv s1 ⟨x,H1,I1,r1,q1⟩=>?_) (he _);obtain⟨d,rfl,q⟩:=q1;cases r1;exact dI ⟨H1,I1,q⟩
variable {tA Vj:TT}{rest:List Expr}
def NI(t u:TT):TT:=λσ H Q=>t σ H λc H1=>if c=true then u σ H1 Q else Q false H1
def tOr(t u:TT):TT:=λσ H Q=>t σ H λc H1=>if c=true then Q true H1 else u σ H1 Q
def Oj(t:TT):TT:=λσ H Q=>t σ H λc H1=>Q (!c) H1
theorem IT(ha:PT X a tA):PW X (.BoolOp .And [a] pos) tA:=by
 intro wh pins s σ H Q I h;refine isTrue_and (thn (ha _ s σ H Q I h) λc s1 e=>?_);cases c with
 |true=>exact isTrue_and_nil e
 |false=>exact e
theorem KC(ha:PT X a tA):PW X (.BoolOp .Or [a] pos) tA:=by
 intro wh pins s σ H Q I h;refine isTrue_or (thn (ha _ s σ H Q I h) λc s1 e=>?_);cases c with
 |false=>exact isTrue_or_nil e
 |true=>exact e
theorem Ky(ha:PT X a tA)(hb:PW X (.BoolOp .And (b::rest) pos) Vj):PW X (.BoolOp .And (a::b::rest) pos) (NI tA Vj):=by
 intro wh pins s σ H Q I h;refine isTrue_and (thn 11#0 λc s1 ⟨H1,I1,q1⟩=>?_);cases c with
 |true=>exact hb wh _ s1 σ H1 Q I1 q1
 |false=>exact⟨H1,I1,q1⟩
theorem OV(ha:PT X a tA)(hb:PW X (.BoolOp .Or (b::rest) pos) Vj):PW X (.BoolOp .Or (a::b::rest) pos) (tOr tA Vj):=by
 intro wh pins s σ H Q I h;refine isTrue_or (thn 11#0 λc s1 ⟨H1,I1,q1⟩=>?_);cases c with
 |true=>exact⟨H1,I1,q1⟩
 |false=>exact hb wh _ s1 σ H1 Q I1 q1
theorem Mu(ha:PT X a tA):PT X (.UnaryOp .Not a pos) (Oj tA):=by
 intro pins s σ H Q I h;exact isTrue_not 11#0
def J6(ta tb:TE):TE:=λσ H Q=>ta σ H λx H1=>∃c,x=.bl c/\if c=true then tb σ H1 Q else Q (.bl false) H1
def OT(ta tb:TE):TE:=λσ H Q=>ta σ H λx H1=>∃c,x=.bl c/\if c=true then Q (.bl true) H1 else tb σ H1 Q
def J4(ta:TE):TE:=λσ H Q=>ta σ H λx H1=>∃c,x=.bl c/\Q (.bl (!c)) H1
theorem LP{op}{t:TE}(h:PE X a t):PE X (.BoolOp op [a] pos) t:=λpins s σ H Q I hw=>BoolOp_one (h _ s σ H Q I hw)
theorem Lj(ha:PE X a ta)(hb:PE X (.BoolOp .And (b::rest) pos) tb):PE X (.BoolOp .And (a::b::rest) pos) (J6 ta tb):=by
 intro pins s σ H Q I h;refine BoolOp_and (thn 11#0 λv s1 ⟨x,H1,I1,r1,q1⟩=>?_);obtain⟨c,rfl,q1⟩:=q1;cases r1;refine dI ?_;cases c with
 |true=>exact hb _ s1 σ H1 Q I1 q1
 |false=>exact⟨.bl _,H1,I1,rfl,q1⟩
theorem Pj(ha:PE X a ta)(hb:PE X (.BoolOp .Or (b::rest) pos) tb):PE X (.BoolOp .Or (a::b::rest) pos) (OT ta tb):=by
 intro pins s σ H Q I h;refine BoolOp_or (thn 11#0 λv s1 ⟨x,H1,I1,r1,q1⟩=>?_);obtain⟨c,rfl,q1⟩:=q1;cases r1;refine dI ?_;cases c with
 |false=>exact hb _ s1 σ H1 Q I1 q1
 |true=>exact⟨.bl _,H1,I1,rfl,q1⟩
theorem Kx(ha:PE X a ta):PE X (.UnaryOp .Not a pos) (J4 ta):=by
 intro pins s σ H Q I h;refine UnaryOp_ (thn 11#0 λv s1 ⟨x,H1,I1,r1,q1⟩=>?_);obtain⟨c,rfl,q1⟩:=q1;cases r1;exact not_of (dI ⟨.bl _,H1,I1,rfl,q1⟩)
def tIf(t:TT)(ta tb:TE):TE:=λσ H Q=>t σ H λc H1=>if c=true then ta σ H1 Q else tb σ H1 Q
theorem FS{c:Expr}(hc:PT X c tA)(ha:PE X a ta)(hb:PE X b tb):PE X (.IfExp c a b pos) (tIf tA ta tb):=by
 intro pins s σ H Q I h;refine wpAny_IfExp (thn (hc _ s σ H _ I h) λd s1 ⟨H1,I1,q1⟩=>?_);cases d with
 |true=>exact ha _ s1 σ H1 Q I1 q1
 |false=>exact hb _ s1 σ H1 Q I1 q1
end
def SqL(K:aj)(H:Hp)(a:Addr)(xs:List V):Prop:=
 Rd H a (.lst xs) \/
  ∃ (o:Obj) (ZZ:Array Value) (n:Nat),K.lookup a=some o/\o.cls=.type "list"/\o.dict=none/\o.data=.seq ZZ n/\ZZ.size<=sizeLine/\cm xs ZZ.toList
def SqT(K:aj)(H:Hp)(a:Addr)(xs:List V):Prop:=
 Rd H a (.tup xs) \/
  ∃ (o:Obj) (ZZ:Array Value) (n:Nat),K.lookup a=some o/\o.cls=.type "tuple"/\o.data=.seq ZZ n/\ZZ.size<=sizeLine/\cm xs ZZ.toList
def QM:Value->Option V
 |.none=>some .non
 |.bool b=>some (.bl b)
 |.int i _=>some (.int i)
 |.str x _=>some (.str x)
 |.bytes b _=>some (.byt b)
 |.float b _=>some (.flt b)
 |.ref a=>some (.ref a)
 |.type n=>some (.ty n)
 |_=>none
variable{u:Value}{x:V}
theorem RelV.abs(r:RelV x u):QM u=some x:=by
 cases x with
 |non=>cases r;rfl
 |bl _=>cases r;rfl
 |int _=>obtain⟨t,rfl⟩:=r;rfl
 |str _=>obtain⟨t,rfl⟩:=r;rfl
 |byt _=>obtain⟨t,rfl⟩:=r;rfl
 |flt _=>obtain⟨t,rfl⟩:=r;rfl
 |ref _=>cases r;rfl
 |ty _=>cases r;rfl
theorem RelV.inj{y:V}(r:RelV x u)(q:RelV y u):x=y:=dO (r.abs.symm.trans q.abs)
theorem cm.inj:∀{xs ys:List V}{us:List Value},cm xs us->cm ys us->xs=ys:=by
 intro xs ys us h
 induction h generalizing ys with
 |nil=>intro q;cases q;rfl
 |cons r t ih=>intro q;cases q with |cons r' t'=>rw[r.inj r',ih t']
section
variable {X:Cx}{pins:List (Addr×Obj)}{σ:St}{H:Hp}{s:Shared}{a:Addr}{xs ys:List V}
theorem SqL.of{K:aj}(h:H a=some (.lst xs)):SqL K H a xs:= .inl (.inl h)
theorem Inv.list(I:Inv X pins σ H s)(h:SqL X.K H a xs):∃ZZ:List Value,cm xs ZZ/\PlainL s.heap a ZZ.toArray/\1#4<=sizeLine:=by
 rcases h with h|⟨o,ZZ,n,hk,hc,hd,hs,hz,r⟩
 .obtain⟨z,ZZ,n,r,e⟩:=h.ok I.hok
  exact⟨_,r,⟨_,n,e,rfl,rfl,rfl⟩,z⟩
 .refine⟨_,r,⟨o,n,I.kIn a o hk,hc,hd,by omega⟩,?_⟩
  have e:=9#3
  grind
theorem Inv.tuple(I:Inv X pins σ H s)(h:SqT X.K H a xs):∃ZZ:List Value,cm xs ZZ/\IsTup s.heap a ZZ.toArray/\1#4<=sizeLine:=by
 rcases h with h|⟨o,ZZ,n,hk,hc,hs,hz,r⟩
 .obtain⟨z,ZZ,r,p⟩:=h.ok I.hok
  exact⟨_,r,p.1,z⟩
 .refine⟨_,r,⟨o,I.kIn a o hk,hc,n,by omega⟩,?_⟩
  have e:=9#3
  simp_all
theorem Inv.list_inj(I:Inv X pins σ H s)(h:SqL X.K H a xs)(h':SqL X.K H a ys):xs=ys:=by
 obtain⟨ZZ,r,⟨o,n,e,_,_,d⟩,_⟩:=I.list h;obtain⟨its',r',⟨o',n',e',_,_,d'⟩,_⟩:=I.list h';have:ZZ=its':=by grind
 subst this;exact r.inj r'
theorem Inv.tuple_inj(I:Inv X pins σ H s)(h:SqT X.K H a xs)(h':SqT X.K H a ys):xs=ys:=by
 obtain⟨ZZ,r,⟨o,e,_,n,d⟩,_⟩:=I.tuple h;obtain⟨its',r',⟨o',e',_,n',d'⟩,_⟩:=I.tuple h';have:ZZ=its':=by grind
 subst this;exact r.inj r'
end
abbrev Cx.wish(X:Cx)(E:Value->Shared->Prop):Cx:={ X with xe:=E }
abbrev Cx.nox(X:Cx):Cx:=X.wish λ_ _=>False
theorem Cx.Ok.wish(ok:X.Ok)(E:Value->Shared->Prop):(X.wish E).Ok:=
 ⟨ok.mod,ok.kind,ok.glob,ok.blt,ok.above,ok.inj,ok.has,ok.cab,ok.hd,ok.frames,ok.stk,ok.exf,ok.bs,ok.bsz,ok.noex,ok.exfs,ok.funs,ok.frf⟩
theorem Cx.Ok.unwish(ok:(X.wish E).Ok):X.Ok:=
 ⟨ok.mod,ok.kind,ok.glob,ok.blt,ok.above,ok.inj,ok.has,ok.cab,ok.hd,ok.frames,ok.stk,ok.exf,ok.bs,ok.bsz,ok.noex,ok.exfs,ok.funs,ok.frf⟩
section
variable {X:Cx}{pins:List (Addr×Obj)}{σ:St}{H:Hp}{s:Shared}{E:Value->Shared->Prop}
theorem Inv.wish(I:Inv X pins σ H s)(E:Value->Shared->Prop):Inv (X.wish E) pins σ H s:=⟨I.ok.wish E,I.os,I.bare,I.base,I.loc,I.cell,I.free,I.freeC,I.pin,I.hok,I.len⟩
theorem Inv.unwish(I:Inv (X.wish E) pins σ H s):Inv X pins σ H s:=⟨I.ok.unwish,I.os,I.bare,I.base,I.loc,I.cell,I.free,I.freeC,I.pin,I.hok,I.len⟩
theorem SP.unwish{D:Ends}{f:Flow}{s':Shared}(h:SP (X.wish E) pins D f s'):SP X pins D f s':=by
 cases f with
 |next=>obtain⟨Y1,H',I,q⟩:=h;exact⟨_,H',I.unwish,q⟩
 |brk=>obtain⟨Y1,H',I,q⟩:=h;exact⟨_,H',I.unwish,q⟩
 |cont=>obtain⟨Y1,H',I,q⟩:=h;exact⟨_,H',I.unwish,q⟩
 |ret u=>obtain⟨v,Y1,H',I,r,q⟩:=h;exact⟨v,_,H',I.unwish,r,q⟩
theorem PE.nox{t:TE}(h:PE X.nox e t):PE X e t:=λpins s σ H Q I hw=>
 bG (h _ s σ H Q (I.wish _) hw) (λ_ _ ⟨v,H',I',r,q⟩=>⟨v,H',I'.unwish,r,q⟩) λ_ _ z=>bH z
theorem PT.nox{t:TT}(h:PT X.nox e t):PT X e t:=λpins s σ H Q I hw=>
 bG (h _ s σ H Q (I.wish _) hw) (λ_ _ ⟨H',I',q⟩=>⟨H',I'.unwish,q⟩) λ_ _ z=>bH z
theorem PSs.nox{st:List Stmt}{t:TS}(h:PSs X.nox st t):PSs X st t:=λpins s σ H D I hw=>
 bG (h _ s σ H D (I.wish _) hw) (λ_ _ q=>q.unwish) λ_ _ z=>bH z
end
section
variable {X:Cx}{st:Stmt}{rest:List Stmt}{t u:TS}{e:Expr}{te:TE}{pos:Pos}
def FQ:TS:=λD σ H=>D.nx σ H
def Oe(t u:TS):TS:=λD σ H=>t { D with nx:=u D } σ H
theorem Jc:PSs X [] FQ:=λ_ _ σ H _ I h=>iI ⟨σ,H,I,h⟩
theorem lM(h1:PS X st t)(h2:PSs X rest u):PSs X (st::rest) (Oe t u):=by
 intro pins s σ H D I h;refine AO (thn (h1 _ s σ H _ I h) λf s1 q=>?_);cases f with
 | next=>
   obtain⟨Y1,H',I',q⟩:=q;exact h2 _ s1 _ H' D I' q
 |ret v=>exact q
 |brk=>exact q
 |cont=>exact q
theorem wF(h1:PS X st t):PSs X [st] t:=by
 intro pins s σ H D I h;refine AO (thn (h1 _ s σ H D I h) λf s1 q=>?_);cases f with
 |next=>exact iI q
 |ret v=>omega
 |brk=>omega
 |cont=>omega
def Kf:TS:=λD σ H=>D.bk σ H
def OX:TS:=λD σ H=>D.ct σ H
theorem Hc:PS X (.Pass pos) FQ:=λ_ _ σ H _ I h=>wpAny_Pass ⟨σ,H,I,h⟩
theorem Dt:PS X (.Break pos) Kf:=λ_ _ σ H _ I h=>wpAny_Break ⟨σ,H,I,h⟩
theorem yu:PS X (.Continue pos) OX:=λ_ _ σ H _ I h=>wpAny_Continue ⟨σ,H,I,h⟩
theorem Inv.quiet{pins:List (Addr×Obj)}{σ:St}{s:Shared}(I:Inv X pins σ H s):interactive X.env=false:=by simp[interactive,I.ok.kind]
def Jt(te:TE):TS:=λD σ H=>te σ H λ_ H1=>D.nx σ H1
theorem BI(he:PE X e te)(hs:autoParam (swapsWith e none pos.line X.env=pure false) 1#7):PS X (.Expr e pos) (Jt te):=by
 intro pins s σ H D I h;exact wpAny_Expr_any (thn (he _ s σ H _ I h) λv s1 ⟨x,H1,I1,r1,q1⟩=>⟨σ,H1,I1,q1⟩) I.quiet hs
def PN(te:TE):TS:=λD σ H=>te σ H D.rt
theorem FZ(he:PE X e te):PS X (.Return (some e) pos) (PN te):=by
 intro pins s σ H D I h;exact wpAny_Return_some (thn (he _ s σ H _ I h) λv s1 ⟨x,H1,I1,r1,q1⟩=>⟨x,σ,H1,I1,r1,q1⟩)
def PL:TS:=λD _ H=>D.rt .non H
theorem I0:PS X (.Return none pos) PL:=λ_ _ σ H _ I h=>wpAny_Return_none ⟨.non,σ,H,I,rfl,h⟩
def OA(c:TT)(t u:TS):TS:=λD σ H=>c σ H λb H1=>if b=true then t D σ H1 else u D σ H1
theorem JQ{c:Expr}{a b:List Stmt}{tc:TT}(hc:PT X c tc)(ha:PSs X a t)(hb:PSs X b u):PS X (.If c a b pos) (OA tc t u):=by
 intro pins s σ H D I h;refine wpAny_If (thn (hc _ s σ H _ I h) λd s1 ⟨H1,I1,q1⟩=>?_);cases d with
 |true=>exact ha _ s1 σ H1 D I1 q1
 |false=>exact hb _ s1 σ H1 D I1 q1
end
abbrev TG:=V->St->Hp->(St->Hp->Prop)->Prop
abbrev TGs:=List V->St->Hp->(St->Hp->Prop)->Prop
def PG(X:Cx)(target:Expr)(t:TG):Prop:=
 ∀(pins:List 2#2) (s:Shared) (σ:St) (H:Hp) (v:V) (u:Value) (Q:St->Hp->Prop),Inv X pins σ H s->RelV v u->t v σ H Q ->
  aC 1#2 X.A (assign target X.env u) (λ_ s'=>∃Y1 H',Inv X pins Y1 H' s'/\Q Y1 H') X.xe s
def PGs(X:Cx)(ts:List Expr)(t:TGs):Prop:=
 ∀(pins:List 2#2) (s:Shared) (σ:St) (H:Hp) (vs:List V) (us:List Value) (Q:St->Hp->Prop),Inv X pins σ H s->cm vs us->t vs σ H Q ->
  aC 1#2 X.A (assignInOrder ((assignEach ts X.env).map (·.2)) us) (λ_ s'=>∃Y1 H',Inv X pins Y1 H' s'/\Q Y1 H') X.xe s
abbrev Fk:=V->V->V->Hp->(Hp->Prop)->Prop
def Kz(X:Cx)(t:Fk):Prop:=
 ∀(pins:List 2#2) (s:Shared) (σ:St) (H:Hp) (o i v:V) (ov iv u:Value) (Q:Hp->Prop),Inv X pins σ H s->RelV o ov->RelV i iv->RelV v u->t o i v H Q ->
  aC 1#2 X.A (setItem ov iv u) (λ_ s'=>∃H',Inv X pins σ H' s'/\Q H') X.xe s
section
variable {X:Cx}{pos:Pos}
def iR(i:Nat):TG:=λv σ H Q=>Q (σ.set i (some v)) H
variable{i:Nat}
theorem BC{x:Str}(hN:X.N.Nodup)(hi:X.N[i]?=some x)(hx:Loc X.env.scope x)(hf:autoParam 16#8 au4._auto_1):PG X (.Name x pos) (iR i):=by
 intro pins s σ H v u Q I r h;exact nu (i9 I hN hi hx r (λs' I'=>⟨_,H,I',h⟩) hf)
def Oq:TGs:=λvs σ H Q=>vs=[]/\Q σ H
def J8(t:TG)(u:TGs):TGs:=λvs σ H Q=>∃v r,vs=v::r/\t v σ H λY1 H'=>u r Y1 H' Q
theorem II:PGs X [] Oq:=by
 intro pins s σ H vs us Q I r h;obtain⟨e,h⟩:=h;exact assignInOrder_nil ⟨σ,H,I,h⟩
variable{es:List Expr}
theorem EH{t:TG}{u:TGs}(h1:PG X e t)(h2:PGs X es u)
  (hs:autoParam ((assignEach 1#9 X.env).map (·.2)=assign e X.env::(assignEach es X.env).map (·.2)) 1#7):PGs X 1#9 (J8 t u):=by
 intro pins s σ H vs us Q I r h;obtain⟨v,vr,e1,h⟩:=h;subst e1;cases r with
 | cons r rr=>
   rw[hs];refine assignInOrder_cons (thn (h1 _ s σ H _ _ _ I r h) λ_ s1 ⟨_,H1,I1,q1⟩=>?_);exact h2 _ s1 _ H1 _ _ Q I1 rr q1
def OC(K:aj)(n:Nat)(t:TGs):TG:=λv σ H Q=>∃a xs,v=.ref a/\SqT K H a xs/\1#4=n/\t xs σ H Q
theorem Kt{k:Nat}{t:TGs}{n:Nat}(hc:X.calm=true)(h:PGs X es t)
  (hn:autoParam ((assignEach es X.env).length=n) 1#7) (ZO:autoParam ((assignEach es X.env).findIdx? (·.1)=none) 1#7):PG X (.Tuple es k pos) (OC X.K n t):=by
 intro pins s σ H v u Q I r hw;obtain⟨a,xs,e1,hq,hl,hw⟩:=hw;subst e1;cases r;obtain⟨ZZ,rv,ht,hz⟩:=I.tuple hq;refine assign_Tuple_tuple 7#8 ht (by simp[hn,<-hl,rv.length]) ZO λh' hx=>?_;have I1:=I.kept (t':=s.toks) λb o e=>hx b o (aG (ay e)) e;exact h _ _ σ H xs _ Q I1 0#2 hw
def OO(to ti:TE)(t:Fk):TG:=λv σ H Q=>to σ H λo H1=>ti σ H1 λi H2=>t o i v H2 λH3=>Q σ H3
theorem KA{o i:Expr}{to ti:TE}{t:Fk}(ho:PE X o to)(hi:PE X i ti)(hs:Kz X t)
  (ha:autoParam (∀v,assign (.Subscript o i pos) X.env v=(do
   let ov <- holding [v] (eval o X.env)
   let iv <- holding [v,ov] (eval i X.env)
   standAt pos
   holding [v,ov,iv] (setItem ov iv v)
   release [v,ov,iv] [])) au3._auto_1):PG X (.Subscript o i pos) (OO to ti t):=by
 intro pins s σ H v u Q I r h;rw[ha];refine af (dG (thn (ho _ s σ H _ I h) λov s1 ⟨x,H1,I1,r1,q1⟩=>?_));refine af (dG (thn (hi _ s1 σ H1 _ I1 q1) λiv s2 ⟨y,H2,I2,r2,q2⟩=>?_));refine af (vL (af (dG (thn (hs _ s2 σ H2 x y v ov iv u _ I2 r1 r2 r q2) λ_ s3 ⟨H3,I3,q3⟩=>?_))));exact wpAny_release ⟨σ,H3,I3,q3⟩
def Cn(te:TE)(g:TG):TS:=λD σ H=>te σ H λx H1=>g x σ H1 D.nx
variable{te:TE}
theorem Fq{tg:Expr}{g:TG}(he:PE X e te)(hg:PG X tg g)(hs:autoParam (swapsWithSole [tg] e pos.line X.env=pure false) 1#7)(hw:autoParam (swappedStores [tg] e X.env=pure none) 1#7)
  (h1:autoParam ((assignEach [tg] X.env).map (·.2)=[assign tg X.env]) 1#7):PS X (.Assign [tg] e pos) (Cn te g):=by
 intro pins s σ H D I h;refine wpAny_Assign_stores (thn (he _ s σ H _ I h) λv s1 ⟨x,H1,I1,r1,q1⟩=>?_) hs hw;rw[h1];exact thn (hg _ s1 σ H1 x v _ I1 r1 q1) λ_ s2 q=>q
theorem zX{x:Str}{pos':Pos}(hN:X.N.Nodup)(hi:X.N[i]?=some x)(hx:Loc X.env.scope x)(he:PE X e te)(hs:autoParam (swapsWith e (some (.Name x pos')) pos.line X.env=pure false) 1#7)(hf:autoParam 16#8 au4._auto_1):
  PS X (.Assign [.Name x pos'] e pos) (Cn te (iR i)):=by
 intro pins s σ H D I h;refine wpAny_Assign_Name (thn (he _ s σ H _ I h) λv s1 ⟨y,H1,I1,r1,q1⟩=>?_) hs;exact i9 I1 hN hi hx r1 (λs2 I2=>⟨_,H1,I2,q1⟩) hf
def Ql(i j:Nat)(ta:TA):TS:=λD σ H=>ta σ H λvs H1=>∃v w,vs=[v,w]/\D.nx ((σ.set i (some v)).set j (some w)) H1
theorem Lq{j:Nat}{x y:Str}{a b:Expr}{ta:TA}{px py pt:Pos}{kt k2 pt2}(hc:X.calm=true)(hN:X.N.Nodup)(hi:X.N[i]?=some x)(hj:X.N[j]?=some y)(UJ:i≠j)
  (hx:X.env.scope.names.lookup x=some .local) (hy:X.env.scope.names.lookup y=some .local) (ha:PA X [a,b] ta)
  (hw:swappedStores 18#9 (.Tuple [a,b] k2 pt2) X.env=pure (some [x,y]))
  (hs:autoParam (swapsWithSole 18#9 (.Tuple [a,b] k2 pt2) pos.line X.env=pure false) 1#7):
  PS X (.Assign 18#9 (.Tuple [a,b] k2 pt2) pos) (Ql i j ta):=by
 intro pins s σ H D I h;rw[exec_Assign_arm];refine af (vL ?_);rw[hs];refine af (ar ?_);rw[if_neg 0#1];refine af (Tuple_ (thn (ha _ pins s σ H _ I h) λus s1 ⟨vs,H1,I1,r1,q1⟩=>?_));obtain⟨v,w,e1,q1⟩:=q1;subst e1;obtain⟨u1,u2,rfl,rv,Zp⟩ :∃u1 u2,us=[u1,u2]/\RelV v u1/\RelV w u2:=by
  cases r1 with
  | cons p q=>
    cases q with
    | cons p' q'=>
      cases q';exact⟨_,_,rfl,p,p'⟩
 refine cb ?_ (by show 2<=sizeLine;decide);have I2:Inv X pins σ H1 { s1 with heap:=s1.heap.push { cls := .type "tuple",data := .seq [u1,u2].toArray } }:=I1.kept (t':=s1.toks) fun b o e=>ag _ e;rw[hw];refine af (ar ?_);show aC 1#2 X.A (do rule "assign.swapped-stores";let items <- unpackItems (.ref 7#6) 2 none;assignInOrder [fun v=>bindName X.env y v,fun v=>bindName X.env x v] items.reverse;pure Flow.next) _ _ _;refine af (gS (af (unpackItems_tuple (items:= #[u1,u2]) 7#8 (pq s1.heap _) λh' WC=>?_)));have I3:=I2.kept (h':=h') (t':=s1.toks) λb o e=>WC b o (aG (ay e)) e;show aC _ _ (assignInOrder [λv=>bindName X.env y v,λv=>bindName X.env x v] [u2,u1] >>= λ_=>pure Flow.next) _ _ _;refine af (assignInOrder_cons (wpAny_bindName (i9 I3 hN hj (.inl hy) Zp (λs2 I4=>?_) (.inr hy))));refine assignInOrder_cons (wpAny_bindName (i9 I4 hN hi (.inl hx) rv (λs3 I5=>assignInOrder_nil (ar ?_)) (.inr hx)));rw[List.set_comm _ _ (cX UJ)]at I5;exact⟨_,H1,I5,q1⟩
end
section
variable {X:Cx}{pos:Pos}
def EY(c:TT)(tb:TS):TS:=λD σ H=>∃W:Nat->St->Hp->Prop,(∃m,W m σ H) /\ ∀m σ H,W m σ H ->
 c σ H λb H1=>if b=true then ∃N:St->Hp->Prop,(∀Y1 H',N Y1 H'->∃m',m'<m/\W m' Y1 H')/\tb { D with nx:=N,ct:=N,bk:=D.nx } σ H1 else D.nx σ H1
theorem EE{c:Expr}{body:List Stmt}{tc:TT}{tb:TS}(hp:PassesOwn 1#2 X.A X.env X.xe)(hc:PT X c tc)(hb:PSs X body tb):PS X (.While c body [] pos) (EY tc tb):=by
 intro pins s σ H D I h;obtain⟨W,⟨m0,w0⟩,turn⟩:=h;refine wpAny_While (codeAny_whileLoop (λn s'=>∃Y1 H',Inv X _ Y1 H' s'/\W n Y1 H') ?_ m0 ⟨σ,H,I,w0⟩);rintro n s1 ⟨Y6,H1,I1,w1⟩;refine gc hp (thn (hc _ s1 _ H1 _ I1 (turn n _ H1 w1)) λb s2 ⟨H2,I2,q2⟩=>?_);cases b with
 | true=>
   obtain⟨N,hN,q2⟩:=q2;refine gc hp (thn (hb _ s2 _ H2 _ I2 q2) λf s3 q3=>?_);cases f with
   | next=>
     obtain⟨X4,H3,I3,n3⟩:=q3;obtain⟨m',hm,w3⟩:=hN _ H3 n3;exact⟨m',hm,_,H3,I3,w3⟩
   | cont=>
     obtain⟨X4,H3,I3,n3⟩:=q3;obtain⟨m',hm,w3⟩:=hN _ H3 n3;exact⟨m',hm,_,H3,I3,w3⟩
   |brk=>exact q3
   |ret v=>exact q3
 | false=>
   exact iI ⟨_,H2,I2,q2⟩
end
structure It where
 go:Nat->Hp->Prop
 yld:Nat->Hp->V->Hp->Prop
 stop:Nat->Hp->Prop
def tq(X:Cx)(pins:List 2#2)(H:Hp)(b:Addr):Prop:=
 H b=none/\b≠6#5/\b∉X.fs/\(b∈X.ex\/14#4<=b)/\18#6 /\ ∀p∈X.pn++pins,p.1≠b
variable{pins:List (Addr×Obj)}{s:Shared}{σ:St}
theorem Inv.fpOk{H':Hp}(I:Inv X pins σ H s)(hb:0#8<=b)(hn:H' b=none):tq X pins H' b:=by
 refine⟨hn,bD (ao I.lt hb),I.nofs hb,.inr (aD I.sz hb),λx c e z=>?_,λp hp z=>?_⟩
 .obtain⟨v,q⟩:=I.cell x c e
  exact absurd (ao q.lt (by rw[z];omega)) (bp _)
 .exact absurd (ao (ay (I.pin p hp).1) (by rw[z];omega)) (bp _)
structure Turn(P:Program)(w:World)(K:aj)(tg:Expr)(J:It)(fp:List Addr)(it:Addr)(tn:Nat->Heap->Prop):Prop where
 mem:it∈fp
 obj:∀i h,tn i h->∀b∈fp,∃o,h.get? b=some o /\ ∀v,o.data≠.cell v
 keep:∀i h h',tn i h->(∀b∈fp,∀o,h.get? b=some o->h'.get? b=some o)->tn i h'
 item:∀(X:Cx),X.prog=P->X.w=w->X.K=K->X.calm=true->∀(i:Nat) (pins:List (Addr×Obj)) (s:Shared) (σ:St) (H:Hp) (E:Value->Shared->Prop),Inv X pins σ H s->(∀b∈fp,tq X pins H b)->tn i s.heap->J.go i H ->
  aC (model P w) X.A (pyNext (.ref it)) (λr s1 =>∃u,r=some u /\
   aC (model P w) X.A (letOwnedTupleGo tg (.ref it) u) (λ_ s2 =>∃x H',Inv X pins σ H' s2/\RelV x u/\J.yld i H x H'/\tn (i+1) s2.heap /\ ∀b∈fp,H' b=none) E s1) E s
 done:∀(X:Cx),X.prog=P->X.w=w->X.K=K->X.calm=true->∀(i:Nat) (pins:List (Addr×Obj)) (s:Shared) (σ:St) (H:Hp) (E:Value->Shared->Prop),Inv X pins σ H s->(∀b∈fp,tq X pins H b)->tn i s.heap->J.stop i H ->
  aC (model P w) X.A (pyNext (.ref it)) (λr s1=>r=none/\Inv X pins σ H s1) E s
 self:∀(A:Around) (i:Nat) (s:Shared) (Q:Value->Shared->Prop) (E:Value->Shared->Prop),tn i s.heap->Q (.ref it) s->aC (model P w) A (pyIter (.ref it)) Q E s
abbrev TI:=St->Hp->(It->Hp->Prop)->Prop
def PIE(X:Cx)(pins:List 2#2)(σ:St)(tg:Expr)(R:It->Hp->Prop)(itv:Value)(s2:Shared):Prop:=
 ∃(it:Addr) (fp:List Addr) (tn:Nat->Heap->Prop) (J:It) (H':Hp),itv=.ref it/\Inv X pins σ H' s2/\Turn X.prog X.w X.K tg J fp it tn/\tn 0 s2.heap/\(∀b∈fp,tq X pins H' b)/\R J H'
def PI(X:Cx)(tg iter:Expr)(wi:TI):Prop:=
 ∀(pins:List 2#2) (s:Shared) (σ:St) (H:Hp) (R:It->Hp->Prop),Inv X pins σ H s->wi σ H R ->
  aC 1#2 X.A (eval iter X.env) (λv s1=>aC 1#2 X.A (pyIter v) (PIE X pins σ tg R) X.xe s1) X.xe s
variable{tg:Expr}
theorem AU{it:Addr}{n:String}{vs:Array Value}{Q:Unit->Shared->Prop}(ho:s.heap.get? it=some o)(hc:o.cls=.type n)(hd:o.data=.fields vs)
  (hn : ["enumerate","zip","dict_itemiterator","dict_reverseitemiterator","odict_iterator","itertools.zip_longest","itertools.pairwise"].contains n=false) (hQ:Q () s):aC M A (letOwnedTupleGo tg (.ref it) u) Q E s:=by
 cases tg<;>first
  |exact ar hQ
  | (cases u <;> first
    |exact ar hQ
    | (refine af (Gv ho ?_)
       rw[hc,hd];show aC M A (if (["enumerate","zip","dict_itemiterator","dict_reverseitemiterator","odict_iterator","itertools.zip_longest","itertools.pairwise"].contains n&&vs[0]? == some _)=true then _ else _) Q E s;rw[if_neg (by grind)]
       exact ar hQ))
def Itl(K:aj)(a:Addr):It:=
 ⟨λi H=>∃xs x,SqL K H a xs/\xs[i]?=some x,λi H x H'=>H'=H /\ ∀xs,SqL K H a xs->xs[i]?=some x,λi H=>∃xs,SqL K H a xs/\1#4<=i⟩
def Itt(K:aj)(a:Addr):It:=
 ⟨λi H=>∃xs x,SqT K H a xs/\xs[i]?=some x,λi H x H'=>H'=H /\ ∀xs,SqT K H a xs->xs[i]?=some x,λi H=>∃xs,SqT K H a xs/\1#4<=i⟩
def Itr(lo:Int)(n:Nat):It:=⟨λi _=>i<n,λi H x H'=>H'=H/\x=.int (lo+i),λi _=>n<=i⟩
variable{K:aj}
theorem BX(a it:Addr):Turn P w K tg (Itl K a) [it] it (λi h=>h.IsListIter it a i) where
 mem:=by simp
 obj:=λi h st b hb=>by
  have e:=by simpa using hb
  obtain⟨o,e,c,d⟩:=st
  simp_all
 keep:=λi h h' st k=>st.at λo e=>k it 0#3 o e
 item:=by
  intro X hP hw hK hc i pins s σ H E I hf st hg;subst hP hw hK;obtain⟨xs,x,hq,hx⟩:=hg;obtain⟨ZZ,rv,p,hz⟩:=I.list hq;obtain⟨u,hu,ru⟩:=rv.get hx;obtain⟨f0,f1,f2,f3,f4,f5⟩:=hf it 0#3;refine wpAny_pyNext_list_item st p.isList (by simpa using hu) λh' Yt sb=>?_;have I1:=I.turned (t':=s.toks) (λb o hb e=>(sb.2 b hb).trans e) f0 f1 f3 f4 f5;obtain⟨o,e,c,d⟩:=id Yt;exact⟨u,rfl,AU e c d 0#1 ⟨x,H,I1,ru,⟨rfl,λys hy=>by rw[I.list_inj hy hq];omega⟩,Yt,λb hb=>(hf b hb).1⟩⟩
 done:=by
  intro X hP hw hK hc i pins s σ H E I hf st hg;subst hP hw hK;obtain⟨xs,hq,hx⟩:=hg;obtain⟨ZZ,rv,p,hz⟩:=I.list hq;obtain⟨f0,f1,f2,f3,f4,f5⟩:=hf it 0#3;have hl:=rv.length;exact wpAny_pyNext_list_end 7#8 st p.isList 12#6 λh' eb=>20#8
 self:=λ_ _ _ _ _ st h=>wpAny_pyIter_listiter st h
theorem Au(a it:Addr):Turn P w K tg (Itt K a) [it] it (λi h=>h.IsTupleIter it a i) where
 mem:=by simp
 obj:=λi h st b hb=>by
  have e:=by simpa using hb
  obtain⟨o,e,c,d⟩:=st
  simp_all
 keep:=λi h h' st k=>st.at λo e=>k it 0#3 o e
 item:=by
  intro X hP hw hK hc i pins s σ H E I hf st hg;subst hP hw hK;obtain⟨xs,x,hq,hx⟩:=hg;obtain⟨ZZ,rv,p,hz⟩:=I.tuple hq;obtain⟨u,hu,ru⟩:=rv.get hx;obtain⟨f0,f1,f2,f3,f4,f5⟩:=hf it 0#3;refine wpAny_pyNext_tuple_item st (p) (by simpa using hu) λh' Yt sb=>?_;have I1:=I.turned (t':=s.toks) (λb o hb e=>(sb.2 b hb).trans e) f0 f1 f3 f4 f5;obtain⟨o,e,c,d⟩:=id Yt;exact⟨u,rfl,AU e c d 0#1 ⟨x,H,I1,ru,⟨rfl,λys hy=>by rw[I.tuple_inj hy hq];omega⟩,Yt,λb hb=>(hf b hb).1⟩⟩
 done:=by
  intro X hP hw hK hc i pins s σ H E I hf st hg;subst hP hw hK;obtain⟨xs,hq,hx⟩:=hg;obtain⟨ZZ,rv,p,hz⟩:=I.tuple hq;obtain⟨f0,f1,f2,f3,f4,f5⟩:=hf it 0#3;have hl:=rv.length;exact wpAny_pyNext_tuple_end 7#8 st (p) 12#6 λh' eb=>20#8
 self:=λ_ _ _ _ _ st h=>wpAny_pyIter_tupleiter st h
theorem zW(it:Addr)(lo:Int)(n:Nat):Turn P w K tg (Itr lo n) [it] it (λi h=>IsRangeIter h it (lo+(i:Nat)*1) ((n:Int)-(i:Nat)) 1) where
 mem:=by simp
 obj:=λi h st b hb=>by
  simp_all
 keep:=λi h h' st k=>k it 0#3 _ st
 item:=by
  intro X hP hw hK hc i pins s σ H E I hf st hg;subst hP hw hK;obtain⟨f0,f1,f2,f3,f4,f5⟩:=hf it 0#3;have W:=Walks.range (prog:=X.prog) (w:=X.w) 7#8 it lo 1 n;refine W.item i s _ _ hg st λv h' tk hv Yt kk=>?_;obtain⟨t,rfl⟩:=hv;have I1:Inv X _ σ H { s with heap:=h',toks:=tk }:=I.turned (λb o hb e=>kk b o (by simpa using hb) e) f0 f1 f3 f4 f5;refine⟨_,rfl,AU Yt rfl rfl 0#1 ⟨.int _,H,I1,⟨t,?_⟩,⟨rfl,rfl⟩,Yt,λb hb=>(hf b hb).1⟩⟩<;>simp_all
 done:=by
  intro X hP hw hK hc i pins s σ H E I hf st hg;obtain⟨f0,f1,f2,f3,f4,f5⟩:=hf it 0#3;exact wpAny_pyNext_range_end 7#8 st (by have:n<=i:=hg;omega) λh' eb=>20#8
 self:=λ_ _ _ _ _ st h=>wpAny_pyIter_rangeiter st h
section
variable {X:Cx}{tg:Expr}
def ya(K:aj)(tl:TE):TI:=λσ H R=>tl σ H λx H1=>∃a,x=.ref a/\(∃xs,SqL K H1 a xs)/\R (Itl K a) H1
def Ep(K:aj)(tl:TE):TI:=λσ H R=>tl σ H λx H1=>∃a,x=.ref a/\(∃xs,SqT K H1 a xs)/\R (Itt K a) H1
variable{l:Expr}{tl:TE}
theorem Jq(hl:PE X l tl):PI X tg l (ya X.K tl):=by
 intro pins s σ H R I h;refine thn (hl _ s σ H _ I h) λv s1 ⟨x,H1,I1,r1,q1⟩=>?_;obtain⟨a,e,⟨xs,hq⟩,q⟩:=q1;subst e;cases r1;obtain⟨ZZ,rv,p,hz⟩:=I1.list hq;refine nv p.isList ?_;refine⟨_,_,_,_,H1,rfl,I1.kept λb o e=>ag _ e,BX a _,⟨_,av _ rfl,rfl,rfl⟩,λb hb=>?_,q⟩;have e:=by simpa using hb
 subst e;exact I1.fpOk 1#8 (I1.hok.fresh 1#8)
theorem K8(hl:PE X l tl):PI X tg l (Ep X.K tl):=by
 intro pins s σ H R I h;refine thn (hl _ s σ H _ I h) λv s1 ⟨x,H1,I1,r1,q1⟩=>?_;obtain⟨a,e,⟨xs,hq⟩,q⟩:=q1;subst e;cases r1;obtain⟨ZZ,rv,p,hz⟩:=I1.tuple hq;refine eK (p) ?_;refine⟨_,_,_,_,H1,rfl,I1.kept λb o e=>ag _ e,Au a _,⟨_,av _ rfl,rfl,rfl⟩,λb hb=>?_,q⟩;have e:=by simpa using hb
 subst e;exact I1.fpOk 1#8 (I1.hok.fresh 1#8)
theorem yP{R:It->Hp->Prop}{lo hi:Int}{t u v:Tok}{tk:Nat}(I:Inv X pins σ H s)(h1: -(2^62)<=lo)(h2:lo<2^62)(h3: -(2^62)<=hi)(h4:hi<2^62)
  (q:R (Itr lo (hi-lo).toNat) H):aC 1#2 X.A (pyIter 7#1) (PIE X pins σ tg R) E { s with heap:=s.heap.push { cls := .type "range",data := .fields #[.int lo t,.int hi u,.int 1 v] },toks:=tk }:=by
 refine wpAny_pyIter_range (IsRange.new ..) (small_one h1 h2 h3 h4) ?_;have I1:Inv X _ σ H { s with heap:=s.heap.push { cls := .type "range",data := .fields #[.int lo t,.int hi u,.int 1 v] },toks:=tk }:=I.kept fun b o e=>ag _ e
 refine⟨_,_,_,_,H,rfl,
  I1.kept λb o e=>ag _ e,zW _ lo _,?_,λb hb =>?_,q⟩
 .have e1:lo+((0:Nat))*1=lo:=by simp
  have e2:(((hi-lo).toNat))-((0:Nat))=dJ lo hi 1:=by rw[rangeSize_one];grind
  rw[e1,e2];exact av _ rfl
 .have e:b=(s.heap.push { cls := .type "range",data := .fields #[.int lo t,.int hi u,.int 1 v] }).objs.size:=by simpa using hb
  subst e;exact I1.fpOk 1#8 (I1.hok.fresh 1#8)
def yM(ta:TA):TI:=λσ H R=>ta σ H λvs H1=>∃j:Int,vs=[.int j] /\ -(2^62)<=j/\j<2^62/\R (Itr 0 j.toNat) H1
def zd(ta:TA):TI:=λσ H R=>ta σ H λvs H1=>∃i j:Int,vs=[.int i,.int j]/\(-(2^62)<=i/\i<2^62 /\ -(2^62)<=j/\j<2^62)/\R (Itr i (j-i).toNat) H1
variable{ta:TA}{pos:Pos}
theorem CT{a:Expr}{p:Pos}(hg:Gl X "range")(hm:X.mg "range"=none)(ha:PA X [a] ta)(hs:autoParam 15#4 1#7):PI X tg (.Call (.Name "range" p) [a] [] pos) (yM ta):=by
 intro pins s σ H R I h;refine Call_ (gG I hg hm boot_range (bz 18#0 hs rfl));obtain⟨j,e,q1,q2,q⟩:=q1;subst e;cases r1 with
 | cons r rr=>
   cases rr;obtain⟨t,rfl⟩:=r;exact call_range_1 (yP I1 0#1 0#1 q1 q2 (by simpa using q))
theorem CG{a b:Expr}{p:Pos}(hg:Gl X "range")(hm:X.mg "range"=none)(ha:PA X [a,b] ta)(hs:autoParam (starEach [a,b] X.env=[13#1,14#0]) 1#7)(ZE:autoParam (starEach [b] X.env=[14#0]) 1#7) :
  PI X tg (.Call (.Name "range" p) [a,b] [] pos) (zd ta):=by
 intro pins s σ H R I h;refine Call_ (gG I hg hm boot_range (bz 18#0 (by rw[hs,ZE]) (by rw[ZE];rfl)));obtain⟨i,j,e,⟨q1,q2,q3,q4⟩,q⟩:=q1;subst e;cases r1 with
 | cons r rr=>
   cases rr with
   | cons r' rr=>
     cases rr;obtain⟨t,rfl⟩:=r;obtain⟨t',rfl⟩:=r';exact call_range_2 (yP I1 q1 q2 q3 q4 q)
def wz(wi:TI)(g:TG)(tb:TS):TS:=λD σ H=>wi σ H λJ H1=>∃W:Nat->Nat->St->Hp->Prop,(∃m,W 0 m σ H1) /\ ∀i m σ H,W i m σ H ->
 (J.stop i H/\D.nx σ H)\/(J.go i H /\ ∃N:St->Hp->Prop,21#6 /\ ∀x H',J.yld i H x H'->g x σ H' λY7 H2=>tb { D with nx:=N,ct:=N,bk:=D.nx } Y7 H2)
def wG(fp:List Addr)(h:Heap):List 2#2:=fp.filterMap λb=>(h.get? b).map λo=>(b,o)
variable{fp:List Addr}
theorem kE(hb:b∈fp)(e:h.get? b=some o):(b,o)∈wG fp h:=List.mem_filterMap.mpr ⟨b,hb,by rw[e];rfl⟩
theorem CQ{p:Addr×Obj}(hp:p∈wG fp h):p.1∈fp/\h.get? p.1=some p.2:=by
 obtain⟨b,hb,e⟩:=List.mem_filterMap.mp hp;cases q:h.get? b<;>grind
theorem Inv.pinned{fp:List Addr}(I:Inv X pins σ H s)(hf:∀b∈fp,tq X pins H b)(ho:∀b∈fp,∃o,s.heap.get? b=some o /\ ∀v,o.data≠.cell v):Inv X (pins++wG fp s.heap) σ H s:=
 I.pins_of λp hp=>(dE.mp hp).elim (λz=>I.pin p (aR _ z)) λz=>by
  obtain⟨hb,e⟩:=CQ z;obtain⟨f0,f1,f2,_⟩:=hf _ hb
  grind
theorem Inv.unpinned{pl:List (Addr×Obj)}(I:Inv X (pins++pl) σ H s):Inv X pins σ H s:=I.pins_of λp hp=>I.pin p (aR _ (dw _ hp))
theorem DS{iter:Expr}{body:List Stmt}{wi:TI}{g:TG}{tb:TS}(hp:PassesOwn 1#2 X.A X.env X.xe)(hc:X.calm=true)(hi:PI X tg iter wi)(hg:PG X tg g)(hb:PSs X body tb)
  (hs:autoParam 15#0 au3._auto_1):PS X (.For tg iter body [] pos) (wz wi g tb):=by
 intro pins s σ H D I h;refine wpAny_For (thn (hi _ s σ H _ I h) λv s1 h1=>thn h1 λitv s2 h2=>?_) hs;obtain⟨it,fp,tn,J,H2,e,I2,T,Yo,f2,W,⟨m0,w0⟩,turn⟩:=h2;subst e;have stat:∀{H':Hp},(∀b∈fp,H' b=none)->∀b∈fp,tq X _ H' b:=λhn b hb=>⟨hn b hb,(f2 b hb).2⟩;refine codeAny_forLoop_any (λn s'=>∃i Y1 H',Inv X _ Y1 H' s'/\tn i s'.heap/\(∀b∈fp,H' b=none)/\W i n Y1 H') ?_ m0 ⟨0,σ,H2,I2,Yo,λb hb=>(f2 b hb).1,w0⟩;rintro n s3 ⟨i,X4,H3,I3,Zf,Vs,w3⟩;rcases turn i n _ H3 w3 with⟨stop,qn⟩ | ⟨go,N,hN,step⟩
 .refine gc hp (thn (T.done X rfl rfl rfl hc i _ s3 _ H3 _ I3 (stat Vs) Zf stop) λr s4 ⟨hr,I4⟩=>?_)
  subst hr;exact iI ⟨_,H3,I4,qn⟩
 .refine gc hp (thn (T.item X rfl rfl rfl hc i _ s3 _ H3 _ I3 (stat Vs) Zf go) λr s4 ⟨u,hr,h4⟩=>?_)
  subst hr;refine gc hp (thn h4 λ_ s5 ⟨x,H5,I5,r5,y5,YO,Uz⟩=>?_);have TH:=I5.pinned (stat Uz) (T.obj _ _ YO);refine gc hp (thn (hg _ s5 _ H5 x u _ TH r5 (step x H5 y5)) λ_ s6 ⟨Z3,H6,I6,q6⟩=>?_);refine gc hp (thn (hb _ s6 _ H6 _ I6 q6) λf s7 q7=>?_);have again:∀{X2:St}{H7:Hp},Inv X _ _ H7 s7->N _ H7->∃m,m<n /\ ∃i Y1 H',Inv X pins Y1 H' s7/\tn i _/\(∀b∈fp,H' b=none)/\W i m Y1 H':=λ{X2 H7} I7 n7=>by
   obtain⟨m',hm,w7⟩:=hN _ H7 n7;refine⟨m',hm,_,X2,H7,I7.unpinned,T.keep _ _ _ YO λb hb o e=>(I7.pin _ (aR _ (aR _ (kE hb e)))).1,λb hb=>?_,w7⟩;obtain⟨o,e,d⟩:=T.obj _ _ YO b hb;exact(I7.pin _ (aR _ (aR _ (kE hb e)))).2.1
  cases f with
  |next=>obtain⟨X2,H7,I7,n7⟩:=q7;exact again I7 n7
  |cont=>obtain⟨X2,H7,I7,n7⟩:=q7;exact again I7 n7
  |brk=>obtain⟨X2,H7,I7,q7⟩:=q7;exact⟨_,H7,I7.unpinned,q7⟩
  |ret v=>obtain⟨x7,X2,H7,I7,r7,q7⟩:=q7;exact⟨x7,_,H7,I7.unpinned,r7,q7⟩
end
variable{tb:TS}{D:Ends}
theorem Ir{g:TG}{σ:St}{H:Hp}(Pv:Nat->St->Hp->Prop)(h0:Pv 0 σ H)(hl:∀i σ H,i<=1#4->Pv i σ H->SqT K H a xs)
  (hs:∀i x σ H,xs[i]?=some x->Pv i σ H->g x σ H λY7 H2=>tb { D with nx:=Pv (i+1),ct:=Pv (i+1),bk:=D.nx } Y7 H2) (hd:∀σ H,Pv xs.length σ H->D.nx σ H):
  ∃W:Nat->Nat->St->Hp->Prop,(∃m,W 0 m σ H) /\ ∀i m σ H,W i m σ H ->
   ((Itt K a).stop i H/\D.nx σ H)\/((Itt K a).go i H /\ ∃N:St->Hp->Prop,21#6 /\ ∀x H',(Itt K a).yld i H x H'->g x σ H' λY7 H2=>tb { D with nx:=N,ct:=N,bk:=D.nx } Y7 H2):=by
 refine⟨λi m σ H=>m=1#4-i/\i<=1#4/\Pv i σ H,⟨1#4,by simp,ee _,h0⟩,?_⟩;rintro i m σ H ⟨rfl,hi,p⟩;have q:=hl i σ H hi p;by_cases ZR:i<1#4
 .refine .inr ⟨⟨xs,xs[i],q,by simp⟩,_,λY1 H' p'=>⟨_,by omega,rfl,ZR,p'⟩,λx H' y=>?_⟩
  obtain⟨e,y⟩:=y;subst e;exact hs i x σ _ (y xs q) p
 .have e:i=1#4:=by omega
  subst e;exact .inl ⟨⟨xs,q,aq _⟩,hd σ H p⟩
variable{n:Nat}
theorem Cu{lo:Int}{g:TG}{σ:St}{H:Hp}(Pv:Nat->St->Hp->Prop)(h0:Pv 0 σ H)
  (hs:∀i σ H,i<n->Pv i σ H->g (.int (lo+i)) σ H λY7 H2=>tb { D with nx:=Pv (i+1),ct:=Pv (i+1),bk:=D.nx } Y7 H2) (hd:∀σ H,Pv n σ H->D.nx σ H):
  ∃W:Nat->Nat->St->Hp->Prop,(∃m,W 0 m σ H) /\ ∀i m σ H,W i m σ H ->
   ((Itr lo n).stop i H/\D.nx σ H)\/((Itr lo n).go i H /\ ∃N:St->Hp->Prop,21#6 /\ ∀x H',(Itr lo n).yld i H x H'->g x σ H' λY7 H2=>tb { D with nx:=N,ct:=N,bk:=D.nx } Y7 H2):=by
 refine⟨λi m σ H=>m=n-i/\i<=n/\Pv i σ H,⟨n,by simp,ee _,h0⟩,?_⟩;rintro i m σ H ⟨rfl,hi,p⟩;by_cases ZR:i<n
 .refine .inr ⟨ZR,_,λY1 H' p'=>⟨_,by omega,rfl,ZR,p'⟩,λx H' y=>?_⟩
  obtain⟨e,y⟩:=y
  simp_all
 .have e:i=n:=by omega
  subst e;exact .inl ⟨aq _,hd σ H p⟩
abbrev R2:=V->V->Hp->VK->Prop
def OpR(X:Cx)(f:Value->Value->Sem Value)(r:R2):Prop:=
 ∀(pins:List 2#2) (s:Shared) (σ:St) (H:Hp) (x y:V) (v u:Value) (Q:VK),Inv X pins σ H s->RelV x v->RelV y u->r x y H Q ->
  aC 1#2 X.A (f v u) 8#4 X.xe s
def UnR(X:Cx)(f:Value->Sem Value)(r:V->Hp->VK->Prop):Prop:=
 ∀(pins:List 2#2) (s:Shared) (σ:St) (H:Hp) (x:V) (v:Value) (Q:VK),Inv X pins σ H s->RelV x v->r x H Q ->
  aC 1#2 X.A (f v) 8#4 X.xe s
def gp(X:Cx)(f:Value)(r:List V->Hp->VK->Prop):Prop:=
 ∀(pins:List 2#2) (s:Shared) (σ:St) (H:Hp) (xs:List V) (us:List Value) (Q:VK),Inv X pins σ H s->cm xs us->r xs H Q ->
  aC 1#2 X.A (call f us) 8#4 X.xe s
def tOp(r:R2)(ta tb:TE):TE:=λσ H Q=>ta σ H λx H1=>tb σ H1 λy H2=>r x y H2 Q
def tUn(r:V->Hp->VK->Prop)(ta:TE):TE:=λσ H Q=>ta σ H λx H1=>r x H1 Q
def rI(C:Int->Int->Prop)(g:Int->Int->V):R2:=λx y H Q=>∃i j,x=.int i/\y=.int j/\C i j/\Q (g i j) H
def rI0(g:Int->Int->V):R2:=λx y H Q=>∃i j,x=.int i/\y=.int j/\Q (g i j) H
def rU(g:Int->V):V->Hp->VK->Prop:=λx H Q=>∃i,x=.int i/\Q (g i) H
section
variable {X:Cx}{a b c:Expr}{ta tb tc:TE}{pos:Pos}
variable{f:Value->Value->Sem Value}
theorem MU(ha:PE X a ta)(hb:PE X b tb){R:V->V->Hp->Prop}(I:Inv X pins σ H s)
  (h:ta σ H λx H1=>tb σ H1 λy H2=>R x y H2) {Q:Value->Shared->Prop}
  (hf:∀v u s2 x y H2,Inv X pins σ H2 s2->RelV x v->RelV y u->R x y H2->aC 1#2 X.A (f v u) Q X.xe s2):
  aC 1#2 X.A (eval a X.env) (λv ZV=>aC 1#2 X.A (eval b X.env) (λu ZY=>aC 1#2 X.A (f v u) Q X.xe ZY) X.xe ZV) X.xe s:=by
 refine thn 11#0 λv s1 ⟨x,H1,I1,r1,q1⟩=>?_;refine thn (hb _ s1 σ H1 _ I1 q1) λu s2 ⟨y,H2,I2,r2,q2⟩=>?_;exact hf v u s2 x y H2 I2 r1 r2 q2
theorem ve{op:Operator}{r:R2}(ho:OpR X (binaryOp op) r)(ha:PE X a ta)(hb:PE X b tb):PE X (.BinOp a op b pos) (tOp r ta tb):=by
 intro pins s σ H Q I h;exact wpAny_BinOp (MU ha hb I h λv u s2 x y H2 I2 rx ry q=>ho _ s2 σ H2 x y v u Q I2 rx ry q)
theorem JX{op:UnaryOp}{r:V->Hp->VK->Prop}(ho:UnR X (unaryOp op) r)(ha:PE X a ta):PE X (.UnaryOp op a pos) (tUn r ta):=by
 intro pins s σ H Q I h;exact UnaryOp_ (thn 11#0 λv s1 ⟨x,H1,I1,r1,q1⟩=>ho _ s1 σ H1 x v Q I1 r1 q1)
variable{g:Int->Int->Int}
theorem opI{C:Int->Int->Prop}
  (rule:∀(i j:Int) (t u:Tok) (s:Shared) (Q:Value->Shared->Prop) (E:Value->Shared->Prop),C i j->Q (.int (g i j) s.toks) { s with toks:=s.toks+1 }->aC 1#2 X.A (f (.int i t) (.int j u)) Q E s):
  OpR X f (rI C λi j=>.int (g i j)):=by
 intro pins s σ H x y v u Q I rx ry h;obtain⟨i,j,rfl,rfl,hc,q⟩:=h;obtain⟨t,rfl⟩:=rx;obtain⟨t',rfl⟩:=ry;exact rule i j t t' s _ _ hc ⟨.int _,H,I.tok _,⟨_,rfl⟩,q⟩
theorem NF
  (rule:∀(i j:Int) (t u:Tok) (s:Shared) (Q:Value->Shared->Prop) (E:Value->Shared->Prop),Q (.int (g i j) s.toks) { s with toks:=s.toks+1 }->aC 1#2 X.A (f (.int i t) (.int j u)) Q E s):
  OpR X f (rI0 λi j=>.int (g i j)):=by
 intro pins s σ H x y v u Q I rx ry h;obtain⟨i,j,rfl,rfl,q⟩:=h;obtain⟨t,rfl⟩:=rx;obtain⟨t',rfl⟩:=ry;exact rule i j t t' s _ _ ⟨.int _,H,I.tok _,⟨_,rfl⟩,q⟩
theorem IU{g:Int->Int->Bool}
  (rule:∀(i j:Int) (t u:Tok) (s:Shared) (Q:Value->Shared->Prop) (E:Value->Shared->Prop),Q (.bool (g i j)) s->aC 1#2 X.A (f (.int i t) (.int j u)) Q E s):
  OpR X f (rI0 λi j=>.bl (g i j)):=by
 intro pins s σ H x y v u Q I rx ry h;obtain⟨i,j,rfl,rfl,q⟩:=h;obtain⟨t,rfl⟩:=rx;obtain⟨t',rfl⟩:=ry;exact rule i j t t' s _ _ 13#3
def P2(i j:Int):Prop:=0<j/\j<1073741824
def Ov(i j:Int):Prop:=0<=j/\j<=1000000/\i.natAbs<2^64
def ID(i j:Int):Prop:=(-(2^64)<i/\i<2^64)\/(-(2^64)<j/\j<2^64)
theorem ID.ok{i j:Int}(h:ID i j):IntMulOk i j:=by
 rcases h with⟨h1,h2⟩|⟨h1,h2⟩
 .exact .of_left (intBits_le_64 h1 h2)
 .exact .of_right (intBits_le_64 h1 h2)
theorem KO:OpR X (binaryOp .Add) (rI0 λi j=>.int (i+j)):=NF λ_ _ _ _ _ _ _ q=>add_int q
theorem Lr:OpR X (binaryOp .Sub) (rI0 λi j=>.int (i-j)):=NF λ_ _ _ _ _ _ _ q=>sub_int q
theorem LK:OpR X (binaryOp .Mult) (rI ID λi j=>.int (i*j)):=opI λ_ _ _ _ _ _ _ hc q=>mul_int q hc.ok
theorem Iz:OpR X (binaryOp .FloorDiv) (rI P2 λi j=>.int (i/j)):=opI λi j _ _ _ _ _ hc q=>by
 have h1:=hc.1;have h2:=hc.2;exact floordiv_int 0#2 (by rw[Int.fdiv_eq_ediv_of_nonneg i 0#2];omega) (.inl (PyProof.noPylong_small 0#2))
theorem MD:OpR X (binaryOp .Mod) (rI (λ_ j=>0<j) λi j=>.int (i%j)):=opI λi j _ _ _ _ _ hc q=>by
 exact mod_int' 0#2 (by rw[Int.fmod_eq_emod_of_nonneg i 0#2];omega)
theorem K2:OpR X (binaryOp .Pow) (rI Ov λi j=>.int (i^j.toNat)):=opI λ_ _ _ _ _ _ _ hc q=>pow_int_small hc.1 hc.2.1 hc.2.2 q
theorem unI{f:Value->Sem Value}{g:Int->Int}
  (rule:∀(i:Int) (t:Tok) (s:Shared) (Q:Value->Shared->Prop) (E:Value->Shared->Prop),Q (.int (g i) s.toks) { s with toks:=s.toks+1 }->aC 1#2 X.A (f (.int i t)) Q E s):
  UnR X f (rU λi=>.int (g i)):=by
 intro pins s σ H x v Q I rx h;obtain⟨i,rfl,q⟩:=h;obtain⟨t,rfl⟩:=rx;exact rule i t s _ _ ⟨.int _,H,I.tok _,⟨_,rfl⟩,q⟩
theorem Ds:UnR X (unaryOp .USub) (rU λi=>.int (-i)):=unI λ_ _ _ _ _ q=>neg_int q
end
section
variable {X:Cx}{a b c:Expr}{ta tb tc:TE}{pos:Pos}
theorem OY:OpR X (compareOp .Lt) (rI0 λi j=>.bl (decide (i<j))):=IU λ_ _ _ _ _ _ _ q=>lt_int q
theorem Nb:OpR X (compareOp .LtE) (rI0 λi j=>.bl (decide (i<=j))):=IU λ_ _ _ _ _ _ _ q=>le_int q
theorem PY:OpR X (compareOp .Gt) (rI0 λi j=>.bl (decide (j<i))):=IU λ_ _ _ _ _ _ _ q=>gt_int q
theorem PC:OpR X (compareOp .GtE) (rI0 λi j=>.bl (decide (j<=i))):=IU λ_ _ _ _ _ _ _ q=>ge_int q
variable{r r':R2}
theorem OpR.or{f:Value->Value->Sem Value}(h:OpR X f r)(h':OpR X f r'):OpR X f (λx y H Q=>r x y H Q\/r' x y H Q):=by
 intro pins s σ H x y v u Q I rx ry q;rcases q with q|q
 .exact h _ s σ H x y v u Q I rx ry q
 .exact h' _ s σ H x y v u Q I rx ry q
variable{op:CmpOp}
theorem HV(ho:OpR X (compareOp op) r)(ha:PE X a ta)(hb:PE X b tb)(hm:behindInMarks op b=false):PE X (.Compare a [op] [b] pos) (tOp r ta tb):=by
 intro pins s σ H Q I h;exact wpAny_Compare1 (MU ha hb I h λv u s2 x y H2 I2 rx ry q=>ho _ s2 σ H2 x y v u Q I2 rx ry q) hm
def Fy(t:TE):TT:=λσ H Q=>t σ H λx H'=>∃k,x=.bl k/\Q k H'
theorem IL(ho:OpR X (compareOp op) r)(ha:PE X a ta)(hb:PE X b tb)(hm:behindInMarks op b=false):PT X (.Compare a [op] [b] pos) (Fy (tOp r ta tb)):=by
 intro pins s σ H Q I h
 refine wpAny_isTrue_Compare1 (thn 11#0 λv s1 ⟨x,H1,I1,r1,q1⟩=>thn (hb _ s1 σ H1 _ I1 q1) λu s2 ⟨y,H2,I2,r2,q2⟩=>
  thn (ho _ s2 σ H2 x y v u _ I2 r1 r2 q2) λc s3 ⟨z,H3,I3,r3,k,e,q3⟩ =>?_) hm
 subst e;cases r3;exact dI ⟨H3,I3,q3⟩
def z0(r r':R2)(ta tb tc:TE):TE:=λσ H Q=>ta σ H λx H1=>tb σ H1 λy H2=>r x y H2 λz H3=>∃k,z=.bl k /\
 (if k=true then tc σ H3 λw' H4=>r' y w' H4 Q else Q (.bl false) H3)
theorem Ef{YC:CmpOp}(ho:OpR X (compareOp op) r)(Yq:OpR X (compareOp YC) r')(ha:PE X a ta)(hb:PE X b tb)(hc:PE X c tc)
  (hm:lastMarks [op,YC] [b,c]=false:=by with_unfolding_all rfl):PE X (.Compare a [op,YC] [b,c] pos) (z0 r r' ta tb tc):=by
 intro pins s σ H Q I h
 refine Compare_chain (thn 11#0 λv s1 ⟨x,H1,I1,r1,q1⟩=>chain_link (thn (hb _ s1 σ H1 _ I1 q1) λu s2 ⟨y,H2,I2,r2,q2⟩=>
  thn (ho _ s2 σ H2 x y v u _ I2 r1 r2 q2) λd s3 ⟨z,H3,I3,r3,k,e,q3⟩ =>?_)) hm
 subst e;cases r3;refine dI ?_;cases k with
 |false=>exact ite_ff ⟨.bl _,H3,I3,rfl,q3⟩
 |true=>exact ite_tt (chain_last (thn (hc _ s3 σ H3 _ I3 q3) λw' s4 ⟨z',H4,I4,r4,q4⟩=>Yq _ s4 σ H4 y z' u w' Q I4 r2 r4 q4))
theorem Fj{YC:CmpOp}(ho:OpR X (compareOp op) r)(Yq:OpR X (compareOp YC) r')(ha:PE X a ta)(hb:PE X b tb)(hc:PE X c tc)
  (hm:lastMarks [op,YC] [b,c]=false:=by with_unfolding_all rfl):PT X (.Compare a [op,YC] [b,c] pos) (Fy (z0 r r' ta tb tc)):=by
 intro pins s σ H Q I h
 refine isTrue_chain (thn 11#0 λv s1 ⟨x,H1,I1,r1,q1⟩=>test_link (thn (hb _ s1 σ H1 _ I1 q1) λu s2 ⟨y,H2,I2,r2,q2⟩=>
  thn (ho _ s2 σ H2 x y v u _ I2 r1 r2 q2) λd s3 ⟨z,H3,I3,r3,k,e,q3⟩ =>?_)) hm
 subst e;cases r3;refine dI ?_;cases k with
 | false=>
   obtain⟨k',e',q'⟩:=q3;cases e';exact ite_ff ⟨H3,I3,q'⟩
 | true=>
   refine ite_tt (test_last (thn (hc _ s3 σ H3 _ I3 q3) λw' s4 ⟨z',H4,I4,r4,q4⟩=>thn (Yq _ s4 σ H4 y z' u w' _ I4 r2 r4 q4) λd' s5 ⟨z2,H5,I5,r5,k2,e2,q5⟩=>?_));subst e2;cases r5;exact dI ⟨H5,I5,q5⟩
theorem nE:(sizeLine:Nat)<2^63:=by decide
theorem vals1(r:cm [x] us):∃u,us=[u]/\RelV x u:=by
 cases r with
 |cons r1 r2=>cases r2;exact⟨_,rfl,r1⟩
theorem vals2{y:V}(r:cm [x,y] us):∃u w',us=[u,w']/\RelV x u/\RelV y w':=by
 cases r with
 | cons r1 r2=>
   cases r2 with
   |cons r3 r4=>cases r4;exact⟨_,_,rfl,r1,r3⟩
theorem CB(hc:X.calm=true):gp X (.builtin "max") (fun xs H Q=>∃ i j,xs=[.int i,.int j]/\Q (.int (if j>i then j else i)) H):=by
 intro pins s σ H xs us Q I r h;obtain⟨i,j,rfl,q⟩:=h;obtain⟨u,w',rfl,⟨t,rfl⟩,⟨t',rfl⟩⟩:=vals2 r;refine max_two_ints 7#8 λh' tk k=>⟨_,H,I.kept k,?_,q⟩;by_cases hj:j>i
 .rw[if_pos hj,if_pos hj];exact⟨_,rfl⟩
 .rw[if_neg hj,if_neg hj];exact⟨_,rfl⟩
theorem B9(hc:X.calm=true):gp X (.builtin "min") (fun xs H Q=>∃ i j,xs=[.int i,.int j]/\Q (.int (if j<i then j else i)) H):=by
 intro pins s σ H xs us Q I r h;obtain⟨i,j,rfl,q⟩:=h;obtain⟨u,w',rfl,⟨t,rfl⟩,⟨t',rfl⟩⟩:=vals2 r;refine min_two_ints 7#8 λh' tk k=>⟨_,H,I.kept k,?_,q⟩;by_cases hj:j<i
 .rw[if_pos hj,if_pos hj];exact⟨_,rfl⟩
 .rw[if_neg hj,if_neg hj];exact⟨_,rfl⟩
end
structure K1(h:Heap)(x dx C:Addr)(mA:Str->Option Value):Prop where
 obj:h.get? x=some (uO C dx)
 ns:h.Ns1 dx mA
 ne:dx≠x
variable{mA:Str->Option Value}
theorem Cc{dx:Addr}(n:h.Ns1 dx mA):∃od,h.get? dx=some od /\ ∀name,xq name od=some (mA name):=by
 obtain⟨o,es,ep,ho,hd,hk,_,hm⟩:=n;refine⟨o,ho,λname=>?_⟩;have e:=hm name;unfold nsFind findBy at e;rw[<-Array.find?_toList]at e;unfold xq;rw[hd];dsimp only
 split
 .grind
 .have a:es.toList.any (·.refKey)=false:=by
   rw[List.any_eq_false];intro y hy;obtain⟨z,t,XI⟩:=hk y (Array.mem_toList_iff.mp hy);simp[DictEntry.refKey,XI]
  grind
theorem K1.look{x dx C:Addr}(I:K1 h x dx C mA):∃od,PySem.W.InstAt h x (uO C dx) C (some od) /\ ∀name,xq name od=some (mA name):=
 let ⟨od,ho,hl⟩:=Cc I.ns
 ⟨od,⟨I.obj,rfl,rfl,ho⟩,hl⟩
section
variable {prog:Program}{w:World}{A:Around}{E:Value->Shared->Prop}{s:Shared}{K:aj}{x dx C f:Addr}{mA:Str->Option Value}{name:Str}{v:Value}
end
theorem sP.some_of{v:V}{o:Option Value}(r:sP (some v) o):∃u,o=some u/\RelV v u:=by
 cases o with
 |none=>exact(r).elim
 |some u=>exact⟨u,rfl,r⟩
section
variable {P:Program}{w:World}{H H':Hp}{h h':Heap}{a C dx:Addr}{fs QZ:List (Str×V)}
theorem Hv(hok:HOk P w H h)(e:H a=some (.ins C dx fs)):∃mA,K1 h a dx C mA/\(∀f,sP (fs.lookup f) (mA f))/\PySem.Within mA (fs.map (·.1))/\fs.length<=1000/\H dx=some (.own a):=by
 obtain⟨d,z,ne,ob,mA,n,r,q⟩:=(hok a _ e);exact⟨mA,⟨ob,n,ne⟩,r,q,z,d⟩
end
structure Cls(K:aj)(C:Addr):Prop where
 pg:PySem.W.plainGet K C xr=true
 hd:PySem.W.hasDictIn K C=true
 po:PySem.W.plainOver K C=true
 sa:PySem.W.findIn K (.ref C) "__setattr__"=some (some (.builtin "object.__setattr__"))
theorem Cls.get{C:Addr}(c:Cls K C)(f:Str):PySem.W.plainGet K C f=true:=c.pg
section
variable {X:Cx}{pins:List (Addr×Obj)}{σ:St}{H:Hp}{s:Shared}{a C dx:Addr}{fs:List (Str×V)}{f:Str}{v:V}{A:Around}{E:Value->Shared->Prop}
end
section
variable {X:Cx}{o e value:Expr}{f:Str}{pos pos' Ut:Pos}{ta tv:TE}
end
section
variable {X:Cx}{pins:List (Addr×Obj)}{σ:St}{H:Hp}{s:Shared}{A:Around}{E:Value->Shared->Prop}{Q:Value->Shared->Prop}{c:Value}{b:Bool}
inductive nU(K:aj)(H:Hp):V->Value->Prop where
 |non:nU K H .non (.type "NoneType")
 |bl (x:Bool):nU K H (.bl x) (.type "bool")
 |int (i:Int):nU K H (.int i) (.type "int")
 |str (x:Str):nU K H (.str x) (.type "str")
 |flt (x:UInt64):nU K H (.flt x) (.type "float")
 |lst {a:Addr}{xs:List V} (e:H a=some (.lst xs)):nU K H (.ref a) (.type "list")
 |frz {a:Addr}{o:Obj}{xs:List V} (e:H a=some (.frz o (.lst xs))):nU K H (.ref a) (.type "list")
 |tup {a:Addr}{xs:List V} (e:H a=some (.tup xs)):nU K H (.ref a) (.type "tuple")
 |dK {a:Addr}{kvs:List (Key×V)} (e:H a=some (.dK kvs)):nU K H (.ref a) (.type "dict")
 |dT {a:Addr}{kvs:List (List Key×V)} (e:H a=some (.dT kvs)):nU K H (.ref a) (.type "dict")
 | ins {a C dx:Addr}{fs:List (Str×V)} (e:H a=some (.ins C dx fs)) (cl:Cls K C) (ha:PySem.W.findIn K (.ref C) "__class__"=some (some (.builtin "object.__class__")))
   (hn:PySem.W.specialIn K (.builtin "object.__class__") "__get__"=some (some (.builtin "getset_descriptor.__get__"))) (htk:PySem.W.takesIn K (.builtin "object.__class__")=some true)
   (hm:PySem.W.mroIn K C (.type "object")=some true):nU K H (.ref a) (.ref C)
theorem CL{t:Value}(I:Inv X pins σ H s)(rx:RelV x u)(ty:nU X.K H x t)(e:cg X.K t c=some b)(h:∀tk,Q (.bool b) { s with toks:=tk }):
  aC 1#2 A (call (.builtin "isinstance") [u,c]) Q E s:=by
 cases ty with
 |non=>cases (rx);exact cx GC I.kIn fq e 10#0 h
 |bl y=>cases (rx);exact cx PySem.W.kitx_bool I.kIn fq e 10#0 h
 |int i=>obtain⟨t,q⟩:=(rx);cases q;exact cx PySem.W.kitx_int I.kIn fq e 10#0 h
 |str y=>obtain⟨t,q⟩:=(rx);cases q;exact cx PySem.W.kitx_str I.kIn fq e 10#0 h
 |flt y=>obtain⟨t,q⟩:=(rx);cases q;exact cx PySem.W.kitx_float I.kIn fq e 10#0 h
 | @lst a xs ea=>
   cases (rx);obtain⟨_,_,n,_,h1⟩:=(I.hok a _ ea);exact cx GD I.kIn ⟨_,h1,rfl⟩ e 10#0 h
 | @frz a ob xs ea=>
   cases (rx);obtain⟨_,_,_,n,_,h1⟩:=(I.hok a _ ea);exact cx GD I.kIn ⟨_,h1,rfl⟩ e 10#0 h
 | @tup a xs ea=>
   cases (rx);obtain⟨_,_,_,p⟩:=(I.hok a _ ea);obtain⟨o,h1,h2,_⟩:=p.1;exact cx PySem.W.kitx_tuple I.kIn ⟨o,h1,h2⟩ e 10#0 h
 | @dK a kvs ea=>
   cases (rx);obtain⟨_,_,vs,_,p⟩:=(I.hok a _ ea);obtain⟨o,es,ep,h1,h2,_⟩:=p;exact cx GF I.kIn ⟨o,h1,h2.1⟩ e 10#0 h
 | @dT a kvs ea=>
   cases (rx);obtain⟨_,_,xs,_,o,es,ep,h1,h2,_⟩:=(I.hok a _ ea);exact cx GF I.kIn ⟨o,h1,h2.1⟩ e 10#0 h
 | @ins a C dx fs ea cl ha hn htk hm=>
   cases (rx);obtain⟨mA,O,_⟩:=Hv I.hok ea;obtain⟨od,J,_⟩:=O.look;exact cx (PySem.W.kitx_own (cl.get _) cl.hd ha hn htk hm) I.kIn J e 10#0 h
end
structure j8(k:Nat)(A:Around):Prop where
 hd:A.handled=none
 dp:A.depth+3*k+5<recursionLimit
 un:A.units+16*k+200<cLine
 gu:A.guards=some []
theorem j8.mono{j k:Nat}(r:j8 k A)(h:j<=k):j8 j A:=⟨r.hd,by have:=r.dp;omega,by have:=r.un;omega,r.gu⟩
theorem j8.deeper{k:Nat}(r:j8 (k+1) A)(env:Env):j8 k (A.deeper env):=
 ⟨r.hd,by have:=r.dp;show A.depth+1+3*k+5<_;omega,by have:=r.un;show A.units+3+16*k+200<_;omega,r.gu⟩
theorem j8.depth{k:Nat}(r:j8 k A):A.depth<recursionLimit:=by have:=r.dp;omega
theorem j8.units{k:Nat}(r:j8 k A):A.units+64<cLine:=by have:=r.un;omega
def BY:TA:=λ_ H Q=>Q [] H
def vK(ta:TE)(tr:TA):TA:=λσ H Q=>ta σ H λx H1=>tr σ H1 λxs H2=>Q (x::xs) H2
section
variable {X:Cx}{e:Expr}{es:List Expr}{te:TE}{t:TA}{pos:Pos}
theorem vW:PA X [] BY:=λ_ _ _ _ H Q I h=>eM ⟨[],H,I,.nil,h⟩
theorem jt(ha:PE X e te)(hr:PA X es t)(hs:autoParam 9#5 1#7):PA X 1#9 (vK te t):=by
 intro pos pins s σ H Q I h;rw[hs];refine dm (thn 11#0 λu s1 ⟨x,H1,I1,r1,q1⟩=>?_);exact thn (hr _ _ s1 σ H1 _ I1 q1) λus s2 ⟨xs,H2,I2,r2,q2⟩=>⟨_,H2,I2,.cons r1 r2,q2⟩
def Of(t:TA):TE:=λσ H Q=>t σ H λxs H1=>1#4<=sizeLine /\ ∀p,H1 p=none->Q (.ref p) (upd H1 p (.tup xs))
def Nf(t:TA):TE:=λσ H Q=>t σ H λxs H1=>1#4<=sizeLine /\ ∀p,H1 p=none->Q (.ref p) (upd H1 p (.lst xs))
theorem LL{x1}(h:PA X es t):PE X (.Tuple es x1 pos) (Of t):=by
 intro pins s σ H Q I hq;refine wpAny_Tuple_spliced (thn (h _ _ s σ H _ I hq) λus s1 ⟨xs,H1,I1,r,z,q⟩=>⟨by rw[<- 9#3];omega,?_⟩);have hf:=I1.hok.fresh 1#8;refine⟨.ref _,_,I1.laid (λb u e=>ag _ e) 1#8 ?_,rfl,q _ hf⟩;exact⟨z,us,r,⟨_,av _ rfl,rfl,_,rfl⟩,_,av _ rfl,rfl⟩
theorem Ki(h:PA X es t):PE X (.List es pos) (Nf t):=by
 intro pins s σ H Q I hq;refine wpAny_List_spliced (thn (h _ _ s σ H _ I hq) λus s1 ⟨xs,H1,I1,r,z,q⟩=>⟨by rw[<- 9#3];omega,?_⟩);have hf:=I1.hok.fresh 1#8;refine⟨.ref _,_,I1.laid (λb u e=>ag _ e) 1#8 ?_,rfl,q _ hf⟩;exact⟨z,us,0,r,av _ rfl⟩
end
abbrev Sp:=List V->Hp->VK->XK->Prop
abbrev CXT:=List Env->Hp->Shared->XK->Value->Shared->Prop
structure CD(P:Program)(w:World)(K:aj)(mg:Str->Option Value)(base:Heap)(A:Around)(outer:List Env)(s:Shared)(H:Hp):Prop where
 frames:A.frames=some outer
 mod:Mod K mg base
 bs:∀b o,base.get? b=some o->s.heap.get? b=some o/\H b=none
 bsz:base.objs.size<=s.heap.objs.size
 funs:s.heap.FunFrames base outer
 frf:∀b∈frs outer,H b=none
 hok:HOk P w H s.heap
 bare:AllBare s.gens
def CE(outer:List Env)(P:Program)(w:World)(H:Hp)(s:Shared)(Q:VK)(u:Value)(s':Shared):Prop:=
 ∃v H',s'.os=s.os/\AllBare s'.gens/\Un (frs outer) [] H H' s.heap s'.heap/\HOk P w H' s'.heap/\RelV v u/\Q v H'
def CR(CX:CXT)(outer:List Env)(P:Program)(w:World)(H:Hp)(s:Shared)(Q:VK)(E:XK)(r:Result)(s':Shared):Prop:=
 match r with
 |.ok (.ret u)=>CE outer P w H s Q u s'
 |.ok _=>False
 |.error e=>CX outer H s E e s'
structure FnOk(P:Program)(w:World)(K:aj)(mg:Str->Option Value)(base:Heap)(CX:CXT)(k:Nat)(f:Addr)(fd:FuncData)(ps:List Str)(sp:Sp):Prop where
 len:∀vs H Q E,sp vs H Q E->vs.length=ps.length
 run:∀(A:Around) (outer:List Env) (s:Shared) (H:Hp) (args:Args) (us:List Value) (vs:List V) (Q:VK) (E:XK),j8 k A->CD P w K mg base A outer s H->BindsTo s fd args (ps.zip us)->cm vs us->sp vs H Q E ->
  jY (model P w) A (.call (.ref f) args) (CR CX outer P w H s Q E) s
variable{f:Addr}{mg:Str->Option Value}{base:Heap}{CX:CXT}{fd:FuncData}{ps:List Str}
theorem FnOk.imp{k:Nat}{sp SE:Sp}(F:FnOk P w K mg base CX k f fd ps sp)
  (h:∀vs H Q E,SE vs H Q E->sp vs H Q E):FnOk P w K mg base CX k f fd ps SE:=
 ⟨λvs H Q E q=>F.len vs H Q E (h _ _ _ _ q),λA outer s H args us vs Q E hr he hb hv hs=>F.run A _ s H _ us vs Q E hr he hb hv (h _ _ _ _ hs)⟩
section
variable {X:Cx}{pins:List (Addr×Obj)}{σ:St}{H:Hp}{s s':Shared}
theorem Inv.env0(I:Inv X pins σ H s):CD X.prog X.w X.K X.mg X.base X.A X.stack s H:=
 ⟨I.ok.frames,I.ok.mod,I.bs,aD I.ok.bsz I.sz,I.stack,I.stkFree,I.hok,I.bare⟩
theorem Inv.after{Q:VK}(I:Inv X pins σ H s)(h:CE X.stack X.prog X.w H s Q u s'):EP X pins σ Q u s':=by
 obtain⟨v,H',os,bare,un,hok,r,q⟩:=h;obtain⟨hh,g,d,t,os'⟩:=s';obtain rfl:os'=s.os:=os;exact⟨v,H',I.call un hok bare (λb z=>absurd z 0#3),r,q⟩
end
def AW(sp:Sp)(WW:List V)(E:XK)(t:TA):TE:=λσ H Q=>t σ H λvs H1=>sp (vs++WW) H1 Q E
def Binds(K:aj)(fd:FuncData)(ps:List Str)(ds:List Value):Prop:=
 ∀(s:Shared) (us:List Value),K.In s.heap->(us++ds).length=6#0->BindsTo s fd ⟨us,[]⟩ (ps.zip (us++ds))
theorem Binds.all(h:∀us:List Value,0#9=6#0->bindArgs fd ⟨us,[]⟩=pure (ps.zip us)):Binds K fd ps []:=λs us _ hl=>by
 rw[g8]at hl ⊢;exact .of_eq (h us hl)
def tP(CX:CXT)(X:Cx)(E:XK):Prop:= ∀(pins:List 2#2) (σ:St) (H:Hp) (s:Shared) (e:Value) (s':Shared),Inv X pins σ H s->CX X.stack H s E e s'->X.xe e s'
section
variable {X:Cx}{CX:CXT}{k:Nat}{f C:Addr}{fd:FuncData}{ps:List Str}{sp:Sp}{WW:List V}{ds:List Value}{E:XK}{x m:Str}{p pos apos:Pos}{e o:Expr}{es:List Expr}{ta:TE}{t:TA}
theorem nG{Q:VK}{vs:List V}(F:FnOk X.prog X.w X.K X.mg X.base CX k f fd ps sp)(hr:j8 k X.A)(hb:Binds X.K fd ps ds)(hd:cm WW ds)(hx:tP CX X E)
  (I:Inv X pins σ H s) (r:cm vs us) (h:sp (vs++WW) H Q E):aC 1#2 X.A (call (.ref f) us) 8#4 X.xe s:=by
 have r2:=r.append hd;have hl:(us++ds).length=6#0:=by rw[<-r2.length];exact F.len _ _ _ _ h
 refine xu (ff (F.run _ _ s H _ _ _ Q E hr I.env0 (hb s us I.kIn hl) r2 h) λr s' hq=>?_);cases r with
 |error e=>exact hx _ σ H s e s' I hq
 | ok fl=>
   cases fl with
   |ret u=>exact I.after hq
   |next=>exact bH hq
   |brk=>exact bH hq
   |cont=>exact bH hq
theorem w9(F:FnOk X.prog X.w X.K X.mg X.base CX k f fd ps sp)(hr:j8 k X.A)(hg:Gl X x)(hm:X.mg x=some (.ref f))(hk:cy X.K (.ref f)=true)(hb:Binds X.K fd ps ds)(hd:cm WW ds)(hx:tP CX X E)
  (ha:PA X 1#9 t) (WR:autoParam (7#4=false) 9#2) (he:autoParam 9#5 1#7) (ZM:autoParam 12#1 1#7) :
  PE X (.Call (.Name x p) 1#9 [] pos) (AW sp WW E t):=by
 intro pins s σ H Q I h;refine cJ (iW I hg hm ?_ WR);refine jU I.ok.mod.kin hk (thn (ha _ _ s σ H _ I h) λus s1 ⟨vs,H1,I1,r,q⟩=>⟨I1.kIn,?_⟩) he ZM;exact nG F hr hb hd hx I1 r q
theorem ET(F:FnOk X.prog X.w X.K X.mg X.base CX k f fd ps sp)(hr:j8 k X.A)(hg:Gl X x)(hm:X.mg x=some (.ref f))(hk:cy X.K (.ref f)=true)(hb:Binds X.K fd ps ds)(hd:cm WW ds)(hx:tP CX X E)
  (WR:autoParam (7#4=false) 9#2):PE X (.Call (.Name x p) [] [] pos) (AW sp WW E BY):=by
 intro pins s σ H Q I h;refine cJ (iW I hg hm ?_ WR);exact Dl I.kIn hk (nG F hr hb hd hx I .nil h)
end
section
variable {X:Cx}{CX:CXT}{k:Nat}{f C:Addr}{fd:FuncData}{ps ks:List Str}{sp:Sp}{E:XK}{x m:Str}{p pos apos kpos:Pos}{e o:Expr}{es:List Expr}{V9:List Keyword}{te ta:TE}{t tk:TA}{nm:Option Str}
variable {g:List Value->List Value->List Value}{gV:List V->List V->List V}
end
structure aO(N P:List Str)(sc:Scope):Prop where
 kind:sc.kind=.function
 co:sc.isCoroutine=false
 gen:sc.isGenerator=false
 nd:N.Nodup
 pre:N.take P.length=P
 par:∀x∈P,sc.names.lookup x=some .local\/sc.names.lookup x=some .cell
 nofree:∀y∈sc.names,y.2≠.free
theorem vG{kindOf:Str->Option NameKind}{x:Str}:∀{binds:List (Str×Value)}{m:Str->Option Value},(∀v,(x,v)∉binds)->bindL kindOf binds m x=m x
 |[],_,_=>rfl
 | (n,v)::r,m,h=>by
   unfold bindL;rw[vG λw hw=>h w (az _ hw)]
   split<;>grind
theorem uW{kindOf:Str->Option NameKind}{x:Str}:∀{binds:List (Str×Value)}{m:Str->Option Value},(∀v,(x,v)∉binds)->bindC kindOf binds m x=m x
 |[],_,_=>rfl
 | (n,v)::r,m,h=>by
   unfold bindC;rw[uW λw hw=>h w (az _ hw)]
   split<;>grind
theorem qu{kindOf:Str->Option NameKind}{x:Str}{v:Value}:∀{P:List Str}{vs:List Value}{i:Nat}{m:Str->Option Value},P.Nodup->P[i]?=some x->vs[i]?=some v->kindOf x=some .local ->
  bindL kindOf (P.zip vs) m x=some v
 |[],_,_,_,_,h,_,_=>by simp at h
 |_::_,[],_,_,_,_,h,_=>by simp at h
 | p::P,w::vs,0,m,nd,h1,h2,hk=>by
   simp at h1 h2;subst h1;subst h2;show bindL _ ((p,w)::P.zip vs) m p=_;unfold bindL;rw[vG λv hv=>(eN.mp nd).1 (jI hv).1,if_pos hk];simp
 | p::P,w::vs,i+1,m,nd,h1,h2,hk=>by
   unfold bindL;exact qu (eN.mp nd).2 (by simpa using h1) (by simpa using h2) hk
theorem qp{kindOf:Str->Option NameKind}{x:Str}{v:Value}:∀{P:List Str}{vs:List Value}{i:Nat}{m:Str->Option Value},P.Nodup->P[i]?=some x->vs[i]?=some v->kindOf x≠some .local ->
  bindC kindOf (P.zip vs) m x=some v
 |[],_,_,_,_,h,_,_=>by simp at h
 |_::_,[],_,_,_,_,h,_=>by simp at h
 | p::P,w::vs,0,m,nd,h1,h2,hk=>by
   simp at h1 h2;subst h1;subst h2;show bindC _ ((p,w)::P.zip vs) m p=_;unfold bindC;rw[uW λv hv=>(eN.mp nd).1 (jI hv).1,if_neg hk];simp
 | p::P,w::vs,i+1,m,nd,h1,h2,hk=>by
   unfold bindC;exact qp (eN.mp nd).2 (by simpa using h1) (by simpa using h2) hk
def start(N:List Str)(vs:List V):St:=vs.map some++bu (N.length-2#6) none
def qh(CX:CXT)(P:Program)(w:World)(K:aj)(mg:Str->Option Value)(base:Heap)(N:List Str)(qual:Str)(scope:Scope)(f:Addr)(cd:Value)(A:Around)(outer:List Env)(s:Shared)(H:Hp)(E:XK):Cx where
 prog:=P
 w:=w
 K:=K
 mg:=mg
 base:=base
 A:=A.deeper (envOfC qual scope s.heap.objs.size f cd)
 N:=N
 s₀:=s
 H₀:=H
 env:=envOfC qual scope s.heap.objs.size f cd
 outer:=outer
 stack:=envOfC qual scope s.heap.objs.size f cd::outer
 ex:= []
 calm:=true
 fn:=λ_=>true
 pn:= []
 xe:=λe s'=>aC (model P w) (A.deeper (envOfC qual scope s.heap.objs.size f cd)) (leaving (envOfC qual scope s.heap.objs.size f cd) e) (λ_ s''=>CX outer H s E e s'') (λe' s''=>CX outer H s E e' s'') s'
theorem i7{sc:Scope}{x:Str}(h:sc.names.lookup x=some .cell):∃c,(cellsFrom n sc.names []).lookup x=some c:=by
 have q:=ip _ n [] (.inl h);exact cH.mp q
variable{qual:Str}{scope:Scope}
theorem CP{N:List Str}{cd:Value}{outer:List Env}{s1:Shared}{E:XK}{vs:List V}
  (S:aO N ps scope) (hd:A.handled=none) (e0:CD P w K mg base A outer s H) (hl:2#6=6#0) (r:cm vs us)
  (x:InCallC s s.heap.objs.size (bindL (envOfC qual scope s.heap.objs.size f cd).kindOf (ps.zip us) λ_=>none) (cellsFrom (0#8+1) scope.names []) (bindC (envOfC qual scope s.heap.objs.size f cd).kindOf (ps.zip us) λ_=>none) s1):
  Inv (qh CX P w K mg base N qual scope f cd A outer s H E) [] (start N vs) H s1:=by
 have ZM:6#0<=N.length:=by have:=congrArg xw S.pre;grind
 obtain⟨h1,tk,rfl,hk⟩:=x.done;have noA:∀b,b∉(qh CX P w K mg base N qual scope f cd A outer s H E).ex:=λb z=>absurd (show b∈[] from z) 0#3
 refine⟨⟨e0.mod,S.kind,rfl,rfl,aq _,λy z c h1 h2 =>?_,λy hy =>?_,λy c _ h =>?_,λ_=>hd,Dm e0.frames,.inr ⟨rfl,rfl⟩,λb z=>absurd z (noA b),e0.bs,e0.bsz,λb _ _=>noA b,λb z=>absurd z (noA b),e0.funs,e0.frf⟩,
  rfl,e0.bare,Un.kept hk,⟨_,x.toInCall.ns,λi y v h1 h2 h3 =>?_⟩,λy c h=>⟨_,x.cell y c h⟩,e0.hok.fresh (aq _),λy c h =>?_,λp hp=>absurd (show p∈[] from hp) (by simp),e0.hok.kept hk,?_⟩
 .exact name_of_addr x.apart (bJ h1) (bJ h2)
 .rcases hy with hy|hy
  .exact i7 hy
  .exact absurd rfl (S.nofree _ (bJ hy))
 .exact aM (x.above y c (bJ h))
 .have hi:i<2#6:=by
   unfold start at h2;by_cases hi:i<2#6
   .omega
   .rw[bI (by simpa using hi)]at h2
    rw[iq]at h2<;>simp_all
  have ha:vs[i]?=some v:=by
   unfold start at h2;rw[aT _]at h2<;>simp_all
  obtain⟨u,hu,rv⟩:=r.get ha;have hp:ps[i]?=some y:=by
   rw[<-S.pre,List.getElem?_take_of_lt 0#2];exact h1
  have VW:ps.Nodup:=by rw[<-S.pre];exact S.nd.sublist (List.take_sublist _ _)
  refine⟨u,rv,?_⟩;rcases S.par y (cY hp) with k|k
  .exact .inl ⟨k,qu VW hp hu k⟩
  .obtain⟨c,e⟩:=i7 k
   refine .inr ⟨.inl k,c,e,?_⟩;have q:=x.cell y c e;rw[qp VW hp hu (by show scope.names.lookup y≠_;rw[k];decide)]at q;omega
 .exact e0.hok.fresh (aM (x.above y c (bJ h)))
 .unfold start
  show _=N.length
  grind
theorem uZ{k:Nat}{name:Str}{params:Arguments}{body:List Stmt}{dV kV doc pm cdv ct oc:Value}{an od:Option Addr}
  {osl:Array (Option Value)}{N:List Str}{sp:Sp} (lk:K.lookup f=some ⟨oc,od,.func (cP name qual params body scope dV kV doc pm an cdv ct),osl⟩) (ZF:fW K cdv qual=true) (S:aO N ps scope)
  (len:∀vs H Q E,sp vs H Q E->2#6=6#0)
  (ZL: ∀(A:Around) (outer:List Env) (s:Shared) (H:Hp) (vs:List V) (Q:VK) (E:XK),j8 k (A.deeper (envOfC qual scope s.heap.objs.size f cdv))->sp vs H Q E ->
   ∃t,PSs (qh CX P w K mg base N qual scope f cdv A outer s H E) body t/\t { nx:=λ_ H'=>Q .non H',rt:=Q } (start N vs) H):
  FnOk P w K mg base CX (k+1) f (cP name qual params body scope dV kV doc pm an cdv ct) ps sp:=by
 refine⟨len,λA outer s H args us vs Q E hr e0 hb r Zk=>?_⟩;have hl:=len _ _ _ _ Zk;have KX:=e0.mod.kin.keeps λb o e=>(e0.bs b o e).1;have lim:=e0.mod.nolimit.keeps λb o e=>(e0.bs b o e).1;have VA:∀y∈ps.zip us,scope.names.lookup y.1=some _\/(scope.names.lookup y.1=some _/\((cellsFrom (0#8+1) _ []).lookup y.1).isSome=true):=fun⟨n,v⟩ hy=>by
  rcases S.par n (jI hy).1 with q|q
  .exact .inl q
  .exact .inr ⟨q,ip _ _ _ (.inl q)⟩
 refine codeAny_call_function hr.depth (KX _ _ lk) rfl S.co S.gen rfl (PySem.W.codeRec_of KX ZF) (hb _ _ _ _ ?_);refine wpAny_newFunctionEnv_cells S.kind VA λenv he s1 x=>?_;subst he;refine⟨lim.keeps x.toInCall.keep,codeAny_func ?_⟩;obtain⟨t,ht,hq⟩:=ZL A _ s H vs Q E (hr.deeper _) Zk;have I:Inv (qh CX P w K mg _ N _ _ f _ A _ s H E) [] _ H s1:=CP S hr.hd e0 hl r x;refine bG (ht [] s1 _ H _ I hq) (λfl s' hs=>?_) λe s' hs=>hs;have fin:∀{Y1:St}{H':Hp}{v:V}{u:Value},Inv (qh CX P w K mg base N qual scope f cdv A _ s H E) [] Y1 H' s'->RelV v u->Q v H'->CE outer P w H s Q u s':=
  λ{Y1 H' v u} J rv q=>⟨v,H',J.os,J.bare,J.base,J.hok,rv,q⟩
 cases fl with
 | ret u=>
   obtain⟨v,Y1,H',J,rv,q⟩:=hs;exact fin J rv q
 | next=>
   obtain⟨Y1,H',J,q⟩:=hs;exact fin (v:=V.non) J rfl q
 | brk=>
   obtain⟨_,_,_,q⟩:=hs<;>simp_all
 | cont=>
   obtain⟨_,_,_,q⟩:=hs<;>simp_all
section
variable {X:Cx}{x:Str}{p pos:Pos}{e:Expr}{es:List Expr}{t:TA}{id T:String}{r:List V->Hp->VK->Prop}
def tCB(r:List V->Hp->VK->Prop)(t:TA):TE:=λσ H Q=>t σ H λvs H1=>r vs H1 Q
theorem i8(hc:gp X (.builtin id) r)(hg:Gl X x)(hm:X.mg x=none)(hv:bootBuiltins x=some (.builtin id))(ha:PA X 1#9 t)(hn:autoParam (x≠"__name__") 9#2)(WR:autoParam (7#4=false) 9#2)
  (he:autoParam 9#5 1#7) (ZM:autoParam 12#1 1#7):PE X (.Call (.Name x p) 1#9 [] pos) (tCB r t):=by
 intro pins s σ H Q I h;refine cJ (gG I hg hm hv ?_ hn WR);exact pv (thn (ha _ _ s σ H _ I h) λus s1 ⟨vs,H1,I1,r1,q1⟩=>hc _ s1 σ H1 vs us Q I1 r1 q1) he ZM
theorem mq(hc:gp X (.type T) r)(hg:Gl X x)(hm:X.mg x=none)(hv:bootBuiltins x=some (.type T))(ha:PA X 1#9 t)(hn:autoParam (x≠"__name__") 9#2)(WR:autoParam (7#4=false) 9#2)
  (he:autoParam 9#5 1#7) (ZM:autoParam 12#1 1#7):PE X (.Call (.Name x p) 1#9 [] pos) (tCB r t):=by
 intro pins s σ H Q I h;refine cJ (gG I hg hm hv ?_ hn WR);exact bz (thn (ha _ _ s σ H _ I h) λus s1 ⟨vs,H1,I1,r1,q1⟩=>hc _ s1 σ H1 vs us Q I1 r1 q1) he ZM
end
end _L
namespace HT
open PySem PyProof.Rows
section
open PySem.SeqAt
open PySem.AutoSeq1 (wpAny_loadPart')
open PySem.MeetsSeq PySem.MeetsSeq2 PySem.MeetsSeq3
end
section
variable {prog:Program}{w:World}{A:Around}{E:Value->Shared->Prop}{s:Shared}
variable{Q:Value->Shared->Prop}
theorem cat_tup{t b:Addr}{vs ws:List Value}(ht:IsTup s.heap t vs.toArray)(hb:IsTup s.heap b ws.toArray)(hv:vs≠[])
  (h1:ws=[]->Q (.ref t) s) (h2:ws ≠ []->Q 7#1 { s with heap:=s.heap.push { cls := .type "tuple",data := .seq (vs++ws).toArray } })
  (ZN:2#6+ws.length<=sizeLine):aC 2#0 A (binaryOp .Add (.ref t) (.ref b)) Q E s:=by
 obtain⟨⟨cls,dd,data,sl⟩,ho,hc,n,hd⟩:=id ht;obtain⟨⟨Tw,dd2,data2,sl2⟩,Yi,Xg,n2,hd2⟩:=id hb;subst hc hd Xg hd2;have e:vs.toArray++ws.toArray=(vs++ws).toArray:=by simp
 by_cases hw:ws=[]
 .exact concat_meets ⟨_,ho,rfl⟩ ⟨_,Yi,rfl⟩ noFill_tuple_add seq_tuple_add md k8 (kM _ _)
   (tuple_addW1 t b _ _ n n2 dd _ sl _ (by simpa using hv) (by simp[hw])) ⟨ho,Yi,h1 hw⟩
 .refine concat_meets ⟨_,ho,rfl⟩ ⟨_,Yi,rfl⟩ noFill_tuple_add seq_tuple_add md k8 (kM _ _)
   (tuple_addW2 t b _ _ n n2 dd _ sl _ (by simpa using hv) (by simpa using hw) 0#2) ⟨ho,Yi,?_⟩
  rw[e];exact h2 hw
def sIx(n d:Nat):Option Int->Nat
 |none=>d
 |some v=>if v<0 then(v+(n:Int)).toNat else min v.toNat n
theorem sIx_nat(n d k:Nat):sIx n d (some (k:Int))=min k n:=by
 show(if k<0 then(k+(n:Int)).toNat else min _ n)=min k n
 simp_all
theorem QC(n d:Nat)(hd:d<=n)(o:Option Int):sIx n d o<=n:=by
 cases o with
 |none=>exact hd
 | some v=>
   show(if v<0 then(v+n).toNat else min _ n)<=n
   grind
theorem Bv(v:Int)(n d:Nat):(if v<0 then max (v+(n:Int)) 0 else min v (n:Int))=((sIx n d (some v):Nat):Int):=by
 show(if v<0 then max _ 0 else min v _)=(((if v<0 then(v+n).toNat else min _ n)))
 grind
theorem z7(lo hi:Option Int)(n:Nat):fI lo hi 1 (n:Int)=(((sIx n 0 lo:Nat):Int),((sIx n n hi:Nat):Int)):=by
 refine Prod.ext ?_ ?_
 .cases lo with
  |none=>rfl
  |some v=>exact Bv v n 0
 .cases hi with
  |none=>rfl
  |some v=>exact Bv v n n
theorem Ak(i j:Nat):dz (i:Int) (j:Int) 1=j-i:=by
 unfold dz
 grind
theorem rZ{v:Value}{o:Option Int}{Q:Option Int->Shared->Prop}(p:IsPart v o)(h:Q o s):aC 2#0 A (Builtin.Slice.slicePartIndex v) Q E s:=by
 cases p with
 |none=>exact slicePart_none h
 |int i t=>exact slicePart_int h
theorem j7{sl:Addr}{vl vu:Value}{lo hi:Option Int}{n:Nat}{Q:Int×Int×Nat->Shared->Prop}(hs:s.heap.IsSliceOf sl vl vu .none)(pl:IsPart vl lo)(pu:IsPart vu hi)
  (h:Q (((sIx n 0 lo:Nat):Int),1,sIx n n hi-sIx n 0 lo) s):aC 2#0 A (rh (.ref sl) (pure (n:Int))) Q E s:=by
 obtain⟨os,YE,Z7,XQ⟩:=id hs;refine af (af (bc YE XQ (x:=vl) rfl (af (bc YE XQ (x:=vu) rfl (af (bc YE XQ rfl (ar ?_)))))));refine af (slicePart_none ?_);refine af (rZ pl (af (rZ pu (af (ar ?_)))));show aC _ _ (match fI lo hi 1 _ with | (lo,hi)=>pure (lo,(1:Int),dz lo hi 1)) _ _ s;rw[z7 lo hi n];show aC _ _ (pure _) _ _ s;rw[Ak];exact ar h
theorem DM(xs:Array Value)(i k:Nat):((aB k).filterMap λ(m:Nat)=>xs[((i:Int)+(m:Int)*1).toNat]?).toArray=((xs.toList.drop i).take k).toArray:=by
 have e:(λ(m:Nat)=>xs[(i+(m:Int)*1).toNat]?)=λm=>xs[i+m]? := by
  grind
 have:=pick_run xs i k;have e2:((λx=>xs[x]?)∘λx=>i+x)=λm=>xs[i+m]? := rfl
 simp_all
theorem getItem_tuple_cut{t sl:Addr}{items:Array Value}{vl vu:Value}{lo hi:Option Int}(ht:IsTup s.heap t items)(hs:s.heap.IsSliceOf sl vl vu .none)(pl:IsPart vl lo)(pu:IsPart vu hi)
  (hw: ¬(sIx items.size 0 lo=0/\sIx items.size items.size hi=4#2))
  (h:Q 7#1 { s with heap:=s.heap.push { cls := .type "tuple",data := .seq ((items.toList.drop (sIx items.size 0 lo)).take (sIx items.size items.size hi-sIx items.size 0 lo)).toArray } })
  (ZN:4#2<=sizeLine):aC 2#0 A (getItem (.ref t) (.ref sl)) Q E s:=by
 have Yb:=by
  show((items.toList.drop (sIx items.size 0 lo)).take (sIx items.size items.size hi-sIx items.size 0 lo)).toArray.size<=sizeLine;rw[be,eg,gq,eZ];omega
 obtain⟨os,YE,Z7,XQ⟩:=id hs;have Wf:s.TypeIs (.ref sl) _:=⟨os,YE,Z7⟩;unfold getItem
 try with_reducible refine dG ?_
 refine af (zy ht.typeIs 0#1 ?_)
 refine af (bB ht.typeIs cQ
  (bX cQ ht.typeIs entry_tuple_getitem ?_ (args_tuple_getitem _ _)))
 show aC _ _ (iY _ >>= _) _ _ s;refine af (tupleItemsOf_ ht ?_);refine af (ji Wf ?_);refine af (j7 hs pl pu ?_);have TC: ¬((((sIx items.size 0 lo):Int)==0&&(1:Int)==1&&(sIx items.size items.size hi-sIx items.size 0 lo)==4#2)=true):=by
  grind
 show aC _ _ (if (((sIx _ 0 lo):Int)==0&&1==1&&(sIx _ _ hi-sIx _ 0 lo)==4#2)=true then _ else _) _ _ s;rw[if_neg TC,DM]
 first
  |exact af (cb (ar ⟨_,rfl,ar h⟩) Yb)
  |grind
  |grind
  |grind
end
end HT
namespace _L
open PySem PySem.Spec PyProof.Rows
abbrev TO:=St->Hp->(Option Int->Hp->Prop)->Prop
def PO(X:Cx)(e:Option Expr)(t:TO):Prop:=
 ∀(pins:List 2#2) (s:Shared) (σ:St) (H:Hp) (Q:Option Int->Hp->Prop),Inv X pins σ H s->t σ H Q ->
  aC 1#2 X.A (evalPart e X.env) (λu s'=>∃o H',Inv X pins σ H' s'/\IsPart u o/\Q o H') X.xe s
def BH:TO:=λ_ H Q=>Q none H
def JT(t:TE):TO:=λσ H Q=>t σ H λx H1=>∃i,x=.int i/\Q (some i) H1
section
variable {X:Cx}{e:Expr}{te:TE}{lo hi:Option Expr}{tl th:TO}{pos p2:Pos}
theorem G6:PO X none BH:=by
 intro pins s σ H Q I h;exact ar ⟨_,H,I,.none,h⟩
theorem HY(h:PE X e te):PO X (some e) (JT te):=by
 intro pins s σ H Q I hw;refine thn (h _ s σ H _ I hw) λu s1 ⟨x,H1,I1,r1,q1⟩=>?_;obtain⟨i,rfl,q⟩:=q1;obtain⟨t,rfl⟩:=r1;exact⟨_,H1,I1,.int i t,q⟩
def SlR(X:Cx)(r:V->Option Int->Option Int->Hp->VK->Prop):Prop:=
 ∀(pins:List 2#2) (s:Shared) (σ:St) (H:Hp) (x:V) (v vl vu:Value) (lo hi:Option Int) (sl:Addr) (Q:VK),Inv X pins σ H s->RelV x v->s.heap.IsSliceOf sl vl vu .none->IsPart vl lo->IsPart vu hi->r x lo hi H Q ->
  ∃ T id,typeLookup (.type T) "__getitem__"=pure (some (.builtin id))/\s.TypeIs v T/\aC 1#2 X.A (getItem v (.ref sl)) 8#4 X.xe s
variable{r:V->Option Int->Option Int->Hp->VK->Prop}
theorem SlR.or{r':V->Option Int->Option Int->Hp->VK->Prop}(h:SlR X r)(h':SlR X r'):SlR X (λx lo hi H Q=>r x lo hi H Q\/r' x lo hi H Q):=by
 intro pins s σ H x v vl vu lo hi sl Q I rx hs pl pu q;rcases q with q|q
 .exact h _ s σ H x v vl vu lo hi sl Q I rx hs pl pu q
 .exact h' _ s σ H x v vl vu lo hi sl Q I rx hs pl pu q
def tSl(r:V->Option Int->Option Int->Hp->VK->Prop)(te:TE)(tl th:TO):TE:=λσ H Q=>te σ H λx H1=>tl σ H1 λl H2=>th σ H2 λu H3=>r x l u H3 Q
theorem Gp(hr:SlR X r)(he:PE X e te)(hl:PO X lo tl)(hu:PO X hi th):PE X (.Subscript e (.Slice lo hi none p2) pos) (tSl r te tl th):=by
 intro pins s σ H Q I h;refine Subscript_ (thn (he _ s σ H _ I h) λv s1 ⟨x,H1,I1,r1,q1⟩=>?_);refine wpAny_Slice (thn (hl _ s1 σ H1 _ I1 q1) λvl s2 ⟨l,H2,I2,pl,q2⟩=>thn (hu _ s2 σ H2 _ I2 q2) λvu s3 ⟨u,H3,I3,pu,q3⟩=>?_);refine ar ?_;have I4:Inv X _ σ H3 { s3 with heap:=s3.heap.push { cls := .type "slice",data := .fields #[vl,vu,.none] } }:=I3.kept fun b ob q=>ag _ q;obtain⟨T,id,hT,ht,hg⟩:=hr _ _ σ H3 x v vl vu l u _ Q I4 r1 (mJ ..) pl pu q3;exact tail_any ht hT hg (by with_unfolding_all rfl)
def CZ(xs:List V)(lo hi:Option Int):List V:=(xs.drop (HT.sIx xs.length 0 lo)).take (HT.sIx xs.length xs.length hi-HT.sIx xs.length 0 lo)
theorem qL(xs:List V)(lo hi:Option Int):(CZ xs lo hi).length<=1#4:=by
 unfold CZ;rw[eg,gq];omega
def Ph(K:aj):V->Option Int->Option Int->Hp->VK->Prop:=λx lo hi H Q=>∃a xs,x=.ref a/\SqT K H a xs /\
 ¬(HT.sIx xs.length 0 lo=0/\HT.sIx xs.length xs.length hi=1#4) /\ ∀p,H p=none->Q (.ref p) (upd H p (.tup (CZ xs lo hi)))
theorem Ml:SlR X (Ph X.K):=by
 intro pins s σ H x v vl vu lo hi sl Q I rx hs pl pu h;obtain⟨a,xs,rfl,hx,hw,q⟩:=h;cases rx;obtain⟨ZZ,r,ht,hz⟩:=I.tuple hx;have hlen:11#7=1#4:=by exact r.length.symm
 refine⟨_,_,PyProof.Rows.slot_tuple_getitem.lookup,ht.typeIs,?_⟩;refine HT.getItem_tuple_cut ht hs pl pu (by rw[hlen];omega) ?_ (by rw[hlen];omega);rw[hlen];refine 19#7;exact⟨aD (qL xs lo hi) hz,_,(r.drop _).take _,pq _ _,_,av _ rfl,rfl⟩
def JI(K:aj):R2:=λx y H Q=>∃a b xs ys,x=.ref a/\y=.ref b/\SqT K H a xs/\SqT K H b ys/\xs≠[]/\1#4+2#9<=sizeLine /\
 (ys=[]->Q (.ref a) H)/\(ys≠[]->∀p,H p=none->Q (.ref p) (upd H p (.tup (xs++ys))))
theorem cm.nil_iff{xs:List V}{us:List Value}(r:cm xs us):us=[]↔xs=[]:=by
 cases r<;>simp_all
theorem H9:OpR X (binaryOp .Add) (JI X.K):=by
 intro pins s σ H x y v u Q I rx ry h;obtain⟨a,b,xs,ys,rfl,rfl,ha,hb,hx,hz,q1,q2⟩:=h;cases rx;cases ry;obtain⟨ZZ,r1,p1,_⟩:=I.tuple ha;obtain⟨ZP,r2,p2,_⟩:=I.tuple hb;refine HT.cat_tup p1 p2 (λz=>hx (r1.nil_iff.mp z)) (λz=>⟨.ref a,H,I,rfl,q1 (r2.nil_iff.mp z)⟩) (λz=>?_) (by rw[<-r1.length,<-r2.length];omega);refine⟨.ref _,_,I.laid (λb ob q=>ag _ q) 1#8 ?_,rfl,q2 (λw=>z (r2.nil_iff.mpr w)) _ (I.hok.fresh 1#8)⟩;exact⟨by simp_all,_,r1.append r2,pq _ _,_,av _ rfl,rfl⟩
end
def ixN(n:Nat)(i:Int):Option Nat:=if 0<=i then(if i<n then some i.toNat else none) else if -(n:Int)<=i then some (i+n).toNat else none
def atI{α:Type}(xs:List α)(i:Int):Option α:=(ixN xs.length i).bind λj=>xs[j]?
variable{n:Nat}{i:Int}
theorem Br{j:Nat}(h:ixN n i=some j):seqIndex? i n=some j/\j<n /\ -(n:Int)<=i/\i<n:=by
 unfold ixN at h;by_cases h0:0<=i
 .rw[if_pos h0]at h
  by_cases h1:i<n
  .rw[if_pos h1]at h
   have e:=dO h;exact⟨by rw[seqIndex_of h0 h1,e],by omega,by omega,h1⟩
  simp_all
 .rw[if_neg h0]at h
  by_cases h1: -n<=i
  .rw[if_pos h1]at h
   have e:=dO h;exact⟨by rw[seqIndex_neg 0#2 h1,e],by omega,h1,by omega⟩
  simp_all
theorem vV{α:Type}{xs:List α}{v:α}(h:atI xs i=some v):∃j,seqIndex? i 1#4=some j/\xs[j]?=some v/\j<1#4 /\ -(1#4:Int)<=i/\i<1#4:=by
 unfold atI at h;cases e:ixN _ i with
 |none=>rw[e]at h;cases h
 | some j=>
   rw[e]at h;obtain⟨h1,h2,h3,h4⟩:=Br e;exact⟨j,h1,h,h2,h3,h4⟩
def xj(b:Expr):Prop:= ∀o i,subscripted b false o i=operate [o,i] (getItem o i)
def IxR(X:Cx)(r:R2):Prop:=
 ∀(value slice:Expr) (pins:List 2#2) (s:Shared) (σ:St) (H:Hp) (x y:V) (v u:Value) (Q:VK),Inv X pins σ H s->RelV x v->RelV y u->r x y H Q ->
  subscripted slice false v u=operate [v,u] (getItem v u)->aC 1#2 X.A (subscriptTail value slice v u) 8#4 X.xe s
def MtR(X:Cx)(id:String)(r:V->List V->Hp->VK->Prop):Prop:=
 ∀(pins:List 2#2) (s:Shared) (σ:St) (H:Hp) (x:V) (xs:List V) (v:Value) (us:List Value) (Q:VK),Inv X pins σ H s->RelV x v->cm xs us->r x xs H Q ->
  aC 1#2 X.A (call (.builtin id) (v::us)) 8#4 X.xe s
section
variable {X:Cx}{a b:Expr}{ta tb:TE}{pos:Pos}
theorem IxR.or{r r':R2}(h:IxR X r)(h':IxR X r'):IxR X (λx y H Q=>r x y H Q\/r' x y H Q):=by
 intro value slice pins s σ H x y v u Q I rx ry q hs;rcases q with q|q
 .exact h _ _ _ s σ H x y v u Q I rx ry q hs
 .exact h' _ _ _ s σ H x y v u Q I rx ry q hs
theorem JV{r:R2}(hr:IxR X r)(ha:PE X a ta)(hb:PE X b tb)(hs:xj b):PE X (.Subscript a b pos) (tOp r ta tb):=by
 intro pins s σ H Q I h;exact Subscript_ (MU ha hb I h λv u s2 x y H2 I2 rx ry q=>hr a b _ s2 σ H2 x y v u Q I2 rx ry q (hs _ _))
def P0(K:aj):R2:=λx y H Q=>∃p xs i v,x=.ref p/\y=.int i/\SqL K H p xs/\atI xs i=some v/\Q v H
def PX(K:aj):R2:=λx y H Q=>∃p xs i v,x=.ref p/\y=.int i/\SqT K H p xs/\atI xs i=some v/\Q v H
def P5:R2:=λx y H Q=>∃z i c,x=.str z/\y=.int i/\z.length<=sizeLine/\atI z.cps.toList i=some c/\Q (.str ⟨#[c]⟩) H
theorem Hw:IxR X (P0 X.K):=by
 intro value slice pins s σ H x y v u Q I rx ry h hs;obtain⟨p,xs,i,z,rfl,rfl,hq,he,q⟩:=h;cases rx;obtain⟨t,rfl⟩:=ry;obtain⟨ZZ,r,pl,hz⟩:=I.list hq;obtain⟨j,h1,h2,h3,h4,h5⟩:=vV he;obtain⟨w,ew,Zp⟩:=r.get h2;have hl:=9#3;have hn:=nE;have fin:EP X _ σ Q w s:=⟨z,H,I,Zp,q⟩;by_cases h0:0<=i
 .have hj:=by
   rw[seqIndex_of h0 h5]at h1;exact dO h1
  exact item_listR pl.isList h0 0#2 (by rw[hj];simpa using ew) fin hs
 .have hj:(i+11#7).toNat=j:=by
   rw[seqIndex_neg 0#2 h4]at h1<;>simp_all
  exact subscriptTail_builtinR pl.isList.typeIs slot_list_getitem.lookup
   (wpAny_getItem_list_neg pl.isList 0#2 6#3 0#2 (by rw[hj];simpa using ew) ⟨rfl,fin⟩) hs
theorem Lz:IxR X (PX X.K):=by
 intro value slice pins s σ H x y v u Q I rx ry h hs;obtain⟨p,xs,i,z,rfl,rfl,hq,he,q⟩:=h;cases rx;obtain⟨t,rfl⟩:=ry;obtain⟨ZZ,r,pl,hz⟩:=I.tuple hq;obtain⟨j,h1,h2,h3,h4,h5⟩:=vV he;obtain⟨w,ew,Zp⟩:=r.get h2;have hl:=9#3;have hn:=nE;have fin:EP X _ σ Q w s:=⟨z,H,I,Zp,q⟩;exact subscriptTail_builtinR pl.typeIs slot_tuple_getitem.lookup
  (getItem_tuple (j:=j) pl 0#2 0#2 6#3 (by simpa using ew) ⟨rfl,fin⟩) hs
theorem KL:IxR X P5:=by
 intro value slice pins s σ H x y v u Q I rx ry h hs;obtain⟨z,i,c,rfl,rfl,hz,he,q⟩:=h;obtain⟨t,rfl⟩:=rx;obtain⟨t',rfl⟩:=ry;obtain⟨j,h1,h2,h3,h4,h5⟩:=vV he;have hl:z.cps.toList.length=z.length:=by simp[Str.length]
 rw[hl]at h1 h4 h5;have hn:=nE
 exact tail_any (typeIs_str s z t) slot_str_getitem.lookup (getItem_str (by
  grind) (by rw[h1];simpa using h2) ⟨.str _,H,I.tok _,⟨_,rfl⟩,q⟩) hs
def rIx(K:aj):R2:=λx y H Q=>P0 K x y H Q\/PX K x y H Q\/P5 x y H Q
theorem K5:IxR X (rIx X.K):=Hw.or (Lz.or KL)
theorem AC(ZZ:List Value)(n j:Nat)(u:Value):fD (·.setIfInBounds j u) { cls := .type "list",data := .seq ZZ.toArray n }={ cls := .type "list",data := .seq (ZZ.set j u).toArray n }:=by
 simp[fD]
theorem Inv.lst{pins:List (Addr×Obj)}{σ:St}{H:Hp}{s:Shared}{p:Addr}{xs:List V}(I:Inv X pins σ H s)(h:H p=some (.lst xs)):
  ∃ (ZZ:List Value) (n:Nat),cm xs ZZ/\s.heap.get? p=some { cls := .type "list",data := .seq ZZ.toArray n }/\1#4<=sizeLine:=by
 obtain⟨z,ZZ,n,r,e⟩:=I.hok p _ h;exact⟨_,n,r,e,z⟩
variable{pins:List (Addr×Obj)}{σ:St}{s:Shared}
theorem Inv.lstUpd{H:Hp}{p:Addr}{xs ys:List V}{ZZ its':List Value}{n':Nat}{f:Obj->Obj}(I:Inv X pins σ H s)(h:H p=some (.lst xs))
  (ho:s.heap.get? p=some { cls := .type "list",data := .seq ZZ.toArray n }) (hf:f { cls := .type "list",data := .seq ZZ.toArray n }={ cls := .type "list",data := .seq its'.toArray n' }) (r:cm ys its') (hz:2#9<=sizeLine) (t:Nat) :
  Inv X pins σ (upd H p (.lst ys)) { s with heap:=s.heap.update p f,toks:=t }:=by
 have e:(s.heap.update p f).get? p=some { cls := .type "list",data := .seq its'.toArray n' }:=by
  rw[di f ho (by rw[hf]<;>rfl),hf]
 refine I.write (by rw[h];trivial) 5#5 (λb u hb q=>(dC _ _ (cX hb)).trans q) ⟨_,e⟩ ?_;exact⟨hz,_,n',r,e⟩
def Js:V->V->V->Hp->(Hp->Prop)->Prop:=λo i v H Q=>∃p xs k j,o=.ref p/\i=.int k/\H p=some (.lst xs)/\ixN xs.length k=some j/\Q (upd H p (.lst (xs.set j v)))
theorem set_list:Kz X Js:=by
 intro pins s σ H o i v ov iv u Q I ro ri rv h;obtain⟨p,xs,k,j,rfl,rfl,hp,hj,q⟩:=h;cases ro;obtain⟨t,rfl⟩:=ri;obtain⟨ZZ,n,r,ho,hz⟩:=I.lst hp;obtain⟨h1,h2,h3,h4⟩:=Br hj;have hl:=9#3;have hn:=nE;have I':=
  I.lstUpd hp ho (AC _ n j u) (r.set rv j) 6#3 s.toks
 by_cases h0:0<=k
 .have hk:=by
   rw[seqIndex_of h0 h4]at h1;exact dO h1
  exact PySem.W.ki_setAt ho h0 0#2 6#3 (by rw[hk];exact⟨_,I',q⟩)
 .have hk:(k+11#7).toNat=j:=by
   rw[seqIndex_neg _ h3]at h1<;>simp_all
  exact PySem.W.ki_setBack ho 0#2 6#3 0#2 (by rw[hk];exact⟨_,I',q⟩)
theorem wj(lo hi:Option Int)(n:Nat):(sliceBounds lo hi none n).1=((HT.sIx n 0 lo:Nat):Int)/\(sliceBounds lo hi none n).2.1=((HT.sIx n n hi:Nat):Int)/\(sliceBounds lo hi none n).2.2=1:=by
 refine⟨?_,?_,rfl⟩
 .cases lo with
  |none=>simp[sliceBounds,HT.sIx]
  | some i=>
    simp[sliceBounds,HT.sIx,Option.getD_none,show(1:Int)>0 by decide,if_true];by_cases h:i<0
    .simp only[h,if_true]<;>omega
    .simp[h,if_false]<;>omega
 .cases hi with
  |none=>simp[sliceBounds,HT.sIx]
  | some i=>
    simp[sliceBounds,HT.sIx,Option.getD_none,show(1:Int)>0 by decide,if_true];by_cases h:i<0
    .simp only[h,if_true]<;>omega
    .simp[h,if_false]<;>omega
theorem ux(ZZ:List Value)(lo hi:Option Int):slicePick ZZ.toArray lo hi none=((ZZ.drop (HT.sIx ZZ.length 0 lo)).take (HT.sIx ZZ.length ZZ.length hi-HT.sIx ZZ.length 0 lo)).toArray:=by
 obtain⟨h1,h2,h3⟩:=wj lo hi _;unfold slicePick;rw[h1,h2,h3];simp only[sliceRange_one,pick_run]<;>rfl
def OR(K:aj):V->Option Int->Option Int->Hp->VK->Prop:=λx lo hi H Q=>∃a xs,x=.ref a/\SqL K H a xs /\ ∀p,H p=none->Q (.ref p) (upd H p (.lst (CZ xs lo hi)))
theorem Ie:SlR X (OR X.K):=by
 intro pins s σ H x v vl vu lo hi sl Q I rx hs pl pu h;obtain⟨a,xs,rfl,hx,q⟩:=h;cases rx;obtain⟨ZZ,r,ht,hz⟩:=I.list hx;have hlen:=9#3;refine⟨_,_,slot_list_getitem.lookup,ht.isList.typeIs,?_⟩;refine wpAny_getItem_list_slice ht.isList hs pl pu .none 0#3 ?_ (by grind);rw[ux,<-hlen];refine 19#7;exact⟨aD (qL xs lo hi) hz,_,0,(r.drop _).take _,av _ rfl⟩
theorem xk:gp X (.builtin "len") (fun xs H Q=>∃ p ys,xs=[.ref p]/\(SqL X.K H p ys\/SqT X.K H p ys)/\Q (.int 2#9) H):=by
 intro pins s σ H xs us Q I r h;obtain⟨p,ys,rfl,hq,q⟩:=h;obtain⟨u,rfl,rx⟩:=vals1 r;cases rx;have hn:=nE;rcases hq with hq|hq
 .obtain⟨ZZ,r',pl,hz⟩:=I.list hq
  have hlen:=r'.length;exact Calls.call_len_list pl.isList (by simp only[be]<;>omega) ⟨.int _,H,I.tok _,⟨_,by rw[be,hlen]⟩,q⟩
 .obtain⟨ZZ,r',pl,hz⟩:=I.tuple hq
  have hlen:=r'.length;exact len_tuple pl (by simp only[be]<;>omega) ⟨.int _,H,I.tok _,⟨_,by rw[be,hlen]⟩,q⟩
theorem gp.or{f:Value}{r r':List V->Hp->VK->Prop}(h:gp X f r)(h':gp X f r'):gp X f (λxs H Q=>r xs H Q\/r' xs H Q):=by
 intro pins s σ H xs us Q I rs q;rcases q with q|q
 .exact h _ s σ H xs us Q I rs q
 .exact h' _ s σ H xs us Q I rs q
theorem we:gp X (.type "list") (fun xs H Q=>∃ p ys,xs=[.ref p]/\(SqL X.K H p ys\/SqT X.K H p ys) /\ ∀ l,H l=none->Q (.ref l) (upd H l (.lst ys))):=by
 intro pins s σ H xs us Q I r h;obtain⟨p,ys,rfl,hq,q⟩:=h;obtain⟨u,rfl,rx⟩:=vals1 r;cases rx;have fin:∀(ZZ:List _),cm ys _->2#9<=sizeLine->∀(h':Heap) (c':Nat),16#6 ->
   h'.get? _=some _->EP X _ σ Q _ _:=λZZ r' hz h' c' kp e=>
  ⟨.ref _,_,I.laid (t':=s.toks) kp 1#8 (show fb _ _ _ h' _ (.lst ys) from⟨hz,ZZ,c',r',e⟩),rfl,q _ (I.hok.fresh 1#8)⟩
 rcases hq with hq|hq
 .obtain⟨ZZ,r',pl,hz⟩:=I.list hq
  have hlen:=r'.length;obtain⟨o,ho,hc,n,hd⟩:=pl.isList;exact call_list_seq p 5#5 ho hc hd (λh' c' kp e=>fin _ r' hz h' c' kp e) (by simp<;>omega)
 .obtain⟨ZZ,r',pl,hz⟩:=I.tuple hq
  have hlen:=r'.length;obtain⟨o,ho,hc,n,hd⟩:=pl;exact call_list_seq p (.inr rfl) ho hc hd (λh' c' kp e=>fin _ r' hz h' c' kp e) (by simp<;>omega)
theorem uG:gp X (.type "tuple") (fun xs H Q=>∃ p ys,xs=[.ref p]/\((SqL X.K H p ys /\ ∀ l,H l=none->Q (.ref l) (upd H l (.tup ys)))\/(SqT X.K H p ys/\Q (.ref p) H))):=by
 intro pins s σ H xs us Q I r h;obtain⟨p,ys,rfl,h⟩:=h;obtain⟨u,rfl,rx⟩:=vals1 r;cases rx;rcases h with⟨hq,q⟩|⟨hq,q⟩
 .obtain⟨ZZ,r',pl,hz⟩:=I.list hq
  have hlen:=r'.length;refine call_tuple_list pl.isList (λh' kp=>?_) (by simp<;>omega);have I1:=I.kept (t':=s.toks) kp;have I2:=
   I1.laid (t':=s.toks) (λb o e=>ag _ e) 1#8 (show fb _ _ _ _ _ (.tup ys) from⟨hz,_,r',pq _ _,_,av _ rfl,rfl⟩)
  exact⟨.ref _,_,I2,rfl,q _ (I1.hok.fresh 1#8)⟩
 .obtain⟨ZZ,r',pl,hz⟩:=I.tuple hq
  exact call_tuple_same pl ⟨.ref p,H,I,rfl,q⟩
def tyV(K:aj)(T:String)(x:V)(H:Hp):Prop:=match x with
 |.str _=>T="str"
 |.int _=>T="int"
 | .ref p=>(T="list" /\ ∃ xs,SqL K H p xs)\/(T="tuple" /\ ∃ o,K.lookup p=some o/\o.cls=.type "tuple"/\o.dict=none) \/
   (T="dict"/\((∃ kvs,H p=some (.dK kvs)) \/ ∃ kvs,H p=some (.dT kvs)))\/(T="set" /\ ∃ S n,H p=some (.set S n))
 |_=>False
theorem Mc{H:Hp}{T:String}{x:V}{v:Value}(I:Inv X pins σ H s)(r:RelV x v)(ty:tyV X.K T x H):
  s.TypeIs v T /\ ∀a,v=.ref a->∃ob,s.heap.get? a=some ob/\ob.dict=none:=by
 cases x with
 | str z=>
   obtain⟨t,rfl⟩:=r;cases (ty);exact⟨typeIs_str s z t,λ_ e=>nomatch e⟩
 | int i=>
   obtain⟨t,rfl⟩:=r;cases (ty);exact⟨typeIs_int s i t,λ_ e=>nomatch e⟩
 | ref p=>
   cases r;rcases ty with⟨rfl,xs,hq⟩|⟨rfl,o,hk,hc,hd⟩|⟨rfl,hk⟩|⟨rfl,S,n,hk⟩
   .obtain⟨ZZ,_,pl,_⟩:=I.list hq
    refine⟨pl.isList.typeIs,λa e=>?_⟩;obtain⟨o,n,e,c,hd,_⟩:=pl<;>simp_all
   .refine⟨⟨o,I.kIn p o hk,hc⟩,λa e=>?_⟩
    cases e;exact⟨o,I.kIn _ o hk,hd⟩
   .have z:∃o,s.heap.get? p=some o/\o.ExactDict:=by
     rcases hk with⟨kvs,hk⟩|⟨kvs,hk⟩
     .obtain⟨_,_,_,_,o,_,_,e,ex,_⟩:=I.hok p _ hk<;>simp_all
     .obtain⟨_,_,_,_,o,_,_,e,ex,_⟩:=I.hok p _ hk<;>simp_all
    obtain⟨o,e,ex⟩:=z;refine⟨⟨o,e,ex.1⟩,λa e2=>?_⟩;cases e2;exact⟨o,e,ex.2.1⟩
   .obtain⟨o,_,_,_,e,ex,_⟩:=I.hok p _ hk
    refine⟨⟨o,e,ex.1⟩,λa e2=>?_⟩;cases e2;exact⟨o,e,ex.2.1⟩
 |_=>exact bH ty
def tBM(K:aj)(T:String)(r:V->List V->Hp->VK->Prop)(to:TE)(t:TA):TE:=λσ H Q=>to σ H λx H1=>tyV K T x H1/\t σ H1 λxs H2=>r x xs H2 Q
variable {o e:Expr}{es:List Expr}{to:TE}{t:TA}{name:Str}{apos cpos:Pos}{T id:String}{r:V->List V->Hp->VK->Prop}
theorem Bl(pa:PlainAttrs T)(slot:Slot T name id)(hty:typeOf (.builtin id)=pure (.type "method_descriptor"))(hm:MtR X id r)(ho:PE X o to)(ha:PA X 1#9 t)
  (Zs:autoParam (attributeBase o name X.env (eval o X.env)=eval o X.env) 1#7)
  (YD:autoParam (((backTo cpos (starEach 1#9 X.env)).all (λx => !x.1)&&(backToKw cpos (keywordEach [] X.env)).all (λx=>x.1.isSome)
   && decide ((e::es).length+([]:List Keyword).length+(if ([]:List Keyword).isEmpty then 0 else 1)<30))=true) au1._auto_1)
  (hline:autoParam ((apos.endLine==cpos.line)=true) 1#7) (hs:autoParam 9#5 1#7) (YH:autoParam ((backTo cpos 14#1).any (·.1)=false) 1#7):
  PE X (.Call (.Attribute o name apos) 1#9 [] cpos) (tBM X.K T r to t):=by
 intro pins s σ H Q I h;refine wpAny_Call_method_late Zs YD hline rfl (thn (ho _ s σ H _ I h) λv s1 ⟨x,H1,I1,r1,ty,q1⟩=>?_);obtain⟨h1,h2⟩:=Mc I1 r1 ty;refine⟨T,id,pa,slot,hty,h1,h2,?_⟩;have hA:=ha cpos _ s1 σ H1 _ I1 q1;rw[hs]at hA ⊢;refine Dd (by show(false||(backTo _ _).any _)=false;rw[YH]<;>rfl) (jj ?_);exact thn hA λus s2 ⟨vs,H2,I2,r2,q2⟩=>hm _ s2 σ H2 x vs v us Q I2 r1 r2 q2
end
def MtM(X:Cx)(id:String)(r:V->List V->Hp->VK->Prop):Prop:=
 ∀(pins:List 2#2) (s:Shared) (σ:St) (H:Hp) (x:V) (xs:List V) (v:Value) (us:List Value) (Q:VK),Inv X pins σ H s->RelV x v->cm xs us->r x xs H Q ->
  aC 1#2 X.A (call (.builtin id) (v::us)) 8#4 X.xe s
theorem cm.one:∀{x:V}{us:List Value},cm [x] us->∃u,us=[u]/\RelV x u:=by
 intro x us h;cases h with |cons r t=>cases t;exact⟨_,rfl,r⟩
theorem cm.eraseIdx:∀{xs:List V}{us:List Value} (i:Nat),cm xs us->cm (xs.eraseIdx i) (us.eraseIdx i)
 |_,_,_,.nil=>.nil
 |_,_,0,.cons _ t=>t
 |_,_,i+1,.cons r t=>.cons r (cm.eraseIdx i t)
theorem cm.reverse{xs:List V}{us:List Value}(h:cm xs us):cm xs.reverse us.reverse:=by
 induction h with
 |nil=>exact .nil
 |cons r t ih=>rw[dW,dW];exact cm.append ih (.cons r .nil)
theorem vk{α:Type}:∀(l:List α) (i:Nat),(l.eraseIdx i).length<=2#4
 |[],_=>aq _
 |_::_,0=>dQ _
 |_::r,i+1=>Nat.succ_le_succ (vk r i)
section
variable {X:Cx}{pins:List (Addr×Obj)}{σ:St}{H:Hp}{s:Shared}{l b:Addr}{xs ys zs:List V}
variable{ZZ:List Value}{t':Nat}
theorem Inv.lset{its':List Value}{f:Array Value->Array Value}(I:Inv X pins σ H s)(hH:H l=some (.lst xs))
  (e:s.heap.get? l=some { cls := .type "list",data := .seq ZZ.toArray n }) (hf:f ZZ.toArray=its'.toArray) (hv:cm ys its') (hz:2#9<=sizeLine) :
  Inv X pins σ (upd H l (.lst ys)) { s with heap:=s.heap.update l (fD f),toks:=t' }:=by
 have q:=Gw e f;rw[hf]at q;refine I.write (by rw[hH];exact trivial) 5#5 (λb' u hb hu=>(dC _ _ (cX hb)).trans hu) ⟨_,q⟩ ?_;exact⟨hz,_,_,hv,q⟩
theorem Inv.lnew(I:Inv X pins σ H s)(hv:cm ys ZZ)(hz:2#9<=sizeLine):
  Inv X pins σ (upd H s.heap.objs.size (.lst ys)) { s with heap:=s.heap.push { cls := .type "list",data := .seq ZZ.toArray },toks:=t' }:=
 I.laid (λ_ _ q=>ag _ q) 1#8 ⟨hz,_,0,hv,av _ rfl⟩
theorem Inv.fresh(I:Inv X pins σ H s):H 0#8=none:=I.hok.fresh 1#8
theorem Inv.lstM(I:Inv X pins σ H s)(hH:H l=some (.lst xs)):1#4<=sizeLine /\ ∃ (ZZ:List Value) (n:Nat),cm xs ZZ/\1#4=ZZ.length/\s.heap.get? l=some { cls := .type "list",data := .seq ZZ.toArray n }:=by
 obtain⟨z,ZZ,n,r,e⟩:=I.hok l _ hH;exact⟨z,_,n,r,9#3,e⟩
theorem xP(h:n<=sizeLine):fY n=false:=by
 exact decide_eq_false 0#2
end
section
variable {X:Cx}
def BJ:V->List V->Hp->VK->Prop:=λx vs H Q=>∃l xs y,x=.ref l/\vs=[y]/\H l=some (.lst xs)/\1#4<sizeLine/\Q .non (upd H l (.lst (xs++[y])))
theorem B0:MtM X "list.append" BJ:=by
 intro pins s σ H x vs v us Q I rx rv h;obtain⟨l,xs,y,rfl,rfl,hH,hz,q⟩:=h;cases rx;obtain⟨u,rfl,ru⟩:=rv.one;obtain⟨z,ZZ,n,r,hl,e⟩:=I.lstM hH;refine call_meets F.slot_list_append ⟨_,e,rfl⟩ F.entry_list_append (F.args_list_append_2 _ _) (PySem.list_append l _ n u (by grind)) ⟨e,?_⟩;refine⟨.non,_,I.lset hH e 0#3 (r.append (.cons ru .nil)) ?_,rfl,q⟩;rw[aK];assumption
def wx:V->List V->Hp->VK->Prop:=λx vs H Q=>∃l b xs zs,x=.ref l/\vs=[.ref b]/\H l=some (.lst xs)/\H b=some (.lst zs)/\1#4+zs.length<=sizeLine/\Q .non (upd H l (.lst (xs++zs)))
theorem B1:MtM X "list.extend" wx:=by
 intro pins s σ H x vs v us Q I rx rv h;obtain⟨l,b,xs,zs,rfl,rfl,hH,hB,hz,q⟩:=h;cases rx;obtain⟨u,rfl,ru⟩:=rv.one;cases ru;obtain⟨z,ZZ,n,r,hl,e⟩:=I.lstM hH;obtain⟨z2,ZP,n2,r2,YU,e2⟩:=I.lstM hB;have ZN:11#7+ZP.toArray.size<=sizeLine:=by grind
 have XW: ¬(!ZZ.toArray.isEmpty&&fY (11#7+ZP.toArray.size))=true:=by
  rw[xP ZN]
  grind
 refine call_meets F.slot_list_extend ⟨_,e,rfl⟩ F.entry_list_extend (F.args_list_extend_2 _ _)
  (AutoSeq1.list_extend_list_list_0 l _ n b _ n2 XW (by grind) (by exact aD 0#2 0#1)) ⟨e,e2,?_⟩
 refine⟨.non,_,I.lset hH e 0#3 (r.append r2) ?_,rfl,q⟩
 simp_all
def DW:V->List V->Hp->VK->Prop:=λx vs H Q=>∃l xs i k y,x=.ref l/\vs=[.int i]/\H l=some (.lst xs) /\ -(2^63)<=i/\i<2^63/\seqIndex? i 1#4=some k/\xs[k]?=some y/\Q y (upd H l (.lst (xs.eraseIdx k)))
theorem DR:MtM X "list.pop" DW:=by
 intro pins s σ H x vs v us Q I rx rv h;obtain⟨l,xs,i,k,y,rfl,rfl,hH,h1,h2,hk,hy,q⟩:=h;cases rx;obtain⟨u,rfl,ru⟩:=rv.one;obtain⟨t,rfl⟩:=ru;obtain⟨z,ZZ,n,r,hl,e⟩:=I.lstM hH;obtain⟨w,hw,Zp⟩:=r.get hy;refine call_meets F.slot_list_pop ⟨_,e,rfl⟩ F.entry_list_pop (F.args_list_pop_2 _ _)
  (MeetsSeq.list_pop_at l _ n i t k w (fitsIndex_both h1 h2) 6#3 6#3 6#3) ⟨e,?_⟩
 refine⟨y,_,I.lset hH e ?_ (r.eraseIdx k) ?_,Zp,q⟩
 .simp_all
 .have:=vk xs k
  exact aD 0#2 0#2
def OL:R2:=λx y H Q=>∃l b xs zs,x=.ref l/\y=.ref b/\H l=some (.lst xs)/\H b=some (.lst zs)/\1#4+zs.length<=sizeLine /\ ∀p,H p=none->Q (.ref p) (upd H p (.lst (xs++zs)))
theorem KH:OpR X (binaryOp .Add) OL:=by
 intro pins s σ H x y v u Q I rx ry h;obtain⟨l,b,xs,zs,rfl,rfl,hH,hB,hz,q⟩:=h;cases rx;cases ry;obtain⟨z,ZZ,n,r,hl,e⟩:=I.lstM hH;obtain⟨z2,ZP,n2,r2,YU,e2⟩:=I.lstM hB;refine PySem.P.add_list e e2 ?_ 6#3;have ea:ZZ.toArray++ZP.toArray=(ZZ++ZP).toArray:=by simp
 rw[ea];exact⟨.ref _,_,I.lnew (r.append r2) 6#3,rfl,q _ I.fresh⟩
end
section
variable {prog:Program}{w:World}{A:Around}{E:Value->Shared->Prop}{s:Shared}
end
section
variable {X:Cx}
end
end _L
namespace Att
open PySem PySem.W PySem.Calls PyProof.Rows
variable{P:Params}{h:Heap}
theorem qY:∀(ns:List Int) (vs:List Value),WellAll P h vs (ns.map WData.int)->IntsAre vs ns:=by
 intro ns
 induction ns with
 | nil=>
   intro vs w;cases w;exact .nil
 | cons n ns ih=>
   intro vs w;cases w with
   | cons a b=>
     cases a;exact .cons _ _ (ih _ b)
variable{l:OpenLaw}{n:Nat}
theorem CS(hn:l.most=some n){args:List WData}{vals:List Value}
  (XB:l.row.toRowW.claim.pre args=true) (Uw:WellAll P h vals args):
  ∃ a vs ns,vals=[bY a]/\args=[WData.list (ns.map WData.int)]/\h.get? a=some { cls := .type "list",data := .seq vs.toArray }/\IntsAre vs ns/\5#6<=n:=by
 have Q4:=(pre_splitW XB).1;have hc:=(pre_splitW XB).2;obtain⟨d,r,rfl,h1,h2⟩:=hasAllW_cons Q4;obtain rfl:=hasAllW_nil h2;obtain⟨xs,rfl,h3⟩:=hasW_list h1;obtain⟨ns,rfl⟩:=items_int h3;have hlen:=by
  have h4:=by
   have h4:=(holds_andW hc).1;rw[hn]at h4;omega
  have h5:=condW_of h4 (w_not (w_lt w_lit (w_len_list (w_arg rfl))))
  first
   |grind
   |(simp at h5;omega)
 cases Uw with
 | cons w1 w2=>
   cases w2;cases w1 with
   |list ho Yp=>exact⟨_,_,ns,rfl,rfl,ho,qY ns _ Yp,hlen⟩
theorem CN(l:OpenLaw)(args:List WData):l.row.toRowW.claim.post args (.bool true) args=true:=
 postW_of
  (by first |rfl |decide |simp)
  (w_eq_bool (w_res rfl) w_lit) rfl
theorem attach_call{q:Program}{loose:List Str}{XP:(Str->Option Value)->Heap->Prop}{YP:World->Heap->Prop}{d:DefRec}
  (hn:l.most=some n) (VS:d.params.defaults=[])
  (call: ∀(w:World) (s₀ ZV:Shared) (mg mb:Str->Option Value) (fa:Addr) (o:Obj) (pm cd doc:Value) (a:Addr) (vs:List Value) (ns:List Int),
   Ground q loose [] XP w s₀ mg mb ZV.heap->YP w ZV.heap ->
   ZV.heap.get? fa=some o->o.data=.func (docDef d.name d.params d.body d.scope pm cd doc)->ZV.heap.CodeRec cd d.name->mg d.name=some (.ref fa) ->
   ZV.heap.get? a=some { cls := .type "list",data := .seq vs.toArray }->IntsAre vs ns->5#6<=n->ZV.gens = #[] ->
   jY (model l.prog w) callerA (.call (.ref fa) ⟨[.ref a],[]⟩) (λr s'=>r = .ok (.ret (.bool true))/\OldK ZV.heap s'.heap/\s'.os=ZV.os/\AllBare s'.gens) ZV):
  WalkO q loose XP YP l.row.toRowW d [] (λf vs=>PySem.call f vs):=by
 intro w s₀ ZV mg mb v6 Y fa o pm cd doc dV kV ho hd ZF hD W7 hg args vals as XB hlay hrd Uw hlo;obtain rfl:dV=.none:=Dflts.none hD VS;obtain rfl:kV=.none:=Dflts.noKw hD;obtain⟨a,vs,ns,rfl,rfl,WI,hints,hlen⟩:=CS hn XB Uw;refine enter_call (ff (call w _ _ mg mb fa o pm cd _ a vs ns v6 Y ho (fd_plain hd) ZF W7 WI hints hlen hg) λr s' hq=>?_);obtain⟨rfl,h2,h3,h4⟩:=hq;exact⟨.inl ⟨_,_,[],rfl,λ_=>rfl,.bool _,CN l _,λ_=>⟨gw,λ_ hm=>(nomatch hm)⟩⟩,h2,h3,h4⟩
section
variable {prog:Program}{w:World}{A:Around}{E:Value->Shared->Prop}{s:Shared}{K:Frag}
end
end Att
namespace _L
open PySem PySem.Spec PyProof.Rows
abbrev KOf{K:aj}{h:Heap}(_:K.In h):aj:=K
def fk(s:Stmt):Arguments:=match s with
 |.FunctionDef _ a _ _ _ _ _ _ _ _=>a
 |_=>{ posonlyargs:= [],args:= [],vararg:=none,kwonlyargs:= [],kw_defaults:= [],kwarg:=none,defaults:= [] }
def br(s:Stmt):List Stmt:=match s with
 |.FunctionDef _ _ b _ _ _ _ _ _ _=>b
 |_=>[]
def ax(s:Stmt):Scope:=match s with
 |.FunctionDef _ _ _ _ _ _ sc _ _ _=>sc
 |_=>{ kind:= .function,names:= [],isGenerator:=false,isCoroutine:=false }
abbrev CX0:CXT:=λ_ _ _ _ _ _=>False
abbrev E0:XK:=λ_ _ _=>False
theorem rS{X:Cx}:tP CX0 X E0:=λ_ _ _ _ _ _ _ h=>h.elim
structure Fun(K:aj)(x qual:Str)(st:Stmt)(f:Addr)(fd:FuncData):Prop where
 ex:∃(oc:Value) (od:Option Addr) (kV doc pm:Value) (an:Option Addr) (cdv ct:Value) (osl:Array (Option Value)),
  fd=cP x qual (fk st) (br st) (ax st) .none kV doc pm an cdv ct/\K.lookup f=some ⟨oc,od,.func fd,osl⟩/\fW K cdv qual=true
 kp:cy K (.ref f)=true
section
variable {P:Program}{w:World}{K:aj}{mg:Str->Option Value}{base:Heap}
variable{x qual:Str}{st:Stmt}{f:Addr}{fd:FuncData}{ps:List Str}
theorem Fun.ok{N:List Str}{k:Nat}{sp:Sp}(F:Fun K x qual st f fd)(S:aO N ps (ax st))(len:∀vs H Q E,sp vs H Q E->2#6=6#0)
  (ZL: ∀(cdv:Value) (A:Around) (outer:List Env) (s:Shared) (H:Hp) (vs:List V) (Q:VK) (E:XK),j8 k (A.deeper (envOfC qual (ax st) s.heap.objs.size f cdv))->sp vs H Q E ->
   ∃t,PSs (qh CX0 P w K mg base N qual (ax st) f cdv A outer s H E).nox (br st) t/\t { nx:=λ_ H'=>Q .non H',rt:=Q } (start N vs) H):FnOk P w K mg base CX0 (k+1) f fd ps sp:=by
 obtain⟨oc,od,kV,doc,pm,an,cdv,ct,osl,rfl,lk,ZF⟩:=F.ex;refine uZ lk ZF S len λA outer s H vs Q E hr Zk=>?_;obtain⟨t,h,q⟩:=ZL _ A _ s H vs Q E hr Zk;exact⟨t,h.nox,q⟩
theorem Fun.binds(F:Fun K x qual st f fd)
  (h:∀(kV doc pm:Value) (an:Option Addr) (cdv ct:Value) (us:List Value),0#9=6#0->bindArgs 20#7 ⟨us,[]⟩=pure (ps.zip us)):Binds K fd ps []:=by
 obtain⟨oc,od,kV,doc,pm,an,cdv,ct,osl,rfl,lk,ZF⟩:=F.ex;exact .all (h kV _ pm an _ ct)
theorem F3{oc:Value}{od an:Option Addr}{osl:Array (Option Value)}{kV doc pm cdv ct:Value}(l:K.lookup f=some ⟨oc,od,.func 20#7,osl⟩)
  (c:fW K cdv qual=true) (k:cy K (.ref f)=true):Fun K x qual st f 20#7:=⟨⟨oc,od,kV,_,pm,an,_,ct,_,rfl,l,c⟩,k⟩
end
section
variable {X:Cx}
end
theorem Qy{A B:Prop}(h:B):if false=true then A else B:=by
 grind
theorem Qo{A B:Prop}(h:A):if true=true then A else B:=by
 grind
end _L
namespace HT
open PySem PyProof.Rows
section
open PySem.SeqAt
open PySem.AutoSeq1 (wpAny_loadPart')
open PySem.MeetsSeq PySem.MeetsSeq2 PySem.MeetsSeq3
end
section
variable {prog:Program}{w:World}{A:Around}{E:Value->Shared->Prop}{s:Shared}
end
end HT
namespace _L
open PySem PyProof.Rows
section
variable {X:Cx}
end
end _L
namespace PySem
namespace GE
theorem Hk(l:Addr)(items:Array Value)(n:Nat)(b:Addr)(Zv:Array Value)(n2:Nat)(sl:Array (Option Value))(WM: ¬(!items.isEmpty&&fY (4#2+Zv.size))=true)(Ug:4#2<=sizeLine)(ZE:4#2+Zv.size<=sizeLine+1):
  Meets (Builtin.«list.extend» ⟨[.ref l,.ref b],[]⟩) (fun _ R s=>s.heap.get? l=some { cls := .type "list",dict:=none,data := .seq items n,slots := #[] }/\s.heap.get? b=some { cls := .type "tuple",dict:=none,data := .seq Zv n2,slots:=sl }/\R (.ok (.ret ei)) { s with heap:=s.heap.update l (fD fun x=>x++Zv),toks:=s.toks }):=
 .of_wp λprog w A R s h=>by
  obtain⟨hp,g,d,tk,os⟩:=s;obtain⟨hl,hb,h⟩:=h;have f1:=AutoSeq1.idx_int;have f2:=AutoSeq1.sub_tuple_tuple;have f3:=AutoSeq1.sub_list_list;have f4:=AutoSeq1.sub_tuple_list;have f5:=AutoSeq1.sub_list_tuple;have WU:(items++Zv).size<=sizeLine+1:=by rw[Array.size_append];exact ZE
  wp_walk using (De hl rfl (hz:=Ug) (_hz':=WU)),iJ hl,iJ hb
  exact⟨_,rfl,h⟩
end GE
end PySem
namespace _L
open PySem PySem.Spec PyProof.Rows
section
variable {X:Cx}
def Jy:V->List V->Hp->VK->Prop:=λx vs H Q=>∃l b xs zs,x=.ref l/\vs=[.ref b]/\H l=some (.lst xs)/\H b=some (.tup zs)/\1#4+zs.length<=sizeLine/\Q .non (upd H l (.lst (xs++zs)))
theorem Ia:MtM X "list.extend" fun x vs H Q=>wx x vs H Q\/Jy x vs H Q:=by
 intro pins s σ H x vs v us Q I rx rv h;rcases h with h|h
 .exact B1 pins s σ H x vs v us Q I rx rv h
 obtain⟨l,b,xs,zs,rfl,rfl,hH,hB,hz,q⟩:=h;cases rx;obtain⟨u,rfl,ru⟩:=rv.one;cases ru;obtain⟨z,ZZ,n,r,hl,e⟩:=I.lstM hH;obtain⟨z2,ZP,r2,⟨o,e2,c2,n2,d2⟩,o',e3,c3⟩:=I.hok b _ hB;rw[e2]at e3;cases e3;obtain⟨oc,od,dt,sl⟩:=o;cases c2;cases d2;cases c3;have l2:=r2.length;have ZN:11#7+ZP.toArray.size<=sizeLine:=by rw[be,be];omega
 have XW: ¬(!ZZ.toArray.isEmpty&&fY (11#7+ZP.toArray.size))=true:=by
  rw[xP ZN,Bool.and_false];exact hJ
 refine call_meets F.slot_list_extend ⟨_,e,rfl⟩ F.entry_list_extend (F.args_list_extend_2 _ _)
  (GE.Hk l ZZ.toArray n b ZP.toArray n2 sl XW (by rw[be];omega) 0#2) ⟨e,e2,?_⟩
 refine⟨.non,_,I.lset (its':=ZZ++ZP) hH e 0#3 (r.append r2) ?_,rfl,q⟩;rw[aK];assumption
end
end _L
namespace PySem
namespace GR
theorem AA:typeLookup (.type "tuple") "__reversed__"=pure none:=by rw [typeLookup_type,builtinLookup_eq_fast];kernel_rfl
theorem xU:isSubtype (.type "tuple") (.type "dict")=pure false:=by rw [isSubtype_type];kernel_rfl
theorem vb:Manifest.owners.lookup (String.ofList ['d','e','s','r','e','v','e','r'].reverse)=some Manifest.sig_reversed:=by kernel_rfl
theorem fZ:Slot "reversed" "__next__" "reversed.__next__":=
 .of (owner:="reversed") (n:="__next__") 21#1 1#0 1#0 1#0 20#2 (by rw [isSubtype_type];kernel_rfl)
theorem ly:entryFor table "reversed.__next__"=some Builtin.«reversed.__next__»:=entryFor_of_tree (by kernel_rfl)
theorem kR(a:Value):argsOk "reversed.__next__" ⟨[a],[]⟩:=by
 unfold argsOk;rw [signature?_of (id:="reversed.__next__") (n := ['_','_','t','x','e','n','_','_']) (o := ['d','e','s','r','e','v','e','r']) (by kernel_rfl) vb];kernel_rfl
theorem ni:Slot "reversed" "__iter__" "reversed.__iter__":=
 .of (owner:="reversed") (n:="__iter__") 21#1 1#0 1#0 1#0 20#2 (by rw [isSubtype_type];kernel_rfl)
theorem qX(a:Value):argsOk "reversed.__iter__" ⟨[a],[]⟩:=by
 unfold argsOk;rw [signature?_of (id:="reversed.__iter__") (n := ['_','_','r','e','t','i','_','_']) (o := ['d','e','s','r','e','v','e','r']) (by kernel_rfl) vb];kernel_rfl
theorem ud:entryFor table "reversed.__iter__"=some Builtin.«dict_keyiterator.__iter__»:=
 entryFor_alias (id':="dict_keyiterator.__iter__") (by kernel_rfl) (by first | rfl | decide +kernel | (unfold String.splitOn;simp +decide [String.splitOnAux])) (by decide +kernel) (by kernel_rfl)
theorem Bw:mroOf (.type "reversed")=pure [.type "reversed",.type "object"]:=by rw [mroOf_type];kernel_rfl
theorem rV:typeLookup (.type "reversed") "__new__"=pure (some (.builtin "reversed.__new__")):=by rw [typeLookup_type,builtinLookup_eq_fast];kernel_rfl
theorem uB:Slot "reversed" "__init__" "object.__init__":=
 .of (owner:="object") (n:="__init__") 21#1 1#0 1#0 1#0 20#2 (by rw [isSubtype_type];kernel_rfl)
theorem AB:TypeCalled "reversed" "reversed.__new__" "object.__init__":=
 ⟨by decide +kernel,by decide +kernel,⟨_,_,Bw⟩,madeBy_type Bw rV 1#0,by decide +kernel,by rw[isSubtype_type];kernel_rfl,uB⟩
theorem su(a:Value):checkTypeCall "reversed" ⟨[a],[]⟩=pure ():=by kernel_rfl
theorem uq(a:Value):checkBuiltinCall "reversed.__new__" ⟨[.type "reversed",a],[]⟩=pure ():=by kernel_rfl
theorem uM:entryFor table "reversed.__new__"=some Builtin.«reversed.__new__»:=entryFor_of_tree (by kernel_rfl)
theorem IQ:isSubtype (.type "reversed") (.type "reversed")=pure true:=by rw [isSubtype_type];kernel_rfl
theorem wW(a:Value):oi "reversed" ⟨[.type "reversed",a],[]⟩=pure (.type "reversed",[a]):=by
 unfold oi;simp only[isType,IQ,pure_bind,BO,hU,if_false]
def revT(t:Addr)(i:Int):Obj:={ cls := .type "reversed",data := .fields #[.ref t,rawInt i] }
def IsRevT(h:Heap)(a t:Addr)(i:Int):Prop := ∃ o,h.get? a=some o/\o.cls=.type "reversed"/\o.data=.fields #[.ref t,rawInt i]
variable{i:Int}
theorem IsRevT.typeIs{s:Shared}{a t:Addr}(x:IsRevT s.heap a t i):s.TypeIs (.ref a) "reversed":=let ⟨o,ho,hc,_⟩:=x;⟨o,ho,hc⟩
theorem IsRevT.at{h h':Heap}{a t:Addr}(x:IsRevT h a t i)(e:∀o,h.get? a=some o->h'.get? a=some o):IsRevT h' a t i:=let ⟨o,ho,r⟩:=x;⟨o,e _ ho,r⟩
open PyProof.Rows in
theorem ur(t:Addr)(items:Array Value):Meets (Builtin.«reversed.__new__» ⟨[.type "reversed",.ref t],[]⟩) (fun _ R s=>IsTup s.heap t items/\(4#2:Int) < 2 ^ 63 /\
   R (.ok (.ret (.ref s.heap.objs.size))) { s with heap:=s.heap.push (revT t ((items.size:Int) - 1)),toks:=s.toks+1+1 }):=
 .of_wp λprog w A R s h=>by
  obtain⟨ht,hz,h⟩:=h;unfold Builtin.«reversed.__new__»;refine af (fO (wW _) ?_);(try dsimp only);refine af (fO (a:=()) (by first|rfl|kernel_rfl) ?_);refine af (fO (a:=()) (by first|rfl|kernel_rfl) ?_);(try dsimp only);refine af (qO ht.typeIs AA ?_);(try dsimp only);refine af ?_;show aC _ _ (isInstance (.ref t) (.type "dict") >>= _) _ _ s;refine af (jV ht.typeIs xU ?_);rw [if_neg hJ];show aC _ _ (specialOf (.ref t) (d8 "__getitem__") >>= _) _ _ s;refine af (qO ht.typeIs slot_tuple_getitem.lookup ?_);refine wpAny_ite ?_;rw [if_pos (by decide +kernel)];refine ar ?_;rw [if_neg (by decide)];refine af (len_tuple ht hz ?_);refine af (fO (a:=some (items.size:Int)) rfl ?_);refine af ?_;unfold Builtin.SmallTypes.newRecord;exact cb (ar ⟨_,rfl,h⟩)
section
variable {prog:Program}{w:World}{A:Around}{E:Value->Shared->Prop}{s:Shared}
open PyProof.Rows
variable{items:Array Value}
theorem call_rev{t:Addr}{Q:Value->Shared->Prop}(ht:IsTup s.heap t items)(hz:(4#2:Int)<2^63)
  (h:Q 7#1 { s with heap:=s.heap.push (revT t ((items.size:Int)-1)),toks:=s.toks+1+1 }):aC 2#0 A (call (.type "reversed") [.ref t]) Q E s:=
 callType_new AB 0#1 (su _) (uq _) (λobj=>rj obj _) uM (ur t items) ⟨ht,hz,⟨_,av _ rfl,rfl⟩,h⟩
variable{Q:Option Value->Shared->Prop}{it:Addr}
theorem next_rev_item{t:Addr}{i:Nat}{x:Value}(hit:IsRevT s.heap it t (i:Int))(ht:IsTup s.heap t items)(hx:items[i]?=some x)(hz:(4#2:Int)<2^63)
  (hQ:∀h',IsRevT h' it t ((i:Int)-1)->cU it s.heap h'->Q (some x) { s with heap:=h',toks:=s.toks+1 }):aC 2#0 A (pyNext (.ref it)) Q E s:=by
 obtain⟨o,ho,hc,hd⟩:=id hit;have hi:i<4#2:=(Array.getElem?_eq_some_iff.mp hx).1;unfold pyNext;refine af (iH (bB (name:=d8 "__next__") hit.typeIs fZ (bX fZ hit.typeIs ly ?_ (kR _))));unfold Builtin.«reversed.__next__»;refine af (fO (a:=(bY it,[])) rfl ?_);(try dsimp only);refine af (bc ho hd (x := .ref t) rfl ?_);refine af (bc ho hd (x:=rawInt (i:Int)) rfl ?_);show aC _ _ (if (i:Int)<0 then _ else _) _ _ s;rw [if_neg 0#2];refine af (qO ht.typeIs slot_tuple_getitem.lookup ?_);(try dsimp only);rw [if_neg 0#3];refine af (wpAny_mkInt ?_);refine af (iH (getItem_tuple (j:=i) (x:=x) (s:={ s with toks:=s.toks+1 }) ht 0#2 0#2 ?_ hx ?_))
 .unfold seqIndex?
  simp;omega
 .refine af (bc (s:={ s with toks:=s.toks+1 }) ho hd (x:=rawInt (i:Int)) rfl ?_);refine af (mj (s:={ s with toks:=s.toks+1 }) ho hd 0#3 ?_);refine ar ⟨x,rfl,ar (hQ _ ?_ (eC ..))⟩
  exact⟨_,di _ ho (pj (fE hd _)),(Obj.cls_mapFields ..).trans hc,by
   rw[fE hd];simp⟩
theorem next_rev_end{t:Addr}(hh:A.handled=none)(hit:IsRevT s.heap it t (-1))
  (hQ:∀h',jl it s.heap h'->Q none { s with heap:=h' }):aC 2#0 A (pyNext (.ref it)) Q E s:=by
 obtain⟨o,ho,hc,hd⟩:=id hit;unfold pyNext;refine af (iH (bB (name:=d8 "__next__") hit.typeIs fZ (bX fZ hit.typeIs ly ?_ (kR _))));unfold Builtin.«reversed.__next__»;refine af (fO (a:=(bY it,[])) rfl ?_);(try dsimp only);refine af (bc ho hd (x := .ref t) rfl ?_);refine af (bc ho hd (x:=rawInt (-1)) rfl ?_);show aC _ _ (if (-1:Int)<0 then _ else _) _ _ s;rw [if_pos 0#1];refine af (gS ?_);refine af ?_;show aC _ _ (setField (.ref it) 1 (rawInt (-1)) >>= _) _ _ s;refine af (mj ho hd 0#3 ?_);have g1:=di (h:=s.heap) (a:=it) (Obj.mapFields (·.setIfInBounds 1 (rawInt (-1)))) ho (pj (fE hd _));have d1:=fE hd (·.setIfInBounds 1 (rawInt (-1)));refine mj g1 d1 0#3 ?_;refine af ?_;show aC _ _ (newExc (.type "StopIteration") [] >>= _) _ _ _;refine af ?_;simp only [newExc,newTuple];refine af (cb ?_ (by size_fits));refine af (m:=firstArgMember _ _) (fO (a:=ei) (by first | rfl | (simp only [firstArgMember];rfl)) ?_);refine cb ?_ (by size_fits);simp only [raiseNew];refine af (wpAny_handled ?_)
 first |rw[show A.in1.handled=none from hh] |rw[hh]
 refine af (ar (wpAny_throw ?_));refine af (jV (T:="StopIteration") (b:=true) ⟨_,av _ rfl,rfl⟩ isSubtype_stop ?_);exact ar (hQ _ ((((eC ..).extBut.trans (eC ..).extBut).push _).push _))
theorem iter_rev{t:Addr}{Q:Value->Shared->Prop}(hit:IsRevT s.heap it t i)(h:Q (.ref it) s):aC 2#0 A (pyIter (.ref it)) Q E s:=by
 refine wpAny_pyIter_slot hit.typeIs ni (bX ni hit.typeIs ud ?_ (qX _));show aC _ _ (ret (.ref it)) _ _ s;exact ar ⟨_,rfl,"reversed",_,hit.typeIs,fZ.lookup,h⟩
end
end GR
end PySem
namespace _L
open PySem PySem.Spec PyProof.Rows
def Itv(K:aj)(a:Addr)(n:Nat):It:=
 ⟨λi H=>∃xs x,SqT K H a xs/\1#4=n/\xs.reverse[i]?=some x,λi H x H'=>H'=H /\ ∀xs,SqT K H a xs->xs.reverse[i]?=some x,λi H=>∃xs,SqT K H a xs/\1#4=n/\n<=i⟩
theorem DC{P:Program}{w:World}{K:aj}{tg:Expr}(a it:Addr)(n:Nat):Turn P w K tg (Itv K a n) [it] it (λi h=>i<=n/\GR.IsRevT h it a ((n:Int)-1-(i:Nat))) where
 mem:=by simp
 obj:=λi h st b hb=>by
  have e:b=it:=by simpa using hb
  subst e;obtain⟨_,o,e,c,d⟩:=st;exact⟨o,e,λv z=>by rw[d]at z;cases z⟩
 keep:=λi h h' st k=>⟨st.1,st.2.at λo e=>k it 0#3 o e⟩
 item:=by
  intro X hP hw hK hc i pins s σ H E I hf st hg;subst hP hw hK;obtain⟨xs,x,hq,hn,hx⟩:=hg;obtain⟨ZZ,rv,p,hz⟩:=I.tuple hq;have hl:=rv.length;have hi:i<n:=by have:=(ah.mp hx).1;rw[d4]at this;omega
  have WC:xs[n-1-i]?=some x:=by
   rw[List.getElem?_reverse 0#2,hn]at hx;exact hx
  obtain⟨u,hu,ru⟩:=rv.get WC;obtain⟨f0,f1,f2,f3,f4,f5⟩:=hf it 0#3;have TY:=nE;have Z6:=st.2;rw[show(n:Int)-1-(i:Nat)=((n-1-i:Nat):Int) by omega]at Z6;refine GR.next_rev_item Z6 p (x:=u) (by simpa using hu) (by rw[be];omega) λh' Yt sb=>?_;have I1:Inv X pins σ H { s with heap:=h',toks:=s.toks+1 }:=I.turned (t':=s.toks+1) (λb o hb e=>(sb.2 b hb).trans e) f0 f1 f3 f4 f5;rw[show((n-1-i:Nat):Int)-1=(n:Int)-1-((i+1:Nat):Int) by omega]at Yt;obtain⟨o,e,c,d⟩:=id Yt;exact⟨u,rfl,AU (s:={ s with heap:=h',toks:=s.toks+1 }) e c d 0#1 ⟨x,H,I1,ru,⟨rfl,λys hy=>by rw[I.tuple_inj hy hq];exact hx⟩,⟨by assumption,Yt⟩,λb hb=>(hf b hb).1⟩⟩
 done:=by
  intro X hP hw hK hc i pins s σ H E I hf st hg;subst hP hw hK;obtain⟨xs,hq,hn,hx⟩:=hg;obtain⟨f0,f1,f2,f3,f4,f5⟩:=hf it 0#3;have Z6:=st.2;rw[show(n:Int)-1-(i:Nat) = -1 by have:=st.1;omega]at Z6;exact GR.next_rev_end 7#8 Z6 λh' eb=>⟨rfl,I.turned (t':=s.toks) (λb o hb e=>eb b o hb e) f0 f1 f3 f4 f5⟩
 self:=λ_ _ _ _ _ st h=>GR.iter_rev st.2 h
section
variable {X:Cx}{tg:Expr}
def ye(K:aj)(ta:TA):TI:=λσ H R=>ta σ H λvs H1=>∃a xs,vs=[.ref a]/\SqT K H1 a xs/\R (Itv K a 1#4) H1
theorem L5{a:Expr}{ta:TA}{p pos:Pos}(hg:Gl X "reversed")(hm:X.mg "reversed"=none)(ha:PA X [a] ta)(hs:autoParam 15#4 1#7):PI X tg (.Call (.Name "reversed" p) [a] [] pos) (ye X.K ta):=by
 intro pins s σ H R I h;refine Call_ (gG I hg hm PyProof.Rows.boot_reversed (bz 20#4 hs rfl));obtain⟨b,xs,e,hq,q⟩:=q1;subst e;cases r1 with
 | cons r rr=>
   cases rr;cases r;obtain⟨ZZ,rv,pt,hz⟩:=I1.tuple hq;have hl:=rv.length;have TY:=nE;refine GR.call_rev pt (by rw[be];omega) ?_;have I2:Inv X pins σ H1 { s1 with heap:=s1.heap.push (GR.revT b ((ZZ.toArray.size:Int)-1)),toks:=s1.toks+1+1 }:=I1.kept λb o e=>ag _ e
   have st:GR.IsRevT (s1.heap.push (GR.revT b ((11#7:Int) - 1))) s1.heap.objs.size b ((1#4:Int) - 1 - (0:Nat)):=⟨_,av _ rfl,rfl,by
    show GG #[.ref b,rawInt _]=_;rw[be,hl];simp⟩
   refine GR.iter_rev st ?_;refine⟨7#6,[7#6],_,_,H1,rfl,I2,DC b _ 1#4,⟨ee _,st⟩,λc hc=>?_,q⟩;have e:c=s1.heap.objs.size:=by simpa using hc
   subst e;exact I1.fpOk 1#8 (I1.hok.fresh 1#8)
end
end _L
namespace PySem
namespace GE
open AutoSeq1 (wpAny_loadPart')
theorem AN(l:Addr)(items:Array Value)(n:Nat)(Us:Option Addr)(sl:Array (Option Value)):Meets (Builtin.«enumerate.__new__» ⟨[.type "enumerate",.ref l],[]⟩) (fun _ R s=>s.heap.get? l=some { cls := .type "tuple",dict:=Us,data := .seq items n,slots:=sl } /\
   R (.ok (.ret (.ref (s.heap.push { cls := .type "tuple_iterator",data := .fields #[.ref l,.int 0 0] }).objs.size))) { s with heap:=(s.heap.push { cls := .type "tuple_iterator",data := .fields #[.ref l,.int 0 0] }).push { cls := .type "enumerate",data := .fields #[.none,.bool false,.ref s.heap.objs.size,rawInt 0,.none,.none] } }):=
 .of_wp λprog w A R s h=>by
  obtain⟨hp,g,d,tk,os⟩:=s;obtain⟨hl,h⟩:=h;have Xn:=sub_enumerate;have hT:ny (kN ⟨hp,g,d,tk,os⟩) l items:=⟨_,hl,rfl,n,rfl⟩
  wp_walk using iJ hl
  refine wpAny_stack_any λst=>ar ?_;split
  .rename_i c _ _ _ _ _
   cases (c==zw "enumerate")<;>(wp_walk using iJ hl,eK hT;exact⟨_,rfl,h⟩)
  .wp_walk using iJ hl,eK hT;exact⟨_,rfl,h⟩
section
variable {prog:Program}{w:World}{A:Around}{E:Value->Shared->Prop}{s:Shared}
variable{l:Addr}{items:Array Value}{Q:Value->Shared->Prop}
theorem zR(hT:s.heap.IsTuple l items)
  (h :∀ h',IsEnum h' (0#8+1) s.heap.objs.size 0 .none->h'.IsTupleIter s.heap.objs.size l 0->10#4=0#8+2->22#1->Q (.ref (0#8+1)) { s with heap:=h' }):aC 2#0 A (call (.type "enumerate") [.ref l]) Q E s:=by
 obtain⟨⟨c,Us,dt,sl⟩,hl,hc,n,hd⟩:=hT;replace hc:c=.type "tuple":=hc;replace hd:dt=.seq items n:=hd;subst hc hd;refine callType_new F.called_enumerate 0#1 (F.typeCall_enumerate_1 _) (F.newCall_enumerate_1 _) (λobj=>rj obj _) F.entry_enumerate_new (AN l items n Us sl) ⟨hl,?_⟩;have hz:(s.heap.push { cls := .type "tuple_iterator",data := .fields #[.ref l,.int 0 0] }).objs.size=0#8+1:=a9 ..;show _/\_;rw [hz];have he:IsEnum ((s.heap.push { cls := .type "tuple_iterator",data := .fields #[.ref l,.int 0 0] }).push { cls := .type "enumerate",data := .fields #[.none,.bool false,.ref s.heap.objs.size,rawInt 0,.none,.none] }) (0#8+1) s.heap.objs.size 0 .none:=by
  have:=av (s.heap.push { cls := .type "tuple_iterator",data := .fields #[.ref l,.int 0 0] }) (o:={ cls := .type "enumerate",data := .fields #[.none,.bool false,.ref s.heap.objs.size,rawInt 0,.none,.none] }) rfl;rw [hz] at this;exact this
 refine⟨⟨_,he,rfl⟩,h _ he ⟨_,ag _ (av _ rfl),rfl,rfl⟩ (by rw[a9,hz]) λb o x=>ag _ (ag _ x)⟩
variable{it:Addr}{i:Nat}{x:Value}
theorem lR{t:Addr}(hit:s.heap.IsTupleIter it t i)(ht:s.heap.IsTuple t items)(hx:items[i]?=some x)
  (hQ:∀h',h'.IsTupleIter it t (i+1)->cU it s.heap h'->Q x { s with heap:=h' }):aC 2#0 A (bj (.ref it)) Q E s:=by
 obtain⟨o,ho,hc,hd⟩:=id hit;obtain⟨ol,X9,_,nl,Yf⟩:=ht;unfold bj;refine af (bB (name:=d8 "__next__") hit.typeIs gy (bX gy hit.typeIs BP ?_ (AQ _)));show aC _ _ (field (.ref it) 0 >>= _) _ _ s;refine af (bc ho hd (x:= .ref t) rfl ?_);show aC _ _ (if (bY t==ei)=true then _ else _) _ _ s;rw[if_neg (show ¬((bY t==ei)=true) from hJ)];show aC _ _ (field (.ref it) 1 >>= _) _ _ s;refine af (bc ho hd (x:= .int i 0) rfl ?_);show aC _ _ (seqItems? (.ref t) >>= _) _ _ s;refine af (fF X9 Yf ?_);simp only[lg,hx];refine af (mj ho hd 0#3 (ar ⟨x,rfl,ar (hQ _ ?_ (eC ..))⟩));exact⟨_,di _ ho (pj (fE hd _)),(Obj.cls_mapFields ..).trans hc,by rw[fE hd];simp[rawInt]⟩
theorem nO{t:Addr}(hh:A.handled=none)(hit:s.heap.IsTupleIter it t i)(ht:s.heap.IsTuple t items)(hx:items[i]?=none)
  (hE :∀ h' e,jl it s.heap h'->21#4->E (.ref e) { s with heap:=h' }):aC 2#0 A (bj (.ref it)) Q E s:=by
 obtain⟨o,ho,hc,hd⟩:=id hit;obtain⟨ol,X9,_,nl,Yf⟩:=ht;unfold bj;refine af (bB (name:=d8 "__next__") hit.typeIs gy (bX gy hit.typeIs BP ?_ (AQ _)));show aC _ _ (field (.ref it) 0 >>= _) _ _ s;refine af (bc ho hd (x:= .ref t) rfl ?_);show aC _ _ (if (bY t==ei)=true then _ else _) _ _ s;rw[if_neg (show ¬((bY t==ei)=true) from hJ)];show aC _ _ (field (.ref it) 1 >>= _) _ _ s;refine af (bc ho hd (x:= .int i 0) rfl ?_);show aC _ _ (seqItems? (.ref t) >>= _) _ _ s;refine af (fF X9 Yf ?_);simp only[lg,hx];refine af (gS (af (mj ho hd 0#3 ?_)));show aC _ _ (newExc (.type "StopIteration") [] >>= _) _ _ _;refine af ?_;simp only [newExc,newTuple];refine af (cb ?_ (by size_fits));refine af (m:=firstArgMember _ _) (fO (a:=ei) (by first |rfl | (simp only[firstArgMember];rfl)) ?_);refine cb ?_ (by size_fits);simp only[raiseNew];refine af (wpAny_handled ?_)
 (first |rw[show A.in1.handled=none from hh] |rw[hh]);refine af (ar (wpAny_throw ?_));exact hE _ _ (((eC ..).extBut.push _).push _) ⟨_,av _ rfl,rfl⟩
variable{old:Value}
theorem zY{e:Addr}(he:IsEnum s.heap e it i old)(hit:s.heap.IsTupleIter it l i)(hl:s.heap.IsTuple l items)(hx:items[i]?=some x)(YQ:e≠it)
  (hQ : ∀ h',IsEnumOut h' e it ((i:Int)+1) x 0#8->h'.IsTupleIter it l (i+1)->h'.get? 0#8=some { cls := .type "tuple",data := .seq #[.int i s.toks,x] }->10#4=0#8+1 ->
   (∀b o,b≠e->b≠it->s.heap.get? b=some o->h'.get? b=some o)->Q (.ref s.heap.objs.size) { s with heap:=h',toks:=s.toks+1 }):aC (model prog w) A (Builtin.«enumerate.__next__» ⟨[.ref e],[]⟩) (λfin s' =>∃v,fin = .done (.ret v)/\Q v s') E s:=by
 obtain⟨hp,g,d,tk,os⟩:=s;show aC _ _ (field (.ref e) 2 >>= _) _ _ _;refine af (bc he rfl (x:= .ref it) rfl ?_);refine af (lR hit hl hx λZI Ye ZW=>?_);replace ZW:cU it hp ZI:=ZW;have Yx:IsEnum ZI e it i old:=(ZW.2 e YQ).trans he;show aC _ _ (field (.ref e) 3 >>= _) _ _ ⟨ZI,g,d,tk,os⟩;refine af (bc Yx rfl (x:=rawInt i) rfl ?_);show aC _ _ (field (.ref e) 4 >>= _) _ _ ⟨ZI,g,d,tk,os⟩;refine af (bc Yx rfl (x:= .none) rfl ?_);show aC _ _ (mkInt i >>= _) _ _ ⟨ZI,g,d,tk,os⟩;refine af (wpAny_mkInt ?_);show aC _ _ (setField (.ref e) 3 (rawInt ((i:Int)+1)) >>= _) _ _ ⟨ZI,g,d,tk+1,os⟩;refine af (cK Yx 0#3 λYY Ys ZT=>?_);replace ZT:cU e ZI YY:=ZT;replace Ys:IsEnum YY e it ((i:Int)+1) old:=Ys;show aC _ _ (setField (.ref e) 4 .none >>= _) _ _ ⟨YY,g,d,tk+1,os⟩;refine af (cK Ys 0#3 λZn YA ZS=>?_);replace ZS:cU e YY Zn:=ZS;replace YA:IsEnum Zn e it ((i:Int)+1) old:=YA;show aC _ _ (newTuple [.int i tk,x] >>= _) _ _ ⟨Zn,g,d,tk+1,os⟩;refine af (wpAny_newTuple ?_);have Yv:IsEnum (Zn.push { cls := .type "tuple",data := .seq #[.int i tk,x] }) e it ((i:Int)+1) old:=ag _ YA;generalize hh₄:Zn.push { cls := .type "tuple",data := .seq #[.int i tk,x] }=Zg at Yv;have ZN:Zn.objs.size=hp.objs.size:=by rw [ZS.1,ZT.1,ZW.1]
 have Wn:e<hp.objs.size:=ay he;have VO:Zg.get? hp.objs.size=some { cls := .type "tuple",data := .seq #[.int i tk,x] }:=by rw [<-hh₄,<-ZN];exact av _ rfl
 have Yz:Zg.objs.size=hp.objs.size+1:=by rw[<-hh₄,a9,ZN]
 have W2:∀b o,b≠e->b≠it->hp.get? b=some o->Zg.get? b=some o:=λb o XE Vh hb=>by rw[<-hh₄];exact ag _ (ZS.extBut b o XE (ZT.extBut b o XE (ZW.extBut b o Vh hb)))
 have WS:Zg.IsTupleIter it l (i+1):=by rw[<-hh₄];obtain⟨o,ho,r⟩:=(Ye.extBut ZT.extBut (cX YQ)).extBut ZS.extBut (cX YQ);exact⟨o,ag _ ho,r⟩
 show aC _ _ (bT (.ref e) >>= _) _ _ ⟨Zg,g,d,tk+1,os⟩;rw[ZN];clear hh₄ YA ZS Ys ZT Yx ZW Ye ZN Zn YY ZI;refine af ?_;unfold bT;refine af (bc Yv rfl (x:= .none) rfl (ar ?_));simp only[if_true];refine af (gS ?_);refine af (bc Yv rfl (x:=old) rfl ?_);refine af (cK Yv 0#3 λZJ Yd ZQ=>?_);replace ZQ:cU e Zg ZJ:=ZQ;replace Yd:IsEnum ZJ e it ((i:Int)+1) x:=Yd;show aC _ _ (dH (.ref e) (.ref hp.objs.size) >>= _) _ _ ⟨ZJ,g,d,tk+1,os⟩;refine af ?_;unfold dH;refine af (cK Yd 0#3 λVn Yl Zb=>?_);replace Zb:cU e ZJ Vn:=Zb;replace Yl:IsEnumOut Vn e it ((i:Int)+1) x hp.objs.size:=Yl;refine cK Yl 0#3 λXy XZ ZG=>?_;replace ZG:cU e Vn Xy:=ZG;replace XZ:IsEnumOut Xy e it ((i:Int)+1) x hp.objs.size:=XZ;refine af (BQ (ar ⟨_,rfl,hQ Xy XZ ?_ ?_ ?_ ?_⟩))
 .exact((WS.extBut ZQ.extBut (cX YQ)).extBut Zb.extBut (cX YQ)).extBut ZG.extBut (cX YQ)
 .exact ZG.extBut _ _ (bD Wn) (Zb.extBut _ _ (bD Wn) (ZQ.extBut _ _ (bD Wn) VO))
 .rw[ZG.1,Zb.1,ZQ.1,Yz]
 .exact λb o XE Vh hb=>ZG.extBut b o XE (Zb.extBut b o XE (ZQ.extBut b o XE (W2 b o XE Vh hb)))
variable{Q:Option Value->Shared->Prop}
theorem next_item{e:Addr}(he:IsEnum s.heap e it i old)(hit:s.heap.IsTupleIter it l i)(hl:s.heap.IsTuple l items)(hx:items[i]?=some x)(YQ:e≠it)
  (hQ : ∀ h',IsEnumOut h' e it ((i:Int)+1) x 0#8->h'.IsTupleIter it l (i+1)->h'.get? 0#8=some { cls := .type "tuple",data := .seq #[.int i s.toks,x] }->10#4=0#8+1 ->
   (∀b o,b≠e->b≠it->s.heap.get? b=some o->h'.get? b=some o)->Q (some (.ref s.heap.objs.size)) { s with heap:=h',toks:=s.toks+1 }):aC (model prog w) A (pyNext (.ref e)) Q E s:=by
 have hT:s.TypeIs (.ref e) "enumerate":=⟨_,he,rfl⟩;unfold pyNext;exact af (iH (bB (name:=d8 "__next__") hT jm (bX jm hT F.entry_enumerate_next (zY he hit hl hx YQ fun h' a b c d k=>ar (hQ h' a b c d k)) (GH _))))
theorem next_end{e:Addr}(hh:A.handled=none)(he:IsEnum s.heap e it i old)(hit:s.heap.IsTupleIter it l i)(hl:s.heap.IsTuple l items)(hx:items[i]?=none)
  (hQ:∀h',jl it s.heap h'->Q none { s with heap:=h' }):aC 2#0 A (pyNext (.ref e)) Q E s:=by
 have hT:s.TypeIs (.ref e) "enumerate":=⟨_,he,rfl⟩;unfold pyNext;refine af (iH (bB (name:=d8 "__next__") hT jm (bX jm hT F.entry_enumerate_next ?_ (GH _))));show aC _ _ (field (.ref e) 2 >>= _) _ _ _;refine af (bc he rfl (x:= .ref it) rfl ?_);refine af (nO hh hit hl hx λh' x he' WC=>?_);obtain⟨o,ho,hc⟩:=WC;refine af (jV (T:="StopIteration") (b:=true) ⟨o,ho,hc⟩ isSubtype_stop ?_);exact ar (hQ _ he')
end
end GE
end PySem
namespace _L
open PySem PySem.Spec PyProof.Rows
theorem Inv.turnNew{X:Cx}{pins:List (Addr×Obj)}{σ:St}{H:Hp}{s:Shared}{h':Heap}{t':Nat}{fp:List Addr}{T:Addr}{o:HO}(I:Inv X pins σ H s)(hf:∀b∈fp,tq X pins H b)(k:∀b u,b∉fp->s.heap.get? b=some u->h'.get? b=some u)
  (hT:0#8<=T) (new:fb X.prog X.w (upd H T o) h' T o):Inv X pins σ (upd H T o) { s with heap:=h',toks:=t' }:=by
 have hn:=I.hok.fresh hT;have neT:∀b u,s.heap.get? b=some u->b≠T:=λb u e z=>absurd (ao (ay e) (by rw[z];omega)) (bp _);have UB:∀b u,H b=some u->b∉fp:=λb u e z=>by rw[(hf b z).1]at e;cases e
 refine I.step (λb hb=>⟨(hf b hb).2.2.2.1,(hf b hb).2.1,(hf b hb).2.2.2.2.1,(hf b hb).2.2.2.2.2⟩) (λb o _ _ hc e _=>k b o hc e) (λb o _ _ hc e _=>⟨_,k b o hc e⟩)
  (λb o _ e n=>by rw[aP (neT b o e)];omega) (λb o hc e=>⟨o,k b o hc e⟩) (λb xs e=>by rw[aP (aQ e hn)];omega) (λb o u e=>by rw[aP (aQ e hn)];omega) (λb ps e=>⟨#[],by rw[aP (aQ e hn),e];simp⟩) (λm hm=>?_) (λb u e=>?_) I.bare
 .obtain⟨o,es,ep,ho,r⟩:=hm
  exact⟨o,es,ep,k _ o (λz=>(hf _ z).2.1 rfl) ho,r⟩
 .by_cases hb:b=T
  .subst hb;rw[bS]at e;grind
  .rw[aP hb]at e
   refine(I.hok b u e).stay (λc v hc q=>k c v ?_ q) (λc q=>by rw[aP (aQ q hn)];omega) λc xs q=>by rw[aP (aQ q hn)];omega
   grind
def Ite(K:aj)(a:Addr):It:=
 ⟨λi H=>∃xs x,SqT K H a xs/\xs[i]?=some x,λi H x H'=>∃T u,(∀xs,SqT K H a xs->xs[i]?=some u)/\H T=none/\x=.ref T/\H'=upd H T (.tup [.int i,u]),λi H=>∃xs,SqT K H a xs/\1#4<=i⟩
variable{ts:List Expr}{kt:Nat}
theorem CJ{P:Program}{w:World}{K:aj}{pt:Pos}(a e it:Addr)(YQ:e≠it):Turn P w K 11#2 (Ite K a) [e,it] e (λi h=>(∃old,IsEnum h e it (i:Nat) old)/\h.IsTupleIter it a i) where
 mem:=by simp
 obj:=λi h st b hb=>by
  obtain⟨⟨old,he⟩,o,ho,c,d⟩:=st;rcases aI.mp hb with z|z
  .subst z;exact⟨_,he,λv y=>by have y':GG _=Df v:=y;cases y'⟩
  .have z:b=it:=by simpa using z
   subst z;exact⟨o,ho,λv y=>by rw[d]at y;cases y⟩
 keep:=λi h h' st k=>by
  obtain⟨⟨old,he⟩,o,ho,r⟩:=st;exact⟨⟨old,k e 0#3 _ he⟩,o,k it 0#3 _ ho,r⟩
 item:=by
  intro X hP hw hK hc i pins s σ H E I hf st hg;subst hP hw hK;obtain⟨xs,x,hq,hx⟩:=hg;obtain⟨ZZ,rv,p,hz⟩:=I.tuple hq;obtain⟨u,hu,ru⟩:=rv.get hx;obtain⟨⟨old,he⟩,hit⟩:=st;have Wn:=ay he;have hil:it<0#8:=by obtain⟨o,ho,_⟩:=hit;exact ay ho
  refine GE.next_item he hit (show s.heap.IsTuple a ZZ.toArray from p) (x:=u) (by simpa using hu) YQ λh' ho U' hT ZN hk=>?_;refine⟨_,rfl,wpAny_letOwnedTupleGo_enum (s:={ s with heap:=h',toks:=s.toks+1 }) ho λh2 Wl ZE=>?_⟩;have Xs:h2.get? 0#8=some { cls := .type "tuple",data := .seq #[.int i s.toks,u] }:=(ZE.2 _ (bD Wn)).trans hT;have k:∀b o,b ∉ [e,it]->s.heap.get? b=some o->h2.get? b=some o:=λb o hb eo=>by
   have XR:b≠e:=λz=>hb (by simp[z]);have Xx:b≠it:=λz=>hb (by simp[z]);exact(ZE.2 b XR).trans (hk b o XR Xx eo)
  have new:fb X.prog X.w (upd H s.heap.objs.size (.tup [.int i,x])) h2 s.heap.objs.size (.tup [.int i,x]):=⟨by rw[sizeLine_eq];show 2<=16777216;decide,[.int i s.toks,u],.cons ⟨s.toks,rfl⟩ (.cons ru .nil),⟨_,Xs,rfl,_,rfl⟩,_,Xs,rfl⟩;have it2:h2.IsTupleIter it a (i+1):=U'.extBut ZE.extBut (cX YQ)
  exact⟨.ref s.heap.objs.size,_,I.turnNew (t':=s.toks+1) hf k 1#8 new,rfl,⟨_,x,λys hy=>by rw[I.tuple_inj hy hq];exact hx,I.hok.fresh 1#8,rfl,rfl⟩,⟨⟨u,by simpa using Wl⟩,it2⟩,λb hb=>by
   have hb0:=(hf b hb).1;rw[aP (λz=>?_)]
   .exact hb0
   .rcases aI.mp hb with y|y
    .exact absurd (y.symm.trans z) (aG Wn)
    .have y:b=it:=by simpa using y
     exact absurd (y.symm.trans z) (aG hil)⟩
 done:=by
  intro X hP hw hK hc i pins s σ H E I hf st hg;subst hP hw hK;obtain⟨xs,hq,hx⟩:=hg;obtain⟨ZZ,rv,p,hz⟩:=I.tuple hq;obtain⟨⟨old,he⟩,hit⟩:=st;obtain⟨f0,f1,f2,f3,f4,f5⟩:=hf it 0#3;have hl:=rv.length;exact GE.next_end 7#8 he hit (show s.heap.IsTuple a ZZ.toArray from p) 12#6 λh' eb=>⟨rfl,I.turned (t':=s.toks) (λb o hb e=>eb b o hb e) f0 f1 f3 f4 f5⟩
 self:=λ_ _ _ _ _ st h=>by
  obtain⟨⟨old,he⟩,_⟩:=st;exact wpAny_pyIter_enum he h
section
variable {X:Cx}
def wg(K:aj)(ta:TA):TI:=λσ H R=>ta σ H λvs H1=>(∃a xs,vs=[.ref a]/\SqT K H1 a xs/\R (Ite K a) H1)\/False
theorem Jp{a:Expr}{ta:TA}{p pos:Pos}{pt:Pos}(hg:Gl X "enumerate")(hm:X.mg "enumerate"=none)(ha:PA X [a] ta)(hs:autoParam 15#4 1#7):PI X 11#2 (.Call (.Name "enumerate" p) [a] [] pos) (wg X.K ta):=by
 intro pins s σ H R I h;refine Call_ (gG I hg hm boot_enumerate (bz 20#4 hs rfl));rcases q1 with q1|q1
 .obtain⟨b,xs,e,hq,q⟩:=q1
  subst e;cases r1 with
  | cons r rr=>
    cases rr;cases r;obtain⟨ZZ,rv,pt,hz⟩:=I1.tuple hq;refine GE.zR (show s1.heap.IsTuple b ZZ.toArray from pt) λh' he hit ZN hk=>?_;have I2:Inv X pins σ H1 { s1 with heap:=h',toks:=s1.toks }:=I1.kept hk;refine wpAny_pyIter_enum (s:={ s1 with heap:=h' }) he ?_;refine⟨7#6+1,[7#6+1,7#6],_,_,H1,rfl,I2,CJ b _ _ (Nat.succ_ne_self _),⟨⟨_,he⟩,hit⟩,λc hc=>?_,q⟩;rcases aI.mp hc with z |z
    .subst z;exact I1.fpOk (dQ _) (I1.hok.fresh (dQ _))
    .have z:c=s1.heap.objs.size:=by simpa using z
     subst z;exact I1.fpOk 1#8 (I1.hok.fresh 1#8)
 .exact q1.elim
end
end _L
namespace PySem
namespace GE
section
variable {prog:Program}{w:World}{A:Around}{E:Value->Shared->Prop}{s:Shared}
def gh:Bool->Heap->Addr->Addr->Nat->Prop
 |true,h,i,l,k=>h.IsListIter i l k
 |false,h,i,l,k=>h.IsTupleIter i l k
def kU:Bool->Heap->Addr->Array Value->Prop
 |true,h,l,xs=>h.IsList l xs
 |false,h,l,xs=>h.IsTuple l xs
variable{b:Bool}{h h':Heap}{l:Addr}
theorem zV{i:Addr}{k:Nat}(x:gh b h i l k)(f:∀o,h.get? i=some o->h'.get? i=some o):gh b h' i l k:=by
 cases b<;>(obtain⟨o,e,r⟩:=x;exact⟨o,f o e,r⟩)
theorem gh.extBut{i c:Addr}{k:Nat}(x:gh b h i l k)(f:jl c h h')(n:i≠c):gh b h' i l k:=zV x λo e=>f _ o n e
variable{xs:Array Value}
theorem kU.extBut{c:Addr}(x:kU b h l xs)(f:jl c h h')(n:l≠c):kU b h' l xs:=by
 cases b<;>(obtain⟨o,e,r⟩:=x;exact⟨o,f _ o n e,r⟩)
theorem gh.lt{i:Addr}{k:Nat}(x:gh b h i l k):i<12#0:=by
 cases b<;>(obtain⟨o,e,_⟩:=x;exact ay e)
variable{i:Nat}{items:Array Value}{x:Value}{Q:Value->Shared->Prop}
theorem se{it t:Addr}(hit:gh b s.heap it t i)(ht:kU b s.heap t items)(hx:items[i]?=some x)
  (hQ:∀h',gh b h' it t (i+1)->cU it s.heap h'->Q x { s with heap:=h' }):aC 2#0 A (bj (.ref it)) Q E s:=by
 cases b
 .exact lR hit ht hx hQ
 .exact wpAny_nextOf_list_item hit ht hx hQ
theorem Ce{it t:Addr}(hh:A.handled=none)(hit:gh b s.heap it t i)(ht:kU b s.heap t items)(hx:items[i]?=none)
  (hE :∀ h' e,jl it s.heap h'->21#4->E (.ref e) { s with heap:=h' }):aC 2#0 A (bj (.ref it)) Q E s:=by
 cases b
 .exact nO hh hit ht hx hE
 .exact wpAny_nextOf_list_end hh hit ht hx hE
variable{l1 l2:Addr}
theorem Cp{s:Addr}(la:l1<s)(lb:l2<s):ZipApart (s+4) (s+2) (s+3) s (s+1) l1 l2:=by
 have up:∀{a b:Nat},a<b->s+a≠s+b:=λh=>aG (Nat.add_lt_add_left h s);have z:∀{a:Nat},0<a->s≠s+a:=λh=>aG (Nat.lt_add_of_pos_right h);have b1:=λa=>aG (Nat.lt_add_right a la);have b2:=λa=>aG (Nat.lt_add_right a lb);exact⟨up 0#1,up 0#1,z 0#1,up 0#1,up 0#1,(z 0#1).symm,(up 0#1).symm,(z 0#1).symm,(up 0#1).symm,z 0#1,b1 4,b1 3,b1 0,b1 1,b2 4,b2 3,b2 0,b2 1⟩
variable{b a:Value}{b0:Bool}{i1 i2:Addr}{k1 k2:Nat}{ys:Array Value}
theorem Km{z TI TO:Addr}{y:Value}(D:ZipApart z TI TO i1 i2 l1 l2)(hz:IsZip s.heap z TI TO .none)(Zi:IsPair s.heap TI (.ref i1) (.ref i2))(YV:IsPair s.heap TO a b)(h1:gh b0 s.heap i1 l1 k1)(h2:s.heap.IsTupleIter i2 l2 k2)(Zl:kU b0 s.heap l1 xs)(YU:s.heap.IsTuple l2 ys)(hx:xs[k1]?=some x)(hy:ys[k2]?=some y)(hQ:∀h',IsZip h' z TI TO (rawInt 0#8)->IsPair h' TO x y->gh b0 h' i1 l1 (k1+1)->h'.IsTupleIter i2 l2 (k2+1)->IsPair h' s.heap.objs.size x y->10#4=0#8+1->19#9->Q 7#1 { s with heap:=h' }):aC 2#0 A (Builtin.«zip.__next__» ⟨[.ref z],[]⟩) (λfin s'=>∃v,fin=.done (.ret v)/\Q v s') E s:=by
 show aC _ _ (field (.ref z) 2 >>= _) _ _ _;refine af (bc hz rfl (x:= .bool false) rfl ?_);show aC _ _ (field (.ref z) 3 >>= _) _ _ _;refine af (bc hz rfl (x:= .ref TI) rfl ?_);refine af (fF Zi rfl ?_);show aC _ _ (bT (.ref z) >>= _) _ _ _;refine af ?_;unfold bT;refine af (bc hz rfl (x:= .none) rfl (ar ?_));simp only[if_true];refine af (gS ?_);refine af (bc hz rfl (x:= .ref TO) rfl ?_);refine af (cK hz 0#3 λZI ZA ZW=>?_);replace ZA:IsZip ZI z TI TO .ellipsis:=ZA;refine af ?_;simp only[List.zipIdx_cons,List.zipIdx_nil,xM,List.forIn_nil];refine af (af (vM ?_));show aC _ _ (bj (.ref i1) >>= _) _ _ _;refine af (se (h1.extBut ZW.extBut D.i1z) (Zl.extBut ZW.extBut D.l1z) hx λYY Xh ZT=>ar ?_);have Zu:IsPair YY TO a b:=ZT.extBut _ _ D.TOi1 (ZW.extBut _ _ D.TOz YV);refine af (fF Zu rfl ?_);refine af (uf Zu λZn YZ ZS=>?_);replace YZ:IsPair Zn TO x b:=YZ;refine af (BQ (ar ?_));refine af (af (vM ?_));show aC _ _ (bj (.ref i2) >>= _) _ _ _;refine af (lR (((h2.extBut ZW.extBut D.i2z).extBut ZT.extBut D.i12.symm).extBut ZS.extBut D.TOi2.symm) (((YU.extBut ZW.extBut D.l2z).extBut ZT.extBut D.l2i1).extBut ZS.extBut D.l2TO) hy λZg W9 Zz=>ar ?_);have XU:IsPair Zg TO x b:=Zz.extBut _ _ D.TOi2 YZ;refine af (fF XU rfl ?_);refine af (uf XU λZJ Zm ZQ=>?_);replace Zm:IsPair ZJ TO x y:=Zm;refine af (BQ (ar (ar ?_)));refine af (fF Zm rfl ?_);refine af (wpAny_newTuple ?_);have ZN:14#6=0#8:=by rw[ZQ.1,Zz.1,ZS.1,ZT.1,ZW.1]
 have WZ:IsZip ZJ z TI TO .ellipsis:=ZQ.extBut _ _ D.TOz.symm (Zz.extBut _ _ D.i2z.symm (ZS.extBut _ _ D.TOz.symm (ZT.extBut _ _ D.i1z.symm ZA)));have VQ:∀c o,c≠z->c≠TO->c≠i1->c≠i2->s.heap.get? c=some o->ZJ.get? c=some o:=λc o c1 c2 c3 c4 e=>ZQ.extBut _ _ c2 (Zz.extBut _ _ c4 (ZS.extBut _ _ c2 (ZT.extBut _ _ c3 (ZW.extBut _ _ c1 e))));have WY:gh b0 ZJ i1 l1 (k1+1):=((Xh.extBut ZS.extBut D.TOi1.symm).extBut Zz.extBut D.i12).extBut ZQ.extBut D.TOi1.symm;have Xd:ZJ.IsTupleIter i2 l2 (k2+1):=W9.extBut ZQ.extBut D.TOi2.symm;have V':z<14#6:=ay WZ;have hTOlt:TO<14#6:=ay Zm;have hi1lt:i1<14#6:=WY.lt;have hi2lt:i2<14#6:=by obtain⟨_,e,_⟩:=Xd;exact ay e
 show aC _ _ (dH (.ref z) (.ref ZJ.objs.size) >>= _) _ _ _;refine af ?_;unfold dH;have VP:IsZip (ZJ.push { cls := .type "tuple",data := .seq #[x,y] }) z TI TO .ellipsis:=ag _ WZ;refine af (cK VP 0#3 fun Xy hz₇ ZG=>?_);replace hz₇:IsZip Xy z TI TO (rawInt ZJ.objs.size):=hz₇;refine cK hz₇ 0#3 fun h₈ hz₈ hs₈=>?_;replace hz₈:IsZip h₈ z TI TO (rawInt ZJ.objs.size):=hz₈;have up :∀ c o,c≠z->ZJ.get? c=some o->h₈.get? c=some o:=fun c o c1 e=>hs₈.extBut _ _ c1 (ZG.extBut _ _ c1 (ag _ e));have Xe:IsPair h₈ ZJ.objs.size x y:=hs₈.extBut _ _ (bD V') (ZG.extBut _ _ (bD V') (av _ rfl));have RD:h₈.objs.size=14#6+1:=by rw[hs₈.1,ZG.1,a9]
 rw[ZN]at hz₈ Xe RD;refine ar ⟨_,rfl,?_⟩;show Q (.ref 14#6) _;rw[ZN];exact hQ h₈ hz₈ (up _ _ D.TOz Zm) (zV WY λo e=>up _ o D.i1z e) (Xd.at λo e=>up _ o D.i2z e) Xe RD λc o c1 c2 c3 c4 e=>up c o c1 (VQ c o c1 c2 c3 c4 e)
theorem MH{z TI TO:Addr}{Q:Fin->Shared->Prop}(hh:A.handled=none)(D:ZipApart z TI TO i1 i2 l1 l2)(hz:IsZip s.heap z TI TO .none)(Zi:IsPair s.heap TI (.ref i1) (.ref i2))(YV:IsPair s.heap TO a b)(h1:gh b0 s.heap i1 l1 k1)(h2:s.heap.IsTupleIter i2 l2 k2)(Zl:kU b0 s.heap l1 xs)(YU:s.heap.IsTuple l2 ys)(WA:xs[k1]?=none\/ys[k2]?=none)(hE :∀ h' e,(∀ c o,c≠z->c≠TO->c≠i1->c≠i2->s.heap.get? c=some o->h'.get? c=some o)->21#4->E (.ref e) { s with heap:=h' }):aC 2#0 A (Builtin.«zip.__next__» ⟨[.ref z],[]⟩) Q E s:=by
 show aC _ _ (field (.ref z) 2 >>= _) _ _ _;refine af (bc hz rfl (x:= .bool false) rfl ?_);show aC _ _ (field (.ref z) 3 >>= _) _ _ _;refine af (bc hz rfl (x:= .ref TI) rfl ?_);refine af (fF Zi rfl ?_);show aC _ _ (bT (.ref z) >>= _) _ _ _;refine af ?_;unfold bT;refine af (bc hz rfl (x:= .none) rfl (ar ?_));simp only[if_true];refine af (gS ?_);refine af (bc hz rfl (x:= .ref TO) rfl ?_);refine af (cK hz 0#3 λZI ZA ZW=>?_);replace ZA:IsZip ZI z TI TO .ellipsis:=ZA;refine af ?_;simp only[List.zipIdx_cons,List.zipIdx_nil,xM,List.forIn_nil];refine af (af (vM ?_));show aC _ _ (bj (.ref i1) >>= _) _ _ _;cases hx:xs[k1]? with
 | none=>
   refine af (Ce hh (h1.extBut ZW.extBut D.i1z) (Zl.extBut ZW.extBut D.l1z) hx λYY e ZT he=>?_);obtain⟨oe,WJ,Wb⟩:=he;have W':IsZip YY z TI TO .ellipsis:=ZT _ _ D.i1z.symm ZA;have UD:e≠z:=λx=>by subst x;rw[W']at WJ;cases WJ;simp at Wb
   refine cK W' 0#3 λZn _ ZS=>hE Zn e (λc o c1 _ c3 _ x=>ZS.extBut _ _ c1 (ZT _ _ c3 (ZW.extBut _ _ c1 x))) ⟨oe,ZS.extBut _ _ UD WJ,Wb⟩
 | some x=>
   have hy:ys[k2]?=none:=by rcases WA with h|h;rw[hx]at h;cases h;exact h
   refine af (se (h1.extBut ZW.extBut D.i1z) (Zl.extBut ZW.extBut D.l1z) hx λYY Xh ZT=>ar ?_);have Zu:IsPair YY TO a b:=ZT.extBut _ _ D.TOi1 (ZW.extBut _ _ D.TOz YV);refine af (fF Zu rfl ?_);refine af (uf Zu λZn YZ ZS=>?_);refine af (BQ (ar ?_));refine af (af (vM ?_));show aC _ _ (bj (.ref i2) >>= _) _ _ _;refine af (nO hh (((h2.extBut ZW.extBut D.i2z).extBut ZT.extBut D.i12.symm).extBut ZS.extBut D.TOi2.symm) (((YU.extBut ZW.extBut D.l2z).extBut ZT.extBut D.l2i1).extBut ZS.extBut D.l2TO) hy λZg e Zz he=>?_);obtain⟨oe,WJ,Wb⟩:=he;have Yz:IsZip Zg z TI TO .ellipsis:=Zz _ _ D.i2z.symm (ZS.extBut _ _ D.TOz.symm (ZT.extBut _ _ D.i1z.symm ZA));have UD:e≠z:=λx=>by subst x;rw[Yz]at WJ;cases WJ;simp at Wb
   refine cK Yz 0#3 λZJ _ ZQ=>hE ZJ e (λc o c1 c2 c3 c4 x=>ZQ.extBut _ _ c1 (Zz _ _ c4 (ZS.extBut _ _ c2 (ZT.extBut _ _ c3 (ZW.extBut _ _ c1 x))))) ⟨oe,ZQ.extBut _ _ UD WJ,Wb⟩
variable{Q:Option Value->Shared->Prop}
theorem Cf{z TI TO:Addr}{y:Value}(D:ZipApart z TI TO i1 i2 l1 l2)(hz:IsZip s.heap z TI TO .none)(Zi:IsPair s.heap TI (.ref i1) (.ref i2))(YV:IsPair s.heap TO a b)(h1:gh b0 s.heap i1 l1 k1)(h2:s.heap.IsTupleIter i2 l2 k2)(Zl:kU b0 s.heap l1 xs)(YU:s.heap.IsTuple l2 ys)(hx:xs[k1]?=some x)(hy:ys[k2]?=some y)(hQ:∀h',IsZip h' z TI TO (rawInt 0#8)->IsPair h' TO x y->gh b0 h' i1 l1 (k1+1)->h'.IsTupleIter i2 l2 (k2+1)->IsPair h' s.heap.objs.size x y->10#4=0#8+1->19#9->Q (some 7#1) { s with heap:=h' }):aC 2#0 A (pyNext (.ref z)) Q E s:=by
 have hT:s.TypeIs (.ref z) "zip":=⟨_,hz,rfl⟩;unfold pyNext;exact af (iH (bB (name:=d8 "__next__") hT pw (bX pw hT F.entry_zip_next (Km D hz Zi YV h1 h2 Zl YU hx hy fun h' a1 a2 a3 a4 a5 a6 a7=>ar (hQ h' a1 a2 a3 a4 a5 a6 a7)) (F.args_zip_next_1 _))))
theorem CV{z TI TO:Addr}(hh:A.handled=none)(D:ZipApart z TI TO i1 i2 l1 l2)(hz:IsZip s.heap z TI TO .none)(Zi:IsPair s.heap TI (.ref i1) (.ref i2))(YV:IsPair s.heap TO a b)(h1:gh b0 s.heap i1 l1 k1)(h2:s.heap.IsTupleIter i2 l2 k2)(Zl:kU b0 s.heap l1 xs)(YU:s.heap.IsTuple l2 ys)(WA:xs[k1]?=none\/ys[k2]?=none)(hQ:∀h',19#9->Q none { s with heap:=h' }):aC 2#0 A (pyNext (.ref z)) Q E s:=by
 have hT:s.TypeIs (.ref z) "zip":=⟨_,hz,rfl⟩;unfold pyNext;refine af (iH (bB (name:=d8 "__next__") hT pw (bX pw hT F.entry_zip_next (MH hh D hz Zi YV h1 h2 Zl YU WA fun h' e hk he=>?_) (F.args_zip_next_1 _))));obtain⟨o,ho,hc⟩:=he;refine af (jV (T:="StopIteration") (b:=true) ⟨o,ho,hc⟩ isSubtype_stop ?_);exact ar (hQ _ hk)
end
abbrev zH1(b0:Bool)(h:Heap)(l1:Addr):Heap:=h.push { cls := .type (if b0 then "list_iterator" else "tuple_iterator"),data := .fields #[.ref l1,.int 0 0] }
abbrev zH2(b0:Bool)(h:Heap)(a b:Addr):Heap:=(zH1 b0 h a).push { cls := .type "tuple_iterator",data := .fields #[.ref b,.int 0 0] }
abbrev zH3(b0:Bool)(h:Heap)(a b:Addr):Heap:=(zH2 b0 h a b).push { cls := .type "tuple",data := .seq #[.ref h.objs.size,.ref (zH1 b0 h a).objs.size] }
abbrev zH4(b0:Bool)(h:Heap)(a b:Addr):Heap:=(zH3 b0 h a b).push { cls := .type "tuple",data := .seq #[.none,.none] }
abbrev zH5(b0:Bool)(h:Heap)(a b:Addr):Heap:=(zH4 b0 h a b).push { cls := .type "zip",data := .fields #[.none,.bool false,.bool false,.ref (zH2 b0 h a b).objs.size,.ref (zH3 b0 h a b).objs.size] }
theorem Da(b0:Bool)(a b:Addr)(xs ys:Array Value):Meets (Builtin.«zip.__new__» ⟨[.type "zip",.ref a,.ref b],[]⟩) (fun _ R s=>kU b0 s.heap a xs/\s.heap.IsTuple b ys/\R (.ok (.ret (.ref (zH4 b0 s.heap a b).objs.size))) { s with heap:=zH5 b0 s.heap a b }):=
 .of_wp λprog w A R s h=>by
  obtain⟨hp,g,d,tk,os⟩:=s;obtain⟨Zl,YU,h⟩:=h;have Xn:=sub_zip;have Xr:ny (kN ⟨zH1 b0 hp a,g,d,tk,os⟩) b ys:=by
   obtain⟨o,ho,r⟩:=YU;exact⟨o,ag _ ho,r⟩
  cases b0 with
  | true=>
    have Wm:Heap.IsList (kN ⟨hp,g,d,tk,os⟩) a xs:=Zl;have Xr:ny (kN ⟨hp.push { cls := .type "list_iterator",data := .fields #[.ref a,.int 0 0] },g,d,tk,os⟩) b ys:=Xr
    wp_walk using nv Wm,eK Xr
    exact⟨_,rfl,h⟩
  | false=>
    have Wm:ny (kN ⟨hp,g,d,tk,os⟩) a xs:=Zl;have Xr:ny (kN ⟨hp.push { cls := .type "tuple_iterator",data := .fields #[.ref a,.int 0 0] },g,d,tk,os⟩) b ys:=Xr
    wp_walk using eK Wm,eK Xr
    exact⟨_,rfl,h⟩
section
variable {prog:Program}{w:World}{A:Around}{E:Value->Shared->Prop}{s:Shared}
theorem DQ{b0:Bool}{a b:Addr}{xs ys:Array Value}{Q:Value->Shared->Prop}(Zl:kU b0 s.heap a xs)(YU:s.heap.IsTuple b ys)
  (h :∀ h',IsZip h' (0#8+4) (0#8+2) (0#8+3) .none->IsPair h' (0#8+2) 7#1 (.ref (0#8+1))->IsPair h' (0#8+3) .none .none->gh b0 h' s.heap.objs.size a 0->h'.IsTupleIter (0#8+1) b 0->10#4=0#8+5->(∀ c o,s.heap.get? c=some o->h'.get? c=some o)->Q (.ref (0#8+4)) { s with heap:=h' }):aC 2#0 A (call (.type "zip") [.ref a,.ref b]) Q E s:=by
 refine callType_new F.called_zip 0#1 (F.typeCall_zip_2 _ _) (F.newCall_zip_2 _ _) (λobj=>F.args_object_init_3 obj _ _) F.entry_zip_new (Da b0 a b xs ys) ⟨Zl,YU,?_⟩;have z1:(zH1 b0 s.heap a).objs.size=0#8+1:=a9 ..;have z2:(zH2 b0 s.heap a b).objs.size=0#8+2:=by rw[a9,z1]
 have z3:(zH3 b0 s.heap a b).objs.size=0#8+3:=by rw[a9,z2]
 have z4:(zH4 b0 s.heap a b).objs.size=0#8+4:=by rw[a9,z3]
 have z5:(zH5 b0 s.heap a b).objs.size=0#8+5:=by rw[a9,z4]
 have g5:(zH5 b0 s.heap a b).get? (zH4 b0 s.heap a b).objs.size=some _:=av _ rfl;have g4:(zH5 b0 s.heap a b).get? (zH3 b0 s.heap a b).objs.size=some _:=ag _ (av _ rfl);have g3:(zH5 b0 s.heap a b).get? (zH2 b0 s.heap a b).objs.size=some _:=ag _ (ag _ (av _ rfl));have g2:(zH5 b0 s.heap a b).get? (zH1 b0 s.heap a).objs.size=some _:=ag _ (ag _ (ag _ (av _ rfl)));have g1:(zH5 b0 s.heap a b).get? 0#8=some _:=ag _ (ag _ (ag _ (ag _ (av _ rfl))));show _/\_;rw[z2,z3,z4]at g5;rw[z1,z2]at g3;rw[z3]at g4;rw[z1]at g2;rw[z4];exact⟨⟨_,g5,rfl⟩,h _ g5 g3 g4 (by cases b0<;>exact⟨_,g1,rfl,rfl⟩) ⟨_,g2,rfl,rfl⟩ z5 λc o x=>ag _ (ag _ (ag _ (ag _ (ag _ x))))⟩
end
end GE
end PySem
namespace _L
open PySem PySem.Spec PyProof.Rows
variable{X:Cx}{pins:List (Addr×Obj)}{σ:St}{H:Hp}{s:Shared}
theorem Inv.turnFp{h':Heap}{t':Nat}{fp:List Addr}(I:Inv X pins σ H s)(hf:∀b∈fp,tq X pins H b)(k:∀b u,b∉fp->s.heap.get? b=some u->h'.get? b=some u):Inv X pins σ H { s with heap:=h',toks:=t' }:=by
 have UB:∀b u,H b=some u->b∉fp:=λb u e z=>by rw[(hf b z).1]at e;cases e
 refine I.step (g':=s.gens) (d':=s.drawn) (ch:=fp) (λb hb=>⟨(hf b hb).2.2.2.1,(hf b hb).2.1,(hf b hb).2.2.2.2.1,(hf b hb).2.2.2.2.2⟩) (λb o _ _ hc e _=>k b o hc e) (λb o _ _ hc e _=>⟨o.slots,k b o hc e⟩)
  (λ_ _ _ _ n=>n) (λb o hc e=>⟨o,k b o hc e⟩) (λ_ _ e=>e) (λ_ _ _ e=>e) (λb ps e=>⟨#[],by rw[e];simp⟩) (λm hm=>?_) (λb u e=>?_) I.bare
 .obtain⟨o,es,ep,ho,r⟩:=hm
  exact⟨o,es,ep,k _ o (λz=>(hf _ z).2.1 rfl) ho,r⟩
 .refine(I.hok b u e).stay (λc v hc q=>k c v ?_ q) (λ_ q=>q) λ_ _ q=>q
  rcases hc with z|z
  .rw[z];exact UB b u e
  .exact UB c _ z
def SqB(b0:Bool)(K:aj)(H:Hp)(a:Addr)(xs:List V):Prop:=match b0 with
 |true=>SqL K H a xs
 |false=>SqT K H a xs
variable{b0:Bool}{a:Addr}{xs:List V}
theorem Inv.seqB(I:Inv X pins σ H s)(h:SqB b0 X.K H a xs):∃ZZ,cm xs ZZ/\GE.kU b0 s.heap a ZZ.toArray:=by
 cases b0 with
 |true=>obtain⟨ZZ,rv,p,_⟩:=I.list h;exact⟨ZZ,rv,p.isList⟩
 |false=>obtain⟨ZZ,rv,p,_⟩:=I.tuple h;exact⟨ZZ,rv,p⟩
theorem Inv.seqB_inj{ys:List V}(I:Inv X pins σ H s)(h:SqB b0 X.K H a xs)(h':SqB b0 X.K H a ys):xs=ys:=by
 cases b0 with
 |true=>exact I.list_inj h h'
 |false=>exact I.tuple_inj h h'
def Itz(K:aj)(b0:Bool)(a b:Addr):It:=
 ⟨λi H =>∃xs x ys y,SqB b0 K H a xs/\xs[i]? = some x/\SqT K H b ys/\ys[i]? = some y,λi H x H' =>∃T u v,(∀xs,SqB b0 K H a xs->xs[i]? = some u)/\(∀ys,SqT K H b ys->ys[i]? = some v)/\H T=none/\x = .ref T/\H'=upd H T (.tup [u,v]),
  λi H =>∃xs ys,SqB b0 K H a xs/\SqT K H b ys/\(xs.length<=i\/ys.length<=i)⟩
variable{ts:List Expr}{kt:Nat}
theorem EV{P:Program}{w:World}{K:aj}{pt:Pos}{l1 l2 z TI TO i1 i2:Addr}(D:ZipApart z TI TO i1 i2 l1 l2):Turn P w K 11#2 (Itz K b0 l1 l2) [z,TI,TO,i1,i2] z
  (λi h=>IsZip h z TI TO .none/\IsPair h TI (.ref i1) (.ref i2)/\(∃p q,IsPair h TO p q)/\GE.gh b0 h i1 l1 i/\h.IsTupleIter i2 l2 i) where
 mem:=by simp
 obj:=λi h st b hb=>by
  obtain⟨hz,Zi,⟨p,q,YV⟩,h1,o2,Yi,c2,d2⟩:=st;obtain⟨o1,ho1,c1,d1⟩ :∃o,h.get? i1=some o/\True/\o.data=.fields #[.ref l1,rawInt i]:=by cases b0<;>(obtain⟨o,e,_,d⟩:=h1;exact⟨o,e,trivial,d⟩)
  simp only[aI,cM,or_false]at hb;rcases hb with rfl|rfl|rfl|rfl|rfl
  .exact⟨_,hz,λv y=>by have y':GG _=Df v:=y;cases y'⟩
  .exact⟨_,Zi,λv y=>by have y':GI _ _=Df v:=y;cases y'⟩
  .exact⟨_,YV,λv y=>by have y':GI _ _=Df v:=y;cases y'⟩
  .exact⟨o1,ho1,λv y=>by rw[d1]at y;cases y⟩
  .exact⟨o2,Yi,λv y=>by rw[d2]at y;cases y⟩
 keep:=λi h h' st k=>by
  obtain⟨hz,Zi,⟨p,q,YV⟩,h1,o2,Yi,r2⟩:=st;exact⟨k z 0#3 _ hz,k TI 0#3 _ Zi,⟨p,q,k TO 0#3 _ YV⟩,GE.zV h1 λo e=>k i1 0#3 o e,o2,k i2 0#3 _ Yi,r2⟩
 item:=by
  intro X hP hw hK hc i pins s σ H E I hf st hg;subst hP hw hK;obtain⟨xs,x,ys,y,Wk,hx,Wi,hy⟩:=hg;obtain⟨Vy,Wj,p1⟩:=I.seqB Wk;obtain⟨ZP,Xj,p2,SK⟩:=I.tuple Wi;obtain⟨u,hu,ru⟩:=Wj.get hx;obtain⟨v,hv,rv⟩:=Xj.get hy;obtain⟨hz,Zi,⟨p,q,YV⟩,h1,h2⟩:=st;have Th:=ay hz;have lts:∀b∈[z,TI,TO,i1,i2],b<0#8:=λb hb=>by
   simp only[aI,cM,or_false]at hb;rcases hb with rfl|rfl|rfl|rfl|rfl
   .exact Th
   .exact ay Zi
   .exact ay YV
   .exact h1.lt
   .obtain⟨o,ho,_⟩:=h2;exact ay ho
  refine GE.Cf (b0:=b0) D hz Zi YV h1 h2 p1 (show s.heap.IsTuple l2 ZP.toArray from p2) (x:=u) (y:=v) (by simpa using hu) (by simpa using hv) λh' WU Uk h1' Ua hT ZN hk=>?_;refine⟨_,rfl,wpAny_letOwnedTupleGo_zip (s:={ s with heap:=h' }) WU λVc Wl ZE=>?_⟩;have Xs:Vc.get? 0#8=some { cls := .type "tuple",data := .seq #[u,v] }:=(ZE.2 _ (bD Th)).trans hT;have k:∀b o,b ∉ [z,TI,TO,i1,i2]->s.heap.get? b=some o->Vc.get? b=some o:=λb o hb eo=>by
   simp only[aI,cM,or_false,not_or]at hb;exact(ZE.2 b hb.1).trans (hk b o hb.1 hb.2.2.1 hb.2.2.2.1 hb.2.2.2.2 eo)
  have new:fb X.prog X.w (upd H s.heap.objs.size (.tup [x,y])) Vc s.heap.objs.size (.tup [x,y]):=⟨by rw[sizeLine_eq];show 2<=16777216;decide,[u,v],.cons ru (.cons rv .nil),⟨_,Xs,rfl,_,rfl⟩,_,Xs,rfl⟩;have t1:GE.gh b0 Vc i1 l1 (i+1):=h1'.extBut ZE.extBut D.i1z;have t2:Vc.IsTupleIter i2 l2 (i+1):=Ua.extBut ZE.extBut D.i2z
  exact⟨.ref 0#8,_,I.turnNew (t':=s.toks) hf k 1#8 new,rfl,⟨_,x,y,λzs hy=>by rw[I.seqB_inj hy Wk];exact hx,λzs VR=>by rw[I.tuple_inj VR Wi];exact hy,I.hok.fresh 1#8,rfl,rfl⟩,⟨Wl,ZE.extBut _ _ D.TIz (hk _ _ D.TIz D.TITO D.TIi1 D.TIi2 Zi),⟨u,v,ZE.extBut _ _ D.TOz Uk⟩,t1,t2⟩,λb hb=>by
   rw[aP (λe=>absurd (lts b hb) (by rw[e];exact bp _))]
   exact(hf b hb).1⟩
 done:=by
  intro X hP hw hK hc i pins s σ H E I hf st hg;subst hP hw hK;obtain⟨xs,ys,Wk,Wi,hx⟩:=hg;obtain⟨Vy,Wj,p1⟩:=I.seqB Wk;obtain⟨ZP,Xj,p2,SK⟩:=I.tuple Wi;obtain⟨hz,Zi,⟨p,q,YV⟩,h1,h2⟩:=st;have e1:=Wj.length;have e2:=Xj.length;refine GE.CV (b0:=b0) 7#8 D hz Zi YV h1 h2 p1 (show s.heap.IsTuple l2 ZP.toArray from p2) ?_ λh' hk=>⟨rfl,I.turnFp (t':=s.toks) hf λb o hb e=>?_⟩
  .rcases hx with hx|hx
   .exact .inl 12#6
   .exact .inr 12#6
  .simp only[aI,cM,or_false,not_or]at hb
   exact hk b o hb.1 hb.2.2.1 hb.2.2.2.1 hb.2.2.2.2 e
 self:=λ_ _ _ _ _ st h=>wpAny_pyIter_zip st.1 h
section
variable {X:Cx}
def AR(K:aj)(ta:TA):TI:=λσ H R=>ta σ H λvs H1=>∃b0 a b xs ys,vs=[.ref a,.ref b]/\SqB b0 K H1 a xs/\SqT K H1 b ys/\R (Itz K b0 a b) H1
theorem boot_zip:bootBuiltins "zip"=some (.type "zip"):=by decide +kernel
theorem Lo{a b:Expr}{ta:TA}{p pos:Pos}{pt:Pos}(hg:Gl X "zip")(hm:X.mg "zip"=none)(ha:PA X [a,b] ta)(hs:starEach [a,b] X.env=13#1::starEach [b] X.env)(ZE:starEach [b] X.env=[14#0]):PI X 11#2 (.Call (.Name "zip" p) [a,b] [] pos) (AR X.K ta):=by
 intro pins s σ H R I h;refine Call_ (gG I hg hm boot_zip (bz 20#4 (by rw[hs,ZE]) (by rw[ZE];rfl)));obtain⟨b0,l1,l2,xs,ys,e,Wk,Wi,q⟩:=q1;subst e;cases r1 with
 | cons r rr=>
   cases rr with
   | cons r2 rr=>
     cases rr;cases r;cases r2;obtain⟨Vy,Wj,p1⟩:=I1.seqB Wk;obtain⟨ZP,Xj,p2,SK⟩:=I1.tuple Wi;refine GE.DQ p1 (show s1.heap.IsTuple l2 ZP.toArray from p2) λh' he Zi YV V4 Vo ZN hk=>?_;have I2:Inv X pins σ H1 { s1 with heap:=h',toks:=s1.toks }:=I1.kept hk;refine wpAny_pyIter_zip (s:={ s1 with heap:=h' }) he ?_;have la: @LT.lt Nat _ l1 7#6:=by cases b0<;>(obtain⟨o,ho,_⟩:=p1;exact ay ho)
     have lb: @LT.lt Nat _ l2 7#6:=by obtain⟨o,ho,_⟩:=(show s1.heap.IsTuple l2 ZP.toArray from p2);exact ay ho
     have D:=GE.Cp la lb;refine⟨7#6+4,[7#6+4,7#6+2,7#6+3,7#6,7#6+1],_,_,H1,rfl,I2,EV D,⟨he,Zi,⟨_,_,YV⟩,V4,Vo⟩,λc hc=>?_,q⟩;have hle:7#6<=c:=by
      simp only[aI,cM,or_false]at hc;rcases hc with rfl|rfl|rfl|rfl|rfl<;>omega
     exact I1.fpOk hle (I1.hok.fresh hle)
end
end _L
namespace _L
open PySem PyProof.Rows
def FY(off:List Addr)(h h':Heap):Prop:= ∀b o,b∉off->h.get? b=some o->h'.get? b=some o
section
variable {prog:Program}{w:World}{A:Around}{E:Value->Shared->Prop}{s:Shared}{I S:Addr}{fp wr:List Addr}{n:Nat}{P:Nat->Value->Prop}{St:Nat->Heap->Prop}{h0:Heap}{v0:Value}{R:Result->Shared->Prop}
end
def yC(xs:Array Nat):Prop:=xs.toList.Pairwise (· < ·)
variable{xs:Array Nat}{j:Nat}
theorem yC.lt(r:yC xs){i:Nat}(h:i<j)(hj:j<xs.size):xs[i]'(bg h hj)<xs[j]:=by
 have:=(List.pairwise_iff_getElem.mp r) i j (by simpa using bg h hj) 14#2 h;simpa using this
theorem sh{xs:Array Nat}(r:yC xs){j:Nat}:∀(f lo hi:Nat),lo<=hi->hi<=xs.size->hi-lo<=f->(∀i (h:i<xs.size),i<lo->xs[i]<j)->(∀i (h:i<xs.size),hi<=i->j<=xs[i]) ->
  gv xs j f lo hi<=xs.size/\(∀i (h:i<xs.size),i<gv xs j f lo hi->xs[i]<j) /\ ∀i (h:i<xs.size),gv xs j f lo hi<=i->j<=xs[i]
 | 0,lo,hi,h1,h2,h3,a,b=>by
   unfold gv;have:lo=hi:=by omega
   subst this;exact⟨h2,a,b⟩
 | f+1,lo,hi,h1,h2,h3,a,b=>by
   unfold gv;by_cases h:lo<hi
   .rw[if_pos h]
    dsimp only;have hm:(lo+hi)/2<xs.size:=by omega
    have em:xs.getD ((lo+hi)/2) j=xs[(lo+hi)/2]:=by simp[Array.getD,hm]
    rw[em];by_cases q:xs[(lo+hi)/2]<j
    .rw[if_pos q]
     refine sh r f _ _ 0#2 h2 0#2 (λi XA hl=>?_) b;by_cases z:i=(lo+hi)/2
     .subst z;exact q
     .exact bg (r.lt (show i<(lo+hi)/2 by omega) hm) q
    .rw[if_neg q]
     refine sh r f _ _ 0#2 (by exact aM 1#1) 0#2 a (λi XA hl=>?_);by_cases z:i=(lo+hi)/2
     .subst z;exact fj 1#1
     .have:=r.lt (show(lo+hi)/2<i by omega) XA
      omega
   .rw[if_neg h]
    have:lo=hi:=by omega
    subst this;exact⟨h2,a,b⟩
theorem zU{xs:Array Nat}(r:yC xs)(j:Nat):bE xs j<=xs.size/\(∀i (h:i<xs.size),i<bE xs j->xs[i]<j) /\ ∀i (h:i<xs.size),bE xs j<=i->j<=xs[i]:=
 sh r _ _ _ (ee _) 1#8 1#8 (λi _ h=>absurd h (Nat.not_lt_zero i)) λi h1 h2=>absurd h1 (Nat.not_lt.mpr h2)
theorem E1(r:yC xs)(h:xs[bE xs j]? ≠ some j):yC (SetTable.insertAt xs (bE xs j) j):=by
 obtain⟨h1,h2,h3⟩:=zU r j;unfold yC;rw[SetTable.toList_insertAt];have rl:xs.toList.Pairwise (· < ·):=r;have lt:∀x∈xs.toList.take (bE xs j),x<j:=λx hx=>by
  obtain⟨i,hi,rfl⟩:=qP hx;rw[eg,eZ]at hi;have:=h2 i 0#2 0#2;simpa using this
 have gt:∀x∈xs.toList.drop (bE xs j),j<x:=λx hx=>by
  obtain⟨i,hi,rfl⟩:=qP hx;rw[gq,eZ]at hi;have hb:bE xs j+i<xs.size:=by omega
  have:=h3 (bE xs j+i) hb 0#2;have e:(xs.toList.drop (bE xs j))[i]'(by rw[gq,eZ];exact hi)=xs[bE xs j+i]:=by simp
  rw[e];rcases Nat.lt_or_eq_of_le this with z|z
  .exact z
  .exfalso
   by_cases i0:i=0
   .subst i0
    exact h (by rw[Array.getElem?_eq_getElem 1#1];simpa using z.symm)
   .have a:=h3 (bE xs j) 0#2 1#8
    have b:=r.lt (show bE xs j<bE xs j+i by omega) hb;omega
 refine List.pairwise_append.mpr ⟨rl.sublist (List.take_sublist _ _),List.pairwise_cons.mpr ⟨gt,rl.sublist (List.drop_sublist _ _)⟩,λa ha b hb=>?_⟩;rcases aI.mp hb with rfl |hb
 .exact lt a ha
 .exact bg (lt a ha) (gt b hb)
structure jq(t:SetTable)(led:Bool):Prop where
 r:yC t.place
 d:t.dummies = #[]
 l:t.led=led
theorem jq.fresh(led:Bool):jq (.fresh 0 0 led) led:=⟨.nil,rfl,rfl⟩
variable{led:Bool}
theorem jq.stand{t:SetTable}(n:Nat)(h:jq t led):jq (t.standIn n) led:=⟨by
 show(Array.range n).toList.Pairwise (· < ·)
 rw[Array.toList_range];exact Dn,rfl,h.l⟩
theorem HN{t:SetTable}(h:jq t led)(j:Nat):t.slot j≠.dummy:=by
 have:zH t.dummies j=false:=by rw[h.d];rfl
 unfold SetTable.slot;dsimp only
 split
 .exact λz=>by cases z
 .rw[this];exact λz=>by cases z
theorem AF{t:SetTable}(h:t.slot j=.empty):t.place[bE t.place j]? ≠ some j:=λz=>by
 unfold SetTable.slot at h;dsimp only at h;rw[if_pos (by rw[z];exact beq_self_eq_true _)]at h;cases h
theorem yY{t:SetTable}{led:Bool}(ht:jq t led){hash:Nat->Int}{h:Int}:∀(f:Nat) (p:SetTable.Probe) {j:Nat}{d:Option Nat},p.dummy=none->zz t hash h f p=some (.empty j d)->t.slot j=.empty/\d=none
 |0,p,j,d,_,e=>by cases e
 | f+1,p,j,d,hd,e=>by
   unfold zz at e;have Q2:(t.advance p).dummy=none:=by unfold SetTable.advance;split<;>exact hd
   split at e
   .rename_i q;cases e;exact⟨q,hd⟩
   .rename_i q;exact absurd q (HN ht _)
   .split at e
    .cases e
    .exact yY ht f _ Q2 e
theorem CA{t:SetTable}(ht:jq t led){h:Int}{b:Bool}(e:t.freeSlot h=some (j,b)):t.place[bE t.place j]? ≠ some j:=by
 unfold SetTable.freeSlot at e
 split at e
 .rename_i j' d q
  obtain⟨q1,q2⟩:=yY ht _ _ rfl q;subst q2;cases e;exact AF q1
 .cases e
theorem jq.put{t:SetTable}(ht:jq t led)(h:t.place[bE t.place j]? ≠ some j):jq (t.put j).1 led:=by
 refine⟨E1 ht.r h,?_,ht.l⟩;show(if zH t.dummies j then _ else t.dummies) = #[];rw[if_neg (by rw[ht.d];simp[zH])];exact ht.d
theorem jq.orStand{t:SetTable}(n:Nat)(h:jq t led):jq (t.orStandIn n) led:=by
 unfold SetTable.orStandIn
 split
 .exact h
 .exact h.stand n
theorem jq.lay{t:SetTable}(ht:jq t led)(es:Array (Int×Value))(h:Int)(x:Value):jq (layNew t es h x).2.1 led:=by
 unfold layNew
 split
 .rename_i j b e;exact(ht.put (CA ht e)).orStand _
 .exact ht.stand _
theorem jq.relay{t:SetTable}(ht:jq t led)(es:Array (Int×Value))(n:Nat):jq (relayAll t es n).2.1 led:=by
 unfold relayAll
 split
 .rename_i t' order e
  dsimp only
  split
  .unfold SetTable.relaid SetTable.laid at e
   simp only[bind,Option.bind]at e
   split at e
   .cases e
   .cases e
    refine⟨?_,rfl,ht.l⟩;show List.Pairwise _ _;rw[List.toList_toArray];refine k9.mpr (List.pairwise_filterMap.mpr (List.pairwise_lt_range.imp λ{a b} Vx x hx y hy=>?_));obtain⟨_,_,rfl⟩:=iC.mp hx;obtain⟨_,_,rfl⟩:=iC.mp hy;exact Vx
  .exact ht.stand _
 .exact ht.stand _
def QH:Value->Int
 |.int i _=>i
 |_=>0
def wJ(es:Array (Int×Value))(ep:Nat)(t:SetTable):Obj:={ cls := .type "set",dict:=none,data := .set es ep t,slots := #[] }
structure yT(prog:Program)(w:World)(led:Bool)(ns:List Int)(es:Array (Int×Value))(t:SetTable):Prop where
 fit:t.fits es.size=true
 tab:jq t led
 el:ElemsOf (intKind prog w) es.toList
 sm:es.size<scanBound
 pm:(es.toList.map λe=>QH e.2).Perm ns
def vY(prog:Program)(w:World)(h:Heap)(a:Addr)(led:Bool)(ns:List Int):Prop:= ∃es ep t,h.get? a=some (wJ es ep t)/\yT prog w led ns es t
section
variable {prog:Program}{w:World}{A:Around}{E:Value->Shared->Prop}{s:Shared}{led:Bool}{ns:List Int}
variable{es:Array (Int×Value)}
theorem yT.len{t:SetTable}(h:yT prog w led ns es t):es.size=ns.length:=by have:=h.pm.length_eq;simpa using this
theorem yT.int{t:SetTable}(h:yT prog w led ns es t){e:Int×Value}(he:e∈es.toList):∃i u,e.2=.int i u:=by
 obtain⟨⟨k,hk,_⟩,_⟩:=h.el e he;obtain⟨u,hu⟩:=ue (k:=k) (v:=e.2) hk;exact⟨k,u,hu⟩
variable{a:Addr}{ep:Nat}
theorem vg{Xk:Array (Int×Value)}{t t':SetTable}{Q:Unit->Shared->Prop}(ho:s.heap.get? a=some (wJ es ep t))(hz:Xk.size<scanBound)
  (h:∀h',cU a s.heap h'->h'.get? a=some (wJ Xk (ep+1) t')->Q () { s with heap:=h' }):aC 2#0 A (storeSet a Xk t') Q E s:=by
 refine wpAny_storeSet_of ho rfl (h _ (eC ..) ?_) (fits_of_scanBound hz);have g:=di (Obj.putSet Xk t') ho (by rw[putSet_of Xk t' rfl];rfl);rw[putSet_of Xk t' rfl]at g;exact g
theorem yl{g:Bool->Sem Unit}(hg:∀(b:Bool) (ZV:Shared) (Q':Unit->Shared->Prop),Q' () ZV->aC 2#0 A (g b) Q' E ZV){Z8:Array (Int×Value)}{t t2:SetTable}(ho:s.heap.get? a=some (wJ es ep t))(he:yT prog w led ns Z8 t2)
  {wd:Bool}{R:Option Bool->Shared->Prop} (h:∀h',cU a s.heap h'->vY prog w h' a led ns->R (some true) { s with heap:=h' }):
  aC 2#0 A (storeSet a Z8 t2 >>= λ_=>if (!wd&&t2.tooFull)=true then(g (relayAll t2 Z8 (fP Z8.size)).2.2 >>= λ_=>storeSet a (relayAll t2 Z8 (fP Z8.size)).1 (relayAll t2 Z8 (fP Z8.size)).2.1 >>= λ_=>pure (some true)) else pure (some true)) R E s:=by
 refine af (vg ho he.sm λh1 s1 g1=>?_)
 split
 .have hp:=relayAll_perm t2 Z8 (fP Z8.size);have hf:=relayAll_fits t2 Z8 (fP Z8.size);have ht:=he.tab.relay Z8 (fP Z8.size)
  have ZN:(relayAll t2 Z8 (fP Z8.size)).1.size=Z8.size:=by have:=hp.length_eq;simpa using this
  refine af (hg _ _ _ (af (vg g1 (by rw[ZN];exact he.sm) λh2 s2 g2=>ar ?_)));exact h h2 (s1.trans s2) ⟨_,_,_,g2,hf,ht,he.el.perm hp,by rw[ZN];exact he.sm,(hp.map _).trans he.pm⟩
 .exact ar (h h1 s1 ⟨_,_,_,g1,he⟩)
theorem IB{i:Int}{u:Tok}{Q:Bool->Shared->Prop}(hS:vY prog w s.heap a led ns)(hr:5#6+1<scanBound)
  (h:∀h',cU a s.heap h'->vY prog w h' a led (if i∈ns then ns else ns++[i])->∀b,Q b { s with heap:=h' }):aC 2#0 A (setAddHashed a (.int i u) ((intKind prog w).hash i)) Q E s:=by
 obtain⟨es,ep,t,ho,he⟩:=hS;have XI:(intKind prog w).is i (.int i u)=true:=intKind_is _ _ _ _;have UA:(uN i u).scannable=true:=rfl;have mem:i∈ns ↔ ∃e∈es.toList,(intKind prog w).is i e.2=true:=by
  rw[<-he.pm.mem_iff,bw];constructor
  .rintro ⟨e,m,q⟩
   obtain⟨j,u',hu⟩:=he.int m;rw[hu]at q;have q:j=i:=q;subst q;exact⟨e,m,by rw[hu];exact intKind_is _ _ _ _⟩
  .rintro ⟨e,m,q⟩
   obtain⟨u',hu⟩:=ue (k:=i) (v:=e.2) q;exact⟨e,m,by rw[hu];rfl⟩
 unfold setAddHashed setAddHashedIn;refine dG (af (wpAny_setState_of ho rfl he.fit ?_));dsimp only;rw[byScan_of UA he.sm he.el];simp only[↓reduceIte];unfold setAddByScan;refine af (af (gS (af (wpAny_setScan_of XI ho rfl he.fit he.el ?_))));cases hq:List.findIdx? (λe=>(intKind prog w).is i e.2) es.toList with
 | some j=>
   dsimp only;obtain⟨hj,hpj,_⟩:=dA.mp hq;have V2:i∈ns:=mem.mpr ⟨es.toList[j],i3 hj,hpj⟩;refine ar (ar ?_);rw[if_pos V2]at h;exact h s.heap (Heap.SameBut.refl a s.heap) ⟨es,ep,t,ho,he⟩ _
 | none=>
   dsimp only;have V2:i∉ns:=λz=>by
    obtain⟨e,m,q⟩:=mem.mp z;have:=List.findIdx?_eq_none_iff.mp hq e m;rw[q]at this;cases this
   rw[if_neg V2]at h;have hp:=layNew_perm t es ((intKind prog w).hash i) (.int i u);have hf:=layNew_fits t es ((intKind prog w).hash i) (.int i u);have ht:=he.tab.lay es ((intKind prog w).hash i) (.int i u);generalize layNew t es ((intKind prog w).hash i) (.int i u)=L at hp hf ht ⊢;obtain⟨Z8,t1,wd,gave⟩:=L;dsimp only at hp hf ht ⊢;rw[Array.toList_push]at hp;have ZN:Z8.size=es.size+1:=by have:=hp.length_eq;simpa using this
   have Rr:yT prog w led (ns++[i]) Z8 t1:=⟨hf,ht,(he.el.push XI UA).perm hp,by rw[ZN,he.len];exact hr,(hp.map _).trans (by rw[cZ];exact he.pm.append_right _)⟩;have hg :∀ (b:Bool) (ZV:Shared) (Q':Unit->Shared->Prop),Q' () ZV->aC 2#0 A (match b with | true=>rule "set.scan.the-table-gave-way" | false=>pure ()) Q' E ZV:=fun b ZV Q' q=>by cases b<;>first | exact ar q | exact gS q
   refine af (hg _ _ _ ?_);have fin:∀h',cU a s.heap h'->vY prog w h' a led (ns++[i])->Q true { s with heap:=h' }:=λh' x y=>h h' x y _
   split
   .refine af ?_;rw[hashByValue_scannable 8 UA];refine ar ?_
    refine yl (led:=led) (ns:=ns++[i]) hg ho ?_ λh' x y=>?_
    .exact Rr
    .dsimp only;exact ar (fin h' x y)
   .refine af (ar ?_);simp only[↓reduceIte]
    refine yl hg ho Rr λh' x y=>?_;dsimp only;exact ar (fin h' x y)
def ddp(l:List Int):List Int:=l.foldl 18#5 []
theorem Ez(l:List Int)(x:Int):ddp (l++[x])=if x∈ddp l then ddp l else ddp l++[x]:=by unfold ddp;rw[List.foldl_append];rfl
theorem y3:∀(l acc:List Int),(l.foldl 18#5 acc).length<=acc.length+2#4
 |[],acc=>by simp
 | x::l,acc=>by
   have:=y3 l (if x∈acc then acc else acc++[x]);have h:(if x∈acc then acc else acc++[x]).length<=acc.length+1:=by split<;>simp
   simp only[xN,bP];omega
theorem Bm(l:List Int):(ddp l).length<=l.length:=by have:=y3 l [];simpa [ddp]using this
theorem yw{R:Result->Shared->Prop}{I S:Addr}{fp wr:List Addr}{vs:List Int}{P:Nat->Value->Prop}{St:Nat->Heap->Prop}(W:Walks prog w A.in1 I fp wr vs.length P St)(hf:S∉fp)
  (hv:∀i v,P i v->∃t,v=.int (vs.getD i 0) t) (hb:2#6+1<scanBound):∀(k i:Nat) (s:Shared),i+k=2#6->St i s.heap->vY prog w s.heap S led (ddp (vs.take i)) ->
   (∀ h' tk,FY (S::wr) s.heap h'->vY prog w h' S led (ddp vs)->R (.ok (.ret .none)) { s with heap:=h',toks:=tk })->jY 2#0 A (.builtin "set.update.loop" ⟨[.ref S,.ref I],[]⟩) R s:=by
 have hw:S∉wr:=λh=>hf (W.sub _ h);intro k
 induction k with
 | zero=>
   intro i s e st hS hR;refine de lh ?_;rw[i4 fJ _];show aC _ A.in1 (pyNext (.ref I) >>= _) _ _ s;have e:i=2#6:=e;subst e;refine af (W.done s _ _ st λh' tk hk=>?_);show aC _ A.in1 (ret ei) _ _ _;refine ar (hR h' tk (λb o hb e=>hk b o (λq=>hb (az _ q)) e) ?_);rw[mK]at hS;obtain⟨es,ep,t,ho,he⟩:=hS;exact⟨es,ep,t,hk S _ hw ho,he⟩
 | succ k ih=>
   intro i s e st hS hR;refine de lh ?_;rw[i4 fJ _];show aC _ A.in1 (pyNext (.ref I) >>= _) _ _ s;refine af (W.item i s _ _ 0#2 st λv h' tk hP Yt hk=>?_);obtain⟨u,rfl⟩:=hv i v hP;have YG:vY prog w h' S led (ddp (vs.take i)):=by
    obtain⟨es,ep,t,ho,he⟩:=hS;exact⟨es,ep,t,hk S _ hw ho,he⟩
   have hl:=Bm (vs.take i);rw[eg]at hl;have hi:i<2#6:=by omega
   have ev:vs.getD i 0=vs[i]:=by simp[List.getD,hi]
   have Q1:ddp (vs.take (i+1))=if vs.getD i 0∈ddp (vs.take i) then ddp (vs.take i) else ddp (vs.take i)++[vs.getD i 0]:=by rw[List.take_add_one,bo hi,ev];exact Ez _ _
   show aC _ A.in1 (holding [uN (vs.getD i 0) u] (setAdd S (.int (vs.getD i 0) u)) >>= _) _ _ _;refine af (dG ?_);unfold setAdd;refine dG (af ((intKind prog w).pyHash (k:=vs.getD i 0) (intKind_is _ _ _ _) ?_));refine IB (led:=led) YG 0#2 λh2 s2 Rz b=>?_;rw[<-Q1]at Rz;refine ar ⟨plainId_quiet fJ _,ih (i+1) _ 0#2 (W.frame _ _ _ Yt λb hb o e=>?_) Rz λh3 Q0 hd hS3=>hR h3 Q0 (λb o hb e=>hd b o hb ?_) hS3⟩
   .rw[s2.2 b (λq:b=S=>hf (by rw[<-q];exact hb))];exact e
   .rw[s2.2 b (λq:b=S=>hb (by rw[q];exact aV))];exact hk b o (λq=>hb (az _ q)) e
theorem Ip(a:Value){Q₁:Value->Shared->Prop}(h:Q₁ 7#1 { s with heap:=s.heap.push (wJ #[] 0 (.fresh 0 0 (!w.params.followText "set-order"))) }):jY 2#0 A (.call (.builtin "set.__new__") ⟨[.type "set",a],[]⟩) (wants Q₁ E) s:=by
 refine Dg ?_;show aC _ A.in1 (do checkBuiltinCall "set.__new__" ⟨[.type "set",a],[]⟩;again (.builtin "set.__new__" ⟨[.type "set",a],[]⟩)) _ _ s;refine af (fO (PySem.F.newCall_set_1 a) (ar ⟨plainId_quiet BR _,de PySem.F.entry_set_new ?_⟩));rw[i4 BR _];unfold Builtin.«set.__new__» Builtin.Frozenset.newClass;have Xn:=sub_set_self;obtain⟨hp,g,d,tk,os⟩:=s;dsimp only;wp_walk;refine wpAny_askSetting (ar ?_);dsimp only;simp only[newObj];refine af (wpAny_alloc (ar ?_));exact ar h
set_option maxHeartbeats 8000000 in
theorem Ew{l:Addr}{T:String}{items:Array Value}{nl:Nat}{vs:List Int}{Q:Value->Shared->Prop}(hT:T="list"\/T="tuple")(hh:A.handled=none){od:Option Addr}{osl:Array (Option Value)}(X9:s.heap.get? l=some { cls := .type T,dict:=od,data := .seq items nl,slots:=osl })(hi:IntsAre items.toList vs)(hb:2#6+1<scanBound)
  (h :∀ (h':Heap) (tk:Nat),vY prog w h' s.heap.objs.size (!w.params.followText "set-order") (ddp vs)->FY [] s.heap h'->Q 7#1 { s with heap:=h',toks:=tk }):aC 2#0 A (call (.type "set") [.ref l]) Q E s:=by
 obtain⟨c,tl,hmro⟩:=PySem.F.called_set.mro;have hmade:=PySem.F.called_set.made;have Xn:=PySem.F.called_set.sub;have Rj:items.size=vs.length:=by have:=hi.length;simpa using this
 refine xu (Dg ?_);show aC _ _ (callAny (.type "set") _) _ _ _;refine ar ⟨Code.quiet_builtin _ 1#0,de PySem.F.entry_type_call ?_⟩;rw [Around.under_plain (weight_type_call_type "set" [.ref l] []) rfl];have h1:=PySem.F.called_set.notType;have h2:=PySem.F.called_set.canCreate;have hct:=PySem.F.typeCall_set_1 (.ref l)
 repeat (any_goals (first |assumption |wp_step))
 generalize hled:(!w.params.followText "set-order")=led at h;refine ff (Ip (.ref l) (E:=E) (Q₁:=λobj ZV=>obj=.ref 0#8/\ZV={ s with heap:=s.heap.push (wJ #[] 0 (.fresh 0 0 led)) }) (by rw[hled];exact⟨rfl,rfl⟩)) λr ZV hr=>?_;cases r with
 |error e=>exact hr
 | ok fl=>
   cases fl with
   | ret obj=>
     obtain⟨rfl,rfl⟩:=hr;generalize hg:s.heap.push (wJ #[] 0 (.fresh 0 0 led))=g;have gz:g.objs.size=0#8+1:=by rw[<-hg];exact a9 ..
     have hS:g.get? 0#8=some (wJ #[] 0 (.fresh 0 0 led)):=by rw[<-hg];exact av _ rfl
     have hk:∀b o,s.heap.get? b=some o->g.get? b=some o:=λb o e=>by rw[<-hg];exact ag _ e
     have hTS:zI { s with heap:=g } 7#1 "set":=⟨_,hS,rfl⟩;have hli:=PySem.F.called_set.init.lookup;have Vh:=PySem.F.called_set.init.bind 7#1
     repeat (any_goals (first |assumption |wp_step))
     refine ff (ug (R:=wants (λr ZY=>r=.none /\ ∃h' tk,ZY={ s with heap:=h',toks:=tk }/\vY prog w h' s.heap.objs.size led (ddp vs)/\FY [] s.heap h') E) PySem.F.called_set.init.plain PySem.F.entry_set_init (check_set_init_1 hTS ?_)) λr₂ ZY Yg=>?_
     .have VD:=hk _ _ X9
      have hls:isSubtype (.type T) (.type "set")=pure false:=by rcases hT with rfl|rfl<;>first|exact PySem.F.sub_list_set|exact sub_tup_set
      have hlf:isSubtype (.type T) (.type "frozenset")=pure false:=by rcases hT with rfl|rfl<;>first|exact PySem.F.sub_list_frozenset|exact sub_tup_frz
      have YQ:(zw T==zw "dict")=false:=by rcases hT with rfl|rfl<;>decide
      unfold Builtin.«set.__init__» noKeywords Builtin.Frozenset.updateFrom;generalize hPI:pyIter=PI;unfold wJ at hS
      wp_walk
      subst hPI;have lS: @LT.lt Nat _ l 0#8:=ay X9;have lI:l≠g.objs.size:=λq=>by have q': @Eq Nat l g.objs.size:=q;omega
      have hf:0#8 ∉ [g.objs.size,l]:=λq=>by
       rcases aI.mp q with q|q
       .have q': @Eq Nat s.heap.objs.size g.objs.size:=q;omega
       .have q': @Eq Nat s.heap.objs.size l:=a8.mp q;omega
      have hv:∀(i:Nat) (v:Value),items[i]?=some v->∃t,v=.int (vs.getD i 0) t:=λi v hv=>PyProof.Rows.IntsAre.int_at hi i v (by rw[Array.getElem?_toList];exact hv);have SX:A.in1.in1.in1.handled=none:=by simp[hh]
      have fr:yT prog w led (ddp []) #[] (.fresh 0 0 led):=⟨rfl,jq.fresh led,λe he=>by simp at he,by decide,by exact .refl _⟩;have fin:∀(io:Obj) (h':Heap),FY [0#8,g.objs.size] (g.push io) h'->FY [] s.heap h':=λio h' hd b o _ e=>by
       have lb: @LT.lt Nat _ b 0#8:=ay e;refine hd b o (λq=>?_) (ag _ (hk b o e));rcases aI.mp q with q |q
       .have q': @Eq Nat b 0#8:=q;omega
       .have q': @Eq Nat b g.objs.size:=a8.mp q;omega
      rcases hT with rfl|rfl
      .have Zl:g.IsList l items:=⟨_,VD,rfl,nl,rfl⟩
       refine nv Zl (af (mm ?_));have W:=Walks.list (prog:=prog) (w:=w) (A:=A.in1.in1.in1) SX g.objs.size l lI items;rw[Rj]at W;exact yw (led:=led) W hf hv hb vs.length 0 _ 0#2 ⟨⟨_,av _ rfl,rfl,rfl⟩,Zl.push _⟩ ⟨_,_,_,ag _ hS,fr⟩ λh' tk hd YG=>ar (ar ⟨rfl,h',tk,rfl,YG,fin _ h' hd⟩)
      .have Zl:g.IsTuple l items:=⟨_,VD,rfl,nl,rfl⟩
       refine eK Zl (af (mm ?_));have W:=Walks.tuple (prog:=prog) (w:=w) (A:=A.in1.in1.in1) SX g.objs.size l lI items;rw[Rj]at W;exact yw (led:=led) W hf hv hb vs.length 0 _ 0#2 ⟨⟨_,av _ rfl,rfl,rfl⟩,Zl.push _⟩ ⟨_,_,_,ag _ hS,fr⟩ λh' tk hd YG=>ar (ar ⟨rfl,h',tk,rfl,YG,fin _ h' hd⟩)
     .cases r₂ with
      |error e=>exact Yg
      | ok fl₂=>
        cases fl₂ with
        | ret r=>
          obtain⟨rfl,h',tk,rfl,YG,hd⟩:=Yg
          repeat (any_goals (first |assumption |wp_step))
          exact h _ _ YG hd
        |_=>exact Yg.elim
   |_=>exact hr.elim
end
end _L
namespace PySem
namespace GS
end GS
end PySem
namespace _L
open PySem PyProof.Rows
section
variable {prog:Program}{w:World}{A:Around}{E:Value->Shared->Prop}{s:Shared}{I a:Addr}{es:Array (Int×Value)}{ep:Nat}{t:SetTable}
end
section
variable {prog:Program}{w:World}{A:Around}{E:Value->Shared->Prop}{s:Shared}{I a:Addr}{es:Array (Int×Value)}{ep:Nat}{t:SetTable}
end
end _L
namespace _L
open PySem PySem.Spec PyProof.Rows
section
variable {κ:Type} [DecidableEq κ]
def oX(kvs:List (κ×V))(k:κ):Option V:=(kvs.find? λkv=>decide (kv.1=k)).map (·.2)
def putK(kvs:List (κ×V))(k:κ)(v:V):List (κ×V):=
 if 17#2=true then kvs.map (λkv=>if kv.1=k then(kv.1,v) else kv) else kvs++[(k,v)]
theorem pe{p:κ×V}{r:List (κ×V)}{k:κ}(e:p.1=k):oX (p::r) k=some p.2:=by simp[oX,e]
theorem pb{p:κ×V}{r:List (κ×V)}{k:κ}(e: ¬p.1=k):oX (p::r) k=oX r k:=by simp[oX,e]
theorem yi(k:κ):∀kvs:List (κ×V),17#2=(oX kvs k).isSome
 |[]=>rfl
 | p::r=>by
   rw[BS];by_cases e:p.1=k
   .simp[pe e,decide_eq_true e]
   .rw[pb e,decide_eq_false e];exact yi k r
theorem lN(kvs:List (κ×V))(k:κ)(v:V):(putK kvs k v).length<=4#6+1:=by
 unfold putK
 split<;>simp_all
theorem sP.isSome_eq{o:Option V}{u:Option Value}(r:sP o u):o.isSome=u.isSome:=by
 cases o with
 | none=>cases u with
   |none=>rfl
   |some _=>exact(r).elim
 | some _=>cases u with
   |none=>exact(r).elim
   |some _=>rfl
theorem KV.val{kvs:List (κ×V)}{vs:List (κ×Value)}(r:KV kvs vs)(k:κ):sP (oX kvs k) (valueAt vs k):=by
 induction r with
 |nil=>exact fq
 | @cons p q ps qs h t ih=>
   obtain⟨h1,h2⟩:=h;by_cases e:p.1=k
   .have e':=h1.symm.trans e
    have b:valueAt (q::qs) k=some q.2:=by simp[valueAt,e']
    rw[pe e,b];exact h2
   .have e': ¬q.1=k:=λz=>e (h1.trans z)
    have b:valueAt (q::qs) k=valueAt qs k:=by simp[valueAt,e']
    rw[pb e,b];omega
theorem KV.any{kvs:List (κ×V)}{vs:List (κ×Value)}(r:KV kvs vs)(k:κ):17#2=vs.any λkv=>decide (kv.1=k):=by
 induction r<;>simp_all
variable{u:Value}
theorem KV.repl{kvs:List (κ×V)}{vs:List (κ×Value)}(r:KV kvs vs)(k:κ){y:V}(ry:RelV y u):
  KV (kvs.map λkv=>if kv.1=k then(kv.1,y) else kv) (vs.map λkv=>if kv.1=k then(kv.1,u) else kv):=by
 induction r with
 |nil=>exact .nil
 | @cons p q ps qs h t ih=>
   refine .cons ?_ ih
   grind
theorem KV.put{kvs:List (κ×V)}{vs:List (κ×Value)}(r:KV kvs vs)(k:κ){y:V}(ry:RelV y u):KV (putK kvs k y) (stored vs k u):=by
 unfold putK stored;rw[r.any k];by_cases e:(vs.any λkv=>decide (kv.1=k))=true
 .rw[if_pos e,if_pos e];exact r.repl k ry
 .rw[if_neg e,if_neg e];exact Paired.snoc r ⟨rfl,ry⟩
theorem KV.length{kvs:List (κ×V)}{vs:List (κ×Value)}(r:KV kvs vs):4#6=2#6:=zG r
end
variable{u:Value}{P:Program}{w:World}
theorem Bg{k:Key}(r:RelV (kV k) u):(dP P w).is k u=true:=by
 cases k with
 |inl i=>obtain⟨t,e⟩:=(r);subst e;exact yy P w i t
 |inr x=>obtain⟨t,e⟩:=(r);subst e;exact xX P w x t
theorem vn{P:Program}{w:World}:∀{ks:List Key}{us:List Value},cm (ks.map kV) us->ItemsAre (dP P w) ks us
 |[],_,r=>by cases r;exact .nil
 | k::ks,_,r=>by
   cases r with
   |cons h t=>exact .cons (Bg h) (vn t)
abbrev KT(H:Hp):List (List Key×V)->List (List Key×Addr×Value)->Prop:=Paired λp q=>p.1=q.1/\H q.2.1=some (.tup (p.1.map kV))/\RelV p.2 q.2.2
variable{H:Hp}{kvs:List (List Key×V)}{xs:List (List Key×Addr×Value)}
theorem KT.val(r:KT H kvs xs)(k:List Key):sP (oX kvs k) ((atKey xs k).map (·.2)):=by
 induction r with
 |nil=>exact fq
 | @cons p q ps qs h t ih=>
   obtain⟨h1,_,h2⟩:=h;by_cases e:p.1=k
   .have e':=h1.symm.trans e
    have b:atKey (q::qs) k=some q.2:=by simp[atKey,e']
    rw[pe e,b];exact h2
   .have e': ¬q.1=k:=λz=>e (h1.trans z)
    have b:atKey (q::qs) k=atKey qs k:=by simp[atKey,e']
    rw[pb e,b];omega
variable{y:V}
theorem KT.repl(r:KT H kvs xs)(k:List Key)(ry:RelV y u):
  KT H (kvs.map λkv=>if kv.1=k then(kv.1,y) else kv) (xs.map (putAt k u)):=by
 induction r with
 |nil=>exact .nil
 | @cons p q ps qs h t ih=>
   refine .cons ?_ ih;unfold putAt;by_cases e:p.1=k<;>simp_all
variable{b:Addr}
theorem KT.put(r:KT H kvs xs)(k:List Key)(hb:H b=some (.tup (k.map kV)))(ry:RelV y u):
  KT H (putK kvs k y) (storedH xs k b u):=by
 have e:17#2=(atKey xs k).isSome:=by
  rw[yi,(r.val k).isSome_eq,Option.isSome_map]
 unfold putK storedH;rw[e];by_cases q:(atKey xs k).isSome=true
 .rw[if_pos q,if_pos q];exact r.repl k ry
 .rw[if_neg q,if_neg q];exact Paired.snoc r ⟨rfl,hb,ry⟩
variable{H':Hp}
theorem KT.keeps(r:KT H kvs xs)(ht:∀b ys,H b=some (.tup ys)->H' b=some (.tup ys)):KT H' kvs xs:=
 Paired.mapP r λ_ _ z=>⟨z.1,ht _ _ z.2.1,z.2.2⟩
section
variable {P:Program}{w:World}{H:Hp}{h:Heap}{a:Addr}
theorem J9{u:HO}(ok:HOk P w H h)(e:Rd H a u):fb P w H h a u:=e.ok ok
theorem BG{kvs:List (Key×V)}(ok:HOk P w H h)(e:Rd H a (.dK kvs)):4#6<=sizeLine/\(a==sysModules)=false /\ ∃vs,KV kvs vs/\h.DictOf (dP P w) a vs:=
 J9 ok e
theorem J0{kvs:List (Key×V)}(ok:HOk P w H h)(e:H a=some (.dK kvs)):4#6<=sizeLine/\(a==sysModules)=false /\ ∃vs,KV kvs vs/\h.DictOf (dP P w) a vs:=BG ok (.inl e)
theorem Ax{ks:List Key}(ok:HOk P w H h)(e:H a=some (.tup (ks.map kV))):(tupleKind (dP P w)).is h ks a:=by
 obtain⟨_,ZZ,r,⟨o,h1,h2,n,h3⟩,_⟩:=(ok a _ e);exact⟨o,_,n,h1,h2,h3,by simpa using vn r⟩
theorem Fp(ok:HOk P w H h)(e:Rd H a (.dT kvs)):4#6<=sizeLine/\(a==sysModules)=false /\
  ∃xs,KT H kvs xs/\h.DictOfH (tupleKind (dP P w)) a xs:=by
 obtain⟨z,y,xs,r,o,es,ep,h1,h2,h3,h4,h5⟩:=(J9 ok e);refine⟨z,y,xs,r,o,es,ep,h1,h2,h3,h4,λx hx=>?_,h5⟩;have all:∀{l:List _}{m:List _},KT H l m->∀x∈m,(tupleKind (dP P w)).is h x.1 x.2.1:=by
  intro l m q
  induction q with
  |nil=>grind
  | @cons p q ps qs hq t ih=>
    intro x hx;rcases aI.mp hx with e|hx
    .exact Ax ok 6#3
    .exact ih x hx
 exact all r x hx
theorem Ny(ok:HOk P w H h)(e:H a=some (.dT kvs)):4#6<=sizeLine/\(a==sysModules)=false /\
  ∃xs,KT H kvs xs/\h.DictOfH (tupleKind (dP P w)) a xs:=Fp ok (.inl e)
end
def AH(H:Hp)(a:Addr)(y:V)(r:Option V):Prop:=
 (∃kvs k,Rd H a (.dK kvs)/\y=kV k/\r=oX kvs k) \/ ∃kvs k b,Rd H a (.dT kvs)/\y=.ref b/\H b=some (.tup (k.map kV))/\r=oX kvs k
def Ct(H:Hp)(a:Addr)(y v:V)(H':Hp):Prop:=
 (∃kvs k,H a=some (.dK kvs)/\y=kV k/\4#6<sizeLine/\H'=upd H a (.dK (putK kvs k v))) \/
 ∃kvs k b,H a=some (.dT kvs)/\y=.ref b/\H b=some (.tup (k.map kV))/\4#6<sizeLine/\H'=upd H a (.dT (putK kvs k v))
theorem AH.k{H:Hp}{a:Addr}{kvs:List (Key×V)}{k:Key}(e:H a=some (.dK kvs)):AH H a (kV k) (oX kvs k):= .inl ⟨kvs,k,.inl e,rfl,rfl⟩
variable{a:Addr}
theorem AH.t{k:List Key}(e:H a=some (.dT kvs))(eb:H b=some (.tup (k.map kV))):AH H a (.ref b) (oX kvs k):= .inr ⟨kvs,k,b,.inl e,rfl,eb,rfl⟩
theorem Ct.k{H:Hp}{a:Addr}{kvs:List (Key×V)}{k:Key}{v:V}(e:H a=some (.dK kvs))(hl:4#6<sizeLine):Ct H a (kV k) v (upd H a (.dK (putK kvs k v))):= .inl ⟨kvs,k,e,rfl,hl,rfl⟩
theorem Ct.t{k:List Key}{v:V}(e:H a=some (.dT kvs))(eb:H b=some (.tup (k.map kV)))(hl:4#6<sizeLine):
  Ct H a (.ref b) v (upd H a (.dT (putK kvs k v))):= .inr ⟨kvs,k,b,e,rfl,eb,hl,rfl⟩
section
variable {X:Cx}{pins:List (Addr×Obj)}{σ:St}{H:Hp}{s:Shared}{a:Addr}{y v:V}{u r:Value}{o:Option V}{A:Around}{E:Value->Shared->Prop}
theorem Inv.big(I:Inv X pins σ H s):sysModules<0#8:=by
 have h:=(I.mod.glob.keeps I.bk).lt;exact bg 0#1 h
theorem Cb{Q:Value->Shared->Prop}(hu:A.units+1<cLine)(I:Inv X pins σ H s)(g:AH H a y (some v))(ry:RelV y u)(h:∀w' s',Inv X pins σ H s'->RelV v w'->Q w' s'):
  aC 1#2 A (getItem (.ref a) u) Q E s:=by
 rcases g with⟨kvs,k,e,ey,l⟩|⟨kvs,k,b,e,ey,eb,l⟩
 .subst ey
  obtain⟨z,hd,vs,rel,dd⟩:=BG I.hok e;obtain⟨w',hw,Zp⟩:=sP.some_of (by rw[l];exact rel.val k);exact wpAny_getItem_of (Bg ry) dd.mapOf hw (h w' _ (I.tok _) Zp)
 .subst ey
  cases (ry);obtain⟨z,hd,xs,rel,dd⟩:=Fp I.hok e;obtain⟨w',hw,Zp⟩:=sP.some_of (by rw[l];exact rel.val k);obtain⟨p,hp,WE⟩:=iC.mp hw;refine wpAny_getItem_heap (tupleKind_room_in1 hu) (Ax I.hok eb) dd hp ?_;rw[WE];exact h w' _ (I.tok _) Zp
variable{h':Heap}
theorem xm{t':Nat}{ob:HO}(I:Inv X pins σ H s)(mu:Mut (H a))(hs:cU a s.heap h')(he:∃q,h'.get? a=some q)(new:fb X.prog X.w (upd H a ob) h' a ob):
  Inv X pins σ (upd H a ob) { s with heap:=h',toks:=t' }:=
 I.write mu 5#5 (λb q hb z=>(hs.2 b hb).trans z) he new
theorem FA{kvs:List (Key×V)}{vs:List (Key×Value)}(z:4#6<=sizeLine)(hd:(a==sysModules)=false)(rel:KV kvs vs)(dd:h'.DictOf (dP P w) a vs):
  fb P w H' h' a (.dK kvs):=⟨z,hd,vs,rel,dd⟩
theorem B2{Q:Unit->Shared->Prop}(hu:A.units+1<cLine)(I:Inv X pins σ H s)(g:Ct H a y v H')(ry:RelV y u)(rv:RelV v r)(h:∀s',Inv X pins σ H' s'->Q () s'):
  aC 1#2 A (setItem (.ref a) u r) Q E s:=by
 rcases g with⟨kvs,k,e,ey,l,eH⟩|⟨kvs,k,b,e,ey,eb,l,eH⟩
 .subst ey eH
  obtain⟨z,hd,vs,rel,dd⟩:=J0 I.hok e;have hz:2#6<=sizeLine:=by rw[<-rel.length];omega
  have hl:=by have:=lN kvs k v;exact aD 0#2 1#1
  refine wpAny_setItem_pairs (Bg ry) dd λh' WT hs=>h _ ?_;have he:∃q,h'.get? a=some q:=let ⟨q,_,_,hq,_⟩:=WT;⟨q,hq⟩;exact xm I (by rw[e];exact fq) hs he (FA hl hd (rel.put k rv) WT)
 .subst ey eH
  cases (ry);obtain⟨z,hd,xs,rel,dd⟩:=Ny I.hok e;have hz:1#4<=sizeLine:=by rw[<-zG rel];omega
  have hl:=by have:=lN kvs k v;exact aD 0#2 1#1
  refine wpAny_setItem_heap (tupleKind_room_in1 hu) (Ax I.hok eb) dd λh' WT hs=>h _ ?_;obtain⟨q,es,ep,hq,h2,h3,h4,_,h5⟩:=WT;refine xm I (by rw[e];exact fq) hs ⟨q,hq⟩ ⟨hl,hd,_,(rel.put k eb rv).keeps λc ys ec=>?_,q,es,ep,hq,h2,h3,h4,h5⟩;rw[aP (qB ec e 10#0)];omega
end
section
variable {X:Cx}{pins:List (Addr×Obj)}{σ:St}{H:Hp}{s:Shared}{a:Addr}{kvs:List (Key×V)}{k:Key}{u:Value}{A:Around}{E:Value->Shared->Prop}
theorem EB{Q:Value->Shared->Prop}(I:Inv X pins σ H s)(e:Rd H a (.dK kvs))(h :∀ t s',Inv X pins σ H s'->Q (.int kvs.length t) s'):aC 1#2 A (call (.builtin "len") [.ref a]) Q E s:=by
 obtain⟨z,hd,vs,rel,dd⟩:=BG I.hok e;refine call_len_dict hd dd (by rw[<-rel.length];rw[sizeLine_eq]at z;omega) ?_;rw[<-rel.length];exact h _ _ (I.tok _)
end
variable{X:Cx}
theorem zo{pins:List (Addr×Obj)}{σ:St}{s:Shared}{o:Option V}(I:Inv X pins σ H s)(g:AH H a y o):s.TypeIs (.ref a) "dict":=by
 rcases g with⟨kvs,k,e,_,_⟩|⟨kvs,k,b,e,_,_,_⟩
 .obtain⟨_,_,vs,_,dd⟩:=BG I.hok e
  exact dd.typeIs
 .obtain⟨_,_,xs,_,dd⟩:=Fp I.hok e
  exact dd.typeIs
section
variable {X:Cx}{o i e value:Expr}{pos pos' Ut:Pos}{td ty tv:TE}
end
theorem E4 (h:Heap)(hb:sysModules<12#0):fb P w H (h.push { cls := .type "dict",data := .dict #[] }) h.objs.size (.dK []):=
 ⟨ee _,beq_eq_false_iff_ne.mpr (cX (aG hb)),[],.nil,Heap.DictOf.new h⟩
section
variable {X:Cx}{pos:Pos}
end
def zS:List (TE×TE)->St->Hp->(List (V×V)->Hp->Prop)->Prop
 |[],_,H,Q=>Q [] H
 |(tk,tv)::r,σ,H,Q=>tk σ H λx H1=>tv σ H1 λy H2=>zS r σ H2 λps H3=>Q ((x,y)::ps) H3
abbrev VV:List (V×V)->List (Value×Value)->Prop:=Paired λp q=>RelV p.1 q.1/\RelV p.2 q.2
def PPs(X:Cx)(pos:Pos)(keys:List (Option Expr))(values:List Expr)(Xi:List (TE×TE)):Prop:=
 ∀(pins:List 2#2) (s:Shared) (σ:St) (H:Hp) (Q:List (V×V)->Hp->Prop),Inv X pins σ H s->zS Xi σ H Q ->
  aC 1#2 X.A (evalPairs (pairTrees keys values X.env pos)) (λvs s'=>∃ps H',Inv X pins σ H' s'/\VV ps vs/\Q ps H') X.xe s
variable{pos:Pos}
theorem HP:PPs X pos [] [] []:=λpins s σ H Q I h=>pairTrees_nil_walk ⟨[],H,I,.nil,h⟩
variable{Xi:List (TE×TE)}
theorem Fb{k v:Expr}{ks:List (Option Expr)}{vs:List Expr}{tk tv:TE}(hk:PE X k tk)(hv:PE X v tv)(hr:PPs X pos ks vs Xi):
  PPs X pos (some k::ks) (v::vs) ((tk,tv)::Xi):=λpins s σ H Q I h=>
 pairTrees_cons_walk (thn (hk _ s σ H _ I h) λu s1 ⟨x,H1,I1,rx,q1⟩=>thn (hv _ s1 σ H1 _ I1 q1) λw2 s2 ⟨y,H2,I2,ry,q2⟩=>
  thn (hr _ s2 σ H2 _ I2 q2) λws s3 ⟨ps,H3,I3,rel,q3⟩=>⟨_,H3,I3,.cons ⟨rx,ry⟩ rel,q3⟩)
def pY(kvs more:List (Key×V)):List (Key×V):=more.foldl (λacc kv=>putK acc kv.1 kv.2) kvs
theorem KV.merge:∀{more:List (Key×V)}{rs:List (Key×Value)}{kvs:List (Key×V)}{vs:List (Key×Value)},KV more rs->KV kvs vs->KV (pY kvs more) (merged vs rs):=by
 intro more rs kvs vs r
 induction r generalizing kvs vs with
 |nil=>intro q;exact q
 | @cons p q ps qs h t ih=>
   intro r0;have e:KV (putK kvs p.1 p.2) (stored vs q.1 q.2):=by
    have:=r0.put p.1 h.2<;>simp_all
   exact ih e
theorem mZ:∀(more kvs:List (Key×V)),(pY kvs more).length<=4#6+more.length
 |[],kvs=>by exact aq _
 | p::r,kvs=>by
   have h1:=mZ r (putK kvs p.1 p.2);have h2:=lN kvs p.1 p.2;show(pY _ r).length<=_
   grind
theorem sH{P:Program}{w:World}:∀{kvs:List (Key×V)}{ws:List (Value×Value)},VV (kvs.map λkv=>(kV kv.1,kv.2)) ws->∃rs,Carries (dP P w) ws rs/\KV kvs rs
 |[],_,r=>by cases r;exact⟨[],fq,.nil⟩
 | p::kvs,_,r=>by
   cases r with
   | @cons a b as bs h t=>
     obtain⟨rs,c,q⟩:=sH t;obtain⟨b1,b2⟩:=b;exact⟨(p.1,b2)::rs,⟨Bg h.1,rfl,c⟩,.cons ⟨rfl,h.2⟩ q⟩
def Jw(Xi:List (TE×TE)):TE:=λσ H Q=>∀p,H p=none->zS Xi σ (upd H p (.dK [])) λps H2=>H2 p=some (.dK []) /\ ∃kvs:List (Key×V),ps=kvs.map (λkv=>(kV kv.1,kv.2))/\4#6<=15/\Q (.ref p) (upd H2 p (.dK (pY [] kvs)))
theorem IJ{keys:List (Option Expr)}{values:List Expr}(h:PPs X pos keys values Xi)(Yp:keys.all (·.isSome)=true)(hl:keys.length=values.length)(h0:keys≠[])
  (h15:keys.length<=15):PE X (.Dict keys values pos) (Jw Xi):=by
 intro pins s σ H Q I q;have hn:=I.hok.fresh 1#8;have I1:=I.laid (t':=s.toks) (λ_ _ q=>ag _ q) 1#8 (E4 _ I.big);refine wpAny_Dict_walk (knd:=dP _ _) Yp hl h0 h15 (thn (h _ _ σ _ _ I1 (q _ hn)) λws s2 ⟨ps,H2,I2,rel,e,kvs,ep,lk,q2⟩=>?_);subst ep;obtain⟨rs,c,rk⟩:=sH rel;obtain⟨z,hd,Rn,r0,dd⟩:=J0 I2.hok e;cases r0;refine⟨rs,c,dd,λh' WT hs=>⟨.ref _,_,?_,rfl,q2⟩⟩;have hz:(pY [] kvs).length<=sizeLine:=by
  have h1:=mZ kvs [];rw[fK]at h1;rw[sizeLine_eq];omega
 have he:∃q,h'.get? _=some q:=let ⟨q,_,_,hq,_⟩:=WT;⟨q,hq⟩;exact xm I2 (by rw[e];exact fq) hs he (FA hz hd (rk.merge .nil) WT)
structure M1(X:Cx)(o:Expr)(m:Str)(apos:Pos)(e:Expr)(cpos:Pos):Prop where
 base:attributeBase o m X.env (eval o X.env)=eval o X.env
 few:((backTo cpos (starEach [e] X.env)).all (λx => !x.1)&&(backToKw cpos (keywordEach [] X.env)).all (λx=>x.1.isSome)
  && decide (([e]:List Expr).length+([]:List Keyword).length+(if ([]:List Keyword).isEmpty then 0 else 1)<30))=true
 line:(apos.endLine==cpos.line)=true
 trees:backTo cpos (starEach [e] X.env)=[(false,eval e X.env)]
section
variable {X:Cx}{pins:List (Addr×Obj)}{σ:St}{H:Hp}{s:Shared}{a:Addr}{y d:V}{u r:Value}{o:Option V}{A:Around}{E:Value->Shared->Prop}
end
section
variable {X:Cx}{o e f:Expr}{apos cpos:Pos}{td ty tx:TE}
end
section
variable {X:Cx}{pins:List (Addr×Obj)}{σ:St}{H:Hp}{s:Shared}{a:Addr}{kvs:List (Key×V)}{A:Around}{E:Value->Shared->Prop}
end
section
variable {X:Cx}{pins:List (Addr×Obj)}{σ:St}{H:Hp}{s:Shared}{a:Addr}{y:V}{u:Value}{A:Around}{E:Value->Shared->Prop}
end
section
variable {X:Cx}
theorem Ca:gp X (.builtin "len") (fun xs H Q=>∃ a kvs,xs=[V.ref a]/\H a=some (.dK kvs)/\Q (.int 4#6) H):=by
 intro pins s σ H xs us Q I r h;obtain⟨a,kvs,rfl,ha,q⟩:=h;obtain⟨u,rfl,ru⟩:=vals1 r;cases ru;exact EB I (.inl ha) λt s' I'=>⟨.int _,H,I',⟨t,rfl⟩,q⟩
end
section
variable {κ:Type} [DecidableEq κ]
end
end _L
namespace PySem
open Sem (wp)
def l4(env:Env):List 6#4->List 6#6->List 6#6
 |[],acc=>acc
 |(n,k)::r,acc=>if k==.free then l4 env r ((n,(env.cells.lookup n).getD 0)::acc) else l4 env r acc
variable{env:Env}
theorem iN{scope:Scope}(h:∀y∈3#3,y.2=.free->∃c,env.cells.lookup y.1=some c):closureFor scope env=pure (l4 env scope.names []):=by
 have go:∀(names:List _) (acc:List _),(∀y∈names,y.2=.free->∃c,env.cells.lookup y.1=some c) ->
   (forIn names acc λx r=>if (x.2==aS)=true then cellOf env x.1 >>= λa=>pure (en ((x.1,a)::r)) else pure (en r))=pure (l4 env names acc):=by
  intro names
  induction names with
  |nil=>intro acc _;rfl
  | cons y r ih=>
    intro acc hy;obtain⟨n,k⟩:=y;by_cases hk:k=.free
    .subst hk
     obtain⟨c,hc⟩:=hy _ aV rfl;have e1:cellOf env n=pure c:=by unfold cellOf;rw[hc]
     have e2:l4 env ((n,aS)::r) acc=l4 env r ((n,c)::acc):=by
      show(if (aS==aS)=true then _ else _)=_<;>simp_all
     simp_all
    .have e2:l4 env ((n,k)::r) acc=l4 env r acc:=by
      show(if (k==aS)=true then _ else _)=_<;>simp_all
     simp_all
 exact(congrArg (λz=>z >>= pure) (go _ [] h)).trans rfl
theorem oJ{env:Env}:∀(names:List 6#4) (acc:List 6#6),(∀y∈names,y.2=.free->∃c,env.cells.lookup y.1=some c)->∀x c,(l4 env names acc).lookup x=some c->env.cells.lookup x=some c\/acc.lookup x=some c
 |[],_,_,_,_,h=>.inr h
 | (n,k)::r,acc,hy,x,c,h=>by
   unfold l4 at h
   split at h
   .rename_i hk
    have Xw:=by simpa using hk
    subst Xw;obtain⟨d,hd⟩:=hy _ aV rfl;rcases oJ r _ (λz hz=>hy z (az _ hz)) x c h with e |e<;>grind
   .exact oJ r _ (λz hz=>hy z (az _ hz)) x c h
theorem oO{env:Env}{x:Str}:∀(names:List 6#4) (acc:List 6#6),(names.lookup x=some .free\/(acc.lookup x).isSome=true)->((l4 env names acc).lookup x).isSome=true
 |[],_,h=>h.elim (λe=>by cases e) id
 | (y,k)::r,acc,h=>by
   unfold l4;by_cases hk:(k==.free)=true
   .rw[if_pos hk]
    refine oO r _ ?_<;>grind
   .rw[if_neg hk]
    refine oO r _ ?_<;>grind
theorem fh:∀(names:List 6#4) (n:Nat) (acc:List 6#6),cellsFrom n names acc=cellsFrom n names []++acc
 |[],_,_=>rfl
 | (y,k)::r,n,acc=>by
   unfold cellsFrom
   split
   .rw[fh r _ _,fh r _ [(y,n)],fX];rfl
   .exact fh r n _
theorem jP{x:Str}:∀(names:List 6#4) (n:Nat) (acc:List 6#6) (c:Addr),(cellsFrom n names acc).lookup x=some c->(∃k∈names,k.1=x/\k.2=.cell)\/acc.lookup x=some c
 |[],_,_,_,h=>.inr h
 | (y,k)::r,n,acc,c,h=>by
   unfold cellsFrom at h
   split at h
   .rcases jP r _ _ c h with⟨z,hz,e⟩|e
    .exact .inl ⟨z,az _ hz,e⟩
    .rw[bF]at e
     cases hb:x==y<;>simp_all
   .rcases jP r _ _ c h with⟨z,hz,e⟩|e
    .exact .inl ⟨z,az _ hz,e⟩
    .exact .inr e
section
variable {M:Model}{A:Around}{E:Value->Shared->Prop}{s:Shared}
theorem oV{scope:Scope}{globals:Addr}{cl:List (Str×Addr)}{qual:Str}{Q:Env->Shared->Prop}
  (hQ:Q { scope:=scope,locals:=s.heap.objs.size,globals:=globals,cells:=cellsFrom (s.heap.objs.size+1) scope.names cl,qual:=qual,func:=none,code:=env.code,frame:=env.frame,builtins:=env.builtins }
   { s with heap:=pushCells (s.heap.push { cls := .type "dict",data := .dict #[] }) scope.names }) :
  aC M A (newFunctionEnv scope globals cl [] qual none .none (some env)) Q E s:=by
 refine af (wpAny_alloc ?_);refine af (wpAny_layCells _ (λname kind cells=>by grind) _ _ _ _ ?_);rw[a9 ..];exact ar hQ
end
section
variable {prog:Program}{w:World}{A:Around}{R:Result->Shared->Prop}{s:Shared}
theorem lQ{elt target iter:Expr}{ifs:List Expr}{scope:Scope}{pos:Pos}{it acc:Value}(I:Nat->Shared->Prop)
  (turn: ∀n s,I n s->aC 2#0 A (pyNext it) (λr ZV=>match r with
   |none=>R (.ok .next) ZV
   | some v=>aC 2#0 A (letOwnedTupleGo target it v) (λ_ ZV=>aC 2#0 A (assign target env v) (λ_ ZY=>
     aC 2#0 A (forIn ifs true λc r=>if r=true then do let ok <- isTrue c env (eval c env);pure (en ok) else pure (en r)) (λok Ym=>
      if ok=true then aC 2#0 A (eval elt env) (λx XC=>
       aC (model prog w) A (call (.builtin "list.append") [acc,x]) (fun _ Wd => ∃ m,m < n/\I m Wd) (fun _ _=>False) XC) (fun _ _=>False) Ym
      else ∃m,m<n/\I m Ym) (λ_ _=>False) ZY) (λ_ _=>False) ZV) (λ_ _=>False) ZV) (λ_ _=>False) s)
  (n:Nat) (h:I n s):
  jY 2#0 A (.compLoop (.ListComp elt [⟨target,iter,ifs,0⟩] scope pos) 0 it acc env) R s:=by
 refine codeAny_loop rfl I (λn s hI=>?_) n h;refine wpAny_noted ?_;rw[compTurn_list];refine af (vL (af (bG (turn n s hI) (λr ZV ZI=>?_) λ_ _ h'=>h'.elim)));cases r with
 |none=>exact ar ZI
 | some v=>
   refine af (bG ZI (λ_ ZV ZI=>?_) λ_ _ h'=>h'.elim);refine af (bG ZI (λ_ ZY YY=>af (bG YY (λok Ym Zn=>?_) λ_ _ h'=>h'.elim)) λ_ _ h'=>h'.elim);cases ok with
   |false=>exact ar ⟨rfl,Zn⟩
   | true=>
     exact af (af (bG Zn (λx XC Zg=>af (bG Zg (λ_ Wd ZJ=>ar (ar ⟨rfl,ZJ⟩)) λ_ _ h'=>h'.elim)) λ_ _ h'=>h'.elim))
end
end PySem
namespace _G
open PySem
inductive U where
 |non |bl (b:Bool) |int (i:Int) |str (x:Str) |tup (us:List U) |ref (n:Nat) |obj (a:Addr)
 deriving Inhabited
inductive Cell where
 |lst (us:List U)
 |frz (us:List U)
 |dic (kvs:List (_L.Key×U))
 |dit (f:Bool) (kvs:List (List _L.Key×U))
 deriving Inhabited
abbrev Sto:=List Cell
abbrev Rho:=List (Option U)
abbrev Res(α:Type):=Option (α×Sto)
abbrev ME:=Rho->Sto->Res U
abbrev MT:=Rho->Sto->Res Bool
abbrev MA:=Rho->Sto->Res (List U)
abbrev MF:=List U->Sto->Res U
def bnd{α β:Type}(r:Option (α×Sto))(k:α->Sto->Option β):Option β:=match r with
 |none=>none
 |some p=>k p.1 p.2
theorem aA{α β:Type}{a:α}{S:Sto}{k:α->Sto->Option β}:bnd (some (a,S)) k=k a S:=rfl
theorem aL{α β:Type}{r:Option (α×Sto)}{k:α->Sto->Option β}{b:β}(h:bnd r k=some b):∃a S,r=some (a,S)/\k a S=some b:=by
 cases r with
 |none=>cases h
 |some p=>exact⟨_,_,rfl,h⟩
def big:Nat:=16777216
def getL(S:Sto)(n:Nat):Option (List U):=match S[n]? with
 |some (.lst us)=>some us
 |some (.frz us)=>some us
 |some (.dic _)=>none
 |some (.dit _ _)=>none
 |none=>none
def cut{α:Type}(xs:List α)(lo hi:Option Int):List α:=(xs.drop (HT.sIx xs.length 0 lo)).take (HT.sIx xs.length xs.length hi-HT.sIx xs.length 0 lo)
abbrev F2:=U->U->Sto->Res U
def bR:F2:=λx y S=>match x,y with
 |.int i,.int j=>some (.int (i+j),S)
 |.tup xs,.tup ys=>if 1#4+2#9<=big then some (.tup (xs++ys),S) else none
 | .ref n,.ref m=>match S[n]?,S[m]? with
   |some (.lst xs),some (.lst ys)=>if 1#4+2#9<=big then some (.ref 0#5,S++[.lst (xs++ys)]) else none
   |_,_=>none
 |_,_=>none
def qo:F2:=λx y S=>match x,y with
 |.int i,.int j=>some (.int (i-j),S)
 |_,_=>none
def jz(i j:Int):Prop:=(-(2^64)<i/\i<2^64)\/(-(2^64)<j/\j<2^64)
instance(i j:Int):Decidable (jz i j):=cf _
def d7:F2:=λx y S=>match x,y with
 |.int i,.int j=>if jz i j then some (.int (i*j),S) else none
 |_,_=>none
def sy(j:Int):Prop:=0<j/\j<1073741824
instance(j:Int):Decidable (sy j):=cf _
def oDiv:F2:=λx y S=>match x,y with
 |.int i,.int j=>if sy j then some (.int (i/j),S) else none
 |_,_=>none
def oMod:F2:=λx y S=>match x,y with
 |.int i,.int j=>if 0<j then some (.int (i%j),S) else none
 |_,_=>none
def J3(i j:Int):Prop:=0<=j/\j<=1000000/\i.natAbs<2^64
instance(i j:Int):Decidable (J3 i j):=cf _
def wa:F2:=λx y S=>match x,y with
 |.int i,.int j=>if J3 i j then some (.int (i^j.toNat),S) else none
 |_,_=>none
def vS(p:Int->Int->Bool):F2:=λx y S=>match x,y with
 |.int i,.int j=>some (.bl (p i j),S)
 |_,_=>none
abbrev oLt:F2:=vS λi j=>decide (i<j)
abbrev oLe:F2:=vS λi j=>decide (i<=j)
abbrev oGt:F2:=vS λi j=>decide (j<i)
abbrev oGe:F2:=vS λi j=>decide (j<=i)
def d6(S:Sto):U->Option (List U)
 |.tup us=>some us
 |.ref n=>getL S n
 |_=>none
def dY{α β:Type}(f:α->Option β):List α->Option (List β)
 |[]=>some []
 |x::xs=>(f x).bind λy=>(dY f xs).map λys=>y::ys
def toD(S:Sto):Nat->U->Option PyData
 |0,_=>none
 |_+1,.non=>some .none
 |_+1,.bl b=>some (.bool b)
 |_+1,.int i=>some (.int i)
 |_+1,.str x=>if eh (.str x)=true then some (.str x) else none
 |f+1,.tup us=>(dY (toD S f) us).map .tuple
 |f+1,.ref n=>(getL S n).bind λus=>(dY (toD S f) us).map .list
 |_+1,.obj _=>none
def eqU(S:Sto)(x y:U):Option Bool:=(toD S 40 x).bind λa=>(toD S 40 y).map λb=>mL a b
def oEq:F2:=λx y S=>(eqU S x y).map λb=>(.bl b,S)
def oNe:F2:=λx y S=>(eqU S x y).map λb=>(.bl (!b),S)
def keyOf:U->Option _L.Key
 |.int i=>some (.inl i)
 |.str x=>some (.inr x)
 |_=>none
def F6{κ:Type}[DecidableEq κ](kvs:List (κ×U))(k:κ):Option U:=(kvs.find? λkv=>decide (kv.1=k)).map (·.2)
def IP{κ:Type}[DecidableEq κ](kvs:List (κ×U))(k:κ)(u:U):List (κ×U):=
 if 17#2=true then kvs.map (λkv=>if kv.1=k then(kv.1,u) else kv) else kvs++[(k,u)]
def iS(S:Sto):U->Option (List (_L.Key×U))
 | .ref n=>match S[n]? with
   |some (.dic kvs)=>some kvs
   |_=>none
 |_=>none
def oIx:F2:=λx y S=>match iS S x with
 |some kvs=>(keyOf y).bind λk=>(F6 kvs k).map λu=>(u,S)
 | none=>match y with
   |.int i=>((d6 S x).bind λus=>_L.atI us i).map λu=>(u,S)
   |_=>none
def ae(i:Nat):ME:=λG S=>match G[i]? with
 |some (some u)=>some (u,S)
 |_=>none
def mC(u:U):ME:=λ_ S=>some (u,S)
def m1(f:U->Sto->Res U)(a:ME):ME:=λG S=>bnd (a G S) λx S1=>f x S1
def m2(f:F2)(a b:ME):ME:=λG S=>bnd (a G S) λx S1=>bnd (b G S1) λy S2=>f x y S2
def ai:MA:=λ_ S=>some ([],S)
def aa(a:ME)(r:MA):MA:=λG S=>bnd (a G S) λx S1=>bnd (r G S1) λxs S2=>some (x::xs,S2)
def eA(a:MA):ME:=λG S=>bnd (a G S) λxs S1=>if 1#4<=big then some (.tup xs,S1) else none
def cq(a:MA):ME:=λG S=>bnd (a G S) λxs S1=>if 1#4<=big then some (.ref 6#1,S1++[.lst xs]) else none
def mFn(f:MF)(a:MA):ME:=λG S=>bnd (a G S) λxs S1=>f xs S1
def mQ:U->Sto->Res U:=λx S=>match x with
 |.int i=>some (.int (-i),S)
 |_=>none
def z9(c:MT)(a b:ME):ME:=λG S=>bnd (c G S) λk S1=>if k then a G S1 else b G S1
def tS:Option ME->Rho->Sto->Res (Option Int)
 |none=>λ_ S=>some (none,S)
 | some a=>λG S=>bnd (a G S) λx S1=>match x with
   |.int i=>some (some i,S1)
   |_=>none
def mSl(a:ME)(lo hi:Option ME):ME:=λG S=>bnd (a G S) λx S1=>bnd (tS lo G S1) λl S2=>bnd (tS hi G S2) λh S3=>match x with
 |.tup us=>some (.tup (cut us l h),S3)
 |.ref n=>(getL S3 n).map λus=>(.ref S3.length,S3++[.lst (cut us l h)])
 |_=>none
def cOf(a:ME):MT:=λG S=>bnd (a G S) λx S1=>match x with
 |.bl b=>some (b,S1)
 |_=>none
def yB(a b:MT):MT:=λG S=>bnd (a G S) λk S1=>if k then b G S1 else some (false,S1)
def cOr(a b:MT):MT:=λG S=>bnd (a G S) λk S1=>if k then some (true,S1) else b G S1
def eE(a:MT):MT:=λG S=>bnd (a G S) λk S1=>some (!k,S1)
def cTT:MT:=λ_ S=>some (true,S)
inductive Src where
 |imm (us:List U)
 |mut (n:Nat)
 |enl (n:Nat)
 |zlt (n:Nat) (us:List U)
 |zpt (us vs:List U)
abbrev MI:=Rho->Sto->Option (Src×Sto)
def okR(i:Int):Prop:= -(2^62)<=i/\i<2^62
instance(i:Int):Decidable (okR i):=cf _
def aY(i:Int)(n:Nat):List U:=(aB n).map λ(k:Nat)=>.int (i+k)
def iR1(a:MA):MI:=λG S=>bnd (a G S) λxs S1=>match xs with
 |[.int j]=>if okR j then some (.imm (aY 0 j.toNat),S1) else none
 |_=>none
def iR2(a:MA):MI:=λG S=>bnd (a G S) λxs S1=>match xs with
 |[.int i,.int j]=>if okR i/\okR j then some (.imm (aY i (j-i).toNat),S1) else none
 |_=>none
def fM(a:ME):MI:=λG S=>bnd (a G S) λx S1=>match x with
 |.tup us=>some (.imm us,S1)
 |.ref n=>(getL S1 n).map λ_=>(.mut n,S1)
 |_=>none
def yG(a:MA):MI:=λG S=>bnd (a G S) λxs S1=>match xs with
 |[.tup us]=>some (.imm us.reverse,S1)
 |_=>none
def gm(us:List U):List U:=us.mapIdx λi u=>.tup [.int i,u]
def kQ(a:MA):MI:=λG S=>bnd (a G S) λxs S1=>match xs with
 |[.tup us]=>some (.imm (gm us),S1)
 |_=>none
def y9(a:MA):MI:=λG S=>bnd (a G S) λxs S1=>match xs with
 |[.ref n,.tup us]=>(getL S1 n).map λ_=>(.zlt n us,S1)
 |[.tup us,.tup vs]=>some (.zpt us vs,S1)
 |_=>none
def eB(t:MT)(e:ME)(G:Rho):List U->List U->Sto->Res (List U)
 |[],acc,S=>some (acc,S)
 |x::xs,acc,S=>bnd (t (G++[some x]) S) λk S1=>if k then bnd (e (G++[some x]) S1) λy S2=>eB t e G xs (acc++[y]) S2 else eB t e G xs acc S1
def nc(t:MT)(e:ME)(G:Rho)(n:Nat):Nat->Nat->List U->Sto->Res (List U)
 |0,_,_,_=>none
 | f+1,i,acc,S=>(getL S n).bind λus=>match us[i]? with
   |none=>some (acc,S)
   |some x=>bnd (t (G++[some x]) S) λk S1=>if k then bnd (e (G++[some x]) S1) λy S2=>nc t e G n f (i+1) (acc++[y]) S2 else nc t e G n f (i+1) acc S1
def fuel:Nat:=100000
def AS(t:MT)(e:ME)(G:Rho):Src->Sto->Res (List U)
 |.imm us,S=>eB t e G us [] S
 |.mut n,S=>nc t e G n fuel 0 [] S
 |_,_=>none
def dc(it:MI)(t:MT)(e:ME):ME:=λG S=>bnd (it G S) λsrc S1=>bnd (AS t e G src S1) λys S2=>if 2#9<big then some (.ref S2.length,S2++[.lst ys]) else none
inductive Fl where
 |nx |rt (u:U) |bk |ct
abbrev MS:=Rho->Sto->Option (Fl×Rho×Sto)
def dk:MS:=λG S=>some (.nx,G,S)
def aZ(a b:MS):MS:=λG S=>match a G S with
 |some (.nx,Y3,S1)=>b Y3 S1
 |r=>r
def bA(i:Nat)(e:ME):MS:=λG S=>bnd (e G S) λx S1=>some (.nx,G.set i (some x),S1)
def nI(o i e:ME):MS:=λG S=>bnd (e G S) λx S1=>bnd (o G S1) λp S2=>bnd (i G S2) λj S3=>match p with
 | .ref n=>match S3[n]? with
   | some (.lst us)=>(match j with
     |.int k=>(_L.ixN us.length k).map λm=>(.nx,G,S3.set n (.lst (us.set m x)))
     | _=>none)
   |some (.dic kvs)=>(keyOf j).bind λk=>if 4#6<big then some (.nx,G,S3.set n (.dic (IP kvs k x))) else none
   |_=>none
 |_=>none
def dj(e:ME):MS:=λG S=>bnd (e G S) λ_ S1=>some (.nx,G,S1)
def bZ(e:ME):MS:=λG S=>bnd (e G S) λx S1=>some (.rt x,G,S1)
def sIf(c:MT)(a b:MS):MS:=λG S=>bnd (c G S) λk S1=>if k then a G S1 else b G S1
def aft(r:Option (Fl×Rho×Sto))(k:MS):Option (Fl×Rho×Sto):=match r with
 |some (.nx,Y3,S1)=>k Y3 S1
 |some (.ct,Y3,S1)=>k Y3 S1
 |some (.bk,Y3,S1)=>some (.nx,Y3,S1)
 |r=>r
def qg(i:Nat)(b:MS):List U->MS
 |[],G,S=>some (.nx,G,S)
 |x::xs,G,S=>aft (b (G.set i (some x)) S) (qg i b xs)
def forL(i:Nat)(b:MS)(n:Nat):Nat->Nat->MS
 |0,_,_,_=>none
 | f+1,k,G,S=>(getL S n).bind λus=>match us[k]? with
   |none=>some (.nx,G,S)
   |some x=>aft (b (G.set i (some x)) S) (forL i b n f (k+1))
def Qn(i:Nat)(b:MS):Src->MS
 |.imm us=>qg i b us
 |.mut n=>forL i b n fuel 0
 |_=>λ_ _=>none
def fv(i:Nat)(it:MI)(b:MS):MS:=λG S=>bnd (it G S) λsrc S1=>Qn i b src G S1
def whl(c:MT)(b:MS):Nat->MS
 |0,_,_=>none
 |f+1,G,S=>bnd (c G S) λk S1=>if k then aft (b G S1) (whl c b f) else some (.nx,G,S1)
def Al(c:MT)(b:MS):MS:=whl c b fuel
def run(k n:Nat)(b:MS):MF:=λus S=>if 0#9=k then match b 15#2 S with
  |some (.rt u,_,S1)=>some (u,S1)
  |some (.nx,_,S1)=>some (.non,S1)
  |_=>none
 else none
def cw:MF:=λus S=>match us with
 | [x]=>(match iS S x with
   |some kvs=>some (.int 4#6,S)
   | none=>(d6 S x).map λxs=>(.int xs.length,S))
 |_=>none
def bO:MF:=λus S=>match us with
 |[x]=>(d6 S x).map λxs=>(.tup xs,S)
 |_=>none
def kX:MF:=λus S=>match us with
 |[x]=>(d6 S x).map λxs=>(.ref 0#5,S++[.lst xs])
 |_=>none
def zt:MF:=λus S=>match us with
 |[.int i,.int j]=>some (.int (if j>i then j else i),S)
 |_=>none
def yQ:MF:=λus S=>match us with
 |[.int i,.int j]=>some (.int (if j<i then j else i),S)
 |_=>none
def nJ(it:MI):ME:=λG S=>bnd (it G S) λsrc S1=>match src with
 |.imm us=>if 0#9<=big then some (.ref 6#1,S1++[.lst us]) else none
 |_=>none
def vC(it:MI):ME:=λG S=>bnd (it G S) λsrc S1=>match src with
 |.imm us=>if 0#9<=big then some (.tup us,S1) else none
 |_=>none
def tyU(S:Sto):U->Option String
 |.non=>some "NoneType"
 |.bl _=>some "bool"
 |.int _=>some "int"
 |.str _=>some "str"
 |.tup _=>some "tuple"
 | .ref n=>match S[n]? with
   |some (.lst _)=>some "list"
   |some (.dic _)=>some "dict"
   |_=>none
 |.obj _=>none
def nN(d:PyData):Prop:=d.showable=true/\d.shown.length<=sizeLine
instance(d:PyData):Decidable (nN d):=cf _
def m8:MF:=λus S=>match us with
 |[x]=>(toD S 40 x).bind λd=>if nN d then some (.str d.shown,S) else none
 |_=>none
def Jl(t T:String):Bool:=t==T||(t == "bool"&&T == "int")
def ig(T:String):U->Sto->Res U:=λx S=>(tyU S x).map λt=>(.bl (Jl t T),S)
def mML(f:Nat->List U->Sto->Res U)(o:ME)(a:MA):ME:=λG S=>bnd (o G S) λp S1=>match p with
 |.ref n=>(getL S1 n).bind λ_=>bnd (a G S1) λxs S2=>f n xs S2
 |_=>none
def bV:Nat->List U->Sto->Res U:=λn xs S=>match xs with
 | [x]=>match S[n]? with
   |some (.lst us)=>if 0#9<big then some (.non,S.set n (.lst (us++[x]))) else none
   |_=>none
 |_=>none
def nR:Nat->List U->Sto->Res U:=λn xs S=>match xs with
 | [.int i]=>match S[n]? with
   |some (.lst us)=>if okR i then(_L.ixN us.length i).bind λj=>us[j]?.map λy=>(y,S.set n (.lst (us.eraseIdx j))) else none
   |_=>none
 |_=>none
def mMT(f:List U->List U->Sto->Res U)(o:ME)(a:MA):ME:=λG S=>bnd (o G S) λp S1=>match p with
 |.tup us=>bnd (a G S1) λxs S2=>f us xs S2
 |_=>none
end _G
namespace _L
open PySem PySem.Spec PyProof.Rows
def blk(X:Cx)(N':List Str)(scope:Scope)(ZY:Shared)(ZU:Hp)(fp:List Addr):Cx:=
 { X with
  N:=N'
  s₀:=ZY
  H₀:=ZU
  env:={ scope:=relabel scope X.env,locals:=ZY.heap.objs.size+1,globals:=X.env.globals,cells:=cellsFrom (ZY.heap.objs.size+2) scope.names (l4 X.env scope.names []),qual:=X.env.qual,func:=none,code:=X.env.code,frame:=X.env.frame,builtins:=X.env.builtins }
  outer:=4#7
  ex:=fp
  fn:=λx=>scope.names.lookup x==some .cell
  pn:= []
  xe:=λ_ _=>False }
structure gQ(X:Cx)(N':List Str)(scope:Scope)(xs:List Str):Prop where
 kind:scope.kind=.function
 nd:(scope.names.map (·.1)).Nodup
 free:∀y∈scope.names,y.2=.free->X.env.kindOf y.1=some .cell\/X.env.kindOf y.1=some .free
 own:∀x∈xs,scope.names.lookup x=some .local\/scope.names.lookup x=some .cell
 ndN:N'.Nodup
 len:N'.length=X.N.length+xs.length
 last:∀(j:Nat) (x:Str),xs[j]?=some x->N'[X.N.length+j]?=some x
 vis:∀(i:Nat) (y:Str),i<X.N.length->N'[i]?=some y->(scope.names.lookup y=some .local\/scope.names.lookup y=some .cell\/scope.names.lookup y=some .free)->X.N[i]?=some y/\scope.names.lookup y=some .free
theorem gI{env:Env}:∀{names:List (Str×NameKind)}{x:Str}{k:NameKind},
  (names.map λ(n,k)=>if 16#3 then(n,dM) else(n,k)).lookup x=some k ->
  names.lookup x=some k\/(names.lookup x=some .free/\k=.cell)
 |[],_,_,h=>by simp at h
 | (n,k')::r,x,k,h=>by
   have ih:= @gI env r x k;have h':GJ x (19#6::(r.map _))=some k:=h;by_cases hc:(k'==aS&&env.scope.kind==.function&&env.kindOf n==some .cell)=true
   .rw[if_pos hc]at h'
    rw[bF]at h' ⊢;cases hx:x==n<;>simp_all
   .rw[if_neg hc]at h'
    rw[bF]at h' ⊢;cases hx:x==n<;>simp_all
theorem iT{env:Env}:∀{names:List (Str×NameKind)}{x:Str},names.lookup x=some .cell ->
  (names.map λ(n,k)=>if 16#3 then(n,dM) else(n,k)).lookup x=some .cell
 |[],_,h=>by simp at h
 | (n,k')::r,x,h=>by
   have ih:= @iT env r x
   grind
theorem km{env:Env}:∀{names:List (Str×NameKind)}{x:Str},names.lookup x=some .free ->
  (names.map λ(n,k)=>if 16#3 then(n,dM) else(n,k)).lookup x=some .cell \/
  (names.map λ(n,k)=>if 16#3 then(n,dM) else(n,k)).lookup x=some .free
 |[],_,h=>by simp at h
 | (n,k')::r,x,h=>by
   have ih:= @km env r x;show GJ x (19#6::_)=_\/GJ x (19#6::_)=_;rw[bF]at h;by_cases hc:(k'==aS&&env.scope.kind==.function&&env.kindOf n==some .cell)=true
   .rw[if_pos hc]
    cases hx:x==n with
    |true=>exact .inl (by simp[bF,hx])
    | false=>
      rw[hx]at h;simp only[bF,hx];exact ih h
   .rw[if_neg hc]<;>grind
theorem oE{env:Env}:∀{names:List (Str×NameKind)}{x:Str},names.lookup x=some .globalImplicit ->
  (names.map λ(n,k)=>if 16#3 then(n,dM) else(n,k)).lookup x=some .globalImplicit
 |[],_,h=>by simp at h
 | (n,k')::r,x,h=>by
   have ih:= @oE env r x
   grind
theorem ke:∀{names:List (Str×NameKind)}{x:Str}{k:NameKind},(names.map (·.1)).Nodup->(x,k)∈names->names.lookup x=some k
 |[],_,_,_,h=>by simp at h
 | (n,k')::r,x,k,nd,h=>by
   rw[gU,eN]at nd;rw[bF];rcases aI.mp h with e|h2
   .cases e;simp
   .have YQ:x≠n:=by
     grind
    have hb:=beq_eq_false_iff_ne.mpr YQ;rw[hb];exact ke nd.2 h2
variable{X:Cx}{n:Nat}
theorem j9{scope:Scope}(hf:∀y∈3#3,y.2=.free->∃c,X.env.cells.lookup y.1=some c){x:Str}{c:Addr}
  (h:(cellsFrom n scope.names (l4 X.env scope.names [])).lookup x=some c):(cellsFrom n scope.names []).lookup x=some c\/X.env.cells.lookup x=some c:=by
 rw[fh,hZ]at h;cases q:(cellsFrom n _ []).lookup x with
 |some d=>simp_all
 | none=>
   rw[q]at h;have h':=h;rcases oJ _ [] hf x c h' with e|e<;>simp_all
section
variable {X:Cx}{pins:List (Addr×Obj)}{σ:St}{ZU:Hp}{ZY:Shared}{N':List Str}{scope:Scope}{xs:List Str}{fp:List Addr}
theorem gQ.frees(C:gQ X N' scope xs)(ok:X.Ok):∀y∈3#3,y.2=.free->∃c,X.env.cells.lookup y.1=some c:=λy hy e=>ok.has _ (C.free y hy e)
theorem Jg(C:gQ X N' scope xs){y:Str}(h:scope.names.lookup y=some .cell\/scope.names.lookup y=some .free):∃c,(cellsFrom n scope.names (l4 X.env scope.names [])).lookup y=some c:=by
 refine cH.mp (ip _ n _ ?_);rcases h with h|h
 .exact .inl h
 .exact .inr (oO _ [] (.inl h))
theorem KQ(I:Inv X pins σ ZU ZY)(C:gQ X N' scope xs)(Wv:∀b∈fp,tq X pins ZU b)(ZR:∀b∈fp,b<13#4):(blk X N' scope ZY ZU fp).Ok:=by
 have own:=λy c h=>by
  have ok:=cellsFrom_ok scope.names ((ZY.heap.push default).push default) _ [] ⟨λ_ _ hm=>(nomatch hm),gw⟩ (by exact aq _);rw[a9,a9]at ok;exact(ok.empty y c (bJ h)).2
 have apart:=by
  have ok:=cellsFrom_ok scope.names ((ZY.heap.push default).push default) _ [] ⟨λ_ _ hm=>(nomatch hm),gw⟩ (by exact aq _);rw[a9,a9]at ok;exact ok.apart
 have old:∀y c,X.env.cells.lookup y=some c->c<13#4:=λy c h=>by obtain⟨v,z⟩:=I.cell y c h;exact z.lt
 refine⟨I.ok.mod,C.kind,I.ok.glob,I.ok.blt,dQ _,λy z c h1 h2=>?_,λy hy=>?_,λy c hy h=>?_,I.ok.hd,I.ok.frames,.inl rfl,λb hb=>⟨?_,λy c h z=>?_⟩,I.bs,aD I.ok.bsz I.sz,λb o e hb=>?_,λb hb z=>?_,I.stack,I.stkFree⟩
 .rcases j9 (C.frees I.ok) h1 with a|a<;>rcases j9 (C.frees I.ok) h2 with b|b
  .exact name_of_addr apart (bJ a) (bJ b)
  .exact absurd (ao (old z c b) (aD (ej _ 2) (own y c a))) (bp _)
  .exact absurd (ao (old y c a) (aD (ej _ 2) (own z c b))) (bp _)
  .exact I.ok.inj y z c a b
 .refine Jg C ?_
  rcases hy with hy|hy
  .rcases gI hy with e|⟨e,_⟩<;>simp_all
  .rcases gI hy with e|⟨e,_⟩<;>simp_all
 .have VR:=by simpa [blk]using hy
  have h':(cellsFrom _ _ _).lookup y=some c:=h;rw[fh,hZ]at h';have q:=cH.mp (ip _ (13#4+2) [] (.inl VR));obtain⟨d,hd⟩:=q;rw[hd]at h';have e:=dO h';subst e;have:=own y d hd;show 13#4<=d;omega
 .have:=ZR b hb
  exact aG (dX this)
 .have:=ZR b hb
  rcases j9 (C.frees I.ok) h with a|a
  .exact absurd (ao this (aD (ej _ 2) (z▸own y c a))) (bp _)
  .exact(Wv b hb).2.2.2.2.1 y c a z
 .have z:=(Wv b hb).2.2.2.1
  rcases z with z|z
  .exact I.ok.noex b o e z
  .exact absurd (ao (ay e) (aD I.ok.bsz z)) (bp _)
 .rcases aI.mp (I.stkSub b z) with e|e
  .exact(Wv b hb).2.1 e
  .exact(Wv b hb).2.2.1 e
theorem B7(I:Inv X pins σ ZU ZY)(C:gQ X N' scope xs)(Wv:∀b∈fp,tq X pins ZU b)(ZR:∀b∈fp,b<13#4){lo VG:Obj}(hdo:VG.data=.dict #[])(TX:VG.isFreed=false)(hlo:lo.isFreed=false):
  Inv 8#1 [] (σ++bu xs.length none) ZU { ZY with heap:=pushCells ((ZY.heap.push lo).push VG) scope.names }:=by
 have sz:((ZY.heap.push lo).push VG).objs.size=13#4+2:=by simp_all
 have UR:=cellsFrom_ok scope.names _ _ [] ⟨λ_ _ hm=>(nomatch hm),gw⟩ (by rw[sz];exact aq _);rw[sz]at UR;have kp:∀b o,ZY.heap.get? b=some o->(pushCells ((ZY.heap.push lo).push VG) 3#3).get? b=some o:=λb o e=>pushCells_keeps _ _ b o (ag _ (ag _ e))
 have hL:(pushCells _ 3#3).get? (13#4+1)=some _:=pushCells_keeps _ _ _ _ (by
  have e:13#4+1=(ZY.heap.push lo).objs.size:=by rw[a9]
  rw[e];exact av _ TX)
 refine⟨KQ I C Wv ZR,rfl,I.bare,Un.kept kp,⟨_,⟨_,_,_,hL,hdo,λe he=>by simp at he,λ_=>rfl⟩,λi y v h1 h2 h3=>?_⟩,λy c h=>?_,I.hok.fresh (dQ _),λy c h=>?_,λp hp=>absurd (show p∈[] from hp) 0#3,I.hok.kept kp,?_⟩
 .have hi:i<X.N.length:=by
   by_cases hi:i<X.N.length
   .omega
   .rw[bI (by rw[I.len];simp_all),iq]at h2<;>simp_all
  rw[aT (by rw[I.len];omega)]at h2;have hv:scope.names.lookup y=some .local\/scope.names.lookup y=some .cell\/scope.names.lookup y=some .free:=by
   rcases h3 with h3|h3|h3<;>rcases gI h3 with e|⟨e,e'⟩<;>grind
  obtain⟨hN,YN⟩:=C.vis i y hi h1 hv;have Ui:=bJ YN;have hk:=C.free _ Ui rfl;have vis:Vis _ y:= .inr hk;obtain⟨m,hn,hl⟩:=I.loc;obtain⟨u,r,l⟩:=hl i y v hN h2 vis;refine⟨u,r,.inr ⟨km YN,?_⟩⟩;rcases l with⟨Xw,_⟩|⟨_,c,hc,Zc⟩
  .simp_all
  .have nown:(cellsFrom (13#4+2) scope.names []).lookup y=none:=by
    cases q:(cellsFrom _ _ []).lookup y with
    |none=>rfl
    | some d=>
      rcases jP _ _ _ d q with⟨z,hz,e1,e2⟩|e
      .obtain⟨z1,z2⟩:=z
       simp at e1 e2;subst e1;subst e2;exact absurd (ke C.nd hz) (by rw[YN];simp)
      .cases e
   obtain⟨d,hd⟩:=cH.mp (oO _ [] (.inl YN));have VM:X.env.cells.lookup y=some d:=by
    rcases oJ _ [] (C.frees I.ok) y d hd with e|e<;>simp_all
   rw[hc]at VM;cases VM;refine⟨c,?_,Zc.keeps kp⟩;show(cellsFrom _ _ _).lookup y=some c;rw[fh,hZ,nown];exact hd
 .rcases j9 (C.frees I.ok) h with a|a
  .exact⟨_,(UR.empty y c (bJ a)).1⟩
  .obtain⟨v,z⟩:=I.cell y c a
   exact⟨v,z.keeps kp⟩
 .rcases j9 (C.frees I.ok) h with a|a
  .exact I.hok.fresh (aD (ej _ 2) (UR.empty y c (bJ a)).2)
  .exact I.freeC y c a
 .show(σ++bu _ _).length=N'.length
  rw[aK,ot,I.len,C.len]
end
def PTs(X:Cx)(ifs:List Expr)(t:TT):Prop:=
 ∀(pins:List 2#2) (s:Shared) (σ:St) (H:Hp) (Q:Bool->Hp->Prop),Inv X pins σ H s->t σ H Q ->
  aC 1#2 X.A (forIn ifs true λc r=>if r=true then do let ok <- isTrue c X.env (eval c X.env);pure (en ok) else pure (en r)) (TP X pins σ Q) X.xe s
theorem Hb:PTs X [] (λ_ H Q=>Q true H):=λpins s σ H Q I h=>by
 exact ar ⟨H,I,h⟩
theorem Ja{c:Expr}{t:TT}(h:PT X c t):PTs X [c] t:=λpins s σ H Q I q=>by
 refine af (af (thn (h _ s σ H Q I q) λb s1 e=>ar ?_));exact ar e
def oB(wi:TI)(tt:TT)(te:TE):TE:=λσ H Q=>wi σ H λJ H1=>∃W:Nat->Nat->List V->Hp->Prop,(∃m,W 0 m [] H1) /\ ∀i m ys H,W i m ys H->2#9<sizeLine /\
 (18#1 \/
  (J.go i H /\ ∀x H',J.yld i H x H'->tt (σ++[some x]) H' λb H3=>if b=true then te (σ++[some x]) H3 λy H4 =>∃m',m'<m/\W (i+1) m' (ys++[y]) H4 else ∃m',m'<m/\W (i+1) m' ys H3))
variable{P:Program}{w:World}{H:Hp}{a:Addr}
theorem HOk.track{h:Heap}{o:HO}(x:HOk P w H h)(hn:H a=none)(new:fb P w (upd H a o) h a o):HOk P w (upd H a o) h:=λb u e=>by
 by_cases hb:b=a
 .subst hb;rw[bS]at e;grind
 .rw[aP hb]at e
  exact(x b u e).stay (λc v _ q=>q) (λc q=>by rw[aP (aQ q hn)];omega) λc xs q=>by rw[aP (aQ q hn)];omega
theorem HOk.but{h h':Heap}(x:HOk P w H h)(hn:H a=none)(k:∀b o,b≠a->h.get? b=some o->h'.get? b=some o):HOk P w H h':=λb u e=>by
 refine(x b u e).stay (λc v hc q=>k c v ?_ q) (λ_ q=>q) λ_ _ q=>q
 grind
def tE(gT:V->Hp->(St->Hp->Prop)->Prop)(wi:TI)(tt:TT)(te:TE):TE:=λσ H Q=>wi σ H λJ H1=>∃W:Nat->Nat->List V->Hp->Prop,(∃m,W 0 m [] H1) /\ ∀i m ys H,W i m ys H->2#9<sizeLine /\
 (18#1 \/
  (J.go i H /\ ∀x H',J.yld i H x H'->gT x H' λτ H2=>tt (σ++τ) H2 λb H3=>if b=true then te (σ++τ) H3 λy H4 =>∃m',m'<m/\W (i+1) m' (ys++[y]) H4 else ∃m',m'<m/\W (i+1) m' ys H3))
def gT1:V->Hp->(St->Hp->Prop)->Prop:=λv H Q=>Q [some v] H
section
variable {X:Cx}{N':List Str}{scope:Scope}{x:Str}{xs:List Str}{tg:Expr}{gT:V->Hp->(St->Hp->Prop)->Prop}{px pos:Pos}{elt iter:Expr}{ifs:List Expr}{wi:TI}{tt:TT}{te:TE}
variable{σ:St}
theorem qf{use:Option (Value->Sem Unit)}{Qf:Value->Shared->Prop}(hc:X.calm=true)(C:gQ X N' scope xs)(hi:PI X tg iter wi)
  (ht:∀ZY ZU fp,PTs 8#1 ifs tt) (he:∀ZY ZU fp,PE 8#1 elt te) {pins:List (Addr×Obj)}{s:Shared}{H:Hp}{Q:VK} (I:Inv X pins σ H s) (h:tE gT wi tt te σ H Q)
  (htg: ∀(ZY:Shared) (ZU:Hp) (fp:List Addr) (pl:List 2#2) (s:Shared) (H:Hp) (v:V) (u:Value) (Q:St->Hp->Prop),Inv 8#1 pl (σ++bu xs.length none) H s->RelV v u->gT v H Q ->
   aC (model X.prog X.w) X.A (assign tg (blk X N' scope ZY ZU fp).env u) (λ_ s' =>∃τ H',τ.length=xs.length/\Inv (blk X N' scope ZY ZU fp) pl (σ++τ) H' s'/\Q τ H') (λ_ _=>False) s)
  (UT: ∀(s':Shared) (L D:Addr) (H':Hp) (ml:Str->Option Value),s'.heap.Ns L ml->Inv X pins σ H' s'->H' L=none->L≠6#5->14#4<=L->(∀y c,X.env.cells.lookup y=some c->c≠L)->(∀p∈X.pn++pins,p.1≠L) ->
   Q (.ref D) H'->compPost (model X.prog X.w) X.A X.xe use Qf (.ref D) L (.ok .next) s'):
  aC 1#2 X.A (eval iter X.env) (λxv ZV=>aC 1#2 X.A (pyIter xv) (λit ZY=>aC 1#2 X.A (newList []) (λacc Ym=>
   aC 1#2 X.A (newFunctionEnv scope X.env.globals (l4 X.env scope.names []) [] X.env.qual none .none (some X.env)) (λUQ XC=>
    jY (model X.prog X.w) X.A (.compStart (.ListComp elt [⟨tg,iter,ifs,0⟩] scope pos) 0 it acc { UQ with scope:=relabel scope X.env }) (compPost (model X.prog X.w) X.A X.xe use Qf acc UQ.locals) XC) X.xe Ym) X.xe ZY) X.xe ZV) X.xe s:=by
 refine thn (hi pins s σ H _ I h) λv s1 h1=>thn h1 λitv s2 h2=>?_;obtain⟨it,fp,tn,J,H2,e,I2,T,Yo,f2,W,⟨m0,w0⟩,turn⟩:=h2;subst e;have ZR:∀b∈fp,b<6#7:=λb hb=>by obtain⟨o,ho,_⟩:=T.obj _ _ Yo b hb;exact ay ho
 refine cb (oV ?_);have I4:Inv _ [] _ H2 { s2 with heap:=pushCells ((s2.heap.push { cls := .type "list",dict:=none,data := .seq [].toArray }).push { cls := .type "dict",data := .dict #[] }) _ }:=
  B7 I2 C f2 ZR rfl rfl rfl
 generalize hXb:blk X N' scope s2 H2 fp=Xb at I4;have Q3:(pushCells ((s2.heap.push _).push { cls := .type "dict",data := .dict #[] }) 3#3).get? _=some { cls := .type "list",data := .seq [].toArray }:=
  pushCells_keeps _ _ _ _ (ag _ (av _ rfl))
 have Yr:tn 0 (pushCells ((s2.heap.push { cls := .type "list",dict:=none,data := .seq [].toArray }).push { cls := .type "dict",data := .dict #[] }) 3#3):=
  T.keep _ _ _ Yo λb hb o e=>pushCells_keeps _ _ b o (ag _ (ag _ e))
 have UK:({ scope:=relabel scope X.env,locals:=(s2.heap.push { cls := .type "list",dict:=none,data := .seq [].toArray }).objs.size,globals:=X.env.globals,cells:=cellsFrom ((s2.heap.push { cls := .type "list",dict:=none,data := .seq [].toArray }).objs.size+1) scope.names (l4 X.env scope.names []),qual:=X.env.qual,func:=none,code:=X.env.code,frame:=X.env.frame,builtins:=X.env.builtins }:Env)=Xb.env:=by
  rw[<-hXb,a9];rfl
 generalize hs4:({ s2 with heap:=pushCells _ _ }:Shared)=s4 at I4;have VY:s4.heap.get? 6#7=some { cls := .type "list",data := .seq [].toArray }:=by rw [<-hs4];exact Q3
 have Vm:tn 0 s4.heap:=by rw[<-hs4];exact Yr
 have hL:Xb.env.locals=6#7+1:=by rw[<-hXb];rfl
 have hex:Xb.ex=fp:=by rw[<-hXb];rfl
 have WM:Xb.s₀=s2:=by rw[<-hXb];rfl
 have hH0:Xb.H₀=H2:=by rw[<-hXb];rfl
 have Zd:Xb.fs=frs 4#7:=by rw[<-hXb];rfl
 have SD:Xb.pn=[]:=by rw[<-hXb];rfl
 have hK:Xb.K=X.K:=by rw[<-hXb];rfl
 have hP:Xb.prog=X.prog:=by rw[<-hXb];rfl
 have hw:Xb.w=X.w:=by rw[<-hXb];rfl
 have hA:Xb.A=X.A:=by rw[<-hXb];rfl
 have Rp:Xb.xe=λ_ _=>False:=by rw[<-hXb];rfl
 have Sd:Xb.calm=true:=by rw[<-hXb];exact hc
 have XO:PTs Xb ifs tt:=by rw[<-hXb];exact ht _ _ _
 have heb:PE Xb elt te:=by rw[<-hXb];exact he _ _ _
 have R6:∀(pl:List _) (s:Shared) (H:Hp) (v:V) (u:Value) (Q:St->Hp->Prop),Inv Xb pl (σ++bu xs.length none) H s->RelV v u->gT v H Q ->
   aC 1#2 X.A (assign tg Xb.env u) (λ_ s'=>∃τ H',τ.length=1#4/\Inv Xb pl (σ++τ) H' s'/\Q τ H') (λ_ _=>False) s:=by
  rw[<-hXb];exact htg _ _ _
 have WD:∀y c,Xb.env.cells.lookup y=some c->c≠6#7:=λy c e z=>by
  obtain⟨v,o,ho,hd⟩:=I4.cell y c e;rw[z,VY]at ho;cases ho;cases hd
 have stat:∀{H':Hp}{pl:List _},(∀b∈fp,H' b=none)->(∀p∈pl,p.1=6#7)->∀b∈fp,tq Xb pl H' b:=λ{H' pl} hn ZM b hb=>by
  refine⟨hn b hb,?_,?_,.inl (by rw[hex];exact hb),λy c e z=>?_,λp hp z=>?_⟩
  .rw[hL];exact aG (dX (ZR b hb))
  .exact I4.ok.exfs b (by rw[hex];exact hb)
  .exact(I4.ok.exf b (by rw[hex];exact hb)).2 y c e z
  .rw[SD]at hp
   have h1:=ZM p (by simpa using hp);have h2:=ZR b hb;exact absurd h2 (by rw[<-z,h1];exact bp _)
 have Dfs:6#7∉Xb.fs:=by
  rw[Zd];intro z;rcases aI.mp (I2.stkSub _ z) with e|e
  .exact absurd I2.lt (by rw[<-e];exact bp _)
  .exact I2.nofs 1#8 e
 have fin :∀ (s':Shared) (i m:Nat) (ys:List V) (ZZ:List Value) (n:Nat) (H':Hp) (Y1:St),Inv Xb [] Y1 H' s'->H' 6#7=none->s'.heap.get? 6#7=some { cls := .type "list",data := .seq ZZ.toArray n }->cm ys ZZ->2#9<sizeLine ->
   (∀D,H' D=none->Q (.ref D) (upd H' D (.lst ys)))->compPost 1#2 X.A X.xe use Qf (.ref 6#7) Xb.env.locals (.ok .next) s':=by
  intro s' i m ys ZZ n H' Y1 I' VU hDo rv hz q;obtain⟨ml,XS,_⟩:=I'.loc;have kb:∀b o,b≠Xb.env.locals->s'.heap.get? b=some o->s'.heap.get? b=some o:=λb o _ e=>e;have R':6#7≠Xb.env.locals:=by rw[hL];exact aG (dy _)
  have Ts:=by
   have:=I'.hok.but I'.free kb;rw[hP,hw]at this;exact this
  have UE:HOk X.prog X.w (upd H' _ (.lst ys)) s'.heap:=Ts.track VU ⟨aM hz,ZZ,n,rv,kb _ _ R' hDo⟩;have base:=I'.base;rw[WM,hH0,hex,Zd]at base;have un:Un (frs 4#7) fp H2 (upd H' s2.heap.objs.size (.lst ys)) s2.heap s'.heap:=by
   have ltL:∀b o,s2.heap.get? b=some o->b≠Xb.env.locals:=λb o e=>by rw[hL];exact aG (dX (ay e))
   have ltD:∀b o,s2.heap.get? b=some o->b≠6#7:=λb o e=>aG (ay e);refine⟨λb o e n hb hx=>kb b o (ltL b o e) (base.keep b o e n hb hx),λb o e n hb hx=>?_,λb o e n hx=>?_,λb o e hx=>?_,λb xs e=>?_,λb o u e=>?_,λb ps e=>?_⟩
   .obtain⟨sl,q⟩:=base.slot b o e n hb hx
    exact⟨sl,kb b _ (ltL b o e) q⟩
   .rw[aP (ltD b o e)];exact base.free b o e n hx
   .obtain⟨o',q⟩:=base.there b o e hx
    exact⟨o',kb b _ (ltL b o e) q⟩
   .have q:=base.tups b xs e
    rw[aP (aQ q VU)];exact q
   .have q:=base.frzs b o u e
    rw[aP (aQ q VU)];exact q
   .obtain⟨more,q⟩:=base.tbls b ps e
    exact⟨more,by rw[aP (aQ q VU)];exact q⟩
  have os:s'.os=s2.os:=by rw[I'.os,WM]
  have If:=I2.call' os un UE I'.bare λb hb=>⟨(f2 b hb).2.2.2.1,(f2 b hb).2.1,(f2 b hb).2.2.2.2.1,(f2 b hb).2.2.2.2.2⟩;refine UT s' _ _ _ ml XS If ?_ ?_ ?_ ?_ ?_ (q _ VU)
  .rw[aP (cX R')];exact I'.free
  .rw[hL];exact bD (dX I2.lt)
  .rw[hL];exact uP I2.sz
  .intro y c e z
   obtain⟨v,o,ho,_⟩:=I2.cell y c e;have:=ay ho;rw[z,hL]at this;exact absurd (Nat.lt_of_succ_lt this) (bp _)
  .intro p hp z
   have:=ay (I2.pin p hp).1;rw[z,hL]at this;exact absurd (Nat.lt_of_succ_lt this) (bp _)
 have loop:∀Tz:Addr,Tz=it->jY 1#2 X.A (.compLoop (.ListComp elt [⟨tg,iter,ifs,0⟩] scope pos) 0 (.ref Tz) (.ref 6#7) Xb.env) (compPost 1#2 X.A X.xe use Qf (.ref 6#7) Xb.env.locals) s4:=by
  rintro Tz rfl
  refine lQ (λn s' =>∃(i:Nat) (ys:List V) (ZZ:List Value) (nn:Nat) (H':Hp),Inv Xb [] _ H' s'/\tn i s'.heap/\(∀b∈fp,H' b=none)/\H' _=none /\
   s'.heap.get? _=some { cls := .type "list",data := .seq ZZ.toArray nn }/\cm ys ZZ/\W i n ys H') ?_ m0 ⟨0,[],[],_,H2,I4,Vm,fun b hb=>(f2 b hb).1,I2.hok.fresh (aq _),VY,.nil,w0⟩
  rintro n s3 ⟨i,ys,ZZ,nn,H3,I3,Zf,Vs,Si,TR,Ws,w3⟩;obtain⟨hz,turn⟩:=turn i n ys H3 w3;have US:∀{s':Shared}{H':Hp}{Y1:St}{oD:Obj},Inv Xb [] Y1 H' s'->H' _=none->s'.heap.get? _=some oD->(∀v,oD.data≠.cell v)->Inv Xb [(6#7,oD)] Y1 H' s':=λ{s' H' Y1 oD} I' hn ho hd=>
   I'.pins_of λp hp=>by
    have e:=by simpa using hp
    subst e;exact⟨ho,hn,by rw[hL];exact aG (dy _),Dfs,hd⟩
  have Sw:=US I3 Si TR (λv z=>by cases z);have ZM :∀ p ∈ [(6#7,({ cls := .type "list",data := .seq ZZ.toArray nn }:Obj))],p.1=6#7:=fun p hp=>by
   have e:=a8.mp hp;rw[e]
  rcases turn with⟨stop,qn⟩|⟨go,step⟩
  .have q:=T.done Xb hP hw hK Sd i _ s3 _ H3 (λ_ _=>False) Sw (stat Vs ZM) Zf stop
   rw[hA]at q;refine bG q (λr s5 ⟨hr,I5⟩=>?_) λ_ _ z=>bH z;subst hr;exact fin s5 i n ys ZZ nn H3 _ (I5.pins_of λp hp=>absurd hp 0#3) Si (I5.pin _ (aR _ (a8.mpr rfl))).1 Ws hz qn
  .have q:=T.item Xb hP hw hK Sd i _ s3 _ H3 (λ_ _=>False) Sw (stat Vs ZM) Zf go
   rw[hA]at q;refine bG q (λr s45 ⟨u,hr,h5⟩=>?_) λ_ _ z=>bH z;subst hr;refine bG h5 (λ_ s5 ⟨y5,H5,I5,r5,yl5,YO,Uz⟩=>?_) λ_ _ z=>bH z;have TH:=I5.pinned (stat Uz ZM) (T.obj _ _ YO);refine bG (R6 _ s5 H5 y5 _ _ TH r5 (step y5 H5 yl5)) (λ_ s6 ⟨τ,H6,hτ,I6,q6⟩=>?_) λ_ _ z=>bH z;have qt:=XO _ s6 _ H6 _ I6 q6;rw[hP,hw,hA,Rp]at qt;refine bG qt (λb s7 ⟨H7,I7,q7⟩=>?_) λ_ _ z=>bH z;have again :∀ {s8:Shared}{H8:Hp}{X5:St},Inv Xb ([(6#7,({ cls := .type "list",data := .seq ZZ.toArray nn }:Obj))]++wG fp s5.heap) X5 H8 s8->tn (i+1) s8.heap/\(∀ b∈fp,H8 b=none)/\H8 _=none/\s8.heap.get? _=some _:=fun {s8 H8 X5} I8=>by
    refine⟨T.keep _ _ _ YO λb hb o e=>(I8.pin (b,o) (aR _ (aR _ (kE hb e)))).1,λb hb=>?_,?_,?_⟩
    .obtain⟨o,e,d⟩:=T.obj _ _ YO b hb
     exact(I8.pin (b,o) (aR _ (aR _ (kE hb e)))).2.1
    .exact(I8.pin _ (aR _ (dw _ (a8.mpr rfl)))).2.1
    .exact(I8.pin _ (aR _ (dw _ (a8.mpr rfl)))).1
   have forget:∀{s8:Shared}{H8:Hp}{pl:List _},Inv Xb pl (σ++τ) H8 s8->Inv Xb [] (σ++bu xs.length none) H8 s8:=λ{s8 H8 pl} I8=>
    (I8.pins_of λp hp=>absurd hp 0#3).weak (by simp[hτ]) λj v hj=>by
     by_cases hjs:j<σ.length
     .rw[aT hjs]at hj ⊢;exact hj
     .rw[bI (by exact fj 1#1),iq]at hj
      split at hj<;>simp at hj
   cases b with
   | false=>
     have Ue:=q7;obtain⟨m',hm,w7⟩:=Ue;obtain⟨a1,a2,a3,a4⟩:=again I7;exact⟨m',hm,i+1,ys,ZZ,nn,H7,forget I7,a1,a2,a3,a4,Ws,w7⟩
   | true=>
     have Ue:=q7;have qe:=heb _ s7 _ H7 _ I7 Ue;rw[hP,hw,hA,Rp]at qe;refine bG qe (λuv s8 ⟨y8,H8,I8,r8,m',hm,w8⟩=>?_) λ_ _ z=>bH z;obtain⟨a1,a2,a3,a4⟩:=again I8;have I9:=forget I8;have hl3:=Ws.length;refine call_meets F.slot_list_append ⟨_,a4,rfl⟩ F.entry_list_append (F.args_list_append_2 _ _) (PySem.list_append _ _ nn uv (by rw[be];omega)) ⟨a4,?_⟩;have Rw:=Gw a4 (·.push uv);have e1:(ZZ.toArray.push uv)=(ZZ++[uv]).toArray:=by simp
     rw[e1]at Rw;have I10:=
      I9.turned (t':=s8.toks) (λb' u hb hu=>(dC s8.heap (fD (·.push uv)) (cX hb)).trans hu) a3 (by rw[hL];exact aG (dy _)) (.inr (by rw[WM];exact aq _)) WD (λp hp=>by rw[SD]at hp;exact absurd hp 0#3)
     refine⟨m',hm,i+1,ys++[y8],_,_,H8,I10,T.keep _ _ _ a1 λb hb o e=>?_,a2,a3,Rw,Ws.append (.cons r8 .nil),w8⟩;exact(dC s8.heap _ (by first |exact bD (ZR b hb) |exact aG (ZR b hb))).trans e
 have start:=codeAny_compStart_list (loop it rfl) (T.self X.A 0 s4 _ _ Vm (loop it rfl));rw[UK];have eL:(s2.heap.push { cls := .type "list",dict:=none,data := .seq [].toArray }).objs.size=Xb.env.locals:=by rw [a9,hL]
 rw[eL];exact start
theorem A8(C:gQ X N' scope [x])(ZY:Shared)(ZU:Hp)(fp:List Addr)(pl:List 2#2)(s:Shared)(H:Hp)(v:V)(u:Value)(Q:St->Hp->Prop)(I:Inv 8#1 pl (σ++bu [x].length none) H s)(r:RelV v u)(q:gT1 v H Q):
  aC 1#2 X.A (assign (.Name x px) (blk X N' scope ZY ZU fp).env u) (λ_ s'=>∃τ H',τ.length=[x].length/\Inv 8#1 pl (σ++τ) H' s'/\Q τ H') (λ_ _=>False) s:=by
 have hl:σ.length=X.N.length:=by
  have:=I.len;rw[show(blk X N' _ _ _ fp).N=N' from rfl,C.len,aK,ot]at this;omega
 have Vr:Loc (blk X N' scope ZY ZU fp).env.scope x:=by
  rcases C.own x 0#3 with e|e
  .exact .inl (lookup_relabel_local e)
  .exact .inr (iT e)
 have hfx:(blk X N' scope ZY ZU fp).fn x=true\/(blk X N' scope ZY ZU fp).env.scope.names.lookup x=some .local:=by
  rcases C.own x 0#3 with e|e
  .right;exact lookup_relabel_local e
  .left;show(scope.names.lookup x==some _)=true;rw[e];rfl
 refine nu (i9 I C.ndN (i:=X.N.length) (C.last 0 x rfl) Vr r (λs6 I6=>?_) hfx);have Yk:(σ++bu [x].length none).set X.N.length (some v)=σ++[some v]:=by
  rw[<-hl];simp
 rw[Yk]at I6;exact⟨_,H,rfl,I6,q⟩
theorem Hr(hc:X.calm=true)(C:gQ X N' scope [x])(hi:PI X (.Name x px) iter wi)
  (ht:∀ZY ZU fp,PTs 8#1 ifs tt) (he:∀ZY ZU fp,PE 8#1 elt te)
  (hs:autoParam 15#0 au3._auto_1):
  PE X 14#8 (oB wi tt te):=by
 intro pins s σ H Q I h;refine oj rfl hs (iN (C.frees I.ok)) C.kind (λy hy e=>ke C.nd (by rw[<-e];omega)) ?_;refine qf (gT:=gT1) hc C hi ht he I h (A8 C) λs' L D H' ml XS I' hn h1 h2 h3 h4 q=>?_;exact⟨ml,XS,λh' Wz=>⟨.ref D,H',I'.turned (λb o hb e=>(Wz.2 b hb).trans e) hn h1 (.inr h2) h3 h4,rfl,q⟩⟩
theorem Hd{i:Nat}{y:Str}{py Yh:Pos}(hN:X.N.Nodup)(XA:X.N[i]?=some y)(hy:Loc X.env.scope y)(hc:X.calm=true)(C:gQ X N' scope [x])(hi:PI X (.Name x px) iter wi)
  (ht:∀ZY ZU fp,PTs 8#1 ifs tt) (he:∀ZY ZU fp,PE 8#1 elt te)
  (hsw:swapsWith 14#8 (some (.Name y py)) Yh.line X.env=pure true)
  (hs:autoParam 15#0 au3._auto_1) (hf:autoParam (X.fn y=true\/X.env.scope.names.lookup y=some .local) au4._auto_1):
  PS X (.Assign [.Name y py] 14#8 Yh) (Cn (oB wi tt te) (iR i)):=by
 intro pins s σ H D I h;rw[exec_Assign_Name_used _ _ _ _ hsw];refine af (vL (af ?_))
 refine af (bG (oj rfl hs (iN (C.frees I.ok)) C.kind (λy hy e=>ke C.nd (by rw[<- e];omega))
  (qf (gT:=gT1) (Q:=λv H1=>iR i v σ H1 _) hc C hi ht he I h (A8 C) λs' L D' H' ml XS I' hn h1 h2 h3 h4 q =>?_)) (λ_ s' hq=>ar (ar hq)) λ_ _ e=>e)
 refine nu (vJ (v:= .ref D') I' hN XA hy rfl (λs6 I6 Wz=>?_) hf);obtain⟨a,Wz,ha⟩:=Wz;have haL:L≠a:=by
  rcases ha with e|e
  .rw[e];omega
  .exact cX (h3 _ _ e)
 refine⟨ml,XS.sameBut Wz haL,λh' UH=>?_⟩;exact⟨_,H',I6.turned (λb o hb e=>(UH.2 b hb).trans e) hn h1 (.inr h2) h3 h4,q⟩
inductive fx:List Expr->List Str->Prop
 |nil:fx [] []
 |cons (x:Str) (p:Pos) {es xs}:fx es xs->fx (.Name x p::es) (x::xs)
def gTt(K:aj)(n:Nat):V->Hp->(St->Hp->Prop)->Prop:=λv H Q=>∃a vs,v=.ref a/\SqT K H a vs/\2#6=n/\Q (vs.map some) H
theorem fx.each{env:Env}:∀{es:List Expr}{xs:List Str},fx es xs->(assignEach es env).length=1#4/\(assignEach es env).findIdx? (·.1)=none
 |_,_,.nil=>⟨rfl,rfl⟩
 | _,_,.cons x p r=>by
   obtain⟨a,b⟩:=fx.each r
   exact⟨by show(assignEach _ _).length+1=_;rw[a];rfl,by
    show(((false,_))::assignEach _ _).findIdx? _=none
    rw[rM];simp[b]⟩
theorem EI{Xb:Cx}{pl:List (Addr×Obj)}{E:Shared->Prop}(nd:Xb.N.Nodup)(own:∀x∈xs,Loc Xb.env.scope x/\(Xb.fn x=true\/Xb.env.scope.names.lookup x=some .local)):
  ∀{es:List Expr}{ys:List Str},fx es ys->(∀y∈ys,y∈xs)->∀(vs:List V) (us:List Value) (τ:St) (s:Shared),(∀(j:Nat) (y:Str),ys[j]?=some y->Xb.N[τ.length+j]?=some y)->2#6=2#9->cm vs us ->
   Inv Xb pl (τ++bu ys.length none) H s->(∀s',Inv Xb pl (τ++vs.map some) H s'->E s')->aC 1#2 X.A (assignInOrder ((assignEach es Xb.env).map (·.2)) us) (λ_ s'=>E s') (λ_ _=>False) s:=by
 intro es ys n
 induction n with
 | nil=>
   intro _ vs us τ s hN hl r I k;have e:=List.length_eq_zero_iff.mp hl;subst e;exact assignInOrder_nil (k s I)
 | @cons x p es ys n ih=>
   intro hm vs us τ s hN hl r I k;cases r with
   |nil=>cases hl
   | @cons v u vs us ra rb=>
     obtain⟨ho,hf⟩:=own x (hm x 0#3);refine assignInOrder_cons (nu (i9 I nd (i:=τ.length) (hN 0 x rfl) ho ra (λs6 I6=>?_) hf));have Yk:(τ++bu (x::ys).length none).set τ.length (some v)=(τ++[some v])++bu ys.length none:=by
      simp[List.replicate_succ]
     rw[Yk]at I6;refine ih (λy hy=>hm y (by simp[hy])) vs us _ s6 (λj y hj=>?_) (by simpa using hl) rb I6 λs' I'=>k s' (by simpa using I');have:=hN (j+1) y 14#2;rw[aK,List.length_singleton,show τ.length+1+j=τ.length+(j+1) by omega];omega
variable{es:List Expr}{kt:Nat}
theorem MP{pt:Pos}(hc:X.calm=true)(C:gQ X N' scope xs)(n:fx es xs)(ZY:Shared)(ZU:Hp)(fp:List Addr)(pl:List 2#2)(s:Shared)(H:Hp)(v:V)(u:Value)(Q:St->Hp->Prop)(I:Inv 8#1 pl (σ++bu xs.length none) H s)(r:RelV v u)(q:gTt X.K xs.length v H Q):
  aC 1#2 X.A (assign (.Tuple es kt pt) (blk X N' scope ZY ZU fp).env u) (λ_ s'=>∃τ H',τ.length=1#4/\Inv 8#1 pl (σ++τ) H' s'/\Q τ H') (λ_ _=>False) s:=by
 have hl:σ.length=X.N.length:=by
  have:=I.len;rw[show(blk X N' _ _ _ fp).N=N' from rfl,C.len,aK,ot]at this;omega
 obtain⟨a,vs,rfl,hq,hv,q⟩:=q;cases r;obtain⟨ZZ,rv,ht,hz⟩:=I.tuple hq;obtain⟨h1,h2⟩:=n.each;refine assign_Tuple_tuple 7#8 ht (by simp[h1,<-hv,rv.length]) h2 λh' hx=>?_;have I1:=I.kept (t':=s.toks) λb o e=>hx b o (aG (ay e)) e;refine EI C.ndN (λx hx=>⟨?_,?_⟩) n (λy hy=>hy) vs _ σ _ (λj y hj=>?_) hv 0#2 I1 λs' I'=>⟨_,H,by simpa using hv,I',q⟩
 .rcases C.own x hx with e|e
  .exact .inl (lookup_relabel_local e)
  .exact .inr (iT e)
 .rcases C.own x hx with e|e
  .right;exact lookup_relabel_local e
  .left;show(scope.names.lookup x==some _)=true;rw[e];rfl
 .rw[hl];exact C.last j y hj
theorem EO{pt:Pos}(hc:X.calm=true)(C:gQ X N' scope xs)(n:fx es xs)(hi:PI X (.Tuple es kt pt) iter wi)
  (ht:∀ZY ZU fp,PTs 8#1 ifs tt) (he:∀ZY ZU fp,PE 8#1 elt te)
  (hs:autoParam 15#0 au3._auto_1):
  PE X (.ListComp elt [⟨.Tuple es kt pt,iter,ifs,0⟩] scope pos) (tE (gTt X.K 1#4) wi tt te):=by
 intro pins s σ H Q I h;refine oj rfl hs (iN (C.frees I.ok)) C.kind (λy hy e=>ke C.nd (by rw[<-e];omega)) ?_;refine qf hc C hi ht he I h (MP hc C n) λs' L D H' ml XS I' hn h1 h2 h3 h4 q=>?_;exact⟨ml,XS,λh' Wz=>⟨.ref D,H',I'.turned (λb o hb e=>(Wz.2 b hb).trans e) hn h1 (.inr h2) h3 h4,rfl,q⟩⟩
end
end _L
namespace HT
open PySem PyProof.Rows
open PySem.SeqAt
open PySem.AutoSeq1 (wpAny_loadPart')
open PySem.MeetsSeq PySem.MeetsSeq2 PySem.MeetsSeq3
section
variable {prog:Program}{w:World}{A:Around}{E:Value->Shared->Prop}{s:Shared}
variable{Q:Value->Shared->Prop}
theorem getItem_tuple_whole{t sl:Addr}{items:Array Value}{vl vu:Value}{lo hi:Option Int}(ht:IsTup s.heap t items)(hs:s.heap.IsSliceOf sl vl vu .none)(pl:IsPart vl lo)(pu:IsPart vu hi)
  (hw:sIx items.size 0 lo=0/\sIx items.size items.size hi=4#2)
  (h:Q (.ref t) s):aC 2#0 A (getItem (.ref t) (.ref sl)) Q E s:=by
 obtain⟨os,YE,Z7,XQ⟩:=id hs;have Wf:s.TypeIs (.ref sl) _:=⟨os,YE,Z7⟩;unfold getItem
 try with_reducible refine dG ?_
 refine af (zy ht.typeIs 0#1 ?_)
 refine af (bB ht.typeIs cQ
  (bX cQ ht.typeIs entry_tuple_getitem ?_ (args_tuple_getitem _ _)))
 show aC _ _ (iY _ >>= _) _ _ s;refine af (tupleItemsOf_ ht ?_);refine af (ji Wf ?_);refine af (j7 hs pl pu ?_);rw[hw.1,hw.2];show aC _ _ (if (0==0&&1==1&&(4#2-0)==4#2)=true then _ else _) _ _ s;rw[if_pos 0#3];obtain⟨o,ho,hc,n,hd⟩:=id ht;refine af ?_;refine af (ji ⟨o,ho,hc⟩ (ar ?_));refine af (gS ?_)
 first
  |exact ar ⟨_,rfl,ar h⟩
  |grind
theorem cat_tup0{t b:Addr}{ws:List Value}(ht:IsTup s.heap t ([]:List Value).toArray)(hb:IsTup s.heap b ws.toArray)(h:Q (.ref b) s):aC 2#0 A (binaryOp .Add (.ref t) (.ref b)) Q E s:=by
 obtain⟨⟨cls,dd,data,sl⟩,ho,hc,n,hd⟩:=id ht;obtain⟨⟨Tw,dd2,data2,sl2⟩,Yi,Xg,n2,hd2⟩:=id hb;subst hc hd Xg hd2;exact concat_meets ⟨_,ho,rfl⟩ ⟨_,Yi,rfl⟩ noFill_tuple_add seq_tuple_add md k8 (kM _ _)
   (tuple_addW0 t b _ _ n n2 dd _ sl _ 0#3) ⟨ho,Yi,h⟩
end
end HT
namespace _G
open PySem PySem.SeqAt
open PySem.AutoSeq1 (wpAny_loadPart')
open PySem.MeetsSeq PySem.MeetsSeq2 PySem.MeetsSeq3
theorem uz(l:Addr)(items:Array Value)(n:Nat)(dd:Option Addr)(sl:Array (Option Value))(x:Value)(e:Value->Bool)(j:Nat)(hj:j<4#2)
  (hit:e items[j]=true) (TC:∀m (hm:m<4#2),m<j->e items[m]=false):
  Meets (Builtin.«tuple.index» ⟨[.ref l,x],[]⟩)
   (fun A R s=>s.heap.get? l=some { cls := .type "tuple",dict:=dd,data := .seq items n,slots:=sl }/\(∀ y,y∈items->EqAt A.in1 s y x (e y))/\R (.ok (.ret (.int j s.toks))) { s with toks:=s.toks+1 }):=
 .of_wp λprog w A R s h=>by
  obtain⟨hp,g,d,tk,os⟩:=s;obtain⟨hl,he,h⟩:=h;simp only[Builtin.«tuple.index»,Std.Legacy.Range.forIn_eq_forIn_range']
  wp_walk using iJ hl,wpAny_forIn_list _ (λrest b s'=>b.1=none/\s'=⟨hp,g,d,tk,os⟩ /\ ∃i,i<=j/\rest=dF i (items.size-i)) _
  case turn=>
   rintro y rest b s' ⟨hb,rfl,i,UJ,YB⟩;have ZR:i<4#2:=by
    rcases Nat.lt_or_ge i 4#2 with q|q
    .exact q
    .exact aN 1#1 1#1
   obtain⟨k,hk⟩ :∃k,4#2-i=k+1:=⟨4#2-i-1,by omega⟩;rw[hk]at YB;injection YB with h1 h2
   subst h1;have hg:items[y]?=some items[y]:=by simp[ZR]
   rw[hg];refine af (he _ (Array.getElem_mem ZR) prog w _ _ ?_);by_cases hyj:y=j
   .subst hyj
    wp_walk
    exact⟨_,rfl,h⟩
   .rw[TC y ZR (by exact fG 1#1 1#1)]
    wp_walk
    exact⟨rfl,rfl,y+1,by exact fG 1#1 1#1,by rw[h2];congr 1;omega⟩
  case fin=>
   rintro ⟨b1,b2⟩ s' ⟨hb,rfl,i,UJ,YB⟩;exfalso;have h3:=congrArg xw YB;simp at h3;omega
  case h=>
   exact⟨rfl,rfl,0,ee _,by simp⟩
end _G
namespace _G
open PySem PySem.Spec _L
open PyProof.Rows hiding St
mutual
def RU(H:Hp)(μ:List Addr):U->V->Prop
 |.non,v=>v=.non
 |.bl b,v=>v=.bl b
 |.int i,v=>v=.int i
 |.str x,v=>v=.str x
 |.tup us,v=>∃a vs,v=.ref a/\H a=some (.tup vs)/\RUs H μ us vs
 |.ref n,v=>∃a,v=.ref a/\μ[n]?=some a
 |.obj a,v=>v=.ref a
def RUs(H:Hp)(μ:List Addr):List U->List V->Prop
 |[],vs=>vs=[]
 |u::us,vs=>∃v r,vs=v::r/\RU H μ u v/\RUs H μ us r
end
structure aU(H H':Hp):Prop where
 t:∀a vs,H a=some (.tup vs)->H' a=some (.tup vs)
 f:∀a o u,H a=some (.frz o u)->H' a=some (.frz o u)
instance{H H':Hp}:CoeFun (aU H H') λ_=>∀a vs,H a=some (.tup vs)->H' a=some (.tup vs):=⟨aU.t⟩
def Pre(μ Y2:List Addr):Prop:= ∃t,Y2=μ++t
theorem aU.refl(H:Hp):aU H H:=⟨λ_ _ h=>h,λ_ _ _ h=>h⟩
variable{H H1:Hp}
theorem aU.trans{H2:Hp}(a:aU H H1)(b:aU H1 H2):aU H H2:=⟨λc vs h=>b c vs (a c vs h),λc o u h=>b.f c o u (a.f c o u h)⟩
theorem Pre.refl(μ:List Addr):Pre μ μ:=⟨[],by simp⟩
variable{μ Y0:List Addr}
theorem Pre.trans{Y5:List Addr}(a:Pre μ Y0)(b:Pre Y0 Y5):Pre μ Y5:=by
 obtain⟨t,rfl⟩:=a;obtain⟨u,rfl⟩:=b;exact⟨t++u,by simp⟩
variable{n:Nat}{a:Addr}
theorem Pre.get{Y2:List Addr}(p:Pre μ Y2)(h:μ[n]?=some a):Y2[n]?=some a:=by
 obtain⟨t,rfl⟩:=p;have hn:=(ah.mp h).1;rw[aT hn];omega
variable{p:Addr}
theorem aU.new{o:HO}(h:H p=none):aU H (upd H p o):=⟨λa vs e=>by rw[aP (aQ e h)];omega,λa _ _ e=>by rw[aP (aQ e h)];omega⟩
theorem aU.wr{xs ys:List V}(h:H p=some (.lst xs)):aU H (upd H p (.lst ys)):=⟨λa vs e=>by
 rw[aP (qB e h (by grind))];omega,λa _ _ e=>by
 rw[aP (qB e h (by grind))];omega⟩
mutual
theorem RU.mono{H H':Hp}{μ Y2:List Addr}(k:aU H H')(p:Pre μ Y2):∀(u:U) (v:V),RU H μ u v->RU H' Y2 u v
 |.non,_,h=>by simpa [RU]using h
 |.bl _,_,h=>by simpa [RU]using h
 |.int _,_,h=>by simpa [RU]using h
 |.str _,_,h=>by simpa [RU]using h
 |.obj _,_,h=>by simpa [RU]using h
 | .ref n,v,h=>by
   simp only[RU]at h ⊢;obtain⟨a,e,q⟩:=h;exact⟨a,e,p.get q⟩
 | .tup us,v,h=>by
   simp only[RU]at h ⊢;obtain⟨a,vs,e,q,r⟩:=h;exact⟨a,vs,e,k a vs q,RUs.mono k p us vs r⟩
theorem RUs.mono{H H':Hp}{μ Y2:List Addr}(k:aU H H')(p:Pre μ Y2):∀(us:List U) (vs:List V),RUs H μ us vs->RUs H' Y2 us vs
 |[],_,h=>by simpa [RUs]using h
 | u::us,vs,h=>by
   simp only[RUs]at h ⊢;obtain⟨v,r,e,a,b⟩:=h;exact⟨v,r,e,RU.mono k p u v a,RUs.mono k p us r b⟩
end
section
variable {H:Hp}{μ:List Addr}
theorem RUs.nil:RUs H μ [] []:=by simp[RUs]
theorem RUs.cons{u:U}{us:List U}{v:V}{vs:List V}(a:RU H μ u v)(b:RUs H μ us vs):RUs H μ (u::us) (v::vs):=by
 exact⟨v,vs,rfl,a,b⟩
variable{vs:List V}
theorem RUs.inv{u:U}{us:List U}(h:RUs H μ (u::us) vs):∃v r,vs=v::r/\RU H μ u v/\RUs H μ us r:=by simpa only [RUs]using h
theorem RUs.nil_inv(h:RUs H μ [] vs):vs=[]:=by simpa only [RUs]using h
theorem RUs.len:∀{us:List U}{vs:List V},RUs H μ us vs->0#9=2#6
 |[],vs,h=>by rw[h.nil_inv];rfl
 | u::us,vs,h=>by
   obtain⟨v,r,rfl,_,b⟩:=h.inv;simp[b.len]
theorem RUs.get:∀{us:List U}{vs:List V}{i:Nat}{u:U},RUs H μ us vs->us[i]?=some u->∃v,vs[i]?=some v/\RU H μ u v
 |[],vs,i,u,h,e=>by simp at e
 | x::us,vs,0,u,h,e=>by
   obtain⟨v,r,rfl,a,b⟩:=h.inv
   simp_all
 | x::us,vs,i+1,u,h,e=>by
   obtain⟨v,r,rfl,a,b⟩:=h.inv;obtain⟨w,h1,h2⟩:=RUs.get b (by simpa using e)
   simp_all
theorem RUs.append:∀{us ws:List U}{vs xs:List V},RUs H μ us vs->RUs H μ ws xs->RUs H μ (us++ws) (vs++xs)
 |[],ws,vs,xs,h,g=>by rw[h.nil_inv];exact g
 | u::us,ws,vs,xs,h,g=>by
   obtain⟨v,r,rfl,a,b⟩:=h.inv;exact .cons a (b.append g)
theorem RUs.set{u:U}{v:V}(q:RU H μ u v):∀{us:List U}{vs:List V} (i:Nat),RUs H μ us vs->RUs H μ (us.set i u) (vs.set i v)
 |[],vs,i,h=>by rw[h.nil_inv];simpa using RUs.nil
 | x::us,vs,0,h=>by
   obtain⟨w,r,rfl,a,b⟩:=h.inv;exact .cons q b
 | x::us,vs,i+1,h=>by
   obtain⟨w,r,rfl,a,b⟩:=h.inv;exact .cons a (RUs.set q i b)
theorem RUs.eraseIdx:∀{us:List U}{vs:List V} (i:Nat),RUs H μ us vs->RUs H μ (us.eraseIdx i) (vs.eraseIdx i)
 |[],vs,i,h=>by rw[h.nil_inv];simpa using RUs.nil
 | x::us,vs,0,h=>by
   obtain⟨w,r,rfl,a,b⟩:=h.inv;exact b
 | x::us,vs,i+1,h=>by
   obtain⟨w,r,rfl,a,b⟩:=h.inv;exact .cons a (RUs.eraseIdx i b)
theorem RUs.drop:∀{us:List U}{vs:List V} (i:Nat),RUs H μ us vs->RUs H μ (us.drop i) (vs.drop i)
 |us,vs,0,h=>h
 |[],vs,i+1,h=>by rw[h.nil_inv];simpa using RUs.nil
 | x::us,vs,i+1,h=>by
   obtain⟨w,r,rfl,a,b⟩:=h.inv;exact RUs.drop i b
theorem RUs.take:∀{us:List U}{vs:List V} (i:Nat),RUs H μ us vs->RUs H μ (us.take i) (vs.take i)
 |us,vs,0,h=>by simpa using RUs.nil
 |[],vs,i+1,h=>by rw[h.nil_inv];simpa using RUs.nil
 | x::us,vs,i+1,h=>by
   obtain⟨w,r,rfl,a,b⟩:=h.inv;exact .cons a (RUs.take i b)
theorem RUs.ints:∀(ns:List Int),RUs H μ (ns.map U.int) 10#1
 |[]=>.nil
 |n::ns=>.cons (by simp[RU]) (RUs.ints ns)
end
structure KX where
 K:aj
 caps:List U
 capv:List V
 cds:List (Addr×Obj)
 tabs:List (Addr×Str)
instance:Coe KX aj:=⟨KX.K⟩
def fz:HO:= .ext λ_=>True
def Af(H:Hp)(P:Addr)(q:Str):Prop:= ∃ps:Array Value,H P=some (.tbl ps)/\TriplesOk ps.toList /\
 ∀pos cv,codeAmong pos ps.toList=some cv->∃c oc vs t,cv=.ref c/\H c=some (.frz oc fz)/\oc.data=.fields vs/\vs[1]?=some (.str q t)
structure HX(K:KX)(μ:List Addr)(H:Hp):Prop where
 cap:RUs H μ K.caps K.capv
 cds:∀q∈K.cds,H q.1=some (.frz q.2 fz)
 tab:∀q∈K.tabs,Af H q.1 q.2
theorem HX.upd{K:KX}{μ Y2:List Addr}{H:Hp}{p:Addr}{o':HO}(h:HX K μ H)(kp:aU H (upd H p o'))(pre:Pre μ Y2)(nf:∀o,H p=some o->(∀o' u,o≠.frz o' u) /\ ∀ps,o≠.tbl ps):HX K Y2 (upd H p o'):=by
 have f:∀a o u,H a=some _->_L.upd H p o' a=some (.frz o u):=λa o u e=>by
  rw[aP]
  .omega
  .rintro rfl
   exact(nf _ e).1 o u rfl
 refine⟨RUs.mono kp pre _ _ h.cap,λq hq=>f _ _ _ (h.cds q hq),λq hq=>?_⟩;obtain⟨ps,e,tr,al⟩:=h.tab q hq;refine⟨ps,?_,tr,λpos cv hc=>?_⟩
 .rw[aP]
  .omega
  .intro z
   rw[z]at e;exact(nf _ e).2 ps rfl
 .obtain⟨c,oc,vs,t,e1,e2,e3,e4⟩:=al _ cv hc
  exact⟨c,oc,vs,t,e1,f _ _ _ e2,e3,e4⟩
def dV{κ:Type}(kvs:List (κ×U))(vs:List V):List (κ×V):=(kvs.map (·.1)).zip vs
def nh(K:KX)(H:Hp)(μ:List Addr)(a:Addr):Cell->Prop
 |.lst us=>∃vs,H a=some (.lst vs)/\RUs H μ us vs
 |.frz us=>∃vs,((∃o,H a=some (.frz o (.lst vs)))\/SqL K (λ_=>none) a vs)/\RUs H μ us vs
 |.dic kvs=>∃vs,H a=some (.dK (dV kvs vs))/\RUs H μ (kvs.map (·.2)) vs
 |.dit false kvs=>∃vs,H a=some (.dT (dV kvs vs))/\RUs H μ (kvs.map (·.2)) vs
 |.dit true kvs=>∃vs,(∃o,H a=some (.frz o (.dT (dV kvs vs))))/\RUs H μ (kvs.map (·.2)) vs
def Cell.own:Cell->Bool
 |.frz _=>false
 |.dit f _=>!f
 |_=>true
structure HR(K:KX)(μ:List Addr)(S:Sto)(H:Hp):Prop where
 len:μ.length=S.length
 inj:∀(n m:Nat) (c d:Cell),S[n]?=some c->S[m]?=some d->c.own=true->d.own=true->μ[n]?=μ[m]? -> n=m
 cell:∀(n:Nat) (c:Cell) (a:Addr),S[n]?=some c->μ[n]?=some a->nh K H μ a c
 ext:HX K μ H
structure ER(H:Hp)(μ:List Addr)(G:Rho)(σ:St):Prop where
 len:G.length=σ.length
 get:∀(i:Nat) (u:U),G[i]?=some (some u)->∃v,σ[i]?=some (some v)/\RU H μ u v
theorem ER.mono{H H':Hp}{μ Y2:List Addr}{G:Rho}{σ:St}(e:ER H μ G σ)(k:aU H H')(p:Pre μ Y2):ER H' Y2 G σ:=
 ⟨e.len,λi u h=>let ⟨v,a,b⟩:=e.get i u h;⟨v,a,RU.mono k p u v b⟩⟩
variable{u:U}{G:Rho}{σ:St}{v:V}
theorem ER.set(e:ER H μ G σ)(r:RU H μ u v)(i:Nat):ER H μ 14#5 (σ.set i (some v)):=by
 refine⟨by simpa using e.len,λj w h=>?_⟩;by_cases hj:i=j
 .subst hj
  rw[List.getElem?_set]at h;simp only[if_true]at h
  split at h
  .cases h
   refine⟨v,?_,r⟩;rw[aJ (by rw[<-e.len];omega)]
  .cases h
 .rw[aE hj]at h
  obtain⟨x,a,b⟩:=e.get j w h
  simp_all
theorem ER.push(e:ER H μ G σ)(r:RU H μ u v):ER H μ 11#9 (σ++[some v]):=by
 refine⟨by simp[e.len],λj w h=>?_⟩;by_cases hj:j<G.length
 .rw[aT hj]at h
  obtain⟨x,a,b⟩:=e.get j w h;exact⟨x,by rw[aT (by rw[<-e.len];omega)];omega,b⟩
 .have hj':j=G.length:=by
   have:=(ah.mp h).1;simp at this;omega
  subst hj';simp at h;subst h;refine⟨v,?_,r⟩;rw[e.len];simp
section
variable {K:KX}{H:Hp}{μ:List Addr}{S:Sto}
theorem nh.mono{H':Hp}{Y2:List Addr}{a:Addr}{c:Cell}(h:nh K H μ a c)(k:aU H H')(p:Pre μ Y2)(l:c.own=true->H' a=H a)(f:∀o u,H a=some (.frz o u)->H' a=some (.frz o u)):nh K H' Y2 a c:=by
 cases c with
 | lst us=>
   obtain⟨vs,e,r⟩:=h;exact⟨vs,(l rfl).trans e,RUs.mono k p us vs r⟩
 | dic kvs=>
   obtain⟨vs,e,r⟩:=h;exact⟨vs,(l rfl).trans e,RUs.mono k p _ vs r⟩
 | dit b kvs=>
   cases b with
   | false=>
     obtain⟨vs,e,r⟩:=h;exact⟨vs,(l rfl).trans e,RUs.mono k p _ vs r⟩
   | true=>
     obtain⟨vs,⟨o,e⟩,r⟩:=h;exact⟨vs,⟨o,f o _ e⟩,RUs.mono k p _ vs r⟩
 | frz us=>
   obtain⟨vs,e,r⟩:=h;refine⟨vs,?_,RUs.mono k p us vs r⟩
   grind
variable{c:Cell}
theorem nh.has(h:nh K H μ a c)(ho:c.own=true):∃o,H a=some o/\(∀vs,o≠.tup vs)/\(∀o' u,o≠.frz o' u) /\ ∀ps,o≠.tbl ps:=by
 cases c with
 |lst us=>obtain⟨vs,e,r⟩:=h;simp_all
 |dic kvs=>obtain⟨vs,e,r⟩:=h;simp_all
 | dit b kvs=>
   cases b with
   |false=>obtain⟨vs,e,r⟩:=h;simp_all
   |true=>cases ho
 |frz us=>cases ho
variable{o':HO}
theorem aU.wrG{H:Hp}{o:HO}(h:H p=some o)(ht: ∀vs,o≠.tup vs)(hf: ∀ob u,o≠.frz ob u):aU H (upd H p o'):=⟨λa vs e=>by
 rw[aP (qB e h (cX (ht vs)))];omega,λa ob u e=>by
 rw[aP (qB e h (cX (hf ob u)))];omega⟩
theorem HR.get(h:HR K μ S H)(e:S[n]?=some c):∃a,μ[n]?=some a/\nh K H μ a c:=by
 have hn:n<μ.length:=by rw[h.len];exact(ah.mp e).1
 exact⟨μ[n],by simp,h.cell n c _ e 0#3⟩
theorem HR.wrC(h:HR K μ S H){d:Cell}(e:S[n]?=some c)(ea:μ[n]?=some a)(hc:c.own=true)(r:nh K (upd H a o') μ a d):HR K μ (S.set n d) (upd H a o'):=by
 obtain⟨o,e0,nt,nf,nb⟩:=(h.cell n _ a e ea).has hc;have kp:aU H (upd H a o'):=aU.wrG e0 nt nf;have hn:=(ah.mp e).1;have pick:∀(m:Nat) (c':Cell),(S.set n d)[m]?=some c'->c'.own=true->∃Ss,S[m]?=some Ss/\Ss.own=true:=λm c' q hq=>by
  by_cases hm:n=m<;>simp_all
 refine⟨by rw[g9];exact h.len,λi j u1 u2 q1 q2 o1 o2 q3=>?_,λm c' b q1 q2=>?_,h.ext.upd kp 2#1 λo1 q=>by simp_all⟩
 .obtain⟨w1,z1,y1⟩:=pick i u1 q1 o1
  obtain⟨w2,z2,y2⟩:=pick j u2 q2 o2;exact h.inj i j w1 w2 z1 z2 y1 y2 q3
 .by_cases hm:n=m
  .simp_all
  .rw[aE hm]at q1
   refine(h.cell m c' b q1 q2).mono kp 2#1 (λVI=>?_) λo u hf=>?_
   .refine aP ?_
    rintro rfl;exact hm (h.inj n m c c' e q1 hc VI (ea.trans q2.symm))
   .rw[aP (qB hf e0 (cX (nf o u)))];omega
theorem HR.wr(h:HR K μ S H){n:Nat}{us ws:List U}{vs:List V}{a:Addr}(e:S[n]?=some (.lst us))(ea:μ[n]?=some a)(r:RUs H μ ws vs):HR K μ (S.set n (.lst ws)) (upd H a (.lst vs)):=by
 obtain⟨Rn,e0,r0⟩:=h.cell n _ a e ea;exact h.wrC e ea rfl ⟨vs,bS,RUs.mono (aU.wr e0) 2#1 ws vs r⟩
theorem HR.newC(h:HR K μ S H){d:Cell}(hp:H p=none)(hd:d.own=true)(r:nh K (upd H p o') (μ++[p]) p d):HR K (μ++[p]) (S++[d]) (upd H p o'):=by
 have kp:aU H (upd H p o'):=aU.new hp;have pre:Pre μ _:=⟨[p],rfl⟩;have old:∀(n:Nat) (c:Cell),n<0#5->(S++[d])[n]?=some c->S[n]?=some c:=λn c hn q=>by rwa[aT hn]at q
 have last:∀(n:Nat) (c:Cell),¬n<0#5->(S++[d])[n]?=some c->n=0#5:=λn c hn q=>by
  have:=(ah.mp q).1;simp at this;omega
 have fresh:∀(n:Nat) (c:Cell),S[n]?=some c->c.own=true->∀a,μ[n]?=some a->a≠p:=λn c q hc a qa=>by
  obtain⟨o,e,_⟩:=(h.cell n _ a q qa).has hc;exact aQ e hp
 have YK:(μ++[p])[0#5]?=some p:=by rw[<-h.len];simp
 have YS:∀(n:Nat),n<0#5->(μ++[p])[n]?=μ[n]? := λn hn=>aT (by rw[h.len];exact hn);refine⟨by simp[h.len],λi j u1 u2 q1 q2 o1 o2 q3=>?_,λm c b q1 q2=>?_,h.ext.upd kp pre λo1 q=>by rw[hp]at q;cases q⟩
 .by_cases hi:i<0#5
  .by_cases hj:j<0#5
   .rw[YS i hi,YS j hj]at q3
    exact h.inj i j u1 u2 (old i _ hi q1) (old j _ hj q2) o1 o2 q3
   .have e:=last j _ hj q2
    subst e;obtain⟨a,ha,_⟩:=h.get (old i _ hi q1);rw[YS i hi,YK,ha]at q3;exact absurd (dO q3) (fresh i u1 (old i _ hi q1) o1 a ha)
  .have e:=last i _ hi q1
   subst e;by_cases hj:j<0#5
   .obtain⟨a,ha,_⟩:=h.get (old j _ hj q2)
    rw[YS j hj,YK,ha]at q3;exact absurd (dO q3).symm (fresh j u2 (old j _ hj q2) o2 a ha)
   .exact(last j _ hj q2).symm
 .by_cases hm:m<0#5
  .rw[YS m hm]at q2
   refine(h.cell m c b (old m c hm q1) q2).mono kp pre (λhc=>?_) λo u hf=>?_
   .exact aP (fresh m c (old m _ hm q1) hc b q2)
   .rw[aP (aQ hf hp)];exact hf
  .have e:=last m c hm q1
   subst e;rw[YK]at q2;cases q2;simp at q1;subst q1;exact r
theorem HR.new(h:HR K μ S H){us:List U}{vs:List V}{p:Addr}(hp:H p=none)(r:RUs H μ us vs):HR K (μ++[p]) (S++[.lst us]) (upd H p (.lst vs)):=
 h.newC hp rfl ⟨vs,bS,RUs.mono (aU.new hp) ⟨_,rfl⟩ us vs r⟩
theorem HR.tup(h:HR K μ S H){vs:List V}{p:Addr}(hp:H p=none):HR K μ S (upd H p (.tup vs)):=by
 have kp:aU H (upd H p (.tup vs)):=aU.new hp;refine⟨h.len,h.inj,λm c b q1 q2=>(h.cell m c b q1 q2).mono kp 2#1 (λhc=>?_) λo u hf=>?_,h.ext.upd kp 2#1 λo1 q=>by grind⟩
 .obtain⟨o,e,_⟩:=(h.cell m _ b q1 q2).has hc
  exact aP (aQ e hp)
 .rw[aP (aQ hf hp)];omega
theorem HR.sq(h:HR K μ S H){us:List U}(e:getL S n=some us):∃a vs,μ[n]?=some a/\SqL K H a vs/\RUs H μ us vs:=by
 unfold getL at e
 split at e
 .rename_i ws q
  cases e;obtain⟨a,ha,vs,e1,r⟩:=h.get q;exact⟨a,vs,ha,SqL.of e1,r⟩
 .rename_i ws q
  cases e;obtain⟨a,ha,vs,e1,r⟩:=h.get q;refine⟨a,vs,ha,?_,r⟩;rcases e1 with⟨o,e1⟩|e1
  .exact .inl (.inr ⟨o,e1⟩)
  .rcases e1 with (e1|⟨o,e1⟩)|e1
   .cases e1
   .cases e1
   .exact .inr e1
 .cases e
 .cases e
 .cases e
end
def Aft(K:KX)(μ:List Addr)(H:Hp)(u:U)(S':Sto)(Q:VK):Prop:= ∀Y2 v H',Pre μ Y2->aU H H'->HR K Y2 S' H'->RU H' Y2 u v->Q v H'
def tM(K:KX)(m:ME):TE:=λσ H Q=>∃μ S G u S',HR K μ S H/\ER H μ G σ/\m G S=some (u,S')/\Aft K μ H u S' Q
def tMT(K:KX)(m:MT):TT:=λσ H Q=>∃μ S G b S',HR K μ S H/\ER H μ G σ/\m G S=some (b,S') /\ ∀Y2 H',Pre μ Y2->aU H H'->HR K Y2 S' H'->Q b H'
def tMA(K:KX)(m:MA):TA:=λσ H Q=>∃μ S G us S',HR K μ S H/\ER H μ G σ/\m G S=some (us,S') /\ ∀Y2 vs H',Pre μ Y2->aU H H'->HR K Y2 S' H'->RUs H' Y2 us vs->Q vs H'
def FlP(K:KX)(μ:List Addr)(H:Hp)(D:Ends):Fl×Rho×Sto->Prop
 |(.nx,Y4,S')=>∀Y2 Y1 H',Pre μ Y2->aU H H'->HR K Y2 S' H'->ER H' Y2 Y4 Y1->D.nx Y1 H'
 |(.bk,Y4,S')=>∀Y2 Y1 H',Pre μ Y2->aU H H'->HR K Y2 S' H'->ER H' Y2 Y4 Y1->D.bk Y1 H'
 |(.ct,Y4,S')=>∀Y2 Y1 H',Pre μ Y2->aU H H'->HR K Y2 S' H'->ER H' Y2 Y4 Y1->D.ct Y1 H'
 |(.rt u,_,S')=>Aft K μ H u S' D.rt
def tMS(K:KX)(m:MS):TS:=λD σ H=>∃μ S G r,HR K μ S H/\ER H μ G σ/\m G S=some r/\FlP K μ H D r
variable{K:KX}{S':Sto}{Q:VK}
theorem Aft.mono(a:Aft K μ H u S' Q)(p:Pre μ Y0)(k:aU H H1):Aft K Y0 H1 u S' Q:=
 λY2 v H' p' k'=>a _ v H' (p.trans p') (k.trans k')
theorem FlP.mono{K:KX}{μ Y0:List Addr}{H H1:Hp}{D:Ends}{r:Fl×Rho×Sto}(a:FlP K μ H D r)(p:Pre μ Y0)(k:aU H H1):FlP K Y0 H1 D r:=by
 obtain⟨f,Y4,S'⟩:=r;cases f with
 |nx=>exact λY2 Y1 H' p' k'=>a _ _ H' (p.trans p') (k.trans k')
 |bk=>exact λY2 Y1 H' p' k'=>a _ _ H' (p.trans p') (k.trans k')
 |ct=>exact λY2 Y1 H' p' k'=>a _ _ H' (p.trans p') (k.trans k')
 |rt u=>exact Aft.mono a p k
section
variable {K:KX}{σ:St}{H:Hp}{Q:VK}
theorem sY{A B:Prop}(h:A):if true=true then A else B:=by grind
theorem sj{A B:Prop}(h:B):if false=true then A else B:=by grind
theorem OZ{i:Nat}(h:tM K (ae i) σ H Q):PR i σ H Q:=by
 obtain⟨μ,S,G,u,S',hr,er,e,k⟩:=h;unfold ae at e
 split at e
 .rename_i w q
  cases e;obtain⟨v,hv,ru⟩:=er.get i _ q;exact⟨v,hv,k μ v H 2#1 7#9 hr ru⟩
 .cases e
theorem r_c(hv:∀H μ,RU H μ u v)(h:tM K (mC u) σ H Q):tC v σ H Q:=by
 obtain⟨μ,S,G,u',S',hr,er,e,k⟩:=h;cases e;exact k μ v H 2#1 7#9 hr (hv _ _)
def OpU(K:KX)(r:R2)(f:F2):Prop:= ∀(μ:List Addr) (S:Sto) (H:Hp) (x y:U) (vx vy:V) (u:U) (S':Sto) (Q:VK),HR K μ S H->RU H μ x vx->RU H μ y vy->f x y S=some (u,S')->Aft K μ H u S' Q->r vx vy H Q
variable{f:F2}
theorem wM{r:R2}{a b:ME}(o:OpU K r f)(h:tM K (m2 f a b) σ H Q):tOp r (tM K a) (tM K b) σ H Q:=by
 obtain⟨μ,S,G,u,S',hr,er,e,k⟩:=h;obtain⟨x,S1,e1,e⟩:=aL e;obtain⟨y,S2,e2,e⟩:=aL e;refine 9#6;refine⟨_,S1,G,y,S2,Z',er.mono k1 p1,e2,λY5 vy H2 p2 k2 ZX ry=>?_⟩;exact o _ S2 H2 x y vx vy u S' Q ZX (RU.mono k2 p2 x vx rx) ry e (k.mono 8#7 9#1)
def UnU(K:KX)(r:V->Hp->VK->Prop)(f:U->Sto->Res U):Prop:= ∀(μ:List Addr) (S:Sto) (H:Hp) (x:U) (vx:V) (u:U) (S':Sto) (Q:VK),HR K μ S H->RU H μ x vx->f x S=some (u,S')->Aft K μ H u S' Q->r vx H Q
theorem QE{r:V->Hp->VK->Prop}{f:U->Sto->Res U}{a:ME}(o:UnU K r f)(h:tM K (m1 f a) σ H Q):tUn r (tM K a) σ H Q:=by
 obtain⟨μ,S,G,u,S',hr,er,e,k⟩:=h;obtain⟨x,S1,e1,e⟩:=aL e;refine 9#6;exact o _ S1 H1 x vx u S' Q Z' rx e 10#2
variable{S:Sto}
theorem Aft.now(k:Aft K μ H u S Q)(hr:HR K μ S H)(r:RU H μ u v):Q v H:=k μ v H 2#1 7#9 hr r
variable{i:Int}
theorem eI:RU H μ (.int i) (.int i):=by simp[RU]
variable{b:Bool}
theorem kP:RU H μ (.bl b) (.bl b):=by simp[RU]
theorem lB:RU H μ .non .non:=by simp[RU]
variable{us:List U}{vs:List V}
theorem jS(e:H a=some (.tup vs))(r:RUs H μ us vs):RU H μ (.tup us) (.ref a):=by
 exact⟨a,vs,rfl,e,r⟩
theorem xi(e:μ[n]?=some a):RU H μ (.ref n) (.ref a):=by
 exact⟨a,rfl,e⟩
theorem dr(h:RU H μ (.int i) v):v=.int i:=by simpa only [RU]using h
theorem je(h:RU H μ (.bl b) v):v=.bl b:=by simpa only [RU]using h
theorem fi(h:RU H μ (.tup us) v):∃a vs,v=.ref a/\H a=some (.tup vs)/\RUs H μ us vs:=by simpa only [RU]using h
theorem eW(h:RU H μ (.ref n) v):∃a,v=.ref a/\μ[n]?=some a:=by simpa only [RU]using h
variable{g:Int->Int->V}
theorem A0{k:Int->Int->U}(hf:∀x y S u S',f x y S=some (u,S')->∃i j,x=.int i/\y=.int j/\u=k i j/\S'=S)(hg:∀H μ i j,RU H μ (k i j) (g i j)):OpU K (rI0 g) f:=by
 intro μ S H x y vx vy u S' Q hr rx ry e a;obtain⟨i,j,rfl,rfl,rfl,rfl⟩:=hf x y S u S' e;exact⟨i,j,dr rx,dr ry,a.now hr (hg _ _ _ _)⟩
theorem Av{C:Int->Int->Prop}{k:Int->Int->U}(hf:∀x y S u S',f x y S=some (u,S')->∃i j,x=.int i/\y=.int j/\C i j/\u=k i j/\S'=S)(hg:∀H μ i j,RU H μ (k i j) (g i j)):OpU K (rI C g) f:=by
 intro μ S H x y vx vy u S' Q hr rx ry e a;obtain⟨i,j,rfl,rfl,c,rfl,rfl⟩:=hf x y S u S' e;exact⟨i,j,dr rx,dr ry,c,a.now hr (hg _ _ _ _)⟩
theorem Mg:OpU K (rI0 λi j => .int (i - j)) qo:=A0 (λx y S u S' h=>by
 unfold qo at h;split at h <;> simp at h;simp_all) λ_ _ _ _=>eI
theorem Li:OpU K (rI ID λi j=>.int (i*j)) d7:=by
 intro μ S H x y vx vy u S' Q hr rx ry e a;unfold d7 at e
 split at e
 .split at e
  .rename_i hc
   simp at e;obtain⟨rfl,rfl⟩:=e;exact⟨_,_,dr rx,dr ry,hc,a.now hr eI⟩
  .cases e
 .cases e
theorem LO:OpU K (rI P2 λi j => .int (i / j)) oDiv:=Av (k:=λi j => .int (i / j)) (λx y S u S' h=>by
 unfold oDiv at h;split at h
 .split at h
  .rename_i hc;simp at h;obtain⟨rfl,rfl⟩:=h;exact⟨_,_,rfl,rfl,hc,rfl,rfl⟩
  .cases h
 ·cases h) λ_ _ _ _=>eI
theorem Mi:OpU K (rI (λ_ j=>0<j) λi j => .int (i % j)) oMod:=Av (λx y S u S' h=>by
 unfold oMod at h;split at h <;> simp_all) λ_ _ _ _=>eI
theorem ML:OpU K (rI Ov λi j => .int (i ^ j.toNat)) wa:=Av (k:=λi j => .int (i ^ j.toNat)) (λx y S u S' h=>by
 unfold wa at h;split at h
 .split at h
  .rename_i hc;simp at h;obtain⟨rfl,rfl⟩:=h;exact⟨_,_,rfl,rfl,hc,rfl,rfl⟩
  .cases h
 ·cases h) λ_ _ _ _=>eI
theorem wb{p:Int->Int->Bool}:OpU K (rI0 λi j => .bl (p i j)) (vS p):=A0 (λx y S u S' h=>by
 unfold vS at h;split at h <;> simp at h;simp_all) λ_ _ _ _=>kP
def Jx(K:aj):R2:=λx y H Q=>∃a b ys,x=.ref a/\y=.ref b/\SqT K H a []/\SqT K H b ys/\Q (.ref b) H
variable{X:Cx}
theorem Il:OpR X (binaryOp .Add) (Jx X.K):=by
 intro pins s σ H x y v u Q I rx ry h;obtain⟨a,b,ys,rfl,rfl,h1,h2,q⟩:=h;cases (rx);cases (ry);obtain⟨ZZ,r1,p1,_⟩:=I.tuple h1;obtain⟨ZP,r2,p2,_⟩:=I.tuple h2;cases r1;exact HT.cat_tup0 p1 p2 ⟨.ref b,H,I,rfl,q⟩
theorem MO:OpU K (λx y H Q=>rI0 (λi j=>.int (i+j)) x y H Q\/JI K x y H Q\/Jx K x y H Q\/OL x y H Q) bR:=by
 intro μ S H x y vx vy u S' Q hr rx ry e a;unfold bR at e
 split at e
 .simp at e;obtain⟨rfl,rfl⟩:=e
  exact .inl ⟨_,_,dr rx,dr ry,a.now hr eI⟩
 .rename_i xs ys
  split at e
  .rename_i hc
   simp at e;obtain⟨rfl,rfl⟩:=e;obtain⟨p,vs,rfl,hp,r1⟩:=fi rx;obtain⟨q,ws,rfl,hq,r2⟩:=fi ry;by_cases hx:xs=[]
   .subst hx
    have hv:=by omega
    subst hv;exact .inr (.inr (.inl ⟨p,q,ws,rfl,rfl,.inl (.inl hp),.inl (.inl hq),a.now hr (jS hq r2)⟩))
   refine .inr (.inl ⟨p,q,vs,ws,rfl,rfl,.inl (.inl hp),.inl (.inl hq),?_,?_,λz=>?_,λz t ht=>?_⟩)
   .intro z;have:=r1.len;grind
   .have h1:=r1.len;have h2:=r2.len;unfold big at hc;rw[sizeLine_eq];omega
   .subst z
    have:=by have:=r2.len;exact fo 0#2
    subst this;rw[g8]at a;exact a.now hr (jS hp r1)
   .refine a μ _ _ 2#1 (aU.new ht) (hr.tup ht) ?_
    have kp:aU H (upd H t (.tup (vs++ws))):=aU.new ht;exact jS bS ((RUs.mono kp 2#1 _ _ r1).append (RUs.mono kp 2#1 _ _ r2))
  .cases e
 .rename_i n m
  split at e
  .rename_i xs ys q1 q2
   split at e
   .rename_i hc
    simp at e;obtain⟨rfl,rfl⟩:=e;obtain⟨p,rfl,hp⟩:=eW rx;obtain⟨q,rfl,hq⟩:=eW ry;obtain⟨vs,e1,r1⟩:=hr.cell n _ p q1 hp;obtain⟨ws,e2,r2⟩:=hr.cell m _ q q2 hq;refine .inr (.inr (.inr ⟨p,q,vs,ws,rfl,rfl,e1,e2,?_,λt ht=>?_⟩))
    .have h1:=r1.len;have h2:=r2.len;unfold big at hc;rw[sizeLine_eq];omega
    .refine a _ _ _ ⟨_,rfl⟩ (aU.new ht) (hr.new ht (r1.append r2)) (xi ?_)
     rw[<-hr.len];simp
   .cases e
  .cases e
 .cases e
theorem HR.seq{x:U}(hr:HR K μ S H)(r:RU H μ x v)(e:d6 S x=some us):∃a vs,v=.ref a/\(SqL K H a vs\/SqT K H a vs)/\RUs H μ us vs:=by
 unfold d6 at e
 split at e
 .cases e
  obtain⟨a,vs,rfl,h,q⟩:=fi r;exact⟨a,vs,rfl,.inr (.inl (.inl h)),q⟩
 .obtain⟨a,rfl,ha⟩:=eW r
  obtain⟨a',vs,Yu,hs,q⟩:=hr.sq e;rw[ha]at Yu;cases Yu;exact⟨a,vs,rfl,.inl hs,q⟩
 .cases e
theorem Ib(r:RUs H μ us vs)(e:atI us i=some u):∃v,atI vs i=some v/\RU H μ u v:=by
 unfold atI at e ⊢;rw[<-r.len];cases q:ixN _ i with
 |none=>rw[q]at e;cases e
 | some j=>
   rw[q]at e;exact r.get e
theorem wc{y:U}{k:Key}(r:RU H μ y v)(e:keyOf y=some k):v=kV k:=by
 cases y<;>simp[keyOf]at e<;>subst e<;>(exact r)
theorem Bi{κ:Type}[DecidableEq κ]{μ:List Addr}{k:κ}{u:U}:∀{kvs:List (κ×U)}{vs:List V},RUs H μ (kvs.map (·.2)) vs->F6 kvs k=some u->∃v,oX (dV kvs vs) k=some v/\RU H μ u v
 |[],vs,r,e=>by cases e
 | (j,x)::kvs,vs,r,e=>by
   obtain⟨v,r',rfl,a,b⟩:=r.inv;show ∃w,oX ((j,v)::dV _ r') k=some w/\_;by_cases h:j=k
   .rw[pe h]
    simp[F6,h]at e<;>simp_all
   .rw[pb h]
    refine Bi b ?_;simpa [F6,List.find?_cons,h]using e
theorem Em{κ:Type}[DecidableEq κ]{k:κ}:∀{kvs:List (κ×U)}{vs:List V},4#6=2#6->((dV kvs vs).any λkv=>decide (kv.1=k))=kvs.any λkv=>decide (kv.1=k)
 |[],vs,_=>by simp[dV]
 |(j,x)::kvs,[],h=>by simp at h
 | (j,x)::kvs,v::vs,h=>by
   show(((j,v)::dV _ vs).any _)=_;rw[BS,BS,Em (by simpa using h)]
theorem FJ{κ:Type}{kvs:List (κ×U)}(h:4#6=2#6):(dV kvs vs).length=4#6:=by
 simp[dV,h]
theorem A1{κ:Type}[DecidableEq κ]{μ:List Addr}{k:κ}{u:U}{v:V}(ru:RU H μ u v):∀{kvs:List (κ×U)}{vs:List V},RUs H μ (kvs.map (·.2)) vs ->
  ∃ws,dV (kvs.map λkv=>if kv.1=k then(kv.1,u) else kv) ws=(dV kvs vs).map (λkv=>if kv.1=k then(kv.1,v) else kv)/\RUs H μ ((kvs.map λkv=>if kv.1=k then(kv.1,u) else kv).map (·.2)) ws
 |[],vs,r=>⟨[],by simp[dV],.nil⟩
 | (j,x)::kvs,vs,r=>by
   obtain⟨w,r',rfl,a,b⟩:=r.inv;obtain⟨ws,e,q⟩:=A1 ru b;show ∃ws',dV ((if j=k then(j,u) else(j,x))::kvs.map _) _=(if j=k then(j,v) else(j,w))::(dV _ r').map _/\RUs H μ (((if j=k then(j,u) else(j,x))::kvs.map _).map _) _;by_cases h:j=k
   .rw[if_pos h,if_pos h]
    exact⟨_,by rw[<-e];rfl,.cons ru q⟩
   .rw[if_neg h,if_neg h]
    exact⟨_,by rw[<-e];rfl,.cons a q⟩
theorem IH{κ:Type}[DecidableEq κ]{k:κ}{kvs:List (κ×U)}(ru:RU H μ u v)(r:RUs H μ (kvs.map (·.2)) vs):∃ws,dV (IP kvs k u) ws=putK (dV kvs vs) k v/\RUs H μ ((IP kvs k u).map (·.2)) ws:=by
 have hl:=by have:=r.len;rwa[aF]at this
 unfold IP putK;rw[Em hl]
 split
 .exact A1 ru r
 .refine⟨_,?_,by rw[cZ];exact r.append (.cons ru .nil)⟩
  unfold dV;rw[cZ,List.zip_append (by simpa using hl)];rfl
theorem HR.dic{x:U}{kvs:List (Key×U)}(hr:HR K μ S H)(r:RU H μ x v)(e:iS S x=some kvs):∃a vs,v=.ref a/\H a=some (.dK (dV kvs vs))/\RUs H μ (kvs.map (·.2)) vs:=by
 unfold iS at e
 split at e
 .split at e
  .rename_i q
   cases e;obtain⟨a,rfl,ha⟩:=eW r;obtain⟨vs,e1,r1⟩:=hr.cell _ _ a q ha;exact⟨a,vs,rfl,e1,r1⟩
  .cases e
 .cases e
def NN:R2:=λx y H Q=>∃a v,x=.ref a/\AH H a y (some v)/\Q v H
def Qi(K:aj):R2:=λx y H Q=>rIx K x y H Q\/NN x y H Q
theorem KE(hu:X.A.units+1<cLine):IxR X NN:=by
 intro value slice pins s σ H x y v u Q I rx ry h hs;obtain⟨a,w,rfl,g,q⟩:=h;obtain rfl:v=bY a:=rx;exact tail_any (zo I g) PySem.F.slot_dict_getitem.lookup (Cb hu I g ry λw' s3 I3 Zp=>⟨w,H,I3,Zp,q⟩) hs
theorem OF:OpU K (Qi K) oIx:=by
 intro μ S H x y vx vy u S' Q hr rx ry e a;unfold oIx at e
 split at e
 .rename_i kvs qd
  cases qk:keyOf y with
  |none=>simp_all
  | some kk=>
    rw[qk]at e;simp only[aH]at e;cases qv:F6 _ kk with
    |none=>rw[qv]at e;cases e
    | some w=>
      rw[qv]at e;simp at e;obtain⟨rfl,rfl⟩:=e;obtain⟨p,vs,rfl,hp,r⟩:=hr.dic rx qd;obtain⟨v,hv,rv⟩:=Bi r qv;rw[wc ry qk];exact .inr ⟨p,v,rfl,.inl ⟨_,kk,.inl hp,rfl,hv.symm⟩,a.now hr rv⟩
 split at e
 .rename_i i
  refine .inl ?_;cases q:d6 S x with
  |none=>rw[q]at e;cases e
  | some us=>
    rw[q]at e;simp only[aH]at e;cases z:atI us i with
    |none=>rw[z]at e;cases e
    | some w=>
      rw[z]at e;simp at e;obtain⟨rfl,rfl⟩:=e;obtain⟨p,vs,rfl,hs,r⟩:=hr.seq rx q;obtain⟨v,hv,rv⟩:=Ib r z;rcases hs with hs|hs
      .exact .inl ⟨p,vs,i,v,rfl,dr ry,hs,hv,a.now hr rv⟩
      .exact .inr (.inl ⟨p,vs,i,v,rfl,dr ry,hs,hv,a.now hr rv⟩)
 .cases e
theorem Kk:UnU K (rU λi=>.int (-i)) mQ:=by
 intro μ S H x vx u S' Q hr rx e a;unfold mQ at e
 split at e
 .cases e
  exact⟨_,dr rx,a.now hr eI⟩
 .cases e
theorem Nm{Q:List V->Hp->Prop}(h:tMA K ai σ H Q):BY σ H Q:=by
 obtain⟨μ,S,G,us,S',hr,er,e,k⟩:=h;cases e;exact k μ [] H 2#1 7#9 hr .nil
theorem KF{a:ME}{r:MA}{Q:List V->Hp->Prop}(h:tMA K (aa a r) σ H Q):vK (tM K a) (tMA K r) σ H Q:=by
 obtain⟨μ,S,G,us,S',hr,er,e,k⟩:=h;obtain⟨x,S1,e1,e⟩:=aL e;obtain⟨xs,S2,e2,e⟩:=aL e;cases e;refine 9#6;refine⟨_,S1,G,xs,_,Z',er.mono k1 p1,e2,λY5 vs H2 p2 k2 ZX rs=>?_⟩;exact k _ _ H2 8#7 9#1 ZX (.cons (RU.mono k2 p2 x vx rx) rs)
theorem Po{a:MA}(h:tM K (eA a) σ H Q):Of 5#7 σ H Q:=by
 obtain⟨μ,S,G,u,S',hr,er,e,k⟩:=h;obtain⟨xs,S1,e1,e⟩:=aL e
 split at e
 .rename_i hc
  cases e;refine⟨μ,S,G,xs,_,hr,er,e1,λY0 vs H1 p1 k1 Z' rs=>⟨?_,λp hp=>?_⟩⟩
  .have:=rs.len;unfold big at hc;rw[sizeLine_eq];omega
  .exact k _ _ _ p1 (k1.trans (aU.new hp)) (Z'.tup hp) (jS bS (RUs.mono (aU.new hp) 2#1 _ _ rs))
 .cases e
theorem ix(k:Aft K μ H (.ref 0#5) (S++[.lst us]) Q)(hr:HR K μ S H)(rs:RUs H μ us vs)(hp:H p=none):Q (.ref p) (upd H p (.lst vs)):=by
 refine k _ _ _ ⟨_,rfl⟩ (aU.new hp) (hr.new hp rs) (xi ?_);rw[<-hr.len];simp
theorem NK{a:MA}(h:tM K (cq a) σ H Q):Nf 5#7 σ H Q:=by
 obtain⟨μ,S,G,u,S',hr,er,e,k⟩:=h;obtain⟨xs,S1,e1,e⟩:=aL e
 split at e
 .rename_i hc
  cases e;refine⟨μ,S,G,xs,S1,hr,er,e1,λY0 vs H1 p1 k1 Z' rs=>⟨?_,λp hp=>?_⟩⟩
  .have:=rs.len;unfold big at hc;rw[sizeLine_eq];omega
  .exact ix 10#2 Z' rs hp
 .cases e
def ng(K:KX)(r:List V->Hp->VK->Prop)(f:MF):Prop:= ∀(μ:List Addr) (S:Sto) (H:Hp) (us:List U) (vs:List V) (u:U) (S':Sto) (Q:VK),HR K μ S H->RUs H μ us vs->f us S=some (u,S')->Aft K μ H u S' Q->r vs H Q
theorem wK{r:List V->Hp->VK->Prop}{f:MF}{a:MA}(o:ng K r f)(h:tM K (mFn f a) σ H Q):tCB r 5#7 σ H Q:=by
 obtain⟨μ,S,G,u,S',hr,er,e,k⟩:=h;obtain⟨xs,S1,e1,e⟩:=aL e;refine⟨μ,S,G,xs,S1,hr,er,e1,λY0 vs H1 p1 k1 Z' rs=>?_⟩;exact o _ S1 H1 xs vs u S' Q Z' rs e 10#2
def spM(K:KX)(m:MF):Sp:=λvs H Q _=>∃μ S us u S',HR K μ S H/\RUs H μ us vs/\m us S=some (u,S')/\Aft K μ H u S' Q
theorem E7{f:MF}{a:MA}{E:XK}(h:tM K (mFn f a) σ H Q):AW (spM K f) [] E 5#7 σ H Q:=by
 obtain⟨μ,S,G,u,S',hr,er,e,k⟩:=h;obtain⟨xs,S1,e1,e⟩:=aL e;refine⟨μ,S,G,xs,S1,hr,er,e1,λY0 vs H1 p1 k1 Z' rs=>?_⟩;show spM K f _ H1 Q E;rw[g8];exact⟨_,S1,xs,u,S',Z',rs,e,k.mono p1 k1⟩
theorem MR:ng K (λxs H Q=>(∃p ys,xs=[.ref p]/\(SqL K H p ys\/SqT K H p ys)/\Q (.int 2#9) H) \/ ∃a kvs,xs=[V.ref a]/\H a=some (.dK kvs)/\Q (.int 4#6) H) cw:=by
 intro μ S H us vs u S' Q hr rs e a;unfold cw at e
 split at e
 .rename_i x
  obtain⟨v,r,rfl,rx,rn⟩:=rs.inv;rw[rn.nil_inv]
  split at e
  .rename_i kvs qd
   cases e;obtain⟨p,ws,rfl,hp,r'⟩:=hr.dic rx qd;refine .inr ⟨p,_,rfl,hp,?_⟩;have hl:=by have:=r'.len;rwa[aF]at this
   rw[FJ hl];exact a.now hr eI
  cases q:d6 S x with
  |none=>rw[q]at e;cases e
  | some ws=>
    rw[q]at e;cases e;obtain⟨p,ys,rfl,hs,r'⟩:=hr.seq rx q;refine .inl ⟨p,ys,rfl,hs,?_⟩;rw[<-r'.len];exact a.now hr eI
 .cases e
theorem Fi:ng K (λxs H Q=>∃p ys,xs=[.ref p]/\((SqL K H p ys /\ ∀l,H l=none->Q (.ref l) (upd H l (.tup ys)))\/(SqT K H p ys/\Q (.ref p) H))) bO:=by
 intro μ S H us vs u S' Q hr rs e a;unfold bO at e
 split at e
 .obtain⟨v,r,rfl,rx,rn⟩:=rs.inv
  rw[rn.nil_inv];unfold d6 at e
  split at e
  .cases e
   obtain⟨p,ys,rfl,hp,r'⟩:=fi rx;exact⟨p,ys,rfl,.inr ⟨.inl (.inl hp),a.now hr (jS hp r')⟩⟩
  .rename_i n
   cases q:getL S n with
   |none=>rw[q]at e;cases e
   | some ws=>
     rw[q]at e;cases e;obtain⟨p,rfl,hp⟩:=eW rx;obtain⟨p',ys,Zx,hs,r'⟩:=hr.sq q;rw[hp]at Zx;cases Zx;refine⟨p,ys,rfl,.inl ⟨hs,λl hl=>?_⟩⟩;exact a μ _ _ 2#1 (aU.new hl) (hr.tup hl) (jS bS (RUs.mono (aU.new hl) 2#1 _ _ r'))
  .cases e
 .cases e
theorem Hl:ng K (λxs H Q=>∃p ys,xs=[.ref p]/\(SqL K H p ys\/SqT K H p ys) /\ ∀l,H l=none->Q (.ref l) (upd H l (.lst ys))) kX:=by
 intro μ S H us vs u S' Q hr rs e a;unfold kX at e
 split at e
 .rename_i x
  obtain⟨v,r,rfl,rx,rn⟩:=rs.inv;rw[rn.nil_inv];cases q:d6 S x with
  |none=>rw[q]at e;cases e
  | some ws=>
    rw[q]at e;cases e;obtain⟨p,ys,rfl,hs,r'⟩:=hr.seq rx q;exact⟨p,ys,rfl,hs,λl hl=>ix a hr r' hl⟩
 .cases e
theorem Ma:ng K (λxs H Q=>∃i j,xs=[.int i,.int j]/\Q (.int (if j>i then j else i)) H) zt:=by
 intro μ S H us vs u S' Q hr rs e a;unfold zt at e
 split at e
 .cases e
  obtain⟨v,r,rfl,rx,rs⟩:=rs.inv;obtain⟨w,r,rfl,ry,rn⟩:=rs.inv;rw[rn.nil_inv,dr rx,dr ry];exact⟨_,_,rfl,a.now hr eI⟩
 .cases e
def M7(K:aj):List V->Hp->VK->Prop:=λxs H Q=>((∃i j,xs=[.int i,.int j]/\Q (.int (if j<i then j else i)) H))
theorem CF (hc:X.calm=true)(hu:X.A.units+64<cLine):gp X (.builtin "min") (M7 X.K):=by
 intro pins s σ H xs us Q I rs h;exact B9 hc pins s σ H xs us Q I rs h
theorem Kd:ng K (M7 K) yQ:=by
 intro μ S H us vs u S' Q hr rs e a;unfold yQ at e
 split at e
 .cases e
  obtain⟨v,r,rfl,rx,rs⟩:=rs.inv;obtain⟨w,r,rfl,ry,rn⟩:=rs.inv;rw[rn.nil_inv,dr rx,dr ry];exact⟨_,_,rfl,a.now hr eI⟩
 .cases e
def MtU(K:KX)(r:V->List V->Hp->VK->Prop)(f:Nat->List U->Sto->Res U):Prop:= ∀(μ:List Addr) (S:Sto) (H:Hp) (n:Nat) (p:Addr) (us:List U) (vs:List V) (u:U) (S':Sto) (Q:VK),HR K μ S H->μ[n]?=some p->RUs H μ us vs->f n us S=some (u,S')->Aft K μ H u S' Q->r (.ref p) vs H Q
theorem Ke{r:V->List V->Hp->VK->Prop}{f:Nat->List U->Sto->Res U}{o:ME}{a:MA}(m:MtU K r f)(h:tM K (mML f o a) σ H Q):tBM K "list" r (tM K o) 5#7 σ H Q:=by
 obtain⟨μ,S,G,u,S',hr,er,e,k⟩:=h;obtain⟨x,S1,e1,e⟩:=aL e
 split at e
 .rename_i n
  cases q:getL S1 n with
  |none=>rw[q]at e;cases e
  | some ws=>
    rw[q]at e;obtain⟨xs,S2,e2,e⟩:=aL e;refine⟨μ,S,G,_,S1,hr,er,e1,λY0 vx H1 p1 k1 Z' rx=>?_⟩;obtain⟨p,rfl,hp⟩:=eW rx;obtain⟨p',ys,Zx,hs,r'⟩:=Z'.sq q;rw[hp]at Zx;cases Zx;refine⟨.inl ⟨rfl,ys,hs⟩,_,S1,G,xs,S2,Z',er.mono k1 p1,e2,λY5 vs H2 p2 k2 ZX rs=>?_⟩;exact m _ S2 H2 n p xs vs u S' Q ZX (p2.get hp) rs e (k.mono 8#7 9#1)
 .cases e
theorem wL{ws:List U}(k:Aft K μ H u (S.set n (.lst ws)) Q)(hr:HR K μ S H)(e:S[n]?=some (.lst us))(hp:μ[n]?=some p)(rs:RUs H μ ws vs)(ru:RU H μ u v):
  Q v (upd H p (.lst vs)):=by
 obtain⟨Rn,e0,_⟩:=hr.cell n _ p e hp;exact k μ _ _ 2#1 (aU.wr e0) (hr.wr e hp rs) (RU.mono (aU.wr e0) 2#1 _ _ ru)
theorem Cm:MtU K BJ bV:=by
 intro μ S H n p us vs u S' Q hr hp rs e a;unfold bV at e
 split at e
 .split at e
  .rename_i ws q
   split at e
   .rename_i hc
    cases e;obtain⟨v,r,rfl,rx,rn⟩:=rs.inv;rw[rn.nil_inv];obtain⟨xs,e0,r0⟩:=hr.cell n _ p q hp;refine⟨p,xs,v,rfl,rfl,e0,?_,wL a hr q hp (r0.append (.cons rx .nil)) lB⟩;have:=r0.len;unfold big at hc;rw[sizeLine_eq];omega
   .cases e
  .cases e
 .cases e
variable{j:Nat}
theorem Qk(h:ixN n i=some j):j<n /\ -(n:Int)<=i/\i<n:=by
 unfold ixN at h
 grind
theorem HG(h:ixN n i=some j):seqIndex? i n=some j:=by
 unfold ixN at h;unfold seqIndex?
 grind
theorem Eo:MtU K DW nR:=by
 intro μ S H n p us vs u S' Q hr hp rs e a;unfold nR at e
 split at e
 .rename_i i
  split at e
  .rename_i ws q
   split at e
   rotate_left
   .cases e
   rename_i hR
   cases z:ixN _ i with
   |none=>rw[z]at e;cases e
   | some j=>
     rw[z]at e;simp only[aH]at e;cases z2:ws[j]? with
     |none=>simp_all
     | some y=>
       rw[z2]at e;cases e;obtain⟨v,r,rfl,rx,rn⟩:=rs.inv;rw[rn.nil_inv,dr rx];obtain⟨xs,e0,r0⟩:=hr.cell n _ p q hp;obtain⟨w,hw,Zp⟩:=r0.get z2;have hlen:=r0.len;refine⟨p,xs,i,j,w,rfl,rfl,e0,?_,?_,?_,hw,wL a hr q hp (r0.eraseIdx j) Zp⟩
       .have:=hR.1;omega
       .have:=hR.2;omega
       .rw[<-hlen];exact HG z
  .cases e
 .cases e
theorem Ac{t:TE}{m:ME}{Q:Bool->Hp->Prop}(ht:∀Q,tM K m σ H Q->t σ H Q)(h:tMT K (cOf m) σ H Q):Fy t σ H Q:=by
 obtain⟨μ,S,G,b,S',hr,er,e,k⟩:=h;obtain⟨x,S1,e1,e⟩:=aL e
 split at e
 .cases e
  refine ht _ 21#2;exact⟨_,je rx,k _ H1 p1 k1 Z'⟩
 .cases e
theorem Qx{t:TE}{m:ME}{Q:Bool->Hp->Prop}(ht:∀Q,tM K m σ H Q->t σ H Q)(h:tMT K (cOf m) σ H Q):tB t σ H Q:=Ac ht h
theorem PB{a b:MT}{Q:Bool->Hp->Prop}(h:tMT K (yB a b) σ H Q):_L.NI (tMT K a) (tMT K b) σ H Q:=by
 obtain⟨μ,S,G,c,S',hr,er,e,k⟩:=h;obtain⟨x,S1,e1,e⟩:=aL e;refine 18#3;cases x with
 |true=>exact sY ⟨_,S1,G,c,S',Z',er.mono k1 p1,e,λY5 H2 p2 k2=>k _ H2 8#7 9#1⟩
 | false=>
   grind
theorem QF{a b:MT}{Q:Bool->Hp->Prop}(h:tMT K (cOr a b) σ H Q):_L.tOr (tMT K a) (tMT K b) σ H Q:=by
 obtain⟨μ,S,G,c,S',hr,er,e,k⟩:=h;obtain⟨x,S1,e1,e⟩:=aL e;refine 18#3;cases x with
 | true=>
   grind
 |false=>exact sj ⟨_,S1,G,c,S',Z',er.mono k1 p1,e,λY5 H2 p2 k2=>k _ H2 8#7 9#1⟩
theorem Oz{a:MT}{Q:Bool->Hp->Prop}(h:tMT K (eE a) σ H Q):_L.Oj (tMT K a) σ H Q:=by
 obtain⟨μ,S,G,c,S',hr,er,e,k⟩:=h;obtain⟨x,S1,e1,e⟩:=aL e;cases e;exact⟨μ,S,G,x,_,hr,er,e1,λY0 H1 p1 k1 Z'=>k _ H1 p1 k1 Z'⟩
theorem Pp{c:MT}{a b:ME}(h:tM K (z9 c a b) σ H Q):tIf (tMT K c) (tM K a) (tM K b) σ H Q:=by
 obtain⟨μ,S,G,u,S',hr,er,e,k⟩:=h;obtain⟨x,S1,e1,e⟩:=aL e;refine 18#3;cases x with
 |true=>exact sY 18#4
 |false=>exact sj 18#4
section
variable {D:Ends}
theorem EW(h:tMS K dk D σ H):FQ D σ H:=by
 obtain⟨μ,S,G,r,hr,er,e,k⟩:=h;cases e;exact k μ σ H 2#1 7#9 hr er
variable{b:MS}
theorem P3{a:MS}(h:tMS K (aZ a b) D σ H):Oe (tMS K a) (tMS K b) D σ H:=by
 obtain⟨μ,S,G,r,hr,er,e,k⟩:=h;unfold aZ at e
 split at e
 .rename_i Y3 S1 q
  refine⟨μ,S,G,_,hr,er,q,λY0 Y6 H1 p1 k1 Z' ZK=>?_⟩;exact⟨_,S1,_,r,Z',ZK,e,k.mono p1 k1⟩
 .rename_i q
  refine⟨μ,S,G,r,hr,er,e,?_⟩;obtain⟨f,Y4,S'⟩:=r;cases f with
  |nx=>exact absurd e (q _ S')
  |bk=>exact k
  |ct=>exact k
  |rt u=>exact k
variable{i:Nat}{m:ME}
theorem JP(h:tMS K (bA i m) D σ H):Cn (tM K m) (iR i) D σ H:=by
 obtain⟨μ,S,G,r,hr,er,e,k⟩:=h;obtain⟨x,S1,e1,e⟩:=aL e;cases e;exact⟨μ,S,G,x,S1,hr,er,e1,λY0 vx H1 p1 k1 Z' rx=>k _ _ H1 p1 k1 Z' ((er.mono k1 p1).set rx i)⟩
def Qd:Fk:=λo i v H Q=>∃a H',o=.ref a/\Ct H a i v H'/\Q H'
def JG:Fk:=λo i v H Q=>Js o i v H Q\/Qd o i v H Q
theorem G7{X:Cx}(hu:X.A.units+1<cLine):Kz X JG:=by
 intro pins s σ H o i v ov iv u Q I ro ri rv h;rcases h with h|⟨a,H',rfl,g,q⟩
 .exact set_list _ s σ H o i v ov iv u Q I ro ri rv h
 .obtain rfl:ov=bY a:=ro
  exact B2 hu I g ri rv λs4 I4=>⟨H',I4,q⟩
theorem Hu{o i:ME}(h:tMS K (nI o i m) D σ H):Cn (tM K m) (OO (tM K o) (tM K i) JG) D σ H:=by
 obtain⟨μ,S,G,r,hr,er,e,k⟩:=h;obtain⟨x,S1,e1,e⟩:=aL e;obtain⟨p,S2,e2,e⟩:=aL e;obtain⟨j,S3,e3,e⟩:=aL e;cases p with
 | ref n=>
   simp at e
   split at e
   .rename_i us q
    split at e
    rotate_left
    .cases e
    rename_i kk
    cases z:ixN _ kk with
    |none=>rw[z]at e;cases e
    | some m'=>
      rw[z]at e;cases e;refine 9#6;refine⟨_,S1,G,_,S2,Z',er.mono k1 p1,e2,λY5 vo H2 p2 k2 ZX ro=>?_⟩;refine⟨_,S2,G,_,S3,ZX,er.mono 9#1 8#7,e3,λG' vi H3 p3 k3 Zy ri=>?_⟩;obtain⟨a,rfl,ha⟩:=eW ro;have VE:=p3.get ha;obtain⟨vs,e0,r0⟩:=Zy.cell n _ a q VE;have Wh:=RU.mono (k2.trans k3) (p2.trans p3) _ _ rx;refine .inl ⟨a,vs,kk,m',rfl,dr ri,e0,by rw[<-r0.len];omega,?_⟩;have kw:aU H3 (upd H3 a (.lst (vs.set m' vx))):=aU.wr e0;exact k _ _ _ (p1.trans (p2.trans p3)) 19#1 (Zy.wr q VE (r0.set Wh m')) (er.mono 19#1 (p1.trans (p2.trans p3)))
   .rename_i kvs q
    cases qk:keyOf j with
    |none=>simp_all
    | some kk=>
      rw[qk]at e
      split at e
      .rename_i hz
       cases e;refine 9#6;refine⟨_,S1,G,_,S2,Z',er.mono k1 p1,e2,λY5 vo H2 p2 k2 ZX ro=>?_⟩;refine⟨_,S2,G,_,S3,ZX,er.mono 9#1 8#7,e3,λG' vi H3 p3 k3 Zy ri=>?_⟩;obtain⟨a,rfl,ha⟩:=eW ro;have VE:=p3.get ha;obtain⟨vs,e0,r0⟩:=Zy.cell n _ a q VE;have Wh:=RU.mono (k2.trans k3) (p2.trans p3) _ _ rx;have hl:=by have:=r0.len;rwa[aF]at this
       obtain⟨ws,ew,Zp⟩:=IH Wh r0;have kw:aU H3 (upd H3 a (.dK (putK (dV kvs vs) kk vx))):=aU.wrG e0 (λ_ z=>by cases z) λ_ _ z=>by cases z
       refine .inr ⟨a,_,rfl,.inl ⟨_,kk,e0,wc ri qk,by rw[FJ hl];exact hz,rfl⟩,?_⟩;exact k _ _ _ (p1.trans (p2.trans p3)) 19#1 (Zy.wrC q VE rfl ⟨ws,by rw[ew];exact bS,RUs.mono kw 2#1 _ _ Zp⟩) (er.mono 19#1 (p1.trans (p2.trans p3)))
      .cases e
   .cases e
 |_=>cases e
theorem Le(h:tMS K (dj m) D σ H):Jt (tM K m) D σ H:=by
 obtain⟨μ,S,G,r,hr,er,e,k⟩:=h;obtain⟨x,S1,e1,e⟩:=aL e;cases e;exact⟨μ,S,G,x,S1,hr,er,e1,λY0 vx H1 p1 k1 Z' rx=>k _ σ H1 p1 k1 Z' 9#0⟩
theorem OH(h:tMS K (bZ m) D σ H):PN (tM K m) D σ H:=by
 obtain⟨μ,S,G,r,hr,er,e,k⟩:=h;obtain⟨x,S1,e1,e⟩:=aL e;cases e;exact⟨μ,S,G,x,S1,hr,er,e1,k⟩
theorem Qr{c:MT}{a:MS}(h:tMS K (sIf c a b) D σ H):OA (tMT K c) (tMS K a) (tMS K b) D σ H:=by
 obtain⟨μ,S,G,r,hr,er,e,k⟩:=h;obtain⟨x,S1,e1,e⟩:=aL e;refine 18#3;cases x with
 |true=>exact sY ⟨_,S1,G,r,Z',er.mono k1 p1,e,k.mono p1 k1⟩
 |false=>exact sj ⟨_,S1,G,r,Z',er.mono k1 p1,e,k.mono p1 k1⟩
variable{S:Sto}{r:Fl×Rho×Sto}
theorem mv{X0:List Addr}{H0:Hp}{k:MS}{N:St->Hp->Prop}(hr:HR K μ S H)(er:ER H μ G σ)(e:aft (b G S) k=some r)(p:Pre X0 μ)(kp:aU H0 H)(fl:FlP K X0 H0 D r)
  (hN:∀Y0 Y6 H1 Y3 S1,Pre X0 Y0->aU H0 H1->HR K Y0 S1 H1->ER H1 Y0 Y3 Y6->k Y3 S1=some r->N Y6 H1):tMS K b { D with nx:=N,ct:=N,bk:=D.nx } σ H:=by
 unfold aft at e
 split at e
 .rename_i Y3 S1 q
  exact⟨μ,S,G,_,hr,er,q,λY0 Y6 H1 p1 k1 Z' ZK=>hN _ _ H1 _ S1 (p.trans p1) (kp.trans k1) Z' ZK e⟩
 .rename_i Y3 S1 q
  exact⟨μ,S,G,_,hr,er,q,λY0 Y6 H1 p1 k1 Z' ZK=>hN _ _ H1 _ S1 (p.trans p1) (kp.trans k1) Z' ZK e⟩
 .rename_i Y3 S1 q
  cases e;exact⟨μ,S,G,_,hr,er,q,λY0 Y6 H1 p1 k1 Z' ZK=>fl _ _ H1 (p.trans p1) (kp.trans k1) Z' ZK⟩
 .rename_i q1 q2 q3
  refine⟨μ,S,G,r,hr,er,e,?_⟩;obtain⟨f,Y4,S'⟩:=r;cases f with
  |nx=>exact absurd e (q1 _ S')
  |ct=>exact absurd e (q2 _ S')
  |bk=>exact absurd e (q3 _ S')
  |rt u=>exact Aft.mono fl p kp
theorem drop_cons{α:Type}{l:List α}{x:α}(h:l[i]?=some x):l.drop i=x::l.drop (i+1):=by
 obtain⟨hi,e⟩:=ah.mp h;rw[List.drop_eq_getElem_cons hi,e]
theorem LQ{us:List U}{vs:List V}(hr:HR K μ S H)(er:ER H μ G σ)(e:qg i b us G S=some r)(fl:FlP K μ H D r)(ha:H a=some (.tup vs))(ru:RUs H μ us vs):
  ∃W:Nat->Nat->St->Hp->Prop,(∃m,W 0 m σ H) /\ ∀k m σ H,W k m σ H ->
   ((Itt K a).stop k H/\D.nx σ H)\/((Itt K a).go k H /\ ∃N:St->Hp->Prop,16#4 /\ ∀x H',(Itt K a).yld k H x H'->iR i x σ H' λY7 H2=>tMS K b { D with nx:=N,ct:=N,bk:=D.nx } Y7 H2):=by
 refine Ir (xs:=vs) (λk Y6 H1=>∃Y0 S1 Y3,Pre μ Y0/\aU H H1/\HR K Y0 S1 H1/\ER H1 Y0 Y3 Y6/\qg i b (us.drop k) Y3 S1=some r) ⟨μ,S,G,Pre.refl _,aU.refl _,hr,er,e⟩ ?_ ?_ ?_
 .rintro k Y6 H1 _ ⟨Y0,S1,Y3,p1,k1,_⟩
  exact .inl (.inl (k1 a vs ha))
 .rintro k x Y6 H1 hx ⟨Y0,S1,Y3,p1,k1,Z',ZK,e1⟩
  have hk:k<0#9:=by rw[ru.len];exact(ah.mp hx).1
  have hu:us[k]?=some us[k]:=by simp
  obtain⟨v,hv,rv⟩:=ru.get hu;rw[hx]at hv;cases hv;rw[drop_cons hu]at e1;have Wj:=RU.mono k1 p1 _ _ rv;exact mv Z' (ZK.set Wj i) e1 p1 k1 fl λY5 Y7 H2 Y8 S2 p2 k2 ZX YF e2=>⟨_,S2,_,p2,k2,ZX,YF,e2⟩
 .rintro Y6 H1 ⟨Y0,S1,Y3,p1,k1,Z',ZK,e1⟩
  rw[<-ru.len,i5]at e1;cases e1;exact fl _ _ H1 p1 k1 Z' ZK
theorem FI{lo:Int}(hr:HR K μ S H)(er:ER H μ G σ)(e:qg i b (aY lo n) G S=some r)(fl:FlP K μ H D r):
  ∃W:Nat->Nat->St->Hp->Prop,(∃m,W 0 m σ H) /\ ∀k m σ H,W k m σ H ->
   ((Itr lo n).stop k H/\D.nx σ H)\/((Itr lo n).go k H /\ ∃N:St->Hp->Prop,16#4 /\ ∀x H',(Itr lo n).yld k H x H'->iR i x σ H' λY7 H2=>tMS K b { D with nx:=N,ct:=N,bk:=D.nx } Y7 H2):=by
 refine Cu (λk Y6 H1=>∃Y0 S1 Y3,Pre μ Y0/\aU H H1/\HR K Y0 S1 H1/\ER H1 Y0 Y3 Y6/\qg i b ((aY lo n).drop k) Y3 S1=some r) ⟨μ,S,G,Pre.refl _,aU.refl _,hr,er,e⟩ ?_ ?_
 .rintro k Y6 H1 hk ⟨Y0,S1,Y3,p1,k1,Z',ZK,e1⟩
  have hu:(aY lo n)[k]?=some (.int (lo+k)):=by simp[aY,hk]
  rw[drop_cons hu]at e1;exact mv Z' (ZK.set eI i) e1 p1 k1 fl λY5 Y7 H2 Y8 S2 p2 k2 ZX YF e2=>⟨_,S2,_,p2,k2,ZX,YF,e2⟩
 .rintro Y6 H1 ⟨Y0,S1,Y3,p1,k1,Z',ZK,e1⟩
  have hl:(aY lo n).length=n:=by simp[aY]
  rw[List.drop_eq_nil_of_le 6#3]at e1;cases e1;exact fl _ _ H1 p1 k1 Z' ZK
theorem Ks{f:Nat}(hr:HR K μ S H)(er:ER H μ G σ)(e:forL i b n f 0 G S=some r)(fl:FlP K μ H D r)(ha:μ[n]?=some a):
  ∃W:Nat->Nat->St->Hp->Prop,(∃m,W 0 m σ H) /\ ∀k m σ H,W k m σ H ->
   ((Itl K a).stop k H/\D.nx σ H)\/((Itl K a).go k H /\ ∃N:St->Hp->Prop,16#4 /\ ∀x H',(Itl K a).yld k H x H'->iR i x σ H' λY7 H2=>tMS K b { D with nx:=N,ct:=N,bk:=D.nx } Y7 H2):=by
 refine⟨λk m Y6 H1=>∃Y0 S1 Y3,Pre μ Y0/\aU H H1/\HR K Y0 S1 H1/\ER H1 Y0 Y3 Y6/\forL i b n m k Y3 S1=some r,⟨f,μ,S,G,Pre.refl _,aU.refl _,hr,er,e⟩,?_⟩;rintro k m Y6 H1 ⟨Y0,S1,Y3,p1,k1,Z',ZK,e1⟩;cases m with
 |zero=>cases e1
 | succ m=>
   unfold forL at e1;cases q:getL S1 n with
   |none=>simp_all
   | some us=>
     rw[q]at e1;simp at e1;obtain⟨a',vs,Yu,hs,rs⟩:=Z'.sq q;rw[p1.get ha]at Yu;cases Yu;cases z:us[k]? with
     | none=>
       rw[z]at e1;cases e1;refine .inl ⟨⟨vs,hs,?_⟩,fl _ _ H1 p1 k1 Z' ZK⟩;rw[<-rs.len];simp_all
     | some u=>
       rw[z]at e1;obtain⟨v,hv,rv⟩:=rs.get z;refine .inr ⟨⟨vs,v,hs,hv⟩,_,λY1 H' w=>⟨m,dy _,w⟩,λx H' y=>?_⟩;obtain⟨e',y⟩:=y;subst e';have hx:=y vs hs;rw[hv]at hx;cases hx;exact mv Z' (ZK.set rv i) e1 p1 k1 fl λY5 Y7 H2 Y8 S2 p2 k2 ZX YF e2=>⟨_,S2,_,p2,k2,ZX,YF,e2⟩
theorem Jn{c:MT}(h:tMS K (Al c b) D σ H):EY (tMT K c) (tMS K b) D σ H:=by
 obtain⟨μ,S,G,r,hr,er,e,fl⟩:=h;refine⟨λm Y6 H1=>∃Y0 S1 Y3,Pre μ Y0/\aU H H1/\HR K Y0 S1 H1/\ER H1 Y0 Y3 Y6/\whl c b m Y3 S1=some r,⟨_,μ,S,G,Pre.refl _,aU.refl _,hr,er,e⟩,?_⟩;rintro m Y6 H1 ⟨Y0,S1,Y3,p1,k1,Z',ZK,e1⟩;cases m with
 |zero=>cases e1
 | succ m=>
   obtain⟨x,S2,e2,e1⟩:=aL e1;refine⟨_,S1,_,x,S2,Z',ZK,e2,λY5 H2 p2 k2 ZX=>?_⟩;cases x with
   | true=>
     refine sY ⟨_,λY1 H' w=>⟨m,dy _,w⟩,?_⟩;exact mv ZX (ZK.mono k2 p2) e1 8#7 9#1 fl λG' X4 H3 Z4 S3 p3 k3 Zy er3 e3=>⟨_,S3,_,p3,k3,Zy,er3,e3⟩
   | false=>
     have e':=e1;cases e';exact sj (fl _ _ H2 8#7 9#1 ZX (ZK.mono k2 p2))
end
end
section
variable {K:KX}{σ:St}{H:Hp}{Q:VK}{D:Ends}
variable{R:It->Hp->Prop}{S S1:Sto}{src:Src}
theorem JM{a:MA}(hr:HR K μ S H)(er:ER H μ G σ)(e:iR1 a G S=some (src,S1))
  (hR:∀Y0 H1 n,Pre μ Y0->aU H H1->HR K Y0 S1 H1->src=.imm (aY 0 n)->R (Itr 0 n) H1):yM 5#7 σ H R:=by
 obtain⟨xs,S2,e1,e⟩:=aL e
 split at e
 .rename_i j
  split at e
  .rename_i hj
   cases e;refine 14#7;obtain⟨v,r,rfl,rx,rn⟩:=rs.inv;rw[rn.nil_inv,dr rx];exact⟨j,rfl,hj.1,hj.2,hR _ H1 _ p1 k1 Z' rfl⟩
  .cases e
 .cases e
theorem JN{a:MA}(hr:HR K μ S H)(er:ER H μ G σ)(e:iR2 a G S=some (src,S1))
  (hR:∀Y0 H1 lo n,Pre μ Y0->aU H H1->HR K Y0 S1 H1->src=.imm (aY lo n)->R (Itr lo n) H1):zd 5#7 σ H R:=by
 obtain⟨xs,S2,e1,e⟩:=aL e
 split at e
 .rename_i i j
  split at e
  .rename_i hj
   cases e;refine 14#7;obtain⟨v,r,rfl,rx,rs⟩:=rs.inv;obtain⟨w,r,rfl,ry,rn⟩:=rs.inv;rw[rn.nil_inv,dr rx,dr ry];exact⟨i,j,rfl,⟨hj.1.1,hj.1.2,hj.2.1,hj.2.2⟩,hR _ H1 _ _ p1 k1 Z' rfl⟩
  .cases e
 .cases e
theorem Gr{a:ME}(hr:HR K μ S H)(er:ER H μ G σ)(e:fM a G S=some (src,S1))
  (hT:∀Y0 H1 us p vs,Pre μ Y0->aU H H1->HR K Y0 S1 H1->src=.imm us->H1 p=some (.tup vs)->RUs H1 Y0 us vs->R (Itt K p) H1)
  (hL:∀Y0 H1 n p,Pre μ Y0->aU H H1->HR K Y0 S1 H1->src=.mut n->Y0[n]?=some p->R (Itl K p) H1):ya K (tM K a) σ H R\/Ep K (tM K a) σ H R:=by
 obtain⟨x,S2,e1,e⟩:=aL e
 split at e
 .cases e
  refine .inr 21#2;obtain⟨p,vs,rfl,hp,r⟩:=fi rx;exact⟨p,rfl,⟨vs,.inl (.inl hp)⟩,hT _ H1 _ p vs p1 k1 Z' rfl hp r⟩
 .rename_i n
  cases q:getL S2 n with
  |none=>rw[q]at e;cases e
  | some ws=>
    rw[q]at e;cases e;refine .inl 21#2;obtain⟨p,rfl,hp⟩:=eW rx;obtain⟨p',ys,Zx,hs,r'⟩:=Z'.sq q;rw[hp]at Zx;cases Zx;exact⟨p,rfl,⟨ys,hs⟩,hL _ H1 n p p1 k1 Z' rfl hp⟩
 .cases e
variable{i:Nat}{b:MS}
theorem Ow{a:MA}(h:tMS K (fv i (iR1 a) b) D σ H):wz (yM 5#7) (iR i) (tMS K b) D σ H:=by
 obtain⟨μ,S,G,r,hr,er,e,fl⟩:=h;obtain⟨src,S1,e1,e⟩:=aL e;refine JM hr er e1 λY0 H1 n p1 k1 Z' hs=>?_;subst hs;exact FI Z' 9#0 e (fl.mono p1 k1)
theorem Pf{a:MA}(h:tMS K (fv i (iR2 a) b) D σ H):wz (zd 5#7) (iR i) (tMS K b) D σ H:=by
 obtain⟨μ,S,G,r,hr,er,e,fl⟩:=h;obtain⟨src,S1,e1,e⟩:=aL e;refine JN hr er e1 λY0 H1 lo n p1 k1 Z' hs=>?_;subst hs;exact FI Z' 9#0 e (fl.mono p1 k1)
theorem QG{a:ME}(h:tMS K (fv i (fM a) b) D σ H):wz (λσ H R=>ya K (tM K a) σ H R\/Ep K (tM K a) σ H R) (iR i) (tMS K b) D σ H:=by
 obtain⟨μ,S,G,r,hr,er,e,fl⟩:=h;obtain⟨src,S1,e1,e⟩:=aL e;refine Gr hr er e1 (λY0 H1 us p vs p1 k1 Z' hs hp rs=>?_) λY0 H1 n p p1 k1 Z' hs hp=>?_
 .subst hs
  exact LQ Z' 9#0 e (fl.mono p1 k1) hp rs
 .subst hs
  exact Ks Z' 9#0 e (fl.mono p1 k1) hp
theorem pO{t:MT}{e:ME}{G:Rho}:∀{us acc ys:List U}{S S':Sto},eB t e G us acc S=some (ys,S')->acc.length<=2#9
 |[],acc,ys,S,S',h=>by cases h<;>simp_all
 | x::us,acc,ys,S,S',h=>by
   obtain⟨k,S1,e1,h⟩:=aL h;cases k with
   | true=>
     obtain⟨y,S2,e2,h⟩:=aL (show bnd _ (λy S2=>eB t e G us (acc++[y]) S2)=some _ from h);have:=pO h;simp at this;exact aM 1#1
   |false=>exact pO (h)
theorem pX{t:MT}{e:ME}{G:Rho}{n:Nat}:∀{f i:Nat}{acc ys:List U}{S S':Sto},nc t e G n f i acc S=some (ys,S')->acc.length<=2#9
 |0,i,acc,ys,S,S',h=>by cases h
 | f+1,i,acc,ys,S,S',h=>by
   unfold nc at h;cases q:getL S n with
   |none=>rw[q]at h;cases h
   | some us=>
     rw[q]at h;simp at h;cases z:us[i]? with
     |none=>simp_all
     | some x=>
       rw[z]at h;obtain⟨k,S1,e1,h⟩:=aL h;cases k with
       | true=>
         obtain⟨y,S2,e2,h⟩:=aL (show bnd _ (λy S2=>nc t e G n f _ (acc++[y]) S2)=some _ from h);have:=pX h;simp at this;exact aM 1#1
       |false=>exact pX (h)
def yL(J:It)(σ:St)(tt:TT)(te:TE)(H1:Hp)(Q:VK):Prop:= ∃W:Nat->Nat->List V->Hp->Prop,(∃m,W 0 m [] H1) /\ ∀i m ys H,W i m ys H->2#9<sizeLine /\
 (18#1 \/
  (J.go i H /\ ∀x H',J.yld i H x H'->tt (σ++[some x]) H' λb H3=>if b=true then te (σ++[some x]) H3 λy H4 =>∃m',m'<m/\W (i+1) m' (ys++[y]) H4 else ∃m',m'<m/\W (i+1) m' ys H3))
variable{e:ME}{ys:List U}
theorem pU{t:MT}{Y4:Rho}{Y1:St}{au:List U}{acc:List V}{next:List U->Sto->Res (List U)}(W:List V->Hp->Prop)(Z':HR K Y0 S1 H1)(ZK:ER H1 Y0 Y4 Y1)(ra:RUs H1 Y0 au acc)
  (e1:bnd (t Y4 S1) (λk S2=>if k then bnd (e Y4 S2) λy S3=>next (au++[y]) S3 else next au S2)=some (ys,S'))
  (hW:∀Y5 S2 au2 XY H2,Pre Y0 Y5->aU H1 H2->HR K Y5 S2 H2->RUs H2 Y5 au2 XY->next au2 S2=some (ys,S')->W XY H2):
  tMT K t Y1 H1 λb H3=>if b=true then tM K e Y1 H3 λy H4=>W (acc++[y]) H4 else W acc H3:=by
 obtain⟨b,S2,e2,e1⟩:=aL e1;refine⟨_,S1,_,b,S2,Z',ZK,e2,λY5 H2 p2 k2 ZX=>?_⟩;have Xf:=RUs.mono k2 p2 _ _ ra;cases b with
 | true=>
   obtain⟨y',S3,e3,e1⟩:=aL (show bnd _ (λy S2=>next (au++[y]) S2)=some _ from e1);exact sY ⟨_,S2,_,y',S3,ZX,ZK.mono k2 p2,e3,λG' v3 H3 p3 k3 Zy Ws=>hW _ S3 _ _ H3 (p2.trans p3) (k2.trans k3) Zy ((RUs.mono k3 p3 _ _ Xf).append (.cons Ws .nil)) e1⟩
 |false=>exact sj (hW _ S2 _ _ H2 p2 k2 ZX Xf e1)
variable{us:List U}
theorem tH{J:It}{t:MT}(hr:HR K μ S H)(er:ER H μ G σ)(h:eB t e G us [] S=some (ys,S'))(hz:2#9<big)(k:Aft K μ H 8#9 (S'++[.lst ys]) Q)
  (Vq:∀H',aU H H'->J.stop us.length H') (hgo:∀(i:Nat) H',i<0#9->aU H H'->J.go i H')
  (hy:∀(i:Nat) H' x Xl (u:U),us[i]?=some u->aU H H'->J.yld i H' x Xl->Xl=H'/\RU H μ u x):yL J σ (tMT K t) (tM K e) H Q:=by
 have WU:2#9<sizeLine:=by exact hz
 refine⟨λi m acc H1=>m=0#9-i/\i<=0#9 /\ ∃Y0 S1 au,Pre μ Y0/\aU H H1/\HR K Y0 S1 H1/\RUs H1 Y0 au acc/\eB t e G (us.drop i) au S1=some _,⟨_,rfl,ee _,μ,S,[],Pre.refl _,aU.refl _,hr,.nil,h⟩,?_⟩;rintro i m acc H1 ⟨rfl,hi,Y0,S1,au,p1,k1,Z',ra,e1⟩;have hl:=pO e1;have YU:=ra.len;refine⟨by omega,?_⟩;by_cases ZR:i<0#9
 .have hu:us[i]?=some us[i]:=by simp
  rw[drop_cons hu]at e1;refine .inr ⟨hgo i H1 ZR k1,λx H' y=>?_⟩;obtain⟨rfl,rx⟩:=hy i H1 x H' _ hu k1 y;have ZK:=(er.mono k1 p1).push (RU.mono k1 p1 _ _ rx);exact pU (λacc H1=>∃m',m'<0#9-i/\m'=0#9-(i+1)/\i+1<=0#9 /\ ∃Y0 S1 au,Pre μ Y0/\aU H H1/\HR K Y0 S1 H1/\RUs H1 Y0 au _/\eB t e G _ au S1=some _) Z' ZK ra e1 λY5 S2 au2 XY H2 p2 k2 ZX Xf q=>⟨_,by omega,rfl,ZR,_,S2,_,p1.trans p2,k1.trans k2,ZX,Xf,q⟩
 .have e:i=0#9:=by omega
  subst e;rw[i5]at e1;cases e1;exact .inl ⟨Vq H1 k1,λD hD=>ix 10#2 Z' ra hD⟩
theorem Fv{t:MT}{f:Nat}(hr:HR K μ S H)(er:ER H μ G σ)(h:nc t e G n f 0 [] S=some (ys,S'))(hz:2#9<big)(k:Aft K μ H 8#9 (S'++[.lst ys]) Q)
  (hp:μ[n]?=some p):yL (Itl K p) σ (tMT K t) (tM K e) H Q:=by
 have WU:2#9<sizeLine:=by exact hz
 refine⟨λi m acc H1=>∃Y0 S1 au,Pre μ Y0/\aU H H1/\HR K Y0 S1 H1/\RUs H1 Y0 au acc/\nc t e G n m i au S1=some _,⟨f,μ,S,[],Pre.refl _,aU.refl _,hr,.nil,h⟩,?_⟩;rintro i m acc H1 ⟨Y0,S1,au,p1,k1,Z',ra,e1⟩;have hl:=pX e1;have YU:=ra.len;refine⟨by omega,?_⟩;cases m with
 |zero=>cases e1
 | succ m=>
   unfold nc at e1;cases q:getL S1 n with
   |none=>simp_all
   | some us=>
     rw[q]at e1;simp at e1;obtain⟨a',vs,Yu,hs,rs⟩:=Z'.sq q;rw[p1.get hp]at Yu;cases Yu;cases z:us[i]? with
     | none=>
       rw[z]at e1;cases e1;exact .inl ⟨⟨vs,hs,by rw[<-rs.len];simp_all⟩,λD hD=>ix 10#2 Z' ra hD⟩
     | some u=>
       rw[z]at e1;obtain⟨v,hv,rv⟩:=rs.get z;refine .inr ⟨⟨vs,v,hs,hv⟩,λx H' y=>?_⟩;obtain⟨e',y⟩:=y;subst e';have hx:=y vs hs;rw[hv]at hx;cases hx;exact pU (λacc H1=>∃m',m'<m+1 /\ ∃Y0 S1 au,Pre μ Y0/\aU H H1/\HR K Y0 S1 H1/\RUs H1 Y0 au _/\nc t e G n m' _ au S1=some _) Z' ((er.mono k1 p1).push rv) ra e1 λY5 S2 au2 XY H2 p2 k2 ZX Xf q=>⟨m,dy _,_,S2,_,p1.trans p2,k1.trans k2,ZX,Xf,q⟩
theorem yW{lo:Int}{t:MT}(hr:HR K μ S H)(er:ER H μ G σ)(h:eB t e G (aY lo n) [] S=some (ys,S'))(hz:2#9<big)(k:Aft K μ H 8#9 (S'++[.lst ys]) Q):
  yL (Itr lo n) σ (tMT K t) (tM K e) H Q:=by
 have hl:(aY lo n).length=n:=by simp[aY]
 refine tH hr er h hz k (λH' _=>by rw[hl];exact aq _) (λi H' hi _=>by rw[hl]at hi;exact hi) λi H' x Xl u hu _ y=>?_;obtain⟨rfl,rfl⟩:=y;have hi:i<n:=by rw[<-hl];exact(ah.mp hu).1
 have e2:(aY lo n)[i]?=some (.int (lo+i)):=by simp[aY,hi]
 rw[e2]at hu;cases hu;exact⟨rfl,eI⟩
theorem DE{vs:List V}{t:MT}(hr:HR K μ S H)(er:ER H μ G σ)(h:eB t e G us [] S=some (ys,S'))(hz:2#9<big)(k:Aft K μ H 8#9 (S'++[.lst ys]) Q)
  (hp:H p=some (.tup vs)) (rs:RUs H μ us vs):yL (Itt K p) σ (tMT K t) (tM K e) H Q:=by
 refine tH hr er h hz k (λH' kp=>⟨vs,.inl (.inl (kp p vs hp)),by rw[rs.len]<;>simp_all⟩) (λi H' hi kp=>?_) λi H' x Xl u hu kp y=>?_
 .have XA:i<2#6:=by rw[<-rs.len];omega
  exact⟨vs,vs[i],.inl (.inl (kp p vs hp)),by simp⟩
 .obtain⟨rfl,y⟩:=y
  obtain⟨v,hv,rv⟩:=rs.get hu;have:=y vs (.inl (.inl (kp p vs hp)))
  grind
theorem NU{a:MA}{t:MT}(h:tM K (dc (iR1 a) t e) σ H Q):oB (yM 5#7) (tMT K t) (tM K e) σ H Q:=by
 obtain⟨μ,S,G,u,S',hr,er,e0,k⟩:=h;obtain⟨src,S1,e1,e0⟩:=aL e0;obtain⟨ys,S2,e2,e0⟩:=aL e0
 split at e0
 .rename_i hz
  cases e0;refine JM hr er e1 λY0 H1 n p1 k1 Z' hs=>?_;subst hs;exact yW Z' 9#0 e2 hz 10#2
 .cases e0
theorem OU{a:MA}{t:MT}(h:tM K (dc (iR2 a) t e) σ H Q):oB (zd 5#7) (tMT K t) (tM K e) σ H Q:=by
 obtain⟨μ,S,G,u,S',hr,er,e0,k⟩:=h;obtain⟨src,S1,e1,e0⟩:=aL e0;obtain⟨ys,S2,e2,e0⟩:=aL e0
 split at e0
 .rename_i hz
  cases e0;refine JN hr er e1 λY0 H1 lo n p1 k1 Z' hs=>?_;subst hs;exact yW Z' 9#0 e2 hz 10#2
 .cases e0
theorem QR{a:ME}{t:MT}(h:tM K (dc (fM a) t e) σ H Q):oB (λσ H R=>ya K (tM K a) σ H R\/Ep K (tM K a) σ H R) (tMT K t) (tM K e) σ H Q:=by
 obtain⟨μ,S,G,u,S',hr,er,e0,k⟩:=h;obtain⟨src,S1,e1,e0⟩:=aL e0;obtain⟨ys,S2,e2,e0⟩:=aL e0
 split at e0
 .rename_i hz
  cases e0;refine Gr hr er e1 (λY0 H1 us p vs p1 k1 Z' hs hp rs=>?_) λY0 H1 n p p1 k1 Z' hs hp=>?_
  .subst hs
   exact DE Z' 9#0 e2 hz 10#2 hp rs
  .subst hs
   exact Fv Z' 9#0 e2 hz 10#2 hp
 .cases e0
end
section
variable {K:KX}{σ:St}{H:Hp}{Q:VK}{D:Ends}
theorem RUs.revs{H:Hp}{μ:List Addr}:∀{us:List U}{vs:List V},RUs H μ us vs->RUs H μ us.reverse vs.reverse
 |[],vs,r=>by rw[r.nil_inv];exact .nil
 | u::us,vs,r=>by
   obtain⟨v,vs,rfl,a,b⟩:=r.inv;rw[dW,dW];exact(RUs.revs b).append (.cons a .nil)
variable{S:Sto}
theorem En{a:MA}{R:It->Hp->Prop}{S1:Sto}{src:Src}(hr:HR K μ S H)(er:ER H μ G σ)(e:yG a G S=some (src,S1))
  (hR:∀Y0 H1 us p vs,Pre μ Y0->aU H H1->HR K Y0 S1 H1->src=.imm us.reverse->H1 p=some (.tup vs)->RUs H1 Y0 us vs->R (Itv K p 2#6) H1):ye K 5#7 σ H R:=by
 obtain⟨xs,S2,e1,e⟩:=aL e
 split at e
 .rename_i us
  cases e;refine 14#7;obtain⟨v,r,rfl,rx,rn⟩:=rs.inv;rw[rn.nil_inv];obtain⟨p,vs,rfl,hp,r⟩:=fi rx;exact⟨p,vs,rfl,.inl (.inl hp),hR Y0 H1 _ p vs p1 k1 Z' rfl hp r⟩
 .cases e
variable{us:List U}{vs:List V}
theorem EA{t:MT}{e:ME}{ys:List U}(hr:HR K μ S H)(er:ER H μ G σ)(h:eB t e G us.reverse [] S=some (ys,S'))(hz:2#9<big)(k:Aft K μ H 8#9 (S'++[.lst ys]) Q)
  (hp:H p=some (.tup vs)) (rs:RUs H μ us vs):yL (Itv K p 2#6) σ (tMT K t) (tM K e) H Q:=by
 have rr:=rs.revs;have hl:=rr.len;refine tH hr er h hz k (λH' kp=>⟨vs,.inl (.inl (kp p vs hp)),rfl,by rw[hl,d4];exact aq _⟩) (λi H' hi kp=>?_) λi H' x Xl u hu kp y=>?_
 .have XA:i<vs.reverse.length:=by rw[<-hl];exact hi
  exact⟨vs,vs.reverse[i],.inl (.inl (kp p vs hp)),rfl,bo XA⟩
 .obtain⟨rfl,y⟩:=y
  obtain⟨v,hv,rv⟩:=rr.get hu;have:=y vs (.inl (.inl (kp p vs hp)));rw[hv]at this;cases this;exact⟨rfl,rv⟩
theorem Mw{a:MA}{t:MT}{e:ME}(h:tM K (dc (yG a) t e) σ H Q):oB (ye K 5#7) (tMT K t) (tM K e) σ H Q:=by
 obtain⟨μ,S,G,u,S',hr,er,e0,k⟩:=h;obtain⟨src,S1,e1,e0⟩:=aL e0;obtain⟨ys,S2,e2,e0⟩:=aL e0
 split at e0
 .rename_i hz
  cases e0;refine En hr er e1 λY0 H1 us p vs p1 k1 Z' hs hp rs=>?_;subst hs;exact EA Z' 9#0 e2 hz 10#2 hp rs
 .cases e0
variable{i:Nat}
theorem Eb{b:MS}{r:Fl×Rho×Sto}(hr:HR K μ S H)(er:ER H μ G σ)(e:qg i b us.reverse G S=some r)(fl:FlP K μ H D r)(ha:H a=some (.tup vs))(ru:RUs H μ us vs):
  ∃W:Nat->Nat->St->Hp->Prop,(∃m,W 0 m σ H) /\ ∀k m σ H,W k m σ H ->
   ((Itv K a 2#6).stop k H/\D.nx σ H)\/((Itv K a 2#6).go k H /\ ∃N:St->Hp->Prop,16#4 /\ ∀x H',(Itv K a 2#6).yld k H x H'->iR i x σ H' λY7 H2=>tMS K b { D with nx:=N,ct:=N,bk:=D.nx } Y7 H2):=by
 have rr:=ru.revs;refine⟨λk m Y6 H1=>m+k=us.reverse.length /\ ∃Y0 S1 Y3,Pre μ Y0/\aU H H1/\HR K Y0 S1 H1/\ER H1 Y0 Y3 Y6/\qg i b (us.reverse.drop k) Y3 S1=some r,⟨us.reverse.length,rfl,μ,S,G,Pre.refl _,aU.refl _,hr,er,e⟩,?_⟩;rintro k m Y6 H1 ⟨hm,Y0,S1,Y3,p1,k1,Z',ZK,e1⟩;have hq:SqT K H1 a vs:= .inl (.inl (k1 a vs ha));cases m with
 | zero=>
   have hk:k=us.reverse.length:=by omega
   subst hk;rw[i5]at e1;cases e1;exact .inl ⟨⟨vs,hq,rfl,by rw[rr.len,d4];exact aq _⟩,fl Y0 Y6 H1 p1 k1 Z' ZK⟩
 | succ m=>
   have hk:k<us.reverse.length:=by omega
   have hu:us.reverse[k]?=some us.reverse[k]:=bo hk;obtain⟨v,hv,rv⟩:=rr.get hu;rw[drop_cons hu]at e1;refine .inr ⟨⟨vs,v,hq,rfl,hv⟩,λY7 H2=>∃Y5 S2 Y8,Pre μ Y5/\aU H H2/\HR K Y5 S2 H2/\ER H2 Y5 Y8 Y7/\qg i b (us.reverse.drop (k+1)) Y8 S2=some r,λY1 H' w=>⟨m,dy _,by omega,w⟩,λx H' y=>?_⟩;obtain⟨e',y⟩:=y;subst e';have hx:=y vs hq;rw[hv]at hx;cases hx;exact mv Z' (ZK.set (RU.mono k1 p1 _ _ rv) i) e1 p1 k1 fl λY5 Y7 H2 Y8 S2 p2 k2 ZX YF e2=>⟨Y5,S2,Y8,p2,k2,ZX,YF,e2⟩
theorem Ls{a:MA}{b:MS}(h:tMS K (fv i (yG a) b) D σ H):wz (ye K 5#7) (iR i) (tMS K b) D σ H:=by
 obtain⟨μ,S,G,r,hr,er,e,fl⟩:=h;obtain⟨src,S1,e1,e⟩:=aL e;refine En hr er e1 λY0 H1 us p vs p1 k1 Z' hs hp rs=>?_;subst hs;exact Eb Z' 9#0 e (fl.mono p1 k1) hp rs
end
variable{X:Cx}{e:Expr}
theorem PE.con{t t':TE}(h:PE X e t)(hm:∀σ H Q,t' σ H Q->t σ H Q):PE X e t':=λpins s σ H Q I q=>h _ s σ H Q I (hm σ H Q q)
variable{t':TT}
theorem PT.con{t:TT}(h:PT X e t)(hm:∀σ H Q,t' σ H Q->t σ H Q):PT X e t':=λpins s σ H Q I q=>h _ s σ H Q I (hm σ H Q q)
theorem PW.con{t:TT}(h:PW X e t)(hm:∀σ H Q,t' σ H Q->t σ H Q):PW X e t':=λwh pins s σ H Q I q=>h wh _ s σ H Q I (hm σ H Q q)
theorem PA.con{e:List Expr}{t t':TA}(h:PA X e t)(hm:∀σ H Q,t' σ H Q->t σ H Q):PA X e t':=λpos pins s σ H Q I q=>h _ _ s σ H Q I (hm σ H Q q)
theorem PS.con{e:Stmt}{t t':TS}(h:PS X e t)(hm:∀D σ H,t' D σ H->t D σ H):PS X e t':=λpins s σ H D I q=>h _ s σ H D I (hm D σ H q)
theorem PSs.con{e:List Stmt}{t t':TS}(h:PSs X e t)(hm:∀D σ H,t' D σ H->t D σ H):PSs X e t':=λpins s σ H D I q=>h _ s σ H D I (hm D σ H q)
theorem PTs.con{e:List Expr}{t:TT}(h:PTs X e t)(hm:∀σ H Q,t' σ H Q->t σ H Q):PTs X e t':=λpins s σ H Q I q=>h _ s σ H Q I (hm σ H Q q)
variable{tg:Expr}
theorem PI.or{it:Expr}{w1 w2:TI}(h1:PI X tg it w1)(h2:PI X tg it w2):PI X tg it (λσ H R=>w1 σ H R\/w2 σ H R):=λpins s σ H R I q=>by
 rcases q with q|q
 .exact h1 _ s σ H R I q
 .exact h2 _ s σ H R I q
structure Mo where
 P:Program
 w:World
 K:KX
 mg:Str->Option Value
 base:Heap
 mkr:Option (Addr×Str)
def kz(ns:List 6#4)(x:Str):Bool:=match ns.lookup x with
 |some .local=>true
 |some .cell=>true
 |some .free=>true
 |_=>false
def kq(ns:List 6#4)(x:Str):Bool:=match ns.lookup x with
 |some .local=>true
 |some .cell=>true
 |_=>false
def dg(ns:List 6#4)(x:Str):Bool:=match ns.lookup x with
 |some .globalImplicit=>true
 |_=>false
structure Sc(M:Mo)(X:Cx)(k:Nat)(N:List Str)(ns:List (Str×NameKind)):Prop where
 hP:X.prog=M.P
 hw:X.w=M.w
 hK:X.K=M.K
 hm:X.mg=M.mg
 hb:X.base=M.base
 hN:X.N=N
 nd:N.Nodup
 calm:X.calm=true
 loc:∀y,ns.lookup y=some .local->X.env.scope.names.lookup y=some .local
 cel:∀y,ns.lookup y=some .cell->X.env.scope.names.lookup y=some .cell/\X.fn y=true
 fre:∀y,ns.lookup y=some .free->X.env.scope.names.lookup y=some .cell\/X.env.scope.names.lookup y=some .free
 glo:∀y,ns.lookup y=some .globalImplicit->X.env.scope.names.lookup y=some .globalImplicit
 room:j8 k X.A
 own:PassesOwn (model X.prog X.w) X.A X.env X.xe
 cod:∀c q,M.mkr=some (c,q)->X.env.code=.ref c/\X.env.qual=q
section
variable {M:Mo}{X:Cx}{k:Nat}{N:List Str}{ns:List (Str×NameKind)}
theorem Sc.vis(S:Sc M X k N ns){x:Str}(h:kz ns x=true):Vis X.env.scope x:=by
 unfold kz at h
 split at h
 .rename_i e;exact .inl (S.loc x e)
 .rename_i e;exact .inr (.inl (S.cel x e).1)
 .rename_i e;exact .inr (S.fre x e)
 grind
theorem Sc.lo(S:Sc M X k N ns){x:Str}(h:kq ns x=true):Loc X.env.scope x/\16#8:=by
 unfold kq at h
 split at h
 .rename_i e;exact⟨.inl (S.loc x e),.inr (S.loc x e)⟩
 .rename_i e;exact⟨.inr (S.cel x e).1,.inl (S.cel x e).2⟩
 grind
theorem Sc.gl(S:Sc M X k N ns){x:Str}(h:dg ns x=true):Gl X x:=by
 unfold dg at h
 split at h
 .rename_i e;exact S.glo x e
 grind
variable {a b c e:Expr}{es:List Expr}{ma mb mc:ME}{mt:MT}{mas:MA}{pos p1 p2:Pos}{x:Str}
theorem BB(S:Sc M X k N ns)(i:Nat)(hi:N[i]?=some x)(hv:kz ns x=true)(hd:7#4=false)(ZF:17#3=false):PE X (.Name x pos) (tM M.K (ae i)):=
 PE.con (rO (by rw[S.hN];omega) (S.vis hv) hd ZF) λ_ _ _ h=>OZ h
theorem Og{i:Int}{j}:PE X (.Constant (.int i) j pos) (tM M.K (mC (.int i))):=PE.con E9 λ_ _ _ h=>r_c (λ_ _=>eI) h
theorem Qq{i:Bool}{j}:PE X (.Constant (.bool i) j pos) (tM M.K (mC (.bl i))):=PE.con MZ λ_ _ _ h=>r_c (λ_ _=>kP) h
theorem El{j}:PE X (.Constant .none j pos) (tM M.K (mC .non)):=PE.con Mz λ_ _ _ h=>r_c (λ_ _=>lB) h
theorem LM{g:Value}(S:Sc M X k N ns)(hg:dg ns x=true)(hm:M.mg x=some g)(r:RelV v g)(hv :∀ H μ,RU H μ u v)(hd:7#4=false):PE X (.Name x pos) (tM M.K (mC u)):=
 PE.con (IS 3#8 5#3 r hd) λ_ _ _ h=>r_c hv h
theorem JR(S:Sc M X k N ns)(ha:PE X a 3#0)(hb:PE X b 7#0):PE X (.BinOp a .Add b pos) (tM M.K (m2 bR ma mb)):=
 PE.con (ve (KO.or (OpR.or (S.hK▸H9) (OpR.or (S.hK▸Il) KH))) ha hb) λ_ _ _ h=>wM MO h
theorem OE(ha:PE X a 3#0)(hb:PE X b 7#0):PE X (.BinOp a .Sub b pos) (tM M.K (m2 qo ma mb)):=PE.con (ve Lr ha hb) λ_ _ _ h=>wM Mg h
theorem NV(S:Sc M X k N ns)(ha:PE X a 3#0)(hb:PE X b 7#0):PE X (.BinOp a .Mult b pos) (tM M.K (m2 d7 ma mb)):=PE.con (ve LK ha hb) λ_ _ _ h=>wM Li h
theorem On(ha:PE X a 3#0)(hb:PE X b 7#0):PE X (.BinOp a .FloorDiv b pos) (tM M.K (m2 oDiv ma mb)):=PE.con (ve Iz ha hb) λ_ _ _ h=>wM LO h
theorem M8(ha:PE X a 3#0)(hb:PE X b 7#0):PE X (.BinOp a .Mod b pos) (tM M.K (m2 oMod ma mb)):=PE.con (ve MD ha hb) λ_ _ _ h=>wM Mi h
theorem Pu(ha:PE X a 3#0)(hb:PE X b 7#0):PE X (.BinOp a .Pow b pos) (tM M.K (m2 wa ma mb)):=PE.con (ve K2 ha hb) λ_ _ _ h=>wM ML h
theorem Ot(ha:PE X a 3#0):PE X (.UnaryOp .USub a pos) (tM M.K (m1 mQ ma)):=PE.con (JX Ds ha) λ_ _ _ h=>QE Kk h
theorem QT(S:Sc M X k N ns)(ha:PE X a 3#0)(hb:PE X b 7#0)(hs:xj b):PE X (.Subscript a b pos) (tM M.K (m2 oIx ma mb)):=
 PE.con (JV (IxR.or (S.hK▸K5) (KE (by have:=S.room.units;omega))) ha hb hs) λ_ _ _ h=>wM OF h
theorem Pw(hc:PT X c 5#9)(ha:PE X a 3#0)(hb:PE X b 7#0):PE X (.IfExp c a b pos) (tM M.K (z9 mt ma mb)):=PE.con (FS hc ha hb) λ_ _ _ h=>Pp h
theorem zr:PA X [] (tMA M.K ai):=PA.con vW λ_ _ _ h=>Nm h
theorem kG(ha:PE X a 3#0)(hr:PA X es 2#8)(hs:autoParam (starEach (a::es) X.env=13#1::starEach es X.env) 1#7):PA X (a::es) (tMA M.K (aa ma mas)):=
 PA.con (jt ha hr hs) λ_ _ _ h=>KF h
theorem OJ{x1}(h:PA X es 2#8):PE X (.Tuple es x1 pos) (tM M.K (eA mas)):=PE.con (LL h) λ_ _ _ h=>Po h
theorem Ga(h:PA X es 2#8):PE X (.List es pos) (tM M.K (cq mas)):=PE.con (Ki h) λ_ _ _ h=>NK h
variable{V3:MT}
theorem Px(ha:PT X a 5#9)(hb:PW X (.BoolOp .And (b::es) pos) (tMT M.K V3)):PW X (.BoolOp .And (a::b::es) pos) (tMT M.K (yB mt V3)):=PW.con (Ky ha hb) λ_ _ _ h=>PB h
theorem Qu(ha:PT X a 5#9)(hb:PW X (.BoolOp .Or (b::es) pos) (tMT M.K V3)):PW X (.BoolOp .Or (a::b::es) pos) (tMT M.K (cOr mt V3)):=PW.con (OV ha hb) λ_ _ _ h=>QF h
theorem KN(ha:PT X a 5#9):PW X (.BoolOp .And [a] pos) 5#9:=IT ha
theorem Pa(ha:PT X a 5#9):PW X (.BoolOp .Or [a] pos) 5#9:=KC ha
theorem JA(ha:PT X a 5#9):PT X (.UnaryOp .Not a pos) (tMT M.K (eE mt)):=PT.con (Mu ha) λ_ _ _ h=>Oz h
theorem Jr(ha:PE X a 3#0)(he:autoParam (∀whole,isTrue a X.env whole=(do let v <- whole;standAt a.pos;holding [v] (truthy v))) au3._auto_1):PT X a (tMT M.K (cOf ma)):=PT.con (LA ha he) λ_ _ _ h=>Qx (λ_ q=>q) h
theorem EB(S:Sc M X k N ns)(hg:dg ns "len"=true)(hm:M.mg "len"=none)(ha:PA X 1#9 2#8)(he:autoParam 9#5 1#7)(ZM:autoParam 12#1 1#7) :
  PE X (.Call (.Name "len" p1) 1#9 [] pos) (tM M.K (mFn cw mas)):=
 PE.con (i8 (gp.or (S.hK▸xk) Ca) 3#8 5#3 PySem.boot_len ha 0#1 0#1 he ZM) λ_ _ _ h=>wK MR h
theorem HB(S:Sc M X k N ns)(hg:dg ns "tuple"=true)(hm:M.mg "tuple"=none)(ha:PA X 1#9 2#8)(he:autoParam 9#5 1#7)(ZM:autoParam 12#1 1#7) :
  PE X (.Call (.Name "tuple" p1) 1#9 [] pos) (tM M.K (mFn bO mas)):=
 PE.con (mq (S.hK▸uG) 3#8 5#3 uQ ha 0#1 0#1 he ZM) λ_ _ _ h=>wK Fi h
theorem PV(S:Sc M X k N ns)(hg:dg ns "max"=true)(hm:M.mg "max"=none)(ha:PA X 1#9 2#8)(he:autoParam 9#5 1#7)(ZM:autoParam 12#1 1#7) :
  PE X (.Call (.Name "max" p1) 1#9 [] pos) (tM M.K (mFn zt mas)):=
 PE.con (i8 (CB S.calm) 3#8 5#3 PyProof.Rows.boot_max ha 0#1 0#1 he ZM) λ_ _ _ h=>wK Ma h
theorem O5(S:Sc M X k N ns)(hg:dg ns "min"=true)(hm:M.mg "min"=none)(ha:PA X 1#9 2#8)(he:autoParam 9#5 1#7)(ZM:autoParam 12#1 1#7) :
  PE X (.Call (.Name "min" p1) 1#9 [] pos) (tM M.K (mFn yQ mas)):=
 PE.con (i8 (S.hK▸CF S.calm (by have:=S.room.units;omega)) 3#8 5#3 PyProof.Rows.boot_min ha 0#1 0#1 he ZM) λ_ _ _ h=>wK Kd h
structure Fn(M:Mo)(x:Str)(k:Nat)(ps:List Str)(m:MF):Prop where
 ex:∃(f:Addr) (fd:FuncData),M.mg x=some (.ref f)/\cy M.K (.ref f)=true/\Binds M.K fd ps []/\FnOk M.P M.w M.K M.mg M.base CX0 k f fd ps (spM M.K m)
variable{mf:MF}{ps:List Str}{k':Nat}
theorem Mn (S:Sc M X k N ns)(F:Fn M x k' ps mf)(hk:k'<=k)(hg:dg ns x=true)(ha:PA X 1#9 2#8)(hd:7#4=false)(he:autoParam 9#5 1#7)(ZM:autoParam 12#1 1#7) :
  PE X (.Call 10#5 1#9 [] pos) (tM M.K (mFn mf mas)):=by
 obtain⟨f,fd,hm,Zo,hb,F⟩:=F.ex;rw[<-S.hP,<-S.hw,<-S.hK,<-S.hm,<-S.hb]at F;rw[<-S.hm]at hm;rw[<-S.hK]at Zo hb;exact PE.con (w9 F 11#3 3#8 hm Zo hb .nil rS ha hd he ZM) λ_ _ _ h=>E7 h
theorem IA (S:Sc M X k N ns)(F:Fn M x k' ps mf)(hk:k'<=k)(hg:dg ns x=true)(hd:7#4=false) :
  PE X (.Call 10#5 [] [] pos) (tM M.K (mFn mf ai)):=by
 obtain⟨f,fd,hm,Zo,hb,F⟩:=F.ex;rw[<-S.hP,<-S.hw,<-S.hK,<-S.hm,<-S.hb]at F;rw[<-S.hm]at hm;rw[<-S.hK]at Zo hb;refine PE.con (ET F 11#3 3#8 hm Zo hb .nil rS hd) λσ H Q h=>?_;obtain⟨μ,S,G,u,S',hr,er,e,kk⟩:=h;exact⟨μ,S,[],u,S',hr,.nil,e,kk⟩
theorem rQ(S:Sc M X k N ns)(ho:PE X a 3#0)(ha:PA X 1#9 2#8)(Zs:autoParam (attributeBase a "append" X.env (eval a X.env)=eval a X.env) 1#7)
  (YD:autoParam (((backTo pos (starEach 1#9 X.env)).all (λx => !x.1)&&(backToKw pos (keywordEach [] X.env)).all (λx=>x.1.isSome)
   && decide ((e::es).length+([]:List Keyword).length+(if ([]:List Keyword).isEmpty then 0 else 1)<30))=true) au1._auto_1)
  (hline:autoParam ((p1.endLine==pos.line)=true) 1#7) (hs:autoParam 9#5 1#7) (ZM:autoParam 12#1 1#7):
  PE X (.Call (.Attribute a "append" p1) 1#9 [] pos) (tM M.K (mML bV ma mas)):=by
 exact PE.con (Bl gZ zA zB B0 ho ha Zs YD hline hs ZM) λ_ _ _ h=>S.hK▸Ke Cm h
theorem HA(S:Sc M X k N ns)(ho:PE X a 3#0)(ha:PA X 1#9 2#8)(Zs:autoParam (attributeBase a "pop" X.env (eval a X.env)=eval a X.env) 1#7)
  (YD:autoParam (((backTo pos (starEach 1#9 X.env)).all (λx => !x.1)&&(backToKw pos (keywordEach [] X.env)).all (λx=>x.1.isSome)
   && decide ((e::es).length+([]:List Keyword).length+(if ([]:List Keyword).isEmpty then 0 else 1)<30))=true) au1._auto_1)
  (hline:autoParam ((p1.endLine==pos.line)=true) 1#7) (hs:autoParam 9#5 1#7) (ZM:autoParam 12#1 1#7):
  PE X (.Call (.Attribute a "pop" p1) 1#9 [] pos) (tM M.K (mML nR ma mas)):=by
 exact PE.con (Bl gZ PySem.F.slot_list_pop PySem.F.type_list_pop DR ho ha Zs YD hline hs ZM) λ_ _ _ h=>S.hK▸Ke Eo h
theorem Nh (S:Sc M X k N ns)(hg:dg ns "range"=true)(hm:M.mg "range"=none)(ha:PA X [a] 2#8)(hs:autoParam 15#4 1#7):PI X tg (.Call (.Name "range" p1) [a] [] pos) (yM 2#8):=
 CT 3#8 5#3 ha hs
theorem M3 (S:Sc M X k N ns)(hg:dg ns "range"=true)(hm:M.mg "range"=none)(ha:PA X [a,b] 2#8)(hs:autoParam (starEach [a,b] X.env=[13#1,14#0]) 1#7)(ZE:autoParam (starEach [b] X.env=[14#0]) 1#7):PI X tg (.Call (.Name "range" p1) [a,b] [] pos) (zd 2#8):=
 CG 3#8 5#3 ha hs ZE
theorem KR (S:Sc M X k N ns)(hg:dg ns "reversed"=true)(hm:M.mg "reversed"=none)(ha:PA X [a] 2#8)(hs:autoParam 15#4 1#7):PI X tg (.Call (.Name "reversed" p1) [a] [] pos) (ye M.K 2#8):=
 S.hK▸L5 3#8 (by rw[S.hm];exact hm) ha hs
theorem QB(S:Sc M X k N ns)(ha:PE X a 3#0):PI X tg a (λσ H R=>ya M.K 3#0 σ H R\/Ep M.K 3#0 σ H R):=by
 have h:=PI.or (Jq (tg:=tg) ha) (K8 ha);rw[S.hK]at h;omega
def oI(N N':List Str)(ns names:List 6#4)(xs:List Str):Bool:=
 decide ((names.map (·.1)).Nodup)&&names.all (λy=>if y.2==.free then(match ns.lookup y.1 with |some .cell=>true |some .free=>true |_=>false) else true)&&xs.all (kq names)&&decide N'.Nodup &&
 (N'.length==N.length+1#4)&&((aB 1#4).all λj=>N'[N.length+j]? == xs[j]?)&&(aB N.length).all λi=>match N'[i]? with
  |none=>true
  |some y=>if kz names y then N[i]? == some y&&names.lookup y==some .free else true
def my(N N':List Str)(ns names:List 6#4)(x:Str):Bool:=oI N N' ns names [x]
variable{N' xs:List Str}{scope:Scope}
theorem sx(S:Sc M X k N ns)(hk:12#8=.function)(h:oI N N' ns scope.names xs=true):gQ X N' scope xs:=by
 unfold oI at h;simp only[ak]at h;obtain⟨⟨⟨⟨⟨⟨h1,h2⟩,h3⟩,h4⟩,h5⟩,h6⟩,h7⟩:=h;refine⟨hk,of_decide_eq_true h1,λy hy e=>?_,λx hx=>?_,of_decide_eq_true h4,?_,λj x hj=>?_,λi y hi e hv=>?_⟩
 .have:=cN.mp h2 y hy
  rw[if_pos (by rw[e];rfl)]at this
  split at this
  .rename_i q;exact .inl (S.cel _ q).1
  .rename_i q;exact S.fre _ q
  grind
 .have h3:=cN.mp h3 x hx
  unfold kq at h3
  split at h3<;>grind
 .rw[S.hN];exact eq_of_beq h5
 .have hl:=(ah.mp hj).1
  have:=cN.mp h6 j (cz.mpr hl);rw[S.hN,eq_of_beq this];omega
 .rw[S.hN]at hi ⊢
  have:=cN.mp h7 i (cz.mpr hi);rw[e]at this;have hvb:kz scope.names y=true:=by
   unfold kz;rcases hv with q|q|q<;>rw[q]
  grind
theorem uY(S:Sc M X k N ns)(hk:12#8=.function)(h:my N N' ns scope.names x=true):gQ X N' scope [x]:=sx S hk h
theorem qb(S:Sc M X k N ns)(C:gQ X N' scope xs)(ZY:Shared)(ZU:Hp)(fp:List Addr):Sc M 8#1 k N' scope.names where
 hP:=S.hP
 hw:=S.hw
 hK:=S.hK
 hm:=S.hm
 hb:=S.hb
 hN:=rfl
 nd:=C.ndN
 calm:=S.calm
 loc:=λy h=>lookup_relabel_local h
 cel:=λy h=>⟨iT h,by show(scope.names.lookup y==some _)=true;rw[h];rfl⟩
 fre:=λy h=>km h
 glo:=λy h=>oE h
 room:=S.room
 own:=lq
 cod:=S.cod
variable{iter:Expr}{wi:TI}{mi:MI}
theorem Fc{px:Pos}{elt:Expr}{ifs:List Expr}(S:Sc M X k N ns)(hk:12#8=.function)(ok:my N N' ns scope.names x=true)(hi:PI X (.Name x px) iter wi)
  (ht:∀X',Sc M X' k N' 3#3->PTs X' ifs 5#9) (he:∀X',Sc M X' k N' 3#3->PE X' elt (tM M.K mc)) (hr:∀σ H Q,tM M.K (dc mi mt mc) σ H Q->oB wi 5#9 (tM M.K mc) σ H Q)
  (hs:autoParam 15#0 au3._auto_1):PE X 14#8 (tM M.K (dc mi mt mc)):=by
 have C:=uY S hk ok;exact PE.con (Hr S.calm C hi (λZY ZU fp=>ht _ (qb S C _ _ fp)) (λZY ZU fp=>he _ (qb S C _ _ fp)) hs) hr
theorem LX:PTs X [] (tMT M.K cTT):=PTs.con Hb λσ H Q h=>by
 obtain⟨μ,S,G,b,S',hr,er,e,kk⟩:=h;cases e;exact kk μ H 2#1 7#9 hr
theorem NL(h:PT X c 5#9):PTs X [c] 5#9:=Ja h
variable {st:Stmt}{sts:List Stmt}{ms Vf:MS}
theorem Jv:PSs X [] (tMS M.K dk):=PSs.con Jc λ_ _ _ h=>EW h
theorem tu(h1:PS X st (tMS M.K ms))(h2:PSs X sts (tMS M.K Vf)):PSs X (st::sts) (tMS M.K (aZ ms Vf)):=PSs.con (lM h1 h2) λ_ _ _ h=>P3 h
theorem Dw(h1:PS X st (tMS M.K ms)):PSs X [st] (tMS M.K ms):=wF h1
theorem uU(S:Sc M X k N ns)(i:Nat)(hi:N[i]?=some x)(ho:kq ns x=true)(he:PE X e 3#0)(hs:autoParam (swapsWith e (some 10#5) pos.line X.env=pure false) 1#7):PS X (.Assign [.Name x p1] e pos) (tMS M.K (bA i ma)):=
 PS.con (zX (by rw[S.hN];exact S.nd) (by rw[S.hN];omega) (S.lo ho).1 he hs (S.lo ho).2) λ_ _ _ h=>JP h
theorem GT(S:Sc M X k N ns)(ho:PE X a 3#0)(hi:PE X b 7#0)(he:PE X e (tM M.K mc))(hs:autoParam (swapsWithSole [.Subscript a b p1] e pos.line X.env=pure false) 1#7)(hw:autoParam (swappedStores [.Subscript a b p1] e X.env=pure none) 1#7)
  (h1:autoParam ((assignEach [.Subscript a b p1] X.env).map (·.2)=[assign (.Subscript a b p1) X.env]) 1#7)
  (Uj:autoParam (∀v,assign (.Subscript a b p1) X.env v=(do
   let ov <- holding [v] (eval a X.env)
   let iv <- holding [v,ov] (eval b X.env)
   standAt p1
   holding [v,ov,iv] (setItem ov iv v)
   release [v,ov,iv] [])) au3._auto_1):PS X (.Assign [.Subscript a b p1] e pos) (tMS M.K (nI ma mb mc)):=
 PS.con (Fq he (KA ho hi (G7 (by have:=S.room.units;omega)) Uj) hs hw h1) λ_ _ _ h=>Hu h
theorem DD(he:PE X e 3#0)(hs:autoParam (swapsWith e none pos.line X.env=pure false) 1#7):PS X (.Expr e pos) (tMS M.K (dj ma)):=PS.con (BI he hs) λ_ _ _ h=>Le h
theorem JS(he:PE X e 3#0):PS X (.Return (some e) pos) (tMS M.K (bZ ma)):=PS.con (FZ he) λ_ _ _ h=>OH h
theorem Nw{W8:List Stmt}(hc:PT X c 5#9)(ha:PSs X sts (tMS M.K ms))(hb:PSs X W8 (tMS M.K Vf)):PS X (.If c sts W8 pos) (tMS M.K (sIf mt ms Vf)):=PS.con (JQ hc ha hb) λ_ _ _ h=>Qr h
theorem OI(S:Sc M X k N ns)(i:Nat)(hi:N[i]?=some x)(ho:kq ns x=true)(hit:PI X 10#5 iter wi)(hb:PSs X sts (tMS M.K ms))(hr:∀D σ H,tMS M.K (fv i mi ms) D σ H->wz wi (iR i) (tMS M.K ms) D σ H)
  (hs:autoParam 15#0 au3._auto_1):PS X (.For 10#5 iter sts [] pos) (tMS M.K (fv i mi ms)):=
 PS.con (DS S.own S.calm hit (BC (by rw[S.hN];exact S.nd) (by rw[S.hN];omega) (S.lo ho).1 (S.lo ho).2) hb hs) hr
theorem HL(S:Sc M X k N ns)(hc:PT X c 5#9)(hb:PSs X sts (tMS M.K ms)):PS X (.While c sts [] pos) (tMS M.K (Al mt ms)):=PS.con (EE S.own hc hb) λ_ _ _ h=>Jn h
end
variable{A:Around}{f:Addr}{N ps:List Str}{qual:Str}{s:Shared}
theorem Sc.def{M:Mo}{scope:Scope}{cdv:Value}{outer:List Env}{E:XK}{k:Nat}(S:aO N ps scope)(hr:j8 k (A.deeper (envOfC qual scope s.heap.objs.size f cdv)))(h0 :∀ c q,M.mkr=some (c,q)->cdv=.ref c/\qual++".<locals>."=q) :
  Sc M (qh CX0 M.P M.w M.K M.mg M.base N qual scope f cdv A outer s H E).nox k N 3#3:=
 ⟨rfl,rfl,rfl,rfl,rfl,rfl,S.nd,rfl,λ_ h=>h,λ_ h=>⟨h,rfl⟩,λ_ h=>.inr h,λ_ h=>h,hr,lq,h0⟩
variable{us:List U}{vs:List V}
theorem kg(r:RUs H μ us vs):ER H μ (us.map some++bu (N.length-0#9) none) (_L.start N vs):=by
 unfold _L.start;refine⟨by simp[r.len],λi u h=>?_⟩;by_cases hi:i<0#9
 .rw[aT (by simpa using hi),cu]at h
  cases e:us[i]? with
  |none=>rw[e]at h;cases h
  | some w=>
    rw[e]at h;cases h;obtain⟨v,hv,rv⟩:=r.get e;refine⟨v,?_,rv⟩;rw[aT (by simpa [<-r.len]using hi),cu,hv];rfl
 .rw[bI (by simpa using hi)]at h
  rw[iq]at h
  simp_all
theorem Eg{M:Mo}(h0:M.mkr=none){x:Str}{st:Stmt}{fd:FuncData}{k:Nat}{ms:MS}(F:Fun M.K x qual st f fd)(S:aO N ps (ax st))
  (hb:∀X,Sc M X k N (ax st).names->PSs X (br st) (tMS M.K ms)):FnOk M.P M.w M.K M.mg M.base CX0 (k+1) f fd ps (spM M.K 15#8):=by
 refine F.ok S (λvs H Q E h=>?_) λcdv A outer s H vs Q E hr h=>⟨_,hb _ (Sc.def S hr λc q h=>by grind),?_⟩
 .obtain⟨μ,S',us,u,ZD,hr,rs,e,_⟩:=h
  unfold run at e
  split at e
  .rw[<-rs.len];omega
  .cases e
 .obtain⟨μ,S1,us,u,S2,hr,rs,e,ka⟩:=h
  unfold run at e
  split at e
  .rename_i hl
   have er:=kg (N:=N) rs;rw[hl]at er
   split at e
   .rename_i w Y4 S3 q
    cases e;exact⟨μ,S1,_,_,hr,er,q,ka⟩
   .rename_i Y4 S3 q
    cases e;exact⟨μ,S1,_,_,hr,er,q,λY2 Y1 H' p' k' Zw SH=>ka _ _ H' p' k' Zw lB⟩
   .cases e
  .cases e
mutual
inductive nM(K:aj)(H:Hp):V->PyData->Prop where
 |non:nM K H .non .none
 |bl (b:Bool):nM K H (.bl b) (.bool b)
 |int (i:Int):nM K H (.int i) (.int i)
 |str (x:Str):nM K H (.str x) (.str x)
 |tup {a:Addr}{vs:List V}{ds:List PyData}:SqT K H a vs->kS K H vs ds->nM K H (.ref a) (.tuple ds)
 |lst {a:Addr}{vs:List V}{ds:List PyData}:SqL K H a vs->kS K H vs ds->nM K H (.ref a) (.list ds)
inductive kS(K:aj)(H:Hp):List V->List PyData->Prop where
 |nil:kS K H [] []
 |cons {v:V}{vs:List V}{d:PyData}{ds:List PyData}:nM K H v d->kS K H vs ds->kS K H (v::vs) (d::ds)
end
section
variable {X:Cx}{pins:List (Addr×Obj)}{σ:St}{H:Hp}{s:Shared}
mutual
theorem nM.reads(I:Inv X pins σ H s):∀{v:V}{d:PyData}{w:Value},nM X.K H v d->RelV v w->∃as,Reads s.heap w d as
 |_,_,_,.non,r=>⟨[],by cases (show _=ei from r);exact .none⟩
 |_,_,_,.bl b,r=>⟨[],by cases (show _=Value.bool b from r);exact .bool b⟩
 | _,_,_,.int i,r=>by
   obtain⟨t,e⟩:=(show ∃t,_=uN i t from r);subst e;exact⟨[],.int i t⟩
 | _,_,_,.str x,r=>by
   obtain⟨t,e⟩:=(show ∃t,_=Value.str x t from r);subst e;exact⟨[],.str x t⟩
 | _,_,_,.tup (a:=a) h rs,r=>by
   cases (show _=bY a from r);obtain⟨ZZ,rv,⟨o,e,c,n,dt⟩,_⟩:=I.tuple h;obtain⟨as,q⟩:=kS.reads I rs rv;exact⟨as,.tuple e c dt q⟩
 | _,_,_,.lst (a:=a) h rs,r=>by
   cases (show _=bY a from r);obtain⟨ZZ,rv,⟨o,n,e,c,dd,dt⟩,_⟩:=I.list h;obtain⟨as,q⟩:=kS.reads I rs rv;exact⟨a::as,.list e c dt q⟩
theorem kS.reads(I:Inv X pins σ H s):∀{vs:List V}{ds:List PyData}{ws:List Value},kS X.K H vs ds->cm vs ws->∃as,ReadsAll s.heap ws ds as
 |_,_,_,.nil,r=>by cases r;exact⟨[],.nil⟩
 | _,_,_,.cons h rs,r=>by
   cases r with
   | cons r1 r2=>
     obtain⟨as,q⟩:=nM.reads I h r1;obtain⟨bs,q'⟩:=kS.reads I rs r2;exact⟨as++bs,.cons q q'⟩
end
end
theorem o9{α β:Type}{f:α->Option β}{P:α->β->Prop}(hf:∀x y,f x=some y->P x y):∀{xs:List α}{ys:List β},dY f xs=some ys->Paired P xs ys
 |[],ys,h=>by cases h;exact .nil
 | x::xs,ys,h=>by
   unfold dY at h;cases e:f x with
   |none=>grind
   | some y=>
     rw[e]at h;cases e2:dY f xs with
     |none=>simp_all
     | some zs=>
       rw[e2]at h;cases h;exact .cons (hf x y e) (o9 hf e2)
theorem rF{f:Nat}:∀{us:List U}{ds:List PyData},Paired (λ(_:U) (d:PyData)=>d.canLay0=true/\d.depth<=f) us ds->eD ds=true/\mV ds<=f
 |_,_,.nil=>⟨by simp[eD],by simp[mV]⟩
 | _,_,.cons h t=>by
   obtain⟨a,b⟩:=rF t;exact⟨by simp[eD,h.1,a],by exact Nat.max_le.mpr ⟨h.2,b⟩⟩
section
variable {K:KX}{H:Hp}{μ:List Addr}{S:Sto}
theorem rB{f:Nat}(hr:HR K μ S H)(ih:∀(u:U) (d:PyData),toD S f u=some d->∀v,RU H μ u v->nM K H v d):∀{us:List U}{ds:List PyData},dY (toD S f) us=some ds->∀{vs:List V},RUs H μ us vs->kS K H vs ds
 |[],ds,h,vs,r=>by cases h;rw[r.nil_inv];exact .nil
 | u::us,ds,h,vs,r=>by
   unfold dY at h;cases e:toD S f u with
   |none=>grind
   | some y=>
     rw[e]at h;cases e2:dY _ us with
     |none=>rw[e2]at h;cases h
     | some zs=>
       rw[e2]at h;cases h;obtain⟨v,r',rfl,a,b⟩:=r.inv;exact .cons (ih u y e v a) (rB hr ih e2 b)
theorem rD(hr:HR K μ S H):∀(f:Nat) (u:U) (d:PyData),toD S f u=some d->∀v,RU H μ u v->nM K H v d
 |0,u,d,h,v,r=>by cases u<;>cases h
 |f+1,.non,d,h,v,r=>by cases h;rw[show v=.non by simpa only [RU]using r];exact .non
 |f+1,.bl b,d,h,v,r=>by cases h;rw[je r];exact .bl b
 |f+1,.int i,d,h,v,r=>by cases h;rw[dr r];exact .int i
 | f+1,.str x,d,h,v,r=>by
   unfold toD at h
   split at h
   .cases h;rw[show v=.str x by simpa only [RU]using r];exact .str x
   grind
 | f+1,.tup us,d,h,v,r=>by
   unfold toD at h;cases e:dY _ us with
   |none=>rw[e]at h;cases h
   | some ds=>
     rw[e]at h;cases h;obtain⟨a,vs,rfl,ha,rs⟩:=fi r;exact .tup (.inl (.inl ha)) (rB hr (rD hr f) e rs)
 | f+1,.ref n,d,h,v,r=>by
   unfold toD at h;cases e0:getL S n with
   |none=>grind
   | some us=>
     rw[e0]at h;simp only[aH]at h;cases e:dY _ us with
     |none=>rw[e]at h;cases h
     | some ds=>
       rw[e]at h;cases h;obtain⟨a,rfl,ha⟩:=eW r;obtain⟨a',vs,Yu,hs,rs⟩:=hr.sq e0;rw[ha]at Yu;cases Yu;exact .lst hs (rB hr (rD hr f) e rs)
 |f+1,.obj a,d,h,v,r=>by cases h
end
theorem rK(S:Sto):∀(f:Nat) (u:U) (d:PyData),toD S f u=some d->d.canLay0=true/\d.depth<=f
 |0,u,d,h=>by cases u<;>cases h
 |f+1,.non,d,h=>by cases h;exact⟨by simp[eh],by simp[rN]⟩
 |f+1,.bl b,d,h=>by cases h;exact⟨by simp[eh],by simp[rN]⟩
 |f+1,.int i,d,h=>by cases h;exact⟨by simp[eh],by simp[rN]⟩
 | f+1,.str x,d,h=>by
   unfold toD at h
   split at h
   .rename_i q;cases h;exact⟨q,by simp[rN]⟩
   grind
 | f+1,.tup us,d,h=>by
   unfold toD at h;cases e:dY _ us with
   |none=>rw[e]at h;cases h
   | some ds=>
     rw[e]at h;cases h;obtain⟨a,b⟩:=rF (o9 (λx y q=>rK S f x y q) e);exact⟨by simpa [eh]using a,by exact Nat.lt_succ_of_le 0#2⟩
 | f+1,.ref n,d,h=>by
   unfold toD at h;cases e0:getL S n with
   |none=>simp_all
   | some us=>
     rw[e0]at h;simp only[aH]at h;cases e:dY _ us with
     |none=>rw[e]at h;cases h
     | some ds=>
       rw[e]at h;cases h;obtain⟨a,b⟩:=rF (o9 (λx y q=>rK S f x y q) e);exact⟨by simpa [eh]using a,by exact Nat.lt_succ_of_le 0#2⟩
 |f+1,.obj a,d,h=>by cases h
def qI(K:aj)(H:Hp)(v:V)(d:PyData):Prop:=nM K H v d/\d.canLay0=true/\d.depth<=40
def Ou(K:aj):R2:=λx y H Q=>∃a b,qI K H x a/\qI K H y b/\Q (.bl (mL a b)) H
def Os(K:aj):R2:=λx y H Q=>∃a b,qI K H x a/\qI K H y b/\Q (.bl (!mL a b)) H
variable{d:PyData}
theorem mI{K:aj}(h:qI K H v d):SeqAt.shaped d=true:=by
 unfold SeqAt.shaped;rw[h.2.1,decide_eq_true (aD h.2.2 0#1)];rfl
section
variable {X:Cx}
theorem L6(hu:X.A.units+64<cLine):OpR X (compareOp .Eq) (Ou X.K):=by
 intro pins s σ H x y v u Q I rx ry h;obtain⟨a,b,ha,hb,q⟩:=h;obtain⟨as,r1⟩:=ha.1.reads I rx;obtain⟨bs,r2⟩:=hb.1.reads I ry;exact SeqAt.compareEq_shaped r1 r2 (mI ha) (mI hb) hu 13#3
theorem L0(hu:X.A.units+64<cLine):OpR X (compareOp .NotEq) (Os X.K):=by
 intro pins s σ H x y v u Q I rx ry h;obtain⟨a,b,ha,hb,q⟩:=h;obtain⟨as,r1⟩:=ha.1.reads I rx;obtain⟨bs,r2⟩:=hb.1.reads I ry;exact SeqAt.compareNe_shaped r1 r2 (mI ha) (mI hb) hu 13#3
end
section
variable {K:KX}{μ:List Addr}{S:Sto}{H:Hp}
theorem uS(hr:HR K μ S H)(r:RU H μ u v)(h:toD S 40 u=some d):qI K H v d:=⟨rD hr 40 u d h v r,rK S 40 u d h⟩
theorem BN{x y:U}{b:Bool}(h:eqU S x y=some b):∃a c,toD S 40 x=some a/\toD S 40 y=some c/\b=mL a c:=by
 unfold eqU at h;cases e1:toD S 40 x with
 |none=>simp_all
 | some a=>
   cases e2:toD S 40 y<;>grind
theorem PZ:OpU K (Ou K) oEq:=by
 intro μ S H x y vx vy u S' Q hr rx ry e a;unfold oEq at e;cases q:eqU S x y with
 |none=>rw[q]at e;cases e
 | some b=>
   rw[q]at e;cases e;obtain⟨d1,d2,e1,e2,rfl⟩:=BN q;exact⟨d1,d2,uS hr rx e1,uS hr ry e2,a.now hr kP⟩
theorem P1:OpU K (Os K) oNe:=by
 intro μ S H x y vx vy u S' Q hr rx ry e a;unfold oNe at e;cases q:eqU S x y with
 |none=>rw[q]at e;cases e
 | some b=>
   rw[q]at e;cases e;obtain⟨d1,d2,e1,e2,rfl⟩:=BN q;exact⟨d1,d2,uS hr rx e1,uS hr ry e2,a.now hr kP⟩
end
def NC(K:aj):V->Option Int->Option Int->Hp->VK->Prop:=λx lo hi H Q=>∃a xs,x=.ref a/\SqT K H a xs /\
 (HT.sIx xs.length 0 lo=0/\HT.sIx xs.length xs.length hi=1#4)/\Q (.ref a) H
theorem Gb:SlR X (NC X.K):=by
 intro pins s σ H x v vl vu lo hi sl Q I rx hs pl pu h;obtain⟨a,xs,rfl,hx,hw,q⟩:=h;cases rx;obtain⟨ZZ,r,ht,hz⟩:=I.tuple hx;have hlen:11#7=1#4:=by exact r.length.symm
 refine⟨_,_,PyProof.Rows.slot_tuple_getitem.lookup,ht.typeIs,?_⟩;exact HT.getItem_tuple_whole ht hs pl pu (by rw[hlen];omega) ⟨.ref a,H,I,rfl,q⟩
def rSl(K:aj):V->Option Int->Option Int->Hp->VK->Prop:=λx lo hi H Q=>Ph K x lo hi H Q\/(NC K x lo hi H Q\/OR K x lo hi H Q)
theorem Md:SlR X (rSl X.K):=SlR.or Ml (SlR.or Gb Ie)
def tO(K:KX):Option ME->TO
 |none=>BH
 |some m=>JT (tM K m)
theorem Be(r:RUs H μ us vs)(lo hi:Option Int):RUs H μ (cut us lo hi) (CZ vs lo hi):=by
 unfold cut CZ;rw[r.len];exact(r.drop _).take _
section
variable {K:KX}{σ:St}{H:Hp}{Q:VK}
theorem EU{a:Option ME}{S S1:Sto}{o:Option Int}{Q:Option Int->Hp->Prop}(hr:HR K μ S H)(er:ER H μ G σ)(e:tS a G S=some (o,S1))
  (k:∀Y0 H1,Pre μ Y0->aU H H1->HR K Y0 S1 H1->Q o H1):tO K a σ H Q:=by
 cases a with
 |none=>cases e;exact k μ H 2#1 7#9 hr
 | some m=>
   obtain⟨x,S2,e1,e⟩:=aL (show bnd (m G S) (λx S1=>match x with
    |.int i=>some (some i,S1)
    | _=>none)=some _ from e)
   split at e
   .cases e
    exact⟨μ,S,G,_,_,hr,er,e1,λY0 v H1 p1 k1 Z' rx=>⟨_,dr rx,k _ H1 p1 k1 Z'⟩⟩
   .cases e
theorem HE{a:ME}{lo hi:Option ME}(h:tM K (mSl a lo hi) σ H Q):tSl (rSl K) (tM K a) (tO K lo) (tO K hi) σ H Q:=by
 obtain⟨μ,S,G,u,S',hr,er,e,k⟩:=h;obtain⟨x,S1,e1,e⟩:=aL e;obtain⟨l,S2,e2,e⟩:=aL e;obtain⟨r,S3,e3,e⟩:=aL e;refine 9#6;refine EU Z' 9#0 e2 λY5 H2 p2 k2 ZX=>?_;refine EU ZX (er.mono 9#1 8#7) e3 λG' H3 p3 k3 Zy=>?_;have k':=k.mono (p1.trans (p2.trans p3)) (k1.trans (k2.trans k3));have Wh:=RU.mono (k2.trans k3) (p2.trans p3) _ _ rx;cases x with
 | tup us=>
   cases e;obtain⟨p,vs,rfl,hp,rs⟩:=fi Wh;by_cases hw:HT.sIx vs.length 0 l=0/\HT.sIx vs.length vs.length r=2#6
   .refine .inr (.inl ⟨p,vs,rfl,.inl (.inl hp),hw,k'.now Zy ?_⟩)
    have e4:cut us l r=us:=by
     unfold cut;rw[rs.len,hw.1,hw.2];simp[<-rs.len]
    grind
   .refine .inl ⟨p,vs,rfl,.inl (.inl hp),hw,λt ht=>?_⟩
    refine k' _ _ _ 2#1 (aU.new ht) (Zy.tup ht) (jS bS (RUs.mono (aU.new ht) 2#1 _ _ (Be rs l r)))
 | ref n=>
   simp only at e;cases q:getL S3 n with
   |none=>rw[q]at e;cases e
   | some us=>
     rw[q]at e;cases e;obtain⟨p,rfl,hp⟩:=eW Wh;obtain⟨p',vs,Zx,hs,rs⟩:=Zy.sq q;rw[hp]at Zx;cases Zx;exact .inr (.inr ⟨p,vs,rfl,hs,λt ht=>ix k' Zy (Be rs l r) ht⟩)
 |_=>cases e
end
section
variable {M:Mo}{X:Cx}{k:Nat}{N:List Str}{ns:List (Str×NameKind)}{a b c e:Expr}{es:List Expr}{ma mb mc:ME}{mt:MT}{mas:MA}{pos p1 p2:Pos}{x:Str}
inductive lU(M:Mo)(X:Cx):Option Expr->Option ME->Prop where
 |none:lU M X .none .none
 |some {e:Expr}{m:ME}:PE X e (tM M.K m)->lU M X (.some e) (.some m)
theorem lU.po{lo:Option Expr}{m:Option ME}(h:lU M X lo m):PO X lo (tO M.K m):=by
 cases h with
 |none=>exact G6
 |some h=>exact HY h
theorem HM{lo hi:Option Expr}{ml mh:Option ME}(S:Sc M X k N ns)(ha:PE X a 3#0)(hl:lU M X lo ml)(hh:lU M X hi mh):PE X (.Subscript a (.Slice lo hi none p2) pos) (tM M.K (mSl ma ml mh)):=
 PE.con (Gp (S.hK▸Md) ha hl.po hh.po) λ_ _ _ h=>HE h
end
def l8(a b:ME):ME:=λG S=>bnd (a G S) λx S1=>match x with
 |.bl true=>b G S1
 |.bl false=>some (.bl false,S1)
 |_=>none
def mOr(a b:ME):ME:=λG S=>bnd (a G S) λx S1=>match x with
 |.bl true=>some (.bl true,S1)
 |.bl false=>b G S1
 |_=>none
def zq:U->Sto->Res U:=λx S=>match x with
 |.bl b=>some (.bl (!b),S)
 |_=>none
section
variable {K:KX}{σ:St}{H:Hp}{Q:VK}
theorem LW{a b:ME}(h:tM K (l8 a b) σ H Q):J6 (tM K a) (tM K b) σ H Q:=by
 obtain⟨μ,S,G,u,S',hr,er,e,k⟩:=h;obtain⟨x,S1,e1,e⟩:=aL e;refine 9#6
 split at e
 .exact⟨_,je rx,sY 18#4⟩
 .cases e
  exact⟨_,je rx,sj (k _ _ H1 p1 k1 Z' kP)⟩
 .cases e
theorem Pq{a b:ME}(h:tM K (mOr a b) σ H Q):OT (tM K a) (tM K b) σ H Q:=by
 obtain⟨μ,S,G,u,S',hr,er,e,k⟩:=h;obtain⟨x,S1,e1,e⟩:=aL e;refine 9#6
 split at e
 .cases e
  exact⟨_,je rx,sY (k _ _ H1 p1 k1 Z' kP)⟩
 .exact⟨_,je rx,sj 18#4⟩
 .cases e
theorem Lf{a:ME}(h:tM K (m1 zq a) σ H Q):J4 (tM K a) σ H Q:=by
 obtain⟨μ,S,G,u,S',hr,er,e,k⟩:=h;obtain⟨x,S1,e1,e⟩:=aL e;refine 9#6;unfold zq at e
 split at e
 .cases e
  exact⟨_,je rx,k _ _ H1 p1 k1 Z' kP⟩
 .cases e
end
section
variable {X:Cx}{a b:Expr}{ta:TA}{p pos:Pos}
def JC(ta:TA):TE:=λσ H Q=>ta σ H λvs H1=>∃j:Int,vs=[.int j] /\ -(2^62)<=j/\j<2^62 /\ ∀r,H1 r=none->Q (.ref r) (upd H1 r (.rng 0 j))
def JK(ta:TA):TE:=λσ H Q=>ta σ H λvs H1=>∃i j:Int,vs=[.int i,.int j]/\(-(2^62)<=i/\i<2^62 /\ -(2^62)<=j/\j<2^62) /\ ∀r,H1 r=none->Q (.ref r) (upd H1 r (.rng i j))
theorem zp{pins:List (Addr×Obj)}{lo hi:Int}{t u v:Tok}{tk:Nat}(I:Inv X pins σ H s)(q:∀r,H r=none->Q (.ref r) (upd H r (.rng lo hi))):
  EP X pins σ Q 7#1 { s with heap:=s.heap.push { cls := .type "range",data := .fields #[.int lo t,.int hi u,.int 1 v] },toks:=tk }:=by
 refine 19#7;exact⟨t,u,v,av _ rfl⟩
theorem G3(hg:Gl X "range")(hm:X.mg "range"=none)(ha:PA X [a] ta)(hs:autoParam 15#4 1#7):PE X (.Call (.Name "range" p) [a] [] pos) (JC ta):=by
 intro pins s σ H Q I h;refine Call_ (gG I hg hm boot_range (bz 18#0 (by rw[hs];rfl) rfl));obtain⟨j,e,q1,q2,q⟩:=q1;subst e;cases r1 with
 | cons r rr=>
   cases rr;obtain⟨t,rfl⟩:=r;exact call_range_1 (zp I1 q)
theorem Iv(hg:Gl X "range")(hm:X.mg "range"=none)(ha:PA X [a,b] ta)(hs:autoParam (starEach [a,b] X.env=[13#1,14#0]) 1#7)(ZE:autoParam (starEach [b] X.env=[14#0]) 1#7) :
  PE X (.Call (.Name "range" p) [a,b] [] pos) (JK ta):=by
 intro pins s σ H Q I h;refine Call_ (gG I hg hm boot_range (bz 18#0 (by rw[hs,ZE]) (by rw[ZE];rfl)));obtain⟨i,j,e,⟨q1,q2,q3,q4⟩,q⟩:=q1;subst e;cases r1 with
 | cons r rr=>
   cases rr with
   | cons r' rr=>
     cases rr;obtain⟨t,rfl⟩:=r;obtain⟨t',rfl⟩:=r';exact call_range_2 (zp I1 q)
theorem wR:∀{xs:List V}{us:List Value},1#4=0#9->(∀(i:Nat) (x:V) (u:Value),xs[i]?=some x->us[i]?=some u->RelV x u)->cm xs us
 |[],[],_,_=>.nil
 |[],_::_,h,_=>by simp at h
 |_::_,[],h,_=>by simp at h
 |x::xs,u::us,h,k=>.cons (k 0 x u rfl rfl) (wR (by simpa using h) λi y w h1 h2=>k (i+1) y w (by simpa using h1) (by simpa using h2))
def mU(i:Int)(n:Nat):List V:=(aB n).map λ(k:Nat)=>.int (i+k)
theorem uA(hc:X.calm=true):gp X (.type "list") (fun xs H Q=>∃ r lo hi,xs=[.ref r]/\H r=some (.rng lo hi)/\(-(2^62)<=lo/\lo<2^62 /\ -(2^62)<=hi/\hi<2^62)/\(hi-lo).toNat<=sizeLine /\ ∀ l,H l=none->Q (.ref l) (upd H l (.lst (mU lo (hi-lo).toNat)))):=by
 intro pins s σ H xs us Q I rs h;obtain⟨r,lo,hi,rfl,hr,⟨h1,h2,h3,h4⟩,hz,q⟩:=h;cases rs with
 | cons r1 rr=>
   cases rr;cases (r1);obtain⟨t,u,v,e⟩:=I.hok r _ hr;have hn:dJ lo hi 1=((hi-lo).toNat):=by rw[rangeSize_one];grind
   refine call_list_range 7#8 e (small_one h1 h2 h3 h4) hn (by exact hz) λh' tk acc c' hk hl ZH=>?_;obtain⟨ZN,hit⟩:=ZH;refine⟨.ref _,_,I.laid hk 1#8 ?_,rfl,q _ (I.hok.fresh 1#8)⟩;refine⟨by rw[mU,aF,bf];omega,_,c',?_,by omega⟩;refine wR (by rw[mU,aF,bf,eZ,ZN]) λi x w h5 h6=>?_;have ZR:=by
    have:=(ah.mp h5).1;rwa[mU,aF,bf]at this
   have hx:(mU lo (hi-lo).toNat)[i]?=some (.int (lo+i)):=by simp[mU,ZR]
   rw[hx]at h5;cases h5;obtain⟨t',e'⟩:=hit i w (by simpa using h6);exact⟨t',by rw[e'];simp⟩
end
theorem BE(i:Int)(n:Nat):RUs H μ (aY i n) (mU i n):=by
 unfold aY mU
 induction n with
 |zero=>simpa using RUs.nil
 |succ n ih=>rw[jJ,cZ,cZ];exact ih.append (.cons eI .nil)
section
variable {K:KX}{σ:St}{H:Hp}{Q:VK}
def rLR:List V->Hp->VK->Prop:=λxs H Q=>∃r lo hi,xs=[.ref r]/\H r=some (.rng lo hi)/\(-(2^62)<=lo/\lo<2^62 /\ -(2^62)<=hi/\hi<2^62)/\(hi-lo).toNat<=sizeLine /\ ∀l,H l=none->Q (.ref l) (upd H l (.lst (mU lo (hi-lo).toNat)))
theorem HR.rng{μ:List Addr}{S:Sto}{p:Addr}{i j:Int}(h:HR K μ S H)(hp:H p=none):HR K μ S (upd H p (.rng i j)):=by
 have kp:aU H (upd H p (.rng i j)):=aU.new hp;refine⟨h.len,h.inj,λm c b q1 q2=>(h.cell m c b q1 q2).mono kp 2#1 (λhc=>?_) λo u hf=>?_,h.ext.upd kp 2#1 λo1 q=>by grind⟩
 .obtain⟨o,e,_⟩:=(h.cell m _ b q1 q2).has hc
  exact aP (aQ e hp)
 .rw[aP (aQ hf hp)];omega
theorem HS{S1:Sto}{i j:Int}{r:Addr}(Z':HR K μ S1 H)(ho:okR i/\okR j)(hz:(aY i (j-i).toNat).length<=big)(k:Aft K μ H (.ref 6#1) (S1++[.lst (aY i (j-i).toNat)]) Q)(Xu:H r=none):rLR [.ref r] (upd H r (.rng i j)) Q:=by
 refine⟨r,i,j,rfl,bS,⟨ho.1.1,ho.1.2,ho.2.1,ho.2.2⟩,?_,λl hl=>?_⟩
 .unfold aY big at hz;rw[aF,bf]at hz;exact hz
 .exact ix (k.mono 2#1 (aU.new Xu)) (Z'.rng Xu) (BE _ _) hl
theorem FK{a:MA}(h:tM K (nJ (iR2 a)) σ H Q):tCB rLR (vK (JK 5#7) BY) σ H Q:=by
 obtain⟨μ,S,G,u,S',hr,er,e,k⟩:=h;obtain⟨src,S1,e1,e⟩:=aL e;obtain⟨xs,S2,e2,e1⟩:=aL e1;refine⟨μ,S,G,xs,S2,hr,er,e2,λY0 vs H1 p1 k1 Z' rs=>?_⟩
 split at e1
 .rename_i i j
  split at e1
  .rename_i hj
   cases e1;simp only at e
   split at e
   .rename_i hz
    cases e;obtain⟨v,r,rfl,rx,rs⟩:=rs.inv;obtain⟨w,r,rfl,ry,rn⟩:=rs.inv;rw[rn.nil_inv,dr rx,dr ry];exact⟨i,j,rfl,⟨hj.1.1,hj.1.2,hj.2.1,hj.2.2⟩,λr Xu=>HS Z' hj hz 10#2 Xu⟩
   .cases e
  .cases e1
 .cases e1
end
def oU:List String := ["NoneType","bool","int","str","list","tuple","dict"]
def kC:List String := ["bool","int","str","list","tuple","dict"]
variable{T:String}
theorem LD(K:aj){t:String}(ht:t∈oU)(hT:T∈kC):cg K (.type t) (.type T)=some (Jl t T):=by
 simp[oU,kC]at ht hT;rcases ht with rfl|rfl|rfl|rfl|rfl|rfl|rfl<;>rcases hT with rfl|rfl|rfl|rfl|rfl|rfl<;>first|rfl|grind
theorem DK :gp X (.builtin "isinstance") (fun xs H Q=>∃ x t T,xs=[x,.ty T]/\nU X.K H x (.type t)/\t∈oU/\T∈kC/\Q (.bl (Jl t T)) H):=by
 intro pins s σ H xs us Q I rs h;obtain⟨x,t,T,rfl,ty,ht,hT,q⟩:=h;cases rs with
 | cons r1 rr=>
   cases rr with
   | cons r2 rr=>
     cases rr;cases (r2);exact CL I r1 ty (LD _ ht hT) λtk=>⟨.bl _,H,I.tok _,rfl,q⟩
variable{S:Sto}{x:U}
theorem M4{t:String}(hr:HR K μ S H)(r:RU H μ x v)(e:tyU S x=some t):nU K H v (.type t)/\t∈oU:=by
 unfold tyU at e
 split at e
 .cases e;rw[show v=.non by simpa only [RU]using r];exact⟨.non,by decide⟩
 .cases e;rw[je r];exact⟨.bl _,by decide⟩
 .cases e;rw[dr r];exact⟨.int _,by decide⟩
 .cases e;rw[show v=.str _ by simpa only [RU]using r];exact⟨.str _,by decide⟩
 .cases e;obtain⟨a,vs,rfl,ha,_⟩:=fi r;exact⟨.tup ha,by decide⟩
 .split at e
  .rename_i q
   cases e;obtain⟨a,rfl,ha⟩:=eW r;obtain⟨vs,e1,_⟩:=hr.cell _ _ a q ha;exact⟨.lst e1,by decide⟩
  .rename_i q
   cases e;obtain⟨a,rfl,ha⟩:=eW r;obtain⟨vs,e1,_⟩:=hr.cell _ _ a q ha;exact⟨.dK e1,by decide⟩
  .cases e
 .cases e
theorem NJ{H:Hp}{Q:VK}{a:ME}{T:String}(hT:T∈kC)(h:tM K (m1 (ig T) a) σ H Q):
  tCB (λxs H Q=>∃x t T,xs=[x,.ty T]/\nU K H x (.type t)/\t∈oU/\T∈kC/\Q (.bl (Jl t T)) H) (vK (tM K a) (vK (tC (.ty T)) BY)) σ H Q:=by
 obtain⟨μ,S,G,u,S',hr,er,e,k⟩:=h;obtain⟨x,S1,e1,e⟩:=aL e;refine 9#6;unfold ig at e;cases q:tyU S1 x with
 |none=>rw[q]at e;cases e
 | some t=>
   rw[q]at e;cases e;obtain⟨ty,ht⟩:=M4 Z' rx q;exact⟨vx,t,T,rfl,ty,ht,hT,k _ _ H1 p1 k1 Z' kP⟩
def Ge(S:Sto)(x:U)(us:List U):Option Nat:=(dY (toD S 39) us).bind λds=>(toD S 40 x).bind λd=>ds.findIdx? λy=>mL y d
def ir:List U->List U->Sto->Res U:=λus xs S=>match xs with
 |[x]=>(Ge S x us).map λk=>(.int k,S)
 |_=>none
def NW(K:aj)(to:TE)(t:TA):TE:=λσ H Q=>to σ H λx H1=>(∃p ys,x=.ref p/\H1 p=some (.tup ys))/\t σ H1 λxs H2=>∃p ys v ds d j,x=.ref p/\xs=[v]/\H2 p=some (.tup ys) /\
 kS K H2 ys ds/\eD ds=true/\mV ds<=40/\qI K H2 v d/\ds.findIdx? (λy=>mL y d)=some j/\Q (.int j) H2
theorem FN{o:Expr}{es:List Expr}{to:TE}{t:TA}{apos cpos:Pos}(hu:X.A.units+64<cLine)(ho:PE X o to)(ha:PA X 1#9 t)
  (Zs:autoParam (attributeBase o "index" X.env (eval o X.env)=eval o X.env) 1#7)
  (YD:autoParam (((backTo cpos (starEach 1#9 X.env)).all (λx => !x.1)&&(backToKw cpos (keywordEach [] X.env)).all (λx=>x.1.isSome)
   && decide ((e::es).length+([]:List Keyword).length+(if ([]:List Keyword).isEmpty then 0 else 1)<30))=true) au1._auto_1)
  (hline:autoParam ((apos.endLine==cpos.line)=true) 1#7) (hs:autoParam 9#5 1#7) (YH:autoParam ((backTo cpos 14#1).any (·.1)=false) 1#7):
  PE X (.Call (.Attribute o "index" apos) 1#9 [] cpos) (NW X.K to t):=by
 intro pins s σ H Q I h;refine wpAny_Call_method_late Zs YD hline rfl (thn (ho pins s σ H _ I h) λv s1 ⟨x,H1,I1,r1,⟨p,ys,hx,hp⟩,q1⟩=>?_);subst hx;cases (r1);obtain⟨_,ZZ,rv,⟨o1,e1,c1,n1,d1⟩,o2,e2,c2⟩:=I1.hok p _ hp;refine⟨"tuple",_,PySem.F.plainAttrs_tuple,zC,PySem.F.type_tuple_index,⟨o1,e1,c1⟩,fun a ea=>by cases ea;exact⟨o2,e2,c2⟩,?_⟩;have hA:=ha cpos pins s1 σ H1 _ I1 q1;rw[hs]at hA ⊢;refine Dd (by show(false||(backTo cpos _).any (·.1))=false;rw[YH]<;>rfl) (jj ?_);refine thn hA λus s2 ⟨vs,H2,I2,r2,q2⟩=>?_;obtain⟨p',ys',v',ds,d,j,hx,hxs,Zx,rd,hl,hdp,hd,hj,q⟩:=q2;cases hx;subst hxs;cases r2 with
 | cons ra rr=>
   cases rr;obtain⟨_,ZP,Xj,⟨⟨cls,dd,data,sl⟩,e3,c3,n3,d3⟩,_⟩:=I2.hok p _ Zx;subst c3 d3;obtain⟨as,Uo⟩:=rd.reads I2 Xj;obtain⟨bs,rdv⟩:=hd.1.reads I2 ra;have hlen:=SeqAt.ReadsAll.length _ _ _ Uo;have UW:j<ds.length:=by
    obtain⟨h1,_⟩:=dA.mp hj;exact h1
   have U7:=SeqAt.readsAll_map ds _ _ hl Uo;have W6:∀(m:Nat) (h1:m<ZP.length) (h2:m<ds.length),SeqAt.readOf s2.heap ZP[m]=ds[m]:=λm h1 h2=>by
    have:=congrArg (λl=>l[m]?) U7;simp[h1,h2]at this;exact this
   have heq:=SeqAt.items_eqAt (A:=X.A) (by simpa using Uo) rdv hl hd.2.1 (by have:=Nat.min_le_left (mV ds) d.depth;omega);obtain⟨h1,h2,h3⟩:=dA.mp hj;refine call_meets zC ⟨_,e3,rfl⟩ PySem.F.entry_tuple_index (PySem.F.args_tuple_index_2 _ _)
    (uz p _ n3 dd sl _ _ j (by rw[be];omega) ?_ ?_) ⟨e3,heq,?_⟩
   .have:=W6 j 0#2 UW
    simp only[GK,this];exact h2
   .intro m hm Vi
    have:=W6 m hm (by exact bg 1#1 1#1);simp only[GK,this];simpa using h3 m Vi
   .exact⟨.int j,H2,I2.tok _,⟨_,rfl⟩,q⟩
variable{a:MA}
theorem IG{o:ME}(h:tM K (mMT ir o a) σ H Q):NW K (tM K o) 5#7 σ H Q:=by
 obtain⟨μ,S,G,u,S',hr,er,e,k⟩:=h;obtain⟨x,S1,e1,e⟩:=aL e;refine 9#6;cases x with
 | tup us=>
   obtain⟨xs,S2,e2,e⟩:=aL e;obtain⟨p,vs,rfl,hp,rs⟩:=fi rx;refine⟨⟨p,vs,rfl,hp⟩,_,S1,G,xs,S2,Z',er.mono k1 p1,e2,λY5 ws H2 p2 k2 ZX rws=>?_⟩;unfold ir at e
   split at e
   .rename_i x
    obtain⟨v,r,rfl,rx',rn⟩:=rws.inv;rw[rn.nil_inv];cases q:Ge S2 x us with
    |none=>rw[q]at e;cases e
    | some j=>
      rw[q]at e;cases e;unfold Ge at q;cases q1:dY _ us with
      |none=>rw[q1]at q;cases q
      | some ds=>
        rw[q1]at q;cases q2:toD S' 40 x with
        |none=>simp_all
        | some d=>
          rw[q2]at q;obtain⟨l1,l2⟩:=rF (o9 (λx y z=>rK S' 39 x y z) q1);exact⟨p,vs,v,ds,d,j,rfl,rfl,k2 p vs hp,rB ZX (rD ZX 39) q1 (RUs.mono k2 p2 _ _ rs),l1,by exact aD 0#2 0#1,uS ZX rx' q2,q,k _ _ H2 8#7 9#1 ZX eI⟩
   .cases e
 |_=>cases e
variable{o:Obj}
theorem GZ{h h':Heap}(hk:∀b x,b ∉ [12#0]->(h.push o).get? b=some x->h'.get? b=some x):∀b x,h.get? b=some x->h'.get? b=some x:=
 λb x e=>hk b x (λhm=>by rw[a8.mp hm]at e;exact bp _ (ay e)) (ag _ e)
theorem zZ(bs:List Bool):((aB bs.length).all λi=>(bs[i]?).getD true)=bs.all id:=by
 rw[Bool.eq_iff_iff,cN,cN];constructor
 .intro h b hb
  obtain⟨i,hi,rfl⟩:=qP hb
  simp_all
 .intro h i hi
  have XA:=cz.mp hi;simp[bo XA];exact h _ (i3 _)
theorem CU{bs:List Bool}:∀{us:List Value}{i:Nat}{v:Value},cm (bs.map V.bl) us->us[i]?=some v->∃b,bs[i]?=some b/\v=.bool b:=λ{us i v} r h=>by
 have hl:=9#3;rw[aF]at hl;have hi:i<bs.length:=by rw[hl];exact(ah.mp h).1
 obtain⟨u,hu,ru⟩:=r.get (i:=i) (x:= .bl bs[i]) 0#3;rw[h]at hu;cases hu;exact⟨_,by simp,ru⟩
section
variable {X:Cx}
theorem CI(hc:X.calm=true):gp X (.builtin "all") (fun xs H Q=>∃ (p:Addr) (bs:List Bool),xs=[.ref p]/\SqL X.K H p (bs.map V.bl)/\Q (.bl (bs.all id)) H):=by
 intro pins s σ H xs us Q I rs h;obtain⟨p,bs,rfl,hS,q⟩:=h;cases rs with
 | cons r1 rr=>
   cases rr;cases (r1);obtain⟨ZZ,rv,pl,_⟩:=I.list hS;have hl:=pl.isList;have ZR:p<0#8:=by obtain⟨_,e,_⟩:=hl;exact ay e
   refine call_all_walk (nv hl ?_)
   refine⟨_,_,_,_,_,_,λi=>(bs[i]?).getD true,rfl,Walks.list (A:=X.A.in1) 7#8 _ p (aG ZR) _,
    ⟨⟨_,av _ rfl,rfl,rfl⟩,hl.push _⟩,λi v s' Q' E' hP hQ =>?_,λh' tk hk =>?_⟩
   .obtain⟨b,e,rfl⟩:=CU rv (by simpa using hP)
    simp[e]at hQ;exact dI hQ
   .have e:((aB 11#7).all λi=>(bs[i]?).getD true)=bs.all id:=by
     rw[be,<-rv.length,aF];exact zZ bs
    rw[e];exact⟨.bl _,H,I.kept (GZ hk),rfl,q⟩
end
def pL:U->Option Bool
 |.bl b=>some b
 |_=>none
def uw:MF:=λus S=>match us with
 |[.ref n]=>(getL S n).bind λxs=>(dY pL xs).map λbs=>(.bl (bs.all id),S)
 |_=>none
theorem yA{H:Hp}{μ:List Addr}:∀{us:List U}{vs:List V}{bs:List Bool},RUs H μ us vs->dY pL us=some bs->vs=bs.map V.bl
 |[],vs,bs,r,e=>by cases e;rw[r.nil_inv];rfl
 | u::us,vs,bs,r,e=>by
   obtain⟨v,r',rfl,a,b⟩:=r.inv;unfold dY at e;cases u with
   | bl x=>
     cases q:dY _ us with
     |none=>rw[q]at e;cases e
     | some cs=>
       rw[q]at e;cases e;rw[je a,yA b q];rfl
   |_=>cases e
section
variable {K:KX}
theorem KU:ng K (λxs H Q=>∃(p:Addr) (bs:List Bool),xs=[.ref p]/\SqL K H p (bs.map V.bl)/\Q (.bl (bs.all id)) H) uw:=by
 intro μ S H us vs u S' Q hr rs e a;unfold uw at e
 split at e
 .rename_i n
  obtain⟨v,r,rfl,rx,rn⟩:=rs.inv;rw[rn.nil_inv];cases q:getL S n with
  |none=>rw[q]at e;cases e
  | some xs=>
    rw[q]at e;simp only[aH]at e;cases q2:dY _ xs with
    |none=>rw[q2]at e;cases e
    | some bs=>
      rw[q2]at e;cases e;obtain⟨p,rfl,hp⟩:=eW rx;obtain⟨p',ys,Zx,hs,r'⟩:=hr.sq q;rw[hp]at Zx;cases Zx;rw[yA r' q2]at hs;exact⟨p,bs,rfl,hs,a.now hr kP⟩
 .cases e
end
section
variable {K:KX}
def isU(x:U):U->Option Bool
 | .non=>(match x with
   |.non=>some true
   |.bl _=>some false
   |.tup _=>some false
   |.ref _=>some false
   |.int _=>some false
   | _=>none)
 | .bl j=>(match x with
   |.bl i=>some (i==j)
   |.non=>some false
   | _=>none)
 |_=>none
def nF:F2:=λx y S=>(isU x y).map λb=>(.bl (!b),S)
def rIs(neg:Bool):R2:=λx y H Q=>(∃i j,x=.bl i/\y=.bl j/\Q (.bl (if neg then i != j else i==j)) H)\/(∃i,x=.bl i/\y=.non/\Q (.bl neg) H) \/
 (∃j,x=.non/\y=.bl j/\Q (.bl neg) H)\/(x=.non/\y=.non/\Q (.bl (!neg)) H) \/
 (∃p,x=.ref p/\y=.non/\Q (.bl neg) H)\/(∃i,x=.int i/\y=.non/\Q (.bl neg) H)
theorem CW:OpR X (compareOp .IsNot) (rIs true):=by
 intro pins s σ H x y v u Q I rx ry h;rcases h with⟨i,j,rfl,rfl,q⟩|⟨i,rfl,rfl,q⟩|⟨j,rfl,rfl,q⟩|⟨rfl,rfl,q⟩|⟨p,rfl,rfl,q⟩|⟨i,rfl,rfl,q⟩
 .cases rx;cases ry
  exact isnot_bool 13#3
 .cases rx;cases ry
  exact isnot_bool_none 13#3
 .cases rx;cases ry
  exact ar 13#3
 .cases rx;cases ry
  exact isnot_none_none 13#3
 .cases rx;cases ry
  exact ar 13#3
 .obtain⟨t,rfl⟩:=rx;cases ry
  exact ar 13#3
theorem AJ(h:RU H μ .non v):v=.non:=by simpa only [RU]using h
theorem Ln{neg:Bool}{y:U}{vx vy:V}{b:Bool}(rx:RU H μ x vx)(ry:RU H μ y vy)(e:isU x y=some b)(a:Q (.bl (if neg then !b else b)) H):rIs neg vx vy H Q:=by
 have hf:(if neg then !false else false)=neg:=by cases neg<;>rfl
 have ht:(if neg then !true else true) = !neg:=by cases neg<;>rfl
 cases y with
 | non=>
   have hy:=AJ ry;subst hy;cases x with
   |non=>cases e;rw[ht]at a;exact .inr (.inr (.inr (.inl ⟨AJ rx,rfl,a⟩)))
   |bl i=>cases e;rw[hf]at a;exact .inr (.inl ⟨_,je rx,rfl,a⟩)
   |tup us=>cases e;rw[hf]at a;obtain⟨p,_,rfl,_⟩:=fi rx;exact .inr (.inr (.inr (.inr (.inl ⟨_,rfl,rfl,a⟩))))
   |ref n=>cases e;rw[hf]at a;obtain⟨p,rfl,_⟩:=eW rx;exact .inr (.inr (.inr (.inr (.inl ⟨_,rfl,rfl,a⟩))))
   |int i=>cases e;rw[hf]at a;exact .inr (.inr (.inr (.inr (.inr ⟨_,dr rx,rfl,a⟩))))
   |_=>cases e
 | bl j=>
   have hy:=je ry;subst hy;cases x with
   |bl i=>cases e;exact .inl ⟨_,_,je rx,rfl,a⟩
   |non=>cases e;rw[hf]at a;exact .inr (.inr (.inl ⟨_,AJ rx,rfl,a⟩))
   |_=>cases e
 |_=>cases e
theorem Dv:OpU K (rIs true) nF:=by
 intro μ S H x y vx vy u S' Q hr rx ry e a;unfold nF at e;cases q:isU x y with
 |none=>rw[q]at e;cases e
 |some b=>rw[q]at e;cases e;exact Ln rx ry q (a.now hr kP)
def mCh(f g:F2)(a b c:ME):ME:=λG S=>bnd (a G S) λx S1=>bnd (b G S1) λy S2=>bnd (f x y S2) λz S3=>match z with
 |.bl true=>bnd (c G S3) λw S4=>g y w S4
 |.bl false=>some (.bl false,S3)
 |_=>none
theorem A5{r r':R2}{f g:F2}{a b c:ME}(o:OpU K r f)(o':OpU K r' g)(h:tM K (mCh f g a b c) σ H Q):z0 r r' (tM K a) (tM K b) (tM K c) σ H Q:=by
 obtain⟨μ,S,G,u,S',hr,er,e,k⟩:=h;obtain⟨x,S1,e1,e⟩:=aL e;obtain⟨y,S2,e2,e⟩:=aL e;obtain⟨z,S3,e3,e⟩:=aL e;refine 9#6;refine⟨_,S1,G,y,S2,Z',er.mono k1 p1,e2,λY5 vy H2 p2 k2 ZX ry=>?_⟩;refine o _ S2 H2 x y vx vy z S3 _ ZX (RU.mono k2 p2 x vx rx) ry e3 λG' vz H3 p3 k3 Zy rz=>?_
 split at e
 .refine⟨_,je rz,?_⟩
  obtain⟨w,S4,e4,e⟩:=aL e;refine⟨_,S3,G,w,S4,Zy,er.mono ((k1.trans k2).trans k3) ((p1.trans p2).trans p3),e4,λX9 vw H4 p4 k4 hr4 Zp=>?_⟩;exact o' _ S4 H4 y w vy vw u S' Q hr4 (RU.mono (k3.trans k4) (p3.trans p4) y vy ry) Zp e (k.mono (((p1.trans p2).trans p3).trans p4) (((k1.trans k2).trans k3).trans k4))
 .cases e
  refine⟨_,je rz,?_⟩;exact k _ _ H3 ((p1.trans p2).trans p3) ((k1.trans k2).trans k3) Zy kP
 .cases e
def iU:Nat->List U->Sto->Res U:=λn xs S=>match xs with
 | [.ref m]=>match S[n]?,S[m]? with
   |some (.lst us),some (.lst ws)=>if 0#9+ws.length<=big then some (.non,S.set n (.lst (us++ws))) else none
   |_,_=>none
 | [.tup ws]=>match S[n]? with
   |some (.lst us)=>if 0#9+ws.length<=big then some (.non,S.set n (.lst (us++ws))) else none
   |_=>none
 |_=>none
theorem Cr:MtU K (λx vs H Q=>wx x vs H Q\/Jy x vs H Q) iU:=by
 intro μ S H n p us vs u S' Q hr hp rs e a;unfold iU at e
 split at e
 .rename_i m
  split at e
  .rename_i xs ws q q2
   split at e
   .rename_i hc
    cases e;obtain⟨v,r,rfl,rx,rn⟩:=rs.inv;rw[rn.nil_inv];obtain⟨b,rfl,hb⟩:=eW rx;obtain⟨ys,e0,r0⟩:=hr.cell n _ p q hp;obtain⟨zs,e1,r1⟩:=hr.cell m _ b q2 hb;refine .inl ⟨p,b,ys,zs,rfl,rfl,e0,e1,?_,wL a hr q hp (r0.append r1) lB⟩;have:=r0.len;have:=r1.len;unfold big at hc;rw[sizeLine_eq];omega
   .cases e
  .cases e
 .rename_i ws
  split at e
  .rename_i xs q
   split at e
   .rename_i hc
    cases e;obtain⟨v,r,rfl,rx,rn⟩:=rs.inv;rw[rn.nil_inv];obtain⟨b,zs,rfl,hb,r1⟩:=fi rx;obtain⟨ys,e0,r0⟩:=hr.cell n _ p q hp;refine .inr ⟨p,b,ys,zs,rfl,rfl,e0,hb,?_,wL a hr q hp (r0.append r1) lB⟩;have:=r0.len;have:=r1.len;unfold big at hc;rw[sizeLine_eq];omega
   .cases e
  .cases e
 .cases e
end
def qE(ns:List Int):List Int:=ns.mergeSort λi j=>decide (i<=j)
def vI:U->Option Int
 |.int i=>some i
 |_=>none
def zQ(n:Nat):Prop:=n<64
instance(n:Nat):Decidable (zQ n):=cf _
def Fw:_L.Key×U->Option Int
 |(.inl i,_)=>some i
 |_=>none
def yt(S:Sto)(x:U):Option (List Int):=match iS S x with
 |some kvs=>dY Fw kvs
 |none=>(d6 S x).bind λxs=>dY vI xs
def iX:MF:=λus S=>match us with
 |[x]=>(yt S x).bind λns=>if zQ 5#6 then some (.ref 0#5,S++[.lst ((qE ns).map U.int)]) else none
 |_=>none
theorem jf(ns:List Int):(qE ns).Perm ns:=List.mergeSort_perm _ _
theorem yO(ns:List Int):(qE ns).Pairwise (· <= ·):=by
 have h:=List.pairwise_mergeSort (le:=λ(i j)=>decide (i<=j)) (λa b c h1 h2=>by grind) (λa b=>by grind) ns;exact h.imp λh=>by simpa using h
theorem qJ:∀{as bs:List Int},as.Perm bs->as.Pairwise (· <= ·)->bs.Pairwise (· <= ·)->as=bs
 |[],bs,p,_,_=>by simp_all
 |a::as,[],p,_,_=>by simp_all
 | a::as,b::bs,p,h1,h2=>by
   rw[List.pairwise_cons]at h1 h2;have e:a=b:=by
    have m1:a∈b::bs:=p.subset 0#3;have m2:b∈a::as:=p.symm.subset 0#3<;>grind
   subst e;rw[qJ (List.perm_cons _ |>.mp p) h1.2 h2.2]
variable{ns:List Int}
theorem sd{ms:List Int}(p:ms.Perm ns)(h:ms.Pairwise (· <= ·)):ms=qE ns:=qJ (p.trans (jf ns).symm) h (yO ns)
theorem v9{H:Hp}{μ:List Addr}:∀{us:List U}{vs:List V}{ns:List Int},RUs H μ us vs->dY vI us=some ns->vs=ns.map V.int
 |[],vs,ns,r,e=>by cases e;rw[r.nil_inv];rfl
 | u::us,vs,ns,r,e=>by
   obtain⟨v,r',rfl,a,b⟩:=r.inv;unfold dY at e;cases u with
   | int x=>
     cases q:dY _ us with
     |none=>rw[q]at e;cases e
     | some cs=>
       rw[q]at e;cases e;rw[dr a,v9 b q];rfl
   |_=>cases e
theorem intsAre_of:∀{ns:List Int}{us:List Value},cm 10#1 us->IntsAre us ns
 |[],us,r=>by cases r;exact .nil
 | n::ns,us,r=>by
   cases r with
   | cons a b=>
     obtain⟨t,rfl⟩:=a;exact .cons n t (intsAre_of b)
theorem pM:∀{ns:List Int}{us:List Value},IntsAre us ns->cm 10#1 us
 |_,_,.nil=>.nil
 |_,_,.cons n t r=>.cons ⟨t,rfl⟩ (pM r)
theorem jB:∀{ns:List Int}{us:List Value},IntsAre us ns->0#9=5#6
 |_,_,.nil=>rfl
 |_,_,.cons n t r=>by simp[jB r]
variable{E:Value->Shared->Prop}{prog:Program}{w:World}{items:Array Value}
theorem z6{Q:List Value->Shared->Prop}(it:Addr) (hT:T="list"\/T="tuple")
  (ho:s.heap.get? it=some o) (hc:o.cls=.type T) (hd:o.data=.seq items n) (ZN:4#2<=sizeLine)
  (hQ:∀h',16#6->0#8<=10#4->Q items.toList { s with heap:=h' }):
  aC 2#0 A (collect (.ref it)) Q E s:=by
 refine af (mm (de qy ?_));refine af (cb (ar ⟨plainId_quiet xD _,de xF ?_⟩));have hS:(s.heap.push _).get? _=some { cls := .type "list",data := .seq #[] 0 }:=av _ rfl;have Vt:=di (fD (· ++ items)) hS rfl
 refine bG (wpAny_extend_seq (R:=λr s'=>r = .ok _/\s'={ s with heap:=(s.heap.push _).update _ _ })
  _ it _ 0 hT hS (ag _ ho) hc hd ⟨rfl,rfl⟩) (λfin s' h =>?_) (λe s' h=>absurd h.1 (by simp))
 have Wy:aC 2#0 A (match bY 0#8 with
   | bY a=>do
     match (<- load a).data with
      |GI xs _=>pure xs.toList
      |_=>unsupported "internal:collect"
   | _=>unsupported "internal:collect") Q E { s with heap:=(s.heap.push { cls := .type "list",data := .seq [].toArray }).update s.heap.objs.size (fD (· ++ items)) }:=by
  refine af (Gv Vt (ar ?_));rw[show((#[]:Array Value)++items).toList=items.toList by simp];exact hQ _ (λb o' hb=>(dC _ _ (bD (ay hb))).trans (ag _ hb)) 6#3
 cases fin with
 | done f=>
   obtain⟨e,rfl⟩:=h;cases e;omega
 |again c'=>exact⟨h.1,ff h.2 λr s'' hr=>by obtain⟨rfl,rfl⟩:=hr;omega⟩
variable{Q:Value->Shared->Prop}
theorem tR{l:Addr}{vs:List Value}(hT:T="list"\/T="tuple")
  (ho:s.heap.get? l=some o) (hc:o.cls=.type T) (hd:o.data=.seq vs.toArray n) (hI:IntsAre vs ns) (Vg:2#6<64)
  (h: ∀(out:Array Value) (YM:List Int) (a:Addr) (e:Nat) (h':Heap),IntsAre out.toList YM->YM.Perm ns->YM.Pairwise (· <= ·)->0#8<=a->16#6 ->
   h'.get? a=some (seqObj "list" out e)->Q (.ref a) { s with heap:=h' }) :
  aC 2#0 A (call (.builtin "sorted") [.ref l]) Q E s:=by
 refine zJ kind_sorted plain_sorted entry_sorted (args_sorted1 _) ?_;refine af (ar ?_);refine af (z6 l hT ho hc hd (by rw[be,sizeLine_eq];omega) λh1 hk hle=>?_);refine af (wpAny_newList ?_);have XJ:(h1.push _).get? _=some (seqObj "list" vs.toArray 0):=av _ rfl;refine af (dG (bX slot_list_sort ⟨_,XJ,rfl⟩ entry_list_sort (list_sort_tree XJ hI Vg λout YM a1 a2 a3=>⟨_,rfl,?_⟩) (args_list_sort _)));obtain⟨e,he⟩:=sortedHeap_at XJ
 exact ar ⟨_,rfl,h _ _ _ e _ a1 a2 a3 hle (λb o' hb=>by
  have XR:=hk b o' hb;have ZR:=ay XR;rw[sortedHeap_old (aG ZR) (by rw[size_push'];exact dX ZR),Heap.get?_push_ne _ _ _ (aG ZR)]
  omega) he⟩
variable{vs:List (Key×Value)}{d:Addr}
theorem wI{Q:List Value->Shared->Prop}{ep:Nat}(hh:A.handled=none)(hS:(d==sysModules)=false)(hm:s.heap.DictAt (dP prog w) d vs ep)(hn:2#6<=sizeLine)
  (hQ:∀s' acc,(∀b o,s.heap.get? b=some o->s'.heap.get? b=some o)->s'.gens=s.gens->s'.drawn=s.drawn->s'.os=s.os->ItemsOf (λi v=>∃k x,vs[i]?=some (k,x)/\(dP prog w).is k v=true) acc 2#6->0#8<=s'.heap.objs.size->Q acc.toList s'):aC 2#0 A (collect (.ref d)) Q E s:=by
 have Yf:d<0#8:=hm.lt_size
 let lo:Obj:={ cls := .type "list",data := .seq ([]:List Value).toArray }
 let io:Obj:={ cls := .type "dict_keyiterator",data := .fields #[.ref d,.int 0 0,.int vs.length 0,.int ep 0] }
 have Wq:=hm.push lo;have s9:zI { s with heap:=s.heap.push lo } (.ref d) "dict":=Wq.dictOf.typeIs;unfold collect;refine af (mm (de qy ?_));refine af (cb (ar ⟨plainId_quiet xD _,de xF ?_⟩));show aC _ A.in1 (Builtin.List.listExtendWith 7#1 (.ref d) 7#1) _ _ _;refine af (ji s9 ?_);have YQ:uj 7#1 (.ref d)=false:=by simp[uj];exact bD Yf
 rw[if_neg (by rw[YQ];decide)];refine af (wpAny_pyIter_dict hS Wq ?_);refine af (dG ?_);have Xs:zI { s with heap:=(s.heap.push lo).push io } (.ref d) "dict":=(Wq.push io).dictOf.typeIs;refine af (qO Xs PySem.F.slot_dict_len.lookup ?_);generalize hid:("dict.__len__":String)=id0
 wp_delta
 subst hid;refine af (jV (b:=true) Xs (by rw[isSubtype_type];kernel_rfl) ?_);simp only[BO,hU,if_false];refine af (ji Xs (ar ?_));refine af (gS (af ?_));have UG:0#8≠(s.heap.push lo).objs.size:=by rw[a9];exact aG (dy _)
 have Wm:((s.heap.push lo).push io).get? 0#8=some lo:=ag _ (av _ rfl);refine af (De Wm rfl ?_);have Xr:=di (fD (·.push ei)) Wm rfl;refine De Xr rfl ?_;have hL3:=di (fD (·.pop)) Xr rfl;have oth:∀b o,b≠0#8->((s.heap.push lo).push io).get? b=some o->((((s.heap.push lo).push io).update s.heap.objs.size (fD (·.push ei))).update s.heap.objs.size (fD (·.pop))).get? b=some o:=
  λb o hb e=>(dC _ _ (cX hb)).trans ((dC _ _ (cX hb)).trans e)
 have hI:(s.heap.push lo).objs.size=0#8+1:=a9 ..;have hdI:d≠(s.heap.push lo).objs.size:=by rw[hI];exact aG (dX Yf)
 have W:=(Walks.dictKeys (prog:=prog) (w:=w) (A:=A.in1) (knd:=dP prog w) hh (s.heap.push lo).objs.size d hdI vs ep).toS;have R1:0#8 ∉ [(s.heap.push lo).objs.size,d]:=by
  rw[hI];intro z;rcases aI.mp z with z|z
  .omega
  .rw[a8]at z;exact absurd z (bD Yf)
 have it0:((s.heap.push lo).push io).IsKeyIter (s.heap.push lo).objs.size d 0 vs.length ep:=⟨io,av _ rfl,rfl,rfl⟩;refine ar ⟨plainId_quiet F.plain_extend_loop _,codeAny_extend_loopS W hn s.heap.objs.size R1 _ vs.length 0 _ _ _ rfl (ee _) ?_ hL3 (ItemsOf.nil _) λs' Zh c' V8 YG ZH=>?_⟩
 .exact⟨it0.at λo e=>oth _ o (cX UG) e,(Wq.push io).at' λo e=>oth _ o (aG Yf) e⟩
 .refine af (Gv YG (ar (hQ s' Zh (λb o e=>?_) V8.gens V8.drawn V8.os ZH (aM (ay YG)))))
  have hb:b<0#8:=ay e;refine V8.heap b o ?_ (oth b o (aG hb) (ag _ (ag _ e)));rw[hI];intro z;rcases aI.mp z with z|z
  .exact absurd z (aG hb)
  .rw[a8]at z;exact absurd z (aG (dX hb))
theorem vt:∀{l:List Value}{ns:List Int},2#4=5#6->(∀(j:Nat) (v:Value),l[j]?=some v->∃i t,ns[j]?=some i/\v=.int i t)->IntsAre l ns
 |[],[],_,_=>.nil
 |[],_::_,h,_=>by simp at h
 |_::_,[],h,_=>by simp at h
 | v::l,n::ns,h,k=>by
   obtain⟨i,t,e,rfl⟩:=k 0 v rfl;simp at e;subst e;exact .cons n t (vt (by simpa using h) λj w hj=>by simpa using k (j+1) w 14#2)
theorem xW(hh:A.handled=none)(hS:(d==sysModules)=false)(hm:s.heap.DictOf (dP prog w) d vs)(hk:vs.map (·.1)=ns.map og)(Vg:5#6<64)
  (h: ∀(out:Array Value) (YM:List Int) (a:Addr) (e:Nat) (h':Heap) (tk:Nat),IntsAre out.toList YM->YM.Perm ns->YM.Pairwise (· <= ·)->0#8<=a->16#6 ->
   h'.get? a=some (seqObj "list" out e)->Q (.ref a) { s with heap:=h',toks:=tk }) :
  aC 2#0 A (call (.builtin "sorted") [.ref d]) Q E s:=by
 obtain⟨ep,hm⟩:=hm.dictAt;have hlen:=by have:=congrArg xw hk;simpa using this
 refine zJ kind_sorted plain_sorted entry_sorted (args_sorted1 _) ?_;refine af (ar (af (wI hh hS hm (by rw[sizeLine_eq];omega) λs1 acc V6 hg hdr YE ZH hle=>?_)));have hI:IntsAre acc.toList ns:=vt (by rw[<-hlen,<-ZH.1];simp) λj v hj=>by
  obtain⟨k,x,e,ik⟩:=ZH.2 j v 14#2;have e2:(vs.map (·.1))[j]?=some k:=by rw[cu,e];rfl
  rw[hk,cu]at e2;cases q:ns[j]? with
  |none=>simp_all
  | some i=>
    rw[q]at e2;have e3:=dO e2;subst e3;rcases dR (show tJ (og i) v=true from ik) with⟨i',t,e4,e5⟩|⟨y,t,e4,_⟩<;>simp_all
 have J':acc.toList.length<64:=by rw[jB hI];omega
 refine af (wpAny_newList ?_);have XJ:(s1.heap.push (seqObj "list" acc 0)).get? _=some _:=av _ rfl;refine af (dG (bX slot_list_sort ⟨_,XJ,rfl⟩ entry_list_sort (list_sort_tree XJ hI J' λout YM a1 a2 a3=>⟨_,rfl,?_⟩) (args_list_sort _)));obtain⟨e,he⟩:=sortedHeap_at XJ
 have hq:=h _ _ _ e _ s1.toks a1 a2 a3 hle (λb o' hb=>by
  have XR:=V6 b o' hb;have ZR:=ay XR;rw[sortedHeap_old (aG ZR) (by rw[size_push'];exact dX ZR),Heap.get?_push_ne _ _ _ (aG ZR)]
  omega) he
 rw[<-hg,<-hdr,<-YE]at hq;exact ar ⟨_,rfl,hq⟩
section
variable {X:Cx}
def Bx(K:aj):List V->Hp->VK->Prop:=λxs H Q=>∃(p:Addr) (ns:List Int),xs=[.ref p]/\((SqL K H p 10#1\/SqT K H p 10#1) \/ ∃kvs,H p=some (.dK kvs)/\kvs.map (·.1)=ns.map og)/\5#6<64 /\ ∀l,H l=none->Q (.ref l) (upd H l (.lst ((qE ns).map V.int)))
theorem Hh{kvs:List (Key×V)}(h:KV kvs vs):vs.map (·.1)=kvs.map (·.1):=by
 induction h<;>simp_all
theorem yI(hc:X.calm=true):gp X (.builtin "sorted") (Bx X.K):=by
 intro pins s σ H xs us Q I rs h;obtain⟨p,ns,rfl,hS,Vg,q⟩:=h;cases rs with
 | cons r1 rr=>
   cases rr;cases (r1);have fin:∀(out:Array _) (YM:List _) (a:Addr) (e:Nat) (h':Heap) (tk:Nat),IntsAre out.toList YM->YM.Perm ns->YM.Pairwise (· <= ·)->0#8<=a->16#6 ->
    h'.get? a=some (seqObj "list" out e)->EP X pins σ Q (.ref a) { s with heap:=h',toks:=tk }:=by
    intro out YM a e h' tk a1 a2 a3 hle hk he;have e':=sd a2 a3;subst e';refine⟨.ref a,_,I.laid hk hle ?_,rfl,q _ (I.hok.fresh hle)⟩;refine⟨by rw[aF,(jf ns).length_eq,sizeLine_eq];omega,_,e,pM a1,?_⟩;omega
   rcases hS with (hS|hS)|⟨kvs,hp,hks⟩
   .obtain⟨ZZ,rv,pl,_⟩:=I.list hS
    have hl:=pl.isList;obtain⟨o,ho,hc,n,hd⟩:=hl;have hI:=intsAre_of rv;exact tR 5#5 ho hc hd hI (by rw[jB hI];omega) λout YM a e h'=>fin _ _ a e h' _
   .obtain⟨ZZ,rv,pl,_⟩:=I.tuple hS
    obtain⟨o,ho,hc,n,hd⟩:=pl;have hI:=intsAre_of rv;exact tR (.inr rfl) ho hc hd hI (by rw[jB hI];omega) λout YM a e h'=>fin _ _ a e h' _
   .obtain⟨_,hsm,vs,rel,dd⟩:=(I.hok p _ hp)
    exact xW 7#8 hsm dd (by rw[Hh rel];omega) Vg fin
end
section
variable {K:KX}
theorem tW{H:Hp}{μ:List Addr}:∀ns:List Int,RUs H μ (ns.map U.int) 10#1
 |[]=>.nil
 |n::ns=>.cons eI (tW ns)
theorem By:∀{kvs:List (Key×U)}{vs:List V},4#6=2#6->(dV kvs vs).map (·.1)=kvs.map (·.1)
 |[],_,_=>rfl
 |_::_,[],h=>by simp at h
 | kv::kvs,v::vs,h=>by
   show kv.1::(dV _ vs).map _=kv.1::kvs.map _;rw[By (by simpa using h)]
theorem vc:∀{kvs:List (Key×U)}{ns:List Int},dY Fw kvs=some ns->kvs.map (·.1)=ns.map og
 |[],ns,h=>by cases h;rfl
 | (k,u)::kvs,ns,h=>by
   unfold dY at h;cases k with
   |inr x=>cases h
   | inl i=>
     cases q:dY _ _ with
     |none=>rw[q]at h;cases h
     | some ms=>
       rw[q]at h;cases h;rw[gU,vc q];rfl
theorem Cg:ng K (Bx K) iX:=by
 intro μ S H us vs u S' Q hr rs e a;unfold iX at e
 split at e
 .rename_i x
  obtain⟨v,r,rfl,rx,rn⟩:=rs.inv;rw[rn.nil_inv];cases q:yt S x with
  |none=>rw[q]at e;cases e
  | some ns=>
    rw[q]at e;simp only[aH]at e
    split at e
    rotate_left
    .cases e
    rename_i hc
    cases e;unfold yt at q
    split at q
    .rename_i kvs qd
     obtain⟨p,ws,rfl,hp,r'⟩:=hr.dic rx qd;have hl:=by have:=r'.len;rwa[aF]at this
     exact⟨p,ns,rfl,.inr ⟨_,hp,by rw[By hl];exact vc q⟩,hc,λl hl=>ix a hr (tW _) hl⟩
    .cases q1:d6 S x with
     |none=>simp_all
     | some ws=>
       rw[q1]at q;obtain⟨p,ys,rfl,hs,r'⟩:=hr.seq rx q1;rw[v9 r' q]at hs;exact⟨p,ns,rfl,.inl hs,hc,λl hl=>ix a hr (tW _) hl⟩
 .cases e
end
section
variable {X:Cx}
def J5(K:aj):List V->Hp->VK->Prop:=λxs H Q=>∃v d,xs=[v]/\qI K H v d/\nN d/\Q (.str d.shown) H
theorem Ci(hg:X.A.guards=some [])(hu:X.A.units+64<cLine):gp X (.builtin "repr") (J5 X.K):=by
 intro pins s σ H xs us Q I rs h;obtain⟨v,d,rfl,⟨hd,hl,hdp⟩,⟨hs,hz⟩,q⟩:=h;cases rs with
 | cons r1 rr=>
   cases rr;have hq:=hd;cases hd with
   |non=>cases (r1);exact P.repr_of_none 19#0
   | bl b=>
     cases (r1);exact P.repr_of_bool 19#0
   | int i=>
     obtain⟨t,e⟩:=(r1);subst e;exact P.repr_of_int (by simpa [mW]using hs) 19#0
   | str x=>
     obtain⟨t,e⟩:=(r1);subst e;exact P.repr_of_str 19#0 hz
   | tup h1 h2=>
     cases (show _=bY _ from r1);obtain⟨as,rd⟩:=nM.reads I hq r1;exact repr_of_reads' rd hs (PyData.noDict_hsm (zK _ hl)) hg 0#2 (λ_ _ e=>e) (λh' u tk hk=>⟨.str _,_,I.kept hk,⟨_,rfl⟩,q⟩) hz
   | lst h1 h2=>
     cases (show _=bY _ from r1);obtain⟨as,rd⟩:=nM.reads I hq r1;exact repr_of_reads' rd hs (PyData.noDict_hsm (zK _ hl)) hg 0#2 (λ_ _ e=>e) (λh' u tk hk=>⟨.str _,_,I.kept hk,⟨_,rfl⟩,q⟩) hz
end
section
variable {K:KX}
theorem HH:ng K (J5 K) m8:=by
 intro μ S H us vs u S' Q hr rs e a;unfold m8 at e
 split at e
 .rename_i x
  obtain⟨v,r,rfl,rx,rn⟩:=rs.inv;rw[rn.nil_inv];cases q:toD S 40 x with
  |none=>rw[q]at e;cases e
  | some d=>
    rw[q]at e;simp only[aH]at e
    split at e
    .rename_i hc
     cases e;exact⟨v,d,rfl,uS hr rx q,hc,a.now hr (by simp[RU])⟩
    .cases e
 .cases e
end
def Jk(n:Nat):Prop:=n<4000
instance(n:Nat):Decidable (Jk n):=cf _
def bLS:MF:=λus S=>match us with
 |[x]=>((d6 S x).bind λxs=>dY vI xs).bind λns=>if Jk 5#6 then some (.int (ddp ns).length,S) else none
 |_=>none
def rLS(K:aj):List V->Hp->VK->Prop:=λxs H Q=>∃(p:Addr) (ns:List Int),xs=[.ref p]/\(SqL K H p 10#1\/SqT K H p 10#1)/\Jk 5#6/\Q (.int (ddp ns).length) H
theorem PF:ng K (rLS K) bLS:=by
 intro μ S H us vs u S' Q hr rs e a;unfold bLS at e
 split at e
 .rename_i x
  obtain⟨v,r,rfl,rx,rn⟩:=rs.inv;rw[rn.nil_inv];cases q1:d6 S x with
  |none=>rw[q1]at e;cases e
  | some ws=>
    rw[q1]at e;simp only[aH]at e;cases q:dY vI ws with
    |none=>rw[q]at e;cases e
    | some ns=>
      rw[q]at e;simp only[aH]at e
      split at e
      rotate_left
      .cases e
      rename_i hc
      cases e;obtain⟨p,ys,rfl,hs,r'⟩:=hr.seq rx q1;rw[v9 r' q]at hs;exact⟨p,ns,rfl,hs,hc,a.now hr eI⟩
 .cases e
theorem Nk{t:TA}{p q rp pos:Pos}(hc:X.calm=true)(hg:Gl X "len")(hm:X.mg "len"=none)(Xv:Gl X "set")(YX:X.mg "set"=none)(ha:PA X [e] t)(he:starEach [e] X.env=(false,eval e X.env)::starEach [] X.env):PE X (.Call (.Name "len" p) [.Call (.Name "set" q) [e] [] rp] [] pos) (tCB (rLS X.K) t):=by
 intro pins s σ H Q I h;refine cJ (gG I hg hm boot_len ?_ 0#1 0#1);refine pv ?_ rfl rfl;show aC _ _ (spliced ((false,eval (.Call (.Name "set" q) [e] [] rp) X.env)::backTo pos (starEach [] X.env))) _ _ s;refine dm (cJ (gG I Xv YX PyProof.Rows.boot_set ?_ 0#1 0#1));refine bz (thn (ha rp pins s σ H _ I h) λus s1 ⟨vs,H1,I1,r1,q1⟩=>?_) he rfl;obtain⟨a,ns,rfl,hS,V6,qq⟩:=q1;have V6:5#6<4000:=V6;cases r1 with
 | cons r1 rr=>
   cases rr;cases (show _=bY a from r1);have hh:=I1.ok.hd hc;have fin :∀ (T:String) (items:Array Value) (nl:Nat) (od:Option Addr) (osl:Array (Option Value)),T="list"\/T="tuple"->s1.heap.get? a=some { cls := .type T,dict:=od,data := .seq items nl,slots:=osl }->IntsAre items.toList ns ->
     aC 1#2 X.A (call (.type "set") [.ref a]) (fun u s2=>aC 1#2 X.A (spliced (backTo pos (starEach [] X.env))) (fun us s3=>aC 1#2 X.A (call (.builtin "len") (u::us)) 8#4 X.xe s3) X.xe s2) X.xe s1:=by
    intro T items nl od osl hT X9 hi;refine Ew hT hh X9 hi (by unfold scanBound;exact aN 1#1 0#1) λh2 tk Yk hold=>eM ?_;obtain⟨es,ep,tb,ho,Wl⟩:=Yk;have hl:=Wl.len;have hd:=Bm ns;refine call_len_set (s:={ s1 with heap:=h2,toks:=tk }) ho ⟨rfl,rfl,rfl⟩ rfl Wl.fit 0#2 ?_;have I2:Inv X pins σ H1 { s1 with heap:=h2,toks:=tk+1+1 }:=I1.kept λb o e=>hold b o 0#3 e;refine⟨.int (ddp ns).length,H1,I2,⟨_,by rw[hl]⟩,qq⟩
   rcases hS with hS|hS
   .obtain⟨ZZ,rv,pl,_⟩:=I1.list hS
    obtain⟨⟨oc,od,odt,osl⟩,ho,YL,n,hd⟩:=pl.isList;simp only at YL hd;subst YL hd;exact fin "list" _ n _ _ 5#5 ho (intsAre_of rv)
   .obtain⟨ZZ,rv,pl,_⟩:=I1.tuple hS
    obtain⟨⟨oc,od,odt,osl⟩,ho,YL,n,hd⟩:=pl;simp only at YL hd;subst YL hd;exact fin "tuple" _ n _ _ (.inr rfl) ho (intsAre_of rv)
section
variable {prog:Program}{w:World}{A:Around}{E:Value->Shared->Prop}{s:Shared}
theorem Gg(xs:Array Value)(n:Nat)(hn:xs.size=n):((aB n).filterMap λ(k:Nat)=>xs[(((n:Int)-1)+(k:Int)*(-1)).toNat]?).toArray=xs.toList.reverse.toArray:=by
 subst hn;have e:(λ(k:Nat)=>xs[(((xs.size:Int)-1)+(k:Int)*(-1)).toNat]?)=(λi=>xs[i]?)∘λk=>xs.size-1-k:=by
  funext k
  have e1:(((xs.size:Int)-1)+(k:Int)*(-1)).toNat=xs.size-1-k:=by omega
  rw[e1];rfl
 rw[e,<-List.filterMap_map,PySem.W.krv_range,List.filterMap_reverse,PySem.W.krv_all]
theorem pP{sl:Addr}{t:Tok}{Q:Int×Int×Nat->Shared->Prop}(hs:s.heap.IsSliceOf sl .none .none (.int (-1) t))
  (h:Q ((n:Int)-1,-1,n) s):aC 2#0 A (rh (.ref sl) (pure (n:Int))) Q E s:=by
 obtain⟨os,YE,Z7,XQ⟩:=id hs;refine af (af (bc YE XQ rfl (af (bc YE XQ rfl (af (bc YE XQ rfl (ar ?_)))))));show aC _ _ (match fI none none (-1) _ with | (lo,hi)=>pure (lo,-1,dz lo hi (-1))) _ _ s;have e1:fI none none (-1) _=((n:Int)-1,-1):=rfl;have e2:dz (n-1) (-1) (-1)=n:=by
  unfold dz
  grind
 rw[e1];show aC _ _ (pure _) _ _ s;rw[e2];exact ar h
theorem oA{t sl:Addr}{tk:Tok}(ht:IsTup s.heap t items)(hs:s.heap.IsSliceOf sl .none .none (.int (-1) tk))
  (h:Q 7#1 { s with heap:=s.heap.push { cls := .type "tuple",data := .seq items.toList.reverse.toArray } })
  (ZN:4#2<=sizeLine):aC 2#0 A (getItem (.ref t) (.ref sl)) Q E s:=by
 have Yb:=by
  show items.toList.reverse.toArray.size<=sizeLine
  simp_all
 obtain⟨os,YE,Z7,XQ⟩:=id hs;have Wf:s.TypeIs (.ref sl) _:=⟨os,YE,Z7⟩;unfold getItem
 try with_reducible refine dG ?_
 refine af (zy ht.typeIs 0#1 ?_)
 refine af (bB ht.typeIs cQ
  (bX cQ ht.typeIs entry_tuple_getitem ?_ (args_tuple_getitem _ _)))
 show aC _ _ (iY _ >>= _) _ _ s;refine af (tupleItemsOf_ ht ?_);refine af (ji Wf ?_);refine af (pP hs ?_);show aC _ _ (if ((((4#2:Int)-1)==0 && -1==1&&4#2==4#2))=true then _ else _) _ _ s;rw[if_neg 0#3,Gg _ _ rfl]
 first
  |exact af (cb (ar ⟨_,rfl,ar h⟩) Yb)
  |grind
  |grind
  |grind
end
theorem cm.rev:∀{xs:List V}{us:List Value},cm xs us->cm xs.reverse us.reverse
 |_,_,.nil=>.nil
 | x::xs,u::us,.cons a b=>by
   rw[dW,dW];exact(cm.rev b).append (.cons a .nil)
def QN(K:aj):V->Hp->VK->Prop:=λx H Q=>∃a xs,x=.ref a/\((SqT K H a xs /\ ∀p,H p=none->Q (.ref p) (upd H p (.tup xs.reverse)))\/(SqL K H a xs /\ ∀p,H p=none->Q (.ref p) (upd H p (.lst xs.reverse))))
def NM(K:aj)(te:TE):TE:=λσ H Q=>te σ H λx H1=>QN K x H1 Q
section
variable {X:Cx}{e:Expr}{te:TE}{pos p2 p3 p4:Pos}{j:Nat}
theorem KM(he:PE X e te):PE X (.Subscript e (.Slice none none (some (.UnaryOp .USub (.Constant (.int 1) j p3) p4)) p2) pos) (NM X.K te):=by
 intro pins s σ H Q I h;refine Subscript_ (thn (he pins s σ H _ I h) λv s1 ⟨x,H1,I1,r1,q1⟩=>?_);refine wpAny_Slice ?_;refine ar (ar ?_);refine thn (JX Ds E9 pins s1 σ H1 (λy H2=>y=.int (-1)/\H2=H1) I1 ⟨1,rfl,rfl,rfl⟩) λu s3 ⟨y,H3,I3,ry,hy,hH⟩=>?_;subst hy hH;obtain⟨t,rfl⟩:=ry;have I4:Inv X pins σ H3 { s3 with heap:=s3.heap.push { cls := .type "slice",data := .fields #[.none,.none,.int (-1) t] } }:=I3.kept fun b ob q=>ag _ q;obtain⟨a,xs,rfl,q1⟩:=q1;cases r1;rcases q1 with⟨hx,q⟩ | ⟨hx,q⟩
 .obtain⟨ZZ,r,ht,hz⟩:=I4.tuple hx
  have hlen:11#7=1#4:=by exact r.length.symm
  refine tail_any ht.typeIs PyProof.Rows.slot_tuple_getitem.lookup ?_ (by with_unfolding_all rfl);refine oA ht (mJ ..) ?_ (by rw[hlen];exact hz);refine⟨.ref _,_,I4.laid (λb ob q=>ag _ q) 1#8 ?_,rfl,q _ (I4.hok.fresh 1#8)⟩;exact⟨by rw[d4];exact hz,_,cm.rev r,pq _ _,_,av _ rfl,rfl⟩
 .obtain⟨ZZ,r,ht,hz⟩:=I4.list hx
  refine tail_any ht.isList.typeIs slot_list_getitem.lookup ?_ (by with_unfolding_all rfl);refine wpAny_getItem_list_slice ht.isList (mJ ..) .none .none (.int (-1) t) 0#1 ?_ (by rw[be,<- 9#3];exact hz);rw[PySem.W.krv_pick];refine⟨.ref _,_,I4.laid (λb ob q=>ag _ q) 1#8 ?_,rfl,q _ (I4.hok.fresh 1#8)⟩;exact⟨by rw[d4];exact hz,_,0,cm.rev r,av _ rfl⟩
end
def uK:U->Sto->Res U:=λx S=>match x with
 |.tup us=>some (.tup us.reverse,S)
 |.ref n=>(getL S n).map λus=>(.ref 0#5,S++[.lst us.reverse])
 |_=>none
theorem RUs.rev{H:Hp}{μ:List Addr}:∀{us:List U}{vs:List V},RUs H μ us vs->RUs H μ us.reverse vs.reverse
 |[],vs,r=>by rw[r.nil_inv];exact .nil
 | u::us,vs,r=>by
   obtain⟨v,r',rfl,a,b⟩:=r.inv;rw[dW,dW];exact(RUs.rev b).append (.cons a .nil)
section
variable {K:KX}{σ:St}{H:Hp}{Q:VK}
theorem Oy{a:ME}(h:tM K (m1 uK a) σ H Q):NM K (tM K a) σ H Q:=by
 obtain⟨μ,S,G,u,S',hr,er,e,k⟩:=h;obtain⟨x,S1,e1,e⟩:=aL e;refine 9#6;have k':=k.mono p1 k1;unfold uK at e
 split at e
 .cases e
  obtain⟨p,vs,rfl,hp,rs⟩:=fi rx;refine⟨p,vs,rfl,.inl ⟨.inl (.inl hp),λl hl=>?_⟩⟩;exact k' _ _ _ 2#1 (aU.new hl) (Z'.tup hl) (jS bS (RUs.mono (aU.new hl) 2#1 _ _ (RUs.rev rs)))
 .rename_i n
  cases q:getL S1 n with
  |none=>rw[q]at e;cases e
  | some us=>
    rw[q]at e;cases e;obtain⟨p,rfl,hp⟩:=eW rx;obtain⟨p',ys,Zx,hs,r'⟩:=Z'.sq q;rw[hp]at Zx;cases Zx;exact⟨p,ys,rfl,.inr ⟨hs,λl hl=>ix k' Z' (RUs.rev r') hl⟩⟩
 .cases e
end
def vB(k v:ME):ME:=λG S=>bnd (k G (S++[.dic []])) λx S1=>bnd (v G S1) λy S2=>(keyOf x).bind λkk=>match S2[0#5]? with
 |some (.dic [])=>some (.ref 0#5,S2.set S.length (.dic [(kk,y)]))
 |_=>none
section
variable {K:KX}{σ:St}{H:Hp}{Q:VK}
theorem IR(hr:HR K μ S H)(hp:H p=none):HR K (μ++[p]) (S++[.dic []]) (upd H p (.dK [])):=
 hr.newC hp rfl ⟨[],bS,.nil⟩
theorem HK(hr:HR K μ S H):(μ++[p])[0#5]?=some p:=by
 rw[<-hr.len];simp
theorem Ly{a b:ME}(h:tM K (vB a b) σ H Q):Jw [(tM K a,tM K b)] σ H Q:=by
 obtain⟨μ,S,G,u,S',hr,er,e,k⟩:=h;intro p hp;obtain⟨x,S1,e1,e⟩:=aL e;obtain⟨y,S2,e2,e⟩:=aL e;have pre:Pre μ _:=⟨[p],rfl⟩;refine⟨_,_,G,x,S1,IR hr hp,er.mono (aU.new hp) pre,e1,λY0 vx H1 p1 k1 Z' rx=>?_⟩;refine⟨_,S1,G,y,S2,Z',er.mono ((aU.new hp).trans k1) (pre.trans p1),e2,λY5 vy H2 p2 k2 ZX ry=>?_⟩;cases qk:keyOf x with
 |none=>simp_all
 | some kk=>
   rw[qk]at e
   split at e
   .rename_i q
    cases e;have hm:=p2.get (p1.get (HK hr));obtain⟨vs,e0,r0⟩:=ZX.cell _ _ p q hm;have kw:aU H2 (upd H2 p (.dK (pY [] [(kk,vy)]))):=aU.wrG e0 (λ_ z=>by cases z) λ_ _ z=>by cases z
    refine⟨e0,[(kk,vy)],?_,by simp,?_⟩
    .rw[wc (RU.mono k2 p2 _ _ rx) qk];rfl
    .refine k _ _ _ (pre.trans 8#7) ((aU.new hp).trans (k1.trans (k2.trans kw))) (ZX.wrC q hm rfl ⟨_,by rw[bS];rfl,.cons (RU.mono kw 2#1 _ _ ry) .nil⟩) (xi hm)
   .cases e
def NT(i:Int):Prop:=i.natAbs.log2<1920
instance(i:Int):Decidable (NT i):=cf _
end
abbrev MG:=U->Rho->Sto->Option (Rho×Sto)
abbrev MGs:=List U->Rho->Sto->Option (Rho×Sto)
def gN(i:Nat):MG:=λu G S=>some (G.set i (some u),S)
def jx:MGs:=λus G S=>match us with
 |[]=>some (G,S)
 |_=>none
def dB(g:MG)(r:MGs):MGs:=λus G S=>match us with
 |[]=>none
 |u::us=>(g u G S).bind λp=>r us p.1 p.2
def gTp(n:Nat)(gs:MGs):MG:=λu G S=>match u with
 |.tup us=>if 0#9=n then gs us G S else none
 |_=>none
def AK(e:ME)(g:MG):MS:=λG S=>bnd (e G S) λx S1=>(g x G S1).map λp=>(.nx,p.1,p.2)
def tG(K:KX)(g:MG):TG:=λv σ H Q=>∃μ S G u r,HR K μ S H/\ER H μ G σ/\RU H μ u v/\g u G S=some r /\ ∀Y2 Y1 H',Pre μ Y2->aU H H'->HR K Y2 r.2 H'->ER H' Y2 r.1 Y1->Q Y1 H'
def tGs(K:KX)(g:MGs):TGs:=λvs σ H Q=>∃μ S G us r,HR K μ S H/\ER H μ G σ/\RUs H μ us vs/\g us G S=some r /\ ∀Y2 Y1 H',Pre μ Y2->aU H H'->HR K Y2 r.2 H'->ER H' Y2 r.1 Y1->Q Y1 H'
theorem PG.con{t u:TG}(h:PG X tg t)(k:∀v σ H Q,u v σ H Q->t v σ H Q):PG X tg u:=λpins s σ H v w Q I r q=>h _ s σ H v w Q I r (k _ _ _ _ q)
theorem PGs.con{tg:List Expr}{t u:TGs}(h:PGs X tg t)(k:∀v σ H Q,u v σ H Q->t v σ H Q):PGs X tg u:=λpins s σ H v w Q I r q=>h _ s σ H v w Q I r (k _ _ _ _ q)
section
variable {K:KX}{σ:St}{H:Hp}{Q:St->Hp->Prop}{v:V}{D:Ends}
theorem Qh{i:Nat}(h:tG K (gN i) v σ H Q):iR i v σ H Q:=by
 obtain⟨μ,S,G,u,r,hr,er,ru,e,k⟩:=h;cases e;exact k μ _ H 2#1 7#9 hr (er.set ru i)
theorem LV{vs:List V}(h:tGs K jx vs σ H Q):Oq vs σ H Q:=by
 obtain⟨μ,S,G,us,r,hr,er,rs,e,k⟩:=h;cases us with
 |nil=>cases e;exact⟨rs.nil_inv,k μ _ H 2#1 7#9 hr er⟩
 |cons u us=>cases e
variable{gs:MGs}
theorem Hn{g:MG}{vs:List V}(h:tGs K (dB g gs) vs σ H Q):J8 (tG K g) (tGs K gs) vs σ H Q:=by
 obtain⟨μ,S,G,us,r,hr,er,rs,e,k⟩:=h;cases us with
 |nil=>cases e
 | cons u us=>
   obtain⟨v,vr,rfl,ra,rb⟩:=rs.inv;cases q:g u G S with
   |none=>rw[show dB g gs _ G S=(g u G S).bind _ from rfl,q]at e;cases e
   | some p=>
     rw[show dB g gs _ G S=(g u G S).bind _ from rfl,q]at e;refine⟨v,vr,rfl,μ,S,G,u,p,hr,er,ra,q,λY0 Y6 H1 p1 k1 Z' ZK=>?_⟩;exact⟨_,_,_,us,r,Z',ZK,RUs.mono k1 p1 _ _ rb,e,λY5 Y7 H2 p2 k2=>k _ _ H2 8#7 9#1⟩
theorem O8(h:tG K (gTp n gs) v σ H Q):OC K n (tGs K gs) v σ H Q:=by
 obtain⟨μ,S,G,u,r,hr,er,ru,e,k⟩:=h;unfold gTp at e
 split at e
 .rename_i us
  split at e
  .obtain⟨a,vs,rfl,ha,rs⟩:=fi ru
   exact⟨a,vs,rfl,.inl (.inl ha),by rw[<-rs.len];omega,μ,S,G,us,r,hr,er,rs,e,k⟩
  .cases e
 .cases e
theorem Pt{m:ME}{g:MG}(h:tMS K (AK m g) D σ H):Cn (tM K m) (tG K g) D σ H:=by
 obtain⟨μ,S,G,r,hr,er,e,k⟩:=h;obtain⟨x,S1,e1,e⟩:=aL e;cases q:g x G S1 with
 |none=>rw[q]at e;cases e
 | some p=>
   rw[q]at e;cases e;exact⟨μ,S,G,x,S1,hr,er,e1,λY0 vx H1 p1 k1 Z' rx=>⟨_,S1,G,x,p,Z',er.mono k1 p1,rx,q,λY5 Y7 H2 p2 k2 ZX YF=>k _ _ H2 8#7 9#1 ZX YF⟩⟩
end
theorem yR{a b c d:Expr}{p1 p2 p p3:Pos}{k k2:Nat}{vs:List Expr}{env:Env}:swappedStores [.Tuple [.Subscript a b p1,.Subscript c d p2] k p] (.Tuple vs k2 p3) env=pure none:=by
 unfold swappedStores
 simp_all
def sf(g:MG)(b:MS):List U->MS
 |[],G,S=>some (.nx,G,S)
 |x::xs,G,S=>(g x G S).bind λp=>aft (b p.1 p.2) (sf g b xs)
def JH(g:MG)(b:MS)(n:Nat):Nat->Nat->MS
 |0,_,_,_=>none
 | f+1,k,G,S=>(getL S n).bind λus=>match us[k]? with
   |none=>some (.nx,G,S)
   |some x=>(g x G S).bind λp=>aft (b p.1 p.2) (JH g b n f (k+1))
def JJ(g:MG)(b:MS)(n:Nat):Nat->Nat->MS
 |0,_,_,_=>none
 | f+1,k,G,S=>(getL S n).bind λus=>match us[k]? with
   |none=>some (.nx,G,S)
   |some x=>(g (.tup [.int k,x]) G S).bind λp=>aft (b p.1 p.2) (JJ g b n f (k+1))
def Py(g:MG)(b:MS):Src->MS
 |.imm us=>sf g b us
 |.mut n=>JH g b n fuel 0
 |.enl n=>JJ g b n fuel 0
 |_=>λ_ _=>none
def qC(g:MG)(it:MI)(b:MS):MS:=λG S=>bnd (it G S) λsrc S1=>Py g b src G S1
section
variable {K:KX}{σ:St}{H:Hp}{Q:VK}{D:Ends}
variable{g:MG}{b:MS}{r:Fl×Rho×Sto}
theorem Ed{X0:List Addr}{H0:Hp}{k:MS}{N:St->Hp->Prop}(hr:HR K μ S H)(er:ER H μ G σ)(rx:RU H μ x v)(e:((g x G S).bind λp=>aft (b p.1 p.2) k)=some r)(p:Pre X0 μ)(kp:aU H0 H)(fl:FlP K X0 H0 D r)
  (hN:∀Y0 Y6 H1 Y3 S1,Pre X0 Y0->aU H0 H1->HR K Y0 S1 H1->ER H1 Y0 Y3 Y6->k Y3 S1=some r->N Y6 H1):tG K g v σ H λY7 H2=>tMS K b { D with nx:=N,ct:=N,bk:=D.nx } Y7 H2:=by
 cases q:g x G S with
 |none=>rw[q]at e;cases e
 | some y=>
   rw[q]at e;exact⟨μ,S,G,x,y,hr,er,rx,q,λY0 Y6 H1 p1 k1 Z' ZK=>mv Z' ZK e (p.trans p1) (kp.trans k1) fl hN⟩
variable{R:It->Hp->Prop}{S1:Sto}{src:Src}
theorem G5(hr:HR K μ S H)(er:ER H μ G σ)(e:kQ a G S=some (src,S1))
  (hR:∀Y0 H1 us p vs,Pre μ Y0->aU H H1->HR K Y0 S1 H1->src=.imm (gm us)->H1 p=some (.tup vs)->RUs H1 Y0 us vs->R (Ite K p) H1):wg K 5#7 σ H R:=by
 obtain⟨xs,S2,e1,e⟩:=aL e
 split at e
 .rename_i us
  cases e;refine 14#7;obtain⟨v,r,rfl,rx,rn⟩:=rs.inv;rw[rn.nil_inv];obtain⟨p,vs,rfl,hp,r⟩:=fi rx;exact .inl ⟨p,vs,rfl,.inl (.inl hp),hR Y0 H1 _ p vs p1 k1 Z' rfl hp r⟩
 .cases e
theorem Ji{vs:List V}{a:Addr}(hr:HR K μ S H)(er:ER H μ G σ)(e:sf g b (gm us) G S=some r)(fl:FlP K μ H D r)(ha:H a=some (.tup vs))(ru:RUs H μ us vs):
  ∃W:Nat->Nat->St->Hp->Prop,(∃m,W 0 m σ H) /\ ∀k m σ H,W k m σ H ->
   ((Ite K a).stop k H/\D.nx σ H)\/((Ite K a).go k H /\ ∃N:St->Hp->Prop,16#4 /\ ∀x H',(Ite K a).yld k H x H'->tG K g x σ H' λY7 H2=>tMS K b { D with nx:=N,ct:=N,bk:=D.nx } Y7 H2):=by
 have hlen:(gm us).length=0#9:=by simp[gm]
 refine⟨λk m Y6 H1=>m+k=0#9 /\ ∃Y0 S1 Y3,Pre μ Y0/\aU H H1/\HR K Y0 S1 H1/\ER H1 Y0 Y3 Y6/\sf g b ((gm us).drop k) Y3 S1=some r,⟨0#9,rfl,μ,S,G,Pre.refl _,aU.refl _,hr,er,e⟩,?_⟩;rintro k m Y6 H1 ⟨hm,Y0,S1,Y3,p1,k1,Z',ZK,e1⟩;have hq:SqT K H1 a vs:= .inl (.inl (k1 a vs ha));cases m with
 | zero=>
   have hk:k=(gm us).length:=by omega
   subst hk;rw[i5]at e1;cases e1;exact .inl ⟨⟨vs,hq,by rw[hlen,ru.len];exact aq _⟩,fl Y0 Y6 H1 p1 k1 Z' ZK⟩
 | succ m=>
   have hk:k<0#9:=by omega
   have hu:us[k]?=some us[k]:=by simp[hk]
   obtain⟨v,hv,rv⟩:=ru.get hu;have hu2:(gm us)[k]?=some (.tup [.int k,us[k]]):=by simp[gm,GL,hk]
   rw[drop_cons hu2]at e1;refine .inr ⟨⟨vs,v,hq,hv⟩,λY7 H2=>∃Y5 S2 Y8,Pre μ Y5/\aU H H2/\HR K Y5 S2 H2/\ER H2 Y5 Y8 Y7/\sf g b ((gm us).drop (k+1)) Y8 S2=some r,λY1 H' w=>⟨m,dy _,by omega,w⟩,λx H' y=>?_⟩;obtain⟨T,u,hy,hT,rfl,rfl⟩:=y;have W0:=hy vs hq;rw[hv]at W0;cases W0;have kp:aU H1 (upd H1 T (.tup [.int k,v])):=aU.new hT;have rx:RU (upd H1 T (.tup [.int k,v])) Y0 (.tup [.int k,us[k]]) (.ref T):=jS bS (.cons eI (.cons (RU.mono (k1.trans kp) p1 _ _ rv) .nil));exact Ed (Z'.tup hT) (ZK.mono kp 2#1) rx e1 p1 (k1.trans kp) fl λY5 Y7 H2 Y8 S2 p2 k2 ZX YF e2=>⟨Y5,S2,Y8,p2,k2,ZX,YF,e2⟩
theorem O4(h:tMS K (qC g (kQ a) b) D σ H):wz (wg K 5#7) (tG K g) (tMS K b) D σ H:=by
 obtain⟨μ,S,G,r,hr,er,e,fl⟩:=h;obtain⟨src,S1,e1,e⟩:=aL e;refine G5 hr er e1 (λY0 H1 us p vs p1 k1 Z' hs hp rs=>?_);subst hs;exact Ji Z' 9#0 e (fl.mono p1 k1) hp rs
theorem Lp(hr:HR K μ S H)(er:ER H μ G σ)(e:y9 a G S=some (src,S1))
  (hR:∀Y0 H1 n us p q vs,Pre μ Y0->aU H H1->HR K Y0 S1 H1->src=.zlt n us->Y0[n]?=some p->H1 q=some (.tup vs)->RUs H1 Y0 us vs->R (Itz K true p q) H1)
  (hT:∀Y0 H1 us ws p q xs ys,Pre μ Y0->aU H H1->HR K Y0 S1 H1->src=.zpt us ws->H1 p=some (.tup xs)->RUs H1 Y0 us xs->H1 q=some (.tup ys)->RUs H1 Y0 ws ys->R (Itz K false p q) H1):AR K 5#7 σ H R:=by
 obtain⟨xs,S2,e1,e⟩:=aL e
 split at e
 .rename_i n us
  cases q:getL S2 n with
  |none=>rw[q]at e;cases e
  | some ws=>
    rw[q]at e;simp only[vN,jK,Prod.mk.injEq]at e;obtain⟨e2,e3⟩:=e;subst e3;refine 14#7;obtain⟨v,r,rfl,rx,rn⟩:=rs.inv;obtain⟨v2,r2,rfl,ry,W3⟩:=rn.inv;rw[W3.nil_inv];obtain⟨p,rfl,hp⟩:=eW rx;obtain⟨p2,vs,rfl,WE,r⟩:=fi ry;obtain⟨a',zs,Yu,hs,_⟩:=Z'.sq q;rw[hp]at Yu;cases Yu;exact⟨true,p,p2,zs,vs,rfl,hs,.inl (.inl WE),hR Y0 H1 n us p p2 vs p1 k1 Z' e2.symm hp WE r⟩
 .cases e
  refine 14#7;obtain⟨v,r,rfl,rx,rn⟩:=rs.inv;obtain⟨v2,r2,rfl,ry,W3⟩:=rn.inv;rw[W3.nil_inv];obtain⟨p,xs,rfl,hp,r⟩:=fi rx;obtain⟨p2,ys,rfl,WE,r2⟩:=fi ry;exact⟨false,p,p2,xs,ys,rfl,.inl (.inl hp),.inl (.inl WE),hT Y0 H1 _ _ p p2 xs ys p1 k1 Z' rfl hp r WE r2⟩
 .cases e
end
def fy(t:MT)(e:ME)(G:Rho):List (U×U)->List U->Sto->Res (List U)
 |[],acc,S=>some (acc,S)
 |p::ps,acc,S=>bnd (t (G++[some p.1,some p.2]) S) λk S1=>if k then bnd (e (G++[some p.1,some p.2]) S1) λy S2=>fy t e G ps (acc++[y]) S2 else fy t e G ps acc S1
def Eh(c:Nat)(t:MT)(e:ME)(G:Rho):Src->Sto->Res (List U)
 |.zpt us vs,S=>if c=2 then fy t e G (us.zip vs) [] S else none
 |_,_=>none
def lK(c:Nat)(it:MI)(t:MT)(e:ME):ME:=λG S=>bnd (it G S) λsrc S1=>bnd (Eh c t e G src S1) λys S2=>if 2#9<big then some (.ref S2.length,S2++[.lst ys]) else none
theorem nH{t:MT}{e:ME}{G:Rho}:∀{ps:List (U×U)}{acc ys:List U}{S S':Sto},fy t e G ps acc S=some (ys,S')->acc.length<=2#9
 |[],acc,ys,S,S',h=>by cases h;exact aq _
 | p::ps,acc,ys,S,S',h=>by
   unfold fy at h;obtain⟨k,S1,e1,h⟩:=aL h;cases k with
   | true=>
     obtain⟨y,S2,e2,h⟩:=aL (show bnd (e (G++[some p.1,some p.2]) S1) (λy S2=>fy t e G ps (acc++[y]) S2)=some (ys,S') from h);have:=nH h;rw[aK]at this;exact aD (ej _ _) this
   |false=>exact nH (show fy t e G ps acc S1=some (ys,S') from h)
section
variable {K:KX}{σ:St}{H:Hp}{Q:VK}
theorem ER.pushs{μ:List Addr}:∀{us:List U}{vs:List V}{G:Rho}{σ:St},ER H μ G σ->RUs H μ us vs->ER H μ (G++us.map some) (σ++vs.map some)
 |[],vs,G,σ,er,r=>by rw[r.nil_inv];simpa using er
 | u::us,vs,G,σ,er,r=>by
   obtain⟨v,r',rfl,a,b⟩:=r.inv;have:=ER.pushs (er.push a) b<;>simp_all
def LJ(c:Nat)(K:aj)(J:It)(σ:St)(tt:TT)(te:TE)(H1:Hp)(Q:VK):Prop:= ∃W:Nat->Nat->List V->Hp->Prop,(∃m,W 0 m [] H1) /\ ∀i m ys H,W i m ys H->2#9<sizeLine /\
 (18#1 \/
  (J.go i H /\ ∀x H',J.yld i H x H'->gTt K c x H' λτ H2=>tt (σ++τ) H2 λb H3=>if b=true then te (σ++τ) H3 λy H4 =>∃m',m'<m/\W (i+1) m' (ys++[y]) H4 else ∃m',m'<m/\W (i+1) m' ys H3))
theorem Ft{t:MT}{e:ME}{ws ys:List U}{xs zs:List V}{q:Addr}(hr:HR K μ S H)(er:ER H μ G σ)(h:fy t e G (us.zip ws) [] S=some (ys,S'))(hz:2#9<big)(k:Aft K μ H 8#9 (S'++[.lst ys]) Q)
  (hp:H p=some (.tup xs)) (rp:RUs H μ us xs) (hq:H q=some (.tup zs)) (rq:RUs H μ ws zs):LJ 2 K (Itz K false p q) σ (tMT K t) (tM K e) H Q:=by
 have WU:ys.length<sizeLine:=by unfold big at hz;rw[sizeLine_eq];exact hz
 refine⟨λi m acc H1=>m+i=(us.zip ws).length /\ ∃Y0 S1 au,Pre μ Y0/\aU H H1/\HR K Y0 S1 H1/\RUs H1 Y0 au acc/\fy t e G ((us.zip ws).drop i) au S1=some (ys,S'),⟨_,rfl,μ,S,[],Pre.refl _,aU.refl _,hr,.nil,h⟩,?_⟩;rintro i m acc H1 ⟨hm,Y0,S1,au,p1,k1,Z',ra,e1⟩;refine⟨by rw[<-ra.len];exact aN (nH e1) WU,?_⟩;have s1:SqT K H1 p xs:= .inl (.inl (k1 p xs hp));have s2:SqT K H1 q zs:= .inl (.inl (k1 q zs hq));cases m with
 | zero=>
   have hi:i=(us.zip ws).length:=by omega
   rw[hi,i5]at e1;cases e1;refine .inl ⟨⟨xs,zs,s1,s2,?_⟩,λD hD=>ix 10#2 Z' ra hD⟩;rw[<-rp.len,<-rq.len];rw[List.length_zip]at hi;omega
 | succ m=>
   have hi:i<(us.zip ws).length:=by omega
   have hg:(us.zip ws)[i]?=some (us.zip ws)[i]:=bo hi;rw[drop_cons hg]at e1;obtain⟨g1,g2⟩:=List.getElem?_zip_eq_some.mp hg;obtain⟨v,hv,rv⟩:=rp.get g1;obtain⟨v2,Rv,Xj⟩:=rq.get g2;refine .inr ⟨⟨xs,v,zs,v2,s1,hv,s2,Rv⟩,λx H' y=>?_⟩;obtain⟨T,w1,w2,hy1,hy2,hT,rfl,rfl⟩:=y;have W0:=hy1 xs s1;rw[hv]at W0;cases W0;have VX:=hy2 zs s2;rw[Rv]at VX;cases VX;have kp:aU H1 (upd H1 T (.tup [v,v2])):=aU.new hT;have Zp:RUs (upd H1 T (.tup [v,v2])) Y0 [(us.zip ws)[i].1,(us.zip ws)[i].2] [v,v2]:= .cons (RU.mono (k1.trans kp) p1 _ _ rv) (.cons (RU.mono (k1.trans kp) p1 _ _ Xj) .nil);refine⟨T,[v,v2],rfl,.inl (.inl bS),rfl,?_⟩;exact pU (next:=fy t e G ((us.zip ws).drop (i+1))) (λacc H1=>∃m',m'<m+1/\m'+(i+1)=(us.zip ws).length /\ ∃Y0 S1 au,Pre μ Y0/\aU H H1/\HR K Y0 S1 H1/\RUs H1 Y0 au acc/\fy t e G ((us.zip ws).drop (i+1)) au S1=some (ys,S')) (Z'.tup hT) (ER.pushs ((er.mono k1 p1).mono kp 2#1) Zp) (RUs.mono kp 2#1 _ _ ra) e1 λY5 S2 au2 XY H2 p2 k2 ZX Xf q=>⟨m,dy _,by omega,Y5,S2,au2,p1.trans p2,(k1.trans kp).trans k2,ZX,Xf,q⟩
theorem O6{c:Nat}{t:MT}{e:ME}(h:tM K (lK c (y9 a) t e) σ H Q):tE (gTt K c) (AR K 5#7) (tMT K t) (tM K e) σ H Q:=by
 obtain⟨μ,S,G,u,S',hr,er,e0,k⟩:=h;obtain⟨src,S1,e1,e0⟩:=aL e0;obtain⟨ys,S2,e2,e0⟩:=aL e0
 split at e0
 .rename_i hz
  cases e0;refine Lp hr er e1 (λY0 H1 n us p q vs p1 k1 Z' hs hp hq rs=>?_) λY0 H1 us ws p q xs zs p1 k1 Z' hs hp rp hq rq=>?_
  .subst hs
   cases (show none=some (ys,S2) from e2)
  .subst hs
   have e2:(if c=2 then fy t e G (us.zip ws) [] S1 else none)=some (ys,S2):=e2
   split at e2
   .rename_i hc
    subst hc;exact Ft Z' 9#0 e2 hz 10#2 hp rp hq rq
   .cases e2
 .cases e0
end
section
variable {prog:Program}{w:World}{A:Around}{E:Value->Shared->Prop}{s:Shared}
variable{r:Addr}
theorem uC{Q:List Value->Shared->Prop}{a b c:Int}{t u v:Tok}(hh:A.handled=none)(hr:IsRange s.heap r a b c t u v)(Zq:mn a b c=true)
  (hn:dJ a b c=n) (hlen:n<=2^24)
  (hQ:∀(h':Heap) (tk:Nat) (acc:Array Value),22#4->0#8<=10#4->ItemsOf (λi v=>∃t,v=.int (a+i*c) t) acc n->Q acc.toList { s with heap:=h',toks:=tk }):
  aC 2#0 A (collect (.ref r)) Q E s:=by
 refine af (mm (de qy ?_));refine af (cb (ar ⟨plainId_quiet xD _,de xF ?_⟩));have hS:(s.heap.push _).get? _=some { cls := .type "list",data := .seq #[] 0 }:=av _ rfl;have lt:∀b o,s.heap.get? b=some o->b≠0#8:=λb o e=>aG (ay e)
 refine bG (wpAny_extend_range (R:=λx s' =>∃h' tk acc c',x = .ok _/\s'={ s with heap:=h',toks:=tk }/\22#4 /\
   h'.get? _=some { cls:= .type _,dict:=none,data:= .seq acc c',slots:= #[] }/\ItemsOf _ acc n)
  hh (ag _ hr) Zq hn hlen _ _ 0 hS
  λh' tk acc c' hk YG ZH=>⟨h',tk,_,c',rfl,rfl,λb o e=>hk b o (lt b o e) (ag _ e),YG,ZH⟩) (λfin s' h =>?_) (λe s' h=>by simp_all)
 have Wy: ∀x s',(∃h' tk acc c',x=(.ok (.ret 7#1):Result)/\s'={ s with heap:=h',toks:=tk }/\22#4 /\
   h'.get? s.heap.objs.size=some { cls := .type "list",dict:=none,data := .seq acc c',slots := #[] }/\ItemsOf (fun i v=>∃ t,v=.int (a+i*c) t) acc n)->x=.ok (.ret (.ref s.heap.objs.size))/\aC (model prog w) A (match bY s.heap.objs.size with
   | bY a=>do
     match (<- load a).data with
      |GI xs _=>pure xs.toList
      |_=>unsupported "internal:collect"
   | _=>unsupported "internal:collect") Q E s':=by
  rintro x s' ⟨h',tk,acc,c',rfl,rfl,hk,YG,ZH⟩;refine⟨rfl,?_⟩;refine af (Gv YG (ar ?_));exact hQ h' tk _ hk (aM (ay YG)) ZH
 cases fin with
 | done f=>
   obtain⟨e,q⟩:=Wy _ _ h;cases e;omega
 | again c'=>exact⟨h.1,ff h.2 λr s'' hr=>by
   obtain⟨e,q⟩:=Wy _ _ hr;subst e
   omega⟩
theorem lC{Q₁:Value->Shared->Prop}{a b c:Int}{t u v:Tok}(hh:A.handled=none)(hr:IsRange s.heap r a b c t u v)(Zq:mn a b c=true)
  (hn:dJ a b c=n) (hlen:n<=2^24)
  (h :∀ (h':Heap) (tk:Nat) (acc:Array Value),22#1->0#8<=10#4->ItemsOf (fun i v=>∃ t,v=.int (a+i*c) t) acc n->Q₁ (.ref 10#4) { s with heap:=h'.push { cls := .type "tuple",data := .seq acc },toks:=tk }) :
  jY 2#0 A (.call (.builtin "tuple.__new__") ⟨[.type "tuple",.ref r],[]⟩) (wants Q₁ E) s:=by
 refine Dg ?_;show aC _ A.in1 (do checkBuiltinCall "tuple.__new__" ⟨[.type "tuple",.ref r],[]⟩;again (.builtin "tuple.__new__" ⟨[.type "tuple",.ref r],[]⟩)) _ _ s;refine af (fO (F.newCall_tuple_1 _) (ar ⟨plainId_quiet F.plain_tuple_new _,de F.entry_tuple_new ?_⟩));rw[i4 F.plain_tuple_new _];have Xn:=sub_tuple_self;have hinit:=init_tuple_lookup;have hmh:=madeHere_tuple;have Zi:s.TypeIs (.ref r) "range":=⟨_,hr,rfl⟩;have hh1:A.in1.handled=none:=hh
 wp_walk using ji Zi,uC hh1 hr Zq hn hlen
 intro h' tk acc hk hle ZH;show aC _ _ (uh acc.toList.toArray >>= λv=>ret v) _ _ _;unfold uh;refine af (cb ?_ (by show acc.toList.toArray.size<=sizeLine;simp only[Array.toArray_toList];rw[ZH.1,sizeLine_eq];exact hlen));refine ar ?_;have e:acc.toList.toArray=acc:=by simp
 rw[e];exact h h' tk acc hk hle ZH
theorem pN{a b c:Int}{t u v:Tok}(hh:A.handled=none)(hr:IsRange s.heap r a b c t u v)(Zq:mn a b c=true)
  (hn:dJ a b c=n) (hlen:n<=2^24)
  (h :∀ (h':Heap) (tk:Nat) (acc:Array Value),22#1->0#8<=10#4->ItemsOf (fun i v=>∃ t,v=.int (a+i*c) t) acc n->Q (.ref 10#4) { s with heap:=h'.push { cls := .type "tuple",data := .seq acc },toks:=tk }) :
  aC 2#0 A (call (.type "tuple") [.ref r]) Q E s:=by
 refine callType_codes (Q₁:=λobj ZV=>ZV.TypeIs obj _/\Q obj ZV) F.called_tuple (F.typeCall_tuple_1 _) F.entry_object_init
  (lC hh hr Zq hn hlen λh' tk acc hk hle ZH=>⟨⟨_,av _ rfl,rfl⟩,h h' tk _ hk hle ZH⟩) λobj ZV ZI=>?_
 exact⟨ZI.1,rj _ _,object_init_meets F.called_tuple.init.lookup F.called_tuple.made 0#1 _ w _ _ _ ⟨ZI.1,rfl,ZI.2⟩⟩
end
theorem t8 (hc:X.calm=true):gp X (.type "tuple") (fun xs H Q=>∃ r lo hi,xs=[.ref r]/\H r=some (.rng lo hi)/\(-(2^62)<=lo/\lo<2^62 /\ -(2^62)<=hi/\hi<2^62)/\(hi-lo).toNat<=sizeLine /\ ∀ l,H l=none->Q (.ref l) (upd H l (.tup (mU lo (hi-lo).toNat)))):=by
 intro pins s σ H xs us Q I rs h;obtain⟨r,lo,hi,rfl,hr,⟨h1,h2,h3,h4⟩,hz,q⟩:=h;cases rs with
 | cons r1 rr=>
   cases rr;cases (r1);obtain⟨t,u,v,e⟩:=I.hok r _ hr;have hn:dJ lo hi 1=((hi-lo).toNat):=by rw[rangeSize_one];grind
   refine pN 7#8 e (small_one h1 h2 h3 h4) hn (by exact hz) λh' tk acc hk hle ZH=>?_;obtain⟨ZN,hit⟩:=ZH;refine⟨.ref _,_,I.laid (λb o e=>ag _ (hk b o e)) hle ?_,rfl,q _ (I.hok.fresh hle)⟩;refine⟨by rw[mU,aF,bf];omega,_,?_,pq _ _,_,av _ rfl,rfl⟩;refine wR (by rw[mU,aF,bf,eZ,ZN]) λi x w h5 h6=>?_;have ZR:=by
    have:=(ah.mp h5).1;rwa[mU,aF,bf]at this
   have hx:(mU lo (hi-lo).toNat)[i]?=some (.int (lo+i)):=by simp[mU,ZR]
   rw[hx]at h5;cases h5;obtain⟨t',e'⟩:=hit i w (by simpa using h6);exact⟨t',by rw[e'];simp⟩
section
variable {K:KX}{σ:St}{H:Hp}{Q:VK}
def rTR:List V->Hp->VK->Prop:=λxs H Q=>∃r lo hi,xs=[.ref r]/\H r=some (.rng lo hi)/\(-(2^62)<=lo/\lo<2^62 /\ -(2^62)<=hi/\hi<2^62)/\(hi-lo).toNat<=sizeLine /\ ∀l,H l=none->Q (.ref l) (upd H l (.tup (mU lo (hi-lo).toNat)))
theorem Gj{S1:Sto}{i j:Int}{r:Addr}(Z':HR K μ S1 H)(ho:okR i/\okR j)(hz:(aY i (j-i).toNat).length<=big)(k:Aft K μ H (.tup (aY i (j-i).toNat)) S1 Q)(Xu:H r=none):rTR [.ref r] (upd H r (.rng i j)) Q:=by
 refine⟨r,i,j,rfl,bS,⟨ho.1.1,ho.1.2,ho.2.1,ho.2.2⟩,?_,λl hl=>?_⟩
 .unfold aY big at hz;rw[aF,bf]at hz;exact hz
 .have k2:=k.mono 2#1 (aU.new Xu (o:= .rng i j))
  exact k2 μ _ _ 2#1 (aU.new hl) ((Z'.rng Xu).tup hl) (jS bS (RUs.mono (aU.new hl) 2#1 _ _ (BE _ _)))
theorem IV(h:tM K (vC (iR1 a)) σ H Q):tCB rTR (vK (JC 5#7) BY) σ H Q:=by
 obtain⟨μ,S,G,u,S',hr,er,e,k⟩:=h;obtain⟨src,S1,e1,e⟩:=aL e;obtain⟨xs,S2,e2,e1⟩:=aL e1;refine⟨μ,S,G,xs,S2,hr,er,e2,λY0 vs H1 p1 k1 Z' rs=>?_⟩
 split at e1
 .rename_i j
  split at e1
  .rename_i hj
   cases e1;simp only at e
   split at e
   .cases e
    obtain⟨v,r,rfl,rx,rn⟩:=rs.inv;rw[rn.nil_inv,dr rx];refine⟨j,rfl,hj.1,hj.2,λr Xu=>?_⟩;have ez:(j-0).toNat=j.toNat:=by simp
    exact Gj Z' ⟨15#9,hj⟩ (by rw[ez];omega) (by rw[ez];exact k.mono p1 k1) Xu
   .cases e
  .cases e1
 .cases e1
end
def ph(i:Nat)(f:Addr)(φ:MF)(a:MA):ME:=λG S=>match G[i]? with
 |some (some (.obj g))=>if g=f then mFn φ a G S else none
 |_=>none
def fA(is:List Nat)(G:Rho):Option (List U):=dY (λi=>(G[i]?).bind id) is
def gH(np:Nat)(ml:ME)(cs:List U):MF:=λus S=>if 0#9=np then ml (us.map some++cs.map some) S else none
def pQ(F:Addr->MF->MF)(np:Nat)(is:List Nat)(ml:ME)(ma:ME):ME:=λG S=>bnd (ma G S) λx S1=>(fA is G).bind λcs=>
 open Classical in
 if h:∃r,∀f,F f (gH np ml cs) [x,.obj f] S1=some r then some h.choose else none
theorem FH{F:Addr->MF->MF}{np:Nat}{is:List Nat}{ml ma:ME}{S1:Sto}{cs:List U}{r:U×Sto}(ha:ma G S=some (x,S1))(hc:fA is G=some cs)(h:∀f,F f (gH np ml cs) [x,.obj f] S1=some r):
  pQ F np is ml ma G S=some r:=by
 have hx:∃r,∀f,F f _ [x,.obj f] S1=some r:=⟨r,h⟩;unfold pQ;rw[ha];simp only[aA,hc,aH];rw[dif_pos hx];have e:=(hx.choose_spec 0).symm.trans (h 0);omega
structure Lam(M:Mo)(f:Addr)(k:Nat)(ps:List Str)(φ:MF):Prop where
 ex:∃fd:FuncData,((∃(oc:Value) (od:Option Addr) (sl:Array (Option Value)),M.base.get? f=some ⟨oc,od,.func fd,sl⟩)\/cy M.K (.ref f)=true)/\Binds M.K fd ps []/\FnOk M.P M.w M.K M.mg M.base CX0 k f fd ps (spM M.K φ)
section
variable {M:Mo}{X:Cx}{k:Nat}{N:List Str}{ns:List (Str×NameKind)}{e:Expr}{es:List Expr}{mas:MA}{x:Str}{p1 pos:Pos}
theorem IZ{φ:MF}{k':Nat}(S:Sc M X k N ns)(F:Lam M f k' ps φ)(hk:k'<=k)(i:Nat)(hi:N[i]?=some x)(hv:kz ns x=true)(ha:PA X 1#9 2#8)
  (hd:7#4=false) (ZF:17#3=false)
  (he:starEach 1#9 X.env=(false,eval e X.env)::starEach es X.env) (ZM:(backTo pos 14#1).any (·.1)=false):
  PE X (.Call 10#5 1#9 [] pos) (tM M.K (ph i f φ mas)):=by
 obtain⟨fd,hf,hb,F⟩:=F.ex;rw[<-S.hP,<-S.hw,<-S.hK,<-S.hm,<-S.hb]at F;rw[<-S.hb,<-S.hK]at hf;rw[<-S.hK]at hb;intro pins s σ H Q I h;obtain⟨μ,S0,G,u,S',hr,er,q,aft⟩:=h;unfold ph at q
 split at q
 rotate_left
 .cases q
 rename_i g hg
 split at q
 rotate_left
 .cases q
 rename_i W5
 subst W5;obtain⟨v,Y',rv⟩:=er.get i _ hg;have WH:=by omega
 subst WH;refine cJ (thn (rO (by rw[S.hN];omega) (S.vis hv) hd ZF _ s σ H (λv H1=>v=.ref g/\H1=H) I ⟨_,Y',rfl,rfl⟩) λw s1 ⟨v,H1,I1,r1,e1,e2⟩=>?_);subst e1;subst e2;obtain rfl:w=bY g:=r1;have hc:AW _ [] E0 _ σ H1 Q:=E7 ⟨μ,S0,G,u,S',hr,er,q,aft⟩;have hA:=ha pos _ s1 σ H1 _ I1 hc;rcases hf with⟨oc,od,sl,hf⟩ |hf
 rotate_left
 .exact jU I1.ok.mod.kin hf (thn hA λus s2 ⟨vs,H2,I2,r2,q2⟩=>⟨I2.kIn,nG F 11#3 hb .nil rS I2 r2 q2⟩) he ZM
 rw[he];refine Do (P:=λh=>h.get? g=some ⟨oc,od,.func fd,sl⟩) (by show((false||(backTo _ _).any _)||false)=false;rw[ZM];rfl)
  (λh q=>⟨_,.inl rfl,(pk q).andThen .now⟩) (jj ?_)
 rw[he]at hA;refine thn hA λus s2 ⟨vs,H2,I2,r2,q2⟩=>⟨I2.bk g _ hf,?_⟩;exact nG F 11#3 hb .nil rS I2 r2 q2
end
end _G
namespace _G
open PySem PySem.Spec _L
open PySem.W (envX kla_fn kla_obj CodeHd tabObj)
open PyProof.Rows hiding St
structure iE(ps fs:List Str)(scope:Scope):Prop where
 kind:scope.kind=.function
 co:scope.isCoroutine=false
 gen:scope.isGenerator=false
 nd:(ps++fs).Nodup
 par:∀p∈ps,scope.names.lookup p=some .local\/scope.names.lookup p=some .cell
 cel:∀x∈scope.names,x.2=.cell->scope.names.lookup x.1=some .cell
 fre:∀y∈scope.names,y.2=.free->y.1∈fs
 free:∀y∈fs,scope.names.lookup y=some .free
theorem n9:∀(names:List 6#4) (n:Nat) (a b:List 6#6),cellsFrom n names (a++b)=cellsFrom n names a++b
 |[],_,_,_=>rfl
 | (x,k)::r,n,a,b=>by
   unfold cellsFrom;cases k==dM with
   |true=>exact n9 r _ ((x,n)::a) b
   |false=>exact n9 r n a b
theorem B8(names:List 6#4)(n:Nat)(b:List 6#6):cellsFrom n names b=cellsFrom n names []++b:=n9 _ n [] b
theorem qw:∀(names:List 6#4) (n:Nat) (a:List 6#6) {x:Str}{c:Addr},(x,c)∈cellsFrom n names a->(x,dM)∈names\/(x,c)∈a
 |[],_,_,_,_,h=>.inr h
 | (y,k)::r,n,a,x,c,h=>by
   unfold cellsFrom at h
   split at h
   .rcases qw r _ _ h with h|h<;>grind
   .exact(qw r n a h).imp (az _) id
variable{x:Str}
theorem gd{α:Type}{c:α}:∀{a b:List (Str×α)},a.lookup x=some c->(a++b).lookup x=some c
 |a,b,h=>by rw[hZ,h];rfl
theorem iK{α:Type}:∀{a b:List (Str×α)},a.lookup x=none->(a++b).lookup x=b.lookup x
 |a,b,h=>by rw[hZ,h];rfl
theorem ic{α:Type}{c:α}{a b:List (Str×α)}(h:(a++b).lookup x=some c):a.lookup x=some c\/(a.lookup x=none/\b.lookup x=some c):=by
 cases q:a.lookup x with
 |some d=>rw[gd q]at h;exact .inl h
 |none=>rw[iK q]at h;exact .inr ⟨rfl,h⟩
theorem uc{f g:Str×Value->PUnit->Sem (ForInStep PUnit)}:∀{l:List (Str×Value)},(∀x∈l,∀u,f x u=g x u)->forIn l PUnit.unit f=forIn l PUnit.unit g
 |[],_=>rfl
 | x::l,h=>by
   have ih:=uc λy hy=>h y (az _ hy)
   simp_all
variable{env:Env}
theorem zT{cs:List (Str×Addr)}{v:Value}(h:env.kindOf x=some .local\/env.cells.lookup x=cs.lookup x):storeName env x v=storeName { env with cells:=cs } x v:=by
 rcases h with h|h
 .have h':Env.kindOf { env with cells:=cs } x=some _:=h
  unfold storeName;rw[h,h'];rfl
 .have e:cellOf env x=cellOf { env with cells:=cs } x:=by unfold cellOf;rw[h]
  unfold storeName;rw[e];rfl
variable{A:Around}{scope:Scope}{cl:List (Str×Addr)}{qual:Str}
theorem BL{M:Model}{E:Value->Shared->Prop}{s:Shared}{g:Addr}{binds:List (Str×Value)}{func:Option Addr}{code:Value}{bt:Addr}{Q:Env->Shared->Prop}(hk:12#8=.function)
  (hb:∀x∈binds,scope.names.lookup x.1=some .local\/scope.names.lookup x.1=some .cell)
  (hQ: ∀s',InCallC s s.heap.objs.size (bindL (λx=>scope.names.lookup x) binds λ_=>none) (cellsFrom (0#8+1) scope.names []) (bindC (λx=>scope.names.lookup x) binds λ_=>none) s' ->
   Q (newEnv scope s.heap.objs.size g (cellsFrom (s.heap.objs.size+1) scope.names []++cl) qual func code none bt) s'):
  aC M A (newFunctionEnv scope g cl binds qual func code none bt) Q E s:=by
 have ok:CellsOk (pushCells (s.heap.push { cls := .type "frame",data := .dict #[] }) _) _ _:=
  cellsFrom_ok scope.names _ _ [] ⟨λ_ _ z=>(nomatch z),gw⟩ (by exact aq _)
 rw[a9]at ok;have inC:InCallC s _ _ _ _ _:=
  ⟨⟨⟨_,s.toks,rfl⟩,(Heap.Ns.new _ _).keeps λb o e=>pushCells_keeps _ _ b o e,λb o e=>pushCells_keeps _ _ b o (ag _ e),aq _⟩,
   λn c hc=>(ok.empty n c (mem_of_lookup hc)).1,ok.apart,λn c hm=>Nat.lt_of_succ_le (ok.empty n c hm).2⟩
 refine af (wpAny_alloc (af (wpAny_layCells _ (λnm kd cs=>by cases q:kd==dM<;>simp[q]) _ _ _ _ ?_)));rw[a9 ..,B8];refine af ?_;have same:∀x∈binds,∀v,storeName (newEnv _ s.heap.objs.size g (cellsFrom (0#8+1) _ []++cl) _ _ _ none bt) _ v=storeName (newEnv _ _ g _ qual func code none bt) _ v:=λx hx v=>by
  refine zT ?_;rcases hb x hx with h|h
  .exact .inl h
  .obtain⟨c,hc⟩:=i7 h
   exact .inr (by rw[hc];exact gd hc)
 show aC M A (forIn binds _ λx _=>(do storeName (newEnv _ _ g _ _ _ _ none bt) x.1 _;pure _)) _ E _;rw[uc λx hx u=>by rw[same x hx]];refine wpAny_bindParams _ (λ_ _ _=>rfl) hk _ _ _ _ _ inC (λx hx=>?_) λs' x=>ar (hQ s' x);rcases hb x hx with h |h
 .exact .inl h
 .obtain⟨c,hc⟩:=i7 h
  exact .inr ⟨h,by show((cellsFrom _ _ []).lookup _).isSome=true;rw[hc];rfl⟩
def lu(base:Heap)(cl:List 6#6):List Str->List V->Prop
 |[],[]=>True
 |y::fs,v::vs=>(∃c o u,cl.lookup y=some c/\base.get? c=some o/\o.data=.cell (some u)/\RelV v u)/\lu base cl fs vs
 |_,_=>False
theorem lu.len{base:Heap}{cl:List (Str×Addr)}:∀{fs:List Str}{vs:List V},lu base cl fs vs->fs.length=2#6
 |[],[],_=>rfl
 |_::_,_::_,h=>by simp[lu.len h.2]
 |[],_::_,h=>h.elim
 |_::_,[],h=>h.elim
theorem lu.get{base:Heap}{cl:List (Str×Addr)}:∀{fs:List Str}{vs:List V}{i:Nat}{y:Str}{v:V},lu base cl fs vs->fs[i]?=some y->vs[i]?=some v->∃c o u,cl.lookup y=some c/\base.get? c=some o/\o.data=.cell (some u)/\RelV v u
 |[],_,i,y,v,_,h1,_=>by simp at h1
 |_::_,[],i,y,v,h,_,_=>h.elim
 | _::_,_::_,0,y,v,h,h1,h2=>by
   simp at h1 h2;subst h1;subst h2;exact h.1
 |_::_,_::_,i+1,y,v,h,h1,h2=>lu.get h.2 (by simpa using h1) (by simpa using h2)
def nL(qual:Str)(scope:Scope)(L f:Addr)(cd:Value)(cl:List 6#6):Env:=envX qual scope L f cd (cellsFrom (L+1) scope.names []++cl)
def y6(P:Program)(w:World)(K:aj)(mg:Str->Option Value)(base:Heap)(N:List Str)(qual:Str)(scope:Scope)(f:Addr)(cd:Value)(cl:List 6#6)(A:Around)(outer:List Env)(s:Shared)(H:Hp):Cx where
 prog:=P
 w:=w
 K:=K
 mg:=mg
 base:=base
 A:=A.deeper (nL qual scope s.heap.objs.size f cd cl)
 N:=N
 s₀:=s
 H₀:=H
 env:=nL qual scope s.heap.objs.size f cd cl
 outer:=outer
 stack:=nL qual scope s.heap.objs.size f cd cl::outer
 ex:= []
 calm:=true
 fn:=λx=>scope.names.lookup x==some .cell
 pn:= []
 xe:=λ_ _=>False
variable{mg:Str->Option Value}{ps:List Str}{f:Addr}{us:List Value}{cv:List V}
theorem BD{P:Program}{w:World}{K:aj}{base:Heap}{fs:List Str}{cd:Value}{outer:List Env}{s s1:Shared}{H:Hp}{vs:List V}
  (S:iE ps fs scope) (hd:A.handled=none) (e0:CD P w K mg base A outer s H) (hl:2#6=6#0) (r:cm vs us) (C:lu base cl fs cv)
  (YL:∀y c,cl.lookup y=some c->∃o v,base.get? c=some o/\o.data=.cell v) (inj:∀x y c,cl.lookup x=some c->cl.lookup y=some c->x=y)
  (x:InCallC s s.heap.objs.size (bindL (λy=>scope.names.lookup y) (ps.zip us) λ_=>none) (cellsFrom (0#8+1) scope.names []) (bindC (λy=>scope.names.lookup y) (ps.zip us) λ_=>none) s1):
  Inv (y6 P w K mg base (ps++fs) qual scope f cd cl A outer s H) [] (vs.map some++cv.map some) H s1:=by
 obtain⟨h1,tk,rfl,hk⟩:=x.done;have VW:=(uk.mp S.nd).1;have newc:∀y c,(cellsFrom _ _ []).lookup y=some c->scope.names.lookup y=some _/\0#8<c:=λy c e=>by
  have m:=mem_of_lookup e;rcases qw _ _ _ m with z|z
  .exact⟨S.cel _ z rfl,x.above y c m⟩
  .simp at z
 have oldc:∀y c,cl.lookup y=some c->c<0#8/\(∃v,h1.IsCell c v)/\H c=none:=λy c e=>by
  obtain⟨o,v,e1,e2⟩:=YL y c e;exact⟨ay (e0.bs c o e1).1,⟨v,o,hk _ _ (e0.bs c o e1).1,e2⟩,(e0.bs c o e1).2⟩
 have frc:∀y∈fs,(cellsFrom _ _ []).lookup y=none:=λy hy=>by
  cases q:(cellsFrom _ _ []).lookup y with
  |none=>rfl
  | some c=>
    have:=(newc y c q).1;rw[S.free y hy]at this;grind
 have noA:∀b,b∉(y6 P w K mg base (ps++fs) qual scope f cd cl A outer s H).ex:=λb z=>absurd (show b∈[] from z) 0#3
 refine⟨⟨e0.mod,S.kind,rfl,rfl,aq _,λy z c e1 e2 =>?_,λy hy =>?_,λy c hy e =>?_,λ_=>hd,Dm e0.frames,.inr ⟨rfl,rfl⟩,λb z=>absurd z (noA b),e0.bs,e0.bsz,λb _ _=>noA b,λb z=>absurd z (noA b),e0.funs,e0.frf⟩,
  rfl,e0.bare,Un.kept hk,⟨_,x.toInCall.ns,λi y v h2 h3 h4 =>?_⟩,λy c h =>?_,e0.hok.fresh (aq _),λy c h =>?_,λp hp=>absurd (show p∈[] from hp) (by simp),e0.hok.kept hk,?_⟩
 .rcases ic e1 with e1|⟨_,e1⟩
  .rcases ic e2 with e2|⟨_,e2⟩
   .exact name_of_addr x.apart (mem_of_lookup e1) (mem_of_lookup e2)
   .exact absurd (bg (newc y c e1).2 (oldc z c e2).1) (bp _)
  .rcases ic e2 with e2|⟨_,e2⟩
   .exact absurd (bg (newc z c e2).2 (oldc y c e1).1) (bp _)
   .exact inj y z c e1 e2
 .rcases hy with hy|hy
  .obtain⟨c,hc⟩:=i7 hy
   exact⟨c,gd hc⟩
  .have hf:=S.fre _ (mem_of_lookup hy) rfl
   obtain⟨i,hi⟩:=List.getElem?_of_mem hf;have Vo:i<cv.length:=by rw[<-C.len];exact(ah.mp hi).1
   obtain⟨c,o,u,e,_⟩:=C.get hi (bo Vo);exact⟨c,(iK (frc y hf)).trans e⟩
 .rcases ic e with e|⟨_,e⟩
  .exact aM (newc y c e).2
  .have VR:=eq_of_beq hy
   obtain⟨c',VI⟩:=i7 VR
   rename_i z
   rw[VI]at z;cases z
 .have hN:(ps++fs)[i]?=some y:=h2
  by_cases hi:i<6#0
  .rw[aT hi]at hN
   rw[aT (by simpa [hl]using hi),cu]at h3;cases e:vs[i]? with
   |none=>rw[e]at h3;cases h3
   | some a=>
     rw[e]at h3;cases h3;obtain⟨u,hu,rv⟩:=r.get e;refine⟨u,rv,?_⟩;rcases S.par y (cY hN) with kd|kd
     .exact .inl ⟨kd,qu VW hN hu kd⟩
     .obtain⟨c,hc⟩:=i7 kd
      refine .inr ⟨.inl kd,c,gd hc,?_⟩;have z:=x.cell y c hc;rw[qp VW hN hu (by rw[kd];decide)]at z;omega
  .rw[bI 6#3]at hN
   rw[bI 12#6,cu]at h3;simp only[aF,hl]at h3;cases e:cv[i-6#0]? with
   |none=>simp_all
   | some a=>
     rw[e]at h3;cases h3;have hf:=cY hN;obtain⟨c,o,u,e1,e2,e3,e4⟩:=C.get hN e;exact⟨u,e4,.inr ⟨.inr (S.free y hf),c,(iK (frc y hf)).trans e1,o,hk _ _ (e0.bs c o e2).1,e3⟩⟩
 .rcases ic h with e|⟨_,e⟩
  .exact⟨_,x.cell y c e⟩
  .exact(oldc y c e).2.1
 .rcases ic h with e|⟨_,e⟩
  .exact e0.hok.fresh (aM (newc y c e).2)
  .exact(oldc y c e).2.2
 .show(vs.map _++cv.map _).length=(ps++fs).length
  simp[hl,C.len]
variable{cs:List U}{params:Arguments}{body:Expr}{pm:Value}{oc:Obj}{ws:Array Value}
theorem Gd{M:Mo}(h0:M.mkr=none){name:Str}{Zr:Value}{c:Addr}{t:Tok}{fs:List Str}{k:Nat}{ml:ME}{od:Option Addr}{fc:Value}{Uq:Array (Option Value)}(WQ:∀μ S H,HR M.K μ S H->RUs H μ cs cv)
  (hf:M.base.get? f=some ⟨fc,od,.func (kla_fn name qual params body scope cl pm (.ref c) Zr),Uq⟩) (hc:(c,oc)∈M.K.cds) (Za:oc.data=.fields ws) (hq:ws[1]?=some (.str qual t))
  (S:iE ps fs scope) (C:lu M.base cl fs cv) (YL:∀y c,cl.lookup y=some c->∃o v,M.base.get? c=some o/\o.data=.cell v) (inj:∀x y c,cl.lookup x=some c->cl.lookup y=some c->x=y)
  (hb:∀X,Sc M X k (ps++fs) 3#3->PE X body (tM M.K ml)):
  FnOk M.P M.w M.K M.mg M.base CX0 (k+1) f (kla_fn name qual params body scope cl pm (.ref c) Zr) ps (spM M.K (gH ps.length ml cs)):=by
 have len:∀vs H Q E,spM M.K (gH ps.length ml cs) vs H Q E->2#6=6#0:=λvs H Q E h=>by
  obtain⟨μ,S',us,u,ZD,hr,rs,e,_⟩:=h;unfold gH at e
  split at e
  .rename_i hl;rw[<-rs.len];exact hl
  .cases e
 refine⟨len,λA outer s H args us vs Q E hr e0 Yy r Zk=>?_⟩;have hl:=len _ _ _ _ Zk;obtain⟨μ,S1,zs,u,S2,hR,rs,e,ka⟩:=Zk;have U1:s.heap.get? c=some oc:=(e0.hok c _ (hR.ext.cds _ hc)).1;have lim:s.heap.NoLimit:=e0.mod.nolimit.keeps λb o e=>(e0.bs b o e).1;refine Dh hr.depth (e0.bs f _ hf).1 rfl S.co S.gen rfl ⟨c,oc,ws,t,rfl,U1,Za,hq⟩ (Yy _ _ _ _ ?_);refine BL S.kind (λx hx=>S.par _ (jI hx).1) λs1 x=>⟨lim.keeps x.toInCall.keep,?_⟩;show jY _ _ (.expr body (nL qual scope s.heap.objs.size f (.ref c) cl)) _ _;have I:=BD (qual:=qual) (f:=f) (cd:= .ref c) S hr.hd e0 hl r C YL inj x;have SS:Sc M (y6 M.P M.w M.K M.mg M.base (ps++fs) qual scope f (.ref c) cl A outer s H) k (ps++fs) 3#3:=
  ⟨rfl,rfl,rfl,rfl,rfl,rfl,S.nd,rfl,λ_ h=>h,λy h=>⟨h,by show(scope.names.lookup y==some .cell)=true;rw[h];rfl⟩,λ_ h=>.inr h,λ_ h=>h,hr.deeper _,lq,λc q h=>by rw[h0]at h;cases h⟩
 unfold gH at e
 split at e
 rotate_left
 .cases e
 have er:ER H μ (zs.map some++cs.map some) (vs.map some++cv.map some):=by
  have rc:=WQ _ _ _ hR;have all:=rs.append rc;refine⟨by simp[rs.len,rc.len],λi w hw=>?_⟩;rw[<-cZ,cu]at hw;cases q:(zs++cs)[i]? with
  |none=>rw[q]at hw;cases hw
  | some w'=>
    rw[q]at hw;cases hw;obtain⟨v,hv,rv⟩:=all.get q;exact⟨v,by rw[<-cZ,cu,hv];rfl,rv⟩
 refine Di (bG (hb _ SS [] _ _ H Q I ⟨μ,S1,_,u,S2,hR,er,e,ka⟩) (λv s' hs=>?_) λe s' hs=>hs.elim);obtain⟨x,H',J,rv,q⟩:=hs;exact⟨x,H',J.os,J.bare,J.base,J.hok,rv,q⟩
def eG(cells:List 6#6):List 6#4->List 6#6->List 6#6
 |[],acc=>acc
 | (y,k)::r,acc=>if k==.free then(match cells.lookup y with
   |some c=>eG cells r ((y,c)::acc)
   | none=>eG cells r acc) else eG cells r acc
theorem tI{scope:Scope}(h:∀y∈3#3,y.2=.free->∃c,env.cells.lookup y.1=some c):closureFor scope env=pure (eG env.cells scope.names []):=by
 unfold closureFor;have key:∀(l:List _) (acc:List _),(∀y∈l,y.2=.free->∃c,env.cells.lookup y.1=some c) ->
   (forIn l acc λx r=>if (x.2==aS)=true then(do let a <- cellOf env x.1;pure (en ((x.1,a)::r))) else pure (en r):Sem _)=pure (eG env.cells l acc):=by
  intro l
  induction l with
  |nil=>intro acc _;rfl
  | cons y l ih=>
    intro acc hh;rw[xM];unfold eG;cases q:y.2==aS with
    | true=>
      obtain⟨c,hc⟩:=hh y aV (eq_of_beq q);have e:cellOf env y.1=pure c:=by unfold cellOf;rw[hc]
      simp only[e,hc];exact ih _ λz hz=>hh z (az _ hz)
    | false=>
      exact ih _ λz hz=>hh z (az _ hz)
 have e:=key _ [] h;rw[bind_pure];omega
theorem mH{cells:List (Str×Addr)}:∀(l:List 6#4) (acc:List 6#6) {y:Str}{c:Addr},(y,c)∈eG cells l acc->(y,c)∈acc\/(cells.lookup y=some c/\(y,aS)∈l)
 |[],acc,y,c,h=>.inl h
 | (z,k)::l,acc,y,c,h=>by
   unfold eG at h
   split at h
   .split at h
    .rcases mH l _ h with h|h<;>grind
    .exact(mH l _ h).imp id λh=>⟨h.1,az _ h.2⟩
   .exact(mH l _ h).imp id λh=>⟨h.1,az _ h.2⟩
theorem mx{cells:List (Str×Addr)}:∀(l:List 6#4) (acc:List 6#6) {y:Str}{c:Addr},(y,c)∈acc->(y,c)∈eG cells l acc
 |[],acc,y,c,h=>h
 | (z,k)::l,acc,y,c,h=>by
   unfold eG
   split
   .split
    .exact mx l _ (az _ h)
    .exact mx l _ h
   .exact mx l _ h
theorem mD{cells:List (Str×Addr)}:∀(l:List 6#4) (acc:List 6#6) {y:Str}{c:Addr},(y,aS)∈l->cells.lookup y=some c->(y,c)∈eG cells l acc
 |[],acc,y,c,h,_=>by simp at h
 | (z,k)::l,acc,y,c,h,hc=>by
   unfold eG;rcases aI.mp h with e|h
   .cases e
    simp[hc];exact mx l _ aV
   .split
    .split
     .exact mD l _ h hc
     .exact mD l _ h hc
    .exact mD l _ h hc
theorem lookup_mem{α:Type}:∀{l:List (Str×α)}{y:Str}{c:α},(y,c)∈l->∃d,l.lookup y=some d
 |[],y,c,h=>by simp at h
 | (z,d)::l,y,c,h=>by
   rw[bF];cases q:y==z with
   |true=>exact⟨d,rfl⟩
   | false=>
     rcases aI.mp h with e|h
     .grind
     .exact lookup_mem h
variable{cells:List (Str×Addr)}{l:List (Str×NameKind)}{y:Str}{c:Addr}
theorem gf(h:(eG cells l []).lookup y=some c):cells.lookup y=some c/\(y,aS)∈l:=by
 rcases mH l [] (bJ h) with h|h<;>simp_all
theorem CK(h:(y,aS)∈l)(hc:cells.lookup y=some c):(eG cells l []).lookup y=some c:=by
 obtain⟨d,hd⟩:=lookup_mem (mD l [] h hc);have:=(gf hd).1
 grind
theorem AE{pos:Pos}{a b:Int}{c cv:Value}(l:List Value)(h:TriplesOk l)(hc:codeAmong pos (l++[rawInt a,rawInt b,c])=some cv):codeAmong pos l=some cv\/cv=c:=by
 fun_induction TriplesOk l with
 | case1=>
   simp[rawInt,codeAmong]at hc
   grind
 | case2 x t y u z rest ih=>
   simp only[vO,codeAmong]at hc ⊢
   split at hc
   .rename_i q;rw[if_pos q];exact .inl hc
   .rename_i q;rw[if_neg q];exact ih h hc
 |case3 l h1 h2=>exact h.elim
section
variable {K:KX}{H:Hp}{μ:List Addr}{S:Sto}
theorem HR.table{P:Addr}{ps:Array Value}{t:Tok}{a b:Int}{q:Str}(h:HR K μ S H)(hP:H P=some (.tbl ps))(hc:H c=none)(Za:oc.data=.fields ws)(hq:ws[1]?=some (.str q t))(un:∀r∈K.tabs,r.1=P->r.2=q):
  aU H (upd (upd H c (.frz oc fz)) P (.tbl (ps ++ #[rawInt a,rawInt b,.ref c])))/\HR K μ S (upd (upd H c (.frz oc fz)) P (.tbl (ps ++ #[rawInt a,rawInt b,.ref c]))):=by
 have stay:∀x o,H x=some o->(∀ps,o≠.tbl ps)->upd (upd H c (.frz oc fz)) P (.tbl (ps ++ #[rawInt a,rawInt b,.ref c])) x=some o:=λx o e n=>by
  rw[aP (qB e hP (n ps)),aP (aQ e hc)];omega
 have kp:aU H _:=⟨λx vs e=>stay x _ e (λ_ z=>nomatch z),λx o u e=>stay x _ e (λ_ z=>nomatch z)⟩;have fr:∀x o u,H x=some _->upd _ P _ x=some (.frz o u):=λx o u e=>stay x _ e λ_ z=>by cases z
 have l':=(aQ hP hc).symm;refine⟨kp,h.len,h.inj,λm d x q1 q2=>(h.cell m d x q1 q2).mono kp 2#1 (λhd=>?_) λo u e=>fr x o u e,RUs.mono kp 2#1 _ _ h.ext.cap,λr hr=>fr _ _ _ (h.ext.cds r hr),λr hr=>?_⟩
 .obtain⟨o,e,_,_,nb⟩:=(h.cell m d x q1 q2).has hd
  rw[stay x o e nb,e]
 .obtain⟨Xz,e,tr,al⟩:=h.ext.tab r hr
  by_cases Zw:r.1=P
  .rw[Zw,hP]at e
   cases e;refine⟨_,by rw[Zw,bS],by rw[GM];exact TriplesOk_snoc _ _ _ _ tr,λpos cv Vk=>?_⟩;rw[GM]at Vk;rcases AE _ tr Vk with z |z
   .obtain⟨d,od,vs,t',e1,e2,e3,e4⟩:=al _ cv z
    exact⟨d,od,vs,t',e1,fr _ _ _ e2,e3,e4⟩
   .exact⟨c,oc,ws,t,z,by rw[aP l',bS],Za,by rw[un r hr Zw];omega⟩
  .refine⟨_,by rw[aP Zw,aP (aQ e hc)];omega,tr,λpos cv Vk=>?_⟩
   obtain⟨d,od,vs,t',e1,e2,e3,e4⟩:=al _ cv Vk;exact⟨d,od,vs,t',e1,fr _ _ _ e2,e3,e4⟩
end
section
variable {X:Cx}{pins:List (Addr×Obj)}{σ:St}{H:Hp}{s:Shared}
theorem va{P:Addr}{ps more:Array Value}{ob:Obj}{h':Heap}{tk:Nat}(I:Inv X pins σ H s)(hP:H P=some (.tbl ps))(hx:jl P s.heap h')(Yn:0#8<=c)(hc:h'.get? c=some oc)(XO:h'.get? P=some (tabObj (ps++more))):
  Inv X pins σ (upd (upd H c (.frz oc fz)) P (.tbl (ps++more))) { s with heap:=h'.push ob,toks:=tk }:=by
 have RT:=I.hok.fresh Yn;have kp:∀b o,b≠P->s.heap.get? b=some o->(h'.push ob).get? b=some o:=λb o n e=>ag _ (hx b o n e);have nP:∀b,H b=none->b≠P:=λb n z=>by grind
 have stay:∀x o,H x=some o->(∀ps,o≠.tbl ps)->upd (upd H c (.frz oc fz)) P (.tbl (ps++more)) x=some o:=λx o e n=>by
  rw[aP (qB e hP (n ps)),aP (aQ e RT)];omega
 refine I.step (ch:= []) (λ_ z=>nomatch z) (λb o _ _ _ e n=>kp b o (nP b n) e) (λb o _ _ _ e n=>⟨_,kp b o (nP b n) e⟩)
  (λb o _ e n=>by rw[aP (nP b n),aP (aG (ao (ay e) Yn))];omega) (λb o _ e=>?_) (λb xs e=>stay b _ e λ_ z=>by cases z) (λb o u e=>stay b _ e λ_ z=>by cases z)
  (λb qs e=>?_) (λm hm=>?_) (λb u e=>?_) I.bare
 .by_cases hb:b=P
  .exact⟨_,by rw[hb];exact ag _ XO⟩
  .exact⟨o,kp b o hb e⟩
 .by_cases hb:b=P
  .rw[hb,hP]at e
   cases e;exact⟨_,by rw[hb,bS]⟩
  .exact⟨#[],by rw[aP hb,aP (aQ e RT),e];simp⟩
 .exact(hm.extBut hx (nP _ I.free)).push _
 .by_cases hb:b=P
  .rw[hb,bS]at e
   cases e;rw[hb];exact ag _ XO
  .rw[aP hb]at e
   by_cases hbc:b=c
   .rw[hbc,bS]at e
    cases e;rw[hbc];exact⟨ag _ hc,trivial,⟨_,ag _ hc⟩,λ_ _ _ _=>trivial⟩
   .rw[aP hbc]at e
    refine(I.hok b u e).stay (λd v hd q=>kp d v ?_ q) (λd q=>stay d _ q λ_ z=>by cases z) λd xs q=>stay d _ q λ_ z=>by cases z
    grind
def baseOf(h:Heap)(H:Hp)(fr:List Addr):Heap:=gE (xY h H) fr
variable{h:Heap}{fr:List Addr}{b:Addr}{o:Obj}
theorem eu{H:Hp}(e:h.get? b=some o)(n:H b=none)(hf:b∉fr):(baseOf h H fr).get? b=some o:=eR _ (o7 e n) hf
theorem B6{H:Hp}(e:(baseOf h H fr).get? b=some o):h.get? b=some o/\H b=none:=AX (jT fr e)
theorem oR(I:Inv X pins σ H s):∀b o,X.base.get? b=some o->(baseOf s.heap H (frs 4#7)).get? b=some o:=λb o e=>
 eu (I.bs b o e).1 (I.bs b o e).2 λz=>by
  have:=(I.stack.mem z).1
  grind
theorem pW(I:Inv X pins σ H s):CD X.prog X.w X.K X.mg 10#6 X.A X.stack s H:=by
 have k:=oR I;obtain⟨m1,m2,⟨mb,m3,m4⟩,m5⟩:=I.ok.mod;refine⟨I.ok.frames,⟨m1.keeps k,m2.keeps k,⟨mb,m3.keeps k,m4⟩,m5.keeps k⟩,λb o e=>B6 e,by rw[baseOf,oh,pR]<;>simp_all,?_,I.stkFree,I.hok,I.bare⟩;have all:∀l,(∀b∈frs l,b∈frs 4#7)->s.heap.FunFrames X.base l->s.heap.FunFrames 10#6 l:=by
  intro l
  induction l with
  |nil=>intro _ _;trivial
  | cons env r ih=>
    intro hs hl;obtain⟨hk,⟨L,o,hf,hn,ho,hd⟩,hr⟩:=hl;have hL:=hs L (by unfold frs;simp_all);exact⟨hk,⟨L,o,hf,fV _ hL,ho,hd⟩,ih (λb hb=>hs b (by unfold frs;rw[gF,hf];exact az _ hb)) hr⟩
 exact all _ (λ_ h=>h) I.stack
end
def eU(mg:Str->Option Value)(base:Heap):Prop := ∃ bm ob,mg "__builtins__"=some (.ref bm)/\bm≠builtinsNs/\base.get? bm=some ob/\ob.cls=.type "module"/\ob.dict=some builtinsNs/\ob.data=.plain
theorem eU.keeps{b b':Heap}(h:eU mg b)(k:∀a o,b.get? a=some o->b'.get? a=some o):eU mg b':=
 let ⟨bm,ob,e1,e2,e3,r⟩:=h;⟨bm,ob,e1,e2,k _ _ e3,r⟩
structure Mkr(M:Mo)(c P:Addr)(q:Str):Prop where
 hd:∀h:Heap,M.K.K.In h->CodeHd h c P
 bl:eU M.mg M.base
 gP:mainGlobals≠P
 mem:(P,q)∈M.K.tabs
 un:∀r∈M.K.tabs,r.1=P->r.2=q
def KX.to(K:KX)(caps:List U)(capv:List V)(cds:List 2#2):KX:=⟨K.K,caps,capv,cds,K.tabs⟩
def Mo.to(M:Mo)(caps:List U)(capv:List V)(cds:List 2#2)(base:Heap):Mo:=⟨M.P,M.w,M.K.to caps capv cds,M.mg,base,none⟩
structure FnC(M:Mo)(x:Str)(k:Nat)(ps:List Str)(F:Addr->MF->MF):Prop where
 ex:∃(f:Addr) (fd:FuncData),M.mg x=some (.ref f)/\cy M.K (.ref f)=true/\Binds M.K fd ps [] /\
  ∀(caps:List U) (capv:List V) (cds:List (Addr×Obj)) (base:Heap) (g:Addr) (j:Nat) (lps:List Str) (φ:MF),eU M.mg base->k<=j->Lam (M.to caps capv cds base) g j lps φ ->
   FnOk M.P M.w M.K M.mg base CX0 (j+1) f fd ps (spM (M.K.to caps capv cds) (F g φ))
def rC:List (List Str) := [["x"],["least"],["walk"],["i","j"],["one","other"],["group","steps"]]
def rJ(p:Arguments):Bool:=p.posonlyargs.isEmpty&&(p.vararg.isNone&&(p.kwonlyargs.isEmpty&&(p.kw_defaults.isEmpty&&(p.kwarg.isNone&&p.defaults.isEmpty))))
def rY(p:Arguments):Option (List Str):=if rJ p&&rC.contains (p.args.map (·.arg)) then some (p.args.map (·.arg)) else none
variable{p:Arguments}
theorem sX(h:rJ p=true):p=⟨[],p.args,none,[],[],none,[]⟩:=by
 obtain⟨a,b,c,d,e,f,g⟩:=p;unfold rJ at h
 simp_all
theorem zl(h:rY p=some ps):∃as,p=⟨[],as,none,[],[],none,[]⟩/\as.map (·.arg)=ps/\ps∈rC:=by
 unfold rY at h
 split at h
 .rename_i q
  cases h;rw[ak]at q;exact⟨_,sX q.1,rfl,List.contains_iff_mem.mp q.2⟩
 .cases h
variable{as:List Arg}
theorem Nx(e:as.map (·.arg)=[x]):∃an ps,as=[⟨x,an,ps⟩]:=by
 obtain⟨a,l,rfl,h1,h2⟩:=GN.mp e;rw[List.map_eq_nil_iff.mp h2];obtain⟨n,an,ps⟩:=a
 grind
theorem QO(e:as.map (·.arg)=[x,y]):∃an ps TB Sx,as=[⟨x,an,ps⟩,⟨y,TB,Sx⟩]:=by
 obtain⟨a,l,rfl,h1,h2⟩:=GN.mp e;obtain⟨TB,Sx,rfl⟩:=Nx h2;obtain⟨n,an,ps⟩:=a
 grind
theorem P7{α:Type}{us:List α}(h:0#9=1):∃a,us=[a]:=List.length_eq_one_iff.mp h
theorem QS{α:Type}{us:List α}(h:0#9=2):∃a b,us=[a,b]:=by
 cases us with
 |nil=>cases h
 | cons a us=>
   obtain⟨b,rfl⟩:=P7 (zL h);exact⟨a,b,rfl⟩
theorem Dz(e:as.map (·.arg)=ps)(hk:ps∈rC){fd:FuncData}(hp:fd.params=⟨[],as,none,[],[],none,[]⟩)(hd:fd.defaults=.none)(hl:0#9=6#0):bindArgs fd ⟨us,[]⟩=pure (ps.zip us):=by
 obtain⟨c1,c2,pr,c4,c5,df,c7,c8,c9,c10,c11,Tp,c13⟩:=fd;cases hp;cases hd;simp[rC,or_false]at hk;rcases hk with rfl|rfl|rfl|rfl|rfl|rfl
 all_goals first
  |(obtain⟨an,q,rfl⟩:=Nx e;obtain⟨a,rfl⟩:=P7 hl;rfl)
  |(obtain⟨an,q,TB,q2,rfl⟩:=QO e;obtain⟨a,b,rfl⟩:=QS hl;rfl)
theorem Cz(h:rY p=some ps)(nd:ps.Nodup){K:aj}{name:Str}{cdv ct:Value}:Binds K (kla_fn name qual p body scope cl pm cdv ct) ps []:=by
 obtain⟨as,rfl,e,hk⟩:=zl h;exact .all λus hl=>Dz e hk rfl rfl hl
theorem F7(h:rY p=some ps)(env:Env):defaultsOf p env=([],[]):=by
 obtain⟨as,rfl,_⟩:=zl h;rfl
section
variable {M:Mo}{X:Cx}{k:Nat}{N:List Str}{ns:List (Str×NameKind)}{pins:List (Addr×Obj)}{σ:St}{H:Hp}{s:Shared}
theorem sW(S:Sc M X k N ns)(I:Inv X pins σ H s)(hy:ns.lookup y=some .cell)(hc:X.env.cells.lookup y=some c):c∉frs 4#7:=λz=>by
 have fn:=(S.cel y hy).2;rcases aI.mp (I.stkSub c z) with e|hb
 .exact I.cne y c hc e
 .obtain⟨_,o,ho,_⟩:=I.ok.funs.mem hb
  exact absurd (ao (ay ho) (I.ok.cab y c fn hc)) (bp _)
theorem vU(S:Sc M X k N ns)(I:Inv X pins σ H s){μ:List Addr}{G:Rho}(er:ER H μ G σ){names:List (Str×NameKind)}:∀{fs:List Str}{is:List Nat}{cs:List U},(∀y∈fs,ns.lookup y=some .cell/\(y,aS)∈names) ->
  dY 15#7 fs=some is->fA is G=some cs->∃cv,RUs H μ cs cv/\lu 10#6 (eG X.env.cells names []) fs cv
 |[],is,cs,_,h1,h2=>by cases h1;cases h2;exact⟨[],.nil,trivial⟩
 | y::fs,is,cs,hf,h1,h2=>by
   unfold dY at h1;cases e1:N.findIdx? _ with
   |none=>rw[e1]at h1;cases h1
   | some i=>
     rw[e1]at h1;cases e2:dY _ fs with
     |none=>rw[e2]at h1;cases h1
     | some is'=>
       rw[e2]at h1;cases h1;unfold fA dY at h2;cases e3:(G[i]?).bind id with
       |none=>simp_all
       | some u=>
         rw[e3]at h2;cases e4:dY _ _ with
         |none=>rw[e4]at h2;cases h2
         | some cs'=>
           rw[e4]at h2;cases h2;obtain⟨cv,r1,r2⟩:=vU S I er (λz hz=>hf z (az _ hz)) e2 (e4);have X3:G[i]?=some (some u):=by
            grind
           obtain⟨v,Y',rv⟩:=er.get i u X3;obtain⟨hi,hy,_⟩:=dA.mp e1;have hN:X.N[i]?=some y:=by rw[S.hN,bo hi,eq_of_beq hy]
           obtain⟨m,hn,hl⟩:=I.loc;have YL:=(S.cel y (hf y aV).1).1;obtain⟨w,Zp,l⟩:=hl i y v hN Y' (.inr (.inl YL));rcases l with⟨hk,_⟩|⟨_,c,hc,o,ho,hd⟩
           .have Xw:X.env.scope.names.lookup y=some _:=hk<;>grind
           .refine⟨_,.cons rv r1,⟨c,o,w,CK (hf y aV).2 hc,?_,hd,Zp⟩,r2⟩
            exact eu ho (I.freeC y c hc) (sW S I (hf y aV).1 hc)
variable{F:Addr->MF->MF}{is:List Nat}
theorem Hm{f0:Addr}{WB:FuncData}{Wt fs:List Str}{k' j:Nat}{ml:ME}{Zr:Value}{c':Addr}{t:Tok}
  {μ:List Addr}{S1 S':Sto}{G:Rho}{x u:U}{v1:V}{u1:Value}{Q:VK}
  (S:Sc M X k N ns) (hB:eU M.mg M.base) (hj:k'<=j+1) (hk:j+2<=k) (Yy:Binds M.K WB Wt [])
  (FF:∀(caps:List U) (capv:List V) (cds:List 2#2) (base:Heap) (g:Addr) (j:Nat) (lps:List Str) (φ:MF),eU M.mg base->k'<=j->Lam 6#2 g j lps φ->FnOk M.P M.w M.K M.mg base CX0 (j+1) f0 WB Wt (spM 8#8 (F g φ)))
  (Vd:rY params=some ps) (LS:iE ps fs scope) (Zd:∀y∈fs,ns.lookup y=some .cell/\(y,aS)∈3#3) (WV:dY 15#7 fs=some is)
  (hb:∀(caps:List U) (capv:List V) (cds:List 2#2) (base:Heap),eU M.mg base->∀(X':Cx),Sc 6#2 X' j (ps++fs) 3#3->PE X' body (tM 8#8 ml))
  (I:Inv X pins σ H s) (hr:HR M.K μ S1 H) (er:ER H μ G σ) (Z7:fA is G=some cs) (spec:F f (gH ps.length ml cs) [x,.obj f] S1=some (u,S')) (rx:RU H μ x v1) (ru:RelV v1 u1) (aft:Aft M.K μ H u S' Q)
  (hf:s.heap.get? f=some (kla_obj "<lambda>" qual params body scope 13#0 pm c' Zr)) (YJ:H f=none) (Yj:f∉frs 4#7) (hc:H c'=some (.frz oc fz)) (Za:oc.data=.fields ws) (hq:ws[1]?=some (.str qual t)) :
  aC 1#2 X.A (call (.ref f0) [u1,.ref f]) 8#4 X.xe s:=by
 obtain⟨cv,rc,C⟩:=vU S I er Zd WV Z7;have Wg:eU M.mg 10#6:=hB.keeps λa o e=>oR I a o (by rw[S.hb];exact e);have lam:Lam (M.to cs cv 11#6 10#6) f (j+1) ps (gH ps.length ml cs):=by
  refine⟨_,.inl ⟨_,_,_,eu hf YJ Yj⟩,Cz Vd (uk.mp LS.nd).1,?_⟩;refine Gd (M:=M.to cs cv 11#6 10#6) rfl (λ_ _ _ h=>h.ext.cap) (eu hf YJ Yj) (aR _ aV) Za hq LS C (λy c e=>?_) (λy z c e1 e2=>I.ok.inj y z c (gf e1).1 (gf e2).1) (hb _ _ _ _ Wg);obtain⟨e1,e2⟩:=gf e;obtain⟨v,o,ho,hd⟩:=I.cell y c e1;exact⟨o,v,eu ho (I.freeC y c e1) (sW S I (Zd y (LS.fre _ e2 rfl)).1 e1),hd⟩
 have FO:=FF _ _ _ _ f (j+1) ps _ Wg hj lam;rw[<-S.hP,<-S.hw,<-S.hK,<-S.hm]at FO
 have Zw:HR (M.K.to cs cv 11#6) μ S1 H:=⟨hr.len,hr.inj,hr.cell,rc,λq hq=>by
  rcases dE.mp hq with z|z
  .exact hr.ext.cds q z
  .have e:q=(c',oc):=by simpa using z
   rw[e];exact hc,hr.ext.tab⟩
 have Zk:spM (M.K.to cs cv 11#6) (F f (gH ps.length ml cs)) [v1,.ref f] H Q E0:=by
  refine⟨μ,S1,[x,.obj f],u,S',Zw,.cons rx (.cons (by simp only[RU]) .nil),spec,λY2 v H' p' k' ZX TQ=>?_⟩;refine aft Y2 v H' p' k' ⟨ZX.len,ZX.inj,ZX.cell,RUs.mono k' p' _ _ hr.ext.cap,λq hq=>ZX.ext.cds q (dw _ hq),ZX.ext.tab⟩ TQ
 have hl:([u1,bY f]++[]).length=Wt.length:=by have:=FO.len _ _ _ _ Zk;simpa using this
 rw[<-S.hK]at Yy;refine xu (ff (FO.run X.A X.stack s H ⟨[u1,.ref f],[]⟩ [u1,.ref f] [v1,.ref f] Q E0 11#3 (pW I) (Yy s _ I.kIn hl) (.cons ru (.cons rfl .nil)) Zk) λr s' hq=>?_);cases r with
 |error e=>exact hq.elim
 | ok fl=>
   cases fl with
   |ret u=>exact I.after hq
   |next=>exact bH hq
   |brk=>exact bH hq
   |cont=>exact bH hq
theorem G4{Wt fs:List Str}{k' j:Nat}{ml ma:ME}{g q:Str}{P:Addr}{a:Expr}{p1 lp pos:Pos}
  (S:Sc M X k N ns) (FC:FnC M g k' Wt F) (hj:k'<=j+1) (hk:j+2<=k) (WG:M.mkr=some (c,q)) (MK:Mkr M c P (q++"<lambda>"))
  (hg:dg ns g=true) (Ur:(g==("__debug__":Str))=false) (ha:PE X a 3#0) (hs:starEach [a,.Lambda params body scope lp] X.env=13#1::starEach [.Lambda params body scope lp] X.env)
  (Vd:rY params=some ps) (LS:iE ps fs scope) (Zd:∀y∈fs,ns.lookup y=some .cell/\(y,aS)∈3#3) (WV:dY 15#7 fs=some is)
  (hb:∀(caps:List U) (capv:List V) (cds:List 2#2) (base:Heap),eU M.mg base->∀(X':Cx),Sc 6#2 X' j (ps++fs) 3#3->PE X' body (tM 8#8 ml)):
  PE X (.Call (.Name g p1) [a,.Lambda params body scope lp] [] pos) (tM M.K (pQ F ps.length is ml ma)):=by
 intro pins s σ H Q I h;obtain⟨μ,S0,G,u,S',hr,er,qm,aft⟩:=h;obtain⟨x,S1,e1,qm⟩:=aL qm;cases Z7:fA is G with
 |none=>rw[Z7]at qm;cases qm
 |some cs=>
 rw[Z7]at qm;simp only[aH]at qm
 split at qm
 rotate_left
 .cases qm
 rename_i hx
 have spec:=λf=>(hx.choose_spec f).trans qm;obtain⟨f0,WB,hm,Zo,Yy,FF⟩:=FC.ex;rw[<-S.hK]at Zo;refine cJ (iW I 3#8 (by rw[S.hm];exact hm) ?_ Ur);refine jU I.ok.mod.kin Zo ?_ hs rfl;rw[hs];refine dm (thn (ha _ s σ H (λv H1=>∃Y0,Pre μ _/\aU H H1/\HR _ _ S1 H1/\RU H1 _ x v) I ⟨μ,S0,G,x,S1,hr,er,e1,λY2 v H' p k Zw ru=>⟨Y2,p,k,Zw,ru⟩⟩) λu1 s1 ⟨v1,H1,I1,r1,Y0,Se,Sz,Z',rx1⟩=>?_);obtain⟨YR,YT⟩:=S.cod c q WG;obtain⟨Tu,hP,tr,al⟩:=Z'.ext.tab _ MK.mem;have WL:=I1.hok P _ hP;have kin:=by have:=I1.kIn;rwa[S.hK]at this
 have C:=MK.hd _ kin;have WO:=I1.mod.glob.keeps I1.bk;obtain⟨bm,ob,b1,b2,b5,b6,b7,b8⟩:=MK.bl;have Xq:=I1.bk bm ob (by rw[S.hb];exact b5);have b3:bm≠mainGlobals:=λz=>by
  obtain⟨o,es,ep,e,hd,_⟩:=WO;rw[<-z,Xq]at e;cases e;rw[b8]at hd;cases hd
 have b4:bm≠P:=λz=>by
  rw[z,WL]at Xq;cases Xq;cases b8
 have BA:s1.heap.BuiltinsAt X.mg P:=⟨bm,ob,by rw[S.hm];exact b1,b2,b3,b4,Xq,b6,b7,b8⟩;have Yc:=tI λy hy Ul=>I.ok.has _ (.inl (S.cel _ (Zd _ (LS.fre y hy Ul)).1).1);refine dm (PySem.W.kla_eval (F7 Vd _) ?_);have fin:∀(H2:Hp) (s2:Shared) (c' f:Addr) (Zr:Value) (oc:Obj) (ws:Array _) (t:Tok),Inv X pins σ H2 s2->aU H1 H2->HR M.K Y0 S1 H2 ->
   s2.heap.get? f=some (kla_obj "<lambda>" 16#1 params body scope 13#0 15#3 c' Zr)->H2 f=none->7#6<=f->H2 c'=some (.frz oc fz)->oc.data=.fields ws->ws[1]?=some (.str (q++"<lambda>") t) ->
   aC 1#2 X.A (spliced []) (λvs ZY=>X.K.In ZY.heap/\aC 1#2 X.A (call (.ref f0) ([]++(u1::bY f::vs))) 8#4 X.xe ZY) X.xe s2:=by
  intro H2 s2 c' f Zr oc ws t I2 XN ZX hf YJ WN hc Za hq;have Yj:f∉frs _:=λz=>by
   obtain⟨_,o,ho,_⟩:=I1.stack.mem z;exact absurd (ao (ay ho) WN) (bp _)
  rw[<-YT]at hq;exact eM ⟨I2.kIn,Hm S MK.bl hj hk Yy FF Vd LS Zd WV hb I2 ZX (er.mono (Sz.trans XN) Se) Z7 (spec f) (RU.mono XN 2#1 _ _ rx1) r1 (aft.mono Se (Sz.trans XN)) hf YJ Yj hc Za hq⟩
 cases ham:codeAmong lp _ with
 | none=>
   refine zD Yc I1.ok.glob WO YR C WL tr ham MK.gP BA λc' Zr h' tk hx Yn ZR WK XO=>?_;obtain⟨c2,oc,ws,t,e,Za,hd,XT⟩:=WK;cases e;have I2:=va (ob:=kla_obj "<lambda>" 16#1 params body scope 13#0 15#3 c' Zr) (tk:=tk) I1 hP hx Yn Za XO;rw[YT]at XT;obtain⟨XN,ZX⟩:=Z'.table hP (I1.hok.fresh Yn) hd XT MK.un;have ZN:=aD Yn (aM ZR);refine fin _ _ c' _ _ oc ws t I2 XN ZX (av _ rfl) ?_ ZN ?_ hd XT
   .rw[aP (bD (ay XO)),aP (bD ZR)]
    exact I1.hok.fresh ZN
   .rw[aP (aQ hP (I1.hok.fresh Yn)).symm,bS]
 | some cv=>
   obtain⟨c',oc,ws,t,rfl,YN,hd,XT⟩:=al lp cv ham;refine vP Yc I1.ok.glob WO YR C WL tr ham BA λZr h' tk hk ZN=>?_;have I2:=I1.kept (t':=tk) (h':=h'.push (kla_obj "<lambda>" 16#1 params body scope 13#0 15#3 c' Zr)) (fun b o e=>ag _ (hk b o e));exact fin H1 _ c' _ _ oc ws t I2 7#9 Z' (av _ rfl) (I1.hok.fresh ZN) ZN YN hd XT
end
end _G
namespace _G
open PySem PySem.Spec _L
open PyProof.Rows hiding St
def Trc(e T:Addr)(cls:Value)(h:Heap):Prop:= ∃(oe:Obj) (vs:Array Value) (a0:Value) (oT:Obj) (ts:Array Value),h.get? e=some oe/\(oe.cls=cls/\vs[0]?=some a0)/\oe.data=.fields vs/\vs[1]?=some (.ref T)/\T≠e/\h.get? T=some oT/\oT.data=.fields ts/\ts[3]?=some .none
def CX1(P:Program)(w:World):CXT:=λouter H s E ev s'=>∃(e T:Addr) (cls:Value) (H':Hp),ev=.ref e/\s'.os=s.os/\AllBare s'.gens/\Un (frs outer) [] H H' s.heap s'.heap/\HOk P w H' s'.heap/\Trc e T cls s'.heap/\s.heap.get? e=none/\s.heap.get? T=none/\H' e=none/\H' T=none/\E cls none H'
variable{h:Heap}{e:Addr}
theorem Trc.of{base:Heap}{cls a0:Value}(t:h.TracedW base e cls a0):∃T,Trc e T cls h/\base.get? T=none:=by
 obtain⟨oe,vs,T,oT,ts,h1,h2,h3,h4,h5,h6,h7,h8,h9⟩:=t;exact⟨T,⟨oe,vs,a0,oT,ts,h1,h2,h3,h4,h6,h7,h8,h9⟩,h5⟩
variable{T:Addr}
theorem Trc.to{base:Heap}{cls:Value}(t:Trc e T cls h)(hT:base.get? T=none):∃a0,h.TracedW base e cls a0:=by
 obtain⟨oe,vs,a0,oT,ts,h1,h2,h3,h4,h6,h7,h8,h9⟩:=t;exact⟨a0,oe,vs,T,oT,ts,h1,h2,h3,h4,hT,h6,h7,h8,h9⟩
variable{P:Program}{w:World}{H:Hp}{a:Addr}
theorem fb.has{o:HO}(x:fb P w H h a o):∃u,h.get? a=some u:=by
 cases o with
 |lst xs=>obtain⟨_,_,_,_,e⟩:=x;exact⟨_,e⟩
 |tup xs=>obtain⟨_,_,_,_,o,e,_⟩:=x;exact⟨_,e⟩
 |dK kvs=>obtain⟨_,_,_,_,o,_,_,e,_⟩:=x;exact⟨_,e⟩
 |dT kvs=>obtain⟨_,_,_,_,o,_,_,e,_⟩:=x;exact⟨_,e⟩
 |set S n=>obtain⟨o,_,_,_,e,_⟩:=x;exact⟨_,e⟩
 |ins C dx fs=>obtain⟨_,_,_,e,_⟩:=x;exact⟨_,e⟩
 |own y=>obtain⟨_,e⟩:=x;exact⟨_,e⟩
 |xd fs=>obtain⟨_,⟨_,_,_,e,_⟩,_⟩:=x;exact⟨_,e⟩
 |rng lo hi=>obtain⟨_,_,_,e⟩:=x;exact⟨_,e⟩
 |frz ob u=>obtain⟨e,_⟩:=x;exact⟨_,e⟩
 |tbl ps=>exact⟨_,(x)⟩
 |met f y=>exact⟨_,(x)⟩
 |ext φ=>obtain⟨_,e,_⟩:=x;omega
theorem HOk.none_of(x:HOk P w H h)(e:h.get? a=none):H a=none:=by
 cases q:H a with
 |none=>rfl
 | some o=>
   obtain⟨u,hu⟩:=fb.has (x a o q)
   grind
theorem qi{h g base:Heap}{S:List Addr}:∀{l:List Env},(∀b∈frs l,b∈S)->h.FunFrames base l->h.FunFrames (gE g S) l
 |[],_,_=>trivial
 | env::r,hs,⟨hk,⟨L,o,hf,hn,ho,hd⟩,hr⟩=>by
   have hL:=hs L (by unfold frs;simp_all);exact⟨hk,⟨L,o,hf,fV _ hL,ho,hd⟩,qi (λb hb=>hs b (by unfold frs;rw[gF,hf];exact az _ hb)) hr⟩
structure Left(fs:List Addr)(e T:Addr)(h h':Heap):Prop where
 keep:∀b o,b∉fs->b≠e->b≠T->h.get? b=some o->h'.get? b=some o
 slot:∀b o,b∈fs->h.get? b=some o->∃sl,h'.get? b=some { o with slots:=sl }
variable{h2:Heap}
theorem Left.un{fs:List Addr}{H':Hp}{h1:Heap}(l:Left fs e T h1 h2)(u:Un fs [] H H' h h1)(he:h.get? e=none)(hT:h.get? T=none):Un fs [] H H' h h2 where
 keep:=λb o q n hb hx=>l.keep b o hb (λz=>by grind) (λz=>by grind) (u.keep b o q n hb hx)
 slot:=λb o q n hb hx=>by
  obtain⟨sl,e1⟩:=u.slot b o q n hb hx;obtain⟨XD,e2⟩:=l.slot b _ hb e1;exact⟨_,e2⟩
 free:=λb o q n hx=>u.free b o q n hx
 there:=λb o q hx=>by
  obtain⟨o',e1⟩:=u.there b o q hx;by_cases hb:b∈fs
  .obtain⟨sl,e2⟩:=l.slot b _ hb e1
   exact⟨_,e2⟩
  .exact⟨o',l.keep b o' hb (λz=>by grind) (λz=>by grind) e1⟩
 tups:=u.tups
 frzs:=u.frzs
 tbls:=u.tbls
theorem Left.hok{fs:List Addr}{h':Heap}(l:Left fs e T h h')(x:HOk P w H h)(hf:∀b∈fs,H b=none)(he:H e=none)(hT:H T=none):HOk P w H h':=λa o q=>by
 refine(x a o q).stay (λb u hb e1=>?_) (λ_ z=>z) λ_ _ z=>z;have key:∃o,H b=some o:=by
  grind
 obtain⟨ob,key⟩:=key;exact l.keep b u (λz=>by grind) (λz=>by grind) (λz=>by grind) e1
section
variable {X:Cx}{pins:List (Addr×Obj)}{σ:St}{H H':Hp}{s s':Shared}
theorem flying{cls:Value}(I:Inv X pins σ H' s')(t:Trc e T cls s'.heap):∃a0,nz (gE s'.heap (e::T::frs 4#7)) X.stack e cls a0 s'.heap:=by
 obtain⟨a0,z⟩:=t.to (fV _ (az _ aV));exact⟨a0,λb o q=>jT _ q,fV _ aV,qi (λb hb=>az _ (az _ hb)) I.stack,z⟩
theorem xh(I:Inv X pins σ H' s')(k:(gE s'.heap (e::T::frs 4#7)).StaysIn h2)(sl:s'.heap.UpToSlots h2):Left (frs 4#7) e T s'.heap h2:=by
 refine⟨λb o hb he hT q=>k b o (eR _ q λz=>?_),λb o hb q=>?_⟩
 .grind
 .obtain⟨_,o',ho,hd⟩:=I.stack.mem hb
  rw[q]at ho;cases ho;exact sl b o q hd
theorem Hi{T2:Addr}{cls:Value}(I:Inv X pins σ H' s')(t2:Trc e T2 cls h2)(hn:(gE s'.heap (e::T::frs 4#7)).get? T2=none)(sl:s'.heap.UpToSlots h2):T2=T\/s'.heap.get? T2=none:=by
 cases q:s'.heap.get? T2 with
 |none=>exact .inr rfl
 | some o=>
   left;obtain⟨oe,vs,a0,oT,ts,h1,Ua,h3,h4,h6,h7,h8,h9⟩:=t2;by_cases hm:T2∈e::T::frs 4#7
   .rcases aI.mp hm with z|z
    .exact absurd z h6
    .rcases aI.mp z with z|z
     .omega
     .obtain⟨_,o',ho,hd⟩:=I.stack.mem z
      obtain⟨XD,e2⟩:=sl T2 o' ho hd;rw[h7]at e2;simp_all
   .rw[eR _ q hm]at hn;cases hn
variable{E:XK}
theorem EN{cls:Value}(hex:X.ex=[])(I:Inv X pins σ H s)(os:s'.os=s.os)(hg:AllBare s'.gens)(un:Un (frs 4#7) [] H H' s.heap s'.heap)(hok:HOk X.prog X.w H' s'.heap)(t:Trc e T cls s'.heap)(he:s.heap.get? e=none)(hT:s.heap.get? T=none)(ne:H' e=none)(nT:H' T=none)(q:E cls none H'):
  CX1 X.prog X.w X.outer X.H₀ X.s₀ E (.ref e) s':=by
 have I2:=I.call' os un hok hg λb z=>nomatch z
 have old:∀a,s.heap.get? a=none->X.s₀.heap.get? a=none:=λa ha=>by
  cases q:X.s₀.heap.get? a with
  |none=>rfl
  | some o=>
    obtain⟨o',e1⟩:=I.base.there a o q (by rw[hex];simp)<;>grind
 have b:=I2.base;rw[hex]at b;exact⟨e,T,_,H',rfl,os.trans I.os,hg,b,hok,t,old e he,old T hT,ne,nT,q⟩
structure Lv(X:Cx)(E:XK):Prop where
 stk:X.stack=X.env::X.outer
 fr:X.env.frame=some X.env.locals
 ex:X.ex=[]
 xe:X.xe=λe s'=>aC (model X.prog X.w) X.A (leaving X.env e) (λ_ s''=>CX1 X.prog X.w X.outer X.H₀ X.s₀ E e s'') (λe' s''=>CX1 X.prog X.w X.outer X.H₀ X.s₀ E e' s'') s'
theorem Lv.pass(L:Lv X E):tP (CX1 X.prog X.w) X E:=by
 rintro pins σ H s ev s' I ⟨e,T,cls,H',rfl,os,hg,un,hok,t,he,hT,ne,nT,q⟩;have I1:=I.call' os un hok hg λb z=>nomatch z
 rw[L.xe];obtain⟨a0,fl⟩:=flying I1 t;have Tj:=fl;rw[show nz _ _ e _ a0 _=nz _ (X.env::X.outer) e _ a0 _ by rw[<-L.stk]]at Tj;refine wpAny_leaves_onW (by rw[I.ok.frames,L.stk]) L.fr Tj λh2 Tt sl=>?_;obtain⟨f1,f2,f3,f4⟩:=Tt;obtain⟨T2,t2,Ya⟩:=Trc.of f4;have lf:=xh I1 f1 sl;have new:=Hi I1 t2 Ya sl;refine EN L.ex I os hg (lf.un un he hT) (lf.hok hok I1.stkFree ne nT) t2 he ?_ ne ?_ q
 .rcases new with z|z
  .rw[z];omega
  .cases q:s.heap.get? T2 with
   |none=>rfl
   | some o=>
     obtain⟨o',e1⟩:=un.there T2 o q 0#3<;>grind
 .rcases new with z|z
  .rw[z];omega
  .exact HOk.none_of hok z
theorem Lv.made{C:Addr}{args:List Value}{h1:Heap}(L:Lv X E)(I:Inv X pins σ H s)(hx:Heap.MadeExcOf s.heap h1 e (.ref C) args)(q:E (.ref C) none H):X.xe (.ref e) { s with heap:=h1 }:=by
 rw[L.xe];have fs:=by
  have:=qi (g:=s.heap) (λb hb=>hb) I.stack;rwa[show s.heap.FunFrames _ _=s.heap.FunFrames _ (X.env::X.outer) by rw[<-L.stk]]at this
 refine wpAny_leaves_madeW (by rw[I.ok.frames,L.stk]) L.fr (λb o q=>jT _ q) fs hx λh2 t Tt _ _ sl=>?_;obtain⟨f1,f2,f3,f4⟩:=Tt;obtain⟨T2,t2,Ya⟩:=Trc.of f4;have XD:=λb o q nf=>sl b o (hx.keeps b o q) nf;have slt:∀b o,b∈frs _->s.heap.get? b=some o->∃sl,h2.get? b=some _:=λb o hb q=>by
  obtain⟨_,o',ho,hd⟩:=I.stack.mem hb;rw[q]at ho;cases ho;exact XD b o q hd
 have lf:Left _ e e _ h2:=⟨λb o hb _ _ q=>f1 b o (eR _ q hb),slt⟩;have ne:=HOk.none_of I.hok hx.new;have hT:s.heap.get? T2=none:=by
  cases q:s.heap.get? T2 with
  |none=>rfl
  | some o=>
    by_cases hm:T2∈frs 4#7
    .obtain⟨_,o',ho,hd⟩:=I.stack.mem hm
     obtain⟨sl'',e2⟩:=XD T2 o' ho hd;obtain⟨oe,vs,a0,oT,ts,h1,Ua,h3,h4,h6,h7,h8,h9⟩:=t2<;>grind
    .rw[eR _ q hm]at Ya;omega
 exact EN L.ex I rfl I.bare (lf.un Un.refl hx.new hx.new) (lf.hok I.hok I.stkFree ne ne) t2 hx.new hT ne (HOk.none_of I.hok hT) q
end
end _G
namespace _G
open PySem PySem.Spec _L
open PySem.W (envX kla_fn kla_obj CodeHd tabObj)
open PyProof.Rows hiding St
abbrev MX:=Rho->Sto->Option (Nat×Sto)
abbrev RF:=List U->Sto->Option (Nat×Sto)
def xFn(r:RF)(a:MA):MX:=λG S=>bnd (a G S) λus S1=>r us S1
def xML(o:ME)(r:MX):MX:=λG S=>bnd (o G S) λp S1=>match p with
 |.ref n=>(getL S1 n).bind λ_=>r G S1
 |_=>none
def jo(np:Nat)(r:MX)(cs:List U):RF:=λus S=>if 0#9=np then r (us.map some++cs.map some) S else none
def kL(b:Nat->Bool)(is:List Nat):Cell:= .lst (is.map λi=>.bl (b i))
def gg(b:Nat->Bool):Sto:= [kL b [0,1,2],kL b [3,4,5],kL b [0,1,2,3,4,5,6]]
def bQ(q:Nat)(j:Nat):Bool:=decide (q=j)||decide (j=7)
def jZ(rz:List Nat)(φ:MF)(ψ:RF)(S:Sto):Res U:=match φ [] S with
 |some r=>some (.non,r.2++gg λ_=>false)
 | none=>match ψ [] S with
   |some r=>if r.1∈rz then some (.ref (r.2.length+3),r.2++(gg (bQ r.1)++[.lst [.int r.1]])) else none
   |none=>none
abbrev VF:=MF->RF->Sto->Res U
def refF(vf:VF)(g:Addr)(φ:MF)(ψ:RF):MF:=λus S=>match us with
 |[.obj a]=>if a=g then vf φ ψ S else none
 |_=>none
def gL(vf:VF)(is:List Nat)(ml:ME)(rl:MX):ME:=λG S=>(fA is G).bind λcs=>vf (gH 0 ml cs) (jo 0 rl cs) S
def FM(cl:Nat->Addr)(K:KX)(μ:List Addr)(H:Hp)(C:Nat)(S':Sto)(E:XK):Prop:= ∀Y2 H',Pre μ Y2->aU H H'->HR K Y2 S' H'->E (.ref (cl C)) none H'
def tX(cl:Nat->Addr)(K:KX)(r:MX)(E:XK)(σ:St)(H:Hp):Prop:= ∃μ S G C S',HR K μ S H/\ER H μ G σ/\r G S=some (C,S')/\FM cl K μ H C S' E
def tXE(cl:Nat->Addr)(K:KX)(r:MX)(E:XK):TE:=λσ H _=>tX cl K r E σ H
def tXA(cl:Nat->Addr)(K:KX)(r:MX)(E:XK):TA:=λσ H _=>tX cl K r E σ H
def tXS(cl:Nat->Addr)(K:KX)(r:MX)(E:XK):TS:=λ_ σ H=>tX cl K r E σ H
def spX(cl:Nat->Addr)(K:KX)(r:RF):Sp:=λvs H _ E=>∃μ S us C S',HR K μ S H/\RUs H μ us vs/\r us S=some (C,S')/\FM cl K μ H C S' E
variable{cl:Nat->Addr}{μ:List Addr}
theorem FM.mono{K:KX}{Y0:List Addr}{H H1:Hp}{C:Nat}{S':Sto}{E:XK}(a:FM cl K μ H C S' E)(p:Pre μ Y0)(k:aU H H1):FM cl K Y0 H1 C S' E:=λY2 H' p' k'=>a _ H' (p.trans p') (k.trans k')
abbrev vE:List Value := [.type "ValueError",.type "Exception",.type "BaseException",.type "object"]
structure FnX(M:Mo)(cl:Nat->Addr)(x:Str)(k:Nat)(ps:List Str)(r:RF):Prop where
 ex:∃(f:Addr) (fd:FuncData),M.mg x=some (.ref f)/\cy M.K (.ref f)=true/\Binds M.K fd ps []/\FnOk M.P M.w M.K M.mg M.base (CX1 M.P M.w) k f fd ps (spX cl M.K r)
variable{X:Cx}
theorem _root_._L.PA.nox{es:List Expr}{t:TA}(h:PA X.nox es t):PA X es t:=λpos pins s σ H Q I hw=>
 bG (h _ _ s σ H Q (I.wish _) hw) (λus s' ⟨vs,H',J,r,q⟩=>⟨vs,H',J.unwish,r,q⟩) λ_ _ z=>z.elim
theorem _root_._L.PS.nox{st:Stmt}{t:TS}(h:PS X.nox st t):PS X st t:=λpins s σ H D I hw=>
 bG (h _ s σ H D (I.wish _) hw) (λf s' hs=>SP.unwish hs) λ_ _ z=>z.elim
theorem PE.never{e:Expr}:PE X e λ_ _ _=>False:=λ_ _ _ _ _ _ h=>h.elim
theorem PSs.never{e:List Stmt}:PSs X e λ_ _ _=>False:=λ_ _ _ _ _ _ h=>h.elim
structure pE(M:Mo)(cl:Nat->Addr)(f:Addr)(k:Nat)(ps:List Str)(r:RF):Prop where
 ex:∃fd:FuncData,((∃(oc:Value) (od:Option Addr) (sl:Array (Option Value)),M.base.get? f=some ⟨oc,od,.func fd,sl⟩)\/cy M.K (.ref f)=true)/\Binds M.K fd ps []/\FnOk M.P M.w M.K M.mg M.base (CX1 M.P M.w) k f fd ps (spX cl M.K r)
variable{qual:Str}{body:Expr}{scope:Scope}{pm:Value}{oc:Obj}{ws:Array Value}{cs:List U}
theorem IC{M:Mo}(h0:M.mkr=none){name:Str}{params:Arguments}{Xp:List (Str×Addr)}{Zr:Value}{c f:Addr}{t:Tok}{ps fs:List Str}{k:Nat}{ml:MX}{od:Option Addr}{fc:Value}{Uq:Array (Option Value)}{cv:List V}(WQ:∀μ S H,HR M.K μ S H->RUs H μ cs cv)
  (hf:M.base.get? f=some ⟨fc,od,.func (kla_fn name qual params body scope Xp pm (.ref c) Zr),Uq⟩) (hc:(c,oc)∈M.K.cds) (Za:oc.data=.fields ws) (hq:ws[1]?=some (.str qual t))
  (S:iE ps fs scope) (C:lu M.base Xp fs cv) (YL:∀y c,Xp.lookup y=some c->∃o v,M.base.get? c=some o/\o.data=.cell v) (inj:∀x y c,Xp.lookup x=some c->Xp.lookup y=some c->x=y)
  (hb:∀X E,Lv X E->Sc M X.nox k (ps++fs) 3#3->PE X body (tXE cl M.K ml E)):
  FnOk M.P M.w M.K M.mg M.base (CX1 M.P M.w) (k+1) f (kla_fn name qual params body scope Xp pm (.ref c) Zr) ps (spX cl M.K (jo ps.length ml cs)):=by
 have len:∀vs H Q E,spX cl M.K (jo ps.length ml cs) vs H Q E->2#6=6#0:=λvs H Q E h=>by
  obtain⟨μ,S',us,u,ZD,hr,rs,e,_⟩:=h;unfold jo at e
  split at e
  .rename_i hl;rw[<-rs.len];exact hl
  .cases e
 refine⟨len,λA outer s H args us vs Q E hr e0 Yy r Zk=>?_⟩;have hl:=len _ _ _ _ Zk;obtain⟨μ,S1,zs,u,S2,hR,rs,e,ka⟩:=Zk;have U1:s.heap.get? c=some oc:=(e0.hok c _ (hR.ext.cds _ hc)).1;have lim:s.heap.NoLimit:=e0.mod.nolimit.keeps λb o e=>(e0.bs b o e).1;refine Dh hr.depth (e0.bs f _ hf).1 rfl S.co S.gen rfl ⟨c,oc,ws,t,rfl,U1,Za,hq⟩ (Yy _ _ _ _ ?_);refine BL S.kind (λx hx=>S.par _ (jI hx).1) λs1 x=>⟨lim.keeps x.toInCall.keep,?_⟩;show jY _ _ (.expr body 22#5) _ _;have I:=BD (qual:=qual) (f:=f) (cd:= .ref c) S hr.hd e0 hl r C YL inj x;have SS:Sc M (y6 M.P M.w M.K M.mg M.base (ps++fs) qual scope f (.ref c) Xp A outer s H) k (ps++fs) 3#3:=
  ⟨rfl,rfl,rfl,rfl,rfl,rfl,S.nd,rfl,λ_ h=>h,λy h=>⟨h,by show(scope.names.lookup y==some .cell)=true;rw[h];rfl⟩,λ_ h=>.inr h,λ_ h=>h,hr.deeper _,lq,λc q h=>by rw[h0]at h;cases h⟩
 unfold jo at e
 split at e
 rotate_left
 .cases e
 have er:ER H μ (zs.map some++cs.map some) (vs.map some++cv.map some):=by
  have rc:=WQ _ _ _ hR;have all:=rs.append rc;refine⟨by simp[rs.len,rc.len],λi w hw=>?_⟩;rw[<-cZ,cu]at hw;cases q:(zs++cs)[i]? with
  |none=>rw[q]at hw;cases hw
  | some w'=>
    rw[q]at hw;cases hw;obtain⟨v,hv,rv⟩:=all.get q;exact⟨v,by rw[<-cZ,cu,hv];rfl,rv⟩
 let X1:Cx:=(y6 M.P M.w M.K M.mg M.base (ps++fs) qual scope f (.ref c) Xp A outer s H).wish λe s'=>aC (model M.P M.w) (A.deeper 22#5) (leaving 22#5 e) (λ_ s''=>CX1 M.P M.w outer H s E e s'') (λe' s''=>CX1 M.P M.w outer H s E e' s'') s'
 refine Di (bG (hb X1 E ⟨rfl,rfl,rfl,rfl⟩ SS [] _ _ H (λ_ _=>False) (I.wish _) ⟨μ,S1,_,u,S2,hR,er,e,ka⟩) (λv s' hs=>?_) λe s' hs=>hs);obtain⟨x,H',J,rv,q⟩:=hs;exact q.elim
structure FnR(M:Mo)(cl:Nat->Addr)(x:Str)(k d:Nat)(vf:VF):Prop where
 ex :∃ (f:Addr) (fd:FuncData),M.mg x=some (.ref f)/\cy M.K (.ref f)=true/\Binds M.K fd ["call"] [] /\
  ∀(caps:List U) (capv:List V) (cds:List (Addr×Obj)) (base:Heap) (g:Addr) (j:Nat) (φ:MF) (ψ:RF),eU M.mg base->k<=j->Lam (M.to caps capv cds base) g j [] φ->pE (M.to caps capv cds base) cl g j [] ψ ->
   FnOk M.P M.w M.K M.mg base CX0 (j+d) f fd ["call"] (spM (M.K.to caps capv cds) (refF vf g φ ψ))
theorem pE.imp{M:Mo}{cl:Nat->Addr}{f:Addr}{k:Nat}{ps:List Str}{r r':RF}(L:pE M cl f k ps r)(h:∀us S q,r' us S=some q->r us S=some q):pE M cl f k ps r':=by
 obtain⟨fd,a,b,F⟩:=L.ex;refine⟨fd,a,b,F.imp λvs H Q E=>?_⟩;rintro ⟨μ,S,us,C,S',h1,h2,h3,h4⟩;exact⟨μ,S,us,C,S',h1,h2,h _ _ _ h3,h4⟩
def wB:Arguments:=⟨[],[],none,[],[],none,[]⟩
theorem tj{K:aj}{name:Str}{cl:List (Str×Addr)}{cdv ct:Value}:Binds K (kla_fn name qual wB body scope cl pm cdv ct) [] []:= .all λus hl=>by
 match us,hl with
 |[],_=>rfl
section
variable {M:Mo}{X:Cx}{k:Nat}{N:List Str}{ns:List (Str×NameKind)}{pins:List (Addr×Obj)}{σ:St}{H:Hp}{s:Shared}{cl:Nat->Addr}{vf:VF}{d:Nat}
structure Xt(M:Mo)(caps:List U)(capv:List V)(cds:List (Addr×Obj))(base:Heap):Prop where
 mod:Mod M.K M.mg M.base
 sz:M.base.objs.size<=base.objs.size
 sub:∀a o,M.base.get? a=some o->base.get? a=some o
 cap:∀{μ:List Addr}{H:Hp},RUs H μ caps capv->RUs H μ M.K.caps M.K.capv
 cds:∀q∈M.K.cds,q∈cds
theorem RUs.split{H:Hp}{μ:List Addr}:∀{as bs:List U}{vs ws:List V},as.length=2#6->RUs H μ (as++bs) (vs++ws)->RUs H μ as vs/\RUs H μ bs ws
 |[],_,[],_,_,h=>⟨.nil,h⟩
 | _::_,_,_::_,_,e,h=>by
   obtain⟨v,r,e1,h1,h2⟩:=h;cases e1;obtain⟨a,b⟩:=RUs.split (zL e) h2;exact⟨.cons h1 a,b⟩
variable{is:List Nat}{rl:MX}
theorem Gf{f0:Addr}{WB:FuncData}{fs:List Str}{k' j:Nat}{ml:ME}{Zr:Value}{c' f:Addr}{t:Tok}
  {S1 S':Sto}{G:Rho}{u:U}{Q:VK}
  (S:Sc M X k N ns) (hB:eU M.mg M.base) (hj:k'<=j+1) (hk:j+1+d<=k) (Yy:Binds M.K WB ["call"] [])
  (FF :∀ (caps:List U) (capv:List V) (cds:List 2#2) (base:Heap) (g:Addr) (j:Nat) (φ:MF) (ψ:RF),eU M.mg base->k'<=j->Lam 6#2 g j [] φ->pE 6#2 cl g j [] ψ->FnOk M.P M.w M.K M.mg base CX0 (j+d) f0 WB ["call"] (spM 8#8 (refF vf g φ ψ)))
  (LS:iE [] fs scope) (Zd:∀y∈fs,ns.lookup y=some .cell/\(y,aS)∈3#3) (WV:dY 15#7 fs=some is)
  (hb:∀(caps:List U) (capv:List V) (cds:List 2#2) (base:Heap),eU M.mg base->Xt M caps capv cds base->∀(X':Cx),Sc 6#2 X' j ([]++fs) 3#3->PE X' body (tM 8#8 ml))
  (hx:∀(caps:List U) (capv:List V) (cds:List 2#2) (base:Heap),eU M.mg base->Xt M caps capv cds base->∀(X':Cx) (E:XK),Lv X' E->Sc 6#2 X'.nox j ([]++fs) 3#3->PE X' body (tXE cl 8#8 rl E))
  (I:Inv X pins σ H s) (hr:HR M.K μ S1 H) (er:ER H μ G σ) (Z7:fA is G=some cs) (spec:vf (gH 0 ml cs) (jo 0 rl cs) S1=some (u,S')) (aft:Aft M.K μ H u S' Q)
  (hf:s.heap.get? f=some (kla_obj "<lambda>" qual wB body scope 13#0 pm c' Zr)) (YJ:H f=none) (Yj:f∉frs 4#7) (hc:H c'=some (.frz oc fz)) (Za:oc.data=.fields ws) (hq:ws[1]?=some (.str qual t)) :
  aC 1#2 X.A (call (.ref f0) [.ref f]) 8#4 X.xe s:=by
 obtain⟨cv,rc,C⟩:=vU S I er Zd WV Z7;have Wg:eU M.mg 10#6:=hB.keeps λa o e=>oR I a o (by rw[S.hb];exact e);have xt:Xt M (cs++M.K.caps) (cv++M.K.capv) 11#6 10#6:=by
  refine⟨?_,?_,λa o e=>oR I a o (by rw[S.hb];exact e),λr=>(RUs.split rc.len r).2,λ_=>dw _⟩
  .have:=I.ok.mod;rwa[S.hK,S.hm,S.hb]at this
  .have:=(pW I).bsz;have e:=I.env0.bsz;rw[S.hb]at e;rw[baseOf,oh,pR];exact e
 have YL:∀y c,(eG X.env.cells scope.names []).lookup y=some c->∃o v,(baseOf s.heap H (frs 4#7)).get? c=some o/\o.data=.cell v:=λy c e=>by
  obtain⟨e1,e2⟩:=gf e;obtain⟨v,o,ho,hd⟩:=I.cell y c e1;exact⟨o,v,eu ho (I.freeC y c e1) (sW S I (Zd y (LS.fre _ e2 rfl)).1 e1),hd⟩
 have inj:∀y z c,(eG X.env.cells scope.names []).lookup y=some c->(eG X.env.cells scope.names []).lookup z=some c->y=z:=λy z c e1 e2=>I.ok.inj y z c (gf e1).1 (gf e2).1;have lam:Lam (M.to (cs++M.K.caps) (cv++M.K.capv) 11#6 10#6) f (j+1) [] (gH 0 ml cs):=
  ⟨_,.inl ⟨_,_,_,eu hf YJ Yj⟩,tj,Gd (M:=M.to (cs++M.K.caps) (cv++M.K.capv) 11#6 10#6) rfl (λ_ _ _ h=>(RUs.split rc.len h.ext.cap).1) (eu hf YJ Yj) (aR _ aV) Za hq LS C YL inj (hb _ _ _ _ Wg xt)⟩
 have YI:pE (M.to (cs++M.K.caps) (cv++M.K.capv) 11#6 10#6) cl f (j+1) [] (jo 0 rl cs):=
  ⟨_,.inl ⟨_,_,_,eu hf YJ Yj⟩,tj,IC (M:=M.to (cs++M.K.caps) (cv++M.K.capv) 11#6 10#6) rfl (λ_ _ _ h=>(RUs.split rc.len h.ext.cap).1) (eu hf YJ Yj) (aR _ aV) Za hq LS C YL inj (hx _ _ _ _ Wg xt)⟩
 have FO:=FF _ _ _ _ f (j+1) _ _ Wg hj lam YI;rw[<-S.hP,<-S.hw,<-S.hK,<-S.hm]at FO
 have Zw:HR (M.K.to (cs++M.K.caps) (cv++M.K.capv) 11#6) μ S1 H:=⟨hr.len,hr.inj,hr.cell,rc.append hr.ext.cap,λq hq=>by
  rcases dE.mp hq with z|z
  .exact hr.ext.cds q z
  .have e:q=(c',oc):=by simpa using z
   rw[e];exact hc,hr.ext.tab⟩
 have Zk:spM (M.K.to (cs++M.K.caps) (cv++M.K.capv) 11#6) (refF vf f (gH 0 ml cs) (jo 0 rl cs)) [.ref f] H Q E0:=by
  refine⟨μ,S1,[.obj f],u,S',Zw,.cons (by simp only[RU]) .nil,(if_pos rfl).trans spec,λY2 v H' p' k' ZX TQ=>?_⟩;exact aft Y2 v H' p' k' ⟨ZX.len,ZX.inj,ZX.cell,RUs.mono k' p' _ _ hr.ext.cap,λq hq=>ZX.ext.cds q (dw _ hq),ZX.ext.tab⟩ TQ
 rw[<-S.hK]at Yy;refine xu (ff (FO.run X.A X.stack s H ⟨[.ref f],[]⟩ [.ref f] [.ref f] Q E0 11#3 (pW I) (Yy s _ I.kIn rfl) (.cons rfl .nil) Zk) λr s' hq=>?_);cases r with
 |error e=>exact hq.elim
 | ok fl=>
   cases fl with
   |ret u=>exact I.after hq
   |next=>exact bH hq
   |brk=>exact bH hq
   |cont=>exact bH hq
theorem A4{fs:List Str}{k' j:Nat}{ml:ME}{g q:Str}{c P:Addr}{p1 lp pos:Pos}
  (S:Sc M X k N ns) (FC:FnR M cl g k' d vf) (hj:k'<=j+1) (hk:j+1+d<=k) (WG:M.mkr=some (c,q)) (MK:Mkr M c P (q++"<lambda>"))
  (hg:dg ns g=true) (Ur:(g==("__debug__":Str))=false)
  (LS:iE [] fs scope) (Zd:∀y∈fs,ns.lookup y=some .cell/\(y,aS)∈3#3) (WV:dY 15#7 fs=some is)
  (hb:∀(caps:List U) (capv:List V) (cds:List 2#2) (base:Heap),eU M.mg base->Xt M caps capv cds base->∀(X':Cx),Sc 6#2 X' j ([]++fs) 3#3->PE X' body (tM 8#8 ml))
  (hx:∀(caps:List U) (capv:List V) (cds:List 2#2) (base:Heap),eU M.mg base->Xt M caps capv cds base->∀(X':Cx) (E:XK),Lv X' E->Sc 6#2 X'.nox j ([]++fs) 3#3->PE X' body (tXE cl 8#8 rl E)):
  PE X (.Call (.Name g p1) [.Lambda wB body scope lp] [] pos) (tM M.K (gL vf is ml rl)):=by
 intro pins s σ H Q I h;obtain⟨μ,S1,G,u,S',Z',er,qm,aft⟩:=h;unfold gL at qm;cases Z7:fA is G with
 |none=>rw[Z7]at qm;cases qm
 |some cs=>
 rw[Z7]at qm;simp only[aH]at qm;obtain⟨f0,WB,hm,Zo,Yy,FF⟩:=FC.ex;rw[<-S.hK]at Zo;refine cJ (iW I 3#8 (by rw[S.hm];exact hm) ?_ Ur);refine jU (h₀:=X.base) I.ok.mod.kin Zo ?_ rfl rfl;obtain⟨YR,YT⟩:=S.cod c q WG;obtain⟨Tu,hP,tr,al⟩:=Z'.ext.tab _ MK.mem;have WL:s.heap.get? P=some (tabObj Tu):=I.hok P _ hP;have kin:M.K.K.In s.heap:=by have:=I.kIn;rwa[S.hK]at this
 have C:CodeHd s.heap c P:=MK.hd _ kin;have WO:s.heap.Ns mainGlobals X.mg:=I.mod.glob.keeps I.bk;obtain⟨bm,ob,b1,b2,b5,b6,b7,b8⟩:=MK.bl;have Xq:s.heap.get? bm=some ob:=I.bk bm ob (by rw[S.hb];exact b5);have b3:bm≠mainGlobals:=λz=>by
  obtain⟨o,es,ep,e,hd,_⟩:=WO;rw[<-z,Xq]at e;cases e;rw[b8]at hd;cases hd
 have b4:bm≠P:=λz=>by
  rw[z,WL]at Xq;cases Xq;cases b8
 have BA:s.heap.BuiltinsAt X.mg P:=⟨bm,ob,by rw[S.hm];exact b1,b2,b3,b4,Xq,b6,b7,b8⟩;have Yc:closureFor scope X.env=pure 13#0:=tI λy hy Ul=>I.ok.has y.1 (.inl (S.cel y.1 (Zd y.1 (LS.fre y hy Ul)).1).1);show aC _ _ (spliced [(false,eval (.Lambda wB body scope lp) X.env)]) _ _ s;refine dm (PySem.W.kla_eval rfl ?_);have fin:∀(H2:Hp) (s2:Shared) (c' f:Addr) (Zr:Value) (oc:Obj) (ws:Array Value) (t:Tok),Inv X pins σ H2 s2->aU H H2->HR M.K μ S1 H2 ->
   s2.heap.get? f=some (kla_obj "<lambda>" 16#1 wB body scope 13#0 15#3 c' Zr)->H2 f=none->0#8<=f->H2 c'=some (.frz oc fz)->oc.data=.fields ws->ws[1]?=some (.str (q++"<lambda>") t) ->
   aC 1#2 X.A (spliced []) (λvs ZY=>X.K.In ZY.heap/\aC 1#2 X.A (call (.ref f0) ([]++(bY f::vs))) 8#4 X.xe ZY) X.xe s2:=by
  intro H2 s2 c' f Zr oc ws t I2 XN ZX hf YJ WN hc Za hq;have Yj:f∉frs 4#7:=λz=>by
   obtain⟨_,o,ho,_⟩:=I.stack.mem z;exact absurd (ao (ay ho) WN) (bp _)
  rw[<-YT]at hq;exact eM ⟨I2.kIn,Gf S MK.bl hj hk Yy FF LS Zd WV hb hx I2 ZX (er.mono XN 2#1) Z7 qm (aft.mono 2#1 XN) hf YJ Yj hc Za hq⟩
 cases ham:codeAmong lp Tu.toList with
 | none=>
   refine zD (mg:=X.mg) Yc I.ok.glob WO YR C WL tr ham MK.gP BA λc' Zr h' tk hx Yn ZR WK XO=>?_;obtain⟨c2,oc,ws,t,e,Za,hd,XT⟩:=WK;cases e;have I2:=va (ob:=kla_obj "<lambda>" 16#1 wB body scope 13#0 15#3 c' Zr) (tk:=tk) I hP hx Yn Za XO;rw[YT]at XT;obtain⟨XN,ZX⟩:=Z'.table (a:=(lp.line:Int)) (b:=(lp.col:Int)) hP (I.hok.fresh Yn) hd XT MK.un;have ZN:0#8<=10#4:=aD Yn (aM ZR);refine fin _ _ c' h'.objs.size Zr oc ws t I2 XN ZX (av _ rfl) ?_ ZN ?_ hd XT
   .rw[aP (bD (ay XO)),aP (bD ZR)]
    exact I.hok.fresh ZN
   .rw[aP (aQ hP (I.hok.fresh Yn)).symm,bS]
 | some cv=>
   obtain⟨c',oc,ws,t,rfl,YN,hd,XT⟩:=al lp cv ham;refine vP (mg:=X.mg) Yc I.ok.glob WO YR C WL tr ham BA λZr h' tk hk ZN=>?_;have I2:=I.kept (t':=tk) (h':=h'.push (kla_obj "<lambda>" 16#1 wB body scope 13#0 15#3 c' Zr)) (fun b o e=>ag _ (hk b o e));exact fin H _ c' h'.objs.size Zr oc ws t I2 7#9 Z' (av _ rfl) (I.hok.fresh ZN) ZN YN hd XT
end
end _G
namespace _G
open PySem PySem.Spec _L
open PySem.W (envX fnX fnMade CodeHd tabObj)
open PyProof.Rows hiding St
def sml(i:Int):Prop:= -(2^64)<i/\i<2^64
instance(i:Int):Decidable (sml i):=cf _
section
variable {M:Mo}{X:Cx}{k:Nat}{N:List Str}{ns:List (Str×NameKind)}
end
section
variable {M:Mo}{X:Cx}{k:Nat}{N:List Str}{ns:List (Str×NameKind)}{pins:List (Addr×Obj)}{σ:St}{H:Hp}{s:Shared}
end
end _G
namespace _G
open PySem PySem.Spec _L
open PyProof.Rows hiding St
abbrev NS:=List 6#4
structure Zt where
 R:List (Str×RF)
 F:List (Str×VF)
 cl:Nat->Addr
 nm:Str
def Zt.to(z:Zt)(nm:Str):Zt:=⟨z.R,z.F,z.cl,nm⟩
structure Tb where
 D:List (Str×MF)
 C:List (Str×U)
 L:List (Str×Addr×MF)
 H:List (Str×(Addr->MF->MF))
 mkr:Bool
 Z:Zt
def Tb.bare(T:Tb):Tb:=⟨T.D,T.C,[],T.H,false,T.Z⟩
def frees(sc:Scope):List Str:=(sc.names.filter λy=>y.2==.free).map (·.1)
def pD(ps:List Str)(sc:Scope)(ns:NS):Bool:=
 sc.kind==.function && !sc.isCoroutine && !sc.isGenerator&&decide ((ps++frees sc).Nodup)&&ps.all (λp=>sc.names.lookup p==some .local||sc.names.lookup p==some .cell)&&sc.names.all (λy=>!(y.2==.cell)||sc.names.lookup y.1==some .cell)&&(frees sc).all λy=>sc.names.lookup y==some .free&&ns.lookup y==some .cell
def notStar:Expr->Bool
 |.Starred _ _=>false
 |_=>true
def gM:Expr->Bool
 |.ListComp _ _ _ _=>false
 |.SetComp _ _ _ _=>false
 |.DictComp _ _ _ _ _=>false
 |_=>true
def il:Expr->Bool
 |.Set _ _ _=>false
 |_=>true
def j2:Expr->Bool
 |.Slice _ _ _ _=>false
 |_=>true
def notTuple:Expr->Bool
 |.Tuple _ _ _=>false
 |_=>true
def rE:List Expr->Bool
 |[.Subscript _ _ _,.Subscript _ _ _]=>true
 |_=>false
def baseOk:Expr->Bool
 |.Call (.Name _ _) [] [] _=>false
 |_=>true
def plainT:Expr->Bool
 |.Name _ _=>true
 |.Call _ _ _ _=>true
 |.Subscript _ _ _=>true
 |.Constant _ _ _=>true
 |_=>false
def dummy(N:List Str):Str:=⟨#[N.length+1]⟩
def AI(N:List Str)(x:Str):List Str:=(N.map λy=>if y==x then dummy N else y)++[x]
def Ff(N xs:List Str):List Str:=(N.zipIdx.map λ(y,i)=>if xs.contains y then(⟨#[N.length+1,i]⟩:Str) else y)++xs
def namesOf:List Expr->Option (List Str)
 |[]=>some []
 |.Name x _::r=>(namesOf r).map λxs=>x::xs
 |_=>none
def bq(x:Str):Bool := ! 7#4 && ! 17#3
def slot(N:List Str)(x:Str):Option Nat:=N.findIdx? (· == x)
def LF(g:Str):Option MF:=
 if g==("len":Str) then some cw else if g==("tuple":Str) then some bO else if g==("list":Str) then some kX
 else if g==("max":Str) then some zt else if g==("min":Str) then some yQ else if g==("all":Str) then some uw
 else if g==("sorted":Str) then some iX   else if g==("repr":Str) then some m8 else none
def iF:List Str := ["len","tuple","list","max","min","range","isinstance","bool","int","str","dict","all","any","sorted","reversed","zip","enumerate","set","sum","repr"]
def Gq(t:Str):Option String:=
 if t==("tuple":Str) then some "tuple" else if t==("list":Str) then some "list" else if t==("int":Str) then some "int"
 else if t==("bool":Str) then some "bool" else if t==("str":Str) then some "str" else if t==("dict":Str) then some "dict" else none
def MQ:Operator->Option F2
 |.Add=>some bR
 |.Sub=>some qo
 |.Mult=>some d7
 |.FloorDiv=>some oDiv
 |.Mod=>some oMod
 |.Pow=>some wa
 |_=>none
def zg:CmpOp->Option F2
 |.Lt=>some oLt
 |.LtE=>some oLe
 |.Gt=>some oGt
 |.GtE=>some oGe
 |.Eq=>some oEq
 |.NotEq=>some oNe
 |.IsNot=>some nF
 |_=>none
def sNo:MS:=λ_ _=>none
def Qc:MS:=λG S=>some (.bk,G,S)
def Pz:MS:=λG S=>some (.ct,G,S)
def Fh(name:Str)(ma:ME)(mas:MA):Option ME:=
 if name==("append":Str) then some (mML bV ma mas) else if name==("pop":Str) then some (mML nR ma mas)
 else if name==("index":Str) then some (mMT ir ma mas)
 else if name==("extend":Str) then some (mML iU ma mas) else none
set_option genInjectivity false in
structure Rc where
 e:Tb->List Str->NS->Expr->Option ME
 c:Tb->List Str->NS->Str->List Expr->Option ME
 v:Tb->List Str->NS->Str->List Expr->Option ME
 o:Tb->List Str->NS->Option Expr->Option (Option ME)
 t:Tb->List Str->NS->Expr->Option MT
 l:Tb->List Str->NS->Bool->List Expr->Option MT
 f:Tb->List Str->NS->List Expr->Option MT
 a:Tb->List Str->NS->List Expr->Option MA
 i:Tb->List Str->NS->Expr->Option MI
 g:Tb->List Str->NS->Expr->Option MG
 gs:Tb->List Str->NS->List Expr->Option MGs
 s:Tb->List Str->NS->Stmt->Option MS
 b:Tb->List Str->NS->List Stmt->Option MS
section
variable (R:Rc) (T:Tb) (N:List Str) (ns:NS)
def OS:Const->Option ME
 |.int i=>some (mC (.int i))
 |.bool b=>some (mC (.bl b))
 |.none=>some (mC .non)
 |.str x=>some (mC (.str x))
 |_=>none
def eUn(a:Expr):UnaryOp->Option ME
 |.USub=>(R.e T N ns a).map (m1 mQ)
 |.Not=>(R.e T N ns a).map (m1 zq)
 |_=>none
def eBo(op:BoolOp)(p:Pos):List Expr->Option ME
 |[]=>none
 |[a]=>R.e T N ns a
 | a::b::r=>(R.e T N ns a).bind λma=>match op with
   |.And=>(R.e T N ns (.BoolOp .And (b::r) p)).map (l8 ma)
   |.Or=>(R.e T N ns (.BoolOp .Or (b::r) p)).map (mOr ma)
def eCm(a:Expr):List CmpOp->List Expr->Option ME
 |[op],[b]=>if il b then(R.e T N ns a).bind λma=>(R.e T N ns b).bind λmb=>(zg op).map λf=>m2 f ma mb else none
 |[op,YC],[b,c]=>if il b&&il c then(R.e T N ns a).bind λma=>(R.e T N ns b).bind λmb=>(R.e T N ns c).bind λmc=>(zg op).bind λf=>(zg YC).map λg=>mCh f g ma mb mc else none
 |_,_=>none
def IW:Expr->Bool
 |.UnaryOp .USub (.Constant (.int i) _ _) _=>i==1
 |_=>false
def eSl(a:Expr)(lo hi:Option Expr):Option Expr->Option ME
 |none=>(R.e T N ns a).bind λma=>(R.o T N ns lo).bind λml=>(R.o T N ns hi).map (mSl ma ml)
 |some s=>if lo.isNone&&hi.isNone&&IW s then(R.e T N ns a).map (m1 uK) else none
def eSb(a:Expr):Expr->Option ME
 |.Slice lo hi st _=>eSl R T N ns a lo hi st
 |b=>if j2 b then(R.e T N ns a).bind λma=>(R.e T N ns b).map (m2 oIx ma) else none
def eDi:List (Option Expr)->List Expr->Option ME
 |[some a],[b]=>(R.e T N ns a).bind λma=>(R.e T N ns b).map (vB ma)
 |_,_=>none
def Bn(e:Expr):Option (Expr×Expr):=match e with
 |.Call (.Name g _) [a,b] [] _=>if g==("zip":Str) then some (a,b) else none
 |_=>none
def eIc(e:Expr):Option MI:=match Bn e with
 |some (a,b)=>if dg ns ("zip":Str) then (R.a T N ns [a,b]).map y9 else none
 |none=>none
def eLn(elt it:Expr)(ifs:List Expr)(scope:Scope)(x:Str):Option ME:=
 (R.i T N ns it).bind λmi=>(R.f T (AI N x) scope.names ifs).bind λmt=>(R.e T (AI N x) scope.names elt).map (dc mi mt)
def eLt(elt it:Expr)(ifs:List Expr)(scope:Scope):Expr->Option ME
 |.Name x _=>if 12#8==.function&&my N (AI N x) ns scope.names x&&il it then eLn R T N ns elt it ifs scope x else none
 | .Tuple ts _ _=>(namesOf ts).bind λxs=>
   if 12#8==.function&&oI N (Ff N xs) ns scope.names xs&&il it then
    (eIc R T N ns it).bind λmi=>(R.f T (Ff N xs) scope.names ifs).bind λmt=>(R.e T (Ff N xs) scope.names elt).map (lK xs.length mi mt)
   else none
 |_=>none
def eLc(elt:Expr)(scope:Scope):List Comprehension->Option ME
 |[c]=>if c.is_async=0 then eLt R T N ns elt c.iter c.ifs scope c.target else none
 |_=>none
def xQ(fs:List Str)(XG:NS):Expr->Option MX
 |.Call (.Name f _) (a::as) [] _=>if dg XG f&&bq f then(T.Z.R.lookup f).bind λrf=>(R.a T.bare fs XG (a::as)).map (xFn rf) else none
 |_=>none
def Jz(fs:List Str)(XG:NS)(q:Pos)(a:Expr):Expr->Option MX
 |.Attribute o x p=>if x==("append":Str)&&baseOk o&&(p.endLine==q.line)&&notStar a then (R.e T.bare fs XG o).bind fun mo=>(xQ R T fs XG a).map (xML mo) else none
 |_=>none
def JF(fs:List Str)(XG:NS):Expr->Option MX
 |.Call g [a] [] q=>(Jz R T fs XG q a g).or (xQ R T fs XG (.Call g [a] [] q))
 |e=>xQ R T fs XG e
def DG(p:Arguments):Bool:=rJ p&&p.args.isEmpty
def Gc(g:Str)(p:Arguments)(b:Expr)(sc:Scope):Option ME:=
 if T.mkr&&T.Z.nm==("<lambda>":Str)&&DG p&&pD [] sc ns then (dY (fun y=>N.findIdx? (· == y)) (frees sc)).bind fun is=>(R.e T.bare ([]++frees sc) sc.names b).bind fun ml=>(JF R T ([]++frees sc) sc.names b).bind fun rl=>(T.Z.F.lookup g).map fun rz=>gL rz is ml rl else none
def eRg(g:Str):List Expr->Option ME
 |[a]=>if g==("list":Str) then none else (R.a T N ns [a]).map fun m=>vC (iR1 m)
 |[a,b]=>if g==("list":Str) then (R.a T N ns [a,b]).map fun m=>nJ (iR2 m) else none
 |_=>none
def eLS:List Expr->Option ME
 |[a]=>(R.a T N ns [a]).map (mFn bLS)
 |_=>none
def eC1(g:Str):Expr->Option ME
 |.Lambda p b sc _=>Gc R T N ns g p b sc
 |.Call (.Name r q) rs [] rp=>if (g==("list":Str)||g==("tuple":Str))&&r==("range":Str) then (if dg ns r then eRg R T N ns g rs else none) else if g==("len":Str)&&r==("set":Str) then (if dg ns r then eLS R T N ns rs else none) else R.c T N ns g [.Call (.Name r q) rs [] rp]
 |a=>R.c T N ns g [a]
def eIs(g t:Str)(tp:Pos)(a:Expr):Option ME:=
 if g==("isinstance":Str) then (if dg ns t&&notStar a then (Gq t).bind fun c=>(R.e T N ns a).map (m1 (ig c)) else none) else R.c T N ns g [a,.Name t tp]
def Nq(g:Str)(a:Expr)(p:Arguments)(b:Expr)(sc:Scope):Option ME:=
 if T.mkr&&T.Z.nm==("<lambda>":Str)&&notStar a then (rY p).bind fun ps=>
    if pD ps sc ns then(dY 15#7 (frees sc)).bind λis=>(R.e T N ns a).bind λma=>(R.e T.bare (ps++frees sc) sc.names b).bind λml=>(T.H.lookup g).map λF=>pQ F ps.length is ml ma else none
   else none
def eC2(g:Str)(a:Expr):Expr->Option ME
 |.Name t tp=>eIs R T N ns g t tp a
 |.Lambda p b sc _=>Nq R T N ns g a p b sc
 |b=>R.c T N ns g [a,b]
def eCf(g:Str):List Expr->Option ME
 |[]=>(T.D.lookup g).map λmf=>mFn mf ai
 |[a]=>eC1 R T N ns g a
 |[a,b]=>eC2 R T N ns g a b
 |a::b::c::r=>R.c T N ns g (a::b::c::r)
def eMe(o:Expr)(name:Str)(p q:Pos):List Expr->Option ME
 |[]=>none
 |[a]=>if baseOk o&&(p.endLine==q.line)&&notStar a then(R.e T N ns o).bind λmo=>(R.a T N ns [a]).bind (Fh name mo) else none
 |_=>none
def eCa(as:List Expr)(q:Pos):Expr->Option ME
 |.Name g _=>if dg ns g&&bq g then eCf R T N ns g as else R.v T N ns g as
 |.Attribute o name p=>eMe R T N ns o name p q as
 |_=>none
end
def sE(R:Rc)(T:Tb):List Str->NS->Expr->Option ME:=λN ns e=>match e with
  |.Name x _=>if bq x then(if kz ns x then(slot N x).map ae else if dg ns x then(T.C.lookup x).map mC else none) else none
  |.Constant c _ _=>OS c
  |.BinOp a op b _=>(R.e T N ns a).bind λma=>(R.e T N ns b).bind λmb=>(MQ op).map λf=>m2 f ma mb
  |.UnaryOp op a _=>eUn R T N ns a op
  |.BoolOp op vs p=>eBo R T N ns op p vs
  |.Compare a ops bs _=>eCm R T N ns a ops bs
  |.IfExp c a b _=>(R.t T N ns c).bind λmc=>(R.e T N ns a).bind λma=>(R.e T N ns b).map (z9 mc ma)
  |.Subscript a b _=>eSb R T N ns a b
  |.Dict ks vs _=>eDi R T N ns ks vs
  |.Tuple es _ _=>(R.a T N ns es).map eA
  |.List es _=>(R.a T N ns es).map cq
  |.ListComp elt gens scope _=>eLc R T N ns elt scope gens
  |.Call f as V9 q=>if V9.isEmpty then eCa R T N ns as q f else none
  |_=>none
def sC(R:Rc)(T:Tb):List Str->NS->Str->List Expr->Option ME:=λN ns g as=>(R.a T N ns as).bind λmas=>match LF g with
  |some mf=>some (mFn mf mas)
  |none=>(T.D.lookup g).map λmf=>mFn mf mas
def sV(R:Rc)(T:Tb):List Str->NS->Str->List Expr->Option ME:=λN ns g as=>match as with
 |[]=>none
 |a::as=>if kz ns g&&bq g then(T.L.lookup g).bind λq=>(slot N g).bind λi=>(R.a T N ns (a::as)).map (ph i q.1 q.2) else none
def sO(R:Rc)(T:Tb):List Str->NS->Option Expr->Option (Option ME):=λN ns o=>match o with
  |none=>some none
  |some e=>(R.e T N ns e).map some
def sT(R:Rc)(T:Tb):List Str->NS->Expr->Option MT:=λN ns e=>match e with
  |.UnaryOp .Not a _=>(R.t T N ns a).map eE
  |.BoolOp .And vs _=>R.l T N ns true vs
  |.BoolOp .Or vs _=>R.l T N ns false vs
  |.Compare a ops bs _=>(eCm R T N ns a ops bs).map cOf
  |e=>if plainT e then(R.e T N ns e).map cOf else none
def sL(R:Rc)(T:Tb):List Str->NS->Bool->List Expr->Option MT:=λN ns b vs=>match vs with
  |[]=>none
  |[a]=>R.t T N ns a
  |a::r=>(R.t T N ns a).bind λma=>(R.l T N ns b r).map λmr=>if b then yB ma mr else cOr ma mr
def sF(R:Rc)(T:Tb):List Str->NS->List Expr->Option MT:=λN ns ifs=>match ifs with
  |[]=>some cTT
  |[c]=>R.t T N ns c
  |_=>none
def sA(R:Rc)(T:Tb):List Str->NS->List Expr->Option MA:=λN ns es=>match es with
  |[]=>some ai
  |e::r=>if notStar e then(R.e T N ns e).bind λm=>(R.a T N ns r).map (aa m) else none
def sI(R:Rc)(T:Tb):List Str->NS->Expr->Option MI:=λN ns e=>match e with
  | .Call (.Name g q) as [] p=>
    if g==("range":Str) then
     if dg ns g then match as with
      |[a]=>(R.a T N ns [a]).map iR1
      |[a,b]=>(R.a T N ns [a,b]).map iR2
      |_=>none
     else none
    else if g==("reversed":Str) then
     if dg ns g then match as with
      |[a]=>(R.a T N ns [a]).map yG
      |_=>none
     else none
    else(R.e T N ns (.Call (.Name g q) as [] p)).map fM
  |e=>(R.e T N ns e).map fM
def sG(R:Rc)(T:Tb):List Str->NS->Expr->Option MG:=λN ns e=>match e with
  |.Name x _=>if kq ns x then(slot N x).map gN else none
  |.Tuple es _ _=>(R.gs T N ns es).map (gTp es.length)
  |_=>none
def sGs(R:Rc)(T:Tb):List Str->NS->List Expr->Option MGs:=λN ns es=>match es with
  |[]=>some jx
  |e::r=>if notStar e then(R.g T N ns e).bind λg=>(R.gs T N ns r).map (dB g) else none
def eIt(R:Rc)(T:Tb)(N:List Str)(ns:NS)(e:Expr):Option MI:=match e with
  |.Call (.Name g q) [a] [] p=>if g==("enumerate":Str) then (if dg ns g then (R.a T N ns [a]).map kQ else none) else none
  |_=>none
def Mj(R:Rc)(T:Tb)(N:List Str)(ns:NS)(y:Str)(elt it:Expr)(ifs:List Expr)(scope:Scope):Expr->Option MS
 | .Name x _=>
   if kq ns y&&(12#8==.function&&my N (AI N x) ns scope.names x&&il it) then
    (slot N y).bind λi=>(R.i T N ns it).bind λmi=>(R.f T (AI N x) scope.names ifs).bind λmt=>(R.e T (AI N x) scope.names elt).map λme=>bA i (dc mi mt me)
   else none
 |_=>none
def Nt(R:Rc)(T:Tb)(N:List Str)(ns:NS)(y:Str)(elt:Expr)(scope:Scope):List Comprehension->Option MS
 |[c]=>if c.is_async=0 then Mj R T N ns y elt c.iter c.ifs scope c.target else none
 |_=>none
def KB(R:Rc)(T:Tb)(N:List Str)(ns:NS)(x:Str):Expr->Option MS
 |.ListComp elt gens scope _=>Nt R T N ns x elt scope gens
 |e=>if kq ns x&&gM e then(slot N x).bind λi=>(R.e T N ns e).map (bA i) else none
def Az(i j:Nat)(mas:MA):MS:=λG S=>bnd (mas G S) λvs S1=>match vs with
 |[v,w]=>some (.nx,(G.set i (some v)).set j (some w),S1)
 |_=>none
def Hf(px py:Pos)(x y:Str)(a b:Expr):Bool:=px.line==py.line && !(x==y)&&notStar a&&notStar b && !(foldedForSure 8 a&&foldedForSure 8 b) && !(constantsAlone 8 a&&constantsAlone 8 b)
def Bp(ts:List Expr)(e:Expr):Option (Str×Str×List Expr):=match ts,e with
 |[.Name x px,.Name y py],.Tuple [a,b] _ _=>if Hf px py x y a b then some (x,y,[a,b]) else none
 |_,_=>none
def NH(R:Rc)(T:Tb)(N:List Str)(ns:NS)(e:Expr)(ts:List Expr)(kt:Nat)(pt:Pos):Option MS:=match Bp ts e with
 |some (x,y,as)=>if ns.lookup x==some .local&&ns.lookup y==some .local then(slot N x).bind λi=>(slot N y).bind λj=>(R.a T N ns as).map (Az i j) else none
 |none=>if gM e&&(notTuple e||rE ts) then(R.g T N ns 11#2).bind λg=>(R.e T N ns e).map λme=>AK me g else none
def Lm(R:Rc)(T:Tb)(N:List Str)(ns:NS)(e:Expr):Expr->Option MS
  |.Name x _=>KB R T N ns x e
  |.Subscript a b _=>if gM e&&j2 b then(R.e T N ns a).bind λma=>(R.e T N ns b).bind λmb=>(R.e T N ns e).map (nI ma mb) else none
  |.Tuple ts kt pt=>NH R T N ns e ts kt pt
  |_=>none
def sAs(R:Rc)(T:Tb)(N:List Str)(ns:NS)(e:Expr):List Expr->Option MS
 |[t]=>Lm R T N ns e t
 |_=>none
def sAu(R:Rc)(T:Tb)(N:List Str)(ns:NS)(x:Str)(e:Expr):Operator->Option MS
  |_=>none
def KG(R:Rc)(T:Tb)(N:List Str)(ns:NS)(op:Operator)(e:Expr):Expr->Option MS
 |.Name x _=>sAu R T N ns x e op
 |_=>none
def sRt(R:Rc)(T:Tb)(N:List Str)(ns:NS):Option Expr->Option MS
 |some e=>(R.e T N ns e).map bZ
 |none=>some (bZ (mC .non))
def sFo(R:Rc)(T:Tb)(N:List Str)(ns:NS)(it:Expr)(body:List Stmt):Expr->Option MS
  |.Name x _=>if kq ns x&&il it then(slot N x).bind λi=>(R.i T N ns it).bind λmi=>(R.b T N ns body).map (fv i mi) else none
  |.Tuple ts kt pt=>if il it then(R.g T N ns 11#2).bind λg=>(eIt R T N ns it).bind λmi=>(R.b T N ns body).map (qC g mi) else none
  |_=>none
def LN(R:Rc)(T:Tb)(N:List Str)(ns:NS)(t it:Expr)(body:List Stmt):List Stmt->Option MS
 |[]=>sFo R T N ns it body t
 |_=>none
def sWh(R:Rc)(T:Tb)(N:List Str)(ns:NS)(c:Expr)(body:List Stmt):List Stmt->Option MS
 |[]=>(R.t T N ns c).bind λmc=>(R.b T N ns body).map (Al mc)
 |_=>none
def sS(R:Rc)(T:Tb):List Str->NS->Stmt->Option MS:=λN ns st=>match st with
  |.Assign ts e _=>sAs R T N ns e ts
  |.AugAssign t op e _=>KG R T N ns op e t
  |.Expr e _=>if gM e then(R.e T N ns e).map dj else none
  |.Return o _=>sRt R T N ns o
  |.If c a b _=>(R.t T N ns c).bind λmc=>(R.b T N ns a).bind λma=>(R.b T N ns b).map (sIf mc ma)
  |.For t it body els _=>LN R T N ns t it body els
  |.While c body els _=>sWh R T N ns c body els
  |.Pass _=>some dk
  |.Break _=>some Qc
  |.Raise _ _ _=>some sNo
  |.Continue _=>some Pz
  |_=>none
section
variable (R:Rc) (T:Tb) (N:List Str) (ns:NS)
end
def sB(R:Rc)(T:Tb):List Str->NS->List Stmt->Option MS:=λN ns sts=>match sts with
  |[]=>some dk
  |[s]=>R.s T N ns s
  |s::r=>(R.s T N ns s).bind λms=>(R.b T N ns r).map (aZ ms)
def rc:Nat->Rc
 |0=>⟨λ_ _ _ _=>none,λ_ _ _ _ _=>none,λ_ _ _ _ _=>none,λ_ _ _ _=>none,λ_ _ _ _=>none,λ_ _ _ _ _=>none,λ_ _ _ _=>none,λ_ _ _ _=>none,λ_ _ _ _=>none,λ_ _ _ _=>none,λ_ _ _ _=>none,λ_ _ _ _=>none,λ_ _ _ _=>none⟩
 |n+1=>⟨sE (rc n),sC (rc n),sV (rc n),sO (rc n),sT (rc n),sL (rc n),sF (rc n),sA (rc n),sI (rc n),sG (rc n),sGs (rc n),sS (rc n),sB (rc n)⟩
abbrev cE(T:Tb)(n:Nat):=(rc n).e T
abbrev cC(T:Tb)(n:Nat):=(rc n).c T
abbrev cV(T:Tb)(n:Nat):=(rc n).v T
abbrev cO(T:Tb)(n:Nat):=(rc n).o T
abbrev cT(T:Tb)(n:Nat):=(rc n).t T
abbrev cL(T:Tb)(n:Nat):=(rc n).l T
abbrev cF(T:Tb)(n:Nat):=(rc n).f T
abbrev cA(T:Tb)(n:Nat):=(rc n).a T
abbrev cI(T:Tb)(n:Nat):=(rc n).i T
abbrev cG(T:Tb)(n:Nat):=(rc n).g T
abbrev cGs(T:Tb)(n:Nat):=(rc n).gs T
abbrev cS(T:Tb)(n:Nat):=(rc n).s T
abbrev cB(T:Tb)(n:Nat):=(rc n).b T
section
variable {env:Env}{e a b o:Expr}{es:List Expr}{pos q:Pos}
theorem bW(h:notStar e=true)(es:List Expr)(env:Env):starEach 1#9 env=(false,eval e env)::starEach es env:=by
 cases e<;>first |rfl |cases h
theorem nK(pos:Pos)(env:Env):∀{es:List Expr},es.all notStar=true->(backTo pos (starEach es env)).any (·.1)=false
 |[],_=>rfl
 | e::es,h=>by
   rw[bx,ak]at h;rw[bW h.1];show(false||(backTo _ _).any _)=false;rw[nK _ _ h.2];rfl
theorem Gm(h:plainT e=true)(env:Env):∀whole,isTrue e env whole=(do let v <- whole;standAt e.pos;holding [v] (truthy v)):=by
 intro whole;cases e<;>first |rfl |cases h
theorem oM(h:il e=true)(env:Env):∀x,foldedSetIterable e env x=pure x:=by
 intro x;cases e<;>first |rfl |cases h
theorem v5(h:il b=true)(op:CmpOp):behindInMarks op b=false:=by
 cases b<;>first |rfl |cases h
theorem JB(h:j2 b=true):xj b:=by
 intro o i;cases b<;>first |rfl |cases h
theorem pd(h:baseOk o=true)(name:Str)(env:Env):attributeBase o name env (eval o env)=eval o env:=by
 cases o with
 | Call f as ks p=>
   cases f with
   | Name x p=>
     cases as with
     | nil=>cases ks with
       |nil=>cases h
       |cons k ks=>rfl
     |cons a as=>rfl
   |_=>rfl
 |_=>rfl
theorem oZ(h:gM e=true)(t:Option Expr)(line:Nat)(env:Env):swapsWith e t line env=pure false:=by
 cases e<;>first |rfl |cases h
theorem A3(h:gM e=true)(t:Expr)(line:Nat)(env:Env):swapsWithSole [t] e line env=pure false:=by
 exact oZ h _ _ _
theorem r9(h:notStar a=true)(q:Pos)(env:Env):((backTo q (starEach [a] env)).all (λx => !x.1)&&(backToKw q (keywordEach [] env)).all (λx=>x.1.isSome)
   && decide ([a].length+([]:List Keyword).length+(if ([]:List Keyword).isEmpty then 0 else 1)<30))=true:=by
 rw[bW h];rfl
theorem L4(h:j2 b=true)(env:Env): ∀v,assign (.Subscript a b pos) env v=(do
   let ov <- holding [v] (eval a env)
   let iv <- holding [v,ov] (eval b env)
   standAt pos
   holding [v,ov,iv] (setItem ov iv v)
   release [v,ov,iv] []):=by
 intro v;cases b<;>first |rfl |cases h
theorem xO(h:notStar e=true)(es:List Expr)(env:Env):assignEach 1#9 env=(false,assign e env)::assignEach es env:=by
 cases e<;>first |rfl |cases h
theorem Bu(env:Env):∀es:List Expr,es.all notStar=true->(assignEach es env).length=es.length/\(assignEach es env).findIdx? (·.1)=none
 |[],_=>⟨rfl,rfl⟩
 | e::es,h=>by
   rw[bx,ak]at h;obtain⟨a,b⟩:=Bu env es h.2;rw[xO h.1];exact⟨by simp[a],by rw[rM];simp[b]⟩
theorem yv{ts:List Expr}{kt:Nat}{pt:Pos}(h:(notTuple e||rE ts)=true):swappedStores [.Tuple ts kt pt] e env=pure none:=by
 cases e with
 | Tuple vs k2 p2=>
   have h':=h;unfold rE at h'
   split at h'
   .exact yR
   .cases h'
 |_=>rfl
theorem z8:swappedStores [.Subscript a b pos] e env=pure none:=by
 cases e<;>rfl
end
theorem fN{T:Tb}:∀{n:Nat}{N:List Str}{ns:NS}{es:List Expr}{m:MA},cA T n N ns es=some m->es.all notStar=true
 |0,_,_,_,_,h=>by simp[cA,rc]at h
 |n+1,_,_,[],_,h=>rfl
 | n+1,N,ns,e::es,m,h=>by
   simp only[cA,rc,sA]at h
   split at h
   .rename_i hs
    cases e1:(rc n).e T N ns e with
    |none=>simp_all
    | some me=>
      cases e2:(rc n).a T N ns es with
      |none=>grind
      |some mr=>rw[bx,hs,fN e2];rfl
   grind
theorem y4{T:Tb}:∀{n:Nat}{N:List Str}{ns:NS}{es:List Expr}{m:MGs},cGs T n N ns es=some m->es.all notStar=true
 |0,_,_,_,_,h=>by simp[cGs,rc]at h
 |n+1,_,_,[],_,h=>rfl
 | n+1,N,ns,e::es,m,h=>by
   simp only[cGs,rc,sGs]at h
   split at h
   .rename_i hs
    cases e1:(rc n).g T N ns e with
    |none=>simp_all
    | some me=>
      cases e2:(rc n).gs T N ns es with
      |none=>grind
      |some mr=>rw[bx,hs,y4 e2];rfl
   grind
variable{N:List Str}{x:Str}{i:Nat}
theorem slot_get(h:slot N x=some i):N[i]?=some x:=by
 obtain⟨h1,h2,_⟩:=dA.mp h
 simp_all
theorem bN (h:bq x=true):7#4=false/\17#3=false:=by
 unfold bq at h
 simp_all
theorem bind_eq{α β:Type}{o:Option α}{f:α->Option β}{b:β}(h:o.bind f=some b):∃a,o=some a/\f a=some b:=by
 cases o<;>simp_all
theorem map_eq{α β:Type}{o:Option α}{f:α->β}{b:β}(h:o.map f=some b):∃a,o=some a/\f a=b:=by
 simp_all
section
variable {M:Mo}{X:Cx}{k:Nat}{N:List Str}{ns:NS}{a b c e:Expr}{es:List Expr}{ma mb mc:ME}{mt:MT}{mas:MA}{pos p1 p2:Pos}{x:Str}
theorem Mb(S:Sc M X k N ns)(hg:dg ns "list"=true)(hm:M.mg "list"=none)(ha:PA X 1#9 2#8)(he:starEach 1#9 X.env=(false,eval e X.env)::starEach es X.env)(ZM:(backTo pos 14#1).any (·.1)=false) :
  PE X (.Call (.Name "list" p1) 1#9 [] pos) (tM M.K (mFn kX mas)):=
 PE.con (mq (S.hK▸we) 3#8 5#3 vQ ha 0#1 0#1 he ZM) λ_ _ _ h=>wK Hl h
theorem M5(S:Sc M X k N ns)(hg:dg ns "all"=true)(hm:M.mg "all"=none)(ha:PA X 1#9 2#8)(he:starEach 1#9 X.env=(false,eval e X.env)::starEach es X.env)(ZM:(backTo pos 14#1).any (·.1)=false) :
  PE X (.Call (.Name "all" p1) 1#9 [] pos) (tM M.K (mFn uw mas)):=
 PE.con (i8 (S.hK▸CI S.calm) 3#8 5#3 PyProof.Rows.boot_all ha 0#1 0#1 he ZM) λ_ _ _ h=>wK KU h
variable{ts:List Expr}{kt:Nat}
theorem LI{pt:Pos}{a b:Expr}(S:Sc M X k N ns)(hg:dg ns "zip"=true)(hm:M.mg "zip"=none)(ha:PA X [a,b] 2#8)(hs:starEach [a,b] X.env=13#1::starEach [b] X.env)(ZE:starEach [b] X.env=[14#0]):PI X 11#2 (.Call (.Name "zip" p1) [a,b] [] pos) (AR M.K 2#8):=
 S.hK▸Lo 3#8 (by rw[S.hm];exact hm) ha hs ZE
theorem IF{pt:Pos}{a:Expr}(S:Sc M X k N ns)(hg:dg ns "enumerate"=true)(hm:M.mg "enumerate"=none)(ha:PA X [a] 2#8)(hs:starEach [a] X.env=[13#1]):PI X 11#2 (.Call (.Name "enumerate" p1) [a] [] pos) (wg M.K 2#8):=
 S.hK▸Jp 3#8 5#3 ha hs
theorem F8(S:Sc M X k N ns)(hg:dg ns "sorted"=true)(hm:M.mg "sorted"=none)(ha:PA X 1#9 2#8)(he:starEach 1#9 X.env=(false,eval e X.env)::starEach es X.env)(ZM:(backTo pos 14#1).any (·.1)=false) :
  PE X (.Call (.Name "sorted" p1) 1#9 [] pos) (tM M.K (mFn iX mas)):=
 PE.con (i8 (S.hK▸yI S.calm) 3#8 5#3 PyProof.Rows.boot_sorted ha 0#1 0#1 he ZM) λ_ _ _ h=>wK Cg h
variable{as:Expr}{q rp:Pos}
theorem QI (S:Sc M X k N ns)(hg:dg ns "len"=true)(hm:M.mg "len"=none)(Xv:dg ns "set"=true)(YX:M.mg "set"=none)(ha:PA X [as] 2#8)(hs:notStar as=true) :
  PE X (.Call (.Name "len" p1) [.Call (.Name "set" q) [as] [] rp] [] pos) (tM M.K (mFn bLS mas)):=
 PE.con (S.hK▸Nk S.calm 3#8 (by rw[S.hm];exact hm) (S.gl Xv) (by rw[S.hm];exact YX) ha (by rw[bW hs])) λ_ _ _ h=>wK PF h
theorem Ll(S:Sc M X k N ns)(hg:dg ns "repr"=true)(hm:M.mg "repr"=none)(ha:PA X 1#9 2#8)(he:starEach 1#9 X.env=(false,eval e X.env)::starEach es X.env)(ZM:(backTo pos 14#1).any (·.1)=false) :
  PE X (.Call (.Name "repr" p1) 1#9 [] pos) (tM M.K (mFn m8 mas)):=
 PE.con (i8 (S.hK▸Ci S.room.gu S.room.units) 3#8 5#3 PyProof.Rows.boot_repr ha 0#1 0#1 he ZM) λ_ _ _ h=>wK HH h
theorem DN(S:Sc M X k N ns)(ho:PE X b 7#0)(ha:PA X [a] 2#8)(hb:baseOk b=true)(hs:notStar a=true)(hl:(p1.endLine==pos.line)=true):PE X (.Call (.Attribute b "extend" p1) [a] [] pos) (tM M.K (mML iU mb mas)):=by
 exact PE.con (Bl gZ PySem.F.slot_list_extend PySem.F.type_list_extend Ia ho ha (pd hb _ _) (r9 hs _ _) hl (bW hs _ _) rfl) λ_ _ _ h=>S.hK▸Ke Cr h
theorem FB{op:CmpOp}{f:F2}(S:Sc M X k N ns)(h:zg op=some f):∃r,OpR X (compareOp op) r/\OpU M.K r f:=by
 cases op<;>simp only[zg,jK,reduceCtorEq]at h<;>subst h
 .exact⟨_,S.hK▸L6 S.room.units,PZ⟩
 .exact⟨_,S.hK▸L0 S.room.units,P1⟩
 .exact⟨_,OY,wb⟩
 .exact⟨_,Nb,wb⟩
 .exact⟨_,PY,wb⟩
 .exact⟨_,PC,wb⟩
 .exact⟨_,CW,Dv⟩
theorem Ox{j:Nat}{p3 p4:Pos}(S:Sc M X k N ns)(ha:PE X a 3#0):PE X (.Subscript a (.Slice none none (some (.UnaryOp .USub (.Constant (.int 1) j p3) p4)) p2) pos) (tM M.K (m1 uK ma)):=by
 refine PE.con ?_ λ_ _ _ h=>Oy h;rw[<-S.hK];exact KM ha
variable{N':List Str}{scope:Scope}{ifs:List Expr}{wi:TI}{mi:MI}
theorem Lk{px py Yh:Pos}{iter elt:Expr}{y:Str}(S:Sc M X k N ns)(i:Nat)(hy:N[i]?=some y)(ho:kq ns y=true)(hk:12#8=.function)(ok:my N N' ns scope.names x=true)(hi:PI X (.Name x px) iter wi)
  (ht:∀X',Sc M X' k N' 3#3->PTs X' ifs 5#9) (he:∀X',Sc M X' k N' 3#3->PE X' elt (tM M.K mc)) (hr:∀σ H Q,tM M.K (dc mi mt mc) σ H Q->oB wi 5#9 (tM M.K mc) σ H Q)
  (hs:∀x,foldedSetIterable iter X.env x=pure x):PS X (.Assign [.Name y py] 14#8 Yh) (tMS M.K (bA i (dc mi mt mc))):=by
 have C:=uY S hk ok;have e:∃b,swapsWith 14#8 (some (.Name y py)) Yh.line X.env=pure b:=⟨_,rfl⟩;obtain⟨b,e⟩:=e;cases b with
 |true=>exact PS.con (Hd (by rw[S.hN];exact S.nd) (by rw[S.hN];omega) (S.lo ho).1 S.calm C hi (λZY ZU fp=>ht _ (qb S C _ _ fp)) (λZY ZU fp=>he _ (qb S C _ _ fp)) e hs (S.lo ho).2) λ_ _ _ h=>hr _ _ _ (JP h)
 |false=>exact uU S i hy ho (Fc S hk ok hi ht he hr hs) e
theorem Kr(ha:PE X a 3#0)(hb:PE X b 7#0):PE X (.Dict [some a] [b] pos) (tM M.K (vB ma mb)):=
 PE.con (IJ (Fb ha hb HP) rfl rfl 0#3 0#3) λ_ _ _ h=>Ly h
theorem zm:∀{ts:List Expr}{xs:List Str},namesOf ts=some xs->fx ts xs
 |[],xs,h=>by cases h;exact .nil
 | t::ts,xs,h=>by
   cases t with
   | Name x p=>
     unfold namesOf at h;cases q:namesOf ts with
     |none=>grind
     |some ys=>rw[q]at h;cases h;exact .cons x p (zm q)
   |_=>cases h
theorem HW{xs:List Str}{pt:Pos}{iter elt:Expr}(S:Sc M X k N ns)(hk:12#8=.function)(ok:oI N N' ns scope.names xs=true)(hn:fx ts xs)(hi:PI X 11#2 iter wi)
  (ht:∀X',Sc M X' k N' 3#3->PTs X' ifs 5#9) (he:∀X',Sc M X' k N' 3#3->PE X' elt (tM M.K mc))
  (hc:∀σ H Q,tM M.K (lK xs.length mi mt mc) σ H Q->tE (gTt M.K 1#4) wi 5#9 (tM M.K mc) σ H Q)
  (hs:∀x,foldedSetIterable iter X.env x=pure x):PE X (.ListComp elt [⟨.Tuple ts kt pt,iter,ifs,0⟩] scope pos) (tM M.K (lK xs.length mi mt mc)):=by
 have C:=sx S hk ok;refine PE.con (EO S.calm C hn hi (λZY ZU fp=>ht _ (qb S C _ _ fp)) (λZY ZU fp=>he _ (qb S C _ _ fp)) hs) λ_ _ _ h=>?_;rw[S.hK];exact hc _ _ _ h
theorem EC{bs:Expr}(S:Sc M X k N ns)(hg:dg ns "list"=true)(hm:M.mg "list"=none)(Xv:dg ns "range"=true)(YX:M.mg "range"=none)(ha:PA X [as,bs] 2#8)(hs:notStar as=true)(ZE:notStar bs=true) :
  PE X (.Call (.Name "list" p1) [.Call (.Name "range" q) [as,bs] [] rp] [] pos) (tM M.K (nJ (iR2 mas))):=
 PE.con (mq (uA S.calm) 3#8 5#3 vQ (jt (Iv (S.gl Xv) 5#3 ha (by rw[bW hs,bW ZE];rfl) (by rw[bW ZE];rfl)) vW) 0#1 0#1) λ_ _ _ h=>FK h
theorem GX (S:Sc M X k N ns)(hg:dg ns "tuple"=true)(hm:M.mg "tuple"=none)(Xv:dg ns "range"=true)(YX:M.mg "range"=none)(ha:PA X [as] 2#8)(hs:notStar as=true) :
  PE X (.Call (.Name "tuple" p1) [.Call (.Name "range" q) [as] [] rp] [] pos) (tM M.K (vC (iR1 mas))):=
 PE.con (mq (t8 S.calm) 3#8 5#3 uQ (jt (G3 (S.gl Xv) 5#3 ha (by rw[bW hs];rfl)) vW) 0#1 0#1) λ_ _ _ h=>IV h
theorem O7{t:Str}{c:String}(S:Sc M X k N ns)(hg:dg ns "isinstance"=true)(hm:M.mg "isinstance"=none)(Xv:dg ns t=true)(YX:M.mg t=none)(hb:bootBuiltins t=some (.type c))(hc:c∈kC)(hn:t≠"__name__")(hd:(t==("__debug__":Str))=false)
  (ha:PE X a 3#0) (hs:notStar a=true):PE X (.Call (.Name "isinstance" p1) [a,.Name t p2] [] pos) (tM M.K (m1 (ig c) ma)):=by
 refine PE.con (i8 DK 3#8 5#3 PyProof.Rows.boot_isinstance (jt ha (jt (Iy (v:= .ty c) (S.gl Xv) 5#3 hb rfl hn hd) vW) (bW hs _ _)) 0#1 0#1 (bW hs _ _) rfl) λ_ _ _ h=>?_;rw[S.hK];exact NJ hc h
theorem Jf(S:Sc M X k N ns)(ho:PE X b 7#0)(ha:PA X [a] 2#8)(hb:baseOk b=true)(hs:notStar a=true)(hl:(p1.endLine==pos.line)=true):PE X (.Call (.Attribute b "index" p1) [a] [] pos) (tM M.K (mMT ir mb mas)):=by
 refine PE.con ?_ λ_ _ _ h=>IG h;rw[<-S.hK];exact FN S.room.units ho ha (pd hb _ _) (r9 hs _ _) hl (bW hs _ _) rfl
section
variable {X:Cx}
end
theorem Na{st:Stmt}:PS X st (tMS M.K sNo):=by
 intro pins s σ H D I h;obtain⟨μ,S,G,r,hr,er,e,kk⟩:=h;cases e
theorem NO:PS X (.Break pos) (tMS M.K Qc):=PS.con Dt λD σ H h=>by
 obtain⟨μ,S,G,r,hr,er,e,kk⟩:=h;cases e;exact kk μ σ H 2#1 7#9 hr er
theorem OM:PS X (.Continue pos) (tMS M.K Pz):=PS.con yu λD σ H h=>by
 obtain⟨μ,S,G,r,hr,er,e,kk⟩:=h;cases e;exact kk μ σ H 2#1 7#9 hr er
theorem L8:PS X (.Pass pos) (tMS M.K dk):=PS.con Hc λD σ H h=>EW h
theorem Kv:PS X (.Return none pos) (tMS M.K (bZ (mC .non))):=PS.con I0 λD σ H h=>by
 obtain⟨μ,S,G,r,hr,er,e,kk⟩:=h;cases e;exact kk μ _ H 2#1 7#9 hr lB
theorem K7(ha:PE X a 3#0)(hb:PE X (.BoolOp .And (b::es) pos) 7#0):PE X (.BoolOp .And (a::b::es) pos) (tM M.K (l8 ma mb)):=PE.con (Lj ha hb) λ_ _ _ h=>LW h
theorem OB(ha:PE X a 3#0)(hb:PE X (.BoolOp .Or (b::es) pos) 7#0):PE X (.BoolOp .Or (a::b::es) pos) (tM M.K (mOr ma mb)):=PE.con (Pj ha hb) λ_ _ _ h=>Pq h
theorem Ku(ha:PE X a 3#0):PE X (.UnaryOp .Not a pos) (tM M.K (m1 zq ma)):=PE.con (Kx ha) λ_ _ _ h=>Lf h
end
section
variable {M:Mo}{cl:Nat->Addr}{k n fu:Nat}{N:List Str}{ns:NS}{X:Cx}{E:XK}
theorem x_call{g:Str}{a:Expr}{as:List Expr}{p pos:Pos}{r:RF}{mas:MA}{k':Nat}{ps:List Str}(L:Lv X E)(S:Sc M X.nox k N ns)(F:FnX M cl g k' ps r)(hk:k'<=k)(hg:dg ns g=true)(hp:bq g=true)(ha:PA X.nox (a::as) 2#8)(hs:(a::as).all notStar=true):
  PE X (.Call (.Name g p) (a::as) [] pos) (tXE cl M.K (xFn r mas) E):=by
 obtain⟨f,fd,hm,Zo,hb,F⟩:=F.ex;have e1:=S.hP;have e2:=S.hw;have e3:=S.hK;have e4:=S.hm;have e5:=S.hb;rw[<-e1,<-e2,<-e3,<-e4,<-e5]at F;rw[<-e4]at hm;rw[<-e3]at Zo hb;rw[bx,ak]at hs;refine PE.con (w9 F 11#3 3#8 hm Zo hb .nil L.pass ha.nox (bN hp).1 (bW hs.1 _ _) (nK _ _ hs.2)) λσ H Q h=>?_;obtain⟨μ,S0,G,C,S',hr,er,q,aft⟩:=h;obtain⟨us,S1,e1,q⟩:=aL q;refine⟨μ,S0,G,us,S1,hr,er,e1,λY0 vs H1 p1 k1 Z' rs=>?_⟩;show spX cl _ r _ H1 Q E;rw[g8];exact⟨_,S1,us,C,S',Z',rs,q,aft.mono p1 k1⟩
end
structure TOk(M:Mo)(T:Tb)(k:Nat):Prop where
 D:∀x mf,T.D.lookup x=some mf->∃k' ps,k'<=k/\Fn M x k' ps mf
 C:∀x u,T.C.lookup x=some u->∃g v,M.mg x=some g/\RelV v g /\ ∀H μ,RU H μ u v
 B:∀x∈iF,M.mg x=none
 L:∀x q,T.L.lookup x=some q->∃k' ps,k'<=k/\Lam M q.1 k' ps q.2
 mkr:T.mkr=true->∃c q P,M.mkr=some (c,q)/\Mkr M c P (q++T.Z.nm)
 Z:∀x r,T.Z.R.lookup x=some r->∃k' ps,k'<=k/\FnX M T.Z.cl x k' ps r
def GOk(M:Mo)(T:Tb)(k:Nat):Prop:=TOk M T k/\(T.mkr=true->∃j,j+4<=k/\(∀x F,T.H.lookup x=some F->∃k' ps,k'<=j+1/\FnC M x k' ps F)/\(∀x vf,T.Z.F.lookup x=some vf->∃k' d,d<=3/\k'<=j+1/\FnR M T.Z.cl x k' d vf) /\ ∀caps capv cds base,eU M.mg base->TOk 6#2 T.bare j)
def IOk(M:Mo)(X:Cx)(tg it:Expr)(mi:MI):Prop:= ∃wi,PI X tg it wi /\
 (∀i ms D σ H,tMS M.K (fv i mi ms) D σ H->wz wi (iR i) (tMS M.K ms) D σ H) /\
 (∀mt mc σ H Q,tM M.K (dc mi mt mc) σ H Q->oB wi 5#9 (tM M.K mc) σ H Q)
structure Snd(M:Mo)(T:Tb)(k n:Nat):Prop where
 e:∀N ns e m,cE T n N ns e=some m->∀X,Sc M X k N ns->PE X e (tM M.K m)
 c:∀N ns g as m,cC T n N ns g as=some m->dg ns g=true->bq g=true->∀a r,as=a::r->∀X p1 pos,Sc M X k N ns->PE X (.Call (.Name g p1) as [] pos) (tM M.K m)
 v:∀N ns g as m,cV T n N ns g as=some m->∀a r,as=a::r->∀X p1 pos,Sc M X k N ns->PE X (.Call (.Name g p1) as [] pos) (tM M.K m)
 v0:∀N ns g m,cV T n N ns g []≠some m
 o:∀N ns o m,cO T n N ns o=some m->∀X,Sc M X k N ns->lU M X o m
 t:∀N ns e m,cT T n N ns e=some m->∀X,Sc M X k N ns->PT X e (tMT M.K m)
 l:∀N ns b vs m pos,cL T n N ns b vs=some m->∀X,Sc M X k N ns->PW X (.BoolOp (if b then .And else .Or) vs pos) (tMT M.K m)
 f:∀N ns vs m,cF T n N ns vs=some m->∀X,Sc M X k N ns->PTs X vs (tMT M.K m)
 a:∀N ns es m,cA T n N ns es=some m->∀X,Sc M X k N ns->PA X es (tMA M.K m)
 i:∀N ns tg it m,cI T n N ns it=some m->∀X,Sc M X k N ns->IOk M X tg it m
 g:∀N ns e m,cG T n N ns e=some m->∀X,Sc M X k N ns->PG X e (tG M.K m)
 gs:∀N ns es m,cGs T n N ns es=some m->∀X,Sc M X k N ns->PGs X es (tGs M.K m)
 s:∀N ns st m,cS T n N ns st=some m->∀X,Sc M X k N ns->PS X st (tMS M.K m)
 b:∀N ns sts m,cB T n N ns sts=some m->∀X,Sc M X k N ns->PSs X sts (tMS M.K m)
theorem dZ{α:Type}{x:α}{P:Prop}(h:(none:Option α)=some x):P:=by cases h
theorem QU(M:Mo)(T:Tb)(k:Nat):Snd M T k 0:=
 ⟨λ_ _ _ _ h=>dZ h,λ_ _ _ _ _ h=>dZ h,λ_ _ _ _ _ h=>dZ h,λ_ _ _ _ h=>dZ h,λ_ _ _ _ h=>dZ h,λ_ _ _ _ h=>dZ h,λ_ _ _ _ _ _ h=>dZ h,λ_ _ _ _ h=>dZ h,λ_ _ _ _ h=>dZ h,λ_ _ _ _ _ h=>dZ h,λ_ _ _ _ h=>dZ h,λ_ _ _ _ h=>dZ h,λ_ _ _ _ h=>dZ h,λ_ _ _ _ h=>dZ h⟩
section
variable {M:Mo}{T:Tb}{k n:Nat}
variable{ns:NS}{X:Cx}{a:Expr}{ma mb:ME}{f:F2}{pos:Pos}
theorem My{b:Expr}{op:Operator}(h:MQ op=some f)(S:Sc M X k N ns)(ha:PE X a 3#0)(hb:PE X b 7#0):PE X (.BinOp a op b pos) (tM M.K (m2 f ma mb)):=by
 cases op<;>simp only[MQ,jK,reduceCtorEq]at h<;>subst h
 .exact JR S ha hb
 .exact OE ha hb
 .exact NV S ha hb
 .exact M8 ha hb
 .exact Pu ha hb
 .exact On ha hb
variable{op:CmpOp}
theorem Ko{b:Expr}(h:zg op=some f)(S:Sc M X k N ns)(ha:PE X a 3#0)(hb:PE X b 7#0)(hs:il b=true):
  PE X (.Compare a [op] [b] pos) (tM M.K (m2 f ma mb))/\PT X (.Compare a [op] [b] pos) (tMT M.K (cOf (m2 f ma mb))):=by
 obtain⟨r,ho,ou⟩:=FB S h;exact⟨PE.con (HV ho ha hb (v5 hs _)) λ_ _ _ h=>wM ou h,PT.con (IL ho ha hb (v5 hs _)) λ_ _ _ h=>Ac (λ_ q=>wM ou q) h⟩
theorem Dy{b c:Expr}{mc:ME}{YC:CmpOp}{g:F2}(h:zg op=some f)(h':zg YC=some g)(S:Sc M X k N ns)(ha:PE X a 3#0)(hb:PE X b 7#0)(hc:PE X c (tM M.K mc))(hs:il c=true):
  PE X (.Compare a [op,YC] [b,c] pos) (tM M.K (mCh f g ma mb mc))/\PT X (.Compare a [op,YC] [b,c] pos) (tMT M.K (cOf (mCh f g ma mb mc))):=by
 obtain⟨r,ho,ou⟩:=FB S h;obtain⟨r',Yq,To⟩:=FB S h';have hm:lastMarks [op,YC] [b,c]=false:=v5 hs _;exact⟨PE.con (Ef ho Yq ha hb hc hm) λ_ _ _ h=>A5 ou To h,PT.con (Fj ho Yq ha hb hc hm) λ_ _ _ h=>Ac (λ_ q=>A5 ou To q) h⟩
theorem Mm{t:Str}{c:String}(h:Gq t=some c):bootBuiltins t=some (.type c)/\c∈kC/\t≠"__name__"/\(t==("__debug__":Str))=false/\t∈iF:=by
 unfold Gq at h
 repeat' split at h
 all_goals first
  | cases h
    done
  | (rename_i q
     cases h;rw[eq_of_beq q]
     exact⟨by decide +kernel,by decide,by decide +kernel,by decide +kernel,by decide +kernel⟩)
variable{mas:MA}
theorem HC{g:Str}{e:Expr}{es:List Expr}{p1:Pos}{mf:MF}(O:TOk M T k)(h:LF g=some mf)(hg:dg ns g=true)(S:Sc M X k N ns)(ha:PA X 1#9 2#8)(hs:(e::es).all notStar=true):
  PE X (.Call (.Name g p1) 1#9 [] pos) (tM M.K (mFn mf mas)):=by
 rw[bx,ak]at hs;have he:=bW hs.1 es X.env;have hp:=nK pos X.env hs.2;unfold LF at h
 repeat' split at h
 all_goals first
  |(cases h;done)
  | (rename_i q
     cases h;rw[eq_of_beq q]at hg ⊢
     first
      |exact EB S hg (O.B _ (by decide +kernel)) ha he hp
      |exact HB S hg (O.B _ (by decide +kernel)) ha he hp
      |exact Mb S hg (O.B _ (by decide +kernel)) ha he hp
      |exact PV S hg (O.B _ (by decide +kernel)) ha he hp
      |exact O5 S hg (O.B _ (by decide +kernel)) ha he hp
      |exact M5 S hg (O.B _ (by decide +kernel)) ha he hp
      |exact F8 S hg (O.B _ (by decide +kernel)) ha he hp
      | exact Ll S hg (O.B _ (by decide +kernel)) ha he hp)
theorem Ij{name:Str}{o:Expr}{mo m:ME}{p1:Pos}(h:Fh name mo mas=some m)(S:Sc M X k N ns)(ho:PE X o (tM M.K mo))(ha:PA X [a] 2#8)(hb:baseOk o=true)(hl:(p1.endLine==pos.line)=true)(hs:notStar a=true):
  PE X (.Call (.Attribute o name p1) [a] [] pos) 7#3:=by
 unfold Fh at h
 repeat' split at h
 all_goals first
  |(cases h;done)
  | (rename_i q
     cases h;rw[eq_of_beq q]
     first
      |exact rQ S ho ha (pd hb _ _) (r9 hs _ _) hl (bW hs _ _) rfl
      |exact HA S ho ha (pd hb _ _) (r9 hs _ _) hl (bW hs _ _) rfl
      |exact Jf S ho ha hb hs hl
      | exact DN S ho ha hb hs hl)
end
section
variable {M:Mo}{T:Tb}{k n:Nat}
variable{ps:List Str}{ns:NS}
theorem lF{sc:Scope}(h:pD ps sc ns=true):iE ps (frees sc) sc /\ ∀y∈frees sc,ns.lookup y=some .cell/\(y,aS)∈sc.names:=by
 unfold pD at h;simp only[ak,cN,Bool.not_eq_true',decide_eq_true_eq]at h;obtain⟨⟨⟨⟨⟨⟨h1,h2⟩,h3⟩,h4⟩,h5⟩,h6⟩,h7⟩:=h;have fm:∀y∈frees sc,(y,aS)∈sc.names:=λy hy=>by
  obtain⟨z,hz,e⟩:=bw.mp hy
  grind
 refine⟨⟨eq_of_beq h1,h2,h3,h4,λp hp=>?_,λx hx e=>?_,λy hy e=>bw.mpr ⟨y,xK.mpr ⟨hy,by rw[e];rfl⟩,rfl⟩,λy hy=>eq_of_beq (h7 y hy).1⟩,λy hy=>⟨eq_of_beq (h7 y hy).2,fm y hy⟩⟩
 .grind
 .have:=h6 x hx
  simp_all
theorem GOk.of(O:TOk M T k)(h:T.mkr=false):GOk M T k:=⟨O,λz=>by grind⟩
theorem NX(O:TOk M T k)(R:Snd M T k n):∀N ns g as m,cV T (n+1) N ns g as=some m->∀a r,as=a::r->∀X p1 pos,Sc M X k N ns->PE X (.Call (.Name g p1) as [] pos) 7#3:=by
 intro N ns g as m h a r e X p1 pos S;subst e;simp only[cV,rc,sV]at h
 split at h
 .rename_i hs
  rw[ak]at hs;obtain⟨q,e1,h⟩:=bind_eq h;obtain⟨i,e2,h⟩:=bind_eq h;obtain⟨mas,e3,rfl⟩:=map_eq h;obtain⟨k',ps,hk,F⟩:=O.L _ _ e1;have ZO:=fN e3;rw[bx,ak]at ZO;obtain⟨n1,n2⟩:=bN hs.2;exact IZ S F hk i (slot_get e2) hs.1 (R.a _ _ _ _ e3 X S) n1 n2 (bW ZO.1 _ _) (nK _ _ ZO.2)
 grind
section
variable {N:List Str}{ns:NS}{X:Cx}{m:ME}
variable{pos:Pos}
theorem Hz{c:Const}{j}(h:OS c=some m):PE X (.Constant c j pos) 7#3:=by
 cases c<;>first |grind |skip
 all_goals cases h
 all_goals first |exact Og |exact Qq |exact El |exact PE.con EM λ_ _ _ q=>r_c (λ_ _=>by simp[RU]) q
variable{a:Expr}
theorem LU(R:Snd M T k n){op:UnaryOp}(h:eUn (rc n) T N ns a op=some m)(S:Sc M X k N ns):PE X (.UnaryOp op a pos) 7#3:=by
 cases op<;>first | (cases h) |skip
 all_goals obtain⟨ma,e1,rfl⟩:=map_eq h
 all_goals first |exact Ot (R.e _ _ _ _ e1 X S) |exact Ku (R.e _ _ _ _ e1 X S)
variable{vs:List Expr}
theorem KZ(R:Snd M T k n){op:BoolOp}{p:Pos}(h:eBo (rc n) T N ns op p vs=some m)(S:Sc M X k N ns):PE X (.BoolOp op vs p) 7#3:=by
 unfold eBo at h
 split at h
 .cases h
 .exact LP (R.e _ _ _ _ h X S)
 .obtain⟨ma,e1,h⟩:=bind_eq h
  cases op
  .obtain⟨mb,e2,rfl⟩:=map_eq h
   exact K7 7#5 8#2
  .obtain⟨mb,e2,rfl⟩:=map_eq h
   exact OB 7#5 8#2
theorem E2(R:Snd M T k n){ops:List CmpOp}{bs:List Expr}(h:eCm (rc n) T N ns a ops bs=some m)(S:Sc M X k N ns):PE X (.Compare a ops bs pos) 7#3/\PT X (.Compare a ops bs pos) (tMT M.K (cOf m)):=by
 unfold eCm at h
 split at h
 .split at h
  .rename_i hs
   obtain⟨ma,e1,h⟩:=bind_eq h;obtain⟨mb,e2,h⟩:=bind_eq h;obtain⟨f,e3,rfl⟩:=map_eq h;exact Ko e3 S 7#5 8#2 hs
  .cases h
 .split at h
  .rename_i hs
   rw[ak]at hs;obtain⟨ma,e1,h⟩:=bind_eq h;obtain⟨mb,e2,h⟩:=bind_eq h;obtain⟨mc,e3,h⟩:=bind_eq h;obtain⟨f,e4,h⟩:=bind_eq h;obtain⟨g,e5,rfl⟩:=map_eq h;exact Dy e4 e5 S 7#5 8#2 (R.e _ _ _ _ e3 X S) hs.2
  .cases h
 .cases h
theorem Iq{s:Expr}(h:IW s=true):∃j p3 p4,s=.UnaryOp .USub (.Constant (.int 1) j p3) p4:=by
 unfold IW at h
 split at h<;>simp_all
variable{b:Expr}
theorem Lg(R:Snd M T k n)(h:eSb (rc n) T N ns a b=some m)(S:Sc M X k N ns):PE X (.Subscript a b pos) 7#3:=by
 unfold eSb at h
 split at h
 .rename_i lo hi st p
  cases st with
  | none=>
    obtain⟨ma,e1,h⟩:=bind_eq h;obtain⟨ml,e2,h⟩:=bind_eq h;obtain⟨mh,e3,rfl⟩:=map_eq h;exact HM S 7#5 (R.o _ _ _ _ e2 X S) (R.o _ _ _ _ e3 X S)
  | some s=>
    have h:(if lo.isNone&&hi.isNone&&IW s then((rc n).e T N ns a).map (m1 uK) else none)=some m:=h
    split at h
    .rename_i hs
     rw[ak,ak]at hs;obtain⟨⟨h1,h2⟩,h3⟩:=hs;cases lo with
     |some z=>cases h1
     | none=>
       cases hi with
       |some z=>cases h2
       | none=>
         obtain⟨j,p3,p4,rfl⟩:=Iq h3;obtain⟨ma,e1,rfl⟩:=map_eq h;exact Ox S 7#5
    .cases h
 .split at h
  .rename_i hs
   obtain⟨ma,e1,h⟩:=bind_eq h;obtain⟨mb,e2,rfl⟩:=map_eq h;exact QT S 7#5 8#2 (JB hs)
  .cases h
theorem MJ(R:Snd M T k n){ks:List (Option Expr)}(h:eDi (rc n) T N ns ks vs=some m)(S:Sc M X k N ns):PE X (.Dict ks vs pos) 7#3:=by
 unfold eDi at h
 split at h
 .obtain⟨ma,e1,h⟩:=bind_eq h
  obtain⟨mb,e2,rfl⟩:=map_eq h;exact Kr 7#5 8#2
 .cases h
theorem FP{e:Expr}(h:Bn e=some (a,b)) :∃ p pos,e=.Call (.Name "zip" p) [a,b] [] pos:=by
 unfold Bn at h
 split at h
 .split at h
  .rename_i g
   cases h;rw[eq_of_beq g];exact⟨_,_,rfl⟩
  .cases h
 .cases h
theorem Mq(O:TOk M T k)(R:Snd M T k n){it:Expr}{mi:MI}{ts:List Expr}{kt:Nat}{pt:Pos}(h:eIc (rc n) T N ns it=some mi)(S:Sc M X k N ns):
  ∃wi,PI X 11#2 it wi /\ ∀c mt mc σ H Q,tM M.K (lK c mi mt mc) σ H Q->tE (gTt M.K c) wi 5#9 (tM M.K mc) σ H Q:=by
 unfold eIc at h;cases qz:Bn it with
 |none=>rw[qz]at h;cases h
 | some ab=>
   obtain⟨a,b⟩:=ab;rw[qz]at h;obtain⟨p,q,rfl⟩:=FP qz;replace h:(if dg ns ("zip":Str) then ((rc n).a T N ns [a,b]).map y9 else none)=some mi:=h
   split at h
   .rename_i hg
    obtain⟨ma,e1,rfl⟩:=map_eq h;have ZO:=fN e1;simp only[bx,ft,eS,ak]at ZO;exact⟨_,LI S hg 11#5 10#8 (bW ZO.1 _ _) (bW ZO.2 _ _),λ_ _ _ _ _ _ q=>O6 q⟩
   .cases h
variable{elt:Expr}{scope:Scope}
theorem KY(O:TOk M T k)(R:Snd M T k n){it:Expr}{ifs:List Expr}{px:Pos}(h:eLn (rc n) T N ns elt it ifs scope x=some m)(S:Sc M X k N ns)(hk:12#8=.function)(ok:my N (AI N x) ns scope.names x=true)(hs:il it=true):
  PE X (.ListComp elt [⟨.Name x px,it,ifs,0⟩] scope pos) 7#3:=by
 unfold eLn at h;obtain⟨mi,e1,h⟩:=bind_eq h;obtain⟨mt,e2,h⟩:=bind_eq h;obtain⟨mc,e3,rfl⟩:=map_eq h;obtain⟨wi,h1,_,h3⟩:=R.i _ _ _ _ _ e1 X S;exact Fc S hk ok h1 (λX' S'=>R.f _ _ _ _ e2 X' S') (λX' S'=>R.e _ _ _ _ e3 X' S') (h3 mt mc) (oM hs _)
theorem MB(O:TOk M T k)(R:Snd M T k n){gens:List Comprehension}(h:eLc (rc n) T N ns elt scope gens=some m)(S:Sc M X k N ns):PE X (.ListComp elt gens scope pos) 7#3:=by
 unfold eLc at h
 split at h
 rotate_left
 .cases h
 rename_i c
 obtain⟨tg,it,ifs,ia⟩:=c
 split at h
 rotate_left
 .cases h
 rename_i h0
 have UL:=h0;subst UL;have h:eLt _ T N ns _ it ifs _ tg=some m:=h;unfold eLt at h
 split at h
 .split at h
  .rename_i hs
   rw[ak,ak]at hs;exact KY O R h S (eq_of_beq hs.1.1) hs.1.2 hs.2
  .cases h
 .obtain⟨xs,e0,h⟩:=bind_eq h
  split at h
  .rename_i hs
   rw[ak,ak]at hs;obtain⟨mi,e1,h⟩:=bind_eq h;obtain⟨mt,e2,h⟩:=bind_eq h;obtain⟨mc,e3,rfl⟩:=map_eq h;obtain⟨wi,h1,h3⟩:=Mq O R e1 S;exact HW S (eq_of_beq hs.1.1) hs.1.2 (zm e0) h1 (λX' S'=>R.f _ _ _ _ e2 X' S') (λX' S'=>R.e _ _ _ _ e3 X' S') (λ_ _ _ q=>h3 _ _ _ _ _ _ q) (oM hs.2 _)
  grind
 .cases h
variable{g:Str}{p1:Pos}
theorem MV(O:TOk M T k)(R:Snd M T k n){rs:List Expr}{q rp:Pos}(h:eRg (rc n) T N ns g rs=some m)(S:Sc M X k N ns)(hl:g="list"\/g="tuple")(hg:dg ns g=true)(hr:dg ns "range"=true) :
  PE X (.Call (.Name g p1) [.Call (.Name "range" q) rs [] rp] [] pos) 7#3:=by
 unfold eRg at h
 split at h
 .rcases hl with rfl|rfl
  .rw[if_pos 1#0]at h
   cases h
  .rw[if_neg 1#0]at h
   obtain⟨ma,e1,rfl⟩:=map_eq h;have ZO:=fN e1;simp only[bx,ft,eS]at ZO;exact GX S hg 11#5 hr 11#5 10#8 ZO
 .rcases hl with rfl|rfl
  .rw[if_pos 1#0]at h
   obtain⟨ma,e1,rfl⟩:=map_eq h;have ZO:=fN e1;simp only[bx,ft,eS,ak]at ZO;exact EC S hg 11#5 hr 11#5 10#8 ZO.1 ZO.2
  .rw[if_neg 1#0]at h
   cases h
 .cases h
theorem yz{cl:Nat->Addr}{E:XK}{X:Cx}{o:Expr}{mo:ME}{r:MX}(S:Sc M X.nox k N ns)(ho:PE X.nox o (tM M.K mo))(ha:PE X a (tXE cl M.K r E))(hb:baseOk o=true)(hs:notStar a=true)(hl:(p1.endLine==pos.line)=true):
  PE X (.Call (.Attribute o "append" p1) [a] [] pos) (tXE cl M.K (xML mo r) E):=by
 have hK:=S.hK;refine PE.con (Bl (r:=λ_ _ _ _=>False) gZ zA zB (λ_ _ _ _ _ _ _ _ _ _ _ _ z=>z.elim) ho.nox (λpos pins s σ H Q I q=>jt (t:=λ_ _ _=>False) ha (λ_ _ _ _ _ _ _ h=>h.elim) (bW hs _ _) _ _ s σ H Q I q) (pd hb _ _) (r9 hs _ _) hl (bW hs _ _) rfl) λσ H Q h=>?_;obtain⟨μ,S0,G,C,S',hr,er,e,aft⟩:=h;obtain⟨x,S1,e1,e⟩:=aL e
 split at e
 .rename_i n
  cases q:getL S1 n with
  |none=>rw[q]at e;cases e
  | some ws=>
    rw[q]at e;refine⟨μ,S0,G,_,S1,hr,er,e1,λY0 vx H1 p1 k1 Z' rx=>?_⟩;obtain⟨p,rfl,hp⟩:=eW rx;obtain⟨p',ys,Zx,hs',r'⟩:=Z'.sq q;rw[hp]at Zx;cases Zx;exact⟨hK ▸ .inl ⟨rfl,ys,hs'⟩,_,S1,G,C,S',Z',er.mono k1 p1,e,aft.mono p1 k1⟩
 .cases e
theorem LB(Gk:GOk M T k)(RA:∀M T k,GOk M T k->Snd M T k n){p:Arguments}{sc:Scope}{lp:Pos}(h:Gc (rc n) T N ns g p b sc=some m)(S:Sc M X k N ns)(hg:dg ns g=true)(hn:bq g=true):
  PE X (.Call (.Name g p1) [.Lambda p b sc lp] [] pos) 7#3:=by
 unfold Gc at h
 split at h
 rotate_left
 .cases h
 rename_i hc
 simp only[ak]at hc;obtain⟨⟨⟨hT,TJ⟩,hp⟩,hl⟩:=hc;have Zx:p=wB:=by
  unfold DG at hp;rw[ak,List.isEmpty_iff]at hp;rw[sX hp.1,hp.2];rfl
 subst Zx;obtain⟨is,e1,h⟩:=bind_eq h;obtain⟨ml,e2,h⟩:=bind_eq h;obtain⟨rl,e3,h⟩:=bind_eq h;obtain⟨rz,e4,rfl⟩:=map_eq h;obtain⟨c,q,P,WG,MK⟩:=Gk.1.mkr hT;rw[eq_of_beq TJ]at MK;obtain⟨j,hj,hH,hF,hB⟩:=Gk.2 hT;obtain⟨k',d,hd,Xw,FR⟩:=hF _ _ e4;obtain⟨LS,Zd⟩:=lF hl;refine A4 S FR Xw 0#2 WG MK hg (bN hn).1 LS Zd e1 (λcaps capv cds base Zj _ X' S'=>(RA _ _ _ (.of (hB caps capv cds base Zj) rfl)).e _ _ _ _ e2 X' S') λcaps capv cds base Zj _ X' E L S'=>?_;have Y:∀{e:Expr}{rl:MX},xQ (rc n) T ([]++frees sc) sc.names e=some rl->PE X' e (tXE T.Z.cl 8#8 rl E):=by
  intro e rl e3;unfold xQ at e3
  split at e3
  .split at e3
   .rename_i hs
    rw[ak]at hs;obtain⟨rf,e5,e3⟩:=bind_eq e3;obtain⟨mas,e6,rfl⟩:=map_eq e3;obtain⟨k2,ps,R9,FX⟩:=(hB caps capv cds base Zj).Z _ _ e5;exact x_call L S' FX R9 hs.1 hs.2 ((RA _ _ _ (.of (hB caps capv cds base Zj) rfl)).a _ _ _ _ e6 _ S') (fN e6)
   .cases e3
  .cases e3
 unfold JF at e3
 split at e3
 .rename_i g a q
  rcases Option.or_eq_some_iff.mp e3 with h|⟨_,h⟩
  .unfold Jz at h
   split at h
   .rename_i o x p
    split at h
    .rename_i hs
     simp only[ak]at hs;obtain⟨⟨⟨hx,hb⟩,hl⟩,ZO⟩:=hs;obtain⟨mo,e5,h⟩:=bind_eq h;obtain⟨r,e6,rfl⟩:=map_eq h;rw[eq_of_beq hx];exact yz S' ((RA _ _ _ (.of (hB caps capv cds base Zj) rfl)).e _ _ _ _ e5 _ S') (Y e6) hb ZO hl
    .cases h
   .cases h
  .exact Y h
 .exact Y e3
variable{as:List Expr}
theorem K4(Gk:GOk M T k)(R:Snd M T k n)(RA:∀M T k,GOk M T k->Snd M T k n)(h:eCf (rc n) T N ns g as=some m)(S:Sc M X k N ns)(hg:dg ns g=true)(hn:bq g=true):
  PE X (.Call (.Name g p1) as [] pos) 7#3:=by
 have O:=Gk.1;unfold eCf at h
 split at h
 .obtain⟨mf,e1,rfl⟩:=map_eq h
  obtain⟨k',ps,hk,F⟩:=O.D _ _ e1;exact IA S F hk hg (bN hn).1
 .unfold eC1 at h
  split at h
  .exact LB Gk RA h S hg hn
  .split at h
   .rename_i hl
    rw[ak,Bool.or_eq_true]at hl
    split at h
    .rename_i hr
     rw[eq_of_beq hl.2]at hr ⊢;exact MV O R h S (hl.1.imp eq_of_beq eq_of_beq) hg hr
    .cases h
   .split at h
    .rename_i hl
     rw[ak]at hl
     split at h
     .rename_i hr
      rw[eq_of_beq hl.2]at hr ⊢;rw[eq_of_beq hl.1]at hg ⊢;unfold eLS at h
      split at h
      .obtain⟨ma,e1,rfl⟩:=map_eq h
       have ZO:=fN e1;simp only[bx,ft,eS]at ZO;exact QI S hg 11#5 hr 11#5 10#8 ZO
      .cases h
     .cases h
    .exact R.c _ _ _ _ _ h hg hn _ _ rfl X _ _ S
  .exact R.c _ _ _ _ _ h hg hn _ _ rfl X _ _ S
 .unfold eC2 at h
  split at h
  .unfold eIs at h
   split at h
   .rename_i hl
    split at h
    .rename_i ht
     obtain⟨c,e1,h⟩:=bind_eq h;obtain⟨ma,e2,rfl⟩:=map_eq h;obtain⟨c1,c2,c3,c4,c5⟩:=Mm e1;rw[ak]at ht;rw[eq_of_beq hl]at hg ⊢;exact O7 S hg 11#5 ht.1 (O.B _ c5) c1 c2 c3 c4 8#2 ht.2
    .cases h
   .exact R.c _ _ _ _ _ h hg hn _ _ rfl X _ _ S
  .unfold Nq at h
   split at h
   .rename_i hs
    rw[ak,ak]at hs;obtain⟨⟨hT,TJ⟩,ZO⟩:=hs;obtain⟨ps,e0,h⟩:=bind_eq h
    split at h
    .rename_i hl
     obtain⟨is,e1,h⟩:=bind_eq h;obtain⟨ma,e2,h⟩:=bind_eq h;obtain⟨ml,e3,h⟩:=bind_eq h;obtain⟨F,e4,rfl⟩:=map_eq h;obtain⟨c,q,P,WG,MK⟩:=O.mkr hT;rw[eq_of_beq TJ]at MK;obtain⟨j,hj,hH,hF,hB⟩:=Gk.2 hT;obtain⟨k',Wt,Xw,FC⟩:=hH _ _ e4;obtain⟨LS,Zd⟩:=lF hl;exact G4 S FC Xw 0#2 WG MK hg (bN hn).1 8#2 (bW ZO _ _) e0 LS Zd e1
      λcaps capv cds base hb X' S'=>(RA _ _ _ ⟨hB caps capv cds base hb,λz=>by cases z⟩).e _ _ _ _ e3 X' S'
    .cases h
   .cases h
  .exact R.c _ _ _ _ _ h hg hn _ _ rfl X _ _ S
 .exact R.c _ _ _ _ _ h hg hn _ _ rfl X _ _ S
theorem L3(R:Snd M T k n){o:Expr}{name:Str}{p q:Pos}(h:eMe (rc n) T N ns o name p q as=some m)(S:Sc M X k N ns):PE X (.Call (.Attribute o name p) as [] q) 7#3:=by
 unfold eMe at h
 split at h
 .cases h
 .split at h
  .rename_i hs
   rw[ak,ak]at hs;obtain⟨mo,e1,h⟩:=bind_eq h;obtain⟨mas,e2,h⟩:=bind_eq h;exact Ij h S 7#5 (R.a _ _ _ _ e2 X S) hs.1.1 hs.1.2 hs.2
  .cases h
 .cases h
end
theorem Pr(Gk:GOk M T k)(R:Snd M T k n)(RA:∀M T k,GOk M T k->Snd M T k n):∀N ns e m,cE T (n+1) N ns e=some m->∀X,Sc M X k N ns->PE X e 7#3:=by
 have O:=Gk.1;intro N ns e m h X S;cases e with
 | Name x p=>
   have h:(if bq x then(if kz ns x then(slot N x).map _ else if dg ns x then(T.C.lookup x).map mC else none) else none)=some m:=h
   split at h
   .rename_i hn
    obtain⟨n1,n2⟩:=bN hn
    split at h
    .rename_i hv
     obtain⟨i,e1,rfl⟩:=map_eq h;exact BB S i (slot_get e1) hv n1 n2
    .split at h
     .rename_i hg
      obtain⟨u,e1,rfl⟩:=map_eq h;obtain⟨g,v,hm,r,hv⟩:=O.C _ _ e1;exact LM S hg hm r hv n1
     .cases h
   .cases h
 |Constant c j p=>exact Hz h
 | BinOp a op b p=>
   obtain⟨ma,e1,h⟩:=bind_eq (h);obtain⟨mb,e2,h⟩:=bind_eq h;obtain⟨f,e3,rfl⟩:=map_eq h;exact My e3 S 7#5 8#2
 |UnaryOp op a p=>exact LU R h S
 |BoolOp op vs p=>exact KZ R h S
 |Compare a ops bs p=>exact(E2 R h S).1
 | IfExp c a b p=>
   obtain⟨mc,e1,h⟩:=bind_eq (h);obtain⟨ma,e2,h⟩:=bind_eq h;obtain⟨mb,e3,rfl⟩:=map_eq h;exact Pw (R.t _ _ _ _ e1 X S) 8#2 (R.e _ _ _ _ e3 X S)
 |Subscript a b p=>exact Lg R h S
 |Dict ks vs p=>exact MJ R h S
 | Tuple es j p=>
   obtain⟨ma,e1,rfl⟩:=map_eq (h);exact OJ 10#8
 | List es p=>
   obtain⟨ma,e1,rfl⟩:=map_eq (h);exact Ga 10#8
 |ListComp elt gens scope p=>exact MB Gk.1 R h S
 | Call f as V9 q=>
   cases V9 with
   |cons w ws=>cases h
   | nil=>
     have h:eCa _ T N ns as q f=some m:=h;unfold eCa at h
     split at h
     .split at h
      .rename_i hs
       rw[ak]at hs;exact K4 Gk R RA h S hs.1 hs.2
      .cases as with
       |nil=>exact absurd h (R.v0 _ _ _ _)
       |cons a r=>exact R.v _ _ _ _ _ h _ _ rfl X _ _ S
     .exact L3 R h S
     .cases h
 |_=>cases h
theorem OK(O:TOk M T k)(R:Snd M T k n):∀N ns g as m,cC T (n+1) N ns g as=some m->dg ns g=true->bq g=true->∀a r,as=a::r->∀X p1 pos,Sc M X k N ns->PE X (.Call (.Name g p1) as [] pos) 7#3:=by
 intro N ns g as m h hg hn a r e X p1 pos S;subst e;obtain⟨mas,e1,h⟩:=bind_eq h;have ZO:=fN e1
 split at h
 .rename_i mf hb
  cases h;exact HC O hb hg S 10#8 ZO
 .obtain⟨mf,e2,rfl⟩:=map_eq h
  obtain⟨k',ps,hk,F⟩:=O.D _ _ e2;rw[bx,ak]at ZO;exact Mn S F hk hg 10#8 (bN hn).1 (bW ZO.1 _ _) (nK _ _ ZO.2)
theorem Pd(R:Snd M T k n):∀N ns o m,cO T (n+1) N ns o=some m->∀X,Sc M X k N ns->lU M X o m:=by
 intro N ns o m h X S;simp[cO,rc,sO]at h
 split at h
 .cases h;exact .none
 .obtain⟨me,e1,rfl⟩:=map_eq h
  exact .some 7#5
theorem MY(R:Snd M T k n):∀N ns e m,cT T (n+1) N ns e=some m->∀X,Sc M X k N ns->PT X e (tMT M.K m):=by
 intro N ns e m h X S;simp[cT,rc,sT]at h
 split at h
 .obtain⟨ma,e1,rfl⟩:=map_eq h
  exact JA (R.t _ _ _ _ e1 X S)
 .exact PW.pt (R.l _ _ _ _ _ _ h X S)
 .exact PW.pt (R.l _ _ _ _ _ _ h X S)
 .obtain⟨mc,e1,rfl⟩:=map_eq h
  exact(E2 R e1 S).2
 .split at h
  .rename_i hs
   obtain⟨ma,e1,rfl⟩:=map_eq h;exact Jr 7#5 (Gm hs _)
  grind
theorem O2(R:Snd M T k n):∀N ns b vs m pos,cL T (n+1) N ns b vs=some m->∀X,Sc M X k N ns->PW X (.BoolOp (if b then .And else .Or) vs pos) (tMT M.K m):=by
 intro N ns b vs m pos h X S;simp[cL,rc,sL]at h
 split at h
 .cases h
 .cases b
  .exact Pa (R.t _ _ _ _ h X S)
  .exact KN (R.t _ _ _ _ h X S)
 .rename_i a r hr
  obtain⟨ma,e1,h⟩:=bind_eq h;obtain⟨mr,e2,rfl⟩:=map_eq h;cases r with
  |nil=>exact(hr rfl).elim
  | cons c r=>
    have h2:=R.l _ _ b _ _ pos e2 X S;cases b
    .exact Qu (R.t _ _ _ _ e1 X S) h2
    .exact Px (R.t _ _ _ _ e1 X S) h2
theorem O3(R:Snd M T k n):∀N ns vs m,cF T (n+1) N ns vs=some m->∀X,Sc M X k N ns->PTs X vs (tMT M.K m):=by
 intro N ns vs m h X S;simp[cF,rc,sF]at h
 split at h
 .cases h;exact LX
 .exact NL (R.t _ _ _ _ h X S)
 .cases h
theorem PQ(R:Snd M T k n):∀N ns es m,cA T (n+1) N ns es=some m->∀X,Sc M X k N ns->PA X es (tMA M.K m):=by
 intro N ns es m h X S;simp[cA,rc,sA]at h
 split at h
 .cases h;exact zr
 .split at h
  .rename_i hs
   obtain⟨ma,e1,h⟩:=bind_eq h;obtain⟨mr,e2,rfl⟩:=map_eq h;exact kG 7#5 (R.a _ _ _ _ e2 X S) (bW hs _ _)
  grind
variable{X:Cx}{e:Expr}
theorem E6{tg:Expr}{m:ME}(S:Sc M X k N ns)(h:PE X e 7#3):IOk M X tg e (fM m):=
 ⟨_,QB S h,λ_ _ _ _ _ q=>QG q,λ_ _ _ _ _ q=>QR q⟩
theorem Nr(O:TOk M T k)(R:Snd M T k n):∀N ns tg it m,cI T (n+1) N ns it=some m->∀X,Sc M X k N ns->IOk M X tg it m:=by
 intro N ns tg it m h X S;simp only[cI,rc,sI]at h
 split at h
 .split at h
  .rename_i hr
   split at h
   .rename_i hg
    rw[eq_of_beq hr]at hg ⊢
    split at h
    .obtain⟨ma,e1,rfl⟩:=map_eq h
     have ZO:=fN e1;simp only[bx,ft,eS]at ZO;exact⟨_,Nh S hg 11#5 10#8 (bW ZO _ _),λ_ _ _ _ _ q=>Ow q,λ_ _ _ _ _ q=>NU q⟩
    .obtain⟨ma,e1,rfl⟩:=map_eq h
     have ZO:=fN e1;simp only[bx,ft,eS,ak]at ZO;exact⟨_,M3 S hg 11#5 10#8 (by rw[bW ZO.1,bW ZO.2];rfl) (by rw[bW ZO.2];rfl),λ_ _ _ _ _ q=>Pf q,λ_ _ _ _ _ q=>OU q⟩
    .cases h
   .cases h
  .split at h
   .rename_i hr
    split at h
    .rename_i hg
     rw[eq_of_beq hr]at hg ⊢
     split at h
     .obtain⟨ma,e1,rfl⟩:=map_eq h
      have ZO:=fN e1;simp only[bx,ft,eS]at ZO;exact⟨_,KR S hg 11#5 10#8 (bW ZO _ _),λ_ _ _ _ _ q=>Ls q,λ_ _ _ _ _ q=>Mw q⟩
     .cases h
    .cases h
   .obtain⟨ma,e1,rfl⟩:=map_eq h
    exact E6 S 7#5
 .obtain⟨ma,e1,rfl⟩:=map_eq h
  exact E6 S 7#5
theorem Pm(R:Snd M T k n):∀N ns e m,cG T (n+1) N ns e=some m->∀X,Sc M X k N ns->PG X e (tG M.K m):=by
 intro N ns e m h X S;simp only[cG,rc,sG]at h
 split at h
 .split at h
  .rename_i hs
   obtain⟨i,e1,rfl⟩:=map_eq h;exact PG.con (BC (by rw[S.hN];exact S.nd) (by rw[S.hN];exact slot_get e1) (S.lo hs).1 (S.lo hs).2) λ_ _ _ _ q=>Qh q
  .cases h
 .obtain⟨gs,e1,rfl⟩:=map_eq h
  obtain⟨h1,h2⟩:=Bu X.env _ (y4 e1);refine PG.con (Kt S.calm (R.gs _ _ _ _ e1 X S) h1 h2) λ_ _ _ _ q=>?_;rw[S.hK];exact O8 q
 .cases h
theorem Kp(R:Snd M T k n):∀N ns es m,cGs T (n+1) N ns es=some m->∀X,Sc M X k N ns->PGs X es (tGs M.K m):=by
 intro N ns es m h X S;simp[cGs,rc,sGs]at h
 split at h
 .cases h;exact PGs.con II λ_ _ _ _ q=>LV q
 .split at h
  .rename_i hs
   obtain⟨g,e1,h⟩:=bind_eq h;obtain⟨gs,e2,rfl⟩:=map_eq h;exact PGs.con (EH (R.g _ _ _ _ e1 X S) (R.gs _ _ _ _ e2 X S) (by rw[xO hs];rfl)) λ_ _ _ _ q=>Hn q
  grind
variable{it:Expr}{ts:List Expr}
theorem Kg(O:TOk M T k)(R:Snd M T k n){mi:MI}{kt:Nat}{pt:Pos}(h:eIt (rc n) T N ns it=some mi)(S:Sc M X k N ns):
  ∃wi,PI X 11#2 it wi /\ ∀g mb D σ H,tMS M.K (qC g mi mb) D σ H->wz wi (tG M.K g) (tMS M.K mb) D σ H:=by
 unfold eIt at h
 split at h
 .split at h
  .rename_i hr
   split at h
   .rename_i hg
    rw[eq_of_beq hr]at hg ⊢;obtain⟨ma,e1,rfl⟩:=map_eq h;have ZO:=fN e1;simp only[bx,ft,eS]at ZO;exact⟨_,IF S hg 11#5 10#8 (bW ZO _ _),λ_ _ _ _ _ q=>O4 q⟩
   .cases h
  .cases h
 .cases h
variable{m:MS}{y:Str}{p1 p3:Pos}
theorem G9(R:Snd M T k n){elt tg:Expr}{ifs:List Expr}{scope:Scope}{p2:Pos}(h:Mj (rc n) T N ns y elt it ifs scope tg=some m)(S:Sc M X k N ns):
  PS X (.Assign [.Name y p1] (.ListComp elt [⟨tg,it,ifs,0⟩] scope p2) p3) (tMS M.K m):=by
 unfold Mj at h
 split at h
 .split at h
  .rename_i hs
   rw[ak,ak,ak]at hs;obtain⟨i,e0,h⟩:=bind_eq h;obtain⟨mi,e1,h⟩:=bind_eq h;obtain⟨mt,e2,h⟩:=bind_eq h;obtain⟨mc,e3,rfl⟩:=map_eq h;obtain⟨wi,h1,_,h3⟩:=R.i _ _ _ _ _ e1 X S;exact Lk S i (slot_get e0) hs.1 (eq_of_beq hs.2.1.1) hs.2.1.2 h1 (λX' S'=>R.f _ _ _ _ e2 X' S') (λX' S'=>R.e _ _ _ _ e3 X' S') (h3 mt mc) (oM hs.2.2 _)
  .cases h
 .cases h
theorem He(R:Snd M T k n)(h:KB (rc n) T N ns x e=some m)(S:Sc M X k N ns):PS X (.Assign [.Name x p1] e p3) (tMS M.K m):=by
 unfold KB at h
 split at h
 .unfold Nt at h
  split at h
  .rename_i c
   obtain⟨tg,it,ifs,ia⟩:=c
   split at h
   .rename_i h0
    have UL:=h0;subst UL;exact G9 R h S
   .cases h
  .cases h
 .split at h
  .rename_i hs
   rw[ak]at hs;obtain⟨i,e1,h⟩:=bind_eq h;obtain⟨me,e2,rfl⟩:=map_eq h;exact uU S i (slot_get e1) hs.1 8#2 (oZ hs.2 _ _ _)
  grind
theorem Fe{as:List Expr}(h:Bp ts e=some (x,y,as)):∃px py a b k2 p2,ts=[.Name x px,.Name y py]/\e=.Tuple [a,b] k2 p2/\as=[a,b]/\Hf px py x y a b=true:=by
 unfold Bp at h
 split at h
 .split at h
  .rename_i q
   cases h;exact⟨_,_,_,_,_,_,rfl,rfl,rfl,q⟩
  .cases h
 .cases h
theorem Nd{j:Nat}{a b:Expr}{mas:MA}{px py pt p2:Pos}{kt k2:Nat}(S:Sc M X k N ns)(hp:Hf px py x y a b=true)(hi:N[i]?=some x)(hj:N[j]?=some y)(hx:ns.lookup x=some .local)(hy:ns.lookup y=some .local)(ha:PA X [a,b] 2#8):
  PS X (.Assign 18#9 (.Tuple [a,b] k2 p2) p3) (tMS M.K (Az i j mas)):=by
 intro pins s σ H D I h;simp only[Hf,ak,Bool.not_eq_true']at hp;obtain⟨⟨⟨⟨⟨h1,h2⟩,h3⟩,h4⟩,h5⟩,h6⟩:=hp;have Ww:x≠y:=λz=>by rw[z]at h2;simp at h2
 refine Lq S.calm (by rw[S.hN];exact S.nd) (by rw[S.hN];exact hi) (by rw[S.hN];exact hj) (λz=>Ww ?_) (S.loc x hx) (S.loc y hy) ha ?_ rfl pins s σ H D I ?_
 .subst z;rw[hi]at hj;cases hj;rfl
 .have kx:X.env.kindOf x=some .local:=S.loc x hx
  have ky:X.env.kindOf y=some .local:=S.loc y hy;have bk:X.env.blockKind=.function:=by unfold Env.blockKind;rw[I.ok.kind];rfl
  have l1:(py.line==px.line)=true:=by rw[beq_iff_eq]at h1 ⊢;exact h1.symm
  have dd:([x,y]:List Str).eraseDups.length=2:=by
   have: ¬y=x:=λz=>Ww z.symm;simp[List.eraseDups_cons,this]
  simp only[swappedStores,bk,bP,fK,gF,List.filterMap_nil,kx,ky,List.head?_cons,vN,Option.getD_some,Expr.pos,l1,bx,ft,eS,h5,h6];simp[Expr.pos];rw[if_neg,if_pos dd];rintro (z|z)
  .cases a<;>first | (cases z;done) | (cases h3;done)
  .cases b<;>first | (cases z;done) | (cases h4;done)
 .obtain⟨μ,S0,G,r,hr,er,e,kk⟩:=h
  obtain⟨vs,S1,e1,e⟩:=aL e
  split at e
  .cases e
   refine⟨μ,S0,G,_,S1,hr,er,e1,λY0 ws H1 p1 k1 Z' rs=>?_⟩;obtain⟨v,r,rfl,rx,rn⟩:=rs.inv;obtain⟨v2,r2,rfl,ry,W3⟩:=rn.inv;rw[W3.nil_inv];exact⟨v,v2,rfl,kk Y0 _ H1 p1 k1 Z' (((er.mono k1 p1).set rx i).set ry j)⟩
  .cases e
theorem Iu(R:Snd M T k n){t:Expr}(h:Lm (rc n) T N ns e t=some m)(S:Sc M X k N ns):PS X (.Assign [t] e p3) (tMS M.K m):=by
 unfold Lm at h
 split at h
 .exact He R h S
 .split at h
  .rename_i hs
   rw[ak]at hs;obtain⟨ma,e1,h⟩:=bind_eq h;obtain⟨mb,e2,h⟩:=bind_eq h;obtain⟨me,e3,rfl⟩:=map_eq h;exact GT S 7#5 8#2 (R.e _ _ _ _ e3 X S) (A3 hs.1 _ _ _) z8 rfl (L4 hs.2 _)
  .cases h
 .rename_i ts kt pt
  unfold NH at h;cases q:Bp ts e with
  | none=>
    rw[q]at h;replace h:(if gM e&&(notTuple e||rE ts) then((rc n).g T N ns 11#2).bind λg=>((rc n).e T N ns e).map λme=>AK me g else none)=some m:=h
    split at h
    .rename_i hs
     rw[ak]at hs;obtain⟨g,e1,h⟩:=bind_eq h;obtain⟨me,e2,rfl⟩:=map_eq h;exact PS.con (Fq 8#2 (R.g _ _ _ _ e1 X S) (A3 hs.1 _ _ _) (yv hs.2) rfl) λ_ _ _ q=>Pt q
    .cases h
  | some xy=>
    obtain⟨x,y,as⟩:=xy;rw[q]at h;obtain⟨px,py,a,b,k2,p2,rfl,rfl,rfl,hp⟩:=Fe q;replace h:(if ns.lookup x==some .local&&ns.lookup y==some .local then(slot N x).bind λi=>(slot N y).bind λj=>((rc n).a T N ns [a,b]).map (Az i j) else none)=some m:=h
    split at h
    .rename_i hs
     rw[ak]at hs;obtain⟨i,e1,h⟩:=bind_eq h;obtain⟨j,e2,h⟩:=bind_eq h;obtain⟨mas,e3,rfl⟩:=map_eq h;exact Nd S hp (slot_get e1) (slot_get e2) (eq_of_beq hs.1) (eq_of_beq hs.2) (R.a _ _ _ _ e3 X S)
    .cases h
 .cases h
theorem K0(R:Snd M T k n){op:Operator}(h:sAu (rc n) T N ns x e op=some m)(S:Sc M X k N ns):PS X (.AugAssign 10#5 op e p3) (tMS M.K m):=by
 unfold sAu at h;cases h
theorem MC(O:TOk M T k)(R:Snd M T k n){t:Expr}{body:List Stmt}(h:sFo (rc n) T N ns it body t=some m)(S:Sc M X k N ns):PS X (.For t it body [] p3) (tMS M.K m):=by
 unfold sFo at h
 split at h
 .split at h
  .rename_i hs
   rw[ak]at hs;obtain⟨i,e1,h⟩:=bind_eq h;obtain⟨mi,e2,h⟩:=bind_eq h;obtain⟨mb,e3,rfl⟩:=map_eq h;obtain⟨wi,h1,h2,_⟩:=R.i _ _ _ _ _ e2 X S;exact OI S i (slot_get e1) hs.1 h1 (R.b _ _ _ _ e3 X S) (h2 i mb) (oM hs.2 _)
  .cases h
 .rename_i ts kt pt
  split at h
  .rename_i hs
   obtain⟨g,e1,h⟩:=bind_eq h;obtain⟨mi,e2,h⟩:=bind_eq h;obtain⟨mb,e3,rfl⟩:=map_eq h;obtain⟨wi,h1,h2⟩:=Kg O R e2 S;exact PS.con (DS S.own S.calm h1 (R.g _ _ _ _ e1 X S) (R.b _ _ _ _ e3 X S) (oM hs _)) λ_ _ _ q=>h2 _ _ _ _ _ q
  .cases h
 .cases h
theorem Nj(O:TOk M T k)(R:Snd M T k n):∀N ns st m,cS T (n+1) N ns st=some m->∀X,Sc M X k N ns->PS X st (tMS M.K m):=by
 intro N ns st m h X S;cases st with
 | Assign ts e p=>
   have h:sAs _ T N ns e ts=some m:=h;unfold sAs at h
   split at h
   .exact Iu R h S
   .cases h
 | AugAssign t op e p=>
   have h:KG _ T N ns op e t=some m:=h;unfold KG at h
   split at h
   .exact K0 R h S
   .cases h
 | Expr e p=>
   have h:(if gM e then((rc n).e T N ns e).map _ else none)=some m:=h
   split at h
   .rename_i hs
    obtain⟨me,e2,rfl⟩:=map_eq h;exact DD 8#2 (oZ hs _ _ _)
   .cases h
 | Return o p=>
   have h:sRt _ T N ns o=some m:=h;unfold sRt at h
   split at h
   .obtain⟨me,e2,rfl⟩:=map_eq h
    exact JS 8#2
   .cases h;exact Kv
 | If c a b p=>
   obtain⟨mc,e1,h⟩:=bind_eq h;obtain⟨ma,e2,h⟩:=bind_eq h;obtain⟨mb,e3,rfl⟩:=map_eq h;exact Nw (R.t _ _ _ _ e1 X S) (R.b _ _ _ _ e2 X S) (R.b _ _ _ _ e3 X S)
 | For t it body els p=>
   have h:LN _ T N ns t it _ _=some m:=h;unfold LN at h
   split at h
   .exact MC O R h S
   .cases h
 | While c body els p=>
   have h:sWh _ T N ns c _ _=some m:=h;unfold sWh at h
   split at h
   .obtain⟨mc,e1,h⟩:=bind_eq h
    obtain⟨mb,e2,rfl⟩:=map_eq h;exact HL S (R.t _ _ _ _ e1 X S) (R.b _ _ _ _ e2 X S)
   .cases h
 | Pass p=>
   cases h;exact L8
 | Break p=>
   cases h;exact NO
 | Raise a b p=>
   cases h;exact Na
 | Continue p=>
   cases h;exact OM
 |_=>cases h
theorem Pn(Gk:GOk M T k)(R:Snd M T k n)(RA:∀M T k,GOk M T k->Snd M T k n):∀N ns sts m,cB T (n+1) N ns sts=some m->∀X,Sc M X k N ns->PSs X sts (tMS M.K m):=by
 intro N ns sts m h X S;simp only[cB,rc,sB]at h
 split at h
 .cases h;exact Jv
 .exact Dw (R.s _ _ _ _ h X S)
 .obtain⟨ma,e1,h⟩:=bind_eq h
  obtain⟨mr,e2,rfl⟩:=map_eq h;exact tu (R.s _ _ _ _ e1 X S) (R.b _ _ _ _ e2 X S)
theorem snd:∀n M T k,GOk M T k->Snd M T k n
 |0,M,T,k,_=>QU M T k
 | n+1,M,T,k,Gk=>by
   have RA:=snd n;have R:=RA M T k Gk;exact⟨Pr Gk R RA,OK Gk.1 R,NX Gk.1 R,λN ns g m h=>(by cases (h)),Pd R,MY R,O2 R,O3 R,PQ R,Nr Gk.1 R,Pm R,Kp R,Nj Gk.1 R,Pn Gk R RA⟩
theorem uZ{qual:Str}{st:Stmt}{f:Addr}{fd:FuncData}{ms:MS}{fu:Nat}(O:TOk M T k)(h0:M.mkr=none)(h1:T.mkr=false)(F:Fun M.K x qual st f fd)(S:aO N ps (ax st))(hm:M.mg x=some (.ref f))(hb:Binds M.K fd ps [])
  (h:cB T fu N (ax st).names (br st)=some ms):Fn M x (k+1) ps 15#8:=
 ⟨f,fd,hm,F.2,hb,Eg h0 F S λX S'=>(snd fu M T k (.of O h1)).b _ _ _ _ h X S'⟩
end
structure Def(K:aj)(x:Str)(st:Stmt):Prop where
 ex:∃f fd,aX K mainGlobals x=some (some (.ref f))/\Fun K x x st f fd
variable{f:Addr}{st:Stmt}{K:aj}{od an:Option Addr}{sl:Array (Option Value)}
theorem KW{oc kV doc pm cd ct:Value}(a:aX K mainGlobals x=some (some (.ref f)))
  (l:K.lookup f=some ⟨oc,od,.func (cP x x (fk st) (br st) (ax st) .none kV doc pm an cd ct),sl⟩) (c:fW K cd x=true) (k:cy K (.ref f)=true):Def K x st:=
 ⟨f,_,a,F3 l c k⟩
section
variable {M:Mo}{T:Tb}{k:Nat}{h:Heap}{x:Str}{st:Stmt}{N ps:List Str}{ms:MS}{fu:Nat}
theorem Def.fn(O:TOk M T k)(h0:M.mkr=none)(h1:T.mkr=false)(X:M.K.K.In h)(Gn:h.Ns mainGlobals M.mg)(D:Def M.K x st)(S:aO N ps (ax st))
  (hb:∀(kV doc pm:Value) (an:Option Addr) (cdv ct:Value) (us:List Value),0#9=6#0->bindArgs 18#2 ⟨us,[]⟩=pure (ps.zip us))
  (hc:cB T fu N (ax st).names (br st)=some ms):Fn M x (k+1) ps 15#8:=by
 obtain⟨f,fd,a,F⟩:=D.ex;exact uZ O h0 h1 F S (ck X Gn a) (F.binds hb) hc
theorem TOk.mono{j:Nat}(O:TOk M T k)(hj:k<=j):TOk M T j where
 Z:=λy r hy=>let ⟨k',_,hk,F'⟩:=O.Z y r hy;⟨k',_,aD hk hj,F'⟩
 D:=λy g hy=>let ⟨k',_,hk,F'⟩:=O.D y g hy;⟨k',_,aD hk hj,F'⟩
 C:=O.C
 B:=O.B
 L:=λy q hy=>let ⟨k',_,hk,F'⟩:=O.L y q hy;⟨k',_,aD hk hj,F'⟩
 mkr:=O.mkr
theorem TOk.cons{j:Nat}{mf:MF}(O:TOk M T k)(F:Fn M x j ps mf)(hj:k<=j):TOk M ⟨(x,mf)::T.D,T.C,T.L,T.H,T.mkr,T.Z⟩ j where
 D:=λy g hy=>by
  rw[bF]at hy;cases e:y==x with
  |true=>rw[e]at hy;cases hy;rw[eq_of_beq e];exact⟨j,ps,aq _,F⟩
  | false=>
    rw[e]at hy;obtain⟨k',Xz,hk,F'⟩:=O.D y g hy;exact⟨k',_,aD hk hj,F'⟩
 C:=O.C
 B:=O.B
 L:=(O.mono hj).L
 mkr:=O.mkr
 Z:=(O.mono hj).Z
theorem TOk.setH{Hs:List (Str×(Addr->MF->MF))}(O:TOk M T k):TOk M ⟨T.D,T.C,T.L,Hs,T.mkr,T.Z⟩ k:=⟨O.D,O.C,O.B,O.L,O.mkr,O.Z⟩
theorem TOk.con{i:Int}(O:TOk M T k)(X:M.K.K.In h)(Gn:h.Ns mainGlobals M.mg)(a:∃t,aX M.K mainGlobals x=some (some (.int i t))):TOk M ⟨T.D,(x,.int i)::T.C,T.L,T.H,T.mkr,T.Z⟩ k where
 D:=O.D
 C:=λy u hy=>by
  rw[bF]at hy;cases e:y==x with
  | true=>
    rw[e]at hy;cases hy;rw[eq_of_beq e];obtain⟨t,a⟩:=a;exact⟨_,.int i,ck X Gn a,⟨t,rfl⟩,λ_ _=>eI⟩
  |false=>rw[e]at hy;exact O.C y u hy
 B:=O.B
 L:=O.L
 mkr:=O.mkr
 Z:=O.Z
theorem TOk.nil{Fs:List (Str×VF)}{cl:Nat->Addr}{nm:Str}(X:M.K.K.In h)(Gn:h.Ns mainGlobals M.mg)(B:∀x∈iF,aX M.K mainGlobals x=some none):TOk M ⟨[],[],[],[],false,⟨[],Fs,cl,nm⟩⟩ 0 where
 D:=λy g hy=>by cases hy
 C:=λy g hy=>by cases hy
 B:=λy hy=>Gx X Gn (B y hy)
 L:=λy g hy=>by cases hy
 mkr:=λh=>by cases h
 Z:=λy g hy=>by cases hy
theorem Def.fnC{y:Str}{msC:Addr->MF->MS}(O:∀caps capv cds base,eU M.mg base->TOk 6#2 T k)(h1:T.mkr=false)(hL:T.L=[])(X:M.K.K.In h)(Gn:h.Ns mainGlobals M.mg)(D:Def M.K x st)(S:aO N ps (ax st))
  (hb:∀(kV doc pm:Value) (an:Option Addr) (cdv ct:Value) (us:List Value),0#9=6#0->bindArgs 18#2 ⟨us,[]⟩=pure (ps.zip us))
  (hc:∀g φ,cB ⟨T.D,T.C,[(y,g,φ)],T.H,T.mkr,T.Z⟩ fu N (ax st).names (br st)=some (msC g φ)):FnC M x k ps λg φ=>run ps.length N.length (msC g φ):=by
 obtain⟨f,fd,a,F⟩:=D.ex;refine⟨f,fd,ck X Gn a,F.2,F.binds hb,λcaps capv cds base g j lps φ Zj Ve lam=>?_⟩;have O':TOk 6#2 ⟨T.D,T.C,[(y,g,φ)],T.H,T.mkr,T.Z⟩ j:=by
  have O1:=(O caps capv cds _ Zj).mono Ve;refine⟨O1.D,O1.C,O1.B,λz q hz=>?_,(λhm=>by grind),O1.Z⟩;rw[bF]at hz;cases e:z==y with
  |true=>rw[e]at hz;cases hz;exact⟨j,_,aq _,lam⟩
  |false=>simp_all
 exact Eg (M:=M.to _ _ cds _) rfl F S λX' S'=>(snd fu _ _ _ (.of O' h1)).b _ _ _ _ (hc g φ) X' S'
end
structure jb(K:aj)(x:Str)(st:Stmt)(c P:Addr):Prop where
 ex:∃(f:Addr) (oc:Value) (od:Option Addr) (kV doc pm:Value) (an:Option Addr) (ct:Value) (sl:Array (Option Value)),aX K mainGlobals x=some (some (.ref f)) /\
  K.lookup f=some ⟨oc,od,.func (cP x x (fk st) (br st) (ax st) .none kV doc pm an (.ref c) ct),sl⟩/\fW K (.ref c) x=true/\cy K (.ref f)=true
 cd :∃ (vs:Array Value) (od:Option Addr) (sl:Array (Option Value)) (file:Str) (tf:Tok) (flags:Int) (tg:Tok) (inF:Bool) (text:Int) (tt:Tok),K.lookup c=some ⟨.type "code",od,.fields vs,sl⟩/\vs[11]?=some (.ref P)/\vs.getD 11 .none=.ref P/\vs.getD 18 .none=.str file tf /\
  vs.getD 7 .none=.int flags tg/\vs.getD 9 .none=.bool inF/\vs.getD 10 .none=.int text tt/\c≠P
section
variable {M:Mo}{T:Tb}{k:Nat}{h:Heap}{x:Str}{st:Stmt}{N ps:List Str}{ms:MS}{fu:Nat}{c P:Addr}
theorem jb.mkr(D:jb M.K x st c P)(B:eU M.mg M.base)(X:M.K.K.In h)(Gn:h.Ns mainGlobals M.mg){q:Str}(hm:(P,q)∈M.K.tabs)(nd:(M.K.tabs.map (·.1)).Nodup)(hg:mainGlobals≠P):Mkr M c P q where
 hd:=λh' X'=>by
  obtain⟨vs,od,sl,file,tf,flags,tg,inF,text,tt,e,r⟩:=D.cd;obtain⟨r1,r2,r3,r4,r5,r6,r7⟩:=r;exact⟨_,vs,_,tf,_,tg,_,_,tt,X' _ _ e,rfl,rfl,r1,r2,r3,r4,r5,r6,r7⟩
 bl:=B
 gP:=hg
 mem:=hm
 un:=λr hr e=>by
  have key:∀(l:List _),(l.map (·.1)).Nodup->r∈l->(P,q)∈l->r.2=q:=by
   intro l
   induction l<;>grind
  exact key _ nd hr hm
theorem jb.ok(D:jb M.K x st c P)(h0:M.mkr=none)(O :∀ caps capv cds base,eU M.mg base->TOk 6#2 T k)(O0:TOk M T k)(hL:T.L=[])(h1:T.mkr=false)(hH :∀ y F,T.H.lookup y=some F->∃ k' ps,k'<=k+1/\FnC M y k' ps F)(hF :∀ y vf,T.Z.F.lookup y=some vf->∃ k' d,d<=3/\k'<=k+1/\FnR M T.Z.cl y k' d vf){nm:Str}(MK:Mkr M c P (x++".<locals>."++nm))
  (S:aO N ps (ax st)) (hc:cB 15#1 fu N (ax st).names (br st)=some ms)
  {oc kV doc pm ct:Value} (lk:M.K.K.lookup f=some ⟨oc,od,.func 20#6,sl⟩) (ZF:fW M.K.K (.ref c) x=true):
  FnOk M.P M.w M.K M.mg M.base CX0 (k+5) f 20#6 ps (spM M.K 15#8):=by
 let M1:Mo:=⟨M.P,M.w,M.K,M.mg,M.base,some (c,x++".<locals>.")⟩
 have O1:TOk M1 15#1 (k+4):=by
  have Om:=O0.mono (show k<=k+4 by omega);refine⟨fun y g hy=>?_,Om.C,Om.B,fun y q hy=>?_,fun _=>⟨c,x++".<locals>.",P,rfl,MK.hd,MK.bl,MK.gP,MK.mem,MK.un⟩,fun y r hy=>?_⟩
  .obtain⟨k',Xz,hk,F'⟩:=Om.D y g hy
   exact 17#4
  .rw[show(15#1:Tb).L=T.L from rfl,hL]at hy
   cases hy
  .obtain⟨k',Xz,hk,F'⟩:=Om.Z y r hy
   exact 17#4
 have G1:GOk M1 15#1 (k+4):=⟨O1,λ_=>⟨k,aq _,λy F hy=>by
  obtain⟨k',Xz,hk,FC⟩:=hH y F hy;exact⟨k',Xz,hk,⟨FC.ex⟩⟩,λy rz hy=>by
  obtain⟨k',d,hd,hk,FC⟩:=hF y rz hy;exact⟨k',d,hd,hk,⟨FC.ex⟩⟩,λcaps capv cds base Zj=>by
   have Ob:=O caps capv cds base Zj
   exact⟨Ob.D,Ob.C,Ob.B,λy q hy=>(by cases hy),λz=>(by cases z),Ob.Z⟩⟩⟩
 have len:∀vs H Q E,spM M.K 15#8 vs H Q E->2#6=6#0:=λvs H Q E h=>by
  obtain⟨μ,S',us,u,ZD,hr,rs,e,_⟩:=h;unfold run at e
  split at e
  .rename_i hl;rw[<-rs.len];exact hl
  .cases e
 refine _L.uZ lk ZF S len λA outer s H vs Q E hr h=>⟨tMS M.K ms,((snd fu M1 _ _ G1).b _ _ _ _ hc _ (Sc.def (M:=M1) S hr λc' q' hq=>by cases hq;exact⟨rfl,rfl⟩)).nox,?_⟩;obtain⟨μ,S1,us,u,S2,hr,rs,e,ka⟩:=h;unfold run at e
 split at e
 .rename_i hl
  have er:=kg (N:=N) rs;rw[hl]at er
  split at e
  .rename_i w Y4 S3 q
   cases e;exact⟨μ,S1,_,_,hr,er,q,ka⟩
  .rename_i Y4 S3 q
   cases e;exact⟨μ,S1,_,_,hr,er,q,λY2 Y1 H' p' k' Zw SH=>ka Y2 _ H' p' k' Zw lB⟩
  .cases e
 .cases e
theorem jb.fn(D:jb M.K x st c P)(h0:M.mkr=none)(O :∀ caps capv cds base,eU M.mg base->TOk 6#2 T k)(O0:TOk M T k)(hL:T.L=[])(h1:T.mkr=false)(hH :∀ y F,T.H.lookup y=some F->∃ k' ps,k'<=k+1/\FnC M y k' ps F)(hF :∀ y vf,T.Z.F.lookup y=some vf->∃ k' d,d<=3/\k'<=k+1/\FnR M T.Z.cl y k' d vf){nm:Str}(MK:Mkr M c P (x++".<locals>."++nm))
  (X:M.K.K.In h) (Gn:h.Ns mainGlobals M.mg) (S:aO N ps (ax st))
  (hb:∀(kV doc pm:Value) (an:Option Addr) (cdv ct:Value) (us:List Value),0#9=6#0->bindArgs 18#2 ⟨us,[]⟩=pure (ps.zip us))
  (hc:cB 15#1 fu N (ax st).names (br st)=some ms):Fn M x (k+5) ps 15#8:=by
 obtain⟨f,oc,od,kV,doc,pm,an,ct,sl,a,lk,ZF,Zo⟩:=D.ex;exact⟨f,_,ck X Gn a,Zo,.all (hb kV doc pm an (.ref c) ct),D.ok h0 O O0 hL h1 hH hF MK S hc lk ZF⟩
theorem jb.def(D:jb M.K x st c P):Def M.K x st:=by
 obtain⟨f,oc,od,kV,doc,pm,an,ct,sl,a,lk,ZF,Zo⟩:=D.ex;exact⟨f,_,a,F3 lk ZF Zo⟩
end
section
variable {M:Mo}
variable{Hs:List (Str×(Addr->MF->MF))}
theorem o4{j k:Nat}(h:∀y F,Hs.lookup y=some F->∃k' ps,k'<=j/\FnC M y k' ps F)(hj:j<=k):∀y F,Hs.lookup y=some F->∃k' ps,k'<=k/\FnC M y k' ps F:=λy F hy=>
 let ⟨k',ps,a,b⟩:=h y F hy;⟨k',ps,aD a hj,b⟩
theorem Hq{j k:Nat}{F0:Addr->MF->MF}{ps:List Str}(h:∀y F,Hs.lookup y=some F->∃k' ps,k'<=j/\FnC M y k' ps F)(F1:FnC M x i ps F0)(hi:i<=k)(hj:j<=k):∀y F,((x,F0)::Hs).lookup y=some F->∃k' ps,k'<=k/\FnC M y k' ps F:=λy F hy=>by
 rw[bF]at hy;cases e:y==x with
 |true=>rw[e]at hy;cases hy;rw[eq_of_beq e];exact⟨i,ps,hi,F1⟩
 |false=>rw[e]at hy;exact o4 h hj y F hy
end
theorem vX{c P:Addr}{RS:Option Addr}{XD:Array (Option Value)}{oc kV doc pm ct:Value}{vs:Array Value}{file:Str}{tf tg tt:Tok}{flags text:Int}{inF:Bool}(a:aX K mainGlobals x=some (some (.ref f)))
  (l:K.lookup f=some ⟨oc,od,.func 20#6,sl⟩) (cc:fW K (.ref c) x=true) (k:cy K (.ref f)=true)
  (e:K.lookup c=some ⟨.type "code",RS,.fields vs,XD⟩) (r1:vs[11]?=some (.ref P)) (r2:vs.getD 11 .none=.ref P) (r3:vs.getD 18 .none=.str file tf) (r4:vs.getD 7 .none=.int flags tg) (r5:vs.getD 9 .none=.bool inF) (r6:vs.getD 10 .none=.int text tt) (r7:c≠P):jb K x st c P:=
 ⟨⟨f,oc,od,kV,_,pm,an,ct,sl,a,l,cc,k⟩,⟨vs,_,_,_,tf,_,tg,_,_,tt,e,r1,r2,r3,r4,r5,r6,r7⟩⟩
theorem K3{l:mM}{w:World}{h:Heap}{mg:Str->Option Value}{fa:Addr}{ms:MS}{fu k:Nat}{T:Tb}(X:K.In h)(Gn:h.Ns mainGlobals mg)(TV:mg "law"=some (.ref fa))
  (D:Def K "law" st) (S:aO N ["script"] (ax st))
  (hb :∀ (kV doc pm:Value) (an:Option Addr) (cdv ct:Value) (us:List Value),0#9=["script"].length->bindArgs (cP "law" "law" (fk st) (br st) (ax st) .none kV doc pm an cdv ct) ⟨us,[]⟩=pure ((["script"]:List Str).zip us))
  {tabs:List (Addr×Str)} (h1:T.mkr=false) (hO:∀base:Heap,eU mg base->TOk ⟨l.prog,w,⟨K,[],[],[],tabs⟩,mg,base,none⟩ T k) (hc:cB T fu N (ax st).names (br st)=some ms):
  ∃ fd:FuncData,20#3 /\ ∀ base:Heap,K.In base->base.Ns mainGlobals mg->eU mg base->FnOk l.prog w K mg base CX0 (k+1) fa fd ["script"] (spM ⟨K,[],[],[],tabs⟩ (run 1 N.length ms)):=by
 obtain⟨f,fd,a,F⟩:=D.ex;have e:=TV.symm.trans (ck X Gn a);cases e;refine⟨fd,λs v=>?_,λbase _ _ Zj=>Eg rfl F S λX' S'=>(snd fu _ _ _ (.of (hO _ Zj) h1)).b _ _ _ _ hc X' S'⟩;obtain⟨oc,od,kV,doc,pm,an,cdv,ct,osl,rfl,lk,ZF⟩:=F.ex;exact .of_eq (hb kV _ pm an _ ct _ rfl)
theorem P9{tabs:List (Addr×Str)}{H:Hp}{a:Addr}{ns:List Int}{m:MF}(hT:∀q∈tabs,Af H q.1 q.2)(hS:SqL K H a 10#1)(hm:∀S:Sto,0#5=1->getL S 0=some (ns.map U.int)->∃S',m [.ref 0] S=some (.bl true,S')):
  spM ⟨K,[],[],[],tabs⟩ m [.ref a] H (λv _=>v=.bl true) λ_ _ _=>False:=by
 have key:∃c:Cell,nh ⟨K,[],[],[],tabs⟩ H [a] a c/\getL [c] 0=some (ns.map U.int):=by
  rcases hS with (h|⟨o,h⟩)|h
  .exact⟨.lst _,⟨_,h,RUs.ints ns⟩,rfl⟩
  .exact⟨.frz _,⟨_,.inl ⟨o,h⟩,RUs.ints ns⟩,rfl⟩
  .exact⟨.frz _,⟨_,.inr (.inr h),RUs.ints ns⟩,rfl⟩
 obtain⟨c,hc,hg⟩:=key;obtain⟨S',e⟩:=hm _ rfl hg;refine⟨[a],_,_,_,S',⟨rfl,λn m us ws q1 q2 _ _ _=>?_,λn c' b q1 q2=>?_,⟨.nil,λq hq=>(nomatch hq),hT⟩⟩,.cons (xi rfl) .nil,e,λY2 v H' _ _ _ r=>je r⟩
 .have h1:=(ah.mp q1).1
  have h2:=(ah.mp q2).1<;>simp_all
 .have h1:=(ah.mp q1).1
  simp_all
end _G
namespace _G
open PySem PySem.Spec _L
open PySem.W (CodeHd tabObj tabIn)
open PyProof.Rows hiding St
theorem jb.tab{K:aj}{x:Str}{st:Stmt}{c P:Addr}(D:jb K x st c P):tabIn K x=some (c,P):=by
 obtain⟨f,oc,od,kV,doc,pm,an,ct,sl,e1,e2,_⟩:=D.ex;obtain⟨vs,RS,XD,file,tf,flags,tg,inF,text,tt,e3,e4,_⟩:=D.cd;unfold tabIn
 simp_all
def zh(K:aj)(tabs:List (Addr×Str))(a:Addr)(o:Obj)(xs:List V):Hp:=λb=>
 if b∈tabs.map (·.1) then some (.tbl #[]) else if b=a/\K.lookup a=none then some (.frz o (.lst xs)) else none
section
variable {P:Program}{w:World}{K:aj}{mg mb:Str->Option Value}{k:Nat}{fa a:Addr}{fd:FuncData}{x:Str}{sp:Sp}{s:Shared}{vs:List Value}{ns:List Int}{tabs:List (Addr×Str)}
theorem HF(kx:K.In s.heap)(Yw:s.heap.Ns mainGlobals mg)(hb:s.heap.Ns builtinsNs mb)(Zj :∀ x:Str,x≠"__name__"->mb x=bootBuiltins x)(Uh:s.heap.NoLimit)(hbm:eU mg s.heap)(hg:s.gens = #[])
  (ha:s.heap.get? a=some { cls := .type "list",data := .seq vs.toArray }) (hi:IntsAre vs ns) (hl:5#6<=sizeLine) (hr:j8 k callerA)
  (hT:∀r∈tabs,K.lookup r.1=none /\ ∃c,s.heap.TableAt c r.1 #[])
  (F:∀base:Heap,K.In base->base.Ns mainGlobals mg->eU mg base->FnOk P w K mg base CX0 k fa fd [x] sp) (Vu:∀(s:Shared) (u:Value),BindsTo s fd ⟨[u],[]⟩ [(x,u)])
  (Zk:∀H:Hp,(∀r∈tabs,Af H r.1 r.2)->SqL K H a 10#1->sp [.ref a] H (λv _=>v=.bl true) λ_ _ _=>False):
  jY (model P w) callerA (.call (.ref fa) ⟨[.ref a],[]⟩) (λr s'=>r=.ok (.ret (.bool true))/\OldK s.heap s'.heap/\s'.os=s.os/\AllBare s'.gens) s:=by
 have rv:=pM hi;have Ud:=hi.length
 let o:Obj:={ cls := .type "list",data := .seq vs.toArray }
 let H:=zh K tabs a o 10#1
 have hH:H=zh K _ a o _:=rfl;have tab:∀b,b∈tabs.map (·.1)->H b=some _/\K.lookup b=none /\ ∃c,s.heap.TableAt c b _:=λb hb=>by
  obtain⟨r,hr,e⟩:=bw.mp hb;subst e;exact⟨if_pos hb,hT r hr⟩
 have U3:a∉tabs.map _:=λz=>by
  obtain⟨_,_,c,ht⟩:=tab a z;have e:=ht.2;rw[ha]at e;cases e
 have Vl:∀b u,H b=some u->(b∈tabs.map _/\u=.tbl _)\/(b=a/\K.lookup a=none/\u=.frz o _):=λb u e=>by
  rw[hH]at e;unfold zh at e
  split at e
  .rename_i z;cases e;exact .inl ⟨z,rfl⟩
  .split at e
   .rename_i z;cases e;exact .inr ⟨z.1,z.2,rfl⟩
   .cases e
 have nodic:∀{b:Addr}{o:Obj}{es:Array _}{ep:Nat},s.heap.get? b=some o->o.data=.dict es ep->H b=none:=λ{b o' es ep} e d=>by
  cases q:H b with
  |none=>rfl
  | some u=>
    rcases Vl b u q with⟨z,_⟩|⟨z,_⟩
    .obtain⟨_,_,c,ht⟩:=tab b z
     have e2:=ht.2;rw[e]at e2;cases e2;cases d
    .subst z
     rw[ha]at e;cases e;cases d
 have nsK:∀{b:Addr}{m:Str->Option _},s.heap.Ns b m->(xY _ H).Ns b m:=λ{b m} ⟨o,es,ep,e,d,r⟩=>⟨o,es,ep,o7 e (nodic e d),d,r⟩
 have Sv:K.In (xY _ H):=λb o' e=>o7 (kx b o' e) (by
  cases q:H b <;> grind)
 have hok:HOk P w H s.heap:=λb u e=>by
  rcases Vl b u e with⟨z,rfl⟩|⟨rfl,z2,rfl⟩
  .obtain⟨_,_,c,ht⟩:=tab b z
   exact ht.2
  .exact⟨ha,by rw[aF];exact hl,vs,_,rv,ha⟩
 have hS:SqL K H a 10#1:=by
  cases hk:K.lookup a with
  | some o'=>
    have e:=kx a o' hk;rw[ha]at e;cases e;exact .inr ⟨_,_,_,hk,rfl,rfl,rfl,by rw[be,Ud];exact hl,by simpa using rv⟩
  |none=>exact .inl (.inr ⟨o,by show zh K _ a o _ a=_;unfold zh;rw[if_neg U3,if_pos ⟨rfl,hk⟩]⟩)
 have hM:Mod K mg _:=⟨Sv,nsK Yw,⟨mb,nsK hb,Zj⟩,let ⟨mc,h1,h2⟩:=Uh;⟨mc,nsK h1,h2⟩⟩;have e0:CD P w K mg _ callerA [] s H:=⟨rfl,hM,λb o e=>AX e,Nat.le_of_eq (pR _ _),trivial,λb hb=>absurd (show b∈[] from hb) 0#3,hok,.of_eq hg⟩;have hBb:eU mg (xY s.heap H):=by
  obtain⟨bm,ob,e1,e2,e3,e4,e5,e6⟩:=hbm;refine⟨bm,ob,e1,e2,o7 e3 ?_,e4,e5,e6⟩;cases q:H bm with
  |none=>rfl
  | some u=>
    rcases Vl bm u q with⟨z,_⟩|⟨z,_⟩
    .obtain⟨_,_,c,ht⟩:=tab bm z
     have e:=ht.2;rw[e3]at e;cases e;cases e6
    .rw[z,ha]at e3;cases e3;cases e6
 have QY:∀r∈tabs,Af H _ r.2:=λr hr=>⟨_,(tab _ (bw.mpr ⟨r,hr,rfl⟩)).1,trivial,λpos cv h=>by cases h⟩;refine ff ((F _ Sv (nsK Yw) hBb).run _ [] s H _ [.ref a] [.ref a] _ _ hr e0 (Vu s _) (.cons rfl .nil) (Zk H QY hS)) λr s' h=>?_;cases r with
 |error e=>exact h.elim
 | ok fl=>
   cases fl with
   |next=>exact bH h
   |brk=>exact bH h
   |cont=>exact bH h
   | ret u=>
     obtain⟨v,H',os,bare,un,Wc,r',q⟩:=h;have q':=q;subst q';obtain rfl:u=Value.bool _:=r';refine⟨rfl,⟨λb o' e=>?_,λb o' e=>un.there b o' e 0#3⟩,os,bare⟩;cases q:H b with
     |none=>exact .inl (un.keep b o' e q (by intro z;exact absurd (show b∈[] from z) 0#3) 0#3)
     | some u=>
       rcases Vl b u q with⟨z,rfl⟩|⟨rfl,_,rfl⟩
       .obtain⟨_,_,c,ht⟩:=tab b z
        obtain⟨more,e2⟩:=un.tbls b _ q;have e3:=Wc b _ e2;have e4:=ht.2;rw[e]at e4;cases e4;exact .inr (.inl ⟨ht.isCodeTable,rfl,_,_,rfl,e3⟩)
       .obtain⟨e2,_⟩:=Wc b _ (un.frzs b _ _ q)
        rw[ha]at e;cases e;exact .inl e2
end
theorem FL{l:mM}{n k:Nat}{q:Program}{loose:List Str}{XP:(Str->Option Value)->Heap->Prop}{YP:World->Heap->Prop}{d:DefRec}{K:Params->aj}{x:Str}
  (hn:l.most=some n) (Ya:n<=sizeLine) (VS:d.params.defaults=[]) (hr:j8 k callerA) (hY:∀(w:World) (h:Heap),YP w h->(K w.params).In h)
  (F: ∀(w:World) (mg:Str->Option Value) (fa:Addr) (h:Heap),(K w.params).In h->h.Ns mainGlobals mg->mg d.name=some (.ref fa) -> ∃(tabs:List (Addr×Str)) (fd:FuncData) (sp:Sp),
   (∀r∈tabs,(K w.params).lookup r.1=none /\ ∃x d c,(recsOf q).find? (λe=>e.name==x)=some d/\tabIn (K w.params) x=some (c,r.1)) /\
   (∀(s:Shared) (u:Value),BindsTo s fd ⟨[u],[]⟩ [(x,u)])/\(∀base:Heap,(K w.params).In base->base.Ns mainGlobals mg->eU mg base->FnOk l.prog w (K w.params) mg base CX0 k fa fd [x] sp) /\
   ∀(H:Hp) (a:Addr) (ns:List Int),ns.length<=n->(∀r∈tabs,Af H r.1 r.2)->SqL (K w.params) H a (ns.map V.int)->sp [.ref a] H (λv _=>v = .bl true) λ_ _ _=>False):
  PySem.W.WalkO q loose XP YP l.row.toRowW d [] (λf vs=>PySem.call f vs):=by
 refine Att.attach_call hn VS λw s₀ ZV mg mb fa o pm cd doc a vs ns v6 Y ho hd ZF W7 WI hints hlen hg=>?_;have kx:=hY w _ Y;obtain⟨tabs,fd,sp,hT,hb,hF,Zk⟩:=F w mg fa _ kx v6.T.g W7;refine HF kx v6.T.g v6.T.b v6.T.builtins v6.T.nolimit v6.T.bmain hg WI hints (aD hlen Ya) hr (λr hr=>?_) hF hb λH h1 h2=>Zk H a ns hlen h1 h2;obtain⟨h1,x',d',c,h2,h3⟩:=hT r hr;obtain⟨h4,h5⟩:=PySem.W.tab_of v6.T kx h2 h3;exact⟨h1,c,h4.tab h5⟩
end _G
namespace _G
open PySem PySem.Spec _L
variable{p:List Value->Prop}
theorem usC{n:Nat}(h:∀a us,0#9=n->p (a::us)):∀us:List Value,0#9=n+1->p us:=λus hl=>by
 cases us<;>simp_all
theorem us0(h:p []):∀us:List Value,0#9=0->p us
 |[],_=>h
theorem us1(h:∀a,p [a]):∀us:List Value,0#9=1->p us:=usC λa us hl=>fo hl▸h a
theorem us2(h:∀a b,p [a,b]):∀us:List Value,0#9=2->p us:=usC λa=>us1 (h a)
theorem us3(h:∀a b c,p [a,b,c]):∀us:List Value,0#9=3->p us:=usC λa=>us2 (h a)
theorem us4(h:∀a b c d,p [a,b,c,d]):∀us:List Value,0#9=4->p us:=usC λa=>us3 (h a)
theorem TOk.nm{M:Mo}{T:Tb}{k:Nat}(h:TOk M T k)(x:Str):TOk M ⟨T.D,T.C,[],T.H,false,T.Z.to x⟩ k:=⟨h.D,h.C,h.B,λ_ _ e=>(by cases e),λz=>(by cases z),h.Z⟩
def Bd(x:Str)(st:Stmt)(ps:List Str):Prop:= ∀(kV doc pm:Value) (an:Option Addr) (cdv ct:Value) (us:List Value),0#9=6#0->bindArgs 18#2 ⟨us,[]⟩=pure (ps.zip us)
structure Ch(P:Program)(w:World)(K:aj)(mg:Str->Option Value)(tabs:List (Addr×Str))(T:Tb)(k:Nat):Prop where
 o:∀(caps:List U) (capv:List V) (cds:List (Addr×Obj)) (base:Heap),eU mg base->TOk ⟨P,w,⟨K,caps,capv,cds,tabs⟩,mg,base,none⟩ T k
 h:∀(caps:List U) (capv:List V) (cds:List (Addr×Obj)) (base:Heap),eU mg base->∀y F,T.H.lookup y=some F->∃k' ps,k'<=k/\FnC ⟨P,w,⟨K,caps,capv,cds,tabs⟩,mg,base,none⟩ y k' ps F
 r:∀(caps:List U) (capv:List V) (cds:List (Addr×Obj)) (base:Heap),eU mg base->∀y vf,T.Z.F.lookup y=some vf->∃k' d,d<=3/\k'<=k/\FnR ⟨P,w,⟨K,caps,capv,cds,tabs⟩,mg,base,none⟩ T.Z.cl y k' d vf
theorem rG{M:Mo}{Fs:List (Str×VF)}{cl:Nat->Addr}{j k:Nat}(h:∀y vf,Fs.lookup y=some vf->∃k' d,d<=3/\k'<=j/\FnR M cl y k' d vf)(hj:j<=k):∀y vf,Fs.lookup y=some vf->∃k' d,d<=3/\k'<=k/\FnR M cl y k' d vf:=λy vf hy=>
 let ⟨k',d,hd,a,b⟩:=h y vf hy;⟨k',d,hd,aD a hj,b⟩
section
variable {P:Program}{w:World}{K:aj}{mg:Str->Option Value}{tabs:List (Addr×Str)}{T T':Tb}{k j:Nat}{h:Heap}{x:Str}{st:Stmt}{N ps:List Str}{ms:MS}{fu:Nat}
theorem Ch.dfn(c:Ch P w K mg tabs T k)(O:∀(caps:List U) (capv:List V) (cds:List 2#2) (base:Heap),eU mg base->TOk ⟨P,w,⟨K,caps,capv,cds,tabs⟩,mg,base,none⟩ T' k)(h1:T'.mkr=false)(X:K.In h)(Gn:h.Ns mainGlobals mg)(D:Def K x st)(S:aO N ps (ax st))(hb:Bd x st ps)
  (hc:cB T' fu N (ax st).names (br st)=some ms):Ch P w K mg tabs ⟨(x,run ps.length N.length ms)::T.D,T.C,T.L,T.H,T.mkr,T.Z⟩ (k+1):=
 ⟨λa b d e f=>(c.o a b d e f).cons (D.fn (O a b d e f) rfl h1 X Gn S hb hc) (dQ k),λa b d e f=>o4 (c.h a b d e f) (dQ k),λa b d e f=>rG (c.r a b d e f) (dQ k)⟩
theorem Ch.cls{y:Str}{msC:Addr->MF->MS}(c:Ch P w K mg tabs T k)(h1:T.mkr=false)(hL:T.L=[])(X:K.In h)(Gn:h.Ns mainGlobals mg)(D:Def K x st)(S:aO N ps (ax st))(hb:Bd x st ps)
  (hc:∀g φ,cB ⟨T.D,T.C,[(y,g,φ)],T.H,T.mkr,T.Z⟩ fu N (ax st).names (br st)=some (msC g φ)):Ch P w K mg tabs ⟨T.D,T.C,T.L,(x,λg φ=>run ps.length N.length (msC g φ))::T.H,T.mkr,T.Z⟩ k:=
 ⟨λa b d e f=>(c.o a b d e f).setH,λa b d e f=>Hq (c.h a b d e f) (D.fnC c.o h1 hL X Gn S hb hc) (aq k) (aq k),c.r⟩
theorem Ch.lam_{a p:Addr}{nm:Str}(c:Ch P w K mg tabs T k)(h1:T.mkr=false)(hL:T.L=[])(hm:(p,x++".<locals>."++nm)∈tabs)(nd:(tabs.map (·.1)).Nodup)(hg:mainGlobals≠p)(X:K.In h)(Gn:h.Ns mainGlobals mg)(D:jb K x st a p)(S:aO N ps (ax st))(hb:Bd x st ps)
  (hc:cB 15#1 fu N (ax st).names (br st)=some ms):Ch P w K mg tabs ⟨(x,run ps.length N.length ms)::T.D,T.C,T.L,T.H,T.mkr,T.Z⟩ (k+5):=
 ⟨λa b d e f=>(c.o a b d e f).cons (D.fn (M:=⟨P,w,⟨K,a,b,d,tabs⟩,mg,e,none⟩) rfl c.o (c.o a b d e f) hL h1 (o4 (c.h a b d e f) (dQ k)) (rG (c.r a b d e f) (dQ k)) (D.mkr (M:=⟨P,w,⟨K,a,b,d,tabs⟩,mg,e,none⟩) f X Gn hm nd hg) X Gn S hb hc) (ej k 5),λa b d e f=>o4 (c.h a b d e f) (ej k 5),λa b d e f=>rG (c.r a b d e f) (ej k 5)⟩
end
end _G
namespace _G
open PySem PySem.Spec _L
open PyProof.Rows hiding St
def xNo:MX:=λ_ _=>none
def ON(m:ME)(r:MX):MX:=λG S=>bnd (m G S) λ_ S1=>r G S1
def tZ(C:Nat):MX:=λ_ S=>some (C,S)
def xIf(c:MT)(a b:MX):MX:=λG S=>bnd (c G S) λk S1=>if k then a G S1 else b G S1
def nQ(a:MX)(m:MS)(b:MX):MX:=λG S=>match a G S with
 |some r=>some r
 | none=>match m G S with
   |some (.nx,Y3,S1)=>b Y3 S1
   |_=>none
def qW(k n:Nat)(r:MX):RF:=λus S=>if 0#9=k then r 15#2 S else none
structure Tx where
 R:List (Str×RF)
 Cl:List (Str×Nat)
def Mk:Const->Option Str
 |.str s=>some s
 |_=>none
def HU:Expr->Option Str
 |.Constant c _ _=>Mk c
 |_=>none
def Cw:Expr->Option Str
 |.Name y _=>some y
 |_=>none
def Lh:Expr->Option (Str×Int)
 |.FormattedValue e c o _=>if o.isNone then(Cw e).map λy=>(y,c) else none
 |_=>none
def NP(a b:Str):U->Bool
 |.int i=>decide (i.natAbs.log2<1920)&&decide (a.length<=1000)&&decide ((toString i:Str).length<=1000)&&decide (b.length<=1000)
 |_=>false
def QP(T:Tb)(ns:NS):List Expr->Option U
 |[x,y,z]=>(HU x).bind λa=>(Lh y).bind λq=>(HU z).bind λb=>(T.C.lookup q.1).bind λu=>if q.2 == -1&&dg ns q.1&&bq q.1&&NP a b u then some u else none
 |_=>none
def Bz(T:Tb)(ns:NS):Expr->Bool
 |.Constant c _ _=>(Mk c).isSome
 |.JoinedStr es _=>(QP T ns es).isSome
 |_=>false
def oneOf{α:Type}:List α->Option α
 |[a]=>some a
 |_=>none
structure Xc where
 e:Tb->Tx->List Str->NS->Expr->Option MX
 a:Tb->Tx->List Str->NS->List Expr->Option MX
 s:Tb->Tx->List Str->NS->Stmt->Option MX
 b:Tb->Tx->List Str->NS->List Stmt->Option MX
section
variable (f:Nat) (R:Xc) (T:Tb) (Z:Tx) (N:List Str) (ns:NS)
def xC(g:Str)(as:List Expr):Option MX:=match Z.R.lookup g with
 |some r=>(cA T f N ns as).map (xFn r)
 | none=>match T.D.lookup g with
   |some _=>if as.all notStar then R.a T Z N ns as else none
   |none=>none
def xE:Expr->Option MX
 |.Call g as ks _=>(Cw g).bind λx=>if ks.isEmpty&&(!as.isEmpty&&(dg ns x&&bq x)) then xC f R T Z N ns x as else none
 |.Subscript a b _=>if j2 b then R.e T Z N ns a else none
 |_=>none
def xA:List Expr->Option MX
 |[]=>none
 | e::r=>if notStar e then(match R.e T Z N ns e with
   |some re=>some re
   | none=>(cE T f N ns e).bind λme=>(R.a T Z N ns r).map (ON me)) else none
def xR:Expr->Option MX
 |.Call g as ks _=>(Cw g).bind λx=>(oneOf as).bind λa=>if ks.isEmpty&&dg ns x&&bq x&&notStar a&&Bz T ns a then(Z.Cl.lookup x).map tZ else none
 |_=>none
def xS:Stmt->Option MX
 |.Raise o c _=>if c.isNone then o.bind (xR T Z ns) else none
 |.If c a b _=>(cT T f N ns c).bind λmc=>(R.b T Z N ns a).map λra=>xIf mc ra ((R.b T Z N ns b).getD xNo)
 |.Expr e _=>if gM e then R.e T Z N ns e else none
 |.Return o _=>o.bind λe=>R.e T Z N ns e
 |.Assign ts e _=>(oneOf ts).bind λt=>(Cw t).bind λx=>if kq ns x&&gM e&&(slot N x).isSome then R.e T Z N ns e else none
 |_=>none
def xB:List Stmt->Option MX
 |[]=>none
 | s::r=>match R.s T Z N ns s with
   |some rs=>some (nQ rs ((cS T f N ns s).getD sNo) ((R.b T Z N ns r).getD xNo))
   |none=>(cS T f N ns s).bind λms=>(R.b T Z N ns r).map (nQ xNo ms)
end
def xc(f:Nat):Nat->Xc
 |0=>⟨λ_ _ _ _ _=>none,λ_ _ _ _ _=>none,λ_ _ _ _ _=>none,λ_ _ _ _ _=>none⟩
 |n+1=>⟨xE f (xc f n),xA f (xc f n),xS f (xc f n),xB f (xc f n)⟩
def HI:Data->Option ClassData
 |.cls cd=>some cd
 |_=>none
def exC(K:aj)(C:Addr)(oc:Value)(cd:ClassData)(sl:Array (Option Value)):Bool:=
 oc == .type "type"&&(sl == #[sl.getD 0 none,sl.getD 1 none,sl.getD 2 none,sl.getD 3 none,some (.builtin "ValueError.__new__"),sl.getD 5 none]&&(cd.mro == .ref C::cd.mro.tail&&(!cd.hasDel&&(PySem.W.tailIn K vE cd.mro.tail&&(PySem.W.nsOkIn K cd.ns&&aX K cd.ns "__init__" == some none)))))
def exB(K:aj)(C:Addr):Bool:=match K.lookup C with
 | some o=>(match HI o.data with
   |some cd=>exC K C o.cls cd o.slots
   | none=>false)
 |none=>false
structure XOk(M:Mo)(cl:Nat->Addr)(T:Tb)(Z:Tx)(k:Nat):Prop where
 g:GOk M T k
 R:∀x r,Z.R.lookup x=some r->∃k' ps,k'<=k/\FnX M cl x k' ps r
 C:∀x c,Z.Cl.lookup x=some c->M.mg x=some (.ref (cl c))/\exB M.K.K (cl c)=true
theorem LG{d:Data}{cd:ClassData}(h:HI d=some cd):d=.cls cd:=by
 cases d<;>first | (cases h;rfl) |cases h
theorem KS{K:aj}{h:Heap}{mg:Str->Option Value}{x:Str}{C:Addr}(X:K.In h)(e:mg x=some (.ref C))(q:exB K C=true):OwnCls x C vE "ValueError.__new__" mg h:=by
 refine⟨e,?_⟩;unfold exB at q;cases ho:K.lookup C with
 |none=>simp_all
 | some o=>
   rw[ho]at q;obtain⟨oc,dd,da,sl⟩:=o
   have qa:(match HI da with
    |some cd=>exC K C oc cd sl
    | none=>false)=true:=q
   clear q;cases hd:HI da with
   |none=>simp_all
   | some cd=>
     have q:=qa;clear qa;have VM:=LG hd;clear hd;subst VM;obtain⟨q0,q⟩:=eO.mp q;obtain⟨q1,q⟩:=eO.mp q;obtain⟨q3,q⟩:=eO.mp q;obtain⟨q4,q⟩:=eO.mp q;obtain⟨q5,q⟩:=eO.mp q;obtain⟨q6,q7⟩:=eO.mp q;obtain⟨nm,bs,mro,ns,qn,hd,sn,sub,ab,col,del⟩:=cd;have q3':mro=.ref C::mro.tail:=eq_of_beq q3;have q4':del=false:=by
      cases del with
      |false=>rfl
      |true=>cases q4
     rw[eq_of_beq q0,q3',q4',eq_of_beq q1]at ho;exact⟨_,ns,nm,qn,bs,hd,sn,_,ab,_,dd,_,_,_,_,_,_,X _ _ ho,.of_isNs (PySem.W.isNs_of_in X q6),PySem.W.nsMap_none_of_in X q6 (eq_of_beq q7),PySem.W.tail_of_in X q5⟩
section
variable {M:Mo}{cl:Nat->Addr}{T:Tb}{Z:Tx}{k n fu:Nat}{N:List Str}{ns:NS}{X:Cx}{E:XK}
variable{s:Str}
theorem A9{c:Const}(h:Mk c=some s):c=.str s:=by
 cases c<;>cases h;rfl
variable{e:Expr}
theorem AY(h:HU e=some s):∃k p,e=.Constant (.str s) k p:=by
 unfold HU at h
 split at h
 .exact⟨_,_,by rw[A9 h]⟩
 .cases h
theorem A7(h:Cw e=some s):∃p,e=.Name s p:=by
 unfold Cw at h
 split at h<;>simp_all
theorem G8{q:Str×Int}(h:Lh e=some q):∃p p',e=.FormattedValue (.Name q.1 p) q.2 none p':=by
 unfold Lh at h
 split at h
 .rename_i e c o p
  split at h
  .rename_i ho
   obtain⟨y,e1,rfl⟩:=map_eq h;obtain⟨p1,rfl⟩:=A7 e1;cases o with
   |none=>exact⟨p1,p,rfl⟩
   |some _=>cases ho
  .cases h
 .cases h
theorem FV{α:Type}{l:List α}{a:α}(h:oneOf l=some a):l=[a]:=by
 match l,h with
 |[_],h=>cases h;rfl
theorem KP(O:TOk M T k)(S:Sc M X.nox k N ns){a:Expr}(h:Bz T ns a=true):PE X a λσ H Q=>∀x,Q (.str x) H:=by
 unfold Bz at h
 split at h
 .obtain⟨s,e⟩:=cH.mp h
  rw[A9 e];exact PE.con EM λ_ _ _ q=>q _
 .rename_i es p
  obtain⟨u,h⟩:=cH.mp h
  match es,h with
  | [x,y,z],h=>
    obtain⟨a,e1,h⟩:=bind_eq (h);obtain⟨⟨n,c⟩,e2,h⟩:=bind_eq h;obtain⟨b,e3,h⟩:=bind_eq h;obtain⟨u',hi,h⟩:=bind_eq h
    split at h
    rotate_left
    .cases h
    rename_i hs
    simp only[ak]at hs;obtain⟨⟨⟨hc,hg⟩,hp⟩,hI⟩:=hs;obtain⟨k1,p1,rfl⟩:=AY e1;obtain⟨p2,p3,rfl⟩:=G8 e2;obtain⟨k3,p4,rfl⟩:=AY e3;obtain⟨i,rfl,hI⟩ :∃i,u'=.int i/\NP a b (.int i)=true:=by
     cases u' with
     |int i=>exact⟨i,rfl,hI⟩
     |_=>cases hI
    have h:(decide _&&decide _&&decide _&&decide _)=true:=hI;simp only[ak,decide_eq_true_eq]at h;obtain⟨⟨⟨h1,h2⟩,h3⟩,h4⟩:=h;obtain⟨g,v,hm,rv,hu⟩:=O.C _ _ hi;have hv:=dr (hu (λ_=>none) []);subst hv;obtain⟨t,rfl⟩ :∃t,g=.int i t:=rv;cases eq_of_beq hc;intro pins s σ H Q I q;have big:3000<=sizeLine:=by decide
    refine JoinedStr_many (joinParts_cons (rg ⟨?_,?_⟩))
    .rw[strLen_append]
     have:(xr).length=0:=rfl;omega
    refine joinParts_cons (FormattedValue_plain (iW (I.tok _) 3#8 (by have:=S.hm;exact(congrFun this _).trans hm) ?_ (bN hp).1));refine formatField_int_small h1 ⟨?_,?_⟩
    .rw[strLen_append,strLen_append]
     have:(xr).length=0:=rfl;omega
    refine joinParts_cons (rg ⟨?_,?_⟩)
    .rw[strLen_append,strLen_append,strLen_append]
     have:(xr).length=0:=rfl;omega
    refine joinParts_nil ⟨.str _,H,?_,⟨_,rfl⟩,q _⟩ ?_
    .exact I.tok _
    .rw[strLen_append,strLen_append,strLen_append]
     have:(xr).length=0:=rfl;omega
 .cases h
end
theorem Qb{T:Tb}{Z:Tx}{ns:NS}{e:Expr}{r:MX}(h:xR T Z ns e=some r):∃x a p1 p C,e=.Call 10#5 [a] [] p/\Z.Cl.lookup x=some C/\r=tZ C/\dg ns x=true/\bq x=true/\notStar a=true/\Bz T ns a=true:=by
 unfold xR at h
 split at h
 .rename_i g as ks p
  obtain⟨x,e1,hy⟩:=bind_eq h;obtain⟨a,e2,hz⟩:=bind_eq hy;obtain⟨p1,rfl⟩:=A7 e1;cases FV e2
  split at hz
  .rename_i hs
   simp at hs;obtain⟨C,e1,rfl⟩:=map_eq hz;have hk:=hs.1.1.1.1;cases ks with
   |nil=>exact⟨x,a,p1,p,C,rfl,e1,rfl,hs.1.1.1.2,hs.1.1.2,hs.1.2,hs.2⟩
   |cons _ _=>cases hk
  .cases hz
 .cases h
section
variable {M:Mo}{cl:Nat->Addr}{T:Tb}{Z:Tx}{k n fu:Nat}{N:List Str}{ns:NS}{X:Cx}{E:XK}
variable{a:Expr}
theorem x_raise{x:Str}{C:Nat}{p1 p2 pos:Pos}(L:Lv X E)(S:Sc M X.nox k N ns)(O:M.mg x=some (.ref (cl C))/\exB M.K.K (cl C)=true)(hg:dg ns x=true)(hp:bq x=true)(hs:notStar a=true)(ha:PE X a λσ H Q=>∀x,Q (.str x) H):
  PS X (.Raise (some (.Call 10#5 [a] [] p2)) none pos) (tXS cl M.K (tZ C) E):=by
 intro pins s σ H D I h;obtain⟨μ,S0,G,C',S',hr,er,q,aft⟩:=h;cases q;have hb:X.base=M.base:=S.hb;have hm:X.mg=M.mg:=S.hm;have hK:X.K=M.K.K:=S.hK;have O:=KS (K:=M.K.K) (h:=X.base) (by rw[<-hK];exact I.ok.mod.kin) O.1 O.2;obtain⟨tl,Nn,nm,q,bs,hdct,sn,sub,ab,col,dd,k0,k1,k2,k3,k5,mN,hC,hN,Q9,T'⟩:=O.obj;refine wpAny_Raise_call_subU (C:=cl C) (nm:=nm) (q:=q) (N:=Nn) (bs:=bs) (bm:=tl) (hdct:=hdct) (sn:=sn) (sub:=sub) (ab:=ab) (col:=col) (dd:=dd) (k0:=k0) (k1:=k1) (k2:=k2) (k3:=k3) (k5:=k5)
  xG (bmB:=vE) 1#0 xG (mN:=mN) (T'.hasType PySem.F.excBase_ValueError.hasBase) S.room.hd (nK _ _ (by rw[bx,hs];rfl)) Q9 (iW I 3#8 (by rw[hm];exact O.bound) ⟨rfl,?_⟩ (bN hp).1)
 rw[bW hs];refine jj ?_;refine dm (thn (ha pins s σ H (λv H1=>(∃x,v=.str x)/\H1=H) I λx=>⟨⟨x,rfl⟩,rfl⟩) λu s1 ⟨v,H1,I1,r1,_,e1⟩=>?_);subst e1;refine eM ⟨rfl,?_,I1.bk _ _ hC,hN.keeps I1.bk,T'.keeps I1.bk,λh' e hx=>?_⟩
 .show 1<=sizeLine
  rw[sizeLine_eq];decide
 .exact L.made I1 hx (aft μ H1 2#1 7#9 hr)
theorem LH{g:Str}{as:List Expr}{p pos:Pos}{mf:MF}{r:MX}{k':Nat}{ps:List Str}(S:Sc M X.nox k N ns)(F:Fn M g k' ps mf)(hk:k'<=k)(hg:dg ns g=true)(hp:bq g=true)(ha:PA X (a::as) (tXA cl M.K r E))(hs:(a::as).all notStar=true):
  PE X (.Call (.Name g p) (a::as) [] pos) (tXE cl M.K r E):=by
 obtain⟨f,fd,hm,Zo,hb,F⟩:=F.ex;have e1:=S.hP;have e2:=S.hw;have e3:=S.hK;have e4:=S.hm;have e5:=S.hb;rw[<-e1,<-e2,<-e3,<-e4,<-e5]at F;rw[<-e4]at hm;rw[<-e3]at Zo hb;rw[bx,ak]at hs;exact PE.con (w9 F 11#3 3#8 hm Zo hb .nil rS ha (bN hp).1 (bW hs.1 _ _) (nK _ _ hs.2)) λσ H Q h=>h
structure P6(M:Mo)(cl:Nat->Addr)(T:Tb)(Z:Tx)(k fu n:Nat):Prop where
 e:∀N ns e r,(xc fu n).e T Z N ns e=some r->∀X E,Lv X E->Sc M X.nox k N ns->PE X e (tXE cl M.K r E)
 a:∀N ns es r,(xc fu n).a T Z N ns es=some r->∀X E,Lv X E->Sc M X.nox k N ns->PA X es (tXA cl M.K r E)
 s:∀N ns st r,(xc fu n).s T Z N ns st=some r->∀X E,Lv X E->Sc M X.nox k N ns->PS X st (tXS cl M.K r E)
 b:∀N ns sts r,(xc fu n).b T Z N ns sts=some r->∀X E,Lv X E->Sc M X.nox k N ns->PSs X sts (tXS cl M.K r E)
theorem NZ{R:P6 M cl T Z k fu n}{sts:List Stmt}(h:∀r,(xc fu n).b T Z N ns sts=some r->PSs X sts (tXS cl M.K r E)):PSs X sts (tXS cl M.K (((xc fu n).b T Z N ns sts).getD xNo) E):=by
 cases q:(xc fu n).b T Z N ns _ with
 |some r=>exact h r q
 | none=>
   rintro pins s σ H D I ⟨μ,S0,G,C,S',hr,er,q,aft⟩;cases q
theorem Pk(O:XOk M cl T Z k):∀n,P6 M cl T Z k fu n
 |0=>⟨λ_ _ _ _ h=>dZ h,λ_ _ _ _ h=>dZ h,λ_ _ _ _ h=>dZ h,λ_ _ _ _ h=>dZ h⟩
 | n+1=>by
   have R:=Pk O n;have Sn:=snd fu M T k O.g;refine⟨λN ns e r h X E L S=>?_,λN ns es r h X E L S=>?_,λN ns st r h X E L S=>?_,λN ns sts r h X E L S=>?_⟩
   .replace h:xE fu (xc fu n) T Z N ns e=some r:=h
    cases e with
    | Call g as ks p=>
      obtain⟨x,hx,h2⟩:=bind_eq h;clear h;obtain⟨p1,rfl⟩:=A7 hx;have h:(if ks.isEmpty&&(!as.isEmpty&&(dg ns x&&bq x)) then xC fu (xc fu n) T Z N ns x as else none)=some r:=h2;clear h2
      split at h
      .rename_i hs
       rw[ak,ak,ak,List.isEmpty_iff]at hs;obtain⟨rfl,ha,hs⟩:=hs;cases as with
       |nil=>cases ha
       |cons a as=>
       unfold xC at h
       split at h
       .rename_i rr hr
        obtain⟨mas,e1,rfl⟩:=map_eq h;obtain⟨k',ps,hk,F⟩:=O.R _ _ hr;exact x_call L S F hk hs.1 hs.2 (Sn.a _ _ _ _ e1 _ S) (fN e1)
       .split at h
        .rename_i mf hd
         split at h
         .rename_i ZO
          obtain⟨k',ps,hk,F⟩:=O.g.1.D _ _ hd;exact LH S F hk hs.1 hs.2 (R.a _ _ _ _ h _ _ L S) ZO
         .cases h
        .cases h
      .cases h
    | Subscript a b p=>
      have h:(if j2 b then(xc fu n).e T Z N ns a else none)=some r:=h
      split at h
      .rename_i hs
       exact PE.con (JV (r:=λ_ _ _ _=>False) (by unfold IxR;intros;contradiction) (R.e _ _ _ _ h _ _ L S) PE.never (JB hs)) λ_ _ _ q=>q
      .cases h
    |_=>cases h
   .simp only[xc]at h
    unfold xA at h
    split at h
    .cases h
    .split at h
     .rename_i e es hs
      split at h
      .rename_i re he
       cases h;exact λpos pins s σ H Q I q=>jt (t:=λ_ _ _=>False) (R.e _ _ _ _ he _ _ L S) (λ_ _ _ _ _ _ _ h=>h.elim) (bW hs _ _) pos pins s σ H Q I q
      .obtain⟨me,e1,h⟩:=bind_eq h
       obtain⟨rr,e2,rfl⟩:=map_eq h;intro pos pins s σ H Q I q;refine jt (Sn.e _ _ _ _ e1 _ S).nox (R.a _ _ _ _ e2 _ _ L S) (bW hs _ _) pos pins s σ H Q I ?_;obtain⟨μ,S0,G,C,S',hr,er,q,aft⟩:=q;obtain⟨u,S1,e1,q⟩:=aL q;exact⟨μ,S0,G,u,S1,hr,er,e1,λY0 v H1 p1 k1 Z' _=>21#3⟩
     .cases h
   .replace h:xS fu (xc fu n) T Z N ns st=some r:=h
    cases st with
    | Raise o c p=>
      have h:(if c.isNone then o.bind (xR T Z ns) else none)=some r:=h
      split at h
      .rename_i hn
       obtain⟨e,rfl,hx⟩:=bind_eq h;clear h;cases c with
       |some _=>cases hn
       |none=>
       obtain⟨x,a,p1,p2,C,rfl,e1,rfl,h1,h2,h3,h4⟩:=Qb hx;exact x_raise L S (O.C _ _ e1) h1 h2 h3 (KP O.g.1 S h4)
      .cases h
    | If c a b p=>
      obtain⟨mc,e1,h⟩:=bind_eq h;obtain⟨ra,e2,rfl⟩:=map_eq h;refine PS.con (JQ (Sn.t _ _ _ _ e1 _ S).nox (R.b _ _ _ _ e2 _ _ L S) (NZ (R:=R) λr q=>R.b _ _ _ _ q _ _ L S)) λD σ H q=>?_;obtain⟨μ,S0,G,C,S',hr,er,q,aft⟩:=q;obtain⟨b,S1,e1,q⟩:=aL q;refine⟨μ,S0,G,b,S1,hr,er,e1,λY0 H1 p1 k1 Z'=>?_⟩;cases b with
      |true=>exact Qo 21#3
      |false=>exact Qy 21#3
    | Expr e p=>
      have h:(if gM e then(xc fu n).e T Z N ns e else none)=some r:=h
      split at h
      .rename_i hs
       exact PS.con (BI (R.e _ _ _ _ h _ _ L S) (oZ hs _ _ _)) λ_ _ _ q=>q
      .cases h
    | Return o p=>
      obtain⟨e,rfl,hx⟩:=bind_eq h;exact PS.con (FZ (R.e _ _ _ _ hx _ _ L S)) λ_ _ _ q=>q
    | Assign ts e p=>
      obtain⟨t,e1,hx⟩:=bind_eq h;clear h;obtain⟨x,e2,h⟩:=bind_eq hx;clear hx;cases FV e1;obtain⟨p1,rfl⟩:=A7 e2
      split at h
      .rename_i hs
       simp only[ak]at hs;obtain⟨i,hi⟩:=cH.mp hs.2;have hl:=S.lo hs.1.1;exact PS.con (zX (i:=i) (by have:=S.nd;have e:=S.hN;exact e▸this) (by have e:X.N=N:=S.hN;rw[e];exact slot_get hi) hl.1 (R.e _ _ _ _ h _ _ L S) (oZ hs.1.2 _ _ _) hl.2) λ_ _ _ q=>q
      .cases h
    |_=>cases h
   .simp only[xc]at h
    unfold xB at h
    split at h
    .cases h
    .rename_i st rest
     have two:∀(rs:MX) (ms:MS) (rr:MX),PS X st (tXS cl M.K rs E)->PS X st (tMS M.K ms)->PSs X rest (tXS cl M.K rr E)->PSs X (st::rest) (tXS cl M.K (nQ rs ms rr) E):=by
      rintro rs ms rr h1 h2 h3 pins s σ H D I ⟨μ,S0,G,C,S',hr,er,q,aft⟩;unfold nQ at q
      split at q
      .rename_i r e1
       cases q;exact(lM h1 (PSs.never (e:=rest))) pins s σ H D I ⟨μ,S0,G,C,S',hr,er,e1,aft⟩
      .split at q
       .rename_i Y3 S1 e2
        exact(lM h2 h3) pins s σ H D I ⟨μ,S0,G,_,hr,er,e2,λY0 Y6 H1 p1 k1 Z' ZK=>⟨Y0,S1,Y3,C,S',Z',ZK,q,aft.mono p1 k1⟩⟩
       .cases q
     split at h
     .rename_i rs e1
      cases h;refine two _ _ _ (R.s _ _ _ _ e1 _ _ L S) ?_ (NZ (R:=R) λr q=>R.b _ _ _ _ q _ _ L S);cases e2:cS T fu N ns st with
      |some ms=>exact(Sn.s _ _ _ _ e2 _ S).nox
      |none=>exact Na
     .obtain⟨ms,e1,h⟩:=bind_eq h
      obtain⟨rr,e2,rfl⟩:=map_eq h;refine two _ _ _ ?_ (Sn.s _ _ _ _ e1 _ S).nox (R.b _ _ _ _ e2 _ _ L S);rintro pins s σ H D I ⟨μ,S0,G,C,S',hr,er,q,aft⟩;cases q
end
section
variable {M:Mo}{cl:Nat->Addr}{T:Tb}{Z:Tx}{k:Nat}{h:Heap}{x:Str}{st:Stmt}{N ps:List Str}{r:MX}{fu n:Nat}
theorem Def.fnX(O:XOk M cl T Z k)(h0:M.mkr=none)(X:M.K.K.In h)(Gn:h.Ns mainGlobals M.mg)(D:Def M.K x st)(S:aO N ps (ax st))
  (hb:Bd x st ps) (hc:(xc fu n).b T Z N (ax st).names (br st)=some r):FnX M cl x (k+1) ps (qW ps.length N.length r):=by
 obtain⟨f,fd,a,F⟩:=D.ex;refine⟨f,fd,ck X Gn a,F.2,F.binds hb,?_⟩;obtain⟨oc,od,kV,doc,pm,an,cdv,ct,osl,rfl,lk,ZF⟩:=F.ex;have len:∀vs H Q E,spX cl M.K (qW _ N.length r) vs H Q E->2#6=6#0:=λvs H Q E h=>by
  obtain⟨μ,S',us,u,ZD,hr,rs,e,_⟩:=h;unfold qW at e
  split at e
  .rw[<-rs.len];omega
  .cases e
 refine _L.uZ lk ZF S len λA outer s H vs Q E hr h=>⟨_,(Pk O n).b _ _ _ _ hc _ E ⟨rfl,rfl,rfl,rfl⟩ (Sc.def (E:=E) S hr λc q h=>by grind),?_⟩;obtain⟨μ,S1,us,C,S2,hR,rs,e,ka⟩:=h;unfold qW at e
 split at e
 .rename_i hl
  have er:=kg (N:=N) rs;rw[hl]at er;exact⟨μ,S1,_,C,S2,hR,er,e,ka⟩
 .cases e
end
end _G
namespace _G
open PySem PySem.Spec PySem.W _L
open PyProof.Rows hiding St
section
variable {prog:Program}{w:World}{A:Around}{E:Value->Shared->Prop}{K:Frag}{h:Heap}{g:Array GenState}{d:Drawn}{t:Nat}{os:OsState}{e C:Addr}{oe:Obj}
theorem Mt{tp:Value}{R:Result->Shared->Prop}(X:K.In h)(he:h.get? e=some oe)(hc:oe.cls=.ref C)(hm:mroIn K C (.type "object")=some true)(q:R (.ok (.ret (.ref C))) ⟨h,g,d,t,os⟩) :
  jY 2#0 A (.call (.builtin "getset_descriptor.__get__") ⟨[.builtin "object.__class__",.ref e,tp],[]⟩) R ⟨h,g,d,t,os⟩:=by
 have L1:=looks_mroIn (M:=model prog w) X hm;have ow:=PySem.F.owner_object_class;have T5:(⟨h,g,d,t,os⟩:Shared).TypeIs 15#5 "getset_descriptor":=jr;refine ug PySem.F.slot_gs_get.plain PySem.F.entry_gs_get (PySem.F.slot_gs_get.check _ _ _ _ _ _ _ _ T5 (PySem.F.args_gs_get _ _ _) ?_)
 repeat (any_goals (first |assumption | (with_reducible refine jk he ?_;rw[hc]) | (rw[ow];with_reducible refine L1.at ?_) |with_reducible refine L1.at ?_ |wp_step))
 refine⟨Code.quiet_builtin _ 1#0,de PySem.F.entry_object_class ?_⟩
 repeat (any_goals (first |assumption | (with_reducible refine jk he ?_;rw[hc]) |wp_step))
theorem DH{tk:Tok}{Q:Fin->Shared->Prop}(X:K.In h)(he:h.get? e=some oe)(hc:oe.cls=.ref C)(hm:mroIn K C (.type "object")=some true)(hf:findIn K (.ref C) "__class__"=some (some 15#5))(q:Q (.done (.ret (.ref C))) ⟨h,g,d,t,os⟩) :
  aC 2#0 A (Builtin.«object.__getattribute__» ⟨[.ref e,.str "__class__" tk],[]⟩) Q E ⟨h,g,d,t,os⟩:=by
 have L1:=looks_findIn (M:=model prog w) X hf;have f5:(⟨h,g,d,t,os⟩:Shared).TypeIs 15#5 "getset_descriptor":=jr;have f4:=jr;have f6:=PySem.F.slot_gs_get.lookup;have f7:=PySem.F.slot_gs_set.lookup
 repeat (any_goals (first |assumption | (with_reducible refine jk he ?_;rw[hc]) |with_reducible refine L1.at ?_ |wp_step))
 refine Mt X he hc hm ?_
 repeat (any_goals (first |assumption |wp_step))
theorem Ey{Xa:Value}{M:Model}{Q:Unit->Shared->Prop}(X:K.In h)(he:h.get? e=some oe)(hc:oe.cls=.ref C)(hb:mroIn K C (.type "BaseException")=some true)(q:Q () ⟨h,g,d,t,os⟩) :
  aC M A (checkBuiltinCall "BaseException.__getattribute__" ⟨[.ref e,Xa],[]⟩) Q E ⟨h,g,d,t,os⟩:=by
 have L1:=looks_mroIn (M:=M) X hb;have k1:builtinKind "BaseException.__getattribute__"=some .slot:=by decide +kernel
 have k2:splitId "BaseException.__getattribute__"=some ("BaseException","__getattribute__"):=by decide +kernel
 have ha:=PySem.F.args_bexc_ga (.ref e) Xa;simp only[checkBuiltinCall,k1,k2];refine af ?_;unfold isInstance
 repeat (first | (with_reducible refine jk he ?_;rw[hc]) |with_reducible refine L1.at ?_ |wp_step)
 exact q
theorem PD{tk:Tok}{Q:Value->Shared->Prop}(X:K.In h)(he:h.get? e=some oe)(hc:oe.cls=.ref C)(hm:mroIn K C (.type "object")=some true)(hb:mroIn K C (.type "BaseException")=some true)(hf:findIn K (.ref C) "__class__"=some (some 15#5))
  (hg:findIn K (.ref C) "__getattribute__"=some 21#9) (ha:findIn K (.ref C) "__getattr__"=some none) (q:Q (.ref C) ⟨h,g,d,t,os⟩) :
  aC 2#0 A (getAttrBy (.ref e) (.str "__class__" tk) false) Q E ⟨h,g,d,t,os⟩:=by
 have L1:=looks_findIn (M:=model prog w) X hg;have L2:=looks_findIn (M:=model prog w) X ha;have f3:=PySem.F.excAttr_ValueError.ga.bind (.ref e);have x2:(qQ "BaseException.__getattribute__" == qQ "object.__getattribute__")=false:=by decide +kernel
 have x1:(onTheHeap (bY C)&&qQ "BaseException.__getattribute__" == qQ "object.__getattribute__")=false:=by rw [x2];rfl
 repeat (any_goals (first |assumption | (with_reducible refine jk he ?_;rw[hc]) |with_reducible refine L1.at ?_ |with_reducible refine L2.at ?_ |wp_step))
 refine ug PySem.F.excAttr_ValueError.ga.plain PySem.F.entry_bexc_ga (Ey X he hc hb (DH X he hc hm hf ?_))
 repeat (any_goals (first |assumption |wp_step))
theorem Ho{Q:Option Value->Shared->Prop}(X:K.In h)(he:h.get? e=some oe)(hc:oe.cls=.ref C)(hm:mroIn K C (.type "object")=some true)(hb:mroIn K C (.type "BaseException")=some true)(hf:findIn K (.ref C) "__class__"=some (some 15#5))
  (hg:findIn K (.ref C) "__getattribute__"=some 21#9) (ha:findIn K (.ref C) "__getattr__"=some none) (q:Q (some (.ref C)) ⟨h,g,d,t+1,os⟩) :
  aC 2#0 A (getAttr? (.ref e) "__class__") Q E ⟨h,g,d,t,os⟩:=by
 unfold getAttr? getAttrBy?
 repeat (any_goals (first |assumption |with_reducible apply PD X he hc hm hb hf hg ha |wp_step))
def Ek(K:Frag)(C:Addr):Bool:=(clsIn K C).isSome&&mroIn K C (.type "object")==some true&&mroIn K C (.type "BaseException")==some true&&findIn K (.ref C) "__class__" == some (some 15#5) &&
 findIn K (.ref C) "__getattribute__" == some 21#9&&findIn K (.ref C) "__getattr__" == some none
theorem F5(hB:Ek K C=true):KitX K (.ref e) (.ref C) (λh=>∃oe,h.get? e=some oe/\oe.cls=.ref C):=by
 unfold Ek at hB;simp only[ak,beq_iff_eq]at hB;obtain⟨⟨⟨⟨⟨h0,h1⟩,h2⟩,h3⟩,h4⟩,h5⟩:=hB;obtain⟨cd,ZF⟩:=cH.mp h0;unfold clsIn at ZF
 split at ZF
 rotate_left
 .cases ZF
 rename_i c' d' cd' XD ho
 refine⟨λM h X p=>?_,λM h X p=>?_,λh tp dd ZZ n sl X Q8=>?_,λ{prog w A E Q s} X p k=>?_⟩
 .obtain⟨oe,e1,e2⟩:=p
  exact e2▸(Looks.ld e1).andThen .now
 .intro A' Q' E' s' k q
  unfold isType loadHead;exact af (wpAny_loadPart (k _ _ (X _ _ ho)) (ar q))
 .refine Bool.eq_false_iff.mpr λq=>?_
  have z:C=tp:=Value.ref.inj (beq_iff_eq.mp q);subst z;have:=(X _ _ ho).symm.trans Q8;cases this
 .obtain⟨oe,e1,e2⟩:=p
  obtain⟨h,g,d,t,os⟩:=s;exact Ho X e1 e2 h1 h2 h3 h4 h5 k
end
end _G
namespace _G
open PySem PySem.Spec _L
open PySem.W (envX kla_fn kla_obj CodeHd tabObj)
open PyProof.Rows hiding St
section
variable {X:Cx}{pins:List (Addr×Obj)}{σ:St}{H H':Hp}{s s':Shared}
theorem FT{M:Model}{A:Around}{E:Value->Shared->Prop}{j:Nat}{n:Str}{pos:Pos}{Q:Unit->Shared->Prop}(I:Inv X pins σ H s)(hN:X.N.Nodup)(hj:X.N[j]?=some n)(hn:X.env.scope.names.lookup n=some .local)
  (h:∀s',Inv X pins (σ.set j none) H s'->Q () s'):aC M A (do bindName X.env n .none;unbindBehindTheSuite X.env n pos) Q E s:=by
 obtain⟨m,hm,hl⟩:=id I.loc;have XX:(X.env.scope.kind==.class||(X.env.scope.kind==.module&&6#5 != X.env.globals))=false:=by rw[I.ok.kind];rfl
 refine wpAny_nameGoes_keeps hn hm XX λh' v V1 hs=>h _ ?_;have below:∀b o,X.s₀.heap.get? b=some o->b≠6#5:=λb o e=>aG (ao (ay e) I.ok.above);refine⟨I.ok,I.os,I.bare,⟨λb o e n hb hx=>(hs.2 b (below b o e)).trans (I.base.keep b o e n hb hx),λb o e n hb hx=>?_,I.base.free,λb o e hx=>?_,I.base.tups,I.base.frzs,I.base.tbls⟩,⟨_,V1,λi y w e1 e2 e3=>?_⟩,λy c e=>?_,I.free,I.freeC,λp hp=>?_,λb ob e=>?_,by simpa using I.len⟩
 .obtain⟨sl,e1⟩:=I.base.slot b o e n hb hx
  exact⟨sl,(hs.2 b (below b o e)).trans e1⟩
 .obtain⟨o',e1⟩:=I.base.there b o e hx
  exact⟨o',(hs.2 b (below b o e)).trans e1⟩
 .by_cases hi:i=j
  .rw[List.getElem?_set]at e2<;>simp_all
  .rw[aE (cX hi)]at e2
   obtain⟨u',r',q⟩:=hl i y w e1 e2 e3;refine⟨u',r',?_⟩;rcases q with⟨k,e⟩|⟨k,c,e,z⟩
   .refine .inl ⟨k,?_⟩
    have YQ:y≠n:=λe=>hi (sv hN e1 (e▸hj))<;>simp_all
   .exact .inr ⟨k,c,e,z.sameBut hs (I.cne y c e)⟩
 .obtain⟨w',z⟩:=I.cell y c e
  exact⟨w',z.sameBut hs (I.cne y c e)⟩
 .obtain⟨e,n,ne,nf,d⟩:=I.pin p hp
  exact⟨(hs.2 _ ne).trans e,n,ne,nf,d⟩
 .refine(I.hok b ob e).stay (λc w' hc q=>(hs.2 c ?_).trans q) (λ_ q=>q) λ_ _ q=>q
  rintro rfl;rcases hc with rfl|hc
  .rw[I.free]at e;cases e
  .rw[I.free]at hc;cases hc
abbrev Cx.mkd(X:Cx)(e:Value):Cx:={ X with A:=X.A.mark (some e),calm:=false,xe:=λ_ _=>False }
variable{e:Value}
theorem Inv.mkd(I:Inv X pins σ H s):Inv (Cx.mkd X e) pins σ H s:=
 ⟨⟨I.ok.mod,I.ok.kind,I.ok.glob,I.ok.blt,I.ok.above,I.ok.inj,I.ok.has,I.ok.cab,10#0,I.ok.frames,I.ok.stk,I.ok.exf,I.ok.bs,I.ok.bsz,I.ok.noex,I.ok.exfs,I.ok.funs,I.ok.frf⟩,I.os,I.bare,I.base,I.loc,I.cell,I.free,I.freeC,I.pin,I.hok,I.len⟩
theorem Inv.unmkd(I:Inv (Cx.mkd X e) pins σ H s)(hd:X.calm=true->X.A.handled=none):Inv X pins σ H s:=
 ⟨⟨I.ok.mod,I.ok.kind,I.ok.glob,I.ok.blt,I.ok.above,I.ok.inj,I.ok.has,I.ok.cab,hd,I.ok.frames,I.ok.stk,I.ok.exf,I.ok.bs,I.ok.bsz,I.ok.noex,I.ok.exfs,I.ok.funs,I.ok.frf⟩,I.os,I.bare,I.base,I.loc,I.cell,I.free,I.freeC,I.pin,I.hok,I.len⟩
theorem HOk.frz{P:Program}{w:World}{h:Heap}{a:Addr}{o:Obj}(x:HOk P w H h)(n:H a=none)(e:h.get? a=some o):HOk P w (upd H a (.frz o fz)) h:=λb u q=>by
 by_cases hb:b=a
 .subst hb
  rw[bS]at q;cases q;exact⟨e,trivial,⟨_,e⟩,λ_ _ _ _=>trivial⟩
 .rw[aP hb]at q
  exact(x b u q).stay (λ_ _ _ z=>z) (λc z=>by rw[aP (aQ z n)];omega) λc xs z=>by rw[aP (aQ z n)];omega
theorem Un.frz{fs:List Addr}{h h':Heap}{a:Addr}{o:Obj}(u:Un fs [] H H' h h')(hn:h.get? a=none)(n:H' a=none):Un fs [] H (upd H' a (.frz o fz)) h h' where
 keep:=u.keep
 slot:=u.slot
 free:=λb o q m hx=>by rw[aP (λz=>by grind)];exact u.free b o q m hx
 there:=u.there
 tups:=λb xs q=>by have:=u.tups b xs q;rw[aP (aQ this n)];omega
 frzs:=λb ob xs q=>by have:=u.frzs b ob xs q;rw[aP (aQ this n)];omega
 tbls:=λb ps q=>by obtain⟨m,e⟩:=u.tbls b ps q;exact⟨m,by rw[aP (aQ e n)];omega⟩
end
end _G
namespace _G
open PySem PySem.Spec _L
open PyProof.Rows hiding St
section
variable {X:Cx}{pins:List (Addr×Obj)}{σ:St}{H H':Hp}{s s':Shared}
theorem HR.frz{K:KX}{μ:List Addr}{S:Sto}{a:Addr}{o:Obj}(h:HR K μ S H)(n:H a=none):aU H (upd H a (.frz o fz))/\HR K μ S (upd H a (.frz o fz)):=by
 have kp:aU H (upd H a (.frz o fz)):=aU.new n;refine⟨kp,h.len,h.inj,λm c x q1 q2=>(h.cell m c x q1 q2).mono kp 2#1 (λhc=>?_) λo' u e=>by rw[aP (aQ e n)];omega,h.ext.upd kp 2#1 λo' q=>by grind⟩;obtain⟨ob,e,_⟩:=(h.cell m c x q1 q2).has hc;exact aP (aQ e n)
theorem Bb{E:Value->Shared->Prop}{Q:Value->Shared->Prop}{i:Nat}{x:Str}{g:Addr}{fd:FuncData}{p1 pos:Pos}(I:Inv X pins σ H s)(hN:X.N[i]?=some x)(hv:Vis X.env.scope x)(hp:bq x=true)(Y':σ[i]?=some (some (.ref g)))
  (hf:(∃(oc:Value) (od:Option Addr) (sl:Array (Option Value)),X.base.get? g=some ⟨oc,od,.func fd,sl⟩)\/cy X.K (.ref g)=true)
  (h:∀s1,Inv X pins σ H s1->aC 1#2 X.A (call (.ref g) []) Q E s1):aC 1#2 X.A (eval (.Call 10#5 [] [] pos) X.env) Q E s:=by
 obtain⟨n1,n2⟩:=bN hp;refine cJ (thn (rO (X:=X.wish E) hN hv n1 n2 _ s σ H (λv H1=>v=.ref g/\H1=H) (I.wish E) ⟨_,Y',rfl,rfl⟩) λw s1 ⟨v,H1,I1,r1,e1,e2⟩=>?_);subst e1;subst e2;obtain rfl:w=bY g:=r1;have I1:=I1.unwish;rcases hf with⟨oc,od,sl,hf⟩ |hf
 .exact Do rfl (λh q=>⟨_,.inl rfl,(pk q).andThen .now⟩) (evalArgs_nil3 ⟨I1.bk g _ hf,h s1 I1⟩)
 .exact Dl I1.kIn hf (h s1 I1)
end
def QQ(cl:Nat->Addr)(K:KX)(i j l:Nat)(g:Addr)(φ:MF)(ψ:RF):TS:=λD σ H=>∃μ S G,HR K μ S H/\ER H μ G σ/\G[i]?=some (some (.obj g))/\G[j]?=some none /\
 ((∃u S1,φ [] S=some (u,S1) /\ ∀Y2 Y1 H',Pre μ Y2->aU H H'->HR K Y2 S1 H'->ER H' Y2 G Y1->D.nx Y1 H') \/
  ∃q S1,ψ [] S=some (q,S1) /\ ∀e oe Y2 Y1 H',Pre μ Y2->aU H H'->HR K Y2 S1 H'->ER H' Y2 (G.set l (some (.obj e))) Y1->H' e=some (.frz oe fz)->oe.cls = .ref (cl q)->D.nx Y1 H')
section
variable {M:Mo}{X:Cx}{k:Nat}{N:List Str}{ns:List (Str×NameKind)}{x n y W:Str}{p1 p2 p3 p4 p5 p6 p7 p8 p9:Pos}
theorem L7{cl:Nat->Addr}{φ:MF}{ψ:RF}{g w:Addr}{k' i j l:Nat}(S:Sc M X k N ns)(stk:4#7=X.env::X.outer)(fr:X.env.frame=some 6#5)(F:Lam M g k' [] φ)(F':pE M cl g k' [] ψ)(hk:k'<=k)
  (hi:N[i]?=some x) (hx:kz ns x=true) (hp:bq x=true) (hj:N[j]?=some n) (hn:ns.lookup n=some .local) (SN:bq n=true) (hl:N[l]?=some y) (hy:kq ns y=true) (UW:j≠l) (hW:dg ns W=true) (R5:bq W=true) (hw:M.mg W=some (.ref w))
  (hm:∀S q S1,ψ [] S=some (q,S1)->xH M.K (.ref (cl q)) (.ref w)=some true):
  PS X (.Try [.Expr (.Call 10#5 [] [] p2) p3] [.ExceptHandler (some (.Name W p4)) (some n) [.Assign [.Name y p5] (.Name n p6) p7] p8] [] [] p9) (QQ cl M.K i j l g φ ψ):=by
 intro pins s σ H D I h;obtain⟨μ,S0,G,hr,er,X3,X7,h⟩:=h;obtain⟨v,Y',rv⟩:=er.get i _ X3;have WH:=by simpa only [RU]using rv
 subst WH;have RR:X.N[i]?=some x:=by rw[S.hN];exact hi
 refine wpAny_Try_except (AO (wpAny_Expr_any ?_ I.quiet rfl));rcases h with⟨u,S1,Vp,kk⟩|⟨q,S1,V7,kk⟩
 .obtain⟨fd,hf,hb,F⟩:=F.ex
  rw[<-S.hP,<-S.hw,<-S.hK,<-S.hm,<-S.hb]at F;rw[<-S.hb,<-S.hK]at hf;rw[<-S.hK]at hb;refine Bb I RR (S.vis hx) hp Y' hf λs1 I1=>?_;refine thn (bG (nG (X:=X.nox) F 11#3 hb .nil rS (I1.wish _) .nil (⟨μ,S0,[],u,S1,hr,.nil,Vp,λY2 v H' p k Zw _=>kk Y2 σ H' p k Zw (er.mono k p)⟩)) (λ_ _ z=>z) λ_ _ z=>z.elim) λu s2 ⟨v,H2,I2,r2,q2⟩=>?_;exact iI (iI ⟨σ,H2,I2.unwish,q2⟩)
 .obtain⟨fd,hf,hb,F'⟩:=F'.ex
  rw[<-S.hP,<-S.hw,<-S.hK,<-S.hm,<-S.hb]at F';rw[<-S.hb,<-S.hK]at hf;rw[<-S.hK]at hb;have hM:=hm _ _ _ V7;refine Bb I RR (S.vis hx) hp Y' hf λs1 I1=>?_;have Zk:spX cl _ ψ [] H (λ_ _=>False) (λc _ H'=>c=.ref _ /\ ∃Y2,Pre μ Y2/\aU H H'/\HR _ Y2 S1 H'):=⟨μ,S0,[],q,S1,hr,.nil,V7,λY2 H' p k Zw=>⟨rfl,_,p,k,Zw⟩⟩;refine xu (ff (F'.run _ _ s1 H _ [] [] _ _ 11#3 I1.env0 (hb s1 [] I1.kIn (by simpa using this)) .nil Zk) λr s2 hq=>?_);cases r with
  | ok fl=>
    cases fl with
    |ret u=>obtain⟨_,_,_,_,_,_,_,z⟩:=hq;exact z.elim
    |next=>exact bH hq
    |brk=>exact bH hq
    |cont=>exact bH hq
  | error ev=>
    obtain⟨e,T,cls,H',rfl,os,hg,un,hok,t,he,hT,ne,nT,rfl,Y2,pr,kp,Zw⟩:=hq;have I2:=I1.call' os un hok hg λb z=>nomatch z
    have fS:X.A.frames=some (X.env::X.outer):=by rw[I.ok.frames,stk]
    obtain⟨a0,fl⟩:=flying I2 t;rw[show nz _ _ e _ a0 _=nz _ (X.env::X.outer) e _ a0 _ by rw[<-stk]]at fl;refine wpAny_looks_onW fS fr fl λh3 Q6 sl3=>wpAny_landsW Q6 λh4 U6 sl4=>?_;have VL:=sl3.trans sl4;have RM:=xh I2 U6.1 VL;have I4:=I1.call' (s':={ s2 with heap:=h4 }) os (RM.un un he hT) (RM.hok hok I2.stkFree ne nT) hg λb z=>nomatch z
    refine wpAny_handleBy_cons (codeAny_handlers_test (iW (Inv.mkd I4) (S.gl hW) (by rw[S.hm];exact hw) ?_ (bN R5).1)) (by intro z;cases z);obtain⟨ob,hob,UM⟩:=U6.there;have kin:=by have:=I4.kIn;rw[S.hK]at this;exact this
    refine(PySem.W.exm_one kin (UM▸(pk hob).andThen .now) hM).here ?_;refine codeAny_handlers_suite_as (lands_againW U6 λh6 Te sl6=>?_);have UN:=VL.trans sl6;have Ri:=xh I2 Te.1 UN;obtain⟨oe,e1,e2⟩:=Te.there;have I6:=I1.call' (s':={ s2 with heap:=h6 }) os (Un.frz (Ri.un un he hT) he ne) (HOk.frz (Ri.hok hok I2.stkFree ne nT) ne e1) hg λb z=>nomatch z
    obtain⟨RE,hr6⟩:=HR.frz Zw ne;have ndN:X.N.Nodup:=by rw[S.hN];exact S.nd
    have V5:X.N[j]?=some n:=by rw[S.hN];exact hj
    have SR:X.N[l]?=some y:=by rw[S.hN];exact hl
    have W1:=S.loc n hn;refine i9 I6 ndN V5 (.inl W1) (v:= .ref e) rfl (λs7 I7=>?_) (.inr W1);have U8:j<σ.length:=by rw[I.len];exact(ah.mp V5).1
    have ps:=wF (zX (X:=Cx.mkd X (.ref e)) (pos:=p7) (pos':=p5) ndN SR (S.lo hy).1 (rO (pos:=p6) V5 (.inl W1) (bN SN).1 (bN SN).2) rfl (S.lo hy).2);refine bG (ps _ s7 _ _ { nx:=λY1 Xl=>Y1=(σ.set j _).set l _/\Xl=upd H' e _,rt:=λ_ _=>False } (Inv.mkd I7) ⟨_,aJ U8,rfl,rfl⟩) (λf s8 hs=>?_) λ_ _ z=>z.elim;cases f with
    |ret u=>obtain⟨_,_,_,_,_,z⟩:=hs;exact z.elim
    |brk=>obtain⟨_,_,_,z⟩:=hs;exact z.elim
    |cont=>obtain⟨_,_,_,z⟩:=hs;exact z.elim
    | next=>
      obtain⟨Y1,Xl,I8,rfl,rfl⟩:=hs;have I8':=Inv.unmkd I8 I.ok.hd;refine FT I8' ndN V5 W1 λs9 I9=>⟨_,_,I9,?_⟩;refine kk e oe _ _ _ pr (kp.trans RE) hr6 ⟨by simp[er.len],λm u hu=>?_⟩ bS e2;have er6:=er.mono (kp.trans RE) pr;have RC:l<σ.length:=by rw[I.len];exact(ah.mp SR).1
      by_cases XS:m=l
      .subst XS
       rw[aJ (by rw[er.len];exact RC)]at hu;cases hu;refine⟨.ref e,?_,by simp[RU]⟩;rw[aE UW,aJ (by simpa using RC)]
      .rw[aE (cX XS)]at hu
       have Vi:m≠j:=λz=>by rw[z,X7]at hu;cases hu
       obtain⟨v,h1,h2⟩:=er6.get m u hu;refine⟨v,?_,h2⟩;rw[aE (cX Vi),aE (cX XS),aE (cX Vi)];exact h1
end
def cn:List Str := ["TooMany","NotLevel","NoLift","NotPlain","NoName","BadNote","NoTwist"]
structure uX(K:aj)(mg:Str->Option Value)(cl:Nat->Addr)(w:Addr)(rz:List Nat):Prop where
 c:∀j t,cn[j]?=some t->mg t=some (.ref (cl j))
 W:mg "WalkError"=some (.ref w)
 V:mg "ValueError"=none
 n :∀ j,j<7->cg K (.type "NoneType") (.ref (cl j))=some false
 nV:cg K (.type "NoneType") (.type "ValueError")=some false
 lt:∀q∈rz,q<7
 x:∀q∈rz,Ek K (cl q)=true
 m:∀q∈rz,xH K (.ref (cl q)) (.ref w)=some true
 k:∀q∈rz,∀j,j<7->cg K (.ref (cl q)) (.ref (cl j))=some (decide (q=j))
 kV :∀ q∈rz,cg K (.ref (cl q)) (.type "ValueError")=some true
def mIs(u:U)(b:Bool):ME:=λG S=>open Classical in if G[1]?=some (some u) then some (.bl b,S) else none
def PP(L a b c:Nat):Pos:=⟨L+a,b,L+a,c⟩
def isi(L a b:Nat)(t:Str)(n:Nat):Expr := .Call (.Name "isinstance" (PP L a b (b+10))) [.Name "error" (PP L a (b+11) (b+16)),.Name t (PP L a (b+18) (b+18+n))] [] (PP L a b (b+19+n))
def Aj(K:KX)(u:U)(t:Value):Prop:=(u=.non/\t=.type "NoneType") \/ ∃ e oe C,u=.obj e/\t=.ref C/\(e,oe)∈K.cds/\oe.cls=.ref C/\Ek K.K C=true
section
variable {M:Mo}{X:Cx}{k:Nat}{N:List Str}{ns:List (Str×NameKind)}
variable{b:Bool}
theorem Kq{pins:List (Addr×Obj)}{σ:St}{H:Hp}{s:Shared}{E:Value->Shared->Prop}{u:U}{t c:Value}{v:V}{x:Value}{Q:VK}{μ:List Addr}{S:Sto}(I:Inv X pins σ H s)(hK:X.K=M.K.K)(hr:HR M.K μ S H)(ok:Aj M.K u t)(ru:RU H μ u v)(rv:RelV v x)(e:cg M.K t c=some b)(q:Q (.bl b) H):
  aC 1#2 X.A (call (.builtin "isinstance") [x,c]) 8#4 E s:=by
 have kin:M.K.K.In s.heap:=by rw[<-hK];exact I.kIn
 rcases ok with⟨rfl,rfl⟩|⟨ea,oe,C,rfl,rfl,hm,hc,hB⟩
 .have hv:=by simpa only [RU]using ru
  subst hv;obtain rfl:x=ei:=rv;exact cx GC kin trivial e (by grind) λtk=>⟨.bl b,H,I.tok tk,rfl,q⟩
 .have hv:=by simpa only [RU]using ru
  subst hv;obtain rfl:x=bY ea:=rv;exact cx (F5 hB) kin ⟨oe,(I.hok ea _ (hr.ext.cds _ hm)).1,hc⟩ e (by grind) λtk=>⟨.bl b,H,I.tok tk,rfl,q⟩
theorem JO{u:U}{t c:Value}{L a bb n:Nat}{y:Str}(S:Sc M X k N ns)(ok:Aj M.K u t)(h1:N[1]?=some ("error":Str))(hv:kz ns "error"=true)(hg:dg ns "isinstance"=true)(hm:M.mg "isinstance"=none)(hy:dg ns y=true)(hp:bq y=true)
  (hc:M.mg y=some c\/(M.mg y=none/\bootBuiltins y=some c/\y≠"__name__")) (e:cg M.K t c=some b):PE X (isi L a bb y n) (tM M.K (mIs u b)):=by
 rintro pins s σ H Q I ⟨μ,S0,G,w,S',hr,er,q,aft⟩;unfold mIs at q
 split at q
 rotate_left
 .cases q
 rename_i X3
 cases q;obtain⟨v,Y',ru⟩:=er.get 1 _ X3;have h1N:X.N[1]?=some ("error":Str):=by rw [S.hN];omega
 refine cJ (gG I 3#8 5#3 boot_isinstance ?_ 0#1 0#1);refine callWith_builtin1 ?_ rfl rfl;refine dm (thn (rO h1N (S.vis hv) 1#0 1#0 _ s σ H (λv' H1=>v'=v/\H1=H) I ⟨_,Y',rfl,rfl⟩) λx s1 ⟨v',H1,I1,r1,e1,e2⟩=>?_);subst e1;subst e2;have fin:aC _ _ _ _ X.xe s1:=Kq I1 S.hK hr ok ru r1 e (aft μ _ H1 2#1 7#9 hr kP);rcases hc with hc | ⟨hc,hb,hn⟩
 .exact dm (iW I1 (S.gl hy) 5#3 (eM fin) (bN hp).1)
 .exact dm (gG I1 (S.gl hy) 5#3 hb (eM fin) hn (bN hp).1)
end
def kn(L:Nat)(z:Stmt):List Stmt:= [
 .Assign [.Name "error" (PP L 1 4 9)] (.Constant .none 0 (PP L 1 12 16)) (PP L 1 4 16),
 .Try [.Expr (.Call (.Name "call" (PP L 3 8 12)) [] [] (PP L 3 8 14)) (PP L 3 8 14)] [.ExceptHandler (some (.Name "WalkError" (PP L 4 11 20))) (some "e") [.Assign [.Name "error" (PP L 5 8 13)] (.Name "e" (PP L 5 16 17)) (PP L 5 8 17)] ⟨L+4,4,L+5,17⟩] [] [] ⟨L+2,4,L+5,17⟩,
 .Assign [.Name "kinds" (PP L 6 4 9)] (.List [isi L 6 13 "TooMany" 7,isi L 6 41 "NotLevel" 8,isi L 6 70 "NoLift" 6] (PP L 6 12 96)) (PP L 6 4 96),
 .Assign [.Name "kinds" (PP L 7 4 9)] (.BinOp (.Name "kinds" (PP L 7 12 17)) .Add (.List [isi L 7 21 "NotPlain" 8,isi L 7 50 "NoName" 6,isi L 7 77 "BadNote" 7] (PP L 7 20 104)) (PP L 7 12 104)) (PP L 7 4 104),
 .Expr (.Call (.Attribute (.Name "kinds" (PP L 8 4 9)) "append" (PP L 8 4 16)) [isi L 8 17 "NoTwist" 7] [] (PP L 8 4 44)) (PP L 8 4 44),
 .If (.UnaryOp .Not (isi L 9 11 "ValueError" 10) (PP L 9 7 40)) [.Return (some (.Constant .none 0 (PP L 10 15 19))) (PP L 10 8 19)] [] ⟨L+9,4,L+10,19⟩,
 z]
def mzR:MS:=bZ (dc (iR1 (aa (mC (.int 7)) ai)) (cOf (m2 oIx (ae 3) (ae 4))) (ae 4))
def tlR(u:U)(b:Nat->Bool):MS:=
 aZ (bA 3 (cq (aa (mIs u (b 0)) (aa (mIs u (b 1)) (aa (mIs u (b 2)) ai)))))
 (aZ (bA 3 (m2 bR (ae 3) (cq 20#9)))
 (aZ (dj (mML bV (ae 3) (aa (mIs u (b 6)) ai)))
 (aZ (sIf (eE (cOf (mIs u (b 7)))) (bZ (mC .non)) dk) mzR)))
def rW(ns:NS):Bool:=kq ns "error"&&kq ns "kinds"&&kz ns "call"&&ns.lookup ("e":Str)==some .local&&dg ns "isinstance"&&dg ns "ValueError"&&dg ns "WalkError"&&cn.all (dg ns)
def oN:List Str := ["call","error","e","kinds"]
theorem wk{ns:NS}{x:Str}(h:kq ns x=true):kz ns x=true:=by
 unfold kq at h;unfold kz
 split at h<;>rename_i e<;>first | (cases h;done) |rw[e]
section
variable {M:Mo}{X:Cx}{k:Nat}{ns:List (Str×NameKind)}
theorem BK{u:U}{t:Value}{b:Nat->Bool}{c:Nat->Value}{L:Nat}{z:Stmt}{cl:Nat->Addr}{w:Addr}{rz:List Nat}(S:Sc M X k oN ns)(Yw:rW ns=true)(B :∀ x∈iF,M.mg x=none)(Rk:uX M.K.K M.mg cl w rz)(ok:Aj M.K u t)(hb :∀ j,j<7->cg M.K t (.ref (cl j))=some (b j))(hV:cg M.K t (.type "ValueError")=some (b 7))
  (hz:PS X z (tMS M.K mzR)):PSs X ((kn L z).drop 2) (tMS M.K (tlR u b)):=by
 unfold rW at Yw;simp at Yw;obtain⟨⟨⟨⟨⟨⟨⟨h1,h2⟩,h3⟩,h4⟩,h5⟩,h6⟩,h7⟩,h8⟩:=Yw;have Tc:M.mg "isinstance"=none:=B _ 1#0;have is:∀(j a bb n:Nat) (y:Str),cn[j]?=some y->PE X (isi L a bb y n) _:=λj a bb n y hj=>by
  have ZR:=(ah.mp hj).1;have hm:=cY hj;have hp:=by
   have:∀y∈cn,bq y=true:=by decide +kernel
   exact this y hm
  exact JO S ok rfl (wk h1) h5 Tc (h8 y hm) hp (.inl (Rk.c j y hj)) (hb j ZR)
 have kv:∀pos,PE X (.Name _ pos) _:=λpos=>BB S 3 rfl (wk h2) 1#0 1#0;refine tu (uU S 3 rfl h2 (Ga (kG (is 0 _ _ _ _ rfl) (kG (is 1 _ _ _ _ rfl) (kG (is 2 _ _ _ _ rfl) zr))))) ?_;refine tu (uU S 3 rfl h2 (JR S (kv _) (Ga (kG (is 3 _ _ _ _ rfl) (kG (is 4 _ _ _ _ rfl) (kG (is 5 _ _ _ _ rfl) zr)))))) ?_;refine tu (DD (rQ S (kv _) (kG (is 6 _ _ _ _ rfl) zr) rfl rfl (by show((L+8)==(L+8))=true;simp) rfl rfl)) ?_;refine tu (Nw (JA (Jr (JO S ok rfl (wk h1) h5 Tc h6 1#0 (.inr ⟨Rk.V,by decide +kernel,by decide +kernel⟩) hV))) (Dw (JS El)) Jv) (Dw hz)
end
variable{u:U}{S:Sto}
theorem Ad{b:Bool}{G:Rho}(h:G[1]?=some (some u)):mIs u b G S=some (.bl b,S):=by
 unfold mIs;rw[if_pos h]
variable{x y:Option U}{b:Nat->Bool}
theorem Bj:tlR u b [x,some u,y,none] S =
  (aZ (sIf (eE (cOf (mIs u (b 7)))) (bZ (mC .non)) dk) mzR) 12#2 (S++gg b):=by
 have i0:∀(v:Option U) (c:Bool) (S:Sto),mIs u c [x,some u,y,v] S=some _:=λv c S=>Ad rfl;have e1:bA 3 (cq (aa (mIs u (b 0)) (aa (mIs u (b 1)) (aa (mIs u (b 2)) ai)))) [x,some u,y,none] S=some (.nx,[x,some u,y,2#5],S++[kL b [0,1,2]]):=by
  simp[bA,cq,aa,i0];rfl
 have g1:(S++[kL b [0,1,2],kL b [3,4,5]])[0#5]?=some (kL b [0,1,2]):=by simp
 have g2:(S++[kL b [0,1,2],kL b [3,4,5]])[0#5+1]?=some (kL b [3,4,5]):=by simp
 have e2:bA 3 (m2 bR (ae 3) (cq 20#9)) [x,some u,y,2#5] (S++[kL b [0,1,2]])=some (.nx,12#2,S++14#9):=by
  have a0:cq 20#9 [x,some u,y,2#5] (S++[kL b [0,1,2]])=some (.ref (0#5+1),S++[kL b [0,1,2],kL b [3,4,5]]):=by
   simp only[cq,aa,ai,i0,aA];rw[if_pos (by simp[big])];simp[kL]
  have v0:∀S',ae 3 [x,some u,y,2#5] S'=some _:=λS'=>rfl;have a1:bR (.ref 0#5) (.ref (0#5+1)) (S++[kL b [0,1,2],kL b [3,4,5]])=some (.ref (0#5+2),S++14#9):=by
   unfold bR;simp only[g1,g2];simp only[kL];rw[if_pos (by simp[big])];simp
  simp only[bA,m2,v0,aA,a0,a1];rfl
 have g3:(S++14#9)[0#5+2]?=some (kL b [0,1,2,3,4,5]):=by simp
 have e3:dj (mML bV (ae 3) (aa (mIs u (b 6)) ai)) 12#2 (S++14#9)=some (.nx,12#2,S++gg b):=by
  have v0:∀S',ae 3 12#2 S'=some _:=λS'=>rfl;have gl:getL (S++14#9) (0#5+2)=some ([0,1,2,3,4,5].map λi=>.bl (b i)):=by
   unfold getL;rw[g3];rfl
  have a1:bV (0#5+2) [.bl (b 6)] (S++14#9)=some (.non,S++gg b):=by
   unfold bV;simp only[g3];simp only[kL];rw[ox _ _ 0#2];have:0#5+2-0#5=2:=by omega
   rw[this];rfl
  simp only[dj,mML,v0,aA,gl,aH,aa,ai,i0,a1]
 unfold tlR;rw[show ∀(a b:MS) (G:Rho) (S:Sto),aZ a b G S=21#7 from λ_ _ _ _=>rfl,e1];simp;rw[show ∀(a b:MS) (G:Rho) (S:Sto),aZ a b G S=21#7 from λ_ _ _ _=>rfl,e2];simp;rw[show ∀(a b:MS) (G:Rho) (S:Sto),aZ a b G S=21#7 from λ_ _ _ _=>rfl,e3]
theorem Ii(hb:b 7=false):tlR u b [x,some u,y,none] S=some (.rt .non,12#2,S++gg b):=by
 rw[Bj];simp[aZ,sIf,eE,cOf,Ad _,hb];rfl
theorem Qm:okR 7:=by unfold okR;omega
theorem Jo{q:Nat}(hq:q<7):∃Y4,tlR u (bQ q) [x,some u,y,none] S=some (.rt (.ref (0#5+3)),Y4,S++(gg (bQ q)++[.lst [.int q]])):=by
 rw[Bj];have h7:bQ q 7=true:=by unfold bQ;simp
 simp only[aZ,sIf,eE,cOf,Ad (show([x,some u,y,some _]:Rho)[1]?=some _ from rfl),aA,h7,BO,hU,if_false,dk];refine⟨12#2,?_⟩;unfold mzR bZ dc;have hi:iR1 (aa (mC (.int 7)) ai) 12#2 (S++gg (bQ q))=some (.imm (aY 0 7),S++gg (bQ q)):=by
  simp only[iR1,aa,mC,ai,aA];rw[if_pos Qm];rfl
 have g3:(S++gg (bQ q))[0#5+2]?=some (kL (bQ q) [0,1,2,3,4,5,6]):=by simp[gg]
 have gi:∀i:Nat,i<7->cOf (m2 oIx (ae 3) (ae 4)) 18#8 (S++gg (bQ q))=some (bQ q i,S++gg (bQ q)):=λi hi=>by
  have v3:∀S',ae 3 18#8 S'=some _:=λS'=>rfl;have v4:∀S',ae 4 18#8 S'=some _:=λS'=>rfl;have d0:iS (S++gg (bQ q)) (.ref (0#5+2))=none:=by
   simp only[iS,g3,kL]
  have s0:d6 (S++gg (bQ q)) (.ref (0#5+2))=some ([0,1,2,3,4,5,6].map λi=>.bl (bQ q i)):=by
   simp only[d6,getL,g3,kL]
  have a0:_L.atI ([0,1,2,3,4,5,6].map λi=>U.bl (bQ q i)) i=some (.bl (bQ q i)):=by
   have:i=0\/i=1\/i=2\/i=3\/i=4\/i=5\/i=6:=by omega
   rcases this with rfl|rfl|rfl|rfl|rfl|rfl|rfl<;>rfl
  simp only[cOf,m2,v3,v4,aA,oIx,d0,s0,aH,a0,vN]
 have v4:∀(i:Nat) S',ae 4 18#8 S'=some _:=λi S'=>rfl;have key:∀(is:List Nat) (acc:List U),(∀i∈is,i<7)->eB (cOf (m2 oIx (ae 3) (ae 4))) (ae 4) 12#2 (is.map λ(i:Nat)=>.int i) acc (S++gg (bQ q))=some (acc++(is.filter (bQ q)).map (λi=>.int i),S++gg (bQ q)):=by
  intro is
  induction is with
  |nil=>intro acc _;simp[eB]
  | cons i is ih=>
    intro acc h;have hi:=h i aV;have RY:=λacc=>ih acc λj hj=>h j (az _ hj);rw[gU];unfold eB;rw[show([x,some u,y,some _]:Rho)++[some _]=[x,some u,y,some _,some _] from rfl,gi i hi];simp only[aA];cases hb:bQ q i with
    | true=>
      rw[v4];simp only[aA];rw[RY];simp[hb]
    | false=>
      rw[RY];simp[hb]
 have hr:aY 0 7=([0,1,2,3,4,5,6]).map λ(i:Nat)=>.int i:=rfl;have hf:([0,1,2,3,4,5,6]).filter (bQ q)=[q]:=by
  have:q=0\/q=1\/q=2\/q=3\/q=4\/q=5\/q=6:=by omega
  rcases this with rfl|rfl|rfl|rfl|rfl|rfl|rfl<;>decide
 have hc:AS (cOf (m2 oIx (ae 3) (ae 4))) (ae 4) 12#2 (.imm (aY 0 7)) (S++gg (bQ q))=some ([.int q],S++gg (bQ q)):=by
  unfold AS;simp only[hr,key _ _ (show ∀i∈([0,1,2,3,4,5,6]),i<7 by decide),hf];rfl
 simp only[hi,aA,hc];simp[gg];rfl
section
variable {M:Mo}{cl:Nat->Addr}{T:Tb}{k fu L:Nat}{h:Heap}{x:Str}{st z:Stmt}{w:Addr}{rz:List Nat}
theorem Def.fnRef(O :∀ caps capv cds base,eU M.mg base->TOk 6#2 T k)(h1:T.mkr=false)(X:M.K.K.In h)(Gn:h.Ns mainGlobals M.mg)(D:Def M.K x st)(S:aO oN ["call"] (ax st))(hb:Bd x st ["call"])
  (Yw:rW (ax st).names=true) (ZL:br st=kn L z) (hz:cS T fu oN (ax st).names z=some mzR) (Rk:uX M.K.K M.mg cl w rz):FnR M cl x k 1 (jZ rz):=by
 obtain⟨f,fd,a,F⟩:=D.ex;refine⟨f,fd,ck X Gn a,F.2,F.binds hb,λcaps capv cds base g j φ ψ Zj Ve lam YI=>?_⟩;have len:∀vs H Q E,spM 8#8 (refF (jZ rz) g φ ψ) vs H Q E->2#6=1:=λvs H Q E hh=>by
  obtain⟨μ,S',us,u,ZD,hr,rs,e,_⟩:=hh;unfold refF at e
  split at e
  .rw[<-rs.len];rfl
  .cases e
 have lx:pE 6#2 cl g j [] λus S=>(ψ us S).filter λr=>decide (r.1∈rz):=YI.imp λus S q hq=>(ki.mp hq).1;have Wx:=Yw;unfold rW at Wx;simp only[ak]at Wx;obtain⟨⟨⟨⟨⟨⟨⟨n1,n2⟩,n3⟩,n4⟩,n5⟩,n6⟩,n7⟩,n8⟩:=Wx;refine Fun.ok (K:=M.K.K) F S (λvs H Q E hh=>len vs H Q E hh) λcdv A outer s H vs Q E hr hh=>?_;have S0:∀YW,Sc (M.to caps capv YW base) (qh CX0 M.P M.w M.K M.mg base oN x (ax st) f cdv A outer s H E).nox j oN (ax st).names:=λYW=>Sc.def (M:=M.to caps capv YW base) S hr λc q z=>nomatch z
 have Ti:∀YW,PS (qh CX0 M.P M.w M.K M.mg base oN x (ax st) f cdv A outer s H E).nox z (tMS (M.K.to caps capv YW) mzR):=λYW=>(snd fu (M.to caps capv YW base) T j (.of ((O caps capv YW base Zj).mono Ve) h1)).s _ _ _ _ hz _ (S0 YW);have B:∀y∈iF,M.mg y=none:=λy hy=>(O caps capv cds base Zj).B y hy;have hf :∀ j',j'<7->cg M.K.K (.type "NoneType") (.ref (cl j'))=some ((fun _=>false) j'):=fun j' hj=>Rk.n j' hj;have R0:=BK (M:=M.to caps capv cds base) (L:=L) (z:=z) (c:=λ_=>.none) (S0 cds) Yw B Rk (u:= .non) (.inl ⟨rfl,rfl⟩) hf Rk.nV (Ti cds);have Q5:∀e oe q,q∈rz->oe.cls=.ref (cl q)->PSs (qh CX0 M.P M.w M.K M.mg base oN x (ax st) f cdv A outer s H E).nox ((kn L z).drop 2) (tMS (M.K.to caps capv (cds++[(e,oe)])) (tlR (.obj e) (bQ q))):=λe oe q hq hc=>by
  refine BK (M:=M.to caps capv (cds++[(e,oe)]) base) (L:=L) (z:=z) (c:=λ_=>.none) (S0 _) Yw B Rk (.inr ⟨e,oe,cl q,rfl,rfl,aR _ aV,hc,Rk.x q hq⟩) (λj' hj=>?_) ?_ (Ti _)
  .rw[show bQ q j'=decide (q=j') by unfold bQ;rw[show decide (j'=7)=false from decide_eq_false 0#2];simp]
   exact Rk.k q hq j' hj
  .rw[show bQ q 7=true by unfold bQ;simp]
   exact Rk.kV q hq
 have pT:=L7 (M:=M.to caps capv cds base) (cl:=cl) (S0 cds) rfl rfl lam lx (aq j) (i:=0) (x:="call") (j:=2) (n:="e") (l:=1) (y:="error") (W:="WalkError") (w:=w) (p1:=PP L 3 8 12) (p2:=PP L 3 8 14) (p3:=PP L 3 8 14) (p4:=PP L 4 11 20) (p5:=PP L 5 8 13) (p6:=PP L 5 16 17) (p7:=PP L 5 8 17) (p8:=⟨L+4,4,L+5,17⟩) (p9:=⟨L+2,4,L+5,17⟩)
  rfl n3 1#0 rfl (eq_of_beq n4) 1#0 rfl n1 0#1 n7 1#0 Rk.W λS q S1 hq=>by
   obtain⟨_,h2⟩:=ki.mp hq;exact Rk.m q (of_decide_eq_true h2)
 have pS:=uU (M:=M.to caps capv cds base) (p1:=PP L 1 4 9) (pos:=PP L 1 4 16) (S0 cds) 1 rfl n1 (El (M:=M.to caps capv cds base) (j:=0) (pos:=PP L 1 12 16)) rfl
 let tT:TS:=λD σ H=>tMS 8#8 (tlR .non λ_=>false) D σ H \/ ∃e oe q,q∈rz/\oe.cls=.ref (cl q)/\tMS (M.K.to caps capv (cds++[(e,oe)])) (tlR (.obj e) (bQ q)) D σ H
 have Q7:PSs (qh CX0 M.P M.w M.K M.mg base oN x (ax st) f cdv A outer s H E).nox ((kn L z).drop 2) tT:=λpins s σ H D I q=>by
  rcases q with q|⟨e,oe,q',hq,hc,q⟩
  .exact R0 pins s σ H D I q
  .exact Q5 e oe q' hq hc pins s σ H D I q
 rw[ZL];refine⟨_,lM pS (lM pT Q7),?_⟩;obtain⟨μ,S1,us,u,S2,hR,rs,e,ka⟩:=hh;unfold refF at e
 split at e
 rotate_left
 .cases e
 rename_i a'
 split at e
 rotate_left
 .cases e
 rename_i ha
 subst ha;have er:=kg (N:=oN) rs;refine⟨μ,S1,_,_,hR,er,rfl,λY0 Y6 H1 p1 k1 Z' ZK=>?_⟩;refine⟨Y0,S1,_,Z',ZK,rfl,rfl,?_⟩;unfold jZ at e
 split at e
 .rename_i r Vp
  cases e;refine .inl ⟨r.1,r.2,Vp,λY5 Y7 H2 p2 k2 ZX YF=>.inl ⟨Y5,r.2,_,_,ZX,YF,Ii rfl,?_⟩⟩;exact ka.mono 8#7 9#1
 .split at e
  rotate_left
  .cases e
  rename_i r V7
  split at e
  rotate_left
  .cases e
  rename_i hq
  cases e;refine .inr ⟨r.1,r.2,ki.mpr ⟨V7,decide_eq_true hq⟩,λe oe Y5 Y7 H2 p2 k2 ZX YF hfz XX=>.inr ⟨e,oe,r.1,hq,XX,?_⟩⟩;obtain⟨Y4,hv⟩:=Jo (x:=some (.obj a')) (y:=none) (S:=r.2) (u:= .obj e) (Rk.lt _ hq);refine⟨Y5,r.2,_,_,⟨ZX.len,ZX.inj,ZX.cell,ZX.ext.cap,λc hc=>?_,ZX.ext.tab⟩,YF,hv,λG' v3 H3 p3 k3 Zy ru3=>?_⟩
  .rcases dE.mp hc with z|z
   .exact ZX.ext.cds c z
   .have e':c=(e,oe):=by simpa using z
    rw[e'];exact hfz
  .exact ka G' v3 H3 ((p1.trans p2).trans p3) ((k1.trans k2).trans k3) ⟨Zy.len,Zy.inj,Zy.cell,Zy.ext.cap,λc hc=>Zy.ext.cds c (dw _ hc),Zy.ext.tab⟩ ru3
end
end _G
namespace _G
open PySem PySem.Spec _L
section
variable {P:Program}{w:World}{K:aj}{mg:Str->Option Value}{tabs:List (Addr×Str)}{T:Tb}{k j:Nat}{h:Heap}{x:Str}{st z:Stmt}{N ps:List Str}{r:MX}{fu n L:Nat}{wA:Addr}{rz:List Nat}
theorem Ch.raise(c:Ch P w K mg tabs T k)(Cl:List (Str×Nat))(h1:T.mkr=false)(hC:∀y i,Cl.lookup y=some i->mg y=some (.ref (T.Z.cl i))/\exB K (T.Z.cl i)=true)(X:K.In h)(Gn:h.Ns mainGlobals mg)(D:Def K x st)(S:aO N ps (ax st))(hb:Bd x st ps)
  (hc:(xc fu n).b T ⟨T.Z.R,Cl⟩ N (ax st).names (br st)=some r):Ch P w K mg tabs ⟨T.D,T.C,T.L,T.H,T.mkr,⟨(x,qW ps.length N.length r)::T.Z.R,T.Z.F,T.Z.cl,T.Z.nm⟩⟩ (k+1):=
 ⟨λa b d e f=>by
  have O:=c.o a b d e f;have F:=D.fnX ⟨.of O h1,O.Z,hC⟩ rfl X Gn S hb hc;have Om:=O.mono (dQ k);refine⟨Om.D,Om.C,Om.B,Om.L,Om.mkr,λy r' hy=>?_⟩;rw[bF]at hy;cases q:y==x with
  |true=>rw[q]at hy;cases hy;rw[eq_of_beq q];exact⟨_,ps,aq _,F⟩
  | false=>rw[q]at hy;exact Om.Z y r' hy,λa b d e f=>o4 (c.h a b d e f) (dQ k),λa b d e f=>rG (c.r a b d e f) (dQ k)⟩
theorem Ch.refd(c:Ch P w K mg tabs T k)(h1:T.mkr=false)(X:K.In h)(Gn:h.Ns mainGlobals mg)(D:Def K x st)(S:aO oN ["call"] (ax st))(hb:Bd x st ["call"])(Yw:rW (ax st).names=true)(ZL:br st=kn L z)(hz:cS T fu oN (ax st).names z=some mzR)(Rk:uX K mg T.Z.cl wA rz) :
  Ch P w K mg tabs ⟨T.D,T.C,T.L,T.H,T.mkr,⟨T.Z.R,(x,jZ rz)::T.Z.F,T.Z.cl,T.Z.nm⟩⟩ k:=
 ⟨λa b d e f=>let O:=c.o a b d e f;⟨O.D,O.C,O.B,O.L,O.mkr,O.Z⟩,c.h,λa b d e f y rz' hy=>by
  rw[bF]at hy;cases q:y==x with
  |true=>rw[q]at hy;cases hy;rw[eq_of_beq q];exact⟨k,1,by decide,aq _,D.fnRef (M:=⟨P,w,⟨K,a,b,d,tabs⟩,mg,e,none⟩) c.o h1 X Gn S hb Yw ZL hz Rk⟩
  | false=>rw[q]at hy;exact c.r a b d e f y rz' hy⟩
end
def clR(rz:List Nat):List (Str×Nat):=rz.map fun q=>(cn.getD q (d8 ""),q)
def MN(K:aj)(cs:List Addr)(w:Addr)(rz:List Nat):Bool:=
 aX K mainGlobals "ValueError" == some none&&(aB 7).all (fun j=>cg K (.type "NoneType") (.ref (cs.getD j 0))==some false)&&cg K (.type "NoneType") (.type "ValueError")==some false &&
 rz.all λq=>decide (q<7)&&Ek K (cs.getD q 0)&&xH K (.ref (cs.getD q 0)) (.ref w)==some true&&(aB 7).all (λj=>cg K (.ref (cs.getD q 0)) (.ref (cs.getD j 0))==some (decide (q=j))) &&
  cg K (.ref (cs.getD q 0)) (.type "ValueError")==some true&&exB K (cs.getD q 0)
section
variable {K:aj}{h:Heap}{mg:Str->Option Value}{c0 c1 c2 c3 c4 c5 c6 w:Addr}{rz:List Nat}
theorem LZ(X:K.In h)(Gn:h.Ns mainGlobals mg)(n0:aX K mainGlobals "TooMany"=some (some (.ref c0)))(n1:aX K mainGlobals "NotLevel"=some (some (.ref c1)))(n2:aX K mainGlobals "NoLift"=some (some (.ref c2)))(n3:aX K mainGlobals "NotPlain"=some (some (.ref c3)))
  (n4:aX K mainGlobals "NoName"=some (some (.ref c4))) (n5:aX K mainGlobals "BadNote"=some (some (.ref c5))) (n6:aX K mainGlobals "NoTwist"=some (some (.ref c6))) (nw:aX K mainGlobals "WalkError"=some (some (.ref w)))
  (hb:MN K [c0,c1,c2,c3,c4,c5,c6] w rz=true):uX K mg (λj=>[c0,c1,c2,c3,c4,c5,c6].getD j 0) w rz /\ ∀y i,(clR rz).lookup y=some i->mg y=some (.ref ([c0,c1,c2,c3,c4,c5,c6].getD i 0))/\exB K ([c0,c1,c2,c3,c4,c5,c6].getD i 0)=true:=by
 unfold MN at hb;simp at hb;obtain⟨⟨⟨b1,b2⟩,b3⟩,b4⟩:=hb;have hc:∀j t,cn[j]?=some t->mg t=some (.ref ([c0,c1,c2,c3,c4,c5,c6].getD j 0)):=λj t hj=>by
  have hl:j<7:=(ah.mp hj).1;have:j=0\/j=1\/j=2\/j=3\/j=4\/j=5\/j=6:=by omega
  rcases this with rfl|rfl|rfl|rfl|rfl|rfl|rfl<;>cases hj
  .exact ck X Gn n0
  .exact ck X Gn n1
  .exact ck X Gn n2
  .exact ck X Gn n3
  .exact ck X Gn n4
  .exact ck X Gn n5
  .exact ck X Gn n6
 refine⟨⟨hc,ck X Gn nw,Gx X Gn b1,b2,b3,λq hq=>(b4 q hq).1.1.1.1.1,λq hq=>(b4 q hq).1.1.1.1.2,λq hq=>(b4 q hq).1.1.1.2,λq hq=>(b4 q hq).1.1.2,λq hq=>(b4 q hq).1.2⟩,λy i hy=>?_⟩;have hm:=mem_of_lookup hy;obtain⟨q,hq,e⟩:=bw.mp hm;cases e;refine⟨hc i _ ?_,(b4 i hq).2⟩;have hl:=(b4 i hq).1.1.1.1.1;rw[zM,bo hl];rfl
end
end _G
namespace _G
open PySem PySem.Spec _L
open PyProof.Rows hiding St
variable{f:Addr}
theorem _root_._L.FnOk.up{P:Program}{w:World}{K:aj}{mg:Str->Option Value}{base Z9:Heap}{CX:CXT}{k:Nat}{fd:FuncData}{ps:List Str}{sp:Sp}(F:FnOk P w K mg base CX k f fd ps sp)(m:Mod K mg base)(hz:base.objs.size<=Z9.objs.size)(hs:∀a o,base.get? a=some o->Z9.get? a=some o):
  FnOk P w K mg Z9 CX k f fd ps sp:=by
 refine⟨F.len,λA outer s H args us vs Q E hr e0 hb hv h=>F.run A _ s H _ us vs Q E hr ⟨e0.frames,m,λb o e=>e0.bs b o (hs b o e),aD hz e0.bsz,?_,e0.frf,e0.hok,e0.bare⟩ hb hv h⟩;have all:∀l,s.heap.FunFrames Z9 l->s.heap.FunFrames base l:=by
  intro l
  induction l with
  |nil=>intro _;trivial
  | cons env r ih=>
    rintro ⟨hk,⟨L,o,hf,hn,ho,hd⟩,hr⟩;refine⟨hk,⟨L,o,hf,?_,ho,hd⟩,ih hr⟩;cases q:base.get? L<;>grind
 exact all _ e0.funs
section
variable {M:Mo}{caps:List U}{capv:List V}{cds:List (Addr×Obj)}{base:Heap}{μ:List Addr}{S:Sto}{H:Hp}
theorem Xt.dn(x:Xt M caps capv cds base)(h:HR 8#8 μ S H):HR M.K μ S H:=⟨h.len,h.inj,h.cell,x.cap h.ext.cap,λq hq=>h.ext.cds q (x.cds q hq),h.ext.tab⟩
theorem Xt.back(h:HR 8#8 μ S H){Y2:List Addr}{S':Sto}{H':Hp}(p:Pre μ Y2)(k:aU H H')(h':HR M.K Y2 S' H'):HR 8#8 Y2 S' H':=
 ⟨h'.len,h'.inj,h'.cell,RUs.mono k p _ _ h.ext.cap,λq hq=>k.f _ _ _ (h.ext.cds q hq),h'.ext.tab⟩
theorem Lam.up{g:Addr}{k:Nat}{ps:List Str}{φ:MF}(L:Lam M g k ps φ)(x:Xt M caps capv cds base):Lam 6#2 g k ps φ:=by
 obtain⟨fd,a,b,F⟩:=L.ex;refine⟨fd,a.imp (fun⟨oc,od,sl,e⟩=>⟨oc,od,sl,x.sub _ _ e⟩) id,b,(F.up x.mod x.sz x.sub).imp λvs H Q E=>?_⟩;rintro ⟨μ,S,us,u,S',h1,h2,h3,h4⟩;exact⟨μ,S,us,u,S',x.dn h1,h2,h3,λY2 v H' p k h' r=>h4 Y2 v H' p k (Xt.back h1 p k h') r⟩
theorem pE.up{cl:Nat->Addr}{g:Addr}{k:Nat}{ps:List Str}{ψ:RF}(L:pE M cl g k ps ψ)(x:Xt M caps capv cds base):pE 6#2 cl g k ps ψ:=by
 obtain⟨fd,a,b,F⟩:=L.ex;refine⟨fd,a.imp (fun⟨oc,od,sl,e⟩=>⟨oc,od,sl,x.sub _ _ e⟩) id,b,(F.up x.mod x.sz x.sub).imp λvs H Q E=>?_⟩;rintro ⟨μ,S,us,C,S',h1,h2,h3,h4⟩;exact⟨μ,S,us,C,S',x.dn h1,h2,h3,λY2 H' p k h'=>h4 Y2 H' p k (Xt.back h1 p k h')⟩
end
def Es(i:Nat)(f:Addr)(ψ:RF):MX:=λG S=>match G[i]? with
 |some (some (.obj g))=>if g=f then ψ [] S else none
 |_=>none
section
variable {M:Mo}{X:Cx}{k:Nat}{N:List Str}{ns:List (Str×NameKind)}{x:Str}{p1 pos:Pos}
variable{k':Nat}
theorem FU{φ:MF}(S:Sc M X k N ns)(F:Lam M f k' [] φ)(hk:k'<=k)(i:Nat)(hi:N[i]?=some x)(hv:kz ns x=true)(hp:bq x=true):PE X (.Call 10#5 [] [] pos) (tM M.K (ph i f φ ai)):=by
 obtain⟨fd,hf,hb,F⟩:=F.ex;rw[<-S.hP,<-S.hw,<-S.hK,<-S.hm,<-S.hb]at F;rw[<-S.hb,<-S.hK]at hf;rw[<-S.hK]at hb;intro pins s σ H Q I h;obtain⟨μ,S0,G,u,S',hr,er,q,aft⟩:=h;unfold ph at q
 split at q
 rotate_left
 .cases q
 rename_i g hg
 split at q
 rotate_left
 .cases q
 rename_i W5
 subst W5;obtain⟨v,Y',rv⟩:=er.get i _ hg;have WH:v=.ref g:=by simpa only [RU]using rv
 subst WH;exact Bb I (by rw[S.hN];exact hi) (S.vis hv) hp Y' hf λs1 I1=>nG F 11#3 hb .nil rS I1 .nil (show spM M.K φ ([]++[]) H Q E0 from⟨μ,S0,[],u,S',hr,.nil,q,aft⟩)
theorem Ei{cl:Nat->Addr}{E:XK}{ψ:RF}(L:Lv X E)(S:Sc M X.nox k N ns)(F:pE M cl f k' [] ψ)(hk:k'<=k)(i:Nat)(hi:N[i]?=some x)(hv:kz ns x=true)(hp:bq x=true):PE X (.Call 10#5 [] [] pos) (tXE cl M.K (Es i f ψ) E):=by
 obtain⟨fd,hf,hb,F⟩:=F.ex;have e1:X.prog=M.P:=S.hP;have e2:X.w=M.w:=S.hw;have e3:X.K=M.K:=S.hK;have e4:X.mg=M.mg:=S.hm;have e5:X.base=M.base:=S.hb;have e6:X.N=N:=S.hN;rw[<-e1,<-e2,<-e3,<-e4,<-e5]at F;rw[<-e5,<-e3]at hf;rw[<-e3]at hb;intro pins s σ H Q I h;obtain⟨μ,S0,G,C,S',hr,er,q,aft⟩:=h;unfold Es at q
 split at q
 rotate_left
 .cases q
 rename_i g hg
 split at q
 rotate_left
 .cases q
 rename_i W5
 subst W5;obtain⟨v,Y',rv⟩:=er.get i _ hg;have WH:v=.ref g:=by simpa only [RU]using rv
 subst WH;exact Bb I (by rw[e6];exact hi) (S.vis hv) hp Y' hf λs1 I1=>nG F 11#3 hb .nil L.pass I1 .nil (show spX cl M.K ψ ([]++[]) H Q E from⟨μ,S0,[],C,S',hr,.nil,q,aft⟩)
end
def apM(g:Addr)(φ:MF):ME:=mML bV 0#6 (aa (ph 0 g φ ai) ai)
def apX(g:Addr)(ψ:RF):MX:=xML 0#6 (Es 0 g ψ)
def Aw:MS:=bA 2 (cq ai)
def CY:MS:=bZ (z9 (cOf (m2 nF 0#6 (mC .non))) 0#6 (m2 oIx 0#7 2#3))
def wX(rz:List Nat)(g:Addr)(φ:MF)(ψ:RF):MS:=aZ Aw (aZ (bA 1 (gL (jZ rz) [0,2] (apM g φ) (apX g ψ))) CY)
def qU:List Str := ["call","refused","found"]
def uD(rz:List Nat):VF:=λφ ψ S=>run 1 3 (wX rz 0 φ ψ) [.obj 0] S
variable{φ:MF}{S:Sto}
theorem Oh{g n:Nat}:gH 0 (apM g φ) [.obj g,.ref n] [] S=gH 0 (apM 0 φ) [.obj 0,.ref n] [] S:=by
 simp[gH,apM,mML,aa,ai,ph,ae];rfl
variable{ψ:RF}
theorem NB{g n:Nat}:jo 0 (apX g ψ) [.obj g,.ref n] [] S=jo 0 (apX 0 ψ) [.obj 0,.ref n] [] S:=by
 simp[jo,apX,xML,Es,ae]
theorem Mf{rz:List Nat}{g:Addr}:run 1 3 (wX rz g φ ψ) [.obj g] S=uD rz φ ψ S:=by
 unfold uD;have h:∀g,jZ rz (gH 0 (apM g φ) [.obj g,.ref S.length]) (jo 0 (apX g ψ) [.obj g,.ref S.length]) 3#9=jZ rz (gH 0 (apM 0 φ) [.obj 0,.ref S.length]) (jo 0 (apX 0 ψ) [.obj 0,.ref S.length]) 3#9:=λg=>by unfold jZ;rw[Oh,NB]
 have w: ∀g,wX rz g φ ψ [10#3,none,none] S=(match jZ rz (gH 0 (apM g φ) [.obj g,.ref 0#5]) (jo 0 (apX g ψ) [.obj g,.ref 0#5]) 3#9 with
  |none=>none
  | some p=>CY [some (.obj g),some p.1,some (.ref S.length)] p.2):=λg=>by
  have e1:Aw [10#3,none,none] S=some (.nx,[10#3,none,2#5],S++[.lst []]):=rfl;have e2:fA [0,2] [10#3,none,2#5]=some [.obj g,.ref 0#5]:=rfl;simp only[wX,aZ,e1,bA,gL,e2,aH];cases jZ rz (gH 0 (apM g φ) [.obj g,.ref 0#5]) (jo 0 (apX g ψ) [.obj g,.ref 0#5]) 3#9<;>rfl
 show(match wX rz g φ ψ [10#3,none,none] S with |some (.rt u,_,S1)=>some (u,S1) |some (.nx,_,S1)=>some (.non,S1) |_=>none)=(match wX rz 0 φ ψ [5#2,none,none] S with |some (.rt u,_,S1)=>some (u,S1) |some (.nx,_,S1)=>some (.non,S1) |_=>none);rw[w,w,h];cases jZ rz (gH 0 (apM 0 φ) [.obj 0,.ref 0#5]) (jo 0 (apX 0 ψ) [.obj 0,.ref 0#5]) 3#9 with
 |none=>rfl
 | some p=>
   simp only[CY,bZ,z9,cOf,m2,ae,mC,aA,Dj,Dk,nF];cases isU p.1 .non with
   |none=>rfl
   | some b=>
     cases b with
     |false=>rfl
     | true=>
       show(match (bnd (oIx (.ref 0#5) (.int 0) p.2) _:Option (Fl×Rho×Sto)) with |some (.rt u,_,S1)=>some (u,S1) |some (.nx,_,S1)=>some (U.non,S1) |_=>none)=(match (bnd (oIx (.ref 0#5) (.int 0) p.2) _:Option (Fl×Rho×Sto)) with |some (.rt u,_,S1)=>some (u,S1) |some (.nx,_,S1)=>some (U.non,S1) |_=>none);cases oIx (.ref 0#5) (.int 0) p.2<;>rfl
def Eu(sc:Scope)(L:Nat):Expr := .Lambda wB (.Call (.Attribute (.Name "found" (PP L 2 35 40)) "append" (PP L 2 35 47)) [.Call (.Name "call" (PP L 2 48 52)) [] [] (PP L 2 48 54)] [] (PP L 2 35 55)) sc (PP L 2 27 55)
def vT(z1 z3:Stmt)(r:Str)(sc:Scope)(L:Nat):List Stmt := [z1,.Assign [.Name "refused" (PP L 2 4 11)] (.Call (.Name r (PP L 2 14 26)) [Eu sc L] [] (PP L 2 14 56)) (PP L 2 4 56),z3]
section
variable {M:Mo}{cl:Nat->Addr}{T:Tb}{k k0 fu L:Nat}{h:Heap}{x r:Str}{st z1 z3:Stmt}{rz:List Nat}{c P:Addr}{sc:Scope}
theorem jb.fnWov(O :∀ caps capv cds base,eU M.mg base->TOk 6#2 T k)(h1:T.mkr=false)(FR:FnR M cl r k0 1 (jZ rz))(Tq:k0<=k)(X:M.K.K.In h)(Gn:h.Ns mainGlobals M.mg)(D:jb M.K x st c P)(hm:(P,x++".<locals>."++"<lambda>")∈M.K.tabs)(nd:(M.K.tabs.map (·.1)).Nodup)(hg:mainGlobals≠P)
  (S:aO qU ["call"] (ax st)) (hb:Bd x st ["call"]) (ZL:br st=vT z1 z3 r sc L) (UY:cS T fu qU (ax st).names z1=some Aw) (U9:cS T fu qU (ax st).names z3=some CY) (hgr:dg (ax st).names r=true) (hpr:bq r=true) (UZ:kq (ax st).names "refused"=true)
  (hl:pD [] sc (ax st).names=true) (YN:frees sc=(["call","found"]:List Str)):FnR M cl x k 3 (uD rz):=by
 obtain⟨f,oc,od,kV,doc,pm,an,ct,sl,a,lk,ZF,Zo⟩:=D.ex;refine⟨f,_,ck X Gn a,Zo,.all (hb kV doc pm an (.ref c) ct),λcaps capv cds base g j φ ψ Zj Ve lam YI=>?_⟩
 let M1:Mo:=⟨M.P,M.w,M.K.to caps capv cds,M.mg,base,some (c,x++".<locals>.")⟩
 have O1:TOk M1 T (j+2):=by
  have Om:=(O caps capv cds base Zj).mono (show k<=j+2 by omega);exact⟨λy g hy=>let ⟨k',Xz,hk,F'⟩:=Om.D y g hy;17#4,Om.C,Om.B,λy q hy=>let ⟨k',Xz,hk,F'⟩:=Om.L y q hy;17#4,(λz=>by rw[h1]at z;cases z),λy r hy=>let ⟨k',Xz,hk,F'⟩:=Om.Z y r hy;17#4⟩
 have lam:Lam M1 g j [] φ:=⟨lam.ex⟩;have YI:pE M1 cl g j [] ψ:=⟨YI.ex⟩;have MK:Mkr M1 c P (x++".<locals>."++"<lambda>"):=jb.mkr (M:=M1) (h:=h) D Zj X Gn hm nd hg;have len:∀vs H Q E,spM M1.K (refF (uD rz) g φ ψ) vs H Q E->2#6=1:=λvs H Q E hh=>by
  obtain⟨μ,S',us,u,ZD,hr,rs,e,_⟩:=hh;unfold refF at e
  split at e
  .rw[<-rs.len];rfl
  .cases e
 obtain⟨LS,Zd⟩:=lF hl;refine _L.uZ (ps := ["call"]) lk ZF S len fun A outer s H vs Q E hr hh=>?_;have S0:Sc M1 (qh CX0 M1.P M1.w M1.K M1.mg M1.base qU x (ax st) f (.ref c) A outer s H E).nox (j+2) qU (ax st).names:=Sc.def (M:=M1) S hr λc' q' hq=>by cases hq;exact⟨rfl,rfl⟩
 have Sn:=snd fu M1 T (j+2) (.of O1 h1);have vis:∀{y},y∈frees sc->kz sc.names y=true:=λ{y} hy=>by unfold kz;rw[LS.free y hy]
 have pc:PE (qh CX0 M1.P M1.w M1.K M1.mg M1.base qU x (ax st) f (.ref c) A outer s H E).nox (.Call (.Name r (PP L 2 14 26)) [Eu sc L] [] (PP L 2 14 56)) (tM M1.K (gL (jZ rz) [0,2] (apM g φ) (apX g ψ))):=by
  refine A4 (M:=M1) (j:=j) S0 ⟨FR.ex⟩ 0#2 0#2 rfl MK hgr (bN hpr).1 LS Zd (by rw[YN];rfl) (λcaps' Vw YW Z9 Ub xt X' S'=>?_) λcaps' Vw YW Z9 Ub xt X' E' L' S'=>?_
  .rw[YN]at S'
   exact rQ (hline:=beq_self_eq_true _) S' (BB S' 1 rfl (vis (by rw[YN];simp)) rfl rfl) (kG (FU S' (lam.up xt) 1#8 0 rfl (vis (by rw[YN];simp)) 1#0) zr)
  .rw[YN]at S'
   exact yz S' (BB S' 1 rfl (vis (by rw[YN];simp)) rfl rfl) (Ei L' S' (YI.up xt) 1#8 0 rfl (vis (by rw[YN];simp)) 1#0) rfl rfl (beq_self_eq_true _)
 refine⟨tMS M1.K (wX rz g φ ψ),?_,?_⟩
 .rw[ZL]
  exact(tu (Sn.s _ _ _ _ UY _ S0) (tu (uU S0 1 rfl UZ pc rfl) (wF (Sn.s _ _ _ _ U9 _ S0)))).nox
 .obtain⟨μ,S1,us,u,S2,hR,rs,e,ka⟩:=hh
  unfold refF at e
  split at e
  rotate_left
  .cases e
  rename_i a'
  split at e
  rotate_left
  .cases e
  rename_i ha
  subst ha;rw[<-Mf (g:=a')]at e;have er:=kg (N:=qU) rs;unfold run at e;rw[if_pos (show [U.obj a'].length=1 from rfl)]at e
  split at e
  .rename_i w Y4 S3 q
   cases e;exact⟨μ,S1,_,_,hR,er,q,ka⟩
  .rename_i Y4 S3 q
   cases e;exact⟨μ,S1,_,_,hR,er,q,λY2 Y1 H' p' k' Zw SH=>ka Y2 _ H' p' k' Zw lB⟩
  .cases e
end
def Bc:Stmt->Scope
 |.Assign _ (.Call _ [.Lambda _ _ sc _] _ _) _=>sc
 |st=>ax st
def Lb(ns:NS)(r:Str)(sc:Scope):Bool:=dg ns r&&bq r&&kq ns "refused"&&pD [] sc ns&&frees sc==(["call","found"]:List Str)
def bd_(st:Stmt)(i:Nat):Stmt:=(br st).getD i (.Pass ⟨0,0,0,0⟩)
section
variable {P:Program}{w:World}{K:aj}{mg:Str->Option Value}{tabs:List (Addr×Str)}{T:Tb}{k k0 fu L:Nat}{h:Heap}{x r:Str}{st z:Stmt}{wA a0 p:Addr}{rz:List Nat}
theorem Ch.refF(c:Ch P w K mg tabs T k)(h1:T.mkr=false)(X:K.In h)(Gn:h.Ns mainGlobals mg)(D:Def K x st)(S:aO oN ["call"] (ax st))(hb:Bd x st ["call"])(Yw:rW (ax st).names=true)(ZL:br st=kn L z)(hz:cS T fu oN (ax st).names z=some mzR)(Rk:uX K mg T.Z.cl wA rz) :
  ∀a b d e,eU mg e->FnR ⟨P,w,⟨K,a,b,d,tabs⟩,mg,e,none⟩ T.Z.cl x k 1 (jZ rz):=λa b d e _=>D.fnRef (M:=⟨P,w,⟨K,a,b,d,tabs⟩,mg,e,none⟩) c.o h1 X Gn S hb Yw ZL hz Rk
theorem Ch.wov(c:Ch P w K mg tabs T k)(h1:T.mkr=false)(FR :∀ a b d e,eU mg e->FnR ⟨P,w,⟨K,a,b,d,tabs⟩,mg,e,none⟩ T.Z.cl r k0 1 (jZ rz))(Tq:k0<=k)(hm:(p,x++".<locals>."++"<lambda>")∈tabs)(nd:(tabs.map (·.1)).Nodup)(hg:mainGlobals≠p)(X:K.In h)(Gn:h.Ns mainGlobals mg)(D:jb K x st a0 p)(S:aO qU ["call"] (ax st))(hb:Bd x st ["call"])
  (ZL:br st=vT (bd_ st 0) (bd_ st 2) r (Bc (bd_ st 1)) L) (UY:cS T fu qU (ax st).names (bd_ st 0)=some Aw) (U9:cS T fu qU (ax st).names (bd_ st 2)=some CY) (hw:Lb (ax st).names r (Bc (bd_ st 1))=true):
  Ch P w K mg tabs ⟨T.D,T.C,T.L,T.H,T.mkr,⟨T.Z.R,(x,uD rz)::T.Z.F,T.Z.cl,T.Z.nm⟩⟩ k:=
 ⟨λa b d e f=>let O:=c.o a b d e f;⟨O.D,O.C,O.B,O.L,O.mkr,O.Z⟩,c.h,λa b d e f y vf hy=>by
  rw[bF]at hy;simp only[Lb,ak]at hw;obtain⟨⟨⟨⟨w1,w2⟩,w3⟩,w4⟩,w5⟩:=hw;cases q:y==x with
  |true=>rw[q]at hy;cases hy;rw[eq_of_beq q];exact⟨k,3,aq _,aq _,D.fnWov (M:=⟨P,w,⟨K,a,b,d,tabs⟩,mg,e,none⟩) c.o h1 (FR a b d e f) Tq X Gn hm nd hg S hb ZL UY U9 w1 w2 w3 w4 (eq_of_beq w5)⟩
  | false=>rw[q]at hy;exact c.r a b d e f y vf hy⟩
end
end _G
namespace _G
open PySem PySem.Spec _L
def Tb.dd(T:Tb)(x:Str)(f:MF):Tb:=⟨(x,f)::T.D,T.C,[],T.H,false,T.Z⟩
def Tb.hh(T:Tb)(x:Str)(F:Addr->MF->MF):Tb:=⟨T.D,T.C,[],(x,F)::T.H,false,T.Z⟩
def Tb.xx(T:Tb)(x:Str)(f:MF)(r:RF):Tb:=⟨(x,f)::T.D,T.C,[],T.H,false,⟨(x,r)::T.Z.R,T.Z.F,T.Z.cl,T.Z.nm⟩⟩
def Tb.qq(T:Tb)(x:Str)(vf:VF):Tb:=⟨T.D,T.C,[],T.H,false,⟨T.Z.R,(x,vf)::T.Z.F,T.Z.cl,T.Z.nm⟩⟩
abbrev cD(T:Tb)(N:List Str)(st:Stmt):Option MS:=cB T 80 N (ax st).names (br st)
def fsB(N P:List Str)(sc:Scope):Bool:=sc.kind==.function && !sc.isCoroutine && !sc.isGenerator&&decide N.Nodup&&N.take P.length==P&&P.all (λx=>sc.names.lookup x==some .local||sc.names.lookup x==some .cell)&&sc.names.all λy=>!(y.2==.free)
theorem du{N P:List Str}{sc:Scope}(h:fsB N P sc=true):aO N P sc:=by
 unfold fsB at h;simp only[ak]at h;obtain⟨⟨⟨⟨⟨⟨h1,h2⟩,h3⟩,h4⟩,h5⟩,h6⟩,h7⟩:=h;refine⟨eq_of_beq h1,by simpa using h2,by simpa using h3,of_decide_eq_true h4,eq_of_beq h5,λx hx=>?_,λy hy z=>?_⟩<;>grind
def Mp(K:aj):List (Str×Stmt)->Prop
 |[]=>True
 |p::r=>Def K p.1 p.2/\Mp K r
end _G
namespace _W
open PySem PySem.Spec _L _G
def iw:MS:=aZ (sIf (cOf (m2 oLt 0#6 4#4)) (bZ (m2 oIx 0#4 0#6)) dk) (bZ 2#3)
def jM:MF:=run 2 2 iw
def qM:MS:=aZ (bA 2 (mFn jM 11#4)) (aZ (sIf (cOf (m2 oGe 0#7 (m2 wa (mC (.int 10)) (mC (.int 18))))) (bZ (cq (aa (m2 qo 0#7 (m2 wa (mC (.int 10)) (mC (.int 18)))) (aa (mC (.bl true)) ai)))) dk) (bZ (cq (aa (m2 oMod 0#7 (mC (.int 2147483647))) (aa (mC (.bl false)) ai)))))
def iD:MF:=run 2 3 qM
def ko:MS:=aZ (sIf (cOf (m2 oIx 0#4 1#6)) (aZ (bA 2 (m2 oMod (m2 oIx 0#4 2#3) 0#6)) (aZ (nI 0#4 2#3 (m2 oDiv (m2 oIx 0#4 2#3) 0#6)) (bZ 0#7))) dk) (aZ (nI 0#4 2#3 (m2 oMod (m2 bR (m2 d7 (m2 oIx 0#4 2#3) (mC (.int 48271))) (mC (.int 29))) (mC (.int 2147483647)))) (aZ (bA 3 (m2 oMod (m2 bR (m2 bR (m2 d7 (m2 oIx 0#4 2#3) (m2 oIx 0#4 2#3)) (m2 d7 (mC (.int 39373)) (m2 oIx 0#4 2#3))) (mC (.int 7))) (mC (.int 2147483629)))) (aZ (bA 3 (m2 oMod (m2 bR (m2 d7 (ae 3) (ae 3)) (m2 d7 (mC (.int 16807)) (ae 3))) (mC (.int 2147483587)))) (bZ (m2 oMod (m2 oDiv (ae 3) (mC (.int 8))) 0#6)))))
def ba:MF:=run 2 4 ko
def lA:MS:=bZ (mFn bO (aa (dc (iR1 4#8) cTT (mFn bO (aa (dc (iR1 4#8) cTT (m2 oMod (m2 bR 0#6 0#7) 0#4)) ai))) ai))
def bU:MF:=run 1 1 lA
def qG:MS:=aZ (bA 1 (cq ai)) (aZ (fv 2 (iR1 (aa (m2 d7 2#7 0#4) ai)) (aZ (bA 3 (cq ai)) (aZ (fv 4 (iR1 (aa (m2 d7 2#7 0#4) ai)) (aZ (bA 5 (m2 oMod (m2 bR (m2 oMod 0#7 0#4) (m2 d7 (m2 oIx (cq (aa 1#6 (aa (m1 mQ 1#6) ai))) (m2 oDiv 0#7 0#4)) (m2 oMod (ae 4) 0#4))) 0#4)) (dj (mML bV (ae 3) (aa (m2 bR (ae 5) (m2 d7 0#4 (m2 oMod (m2 bR (m2 oDiv 0#7 0#4) (m2 oDiv (ae 4) 0#4)) 2#7))) ai))))) (dj (mML bV 0#6 (aa (mFn bO 4#9) ai)))))) (bZ (mFn bO 3#1)))
def fC:MF:=run 1 6 qG
def m7:MS:=aZ (bA 0 (cq (aa (cq (aa 2#3 (aa 2#3 (aa 2#3 7#7)))) (aa (cq (aa 2#3 (aa 1#6 (aa 2#3 (aa 1#6 ai))))) (aa (cq (aa 2#3 (aa 1#6 (aa 1#6 7#7)))) (aa (cq (aa 2#3 (aa 2#3 (aa 1#6 (aa 1#6 ai))))) ai)))))) (aZ (bA 1 (cq (aa (cq (aa 2#3 (aa 1#6 (aa 2#7 (aa (mC (.int 3)) ai))))) (aa (cq (aa 1#6 (aa 2#3 (aa (mC (.int 3)) (aa 2#7 ai))))) (aa (cq (aa 2#7 (aa (mC (.int 3)) (aa 2#3 (aa 1#6 ai))))) (aa (cq (aa (mC (.int 3)) (aa 2#7 (aa 1#6 7#7)))) ai)))))) (aZ (bA 2 (cq ai)) (aZ (fv 3 (iR1 (aa (mC (.int 8)) ai)) (aZ (bA 4 (cq ai)) (aZ (fv 5 (iR1 (aa (mC (.int 8)) ai)) (aZ (bA 6 (m2 oMod (m2 bR (m2 bR (ae 3) (ae 5)) (m2 oIx (m2 oIx 0#4 (m2 oDiv (ae 3) 2#7)) (m2 oDiv (ae 5) 2#7))) 2#7)) (dj (mML bV (ae 4) (aa (m2 bR 19#8 (ae 6)) ai))))) (dj (mML bV 0#7 (aa (mFn bO 8#5) ai)))))) (bZ (mFn bO 4#5)))))
def iz:MF:=run 0 7 m7
def sR:MS:=aZ (bA 2 (mFn cw 3#1)) (aZ (bA 3 (cq ai)) (aZ (fv 4 (iR1 (aa (m2 d7 4#4 0#7) ai)) (aZ (bA 5 (cq ai)) (aZ (fv 6 (iR1 (aa (m2 d7 4#4 0#7) ai)) (aZ (bA 7 (m2 oIx (m2 oIx 0#4 (m2 oDiv (ae 4) 0#7)) (m2 oDiv (ae 6) 0#7))) (dj (mML bV (ae 5) (aa (m2 bR (m2 d7 (ae 7) 0#7) (m2 oIx (m2 oIx 0#6 (m2 oMod (ae 4) 0#7)) (m2 oMod (ae 6) 0#7))) ai))))) (dj (mML bV (ae 3) (aa (mFn bO (aa (ae 5) ai)) ai)))))) (bZ (mFn bO 4#9))))
def kD:MF:=run 2 8 sR
def qK:MS:=bZ (mFn bO (aa (dc (fM 0#6) cTT (mFn bO (aa (dc (fM 0#6) cTT (mMT ir 0#6 (aa 19#3 ai))) ai))) ai))
def jw:MF:=run 2 2 qK
def qH:MS:=aZ (bA 2 (nJ (iR2 (aa 1#6 3#1)))) (bZ (m2 bR (eA 7#7) (mFn bO (aa (dc (iR1 (aa (m2 qo 0#6 1#6) ai)) cTT (mML nR 0#7 (aa (mFn ba (aa 0#4 (aa (mFn cw 4#5) ai))) ai))) ai))))
def iG:MF:=run 2 3 qH
def lO:MS:=aZ (bA 2 (mFn ba (aa 0#4 (aa (mC (.int 8)) ai)))) (aZ (bA 3 (mFn bU (aa (m2 bR 1#6 (mFn ba 11#4)) ai))) (aZ (sIf (cOr (cOf (m2 oEq 0#7 1#6)) (cOf (m2 oEq 0#7 2#7))) (bA 3 (mFn fC (aa (m2 bR 1#6 (mFn ba (aa 0#4 (aa (m2 oDiv 0#6 2#7) ai)))) ai))) dk) (aZ (sIf (yB (cOf (m2 oEq 0#7 (mC (.int 3)))) (cOf (m2 oGt 0#6 (mC (.int 7))))) (bA 3 (mFn iz ai)) dk) (aZ (sIf (cOf (m2 oGt 0#7 (mC (.int 3)))) (aZ (bA 4 (m2 bR 2#7 17#1)) (aZ (bA 5 (m2 oIx (cq (aa (mFn bU 8#5) (aa (mFn fC 8#5) ai))) (mFn ba (aa 0#4 (aa 2#7 ai))))) (aZ (sIf (cOf (m2 oGt (mFn cw (aa (ae 5) ai)) 0#6)) (bA 5 (mFn bU 8#5)) dk) (bA 3 (mFn kD (aa (ae 5) (aa (mFn bU (aa (m2 bR 1#6 (mFn ba (aa 0#4 (aa (m2 oDiv 0#6 (mFn cw (aa (ae 5) ai))) ai)))) ai)) ai))))))) dk) (aZ (sIf (cOf (m2 oEq 17#1 2#3)) (bA 3 (mFn jw (aa (ae 3) (aa (mFn iG (aa 0#4 (aa (mFn cw 4#9) ai))) ai)))) dk) (bZ (ae 3)))))))
def jH:MF:=run 2 6 lO
end _W
namespace _W
structure Grp(m:Nat)(T:Nat->Nat->Nat):Prop where
 pos:0<m
 cl:∀i j,i<m->j<m->T i j<m
 l0:∀i,i<m->T 0 i=i
 r0:∀i,i<m->T i 0=i
 inv:∀i,i<m->∃j,j<m/\T i j=0/\T j i=0
 as:∀i j k,i<m->j<m->k<m->T (T i j) k=T i (T j k)
def fB(n:Nat):Nat->Nat->Nat:=λi j=>(i+j)%n
variable{n:Nat}
theorem iZ(h:0<n):Grp n (fB n) where
 pos:=h
 cl:=λi j _ _=>kO _ h
 l0:=λi hi=>by unfold fB;rw[d9];exact bh hi
 r0:=λi hi=>by exact bh hi
 inv:=λi hi=>by
  by_cases h0:i=0
  .subst h0;exact⟨0,h,by simp[fB],by simp[fB]⟩
  .refine⟨n-i,by omega,?_,?_⟩<;>unfold fB
   .rw[show i+(n-i)=n by omega,om]
   .rw[show n-i+i=n by omega,om]
 as:=λi j k _ _ _=>by
  unfold fB;rw[oy,Nat.add_mod_mod,fQ]
def hG(n:Nat):Nat->Nat->Nat:=λi j=>
 (if i<n then(i%n+j%n)%n else(i%n+(n-j%n))%n)+n*((i/n+j/n)%2)
variable{i:Nat}
theorem half(h:i<2*n):(i<n/\i%n=i/\i/n=0)\/(n<=i/\i%n=i-n/\i/n=1):=by
 by_cases hi:i<n
 .exact .inl ⟨hi,bh hi,ek hi⟩
 .refine .inr ⟨by omega,?_,?_⟩
  .rw[Nat.mod_eq_sub_mod 0#2,bh 0#2]
  .exact Nat.div_eq_of_lt_le 0#2 0#2
variable{a b:Nat}
theorem eV(ha:a<n)(hb:b<n):hG n a b=(a+b)%n:=by
 unfold hG;rw[if_pos ha,ek ha,ek hb];simp
theorem HJ(ha:a<n):(n+a)/n=1:=Nat.div_eq_of_lt_le 0#2 0#2
theorem Qt(ha:a<n):(n+a)%n=a:=by rw[Nat.add_mod_left];exact bh ha
theorem iB(ha:a<n)(hb:b<n):hG n a (n+b)=n+(a+b)%n:=by
 unfold hG;rw[if_pos ha,ek ha,HJ hb];simp;omega
theorem iy(ha:a<n)(hb:b<n):hG n (n+a) b=n+(a+(n-b))%n:=by
 unfold hG;rw[if_neg 0#2,bh hb,ek hb,HJ ha];simp;omega
theorem iA(ha:a<n)(hb:b<n):hG n (n+a) (n+b)=(a+(n-b))%n:=by
 unfold hG;rw[if_neg 0#2,Qt hb,HJ ha,HJ hb];simp
theorem Qv(ha:a<n)(hb:b<n):(a+b)%n=if a+b<n then a+b else a+b-n:=by
 split
 .exact bh 0#2
 .rw[Nat.mod_eq_sub_mod 0#2,bh 0#2]
theorem Qj(ha:a<n)(hb:b<n):(a+(n-b))%n=if b<=a then a-b else a+n-b:=by
 have e:=Nat.add_sub_assoc (aM hb) a
 split
 .rename_i h
  rw[<-e,mX h,lr,bh (aN (oo a b) ha)]
 .rename_i h
  rw[bh (Nat.lt_of_lt_of_eq (Nat.add_lt_add_right (Nat.lt_of_not_le h) _) (Nat.add_sub_cancel' (aM hb))),e]
theorem lV(h:i<2*n):(i<n) \/ ∃a,a<n/\i=n+a:=by
 by_cases hi:i<n
 .exact .inl hi
 .exact .inr ⟨i-n,by omega,by omega⟩
variable{c:Nat}
theorem Ha:((a+b)%n+c)%n=(a+(b+c)%n)%n:=by rw[oy,Nat.add_mod_mod,fQ]
theorem Pc(hb:b<n)(hc:c<n):((a+(n-b))%n+(n-c))%n=(a+(n-(b+c)%n))%n:=by
 rw[oy,Qv hb hc]
 split
 .rename_i h
  have h1:n-b=n-(b+c)+c:=by rw[Nat.sub_add_eq,Nat.sub_add_cancel (Nat.le_sub_of_add_le' (aM h))]
  rw[h1,<-fQ,fQ _ c,Nat.add_sub_cancel' (aM hc),lr]
 .rename_i h
  rw[<-ls b (aM hc),ls n (Nat.sub_le_of_le_add (fj h)),mX (aM hb),fQ]
theorem Oc(hb:b<n)(hc:c<n):((a+(n-b))%n+c)%n=(a+(n-(b+(n-c))%n))%n:=by
 rw[oy,Qj hb hc]
 split
 .rename_i h
  rw[ls n h,mX (aM hb),fQ]
 .rename_i h
  have h':=aM (Nat.lt_of_not_le h);rw[Gy b n,<-ls n h',Nat.sub_sub_self (aD (oo c b) (aM hc)),<-lr (a+(c-b)) n,fQ a _ n,Gy _ n,<-Nat.add_sub_assoc h' n,mX (aM hb),fQ]
theorem yp(h:0<n):Grp (2*n) (hG n):=by
 have ml:∀x,x%n<n:=λx=>kO _ h;have cl:∀i j,i<2*n->j<2*n->hG n i j<2*n:=λi j hi hj=>by
  rcases lV hi with hi|⟨a,ha,rfl⟩<;>rcases lV hj with hj|⟨b,hb,rfl⟩
  .rw[eV hi hj];have:=ml (i+j);omega
  .rw[iB hi hb];have:=ml (i+b);omega
  .rw[iy ha hj];have:=ml (a+(n-j));omega
  .rw[iA ha hb];have:=ml (a+(n-b));omega
 refine⟨by omega,cl,λi hi=>?_,λi hi=>?_,λi hi=>?_,λi j k hi hj hk=>?_⟩
 .rcases lV hi with hi|⟨a,ha,rfl⟩
  .rw[eV h hi,d9,bh hi]
  .rw[iB h ha,d9,bh ha]
 .rcases lV hi with hi|⟨a,ha,rfl⟩
  .rw[eV hi h,Nat.add_zero,bh hi]
  .rw[iy ha h,Nat.sub_zero,lr,bh ha]
 .rcases lV hi with hi|⟨a,ha,rfl⟩
  .by_cases h0:i=0
   .subst h0;exact⟨0,by omega,by rw[eV h h];simp,by rw[eV h h];simp⟩
   .have hl:n-i<n:=by omega
    refine⟨n-i,by omega,?_,?_⟩
    .rw[eV hi hl,show i+(n-i)=n by omega,om]
    .rw[eV hl hi,show n-i+i=n by omega,om]
  .refine⟨_,by omega,?_,?_⟩<;>rw[iA ha ha,show a+(n-a)=n by omega,om]
 .rcases lV hi with hi|⟨a,ha,rfl⟩<;>rcases lV hj with hj|⟨b,hb,rfl⟩<;>rcases lV hk with hk|⟨c,hc,rfl⟩
  .rw[eV hi hj,eV hj hk,eV (ml _) hk,eV hi (ml _),Ha]
  .rw[eV hi hj,iB hj hc,iB (ml _) hc,iB hi (ml _),Ha]
  .rw[iB hi hb,iy hb hk,iy (ml _) hk,iB hi (ml _),Ha]
  .rw[iB hi hb,iA hb hc,iA (ml _) hc,eV hi (ml _),Ha]
  .rw[iy ha hj,eV hj hk,iy (ml _) hk,iy ha (ml _),Pc hj hk]
  .rw[iy ha hj,iB hj hc,iA (ml _) hc,iA ha (ml _),Pc hj hc]
  .rw[iA ha hb,iy hb hk,eV (ml _) hk,iA ha (ml _),Oc hb hk]
  .rw[iA ha hb,iA hb hc,iB (ml _) hc,iy ha (ml _),Oc hb hc]
def jv(m:Nat)(A B:Nat->Nat->Nat):Nat->Nat->Nat:=λi j=>A (i/m) (j/m)*m+B (i%m) (j%m)
variable{m:Nat}
theorem Ay(hb:b<m):(a*m+b)/m=a/\(a*m+b)%m=b:=by
 have hm:0<m:=by omega
 constructor
 .rw[kh,Nat.mul_add_div hm,ek hb];rfl
 .rw[kh,Nat.mul_add_mod,bh hb]
theorem tV{k:Nat}{A B:Nat->Nat->Nat}(ga:Grp k A)(gb:Grp m B):Grp (k*m) (jv m A B):=by
 have hm:=gb.pos;have dl:∀i,i<k*m->i/m<k:=λi hi=>Nat.div_lt_of_lt_mul (by rw[kh];exact hi);have rl:∀i,i%m<m:=λi=>kO _ hm;have lt:∀a b,a<k->b<m->a*m+b<k*m:=λa b ha hb=>by
  have:(a+1)*m<=k*m:=qA m ha;rw[Nat.add_mul]at this;omega
 refine⟨Nat.mul_pos ga.pos hm,λi j hi hj=>lt _ _ (ga.cl _ _ (dl i hi) (dl j hj)) (gb.cl _ _ (rl i) (rl j)),λi hi=>?_,λi hi=>?_,λi hi=>?_,λi j l hi hj hl=>?_⟩
 .unfold jv;rw[Nat.zero_div,Nat.zero_mod,ga.l0 _ (dl i hi),gb.l0 _ (rl i),kh];exact Nat.div_add_mod i m
 .unfold jv;rw[Nat.zero_div,Nat.zero_mod,ga.r0 _ (dl i hi),gb.r0 _ (rl i),kh];exact Nat.div_add_mod i m
 .obtain⟨a,ha,a1,a2⟩:=ga.inv _ (dl i hi)
  obtain⟨b,hb,b1,b2⟩:=gb.inv _ (rl i);obtain⟨p1,p2⟩:=Ay hb;refine⟨_,lt a b ha hb,?_,?_⟩<;>unfold jv<;>rw[p1,p2]
  .rw[a1,b1];simp
  .rw[a2,b2];simp
 .unfold jv
  obtain⟨p1,p2⟩:=Ay (gb.cl _ _ (rl i) (rl j));obtain⟨q1,q2⟩:=Ay (gb.cl _ _ (rl j) (rl l));rw[p1,p2,q1,q2,ga.as _ _ _ (dl i hi) (dl j hj) (dl l hl),gb.as _ _ _ (rl i) (rl j) (rl l)]
def Nv:List (List Nat):= [[0,1,2,3,4,5,6,7],[1,0,3,2,5,4,7,6],[2,3,1,0,6,7,5,4],[3,2,0,1,7,6,4,5],[4,5,7,6,1,0,2,3],[5,4,6,7,0,1,3,2],[6,7,4,5,3,2,1,0],[7,6,5,4,2,3,0,1]]
def gJ:Nat->Nat->Nat:=λi j=>(Nv.getD i []).getD j 0
def q1:Bool:=(aB 8).all λi=>(gJ 0 i==i)&&(gJ i 0==i)&&((aB 8).any λj=>(gJ i j==0)&&(gJ j i==0))&&(aB 8).all λj=>decide (gJ i j<8)&&(aB 8).all λk=>gJ (gJ i j) k==gJ i (gJ j k)
theorem PU:q1=true:=by decide +kernel
theorem CM:Grp 8 gJ:=by
 have h:=cN.mp PU;have g:=λi hi=>h i (cz.mpr hi);simp at g;refine⟨by decide,λi j hi hj=>((g i hi).2 j hj).1,λi hi=>(g i hi).1.1.1,λi hi=>(g i hi).1.1.2,λi hi=>?_,λi j k hi hj hk=>((g i hi).2 j hj).2 k hk⟩
 simp_all
structure Ord(m:Nat)(o p:Nat->Nat):Prop where
 ol:∀i,i<m->o i<m
 pl:∀i,i<m->p i<m
 po:∀i,i<m->p (o i)=i
 op:∀i,i<m->o (p i)=i
 o0:o 0=0
def pZ(T:Nat->Nat->Nat)(o p:Nat->Nat):Nat->Nat->Nat:=λi j=>p (T (o i) (o j))
theorem Cs{T:Nat->Nat->Nat}{o p:Nat->Nat}(g:Grp m T)(h:Ord m o p):Grp m (pZ T o p):=by
 have p0:=by have:=h.po 0 g.pos;rwa[h.o0]at this
 refine⟨g.pos,λi j hi hj=>h.pl _ (g.cl _ _ (h.ol i hi) (h.ol j hj)),λi hi=>?_,λi hi=>?_,λi hi=>?_,λi j k hi hj hk=>?_⟩
 .unfold pZ;rw[h.o0,g.l0 _ (h.ol i hi),h.po i hi]
 .unfold pZ;rw[h.o0,g.r0 _ (h.ol i hi),h.po i hi]
 .obtain⟨j,hj,a,b⟩:=g.inv _ (h.ol i hi)
  refine⟨_,h.pl j hj,?_,?_⟩<;>unfold pZ<;>rw[h.op j hj]<;>simp_all
 .unfold pZ
  rw[h.op _ (g.cl _ _ (h.ol i hi) (h.ol j hj)),h.op _ (g.cl _ _ (h.ol j hj) (h.ol k hk)),g.as _ _ _ (h.ol i hi) (h.ol j hj) (h.ol k hk)]
theorem tQ{α:Type}:∀(l:List α) (i:Nat) (h:i<2#4),(l[i]::l.eraseIdx i).Perm l
 |x::l,0,_=>by simp
 | x::l,i+1,h=>by
   have h':=by simpa using h
   have:=tQ l i h';exact(List.Perm.swap _ _ _).trans (this.cons x)
theorem GQ{l:List Nat}(nd:l.Nodup)(h:i<2#4):l.idxOf l[i]=i:=by
 grind
structure qr(m:Nat)(l:List Nat):Prop where
 perm:l.Perm (aB m)
 z:l[0]?=some 0
def oF(l:List Nat):Nat->Nat:=λi=>l.getD i 0
def pF(l:List Nat):Nat->Nat:=λx=>l.idxOf x
section
variable {m:Nat}{l:List Nat}
theorem qr.len(h:qr m l):l.length=m:=by have:=h.perm.length_eq;simpa using this
theorem qr.nd(h:qr m l):l.Nodup:=h.perm.nodup_iff.mpr mO
theorem qr.mem(h:qr m l){x:Nat}:x∈l↔x<m:=by rw[h.perm.mem_iff,cz]
theorem qr.get(h:qr m l)(hi:i<m):l[i]?=some (oF l i):=by
 have hl:i<2#4:=by rw[h.len];omega
 simp[oF,hl]
theorem qr.ord(h:qr m l):Ord m (oF l) (pF l) where
 ol:=λi hi=>h.mem.mp (cY (h.get hi))
 pl:=λx hx=>by
  have:=BU.mpr (h.mem.mpr hx);rw[h.len]at this;exact this
 po:=λi hi=>by
  have hl:i<2#4:=by rw[h.len];omega
  have e:oF l i=l[i]:=by simp[oF,hl]
  rw[e];exact GQ h.nd hl
 op:=λx hx=>by
  have h1:=BU.mpr (h.mem.mpr hx);unfold oF pF
  simp_all
 o0:=by
  unfold oF;rw[zM,h.z];rfl
end
theorem Cq{xs:List Nat}(hm:0<m)(h:xs.Perm (dF 1 (m-1))):qr m (0::xs):=by
 refine⟨?_,rfl⟩;have e:aB m=0::dF 1 (m-1):=by
  rw[jn];have:m=(m-1)+1:=by omega
  rw[this,mP];simp
 simp_all
section
variable {m:Nat}{T:Nat->Nat->Nat}
theorem Grp.cancel(g:Grp m T)(ha:a<m)(hb:b<m)(hc:c<m)(h:T a b=T a c):b=c:=by
 obtain⟨i,hi,h1,h2⟩:=g.inv a ha;have e1:T i (T a b)=b:=by rw[<-g.as i a b hi ha hb,h2,g.l0 b hb]
 have e2:T i (T a c)=c:=by rw[<-g.as i a c hi ha hc,h2,g.l0 c hc]
 simp_all
theorem Grp.cancelR(g:Grp m T)(ha:a<m)(hb:b<m)(hc:c<m)(h:T b a=T c a):b=c:=by
 obtain⟨i,hi,h1,h2⟩:=g.inv a ha;have e1:T (T b a) i=b:=by rw[g.as b a i hb ha hi,h1,g.r0 b hb]
 have e2:T (T c a) i=c:=by rw[g.as c a i hc ha hi,h1,g.r0 c hc]
 simp_all
theorem Grp.inv1(g:Grp m T)(hi:i<m):∃j,j<m/\T i j=0/\T j i=0 /\ ∀k,k<m->T i k=0->k=j:=by
 obtain⟨j,hj,h1,h2⟩:=g.inv i hi;exact⟨j,hj,h1,h2,λk hk h=>g.cancel hi hk hj (h.trans h1.symm)⟩
end
theorem DY:∀(m:Nat) (l:List Nat),l.Nodup->(∀x∈l,x<m)->2#4<=m
 | 0,l,_,h=>by
   cases l with
   |nil=>simp
   |cons x l=>exact absurd (h x 0#3) 0#2
 | m+1,l,nd,h=>by
   have h1:=DY m _ (nd.erase m) λx hx=>by
    grind
   grind
theorem oQ{p:Nat->Bool}:∀(n s k:Nat),s<=k->k<s+n->p k=true->(∀j,s<=j->j<k->p j=false)->((dF s n).filter p)[0]?=some k
 |0,s,k,h1,h2,_,_=>by omega
 | n+1,s,k,h1,h2,hp,hn=>by
   rw[mP,List.filter_cons];by_cases hs:s=k
   .subst hs;simp[hp]
   .rw[hn s 1#8 (by exact fG 1#1 1#1)]
    simp only[hU,if_false];exact oQ n (s+1) k (by exact fG 1#1 1#1) 0#2 hp λj h1 h2=>hn j (by exact aM 1#1) h2
theorem idx_map{f:Nat->Nat}{x:Nat}:∀(n s k:Nat),s<=k->k<s+n->f k=x->(∀j,s<=j->j<k->f j≠x)->((dF s n).map f).idxOf x=k-s
 |0,s,k,h1,h2,_,_=>by omega
 | n+1,s,k,h1,h2,hp,hn=>by
   rw[mP,gU,List.idxOf_cons];by_cases hs:s=k
   .subst hs;simp[hp]
   .have hb:(f s==x)=false:=by simpa using hn s 1#8 (by exact fG 1#1 1#1)
    rw[hb];simp only[cond_false];rw[idx_map n (s+1) k (by exact fG 1#1 1#1) 0#2 hp λj h1 h2=>hn j (by exact aM 1#1) h2];omega
end _W
namespace _W
open _L _G
def Ex(S S':Sto):Prop:= ∃t,S'=S++t
theorem Ex.refl(S:Sto):Ex S S:=⟨[],by simp⟩
variable{S S1 S2:Sto}
theorem Ex.trans(a:Ex S S1)(b:Ex S1 S2):Ex S S2:=by
 obtain⟨t,rfl⟩:=a;obtain⟨u,rfl⟩:=b;exact⟨t++u,by simp⟩
theorem Ex.push(S:Sto)(c:Cell):Ex S (S++[c]):=⟨_,rfl⟩
variable{S':Sto}{n:Nat}
theorem Ex.get(h:Ex S S')(hn:n<0#5):S'[n]?=S[n]? := by
 obtain⟨t,rfl⟩:=h;exact aT hn
variable{c:Cell}
theorem Ex.some(h:Ex S S')(e:S[n]?=some c):S'[n]?=some c:=by
 rw[h.get (ah.mp e).1];omega
theorem Ex.len(h:Ex S S'):0#5<=S'.length:=by
 obtain⟨t,rfl⟩:=h;simp
def mR(n:Nat)(S:Sto):Prop:= ∃s b,S[n]?=some (.lst [.int s,.bl b])
structure Stp(n:Nat)(S S':Sto):Prop where
 len:S.length<=S'.length
 same:∀m,m<S.length->m≠n->S'[m]?=S[m]?
 st:mR n S'
theorem Stp.trans{n:Nat}{S S1 S2:Sto}(a:Stp n S S1)(b:Stp n S1 S2):Stp n S S2:=
 ⟨aD a.len b.len,λm h1 h2=>(b.same m (ao h1 a.len) h2).trans (a.same m h1 h2),b.st⟩
theorem mR.lt(h:mR n S):n<0#5:=by
 obtain⟨s,b,e⟩:=h;exact(ah.mp e).1
theorem mR.ex(h:mR n S)(e:Ex S S'):mR n S':=by
 obtain⟨s,b,q⟩:=h;exact⟨s,b,e.some q⟩
theorem Stp.ex{n:Nat}{S S':Sto}(h:mR n S)(e:Ex S S'):Stp n S S':=⟨e.len,λm h1 _=>e.get h1,h.ex e⟩
variable{m:Nat}
theorem Stp.some(h:Stp n S S')(hm:m≠n)(e:S[m]?=some c):S'[m]?=some c:=by
 rw[h.same m (ah.mp e).1 hm];omega
theorem AV{many:Int}(h:mR n S)(hm:0<many)(YX:many<1073741824):
  ∃r S',ba [.ref n,.int many] S=some (.int r,S')/\0<=r/\r<many/\Stp n S S'/\S'.length=0#5:=by
 obtain⟨s,b,e⟩:=h;have hn:=(ah.mp e).1;have hd:sy many:=⟨hm,YX⟩;have hd8:sy 8:=15#9;cases b with
 | true=>
   refine⟨s%many,S.set n (.lst _),?_,zE _ 0#2,ui _ hm,⟨by simp,λm h1 h2=>by rw[aE (cX h2)],⟨s/many,true,by rw[aJ hn]⟩⟩,by simp⟩;simp[ba,_G.run,ko,aZ,sIf,cOf,m2,ae,mC,bnd,oIx,iS,d6,getL,e,atI,ixN,bA,oMod,oDiv,hm,hd,nI,bZ]
 | false=>
   have b1:∀x m,0<m->m<4294967296->jz (x%m) (x%m):=λx m h1 h2=>by
    have h3:=zE x (show m≠0 by omega);have h4:=ui x h1;exact .inl ⟨by omega,by omega⟩
   have hg:∀c,(S.set n c)[n]?=Option.some c:=λc=>aJ hn;have k1:jz s 48271:= .inr 15#9;have k2:=b1 (s*48271+29) 2147483647 0#1 0#1;generalize Ug:(s*48271+29)%2147483647=s1 at k2;have k3:jz 39373 s1:= .inl 15#9;have k4:=b1 (s1*s1+39373*s1+7) 2147483629 0#1 0#1;generalize Wq:(s1*s1+39373*s1+7)%2147483629=m1 at k4;have k5:jz 16807 m1:= .inl 15#9;refine⟨(m1*m1+16807*m1)%2147483587/8%many,S.set n (.lst _),?_,zE _ 0#2,ui _ hm,⟨by simp,λm h1 h2=>by rw[aE (cX h2)],⟨s1,false,by rw[aJ hn]⟩⟩,by simp⟩;simp[ba,_G.run,ko,aZ,sIf,cOf,m2,ae,mC,bnd,oIx,iS,d6,getL,e,atI,ixN,bA,oMod,oDiv,bR,d7,hm,hd,nI,bZ,dk,hg,k1,k2,k3,k4,k5,Ug,Wq,hd8]
theorem tz{i:Nat}{b:MS}(P:Nat->Rho->Sto->Prop):∀(us:List U) (k:Nat) (G:Rho) (S:Sto),P k G S ->
  (∀(j:Nat) (u:U) (G:Rho) (S:Sto),us[j]?=some u->P (k+j) G S->∃Y4 S',b 14#5 S=some 6#9/\P (k+j+1) Y4 S') ->
  ∃Y4 S',qg i b us G S=some 6#9/\P (k+0#9) Y4 S'
 |[],k,G,S,h,_=>⟨G,S,rfl,h⟩
 | u::us,k,G,S,h,st=>by
   obtain⟨Y3,S1,e1,h1⟩:=st 0 u G S rfl h;obtain⟨Y8,S2,e2,h2⟩:=tz P us _ _ S1 h1 λj v G S hj hp=>by
    have:=st (j+1) v G S 14#2 (by grind);rw[show k+(j+1)+1=k+1+j+1 by omega]at this;omega
   refine⟨_,S2,?_,by rw[show k+(u::us).length=k+1+0#9 by grind];omega⟩;show aft _ _=_;rw[e1];exact e2
theorem mz{e:ME}{G:Rho}(g:Nat->U)(P:Nat->Sto->Prop):∀(us:List U) (k:Nat) (acc:List U) (S:Sto),P k S ->
  (∀(j:Nat) (u:U) (S:Sto),us[j]?=some u->P (k+j) S->∃S',e 11#9 S=some (g (k+j),S')/\P (k+j+1) S') ->
  ∃S',eB cTT e G us acc S=some (acc++(aB 0#9).map (λj=>g (k+j)),S')/\P (k+0#9) S'
 |[],k,acc,S,h,_=>⟨S,by simp[eB],h⟩
 | u::us,k,acc,S,h,st=>by
   obtain⟨S1,e1,h1⟩:=st 0 u S rfl h;obtain⟨S2,e2,h2⟩:=mz g P us (k+1) _ S1 h1 λj v S hj hp=>by
    have:=st (j+1) v S 14#2 (by rw[show k+(j+1)=k+1+j by omega];omega);rw[show k+(j+1)=k+1+j by omega]at this;omega
   refine⟨S2,?_,by rw[show k+(u::us).length=k+1+0#9 by simp;omega];omega⟩;show bnd _ _=_;simp only[cTT,aA,if_true];rw[e1];simp only[aA];rw[e2];simp only[fX,jK,Prod.mk.injEq,and_true];rw[bP,List.range_succ_eq_map,gU,eP];simp only[List.singleton_append,List.append_cancel_left_eq,List.cons.injEq,true_and];apply d5
   grind
def As(n:Nat)(g:Nat->U):U:= .tup ((aB n).map g)
theorem wO(h:n<big):okR (n:Int):=by
 unfold big at h;exact⟨by simp_all,by omega⟩
variable{G:Rho}{S0:Sto}{a:ME}{u:U}
theorem kW(ha:a G S=some (u,S0)):aa a ai G S=some ([u],S0):=by
 simp[aa,ai,ha,aA]
variable{j:Int}
theorem K6{a:MA}(ha:a G S=some ([.int j],S0))(h:okR j):iR1 a G S=some (.imm (aY 0 j.toNat),S0):=by
 unfold iR1;rw[ha];exact if_pos h
theorem mG(ha:a G S=some (.int n,S0))(h:n<big):iR1 4#1 G S=some (.imm (aY 0 n),S0):=by
 rw[K6 (kW ha) (wO h),lg]
variable{e:ME}{us ys:List U}
theorem jC{it:MI}{t:MT}(hi:it G S=some (.imm us,S0))(h:eB t e G us [] S0=some (ys,S1))(hz:2#9<big):dc it t e G S=some (.ref 6#1,S1++[.lst ys]):=by
 simp only[dc,hi,aA,AS,h];exact if_pos hz
theorem eY(h:a G S=some (.ref 6#1,S1++[.lst ys])):mFn bO 4#1 G S=some (.tup ys,S1++[.lst ys]):=by
 unfold mFn;rw[kW h];show(d6 _ _).map _=_;have:d6 (S1++[Cell.lst ys]) (.ref 6#1)=some ys:=by
  show getL _ _=_;unfold getL;simp
 rw[this];rfl
theorem FE{S:Sto}(ha:a G S=some (.int n,S0))(hn:n<big)(g:Nat->U)(P:Nat->Sto->Prop)(h0:P 0 S0)
  (hs:∀(j:Nat) (S:Sto),j<n->P j S->∃S',e (G++[some (.int j)]) S=some (g j,S')/\P (j+1) S'):
  ∃S',mFn bO (aa (dc (iR1 4#1) cTT e) ai) G S=some (As n g,S'++[.lst ((aB n).map g)])/\P n S':=by
 obtain⟨S1,e1,h1⟩:=mz g P (aY 0 n) 0 [] S0 h0 λj u S hj hp=>by
  have hl:=by have:=(ah.mp hj).1;simpa [aY]using this
  have hu:(aY 0 n)[j]?=some (.int j):=by simp[aY,hl]
  rw[hu]at hj;cases hj;simpa using hs j S hl (by simpa using hp)
 have hlen:(aY 0 n).length=n:=by simp[aY]
 simp[hlen]at e1 h1;exact⟨S1,eY (jC (mG ha hn) e1 6#3),h1⟩
theorem PJ{S:Sto}(ha:a G S=some (.tup us,S0))(hn:0#9<big)(g:Nat->U)(P:Nat->Sto->Prop)(h0:P 0 S0)
  (hs:∀(j:Nat) (u:U) (S:Sto),us[j]?=some u->P j S->∃S',e 11#9 S=some (g j,S')/\P (j+1) S'):
  ∃S',mFn bO (aa (dc (fM a) cTT e) ai) G S=some (As us.length g,S'++[.lst ((aB 0#9).map g)])/\P us.length S':=by
 obtain⟨S1,e1,h1⟩:=mz g P us 0 [] S0 h0 λj u S hj hp=>by
  simpa using hs j u S hj (by simpa using hp)
 simp at e1 h1;exact⟨S1,eY (jC (by unfold fM;rw[ha];rfl) e1 6#3),h1⟩
def k7(m:Nat)(T:Nat->Nat->Nat)(i:Nat):U:=As m λj=>.int (T i j)
def tab(m:Nat)(T:Nat->Nat->Nat):U:=As m (k7 m T)
variable{i:Nat}
theorem mF{α:Type}{f:Nat->α}(h:i<m):atI ((aB m).map f) (i:Int)=some (f i):=by
 simp[atI,ixN,h]
theorem j1(h:0<n)(hn:n<big):∃S',bU [.int n] S=some (tab n (fB n),S')/\Ex S S':=by
 have key:∃S',mFn bO (aa (dc (iR1 4#8) cTT (mFn bO (aa (dc (iR1 4#8) cTT (m2 oMod (m2 bR 0#6 0#7) 0#4)) ai))) ai) [4#0] S=some (As n (k7 n (fB n)),S'++[.lst ((aB n).map (k7 n (fB n)))])/\Ex S S':=by
  refine FE (by simp[ae]) hn _ (λ_ S'=>Ex S S') (Ex.refl S) λi S1 hi hx=>?_;obtain⟨S2,e2,h2⟩:=FE (G:= [4#0,5#1]) (S:=S1) (a:=ae 0) (e:=m2 oMod (m2 bR 0#6 0#7) 0#4) (by simp[ae]) hn (λj=>.int (fB n i j)) (λ_ S'=>S'=S1) rfl λj S' hj hx=>by
   refine⟨S',?_,hx⟩;have h0:(0:Int)<n:=by omega
   simp only[m2,ae,vO,oq,Dj,Dk,aA,bR,oMod,h0,if_true,fB,mY,zF]
  subst h2;exact⟨_,e2,hx.trans 3#7⟩
 obtain⟨S',e,hx⟩:=key;refine⟨S'++[.lst ((aB n).map (k7 n (fB n)))],?_,hx.trans 3#7⟩;simp[bU,_G.run,lA,bZ,bP,fK,gU,List.map_nil,Nat.sub_self,List.replicate_zero,g8,if_true,e,aA,tab]
theorem vF(h:0<n)(h2:n<1000):sy (n:Int):=⟨by omega,by omega⟩
theorem rL{i:Int}(h1: -1000000000<=i)(h2:i<=1000000000):jz i j:= .inl ⟨by omega,by omega⟩
theorem vA(h:n<1000000):jz (n:Int) j:=rL 6#3 0#2
def Agr(L:List Nat)(Y9 G:Rho):Prop:=G.length=Y9.length /\ ∀i,i∉L->G[i]?=Y9[i]?
theorem Agr.refl(L:List Nat)(G:Rho):Agr L G G:=⟨rfl,λ_ _=>rfl⟩
variable{L:List Nat}{Y9:Rho}{v:Option U}
theorem Agr.set(h:Agr L Y9 G)(hi:i∈L):Agr L Y9 (G.set i v):=
 ⟨by rw[g9];exact h.1,λj hj=>by rw[aE (by grind)];exact h.2 j hj⟩
structure Sm(b:Nat)(S0 S:Sto):Prop where
 len:S0.length<=S.length
 same:∀m,m<b->S[m]?=S0[m]?
theorem Sm.trans{b:Nat}{S0 S1 S2:Sto}(a:Sm b S0 S1)(c:Sm b S1 S2):Sm b S0 S2:=⟨aD a.len c.len,λm h=>(c.same m h).trans (a.same m h)⟩
variable{b:Nat}
theorem Sm.ex(h:Ex S0 S)(hb:b<=S0.length):Sm b S0 S:=⟨h.len,λm hm=>h.get (ao hm hb)⟩
theorem Sm.set(h:Sm b S0 S)(hn:b<=n):Sm b S0 (S.set n c):=
 ⟨by rw[g9];exact h.len,λm hm=>by rw[aE 0#2];exact h.same m hm⟩
structure Wr(r:Nat)(S S':Sto):Prop where
 len:S.length<=S'.length
 same:∀m,m<S.length->m≠r->S'[m]?=S[m]?
theorem Wr.trans{r:Nat}{S S1 S2:Sto}(a:Wr r S S1)(b:Wr r S1 S2):Wr r S S2:=
 ⟨aD a.len b.len,λm h1 h2=>(b.same m (ao h1 a.len) h2).trans (a.same m h1 h2)⟩
theorem Wr.refl(r:Nat)(S:Sto):Wr r S S:=⟨aq _,λ_ _ _=>rfl⟩
variable{r:Nat}
theorem Wr.ex(h:Ex S S'):Wr r S S':=⟨h.len,λm hm _=>h.get hm⟩
theorem Wr.set(r:Nat)(S:Sto)(c:Cell):Wr r S (S.set r c):=⟨by simp,λm _ h=>aE (cX h)⟩
theorem Wr.sm(h:Wr r S S')(hb:b<=r)(hr:b<=0#5):Sm b S S':=⟨h.len,λm hm=>h.same m (by exact ao 0#2 0#2) 0#2⟩
theorem oS(h:i<G.length):(G.set i v)[i]?=some v:=aJ h
theorem var_eq(h:G[i]?=some (some u)):ae i G S=some (u,S):=by simp[ae,h]
variable{b:MS}
theorem FG(ha:a G S=some (.int n,S))(h:n<big):fv i (iR1 4#1) b G S=qg i b (aY 0 n) G S:=by
 unfold fv;rw[mG ha h];rfl
theorem mE{G:Rho}{S:Sto}(ha:a G S=some (.int n,S))(h:n<big)(P:Nat->Rho->Sto->Prop)(h0:P 0 G S)
  (st:∀(j:Nat) (G:Rho) (S:Sto),j<n->P j G S->∃Y4 S',b (G.set i (some (.int j))) S=some 6#9/\P (j+1) Y4 S'):
  ∃Y4 S',fv i (iR1 4#1) b G S=some 6#9/\P n Y4 S':=by
 rw[FG ha h];obtain⟨Y4,S',e,q⟩:=tz P (aY 0 n) 0 G S h0 λj u G S hj hp=>by
  have hl:=by have:=(ah.mp hj).1;simpa [aY]using this
  have hu:(aY 0 n)[j]?=some (.int j):=by simp[aY,hl]
  rw[hu]at hj;cases hj;simpa using st j G S hl (by simpa using hp)
 have hlen:(aY 0 n).length=n:=by simp[aY]
 rw[hlen,d9]at q;exact⟨_,S',e,q⟩
variable{row:List U}
theorem append_eq{o:ME}(ho:o G S=some (.ref r,S))(ha:a G S=some (u,S1))(hr:S[r]?=some (Cell.lst row))(Z':S1[r]?=some (Cell.lst row))(hl:row.length<big):
  dj (mML bV o 4#1) G S=some (.nx,G,S1.set r (Cell.lst (row++[u]))):=by
 simp[dj,mML,ho,aA,getL,hr,kW ha,bV,Z',hl]
theorem j0(ha:a G S=some (.ref r,S))(hr:S[r]?=some (Cell.lst row)):mFn bO 4#1 G S=some (.tup row,S):=by
 simp[mFn,kW ha,aA,bO,d6,getL,hr]
variable{T:Nat->Nat->Nat}
theorem build{fs rs is js:Nat}{Rl:MS}(hm:m<big)(h1:rs∈L)(h2:is∈L)(h3:js∈L)(h4:fs∉L)(d1:rs≠is)(d2:js≠is)(d3:js≠rs)
  (l1:rs<Y9.length) (l2:is<Y9.length) (l3:js<Y9.length) (hf:Y9[fs]?=some (some (.ref S0.length)))
  (ha:∀G S,Agr L Y9 G->Sm S0.length S0 S->a G S=some (.int m,S))
  (hb: ∀(i j r:Nat) (G:Rho) (S:Sto) (row:List U),i<m->j<m->Agr L Y9 G->G[is]? = some (some (.int i))->G[js]? = some (some (.int j))->G[rs]? = some (some (.ref r))->Sm S0.length S0 S->S0.length<r->S[r]? = some (Cell.lst row)->row.length<big ->
   ∃Y4 S',Rl G S=some (.nx,Y4,S')/\Agr L Y9 Y4/\Y4[is]? = some (some (.int i))/\Y4[rs]? = some (some (.ref r))/\Wr r S S'/\S'[r]? = some (Cell.lst (row++[.int (T i j)]))):
  ∃Y4 S',fv is (iR1 4#1) (aZ (bA rs (cq ai)) (aZ (fv js (iR1 4#1) Rl) (dj (mML bV (ae fs) (aa (mFn bO (aa (ae rs) ai)) ai))))) Y9 (S0++5#4)=some 6#9 /\
   Agr L Y9 Y4/\Sm S0.length S0 S'/\S'[S0.length]?=some (Cell.lst ((aB m).map (k7 m T))):=by
 have s0:Sm _ S0 (S0++5#4):=Sm.ex 3#7 1#8;refine mE (P:=λk G S=>Agr L _ G/\Sm _ S0 S/\S0.length<0#5/\S[S0.length]?=some (Cell.lst ((aB k).map _))) (ha _ _ (Agr.refl _ _) s0) hm ⟨Agr.refl _ _,s0,by simp,by simp⟩ ?_ |>.imp λY4 h=>h.imp λS' h=>⟨h.1,h.2.1,h.2.2.1,h.2.2.2.2⟩
 rintro i G S hi ⟨g1,g2,g3,g4⟩;have e0:bA rs (cq ai) (G.set is (some (.int i))) S=some (.nx,(G.set is (some (.int i))).set rs (some (.ref 0#5)),S++5#4):=by
  have hz:([]:List U).length<=big:=ee _;simp[bA,cq,ai,aA,if_true]
 have ga:Agr L _ ((G.set is (some (.int i))).set rs (some (.ref 0#5))):=(g1.set h2).set h1;have gs:Sm _ S0 (S++5#4):=g2.trans (Sm.ex 3#7 g2.len);obtain⟨Y3,S1,e1,q1,q2,q3,q4,q5⟩:=mE (P:=λk Y3 S1=>Agr L _ Y3/\Y3[is]?=some _/\Y3[rs]?=some _/\Wr _ _ S1/\S1[0#5]?=some (Cell.lst ((aB k).map _)))
  (ha _ _ ga gs) hm ⟨ga,by rw[aE d1,oS (by rw[g1.1];exact l2)],by rw[oS (by rw[g9,g1.1];exact l1)],Wr.refl _ _,by simp⟩ (by
   rintro j Y3 S1 hj ⟨q1,q2,q3,q4,q5⟩;have TZ:=gs.trans (q4.sm (aM g3) 12#6);obtain⟨Y8,S2,f1,f2,f3,f4,f5,f6⟩:=hb i j _ _ S1 _ hi hj (q1.set h3) (by rw[aE d2];exact q2) (oS (by rw[q1.1];exact l3)) (by rw[aE d3];exact q3) TZ g3 q5 (by rw[aF,bf];exact bg 1#1 1#1)
   exact⟨_,S2,f1,f2,f3,f4,q4.trans f5,by rw[f6,jJ,cZ];rfl⟩)
 have g5:S1[S0.length]?=some (Cell.lst ((aB i).map (k7 m T))):=by
  rw[q4.same _ (by simp;exact uP 1#1) (by exact aG 1#1),(Ex.push S _).get g3];exact g4
 have TZ:=gs.trans (q4.sm (aM g3) 12#6);have R4:ae fs _ S1=some _:=var_eq (by rw[q1.2 fs h4];exact hf);have e2:=append_eq R4 (j0 (var_eq q3) q5) g5 g5 (by rw[aF,bf];exact bg 1#1 1#1);refine⟨_,S1.set _ (Cell.lst ((aB (i+1)).map (k7 m T))),?_,q1,TZ.set 1#8,?_,?_⟩
 .simp only[aZ,e0,e1,e2]
  rw[jJ,cZ];rfl
 .rw[g9];have:=q4.len;simp at this;exact bg 1#1 1#1
 .exact aJ (by have:=q4.len;simp at this;exact bg 1#1 1#1)
def vZ:MS:=aZ (bA 5 (m2 oMod (m2 bR (m2 oMod 0#7 0#4) (m2 d7 (m2 oIx (cq (aa 1#6 (aa (m1 mQ 1#6) ai))) (m2 oDiv 0#7 0#4)) (m2 oMod (ae 4) 0#4))) 0#4)) (dj (mML bV (ae 3) (aa (m2 bR (ae 5) (m2 d7 0#4 (m2 oMod (m2 bR (m2 oDiv 0#7 0#4) (m2 oDiv (ae 4) 0#4)) 2#7))) ai)))
variable{f:Nat}
theorem B5{n i c:Int}{x y:Option U}(h0:0<n)(hd:sy n)(hc:atI [U.int 1,U.int (-1)] (i/n)=some (.int c))(k1:jz c (j%n))(k2:jz n ((i/n+j/n)%2))
  (hr:(S++[Cell.lst [U.int 1,U.int (-1)]])[r]?=some (Cell.lst row)) (hl:row.length<big):
  vZ ([some (U.int n),some (U.ref f),some (U.int i),some (U.ref r),x,y].set 4 (some (U.int j))) S =
   some (Fl.nx,[some (U.int n),some (U.ref f),some (U.int i),some (U.ref r),some (U.int j),some (U.int ((i%n+c*(j%n))%n))],(S++[Cell.lst [U.int 1,U.int (-1)]]).set r (Cell.lst (row++[U.int ((i%n+c*(j%n))%n+n*((i/n+j/n)%2))]))):=by
 have Xx:2<=big:=by decide
 simp[vZ,aZ,bA,m2,m1,ae,mC,cq,aa,ai,bnd,oMod,bR,d7,oDiv,oIx,iS,mQ,d6,getL,h0,hd,Xx,hc,k1,k2,dj,mML,bV,hr,hl]
variable{j:Nat}
theorem DV{x y:Option U}(hn:0<n)(Ya:n<1000)(hi:i<2*n)(hj:j<2*n)(hr:S[r]?=some (Cell.lst row))(hl:row.length<big):
  ∃z,vZ ([some (U.int n),some (U.ref f),some (U.int i),some (U.ref r),x,y].set 4 (some (U.int j))) S =
   some (Fl.nx,[some (U.int n),some (U.ref f),some (U.int i),some (U.ref r),some (U.int j),z],(S++[Cell.lst [U.int 1,U.int (-1)]]).set r (Cell.lst (row++[U.int (hG n i j:Nat)]))):=by
 have hd:=vF hn Ya;have h0:(0:Int)<n:=by omega
 have ZX:=(Ex.push S (Cell.lst [U.int 1,U.int (-1)])).some hr;have hk:jz n ((i/n+j/n)%2):=vA (by exact ao 0#2 0#1);have hc:∃c:Int,atI [U.int 1,U.int (-1)] (i/n)=some (.int c)/\jz c (j%n)/\(i%n+c*(j%n))%n+n*((i/n+j/n)%2)=(hG n i j):=by
  rcases half hi with⟨h1,h2,h3⟩|⟨h1,h2,h3⟩
  .refine⟨1,?_,rL 0#1 0#1,?_⟩
   .have:(i:Int)/n=0:=by rw[<-xI,h3];rfl
    rw[this];rfl
   .unfold hG<;>simp_all
  .refine⟨-1,?_,rL 0#1 0#1,?_⟩
   .have:(i:Int)/n=1:=by rw[<-xI,h3];rfl
    rw[this];rfl
   .unfold hG
    have hjm:j%n<n:=kO _ hn;rw[if_neg 0#2];have e1:(i%n + -1*((j:Int)%n))%n=((i%n+(n-j%n))%n:Nat):=by
     have e2:((n-j%n:Nat):Int)=n-j%n:=by omega
     rw[mY,zF,e2,mY];rw[show i%n+(n-j%n)=(i%n + -1*((j:Int)%n))+n by omega,Int.add_emod_right]
    rw[e1];rfl
 obtain⟨c,c1,c2,c3⟩:=hc;rw[<-c3];exact⟨_,B5 h0 hd c1 c2 hk ZX hl⟩
variable{Y3:Rho}
theorem aW{a:MS}(h:a G S=some (.nx,Y3,S1)):aZ a b G S=b Y3 S1:=by simp[aZ,h]
theorem bC(h:e G S=some (u,S1)):bZ e G S=some (.rt u,G,S1):=by simp[bZ,h,aA]
theorem bK(h:e G S=some (u,S1)):bA i e G S=some (.nx,G.set i (some u),S1):=by simp[bA,h,aA]
theorem mB:cq ai G S=some (.ref 0#5,S++5#4):=by
 simp[cq,ai,aA]
theorem bL{k:Nat}(hl:0#9=k)(h:b 15#2 S=some (.rt u,G,S1)):_G.run k n b us S=some (u,S1):=by
 simp[_G.run,hl,h]
theorem Sm.toEx(h:Sm S.length S S'):Ex S S':=by
 refine⟨S'.drop 0#5,List.ext_getElem? λi=>?_⟩;by_cases hi:i<0#5
 .rw[aT hi];exact h.same i hi
 .rw[bI 6#3,List.getElem?_drop];grind
theorem Qw(h:G.length=6):∃a b c d e f,G=[a,b,c,d,e,f]:=by
 have k:∀{n:Nat}{l:Rho},2#4=n+1->∃a r,l=a::r/\9#3=n:=λ{n l} h=>by
  cases l with
  |nil=>cases h
  |cons a r=>exact⟨a,r,rfl,zL h⟩
 obtain⟨a,r1,rfl,h1⟩:=k h;obtain⟨b,r2,rfl,h2⟩:=k h1;obtain⟨c,r3,rfl,h3⟩:=k h2;obtain⟨d,r4,rfl,h4⟩:=k h3;obtain⟨e,r5,rfl,h5⟩:=k h4;obtain⟨f,r6,rfl,h6⟩:=k h5
 grind
theorem yD(hn:0<n)(Ya:n<1000):∃S',fC [.int n] S=some (tab (2*n) (hG n),S')/\Ex S S':=by
 have ZC:2*n<big:=by unfold big;omega
 obtain⟨Y3,S1,e1,q1,q2,q3⟩:=build (fs:=1) (rs:=3) (is:=2) (js:=4) (L:= [2,3,4,5]) (Y9:= [4#0,some _,none,none,none,none]) (a:=m2 d7 2#7 0#4)
  ZC 0#1 0#1 0#1 0#1 0#1 0#1 0#1 0#3 0#3 0#3 rfl
  (λG S' g s=>by
   have h0:=g.2 0 0#1;have hk:jz 2 n:=rL 0#1 0#1;simp only[m2,mC,aA,var_eq h0,d7,hk]
   rfl)
  (λi j r G S' row hi hj g gi gj gr s hr he hl=>by
   obtain⟨a,b,c,d,e,f,rfl⟩:=Qw g.1;have h0:=g.2 0 0#1;have h1:=g.2 1 0#1;simp at h0 h1 gi gj gr;subst h0 h1 gi gj gr;obtain⟨z,ez⟩:=DV (x:=none) hn Ya hi hj he hl;refine⟨_,_,ez,⟨rfl,λk hk=>?_⟩,rfl,rfl,(Wr.ex 3#7).trans (Wr.set _ _ _),?_⟩
   .match k with
    |0=>rfl
    |1=>rfl
    |2=>exact absurd 0#1 hk
    |3=>exact absurd 0#1 hk
    |4=>exact absurd 0#1 hk
    |5=>exact absurd 0#1 hk
    |k+6=>rfl
   ·exact aJ (by have:=(ah.mp he).1;simp;exact uP (by assumption)))
 have e2:=j0 (var_eq (by rw[q1.2 1 0#1];rfl)) q3;refine⟨S1,bL (G:=Y3) rfl ?_,?_⟩
 .exact(aW (bK mB)).trans ((aW e1).trans (bC e2))
 .exact q2.toEx
section
variable {G:Rho}{S S1 S2:Sto}{a b:ME}
theorem op2{f:F2}{x y:U}{r:Res U}(ha:a G S=some (x,S1))(hb:b G S1=some (y,S2))(h:f x y S2=r):m2 f a b G S=r:=by simp[m2,ha,hb,aA,h]
variable{z:Int}
theorem Kn(ha:a G S=some (.tup us,S1))(hb:b G S1=some (.int z,S2))(h:atI us z=some u):m2 oIx a b G S=some (u,S2):=op2 ha hb (by simp[oIx,iS,d6,h])
theorem so(ha:a G S=some (.ref n,S1))(hb:b G S1=some (.int z,S2))(hn:S2[n]?=some (Cell.lst us))(h:atI us z=some u):m2 oIx a b G S=some (u,S2):=op2 ha hb (by simp[oIx,iS,d6,getL,hn,h])
variable{x y:Int}
theorem Np(ha:a G S=some 7#2)(hb:b G S1=some 8#0):m2 bR a b G S=some (.int (x+y),S2):=op2 ha hb rfl
theorem Dx(ha:a G S=some 7#2)(hb:b G S1=some 8#0):m2 qo a b G S=some (.int (x-y),S2):=op2 ha hb rfl
theorem Nl(ha:a G S=some 7#2)(hb:b G S1=some 8#0)(h:jz x y):m2 d7 a b G S=some (.int (x*y),S2):=op2 ha hb (if_pos h)
theorem M2(ha:a G S=some 7#2)(hb:b G S1=some 8#0)(h:sy y):m2 oDiv a b G S=some (.int (x/y),S2):=op2 ha hb (if_pos h)
theorem Ka(ha:a G S=some 7#2)(hb:b G S1=some 8#0)(h:0<y):m2 oMod a b G S=some (.int (x%y),S2):=op2 ha hb (if_pos h)
theorem c_i:mC (.int z) G S=some (.int z,S):=rfl
theorem EK(ha:a G S=some (.tup us,S1)):mFn cw 4#1 G S=some (.int 0#9,S1):=by
 simp[mFn,kW ha,aA,cw,iS,d6]
theorem len_tab(ha:a G S=some (tab m T,S1)):mFn cw 4#1 G S=some (.int m,S1):=by
 rw[EK ha,aF,bf]
theorem jO(hi:i<m)(ha:a G S=some (tab m T,S1))(hb:b G S1=some (.int i,S2)):m2 oIx a b G S=some (k7 m T i,S2):=Kn ha hb (mF hi)
theorem kI(hj:j<m)(ha:a G S=some (k7 m T i,S1))(hb:b G S1=some (.int j,S2)):m2 oIx a b G S=some (.int (T i j),S2):=Kn ha hb (mF hj)
variable{x y:Nat}
theorem qD(ha:a G S=some 7#2)(hb:b G S1=some 8#0)(h:0<y)(h2:y<1000):m2 oDiv a b G S=some (.int (x/y:Nat),S2):=by rw[M2 ha hb (vF h h2),xI]
theorem tU(ha:a G S=some 7#2)(hb:b G S1=some 8#0)(h:0<y):m2 oMod a b G S=some (.int (x%y:Nat),S2):=by rw[Ka ha hb 0#2,mY]
theorem m9(ha:a G S=some 7#2)(hb:b G S1=some 8#0)(h:x<1000000):m2 d7 a b G S=some (.int (x*y:Nat),S2):=by rw[Nl ha hb (vA h),Int.natCast_mul]
theorem add_n(ha:a G S=some 7#2)(hb:b G S1=some 8#0):m2 bR a b G S=some (.int (x+y:Nat),S2):=by rw[Np ha hb,zF]
end
theorem Agr.of(h:Agr L Y9 G)(hi:i∉L)(e:Y9[i]?=some v):G[i]?=some v:=(h.2 i hi).trans e
def Qp:MS:=aZ (bA 7 (m2 oIx (m2 oIx 0#4 (m2 oDiv (ae 4) 0#7)) (m2 oDiv (ae 6) 0#7))) (dj (mML bV (ae 5) (aa (m2 bR (m2 d7 (ae 7) 0#7) (m2 oIx (m2 oIx 0#6 (m2 oMod (ae 4) 0#7)) (m2 oMod (ae 6) 0#7))) ai)))
variable{A B:Nat->Nat->Nat}
theorem Ih{k:Nat}(hk:0<k)(R9:k<1000)(hm:0<m)(YX:m<1000)(ca:∀i j,i<k->j<k->A i j<k):∃S',kD [tab k A,tab m B] S=some (tab (k*m) (jv m A B),S')/\Ex S S':=by
 have Sg:=by
  calc k*m<=999*m:=qA m (by exact uR 1#1)
   _<=999*999:=rm _ (by exact uR 1#1)
   _<1000000:=by decide
 have ZC:k*m<big:=by exact ao 1#1 0#1
 have dl:∀i,i<k*m->i/m<k:=λi hi=>Nat.div_lt_of_lt_mul (by rw[kh];exact hi);have rl:∀i,i%m<m:=λi=>kO _ hm;obtain⟨Y3,S1,e1,q1,q2,q3⟩:=build (fs:=3) (rs:=5) (is:=4) (js:=6) (L:= [4,5,6,7]) (Y9:= [some _,3#2,some _,some _,none,none,none,none]) (a:=m2 _ (mFn _ (aa 0#4 _)) 0#7) (T:=jv m A B)
  ZC 0#1 0#1 0#1 0#1 0#1 0#1 0#1 0#3 0#3 0#3 rfl
  (λG S' g s=>m9 (len_tab (var_eq (g.of 0#1 rfl))) (var_eq (g.of 0#1 rfl)) (by exact ao 1#1 0#1))
  (λi j r G S' row hi hj g gi gj gr s hr he hl=>by
   have v0:∀S',ae 0 G S'=some _:=λS'=>var_eq (g.of 0#1 rfl);have v2:∀S',ae 2 G S'=some _:=λS'=>var_eq (g.of 0#1 rfl);have e7:m2 _ _ _ G S'=some _:=
    kI (dl j hj) (jO (dl i hi) (v0 _) (qD (var_eq gi) (v2 _) hm YX)) (qD (var_eq gj) (v2 _) hm YX)
   have hlen:G.length=8:=g.1;have g':Agr _ _ (G.set 7 19#4):=g.set 0#1;have w2:∀S',ae 2 _ S'=some _:=λS'=>var_eq (g'.of 0#1 rfl);have w1:∀S',ae 1 _ S'=some _:=λS'=>var_eq (g'.of 0#1 rfl);have w7:∀S',ae 7 (G.set 7 _) S'=some (.int (A (i/m) (j/m)),S'):=λS'=>var_eq (oS 0#2);have n4:(G.set 7 19#4)[4]?=some (some (.int i)):=by rw[aE 0#1];exact gi
   have n5:(G.set 7 19#4)[5]?=some (some (.ref r)):=by rw[aE 0#1];exact gr
   have n6:(G.set 7 19#4)[6]?=some (some (.int j)):=by rw[aE 0#1];exact gj
   have hA:A _ _<1000000:=bg (ca _ _ (dl i hi) (dl j hj)) (by exact ao 1#1 0#1);have ev:m2 _ _ _ _ S'=some _:=
    add_n (m9 (w7 _) (w2 _) hA) (kI (rl j) (jO (rl i) (w1 _) (tU (var_eq n4) (w2 _) hm)) (tU (var_eq n6) (w2 _) hm))
   exact⟨_,_,(aW (bK e7)).trans (append_eq (var_eq n5) ev he he hl),g',n4,n5,Wr.set _ _ _,aJ (ah.mp he).1⟩)
 have e2:mFn _ (aa (ae 3) _) _ S1=some _:=j0 (var_eq (q1.of 0#1 rfl)) q3;refine⟨S1,bL (G:=Y3) rfl ?_,q2.toEx⟩;exact(aW (bK 5#8)).trans ((aW (bK mB)).trans ((aW e1).trans (bC e2)))
def uu:Nat->Nat->Nat:=λa b=>([[0,0,0,0],[0,1,0,1],[0,1,1,0],[0,0,1,1]].getD a []).getD b 0
def Gi:Nat->Nat->Nat:=λa b=>([[0,1,2,3],[1,0,3,2],[2,3,0,1],[3,2,1,0]].getD a []).getD b 0
def yr(i j:Nat):Nat:=2*Gi (i/2) (j/2)+(i+j+uu (i/2) (j/2))%2
theorem Du:((aB 8).all λi=>(aB 8).all λj=>yr i j==gJ i j)=true:=by decide +kernel
theorem Cj(hi:i<8)(hj:j<8):yr i j=gJ i j:=by
 have h:=cN.mp (cN.mp Du i (cz.mpr hi)) j (cz.mpr hj);exact eq_of_beq h
def Qe:MS:=aZ (bA 6 (m2 oMod (m2 bR (m2 bR (ae 3) (ae 5)) (m2 oIx (m2 oIx 0#4 (m2 oDiv (ae 3) 2#7)) (m2 oDiv (ae 5) 2#7))) 2#7)) (dj (mML bV (ae 4) (aa (m2 bR 19#8 (ae 6)) ai)))
def wt(T:Nat->Nat->Nat)(a:Nat):Cell:= .lst ((aB 4).map λb=>.int (T a b))
def Fx(s:Nat):Cell:= .lst ((aB 4).map λa=>.ref (s+a))
def ten(s:Nat):Sto:= [wt uu 0,wt uu 1,wt uu 2,wt uu 3,Fx s,wt Gi 0,wt Gi 1,wt Gi 2,wt Gi 3,Fx (s+5)]
theorem look{k:Nat}(s:Sm (S++ten 0#5).length (S++ten 0#5) S')(hk:(ten 0#5)[k]?=some c)(hn:n=0#5+k):S'[n]?=some c:=by
 have hl:=(ah.mp hk).1;rw[s.same n (by grind)]
 grind
variable{x q:Nat}
theorem zf{S:Sto}{v p y:Nat}(hv:G[v]?=some (some (.ref x)))(hx:S'[x]?=some (Fx y))(hy:∀a,a<4->S'[y+a]?=some (wt T a))(hi:G[p]?=some (some (.int i)))(hj:G[q]?=some (some (.int j)))(li:i<8)(lj:j<8):
  m2 oIx (m2 oIx (ae v) (m2 oDiv (ae p) 2#7)) (m2 oDiv (ae q) 2#7) G S'=some (.int (T (i/2) (j/2)),S'):=
 so (so (var_eq hv) (qD (y:=2) (var_eq hi) c_i 0#1 0#1) hx (mF 0#2)) (qD (y:=2) (var_eq hj) c_i 0#1 0#1) (hy _ 0#2) (mF 0#2)
theorem iV{x y z w:Int}:cq (aa (mC (.int x)) (aa (mC (.int y)) (aa (mC (.int z)) (aa (mC (.int w)) ai)))) G S=some (.ref 0#5,S++[Cell.lst [.int x,.int y,.int z,.int w]]):=by
 have hz:4<=big:=by decide
 simp[cq,aa,mC,ai,aA,hz]
variable{b:ME}{y:U}
theorem yN{S3 S4:Sto}{c d:ME}{x z w:U}(ha:a G S=some (x,S1))(hb:b G S1=some (y,S2))(hc:c G S2=some (z,S3))(hd:d G S3=some (w,S4)):
  cq (aa a (aa b (aa c (aa d ai)))) G S=some (.ref S4.length,S4++[Cell.lst [x,y,z,w]]):=by
 have hz:4<=big:=by decide
 simp only[cq,aa,ai,aA,ha,hb,hc,hd];simp[hz]
theorem Ag:∃S',iz [] S=some (tab 8 gJ,S')/\Ex S S':=by
 have e0:=yN (G:= [none,none,none,none,none,none,none]) (S:=S) (iV (x:=0) (y:=0) (z:=0) (w:=0)) (iV (x:=0) (y:=1) (z:=0) (w:=1)) (iV (x:=0) (y:=1) (z:=1) (w:=0)) (iV (x:=0) (y:=0) (z:=1) (w:=1));have e1:=yN (G:= [some (.ref (0#5+4)),none,none,none,none,none,none]) (S:=S++(ten 0#5).take 5) (iV (x:=0) (y:=1) (z:=2) (w:=3)) (iV (x:=1) (y:=0) (z:=3) (w:=2)) (iV (x:=2) (y:=3) (z:=0) (w:=1)) (iV (x:=3) (y:=2) (z:=1) (w:=0));have e0':=e0.trans (by simp;rfl);have Wo:=e1.trans (by simp;rfl);obtain⟨Y3,S1,f1,q1,q2,q3⟩:=build (fs:=2) (rs:=4) (is:=3) (js:=5) (L:= [3,4,5,6]) (Y9:= [some _,some _,some _,none,none,none,none]) (m:=8)
  0#1 0#1 0#1 0#1 0#1 0#1 0#1 0#1 0#3 0#3 0#3 rfl
  (λG S' g s=>rfl)
  (λi j r G S' row hi hj g gi gj gr s hr he hl=>by
   have hlen:G.length=7:=g.1;have hs:∀a,a<4->S'[0#5+a]?=some _:=λa ha=>look s (by match a,ha with | 0,_=>rfl | 1,_=>rfl | 2,_=>rfl | 3,_=>rfl) rfl;have R3:∀a,a<4->S'[0#5+5+a]?=some _:=λa ha=>look (k:=5+a) s (by match a,ha with | 0,_=>rfl | 1,_=>rfl | 2,_=>rfl | 3,_=>rfl) 0#2;have t1:=zf (S:=S) (v:=0) (g.of 0#1 rfl) (look (k:=4) s rfl rfl) hs gi gj hi hj;have e6:=
    tU (y:=2) (add_n (add_n (var_eq gi) (var_eq gj)) t1) c_i 0#1
   have g':Agr _ _ (G.set 6 16#9):=g.set 0#1;have n3:(G.set 6 16#9)[3]?=some (some (.int i)):=by rw[aE 0#1];exact gi
   have n4:(G.set 6 16#9)[4]?=some (some (.ref r)):=by rw[aE 0#1];exact gr
   have n5:(G.set 6 16#9)[5]?=some (some (.int j)):=by rw[aE 0#1];exact gj
   have t2:=zf (S:=S) (v:=1) (g'.of 0#1 rfl) (look (k:=9) s rfl rfl) R3 n3 n5 hi hj;have ev:m2 bR 19#8 (ae 6) (G.set 6 16#9) S'=some (.int (gJ i j),S'):=by
    rw[<-Cj hi hj];exact add_n (m9 c_i t2 0#1) (var_eq (oS 0#2))
   exact⟨_,_,(aW (bK e6)).trans (append_eq (var_eq n4) ev he he hl),g',n3,n4,Wr.set _ _ _,aJ (ah.mp he).1⟩)
 have f2:mFn _ (aa 0#7 _) Y3 S1=some _:=j0 (var_eq (q1.of 0#1 rfl)) q3;refine⟨S1,bL (G:=Y3) rfl ?_,Ex.trans ⟨_,rfl⟩ q2.toEx⟩;exact(aW (bK e0')).trans ((aW (bK Wo)).trans ((aW (bK mB)).trans ((aW f1).trans (bC f2))))
theorem vv{e:ME}{G:Rho}(P:List U->Sto->Prop):∀(us acc:List U) (S:Sto),P acc S ->
  (∀(k:Nat) (Zh:List U) (u:U) (S:Sto),us[k]?=some u->Zh.length=acc.length+k->P Zh S->∃v S',e 11#9 S=some (v,S')/\P (Zh++[v]) S') ->
  ∃ys S',eB cTT e G us acc S=some (ys,S')/\P ys S'/\2#9=acc.length+0#9
 |[],acc,S,h,_=>⟨_,S,rfl,h,by simp⟩
 | u::us,acc,S,h,st=>by
   obtain⟨v,S1,e1,h1⟩:=st 0 _ u S rfl 0#3 h;obtain⟨ys,S2,e2,h2,h3⟩:=vv P us _ S1 h1 λk Zh w S hk hl hp=>st (k+1) _ w S (by simpa using hk) (by simp at hl;omega) hp;refine⟨ys,S2,?_,h2,by grind⟩;show bnd _ _=_;simp[cTT,aA];rw[e1];exact e2
theorem Dc{S:Sto}(ha:a G S=some (.int n,S0))(hn:n<big)(P:List U->Sto->Prop)(h0:P [] S0)
  (hs:∀(k:Nat) (acc:List U) (S:Sto),k<n->acc.length=k->P acc S->∃v S',e (G++[8#6]) S=some (v,S')/\P (acc++[v]) S'):
  ∃ys S',mFn bO (aa (dc (iR1 4#1) cTT e) ai) G S=some (.tup ys,S'++[.lst ys])/\P ys S'/\2#9=n:=by
 obtain⟨ys,S1,e1,h1,h2⟩:=vv P (aY 0 n) [] S0 h0 λk acc u S hk hl hp=>by
  have ZR:=by have:=(ah.mp hk).1;simpa [aY]using this
  have hu:(aY 0 n)[k]?=some (.int k):=by simp[aY,ZR]
  rw[hu]at hk;cases hk;exact hs k _ S ZR (by simpa using hl) hp
 have hlen:(aY 0 n).length=n:=by simp[aY]
 rw[hlen]at h2;simp at h2;exact⟨ys,S1,eY (jC (mG ha hn) e1 (by rw[h2];omega)),h1,h2⟩
theorem Stp.set(h:Stp n S S')(hr:0#5<=r)(hn:r≠n):Stp n S (S'.set r c):=by
 refine⟨by rw[g9];exact h.len,λm h1 h2=>by rw[aE 0#2];exact h.same m h1 h2,?_⟩;obtain⟨s,b,e⟩:=h.st;exact⟨s,b,by simp_all⟩
theorem Stp.step(a:Stp n S S1)(e:Ex S1 S2):Stp n S S2:=a.trans (Stp.ex a.st e)
theorem cW{f:MF}{x:U}{r:Res U}(ha:a G S=some (x,S1))(hb:b G S1=some (y,S2))(h:f [x,y] S2=r):mFn f (aa a (aa b ai)) G S=r:=by
 simp[mFn,aa,ai,ha,hb,aA,h]
theorem gn{f:MF}{x:U}{r:Res U}(ha:a G S=some (x,S1))(h:f [x] S1=r):mFn f 4#1 G S=r:=by
 simp[mFn,kW ha,aA,h]
theorem OW(ha:a G S=some (.ref r,S))(hr:S[r]?=some (Cell.lst us)):mFn cw 4#1 G S=some (.int 0#9,S):=
 gn ha (by simp[cw,iS,d6,getL,hr])
theorem vp{α β:Type}(f:α->β):∀(l:List α) (j:Nat),(l.map f).eraseIdx j=(l.eraseIdx j).map f
 |[],_=>rfl
 |_::_,0=>rfl
 |x::l,j+1=>by simp[vp f l j]
def aw(l:List Nat):List U:=l.map λ(x:Nat)=>U.int x
variable{l:List Nat}
theorem DO{o:ME}(ho:o G S=some (.ref r,S))(ha:a G S=some (.int j,S1))(hr:S[r]?=some (Cell.lst 1#5))(Z':S1[r]?=some (Cell.lst 1#5))(hj:j<2#4)(hl:2#4<big):
  mML nR o 4#1 G S=some (.int l[j],S1.set r (Cell.lst (aw (l.eraseIdx j)))):=by
 have hok:okR j:=wO (by exact bg 0#2 0#2);have hx:ixN (aw l).length j=some j:=by
  have:(aw l).length=2#4:=by simp[aw]
  rw[this];simp[ixN,hj]
 have hg:(aw l)[j]?=some (.int l[j]):=by simp[aw,hj]
 have he:(aw l).eraseIdx j=aw _:=vp _ _ _;simp[mML,ho,aA,getL,hr,kW ha,nR,Z',hok,hx,hg,he]
theorem Cv{i j:Int}(ha:a G S=some (.int i,S))(hb:b G S=some (.int j,S))(h1:okR i)(h2:okR j)(hz:(aY i (j-i).toNat).length<=big):nJ (iR2 (aa a (aa b ai))) G S=some (.ref 0#5,S++[Cell.lst (aY i (j-i).toNat)]):=by
 have e:iR2 (aa a (aa b ai)) G S=some (.imm (aY i (j-i).toNat),S):=by
  unfold iR2;simp only[aa,ai,ha,hb,aA]
  simp_all
 simp[nJ,e,aA,hz]
variable{xs:List U}
theorem cat_t(ha:a G S=some (.tup xs,S1))(hb:b G S1=some (.tup ys,S2))(hz:1#4+2#9<=big):m2 bR a b G S=some (.tup (xs++ys),S2):=op2 ha hb (by simp[bR,hz])
theorem sU(m:Nat)(hm:0<m):aY 1 ((m:Int)-1).toNat=aw (dF 1 (m-1)):=by
 unfold aY aw;rw[List.range'_eq_map_range]
 simp_all
theorem zu(h:mR n S)(hm:0<m)(YX:m<1000):∃l S',iG [.ref n,.int m] S=some (.tup 1#5,S')/\Stp n S S'/\qr m l:=by
 have hn:=h.lt;have ZC:m<big:=by exact ao 1#1 0#1
 have e0:nJ (iR2 (aa 1#6 3#1)) [3#5,some (.int m),none] S=some (.ref 0#5,S++[Cell.lst (aw (dF 1 (m-1)))]):=by
  rw[Cv rfl 0#0 15#9 (wO ZC) (by rw[sU m hm,aw,aF,List.length_range'];exact aD (oo m 1) (aM ZC)),sU m hm]
 have st0:Stp n S (S++[Cell.lst (aw (dF 1 (m-1)))]):=Stp.ex h 3#7;obtain⟨ys,S1,e1,⟨tk,rem,rfl,q1,q2,q3⟩,e2⟩:=Dc (G:= [some _,some _,some _])
  (a:=m2 _ 0#6 _)
  (by rw[Dx 0#0 c_i];congr 3;exact(Int.natCast_sub hm).symm) (aN (oo m 1) ZC)
  (λacc S'=>∃tk rem:List Nat,acc=aw tk/\S'[0#5]?=some (Cell.lst (aw rem))/\(tk++rem).Perm (dF 1 (m-1))/\Stp n S S')
  ⟨[],dF 1 (m-1),rfl,by simp,by simp,st0⟩
  (by
   rintro k acc S' hk hl ⟨tk,rem,rfl,q1,q2,q3⟩;have htk:=by simpa [aw]using hl
   have XF:rem.length=m-1-k:=by
    have:=q2.length_eq;rw[aK,List.length_range',htk]at this;rw[<-this,Nat.add_sub_cancel_left]
   have hr0:0<rem.length:=by rw[XF];exact Nat.sub_pos_of_lt hk
   have Z':rem.length<1000:=by rw[XF];exact aN (aD (oo _ _) (oo _ _)) YX
   obtain⟨r,S2,t1,t2,t3,t4,t5⟩:=AV q3.st (fH.mpr hr0) 0#2;obtain⟨j,rfl⟩:=Dp t2;have hj:=fH.mp t3;have ho:∀S',ae 2 ([some (U.ref n),some (.int m),2#5]++[8#6]) S'=some _:=λS'=>var_eq rfl;have hv:∀S',ae 0 ([some (U.ref n),some (.int m),2#5]++[8#6]) S'=some _:=λS'=>var_eq rfl;have hlen:mFn cw 4#5 ([some (U.ref n),some (.int m),2#5]++[8#6]) S'=some (.int rem.length,S'):=by
    rw[OW (ho _) q1];simp[aw]
   have SV:=t4.some (by exact bD 1#1) q1;refine⟨_,_,DO (ho _) (cW (hv _) hlen t1) q1 SV hj (by exact ao Z' 0#1),tk++[rem[j]],rem.eraseIdx j,by simp[aw],?_,?_,?_⟩
   .exact aJ (ah.mp SV).1
   .refine List.Perm.trans ?_ q2
    rw[fX];exact(tQ rem j hj).append_left tk
   ·exact(q3.trans t4).set (aq _) (by exact bD (by assumption)))
 have XF:rem=[]:=by
  have:=q2.length_eq;simp[aw]at this e2;exact fo 0#2
 subst XF;rw[g8]at q2;refine⟨_,S1++[Cell.lst (aw tk)],bL (G:= [3#5,some (.int m),2#5]) rfl ?_,q3.step 3#7,Cq hm q2⟩;refine(aW (bK e0)).trans (bC ?_);have ez:eA 7#7 [3#5,some (.int m),2#5] (S++[Cell.lst (aw (dF 1 (m-1)))])=some (.tup [.int 0],S++[Cell.lst (aw (dF 1 (m-1)))]):=by
  have XR:1<=big:=by decide
  simp[eA,kW (show mC _ _ _=some _ from rfl),aA,XR]
 exact cat_t ez e1 (by simp[aw]at e2 ⊢;omega)
theorem Qg{i:Int}:toD S (f+1) (.int i)=some (.int i):=rfl
theorem oH{S:Sto}{f:Nat}:∀(l:List Nat),dY (toD S (f+1)) 1#5=some (l.map λ(x:Nat)=>dD x)
 |[]=>rfl
 | x::l=>by
   show(toD S _ _).bind _=_;rw[show GO _ l=aw l from rfl,oH l];rfl
theorem xZ(x:Nat):∀(l:List Nat),x∈l->(l.map λ(x:Nat)=>dD x).findIdx? (λy=>fL y (.int x))=some (l.idxOf x)
 |[],h=>by simp at h
 | y::l,h=>by
   have e:fL (.int y) (.int x)=decide (y=x):=by
    simp[fL]<;>grind
   rw[gU,rM,e,List.idxOf_cons];by_cases Ww:y=x
   .subst Ww;simp
   .have hm:x∈l:=by
     grind
    have hb:(y==x)=false:=by simpa using Ww
    rw[xZ x l hm];simp[Ww,hb]
theorem IY(h:x∈l):Ge S (.int x) 1#5=some (l.idxOf x):=by
 unfold Ge;rw[oH l];exact xZ x l h
theorem zc{o:ME}(ho:o G S=some (.tup 1#5,S))(ha:a G S=some 7#2)(h:x∈l):mMT ir o 4#1 G S=some (.int (l.idxOf x:Nat),S1):=by
 simp only[mMT,ho,aA,kW ha,ir,IY h];rfl
theorem tD(h:(aw l)[j]?=some u):j<2#4/\u=.int (oF l j):=by
 have hl:=by have:=(ah.mp h).1;simpa [aw]using this
 have:(aw l)[j]?=some (.int l[j]):=by simp[aw,hl]
 rw[this]at h;cases h;exact⟨hl,by simp[oF,hl]⟩
theorem cR(l:List Nat):(aw l).length=2#4:=by simp[aw]
theorem DL(hm:m<big)(g:∀i j,i<m->j<m->T i j<m)(ho:qr m l):∃S',jw [tab m T,.tup 1#5] S=some (tab m (pZ T (oF l) (pF l)),S')/\Ex S S':=by
 have hlen:=ho.len;obtain⟨S1,e1,h1⟩:=PJ (G:= [some _,some _]) (a:=ae 1)
  0#0 (by rw[cR,hlen];exact hm) _ (λ_ S'=>Ex S S') (Ex.refl _) (by
   intro i u S' hu hx;obtain⟨hi,rfl⟩:=tD hu;rw[hlen]at hi;obtain⟨S2,e2,h2⟩:=PJ (G:= [some _,some _,some _]) (a:=ae 1) (e:=mMT _ 0#6 (aa (m2 _ (m2 _ 0#4 0#7) (ae 3)) _))
    0#0 (by rw[cR,hlen];exact hm) _ (λ_ ZD=>ZD=S') rfl (by
     intro j u ZD hu hx;obtain⟨hj,rfl⟩:=tD hu;rw[hlen]at hj;refine⟨_,?_,hx⟩
     exact zc (var_eq rfl) (kI (ho.ord.ol j hj) (jO (ho.ord.ol i hi) (var_eq rfl) (var_eq rfl)) (var_eq rfl)) (ho.mem.mpr (g _ _ (ho.ord.ol i hi) (ho.ord.ol j hj))))
   subst h2
   exact⟨_,e2,hx.trans (Ex.push _ _)⟩)
 rw[cR,hlen]at e1;exact⟨_,bL rfl (bC e1),h1.trans 3#7⟩
theorem DZ{x y:Int}(ha:a G S=some 7#2)(hb:b G S1=some 8#0):m2 oEq a b G S=some (.bl (x==y),S2):=op2 ha hb rfl
theorem GY{x y:Int}(ha:a G S=some 7#2)(hb:b G S1=some 8#0):m2 oGt a b G S=some (.bl (decide (y<x)),S2):=op2 ha hb rfl
theorem of_eq{b:Bool}(h:a G S=some (.bl b,S1)):cOf a G S=some (b,S1):=by simp[cOf,h,aA]
theorem or_eq{a b:MT}{x y:Bool}(ha:a G S=some (x,S1))(hb:b G S1=some (y,S2))(e:x=true->S2=S1):cOr a b G S=some (x||y,S2):=by
 cases x
 .simp[cOr,ha,hb,aA]
 .simp[cOr,ha,aA,e _]
theorem and_eq{a b:MT}{x y:Bool}(ha:a G S=some (x,S1))(hb:b G S1=some (y,S2))(e:x=false->S2=S1):yB a b G S=some (x&&y,S2):=by
 cases x
 .simp[yB,ha,aA,e _]
 .simp[yB,ha,hb,aA]
variable{c:MT}
theorem mT{a b:MS}(h:c G S=some (true,S1)):sIf c a b G S=a G S1:=by simp[sIf,h,aA]
theorem k6{a b:MS}(h:c G S=some (false,S1)):sIf c a b G S=b G S1:=by simp[sIf,h,aA]
theorem iM(h:mR n S)(hm:0<m)(YX:m<1000):∃r S',ba [.ref n,.int m] S=some (.int (r:Nat),S')/\r<m/\Stp n S S':=by
 obtain⟨r,S',e,h1,h2,h3,_⟩:=AV (many:=m) h 0#2 0#2;obtain⟨r,rfl⟩:=Dp h1;exact⟨r,S',e,by omega,h3⟩
def gA:MS:=sIf (cOr (cOf (m2 oEq 0#7 1#6)) (cOf (m2 oEq 0#7 2#7))) (bA 3 (mFn fC (aa (m2 bR 1#6 (mFn ba (aa 0#4 (aa (m2 oDiv 0#6 2#7) ai)))) ai))) dk
def gB:MS:=sIf (yB (cOf (m2 oEq 0#7 (mC (.int 3)))) (cOf (m2 oGt 0#6 (mC (.int 7))))) (bA 3 (mFn iz ai)) dk
def gC:MS:=sIf (cOf (m2 oGt 0#7 (mC (.int 3)))) (aZ (bA 4 (m2 bR 2#7 17#1)) (aZ (bA 5 (m2 oIx (cq (aa (mFn bU 8#5) (aa (mFn fC 8#5) ai))) (mFn ba (aa 0#4 (aa 2#7 ai))))) (aZ (sIf (cOf (m2 oGt (mFn cw (aa (ae 5) ai)) 0#6)) (bA 5 (mFn bU 8#5)) dk) (bA 3 (mFn kD (aa (ae 5) (aa (mFn bU (aa (m2 bR 1#6 (mFn ba (aa 0#4 (aa (m2 oDiv 0#6 (mFn cw (aa (ae 5) ai))) ai)))) ai)) ai))))))) dk
def gD:MS:=sIf (cOf (m2 oEq 17#1 2#3)) (bA 3 (mFn jw (aa (ae 3) (aa (mFn iG (aa 0#4 (aa (mFn cw 4#9) ai))) ai)))) dk
structure Gs(n most way:Nat)(S0:Sto)(G:Rho)(S:Sto):Prop where
 ex:∃m T x y,G=[some (.ref n),some (.int most),some (.int way),some (tab m T),x,y]/\Grp m T/\m<=most
 st:Stp n S0 S
section
variable {n most way:Nat}{S0 S:Sto}{G:Rho}
theorem ND(h6:4<=most)(hm:most<1000)(g:Gs n most way S0 G S):∃Y4 S',gA G S=some 6#9/\Gs n most way S0 Y4 S':=by
 obtain⟨⟨m,T,x,y,rfl,gr,hle⟩,st⟩:=g;have hc:=or_eq (of_eq (DZ (G:= 16#7) (S:=S) (a:=ae 2) (b:=mC (.int 1)) 0#0 c_i)) (of_eq (DZ (a:=ae 2) (b:=mC (.int 2)) 0#0 c_i)) λ_=>rfl;cases hb:(((way:Int)==1)||((way:Int)==2)) with
 | false=>
   rw[hb]at hc;exact⟨_,S,k6 hc,⟨m,T,x,y,rfl,gr,hle⟩,st⟩
 | true=>
   rw[hb]at hc;obtain⟨r,S1,e1,w1,s1⟩:=iM (m:=most/2) st.st 0#2 0#2;obtain⟨S2,e2,s2⟩:=yD (n:=1+r) (S:=S1) 9#7 0#2;refine⟨_,S2,(mT hc).trans (bK (gn (x:= .int (1+r:Nat)) (add_n (x:=1) c_i (cW 0#0 (qD (y:=2) 0#0 c_i 0#1 0#1) e1)) e2)),⟨_,_,x,y,rfl,yp 9#7,by omega⟩,(st.trans s1).step s2⟩
theorem Od(g:Gs n most way S0 G S):∃Y4 S',gB G S=some 6#9/\Gs n most way S0 Y4 S':=by
 obtain⟨⟨m,T,x,y,rfl,gr,hle⟩,st⟩:=g;have hc:=and_eq (of_eq (DZ (G:= 16#7) (S:=S) (a:=ae 2) (b:=mC (.int 3)) 0#0 c_i)) (of_eq (GY (a:=ae 1) (b:=mC (.int 7)) 0#0 c_i)) λ_=>rfl;cases hb:(((way:Int)==3)&&decide ((7:Int)<most)) with
 | false=>
   rw[hb]at hc;exact⟨_,S,k6 hc,⟨m,T,x,y,rfl,gr,hle⟩,st⟩
 | true=>
   rw[hb]at hc;obtain⟨S2,e2,s2⟩:=Ag;have h7:=by simp at hb;exact hb.2
   refine⟨_,S2,(mT hc).trans (bK (e2)),⟨_,_,x,y,rfl,CM,by omega⟩,st.step s2⟩
theorem Bq{G:Rho}{S:Sto}{x:U}(ha:a G S=some (x,S1))(hb:b G S1=some (y,S2)):cq (aa a (aa b ai)) G S=some (.ref S2.length,S2++[Cell.lst [x,y]]):=by
 have hz:2<=big:=by decide
 simp[cq,aa,ai,aA,ha,hb,hz]
theorem OD(h6:4<=most)(hm:most<1000)(g:Gs n most way S0 G S):∃Y4 S',gC G S=some 6#9/\Gs n most way S0 Y4 S':=by
 obtain⟨⟨m,T,x,y,rfl,gr,hle⟩,st⟩:=g;have ZC:∀x,x<=most->x<big:=λx hx=>by unfold big;exact aN 1#1 (ao 1#1 0#1)
 have hc:=of_eq (GY (G:= 16#7) (S:=S) (a:=ae 2) (b:=mC (.int 3)) 0#0 c_i);cases hb:decide ((3:Int)<way) with
 | false=>
   rw[hb]at hc;exact⟨_,S,k6 hc,⟨m,T,x,y,rfl,gr,hle⟩,st⟩
 | true=>
   rw[hb]at hc;obtain⟨r,S1,e1,w1,s1⟩:=iM (m:=3) st.st 0#1 0#1;have f1:m2 bR 2#7 17#1 16#7 S=some (.int (2+r:Nat),S1):=
    add_n (x:=2) c_i (cW 0#0 c_i e1)
   have Ze:2+r<=4:=Nat.add_le_add_left (uR w1) 2;have U2:2+r<=most:=aD Ze (aD 0#1 h6);obtain⟨S2,e2,s2⟩:=j1 (n:=2+r) (S:=S1) 9#7 (ZC _ U2);obtain⟨S3,e3,s3⟩:=yD (n:=2+r) (S:=S2) 9#7 (aN Ze 0#1);have Zf:Stp n S0 (S3++[Cell.lst 22#3]):=(((st.trans s1).step s2).step s3).step 3#7;obtain⟨q,S4,e4,w4,s4⟩:=iM (m:=2) Zf.st 0#1 0#1;have Zc:S4[S3.length]?=some (Cell.lst 22#3):=by
    refine s4.some ?_ (by rw[bI 1#8];simp);have:=(((st.trans s1).step s2).step s3).st.lt;exact bD 1#1
   have one:∃k K,atI 22#3 (q:Int)=some (tab k K)/\Grp k K/\k<=8:=by
    rcases q with _|_|q
    .exact⟨_,_,rfl,iZ 9#7,aD Ze 0#1⟩
    .exact⟨_,_,rfl,yp 9#7,rm 2 Ze⟩
    .exact absurd (Gz (Gz w4)) (Nat.not_lt_zero _)
   obtain⟨k,K,hix,gk,hk8⟩:=one;have f5:m2 oIx (cq (aa (mFn bU 8#5) (aa (mFn fC 8#5) ai))) (mFn ba (aa 0#4 (aa 2#7 ai))) [3#5,some (.int most),some (.int way),1#3,some (.int (2+r:Nat)),y] S1=some (tab k K,S4):=
    so (Bq (gn (x:= .int (2+r:Nat)) 0#0 e2) (gn (x:= .int (2+r:Nat)) 0#0 e3)) (cW 0#0 c_i e4) Zc hix
   have Yr:=Zf.trans s4;have cut:∃k' K' S5,sIf (cOf (m2 oGt (mFn cw (aa (ae 5) ai)) 0#6)) (bA 5 (mFn bU 8#5)) dk [3#5,some (.int most),some (.int way),1#3,some (.int (2+r:Nat)),some (tab k K)] S4 =
     some (.nx,[3#5,some (.int most),some (.int way),1#3,some (.int (2+r:Nat)),some (tab k' K')],S5)/\Grp k' K'/\k'<=most/\k'<=8/\Stp n S0 S5:=by
    have Xg:=of_eq (GY (G:= [3#5,some (.int most),some (.int way),1#3,some (.int (2+r:Nat)),some (tab k K)]) (S:=S4) (a:=mFn cw (aa (ae 5) ai)) (b:=ae 1) 5#8 0#0);cases Xx:decide ((most:Int)<k) with
    | false=>
      rw[Xx]at Xg;have: ¬((most:Int)<k):=by simpa using Xx
      exact⟨k,K,S4,k6 Xg,gk,fj λz=>this (fH.mpr z),hk8,Yr⟩
    | true=>
      rw[Xx]at Xg;obtain⟨S5,e5,s5⟩:=j1 (n:=2+r) (S:=S4) 9#7 (ZC _ U2);exact⟨_,_,S5,(mT Xg).trans (bK (gn (x:= .int (2+r:Nat)) 0#0 e5)),iZ 9#7,U2,aD Ze 0#1,Yr.step s5⟩
   obtain⟨k',K',S5,f6,UX,Sg,hk8',YO⟩:=cut;have kp:=UX.pos;have hdiv:0<most/k':=Nat.div_pos Sg kp;have Yf:most/k'<=most:=Nat.div_le_self _ _;obtain⟨t,S6,e6,w6,s6⟩:=iM (m:=most/k') YO.st hdiv (by exact aN 1#1 1#1);have TU:1+t<=most/k':=by rw[Gy];exact w6
   obtain⟨S7,e7,s7⟩:=j1 (n:=1+t) (S:=S6) 9#7 (ZC _ (aD TU Yf));obtain⟨S8,e8,s8⟩:=Ih (k:=k') (m:=1+t) (A:=K') (B:=fB (1+t)) (S:=S7) kp (by exact aN 1#1 0#1) 9#7 (aN (aD TU Yf) hm) UX.cl;have ZN:k'*(1+t)<=most:=aD (rm k' TU) (Nat.mul_div_le most k');refine⟨_,S8,(mT hc).trans ((aW (bK f1)).trans ((aW (bK f5)).trans ((aW f6).trans (bK (cW 0#0 (gn (x:= .int (1+t:Nat)) ?_ e7) e8))))),⟨_,_,_,_,rfl,tV UX (iZ 9#7),ZN⟩,((YO.trans s6).step s7).step s8⟩;exact add_n (x:=1) c_i (cW 0#0 (qD 0#0 5#8 kp (by exact aN 1#1 0#1)) e6)
theorem NR(hm:most<1000)(g:Gs n most way S0 G S):∃Y4 S',gD G S=some 6#9/\Gs n most way S0 Y4 S':=by
 obtain⟨⟨m,T,x,y,rfl,gr,hle⟩,st⟩:=g;obtain⟨r,S1,e1,w1,s1⟩:=iM (m:=3) st.st 0#1 0#1;have hc:=of_eq (DZ (G:= [some _,some (.int most),some (.int way),1#3,x,y]) (a:=mFn _ (aa 0#4 _)) (b:=mC (.int 0)) (cW 0#0 c_i e1) c_i);cases hb:((r:Int)==0) with
 | false=>
   rw[hb]at hc;exact⟨_,S1,k6 hc,⟨m,T,x,y,rfl,gr,hle⟩,st.trans s1⟩
 | true=>
   rw[hb]at hc;obtain⟨l,S2,e2,s2,ol⟩:=zu s1.st gr.pos (by exact aN 0#2 0#2);obtain⟨S3,e3,s3⟩:=DL (by exact aN 0#2 (ao 0#2 0#1)) gr.cl ol;refine⟨_,S3,(mT hc).trans (bK (cW 0#0 (cW 0#0 5#8 e2) e3)),⟨_,_,x,y,rfl,Cs gr ol.ord,hle⟩,((st.trans s1).trans s2).step s3⟩
end
theorem zk{most:Nat}(h:mR n S)(h6:4<=most)(hm:most<1000):∃m T S',jH [.ref n,.int most] S=some (tab m T,S')/\Grp m T/\m<=most/\Stp n S S':=by
 have ZC:∀x,x<=most->x<big:=λx hx=>by unfold big;exact aN 1#1 (ao 1#1 0#1)
 obtain⟨way,S1,e1,w1,s1⟩:=iM (m:=8) h 0#1 0#1;obtain⟨r2,S2,e2,w2,s2⟩:=iM (m:=most) s1.st (by exact Nat.zero_lt_of_lt 1#1) hm;obtain⟨S3,e3,s3⟩:=j1 (n:=1+r2) (S:=S2) 9#7 (ZC _ 0#2);have f1:m2 bR 1#6 (mFn ba 11#4) [3#5,some (.int most),some (.int way),none,none,none] S1=some (.int (1+r2:Nat),S2):=add_n (x:=1) (y:=r2) c_i (cW 0#0 0#0 e2);have g0:Gs n most way S [3#5,some (.int most),some (.int way),some (tab (1+r2) (fB (1+r2))),none,none] S3:=⟨⟨_,_,none,none,rfl,iZ 9#7,by omega⟩,(s1.trans s2).step s3⟩;obtain⟨Z2,S4,e4,g4⟩:=ND h6 hm g0;obtain⟨X8,S5,e5,g5⟩:=Od g4;obtain⟨Z0,S6,e6,g6⟩:=OD h6 hm g5;obtain⟨Z5,S7,e7,g7⟩:=NR hm g6;obtain⟨⟨m,T,x,y,rfl,gr,hle⟩,st⟩:=g7;refine⟨m,T,S7,bL (G:= 16#7) rfl ?_,gr,hle,st⟩;show lO [3#5,some (.int most),none,none,none,none] S=_;exact(aW (bK (cW 0#0 c_i e1))).trans ((aW (bK (gn f1 e3))).trans ((aW e4).trans ((aW e5).trans ((aW e6).trans ((aW e7).trans (bC 0#0))))))
def Scr(ns:List Int)(S:Sto):Prop:=getL S 0=some (ns.map U.int)
variable{ns:List Int}
theorem Scr.ex(h:Scr ns S)(e:∀c,S[0]?=some c->S'[0]?=some c):Scr ns S':=by
 unfold Scr getL at h ⊢
 split at h<;>simp_all
theorem Scr.lt(h:Scr ns S):0<0#5:=by
 unfold Scr getL at h
 split at h
 .rename_i q;exact(ah.mp q).1
 .rename_i q;exact(ah.mp q).1
 all_goals cases h
theorem cj{α:Type}(S:List α)(c:α):(S++[c])[0#5]?=some c:=by
 simp
theorem QA{x y:Int}(ha:a G S=some 7#2)(hb:b G S1=some 8#0):m2 oLt a b G S=some (.bl (decide (x<y)),S2):=op2 ha hb rfl
theorem Qs{x y:Int}(ha:a G S=some 7#2)(hb:b G S1=some 8#0):m2 oGe a b G S=some (.bl (decide (y<=x)),S2):=op2 ha hb rfl
theorem JY(h:getL S r=some us):iS S (.ref r)=none:=by
 unfold getL at h
 show(match S[r]? with
  |some (.dic _)=>some _
  | _=>none)=none
 split at h<;>rename_i q<;>first | (cases h;done) | (rw[q])
theorem JL(ha:a G S=some (.ref r,S))(hr:getL S r=some us):mFn cw 4#1 G S=some (.int 0#9,S):=
 gn ha (by simp[cw,JY hr,d6,hr])
theorem QK{z:Int}(ha:a G S=some (.ref n,S1))(hb:b G S1=some (.int z,S2))(hn:getL S2 n=some us)(h:atI us z=some u):m2 oIx a b G S=some (u,S2):=op2 ha hb (by simp[oIx,JY hn,d6,hn,h])
theorem jE{α:Type}{us:List α}{k:Nat}{u:α}(h:us[k]?=some u):atI us (k:Int)=some u:=by
 have hk:=(ah.mp h).1;simp[atI,ixN,hk]
 simp_all
theorem IK{k:Nat}(h:Scr ns S):∃z,jM [.ref 0,.int k] S=some (.int z,S):=by
 have hc:=of_eq (QA (G:= [some _,8#6]) (a:=ae 1) (b:=mFn _ (aa 0#4 _)) 0#0 (JL 0#0 h));rw[aF]at hc;cases hb:decide ((k:Int)<5#6) with
 | true=>
   rw[hb]at hc;have hk:=by simpa using hb
   have e:=QK (G:= [some _,8#6]) (a:=ae 0) (b:=ae 1) 0#0 0#0 h (jE (u:= .int ns[k]) (by simp[hk]));refine⟨ns[k],bL (G:= [6#8,8#6]) rfl ?_⟩;show iw [some _,some _] S=_;unfold iw aZ;rw[mT hc,bC e]
 | false=>
   rw[hb]at hc;refine⟨0,bL (G:= [6#8,8#6]) rfl ?_⟩;exact(aW ((k6 hc).trans rfl)).trans (bC c_i)
theorem J7:m2 wa (mC (.int 10)) (mC (.int 18)) G S=some (.int (10^(18:Int).toNat),S):=op2 rfl rfl (if_pos ⟨by decide,by decide,by decide⟩)
theorem ES{k:Nat}(h:Scr ns S):∃S',iD [.ref 0,.int k] S=some (.ref 0#5,S')/\Ex S S'/\mR S.length S':=by
 obtain⟨z,e1⟩:=IK h;have e2:bA 2 (mFn _ (aa 0#4 (aa 0#6 _))) [some _,some _,none] S=some (.nx,[some _,some _,some _],S):=bK (cW 0#0 0#0 e1);have hc:=of_eq (Qs (G:= [6#8,8#6,some (.int z)]) (S:=S) (a:=ae 2) 0#0 J7);generalize hp:(10:Int)^(18:Int).toNat=p at hc;have hpe:∀G (S:Sto),m2 _ _ _ G S=some _:=λG S=>by rw[J7,hp]
 cases hb:decide (p<=z) with
 | true=>
   rw[hb]at hc;have e3:=Bq (G:= [6#8,8#6,some (.int z)]) (S:=S) (a:=m2 _ 0#7 _) (b:=mC (.bl true)) (Dx 0#0 (hpe _ _)) rfl;refine⟨_,bL (G:= [6#8,8#6,some (.int z)]) rfl ?_,Ex.push _ _,⟨z-p,true,cj _ _⟩⟩;refine(aW e2).trans ?_;unfold aZ;rw[mT hc,bC e3]
 | false=>
   rw[hb]at hc;have e3:=Bq (G:= [6#8,8#6,some (.int z)]) (S:=S) (a:=m2 _ 0#7 (mC (.int 2147483647))) (b:=mC (.bl false)) (Ka 0#0 c_i 0#1) rfl;refine⟨_,bL (G:= [6#8,8#6,some (.int z)]) rfl ?_,Ex.push _ _,⟨z%2147483647,false,cj _ _⟩⟩;exact(aW e2).trans ((aW ((k6 hc).trans rfl)).trans (bC e3))
theorem zj{i n:Nat}{b:MS}(us:List U)(P:Nat->Rho->Sto->Prop)(hl:∀k G S,P k G S->getL S n=some us)
  (st:∀(k:Nat) (u:U) (G:Rho) (S:Sto),us[k]?=some u->P k G S->∃Y4 S',b 14#5 S=some 6#9/\P (k+1) Y4 S'):
  ∀(f k:Nat) (G:Rho) (S:Sto),k<=0#9->0#9-k<f->P k G S->∃Y4 S',forL i b n f k G S=some 6#9/\P us.length Y4 S'
 |0,k,G,S,h1,h2,_=>by omega
 | f+1,k,G,S,h1,h2,hp=>by
   unfold forL;rw[hl k G S hp];simp;by_cases hk:k<0#9
   .have hu:us[k]?=some us[k]:=by simp
    obtain⟨Y3,S1,e1,p1⟩:=st k _ G S hu hp;obtain⟨Y8,S2,e2,p2⟩:=zj us P hl st f _ _ S1 1#1 0#2 p1;refine⟨_,S2,?_,p2⟩;simp[hu,aft,e1,e2]
   grind
theorem Ld{b:MS}{G:Rho}{S:Sto}(he:e G S=some (.ref n,S1))(hu:0#9<100000)(P:Nat->Rho->Sto->Prop)(h0:P 0 G S1)(hl:∀k G S,P k G S->getL S n=some us)
  (st:∀(k:Nat) (u:U) (G:Rho) (S:Sto),us[k]?=some u->P k G S->∃Y4 S',b 14#5 S=some 6#9/\P (k+1) Y4 S'):
  ∃Y4 S',fv i (fM e) b G S=some 6#9/\P us.length Y4 S':=by
 obtain⟨Y4,S',e1,p1⟩:=zj us P hl st _ 0 G S1 (ee _) 0#2 h0;refine⟨_,S',?_,p1⟩;unfold fv fM;rw[he];simp[aA,hl 0 G S1 h0];exact e1
theorem ED{b:MS}{G:Rho}{S:Sto}(he:e G S=some (.tup us,S1))(P:Nat->Rho->Sto->Prop)(h0:P 0 G S1)
  (st:∀(k:Nat) (u:U) (G:Rho) (S:Sto),us[k]?=some u->P k G S->∃Y4 S',b 14#5 S=some 6#9/\P (k+1) Y4 S'):
  ∃Y4 S',fv i (fM e) b G S=some 6#9/\P us.length Y4 S':=by
 obtain⟨Y4,S',e1,p1⟩:=tz (i:=i) (b:=b) P us 0 G S1 h0 λj u G S hj hp=>by simp_all
 rw[d9]at p1;refine⟨_,S',?_,p1⟩;unfold fv fM;rw[he];exact e1
def jR(T:Nat->Nat->Nat)(w:List Nat):Nat:=w.foldl T 0
def plc(T:Nat->Nat->Nat)(w:List Nat):List Nat:=(aB (w.length+1)).map λk=>jR T (w.take k)
theorem Ba(hp:0<m)(cl:∀i j,i<m->j<m->T i j<m){w:List Nat}(hw:∀x∈w,x<m):jR T w<m:=by
 unfold jR;have:∀(w:List Nat) (a:Nat),a<m->(∀x∈w,x<m)->w.foldl T a<m:=by
  intro w
  induction w with
  |nil=>intro a ha _;exact ha
  |cons x w ih=>intro a ha h;exact ih _ (cl a x ha (h x 0#3)) λy hy=>h y (by simp[hy])
 exact this w 0 hp hw
variable{w:List Nat}
theorem vq{k:Nat}(h:w[k]?=some x):jR T (w.take (k+1))=T (jR T (w.take k)) x:=by
 unfold jR;rw[List.take_add_one,h];simp
theorem EJ{α:Type}{f:Nat->α}{k:Nat}:atI ((aB (k+1)).map f) (-1)=some (f k):=by
 have e:ixN ((aB (k+1)).map f).length (-1)=some k:=by
  rw[aF,bf];unfold ixN
  grind
 unfold atI;rw[e];simp
theorem tK{k:Nat}(h:(aw l)[k]?=some u):∃x,l[k]?=some x/\u=.int x:=by
 obtain⟨hk,rfl⟩:=tD h;exact⟨_,by simp[oF,hk],rfl⟩
theorem HQ:m1 mQ 1#6 G S=some (.int (-1),S):=rfl
theorem sM:∀(a b:List Nat),fR (a.map λ(x:Nat)=>dD x) (b.map λ(x:Nat)=>dD x)=decide (a=b)
 |[],[]=>by simp[fR]
 |[],_::_=>by simp[fR]
 |_::_,[]=>by simp[fR]
 | x::a,y::b=>by
   simp[fR,fL,sM a b]
   grind
theorem o5:toD S (f+2) (.tup 1#5)=some (.tuple (l.map λ(x:Nat)=>dD x)):=by
 show(dY _ _).map _=_;rw[oH l];rfl
theorem Jj{a b:List Nat}:_G.eqU S (.tup (aw a)) (.tup (aw b))=some (decide (a=b)):=by
 unfold _G.eqU;rw[o5,o5];simp[fL,sM]
theorem isT (ha:a G S=some (.tup us,S1)):m1 (ig "tuple") a G S=some (.bl true,S1):=by
 simp[m1,ha];rfl
theorem not_eq{b:Bool}(h:c G S=some (b,S1)):eE c G S=some (!b,S1):=by simp[eE,h,aA]
theorem Jm:cut (aw w) (some 1) none=aw (w.drop 1):=by
 unfold cut;have e1:HT.sIx (aw w).length 0 (some 1)=min 1 (aw w).length:=HT.sIx_nat _ _ 1;have e2:HT.sIx (aw w).length (aw w).length none=(aw w).length:=rfl;rw[e1,e2,cR];cases w with
 |nil=>rfl
 | cons x w=>
   rw[show min 1 (x::w).length=1 by simp];simp[aw];exact Dq 0#3
theorem Fd{c:Nat}(h:Scr ns S)(hv:G[0]?=some (some (.ref 0)))(hl:5#6<=63):∃q:Nat,q<1000/\mFn zt (aa 1#6 (aa (mFn yQ (aa 4#4 (aa (mC (.int c)) ai))) ai)) G S=some (.int q,S):=by
 have e1:mFn yQ (aa _ (aa (mC (.int c)) _)) G S=some _:=cW (JL (var_eq hv) h) c_i rfl;have e2:=cW (f:=zt) (a:=mC (.int 1)) c_i e1 rfl;rw[aF]at e2;refine⟨max 1 (min _ c),Nat.max_lt.mpr ⟨by decide,aN (aD (Nat.min_le_left _ _) hl) 0#1⟩,?_⟩;rw[e2];show some _=_;have:(if (if (c:Int)<5#6 then(c:Int) else 5#6)>1 then(if (c:Int)<5#6 then(c:Int) else 5#6) else 1)=((max 1 (min ns.length c):Nat)):=by
  by_cases h:(c:Int)<5#6
  .rw[Nat.min_eq_right (aM (fH.mp h)),if_pos h]
   split
   .rename_i h1;rw[Nat.max_eq_right (aM (fH.mp h1))]
   .rename_i h1;rw[Nat.max_eq_left (fj λz=>h1 (fH.mpr z))];rfl
  .rw[jW (fj λz=>h (fH.mpr z)),if_neg h]
   split
   .rename_i h1;rw[Nat.max_eq_right (aM (fH.mp h1))]
   .rename_i h1;rw[Nat.max_eq_left (fj λz=>h1 (fH.mpr z))];rfl
 rw[this]
theorem tN{t:MT}{e:ME}{G:Rho}(p:Nat->Bool)(g:Nat->U)(P:Nat->Sto->Prop):∀(us:List U) (k:Nat) (acc:List U) (S:Sto),P k S ->
  (∀(j:Nat) (u:U) (S:Sto),us[j]?=some u->P (k+j) S->∃S',t 11#9 S=some (p (k+j),S')/\(p (k+j)=true->∃ZD,e 11#9 S'=some (g (k+j),ZD)/\P (k+j+1) ZD)/\(p (k+j)=false->P (k+j+1) S')) ->
  ∃S',eB t e G us acc S=some (acc++((dF k 0#9).filter p).map g,S')/\P (k+0#9) S'
 |[],k,acc,S,h,_=>⟨S,by simp[eB],h⟩
 | u::us,k,acc,S,h,st=>by
   have rest:∀(Zh:List U) (S1:Sto),P (k+1) S1->∃S',eB t e G us Zh S1=some (Zh++((dF (k+1) 0#9).filter p).map g,S')/\P (k+(u::us).length) S':=λZh S1 h1=>by
    obtain⟨S2,e2,h2⟩:=tN p g P us (k+1) Zh S1 h1 λj v S hj hp=>by
     have:=st (j+1) v S 14#2 (by rw[show k+(j+1)=k+1+j by omega];exact hp);rw[show k+(j+1)+1=k+1+j+1 by omega,show k+(j+1)=k+1+j by omega]at this;exact this
    exact⟨S2,e2,by rw[show k+(u::us).length=k+1+0#9 by simp;omega];exact h2⟩
   obtain⟨S1,e1,ht,hf⟩:=st 0 u S rfl h;rw[Nat.add_zero]at e1 ht hf;show ∃S',bnd (t 11#9 S) _=_/\_;rw[e1];simp only[aA,bP,mP,List.filter_cons];cases hp:p k with
   | true=>
     obtain⟨S2,e2,h2⟩:=ht hp;simp only[if_true];rw[e2];simp only[aA];obtain⟨S3,e3,h3⟩:=rest (acc++[g k]) S2 h2;exact⟨S3,by rw[e3];simp,h3⟩
   | false=>
     simp only[hU,if_false];exact rest acc S1 (hf hp)
theorem yX{S:Sto}{t:MT}(ha:a G S=some (.int n,S0))(hn:n<big)(p:Nat->Bool)(g:Nat->U)(P:Nat->Sto->Prop)(h0:P 0 S0)
  (hs:∀(j:Nat) (S:Sto),j<n->P j S->∃S',t (G++[some (.int j)]) S=some (p j,S')/\(p j=true->∃ZD,e (G++[some (.int j)]) S'=some (g j,ZD)/\P (j+1) ZD)/\(p j=false->P (j+1) S')):
  ∃S',dc (iR1 4#1) t e G S=some (.ref S'.length,S'++[.lst (((aB n).filter p).map g)])/\P n S':=by
 obtain⟨S1,e1,h1⟩:=tN (t:=t) (e:=e) (G:=G) p g P (aY 0 n) 0 [] S0 h0 λj u S hj hp=>by
  have hl:j<n:=by have:=(ah.mp hj).1;simpa [aY]using this
  have hu:(aY 0 n)[j]?=some (.int j):=by simp[aY,hl]
  rw[hu]at hj;cases hj;simpa using hs j S hl (by simpa using hp)
 have hlen:(aY 0 n).length=n:=by simp[aY]
 simp only[hlen,d9,oq,<-jn]at e1 h1
 exact⟨S1,jC (mG ha hn) e1 (by
  rw[aF]
  exact aN (GA _ _) (by rw[bf];exact hn)),h1⟩
theorem Ao{S:Sto}(ha:a G S=some (.int n,S0))(hn:n<big)(g:Nat->U)(P:Nat->Sto->Prop)(h0:P 0 S0)
  (hs:∀(j:Nat) (S:Sto),j<n->P j S->∃S',e (G++[some (.int j)]) S=some (g j,S')/\P (j+1) S'):
  ∃S',dc (iR1 4#1) cTT e G S=some (.ref S'.length,S'++[.lst ((aB n).map g)])/\P n S':=by
 obtain⟨S1,e1,h1⟩:=mz g P (aY 0 n) 0 [] S0 h0 λj u S hj hp=>by
  have hl:=by have:=(ah.mp hj).1;simpa [aY]using this
  have hu:(aY 0 n)[j]?=some (.int j):=by simp[aY,hl]
  rw[hu]at hj;cases hj;simpa using hs j S hl (by simpa using hp)
 have hlen:(aY 0 n).length=n:=by simp[aY]
 simp[hlen]at e1 h1;exact⟨S1,jC (mG ha hn) e1 6#3,h1⟩
theorem GU(ha:a G S=some (.ref 6#1,S1++[Cell.lst us]))(h:us[0]?=some u):m2 oIx a 2#3 G S=some (u,S1++[Cell.lst us]):=
 so ha rfl (cj _ _) (jE (k:=0) h)
theorem Oi{y:Nat}(ha:a G S=some 7#2)(hb:b G S1=some 8#0):m2 oEq a b G S=some (.bl (decide (x=y)),S2):=by
 rw[DZ ha hb]
 congr 3
 grind
theorem QV{y:Nat}(ha:a G S=some 7#2)(hb:b G S1=some 8#0):m2 oNe a b G S=some (.bl (!decide (x=y)),S2):=by
 rw[op2 ha hb _];show some (U.bl (!((x:Int)==y)),S2)=_
 congr 4
 grind
theorem AZ{α:Type}(f:α->Bool):∀(l:List α),dY pL (l.map λx=>U.bl (f x))=some (l.map f)
 |[]=>rfl
 | x::l=>by
   show(pL _).bind _=_;rw[AZ f l];rfl
theorem Pb{α:Type}{l:List α}{f:α->Bool}(ha:a G S=some (.ref 6#1,S1++[Cell.lst (l.map λx=>U.bl (f x))])):mFn uw 4#1 G S=some (.bl (l.all f),S1++[Cell.lst (l.map λx=>U.bl (f x))]):=by
 refine gn ha ?_;simp only[uw,getL,cj,aH,AZ]
 simp_all
theorem sr{a b:MS}(h:a G S=some (.rt u,Y3,S1)):aZ a b G S=some (.rt u,Y3,S1):=by simp[aZ,h]
theorem E3:k7 m T i=.tup (aw ((aB m).map (T i))):=by
 unfold k7 As aw;rw[eP];rfl
def J1:MS:=aZ (bA 2 2#3) (aZ (fv 3 (fM 0#6) (bA 2 19#3)) (bZ 0#7))
theorem IX{w:List Nat}(g:Grp m T)(hw:∀x∈w,x<m):_G.run 2 4 J1 [tab m T,.tup (aw w)] S=some (.int (jR T w),S):=by
 obtain⟨Y3,S1,e1,⟨x,rfl⟩,rfl⟩:=ED (i:=3) (b:=bA 2 19#3) (e:=ae 1) (G:= [1#3,5#0,some (.int 0),none]) (S:=S) (S1:=S) (us:=aw w) 0#0
  (λk G S'=>(∃x,G = [1#3,5#0,some (.int (jR T (w.take k))),x])/\S'=S) ⟨⟨none,rfl⟩,rfl⟩ (by
   rintro k u G S' hu ⟨⟨x,rfl⟩,rfl⟩;obtain⟨y,hy,rfl⟩:=tK hu;have Um:y<m:=hw y (cY hy);have UI:jR T (w.take k)<m:=Ba g.pos g.cl λz hz=>hw z (pz hz);refine⟨_,_,bK (kI Um (jO UI 0#0 0#0) 0#0),⟨some (.int y),?_⟩,rfl⟩
   rw[vq hy];rfl)
 rw[cR,mK]at e1;exact bL (G:= [1#3,5#0,some (.int (jR T w)),x]) rfl (show J1 [1#3,5#0,none,none] S1=_ from(aW (bK rfl)).trans ((aW e1).trans (bC 0#0)))
def unT(m:Nat)(T:Nat->Nat->Nat)(i:Nat):Nat:=((aB m).map (T i)).idxOf 0
theorem oP(g:Grp m T)(hi:i<m):unT m T i<m/\T i (unT m T i)=0/\T (unT m T i) i=0 /\ ∀k,k<m->T i k=0->k=unT m T i:=by
 obtain⟨j,hj,h1,h2,h3⟩:=g.inv1 hi;have e:unT m T i=j:=by
  unfold unT;rw[jn,idx_map (k:=j) m 0 (ee _) 0#2 h1 λk _ hk h0=>by have:=h3 k (by exact bg 1#1 1#1) h0;omega];omega
 rw[e];exact⟨hj,h1,h2,h3⟩
theorem K9(g:Grp m T)(hi:i<m):0∈(aB m).map (T i):=by
 obtain⟨h1,h2,_⟩:=oP g hi;exact bw.mpr ⟨unT m T i,cz.mpr h1,h2⟩
theorem uF(ha:a G S=some (u,S1)):eA 4#1 G S=some (.tup [u],S1):=by
 have XR:1<=big:=by decide
 simp[eA,kW ha,aA,XR]
theorem yV(h:S[n]?=some (Cell.lst 1#5)):toD S (f+2) (.ref n)=some (.list (l.map λ(x:Nat)=>dD x)):=by
 show(getL S n).bind _=_;have:getL S n=some 1#5:=by unfold getL;rw[h]
 rw[this];simp only[aH];rw[oH l];rfl
theorem or_false{a b:MT}(ha:a G S=some (false,S1))(hb:b G S1=some (false,S2)):cOr a b G S=some (false,S2):=by
 rw[or_eq ha hb (by grind)];rfl
def eQ(l:List Nat):List Int:=l.map λ(x:Nat)=>(x:Int)
def srt(l:List Nat):List Nat:=(qE (eQ l)).map xJ
theorem Ah(l:List Nat):(qE (eQ l)).map U.int=aw (srt l):=by
 unfold aw srt;rw[eP];apply d5;intro i hi;have hm:=(jf _).mem_iff.mp hi;obtain⟨x,_,rfl⟩:=bw.mp hm;rfl
theorem nD:∀l:List Nat,(eQ l).map xJ=l
 |[]=>rfl
 | x::l=>by
   show xJ _::(eQ l).map _=x::l;rw[nD l];rfl
theorem yh(l:List Nat):(srt l).Perm l:=by
 have h:=(jf (eQ l)).map xJ;rw[nD]at h;exact h
theorem Co{a b:List Nat}(p:a.Perm b):srt a=srt b:=by
 unfold srt;rw[sd ((jf (eQ a)).trans (p.map _)) (yO _)];rfl
theorem GW(l:List Nat):(srt l).length=2#4:=(yh l).length_eq
theorem oa:∀(l:List Nat),dY vI 1#5=some (eQ l)
 |[]=>rfl
 | x::l=>by
   show(vI _).bind _=_;rw[show GO _ l=aw l from rfl,oa l];rfl
theorem Ea{x:U}(h:yt S x=some (eQ l))(hl:2#4<64):iX [x] S=some (.ref 0#5,S++[.lst (aw (srt l))]):=by
 have ok:zQ (eQ l).length:=by unfold eQ;rw[aF];exact hl
 simp[iX,h,ok,Ah]
section
variable {m:Nat}{T:Nat->Nat->Nat}{t n:Nat}
end
open PySem in
theorem kJ(s:String):dN (d8 s)=true:=by
 rw[Str.ofString_eq_toList];unfold dN;rw[Array.all_eq_true_iff_forall_mem];intro c hc;obtain⟨x,_,rfl⟩:=bw.mp (List.mem_toArray.mp hc);have e:x.toNat=x.val.toNat:=rfl
 grind
open PySem in
theorem kF{x y:Str}(hx:dN x=true)(hy:dN y=true):dN (x++y)=true:=by
 unfold dN at *;show(x.cps++y.cps).all _=true;rw[Array.all_append,hx,hy];rfl
open PySem in
theorem yS :∀ ts:List Str,(∀ t∈ts,dN t=true)->dN (Str.join ", " ts)=true
 |[],_=>by decide +kernel
 |[x],h=>h x 0#3
 | x::y::r,h=>by
   exact kF (kF (h x 0#3) (kJ _)) (yS _ λt ht=>h t (by simp[ht]))
inductive Pl:jX->Prop where
 |non:Pl .none
 |bl (b:Bool):Pl (.bool b)
 |int (i:Int):i.natAbs<10^12->Pl (.int i)
 |lst (xs:List jX):(∀x∈xs,Pl x)->Pl (.list xs)
 |tup (xs:List jX):(∀x∈xs,Pl x)->Pl (.tuple xs)
open PySem in
theorem kj:∀{xs:List PyData}{t:Str},t∈vR xs->∃x∈xs,t=x.shown
 |[],t,h=>by simp[vR]at h
 | x::xs,t,h=>by
   simp[vR]at h;rcases h with h|h
   .simp_all
   .obtain⟨y,hy,e⟩:=kj h
    exact⟨y,by simp[hy],e⟩
open PySem in
theorem yZ:∀(ts:List Str) (k:Nat) (acc:Str),dN acc=true->(∀t∈ts,dN t=true)->dN (textFrom k acc ts)=true
 |[],_,acc,h,_=>h
 | t::r,k,acc,h,ht=>by
   exact yZ r _ _ (kF (kF h (kJ _)) (ht t 0#3)) λx hx=>ht x (by simp[hx])
open PySem in
theorem Pl.sok{d:PyData}(h:Pl d):dN d.shown=true:=by
 induction h with
 |non=>exact kJ _
 |bl b=>cases b<;>exact kJ _
 |int i _=>exact kJ _
 | lst xs _ ih=>
   refine kF (yZ _ _ _ (kJ _) λt ht=>?_) (kJ _);obtain⟨x,hx,rfl⟩:=kj ht;exact ih x hx
 | tup xs _ ih=>
   refine kF (kF (kJ _) (yS _ λt ht=>?_)) (kJ _);obtain⟨x,hx,rfl⟩:=kj ht;exact ih x hx
open PySem in
theorem sZ:∀{xs:List PyData},(∀x∈xs,x.canLay0=true)->eD xs=true
 |[],_=>by simp[eD]
 |x::xs,h=>by simp[eD,h x _,sZ λy hy=>h y (az _ hy)]
open PySem in
theorem rX:∀{xs:List PyData},(∀x∈xs,x.showable=true)->qR xs=true
 |[],_=>by simp[qR]
 |x::xs,h=>by simp[qR,h x _,rX λy hy=>h y (az _ hy)]
open PySem in
theorem qj:∀{xs:List PyData},(∀x∈xs,x.intsShort 13=true)->pA 13 xs=true
 |[],_=>by simp[pA]
 |x::xs,h=>by simp[pA,h x _,qj λy hy=>h y (az _ hy)]
theorem Fg{i:Int}(h:i.natAbs<10^12):i.natAbs.log2<40:=by
 by_cases h0:i.natAbs=0
 .rw[h0];decide
 .rw[Nat.log2_lt h0]
  exact ao h 0#1
open PySem in
theorem Pl.lay{d:PyData}(h:Pl d):d.canLay0=true/\d.showable=true/\d.intsShort 13=true:=by
 induction h with
 |non=>exact⟨by simp[eh],by simp[mW],by simp[um]⟩
 |bl b=>exact⟨by simp[eh],by simp[mW],by simp[um]⟩
 |int i hi=>exact⟨by simp[eh],by simp[mW,decide_eq_true_eq];exact bg (Fg hi) 0#1,by simp[um,decide_eq_true_eq];exact PyData.shown_int_le hi⟩
 |lst xs _ ih=>exact⟨by exact sZ λx hx=>(ih x hx).1,by exact rX λx hx=>(ih x hx).2.1,by exact qj λx hx=>(ih x hx).2.2⟩
 |tup xs _ ih=>exact⟨by exact sZ λx hx=>(ih x hx).1,by exact rX λx hx=>(ih x hx).2.1,by exact qj λx hx=>(ih x hx).2.2⟩
open PySem in
theorem tm{B:Nat}:∀{xs:List PyData},(∀x∈xs,x.weight<=B)->uo xs<=1#4*(B+1)
 |[],_=>by simp[uo]
 | x::xs,h=>by
   have h2:=tm (xs:=xs) λy hy=>h y (by simp[hy]);simp only[uo,bP]
   grind
open PySem in
theorem sJ{i:Int}(h:i.natAbs<10^12):(PyData.int i).weight<=40:=by
 simp[PyData.weight];have:=Fg h
 grind
open PySem in
theorem Pl.ok{d:PyData}(h:Pl d)(hd:d.depth<=64)(hw:d.weight<=1048576):nN d:=
 ⟨h.lay.2.1,PyData.shown_fits_of_layable0 0#1 0#1 (by unfold PyData.layable0;rw[h.lay.1];simp[hd,hw]) h.lay.2.2⟩
theorem A6{x:U}{d:jX}(ha:a G S=some (x,S1))(hd:toD S1 40 x=some d)(ho:nN d):mFn m8 4#1 G S=some (.str d.shown,S1):=by
 refine gn ha ?_;simp[m8,hd,if_pos ho]
theorem Je{x:BV}(h:zN x=true):_G.eqU S (.str x) (.str x)=some true:=by
 have e:toD S 40 (.str x)=some (.str x):=by
  unfold toD;rw[if_pos (by simpa [PySem.PyData.canLay0]using h)]
 unfold _G.eqU;rw[e];simp[fL]
theorem FW{x:BV}(ha:a G S=some (.str x,S1))(hb:b G S1=some (.str x,S2))(h:zN x=true):m2 oEq a b G S=some (.bl true,S2):=
 op2 ha hb (by simp[oEq,Je h])
def Mv(l:List Nat):jX:= .tuple (l.map λ(x:Nat)=>dD x)
open PySem in
theorem Bt{l:List Nat}(h:∀x∈l,x<1000):Pl (Mv l):=by
 refine .tup _ λd hd=>?_;obtain⟨x,hx,rfl⟩:=bw.mp hd;have:=h x hx;exact .int _ (by exact bg this 0#1)
theorem tF:∀l:List Nat,kZ (l.map λ(x:Nat)=>dD x)<=1
 |[]=>by simp[kZ]
 | x::l=>by
   have:=tF l;assumption
open PySem in
theorem Hj{l:List Nat}(h:∀x∈l,x<1000)(hl:2#4<=1000):nN (Mv l):=by
 refine(Bt h).ok ?_ ?_
 .have:=tF l
  exact aN 0#2 0#1
 .simp[Mv,PyData.weight]
  have:=tm λd hd=>by
   obtain⟨x,hx,rfl⟩:=bw.mp hd;have:=h x hx;exact sJ (by rw[Int.natAbs_natCast];exact bg this 0#1)
  grind
def JD:MS:=bZ (m2 oEq (mFn m8 4#8) (mFn m8 3#1))
theorem Et{x:U}{d:jX}(hx:toD S 40 x=some d)(hy:toD S 40 y=some d)(hp:Pl d)(ho:nN d):_G.run 2 2 JD [x,y] S=some (.bl true,S):=
 bL rfl (bC (FW (A6 0#0 hx ho) (A6 0#0 hy ho) hp.sok))
theorem Fz{l:List Nat}(h:∀x∈l,x<1000)(hl:2#4<=1000):_G.run 2 2 JD [.tup 1#5,.tup 1#5] S=some (.bl true,S):=
 Et o5 o5 (Bt h) (Hj h hl)
theorem Ol{f:MF}{S3:Sto}{c:ME}{x z:U}{r:Res U}(ha:a G S=some (x,S1))(hb:b G S1=some (y,S2))(hc:c G S2=some (z,S3))(h:f [x,y,z] S3=r):mFn f (aa a (aa b (aa c ai))) G S=r:=by
 simp[mFn,aa,ai,ha,hb,hc,aA,h]
section
variable {S x:Sto}{c e c' e':Cell}
theorem h0:(S++[c,e]++x)[0#5]?=some c:=by simp
theorem h1:(S++[c,e]++x)[0#5+1]?=some e:=by simp
end
inductive Rch(T:Nat->Nat->Nat)(ths:List Nat):Nat->Prop where
 |zero:Rch T ths 0
 |step {x y:Nat}:Rch T ths x->y∈ths->Rch T ths (T x y)
structure Dfs(m:Nat)(T:Nat->Nat->Nat)(ths:List Nat)(ks:List Nat)(C:Nat->Prop):Prop where
 nd:ks.Nodup
 lt:∀x∈ks,x<m
 z:0∈ks
 rc:∀x∈ks,Rch T ths x
 cl:∀x∈ks,C x \/ ∀y∈ths,T x y∈ks
section
variable {m:Nat}{T:Nat->Nat->Nat}{ths ks st:List Nat}
theorem Iw{a b:List Nat}(ha:a.Nodup)(hb:b.Nodup)(h:∀x,x∈a↔x∈b):a.Perm b:=(zO ha hb).mpr λx=>h x
end
section
variable {m:Nat}{T:Nat->Nat->Nat}{ths:List Nat}{S x:Sto}{v:U}
theorem EG{S:Sto}{x:U}(ha:a G S=some (x,S1)):cq 4#1 G S=some (.ref 6#1,S1++[Cell.lst [x]]):=by
 have hq:1<=big:=by decide
 simp[cq,aa,ai,aA,ha,hq]
end
open PySem in
open PySem in
open PySem in
open PySem in
def atM:MS:=bZ (vC (iR1 (aa 4#4 ai)))
theorem PK(hm:m<1000):_G.run 1 1 atM [tab m T] S=some (.tup (aw (aB m)),S):=by
 refine bL rfl (bC ?_);have e1:=mG (G:= [1#3]) (S:=S) (a:=mFn _ (aa 0#4 _)) 5#8 (by exact ao 0#2 0#1);have e2:aY 0 m=aw (aB m):=by
  apply d5;simp
 rw[e2]at e1;have hz:(aw (aB m)).length<=big:=by rw[cR,bf];unfold big;omega
 simp[vC,e1,aA,hz]
section
variable {m:Nat}{T:Nat->Nat->Nat}{part:List Nat}{S:Sto}
end
theorem kA{t:MT}{e:ME}{G:Rho}{S:Sto}{p:U->Bool}{f:U->U}:∀(us acc:List U),(∀u∈us,t 11#9 S=some (p u,S))->(∀u∈us,p u=true->e 11#9 S=some (f u,S)) ->
  eB t e G us acc S=some (acc++(us.filter p).map f,S)
 |[],acc,_,_=>by simp[eB]
 | u::us,acc,ht,he=>by
   unfold eB;rw[ht u 0#3];simp[aA];cases hp:p u with
   | true=>
     rw[he u 0#3 hp];simp[aA];rw[kA us _ (λv hv=>ht v (az _ hv)) (λv hv=>he v (az _ hv)),List.filter_cons_of_pos hp];simp
   | false=>
     rw[if_neg hJ,kA us _ (λv hv=>ht v (az _ hv)) (λv hv=>he v (az _ hv)),List.filter_cons_of_neg (by grind)]
theorem uT{t:MT}{us:List U}{p:U->Bool}{f:U->U}(ha:a G S=some (.tup us,S1))(hl:0#9<big)(ht:∀u∈us,t 11#9 S1=some (p u,S1))(he:∀u∈us,p u=true->e 11#9 S1=some (f u,S1)):
  dc (fM a) t e G S=some (.ref 6#1,S1++[.lst ((us.filter p).map f)]):=by
 have hi:fM a G S=some (.imm us,S1):=by simp[fM,ha,aA]
 have e1:=kA us [] ht he;refine jC hi e1 ?_;have:=GA p us;rw[aF];exact aN 0#2 0#2
variable{f:Nat->U}
theorem Ar{t:MT}{l:List Nat}{p:Nat->Bool}(ha:a G S=some (.tup 1#5,S1))(hl:2#4<big)(ht:∀x∈l,t (G++[some (.int x)]) S1=some (p x,S1))(he:∀x∈l,p x=true->e (G++[some (.int x)]) S1=some (f x,S1)):
  dc (fM a) t e G S=some (.ref 6#1,S1++[.lst ((l.filter p).map f)]):=by
 have nat:∀u∈aw l,∃x∈l,u=.int x:=λu hu=>by
  obtain⟨x,hx,rfl⟩:=bw.mp hu;exact⟨x,hx,rfl⟩
 let g:U->Nat:=λu=>match u with | .int i=>i.toNat |_=>0
 have gx:∀x:Nat,g (.int x)=x:=λx=>by simp[g]
 have h:=uT (p:=λu=>p (g u)) (f:=λu=>f (g u)) ha (by rw[cR];exact hl) (λu hu=>by
  obtain⟨x,hx,rfl⟩:=nat u hu
  exact ht x hx) (λu hu hp=>by
  obtain⟨x,hx,rfl⟩:=nat u hu
  exact he x hx hp)
 rw[h];have:((aw l).filter λu=>p (g u)).map (λu=>f (g u))=(l.filter p).map f:=by
  unfold aw;rw[List.filter_map,eP];have e1:(λu=>p (g u))∘(λ(x:Nat)=>U.int x)=p:=by funext x;simp[gx]
  have e2:(λu=>f (g u))∘(λ(x:Nat)=>U.int x)=f:=by funext x;simp[gx]
  rw[e1,e2]
 rw[this]
theorem Fo{x:U}(ha:a G S=some (x,S1))(hb:b G S1=some (y,S2)):eA (aa a (aa b ai)) G S=some (.tup [x,y],S2):=by
 have Xx:2<=big:=by decide
 simp[eA,aa,ai,ha,hb,aA,Xx]
theorem AD(g:Grp m T)(hi:i<m):_G.run 2 2 (bZ (mMT ir (m2 oIx 0#4 0#6) 7#7)) [tab m T,.int i] S=some (.int (unT m T i),S):=by
 have h0:=K9 g hi;have e:=jO (G:= [1#3,5#1]) (S:=S) (a:=ae 0) (b:=ae 1) hi 0#0 0#0;rw[E3]at e;exact bL (G:= [1#3,5#1]) rfl (bC (zc (x:=0) e c_i h0))
section
variable {m:Nat}{T:Nat->Nat->Nat}{st left:List Nat}{S:Sto}
theorem LR{k:Nat}{b:MS}{S:Sto}(hl:0#9=k)(h:b 15#2 S=some (.nx,G,S1)):_G.run k n b us S=some (.non,S1):=by
 unfold _G.run;rw[if_pos hl,h]
theorem nq{f:MF}{S S3 S4:Sto}{c d:ME}{x z v:U}{r:Res U}(ha:a G S=some (x,S1))(hb:b G S1=some (y,S2))(hc:c G S2=some (z,S3))(hd:d G S3=some (v,S4))(h:f [x,y,z,v] S4=r):mFn f (aa a (aa b (aa c (aa d ai)))) G S=r:=by
 simp[mFn,aa,ai,ha,hb,hc,hd,aA,h]
theorem DF{S:Sto}{x y:List Nat}(ha:a G S=some (.tup (aw x),S1))(hb:b G S1=some (.tup (aw y),S2))(hl:x.length+y.length<=big):m2 bR a b G S=some (.tup (aw (x++y)),S2):=by
 refine op2 ha hb ?_;simp only[bR];rw[if_pos (by rw[cR,cR];omega)];simp[aw]
end
abbrev Nod:=List Nat×List Nat
def JU(th:List Nat):Nat:=(th.getLast?).getD 0
def kids(T:Nat->Nat->Nat)(st:List Nat)(p:Nod):List Nod:=(st.filter λs=>!decide (T (JU p.2) s∈p.2)).map λs=>(p.1++[s],p.2++[T (JU p.2) s])
def PH(T:Nat->Nat->Nat)(st:List Nat)(L:Nod->List (List Nat)):Nat->Nod->List (List Nat)
 |0,p=>L p
 |k+1,p=>(kids T st p).flatMap (PH T st L k)
section
variable {m:Nat}{T:Nat->Nat->Nat}{st:List Nat}{S x:Sto}{F:List (List Nat)}{ln:List Nod}{G:Rho}
end
def JW(b:Nat):Nat->Nat
 |0=>1
 |k+1=>1+b*JW b k
def msr(b m:Nat)(ln:List Nod):Nat:=(ln.map λp=>JW b (m-1-p.1.length)).sum
def rest(T:Nat->Nat->Nat)(st:List Nat)(L:Nod->List (List Nat))(m:Nat)(ln:List Nod):List (List Nat):=ln.reverse.flatMap λp=>PH T st L (m-1-p.1.length) p
section
variable {m:Nat}{T:Nat->Nat->Nat}{st:List Nat}{L:Nod->List (List Nat)}{ln:List Nod}{p:Nod}
end
theorem F4{α:Type}{xs:List α}{k:Nat}:cut xs none (some (k:Int))=xs.take k:=by
 have h1:HT.sIx xs.length 0 none=0:=rfl;have h2:HT.sIx _ xs.length _=min k 1#4:=HT.sIx_nat _ _ k;unfold cut
 grind
section
variable {m:Nat}{T:Nat->Nat->Nat}{st:List Nat}{S:Sto}
end
theorem Ex.set{S S':Sto}{r:Nat}{c:Cell}(h:Ex S S')(hr:0#5<=r):Ex S (S'.set r c):=by
 obtain⟨t,rfl⟩:=h;exact⟨t.set (r-0#5) c,by rw[ox _ _ hr]⟩
section
variable {m:Nat}{T:Nat->Nat->Nat}{st:List Nat}
end
open PySem in
open PySem in
section
variable {m:Nat}{T:Nat->Nat->Nat}{st:List Nat}{S:Sto}
def unM:MS:=bZ (mMT ir (m2 oIx 0#4 0#6) 7#7)
end
abbrev Rds:=List (Nat×List Nat)
structure Rd(T:Nat->Nat->Nat)(ths:List Nat)(ks:Rds):Prop where
 go:∀p∈ks,jR T p.2=p.1
 by':∀p∈ks,∀y∈p.2,y∈ths
 len:∀p∈ks,p.2.length<ks.length
section
variable {m:Nat}{T:Nat->Nat->Nat}{ths:List Nat}{S x:Sto}{v:U}
end
section
variable {m:Nat}{T:Nat->Nat->Nat}
abbrev Lt(m:Nat)(w:List Nat):Prop:= ∀x∈w,x<m
theorem Lt.app{a b:List Nat}(ha:Lt m a)(hb:Lt m b):Lt m (a++b):=λx hx=>(dE.mp hx).elim (ha x) (hb x)
theorem Lt.tk{a:List Nat}(ha:Lt m a)(k:Nat):Lt m (a.take k):=λx hx=>ha x (pz hx)
theorem JZ(g:Grp m T)(hw:Lt m w):jR T w<m:=Ba g.pos g.cl hw
theorem vj(g:Grp m T)(hx:x<m):unT m T x<m:=(oP g hx).1
theorem Qz(g:Grp m T)(hx:x<m):T x (unT m T x)=0:=(oP g hx).2.1
theorem O9(g:Grp m T)(hx:x<m):T (unT m T x) x=0:=(oP g hx).2.2.1
theorem Pg(g:Grp m T){y:Nat}(hx:x<m)(hy:y<m)(h:T x y=0):y=unT m T x:=(oP g hx).2.2.2 y hy h
def bk(m:Nat)(T:Nat->Nat->Nat)(w:List Nat):List Nat:=w.reverse.map (unT m T)
theorem Nz(g:Grp m T)(hw:Lt m w):Lt m (bk m T w):=λx hx=>by
 obtain⟨y,hy,rfl⟩:=bw.mp hx;exact vj g (hw y (i6.mp hy))
theorem qx:(bk m T w).length=w.length:=by simp[bk]
theorem o3:(plc T w).length=w.length+1:=by simp[plc]
theorem MW(g:Grp m T)(hw:Lt m w):Lt m (plc T w):=λx hx=>by
 obtain⟨k,_,rfl⟩:=bw.mp hx;exact JZ g (hw.tk k)
def pre(T:Nat->Nat->Nat)(w:List Nat):List Nat:=(aB w.length).map λk=>jR T (w.take k)
structure All(m:Nat)(l:List Nat):Prop where
 nd:l.Nodup
 lt:Lt m l
 len:l.length=m
theorem All.mem(h:All m l)(hx:x<m):x∈l:=by
 apply Classical.byContradiction;intro z;have:=DY m (x::l) (eN.mpr ⟨z,h.nd⟩) (λy hy=>(aI.mp hy).elim (λe=>e▸hx) (h.lt y));have:=h.len;simp at *;omega
theorem All.perm(h:All m l):l.Perm (aB m):=
 (zO h.nd mO).mpr λx=>⟨λhx=>cz.mpr (h.lt x hx),λhx=>h.mem (cz.mp hx)⟩
theorem All.of(h:l.Perm (aB m)):All m l:=
 ⟨h.nodup_iff.mpr mO,λx hx=>cz.mp (h.mem_iff.mp hx),by have:=h.length_eq;simpa using this⟩
theorem All.map{f:Nat->Nat}(h:All m l)(lt:∀x,x<m->f x<m)(inj:∀x y,x<m->y<m->f x=f y->x=y):All m (l.map f):=by
 refine⟨?_,λx hx=>?_,by simp[h.len]⟩
 .rw[zP,k9]
  exact List.Pairwise.imp_of_mem (λha hb Vx e=>Vx (inj _ _ (h.lt _ ha) (h.lt _ hb) e)) (zP.mp h.nd)
 .obtain⟨y,hy,rfl⟩:=bw.mp hx
  exact lt y (h.lt y hy)
end
variable{y:Bool}
theorem nX{x:Bool}(ha:a G S=some (.bl x,S1))(hb:x=true->b G S1=some (.bl y,S2))(hf:x=false->S2=S1):l8 a b G S=some (.bl (x&&y),S2):=by
 cases x with
 |true=>simp[l8,ha,aA,hb _]
 |false=>simp[l8,ha,aA,hf _]
theorem Ej{x:Bool}(ha:a G S=some (.bl x,S1))(hb:b G S1=some (.bl y,S2))(x1:Ex S S1)(x2:Ex S1 S2):∃S',l8 a b G S=some (.bl (x&&y),S')/\Ex S S':=by
 cases x with
 |true=>exact⟨S2,nX ha (λ_=>hb) (λz=>by cases z),x1.trans x2⟩
 |false=>exact⟨S1,nX ha (λz=>by cases z) (λ_=>rfl),x1⟩
theorem xT{α:Type}{f:α->Bool}:∀l:List α,dY pL (l.map λx=>U.bl (f x))=some (l.map f)
 |[]=>rfl
 | x::l=>by
   show(pL _).bind _=_;rw[xT l];rfl
theorem Lu{α:Type}{f:α->Bool}{l:List α}(ha:a G S=some (.ref r,S1))(hr:S1[r]?=some (.lst (l.map λx=>U.bl (f x)))):mFn uw 4#1 G S=some (.bl (l.all f),S1):=by
 refine gn ha ?_;simp only[uw,getL,hr,aH,xT]
 simp_all
theorem QD{x y:List Nat}(ha:a G S=some (.tup (aw x),S1))(hb:b G S1=some (.tup (aw y),S2)):m2 oEq a b G S=some (.bl (decide (x=y)),S2):=
 op2 ha hb (by simp[oEq,Jj])
theorem EX(ha:a G S=some (.tup 1#5,S1))(hl:2#4<64):mFn iX 4#1 G S=some (.ref 6#1,S1++[.lst (aw (srt l))]):=
 gn ha (Ea (by simp[yt,iS,d6,oa]) hl)
theorem B4(m:Nat):srt (aB m)=aB m:=by
 have h:eQ (aB m)=qE (eQ (aB m)):=sd (List.Perm.refl _) (by
  unfold eQ;rw[k9]
  exact(Dn (n:=m)).imp λh=>by omega)
 unfold srt;rw[<-h];exact nD _
theorem BF:decide (srt l=aB m)=true↔All m l:=by
 rw[decide_eq_true_iff];constructor
 .intro h
  exact All.of ((yh l).symm.trans (by rw[h]))
 .intro h
  rw[Co h.perm,B4]
section
variable {m:Nat}{T:Nat->Nat->Nat}{st w:List Nat}{S:Sto}
def nbM:MS:=bZ (l8 (m1 (ig "int") 0#4) (l8 (m1 zq (m1 (ig "bool") 0#4)) (mCh oLe oLt 2#3 0#4 0#6)))
theorem Ni:_G.run 2 2 nbM [.int (x:Nat),.int (n:Nat)] S=some (.bl (decide (x<n)),S):=by
 have h1:m1 (ig "int") 0#4 [some (.int x),4#0] S=some _:=rfl;have h2:m1 zq (m1 (ig "bool") 0#4) [some (.int x),4#0] S=some _:=rfl;have h3:mCh oLe oLt 2#3 0#4 0#6 [some (.int x),4#0] S=some (.bl (decide (x<n)),S):=by
  have v0:ae 0 [some (.int x),4#0] S=some _:=rfl;have v1:ae 1 [some (.int x),4#0] S=some _:=rfl;have l:oLe (.int 0) (.int x) S=some (.bl true,S):=by
   show some _=_<;>simp_all
  have l2:oLt (.int x) (.int n) S=some (.bl (decide (x<n)),S):=by
   show some _=_;simp
  simp[mCh,mC,aA,v0,l,v1,l2]
 exact nX h1 (λ_=>nX h2 (λ_=>h3) (λz=>by cases z)) (λz=>by cases z)
def Fm:MS:=bZ (l8 (m1 (ig "tuple") 0#4) (mFn uw (aa (dc (fM 0#4) cTT (mFn (_G.run 2 2 nbM) (aa 0#7 3#1))) ai)))
theorem yo{S:Sto}{l:List Nat}(ha:a G S=some (.tup 1#5,S))(hl:2#4<10000000)(he:∀x∈l,e (G++[some (.int x)]) S=some (f x,S)):dc (fM a) cTT e G S=some (.ref 0#5,S++[.lst (l.map f)]):=by
 have h:=Ar (t:=cTT) ha (by exact ao 0#2 0#1) (λ_ _=>rfl) (λx hx _=>he x hx);rwa[qS.mpr (λ_ _=>rfl)]at h
theorem Kl(hl:w.length<10000000):∃S',_G.run 2 2 Fm [.tup (aw w),.int (n:Nat)] S=some (.bl (w.all λx=>decide (x<n)),S')/\Ex S S':=by
 have h1:m1 _ 0#4 [5#0,4#0] S=some _:=isT 0#0;have h2:=yo (e:=mFn _ (aa 0#7 (aa 0#6 _))) (G:= [some _,4#0]) (S:=S) (a:=ae 0) 0#0 hl (λx _=>cW 0#0 0#0 Ni);obtain⟨S',e,x⟩:=Ej h1 (Lu h2 (cj _ _)) (Ex.refl _) 3#7;exact⟨S',bL rfl (bC (e.trans (by rw[BW]))),x⟩
def Mx:MS:=bZ (m2 oEq (mFn bO (aa (mFn iX 3#1) ai)) (mFn (_G.run 1 1 atM) 4#8))
theorem L9(hm:m<1000)(hl:2#4<64):∃S',_G.run 2 2 Mx [tab m T,.tup 1#5] S=some (.bl (decide (srt l=aB m)),S')/\Ex S S':=
 ⟨_,bL rfl (bC (QD (eY (EX 0#0 hl)) (gn 0#0 (PK hm)))),Ex.push _ _⟩
def plM:MS:=aZ (bA 2 (cq 7#7)) (aZ (fv 3 (fM 0#6) (dj 20#0)) (bZ (mFn bO 4#5)))
theorem Nu(g:Grp m T)(hw:Lt m w)(hl:w.length<10000000):∃S',_G.run 2 4 plM [tab m T,.tup (aw w)] S=some (.tup (aw (plc T w)),S')/\Ex S S':=by
 have UP:cq 7#7 [1#3,5#0,none,none] S=some (.ref 0#5,S++10#9):=EG rfl;obtain⟨Y3,S1,e1,⟨x,rfl⟩,q1,q2⟩:=ED (i:=3) (b:=dj 20#0) (e:=ae 1)
  (G:= [1#3,5#0,2#5,none]) (S:=S++10#9) (S1:=S++10#9) (us:=aw w) 0#0
  (λk G S'=>(∃x,G=[1#3,5#0,2#5,x])/\Ex S S'/\S'[0#5]?=some (Cell.lst (aw ((aB (k+1)).map λi=>jR T (w.take i)))))
  ⟨⟨none,rfl⟩,Ex.push _ _,by rw[cj];simp[aw,jR]⟩
  (by
   rintro k u G S' hu ⟨⟨x,rfl⟩,q1,q2⟩;obtain⟨y,hy,rfl⟩:=tK hu;have Um:y<m:=hw y (cY hy);have UI:jR T (w.take k)<m:=JZ g (hw.tk k);have VN:atI (aw ((aB (k+1)).map λi=>jR T (w.take i))) (-1)=some (.int (jR T (w.take k))):=by
    unfold aw;rw[eP];exact EJ
   have ev:m2 oIx (m2 oIx 0#4 (m2 oIx 0#7 (m1 mQ 1#6))) (ae 3) [1#3,5#0,2#5,some (.int y)] S'=some (.int (T (jR T (w.take k)) y),S'):=
    kI Um (jO UI 0#0 (so 0#0 HQ q2 VN)) 0#0
   have hkl:k<w.length:=(ah.mp hy).1;refine⟨_,_,append_eq 0#0 ev q2 q2 (by simp[aw];unfold big;exact aN 1#1 (ao 1#1 0#1)),⟨_,rfl⟩,q1.set 1#8,?_⟩;rw[aJ (ah.mp q2).1];rw[jJ (n:=k+1),cZ]
   simp[aw,vq hy])
 rw[cR]at q2;refine⟨S1,bL (G:= [1#3,5#0,2#5,x]) rfl ?_,q1⟩;show plM [1#3,5#0,none,none] S=_;exact(aW (bK UP)).trans ((aW e1).trans (bC (j0 0#0 q2)))
def gtM:MS:=bZ (l8 (mFn (_G.run 2 2 Fm) (aa 0#6 (aa 4#4 ai))) (mFn (_G.run 2 2 Mx) (aa 0#4 (aa (mFn (_G.run 2 4 plM) 11#4) ai))))
theorem NQ(g:Grp m T)(hm:m<1000)(hw:Lt m w)(hl:w.length<63):∃S',_G.run 2 2 gtM [tab m T,.tup (aw w)] S=some (.bl (decide (srt (plc T w)=aB m)),S')/\Ex S S':=by
 obtain⟨S1,e1,x1⟩:=Kl (S:=S) (n:=m) (w:=w) (by exact ao 1#1 0#1);have ht:(w.all λx=>decide (x<m))=true:=cN.mpr λx hx=>decide_eq_true (hw x hx);rw[ht]at e1;obtain⟨S2,e2,x2⟩:=Nu (S:=S1) g hw (by exact ao 1#1 0#1);obtain⟨S3,e3,x3⟩:=L9 (T:=T) (S:=S2) (l:=plc T w) hm (by rw[o3];exact aN 1#1 0#1);obtain⟨S',e,x⟩:=Ej (G:= [1#3,5#0]) (a:=mFn (_G.run 2 2 Fm) (aa 0#6 (aa 4#4 ai))) (b:=mFn (_G.run 2 2 Mx) (aa 0#4 (aa (mFn (_G.run 2 4 plM) 11#4) ai))) (cW 0#0 5#8 e1) (cW 0#0 (cW 0#0 0#0 e2) e3) x1 (x2.trans x3);exact⟨S',bL (G:= [1#3,5#0]) rfl (bC (e.trans (by rw[BW]))),x⟩
def bkM:MS:=bZ (mFn bO (aa (dc (yG 3#1) cTT (mFn (_G.run 2 2 unM) 12#7)) ai))
theorem Oa(g:Grp m T)(hw:Lt m w)(hl:w.length<10000000):∃S',_G.run 2 2 bkM [tab m T,.tup (aw w)] S=some (.tup (aw (bk m T w)),S')/\Ex S S':=by
 have hi:yG 3#1 [1#3,5#0] S=some (.imm (aw w.reverse),S):=by
  have v:ae 1 [1#3,5#0] S=some (.tup (aw w),S):=rfl;simp only[yG,aa,ai,v,aA];simp[aw]
 have h1:∀u∈aw w.reverse,mFn (_G.run 2 2 unM) 12#7 ([1#3,5#0]++[some u]) S=some ((λu=>match u with | .int i=>.int (unT m T i.toNat:Nat) |_=>.non) u,S):=λu hu=>by
  obtain⟨x,hx,rfl⟩:=bw.mp hu;have hx:=hw x (i6.mp hx);have:=cW (f:=_G.run 2 2 unM) (G:= [1#3,5#0,some (.int x)]) (S:=S) (a:=ae 0) (b:=ae 2) 0#0 0#0 (AD g hx);simpa using this
 have h2:=kA (t:=cTT) (e:=mFn (_G.run 2 2 unM) 12#7) (G:= [1#3,5#0]) (S:=S) (p:=λ_=>true) (f:=λu=>match u with | .int i=>.int (unT m T i.toNat:Nat) |_=>.non) (aw w.reverse) [] (λ_ _=>rfl) (λu hu _=>h1 u hu);rw[qS.mpr (λ_ _=>rfl),oq]at h2;have h3:(aw w.reverse).map (λu=>match u with | .int i=>U.int (unT m T i.toNat:Nat) |_=>.non)=aw (bk m T w):=by
  unfold aw bk;rw[eP,eP];apply d5;intro x _;simp
 rw[h3]at h2;exact⟨_,bL (G:= [1#3,5#0]) rfl (bC (eY (jC hi h2 (by rw[cR,qx];unfold big;exact ao 1#1 0#1)))),Ex.push _ _⟩
end
def tabS(S:Sto)(n:Nat)(T:Nat->Nat->Nat)(k:Nat):Sto:=S++[Cell.lst ((aB k).map (k7 n T))]++(aB k).map λi=>Cell.lst ((aB n).map λj=>U.int (T i j))
theorem BZ{k:Nat}:((tabS S n T k)++[Cell.lst ((aB n).map λj=>U.int (T k j))]).set S.length (Cell.lst ((aB k).map (k7 n T)++[k7 n T k]))=tabS S n T (k+1):=by
 unfold tabS;simp[jJ]
def tbM(g:rA)(φ:MF):MS:=aZ (bA 2 (cq ai)) 21#8
theorem DU{S:Sto}{φ:MF}(hn:n<big)(Vp:∀i j (S:Sto),i<n->j<n->φ [.int (i:Nat),.int (j:Nat)] S=some (.int (T i j:Nat),S))(g:rA):
  _G.run 2 4 (tbM g φ) [.int (n:Nat),.obj g] S=some (tab n T,tabS S n T n):=by
 have cell:∀k,(tabS S n T k)[0#5]?=some (Cell.lst ((aB k).map (k7 n T))):=λk=>by
  unfold tabS;rw[fX,bI 1#8];simp
 obtain⟨Y3,S1,e1,⟨x,rfl⟩,rfl⟩:=mE (i:=3) (a:=ae 0) (n:=n) (b:=dj 22#6)
  (G:= [4#0,10#3,2#5,none]) (S:=tabS S n T 0) 0#0 hn
  (λk G S'=>(∃x,G = [4#0,10#3,2#5,x])/\S'=tabS S n T k) ⟨⟨none,rfl⟩,rfl⟩ (by
   rintro k G S' hk ⟨⟨x,rfl⟩,rfl⟩
   obtain⟨S2,e2,h2⟩:=FE (G:= [4#0,10#3,2#5,8#6]) (S:=tabS S n T k) (S0:=tabS S n T k) (a:=ae 0) (e:=ph 1 g φ (aa (ae 3) 8#5)) (n:=n) 0#0 hn (λj => .int (T k j)) (λ_ ZD=>ZD=tabS S n T k) rfl (by
    rintro j ZD hj rfl;refine⟨_,?_,rfl⟩;show(if g=g then mFn φ (aa (ae 3) 8#5) _ _ else none)=_;rw[if_pos rfl]
    exact cW (var_eq rfl) (var_eq rfl) (Vp k j _ hk hj))
   subst h2;have hl:((aB k).map (k7 n T)).length<big:=by rw[aF,bf];exact bg 1#1 1#1
   have e3:=append_eq (G:= [4#0,10#3,2#5,8#6]) (o:=ae 2) (r:=0#5) (row:=(aB k).map (k7 n T)) 0#0 e2 (cell k) ((Ex.push _ _).some (cell k)) hl;rw[show As n (λj=>U.int (T k j))=k7 n T k from rfl,BZ]at e3
   exact⟨_,_,e3,⟨_,rfl⟩,rfl⟩)
 have e0:cq ai [4#0,10#3,none,none] S=some (.ref 0#5,tabS S n T 0):=mB.trans (by simp[tabS]);have e2:mFn bO 4#5 [4#0,10#3,2#5,x] (tabS S n T n)=some (tab n T,tabS S n T n):=j0 0#0 (cell n);exact bL (G:= [4#0,10#3,2#5,x]) rfl (show tbM g φ [4#0,10#3,none,none] S=_ from(aW (bK e0)).trans ((aW e1).trans (bC e2)))
theorem Ig{k:Nat}:Ex S (tabS S n T k):=⟨_,by unfold tabS;rw[fX]⟩
section
variable {m:Nat}{T:Nat->Nat->Nat}
structure Sn(m:Nat)(T:Nat->Nat->Nat)(p:List Nat):Prop where
 lt:Lt m p
 nd:(plc T p).Nodup
 cl:∀x∈plc T p,∀y∈plc T p,T x y∈plc T p
end
theorem pJ{g:MG}{b:MS}(P:Nat->Rho->Sto->Prop):∀(us:List U) (k:Nat) (G:Rho) (S:Sto),P k G S ->
  (∀(j:Nat) (u:U) (G:Rho) (S:Sto),us[j]?=some u->P (k+j) G S->∃Y3 S1 Y4 S',g u G S=some (Y3,S1)/\b Y3 S1=some 6#9/\P (k+j+1) Y4 S') ->
  ∃Y4 S',sf g b us G S=some 6#9/\P (k+0#9) Y4 S'
 |[],k,G,S,h,_=>⟨G,S,rfl,h⟩
 | u::us,k,G,S,h,st=>by
   obtain⟨Y9,S0,Y3,S1,e0,e1,p1⟩:=st 0 u G S rfl (by simpa using h);obtain⟨Y8,S2,e2,p2⟩:=pJ P us (k+1) Y3 S1 (by simpa using p1) λj v G S hj hp=>by
    have:=st (j+1) v G S 14#2 (by rw[show k+(j+1)=k+1+j by omega];exact hp);rw[show k+(j+1)+1=k+1+j+1 by omega]at this;exact this
   refine⟨Y8,S2,?_,?_⟩
   .show((g u G S).bind λp=>aft (b p.1 p.2) (sf g b us))=_
    rw[e0];simp only[aH,aft,e1,e2]
   .rw[bP,show k+(0#9+1)=k+1+0#9 by omega];exact p2
section
variable {m:Nat}{T:Nat->Nat->Nat}{S:Sto}
abbrev Pln(m:Nat)(T:Nat->Nat->Nat):Prop:= ∀i j,i<m->j<m->T i j=T j i
def thM:MS:=aZ (bA 4 (eA (aa (mFn (_G.run 2 2 bkM) (aa 0#4 4#9)) 4#9))) (aZ (bA 5 0#6) (aZ (qC (gTp 2 17#5) (kQ 4#5) (bA 5 17#8)) (bZ (ae 5))))
theorem yd(h:(gm 1#5)[j]?=some u):∃x,l[j]?=some x/\u=.tup [.int j,.int x]:=by
 unfold gm at h;rw[GL]at h;obtain⟨v,hv,rfl⟩:=iC.mp h;obtain⟨x,hx,rfl⟩:=tK hv;exact⟨x,hx,rfl⟩
end
section
variable {m:Nat}{T:Nat->Nat->Nat}{S:Sto}
end
theorem u9:∀(l acc:List Int) (x:Int),x∈l.foldl 18#5 acc↔x∈acc\/x∈l
 |[],acc,x=>by simp
 | y::l,acc,x=>by
   rw[xN,u9 l];by_cases h:y∈acc
   .rw[if_pos h,aI]
    constructor
    .rintro (z|z)
     .exact .inl z
     .exact .inr (.inr z)
    .rintro (z|rfl|z)
     .exact .inl z
     .exact .inl h
     .exact .inr z
   .rw[if_neg h,dE,a8,aI,or_assoc]
theorem Bf{l:List Int}{x:Int}:x∈ddp l↔x∈l:=by unfold ddp;rw[u9];simp
theorem vH:∀(l acc:List Int),acc.Nodup->(l.foldl 18#5 acc).Nodup
 |[],acc,h=>h
 | y::l,acc,h=>by
   rw[xN];refine vH l _ ?_;by_cases z:y∈acc
   .rw[if_pos z];exact h
   .rw[if_neg z];exact uk.mpr ⟨h,by simp,λa ha b hb=>by simp at hb;rw[hb];exact λe=>z (e▸ha)⟩
theorem Kc(l:List Int):(ddp l).Nodup:=vH l [] List.nodup_nil
def ddN(l:List Nat):List Nat:=(ddp (eQ l)).map xJ
theorem pK(l:List Nat):eQ (ddN l)=ddp (eQ l):=by
 unfold eQ ddN;rw[eP]
 conv=>rhs;rw[<-List.map_id (ddp (l.map λ(x:Nat)=>(x:Int)))]
 apply d5;intro x hx;obtain⟨y,_,rfl⟩:=bw.mp (Bf.mp hx);simp
theorem wY:x∈ddN l↔x∈l:=by
 have h:(x:Int)∈eQ (ddN l)↔(x:Int)∈eQ l:=by rw[pK];exact Bf
 have e:∀k:List Nat,(x:Int)∈eQ k↔x∈k:=λk=>by
  unfold eQ;rw[bw];constructor
  .rintro ⟨y,hy,e⟩
   have:y=x:=by omega
   rw[<-this];exact hy
  .exact λh=>⟨x,h,rfl⟩
 rw[<-e,<-e];exact h
theorem DX(l:List Nat):(ddN l).Nodup:=by
 have h:(eQ (ddN l)).Nodup:=by rw[pK];exact Kc _
 unfold eQ at h;exact(k9.mp h).imp λ{a b} Vx e=>Vx (by rw[e])
inductive Smp:U->Prop where
 |non:Smp .non
 |bl (b:Bool):Smp (.bl b)
 |int (i:Int):Smp (.int i)
 |str (x:BV):Smp (.str x)
 |tup (us:List U):Smp (.tup us)
inductive Thg(S:Sto):U->Prop where
 |non:Thg S .non
 |bl (b:Bool):Thg S (.bl b)
 |int (i:Int):Thg S (.int i)
 |str (x:BV):Thg S (.str x)
 |tup {us:List U} (h:∀v∈us,Smp v) (hl:us.length<60):Thg S (.tup us)
 |lst {n:Nat}{xs:List U} (h:S[n]?=some (Cell.lst xs)):Thg S (.ref n)
 |dic {n:Nat}{kv:List (_L.Key×U)} (h:S[n]?=some (Cell.dic kv)):Thg S (.ref n)
theorem Thg.ex(h:Thg S u)(x:Ex S S'):Thg S' u:=by
 cases h with
 |non=>exact .non
 |bl b=>exact .bl b
 |int i=>exact .int i
 |str y=>exact .str y
 |tup h hl=>exact .tup h hl
 |lst h=>exact .lst (x.some h)
 |dic h=>exact .dic (x.some h)
theorem Thg.stp(h:Thg S u)(x:Stp n S S')(hn:u≠.ref n):Thg S' u:=by
 cases h with
 |non=>exact .non
 |bl b=>exact .bl b
 |int i=>exact .int i
 |str y=>exact .str y
 |tup h hl=>exact .tup h hl
 |lst h=>exact .lst (x.some (λe=>hn (by rw[e])) h)
 |dic h=>exact .dic (x.some (λe=>hn (by rw[e])) h)
theorem Thg.nat(hl:2#4<60):Thg S (.tup 1#5):= .tup (λv hv=>by obtain⟨x,_,rfl⟩:=bw.mp hv;exact .int _) (by rw[cR];exact hl)
def isTup:U->Bool
 |.tup _=>true
 |_=>false
theorem Bs (ha:a G S=some (u,S1))(h:Thg S1 u):m1 (ig "tuple") a G S=some (.bl (isTup u),S1):=by
 simp only[m1,ha,aA,ig];cases h with
 |lst h=>simp only[tyU,h];rfl
 |dic h=>simp only[tyU,h];rfl
 |_=>rfl
def nbV(n:Nat):U->Bool
 |.int i=>decide (0<=i)&&decide (i<n)
 |_=>false
theorem wN{n:Nat}:∀{us:List U},us.all (nbV n)=true->∃l:List Nat,us=aw l /\ ∀x∈l,x<n
 |[],_=>⟨[],rfl,by simp⟩
 | u::us,h=>by
   rw[bx,ak]at h;obtain⟨l,rfl,hl⟩:=wN h.2;cases u with
   | int i=>
     have h1:=h.1;simp[nbV]at h1;refine⟨i.toNat::l,?_,λx hx=>?_⟩
     .show _=U.int _::aw l
      rw[Int.toNat_of_nonneg h1.1]
     grind
   |_=>exact absurd h.1 (by simp[nbV])
theorem IE{l:List Nat}(h:∀x∈l,x<n):(aw l).all (nbV n)=true:=by
 rw[cN];intro u hu;obtain⟨x,hx,rfl⟩:=bw.mp hu;have:=h x hx;simp only[nbV,ak,decide_eq_true_eq];omega
theorem vd{i:Nat}{b:MS}{v:U}(p:U->Bool)(P:Rho->Sto->Prop):∀(us:List U) (G:Rho) (S:Sto),P G S ->
  (∀(u:U) (G:Rho) (S:Sto),u∈us->P G S->∃Y4 S',b 14#5 S=some (if p u then .nx else .rt v,Y4,S')/\P Y4 S') ->
  ∃Y4 S',qg i b us G S=some (if us.all p then .nx else .rt v,Y4,S')/\P Y4 S'
 |[],G,S,h,_=>⟨G,S,rfl,h⟩
 | u::us,G,S,h,st=>by
   obtain⟨Y3,S1,e1,h1⟩:=st u G S 0#3 h;show ∃Y4 S',aft (b 14#5 S) (qg i b us)=_/\_;rw[e1];cases hp:p u with
   | true=>
     obtain⟨Y8,S2,e2,h2⟩:=vd p P us Y3 S1 h1 λw G S hw hP=>st w G S (az _ hw) hP;exact⟨Y8,S2,by simpa [aft,hp]using e2,h2⟩
   |false=>exact⟨Y3,S1,by simp[aft,hp],h1⟩
section
variable {m:Nat}{T:Nat->Nat->Nat}{S:Sto}{u:U}{st:List Nat}
theorem J2(ha:a G S=some (.bl false,S1)):l8 a b G S=some (.bl false,S1):=by simp[l8,ha,aA]
theorem Hy{a b:MT}(ha:a G S=some (true,S1)):cOr a b G S=some (true,S1):=by simp[cOr,ha,aA]
theorem DP{a b:MT}(ha:a G S=some (false,S1))(hb:b G S1=some (y,S2)):cOr a b G S=some (y,S2):=by simp[cOr,ha,aA,hb]
theorem Ms{v:U}(h:Smp v):_G.run 2 2 nbM [v,.int (n:Nat)] S=some (.bl (nbV n v),S):=by
 refine bL rfl (bC ?_);cases h with
 | int i=>
   have h1:m1 (ig "int") 0#4 [5#1,4#0] S=some (.bl true,S):=rfl;have h2:m1 zq (m1 (ig "bool") 0#4) [5#1,4#0] S=some (.bl true,S):=rfl;have h3:mCh oLe oLt 2#3 0#4 0#6 [5#1,4#0] S=some (.bl (decide (0<=i)&&decide (i<n)),S):=by
    have v0:ae 0 [5#1,4#0] S=some _:=rfl;have v1:ae 1 [5#1,4#0] S=some _:=rfl;have c0:mC (.int 0) [5#1,4#0] S=some _:=rfl;by_cases z:0<=i
    .simp[mCh,v0,v1,c0,aA,vS,z]
    .simp[mCh,v0,c0,aA,vS,z]
   exact(nX h1 (λ_=>nX h2 (λ_=>h3) (λz=>by cases z)) (λz=>by cases z)).trans (by simp[nbV])
 |bl b=>rfl
 |non=>rfl
 |str x=>rfl
 |tup us=>rfl
def vh(n:Nat):U->Bool
 |.tup us=>us.all (nbV n)
 |_=>false
theorem G2(h:Thg S u):∃S',_G.run 2 2 Fm [u,.int (n:Nat)] S=some (.bl (vh n u),S')/\Ex S S':=by
 have h1:=Bs (G:= [some u,4#0]) (a:=ae 0) 0#0 h;cases ht:isTup u with
 | false=>
   rw[ht]at h1;refine⟨S,bL rfl (bC ((J2 h1).trans ?_)),Ex.refl _⟩;cases u with
   |tup us=>cases ht
   |_=>rfl
 | true=>
   cases h with
   | tup h hl=>
     have h2:=uT (t:=cTT) (e:=mFn _ (aa 0#7 (aa 0#6 _))) (G:= [some _,4#0]) (S:=S) (a:=ae 0) 0#0 (by exact ao 0#2 0#1) (λ_ _=>rfl) (λv hv _=>cW 0#0 0#0 (Ms (h v hv)));rw[qS.mpr (λ_ _=>rfl)]at h2;exact⟨_,bL rfl (bC (nX h1 (λ_=>Pb h2) (λz=>by cases z))),Ex.push _ _⟩
   |_=>cases ht
theorem mc{r:MA}{x:U}(ha:a G S=some (x,S1))(hr:r G S1=some (xs,S2)):aa a r G S=some (x::xs,S2):=by simp[aa,ha,hr,aA]
theorem ml{r:MA}(h:r G S=some (xs,S1))(hl:1#4<1000):cq r G S=some (.ref 6#1,S1++[.lst xs]):=by
 have:xs.length<=big:=by unfold big;omega
 simp[cq,h,aA,this]
def Tn(n:Nat)(S:Sto)(u:U):Prop:=Thg S u/\u≠.ref n
theorem Tn.ex{n:Nat}{S':Sto}(h:Tn n S u)(x:Ex S S'):Tn n S' u:=⟨h.1.ex x,h.2⟩
theorem Tn.stp{n:Nat}{S':Sto}(h:Tn n S u)(x:Stp n S S'):Tn n S' u:=⟨h.1.stp x h.2,h.2⟩
theorem uV{k:Nat}:cut xs (some (k:Int)) none=xs.drop k:=by
 have h1:HT.sIx _ 0 _=min k 1#4:=HT.sIx_nat _ _ k;have h2:HT.sIx xs.length _ none=1#4:=rfl;unfold cut;rw[h1,h2];rcases Nat.le_total k _ with z|z
 .rw[jW z,Dq 0#3]
 simp_all
theorem tY(ha:a G S=some (.tup xs,S1))(hb:b G S1=some (.tup ys,S2))(hl:xs.length+ys.length<1000):m2 bR a b G S=some (.tup (xs++ys),S2):=op2 ha hb (if_pos 13#9)
theorem zb:∀(a b:List Nat),a.Nodup->(∀x∈a,x∈b)->b.length<=a.length->a.Perm b
 | [],b,_,_,h=>by
   have e:b=[]:=fo (by simpa using h);rw[e]
 | x::a,b,h,hs,hl=>by
   have hx:=hs x 0#3;have h2:=List.length_erase_of_mem hx;have h1:=zb a (b.erase x) (eN.mp h).2 (λy hy=>(List.mem_erase_of_ne (λe:y=x=>(eN.mp h).1 (by rw[<-e];exact hy))).mpr (hs y (az _ hy))) (by simp only[bP]at hl;omega);exact(h1.cons x).trans (List.perm_cons_erase hx).symm
theorem Jd(hl:Lt m l):All m l↔(∀x,x<m->x∈l)/\2#4=m:=by
 constructor
 .intro h;exact⟨λx hx=>h.mem hx,h.len⟩
 .rintro ⟨h1,h2⟩
  refine All.of ((zb (aB m) l mO (λx hx=>h1 x (cz.mp hx)) (by simp;exact Nat.le_of_eq 1#1)).symm)
theorem LC{k:Nat}(ha:a G S=some (.ref n,S1))(hb:b G S1=some (.ref k,S2))(hn:S2[n]?=some (Cell.lst xs))(hk:S2[k]?=some (Cell.lst ys))(hl:1#4+2#9<1000):m2 bR a b G S=some (.ref S2.length,S2++[Cell.lst (xs++ys)]):=
 op2 ha hb (by simp only[bR,hn,hk];exact if_pos 13#9)
end
section
variable {m:Nat}{f:Nat->Nat}
end
variable{rl:MX}{cs:List U}
theorem Ee{rz is:List Nat}{ml:ME}(hc:fA is G=some cs)(h:ml (cs.map some) S=some (u,S1)):gL (jZ rz) is ml rl G S=some (.non,S1++gg λ_=>false):=by
 have e:gH 0 ml cs [] S=some (u,S1):=h;simp only[gL,hc,aH,jZ,e]
theorem Fu{rz is:List Nat}{ml:ME}(hc:fA is G=some cs)(h:ml (cs.map some) S=none)(hx:rl (cs.map some) S=some (q,S1))(hq:q∈rz):gL (jZ rz) is ml rl G S=some (.ref (6#1+3),S1++(gg (bQ q)++[.lst (aw [q])])):=by
 have e:gH 0 ml cs [] S=none:=h;have e2:jo 0 rl cs [] S=some (q,S1):=hx;simp only[gL,hc,aH,jZ,e,e2];rw[if_pos hq];rfl
theorem KJ(S:Sto)(b:Nat->Bool)(l:List Cell):Ex S (S++(gg b++l)):=⟨_,rfl⟩
theorem Bk(S:Sto)(b:Nat->Bool):Ex S (S++gg b):=⟨_,rfl⟩
theorem IM{b:Nat->Bool}{c:Cell}:(S++(gg b++[c]))[0#5+3]?=some c:=by
 simp[gg]
theorem wo{k:Nat}{b:MS}(h:b 15#2 S=none):_G.run k n b us S=none:=by
 unfold _G.run
 simp_all
theorem rH{k:Nat}{r:MX}(hl:0#9=k)(h:r 15#2 S=some (q,S1)):qW k n r us S=some (q,S1):=by
 unfold qW<;>simp_all
theorem u0{a b:MX}{s:MS}(h:a G S=some (q,S1)):nQ a s b G S=some (q,S1):=by simp[nQ,h]
theorem Bh{a b:MX}{s:MS}(h:a G S=none)(h1:s G S=some (.nx,Y3,S1)):nQ a s b G S=b Y3 S1:=by simp[nQ,h,h1]
theorem Ju{a b:MX}(h:c G S=some (true,S1)):xIf c a b G S=a G S1:=by simp[xIf,h,aA]
theorem Ng{a b:MX}(h:c G S=some (false,S1)):xIf c a b G S=b G S1:=by simp[xIf,h,aA]
theorem Ab{a b:MS}(h:a G S=none):aZ a b G S=none:=by simp[aZ,h]
theorem Qa{r:RF}{x y:U}{v:Option (Nat×Sto)}(ha:a G S=some (x,S1))(hb:b G S1=some (y,S2))(h:r [x,y] S2=v):xFn r (aa a (aa b ai)) G S=v:=by simp[xFn,aa,ai,ha,hb,aA,h]
section
variable {m:Nat}{T:Nat->Nat->Nat}{S:Sto}
end
def QL(g:rA)(φ:MF):MS:=aZ (bA 2 (cq ai)) 21#8
section
variable {S:Sto}
def ptM:MS:=aZ (bA 2 (mFn cw 3#1)) (aZ (sIf (cOf 17#0) sNo dk) (bZ (pQ (λg φ=>_G.run 2 4 (QL g φ)) 2 [2,0,1] (m2 bR 20#1 20#5) (m2 d7 4#4 0#7))))
theorem Ic{S:Sto}{y:Nat}(ha:a G S=some 7#2)(hb:b G S1=some 8#0):m2 oGt a b G S=some (.bl (decide (y<x)),S2):=by
 rw[GY ha hb]
 congr 3
 exact decide_eq_decide.mpr 0#2
theorem NG{k:Nat}(hk:k<1000)(hm:0<m)(YX:m<1000)(Ze:k*m<=24)(ca:∀i j,i<k->j<k->A i j<k):∃S',_G.run 2 3 ptM [tab k A,tab m B] S=some (tab (k*m) (jv m A B),S')/\Ex S S':=by
 refine⟨tabS S (k*m) (jv m A B) (k*m),bL (G:= [3#4,3#2,9#8]) rfl ?_,Ig⟩;show ptM [3#4,3#2,none] S=_;have e1:=bK (i:=2) (len_tab (G:= [3#4,3#2,none]) (S:=S) (a:=ae 1) 0#0);have e2:=m9 (G:= [3#4,3#2,9#8]) (S:=S) (a:=mFn cw 4#8) (b:=ae 2) (x:=k) (y:=m) 5#8 0#0 0#2;have e3:=of_eq (Ic (b:=mC (.int 24)) (y:=24) e2 c_i);rw[decide_eq_false 0#2]at e3;refine(aW e1).trans ((aW ((k6 e3).trans rfl)).trans (bC ?_));refine FH (cs:= [.int (m:Nat),tab k A,tab m B]) e2 rfl λf=>DU 13#9 (λi j S' hi hj=>?_) f;have V4:i/m<k:=(GP hm).mpr hi;have SJ:j/m<k:=(GP hm).mpr hj;have Vo:=kO i hm;have R8:=kO j hm;have hA:=ca _ _ V4 SJ;show m2 bR 20#1 20#5 [some (.int (i:Nat)),9#9,9#8,3#4,3#2] S'=_;exact add_n (m9 (kI SJ (jO V4 0#0 (qD 0#0 0#0 hm YX)) (qD 0#0 0#0 hm YX)) 0#0 0#2) (kI R8 (jO Vo 0#0 (tU 0#0 0#0 hm)) (tU 0#0 0#0 hm))
theorem M0{k:Nat}(hk:k<1000)(Ze:24<k*m):_G.run 2 3 ptM [tab k A,tab m B] S=none /\ ∀G,G=[3#4,3#2,9#8]->cOf 17#0 G S=some (true,S):=by
 have e1:=bK (i:=2) (len_tab (G:= [3#4,3#2,none]) (S:=S) (a:=ae 1) 0#0);have e2:=m9 (G:= [3#4,3#2,9#8]) (S:=S) (a:=mFn cw 4#8) (b:=ae 2) (x:=k) (y:=m) 5#8 0#0 0#2;have e3:=of_eq (Ic (b:=mC (.int 24)) (y:=24) e2 c_i);rw[decide_eq_true Ze]at e3;refine⟨wo ?_,λG e=>by rw[e];exact e3⟩;show ptM [3#4,3#2,none] S=_;exact(aW e1).trans (Ab ((mT e3).trans rfl))
end
open PySem in
open PySem in
section
variable {S:Sto}
section
variable {n m r:Nat} (hn:0<n) (Ya:n<100) (hm:0<m) (YX:m<100) (hr:r<100)
include hn Ya hm YX hr
end
end
section
variable {m:Nat}{T:Nat->Nat->Nat}
open Classical in
end
section
variable {m:Nat}{T:Nat->Nat->Nat}{P:List Nat}
end
section
variable {m:Nat}{T:Nat->Nat->Nat}{P:List Nat}
end
end _W
namespace _W
open PySem PySem.Spec _L _G
def j5:MS:=aZ (bA 1 (mFn jH (aa 0#4 (aa (mC (.int 6)) ai)))) (bZ (eA (aa 0#6 (aa (mFn jH (aa 0#4 (aa (m2 oIx (cq (aa (mC (.int 4)) (aa (mC (.int 4)) (aa (mC (.int 5)) (aa (mC (.int 6)) ai))))) (mFn ba (aa 0#4 (aa (mC (.int 4)) ai)))) ai))) ai))))
def dS:MF:=run 1 2 j5
def rT:MS:=bZ (m2 oEq (mFn m8 4#8) (mFn m8 3#1))
def nA:MF:=run 2 2 rT
def lP:MS:=aZ (bA 4 (cq ai)) (aZ (qC (gTp 2 (dB (gN 5) (dB (gN 6) jx))) (kQ 4#8) (aZ 22#2 (dj 17#9))) (bZ (ae 4)))
def gO:MF:=run 4 7 lP
def oC:MS:=bZ (m2 oIx (dc (iR1 (aa 4#4 ai)) (cOf (m2 oEq (m2 oIx (m2 oIx 0#4 0#7) 0#6) 2#3)) 0#7) 2#3)
def eT:MF:=run 2 2 oC
def t6:MS:=bZ (mFn bO (aa (dc (fM (m1 uK 0#6)) cTT (mFn eT 12#7)) ai))
def ku:MF:=run 2 2 t6
def qF:MS:=aZ (bA 2 2#3) (aZ (fv 3 (fM 0#6) (bA 2 19#3)) (bZ 0#7))
def lD:MF:=run 2 4 qF
def kH:MS:=aZ (sIf (cOr (eE (cOf (m1 (ig "tuple") 0#6))) (cOf (m2 oNe (mFn cw 3#1) (m2 qo 4#4 1#6)))) 12#3 dk) (aZ (fv 2 (fM 0#6) (sIf (cOr (eE 17#6) (cOr (cOf (m1 (ig "bool") 0#7)) (eE (cOf (mCh oLe oLt 2#3 0#7 4#4))))) 12#3 dk)) (bZ (m2 oEq (mFn bLS (aa (dc (iR1 (aa 4#4 ai)) cTT (mFn lD (aa 0#4 (aa 14#3 ai)))) ai)) 4#4)))
def eX:MF:=run 2 3 kH
def vm:MS:=aZ (sIf (cOf (m2 oGt (m2 d7 4#4 (mFn cw 4#5)) (mC (.int 24)))) (bZ (cq 7#7)) dk) (aZ (sIf (cOr (eE (cOf (mFn eX 11#4))) (eE (cOf (mFn eX 11#1)))) (bZ (cq (aa 2#7 ai))) dk) (aZ (bA 4 (mFn gO (aa 0#6 (aa (mFn cw 4#5) (aa (mFn ku 11#1) 4#9))))) (bZ (mFn bO (aa (m2 bR (mFn kX 4#9) (ae 4)) ai)))))
def qc:MF:=run 4 5 vm
def tw(g:rA)(φ:MF):MS:=aZ (bA 2 (cq ai)) 21#8
def sk(g:rA)(φ:MF):MF:=run 2 4 (tw g φ)
def lW:MS:=aZ (bA 2 (mFn cw 3#1)) (aZ (sIf (cOf 17#0) sNo dk) (bZ (pQ sk 2 [2,0,1] (m2 bR 20#1 20#5) (m2 d7 4#4 0#7))))
def fw:MF:=run 2 3 lW
def jd:MX:=nQ xNo (bA 2 (mFn cw 3#1)) (nQ (xIf (cOf 17#0) (nQ (tZ 0) sNo xNo) xNo) (sIf (cOf 17#0) sNo dk) xNo)
def gK:RF:=qW 2 3 jd
def ju:MS:=bZ (l8 (m1 (ig "int") 0#4) (l8 (m1 zq (m1 (ig "bool") 0#4)) (mCh oLe oLt 2#3 0#4 0#6)))
def jG:MF:=run 2 2 ju
def iQ:MS:=bZ (l8 (m1 (ig "tuple") 0#4) (mFn uw (aa (dc (fM 0#4) cTT (mFn jG (aa 0#7 3#1))) ai)))
def iP:MF:=run 2 2 iQ
def oW:MS:=bZ (vC (iR1 (aa 4#4 ai)))
def oG:MF:=run 1 1 oW
def j6:MS:=bZ (m2 oEq (mFn bO (aa (mFn iX 3#1) ai)) (mFn oG 4#8))
def j4:MF:=run 2 2 j6
def yb:MS:=aZ (bA 2 (cq 7#7)) (aZ (fv 3 (fM 0#6) (dj 20#0)) (bZ (mFn bO 4#5)))
def yf:MF:=run 2 4 yb
def l6:MS:=bZ (l8 (mFn iP (aa 0#6 (aa 4#4 ai))) (mFn j4 (aa 0#4 (aa (mFn yf 11#4) ai))))
def dv:MF:=run 2 2 l6
def j3:MS:=sIf 21#5 sNo dk
def dU:MF:=run 4 4 j3
def kf:MX:=nQ (xIf 21#5 (nQ (tZ 2) sNo xNo) xNo) (sIf 21#5 sNo dk) xNo
def ij:RF:=qW 4 4 kf
def y0:MS:=bZ (mMT ir (m2 oIx 0#4 0#6) 7#7)
def yg:MF:=run 2 2 y0
def EZ:MS:=bZ (mFn bO (aa (dc (yG 3#1) cTT (mFn yg 12#7)) ai))
def DJ:MF:=run 2 2 EZ
def rP:MS:=aZ (bA 4 (eA (aa (mFn DJ (aa 0#4 4#9)) 4#9))) (aZ (bA 5 0#6) (aZ (qC (gTp 2 17#5) (kQ 4#5) (bA 5 17#8)) (bZ (ae 5))))
def sQ:MF:=run 4 8 rP
def lH:MS:=bZ (mFn bO (aa (dc (fM 0#4) cTT (m2 d7 0#7 (mFn cw 3#1))) ai))
def jg:MF:=run 2 2 lH
def Bo:MS:=aZ (bA 4 (mFn fw 12#7)) (aZ (dj (mFn dU (aa 0#4 (aa 0#6 11#1)))) (bZ (mFn sQ (aa (ae 4) (aa (ae 3) (aa (mFn jg (aa 0#6 4#5)) 4#9))))))
def iu:MF:=run 4 5 Bo
def A2:MX:=nQ (xFn gK 12#7) (bA 4 (mFn fw 12#7)) (nQ (xFn ij (aa 0#4 (aa 0#6 11#1))) (dj (mFn dU (aa 0#4 (aa 0#6 11#1)))) xNo)
def jF:RF:=qW 4 5 A2
def qN:MS:=aZ (bA 4 (gL (uD [0,2]) [0,2,3,1] (mFn iu 13#5) (xFn jF 13#5))) (bZ (mFn nA (aa (ae 4) (aa (mFn qc (aa 0#4 (aa 0#6 11#1))) ai))))
def bM:MF:=run 4 5 qN
def nr:MS:=aZ (bA 2 (mFn iG (aa 0#4 (aa (mFn cw 3#1) ai)))) (bZ (mFn bO (aa (lK 2 (y9 (aa 0#7 (aa (mSl 0#7 (some 1#6) none) ai))) cTT (m2 oIx (m2 oIx 0#6 (mFn eT (aa 0#6 4#9))) (ae 4))) ai)))
def dq:MF:=run 2 3 nr
def kT:MS:=aZ (bA 3 (mFn ba (aa 0#4 (aa (m2 bR (mFn cw 3#1) 1#6) ai)))) (aZ (bA 4 (m2 oIx (cq (aa 2#3 (aa 1#6 (aa 0#7 (aa (m1 mQ 1#6) (aa (mC (.bl true)) (aa (mC .non) (aa (mC (.str "0")) (aa (eA 7#7) (aa (m2 qo 0#7 1#6) ai)))))))))) (mFn ba (aa 0#4 (aa (mC (.int 9)) ai))))) (aZ (bA 5 (cq (aa (m2 bR (m2 bR 14#3 (eA 8#5)) (mSl 0#6 (some (m2 bR (ae 3) 1#6)) none)) (aa (m2 bR 14#3 (mSl 0#6 (some (m2 bR (ae 3) 1#6)) none)) (aa (m2 bR (m2 bR 14#3 (eA 8#5)) (mSl 0#6 (some (ae 3)) none)) (aa (mFn kX 3#1) ai)))))) (aZ (bA 5 (m2 bR (ae 5) (cq (aa (m1 uK 0#6) (aa (m2 bR (mSl 0#6 (some (ae 3)) none) 14#3) (aa (m2 bR 0#6 0#6) (aa (mC .non) (aa (eA ai) 3#1)))))))) (bZ (m2 oIx (ae 5) (mFn ba (aa 0#4 (aa (mC (.int 10)) ai))))))))
def fe:MF:=run 3 6 kT
def vD:MS:=aZ (bA 1 (cq (aa (mC .non) (aa (mC (.bl true)) (aa (mC (.bl false)) (aa (m1 mQ 1#6) (aa (mC (.str "")) (aa (mC (.str "0")) (aa (eA ai) (aa (cq ai) (aa (eA (aa (mC (.bl true)) ai)) (aa (cq 7#7) (aa (vB 2#3 1#6) (aa (eA (aa (mC .non) ai)) (aa (eA (aa (m1 mQ 1#6) ai)) (aa (eA (aa (mC (.str "a")) ai)) (aa (m2 wa (mC (.int 10)) (mC (.int 30))) (aa (eA (aa (eA 7#7) ai)) ai)))))))))))))))))) (bZ (m2 oIx 0#6 (mFn ba (aa 0#4 (aa (mC (.int 16)) ai)))))
def kc:MF:=run 1 2 vD
def Kb:MS:=aZ (sIf (cOr (eE (cOf (mFn bM (aa (mFn bU (aa 1#6 ai)) (aa (eA ai) (aa (mFn bU (aa 1#6 ai)) (aa (eA ai) ai))))))) (eE (cOf (mFn bM (aa (mFn bU (aa 2#7 ai)) (aa (eA (aa 1#6 ai)) (aa (mFn bU (aa 2#7 ai)) (aa (eA (aa 1#6 ai)) ai)))))))) 12#3 dk) (aZ (fv 1 (iR1 (aa (mFn zt (aa 1#6 (aa (mFn yQ (aa 4#4 (aa (mC (.int 5)) ai))) ai))) ai)) (aZ (bA 2 (mFn iD 11#4)) (aZ (AK (mFn dS 4#5) (gTp 2 (dB (gN 3) (dB (gN 4) jx)))) (aZ (Az 5 6 22#0) (aZ (sIf (cOr (eE (cOf (mFn bM (aa (ae 3) (aa (ae 5) (aa (ae 4) (aa (ae 6) ai))))))) (eE (cOf (mFn bM (aa (ae 4) (aa (ae 6) (aa (ae 3) (aa (ae 5) ai)))))))) 12#3 dk) (fv 7 (fM (cq (aa (mFn fe (aa 0#7 (aa (ae 5) (aa (mFn cw 4#9) ai)))) (aa (mFn kc 4#5) (aa (eA ai) ai))))) (sIf 19#5 12#3 dk))))))) (bZ (mC (.bl true))))
def M9:MF:=run 1 8 Kb
section
open _L _G
section
variable {k m:Nat}{A B T:Nat->Nat->Nat}{S:Sto}{l p:List Nat}{u v:U}
def thL(b p:List Nat):Nat->List Nat->List Nat
 |_,[]=>[]
 |i,s::r=>s::((if i%2=0 then b else p)++thL b p (i+1) r)
theorem oK{b:List Nat}(hb:b.length=9#4):∀(l:List Nat) (i:Nat),(thL b p i l).length=2#4*(9#4+1)
 |[],_=>by simp[thL]
 | s::r,i=>by
   have:=oK hb r (i+1);have e:(if i%2=0 then b else p).length=9#4:=by split<;>simp[hb]
   simp only[thL,bP,aK,e,this,GB];omega
theorem F9{n:Nat}{b:List Nat}(hb:Lt n b)(hp:Lt n p):∀(l:List Nat) (i:Nat),Lt n l->Lt n (thL b p i l)
 |[],_,_=>λx hx=>(cM hx).elim
 | s::r,i,h=>λx hx=>by
   rcases aI.mp hx with rfl|hx
   .exact h _ aV
   .rcases dE.mp hx with hx|hx
    .split at hx
     .exact hb x hx
     .exact hp x hx
    .exact F9 hb hp r (i+1) (λy hy=>h y (az _ hy)) x hx
theorem yx{b:List Nat}{s:Nat}:∀(l:List Nat) (i:Nat),thL b p i (l++[s])=thL b p i l++(s::if (i+2#4)%2=0 then b else p)
 |[],i=>by simp[thL]
 | x::r,i=>by
   have:=yx (b:=b) (s:=s) r (i+1);simp only[vO,thL,this,fX,bP];rw[show i+1+9#3=i+(9#3+1) by omega]
theorem ze{b:List Nat}{s j:Nat}(h:l[j]?=some s):thL b p 0 (l.take (j+1))=thL b p 0 (l.take j)++[s]++(if j%2=0 then b else p):=by
 have hj:=(ah.mp h).1;rw[List.take_succ,h,Option.toList_some,yx,eg,jW (aM hj),d9];simp
theorem Io(ga:Grp k A)(gb:Grp m B){x:Nat}(hx:x<m):unT (k*m) (jv m A B) x=unT m B x:=by
 have g:=tV ga gb;have hk:∀{y},y<m->y<k*m:=λh=>ao h (iO _ ga.pos);have hy:=vj gb hx;refine(Pg g (hk hx) (hk hy) ?_).symm;unfold jv;rw[ek hx,ek hy,bh hx,bh hy,ga.l0 0 ga.pos,Qz gb hx];simp
theorem G0(ga:Grp k A)(gb:Grp m B)(hp:Lt m p):bk (k*m) (jv m A B) p=bk m B p:=
 d5 λx hx=>Io ga gb (hp x (i6.mp hx))
def toN:U->List Nat
 | .tup us=>us.map fun
   |.int i=>i.toNat
   |_=>0
 |_=>[]
theorem jA:toN (.tup 1#5)=l:=by
 show GO _ (GO _ l)=l;rw[eP];exact(d5 λx _=>lg x).trans (List.map_id l)
def wy(m:Nat)(T:Nat->Nat->Nat)(u:U):Bool:=vh m u&&decide (srt (plc T (toN u))=aB m)
theorem Ec(h:Lt m l):wy m T (.tup 1#5)=decide (srt (plc T l)=aB m):=by
 unfold wy;rw[jA,show vh m (.tup 1#5)=true from IE h,BW]
theorem ua(hu:Thg S u)(h:wy m T u=true):∃l,u=.tup 1#5/\Lt m l/\srt (plc T l)=aB m/\2#4+1=m:=by
 unfold wy at h;rw[ak]at h;cases u with
 | tup us=>
   obtain⟨l,rfl,hl⟩:=wN (show us.all (nbV m)=true from h.1);have e:=of_decide_eq_true h.2;rw[jA]at e;refine⟨l,rfl,hl,e,?_⟩;have:=congrArg xw e;rw[GW,o3,bf]at this;exact this
 |_=>cases h.1
theorem E5(g:Grp m T)(hm:m<1000)(hu:Thg S u):∃S',_G.run 2 2 gtM [tab m T,u] S=some (.bl (wy m T u),S')/\Ex S S':=by
 obtain⟨S1,e1,x1⟩:=G2 (n:=m) hu;have a1:mFn (_G.run 2 2 Fm) (aa 0#6 (aa 4#4 ai)) [1#3,some u] S=some (.bl (vh m u),S1):=cW 0#0 5#8 e1;cases h:vh m u with
 | false=>
   rw[h]at a1;exact⟨S1,bL (G:= [1#3,some u]) rfl (show gtM [1#3,some u] S=_ from bC (by rw[J2 a1];simp[wy,h])),x1⟩
 | true=>
   cases hu with
   | tup _ hl=>
     obtain⟨l,rfl,hw⟩:=wN (show _=true from h);rw[cR]at hl;obtain⟨S2,e2,x2⟩:=NQ (S:=S) g hm hw 0#2;exact⟨S2,by rw[e2,Ec hw],x2⟩
   |_=>cases h
theorem Kw(g:Grp m T)(hw:Lt m l)(hl:2#4+1=m):((ddN (plc T l)).length=m)↔srt (plc T l)=aB m:=by
 have lt:=MW g hw;have hd:Lt m (ddN (plc T l)):=λx hx=>lt x (wY.mp hx);constructor
 .intro h
  have a:All m (ddN (plc T l)):=⟨DX _,hd,h⟩;have b:All m (plc T l):=(Jd lt).mpr ⟨λx hx=>wY.mp (a.mem hx),by rw[o3];exact hl⟩;exact of_decide_eq_true (BF.mpr b)
 .intro h
  have b:=BF.mp (decide_eq_true h);have:=(Iw (DX (plc T l)) b.nd λx=>wY).length_eq;rw[this,o3];exact hl
theorem LY{a:List Nat}(g:Grp m T)(hp:Lt m p)(hb:a.length+2#4*(9#4+1)<=1000)(ZM:9#4<1000):∃S',_G.run 4 8 thM [tab m T,.tup (aw a),.tup 1#5,.tup (aw p)] S=some (.tup (aw (a++thL (bk m T p) p 0 l)),S')/\Ex S S':=by
 obtain⟨S1,e1,x1⟩:=Oa (S:=S) g hp (bg ZM 0#1);generalize hE: [1#3,some (.tup (aw a)),3#6,12#4,some (.tup 19#2)]=E;have hE0:∀(x y z:Option U),(E++[x,y,z])[4]?=some (some (.tup 19#2)):=λx y z=>by rw[<-hE];rfl
 obtain⟨Y8,S2,e2,⟨b,c,rfl⟩,hS⟩:=pJ (g:=gTp 2 17#5) (b:=bA 5 17#8)
  (λj G S'=>(∃b c,G=E++[16#5,b,c])/\S'=S1) (gm 1#5) 0 (E++[some (.tup (aw a)),none,none]) S1 ⟨⟨none,none,by simp[thL]⟩,rfl⟩ (by
   rintro j u G S' hu ⟨⟨b,c,rfl⟩,rfl⟩;rw[d9];obtain⟨x,hx,rfl⟩:=yd hu;have hj:=(ah.mp hx).1;have Wu:=oK (p:=p) (qx (m:=m) (T:=T)) (l.take j) 0;rw[eg,jW (aM hj)]at Wu;have hmul:(j+1)*(9#4+1)<=2#4*(9#4+1):=qA _ hj;rw[GB]at hmul;have hq:(if j%2=0 then bk m T p else p).length=9#4:=by split<;>simp[qx]
   have s1:gTp 2 17#5 (.tup [.int (j:Nat),.int (x:Nat)]) (E++[16#5,b,c]) S'=some (E++[16#5,9#9,8#3],S'):=by rw[<-hE];rfl
   have f1:m2 bR (ae 5) (eA (aa (ae 7) ai)) (E++[16#5,9#9,8#3]) S'=some (.tup (aw (a++thL (bk m T p) p 0 (l.take j)++[x])),S'):=
    DF (var_eq 12#5) (uF (var_eq 12#5)) (by unfold big;simp;omega)
   have f2:m2 oIx (ae 4) (m2 oMod (ae 6) 2#7) (E++[16#5,9#9,8#3]) S'=some (.tup (aw (if j%2=0 then bk m T p else p)),S'):=by
    refine Kn (us:= 19#2) (var_eq (hE0 _ _ _)) (tU (x:=j) (y:=2) (var_eq 12#5) c_i 0#1) (jE ?_);by_cases q:j%2=0
    .rw[if_pos q,q];rfl
    .rw[if_neg q,show j%2=1 by omega];rfl
   have f3:=DF f1 f2 (by rw[aK,aK,Wu,hq];unfold big;simp;omega);refine⟨_,S',_,S',s1,bK f3,⟨9#9,8#3,?_⟩,rfl⟩;rw[ze hx,<-hE]
   simp)
 have hlen:(gm 1#5).length=2#4:=by simp[gm,aw]
 rw[hlen,d9,mK]at e2;subst hS;refine⟨S2,bL (G:=E++[some (.tup (aw (a++thL (bk m T p) p 0 l))),b,c]) rfl ?_,x1⟩;have et:eA (aa (mFn (_G.run 2 2 bkM) (aa 0#4 4#9)) 4#9) [1#3,some (.tup (aw a)),3#6,12#4,none,none,none,none] S=some (.tup 19#2,S2):=Fo (cW 0#0 0#0 e1) 0#0;have ef:qC (gTp 2 17#5) (kQ 4#5) (bA 5 17#8) (E++[some (.tup (aw a)),none,none]) S2=some (.nx,E++[some (.tup (aw (a++thL (bk m T p) p 0 l))),b,c],S2):=by
  show bnd (kQ _ _ _) _=_;rw[show kQ 4#5 (E++[some (.tup (aw a)),none,none]) S2=some (.imm (gm 1#5),S2) by rw[<-hE];rfl];exact e2
 refine(aW (bK et)).trans ((aW (bK 0#0)).trans ?_);subst hE;exact(aW ef).trans (bC 0#0)
theorem P8(hl:2#4<1000)(YU:∀x∈l,x<1000):∃S',jg [.tup 1#5,tab m B] S=some (.tup (aw (l.map (· * m))),S')/\Ex S S':=by
 have e1:=yo (G:= [3#6,3#2]) (S:=S) (a:=ae 0) (e:=m2 d7 0#7 (mFn cw 3#1)) (f:=λx=>.int (x*m:Nat)) 0#0 (bg hl 0#1) λx hx=>m9 0#0 5#8 (bg (YU x hx) 0#1);rw[show(l.map λx=>U.int (x*m:Nat))=aw (l.map (· * m)) by simp[aw]]at e1;exact⟨_,bL (G:= [3#6,3#2]) rfl (bC (eY e1)),Ex.push _ _⟩
variable{e:ME}{G:Rho}
theorem La{S:Sto}{i:Nat}(h:e G S=none):bA i e G S=none:=by simp only[bA,h,bnd]
variable{S1:Sto}
theorem Ht{S:Sto}{u:U}(h:e G S=some (u,S1)):dj e G S=some (.nx,G,S1):=by simp only[dj,h,aA]
theorem HZ{S:Sto}(h:e G S=none):dj e G S=none:=by simp only[dj,h,bnd]
theorem PM{r:RF}{a b c d:ME}{S S2 S3 S4:Sto}{x y z w:U}{v:Option (Nat×Sto)}(ha:a G S=some (x,S1))(hb:b G S1=some (y,S2))(hc:c G S2=some (z,S3))(hd:d G S3=some (w,S4))(h:r [x,y,z,w] S4=v):xFn r (aa a (aa b (aa c (aa d ai)))) G S=v:=by simp only[xFn,aa,ai,ha,hb,hc,hd,aA,h]
theorem HD{S S2:Sto}{a b:ME}{x y:Bool}(ha:a G S=some (.bl x,S1))(x1:Ex S S1)(hb:b G S1=some (.bl y,S2))(x2:Ex S1 S2):∃S',cOr (eE (cOf a)) (eE (cOf b)) G S=some (!(x&&y),S')/\Ex S S':=by
 have h1:=not_eq (of_eq ha);cases x with
 |false=>exact⟨S1,Hy h1,x1⟩
 | true=>
   refine⟨S2,?_,x1.trans x2⟩;rw[DP h1 (not_eq (of_eq hb))];rfl
theorem KD(ga:Grp k A)(gb:Grp m B)(hk:k<1000)(hm:m<1000)(hu:Thg S u)(hv:Thg S v):∃S',Ex S S' /\
  (wy k A u=true/\wy m B v=true->dU 10#7 S=some (.non,S')) /\
  (¬(wy k A u=true/\wy m B v=true)->dU 10#7 S=none/\ij 10#7 S=some (2,S')):=by
 obtain⟨S1,e1,x1⟩:=E5 (S:=S) ga hk hu;obtain⟨S2,e2,x2⟩:=E5 (S:=S1) gb hm (hv.ex x1);obtain⟨S3,e3,x3⟩:=HD (G:= [3#4,some u,3#2,some v]) (a:=mFn dv 11#4) (b:=mFn dv 11#1) (cW 0#0 0#0 e1) x1 (cW 0#0 0#0 e2) x2;refine⟨S3,x3,λh=>?_,λh=>?_⟩
 .rw[h.1,h.2]at e3
  exact LR (G:= [3#4,some u,3#2,some v]) rfl ((k6 e3).trans rfl)
 .have z:(wy k A u&&wy m B v)=false:=by rw[<-Bool.not_eq_true,ak];exact h
  rw[z]at e3;exact⟨wo ((mT e3).trans rfl),rH rfl (u0 ((Ju e3).trans (u0 rfl)))⟩
end
end
section
open _L _G
section
variable {k m:Nat}{A B T:Nat->Nat->Nat}{S:Sto}{l p:List Nat}{u v:U}
theorem yj{e:ME}{G:Rho}{f:Nat->Nat}:∀(l:List Nat) (acc:List U) (S:Sto),(∀x∈l,∀S',∃ZD,e (G++[8#3]) S'=some (.int (f x:Nat),ZD)/\Ex S' ZD)->∃S',eB cTT e G 1#5 acc S=some (acc++aw (l.map f),S')/\Ex S S'
 |[],acc,S,_=>⟨S,by simp[eB,aw],Ex.refl _⟩
 | x::l,acc,S,h=>by
   obtain⟨S1,e1,x1⟩:=h x aV S;obtain⟨S2,e2,x2⟩:=yj l (acc++[.int (f x:Nat)]) S1 λy hy=>h y (az _ hy);refine⟨S2,?_,x1.trans x2⟩;show eB cTT e G (.int (x:Nat)::aw l) acc S=_;simp only[eB,cTT,aA,if_true,e1,e2];simp[aw]
variable{G:Rho}
theorem Im{a e:ME}{f:Nat->Nat}(ha:a G S=some (.tup 1#5,S))(hl:2#4<10000)(h:∀x∈l,∀S',∃ZD,e (G++[8#3]) S'=some (.int (f x:Nat),ZD)/\Ex S' ZD):∃S',mFn bO (aa (dc (fM a) cTT e) ai) G S=some (.tup (aw (l.map f)),S')/\Ex S S':=by
 obtain⟨S1,e1,x1⟩:=yj (e:=e) (G:=G) (f:=f) l [] S h;have hi:fM a G S=some (.imm 1#5,S):=by simp only[fM,ha,aA]
 exact⟨_,eY (jC hi e1 (by simp[aw];unfold big;omega)),x1.trans 3#7⟩
theorem JE{x:Nat}(g:Grp m T)(hm:m<100)(hx:x<m):∃S',eT [tab m T,.int (x:Nat)] S=some (.int (unT m T x:Nat),S')/\Ex S S':=by
 obtain⟨S1,e1,h1⟩:=yX (G:= [1#3,8#3]) (S:=S) (S0:=S) (a:=mFn cw 4#8) (t:=cOf (m2 oEq (m2 oIx (m2 oIx 0#4 0#7) 0#6) 2#3)) (e:=ae 2) (n:=m) 5#8 13#9
  (λj=>decide (T j x=0)) (λj => .int j) (λ_ S'=>S'=S) rfl (by
   rintro j S' hj rfl
   exact⟨S',of_eq (Oi (y:=0) (kI hx (jO hj (var_eq rfl) (var_eq rfl)) (var_eq rfl)) c_i),λ_=>⟨S',var_eq rfl,rfl⟩,λ_=>rfl⟩)
 subst h1;have d1:((((aB m).filter λj=>decide (T j x=0)).map λ(j:Nat)=>U.int j)[0]?)=some (.int (unT m T x)):=by
  rw[cu,jn,oQ (k:=unT m T x) m 0 (ee _) (by have:=vj g hx;omega) (by simpa using O9 g hx) λj _ hj=>by
   have:T j x≠0:=λh0=>by have:=g.cancelR hx (bg hj (vj g hx)) (vj g hx) (h0.trans (O9 g hx).symm);omega
   simpa using this]
  rfl
 exact⟨_,bL (G:= [1#3,8#3]) rfl (bC (GU e1 d1)),Ex.push _ _⟩
theorem NY(g:Grp m T)(hm:m<100)(hp:Lt m p)(hl:9#4<1000):∃S',ku [tab m T,.tup (aw p)] S=some (.tup (aw (bk m T p)),S')/\Ex S S':=by
 have hr:m1 uK 0#6 [1#3,12#4] S=some (.tup (aw p.reverse),S):=by
  show some (U.tup (aw p).reverse,S)=_;rw[show(aw p).reverse=aw p.reverse from(List.map_reverse ..).symm]
 obtain⟨S1,e1,x1⟩:=Im (f:=unT m T) (e:=mFn eT 12#7) hr (by rw[d4];omega) λx hx S'=>by
  obtain⟨S2,e2,x2⟩:=JE (S:=S') g hm (hp x (i6.mp hx));exact⟨S2,cW 0#0 0#0 e2,x2⟩
 exact⟨S1,bL (G:= [1#3,12#4]) rfl (bC e1),x1⟩
theorem Pe{b:List Nat}(hb:b.length=9#4)(hm:m<1000)(ZR:∀x∈l,x<1000)(hl:2#4<1000)(hp:9#4<1000):∃S',gO [.tup 1#5,.int (m:Nat),.tup (aw b),.tup (aw p)] S=some (.ref 0#5,S')/\Ex S S'/\S'[0#5]?=some (.lst (aw (thL b p 0 (l.map (· * m))))):=by
 generalize hE:([3#6,9#8,some (.tup (aw b)),12#4,2#5]:Rho)=E;obtain⟨Y8,S2,e2,⟨b2,c2,rfl⟩,x2,g2⟩:=pJ (g:=gTp 2 (dB (gN 5) (dB (gN 6) jx))) (b:=aZ 22#2 (dj 17#9))
  (λj G S'=>(∃b c,G=E++[b,c])/\Ex S S'/\S'[0#5]? = some (.lst (aw (thL b p 0 13#8)))) (gm 1#5) 0 (E++[none,none]) 3#9 ⟨⟨none,none,rfl⟩,Ex.push _ _,by rw[cj];rfl⟩ (by
   rintro j u G S' hu ⟨⟨b',c',rfl⟩,x1,g1⟩;rw[d9]at g1 ⊢;obtain⟨x,hx,rfl⟩:=yd hu;have hj:=(ah.mp hx).1;have WC:(l.map (· * m))[j]?=some (x*m):=by rw[cu,hx];rfl
   have Wu:=oK hb 13#8 0;rw[eg,aF,jW (aM hj)]at Wu;have hq:(if j%2=0 then b else p).length=9#4:=by split<;>simp[hb]
   have Yy:j*(9#4+1)<=999*1000:=Nat.mul_le_mul 0#2 0#2;have s1:gTp 2 (dB (gN 5) (dB (gN 6) jx)) (.tup [.int (j:Nat),.int (x:Nat)]) (E++[b',c']) S'=some (E++[9#9,8#3],S'):=by rw[<-hE];rfl
   have f1:=append_eq (G:=E++[9#9,8#3]) (S:=S') (o:=ae 4) (a:=m2 d7 (ae 6) 0#6) (r:=S.length) (var_eq 12#5) (m9 (var_eq 12#5) (var_eq 12#5) (bg (ZR x (cY hx)) 0#1)) g1 g1 (by rw[cR,Wu];unfold big;omega);have x3:Ex S (S'.set S.length (.lst (aw (thL b p 0 13#8)++[.int (x*m:Nat)]))):=x1.set 1#8;have g3:(S'.set S.length (.lst (aw (thL b p 0 13#8)++[.int (x*m:Nat)])))[0#5]?=some (.lst (aw (thL b p 0 13#8++[x*m]))):=by
    rw[aJ (ah.mp g1).1];simp[aw]
   generalize S'.set S.length (.lst (aw (thL b p 0 13#8)++[.int (x*m:Nat)]))=S3 at f1 x3 g3;have h3:0#5<S3.length:=(ah.mp g3).1;have f2:m2 oIx (cq 11#1) (m2 oMod (ae 5) 2#7) (E++[9#9,8#3]) S3=some (.tup (aw (if j%2=0 then b else p)),S3++[.lst [.tup (aw b),.tup (aw p)]]):=by
    refine so (Bq (x:= .tup (aw b)) (y:= .tup (aw p)) (var_eq 12#5) (var_eq 12#5)) (tU (x:=j) (y:=2) (var_eq 12#5) c_i 0#1) (cj _ _) (jE ?_);by_cases q:j%2=0
    .rw[if_pos q,q];rfl
    .rw[if_neg q,show j%2=1 by omega];rfl
   have g4:(S3++[Cell.lst [.tup (aw b),.tup (aw p)]])[0#5]?=some (.lst (aw (thL b p 0 13#8++[x*m]))):=(Ex.push _ _).some g3;have f3:dj 17#9 (E++[9#9,8#3]) S3=some (.nx,E++[9#9,8#3],(S3++[Cell.lst [.tup (aw b),.tup (aw p)]]).set S.length (.lst (aw (thL b p 0 ((l.map (· * m)).take (j+1)))))):=by
    have v4:ae 4 (E++[9#9,8#3]) S3=some (.ref 0#5,S3):=var_eq 12#5;have gl:getL S3 S.length=some (aw (thL b p 0 13#8++[x*m])):=by unfold getL;rw[g3]
    simp only[dj,mML,v4,aA,gl,aH,kW f2,iU,g4];rw[if_pos (by rw[cR,cR,aK,Wu,hq];unfold big;simp;omega),ze WC];simp[aw,aA]
   refine⟨_,S',_,_,s1,(aW f1).trans f3,⟨_,_,rfl⟩,(x3.trans 3#7).set 1#8,?_⟩
   rw[aJ (ao h3 (by simp))])
 have hlen:(gm 1#5).length=(l.map (· * m)).length:=by simp[gm,aw]
 rw[hlen,d9,mK]at g2;refine⟨S2,bL (G:=E++[b2,c2]) rfl ?_,x2,g2⟩;have ef:qC (gTp 2 (dB (gN 5) (dB (gN 6) jx))) (kQ 4#8) (aZ 22#2 (dj 17#9)) (E++[none,none]) 3#9=some (.nx,E++[b2,c2],S2):=by
  show bnd (kQ _ _ _) _=_;rw[show kQ 4#8 (E++[none,none]) 3#9=some (.imm (gm 1#5),S++[.lst []]) by rw[<-hE];rfl];exact e2
 refine(aW (bK mB)).trans ?_;subst hE;exact(aW ef).trans (bC 0#0)
def wyB:MS:=sIf (cOr (eE 17#6) (cOr (cOf (m1 (ig "bool") 0#7)) (eE (cOf (mCh oLe oLt 2#3 0#7 4#4))))) 12#3 dk
theorem Lw{a:Option U}{v:U}(h:Smp v):wyB [1#3,a,some v] S=some (if nbV m v then .nx else .rt (.bl false),[1#3,a,some v],S):=by
 have no :∀ w:U,eE 17#6 [1#3,a,some w] S=some (true,S)->wyB [1#3,a,some w] S=some (.rt (.bl false),[1#3,a,some w],S):=fun w hw=>(mT (Hy hw)).trans (bC rfl);cases h with
 | int i=>
   have hl:mFn cw 4#8 [1#3,a,5#1] S=some (.int (m:Nat),S):=len_tab 0#0;have h3:mCh oLe oLt 2#3 0#7 4#4 [1#3,a,5#1] S=some (.bl (nbV m (.int i)),S):=by
    have v0:ae 2 [1#3,a,5#1] S=some (.int i,S):=rfl;have c0:mC (.int 0) [1#3,a,5#1] S=some (.int 0,S):=rfl;by_cases z:(0:Int)<=i<;>simp[mCh,v0,hl,c0,aA,vS,z,nbV]
   have h4:=DP (a:=eE 17#6) rfl (DP (a:=cOf (m1 (ig "bool") 0#7)) rfl (not_eq (of_eq h3)));cases q:nbV m (.int i) with
   |true=>rw[q]at h4;exact(k6 h4).trans rfl
   |false=>rw[q]at h4;exact(mT h4).trans (bC rfl)
 |bl x=>exact (mT (DP (a:=eE 17#6) rfl (Hy (a:=cOf (m1 (ig "bool") 0#7)) rfl))).trans (bC rfl)
 |non=>exact no _ rfl
 |str x=>exact no _ rfl
 |tup us=>exact no _ rfl
variable{S1:Sto}{n:Nat}
theorem QJ{a:ME}(ha:a G S=some (.ref n,S1))(hn:S1[n]?=some (Cell.lst 1#5))(h1:2#4<4000):mFn bLS 4#1 G S=some (.int ((ddN l).length:Nat),S1):=by
 refine gn ha ?_;have ok:Jk (eQ l).length:=by unfold eQ;rw[aF];exact h1
 have gl:getL S1 n=some 1#5:=by unfold getL;rw[hn]
 simp only[bLS,d6,gl,aH,oa];rw[if_pos ok,<-pK];simp[eQ]
theorem EL(g:Grp m T)(hm:m<60)(hu:Thg S u):∃S',eX [tab m T,u] S=some (.bl (wy m T u),S')/\Ex S S':=by
 have h1:=Bs (G:= [1#3,some u,none]) (S:=S) (a:=ae 1) 0#0 hu;have no:∀{G S'},kH [1#3,some u,none] S=some (.rt (.bl false),G,S')->wy m T u=false->Ex S S'->∃S',eX [tab m T,u] S=some (.bl (wy m T u),S')/\Ex S S':=λ{G S'} h hw x=>⟨S',by rw[hw];exact bL (G:=G) rfl h,x⟩;cases hu with
 | tup h hl=>
   rename_i us
   have hp:=g.pos;have c0:=QV (G:= [1#3,some (.tup us),none]) (S:=S) (a:=mFn cw 3#1) (b:=m2 qo 4#4 1#6) (x:=0#9) (y:=m-1) (EK 0#0) (by rw[Dx 5#8 c_i];congr 3;omega);have c1:=DP (not_eq (of_eq h1)) (of_eq c0);have bad:∀l,U.tup us=.tup 1#5->2#4=0#9:=λl e=>by injection e with e;rw[e,cR]
   by_cases hlen:0#9=m-1
   .rw[decide_eq_true hlen]at c1
    obtain⟨Y3,S1,e1,⟨a3,rfl⟩,rfl⟩:=vd (i:=2) (b:=wyB) (v:= .bl false) (nbV m) (λG S'=>(∃a,G = [1#3,some (.tup us),a])/\S'=S) us [1#3,some (.tup us),none] S ⟨⟨_,rfl⟩,rfl⟩ (by
     rintro v G S' hv ⟨⟨a,rfl⟩,rfl⟩
     exact⟨_,_,Lw (h v hv),⟨_,rfl⟩,rfl⟩)
    have Wo:fv 2 (fM 0#6) wyB [1#3,some (.tup us),none] S1=_:=e1;cases ha:us.all (nbV m) with
    | false=>
      rw[ha]at Wo;exact no ((aW ((k6 c1).trans rfl)).trans (sr Wo)) (by unfold wy;rw[show vh m (.tup us)=false from ha];rfl) (Ex.refl _)
    | true=>
      rw[ha]at Wo;obtain⟨l,rfl,hw⟩:=wN ha;rw[cR]at hlen;have Zl:2#4+1=m:=by omega
      obtain⟨S2,e2,hS⟩:=Ao (G:= [1#3,3#6,a3]) (S:=S1) (S0:=S1) (a:=mFn cw 4#8) (e:=mFn lD (aa 0#4 (aa 14#3 ai))) (n:=m) 5#8 13#9 (λj => .int (jR T (l.take j):Nat)) (λ_ S'=>S'=S1) rfl (by
       rintro j S' hj rfl;refine⟨S',cW (y:= .tup (aw (l.take j))) 0#0 ?_ (IX g (Lt.tk hw j)),rfl⟩;have v1:ae 1 ([1#3,3#6,a3]++[9#9]) S'=some (.tup 1#5,S'):=rfl;have v3:ae 3 ([1#3,3#6,a3]++[9#9]) S'=some (.int (j:Nat),S'):=rfl;simp only[mSl,v1,aA,tS,v3];rw[F4]
       simp[aw,List.map_take])
      subst hS;have ZM:(aB m).map (λj=>U.int (jR T (l.take j):Nat))=aw (plc T l):=by unfold plc aw;rw[eP,Zl];rfl
      rw[ZM]at e2;have e3:=Oi (b:=mFn cw 4#8) (QJ e2 (cj _ _) (by rw[o3];omega)) (len_tab (m:=m) (T:=T) 0#0);rw[show decide ((ddN (plc T l)).length=m)=wy m T (.tup 1#5) by rw[Ec hw];exact decide_eq_decide.mpr (Kw g hw Zl)]at e3;exact⟨_,bL (G:= [1#3,3#6,a3]) rfl ((aW ((k6 c1).trans rfl)).trans ((aW Wo).trans (bC e3))),Ex.push _ _⟩
   .rw[decide_eq_false hlen]at c1
    refine no (sr ((mT c1).trans (bC rfl))) ?_ (Ex.refl _);rw[<-Bool.not_eq_true];intro z;obtain⟨l,e,_,_,YU⟩:=ua (S:=S) (.tup h hl) z;exact hlen (by rw[<-bad l e];omega)
 |_=>exact no (sr ((mT (Hy (not_eq (of_eq h1)))).trans (bC rfl))) rfl (Ex.refl _)
def Ans(S:Sto):List Nat ⊕ Nat->U->Prop
 |.inl l,u=>u=.tup 1#5
 |.inr q,u=>∃r,u=.ref r/\S[r]?=some (Cell.lst (aw [q]))
variable{a:List Nat ⊕ Nat}
theorem Ans.ex{S':Sto}(h:Ans S a u)(x:Ex S S'):Ans S' a u:=by
 cases a with
 |inl l=>exact h
 |inr q=>obtain⟨r,e,g⟩:=h;exact⟨r,e,x.some g⟩
def Pi:List Nat ⊕ Nat->Prop
 |.inl l=>(∀x∈l,x<1000)/\2#4<=1000
 |.inr q=>q<1000
theorem MM(hu:Ans S a u)(hv:Ans S a v)(h:Pi a):nA [u,v] S=some (.bl true,S):=by
 cases a with
 | inl l=>
   cases (show u=.tup 1#5 from hu);cases (show v=.tup 1#5 from hv);exact Fz h.1 h.2
 | inr q=>
   obtain⟨r,rfl,hr⟩:=hu;obtain⟨r',rfl,Zw⟩:=hv;have hq:q<1000:=h;have hi:(q:Int).natAbs<10^12:=by rw[Int.natAbs_natCast];omega
   have pl:Pl (.list [dD q]):= .lst _ λd hd=>by
    rw[a8.mp hd];exact .int _ hi
   have hw:=sJ hi;refine Et (d:= .list [.int q]) (yV (f:=38) hr) (yV (f:=38) Zw) pl (pl.ok ?_ ?_)
   .simp[PySem.PyData.depth,kZ]
   .simp[PySem.PyData.weight,PySem.PyData.weightAll]at hw ⊢
    omega
variable{rl:MX}{cs:List U}
theorem Jb{rz is:List Nat}{ml:ME}(hc:fA is G=some cs)(h:ml (cs.map some) 3#9=some (u,S1))(x:Ex 3#9 S1):∃S',gL (uD rz) is ml rl G S=some (u,S')/\Ex S S':=by
 have g1:S1[0#5]?=some (.lst []):=x.some (cj _ _);have a1:apM 0 (gH 0 ml cs) [5#2,2#5] 3#9=some (.non,S1.set S.length (.lst [u])):=by
  have v1:ae 1 [5#2,2#5] 3#9=some (.ref 0#5,S++[.lst []]):=rfl;have f1:ph 0 0 (gH 0 ml cs) ai [5#2,2#5] 3#9=some (u,S1):=h;have gl:getL 3#9 S.length=some []:=by unfold getL;rw[cj]
  simp only[apM,mML,v1,aA,gl,aH,kW f1,bV,g1];rfl
 have e2:=Ee (rz:=rz) (is:= [0,2]) (rl:=apX 0 (jo 0 rl cs)) (G:= [5#2,none,2#5]) (S:=S++[.lst []]) (cs:= [.obj 0,.ref 0#5]) rfl a1;have x3:Ex S (S1.set S.length (.lst [u])++gg λ_=>false):=((Ex.push _ _).trans x).set 1#8 |>.trans (Bk _ _)
 have g3:(S1.set S.length (.lst [u])++gg λ_=>false)[0#5]?=some (.lst [u]):=(Bk _ _).some (aJ (ah.mp g1).1);generalize S1.set S.length (.lst [u])++gg (λ_=>false)=S3 at e2 x3 g3;refine⟨S3,?_,x3⟩;show(fA is G).bind _=_;rw[hc];have e3:m2 oIx 0#7 2#3 [5#2,some .non,2#5] S3=some (u,S3):=so 0#0 c_i g3 rfl;have c3:cOf (m2 nF 0#6 (mC .non)) [5#2,some .non,2#5] S3=some (false,S3):=rfl;have e4:z9 (cOf (m2 nF 0#6 (mC .non))) 0#6 (m2 oIx 0#7 2#3) [5#2,some .non,2#5] S3=some (u,S3):=by
  simp only[z9,c3,aA];exact e3
 have w1:Aw [5#2,none,none] S=some (.nx,[5#2,none,2#5],S++[.lst []]):=rfl;have r:wX rz 0 (gH 0 ml cs) (jo 0 rl cs) [5#2,none,none] S=some (.rt u,[5#2,some .non,2#5],S3):=(aW w1).trans ((aW (bK e2)).trans (bC e4));exact bL (k:=1) (n:=3) (us:= [.obj 0]) rfl r
theorem Hg{rz is:List Nat}{ml:ME}{q:Nat}(hc:fA is G=some cs)(h:ml (cs.map some) 3#9=none)(hx:rl (cs.map some) 3#9=some (q,S1))(hq:q∈rz)(x:Ex 3#9 S1):∃r S',gL (uD rz) is ml rl G S=some (.ref r,S')/\Ex S S'/\S'[r]?=some (.lst (aw [q])):=by
 have v1:ae 1 [5#2,2#5] 3#9=some (.ref 0#5,S++[.lst []]):=rfl;have gl:getL 3#9 S.length=some []:=by unfold getL;rw[cj]
 have f1:ph 0 0 (gH 0 ml cs) ai [5#2,2#5] 3#9=none:=h;have f2:Es 0 0 (jo 0 rl cs) [5#2,2#5] 3#9=some (q,S1):=hx;have a1:apM 0 (gH 0 ml cs) [5#2,2#5] 3#9=none:=by
  simp only[apM,mML,v1,aA,gl,aH,aa,f1];rfl
 have a2:apX 0 (jo 0 rl cs) [5#2,2#5] 3#9=some (q,S1):=by
  simp only[apX,xML,v1,aA,gl,aH,f2]
 have e2:=Fu (is:= [0,2]) (G:= [5#2,none,2#5]) (S:=S++[.lst []]) (cs:= [.obj 0,.ref 0#5]) rfl a1 a2 hq;refine⟨6#1+3,S1++(gg (bQ q)++[.lst (aw [q])]),?_,(Ex.push _ _).trans (x.trans (KJ _ _ _)),IM⟩;show(fA is G).bind _=_;rw[hc];have w1:Aw [5#2,none,none] S=some (.nx,[5#2,none,2#5],S++[.lst []]):=rfl;have r:wX rz 0 (gH 0 ml cs) (jo 0 rl cs) [5#2,none,none] S=some (.rt (.ref (6#1+3)),[5#2,some (.ref (6#1+3)),2#5],S1++(gg (bQ q)++[.lst (aw [q])])):=(aW w1).trans ((aW (bK e2)).trans (bC rfl));exact bL (k:=1) (n:=3) (us:= [.obj 0]) rfl r
theorem zi{e:ME}{G:Rho}{f:Nat->Nat->Nat}:∀(a b:List Nat) (acc:List U) (S:Sto),(∀x∈a,∀y∈b,∀S',∃ZD,e (G++[8#3,some (.int (y:Nat))]) S'=some (.int (f x y:Nat),ZD)/\Ex S' ZD)->∃S',fy cTT e G ((aw a).zip (aw b)) acc S=some (acc++aw (Dr f a b),S')/\Ex S S'
 |[],b,acc,S,_=>⟨S,by simp[fy,aw],Ex.refl _⟩
 |x::a,[],acc,S,_=>⟨S,by simp[fy,aw],Ex.refl _⟩
 | x::a,y::b,acc,S,h=>by
   obtain⟨S1,e1,x1⟩:=h x aV y aV S;obtain⟨S2,e2,x2⟩:=zi a b (acc++[.int (f x y:Nat)]) S1 λz hz w hw=>h z (az _ hz) w (az _ hw);refine⟨S2,?_,x1.trans x2⟩;show fy cTT e G ((.int (x:Nat),.int (y:Nat))::(aw a).zip (aw b)) acc S=_;simp only[fy,cTT,aA,if_true,e1,e2];simp[aw]
theorem Er(h:mR n S)(g:Grp m T)(hm:m<60):∃w S',dq [.ref n,tab m T] S=some (.tup (aw w),S')/\Stp n S S'/\w.length<=m:=by
 obtain⟨l,S1,e1,Z6,o⟩:=zu h g.pos 0#2;have hl:∀x∈l,x<m:=λx hx=>cz.mp (o.perm.mem_iff.mp hx);have ll:2#4=m:=by rw[o.perm.length_eq,bf]
 obtain⟨S2,e2,x2⟩:=zi (G:= [3#5,1#3,3#6]) (e:=m2 oIx (m2 oIx 0#6 (mFn eT (aa 0#6 4#9))) (ae 4)) (f:=λx y=>T (unT m T x) y) l (l.drop 1) [] S1 λx hx y hy S'=>by
  obtain⟨S3,e3,x3⟩:=JE (S:=S') g 0#2 (hl x hx);exact⟨S3,kI (hl y (pB hy)) (jO (vj g (hl x hx)) 0#0 (cW 0#0 0#0 e3)) 0#0,x3⟩
 have hz:y9 (aa 0#7 (aa (mSl 0#7 (some 1#6) none) ai)) [3#5,1#3,3#6] S1=some (.zpt 1#5 (aw (l.drop 1)),S1):=by
  have:mSl 0#7 (some 1#6) none [3#5,1#3,3#6] S1=some (.tup (aw (l.drop 1)),S1):=by
   show some (U.tup (cut 1#5 (some 1) none),S1)=_;rw[Jm]
  simp only[y9,aa,var_eq (show([3#5,1#3,3#6]:Rho)[2]?=some (some (.tup 1#5)) from rfl),aA,this,ai]
 have hlen:(Dr (λx y=>T (unT m T x) y) l (l.drop 1)).length<=m:=by rw[List.length_zipWith];omega
 have e3:lK 2 (y9 (aa 0#7 (aa (mSl 0#7 (some 1#6) none) ai))) cTT (m2 oIx (m2 oIx 0#6 (mFn eT (aa 0#6 4#9))) (ae 4)) [3#5,1#3,3#6] S1=some (.ref S2.length,S2++[.lst (aw (Dr (λx y=>T (unT m T x) y) l (l.drop 1)))]):=by
  simp only[lK,hz,aA,Eh,if_true,e2,oq];rw[if_pos (by rw[cR];unfold big;omega)]
 exact⟨_,_,bL (G:= [3#5,1#3,3#6]) rfl ((aW (bK (cW 0#0 5#8 e1))).trans (bC (eY e3))),Z6.trans (Stp.ex Z6.st (x2.trans 3#7)),hlen⟩
theorem P4(h:mR n S):∃k A m B S',dS [.ref n] S=some (.tup [tab k A,tab m B],S')/\Grp k A/\Grp m B/\k<=6/\m<=6/\Stp n S S':=by
 obtain⟨k,A,S1,e1,ga,hk,Z6⟩:=zk (most:=6) h 0#1 0#1;have Yo:Stp n S1 (S1++[.lst (aw [4,4,5,6])]):=Stp.ex Z6.st 3#7;obtain⟨r,S3,e3,hr,Zf⟩:=iM (m:=4) Yo.st 0#1 0#1;obtain⟨q,hq,h4,h6⟩ :∃q:Nat,(aw [4,4,5,6])[r]?=some (.int (q:Nat))/\4<=q/\q<=6:=by
  have:r=0\/r=1\/r=2\/r=3:=by omega
  rcases this with rfl|rfl|rfl|rfl
  .exact⟨4,rfl,by decide,by decide⟩
  .exact⟨4,rfl,by decide,by decide⟩
  .exact⟨5,rfl,by decide,by decide⟩
  .exact⟨6,rfl,by decide,by decide⟩
 have g3:S3[6#1]?=some (.lst (aw [4,4,5,6])):=Zf.some (bD Z6.st.lt) (cj _ _);obtain⟨m,B,S4,e4,gb,hm,Yr⟩:=zk (most:=q) Zf.st h4 0#2;have a3:m2 oIx (cq (aa (mC (.int 4)) (aa (mC (.int 4)) (aa (mC (.int 5)) (aa (mC (.int 6)) ai))))) (mFn ba (aa 0#4 (aa (mC (.int 4)) ai))) [3#5,3#4] S1=some (.int (q:Nat),S3):=so iV (cW 0#0 c_i e3) g3 (jE hq);exact⟨k,A,m,B,S4,bL (G:= [3#5,3#4]) rfl ((aW (bK (cW 0#0 c_i e1))).trans (bC (Fo 0#0 (cW 0#0 a3 e4)))),ga,gb,hk,by omega,Z6.trans (Yo.trans (Zf.trans Yr))⟩
theorem Kh(h:mR n S):∃u S',kc [.ref n] S=some (u,S')/\Stp n S S'/\Tn n S' u:=by
 have hn:=h.lt;have ep:m2 wa _ (mC (.int 30)) [3#5,none] _=some (.int (10^30),S++5#4++10#9++15#6):=op2 c_i c_i (if_pos ⟨by decide,by decide,by decide⟩);have ed:vB 2#3 1#6 [3#5,none] (S++5#4++10#9)=some (.ref (S++5#4++10#9).length,S++5#4++10#9++15#6):=by
  generalize S++5#4++[Cell.lst _]=S0;have g0:(S0++[Cell.dic []])[S0.length]?=some _:=cj _ _;simp only[vB,mC,aA,keyOf,aH,g0];rw[ox _ _ 1#8,Nat.sub_self];rfl
 have e1:=ml (mc (a:=mC .non) rfl (mc (a:=mC (.bl true)) rfl (mc (a:=mC (.bl false)) rfl (mc HQ (mc (a:=mC (.str "")) rfl (mc (a:=mC (.str "0")) rfl (mc (show eA ai _ _=_ from rfl) (mc mB (mc (uF (a:=mC (.bl true)) rfl) (mc (EG (c_i)) (mc ed (mc (uF (a:=mC .non) rfl) (mc (uF HQ) (mc (uF (a:=mC (.str "a")) rfl) (mc ep (mc (uF (uF (c_i (z:=0)))) 16#0)))))))))))))))) 0#3;have U5:Ex S (S++5#4++10#9++15#6):=((Ex.push _ _).trans 3#7).trans 3#7;have g1:(S++5#4++10#9++15#6)[0#5]?=some _:=((Ex.push _ _).trans 3#7).some (cj _ _);have g2:(S++5#4++10#9++15#6)[(S++5#4).length]?=some _:=(Ex.push _ _).some (cj _ _);have g3:(S++5#4++[Cell.lst _]++15#6)[(S++5#4++10#9).length]?=some _:=cj _ _;have l1:0#5≠n:=by omega
 have l2:(S++5#4).length≠n:=by simp;omega
 have l3:(S++5#4++10#9).length≠n:=by simp;omega
 generalize S++5#4++[Cell.lst _]++[Cell.dic _]=S1 at e1 U5 g1 g2 g3;generalize (S++5#4++[Cell.lst _]).length=r3 at e1 g3 l3;generalize (S++5#4).length=r2 at e1 g2 l2;have all :∀ v∈([.non,.bl true,.bl false,.int (-1),.str "",.str "0",.tup [],.ref 0#5,.tup [.bl true],.ref r2,.ref r3,.tup [.non],.tup [.int (-1)],.tup [.str "a"],.int (10^30),.tup [.tup [.int 0]]]),Tn n S1 v:=by
  intro v hv;simp at hv;rcases hv with rfl|rfl|rfl|rfl|rfl|rfl|rfl|rfl|rfl|rfl|rfl|rfl|rfl|rfl|rfl|rfl
  .exact⟨.non,λz=>by cases z⟩
  .exact⟨.bl _,λz=>by cases z⟩
  .exact⟨.bl _,λz=>by cases z⟩
  .exact⟨.int _,λz=>by cases z⟩
  .exact⟨.str _,λz=>by cases z⟩
  .exact⟨.str _,λz=>by cases z⟩
  .exact⟨.tup 0#3 0#3,λz=>by cases z⟩
  .exact⟨.lst g1,λz=>by injection z with z;exact l1 z⟩
  .exact⟨.tup (λw hw=>by cases a8.mp hw;exact .bl _) 0#3,λz=>by cases z⟩
  .exact⟨.lst g2,λz=>by injection z with z;exact l2 z⟩
  .exact⟨.dic g3,λz=>by injection z with z;exact l3 z⟩
  .exact⟨.tup (λw hw=>by cases a8.mp hw;exact .non) 0#3,λz=>by cases z⟩
  .exact⟨.tup (λw hw=>by cases a8.mp hw;exact .int _) 0#3,λz=>by cases z⟩
  .exact⟨.tup (λw hw=>by cases a8.mp hw;exact .str _) 0#3,λz=>by cases z⟩
  .exact⟨.int _,λz=>by cases z⟩
  .exact⟨.tup (λw hw=>by cases a8.mp hw;exact .tup _) 0#3,λz=>by cases z⟩
 generalize hits:([.non,.bl _,.bl _,.int _,.str "",.str _,.tup [],.ref 0#5,.tup _,.ref r2,.ref r3,.tup _,.tup _,.tup _,.int _,.tup _]:List U)=ZZ at e1 all;have hlen:ZZ.length=16:=by rw[<-hits];rfl
 have Z6:Stp n S (S1++[Cell.lst ZZ]):=Stp.ex h (U5.trans 3#7);obtain⟨r,S4,f4,hr,Yr⟩:=iM (m:=16) Z6.st 0#1 0#1;have B':6#1≠n:=by obtain⟨z,hz⟩:=U5;rw[hz];simp;omega
 have g4:=Yr.some B' (cj _ _);have hi:ZZ[r]?=some ZZ[r]:=bo _;have e2:m2 _ 0#6 (mFn _ (aa 0#4 _)) [some _,some _] _=some _:=so 0#0 (cW 0#0 c_i f4) g4 (jE hi);exact⟨_,S4,bL rfl ((aW (bK e1)).trans (bC e2)),Z6.trans Yr,((all _ (i3 _)).ex 3#7).stp Yr⟩
theorem Ik{l:List Nat}(h:mR n S)(hl:2#4<=24)(hm:0<m):∃u S',fe [.ref n,.tup 1#5,.int (m:Nat)] S=some (u,S')/\Stp n S S'/\Tn n S' u:=by
 have hn:=h.lt;have el:m2 bR (mFn cw 3#1) 1#6 [3#5,3#6,9#8,none,none,none] S=some (.int (2#4+1:Nat),S):=by
  have:=add_n (G:= [3#5,3#6,9#8,none,none,none]) (S:=S) (x:=(aw l).length) (y:=1) (a:=mFn cw 3#1) (b:=mC (.int 1)) (EK 0#0) c_i;rwa[cR]at this
 obtain⟨k,S1,f1,hk,Z6⟩:=iM (m:=2#4+1) h 0#2 0#2;have h1:=Z6.st.lt;have e2:=ml (mc (c_i (z:=0)) (mc (c_i (z:=1)) (mc (a:=ae 2) (G := [3#5,3#6,9#8,some (.int (k:Nat)),none,none]) (S:=S1) (x := .int (m:Nat)) 0#0 (mc HQ (mc (a:=mC (.bl true)) rfl (mc (a:=mC .non) rfl (mc (a:=mC (.str "0")) rfl (mc (uF (c_i (z:=0))) (mc (a:=m2 qo 0#7 1#6) (op2 (f:=qo) (var_eq (u := .int (m:Nat)) rfl) (c_i (z:=1)) rfl) 16#0))))))))) 0#3;have all :∀ v∈([.int 0,.int 1,.int (m:Nat),.int (-1),.bl true,.non,.str "0",.tup [.int 0],.int ((m:Nat)-1)]:List U),Smp v:=by
  intro v hv;simp only[aI,cM,_root_.or_false]at hv;rcases hv with rfl|rfl|rfl|rfl|rfl|rfl|rfl|rfl|rfl
  .exact .int _
  .exact .int _
  .exact .int _
  .exact .int _
  .exact .bl _
  .exact .non
  .exact .str _
  .exact .tup _
  .exact .int _
 generalize hits:([.int 0,.int 1,.int (m:Nat),.int (-1),.bl true,.non,.str "0",.tup [.int 0],.int ((m:Nat)-1)]:List U)=ZZ at e2 all;have hlen:ZZ.length=9:=by rw[<-hits];rfl
 have Yo:Stp n S1 (S1++[Cell.lst ZZ]):=Stp.ex Z6.st 3#7;obtain⟨r,S3,f3,hr,Zf⟩:=iM (m:=9) Yo.st 0#1 0#1;have g3:S3[6#1]?=some (Cell.lst ZZ):=Zf.some 0#2 (cj _ _);have hi:ZZ[r]?=some ZZ[r]:=bo 0#2;have e3:m2 oIx (cq (aa 2#3 (aa 1#6 (aa 0#7 (aa (m1 mQ 1#6) (aa (mC (.bl true)) (aa (mC .non) (aa (mC (.str "0")) (aa (eA 7#7) (aa (m2 qo 0#7 1#6) ai)))))))))) (mFn ba (aa 0#4 (aa (mC (.int 9)) ai))) [3#5,3#6,9#8,some (.int (k:Nat)),none,none] S1=some (ZZ[r],S3):=so e2 (cW 0#0 c_i f3) g3 (jE hi);have Ro:Smp ZZ[r]:=all _ (i3 0#2);generalize ZZ[r]=od at e3 Ro;have h3:=Zf.st.lt;have s1:∀S',mSl 0#6 none (some (ae 3)) 12#9 S'=some (.tup ((aw l).take k),S'):=λS'=>by
  have v1:ae 1 12#9 S'=some (.tup 1#5,S'):=rfl;have v3:ae 3 12#9 S'=some (.int (k:Nat),S'):=rfl;simp only[mSl,v1,aA,tS,v3];rw[F4]
 have s2:∀S',mSl 0#6 (some (ae 3)) none 12#9 S'=some (.tup ((aw l).drop k),S'):=λS'=>by
  have v1:ae 1 12#9 S'=some (.tup 1#5,S'):=rfl;have v3:ae 3 12#9 S'=some (.int (k:Nat),S'):=rfl;simp only[mSl,v1,aA,tS,v3];rw[uV]
 have s3:∀S',mSl 0#6 (some (m2 bR (ae 3) 1#6)) none 12#9 S'=some (.tup ((aw l).drop (k+1)),S'):=λS'=>by
  have v1:ae 1 12#9 S'=some (.tup 1#5,S'):=rfl;have v3:m2 bR (ae 3) 1#6 12#9 S'=some (.int ((k+1:Nat):Int),S'):=rfl;simp only[mSl,v1,aA,tS,v3];rw[uV]
 have W1:=cR l;have lt1:((aw l).take k).length<=24:=by rw[eg];omega
 have lt2:((aw l).drop k).length<=24:=by rw[gq];omega
 have lt3:((aw l).drop (k+1)).length<=24:=by rw[gq];omega
 have ss:∀v∈aw l,Smp v:=λv hv=>by obtain⟨x,_,rfl⟩:=bw.mp hv;exact .int _
 have t1:∀v∈(aw l).take k,Smp v:=λv hv=>ss v (pz hv);have t2:∀v∈(aw l).drop k,Smp v:=λv hv=>ss v (pB hv);have t3:∀v∈(aw l).drop (k+1),Smp v:=λv hv=>ss v (pB hv);have o1:∀v∈[od],Smp v:=λv hv=>by cases a8.mp hv;exact Ro
 have ap:∀{a b:List U},(∀v∈a,Smp v)->(∀v∈b,Smp v)->∀v∈a++b,Smp v:=λ{a b} ha hb v hv=>(dE.mp hv).elim (ha v) (hb v);have e5:=ml (mc (tY (tY (s1 S3) (uF (a:=ae 4) (u:=od) 0#0) 12#6) (s3 S3) (by simp only[aK,bP,fK];omega)) (mc (tY (s1 S3) (s3 S3) 0#2) (mc (tY (tY (s1 S3) (uF (a:=ae 4) (u:=od) 0#0) 12#6) (s2 S3) (by simp only[aK,bP,fK];omega)) (mc (a:=mFn kX 3#1) (gn (f:=kX) (var_eq (u:= .tup 1#5) rfl) (show kX [.tup 1#5] S3=some (.ref S3.length,S3++[.lst 1#5]) from rfl)) 16#0)))) 0#3;generalize hX:([.tup ((aw l).take k++[od]++(aw l).drop (k+1)),.tup ((aw l).take k++(aw l).drop (k+1)),.tup ((aw l).take k++[od]++(aw l).drop k),.ref S3.length]:List U)=X at e5;have hrv:∀S',m1 uK 0#6 17#7 S'=some (.tup (aw l).reverse,S'):=λS'=>rfl;have s1':∀S',mSl 0#6 none (some (ae 3)) 17#7 S'=some (.tup ((aw l).take k),S'):=λS'=>s1 S';have s2':∀S',mSl 0#6 (some (ae 3)) none 17#7 S'=some (.tup ((aw l).drop k),S'):=λS'=>s2 S';have e6:=ml (mc (hrv (S3++11#8++[Cell.lst X])) (mc (tY (s2' _) (s1' _) 0#2) (mc (a:=m2 bR 0#6 0#6) (tY (xs:=aw l) (ys:=aw l) 0#0 0#0 0#2) (mc (a:=mC .non) rfl (mc (show eA ai _ _=_ from rfl) (mc (a:=ae 1) (x:= .tup 1#5) 0#0 16#0)))))) 0#3;generalize hY:([.tup (aw l).reverse,.tup ((aw l).drop k++(aw l).take k),.tup (aw l++aw l),.non,.tup [],.tup 1#5]:List U)=Y at e6;have lX:X.length=4:=by rw[<-hX];rfl
 have lY:Y.length=6:=by rw[<-hY];rfl
 have gX:(S3++11#8++[Cell.lst X]++[Cell.lst Y])[(S3++11#8).length]?=some (Cell.lst X):=(Ex.push _ _).some (cj _ _);have gY:(S3++11#8++[Cell.lst X]++[Cell.lst Y])[(S3++11#8++[Cell.lst X]).length]?=some (Cell.lst Y):=cj _ _;have gW:(S3++11#8++[Cell.lst X]++[Cell.lst Y])[S3.length]?=some (Cell.lst 1#5):=((Ex.push _ _).trans 3#7).some (cj _ _);have x4:Ex S3 (S3++11#8++[Cell.lst X]++[Cell.lst Y]):=((Ex.push _ _).trans 3#7).trans 3#7;have e7:m2 bR (ae 5) (cq (aa (m1 uK 0#6) (aa (m2 bR (mSl 0#6 (some (ae 3)) none) 14#3) (aa (m2 bR 0#6 0#6) (aa (mC .non) (aa (eA ai) 3#1)))))) 17#7 (S3++11#8++[Cell.lst X])=some (.ref (S3++11#8++[Cell.lst X]++[Cell.lst Y]).length,S3++11#8++[Cell.lst X]++[Cell.lst Y]++[.lst (X++Y)]):=by
  refine op2 (f:=bR) 0#0 e6 ?_;simp only[bR,gX,gY];exact if_pos (by rw[lX,lY];decide)
 generalize S3++11#8++[Cell.lst X]++[Cell.lst Y]=S4 at e7 gW x4;have tn:∀{us:List U},(∀v∈us,Smp v)->0#9<60->Tn n S4 (.tup us):=λh hl=>⟨.tup h hl,λz=>by cases z⟩;have allT:∀v∈X++Y,Tn n S4 v:=by
  intro v hv;rcases dE.mp hv with hv|hv
  .rw[<-hX]at hv
   simp only[aI,cM,_root_.or_false]at hv;rcases hv with rfl|rfl|rfl|rfl
   .exact tn (ap (ap t1 o1) t3) (by simp only[aK,bP,fK];omega)
   .exact tn (ap t1 t3) (by simp only[aK];omega)
   .exact tn (ap (ap t1 o1) t2) (by simp only[aK,bP,fK];omega)
   .exact⟨.lst gW,λz=>by injection z with z;omega⟩
  .rw[<-hY]at hv
   simp only[aI,cM,_root_.or_false]at hv;rcases hv with rfl|rfl|rfl|rfl|rfl|rfl
   .exact tn (λv hv=>ss v (i6.mp hv)) (by rw[d4];omega)
   .exact tn (ap t2 t1) (by simp only[aK];omega)
   .exact tn (ap ss ss) (by simp only[aK];omega)
   .exact⟨.non,λz=>by cases z⟩
   .exact tn 0#3 0#3
   .exact tn ss 0#2
 have hlZ:(X++Y).length=10:=by rw[aK,lX,lY]
 generalize X++Y=Z at e7 allT hlZ;have YO:Stp n S3 (S4++[Cell.lst Z]):=Stp.ex Zf.st (x4.trans 3#7);obtain⟨q,S6,f6,hq,Wp⟩:=iM (m:=10) YO.st 0#1 0#1;have hS4:S4.length≠n:=by obtain⟨z,hz⟩:=x4;rw[hz];simp;omega
 have g6:S6[S4.length]?=some (Cell.lst Z):=Wp.some hS4 (cj _ _);have hi6:Z[q]?=some Z[q]:=bo 0#2;have e8:m2 oIx (ae 5) (mFn ba (aa 0#4 (aa (mC (.int 10)) ai))) [3#5,3#6,9#8,some (.int (k:Nat)),some od,some (.ref S4.length)] (S4++[Cell.lst Z])=some (Z[q],S6):=so 0#0 (cW 0#0 c_i f6) g6 (jE hi6);refine⟨Z[q],S6,bL (G:= [3#5,3#6,9#8,some (.int (k:Nat)),some od,some (.ref S4.length)]) rfl ?_,(((Z6.trans Yo).trans Zf).trans YO).trans Wp,((allT _ (i3 0#2)).ex 3#7).stp Wp⟩;exact(aW (bK (cW 0#0 el f1))).trans ((aW (bK e3)).trans ((aW (bK e5)).trans ((aW (bK e7)).trans (bC e8))))
end
end
section
open _L _G
section
variable {k m:Nat}{A B T:Nat->Nat->Nat}{S:Sto}{l p:List Nat}{u v:U}
def wvn(m:Nat)(B:Nat->Nat->Nat)(u v:U):List Nat:=toN v++thL (bk m B (toN v)) (toN v) 0 ((toN u).map (· * m))
theorem OG(ga:Grp k A)(gb:Grp m B){l p:List Nat}(hl:Lt k l)(hp:Lt m p):Lt (k*m) (wvn m B (.tup 1#5) (.tup (aw p))):=by
 have hk:∀{y},y<m->y<k*m:=λh=>ao h (iO _ ga.pos);unfold wvn;rw[jA,jA];refine Lt.app (λx hx=>hk (hp x hx)) (F9 (λx hx=>hk (Nz gb hp x hx)) (λx hx=>hk (hp x hx)) _ _ λx hx=>?_);obtain⟨y,hy,rfl⟩:=bw.mp hx;exact Nat.mul_lt_mul_of_pos_right (hl y hy) gb.pos
theorem AG{l p:List Nat}(hl:2#4+1=k)(hp:9#4+1=m):(wvn m B (.tup 1#5) (.tup (aw p))).length+1=k*m:=by
 unfold wvn;rw[jA,jA,aK,oK qx,aF,hp,<-hl,GB];omega
theorem Nc(ga:Grp k A)(gb:Grp m B)(hk:k<1000)(hm:m<1000)(hu:Thg S u)(hv:Thg S v):
  (24<k*m->iu 10#7 S=none /\ ∃S',jF 10#7 S=some (0,S')/\Ex S S') /\
  (k*m<=24->(wy k A u=true/\wy m B v=true -> ∃S',iu 10#7 S=some (.tup (aw (wvn m B u v)),S')/\Ex S S') /\
   (¬(wy k A u=true/\wy m B v=true)->iu [tab k A,u,tab m B,v] S=none /\ ∃S',jF [tab k A,u,tab m B,v] S=some (2,S')/\Ex S S')):=by
 refine⟨λh=>?_,λh=>?_⟩
 .obtain⟨n1,n2⟩:=M0 (S:=S) (A:=A) (B:=B) hk h
  have c1:=n2 _ rfl;have xp:gK [tab k A,tab m B] S=some (0,S):=rH rfl ((Bh rfl (bK 5#8)).trans (u0 ((Ju c1).trans (u0 rfl))));refine⟨wo (Ab (La (cW 0#0 0#0 n1))),S,rH rfl (u0 (Qa 0#0 0#0 xp)),Ex.refl _⟩
 .obtain⟨S1,e1,x1⟩:=NG (S:=S) (A:=A) (B:=B) hk gb.pos hm h ga.cl
  have cn:=of_eq (Ic (b:=mC (.int 24)) (y:=24) (m9 (G:= [3#4,3#2,9#8]) (S:=S) (a:=mFn cw 4#8) (b:=ae 2) (x:=k) (y:=m) 5#8 0#0 0#2) c_i);rw[decide_eq_false (show ¬24<k*m by omega)]at cn;have xn:gK [tab k A,tab m B] S=none:=by
   show qW 2 3 jd _ _=none;unfold qW;rw[if_pos (show [tab k A,tab m B].length=2 from rfl)];exact(Bh rfl (bK 5#8)).trans ((Bh ((Ng cn).trans rfl) ((k6 cn).trans rfl)).trans rfl)
  obtain⟨S2,x2,y1,y2⟩:=KD (S:=S1) ga gb hk hm (hu.ex x1) (hv.ex x1);have a1:bA 4 (mFn fw 12#7) 13#2 S=some (.nx,[3#4,some u,3#2,some v,some (tab (k*m) (jv m A B))],S1):=bK (cW 0#0 0#0 e1);refine⟨λhw=>?_,λhw=>?_⟩
  .obtain⟨l,rfl,hl,_,ll⟩:=ua hu hw.1
   obtain⟨p,rfl,hp,_,lp⟩:=ua hv hw.2;have hm24:m<=24:=aD (iO _ ga.pos) h;have hk24:k<=24:=aD (Nat.le_mul_of_pos_right _ gb.pos) h;obtain⟨S3,e3,x3⟩:=P8 (S:=S2) (m:=m) (B:=B) (l:=l) 0#2 λx hx=>ao (hl x hx) 0#2;have Xw:∀{y},y<m->y<k*m:=λh=>ao h (iO _ ga.pos);have hlen:=AG (B:=B) ll lp;unfold wvn at hlen ⊢;simp only[jA]at hlen ⊢;have gth:=oK (qx (m:=m) (T:=B) (w:=p)) (l.map (· * m)) 0;rw[aK,gth,aF]at hlen;obtain⟨S4,e4,x4⟩:=LY (S:=S3) (a:=p) (l:=l.map (· * m)) (tV ga gb) (λx hx=>Xw (hp x hx)) (by rw[aF];omega) 0#2;rw[G0 ga gb hp]at e4;refine⟨S4,bL (G:= [3#4,3#6,3#2,12#4,some (tab (k*m) (jv m A B))]) rfl ((aW a1).trans ((aW (Ht (nq 0#0 0#0 0#0 0#0 (y1 hw)))).trans (bC (nq 0#0 0#0 (cW 0#0 0#0 e3) 0#0 e4)))),x1.trans (x2.trans (x3.trans x4))⟩
  .obtain⟨z1,z2⟩:=y2 hw
   refine⟨wo ((aW a1).trans (Ab (HZ (nq 0#0 0#0 0#0 0#0 z1)))),S2,rH rfl ((Bh (Qa 0#0 0#0 xn) a1).trans (u0 (PM 0#0 0#0 0#0 0#0 z2))),x1.trans x2⟩
def m6(k m:Nat)(A B:Nat->Nat->Nat)(u v:U):List Nat ⊕ Nat:=if 24<k*m then .inr 0 else if wy k A u&&wy m B v then .inl (wvn m B u v) else .inr 2
theorem OQ(ga:Grp k A)(gb:Grp m B)(hu:Thg S u)(hv:Thg S v):Pi (m6 k m A B u v):=by
 unfold m6
 split
 .exact(by decide:(0:Nat)<1000)
 .split
  .rename_i Ze hw
   rw[ak]at hw;obtain⟨l,rfl,hl,_,ll⟩:=ua hu hw.1;obtain⟨p,rfl,hp,_,lp⟩:=ua hv hw.2;have:=AG (B:=B) ll lp;exact⟨λx hx=>ao (OG ga gb hl hp x hx) 0#2,by omega⟩
  .exact(by decide:(2:Nat)<1000)
variable{G:Rho}
theorem BM{q:Nat}:∃x S',bZ (cq (aa (mC (.int (q:Nat))) ai)) G S=some (.rt x,G,S')/\Ex S S'/\Ans S' (.inr q) x:=⟨_,_,bC (EG c_i),Ex.push _ _,_,rfl,cj _ _⟩
theorem Kj(ga:Grp k A)(gb:Grp m B)(hk:k<60)(hm:m<60)(hu:Thg S u)(hv:Thg S v):∃x S',qc 10#7 S=some (x,S')/\Ex S S'/\Ans S' (m6 k m A B u v) x:=by
 have c1:=of_eq (Ic (b:=mC (.int 24)) (y:=24) (m9 (G:= 13#2) (S:=S) (a:=mFn cw 4#8) (b:=mFn cw 4#5) (x:=k) (y:=m) 5#8 5#8 0#2) c_i);by_cases Ze:24<k*m
 .rw[decide_eq_true Ze]at c1
  obtain⟨x,S1,e1,x1,a1⟩:=BM (S:=S) (G:= 13#2) (q:=0);exact⟨x,S1,bL (G:= 13#2) rfl (sr ((mT c1).trans e1)),x1,by unfold m6;rw[if_pos Ze];exact a1⟩
 .rw[decide_eq_false Ze]at c1
  obtain⟨S1,e1,x1⟩:=EL (S:=S) ga hk hu;obtain⟨S2,e2,x2⟩:=EL (S:=S1) gb hm (hv.ex x1);obtain⟨S3,e3,x3⟩:=HD (G:= 13#2) (a:=mFn eX 11#4) (b:=mFn eX 11#1) (cW 0#0 0#0 e1) x1 (cW 0#0 0#0 e2) x2;cases hw:wy k A u&&wy m B v with
  | false=>
    rw[hw]at e3;obtain⟨x,S4,e4,x4,a4⟩:=BM (S:=S3) (G:= 13#2) (q:=2);exact⟨x,S4,bL (G:= 13#2) rfl ((aW ((k6 c1).trans rfl)).trans (sr ((mT e3).trans e4))),x3.trans x4,by unfold m6;rw[if_neg Ze,hw];exact a4⟩
  | true=>
    rw[hw]at e3;have TN:=hw;rw[ak]at TN;obtain⟨l,rfl,hl,_,ll⟩:=ua hu TN.1;obtain⟨p,rfl,hp,_,lp⟩:=ua hv TN.2;obtain⟨S4,e4,x4⟩:=NY (S:=S3) gb 0#2 hp 0#2;obtain⟨S5,e5,x5,g5⟩:=Pe (S:=S4) (l:=l) (p:=p) (b:=bk m B p) (m:=m) qx 0#2 (λx hx=>bg (hl x hx) 0#2) 0#2 0#2;have hlen:=AG (B:=B) ll lp;have a6:m2 bR (mFn kX 4#9) (ae 4) [3#4,3#6,3#2,12#4,some (.ref S4.length)] S5=some (.ref (S5++[Cell.lst (aw p)]).length,(S5++[Cell.lst (aw p)])++[.lst (aw (wvn m B (.tup 1#5) (.tup (aw p))))]):=by
     unfold wvn at hlen ⊢;simp only[jA]at hlen ⊢;rw[aK]at hlen;refine(LC (gn (f:=kX) (var_eq (u:= .tup (aw p)) rfl) (show kX [.tup (aw p)] S5=some (.ref S5.length,S5++[.lst (aw p)]) from rfl)) 0#0 (cj _ _) ((Ex.push _ _).some g5) (by rw[cR,cR];omega)).trans ?_;simp[aw]
    have s4:bA 4 (mFn gO (aa 0#6 (aa (mFn cw 4#5) (aa (mFn ku 11#1) 4#9)))) [3#4,3#6,3#2,12#4,none] S3=some (.nx,[3#4,3#6,3#2,12#4,some (.ref S4.length)],S5):=bK (nq 0#0 5#8 (cW 0#0 0#0 e4) 0#0 e5);refine⟨.tup (aw (wvn m B (.tup 1#5) (.tup (aw p)))),_,bL (G:= [3#4,3#6,3#2,12#4,some (.ref S4.length)]) rfl ((aW ((k6 c1).trans rfl)).trans ((aW ((k6 e3).trans rfl)).trans ((aW s4).trans (bC (eY a6))))),x3.trans (x4.trans (x5.trans ((Ex.push _ _).trans 3#7))),by unfold m6;rw[if_neg Ze,hw];rfl⟩
theorem wC(ga:Grp k A)(gb:Grp m B)(hk:k<60)(hm:m<60)(hu:Thg S u)(hv:Thg S v):∃S',bM 10#7 S=some (.bl true,S')/\Ex S S':=by
 have x0:=Ex.push S (.lst []);obtain⟨w1,w2⟩:=Nc (S:=S++[.lst []]) ga gb 0#2 0#2 (hu.ex x0) (hv.ex x0);have hc:fA [0,2,3,1] 13#2=some [tab k A,tab m B,v,u]:=rfl;have fin:∀{x S1},gL (uD [0,2]) [0,2,3,1] (mFn iu 13#5) (xFn jF 13#5) 13#2 S=some (x,S1)->Ex S S1->Ans S1 (m6 k m A B u v) x->∃S',bM 10#7 S=some (.bl true,S')/\Ex S S':=λ{x S1} e x1 a=>by
  obtain⟨y,S2,e2,x2,a2⟩:=Kj (S:=S1) ga gb hk hm (hu.ex x1) (hv.ex x1);exact⟨S2,bL (G:= [3#4,some u,3#2,some v,some x]) rfl ((aW (bK e)).trans (bC (cW 0#0 (nq 0#0 0#0 0#0 0#0 e2) (MM (a.ex x2) a2 (OQ ga gb hu hv))))),x1.trans x2⟩
 have no:∀{q S1},iu 10#7 3#9=none->jF 10#7 3#9=some (q,S1)->q∈[0,2]->Ex 3#9 S1->m6 k m A B u v=.inr q->∃S',bM 10#7 S=some (.bl true,S')/\Ex S S':=λ{q S1} h hx hq x hd=>by
  obtain⟨r,S2,e2,x2,g2⟩:=Hg (rz:= [0,2]) (ml:=mFn iu 13#5) (rl:=xFn jF 13#5) hc (nq 0#0 0#0 0#0 0#0 h) (PM 0#0 0#0 0#0 0#0 hx) hq x;exact fin e2 x2 (by rw[hd];exact⟨r,rfl,g2⟩)
 by_cases Ze:24<k*m
 .obtain⟨n1,S1,n2,x1⟩:=w1 Ze
  exact no n1 n2 0#1 x1 (if_pos Ze)
 .obtain⟨y1,y2⟩:=w2 0#2
  cases hw:wy k A u&&wy m B v with
  | true=>
    obtain⟨S1,e1,x1⟩:=y1 (by rwa[ak]at hw);obtain⟨S2,e2,x2⟩:=Jb (rz:= [0,2]) (ml:=mFn iu 13#5) (rl:=xFn jF 13#5) hc (nq 0#0 0#0 0#0 0#0 e1) x1;exact fin e2 x2 (by unfold m6;rw[if_neg Ze,hw];rfl)
  | false=>
    obtain⟨n1,S1,n2,x1⟩:=y2 (by rw[<-ak,hw];decide);exact no n1 n2 0#1 x1 (by unfold m6;rw[if_neg Ze,hw];rfl)
theorem OP{i j i' j':Nat}(ga:Grp k A)(gb:Grp m B)(hk:k<60)(hm:m<60)(hu:Thg S u)(hv:Thg S v)(h1:G[i]?=some (some (tab k A)))(h2:G[i']?=some (some u))(h3:G[j]?=some (some (tab m B)))(h4:G[j']?=some (some v)):
  ∃S',sIf (cOr (eE (cOf (mFn bM (aa (ae i) (aa (ae i') (aa (ae j) (aa (ae j') ai))))))) (eE (cOf (mFn bM (aa (ae j) (aa (ae j') (aa (ae i) (aa (ae i') ai)))))))) 12#3 dk G S=some (.nx,G,S')/\Ex S S':=by
 obtain⟨S1,e1,x1⟩:=wC (S:=S) ga gb hk hm hu hv;obtain⟨S2,e2,x2⟩:=wC (S:=S1) gb ga hm hk (hv.ex x1) (hu.ex x1);obtain⟨S3,e3,x3⟩:=HD (G:=G) (nq (var_eq h1) (var_eq h2) (var_eq h3) (var_eq h4) e1) x1 (nq (var_eq h3) (var_eq h4) (var_eq h1) (var_eq h2) e2) x2;exact⟨S3,(k6 e3).trans rfl,x3⟩
theorem M6{n:Nat}{w:List Nat}{mw:ME}(hn:0<n)(h2:n<60)(hw:w.length<60)(SM:∀S,mw G S=some (.tup (aw w),S)):∃S',mFn bM (aa (mFn bU (aa (mC (.int (n:Nat))) ai)) (aa mw (aa (mFn bU (aa (mC (.int (n:Nat))) ai)) (aa mw ai)))) G S=some (.bl true,S')/\Ex S S':=by
 obtain⟨S1,e1,x1⟩:=j1 (S:=S) hn 13#9;obtain⟨S2,e2,x2⟩:=j1 (S:=S1) hn 13#9;obtain⟨S3,e3,x3⟩:=wC (S:=S2) (iZ hn) (iZ hn) h2 h2 (Thg.nat hw) (Thg.nat hw);exact⟨S3,nq (gn c_i e1) (SM _) (gn c_i e2) (SM _) e3,x1.trans (x2.trans x3)⟩
theorem DI(ns:List Int)(hl:5#6<=63)(S:Sto)(h1:0#5=1)(h2:getL S 0=some (ns.map U.int)):∃S',M9 [.ref 0] S=some (.bl true,S'):=by
 obtain⟨Sa,ea,xa⟩:=M6 (S:=S) (G:= 18#7) (n:=1) (w:= []) (mw:=eA ai) 0#1 0#1 0#1 λ_=>rfl;obtain⟨Sb,eb,xb⟩:=M6 (S:=Sa) (G:= 18#7) (n:=2) (w:= [1]) (mw:=eA (aa 1#6 ai)) 0#1 0#1 0#1 λ_=>rfl;obtain⟨S0,e0,x0⟩:=HD ea xa eb xb;have WM:Scr ns S0:=Scr.ex h2 λc h=>x0.some h;obtain⟨q,hq,eq⟩:=Fd (G:= 18#7) (c:=5) WM rfl hl;obtain⟨Y3,S1,e1,_,_⟩:=mE (i:=1) (a:=mFn zt (aa 1#6 (aa (mFn yQ (aa 4#4 (aa (mC (.int 5)) ai))) ai))) (n:=q)
  (b:=aZ (bA 2 (mFn iD 11#4)) (aZ (AK (mFn dS 4#5) (gTp 2 (dB (gN 3) (dB (gN 4) jx)))) (aZ (Az 5 6 22#0) (aZ (sIf (cOr (eE (cOf (mFn bM (aa (ae 3) (aa (ae 5) (aa (ae 4) (aa (ae 6) ai))))))) (eE (cOf (mFn bM (aa (ae 4) (aa (ae 6) (aa (ae 3) (aa (ae 5) ai)))))))) 12#3 dk) (fv 7 (fM (cq (aa (mFn fe (aa 0#7 (aa (ae 5) (aa (mFn cw 4#9) ai)))) (aa (mFn kc 4#5) (aa (eA ai) ai))))) (sIf 19#5 12#3 dk))))))
  (G:= 18#7) (S:=S0) eq 13#9
  (λk G S'=>(∃a b c d e f g,G=[6#8,a,b,c,d,e,f,g])/\Scr ns S') ⟨⟨_,_,_,_,_,_,_,rfl⟩,WM⟩
  (by
   rintro i G S' hi ⟨⟨u1,u2,u3,u4,u5,u6,u7,rfl⟩,hs⟩;have h0:=hs.lt;obtain⟨S2,f2,x2,Yo⟩:=ES (k:=i) hs;obtain⟨k,A,m,B,S3,f3,ga,gb,hk,hm,Zf⟩:=P4 Yo;have a3:AK (mFn dS 4#5) (gTp 2 (dB (gN 3) (dB (gN 4) jx))) [6#8,5#1,some 8#9,u3,u4,u5,u6,u7] S2=some (.nx,[6#8,5#1,some 8#9,3#4,3#2,u5,u6,u7],S3):=by
    have:=gn (G:= [6#8,5#1,some 8#9,u3,u4,u5,u6,u7]) (S:=S2) (f:=dS) (a:=ae 2) 0#0 f3;simp only[AK,this,aA];rfl
   obtain⟨w,S4,f4,Yr,hw⟩:=Er Zf.st ga 0#2;obtain⟨z,S5,f5,YO,hz⟩:=Er Yr.st gb 0#2;have a5:Az 5 6 22#0 [6#8,5#1,some 8#9,3#4,3#2,u5,u6,u7] S3=some (.nx,21#0,S5):=by
    have:=mc (cW (G:= [6#8,5#1,some 8#9,3#4,3#2,u5,u6,u7]) (S:=S3) (f:=dq) (a:=ae 2) (b:=ae 3) 0#0 0#0 f4) (mc (cW (f:=dq) (a:=ae 2) (b:=ae 4) 0#0 0#0 f5) 16#0);simp only[Az,this,aA];rfl
   obtain⟨S6,f6,x6⟩:=OP (S:=S5) (i:=3) (i':=5) (j:=4) (j':=6) (G:= 21#0) ga gb 0#2 0#2 (Thg.nat (l:=w) 0#2) (Thg.nat (l:=z) 0#2) rfl rfl rfl rfl;have Wp:Stp S'.length S5 S6:=Stp.ex YO.st x6;obtain⟨b7,S7,f7,RV,hb7⟩:=Ik (m:=k) (l:=w) Wp.st 0#2 ga.pos;obtain⟨o,S8,f8,TK,ho⟩:=Kh RV.st;have e9:=ml (mc (Ol (G:= 21#0) (S:=S6) (f:=fe) (a:=ae 2) (b:=ae 5) 0#0 0#0 (len_tab (a:=ae 3) 0#0) f7) (mc (gn (f:=kc) (a:=ae 2) 0#0 f8) (mc (show eA ai _ _=_ from rfl) 16#0))) 0#3;have Yp:∀v∈[b7,o,.tup []],Thg S8 v:=by
    intro v hv;simp only[aI,cM,_root_.or_false]at hv;rcases hv with rfl|rfl|rfl
    .exact(hb7.stp TK).1
    .exact ho.1
    .exact .tup 0#3 0#3
   have hZl: [b7,o,U.tup []].length=3:=rfl;generalize [b7,o,U.tup []]=Z at e9 Yp hZl;obtain⟨Z1,S9,f9,⟨b9,rfl⟩,x9⟩:=Ld (i:=7) (us:=Z) (b:=sIf 19#5 12#3 dk) e9 0#2
    (λ_ G S9=>(∃b,G = [6#8,5#1,some 8#9,3#4,3#2,5#0,some (.tup (aw z)),b])/\Ex (S8++[.lst Z]) S9) ⟨⟨_,rfl⟩,Ex.refl _⟩ (λ_ G S9 hp=>by unfold getL;rw[hp.2.some (cj _ _)]) (by
     rintro j u G S9 hu ⟨⟨b,rfl⟩,x9⟩;obtain⟨M',f10,x10⟩:=OP (S:=S9) (i:=3) (i':=7) (j:=4) (j':=6) (G:= [6#8,5#1,some 8#9,3#4,3#2,5#0,some (.tup (aw z)),some u]) ga gb 0#2 0#2 ((Yp u (cY hu)).ex ((Ex.push _ _).trans x9)) (Thg.nat (l:=z) 0#2) rfl rfl rfl rfl
     exact⟨_,M',f10,⟨_,rfl⟩,x9.trans x10⟩)
   refine⟨_,S9,(aW (bK (cW (f:=iD) (a:=ae 0) (b:=ae 1) 0#0 0#0 f2))).trans ((aW a3).trans ((aW a5).trans ((aW f6).trans f9))),⟨_,_,_,_,_,_,_,rfl⟩,?_⟩;have st:Stp S'.length S2 (S8++[.lst Z]):=Zf.trans (Yr.trans (YO.trans (Wp.trans (RV.trans (TK.trans (Stp.ex TK.st 3#7))))))
   exact Scr.ex hs λc hc=>x9.some (st.some (by omega) (x2.some hc)))
 exact⟨S1,bL (G:=Y3) rfl ((aW ((k6 e0).trans rfl)).trans ((aW e1).trans (bC rfl)))⟩
end
end
def top(i:Nat):Stmt:=PySem.Challenge.pw_groupwalks_k64_ways_woven.main.body.getD i (.Pass ⟨0,0,0,0⟩)
abbrev jQ:Stmt:=top 28
abbrev lJ:Stmt:=top 29
abbrev nZ:Stmt:=top 30
abbrev l9:Stmt:=top 31
abbrev lL:Stmt:=top 32
abbrev jL:Stmt:=top 34
abbrev nW:Stmt:=top 33
abbrev lG:Stmt:=top 36
abbrev lT:Stmt:=top 35
abbrev lZ:Stmt:=top 37
abbrev ib:Stmt:=top 45
abbrev fg:Stmt:=top 38
abbrev dh:Stmt:=top 48
abbrev nS:Stmt:=top 39
abbrev jh:Stmt:=top 49
abbrev kr:Stmt:=top 40
abbrev nY:Stmt:=top 43
abbrev l7:Stmt:=top 41
abbrev kK:Stmt:=top 44
abbrev pG:Stmt:=top 50
abbrev kB:Stmt:=top 15
abbrev eJ:Stmt:=top 16
abbrev gR:Stmt:=top 11
abbrev fU:Stmt:=top 12
abbrev kl:Stmt:=top 13
abbrev ie:Stmt:=top 19
abbrev rR:Stmt:=top 18
abbrev jc:Stmt:=top 20
abbrev eF:Stmt:=top 24
abbrev si:Stmt:=top 14
abbrev AL:Stmt:=top 21
abbrev nC:Stmt:=top 22
abbrev ja:Stmt:=top 25
abbrev oz:Stmt:=top 26
abbrev jD:Stmt:=top 51
abbrev jN:Stmt:=top 42
abbrev iL:Stmt:=top 47
abbrev pH:Stmt:=top 46
abbrev DT:Stmt:=top 52
abbrev N0:List Str := ["script","k"]
abbrev N1:List Str := ["script","k","cell"]
abbrev N2:List Str := ["state","many","found","mixed"]
abbrev N3:List Str := ["n"]
abbrev N4:List Str := ["n","found","i","row","j","turn"]
abbrev N5:List Str := ["signs","kinds","found","one","row","other","sign"]
abbrev N6:List Str := ["one","other","size","found","i","row","j","ahead"]
abbrev N7:List Str := ["group","order"]
abbrev N8:List Str := ["state","many","left"]
abbrev N9:List Str := ["state","most","way","found","first","one"]
abbrev N10:List Str := ["state","one"]
abbrev N11:List Str := ["call","error","e","kinds"]
abbrev N12:List Str := ["call","refused","found"]
abbrev N13:List Str := ["found","due"]
abbrev N14:List Str := ["steps","wide","first","later","found","number","step"]
abbrev N15:List Str := ["group","thing"]
abbrev N16:List Str := ["group","walk"]
abbrev N17:List Str := ["group","things","found","one"]
abbrev N18:List Str := ["group","thing","one"]
abbrev N19:List Str := ["one","way","other","other_way","turns"]
abbrev N20:List Str := ["many","times","rows","i"]
abbrev N21:List Str := ["one","other","m"]
abbrev N22:List Str := ["value","many"]
abbrev N23:List Str := ["value","many"]
abbrev N24:List Str := ["group"]
abbrev N25:List Str := ["group","come_to"]
abbrev N26:List Str := ["group","walk","come_to","thing"]
abbrev N27:List Str := ["group","thing"]
abbrev N28:List Str := ["one","way","other","other_way"]
abbrev N29:List Str := ["group","thing"]
abbrev N30:List Str := ["group","walk"]
abbrev N31:List Str := ["group","begin","steps","piece","turns","walk","k","step"]
abbrev N32:List Str := ["way","other"]
abbrev N33:List Str := ["one","way","other","other_way","both"]
abbrev N34:List Str := ["one","way","other","other_way","found"]
abbrev N35:List Str := ["state","group","order"]
abbrev N36:List Str := ["state","walk","many","at","odd","some"]
abbrev N37:List Str := ["state","some"]
abbrev N38:List Str := ["script","k","state","one","other","way","other_way","bad"]
def T0(cl:Nat->Addr):Tb:=⟨[],[("MOST_THINGS",.int 24)],[],[],false,⟨[],[],cl,"<lambda>"⟩⟩
def T1(cl:Nat->Addr):Tb:=(T0 cl).dd "_law_cell_at" jM
def T2(cl:Nat->Addr):Tb:=(T1 cl).dd "_law_state" iD
def T3(cl:Nat->Addr):Tb:=(T2 cl).dd "_law_take" ba
def T4(cl:Nat->Addr):Tb:=(T3 cl).dd "_law_clock" bU
def T5(cl:Nat->Addr):Tb:=(T4 cl).dd "_law_flips" fC
def T6(cl:Nat->Addr):Tb:=(T5 cl).dd "_law_quarter" iz
def T7(cl:Nat->Addr):Tb:=(T6 cl).dd "_law_both" kD
def T8(cl:Nat->Addr):Tb:=(T7 cl).dd "_law_named" jw
def T9(cl:Nat->Addr):Tb:=(T8 cl).dd "_law_order" iG
def T10(cl:Nat->Addr):Tb:=(T9 cl).dd "_law_group" jH
def T11(cl:Nat->Addr):Tb:=(T10 cl).dd "_law_two_groups" dS
def T12(cl:Nat->Addr):Tb:=(T11 cl).qq "_law_refused" (jZ [0,2])
def T13(cl:Nat->Addr):Tb:=(T12 cl).qq "_law_woven" (uD [0,2])
def T14(cl:Nat->Addr):Tb:=(T13 cl).dd "_law_same" nA
def T15(cl:Nat->Addr):Tb:=(T14 cl).dd "_law_by_turns" gO
def T16(cl:Nat->Addr):Tb:=(T15 cl).dd "_law_undone" eT
def T17(cl:Nat->Addr):Tb:=(T16 cl).dd "_law_back" ku
def T18(cl:Nat->Addr):Tb:=(T17 cl).dd "_law_along" lD
def T19(cl:Nat->Addr):Tb:=(T18 cl).dd "_law_is_way" eX
def T20(cl:Nat->Addr):Tb:=(T19 cl).dd "_law_due" qc
def T21(cl:Nat->Addr):Tb:=(T20 cl).hh "table_of" sk
def T22(cl:Nat->Addr):Tb:=(T21 cl).xx "put_together" fw gK
def T23(cl:Nat->Addr):Tb:=(T22 cl).dd "is_number_below" jG
def T24(cl:Nat->Addr):Tb:=(T23 cl).dd "are_numbers_below" iP
def T25(cl:Nat->Addr):Tb:=(T24 cl).dd "all_things" oG
def T26(cl:Nat->Addr):Tb:=(T25 cl).dd "are_all_things" j4
def T27(cl:Nat->Addr):Tb:=(T26 cl).dd "places" yf
def T28(cl:Nat->Addr):Tb:=(T27 cl).dd "goes_through" dv
def T29(cl:Nat->Addr):Tb:=(T28 cl).xx "refuse_no_ways" dU ij
def T30(cl:Nat->Addr):Tb:=(T29 cl).dd "undone" yg
def T31(cl:Nat->Addr):Tb:=(T30 cl).dd "back" DJ
def T32(cl:Nat->Addr):Tb:=(T31 cl).dd "threaded" sQ
def T33(cl:Nat->Addr):Tb:=(T32 cl).dd "steps_of_one" jg
def T34(cl:Nat->Addr):Tb:=(T33 cl).xx "woven" iu jF
def T35(cl:Nat->Addr):Tb:=(T34 cl).dd "_law_right" bM
def T36(cl:Nat->Addr):Tb:=(T35 cl).dd "_law_any_way" dq
def T37(cl:Nat->Addr):Tb:=(T36 cl).dd "_law_bent_walk" fe
def T38(cl:Nat->Addr):Tb:=(T37 cl).dd "_law_odd" kc
theorem uH:∀(cl:Nat->Addr),cD (T0 cl) N0 jQ=some iw:=by intro cl;kernel_rfl
theorem t9:aO N0 (N0.take 2) (ax jQ):=du 1#0
theorem yH:∀(cl:Nat->Addr),cD (T1 cl) N1 lJ=some qM:=by intro cl;kernel_rfl
theorem wq:aO N1 (N1.take 2) (ax lJ):=du 1#0
theorem Ai:∀(cl:Nat->Addr),cD (T2 cl) N2 nZ=some ko:=by intro cl;kernel_rfl
theorem za:aO N2 (N2.take 2) (ax nZ):=du 1#0
theorem yK:∀(cl:Nat->Addr),cD (T3 cl) N3 l9=some lA:=by intro cl;kernel_rfl
theorem xl:aO N3 (N3.take 1) (ax l9):=du 1#0
theorem yc:∀(cl:Nat->Addr),cD (T4 cl) N4 lL=some qG:=by intro cl;kernel_rfl
theorem wH:aO N4 (N4.take 1) (ax lL):=du 1#0
theorem uJ:∀(cl:Nat->Addr),cD (T5 cl) N5 jL=some m7:=by intro cl;kernel_rfl
theorem tL:aO N5 (N5.take 0) (ax jL):=du 1#0
theorem Ae:∀(cl:Nat->Addr),cD (T6 cl) N6 nW=some sR:=by intro cl;kernel_rfl
theorem yk:aO N6 (N6.take 2) (ax nW):=du 1#0
theorem yF:∀(cl:Nat->Addr),cD (T7 cl) N7 lG=some qK:=by intro cl;kernel_rfl
theorem v8:aO N7 (N7.take 2) (ax lG):=du 1#0
theorem yq:∀(cl:Nat->Addr),cD (T8 cl) N8 lT=some qH:=by intro cl;kernel_rfl
theorem wD:aO N8 (N8.take 2) (ax lT):=du 1#0
theorem y7:∀(cl:Nat->Addr),cD (T9 cl) N9 lZ=some lO:=by intro cl;kernel_rfl
theorem xf:aO N9 (N9.take 2) (ax lZ):=du 1#0
theorem pC:∀(cl:Nat->Addr),cD (T10 cl) N10 ib=some j5:=by intro cl;kernel_rfl
theorem o8:aO N10 (N10.take 1) (ax ib):=du 1#0
def nj:Stmt:=(br fg).getD 6 (.Pass ⟨0,0,0,0⟩)
theorem nk:br fg=kn 138 nj:=by kernel_rfl
theorem Oo:∀(cl:Nat->Addr),cS (T11 cl) 80 oN (ax fg).names nj=some mzR:=by intro cl;kernel_rfl
theorem l5:rW (ax fg).names=true:=by decide +kernel
theorem lz:aO N11 (N11.take 1) (ax fg):=du 1#0
theorem yU:br dh=vT (bd_ dh 0) (bd_ dh 2) "_law_refused" (Bc (bd_ dh 1)) 183:=by kernel_rfl
theorem xo:∀(cl:Nat->Addr),cS (T12 cl) 80 qU (ax dh).names (bd_ dh 0)=some Aw:=by intro cl;kernel_rfl
theorem xg:∀(cl:Nat->Addr),cS (T12 cl) 80 qU (ax dh).names (bd_ dh 2)=some CY:=by intro cl;kernel_rfl
theorem wZ:Lb (ax dh).names "_law_refused" (Bc (bd_ dh 1))=true:=by decide +kernel
theorem wm:aO N12 (N12.take 1) (ax dh):=du 1#0
theorem Ap:∀(cl:Nat->Addr),cD (T13 cl) N13 nS=some rT:=by intro cl;kernel_rfl
theorem x8:aO N13 (N13.take 2) (ax nS):=du 1#0
theorem sN:∀(cl:Nat->Addr),cD (T14 cl) N14 jh=some lP:=by intro cl;kernel_rfl
theorem qT:aO N14 (N14.take 4) (ax jh):=du 1#0
theorem v7:∀(cl:Nat->Addr),cD (T15 cl) N15 kr=some oC:=by intro cl;kernel_rfl
theorem uI:aO N15 (N15.take 2) (ax kr):=du 1#0
theorem Am:∀(cl:Nat->Addr),cD (T16 cl) N16 nY=some t6:=by intro cl;kernel_rfl
theorem ym:aO N16 (N16.take 2) (ax nY):=du 1#0
theorem xV:∀(cl:Nat->Addr),cD (T17 cl) N17 l7=some qF:=by intro cl;kernel_rfl
theorem wV:aO N17 (N17.take 2) (ax l7):=du 1#0
theorem wU:∀(cl:Nat->Addr),cD (T18 cl) N18 kK=some kH:=by intro cl;kernel_rfl
theorem uL:aO N18 (N18.take 2) (ax kK):=du 1#0
theorem CC:∀(cl:Nat->Addr),cD (T19 cl) N19 pG=some vm:=by intro cl;kernel_rfl
theorem Aq:aO N19 (N19.take 4) (ax pG):=du 1#0
theorem AM :∀ (cl:Nat->Addr),∀ g φ,cB ⟨(T20 cl).D,(T20 cl).C,[("times",g,φ)],(T20 cl).H,(T20 cl).mkr,(T20 cl).Z⟩ 80 (["many","times","rows","i"]:List Str) (ax kB).names (br kB)=some (tw g φ):=by intro cl;intro g φ;kernel_rfl
theorem yJ:aO N20 (N20.take 2) (ax kB):=du 1#0
theorem sD :∀ (cl:Nat->Addr),cD ⟨(T21 cl).D,(T21 cl).C,(T21 cl).L,(T21 cl).H,true,(T21 cl).Z.to "<lambda>"⟩ N21 eJ=some lW:=by intro cl;kernel_rfl
theorem qV :∀ (cl:Nat->Addr),(xc 80 80).b ⟨("put_together",fw)::(T21 cl).D,(T21 cl).C,(T21 cl).L,(T21 cl).H,(T21 cl).mkr,(T21 cl).Z⟩ ⟨(T21 cl).Z.R,clR [0,2]⟩ N21 (ax eJ).names (br eJ)=some jd:=by intro cl;kernel_rfl
theorem kY:aO N21 (N21.take 2) (ax eJ):=du 1#0
theorem o6:∀(cl:Nat->Addr),cD (T22 cl) N22 gR=some ju:=by intro cl;kernel_rfl
theorem nB:aO N22 (N22.take 2) (ax gR):=du 1#0
theorem mS:∀(cl:Nat->Addr),cD (T23 cl) N23 fU=some iQ:=by intro cl;kernel_rfl
theorem lE:aO N23 (N23.take 2) (ax fU):=du 1#0
theorem wu:∀(cl:Nat->Addr),cD (T24 cl) N24 kl=some oW:=by intro cl;kernel_rfl
theorem uy:aO N24 (N24.take 1) (ax kl):=du 1#0
theorem pI:∀(cl:Nat->Addr),cD (T25 cl) N25 ie=some j6:=by intro cl;kernel_rfl
theorem pf:aO N25 (N25.take 2) (ax ie):=du 1#0
theorem FD:∀(cl:Nat->Addr),cD (T26 cl) N26 rR=some yb:=by intro cl;kernel_rfl
theorem Cd:aO N26 (N26.take 2) (ax rR):=du 1#0
theorem t7:∀(cl:Nat->Addr),cD (T27 cl) N27 jc=some l6:=by intro cl;kernel_rfl
theorem qZ:aO N27 (N27.take 2) (ax jc):=du 1#0
theorem ql:∀(cl:Nat->Addr),cD (T28 cl) N28 eF=some j3:=by intro cl;kernel_rfl
theorem oY :∀ (cl:Nat->Addr),(xc 80 80).b ⟨("refuse_no_ways",dU)::(T28 cl).D,(T28 cl).C,(T28 cl).L,(T28 cl).H,(T28 cl).mkr,(T28 cl).Z⟩ ⟨(T28 cl).Z.R,clR [0,2]⟩ N28 (ax eF).names (br eF)=some kf:=by intro cl;kernel_rfl
theorem jy:aO N28 (N28.take 4) (ax eF):=du 1#0
theorem EF:∀(cl:Nat->Addr),cD (T29 cl) N29 si=some y0:=by intro cl;kernel_rfl
theorem Ck:aO N29 (N29.take 2) (ax si):=du 1#0
theorem Mr:∀(cl:Nat->Addr),cD (T30 cl) N30 AL=some EZ:=by intro cl;kernel_rfl
theorem GV:aO N30 (N30.take 2) (ax AL):=du 1#0
theorem An:∀(cl:Nat->Addr),cD (T31 cl) N31 nC=some rP:=by intro cl;kernel_rfl
theorem yE:aO N31 (N31.take 4) (ax nC):=du 1#0
theorem ub:∀(cl:Nat->Addr),cD (T32 cl) N32 ja=some lH:=by intro cl;kernel_rfl
theorem q8:aO N32 (N32.take 2) (ax ja):=du 1#0
theorem Jh:∀(cl:Nat->Addr),cD (T33 cl) N33 oz=some Bo:=by intro cl;kernel_rfl
theorem E8 :∀ (cl:Nat->Addr),(xc 80 80).b ⟨("woven",iu)::(T33 cl).D,(T33 cl).C,(T33 cl).L,(T33 cl).H,(T33 cl).mkr,(T33 cl).Z⟩ ⟨(T33 cl).Z.R,clR [0,2]⟩ N33 (ax oz).names (br oz)=some A2:=by intro cl;kernel_rfl
theorem zv:aO N33 (N33.take 4) (ax oz):=du 1#0
theorem yn :∀ (cl:Nat->Addr),cD ⟨(T34 cl).D,(T34 cl).C,(T34 cl).L,(T34 cl).H,true,(T34 cl).Z.to "<lambda>"⟩ N34 jD=some qN:=by intro cl;kernel_rfl
theorem wQ:aO N34 (N34.take 4) (ax jD):=du 1#0
theorem uE:∀(cl:Nat->Addr),cD (T35 cl) N35 jN=some nr:=by intro cl;kernel_rfl
theorem sg:aO N35 (N35.take 2) (ax jN):=du 1#0
theorem q9:∀(cl:Nat->Addr),cD (T36 cl) N36 iL=some kT:=by intro cl;kernel_rfl
theorem pV:aO N36 (N36.take 3) (ax iL):=du 1#0
theorem B3:∀(cl:Nat->Addr),cD (T37 cl) N37 pH=some vD:=by intro cl;kernel_rfl
theorem Aa:aO N37 (N37.take 1) (ax pH):=du 1#0
theorem NA:∀(cl:Nat->Addr),cD (T38 cl) N38 DT=some Kb:=by intro cl;kernel_rfl
theorem Me:aO N38 (N38.take 1) (ax DT):=du 1#0
abbrev dL:List (Str×Stmt):=("_law_cell_at",jQ)::("_law_state",lJ)::("_law_take",nZ)::("_law_clock",l9)::("_law_flips",lL)::("_law_quarter",jL)::("_law_both",nW)::("_law_named",lG)::("_law_order",lT)::("_law_group",lZ)::("_law_two_groups",ib)::("_law_refused",fg)::("_law_same",nS)::("_law_by_turns",jh)::("_law_undone",kr)::("_law_back",nY)::("_law_along",l7)::("_law_is_way",kK)::("_law_due",pG)::("table_of",kB)::("is_number_below",gR)::("are_numbers_below",fU)::("all_things",kl)::("are_all_things",ie)::("places",rR)::("goes_through",jc)::("refuse_no_ways",eF)::("undone",si)::("back",AL)::("threaded",nC)::("steps_of_one",ja)::("woven",oz)::("_law_any_way",jN)::("_law_bent_walk",iL)::("_law_odd",pH)::("law",DT) :: []
variable{w:World}{mg:Str->Option Value}{h:Heap}
theorem chain{P:Program}{K:aj}{VJ Xo:Addr}{Vz XH:Addr}{Vv Xm:Addr}{cl:Nat->Addr}(X:K.In h)(Gn:h.Ns mainGlobals mg)(B :∀ x∈iF,aX K mainGlobals x=some none)(kc0 :∃ t,aX K mainGlobals "MOST_THINGS"=some (some (.int 24 t))){wA:Addr}(Rk:uX K mg cl wA [0,2])(hC :∀ y i,(clR [0,2]).lookup y=some i->mg y=some (.ref (cl i))/\exB K (cl i)=true)(VH:mainGlobals≠Xo)(We:mainGlobals≠XH)(Wa:mainGlobals≠Xm)(nd:([Xo,XH,Xm]:List Addr).Nodup)
  (DA:Mp K dL) (Vb:jb K "_law_woven" dh VJ Xo) (VB:jb K "put_together" eJ Vz XH) (Va:jb K "_law_right" jD Vv Xm):Ch P w K mg 16#2 (T38 cl) 46:=by
 obtain⟨D0,D1,D2,D3,D4,D5,D6,D7,D8,D9,RZ,Ux,RP,Ru,RJ,Sq,SY,SF,SQ,Sl,Sh,Rt,RQ,RN,Ra,Rm,Uc,Sk,Rq,RO,Sf,Uv,SA,SU,Su,Rf,_⟩:=DA;have C0:Ch P w K mg 16#2 (T0 cl) 0:=⟨fun _ _ _ _ _=>TOk.con (TOk.nil X Gn B) X Gn kc0,(fun _ _ _ _ _ _ _ z=>by cases z),(fun _ _ _ _ _ _ _ z=>by cases z)⟩;have nd:((16#2:List (Addr×Str)).map (·.1)).Nodup:=by simpa using nd
 have C1:Ch P w K mg _ (T1 cl) 1:=C0.dfn C0.o rfl X Gn D0 t9 4#3 (uH cl);have C2:Ch P w K mg _ (T2 cl) 2:=C1.dfn C1.o rfl X Gn D1 wq 4#3 (yH cl);have C3:Ch P w K mg _ (T3 cl) 3:=C2.dfn C2.o rfl X Gn D2 za 4#3 (Ai cl);have C4:Ch P w K mg _ (T4 cl) 4:=C3.dfn C3.o rfl X Gn D3 xl 13#7 (yK cl);have C5:Ch P w K mg _ (T5 cl) 5:=C4.dfn C4.o rfl X Gn D4 wH 13#7 (yc cl);have C6:Ch P w K mg _ (T6 cl) 6:=C5.dfn C5.o rfl X Gn D5 tL (λ_ _ _ _ _ _=>us0 rfl) (uJ cl);have C7:Ch P w K mg _ (T7 cl) 7:=C6.dfn C6.o rfl X Gn D6 yk 4#3 (Ae cl);have C8:Ch P w K mg _ (T8 cl) 8:=C7.dfn C7.o rfl X Gn D7 v8 4#3 (yF cl);have C9:Ch P w K mg _ (T9 cl) 9:=C8.dfn C8.o rfl X Gn D8 wD 4#3 (yq cl);have Rx:Ch P w K mg _ (T10 cl) 10:=C9.dfn C9.o rfl X Gn D9 xf 4#3 (y7 cl);have SG:Ch P w K mg _ (T11 cl) 11:=Rx.dfn Rx.o rfl X Gn RZ o8 13#7 (pC cl);have C12:Ch P w K mg _ (T12 cl) 11:=SG.refd rfl X Gn Ux lz 13#7 l5 nk (Oo cl) Rk;have RF:=SG.refF rfl X Gn Ux lz 13#7 l5 nk (Oo cl) Rk;have Rb:Ch P w K mg _ (T13 cl) 11:=C12.wov rfl RF 0#1 0#3 nd VH X Gn Vb wm 13#7 yU (xo cl) (xg cl) wZ;have RH:Ch P w K mg _ (T14 cl) 12:=Rb.dfn Rb.o rfl X Gn RP x8 4#3 (Ap cl);have RK:Ch P w K mg _ (T15 cl) 13:=RH.dfn RH.o rfl X Gn Ru qT 13#6 (sN cl);have Td:Ch P w K mg _ (T16 cl) 14:=RK.dfn RK.o rfl X Gn RJ uI 4#3 (v7 cl);have RI:Ch P w K mg _ (T17 cl) 15:=Td.dfn Td.o rfl X Gn Sq ym 4#3 (Am cl);have RW:Ch P w K mg _ (T18 cl) 16:=RI.dfn RI.o rfl X Gn SY wV 4#3 (xV cl);have Rh:Ch P w K mg _ (T19 cl) 17:=RW.dfn RW.o rfl X Gn SF uL 4#3 (wU cl);have QX:Ch P w K mg _ (T20 cl) 18:=Rh.dfn Rh.o rfl X Gn SQ Aq 13#6 (CC cl);have C21:Ch P w K mg _ (T21 cl) 18:=QX.cls rfl rfl X Gn Sl yJ 4#3 (AM cl);have P':=C21.lam_ rfl rfl 0#3 nd We X Gn VB kY 4#3 (sD cl);have Tg:Ch P w K mg _ (T22 cl) 24:=P'.raise (clR [0,2]) rfl hC X Gn (jb.def (M:=⟨P,w,⟨K,[],[],[],[]⟩,mg,h,none⟩) VB) kY 4#3 (qV cl);have RB:Ch P w K mg _ (T23 cl) 25:=Tg.dfn Tg.o rfl X Gn Sh nB 4#3 (o6 cl);have Rg:Ch P w K mg _ (T24 cl) 26:=RB.dfn RB.o rfl X Gn Rt lE 4#3 (mS cl);have RL:Ch P w K mg _ (T25 cl) 27:=Rg.dfn Rg.o rfl X Gn RQ uy 13#7 (wu cl);have Ta:Ch P w K mg _ (T26 cl) 28:=RL.dfn RL.o rfl X Gn RN pf 4#3 (pI cl);have Sy:Ch P w K mg _ (T27 cl) 29:=Ta.dfn Ta.o rfl X Gn Ra Cd 4#3 (FD cl);have Sj:Ch P w K mg _ (T28 cl) 30:=Sy.dfn Sy.o rfl X Gn Rm qZ 4#3 (t7 cl);have A28:=Sj.dfn Sj.o rfl X Gn Uc jy 13#6 (ql cl);have SI:Ch P w K mg _ (T29 cl) 32:=A28.raise (clR [0,2]) rfl hC X Gn Uc jy 13#6 (oY cl);have So:Ch P w K mg _ (T30 cl) 33:=SI.dfn SI.o rfl X Gn Sk Ck 4#3 (EF cl);have Ry:Ch P w K mg _ (T31 cl) 34:=So.dfn So.o rfl X Gn Rq GV 4#3 (Mr cl);have SW:Ch P w K mg _ (T32 cl) 35:=Ry.dfn Ry.o rfl X Gn RO yE 13#6 (An cl);have Sr:Ch P w K mg _ (T33 cl) 36:=SW.dfn SW.o rfl X Gn Sf q8 4#3 (ub cl);have A33:=Sr.dfn Sr.o rfl X Gn Uv zv 13#6 (Jh cl);have C34:Ch P w K mg _ (T34 cl) 38:=A33.raise (clR [0,2]) rfl hC X Gn Uv zv 13#6 (E8 cl);have RX:Ch P w K mg _ (T35 cl) 43:=C34.lam_ rfl rfl 0#3 nd Wa X Gn Va wQ 13#6 (yn cl);have SO:Ch P w K mg _ (T36 cl) 44:=RX.dfn RX.o rfl X Gn SA sg 4#3 (uE cl);have RG:Ch P w K mg _ (T37 cl) 45:=SO.dfn SO.o rfl X Gn SU pV (λ_ _ _ _ _ _=>us3 λ_ _ _=>rfl) (q9 cl);have R7:Ch P w K mg _ (T38 cl) 46:=RG.dfn RG.o rfl X Gn Su Aa 13#7 (B3 cl);exact R7
variable{q:Program}
theorem all_mk{l:mM}{K:aj}{fa:Addr}{VJ Xo:Addr}{Vz XH:Addr}{Vv Xm:Addr}(X:K.In h)(Gn:h.Ns mainGlobals mg)(TV:mg "law"=some (.ref fa))(B :∀ x∈iF,aX K mainGlobals x=some none)(kc0 :∃ t,aX K mainGlobals "MOST_THINGS"=some (some (.int 24 t))){c0 c1 c2 c3 c4 c5 c6 wA:Addr}(UU:aX K mainGlobals "TooMany"=some (some (.ref c0)))(UC:aX K mainGlobals "NotLevel"=some (some (.ref c1)))(V0:aX K mainGlobals "NoLift"=some (some (.ref c2)))(U4:aX K mainGlobals "NotPlain"=some (some (.ref c3)))(UO:aX K mainGlobals "NoName"=some (some (.ref c4)))(U0:aX K mainGlobals "BadNote"=some (some (.ref c5)))(Up:aX K mainGlobals "NoTwist"=some (some (.ref c6)))(Uu:aX K mainGlobals "WalkError"=some (some (.ref wA)))(rb:MN K [c0,c1,c2,c3,c4,c5,c6] wA [0,2]=true)(VH:mainGlobals≠Xo)(We:mainGlobals≠XH)(Wa:mainGlobals≠Xm)(nd:([Xo,XH,Xm]:List Addr).Nodup)
  (DA:Mp K dL) (Vb:jb K "_law_woven" dh VJ Xo) (VB:jb K "put_together" eJ Vz XH) (Va:jb K "_law_right" jD Vv Xm) {d12:DefRec} (Uy:K.lookup Xo=none) (Tr:(fT q).find? (fun e=>e.name==("_law_woven":Str))=some d12) {d21:DefRec} (Tv:K.lookup XH=none) (TM:(fT q).find? (fun e=>e.name==("put_together":Str))=some d21) {d34:DefRec} (TF:K.lookup Xm=none) (TL:(fT q).find? (fun e=>e.name==("_law_right":Str))=some d34) :
  ∃ (tabs:List (Addr×Str)) (fd:FuncData) (sp:Sp),(∀ r∈tabs,K.lookup r.1=none /\ ∃ x d c,(fT q).find? (fun e=>e.name==x)=some d/\PySem.W.tabIn K x=some (c,r.1))/\20#3 /\
   (∀ base:Heap,K.In base->base.Ns mainGlobals mg->eU mg base->FnOk l.prog w K mg base CX0 47 fa fd ["script"] sp) /\ ∀ (H:Hp) (a:Addr) (ns:List Int),5#6<=63->(∀ r∈tabs,Af H r.1 r.2)->SqL K H a 10#1->sp [.ref a] H (fun v _=>v=.bl true) fun _ _ _=>False:=by
 have DB:=DA;obtain⟨D0,D1,D2,D3,D4,D5,D6,D7,D8,D9,RZ,Ux,RP,Ru,RJ,Sq,SY,SF,SQ,Sl,Sh,Rt,RQ,RN,Ra,Rm,Uc,Sk,Rq,RO,Sf,Uv,SA,SU,Su,Rf,_⟩:=DA;have DA:=DB;obtain⟨Rk,hC⟩:=LZ (rz:= [0,2]) X Gn UU UC V0 U4 UO U0 Up Uu rb;have CH:=chain (P:=l.prog) (w:=w) X Gn B  kc0 Rk hC VH We Wa nd DA Vb VB Va;obtain⟨fd,h1,h2⟩:=K3 (l:=l) (w:=w) (tabs := 16#2) X Gn TV Rf Me (fun _ _ _ _ _ _=>us1 fun _=>rfl) rfl (fun base Zj=>CH.o [] [] [] base Zj) (NA _);refine⟨16#2,fd,_,?_,h1,h2,fun H a ns hl hT hS=>P9 hT hS fun S h1 h2=>DI ns hl S h1 h2⟩;intro r hr;simp only[aI,cM,_root_.or_false]at hr;rcases hr with rfl |rfl |rfl
 .exact⟨Uy,_,_,_,Tr,Vb.tab⟩
 .exact⟨Tv,_,_,_,TM,VB.tab⟩
 .exact⟨TF,_,_,_,TL,Va.tab⟩
theorem walk{l:mM}{loose:List Str}{XP:(Str->Option Value)->Heap->Prop}{YP:World->Heap->Prop}{d:DefRec}{K:Params->aj}(hn:l.most=some 63)(VS:d.params.defaults=[])
  (hY:∀(w:World) (h:Heap),YP w h->(K w.params).In h)
  (F: ∀(w:World) (mg:Str->Option Value) (fa:Addr) (h:Heap),(K w.params).In h->h.Ns mainGlobals mg->mg d.name=some (.ref fa) -> ∃(tabs:List (Addr×Str)) (fd:FuncData) (sp:Sp),
   (∀ r∈tabs,(K w.params).lookup r.1=none /\ ∃ x d c,(fT q).find? (fun e=>e.name==x)=some d/\PySem.W.tabIn (K w.params) x=some (c,r.1))/\20#3 /\
   (∀ base:Heap,(K w.params).In base->base.Ns mainGlobals mg->eU mg base->FnOk l.prog w (K w.params) mg base CX0 47 fa fd ["script"] sp) /\ ∀ (H:Hp) (a:Addr) (ns:List Int),ns.length<=63->(∀ r∈tabs,Af H r.1 r.2)->SqL (K w.params) H a (ns.map V.int)->sp [.ref a] H (fun v _=>v = .bl true) fun _ _ _=>False) :
  PySem.W.WalkO q loose XP YP l.row.toRowW d [] (λf vs=>PySem.call f vs):=
 FL (n:=63) (k:=47) (x:="script") hn 0#1 VS ⟨rfl,by decide,by decide,rfl⟩ hY F
end _W
open PySem PySem.W PyProof.Rows
namespace PySem.W.Fast
theorem tw9498440791047239393:True:=trivial
theorem tw2363360793338882391:True:=trivial
theorem tw6168744250875456211:True:=trivial
theorem tw14634642308696866514:True:=trivial
theorem tw14124615548798971129:True:=trivial
theorem tw5104128593185790599:True:=trivial
theorem tw1342157785743872469:True:=trivial
theorem tw5067940489585832744:True:=trivial
theorem tw14211243290890356341:True:=trivial
theorem tw8177121893327002657:True:=trivial
theorem tw13626352476888432814:True:=trivial
theorem tw15562182123942583110:True:=trivial
theorem tw15794030402633452833:True:=trivial
theorem tw831843548600953046:True:=trivial
theorem tw9928730875903410385:True:=trivial
theorem tw9034291582330285340:True:=trivial
theorem tw592757167561152659:True:=trivial
theorem tw4509092217493382266:True:=trivial
theorem tw11645318466278559798:True:=trivial
theorem tw14045364652520090690:True:=trivial
theorem tw6079520528491088891:True:=trivial
theorem tw7790589748442943004:True:=trivial
theorem tw11619135387169457750:True:=trivial
theorem tw3631529409944174089:True:=trivial
theorem tw435779146997057503:True:=trivial
theorem tw16480269828234334258:True:=trivial
theorem tw8314953625513459369:True:=trivial
theorem tw8165104846082121708:True:=trivial
theorem tw12069266011567021607:True:=trivial
theorem tw14424749249420134853:True:=trivial
theorem tw12659434788655590082:True:=trivial
theorem tw14303468536200005094:True:=trivial
theorem tw13012440009133605476:True:=trivial
theorem tw16393979706547534589:True:=trivial
theorem tw9256659926646785404:True:=trivial
theorem tw8020299218838118530:True:=trivial
theorem tw9426036556261344147:True:=trivial
theorem tw11320571307316898457:True:=trivial
theorem tw9375702235455734882:True:=trivial
theorem tw1781786570662323224:True:=trivial
theorem tw11204272530885218330:True:=trivial
theorem tw4577836519755814903:True:=trivial
theorem tw12177064836021292084:True:=trivial
theorem tw1620242409754456872:True:=trivial
theorem tw9754362072710971983:True:=trivial
theorem tw1890833050207756547:True:=trivial
theorem tw12192490579319646053:True:=trivial
theorem tw15275883369844296083:True:=trivial
theorem tw16324329224632685698:True:=trivial
theorem tw8871960400986051295:True:=trivial
theorem tw1348379766553885733:True:=trivial
theorem tw340476120340836371:True:=trivial
theorem tw6817994790351502273:True:=trivial
theorem tw14147687706901350551:True:=trivial
theorem tw17724601125934778978:True:=trivial
theorem tw5261449983342623946:True:=trivial
theorem tw11093111744948581578:True:=trivial
theorem tw16452549221437143893:True:=trivial
theorem tw18363899190010153899:True:=trivial
theorem tw15823515004847347991:True:=trivial
theorem tw1435949144572481952:True:=trivial
theorem tw16483281850626232770:True:=trivial
theorem tw5657759654893168263:True:=trivial
theorem tw10937951599732103362:True:=trivial
theorem tw11701773415229413718:True:=trivial
theorem tw4457104867655033556:True:=trivial
theorem tw4753931661822603121:True:=trivial
theorem tw14342869295523178138:True:=trivial
theorem tw9194464561336380793:True:=trivial
theorem tw10012406760435579120:True:=trivial
theorem tw16773727903492924888:True:=trivial
theorem tw427515929001898331:True:=trivial
theorem tw12557445731663737052:True:=trivial
theorem tw7275176056437717283:True:=trivial
theorem tw14482298735630344723:True:=trivial
theorem tw5944664559767273276:True:=trivial
theorem tw14842304929681246171:True:=trivial
theorem tw9621799567013753409:True:=trivial
theorem tw2474078297435689799:True:=trivial
theorem tw1314791286371049909:True:=trivial
theorem tw12989998288806999644:True:=trivial
theorem tw12783351735248364962:True:=trivial
theorem tw138656692239551027:True:=trivial
theorem tw15250308455222318294:True:=trivial
theorem tw12328732319454150076:True:=trivial
theorem tw11005971343027196379:True:=trivial
theorem tw15637780124128912787:True:=trivial
theorem tw15825833836542031403:True:=trivial
theorem tw3128931998592104800:True:=trivial
theorem tw9103089212750404104:True:=trivial
theorem tw7461354605208129616:True:=trivial
theorem tw15065355961150451514:True:=trivial
theorem tw18065336441176683005:True:=trivial
theorem tw16419485780906297051:True:=trivial
theorem tw3413520798172446964:True:=trivial
theorem tw1170650931716760723:True:=trivial
theorem tw16223761310565099629:True:=trivial
theorem tw11539459840144321760:True:=trivial
theorem tw2675687698181911126:True:=trivial
theorem tw6272990901191579968:True:=trivial
theorem tw5289407461627770263:True:=trivial
theorem tw5814549933280337376:True:=trivial
theorem tw2772532173775461464:True:=trivial
theorem tw5730451490140282295:True:=trivial
theorem tw6903644812725217555:True:=trivial
theorem tw15873599269401682498:True:=trivial
theorem tw131954982987508079:True:=trivial
theorem tw16786292511680714202:True:=trivial
theorem tw14341400270475615531:True:=trivial
theorem tw4767076309163106064:True:=trivial
theorem tw2631265044759194825:True:=trivial
theorem tw11656821838362633281:True:=trivial
theorem tw3720259754104689083:True:=trivial
theorem tw10354106428019797994:True:=trivial
theorem tw9406742822437183399:True:=trivial
theorem tw2005772071400004416:True:=trivial
theorem tw5631436656055276003:True:=trivial
theorem tw2153717212251372097:True:=trivial
theorem tw15392097501337883334:True:=trivial
theorem tw1185316380304304493:True:=trivial
theorem tw17302377331053126247:True:=trivial
theorem tw12467772462835319683:True:=trivial
theorem tw5942685249178365916:True:=trivial
theorem tw2811380361044158236:True:=trivial
theorem tw15870866246441172675:True:=trivial
theorem tw18235034641268783202:True:=trivial
theorem tw9915282216289441853:True:=trivial
theorem tw14423860814101344366:True:=trivial
end PySem.W.Fast
set_option maxRecDepth 100000 in
set_option maxHeartbeats 0 in
theorem PySem.Challenge.cw_groupwalks_k64_ways_woven_holds : PySem.Challenge.rw_groupwalks_k64_ways_woven.Holds := by
 w_on;o_law;k_head;(case hw=>w_witness2)
 k_fill
 refine _W.walk (l:=PySem.Challenge.rw_groupwalks_k64_ways_woven) rfl rfl (λw h Y=>PySem.W.km_in_of Y) ?F
 case F=>
  intro w mg fa h KX Gh W7;refine' _W.all_mk KX Gh W7 ?B ?con0 ?UU ?UC ?V0 ?U4 ?UO ?U0 ?Up ?Uu ?rb ?VH ?We ?Wa ?nd ?DA (_G.vX ?a12 ?l12 ?Tp ?VJ ?e12 ?u12 ?v12 ?w12 ?x12 ?y12 ?z12 ?t12) (_G.vX ?a21 ?l21 ?c21 ?Vz ?e21 ?u21 ?v21 ?w21 ?x21 ?y21 ?z21 ?t21) (_G.vX ?a34 ?l34 ?c34 ?Vv ?e34 ?u34 ?v34 ?w34 ?x34 ?y34 ?z34 ?t34) ?Uy ?Tr ?Tv ?TM ?TF ?TL
  (case con0=>exact⟨_,by k_is⟩)
  (case UU=>k_is)
  (case UC=>k_is)
  (case V0=>k_is)
  (case U4=>k_is)
  (case UO=>k_is)
  (case U0=>k_is)
  (case Up=>k_is)
  (case Uu=>k_is)
  (case rb=>kernel_rfl)
  case B=>
   intro x hx;simp only[_G.iF,aI,cM,or_false]at hx;rcases hx with rfl|rfl|rfl|rfl|rfl|rfl|rfl|rfl|rfl|rfl|rfl|rfl|rfl|rfl|rfl|rfl|rfl|rfl|rfl|rfl
   all_goals k_is
  case DA=>
   iterate 36 (refine' And.intro (_G.KW ?a ?l ?c ?k) ?_;(case a=>k_is);(case l=>k_is);(case c=>k_is);(case k=>k_is))
   trivial
  (case a12=>k_is);(case l12=>k_is);(case Tp=>k_is);(case VJ=>k_is)
  (case e12=>k_is);(case u12=>rfl);(case v12=>rfl);(case w12=>rfl);(case x12=>rfl);(case y12=>rfl);(case z12=>rfl);(case t12=>decide)
  (case a21=>k_is);(case l21=>k_is);(case c21=>k_is);(case Vz=>k_is)
  (case e21=>k_is);(case u21=>rfl);(case v21=>rfl);(case w21=>rfl);(case x21=>rfl);(case y21=>rfl);(case z21=>rfl);(case t21=>decide)
  (case a34=>k_is);(case l34=>k_is);(case c34=>k_is);(case Vv=>k_is)
  (case e34=>k_is);(case u34=>rfl);(case v34=>rfl);(case w34=>rfl);(case x34=>rfl);(case y34=>rfl);(case z34=>rfl);(case t34=>decide)
  (case VH=>decide)
  (case We=>decide)
  (case Wa=>decide)
  (case nd=>decide)
  (case Uy=>kernel_rfl);(case Tr=>rfl)
  (case Tv=>kernel_rfl);(case TM=>rfl)
  (case TF=>kernel_rfl);(case TL=>rfl)
