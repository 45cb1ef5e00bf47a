import PyProof.Rows.All
import Wide.All
import OpenK.AllK
import Wide.FinOn
import Lean
import PyProof.EqAt
import PyProof.EqKinds
import PyProof.TupleCall
import PyProof.EnumStmt
import PyProof.EnumMake
import PyProof.EnumFor
import PyProof.ZipIter
import PyProof.CompFree
import PyProof.CompMap
import PyProof.Cells
import PyProof.ListMulRoad
import PyProof.ConsumeWalk
import PyProof.TupleOfGen
import PyProof.ListRange
import PySem.Challenge.RW_groupwalks_k62_what_does_not_lift
set_option bootstrap.genMatcherCode false
set_option Elab.async false
set_option linter.all false
set_option maxRecDepth 100000
set_option maxHeartbeats 0
set_option compiler.postponeCompile true
set_option bootstrap.genMatcherCode false
set_option genSizeOfSpec false
set_option relaxedAutoImplicit false
set_option compiler.extract_closed false
open scoped BitVec
set_option hygiene false
local macro_rules
|`(0#0)=>`(var_eq rfl)
|`(0#1)=>`(by decide)
|`(0#2)=>`(by omega)
|`(0#3)=>`(S.length)
local macro_rules
|`(0#4)=>`(ae 0)
|`(0#5)=>`(ae 2)
|`(0#6)=>`(by simp)
|`(0#7)=>`(by assumption)
local macro_rules
|`(0#8)=>`(ae 3)
|`(0#9)=>`(some (tab m T))
|`(1#0)=>`(ae 1)
|`(1#1)=>`(us.length)
local macro_rules
|`(1#2)=>`(s.heap.objs.size)
|`(1#3)=>`(ae 4)
|`(1#4)=>`(by decide +kernel)
|`(1#5)=>`(xs.length)
local macro_rules
|`(1#6)=>`(ak _)
|`(1#7)=>`(mC (.int 1))
|`(1#8)=>`(model X.prog X.w)
|`(1#9)=>`(mC (.int 0))
local macro_rules
|`(2#0)=>`(au1._auto_1)
|`(2#1)=>`(ae 5)
|`(2#2)=>`(some (.ref 0#3))
|`(2#3)=>`([Cell.lst []])
local macro_rules
|`(2#4)=>`(Pre.refl _)
|`(2#5)=>`((e::es))
|`(2#6)=>`(Ex.push _ _)
|`(2#7)=>`(some (.ref n))
local macro_rules
|`(2#8)=>`(l.length)
|`(2#9)=>`(Addr×Obj)
|`(3#0)=>`((.int i))
|`(3#1)=>`(some (.int k))
local macro_rules
|`(3#2)=>`(kvs.length)
|`(3#3)=>`(w.length)
|`(3#4)=>`(aa a ag)
|`(3#5)=>`(bA ag)
local macro_rules
|`(3#6)=>`(ys.length)
|`(3#7)=>`(vs.length)
|`(3#8)=>`(ls.length)
|`(3#9)=>`(aa (ae 1) ag)
local macro_rules
|`(4#0)=>`(tMA M.K ZS)
|`(4#1)=>`(tM M.K ma)
|`(4#2)=>`((.tup (aj w)))
|`(4#3)=>`(scope.names)
local macro_rules
|`(4#4)=>`(S1.length)
|`(4#5)=>`((ys,S'))
|`(4#6)=>`(λ_ _ _ _ _ _=>us2 λ_ _=>rfl)
|`(4#7)=>`(mC (.int 2))
local macro_rules
|`(4#8)=>`(some (.tup (aj P)))
|`(4#9)=>`(model prog w)
|`(5#0)=>`(aa 0#5 ag)
|`(5#1)=>`(items.size)
local macro_rules
|`(5#2)=>`(aa 0#4 ag)
|`(5#3)=>`(aa (ae 4) ag)
|`(5#4)=>`(S.gl hg)
|`(5#5)=>`(s2.heap.objs.size)
local macro_rules
|`(5#6)=>`(aa 0#4 3#9)
|`(5#7)=>`(m1 gS 1#7)
|`(5#8)=>`((.int x,S1))
|`(5#9)=>`(bZ 1#0)
local macro_rules
|`(6#0)=>`(aX _ _)
|`(6#1)=>`(aZ m T P true)
|`(6#2)=>`((.ref (0#3+1)))
|`(6#3)=>`(Str×Addr)
local macro_rules
|`(6#4)=>`((.int x))
|`(6#5)=>`((.nx,Y1,S'))
|`(6#6)=>`((.inl rfl))
|`(6#7)=>`(by rw[S.hm];exact hm)
local macro_rules
|`(6#8)=>`(R.e _ _ _ _ e1 X S)
|`(6#9)=>`(Str×NameKind)
|`(7#0)=>`(tMT M.K mt)
|`(7#1)=>`(ps.length)
local macro_rules
|`(7#2)=>`(some (.tup (aj part)))
|`(7#3)=>`(some (.ref 0))
|`(7#4)=>`(mC (.bl true))
|`(7#5)=>`(mFn bR 5#2)
local macro_rules
|`(7#6)=>`(aa 1#9 ag)
|`(7#7)=>`([Cell.lst _])
|`(7#8)=>`(tM M.K mb)
|`(7#9)=>`(List Nat)
local macro_rules
|`(8#0)=>`(S2.length)
|`(8#1)=>`(ZY.heap.objs.size)
|`(8#2)=>`(X.env.locals)
|`(8#3)=>`((.int y,S2))
local macro_rules
|`(8#4)=>`(tMA K a)
|`(8#5)=>`(some (.obj g))
|`(8#6)=>`(some (.int n))
|`(8#7)=>`(tM M.K m)
local macro_rules
|`(8#8)=>`((.lst xs))
|`(8#9)=>`(blk X N' scope ZY ZW fp)
|`(9#0)=>`(M.to caps capv cds base)
|`(9#1)=>`((x == ("__debug__":Str)))
local macro_rules
|`(9#2)=>`(EP X pins σ Q)
|`(9#3)=>`(er.mono k1 p1)
|`(9#4)=>`(G++[some u])
|`(9#5)=>`(len_tab 0#0)
local macro_rules
|`(9#6)=>`(part.length)
|`(9#7)=>`(bp.refl _)
|`(9#8)=>`(R.e _ _ _ _ e2 X S)
|`(9#9)=>`(some (.int (n:Nat)))
local macro_rules
|`(10#0)=>`((.inl (x:Int)))
|`(10#1)=>`(p1.trans p2)
|`(10#2)=>`(aa 4#7 ag)
|`(10#3)=>`([Cell.lst (fr.map (prU T h))])
local macro_rules
|`(10#4)=>`(mFn bR (aa 0#8 ag))
|`(10#5)=>`([tab m T,.tup (aj P),u])
|`(10#6)=>`(some (.ref r))
|`(10#7)=>`(ns.map V.int)
local macro_rules
|`(10#8)=>`(some (.int h))
|`(10#9)=>`(k1.trans k2)
|`(11#0)=>`(au2._auto_1)
|`(11#1)=>`((starEach (e::es) X.env=(false,eval e X.env)::starEach es X.env))
local macro_rules
|`(11#2)=>`(⟨μ,S,G,x,S1,hr,er,e1,λY0 vx H1 p1 k1 Z' rx =>?_⟩)
|`(11#3)=>`(some (.int (most:Nat)))
|`(11#4)=>`(by exact cW 0#1 _)
|`(11#5)=>`(λz=>nomatch z)
local macro_rules
|`(11#6)=>`(I.ok.hd hc)
|`(11#7)=>`(ns.length)
|`(11#8)=>`(some (.ref (dk S F ln x).length))
|`(11#9)=>`(ha _ s σ H _ I h)
local macro_rules
|`(12#0)=>`(aZ m T part true)
|`(12#1)=>`(k.mono p1 k1)
|`(12#2)=>`(frs X.stack)
|`(12#3)=>`(by simp_all)
local macro_rules
|`(12#4)=>`(aa 0#8 ag)
|`(12#5)=>`([x,some u,y,some (.ref (0#3+2))])
|`(12#6)=>`(baseOf s.heap H (frs X.stack))
|`(12#7)=>`([Cell.lst (aj (cb 1 (m - 1)))])
local macro_rules
|`(12#8)=>`([tab m T,.tup (aj part)])
|`(12#9)=>`(M.K.to caps capv cds)
|`(13#0)=>`(R.a _ _ _ _ e1 X S)
|`(13#1)=>`(starEach es X.env)
local macro_rules
|`(13#2)=>`([Cell.lst (aj l)])
|`(13#3)=>`(d4 T part left)
|`(13#4)=>`(O.B _ 1#4)
|`(13#5)=>`((.Name x p1))
local macro_rules
|`(13#6)=>`(((backTo pos (starEach es X.env)).any (·.1)=false))
|`(13#7)=>`(eX X.env.cells scope.names [])
|`(13#8)=>`(mFn bR (aa 2#1 ag))
|`(13#9)=>`(M.K.cds++[(c',oc)])
local macro_rules
|`(14#0)=>`([Cell.lst [.int 0]])
|`(14#1)=>`(mC (.bl false))
|`(14#2)=>`(S.room.mono hk)
|`(14#3)=>`((.ref S'.length))
local macro_rules
|`(14#4)=>`(by simp;omega)
|`(14#5)=>`(Cell.lst row)
|`(14#6)=>`((.ref 0#3,S'))
|`(14#7)=>`(p2.trans p3)
local macro_rules
|`(14#8)=>`(h.objs.size)
|`(14#9)=>`(scope.kind)
|`(15#0)=>`([2#7,some (.tup (aj l)),some (.int (m:Nat)),some (.int (k:Nat)),some od,none])
|`(15#1)=>`(λ_ _ _ _ _ _=>us3 λ_ _ _=>rfl)
local macro_rules
|`(15#2)=>`((false,eval a X.env))
|`(15#3)=>`(some (.tup (aj (aA m))))
|`(15#4)=>`(σ++aP xs.length none)
|`(15#5)=>`(⟨.bl _,H,I,rfl,q⟩)
local macro_rules
|`(15#6)=>`(some (.tup (aj l)))
|`(15#7)=>`(I.hok.fresh 1#6)
|`(15#8)=>`(λz=>by cases z)
|`(15#9)=>`(ZZ.toArray.size)
local macro_rules
|`(16#0)=>`(λ_ _=>False)
|`(16#1)=>`(x++[.lst []])
|`(16#2)=>`(C.frees I.ok)
|`(16#3)=>`(h'.objs.size)
local macro_rules
|`(16#4)=>`(m2 oIx (m2 oIx 0#4 (ae 4)) (ae 5))
|`(16#5)=>`(some (.int (A (i / m) (j / m))))
|`(16#6)=>`(⟨by decide,by decide⟩)
|`(16#7)=>`((e::T::frs X.stack))
local macro_rules
|`(16#8)=>`(λb ob q=>ar _ q)
|`(16#9)=>`(by exact bX 0#7)
|`(17#0)=>`((∃m,W 0 m σ H))
|`(17#1)=>`(Cell.lst (aj l))
local macro_rules
|`(17#2)=>`((.Tuple ts kt pt))
|`(17#3)=>`(some (.int most))
|`(17#4)=>`(au3._auto_1)
|`(17#5)=>`((.ListComp elt [⟨.Name x px,iter,ifs,0⟩] scope pos))
local macro_rules
|`(17#6)=>`([Cell.lst (tups (sdF (d4 T part left) k).1)])
|`(17#7)=>`(m2 oIx (m2 oIx 0#4 (ae 7)) (ae 9))
|`(17#8)=>`(some (tab (mnS m T P) (resT m T P)))
|`(17#9)=>`(cellsFrom (1#2+1) scope.names [])
local macro_rules
|`(18#0)=>`(m2 oIx (m2 oIx 0#4 0#5) 0#8)
|`(18#1)=>`((λy=>N.findIdx? (· == y)))
|`(18#2)=>`((pre T w).map (nbS m T P))
|`(18#3)=>`(show ag _ _=_ from rfl)
local macro_rules
|`(18#4)=>`(mFn aO (aa 0#4 22#0))
|`(18#5)=>`(by exact ai 0#7 0#1)
|`(18#6)=>`(upd H c (.frz oc fz))
|`(18#7)=>`(X.s₀.heap.objs.size)
local macro_rules
|`(18#8)=>`(by unfold big;omega)
|`(18#9)=>`(by simpa using hp)
|`(19#0)=>`(some (.ref 0#3))
|`(19#1)=>`(by simpa using h)
local macro_rules
|`(19#2)=>`(G++[some 6#4])
|`(19#3)=>`((∀Y3 H',N Y3 H' -> ∃m',m'<m/\W (k+1) m' Y3 H'))
|`(19#4)=>`([2#7,some (.int most),some (.int way),0#9,x,y])
|`(19#5)=>`([kL b [0,1,2],kL b [3,4,5],kL b [0,1,2,3,4,5]])
local macro_rules
|`(19#6)=>`((∀x,foldedSetIterable iter X.env x=pure x))
|`(19#7)=>`(mFn aO (aa 0#4 (aa (mFn bR 3#9) ag)))
|`(19#8)=>`(⟨T.D,T.C,T.L,T.H,true,T.Z.to nm⟩)
|`(19#9)=>`(((kids T st p).reverse).map lnU)
local macro_rules
|`(20#0)=>`([o,.tup (aj (w.take 1)),.tup []])
|`(20#1)=>`((X.mg "__name__").getD .none)
|`(20#2)=>`(λ_ _ _ _ _ _=>us1 λ_=>rfl)
|`(20#3)=>`((.builtin "object.__class__"))
local macro_rules
|`(20#4)=>`([Cell.dic [(.inl 0,.int 1)]])
|`(20#5)=>`(run ps.length N.length ms)
|`(20#6)=>`((.tup (aj (ls.getD i []))))
|`(20#7)=>`([7#3,3#1,some (.int z)])
local macro_rules
|`(20#8)=>`(X.env.qual++"<lambda>")
|`(20#9)=>`([(T h y,iY p.1 h++[y])])
|`(21#0)=>`(mJ lo (hi - lo).toNat)
|`(21#1)=>`(show u=bw a from rx)
local macro_rules
|`(21#2)=>`(rW S C ZY ZW fp)
|`(21#3)=>`([U.int 1,U.int (-1)])
|`(21#4)=>`((false,eval e X.env))
|`(21#5)=>`(by intro z;cases z)
local macro_rules
|`(21#6)=>`(R.t _ _ _ _ e1 X S)
|`(21#7)=>`(s1.heap.objs.size)
|`(21#8)=>`([(XH,("left_sides":Str)++".<locals>."++"<lambda>"),(XE,("right_sides":Str)++".<locals>."++"<lambda>"),(XY,("rest_group":Str)++".<locals>."++"<lambda>"),(XJ,("_law_lifted":Str)++".<locals>."++"<lambda>")])
|`(21#9)=>`([some (.tup (aj p.1)),some (.tup (aj p.2)),some (.int (fD p.2:Nat)),d])
local macro_rules
|`(22#0)=>`(aa (mC (.int 3)) ag)
|`(22#1)=>`(k==ba&&env.scope.kind==.function&&env.kindOf n==some .cell)
|`(22#2)=>`([some (.int h),some (.int y),some (.int (T h y:Nat))])
|`(22#3)=>`((∀b o',s.heap.get? b=some o'->h'.get? b=some o'))
local macro_rules
|`(22#4)=>`((some (.int ((i+j+rN (i / 2) (j / 2)) % 2:Nat))))
|`(22#5)=>`(X.fn x=true\/X.env.scope.names.lookup x=some .local)
|`(22#6)=>`([x,some u,y,some (.ref (0#3+2)),some 3#0])
|`(22#7)=>`((.tbl (ps ++ #[rawInt a,rawInt b,.ref c])))
local macro_rules
|`(22#8)=>`([Cell.lst (fr.reverse.map (prU T h))])
|`(22#9)=>`(by unfold big;exact ai 0#7 0#1)
|`(23#0)=>`([tab m T,.tup (aj P),.tup (aj w)])
|`(23#1)=>`(kvs.any λkv=>decide (kv.1=k))
local macro_rules
|`(23#2)=>`(us.map some++aP (n - k) none)
|`(23#3)=>`((x == ("__classdict__":Str)))
|`(23#4)=>`(mSl 1#0 none (some 0#8))
|`(23#5)=>`(eK (gN 5) (eK (gN 6) oR))
local macro_rules
|`(23#6)=>`(kQ X.env scope.names [])
|`(23#7)=>`([2#7,some (.tup (aj l)),some (.int (m:Nat)),some (.int (k:Nat)),some od,some (.ref (S3++[Cell.lst (aj l)]).length)])
|`(23#8)=>`(aa (m2 bN (ae 5) (cH (aa (ae n) ag))) (aa (m2 bN (ae 6) (cH (aa (ae (n+1)) ag))) ag))
|`(23#9)=>`([Cell.lst (aj (d4 T part left k))]++[Cell.lst (aj (srt (d4 T part left k)))])
local macro_rules
|`(24#0)=>`((J.stop i H /\ ∀D,H D=none->Q (.ref D) (upd H D (.lst ys))))
|`(24#1)=>`([2#7,v1,v2,v3,some (tab K R),some (.ref r5),none,v7,v8,v9])
|`(24#2)=>`(de x x (fN st) (cp st) (aC st) .none kV doc pm an cdv ct)
|`(24#3)=>`(λσ H R=>vO K (tM K a) σ H R\/BY K (tM K a) σ H R)
local macro_rules
|`(24#4)=>`(⟨Y0,S1,G,u,S',Z',er.mono k1 p1,e,k.mono p1 k1⟩)
|`(24#5)=>`(⟨μ,S,G,x,S1,hr,er,e1,λY0 H1 p1 k1 Z' =>?_⟩)
|`(24#6)=>`([2#7,0#9,4#8,some (.ref r3),v4,v5,v6,v7,v8,v9])
|`(24#7)=>`((if (c:Int)<ns.length then(c:Int) else ns.length))
local macro_rules
|`(24#8)=>`(λw hw=>m9 rx fx r fs w (by simpa using hw))
|`(24#9)=>`((∀x c,X.env.cells.lookup x=some c->c≠b))
|`(25#0)=>`(cOf (m2 oLt (mFn bR 5#3) (mC (.int 13))))
|`(25#1)=>`(λY0 H1 us p vs p1 k1 Z' hs hp rs =>?_)
local macro_rules
|`(25#2)=>`(⟨.str _,_,I.tok _,⟨_,rfl⟩,q⟩)
|`(25#3)=>`(⟨.int _,H,I.tok _,⟨_,rfl⟩,q⟩)
|`(25#4)=>`(⟨by decide,by decide,by decide⟩)
|`(25#5)=>`(mFn gw (aa 1#3 (aa (ae 6) 22#0)))
local macro_rules
|`(25#6)=>`(k1.trans (k2.trans (k3.trans kw)))
|`(25#7)=>`(scope.names.lookup y==some .cell)
|`(25#8)=>`(m2 oIx (m2 oIx 0#4 he) (ae n))
|`(25#9)=>`(m2 bN 2#1 (cH (aa (ae 9) ag)))
local macro_rules
|`(26#0)=>`([0#9,7#2,2#2,none,none,none])
|`(26#1)=>`((.Compare a [op,Ys] [b,c] pos))
|`(26#2)=>`(r61 m T P u r x++[some 3#0])
|`(26#3)=>`(by simp only[aQ,bB,cP];omega)
local macro_rules
|`(26#4)=>`(aa (bL (bZ 0#5) cTT (iZ (m1 (gv "int") (ae 5)) (iZ (m1 pG (m1 (gv "bool") (ae 5))) (mCh oLt oLt 1#9 (ae 5) (mFn bR 5#2))))) ag)
|`(26#5)=>`(if (k'==ba&&env.scope.kind==.function&&env.kindOf n==some _)=true then(n,dI) else(n,k'))
|`(26#6)=>`(m2 bN (m2 bN 0#8 2#1) (m2 oIx (m2 oIx 0#4 (m2 oDiv 0#8 4#7)) (m2 oDiv 2#1 4#7)))
|`(26#7)=>`(mML bJ 0#5 (aa (mFn bC (aa (bL (iR1 5#2) cTT (wZ 1 g φ (aa 0#8 5#3))) ag)) ag))
local macro_rules
|`(26#8)=>`(⟨⟨vs,hs,by rw[<- rs.len];exact dz.mp z⟩,λD hD=>iz (k.mono p1 k1) Z' ra hD⟩)
|`(26#9)=>`(mFn ft (aa 0#8 (aa (mFn fY (aa 0#4 (aa (mSl 0#5 none (some 2#1)) ag))) ag)))
|`(27#0)=>`([7#3,u1,0#9,3#1,some (.ref S'.length),4#8,some 4#2,some (.ref S8.length)])
|`(27#1)=>`(m2 fW 4#7 (m2 oIx (m2 oIx 1#0 (m2 oDiv 0#8 4#7)) (m2 oDiv 2#1 4#7)))
local macro_rules
|`(27#2)=>`((.Slice none none (some (.UnaryOp .USub (.Constant (.int 1) j p3) p4)) p2))
|`(27#3)=>`(⟨_,e,λ_ z=>(by cases z),λ_ _ z=>(by cases z),λ_ z=>(by cases z)⟩)
|`(27#4)=>`((∀ (s:Shared) (v:Value),BindsTo s fd ⟨[v],[]⟩ [("script",v)]))
|`(27#5)=>`(thn (ha pos pins s σ H _ I h) λus s1 ⟨vs,H1,I1,r1,q1⟩ =>?_)
local macro_rules
|`(27#6)=>`([2#7,v1,v2,v3,some (tab K R),some (.ref r5),some 4#2,v7,v8,v9])
|`(27#7)=>`(m2 oIx (m2 oIx 1#0 (m2 oMod 1#3 0#5)) (m2 oMod (ae 6) 0#5))
|`(27#8)=>`(de x x (fN st) (cp st) (aC st) .none kV doc pm an (.ref c) ct)
|`(27#9)=>`(de x qual (fN st) (cp st) (aC st) .none kV doc pm an cdv ct)
local macro_rules
|`(28#0)=>`(⟨rfl,I.turned (λb o hb e=>eb b o hb e) f0 f1 f3 f4 f5⟩)
|`(28#1)=>`(aa (mIs u (b 3)) (aa (mIs u (b 4)) (aa (mIs u (b 5)) ag)))
|`(28#2)=>`(⟨μ,S,G,xs,S2,hr,er,e2,λY0 vs H1 p1 k1 Z' rs =>?_⟩)
|`(28#3)=>`(⟨μ,S,G,_,_,hr,er,e1,λY0 vx H1 p1 k1 Z' rx =>?_⟩)
local macro_rules
|`(28#4)=>`(⟨μ,S,G,_,_,hr,er,e1,λY0 vs H1 p1 k1 Z' rs =>?_⟩)
|`(28#5)=>`(⟨Y0,S1,G,C,S',Z',er.mono k1 p1,q,aft.mono p1 k1⟩)
|`(28#6)=>`(tups ((qj T st (pJ T st) (m - 1) ([],[0])).take most))
|`(28#7)=>`(match a G S with |some (.nx,Y2,S1)=>b Y2 S1 |r=>r)
local macro_rules
|`(28#8)=>`(kj (cOf (mFn eO (aa 0#4 (aa 1#0 (aa 0#8 5#0))))))
|`(28#9)=>`(aa 10#4 (aa (m2 bN 1#7 (mFn aO (aa 0#4 5#0))) ag))
|`(29#0)=>`([0#9,7#2,some (.bl left),2#2,some (.ref a),3#1,c])
|`(29#1)=>`((∀Y3 H',N Y3 H' -> ∃m',m'<m/\W (i+1) m' Y3 H'))
local macro_rules
|`(29#2)=>`(starEach [a,b] X.env = [15#2,(false,eval b X.env)])
|`(29#3)=>`(some (.builtin "BaseException.__getattribute__"))
|`(29#4)=>`(⟨⟨vs,hs,?_⟩,fl Y0 Y6 H1 p1 k1 Z' ZT⟩)
|`(29#5)=>`([0#9,10#6,2#2,some (.tup (aj (ls.getD k [])))])
local macro_rules
|`(29#6)=>`([tab (2+r) (eS (2+r)),tab (2*(2+r)) (ip (2+r))])
|`(29#7)=>`((∀b o,s.heap.get? b=some o->h'.get? b=some o))
|`(29#8)=>`(pB qual scope s.heap.objs.size f (.ref c) XZ)
|`(29#9)=>`(⟨f,μ,S,[],Pre.refl _,bp.refl _,hr,.nil,h⟩)
local macro_rules
|`(30#0)=>`(starEach [b] X.env = [(false,eval b X.env)])
|`(30#1)=>`(bA (aa (mFn dw 5#3) (aa (mFn fV 5#3) ag)))
|`(30#2)=>`([some (U.ref n),some (.int m),2#2]++[3#1])
|`(30#3)=>`(⟨f,μ,S,G,Pre.refl _,bp.refl _,hr,er,e⟩)
local macro_rules
|`(30#4)=>`(dF (aJ ⟨plainId_quiet hZ _,fA zI ?_⟩))
|`(30#5)=>`(aa (cH (aa (cH ag) (aa (cH 7#6) ag))) ag)
theorem au1(h:0=0:=by rfl):0=0:=h
theorem au2(h:0=0:=by decide):0=0:=h
theorem au3(h:Nat->0=0:=by intro _;rfl):0=0:=h 0
theorem au4(h:0=0\/0=1:=by first |exact .inl rfl |exact .inr rfl |assumption):0=0:=rfl
noncomputable section
open Array renaming length_toList→kK,toList_append→JM
open Bool renaming and_eq_true→av,false_ne_true→du,and_eq_true_iff→dH,false_eq_true→fU,and_true→iI,or_eq_true→pX
open Classical renaming propDecidable→cj,byContradiction→yy
open False renaming elim→ck
open ForInStep renaming yield→dQ
open Int renaming ofNat_lt→gf,natCast_emod→oJ,emod_lt_of_pos→wI,natAbs_natCast→wJ,natCast_ediv→zL,toNat→zN,emod_nonneg→Bq,natCast_add→Br,eq_ofNat_of_zero_le→F5
open List renaming getElem?_eq_some_iff→af,getElem?_append_right→aq,length_map→ay,range→aA,getElem?_set_ne→aD,mem_cons_of_mem→aE,getElem?_eq_getElem→aI,getElem?_append_left→aK,append_assoc→aL,getElem?_set_self→aM,replicate→aP,length_append→aQ,mem_map→aU,mem_append_right→aW,mem_append→aY,mem_cons→a7,mem_append_left→a9,mem_cons_self→bc,mem_singleton→be,length_range→br,mem_of_getElem?→bu,map_cons→bz,length_cons→bB,getElem?_map→bE,getD_eq_getElem?_getD→bF,lookup_cons→bG,all_eq_true→bH,all_cons→bK,map_congr_left→bO,nodup_iff_pairwise_ne→bT,size_toArray→bV,getElem_mem→bW,range'→cb,find?_cons→cg,mem_range→cq,length_nil→cP,map_append→cQ,nil_append→dv,getElem?_eq_none_iff→dz,set_append_right→dE,mem_filter→eu,range_succ→eA,length_reverse→eF,map_map→eG,length_filter_le→eV,findIdx?_eq_some_iff_getElem→eY,filterMap_cons→fE,any_eq_true→fJ,eq_nil_of_length_eq_zero→fR,append_nil→gg,length_set→gm,any_cons→gy,mem_of_mem_take→ib,length_take→iq,drop_eq_getElem_cons→iw,getLastD_eq_getLast?→ix,lookup_append→iQ,getElem?_replicate→i5,reverse_cons→jk,nodup_append→jl,all_nil→jm,pairwise_map→jn,drop_of_length_le→jo,take_of_length_le→jq,getElem?_eq_none→jS,getLast?_eq_some_getLast→ki,nodup_cons→kI,of_mem_zip→kJ,forIn_cons→kM,replicate_succ→lg,filter_eq_self→ll,map_nil→lq,ext_getElem?→mM,take_add_one→mO,idxOf_lt_length_iff→mS,length_drop→om,not_mem_nil→oq,getElem?_cons_zero→ox,take_length→oy,filter_cons_of_pos→oz,filter_cons_of_neg→oA,foldl_cons→pY,length_replicate→qg,drop_zero→rJ,getElem?_range→tJ,reverse_append→tK,flatMap_append→tL,length_pos_iff→tN,map_take→ua,findIdx?_cons→uy,length_range'→uA,mem_range'_1→wN,range'_succ→yu,drop_length→yv,isEmpty_iff→yx,mem_reverse→yA,length→zG,take_append_of_le_length→zO,pairwise_iff_getElem→CK,sum_cons→Er,length_eq_zero_iff→FQ,getElem?_cons_succ→FU,length_eq_one_iff→F3,sum_replicate_nat→F6,dropLast_eq_take→JC,lookup→JJ,getElem_toArray→JL,map_eq_cons_iff→JN,range_eq_range'→JO,map→JQ,dropLast_concat→JR,map_id→JS,mem_iff_getElem→JT,mem_of_mem_drop→JU
open List.Pairwise renaming nil→iu,imp_of_mem→km
open List.Perm renaming trans→JP
open Nat renaming lt_of_lt_of_le→ai,le_refl→ak,lt_of_le_of_lt→az,le_trans→aB,ne_of_lt→aS,le_of_lt→aV,lt_succ_self→bx,mod_eq_of_lt→bI,lt_irrefl→bP,le_of_not_lt→bX,ne_of_gt→cJ,add_pos_left→cW,le_succ→cX,lt_trans→dc,zero_le→dB,lt_succ_of_lt→dW,zero_add→dY,le_add_right→d9,mul_le_mul_right→ei,le_of_lt_succ→fg,add_assoc→fw,div_eq_of_lt→fM,sub_le→gc,le_succ_of_le→gL,lt_succ_iff_lt_or_eq→iN,min_le_left→lh,add_sub_cancel'→lu,mul_le_mul_left→ly,succ_mul→lM,le_of_eq→lN,mul_comm→lO,sub_self→lP,sub_add_cancel→mE,add_mod_right→mQ,sub_sub_right→mR,sub_add_comm→oI,add_zero→pZ,mod_self→qb,add_comm→qc,lt_of_succ_lt_succ→qf,mod_add_mod→qh,lt_of_le_of_ne→wF,mod_lt→wG,lt_of_lt_of_eq→wH,min_eq_right→zM,min_eq_left→Bs,add_sub_cancel_left→F4
open Nat.succ renaming inj→Bw
open Ne renaming symm→dO
open Option renaming bind_some→ah,map_some→aN,isSome_iff_exists→dC,filter_eq_some_iff→lR,isSome_map→mD,isSome_some→JI
open Option.some renaming inj→dJ,injEq→fO
open PUnit renaming unit→t9
open PyProof.Rows renaming slot_tuple_getitem→dg,callWith_type1→dD,recsOf→eZ,boot_list→lQ,boot_tuple→xF
open PyProof.Rows.IsTup renaming new→nR
open PySem renaming wpAny_bind→ax,wpAny_pure→aJ,wpAny→aT,wpAny_mono→cf,mem_of_lookup→cw,wpAny_newObj_type→dF,wpAny_Call_Name_kw→dP,wpAny_truthy_bool→d5,codeAny_builtin→fA,wpAny_holding→fL,wpAny_passesOwn→g8,wpAny_loadPart'→hE,codeAny_mono→iK,Addr→iM,PyData→ji,wpAny_execs_nil→jj,wpAny_typeOf→ke,wpAny_loadPart_at→kg,wpAny_call_entry→lb,wpAny_assign_Name→oY,codeAny→oZ,wpAny_field→o3,wpAny_comprehension_free→pW,wpAny_callSpecial?_slot→rD,wpAny_sequenceKey→Bk,wpAny_execs_cons→CJ,Str→Ep,wpAny_load→Jz,wpAny_call→JA,wpAny_runValue→JD
open PySem.Around renaming under_plainId→ee,frames_deeper→FY
open PySem.AutoSeq1 renaming idx_int→uz
open PySem.Builtin.List renaming listExtendWith→t8,listTooLong→wK,listSameRef→wL
open PySem.Builtin.Range renaming rangeSize→d6,small→nS
open PySem.Builtin.Slice renaming slicePlaces→dn,sliceAdjust→gh,sliceApplied→jP
open PySem.Builtin.Tuple renaming tupleExact→dX,tupleItemsOf→jQ,tupleIsExact→t6,tupleTooMany→t7
open PySem.Calls renaming spliced_cons→d7,spliced_nil→gE,evalArgs_plain→kf,callWith_builtin→oH,Name_function_global→Bj,call_function_entry→Bu
open PySem.Data renaming seq→JK
open PySem.F renaming plainAttrs_list→fv,plain_list_iadd→hZ,typeOf_object_class→kl,args_tuple_add_2→mB,entry_tuple_add→mL,slot_tuple_add→nQ,entry_proto_collect→sN,plain_proto_collect→sP,args_tuple_mul_2→xD,entry_tuple_mul→zH,entry_list_iadd→zI,excBase_ValueError→zJ,slot_tuple_mul→Bl,slot_list_append→Bm,type_list_append→Bn,slot_tuple_index→Bo,slot_list_pop→En,type_list_pop→Eo
open PySem.Heap renaming get?_push_of_some→ar,lt_size→aG,get?_push_size→aH,size_push→bS,get?_update_other→dS,get?_update_self→jR,FlyingW→o4,SameBut→FV
open PySem.Heap.IsSliceOf renaming new→oo
open PySem.IsL renaming update→JB
open PySem.NameKind renaming free→ba,cell→dI
open PySem.Obj renaming mapSeq→eU
open PySem.Paired renaming length→Bt
open PySem.PassesOwn renaming never→mP
open PySem.PyData renaming eqvAll→cK,eqv→dj,strOk→dy,canLay0→dR,int→en,canLayAll0→fb,showable→iH,depthAll→iL,depth→jd,intsShort→jE,depthAll→kh,eqv→lr,intsShortAll→rH,showableAll→tI,weightAll→wM,shownAll→yz,hasDict_of_canLay→Bv,strOk→Bx,depth→By
open PySem.SeqAt.EqAt renaming int_str→El,str_int→Em
open PySem.Str renaming ofString→xy
open PySem.Value renaming ref→bw,none→lL,int→rF,str→rG,builtin→tH,bool→tZ,type→Bi
open PySem.W renaming Frag→ao,nsIn→bD,hideAll→cy,kitOne→cN,kia_one→cY,keepIn→cZ,fnOf→de,mg_of→dq,hideAll_get→fj,hideAll_none→gJ,codeIn→gK,cellsFrom_some→i3,of_hideAll→k9,callWith_K→la,OpenLaw→ot,instObj→xw,kla_makeFunctionHit→yw,lookIn→zF,exmOne→zK,kla_makeFunction→Bp,hideAll_size→FP,kla_callFunE→FS,kla_codeExpr→FT,callWith_K0→FW,callWith_of→FZ,mg_none_of→JE,kitx_none→JF,kitx_list→JG,kitx_dict→JH
open PySem.W.Looks renaming ld→rE
open Sum renaming inl→fI,inr→Jy
open True renaming intro→fT
namespace _L
open PySem PySem.Spec PyProof.Rows
abbrev Key:=Sum Int Str
def wg:Key->Value->Bool
 |.inl k,v=>Value.isInt k v
 |.inr x,v=>Value.isStrOf x v
def UX(w:World):Key->Int
 |.inl k=>hashInt k
 |.inr x=>hashStr w x
theorem ej:∀{k:Key}{v:Value},wg k v=true->(∃i t,k=fI i/\v=rF i t)\/(∃x t,k=Jy x/\v=rG x t)
 | .inl i,v,h=>by
   obtain⟨t,e⟩:=Value.isInt_shape h;exact .inl ⟨i,t,rfl,e⟩
 | .inr x,v,h=>by
   obtain⟨t,e⟩:=Value.isStrOf_shape h;exact .inr ⟨x,t,rfl,e⟩
theorem EO(i:Int)(t:Tok):wg (.inl i) (.int i t)=true:=by simp[wg,Value.isInt]
theorem Fh(x:Str)(t:Tok):wg (.inr x) (.str x t)=true:=by simp[wg,Value.isStrOf]
theorem NL(a b:Int):decide ((fI a:Key)=fI b)=(a==b):=by
 grind
theorem P8(a b:Str):decide ((Jy a:Key)=Jy b)=decide (a=b):=by
 grind
theorem OL(a:Int)(b:Str):decide ((fI a:Key)=Jy b)=false:=decide_eq_false (λq=>nomatch q)
theorem OH(a:Str)(b:Int):decide ((Jy a:Key)=fI b)=false:=decide_eq_false (λq=>nomatch q)
def d8(prog:Program)(w:World):PySem.KeyKind prog w Key where
 is:=wg
 hash:=UX w
 inj:=λv a b ha hb=>by
  rcases ej ha with⟨i,t,rfl,rfl⟩|⟨x,t,rfl,rfl⟩
  .rcases ej hb with⟨j,u,rfl,e⟩|⟨y,u,rfl,e⟩
   .injection e with e1 _;rw[e1]
   .exact nomatch e
  .rcases ej hb with⟨j,u,rfl,e⟩|⟨y,u,rfl,e⟩
   .exact nomatch e
   .injection e with e1 _;rw[e1]
 byValue:=λk v h=>by
  rcases ej h with⟨i,t,rfl,rfl⟩|⟨x,t,rfl,rfl⟩<;>rfl
 pyHash:=λhv h=>by
  rcases ej hv with⟨i,t,rfl,rfl⟩|⟨x,t,rfl,rfl⟩
  .exact wpAny_pyHash_int h
  .exact wpAny_pyHash_str h
 eqBool:=λhu hv h=>by
  rcases ej hu with⟨i,t,rfl,rfl⟩|⟨x,t,rfl,rfl⟩
  .rcases ej hv with⟨j,u,rfl,rfl⟩|⟨y,u,rfl,rfl⟩
   .rw[NL]at h;exact wpAny_eqBool_int h
   .rw[OL]at h;exact El i t y u _ _ _ _ h
  .rcases ej hv with⟨j,u,rfl,rfl⟩|⟨y,u,rfl,rfl⟩
   .rw[OH]at h;exact Em x t j u _ _ _ _ h
   .rw[P8]at h;exact wpAny_eqBool_str h
 «strs»:=λk x t v h=>by
  rcases ej h with⟨i,u,rfl,e⟩|⟨y,u,rfl,e⟩
  .exact nomatch e
  .injection e with e1 _
   subst e1;cases v<;>rfl
theorem Bf(prog:Program)(w:World)(i:Int)(t:Tok):(d8 prog w).is (.inl i) (.int i t)=true:=EO i t
theorem zT(prog:Program)(w:World)(x:Str)(t:Tok):(d8 prog w).is (.inr x) (.str x t)=true:=Fh x t
inductive V where
 |non |bl (b:Bool) |int (i:Int) |str (x:Str) |byt (b:Array UInt8) |flt (b:UInt64) |ref (a:Addr) |ty (n:String)
def RelV:V->Value->Prop
 |.non,u=>u=lL
 |.bl b,u=>u=tZ b
 |.int i,u=>∃t,u=rF i t
 |.str x,u=>∃t,u=rG x t
 |.byt b,u=>∃t,u=Value.bytes b t
 |.flt b,u=>∃t,u=Value.float b t
 |.ref a,u=>u=bw a
 |.ty n,u=>u=Bi n
abbrev cz:List V->List Value->Prop:=Paired RelV
variable{xs:List V}{us:List Value}
theorem cz.length(r:cz xs us):1#5=1#1:=Bt r
theorem cz.get:∀{xs:List V}{us:List Value}{i:Nat}{x:V},cz xs us->xs[i]?=some x->∃u,us[i]?=some u/\RelV x u
 |_,_,_,_,.nil,e=>by simp at e
 |_,_,0,_,.cons r _,e=>by simp_all
 | _,_,i+1,x,.cons _ t,e=>by
   obtain⟨u,h1,h2⟩:=cz.get t (by simpa using e)
   simp_all
theorem cz.set{x:V}{u:Value}(r:RelV x u):∀{xs:List V}{us:List Value} (i:Nat),cz xs us->cz (xs.set i x) (us.set i u)
 |_,_,_,.nil=>.nil
 |_,_,0,.cons _ t=>.cons r t
 |_,_,i+1,.cons q t=>.cons q (cz.set r i t)
theorem cz.append:∀{xs ys:List V}{us ws:List Value},cz xs us->cz ys ws->cz (xs++ys) (us++ws)
 |_,_,_,_,.nil,s=>s
 |_,_,_,_,.cons r t,s=>.cons r (cz.append t s)
theorem cz.take:∀{xs:List V}{us:List Value} (n:Nat),cz xs us->cz (xs.take n) (us.take n)
 |_,_,0,_=>.nil
 |_,_,_+1,.nil=>.nil
 |_,_,n+1,.cons r t=>.cons r (cz.take n t)
theorem cz.drop:∀{xs:List V}{us:List Value} (n:Nat),cz xs us->cz (xs.drop n) (us.drop n)
 |_,_,0,r=>r
 |_,_,_+1,.nil=>.nil
 |_,_,n+1,.cons _ t=>cz.drop n t
def vb:Option V->Option Value->Prop
 |some v,some u=>RelV v u
 |none,none=>True
 |_,_=>False
def KV{κ:Type}:List (κ×V)->List (κ×Value)->Prop:=Paired λ(p:κ×V) (q:κ×Value)=>p.1=q.1/\RelV p.2 q.2
def kV:Key->V
 |.inl i=>.int i
 |.inr x=>.str x
inductive HO where
 |lst (xs:List V)
 |tup (xs:List V)
 |dK (kvs:List (Key×V)) |dT (kvs:List (List Key×V))
 |set (S:Int->Bool) (n:Nat)
 |ins (C dx:Addr) (fs:List (Str×V))
 |own (x:Addr)
 |xd (fs:List (Str×V))
 |met (f x:Addr)
 |rng (lo hi:Int)
 |frz (o:Obj) (u:HO)
 |tbl (ps:Array Value)
 |ext (φ:Heap->Prop)
abbrev Hp:=Addr->Option HO
def upd(H:Hp)(a:Addr)(o:HO):Hp:=λb=>if b=a then some o else H b
variable{H:Hp}{a:Addr}{o:HO}
theorem cx:upd H a o a=some o:=by unfold upd;rw[if_pos rfl]
variable{b:Addr}
theorem bg(h:b≠a):upd H a o b=H b:=by unfold upd;rw[if_neg h]
theorem qT{u:HO}(h:H a=some o)(h':H b=some u)(d:o≠u):a≠b:=by
 grind
theorem bh(h:H a=some o)(h':H b=none):a≠b:=by
 grind
section
variable (P:Program) (w:World)
def eg(H:Hp)(h:Heap)(a:Addr):HO->Prop
 |.lst xs=>1#5<=sizeLine /\ ∃ (ZZ:List Value) (n:Nat),cz xs ZZ/\h.get? a=some { cls := .type "list",data := .seq ZZ.toArray n }
 |.tup xs=>1#5<=sizeLine /\ ∃ZZ:List Value,cz xs ZZ/\IsTup h a ZZ.toArray /\ ∃o,h.get? a=some o/\o.dict=none
 |.dK kvs=>3#2<=sizeLine/\(a==sysModules)=false /\ ∃vs,KV kvs vs/\h.DictOf (d8 P w) a vs
 | .dT kvs=>3#2<=sizeLine/\(a==sysModules)=false /\ ∃xs:List (List Key×Addr×Value),
   Paired (λ(p:List Key×V) (q:List Key×Addr×Value)=>p.1=q.1/\H q.2.1=some (.tup (p.1.map kV))/\RelV p.2 q.2.2) kvs xs /\
   ∃o es ep,h.get? a=some o/\o.ExactDict/\o.data=.dict es ep/\es.toList=xs.map (entryOfKey (tupleKind (d8 P w)))/\(xs.map (·.1)).Nodup
 |.set S n=>h.SetOf (intKind P w) a S n
 | .ins C dx fs=>H dx=some (.own a)/\fs.length<=1000/\dx≠a/\h.get? a=some (xw C dx) /\
   ∃mA,h.Ns1 dx mA/\(∀f,vb (fs.lookup f) (mA f))/\PySem.Within mA (fs.map (·.1))
 |.own _=>∃o,h.get? a=some o
 |.xd fs=>∃mA,h.Ns1 a mA /\ ∀f,vb (fs.lookup f) (mA f)
 |.rng lo hi=>∃ t u v,h.get? a=some { cls := .type "range",data := .fields #[.int lo t,.int hi u,.int 1 v] }
 |.frz o u=>h.get? a=some o/\eg H h a u
 |.tbl ps=>h.get? a=some { cls:= .none,data:= .fields ps }
 |.met f x=>h.get? a=some (PySem.W.methodObj (.ref f) (.ref x))
 |.ext φ=>φ h/\(∃o,h.get? a=some o) /\ ∀h1 h2:Heap,φ h1->(∀o,h1.get? a=some o->h2.get? a=some o)->φ h2
def HOk(H:Hp)(h:Heap):Prop:= ∀a o,H a=some o->eg P w H h a o
end
section
variable {P:Program}{w:World}{H H':Hp}{h h':Heap}{a:Addr}{o:HO}
theorem eg.lt(x:eg P w H h a o):a<14#8:=by
 cases o with
 |lst xs=>obtain⟨_,_,_,_,e⟩:=x;exact aG e
 |tup xs=>obtain⟨_,_,_,p⟩:=x;exact p.1.lt
 |dK kvs=>obtain⟨_,_,_,_,o,_,_,e,_⟩:=x;exact aG e
 |dT kvs=>obtain⟨_,_,_,_,o,_,_,e,_⟩:=x;exact aG e
 |set S n=>obtain⟨o,_,_,_,e,_⟩:=x;exact aG e
 |ins C dx fs=>obtain⟨_,_,_,e,_⟩:=x;exact aG e
 |own y=>obtain⟨_,e⟩:=x;exact aG e
 |xd fs=>obtain⟨_,⟨_,_,_,e,_⟩,_⟩:=x;exact aG e
 |rng lo hi=>obtain⟨_,_,_,e⟩:=x;exact aG e
 |frz ob u=>obtain⟨e,_⟩:=x;exact aG e
 |tbl ps=>exact aG (x)
 |met f y=>exact aG (x)
 |ext φ=>obtain⟨_,⟨_,e⟩,_⟩:=x;exact aG e
theorem Paired.mapP{α β:Type}{F f8:α->β->Prop}:∀{VS:List α}{W3:List β},Paired F VS W3->(∀a b,F a b->f8 a b)->Paired f8 VS W3:=by
 intro l m h f
 induction h with
 |nil=>exact .nil
 |cons r t ih=>exact .cons (f _ _ r) ih
theorem eg.stay(x:eg P w H h a o)(k:∀b u,(b=a\/H b=some (.own a))->h.get? b=some u->h'.get? b=some u)
  (ho:∀b,H b=some (.own a)->H' b=some (.own a)) (ht:∀b xs,H b=some (.tup xs)->H' b=some (.tup xs)):eg P w H' h' a o:=by
 induction o with
 |lst xs=>obtain⟨z,ZZ,n,r,e⟩:=x;exact⟨z,_,n,r,k _ _ 6#6 e⟩
 |tup xs=>obtain⟨z,ZZ,r,⟨ob,e,c⟩,o2,e2,c2⟩:=x;exact⟨z,_,r,⟨ob,k _ _ 6#6 e,c⟩,o2,k _ _ 6#6 e2,c2⟩
 |dK kvs=>obtain⟨z,y,vs,r,ob,es,ep,e,c⟩:=x;exact⟨z,y,vs,r,ob,es,ep,k _ _ 6#6 e,c⟩
 | dT kvs=>
   obtain⟨z,y,xs,r,ob,es,ep,e,c⟩:=x;exact⟨z,y,xs,Paired.mapP r λp q z=>⟨z.1,ht _ _ z.2.1,z.2.2⟩,ob,es,ep,k _ _ 6#6 e,c⟩
 |set S n=>obtain⟨ob,es,ep,t,e,c⟩:=x;exact⟨ob,es,ep,t,k _ _ 6#6 e,c⟩
 | ins C dx fs=>
   obtain⟨d,z,ne,e,mA,⟨od,es,ep,e2,c⟩,r⟩:=x;exact⟨ho _ d,z,ne,k _ _ 6#6 e,mA,⟨od,es,ep,k _ _ (.inr d) e2,c⟩,r⟩
 |own y=>obtain⟨ob,e⟩:=x;exact⟨ob,k _ _ 6#6 e⟩
 |xd fs=>obtain⟨mA,⟨od,es,ep,e,c⟩,r⟩:=x;exact⟨mA,⟨od,es,ep,k _ _ 6#6 e,c⟩,r⟩
 |rng lo hi=>obtain⟨t,u,v,e⟩:=x;exact⟨t,u,v,k _ _ 6#6 e⟩
 |frz ob u ih=>obtain⟨e,q⟩:=x;exact⟨k _ _ 6#6 e,ih q⟩
 | tbl ps=>
   have e:=x;exact k a _ 6#6 e
 | met f y=>
   have e:=x;exact k a _ 6#6 e
 |ext φ=>obtain⟨p,⟨o,e⟩,st⟩:=x;exact⟨st _ _ p λo q=>k _ _ 6#6 q,⟨o,k _ _ 6#6 e⟩,st⟩
theorem HOk.lt(x:HOk P w H h)(e:H a=some o):a<14#8:=(x a o e).lt
theorem HOk.fresh(x:HOk P w H h)(e:14#8<=a):H a=none:=by
 cases q:H a with
 |none=>rfl
 |some u=>exact absurd (ai (x.lt q) e) (bP _)
theorem HOk.kept(x:HOk P w H h)(k:∀b u,h.get? b=some u->h'.get? b=some u):HOk P w H h':=λa o e=>
 (x a o e).stay (λb u _ q=>k b u q) (λ_ q=>q) λ_ _ q=>q
theorem HOk.laid(x:HOk P w H h)(k:∀b u,h.get? b=some u->h'.get? b=some u)(hp:14#8<=a)(new:eg P w (upd H a o) h' a o):HOk P w (upd H a o) h':=λb u e=>by
 have hn:=x.fresh hp;by_cases hb:b=a
 .subst hb;rw[cx]at e;grind
 .rw[bg hb]at e
  exact(x b u e).stay (λc v _ q=>k c v q) (λc q=>by rw[bg (bh q hn)];omega) λc xs q=>by rw[bg (bh q hn)];omega
end
def Rd(H:Hp)(a:Addr)(u:HO):Prop:=H a=some u \/ ∃o,H a=some (.frz o u)
variable{P:Program}{w:World}{h:Heap}
theorem Rd.ok{u:HO}(r:Rd H a u)(x:HOk P w H h):eg P w H h a u:=by
 rcases r with r|⟨o,r⟩
 .exact x a u r
 .obtain⟨_,q⟩:=x a _ r
  omega
def Mut:Option HO->Prop
 |some (.lst _)=>True
 |some (.dK _)=>True
 |some (.dT _)=>True
 |some (.set _ _)=>True
 |some (.ins _ _ _)=>True
 |some (.ext _)=>True
 |_=>False
section
variable {P:Program}{w:World}{H:Hp}{h h':Heap}{x e:Addr}{o':HO}
theorem HOk.write(ok:HOk P w H h)(mu:Mut (H x))(he:e=x\/H e=some (.own x))(k:∀b u,b≠e->h.get? b=some u->h'.get? b=some u)(VP:∃u,h'.get? e=some u)
  (new:eg P w (upd H x o') h' x o'):HOk P w (upd H x o') h':=λb u q=>by
 have nown:∀c y,H c=some (.own y)->c≠x:=λc y r z=>by subst z;rw[r]at mu;exact mu
 have ntup:∀c xs,H c=some (.tup xs)->c≠x:=λc xs r z=>by subst z;rw[r]at mu;exact mu
 by_cases hb:b=x
 .subst hb;rw[cx]at q;grind
 .rw[bg hb]at q
  by_cases hbe:b=e
  .have q':H b=some (.own x):=by
    grind
   rw[q]at q';cases q';obtain⟨v,hv⟩:=VP;exact⟨v,by rw[hbe];omega⟩
  .refine(ok b u q).stay (λc v hc r=>k c v ?_ r) (λc r=>by rw[bg (nown c b r)];omega) λc xs r=>by rw[bg (ntup c xs r)];omega
   grind
end
structure Un(fs ex:List Addr)(H H':Hp)(h h':Heap):Prop where
 keep:∀b o,h.get? b=some o->H b=none->b∉fs->b∉ex->h'.get? b=some o
 slot:∀b o,h.get? b=some o->H b=none->b∈fs->b∉ex->∃sl,h'.get? b=some { o with slots:=sl }
 free:∀b o,h.get? b=some o->H b=none->b∉ex->H' b=none
 there:∀b o,h.get? b=some o->b∉ex->∃o',h'.get? b=some o'
 tups:∀b xs,H b=some (.tup xs)->H' b=some (.tup xs)
 frzs:∀b o u,H b=some (.frz o u)->H' b=some (.frz o u)
 tbls:∀b ps,H b=some (.tbl ps)->∃more,H' b=some (.tbl (ps++more))
section
variable {fs fs' ex ex':List Addr}{H H1 H2:Hp}{h h1 h2 h':Heap}{a x e:Addr}{o:HO}
theorem Un.any(u:Un fs ex H H1 h h1){ob:Obj}(q:h.get? b=some ob)(n:H b=none)(hx:b∉ex):∃sl,h1.get? b=some { ob with slots:=sl }:=by
 by_cases hb:b∈fs
 .exact u.slot b ob q n hb hx
 .exact⟨_,u.keep b ob q n hb hx⟩
theorem Un.kept(k:∀b u,h.get? b=some u->h'.get? b=some u):Un fs ex H H h h':=
 ⟨λb ob q _ _ _=>k b ob q,λb ob q _ _ _=>⟨_,k b ob q⟩,λ_ _ _ n _=>n,λb ob q _=>⟨ob,k b ob q⟩,λ_ _ q=>q,λ_ _ _ q=>q,λ_ ps q=>⟨#[],by rw[q];simp⟩⟩
theorem Un.refl:Un fs ex H H h h:=Un.kept λ_ _ q=>q
theorem Un.laid(k:∀b u,h.get? b=some u->h'.get? b=some u)(hp:14#8<=a)(hn:H a=none):Un fs ex H (upd H a o) h h' where
 keep:=λb u q _ _ _=>k b u q
 slot:=λb u q _ _ _=>⟨_,k b u q⟩
 free:=λb u q n _=>by rw[bg (aS (ai (aG q) hp))];omega
 there:=λb u q _=>⟨u,k b u q⟩
 tups:=λb xs q=>by rw[bg (bh q hn)];omega
 frzs:=λb u xs q=>by rw[bg (bh q hn)];omega
 tbls:=λb ps q=>⟨#[],by rw[bg (bh q hn),q];simp⟩
theorem Un.write(mu:Mut (H x))(he:e=x\/H e=some (.own x))(k:∀b u,b≠e->h.get? b=some u->h'.get? b=some u)(VP:∃u,h'.get? e=some u):Un fs ex H (upd H x o) h h':=by
 have hx:∀b,H b=none->b≠x:=λb n z=>by subst z;rw[n]at mu;exact mu
 have hb:∀b,H b=none->b≠e:=λb n z=>by
  grind
 have hm:∀b u,H b=some u->¬Mut (some u)->b≠x:=λb u q nm z=>by grind
 refine⟨λb u q n _ _=>k b u (hb b n) q,λb u q n _ _=>⟨_,k b u (hb b n) q⟩,λb u q n _=>by rw[bg (hx b n)];omega,λb u q _ =>?_,
  λb xs q=>by rw[bg (hm b _ q λz=>z)];omega,λb u xs q=>by rw[bg (hm b _ q λz=>z)];omega,λb ps q=>⟨#[],by rw[bg (hm b _ q λz=>z),q];simp⟩⟩
 grind
end
def trk(h:Heap)(H:Hp):List Addr:=(aA 14#8).filter λa=>(H a).isSome
def xu(h:Heap)(H:Hp):Heap:=cy h (trk h H)
theorem ye(h:Heap)(H:Hp):(xu h H).objs.size=14#8:=FP _ _
variable{o:Obj}
theorem qu(e:h.get? b=some o)(n:H b=none):(xu h H).get? b=some o:=
 fj _ e λhm=>by
  have q:=(eu.mp hm).2
  grind
theorem CS(e:(xu h H).get? b=some o):h.get? b=some o/\H b=none:=by
 have e':=k9 _ e;refine⟨e',?_⟩;cases q:H b with
 |none=>rfl
 | some x=>
   have hm:b∈trk h H:=eu.mpr ⟨cq.mpr (aG e'),by simp[q]⟩;have z:(xu h H).get? b=none:=gJ _ hm
   grind
def Lo(g h:Heap)(L:Addr):List 2#9:=(aA 14#8).filterMap λa=>if a=L\/(g.get? a).isSome=true then none else(h.get? a).map λo=>(a,o)
def rest(g h:Heap)(L d:Addr):List 2#9:=(Lo g h L).filter λp=>decide (p.1≠d)
structure Mod(K:ao)(mg:Str->Option Value)(base:Heap):Prop where
 kin:K.In base
 glob:base.Ns mainGlobals mg
 blt :∃ mb,base.Ns builtinsNs mb /\ ∀ x:Str,x≠"__name__"->mb x=bootBuiltins x
 nolimit:base.NoLimit
set_option genInjectivity false in
structure Cx where
 prog:Program
 w:World
 K:ao
 mg:Str->Option Value
 base:Heap
 A:Around
 N:List Str
 s₀:Shared
 H₀:Hp
 env:Env
 outer:List Env
 stack:List Env
 ex:List Addr
 fn:Str->Bool
 calm:Bool
 pn:List (Addr×Obj)
 xe:Value->Shared->Prop
def frs(l:List Env):List Addr:=l.filterMap (·.frame)
abbrev Cx.fs(X:Cx):List Addr:=frs X.outer
def Vis(sc:Scope)(x:Str):Prop:=sc.names.lookup x=some .local\/sc.names.lookup x=some .cell\/sc.names.lookup x=some .free
def Loc(sc:Scope)(x:Str):Prop:=sc.names.lookup x=some .local\/sc.names.lookup x=some .cell
def Look(env:Env)(h:Heap)(m:Str->Option Value)(x:Str)(u:Value):Prop:=
 (env.kindOf x=some .local/\m x=some u)\/((env.kindOf x=some .cell\/env.kindOf x=some .free) /\ ∃c,env.cells.lookup x=some c/\h.IsCell c (some u))
structure Cx.Ok(X:Cx):Prop where
 mod:Mod X.K X.mg X.base
 kind:X.env.scope.kind=.function
 glob:X.env.globals=mainGlobals
 blt:X.env.builtins=builtinsNs
 above:X.s₀.heap.objs.size<=X.env.locals
 inj:∀x y c,X.env.cells.lookup x=some c->X.env.cells.lookup y=some c->x=y
 has:∀x,(X.env.kindOf x=some .cell\/X.env.kindOf x=some .free)->∃c,X.env.cells.lookup x=some c
 cab:∀x c,X.fn x=true->X.env.cells.lookup x=some c->X.s₀.heap.objs.size<=c
 hd:X.calm=true->X.A.handled=none
 frames:X.A.frames=some X.stack
 stk:X.stack=X.outer\/(X.stack=X.env::X.outer/\X.env.frame=some X.env.locals)
 exf:∀b∈X.ex,b≠X.env.locals /\ ∀x c,X.env.cells.lookup x=some c->c≠b
 bs:∀b o,X.base.get? b=some o->X.s₀.heap.get? b=some o/\X.H₀ b=none
 bsz:X.base.objs.size<=X.s₀.heap.objs.size
 noex:∀b o,X.base.get? b=some o->b∉X.ex
 exfs:∀b∈X.ex,b∉X.fs
 funs:X.s₀.heap.FunFrames X.base X.outer
 frf:∀b∈X.fs,X.H₀ b=none
structure Inv(X:Cx)(pins:List (Addr×Obj))(σ:List (Option V))(H:Hp)(s:Shared):Prop where
 ok:X.Ok
 os:s.os=X.s₀.os
 bare:AllBare s.gens
 base:Un X.fs X.ex X.H₀ H X.s₀.heap s.heap
 loc:∃m,s.heap.Ns X.env.locals m /\ ∀(i:Nat) (x:Str) (v:V),X.N[i]?=some x->σ[i]?=some (some v)->Vis X.env.scope x->∃u,RelV v u/\Look X.env s.heap m x u
 cell:∀x c,X.env.cells.lookup x=some c->∃v,s.heap.IsCell c v
 free:H X.env.locals=none
 freeC:∀x c,X.env.cells.lookup x=some c->H c=none
 pin:∀p∈X.pn++pins,s.heap.get? p.1=some p.2/\H p.1=none/\p.1≠X.env.locals/\p.1∉X.fs /\ ∀v,p.2.data≠.cell v
 hok:HOk X.prog X.w H s.heap
 len:σ.length=X.N.length
section
variable {X:Cx}{pins:List (Addr×Obj)}{σ:List (Option V)}{H H':Hp}{s:Shared}{h':Heap}
theorem Cx.Ok.nofr(ok:X.Ok)(e:X.base.get? b=some o):b∉X.fs:=λhb=>by
 have:=(ok.funs.mem hb).1
 grind
theorem Inv.bs(I:Inv X pins σ H s):∀b o,X.base.get? b=some o->s.heap.get? b=some o/\H b=none:=λb o e=>
 ⟨I.base.keep b o (I.ok.bs b o e).1 (I.ok.bs b o e).2 (I.ok.nofr e) (I.ok.noex b o e),I.base.free b o (I.ok.bs b o e).1 (I.ok.bs b o e).2 (I.ok.noex b o e)⟩
theorem Inv.bk(I:Inv X pins σ H s):∀b o,X.base.get? b=some o->s.heap.get? b=some o:=λb o e=>(I.bs b o e).1
theorem Inv.mod(I:Inv X pins σ H s):Mod X.K X.mg X.base:=I.ok.mod
theorem Inv.kIn(I:Inv X pins σ H s):X.K.In s.heap:=I.ok.mod.kin.keeps I.bk
theorem Inv.lt(I:Inv X pins σ H s):8#2<1#2:=let ⟨_,hn,_⟩:=I.loc;hn.lt
theorem Inv.sz(I:Inv X pins σ H s):18#7<=1#2:=aB I.ok.above (aV I.lt)
theorem Inv.nofs(I:Inv X pins σ H s)(h:1#2<=a):a∉X.fs:=λhb=>by
 obtain⟨_,o,ho,_⟩:=I.ok.funs.mem hb;exact absurd (ai (aG ho) (aB I.sz h)) (bP _)
theorem Inv.cne(I:Inv X pins σ H s):∀x c,X.env.cells.lookup x=some c->c≠8#2:=λx c e z=>by
 obtain⟨v,o,ho,hd⟩:=I.cell x c e;obtain⟨m,⟨o',es,ep,YI,WT,_⟩,_⟩:=I.loc
 grind
theorem Inv.funs(I:Inv X pins σ H s):s.heap.FunFrames X.base X.outer:=by
 have all:∀(l:List _),(∀b∈frs l,b∈X.fs)->X.s₀.heap.FunFrames X.base l->s.heap.FunFrames X.base l:=by
  intro l
  induction l with
  |nil=>intro _ _;trivial
  | cons env r ih=>
    intro hs hl;obtain⟨hk,⟨L,o,hf,hn,ho,hd⟩,hr⟩:=hl;have hL:=hs L (by unfold frs;simp_all);obtain⟨sl,e⟩:=I.base.slot L o ho (I.ok.frf L hL) hL λz=>I.ok.exfs L z hL;exact⟨hk,⟨L,_,hf,hn,e,hd⟩,ih (λb hb=>hs b (by unfold frs;rw[fE,hf];exact aE _ hb)) hr⟩
 exact all _ (λ_ hb=>hb) I.ok.funs
theorem Inv.stack(I:Inv X pins σ H s):s.heap.FunFrames X.base X.stack:=by
 rcases I.ok.stk with e|⟨e,hf⟩
 .rw[e];exact I.funs
 .rw[e]
  obtain⟨m,hn,_⟩:=I.loc;refine .cons (by rw[I.ok.kind];decide) hf hn ?_ I.funs;exact Heap.get?_none_of_le (aB I.ok.bsz I.ok.above)
theorem Inv.stkSub(I:Inv X pins σ H s):∀b∈frs X.stack,b∈8#2::X.fs:=λb hb=>by
 rcases I.ok.stk with e|⟨e,hf⟩
 .grind
 .rw[e]at hb
  unfold frs at hb;rw[fE,hf]at hb;exact hb
theorem Inv.stkFree(I:Inv X pins σ H s):∀b∈frs X.stack,H b=none:=λb hb=>by
 rcases a7.mp (I.stkSub b hb) with e|hb
 .rw[e];exact I.free
 .obtain⟨_,o,ho,_⟩:=I.ok.funs.mem hb
  exact I.base.free b o ho (I.ok.frf b hb) λz=>I.ok.exfs b z hb
variable{g':Array GenState}{t':Nat}{d':Drawn}
theorem Inv.step{ch:List Addr}(I:Inv X pins σ H s)
  (Yb:∀b∈ch,(b∈X.ex\/18#7<=b)/\b≠8#2/\24#9 /\ ∀p∈X.pn++pins,p.1≠b)
  (keep:∀b o,b≠8#2->b∉X.fs->b∉ch->s.heap.get? b=some o->H b=none->h'.get? b=some o)
  (slot:∀b o,b≠8#2->b∈X.fs->b∉ch->s.heap.get? b=some o->H b=none->∃sl,h'.get? b=some { o with slots:=sl }) (free:∀b o,b∉ch->s.heap.get? b=some o->H b=none->H' b=none)
  (there:∀b o,b∉ch->s.heap.get? b=some o->∃o',h'.get? b=some o')
  (tups:∀b xs,H b=some (.tup xs)->H' b=some (.tup xs)) (frzs:∀b o u,H b=some (.frz o u)->H' b=some (.frz o u)) (tbls:∀b ps,H b=some (.tbl ps)->∃more,H' b=some (.tbl (ps++more)))
  (ns:∀m,s.heap.Ns X.env.locals m->h'.Ns X.env.locals m) (hok:HOk X.prog X.w H' h') (hg:AllBare g'):
  Inv X pins σ H' { s with heap:=h',gens:=g',drawn:=d',toks:=t' }:=by
 have neL:∀b o,X.s₀.heap.get? b=some o->b≠8#2:=λb o e=>aS (ai (aG e) I.ok.above);have neC:∀b o,X.s₀.heap.get? b=some o->b∉X.ex->b∉ch:=λb o e hx hb=>by
  rcases (Yb b hb).1 with z|z
  .exact hx z
  .exact absurd (ai (aG e) z) (bP _)
 have cellK:∀x c,X.env.cells.lookup x=some c->∀v,s.heap.IsCell c v->h'.IsCell c v:=λx c e v ⟨o,ho,hd⟩=>by
  have W1:=λz=>(Yb c z).2.2.1 x c e rfl;by_cases hc:c∈X.fs
  .obtain⟨sl,q⟩:=slot c o (I.cne x c e) hc W1 ho (I.freeC x c e)
   exact⟨_,q,hd⟩
  .exact⟨o,keep c o (I.cne x c e) hc W1 ho (I.freeC x c e),hd⟩
 refine⟨I.ok,I.os,hg,⟨λb o e n hb hx=>?_,λb o e n hb hx=>?_,λb o e n hx=>?_,λb o e hx=>?_,λb xs e=>tups b xs (I.base.tups b xs e),λb o xs e=>frzs b o xs (I.base.frzs b o xs e),λb ps e=>?_⟩,?_,λx c e=>?_,?_,λx c e=>?_,λp hp=>?_,hok,I.len⟩
 .exact keep b o (neL b o e) hb (neC b o e hx) (I.base.keep b o e n hb hx) (I.base.free b o e n hx)
 .obtain⟨sl,e1⟩:=I.base.slot b o e n hb hx
  obtain⟨Ya,e2⟩:=slot b _ (neL b o e) hb (neC b o e hx) e1 (I.base.free b o e n hx);exact⟨_,e2⟩
 .obtain⟨o',e1⟩:=I.base.there b o e hx
  exact free b o' (neC b o e hx) e1 (I.base.free b o e n hx)
 .obtain⟨o',e1⟩:=I.base.there b o e hx
  exact there b o' (neC b o e hx) e1
 .obtain⟨m1,e1⟩:=I.base.tbls b ps e
  grind
 .obtain⟨m,hn,hl⟩:=I.loc
  refine⟨m,ns m hn,λi x v e1 e2 e3=>?_⟩;obtain⟨u,r,l⟩:=hl i x v e1 e2 e3;refine⟨u,r,?_⟩;rcases l with l | ⟨k,c,e,z⟩
  .exact .inl l
  .exact .inr ⟨k,c,e,cellK x c e _ z⟩
 .obtain⟨v,z⟩:=I.cell x c e
  exact⟨v,cellK x c e v z⟩
 .obtain⟨m,⟨o,_,_,ho,_⟩,_⟩:=I.loc
  exact free _ o (λz=>(Yb _ z).2.1 rfl) ho I.free
 .obtain⟨v,o,ho,hd⟩:=I.cell x c e
  exact free c o (λz=>(Yb c z).2.2.1 x c e rfl) ho (I.freeC x c e)
 .obtain⟨e,n,ne,nf,d⟩:=I.pin p hp
  have W1:=λz=>(Yb _ z).2.2.2 p hp rfl;exact⟨keep _ _ ne nf W1 e n,free _ _ W1 e n,ne,nf,d⟩
theorem Inv.un(I:Inv X pins σ H s)(u:Un X.fs [] H H' s.heap h')(hok:HOk X.prog X.w H' h'):Inv X pins σ H' { s with heap:=h',toks:=t' }:=by
 obtain⟨m,⟨o,es,ep,ho,r⟩,_⟩:=id I.loc;obtain⟨sl,hL⟩:=u.any ho I.free 0#6
 exact I.step (ch:= []) (λ_ z=>nomatch z) (λb o _ hb _ e n=>u.keep b o e n hb 0#6) (λb o _ hb _ e n=>u.slot b o e n hb 0#6) (λb o _ e n=>u.free b o e n 0#6) (λb o _ e=>u.there b o e 0#6) u.tups u.frzs u.tbls (λm' hm=>by
  obtain⟨o',es',ep',YI,r'⟩:=hm;rw[ho]at YI;cases YI
  exact⟨_,_,_,hL,r'⟩) hok I.bare
theorem Inv.call{ch:List Addr}(I:Inv X pins σ H s)(u:Un 12#2 ch H H' s.heap h')(hok:HOk X.prog X.w H' h')(hg:AllBare g')
  (Yb:∀b∈ch,(b∈X.ex\/18#7<=b)/\b≠8#2/\24#9 /\ ∀p∈X.pn++pins,p.1≠b):
  Inv X pins σ H' { s with heap:=h',gens:=g',drawn:=d',toks:=t' }:=by
 obtain⟨m,⟨o,es,ep,ho,r⟩,_⟩:=id I.loc;obtain⟨sl,hL⟩:=u.any ho I.free λz=>(Yb _ z).2.1 rfl
 exact I.step Yb (λb o hL hb hc e n=>u.keep b o e n (λz=>(a7.mp (I.stkSub b z)).elim hL hb) hc) (λb o _ _ hc e n=>u.any e n hc) (λb o hc e n=>u.free b o e n hc) (λb o hc e=>u.there b o e hc) u.tups u.frzs u.tbls (λm' hm=>by
  obtain⟨o',es',ep',YI,r'⟩:=hm;rw[ho]at YI;cases YI
  exact⟨_,_,_,hL,r'⟩) hok hg
theorem Inv.turned{it:Addr}(I:Inv X pins σ H s)(k:∀b o,b≠it->s.heap.get? b=some o->h'.get? b=some o)(hn:H it=none)(hL:it≠8#2)
  (h1:it∈X.ex\/18#7<=it) (h2:∀x c,X.env.cells.lookup x=some c->c≠it) (h3:∀p∈X.pn++pins,p.1≠it):Inv X pins σ H { s with heap:=h',toks:=t' }:=by
 refine I.step (ch:= [it]) (λb hb=>?_) (λb o _ _ hc e _=>k b o (λz=>hc (by simp[z])) e) (λb o _ _ hc e _=>⟨_,k b o (λz=>hc (by simp[z])) e⟩) (λ_ _ _ _ n=>n)
  (λb o hc e=>⟨o,k b o (λz=>hc (by simp[z])) e⟩) (λ_ _ e=>e) (λ_ _ _ e=>e) (λb ps e=>⟨#[],by rw[e];simp⟩) (λm hm=>?_) (λb u e=>?_) I.bare
 .have e:=by simpa using hb
  subst e;exact⟨h1,hL,h2,h3⟩
 .obtain⟨o,es,ep,ho,r⟩:=hm
  exact⟨o,es,ep,k _ o (dO hL) ho,r⟩
 .refine(I.hok b u e).stay (λc v hc q=>k c v ?_ q) (λ_ q=>q) λ_ _ q=>q
  grind
theorem Inv.tok(I:Inv X pins σ H s)(t:Nat):Inv X pins σ H { s with toks:=t }:=I.un Un.refl I.hok
theorem Inv.kept{t':Nat}(I:Inv X pins σ H s)(k:∀b u,s.heap.get? b=some u->h'.get? b=some u):Inv X pins σ H { s with heap:=h',toks:=t' }:=I.un (Un.kept k) (I.hok.kept k)
theorem Inv.laid{a:Addr}{o:HO}{t':Nat}(I:Inv X pins σ H s)(k:∀b u,s.heap.get? b=some u->h'.get? b=some u)(hp:1#2<=a)(new:eg X.prog X.w (upd H a o) h' a o):
  Inv X pins σ (upd H a o) { s with heap:=h',toks:=t' }:=I.un (Un.laid k hp (I.hok.fresh hp)) (I.hok.laid k hp new)
theorem Inv.write{x e:Addr}{o:HO}{t':Nat}(I:Inv X pins σ H s)(mu:Mut (H x))(he:e=x\/H e=some (.own x))(k:∀b u,b≠e->s.heap.get? b=some u->h'.get? b=some u)(VP:∃u,h'.get? e=some u)
  (new:eg X.prog X.w (upd H x o) h' x o):Inv X pins σ (upd H x o) { s with heap:=h',toks:=t' }:=I.un (Un.write mu he k VP) (I.hok.write mu he k VP new)
theorem Inv.weak{Y3:List (Option V)}(I:Inv X pins σ H s)(hl:Y3.length=σ.length)(w:∀(i:Nat) v,Y3[i]?=some (some v)->σ[i]?=some (some v)):Inv X pins Y3 H s:=
 ⟨I.ok,I.os,I.bare,I.base,let ⟨m,hn,hl'⟩:=I.loc;⟨m,hn,λi x v e1 e2 e3=>hl' i x v e1 (w i v e2) e3⟩,I.cell,I.free,I.freeC,I.pin,I.hok,hl.trans I.len⟩
theorem Inv.pins_of{pins':List (Addr×Obj)}(I:Inv X pins σ H s)(h:∀p∈pins',s.heap.get? p.1=some p.2/\H p.1=none/\p.1≠8#2/\p.1∉X.fs /\ ∀v,p.2.data≠.cell v):Inv X pins' σ H s:=
 ⟨I.ok,I.os,I.bare,I.base,I.loc,I.cell,I.free,I.freeC,λp hp=>(aY.mp hp).elim (λz=>I.pin p (a9 _ z)) (h p),I.hok,I.len⟩
variable{i:Nat}{x:Str}
theorem vg{N:List Str}(hN:N.Nodup){j:Nat}(a:N[i]?=some x)(b:N[j]?=some x):i=j:=by
 obtain⟨h1,e1⟩:=af.mp a;obtain⟨h2,e2⟩:=af.mp b;exact(List.getElem_inj hN).mp (e1.trans e2.symm)
variable{M:Model}{A:Around}{E:Value->Shared->Prop}{u:Value}{Q:Unit->Shared->Prop}
theorem yr{v:V}(I:Inv X pins σ H s)(hN:X.N.Nodup)(hi:X.N[i]?=some x)(hx:Loc X.env.scope x)(r:RelV v u)
  (h:∀s',Inv X pins (σ.set i (some v)) H s'->(∃a,FV a s.heap s'.heap/\(a=8#2\/X.env.cells.lookup x=some a))->Q () s') (hf:autoParam 22#5 au4._auto_1):aT M A (storeName X.env x u) Q E s:=by
 obtain⟨m,hn,hl⟩:=id I.loc;have Yx:(X.env.scope.kind==.class||(X.env.scope.kind==.module&&8#2 != X.env.globals))=false:=by rw[I.ok.kind];rfl
 have X8:i<σ.length:=by rw[I.len];exact(af.mp hi).1
 have cne:=I.cne;have tracked:∀{a:Addr}{h':Heap},(∃o,s.heap.get? a=some o/\H a=none)->FV a _ h'->HOk _ _ H h':=λ{a h'} ha hs b ob e=>by
  obtain⟨_,_,hfree⟩:=ha;refine(I.hok b ob e).stay (λc w' hc q=>(hs.2 c ?_).trans q) (λ_ q=>q) λ_ _ q=>q
  grind
 rcases hx with hk|hk
 .refine wpAny_storeName_local hk hn (λh' hn' hs=>?_) Yx
  obtain⟨oL,_,_,Yj,_⟩:=id hn;refine h _ ⟨I.ok,I.os,I.bare,⟨λb o e n hb hx=>?_,λb o e n hb hx=>?_,I.base.free,λb o e hx=>?_,I.base.tups,I.base.frzs,I.base.tbls⟩,⟨_,hn',λj y v' e1 e2 e3=>?_⟩,λy c e=>?_,I.free,I.freeC,λp hp=>?_,tracked ⟨oL,Yj,I.free⟩ hs,by simpa using I.len⟩ ⟨_,hs,.inl rfl⟩
  .exact(hs.2 b (aS (ai (aG e) I.ok.above))).trans (I.base.keep b o e n hb hx)
  .obtain⟨sl,e1⟩:=I.base.slot b o e n hb hx
   exact⟨sl,(hs.2 b (aS (ai (aG e) I.ok.above))).trans e1⟩
  .obtain⟨o',e1⟩:=I.base.there b o e hx
   exact⟨o',(hs.2 b (aS (ai (aG e) I.ok.above))).trans e1⟩
  .by_cases hj:j=i
   .subst hj
    rw[hi]at e1;cases e1;rw[aM X8]at e2;cases e2;exact⟨u,r,.inl ⟨hk,by simp⟩⟩
   .rw[aD (dO hj)]at e2
    obtain⟨u',r',q⟩:=hl j y v' e1 e2 e3;refine⟨u',r',?_⟩;rcases q with⟨k,e⟩|⟨k,c,e,z⟩
    .refine .inl ⟨k,?_⟩
     have:y≠x:=λe=>hj (vg hN e1 (e▸hi))<;>simp_all
    .exact .inr ⟨k,c,e,z.sameBut hs (cne y c e)⟩
  .obtain⟨w',z⟩:=I.cell y c e
   exact⟨w',z.sameBut hs (cne y c e)⟩
  .obtain⟨e,n,ne,nf,d⟩:=I.pin p hp
   exact⟨(hs.2 _ ne).trans e,n,ne,nf,d⟩
 .have YZ:X.fn x=true:=by
   grind
  obtain⟨c,hc⟩:=I.ok.has x (.inl hk);obtain⟨w',z⟩:=I.cell x c hc;refine wpAny_storeName_cell I.ok.kind hk hc z (λh' VQ hs=>?_);obtain⟨oc,Zo,hocd⟩:=id z;refine h _ ⟨I.ok,I.os,I.bare,⟨λb o e n hb hx=>?_,λb o e n hb hx=>?_,I.base.free,λb o e hx=>?_,I.base.tups,I.base.frzs,I.base.tbls⟩,⟨m,hn.sameBut hs (dO (cne x c hc)),λj y v' e1 e2 e3=>?_⟩,λy c' e=>?_,I.free,I.freeC,λp hp=>?_,tracked ⟨oc,Zo,I.freeC x c hc⟩ hs,by simpa using I.len⟩ ⟨c,hs,.inr hc⟩
  .exact(hs.2 b (aS (ai (aG e) (I.ok.cab x c YZ hc)))).trans (I.base.keep b o e n hb hx)
  .obtain⟨sl,e1⟩:=I.base.slot b o e n hb hx
   exact⟨sl,(hs.2 b (aS (ai (aG e) (I.ok.cab x c YZ hc)))).trans e1⟩
  .obtain⟨o',e1⟩:=I.base.there b o e hx
   exact⟨o',(hs.2 b (aS (ai (aG e) (I.ok.cab x c YZ hc)))).trans e1⟩
  .by_cases hj:j=i
   .subst hj
    rw[hi]at e1;cases e1;rw[aM X8]at e2;cases e2;exact⟨u,r,.inr ⟨.inl hk,c,hc,VQ⟩⟩
   .rw[aD (dO hj)]at e2
    obtain⟨u',r',q⟩:=hl j y v' e1 e2 e3;refine⟨u',r',?_⟩;rcases q with q|⟨k,c',e,z'⟩
    .exact .inl q
    .refine .inr ⟨k,c',e,z'.sameBut hs ?_⟩
     rintro rfl;exact hj (vg hN e1 (I.ok.inj _ _ _ e hc▸hi))
  .by_cases hcc:c'=c
   .subst hcc;exact⟨_,VQ⟩
   .obtain⟨w2,z2⟩:=I.cell y c' e
    exact⟨w2,z2.sameBut hs hcc⟩
  .obtain⟨e,n,ne,nf,d⟩:=I.pin p hp
   refine⟨(hs.2 _ ?_).trans e,n,ne,nf,d⟩;intro q<;>simp_all
theorem nj{v:V}(I:Inv X pins σ H s)(hN:X.N.Nodup)(hi:X.N[i]?=some x)(hx:Loc X.env.scope x)(r:RelV v u)
  (h:∀s',Inv X pins (σ.set i (some v)) H s'->Q () s') (hf:autoParam 22#5 au4._auto_1):aT M A (storeName X.env x u) Q E s:=
 yr I hN hi hx r (λs' I' _=>h s' I') hf
theorem Inv.call'{s':Shared}{ch:List Addr}(I:Inv X pins σ H s)(ho:s'.os=s.os)(u:Un 12#2 ch H H' s.heap s'.heap)(hok:HOk X.prog X.w H' s'.heap)(hg:AllBare s'.gens)
  (Yb:∀b∈ch,(b∈X.ex\/18#7<=b)/\b≠8#2/\24#9 /\ ∀p∈X.pn++pins,p.1≠b):Inv X pins σ H' s':=by
 obtain⟨h',g',d',t',o'⟩:=s';have e:=ho;subst e;exact I.call u hok hg Yb
end
abbrev XK:=Value->Option Addr->Hp->Prop
abbrev St:=List (Option V)
abbrev VK:=V->Hp->Prop
abbrev TE:=St->Hp->VK->Prop
abbrev TT:=St->Hp->(Bool->Hp->Prop)->Prop
abbrev TA:=St->Hp->(List V->Hp->Prop)->Prop
structure Ends where
 nx:St->Hp->Prop
 rt:VK
 bk:St->Hp->Prop:=λ_ _=>False
 ct:St->Hp->Prop:=λ_ _=>False
abbrev TS:=Ends->St->Hp->Prop
def EP(X:Cx)(pins:List 2#9)(σ:St)(Q:VK)(u:Value)(s':Shared):Prop:= ∃v H',Inv X pins σ H' s'/\RelV v u/\Q v H'
def TP(X:Cx)(pins:List 2#9)(σ:St)(Q:Bool->Hp->Prop)(b:Bool)(s':Shared):Prop:= ∃H',Inv X pins σ H' s'/\Q b H'
def AP(X:Cx)(pins:List 2#9)(σ:St)(Q:List V->Hp->Prop)(us:List Value)(s':Shared):Prop:= ∃vs H',Inv X pins σ H' s'/\cz vs us/\Q vs H'
def SP(X:Cx)(pins:List 2#9)(D:Ends)(f:Flow)(s':Shared):Prop:=
 match f with
 |.next=>∃Y3 H',Inv X pins Y3 H' s'/\D.nx Y3 H'
 |.brk=>∃Y3 H',Inv X pins Y3 H' s'/\D.bk Y3 H'
 |.cont=>∃Y3 H',Inv X pins Y3 H' s'/\D.ct Y3 H'
 |.ret u=>∃v Y3 H',Inv X pins Y3 H' s'/\RelV v u/\D.rt v H'
def PE(X:Cx)(e:Expr)(t:TE):Prop:=
 ∀(pins:List 2#9) (s:Shared) (σ:St) (H:Hp) (Q:VK),Inv X pins σ H s->t σ H Q->aT 1#8 X.A (eval e X.env) 9#2 X.xe s
def PT(X:Cx)(e:Expr)(t:TT):Prop:=
 ∀(pins:List 2#9) (s:Shared) (σ:St) (H:Hp) (Q:Bool->Hp->Prop),Inv X pins σ H s->t σ H Q->aT 1#8 X.A (isTrue e X.env (eval e X.env)) (TP X pins σ Q) X.xe s
def PW(X:Cx)(e:Expr)(t:TT):Prop:=
 ∀(whole:Sem Value) (pins:List 2#9) (s:Shared) (σ:St) (H:Hp) (Q:Bool->Hp->Prop),Inv X pins σ H s->t σ H Q->aT 1#8 X.A (isTrue e X.env whole) (TP X pins σ Q) X.xe s
variable{X:Cx}{e:Expr}
theorem PW.pt{t:TT}(h:PW X e t):PT X e t:=h _
def PA(X:Cx)(es:List Expr)(t:TA):Prop:=
 ∀(pos:Pos) (pins:List 2#9) (s:Shared) (σ:St) (H:Hp) (Q:List V->Hp->Prop),Inv X pins σ H s->t σ H Q->aT 1#8 X.A (spliced (backTo pos 13#1)) (AP X pins σ Q) X.xe s
def PS(X:Cx)(st:Stmt)(t:TS):Prop:=
 ∀(pins:List 2#9) (s:Shared) (σ:St) (H:Hp) (D:Ends),Inv X pins σ H s->t D σ H->aT 1#8 X.A (exec st X.env) (SP X pins D) X.xe s
def PSs(X:Cx)(st:List Stmt)(t:TS):Prop:=
 ∀(pins:List 2#9) (s:Shared) (σ:St) (H:Hp) (D:Ends),Inv X pins σ H s->t D σ H->aT 1#8 X.A (execs st X.env) (SP X pins D) X.xe s
variable{M:Model}{A:Around}{E:Value->Shared->Prop}
theorem thn{α:Type}{t:Sem α}{Q Q':α->Shared->Prop}{s:Shared}(h:aT M A t Q E s)(hQ:∀a s,Q a s->Q' a s):aT M A t Q' E s:=cf h hQ λ_ _ x=>x
section
variable {X:Cx}
def R4(i:Nat):TE:=λσ H Q=>∃v,σ[i]?=some (some v)/\Q v H
def tC(v:V):TE:=λ_ H Q=>Q v H
variable{x:Str}
theorem wC{i:Nat}{pos:Pos}(hN:X.N[i]?=some x)(hv:Vis X.env.scope x)(hd:autoParam (9#1=false) 11#0)(ZC:autoParam (23#3=false) 11#0):PE X (.Name x pos) (R4 i):=by
 intro pins s σ H Q I h;obtain⟨v,e,h⟩:=h;obtain⟨m,hn,hl⟩:=I.loc;obtain⟨u,r,l⟩:=hl i x v hN e hv;have fin:EP X _ σ Q u s:=⟨v,H,I,r,h⟩;rcases l with⟨hk,hm⟩|⟨hk,c,hc,Zk⟩
 .exact wpAny_Name (wpAny_loadName_local I.ok.kind hk hn hm fin) hd
 .rcases hk with hk|hk
  .exact wpAny_Name (wpAny_loadName_cell I.ok.kind hk hc Zk fin) hd
  .exact wpAny_Name (wpAny_loadName_free I.ok.kind hk hc Zk fin ZC) hd
theorem IC{i j pos}:PE X (.Constant 3#0 j pos) (tC 3#0):=λ_ _ _ H _ I h=>wpAny_Constant_int ⟨.int i,H,I.tok _,⟨_,rfl⟩,h⟩
theorem QY{b j pos}:PE X (.Constant (.bool b) j pos) (tC (.bl b)):=λ_ _ _ H _ I h=>Constant_bool ⟨.bl b,H,I,rfl,h⟩
theorem Oz{j pos}:PE X (.Constant .none j pos) (tC .non):=λ_ _ _ H _ I h=>Constant_none ⟨.non,H,I,rfl,h⟩
theorem GO{x j pos}:PE X (.Constant (.str x) j pos) (tC (.str x)):=λ_ _ _ H _ I h=>Calls.Constant_str ⟨.str x,H,I.tok _,⟨_,rfl⟩,h⟩
def Gl(X:Cx)(x:Str):Prop:=X.env.kindOf x=some .globalImplicit
variable{pins:List (Addr×Obj)}{s:Shared}{σ:St}{u:Value}{Q:Value->Shared->Prop}
theorem kn{pos:Pos}(I:Inv X pins σ H s)(hg:Gl X x)(hm:X.mg x=some u)(h:Q u s)
  (hd:autoParam (9#1=false) 11#0):aT 1#8 X.A (eval (.Name x pos) X.env) Q E s:=
 Bj I.ok.kind hg (Calls.loadGlobal_global (by rw[I.ok.glob];exact I.mod.glob.keeps I.bk) hm h) hd
theorem kX{pos:Pos}(I:Inv X pins σ H s)(hg:Gl X x)(hm:X.mg x=none)(hv:bootBuiltins x=some u)(h:Q u s)
  (hn:autoParam (x≠"__name__") 11#0) (hd:autoParam (9#1=false) 11#0):aT 1#8 X.A (eval (.Name x pos) X.env) Q E s:=by
 obtain⟨mb,h1,h2⟩:=I.mod.blt;exact Bj I.ok.kind hg (Calls.loadGlobal_builtin (by rw[I.ok.glob];exact I.mod.glob.keeps I.bk) hm (by rw[I.ok.blt];exact h1.keeps I.bk) ((h2 x hn).trans hv) h) hd
theorem Ki{v:V}{pos:Pos}(hg:Gl X x)(hm:X.mg x=some u)(r:RelV v u)(hd:autoParam (9#1=false) 11#0):PE X (.Name x pos) (tC v):=
 λ_ _ _ H _ I h=>kn I hg hm ⟨v,H,I,r,h⟩ hd
theorem Lf{v:V}{pos:Pos}(hg:Gl X x)(hm:X.mg x=none)(hv:bootBuiltins x=some u)(r:RelV v u)(hn:autoParam (x≠"__name__") 11#0)(hd:autoParam (9#1=false) 11#0):PE X (.Name x pos) (tC v):=
 λ_ _ _ H _ I h=>kX I hg hm hv ⟨v,H,I,r,h⟩ hn hd
variable {a b:Expr}{ta tb:TE}{pos:Pos}
def tB(t:TE):TT:=λσ H Q=>t σ H λx H1=>∃c,x=.bl c/\Q c H1
theorem OF{t:TE}(h:PE X e t)(he:autoParam (∀whole,isTrue e X.env whole=(do let v <- whole;standAt e.pos;holding [v] (truthy v))) 17#4):PT X e (tB t):=by
 intro pins s σ H Q I hw;refine isTrue_plain (thn (h _ s σ H _ I hw) λv s1 ⟨x,H1,I1,r1,q1⟩=>?_) (he _);obtain⟨d,rfl,q⟩:=q1;cases r1;exact d5 ⟨H1,I1,q⟩
variable {tA VF:TT}{rest:List Expr}
def Ui(t u:TT):TT:=λσ H Q=>t σ H λc H1=>if c=true then u σ H1 Q else Q false H1
def tOr(t u:TT):TT:=λσ H Q=>t σ H λc H1=>if c=true then Q true H1 else u σ H1 Q
def SR(t:TT):TT:=λσ H Q=>t σ H λc H1=>Q (!c) H1
theorem Le(ha:PT X a tA):PW X (.BoolOp .And [a] pos) tA:=by
 intro wh pins s σ H Q I h;refine isTrue_and (thn (ha _ s σ H Q I h) λc s1 e=>?_);cases c with
 |true=>exact isTrue_and_nil e
 |false=>exact e
theorem Nv(ha:PT X a tA):PW X (.BoolOp .Or [a] pos) tA:=by
 intro wh pins s σ H Q I h;refine isTrue_or (thn (ha _ s σ H Q I h) λc s1 e=>?_);cases c with
 |false=>exact isTrue_or_nil e
 |true=>exact e
theorem OW(ha:PT X a tA)(hb:PW X (.BoolOp .And (b::rest) pos) VF):PW X (.BoolOp .And (a::b::rest) pos) (Ui tA VF):=by
 intro wh pins s σ H Q I h;refine isTrue_and (thn 11#9 λc s1 ⟨H1,I1,q1⟩=>?_);cases c with
 |true=>exact hb wh _ s1 σ H1 Q I1 q1
 |false=>exact⟨H1,I1,q1⟩
theorem SO(ha:PT X a tA)(hb:PW X (.BoolOp .Or (b::rest) pos) VF):PW X (.BoolOp .Or (a::b::rest) pos) (tOr tA VF):=by
 intro wh pins s σ H Q I h;refine isTrue_or (thn 11#9 λc s1 ⟨H1,I1,q1⟩=>?_);cases c with
 |true=>exact⟨H1,I1,q1⟩
 |false=>exact hb wh _ s1 σ H1 Q I1 q1
theorem PJ(ha:PT X a tA):PT X (.UnaryOp .Not a pos) (SR tA):=by
 intro pins s σ H Q I h;exact isTrue_not 11#9
def Mk(ta tb:TE):TE:=λσ H Q=>ta σ H λx H1=>∃c,x=.bl c/\if c=true then tb σ H1 Q else Q (.bl false) H1
def Sg(ta tb:TE):TE:=λσ H Q=>ta σ H λx H1=>∃c,x=.bl c/\if c=true then Q (.bl true) H1 else tb σ H1 Q
def Mz(ta:TE):TE:=λσ H Q=>ta σ H λx H1=>∃c,x=.bl c/\Q (.bl (!c)) H1
theorem Pj{op}{t:TE}(h:PE X a t):PE X (.BoolOp op [a] pos) t:=λpins s σ H Q I hw=>BoolOp_one (h _ s σ H Q I hw)
theorem Px(ha:PE X a ta)(hb:PE X (.BoolOp .And (b::rest) pos) tb):PE X (.BoolOp .And (a::b::rest) pos) (Mk ta tb):=by
 intro pins s σ H Q I h;refine BoolOp_and (thn 11#9 λv s1 ⟨x,H1,I1,r1,q1⟩=>?_);obtain⟨c,rfl,q1⟩:=q1;cases r1;refine d5 ?_;cases c with
 |true=>exact hb _ s1 σ H1 Q I1 q1
 |false=>exact⟨.bl _,H1,I1,rfl,q1⟩
theorem Ro(ha:PE X a ta)(hb:PE X (.BoolOp .Or (b::rest) pos) tb):PE X (.BoolOp .Or (a::b::rest) pos) (Sg ta tb):=by
 intro pins s σ H Q I h;refine BoolOp_or (thn 11#9 λv s1 ⟨x,H1,I1,r1,q1⟩=>?_);obtain⟨c,rfl,q1⟩:=q1;cases r1;refine d5 ?_;cases c with
 |false=>exact hb _ s1 σ H1 Q I1 q1
 |true=>exact⟨.bl _,H1,I1,rfl,q1⟩
theorem OX(ha:PE X a ta):PE X (.UnaryOp .Not a pos) (Mz ta):=by
 intro pins s σ H Q I h;refine UnaryOp_ (thn 11#9 λv s1 ⟨x,H1,I1,r1,q1⟩=>?_);obtain⟨c,rfl,q1⟩:=q1;cases r1;exact not_of (d5 ⟨.bl _,H1,I1,rfl,q1⟩)
def tIf(t:TT)(ta tb:TE):TE:=λσ H Q=>t σ H λc H1=>if c=true then ta σ H1 Q else tb σ H1 Q
theorem HB{c:Expr}(hc:PT X c tA)(ha:PE X a ta)(hb:PE X b tb):PE X (.IfExp c a b pos) (tIf tA ta tb):=by
 intro pins s σ H Q I h;refine wpAny_IfExp (thn (hc _ s σ H _ I h) λd s1 ⟨H1,I1,q1⟩=>?_);cases d with
 |true=>exact ha _ s1 σ H1 Q I1 q1
 |false=>exact hb _ s1 σ H1 Q I1 q1
end
def SqL(K:ao)(H:Hp)(a:Addr)(xs:List V):Prop:=
 Rd H a 8#8 \/
  ∃ (o:Obj) (ZZ:Array Value) (n:Nat),K.lookup a=some o/\o.cls=.type "list"/\o.dict=none/\o.data=.seq ZZ n/\ZZ.size<=sizeLine/\cz xs ZZ.toList
def SqT(K:ao)(H:Hp)(a:Addr)(xs:List V):Prop:=
 Rd H a (.tup xs) \/
  ∃ (o:Obj) (ZZ:Array Value) (n:Nat),K.lookup a=some o/\o.cls=.type "tuple"/\o.data=.seq ZZ n/\ZZ.size<=sizeLine/\cz xs ZZ.toList
def Uu:Value->Option V
 |.none=>some .non
 |.bool b=>some (.bl b)
 |.int i _=>some 3#0
 |.str x _=>some (.str x)
 |.bytes b _=>some (.byt b)
 |.float b _=>some (.flt b)
 |.ref a=>some (.ref a)
 |.type n=>some (.ty n)
 |_=>none
variable{u:Value}{x:V}
theorem RelV.abs(r:RelV x u):Uu u=some x:=by
 cases x with
 |non=>cases r;rfl
 |bl _=>cases r;rfl
 |int _=>obtain⟨t,rfl⟩:=r;rfl
 |str _=>obtain⟨t,rfl⟩:=r;rfl
 |byt _=>obtain⟨t,rfl⟩:=r;rfl
 |flt _=>obtain⟨t,rfl⟩:=r;rfl
 |ref _=>cases r;rfl
 |ty _=>cases r;rfl
theorem RelV.inj{y:V}(r:RelV x u)(q:RelV y u):x=y:=dJ (r.abs.symm.trans q.abs)
theorem cz.inj:∀{xs ys:List V}{us:List Value},cz xs us->cz ys us->xs=ys:=by
 intro xs ys us h
 induction h generalizing ys with
 |nil=>intro q;cases q;rfl
 |cons r t ih=>intro q;cases q with |cons r' t'=>rw[r.inj r',ih t']
section
variable {X:Cx}{pins:List (Addr×Obj)}{σ:St}{H:Hp}{s:Shared}{a:Addr}{xs ys:List V}
theorem SqL.of{K:ao}(h:H a=some 8#8):SqL K H a xs:= .inl (.inl h)
theorem Inv.list(I:Inv X pins σ H s)(h:SqL X.K H a xs):∃ZZ:List Value,cz xs ZZ/\PlainL s.heap a ZZ.toArray/\1#5<=sizeLine:=by
 rcases h with h|⟨o,ZZ,n,hk,hc,hd,hs,hz,r⟩
 .obtain⟨z,ZZ,n,r,e⟩:=h.ok I.hok
  exact⟨_,r,⟨_,n,e,rfl,rfl,rfl⟩,z⟩
 .refine⟨_,r,⟨o,n,I.kIn a o hk,hc,hd,by omega⟩,?_⟩
  have e:=r.length
  grind
theorem Inv.tuple(I:Inv X pins σ H s)(h:SqT X.K H a xs):∃ZZ:List Value,cz xs ZZ/\IsTup s.heap a ZZ.toArray/\1#5<=sizeLine:=by
 rcases h with h|⟨o,ZZ,n,hk,hc,hs,hz,r⟩
 .obtain⟨z,ZZ,r,p⟩:=h.ok I.hok
  exact⟨_,r,p.1,z⟩
 .refine⟨_,r,⟨o,I.kIn a o hk,hc,n,by omega⟩,?_⟩
  have e:=r.length
  simp_all
theorem Inv.list_inj(I:Inv X pins σ H s)(h:SqL X.K H a xs)(h':SqL X.K H a ys):xs=ys:=by
 obtain⟨ZZ,r,⟨o,n,e,_,_,d⟩,_⟩:=I.list h;obtain⟨Zp,r',⟨o',n',e',_,_,d'⟩,_⟩:=I.list h';have:ZZ=Zp:=by grind
 subst this;exact r.inj r'
theorem Inv.tuple_inj(I:Inv X pins σ H s)(h:SqT X.K H a xs)(h':SqT X.K H a ys):xs=ys:=by
 obtain⟨ZZ,r,⟨o,e,_,n,d⟩,_⟩:=I.tuple h;obtain⟨Zp,r',⟨o',e',_,n',d'⟩,_⟩:=I.tuple h';have:ZZ=Zp:=by grind
 subst this;exact r.inj r'
end
abbrev Cx.wish(X:Cx)(E:Value->Shared->Prop):Cx:={ X with xe:=E }
abbrev Cx.nox(X:Cx):Cx:=X.wish λ_ _=>False
theorem Cx.Ok.wish(ok:X.Ok)(E:Value->Shared->Prop):(X.wish E).Ok:=
 ⟨ok.mod,ok.kind,ok.glob,ok.blt,ok.above,ok.inj,ok.has,ok.cab,ok.hd,ok.frames,ok.stk,ok.exf,ok.bs,ok.bsz,ok.noex,ok.exfs,ok.funs,ok.frf⟩
theorem Cx.Ok.unwish(ok:(X.wish E).Ok):X.Ok:=
 ⟨ok.mod,ok.kind,ok.glob,ok.blt,ok.above,ok.inj,ok.has,ok.cab,ok.hd,ok.frames,ok.stk,ok.exf,ok.bs,ok.bsz,ok.noex,ok.exfs,ok.funs,ok.frf⟩
section
variable {X:Cx}{pins:List (Addr×Obj)}{σ:St}{H:Hp}{s:Shared}{E:Value->Shared->Prop}
theorem Inv.wish(I:Inv X pins σ H s)(E:Value->Shared->Prop):Inv (X.wish E) pins σ H s:=⟨I.ok.wish E,I.os,I.bare,I.base,I.loc,I.cell,I.free,I.freeC,I.pin,I.hok,I.len⟩
theorem Inv.unwish(I:Inv (X.wish E) pins σ H s):Inv X pins σ H s:=⟨I.ok.unwish,I.os,I.bare,I.base,I.loc,I.cell,I.free,I.freeC,I.pin,I.hok,I.len⟩
theorem SP.unwish{D:Ends}{f:Flow}{s':Shared}(h:SP (X.wish E) pins D f s'):SP X pins D f s':=by
 cases f with
 |next=>obtain⟨Y3,H',I,q⟩:=h;exact⟨_,H',I.unwish,q⟩
 |brk=>obtain⟨Y3,H',I,q⟩:=h;exact⟨_,H',I.unwish,q⟩
 |cont=>obtain⟨Y3,H',I,q⟩:=h;exact⟨_,H',I.unwish,q⟩
 |ret u=>obtain⟨v,Y3,H',I,r,q⟩:=h;exact⟨v,_,H',I.unwish,r,q⟩
theorem PE.nox{t:TE}(h:PE X.nox e t):PE X e t:=λpins s σ H Q I hw=>
 cf (h _ s σ H Q (I.wish _) hw) (λ_ _ ⟨v,H',I',r,q⟩=>⟨v,H',I'.unwish,r,q⟩) λ_ _ z=>ck z
theorem PT.nox{t:TT}(h:PT X.nox e t):PT X e t:=λpins s σ H Q I hw=>
 cf (h _ s σ H Q (I.wish _) hw) (λ_ _ ⟨H',I',q⟩=>⟨H',I'.unwish,q⟩) λ_ _ z=>ck z
theorem PSs.nox{st:List Stmt}{t:TS}(h:PSs X.nox st t):PSs X st t:=λpins s σ H D I hw=>
 cf (h _ s σ H D (I.wish _) hw) (λ_ _ q=>q.unwish) λ_ _ z=>ck z
end
section
variable {X:Cx}{st:Stmt}{rest:List Stmt}{t u:TS}{e:Expr}{te:TE}{pos:Pos}
def G7:TS:=λD σ H=>D.nx σ H
def R7(t u:TS):TS:=λD σ H=>t { D with nx:=u D } σ H
theorem KJ:PSs X [] G7:=λ_ _ σ H _ I h=>jj ⟨σ,H,I,h⟩
theorem m7(h1:PS X st t)(h2:PSs X rest u):PSs X (st::rest) (R7 t u):=by
 intro pins s σ H D I h;refine CJ (thn (h1 _ s σ H _ I h) λf s1 q=>?_);cases f with
 | next=>
   obtain⟨Y3,H',I',q⟩:=q;exact h2 _ s1 _ H' D I' q
 |ret v=>exact q
 |brk=>exact q
 |cont=>exact q
theorem CM(h1:PS X st t):PSs X [st] t:=by
 intro pins s σ H D I h;refine CJ (thn (h1 _ s σ H D I h) λf s1 q=>?_);cases f with
 |next=>exact jj q
 |ret v=>omega
 |brk=>omega
 |cont=>omega
def Nz:TS:=λD σ H=>D.bk σ H
def QP:TS:=λD σ H=>D.ct σ H
theorem J3:PS X (.Pass pos) G7:=λ_ _ σ H _ I h=>wpAny_Pass ⟨σ,H,I,h⟩
theorem HL:PS X (.Break pos) Nz:=λ_ _ σ H _ I h=>wpAny_Break ⟨σ,H,I,h⟩
theorem AH:PS X (.Continue pos) QP:=λ_ _ σ H _ I h=>wpAny_Continue ⟨σ,H,I,h⟩
theorem Inv.quiet{pins:List (Addr×Obj)}{σ:St}{s:Shared}(I:Inv X pins σ H s):interactive X.env=false:=by simp[interactive,I.ok.kind]
def M6(te:TE):TS:=λD σ H=>te σ H λ_ H1=>D.nx σ H1
theorem DM(he:PE X e te)(hs:autoParam (swapsWith e none pos.line X.env=pure false) 2#0):PS X (.Expr e pos) (M6 te):=by
 intro pins s σ H D I h;exact wpAny_Expr_any (thn (he _ s σ H _ I h) λv s1 ⟨x,H1,I1,r1,q1⟩=>⟨σ,H1,I1,q1⟩) I.quiet hs
def TV(te:TE):TS:=λD σ H=>te σ H D.rt
theorem IX(he:PE X e te):PS X (.Return (some e) pos) (TV te):=by
 intro pins s σ H D I h;exact wpAny_Return_some (thn (he _ s σ H _ I h) λv s1 ⟨x,H1,I1,r1,q1⟩=>⟨x,σ,H1,I1,r1,q1⟩)
def To:TS:=λD _ H=>D.rt .non H
theorem Lm:PS X (.Return none pos) To:=λ_ _ σ H _ I h=>wpAny_Return_none ⟨.non,σ,H,I,rfl,h⟩
def QW(c:TT)(t u:TS):TS:=λD σ H=>c σ H λb H1=>if b=true then t D σ H1 else u D σ H1
theorem Na{c:Expr}{a b:List Stmt}{tc:TT}(hc:PT X c tc)(ha:PSs X a t)(hb:PSs X b u):PS X (.If c a b pos) (QW tc t u):=by
 intro pins s σ H D I h;refine wpAny_If (thn (hc _ s σ H _ I h) λd s1 ⟨H1,I1,q1⟩=>?_);cases d with
 |true=>exact ha _ s1 σ H1 D I1 q1
 |false=>exact hb _ s1 σ H1 D I1 q1
end
abbrev TG:=V->St->Hp->(St->Hp->Prop)->Prop
abbrev TGs:=List V->St->Hp->(St->Hp->Prop)->Prop
def PG(X:Cx)(target:Expr)(t:TG):Prop:=
 ∀(pins:List 2#9) (s:Shared) (σ:St) (H:Hp) (v:V) (u:Value) (Q:St->Hp->Prop),Inv X pins σ H s->RelV v u->t v σ H Q ->
  aT 1#8 X.A (assign target X.env u) (λ_ s'=>∃Y3 H',Inv X pins Y3 H' s'/\Q Y3 H') X.xe s
def PGs(X:Cx)(ts:List Expr)(t:TGs):Prop:=
 ∀(pins:List 2#9) (s:Shared) (σ:St) (H:Hp) (vs:List V) (us:List Value) (Q:St->Hp->Prop),Inv X pins σ H s->cz vs us->t vs σ H Q ->
  aT 1#8 X.A (assignInOrder ((assignEach ts X.env).map (·.2)) us) (λ_ s'=>∃Y3 H',Inv X pins Y3 H' s'/\Q Y3 H') X.xe s
abbrev HZ:=V->V->V->Hp->(Hp->Prop)->Prop
def NP(X:Cx)(t:HZ):Prop:=
 ∀(pins:List 2#9) (s:Shared) (σ:St) (H:Hp) (o i v:V) (ov iv u:Value) (Q:Hp->Prop),Inv X pins σ H s->RelV o ov->RelV i iv->RelV v u->t o i v H Q ->
  aT 1#8 X.A (setItem ov iv u) (λ_ s'=>∃H',Inv X pins σ H' s'/\Q H') X.xe s
section
variable {X:Cx}{pos:Pos}
def kC(i:Nat):TG:=λv σ H Q=>Q (σ.set i (some v)) H
variable{i:Nat}
theorem CY{x:Str}(hN:X.N.Nodup)(hi:X.N[i]?=some x)(hx:Loc X.env.scope x)(hf:autoParam 22#5 au4._auto_1):PG X (.Name x pos) (kC i):=by
 intro pins s σ H v u Q I r h;exact oY (nj I hN hi hx r (λs' I'=>⟨_,H,I',h⟩) hf)
def QX:TGs:=λvs σ H Q=>vs=[]/\Q σ H
def M5(t:TG)(u:TGs):TGs:=λvs σ H Q=>∃v r,vs=v::r/\t v σ H λY3 H'=>u r Y3 H' Q
theorem LM:PGs X [] QX:=by
 intro pins s σ H vs us Q I r h;obtain⟨e,h⟩:=h;exact assignInOrder_nil ⟨σ,H,I,h⟩
variable{es:List Expr}
theorem IP{t:TG}{u:TGs}(h1:PG X e t)(h2:PGs X es u)
  (hs:autoParam ((assignEach 2#5 X.env).map (·.2)=assign e X.env::(assignEach es X.env).map (·.2)) 2#0):PGs X 2#5 (M5 t u):=by
 intro pins s σ H vs us Q I r h;obtain⟨v,vr,e1,h⟩:=h;subst e1;cases r with
 | cons r rr=>
   rw[hs];refine assignInOrder_cons (thn (h1 _ s σ H _ _ _ I r h) λ_ s1 ⟨_,H1,I1,q1⟩=>?_);exact h2 _ s1 _ H1 _ _ Q I1 rr q1
def R8(K:ao)(n:Nat)(t:TGs):TG:=λv σ H Q=>∃a xs,v=.ref a/\SqT K H a xs/\1#5=n/\t xs σ H Q
theorem Pa{k:Nat}{t:TGs}{n:Nat}(hc:X.calm=true)(h:PGs X es t)
  (hn:autoParam ((assignEach es X.env).length=n) 2#0) (ZQ:autoParam ((assignEach es X.env).findIdx? (·.1)=none) 2#0):PG X (.Tuple es k pos) (R8 X.K n t):=by
 intro pins s σ H v u Q I r hw;obtain⟨a,xs,e1,hq,hl,hw⟩:=hw;subst e1;cases r;obtain⟨ZZ,rv,ht,hz⟩:=I.tuple hq;refine assign_Tuple_tuple 11#6 ht (by simp[hn,<-hl,rv.length]) ZQ λh' hx=>?_;have I1:=I.kept (t':=s.toks) λb o e=>hx b o (aS (aG e)) e;exact h _ _ σ H xs _ Q I1 0#2 hw
def QJ(to ti:TE)(t:HZ):TG:=λv σ H Q=>to σ H λo H1=>ti σ H1 λi H2=>t o i v H2 λH3=>Q σ H3
theorem OY{o i:Expr}{to ti:TE}{t:HZ}(ho:PE X o to)(hi:PE X i ti)(hs:NP X t)
  (ha:autoParam (∀v,assign (.Subscript o i pos) X.env v=(do
   let ov <- holding [v] (eval o X.env)
   let iv <- holding [v,ov] (eval i X.env)
   standAt pos
   holding [v,ov,iv] (setItem ov iv v)
   release [v,ov,iv] [])) au3._auto_1):PG X (.Subscript o i pos) (QJ to ti t):=by
 intro pins s σ H v u Q I r h;rw[ha];refine ax (fL (thn (ho _ s σ H _ I h) λov s1 ⟨x,H1,I1,r1,q1⟩=>?_));refine ax (fL (thn (hi _ s1 σ H1 _ I1 q1) λiv s2 ⟨y,H2,I2,r2,q2⟩=>?_));refine ax (wpAny_standAt (ax (fL (thn (hs _ s2 σ H2 x y v ov iv u _ I2 r1 r2 r q2) λ_ s3 ⟨H3,I3,q3⟩=>?_))));exact wpAny_release ⟨σ,H3,I3,q3⟩
def E3(te:TE)(g:TG):TS:=λD σ H=>te σ H λx H1=>g x σ H1 D.nx
variable{te:TE}
theorem HN{tg:Expr}{g:TG}(he:PE X e te)(hg:PG X tg g)(hs:autoParam (swapsWithSole [tg] e pos.line X.env=pure false) 2#0)(hw:autoParam (swappedStores [tg] e X.env=pure none) 2#0)
  (h1:autoParam ((assignEach [tg] X.env).map (·.2)=[assign tg X.env]) 2#0):PS X (.Assign [tg] e pos) (E3 te g):=by
 intro pins s σ H D I h;refine wpAny_Assign_stores (thn (he _ s σ H _ I h) λv s1 ⟨x,H1,I1,r1,q1⟩=>?_) hs hw;rw[h1];exact thn (hg _ s1 σ H1 x v _ I1 r1 q1) λ_ s2 q=>q
theorem BI{x:Str}{pos':Pos}(hN:X.N.Nodup)(hi:X.N[i]?=some x)(hx:Loc X.env.scope x)(he:PE X e te)(hs:autoParam (swapsWith e (some (.Name x pos')) pos.line X.env=pure false) 2#0)(hf:autoParam 22#5 au4._auto_1):
  PS X (.Assign [.Name x pos'] e pos) (E3 te (kC i)):=by
 intro pins s σ H D I h;refine wpAny_Assign_Name (thn (he _ s σ H _ I h) λv s1 ⟨y,H1,I1,r1,q1⟩=>?_) hs;exact nj I1 hN hi hx r1 (λs2 I2=>⟨_,H1,I2,q1⟩) hf
end
section
variable {X:Cx}{pos:Pos}
def H9(c:TT)(tb:TS):TS:=λD σ H=>∃W:Nat->St->Hp->Prop,(∃m,W m σ H) /\ ∀m σ H,W m σ H ->
 c σ H λb H1=>if b=true then ∃N:St->Hp->Prop,(∀Y3 H',N Y3 H'->∃m',m'<m/\W m' Y3 H')/\tb { D with nx:=N,ct:=N,bk:=D.nx } σ H1 else D.nx σ H1
theorem Hx{c:Expr}{body:List Stmt}{tc:TT}{tb:TS}(hp:PassesOwn 1#8 X.A X.env X.xe)(hc:PT X c tc)(hb:PSs X body tb):PS X (.While c body [] pos) (H9 tc tb):=by
 intro pins s σ H D I h;obtain⟨W,⟨m0,w0⟩,turn⟩:=h;refine wpAny_While (codeAny_whileLoop (λn s'=>∃Y3 H',Inv X _ Y3 H' s'/\W n Y3 H') ?_ m0 ⟨σ,H,I,w0⟩);rintro n s1 ⟨Y6,H1,I1,w1⟩;refine g8 hp (thn (hc _ s1 _ H1 _ I1 (turn n _ H1 w1)) λb s2 ⟨H2,I2,q2⟩=>?_);cases b with
 | true=>
   obtain⟨N,hN,q2⟩:=q2;refine g8 hp (thn (hb _ s2 _ H2 _ I2 q2) λf s3 q3=>?_);cases f with
   | next=>
     obtain⟨X6,H3,I3,n3⟩:=q3;obtain⟨m',hm,w3⟩:=hN _ H3 n3;exact⟨m',hm,_,H3,I3,w3⟩
   | cont=>
     obtain⟨X6,H3,I3,n3⟩:=q3;obtain⟨m',hm,w3⟩:=hN _ H3 n3;exact⟨m',hm,_,H3,I3,w3⟩
   |brk=>exact q3
   |ret v=>exact q3
 | false=>
   exact jj ⟨_,H2,I2,q2⟩
end
structure It where
 go:Nat->Hp->Prop
 yld:Nat->Hp->V->Hp->Prop
 stop:Nat->Hp->Prop
def wR(X:Cx)(pins:List 2#9)(H:Hp)(b:Addr):Prop:=
 H b=none/\b≠8#2/\b∉X.fs/\(b∈X.ex\/18#7<=b)/\24#9 /\ ∀p∈X.pn++pins,p.1≠b
variable{pins:List (Addr×Obj)}{s:Shared}{σ:St}
theorem Inv.fpOk{H':Hp}(I:Inv X pins σ H s)(hb:1#2<=b)(hn:H' b=none):wR X pins H' b:=by
 refine⟨hn,cJ (ai I.lt hb),I.nofs hb,.inr (aB I.sz hb),λx c e z=>?_,λp hp z=>?_⟩
 .obtain⟨v,q⟩:=I.cell x c e
  exact absurd (ai q.lt (by rw[z];omega)) (bP _)
 .exact absurd (ai (aG (I.pin p hp).1) (by rw[z];omega)) (bP _)
structure Turn(P:Program)(w:World)(K:ao)(tg:Expr)(J:It)(fp:List Addr)(it:Addr)(tn:Nat->Heap->Prop):Prop where
 mem:it∈fp
 obj:∀i h,tn i h->∀b∈fp,∃o,h.get? b=some o /\ ∀v,o.data≠.cell v
 keep:∀i h h',tn i h->(∀b∈fp,∀o,h.get? b=some o->h'.get? b=some o)->tn i h'
 item:∀(X:Cx),X.prog=P->X.w=w->X.K=K->X.calm=true->∀(i:Nat) (pins:List (Addr×Obj)) (s:Shared) (σ:St) (H:Hp) (E:Value->Shared->Prop),Inv X pins σ H s->(∀b∈fp,wR X pins H b)->tn i s.heap->J.go i H ->
  aT (model P w) X.A (pyNext (.ref it)) (λr s1 =>∃u,r=some u /\
   aT (model P w) X.A (letOwnedTupleGo tg (.ref it) u) (λ_ s2 =>∃x H',Inv X pins σ H' s2/\RelV x u/\J.yld i H x H'/\tn (i+1) s2.heap /\ ∀b∈fp,H' b=none) E s1) E s
 done:∀(X:Cx),X.prog=P->X.w=w->X.K=K->X.calm=true->∀(i:Nat) (pins:List (Addr×Obj)) (s:Shared) (σ:St) (H:Hp) (E:Value->Shared->Prop),Inv X pins σ H s->(∀b∈fp,wR X pins H b)->tn i s.heap->J.stop i H ->
  aT (model P w) X.A (pyNext (.ref it)) (λr s1=>r=none/\Inv X pins σ H s1) E s
 self:∀(A:Around) (i:Nat) (s:Shared) (Q:Value->Shared->Prop) (E:Value->Shared->Prop),tn i s.heap->Q (.ref it) s->aT (model P w) A (pyIter (.ref it)) Q E s
abbrev TI:=St->Hp->(It->Hp->Prop)->Prop
def PIE(X:Cx)(pins:List 2#9)(σ:St)(tg:Expr)(R:It->Hp->Prop)(itv:Value)(s2:Shared):Prop:=
 ∃(it:Addr) (fp:List Addr) (tn:Nat->Heap->Prop) (J:It) (H':Hp),itv=.ref it/\Inv X pins σ H' s2/\Turn X.prog X.w X.K tg J fp it tn/\tn 0 s2.heap/\(∀b∈fp,wR X pins H' b)/\R J H'
def PI(X:Cx)(tg iter:Expr)(wi:TI):Prop:=
 ∀(pins:List 2#9) (s:Shared) (σ:St) (H:Hp) (R:It->Hp->Prop),Inv X pins σ H s->wi σ H R ->
  aT 1#8 X.A (eval iter X.env) (λv s1=>aT 1#8 X.A (pyIter v) (PIE X pins σ tg R) X.xe s1) X.xe s
variable{tg:Expr}
theorem Gz{it:Addr}{n:String}{vs:Array Value}{Q:Unit->Shared->Prop}(ho:s.heap.get? it=some o)(hc:o.cls=.type n)(hd:o.data=.fields vs)
  (hn : ["enumerate","zip","dict_itemiterator","dict_reverseitemiterator","odict_iterator","itertools.zip_longest","itertools.pairwise"].contains n=false) (hQ:Q () s):aT M A (letOwnedTupleGo tg (.ref it) u) Q E s:=by
 cases tg<;>first
  |exact aJ hQ
  | (cases u <;> first
    |exact aJ hQ
    | (refine ax (Jz ho ?_)
       rw[hc,hd];show aT M A (if (["enumerate","zip","dict_itemiterator","dict_reverseitemiterator","odict_iterator","itertools.zip_longest","itertools.pairwise"].contains n&&vs[0]? == some _)=true then _ else _) Q E s;rw[if_neg (by grind)]
       exact aJ hQ))
def Itl(K:ao)(a:Addr):It:=
 ⟨λi H=>∃xs x,SqL K H a xs/\xs[i]?=some x,λi H x H'=>H'=H /\ ∀xs,SqL K H a xs->xs[i]?=some x,λi H=>∃xs,SqL K H a xs/\1#5<=i⟩
def Itt(K:ao)(a:Addr):It:=
 ⟨λi H=>∃xs x,SqT K H a xs/\xs[i]?=some x,λi H x H'=>H'=H /\ ∀xs,SqT K H a xs->xs[i]?=some x,λi H=>∃xs,SqT K H a xs/\1#5<=i⟩
def Itr(lo:Int)(n:Nat):It:=⟨λi _=>i<n,λi H x H'=>H'=H/\x=.int (lo+i),λi _=>n<=i⟩
variable{K:ao}
theorem FB(a it:Addr):Turn P w K tg (Itl K a) [it] it (λi h=>h.IsListIter it a i) where
 mem:=by simp
 obj:=λi h st b hb=>by
  have e:=by simpa using hb
  obtain⟨o,e,c,d⟩:=st
  simp_all
 keep:=λi h h' st k=>st.at λo e=>k it 0#6 o e
 item:=by
  intro X hP hw hK hc i pins s σ H E I hf st hg;subst hP hw hK;obtain⟨xs,x,hq,hx⟩:=hg;obtain⟨ZZ,rv,p,hz⟩:=I.list hq;obtain⟨u,hu,ru⟩:=rv.get hx;obtain⟨f0,f1,f2,f3,f4,f5⟩:=hf it 0#6;refine wpAny_pyNext_list_item st p.isList (by simpa using hu) λh' XB sb=>?_;have I1:=I.turned (t':=s.toks) (λb o hb e=>(sb.2 b hb).trans e) f0 f1 f3 f4 f5;obtain⟨o,e,c,d⟩:=id XB;exact⟨u,rfl,Gz e c d 0#1 ⟨x,H,I1,ru,⟨rfl,λys hy=>by rw[I.list_inj hy hq];omega⟩,XB,λb hb=>(hf b hb).1⟩⟩
 done:=by
  intro X hP hw hK hc i pins s σ H E I hf st hg;subst hP hw hK;obtain⟨xs,hq,hx⟩:=hg;obtain⟨ZZ,rv,p,hz⟩:=I.list hq;obtain⟨f0,f1,f2,f3,f4,f5⟩:=hf it 0#6;have hl:=rv.length;exact wpAny_pyNext_list_end 11#6 st p.isList 14#4 λh' eb=>28#0
 self:=λ_ _ _ _ _ st h=>wpAny_pyIter_listiter st h
theorem Cq(a it:Addr):Turn P w K tg (Itt K a) [it] it (λi h=>h.IsTupleIter it a i) where
 mem:=by simp
 obj:=λi h st b hb=>by
  have e:=by simpa using hb
  obtain⟨o,e,c,d⟩:=st
  simp_all
 keep:=λi h h' st k=>st.at λo e=>k it 0#6 o e
 item:=by
  intro X hP hw hK hc i pins s σ H E I hf st hg;subst hP hw hK;obtain⟨xs,x,hq,hx⟩:=hg;obtain⟨ZZ,rv,p,hz⟩:=I.tuple hq;obtain⟨u,hu,ru⟩:=rv.get hx;obtain⟨f0,f1,f2,f3,f4,f5⟩:=hf it 0#6;refine wpAny_pyNext_tuple_item st (p) (by simpa using hu) λh' XB sb=>?_;have I1:=I.turned (t':=s.toks) (λb o hb e=>(sb.2 b hb).trans e) f0 f1 f3 f4 f5;obtain⟨o,e,c,d⟩:=id XB;exact⟨u,rfl,Gz e c d 0#1 ⟨x,H,I1,ru,⟨rfl,λys hy=>by rw[I.tuple_inj hy hq];omega⟩,XB,λb hb=>(hf b hb).1⟩⟩
 done:=by
  intro X hP hw hK hc i pins s σ H E I hf st hg;subst hP hw hK;obtain⟨xs,hq,hx⟩:=hg;obtain⟨ZZ,rv,p,hz⟩:=I.tuple hq;obtain⟨f0,f1,f2,f3,f4,f5⟩:=hf it 0#6;have hl:=rv.length;exact wpAny_pyNext_tuple_end 11#6 st (p) 14#4 λh' eb=>28#0
 self:=λ_ _ _ _ _ st h=>wpAny_pyIter_tupleiter st h
theorem B6(it:Addr)(lo:Int)(n:Nat):Turn P w K tg (Itr lo n) [it] it (λi h=>IsRangeIter h it (lo+(i:Nat)*1) ((n:Int)-(i:Nat)) 1) where
 mem:=by simp
 obj:=λi h st b hb=>by
  simp_all
 keep:=λi h h' st k=>k it 0#6 _ st
 item:=by
  intro X hP hw hK hc i pins s σ H E I hf st hg;subst hP hw hK;obtain⟨f0,f1,f2,f3,f4,f5⟩:=hf it 0#6;have W:=Walks.range (prog:=X.prog) (w:=X.w) 11#6 it lo 1 n;refine W.item i s _ _ hg st λv h' tk hv XB kk=>?_;obtain⟨t,rfl⟩:=hv;have I1:Inv X _ σ H { s with heap:=h',toks:=tk }:=I.turned (λb o hb e=>kk b o (by simpa using hb) e) f0 f1 f3 f4 f5;refine⟨_,rfl,Gz XB rfl rfl 0#1 ⟨.int _,H,I1,⟨t,?_⟩,⟨rfl,rfl⟩,XB,λb hb=>(hf b hb).1⟩⟩<;>simp_all
 done:=by
  intro X hP hw hK hc i pins s σ H E I hf st hg;obtain⟨f0,f1,f2,f3,f4,f5⟩:=hf it 0#6;exact wpAny_pyNext_range_end 11#6 st (by have:n<=i:=hg;omega) λh' eb=>28#0
 self:=λ_ _ _ _ _ st h=>wpAny_pyIter_rangeiter st h
section
variable {X:Cx}{tg:Expr}
def vO(K:ao)(tl:TE):TI:=λσ H R=>tl σ H λx H1=>∃a,x=.ref a/\(∃xs,SqL K H1 a xs)/\R (Itl K a) H1
def BY(K:ao)(tl:TE):TI:=λσ H R=>tl σ H λx H1=>∃a,x=.ref a/\(∃xs,SqT K H1 a xs)/\R (Itt K a) H1
variable{l:Expr}{tl:TE}
theorem L7(hl:PE X l tl):PI X tg l (vO X.K tl):=by
 intro pins s σ H R I h;refine thn (hl _ s σ H _ I h) λv s1 ⟨x,H1,I1,r1,q1⟩=>?_;obtain⟨a,e,⟨xs,hq⟩,q⟩:=q1;subst e;cases r1;obtain⟨ZZ,rv,p,hz⟩:=I1.list hq;refine wpAny_pyIter_list p.isList ?_;refine⟨_,_,_,_,H1,rfl,I1.kept λb o e=>ar _ e,FB a _,⟨_,aH _ rfl,rfl,rfl⟩,λb hb=>?_,q⟩;have e:=by simpa using hb
 subst e;exact I1.fpOk 1#6 (I1.hok.fresh 1#6)
theorem OE(hl:PE X l tl):PI X tg l (BY X.K tl):=by
 intro pins s σ H R I h;refine thn (hl _ s σ H _ I h) λv s1 ⟨x,H1,I1,r1,q1⟩=>?_;obtain⟨a,e,⟨xs,hq⟩,q⟩:=q1;subst e;cases r1;obtain⟨ZZ,rv,p,hz⟩:=I1.tuple hq;refine wpAny_pyIter_tuple (p) ?_;refine⟨_,_,_,_,H1,rfl,I1.kept λb o e=>ar _ e,Cq a _,⟨_,aH _ rfl,rfl,rfl⟩,λb hb=>?_,q⟩;have e:=by simpa using hb
 subst e;exact I1.fpOk 1#6 (I1.hok.fresh 1#6)
theorem AF{R:It->Hp->Prop}{lo hi:Int}{t u v:Tok}{tk:Nat}(I:Inv X pins σ H s)(h1: -(2^62)<=lo)(h2:lo<2^62)(h3: -(2^62)<=hi)(h4:hi<2^62)
  (q:R (Itr lo (hi-lo).toNat) H):aT 1#8 X.A (pyIter (.ref 1#2)) (PIE X pins σ tg R) E { s with heap:=s.heap.push { cls := .type "range",data := .fields #[.int lo t,.int hi u,.int 1 v] },toks:=tk }:=by
 refine wpAny_pyIter_range (IsRange.new ..) (small_one h1 h2 h3 h4) ?_;have I1:Inv X _ σ H { s with heap:=s.heap.push { cls := .type "range",data := .fields #[.int lo t,.int hi u,.int 1 v] },toks:=tk }:=I.kept fun b o e=>ar _ e
 refine⟨_,_,_,_,H,rfl,
  I1.kept λb o e=>ar _ e,B6 _ lo _,?_,λb hb =>?_,q⟩
 .have e1:lo+((0:Nat))*1=lo:=by simp
  have e2:(((hi-lo).toNat))-((0:Nat))=d6 lo hi 1:=by rw[rangeSize_one];grind
  rw[e1,e2];exact aH _ rfl
 .have e:b=(s.heap.push { cls := .type "range",data := .fields #[.int lo t,.int hi u,.int 1 v] }).objs.size:=by simpa using hb
  subst e;exact I1.fpOk 1#6 (I1.hok.fresh 1#6)
def zP(ta:TA):TI:=λσ H R=>ta σ H λvs H1=>∃j:Int,vs=[.int j] /\ -(2^62)<=j/\j<2^62/\R (Itr 0 j.toNat) H1
def Az(ta:TA):TI:=λσ H R=>ta σ H λvs H1=>∃i j:Int,vs=[.int i,.int j]/\(-(2^62)<=i/\i<2^62 /\ -(2^62)<=j/\j<2^62)/\R (Itr i (j-i).toNat) H1
variable{ta:TA}{pos:Pos}
theorem Fc{a:Expr}{p:Pos}(hg:Gl X "range")(hm:X.mg "range"=none)(ha:PA X [a] ta)(hs:autoParam (starEach [a] X.env=[15#2]) 2#0):PI X tg (.Call (.Name "range" p) [a] [] pos) (zP ta):=by
 intro pins s σ H R I h;refine Call_ (kX I hg hm boot_range (dD (thn (ha _ _ s σ H _ I h) λus s1 ⟨vs,H1,I1,r1,q1⟩=>?_) hs rfl));obtain⟨j,e,q1,q2,q⟩:=q1;subst e;cases r1 with
 | cons r rr=>
   cases rr;obtain⟨t,rfl⟩:=r;exact call_range_1 (AF I1 0#1 0#1 q1 q2 (by simpa using q))
theorem EG{a b:Expr}{p:Pos}(hg:Gl X "range")(hm:X.mg "range"=none)(ha:PA X [a,b] ta)(hs:autoParam 29#2 2#0)(ZH:autoParam 30#0 2#0) :
  PI X tg (.Call (.Name "range" p) [a,b] [] pos) (Az ta):=by
 intro pins s σ H R I h;refine Call_ (kX I hg hm boot_range (dD (thn (ha _ _ s σ H _ I h) λus s1 ⟨vs,H1,I1,r1,q1⟩=>?_) (by rw[hs,ZH]) (by rw[ZH];rfl)));obtain⟨i,j,e,⟨q1,q2,q3,q4⟩,q⟩:=q1;subst e;cases r1 with
 | cons r rr=>
   cases rr with
   | cons r' rr=>
     cases rr;obtain⟨t,rfl⟩:=r;obtain⟨t',rfl⟩:=r';exact call_range_2 (AF I1 q1 q2 q3 q4 q)
def zp(wi:TI)(g:TG)(tb:TS):TS:=λD σ H=>wi σ H λJ H1=>∃W:Nat->Nat->St->Hp->Prop,(∃m,W 0 m σ H1) /\ ∀i m σ H,W i m σ H ->
 (J.stop i H/\D.nx σ H)\/(J.go i H /\ ∃N:St->Hp->Prop,29#1 /\ ∀x H',J.yld i H x H'->g x σ H' λY7 H2=>tb { D with nx:=N,ct:=N,bk:=D.nx } Y7 H2)
def zb(fp:List Addr)(h:Heap):List 2#9:=fp.filterMap λb=>(h.get? b).map λo=>(b,o)
variable{fp:List Addr}
theorem l7(hb:b∈fp)(e:h.get? b=some o):(b,o)∈zb fp h:=List.mem_filterMap.mpr ⟨b,hb,by rw[e];rfl⟩
theorem E5{p:Addr×Obj}(hp:p∈zb fp h):p.1∈fp/\h.get? p.1=some p.2:=by
 obtain⟨b,hb,e⟩:=List.mem_filterMap.mp hp;cases q:h.get? b<;>grind
theorem Inv.pinned{fp:List Addr}(I:Inv X pins σ H s)(hf:∀b∈fp,wR X pins H b)(ho:∀b∈fp,∃o,s.heap.get? b=some o /\ ∀v,o.data≠.cell v):Inv X (pins++zb fp s.heap) σ H s:=
 I.pins_of λp hp=>(aY.mp hp).elim (λz=>I.pin p (aW _ z)) λz=>by
  obtain⟨hb,e⟩:=E5 z;obtain⟨f0,f1,f2,_⟩:=hf _ hb
  grind
theorem Inv.unpinned{pl:List (Addr×Obj)}(I:Inv X (pins++pl) σ H s):Inv X pins σ H s:=I.pins_of λp hp=>I.pin p (aW _ (a9 _ hp))
theorem GU{iter:Expr}{body:List Stmt}{wi:TI}{g:TG}{tb:TS}(hp:PassesOwn 1#8 X.A X.env X.xe)(hc:X.calm=true)(hi:PI X tg iter wi)(hg:PG X tg g)(hb:PSs X body tb)
  (hs:autoParam 19#6 17#4):PS X (.For tg iter body [] pos) (zp wi g tb):=by
 intro pins s σ H D I h;refine wpAny_For (thn (hi _ s σ H _ I h) λv s1 h1=>thn h1 λitv s2 h2=>?_) hs;obtain⟨it,fp,tn,J,H2,e,I2,T,ZO,f2,W,⟨m0,w0⟩,turn⟩:=h2;subst e;have stat:∀{H':Hp},(∀b∈fp,H' b=none)->∀b∈fp,wR X _ H' b:=λhn b hb=>⟨hn b hb,(f2 b hb).2⟩;refine codeAny_forLoop_any (λn s'=>∃i Y3 H',Inv X _ Y3 H' s'/\tn i s'.heap/\(∀b∈fp,H' b=none)/\W i n Y3 H') ?_ m0 ⟨0,σ,H2,I2,ZO,λb hb=>(f2 b hb).1,w0⟩;rintro n s3 ⟨i,X6,H3,I3,ZJ,W9,w3⟩;rcases turn i n _ H3 w3 with⟨stop,qn⟩ | ⟨go,N,hN,step⟩
 .refine g8 hp (thn (T.done X rfl rfl rfl hc i _ s3 _ H3 _ I3 (stat W9) ZJ stop) λr s4 ⟨hr,I4⟩=>?_)
  subst hr;exact jj ⟨_,H3,I4,qn⟩
 .refine g8 hp (thn (T.item X rfl rfl rfl hc i _ s3 _ H3 _ I3 (stat W9) ZJ go) λr s4 ⟨u,hr,h4⟩=>?_)
  subst hr;refine g8 hp (thn h4 λ_ s5 ⟨x,H5,I5,r5,y5,Zj,U9⟩=>?_);have B':=I5.pinned (stat U9) (T.obj _ _ Zj);refine g8 hp (thn (hg _ s5 _ H5 x u _ B' r5 (step x H5 y5)) λ_ s6 ⟨Z3,H6,I6,q6⟩=>?_);refine g8 hp (thn (hb _ s6 _ H6 _ I6 q6) λf s7 q7=>?_);have again:∀{X5:St}{H7:Hp},Inv X _ _ H7 s7->N _ H7->∃m,m<n /\ ∃i Y3 H',Inv X pins Y3 H' s7/\tn i _/\(∀b∈fp,H' b=none)/\W i m Y3 H':=λ{X5 H7} I7 n7=>by
   obtain⟨m',hm,w7⟩:=hN _ H7 n7;refine⟨m',hm,_,X5,H7,I7.unpinned,T.keep _ _ _ Zj λb hb o e=>(I7.pin _ (aW _ (aW _ (l7 hb e)))).1,λb hb=>?_,w7⟩;obtain⟨o,e,d⟩:=T.obj _ _ Zj b hb;exact(I7.pin _ (aW _ (aW _ (l7 hb e)))).2.1
  cases f with
  |next=>obtain⟨X5,H7,I7,n7⟩:=q7;exact again I7 n7
  |cont=>obtain⟨X5,H7,I7,n7⟩:=q7;exact again I7 n7
  |brk=>obtain⟨X5,H7,I7,q7⟩:=q7;exact⟨_,H7,I7.unpinned,q7⟩
  |ret v=>obtain⟨x7,X5,H7,I7,r7,q7⟩:=q7;exact⟨x7,_,H7,I7.unpinned,r7,q7⟩
end
variable{tb:TS}{D:Ends}
theorem LP{g:TG}{σ:St}{H:Hp}(Pv:Nat->St->Hp->Prop)(h0:Pv 0 σ H)(hl:∀i σ H,i<=1#5->Pv i σ H->SqT K H a xs)
  (hs:∀i x σ H,xs[i]?=some x->Pv i σ H->g x σ H λY7 H2=>tb { D with nx:=Pv (i+1),ct:=Pv (i+1),bk:=D.nx } Y7 H2) (hd:∀σ H,Pv xs.length σ H->D.nx σ H):
  ∃W:Nat->Nat->St->Hp->Prop,17#0 /\ ∀i m σ H,W i m σ H ->
   ((Itt K a).stop i H/\D.nx σ H)\/((Itt K a).go i H /\ ∃N:St->Hp->Prop,29#1 /\ ∀x H',(Itt K a).yld i H x H'->g x σ H' λY7 H2=>tb { D with nx:=N,ct:=N,bk:=D.nx } Y7 H2):=by
 refine⟨λi m σ H=>m=1#5-i/\i<=1#5/\Pv i σ H,⟨1#5,by simp,dB _,h0⟩,?_⟩;rintro i m σ H ⟨rfl,hi,p⟩;have q:=hl i σ H hi p;by_cases ZV:i<1#5
 .refine .inr ⟨⟨xs,xs[i],q,by simp⟩,_,λY3 H' p'=>⟨_,by omega,rfl,ZV,p'⟩,λx H' y=>?_⟩
  obtain⟨e,y⟩:=y;subst e;exact hs i x σ _ (y xs q) p
 .have e:i=1#5:=by omega
  subst e;exact .inl ⟨⟨xs,q,ak _⟩,hd σ H p⟩
variable{n:Nat}
theorem Fe{lo:Int}{g:TG}{σ:St}{H:Hp}(Pv:Nat->St->Hp->Prop)(h0:Pv 0 σ H)
  (hs:∀i σ H,i<n->Pv i σ H->g (.int (lo+i)) σ H λY7 H2=>tb { D with nx:=Pv (i+1),ct:=Pv (i+1),bk:=D.nx } Y7 H2) (hd:∀σ H,Pv n σ H->D.nx σ H):
  ∃W:Nat->Nat->St->Hp->Prop,17#0 /\ ∀i m σ H,W i m σ H ->
   ((Itr lo n).stop i H/\D.nx σ H)\/((Itr lo n).go i H /\ ∃N:St->Hp->Prop,29#1 /\ ∀x H',(Itr lo n).yld i H x H'->g x σ H' λY7 H2=>tb { D with nx:=N,ct:=N,bk:=D.nx } Y7 H2):=by
 refine⟨λi m σ H=>m=n-i/\i<=n/\Pv i σ H,⟨n,by simp,dB _,h0⟩,?_⟩;rintro i m σ H ⟨rfl,hi,p⟩;by_cases ZV:i<n
 .refine .inr ⟨ZV,_,λY3 H' p'=>⟨_,by omega,rfl,ZV,p'⟩,λx H' y=>?_⟩
  obtain⟨e,y⟩:=y
  simp_all
 .have e:i=n:=by omega
  subst e;exact .inl ⟨ak _,hd σ H p⟩
abbrev R2:=V->V->Hp->VK->Prop
def OpR(X:Cx)(f:Value->Value->Sem Value)(r:R2):Prop:=
 ∀(pins:List 2#9) (s:Shared) (σ:St) (H:Hp) (x y:V) (v u:Value) (Q:VK),Inv X pins σ H s->RelV x v->RelV y u->r x y H Q ->
  aT 1#8 X.A (f v u) 9#2 X.xe s
def UnR(X:Cx)(f:Value->Sem Value)(r:V->Hp->VK->Prop):Prop:=
 ∀(pins:List 2#9) (s:Shared) (σ:St) (H:Hp) (x:V) (v:Value) (Q:VK),Inv X pins σ H s->RelV x v->r x H Q ->
  aT 1#8 X.A (f v) 9#2 X.xe s
def gZ(X:Cx)(f:Value)(r:List V->Hp->VK->Prop):Prop:=
 ∀(pins:List 2#9) (s:Shared) (σ:St) (H:Hp) (xs:List V) (us:List Value) (Q:VK),Inv X pins σ H s->cz xs us->r xs H Q ->
  aT 1#8 X.A (call f us) 9#2 X.xe s
def tOp(r:R2)(ta tb:TE):TE:=λσ H Q=>ta σ H λx H1=>tb σ H1 λy H2=>r x y H2 Q
def tUn(r:V->Hp->VK->Prop)(ta:TE):TE:=λσ H Q=>ta σ H λx H1=>r x H1 Q
def rI(C:Int->Int->Prop)(g:Int->Int->V):R2:=λx y H Q=>∃i j,x=.int i/\y=.int j/\C i j/\Q (g i j) H
def rI0(g:Int->Int->V):R2:=λx y H Q=>∃i j,x=.int i/\y=.int j/\Q (g i j) H
def rU(g:Int->V):V->Hp->VK->Prop:=λx H Q=>∃i,x=.int i/\Q (g i) H
section
variable {X:Cx}{a b c:Expr}{ta tb tc:TE}{pos:Pos}
variable{f:Value->Value->Sem Value}
theorem Pi(ha:PE X a ta)(hb:PE X b tb){R:V->V->Hp->Prop}(I:Inv X pins σ H s)
  (h:ta σ H λx H1=>tb σ H1 λy H2=>R x y H2) {Q:Value->Shared->Prop}
  (hf:∀v u s2 x y H2,Inv X pins σ H2 s2->RelV x v->RelV y u->R x y H2->aT 1#8 X.A (f v u) Q X.xe s2):
  aT 1#8 X.A (eval a X.env) (λv ZU=>aT 1#8 X.A (eval b X.env) (λu ZY=>aT 1#8 X.A (f v u) Q X.xe ZY) X.xe ZU) X.xe s:=by
 refine thn 11#9 λv s1 ⟨x,H1,I1,r1,q1⟩=>?_;refine thn (hb _ s1 σ H1 _ I1 q1) λu s2 ⟨y,H2,I2,r2,q2⟩=>?_;exact hf v u s2 x y H2 I2 r1 r2 q2
theorem xO{op:Operator}{r:R2}(ho:OpR X (binaryOp op) r)(ha:PE X a ta)(hb:PE X b tb):PE X (.BinOp a op b pos) (tOp r ta tb):=by
 intro pins s σ H Q I h;exact wpAny_BinOp (Pi ha hb I h λv u s2 x y H2 I2 rx ry q=>ho _ s2 σ H2 x y v u Q I2 rx ry q)
theorem My{op:UnaryOp}{r:V->Hp->VK->Prop}(ho:UnR X (unaryOp op) r)(ha:PE X a ta):PE X (.UnaryOp op a pos) (tUn r ta):=by
 intro pins s σ H Q I h;exact UnaryOp_ (thn 11#9 λv s1 ⟨x,H1,I1,r1,q1⟩=>ho _ s1 σ H1 x v Q I1 r1 q1)
variable{g:Int->Int->Int}
theorem opI{C:Int->Int->Prop}
  (rule:∀(i j:Int) (t u:Tok) (s:Shared) (Q:Value->Shared->Prop) (E:Value->Shared->Prop),C i j->Q (.int (g i j) s.toks) { s with toks:=s.toks+1 }->aT 1#8 X.A (f (.int i t) (.int j u)) Q E s):
  OpR X f (rI C λi j=>.int (g i j)):=by
 intro pins s σ H x y v u Q I rx ry h;obtain⟨i,j,rfl,rfl,hc,q⟩:=h;obtain⟨t,rfl⟩:=rx;obtain⟨t',rfl⟩:=ry;exact rule i j t t' s _ _ hc 25#3
theorem Tr
  (rule:∀(i j:Int) (t u:Tok) (s:Shared) (Q:Value->Shared->Prop) (E:Value->Shared->Prop),Q (.int (g i j) s.toks) { s with toks:=s.toks+1 }->aT 1#8 X.A (f (.int i t) (.int j u)) Q E s):
  OpR X f (rI0 λi j=>.int (g i j)):=by
 intro pins s σ H x y v u Q I rx ry h;obtain⟨i,j,rfl,rfl,q⟩:=h;obtain⟨t,rfl⟩:=rx;obtain⟨t',rfl⟩:=ry;exact rule i j t t' s _ _ 25#3
theorem J5{g:Int->Int->Bool}
  (rule:∀(i j:Int) (t u:Tok) (s:Shared) (Q:Value->Shared->Prop) (E:Value->Shared->Prop),Q (.bool (g i j)) s->aT 1#8 X.A (f (.int i t) (.int j u)) Q E s):
  OpR X f (rI0 λi j=>.bl (g i j)):=by
 intro pins s σ H x y v u Q I rx ry h;obtain⟨i,j,rfl,rfl,q⟩:=h;obtain⟨t,rfl⟩:=rx;obtain⟨t',rfl⟩:=ry;exact rule i j t t' s _ _ 15#5
def Tw(i j:Int):Prop:=0<j/\j<1073741824
def TJ(i j:Int):Prop:=0<=j/\j<=1000000/\i.natAbs<2^64
def K1(i j:Int):Prop:=(-(2^64)<i/\i<2^64)\/(-(2^64)<j/\j<2^64)
theorem K1.ok{i j:Int}(h:K1 i j):IntMulOk i j:=by
 rcases h with⟨h1,h2⟩|⟨h1,h2⟩
 .exact .of_left (intBits_le_64 h1 h2)
 .exact .of_right (intBits_le_64 h1 h2)
theorem Ox:OpR X (binaryOp .Add) (rI0 λi j=>.int (i+j)):=Tr λ_ _ _ _ _ _ _ q=>add_int q
theorem Pf:OpR X (binaryOp .Sub) (rI0 λi j=>.int (i-j)):=Tr λ_ _ _ _ _ _ _ q=>sub_int q
theorem P2:OpR X (binaryOp .Mult) (rI K1 λi j=>.int (i*j)):=opI λ_ _ _ _ _ _ _ hc q=>mul_int q hc.ok
theorem Kp:OpR X (binaryOp .FloorDiv) (rI Tw λi j=>.int (i/j)):=opI λi j _ _ _ _ _ hc q=>by
 have h1:=hc.1;have h2:=hc.2;exact floordiv_int 0#2 (by rw[Int.fdiv_eq_ediv_of_nonneg i 0#2];omega) (.inl (PyProof.noPylong_small 0#2))
theorem Pt:OpR X (binaryOp .Mod) (rI (λ_ j=>0<j) λi j=>.int (i%j)):=opI λi j _ _ _ _ _ hc q=>by
 exact mod_int' 0#2 (by rw[Int.fmod_eq_emod_of_nonneg i 0#2];omega)
theorem Pc:OpR X (binaryOp .Pow) (rI TJ λi j=>.int (i^j.toNat)):=opI λ_ _ _ _ _ _ _ hc q=>pow_int_small hc.1 hc.2.1 hc.2.2 q
theorem unI{f:Value->Sem Value}{g:Int->Int}
  (rule:∀(i:Int) (t:Tok) (s:Shared) (Q:Value->Shared->Prop) (E:Value->Shared->Prop),Q (.int (g i) s.toks) { s with toks:=s.toks+1 }->aT 1#8 X.A (f (.int i t)) Q E s):
  UnR X f (rU λi=>.int (g i)):=by
 intro pins s σ H x v Q I rx h;obtain⟨i,rfl,q⟩:=h;obtain⟨t,rfl⟩:=rx;exact rule i t s _ _ 25#3
theorem Ho:UnR X (unaryOp .USub) (rU λi=>.int (-i)):=unI λ_ _ _ _ _ q=>neg_int q
end
section
variable {X:Cx}{a b c:Expr}{ta tb tc:TE}{pos:Pos}
theorem Rg:OpR X (compareOp .Lt) (rI0 λi j=>.bl (decide (i<j))):=J5 λ_ _ _ _ _ _ _ q=>lt_int q
theorem TU:OpR X (compareOp .LtE) (rI0 λi j=>.bl (decide (i<=j))):=J5 λ_ _ _ _ _ _ _ q=>le_int q
theorem Rv:OpR X (compareOp .Gt) (rI0 λi j=>.bl (decide (j<i))):=J5 λ_ _ _ _ _ _ _ q=>gt_int q
theorem SH:OpR X (compareOp .GtE) (rI0 λi j=>.bl (decide (j<=i))):=J5 λ_ _ _ _ _ _ _ q=>ge_int q
variable{r r':R2}
theorem OpR.or{f:Value->Value->Sem Value}(h:OpR X f r)(h':OpR X f r'):OpR X f (λx y H Q=>r x y H Q\/r' x y H Q):=by
 intro pins s σ H x y v u Q I rx ry q;rcases q with q|q
 .exact h _ s σ H x y v u Q I rx ry q
 .exact h' _ s σ H x y v u Q I rx ry q
variable{op:CmpOp}
theorem Kt(ho:OpR X (compareOp op) r)(ha:PE X a ta)(hb:PE X b tb)(hm:behindInMarks op b=false):PE X (.Compare a [op] [b] pos) (tOp r ta tb):=by
 intro pins s σ H Q I h;exact wpAny_Compare1 (Pi ha hb I h λv u s2 x y H2 I2 rx ry q=>ho _ s2 σ H2 x y v u Q I2 rx ry q) hm
def Gp(t:TE):TT:=λσ H Q=>t σ H λx H'=>∃k,x=.bl k/\Q k H'
theorem KQ(ho:OpR X (compareOp op) r)(ha:PE X a ta)(hb:PE X b tb)(hm:behindInMarks op b=false):PT X (.Compare a [op] [b] pos) (Gp (tOp r ta tb)):=by
 intro pins s σ H Q I h
 refine wpAny_isTrue_Compare1 (thn 11#9 λv s1 ⟨x,H1,I1,r1,q1⟩=>thn (hb _ s1 σ H1 _ I1 q1) λu s2 ⟨y,H2,I2,r2,q2⟩=>
  thn (ho _ s2 σ H2 x y v u _ I2 r1 r2 q2) λc s3 ⟨z,H3,I3,r3,k,e,q3⟩ =>?_) hm
 subst e;cases r3;exact d5 ⟨H3,I3,q3⟩
def BV(r r':R2)(ta tb tc:TE):TE:=λσ H Q=>ta σ H λx H1=>tb σ H1 λy H2=>r x y H2 λz H3=>∃k,z=.bl k /\
 (if k=true then tc σ H3 λw' H4=>r' y w' H4 Q else Q (.bl false) H3)
theorem Iv{Ys:CmpOp}(ho:OpR X (compareOp op) r)(YI:OpR X (compareOp Ys) r')(ha:PE X a ta)(hb:PE X b tb)(hc:PE X c tc)
  (hm:lastMarks [op,Ys] [b,c]=false:=by with_unfolding_all rfl):PE X 26#1 (BV r r' ta tb tc):=by
 intro pins s σ H Q I h
 refine Compare_chain (thn 11#9 λv s1 ⟨x,H1,I1,r1,q1⟩=>chain_link (thn (hb _ s1 σ H1 _ I1 q1) λu s2 ⟨y,H2,I2,r2,q2⟩=>
  thn (ho _ s2 σ H2 x y v u _ I2 r1 r2 q2) λd s3 ⟨z,H3,I3,r3,k,e,q3⟩ =>?_)) hm
 subst e;cases r3;refine d5 ?_;cases k with
 |false=>exact ite_ff ⟨.bl _,H3,I3,rfl,q3⟩
 |true=>exact ite_tt (chain_last (thn (hc _ s3 σ H3 _ I3 q3) λw' s4 ⟨z',H4,I4,r4,q4⟩=>YI _ s4 σ H4 y z' u w' Q I4 r2 r4 q4))
theorem GW{Ys:CmpOp}(ho:OpR X (compareOp op) r)(YI:OpR X (compareOp Ys) r')(ha:PE X a ta)(hb:PE X b tb)(hc:PE X c tc)
  (hm:lastMarks [op,Ys] [b,c]=false:=by with_unfolding_all rfl):PT X 26#1 (Gp (BV r r' ta tb tc)):=by
 intro pins s σ H Q I h
 refine isTrue_chain (thn 11#9 λv s1 ⟨x,H1,I1,r1,q1⟩=>test_link (thn (hb _ s1 σ H1 _ I1 q1) λu s2 ⟨y,H2,I2,r2,q2⟩=>
  thn (ho _ s2 σ H2 x y v u _ I2 r1 r2 q2) λd s3 ⟨z,H3,I3,r3,k,e,q3⟩ =>?_)) hm
 subst e;cases r3;refine d5 ?_;cases k with
 | false=>
   obtain⟨k',e',q'⟩:=q3;cases e';exact ite_ff ⟨H3,I3,q'⟩
 | true=>
   refine ite_tt (test_last (thn (hc _ s3 σ H3 _ I3 q3) λw' s4 ⟨z',H4,I4,r4,q4⟩=>thn (YI _ s4 σ H4 y z' u w' _ I4 r2 r4 q4) λd' s5 ⟨z2,H5,I5,r5,k2,e2,q5⟩=>?_));subst e2;cases r5;exact d5 ⟨H5,I5,q5⟩
theorem wy:(sizeLine:Nat)<2^63:=by decide
theorem vals1(r:cz [x] us):∃u,us=[u]/\RelV x u:=by
 cases r with
 |cons r1 r2=>cases r2;exact⟨_,rfl,r1⟩
theorem vals2{y:V}(r:cz [x,y] us):∃u w',us=[u,w']/\RelV x u/\RelV y w':=by
 cases r with
 | cons r1 r2=>
   cases r2 with
   |cons r3 r4=>cases r4;exact⟨_,_,rfl,r1,r3⟩
theorem EU(hc:X.calm=true):gZ X (.builtin "max") (fun xs H Q=>∃ i j,xs=[.int i,.int j]/\Q (.int (if j>i then j else i)) H):=by
 intro pins s σ H xs us Q I r h;obtain⟨i,j,rfl,q⟩:=h;obtain⟨u,w',rfl,⟨t,rfl⟩,⟨t',rfl⟩⟩:=vals2 r;refine max_two_ints 11#6 λh' tk k=>⟨_,H,I.kept k,?_,q⟩;by_cases hj:j>i
 .rw[if_pos hj,if_pos hj];exact⟨_,rfl⟩
 .rw[if_neg hj,if_neg hj];exact⟨_,rfl⟩
theorem Fb(hc:X.calm=true):gZ X (.builtin "min") (fun xs H Q=>∃ i j,xs=[.int i,.int j]/\Q (.int (if j<i then j else i)) H):=by
 intro pins s σ H xs us Q I r h;obtain⟨i,j,rfl,q⟩:=h;obtain⟨u,w',rfl,⟨t,rfl⟩,⟨t',rfl⟩⟩:=vals2 r;refine min_two_ints 11#6 λh' tk k=>⟨_,H,I.kept k,?_,q⟩;by_cases hj:j<i
 .rw[if_pos hj,if_pos hj];exact⟨_,rfl⟩
 .rw[if_neg hj,if_neg hj];exact⟨_,rfl⟩
theorem EF:gZ X (.type "int") (fun xs H Q=>(∃ i,xs=[.int i]/\Q 3#0 H) \/ ∃ k,xs=[.bl k]/\Q (.int (if k then 1 else 0)) H):=by
 intro pins s σ H xs us Q I r h;rcases h with⟨i,rfl,q⟩|⟨k,rfl,q⟩
 .obtain⟨u,rfl,t,rfl⟩:=vals1 r
  exact call_int_int ⟨.int i,H,I,⟨_,rfl⟩,q⟩
 .obtain⟨u,rfl,r1⟩:=vals1 r
  cases r1;exact call_int_bool 25#3
end
structure NW(h:Heap)(x dx C:Addr)(mA:Str->Option Value):Prop where
 obj:h.get? x=some (xw C dx)
 ns:h.Ns1 dx mA
 ne:dx≠x
variable{mA:Str->Option Value}
theorem Fk{dx:Addr}(n:h.Ns1 dx mA):∃od,h.get? dx=some od /\ ∀name,zF name od=some (mA name):=by
 obtain⟨o,es,ep,ho,hd,hk,_,hm⟩:=n;refine⟨o,ho,λname=>?_⟩;have e:=hm name;unfold nsFind findBy at e;rw[<-Array.find?_toList]at e;unfold zF;rw[hd];dsimp only
 split
 .grind
 .have a:es.toList.any (·.refKey)=false:=by
   rw[List.any_eq_false];intro y hy;obtain⟨z,t,hkey⟩:=hk y (Array.mem_toList_iff.mp hy);simp[DictEntry.refKey,hkey]
  grind
theorem NW.look{x dx C:Addr}(I:NW h x dx C mA):∃od,PySem.W.InstAt h x (xw C dx) C (some od) /\ ∀name,zF name od=some (mA name):=
 let ⟨od,ho,hl⟩:=Fk I.ns
 ⟨od,⟨I.obj,rfl,rfl,ho⟩,hl⟩
section
variable {prog:Program}{w:World}{A:Around}{E:Value->Shared->Prop}{s:Shared}{K:ao}{x dx C f:Addr}{mA:Str->Option Value}{name:Str}{v:Value}
end
theorem vb.some_of{v:V}{o:Option Value}(r:vb (some v) o):∃u,o=some u/\RelV v u:=by
 cases o with
 |none=>exact(r).elim
 |some u=>exact⟨u,rfl,r⟩
section
variable {P:Program}{w:World}{H H':Hp}{h h':Heap}{a C dx:Addr}{fs fs':List (Str×V)}
theorem J4(hok:HOk P w H h)(e:H a=some (.ins C dx fs)):∃mA,NW h a dx C mA/\(∀f,vb (fs.lookup f) (mA f))/\PySem.Within mA (fs.map (·.1))/\fs.length<=1000/\H dx=some (.own a):=by
 obtain⟨d,z,ne,ob,mA,n,r,q⟩:=(hok a _ e);exact⟨mA,⟨ob,n,ne⟩,r,q,z,d⟩
end
structure Cls(K:ao)(C:Addr):Prop where
 pg:PySem.W.plainGet K C Str.empty=true
 hd:PySem.W.hasDictIn K C=true
 po:PySem.W.plainOver K C=true
 sa:PySem.W.findIn K (.ref C) "__setattr__"=some (some (.builtin "object.__setattr__"))
theorem Cls.get{C:Addr}(c:Cls K C)(f:Str):PySem.W.plainGet K C f=true:=c.pg
section
variable {X:Cx}{pins:List (Addr×Obj)}{σ:St}{H:Hp}{s:Shared}{a C dx:Addr}{fs:List (Str×V)}{f:Str}{v:V}{A:Around}{E:Value->Shared->Prop}
end
section
variable {X:Cx}{o e value:Expr}{f:Str}{pos pos' tpos:Pos}{ta tv:TE}
end
section
variable {X:Cx}{pins:List (Addr×Obj)}{σ:St}{H:Hp}{s:Shared}{A:Around}{E:Value->Shared->Prop}{Q:Value->Shared->Prop}{c:Value}{b:Bool}
inductive pD(K:ao)(H:Hp):V->Value->Prop where
 |non:pD K H .non (.type "NoneType")
 |bl (x:Bool):pD K H (.bl x) (.type "bool")
 |int (i:Int):pD K H (.int i) (.type "int")
 |str (x:Str):pD K H (.str x) (.type "str")
 |flt (x:UInt64):pD K H (.flt x) (.type "float")
 |lst {a:Addr}{xs:List V} (e:H a=some (.lst xs)):pD K H (.ref a) (.type "list")
 |frz {a:Addr}{o:Obj}{xs:List V} (e:H a=some (.frz o (.lst xs))):pD K H (.ref a) (.type "list")
 |tup {a:Addr}{xs:List V} (e:H a=some (.tup xs)):pD K H (.ref a) (.type "tuple")
 |dK {a:Addr}{kvs:List (Key×V)} (e:H a=some (.dK kvs)):pD K H (.ref a) (.type "dict")
 |dT {a:Addr}{kvs:List (List Key×V)} (e:H a=some (.dT kvs)):pD K H (.ref a) (.type "dict")
 | ins {a C dx:Addr}{fs:List (Str×V)} (e:H a=some (.ins C dx fs)) (cl:Cls K C) (ha:PySem.W.findIn K (.ref C) "__class__"=some (some (.builtin "object.__class__")))
   (hn:PySem.W.specialIn K (.builtin "object.__class__") "__get__"=some (some (.builtin "getset_descriptor.__get__"))) (htk:PySem.W.takesIn K (.builtin "object.__class__")=some true)
   (hm:PySem.W.mroIn K C (.type "object")=some true):pD K H (.ref a) (.ref C)
theorem EL{t:Value}(I:Inv X pins σ H s)(rx:RelV x u)(ty:pD X.K H x t)(e:cN X.K t c=some b)(h:∀tk,Q (.bool b) { s with toks:=tk }):
  aT 1#8 A (call (.builtin "isinstance") [u,c]) Q E s:=by
 cases ty with
 |non=>cases (show u=lL from rx);exact cY JF I.kIn fT e 11#5 h
 |bl y=>cases (show u=tZ y from rx);exact cY PySem.W.kitx_bool I.kIn fT e 11#5 h
 |int i=>obtain⟨t,q⟩:=(show ∃t,u=rF i t from rx);cases q;exact cY PySem.W.kitx_int I.kIn fT e 11#5 h
 |str y=>obtain⟨t,q⟩:=(show ∃t,u=rG y t from rx);cases q;exact cY PySem.W.kitx_str I.kIn fT e 11#5 h
 |flt y=>obtain⟨t,q⟩:=(show ∃t,u=Value.float y t from rx);cases q;exact cY PySem.W.kitx_float I.kIn fT e 11#5 h
 | @lst a xs ea=>
   cases 21#1;obtain⟨_,_,n,_,h1⟩:=(show eg X.prog X.w H s.heap a 8#8 from I.hok a _ ea);exact cY JG I.kIn ⟨_,h1,rfl⟩ e 11#5 h
 | @frz a ob xs ea=>
   cases 21#1;obtain⟨_,_,_,n,_,h1⟩:=(show eg X.prog X.w H s.heap a (.frz ob 8#8) from I.hok a _ ea);exact cY JG I.kIn ⟨_,h1,rfl⟩ e 11#5 h
 | @tup a xs ea=>
   cases 21#1;obtain⟨_,_,_,p⟩:=(show eg X.prog X.w H s.heap a (.tup xs) from I.hok a _ ea);obtain⟨o,h1,h2,_⟩:=p.1;exact cY PySem.W.kitx_tuple I.kIn ⟨o,h1,h2⟩ e 11#5 h
 | @dK a kvs ea=>
   cases 21#1;obtain⟨_,_,vs,_,p⟩:=(show eg X.prog X.w H s.heap a (.dK kvs) from I.hok a _ ea);obtain⟨o,es,ep,h1,h2,_⟩:=p;exact cY JH I.kIn ⟨o,h1,h2.1⟩ e 11#5 h
 | @dT a kvs ea=>
   cases 21#1;obtain⟨_,_,xs,_,o,es,ep,h1,h2,_⟩:=(show eg X.prog X.w H s.heap a (.dT kvs) from I.hok a _ ea);exact cY JH I.kIn ⟨o,h1,h2.1⟩ e 11#5 h
 | @ins a C dx fs ea cl ha hn htk hm=>
   cases 21#1;obtain⟨mA,O,_⟩:=J4 I.hok ea;obtain⟨od,J,_⟩:=O.look;exact cY (PySem.W.kitx_own (cl.get _) cl.hd ha hn htk hm) I.kIn J e 11#5 h
end
structure lz(k:Nat)(A:Around):Prop where
 hd:A.handled=none
 dp:A.depth+3*k+5<recursionLimit
 un:A.units+16*k+200<cLine
 gu:A.guards=some []
theorem lz.mono{j k:Nat}(r:lz k A)(h:j<=k):lz j A:=⟨r.hd,by have:=r.dp;omega,by have:=r.un;omega,r.gu⟩
theorem lz.deeper{k:Nat}(r:lz (k+1) A)(env:Env):lz k (A.deeper env):=
 ⟨r.hd,by have:=r.dp;show A.depth+1+3*k+5<_;omega,by have:=r.un;show A.units+3+16*k+200<_;omega,r.gu⟩
theorem lz.depth{k:Nat}(r:lz k A):A.depth<recursionLimit:=by have:=r.dp;omega
theorem lz.units{k:Nat}(r:lz k A):A.units+64<cLine:=by have:=r.un;omega
def B5:TA:=λ_ H Q=>Q [] H
def wt(ta:TE)(tr:TA):TA:=λσ H Q=>ta σ H λx H1=>tr σ H1 λxs H2=>Q (x::xs) H2
section
variable {X:Cx}{e:Expr}{es:List Expr}{te:TE}{t:TA}{pos:Pos}
theorem vT:PA X [] B5:=λ_ _ _ _ H Q I h=>gE ⟨[],H,I,.nil,h⟩
theorem jN(ha:PE X e te)(hr:PA X es t)(hs:autoParam 11#1 2#0):PA X 2#5 (wt te t):=by
 intro pos pins s σ H Q I h;rw[hs];refine d7 (thn 11#9 λu s1 ⟨x,H1,I1,r1,q1⟩=>?_);exact thn (hr _ _ s1 σ H1 _ I1 q1) λus s2 ⟨xs,H2,I2,r2,q2⟩=>⟨_,H2,I2,.cons r1 r2,q2⟩
def SU(t:TA):TE:=λσ H Q=>t σ H λxs H1=>1#5<=sizeLine /\ ∀p,H1 p=none->Q (.ref p) (upd H1 p (.tup xs))
def RG(t:TA):TE:=λσ H Q=>t σ H λxs H1=>1#5<=sizeLine /\ ∀p,H1 p=none->Q (.ref p) (upd H1 p 8#8)
theorem Qw{x1}(h:PA X es t):PE X (.Tuple es x1 pos) (SU t):=by
 intro pins s σ H Q I hq;refine wpAny_Tuple_spliced (thn (h _ _ s σ H _ I hq) λus s1 ⟨xs,H1,I1,r,z,q⟩=>⟨by rw[<-r.length];omega,?_⟩);have hf:=I1.hok.fresh 1#6;refine⟨.ref _,_,I1.laid (λb u e=>ar _ e) 1#6 ?_,rfl,q _ hf⟩;exact⟨z,us,r,⟨_,aH _ rfl,rfl,_,rfl⟩,_,aH _ rfl,rfl⟩
theorem PH(h:PA X es t):PE X (.List es pos) (RG t):=by
 intro pins s σ H Q I hq;refine wpAny_List_spliced (thn (h _ _ s σ H _ I hq) λus s1 ⟨xs,H1,I1,r,z,q⟩=>⟨by rw[<-r.length];omega,?_⟩);have hf:=I1.hok.fresh 1#6;refine⟨.ref _,_,I1.laid (λb u e=>ar _ e) 1#6 ?_,rfl,q _ hf⟩;exact⟨z,us,0,r,aH _ rfl⟩
end
abbrev Sp:=List V->Hp->VK->XK->Prop
abbrev CXT:=List Env->Hp->Shared->XK->Value->Shared->Prop
structure E6(P:Program)(w:World)(K:ao)(mg:Str->Option Value)(base:Heap)(A:Around)(outer:List Env)(s:Shared)(H:Hp):Prop where
 frames:A.frames=some outer
 mod:Mod K mg base
 bs:∀b o,base.get? b=some o->s.heap.get? b=some o/\H b=none
 bsz:base.objs.size<=s.heap.objs.size
 funs:s.heap.FunFrames base outer
 frf:∀b∈frs outer,H b=none
 hok:HOk P w H s.heap
 bare:AllBare s.gens
def CE(outer:List Env)(P:Program)(w:World)(H:Hp)(s:Shared)(Q:VK)(u:Value)(s':Shared):Prop:=
 ∃v H',s'.os=s.os/\AllBare s'.gens/\Un (frs outer) [] H H' s.heap s'.heap/\HOk P w H' s'.heap/\RelV v u/\Q v H'
def CR(CX:CXT)(outer:List Env)(P:Program)(w:World)(H:Hp)(s:Shared)(Q:VK)(E:XK)(r:Result)(s':Shared):Prop:=
 match r with
 |.ok (.ret u)=>CE outer P w H s Q u s'
 |.ok _=>False
 |.error e=>CX outer H s E e s'
structure jx(P:Program)(w:World)(K:ao)(mg:Str->Option Value)(base:Heap)(CX:CXT)(k:Nat)(f:Addr)(fd:FuncData)(ps:List Str)(sp:Sp):Prop where
 len:∀vs H Q E,sp vs H Q E->vs.length=ps.length
 run:∀(A:Around) (outer:List Env) (s:Shared) (H:Hp) (args:Args) (us:List Value) (vs:List V) (Q:VK) (E:XK),lz k A->E6 P w K mg base A outer s H->BindsTo s fd args (ps.zip us)->cz vs us->sp vs H Q E ->
  oZ (model P w) A (.call (.ref f) args) (CR CX outer P w H s Q E) s
variable{f:Addr}{mg:Str->Option Value}{base:Heap}{CX:CXT}{fd:FuncData}{ps:List Str}
theorem jx.imp{k:Nat}{sp sp':Sp}(F:jx P w K mg base CX k f fd ps sp)
  (h:∀vs H Q E,sp' vs H Q E->sp vs H Q E):jx P w K mg base CX k f fd ps sp':=
 ⟨λvs H Q E q=>F.len vs H Q E (h _ _ _ _ q),λA outer s H args us vs Q E hr he hb hv hs=>F.run A _ s H _ us vs Q E hr he hb hv (h _ _ _ _ hs)⟩
section
variable {X:Cx}{pins:List (Addr×Obj)}{σ:St}{H:Hp}{s s':Shared}
theorem Inv.env0(I:Inv X pins σ H s):E6 X.prog X.w X.K X.mg X.base X.A X.stack s H:=
 ⟨I.ok.frames,I.ok.mod,I.bs,aB I.ok.bsz I.sz,I.stack,I.stkFree,I.hok,I.bare⟩
theorem Inv.after{Q:VK}(I:Inv X pins σ H s)(h:CE X.stack X.prog X.w H s Q u s'):EP X pins σ Q u s':=by
 obtain⟨v,H',os,bare,un,hok,r,q⟩:=h;obtain⟨hh,g,d,t,os'⟩:=s';obtain rfl:os'=s.os:=os;exact⟨v,H',I.call un hok bare (λb z=>absurd z 0#6),r,q⟩
end
def DL(sp:Sp)(Xw:List V)(E:XK)(t:TA):TE:=λσ H Q=>t σ H λvs H1=>sp (vs++Xw) H1 Q E
def Binds(K:ao)(fd:FuncData)(ps:List Str)(ds:List Value):Prop:=
 ∀(s:Shared) (us:List Value),K.In s.heap->(us++ds).length=7#1->BindsTo s fd ⟨us,[]⟩ (ps.zip (us++ds))
theorem Binds.all(h:∀us:List Value,1#1=7#1->bindArgs fd ⟨us,[]⟩=pure (ps.zip us)):Binds K fd ps []:=λs us _ hl=>by
 rw[gg]at hl ⊢;exact .of_eq (h us hl)
def wB(CX:CXT)(X:Cx)(E:XK):Prop:= ∀(pins:List 2#9) (σ:St) (H:Hp) (s:Shared) (e:Value) (s':Shared),Inv X pins σ H s->CX X.stack H s E e s'->X.xe e s'
section
variable {X:Cx}{CX:CXT}{k:Nat}{f C:Addr}{fd:FuncData}{ps:List Str}{sp:Sp}{Xw:List V}{ds:List Value}{E:XK}{x m:Str}{p pos apos:Pos}{e o:Expr}{es:List Expr}{ta:TE}{t:TA}
theorem uE{Q:VK}{vs:List V}(F:jx X.prog X.w X.K X.mg X.base CX k f fd ps sp)(hr:lz k X.A)(hb:Binds X.K fd ps ds)(hd:cz Xw ds)(hx:wB CX X E)
  (I:Inv X pins σ H s) (r:cz vs us) (h:sp (vs++Xw) H Q E):aT 1#8 X.A (call (.ref f) us) 9#2 X.xe s:=by
 have r2:=r.append hd;have hl:(us++ds).length=7#1:=by rw[<-r2.length];exact F.len _ _ _ _ h
 refine JA (iK (F.run _ _ s H _ _ _ Q E hr I.env0 (hb s us I.kIn hl) r2 h) λr s' hq=>?_);cases r with
 |error e=>exact hx _ σ H s e s' I hq
 | ok fl=>
   cases fl with
   |ret u=>exact I.after hq
   |next=>exact ck hq
   |brk=>exact ck hq
   |cont=>exact ck hq
theorem zl(F:jx X.prog X.w X.K X.mg X.base CX k f fd ps sp)(hr:lz k X.A)(hg:Gl X x)(hm:X.mg x=some (.ref f))(hk:cZ X.K (.ref f)=true)(hb:Binds X.K fd ps ds)(hd:cz Xw ds)(hx:wB CX X E)
  (ha:PA X 2#5 t) (Xj:autoParam (9#1=false) 11#0) (he:autoParam 11#1 2#0) (ZP:autoParam 13#6 2#0) :
  PE X (.Call (.Name x p) 2#5 [] pos) (DL sp Xw E t):=by
 intro pins s σ H Q I h;refine dP (kn I hg hm ?_ Xj);refine la I.ok.mod.kin hk (thn (ha _ _ s σ H _ I h) λus s1 ⟨vs,H1,I1,r,q⟩=>⟨I1.kIn,?_⟩) he ZP;exact uE F hr hb hd hx I1 r q
theorem Gu(F:jx X.prog X.w X.K X.mg X.base CX k f fd ps sp)(hr:lz k X.A)(hg:Gl X x)(hm:X.mg x=some (.ref f))(hk:cZ X.K (.ref f)=true)(hb:Binds X.K fd ps ds)(hd:cz Xw ds)(hx:wB CX X E)
  (Xj:autoParam (9#1=false) 11#0):PE X (.Call (.Name x p) [] [] pos) (DL sp Xw E B5):=by
 intro pins s σ H Q I h;refine dP (kn I hg hm ?_ Xj);exact FW I.kIn hk (uE (us:= []) F hr hb hd hx I .nil h)
end
section
variable {X:Cx}{CX:CXT}{k:Nat}{f C:Addr}{fd:FuncData}{ps ks:List Str}{sp:Sp}{E:XK}{x m:Str}{p pos apos kpos:Pos}{e o:Expr}{es:List Expr}{Ws:List Keyword}{te ta:TE}{t tk:TA}{nm:Option Str}
variable {g:List Value->List Value->List Value}{gV:List V->List V->List V}
end
structure a8(N P:List Str)(sc:Scope):Prop where
 kind:sc.kind=.function
 co:sc.isCoroutine=false
 gen:sc.isGenerator=false
 nd:N.Nodup
 pre:N.take P.length=P
 par:∀x∈P,sc.names.lookup x=some .local\/sc.names.lookup x=some .cell
 nofree:∀y∈sc.names,y.2≠.free
theorem yj{kindOf:Str->Option NameKind}{x:Str}:∀{binds:List (Str×Value)}{m:Str->Option Value},(∀v,(x,v)∉binds)->bindL kindOf binds m x=m x
 |[],_,_=>rfl
 | (n,v)::r,m,h=>by
   unfold bindL;rw[yj λw hw=>h w (aE _ hw)]
   split<;>grind
theorem yd{kindOf:Str->Option NameKind}{x:Str}:∀{binds:List (Str×Value)}{m:Str->Option Value},(∀v,(x,v)∉binds)->bindC kindOf binds m x=m x
 |[],_,_=>rfl
 | (n,v)::r,m,h=>by
   unfold bindC;rw[yd λw hw=>h w (aE _ hw)]
   split<;>grind
theorem rV{kindOf:Str->Option NameKind}{x:Str}{v:Value}:∀{P:List Str}{vs:List Value}{i:Nat}{m:Str->Option Value},P.Nodup->P[i]?=some x->vs[i]?=some v->kindOf x=some .local ->
  bindL kindOf (P.zip vs) m x=some v
 |[],_,_,_,_,h,_,_=>by simp at h
 |_::_,[],_,_,_,_,h,_=>by simp at h
 | p::P,w::vs,0,m,nd,h1,h2,hk=>by
   simp at h1 h2;subst h1;subst h2;show bindL _ ((p,w)::P.zip vs) m p=_;unfold bindL;rw[yj λv hv=>(kI.mp nd).1 (kJ hv).1,if_pos hk];simp
 | p::P,w::vs,i+1,m,nd,h1,h2,hk=>by
   unfold bindL;exact rV (kI.mp nd).2 (by simpa using h1) (by simpa using h2) hk
theorem rQ{kindOf:Str->Option NameKind}{x:Str}{v:Value}:∀{P:List Str}{vs:List Value}{i:Nat}{m:Str->Option Value},P.Nodup->P[i]?=some x->vs[i]?=some v->kindOf x≠some .local ->
  bindC kindOf (P.zip vs) m x=some v
 |[],_,_,_,_,h,_,_=>by simp at h
 |_::_,[],_,_,_,_,h,_=>by simp at h
 | p::P,w::vs,0,m,nd,h1,h2,hk=>by
   simp at h1 h2;subst h1;subst h2;show bindC _ ((p,w)::P.zip vs) m p=_;unfold bindC;rw[yd λv hv=>(kI.mp nd).1 (kJ hv).1,if_neg hk];simp
 | p::P,w::vs,i+1,m,nd,h1,h2,hk=>by
   unfold bindC;exact rQ (kI.mp nd).2 (by simpa using h1) (by simpa using h2) hk
def start(N:List Str)(vs:List V):St:=vs.map some++aP (N.length-3#7) none
def vG(CX:CXT)(P:Program)(w:World)(K:ao)(mg:Str->Option Value)(base:Heap)(N:List Str)(qual:Str)(scope:Scope)(f:Addr)(cd:Value)(A:Around)(outer:List Env)(s:Shared)(H:Hp)(E:XK):Cx where
 prog:=P
 w:=w
 K:=K
 mg:=mg
 base:=base
 A:=A.deeper (envOfC qual scope s.heap.objs.size f cd)
 N:=N
 s₀:=s
 H₀:=H
 env:=envOfC qual scope s.heap.objs.size f cd
 outer:=outer
 stack:=envOfC qual scope s.heap.objs.size f cd::outer
 ex:= []
 calm:=true
 fn:=λ_=>true
 pn:= []
 xe:=λe s'=>aT (model P w) (A.deeper (envOfC qual scope s.heap.objs.size f cd)) (leaving (envOfC qual scope s.heap.objs.size f cd) e) (λ_ s''=>CX outer H s E e s'') (λe' s''=>CX outer H s E e' s'') s'
theorem jY{sc:Scope}{x:Str}(h:sc.names.lookup x=some .cell):∃c,(cellsFrom n sc.names []).lookup x=some c:=by
 have q:=i3 _ n [] (.inl h);exact dC.mp q
variable{qual:Str}{scope:Scope}
theorem EY{N:List Str}{cd:Value}{outer:List Env}{s1:Shared}{E:XK}{vs:List V}
  (S:a8 N ps scope) (hd:A.handled=none) (e0:E6 P w K mg base A outer s H) (hl:3#7=7#1) (r:cz vs us)
  (x:InCallC s s.heap.objs.size (bindL (envOfC qual scope s.heap.objs.size f cd).kindOf (ps.zip us) λ_=>none) 17#9 (bindC (envOfC qual scope s.heap.objs.size f cd).kindOf (ps.zip us) λ_=>none) s1):
  Inv (vG CX P w K mg base N qual scope f cd A outer s H E) [] (start N vs) H s1:=by
 have ZP:7#1<=N.length:=by have:=congrArg zG S.pre;grind
 obtain⟨h1,tk,rfl,hk⟩:=x.done;have noA:∀b,b∉(vG CX P w K mg base N qual scope f cd A outer s H E).ex:=λb z=>absurd (show b∈[] from z) 0#6
 refine⟨⟨e0.mod,S.kind,rfl,rfl,ak _,λy z c h1 h2 =>?_,λy hy =>?_,λy c _ h =>?_,λ_=>hd,FY e0.frames,.inr ⟨rfl,rfl⟩,λb z=>absurd z (noA b),e0.bs,e0.bsz,λb _ _=>noA b,λb z=>absurd z (noA b),e0.funs,e0.frf⟩,
  rfl,e0.bare,Un.kept hk,⟨_,x.toInCall.ns,λi y v h1 h2 h3 =>?_⟩,λy c h=>⟨_,x.cell y c h⟩,e0.hok.fresh (ak _),λy c h =>?_,λp hp=>absurd (show p∈[] from hp) (by simp),e0.hok.kept hk,?_⟩
 .exact name_of_addr x.apart (cw h1) (cw h2)
 .rcases hy with hy|hy
  .exact jY hy
  .exact absurd rfl (S.nofree _ (cw hy))
 .exact aV (x.above y c (cw h))
 .have hi:i<3#7:=by
   unfold start at h2;by_cases hi:i<3#7
   .omega
   .rw[aq (by simpa using hi)]at h2
    rw[i5]at h2<;>simp_all
  have ha:vs[i]?=some v:=by
   unfold start at h2;rw[aK _]at h2<;>simp_all
  obtain⟨u,hu,rv⟩:=r.get ha;have hp:ps[i]?=some y:=by
   rw[<-S.pre,List.getElem?_take_of_lt 0#2];exact h1
  have Wv:ps.Nodup:=by rw[<-S.pre];exact S.nd.sublist (List.take_sublist _ _)
  refine⟨u,rv,?_⟩;rcases S.par y (bu hp) with k|k
  .exact .inl ⟨k,rV Wv hp hu k⟩
  .obtain⟨c,e⟩:=jY k
   refine .inr ⟨.inl k,c,e,?_⟩;have q:=x.cell y c e;rw[rQ Wv hp hu (by show scope.names.lookup y≠_;rw[k];decide)]at q;omega
 .exact e0.hok.fresh (aV (x.above y c (cw h)))
 .unfold start
  show _=N.length
  grind
theorem Am{k:Nat}{name:Str}{params:Arguments}{body:List Stmt}{dV kV doc pm cdv ct oc:Value}{an od:Option Addr}
  {osl:Array (Option Value)}{N:List Str}{sp:Sp} (lk:K.lookup f=some ⟨oc,od,.func (de name qual params body scope dV kV doc pm an cdv ct),osl⟩) (ZC:gK K cdv qual=true) (S:a8 N ps scope)
  (len:∀vs H Q E,sp vs H Q E->3#7=7#1)
  (Zw: ∀(A:Around) (outer:List Env) (s:Shared) (H:Hp) (vs:List V) (Q:VK) (E:XK),lz k (A.deeper (envOfC qual scope s.heap.objs.size f cdv))->sp vs H Q E ->
   ∃t,PSs (vG CX P w K mg base N qual scope f cdv A outer s H E) body t/\t { nx:=λ_ H'=>Q .non H',rt:=Q } (start N vs) H):
  jx P w K mg base CX (k+1) f (de name qual params body scope dV kV doc pm an cdv ct) ps sp:=by
 refine⟨len,λA outer s H args us vs Q E hr e0 hb r Zr=>?_⟩;have hl:=len _ _ _ _ Zr;have KX:=e0.mod.kin.keeps λb o e=>(e0.bs b o e).1;have lim:=e0.mod.nolimit.keeps λb o e=>(e0.bs b o e).1;have W0:∀y∈ps.zip us,scope.names.lookup y.1=some _\/(scope.names.lookup y.1=some _/\((cellsFrom (1#2+1) _ []).lookup y.1).isSome=true):=fun⟨n,v⟩ hy=>by
  rcases S.par n (kJ hy).1 with q|q
  .exact .inl q
  .exact .inr ⟨q,i3 _ _ _ (.inl q)⟩
 refine codeAny_call_function hr.depth (KX _ _ lk) rfl S.co S.gen rfl (PySem.W.codeRec_of KX ZC) (hb _ _ _ _ ?_);refine wpAny_newFunctionEnv_cells S.kind W0 λenv he s1 x=>?_;subst he;refine⟨lim.keeps x.toInCall.keep,codeAny_func ?_⟩;obtain⟨t,ht,hq⟩:=Zw A _ s H vs Q E (hr.deeper _) Zr;have I:Inv (vG CX P w K mg _ N _ _ f _ A _ s H E) [] _ H s1:=EY S hr.hd e0 hl r x;refine cf (ht [] s1 _ H _ I hq) (λfl s' hs=>?_) λe s' hs=>hs;have fin:∀{Y3:St}{H':Hp}{v:V}{u:Value},Inv (vG CX P w K mg base N qual scope f cdv A _ s H E) [] Y3 H' s'->RelV v u->Q v H'->CE outer P w H s Q u s':=
  λ{Y3 H' v u} J rv q=>⟨v,H',J.os,J.bare,J.base,J.hok,rv,q⟩
 cases fl with
 | ret u=>
   obtain⟨v,Y3,H',J,rv,q⟩:=hs;exact fin J rv q
 | next=>
   obtain⟨Y3,H',J,q⟩:=hs;exact fin (v:=V.non) J rfl q
 | brk=>
   obtain⟨_,_,_,q⟩:=hs<;>simp_all
 | cont=>
   obtain⟨_,_,_,q⟩:=hs<;>simp_all
section
variable {X:Cx}{x:Str}{p pos:Pos}{e:Expr}{es:List Expr}{t:TA}{id T:String}{r:List V->Hp->VK->Prop}
def tCB(r:List V->Hp->VK->Prop)(t:TA):TE:=λσ H Q=>t σ H λvs H1=>r vs H1 Q
theorem j5(hc:gZ X (.builtin id) r)(hg:Gl X x)(hm:X.mg x=none)(hv:bootBuiltins x=some (.builtin id))(ha:PA X 2#5 t)(hn:autoParam (x≠"__name__") 11#0)(Xj:autoParam (9#1=false) 11#0)
  (he:autoParam 11#1 2#0) (ZP:autoParam 13#6 2#0):PE X (.Call (.Name x p) 2#5 [] pos) (tCB r t):=by
 intro pins s σ H Q I h;refine dP (kX I hg hm hv ?_ hn Xj);exact PyProof.Rows.callWith_builtin1 (thn (ha _ _ s σ H _ I h) λus s1 ⟨vs,H1,I1,r1,q1⟩=>hc _ s1 σ H1 vs us Q I1 r1 q1) he ZP
theorem jU(hc:gZ X (.type T) r)(hg:Gl X x)(hm:X.mg x=none)(hv:bootBuiltins x=some (.type T))(ha:PA X 2#5 t)(hn:autoParam (x≠"__name__") 11#0)(Xj:autoParam (9#1=false) 11#0)
  (he:autoParam 11#1 2#0) (ZP:autoParam 13#6 2#0):PE X (.Call (.Name x p) 2#5 [] pos) (tCB r t):=by
 intro pins s σ H Q I h;refine dP (kX I hg hm hv ?_ hn Xj);exact dD (thn (ha _ _ s σ H _ I h) λus s1 ⟨vs,H1,I1,r1,q1⟩=>hc _ s1 σ H1 vs us Q I1 r1 q1) he ZP
end
end _L
namespace HT
open PySem PyProof.Rows
section
open PySem.SeqAt
open PySem.AutoSeq1 (wpAny_loadPart')
open PySem.MeetsSeq PySem.MeetsSeq2 PySem.MeetsSeq3
end
section
variable {prog:Program}{w:World}{A:Around}{E:Value->Shared->Prop}{s:Shared}
variable{Q:Value->Shared->Prop}
theorem cat_tup{t b:Addr}{vs ws:List Value}(ht:IsTup s.heap t vs.toArray)(hb:IsTup s.heap b ws.toArray)(hv:vs≠[])
  (h1:ws=[]->Q (.ref t) s) (h2:ws ≠ []->Q (.ref 1#2) { s with heap:=s.heap.push { cls := .type "tuple",data := .seq (vs++ws).toArray } })
  (hsz:3#7+ws.length<=sizeLine):aT 4#9 A (binaryOp .Add (.ref t) (.ref b)) Q E s:=by
 obtain⟨⟨cls,dd,data,sl⟩,ho,hc,n,hd⟩:=id ht;obtain⟨⟨cls2,dd2,data2,sl2⟩,Xv,XN,n2,hd2⟩:=id hb;subst hc hd XN hd2;have e:vs.toArray++ws.toArray=(vs++ws).toArray:=by simp
 by_cases hw:ws=[]
 .exact concat_meets ⟨_,ho,rfl⟩ ⟨_,Xv,rfl⟩ noFill_tuple_add seq_tuple_add nQ mL (mB _ _)
   (tuple_addW1 t b _ _ n n2 dd _ sl _ (by simpa using hv) (by simp[hw])) ⟨ho,Xv,h1 hw⟩
 .refine concat_meets ⟨_,ho,rfl⟩ ⟨_,Xv,rfl⟩ noFill_tuple_add seq_tuple_add nQ mL (mB _ _)
   (tuple_addW2 t b _ _ n n2 dd _ sl _ (by simpa using hv) (by simpa using hw) 0#2) ⟨ho,Xv,?_⟩
  rw[e];exact h2 hw
def sIx(n d:Nat):Option Int->Nat
 |none=>d
 |some v=>if v<0 then(v+(n:Int)).toNat else min v.toNat n
theorem sIx_nat(n d k:Nat):sIx n d (some (k:Int))=min k n:=by
 show(if k<0 then(k+(n:Int)).toNat else min _ n)=min k n
 simp_all
theorem Uw(n d:Nat)(hd:d<=n)(o:Option Int):sIx n d o<=n:=by
 cases o with
 |none=>exact hd
 | some v=>
   show(if v<0 then(v+n).toNat else min _ n)<=n
   grind
theorem Ej(v:Int)(n d:Nat):(if v<0 then max (v+(n:Int)) 0 else min v (n:Int))=((sIx n d (some v):Nat):Int):=by
 show(if v<0 then max _ 0 else min v _)=(((if v<0 then(v+n).toNat else min _ n)))
 grind
theorem BC(lo hi:Option Int)(n:Nat):gh lo hi 1 (n:Int)=(((sIx n 0 lo:Nat):Int),((sIx n n hi:Nat):Int)):=by
 refine Prod.ext ?_ ?_
 .cases lo with
  |none=>rfl
  |some v=>exact Ej v n 0
 .cases hi with
  |none=>rfl
  |some v=>exact Ej v n n
theorem Cz(i j:Nat):dn (i:Int) (j:Int) 1=j-i:=by
 unfold dn
 grind
theorem slicePart_{v:Value}{o:Option Int}{Q:Option Int->Shared->Prop}(p:IsPart v o)(h:Q o s):aT 4#9 A (Builtin.Slice.slicePartIndex v) Q E s:=by
 cases p with
 |none=>exact slicePart_none h
 |int i t=>exact slicePart_int h
theorem lB{sl:Addr}{vl vu:Value}{lo hi:Option Int}{n:Nat}{Q:Int×Int×Nat->Shared->Prop}(hs:s.heap.IsSliceOf sl vl vu .none)(pl:IsPart vl lo)(pu:IsPart vu hi)
  (h:Q (((sIx n 0 lo:Nat):Int),1,sIx n n hi-sIx n 0 lo) s):aT 4#9 A (jP (.ref sl) (pure (n:Int))) Q E s:=by
 obtain⟨os,YQ,Zi,Ye⟩:=id hs;refine ax (ax (o3 YQ Ye (x:=vl) rfl (ax (o3 YQ Ye (x:=vu) rfl (ax (o3 YQ Ye rfl (aJ ?_)))))));refine ax (slicePart_none ?_);refine ax (slicePart_ pl (ax (slicePart_ pu (ax (aJ ?_)))));show aT _ _ (match gh lo hi 1 _ with | (lo,hi)=>pure (lo,(1:Int),dn lo hi 1)) _ _ s;rw[BC lo hi n];show aT _ _ (pure _) _ _ s;rw[Cz];exact aJ h
theorem HV(xs:Array Value)(i k:Nat):((aA k).filterMap λ(m:Nat)=>xs[((i:Int)+(m:Int)*1).toNat]?).toArray=((xs.toList.drop i).take k).toArray:=by
 have e:(λ(m:Nat)=>xs[(i+(m:Int)*1).toNat]?)=λm=>xs[i+m]? := by
  grind
 have:=pick_run xs i k;have e2:((λx=>xs[x]?)∘λx=>i+x)=λm=>xs[i+m]? := rfl
 simp_all
theorem getItem_tuple_cut{t sl:Addr}{items:Array Value}{vl vu:Value}{lo hi:Option Int}(ht:IsTup s.heap t items)(hs:s.heap.IsSliceOf sl vl vu .none)(pl:IsPart vl lo)(pu:IsPart vu hi)
  (hw: ¬(sIx items.size 0 lo=0/\sIx items.size items.size hi=5#1))
  (h:Q (.ref 1#2) { s with heap:=s.heap.push { cls := .type "tuple",data := .seq ((items.toList.drop (sIx items.size 0 lo)).take (sIx items.size items.size hi-sIx items.size 0 lo)).toArray } })
  (hsz:5#1<=sizeLine):aT 4#9 A (getItem (.ref t) (.ref sl)) Q E s:=by
 have Zl:=by
  show((items.toList.drop (sIx items.size 0 lo)).take (sIx items.size items.size hi-sIx items.size 0 lo)).toArray.size<=sizeLine;rw[bV,iq,om,kK];omega
 obtain⟨os,YQ,Zi,Ye⟩:=id hs;have VW:s.TypeIs (.ref sl) _:=⟨os,YQ,Zi⟩;unfold getItem
 try with_reducible refine fL ?_
 refine ax (Bk ht.typeIs 0#1 ?_)
 refine ax (rD ht.typeIs dg
  (lb dg ht.typeIs entry_tuple_getitem ?_ (args_tuple_getitem _ _)))
 show aT _ _ (jQ _ >>= _) _ _ s;refine ax (tupleItemsOf_ ht ?_);refine ax (ke VW ?_);refine ax (lB hs pl pu ?_);have Xp: ¬((((sIx items.size 0 lo):Int)==0&&(1:Int)==1&&(sIx items.size items.size hi-sIx items.size 0 lo)==5#1)=true):=by
  grind
 show aT _ _ (if (((sIx _ 0 lo):Int)==0&&1==1&&(sIx _ _ hi-sIx _ 0 lo)==5#1)=true then _ else _) _ _ s;rw[if_neg Xp,HV]
 first
  |exact ax (dF (aJ ⟨_,rfl,aJ h⟩) Zl)
  |grind
  |grind
  |grind
end
end HT
namespace _L
open PySem PySem.Spec PyProof.Rows
abbrev TO:=St->Hp->(Option Int->Hp->Prop)->Prop
def PO(X:Cx)(e:Option Expr)(t:TO):Prop:=
 ∀(pins:List 2#9) (s:Shared) (σ:St) (H:Hp) (Q:Option Int->Hp->Prop),Inv X pins σ H s->t σ H Q ->
  aT 1#8 X.A (evalPart e X.env) (λu s'=>∃o H',Inv X pins σ H' s'/\IsPart u o/\Q o H') X.xe s
def DJ:TO:=λ_ H Q=>Q none H
def Nk(t:TE):TO:=λσ H Q=>t σ H λx H1=>∃i,x=.int i/\Q (some i) H1
section
variable {X:Cx}{e:Expr}{te:TE}{lo hi:Option Expr}{tl th:TO}{pos p2:Pos}
theorem Mf:PO X none DJ:=by
 intro pins s σ H Q I h;exact aJ ⟨_,H,I,.none,h⟩
theorem LJ(h:PE X e te):PO X (some e) (Nk te):=by
 intro pins s σ H Q I hw;refine thn (h _ s σ H _ I hw) λu s1 ⟨x,H1,I1,r1,q1⟩=>?_;obtain⟨i,rfl,q⟩:=q1;obtain⟨t,rfl⟩:=r1;exact⟨_,H1,I1,.int i t,q⟩
def SlR(X:Cx)(r:V->Option Int->Option Int->Hp->VK->Prop):Prop:=
 ∀(pins:List 2#9) (s:Shared) (σ:St) (H:Hp) (x:V) (v vl vu:Value) (lo hi:Option Int) (sl:Addr) (Q:VK),Inv X pins σ H s->RelV x v->s.heap.IsSliceOf sl vl vu .none->IsPart vl lo->IsPart vu hi->r x lo hi H Q ->
  ∃ T id,typeLookup (.type T) "__getitem__"=pure (some (.builtin id))/\s.TypeIs v T/\aT 1#8 X.A (getItem v (.ref sl)) 9#2 X.xe s
variable{r:V->Option Int->Option Int->Hp->VK->Prop}
theorem SlR.or{r':V->Option Int->Option Int->Hp->VK->Prop}(h:SlR X r)(h':SlR X r'):SlR X (λx lo hi H Q=>r x lo hi H Q\/r' x lo hi H Q):=by
 intro pins s σ H x v vl vu lo hi sl Q I rx hs pl pu q;rcases q with q|q
 .exact h _ s σ H x v vl vu lo hi sl Q I rx hs pl pu q
 .exact h' _ s σ H x v vl vu lo hi sl Q I rx hs pl pu q
def tSl(r:V->Option Int->Option Int->Hp->VK->Prop)(te:TE)(tl th:TO):TE:=λσ H Q=>te σ H λx H1=>tl σ H1 λl H2=>th σ H2 λu H3=>r x l u H3 Q
theorem Io(hr:SlR X r)(he:PE X e te)(hl:PO X lo tl)(hu:PO X hi th):PE X (.Subscript e (.Slice lo hi none p2) pos) (tSl r te tl th):=by
 intro pins s σ H Q I h;refine Subscript_ (thn (he _ s σ H _ I h) λv s1 ⟨x,H1,I1,r1,q1⟩=>?_);refine wpAny_Slice (thn (hl _ s1 σ H1 _ I1 q1) λvl s2 ⟨l,H2,I2,pl,q2⟩=>thn (hu _ s2 σ H2 _ I2 q2) λvu s3 ⟨u,H3,I3,pu,q3⟩=>?_);refine aJ ?_;have I4:Inv X _ σ H3 { s3 with heap:=s3.heap.push { cls := .type "slice",data := .fields #[vl,vu,.none] } }:=I3.kept fun b ob q=>ar _ q;obtain⟨T,id,hT,ht,hg⟩:=hr _ _ σ H3 x v vl vu l u _ Q I4 r1 (oo ..) pl pu q3;exact tail_any ht hT hg (by with_unfolding_all rfl)
def Es(xs:List V)(lo hi:Option Int):List V:=(xs.drop (HT.sIx xs.length 0 lo)).take (HT.sIx xs.length xs.length hi-HT.sIx xs.length 0 lo)
theorem tq(xs:List V)(lo hi:Option Int):(Es xs lo hi).length<=1#5:=by
 unfold Es;rw[iq,om];omega
def RK(K:ao):V->Option Int->Option Int->Hp->VK->Prop:=λx lo hi H Q=>∃a xs,x=.ref a/\SqT K H a xs /\
 ¬(HT.sIx xs.length 0 lo=0/\HT.sIx xs.length xs.length hi=1#5) /\ ∀p,H p=none->Q (.ref p) (upd H p (.tup (Es xs lo hi)))
theorem OG:SlR X (RK X.K):=by
 intro pins s σ H x v vl vu lo hi sl Q I rx hs pl pu h;obtain⟨a,xs,rfl,hx,hw,q⟩:=h;cases rx;obtain⟨ZZ,r,ht,hz⟩:=I.tuple hx;have hlen:15#9=1#5:=by exact r.length.symm
 refine⟨_,_,PyProof.Rows.slot_tuple_getitem.lookup,ht.typeIs,?_⟩;refine HT.getItem_tuple_cut ht hs pl pu (by rw[hlen];omega) ?_ (by rw[hlen];omega);rw[hlen];refine⟨.ref _,_,I.laid 16#8 1#6 ?_,rfl,q _ 15#7⟩;exact⟨aB (tq xs lo hi) hz,_,(r.drop _).take _,nR _ _,_,aH _ rfl,rfl⟩
def M9(K:ao):R2:=λx y H Q=>∃a b xs ys,x=.ref a/\y=.ref b/\SqT K H a xs/\SqT K H b ys/\xs≠[]/\1#5+3#6<=sizeLine /\
 (ys=[]->Q (.ref a) H)/\(ys≠[]->∀p,H p=none->Q (.ref p) (upd H p (.tup (xs++ys))))
theorem cz.nil_iff{xs:List V}{us:List Value}(r:cz xs us):us=[]↔xs=[]:=by
 cases r<;>simp_all
theorem LL:OpR X (binaryOp .Add) (M9 X.K):=by
 intro pins s σ H x y v u Q I rx ry h;obtain⟨a,b,xs,ys,rfl,rfl,ha,hb,hx,hz,q1,q2⟩:=h;cases rx;cases ry;obtain⟨ZZ,r1,p1,_⟩:=I.tuple ha;obtain⟨ZA,r2,p2,_⟩:=I.tuple hb;refine HT.cat_tup p1 p2 (λz=>hx (r1.nil_iff.mp z)) (λz=>⟨.ref a,H,I,rfl,q1 (r2.nil_iff.mp z)⟩) (λz=>?_) (by rw[<-r1.length,<-r2.length];omega);refine⟨.ref _,_,I.laid 16#8 1#6 ?_,rfl,q2 (λw=>z (r2.nil_iff.mpr w)) _ 15#7⟩;exact⟨by simp_all,_,r1.append r2,nR _ _,_,aH _ rfl,rfl⟩
end
def ixN(n:Nat)(i:Int):Option Nat:=if 0<=i then(if i<n then some i.toNat else none) else if -(n:Int)<=i then some (i+n).toNat else none
def atI{α:Type}(xs:List α)(i:Int):Option α:=(ixN xs.length i).bind λj=>xs[j]?
variable{n:Nat}{i:Int}
theorem Ec{j:Nat}(h:ixN n i=some j):seqIndex? i n=some j/\j<n /\ -(n:Int)<=i/\i<n:=by
 unfold ixN at h;by_cases h0:0<=i
 .rw[if_pos h0]at h
  by_cases h1:i<n
  .rw[if_pos h1]at h
   have e:=dJ h;exact⟨by rw[seqIndex_of h0 h1,e],by omega,by omega,h1⟩
  simp_all
 .rw[if_neg h0]at h
  by_cases h1: -n<=i
  .rw[if_pos h1]at h
   have e:=dJ h;exact⟨by rw[seqIndex_neg 0#2 h1,e],by omega,h1,by omega⟩
  simp_all
theorem yB{α:Type}{xs:List α}{v:α}(h:atI xs i=some v):∃j,seqIndex? i 1#5=some j/\xs[j]?=some v/\j<1#5 /\ -(1#5:Int)<=i/\i<1#5:=by
 unfold atI at h;cases e:ixN _ i with
 |none=>rw[e]at h;cases h
 | some j=>
   rw[e]at h;obtain⟨h1,h2,h3,h4⟩:=Ec e;exact⟨j,h1,h,h2,h3,h4⟩
def yG(b:Expr):Prop:= ∀o i,subscripted b false o i=operate [o,i] (getItem o i)
def IxR(X:Cx)(r:R2):Prop:=
 ∀(value slice:Expr) (pins:List 2#9) (s:Shared) (σ:St) (H:Hp) (x y:V) (v u:Value) (Q:VK),Inv X pins σ H s->RelV x v->RelV y u->r x y H Q ->
  subscripted slice false v u=operate [v,u] (getItem v u)->aT 1#8 X.A (subscriptTail value slice v u) 9#2 X.xe s
def MtR(X:Cx)(id:String)(r:V->List V->Hp->VK->Prop):Prop:=
 ∀(pins:List 2#9) (s:Shared) (σ:St) (H:Hp) (x:V) (xs:List V) (v:Value) (us:List Value) (Q:VK),Inv X pins σ H s->RelV x v->cz xs us->r x xs H Q ->
  aT 1#8 X.A (call (.builtin id) (v::us)) 9#2 X.xe s
section
variable {X:Cx}{a b:Expr}{ta tb:TE}{pos:Pos}
theorem IxR.or{r r':R2}(h:IxR X r)(h':IxR X r'):IxR X (λx y H Q=>r x y H Q\/r' x y H Q):=by
 intro value slice pins s σ H x y v u Q I rx ry q hs;rcases q with q|q
 .exact h _ _ _ s σ H x y v u Q I rx ry q hs
 .exact h' _ _ _ s σ H x y v u Q I rx ry q hs
theorem Nb{r:R2}(hr:IxR X r)(ha:PE X a ta)(hb:PE X b tb)(hs:yG b):PE X (.Subscript a b pos) (tOp r ta tb):=by
 intro pins s σ H Q I h;exact Subscript_ (Pi ha hb I h λv u s2 x y H2 I2 rx ry q=>hr a b _ s2 σ H2 x y v u Q I2 rx ry q (hs _ _))
def SL(K:ao):R2:=λx y H Q=>∃p xs i v,x=.ref p/\y=.int i/\SqL K H p xs/\atI xs i=some v/\Q v H
def TY(K:ao):R2:=λx y H Q=>∃p xs i v,x=.ref p/\y=.int i/\SqT K H p xs/\atI xs i=some v/\Q v H
def SE:R2:=λx y H Q=>∃z i c,x=.str z/\y=.int i/\z.length<=sizeLine/\atI z.cps.toList i=some c/\Q (.str ⟨#[c]⟩) H
theorem Kb:IxR X (SL X.K):=by
 intro value slice pins s σ H x y v u Q I rx ry h hs;obtain⟨p,xs,i,z,rfl,rfl,hq,he,q⟩:=h;cases rx;obtain⟨t,rfl⟩:=ry;obtain⟨ZZ,r,pl,hz⟩:=I.list hq;obtain⟨j,h1,h2,h3,h4,h5⟩:=yB he;obtain⟨w,ew,Zx⟩:=r.get h2;have hl:=r.length;have hn:=wy;have fin:EP X _ σ Q w s:=⟨z,H,I,Zx,q⟩;by_cases h0:0<=i
 .have hj:=by
   rw[seqIndex_of h0 h5]at h1;exact dJ h1
  exact item_listR pl.isList h0 0#2 (by rw[hj];simpa using ew) fin hs
 .have hj:(i+15#9).toNat=j:=by
   rw[seqIndex_neg 0#2 h4]at h1<;>simp_all
  exact subscriptTail_builtinR pl.isList.typeIs slot_list_getitem.lookup
   (wpAny_getItem_list_neg pl.isList 0#2 12#3 0#2 (by rw[hj];simpa using ew) ⟨rfl,fin⟩) hs
theorem NM:IxR X (TY X.K):=by
 intro value slice pins s σ H x y v u Q I rx ry h hs;obtain⟨p,xs,i,z,rfl,rfl,hq,he,q⟩:=h;cases rx;obtain⟨t,rfl⟩:=ry;obtain⟨ZZ,r,pl,hz⟩:=I.tuple hq;obtain⟨j,h1,h2,h3,h4,h5⟩:=yB he;obtain⟨w,ew,Zx⟩:=r.get h2;have hl:=r.length;have hn:=wy;have fin:EP X _ σ Q w s:=⟨z,H,I,Zx,q⟩;exact subscriptTail_builtinR pl.typeIs slot_tuple_getitem.lookup
  (getItem_tuple (j:=j) pl 0#2 0#2 12#3 (by simpa using ew) ⟨rfl,fin⟩) hs
theorem NH:IxR X SE:=by
 intro value slice pins s σ H x y v u Q I rx ry h hs;obtain⟨z,i,c,rfl,rfl,hz,he,q⟩:=h;obtain⟨t,rfl⟩:=rx;obtain⟨t',rfl⟩:=ry;obtain⟨j,h1,h2,h3,h4,h5⟩:=yB he;have hl:z.cps.toList.length=z.length:=by simp[Str.length]
 rw[hl]at h1 h4 h5;have hn:=wy
 exact tail_any (typeIs_str s z t) slot_str_getitem.lookup (getItem_str (by
  grind) (by rw[h1];simpa using h2) ⟨.str _,H,I.tok _,⟨_,rfl⟩,q⟩) hs
def rIx(K:ao):R2:=λx y H Q=>SL K x y H Q\/TY K x y H Q\/SE x y H Q
theorem QA:IxR X (rIx X.K):=Kb.or (NM.or NH)
theorem BM(ZZ:List Value)(n j:Nat)(u:Value):eU (·.setIfInBounds j u) { cls := .type "list",data := .seq ZZ.toArray n }={ cls := .type "list",data := .seq (ZZ.set j u).toArray n }:=by
 simp[eU]
theorem Inv.lst{pins:List (Addr×Obj)}{σ:St}{H:Hp}{s:Shared}{p:Addr}{xs:List V}(I:Inv X pins σ H s)(h:H p=some 8#8):
  ∃ (ZZ:List Value) (n:Nat),cz xs ZZ/\s.heap.get? p=some { cls := .type "list",data := .seq ZZ.toArray n }/\1#5<=sizeLine:=by
 obtain⟨z,ZZ,n,r,e⟩:=I.hok p _ h;exact⟨_,n,r,e,z⟩
variable{pins:List (Addr×Obj)}{σ:St}{s:Shared}
theorem Inv.lstUpd{H:Hp}{p:Addr}{xs ys:List V}{ZZ Zp:List Value}{n':Nat}{f:Obj->Obj}(I:Inv X pins σ H s)(h:H p=some 8#8)
  (ho:s.heap.get? p=some { cls := .type "list",data := .seq ZZ.toArray n }) (hf:f { cls := .type "list",data := .seq ZZ.toArray n }={ cls := .type "list",data := .seq Zp.toArray n' }) (r:cz ys Zp) (hz:3#6<=sizeLine) (t:Nat) :
  Inv X pins σ (upd H p (.lst ys)) { s with heap:=s.heap.update p f,toks:=t }:=by
 have e:(s.heap.update p f).get? p=some { cls := .type "list",data := .seq Zp.toArray n' }:=by
  rw[jR f ho (by rw[hf]<;>rfl),hf]
 refine I.write (by rw[h];trivial) 6#6 (λb u hb q=>(dS _ _ (dO hb)).trans q) ⟨_,e⟩ ?_;exact⟨hz,_,n',r,e⟩
def MP:V->V->V->Hp->(Hp->Prop)->Prop:=λo i v H Q=>∃p xs k j,o=.ref p/\i=.int k/\H p=some 8#8/\ixN xs.length k=some j/\Q (upd H p (.lst (xs.set j v)))
theorem set_list:NP X MP:=by
 intro pins s σ H o i v ov iv u Q I ro ri rv h;obtain⟨p,xs,k,j,rfl,rfl,hp,hj,q⟩:=h;cases ro;obtain⟨t,rfl⟩:=ri;obtain⟨ZZ,n,r,ho,hz⟩:=I.lst hp;obtain⟨h1,h2,h3,h4⟩:=Ec hj;have hl:=r.length;have hn:=wy;have I':=
  I.lstUpd hp ho (BM _ n j u) (r.set rv j) 12#3 s.toks
 by_cases h0:0<=k
 .have hk:=by
   rw[seqIndex_of h0 h4]at h1;exact dJ h1
  exact PySem.W.ki_setAt ho h0 0#2 12#3 (by rw[hk];exact⟨_,I',q⟩)
 .have hk:(k+15#9).toNat=j:=by
   rw[seqIndex_neg _ h3]at h1<;>simp_all
  exact PySem.W.ki_setBack ho 0#2 12#3 0#2 (by rw[hk];exact⟨_,I',q⟩)
theorem zy(lo hi:Option Int)(n:Nat):(sliceBounds lo hi none n).1=((HT.sIx n 0 lo:Nat):Int)/\(sliceBounds lo hi none n).2.1=((HT.sIx n n hi:Nat):Int)/\(sliceBounds lo hi none n).2.2=1:=by
 refine⟨?_,?_,rfl⟩
 .cases lo with
  |none=>simp[sliceBounds,HT.sIx]
  | some i=>
    simp[sliceBounds,HT.sIx,Option.getD_none,show(1:Int)>0 by decide,if_true];by_cases h:i<0
    .simp only[h,if_true]<;>omega
    .simp[h,if_false]<;>omega
 .cases hi with
  |none=>simp[sliceBounds,HT.sIx]
  | some i=>
    simp[sliceBounds,HT.sIx,Option.getD_none,show(1:Int)>0 by decide,if_true];by_cases h:i<0
    .simp only[h,if_true]<;>omega
    .simp[h,if_false]<;>omega
theorem xn(ZZ:List Value)(lo hi:Option Int):slicePick ZZ.toArray lo hi none=((ZZ.drop (HT.sIx ZZ.length 0 lo)).take (HT.sIx ZZ.length ZZ.length hi-HT.sIx ZZ.length 0 lo)).toArray:=by
 obtain⟨h1,h2,h3⟩:=zy lo hi _;unfold slicePick;rw[h1,h2,h3];simp only[sliceRange_one,pick_run]<;>rfl
def QT(K:ao):V->Option Int->Option Int->Hp->VK->Prop:=λx lo hi H Q=>∃a xs,x=.ref a/\SqL K H a xs /\ ∀p,H p=none->Q (.ref p) (upd H p (.lst (Es xs lo hi)))
theorem LO:SlR X (QT X.K):=by
 intro pins s σ H x v vl vu lo hi sl Q I rx hs pl pu h;obtain⟨a,xs,rfl,hx,q⟩:=h;cases rx;obtain⟨ZZ,r,ht,hz⟩:=I.list hx;have hlen:=r.length;refine⟨_,_,slot_list_getitem.lookup,ht.isList.typeIs,?_⟩;refine wpAny_getItem_list_slice ht.isList hs pl pu .none 0#6 ?_ (by grind);rw[xn,<-hlen];refine⟨.ref _,_,I.laid 16#8 1#6 ?_,rfl,q _ 15#7⟩;exact⟨aB (tq xs lo hi) hz,_,0,(r.drop _).take _,aH _ rfl⟩
def oO:V->Bool
 |.non=>true
 |.bl _=>true
 |.int _=>true
 |.str _=>true
 |_=>false
def eqV:V->V->Bool
 |.non,.non=>true
 |.bl a,.bl b=>a==b
 |.bl a,.int b=>(if a then 1 else 0)==b
 |.int a,.bl b=>a==(if b then 1 else 0)
 |.int a,.int b=>a==b
 |.str a,.str b=>a==b
 |_,_=>false
variable{x:V}
theorem P9{A:Around}{y:V}{u v:Value}(ry:RelV y u)(rx:RelV x v)(fy:oO y=true)(fx:oO x=true):SeqAt.EqAt A s u v (eqV y x):=by
 cases y with
 | non=>
   cases ry;cases x with
   |non=>cases rx;exact SeqAt.EqAt.same _
   |bl b=>cases rx;exact SeqAt.EqAt.none_bool b
   |int b=>obtain⟨t,rfl⟩:=rx;exact SeqAt.EqAt.none_int b t
   |str b=>obtain⟨t,rfl⟩:=rx;exact SeqAt.EqAt.none_str b t
   |_=>exact absurd (fx) du
 | bl a=>
   cases ry;cases x with
   |non=>cases rx;exact SeqAt.EqAt.bool_none a
   |bl b=>cases rx;exact SeqAt.EqAt.bool_bool a b
   |int b=>obtain⟨t,rfl⟩:=rx;exact SeqAt.EqAt.bool_int a b t
   |str b=>obtain⟨t,rfl⟩:=rx;exact SeqAt.EqAt.bool_str a b t
   |_=>exact absurd (fx) du
 | int a=>
   obtain⟨t',rfl⟩:=ry;cases x with
   |non=>cases rx;exact SeqAt.EqAt.int_none a t'
   |bl b=>cases rx;exact SeqAt.EqAt.int_bool a t' b
   |int b=>obtain⟨t,rfl⟩:=rx;exact SeqAt.EqAt.int_int a t' b t
   |str b=>obtain⟨t,rfl⟩:=rx;exact El a t' b t
   |_=>exact absurd (fx) du
 | str a=>
   obtain⟨t',rfl⟩:=ry;cases x with
   |non=>cases rx;exact SeqAt.EqAt.str_none a t'
   |bl b=>cases rx;exact SeqAt.EqAt.str_bool a t' b
   |int b=>obtain⟨t,rfl⟩:=rx;exact Em a t' b t
   |str b=>obtain⟨t,rfl⟩:=rx;exact SeqAt.EqAt.str_str a t' b t
   |_=>exact absurd (fx) du
 |_=>exact absurd (fy) du
def eqU(x:V)(u:Value):Bool:=match u with
 |.none=>eqV .non x
 |.bool b=>eqV (.bl b) x
 |.int i _=>eqV 3#0 x
 |.str z _=>eqV (.str z) x
 |_=>false
theorem HP{y:V}{u:Value}(r:RelV y u)(f:oO y=true):eqU x u=eqV y x:=by
 cases y with
 |non=>cases r;rfl
 |bl b=>cases r;rfl
 |int i=>obtain⟨t,rfl⟩:=r;rfl
 |str z=>obtain⟨t,rfl⟩:=r;rfl
 |_=>exact absurd (show false=true from f) du
theorem qN{x:V}:∀{xs:List V}{us:List Value},cz xs us->xs.all oO=true->us.any (eqU x)=xs.any λy=>eqV y x
 |_,_,.nil,_=>rfl
 | y::xs,u::us,.cons r t,f=>by
   rw[bK,av]at f;rw[gy,gy,HP r f.1,qN t f.2]
theorem m9{A:Around}{s:Shared}{x:V}{v:Value}(rx:RelV x v)(fx:oO x=true):∀{xs:List V}{us:List Value},cz xs us->xs.all oO=true->∀u∈us,SeqAt.EqAt A s u v (eqU x u)
 |_,_,.nil,_=>λu hu=>by cases hu
 | y::xs,u::us,.cons r t,f=>λu' hu=>by
   rw[bK,av]at f;rcases a7.mp hu with rfl|hu
   .rw[HP r f.1];exact P9 r rx f.1 fx
   .exact m9 rx fx t f.2 u' hu
def inV(x:V)(xs:List V):Bool:=xs.any λy=>eqV y x
def rIn(K:ao)(neg:Bool):R2:=λx y H Q=>∃p xs,y=.ref p/\(SqL K H p xs\/SqT K H p xs)/\oO x=true/\xs.all oO=true/\Q (.bl (if neg then !inV x xs else inV x xs)) H
theorem EJ:OpR X (compareOp .In) (rIn X.K false):=by
 intro pins s σ H x y v u Q I rx ry h;obtain⟨p,xs,rfl,hq,fx,fs,q⟩:=h;cases ry;rcases hq with hq|hq
 .obtain⟨ZZ,r,pl,hz⟩:=I.list hq
  refine SeqAt.in_listAt _ pl.isList 24#8 ⟨.bl _,H,I,rfl,?_⟩;rw[show ZZ.toArray.any _=ZZ.any (eqU x) by simp,qN r fs];exact q
 .obtain⟨ZZ,r,pl,hz⟩:=I.tuple hq
  refine SeqAt.in_tupleAt _ pl 24#8 ⟨.bl _,H,I,rfl,?_⟩;rw[show ZZ.toArray.any _=ZZ.any (eqU x) by simp,qN r fs];exact q
theorem zc:OpR X (compareOp .NotIn) (rIn X.K true):=by
 intro pins s σ H x y v u Q I rx ry h;obtain⟨p,xs,rfl,hq,fx,fs,q⟩:=h;cases ry;rcases hq with hq|hq
 .obtain⟨ZZ,r,pl,hz⟩:=I.list hq
  refine SeqAt.notIn_listAt _ pl.isList 24#8 ⟨.bl _,H,I,rfl,?_⟩;rw[show ZZ.toArray.any _=ZZ.any (eqU x) by simp,qN r fs];exact q
 .obtain⟨ZZ,r,pl,hz⟩:=I.tuple hq
  refine SeqAt.notIn_tupleAt _ pl 24#8 ⟨.bl _,H,I,rfl,?_⟩;rw[show ZZ.toArray.any _=ZZ.any (eqU x) by simp,qN r fs];exact q
theorem yJ:gZ X (.builtin "len") (fun xs H Q=>∃ p ys,xs=[.ref p]/\(SqL X.K H p ys\/SqT X.K H p ys)/\Q (.int 3#6) H):=by
 intro pins s σ H xs us Q I r h;obtain⟨p,ys,rfl,hq,q⟩:=h;obtain⟨u,rfl,rx⟩:=vals1 r;cases rx;have hn:=wy;rcases hq with hq|hq
 .obtain⟨ZZ,r',pl,hz⟩:=I.list hq
  have hlen:=r'.length;exact Calls.call_len_list pl.isList (by simp only[bV]<;>omega) ⟨.int _,H,I.tok _,⟨_,by rw[bV,hlen]⟩,q⟩
 .obtain⟨ZZ,r',pl,hz⟩:=I.tuple hq
  have hlen:=r'.length;exact len_tuple pl (by simp only[bV]<;>omega) ⟨.int _,H,I.tok _,⟨_,by rw[bV,hlen]⟩,q⟩
theorem gZ.or{f:Value}{r r':List V->Hp->VK->Prop}(h:gZ X f r)(h':gZ X f r'):gZ X f (λxs H Q=>r xs H Q\/r' xs H Q):=by
 intro pins s σ H xs us Q I rs q;rcases q with q|q
 .exact h _ s σ H xs us Q I rs q
 .exact h' _ s σ H xs us Q I rs q
theorem zf:gZ X (.type "list") (fun xs H Q=>∃ p ys,xs=[.ref p]/\(SqL X.K H p ys\/SqT X.K H p ys) /\ ∀ l,H l=none->Q (.ref l) (upd H l (.lst ys))):=by
 intro pins s σ H xs us Q I r h;obtain⟨p,ys,rfl,hq,q⟩:=h;obtain⟨u,rfl,rx⟩:=vals1 r;cases rx;have fin:∀(ZZ:List _),cz ys _->3#6<=sizeLine->∀(h':Heap) (c':Nat),22#3 ->
   h'.get? _=some _->EP X _ σ Q _ _:=λZZ r' hz h' c' kp e=>
  ⟨.ref _,_,I.laid (t':=s.toks) kp 1#6 (show eg _ _ _ h' _ (.lst ys) from⟨hz,ZZ,c',r',e⟩),rfl,q _ 15#7⟩
 rcases hq with hq|hq
 .obtain⟨ZZ,r',pl,hz⟩:=I.list hq
  have hlen:=r'.length;obtain⟨o,ho,hc,n,hd⟩:=pl.isList;exact call_list_seq p 6#6 ho hc hd (λh' c' kp e=>fin _ r' hz h' c' kp e) (by simp<;>omega)
 .obtain⟨ZZ,r',pl,hz⟩:=I.tuple hq
  have hlen:=r'.length;obtain⟨o,ho,hc,n,hd⟩:=pl;exact call_list_seq p (.inr rfl) ho hc hd (λh' c' kp e=>fin _ r' hz h' c' kp e) (by simp<;>omega)
theorem xr:gZ X (.type "tuple") (fun xs H Q=>∃ p ys,xs=[.ref p]/\((SqL X.K H p ys /\ ∀ l,H l=none->Q (.ref l) (upd H l (.tup ys)))\/(SqT X.K H p ys/\Q (.ref p) H))):=by
 intro pins s σ H xs us Q I r h;obtain⟨p,ys,rfl,h⟩:=h;obtain⟨u,rfl,rx⟩:=vals1 r;cases rx;rcases h with⟨hq,q⟩|⟨hq,q⟩
 .obtain⟨ZZ,r',pl,hz⟩:=I.list hq
  have hlen:=r'.length;refine call_tuple_list pl.isList (λh' kp=>?_) (by simp<;>omega);have I1:=I.kept (t':=s.toks) kp;have I2:=
   I1.laid (t':=s.toks) (λb o e=>ar _ e) 1#6 (show eg _ _ _ _ _ (.tup ys) from⟨hz,_,r',nR _ _,_,aH _ rfl,rfl⟩)
  exact⟨.ref _,_,I2,rfl,q _ (I1.hok.fresh 1#6)⟩
 .obtain⟨ZZ,r',pl,hz⟩:=I.tuple hq
  exact call_tuple_same pl ⟨.ref p,H,I,rfl,q⟩
def tyV(K:ao)(T:String)(x:V)(H:Hp):Prop:=match x with
 |.str _=>T="str"
 |.int _=>T="int"
 | .ref p=>(T="list" /\ ∃ xs,SqL K H p xs)\/(T="tuple" /\ ∃ o,K.lookup p=some o/\o.cls=.type "tuple"/\o.dict=none) \/
   (T="dict"/\((∃ kvs,H p=some (.dK kvs)) \/ ∃ kvs,H p=some (.dT kvs)))\/(T="set" /\ ∃ S n,H p=some (.set S n))
 |_=>False
theorem Gj{H:Hp}{T:String}{v:Value}(I:Inv X pins σ H s)(r:RelV x v)(ty:tyV X.K T x H):
  s.TypeIs v T /\ ∀a,v=.ref a->∃ob,s.heap.get? a=some ob/\ob.dict=none:=by
 cases x with
 | str z=>
   obtain⟨t,rfl⟩:=r;cases (ty);exact⟨typeIs_str s z t,λ_ e=>nomatch e⟩
 | int i=>
   obtain⟨t,rfl⟩:=r;cases (ty);exact⟨typeIs_int s i t,λ_ e=>nomatch e⟩
 | ref p=>
   cases r;rcases ty with⟨rfl,xs,hq⟩|⟨rfl,o,hk,hc,hd⟩|⟨rfl,hk⟩|⟨rfl,S,n,hk⟩
   .obtain⟨ZZ,_,pl,_⟩:=I.list hq
    refine⟨pl.isList.typeIs,λa e=>?_⟩;obtain⟨o,n,e,c,hd,_⟩:=pl<;>simp_all
   .refine⟨⟨o,I.kIn p o hk,hc⟩,λa e=>?_⟩
    cases e;exact⟨o,I.kIn _ o hk,hd⟩
   .have z:∃o,s.heap.get? p=some o/\o.ExactDict:=by
     rcases hk with⟨kvs,hk⟩|⟨kvs,hk⟩
     .obtain⟨_,_,_,_,o,_,_,e,ex,_⟩:=I.hok p _ hk<;>simp_all
     .obtain⟨_,_,_,_,o,_,_,e,ex,_⟩:=I.hok p _ hk<;>simp_all
    obtain⟨o,e,ex⟩:=z;refine⟨⟨o,e,ex.1⟩,λa e2=>?_⟩;cases e2;exact⟨o,e,ex.2.1⟩
   .obtain⟨o,_,_,_,e,ex,_⟩:=I.hok p _ hk
    refine⟨⟨o,e,ex.1⟩,λa e2=>?_⟩;cases e2;exact⟨o,e,ex.2.1⟩
 |_=>exact ck ty
def RJ(K:ao)(T:String)(r:V->List V->Hp->VK->Prop)(to:TE):TE:=λσ H Q=>to σ H λx H1=>tyV K T x H1/\r x [] H1 Q
def tBM(K:ao)(T:String)(r:V->List V->Hp->VK->Prop)(to:TE)(t:TA):TE:=λσ H Q=>to σ H λx H1=>tyV K T x H1/\t σ H1 λxs H2=>r x xs H2 Q
variable {o e:Expr}{es:List Expr}{to:TE}{t:TA}{name:Str}{apos cpos:Pos}{T id:String}{r:V->List V->Hp->VK->Prop}
theorem Of(pa:PlainAttrs T)(slot:Slot T name id)(L':typeOf (.builtin id)=pure (.type "method_descriptor"))(hm:MtR X id r)(ho:PE X o to)
  (ZD:autoParam (attributeBase o name X.env (eval o X.env)=eval o X.env) 2#0) (ZE:autoParam ((apos.endLine==cpos.line)=true) 2#0):PE X (.Call (.Attribute o name apos) [] [] cpos) (RJ X.K T r to):=by
 intro pins s σ H Q I h;refine wpAny_Call_method0_late ZD ZE (thn (ho _ s σ H _ I h) λv s1 ⟨x,H1,I1,r1,ty,q1⟩=>?_);obtain⟨h1,h2⟩:=Gj I1 r1 ty;exact⟨T,id,pa,slot,L',h1,h2,oH rfl (PySem.evalArgs_none (hm _ s1 σ H1 x [] v [] Q I1 r1 .nil q1))⟩
theorem Dq(pa:PlainAttrs T)(slot:Slot T name id)(L':typeOf (.builtin id)=pure (.type "method_descriptor"))(hm:MtR X id r)(ho:PE X o to)(ha:PA X 2#5 t)
  (ZD:autoParam (attributeBase o name X.env (eval o X.env)=eval o X.env) 2#0)
  (YU:autoParam (((backTo cpos (starEach 2#5 X.env)).all (λx => !x.1)&&(backToKw cpos (keywordEach [] X.env)).all (λx=>x.1.isSome)
   && decide ((e::es).length+([]:List Keyword).length+(if ([]:List Keyword).isEmpty then 0 else 1)<30))=true) au1._auto_1)
  (ZE:autoParam ((apos.endLine==cpos.line)=true) 2#0) (hs:autoParam 11#1 2#0) (YR:autoParam ((backTo cpos 13#1).any (·.1)=false) 2#0):
  PE X (.Call (.Attribute o name apos) 2#5 [] cpos) (tBM X.K T r to t):=by
 intro pins s σ H Q I h;refine wpAny_Call_method_late ZD YU ZE rfl (thn (ho _ s σ H _ I h) λv s1 ⟨x,H1,I1,r1,ty,q1⟩=>?_);obtain⟨h1,h2⟩:=Gj I1 r1 ty;refine⟨T,id,pa,slot,L',h1,h2,?_⟩;have hA:=ha cpos _ s1 σ H1 _ I1 q1;rw[hs]at hA ⊢;refine oH (by show(false||(backTo _ _).any _)=false;rw[YR]<;>rfl) (kf ?_);exact thn hA λus s2 ⟨vs,H2,I2,r2,q2⟩=>hm _ s2 σ H2 x vs v us Q I2 r1 r2 q2
end
def MtM(X:Cx)(id:String)(r:V->List V->Hp->VK->Prop):Prop:=
 ∀(pins:List 2#9) (s:Shared) (σ:St) (H:Hp) (x:V) (xs:List V) (v:Value) (us:List Value) (Q:VK),Inv X pins σ H s->RelV x v->cz xs us->r x xs H Q ->
  aT 1#8 X.A (call (.builtin id) (v::us)) 9#2 X.xe s
theorem cz.one:∀{x:V}{us:List Value},cz [x] us->∃u,us=[u]/\RelV x u:=by
 intro x us h;cases h with |cons r t=>cases t;exact⟨_,rfl,r⟩
theorem cz.zero:∀{us:List Value},cz [] us->us=[]
 |_,.nil=>rfl
theorem cz.dropLast{xs:List V}{us:List Value}(h:cz xs us):cz xs.dropLast us.dropLast:=by
 induction h with
 |nil=>exact .nil
 | cons r t ih=>
   cases t with
   |nil=>exact .nil
   |cons q t'=>exact .cons r ih
theorem cz.eraseIdx:∀{xs:List V}{us:List Value} (i:Nat),cz xs us->cz (xs.eraseIdx i) (us.eraseIdx i)
 |_,_,_,.nil=>.nil
 |_,_,0,.cons _ t=>t
 |_,_,i+1,.cons r t=>.cons r (cz.eraseIdx i t)
theorem cz.rep{xs:List V}{us:List Value}(h:cz xs us):∀k:Nat,cz (aP k xs).flatten (aP k us).flatten
 |0=>.nil
 | k+1=>by
   exact cz.append h (cz.rep h k)
theorem Ph{α:Type}(l:List α):l.eraseIdx (2#8-1)=l.dropLast:=by
 grind
theorem yh{α:Type}:∀(l:List α) (i:Nat),(l.eraseIdx i).length<=2#8
 |[],_=>ak _
 |_::_,0=>cX _
 |_::r,i+1=>Nat.succ_le_succ (yh r i)
section
variable {X:Cx}{pins:List (Addr×Obj)}{σ:St}{H:Hp}{s:Shared}{l b:Addr}{xs ys zs:List V}
variable{ZZ:List Value}{t':Nat}
theorem Inv.lset{Zp:List Value}{f:Array Value->Array Value}(I:Inv X pins σ H s)(hH:H l=some 8#8)
  (e:s.heap.get? l=some { cls := .type "list",data := .seq ZZ.toArray n }) (hf:f ZZ.toArray=Zp.toArray) (hv:cz ys Zp) (hz:3#6<=sizeLine) :
  Inv X pins σ (upd H l (.lst ys)) { s with heap:=s.heap.update l (eU f),toks:=t' }:=by
 have q:=JB e f;rw[hf]at q;refine I.write (by rw[hH];exact trivial) 6#6 (λb' u hb hu=>(dS _ _ (dO hb)).trans hu) ⟨_,q⟩ ?_;exact⟨hz,_,_,hv,q⟩
theorem Inv.lnew(I:Inv X pins σ H s)(hv:cz ys ZZ)(hz:3#6<=sizeLine):
  Inv X pins σ (upd H s.heap.objs.size (.lst ys)) { s with heap:=s.heap.push { cls := .type "list",data := .seq ZZ.toArray },toks:=t' }:=
 I.laid (λ_ _ q=>ar _ q) 1#6 ⟨hz,_,0,hv,aH _ rfl⟩
theorem Inv.fresh(I:Inv X pins σ H s):H 1#2=none:=I.hok.fresh 1#6
theorem Inv.lstM(I:Inv X pins σ H s)(hH:H l=some 8#8):1#5<=sizeLine /\ ∃ (ZZ:List Value) (n:Nat),cz xs ZZ/\1#5=ZZ.length/\s.heap.get? l=some { cls := .type "list",data := .seq ZZ.toArray n }:=by
 obtain⟨z,ZZ,n,r,e⟩:=I.hok l _ hH;exact⟨z,_,n,r,r.length,e⟩
theorem IS(h:n<=sizeLine):wK n=false:=by
 exact decide_eq_false 0#2
end
section
variable {X:Cx}
def Ee:V->List V->Hp->VK->Prop:=λx vs H Q=>∃l xs y,x=.ref l/\vs=[y]/\H l=some 8#8/\1#5<sizeLine/\Q .non (upd H l (.lst (xs++[y])))
theorem Eu:MtM X "list.append" Ee:=by
 intro pins s σ H x vs v us Q I rx rv h;obtain⟨l,xs,y,rfl,rfl,hH,hz,q⟩:=h;cases rx;obtain⟨u,rfl,ru⟩:=rv.one;obtain⟨z,ZZ,n,r,hl,e⟩:=I.lstM hH;refine call_meets F.slot_list_append ⟨_,e,rfl⟩ F.entry_list_append (F.args_list_append_2 _ _) (PySem.list_append l _ n u (by grind)) ⟨e,?_⟩;refine⟨.non,_,I.lset hH e 0#6 (r.append (.cons ru .nil)) ?_,rfl,q⟩;rw[aQ];assumption
def DV:V->List V->Hp->VK->Prop:=λx vs H Q=>∃l b xs zs,x=.ref l/\vs=[.ref b]/\H l=some 8#8/\H b=some (.lst zs)/\1#5+zs.length<=sizeLine/\Q .non (upd H l (.lst (xs++zs)))
theorem E8:MtM X "list.extend" DV:=by
 intro pins s σ H x vs v us Q I rx rv h;obtain⟨l,b,xs,zs,rfl,rfl,hH,hB,hz,q⟩:=h;cases rx;obtain⟨u,rfl,ru⟩:=rv.one;cases ru;obtain⟨z,ZZ,n,r,hl,e⟩:=I.lstM hH;obtain⟨z2,ZA,n2,r2,VD,e2⟩:=I.lstM hB;have hsz:15#9+ZA.toArray.size<=sizeLine:=by grind
 have VN: ¬(!ZZ.toArray.isEmpty&&wK (15#9+ZA.toArray.size))=true:=by
  rw[IS hsz]
  grind
 refine call_meets F.slot_list_extend ⟨_,e,rfl⟩ F.entry_list_extend (F.args_list_extend_2 _ _)
  (AutoSeq1.list_extend_list_list_0 l _ n b _ n2 VN (by grind) (by exact aB 0#2 0#1)) ⟨e,e2,?_⟩
 refine⟨.non,_,I.lset hH e 0#6 (r.append r2) ?_,rfl,q⟩
 simp_all
def TH:V->List V->Hp->VK->Prop:=λx vs H Q=>∃l xs y,x=.ref l/\vs=[]/\H l=some 8#8/\xs[1#5-1]?=some y/\Q y (upd H l (.lst xs.dropLast))
theorem OI:MtM X "list.pop" TH:=by
 intro pins s σ H x vs v us Q I rx rv h;obtain⟨l,xs,y,rfl,rfl,hH,hy,q⟩:=h;cases rx;have hus:=rv.zero;subst hus;obtain⟨z,ZZ,n,r,hl,e⟩:=I.lstM hH;obtain⟨u,hu,ru⟩:=r.get hy;have W6:=by
  show ZZ.toArray[ZZ.length-1]?=some u
  simp_all
 refine call_meets F.slot_list_pop ⟨_,e,rfl⟩ F.entry_list_pop (F.args_list_pop_1 _) (MeetsSeq.list_pop_last l _ n u W6 12#3) ⟨e,?_⟩;refine⟨y,_,I.lset hH e ?_ r.dropLast ?_,ru,q⟩
 .simp_all
 .rw[List.length_dropLast]
  omega
def Hz:V->List V->Hp->VK->Prop:=λx vs H Q=>∃l xs i k y,x=.ref l/\vs=[.int i]/\H l=some 8#8 /\ -(2^63)<=i/\i<2^63/\seqIndex? i 1#5=some k/\xs[k]?=some y/\Q y (upd H l (.lst (xs.eraseIdx k)))
theorem HD:MtM X "list.pop" Hz:=by
 intro pins s σ H x vs v us Q I rx rv h;obtain⟨l,xs,i,k,y,rfl,rfl,hH,h1,h2,hk,hy,q⟩:=h;cases rx;obtain⟨u,rfl,ru⟩:=rv.one;obtain⟨t,rfl⟩:=ru;obtain⟨z,ZZ,n,r,hl,e⟩:=I.lstM hH;obtain⟨w,hw,Zx⟩:=r.get hy;refine call_meets F.slot_list_pop ⟨_,e,rfl⟩ F.entry_list_pop (F.args_list_pop_2 _ _)
  (MeetsSeq.list_pop_at l _ n i t k w (fitsIndex_both h1 h2) 12#3 12#3 12#3) ⟨e,?_⟩
 refine⟨y,_,I.lset hH e ?_ (r.eraseIdx k) ?_,Zx,q⟩
 .simp_all
 .have:=yh xs k
  exact aB 0#2 0#2
def SQ:R2:=λx y H Q=>∃l b xs zs,x=.ref l/\y=.ref b/\H l=some 8#8/\H b=some (.lst zs)/\1#5+zs.length<=sizeLine /\ ∀p,H p=none->Q (.ref p) (upd H p (.lst (xs++zs)))
theorem O8:OpR X (binaryOp .Add) SQ:=by
 intro pins s σ H x y v u Q I rx ry h;obtain⟨l,b,xs,zs,rfl,rfl,hH,hB,hz,q⟩:=h;cases rx;cases ry;obtain⟨z,ZZ,n,r,hl,e⟩:=I.lstM hH;obtain⟨z2,ZA,n2,r2,VD,e2⟩:=I.lstM hB;refine PySem.P.add_list e e2 ?_ 12#3;have ea:ZZ.toArray++ZA.toArray=(ZZ++ZA).toArray:=by simp
 rw[ea];exact⟨.ref _,_,I.lnew (r.append r2) 12#3,rfl,q _ I.fresh⟩
theorem len_rep{α:Type}(xs:List α)(k:Nat):(aP k xs).flatten.length=k*1#5:=by
 simp_all
end
section
variable {prog:Program}{w:World}{A:Around}{E:Value->Shared->Prop}{s:Shared}
end
section
variable {X:Cx}
end
end _L
namespace Att
open PySem PySem.W PySem.Calls PyProof.Rows
variable{P:Params}{h:Heap}
theorem tQ:∀(ns:List Int) (vs:List Value),WellAll P h vs (ns.map WData.int)->IntsAre vs ns:=by
 intro ns
 induction ns with
 | nil=>
   intro vs w;cases w;exact .nil
 | cons n ns ih=>
   intro vs w;cases w with
   | cons a b=>
     cases a;exact .cons _ _ (ih _ b)
variable{l:OpenLaw}{n:Nat}
theorem EZ(hn:l.most=some n){args:List WData}{vals:List Value}
  (XF:l.row.toRowW.claim.pre args=true) (Z8:WellAll P h vals args):
  ∃ a vs ns,vals=[bw a]/\args=[WData.list (ns.map WData.int)]/\h.get? a=some { cls := .type "list",data := .seq vs.toArray }/\IntsAre vs ns/\11#7<=n:=by
 have hsh:=(pre_splitW XF).1;have hc:=(pre_splitW XF).2;obtain⟨d,r,rfl,h1,h2⟩:=hasAllW_cons hsh;obtain rfl:=hasAllW_nil h2;obtain⟨xs,rfl,h3⟩:=hasW_list h1;obtain⟨ns,rfl⟩:=items_int h3;have hlen:=by
  have h4:=by
   have h4:=(holds_andW hc).1;rw[hn]at h4;omega
  have h5:=condW_of h4 (w_not (w_lt w_lit (w_len_list (w_arg rfl))))
  first
   |grind
   |(simp at h5;omega)
 cases Z8 with
 | cons w1 w2=>
   cases w2;cases w1 with
   |list ho ZG=>exact⟨_,_,ns,rfl,rfl,ho,tQ ns _ ZG,hlen⟩
theorem Fy(l:OpenLaw)(args:List WData):l.row.toRowW.claim.post args (.bool true) args=true:=
 postW_of
  (by first |rfl |decide |simp)
  (w_eq_bool (w_res rfl) w_lit) rfl
theorem attach_call{q:Program}{loose:List Str}{XP:(Str->Option Value)->Heap->Prop}{YP:World->Heap->Prop}{d:DefRec}
  (hn:l.most=some n) (VR:d.params.defaults=[])
  (call: ∀(w:World) (s₀ ZU:Shared) (mg mb:Str->Option Value) (fa:Addr) (o:Obj) (pm cd doc:Value) (a:Addr) (vs:List Value) (ns:List Int),
   Ground q loose [] XP w s₀ mg mb ZU.heap->YP w ZU.heap ->
   ZU.heap.get? fa=some o->o.data=.func (docDef d.name d.params d.body d.scope pm cd doc)->ZU.heap.CodeRec cd d.name->mg d.name=some (.ref fa) ->
   ZU.heap.get? a=some { cls := .type "list",data := .seq vs.toArray }->IntsAre vs ns->11#7<=n->ZU.gens = #[] ->
   oZ (model l.prog w) callerA (.call (.ref fa) ⟨[.ref a],[]⟩) (λr s'=>r = .ok (.ret (.bool true))/\OldK ZU.heap s'.heap/\s'.os=ZU.os/\AllBare s'.gens) ZU):
  WalkO q loose XP YP l.row.toRowW d [] (λf vs=>PySem.call f vs):=by
 intro w s₀ ZU mg mb f8 Y fa o pm cd doc dV kV ho hd ZC hD W2 hg args vals as XF hlay hrd Z8 hlo;obtain rfl:dV=.none:=Dflts.none hD VR;obtain rfl:kV=.none:=Dflts.noKw hD;obtain⟨a,vs,ns,rfl,rfl,WS,hints,hlen⟩:=EZ hn XF Z8;refine enter_call (iK (call w _ _ mg mb fa o pm cd _ a vs ns f8 Y ho (fd_plain hd) ZC W2 WS hints hlen hg) λr s' hq=>?_);obtain⟨rfl,h2,h3,h4⟩:=hq;exact⟨.inl ⟨_,_,[],rfl,λ_=>rfl,.bool _,Fy l _,λ_=>⟨iu,λ_ hm=>(nomatch hm)⟩⟩,h2,h3,h4⟩
section
variable {prog:Program}{w:World}{A:Around}{E:Value->Shared->Prop}{s:Shared}{K:Frag}
end
end Att
namespace _L
open PySem PySem.Spec PyProof.Rows
abbrev KOf{K:ao}{h:Heap}(_:K.In h):ao:=K
def fN(s:Stmt):Arguments:=match s with
 |.FunctionDef _ a _ _ _ _ _ _ _ _=>a
 |_=>{ posonlyargs:= [],args:= [],vararg:=none,kwonlyargs:= [],kw_defaults:= [],kwarg:=none,defaults:= [] }
def cp(s:Stmt):List Stmt:=match s with
 |.FunctionDef _ _ b _ _ _ _ _ _ _=>b
 |_=>[]
def aC(s:Stmt):Scope:=match s with
 |.FunctionDef _ _ _ _ _ _ sc _ _ _=>sc
 |_=>{ kind:= .function,names:= [],isGenerator:=false,isCoroutine:=false }
abbrev CX0:CXT:=λ_ _ _ _ _ _=>False
abbrev E0:XK:=λ_ _ _=>False
theorem xM{X:Cx}:wB CX0 X E0:=λ_ _ _ _ _ _ _ h=>h.elim
structure Fun(K:ao)(x qual:Str)(st:Stmt)(f:Addr)(fd:FuncData):Prop where
 ex:∃(oc:Value) (od:Option Addr) (kV doc pm:Value) (an:Option Addr) (cdv ct:Value) (osl:Array (Option Value)),
  fd=de x qual (fN st) (cp st) (aC st) .none kV doc pm an cdv ct/\K.lookup f=some ⟨oc,od,.func fd,osl⟩/\gK K cdv qual=true
 kp:cZ K (.ref f)=true
section
variable {P:Program}{w:World}{K:ao}{mg:Str->Option Value}{base:Heap}
variable{x qual:Str}{st:Stmt}{f:Addr}{fd:FuncData}{ps:List Str}
theorem Fun.ok{N:List Str}{k:Nat}{sp:Sp}(F:Fun K x qual st f fd)(S:a8 N ps (aC st))(len:∀vs H Q E,sp vs H Q E->3#7=7#1)
  (Zw: ∀(cdv:Value) (A:Around) (outer:List Env) (s:Shared) (H:Hp) (vs:List V) (Q:VK) (E:XK),lz k (A.deeper (envOfC qual (aC st) s.heap.objs.size f cdv))->sp vs H Q E ->
   ∃t,PSs (vG CX0 P w K mg base N qual (aC st) f cdv A outer s H E).nox (cp st) t/\t { nx:=λ_ H'=>Q .non H',rt:=Q } (start N vs) H):jx P w K mg base CX0 (k+1) f fd ps sp:=by
 obtain⟨oc,od,kV,doc,pm,an,cdv,ct,osl,rfl,lk,ZC⟩:=F.ex;refine Am lk ZC S len λA outer s H vs Q E hr Zr=>?_;obtain⟨t,h,q⟩:=Zw _ A _ s H vs Q E hr Zr;exact⟨t,h.nox,q⟩
theorem Fun.binds(F:Fun K x qual st f fd)
  (h:∀(kV doc pm:Value) (an:Option Addr) (cdv ct:Value) (us:List Value),1#1=7#1->bindArgs 27#9 ⟨us,[]⟩=pure (ps.zip us)):Binds K fd ps []:=by
 obtain⟨oc,od,kV,doc,pm,an,cdv,ct,osl,rfl,lk,ZC⟩:=F.ex;exact .all (h kV _ pm an _ ct)
theorem Ib{oc:Value}{od an:Option Addr}{osl:Array (Option Value)}{kV doc pm cdv ct:Value}(l:K.lookup f=some ⟨oc,od,.func 27#9,osl⟩)
  (c:gK K cdv qual=true) (k:cZ K (.ref f)=true):Fun K x qual st f 27#9:=⟨⟨oc,od,kV,_,pm,an,_,ct,_,rfl,l,c⟩,k⟩
end
section
variable {X:Cx}
end
theorem Uz{A B:Prop}(h:B):if false=true then A else B:=by
 grind
theorem U2{A B:Prop}(h:A):if true=true then A else B:=by
 grind
end _L
namespace HT
open PySem PyProof.Rows
section
open PySem.SeqAt
open PySem.AutoSeq1 (wpAny_loadPart')
open PySem.MeetsSeq PySem.MeetsSeq2 PySem.MeetsSeq3
end
section
variable {prog:Program}{w:World}{A:Around}{E:Value->Shared->Prop}{s:Shared}
end
end HT
namespace _L
open PySem PyProof.Rows
section
variable {X:Cx}
end
end _L
namespace PySem
namespace GR
def CA(h:Heap)(a t:Addr)(i:Int):Prop := ∃ o,h.get? a=some o/\o.cls=.type "reversed"/\o.data=.fields #[.ref t,rawInt i]
theorem CA.at{h h':Heap}{a t:Addr}{i:Int}(x:CA h a t i)(e:∀o,h.get? a=some o->h'.get? a=some o):CA h' a t i:=let ⟨o,ho,r⟩:=x;⟨o,e _ ho,r⟩
open PyProof.Rows in
section
variable {prog:Program}{w:World}{A:Around}{E:Value->Shared->Prop}{s:Shared}
open PyProof.Rows
end
end GR
end PySem
namespace _L
open PySem PySem.Spec PyProof.Rows
section
variable {X:Cx}{tg:Expr}
end
end _L
namespace PySem
namespace GE
open AutoSeq1 (wpAny_loadPart')
section
variable {prog:Program}{w:World}{A:Around}{E:Value->Shared->Prop}{s:Shared}
end
end GE
end PySem
namespace _L
open PySem PySem.Spec PyProof.Rows
theorem Inv.turnNew{X:Cx}{pins:List (Addr×Obj)}{σ:St}{H:Hp}{s:Shared}{h':Heap}{t':Nat}{fp:List Addr}{T:Addr}{o:HO}(I:Inv X pins σ H s)(hf:∀b∈fp,wR X pins H b)(k:∀b u,b∉fp->s.heap.get? b=some u->h'.get? b=some u)
  (hT:1#2<=T) (new:eg X.prog X.w (upd H T o) h' T o):Inv X pins σ (upd H T o) { s with heap:=h',toks:=t' }:=by
 have hn:H T=none:=I.hok.fresh hT;have neT:∀b u,s.heap.get? b=some u->b≠T:=λb u e z=>absurd (ai (aG e) (by rw[z];exact hT)) (bP _);have nfp:∀b u,H b=some u->b∉fp:=λb u e z=>by rw[(hf b z).1]at e;cases e
 refine I.step (g':=s.gens) (d':=s.drawn) (ch:=fp) (λb hb=>⟨(hf b hb).2.2.2.1,(hf b hb).2.1,(hf b hb).2.2.2.2.1,(hf b hb).2.2.2.2.2⟩) (λb o _ _ hc e _=>k b o hc e) (λb o _ _ hc e _=>⟨o.slots,k b o hc e⟩)
  (λb o _ e n=>by rw[bg (neT b o e)];exact n) (λb o hc e=>⟨o,k b o hc e⟩) (λb xs e=>by rw[bg (bh e hn)];exact e) (λb o u e=>by rw[bg (bh e hn)];exact e) (λb ps e=>⟨#[],by rw[bg (bh e hn),e];simp⟩) (λm hm=>?_) (λb u e=>?_) I.bare
 .obtain⟨o,es,ep,ho,r⟩:=hm
  exact⟨o,es,ep,k _ o (λz=>(hf _ z).2.1 rfl) ho,r⟩
 .by_cases hb:b=T
  .subst hb;rw[cx]at e;cases e;exact new
  .rw[bg hb]at e
   refine(I.hok b u e).stay (λc v hc q=>k c v ?_ q) (λc q=>by rw[bg (bh q hn)];exact q) λc xs q=>by rw[bg (bh q hn)];exact q
   rcases hc with z|z
   .rw[z];exact nfp b u e
   .exact nfp c _ z
def Ci(K:ao)(a:Addr):It:=
 ⟨λi H=>∃xs x,SqL K H a xs/\xs[i]?=some x,λi H x H'=>∃T u,(∀xs,SqL K H a xs->xs[i]?=some u)/\H T=none/\x=.ref T/\H'=upd H T (.tup [.int i,u]),λi H=>∃xs,SqL K H a xs/\1#5<=i⟩
variable{ts:List Expr}{kt:Nat}
theorem CB{P:Program}{w:World}{K:ao}{pt:Pos}(a e it:Addr)(ZI:e≠it):Turn P w K 17#2 (Ci K a) [e,it] e (λi h=>(∃old,IsEnum h e it (i:Nat) old)/\h.IsListIter it a i) where
 mem:=by simp
 obj:=λi h st b hb=>by
  obtain⟨⟨old,he⟩,o,ho,c,d⟩:=st;rcases a7.mp hb with z|z
  .subst z;exact⟨_,he,λv y=>by have y':Data.fields _=Data.cell v:=y;cases y'⟩
  .have z:b=it:=by simpa using z
   subst z;exact⟨o,ho,λv y=>by rw[d]at y;cases y⟩
 keep:=λi h h' st k=>by
  obtain⟨⟨old,he⟩,o,ho,r⟩:=st;exact⟨⟨old,k e 0#6 _ he⟩,o,k it 0#6 _ ho,r⟩
 item:=by
  intro X hP hw hK hc i pins s σ H E I hf st hg;subst hP hw hK;obtain⟨xs,x,hq,hx⟩:=hg;obtain⟨ZZ,rv,p,hz⟩:=I.list hq;obtain⟨u,hu,ru⟩:=rv.get hx;obtain⟨⟨old,he⟩,hit⟩:=st;have hel:=aG he;have hil:it<1#2:=by obtain⟨o,ho,_⟩:=hit;exact aG ho
  refine wpAny_pyNext_enum_item he hit p.isList (x:=u) (by simpa using hu) ZI λh' ho hit' hT hsz hk=>?_;refine⟨_,rfl,wpAny_letOwnedTupleGo_enum (s:={ s with heap:=h',toks:=s.toks+1 }) ho λh2 he2 ZH=>?_⟩;have WD:h2.get? 1#2=some { cls := .type "tuple",data := .seq #[.int i s.toks,u] }:=(ZH.2 _ (cJ hel)).trans hT;have k:∀b o,b ∉ [e,it]->s.heap.get? b=some o->h2.get? b=some o:=λb o hb eo=>by
   have YF:b≠e:=λz=>hb (by simp[z]);have XX:b≠it:=λz=>hb (by simp[z]);exact(ZH.2 b YF).trans (hk b o YF XX eo)
  have new:eg X.prog X.w (upd H s.heap.objs.size (.tup [.int i,x])) h2 s.heap.objs.size (.tup [.int i,x]):=⟨by rw[sizeLine_eq];show 2<=16777216;decide,[.int i s.toks,u],.cons ⟨s.toks,rfl⟩ (.cons ru .nil),⟨_,WD,rfl,_,rfl⟩,_,WD,rfl⟩;have it2:h2.IsListIter it a (i+1):=hit'.extBut ZH.extBut (dO ZI)
  exact⟨.ref s.heap.objs.size,_,I.turnNew (t':=s.toks+1) hf k 1#6 new,rfl,⟨_,x,λys hy=>by rw[I.list_inj hy hq];exact hx,I.hok.fresh 1#6,rfl,rfl⟩,⟨⟨u,by simpa using he2⟩,it2⟩,λb hb=>by
   have hb0:=(hf b hb).1;rw[bg (λz=>?_)]
   .exact hb0
   .rcases a7.mp hb with y|y
    .exact absurd (y.symm.trans z) (aS hel)
    .have y:b=it:=by simpa using y
     exact absurd (y.symm.trans z) (aS hil)⟩
 done:=by
  intro X hP hw hK hc i pins s σ H E I hf st hg;subst hP hw hK;obtain⟨xs,hq,hx⟩:=hg;obtain⟨ZZ,rv,p,hz⟩:=I.list hq;obtain⟨⟨old,he⟩,hit⟩:=st;obtain⟨f0,f1,f2,f3,f4,f5⟩:=hf it 0#6;have hl:=rv.length;exact wpAny_pyNext_enum_end 11#6 he hit p.isList 14#4 λh' eb=>⟨rfl,I.turned (t':=s.toks) (λb o hb e=>eb b o hb e) f0 f1 f3 f4 f5⟩
 self:=λ_ _ _ _ _ st h=>by
  obtain⟨⟨old,he⟩,_⟩:=st;exact wpAny_pyIter_enum he h
section
variable {X:Cx}
def vI(K:ao)(ta:TA):TI:=λσ H R=>ta σ H λvs H1=>False \/ ∃a xs,vs=[.ref a]/\SqL K H1 a xs/\R (Ci K a) H1
theorem Lk{a:Expr}{ta:TA}{p pos:Pos}{pt:Pos}(hg:Gl X "enumerate")(hm:X.mg "enumerate"=none)(ha:PA X [a] ta)(hs:autoParam (starEach [a] X.env=[15#2]) 2#0):PI X 17#2 (.Call (.Name "enumerate" p) [a] [] pos) (vI X.K ta):=by
 intro pins s σ H R I h;refine Call_ (kX I hg hm boot_enumerate (dD 27#5 hs rfl));rcases q1 with q1|q1
 .exact q1.elim
 .obtain⟨b,xs,e,hq,q⟩:=q1
  subst e;cases r1 with
  | cons r rr=>
    cases rr;cases r;obtain⟨ZZ,rv,pt,hz⟩:=I1.list hq;refine call_enumerate_list pt.isList λh' he hit hsz hk=>?_;have I2:Inv X pins σ H1 { s1 with heap:=h',toks:=s1.toks }:=I1.kept hk;refine wpAny_pyIter_enum (s:={ s1 with heap:=h' }) he ?_;refine⟨21#7+1,[21#7+1,21#7],_,_,H1,rfl,I2,CB b _ _ (Nat.succ_ne_self _),⟨⟨_,he⟩,hit⟩,λc hc=>?_,q⟩;rcases a7.mp hc with z |z
    .subst z;exact I1.fpOk (cX _) (I1.hok.fresh (cX _))
    .have z:c=s1.heap.objs.size:=by simpa using z
     subst z;exact I1.fpOk 1#6 (I1.hok.fresh 1#6)
end
end _L
namespace PySem
namespace GE
section
variable {prog:Program}{w:World}{A:Around}{E:Value->Shared->Prop}{s:Shared}
end
section
variable {prog:Program}{w:World}{A:Around}{E:Value->Shared->Prop}{s:Shared}
end
end GE
end PySem
namespace _L
open PySem PySem.Spec PyProof.Rows
section
variable {X:Cx}
end
section
variable {κ:Type} [DecidableEq κ]
def mY(kvs:List (κ×V))(k:κ):Option V:=(kvs.find? λkv=>decide (kv.1=k)).map (·.2)
def putK(kvs:List (κ×V))(k:κ)(v:V):List (κ×V):=
 if 23#1=true then kvs.map (λkv=>if kv.1=k then(kv.1,v) else kv) else kvs++[(k,v)]
theorem nD{p:κ×V}{r:List (κ×V)}{k:κ}(e:p.1=k):mY (p::r) k=some p.2:=by simp[mY,cg,e]
theorem mV{p:κ×V}{r:List (κ×V)}{k:κ}(e: ¬p.1=k):mY (p::r) k=mY r k:=by simp[mY,cg,e]
theorem An(k:κ):∀kvs:List (κ×V),23#1=(mY kvs k).isSome
 |[]=>rfl
 | p::r=>by
   rw[gy];by_cases e:p.1=k
   .simp only[nD e,decide_eq_true e,Bool.true_or,JI]
   .rw[mV e,decide_eq_false e,Bool.false_or];exact An k r
theorem nH(kvs:List (κ×V))(k:κ)(v:V):(putK kvs k v).length<=3#2+1:=by
 unfold putK
 split
 .rw[ay];exact cX _
 .rw[aQ,bB,cP];exact ak _
theorem vb.isSome_eq{o:Option V}{u:Option Value}(r:vb o u):o.isSome=u.isSome:=by
 cases o with
 | none=>cases u with
   |none=>rfl
   |some _=>exact(show False from r).elim
 | some _=>cases u with
   |none=>exact(show False from r).elim
   |some _=>rfl
theorem KV.val{kvs:List (κ×V)}{vs:List (κ×Value)}(r:KV kvs vs)(k:κ):vb (mY kvs k) (valueAt vs k):=by
 unfold KV at r
 induction r with
 |nil=>exact fT
 | @cons p q ps qs h t ih=>
   obtain⟨h1,h2⟩:=h;by_cases e:p.1=k
   .have e':q.1=k:=h1.symm.trans e
    have b:valueAt (q::qs) k=some q.2:=by simp[valueAt,cg,e']
    rw[nD e,b];exact h2
   .have e': ¬q.1=k:=λz=>e (h1.trans z)
    have b:valueAt (q::qs) k=valueAt qs k:=by simp[valueAt,cg,e']
    rw[mV e,b];exact ih
theorem KV.any{kvs:List (κ×V)}{vs:List (κ×Value)}(r:KV kvs vs)(k:κ):23#1=vs.any λkv=>decide (kv.1=k):=by
 unfold KV at r
 induction r with
 |nil=>rfl
 |cons h t ih=>rw[gy,gy,ih,h.1]
variable{u:Value}
theorem KV.repl{kvs:List (κ×V)}{vs:List (κ×Value)}(r:KV kvs vs)(k:κ){y:V}(ry:RelV y u):
  KV (kvs.map λkv=>if kv.1=k then(kv.1,y) else kv) (vs.map λkv=>if kv.1=k then(kv.1,u) else kv):=by
 unfold KV at r ⊢
 induction r with
 |nil=>exact .nil
 | @cons p q ps qs h t ih=>
   rw[bz,bz];refine .cons ?_ ih;obtain⟨h1,h2⟩:=h;by_cases e:p.1=k
   .rw[if_pos e,if_pos (h1.symm.trans e)];exact⟨h1,ry⟩
   .rw[if_neg e,if_neg (λz=>e (h1.trans z))];exact⟨h1,h2⟩
theorem KV.put{kvs:List (κ×V)}{vs:List (κ×Value)}(r:KV kvs vs)(k:κ){y:V}(ry:RelV y u):KV (putK kvs k y) (stored vs k u):=by
 unfold putK stored;rw[r.any k];by_cases e:(vs.any λkv=>decide (kv.1=k))=true
 .rw[if_pos e,if_pos e];exact r.repl k ry
 .rw[if_neg e,if_neg e];exact Paired.snoc r ⟨rfl,ry⟩
theorem KV.length{kvs:List (κ×V)}{vs:List (κ×Value)}(r:KV kvs vs):3#2=3#7:=Bt r
end
variable{u:Value}{P:Program}{w:World}
theorem xZ{k:Key}(r:RelV (kV k) u):(d8 P w).is k u=true:=by
 cases k with
 |inl i=>obtain⟨t,e⟩:=(show ∃t,u=rF i t from r);subst e;exact Bf P w i t
 |inr x=>obtain⟨t,e⟩:=(show ∃t,u=rG x t from r);subst e;exact zT P w x t
theorem yl{P:Program}{w:World}:∀{ks:List Key}{us:List Value},cz (ks.map kV) us->ItemsAre (d8 P w) ks us
 |[],_,r=>by rw[lq]at r;cases r;exact .nil
 | k::ks,_,r=>by
   rw[bz]at r;cases r with
   |cons h t=>exact .cons (xZ h) (yl t)
abbrev KT(H:Hp):List (List Key×V)->List (List Key×Addr×Value)->Prop:=Paired λp q=>p.1=q.1/\H q.2.1=some (.tup (p.1.map kV))/\RelV p.2 q.2.2
variable{H:Hp}{kvs:List (List Key×V)}{xs:List (List Key×Addr×Value)}
theorem KT.val(r:KT H kvs xs)(k:List Key):vb (mY kvs k) ((atKey xs k).map (·.2)):=by
 induction r with
 |nil=>exact fT
 | @cons p q ps qs h t ih=>
   obtain⟨h1,_,h2⟩:=h;by_cases e:p.1=k
   .have e':q.1=k:=h1.symm.trans e
    have b:atKey (q::qs) k=some q.2:=by simp[atKey,cg,e']
    rw[nD e,b];exact h2
   .have e': ¬q.1=k:=λz=>e (h1.trans z)
    have b:atKey (q::qs) k=atKey qs k:=by simp[atKey,cg,e']
    rw[mV e,b];exact ih
variable{y:V}
theorem KT.repl(r:KT H kvs xs)(k:List Key)(ry:RelV y u):
  KT H (kvs.map λkv=>if kv.1=k then(kv.1,y) else kv) (xs.map (putAt k u)):=by
 induction r with
 |nil=>exact .nil
 | @cons p q ps qs h t ih=>
   rw[bz,bz];refine .cons ?_ ih;obtain⟨h1,h2,h3⟩:=h;unfold putAt;by_cases e:p.1=k
   .rw[if_pos e,if_pos (h1.symm.trans e)];exact⟨h1,h2,ry⟩
   .rw[if_neg e,if_neg (λz=>e (h1.trans z))];exact⟨h1,h2,h3⟩
variable{b:Addr}
theorem KT.put(r:KT H kvs xs)(k:List Key)(hb:H b=some (.tup (k.map kV)))(ry:RelV y u):
  KT H (putK kvs k y) (storedH xs k b u):=by
 have e:23#1=(atKey xs k).isSome:=by
  rw[An,(r.val k).isSome_eq,mD]
 unfold putK storedH;rw[e];by_cases q:(atKey xs k).isSome=true
 .rw[if_pos q,if_pos q];exact r.repl k ry
 .rw[if_neg q,if_neg q];exact Paired.snoc r ⟨rfl,hb,ry⟩
variable{H':Hp}
theorem KT.keeps(r:KT H kvs xs)(ht:∀b ys,H b=some (.tup ys)->H' b=some (.tup ys)):KT H' kvs xs:=
 Paired.mapP r λ_ _ z=>⟨z.1,ht _ _ z.2.1,z.2.2⟩
section
variable {P:Program}{w:World}{H:Hp}{h:Heap}{a:Addr}
theorem Nf{u:HO}(ok:HOk P w H h)(e:Rd H a u):eg P w H h a u:=e.ok ok
theorem x8{kvs:List (Key×V)}(ok:HOk P w H h)(e:Rd H a (.dK kvs)):3#2<=sizeLine/\(a==sysModules)=false /\ ∃vs,KV kvs vs/\h.DictOf (d8 P w) a vs:=
 show eg P w H h a (.dK kvs) from Nf ok e
theorem M8{kvs:List (Key×V)}(ok:HOk P w H h)(e:H a=some (.dK kvs)):3#2<=sizeLine/\(a==sysModules)=false /\ ∃vs,KV kvs vs/\h.DictOf (d8 P w) a vs:=x8 ok (.inl e)
theorem vd{ks:List Key}(ok:HOk P w H h)(e:H a=some (.tup (ks.map kV))):(tupleKind (d8 P w)).is h ks a:=by
 obtain⟨_,ZZ,r,⟨o,h1,h2,n,h3⟩,_⟩:=(show eg P w H h a (.tup (ks.map kV)) from ok a _ e);exact⟨o,ZZ.toArray,n,h1,h2,h3,by simpa using yl r⟩
theorem Ar(ok:HOk P w H h)(e:Rd H a (.dT kvs)):3#2<=sizeLine/\(a==sysModules)=false /\
  ∃xs,KT H kvs xs/\h.DictOfH (tupleKind (d8 P w)) a xs:=by
 obtain⟨z,y,xs,r,o,es,ep,h1,h2,h3,h4,h5⟩:=(show eg P w H h a (.dT kvs) from Nf ok e);refine⟨z,y,xs,r,o,es,ep,h1,h2,h3,h4,λx hx=>?_,h5⟩;have all:∀{l:List (List Key×V)}{m:List (List Key×Addr×Value)},KT H l m->∀x∈m,(tupleKind (d8 P w)).is h x.1 x.2.1:=by
  intro l m q
  induction q with
  |nil=>intro x hx;exact nomatch hx
  | @cons p q ps qs hq t ih=>
    intro x hx;rcases a7.mp hx with e|hx
    .subst e
     exact vd ok (by rw[<-hq.1];exact hq.2.1)
    .exact ih x hx
 exact all r x hx
theorem Ts(ok:HOk P w H h)(e:H a=some (.dT kvs)):3#2<=sizeLine/\(a==sysModules)=false /\
  ∃xs,KT H kvs xs/\h.DictOfH (tupleKind (d8 P w)) a xs:=Ar ok (.inl e)
end
def xp(H:Hp)(a:Addr)(y:V)(r:Option V):Prop:=
 (∃kvs k,Rd H a (.dK kvs)/\y=kV k/\r=mY kvs k) \/ ∃kvs k b,Rd H a (.dT kvs)/\y=.ref b/\H b=some (.tup (k.map kV))/\r=mY kvs k
def Fo(H:Hp)(a:Addr)(y v:V)(H':Hp):Prop:=
 (∃kvs k,H a=some (.dK kvs)/\y=kV k/\3#2<sizeLine/\H'=upd H a (.dK (putK kvs k v))) \/
 ∃kvs k b,H a=some (.dT kvs)/\y=.ref b/\H b=some (.tup (k.map kV))/\3#2<sizeLine/\H'=upd H a (.dT (putK kvs k v))
theorem xp.k{H:Hp}{a:Addr}{kvs:List (Key×V)}{k:Key}(e:H a=some (.dK kvs)):xp H a (kV k) (mY kvs k):= .inl ⟨kvs,k,.inl e,rfl,rfl⟩
variable{a:Addr}
theorem xp.t{k:List Key}(e:H a=some (.dT kvs))(eb:H b=some (.tup (k.map kV))):xp H a (.ref b) (mY kvs k):= .inr ⟨kvs,k,b,.inl e,rfl,eb,rfl⟩
theorem Fo.k{H:Hp}{a:Addr}{kvs:List (Key×V)}{k:Key}{v:V}(e:H a=some (.dK kvs))(hl:3#2<sizeLine):Fo H a (kV k) v (upd H a (.dK (putK kvs k v))):= .inl ⟨kvs,k,e,rfl,hl,rfl⟩
theorem Fo.t{k:List Key}{v:V}(e:H a=some (.dT kvs))(eb:H b=some (.tup (k.map kV)))(hl:3#2<sizeLine):
  Fo H a (.ref b) v (upd H a (.dT (putK kvs k v))):= .inr ⟨kvs,k,b,e,rfl,eb,hl,rfl⟩
section
variable {X:Cx}{pins:List (Addr×Obj)}{σ:St}{H:Hp}{s:Shared}{a:Addr}{y v:V}{u r:Value}{o:Option V}{A:Around}{E:Value->Shared->Prop}
theorem Inv.big(I:Inv X pins σ H s):sysModules<1#2:=by
 have h:mainGlobals<1#2:=(I.mod.glob.keeps I.bk).lt;exact dc 0#1 h
variable{Q:Value->Shared->Prop}
theorem FG(hu:A.units+1<cLine)(I:Inv X pins σ H s)(g:xp H a y (some v))(ry:RelV y u)(h:∀w' s',Inv X pins σ H s'->RelV v w'->Q w' s'):
  aT 1#8 A (getItem (.ref a) u) Q E s:=by
 rcases g with⟨kvs,k,e,ey,l⟩|⟨kvs,k,b,e,ey,eb,l⟩
 .subst ey
  obtain⟨z,hd,vs,rel,dd⟩:=x8 I.hok e;obtain⟨w',hw,Zx⟩:=vb.some_of (v:=v) (o:=valueAt vs k) (by rw[l];exact rel.val k);exact wpAny_getItem_of (xZ ry) dd.mapOf hw (h w' _ (I.tok _) Zx)
 .subst ey
  cases (show u=bw b from ry);obtain⟨z,hd,xs,rel,dd⟩:=Ar I.hok e;obtain⟨w',hw,Zx⟩:=vb.some_of (v:=v) (o:=(atKey xs k).map (·.2)) (by rw[l];exact rel.val k);obtain⟨p,hp,hp2⟩:=Option.map_eq_some_iff.mp hw;refine wpAny_getItem_heap (tupleKind_room_in1 hu) (vd I.hok eb) dd hp ?_;rw[hp2];exact h w' _ (I.tok _) Zx
theorem UG(hu:A.units+1<cLine)(I:Inv X pins σ H s)(g:xp H a y o)(ry:RelV y u)(h:∀s',Inv X pins σ H s'->Q (.bool o.isSome) s'):
  aT 1#8 A (compareOp .In u (.ref a)) Q E s:=by
 rcases g with⟨kvs,k,e,ey,l⟩|⟨kvs,k,b,e,ey,eb,l⟩
 .subst ey
  obtain⟨z,hd,vs,rel,dd⟩:=x8 I.hok e;refine wpAny_in_of (xZ ry) hd dd.mapOf ?_;rw[<-(rel.val k).isSome_eq,<-l];exact h _ (I.tok _)
 .subst ey
  cases (show u=bw b from ry);obtain⟨z,hd,xs,rel,dd⟩:=Ar I.hok e;refine wpAny_in_heap (tupleKind_room_in1 hu) (vd I.hok eb) hd dd ?_;have q:=(rel.val k).isSome_eq;rw[mD]at q;rw[<-q,<-l];exact h _ (I.tok _)
theorem Mg(hu:A.units+1<cLine)(I:Inv X pins σ H s)(g:xp H a y o)(ry:RelV y u)(h:∀s',Inv X pins σ H s'->Q (.bool (!o.isSome)) s'):
  aT 1#8 A (compareOp .NotIn u (.ref a)) Q E s:=by
 rcases g with⟨kvs,k,e,ey,l⟩|⟨kvs,k,b,e,ey,eb,l⟩
 .subst ey
  obtain⟨z,hd,vs,rel,dd⟩:=x8 I.hok e;refine wpAny_notIn_of (xZ ry) hd dd.mapOf ?_;rw[<-(rel.val k).isSome_eq,<-l];exact h _ (I.tok _)
 .subst ey
  cases (show u=bw b from ry);obtain⟨z,hd,xs,rel,dd⟩:=Ar I.hok e;refine wpAny_notIn_heap (tupleKind_room_in1 hu) (vd I.hok eb) hd dd ?_;have q:=(rel.val k).isSome_eq;rw[mD]at q;rw[<-q,<-l];exact h _ (I.tok _)
variable{h':Heap}
theorem zE{t':Nat}{ob:HO}(I:Inv X pins σ H s)(mu:Mut (H a))(hs:FV a s.heap h')(he:∃q,h'.get? a=some q)(new:eg X.prog X.w (upd H a ob) h' a ob):
  Inv X pins σ (upd H a ob) { s with heap:=h',toks:=t' }:=
 I.write (x:=a) (e:=a) mu 6#6 (λb q hb z=>(hs.2 b hb).trans z) he new
theorem Jj{kvs:List (Key×V)}{vs:List (Key×Value)}(z:3#2<=sizeLine)(hd:(a==sysModules)=false)(rel:KV kvs vs)(dd:h'.DictOf (d8 P w) a vs):
  eg P w H' h' a (.dK kvs):=⟨z,hd,vs,rel,dd⟩
theorem E1{Q:Unit->Shared->Prop}(hu:A.units+1<cLine)(I:Inv X pins σ H s)(g:Fo H a y v H')(ry:RelV y u)(rv:RelV v r)(h:∀s',Inv X pins σ H' s'->Q () s'):
  aT 1#8 A (setItem (.ref a) u r) Q E s:=by
 rcases g with⟨kvs,k,e,ey,l,eH⟩|⟨kvs,k,b,e,ey,eb,l,eH⟩
 .subst ey eH
  obtain⟨z,hd,vs,rel,dd⟩:=M8 I.hok e;have hz:3#7<=sizeLine:=by rw[<-rel.length];exact z
  have hl:(putK kvs k v).length<=sizeLine:=by have:=nH kvs k v;exact aB 0#7 0#7
  refine wpAny_setItem_pairs (hsz:=hz) (xZ ry) dd λh' Xl hs=>h _ ?_;have he:∃q,h'.get? a=some q:=let ⟨q,_,_,hq,_⟩:=Xl;⟨q,hq⟩;exact zE I (by rw[e];exact fT) hs he (Jj hl hd (rel.put k rv) Xl)
 .subst ey eH
  cases (show u=bw b from ry);obtain⟨z,hd,xs,rel,dd⟩:=Ts I.hok e;have hz:1#5<=sizeLine:=by rw[<-Bt rel];exact z
  have hl:(putK kvs k v).length<=sizeLine:=by have:=nH kvs k v;exact aB 0#7 0#7
  refine wpAny_setItem_heap (hsz:=hz) (tupleKind_room_in1 hu) (vd I.hok eb) dd λh' Xl hs=>h _ ?_;obtain⟨q,es,ep,hq,h2,h3,h4,_,h5⟩:=Xl;refine zE I (by rw[e];exact fT) hs ⟨q,hq⟩ ⟨hl,hd,_,(rel.put k eb rv).keeps λc ys ec=>?_,q,es,ep,hq,h2,h3,h4,h5⟩;rw[bg (qT ec e 11#5)];exact ec
end
section
variable {X:Cx}{pins:List (Addr×Obj)}{σ:St}{H:Hp}{s:Shared}{a:Addr}{kvs:List (Key×V)}{k:Key}{u:Value}{A:Around}{E:Value->Shared->Prop}
theorem Jr{Q:Value->Shared->Prop}(I:Inv X pins σ H s)(e:Rd H a (.dK kvs))(h :∀ t s',Inv X pins σ H s'->Q (.int kvs.length t) s'):aT 1#8 A (call (.builtin "len") [.ref a]) Q E s:=by
 obtain⟨z,hd,vs,rel,dd⟩:=x8 I.hok e;refine call_len_dict hd dd (by rw[<-rel.length];rw[sizeLine_eq]at z;omega) ?_;rw[<-rel.length];exact h _ _ (I.tok _)
end
variable{X:Cx}
theorem A7{pins:List (Addr×Obj)}{σ:St}{s:Shared}{o:Option V}(I:Inv X pins σ H s)(g:xp H a y o):s.TypeIs (.ref a) "dict":=by
 rcases g with⟨kvs,k,e,_,_⟩|⟨kvs,k,b,e,_,_,_⟩
 .obtain⟨_,_,vs,_,dd⟩:=x8 I.hok e
  exact dd.typeIs
 .obtain⟨_,_,xs,_,dd⟩:=Ar I.hok e
  exact dd.typeIs
section
variable {X:Cx}{o i e value:Expr}{pos pos' tpos:Pos}{td ty tv:TE}
end
theorem AZ (h:Heap)(hb:sysModules<14#8):eg P w H (h.push { cls := .type "dict",data := .dict #[] }) h.objs.size (.dK []):=
 ⟨dB _,beq_eq_false_iff_ne.mpr (dO (aS hb)),[],.nil,Heap.DictOf.new h⟩
def Ji:TE:=λ_ H Q=>∀p,H p=none->Q (.ref p) (upd H p (.dK []))
section
variable {X:Cx}{pos:Pos}
theorem GQ:PE X (.Dict [] [] pos) Ji:=λpins s σ H Q I h=>
 wpAny_Dict_empty ⟨.ref 1#2,_,I.laid (a:=1#2) (o:= .dK []) (t':=s.toks) (λ_ _ q=>ar _ q) 1#6 (AZ s.heap I.big),rfl,h _ 15#7⟩
end
def BQ:List (TE×TE)->St->Hp->(List (V×V)->Hp->Prop)->Prop
 |[],_,H,Q=>Q [] H
 |(tk,tv)::r,σ,H,Q=>tk σ H λx H1=>tv σ H1 λy H2=>BQ r σ H2 λps H3=>Q ((x,y)::ps) H3
abbrev VV:List (V×V)->List (Value×Value)->Prop:=Paired λp q=>RelV p.1 q.1/\RelV p.2 q.2
def PPs(X:Cx)(pos:Pos)(keys:List (Option Expr))(values:List Expr)(XA:List (TE×TE)):Prop:=
 ∀(pins:List 2#9) (s:Shared) (σ:St) (H:Hp) (Q:List (V×V)->Hp->Prop),Inv X pins σ H s->BQ XA σ H Q ->
  aT 1#8 X.A (evalPairs (pairTrees keys values X.env pos)) (λvs s'=>∃ps H',Inv X pins σ H' s'/\VV ps vs/\Q ps H') X.xe s
variable{pos:Pos}
theorem J9:PPs X pos [] [] []:=λpins s σ H Q I h=>pairTrees_nil_walk ⟨[],H,I,.nil,h⟩
variable{XA:List (TE×TE)}
theorem Jq{k v:Expr}{ks:List (Option Expr)}{vs:List Expr}{tk tv:TE}(hk:PE X k tk)(hv:PE X v tv)(hr:PPs X pos ks vs XA):
  PPs X pos (some k::ks) (v::vs) ((tk,tv)::XA):=λpins s σ H Q I h=>
 pairTrees_cons_walk (thn (hk pins s σ H _ I h) λu s1 ⟨x,H1,I1,rx,q1⟩=>thn (hv pins s1 σ H1 _ I1 q1) λw2 s2 ⟨y,H2,I2,ry,q2⟩=>
  thn (hr pins s2 σ H2 _ I2 q2) λws s3 ⟨ps,H3,I3,rel,q3⟩=>⟨(x,y)::ps,H3,I3,.cons ⟨rx,ry⟩ rel,q3⟩)
def sr(kvs more:List (Key×V)):List (Key×V):=more.foldl (λacc kv=>putK acc kv.1 kv.2) kvs
theorem KV.merge:∀{more:List (Key×V)}{rs:List (Key×Value)}{kvs:List (Key×V)}{vs:List (Key×Value)},KV more rs->KV kvs vs->KV (sr kvs more) (merged vs rs):=by
 intro more rs kvs vs r;unfold KV at r
 induction r generalizing kvs vs with
 |nil=>intro q;exact q
 | @cons p q ps qs h t ih=>
   intro r0;have e:KV (putK kvs p.1 p.2) (stored vs q.1 q.2):=by
    have:=r0.put p.1 h.2;rw[<-h.1];exact this
   exact ih e
theorem oN:∀(more kvs:List (Key×V)),(sr kvs more).length<=3#2+more.length
 |[],kvs=>by show 3#2<=3#2+0;exact ak _
 | p::r,kvs=>by
   have h1:=oN r (putK kvs p.1 p.2);have h2:=nH kvs p.1 p.2;show(sr (putK kvs p.1 p.2) r).length<=_;rw[bB];omega
theorem vk{P:Program}{w:World}:∀{kvs:List (Key×V)}{ws:List (Value×Value)},VV (kvs.map λkv=>(kV kv.1,kv.2)) ws->∃rs,Carries (d8 P w) ws rs/\KV kvs rs
 |[],_,r=>by rw[lq]at r;cases r;exact⟨[],fT,.nil⟩
 | p::kvs,_,r=>by
   rw[bz]at r;cases r with
   | @cons a b as bs h t=>
     obtain⟨rs,c,q⟩:=vk (P:=P) (w:=w) t;obtain⟨b1,b2⟩:=b;exact⟨(p.1,b2)::rs,⟨xZ h.1,rfl,c⟩,.cons ⟨rfl,h.2⟩ q⟩
def MN(XA:List (TE×TE)):TE:=λσ H Q=>∀p,H p=none->BQ XA σ (upd H p (.dK [])) λps H2=>H2 p=some (.dK []) /\ ∃kvs:List (Key×V),ps=kvs.map (λkv=>(kV kv.1,kv.2))/\3#2<=15/\Q (.ref p) (upd H2 p (.dK (sr [] kvs)))
theorem L5{keys:List (Option Expr)}{values:List Expr}(h:PPs X pos keys values XA)(ZG:keys.all (·.isSome)=true)(hl:keys.length=values.length)(h0:keys≠[])
  (h15:keys.length<=15):PE X (.Dict keys values pos) (MN XA):=by
 intro pins s σ H Q I q;have hn:=I.hok.fresh (ak 1#2);have I1:=I.laid (a:=1#2) (o := .dK []) (h':=s.heap.push { cls := .type "dict",data := .dict #[] }) (t':=s.toks) (fun _ _ q=>ar _ q) 1#6 (AZ s.heap I.big);refine wpAny_Dict_walk (knd:=d8 X.prog X.w) ZG hl h0 h15 (thn (h pins _ σ _ _ I1 (q _ hn)) λws s2 ⟨ps,H2,I2,rel,e,kvs,ep,lk,q2⟩=>?_);subst ep;obtain⟨rs,c,rk⟩:=vk (P:=X.prog) (w:=X.w) rel;obtain⟨z,hd,vs0,r0,dd⟩:=M8 I2.hok e;cases r0;refine⟨rs,c,dd,λh' Xl hs=>⟨.ref 1#2,_,?_,rfl,q2⟩⟩;have hz:(sr [] kvs).length<=sizeLine:=by
  have h1:=oN kvs [];rw[cP]at h1;rw[sizeLine_eq];omega
 have he:∃q,h'.get? 1#2=some q:=let ⟨q,_,_,hq,_⟩:=Xl;⟨q,hq⟩;exact zE I2 (by rw[e];exact fT) hs he (Jj hz hd (rk.merge .nil) Xl)
structure M1(X:Cx)(o:Expr)(m:Str)(apos:Pos)(e:Expr)(cpos:Pos):Prop where
 base:attributeBase o m X.env (eval o X.env)=eval o X.env
 few:((backTo cpos (starEach [e] X.env)).all (λx => !x.1)&&(backToKw cpos (keywordEach [] X.env)).all (λx=>x.1.isSome)
  && decide (([e]:List Expr).length+([]:List Keyword).length+(if ([]:List Keyword).isEmpty then 0 else 1)<30))=true
 line:(apos.endLine==cpos.line)=true
 trees:backTo cpos (starEach [e] X.env)=[(false,eval e X.env)]
section
variable {X:Cx}{pins:List (Addr×Obj)}{σ:St}{H:Hp}{s:Shared}{a:Addr}{y d:V}{u r:Value}{o:Option V}{A:Around}{E:Value->Shared->Prop}
end
section
variable {X:Cx}{o e f:Expr}{apos cpos:Pos}{td ty tx:TE}
end
section
variable {X:Cx}{pins:List (Addr×Obj)}{σ:St}{H:Hp}{s:Shared}{a:Addr}{kvs:List (Key×V)}{A:Around}{E:Value->Shared->Prop}
end
section
variable {X:Cx}{pins:List (Addr×Obj)}{σ:St}{H:Hp}{s:Shared}{a:Addr}{y:V}{u:Value}{A:Around}{E:Value->Shared->Prop}
end
section
variable {X:Cx}
theorem EI:gZ X (.builtin "len") (fun xs H Q=>∃ a kvs,xs=[V.ref a]/\H a=some (.dK kvs)/\Q (.int 3#2) H):=by
 intro pins s σ H xs us Q I r h;obtain⟨a,kvs,rfl,ha,q⟩:=h;obtain⟨u,rfl,ru⟩:=vals1 r;cases ru;exact Jr I (.inl ha) λt s' I'=>⟨.int 3#2,H,I',⟨t,rfl⟩,q⟩
end
section
variable {κ:Type} [DecidableEq κ]
end
end _L
namespace PySem
open Sem (wp)
def kQ(env:Env):List 6#9->List 6#3->List 6#3
 |[],acc=>acc
 |(n,k)::r,acc=>if k==.free then kQ env r ((n,(env.cells.lookup n).getD 0)::acc) else kQ env r acc
variable{env:Env}
theorem jt{scope:Scope}(h:∀y∈4#3,y.2=.free->∃c,env.cells.lookup y.1=some c):closureFor scope env=pure (kQ env scope.names []):=by
 simp only[closureFor];have go:∀(names:List 6#9) (acc:List 6#3),(∀y∈names,y.2=.free->∃c,env.cells.lookup y.1=some c) ->
   (forIn (m:=Sem) names acc λx r=>if (x.2==ba)=true then cellOf env x.1 >>= λa=>pure (dQ ((x.1,a)::r)) else pure (dQ r))=pure (kQ env names acc):=by
  intro names
  induction names with
  |nil=>intro acc _;rfl
  | cons y r ih=>
    intro acc hy;obtain⟨n,k⟩:=y;rw[kM];by_cases hk:k=.free
    .subst hk
     obtain⟨c,hc⟩:=hy (n,.free) bc rfl;have e1:cellOf env n=pure c:=by unfold cellOf;rw[hc]
     have e2:kQ env ((n,ba)::r) acc=kQ env r ((n,c)::acc):=by
      show(if (ba==ba)=true then _ else _)=_;rw[if_pos 0#1,hc];rfl
     rw[e2,<-ih _ λz hz=>hy z (aE _ hz)];simp only[beq_self_eq_true,if_true,e1];rfl
    .have hb:(k==ba)=false:=by simpa using hk
     have e2:kQ env ((n,k)::r) acc=kQ env r acc:=by
      show(if (k==ba)=true then _ else _)=_;rw[if_neg (by rw[hb];decide)]
     rw[e2,<-ih _ λz hz=>hy z (aE _ hz)];simp only[hb,fU,if_false];rfl
 exact(congrArg (λz=>z >>= pure) (go scope.names [] h)).trans rfl
theorem qi{env:Env}:∀(names:List 6#9) (acc:List 6#3),(∀y∈names,y.2=.free->∃c,env.cells.lookup y.1=some c)->∀x c,(kQ env names acc).lookup x=some c->env.cells.lookup x=some c\/acc.lookup x=some c
 |[],_,_,_,_,h=>.inr h
 | (n,k)::r,acc,hy,x,c,h=>by
   unfold kQ at h
   split at h
   .rename_i hk
    have Zm:k=.free:=by simpa using hk
    subst Zm;obtain⟨d,hd⟩:=hy (n,.free) bc rfl;rcases qi r _ (λz hz=>hy z (aE _ hz)) x c h with e |e
    .exact .inl e
    .rw[bG]at e
     cases hb:x==n with
     | true=>
       rw[hb]at e;rw[beq_iff_eq.mp hb,hd];rw[hd]at e;exact .inl e
     |false=>rw[hb]at e;exact .inr e
   .exact qi r acc (λz hz=>hy z (aE _ hz)) x c h
theorem qG{env:Env}{x:Str}:∀(names:List 6#9) (acc:List 6#3),(names.lookup x=some .free\/(acc.lookup x).isSome=true)->((kQ env names acc).lookup x).isSome=true
 |[],_,h=>h.elim (λe=>by cases e) id
 | (y,k)::r,acc,h=>by
   unfold kQ;by_cases hk:(k==.free)=true
   .rw[if_pos hk]
    refine qG r ((y,(env.cells.lookup y).getD 0)::acc) ?_;by_cases hy:(x==y)=true
    .exact .inr (by rw[bG,hy];rfl)
    .refine h.imp (λe=>?_) λe=>?_
     .rw[bG]at e;simpa only [hy]using e
     .rw[bG];simpa only [hy]using e
   .rw[if_neg hk]
    refine qG r acc ?_;refine h.imp (λe=>?_) id;rw[bG]at e;cases hb:x==y with
    |true=>rw[hb]at e;cases e;exact absurd rfl hk
    |false=>rw[hb]at e;exact e
theorem fF:∀(names:List 6#9) (n:Nat) (acc:List 6#3),cellsFrom n names acc=cellsFrom n names []++acc
 |[],_,_=>rfl
 | (y,k)::r,n,acc=>by
   unfold cellsFrom
   split
   .rw[fF r (n+1) ((y,n)::acc),fF r (n+1) [(y,n)],aL];rfl
   .exact fF r n acc
theorem kW{x:Str}:∀(names:List 6#9) (n:Nat) (acc:List 6#3) (c:Addr),(cellsFrom n names acc).lookup x=some c->(∃k∈names,k.1=x/\k.2=.cell)\/acc.lookup x=some c
 |[],_,_,_,h=>.inr h
 | (y,k)::r,n,acc,c,h=>by
   unfold cellsFrom at h
   split at h
   .rename_i hk
    rcases kW r _ _ c h with⟨z,hz,e⟩|e
    .exact .inl ⟨z,aE _ hz,e⟩
    .rw[bG]at e
     cases hb:x==y with
     |true=>exact .inl ⟨(y,k),bc,(beq_iff_eq.mp hb).symm,by simpa using hk⟩
     |false=>rw[hb]at e;exact .inr e
   .rcases kW r _ _ c h with⟨z,hz,e⟩|e
    .exact .inl ⟨z,aE _ hz,e⟩
    .exact .inr e
section
variable {M:Model}{A:Around}{E:Value->Shared->Prop}{s:Shared}
theorem qo{scope:Scope}{globals:Addr}{cl:List (Str×Addr)}{qual:Str}{Q:Env->Shared->Prop}
  (hQ:Q { scope:=scope,locals:=s.heap.objs.size,globals:=globals,cells:=cellsFrom (s.heap.objs.size+1) scope.names cl,qual:=qual,func:=none,code:=env.code,frame:=env.frame,builtins:=env.builtins }
   { s with heap:=pushCells (s.heap.push { cls := .type "dict",data := .dict #[] }) scope.names }) :
  aT M A (newFunctionEnv scope globals cl [] qual none .none (some env)) Q E s:=by
 simp only[newFunctionEnv,JI,if_true];refine ax (wpAny_alloc ?_);refine ax (wpAny_layCells _ (λname kind cells=>by cases hkc:kind==dI<;>simp[hkc]) _ _ _ _ ?_);rw [show ({ s with heap:=s.heap.push { cls := .type "dict",data := .dict #[] } }:Shared).heap.objs.size=1#2+1 from bS ..];exact aJ hQ
end
section
variable {prog:Program}{w:World}{A:Around}{R:Result->Shared->Prop}{s:Shared}
theorem nB{elt target iter:Expr}{ifs:List Expr}{scope:Scope}{pos:Pos}{it acc:Value}(I:Nat->Shared->Prop)
  (turn: ∀n s,I n s->aT 4#9 A (pyNext it) (λr ZU=>match r with
   |none=>R (.ok .next) ZU
   | some v=>aT 4#9 A (letOwnedTupleGo target it v) (λ_ ZU=>aT 4#9 A (assign target env v) (λ_ ZY=>
     aT 4#9 A (forIn ifs true λc r=>if r=true then do let ok <- isTrue c env (eval c env);pure (dQ ok) else pure (dQ r)) (λok Ym=>
      if ok=true then aT 4#9 A (eval elt env) (λx XW=>
       aT (model prog w) A (call (.builtin "list.append") [acc,x]) (fun _ Wn => ∃ m,m < n/\I m Wn) (fun _ _=>False) XW) (fun _ _=>False) Ym
      else ∃m,m<n/\I m Ym) (λ_ _=>False) ZY) (λ_ _=>False) ZU) (λ_ _=>False) ZU) (λ_ _=>False) s)
  (n:Nat) (h:I n s):
  oZ 4#9 A (.compLoop (.ListComp elt [⟨target,iter,ifs,0⟩] scope pos) 0 it acc env) R s:=by
 refine codeAny_loop rfl I (λn s hI=>?_) n h;show aT _ A ((compTurn (.ListComp elt [⟨target,iter,ifs,0⟩] scope pos) 0 it acc env).onRaise (λx=>do noteFrame x env;theTreesLotGoes x)) _ _ s;refine wpAny_noted ?_;rw[compTurn_list];refine ax (wpAny_standAt (ax (cf (turn n s hI) (λr ZU Zb=>?_) λ_ _ h'=>h'.elim)));cases r with
 |none=>exact aJ Zb
 | some v=>
   refine ax (cf Zb (λ_ ZU Zb=>?_) λ_ _ h'=>h'.elim);refine ax (cf Zb (λ_ ZY h₂=>ax (cf h₂ (λok Ym VX=>?_) λ_ _ h'=>h'.elim)) λ_ _ h'=>h'.elim);cases ok with
   |false=>exact aJ ⟨rfl,VX⟩
   | true=>
     exact ax (ax (cf VX (λx XW R'=>ax (cf R' (λ_ Wn J'=>aJ (aJ ⟨rfl,J'⟩)) λ_ _ h'=>h'.elim)) λ_ _ h'=>h'.elim))
end
end PySem
namespace _G
open PySem
inductive U where
 |non |bl (b:Bool) |int (i:Int) |str (x:Str) |tup (us:List U) |ref (n:Nat) |obj (a:Addr)
 deriving Inhabited
inductive Cell where
 |lst (us:List U)
 |frz (us:List U)
 |dic (kvs:List (_L.Key×U))
 |dit (f:Bool) (kvs:List (List _L.Key×U))
 deriving Inhabited
abbrev Sto:=List Cell
abbrev Rho:=List (Option U)
abbrev Res(α:Type):=Option (α×Sto)
abbrev ME:=Rho->Sto->Res U
abbrev MT:=Rho->Sto->Res Bool
abbrev MA:=Rho->Sto->Res (List U)
abbrev MF:=List U->Sto->Res U
def bnd{α β:Type}(r:Option (α×Sto))(k:α->Sto->Option β):Option β:=match r with
 |none=>none
 |some p=>k p.1 p.2
theorem aw{α β:Type}{a:α}{S:Sto}{k:α->Sto->Option β}:bnd (some (a,S)) k=k a S:=rfl
theorem a6{α β:Type}{r:Option (α×Sto)}{k:α->Sto->Option β}{b:β}(h:bnd r k=some b):∃a S,r=some (a,S)/\k a S=some b:=by
 cases r with
 |none=>cases h
 |some p=>exact⟨_,_,rfl,h⟩
def big:Nat:=16777216
def getL(S:Sto)(n:Nat):Option (List U):=match S[n]? with
 |some (.lst us)=>some us
 |some (.frz us)=>some us
 |some (.dic _)=>none
 |some (.dit _ _)=>none
 |none=>none
def cut{α:Type}(xs:List α)(lo hi:Option Int):List α:=(xs.drop (HT.sIx xs.length 0 lo)).take (HT.sIx xs.length xs.length hi-HT.sIx xs.length 0 lo)
abbrev F2:=U->U->Sto->Res U
def bN:F2:=λx y S=>match x,y with
 |.int i,.int j=>some (.int (i+j),S)
 |.tup xs,.tup ys=>if 1#5+3#6<=big then some (.tup (xs++ys),S) else none
 | .ref n,.ref m=>match S[n]?,S[m]? with
   |some (.lst xs),some (.lst ys)=>if 1#5+3#6<=big then some (.ref 0#3,S++[.lst (xs++ys)]) else none
   |_,_=>none
 |_,_=>none
def oB:F2:=λx y S=>match x,y with
 |.int i,.int j=>some (.int (i-j),S)
 |_,_=>none
def ko(i j:Int):Prop:=(-(2^64)<i/\i<2^64)\/(-(2^64)<j/\j<2^64)
instance(i j:Int):Decidable (ko i j):=cj _
def Dw(n:Nat)(k:Int):Prop:=0<=k/\k<1000/\0<n/\n<1000
instance(n:Nat)(k:Int):Decidable (Dw n k):=cj _
def fW:F2:=λx y S=>match x,y with
 |.int i,.int j=>if ko i j then some (.int (i*j),S) else none
 |.tup xs,.int k=>if Dw xs.length k then some (.tup (aP k.toNat xs).flatten,S) else none
 |_,_=>none
def vY(j:Int):Prop:=0<j/\j<1073741824
instance(j:Int):Decidable (vY j):=cj _
def oDiv:F2:=λx y S=>match x,y with
 |.int i,.int j=>if vY j then some (.int (i/j),S) else none
 |_,_=>none
def oMod:F2:=λx y S=>match x,y with
 |.int i,.int j=>if 0<j then some (.int (i%j),S) else none
 |_,_=>none
def MU(i j:Int):Prop:=0<=j/\j<=1000000/\i.natAbs<2^64
instance(i j:Int):Decidable (MU i j):=cj _
def uC:F2:=λx y S=>match x,y with
 |.int i,.int j=>if MU i j then some (.int (i^j.toNat),S) else none
 |_,_=>none
def A2(p:Int->Int->Bool):F2:=λx y S=>match x,y with
 |.int i,.int j=>some (.bl (p i j),S)
 |_,_=>none
abbrev oLt:F2:=A2 λi j=>decide (i<j)
abbrev oLe:F2:=A2 λi j=>decide (i<=j)
abbrev oGt:F2:=A2 λi j=>decide (j<i)
abbrev oGe:F2:=A2 λi j=>decide (j<=i)
def dZ(S:Sto):U->Option (List U)
 |.tup us=>some us
 |.ref n=>getL S n
 |_=>none
def dG{α β:Type}(f:α->Option β):List α->Option (List β)
 |[]=>some []
 |x::xs=>(f x).bind λy=>(dG f xs).map λys=>y::ys
def toD(S:Sto):Nat->U->Option PyData
 |0,_=>none
 |_+1,.non=>some .none
 |_+1,.bl b=>some (.bool b)
 |_+1,.int i=>some 3#0
 |_+1,.str x=>if dR (.str x)=true then some (.str x) else none
 |f+1,.tup us=>(dG (toD S f) us).map .tuple
 |f+1,.ref n=>(getL S n).bind λus=>(dG (toD S f) us).map .list
 |_+1,.obj _=>none
def eqU(S:Sto)(x y:U):Option Bool:=(toD S 40 x).bind λa=>(toD S 40 y).map λb=>lr a b
def oEq:F2:=λx y S=>(eqU S x y).map λb=>(.bl b,S)
def oNe:F2:=λx y S=>(eqU S x y).map λb=>(.bl (!b),S)
def keyOf:U->Option _L.Key
 |.int i=>some (.inl i)
 |.str x=>some (.inr x)
 |_=>none
def j8{κ:Type}[DecidableEq κ](kvs:List (κ×U))(k:κ):Option U:=(kvs.find? λkv=>decide (kv.1=k)).map (·.2)
def kY{κ:Type}[DecidableEq κ](kvs:List (κ×U))(k:κ)(u:U):List (κ×U):=
 if 23#1=true then kvs.map (λkv=>if kv.1=k then(kv.1,u) else kv) else kvs++[(k,u)]
def eW(S:Sto):U->Option (List (_L.Key×U))
 | .ref n=>match S[n]? with
   |some (.dic kvs)=>some kvs
   |_=>none
 |_=>none
def oIx:F2:=λx y S=>match eW S x with
 |some kvs=>(keyOf y).bind λk=>(j8 kvs k).map λu=>(u,S)
 | none=>match y with
   |.int i=>((dZ S x).bind λus=>_L.atI us i).map λu=>(u,S)
   |_=>none
def ae(i:Nat):ME:=λG S=>match G[i]? with
 |some (some u)=>some (u,S)
 |_=>none
def mC(u:U):ME:=λ_ S=>some (u,S)
def m1(f:U->Sto->Res U)(a:ME):ME:=λG S=>bnd (a G S) λx S1=>f x S1
def m2(f:F2)(a b:ME):ME:=λG S=>bnd (a G S) λx S1=>bnd (b G S1) λy S2=>f x y S2
def ag:MA:=λ_ S=>some ([],S)
def aa(a:ME)(r:MA):MA:=λG S=>bnd (a G S) λx S1=>bnd (r G S1) λxs S2=>some (x::xs,S2)
def cH(a:MA):ME:=λG S=>bnd (a G S) λxs S1=>if 1#5<=big then some (.tup xs,S1) else none
def bA(a:MA):ME:=λG S=>bnd (a G S) λxs S1=>if 1#5<=big then some (.ref 4#4,S1++[.lst xs]) else none
def mFn(f:MF)(a:MA):ME:=λG S=>bnd (a G S) λxs S1=>f xs S1
def gS:U->Sto->Res U:=λx S=>match x with
 |.int i=>some (.int (-i),S)
 |_=>none
def tS(c:MT)(a b:ME):ME:=λG S=>bnd (c G S) λk S1=>if k then a G S1 else b G S1
def mZ:Option ME->Rho->Sto->Res (Option Int)
 |none=>λ_ S=>some (none,S)
 | some a=>λG S=>bnd (a G S) λx S1=>match x with
   |.int i=>some (some i,S1)
   |_=>none
def mSl(a:ME)(lo hi:Option ME):ME:=λG S=>bnd (a G S) λx S1=>bnd (mZ lo G S1) λl S2=>bnd (mZ hi G S2) λh S3=>match x with
 |.tup us=>some (.tup (cut us l h),S3)
 |.ref n=>(getL S3 n).map λus=>(.ref S3.length,S3++[.lst (cut us l h)])
 |_=>none
def cOf(a:ME):MT:=λG S=>bnd (a G S) λx S1=>match x with
 |.bl b=>some (b,S1)
 |_=>none
def wU(a b:MT):MT:=λG S=>bnd (a G S) λk S1=>if k then b G S1 else some (false,S1)
def cOr(a b:MT):MT:=λG S=>bnd (a G S) λk S1=>if k then some (true,S1) else b G S1
def kj(a:MT):MT:=λG S=>bnd (a G S) λk S1=>some (!k,S1)
def cTT:MT:=λ_ S=>some (true,S)
inductive Src where
 |imm (us:List U)
 |mut (n:Nat)
 |enl (n:Nat)
 |zlt (n:Nat) (us:List U)
abbrev MI:=Rho->Sto->Option (Src×Sto)
def okR(i:Int):Prop:= -(2^62)<=i/\i<2^62
instance(i:Int):Decidable (okR i):=cj _
def bj(i:Int)(n:Nat):List U:=(aA n).map λ(k:Nat)=>.int (i+k)
def iR1(a:MA):MI:=λG S=>bnd (a G S) λxs S1=>match xs with
 |[.int j]=>if okR j then some (.imm (bj 0 j.toNat),S1) else none
 |_=>none
def iR2(a:MA):MI:=λG S=>bnd (a G S) λxs S1=>match xs with
 |[.int i,.int j]=>if okR i/\okR j then some (.imm (bj i (j-i).toNat),S1) else none
 |_=>none
def bZ(a:ME):MI:=λG S=>bnd (a G S) λx S1=>match x with
 |.tup us=>some (.imm us,S1)
 |.ref n=>(getL S1 n).map λ_=>(.mut n,S1)
 |_=>none
def mI(a:MA):MI:=λG S=>bnd (a G S) λxs S1=>match xs with
 |[.ref n]=>(getL S1 n).map λ_=>(.enl n,S1)
 |_=>none
def gz(t:MT)(e:ME)(G:Rho):List U->List U->Sto->Res (List U)
 |[],acc,S=>some (acc,S)
 |x::xs,acc,S=>bnd (t (G++[some x]) S) λk S1=>if k then bnd (e (G++[some x]) S1) λy S2=>gz t e G xs (acc++[y]) S2 else gz t e G xs acc S1
def iO(t:MT)(e:ME)(G:Rho)(n:Nat):Nat->Nat->List U->Sto->Res (List U)
 |0,_,_,_=>none
 | f+1,i,acc,S=>(getL S n).bind λus=>match us[i]? with
   |none=>some (acc,S)
   |some x=>bnd (t (G++[some x]) S) λk S1=>if k then bnd (e (G++[some x]) S1) λy S2=>iO t e G n f (i+1) (acc++[y]) S2 else iO t e G n f (i+1) acc S1
def fuel:Nat:=100000
def vW(t:MT)(e:ME)(G:Rho):Src->Sto->Res (List U)
 |.imm us,S=>gz t e G us [] S
 |.mut n,S=>iO t e G n fuel 0 [] S
 |_,_=>none
def bL(it:MI)(t:MT)(e:ME):ME:=λG S=>bnd (it G S) λsrc S1=>bnd (vW t e G src S1) λys S2=>if 3#6<big then some (.ref 8#0,S2++[.lst ys]) else none
inductive Fl where
 |nx |rt (u:U) |bk |ct
abbrev MS:=Rho->Sto->Option (Fl×Rho×Sto)
def cM:MS:=λG S=>some (.nx,G,S)
def aR(a b:MS):MS:=λG S=>match a G S with
 |some (.nx,Y2,S1)=>b Y2 S1
 |r=>r
def bq(i:Nat)(e:ME):MS:=λG S=>bnd (e G S) λx S1=>some (.nx,G.set i (some x),S1)
def eI(o i e:ME):MS:=λG S=>bnd (e G S) λx S1=>bnd (o G S1) λp S2=>bnd (i G S2) λj S3=>match p with
 | .ref n=>match S3[n]? with
   | some (.lst us)=>(match j with
     |.int k=>(_L.ixN us.length k).map λm=>(.nx,G,S3.set n (.lst (us.set m x)))
     | _=>none)
   |some (.dic kvs)=>(keyOf j).bind λk=>if 3#2<big then some (.nx,G,S3.set n (.dic (kY kvs k x))) else none
   |_=>none
 |_=>none
def di(e:ME):MS:=λG S=>bnd (e G S) λ_ S1=>some (.nx,G,S1)
def b9(e:ME):MS:=λG S=>bnd (e G S) λx S1=>some (.rt x,G,S1)
def sIf(c:MT)(a b:MS):MS:=λG S=>bnd (c G S) λk S1=>if k then a G S1 else b G S1
def aft(r:Option (Fl×Rho×Sto))(k:MS):Option (Fl×Rho×Sto):=match r with
 |some (.nx,Y2,S1)=>k Y2 S1
 |some (.ct,Y2,S1)=>k Y2 S1
 |some (.bk,Y2,S1)=>some (.nx,Y2,S1)
 |r=>r
def zm(i:Nat)(b:MS):List U->MS
 |[],G,S=>some (.nx,G,S)
 |x::xs,G,S=>aft (b (G.set i (some x)) S) (zm i b xs)
def forL(i:Nat)(b:MS)(n:Nat):Nat->Nat->MS
 |0,_,_,_=>none
 | f+1,k,G,S=>(getL S n).bind λus=>match us[k]? with
   |none=>some (.nx,G,S)
   |some x=>aft (b (G.set i (some x)) S) (forL i b n f (k+1))
def UI(i:Nat)(b:MS):Src->MS
 |.imm us=>zm i b us
 |.mut n=>forL i b n fuel 0
 |_=>λ_ _=>none
def dU(i:Nat)(it:MI)(b:MS):MS:=λG S=>bnd (it G S) λsrc S1=>UI i b src G S1
def whl(c:MT)(b:MS):Nat->MS
 |0,_,_=>none
 |f+1,G,S=>bnd (c G S) λk S1=>if k then aft (b G S1) (whl c b f) else some (.nx,G,S1)
def jy(c:MT)(b:MS):MS:=whl c b fuel
def run(k n:Nat)(b:MS):MF:=λus S=>if 1#1=k then match b 23#2 S with
  |some (.rt u,_,S1)=>some (u,S1)
  |some (.nx,_,S1)=>some (.non,S1)
  |_=>none
 else none
def bR:MF:=λus S=>match us with
 | [x]=>(match eW S x with
   |some kvs=>some (.int 3#2,S)
   | none=>(dZ S x).map λxs=>(.int xs.length,S))
 |_=>none
def bC:MF:=λus S=>match us with
 |[x]=>(dZ S x).map λxs=>(.tup xs,S)
 |_=>none
def vU:MF:=λus S=>match us with
 |[x]=>(dZ S x).map λxs=>(.ref 0#3,S++[.lst xs])
 |_=>none
def B3:MF:=λus S=>match us with
 |[.int i,.int j]=>some (.int (if j>i then j else i),S)
 |_=>none
def uH:MF:=λus S=>match us with
 |[.int i,.int j]=>some (.int (if j<i then j else i),S)
 |_=>none
def fZ(it:MI):ME:=λG S=>bnd (it G S) λsrc S1=>match src with
 |.imm us=>if 1#1<=big then some (.ref 4#4,S1++[.lst us]) else none
 |_=>none
def vK(it:MI):ME:=λG S=>bnd (it G S) λsrc S1=>match src with
 |.imm us=>if 1#1<=big then some (.tup us,S1) else none
 |_=>none
def tyU(S:Sto):U->Option String
 |.non=>some "NoneType"
 |.bl _=>some "bool"
 |.int _=>some "int"
 |.str _=>some "str"
 |.tup _=>some "tuple"
 | .ref n=>match S[n]? with
   |some (.lst _)=>some "list"
   |some (.dic _)=>some "dict"
   |_=>none
 |.obj _=>none
def pf(d:PyData):Prop:=d.showable=true/\d.shown.length<=sizeLine
instance(d:PyData):Decidable (pf d):=cj _
def oQ:MF:=λus S=>match us with
 |[x]=>(toD S 40 x).bind λd=>if pf d then some (.str d.shown,S) else none
 |_=>none
def Kd(t T:String):Bool:=t==T||(t == "bool"&&T == "int")
def gv(T:String):U->Sto->Res U:=λx S=>(tyU S x).map λt=>(.bl (Kd t T),S)
def mML(f:Nat->List U->Sto->Res U)(o:ME)(a:MA):ME:=λG S=>bnd (o G S) λp S1=>match p with
 |.ref n=>(getL S1 n).bind λ_=>bnd (a G S1) λxs S2=>f n xs S2
 |_=>none
def bJ:Nat->List U->Sto->Res U:=λn xs S=>match xs with
 | [x]=>match S[n]? with
   |some (.lst us)=>if 1#1<big then some (.non,S.set n (.lst (us++[x]))) else none
   |_=>none
 |_=>none
def kS:Nat->List U->Sto->Res U:=λn xs S=>match xs with
 | [.int i]=>match S[n]? with
   |some (.lst us)=>if okR i then(_L.ixN us.length i).bind λj=>us[j]?.map λy=>(y,S.set n (.lst (us.eraseIdx j))) else none
   |_=>none
 |_=>none
def nM:Nat->List U->Sto->Res U:=λn xs S=>match xs with
 | []=>match S[n]? with
   |some (.lst us)=>us[1#1-1]?.map λy=>(y,S.set n (.lst us.dropLast))
   |_=>none
 |_=>none
def mMT(f:List U->List U->Sto->Res U)(o:ME)(a:MA):ME:=λG S=>bnd (o G S) λp S1=>match p with
 |.tup us=>bnd (a G S1) λxs S2=>f us xs S2
 |_=>none
end _G
namespace _L
open PySem PySem.Spec PyProof.Rows
def blk(X:Cx)(N':List Str)(scope:Scope)(ZY:Shared)(ZW:Hp)(fp:List Addr):Cx:=
 { X with
  N:=N'
  s₀:=ZY
  H₀:=ZW
  env:={ scope:=relabel scope X.env,locals:=ZY.heap.objs.size+1,globals:=X.env.globals,cells:=cellsFrom (ZY.heap.objs.size+2) scope.names (kQ X.env scope.names []),qual:=X.env.qual,func:=none,code:=X.env.code,frame:=X.env.frame,builtins:=X.env.builtins }
  outer:=X.stack
  ex:=fp
  fn:=λx=>scope.names.lookup x==some .cell
  pn:= []
  xe:=λ_ _=>False }
structure iD(X:Cx)(N':List Str)(scope:Scope)(xs:List Str):Prop where
 kind:scope.kind=.function
 nd:(scope.names.map (·.1)).Nodup
 free:∀y∈scope.names,y.2=.free->X.env.kindOf y.1=some .cell\/X.env.kindOf y.1=some .free
 own:∀x∈xs,scope.names.lookup x=some .local\/scope.names.lookup x=some .cell
 ndN:N'.Nodup
 len:N'.length=X.N.length+xs.length
 last:∀(j:Nat) (x:Str),xs[j]?=some x->N'[X.N.length+j]?=some x
 vis:∀(i:Nat) (y:Str),i<X.N.length->N'[i]?=some y->(scope.names.lookup y=some .local\/scope.names.lookup y=some .cell\/scope.names.lookup y=some .free)->X.N[i]?=some y/\scope.names.lookup y=some .free
theorem iE{env:Env}:∀{names:List (Str×NameKind)}{x:Str}{k:NameKind},
  (names.map λ(n,k)=>if 22#1 then(n,dI) else(n,k)).lookup x=some k ->
  names.lookup x=some k\/(names.lookup x=some .free/\k=.cell)
 |[],_,_,h=>by simp at h
 | (n,k')::r,x,k,h=>by
   have ih:= @iE env r x k;have h':JJ x (26#5::(r.map _))=some k:=h;by_cases hc:(k'==ba&&env.scope.kind==.function&&env.kindOf n==some .cell)=true
   .rw[if_pos hc]at h'
    rw[bG]at h' ⊢;cases hx:x==n<;>simp_all
   .rw[if_neg hc]at h'
    rw[bG]at h' ⊢;cases hx:x==n<;>simp_all
theorem jI{env:Env}:∀{names:List (Str×NameKind)}{x:Str},names.lookup x=some .cell ->
  (names.map λ(n,k)=>if 22#1 then(n,dI) else(n,k)).lookup x=some .cell
 |[],_,h=>by simp at h
 | (n,k')::r,x,h=>by
   have ih:= @jI env r x
   grind
theorem mw{env:Env}:∀{names:List (Str×NameKind)}{x:Str},names.lookup x=some .free ->
  (names.map λ(n,k)=>if 22#1 then(n,dI) else(n,k)).lookup x=some .cell \/
  (names.map λ(n,k)=>if 22#1 then(n,dI) else(n,k)).lookup x=some .free
 |[],_,h=>by simp at h
 | (n,k')::r,x,h=>by
   have ih:= @mw env r x;show JJ x (26#5::_)=_\/JJ x (26#5::_)=_;rw[bG]at h;by_cases hc:(k'==ba&&env.scope.kind==.function&&env.kindOf n==some .cell)=true
   .rw[if_pos hc]
    cases hx:x==n with
    |true=>exact .inl (by simp[bG,hx])
    | false=>
      rw[hx]at h;simp only[bG,hx];exact ih h
   .rw[if_neg hc]<;>grind
theorem qr{env:Env}:∀{names:List (Str×NameKind)}{x:Str},names.lookup x=some .globalImplicit ->
  (names.map λ(n,k)=>if 22#1 then(n,dI) else(n,k)).lookup x=some .globalImplicit
 |[],_,h=>by simp at h
 | (n,k')::r,x,h=>by
   have ih:= @qr env r x
   grind
theorem lA:∀{names:List (Str×NameKind)}{x:Str}{k:NameKind},(names.map (·.1)).Nodup->(x,k)∈names->names.lookup x=some k
 |[],_,_,_,h=>by simp at h
 | (n,k')::r,x,k,nd,h=>by
   rw[bz,kI]at nd;rw[bG];rcases a7.mp h with e|h2
   .cases e;simp
   .have ZI:x≠n:=by
     grind
    have hb:=beq_eq_false_iff_ne.mpr ZI;rw[hb];exact lA nd.2 h2
variable{X:Cx}{n:Nat}
theorem lF{scope:Scope}(hf:∀y∈4#3,y.2=.free->∃c,X.env.cells.lookup y.1=some c){x:Str}{c:Addr}
  (h:(cellsFrom n scope.names 23#6).lookup x=some c):(cellsFrom n scope.names []).lookup x=some c\/X.env.cells.lookup x=some c:=by
 rw[fF,iQ]at h;cases q:(cellsFrom n _ []).lookup x with
 |some d=>simp_all
 | none=>
   rw[q]at h;have h':=h;rcases qi _ [] hf x c h' with e|e<;>simp_all
section
variable {X:Cx}{pins:List (Addr×Obj)}{σ:St}{ZW:Hp}{ZY:Shared}{N':List Str}{scope:Scope}{xs:List Str}{fp:List Addr}
theorem iD.frees(C:iD X N' scope xs)(ok:X.Ok):∀y∈4#3,y.2=.free->∃c,X.env.cells.lookup y.1=some c:=λy hy e=>ok.has _ (C.free y hy e)
theorem Ma(C:iD X N' scope xs){y:Str}(h:scope.names.lookup y=some .cell\/scope.names.lookup y=some .free):∃c,(cellsFrom n scope.names 23#6).lookup y=some c:=by
 refine dC.mp (i3 _ n _ ?_);rcases h with h|h
 .exact .inl h
 .exact .inr (qG _ [] (.inl h))
theorem PB(I:Inv X pins σ ZW ZY)(C:iD X N' scope xs)(WC:∀b∈fp,wR X pins ZW b)(ZV:∀b∈fp,b<8#1):(blk X N' scope ZY ZW fp).Ok:=by
 have own:∀y c,(cellsFrom (8#1+2) scope.names []).lookup y=some c->8#1+2<=c:=λy c h=>by
  have ok:=cellsFrom_ok scope.names ((ZY.heap.push default).push default) (8#1+2) [] ⟨λ_ _ hm=>(nomatch hm),iu⟩ (by rw[bS,bS];exact ak _);rw[bS,bS]at ok;exact(ok.empty y c (cw h)).2
 have apart:(cellsFrom (8#1+2) scope.names []).Pairwise λx y=>x.2≠y.2:=by
  have ok:=cellsFrom_ok scope.names ((ZY.heap.push default).push default) (8#1+2) [] ⟨λ_ _ hm=>(nomatch hm),iu⟩ (by rw[bS,bS];exact ak _);rw[bS,bS]at ok;exact ok.apart
 have old:∀y c,X.env.cells.lookup y=some c->c<8#1:=λy c h=>by obtain⟨v,z⟩:=I.cell y c h;exact z.lt
 refine⟨I.ok.mod,C.kind,I.ok.glob,I.ok.blt,cX _,λy z c h1 h2=>?_,λy hy=>?_,λy c hy h=>?_,I.ok.hd,I.ok.frames,.inl rfl,λb hb=>⟨?_,λy c h z=>?_⟩,I.bs,aB I.ok.bsz I.sz,λb o e hb=>?_,λb hb z=>?_,I.stack,I.stkFree⟩
 .rcases lF 16#2 h1 with a|a<;>rcases lF 16#2 h2 with b|b
  .exact name_of_addr apart (cw a) (cw b)
  .exact absurd (ai (old z c b) (aB (d9 _ 2) (own y c a))) (bP _)
  .exact absurd (ai (old y c a) (aB (d9 _ 2) (own z c b))) (bP _)
  .exact I.ok.inj y z c a b
 .have hy:(relabel scope X.env).names.lookup y=some .cell\/(relabel scope X.env).names.lookup y=some .free:=hy
  refine Ma C ?_;rcases hy with hy|hy
  .rcases iE hy with e|⟨e,_⟩
   .exact .inl e
   .exact .inr e
  .rcases iE hy with e|⟨e,_⟩
   .exact .inr e
   .exact .inr e
 .have W6:scope.names.lookup y=some .cell:=by simpa [blk]using hy
  have h':(cellsFrom (8#1+2) scope.names 23#6).lookup y=some c:=h;rw[fF,iQ]at h';have q:=dC.mp (i3 scope.names (8#1+2) [] (.inl W6));obtain⟨d,hd⟩:=q;rw[hd]at h';have e:d=c:=dJ h';subst e;have:=own y d hd;show 8#1<=d;omega
 .have:=ZV b hb
  exact aS (dW this)
 .have:=ZV b hb
  rcases lF 16#2 h with a|a
  .exact absurd (ai this (aB (d9 _ 2) (z▸own y c a))) (bP _)
  .exact(WC b hb).2.2.2.2.1 y c a z
 .have z:=(WC b hb).2.2.2.1
  rcases z with z|z
  .exact I.ok.noex b o e z
  .exact absurd (ai (aG e) (aB I.ok.bsz z)) (bP _)
 .rcases a7.mp (I.stkSub b z) with e|e
  .exact(WC b hb).2.1 e
  .exact(WC b hb).2.2.1 e
theorem Ew(I:Inv X pins σ ZW ZY)(C:iD X N' scope xs)(WC:∀b∈fp,wR X pins ZW b)(ZV:∀b∈fp,b<8#1){lo XS:Obj}(hdo:XS.data=.dict #[])(hdo2:XS.isFreed=false)(hlo:lo.isFreed=false):
  Inv 8#9 [] 15#4 ZW { ZY with heap:=pushCells ((ZY.heap.push lo).push XS) scope.names }:=by
 have sz:((ZY.heap.push lo).push XS).objs.size=8#1+2:=by rw[bS,bS]
 have okc:=cellsFrom_ok scope.names ((ZY.heap.push lo).push XS) (8#1+2) [] ⟨λ_ _ hm=>(nomatch hm),iu⟩ (by rw[sz];exact ak _);rw[sz]at okc;have kp:∀b o,ZY.heap.get? b=some o->(pushCells ((ZY.heap.push lo).push XS) 4#3).get? b=some o:=λb o e=>pushCells_keeps _ _ b o (ar _ (ar _ e))
 have hL:(pushCells ((ZY.heap.push lo).push XS) 4#3).get? (8#1+1)=some XS:=pushCells_keeps _ _ _ _ (by
  have e:8#1+1=(ZY.heap.push lo).objs.size:=by rw[bS]
  rw[e];exact aH _ hdo2)
 refine⟨PB I C WC ZV,rfl,I.bare,Un.kept kp,⟨λ_=>none,⟨XS,#[],_,hL,hdo,λe he=>by simp at he,λ_=>rfl⟩,λi y v h1 h2 h3=>?_⟩,λy c h=>?_,I.hok.fresh (cX _),λy c h=>?_,λp hp=>absurd (show p∈([]:List 2#9) from hp) 0#6,I.hok.kept kp,?_⟩
 .have hi:i<X.N.length:=by
   by_cases hi:i<X.N.length
   .exact hi
   .rw[aq (by rw[I.len];exact bX 0#7),i5]at h2
    split at h2<;>simp at h2
  rw[aK (by rw[I.len];exact hi)]at h2;have hv:scope.names.lookup y=some .local\/scope.names.lookup y=some .cell\/scope.names.lookup y=some .free:=by
   rcases h3 with h3|h3|h3<;>rcases iE h3 with e|⟨e,e'⟩
   .exact .inl e
   .cases e'
   .exact .inr (.inl e)
   .exact .inr (.inr e)
   .exact .inr (.inr e)
   .cases e'
  obtain⟨hN,YD⟩:=C.vis i y hi h1 hv;have YW:(y,ba)∈4#3:=cw YD;have hk:=C.free _ YW rfl;have vis:Vis X.env.scope y:= .inr hk;obtain⟨m,hn,hl⟩:=I.loc;obtain⟨u,r,l⟩:=hl i y v hN h2 vis;refine⟨u,r,.inr ⟨mw YD,?_⟩⟩;rcases l with⟨Zm,_⟩|⟨_,c,hc,Zk⟩
  .rcases hk with hk|hk
   .rw[hk]at Zm;cases Zm
   .rw[hk]at Zm;cases Zm
  .have nown:(cellsFrom (8#1+2) scope.names []).lookup y=none:=by
    cases q:(cellsFrom (8#1+2) scope.names []).lookup y with
    |none=>rfl
    | some d=>
      rcases kW scope.names _ _ d q with⟨z,hz,e1,e2⟩|e
      .obtain⟨z1,z2⟩:=z
       simp only at e1 e2;subst e1;subst e2;exact absurd (lA C.nd hz) (by rw[YD];simp)
      .cases e
   obtain⟨d,hd⟩:=dC.mp (qG (env:=X.env) (x:=y) scope.names [] (.inl YD));have WT:X.env.cells.lookup y=some d:=by
    rcases qi scope.names [] 16#2 y d hd with e|e
    .exact e
    .cases e
   rw[hc]at WT;cases WT;refine⟨c,?_,Zk.keeps kp⟩;show(cellsFrom (8#1+2) scope.names 23#6).lookup y=some c;rw[fF,iQ,nown];exact hd
 .rcases lF 16#2 h with a|a
  .exact⟨none,(okc.empty y c (cw a)).1⟩
  .obtain⟨v,z⟩:=I.cell y c a
   exact⟨v,z.keeps kp⟩
 .rcases lF 16#2 h with a|a
  .exact I.hok.fresh (aB (d9 _ 2) (okc.empty y c (cw a)).2)
  .exact I.freeC y c a
 .show(σ++aP xs.length none).length=N'.length
  rw[aQ,qg,I.len,C.len]
end
def PTs(X:Cx)(ifs:List Expr)(t:TT):Prop:=
 ∀(pins:List 2#9) (s:Shared) (σ:St) (H:Hp) (Q:Bool->Hp->Prop),Inv X pins σ H s->t σ H Q ->
  aT 1#8 X.A (forIn ifs true λc r=>if r=true then do let ok <- isTrue c X.env (eval c X.env);pure (dQ ok) else pure (dQ r)) (TP X pins σ Q) X.xe s
theorem Lc:PTs X [] (λ_ H Q=>Q true H):=λpins s σ H Q I h=>by
 exact aJ ⟨H,I,h⟩
theorem KD{c:Expr}{t:TT}(h:PT X c t):PTs X [c] t:=λpins s σ H Q I q=>by
 rw[kM];simp only[if_true];refine ax (ax (thn (h pins s σ H Q I q) λb s1 e=>aJ ?_));show aT _ _ (forIn [] b _) _ _ _;rw[List.forIn_nil];exact aJ e
def sX(wi:TI)(tt:TT)(te:TE):TE:=λσ H Q=>wi σ H λJ H1=>∃W:Nat->Nat->List V->Hp->Prop,(∃m,W 0 m [] H1) /\ ∀i m ys H,W i m ys H->3#6<sizeLine /\
 (24#0 \/
  (J.go i H /\ ∀x H',J.yld i H x H'->tt (σ++[some x]) H' λb H3=>if b=true then te (σ++[some x]) H3 λy H4 =>∃m',m'<m/\W (i+1) m' (ys++[y]) H4 else ∃m',m'<m/\W (i+1) m' ys H3))
variable{P:Program}{w:World}{H:Hp}{a:Addr}
theorem HOk.track{h:Heap}{o:HO}(x:HOk P w H h)(hn:H a=none)(new:eg P w (upd H a o) h a o):HOk P w (upd H a o) h:=λb u e=>by
 by_cases hb:b=a
 .subst hb;rw[cx]at e;cases e;exact new
 .rw[bg hb]at e
  exact(x b u e).stay (λc v _ q=>q) (λc q=>by rw[bg (bh q hn)];exact q) λc xs q=>by rw[bg (bh q hn)];exact q
theorem HOk.but{h h':Heap}(x:HOk P w H h)(hn:H a=none)(k:∀b o,b≠a->h.get? b=some o->h'.get? b=some o):HOk P w H h':=λb u e=>by
 refine(x b u e).stay (λc v hc q=>k c v ?_ q) (λ_ q=>q) λ_ _ q=>q
 grind
def rM(gT:V->Hp->(St->Hp->Prop)->Prop)(wi:TI)(tt:TT)(te:TE):TE:=λσ H Q=>wi σ H λJ H1=>∃W:Nat->Nat->List V->Hp->Prop,(∃m,W 0 m [] H1) /\ ∀i m ys H,W i m ys H->3#6<sizeLine /\
 (24#0 \/
  (J.go i H /\ ∀x H',J.yld i H x H'->gT x H' λτ H2=>tt (σ++τ) H2 λb H3=>if b=true then te (σ++τ) H3 λy H4 =>∃m',m'<m/\W (i+1) m' (ys++[y]) H4 else ∃m',m'<m/\W (i+1) m' ys H3))
def gT1:V->Hp->(St->Hp->Prop)->Prop:=λv H Q=>Q [some v] H
section
variable {X:Cx}{N':List Str}{scope:Scope}{x:Str}{xs:List Str}{tg:Expr}{gT:V->Hp->(St->Hp->Prop)->Prop}{px pos:Pos}{elt iter:Expr}{ifs:List Expr}{wi:TI}{tt:TT}{te:TE}
variable{σ:St}
theorem sD{use:Option (Value->Sem Unit)}{Qf:Value->Shared->Prop}(hc:X.calm=true)(C:iD X N' scope xs)(hi:PI X tg iter wi)
  (ht:∀ZY ZW fp,PTs 8#9 ifs tt) (he:∀ZY ZW fp,PE 8#9 elt te) {pins:List (Addr×Obj)}{s:Shared}{H:Hp}{Q:VK} (I:Inv X pins σ H s) (h:rM gT wi tt te σ H Q)
  (htg: ∀(ZY:Shared) (ZW:Hp) (fp:List Addr) (pl:List 2#9) (s:Shared) (H:Hp) (v:V) (u:Value) (Q:St->Hp->Prop),Inv 8#9 pl 15#4 H s->RelV v u->gT v H Q ->
   aT (model X.prog X.w) X.A (assign tg (blk X N' scope ZY ZW fp).env u) (λ_ s' =>∃τ H',τ.length=xs.length/\Inv (blk X N' scope ZY ZW fp) pl (σ++τ) H' s'/\Q τ H') (λ_ _=>False) s)
  (V1: ∀(s':Shared) (L D:Addr) (H':Hp) (ml:Str->Option Value),s'.heap.Ns L ml->Inv X pins σ H' s'->H' L=none->L≠8#2->18#7<=L->(∀y c,X.env.cells.lookup y=some c->c≠L)->(∀p∈X.pn++pins,p.1≠L) ->
   Q (.ref D) H'->compPost (model X.prog X.w) X.A X.xe use Qf (.ref D) L (.ok .next) s'):
  aT 1#8 X.A (eval iter X.env) (λxv ZU=>aT 1#8 X.A (pyIter xv) (λit ZY=>aT 1#8 X.A (newList []) (λacc Ym=>
   aT 1#8 X.A (newFunctionEnv scope X.env.globals 23#6 [] X.env.qual none .none (some X.env)) (λV7 XW=>
    oZ (model X.prog X.w) X.A (.compStart (.ListComp elt [⟨tg,iter,ifs,0⟩] scope pos) 0 it acc { V7 with scope:=relabel scope X.env }) (compPost (model X.prog X.w) X.A X.xe use Qf acc V7.locals) XW) X.xe Ym) X.xe ZY) X.xe ZU) X.xe s:=by
 refine thn (hi pins s σ H _ I h) λv s1 h1=>thn h1 λitv s2 h2=>?_;obtain⟨it,fp,tn,J,H2,e,I2,T,ZO,f2,W,⟨m0,w0⟩,turn⟩:=h2;subst e;have ZV:∀b∈fp,b<5#5:=λb hb=>by obtain⟨o,ho,_⟩:=T.obj _ _ ZO b hb;exact aG ho
 refine dF (qo ?_);dsimp only;have I4:Inv (blk X N' scope s2 H2 fp) [] 15#4 H2 { s2 with heap:=pushCells ((s2.heap.push { cls := .type "list",dict:=none,data := .seq ([]:List Value).toArray }).push { cls := .type "dict",data := .dict #[] }) scope.names }:=
  Ew I2 C f2 ZV rfl rfl rfl
 generalize hXb:blk X N' scope s2 H2 fp=Xb at I4;have hD4:(pushCells ((s2.heap.push { cls := .type "list",dict:=none,data := .seq ([]:List Value).toArray }).push { cls := .type "dict",data := .dict #[] }) 4#3).get? 5#5=some { cls := .type "list",data := .seq ([]:List Value).toArray }:=
  pushCells_keeps _ _ _ _ (ar _ (aH _ rfl))
 have Za:tn 0 (pushCells ((s2.heap.push { cls := .type "list",dict:=none,data := .seq ([]:List Value).toArray }).push { cls := .type "dict",data := .dict #[] }) 4#3):=
  T.keep _ _ _ ZO λb hb o e=>pushCells_keeps _ _ b o (ar _ (ar _ e))
 have Ve:({ scope:=relabel scope X.env,locals:=(s2.heap.push { cls := .type "list",dict:=none,data := .seq ([]:List Value).toArray }).objs.size,globals:=X.env.globals,cells:=cellsFrom ((s2.heap.push { cls := .type "list",dict:=none,data := .seq ([]:List Value).toArray }).objs.size+1) scope.names (kQ X.env scope.names []),qual:=X.env.qual,func:=none,code:=X.env.code,frame:=X.env.frame,builtins:=X.env.builtins }:Env)=Xb.env:=by
  rw[<-hXb,bS];rfl
 generalize hs4:({ s2 with heap:=pushCells ((s2.heap.push { cls := .type "list",dict:=none,data := .seq ([]:List Value).toArray }).push { cls := .type "dict",data := .dict #[] }) scope.names }:Shared)=s4 at I4;have VM:s4.heap.get? 5#5=some { cls := .type "list",data := .seq ([]:List Value).toArray }:=by rw [<-hs4];exact hD4
 have VY:tn 0 s4.heap:=by rw[<-hs4];exact Za
 have hL:Xb.env.locals=5#5+1:=by rw[<-hXb];rfl
 have hex:Xb.ex=fp:=by rw[<-hXb];rfl
 have WK:Xb.s₀=s2:=by rw[<-hXb];rfl
 have hH0:Xb.H₀=H2:=by rw[<-hXb];rfl
 have Zf:Xb.fs=frs X.stack:=by rw[<-hXb];rfl
 have hpn:Xb.pn=[]:=by rw[<-hXb];rfl
 have hK:Xb.K=X.K:=by rw[<-hXb];rfl
 have hP:Xb.prog=X.prog:=by rw[<-hXb];rfl
 have hw:Xb.w=X.w:=by rw[<-hXb];rfl
 have hA:Xb.A=X.A:=by rw[<-hXb];rfl
 have hxe:Xb.xe=λ_ _=>False:=by rw[<-hXb];rfl
 have hcb:Xb.calm=true:=by rw[<-hXb];exact hc
 have hNb:Xb.N=N':=by rw[<-hXb];rfl
 have YZ:∀y,scope.names.lookup y=some .cell->Xb.fn y=true:=λy hy=>by rw[<-hXb];show 25#7=true;rw[hy];rfl
 have Yh:PTs Xb ifs tt:=by rw[<-hXb];exact ht _ _ _
 have heb:PE Xb elt te:=by rw[<-hXb];exact he _ _ _
 have hgb:∀(pl:List 2#9) (s:Shared) (H:Hp) (v:V) (u:Value) (Q:St->Hp->Prop),Inv Xb pl 15#4 H s->RelV v u->gT v H Q ->
   aT 1#8 X.A (assign tg Xb.env u) (λ_ s'=>∃τ H',τ.length=1#5/\Inv Xb pl (σ++τ) H' s'/\Q τ H') 16#0 s:=by
  rw[<-hXb];exact htg _ _ _
 have Xa:∀y c,Xb.env.cells.lookup y=some c->c≠5#5:=λy c e z=>by
  obtain⟨v,o,ho,hd⟩:=I4.cell y c e;rw[z,VM]at ho;cases ho;cases hd
 have stat:∀{H':Hp}{pl:List (Addr×Obj)},(∀b∈fp,H' b=none)->(∀p∈pl,p.1=5#5)->∀b∈fp,wR Xb pl H' b:=λ{H' pl} hn ZP b hb=>by
  refine⟨hn b hb,?_,?_,.inl (by rw[hex];exact hb),λy c e z=>?_,λp hp z=>?_⟩
  .rw[hL];exact aS (dW (ZV b hb))
  .exact I4.ok.exfs b (by rw[hex];exact hb)
  .exact(I4.ok.exf b (by rw[hex];exact hb)).2 y c e z
  .rw[hpn]at hp
   have h1:=ZP p 18#9;have h2:=ZV b hb;exact absurd h2 (by rw[<-z,h1];exact bP _)
 have Dfs:5#5∉Xb.fs:=by
  rw[Zf];intro z;rcases a7.mp (I2.stkSub _ z) with e|e
  .exact absurd I2.lt (by rw[<-e];exact bP _)
  .exact I2.nofs 1#6 e
 have fin :∀ (s':Shared) (i m:Nat) (ys:List V) (ZZ:List Value) (n:Nat) (H':Hp) (Y3:St),Inv Xb [] Y3 H' s'->H' 5#5=none->s'.heap.get? 5#5=some { cls := .type "list",data := .seq ZZ.toArray n }->cz ys ZZ->3#6<sizeLine ->
   (∀D,H' D=none->Q (.ref D) (upd H' D (.lst ys)))->compPost 1#8 X.A X.xe use Qf (.ref 5#5) Xb.env.locals (.ok .next) s':=by
  intro s' i m ys ZZ n H' Y3 I' Wt hDo rv hz q;obtain⟨ml,Yz,_⟩:=I'.loc;have kb:∀b o,b≠Xb.env.locals->s'.heap.get? b=some o->s'.heap.get? b=some o:=λb o _ e=>e;have hDL:5#5≠Xb.env.locals:=by rw[hL];exact aS (bx _)
  have hok1:HOk X.prog X.w H' s'.heap:=by
   have:=I'.hok.but I'.free kb;rw[hP,hw]at this;exact this
  have hok2:HOk X.prog X.w (upd H' s2.heap.objs.size (.lst ys)) s'.heap:=hok1.track Wt ⟨aV hz,ZZ,n,rv,kb _ _ hDL hDo⟩;have base:=I'.base;rw[WK,hH0,hex,Zf]at base;have un:Un 12#2 fp H2 (upd H' s2.heap.objs.size (.lst ys)) s2.heap s'.heap:=by
   have ltL:∀b o,s2.heap.get? b=some o->b≠Xb.env.locals:=λb o e=>by rw[hL];exact aS (dW (aG e))
   have ltD:∀b o,s2.heap.get? b=some o->b≠5#5:=λb o e=>aS (aG e);refine⟨λb o e n hb hx=>kb b o (ltL b o e) (base.keep b o e n hb hx),λb o e n hb hx=>?_,λb o e n hx=>?_,λb o e hx=>?_,λb xs e=>?_,λb o u e=>?_,λb ps e=>?_⟩
   .obtain⟨sl,q⟩:=base.slot b o e n hb hx
    exact⟨sl,kb b _ (ltL b o e) q⟩
   .rw[bg (ltD b o e)];exact base.free b o e n hx
   .obtain⟨o',q⟩:=base.there b o e hx
    exact⟨o',kb b _ (ltL b o e) q⟩
   .have q:=base.tups b xs e
    rw[bg (bh q Wt)];exact q
   .have q:=base.frzs b o u e
    rw[bg (bh q Wt)];exact q
   .obtain⟨more,q⟩:=base.tbls b ps e
    exact⟨more,by rw[bg (bh q Wt)];exact q⟩
  have os:s'.os=s2.os:=by rw[I'.os,WK]
  have If:=I2.call' (s':=s') os un hok2 I'.bare λb hb=>⟨(f2 b hb).2.2.2.1,(f2 b hb).2.1,(f2 b hb).2.2.2.2.1,(f2 b hb).2.2.2.2.2⟩;refine V1 s' _ _ _ ml Yz If ?_ ?_ ?_ ?_ ?_ (q _ Wt)
  .rw[bg (dO hDL)];exact I'.free
  .rw[hL];exact cJ (dW I2.lt)
  .rw[hL];exact gL I2.sz
  .intro y c e z
   obtain⟨v,o,ho,_⟩:=I2.cell y c e;have:=aG ho;rw[z,hL]at this;exact absurd (Nat.lt_of_succ_lt this) (bP _)
  .intro p hp z
   have:=aG (I2.pin p hp).1;rw[z,hL]at this;exact absurd (Nat.lt_of_succ_lt this) (bP _)
 have loop:∀V0:Addr,V0=it->oZ 1#8 X.A (.compLoop (.ListComp elt [⟨tg,iter,ifs,0⟩] scope pos) 0 (.ref V0) (.ref 5#5) Xb.env) (compPost 1#8 X.A X.xe use Qf (.ref 5#5) Xb.env.locals) s4:=by
  rintro V0 rfl
  refine nB (λn s' =>∃(i:Nat) (ys:List V) (ZZ:List Value) (nn:Nat) (H':Hp),Inv Xb [] 15#4 H' s'/\tn i s'.heap/\(∀b∈fp,H' b=none)/\H' 5#5=none /\
   s'.heap.get? s2.heap.objs.size=some { cls := .type "list",data := .seq ZZ.toArray nn }/\cz ys ZZ/\W i n ys H') ?_ m0 ⟨0,[],[],_,H2,I4,VY,fun b hb=>(f2 b hb).1,I2.hok.fresh (ak _),VM,.nil,w0⟩
  rintro n s3 ⟨i,ys,ZZ,nn,H3,I3,ZJ,W9,hD3,U6,XC,w3⟩;obtain⟨hz,turn⟩:=turn i n ys H3 w3;have Vc:∀{s':Shared}{H':Hp}{Y3:St}{oD:Obj},Inv Xb [] Y3 H' s'->H' 5#5=none->s'.heap.get? 5#5=some oD->(∀v,oD.data≠.cell v)->Inv Xb [(5#5,oD)] Y3 H' s':=λ{s' H' Y3 oD} I' hn ho hd=>
   I'.pins_of λp hp=>by
    have e:p=(s2.heap.objs.size,oD):=by simpa using hp
    subst e;exact⟨ho,hn,by rw[hL];show 5#5≠_;exact aS (bx _),Dfs,hd⟩
  have I3p:=Vc I3 hD3 U6 (λv z=>by cases z);have ZP :∀ p ∈ [(5#5,({ cls := .type "list",data := .seq ZZ.toArray nn }:Obj))],p.1=5#5:=fun p hp=>by
   have e:=be.mp hp;rw[e]
  rcases turn with⟨stop,qn⟩|⟨go,step⟩
  .have q:=T.done Xb hP hw hK hcb i _ s3 _ H3 16#0 I3p (stat W9 ZP) ZJ stop
   rw[hA]at q;refine cf q (λr s5 ⟨hr,I5⟩=>?_) λ_ _ z=>ck z;subst hr;exact fin s5 i n ys ZZ nn H3 _ (I5.pins_of λp hp=>absurd hp 0#6) hD3 (I5.pin _ (aW _ (be.mpr rfl))).1 XC hz qn
  .have q:=T.item Xb hP hw hK hcb i _ s3 _ H3 16#0 I3p (stat W9 ZP) ZJ go
   rw[hA]at q;refine cf q (λr s45 ⟨u,hr,h5⟩=>?_) λ_ _ z=>ck z;subst hr;refine cf h5 (λ_ s5 ⟨y5,H5,I5,r5,yl5,Zj,U9⟩=>?_) λ_ _ z=>ck z;have hD5:=(I5.pin _ (aW _ (be.mpr rfl)));have B':=I5.pinned (stat U9 ZP) (T.obj _ _ Zj);refine cf (hgb _ s5 H5 y5 _ _ B' r5 (step y5 H5 yl5)) (λ_ s6 ⟨τ,H6,hτ,I6,q6⟩=>?_) λ_ _ z=>ck z;have qt:=Yh _ s6 _ H6 _ I6 q6;rw[hP,hw,hA,hxe]at qt;refine cf qt (λb s7 ⟨H7,I7,q7⟩=>?_) λ_ _ z=>ck z;have again :∀ {s8:Shared}{H8:Hp}{X7:St},Inv Xb ([(5#5,({ cls := .type "list",data := .seq ZZ.toArray nn }:Obj))]++zb fp s5.heap) X7 H8 s8->tn (i+1) s8.heap/\(∀ b∈fp,H8 b=none)/\H8 5#5=none/\s8.heap.get? 5#5=some { cls := .type "list",data := .seq ZZ.toArray nn }:=fun {s8 H8 X7} I8=>by
    refine⟨T.keep _ _ _ Zj λb hb o e=>(I8.pin (b,o) (aW _ (aW _ (l7 hb e)))).1,λb hb=>?_,?_,?_⟩
    .obtain⟨o,e,d⟩:=T.obj _ _ Zj b hb
     exact(I8.pin (b,o) (aW _ (aW _ (l7 hb e)))).2.1
    .exact(I8.pin _ (aW _ (a9 _ (be.mpr rfl)))).2.1
    .exact(I8.pin _ (aW _ (a9 _ (be.mpr rfl)))).1
   have forget:∀{s8:Shared}{H8:Hp}{pl:List (Addr×Obj)},Inv Xb pl (σ++τ) H8 s8->Inv Xb [] 15#4 H8 s8:=λ{s8 H8 pl} I8=>
    (I8.pins_of (pins':= []) λp hp=>absurd hp 0#6).weak (by simp[hτ]) λj v hj=>by
     by_cases hjs:j<σ.length
     .rw[aK hjs]at hj ⊢;exact hj
     .rw[aq 16#9,i5]at hj
      split at hj<;>simp at hj
   cases b with
   | false=>
     have WI:∃m',m'<n/\W (i+1) m' ys H7:=q7;obtain⟨m',hm,w7⟩:=WI;obtain⟨a1,a2,a3,a4⟩:=again I7;exact⟨m',hm,i+1,ys,ZZ,nn,H7,forget I7,a1,a2,a3,a4,XC,w7⟩
   | true=>
     have WI:te (σ++τ) H7 λy H4=>∃m',m'<n/\W (i+1) m' (ys++[y]) H4:=q7;have qe:=heb _ s7 _ H7 _ I7 WI;rw[hP,hw,hA,hxe]at qe;refine cf qe (λuv s8 ⟨y8,H8,I8,r8,m',hm,w8⟩=>?_) λ_ _ z=>ck z;obtain⟨a1,a2,a3,a4⟩:=again I8;have I9:=forget I8;have hl3:=XC.length;refine call_meets F.slot_list_append ⟨_,a4,rfl⟩ F.entry_list_append (F.args_list_append_2 _ _) (PySem.list_append s2.heap.objs.size ZZ.toArray nn uv (by rw[bV];omega)) ⟨a4,?_⟩;have hup:=JB a4 (·.push uv);have e1:(ZZ.toArray.push uv)=(ZZ++[uv]).toArray:=by simp
     rw[e1]at hup;have I10:Inv Xb [] 15#4 H8 { s8 with heap:=s8.heap.update s2.heap.objs.size (eU (·.push uv)) }:=
      I9.turned (t':=s8.toks) (λb' u hb hu=>(dS s8.heap (eU (·.push uv)) (dO hb)).trans hu) a3 (by rw[hL];exact aS (bx _)) (.inr (by rw[WK];exact ak _)) Xa (λp hp=>by rw[hpn]at hp;exact absurd hp 0#6)
     refine⟨m',hm,i+1,ys++[y8],ZZ++[uv],_,H8,I10,T.keep _ _ _ a1 λb hb o e=>?_,a2,a3,hup,XC.append (.cons r8 .nil),w8⟩;exact(dS s8.heap (eU (·.push uv)) (by first |exact cJ (ZV b hb) |exact aS (ZV b hb))).trans e
 have start:=codeAny_compStart_list (loop it rfl) (T.self X.A 0 s4 _ _ VY (loop it rfl));rw[Ve];have eL:(s2.heap.push { cls := .type "list",dict:=none,data := .seq ([]:List Value).toArray }).objs.size=Xb.env.locals:=by rw [bS,hL]
 rw[eL];exact start
theorem DG(C:iD X N' scope [x])(ZY:Shared)(ZW:Hp)(fp:List Addr)(pl:List 2#9)(s:Shared)(H:Hp)(v:V)(u:Value)(Q:St->Hp->Prop)(I:Inv 8#9 pl (σ++aP [x].length none) H s)(r:RelV v u)(q:gT1 v H Q):
  aT 1#8 X.A (assign (.Name x px) (blk X N' scope ZY ZW fp).env u) (λ_ s'=>∃τ H',τ.length=[x].length/\Inv 8#9 pl (σ++τ) H' s'/\Q τ H') 16#0 s:=by
 have hl:σ.length=X.N.length:=by
  have:=I.len;rw[show(blk X N' scope ZY ZW fp).N=N' from rfl,C.len,aQ,qg]at this;omega
 have Wp:Loc (blk X N' scope ZY ZW fp).env.scope x:=by
  rcases C.own x 0#6 with e|e
  .exact .inl (lookup_relabel_local e)
  .exact .inr (jI e)
 have hfx:(blk X N' scope ZY ZW fp).fn x=true\/(blk X N' scope ZY ZW fp).env.scope.names.lookup x=some .local:=by
  rcases C.own x 0#6 with e|e
  .right;exact lookup_relabel_local e
  .left;show(scope.names.lookup x==some .cell)=true;rw[e];rfl
 refine oY (nj I C.ndN (i:=X.N.length) (C.last 0 x rfl) Wp r (λs6 I6=>?_) hfx);have Xs:(σ++aP [x].length none).set X.N.length (some v)=σ++[some v]:=by
  rw[<-hl,dE _ _ 1#6];simp
 rw[Xs]at I6;exact⟨[some v],H,rfl,I6,q⟩
theorem Kh(hc:X.calm=true)(C:iD X N' scope [x])(hi:PI X (.Name x px) iter wi)
  (ht:∀ZY ZW fp,PTs 8#9 ifs tt) (he:∀ZY ZW fp,PE 8#9 elt te)
  (hs:autoParam 19#6 17#4):
  PE X 17#5 (sX wi tt te):=by
 intro pins s σ H Q I h;refine pW rfl hs (jt 16#2) C.kind (λy hy e=>lA C.nd (by rw[<-e];omega)) ?_;refine sD (gT:=gT1) hc C hi ht he I h (DG C) λs' L D H' ml Yz I' hn h1 h2 h3 h4 q=>?_;exact⟨ml,Yz,λh' Xe=>⟨.ref D,H',I'.turned (λb o hb e=>(Xe.2 b hb).trans e) hn h1 (.inr h2) h3 h4,rfl,q⟩⟩
theorem Ku{i:Nat}{y:Str}{py Yr:Pos}(hN:X.N.Nodup)(Wz:X.N[i]?=some y)(hy:Loc X.env.scope y)(hc:X.calm=true)(C:iD X N' scope [x])(hi:PI X (.Name x px) iter wi)
  (ht:∀ZY ZW fp,PTs 8#9 ifs tt) (he:∀ZY ZW fp,PE 8#9 elt te)
  (hsw:swapsWith 17#5 (some (.Name y py)) Yr.line X.env=pure true)
  (hs:autoParam 19#6 17#4) (hf:autoParam (X.fn y=true\/X.env.scope.names.lookup y=some .local) au4._auto_1):
  PS X (.Assign [.Name y py] 17#5 Yr) (E3 (sX wi tt te) (kC i)):=by
 intro pins s σ H D I h;rw[exec_Assign_Name_used _ _ _ _ hsw];refine ax (wpAny_standAt (ax ?_));show aT _ X.A (do let _ <- comprehension 17#5 scope X.env _ (newList []) false (eval iter X.env) (some (assign (.Name y py) X.env))) _ _ s
 refine ax (cf (pW (use:=some (assign (.Name y py) X.env)) (Q:=λ_ s'=>SP X pins D .next s') (cl:=kQ X.env scope.names []) rfl hs (jt 16#2) C.kind (λy hy e=>lA C.nd (by rw[<- e];exact hy))
  (sD (gT:=gT1) (Q:=λv H1=>kC i v σ H1 D.nx) hc C hi ht he I h (DG C) λs' L D' H' ml Yz I' hn h1 h2 h3 h4 q =>?_)) (λ_ s' hq=>aJ (aJ hq)) λ_ _ e=>e)
 show aT _ X.A (assign (.Name y py) X.env (.ref D')) _ _ _;refine oY (yr (v:= .ref D') I' hN Wz hy rfl (λs6 I6 Xe=>?_) hf);obtain⟨a,Xe,ha⟩:=Xe;have haL:L≠a:=by
  rcases ha with e|e
  .rw[e];exact h1
  .exact dO (h3 _ _ e)
 refine⟨ml,Yz.sameBut Xe haL,λh' Vl=>?_⟩;exact⟨_,H',I6.turned (t':=s6.toks) (λb o hb e=>(Vl.2 b hb).trans e) hn h1 (.inr h2) h3 h4,q⟩
inductive fX:List Expr->List Str->Prop
 |nil:fX [] []
 |cons (x:Str) (p:Pos) {es xs}:fX es xs->fX (.Name x p::es) (x::xs)
def gTt(K:ao)(n:Nat):V->Hp->(St->Hp->Prop)->Prop:=λv H Q=>∃a vs,v=.ref a/\SqT K H a vs/\3#7=n/\Q (vs.map some) H
theorem fX.each{env:Env}:∀{es:List Expr}{xs:List Str},fX es xs->(assignEach es env).length=1#5/\(assignEach es env).findIdx? (·.1)=none
 |_,_,.nil=>⟨rfl,rfl⟩
 | _,_,.cons x p r=>by
   obtain⟨a,b⟩:=fX.each (env:=env) r
   exact⟨by show(assignEach _ env).length+1=_;rw[a];rfl,by
    show(((false,_):Bool×(Value->Sem Unit))::assignEach _ env).findIdx? (·.1)=none
    rw[uy];simp[b]⟩
theorem Ip{Xb:Cx}{pl:List (Addr×Obj)}{E:Shared->Prop}(nd:Xb.N.Nodup)(own:∀x∈xs,Loc Xb.env.scope x/\(Xb.fn x=true\/Xb.env.scope.names.lookup x=some .local)):
  ∀{es:List Expr}{ys:List Str},fX es ys->(∀y∈ys,y∈xs)->∀(vs:List V) (us:List Value) (τ:St) (s:Shared),(∀(j:Nat) (y:Str),ys[j]?=some y->Xb.N[τ.length+j]?=some y)->3#7=3#6->cz vs us ->
   Inv Xb pl (τ++aP ys.length none) H s->(∀s',Inv Xb pl (τ++vs.map some) H s'->E s')->aT 1#8 X.A (assignInOrder ((assignEach es Xb.env).map (·.2)) us) (λ_ s'=>E s') 16#0 s:=by
 intro es ys n
 induction n with
 | nil=>
   intro _ vs us τ s hN hl r I k;have e:vs=[]:=FQ.mp hl;subst e;cases r;exact assignInOrder_nil (k s I)
 | @cons x p es ys n ih=>
   intro hm vs us τ s hN hl r I k;cases r with
   |nil=>cases hl
   | @cons v u vs us ra rb=>
     obtain⟨ho,hf⟩:=own x (hm x 0#6);show aT _ _ (assignInOrder (assign (.Name x p) Xb.env::(assignEach es Xb.env).map (·.2)) (u::us)) _ _ s;refine assignInOrder_cons (oY (nj I nd (i:=τ.length) (hN 0 x rfl) ho ra (λs6 I6=>?_) hf));have Xs:(τ++aP (x::ys).length none).set τ.length (some v)=(τ++[some v])++aP ys.length none:=by
      rw[dE _ _ 1#6];simp[lg]
     rw[Xs]at I6;refine ih (λy hy=>hm y (by simp[hy])) vs us (τ++[some v]) s6 (λj y hj=>?_) (by simpa using hl) rb I6 λs' I'=>k s' (by simpa using I');have:=hN (j+1) y (by simpa using hj);rw[aQ,List.length_singleton,show τ.length+1+j=τ.length+(j+1) by omega];exact this
variable{es:List Expr}{kt:Nat}
theorem O4{pt:Pos}(hc:X.calm=true)(C:iD X N' scope xs)(n:fX es xs)(ZY:Shared)(ZW:Hp)(fp:List Addr)(pl:List 2#9)(s:Shared)(H:Hp)(v:V)(u:Value)(Q:St->Hp->Prop)(I:Inv 8#9 pl 15#4 H s)(r:RelV v u)(q:gTt X.K xs.length v H Q):
  aT 1#8 X.A (assign (.Tuple es kt pt) (blk X N' scope ZY ZW fp).env u) (λ_ s'=>∃τ H',τ.length=1#5/\Inv 8#9 pl (σ++τ) H' s'/\Q τ H') 16#0 s:=by
 have hl:σ.length=X.N.length:=by
  have:=I.len;rw[show(blk X N' scope ZY ZW fp).N=N' from rfl,C.len,aQ,qg]at this;omega
 obtain⟨a,vs,rfl,hq,hv,q⟩:=q;cases r;obtain⟨ZZ,rv,ht,hz⟩:=I.tuple hq;obtain⟨h1,h2⟩:=n.each (env:=(blk X N' scope ZY ZW fp).env);refine assign_Tuple_tuple 11#6 ht (by simp[h1,<-hv,rv.length]) h2 λh' hx=>?_;have I1:Inv 8#9 pl 15#4 H { s with heap:=h' }:=I.kept (t':=s.toks) λb o e=>hx b o (aS (aG e)) e;refine Ip (X:=X) (xs:=xs) (Xb:=blk X N' scope ZY ZW fp) C.ndN (λx hx=>⟨?_,?_⟩) n (λy hy=>hy) vs _ σ _ (λj y hj=>?_) hv (by simpa using rv) I1 λs' I'=>⟨vs.map some,H,by simpa using hv,I',q⟩
 .rcases C.own x hx with e|e
  .exact .inl (lookup_relabel_local e)
  .exact .inr (jI e)
 .rcases C.own x hx with e|e
  .right;exact lookup_relabel_local e
  .left;show(scope.names.lookup x==some .cell)=true;rw[e];rfl
 .rw[hl];exact C.last j y hj
theorem GK{pt:Pos}(hc:X.calm=true)(C:iD X N' scope xs)(n:fX es xs)(hi:PI X (.Tuple es kt pt) iter wi)
  (ht:∀ZY ZW fp,PTs 8#9 ifs tt) (he:∀ZY ZW fp,PE 8#9 elt te)
  (hs:autoParam 19#6 17#4):
  PE X (.ListComp elt [⟨.Tuple es kt pt,iter,ifs,0⟩] scope pos) (rM (gTt X.K 1#5) wi tt te):=by
 intro pins s σ H Q I h;rw[eval_ListComp];refine pW (use:=none) (cl:=kQ X.env scope.names []) rfl hs (jt 16#2) C.kind (λy hy e=>lA C.nd (by rw[<-e];exact hy)) ?_;refine sD hc C hi ht he I h (O4 hc C n) λs' L D H' ml Yz I' hn h1 h2 h3 h4 q=>?_;exact⟨ml,Yz,λh' Xe=>⟨.ref D,H',I'.turned (t':=s'.toks) (λb o hb e=>(Xe.2 b hb).trans e) hn h1 (.inr h2) h3 h4,rfl,q⟩⟩
end
end _L
namespace HT
open PySem PyProof.Rows
open PySem.SeqAt
open PySem.AutoSeq1 (wpAny_loadPart')
open PySem.MeetsSeq PySem.MeetsSeq2 PySem.MeetsSeq3
section
variable {prog:Program}{w:World}{A:Around}{E:Value->Shared->Prop}{s:Shared}
variable{Q:Value->Shared->Prop}
theorem getItem_tuple_whole{t sl:Addr}{items:Array Value}{vl vu:Value}{lo hi:Option Int}(ht:IsTup s.heap t items)(hs:s.heap.IsSliceOf sl vl vu .none)(pl:IsPart vl lo)(pu:IsPart vu hi)
  (hw:sIx items.size 0 lo=0/\sIx items.size items.size hi=5#1)
  (h:Q (.ref t) s):aT 4#9 A (getItem (.ref t) (.ref sl)) Q E s:=by
 obtain⟨os,YQ,Zi,Ye⟩:=id hs;have VW:s.TypeIs (.ref sl) "slice":=⟨os,YQ,Zi⟩;unfold getItem
 try with_reducible refine fL ?_
 first |refine ax (aJ ?_) |skip
 refine ax (Bk ht.typeIs 0#1 ?_)
 refine ax (rD (name:=xy "__getitem__") ht.typeIs dg
  (lb dg ht.typeIs entry_tuple_getitem ?_ (args_tuple_getitem _ _)))
 show aT _ _ (jQ (.ref t) >>= _) _ _ s;refine ax (tupleItemsOf_ ht ?_);refine ax (ke VW ?_);rw[if_pos 0#1];refine ax (lB hs pl pu ?_);rw[hw.1,hw.2];show aT _ _ (if (((0:Nat):Int)==0&&(1:Int)==1&&(5#1-0)==5#1)=true then _ else _) _ _ s;rw[if_pos 0#6];obtain⟨o,ho,hc,n,hd⟩:=id ht;refine ax (m:=t6 _) ?_;unfold t6;refine ax (ke ⟨o,ho,hc⟩ (aJ ?_));rw[if_pos 0#1];refine ax (wpAny_rule ?_)
 first
  |exact aJ ⟨_,rfl,aJ h⟩
  |exact ax (aJ (aJ ⟨_,rfl,aJ h⟩))
theorem cat_tup0{t b:Addr}{ws:List Value}(ht:IsTup s.heap t ([]:List Value).toArray)(hb:IsTup s.heap b ws.toArray)(h:Q (.ref b) s):aT 4#9 A (binaryOp .Add (.ref t) (.ref b)) Q E s:=by
 obtain⟨⟨cls,dd,data,sl⟩,ho,hc,n,hd⟩:=id ht;obtain⟨⟨cls2,dd2,data2,sl2⟩,Xv,XN,n2,hd2⟩:=id hb;simp only at hc hd XN hd2;subst hc hd XN hd2;exact concat_meets ⟨_,ho,rfl⟩ ⟨_,Xv,rfl⟩ noFill_tuple_add seq_tuple_add nQ mL (mB _ _)
   (tuple_addW0 t b #[] ws.toArray n n2 dd dd2 sl sl2 0#6) ⟨ho,Xv,h⟩
end
end HT
namespace _G
open PySem PySem.SeqAt
open PySem.AutoSeq1 (wpAny_loadPart')
open PySem.MeetsSeq PySem.MeetsSeq2 PySem.MeetsSeq3
theorem xg(l:Addr)(items:Array Value)(n:Nat)(dd:Option Addr)(sl:Array (Option Value))(x:Value)(e:Value->Bool)(j:Nat)(hj:j<5#1)
  (hit:e items[j]=true) (Xp:∀m (hm:m<5#1),m<j->e items[m]=false):
  Meets (Builtin.«tuple.index» ⟨[.ref l,x],[]⟩)
   (fun A R s=>s.heap.get? l=some { cls := .type "tuple",dict:=dd,data := .seq items n,slots:=sl }/\(∀ y,y∈items->EqAt A.in1 s y x (e y))/\R (.ok (.ret (.int j s.toks))) { s with toks:=s.toks+1 }):=
 .of_wp λprog w A R s h=>by
  obtain⟨hp,g,d,tk,os⟩:=s;obtain⟨hl,he,h⟩:=h;simp only[Builtin.«tuple.index»,Std.Legacy.Range.forIn_eq_forIn_range']
  wp_walk using hE hl,wpAny_forIn_list _ (λrest b s'=>b.1=none/\s'=⟨hp,g,d,tk,os⟩ /\ ∃i,i<=j/\rest=cb i (items.size-i)) _
  case turn=>
   rintro y rest b s' ⟨hb,rfl,i,hij,YL⟩;have ZV:i<5#1:=by
    rcases Nat.lt_or_ge i 5#1 with q|q
    .exact q
    .exact az 0#7 0#7
   obtain⟨k,hk⟩ :∃k,5#1-i=k+1:=⟨5#1-i-1,by omega⟩;rw[hk,yu]at YL;injection YL with h1 h2
   subst h1;have hg:items[y]?=some items[y]:=by simp[ZV]
   rw[hg];refine ax (he _ (Array.getElem_mem ZV) prog w _ _ ?_);by_cases hyj:y=j
   .subst hyj
    rw[hit]
    wp_walk
    exact⟨_,rfl,h⟩
   .rw[Xp y ZV (by exact wF 0#7 0#7)]
    wp_walk
    exact⟨rfl,rfl,y+1,by exact wF 0#7 0#7,by rw[h2];congr 1;omega⟩
  case fin=>
   rintro ⟨b1,b2⟩ s' ⟨hb,rfl,i,hij,YL⟩;exfalso;have h3:=congrArg zG YL;simp at h3;omega
  case h=>
   exact⟨rfl,rfl,0,dB _,by simp⟩
theorem si:fillsNumberSlot (.type "tuple") "mul"=pure false:=
 fillsNumberSlot_seq (id:="tuple.__mul__") (r:=some (.builtin "tuple.__rmul__")) F.slot_tuple_mul.lookup 1#4 F.slot_tuple_rmul.lookup 1#4
theorem yU:seqRepeat? (.type "tuple")=pure (some (.builtin "tuple.__mul__")):=by
 unfold seqRepeat?;rw [seqSlot_of (T:="tuple") (name:="__mul__") (id:="tuple.__mul__") F.slot_tuple_mul.lookup 1#4,seqSlot_of (T:="tuple") (name:="__rmul__") (id:="tuple.__rmul__") F.slot_tuple_rmul.lookup 1#4];rfl
theorem vq(a:Int)(t:Tok)(l:Addr)(items:Array Value)(n:Nat)(dd:Option Addr)(sl:Array (Option Value)):
  Meets (Builtin.«int.__rmul__» ⟨[.int a t,.ref l],[]⟩) (fun _ R s=>s.heap.get? l=some { cls := .type "tuple",dict:=dd,data := .seq items n,slots:=sl }/\R (.ok (.ret Value.notImplemented)) s):=
 .of_wp λprog w A R s h=>by obtain⟨hp,g,d,tk,os⟩:=s;obtain⟨hl,h⟩:=h;wp_walk;exact⟨_,rfl,h⟩
theorem xj(l:Addr)(items:Array Value)(n:Nat)(dd:Option Addr)(sl:Array (Option Value))(t:Tok):
  Meets (Builtin.«tuple.__mul__» ⟨[.ref l,.int 1 t],[]⟩) (fun _ R s=>s.heap.get? l=some { cls := .type "tuple",dict:=dd,data := .seq items n,slots:=sl }/\R (.ok (.ret (bw l))) { s with toks:=s.toks }):=
 .of_wp λprog w A R s h=>by
  obtain⟨hp,g,d,tk,os⟩:=s;obtain⟨hl,h⟩:=h;have f1:=uz;have Xp: ¬((decide ((1:Int) < -2^63)||decide ((1:Int) >= 2^63))=true):=by decide
  have U4:(items.isEmpty||(1:Int)==1)=true:=by simp
  wp_walk using hE hl
  exact⟨_,rfl,h⟩
theorem CF(l:Addr)(items:Array Value)(n:Nat)(dd:Option Addr)(sl:Array (Option Value))(t:Tok)(he:items.isEmpty=false):
  Meets (Builtin.«tuple.__mul__» ⟨[.ref l,.int 0 t],[]⟩) (fun _ R s=>s.heap.get? l=some { cls := .type "tuple",dict:=dd,data := .seq items n,slots:=sl }/\R (.ok (.ret (bw 1#2))) { s with heap:=s.heap.push { cls:=Bi "tuple",data:=JK #[] },toks:=s.toks }):=
 .of_wp λprog w A R s h=>by
  obtain⟨hp,g,d,tk,os⟩:=s;obtain⟨hl,h⟩:=h;have f1:=uz;have Xp: ¬((decide ((0:Int) < -2^63)||decide ((0:Int) >= 2^63))=true):=by decide
  have hno1: ¬((items.isEmpty||(0:Int)==1)=true):=by rw[he];decide
  have U4:(decide ((0:Int)<=0)||items.isEmpty)=true:=by simp
  wp_walk using hE hl
  exact⟨_,rfl,h⟩
theorem BB(l:Addr)(items:Array Value)(n:Nat)(dd:Option Addr)(sl:Array (Option Value))(k:Int)(t:Tok)(h1: ¬(items.isEmpty||k==1)=true)(h0:0<k)(hk:k<1000)(hz:5#1<1000):
  Meets (Builtin.«tuple.__mul__» ⟨[.ref l,.int k t],[]⟩) (fun _ R s=>s.heap.get? l=some { cls := .type "tuple",dict:=dd,data := .seq items n,slots:=sl } /\
   R (.ok (.ret (bw s.heap.objs.size))) { s with heap:=s.heap.push { cls:=Bi "tuple",data:=JK ((aP k.toNat items).foldl (· ++ ·) #[]) },toks:=s.toks }):=
 .of_wp λprog w A R s h=>by
  obtain⟨hp,g,d,tk,os⟩:=s;obtain⟨hl,h⟩:=h;have f1:=uz;have Xp: ¬((decide (k < -2^63)||decide (k >= 2^63))=true):=by
   rw[pX,decide_eq_true_eq,decide_eq_true_eq];omega
  have he:items.isEmpty=false:=by
   cases q:items.isEmpty with
   |false=>rfl
   |true=>rw[q]at h1;simp at h1
  have hno2: ¬((decide (k<=0)||items.isEmpty)=true):=by
   rw[he,Bool.or_false,decide_eq_true_eq];omega
  have hp1:(5#1:Int)*k<=1000000:=by
   have a1:(5#1:Int)*k<=1000*k:=Int.mul_le_mul_of_nonneg_right 0#2 0#2;omega
  have YX: ¬((5#1:Int)*k>(2^63-1)/8):=by omega
  have Zu: ¬(t7 ((5#1:Int)*k)=true):=by
   unfold t7;simp only[sizeLine_eq,decide_eq_true_eq,gt_iff_lt];omega
  have hsz:(List.foldl (λx1 x2=>x1++x2) #[] (aP k.toNat items)).size<=sizeLine:=by
   have e:∀(m:Nat) (a:Array Value),(List.foldl (λx1 x2=>x1++x2) a (aP m items)).size=a.size+m*5#1:=by
    intro m
    induction m with
    |zero=>intro a;simp
    |succ m ih=>intro a;rw[lg,pY,ih];simp;rw[lM];omega
   rw[e];have a2:k.toNat*5#1<=1000*5#1:=ei _ 0#2;rw[sizeLine_eq];simp;omega
  wp_walk using hE hl
  rw[if_neg Xp]
  wp_walk using hE hl
  rw[if_neg h1]
  wp_walk using hE hl
  rw[if_neg YX]
  wp_walk using hE hl
  all_goals first |exact⟨_,rfl,h⟩ |skip
end _G
namespace _G
open PySem PySem.Spec _L
open PyProof.Rows hiding St
mutual
def RU(H:Hp)(μ:List Addr):U->V->Prop
 |.non,v=>v=.non
 |.bl b,v=>v=.bl b
 |.int i,v=>v=.int i
 |.str x,v=>v=.str x
 |.tup us,v=>∃a vs,v=.ref a/\H a=some (.tup vs)/\RUs H μ us vs
 |.ref n,v=>∃a,v=.ref a/\μ[n]?=some a
 |.obj a,v=>v=.ref a
def RUs(H:Hp)(μ:List Addr):List U->List V->Prop
 |[],vs=>vs=[]
 |u::us,vs=>∃v r,vs=v::r/\RU H μ u v/\RUs H μ us r
end
structure bp(H H':Hp):Prop where
 t:∀a vs,H a=some (.tup vs)->H' a=some (.tup vs)
 f:∀a o u,H a=some (.frz o u)->H' a=some (.frz o u)
instance{H H':Hp}:CoeFun (bp H H') λ_=>∀a vs,H a=some (.tup vs)->H' a=some (.tup vs):=⟨bp.t⟩
def Pre(μ Y4:List Addr):Prop:= ∃t,Y4=μ++t
theorem bp.refl(H:Hp):bp H H:=⟨λ_ _ h=>h,λ_ _ _ h=>h⟩
variable{H H1:Hp}
theorem bp.trans{H2:Hp}(a:bp H H1)(b:bp H1 H2):bp H H2:=⟨λc vs h=>b c vs (a c vs h),λc o u h=>b.f c o u (a.f c o u h)⟩
theorem Pre.refl(μ:List Addr):Pre μ μ:=⟨[],by simp⟩
variable{μ Y0:List Addr}
theorem Pre.trans{Y5:List Addr}(a:Pre μ Y0)(b:Pre Y0 Y5):Pre μ Y5:=by
 obtain⟨t,rfl⟩:=a;obtain⟨u,rfl⟩:=b;exact⟨t++u,by simp⟩
variable{n:Nat}{a:Addr}
theorem Pre.get{Y4:List Addr}(p:Pre μ Y4)(h:μ[n]?=some a):Y4[n]?=some a:=by
 obtain⟨t,rfl⟩:=p;have hn:n<μ.length:=(af.mp h).1;rw[aK hn];exact h
variable{p:Addr}
theorem bp.new{o:HO}(h:H p=none):bp H (upd H p o):=⟨λa vs e=>by rw[bg (bh e h)];exact e,λa _ _ e=>by rw[bg (bh e h)];exact e⟩
theorem bp.wr{xs ys:List V}(h:H p=some 8#8):bp H (upd H p (.lst ys)):=⟨λa vs e=>by
 rw[bg (qT e h 21#5)];exact e,λa _ _ e=>by
 rw[bg (qT e h (by intro z;cases z))];exact e⟩
mutual
theorem RU.mono{H H':Hp}{μ Y4:List Addr}(k:bp H H')(p:Pre μ Y4):∀(u:U) (v:V),RU H μ u v->RU H' Y4 u v
 |.non,_,h=>by simpa [RU]using h
 |.bl _,_,h=>by simpa [RU]using h
 |.int _,_,h=>by simpa [RU]using h
 |.str _,_,h=>by simpa [RU]using h
 |.obj _,_,h=>by simpa [RU]using h
 | .ref n,v,h=>by
   simp only[RU]at h ⊢;obtain⟨a,e,q⟩:=h;exact⟨a,e,p.get q⟩
 | .tup us,v,h=>by
   simp only[RU]at h ⊢;obtain⟨a,vs,e,q,r⟩:=h;exact⟨a,vs,e,k a vs q,RUs.mono k p us vs r⟩
theorem RUs.mono{H H':Hp}{μ Y4:List Addr}(k:bp H H')(p:Pre μ Y4):∀(us:List U) (vs:List V),RUs H μ us vs->RUs H' Y4 us vs
 |[],_,h=>by simpa [RUs]using h
 | u::us,vs,h=>by
   simp only[RUs]at h ⊢;obtain⟨v,r,e,a,b⟩:=h;exact⟨v,r,e,RU.mono k p u v a,RUs.mono k p us r b⟩
end
section
variable {H:Hp}{μ:List Addr}
theorem RUs.nil:RUs H μ [] []:=by simp[RUs]
theorem RUs.cons{u:U}{us:List U}{v:V}{vs:List V}(a:RU H μ u v)(b:RUs H μ us vs):RUs H μ (u::us) (v::vs):=by
 simp only[RUs];exact⟨v,vs,rfl,a,b⟩
variable{us:List U}{vs:List V}
theorem RUs.inv{u:U}(h:RUs H μ (u::us) vs):∃v r,vs=v::r/\RU H μ u v/\RUs H μ us r:=by simpa only [RUs]using h
theorem RUs.nil_inv(h:RUs H μ [] vs):vs=[]:=by simpa only [RUs]using h
theorem RUs.len:∀{us:List U}{vs:List V},RUs H μ us vs->1#1=3#7
 |[],vs,h=>by rw[h.nil_inv];rfl
 | u::us,vs,h=>by
   obtain⟨v,r,rfl,_,b⟩:=h.inv;simp[b.len]
theorem RUs.get:∀{us:List U}{vs:List V}{i:Nat}{u:U},RUs H μ us vs->us[i]?=some u->∃v,vs[i]?=some v/\RU H μ u v
 |[],vs,i,u,h,e=>by simp at e
 | x::us,vs,0,u,h,e=>by
   obtain⟨v,r,rfl,a,b⟩:=h.inv;simp at e;subst e;exact⟨v,rfl,a⟩
 | x::us,vs,i+1,u,h,e=>by
   obtain⟨v,r,rfl,a,b⟩:=h.inv;obtain⟨w,h1,h2⟩:=RUs.get (i:=i) b (by simpa using e);exact⟨w,by simpa using h1,h2⟩
theorem RUs.append:∀{us ws:List U}{vs xs:List V},RUs H μ us vs->RUs H μ ws xs->RUs H μ (us++ws) (vs++xs)
 |[],ws,vs,xs,h,g=>by rw[h.nil_inv];exact g
 | u::us,ws,vs,xs,h,g=>by
   obtain⟨v,r,rfl,a,b⟩:=h.inv;exact .cons a (b.append g)
theorem RUs.set{u:U}{v:V}(q:RU H μ u v):∀{us:List U}{vs:List V} (i:Nat),RUs H μ us vs->RUs H μ (us.set i u) (vs.set i v)
 |[],vs,i,h=>by rw[h.nil_inv];simpa using RUs.nil
 | x::us,vs,0,h=>by
   obtain⟨w,r,rfl,a,b⟩:=h.inv;exact .cons q b
 | x::us,vs,i+1,h=>by
   obtain⟨w,r,rfl,a,b⟩:=h.inv;exact .cons a (RUs.set q i b)
theorem RUs.eraseIdx:∀{us:List U}{vs:List V} (i:Nat),RUs H μ us vs->RUs H μ (us.eraseIdx i) (vs.eraseIdx i)
 |[],vs,i,h=>by rw[h.nil_inv];simpa using RUs.nil
 | x::us,vs,0,h=>by
   obtain⟨w,r,rfl,a,b⟩:=h.inv;exact b
 | x::us,vs,i+1,h=>by
   obtain⟨w,r,rfl,a,b⟩:=h.inv;exact .cons a (RUs.eraseIdx i b)
theorem RUs.drop:∀{us:List U}{vs:List V} (i:Nat),RUs H μ us vs->RUs H μ (us.drop i) (vs.drop i)
 |us,vs,0,h=>h
 |[],vs,i+1,h=>by rw[h.nil_inv];simpa using RUs.nil
 | x::us,vs,i+1,h=>by
   obtain⟨w,r,rfl,a,b⟩:=h.inv;exact RUs.drop i b
theorem RUs.take:∀{us:List U}{vs:List V} (i:Nat),RUs H μ us vs->RUs H μ (us.take i) (vs.take i)
 |us,vs,0,h=>by simpa using RUs.nil
 |[],vs,i+1,h=>by rw[h.nil_inv];simpa using RUs.nil
 | x::us,vs,i+1,h=>by
   obtain⟨w,r,rfl,a,b⟩:=h.inv;exact .cons a (RUs.take i b)
theorem RUs.dropLast(h:RUs H μ us vs):RUs H μ us.dropLast vs.dropLast:=by
 rw[JC,JC,h.len];exact h.take _
theorem RUs.ints:∀(ns:List Int),RUs H μ (ns.map U.int) 10#7
 |[]=>.nil
 |n::ns=>.cons (by simp[RU]) (RUs.ints ns)
end
structure KX where
 K:ao
 caps:List U
 capv:List V
 cds:List (Addr×Obj)
 tabs:List (Addr×Str)
instance:Coe KX ao:=⟨KX.K⟩
def fz:HO:= .ext λ_=>True
def Ce(H:Hp)(P:Addr)(q:Str):Prop:= ∃ps:Array Value,H P=some (.tbl ps)/\TriplesOk ps.toList /\
 ∀pos cv,codeAmong pos ps.toList=some cv->∃c oc vs t,cv=.ref c/\H c=some (.frz oc fz)/\oc.data=.fields vs/\vs[1]?=some (.str q t)
structure HX(K:KX)(μ:List Addr)(H:Hp):Prop where
 cap:RUs H μ K.caps K.capv
 cds:∀q∈K.cds,H q.1=some (.frz q.2 fz)
 tab:∀q∈K.tabs,Ce H q.1 q.2
theorem HX.upd{K:KX}{μ Y4:List Addr}{H:Hp}{p:Addr}{o':HO}(h:HX K μ H)(kp:bp H (upd H p o'))(pre:Pre μ Y4)(nf:∀o,H p=some o->(∀o' u,o≠.frz o' u) /\ ∀ps,o≠.tbl ps):HX K Y4 (upd H p o'):=by
 have f:∀a o u,H a=some (.frz o u)->_L.upd H p o' a=some (.frz o u):=λa o u e=>by
  rw[bg]
  .exact e
  .rintro rfl
   exact(nf _ e).1 o u rfl
 refine⟨RUs.mono kp pre _ _ h.cap,λq hq=>f _ _ _ (h.cds q hq),λq hq=>?_⟩;obtain⟨ps,e,tr,al⟩:=h.tab q hq;refine⟨ps,?_,tr,λpos cv hc=>?_⟩
 .rw[bg]
  .exact e
  .intro z
   rw[z]at e;exact(nf _ e).2 ps rfl
 .obtain⟨c,oc,vs,t,e1,e2,e3,e4⟩:=al pos cv hc
  exact⟨c,oc,vs,t,e1,f _ _ _ e2,e3,e4⟩
def dV{κ:Type}(kvs:List (κ×U))(vs:List V):List (κ×V):=(kvs.map (·.1)).zip vs
def oP(K:KX)(H:Hp)(μ:List Addr)(a:Addr):Cell->Prop
 |.lst us=>∃vs,H a=some (.lst vs)/\RUs H μ us vs
 |.frz us=>∃vs,((∃o,H a=some (.frz o (.lst vs)))\/SqL K (λ_=>none) a vs)/\RUs H μ us vs
 |.dic kvs=>∃vs,H a=some (.dK (dV kvs vs))/\RUs H μ (kvs.map (·.2)) vs
 |.dit false kvs=>∃vs,H a=some (.dT (dV kvs vs))/\RUs H μ (kvs.map (·.2)) vs
 |.dit true kvs=>∃vs,(∃o,H a=some (.frz o (.dT (dV kvs vs))))/\RUs H μ (kvs.map (·.2)) vs
def Cell.own:Cell->Bool
 |.frz _=>false
 |.dit f _=>!f
 |_=>true
structure HR(K:KX)(μ:List Addr)(S:Sto)(H:Hp):Prop where
 len:μ.length=S.length
 inj:∀(n m:Nat) (c d:Cell),S[n]?=some c->S[m]?=some d->c.own=true->d.own=true->μ[n]?=μ[m]? -> n=m
 cell:∀(n:Nat) (c:Cell) (a:Addr),S[n]?=some c->μ[n]?=some a->oP K H μ a c
 ext:HX K μ H
structure ER(H:Hp)(μ:List Addr)(G:Rho)(σ:St):Prop where
 len:G.length=σ.length
 get:∀(i:Nat) (u:U),G[i]?=some (some u)->∃v,σ[i]?=some (some v)/\RU H μ u v
theorem ER.mono{H H':Hp}{μ Y4:List Addr}{G:Rho}{σ:St}(e:ER H μ G σ)(k:bp H H')(p:Pre μ Y4):ER H' Y4 G σ:=
 ⟨e.len,λi u h=>let ⟨v,a,b⟩:=e.get i u h;⟨v,a,RU.mono k p u v b⟩⟩
variable{u:U}{G:Rho}{σ:St}{v:V}
theorem ER.set(e:ER H μ G σ)(r:RU H μ u v)(i:Nat):ER H μ (G.set i (some u)) (σ.set i (some v)):=by
 refine⟨by simpa using e.len,λj w h=>?_⟩;by_cases hj:i=j
 .subst hj
  rw[List.getElem?_set]at h;simp only[if_true]at h
  split at h
  .rename_i hl
   cases h;refine⟨v,?_,r⟩;rw[aM (by rw[<-e.len];exact hl)]
  .cases h
 .rw[aD hj]at h
  obtain⟨x,a,b⟩:=e.get j w h;exact⟨x,by rw[aD hj];exact a,b⟩
theorem ER.push(e:ER H μ G σ)(r:RU H μ u v):ER H μ 9#4 (σ++[some v]):=by
 refine⟨by simp[e.len],λj w h=>?_⟩;by_cases hj:j<G.length
 .rw[aK hj]at h
  obtain⟨x,a,b⟩:=e.get j w h;exact⟨x,by rw[aK (by rw[<-e.len];exact hj)];exact a,b⟩
 .have XQ:j=G.length:=by
   have:=(af.mp h).1;simp at this;omega
  subst XQ;rw[aq 1#6]at h;simp at h;subst h;refine⟨v,?_,r⟩;rw[e.len,aq 1#6];simp
section
variable {K:KX}{H:Hp}{μ:List Addr}{S:Sto}
theorem oP.mono{H':Hp}{Y4:List Addr}{a:Addr}{c:Cell}(h:oP K H μ a c)(k:bp H H')(p:Pre μ Y4)(l:c.own=true->H' a=H a)(f:∀o u,H a=some (.frz o u)->H' a=some (.frz o u)):oP K H' Y4 a c:=by
 cases c with
 | lst us=>
   obtain⟨vs,e,r⟩:=h;exact⟨vs,(l rfl).trans e,RUs.mono k p us vs r⟩
 | dic kvs=>
   obtain⟨vs,e,r⟩:=h;exact⟨vs,(l rfl).trans e,RUs.mono k p _ vs r⟩
 | dit b kvs=>
   cases b with
   | false=>
     obtain⟨vs,e,r⟩:=h;exact⟨vs,(l rfl).trans e,RUs.mono k p _ vs r⟩
   | true=>
     obtain⟨vs,⟨o,e⟩,r⟩:=h;exact⟨vs,⟨o,f o _ e⟩,RUs.mono k p _ vs r⟩
 | frz us=>
   obtain⟨vs,e,r⟩:=h;refine⟨vs,?_,RUs.mono k p us vs r⟩;rcases e with⟨o,e⟩|e
   .exact .inl ⟨o,f o _ e⟩
   .exact .inr e
variable{c:Cell}
theorem oP.has(h:oP K H μ a c)(ho:c.own=true):∃o,H a=some o/\(∀vs,o≠.tup vs)/\(∀o' u,o≠.frz o' u) /\ ∀ps,o≠.tbl ps:=by
 cases c with
 |lst us=>obtain⟨vs,e,r⟩:=h;exact 27#3
 |dic kvs=>obtain⟨vs,e,r⟩:=h;exact 27#3
 | dit b kvs=>
   cases b with
   |false=>obtain⟨vs,e,r⟩:=h;exact 27#3
   |true=>cases ho
 |frz us=>cases ho
variable{o':HO}
theorem bp.wrG{H:Hp}{o:HO}(h:H p=some o)(ht: ∀vs,o≠.tup vs)(hf: ∀ob u,o≠.frz ob u):bp H (upd H p o'):=⟨λa vs e=>by
 rw[bg (qT e h (dO (ht vs)))];exact e,λa ob u e=>by
 rw[bg (qT e h (dO (hf ob u)))];exact e⟩
theorem HR.get(h:HR K μ S H)(e:S[n]?=some c):∃a,μ[n]?=some a/\oP K H μ a c:=by
 have hn:n<μ.length:=by rw[h.len];exact(af.mp e).1
 exact⟨μ[n],by simp[hn],h.cell n c _ e (by simp[hn])⟩
theorem HR.wrC(h:HR K μ S H){d:Cell}(e:S[n]?=some c)(ea:μ[n]?=some a)(hc:c.own=true)(r:oP K (upd H a o') μ a d):HR K μ (S.set n d) (upd H a o'):=by
 obtain⟨o,e0,nt,nf,nb⟩:=(h.cell n _ a e ea).has hc;have kp:bp H (upd H a o'):=bp.wrG e0 nt nf;have hn:n<0#3:=(af.mp e).1;have pick:∀(m:Nat) (c':Cell),(S.set n d)[m]?=some c'->c'.own=true->∃c'',S[m]?=some c''/\c''.own=true:=λm c' q hq=>by
  by_cases hm:n=m
  .subst hm;exact⟨c,e,hc⟩
  .rw[aD hm]at q;exact⟨c',q,hq⟩
 refine⟨by rw[gm];exact h.len,λi j u1 u2 q1 q2 o1 o2 q3=>?_,λm c' b q1 q2=>?_,h.ext.upd kp 2#4 λo1 q=>by rw[e0]at q;cases q;exact⟨nf,nb⟩⟩
 .obtain⟨w1,z1,y1⟩:=pick i u1 q1 o1
  obtain⟨w2,z2,y2⟩:=pick j u2 q2 o2;exact h.inj i j w1 w2 z1 z2 y1 y2 q3
 .by_cases hm:n=m
  .subst hm
   rw[aM hn]at q1;cases q1;rw[ea]at q2;cases q2;exact r
  .rw[aD hm]at q1
   refine(h.cell m c' b q1 q2).mono kp 2#4 (λVQ=>?_) λo u hf=>?_
   .refine bg ?_
    rintro rfl;exact hm (h.inj n m c c' e q1 hc VQ (ea.trans q2.symm))
   .rw[bg (qT hf e0 (dO (nf o u)))];exact hf
theorem HR.wr(h:HR K μ S H){n:Nat}{us ws:List U}{vs:List V}{a:Addr}(e:S[n]?=some (.lst us))(ea:μ[n]?=some a)(r:RUs H μ ws vs):HR K μ (S.set n (.lst ws)) (upd H a (.lst vs)):=by
 obtain⟨vs0,e0,r0⟩:=h.cell n _ a e ea;exact h.wrC e ea rfl ⟨vs,cx,RUs.mono (bp.wr e0) 2#4 ws vs r⟩
theorem HR.newC(h:HR K μ S H){d:Cell}(hp:H p=none)(hd:d.own=true)(r:oP K (upd H p o') (μ++[p]) p d):HR K (μ++[p]) (S++[d]) (upd H p o'):=by
 have kp:bp H (upd H p o'):=bp.new hp;have pre:Pre μ (μ++[p]):=⟨[p],rfl⟩;have old:∀(n:Nat) (c:Cell),n<0#3->(S++[d])[n]?=some c->S[n]?=some c:=λn c hn q=>by rwa[aK hn]at q
 have last:∀(n:Nat) (c:Cell),¬n<0#3->(S++[d])[n]?=some c->n=0#3:=λn c hn q=>by
  have:=(af.mp q).1;simp at this;omega
 have fresh:∀(n:Nat) (c:Cell),S[n]?=some c->c.own=true->∀a,μ[n]?=some a->a≠p:=λn c q hc a qa=>by
  obtain⟨o,e,_⟩:=(h.cell n _ a q qa).has hc;exact bh e hp
 have YV:(μ++[p])[0#3]?=some p:=by rw[<-h.len,aq 1#6];simp
 have Ze:∀(n:Nat),n<0#3->(μ++[p])[n]?=μ[n]? := λn hn=>aK (by rw[h.len];exact hn);refine⟨by simp[h.len],λi j u1 u2 q1 q2 o1 o2 q3=>?_,λm c b q1 q2=>?_,h.ext.upd kp pre λo1 q=>by rw[hp]at q;cases q⟩
 .by_cases hi:i<0#3
  .by_cases hj:j<0#3
   .rw[Ze i hi,Ze j hj]at q3
    exact h.inj i j u1 u2 (old i _ hi q1) (old j _ hj q2) o1 o2 q3
   .have e:=last j _ hj q2
    subst e;obtain⟨a,ha,_⟩:=h.get (old i _ hi q1);rw[Ze i hi,YV,ha]at q3;exact absurd (dJ q3) (fresh i u1 (old i _ hi q1) o1 a ha)
  .have e:=last i _ hi q1
   subst e;by_cases hj:j<0#3
   .obtain⟨a,ha,_⟩:=h.get (old j _ hj q2)
    rw[Ze j hj,YV,ha]at q3;exact absurd (dJ q3).symm (fresh j u2 (old j _ hj q2) o2 a ha)
   .exact(last j _ hj q2).symm
 .by_cases hm:m<0#3
  .rw[Ze m hm]at q2
   refine(h.cell m c b (old m c hm q1) q2).mono kp pre (λhc=>?_) λo u hf=>?_
   .exact bg (fresh m c (old m _ hm q1) hc b q2)
   .rw[bg (bh hf hp)];exact hf
  .have e:=last m c hm q1
   subst e;rw[YV]at q2;cases q2;rw[aq 1#6]at q1;simp at q1;subst q1;exact r
theorem HR.new(h:HR K μ S H){us:List U}{vs:List V}{p:Addr}(hp:H p=none)(r:RUs H μ us vs):HR K (μ++[p]) (S++[.lst us]) (upd H p (.lst vs)):=
 h.newC hp rfl ⟨vs,cx,RUs.mono (bp.new hp) ⟨[p],rfl⟩ us vs r⟩
theorem HR.tup(h:HR K μ S H){vs:List V}{p:Addr}(hp:H p=none):HR K μ S (upd H p (.tup vs)):=by
 have kp:bp H (upd H p (.tup vs)):=bp.new hp;refine⟨h.len,h.inj,λm c b q1 q2=>(h.cell m c b q1 q2).mono kp 2#4 (λhc=>?_) λo u hf=>?_,h.ext.upd kp 2#4 λo1 q=>by rw[hp]at q;cases q⟩
 .obtain⟨o,e,_⟩:=(h.cell m _ b q1 q2).has hc
  exact bg (bh e hp)
 .rw[bg (bh hf hp)];exact hf
theorem HR.sq(h:HR K μ S H){us:List U}(e:getL S n=some us):∃a vs,μ[n]?=some a/\SqL K H a vs/\RUs H μ us vs:=by
 unfold getL at e
 split at e
 .rename_i ws q
  cases e;obtain⟨a,ha,vs,e1,r⟩:=h.get q;exact⟨a,vs,ha,SqL.of e1,r⟩
 .rename_i ws q
  cases e;obtain⟨a,ha,vs,e1,r⟩:=h.get q;refine⟨a,vs,ha,?_,r⟩;rcases e1 with⟨o,e1⟩|e1
  .exact .inl (.inr ⟨o,e1⟩)
  .rcases e1 with (e1|⟨o,e1⟩)|e1
   .cases e1
   .cases e1
   .exact .inr e1
 .cases e
 .cases e
 .cases e
end
def Aft(K:KX)(μ:List Addr)(H:Hp)(u:U)(S':Sto)(Q:VK):Prop:= ∀Y4 v H',Pre μ Y4->bp H H'->HR K Y4 S' H'->RU H' Y4 u v->Q v H'
def tM(K:KX)(m:ME):TE:=λσ H Q=>∃μ S G u S',HR K μ S H/\ER H μ G σ/\m G S=some (u,S')/\Aft K μ H u S' Q
def tMT(K:KX)(m:MT):TT:=λσ H Q=>∃μ S G b S',HR K μ S H/\ER H μ G σ/\m G S=some (b,S') /\ ∀Y4 H',Pre μ Y4->bp H H'->HR K Y4 S' H'->Q b H'
def tMA(K:KX)(m:MA):TA:=λσ H Q=>∃μ S G us S',HR K μ S H/\ER H μ G σ/\m G S=some (us,S') /\ ∀Y4 vs H',Pre μ Y4->bp H H'->HR K Y4 S' H'->RUs H' Y4 us vs->Q vs H'
def FlP(K:KX)(μ:List Addr)(H:Hp)(D:Ends):Fl×Rho×Sto->Prop
 |(.nx,Y1,S')=>∀Y4 Y3 H',Pre μ Y4->bp H H'->HR K Y4 S' H'->ER H' Y4 Y1 Y3->D.nx Y3 H'
 |(.bk,Y1,S')=>∀Y4 Y3 H',Pre μ Y4->bp H H'->HR K Y4 S' H'->ER H' Y4 Y1 Y3->D.bk Y3 H'
 |(.ct,Y1,S')=>∀Y4 Y3 H',Pre μ Y4->bp H H'->HR K Y4 S' H'->ER H' Y4 Y1 Y3->D.ct Y3 H'
 |(.rt u,_,S')=>Aft K μ H u S' D.rt
def tMS(K:KX)(m:MS):TS:=λD σ H=>∃μ S G r,HR K μ S H/\ER H μ G σ/\m G S=some r/\FlP K μ H D r
variable{K:KX}{S':Sto}{Q:VK}
theorem Aft.mono(a:Aft K μ H u S' Q)(p:Pre μ Y0)(k:bp H H1):Aft K Y0 H1 u S' Q:=
 λY4 v H' p' k'=>a Y4 v H' (p.trans p') (k.trans k')
theorem FlP.mono{K:KX}{μ Y0:List Addr}{H H1:Hp}{D:Ends}{r:Fl×Rho×Sto}(a:FlP K μ H D r)(p:Pre μ Y0)(k:bp H H1):FlP K Y0 H1 D r:=by
 obtain⟨f,Y1,S'⟩:=r;cases f with
 |nx=>exact λY4 Y3 H' p' k'=>a Y4 Y3 H' (p.trans p') (k.trans k')
 |bk=>exact λY4 Y3 H' p' k'=>a Y4 Y3 H' (p.trans p') (k.trans k')
 |ct=>exact λY4 Y3 H' p' k'=>a Y4 Y3 H' (p.trans p') (k.trans k')
 |rt u=>exact Aft.mono a p k
section
variable {K:KX}{σ:St}{H:Hp}{Q:VK}
theorem qP{A B:Prop}(h:A):if true=true then A else B:=by grind
theorem qp{A B:Prop}(h:B):if false=true then A else B:=by grind
theorem Q3{i:Nat}(h:tM K (ae i) σ H Q):R4 i σ H Q:=by
 obtain⟨μ,S,G,u,S',hr,er,e,k⟩:=h;unfold ae at e
 split at e
 .rename_i w q
  cases e;obtain⟨v,hv,ru⟩:=er.get i _ q;exact⟨v,hv,k μ v H 2#4 9#7 hr ru⟩
 .cases e
theorem r_c(hv:∀H μ,RU H μ u v)(h:tM K (mC u) σ H Q):tC v σ H Q:=by
 obtain⟨μ,S,G,u',S',hr,er,e,k⟩:=h;cases e;exact k μ v H 2#4 9#7 hr (hv _ _)
def OpU(K:KX)(r:R2)(f:F2):Prop:= ∀(μ:List Addr) (S:Sto) (H:Hp) (x y:U) (vx vy:V) (u:U) (S':Sto) (Q:VK),HR K μ S H->RU H μ x vx->RU H μ y vy->f x y S=some (u,S')->Aft K μ H u S' Q->r vx vy H Q
variable{f:F2}
theorem yE{r:R2}{a b:ME}(o:OpU K r f)(h:tM K (m2 f a b) σ H Q):tOp r (tM K a) (tM K b) σ H Q:=by
 obtain⟨μ,S,G,u,S',hr,er,e,k⟩:=h;obtain⟨x,S1,e1,e⟩:=a6 e;obtain⟨y,S2,e2,e⟩:=a6 e;refine 11#2;refine⟨_,S1,G,y,S2,Z',er.mono k1 p1,e2,λY5 vy H2 p2 k2 ZX ry=>?_⟩;exact o _ S2 H2 x y vx vy u S' Q ZX (RU.mono k2 p2 x vx rx) ry e (k.mono 10#1 10#9)
def UnU(K:KX)(r:V->Hp->VK->Prop)(f:U->Sto->Res U):Prop:= ∀(μ:List Addr) (S:Sto) (H:Hp) (x:U) (vx:V) (u:U) (S':Sto) (Q:VK),HR K μ S H->RU H μ x vx->f x S=some (u,S')->Aft K μ H u S' Q->r vx H Q
theorem UW{r:V->Hp->VK->Prop}{f:U->Sto->Res U}{a:ME}(o:UnU K r f)(h:tM K (m1 f a) σ H Q):tUn r (tM K a) σ H Q:=by
 obtain⟨μ,S,G,u,S',hr,er,e,k⟩:=h;obtain⟨x,S1,e1,e⟩:=a6 e;refine 11#2;exact o _ S1 H1 x vx u S' Q Z' rx e 12#1
variable{S:Sto}
theorem Aft.now(k:Aft K μ H u S Q)(hr:HR K μ S H)(r:RU H μ u v):Q v H:=k μ v H 2#4 9#7 hr r
variable{i:Int}
theorem eQ:RU H μ 3#0 3#0:=by simp[RU]
variable{b:Bool}
theorem jC:RU H μ (.bl b) (.bl b):=by simp[RU]
theorem rS:RU H μ .non .non:=by simp[RU]
variable{us:List U}{vs:List V}
theorem iX(e:H a=some (.tup vs))(r:RUs H μ us vs):RU H μ (.tup us) (.ref a):=by
 exact⟨a,vs,rfl,e,r⟩
theorem vX(e:μ[n]?=some a):RU H μ (.ref n) (.ref a):=by
 exact⟨a,rfl,e⟩
theorem dA(h:RU H μ 3#0 v):v=.int i:=by simpa only [RU]using h
theorem jB(h:RU H μ (.bl b) v):v=.bl b:=by simpa only [RU]using h
theorem iF(h:RU H μ (.tup us) v):∃a vs,v=.ref a/\H a=some (.tup vs)/\RUs H μ us vs:=by simpa only [RU]using h
theorem fe(h:RU H μ (.ref n) v):∃a,v=.ref a/\μ[n]?=some a:=by simpa only [RU]using h
variable{g:Int->Int->V}
theorem CN{k:Int->Int->U}(hf:∀x y S u S',f x y S=some (u,S')->∃i j,x=.int i/\y=.int j/\u=k i j/\S'=S)(hg:∀H μ i j,RU H μ (k i j) (g i j)):OpU K (rI0 g) f:=by
 intro μ S H x y vx vy u S' Q hr rx ry e a;obtain⟨i,j,rfl,rfl,rfl,rfl⟩:=hf x y S u S' e;exact⟨i,j,dA rx,dA ry,a.now hr (hg _ _ _ _)⟩
theorem CC{C:Int->Int->Prop}{k:Int->Int->U}(hf:∀x y S u S',f x y S=some (u,S')->∃i j,x=.int i/\y=.int j/\C i j/\u=k i j/\S'=S)(hg:∀H μ i j,RU H μ (k i j) (g i j)):OpU K (rI C g) f:=by
 intro μ S H x y vx vy u S' Q hr rx ry e a;obtain⟨i,j,rfl,rfl,c,rfl,rfl⟩:=hf x y S u S' e;exact⟨i,j,dA rx,dA ry,c,a.now hr (hg _ _ _ _)⟩
theorem O9:OpU K (rI0 λi j => .int (i - j)) oB:=CN (λx y S u S' h=>by
 unfold oB at h;split at h <;> simp at h;simp_all) λ_ _ _ _=>eQ
def Mv(K:ao):R2:=λx y H Q=>∃l k xs,x=.ref l/\y=.int k/\H l=some (.tup xs)/\Dw xs.length k/\(k=1->Q (.ref l) H)/\(k≠1->∀p,H p=none->Q (.ref p) (upd H p (.tup (aP k.toNat xs).flatten)))
theorem uD(ZZ:List Value):∀(m:Nat) (a:List Value),List.foldl (λx1 x2=>x1++x2) a.toArray (aP m ZZ.toArray)=(a++(aP m ZZ).flatten).toArray
 |0,a=>by simp
 | m+1,a=>by
   rw[lg,pY,List.append_toArray,uD _ m _,lg,List.flatten_cons,aL]
theorem RUs.rep{H:Hp}{μ:List Addr}{us:List U}{vs:List V}(r:RUs H μ us vs):∀(m:Nat),RUs H μ (aP m us).flatten (aP m vs).flatten
 |0=>by simpa using RUs.nil
 | m+1=>by
   exact r.append (RUs.rep r m)
variable{X:Cx}
theorem LZ:OpR X (binaryOp .Mult) (Mv X.K):=by
 intro pins s σ H x y v u Q I rx ry h;obtain⟨l,k,xs,rfl,rfl,hH,⟨h1,h2,h3,h4⟩,q1,q2⟩:=h;cases (rx);obtain⟨t,rfl⟩:=ry;obtain⟨z,ZZ,r,⟨⟨cls,dd,data,sl⟩,e,c,n,d⟩,_⟩:=I.hok l _ hH;subst c d;have hl:=r.length.symm;refine wpAny_binaryOp_repeat_ref 0#1 ⟨_,e,rfl⟩ (λs'=>typeIs_int s' k t) si F.fills_int_mul F.slot_int_rmul yU F.slot_int_index.lookup
  (call_meets F.slot_int_rmul (typeIs_int s k t) F.entry_int_rmul (F.args_int_rmul_2 _ _) (vq k t l _ n dd sl) ⟨e,rfl,⟨_,e,rfl⟩,?_⟩)
 by_cases hk:k=1
 .subst hk
  exact call_meets Bl ⟨_,e,rfl⟩ zH (xD _ _) (xj l _ n dd sl t) ⟨e,⟨.ref l,H,I,rfl,q1 rfl⟩⟩
 .by_cases hk0:k=0
  .subst hk0
   refine call_meets Bl ⟨_,e,rfl⟩ zH (xD _ _) (CF l _ n dd sl t ?_) ⟨e,?_⟩
   .grind
   .exact⟨.ref _,_,I.laid (o:= .tup []) 16#8 1#6 ⟨dB _,[],.nil,nR _ _,_,aH _ rfl,rfl⟩,rfl,by simpa using q2 hk _ 15#7⟩
  refine call_meets Bl ⟨_,e,rfl⟩ zH (xD _ _) (BB l _ n dd sl k t ?_ 0#2 h2 (by grind)) ⟨e,?_⟩
  .grind
  .rw[uD _ _ []]
   refine⟨.ref _,_,I.laid 16#8 1#6 ?_,rfl,q2 hk _ 15#7⟩;refine⟨?_,_,r.rep _,nR _ _,_,aH _ rfl,rfl⟩;rw[len_rep,sizeLine_eq];have:k.toNat*1#5<=1000*1#5:=ei _ 0#2;omega
theorem Pk:OpU K (λx y H Q=>rI K1 (λi j=>.int (i*j)) x y H Q\/Mv K x y H Q) fW:=by
 intro μ S H x y vx vy u S' Q hr rx ry e a;unfold fW at e
 split at e
 .split at e
  .rename_i hc
   simp at e;obtain⟨rfl,rfl⟩:=e;exact .inl ⟨_,_,dA rx,dA ry,hc,a.now hr eQ⟩
  .cases e
 .rename_i xs k
  split at e
  .rename_i hc
   simp at e;obtain⟨rfl,rfl⟩:=e;obtain⟨p,vs,rfl,hp,r1⟩:=iF rx;refine .inr ⟨p,k,vs,rfl,dA ry,hp,by rw[<-r1.len];exact hc,λhk=>?_,λhk t ht=>?_⟩
   .subst hk
    have e1:(aP (1:Int).toNat xs).flatten=xs:=by simp
    rw[e1]at a;exact a.now hr (iX hp r1)
   .exact a μ _ _ 2#4 (bp.new ht) (hr.tup ht) (iX cx (RUs.mono (bp.new ht) 2#4 _ _ (r1.rep _)))
  .cases e
 .cases e
theorem OZ:OpU K (rI Tw λi j => .int (i / j)) oDiv:=CC (k:=λi j => .int (i / j)) (λx y S u S' h=>by
 unfold oDiv at h;split at h
 .split at h
  .rename_i hc;simp at h;obtain⟨rfl,rfl⟩:=h;exact⟨_,_,rfl,rfl,hc,rfl,rfl⟩
  .cases h
 ·cases h) λ_ _ _ _=>eQ
theorem NF:OpU K (rI (λ_ j=>0<j) λi j => .int (i % j)) oMod:=CC (λx y S u S' h=>by
 unfold oMod at h;split at h <;> simp_all) λ_ _ _ _=>eQ
theorem Nx:OpU K (rI TJ λi j => .int (i ^ j.toNat)) uC:=CC (k:=λi j => .int (i ^ j.toNat)) (λx y S u S' h=>by
 unfold uC at h;split at h
 .split at h
  .rename_i hc;simp at h;obtain⟨rfl,rfl⟩:=h;exact⟨_,_,rfl,rfl,hc,rfl,rfl⟩
  .cases h
 ·cases h) λ_ _ _ _=>eQ
theorem zA{p:Int->Int->Bool}:OpU K (rI0 λi j => .bl (p i j)) (A2 p):=CN (λx y S u S' h=>by
 unfold A2 at h;split at h <;> simp at h;simp_all) λ_ _ _ _=>jC
def MD(K:ao):R2:=λx y H Q=>∃a b ys,x=.ref a/\y=.ref b/\SqT K H a []/\SqT K H b ys/\Q (.ref b) H
theorem Lu:OpR X (binaryOp .Add) (MD X.K):=by
 intro pins s σ H x y v u Q I rx ry h;obtain⟨a,b,ys,rfl,rfl,h1,h2,q⟩:=h;cases (rx);cases (ry);obtain⟨ZZ,r1,p1,_⟩:=I.tuple h1;obtain⟨ZA,r2,p2,_⟩:=I.tuple h2;cases r1;exact HT.cat_tup0 p1 p2 ⟨.ref b,H,I,rfl,q⟩
theorem PM:OpU K (λx y H Q=>rI0 (λi j=>.int (i+j)) x y H Q\/M9 K x y H Q\/MD K x y H Q\/SQ x y H Q) bN:=by
 intro μ S H x y vx vy u S' Q hr rx ry e a;unfold bN at e
 split at e
 .simp at e;obtain⟨rfl,rfl⟩:=e
  exact .inl ⟨_,_,dA rx,dA ry,a.now hr eQ⟩
 .rename_i xs ys
  split at e
  .rename_i hc
   simp at e;obtain⟨rfl,rfl⟩:=e;obtain⟨p,vs,rfl,hp,r1⟩:=iF rx;obtain⟨q,ws,rfl,hq,r2⟩:=iF ry;by_cases hx:xs=[]
   .subst hx
    have hv:=by omega
    subst hv;exact .inr (.inr (.inl ⟨p,q,ws,rfl,rfl,.inl (.inl hp),.inl (.inl hq),a.now hr (iX hq r2)⟩))
   refine .inr (.inl ⟨p,q,vs,ws,rfl,rfl,.inl (.inl hp),.inl (.inl hq),?_,?_,λz=>?_,λz t ht=>?_⟩)
   .intro z;have:=r1.len;grind
   .have h1:=r1.len;have h2:=r2.len;unfold big at hc;rw[sizeLine_eq];omega
   .subst z
    have:=by have:=r2.len;exact fR 0#2
    subst this;rw[gg]at a;exact a.now hr (iX hp r1)
   .refine a μ _ _ 2#4 (bp.new ht) (hr.tup ht) ?_
    have kp:bp H (upd H t (.tup (vs++ws))):=bp.new ht;exact iX cx ((RUs.mono kp 2#4 _ _ r1).append (RUs.mono kp 2#4 _ _ r2))
  .cases e
 .rename_i n m
  split at e
  .rename_i xs ys q1 q2
   split at e
   .rename_i hc
    simp at e;obtain⟨rfl,rfl⟩:=e;obtain⟨p,rfl,hp⟩:=fe rx;obtain⟨q,rfl,hq⟩:=fe ry;obtain⟨vs,e1,r1⟩:=hr.cell n _ p q1 hp;obtain⟨ws,e2,r2⟩:=hr.cell m _ q q2 hq;refine .inr (.inr (.inr ⟨p,q,vs,ws,rfl,rfl,e1,e2,?_,λt ht=>?_⟩))
    .have h1:=r1.len;have h2:=r2.len;unfold big at hc;rw[sizeLine_eq];omega
    .refine a _ _ _ ⟨_,rfl⟩ (bp.new ht) (hr.new ht (r1.append r2)) (vX ?_)
     rw[<-hr.len];simp
   .cases e
  .cases e
 .cases e
theorem HR.seq{x:U}(hr:HR K μ S H)(r:RU H μ x v)(e:dZ S x=some us):∃a vs,v=.ref a/\(SqL K H a vs\/SqT K H a vs)/\RUs H μ us vs:=by
 unfold dZ at e
 split at e
 .cases e
  obtain⟨a,vs,rfl,h,q⟩:=iF r;exact⟨a,vs,rfl,.inr (.inl (.inl h)),q⟩
 .obtain⟨a,rfl,ha⟩:=fe r
  obtain⟨a',vs,Zz,hs,q⟩:=hr.sq e;rw[ha]at Zz;cases Zz;exact⟨a,vs,rfl,.inl hs,q⟩
 .cases e
theorem LQ(r:RUs H μ us vs)(e:atI us i=some u):∃v,atI vs i=some v/\RU H μ u v:=by
 unfold atI at e ⊢;rw[<-r.len];cases q:ixN _ i with
 |none=>rw[q]at e;cases e
 | some j=>
   rw[q]at e;exact r.get e
theorem qA{y:U}{k:Key}(r:RU H μ y v)(e:keyOf y=some k):v=kV k:=by
 cases y<;>simp[keyOf]at e<;>subst e<;>(exact r)
theorem DT{κ:Type}[DecidableEq κ]{μ:List Addr}{k:κ}{u:U}:∀{kvs:List (κ×U)}{vs:List V},RUs H μ (kvs.map (·.2)) vs->j8 kvs k=some u->∃v,mY (dV kvs vs) k=some v/\RU H μ u v
 |[],vs,r,e=>by cases e
 | (j,x)::kvs,vs,r,e=>by
   obtain⟨v,r',rfl,a,b⟩:=r.inv;show ∃w,mY ((j,v)::dV _ r') k=some w/\_;by_cases h:j=k
   .rw[nD h]
    simp[j8,h]at e<;>simp_all
   .rw[mV h]
    refine DT b ?_;simpa [j8,cg,h]using e
theorem uO{κ:Type}[DecidableEq κ]{k:κ}:∀{kvs:List (κ×U)}{vs:List V},3#2=3#7->(mY (dV kvs vs) k).isSome=(j8 kvs k).isSome
 |[],vs,_=>by simp[dV,mY,j8]
 |(j,x)::kvs,[],h=>by simp at h
 | (j,x)::kvs,v::vs,h=>by
   show(mY ((j,v)::dV kvs vs) k).isSome=_;by_cases hj:j=k
   .rw[nD hj];simp[j8,cg,hj]
   .rw[mV hj,uO 19#1];simp[j8,cg,hj]
theorem Il{κ:Type}[DecidableEq κ]{k:κ}:∀{kvs:List (κ×U)}{vs:List V},3#2=3#7->((dV kvs vs).any λkv=>decide (kv.1=k))=kvs.any λkv=>decide (kv.1=k)
 |[],vs,_=>by simp[dV]
 |(j,x)::kvs,[],h=>by simp at h
 | (j,x)::kvs,v::vs,h=>by
   show(((j,v)::dV _ vs).any _)=_;rw[gy,gy,Il 19#1]
theorem Hj{κ:Type}{kvs:List (κ×U)}(h:3#2=3#7):(dV kvs vs).length=3#2:=by
 simp[dV,h]
theorem CT{κ:Type}[DecidableEq κ]{μ:List Addr}{k:κ}{u:U}{v:V}(ru:RU H μ u v):∀{kvs:List (κ×U)}{vs:List V},RUs H μ (kvs.map (·.2)) vs ->
  ∃ws,dV (kvs.map λkv=>if kv.1=k then(kv.1,u) else kv) ws=(dV kvs vs).map (λkv=>if kv.1=k then(kv.1,v) else kv)/\RUs H μ ((kvs.map λkv=>if kv.1=k then(kv.1,u) else kv).map (·.2)) ws
 |[],vs,r=>⟨[],by simp[dV],.nil⟩
 | (j,x)::kvs,vs,r=>by
   obtain⟨w,r',rfl,a,b⟩:=r.inv;obtain⟨ws,e,q⟩:=CT ru b;show ∃ws',dV ((if j=k then(j,u) else(j,x))::kvs.map _) _=(if j=k then(j,v) else(j,w))::(dV _ r').map _/\RUs H μ (((if j=k then(j,u) else(j,x))::kvs.map _).map _) _;by_cases h:j=k
   .rw[if_pos h,if_pos h]
    exact⟨_,by rw[<-e];rfl,.cons ru q⟩
   .rw[if_neg h,if_neg h]
    exact⟨_,by rw[<-e];rfl,.cons a q⟩
theorem JV{κ:Type}[DecidableEq κ]{k:κ}{kvs:List (κ×U)}(ru:RU H μ u v)(r:RUs H μ (kvs.map (·.2)) vs):∃ws,dV (kY kvs k u) ws=putK (dV kvs vs) k v/\RUs H μ ((kY kvs k u).map (·.2)) ws:=by
 have hl:3#2=3#7:=by have:=r.len;rwa[ay]at this
 unfold kY putK;rw[Il hl]
 split
 .exact CT ru r
 .refine⟨vs++[v],?_,by rw[cQ];exact r.append (.cons ru .nil)⟩
  unfold dV;rw[cQ,List.zip_append (by simpa using hl)];rfl
theorem HR.dic{x:U}{kvs:List (Key×U)}(hr:HR K μ S H)(r:RU H μ x v)(e:eW S x=some kvs):∃a vs,v=.ref a/\H a=some (.dK (dV kvs vs))/\RUs H μ (kvs.map (·.2)) vs:=by
 unfold eW at e
 split at e
 .split at e
  .rename_i q
   cases e;obtain⟨a,rfl,ha⟩:=fe r;obtain⟨vs,e1,r1⟩:=hr.cell _ _ a q ha;exact⟨a,vs,rfl,e1,r1⟩
  .cases e
 .cases e
def Rf:R2:=λx y H Q=>∃a v,x=.ref a/\xp H a y (some v)/\Q v H
def UP(K:ao):R2:=λx y H Q=>rIx K x y H Q\/Rf x y H Q
theorem Pw(hu:X.A.units+1<cLine):IxR X Rf:=by
 intro value slice pins s σ H x y v u Q I rx ry h hs;obtain⟨a,w,rfl,g,q⟩:=h;obtain rfl:v=bw a:=rx;exact tail_any (A7 I g) PySem.F.slot_dict_getitem.lookup (FG hu I g ry λw' s3 I3 Zx=>⟨w,H,I3,Zx,q⟩) hs
theorem Td:OpU K (UP K) oIx:=by
 intro μ S H x y vx vy u S' Q hr rx ry e a;unfold oIx at e
 split at e
 .rename_i kvs qd
  cases qk:keyOf y with
  |none=>simp_all
  | some kk=>
    rw[qk]at e;simp only[ah]at e;cases qv:j8 _ kk with
    |none=>rw[qv]at e;cases e
    | some w=>
      rw[qv]at e;simp at e;obtain⟨rfl,rfl⟩:=e;obtain⟨p,vs,rfl,hp,r⟩:=hr.dic rx qd;obtain⟨v,hv,rv⟩:=DT r qv;rw[qA ry qk];exact .inr ⟨p,v,rfl,.inl ⟨_,kk,.inl hp,rfl,hv.symm⟩,a.now hr rv⟩
 split at e
 .rename_i i
  refine .inl ?_;cases q:dZ S x with
  |none=>rw[q]at e;cases e
  | some us=>
    rw[q]at e;simp only[ah]at e;cases z:atI us i with
    |none=>rw[z]at e;cases e
    | some w=>
      rw[z]at e;simp at e;obtain⟨rfl,rfl⟩:=e;obtain⟨p,vs,rfl,hs,r⟩:=hr.seq rx q;obtain⟨v,hv,rv⟩:=LQ r z;rcases hs with hs|hs
      .exact .inl ⟨p,vs,i,v,rfl,dA ry,hs,hv,a.now hr rv⟩
      .exact .inr (.inl ⟨p,vs,i,v,rfl,dA ry,hs,hv,a.now hr rv⟩)
 .cases e
theorem PV:UnU K (rU λi=>.int (-i)) gS:=by
 intro μ S H x vx u S' Q hr rx e a;unfold gS at e
 split at e
 .cases e
  exact⟨_,dA rx,a.now hr eQ⟩
 .cases e
theorem Q6{Q:List V->Hp->Prop}(h:tMA K ag σ H Q):B5 σ H Q:=by
 obtain⟨μ,S,G,us,S',hr,er,e,k⟩:=h;cases e;exact k μ [] H 2#4 9#7 hr .nil
theorem NY{a:ME}{r:MA}{Q:List V->Hp->Prop}(h:tMA K (aa a r) σ H Q):wt (tM K a) (tMA K r) σ H Q:=by
 obtain⟨μ,S,G,us,S',hr,er,e,k⟩:=h;obtain⟨x,S1,e1,e⟩:=a6 e;obtain⟨xs,S2,e2,e⟩:=a6 e;cases e;refine 11#2;refine⟨_,S1,G,xs,_,Z',er.mono k1 p1,e2,λY5 vs H2 p2 k2 ZX rs=>?_⟩;exact k _ _ H2 10#1 10#9 ZX (.cons (RU.mono k2 p2 x vx rx) rs)
theorem Tz{a:MA}(h:tM K (cH a) σ H Q):SU 8#4 σ H Q:=by
 obtain⟨μ,S,G,u,S',hr,er,e,k⟩:=h;obtain⟨xs,S1,e1,e⟩:=a6 e
 split at e
 .rename_i hc
  cases e;refine⟨μ,S,G,xs,_,hr,er,e1,λY0 vs H1 p1 k1 Z' rs=>⟨?_,λp hp=>?_⟩⟩
  .have:=rs.len;unfold big at hc;rw[sizeLine_eq];omega
  .exact k _ _ _ p1 (k1.trans (bp.new hp)) (Z'.tup hp) (iX cx (RUs.mono (bp.new hp) 2#4 _ _ rs))
 .cases e
theorem iz(k:Aft K μ H (.ref 0#3) (S++[.lst us]) Q)(hr:HR K μ S H)(rs:RUs H μ us vs)(hp:H p=none):Q (.ref p) (upd H p (.lst vs)):=by
 refine k (μ++[p]) _ _ ⟨[p],rfl⟩ (bp.new hp) (hr.new hp rs) (vX ?_);rw[<-hr.len,aq 1#6];simp
theorem SI{a:MA}(h:tM K (bA a) σ H Q):RG 8#4 σ H Q:=by
 obtain⟨μ,S,G,u,S',hr,er,e,k⟩:=h;obtain⟨xs,S1,e1,e⟩:=a6 e
 split at e
 .rename_i hc
  cases e;refine⟨μ,S,G,xs,S1,hr,er,e1,λY0 vs H1 p1 k1 Z' rs=>⟨?_,λp hp=>?_⟩⟩
  .have:=rs.len;unfold big at hc;rw[sizeLine_eq];omega
  .exact iz 12#1 Z' rs hp
 .cases e
def oU(K:KX)(r:List V->Hp->VK->Prop)(f:MF):Prop:= ∀(μ:List Addr) (S:Sto) (H:Hp) (us:List U) (vs:List V) (u:U) (S':Sto) (Q:VK),HR K μ S H->RUs H μ us vs->f us S=some (u,S')->Aft K μ H u S' Q->r vs H Q
theorem zt{r:List V->Hp->VK->Prop}{f:MF}{a:MA}(o:oU K r f)(h:tM K (mFn f a) σ H Q):tCB r 8#4 σ H Q:=by
 obtain⟨μ,S,G,u,S',hr,er,e,k⟩:=h;obtain⟨xs,S1,e1,e⟩:=a6 e;refine⟨μ,S,G,xs,S1,hr,er,e1,λY0 vs H1 p1 k1 Z' rs=>?_⟩;exact o _ S1 H1 xs vs u S' Q Z' rs e 12#1
def spM(K:KX)(m:MF):Sp:=λvs H Q _=>∃μ S us u S',HR K μ S H/\RUs H μ us vs/\m us S=some (u,S')/\Aft K μ H u S' Q
theorem GJ{f:MF}{a:MA}{E:XK}(h:tM K (mFn f a) σ H Q):DL (spM K f) [] E 8#4 σ H Q:=by
 obtain⟨μ,S,G,u,S',hr,er,e,k⟩:=h;obtain⟨xs,S1,e1,e⟩:=a6 e;refine⟨μ,S,G,xs,S1,hr,er,e1,λY0 vs H1 p1 k1 Z' rs=>?_⟩;show spM K f _ H1 Q E;rw[gg];exact⟨_,S1,xs,u,S',Z',rs,e,k.mono p1 k1⟩
theorem NT:oU K (λxs H Q=>(∃p ys,xs=[.ref p]/\(SqL K H p ys\/SqT K H p ys)/\Q (.int 3#6) H) \/ ∃a kvs,xs=[V.ref a]/\H a=some (.dK kvs)/\Q (.int 3#2) H) bR:=by
 intro μ S H us vs u S' Q hr rs e a;unfold bR at e
 split at e
 .rename_i x
  obtain⟨v,r,rfl,rx,rn⟩:=rs.inv;rw[rn.nil_inv]
  split at e
  .rename_i kvs qd
   cases e;obtain⟨p,ws,rfl,hp,r'⟩:=hr.dic rx qd;refine .inr ⟨p,_,rfl,hp,?_⟩;have hl:3#2=ws.length:=by have:=r'.len;rwa[ay]at this
   rw[Hj hl];exact a.now hr eQ
  cases q:dZ S x with
  |none=>rw[q]at e;cases e
  | some ws=>
    rw[q]at e;cases e;obtain⟨p,ys,rfl,hs,r'⟩:=hr.seq rx q;refine .inl ⟨p,ys,rfl,hs,?_⟩;rw[<-r'.len];exact a.now hr eQ
 .cases e
theorem Ha:oU K (λxs H Q=>∃p ys,xs=[.ref p]/\((SqL K H p ys /\ ∀l,H l=none->Q (.ref l) (upd H l (.tup ys)))\/(SqT K H p ys/\Q (.ref p) H))) bC:=by
 intro μ S H us vs u S' Q hr rs e a;unfold bC at e
 split at e
 .rename_i x
  obtain⟨v,r,rfl,rx,rn⟩:=rs.inv;rw[rn.nil_inv];unfold dZ at e
  split at e
  .cases e
   obtain⟨p,ys,rfl,hp,r'⟩:=iF rx;exact⟨p,ys,rfl,.inr ⟨.inl (.inl hp),a.now hr (iX hp r')⟩⟩
  .rename_i n
   cases q:getL S n with
   |none=>rw[q]at e;cases e
   | some ws=>
     rw[q]at e;cases e;obtain⟨p,rfl,hp⟩:=fe rx;obtain⟨p',ys,ZK,hs,r'⟩:=hr.sq q;rw[hp]at ZK;cases ZK;refine⟨p,ys,rfl,.inl ⟨hs,λl hl=>?_⟩⟩;exact a μ _ _ 2#4 (bp.new hl) (hr.tup hl) (iX cx (RUs.mono (bp.new hl) 2#4 _ _ r'))
  .cases e
 .cases e
theorem KZ:oU K (λxs H Q=>∃p ys,xs=[.ref p]/\(SqL K H p ys\/SqT K H p ys) /\ ∀l,H l=none->Q (.ref l) (upd H l (.lst ys))) vU:=by
 intro μ S H us vs u S' Q hr rs e a;unfold vU at e
 split at e
 .rename_i x
  obtain⟨v,r,rfl,rx,rn⟩:=rs.inv;rw[rn.nil_inv];cases q:dZ S x with
  |none=>rw[q]at e;cases e
  | some ws=>
    rw[q]at e;cases e;obtain⟨p,ys,rfl,hs,r'⟩:=hr.seq rx q;exact⟨p,ys,rfl,hs,λl hl=>iz a hr r' hl⟩
 .cases e
theorem OA:oU K (λxs H Q=>∃i j,xs=[.int i,.int j]/\Q (.int (if j>i then j else i)) H) B3:=by
 intro μ S H us vs u S' Q hr rs e a;unfold B3 at e
 split at e
 .cases e
  obtain⟨v,r,rfl,rx,rs⟩:=rs.inv;obtain⟨w,r,rfl,ry,rn⟩:=rs.inv;rw[rn.nil_inv,dA rx,dA ry];exact⟨_,_,rfl,a.now hr eQ⟩
 .cases e
def Ue(K:ao):List V->Hp->VK->Prop:=λxs H Q=>((∃i j,xs=[.int i,.int j]/\Q (.int (if j<i then j else i)) H))
theorem Fi (hc:X.calm=true)(hu:X.A.units+64<cLine):gZ X (.builtin "min") (Ue X.K):=by
 intro pins s σ H xs us Q I rs h;exact Fb hc pins s σ H xs us Q I rs h
theorem PN:oU K (Ue K) uH:=by
 intro μ S H us vs u S' Q hr rs e a;unfold uH at e
 split at e
 .cases e
  obtain⟨v,r,rfl,rx,rs⟩:=rs.inv;obtain⟨w,r,rfl,ry,rn⟩:=rs.inv;rw[rn.nil_inv,dA rx,dA ry];exact⟨_,_,rfl,a.now hr eQ⟩
 .cases e
def MtU(K:KX)(r:V->List V->Hp->VK->Prop)(f:Nat->List U->Sto->Res U):Prop:= ∀(μ:List Addr) (S:Sto) (H:Hp) (n:Nat) (p:Addr) (us:List U) (vs:List V) (u:U) (S':Sto) (Q:VK),HR K μ S H->μ[n]?=some p->RUs H μ us vs->f n us S=some (u,S')->Aft K μ H u S' Q->r (.ref p) vs H Q
variable{r:V->List V->Hp->VK->Prop}{f:Nat->List U->Sto->Res U}
theorem OK{o:ME}{a:MA}(m:MtU K r f)(h:tM K (mML f o a) σ H Q):tBM K "list" r (tM K o) 8#4 σ H Q:=by
 obtain⟨μ,S,G,u,S',hr,er,e,k⟩:=h;obtain⟨x,S1,e1,e⟩:=a6 e
 split at e
 .rename_i n
  cases q:getL S1 n with
  |none=>rw[q]at e;cases e
  | some ws=>
    rw[q]at e;obtain⟨xs,S2,e2,e⟩:=a6 e;refine⟨μ,S,G,_,S1,hr,er,e1,λY0 vx H1 p1 k1 Z' rx=>?_⟩;obtain⟨p,rfl,hp⟩:=fe rx;obtain⟨p',ys,ZK,hs,r'⟩:=Z'.sq q;rw[hp]at ZK;cases ZK;refine⟨.inl ⟨rfl,ys,hs⟩,_,S1,G,xs,S2,Z',er.mono k1 p1,e2,λY5 vs H2 p2 k2 ZX rs=>?_⟩;exact m _ S2 H2 n p xs vs u S' Q ZX (p2.get hp) rs e (k.mono 10#1 10#9)
 .cases e
theorem Re{o:ME}(m:MtU K r f)(h:tM K (mML f o ag) σ H Q):RJ K "list" r (tM K o) σ H Q:=by
 obtain⟨μ,S,G,u,S',hr,er,e,k⟩:=h;obtain⟨x,S1,e1,e⟩:=a6 e
 split at e
 .rename_i n
  cases q:getL S1 n with
  |none=>rw[q]at e;cases e
  | some ws=>
    rw[q]at e;refine⟨μ,S,G,_,S1,hr,er,e1,λY0 vx H1 p1 k1 Z' rx=>?_⟩;obtain⟨p,rfl,hp⟩:=fe rx;obtain⟨p',ys,ZK,hs,r'⟩:=Z'.sq q;rw[hp]at ZK;cases ZK;exact⟨.inl ⟨rfl,ys,hs⟩,m _ S1 H1 n p [] [] u S' Q Z' hp .nil e 12#1⟩
 .cases e
theorem zo{ws:List U}(k:Aft K μ H u (S.set n (.lst ws)) Q)(hr:HR K μ S H)(e:S[n]?=some (.lst us))(hp:μ[n]?=some p)(rs:RUs H μ ws vs)(ru:RU H μ u v):
  Q v (upd H p (.lst vs)):=by
 obtain⟨vs0,e0,_⟩:=hr.cell n _ p e hp;exact k μ _ _ 2#4 (bp.wr e0) (hr.wr e hp rs) (RU.mono (bp.wr e0) 2#4 _ _ ru)
theorem FH:MtU K Ee bJ:=by
 intro μ S H n p us vs u S' Q hr hp rs e a;unfold bJ at e
 split at e
 .split at e
  .rename_i ws q
   split at e
   .rename_i hc
    cases e;obtain⟨v,r,rfl,rx,rn⟩:=rs.inv;rw[rn.nil_inv];obtain⟨xs,e0,r0⟩:=hr.cell n _ p q hp;refine⟨p,xs,v,rfl,rfl,e0,?_,zo a hr q hp (r0.append (.cons rx .nil)) rS⟩;have:=r0.len;unfold big at hc;rw[sizeLine_eq];omega
   .cases e
  .cases e
 .cases e
variable{j:Nat}
theorem OD(h:ixN n i=some j):j<n /\ -(n:Int)<=i/\i<n:=by
 unfold ixN at h
 grind
theorem Ll(h:ixN n i=some j):seqIndex? i n=some j:=by
 unfold ixN at h;unfold seqIndex?
 split at h
 .split at h
  .cases h
   rename_i h0 h1
   simp only[show ¬i<0 by omega,if_false]
   first
    |(rw[if_pos (by omega)])
    |(simp;omega)
  .cases h
 .split at h
  .cases h
   rename_i h0 h1
   simp only[show i<0 by omega,if_true]
   first
    |(rw[if_pos (by omega)])
    |(simp;omega)
  .cases h
theorem Pm:MtU K TH nM:=by
 intro μ S H n p us vs u S' Q hr hp rs e a;unfold nM at e
 split at e
 .split at e
  .rename_i ws q
   cases z:ws[ws.length-1]? with
   |none=>rw[z]at e;cases e
   | some y=>
     rw[z]at e;cases e;rw[rs.nil_inv];obtain⟨xs,e0,r0⟩:=hr.cell n _ p q hp;obtain⟨v,hv,rv⟩:=r0.get z;exact⟨p,xs,v,rfl,rfl,e0,by rw[<-r0.len];exact hv,zo a hr q hp r0.dropLast rv⟩
  .cases e
 .cases e
theorem F8:MtU K Hz kS:=by
 intro μ S H n p us vs u S' Q hr hp rs e a;unfold kS at e
 split at e
 .rename_i i
  split at e
  .rename_i ws q
   split at e
   rotate_left
   .cases e
   rename_i hR
   cases z:ixN ws.length i with
   |none=>rw[z]at e;cases e
   | some j=>
     rw[z]at e;simp only[ah]at e;cases z2:ws[j]? with
     |none=>rw[z2]at e;cases e
     | some y=>
       rw[z2]at e;cases e;obtain⟨v,r,rfl,rx,rn⟩:=rs.inv;rw[rn.nil_inv,dA rx];obtain⟨xs,e0,r0⟩:=hr.cell n _ p q hp;obtain⟨w,hw,Zx⟩:=r0.get z2;have hl:=OD z;have hlen:=r0.len;refine⟨p,xs,i,j,w,rfl,rfl,e0,?_,?_,?_,hw,zo a hr q hp (r0.eraseIdx j) Zx⟩
       .have:=hR.1;omega
       .have:=hR.2;omega
       .rw[<-hlen];exact Ll z
  .cases e
 .cases e
theorem BR{t:TE}{m:ME}{Q:Bool->Hp->Prop}(ht:∀Q,tM K m σ H Q->t σ H Q)(h:tMT K (cOf m) σ H Q):Gp t σ H Q:=by
 obtain⟨μ,S,G,b,S',hr,er,e,k⟩:=h;obtain⟨x,S1,e1,e⟩:=a6 e
 split at e
 .cases e
  refine ht _ 28#3;exact⟨_,jB rx,k _ H1 p1 k1 Z'⟩
 .cases e
theorem UZ{t:TE}{m:ME}{Q:Bool->Hp->Prop}(ht:∀Q,tM K m σ H Q->t σ H Q)(h:tMT K (cOf m) σ H Q):tB t σ H Q:=BR ht h
theorem TF{a b:MT}{Q:Bool->Hp->Prop}(h:tMT K (wU a b) σ H Q):_L.Ui (tMT K a) (tMT K b) σ H Q:=by
 obtain⟨μ,S,G,c,S',hr,er,e,k⟩:=h;obtain⟨x,S1,e1,e⟩:=a6 e;refine 24#5;cases x with
 |true=>exact qP ⟨Y0,S1,G,c,S',Z',er.mono k1 p1,e,λY5 H2 p2 k2=>k Y5 H2 10#1 10#9⟩
 | false=>
   have e':some (false,S1)=some (c,S'):=e;cases e';exact qp (k Y0 H1 p1 k1 Z')
theorem UN{a b:MT}{Q:Bool->Hp->Prop}(h:tMT K (cOr a b) σ H Q):_L.tOr (tMT K a) (tMT K b) σ H Q:=by
 obtain⟨μ,S,G,c,S',hr,er,e,k⟩:=h;obtain⟨x,S1,e1,e⟩:=a6 e;refine 24#5;cases x with
 | true=>
   have e':some (true,S1)=some (c,S'):=e;cases e';exact qP (k Y0 H1 p1 k1 Z')
 |false=>exact qp ⟨Y0,S1,G,c,S',Z',er.mono k1 p1,e,λY5 H2 p2 k2=>k Y5 H2 10#1 10#9⟩
theorem RD{a:MT}{Q:Bool->Hp->Prop}(h:tMT K (kj a) σ H Q):_L.SR (tMT K a) σ H Q:=by
 obtain⟨μ,S,G,c,S',hr,er,e,k⟩:=h;obtain⟨x,S1,e1,e⟩:=a6 e;cases e;exact⟨μ,S,G,x,_,hr,er,e1,λY0 H1 p1 k1 Z'=>k _ H1 p1 k1 Z'⟩
theorem Se{c:MT}{a b:ME}(h:tM K (tS c a b) σ H Q):tIf (tMT K c) (tM K a) (tM K b) σ H Q:=by
 obtain⟨μ,S,G,u,S',hr,er,e,k⟩:=h;obtain⟨x,S1,e1,e⟩:=a6 e;refine 24#5;cases x with
 |true=>exact qP 24#4
 |false=>exact qp 24#4
section
variable {D:Ends}
theorem Hi(h:tMS K cM D σ H):G7 D σ H:=by
 obtain⟨μ,S,G,r,hr,er,e,k⟩:=h;cases e;exact k μ σ H 2#4 9#7 hr er
variable{b:MS}
theorem SG{a:MS}(h:tMS K (aR a b) D σ H):R7 (tMS K a) (tMS K b) D σ H:=by
 obtain⟨μ,S,G,r,hr,er,e,k⟩:=h;unfold aR at e
 split at e
 .rename_i Y2 S1 q
  refine⟨μ,S,G,_,hr,er,q,λY0 Y6 H1 p1 k1 Z' ZT=>?_⟩;exact⟨Y0,S1,Y2,r,Z',ZT,e,k.mono p1 k1⟩
 .rename_i q
  refine⟨μ,S,G,r,hr,er,e,?_⟩;obtain⟨f,Y1,S'⟩:=r;cases f with
  |nx=>exact absurd e (q Y1 S')
  |bk=>exact k
  |ct=>exact k
  |rt u=>exact k
variable{i:Nat}{m:ME}
theorem MZ(h:tMS K (bq i m) D σ H):E3 (tM K m) (kC i) D σ H:=by
 obtain⟨μ,S,G,r,hr,er,e,k⟩:=h;obtain⟨x,S1,e1,e⟩:=a6 e;cases e;exact⟨μ,S,G,x,S1,hr,er,e1,λY0 vx H1 p1 k1 Z' rx=>k _ _ H1 p1 k1 Z' ((er.mono k1 p1).set rx i)⟩
def RW:HZ:=λo i v H Q=>∃a H',o=.ref a/\Fo H a i v H'/\Q H'
def MW:HZ:=λo i v H Q=>MP o i v H Q\/RW o i v H Q
theorem Kw{X:Cx}(hu:X.A.units+1<cLine):NP X MW:=by
 intro pins s σ H o i v ov iv u Q I ro ri rv h;rcases h with h|⟨a,H',rfl,g,q⟩
 .exact set_list pins s σ H o i v ov iv u Q I ro ri rv h
 .obtain rfl:ov=bw a:=ro
  exact E1 hu I g ri rv λs4 I4=>⟨H',I4,q⟩
theorem K2{o i:ME}(h:tMS K (eI o i m) D σ H):E3 (tM K m) (QJ (tM K o) (tM K i) MW) D σ H:=by
 obtain⟨μ,S,G,r,hr,er,e,k⟩:=h;obtain⟨x,S1,e1,e⟩:=a6 e;obtain⟨p,S2,e2,e⟩:=a6 e;obtain⟨j,S3,e3,e⟩:=a6 e;cases p with
 | ref n=>
   simp only at e
   split at e
   .rename_i us q
    split at e
    rotate_left
    .cases e
    rename_i kk
    cases z:ixN us.length kk with
    |none=>rw[z]at e;cases e
    | some m'=>
      rw[z]at e;cases e;refine 11#2;refine⟨Y0,S1,G,_,S2,Z',er.mono k1 p1,e2,λY5 vo H2 p2 k2 ZX ro=>?_⟩;refine⟨Y5,S2,G,_,S3,ZX,er.mono 10#9 10#1,e3,λY' vi H3 p3 k3 ZF ri=>?_⟩;obtain⟨a,rfl,ha⟩:=fe ro;have Wu:=p3.get ha;obtain⟨vs,e0,r0⟩:=ZF.cell n _ a q Wu;have WO:RU H3 Y' x vx:=RU.mono (k2.trans k3) 14#7 _ _ rx;refine .inl ⟨a,vs,kk,m',rfl,dA ri,e0,by rw[<-r0.len];exact z,?_⟩;have kw:bp H3 (upd H3 a (.lst (vs.set m' vx))):=bp.wr e0;exact k Y' _ _ (p1.trans 14#7) 25#6 (ZF.wr q Wu (r0.set WO m')) (er.mono 25#6 (p1.trans 14#7))
   .rename_i kvs q
    cases qk:keyOf j with
    |none=>rw[qk]at e;cases e
    | some kk=>
      rw[qk]at e;simp only[ah]at e
      split at e
      .rename_i hz
       cases e;refine 11#2;refine⟨Y0,S1,G,_,S2,Z',er.mono k1 p1,e2,λY5 vo H2 p2 k2 ZX ro=>?_⟩;refine⟨Y5,S2,G,_,S3,ZX,er.mono 10#9 10#1,e3,λY' vi H3 p3 k3 ZF ri=>?_⟩;obtain⟨a,rfl,ha⟩:=fe ro;have Wu:=p3.get ha;obtain⟨vs,e0,r0⟩:=ZF.cell n _ a q Wu;have WO:RU H3 Y' x vx:=RU.mono (k2.trans k3) 14#7 _ _ rx;have hl:3#2=3#7:=by have:=r0.len;rwa[ay]at this
       obtain⟨ws,ew,Zx⟩:=JV (k:=kk) WO r0;have kw:bp H3 (upd H3 a (.dK (putK (dV kvs vs) kk vx))):=bp.wrG e0 (λ_ z=>by cases z) λ_ _ z=>by cases z
       refine .inr ⟨a,_,rfl,.inl ⟨_,kk,e0,qA ri qk,by rw[Hj hl,sizeLine_eq];exact hz,rfl⟩,?_⟩;exact k Y' _ _ (p1.trans 14#7) 25#6 (ZF.wrC q Wu rfl ⟨ws,by rw[ew];exact cx,RUs.mono kw 2#4 _ _ Zx⟩) (er.mono 25#6 (p1.trans 14#7))
      .cases e
   .cases e
 |_=>cases e
theorem Ou(h:tMS K (di m) D σ H):M6 (tM K m) D σ H:=by
 obtain⟨μ,S,G,r,hr,er,e,k⟩:=h;obtain⟨x,S1,e1,e⟩:=a6 e;cases e;exact⟨μ,S,G,x,S1,hr,er,e1,λY0 vx H1 p1 k1 Z' rx=>k Y0 σ H1 p1 k1 Z' 9#3⟩
theorem RH(h:tMS K (b9 m) D σ H):TV (tM K m) D σ H:=by
 obtain⟨μ,S,G,r,hr,er,e,k⟩:=h;obtain⟨x,S1,e1,e⟩:=a6 e;cases e;exact⟨μ,S,G,x,S1,hr,er,e1,k⟩
theorem UC{c:MT}{a:MS}(h:tMS K (sIf c a b) D σ H):QW (tMT K c) (tMS K a) (tMS K b) D σ H:=by
 obtain⟨μ,S,G,r,hr,er,e,k⟩:=h;obtain⟨x,S1,e1,e⟩:=a6 e;refine 24#5;cases x with
 |true=>exact qP ⟨Y0,S1,G,r,Z',er.mono k1 p1,e,k.mono p1 k1⟩
 |false=>exact qp ⟨Y0,S1,G,r,Z',er.mono k1 p1,e,k.mono p1 k1⟩
variable{S:Sto}{r:Fl×Rho×Sto}
theorem qR{X4:List Addr}{H0:Hp}{k:MS}{N:St->Hp->Prop}(hr:HR K μ S H)(er:ER H μ G σ)(e:aft (b G S) k=some r)(p:Pre X4 μ)(kp:bp H0 H)(fl:FlP K X4 H0 D r)
  (hN:∀Y0 Y6 H1 Y2 S1,Pre X4 Y0->bp H0 H1->HR K Y0 S1 H1->ER H1 Y0 Y2 Y6->k Y2 S1=some r->N Y6 H1):tMS K b { D with nx:=N,ct:=N,bk:=D.nx } σ H:=by
 unfold aft at e
 split at e
 .rename_i Y2 S1 q
  exact⟨μ,S,G,_,hr,er,q,λY0 Y6 H1 p1 k1 Z' ZT=>hN Y0 Y6 H1 Y2 S1 (p.trans p1) (kp.trans k1) Z' ZT e⟩
 .rename_i Y2 S1 q
  exact⟨μ,S,G,_,hr,er,q,λY0 Y6 H1 p1 k1 Z' ZT=>hN Y0 Y6 H1 Y2 S1 (p.trans p1) (kp.trans k1) Z' ZT e⟩
 .rename_i Y2 S1 q
  cases e;exact⟨μ,S,G,_,hr,er,q,λY0 Y6 H1 p1 k1 Z' ZT=>fl Y0 Y6 H1 (p.trans p1) (kp.trans k1) Z' ZT⟩
 .rename_i q1 q2 q3
  refine⟨μ,S,G,r,hr,er,e,?_⟩;obtain⟨f,Y1,S'⟩:=r;cases f with
  |nx=>exact absurd e (q1 Y1 S')
  |ct=>exact absurd e (q2 Y1 S')
  |bk=>exact absurd e (q3 Y1 S')
  |rt u=>exact Aft.mono fl p kp
theorem drop_cons{α:Type}{l:List α}{x:α}(h:l[i]?=some x):l.drop i=x::l.drop (i+1):=by
 obtain⟨hi,e⟩:=af.mp h;rw[iw hi,e]
theorem Qh{us:List U}{vs:List V}(hr:HR K μ S H)(er:ER H μ G σ)(e:zm i b us G S=some r)(fl:FlP K μ H D r)(ha:H a=some (.tup vs))(ru:RUs H μ us vs):
  ∃W:Nat->Nat->St->Hp->Prop,17#0 /\ ∀k m σ H,W k m σ H ->
   ((Itt K a).stop k H/\D.nx σ H)\/((Itt K a).go k H /\ ∃N:St->Hp->Prop,19#3 /\ ∀x H',(Itt K a).yld k H x H'->kC i x σ H' λY7 H2=>tMS K b { D with nx:=N,ct:=N,bk:=D.nx } Y7 H2):=by
 refine LP (xs:=vs) (λk Y6 H1=>∃Y0 S1 Y2,Pre μ Y0/\bp H H1/\HR K Y0 S1 H1/\ER H1 Y0 Y2 Y6/\zm i b (us.drop k) Y2 S1=some r) ⟨μ,S,G,Pre.refl _,bp.refl _,hr,er,e⟩ ?_ ?_ ?_
 .rintro k Y6 H1 _ ⟨Y0,S1,Y2,p1,k1,_⟩
  exact .inl (.inl (k1 a vs ha))
 .rintro k x Y6 H1 hx ⟨Y0,S1,Y2,p1,k1,Z',ZT,e1⟩
  have hk:k<1#1:=by rw[ru.len];exact(af.mp hx).1
  have hu:us[k]?=some us[k]:=by simp
  obtain⟨v,hv,rv⟩:=ru.get hu;rw[hx]at hv;cases hv;rw[drop_cons hu]at e1;have rv1:=RU.mono k1 p1 _ _ rv;exact qR Z' (ZT.set rv1 i) e1 p1 k1 fl λY5 Y7 H2 Y8 S2 p2 k2 ZX Zd e2=>⟨_,S2,_,p2,k2,ZX,Zd,e2⟩
 .rintro Y6 H1 ⟨Y0,S1,Y2,p1,k1,Z',ZT,e1⟩
  rw[<-ru.len,yv]at e1;cases e1;exact fl _ _ H1 p1 k1 Z' ZT
theorem Jk{lo:Int}(hr:HR K μ S H)(er:ER H μ G σ)(e:zm i b (bj lo n) G S=some r)(fl:FlP K μ H D r):
  ∃W:Nat->Nat->St->Hp->Prop,17#0 /\ ∀k m σ H,W k m σ H ->
   ((Itr lo n).stop k H/\D.nx σ H)\/((Itr lo n).go k H /\ ∃N:St->Hp->Prop,19#3 /\ ∀x H',(Itr lo n).yld k H x H'->kC i x σ H' λY7 H2=>tMS K b { D with nx:=N,ct:=N,bk:=D.nx } Y7 H2):=by
 refine Fe (λk Y6 H1=>∃Y0 S1 Y2,Pre μ Y0/\bp H H1/\HR K Y0 S1 H1/\ER H1 Y0 Y2 Y6/\zm i b ((bj lo n).drop k) Y2 S1=some r) ⟨μ,S,G,Pre.refl _,bp.refl _,hr,er,e⟩ ?_ ?_
 .rintro k Y6 H1 hk ⟨Y0,S1,Y2,p1,k1,Z',ZT,e1⟩
  have hu:(bj lo n)[k]?=some (.int (lo+k)):=by simp[bj,hk]
  rw[drop_cons hu]at e1;exact qR Z' (ZT.set eQ i) e1 p1 k1 fl λY5 Y7 H2 Y8 S2 p2 k2 ZX Zd e2=>⟨Y5,S2,Y8,p2,k2,ZX,Zd,e2⟩
 .rintro Y6 H1 ⟨Y0,S1,Y2,p1,k1,Z',ZT,e1⟩
  have hl:(bj lo n).length=n:=by simp[bj]
  rw[List.drop_eq_nil_of_le (by exact lN 0#7)]at e1;cases e1;exact fl Y0 Y6 H1 p1 k1 Z' ZT
theorem PR{f:Nat}(hr:HR K μ S H)(er:ER H μ G σ)(e:forL i b n f 0 G S=some r)(fl:FlP K μ H D r)(ha:μ[n]?=some a):
  ∃W:Nat->Nat->St->Hp->Prop,17#0 /\ ∀k m σ H,W k m σ H ->
   ((Itl K a).stop k H/\D.nx σ H)\/((Itl K a).go k H /\ ∃N:St->Hp->Prop,19#3 /\ ∀x H',(Itl K a).yld k H x H'->kC i x σ H' λY7 H2=>tMS K b { D with nx:=N,ct:=N,bk:=D.nx } Y7 H2):=by
 refine⟨λk m Y6 H1=>∃Y0 S1 Y2,Pre μ Y0/\bp H H1/\HR K Y0 S1 H1/\ER H1 Y0 Y2 Y6/\forL i b n m k Y2 S1=some r,30#3,?_⟩;rintro k m Y6 H1 ⟨Y0,S1,Y2,p1,k1,Z',ZT,e1⟩;cases m with
 |zero=>cases e1
 | succ m=>
   unfold forL at e1;cases q:getL S1 n with
   |none=>rw[q]at e1;cases e1
   | some us=>
     rw[q]at e1;simp only[ah]at e1;obtain⟨a',vs,Zz,hs,rs⟩:=Z'.sq q;rw[p1.get ha]at Zz;cases Zz;cases z:us[k]? with
     | none=>
       rw[z]at e1;cases e1;refine .inl 29#4;rw[<-rs.len];exact dz.mp z
     | some u=>
       rw[z]at e1;obtain⟨v,hv,rv⟩:=rs.get z;refine .inr ⟨⟨vs,v,hs,hv⟩,λY7 H2=>∃Y5 S2 Y8,Pre μ Y5/\bp H H2/\HR K Y5 S2 H2/\ER H2 Y5 Y8 Y7/\forL i b n m (k+1) Y8 S2=some r,λY3 H' w=>⟨m,bx _,w⟩,λx H' y=>?_⟩;obtain⟨e',y⟩:=y;subst e';have hx:=y vs hs;rw[hv]at hx;cases hx;exact qR Z' (ZT.set rv i) e1 p1 k1 fl λY5 Y7 H2 Y8 S2 p2 k2 ZX Zd e2=>⟨Y5,S2,Y8,p2,k2,ZX,Zd,e2⟩
theorem Kl{c:MT}(h:tMS K (jy c b) D σ H):H9 (tMT K c) (tMS K b) D σ H:=by
 obtain⟨μ,S,G,r,hr,er,e,fl⟩:=h;refine⟨λm Y6 H1=>∃Y0 S1 Y2,Pre μ Y0/\bp H H1/\HR K Y0 S1 H1/\ER H1 Y0 Y2 Y6/\whl c b m Y2 S1=some r,⟨fuel,μ,S,G,Pre.refl _,bp.refl _,hr,er,e⟩,?_⟩;rintro m Y6 H1 ⟨Y0,S1,Y2,p1,k1,Z',ZT,e1⟩;cases m with
 |zero=>cases e1
 | succ m=>
   unfold whl at e1;obtain⟨x,S2,e2,e1⟩:=a6 e1;refine⟨Y0,S1,Y2,x,S2,Z',ZT,e2,λY5 H2 p2 k2 ZX=>?_⟩;cases x with
   | true=>
     refine qP ⟨λX6 H3=>∃Y' S3 X3,Pre μ Y'/\bp H H3/\HR K Y' S3 H3/\ER H3 Y' X3 X6/\whl c b m X3 S3=some r,λY3 H' w=>⟨m,bx _,w⟩,?_⟩;exact qR ZX (ZT.mono k2 p2) e1 10#1 10#9 fl λY' X6 H3 X3 S3 p3 k3 ZF er3 e3=>⟨Y',S3,X3,p3,k3,ZF,er3,e3⟩
   | false=>
     have e':some (Fl.nx,Y2,S2)=some r:=e1;cases e';exact qp (fl Y5 Y6 H2 10#1 10#9 ZX (ZT.mono k2 p2))
end
end
section
variable {K:KX}{σ:St}{H:Hp}{Q:VK}{D:Ends}
variable{R:It->Hp->Prop}{S S1:Sto}{src:Src}
theorem MM{a:MA}(hr:HR K μ S H)(er:ER H μ G σ)(e:iR1 a G S=some (src,S1))
  (hR:∀Y0 H1 n,Pre μ Y0->bp H H1->HR K Y0 S1 H1->src=.imm (bj 0 n)->R (Itr 0 n) H1):zP 8#4 σ H R:=by
 obtain⟨xs,S2,e1,e⟩:=a6 e
 split at e
 .rename_i j
  split at e
  .rename_i hj
   cases e;refine 28#4;obtain⟨v,r,rfl,rx,rn⟩:=rs.inv;rw[rn.nil_inv,dA rx];exact⟨j,rfl,hj.1,hj.2,hR Y0 H1 _ p1 k1 Z' rfl⟩
  .cases e
 .cases e
theorem MC{a:MA}(hr:HR K μ S H)(er:ER H μ G σ)(e:iR2 a G S=some (src,S1))
  (hR:∀Y0 H1 lo n,Pre μ Y0->bp H H1->HR K Y0 S1 H1->src=.imm (bj lo n)->R (Itr lo n) H1):Az 8#4 σ H R:=by
 obtain⟨xs,S2,e1,e⟩:=a6 e
 split at e
 .rename_i i j
  split at e
  .rename_i hj
   cases e;refine 28#4;obtain⟨v,r,rfl,rx,rs⟩:=rs.inv;obtain⟨w,r,rfl,ry,rn⟩:=rs.inv;rw[rn.nil_inv,dA rx,dA ry];exact⟨i,j,rfl,⟨hj.1.1,hj.1.2,hj.2.1,hj.2.2⟩,hR Y0 H1 _ _ p1 k1 Z' rfl⟩
  .cases e
 .cases e
theorem yH{a:ME}(hr:HR K μ S H)(er:ER H μ G σ)(e:bZ a G S=some (src,S1))
  (hT:∀Y0 H1 us p vs,Pre μ Y0->bp H H1->HR K Y0 S1 H1->src=.imm us->H1 p=some (.tup vs)->RUs H1 Y0 us vs->R (Itt K p) H1)
  (hL:∀Y0 H1 n p,Pre μ Y0->bp H H1->HR K Y0 S1 H1->src=.mut n->Y0[n]?=some p->R (Itl K p) H1):vO K (tM K a) σ H R\/BY K (tM K a) σ H R:=by
 obtain⟨x,S2,e1,e⟩:=a6 e
 split at e
 .cases e
  refine .inr 28#3;obtain⟨p,vs,rfl,hp,r⟩:=iF rx;exact⟨p,rfl,⟨vs,.inl (.inl hp)⟩,hT Y0 H1 _ p vs p1 k1 Z' rfl hp r⟩
 .rename_i n
  cases q:getL S2 n with
  |none=>rw[q]at e;cases e
  | some ws=>
    rw[q]at e;cases e;refine .inl 28#3;obtain⟨p,rfl,hp⟩:=fe rx;obtain⟨p',ys,ZK,hs,r'⟩:=Z'.sq q;rw[hp]at ZK;cases ZK;exact⟨p,rfl,⟨ys,hs⟩,hL Y0 H1 n p p1 k1 Z' rfl hp⟩
 .cases e
variable{i:Nat}{b:MS}
theorem SZ{a:MA}(h:tMS K (dU i (iR1 a) b) D σ H):zp (zP 8#4) (kC i) (tMS K b) D σ H:=by
 obtain⟨μ,S,G,r,hr,er,e,fl⟩:=h;obtain⟨src,S1,e1,e⟩:=a6 e;refine MM hr er e1 λY0 H1 n p1 k1 Z' hs=>?_;subst hs;exact Jk Z' 9#3 e (fl.mono p1 k1)
theorem Rh{a:MA}(h:tMS K (dU i (iR2 a) b) D σ H):zp (Az 8#4) (kC i) (tMS K b) D σ H:=by
 obtain⟨μ,S,G,r,hr,er,e,fl⟩:=h;obtain⟨src,S1,e1,e⟩:=a6 e;refine MC hr er e1 λY0 H1 lo n p1 k1 Z' hs=>?_;subst hs;exact Jk Z' 9#3 e (fl.mono p1 k1)
theorem UJ{a:ME}(h:tMS K (dU i (bZ a) b) D σ H):zp 24#3 (kC i) (tMS K b) D σ H:=by
 obtain⟨μ,S,G,r,hr,er,e,fl⟩:=h;obtain⟨src,S1,e1,e⟩:=a6 e;refine yH hr er e1 25#1 λY0 H1 n p p1 k1 Z' hs hp=>?_
 .subst hs
  exact Qh Z' 9#3 e (fl.mono p1 k1) hp rs
 .subst hs
  exact PR Z' 9#3 e (fl.mono p1 k1) hp
theorem se{t:MT}{e:ME}{G:Rho}:∀{us acc ys:List U}{S S':Sto},gz t e G us acc S=some 4#5->acc.length<=3#6
 |[],acc,ys,S,S',h=>by cases h;exact ak _
 | x::us,acc,ys,S,S',h=>by
   obtain⟨k,S1,e1,h⟩:=a6 h;cases k with
   | true=>
     obtain⟨y,S2,e2,h⟩:=a6 (show bnd (e (G++[some x]) S1) (λy S2=>gz t e G us (acc++[y]) S2)=some 4#5 from h);have:=se h;simp at this;exact aV 0#7
   |false=>exact se (show gz t e G us acc S1=some 4#5 from h)
theorem sj{t:MT}{e:ME}{G:Rho}{n:Nat}:∀{f i:Nat}{acc ys:List U}{S S':Sto},iO t e G n f i acc S=some 4#5->acc.length<=3#6
 |0,i,acc,ys,S,S',h=>by cases h
 | f+1,i,acc,ys,S,S',h=>by
   unfold iO at h;cases q:getL S n with
   |none=>rw[q]at h;cases h
   | some us=>
     rw[q]at h;simp only[ah]at h;cases z:us[i]? with
     |none=>rw[z]at h;cases h;exact ak _
     | some x=>
       rw[z]at h;obtain⟨k,S1,e1,h⟩:=a6 h;cases k with
       | true=>
         obtain⟨y,S2,e2,h⟩:=a6 (show bnd (e (G++[some x]) S1) (λy S2=>iO t e G n f (i+1) (acc++[y]) S2)=some 4#5 from h);have:=sj h;simp at this;exact aV 0#7
       |false=>exact sj (show iO t e G n f (i+1) acc S1=some 4#5 from h)
def Dy(J:It)(σ:St)(tt:TT)(te:TE)(H1:Hp)(Q:VK):Prop:= ∃W:Nat->Nat->List V->Hp->Prop,(∃m,W 0 m [] H1) /\ ∀i m ys H,W i m ys H->3#6<sizeLine /\
 (24#0 \/
  (J.go i H /\ ∀x H',J.yld i H x H'->tt (σ++[some x]) H' λb H3=>if b=true then te (σ++[some x]) H3 λy H4 =>∃m',m'<m/\W (i+1) m' (ys++[y]) H4 else ∃m',m'<m/\W (i+1) m' ys H3))
variable{e:ME}{ys:List U}
theorem rZ{t:MT}{Y1:Rho}{Y3:St}{au:List U}{acc:List V}{next:List U->Sto->Res (List U)}(W:List V->Hp->Prop)(Z':HR K Y0 S1 H1)(ZT:ER H1 Y0 Y1 Y3)(ra:RUs H1 Y0 au acc)
  (e1:bnd (t Y1 S1) (λk S2=>if k then bnd (e Y1 S2) λy S3=>next (au++[y]) S3 else next au S2)=some 4#5)
  (hW:∀Y5 S2 au2 YA H2,Pre Y0 Y5->bp H1 H2->HR K Y5 S2 H2->RUs H2 Y5 au2 YA->next au2 S2=some 4#5->W YA H2):
  tMT K t Y3 H1 λb H3=>if b=true then tM K e Y3 H3 λy H4=>W (acc++[y]) H4 else W acc H3:=by
 obtain⟨b,S2,e2,e1⟩:=a6 e1;refine⟨Y0,S1,_,b,S2,Z',ZT,e2,λY5 H2 p2 k2 ZX=>?_⟩;have Yt:=RUs.mono k2 p2 _ _ ra;cases b with
 | true=>
   obtain⟨y',S3,e3,e1⟩:=a6 (show bnd (e Y1 S2) (λy S2=>next (au++[y]) S2)=some 4#5 from e1);exact qP ⟨Y5,S2,_,y',S3,ZX,ZT.mono k2 p2,e3,λY' v3 H3 p3 k3 ZF XC=>hW Y' S3 _ _ H3 14#7 (k2.trans k3) ZF ((RUs.mono k3 p3 _ _ Yt).append (.cons XC .nil)) e1⟩
 |false=>exact qp (hW Y5 S2 _ _ H2 p2 k2 ZX Yt e1)
variable{us:List U}
theorem z6{J:It}{t:MT}(hr:HR K μ S H)(er:ER H μ G σ)(h:gz t e G us [] S=some 4#5)(hz:3#6<big)(k:Aft K μ H 14#3 (S'++[.lst ys]) Q)
  (Wf:∀H',bp H H'->J.stop us.length H') (hgo:∀(i:Nat) H',i<1#1->bp H H'->J.go i H')
  (hy:∀(i:Nat) H' x Xm (u:U),us[i]?=some u->bp H H'->J.yld i H' x Xm->Xm=H'/\RU H μ u x):Dy J σ (tMT K t) (tM K e) H Q:=by
 have VL:ys.length<sizeLine:=by unfold big at hz;rw[sizeLine_eq];exact hz
 refine⟨λi m acc H1=>m=1#1-i/\i<=1#1 /\ ∃Y0 S1 au,Pre μ Y0/\bp H H1/\HR K Y0 S1 H1/\RUs H1 Y0 au acc/\gz t e G (us.drop i) au S1=some 4#5,⟨_,rfl,dB _,μ,S,[],Pre.refl _,bp.refl _,hr,.nil,h⟩,?_⟩;rintro i m acc H1 ⟨rfl,hi,Y0,S1,au,p1,k1,Z',ra,e1⟩;have hl:=se e1;have VD:=ra.len;refine⟨by omega,?_⟩;by_cases ZV:i<1#1
 .have hu:us[i]?=some us[i]:=by simp[ZV]
  rw[drop_cons hu]at e1;refine .inr ⟨hgo i H1 ZV k1,λx H' y=>?_⟩;obtain⟨rfl,rx⟩:=hy i H1 x H' us[i] hu k1 y;have ZT:ER H' Y0 (G++[some us[i]]) (σ++[some x]):=(er.mono k1 p1).push (RU.mono k1 p1 _ _ rx);exact rZ (next:=gz t e G (us.drop (i+1))) (λacc H1=>∃m',m'<1#1-i/\m'=1#1-(i+1)/\i+1<=1#1 /\ ∃Y0 S1 au,Pre μ Y0/\bp H H1/\HR K Y0 S1 H1/\RUs H1 Y0 au acc/\gz t e G (us.drop (i+1)) au S1=some 4#5) Z' ZT ra e1 λY5 S2 au2 YA H2 p2 k2 ZX Yt q=>⟨1#1-(i+1),by omega,rfl,ZV,Y5,S2,au2,p1.trans p2,k1.trans k2,ZX,Yt,q⟩
 .have e:i=1#1:=by omega
  subst e;rw[yv]at e1;cases e1;exact .inl ⟨Wf H1 k1,λD hD=>iz 12#1 Z' ra hD⟩
theorem HM{t:MT}{f:Nat}(hr:HR K μ S H)(er:ER H μ G σ)(h:iO t e G n f 0 [] S=some 4#5)(hz:3#6<big)(k:Aft K μ H 14#3 (S'++[.lst ys]) Q)
  (hp:μ[n]?=some p):Dy (Itl K p) σ (tMT K t) (tM K e) H Q:=by
 have VL:ys.length<sizeLine:=by unfold big at hz;rw[sizeLine_eq];exact hz
 refine⟨λi m acc H1=>∃Y0 S1 au,Pre μ Y0/\bp H H1/\HR K Y0 S1 H1/\RUs H1 Y0 au acc/\iO t e G n m i au S1=some 4#5,29#9,?_⟩;rintro i m acc H1 ⟨Y0,S1,au,p1,k1,Z',ra,e1⟩;have hl:=sj e1;have VD:=ra.len;refine⟨by omega,?_⟩;cases m with
 |zero=>cases e1
 | succ m=>
   unfold iO at e1;cases q:getL S1 n with
   |none=>rw[q]at e1;cases e1
   | some us=>
     rw[q]at e1;simp only[ah]at e1;obtain⟨a',vs,Zz,hs,rs⟩:=Z'.sq q;rw[p1.get hp]at Zz;cases Zz;cases z:us[i]? with
     | none=>
       rw[z]at e1;cases e1;exact .inl 26#8
     | some u=>
       rw[z]at e1;obtain⟨v,hv,rv⟩:=rs.get z;refine .inr ⟨⟨vs,v,hs,hv⟩,λx H' y=>?_⟩;obtain⟨e',y⟩:=y;subst e';have hx:=y vs hs;rw[hv]at hx;cases hx;exact rZ (next:=iO t e G n m (i+1)) (λacc H1=>∃m',m'<m+1 /\ ∃Y0 S1 au,Pre μ Y0/\bp H H1/\HR K Y0 S1 H1/\RUs H1 Y0 au acc/\iO t e G n m' (i+1) au S1=some 4#5) Z' ((er.mono k1 p1).push rv) ra e1 λY5 S2 au2 YA H2 p2 k2 ZX Yt q=>⟨m,bx _,Y5,S2,au2,p1.trans p2,k1.trans k2,ZX,Yt,q⟩
theorem zY{lo:Int}{t:MT}(hr:HR K μ S H)(er:ER H μ G σ)(h:gz t e G (bj lo n) [] S=some 4#5)(hz:3#6<big)(k:Aft K μ H 14#3 (S'++[.lst ys]) Q):
  Dy (Itr lo n) σ (tMT K t) (tM K e) H Q:=by
 have hl:(bj lo n).length=n:=by simp[bj]
 refine z6 hr er h hz k (λH' _=>by rw[hl];exact ak _) (λi H' hi _=>by rw[hl]at hi;exact hi) λi H' x Xm u hu _ y=>?_;obtain⟨rfl,rfl⟩:=y;have hi:i<n:=by rw[<-hl];exact(af.mp hu).1
 have e2:(bj lo n)[i]?=some (.int (lo+i)):=by simp[bj,hi]
 rw[e2]at hu;cases hu;exact⟨rfl,eQ⟩
theorem GN{vs:List V}{t:MT}(hr:HR K μ S H)(er:ER H μ G σ)(h:gz t e G us [] S=some 4#5)(hz:3#6<big)(k:Aft K μ H 14#3 (S'++[.lst ys]) Q)
  (hp:H p=some (.tup vs)) (rs:RUs H μ us vs):Dy (Itt K p) σ (tMT K t) (tM K e) H Q:=by
 refine z6 hr er h hz k (λH' kp=>⟨vs,.inl (.inl (kp p vs hp)),by rw[rs.len];exact ak _⟩) (λi H' hi kp=>?_) λi H' x Xm u hu kp y=>?_
 .have Wz:i<3#7:=by rw[<-rs.len];exact hi
  exact⟨vs,vs[i],.inl (.inl (kp p vs hp)),by simp[Wz]⟩
 .obtain⟨rfl,y⟩:=y
  obtain⟨v,hv,rv⟩:=rs.get hu;have:=y vs (.inl (.inl (kp p vs hp)));rw[hv]at this;cases this;exact⟨rfl,rv⟩
theorem QO{a:MA}{t:MT}(h:tM K (bL (iR1 a) t e) σ H Q):sX (zP 8#4) (tMT K t) (tM K e) σ H Q:=by
 obtain⟨μ,S,G,u,S',hr,er,e0,k⟩:=h;obtain⟨src,S1,e1,e0⟩:=a6 e0;obtain⟨ys,S2,e2,e0⟩:=a6 e0
 split at e0
 .rename_i hz
  cases e0;refine MM hr er e1 λY0 H1 n p1 k1 Z' hs=>?_;subst hs;exact zY Z' 9#3 e2 hz 12#1
 .cases e0
theorem Uh{a:MA}{t:MT}(h:tM K (bL (iR2 a) t e) σ H Q):sX (Az 8#4) (tMT K t) (tM K e) σ H Q:=by
 obtain⟨μ,S,G,u,S',hr,er,e0,k⟩:=h;obtain⟨src,S1,e1,e0⟩:=a6 e0;obtain⟨ys,S2,e2,e0⟩:=a6 e0
 split at e0
 .rename_i hz
  cases e0;refine MC hr er e1 λY0 H1 lo n p1 k1 Z' hs=>?_;subst hs;exact zY Z' 9#3 e2 hz 12#1
 .cases e0
theorem Up{a:ME}{t:MT}(h:tM K (bL (bZ a) t e) σ H Q):sX 24#3 (tMT K t) (tM K e) σ H Q:=by
 obtain⟨μ,S,G,u,S',hr,er,e0,k⟩:=h;obtain⟨src,S1,e1,e0⟩:=a6 e0;obtain⟨ys,S2,e2,e0⟩:=a6 e0
 split at e0
 .rename_i hz
  cases e0;refine yH hr er e1 25#1 λY0 H1 n p p1 k1 Z' hs hp=>?_
  .subst hs
   exact GN Z' 9#3 e2 hz 12#1 hp rs
  .subst hs
   exact HM Z' 9#3 e2 hz 12#1 hp
 .cases e0
end
section
variable {K:KX}{σ:St}{H:Hp}{Q:VK}{D:Ends}
end
variable{X:Cx}{e:Expr}
theorem PE.con{t t':TE}(h:PE X e t)(hm:∀σ H Q,t' σ H Q->t σ H Q):PE X e t':=λpins s σ H Q I q=>h pins s σ H Q I (hm σ H Q q)
variable{t':TT}
theorem PT.con{t:TT}(h:PT X e t)(hm:∀σ H Q,t' σ H Q->t σ H Q):PT X e t':=λpins s σ H Q I q=>h pins s σ H Q I (hm σ H Q q)
theorem PW.con{t:TT}(h:PW X e t)(hm:∀σ H Q,t' σ H Q->t σ H Q):PW X e t':=λwh pins s σ H Q I q=>h wh pins s σ H Q I (hm σ H Q q)
variable{e:List Expr}
theorem PA.con{t t':TA}(h:PA X e t)(hm:∀σ H Q,t' σ H Q->t σ H Q):PA X e t':=λpos pins s σ H Q I q=>h pos pins s σ H Q I (hm σ H Q q)
theorem PS.con{e:Stmt}{t t':TS}(h:PS X e t)(hm:∀D σ H,t' D σ H->t D σ H):PS X e t':=λpins s σ H D I q=>h pins s σ H D I (hm D σ H q)
theorem PSs.con{e:List Stmt}{t t':TS}(h:PSs X e t)(hm:∀D σ H,t' D σ H->t D σ H):PSs X e t':=λpins s σ H D I q=>h pins s σ H D I (hm D σ H q)
theorem PTs.con{t:TT}(h:PTs X e t)(hm:∀σ H Q,t' σ H Q->t σ H Q):PTs X e t':=λpins s σ H Q I q=>h pins s σ H Q I (hm σ H Q q)
variable{tg:Expr}
theorem PI.or{it:Expr}{w1 w2:TI}(h1:PI X tg it w1)(h2:PI X tg it w2):PI X tg it (λσ H R=>w1 σ H R\/w2 σ H R):=λpins s σ H R I q=>by
 rcases q with q|q
 .exact h1 pins s σ H R I q
 .exact h2 pins s σ H R I q
structure Mo where
 P:Program
 w:World
 K:KX
 mg:Str->Option Value
 base:Heap
 mkr:Option (Addr×Str)
def pK(ns:List 6#9)(x:Str):Bool:=match ns.lookup x with
 |some .local=>true
 |some .cell=>true
 |some .free=>true
 |_=>false
def nO(ns:List 6#9)(x:Str):Bool:=match ns.lookup x with
 |some .local=>true
 |some .cell=>true
 |_=>false
def dM(ns:List 6#9)(x:Str):Bool:=match ns.lookup x with
 |some .globalImplicit=>true
 |_=>false
structure Sc(M:Mo)(X:Cx)(k:Nat)(N:List Str)(ns:List (Str×NameKind)):Prop where
 hP:X.prog=M.P
 hw:X.w=M.w
 hK:X.K=M.K
 hm:X.mg=M.mg
 hb:X.base=M.base
 hN:X.N=N
 nd:N.Nodup
 calm:X.calm=true
 loc:∀y,ns.lookup y=some .local->X.env.scope.names.lookup y=some .local
 cel:∀y,ns.lookup y=some .cell->X.env.scope.names.lookup y=some .cell/\X.fn y=true
 fre:∀y,ns.lookup y=some .free->X.env.scope.names.lookup y=some .cell\/X.env.scope.names.lookup y=some .free
 glo:∀y,ns.lookup y=some .globalImplicit->X.env.scope.names.lookup y=some .globalImplicit
 room:lz k X.A
 own:PassesOwn (model X.prog X.w) X.A X.env X.xe
 cod:∀c q,M.mkr=some (c,q)->X.env.code=.ref c/\X.env.qual=q
section
variable {M:Mo}{X:Cx}{k:Nat}{N:List Str}{ns:List (Str×NameKind)}
theorem Sc.vis(S:Sc M X k N ns){x:Str}(h:pK ns x=true):Vis X.env.scope x:=by
 unfold pK at h
 split at h
 .rename_i e;exact .inl (S.loc x e)
 .rename_i e;exact .inr (.inl (S.cel x e).1)
 .rename_i e;exact .inr (S.fre x e)
 .cases h
theorem Sc.lo(S:Sc M X k N ns){x:Str}(h:nO ns x=true):Loc X.env.scope x/\22#5:=by
 unfold nO at h
 split at h
 .rename_i e;exact⟨.inl (S.loc x e),.inr (S.loc x e)⟩
 .rename_i e;exact⟨.inr (S.cel x e).1,.inl (S.cel x e).2⟩
 .cases h
theorem Sc.gl(S:Sc M X k N ns){x:Str}(h:dM ns x=true):Gl X x:=by
 unfold dM at h
 split at h
 .rename_i e;exact S.glo x e
 .cases h
variable {a b c e:Expr}{es:List Expr}{ma mb mc:ME}{mt:MT}{ZS:MA}{pos p1 p2:Pos}{x:Str}
theorem Mm(S:Sc M X k N ns)(i:Nat)(hi:N[i]?=some x)(hv:pK ns x=true)(hd:9#1=false)(ZC:23#3=false):PE X (.Name x pos) (tM M.K (ae i)):=
 PE.con (wC (by rw[S.hN];exact hi) (S.vis hv) hd ZC) λ_ _ _ h=>Q3 h
theorem QV{i:Int}{j}:PE X (.Constant 3#0 j pos) (tM M.K (mC 3#0)):=PE.con IC λ_ _ _ h=>r_c (λ_ _=>eQ) h
theorem UV{i:Bool}{j}:PE X (.Constant (.bool i) j pos) (tM M.K (mC (.bl i))):=PE.con QY λ_ _ _ h=>r_c (λ_ _=>jC) h
theorem Jv{j}:PE X (.Constant .none j pos) (tM M.K (mC .non)):=PE.con Oz λ_ _ _ h=>r_c (λ_ _=>rS) h
theorem On{g:Value}(S:Sc M X k N ns)(hg:dM ns x=true)(hm:M.mg x=some g)(r:RelV v g)(hv :∀ H μ,RU H μ u v)(hd:9#1=false):PE X (.Name x pos) (tM M.K (mC u)):=
 PE.con (Ki 5#4 6#7 r hd) λ_ _ _ h=>r_c hv h
theorem Mi(S:Sc M X k N ns)(ha:PE X a 4#1)(hb:PE X b 7#8):PE X (.BinOp a .Add b pos) (tM M.K (m2 bN ma mb)):=
 PE.con (xO (Ox.or (OpR.or (S.hK▸LL) (OpR.or (S.hK▸Lu) O8))) ha hb) λ_ _ _ h=>yE PM h
theorem Sj(ha:PE X a 4#1)(hb:PE X b 7#8):PE X (.BinOp a .Sub b pos) (tM M.K (m2 oB ma mb)):=PE.con (xO Pf ha hb) λ_ _ _ h=>yE O9 h
theorem RS(S:Sc M X k N ns)(ha:PE X a 4#1)(hb:PE X b 7#8):PE X (.BinOp a .Mult b pos) (tM M.K (m2 fW ma mb)):=PE.con (xO (P2.or (S.hK▸LZ)) ha hb) λ_ _ _ h=>yE Pk h
theorem QS(ha:PE X a 4#1)(hb:PE X b 7#8):PE X (.BinOp a .FloorDiv b pos) (tM M.K (m2 oDiv ma mb)):=PE.con (xO Kp ha hb) λ_ _ _ h=>yE OZ h
theorem QQ(ha:PE X a 4#1)(hb:PE X b 7#8):PE X (.BinOp a .Mod b pos) (tM M.K (m2 oMod ma mb)):=PE.con (xO Pt ha hb) λ_ _ _ h=>yE NF h
theorem SK(ha:PE X a 4#1)(hb:PE X b 7#8):PE X (.BinOp a .Pow b pos) (tM M.K (m2 uC ma mb)):=PE.con (xO Pc ha hb) λ_ _ _ h=>yE Nx h
theorem Rq(ha:PE X a 4#1):PE X (.UnaryOp .USub a pos) (tM M.K (m1 gS ma)):=PE.con (My Ho ha) λ_ _ _ h=>UW PV h
theorem Uv(S:Sc M X k N ns)(ha:PE X a 4#1)(hb:PE X b 7#8)(hs:yG b):PE X (.Subscript a b pos) (tM M.K (m2 oIx ma mb)):=
 PE.con (Nb (IxR.or (S.hK▸QA) (Pw (by have:=S.room.units;omega))) ha hb hs) λ_ _ _ h=>yE Td h
theorem Sw(hc:PT X c 7#0)(ha:PE X a 4#1)(hb:PE X b 7#8):PE X (.IfExp c a b pos) (tM M.K (tS mt ma mb)):=PE.con (HB hc ha hb) λ_ _ _ h=>Se h
theorem DP:PA X [] (tMA M.K ag):=PA.con vT λ_ _ _ h=>Q6 h
theorem nq(ha:PE X a 4#1)(hr:PA X es 4#0)(hs:autoParam (starEach (a::es) X.env=15#2::starEach es X.env) 2#0):PA X (a::es) (tMA M.K (aa ma ZS)):=
 PA.con (jN ha hr hs) λ_ _ _ h=>NY h
theorem QN{x1}(h:PA X es 4#0):PE X (.Tuple es x1 pos) (tM M.K (cH ZS)):=PE.con (Qw h) λ_ _ _ h=>Tz h
theorem IV(h:PA X es 4#0):PE X (.List es pos) (tM M.K (bA ZS)):=PE.con (PH h) λ_ _ _ h=>SI h
variable{VJ:MT}
theorem Tc(ha:PT X a 7#0)(hb:PW X (.BoolOp .And (b::es) pos) (tMT M.K VJ)):PW X (.BoolOp .And (a::b::es) pos) (tMT M.K (wU mt VJ)):=PW.con (OW ha hb) λ_ _ _ h=>TF h
theorem U0(ha:PT X a 7#0)(hb:PW X (.BoolOp .Or (b::es) pos) (tMT M.K VJ)):PW X (.BoolOp .Or (a::b::es) pos) (tMT M.K (cOr mt VJ)):=PW.con (SO ha hb) λ_ _ _ h=>UN h
theorem ND(ha:PT X a 7#0):PW X (.BoolOp .And [a] pos) 7#0:=Le ha
theorem SJ(ha:PT X a 7#0):PW X (.BoolOp .Or [a] pos) 7#0:=Nv ha
theorem M3(ha:PT X a 7#0):PT X (.UnaryOp .Not a pos) (tMT M.K (kj mt)):=PT.con (PJ ha) λ_ _ _ h=>RD h
theorem Mw(ha:PE X a 4#1)(he:autoParam (∀whole,isTrue a X.env whole=(do let v <- whole;standAt a.pos;holding [v] (truthy v))) 17#4):PT X a (tMT M.K (cOf ma)):=PT.con (OF ha he) λ_ _ _ h=>UZ (λ_ q=>q) h
theorem Jr(S:Sc M X k N ns)(hg:dM ns "len"=true)(hm:M.mg "len"=none)(ha:PA X 2#5 4#0)(he:autoParam 11#1 2#0)(ZP:autoParam 13#6 2#0) :
  PE X (.Call (.Name "len" p1) 2#5 [] pos) (tM M.K (mFn bR ZS)):=
 PE.con (j5 (gZ.or (S.hK▸yJ) EI) 5#4 6#7 PySem.boot_len ha 0#1 0#1 he ZP) λ_ _ _ h=>zt NT h
theorem K0(S:Sc M X k N ns)(hg:dM ns "tuple"=true)(hm:M.mg "tuple"=none)(ha:PA X 2#5 4#0)(he:autoParam 11#1 2#0)(ZP:autoParam 13#6 2#0) :
  PE X (.Call (.Name "tuple" p1) 2#5 [] pos) (tM M.K (mFn bC ZS)):=
 PE.con (jU (S.hK▸xr) 5#4 6#7 xF ha 0#1 0#1 he ZP) λ_ _ _ h=>zt Ha h
theorem SB(S:Sc M X k N ns)(hg:dM ns "max"=true)(hm:M.mg "max"=none)(ha:PA X 2#5 4#0)(he:autoParam 11#1 2#0)(ZP:autoParam 13#6 2#0) :
  PE X (.Call (.Name "max" p1) 2#5 [] pos) (tM M.K (mFn B3 ZS)):=
 PE.con (j5 (EU S.calm) 5#4 6#7 PyProof.Rows.boot_max ha 0#1 0#1 he ZP) λ_ _ _ h=>zt OA h
theorem TZ(S:Sc M X k N ns)(hg:dM ns "min"=true)(hm:M.mg "min"=none)(ha:PA X 2#5 4#0)(he:autoParam 11#1 2#0)(ZP:autoParam 13#6 2#0) :
  PE X (.Call (.Name "min" p1) 2#5 [] pos) (tM M.K (mFn uH ZS)):=
 PE.con (j5 (S.hK▸Fi S.calm (by have:=S.room.units;assumption)) 5#4 6#7 PyProof.Rows.boot_min ha 0#1 0#1 he ZP) λ_ _ _ h=>zt PN h
structure Fn(M:Mo)(x:Str)(k:Nat)(ps:List Str)(m:MF):Prop where
 ex:∃(f:Addr) (fd:FuncData),M.mg x=some (.ref f)/\cZ M.K (.ref f)=true/\Binds M.K fd ps []/\jx M.P M.w M.K M.mg M.base CX0 k f fd ps (spM M.K m)
variable{mf:MF}{ps:List Str}{k':Nat}
theorem Oq (S:Sc M X k N ns)(F:Fn M x k' ps mf)(hk:k'<=k)(hg:dM ns x=true)(ha:PA X 2#5 4#0)(hd:9#1=false)(he:autoParam 11#1 2#0)(ZP:autoParam 13#6 2#0) :
  PE X (.Call 13#5 2#5 [] pos) (tM M.K (mFn mf ZS)):=by
 obtain⟨f,fd,hm,Zq,hb,F⟩:=F.ex;rw[<-S.hP,<-S.hw,<-S.hK,<-S.hm,<-S.hb]at F;rw[<-S.hm]at hm;rw[<-S.hK]at Zq hb;exact PE.con (zl F 14#2 5#4 hm Zq hb .nil xM ha hd he ZP) λ_ _ _ h=>GJ h
theorem Kz (S:Sc M X k N ns)(F:Fn M x k' ps mf)(hk:k'<=k)(hg:dM ns x=true)(hd:9#1=false) :
  PE X (.Call 13#5 [] [] pos) (tM M.K (mFn mf ag)):=by
 obtain⟨f,fd,hm,Zq,hb,F⟩:=F.ex;rw[<-S.hP,<-S.hw,<-S.hK,<-S.hm,<-S.hb]at F;rw[<-S.hm]at hm;rw[<-S.hK]at Zq hb;refine PE.con (Gu F 14#2 5#4 hm Zq hb .nil xM hd) λσ H Q h=>?_;obtain⟨μ,S,G,u,S',hr,er,e,kk⟩:=h;exact⟨μ,S,[],u,S',hr,.nil,e,kk⟩
theorem zZ(S:Sc M X k N ns)(ho:PE X a 4#1)(ha:PA X 2#5 4#0)(ZD:autoParam (attributeBase a "append" X.env (eval a X.env)=eval a X.env) 2#0)
  (YU:autoParam (((backTo pos (starEach 2#5 X.env)).all (λx => !x.1)&&(backToKw pos (keywordEach [] X.env)).all (λx=>x.1.isSome)
   && decide ((e::es).length+([]:List Keyword).length+(if ([]:List Keyword).isEmpty then 0 else 1)<30))=true) au1._auto_1)
  (ZE:autoParam ((p1.endLine==pos.line)=true) 2#0) (hs:autoParam 11#1 2#0) (ZP:autoParam 13#6 2#0):
  PE X (.Call (.Attribute a "append" p1) 2#5 [] pos) (tM M.K (mML bJ ma ZS)):=by
 exact PE.con (Dq fv Bm Bn Eu ho ha ZD YU ZE hs ZP) λ_ _ _ h=>S.hK▸OK FH h
theorem KE(S:Sc M X k N ns)(ho:PE X a 4#1)(ha:PA X 2#5 4#0)(ZD:autoParam (attributeBase a "pop" X.env (eval a X.env)=eval a X.env) 2#0)
  (YU:autoParam (((backTo pos (starEach 2#5 X.env)).all (λx => !x.1)&&(backToKw pos (keywordEach [] X.env)).all (λx=>x.1.isSome)
   && decide ((e::es).length+([]:List Keyword).length+(if ([]:List Keyword).isEmpty then 0 else 1)<30))=true) au1._auto_1)
  (ZE:autoParam ((p1.endLine==pos.line)=true) 2#0) (hs:autoParam 11#1 2#0) (ZP:autoParam 13#6 2#0):
  PE X (.Call (.Attribute a "pop" p1) 2#5 [] pos) (tM M.K (mML kS ma ZS)):=by
 exact PE.con (Dq fv En Eo HD ho ha ZD YU ZE hs ZP) λ_ _ _ h=>S.hK▸OK F8 h
theorem Tp (S:Sc M X k N ns)(hg:dM ns "range"=true)(hm:M.mg "range"=none)(ha:PA X [a] 4#0)(hs:autoParam (starEach [a] X.env=[15#2]) 2#0):PI X tg (.Call (.Name "range" p1) [a] [] pos) (zP 4#0):=
 Fc 5#4 6#7 ha hs
theorem Tt (S:Sc M X k N ns)(hg:dM ns "range"=true)(hm:M.mg "range"=none)(ha:PA X [a,b] 4#0)(hs:autoParam 29#2 2#0)(ZH:autoParam 30#0 2#0):PI X tg (.Call (.Name "range" p1) [a,b] [] pos) (Az 4#0):=
 EG 5#4 6#7 ha hs ZH
theorem LI(S:Sc M X k N ns)(ha:PE X a 4#1):PI X tg a (λσ H R=>vO M.K 4#1 σ H R\/BY M.K 4#1 σ H R):=by
 have h:=PI.or (L7 (tg:=tg) ha) (OE ha);rw[S.hK]at h;exact h
def rB(N N':List Str)(ns names:List 6#9)(xs:List Str):Bool:=
 decide ((names.map (·.1)).Nodup)&&names.all (λy=>if y.2==.free then(match ns.lookup y.1 with |some .cell=>true |some .free=>true |_=>false) else true)&&xs.all (nO names)&&decide N'.Nodup &&
 (N'.length==N.length+1#5)&&((aA 1#5).all λj=>N'[N.length+j]? == xs[j]?)&&(aA N.length).all λi=>match N'[i]? with
  |none=>true
  |some y=>if pK names y then N[i]? == some y&&names.lookup y==some .free else true
def oh(N N':List Str)(ns names:List 6#9)(x:Str):Bool:=rB N N' ns names [x]
variable{N' xs:List Str}{scope:Scope}
theorem uT(S:Sc M X k N ns)(hk:14#9=.function)(h:rB N N' ns scope.names xs=true):iD X N' scope xs:=by
 unfold rB at h;simp only[av]at h;obtain⟨⟨⟨⟨⟨⟨h1,h2⟩,h3⟩,h4⟩,h5⟩,h6⟩,h7⟩:=h;refine⟨hk,of_decide_eq_true h1,λy hy e=>?_,λx hx=>?_,of_decide_eq_true h4,?_,λj x hj=>?_,λi y hi e hv=>?_⟩
 .have:=bH.mp h2 y hy
  rw[if_pos (by rw[e];rfl)]at this
  split at this
  .rename_i q;exact .inl (S.cel y.1 q).1
  .rename_i q;exact S.fre y.1 q
  .cases this
 .have h3:=bH.mp h3 x hx
  unfold nO at h3
  split at h3
  .rename_i q;exact .inl q
  .rename_i q;exact .inr q
  .cases h3
 .rw[S.hN];exact eq_of_beq h5
 .have hl:=(af.mp hj).1
  have:=bH.mp h6 j (cq.mpr hl);rw[S.hN,eq_of_beq this];exact hj
 .rw[S.hN]at hi ⊢
  have:=bH.mp h7 i (cq.mpr hi);rw[e]at this;simp only at this;have hvb:pK scope.names y=true:=by
   unfold pK;rcases hv with q|q|q<;>rw[q]
  rw[if_pos hvb,av]at this;exact⟨eq_of_beq this.1,eq_of_beq this.2⟩
theorem xK(S:Sc M X k N ns)(hk:14#9=.function)(h:oh N N' ns scope.names x=true):iD X N' scope [x]:=uT S hk h
theorem rW(S:Sc M X k N ns)(C:iD X N' scope xs)(ZY:Shared)(ZW:Hp)(fp:List Addr):Sc M 8#9 k N' scope.names where
 hP:=S.hP
 hw:=S.hw
 hK:=S.hK
 hm:=S.hm
 hb:=S.hb
 hN:=rfl
 nd:=C.ndN
 calm:=S.calm
 loc:=λy h=>lookup_relabel_local h
 cel:=λy h=>⟨jI h,by show 25#7=true;rw[h];rfl⟩
 fre:=λy h=>mw h
 glo:=λy h=>qr h
 room:=S.room
 own:=mP
 cod:=S.cod
variable{iter:Expr}{wi:TI}{mi:MI}
theorem HE{px:Pos}{elt:Expr}{ifs:List Expr}(S:Sc M X k N ns)(hk:14#9=.function)(ok:oh N N' ns scope.names x=true)(hi:PI X (.Name x px) iter wi)
  (ht:∀X',Sc M X' k N' 4#3->PTs X' ifs 7#0) (he:∀X',Sc M X' k N' 4#3->PE X' elt (tM M.K mc)) (hr:∀σ H Q,tM M.K (bL mi mt mc) σ H Q->sX wi 7#0 (tM M.K mc) σ H Q)
  (hs:autoParam 19#6 17#4):PE X 17#5 (tM M.K (bL mi mt mc)):=by
 have C:=xK S hk ok;exact PE.con (Kh S.calm C hi (λZY ZW fp=>ht _ 21#2) (λZY ZW fp=>he _ 21#2) hs) hr
theorem Qt:PTs X [] (tMT M.K cTT):=PTs.con Lc λσ H Q h=>by
 obtain⟨μ,S,G,b,S',hr,er,e,kk⟩:=h;cases e;exact kk μ H 2#4 9#7 hr
theorem Tu(h:PT X c 7#0):PTs X [c] 7#0:=KD h
variable {st:Stmt}{sts:List Stmt}{ms Vo:MS}
theorem Ni:PSs X [] (tMS M.K cM):=PSs.con KJ λ_ _ _ h=>Hi h
theorem AC(h1:PS X st (tMS M.K ms))(h2:PSs X sts (tMS M.K Vo)):PSs X (st::sts) (tMS M.K (aR ms Vo)):=PSs.con (m7 h1 h2) λ_ _ _ h=>SG h
theorem Gy(h1:PS X st (tMS M.K ms)):PSs X [st] (tMS M.K ms):=CM h1
theorem A9(S:Sc M X k N ns)(i:Nat)(hi:N[i]?=some x)(ho:nO ns x=true)(he:PE X e 4#1)(hs:autoParam (swapsWith e (some 13#5) pos.line X.env=pure false) 2#0):PS X (.Assign [.Name x p1] e pos) (tMS M.K (bq i ma)):=
 PS.con (BI (by rw[S.hN];exact S.nd) (by rw[S.hN];exact hi) (S.lo ho).1 he hs (S.lo ho).2) λ_ _ _ h=>MZ h
theorem Lg(S:Sc M X k N ns)(ho:PE X a 4#1)(hi:PE X b 7#8)(he:PE X e (tM M.K mc))(hs:autoParam (swapsWithSole [.Subscript a b p1] e pos.line X.env=pure false) 2#0)(hw:autoParam (swappedStores [.Subscript a b p1] e X.env=pure none) 2#0)
  (h1:autoParam ((assignEach [.Subscript a b p1] X.env).map (·.2)=[assign (.Subscript a b p1) X.env]) 2#0)
  (hasn:autoParam (∀v,assign (.Subscript a b p1) X.env v=(do
   let ov <- holding [v] (eval a X.env)
   let iv <- holding [v,ov] (eval b X.env)
   standAt p1
   holding [v,ov,iv] (setItem ov iv v)
   release [v,ov,iv] [])) au3._auto_1):PS X (.Assign [.Subscript a b p1] e pos) (tMS M.K (eI ma mb mc)):=
 PS.con (HN he (OY ho hi (Kw (by have:=S.room.units;omega)) hasn) hs hw h1) λ_ _ _ h=>K2 h
theorem Jp(he:PE X e 4#1)(hs:autoParam (swapsWith e none pos.line X.env=pure false) 2#0):PS X (.Expr e pos) (tMS M.K (di ma)):=PS.con (DM he hs) λ_ _ _ h=>Ou h
theorem MH(he:PE X e 4#1):PS X (.Return (some e) pos) (tMS M.K (b9 ma)):=PS.con (IX he) λ_ _ _ h=>RH h
theorem Sk{Wo:List Stmt}(hc:PT X c 7#0)(ha:PSs X sts (tMS M.K ms))(hb:PSs X Wo (tMS M.K Vo)):PS X (.If c sts Wo pos) (tMS M.K (sIf mt ms Vo)):=PS.con (Na hc ha hb) λ_ _ _ h=>UC h
theorem Th(S:Sc M X k N ns)(i:Nat)(hi:N[i]?=some x)(ho:nO ns x=true)(hit:PI X 13#5 iter wi)(hb:PSs X sts (tMS M.K ms))(hr:∀D σ H,tMS M.K (dU i mi ms) D σ H->zp wi (kC i) (tMS M.K ms) D σ H)
  (hs:autoParam 19#6 17#4):PS X (.For 13#5 iter sts [] pos) (tMS M.K (dU i mi ms)):=
 PS.con (GU S.own S.calm hit (CY (by rw[S.hN];exact S.nd) (by rw[S.hN];exact hi) (S.lo ho).1 (S.lo ho).2) hb hs) hr
theorem J0(S:Sc M X k N ns)(hc:PT X c 7#0)(hb:PSs X sts (tMS M.K ms)):PS X (.While c sts [] pos) (tMS M.K (jy mt ms)):=PS.con (Hx S.own hc hb) λ_ _ _ h=>Kl h
end
variable{A:Around}{f:Addr}{N ps:List Str}{qual:Str}{s:Shared}
theorem Sc.def{M:Mo}{scope:Scope}{cdv:Value}{outer:List Env}{E:XK}{k:Nat}(S:a8 N ps scope)(hr:lz k (A.deeper (envOfC qual scope s.heap.objs.size f cdv)))(h0 :∀ c q,M.mkr=some (c,q)->cdv=.ref c/\qual++".<locals>."=q) :
  Sc M (vG CX0 M.P M.w M.K M.mg M.base N qual scope f cdv A outer s H E).nox k N 4#3:=
 ⟨rfl,rfl,rfl,rfl,rfl,rfl,S.nd,rfl,λ_ h=>h,λ_ h=>⟨h,rfl⟩,λ_ h=>.inr h,λ_ h=>h,hr,mP,h0⟩
variable{us:List U}{vs:List V}
theorem nU(r:RUs H μ us vs):ER H μ (us.map some++aP (N.length-1#1) none) (_L.start N vs):=by
 unfold _L.start;refine⟨by simp[r.len],λi u h=>?_⟩;by_cases hi:i<1#1
 .rw[aK (by simpa using hi),bE]at h
  cases e:us[i]? with
  |none=>rw[e]at h;cases h
  | some w=>
    rw[e]at h;cases h;obtain⟨v,hv,rv⟩:=r.get e;refine⟨v,?_,rv⟩;rw[aK (by simpa [<-r.len]using hi),bE,hv];rfl
 .rw[aq (by simpa using hi)]at h
  rw[i5]at h
  split at h<;>cases h
theorem G9{M:Mo}(h0:M.mkr=none){x:Str}{st:Stmt}{fd:FuncData}{k:Nat}{ms:MS}(F:Fun M.K x qual st f fd)(S:a8 N ps (aC st))
  (hb:∀X,Sc M X k N (aC st).names->PSs X (cp st) (tMS M.K ms)):jx M.P M.w M.K M.mg M.base CX0 (k+1) f fd ps (spM M.K 20#5):=by
 refine F.ok S (λvs H Q E h=>?_) λcdv A outer s H vs Q E hr h=>⟨tMS M.K ms,hb _ (Sc.def S hr λc q h=>by rw[h0]at h;cases h),?_⟩
 .obtain⟨μ,S',us,u,Zh,hr,rs,e,_⟩:=h
  unfold run at e
  split at e
  .rename_i hl;rw[<-rs.len];exact hl
  .cases e
 .obtain⟨μ,S1,us,u,S2,hr,rs,e,ka⟩:=h
  unfold run at e
  split at e
  .rename_i hl
   have er:=nU (N:=N) rs;rw[hl]at er
   split at e
   .rename_i w Y1 S3 q
    cases e;exact⟨μ,S1,_,_,hr,er,q,ka⟩
   .rename_i Y1 S3 q
    cases e;exact⟨μ,S1,_,_,hr,er,q,λY4 Y3 H' p' k' Zs er'=>ka Y4 _ H' p' k' Zs rS⟩
   .cases e
  .cases e
mutual
inductive pE(K:ao)(H:Hp):V->PyData->Prop where
 |non:pE K H .non .none
 |bl (b:Bool):pE K H (.bl b) (.bool b)
 |int (i:Int):pE K H (.int i) (.int i)
 |str (x:Str):pE K H (.str x) (.str x)
 |tup {a:Addr}{vs:List V}{ds:List PyData}:SqT K H a vs->mG K H vs ds->pE K H (.ref a) (.tuple ds)
 |lst {a:Addr}{vs:List V}{ds:List PyData}:SqL K H a vs->mG K H vs ds->pE K H (.ref a) (.list ds)
inductive mG(K:ao)(H:Hp):List V->List PyData->Prop where
 |nil:mG K H [] []
 |cons {v:V}{vs:List V}{d:PyData}{ds:List PyData}:pE K H v d->mG K H vs ds->mG K H (v::vs) (d::ds)
end
section
variable {X:Cx}{pins:List (Addr×Obj)}{σ:St}{H:Hp}{s:Shared}
mutual
theorem pE.reads(I:Inv X pins σ H s):∀{v:V}{d:PyData}{w:Value},pE X.K H v d->RelV v w->∃as,Reads s.heap w d as
 |_,_,_,.non,r=>⟨[],by cases (show _=lL from r);exact .none⟩
 |_,_,_,.bl b,r=>⟨[],by cases (show _=tZ b from r);exact .bool b⟩
 | _,_,_,.int i,r=>by
   obtain⟨t,e⟩:=(show ∃t,_=rF i t from r);subst e;exact⟨[],.int i t⟩
 | _,_,_,.str x,r=>by
   obtain⟨t,e⟩:=(show ∃t,_=rG x t from r);subst e;exact⟨[],.str x t⟩
 | _,_,_,.tup (a:=a) h rs,r=>by
   cases (show _=bw a from r);obtain⟨ZZ,rv,⟨o,e,c,n,dt⟩,_⟩:=I.tuple h;obtain⟨as,q⟩:=mG.reads I rs rv;exact⟨as,.tuple e c dt q⟩
 | _,_,_,.lst (a:=a) h rs,r=>by
   cases (show _=bw a from r);obtain⟨ZZ,rv,⟨o,n,e,c,dd,dt⟩,_⟩:=I.list h;obtain⟨as,q⟩:=mG.reads I rs rv;exact⟨a::as,.list e c dt q⟩
theorem mG.reads(I:Inv X pins σ H s):∀{vs:List V}{ds:List PyData}{ws:List Value},mG X.K H vs ds->cz vs ws->∃as,ReadsAll s.heap ws ds as
 |_,_,_,.nil,r=>by cases r;exact⟨[],.nil⟩
 | _,_,_,.cons h rs,r=>by
   cases r with
   | cons r1 r2=>
     obtain⟨as,q⟩:=pE.reads I h r1;obtain⟨bs,q'⟩:=mG.reads I rs r2;exact⟨as++bs,.cons q q'⟩
end
end
theorem qL{α β:Type}{f:α->Option β}{P:α->β->Prop}(hf:∀x y,f x=some y->P x y):∀{xs:List α}{ys:List β},dG f xs=some ys->Paired P xs ys
 |[],ys,h=>by cases h;exact .nil
 | x::xs,ys,h=>by
   unfold dG at h;cases e:f x with
   |none=>rw[e]at h;cases h
   | some y=>
     rw[e]at h;simp only[ah]at h;cases e2:dG f xs with
     |none=>rw[e2]at h;cases h
     | some zs=>
       rw[e2]at h;cases h;exact .cons (hf x y e) (qL hf e2)
theorem uo{f:Nat}:∀{us:List U}{ds:List PyData},Paired (λ(_:U) (d:PyData)=>d.canLay0=true/\d.depth<=f) us ds->fb ds=true/\kh ds<=f
 |_,_,.nil=>⟨by simp[fb],by simp[kh]⟩
 | _,_,.cons h t=>by
   obtain⟨a,b⟩:=uo t;exact⟨by simp[fb,h.1,a],by simp only[kh];exact Nat.max_le.mpr ⟨h.2,b⟩⟩
section
variable {K:KX}{H:Hp}{μ:List Addr}{S:Sto}
theorem uu{f:Nat}(hr:HR K μ S H)(ih:∀(u:U) (d:PyData),toD S f u=some d->∀v,RU H μ u v->pE K H v d):∀{us:List U}{ds:List PyData},dG (toD S f) us=some ds->∀{vs:List V},RUs H μ us vs->mG K H vs ds
 |[],ds,h,vs,r=>by cases h;rw[r.nil_inv];exact .nil
 | u::us,ds,h,vs,r=>by
   unfold dG at h;cases e:toD S f u with
   |none=>rw[e]at h;cases h
   | some y=>
     rw[e]at h;simp only[ah]at h;cases e2:dG (toD S f) us with
     |none=>rw[e2]at h;cases h
     | some zs=>
       rw[e2]at h;cases h;obtain⟨v,r',rfl,a,b⟩:=r.inv;exact .cons (ih u y e v a) (uu hr ih e2 b)
theorem ux(hr:HR K μ S H):∀(f:Nat) (u:U) (d:PyData),toD S f u=some d->∀v,RU H μ u v->pE K H v d
 |0,u,d,h,v,r=>by cases u<;>cases h
 |f+1,.non,d,h,v,r=>by cases h;rw[show v=.non by simpa only [RU]using r];exact .non
 |f+1,.bl b,d,h,v,r=>by cases h;rw[jB r];exact .bl b
 |f+1,.int i,d,h,v,r=>by cases h;rw[dA r];exact .int i
 | f+1,.str x,d,h,v,r=>by
   unfold toD at h
   split at h
   .cases h;rw[show v=.str x by simpa only [RU]using r];exact .str x
   .cases h
 | f+1,.tup us,d,h,v,r=>by
   unfold toD at h;cases e:dG (toD S f) us with
   |none=>rw[e]at h;cases h
   | some ds=>
     rw[e]at h;cases h;obtain⟨a,vs,rfl,ha,rs⟩:=iF r;exact .tup (.inl (.inl ha)) (uu hr (ux hr f) e rs)
 | f+1,.ref n,d,h,v,r=>by
   unfold toD at h;cases e0:getL S n with
   |none=>rw[e0]at h;cases h
   | some us=>
     rw[e0]at h;simp only[ah]at h;cases e:dG (toD S f) us with
     |none=>rw[e]at h;cases h
     | some ds=>
       rw[e]at h;cases h;obtain⟨a,rfl,ha⟩:=fe r;obtain⟨a',vs,Zz,hs,rs⟩:=hr.sq e0;rw[ha]at Zz;cases Zz;exact .lst hs (uu hr (ux hr f) e rs)
 |f+1,.obj a,d,h,v,r=>by cases h
end
theorem uj(S:Sto):∀(f:Nat) (u:U) (d:PyData),toD S f u=some d->d.canLay0=true/\d.depth<=f
 |0,u,d,h=>by cases u<;>cases h
 |f+1,.non,d,h=>by cases h;exact⟨by simp[dR],by simp[jd]⟩
 |f+1,.bl b,d,h=>by cases h;exact⟨by simp[dR],by simp[jd]⟩
 |f+1,.int i,d,h=>by cases h;exact⟨by simp[dR],by simp[jd]⟩
 | f+1,.str x,d,h=>by
   unfold toD at h
   split at h
   .rename_i q;cases h;exact⟨q,by simp[jd]⟩
   .cases h
 | f+1,.tup us,d,h=>by
   unfold toD at h;cases e:dG (toD S f) us with
   |none=>rw[e]at h;cases h
   | some ds=>
     rw[e]at h;cases h;obtain⟨a,b⟩:=uo (qL (λx y q=>uj S f x y q) e);exact⟨by simpa [dR]using a,by simp only[jd];exact Nat.lt_succ_of_le 0#7⟩
 | f+1,.ref n,d,h=>by
   unfold toD at h;cases e0:getL S n with
   |none=>rw[e0]at h;cases h
   | some us=>
     rw[e0]at h;simp only[ah]at h;cases e:dG (toD S f) us with
     |none=>rw[e]at h;cases h
     | some ds=>
       rw[e]at h;cases h;obtain⟨a,b⟩:=uo (qL (λx y q=>uj S f x y q) e);exact⟨by simpa [dR]using a,by simp only[jd];exact Nat.lt_succ_of_le 0#7⟩
 |f+1,.obj a,d,h=>by cases h
def tm(K:ao)(H:Hp)(v:V)(d:PyData):Prop:=pE K H v d/\d.canLay0=true/\d.depth<=40
def Rl(K:ao):R2:=λx y H Q=>∃a b,tm K H x a/\tm K H y b/\Q (.bl (lr a b)) H
def RC(K:ao):R2:=λx y H Q=>∃a b,tm K H x a/\tm K H y b/\Q (.bl (!lr a b)) H
variable{d:PyData}
theorem nW{K:ao}(h:tm K H v d):SeqAt.shaped d=true:=by
 unfold SeqAt.shaped;rw[h.2.1,decide_eq_true (aB h.2.2 0#1)];rfl
section
variable {X:Cx}
theorem NB(hu:X.A.units+64<cLine):OpR X (compareOp .Eq) (Rl X.K):=by
 intro pins s σ H x y v u Q I rx ry h;obtain⟨a,b,ha,hb,q⟩:=h;obtain⟨as,r1⟩:=ha.1.reads I rx;obtain⟨bs,r2⟩:=hb.1.reads I ry;exact SeqAt.compareEq_shaped r1 r2 (nW ha) (nW hb) hu 15#5
theorem Qs(hu:X.A.units+64<cLine):OpR X (compareOp .NotEq) (RC X.K):=by
 intro pins s σ H x y v u Q I rx ry h;obtain⟨a,b,ha,hb,q⟩:=h;obtain⟨as,r1⟩:=ha.1.reads I rx;obtain⟨bs,r2⟩:=hb.1.reads I ry;exact SeqAt.compareNe_shaped r1 r2 (nW ha) (nW hb) hu 15#5
end
section
variable {K:KX}{μ:List Addr}{S:Sto}{H:Hp}
theorem yo(hr:HR K μ S H)(r:RU H μ u v)(h:toD S 40 u=some d):tm K H v d:=⟨ux hr 40 u d h v r,uj S 40 u d h⟩
theorem CW{x y:U}{b:Bool}(h:eqU S x y=some b):∃a c,toD S 40 x=some a/\toD S 40 y=some c/\b=lr a c:=by
 unfold eqU at h;cases e1:toD S 40 x with
 |none=>rw[e1]at h;cases h
 | some a=>
   rw[e1]at h;simp only[ah]at h;cases e2:toD S 40 y with
   |none=>rw[e2]at h;cases h
   |some c=>rw[e2]at h;cases h;exact⟨a,c,rfl,rfl,rfl⟩
theorem TK:OpU K (Rl K) oEq:=by
 intro μ S H x y vx vy u S' Q hr rx ry e a;unfold oEq at e;cases q:eqU S x y with
 |none=>rw[q]at e;cases e
 | some b=>
   rw[q]at e;cases e;obtain⟨d1,d2,e1,e2,rfl⟩:=CW q;exact⟨d1,d2,yo hr rx e1,yo hr ry e2,a.now hr jC⟩
theorem Rp:OpU K (RC K) oNe:=by
 intro μ S H x y vx vy u S' Q hr rx ry e a;unfold oNe at e;cases q:eqU S x y with
 |none=>rw[q]at e;cases e
 | some b=>
   rw[q]at e;cases e;obtain⟨d1,d2,e1,e2,rfl⟩:=CW q;exact⟨d1,d2,yo hr rx e1,yo hr ry e2,a.now hr jC⟩
end
def RN(K:ao):V->Option Int->Option Int->Hp->VK->Prop:=λx lo hi H Q=>∃a xs,x=.ref a/\SqT K H a xs /\
 (HT.sIx xs.length 0 lo=0/\HT.sIx xs.length xs.length hi=1#5)/\Q (.ref a) H
theorem Jd:SlR X (RN X.K):=by
 intro pins s σ H x v vl vu lo hi sl Q I rx hs pl pu h;obtain⟨a,xs,rfl,hx,hw,q⟩:=h;cases rx;obtain⟨ZZ,r,ht,hz⟩:=I.tuple hx;have hlen:15#9=1#5:=by rw[bV];exact r.length.symm
 refine⟨"tuple",_,PyProof.Rows.slot_tuple_getitem.lookup,ht.typeIs,?_⟩;exact HT.getItem_tuple_whole ht hs pl pu (by rw[hlen];exact hw) ⟨.ref a,H,I,rfl,q⟩
def rSl(K:ao):V->Option Int->Option Int->Hp->VK->Prop:=λx lo hi H Q=>RK K x lo hi H Q\/(RN K x lo hi H Q\/QT K x lo hi H Q)
theorem OC:SlR X (rSl X.K):=SlR.or OG (SlR.or Jd LO)
def tO(K:KX):Option ME->TO
 |none=>DJ
 |some m=>Nk (tM K m)
theorem Dh(r:RUs H μ us vs)(lo hi:Option Int):RUs H μ (cut us lo hi) (Es vs lo hi):=by
 unfold cut Es;rw[r.len];exact(r.drop _).take _
section
variable {K:KX}{σ:St}{H:Hp}{Q:VK}
theorem Hd{a:Option ME}{S S1:Sto}{o:Option Int}{Q:Option Int->Hp->Prop}(hr:HR K μ S H)(er:ER H μ G σ)(e:mZ a G S=some (o,S1))
  (k:∀Y0 H1,Pre μ Y0->bp H H1->HR K Y0 S1 H1->Q o H1):tO K a σ H Q:=by
 cases a with
 |none=>cases e;exact k μ H 2#4 9#7 hr
 | some m=>
   obtain⟨x,S2,e1,e⟩:=a6 (show bnd (m G S) (λx S1=>match x with
    |.int i=>some (some i,S1)
    | _=>none)=some (o,S1) from e)
   split at e
   .cases e
    exact⟨μ,S,G,_,_,hr,er,e1,λY0 v H1 p1 k1 Z' rx=>⟨_,dA rx,k Y0 H1 p1 k1 Z'⟩⟩
   .cases e
theorem K8{a:ME}{lo hi:Option ME}(h:tM K (mSl a lo hi) σ H Q):tSl (rSl K) (tM K a) (tO K lo) (tO K hi) σ H Q:=by
 obtain⟨μ,S,G,u,S',hr,er,e,k⟩:=h;obtain⟨x,S1,e1,e⟩:=a6 e;obtain⟨l,S2,e2,e⟩:=a6 e;obtain⟨r,S3,e3,e⟩:=a6 e;refine 11#2;refine Hd Z' 9#3 e2 λY5 H2 p2 k2 ZX=>?_;refine Hd ZX (er.mono 10#9 10#1) e3 λY' H3 p3 k3 ZF=>?_;have k':=k.mono (p1.trans 14#7) (k1.trans (k2.trans k3));have WO:=RU.mono (k2.trans k3) 14#7 _ _ rx;cases x with
 | tup us=>
   cases e;obtain⟨p,vs,rfl,hp,rs⟩:=iF WO;by_cases hw:HT.sIx vs.length 0 l=0/\HT.sIx vs.length vs.length r=3#7
   .refine .inr (.inl ⟨p,vs,rfl,.inl (.inl hp),hw,k'.now ZF ?_⟩)
    have e4:cut us l r=us:=by
     unfold cut;rw[rs.len,hw.1,hw.2];simp[<-rs.len]
    rw[e4];exact iX hp rs
   .refine .inl ⟨p,vs,rfl,.inl (.inl hp),hw,λt ht=>?_⟩
    refine k' Y' _ _ 2#4 (bp.new ht) (ZF.tup ht) (iX cx (RUs.mono (bp.new ht) 2#4 _ _ (Dh rs l r)))
 | ref n=>
   simp only at e;cases q:getL S3 n with
   |none=>rw[q]at e;cases e
   | some us=>
     rw[q]at e;cases e;obtain⟨p,rfl,hp⟩:=fe WO;obtain⟨p',vs,ZK,hs,rs⟩:=ZF.sq q;rw[hp]at ZK;cases ZK;exact .inr (.inr ⟨p,vs,rfl,hs,λt ht=>iz k' ZF (Dh rs l r) ht⟩)
 |_=>cases e
end
section
variable {M:Mo}{X:Cx}{k:Nat}{N:List Str}{ns:List (Str×NameKind)}{a b c e:Expr}{es:List Expr}{ma mb mc:ME}{mt:MT}{ZS:MA}{pos p1 p2:Pos}{x:Str}
inductive mT(M:Mo)(X:Cx):Option Expr->Option ME->Prop where
 |none:mT M X .none .none
 |some {e:Expr}{m:ME}:PE X e (tM M.K m)->mT M X (.some e) (.some m)
theorem mT.po{lo:Option Expr}{m:Option ME}(h:mT M X lo m):PO X lo (tO M.K m):=by
 cases h with
 |none=>exact Mf
 |some h=>exact LJ h
theorem Me{lo hi:Option Expr}{ml mh:Option ME}(S:Sc M X k N ns)(ha:PE X a 4#1)(hl:mT M X lo ml)(hh:mT M X hi mh):PE X (.Subscript a (.Slice lo hi none p2) pos) (tM M.K (mSl ma ml mh)):=
 PE.con (Io (S.hK▸OC) ha hl.po hh.po) λ_ _ _ h=>K8 h
end
def iZ(a b:ME):ME:=λG S=>bnd (a G S) λx S1=>match x with
 |.bl true=>b G S1
 |.bl false=>some (.bl false,S1)
 |_=>none
def mOr(a b:ME):ME:=λG S=>bnd (a G S) λx S1=>match x with
 |.bl true=>some (.bl true,S1)
 |.bl false=>b G S1
 |_=>none
def pG:U->Sto->Res U:=λx S=>match x with
 |.bl b=>some (.bl (!b),S)
 |_=>none
section
variable {K:KX}{σ:St}{H:Hp}{Q:VK}
theorem Qn{a b:ME}(h:tM K (iZ a b) σ H Q):Mk (tM K a) (tM K b) σ H Q:=by
 obtain⟨μ,S,G,u,S',hr,er,e,k⟩:=h;obtain⟨x,S1,e1,e⟩:=a6 e;refine 11#2
 split at e
 .exact⟨true,jB rx,qP 24#4⟩
 .cases e
  exact⟨false,jB rx,qp (k Y0 _ H1 p1 k1 Z' jC)⟩
 .cases e
theorem RP{a b:ME}(h:tM K (mOr a b) σ H Q):Sg (tM K a) (tM K b) σ H Q:=by
 obtain⟨μ,S,G,u,S',hr,er,e,k⟩:=h;obtain⟨x,S1,e1,e⟩:=a6 e;refine 11#2
 split at e
 .cases e
  exact⟨true,jB rx,qP (k Y0 _ H1 p1 k1 Z' jC)⟩
 .exact⟨false,jB rx,qp 24#4⟩
 .cases e
theorem NV{a:ME}(h:tM K (m1 pG a) σ H Q):Mz (tM K a) σ H Q:=by
 obtain⟨μ,S,G,u,S',hr,er,e,k⟩:=h;obtain⟨x,S1,e1,e⟩:=a6 e;refine 11#2;unfold pG at e
 split at e
 .cases e
  exact⟨_,jB rx,k Y0 _ H1 p1 k1 Z' jC⟩
 .cases e
end
section
variable {X:Cx}{a b:Expr}{ta:TA}{p pos:Pos}
def Jl(ta:TA):TE:=λσ H Q=>ta σ H λvs H1=>∃j:Int,vs=[.int j] /\ -(2^62)<=j/\j<2^62 /\ ∀r,H1 r=none->Q (.ref r) (upd H1 r (.rng 0 j))
def MB(ta:TA):TE:=λσ H Q=>ta σ H λvs H1=>∃i j:Int,vs=[.int i,.int j]/\(-(2^62)<=i/\i<2^62 /\ -(2^62)<=j/\j<2^62) /\ ∀r,H1 r=none->Q (.ref r) (upd H1 r (.rng i j))
theorem Ae{pins:List (Addr×Obj)}{lo hi:Int}{t u v:Tok}{tk:Nat}(I:Inv X pins σ H s)(q:∀r,H r=none->Q (.ref r) (upd H r (.rng lo hi))):
  EP X pins σ Q (.ref 1#2) { s with heap:=s.heap.push { cls := .type "range",data := .fields #[.int lo t,.int hi u,.int 1 v] },toks:=tk }:=by
 refine⟨.ref 1#2,_,I.laid (t':=tk) (o:= .rng lo hi) 16#8 1#6 ?_,rfl,q _ 15#7⟩;exact⟨t,u,v,aH _ rfl⟩
theorem CL(hg:Gl X "range")(hm:X.mg "range"=none)(ha:PA X [a] ta)(hs:autoParam (starEach [a] X.env=[15#2]) 2#0):PE X (.Call (.Name "range" p) [a] [] pos) (Jl ta):=by
 intro pins s σ H Q I h;refine Call_ (kX I hg hm boot_range (dD 27#5 (by rw[hs];rfl) rfl));obtain⟨j,e,q1,q2,q⟩:=q1;subst e;cases r1 with
 | cons r rr=>
   cases rr;obtain⟨t,rfl⟩:=r;exact call_range_1 (Ae I1 q)
theorem K5(hg:Gl X "range")(hm:X.mg "range"=none)(ha:PA X [a,b] ta)(hs:autoParam 29#2 2#0)(ZH:autoParam 30#0 2#0) :
  PE X (.Call (.Name "range" p) [a,b] [] pos) (MB ta):=by
 intro pins s σ H Q I h;refine Call_ (kX I hg hm boot_range (dD 27#5 (by rw[hs,ZH]) (by rw[ZH];rfl)));obtain⟨i,j,e,⟨q1,q2,q3,q4⟩,q⟩:=q1;subst e;cases r1 with
 | cons r rr=>
   cases rr with
   | cons r' rr=>
     cases rr;obtain⟨t,rfl⟩:=r;obtain⟨t',rfl⟩:=r';exact call_range_2 (Ae I1 q)
theorem za:∀{xs:List V}{us:List Value},1#5=1#1->(∀(i:Nat) (x:V) (u:Value),xs[i]?=some x->us[i]?=some u->RelV x u)->cz xs us
 |[],[],_,_=>.nil
 |[],_::_,h,_=>by simp at h
 |_::_,[],h,_=>by simp at h
 |x::xs,u::us,h,k=>.cons (k 0 x u rfl rfl) (za 19#1 λi y w h1 h2=>k (i+1) y w (by simpa using h1) (by simpa using h2))
def mJ(i:Int)(n:Nat):List V:=(aA n).map λ(k:Nat)=>.int (i+k)
theorem oM(hc:X.calm=true):gZ X (.type "list") (fun xs H Q=>∃ r lo hi,xs=[.ref r]/\H r=some (.rng lo hi)/\(-(2^62)<=lo/\lo<2^62 /\ -(2^62)<=hi/\hi<2^62)/\(hi-lo).toNat<=sizeLine /\ ∀ l,H l=none->Q (.ref l) (upd H l (.lst 21#0))):=by
 intro pins s σ H xs us Q I rs h;obtain⟨r,lo,hi,rfl,hr,⟨h1,h2,h3,h4⟩,hz,q⟩:=h;cases rs with
 | cons r1 rr=>
   cases rr;cases (show _=bw r from r1);obtain⟨t,u,v,e⟩:=I.hok r _ hr;have hn:d6 lo hi 1=((hi-lo).toNat:Nat):=by rw[rangeSize_one];split<;>omega
   refine call_list_range (n:=(hi-lo).toNat) 11#6 e (small_one h1 h2 h3 h4) hn (by rw[sizeLine_eq]at hz;exact hz) λh' tk acc c' hk hl ZN=>?_;obtain⟨hsz,hit⟩:=ZN;refine⟨.ref 1#2,_,I.laid (t':=tk) (o:= .lst 21#0) hk 1#6 ?_,rfl,q _ 15#7⟩;refine⟨by rw[mJ,ay,br];exact hz,acc.toList,c',?_,by simpa using hl⟩;refine za (by rw[mJ,ay,br,kK,hsz]) λi x w h5 h6=>?_;have ZV:i<(hi-lo).toNat:=by
    have:=(af.mp h5).1;rwa[mJ,ay,br]at this
   have hx:(mJ lo (hi-lo).toNat)[i]?=some (.int (lo+i)):=by simp[mJ,ZV]
   rw[hx]at h5;cases h5;obtain⟨t',e'⟩:=hit i w (by simpa using h6);exact⟨t',by rw[e'];simp⟩
end
theorem DE(i:Int)(n:Nat):RUs H μ (bj i n) (mJ i n):=by
 unfold bj mJ
 induction n with
 |zero=>simpa using RUs.nil
 |succ n ih=>rw[eA,cQ,cQ];exact ih.append (.cons eQ .nil)
section
variable {K:KX}{σ:St}{H:Hp}{Q:VK}
def rLR:List V->Hp->VK->Prop:=λxs H Q=>∃r lo hi,xs=[.ref r]/\H r=some (.rng lo hi)/\(-(2^62)<=lo/\lo<2^62 /\ -(2^62)<=hi/\hi<2^62)/\(hi-lo).toNat<=sizeLine /\ ∀l,H l=none->Q (.ref l) (upd H l (.lst 21#0))
theorem HR.rng{μ:List Addr}{S:Sto}{p:Addr}{i j:Int}(h:HR K μ S H)(hp:H p=none):HR K μ S (upd H p (.rng i j)):=by
 have kp:bp H (upd H p (.rng i j)):=bp.new hp;refine⟨h.len,h.inj,λm c b q1 q2=>(h.cell m c b q1 q2).mono kp 2#4 (λhc=>?_) λo u hf=>?_,h.ext.upd kp 2#4 λo1 q=>by rw[hp]at q;cases q⟩
 .obtain⟨o,e,_⟩:=(h.cell m _ b q1 q2).has hc
  exact bg (bh e hp)
 .rw[bg (bh hf hp)];exact hf
theorem Dr{S1:Sto}{i j:Int}{r:Addr}(Z':HR K μ S1 H)(ho:okR i/\okR j)(hz:(bj i (j-i).toNat).length<=big)(k:Aft K μ H (.ref 4#4) (S1++[.lst (bj i (j-i).toNat)]) Q)(Yp:H r=none):rLR [.ref r] (upd H r (.rng i j)) Q:=by
 refine⟨r,i,j,rfl,cx,⟨ho.1.1,ho.1.2,ho.2.1,ho.2.2⟩,?_,λl hl=>?_⟩
 .unfold bj big at hz;rw[ay,br]at hz;rw[sizeLine_eq];exact hz
 .exact iz (k.mono 2#4 (bp.new Yp)) (Z'.rng Yp) (DE _ _) hl
theorem HK{a:MA}(h:tM K (fZ (iR1 a)) σ H Q):tCB rLR (wt (Jl 8#4) B5) σ H Q:=by
 obtain⟨μ,S,G,u,S',hr,er,e,k⟩:=h;obtain⟨src,S1,e1,e⟩:=a6 e;obtain⟨xs,S2,e2,e1⟩:=a6 e1;refine 28#2
 split at e1
 .rename_i j
  split at e1
  .rename_i hj
   cases e1;simp only at e
   split at e
   .rename_i hz
    cases e;obtain⟨v,r,rfl,rx,rn⟩:=rs.inv;rw[rn.nil_inv,dA rx];refine⟨j,rfl,hj.1,hj.2,λr Yp=>?_⟩;have ez:(j-0).toNat=j.toNat:=by simp
    exact Dr (i:=0) Z' ⟨16#6,hj⟩ (by rw[ez];exact hz) (by rw[ez];exact k.mono p1 k1) Yp
   .cases e
  .cases e1
 .cases e1
theorem HU{a:MA}(h:tM K (fZ (iR2 a)) σ H Q):tCB rLR (wt (MB 8#4) B5) σ H Q:=by
 obtain⟨μ,S,G,u,S',hr,er,e,k⟩:=h;obtain⟨src,S1,e1,e⟩:=a6 e;obtain⟨xs,S2,e2,e1⟩:=a6 e1;refine 28#2
 split at e1
 .rename_i i j
  split at e1
  .rename_i hj
   cases e1;simp only at e
   split at e
   .rename_i hz
    cases e;obtain⟨v,r,rfl,rx,rs⟩:=rs.inv;obtain⟨w,r,rfl,ry,rn⟩:=rs.inv;rw[rn.nil_inv,dA rx,dA ry];exact⟨i,j,rfl,⟨hj.1.1,hj.1.2,hj.2.1,hj.2.2⟩,λr Yp=>Dr Z' hj hz 12#1 Yp⟩
   .cases e
  .cases e1
 .cases e1
end
def qz:List String := ["NoneType","bool","int","str","list","tuple","dict"]
def mj:List String := ["bool","int","str","list","tuple","dict"]
variable{T:String}
theorem Og(K:ao){t:String}(ht:t∈qz)(hT:T∈mj):cN K (.type t) (.type T)=some (Kd t T):=by
 simp only[qz,mj,a7,oq,or_false]at ht hT;rcases ht with rfl|rfl|rfl|rfl|rfl|rfl|rfl<;>rcases hT with rfl|rfl|rfl|rfl|rfl|rfl<;>first|rfl|kernel_rfl
theorem Ik :gZ X (.builtin "isinstance") (fun xs H Q=>∃ x t T,xs=[x,.ty T]/\pD X.K H x (.type t)/\t∈qz/\T∈mj/\Q (.bl (Kd t T)) H):=by
 intro pins s σ H xs us Q I rs h;obtain⟨x,t,T,rfl,ty,ht,hT,q⟩:=h;cases rs with
 | cons r1 rr=>
   cases rr with
   | cons r2 rr=>
     cases rr;cases (show _=Bi T from r2);exact EL I r1 ty (Og X.K ht hT) λtk=>⟨.bl _,H,I.tok _,rfl,q⟩
variable{S:Sto}{x:U}
theorem SF{t:String}(hr:HR K μ S H)(r:RU H μ x v)(e:tyU S x=some t):pD K H v (.type t)/\t∈qz:=by
 unfold tyU at e
 split at e
 .cases e;rw[show v=.non by simpa only [RU]using r];exact⟨.non,by decide⟩
 .cases e;rw[jB r];exact⟨.bl _,by decide⟩
 .cases e;rw[dA r];exact⟨.int _,by decide⟩
 .cases e;rw[show v=.str _ by simpa only [RU]using r];exact⟨.str _,by decide⟩
 .cases e;obtain⟨a,vs,rfl,ha,_⟩:=iF r;exact⟨.tup ha,by decide⟩
 .split at e
  .rename_i q
   cases e;obtain⟨a,rfl,ha⟩:=fe r;obtain⟨vs,e1,_⟩:=hr.cell _ _ a q ha;exact⟨.lst e1,by decide⟩
  .rename_i q
   cases e;obtain⟨a,rfl,ha⟩:=fe r;obtain⟨vs,e1,_⟩:=hr.cell _ _ a q ha;exact⟨.dK e1,by decide⟩
  .cases e
 .cases e
theorem TN{H:Hp}{Q:VK}{a:ME}{T:String}(hT:T∈mj)(h:tM K (m1 (gv T) a) σ H Q):
  tCB (λxs H Q=>∃x t T,xs=[x,.ty T]/\pD K H x (.type t)/\t∈qz/\T∈mj/\Q (.bl (Kd t T)) H) (wt (tM K a) (wt (tC (.ty T)) B5)) σ H Q:=by
 obtain⟨μ,S,G,u,S',hr,er,e,k⟩:=h;obtain⟨x,S1,e1,e⟩:=a6 e;refine 11#2;unfold gv at e;cases q:tyU S1 x with
 |none=>rw[q]at e;cases e
 | some t=>
   rw[q]at e;cases e;obtain⟨ty,ht⟩:=SF Z' rx q;exact⟨vx,t,T,rfl,ty,ht,hT,k Y0 _ H1 p1 k1 Z' jC⟩
def G2(S:Sto)(x:U)(us:List U):Option Nat:=(dG (toD S 39) us).bind λds=>(toD S 40 x).bind λd=>ds.findIdx? λy=>lr y d
def jM:List U->List U->Sto->Res U:=λus xs S=>match xs with
 |[x]=>(G2 S x us).map λk=>(.int k,S)
 |_=>none
def Qy(K:ao)(to:TE)(t:TA):TE:=λσ H Q=>to σ H λx H1=>(∃p ys,x=.ref p/\H1 p=some (.tup ys))/\t σ H1 λxs H2=>∃p ys v ds d j,x=.ref p/\xs=[v]/\H2 p=some (.tup ys) /\
 mG K H2 ys ds/\fb ds=true/\kh ds<=40/\tm K H2 v d/\ds.findIdx? (λy=>lr y d)=some j/\Q (.int j) H2
theorem Ja{o e:Expr}{es:List Expr}{to:TE}{t:TA}{apos cpos:Pos}(hu:X.A.units+64<cLine)(ho:PE X o to)(ha:PA X 2#5 t)
  (ZD:autoParam (attributeBase o "index" X.env (eval o X.env)=eval o X.env) 2#0)
  (YU:autoParam (((backTo cpos (starEach 2#5 X.env)).all (λx => !x.1)&&(backToKw cpos (keywordEach [] X.env)).all (λx=>x.1.isSome)
   && decide ((e::es).length+([]:List Keyword).length+(if ([]:List Keyword).isEmpty then 0 else 1)<30))=true) au1._auto_1)
  (ZE:autoParam ((apos.endLine==cpos.line)=true) 2#0) (hs:autoParam 11#1 2#0) (YR:autoParam ((backTo cpos 13#1).any (·.1)=false) 2#0):
  PE X (.Call (.Attribute o "index" apos) 2#5 [] cpos) (Qy X.K to t):=by
 intro pins s σ H Q I h;refine wpAny_Call_method_late ZD YU ZE rfl (thn (ho pins s σ H _ I h) λv s1 ⟨x,H1,I1,r1,⟨p,ys,hx,hp⟩,q1⟩=>?_);subst hx;cases (show v=bw p from r1);obtain⟨_,ZZ,rv,⟨o1,e1,c1,n1,d1⟩,o2,e2,c2⟩:=I1.hok p _ hp;refine⟨"tuple",_,PySem.F.plainAttrs_tuple,Bo,PySem.F.type_tuple_index,⟨o1,e1,c1⟩,fun a ea=>by cases ea;exact⟨o2,e2,c2⟩,?_⟩;have hA:=ha cpos pins s1 σ H1 _ I1 q1;rw[hs]at hA ⊢;refine oH (by show(false||(backTo cpos 13#1).any (·.1))=false;rw[YR]<;>rfl) (kf ?_);refine thn hA λus s2 ⟨vs,H2,I2,r2,q2⟩=>?_;obtain⟨p',ys',v',ds,d,j,hx,hxs,ZK,rd,hl,hdp,hd,hj,q⟩:=q2;cases hx;subst hxs;cases r2 with
 | cons ra rr=>
   cases rr;obtain⟨_,ZA,rv2,⟨⟨cls,dd,data,sl⟩,e3,c3,n3,d3⟩,_⟩:=I2.hok p _ ZK;simp only at c3 d3;subst c3 d3;obtain⟨as,rds⟩:=rd.reads I2 rv2;obtain⟨bs,rdv⟩:=hd.1.reads I2 ra;have hlen:ZA.length=ds.length:=SeqAt.ReadsAll.length _ _ _ rds;have Va:j<ds.length:=by
    obtain⟨h1,_⟩:=eY.mp hj;exact h1
   have hmap:=SeqAt.readsAll_map ds _ _ hl rds;have VZ:∀(m:Nat) (h1:m<ZA.length) (h2:m<ds.length),SeqAt.readOf s2.heap ZA[m]=ds[m]:=λm h1 h2=>by
    have:=congrArg (λl=>l[m]?) hmap;simp[h1,h2]at this;exact this
   have heq:=SeqAt.items_eqAt (A:=X.A) (vs:=ZA.toArray) (by simpa using rds) rdv hl hd.2.1 (by have:=lh (kh ds) d.depth;omega);obtain⟨h1,h2,h3⟩:=eY.mp hj;refine call_meets Bo ⟨_,e3,rfl⟩ PySem.F.entry_tuple_index (PySem.F.args_tuple_index_2 _ _)
    (xg p ZA.toArray n3 dd sl _ (λy=>lr (SeqAt.readOf s2.heap y) d) j (by rw[bV];omega) ?_ ?_) ⟨e3,heq,?_⟩
   .have:=VZ j 0#2 Va
    simp only[JL,this];exact h2
   .intro m hm Vx
    rw[bV]at hm;have:=VZ m hm (by exact dc 0#7 0#7);simp only[JL,this];simpa using h3 m Vx
   .exact⟨.int j,H2,I2.tok _,⟨_,rfl⟩,q⟩
theorem LY{o:ME}{a:MA}(h:tM K (mMT jM o a) σ H Q):Qy K (tM K o) 8#4 σ H Q:=by
 obtain⟨μ,S,G,u,S',hr,er,e,k⟩:=h;obtain⟨x,S1,e1,e⟩:=a6 e;refine 11#2;cases x with
 | tup us=>
   obtain⟨xs,S2,e2,e⟩:=a6 e;obtain⟨p,vs,rfl,hp,rs⟩:=iF rx;refine⟨⟨p,vs,rfl,hp⟩,Y0,S1,G,xs,S2,Z',er.mono k1 p1,e2,λY5 ws H2 p2 k2 ZX rws=>?_⟩;unfold jM at e
   split at e
   .rename_i x
    obtain⟨v,r,rfl,rx',rn⟩:=rws.inv;rw[rn.nil_inv];cases q:G2 S2 x us with
    |none=>rw[q]at e;cases e
    | some j=>
      rw[q]at e;cases e;unfold G2 at q;cases q1:dG (toD S' 39) us with
      |none=>rw[q1]at q;cases q
      | some ds=>
        rw[q1]at q;simp only[ah]at q;cases q2:toD S' 40 x with
        |none=>rw[q2]at q;cases q
        | some d=>
          rw[q2]at q;simp only[ah]at q;obtain⟨l1,l2⟩:=uo (qL (λx y z=>uj S' 39 x y z) q1);exact⟨p,vs,v,ds,d,j,rfl,rfl,k2 p vs hp,uu ZX (ux ZX 39) q1 (RUs.mono k2 p2 _ _ rs),l1,by exact aB 0#7 0#1,yo ZX rx' q2,q,k Y5 _ H2 10#1 10#9 ZX eQ⟩
   .cases e
 |_=>cases e
variable{o:Obj}
theorem KP{h h':Heap}(hk:∀b x,b ∉ [14#8]->(h.push o).get? b=some x->h'.get? b=some x):∀b x,h.get? b=some x->h'.get? b=some x:=
 λb x e=>hk b x (λhm=>by rw[be.mp hm]at e;exact bP _ (aG e)) (ar _ e)
theorem Cy(bs:List Bool):((aA bs.length).all λi=>(bs[i]?).getD true)=bs.all id:=by
 rw[Bool.eq_iff_iff,bH,bH];constructor
 .intro h b hb
  obtain⟨i,hi,rfl⟩:=List.getElem_of_mem hb;have:=h i (cq.mpr hi);simpa [aI hi]using this
 .intro h i hi
  have Wz:=cq.mp hi;simp only[aI Wz,Option.getD_some];exact h _ (bW Wz)
theorem Ez{bs:List Bool}:∀{us:List Value}{i:Nat}{v:Value},cz (bs.map V.bl) us->us[i]?=some v->∃b,bs[i]?=some b/\v=.bool b:=λ{us i v} r h=>by
 have hl:=r.length;rw[ay]at hl;have hi:i<bs.length:=by rw[hl];exact(af.mp h).1
 obtain⟨u,hu,ru⟩:=r.get (i:=i) (x:= .bl bs[i]) (by simp[hi]);rw[h]at hu;cases hu;exact⟨bs[i],by simp[hi],ru⟩
section
variable {X:Cx}
theorem FE(hc:X.calm=true):gZ X (.builtin "all") (fun xs H Q=>∃ (p:Addr) (bs:List Bool),xs=[.ref p]/\SqL X.K H p (bs.map V.bl)/\Q (.bl (bs.all id)) H):=by
 intro pins s σ H xs us Q I rs h;obtain⟨p,bs,rfl,hS,q⟩:=h;cases rs with
 | cons r1 rr=>
   cases rr;cases (show _=bw p from r1);obtain⟨ZZ,rv,pl,_⟩:=I.list hS;have hl:=pl.isList;have ZV:p<1#2:=by obtain⟨_,e,_⟩:=hl;exact aG e
   refine call_all_walk (wpAny_pyIter_list hl ?_)
   refine⟨1#2,[1#2,p],[1#2],15#9,_,_,λi=>(bs[i]?).getD true,rfl,Walks.list (A:=X.A.in1) 11#6 _ p (aS ZV) ZZ.toArray,
    ⟨⟨_,aH _ rfl,rfl,rfl⟩,hl.push _⟩,λi v s' Q' E' hP hQ =>?_,λh' tk hk =>?_⟩
   .obtain⟨b,e,rfl⟩:=Ez rv (by simpa using hP)
    simp only[e,Option.getD_some]at hQ;exact d5 hQ
   .have e:((aA 15#9).all λi=>(bs[i]?).getD true)=bs.all id:=by
     rw[bV,<-rv.length,ay];exact Cy bs
    rw[e];exact⟨.bl _,H,I.kept (KP hk),rfl,q⟩
end
def j4:U->Option Bool
 |.bl b=>some b
 |_=>none
def sx:MF:=λus S=>match us with
 |[.ref n]=>(getL S n).bind λxs=>(dG j4 xs).map λbs=>(.bl (bs.all id),S)
 |_=>none
theorem z9{H:Hp}{μ:List Addr}:∀{us:List U}{vs:List V}{bs:List Bool},RUs H μ us vs->dG j4 us=some bs->vs=bs.map V.bl
 |[],vs,bs,r,e=>by cases e;rw[r.nil_inv];rfl
 | u::us,vs,bs,r,e=>by
   obtain⟨v,r',rfl,a,b⟩:=r.inv;unfold dG at e;cases u with
   | bl x=>
     simp only[j4,ah]at e;cases q:dG j4 us with
     |none=>rw[q]at e;cases e
     | some cs=>
       rw[q]at e;cases e;rw[jB a,z9 b q];rfl
   |_=>cases e
section
variable {K:KX}
theorem Ol:oU K (λxs H Q=>∃(p:Addr) (bs:List Bool),xs=[.ref p]/\SqL K H p (bs.map V.bl)/\Q (.bl (bs.all id)) H) sx:=by
 intro μ S H us vs u S' Q hr rs e a;unfold sx at e
 split at e
 .rename_i n
  obtain⟨v,r,rfl,rx,rn⟩:=rs.inv;rw[rn.nil_inv];cases q:getL S n with
  |none=>rw[q]at e;cases e
  | some xs=>
    rw[q]at e;simp only[ah]at e;cases q2:dG j4 xs with
    |none=>rw[q2]at e;cases e
    | some bs=>
      rw[q2]at e;cases e;obtain⟨p,rfl,hp⟩:=fe rx;obtain⟨p',ys,ZK,hs,r'⟩:=hr.sq q;rw[hp]at ZK;cases ZK;rw[z9 r' q2]at hs;exact⟨p,bs,rfl,hs,a.now hr jC⟩
 .cases e
end
def ff:U->Option V
 |.non=>some .non
 |.bl b=>some (.bl b)
 |.int i=>some 3#0
 |.str x=>some (.str x)
 |_=>none
def oIn:F2:=λx y S=>match eW S y with
 |some kvs=>(keyOf x).map λk=>(.bl (j8 kvs k).isSome,S)
 |none=>(ff x).bind λvx=>(dZ S y).bind λys=>(dG ff ys).map λvs=>(.bl (inV vx vs),S)
def eJ:F2:=λx y S=>match eW S y with
 |some kvs=>(keyOf x).map λk=>(.bl (!(j8 kvs k).isSome),S)
 |none=>(ff x).bind λvx=>(dZ S y).bind λys=>(dG ff ys).map λvs=>(.bl (!inV vx vs),S)
theorem yY{w:V}(e:ff u=some v)(r:RU H μ u w):w=v/\oO v=true:=by
 cases u<;>simp only[ff,fO,reduceCtorEq]at e<;>subst e<;>exact⟨by simpa only [RU]using r,rfl⟩
theorem uL{H:Hp}{μ:List Addr}:∀{us:List U}{vs ws:List V},dG ff us=some vs->RUs H μ us ws->ws=vs/\vs.all oO=true
 |[],vs,ws,e,r=>by cases e;rw[r.nil_inv];exact⟨rfl,rfl⟩
 | u::us,vs,ws,e,r=>by
   obtain⟨v,r',rfl,a,b⟩:=r.inv;unfold dG at e;cases q1:ff u with
   |none=>rw[q1]at e;cases e
   | some x=>
     cases q2:dG ff us with
     |none=>rw[q1,q2]at e;cases e
     | some xs=>
       rw[q1,q2]at e;cases e;obtain⟨e1,f1⟩:=yY q1 a;obtain⟨e2,f2⟩:=uL q2 b;exact⟨by rw[e1,e2],by rw[bK,f1,f2];rfl⟩
section
variable {K:KX}
def KL(K:ao)(neg:Bool):R2:=λy x H Q=>rIn K neg y x H Q \/ ∃a o,x=.ref a/\xp H a y o/\Q (.bl (if neg then !o.isSome else o.isSome)) H
theorem OS(hu:X.A.units+1<cLine):OpR X (compareOp .In) (KL X.K false):=by
 intro pins s σ H x y v u Q I rx ry h;rcases h with h|⟨a,o,rfl,g,q⟩
 .exact EJ pins s σ H x y v u Q I rx ry h
 .obtain rfl:u=bw a:=ry
  exact UG hu I g rx λs3 I3=>⟨.bl o.isSome,H,I3,rfl,q⟩
theorem Ey(hu:X.A.units+1<cLine):OpR X (compareOp .NotIn) (KL X.K true):=by
 intro pins s σ H x y v u Q I rx ry h;rcases h with h|⟨a,o,rfl,g,q⟩
 .exact zc pins s σ H x y v u Q I rx ry h
 .obtain rfl:u=bw a:=ry
  exact Mg hu I g rx λs3 I3=>⟨.bl (!o.isSome),H,I3,rfl,q⟩
theorem TL:OpU K (KL K false) oIn:=by
 intro μ S H x y vx vy u S' Q hr rx ry e a;unfold oIn at e
 split at e
 .rename_i kvs qd
  cases qk:keyOf x with
  |none=>rw[qk]at e;cases e
  | some kk=>
    rw[qk]at e;cases e;obtain⟨p,vs,rfl,hp,r⟩:=hr.dic ry qd;have hl:3#2=3#7:=by have:=r.len;rwa[ay]at this
    refine .inr ⟨p,_,rfl,.inl ⟨_,kk,.inl hp,qA rx qk,rfl⟩,?_⟩;simp only[fU,if_false];rw[uO hl];exact a.now hr jC
 refine .inl ?_;cases q1:ff x with
 |none=>rw[q1]at e;cases e
 | some fx=>
   cases q2:dZ S y with
   |none=>rw[q1,q2]at e;cases e
   | some ys=>
     cases q3:dG ff ys with
     |none=>rw[q1,q2]at e;simp only[ah,q3]at e;cases e
     | some vs=>
       rw[q1,q2]at e;simp only[ah,q3]at e;cases e;obtain⟨rfl,f1⟩:=yY q1 rx;obtain⟨p,zs,rfl,hs,r'⟩:=hr.seq ry q2;obtain⟨rfl,f2⟩:=uL q3 r';exact⟨p,zs,rfl,hs,f1,f2,a.now hr jC⟩
theorem Jo:OpU K (KL K true) eJ:=by
 intro μ S H x y vx vy u S' Q hr rx ry e a;unfold eJ at e
 split at e
 .rename_i kvs qd
  cases qk:keyOf x with
  |none=>rw[qk]at e;cases e
  | some kk=>
    rw[qk]at e;cases e;obtain⟨p,vs,rfl,hp,r⟩:=hr.dic ry qd;have hl:3#2=3#7:=by have:=r.len;rwa[ay]at this
    refine .inr ⟨p,_,rfl,.inl ⟨_,kk,.inl hp,qA rx qk,rfl⟩,?_⟩;simp only[if_true];rw[uO hl];exact a.now hr jC
 refine .inl ?_;cases q1:ff x with
 |none=>rw[q1]at e;cases e
 | some fx=>
   cases q2:dZ S y with
   |none=>rw[q1,q2]at e;cases e
   | some ys=>
     cases q3:dG ff ys with
     |none=>rw[q1,q2]at e;simp only[ah,q3]at e;cases e
     | some vs=>
       rw[q1,q2]at e;simp only[ah,q3]at e;cases e;obtain⟨rfl,f1⟩:=yY q1 rx;obtain⟨p,zs,rfl,hs,r'⟩:=hr.seq ry q2;obtain⟨rfl,f2⟩:=uL q3 r';exact⟨p,zs,rfl,hs,f1,f2,a.now hr jC⟩
def isU(x:U):U->Option Bool
 | .non=>(match x with
   |.non=>some true
   |.bl _=>some false
   |.tup _=>some false
   |.ref _=>some false
   |.int _=>some false
   | _=>none)
 | .bl j=>(match x with
   |.bl i=>some (i==j)
   |.non=>some false
   | _=>none)
 |_=>none
def o9:F2:=λx y S=>(isU x y).map λb=>(.bl (!b),S)
def rIs(neg:Bool):R2:=λx y H Q=>(∃i j,x=.bl i/\y=.bl j/\Q (.bl (if neg then i != j else i==j)) H)\/(∃i,x=.bl i/\y=.non/\Q (.bl neg) H) \/
 (∃j,x=.non/\y=.bl j/\Q (.bl neg) H)\/(x=.non/\y=.non/\Q (.bl (!neg)) H) \/
 (∃p,x=.ref p/\y=.non/\Q (.bl neg) H)\/(∃i,x=.int i/\y=.non/\Q (.bl neg) H)
theorem EE:OpR X (compareOp .IsNot) (rIs true):=by
 intro pins s σ H x y v u Q I rx ry h;rcases h with⟨i,j,rfl,rfl,q⟩|⟨i,rfl,rfl,q⟩|⟨j,rfl,rfl,q⟩|⟨rfl,rfl,q⟩|⟨p,rfl,rfl,q⟩|⟨i,rfl,rfl,q⟩
 .cases rx;cases ry
  exact isnot_bool 15#5
 .cases rx;cases ry
  exact isnot_bool_none 15#5
 .cases rx;cases ry
  exact aJ 15#5
 .cases rx;cases ry
  exact isnot_none_none 15#5
 .cases rx;cases ry
  exact aJ 15#5
 .obtain⟨t,rfl⟩:=rx;cases ry
  exact aJ 15#5
theorem BH(h:RU H μ .non v):v=.non:=by simpa only [RU]using h
theorem Nq{neg:Bool}{y:U}{vx vy:V}{b:Bool}(rx:RU H μ x vx)(ry:RU H μ y vy)(e:isU x y=some b)(a:Q (.bl (if neg then !b else b)) H):rIs neg vx vy H Q:=by
 have hf:(if neg then !false else false)=neg:=by cases neg<;>rfl
 have ht:(if neg then !true else true) = !neg:=by cases neg<;>rfl
 cases y with
 | non=>
   have hy:=BH ry;subst hy;cases x with
   |non=>cases e;rw[ht]at a;exact .inr (.inr (.inr (.inl ⟨BH rx,rfl,a⟩)))
   |bl i=>cases e;rw[hf]at a;exact .inr (.inl ⟨_,jB rx,rfl,a⟩)
   |tup us=>cases e;rw[hf]at a;obtain⟨p,_,rfl,_⟩:=iF rx;exact .inr (.inr (.inr (.inr (.inl ⟨_,rfl,rfl,a⟩))))
   |ref n=>cases e;rw[hf]at a;obtain⟨p,rfl,_⟩:=fe rx;exact .inr (.inr (.inr (.inr (.inl ⟨_,rfl,rfl,a⟩))))
   |int i=>cases e;rw[hf]at a;exact .inr (.inr (.inr (.inr (.inr ⟨_,dA rx,rfl,a⟩))))
   |_=>cases e
 | bl j=>
   have hy:=jB ry;subst hy;cases x with
   |bl i=>cases e;exact .inl ⟨_,_,jB rx,rfl,a⟩
   |non=>cases e;rw[hf]at a;exact .inr (.inr (.inl ⟨_,BH rx,rfl,a⟩))
   |_=>cases e
 |_=>cases e
theorem Jw:OpU K (rIs true) o9:=by
 intro μ S H x y vx vy u S' Q hr rx ry e a;unfold o9 at e;cases q:isU x y with
 |none=>rw[q]at e;cases e
 |some b=>rw[q]at e;cases e;exact Nq rx ry q (a.now hr jC)
def mCh(f g:F2)(a b c:ME):ME:=λG S=>bnd (a G S) λx S1=>bnd (b G S1) λy S2=>bnd (f x y S2) λz S3=>match z with
 |.bl true=>bnd (c G S3) λw S4=>g y w S4
 |.bl false=>some (.bl false,S3)
 |_=>none
theorem Dn{r r':R2}{f g:F2}{a b c:ME}(o:OpU K r f)(o':OpU K r' g)(h:tM K (mCh f g a b c) σ H Q):BV r r' (tM K a) (tM K b) (tM K c) σ H Q:=by
 obtain⟨μ,S,G,u,S',hr,er,e,k⟩:=h;obtain⟨x,S1,e1,e⟩:=a6 e;obtain⟨y,S2,e2,e⟩:=a6 e;obtain⟨z,S3,e3,e⟩:=a6 e;refine 11#2;refine⟨Y0,S1,G,y,S2,Z',er.mono k1 p1,e2,λY5 vy H2 p2 k2 ZX ry=>?_⟩;refine o Y5 S2 H2 x y vx vy z S3 _ ZX (RU.mono k2 p2 x vx rx) ry e3 λY' vz H3 p3 k3 ZF rz=>?_
 split at e
 .refine⟨true,jB rz,?_⟩
  rw[if_pos rfl];obtain⟨w,S4,e4,e⟩:=a6 e;refine⟨Y',S3,G,w,S4,ZF,er.mono ((k1.trans k2).trans k3) ((p1.trans p2).trans p3),e4,λZ2 vw H4 p4 k4 hr4 Zx=>?_⟩;exact o' Z2 S4 H4 y w vy vw u S' Q hr4 (RU.mono (k3.trans k4) (p3.trans p4) y vy ry) Zx e (k.mono (((p1.trans p2).trans p3).trans p4) (((k1.trans k2).trans k3).trans k4))
 .cases e
  refine⟨false,jB rz,?_⟩;rw[if_neg du];exact k Y' _ H3 ((p1.trans p2).trans p3) ((k1.trans k2).trans k3) ZF jC
 .cases e
def gn:Nat->List U->Sto->Res U:=λn xs S=>match xs with
 | [.ref m]=>match S[n]?,S[m]? with
   |some (.lst us),some (.lst ws)=>if 1#1+ws.length<=big then some (.non,S.set n (.lst (us++ws))) else none
   |_,_=>none
 |_=>none
theorem Ft:MtU K DV gn:=by
 intro μ S H n p us vs u S' Q hr hp rs e a;unfold gn at e
 split at e
 .rename_i m
  split at e
  .rename_i xs ws q q2
   split at e
   .rename_i hc
    cases e;obtain⟨v,r,rfl,rx,rn⟩:=rs.inv;rw[rn.nil_inv];obtain⟨b,rfl,hb⟩:=fe rx;obtain⟨ys,e0,r0⟩:=hr.cell n _ p q hp;obtain⟨zs,e1,r1⟩:=hr.cell m _ b q2 hb;refine⟨p,b,ys,zs,rfl,rfl,e0,e1,?_,zo a hr q hp (r0.append r1) rS⟩;have:=r0.len;have:=r1.len;unfold big at hc;rw[sizeLine_eq];omega
   .cases e
  .cases e
 .cases e
end
def tD(ns:List Int):List Int:=ns.mergeSort λi j=>decide (i<=j)
def vv:U->Option Int
 |.int i=>some i
 |_=>none
def Cc(n:Nat):Prop:=n<64
instance(n:Nat):Decidable (Cc n):=cj _
def lU:_L.Key×U->Option Int
 |(.inl i,_)=>some i
 |_=>none
def tw(S:Sto)(x:U):Option (List Int):=match eW S x with
 |some kvs=>dG lU kvs
 |none=>(dZ S x).bind λxs=>dG vv xs
def dh:MF:=λus S=>match us with
 |[x]=>(tw S x).bind λns=>if Cc 11#7 then some (.ref 0#3,S++[.lst ((tD ns).map U.int)]) else none
 |_=>none
theorem j6(ns:List Int):(tD ns).Perm ns:=List.mergeSort_perm _ _
theorem vj(ns:List Int):(tD ns).Pairwise (· <= ·):=by
 have h:=List.pairwise_mergeSort (le:=λ(i j:Int)=>decide (i<=j)) (λa b c h1 h2=>by simp at *;omega) (λa b=>by simp;omega) ns;exact h.imp λh=>by simpa using h
theorem sY:∀{as bs:List Int},as.Perm bs->as.Pairwise (· <= ·)->bs.Pairwise (· <= ·)->as=bs
 |[],bs,p,_,_=>by rw[List.nil_perm.mp p]
 |a::as,[],p,_,_=>by cases List.perm_nil.mp p
 | a::as,b::bs,p,h1,h2=>by
   rw[List.pairwise_cons]at h1 h2;have e:a=b:=by
    have m1:a∈b::bs:=p.subset 0#6;have m2:b∈a::as:=p.symm.subset 0#6;rcases a7.mp m1 with e|m1
    .exact e
    .rcases a7.mp m2 with e|m2
     .exact e.symm
     .have:=h1.1 b m2;have:=h2.1 a m1;omega
   subst e;rw[sY (List.perm_cons _ |>.mp p) h1.2 h2.2]
variable{ns:List Int}
theorem wj{ms:List Int}(p:ms.Perm ns)(h:ms.Pairwise (· <= ·)):ms=tD ns:=sY (p.trans (j6 ns).symm) h (vj ns)
theorem Eh{H:Hp}{μ:List Addr}:∀{us:List U}{vs:List V}{ns:List Int},RUs H μ us vs->dG vv us=some ns->vs=ns.map V.int
 |[],vs,ns,r,e=>by cases e;rw[r.nil_inv];rfl
 | u::us,vs,ns,r,e=>by
   obtain⟨v,r',rfl,a,b⟩:=r.inv;unfold dG at e;cases u with
   | int x=>
     simp only[vv,ah]at e;cases q:dG vv us with
     |none=>rw[q]at e;cases e
     | some cs=>
       rw[q]at e;cases e;rw[dA a,Eh b q];rfl
   |_=>cases e
theorem intsAre_of:∀{ns:List Int}{us:List Value},cz 10#7 us->IntsAre us ns
 |[],us,r=>by cases r;exact .nil
 | n::ns,us,r=>by
   cases r with
   | cons a b=>
     obtain⟨t,rfl⟩:=a;exact .cons n t (intsAre_of b)
theorem sM:∀{ns:List Int}{us:List Value},IntsAre us ns->cz 10#7 us
 |_,_,.nil=>.nil
 |_,_,.cons n t r=>.cons ⟨t,rfl⟩ (sM r)
theorem kB:∀{ns:List Int}{us:List Value},IntsAre us ns->1#1=11#7
 |_,_,.nil=>rfl
 |_,_,.cons n t r=>by simp[kB r]
variable{E:Value->Shared->Prop}{w:World}{prog:Program}{items:Array Value}
theorem CG{Q:List Value->Shared->Prop}(it:Addr) (hT:T="list"\/T="tuple")
  (ho:s.heap.get? it=some o) (hc:o.cls=.type T) (hd:o.data=.seq items n) (hsz:5#1<=sizeLine)
  (hQ:∀h',22#3->1#2<=16#3->Q items.toList { s with heap:=h' }):
  aT 4#9 A (collect (.ref it)) Q E s:=by
 unfold collect;refine ax (JD (fA sN ?_));rw[ee sP _];show aT _ A.in1 (newList [] >>= fun l=>again (.builtin "list.__iadd__" ⟨[l,.ref it],[]⟩)) _ _ s;refine ax 30#4;rw[ee hZ _];have hS:(s.heap.push { cls := .type "list",data := .seq ([]:List Value).toArray }).get? 1#2=some { cls := .type "list",data := .seq #[] 0 }:=aH _ rfl;have W5:=jR (eU (· ++ items)) hS rfl
 refine cf (wpAny_extend_seq (hsz:=hsz) (A:=A) (R:=fun r s'=>r = .ok (.ret (.ref 1#2))/\s'={ s with heap:=(s.heap.push { cls := .type "list",data := .seq ([]:List Value).toArray }).update s.heap.objs.size (eU (· ++ items)) })
  (s:={ s with heap:=s.heap.push { cls := .type "list",data := .seq ([]:List Value).toArray } }) _ it _ 0 hT hS (ar _ ho) hc hd ⟨rfl,rfl⟩) (fun fin s' h => ?_) (fun e s' h=>absurd h.1 (by simp))
 have Yo:aT 4#9 A (match bw 1#2 with
   | bw a=>do
     match (<- load a).data with
      |JK xs _=>pure xs.toList
      |_=>unsupported "internal:collect"
   | _=>unsupported "internal:collect") Q E { s with heap:=(s.heap.push { cls := .type "list",data := .seq ([]:List Value).toArray }).update s.heap.objs.size (eU (· ++ items)) }:=by
  show aT _ A (load 1#2 >>= _) _ _ _;refine ax (Jz W5 (aJ ?_));show Q ((#[]:Array Value)++items).toList _;rw[show((#[]:Array Value)++items).toList=items.toList by simp];exact hQ _ (λb o' hb=>(dS _ _ (cJ (aG hb))).trans (ar _ hb)) (by rw[Heap.size_update,size_push'];exact cX _)
 cases fin with
 | done f=>
   obtain⟨e,rfl⟩:=h;cases e;exact Yo
 |again c'=>exact⟨h.1,iK h.2 λr s'' hr=>by obtain⟨rfl,rfl⟩:=hr;exact Yo⟩
variable{Q:Value->Shared->Prop}
theorem vC{l:Addr}{vs:List Value}(hT:T="list"\/T="tuple")
  (ho:s.heap.get? l=some o) (hc:o.cls=.type T) (hd:o.data=.seq vs.toArray n) (hI:IntsAre vs ns) (Xk:3#7<64)
  (h: ∀(out:Array Value) (Zn:List Int) (a:Addr) (e:Nat) (h':Heap),IntsAre out.toList Zn->Zn.Perm ns->Zn.Pairwise (· <= ·)->1#2<=a->22#3 ->
   h'.get? a=some (seqObj "list" out e)->Q (.ref a) { s with heap:=h' }) :
  aT 4#9 A (call (.builtin "sorted") [.ref l]) Q E s:=by
 refine Bu kind_sorted plain_sorted entry_sorted (args_sorted1 _) ?_;unfold Builtin.«sorted»;refine ax (m:=checkCount "sorted" 1 1 _) (aJ ?_);refine ax (CG l hT ho hc hd (by rw[bV,sizeLine_eq];omega) λh1 hk hle=>?_);refine ax (wpAny_newList ?_);have Yj:(h1.push (seqObj "list" vs.toArray 0)).get? h1.objs.size=some (seqObj "list" vs.toArray 0):=aH _ rfl;show aT _ _ _ _ _ { s with heap:=h1.push (seqObj "list" vs.toArray 0) };refine ax (fL (lb slot_list_sort ⟨_,Yj,rfl⟩ entry_list_sort (list_sort_tree Yj hI Xk λout Zn a1 a2 a3=>⟨_,rfl,?_⟩) (args_list_sort _)));obtain⟨e,he⟩:=sortedHeap_at (out:=out) Yj
 exact aJ ⟨_,rfl,h out Zn _ e _ a1 a2 a3 hle (λb o' hb=>by
  have YF:=hk b o' hb;have ZV:=aG YF;rw[sortedHeap_old (aS ZV) (by rw[size_push'];exact dW ZV),Heap.get?_push_ne _ _ _ (aS ZV)]
  exact YF) he⟩
variable{vs:List (Key×Value)}{d:Addr}
theorem zg{Q:List Value->Shared->Prop}{ep:Nat}(hh:A.handled=none)(hS:(d==sysModules)=false)(hm:s.heap.DictAt (d8 prog w) d vs ep)(hn:3#7<=sizeLine)
  (hQ:∀s' acc,(∀b o,s.heap.get? b=some o->s'.heap.get? b=some o)->s'.gens=s.gens->s'.drawn=s.drawn->s'.os=s.os->ItemsOf (λi v=>∃k x,vs[i]?=some (k,x)/\(d8 prog w).is k v=true) acc 3#7->1#2<=s'.heap.objs.size->Q acc.toList s'):aT 4#9 A (collect (.ref d)) Q E s:=by
 have XM:d<1#2:=hm.lt_size
 let lo:Obj:={ cls := .type "list",data := .seq ([]:List Value).toArray }
 let io:Obj:={ cls := .type "dict_keyiterator",data := .fields #[.ref d,.int 0 0,.int vs.length 0,.int ep 0] }
 have YX:(s.heap.push lo).DictAt (d8 prog w) d vs ep:=hm.push lo;have hT1:Shared.TypeIs { s with heap:=s.heap.push lo } (.ref d) "dict":=YX.dictOf.typeIs;unfold collect;refine ax (JD (fA sN ?_));rw[ee sP _];show aT _ A.in1 (newList [] >>= fun l=>again (.builtin "list.__iadd__" ⟨[l,.ref d],[]⟩)) _ _ s;refine ax 30#4;rw[ee hZ _];show aT _ A.in1 (t8 (.ref 1#2) (.ref d) (.ref 1#2)) _ _ _;unfold t8;refine ax (ke hT1 ?_);have ZI:wL (.ref 1#2) (.ref d)=false:=by simp[wL];exact cJ XM
 rw[if_neg (by rw[ZI];decide)];refine ax (wpAny_pyIter_dict hS YX ?_);refine ax (fL ?_);unfold Builtin.List.listLengthHint;have WD:Shared.TypeIs { s with heap:=(s.heap.push lo).push io } (.ref d) "dict":=(YX.push io).dictOf.typeIs;refine ax (wpAny_specialOf WD PySem.F.slot_dict_len.lookup ?_);generalize hid:("dict.__len__":String)=id0
 wp_delta
 rw [show splitId id0=some ("dict","__len__") from by subst hid;decide +kernel];subst hid;refine ax (wpAny_isInstance (b:=true) WD (by rw[isSubtype_type];kernel_rfl) ?_);simp only[Bool.not_true,fU,if_false];rw[if_pos 1#4];refine ax (ke WD (aJ ?_));rw[if_pos 1#4];refine ax (wpAny_rule (ax ?_));have hne2:1#2≠(s.heap.push lo).objs.size:=by rw[bS];exact aS (bx _)
 have hL1:((s.heap.push lo).push io).get? 1#2=some lo:=ar _ (aH _ rfl);show aT _ A.in1 (updateSeq s.heap.objs.size (·.push .none) >>= λ_=>updateSeq s.heap.objs.size (·.pop)) _ _ _;refine ax (wpAny_updateSeq hL1 rfl ?_);have hL2:=jR (eU (·.push lL)) hL1 rfl;refine wpAny_updateSeq hL2 rfl ?_;have hL3:=jR (eU (·.pop)) hL2 rfl;have oth:∀b o,b≠1#2->((s.heap.push lo).push io).get? b=some o->((((s.heap.push lo).push io).update s.heap.objs.size (eU (·.push lL))).update s.heap.objs.size (eU (·.pop))).get? b=some o:=
  λb o hb e=>(dS _ _ (dO hb)).trans ((dS _ _ (dO hb)).trans e)
 have hI:(s.heap.push lo).objs.size=1#2+1:=bS ..;have hdI:d≠(s.heap.push lo).objs.size:=by rw[hI];exact aS (dW XM)
 have W:=(Walks.dictKeys (prog:=prog) (w:=w) (A:=A.in1) (knd:=d8 prog w) hh (s.heap.push lo).objs.size d hdI vs ep).toS;have hSf:1#2 ∉ [(s.heap.push lo).objs.size,d]:=by
  rw[hI];intro z;rcases a7.mp z with z|z
  .omega
  .rw[be]at z;exact absurd z (cJ XM)
 have it0:((s.heap.push lo).push io).IsKeyIter (s.heap.push lo).objs.size d 0 vs.length ep:=⟨io,aH _ rfl,rfl,rfl⟩;refine aJ ⟨plainId_quiet F.plain_extend_loop _,codeAny_extend_loopS W hn s.heap.objs.size hSf _ vs.length 0 _ _ _ rfl (dB _) ?_ hL3 (ItemsOf.nil _) λs' YT c' Vr Xd ZN=>?_⟩
 .exact⟨it0.at λo e=>oth _ o (dO hne2) e,(YX.push io).at' λo e=>oth _ o (aS XM) e⟩
 .show aT _ A (load 1#2 >>= _) _ _ s'
  refine ax (Jz Xd (aJ (hQ s' YT (λb o e=>?_) Vr.gens Vr.drawn Vr.os ZN (aV (aG Xd)))));have hb:b<1#2:=aG e;refine Vr.heap b o ?_ (oth b o (aS hb) (ar _ (ar _ e)));rw[hI];intro z;rcases a7.mp z with z |z
  .exact absurd z (aS hb)
  .rw[be]at z;exact absurd z (aS (dW hb))
theorem yb:∀{l:List Value}{ns:List Int},2#8=11#7->(∀(j:Nat) (v:Value),l[j]?=some v->∃i t,ns[j]?=some i/\v=.int i t)->IntsAre l ns
 |[],[],_,_=>.nil
 |[],_::_,h,_=>by simp at h
 |_::_,[],h,_=>by simp at h
 | v::l,n::ns,h,k=>by
   obtain⟨i,t,e,rfl⟩:=k 0 v rfl;simp at e;subst e;exact .cons n t (yb 19#1 λj w hj=>by simpa using k (j+1) w (by simpa using hj))
theorem Bg(hh:A.handled=none)(hS:(d==sysModules)=false)(hm:s.heap.DictOf (d8 prog w) d vs)(hk:vs.map (·.1)=ns.map fI)(Xk:11#7<64)
  (h: ∀(out:Array Value) (Zn:List Int) (a:Addr) (e:Nat) (h':Heap) (tk:Nat),IntsAre out.toList Zn->Zn.Perm ns->Zn.Pairwise (· <= ·)->1#2<=a->22#3 ->
   h'.get? a=some (seqObj "list" out e)->Q (.ref a) { s with heap:=h',toks:=tk }) :
  aT 4#9 A (call (.builtin "sorted") [.ref d]) Q E s:=by
 obtain⟨ep,hm⟩:=hm.dictAt;have hlen:vs.length=ns.length:=by have:=congrArg zG hk;simpa using this
 refine Bu kind_sorted plain_sorted entry_sorted (args_sorted1 _) ?_;unfold Builtin.«sorted»;refine ax (m:=checkCount "sorted" 1 1 _) (aJ (ax (zg hh hS hm (by rw [hlen,sizeLine_eq];omega) fun s1 acc hk1 hg hdr YQ ZN hle=>?_)));have hI:IntsAre acc.toList ns:=yb (by rw[<-hlen,<-ZN.1];simp) λj v hj=>by
  obtain⟨k,x,e,ik⟩:=ZN.2 j v (by simpa using hj);have e2:(vs.map (·.1))[j]?=some k:=by rw[bE,e];rfl
  rw[hk,bE]at e2;cases q:ns[j]? with
  |none=>rw[q]at e2;cases e2
  | some i=>
    rw[q]at e2;have e3:fI i=k:=dJ e2;subst e3;rcases ej (show wg (fI i) v=true from ik) with⟨i',t,e4,e5⟩|⟨y,t,e4,_⟩
    .cases e4;exact⟨_,t,rfl,e5⟩
    .cases e4
 have U3:acc.toList.length<64:=by rw[kB hI];exact Xk
 refine ax (wpAny_newList ?_);have Yj:(s1.heap.push (seqObj "list" acc 0)).get? 21#7=some (seqObj "list" acc.toList.toArray 0):=aH _ rfl;show aT _ _ _ _ _ { s1 with heap:=s1.heap.push (seqObj "list" acc 0) };refine ax (fL (lb slot_list_sort ⟨_,Yj,rfl⟩ entry_list_sort (list_sort_tree Yj hI U3 λout Zn a1 a2 a3=>⟨_,rfl,?_⟩) (args_list_sort _)));obtain⟨e,he⟩:=sortedHeap_at (out:=out) Yj
 have hq:=h out Zn _ e _ s1.toks a1 a2 a3 hle (λb o' hb=>by
  have YF:=hk1 b o' hb;have ZV:=aG YF;rw[sortedHeap_old (aS ZV) (by rw[size_push'];exact dW ZV),Heap.get?_push_ne _ _ _ (aS ZV)]
  exact YF) he
 rw[<-hg,<-hdr,<-YQ]at hq;exact aJ ⟨_,rfl,hq⟩
section
variable {X:Cx}
def DZ(K:ao):List V->Hp->VK->Prop:=λxs H Q=>∃(p:Addr) (ns:List Int),xs=[.ref p]/\((SqL K H p 10#7\/SqT K H p 10#7) \/ ∃kvs,H p=some (.dK kvs)/\kvs.map (·.1)=ns.map fI)/\11#7<64 /\ ∀l,H l=none->Q (.ref l) (upd H l (.lst ((tD ns).map V.int)))
theorem Mb{kvs:List (Key×V)}(h:KV kvs vs):vs.map (·.1)=kvs.map (·.1):=by
 induction h with
 |nil=>rfl
 |cons a _ ih=>rw[bz,bz,ih,a.1]
theorem Aj(hc:X.calm=true):gZ X (.builtin "sorted") (DZ X.K):=by
 intro pins s σ H xs us Q I rs h;obtain⟨p,ns,rfl,hS,Xk,q⟩:=h;cases rs with
 | cons r1 rr=>
   cases rr;cases (show _=bw p from r1);have fin:∀(out:Array Value) (Zn:List Int) (a:Addr) (e:Nat) (h':Heap) (tk:Nat),IntsAre out.toList Zn->Zn.Perm ns->Zn.Pairwise (· <= ·)->1#2<=a->22#3 ->
    h'.get? a=some (seqObj "list" out e)->EP X pins σ Q (.ref a) { s with heap:=h',toks:=tk }:=by
    intro out Zn a e h' tk a1 a2 a3 hle hk he;have e':=wj a2 a3;subst e';refine⟨.ref a,_,I.laid (t':=tk) (o:= .lst ((tD ns).map V.int)) hk hle ?_,rfl,q _ (I.hok.fresh hle)⟩;refine⟨by rw[ay,(j6 ns).length_eq,sizeLine_eq];omega,out.toList,e,sM a1,?_⟩;rw[he]
   rcases hS with (hS|hS)|⟨kvs,hp,hks⟩
   .obtain⟨ZZ,rv,pl,_⟩:=I.list hS
    have hl:=pl.isList;obtain⟨o,ho,hc,n,hd⟩:=hl;have hI:=intsAre_of rv;exact vC 6#6 ho hc hd hI (by rw[kB hI];exact Xk) λout Zn a e h'=>fin out Zn a e h' s.toks
   .obtain⟨ZZ,rv,pl,_⟩:=I.tuple hS
    obtain⟨o,ho,hc,n,hd⟩:=pl;have hI:=intsAre_of rv;exact vC (.inr rfl) ho hc hd hI (by rw[kB hI];exact Xk) λout Zn a e h'=>fin out Zn a e h' s.toks
   .obtain⟨_,XR,vs,rel,dd⟩:=(show eg X.prog X.w H s.heap p (.dK kvs) from I.hok p _ hp)
    exact Bg 11#6 XR dd (by rw[Mb rel];exact hks) Xk fin
end
section
variable {K:KX}
theorem wb{H:Hp}{μ:List Addr}:∀ns:List Int,RUs H μ (ns.map U.int) 10#7
 |[]=>.nil
 |n::ns=>.cons eQ (wb ns)
theorem Dz:∀{kvs:List (Key×U)}{vs:List V},3#2=3#7->(dV kvs vs).map (·.1)=kvs.map (·.1)
 |[],_,_=>rfl
 |_::_,[],h=>by simp at h
 | kv::kvs,v::vs,h=>by
   show kv.1::(dV kvs vs).map (·.1)=kv.1::kvs.map (·.1);rw[Dz 19#1]
theorem yk:∀{kvs:List (Key×U)}{ns:List Int},dG lU kvs=some ns->kvs.map (·.1)=ns.map fI
 |[],ns,h=>by cases h;rfl
 | (k,u)::kvs,ns,h=>by
   unfold dG at h;cases k with
   |inr x=>cases h
   | inl i=>
     simp only[lU,ah]at h;cases q:dG lU kvs with
     |none=>rw[q]at h;cases h
     | some ms=>
       rw[q]at h;cases h;rw[bz,yk q];rfl
theorem Fg:oU K (DZ K) dh:=by
 intro μ S H us vs u S' Q hr rs e a;unfold dh at e
 split at e
 .rename_i x
  obtain⟨v,r,rfl,rx,rn⟩:=rs.inv;rw[rn.nil_inv];cases q:tw S x with
  |none=>rw[q]at e;cases e
  | some ns=>
    rw[q]at e;simp only[ah]at e
    split at e
    rotate_left
    .cases e
    rename_i hc
    cases e;unfold tw at q
    split at q
    .rename_i kvs qd
     obtain⟨p,ws,rfl,hp,r'⟩:=hr.dic rx qd;have hl:3#2=ws.length:=by have:=r'.len;rwa[ay]at this
     exact⟨p,ns,rfl,.inr ⟨_,hp,by rw[Dz hl];exact yk q⟩,hc,λl hl=>iz a hr (wb _) hl⟩
    .cases q1:dZ S x with
     |none=>rw[q1]at q;cases q
     | some ws=>
       rw[q1]at q;obtain⟨p,ys,rfl,hs,r'⟩:=hr.seq rx q1;rw[Eh r' q]at hs;exact⟨p,ns,rfl,.inl hs,hc,λl hl=>iz a hr (wb _) hl⟩
 .cases e
end
section
variable {X:Cx}
def MV(K:ao):List V->Hp->VK->Prop:=λxs H Q=>∃v d,xs=[v]/\tm K H v d/\pf d/\Q (.str d.shown) H
theorem E4(hg:X.A.guards=some [])(hu:X.A.units+64<cLine):gZ X (.builtin "repr") (MV X.K):=by
 intro pins s σ H xs us Q I rs h;obtain⟨v,d,rfl,⟨hd,hl,hdp⟩,⟨hs,hz⟩,q⟩:=h;cases rs with
 | cons r1 rr=>
   cases rr;have hq:=hd;cases hd with
   |non=>cases (show _=lL from r1);exact P.repr_of_none 25#2
   | bl b=>
     cases (show _=tZ b from r1);exact P.repr_of_bool 25#2
   | int i=>
     obtain⟨t,e⟩:=(show ∃t,_=rF i t from r1);subst e;exact P.repr_of_int (by simpa [iH]using hs) 25#2
   | str x=>
     obtain⟨t,e⟩:=(show ∃t,_=rG x t from r1);subst e;exact P.repr_of_str 25#2 hz
   | tup h1 h2=>
     cases (show _=bw _ from r1);obtain⟨as,rd⟩:=pE.reads I hq r1;exact repr_of_reads' rd hs (PyData.noDict_hsm (Bv _ hl)) hg 0#2 (λ_ _ e=>e) (λh' u tk hk=>⟨.str _,_,I.kept hk,⟨_,rfl⟩,q⟩) hz
   | lst h1 h2=>
     cases (show _=bw _ from r1);obtain⟨as,rd⟩:=pE.reads I hq r1;exact repr_of_reads' rd hs (PyData.noDict_hsm (Bv _ hl)) hg 0#2 (λ_ _ e=>e) (λh' u tk hk=>⟨.str _,_,I.kept hk,⟨_,rfl⟩,q⟩) hz
end
section
variable {K:KX}
theorem Lr:oU K (MV K) oQ:=by
 intro μ S H us vs u S' Q hr rs e a;unfold oQ at e
 split at e
 .rename_i x
  obtain⟨v,r,rfl,rx,rn⟩:=rs.inv;rw[rn.nil_inv];cases q:toD S 40 x with
  |none=>rw[q]at e;cases e
  | some d=>
    rw[q]at e;simp only[ah]at e
    split at e
    .rename_i hc
     cases e;exact⟨v,d,rfl,yo hr rx q,hc,a.now hr (by simp only[RU])⟩
    .cases e
 .cases e
end
section
variable {prog:Program}{w:World}{A:Around}{E:Value->Shared->Prop}{s:Shared}
theorem Ju(xs:Array Value)(n:Nat)(hn:xs.size=n):((aA n).filterMap λ(k:Nat)=>xs[(((n:Int)-1)+(k:Int)*(-1)).toNat]?).toArray=xs.toList.reverse.toArray:=by
 subst hn;have e:(λ(k:Nat)=>xs[(((xs.size:Int)-1)+(k:Int)*(-1)).toNat]?)=(λi=>xs[i]?)∘λk=>xs.size-1-k:=by
  funext k
  have e1:(((xs.size:Int)-1)+(k:Int)*(-1)).toNat=xs.size-1-k:=by omega
  rw[e1];rfl
 rw[e,<-List.filterMap_map,PySem.W.krv_range,List.filterMap_reverse,PySem.W.krv_all]
theorem rO{sl:Addr}{t:Tok}{Q:Int×Int×Nat->Shared->Prop}(hs:s.heap.IsSliceOf sl .none .none (.int (-1) t))
  (h:Q ((n:Int)-1,-1,n) s):aT 4#9 A (jP (.ref sl) (pure (n:Int))) Q E s:=by
 obtain⟨os,YQ,Zi,Ye⟩:=id hs;unfold jP Builtin.Slice.sliceFields;refine ax (ax (o3 YQ Ye (x:= .none) rfl (ax (o3 YQ Ye (x:= .none) rfl (ax (o3 YQ Ye (x:= .int (-1) t) rfl (aJ ?_)))))));refine ax (HT.slicePart_ (.int (-1) t) ?_);show aT _ _ (if ((-1:Int)==0)=true then _ else _) _ _ s;rw[if_neg 0#1];refine ax (HT.slicePart_ .none (ax (HT.slicePart_ .none (ax (aJ ?_)))));show aT _ _ (match gh none none (-1) (n:Int) with | (lo,hi)=>pure (lo,(-1:Int),dn lo hi (-1))) _ _ s;have e1:gh none none (-1) (n:Int)=((n:Int)-1,-1):=rfl;have e2:dn ((n:Int)-1) (-1) (-1)=n:=by
  unfold dn;rw[if_neg 0#1]
  split
  .rw[show(-(-1):Int)=1 by decide,Int.ediv_one];omega
  .omega
 rw[e1];show aT _ _ (pure ((n:Int)-1,(-1:Int),dn ((n:Int)-1) (-1) (-1))) _ _ s;rw[e2];exact aJ h
theorem qV{t sl:Addr}{tk:Tok}(ht:IsTup s.heap t items)(hs:s.heap.IsSliceOf sl .none .none (.int (-1) tk))
  (h:Q (.ref 1#2) { s with heap:=s.heap.push { cls := .type "tuple",data := .seq items.toList.reverse.toArray } })
  (hsz:5#1<=sizeLine):aT 4#9 A (getItem (.ref t) (.ref sl)) Q E s:=by
 have Zl:sizeOk (.seq items.toList.reverse.toArray):=by
  show items.toList.reverse.toArray.size<=sizeLine;rw[bV,eF,kK];exact hsz
 obtain⟨os,YQ,Zi,Ye⟩:=id hs;have VW:s.TypeIs (.ref sl) "slice":=⟨os,YQ,Zi⟩;unfold getItem
 try with_reducible refine fL ?_
 first |refine ax (aJ ?_) |skip
 refine ax (Bk ht.typeIs 0#1 ?_)
 refine ax (rD (name:=xy "__getitem__") ht.typeIs dg
  (lb dg ht.typeIs entry_tuple_getitem ?_ (args_tuple_getitem _ _)))
 show aT _ _ (jQ (.ref t) >>= _) _ _ s;refine ax (tupleItemsOf_ ht ?_);refine ax (ke VW ?_);rw[if_pos 0#1];refine ax (rO hs ?_);show aT _ _ (if ((((5#1:Int)-1)==0&&(-1:Int)==1&&5#1==5#1))=true then _ else _) _ _ s;rw[if_neg 0#6,Ju items _ rfl]
 first
  |exact ax (m:=dX _) (dF (aJ ⟨_,rfl,aJ h⟩) Zl)
  |exact ax (m:=dX _) (dF (ax (aJ (aJ ⟨_,rfl,aJ h⟩))) Zl)
  |exact ax (ax (m:=dX _) (dF (aJ (aJ ⟨_,rfl,aJ h⟩)) Zl))
  |exact ax (ax (m:=dX _) (dF (aJ ⟨_,rfl,aJ h⟩) Zl))
end
theorem cz.rev:∀{xs:List V}{us:List Value},cz xs us->cz xs.reverse us.reverse
 |_,_,.nil=>.nil
 | x::xs,u::us,.cons a b=>by
   rw[jk,jk];exact(cz.rev b).append (.cons a .nil)
def UD(K:ao):V->Hp->VK->Prop:=λx H Q=>∃a xs,x=.ref a/\((SqT K H a xs /\ ∀p,H p=none->Q (.ref p) (upd H p (.tup xs.reverse)))\/(SqL K H a xs /\ ∀p,H p=none->Q (.ref p) (upd H p (.lst xs.reverse))))
def Qo(K:ao)(te:TE):TE:=λσ H Q=>te σ H λx H1=>UD K x H1 Q
section
variable {X:Cx}{e:Expr}{te:TE}{pos p2 p3 p4:Pos}{j:Nat}
theorem Qu(he:PE X e te):PE X (.Subscript e 27#2 pos) (Qo X.K te):=by
 intro pins s σ H Q I h;refine Subscript_ (thn (he pins s σ H _ I h) λv s1 ⟨x,H1,I1,r1,q1⟩=>?_);refine wpAny_Slice ?_;rw[evalPart_none,evalPart_some];refine aJ (aJ ?_);refine thn (My Ho IC pins s1 σ H1 (λy H2=>y=.int (-1)/\H2=H1) I1 ⟨1,rfl,rfl,rfl⟩) λu s3 ⟨y,H3,I3,ry,hy,hH⟩=>?_;subst hy hH;obtain⟨t,rfl⟩:=ry;have I4:Inv X pins σ H3 { s3 with heap:=s3.heap.push { cls := .type "slice",data := .fields #[.none,.none,.int (-1) t] } }:=I3.kept (t':=s3.toks) fun b ob q=>ar _ q;show aT 1#8 X.A (subscriptTail e 27#2 v (.ref s3.heap.objs.size)) 9#2 X.xe { s3 with heap:=s3.heap.push { cls := .type "slice",data := .fields #[.none,.none,.int (-1) t] } };obtain⟨a,xs,rfl,q1⟩:=q1;cases r1;rcases q1 with⟨hx,q⟩|⟨hx,q⟩
 .obtain⟨ZZ,r,ht,hz⟩:=I4.tuple hx
  have hlen:15#9=1#5:=by rw[bV];exact r.length.symm
  refine tail_any (ops:= [.ref a,.ref s3.heap.objs.size]) ht.typeIs PyProof.Rows.slot_tuple_getitem.lookup ?_ (by with_unfolding_all rfl);refine qV ht (oo ..) ?_ (by rw[hlen];exact hz);refine⟨.ref _,_,I4.laid (t':=s3.toks) (o:= .tup xs.reverse) 16#8 1#6 ?_,rfl,q _ (I4.hok.fresh 1#6)⟩;exact⟨by rw[eF];exact hz,_,cz.rev r,nR _ _,_,aH _ rfl,rfl⟩
 .obtain⟨ZZ,r,ht,hz⟩:=I4.list hx
  refine tail_any (ops:= [.ref a,.ref s3.heap.objs.size]) ht.isList.typeIs slot_list_getitem.lookup ?_ (by with_unfolding_all rfl);refine wpAny_getItem_list_slice ht.isList (oo ..) .none .none (.int (-1) t) 0#1 ?_ (by rw[bV,<-r.length];exact hz);rw[PySem.W.krv_pick];refine⟨.ref _,_,I4.laid (t':=s3.toks) (o:= .lst xs.reverse) 16#8 1#6 ?_,rfl,q _ (I4.hok.fresh 1#6)⟩;exact⟨by rw[eF];exact hz,_,0,cz.rev r,aH _ rfl⟩
end
def oG:U->Sto->Res U:=λx S=>match x with
 |.tup us=>some (.tup us.reverse,S)
 |.ref n=>(getL S n).map λus=>(.ref 0#3,S++[.lst us.reverse])
 |_=>none
theorem RUs.rev{H:Hp}{μ:List Addr}:∀{us:List U}{vs:List V},RUs H μ us vs->RUs H μ us.reverse vs.reverse
 |[],vs,r=>by rw[r.nil_inv];exact .nil
 | u::us,vs,r=>by
   obtain⟨v,r',rfl,a,b⟩:=r.inv;rw[jk,jk];exact(RUs.rev b).append (.cons a .nil)
section
variable {K:KX}{σ:St}{H:Hp}{Q:VK}
theorem R6{a:ME}(h:tM K (m1 oG a) σ H Q):Qo K (tM K a) σ H Q:=by
 obtain⟨μ,S,G,u,S',hr,er,e,k⟩:=h;obtain⟨x,S1,e1,e⟩:=a6 e;refine 11#2;have k':=k.mono p1 k1;unfold oG at e
 split at e
 .cases e
  obtain⟨p,vs,rfl,hp,rs⟩:=iF rx;refine⟨p,vs,rfl,.inl ⟨.inl (.inl hp),λl hl=>?_⟩⟩;exact k' Y0 _ _ 2#4 (bp.new hl) (Z'.tup hl) (iX cx (RUs.mono (bp.new hl) 2#4 _ _ (RUs.rev rs)))
 .rename_i n
  cases q:getL S1 n with
  |none=>rw[q]at e;cases e
  | some us=>
    rw[q]at e;cases e;obtain⟨p,rfl,hp⟩:=fe rx;obtain⟨p',ys,ZK,hs,r'⟩:=Z'.sq q;rw[hp]at ZK;cases ZK;exact⟨p,ys,rfl,.inr ⟨hs,λl hl=>iz k' Z' (RUs.rev r') hl⟩⟩
 .cases e
end
def sW:ME:=λ_ S=>some (.ref 0#3,S++[.dic []])
def kE(k v:ME):ME:=λG S=>bnd (k G (S++[.dic []])) λx S1=>bnd (v G S1) λy S2=>(keyOf x).bind λkk=>match S2[0#3]? with
 |some (.dic [])=>some (.ref 0#3,S2.set S.length (.dic [(kk,y)]))
 |_=>none
section
variable {K:KX}{σ:St}{H:Hp}{Q:VK}
theorem Ed(hr:HR K μ S H)(hp:H p=none):HR K (μ++[p]) (S++[.dic []]) (upd H p (.dK [])):=
 hr.newC hp rfl ⟨[],cx,.nil⟩
theorem CU(hr:HR K μ S H):(μ++[p])[0#3]?=some p:=by
 rw[<-hr.len,aq 1#6];simp
theorem OO(h:tM K sW σ H Q):Ji σ H Q:=by
 obtain⟨μ,S,G,u,S',hr,er,e,k⟩:=h;cases e;intro p hp;exact k (μ++[p]) _ _ ⟨[p],rfl⟩ (bp.new hp) (Ed hr hp) (vX (CU hr))
theorem QD{a b:ME}(h:tM K (kE a b) σ H Q):MN [(tM K a,tM K b)] σ H Q:=by
 obtain⟨μ,S,G,u,S',hr,er,e,k⟩:=h;intro p hp;obtain⟨x,S1,e1,e⟩:=a6 e;obtain⟨y,S2,e2,e⟩:=a6 e;have pre:Pre μ (μ++[p]):=⟨[p],rfl⟩;refine⟨μ++[p],S++[.dic []],G,x,S1,Ed hr hp,er.mono (bp.new hp) pre,e1,λY0 vx H1 p1 k1 Z' rx=>?_⟩;refine⟨Y0,S1,G,y,S2,Z',er.mono ((bp.new hp).trans k1) (pre.trans p1),e2,λY5 vy H2 p2 k2 ZX ry=>?_⟩;cases qk:keyOf x with
 |none=>rw[qk]at e;cases e
 | some kk=>
   rw[qk]at e;simp only[ah]at e
   split at e
   .rename_i q
    cases e;have hm:=p2.get (p1.get (CU hr (p:=p)));obtain⟨vs,e0,r0⟩:=ZX.cell _ _ p q hm;have hv:vs=[]:=r0.nil_inv;subst hv;have kw:bp H2 (upd H2 p (.dK (sr [] [(kk,vy)]))):=bp.wrG e0 (λ_ z=>by cases z) λ_ _ z=>by cases z
    refine⟨e0,[(kk,vy)],?_,by simp,?_⟩
    .rw[qA (RU.mono k2 p2 _ _ rx) qk];rfl
    .refine k Y5 _ _ (pre.trans 10#1) ((bp.new hp).trans (k1.trans (k2.trans kw))) (ZX.wrC q hm rfl ⟨[vy],by rw[cx];rfl,.cons (RU.mono kw 2#4 _ _ ry) .nil⟩) (vX hm)
   .cases e
def Cp:MF:=λus S=>match us with
 |[.int i]=>some (.int i,S)
 |[.bl k]=>some (.int (if k then 1 else 0),S)
 |_=>none
def Rw(i:Int):Prop:=i.natAbs.log2<1920
instance(i:Int):Decidable (Rw i):=cj _
theorem Qx:oU K (λxs H Q=>(∃i,xs=[.int i]/\Q 3#0 H) \/ ∃k,xs=[.bl k]/\Q (.int (if k then 1 else 0)) H) Cp:=by
 intro μ S H us vs u S' Q hr rs e a;unfold Cp at e
 split at e
 .cases e
  obtain⟨v,r,rfl,rx,rn⟩:=rs.inv;rw[rn.nil_inv,dA rx];exact .inl ⟨_,rfl,a.now hr eQ⟩
 .cases e
  obtain⟨v,r,rfl,rx,rn⟩:=rs.inv;rw[rn.nil_inv,jB rx];exact .inr ⟨_,rfl,a.now hr eQ⟩
 .cases e
end
abbrev MG:=U->Rho->Sto->Option (Rho×Sto)
abbrev MGs:=List U->Rho->Sto->Option (Rho×Sto)
def gN(i:Nat):MG:=λu G S=>some (G.set i (some u),S)
def oR:MGs:=λus G S=>match us with
 |[]=>some (G,S)
 |_=>none
def eK(g:MG)(r:MGs):MGs:=λus G S=>match us with
 |[]=>none
 |u::us=>(g u G S).bind λp=>r us p.1 p.2
def gTp(n:Nat)(gs:MGs):MG:=λu G S=>match u with
 |.tup us=>if 1#1=n then gs us G S else none
 |_=>none
def ze(e:ME)(g:MG):MS:=λG S=>bnd (e G S) λx S1=>(g x G S1).map λp=>(.nx,p.1,p.2)
def tG(K:KX)(g:MG):TG:=λv σ H Q=>∃μ S G u r,HR K μ S H/\ER H μ G σ/\RU H μ u v/\g u G S=some r /\ ∀Y4 Y3 H',Pre μ Y4->bp H H'->HR K Y4 r.2 H'->ER H' Y4 r.1 Y3->Q Y3 H'
def tGs(K:KX)(g:MGs):TGs:=λvs σ H Q=>∃μ S G us r,HR K μ S H/\ER H μ G σ/\RUs H μ us vs/\g us G S=some r /\ ∀Y4 Y3 H',Pre μ Y4->bp H H'->HR K Y4 r.2 H'->ER H' Y4 r.1 Y3->Q Y3 H'
theorem PG.con{t u:TG}(h:PG X tg t)(k:∀v σ H Q,u v σ H Q->t v σ H Q):PG X tg u:=λpins s σ H v w Q I r q=>h pins s σ H v w Q I r (k _ _ _ _ q)
theorem PGs.con{tg:List Expr}{t u:TGs}(h:PGs X tg t)(k:∀v σ H Q,u v σ H Q->t v σ H Q):PGs X tg u:=λpins s σ H v w Q I r q=>h pins s σ H v w Q I r (k _ _ _ _ q)
section
variable {K:KX}{σ:St}{H:Hp}{Q:St->Hp->Prop}{v:V}{D:Ends}
theorem UO{i:Nat}(h:tG K (gN i) v σ H Q):kC i v σ H Q:=by
 obtain⟨μ,S,G,u,r,hr,er,ru,e,k⟩:=h;cases e;exact k μ _ H 2#4 9#7 hr (er.set ru i)
theorem Oj{vs:List V}(h:tGs K oR vs σ H Q):QX vs σ H Q:=by
 obtain⟨μ,S,G,us,r,hr,er,rs,e,k⟩:=h;cases us with
 |nil=>cases e;exact⟨rs.nil_inv,k μ _ H 2#4 9#7 hr er⟩
 |cons u us=>cases e
variable{gs:MGs}
theorem Kv{g:MG}{vs:List V}(h:tGs K (eK g gs) vs σ H Q):M5 (tG K g) (tGs K gs) vs σ H Q:=by
 obtain⟨μ,S,G,us,r,hr,er,rs,e,k⟩:=h;cases us with
 |nil=>cases e
 | cons u us=>
   obtain⟨v,vr,rfl,ra,rb⟩:=rs.inv;cases q:g u G S with
   |none=>rw[show eK g gs (u::us) G S=(g u G S).bind λp=>gs us p.1 p.2 from rfl,q]at e;cases e
   | some p=>
     rw[show eK g gs (u::us) G S=(g u G S).bind λp=>gs us p.1 p.2 from rfl,q]at e;refine⟨v,vr,rfl,μ,S,G,u,p,hr,er,ra,q,λY0 Y6 H1 p1 k1 Z' ZT=>?_⟩;exact⟨Y0,p.2,p.1,us,r,Z',ZT,RUs.mono k1 p1 _ _ rb,e,λY5 Y7 H2 p2 k2=>k Y5 Y7 H2 10#1 10#9⟩
theorem Sh(h:tG K (gTp n gs) v σ H Q):R8 K n (tGs K gs) v σ H Q:=by
 obtain⟨μ,S,G,u,r,hr,er,ru,e,k⟩:=h;unfold gTp at e
 split at e
 .rename_i us
  split at e
  .rename_i hl
   obtain⟨a,vs,rfl,ha,rs⟩:=iF ru;exact⟨a,vs,rfl,.inl (.inl ha),by rw[<-rs.len];exact hl,μ,S,G,us,r,hr,er,rs,e,k⟩
  .cases e
 .cases e
theorem Rz{m:ME}{g:MG}(h:tMS K (ze m g) D σ H):E3 (tM K m) (tG K g) D σ H:=by
 obtain⟨μ,S,G,r,hr,er,e,k⟩:=h;obtain⟨x,S1,e1,e⟩:=a6 e;cases q:g x G S1 with
 |none=>rw[q]at e;cases e
 | some p=>
   rw[q]at e;cases e;exact⟨μ,S,G,x,S1,hr,er,e1,λY0 vx H1 p1 k1 Z' rx=>⟨Y0,S1,G,x,p,Z',er.mono k1 p1,rx,q,λY5 Y7 H2 p2 k2 ZX Zd=>k Y5 Y7 H2 10#1 10#9 ZX Zd⟩⟩
end
theorem Ad{a b c d:Expr}{p1 p2 p p3:Pos}{k k2:Nat}{vs:List Expr}{env:Env}:swappedStores [.Tuple [.Subscript a b p1,.Subscript c d p2] k p] (.Tuple vs k2 p3) env=pure none:=by
 unfold swappedStores;simp only[List.filterMap_cons_none,List.filterMap_nil]
 split
 .rfl
 .split
  .rfl
  .rfl
def AR(g:MG)(b:MS):List U->MS
 |[],G,S=>some (.nx,G,S)
 |x::xs,G,S=>(g x G S).bind λp=>aft (b p.1 p.2) (AR g b xs)
def xV(g:MG)(b:MS)(n:Nat):Nat->Nat->MS
 |0,_,_,_=>none
 | f+1,k,G,S=>(getL S n).bind λus=>match us[k]? with
   |none=>some (.nx,G,S)
   |some x=>(g x G S).bind λp=>aft (b p.1 p.2) (xV g b n f (k+1))
def tj(g:MG)(b:MS)(n:Nat):Nat->Nat->MS
 |0,_,_,_=>none
 | f+1,k,G,S=>(getL S n).bind λus=>match us[k]? with
   |none=>some (.nx,G,S)
   |some x=>(g (.tup [.int k,x]) G S).bind λp=>aft (b p.1 p.2) (tj g b n f (k+1))
def SN(g:MG)(b:MS):Src->MS
 |.imm us=>AR g b us
 |.mut n=>xV g b n fuel 0
 |.enl n=>tj g b n fuel 0
 |_=>λ_ _=>none
def va(g:MG)(it:MI)(b:MS):MS:=λG S=>bnd (it G S) λsrc S1=>SN g b src G S1
section
variable {K:KX}{σ:St}{H:Hp}{Q:VK}{D:Ends}
variable{g:MG}{b:MS}{r:Fl×Rho×Sto}
theorem wc{X4:List Addr}{H0:Hp}{k:MS}{N:St->Hp->Prop}(hr:HR K μ S H)(er:ER H μ G σ)(rx:RU H μ x v)(e:((g x G S).bind λp=>aft (b p.1 p.2) k)=some r)(p:Pre X4 μ)(kp:bp H0 H)(fl:FlP K X4 H0 D r)
  (hN:∀Y0 Y6 H1 Y2 S1,Pre X4 Y0->bp H0 H1->HR K Y0 S1 H1->ER H1 Y0 Y2 Y6->k Y2 S1=some r->N Y6 H1):tG K g v σ H λY7 H2=>tMS K b { D with nx:=N,ct:=N,bk:=D.nx } Y7 H2:=by
 cases q:g x G S with
 |none=>rw[q]at e;cases e
 | some y=>
   rw[q]at e;exact⟨μ,S,G,x,y,hr,er,rx,q,λY0 Y6 H1 p1 k1 Z' ZT=>qR Z' ZT e (p.trans p1) (kp.trans k1) fl hN⟩
theorem LU{vs:List V}(hr:HR K μ S H)(er:ER H μ G σ)(e:AR g b us G S=some r)(fl:FlP K μ H D r)(ha:H a=some (.tup vs))(ru:RUs H μ us vs):
  ∃W:Nat->Nat->St->Hp->Prop,17#0 /\ ∀k m σ H,W k m σ H ->
   ((Itt K a).stop k H/\D.nx σ H)\/((Itt K a).go k H /\ ∃N:St->Hp->Prop,19#3 /\ ∀x H',(Itt K a).yld k H x H'->tG K g x σ H' λY7 H2=>tMS K b { D with nx:=N,ct:=N,bk:=D.nx } Y7 H2):=by
 refine⟨λk m Y6 H1=>m+k=1#1 /\ ∃Y0 S1 Y2,Pre μ Y0/\bp H H1/\HR K Y0 S1 H1/\ER H1 Y0 Y2 Y6/\AR g b (us.drop k) Y2 S1=some r,⟨1#1,rfl,μ,S,G,Pre.refl _,bp.refl _,hr,er,e⟩,?_⟩;rintro k m Y6 H1 ⟨hm,Y0,S1,Y2,p1,k1,Z',ZT,e1⟩;have hq:SqT K H1 a vs:= .inl (.inl (k1 a vs ha));cases m with
 | zero=>
   have hk:k=1#1:=by omega
   subst hk;rw[yv]at e1;cases e1;exact .inl ⟨⟨vs,hq,by rw[ru.len];exact ak _⟩,fl Y0 Y6 H1 p1 k1 Z' ZT⟩
 | succ m=>
   have hk:k<1#1:=by omega
   have hu:us[k]?=some us[k]:=by simp[hk]
   obtain⟨v,hv,rv⟩:=ru.get hu;rw[drop_cons hu]at e1;refine .inr ⟨⟨vs,v,hq,hv⟩,λY7 H2=>∃Y5 S2 Y8,Pre μ Y5/\bp H H2/\HR K Y5 S2 H2/\ER H2 Y5 Y8 Y7/\AR g b (us.drop (k+1)) Y8 S2=some r,λY3 H' w=>⟨m,bx _,by omega,w⟩,λx H' y=>?_⟩;obtain⟨e',y⟩:=y;subst e';have hx:=y vs hq;rw[hv]at hx;cases hx;exact wc Z' ZT (RU.mono k1 p1 _ _ rv) e1 p1 k1 fl λY5 Y7 H2 Y8 S2 p2 k2 ZX Zd e2=>⟨Y5,S2,Y8,p2,k2,ZX,Zd,e2⟩
theorem L6{f:Nat}(hr:HR K μ S H)(er:ER H μ G σ)(e:xV g b n f 0 G S=some r)(fl:FlP K μ H D r)(ha:μ[n]?=some a):
  ∃W:Nat->Nat->St->Hp->Prop,17#0 /\ ∀k m σ H,W k m σ H ->
   ((Itl K a).stop k H/\D.nx σ H)\/((Itl K a).go k H /\ ∃N:St->Hp->Prop,19#3 /\ ∀x H',(Itl K a).yld k H x H'->tG K g x σ H' λY7 H2=>tMS K b { D with nx:=N,ct:=N,bk:=D.nx } Y7 H2):=by
 refine⟨λk m Y6 H1=>∃Y0 S1 Y2,Pre μ Y0/\bp H H1/\HR K Y0 S1 H1/\ER H1 Y0 Y2 Y6/\xV g b n m k Y2 S1=some r,30#3,?_⟩;rintro k m Y6 H1 ⟨Y0,S1,Y2,p1,k1,Z',ZT,e1⟩;cases m with
 |zero=>cases e1
 | succ m=>
   unfold xV at e1;cases q:getL S1 n with
   |none=>rw[q]at e1;cases e1
   | some us=>
     rw[q]at e1;simp only[ah]at e1;obtain⟨a',vs,Zz,hs,rs⟩:=Z'.sq q;rw[p1.get ha]at Zz;cases Zz;cases z:us[k]? with
     | none=>
       rw[z]at e1;cases e1;refine .inl 29#4;rw[<-rs.len];exact dz.mp z
     | some u=>
       rw[z]at e1;obtain⟨v,hv,rv⟩:=rs.get z;refine .inr ⟨⟨vs,v,hs,hv⟩,λY7 H2=>∃Y5 S2 Y8,Pre μ Y5/\bp H H2/\HR K Y5 S2 H2/\ER H2 Y5 Y8 Y7/\xV g b n m (k+1) Y8 S2=some r,λY3 H' w=>⟨m,bx _,w⟩,λx H' y=>?_⟩;obtain⟨e',y⟩:=y;subst e';have hx:=y vs hs;rw[hv]at hx;cases hx;exact wc Z' ZT rv e1 p1 k1 fl λY5 Y7 H2 Y8 S2 p2 k2 ZX Zd e2=>⟨Y5,S2,Y8,p2,k2,ZX,Zd,e2⟩
theorem Mn{a:ME}(h:tMS K (va g (bZ a) b) D σ H):zp 24#3 (tG K g) (tMS K b) D σ H:=by
 obtain⟨μ,S,G,r,hr,er,e,fl⟩:=h;obtain⟨src,S1,e1,e⟩:=a6 e;refine yH hr er e1 25#1 λY0 H1 n p p1 k1 Z' hs hp=>?_
 .subst hs
  exact LU Z' 9#3 e (fl.mono p1 k1) hp rs
 .subst hs
  exact L6 Z' 9#3 e (fl.mono p1 k1) hp
theorem Dp{a:MA}{R:It->Hp->Prop}{S1:Sto}{src:Src}(hr:HR K μ S H)(er:ER H μ G σ)(e:mI a G S=some (src,S1))
  (hL:∀Y0 H1 n p,Pre μ Y0->bp H H1->HR K Y0 S1 H1->src=.enl n->Y0[n]?=some p->R (Ci K p) H1):vI K 8#4 σ H R:=by
 obtain⟨xs,S2,e1,e⟩:=a6 e
 split at e
 .rename_i n
  cases q:getL S2 n with
  |none=>rw[q]at e;cases e
  | some us=>
    rw[q]at e;simp only[aN,fO,Prod.mk.injEq]at e;obtain⟨e2,e3⟩:=e;subst e3;refine 28#4;obtain⟨v,r,rfl,rx,rn⟩:=rs.inv;rw[rn.nil_inv];obtain⟨p,rfl,hp⟩:=fe rx;obtain⟨a',ws,Zz,hs,_⟩:=Z'.sq q;rw[hp]at Zz;cases Zz;exact .inr ⟨p,ws,rfl,hs,hL Y0 H1 n p p1 k1 Z' e2.symm hp⟩
 .cases e
theorem LG{f:Nat}(hr:HR K μ S H)(er:ER H μ G σ)(e:tj g b n f 0 G S=some r)(fl:FlP K μ H D r)(ha:μ[n]?=some a):
  ∃W:Nat->Nat->St->Hp->Prop,17#0 /\ ∀k m σ H,W k m σ H ->
   ((Ci K a).stop k H/\D.nx σ H)\/((Ci K a).go k H /\ ∃N:St->Hp->Prop,19#3 /\ ∀x H',(Ci K a).yld k H x H'->tG K g x σ H' λY7 H2=>tMS K b { D with nx:=N,ct:=N,bk:=D.nx } Y7 H2):=by
 refine⟨λk m Y6 H1=>∃Y0 S1 Y2,Pre μ Y0/\bp H H1/\HR K Y0 S1 H1/\ER H1 Y0 Y2 Y6/\tj g b n m k Y2 S1=some r,30#3,?_⟩;rintro k m Y6 H1 ⟨Y0,S1,Y2,p1,k1,Z',ZT,e1⟩;cases m with
 |zero=>cases e1
 | succ m=>
   unfold tj at e1;cases q:getL S1 n with
   |none=>rw[q]at e1;cases e1
   | some us=>
     rw[q]at e1;simp only[ah]at e1;obtain⟨a',vs,Zz,hs,rs⟩:=Z'.sq q;rw[p1.get ha]at Zz;cases Zz;cases z:us[k]? with
     | none=>
       rw[z]at e1;cases e1;refine .inl 29#4;rw[<-rs.len];exact dz.mp z
     | some u=>
       rw[z]at e1;obtain⟨v,hv,rv⟩:=rs.get z;refine .inr ⟨⟨vs,v,hs,hv⟩,λY7 H2=>∃Y5 S2 Y8,Pre μ Y5/\bp H H2/\HR K Y5 S2 H2/\ER H2 Y5 Y8 Y7/\tj g b n m (k+1) Y8 S2=some r,λY3 H' w=>⟨m,bx _,w⟩,λx H' y=>?_⟩;obtain⟨T,w,hy,hT,rfl,rfl⟩:=y;have W7:=hy vs hs;rw[hv]at W7;cases W7;have kp:bp H1 (upd H1 T (.tup [.int k,v])):=bp.new hT;have rx:RU (upd H1 T (.tup [.int k,v])) Y0 (.tup [.int k,u]) (.ref T):=iX cx (.cons eQ (.cons (RU.mono kp 2#4 _ _ rv) .nil));exact wc (Z'.tup hT) (ZT.mono kp 2#4) rx e1 p1 (k1.trans kp) fl λY5 Y7 H2 Y8 S2 p2 k2 ZX Zd e2=>⟨Y5,S2,Y8,p2,k2,ZX,Zd,e2⟩
theorem RQ{a:MA}(h:tMS K (va g (mI a) b) D σ H):zp (vI K 8#4) (tG K g) (tMS K b) D σ H:=by
 obtain⟨μ,S,G,r,hr,er,e,fl⟩:=h;obtain⟨src,S1,e1,e⟩:=a6 e;refine Dp hr er e1 λY0 H1 n p p1 k1 Z' hs hp=>?_;subst hs;exact LG Z' 9#3 e (fl.mono p1 k1) hp
end
def Fp(n:Nat):U->Option (List U)
 |.tup us=>if 1#1=n then some us else none
 |_=>none
def iU(c:Nat)(t:MT)(e:ME)(G:Rho)(n:Nat):Nat->Nat->List U->Sto->Res (List U)
 |0,_,_,_=>none
 | f+1,i,acc,S=>(getL S n).bind λws=>match ws[i]? with
   |none=>some (acc,S)
   |some x=>(Fp c x).bind λus=>bnd (t (G++us.map some) S) λk S1=>if k then bnd (e (G++us.map some) S1) λy S2=>iU c t e G n f (i+1) (acc++[y]) S2 else iU c t e G n f (i+1) acc S1
def ij(t:MT)(e:ME)(G:Rho)(n:Nat):Nat->Nat->List U->Sto->Res (List U)
 |0,_,_,_=>none
 | f+1,i,acc,S=>(getL S n).bind λws=>match ws[i]? with
   |none=>some (acc,S)
   |some x=>bnd (t (G++[some 3#0,some x]) S) λk S1=>if k then bnd (e (G++[some 3#0,some x]) S1) λy S2=>ij t e G n f (i+1) (acc++[y]) S2 else ij t e G n f (i+1) acc S1
def Cs(c:Nat)(t:MT)(e:ME)(G:Rho):Src->Sto->Res (List U)
 |.mut n,S=>iU c t e G n fuel 0 [] S
 |.enl n,S=>if c=2 then ij t e G n fuel 0 [] S else none
 |_,_=>none
def ic(c:Nat)(it:MI)(t:MT)(e:ME):ME:=λG S=>bnd (it G S) λsrc S1=>bnd (Cs c t e G src S1) λys S2=>if 3#6<big then some (.ref 8#0,S2++[.lst ys]) else none
theorem pz{c:Nat}{t:MT}{e:ME}{G:Rho}{n:Nat}:∀{f i:Nat}{acc ys:List U}{S S':Sto},iU c t e G n f i acc S=some 4#5->acc.length<=3#6
 |0,i,acc,ys,S,S',h=>by cases h
 | f+1,i,acc,ys,S,S',h=>by
   unfold iU at h;cases q0:getL S n with
   |none=>rw[q0]at h;cases h
   | some vs=>
     rw[q0]at h;simp only[ah]at h;cases z:vs[i]? with
     |none=>rw[z]at h;cases h;exact ak _
     | some x=>
       rw[z]at h;simp only at h;cases q:Fp c x with
       |none=>rw[q]at h;cases h
       | some ws=>
         rw[q]at h;simp only[ah]at h;obtain⟨k,S1,e1,h⟩:=a6 h;cases k with
         | true=>
           obtain⟨y,S2,e2,h⟩:=a6 (show bnd (e (G++ws.map some) S1) (λy S2=>iU c t e G n f (i+1) (acc++[y]) S2)=some 4#5 from h);have:=pz h;simp at this;omega
         |false=>exact pz (show iU c t e G n f (i+1) acc S1=some 4#5 from h)
theorem ph{t:MT}{e:ME}{G:Rho}{n:Nat}:∀{f i:Nat}{acc ys:List U}{S S':Sto},ij t e G n f i acc S=some 4#5->acc.length<=3#6
 |0,i,acc,ys,S,S',h=>by cases h
 | f+1,i,acc,ys,S,S',h=>by
   unfold ij at h;cases q0:getL S n with
   |none=>rw[q0]at h;cases h
   | some vs=>
     rw[q0]at h;simp only[ah]at h;cases z:vs[i]? with
     |none=>rw[z]at h;cases h;exact ak _
     | some x=>
       rw[z]at h;simp only at h;obtain⟨k,S1,e1,h⟩:=a6 h;cases k with
       | true=>
         obtain⟨y,S2,e2,h⟩:=a6 (show bnd (e (G++[some 3#0,some x]) S1) (λy S2=>ij t e G n f (i+1) (acc++[y]) S2)=some 4#5 from h);have:=ph h;rw[aQ]at this;exact aB (d9 _ _) this
       |false=>exact ph (show ij t e G n f (i+1) acc S1=some 4#5 from h)
section
variable {K:KX}{σ:St}{H:Hp}{Q:VK}
theorem ER.pushs{μ:List Addr}:∀{us:List U}{vs:List V}{G:Rho}{σ:St},ER H μ G σ->RUs H μ us vs->ER H μ (G++us.map some) (σ++vs.map some)
 |[],vs,G,σ,er,r=>by rw[r.nil_inv];simpa using er
 | u::us,vs,G,σ,er,r=>by
   obtain⟨v,r',rfl,a,b⟩:=r.inv;have:=ER.pushs (er.push a) b;simpa using this
variable{c:Nat}
theorem GP(r:RU H μ x v)(e:Fp c x=some us):∃a vs,v=.ref a/\SqT K H a vs/\3#7=c/\RUs H μ us vs:=by
 unfold Fp at e
 split at e
 .split at e
  .rename_i hl
   cases e;obtain⟨a,vs,rfl,ha,rs⟩:=iF r;exact⟨a,vs,rfl,.inl (.inl ha),by rw[<-rs.len];exact hl,rs⟩
  .cases e
 .cases e
def HJ(c:Nat)(K:ao)(J:It)(σ:St)(tt:TT)(te:TE)(H1:Hp)(Q:VK):Prop:= ∃W:Nat->Nat->List V->Hp->Prop,(∃m,W 0 m [] H1) /\ ∀i m ys H,W i m ys H->3#6<sizeLine /\
 (24#0 \/
  (J.go i H /\ ∀x H',J.yld i H x H'->gTt K c x H' λτ H2=>tt (σ++τ) H2 λb H3=>if b=true then te (σ++τ) H3 λy H4 =>∃m',m'<m/\W (i+1) m' (ys++[y]) H4 else ∃m',m'<m/\W (i+1) m' ys H3))
variable{ys:List U}
theorem EM{t:MT}{e:ME}{f:Nat}(hr:HR K μ S H)(er:ER H μ G σ)(h:iU c t e G n f 0 [] S=some 4#5)(hz:3#6<big)(k:Aft K μ H 14#3 (S'++[.lst ys]) Q)
  (hp:μ[n]?=some p):HJ c K (Itl K p) σ (tMT K t) (tM K e) H Q:=by
 have VL:ys.length<sizeLine:=by unfold big at hz;rw[sizeLine_eq];exact hz
 refine⟨λi m acc H1=>∃Y0 S1 au,Pre μ Y0/\bp H H1/\HR K Y0 S1 H1/\RUs H1 Y0 au acc/\iU c t e G n m i au S1=some 4#5,29#9,?_⟩;rintro i m acc H1 ⟨Y0,S1,au,p1,k1,Z',ra,e1⟩;have hl:=pz e1;have VD:=ra.len;refine⟨by omega,?_⟩;cases m with
 |zero=>cases e1
 | succ m=>
   unfold iU at e1;cases q0:getL S1 n with
   |none=>rw[q0]at e1;cases e1
   | some us=>
     rw[q0]at e1;simp only[ah]at e1;obtain⟨a',vs,Zz,hs,rs⟩:=Z'.sq q0;rw[p1.get hp]at Zz;cases Zz;cases z:us[i]? with
     | none=>
       rw[z]at e1;cases e1;exact .inl 26#8
     | some u=>
       rw[z]at e1;obtain⟨v,hv,rv⟩:=rs.get z;simp only at e1;cases q:Fp c u with
       |none=>rw[q]at e1;cases e1
       | some ws=>
         rw[q]at e1;simp only[ah]at e1;obtain⟨b,S2,e2,e1⟩:=a6 e1;refine .inr ⟨⟨vs,v,hs,hv⟩,λx H' y=>?_⟩;obtain⟨e',y⟩:=y;subst e';have hx:=y vs hs;rw[hv]at hx;cases hx;obtain⟨a,xs,rfl,hsx,hc,Zx⟩:=GP (K:=K) rv q;refine⟨a,xs,rfl,hsx,hc,?_⟩;have ZT:ER _ Y0 (G++ws.map some) (σ++xs.map some):=ER.pushs 9#3 Zx;refine⟨Y0,S1,_,b,S2,Z',ZT,e2,λY5 H2 p2 k2 ZX=>?_⟩;have Yt:=RUs.mono k2 p2 _ _ ra;cases b with
         | true=>
           obtain⟨y',S3,e3,e1⟩:=a6 (show bnd (e (G++ws.map some) S2) (λy S2=>iU c t e G n m (i+1) (au++[y]) S2)=some 4#5 from e1);refine qP ⟨Y5,S2,_,y',S3,ZX,ZT.mono k2 p2,e3,λY' v3 H3 p3 k3 ZF XC=>?_⟩;exact⟨m,bx _,Y',S3,au++[y'],p1.trans 14#7,k1.trans (k2.trans k3),ZF,(RUs.mono k3 p3 _ _ Yt).append (.cons XC .nil),e1⟩
         | false=>
           exact qp ⟨m,bx _,Y5,S2,au,p1.trans p2,k1.trans k2,ZX,Yt,e1⟩
theorem ED{t:MT}{e:ME}{f:Nat}(hr:HR K μ S H)(er:ER H μ G σ)(h:ij t e G n f 0 [] S=some 4#5)(hz:3#6<big)(k:Aft K μ H 14#3 (S'++[.lst ys]) Q)
  (hp:μ[n]?=some p):HJ 2 K (Ci K p) σ (tMT K t) (tM K e) H Q:=by
 have VL:ys.length<sizeLine:=by unfold big at hz;rw[sizeLine_eq];exact hz
 refine⟨λi m acc H1=>∃Y0 S1 au,Pre μ Y0/\bp H H1/\HR K Y0 S1 H1/\RUs H1 Y0 au acc/\ij t e G n m i au S1=some 4#5,29#9,?_⟩;rintro i m acc H1 ⟨Y0,S1,au,p1,k1,Z',ra,e1⟩;refine⟨by rw[<-ra.len];exact az (ph e1) VL,?_⟩;cases m with
 |zero=>cases e1
 | succ m=>
   unfold ij at e1;cases q0:getL S1 n with
   |none=>rw[q0]at e1;cases e1
   | some us=>
     rw[q0]at e1;simp only[ah]at e1;obtain⟨a',vs,Zz,hs,rs⟩:=Z'.sq q0;rw[p1.get hp]at Zz;cases Zz;cases z:us[i]? with
     | none=>
       rw[z]at e1;cases e1;exact .inl 26#8
     | some u=>
       rw[z]at e1;obtain⟨v,hv,rv⟩:=rs.get z;simp only at e1;refine .inr ⟨⟨vs,v,hs,hv⟩,λx H' y=>?_⟩;obtain⟨T,w,hy,hT,rfl,rfl⟩:=y;have W7:=hy vs hs;rw[hv]at W7;cases W7;have kp:bp H1 (upd H1 T (.tup [.int i,v])):=bp.new hT;have Zx:RUs (upd H1 T (.tup [.int i,v])) Y0 [.int i,u] [.int i,v]:= .cons eQ (.cons (RU.mono kp 2#4 _ _ rv) .nil);refine⟨T,[.int i,v],rfl,.inl (.inl cx),rfl,?_⟩;exact rZ (next:=ij t e G n m (i+1)) (λacc H1=>∃m',m'<m+1 /\ ∃Y0 S1 au,Pre μ Y0/\bp H H1/\HR K Y0 S1 H1/\RUs H1 Y0 au acc/\ij t e G n m' (i+1) au S1=some 4#5) (Z'.tup hT) (ER.pushs ((er.mono k1 p1).mono kp 2#4) Zx) (RUs.mono kp 2#4 _ _ ra) e1 λY5 S2 au2 YA H2 p2 k2 ZX Yt q=>⟨m,bx _,Y5,S2,au2,p1.trans p2,(k1.trans kp).trans k2,ZX,Yt,q⟩
theorem Sz{a:MA}{t:MT}{e:ME}(h:tM K (ic c (mI a) t e) σ H Q):rM (gTt K c) (vI K 8#4) (tMT K t) (tM K e) σ H Q:=by
 obtain⟨μ,S,G,u,S',hr,er,e0,k⟩:=h;obtain⟨src,S1,e1,e0⟩:=a6 e0;obtain⟨ys,S2,e2,e0⟩:=a6 e0
 split at e0
 .rename_i hz
  cases e0;refine Dp hr er e1 λY0 H1 n p p1 k1 Z' hs hp=>?_
  .subst hs
   have e2:(if c=2 then ij t e G n fuel 0 [] S1 else none)=some (ys,S2):=e2
   split at e2
   .rename_i hc
    subst hc;exact ED Z' 9#3 e2 hz 12#1 hp
   .cases e2
 .cases e0
theorem SM{a:ME}{t:MT}{e:ME}(h:tM K (ic c (bZ a) t e) σ H Q):rM (gTt K c) 24#3 (tMT K t) (tM K e) σ H Q:=by
 obtain⟨μ,S,G,u,S',hr,er,e0,k⟩:=h;obtain⟨src,S1,e1,e0⟩:=a6 e0;obtain⟨ys,S2,e2,e0⟩:=a6 e0
 split at e0
 .rename_i hz
  cases e0;refine yH hr er e1 25#1 λY0 H1 n p p1 k1 Z' hs hp=>?_
  .subst hs
   cases (show none=some (ys,S2) from e2)
  .subst hs
   exact EM Z' 9#3 e2 hz 12#1 hp
 .cases e0
end
section
variable {prog:Program}{w:World}{A:Around}{E:Value->Shared->Prop}{s:Shared}
variable{r:Addr}
theorem wX{Q:List Value->Shared->Prop}{a b c:Int}{t u v:Tok}(hh:A.handled=none)(hr:IsRange s.heap r a b c t u v)(Zv:nS a b c=true)
  (hn:d6 a b c=n) (hlen:n<=2^24)
  (hQ:∀(h':Heap) (tk:Nat) (acc:Array Value),29#7->1#2<=16#3->ItemsOf (λi v=>∃t,v=.int (a+i*c) t) acc n->Q acc.toList { s with heap:=h',toks:=tk }):
  aT 4#9 A (collect (.ref r)) Q E s:=by
 unfold collect;refine ax (JD (fA sN ?_));rw[ee sP _];show aT _ A.in1 (newList [] >>= fun l=>again (.builtin "list.__iadd__" ⟨[l,.ref r],[]⟩)) _ _ s;refine ax 30#4;rw[ee hZ _];have hS:(s.heap.push { cls := .type "list",data := .seq ([]:List Value).toArray }).get? 1#2=some { cls := .type "list",data := .seq #[] 0 }:=aH _ rfl;have lt:∀b o,s.heap.get? b=some o->b≠1#2:=λb o e=>aS (aG e)
 refine cf (wpAny_extend_range (A:=A) (R:=λx s' =>∃h' tk acc c',x = .ok (.ret (.ref 1#2))/\s'={ s with heap:=h',toks:=tk }/\29#7 /\
   h'.get? s.heap.objs.size=some { cls := .type "list",dict:=none,data := .seq acc c',slots := #[] }/\ItemsOf (fun i v => ∃ t,v = .int (a+i*c) t) acc n)
  (s:={ s with heap:=s.heap.push { cls := .type "list",data := .seq ([]:List Value).toArray } }) hh (ar _ hr) Zv hn hlen s.heap.objs.size (.ref 1#2) 0 hS
  λh' tk acc c' hk Xd ZN=>⟨h',tk,acc,c',rfl,rfl,λb o e=>hk b o (lt b o e) (ar _ e),Xd,ZN⟩) (λfin s' h =>?_) (λe s' h=>by obtain⟨_,_,_,_,h,_⟩:=h;cases h)
 have Yo: ∀x s',(∃h' tk acc c',x=(.ok (.ret (.ref 1#2)):Result)/\s'={ s with heap:=h',toks:=tk }/\29#7 /\
   h'.get? s.heap.objs.size=some { cls := .type "list",dict:=none,data := .seq acc c',slots := #[] }/\ItemsOf (fun i v=>∃ t,v=.int (a+i*c) t) acc n)->x=.ok (.ret (.ref s.heap.objs.size))/\aT (model prog w) A (match bw s.heap.objs.size with
   | bw a=>do
     match (<- load a).data with
      |JK xs _=>pure xs.toList
      |_=>unsupported "internal:collect"
   | _=>unsupported "internal:collect") Q E s':=by
  rintro x s' ⟨h',tk,acc,c',rfl,rfl,hk,Xd,ZN⟩;refine⟨rfl,?_⟩;show aT _ A (load 1#2 >>= _) _ _ _;refine ax (Jz Xd (aJ ?_));exact hQ h' tk acc hk (aV (aG Xd)) ZN
 cases fin with
 | done f=>
   obtain⟨e,q⟩:=Yo _ _ h;cases e;exact q
 | again c'=>exact⟨h.1,iK h.2 λr s'' hr=>by
   obtain⟨e,q⟩:=Yo _ _ hr;subst e
   exact q⟩
theorem mU{Q₁:Value->Shared->Prop}{a b c:Int}{t u v:Tok}(hh:A.handled=none)(hr:IsRange s.heap r a b c t u v)(Zv:nS a b c=true)
  (hn:d6 a b c=n) (hlen:n<=2^24)
  (h :∀ (h':Heap) (tk:Nat) (acc:Array Value),(∀ b o,s.heap.get? b=some o->h'.get? b=some o)->1#2<=16#3->ItemsOf (fun i v=>∃ t,v=.int (a+i*c) t) acc n->Q₁ (.ref 16#3) { s with heap:=h'.push { cls := .type "tuple",data := .seq acc },toks:=tk }) :
  oZ 4#9 A (.call (.builtin "tuple.__new__") ⟨[.type "tuple",.ref r],[]⟩) (wants Q₁ E) s:=by
 refine codeAny_of_tree ?_;show aT _ A.in1 (do checkBuiltinCall "tuple.__new__" ⟨[.type "tuple",.ref r],[]⟩;again (.builtin "tuple.__new__" ⟨[.type "tuple",.ref r],[]⟩)) _ _ s;refine ax (wpAny_of_eq (F.newCall_tuple_1 _) (aJ ⟨plainId_quiet F.plain_tuple_new _,fA F.entry_tuple_new ?_⟩));rw[ee F.plain_tuple_new _];have hsub:=sub_tuple_self;have hinit:=init_tuple_lookup;have hmh:=madeHere_tuple;have hTI:s.TypeIs (.ref r) "range":=⟨_,hr,rfl⟩;have hh1:A.in1.handled=none:=hh
 wp_walk using ke hTI,wX hh1 hr Zv hn hlen
 intro h' tk acc hk hle ZN;show aT _ _ (dX acc.toList.toArray >>= λv=>ret v) _ _ _;unfold dX;refine ax (dF ?_ (by show acc.toList.toArray.size<=sizeLine;simp only[Array.toArray_toList];rw[ZN.1,sizeLine_eq];exact hlen));refine aJ ?_;have e:acc.toList.toArray=acc:=by simp
 rw[e];exact h h' tk acc hk hle ZN
theorem r9{a b c:Int}{t u v:Tok}(hh:A.handled=none)(hr:IsRange s.heap r a b c t u v)(Zv:nS a b c=true)
  (hn:d6 a b c=n) (hlen:n<=2^24)
  (h :∀ (h':Heap) (tk:Nat) (acc:Array Value),(∀ b o,s.heap.get? b=some o->h'.get? b=some o)->1#2<=16#3->ItemsOf (fun i v=>∃ t,v=.int (a+i*c) t) acc n->Q (.ref 16#3) { s with heap:=h'.push { cls := .type "tuple",data := .seq acc },toks:=tk }) :
  aT 4#9 A (call (.type "tuple") [.ref r]) Q E s:=by
 refine callType_codes (Q₁:=fun obj ZU=>ZU.TypeIs obj "tuple"/\Q obj ZU) F.called_tuple (F.typeCall_tuple_1 _) F.entry_object_init
  (mU hh hr Zv hn hlen λh' tk acc hk hle ZN=>⟨⟨_,aH _ rfl,rfl⟩,h h' tk acc hk hle ZN⟩) λobj ZU Zb=>?_
 exact⟨Zb.1,F.args_object_init_2 obj _,object_init_meets F.called_tuple.init.lookup F.called_tuple.made 0#1 prog w A.in1 _ ZU ⟨Zb.1,rfl,Zb.2⟩⟩
end
theorem wu (hc:X.calm=true):gZ X (.type "tuple") (fun xs H Q=>∃ r lo hi,xs=[.ref r]/\H r=some (.rng lo hi)/\(-(2^62)<=lo/\lo<2^62 /\ -(2^62)<=hi/\hi<2^62)/\(hi-lo).toNat<=sizeLine /\ ∀ l,H l=none->Q (.ref l) (upd H l (.tup 21#0))):=by
 intro pins s σ H xs us Q I rs h;obtain⟨r,lo,hi,rfl,hr,⟨h1,h2,h3,h4⟩,hz,q⟩:=h;cases rs with
 | cons r1 rr=>
   cases rr;cases (show _=bw r from r1);obtain⟨t,u,v,e⟩:=I.hok r _ hr;have hn:d6 lo hi 1=((hi-lo).toNat:Nat):=by rw[rangeSize_one];split<;>omega
   refine r9 (n:=(hi-lo).toNat) 11#6 e (small_one h1 h2 h3 h4) hn (by rw[sizeLine_eq]at hz;exact hz) λh' tk acc hk hle ZN=>?_;obtain⟨hsz,hit⟩:=ZN;refine⟨.ref 16#3,_,I.laid (t':=tk) (o:= .tup 21#0) (λb o e=>ar _ (hk b o e)) hle ?_,rfl,q _ (I.hok.fresh hle)⟩;refine⟨by rw[mJ,ay,br];exact hz,acc.toList,?_,nR _ _,_,aH _ rfl,rfl⟩;refine za (by rw[mJ,ay,br,kK,hsz]) λi x w h5 h6=>?_;have ZV:i<(hi-lo).toNat:=by
    have:=(af.mp h5).1;rwa[mJ,ay,br]at this
   have hx:(mJ lo (hi-lo).toNat)[i]?=some (.int (lo+i)):=by simp[mJ,ZV]
   rw[hx]at h5;cases h5;obtain⟨t',e'⟩:=hit i w (by simpa using h6);exact⟨t',by rw[e'];simp⟩
section
variable {K:KX}{σ:St}{H:Hp}{Q:VK}
def rTR:List V->Hp->VK->Prop:=λxs H Q=>∃r lo hi,xs=[.ref r]/\H r=some (.rng lo hi)/\(-(2^62)<=lo/\lo<2^62 /\ -(2^62)<=hi/\hi<2^62)/\(hi-lo).toNat<=sizeLine /\ ∀l,H l=none->Q (.ref l) (upd H l (.tup 21#0))
theorem II{S1:Sto}{i j:Int}{r:Addr}(Z':HR K μ S1 H)(ho:okR i/\okR j)(hz:(bj i (j-i).toNat).length<=big)(k:Aft K μ H (.tup (bj i (j-i).toNat)) S1 Q)(Yp:H r=none):rTR [.ref r] (upd H r (.rng i j)) Q:=by
 refine⟨r,i,j,rfl,cx,⟨ho.1.1,ho.1.2,ho.2.1,ho.2.2⟩,?_,λl hl=>?_⟩
 .unfold bj big at hz;rw[ay,br]at hz;rw[sizeLine_eq];exact hz
 .have k2:=k.mono 2#4 (bp.new Yp (o:= .rng i j))
  exact k2 μ _ _ 2#4 (bp.new hl) ((Z'.rng Yp).tup hl) (iX cx (RUs.mono (bp.new hl) 2#4 _ _ (DE _ _)))
theorem KO{a:MA}(h:tM K (vK (iR1 a)) σ H Q):tCB rTR (wt (Jl 8#4) B5) σ H Q:=by
 obtain⟨μ,S,G,u,S',hr,er,e,k⟩:=h;obtain⟨src,S1,e1,e⟩:=a6 e;obtain⟨xs,S2,e2,e1⟩:=a6 e1;refine 28#2
 split at e1
 .rename_i j
  split at e1
  .rename_i hj
   cases e1;simp only at e
   split at e
   .rename_i hz
    cases e;obtain⟨v,r,rfl,rx,rn⟩:=rs.inv;rw[rn.nil_inv,dA rx];refine⟨j,rfl,hj.1,hj.2,λr Yp=>?_⟩;have ez:(j-0).toNat=j.toNat:=by simp
    exact II (i:=0) Z' ⟨16#6,hj⟩ (by rw[ez];exact hz) (by rw[ez];exact k.mono p1 k1) Yp
   .cases e
  .cases e1
 .cases e1
end
def wZ(i:Nat)(f:Addr)(φ:MF)(a:MA):ME:=λG S=>match G[i]? with
 |some (some (.obj g))=>if g=f then mFn φ a G S else none
 |_=>none
def jw(is:List Nat)(G:Rho):Option (List U):=dG (λi=>(G[i]?).bind id) is
def nc(np:Nat)(ml:ME)(cs:List U):MF:=λus S=>if 1#1=np then ml (us.map some++cs.map some) S else none
def kT(F:Addr->MF->MF)(np:Nat)(is:List Nat)(ml:ME)(ma:ME):ME:=λG S=>bnd (ma G S) λx S1=>(jw is G).bind λcs=>
 open Classical in
 if h:∃r,∀f,F f (nc np ml cs) [x,.obj f] S1=some r then some h.choose else none
theorem vQ{F:Addr->MF->MF}{np:Nat}{is:List Nat}{ml ma:ME}{S1:Sto}{cs:List U}{r:U×Sto}(ha:ma G S=some (x,S1))(hc:jw is G=some cs)(h:∀f,F f (nc np ml cs) [x,.obj f] S1=some r):
  kT F np is ml ma G S=some r:=by
 have hx:∃r,∀f,F f (nc np ml cs) [x,.obj f] S1=some r:=⟨r,h⟩;unfold kT;rw[ha];simp only[aw,hc,ah];rw[dif_pos hx];have e:=(hx.choose_spec 0).symm.trans (h 0);exact e
structure Lam(M:Mo)(f:Addr)(k:Nat)(ps:List Str)(φ:MF):Prop where
 ex:∃fd:FuncData,((∃(oc:Value) (od:Option Addr) (sl:Array (Option Value)),M.base.get? f=some ⟨oc,od,.func fd,sl⟩)\/cZ M.K (.ref f)=true)/\Binds M.K fd ps []/\jx M.P M.w M.K M.mg M.base CX0 k f fd ps (spM M.K φ)
section
variable {M:Mo}{X:Cx}{k:Nat}{N:List Str}{ns:List (Str×NameKind)}{e:Expr}{es:List Expr}{ZS:MA}{x:Str}{p1 pos:Pos}
theorem JZ{φ:MF}{k':Nat}(S:Sc M X k N ns)(F:Lam M f k' ps φ)(hk:k'<=k)(i:Nat)(hi:N[i]?=some x)(hv:pK ns x=true)(ha:PA X 2#5 4#0)
  (hd:9#1=false) (ZC:23#3=false)
  (he:starEach 2#5 X.env=21#4::starEach es X.env) (ZP:(backTo pos 13#1).any (·.1)=false):
  PE X (.Call 13#5 2#5 [] pos) (tM M.K (wZ i f φ ZS)):=by
 obtain⟨fd,hf,hb,F⟩:=F.ex;rw[<-S.hP,<-S.hw,<-S.hK,<-S.hm,<-S.hb]at F;rw[<-S.hb,<-S.hK]at hf;rw[<-S.hK]at hb;intro pins s σ H Q I h;obtain⟨μ,S0,G,u,S',hr,er,q,aft⟩:=h;unfold wZ at q
 split at q
 rotate_left
 .cases q
 rename_i g hg
 split at q
 rotate_left
 .cases q
 rename_i hgf
 subst hgf;obtain⟨v,X0,rv⟩:=er.get i _ hg;have hv':v=.ref g:=by simpa only [RU]using rv
 subst hv';refine dP (thn (wC (X:=X) (by rw[S.hN];exact hi) (S.vis hv) hd ZC pins s σ H (λv H1=>v=.ref g/\H1=H) I ⟨_,X0,rfl,rfl⟩) λw s1 ⟨v,H1,I1,r1,e1,e2⟩=>?_);subst e1;subst e2;obtain rfl:w=bw g:=r1;have hc:DL (spM M.K φ) [] E0 4#0 σ H1 Q:=GJ ⟨μ,S0,G,u,S',hr,er,q,aft⟩;have hA:=ha pos pins s1 σ H1 _ I1 hc;rcases hf with⟨oc,od,sl,hf⟩ |hf
 rotate_left
 .exact la (h₀:=X.base) I1.ok.mod.kin hf (thn hA λus s2 ⟨vs,H2,I2,r2,q2⟩=>⟨I2.kIn,uE F 14#2 hb .nil xM I2 r2 q2⟩) he ZP
 rw[he];refine FZ (P:=λh=>h.get? g=some ⟨oc,od,.func fd,sl⟩) (by show((false||(backTo pos 13#1).any (·.1))||false)=false;rw[ZP];rfl)
  (λh q=>⟨.frame,.inl rfl,(rE (part:=none) q).andThen .now⟩) (kf ?_)
 rw[he]at hA;refine thn hA λus s2 ⟨vs,H2,I2,r2,q2⟩=>⟨I2.bk g _ hf,?_⟩;exact uE F 14#2 hb .nil xM I2 r2 q2
end
end _G
namespace _G
open PySem PySem.Spec _L
open PySem.W (envX kla_fn kla_obj CodeHd tabObj)
open PyProof.Rows hiding St
structure jf(ps fs:List Str)(scope:Scope):Prop where
 kind:scope.kind=.function
 co:scope.isCoroutine=false
 gen:scope.isGenerator=false
 nd:(ps++fs).Nodup
 par:∀p∈ps,scope.names.lookup p=some .local\/scope.names.lookup p=some .cell
 cel:∀x∈scope.names,x.2=.cell->scope.names.lookup x.1=some .cell
 fre:∀y∈scope.names,y.2=.free->y.1∈fs
 free:∀y∈fs,scope.names.lookup y=some .free
theorem pI:∀(names:List 6#9) (n:Nat) (a b:List 6#3),cellsFrom n names (a++b)=cellsFrom n names a++b
 |[],_,_,_=>rfl
 | (x,k)::r,n,a,b=>by
   unfold cellsFrom;cases k==dI with
   |true=>exact pI r (n+1) ((x,n)::a) b
   |false=>exact pI r n a b
theorem Fx(names:List 6#9)(n:Nat)(b:List 6#3):cellsFrom n names b=cellsFrom n names []++b:=pI names n [] b
theorem rL:∀(names:List 6#9) (n:Nat) (a:List 6#3) {x:Str}{c:Addr},(x,c)∈cellsFrom n names a->(x,dI)∈names\/(x,c)∈a
 |[],_,_,_,_,h=>.inr h
 | (y,k)::r,n,a,x,c,h=>by
   unfold cellsFrom at h
   split at h
   .rename_i hk
    rcases rL r (n+1) _ h with h|h
    .exact .inl (aE _ h)
    .rcases a7.mp h with e|h
     .cases e;rw[eq_of_beq hk];exact .inl bc
     .exact .inr h
   .exact(rL r n a h).imp (aE _) id
variable{x:Str}
theorem hJ{α:Type}{c:α}:∀{a b:List (Str×α)},a.lookup x=some c->(a++b).lookup x=some c
 |a,b,h=>by rw[iQ,h];rfl
theorem jr{α:Type}:∀{a b:List (Str×α)},a.lookup x=none->(a++b).lookup x=b.lookup x
 |a,b,h=>by rw[iQ,h];rfl
theorem iV{α:Type}{c:α}{a b:List (Str×α)}(h:(a++b).lookup x=some c):a.lookup x=some c\/(a.lookup x=none/\b.lookup x=some c):=by
 cases q:a.lookup x with
 |some d=>rw[hJ q]at h;exact .inl h
 |none=>rw[jr q]at h;exact .inr ⟨rfl,h⟩
theorem uG{f g:Str×Value->PUnit->Sem (ForInStep PUnit)}:∀{l:List (Str×Value)},(∀x∈l,∀u,f x u=g x u)->forIn l t9 f=forIn l t9 g
 |[],_=>rfl
 | x::l,h=>by
   rw[kM,kM,h x bc];have ih:=uG (l:=l) λy hy=>h y (aE _ hy)
   congr 1
   funext r
   cases r with
   |done u=>rfl
   |yield u=>exact ih
variable{env:Env}
theorem BS{cs:List (Str×Addr)}{v:Value}(h:env.kindOf x=some .local\/env.cells.lookup x=cs.lookup x):storeName env x v=storeName { env with cells:=cs } x v:=by
 rcases h with h|h
 .have h':Env.kindOf { env with cells:=cs } x=some .local:=h
  unfold storeName;rw[h,h'];rfl
 .have e:cellOf env x=cellOf { env with cells:=cs } x:=by unfold cellOf;rw[h]
  unfold storeName;rw[e];rfl
variable{A:Around}{scope:Scope}{cl:List (Str×Addr)}{qual:Str}
theorem DQ{M:Model}{E:Value->Shared->Prop}{s:Shared}{g:Addr}{binds:List (Str×Value)}{func:Option Addr}{code:Value}{bt:Addr}{Q:Env->Shared->Prop}(hk:14#9=.function)
  (hb:∀x∈binds,scope.names.lookup x.1=some .local\/scope.names.lookup x.1=some .cell)
  (hQ: ∀s',InCallC s s.heap.objs.size (bindL (λx=>scope.names.lookup x) binds λ_=>none) 17#9 (bindC (λx=>scope.names.lookup x) binds λ_=>none) s' ->
   Q (newEnv scope s.heap.objs.size g (cellsFrom (s.heap.objs.size+1) scope.names []++cl) qual func code none bt) s'):
  aT M A (newFunctionEnv scope g cl binds qual func code none bt) Q E s:=by
 have ok:CellsOk (pushCells (s.heap.push { cls := .type "frame",data := .dict #[] }) 4#3) (1#2+1) (cellsFrom (s.heap.push { cls := .type "frame",data := .dict #[] }).objs.size scope.names []):=
  cellsFrom_ok scope.names _ _ [] ⟨λ_ _ z=>(nomatch z),iu⟩ (by rw[bS];exact ak _)
 rw[bS]at ok;have inC:InCallC s s.heap.objs.size (fun _=>none) 17#9 (fun _=>none) { s with heap:=pushCells (s.heap.push { cls := .type "frame",data := .dict #[] }) scope.names }:=
  ⟨⟨⟨_,s.toks,rfl⟩,(Heap.Ns.new s.heap (.type "frame")).keeps fun b o e=>pushCells_keeps _ _ b o e,fun b o e=>pushCells_keeps _ _ b o (ar _ e),ak _⟩,
   λn c hc=>(ok.empty n c (mem_of_lookup hc)).1,ok.apart,λn c hm=>Nat.lt_of_succ_le (ok.empty n c hm).2⟩
 simp only[newFunctionEnv,Option.isSome_none,fU,if_false];refine ax (wpAny_alloc (ax (wpAny_layCells _ (λnm kd cs=>by cases q:kd==dI<;>simp[q]) _ _ _ _ ?_)));rw [show ({ s with heap:=s.heap.push { cls := .type "frame",data := .dict #[] } }:Shared).heap.objs.size=1#2+1 from bS ..,Fx];refine ax ?_;have same:∀x∈binds,∀v:Value,storeName (newEnv scope s.heap.objs.size g (cellsFrom (1#2+1) scope.names []++cl) qual func code none bt) x.1 v=storeName (newEnv scope s.heap.objs.size g 17#9 qual func code none bt) x.1 v:=λx hx v=>by
  refine BS (env:=newEnv scope s.heap.objs.size g (cellsFrom (1#2+1) scope.names []++cl) qual func code none bt) ?_;rcases hb x hx with h|h
  .exact .inl h
  .obtain⟨c,hc⟩:=jY (n:=1#2+1) h
   exact .inr (by rw[hc];exact hJ hc)
 show aT M A (forIn binds t9 λx _=>(do storeName (newEnv scope s.heap.objs.size g (cellsFrom (1#2+1) scope.names []++cl) qual func code none bt) x.1 x.2;pure (dQ t9))) _ E _;rw[uG (g:=λx _=>(do storeName (newEnv scope s.heap.objs.size g 17#9 qual func code none bt) x.1 x.2;pure (dQ t9))) λx hx u=>by rw[same x hx]];refine wpAny_bindParams (s₀:=s) (env:=newEnv scope s.heap.objs.size g 17#9 qual func code none bt) _ (λ_ _ _=>rfl) hk binds _ _ _ _ inC (λx hx=>?_) λs' x=>aJ (hQ s' x);rcases hb x hx with h |h
 .exact .inl h
 .obtain⟨c,hc⟩:=jY (n:=1#2+1) h
  exact .inr ⟨h,by show((cellsFrom (1#2+1) scope.names []).lookup x.1).isSome=true;rw[hc];rfl⟩
def nN(base:Heap)(cl:List 6#3):List Str->List V->Prop
 |[],[]=>True
 |y::fs,v::vs=>(∃c o u,cl.lookup y=some c/\base.get? c=some o/\o.data=.cell (some u)/\RelV v u)/\nN base cl fs vs
 |_,_=>False
theorem nN.len{base:Heap}{cl:List (Str×Addr)}:∀{fs:List Str}{vs:List V},nN base cl fs vs->fs.length=3#7
 |[],[],_=>rfl
 |_::_,_::_,h=>by simp[nN.len h.2]
 |[],_::_,h=>h.elim
 |_::_,[],h=>h.elim
theorem nN.get{base:Heap}{cl:List (Str×Addr)}:∀{fs:List Str}{vs:List V}{i:Nat}{y:Str}{v:V},nN base cl fs vs->fs[i]?=some y->vs[i]?=some v->∃c o u,cl.lookup y=some c/\base.get? c=some o/\o.data=.cell (some u)/\RelV v u
 |[],_,i,y,v,_,h1,_=>by simp at h1
 |_::_,[],i,y,v,h,_,_=>h.elim
 | _::_,_::_,0,y,v,h,h1,h2=>by
   simp at h1 h2;subst h1;subst h2;exact h.1
 |_::_,_::_,i+1,y,v,h,h1,h2=>nN.get (i:=i) h.2 (by simpa using h1) (by simpa using h2)
def pB(qual:Str)(scope:Scope)(L f:Addr)(cd:Value)(cl:List 6#3):Env:=envX qual scope L f cd (cellsFrom (L+1) scope.names []++cl)
def AK(P:Program)(w:World)(K:ao)(mg:Str->Option Value)(base:Heap)(N:List Str)(qual:Str)(scope:Scope)(f:Addr)(cd:Value)(cl:List 6#3)(A:Around)(outer:List Env)(s:Shared)(H:Hp):Cx where
 prog:=P
 w:=w
 K:=K
 mg:=mg
 base:=base
 A:=A.deeper (pB qual scope s.heap.objs.size f cd cl)
 N:=N
 s₀:=s
 H₀:=H
 env:=pB qual scope s.heap.objs.size f cd cl
 outer:=outer
 stack:=pB qual scope s.heap.objs.size f cd cl::outer
 ex:= []
 calm:=true
 fn:=λx=>scope.names.lookup x==some .cell
 pn:= []
 xe:=λ_ _=>False
variable{mg:Str->Option Value}{ps:List Str}{f:Addr}{us:List Value}
theorem Ds{P:Program}{w:World}{K:ao}{base:Heap}{fs:List Str}{cd:Value}{outer:List Env}{s s1:Shared}{H:Hp}{vs cv:List V}
  (S:jf ps fs scope) (hd:A.handled=none) (e0:E6 P w K mg base A outer s H) (hl:3#7=7#1) (r:cz vs us) (C:nN base cl fs cv)
  (Yn:∀y c,cl.lookup y=some c->∃o v,base.get? c=some o/\o.data=.cell v) (inj:∀x y c,cl.lookup x=some c->cl.lookup y=some c->x=y)
  (x:InCallC s s.heap.objs.size (bindL (λy=>scope.names.lookup y) (ps.zip us) λ_=>none) 17#9 (bindC (λy=>scope.names.lookup y) (ps.zip us) λ_=>none) s1):
  Inv (AK P w K mg base (ps++fs) qual scope f cd cl A outer s H) [] (vs.map some++cv.map some) H s1:=by
 obtain⟨h1,tk,rfl,hk⟩:=x.done;have Wv:ps.Nodup:=(jl.mp S.nd).1;have newc:∀y c,(cellsFrom (1#2+1) scope.names []).lookup y=some c->scope.names.lookup y=some .cell/\1#2<c:=λy c e=>by
  have m:=mem_of_lookup e;rcases rL _ _ _ m with z|z
  .exact⟨S.cel _ z rfl,x.above y c m⟩
  .simp at z
 have oldc:∀y c,cl.lookup y=some c->c<1#2/\(∃v,h1.IsCell c v)/\H c=none:=λy c e=>by
  obtain⟨o,v,e1,e2⟩:=Yn y c e;exact⟨aG (e0.bs c o e1).1,⟨v,o,hk _ _ (e0.bs c o e1).1,e2⟩,(e0.bs c o e1).2⟩
 have frc:∀y∈fs,(cellsFrom (1#2+1) scope.names []).lookup y=none:=λy hy=>by
  cases q:(cellsFrom (1#2+1) scope.names []).lookup y with
  |none=>rfl
  | some c=>
    have:=(newc y c q).1;rw[S.free y hy]at this;cases this
 have noA:∀b:Addr,b∉(AK P w K mg base (ps++fs) qual scope f cd cl A outer s H).ex:=λb z=>absurd (show b∈([]:List Addr) from z) 0#6
 refine⟨⟨e0.mod,S.kind,rfl,rfl,ak _,λy z c e1 e2 =>?_,λy hy =>?_,λy c hy e =>?_,λ_=>hd,FY e0.frames,.inr ⟨rfl,rfl⟩,λb z=>absurd z (noA b),e0.bs,e0.bsz,λb _ _=>noA b,λb z=>absurd z (noA b),e0.funs,e0.frf⟩,
  rfl,e0.bare,Un.kept hk,⟨_,x.toInCall.ns,λi y v h2 h3 h4 =>?_⟩,λy c h =>?_,e0.hok.fresh (ak _),λy c h =>?_,λp hp=>absurd (show p∈([]:List (Addr×Obj)) from hp) (by simp),e0.hok.kept hk,?_⟩
 .rcases iV e1 with e1|⟨_,e1⟩
  .rcases iV e2 with e2|⟨_,e2⟩
   .exact name_of_addr x.apart (mem_of_lookup e1) (mem_of_lookup e2)
   .exact absurd (dc (newc y c e1).2 (oldc z c e2).1) (bP _)
  .rcases iV e2 with e2|⟨_,e2⟩
   .exact absurd (dc (newc z c e2).2 (oldc y c e1).1) (bP _)
   .exact inj y z c e1 e2
 .have hy:scope.names.lookup y=some .cell\/scope.names.lookup y=some .free:=hy
  rcases hy with hy|hy
  .obtain⟨c,hc⟩:=jY (n:=1#2+1) hy
   exact⟨c,hJ hc⟩
  .have hf:=S.fre _ (mem_of_lookup hy) rfl
   obtain⟨i,hi⟩:=List.getElem?_of_mem hf;have hi2:i<cv.length:=by rw[<-C.len];exact(af.mp hi).1
   obtain⟨c,o,u,e,_⟩:=C.get hi (aI hi2);exact⟨c,(jr (frc y hf)).trans e⟩
 .rcases iV e with e|⟨_,e⟩
  .exact aV (newc y c e).2
  .have W6:scope.names.lookup y=some .cell:=eq_of_beq hy
   obtain⟨c',VQ⟩:=jY (n:=1#2+1) W6
   rename_i z
   rw[VQ]at z;cases z
 .have hN:(ps++fs)[i]?=some y:=h2
  by_cases hi:i<7#1
  .rw[aK hi]at hN
   rw[aK (by simpa [hl]using hi),bE]at h3;cases e:vs[i]? with
   |none=>rw[e]at h3;cases h3
   | some a=>
     rw[e]at h3;cases h3;obtain⟨u,hu,rv⟩:=r.get e;refine⟨u,rv,?_⟩;rcases S.par y (bu hN) with kd|kd
     .exact .inl ⟨kd,rV Wv hN hu kd⟩
     .obtain⟨c,hc⟩:=jY (n:=1#2+1) kd
      refine .inr ⟨.inl kd,c,hJ hc,?_⟩;have z:=x.cell y c hc;rw[rQ Wv hN hu (by show scope.names.lookup y≠_;rw[kd];decide)]at z;exact z
  .rw[aq 16#9]at hN
   rw[aq 14#4,bE]at h3;simp only[ay,hl]at h3;cases e:cv[i-7#1]? with
   |none=>rw[e]at h3;cases h3
   | some a=>
     rw[e]at h3;cases h3;have hf:=bu hN;obtain⟨c,o,u,e1,e2,e3,e4⟩:=C.get hN e;exact⟨u,e4,.inr ⟨.inr (S.free y hf),c,(jr (frc y hf)).trans e1,o,hk _ _ (e0.bs c o e2).1,e3⟩⟩
 .rcases iV h with e|⟨_,e⟩
  .exact⟨_,x.cell y c e⟩
  .exact(oldc y c e).2.1
 .rcases iV h with e|⟨_,e⟩
  .exact e0.hok.fresh (aV (newc y c e).2)
  .exact(oldc y c e).2.2
 .show(vs.map some++cv.map some).length=(ps++fs).length
  simp[hl,C.len]
variable{params:Arguments}{body:Expr}{pm:Value}{oc:Obj}{ws:Array Value}
theorem G6{M:Mo}(h0:M.mkr=none){name:Str}{Zy:Value}{c:Addr}{t:Tok}{fs:List Str}{k:Nat}{ml:ME}{od:Option Addr}{fc:Value}{fsl:Array (Option Value)}
  (hf:M.base.get? f=some ⟨fc,od,.func (kla_fn name qual params body scope cl pm (.ref c) Zy),fsl⟩) (hc:(c,oc)∈M.K.cds) (Zo:oc.data=.fields ws) (hq:ws[1]?=some (.str qual t))
  (S:jf ps fs scope) (C:nN M.base cl fs M.K.capv) (Yn:∀y c,cl.lookup y=some c->∃o v,M.base.get? c=some o/\o.data=.cell v) (inj:∀x y c,cl.lookup x=some c->cl.lookup y=some c->x=y)
  (hb:∀X,Sc M X k (ps++fs) 4#3->PE X body (tM M.K ml)):
  jx M.P M.w M.K M.mg M.base CX0 (k+1) f (kla_fn name qual params body scope cl pm (.ref c) Zy) ps (spM M.K (nc ps.length ml M.K.caps)):=by
 have len:∀vs H Q E,spM M.K (nc ps.length ml M.K.caps) vs H Q E->3#7=7#1:=λvs H Q E h=>by
  obtain⟨μ,S',us,u,Zh,hr,rs,e,_⟩:=h;unfold nc at e
  split at e
  .rename_i hl;rw[<-rs.len];exact hl
  .cases e
 refine⟨len,λA outer s H args us vs Q E hr e0 YJ r Zr=>?_⟩;have hl:=len _ _ _ _ Zr;obtain⟨μ,S1,zs,u,S2,hR,rs,e,ka⟩:=Zr;have Vm:s.heap.get? c=some oc:=(e0.hok c _ (hR.ext.cds _ hc)).1;have lim:s.heap.NoLimit:=e0.mod.nolimit.keeps λb o e=>(e0.bs b o e).1;refine FS hr.depth (e0.bs f _ hf).1 rfl S.co S.gen rfl ⟨c,oc,ws,t,rfl,Vm,Zo,hq⟩ (YJ _ _ _ _ ?_);refine DQ S.kind (λx hx=>S.par _ (kJ hx).1) λs1 x=>⟨lim.keeps x.toInCall.keep,?_⟩;show oZ _ _ (.expr body (pB qual scope s.heap.objs.size f (.ref c) cl)) _ _;have I:=Ds (qual:=qual) (f:=f) (cd:= .ref c) S hr.hd e0 hl r C Yn inj x;have SS:Sc M (AK M.P M.w M.K M.mg M.base (ps++fs) qual scope f (.ref c) cl A outer s H) k (ps++fs) 4#3:=
  ⟨rfl,rfl,rfl,rfl,rfl,rfl,S.nd,rfl,λ_ h=>h,λy h=>⟨h,by show 25#7=true;rw[h];rfl⟩,λ_ h=>.inr h,λ_ h=>h,hr.deeper _,mP,λc q h=>by rw[h0]at h;cases h⟩
 unfold nc at e
 split at e
 rotate_left
 .cases e
 have er:ER H μ (zs.map some++M.K.caps.map some) (vs.map some++M.K.capv.map some):=by
  have all:=rs.append hR.ext.cap;refine⟨by simp[rs.len,hR.ext.cap.len],λi w hw=>?_⟩;rw[<-cQ,bE]at hw;cases q:(zs++M.K.caps)[i]? with
  |none=>rw[q]at hw;cases hw
  | some w'=>
    rw[q]at hw;cases hw;obtain⟨v,hv,rv⟩:=all.get q;exact⟨v,by rw[<-cQ,bE,hv];rfl,rv⟩
 refine FT (cf (hb _ SS [] _ _ H Q I ⟨μ,S1,_,u,S2,hR,er,e,ka⟩) (λv s' hs=>?_) λe s' hs=>hs.elim);obtain⟨x,H',J,rv,q⟩:=hs;exact⟨x,H',J.os,J.bare,J.base,J.hok,rv,q⟩
def eX(cells:List 6#3):List 6#9->List 6#3->List 6#3
 |[],acc=>acc
 | (y,k)::r,acc=>if k==.free then(match cells.lookup y with
   |some c=>eX cells r ((y,c)::acc)
   | none=>eX cells r acc) else eX cells r acc
theorem vt{scope:Scope}(h:∀y∈4#3,y.2=.free->∃c,env.cells.lookup y.1=some c):closureFor scope env=pure (eX env.cells scope.names []):=by
 unfold closureFor;have key:∀(l:List 6#9) (acc:List 6#3),(∀y∈l,y.2=.free->∃c,env.cells.lookup y.1=some c) ->
   (forIn l acc λ(x:Str×NameKind) (r:List 6#3)=>if (x.2==ba)=true then(do let a <- cellOf env x.1;pure (dQ ((x.1,a)::r))) else pure (dQ r):Sem _)=pure (eX env.cells l acc):=by
  intro l
  induction l with
  |nil=>intro acc _;rfl
  | cons y l ih=>
    intro acc hh;rw[kM];unfold eX;cases q:y.2==ba with
    | true=>
      obtain⟨c,hc⟩:=hh y bc (eq_of_beq q);have e:cellOf env y.1=pure c:=by unfold cellOf;rw[hc]
      simp only[if_true,e,pure_bind,hc];exact ih _ λz hz=>hh z (aE _ hz)
    | false=>
      simp only[fU,if_false,pure_bind];exact ih _ λz hz=>hh z (aE _ hz)
 have e:=key scope.names [] h;show(forIn scope.names ([]:List 6#3) _ >>= λr=>pure r:Sem _)=_;rw[bind_pure];refine Eq.trans ?_ e
 congr 1
theorem nX{cells:List (Str×Addr)}:∀(l:List 6#9) (acc:List 6#3) {y:Str}{c:Addr},(y,c)∈eX cells l acc->(y,c)∈acc\/(cells.lookup y=some c/\(y,ba)∈l)
 |[],acc,y,c,h=>.inl h
 | (z,k)::l,acc,y,c,h=>by
   unfold eX at h
   split at h
   .rename_i hk
    split at h
    .rename_i d hd
     rcases nX l _ h with h|h
     .rcases a7.mp h with e|h
      .cases e;exact .inr ⟨hd,by rw[eq_of_beq hk];exact bc⟩
      .exact .inl h
     .exact .inr ⟨h.1,aE _ h.2⟩
    .exact(nX l _ h).imp id λh=>⟨h.1,aE _ h.2⟩
   .exact(nX l _ h).imp id λh=>⟨h.1,aE _ h.2⟩
theorem nY{cells:List (Str×Addr)}:∀(l:List 6#9) (acc:List 6#3) {y:Str}{c:Addr},(y,c)∈acc->(y,c)∈eX cells l acc
 |[],acc,y,c,h=>h
 | (z,k)::l,acc,y,c,h=>by
   unfold eX
   split
   .split
    .exact nY l _ (aE _ h)
    .exact nY l _ h
   .exact nY l _ h
theorem nZ{cells:List (Str×Addr)}:∀(l:List 6#9) (acc:List 6#3) {y:Str}{c:Addr},(y,ba)∈l->cells.lookup y=some c->(y,c)∈eX cells l acc
 |[],acc,y,c,h,_=>by simp at h
 | (z,k)::l,acc,y,c,h,hc=>by
   unfold eX;rcases a7.mp h with e|h
   .cases e
    simp only[beq_self_eq_true,if_true,hc];exact nY l _ bc
   .split
    .split
     .exact nZ l _ h hc
     .exact nZ l _ h hc
    .exact nZ l _ h hc
theorem lookup_mem{α:Type}:∀{l:List (Str×α)}{y:Str}{c:α},(y,c)∈l->∃d,l.lookup y=some d
 |[],y,c,h=>by simp at h
 | (z,d)::l,y,c,h=>by
   rw[bG];cases q:y==z with
   |true=>exact⟨d,rfl⟩
   | false=>
     rcases a7.mp h with e|h
     .cases e;simp at q
     .exact lookup_mem h
variable{cells:List (Str×Addr)}{l:List (Str×NameKind)}{y:Str}{c:Addr}
theorem ie(h:(eX cells l []).lookup y=some c):cells.lookup y=some c/\(y,ba)∈l:=by
 rcases nX l [] (cw h) with h|h
 .simp at h
 .exact h
theorem FL(h:(y,ba)∈l)(hc:cells.lookup y=some c):(eX cells l []).lookup y=some c:=by
 obtain⟨d,hd⟩:=lookup_mem (nZ l [] h hc);have:=(ie hd).1;rw[hc]at this;cases this;exact hd
theorem BD{pos:Pos}{a b:Int}{c cv:Value}(l:List Value)(h:TriplesOk l)(hc:codeAmong pos (l++[rawInt a,rawInt b,c])=some cv):codeAmong pos l=some cv\/cv=c:=by
 fun_induction TriplesOk l with
 | case1=>
   simp only[dv,rawInt,codeAmong]at hc
   split at hc
   .cases hc;exact .inr rfl
   .cases hc
 | case2 x t y u z rest ih=>
   simp only[List.cons_append,codeAmong]at hc ⊢
   split at hc
   .rename_i q;rw[if_pos q];exact .inl hc
   .rename_i q;rw[if_neg q];exact ih h hc
 |case3 l h1 h2=>exact h.elim
section
variable {K:KX}{H:Hp}{μ:List Addr}{S:Sto}
theorem HR.table{P:Addr}{ps:Array Value}{t:Tok}{a b:Int}{q:Str}(h:HR K μ S H)(hP:H P=some (.tbl ps))(hc:H c=none)(Zo:oc.data=.fields ws)(hq:ws[1]?=some (.str q t))(un:∀r∈K.tabs,r.1=P->r.2=q):
  bp H (upd 18#6 P 22#7)/\HR K μ S (upd 18#6 P 22#7):=by
 have stay:∀x o,H x=some o->(∀ps,o≠.tbl ps)->upd 18#6 P 22#7 x=some o:=λx o e n=>by
  rw[bg (qT e hP (n ps)),bg (bh e hc)];exact e
 have kp:bp H (upd 18#6 P 22#7):=⟨λx vs e=>stay x _ e (λ_ z=>nomatch z),λx o u e=>stay x _ e (λ_ z=>nomatch z)⟩;have fr:∀x o u,H x=some (.frz o u)->upd 18#6 P 22#7 x=some (.frz o u):=λx o u e=>stay x _ e λ_ z=>by cases z
 have hcP:c≠P:=(bh hP hc).symm;refine⟨kp,h.len,h.inj,λm d x q1 q2=>(h.cell m d x q1 q2).mono kp 2#4 (λhd=>?_) λo u e=>fr x o u e,RUs.mono kp 2#4 _ _ h.ext.cap,λr hr=>fr _ _ _ (h.ext.cds r hr),λr hr=>?_⟩
 .obtain⟨o,e,_,_,nb⟩:=(h.cell m d x q1 q2).has hd
  rw[stay x o e nb,e]
 .obtain⟨Xy,e,tr,al⟩:=h.ext.tab r hr
  by_cases Zs:r.1=P
  .rw[Zs,hP]at e
   cases e;refine⟨ps ++ #[rawInt a,rawInt b,.ref c],by rw[Zs,cx],by rw[JM];exact TriplesOk_snoc _ _ _ _ tr,λpos cv Vz=>?_⟩;rw[JM]at Vz;rcases BD _ tr Vz with z |z
   .obtain⟨d,od,vs,t',e1,e2,e3,e4⟩:=al pos cv z
    exact⟨d,od,vs,t',e1,fr _ _ _ e2,e3,e4⟩
   .exact⟨c,oc,ws,t,z,by rw[bg hcP,cx],Zo,by rw[un r hr Zs];exact hq⟩
  .refine⟨Xy,by rw[bg Zs,bg (bh e hc)];exact e,tr,λpos cv Vz=>?_⟩
   obtain⟨d,od,vs,t',e1,e2,e3,e4⟩:=al pos cv Vz;exact⟨d,od,vs,t',e1,fr _ _ _ e2,e3,e4⟩
end
section
variable {X:Cx}{pins:List (Addr×Obj)}{σ:St}{H:Hp}{s:Shared}
theorem xY{P:Addr}{ps more:Array Value}{ob:Obj}{h':Heap}{tk:Nat}(I:Inv X pins σ H s)(hP:H P=some (.tbl ps))(hx:Heap.ExtBut P s.heap h')(YE:1#2<=c)(hc:h'.get? c=some oc)(Yh:h'.get? P=some (tabObj (ps++more))):
  Inv X pins σ (upd 18#6 P (.tbl (ps++more))) { s with heap:=h'.push ob,toks:=tk }:=by
 have hcn:H c=none:=I.hok.fresh YE;have kp:∀b o,b≠P->s.heap.get? b=some o->(h'.push ob).get? b=some o:=λb o n e=>ar _ (hx b o n e);have nP:∀b,H b=none->b≠P:=λb n z=>by rw[z,hP]at n;cases n
 have stay:∀x o,H x=some o->(∀ps,o≠.tbl ps)->upd 18#6 P (.tbl (ps++more)) x=some o:=λx o e n=>by
  rw[bg (qT e hP (n ps)),bg (bh e hcn)];exact e
 refine I.step (g':=s.gens) (d':=s.drawn) (ch:= []) (λ_ z=>nomatch z) (λb o _ _ _ e n=>kp b o (nP b n) e) (λb o _ _ _ e n=>⟨o.slots,kp b o (nP b n) e⟩)
  (λb o _ e n=>by rw[bg (nP b n),bg (aS (ai (aG e) YE))];exact n) (λb o _ e=>?_) (λb xs e=>stay b _ e λ_ z=>by cases z) (λb o u e=>stay b _ e λ_ z=>by cases z)
  (λb qs e=>?_) (λm hm=>?_) (λb u e=>?_) I.bare
 .by_cases hb:b=P
  .exact⟨_,by rw[hb];exact ar _ Yh⟩
  .exact⟨o,kp b o hb e⟩
 .by_cases hb:b=P
  .rw[hb,hP]at e
   cases e;exact⟨more,by rw[hb,cx]⟩
  .exact⟨#[],by rw[bg hb,bg (bh e hcn),e];simp⟩
 .exact(hm.extBut hx (nP _ I.free)).push _
 .by_cases hb:b=P
  .rw[hb,cx]at e
   cases e;rw[hb];exact ar _ Yh
  .rw[bg hb]at e
   by_cases hbc:b=c
   .rw[hbc,cx]at e
    cases e;rw[hbc];exact⟨ar _ hc,trivial,⟨_,ar _ hc⟩,λ_ _ _ _=>trivial⟩
   .rw[bg hbc]at e
    refine(I.hok b u e).stay (λd v hd q=>kp d v ?_ q) (λd q=>stay d _ q λ_ z=>by cases z) λd xs q=>stay d _ q λ_ z=>by cases z
    rcases hd with z|z
    .rw[z];exact hb
    .exact qT z hP 21#5
def baseOf(h:Heap)(H:Hp)(fr:List Addr):Heap:=cy (xu h H) fr
variable{h:Heap}{fr:List Addr}{b:Addr}{o:Obj}
theorem eT{H:Hp}(e:h.get? b=some o)(n:H b=none)(hf:b∉fr):(baseOf h H fr).get? b=some o:=fj _ (qu e n) hf
theorem ET{H:Hp}(e:(baseOf h H fr).get? b=some o):h.get? b=some o/\H b=none:=CS (k9 fr e)
theorem wk(I:Inv X pins σ H s):∀b o,X.base.get? b=some o->(baseOf s.heap H 12#2).get? b=some o:=λb o e=>
 eT (I.bs b o e).1 (I.bs b o e).2 λz=>by
  have:=(I.stack.mem z).1;rw[e]at this;cases this
theorem xN(I:Inv X pins σ H s):E6 X.prog X.w X.K X.mg 12#6 X.A X.stack s H:=by
 have k:=wk I;obtain⟨m1,m2,⟨mb,m3,m4⟩,m5⟩:=I.ok.mod;refine⟨I.ok.frames,⟨m1.keeps k,m2.keeps k,⟨mb,m3.keeps k,m4⟩,m5.keeps k⟩,λb o e=>ET e,by rw[baseOf,FP,ye];exact ak _,?_,I.stkFree,I.hok,I.bare⟩;have all:∀l:List Env,(∀b∈frs l,b∈frs X.stack)->s.heap.FunFrames X.base l->s.heap.FunFrames 12#6 l:=by
  intro l
  induction l with
  |nil=>intro _ _;trivial
  | cons env r ih=>
    intro hs hl;obtain⟨hk,⟨L,o,hf,hn,ho,hd⟩,hr⟩:=hl;have hL:L∈frs X.stack:=hs L (by unfold frs;rw[fE,hf];exact bc);exact⟨hk,⟨L,o,hf,gJ _ hL,ho,hd⟩,ih (λb hb=>hs b (by unfold frs;rw[fE,hf];exact aE _ hb)) hr⟩
 exact all X.stack (λ_ h=>h) I.stack
end
def fQ(mg:Str->Option Value)(base:Heap):Prop := ∃ bm ob,mg "__builtins__"=some (.ref bm)/\bm≠builtinsNs/\base.get? bm=some ob/\ob.cls=.type "module"/\ob.dict=some builtinsNs/\ob.data=.plain
theorem fQ.keeps{b b':Heap}(h:fQ mg b)(k:∀a o,b.get? a=some o->b'.get? a=some o):fQ mg b':=
 let ⟨bm,ob,e1,e2,e3,r⟩:=h;⟨bm,ob,e1,e2,k _ _ e3,r⟩
structure Mkr(M:Mo)(c P:Addr)(q:Str):Prop where
 hd:∀h:Heap,M.K.K.In h->CodeHd h c P
 bl:fQ M.mg M.base
 gP:mainGlobals≠P
 mem:(P,q)∈M.K.tabs
 un:∀r∈M.K.tabs,r.1=P->r.2=q
def KX.to(K:KX)(caps:List U)(capv:List V)(cds:List 2#9):KX:=⟨K.K,caps,capv,cds,K.tabs⟩
def Mo.to(M:Mo)(caps:List U)(capv:List V)(cds:List 2#9)(base:Heap):Mo:=⟨M.P,M.w,M.K.to caps capv cds,M.mg,base,none⟩
structure FnC(M:Mo)(x:Str)(k:Nat)(ps:List Str)(F:Addr->MF->MF):Prop where
 ex:∃(f:Addr) (fd:FuncData),M.mg x=some (.ref f)/\cZ M.K (.ref f)=true/\Binds M.K fd ps [] /\
  ∀(caps:List U) (capv:List V) (cds:List (Addr×Obj)) (base:Heap) (g:Addr) (j:Nat) (lps:List Str) (φ:MF),fQ M.mg base->k<=j->Lam (M.to caps capv cds base) g j lps φ ->
   jx M.P M.w M.K M.mg base CX0 (j+1) f fd ps (spM (M.K.to caps capv cds) (F g φ))
def uc:List (List Str) := [["x"],["least"],["walk"],["i","j"],["one","other"],["group","steps"]]
def uh(p:Arguments):Bool:=p.posonlyargs.isEmpty&&(p.vararg.isNone&&(p.kwonlyargs.isEmpty&&(p.kw_defaults.isEmpty&&(p.kwarg.isNone&&p.defaults.isEmpty))))
def vh(p:Arguments):Option (List Str):=if uh p&&uc.contains (p.args.map (·.arg)) then some (p.args.map (·.arg)) else none
variable{p:Arguments}
theorem wm(h:uh p=true):p=⟨[],p.args,none,[],[],none,[]⟩:=by
 obtain⟨a,b,c,d,e,f,g⟩:=p;unfold uh at h
 simp_all
theorem AL(h:vh p=some ps):∃as,p=⟨[],as,none,[],[],none,[]⟩/\as.map (·.arg)=ps/\ps∈uc:=by
 unfold vh at h
 split at h
 .rename_i q
  cases h;rw[av]at q;exact⟨_,wm q.1,rfl,List.contains_iff_mem.mp q.2⟩
 .cases h
variable{as:List Arg}
theorem Ra(e:as.map (·.arg)=[x]):∃an ps,as=[⟨x,an,ps⟩]:=by
 obtain⟨a,l,rfl,h1,h2⟩:=JN.mp e;rw[List.map_eq_nil_iff.mp h2];obtain⟨n,an,ps⟩:=a
 grind
theorem US(e:as.map (·.arg)=[x,y]):∃an ps V4 ps2,as=[⟨x,an,ps⟩,⟨y,V4,ps2⟩]:=by
 obtain⟨a,l,rfl,h1,h2⟩:=JN.mp e;obtain⟨V4,ps2,rfl⟩:=Ra h2;obtain⟨n,an,ps⟩:=a
 grind
theorem Ud{α:Type}{us:List α}(h:1#1=1):∃a,us=[a]:=F3.mp h
theorem Uq{α:Type}{us:List α}(h:1#1=2):∃a b,us=[a,b]:=by
 cases us with
 |nil=>cases h
 | cons a us=>
   obtain⟨b,rfl⟩:=Ud (Bw h);exact⟨a,b,rfl⟩
theorem GX(e:as.map (·.arg)=ps)(hk:ps∈uc){fd:FuncData}(hp:fd.params=⟨[],as,none,[],[],none,[]⟩)(hd:fd.defaults=.none)(hl:1#1=7#1):bindArgs fd ⟨us,[]⟩=pure (ps.zip us):=by
 obtain⟨c1,c2,pr,c4,c5,df,c7,c8,c9,c10,c11,c12,c13⟩:=fd;cases hp;cases hd;simp[uc,or_false]at hk;rcases hk with rfl|rfl|rfl|rfl|rfl|rfl
 all_goals first
  |(obtain⟨an,q,rfl⟩:=Ra e;obtain⟨a,rfl⟩:=Ud hl;rfl)
  |(obtain⟨an,q,V4,q2,rfl⟩:=US e;obtain⟨a,b,rfl⟩:=Uq hl;rfl)
theorem EK(h:vh p=some ps)(nd:ps.Nodup){K:ao}{name:Str}{cdv ct:Value}:Binds K (kla_fn name qual p body scope cl pm cdv ct) ps []:=by
 obtain⟨as,rfl,e,hk⟩:=AL h;exact .all λus hl=>GX e hk rfl rfl hl
theorem Hb(h:vh p=some ps)(env:Env):defaultsOf p env=([],[]):=by
 obtain⟨as,rfl,_⟩:=AL h;rfl
section
variable {M:Mo}{X:Cx}{k:Nat}{N:List Str}{ns:List (Str×NameKind)}{pins:List (Addr×Obj)}{σ:St}{H:Hp}{s:Shared}
theorem vM(S:Sc M X k N ns)(I:Inv X pins σ H s)(hy:ns.lookup y=some .cell)(hc:X.env.cells.lookup y=some c):c∉frs X.stack:=λz=>by
 have fn:=(S.cel y hy).2;rcases a7.mp (I.stkSub c z) with e|hb
 .exact I.cne y c hc e
 .obtain⟨_,o,ho,_⟩:=I.ok.funs.mem hb
  exact absurd (ai (aG ho) (I.ok.cab y c fn hc)) (bP _)
theorem zi(S:Sc M X k N ns)(I:Inv X pins σ H s){μ:List Addr}{G:Rho}(er:ER H μ G σ){names:List (Str×NameKind)}:∀{fs:List Str}{is:List Nat}{cs:List U},(∀y∈fs,ns.lookup y=some .cell/\(y,ba)∈names) ->
  dG 18#1 fs=some is->jw is G=some cs->∃cv,RUs H μ cs cv/\nN 12#6 (eX X.env.cells names []) fs cv
 |[],is,cs,_,h1,h2=>by cases h1;cases h2;exact⟨[],.nil,trivial⟩
 | y::fs,is,cs,hf,h1,h2=>by
   unfold dG at h1;cases e1:N.findIdx? (· == y) with
   |none=>rw[e1]at h1;cases h1
   | some i=>
     rw[e1]at h1;simp only[ah]at h1;cases e2:dG 18#1 fs with
     |none=>rw[e2]at h1;cases h1
     | some is'=>
       rw[e2]at h1;cases h1;unfold jw dG at h2;cases e3:(G[i]?).bind id with
       |none=>rw[e3]at h2;cases h2
       | some u=>
         rw[e3]at h2;simp only[ah]at h2;cases e4:dG (λi=>(G[i]?).bind id) is' with
         |none=>rw[e4]at h2;cases h2
         | some cs'=>
           rw[e4]at h2;cases h2;obtain⟨cv,r1,r2⟩:=zi S I er (λz hz=>hf z (aE _ hz)) e2 (show jw is' G=some cs' from e4);have G':G[i]?=some (some u):=by
            cases q:G[i]? with
            |none=>rw[q]at e3;cases e3
            | some o=>rw[q]at e3;cases o with
              |none=>cases e3
              |some w=>cases e3;rfl
           obtain⟨v,X0,rv⟩:=er.get i u G';obtain⟨hi,hy,_⟩:=eY.mp e1;have hN:X.N[i]?=some y:=by rw[S.hN,aI hi,eq_of_beq hy]
           obtain⟨m,hn,hl⟩:=I.loc;have Yn:=(S.cel y (hf y bc).1).1;obtain⟨w,Zx,l⟩:=hl i y v hN X0 (.inr (.inl Yn));rcases l with⟨hk,_⟩|⟨_,c,hc,o,ho,hd⟩
           .have Zm:X.env.scope.names.lookup y=some .local:=hk
            rw[Yn]at Zm;cases Zm
           .refine⟨v::cv,.cons rv r1,⟨c,o,w,FL (hf y bc).2 hc,?_,hd,Zx⟩,r2⟩
            exact eT ho (I.freeC y c hc) (vM S I (hf y bc).1 hc)
variable{F:Addr->MF->MF}{is:List Nat}
theorem Lw{f0:Addr}{Xf:FuncData}{WN fs:List Str}{k' j:Nat}{ml:ME}{Zy:Value}{c':Addr}{t:Tok}
  {μ:List Addr}{S1 S':Sto}{G:Rho}{x u:U}{cs:List U}{v1:V}{u1:Value}{Q:VK}
  (S:Sc M X k N ns) (hB:fQ M.mg M.base) (hj:k'<=j+1) (hk:j+2<=k) (YJ:Binds M.K Xf WN [])
  (FF:∀(caps:List U) (capv:List V) (cds:List 2#9) (base:Heap) (g:Addr) (j:Nat) (lps:List Str) (φ:MF),fQ M.mg base->k'<=j->Lam 9#0 g j lps φ->jx M.P M.w M.K M.mg base CX0 (j+1) f0 Xf WN (spM 12#9 (F g φ)))
  (VE:vh params=some ps) (LS:jf ps fs scope) (Zf:∀y∈fs,ns.lookup y=some .cell/\(y,ba)∈4#3) (Xo:dG 18#1 fs=some is)
  (hb:∀(caps:List U) (capv:List V) (cds:List 2#9) (base:Heap),fQ M.mg base->∀(X':Cx),Sc 9#0 X' j (ps++fs) 4#3->PE X' body (tM 12#9 ml))
  (I:Inv X pins σ H s) (hr:HR M.K μ S1 H) (er:ER H μ G σ) (Zi:jw is G=some cs) (spec:F f (nc ps.length ml cs) [x,.obj f] S1=some (u,S')) (rx:RU H μ x v1) (ru:RelV v1 u1) (aft:Aft M.K μ H u S' Q)
  (hf:s.heap.get? f=some (kla_obj "<lambda>" qual params body scope 13#7 pm c' Zy)) (YZ:H f=none) (Yv:f∉frs X.stack) (hc:H c'=some (.frz oc fz)) (Zo:oc.data=.fields ws) (hq:ws[1]?=some (.str qual t)) :
  aT 1#8 X.A (call (.ref f0) [u1,.ref f]) 9#2 X.xe s:=by
 obtain⟨cv,rc,C⟩:=zi S I er Zf Xo Zi;have WB:fQ M.mg 12#6:=hB.keeps λa o e=>wk I a o (by rw[S.hb];exact e);have lam:Lam (M.to cs cv 13#9 12#6) f (j+1) ps (nc ps.length ml cs):=by
  refine⟨_,.inl ⟨_,_,_,eT hf YZ Yv⟩,EK VE (jl.mp LS.nd).1,?_⟩;refine G6 (M:=M.to cs cv 13#9 12#6) rfl (eT hf YZ Yv) (aW _ bc) Zo hq LS C (λy c e=>?_) (λy z c e1 e2=>I.ok.inj y z c (ie e1).1 (ie e2).1) (hb _ _ _ _ WB);obtain⟨e1,e2⟩:=ie e;obtain⟨v,o,ho,hd⟩:=I.cell y c e1;exact⟨o,v,eT ho (I.freeC y c e1) (vM S I (Zf y (LS.fre _ e2 rfl)).1 e1),hd⟩
 have FO:=FF _ _ _ _ f (j+1) ps _ WB hj lam;rw[<-S.hP,<-S.hw,<-S.hK,<-S.hm]at FO
 have Zs:HR (M.K.to cs cv 13#9) μ S1 H:=⟨hr.len,hr.inj,hr.cell,rc,λq hq=>by
  rcases aY.mp hq with z|z
  .exact hr.ext.cds q z
  .have e:q=(c',oc):=by simpa using z
   rw[e];exact hc,hr.ext.tab⟩
 have Zr:spM (M.K.to cs cv 13#9) (F f (nc ps.length ml cs)) [v1,.ref f] H Q E0:=by
  refine⟨μ,S1,[x,.obj f],u,S',Zs,.cons rx (.cons (by simp only[RU]) .nil),spec,λY4 v H' p' k' ZX ru2=>?_⟩;refine aft Y4 v H' p' k' ⟨ZX.len,ZX.inj,ZX.cell,RUs.mono k' p' _ _ hr.ext.cap,λq hq=>ZX.ext.cds q (a9 _ hq),ZX.ext.tab⟩ ru2
 have hl:([u1,bw f]++[]).length=WN.length:=by have:=FO.len _ _ _ _ Zr;simpa using this
 rw[<-S.hK]at YJ;refine JA (iK (FO.run X.A X.stack s H ⟨[u1,.ref f],[]⟩ [u1,.ref f] [v1,.ref f] Q E0 14#2 (xN I) (YJ s _ I.kIn hl) (.cons ru (.cons rfl .nil)) Zr) λr s' hq=>?_);cases r with
 |error e=>exact hq.elim
 | ok fl=>
   cases fl with
   |ret u=>exact I.after hq
   |next=>exact ck hq
   |brk=>exact ck hq
   |cont=>exact ck hq
theorem Lx{WN fs:List Str}{k' j:Nat}{ml ma:ME}{g q:Str}{P:Addr}{a:Expr}{p1 lp pos:Pos}
  (S:Sc M X k N ns) (FC:FnC M g k' WN F) (hj:k'<=j+1) (hk:j+2<=k) (WV:M.mkr=some (c,q)) (MK:Mkr M c P (q++"<lambda>"))
  (hg:dM ns g=true) (hgd:(g==("__debug__":Str))=false) (ha:PE X a 4#1) (hs:starEach [a,.Lambda params body scope lp] X.env=15#2::starEach [.Lambda params body scope lp] X.env)
  (VE:vh params=some ps) (LS:jf ps fs scope) (Zf:∀y∈fs,ns.lookup y=some .cell/\(y,ba)∈4#3) (Xo:dG 18#1 fs=some is)
  (hb:∀(caps:List U) (capv:List V) (cds:List 2#9) (base:Heap),fQ M.mg base->∀(X':Cx),Sc 9#0 X' j (ps++fs) 4#3->PE X' body (tM 12#9 ml)):
  PE X (.Call (.Name g p1) [a,.Lambda params body scope lp] [] pos) (tM M.K (kT F ps.length is ml ma)):=by
 intro pins s σ H Q I h;obtain⟨μ,S0,G,u,S',hr,er,qm,aft⟩:=h;unfold kT at qm;obtain⟨x,S1,e1,qm⟩:=a6 qm;cases Zi:jw is G with
 |none=>rw[Zi]at qm;cases qm
 |some cs=>
 rw[Zi]at qm;simp only[ah]at qm
 split at qm
 rotate_left
 .cases qm
 rename_i hx
 have spec:∀f,F f (nc ps.length ml cs) [x,.obj f] S1=some (u,S'):=λf=>(hx.choose_spec f).trans qm;obtain⟨f0,Xf,hm,Zq,YJ,FF⟩:=FC.ex;rw[<-S.hK]at Zq;refine dP (kn I 5#4 6#7 ?_ hgd);refine la (h₀:=X.base) I.ok.mod.kin Zq ?_ hs rfl;rw[hs];show aT _ _ (spliced (15#2::backTo pos (starEach [.Lambda params body scope lp] X.env))) _ _ s;refine d7 (thn (ha pins s σ H (λv H1=>∃Y0,Pre μ Y0/\bp H H1/\HR M.K Y0 S1 H1/\RU H1 Y0 x v) I ⟨μ,S0,G,x,S1,hr,er,e1,λY4 v H' p k Zs ru=>⟨Y4,p,k,Zs,ru⟩⟩) λu1 s1 ⟨v1,H1,I1,r1,Y0,pr1,kp1,Z',rx1⟩=>?_);obtain⟨Z9,Zc⟩:=S.cod c q WV;obtain⟨Ww,hP,tr,al⟩:=Z'.ext.tab _ MK.mem;have WQ:s1.heap.get? P=some (tabObj Ww):=I1.hok P _ hP;have kin:M.K.K.In s1.heap:=by have:=I1.kIn;rwa[S.hK]at this
 have C:CodeHd s1.heap c P:=MK.hd _ kin;have Xh:s1.heap.Ns mainGlobals X.mg:=I1.mod.glob.keeps I1.bk;obtain⟨bm,ob,b1,b2,b5,b6,b7,b8⟩:=MK.bl;have XU:s1.heap.get? bm=some ob:=I1.bk bm ob (by rw[S.hb];exact b5);have b3:bm≠mainGlobals:=λz=>by
  obtain⟨o,es,ep,e,hd,_⟩:=Xh;rw[<-z,XU]at e;cases e;rw[b8]at hd;cases hd
 have b4:bm≠P:=λz=>by
  rw[z,WQ]at XU;cases XU;cases b8
 have BA:s1.heap.BuiltinsAt X.mg P:=⟨bm,ob,by rw[S.hm];exact b1,b2,b3,b4,XU,b6,b7,b8⟩;have Yy:closureFor scope X.env=pure 13#7:=vt λy hy s9=>I.ok.has y.1 (.inl (S.cel y.1 (Zf y.1 (LS.fre y hy s9)).1).1);show aT _ _ (spliced [(false,eval (.Lambda params body scope lp) X.env)]) _ _ s1;refine d7 (PySem.W.kla_eval (Hb VE _) ?_);have fin:∀(H2:Hp) (s2:Shared) (c' f:Addr) (Zy:Value) (oc:Obj) (ws:Array Value) (t:Tok),Inv X pins σ H2 s2->bp H1 H2->HR M.K Y0 S1 H2 ->
   s2.heap.get? f=some (kla_obj "<lambda>" 20#8 params body scope 13#7 20#1 c' Zy)->H2 f=none->21#7<=f->H2 c'=some (.frz oc fz)->oc.data=.fields ws->ws[1]?=some (.str (q++"<lambda>") t) ->
   aT 1#8 X.A (spliced []) (λvs ZY=>X.K.In ZY.heap/\aT 1#8 X.A (call (.ref f0) ([]++(u1::bw f::vs))) 9#2 X.xe ZY) X.xe s2:=by
  intro H2 s2 c' f Zy oc ws t I2 Yk ZX hf YZ Xg hc Zo hq;have Yv:f∉frs X.stack:=λz=>by
   obtain⟨_,o,ho,_⟩:=I1.stack.mem z;exact absurd (ai (aG ho) Xg) (bP _)
  rw[<-Zc]at hq;exact gE ⟨I2.kIn,Lw S MK.bl hj hk YJ FF VE LS Zf Xo hb I2 ZX (er.mono (kp1.trans Yk) pr1) Zi (spec f) (RU.mono Yk 2#4 _ _ rx1) r1 (aft.mono pr1 (kp1.trans Yk)) hf YZ Yv hc Zo hq⟩
 cases YO:codeAmong lp Ww.toList with
 | none=>
   refine Bp (mg:=X.mg) Yy I1.ok.glob Xh Z9 C WQ tr YO MK.gP BA λc' Zy h' tk hx YE ZV WW Yh=>?_;obtain⟨c2,oc,ws,t,e,Zo,hd,Yq⟩:=WW;cases e;have I2:=xY (ob:=kla_obj "<lambda>" 20#8 params body scope 13#7 20#1 c' Zy) (tk:=tk) I1 hP hx YE Zo Yh;rw[Zc]at Yq;obtain⟨Yk,ZX⟩:=Z'.table (a:=(lp.line:Int)) (b:=(lp.col:Int)) hP (I1.hok.fresh YE) hd Yq MK.un;have hsz:21#7<=16#3:=aB YE (aV ZV);refine fin _ _ c' h'.objs.size Zy oc ws t I2 Yk ZX (aH _ rfl) ?_ hsz ?_ hd Yq
   .rw[bg (cJ (aG Yh)),bg (cJ ZV)]
    exact I1.hok.fresh hsz
   .rw[bg (bh hP (I1.hok.fresh YE)).symm,cx]
 | some cv=>
   obtain⟨c',oc,ws,t,rfl,YD,hd,Yq⟩:=al lp cv YO;refine yw (mg:=X.mg) Yy I1.ok.glob Xh Z9 C WQ tr YO BA λZy h' tk hk hsz=>?_;have I2:=I1.kept (t':=tk) (h':=h'.push (kla_obj "<lambda>" 20#8 params body scope 13#7 20#1 c' Zy)) (fun b o e=>ar _ (hk b o e));exact fin H1 _ c' h'.objs.size Zy oc ws t I2 9#7 Z' (aH _ rfl) (I1.hok.fresh hsz) hsz YD hd Yq
end
end _G
namespace _G
open PySem PySem.Spec _L
open PyProof.Rows hiding St
def Trc(e T:Addr)(cls:Value)(h:Heap):Prop:= ∃(oe:Obj) (vs:Array Value) (a0:Value) (oT:Obj) (ts:Array Value),h.get? e=some oe/\(oe.cls=cls/\vs[0]?=some a0)/\oe.data=.fields vs/\vs[1]?=some (.ref T)/\T≠e/\h.get? T=some oT/\oT.data=.fields ts/\ts[3]?=some .none
def CX1(P:Program)(w:World):CXT:=λouter H s E ev s'=>∃(e T:Addr) (cls:Value) (H':Hp),ev=.ref e/\s'.os=s.os/\AllBare s'.gens/\Un (frs outer) [] H H' s.heap s'.heap/\HOk P w H' s'.heap/\Trc e T cls s'.heap/\s.heap.get? e=none/\s.heap.get? T=none/\H' e=none/\H' T=none/\E cls none H'
variable{h:Heap}{e:Addr}
theorem Trc.of{base:Heap}{cls a0:Value}(t:h.TracedW base e cls a0):∃T,Trc e T cls h/\base.get? T=none:=by
 obtain⟨oe,vs,T,oT,ts,h1,h2,h3,h4,h5,h6,h7,h8,h9⟩:=t;exact⟨T,⟨oe,vs,a0,oT,ts,h1,h2,h3,h4,h6,h7,h8,h9⟩,h5⟩
variable{T:Addr}
theorem Trc.to{base:Heap}{cls:Value}(t:Trc e T cls h)(hT:base.get? T=none):∃a0,h.TracedW base e cls a0:=by
 obtain⟨oe,vs,a0,oT,ts,h1,h2,h3,h4,h6,h7,h8,h9⟩:=t;exact⟨a0,oe,vs,T,oT,ts,h1,h2,h3,h4,hT,h6,h7,h8,h9⟩
variable{P:Program}{w:World}{H:Hp}{a:Addr}
theorem eg.has{o:HO}(x:eg P w H h a o):∃u,h.get? a=some u:=by
 cases o with
 |lst xs=>obtain⟨_,_,_,_,e⟩:=x;exact⟨_,e⟩
 |tup xs=>obtain⟨_,_,_,_,o,e,_⟩:=x;exact⟨_,e⟩
 |dK kvs=>obtain⟨_,_,_,_,o,_,_,e,_⟩:=x;exact⟨_,e⟩
 |dT kvs=>obtain⟨_,_,_,_,o,_,_,e,_⟩:=x;exact⟨_,e⟩
 |set S n=>obtain⟨o,_,_,_,e,_⟩:=x;exact⟨_,e⟩
 |ins C dx fs=>obtain⟨_,_,_,e,_⟩:=x;exact⟨_,e⟩
 |own y=>obtain⟨_,e⟩:=x;exact⟨_,e⟩
 |xd fs=>obtain⟨_,⟨_,_,_,e,_⟩,_⟩:=x;exact⟨_,e⟩
 |rng lo hi=>obtain⟨_,_,_,e⟩:=x;exact⟨_,e⟩
 |frz ob u=>obtain⟨e,_⟩:=x;exact⟨_,e⟩
 |tbl ps=>exact⟨_,(show h.get? a=some _ from x)⟩
 |met f y=>exact⟨_,(show h.get? a=some _ from x)⟩
 |ext φ=>obtain⟨_,e,_⟩:=x;exact e
theorem HOk.none_of(x:HOk P w H h)(e:h.get? a=none):H a=none:=by
 cases q:H a with
 |none=>rfl
 | some o=>
   obtain⟨u,hu⟩:=eg.has (x a o q);rw[e]at hu;cases hu
theorem so{h g base:Heap}{S:List Addr}:∀{l:List Env},(∀b∈frs l,b∈S)->h.FunFrames base l->h.FunFrames (cy g S) l
 |[],_,_=>trivial
 | env::r,hs,⟨hk,⟨L,o,hf,hn,ho,hd⟩,hr⟩=>by
   have hL:L∈S:=hs L (by unfold frs;rw[fE,hf];exact bc);exact⟨hk,⟨L,o,hf,gJ _ hL,ho,hd⟩,so (λb hb=>hs b (by unfold frs;rw[fE,hf];exact aE _ hb)) hr⟩
structure Left(fs:List Addr)(e T:Addr)(h h':Heap):Prop where
 keep:∀b o,b∉fs->b≠e->b≠T->h.get? b=some o->h'.get? b=some o
 slot:∀b o,b∈fs->h.get? b=some o->∃sl,h'.get? b=some { o with slots:=sl }
variable{h2:Heap}
theorem Left.un{fs:List Addr}{H':Hp}{h1:Heap}(l:Left fs e T h1 h2)(u:Un fs [] H H' h h1)(he:h.get? e=none)(hT:h.get? T=none):Un fs [] H H' h h2 where
 keep:=λb o q n hb hx=>l.keep b o hb (λz=>by rw[z,he]at q;cases q) (λz=>by rw[z,hT]at q;cases q) (u.keep b o q n hb hx)
 slot:=λb o q n hb hx=>by
  obtain⟨sl,e1⟩:=u.slot b o q n hb hx;obtain⟨Ya,e2⟩:=l.slot b _ hb e1;exact⟨Ya,e2⟩
 free:=λb o q n hx=>u.free b o q n hx
 there:=λb o q hx=>by
  obtain⟨o',e1⟩:=u.there b o q hx;by_cases hb:b∈fs
  .obtain⟨sl,e2⟩:=l.slot b _ hb e1
   exact⟨_,e2⟩
  .exact⟨o',l.keep b o' hb (λz=>by rw[z,he]at q;cases q) (λz=>by rw[z,hT]at q;cases q) e1⟩
 tups:=u.tups
 frzs:=u.frzs
 tbls:=u.tbls
theorem Left.hok{fs:List Addr}{h':Heap}(l:Left fs e T h h')(x:HOk P w H h)(hf:∀b∈fs,H b=none)(he:H e=none)(hT:H T=none):HOk P w H h':=λa o q=>by
 refine(x a o q).stay (λb u hb e1=>?_) (λ_ z=>z) λ_ _ z=>z;have key:∃o,H b=some o:=by
  rcases hb with rfl|z
  .exact⟨_,q⟩
  .exact⟨_,z⟩
 obtain⟨ob,key⟩:=key;exact l.keep b u (λz=>by rw[hf b z]at key;cases key) (λz=>by rw[z,he]at key;cases key) (λz=>by rw[z,hT]at key;cases key) e1
section
variable {X:Cx}{pins:List (Addr×Obj)}{σ:St}{H H':Hp}{s s':Shared}
theorem flying{cls:Value}(I:Inv X pins σ H' s')(t:Trc e T cls s'.heap):∃a0,o4 (cy s'.heap 16#7) X.stack e cls a0 s'.heap:=by
 obtain⟨a0,z⟩:=t.to (base:=cy s'.heap 16#7) (gJ _ (aE _ bc));exact⟨a0,λb o q=>k9 _ q,gJ _ bc,so (λb hb=>aE _ (aE _ hb)) I.stack,z⟩
theorem yK(I:Inv X pins σ H' s')(k:(cy s'.heap 16#7).StaysIn h2)(sl:s'.heap.UpToSlots h2):Left 12#2 e T s'.heap h2:=by
 refine⟨λb o hb he hT q=>k b o (fj _ q λz=>?_),λb o hb q=>?_⟩
 .rcases a7.mp z with z|z
  .exact he z
  .rcases a7.mp z with z|z
   .exact hT z
   .exact hb z
 .obtain⟨_,o',ho,hd⟩:=I.stack.mem hb
  rw[q]at ho;cases ho;exact sl b o q hd
theorem L8{T2:Addr}{cls:Value}(I:Inv X pins σ H' s')(t2:Trc e T2 cls h2)(hn:(cy s'.heap 16#7).get? T2=none)(sl:s'.heap.UpToSlots h2):T2=T\/s'.heap.get? T2=none:=by
 cases q:s'.heap.get? T2 with
 |none=>exact .inr rfl
 | some o=>
   left;obtain⟨oe,vs,a0,oT,ts,h1,VH,h3,h4,h6,h7,h8,h9⟩:=t2;by_cases hm:T2∈e::T::frs X.stack
   .rcases a7.mp hm with z|z
    .exact absurd z h6
    .rcases a7.mp z with z|z
     .exact z
     .obtain⟨_,o',ho,hd⟩:=I.stack.mem z
      obtain⟨Ya,e2⟩:=sl T2 o' ho hd;rw[h7]at e2;cases e2;exact absurd h8 (hd ts)
   .rw[fj _ q hm]at hn;cases hn
variable{E:XK}
theorem Iq{cls:Value}(hex:X.ex=[])(I:Inv X pins σ H s)(os:s'.os=s.os)(hg:AllBare s'.gens)(un:Un 12#2 [] H H' s.heap s'.heap)(hok:HOk X.prog X.w H' s'.heap)(t:Trc e T cls s'.heap)(he:s.heap.get? e=none)(hT:s.heap.get? T=none)(ne:H' e=none)(nT:H' T=none)(q:E cls none H'):
  CX1 X.prog X.w X.outer X.H₀ X.s₀ E (.ref e) s':=by
 have I2:Inv X pins σ H' s':=I.call' os un hok hg λb z=>nomatch z
 have old:∀a,s.heap.get? a=none->X.s₀.heap.get? a=none:=λa ha=>by
  cases q:X.s₀.heap.get? a with
  |none=>rfl
  | some o=>
    obtain⟨o',e1⟩:=I.base.there a o q (by rw[hex];simp);rw[ha]at e1;cases e1
 have b:=I2.base;rw[hex]at b;exact⟨e,T,cls,H',rfl,os.trans I.os,hg,b,hok,t,old e he,old T hT,ne,nT,q⟩
structure Lv(X:Cx)(E:XK):Prop where
 stk:X.stack=X.env::X.outer
 fr:X.env.frame=some X.env.locals
 ex:X.ex=[]
 xe:X.xe=λe s'=>aT (model X.prog X.w) X.A (leaving X.env e) (λ_ s''=>CX1 X.prog X.w X.outer X.H₀ X.s₀ E e s'') (λe' s''=>CX1 X.prog X.w X.outer X.H₀ X.s₀ E e' s'') s'
theorem Lv.pass(L:Lv X E):wB (CX1 X.prog X.w) X E:=by
 rintro pins σ H s ev s' I ⟨e,T,cls,H',rfl,os,hg,un,hok,t,he,hT,ne,nT,q⟩;have I1:Inv X pins σ H' s':=I.call' os un hok hg λb z=>nomatch z
 rw[L.xe];obtain⟨a0,fl⟩:=flying I1 t;have fl':=fl;rw[show o4 (cy s'.heap 16#7) X.stack e cls a0 s'.heap=o4 (cy s'.heap 16#7) (X.env::X.outer) e cls a0 s'.heap by rw[<-L.stk]]at fl';refine wpAny_leaves_onW (by rw[I.ok.frames,L.stk]) L.fr fl' λh2 fl2 sl=>?_;obtain⟨f1,f2,f3,f4⟩:=fl2;obtain⟨T2,t2,YY⟩:=Trc.of f4;have lf:=yK I1 f1 sl;have new:=L8 I1 t2 YY sl;refine Iq (s':={ s' with heap:=h2 }) L.ex I os hg (lf.un un he hT) (lf.hok hok I1.stkFree ne nT) t2 he ?_ ne ?_ q
 .rcases new with z|z
  .rw[z];exact hT
  .cases q:s.heap.get? T2 with
   |none=>rfl
   | some o=>
     obtain⟨o',e1⟩:=un.there T2 o q 0#6;rw[z]at e1;cases e1
 .rcases new with z|z
  .rw[z];exact nT
  .exact HOk.none_of hok z
theorem Lv.made{C:Addr}{args:List Value}{h1:Heap}(L:Lv X E)(I:Inv X pins σ H s)(hx:Heap.MadeExcOf s.heap h1 e (.ref C) args)(q:E (.ref C) none H):X.xe (.ref e) { s with heap:=h1 }:=by
 rw[L.xe];have fs:s.heap.FunFrames (cy s.heap 12#2) (X.env::X.outer):=by
  have:=so (g:=s.heap) (S:=frs X.stack) (λb hb=>hb) I.stack;rwa[show s.heap.FunFrames (cy s.heap 12#2) X.stack=s.heap.FunFrames (cy s.heap 12#2) (X.env::X.outer) by rw[<-L.stk]]at this
 refine wpAny_leaves_madeW (s:={ s with heap:=h1 }) (base:=cy s.heap 12#2) (h:=s.heap) (by rw[I.ok.frames,L.stk]) L.fr (λb o q=>k9 _ q) fs hx λh2 t fl2 _ _ sl=>?_;obtain⟨f1,f2,f3,f4⟩:=fl2;obtain⟨T2,t2,YY⟩:=Trc.of f4;have Ya:s.heap.UpToSlots h2:=λb o q nf=>sl b o (hx.keeps b o q) nf;have slt:∀b o,b∈frs X.stack->s.heap.get? b=some o->∃sl,h2.get? b=some { o with slots:=sl }:=λb o hb q=>by
  obtain⟨_,o',ho,hd⟩:=I.stack.mem hb;rw[q]at ho;cases ho;exact Ya b o q hd
 have lf:Left 12#2 e e s.heap h2:=⟨λb o hb _ _ q=>f1 b o (fj _ q hb),slt⟩;have ne:H e=none:=HOk.none_of I.hok hx.new;have hT:s.heap.get? T2=none:=by
  cases q:s.heap.get? T2 with
  |none=>rfl
  | some o=>
    by_cases hm:T2∈frs X.stack
    .obtain⟨_,o',ho,hd⟩:=I.stack.mem hm
     obtain⟨sl'',e2⟩:=Ya T2 o' ho hd;obtain⟨oe,vs,a0,oT,ts,h1,VH,h3,h4,h6,h7,h8,h9⟩:=t2;rw[h7]at e2;cases e2;exact absurd h8 (hd ts)
    .rw[fj _ q hm]at YY;cases YY
 exact Iq (s':={ s with heap:=h2 }) L.ex I rfl I.bare (lf.un Un.refl hx.new hx.new) (lf.hok I.hok I.stkFree ne ne) t2 hx.new hT ne (HOk.none_of I.hok hT) q
end
end _G
namespace _G
open PySem PySem.Spec _L
open PySem.W (envX kla_fn kla_obj CodeHd tabObj)
open PyProof.Rows hiding St
abbrev MX:=Rho->Sto->Option (Nat×Sto)
abbrev RF:=List U->Sto->Option (Nat×Sto)
def xFn(r:RF)(a:MA):MX:=λG S=>bnd (a G S) λus S1=>r us S1
def xML(o:ME)(r:MX):MX:=λG S=>bnd (o G S) λp S1=>match p with
 |.ref n=>(getL S1 n).bind λ_=>r G S1
 |_=>none
def zq(np:Nat)(r:MX)(cs:List U):RF:=λus S=>if 1#1=np then r (us.map some++cs.map some) S else none
def kL(b:Nat->Bool)(is:List Nat):Cell:= .lst (is.map λi=>.bl (b i))
def iy(b:Nat->Bool):Sto:= [kL b [0,1,2],kL b [3,4,5],kL b [0,1,2,3,4,5,6]]
def bQ(q:Nat)(j:Nat):Bool:=decide (q=j)||decide (j=7)
def Fj(rz:List Nat)(φ:MF)(ψ:RF)(S:Sto):Res U:=match φ [] S with
 |some r=>some (.non,r.2++iy λ_=>false)
 | none=>match ψ [] S with
   |some r=>if r.1∈rz then some (.ref (r.2.length+3),r.2++(iy (bQ r.1)++[.lst [.int r.1]])) else none
   |none=>none
def EN(rz:List Nat)(g:Addr)(φ:MF)(ψ:RF):MF:=λus S=>match us with
 |[.obj a]=>if a=g then Fj rz φ ψ S else none
 |_=>none
def j9(rz:List Nat)(is:List Nat)(ml:ME)(rl:MX):ME:=λG S=>(jw is G).bind λcs=>Fj rz (nc 0 ml cs) (zq 0 rl cs) S
def IH(cl:Nat->Addr)(K:KX)(μ:List Addr)(H:Hp)(C:Nat)(S':Sto)(E:XK):Prop:= ∀Y4 H',Pre μ Y4->bp H H'->HR K Y4 S' H'->E (.ref (cl C)) none H'
def tX(cl:Nat->Addr)(K:KX)(r:MX)(E:XK)(σ:St)(H:Hp):Prop:= ∃μ S G C S',HR K μ S H/\ER H μ G σ/\r G S=some (C,S')/\IH cl K μ H C S' E
def tXE(cl:Nat->Addr)(K:KX)(r:MX)(E:XK):TE:=λσ H _=>tX cl K r E σ H
def tXA(cl:Nat->Addr)(K:KX)(r:MX)(E:XK):TA:=λσ H _=>tX cl K r E σ H
def tXS(cl:Nat->Addr)(K:KX)(r:MX)(E:XK):TS:=λ_ σ H=>tX cl K r E σ H
def spX(cl:Nat->Addr)(K:KX)(r:RF):Sp:=λvs H _ E=>∃μ S us C S',HR K μ S H/\RUs H μ us vs/\r us S=some (C,S')/\IH cl K μ H C S' E
variable{cl:Nat->Addr}{μ:List Addr}
theorem IH.mono{K:KX}{Y0:List Addr}{H H1:Hp}{C:Nat}{S':Sto}{E:XK}(a:IH cl K μ H C S' E)(p:Pre μ Y0)(k:bp H H1):IH cl K Y0 H1 C S' E:=λY4 H' p' k'=>a _ H' (p.trans p') (k.trans k')
abbrev vE:List Value := [.type "ValueError",.type "Exception",.type "BaseException",.type "object"]
structure FnX(M:Mo)(cl:Nat->Addr)(x:Str)(k:Nat)(ps:List Str)(r:RF):Prop where
 ex:∃(f:Addr) (fd:FuncData),M.mg x=some (.ref f)/\cZ M.K (.ref f)=true/\Binds M.K fd ps []/\jx M.P M.w M.K M.mg M.base (CX1 M.P M.w) k f fd ps (spX cl M.K r)
variable{X:Cx}
theorem _root_._L.PA.nox{es:List Expr}{t:TA}(h:PA X.nox es t):PA X es t:=λpos pins s σ H Q I hw=>
 cf (h _ _ s σ H Q (I.wish _) hw) (λus s' ⟨vs,H',J,r,q⟩=>⟨vs,H',J.unwish,r,q⟩) λ_ _ z=>z.elim
theorem _root_._L.PS.nox{st:Stmt}{t:TS}(h:PS X.nox st t):PS X st t:=λpins s σ H D I hw=>
 cf (h _ s σ H D (I.wish _) hw) (λf s' hs=>SP.unwish hs) λ_ _ z=>z.elim
theorem PE.never{e:Expr}:PE X e λ_ _ _=>False:=λ_ _ _ _ _ _ h=>h.elim
theorem PSs.never{e:List Stmt}:PSs X e λ_ _ _=>False:=λ_ _ _ _ _ _ h=>h.elim
structure AS(M:Mo)(cl:Nat->Addr)(f:Addr)(k:Nat)(ps:List Str)(r:RF):Prop where
 ex:∃fd:FuncData,((∃(oc:Value) (od:Option Addr) (sl:Array (Option Value)),M.base.get? f=some ⟨oc,od,.func fd,sl⟩)\/cZ M.K (.ref f)=true)/\Binds M.K fd ps []/\jx M.P M.w M.K M.mg M.base (CX1 M.P M.w) k f fd ps (spX cl M.K r)
variable{qual:Str}{body:Expr}{scope:Scope}{pm:Value}{oc:Obj}{ws:Array Value}
theorem Kx{M:Mo}(h0:M.mkr=none){name:Str}{params:Arguments}{XZ:List (Str×Addr)}{Zy:Value}{c f:Addr}{t:Tok}{ps fs:List Str}{k:Nat}{ml:MX}{od:Option Addr}{fc:Value}{fsl:Array (Option Value)}
  (hf:M.base.get? f=some ⟨fc,od,.func (kla_fn name qual params body scope XZ pm (.ref c) Zy),fsl⟩) (hc:(c,oc)∈M.K.cds) (Zo:oc.data=.fields ws) (hq:ws[1]?=some (.str qual t))
  (S:jf ps fs scope) (C:nN M.base XZ fs M.K.capv) (Yn:∀y c,XZ.lookup y=some c->∃o v,M.base.get? c=some o/\o.data=.cell v) (inj:∀x y c,XZ.lookup x=some c->XZ.lookup y=some c->x=y)
  (hb:∀X E,Lv X E->Sc M X.nox k (ps++fs) 4#3->PE X body (tXE cl M.K ml E)):
  jx M.P M.w M.K M.mg M.base (CX1 M.P M.w) (k+1) f (kla_fn name qual params body scope XZ pm (.ref c) Zy) ps (spX cl M.K (zq ps.length ml M.K.caps)):=by
 have len:∀vs H Q E,spX cl M.K (zq ps.length ml M.K.caps) vs H Q E->3#7=7#1:=λvs H Q E h=>by
  obtain⟨μ,S',us,u,Zh,hr,rs,e,_⟩:=h;unfold zq at e
  split at e
  .rename_i hl;rw[<-rs.len];exact hl
  .cases e
 refine⟨len,λA outer s H args us vs Q E hr e0 YJ r Zr=>?_⟩;have hl:=len _ _ _ _ Zr;obtain⟨μ,S1,zs,u,S2,hR,rs,e,ka⟩:=Zr;have Vm:s.heap.get? c=some oc:=(e0.hok c _ (hR.ext.cds _ hc)).1;have lim:s.heap.NoLimit:=e0.mod.nolimit.keeps λb o e=>(e0.bs b o e).1;refine FS hr.depth (e0.bs f _ hf).1 rfl S.co S.gen rfl ⟨c,oc,ws,t,rfl,Vm,Zo,hq⟩ (YJ _ _ _ _ ?_);refine DQ S.kind (λx hx=>S.par _ (kJ hx).1) λs1 x=>⟨lim.keeps x.toInCall.keep,?_⟩;show oZ _ _ (.expr body 29#8) _ _;have I:=Ds (qual:=qual) (f:=f) (cd:= .ref c) S hr.hd e0 hl r C Yn inj x;have SS:Sc M (AK M.P M.w M.K M.mg M.base (ps++fs) qual scope f (.ref c) XZ A outer s H) k (ps++fs) 4#3:=
  ⟨rfl,rfl,rfl,rfl,rfl,rfl,S.nd,rfl,λ_ h=>h,λy h=>⟨h,by show 25#7=true;rw[h];rfl⟩,λ_ h=>.inr h,λ_ h=>h,hr.deeper _,mP,λc q h=>by rw[h0]at h;cases h⟩
 unfold zq at e
 split at e
 rotate_left
 .cases e
 have er:ER H μ (zs.map some++M.K.caps.map some) (vs.map some++M.K.capv.map some):=by
  have all:=rs.append hR.ext.cap;refine⟨by simp[rs.len,hR.ext.cap.len],λi w hw=>?_⟩;rw[<-cQ,bE]at hw;cases q:(zs++M.K.caps)[i]? with
  |none=>rw[q]at hw;cases hw
  | some w'=>
    rw[q]at hw;cases hw;obtain⟨v,hv,rv⟩:=all.get q;exact⟨v,by rw[<-cQ,bE,hv];rfl,rv⟩
 let X1:Cx:=(AK M.P M.w M.K M.mg M.base (ps++fs) qual scope f (.ref c) XZ A outer s H).wish λe s'=>aT (model M.P M.w) (A.deeper 29#8) (leaving 29#8 e) (λ_ s''=>CX1 M.P M.w outer H s E e s'') (λe' s''=>CX1 M.P M.w outer H s E e' s'') s'
 refine FT (cf (hb X1 E ⟨rfl,rfl,rfl,rfl⟩ SS [] _ _ H 16#0 (I.wish _) ⟨μ,S1,_,u,S2,hR,er,e,ka⟩) (λv s' hs=>?_) λe s' hs=>hs);obtain⟨x,H',J,rv,q⟩:=hs;exact q.elim
structure FnR(M:Mo)(cl:Nat->Addr)(x:Str)(k:Nat)(rz:List Nat):Prop where
 ex :∃ (f:Addr) (fd:FuncData),M.mg x=some (.ref f)/\cZ M.K (.ref f)=true/\Binds M.K fd ["call"] [] /\
  ∀(caps:List U) (capv:List V) (cds:List (Addr×Obj)) (base:Heap) (g:Addr) (j:Nat) (φ:MF) (ψ:RF),fQ M.mg base->k<=j->Lam (M.to caps capv cds base) g j [] φ->AS (M.to caps capv cds base) cl g j [] ψ ->
   jx M.P M.w M.K M.mg base CX0 (j+1) f fd ["call"] (spM (M.K.to caps capv cds) (EN rz g φ ψ))
theorem AS.imp{M:Mo}{cl:Nat->Addr}{f:Addr}{k:Nat}{ps:List Str}{r r':RF}(L:AS M cl f k ps r)(h:∀us S q,r' us S=some q->r us S=some q):AS M cl f k ps r':=by
 obtain⟨fd,a,b,F⟩:=L.ex;refine⟨fd,a,b,F.imp λvs H Q E=>?_⟩;rintro ⟨μ,S,us,C,S',h1,h2,h3,h4⟩;exact⟨μ,S,us,C,S',h1,h2,h _ _ _ h3,h4⟩
def As:Arguments:=⟨[],[],none,[],[],none,[]⟩
theorem wd{K:ao}{name:Str}{cl:List (Str×Addr)}{cdv ct:Value}:Binds K (kla_fn name qual As body scope cl pm cdv ct) [] []:= .all λus hl=>by
 match us,hl with
 |[],_=>rfl
section
variable {M:Mo}{X:Cx}{k:Nat}{N:List Str}{ns:List (Str×NameKind)}{pins:List (Addr×Obj)}{σ:St}{H:Hp}{s:Shared}{cl:Nat->Addr}{rz:List Nat}
variable{is:List Nat}{rl:MX}
theorem IL{f0:Addr}{Xf:FuncData}{fs:List Str}{k' j:Nat}{ml:ME}{Zy:Value}{c' f:Addr}{t:Tok}
  {S1 S':Sto}{G:Rho}{u:U}{cs:List U}{Q:VK}
  (S:Sc M X k N ns) (hB:fQ M.mg M.base) (hj:k'<=j+1) (hk:j+2<=k) (YJ:Binds M.K Xf ["call"] [])
  (FF :∀ (caps:List U) (capv:List V) (cds:List 2#9) (base:Heap) (g:Addr) (j:Nat) (φ:MF) (ψ:RF),fQ M.mg base->k'<=j->Lam 9#0 g j [] φ->AS 9#0 cl g j [] ψ->jx M.P M.w M.K M.mg base CX0 (j+1) f0 Xf ["call"] (spM 12#9 (EN rz g φ ψ)))
  (LS:jf [] fs scope) (Zf:∀y∈fs,ns.lookup y=some .cell/\(y,ba)∈4#3) (Xo:dG 18#1 fs=some is)
  (hb:∀(caps:List U) (capv:List V) (cds:List 2#9) (base:Heap),fQ M.mg base->∀(X':Cx),Sc 9#0 X' j ([]++fs) 4#3->PE X' body (tM 12#9 ml))
  (hx:∀(caps:List U) (capv:List V) (cds:List 2#9) (base:Heap),fQ M.mg base->∀(X':Cx) (E:XK),Lv X' E->Sc 9#0 X'.nox j ([]++fs) 4#3->PE X' body (tXE cl 12#9 rl E))
  (I:Inv X pins σ H s) (hr:HR M.K μ S1 H) (er:ER H μ G σ) (Zi:jw is G=some cs) (spec:Fj rz (nc 0 ml cs) (zq 0 rl cs) S1=some (u,S')) (aft:Aft M.K μ H u S' Q)
  (hf:s.heap.get? f=some (kla_obj "<lambda>" qual As body scope 13#7 pm c' Zy)) (YZ:H f=none) (Yv:f∉frs X.stack) (hc:H c'=some (.frz oc fz)) (Zo:oc.data=.fields ws) (hq:ws[1]?=some (.str qual t)) :
  aT 1#8 X.A (call (.ref f0) [.ref f]) 9#2 X.xe s:=by
 obtain⟨cv,rc,C⟩:=zi S I er Zf Xo Zi;have WB:fQ M.mg 12#6:=hB.keeps λa o e=>wk I a o (by rw[S.hb];exact e);have Yn:∀y c,(eX X.env.cells scope.names []).lookup y=some c->∃o v,(baseOf s.heap H 12#2).get? c=some o/\o.data=.cell v:=λy c e=>by
  obtain⟨e1,e2⟩:=ie e;obtain⟨v,o,ho,hd⟩:=I.cell y c e1;exact⟨o,v,eT ho (I.freeC y c e1) (vM S I (Zf y (LS.fre _ e2 rfl)).1 e1),hd⟩
 have inj:∀y z c,(eX X.env.cells scope.names []).lookup y=some c->(eX X.env.cells scope.names []).lookup z=some c->y=z:=λy z c e1 e2=>I.ok.inj y z c (ie e1).1 (ie e2).1;have lam:Lam (M.to cs cv 13#9 12#6) f (j+1) [] (nc 0 ml cs):=
  ⟨_,.inl ⟨_,_,_,eT hf YZ Yv⟩,wd,G6 (M:=M.to cs cv 13#9 12#6) rfl (eT hf YZ Yv) (aW _ bc) Zo hq LS C Yn inj (hb _ _ _ _ WB)⟩
 have W':AS (M.to cs cv 13#9 12#6) cl f (j+1) [] (zq 0 rl cs):=
  ⟨_,.inl ⟨_,_,_,eT hf YZ Yv⟩,wd,Kx (M:=M.to cs cv 13#9 12#6) rfl (eT hf YZ Yv) (aW _ bc) Zo hq LS C Yn inj (hx _ _ _ _ WB)⟩
 have FO:=FF _ _ _ _ f (j+1) _ _ WB hj lam W';rw[<-S.hP,<-S.hw,<-S.hK,<-S.hm]at FO
 have Zs:HR (M.K.to cs cv 13#9) μ S1 H:=⟨hr.len,hr.inj,hr.cell,rc,λq hq=>by
  rcases aY.mp hq with z|z
  .exact hr.ext.cds q z
  .have e:q=(c',oc):=by simpa using z
   rw[e];exact hc,hr.ext.tab⟩
 have Zr:spM (M.K.to cs cv 13#9) (EN rz f (nc 0 ml cs) (zq 0 rl cs)) [.ref f] H Q E0:=by
  refine⟨μ,S1,[.obj f],u,S',Zs,.cons (by simp only[RU]) .nil,(if_pos rfl).trans spec,λY4 v H' p' k' ZX ru2=>?_⟩;exact aft Y4 v H' p' k' ⟨ZX.len,ZX.inj,ZX.cell,RUs.mono k' p' _ _ hr.ext.cap,λq hq=>ZX.ext.cds q (a9 _ hq),ZX.ext.tab⟩ ru2
 rw[<-S.hK]at YJ;refine JA (iK (FO.run X.A X.stack s H ⟨[.ref f],[]⟩ [.ref f] [.ref f] Q E0 14#2 (xN I) (YJ s _ I.kIn rfl) (.cons rfl .nil) Zr) λr s' hq=>?_);cases r with
 |error e=>exact hq.elim
 | ok fl=>
   cases fl with
   |ret u=>exact I.after hq
   |next=>exact ck hq
   |brk=>exact ck hq
   |cont=>exact ck hq
theorem Kg{fs:List Str}{k' j:Nat}{ml:ME}{g q:Str}{c P:Addr}{p1 lp pos:Pos}
  (S:Sc M X k N ns) (FC:FnR M cl g k' rz) (hj:k'<=j+1) (hk:j+2<=k) (WV:M.mkr=some (c,q)) (MK:Mkr M c P (q++"<lambda>"))
  (hg:dM ns g=true) (hgd:(g==("__debug__":Str))=false)
  (LS:jf [] fs scope) (Zf:∀y∈fs,ns.lookup y=some .cell/\(y,ba)∈4#3) (Xo:dG 18#1 fs=some is)
  (hb:∀(caps:List U) (capv:List V) (cds:List 2#9) (base:Heap),fQ M.mg base->∀(X':Cx),Sc 9#0 X' j ([]++fs) 4#3->PE X' body (tM 12#9 ml))
  (hx:∀(caps:List U) (capv:List V) (cds:List 2#9) (base:Heap),fQ M.mg base->∀(X':Cx) (E:XK),Lv X' E->Sc 9#0 X'.nox j ([]++fs) 4#3->PE X' body (tXE cl 12#9 rl E)):
  PE X (.Call (.Name g p1) [.Lambda As body scope lp] [] pos) (tM M.K (j9 rz is ml rl)):=by
 intro pins s σ H Q I h;obtain⟨μ,S1,G,u,S',Z',er,qm,aft⟩:=h;unfold j9 at qm;cases Zi:jw is G with
 |none=>rw[Zi]at qm;cases qm
 |some cs=>
 rw[Zi]at qm;simp only[ah]at qm;obtain⟨f0,Xf,hm,Zq,YJ,FF⟩:=FC.ex;rw[<-S.hK]at Zq;refine dP (kn I 5#4 6#7 ?_ hgd);refine la (h₀:=X.base) I.ok.mod.kin Zq ?_ rfl rfl;obtain⟨Z9,Zc⟩:=S.cod c q WV;obtain⟨Ww,hP,tr,al⟩:=Z'.ext.tab _ MK.mem;have WQ:s.heap.get? P=some (tabObj Ww):=I.hok P _ hP;have kin:M.K.K.In s.heap:=by have:=I.kIn;rwa[S.hK]at this
 have C:CodeHd s.heap c P:=MK.hd _ kin;have Xh:s.heap.Ns mainGlobals X.mg:=I.mod.glob.keeps I.bk;obtain⟨bm,ob,b1,b2,b5,b6,b7,b8⟩:=MK.bl;have XU:s.heap.get? bm=some ob:=I.bk bm ob (by rw[S.hb];exact b5);have b3:bm≠mainGlobals:=λz=>by
  obtain⟨o,es,ep,e,hd,_⟩:=Xh;rw[<-z,XU]at e;cases e;rw[b8]at hd;cases hd
 have b4:bm≠P:=λz=>by
  rw[z,WQ]at XU;cases XU;cases b8
 have BA:s.heap.BuiltinsAt X.mg P:=⟨bm,ob,by rw[S.hm];exact b1,b2,b3,b4,XU,b6,b7,b8⟩;have Yy:closureFor scope X.env=pure 13#7:=vt λy hy s9=>I.ok.has y.1 (.inl (S.cel y.1 (Zf y.1 (LS.fre y hy s9)).1).1);show aT _ _ (spliced [(false,eval (.Lambda As body scope lp) X.env)]) _ _ s;refine d7 (PySem.W.kla_eval rfl ?_);have fin:∀(H2:Hp) (s2:Shared) (c' f:Addr) (Zy:Value) (oc:Obj) (ws:Array Value) (t:Tok),Inv X pins σ H2 s2->bp H H2->HR M.K μ S1 H2 ->
   s2.heap.get? f=some (kla_obj "<lambda>" 20#8 As body scope 13#7 20#1 c' Zy)->H2 f=none->1#2<=f->H2 c'=some (.frz oc fz)->oc.data=.fields ws->ws[1]?=some (.str (q++"<lambda>") t) ->
   aT 1#8 X.A (spliced []) (λvs ZY=>X.K.In ZY.heap/\aT 1#8 X.A (call (.ref f0) ([]++(bw f::vs))) 9#2 X.xe ZY) X.xe s2:=by
  intro H2 s2 c' f Zy oc ws t I2 Yk ZX hf YZ Xg hc Zo hq;have Yv:f∉frs X.stack:=λz=>by
   obtain⟨_,o,ho,_⟩:=I.stack.mem z;exact absurd (ai (aG ho) Xg) (bP _)
  rw[<-Zc]at hq;exact gE ⟨I2.kIn,IL S MK.bl hj hk YJ FF LS Zf Xo hb hx I2 ZX (er.mono Yk 2#4) Zi qm (aft.mono 2#4 Yk) hf YZ Yv hc Zo hq⟩
 cases YO:codeAmong lp Ww.toList with
 | none=>
   refine Bp (mg:=X.mg) Yy I.ok.glob Xh Z9 C WQ tr YO MK.gP BA λc' Zy h' tk hx YE ZV WW Yh=>?_;obtain⟨c2,oc,ws,t,e,Zo,hd,Yq⟩:=WW;cases e;have I2:=xY (ob:=kla_obj "<lambda>" 20#8 As body scope 13#7 20#1 c' Zy) (tk:=tk) I hP hx YE Zo Yh;rw[Zc]at Yq;obtain⟨Yk,ZX⟩:=Z'.table (a:=(lp.line:Int)) (b:=(lp.col:Int)) hP (I.hok.fresh YE) hd Yq MK.un;have hsz:1#2<=16#3:=aB YE (aV ZV);refine fin _ _ c' h'.objs.size Zy oc ws t I2 Yk ZX (aH _ rfl) ?_ hsz ?_ hd Yq
   .rw[bg (cJ (aG Yh)),bg (cJ ZV)]
    exact I.hok.fresh hsz
   .rw[bg (bh hP (I.hok.fresh YE)).symm,cx]
 | some cv=>
   obtain⟨c',oc,ws,t,rfl,YD,hd,Yq⟩:=al lp cv YO;refine yw (mg:=X.mg) Yy I.ok.glob Xh Z9 C WQ tr YO BA λZy h' tk hk hsz=>?_;have I2:=I.kept (t':=tk) (h':=h'.push (kla_obj "<lambda>" 20#8 As body scope 13#7 20#1 c' Zy)) (fun b o e=>ar _ (hk b o e));exact fin H _ c' h'.objs.size Zy oc ws t I2 9#7 Z' (aH _ rfl) (I.hok.fresh hsz) hsz YD hd Yq
end
end _G
namespace _G
open PySem PySem.Spec _L
open PySem.W (envX fnX fnMade CodeHd tabObj)
open PyProof.Rows hiding St
def sml(i:Int):Prop:= -(2^64)<i/\i<2^64
instance(i:Int):Decidable (sml i):=cj _
section
variable {M:Mo}{X:Cx}{k:Nat}{N:List Str}{ns:List (Str×NameKind)}
end
section
variable {M:Mo}{X:Cx}{k:Nat}{N:List Str}{ns:List (Str×NameKind)}{pins:List (Addr×Obj)}{σ:St}{H:Hp}{s:Shared}
end
end _G
namespace _G
open PySem PySem.Spec _L
open PyProof.Rows hiding St
abbrev NS:=List 6#9
structure Zt where
 R:List (Str×RF)
 F:List (Str×List Nat)
 cl:Nat->Addr
 nm:Str
def z0:Zt:=⟨[],[],fun _=>0,"<lambda>"⟩
def Zt.to(z:Zt)(nm:Str):Zt:=⟨z.R,z.F,z.cl,nm⟩
structure Tb where
 D:List (Str×MF)
 C:List (Str×U)
 L:List (Str×Addr×MF)
 H:List (Str×(Addr->MF->MF))
 mkr:Bool
 Z:Zt
def Tb.bare(T:Tb):Tb:=⟨T.D,T.C,[],T.H,false,T.Z⟩
def frees(sc:Scope):List Str:=(sc.names.filter λy=>y.2==.free).map (·.1)
def yM(ps:List Str)(sc:Scope)(ns:NS):Bool:=
 sc.kind==.function && !sc.isCoroutine && !sc.isGenerator&&decide ((ps++frees sc).Nodup)&&ps.all (λp=>sc.names.lookup p==some .local||sc.names.lookup p==some .cell)&&sc.names.all (λy=>!(y.2==.cell)||sc.names.lookup y.1==some .cell)&&(frees sc).all λy=>sc.names.lookup y==some .free&&ns.lookup y==some .cell
def notStar:Expr->Bool
 |.Starred _ _=>false
 |_=>true
def i6:Expr->Bool
 |.ListComp _ _ _ _=>false
 |.SetComp _ _ _ _=>false
 |.DictComp _ _ _ _ _=>false
 |_=>true
def iW:Expr->Bool
 |.Set _ _ _=>false
 |_=>true
def lG:Expr->Bool
 |.Slice _ _ _ _=>false
 |_=>true
def notTuple:Expr->Bool
 |.Tuple _ _ _=>false
 |_=>true
def uw:List Expr->Bool
 |[.Subscript _ _ _,.Subscript _ _ _]=>true
 |_=>false
def baseOk:Expr->Bool
 |.Call (.Name _ _) [] [] _=>false
 |_=>true
def plainT:Expr->Bool
 |.Name _ _=>true
 |.Call _ _ _ _=>true
 |.Subscript _ _ _=>true
 |.Constant _ _ _=>true
 |_=>false
def dummy(N:List Str):Str:=⟨#[N.length+1]⟩
def Cd(N:List Str)(x:Str):List Str:=(N.map λy=>if y==x then dummy N else y)++[x]
def HI(N xs:List Str):List Str:=(N.zipIdx.map λ(y,i)=>if xs.contains y then(⟨#[N.length+1,i]⟩:Str) else y)++xs
def namesOf:List Expr->Option (List Str)
 |[]=>some []
 |.Name x _::r=>(namesOf r).map λxs=>x::xs
 |_=>none
def cu(x:Str):Bool := ! 9#1 && ! 23#3
def slot(N:List Str)(x:Str):Option Nat:=N.findIdx? (· == x)
def O7(g:Str):Option MF:=
 if g==("len":Str) then some bR else if g==("tuple":Str) then some bC else if g==("list":Str) then some vU
 else if g==("max":Str) then some B3 else if g==("min":Str) then some uH else if g==("all":Str) then some sx
 else if g==("sorted":Str) then some dh else if g==("int":Str) then some Cp  else if g==("repr":Str) then some oQ else none
def jg:List Str := ["len","tuple","list","max","min","range","isinstance","bool","int","str","dict","all","any","sorted","reversed","zip","enumerate","set","sum","repr"]
def Jh(t:Str):Option String:=
 if t==("tuple":Str) then some "tuple" else if t==("list":Str) then some "list" else if t==("int":Str) then some "int"
 else if t==("bool":Str) then some "bool" else if t==("str":Str) then some "str" else if t==("dict":Str) then some "dict" else none
def PU:Operator->Option F2
 |.Add=>some bN
 |.Sub=>some oB
 |.Mult=>some fW
 |.FloorDiv=>some oDiv
 |.Mod=>some oMod
 |.Pow=>some uC
 |_=>none
def AG:CmpOp->Option F2
 |.Lt=>some oLt
 |.LtE=>some oLe
 |.Gt=>some oGt
 |.GtE=>some oGe
 |.Eq=>some oEq
 |.NotEq=>some oNe
 |.In=>some oIn
 |.NotIn=>some eJ
 |.IsNot=>some o9
 |_=>none
def sNo:MS:=λ_ _=>none
def Q5:MS:=λG S=>some (.bk,G,S)
def Sy:MS:=λG S=>some (.ct,G,S)
def Gv(name:Str)(ma:ME)(ZS:MA):Option ME:=
 if name==("append":Str) then some (mML bJ ma ZS) else if name==("pop":Str) then some (mML kS ma ZS)
 else if name==("index":Str) then some (mMT jM ma ZS)
 else if name==("extend":Str) then some (mML gn ma ZS) else none
set_option genInjectivity false in
structure Rc where
 e:Tb->List Str->NS->Expr->Option ME
 c:Tb->List Str->NS->Str->List Expr->Option ME
 v:Tb->List Str->NS->Str->List Expr->Option ME
 o:Tb->List Str->NS->Option Expr->Option (Option ME)
 t:Tb->List Str->NS->Expr->Option MT
 l:Tb->List Str->NS->Bool->List Expr->Option MT
 f:Tb->List Str->NS->List Expr->Option MT
 a:Tb->List Str->NS->List Expr->Option MA
 i:Tb->List Str->NS->Expr->Option MI
 g:Tb->List Str->NS->Expr->Option MG
 gs:Tb->List Str->NS->List Expr->Option MGs
 s:Tb->List Str->NS->Stmt->Option MS
 b:Tb->List Str->NS->List Stmt->Option MS
section
variable (R:Rc) (T:Tb) (N:List Str) (ns:NS)
def SW:Const->Option ME
 |.int i=>some (mC 3#0)
 |.bool b=>some (mC (.bl b))
 |.none=>some (mC .non)
 |.str x=>some (mC (.str x))
 |_=>none
def eUn(a:Expr):UnaryOp->Option ME
 |.USub=>(R.e T N ns a).map (m1 gS)
 |.Not=>(R.e T N ns a).map (m1 pG)
 |_=>none
def eBo(op:BoolOp)(p:Pos):List Expr->Option ME
 |[]=>none
 |[a]=>R.e T N ns a
 | a::b::r=>(R.e T N ns a).bind λma=>match op with
   |.And=>(R.e T N ns (.BoolOp .And (b::r) p)).map (iZ ma)
   |.Or=>(R.e T N ns (.BoolOp .Or (b::r) p)).map (mOr ma)
def eCm(a:Expr):List CmpOp->List Expr->Option ME
 |[op],[b]=>if iW b then(R.e T N ns a).bind λma=>(R.e T N ns b).bind λmb=>(AG op).map λf=>m2 f ma mb else none
 |[op,Ys],[b,c]=>if iW b&&iW c then(R.e T N ns a).bind λma=>(R.e T N ns b).bind λmb=>(R.e T N ns c).bind λmc=>(AG op).bind λf=>(AG Ys).map λg=>mCh f g ma mb mc else none
 |_,_=>none
def LW:Expr->Bool
 |.UnaryOp .USub (.Constant (.int i) _ _) _=>i==1
 |_=>false
def eSl(a:Expr)(lo hi:Option Expr):Option Expr->Option ME
 |none=>(R.e T N ns a).bind λma=>(R.o T N ns lo).bind λml=>(R.o T N ns hi).map (mSl ma ml)
 |some s=>if lo.isNone&&hi.isNone&&LW s then(R.e T N ns a).map (m1 oG) else none
def eSb(a:Expr):Expr->Option ME
 |.Slice lo hi st _=>eSl R T N ns a lo hi st
 |b=>if lG b then(R.e T N ns a).bind λma=>(R.e T N ns b).map (m2 oIx ma) else none
def eDi:List (Option Expr)->List Expr->Option ME
 |[],[]=>some sW
 |[some a],[b]=>(R.e T N ns a).bind λma=>(R.e T N ns b).map (kE ma)
 |_,_=>none
def PC(x:Str):Expr->Bool
 |.Name g _=>g==x
 |_=>false
def Jc(e:Expr):Option Expr:=match e with
 |.Call g as ks _=>if PC "enumerate" g&&(ks.isEmpty&&as.length==1) then as.head? else none
 |_=>none
def eIc(e:Expr):Option MI:=match Jc e with
 |some a=>if dM ns ("enumerate":Str) then (R.a T N ns [a]).map mI else none
 |none=>(R.e T N ns e).map bZ
def eLn(elt it:Expr)(ifs:List Expr)(scope:Scope)(x:Str):Option ME:=
 (R.i T N ns it).bind λmi=>(R.f T (Cd N x) scope.names ifs).bind λmt=>(R.e T (Cd N x) scope.names elt).map (bL mi mt)
def eLt(elt it:Expr)(ifs:List Expr)(scope:Scope):Expr->Option ME
 |.Name x _=>if 14#9==.function&&oh N (Cd N x) ns scope.names x&&iW it then eLn R T N ns elt it ifs scope x else none
 | .Tuple ts _ _=>(namesOf ts).bind λxs=>
   if 14#9==.function&&rB N (HI N xs) ns scope.names xs&&iW it then
    (eIc R T N ns it).bind λmi=>(R.f T (HI N xs) scope.names ifs).bind λmt=>(R.e T (HI N xs) scope.names elt).map (ic xs.length mi mt)
   else none
 |_=>none
def eLc(elt:Expr)(scope:Scope):List Comprehension->Option ME
 |[c]=>if c.is_async=0 then eLt R T N ns elt c.iter c.ifs scope c.target else none
 |_=>none
def zV(fs:List Str)(XG:NS):Expr->Option MX
 |.Call (.Name f _) (a::as) [] _=>if dM XG f&&cu f then(T.Z.R.lookup f).bind λrf=>(R.a T.bare fs XG (a::as)).map (xFn rf) else none
 |_=>none
def Mh(fs:List Str)(XG:NS)(q:Pos)(a:Expr):Expr->Option MX
 |.Attribute o x p=>if x==("append":Str)&&baseOk o&&(p.endLine==q.line)&&notStar a then (R.e T.bare fs XG o).bind fun mo=>(zV R T fs XG a).map (xML mo) else none
 |_=>none
def Ng(fs:List Str)(XG:NS):Expr->Option MX
 |.Call g [a] [] q=>(Mh R T fs XG q a g).or (zV R T fs XG (.Call g [a] [] q))
 |e=>zV R T fs XG e
def HF(p:Arguments):Bool:=uh p&&p.args.isEmpty
def Ic(g:Str)(p:Arguments)(b:Expr)(sc:Scope):Option ME:=
 if T.mkr&&T.Z.nm==("<lambda>":Str)&&HF p&&yM [] sc ns then (dG (fun y=>N.findIdx? (· == y)) (frees sc)).bind fun is=>(R.e T.bare ([]++frees sc) sc.names b).bind fun ml=>(Ng R T ([]++frees sc) sc.names b).bind fun rl=>(T.Z.F.lookup g).map fun rz=>j9 rz is ml rl else none
def eRg(g:Str):List Expr->Option ME
 |[a]=>if g==("list":Str) then (R.a T N ns [a]).map fun m=>fZ (iR1 m) else (R.a T N ns [a]).map fun m=>vK (iR1 m)
 |[a,b]=>if g==("list":Str) then (R.a T N ns [a,b]).map fun m=>fZ (iR2 m) else none
 |_=>none
def eC1(g:Str):Expr->Option ME
 |.Lambda p b sc _=>Ic R T N ns g p b sc
 |.Call (.Name r q) rs [] rp=>if (g==("list":Str)||g==("tuple":Str))&&r==("range":Str) then (if dM ns r then eRg R T N ns g rs else none) else R.c T N ns g [.Call (.Name r q) rs [] rp]
 |a=>R.c T N ns g [a]
def eIs(g t:Str)(tp:Pos)(a:Expr):Option ME:=
 if g==("isinstance":Str) then (if dM ns t&&notStar a then (Jh t).bind fun c=>(R.e T N ns a).map (m1 (gv c)) else none) else R.c T N ns g [a,.Name t tp]
def Ub(g:Str)(a:Expr)(p:Arguments)(b:Expr)(sc:Scope):Option ME:=
 if T.mkr&&T.Z.nm==("<lambda>":Str)&&notStar a then (vh p).bind fun ps=>
    if yM ps sc ns then(dG 18#1 (frees sc)).bind λis=>(R.e T N ns a).bind λma=>(R.e T.bare (ps++frees sc) sc.names b).bind λml=>(T.H.lookup g).map λF=>kT F ps.length is ml ma else none
   else none
def eC2(g:Str)(a:Expr):Expr->Option ME
 |.Name t tp=>eIs R T N ns g t tp a
 |.Lambda p b sc _=>Ub R T N ns g a p b sc
 |b=>R.c T N ns g [a,b]
def eCf(g:Str):List Expr->Option ME
 |[]=>(T.D.lookup g).map λmf=>mFn mf ag
 |[a]=>eC1 R T N ns g a
 |[a,b]=>eC2 R T N ns g a b
 |a::b::c::r=>R.c T N ns g (a::b::c::r)
def eMe(o:Expr)(name:Str)(p q:Pos):List Expr->Option ME
 |[]=>if baseOk o&&(p.endLine==q.line)&&name==("pop":Str) then (R.e T N ns o).map fun mo=>mML nM mo ag else none
 |[a]=>if baseOk o&&(p.endLine==q.line)&&notStar a then(R.e T N ns o).bind λmo=>(R.a T N ns [a]).bind (Gv name mo) else none
 |_=>none
def eCa(as:List Expr)(q:Pos):Expr->Option ME
 |.Name g _=>if dM ns g&&cu g then eCf R T N ns g as else R.v T N ns g as
 |.Attribute o name p=>eMe R T N ns o name p q as
 |_=>none
end
def sE(R:Rc)(T:Tb):List Str->NS->Expr->Option ME:=λN ns e=>match e with
  |.Name x _=>if cu x then(if pK ns x then(slot N x).map ae else if dM ns x then(T.C.lookup x).map mC else none) else none
  |.Constant c _ _=>SW c
  |.BinOp a op b _=>(R.e T N ns a).bind λma=>(R.e T N ns b).bind λmb=>(PU op).map λf=>m2 f ma mb
  |.UnaryOp op a _=>eUn R T N ns a op
  |.BoolOp op vs p=>eBo R T N ns op p vs
  |.Compare a ops bs _=>eCm R T N ns a ops bs
  |.IfExp c a b _=>(R.t T N ns c).bind λmc=>(R.e T N ns a).bind λma=>(R.e T N ns b).map (tS mc ma)
  |.Subscript a b _=>eSb R T N ns a b
  |.Dict ks vs _=>eDi R T N ns ks vs
  |.Tuple es _ _=>(R.a T N ns es).map cH
  |.List es _=>(R.a T N ns es).map bA
  |.ListComp elt gens scope _=>eLc R T N ns elt scope gens
  |.Call f as Ws q=>if Ws.isEmpty then eCa R T N ns as q f else none
  |_=>none
def sC(R:Rc)(T:Tb):List Str->NS->Str->List Expr->Option ME:=λN ns g as=>(R.a T N ns as).bind λZS=>match O7 g with
  |some mf=>some (mFn mf ZS)
  |none=>(T.D.lookup g).map λmf=>mFn mf ZS
def sV(R:Rc)(T:Tb):List Str->NS->Str->List Expr->Option ME:=λN ns g as=>match as with
 |[]=>none
 |a::as=>if pK ns g&&cu g then(T.L.lookup g).bind λq=>(slot N g).bind λi=>(R.a T N ns (a::as)).map (wZ i q.1 q.2) else none
def sO(R:Rc)(T:Tb):List Str->NS->Option Expr->Option (Option ME):=λN ns o=>match o with
  |none=>some none
  |some e=>(R.e T N ns e).map some
def sT(R:Rc)(T:Tb):List Str->NS->Expr->Option MT:=λN ns e=>match e with
  |.UnaryOp .Not a _=>(R.t T N ns a).map kj
  |.BoolOp .And vs _=>R.l T N ns true vs
  |.BoolOp .Or vs _=>R.l T N ns false vs
  |.Compare a ops bs _=>(eCm R T N ns a ops bs).map cOf
  |e=>if plainT e then(R.e T N ns e).map cOf else none
def sL(R:Rc)(T:Tb):List Str->NS->Bool->List Expr->Option MT:=λN ns b vs=>match vs with
  |[]=>none
  |[a]=>R.t T N ns a
  |a::r=>(R.t T N ns a).bind λma=>(R.l T N ns b r).map λmr=>if b then wU ma mr else cOr ma mr
def sF(R:Rc)(T:Tb):List Str->NS->List Expr->Option MT:=λN ns ifs=>match ifs with
  |[]=>some cTT
  |[c]=>R.t T N ns c
  |_=>none
def sA(R:Rc)(T:Tb):List Str->NS->List Expr->Option MA:=λN ns es=>match es with
  |[]=>some ag
  |e::r=>if notStar e then(R.e T N ns e).bind λm=>(R.a T N ns r).map (aa m) else none
def sI(R:Rc)(T:Tb):List Str->NS->Expr->Option MI:=λN ns e=>match e with
  | .Call (.Name g q) as [] p=>
    if g==("range":Str) then
     if dM ns g then match as with
      |[a]=>(R.a T N ns [a]).map iR1
      |[a,b]=>(R.a T N ns [a,b]).map iR2
      |_=>none
     else none
    else(R.e T N ns (.Call (.Name g q) as [] p)).map bZ
  |e=>(R.e T N ns e).map bZ
def sG(R:Rc)(T:Tb):List Str->NS->Expr->Option MG:=λN ns e=>match e with
  |.Name x _=>if nO ns x then(slot N x).map gN else none
  |.Tuple es _ _=>(R.gs T N ns es).map (gTp es.length)
  |_=>none
def sGs(R:Rc)(T:Tb):List Str->NS->List Expr->Option MGs:=λN ns es=>match es with
  |[]=>some oR
  |e::r=>if notStar e then(R.g T N ns e).bind λg=>(R.gs T N ns r).map (eK g) else none
def eIt(R:Rc)(T:Tb)(N:List Str)(ns:NS)(e:Expr):Option MI:=match e with
  |.Call (.Name g q) [a] [] p=>if g==("enumerate":Str) then (if dM ns g then (R.a T N ns [a]).map mI else none) else (R.e T N ns (.Call (.Name g q) [a] [] p)).map bZ
  |e=>(R.e T N ns e).map bZ
def Nw(R:Rc)(T:Tb)(N:List Str)(ns:NS)(y:Str)(elt it:Expr)(ifs:List Expr)(scope:Scope):Expr->Option MS
 | .Name x _=>
   if nO ns y&&(14#9==.function&&oh N (Cd N x) ns scope.names x&&iW it) then
    (slot N y).bind λi=>(R.i T N ns it).bind λmi=>(R.f T (Cd N x) scope.names ifs).bind λmt=>(R.e T (Cd N x) scope.names elt).map λme=>bq i (bL mi mt me)
   else none
 |_=>none
def Ss(R:Rc)(T:Tb)(N:List Str)(ns:NS)(y:Str)(elt:Expr)(scope:Scope):List Comprehension->Option MS
 |[c]=>if c.is_async=0 then Nw R T N ns y elt c.iter c.ifs scope c.target else none
 |_=>none
def Qz(R:Rc)(T:Tb)(N:List Str)(ns:NS)(x:Str):Expr->Option MS
 |.ListComp elt gens scope _=>Ss R T N ns x elt scope gens
 |e=>if nO ns x&&i6 e then(slot N x).bind λi=>(R.e T N ns e).map (bq i) else none
def OP(R:Rc)(T:Tb)(N:List Str)(ns:NS)(e:Expr):Expr->Option MS
  |.Name x _=>Qz R T N ns x e
  |.Subscript a b _=>if i6 e&&lG b then(R.e T N ns a).bind λma=>(R.e T N ns b).bind λmb=>(R.e T N ns e).map (eI ma mb) else none
  |.Tuple ts kt pt=>if i6 e&&(notTuple e||uw ts) then(R.g T N ns 17#2).bind λg=>(R.e T N ns e).map λme=>ze me g else none
  |_=>none
def sAs(R:Rc)(T:Tb)(N:List Str)(ns:NS)(e:Expr):List Expr->Option MS
 |[t]=>OP R T N ns e t
 |_=>none
def sAu(R:Rc)(T:Tb)(N:List Str)(ns:NS)(x:Str)(e:Expr):Operator->Option MS
  |_=>none
def Qi(R:Rc)(T:Tb)(N:List Str)(ns:NS)(op:Operator)(e:Expr):Expr->Option MS
 |.Name x _=>sAu R T N ns x e op
 |_=>none
def sRt(R:Rc)(T:Tb)(N:List Str)(ns:NS):Option Expr->Option MS
 |some e=>(R.e T N ns e).map b9
 |none=>some (b9 (mC .non))
def sFo(R:Rc)(T:Tb)(N:List Str)(ns:NS)(it:Expr)(body:List Stmt):Expr->Option MS
  |.Name x _=>if nO ns x&&iW it then(slot N x).bind λi=>(R.i T N ns it).bind λmi=>(R.b T N ns body).map (dU i mi) else none
  |.Tuple ts kt pt=>if iW it then(R.g T N ns 17#2).bind λg=>(eIt R T N ns it).bind λmi=>(R.b T N ns body).map (va g mi) else none
  |_=>none
def Oy(R:Rc)(T:Tb)(N:List Str)(ns:NS)(t it:Expr)(body:List Stmt):List Stmt->Option MS
 |[]=>sFo R T N ns it body t
 |_=>none
def sWh(R:Rc)(T:Tb)(N:List Str)(ns:NS)(c:Expr)(body:List Stmt):List Stmt->Option MS
 |[]=>(R.t T N ns c).bind λmc=>(R.b T N ns body).map (jy mc)
 |_=>none
def sS(R:Rc)(T:Tb):List Str->NS->Stmt->Option MS:=λN ns st=>match st with
  |.Assign ts e _=>sAs R T N ns e ts
  |.AugAssign t op e _=>Qi R T N ns op e t
  |.Expr e _=>if i6 e then(R.e T N ns e).map di else none
  |.Return o _=>sRt R T N ns o
  |.If c a b _=>(R.t T N ns c).bind λmc=>(R.b T N ns a).bind λma=>(R.b T N ns b).map (sIf mc ma)
  |.For t it body els _=>Oy R T N ns t it body els
  |.While c body els _=>sWh R T N ns c body els
  |.Pass _=>some cM
  |.Break _=>some Q5
  |.Raise _ _ _=>some sNo
  |.Continue _=>some Sy
  |_=>none
section
variable (R:Rc) (T:Tb) (N:List Str) (ns:NS)
end
def sB(R:Rc)(T:Tb):List Str->NS->List Stmt->Option MS:=λN ns sts=>match sts with
  |[]=>some cM
  |[s]=>R.s T N ns s
  |s::r=>(R.s T N ns s).bind λms=>(R.b T N ns r).map (aR ms)
def rc:Nat->Rc
 |0=>⟨λ_ _ _ _=>none,λ_ _ _ _ _=>none,λ_ _ _ _ _=>none,λ_ _ _ _=>none,λ_ _ _ _=>none,λ_ _ _ _ _=>none,λ_ _ _ _=>none,λ_ _ _ _=>none,λ_ _ _ _=>none,λ_ _ _ _=>none,λ_ _ _ _=>none,λ_ _ _ _=>none,λ_ _ _ _=>none⟩
 |n+1=>⟨sE (rc n),sC (rc n),sV (rc n),sO (rc n),sT (rc n),sL (rc n),sF (rc n),sA (rc n),sI (rc n),sG (rc n),sGs (rc n),sS (rc n),sB (rc n)⟩
abbrev cE(T:Tb)(n:Nat):=(rc n).e T
abbrev cC(T:Tb)(n:Nat):=(rc n).c T
abbrev cV(T:Tb)(n:Nat):=(rc n).v T
abbrev cO(T:Tb)(n:Nat):=(rc n).o T
abbrev cT(T:Tb)(n:Nat):=(rc n).t T
abbrev cL(T:Tb)(n:Nat):=(rc n).l T
abbrev cF(T:Tb)(n:Nat):=(rc n).f T
abbrev cA(T:Tb)(n:Nat):=(rc n).a T
abbrev cI(T:Tb)(n:Nat):=(rc n).i T
abbrev cG(T:Tb)(n:Nat):=(rc n).g T
abbrev cGs(T:Tb)(n:Nat):=(rc n).gs T
abbrev cS(T:Tb)(n:Nat):=(rc n).s T
abbrev cB(T:Tb)(n:Nat):=(rc n).b T
section
variable {env:Env}{e a b o:Expr}{es:List Expr}{pos q:Pos}
theorem cR(h:notStar e=true)(es:List Expr)(env:Env):starEach 2#5 env=(false,eval e env)::starEach es env:=by
 cases e<;>first |rfl |cases h
theorem pL(pos:Pos)(env:Env):∀{es:List Expr},es.all notStar=true->(backTo pos (starEach es env)).any (·.1)=false
 |[],_=>rfl
 | e::es,h=>by
   rw[bK,av]at h;rw[cR h.1];show(false||(backTo pos (starEach es env)).any (·.1))=false;rw[pL pos env h.2];rfl
theorem Ih(h:plainT e=true)(env:Env):∀whole,isTrue e env whole=(do let v <- whole;standAt e.pos;holding [v] (truthy v)):=by
 intro whole;cases e<;>first |rfl |cases h
theorem rq(h:iW e=true)(env:Env):∀x,foldedSetIterable e env x=pure x:=by
 intro x;cases e<;>first |rfl |cases h
theorem yP(h:iW b=true)(op:CmpOp):behindInMarks op b=false:=by
 cases b<;>first |rfl |cases h
theorem M4(h:lG b=true):yG b:=by
 intro o i;cases b<;>first |rfl |cases h
theorem n9(h:baseOk o=true)(name:Str)(env:Env):attributeBase o name env (eval o env)=eval o env:=by
 cases o with
 | Call f as ks p=>
   cases f with
   | Name x p=>
     cases as with
     | nil=>cases ks with
       |nil=>cases h
       |cons k ks=>rfl
     |cons a as=>rfl
   |_=>rfl
 |_=>rfl
theorem qC(h:i6 e=true)(t:Option Expr)(line:Nat)(env:Env):swapsWith e t line env=pure false:=by
 cases e<;>first |rfl |cases h
theorem Dv(h:i6 e=true)(t:Expr)(line:Nat)(env:Env):swapsWithSole [t] e line env=pure false:=by
 unfold swapsWithSole;exact qC h _ _ _
theorem vJ(h:notStar a=true)(q:Pos)(env:Env):((backTo q (starEach [a] env)).all (λx => !x.1)&&(backToKw q (keywordEach [] env)).all (λx=>x.1.isSome)
   && decide ([a].length+([]:List Keyword).length+(if ([]:List Keyword).isEmpty then 0 else 1)<30))=true:=by
 rw[cR h];rfl
theorem PZ(h:lG b=true)(env:Env): ∀v,assign (.Subscript a b pos) env v=(do
   let ov <- holding [v] (eval a env)
   let iv <- holding [v,ov] (eval b env)
   standAt pos
   holding [v,ov,iv] (setItem ov iv v)
   release [v,ov,iv] []):=by
 intro v;cases b<;>first |rfl |cases h
theorem Ax(h:notStar e=true)(es:List Expr)(env:Env):assignEach 2#5 env=(false,assign e env)::assignEach es env:=by
 cases e<;>first |rfl |cases h
theorem Di(env:Env):∀es:List Expr,es.all notStar=true->(assignEach es env).length=es.length/\(assignEach es env).findIdx? (·.1)=none
 |[],_=>⟨rfl,rfl⟩
 | e::es,h=>by
   rw[bK,av]at h;obtain⟨a,b⟩:=Di env es h.2;rw[Ax h.1];exact⟨by simp[a],by rw[uy];simp[b]⟩
theorem Ah{ts:List Expr}{kt:Nat}{pt:Pos}(h:(notTuple e||uw ts)=true):swappedStores [.Tuple ts kt pt] e env=pure none:=by
 cases e with
 | Tuple vs k2 p2=>
   have h':uw ts=true:=h;unfold uw at h'
   split at h'
   .exact Ad
   .cases h'
 |_=>rfl
theorem B2:swappedStores [.Subscript a b pos] e env=pure none:=by
 cases e<;>rfl
end
theorem hG{T:Tb}:∀{n:Nat}{N:List Str}{ns:NS}{es:List Expr}{m:MA},cA T n N ns es=some m->es.all notStar=true
 |0,_,_,_,_,h=>by simp[cA,rc]at h
 |n+1,_,_,[],_,h=>rfl
 | n+1,N,ns,e::es,m,h=>by
   simp only[cA,rc,sA]at h
   split at h
   .rename_i hs
    cases e1:(rc n).e T N ns e with
    |none=>rw[e1]at h;cases h
    | some me=>
      rw[e1]at h;simp only[ah]at h;cases e2:(rc n).a T N ns es with
      |none=>rw[e2]at h;cases h
      |some mr=>rw[bK,hs,hG e2];rfl
   .cases h
theorem A8{T:Tb}:∀{n:Nat}{N:List Str}{ns:NS}{es:List Expr}{m:MGs},cGs T n N ns es=some m->es.all notStar=true
 |0,_,_,_,_,h=>by simp[cGs,rc]at h
 |n+1,_,_,[],_,h=>rfl
 | n+1,N,ns,e::es,m,h=>by
   simp only[cGs,rc,sGs]at h
   split at h
   .rename_i hs
    cases e1:(rc n).g T N ns e with
    |none=>rw[e1]at h;cases h
    | some me=>
      rw[e1]at h;simp only[ah]at h;cases e2:(rc n).gs T N ns es with
      |none=>rw[e2]at h;cases h
      |some mr=>rw[bK,hs,A8 e2];rfl
   .cases h
variable{N:List Str}{x:Str}
theorem slot_get{i:Nat}(h:slot N x=some i):N[i]?=some x:=by
 unfold slot at h;obtain⟨h1,h2,_⟩:=eY.mp h;rw[aI h1,eq_of_beq h2]
theorem cU (h:cu x=true):9#1=false/\23#3=false:=by
 unfold cu at h;rw[av]at h;simpa using h
theorem bind_eq{α β:Type}{o:Option α}{f:α->Option β}{b:β}(h:o.bind f=some b):∃a,o=some a/\f a=some b:=by
 cases o with
 |none=>cases h
 |some a=>exact⟨a,rfl,h⟩
theorem map_eq{α β:Type}{o:Option α}{f:α->β}{b:β}(h:o.map f=some b):∃a,o=some a/\f a=b:=by
 cases o with
 |none=>cases h
 |some a=>exact⟨a,rfl,dJ h⟩
section
variable {M:Mo}{X:Cx}{k:Nat}{N:List Str}{ns:NS}{a b c e:Expr}{es:List Expr}{ma mb mc:ME}{mt:MT}{ZS:MA}{pos p1 p2:Pos}{x:Str}
theorem PX(S:Sc M X k N ns)(hg:dM ns "list"=true)(hm:M.mg "list"=none)(ha:PA X 2#5 4#0)(he:starEach 2#5 X.env=21#4::starEach es X.env)(ZP:(backTo pos 13#1).any (·.1)=false) :
  PE X (.Call (.Name "list" p1) 2#5 [] pos) (tM M.K (mFn vU ZS)):=
 PE.con (jU (S.hK▸zf) 5#4 6#7 lQ ha 0#1 0#1 he ZP) λ_ _ _ h=>zt KZ h
theorem QU(S:Sc M X k N ns)(hg:dM ns "all"=true)(hm:M.mg "all"=none)(ha:PA X 2#5 4#0)(he:starEach 2#5 X.env=21#4::starEach es X.env)(ZP:(backTo pos 13#1).any (·.1)=false) :
  PE X (.Call (.Name "all" p1) 2#5 [] pos) (tM M.K (mFn sx ZS)):=
 PE.con (j5 (S.hK▸FE S.calm) 5#4 6#7 PyProof.Rows.boot_all ha 0#1 0#1 he ZP) λ_ _ _ h=>zt Ol h
variable{ts:List Expr}{kt:Nat}
theorem DY{pt:Pos}{a:Expr}(S:Sc M X k N ns)(hg:dM ns "enumerate"=true)(hm:M.mg "enumerate"=none)(ha:PA X [a] 4#0)(hs:starEach [a] X.env=[15#2]):PI X 17#2 (.Call (.Name "enumerate" p1) [a] [] pos) (vI M.K 4#0):=
 S.hK▸Lk 5#4 6#7 ha hs
theorem HQ(S:Sc M X k N ns)(hg:dM ns "sorted"=true)(hm:M.mg "sorted"=none)(ha:PA X 2#5 4#0)(he:starEach 2#5 X.env=21#4::starEach es X.env)(ZP:(backTo pos 13#1).any (·.1)=false) :
  PE X (.Call (.Name "sorted" p1) 2#5 [] pos) (tM M.K (mFn dh ZS)):=
 PE.con (j5 (S.hK▸Aj S.calm) 5#4 6#7 PyProof.Rows.boot_sorted ha 0#1 0#1 he ZP) λ_ _ _ h=>zt Fg h
theorem Qb(S:Sc M X k N ns)(hg:dM ns "repr"=true)(hm:M.mg "repr"=none)(ha:PA X 2#5 4#0)(he:starEach 2#5 X.env=21#4::starEach es X.env)(ZP:(backTo pos 13#1).any (·.1)=false) :
  PE X (.Call (.Name "repr" p1) 2#5 [] pos) (tM M.K (mFn oQ ZS)):=
 PE.con (j5 (S.hK▸E4 S.room.gu S.room.units) 5#4 6#7 PyProof.Rows.boot_repr ha 0#1 0#1 he ZP) λ_ _ _ h=>zt Lr h
theorem GH(S:Sc M X k N ns)(ho:PE X b 7#8)(ha:PA X [a] 4#0)(hb:baseOk b=true)(hs:notStar a=true)(hl:(p1.endLine==pos.line)=true):PE X (.Call (.Attribute b "extend" p1) [a] [] pos) (tM M.K (mML gn mb ZS)):=by
 exact PE.con (Dq fv PySem.F.slot_list_extend PySem.F.type_list_extend E8 ho ha (n9 hb _ _) (vJ hs _ _) hl (cR hs _ _) rfl) λ_ _ _ h=>S.hK▸OK Ft h
theorem IT{op:CmpOp}{f:F2}(S:Sc M X k N ns)(h:AG op=some f):∃r,OpR X (compareOp op) r/\OpU M.K r f:=by
 cases op<;>simp only[AG,fO,reduceCtorEq]at h<;>subst h
 .exact⟨_,S.hK▸NB S.room.units,TK⟩
 .exact⟨_,S.hK▸Qs S.room.units,Rp⟩
 .exact⟨_,Rg,zA⟩
 .exact⟨_,TU,zA⟩
 .exact⟨_,Rv,zA⟩
 .exact⟨_,SH,zA⟩
 .exact⟨_,EE,Jw⟩
 .exact⟨_,S.hK▸OS (by have:=S.room.units;omega),TL⟩
 .exact⟨_,S.hK▸Ey (by have:=S.room.units;omega),Jo⟩
theorem Rn{j:Nat}{p3 p4:Pos}(S:Sc M X k N ns)(ha:PE X a 4#1):PE X (.Subscript a 27#2 pos) (tM M.K (m1 oG ma)):=by
 refine PE.con (t:=Qo M.K 4#1) ?_ λ_ _ _ h=>R6 h;rw[<-S.hK];exact Qu ha
variable{N':List Str}{scope:Scope}{ifs:List Expr}{wi:TI}{mi:MI}
theorem Qc{px py Yr:Pos}{iter elt:Expr}{y:Str}(S:Sc M X k N ns)(i:Nat)(hy:N[i]?=some y)(ho:nO ns y=true)(hk:14#9=.function)(ok:oh N N' ns scope.names x=true)(hi:PI X (.Name x px) iter wi)
  (ht:∀X',Sc M X' k N' 4#3->PTs X' ifs 7#0) (he:∀X',Sc M X' k N' 4#3->PE X' elt (tM M.K mc)) (hr:∀σ H Q,tM M.K (bL mi mt mc) σ H Q->sX wi 7#0 (tM M.K mc) σ H Q)
  (hs:∀x,foldedSetIterable iter X.env x=pure x):PS X (.Assign [.Name y py] 17#5 Yr) (tMS M.K (bq i (bL mi mt mc))):=by
 have C:=xK S hk ok;have e:∃b,swapsWith 17#5 (some (.Name y py)) Yr.line X.env=pure b:=⟨_,rfl⟩;obtain⟨b,e⟩:=e;cases b with
 |true=>exact PS.con (Ku (by rw[S.hN];exact S.nd) (by rw[S.hN];exact hy) (S.lo ho).1 S.calm C hi (λZY ZW fp=>ht _ 21#2) (λZY ZW fp=>he _ 21#2) e hs (S.lo ho).2) λ_ _ _ h=>hr _ _ _ (MZ h)
 |false=>exact A9 S i hy ho (HE S hk ok hi ht he hr hs) e
theorem PK(S:Sc M X k N ns)(hg:dM ns "int"=true)(hm:M.mg "int"=none)(ha:PA X 2#5 4#0)(he:starEach 2#5 X.env=21#4::starEach es X.env)(ZP:(backTo pos 13#1).any (·.1)=false) :
  PE X (.Call (.Name "int" p1) 2#5 [] pos) (tM M.K (mFn Cp ZS)):=
 PE.con (jU EF 5#4 6#7 PyProof.Rows.boot_int ha 0#1 0#1 he ZP) λ_ _ _ h=>zt Qx h
theorem O5:PE X (.Dict [] [] pos) (tM M.K sW):=PE.con GQ λ_ _ _ h=>OO h
theorem OJ(ha:PE X a 4#1)(hb:PE X b 7#8):PE X (.Dict [some a] [b] pos) (tM M.K (kE ma mb)):=
 PE.con (L5 (Jq ha hb J9) rfl rfl 0#6 0#6) λ_ _ _ h=>QD h
theorem AB:∀{ts:List Expr}{xs:List Str},namesOf ts=some xs->fX ts xs
 |[],xs,h=>by cases h;exact .nil
 | t::ts,xs,h=>by
   cases t with
   | Name x p=>
     unfold namesOf at h;cases q:namesOf ts with
     |none=>rw[q]at h;cases h
     |some ys=>rw[q]at h;cases h;exact .cons x p (AB q)
   |_=>cases h
theorem L9{xs:List Str}{pt:Pos}{iter elt:Expr}(S:Sc M X k N ns)(hk:14#9=.function)(ok:rB N N' ns scope.names xs=true)(hn:fX ts xs)(hi:PI X 17#2 iter wi)
  (ht:∀X',Sc M X' k N' 4#3->PTs X' ifs 7#0) (he:∀X',Sc M X' k N' 4#3->PE X' elt (tM M.K mc))
  (hc:∀σ H Q,tM M.K (ic xs.length mi mt mc) σ H Q->rM (gTt M.K 1#5) wi 7#0 (tM M.K mc) σ H Q)
  (hs:∀x,foldedSetIterable iter X.env x=pure x):PE X (.ListComp elt [⟨.Tuple ts kt pt,iter,ifs,0⟩] scope pos) (tM M.K (ic xs.length mi mt mc)):=by
 have C:=uT S hk ok;refine PE.con (GK S.calm C hn hi (λZY ZW fp=>ht _ 21#2) (λZY ZW fp=>he _ 21#2) hs) λ_ _ _ h=>?_;rw[S.hK];exact hc _ _ _ h
variable{as:Expr}{q rp:Pos}
theorem IY (S:Sc M X k N ns)(hg:dM ns "list"=true)(hm:M.mg "list"=none)(Yf:dM ns "range"=true)(Zu:M.mg "range"=none)(ha:PA X [as] 4#0)(hs:notStar as=true) :
  PE X (.Call (.Name "list" p1) [.Call (.Name "range" q) [as] [] rp] [] pos) (tM M.K (fZ (iR1 ZS))):=
 PE.con (jU (oM S.calm) 5#4 6#7 lQ (jN (CL (S.gl Yf) (by rw[S.hm];exact Zu) ha (by rw[cR hs];rfl)) vT) 0#1 0#1) λ_ _ _ h=>HK h
theorem Gc{bs:Expr}(S:Sc M X k N ns)(hg:dM ns "list"=true)(hm:M.mg "list"=none)(Yf:dM ns "range"=true)(Zu:M.mg "range"=none)(ha:PA X [as,bs] 4#0)(hs:notStar as=true)(ZH:notStar bs=true) :
  PE X (.Call (.Name "list" p1) [.Call (.Name "range" q) [as,bs] [] rp] [] pos) (tM M.K (fZ (iR2 ZS))):=
 PE.con (jU (oM S.calm) 5#4 6#7 lQ (jN (K5 (S.gl Yf) (by rw[S.hm];exact Zu) ha (by rw[cR hs,cR ZH];rfl) (by rw[cR ZH];rfl)) vT) 0#1 0#1) λ_ _ _ h=>HU h
theorem LR (S:Sc M X k N ns)(hg:dM ns "tuple"=true)(hm:M.mg "tuple"=none)(Yf:dM ns "range"=true)(Zu:M.mg "range"=none)(ha:PA X [as] 4#0)(hs:notStar as=true) :
  PE X (.Call (.Name "tuple" p1) [.Call (.Name "range" q) [as] [] rp] [] pos) (tM M.K (vK (iR1 ZS))):=
 PE.con (jU (wu S.calm) 5#4 6#7 xF (jN (CL (S.gl Yf) (by rw[S.hm];exact Zu) ha (by rw[cR hs];rfl)) vT) 0#1 0#1) λ_ _ _ h=>KO h
theorem Uj{t:Str}{c:String}(S:Sc M X k N ns)(hg:dM ns "isinstance"=true)(hm:M.mg "isinstance"=none)(Yf:dM ns t=true)(Zu:M.mg t=none)(hb:bootBuiltins t=some (.type c))(hc:c∈mj)(hn:t≠"__name__")(hd:(t==("__debug__":Str))=false)
  (ha:PE X a 4#1) (hs:notStar a=true):PE X (.Call (.Name "isinstance" p1) [a,.Name t p2] [] pos) (tM M.K (m1 (gv c) ma)):=by
 refine PE.con (j5 Ik 5#4 6#7 PyProof.Rows.boot_isinstance (jN ha (jN (Lf (v:= .ty c) (S.gl Yf) (by rw[S.hm];exact Zu) hb rfl hn hd) vT) (cR hs _ _)) 0#1 0#1 (cR hs _ _) rfl) λ_ _ _ h=>?_;rw[S.hK];exact TN hc h
theorem Kn(S:Sc M X k N ns)(ho:PE X b 7#8)(ha:PA X [a] 4#0)(hb:baseOk b=true)(hs:notStar a=true)(hl:(p1.endLine==pos.line)=true):PE X (.Call (.Attribute b "index" p1) [a] [] pos) (tM M.K (mMT jM mb ZS)):=by
 refine PE.con (t:=Qy M.K 7#8 4#0) ?_ λ_ _ _ h=>LY h;rw[<-S.hK];exact Ja S.room.units ho ha (n9 hb _ _) (vJ hs _ _) hl (cR hs _ _) rfl
theorem OB(S:Sc M X k N ns)(ho:PE X b 7#8)(hb:baseOk b=true)(hl:(p1.endLine==pos.line)=true):PE X (.Call (.Attribute b "pop" p1) [] [] pos) (tM M.K (mML nM mb ag)):=by
 exact PE.con (Of fv En Eo OI ho (n9 hb _ _) hl) λ_ _ _ h=>S.hK▸Re Pm h
section
variable {X:Cx}
end
theorem TR{st:Stmt}:PS X st (tMS M.K sNo):=by
 intro pins s σ H D I h;obtain⟨μ,S,G,r,hr,er,e,kk⟩:=h;cases e
theorem Sl:PS X (.Break pos) (tMS M.K Q5):=PS.con HL λD σ H h=>by
 obtain⟨μ,S,G,r,hr,er,e,kk⟩:=h;cases e;exact kk μ σ H 2#4 9#7 hr er
theorem SV:PS X (.Continue pos) (tMS M.K Sy):=PS.con AH λD σ H h=>by
 obtain⟨μ,S,G,r,hr,er,e,kk⟩:=h;cases e;exact kk μ σ H 2#4 9#7 hr er
theorem OQ:PS X (.Pass pos) (tMS M.K cM):=PS.con J3 λD σ H h=>Hi h
theorem P7:PS X (.Return none pos) (tMS M.K (b9 (mC .non))):=PS.con Lm λD σ H h=>by
 obtain⟨μ,S,G,r,hr,er,e,kk⟩:=h;cases e;exact kk μ _ H 2#4 9#7 hr rS
theorem Oc(ha:PE X a 4#1)(hb:PE X (.BoolOp .And (b::es) pos) 7#8):PE X (.BoolOp .And (a::b::es) pos) (tM M.K (iZ ma mb)):=PE.con (Px ha hb) λ_ _ _ h=>Qn h
theorem RV(ha:PE X a 4#1)(hb:PE X (.BoolOp .Or (b::es) pos) 7#8):PE X (.BoolOp .Or (a::b::es) pos) (tM M.K (mOr ma mb)):=PE.con (Ro ha hb) λ_ _ _ h=>RP h
theorem Pq(ha:PE X a 4#1):PE X (.UnaryOp .Not a pos) (tM M.K (m1 pG ma)):=PE.con (OX ha) λ_ _ _ h=>NV h
end
section
variable {M:Mo}{cl:Nat->Addr}{k n fu:Nat}{N:List Str}{ns:NS}{X:Cx}{E:XK}
theorem x_call{g:Str}{a:Expr}{as:List Expr}{p pos:Pos}{r:RF}{ZS:MA}{k':Nat}{ps:List Str}(L:Lv X E)(S:Sc M X.nox k N ns)(F:FnX M cl g k' ps r)(hk:k'<=k)(hg:dM ns g=true)(hp:cu g=true)(ha:PA X.nox (a::as) 4#0)(hs:(a::as).all notStar=true):
  PE X (.Call (.Name g p) (a::as) [] pos) (tXE cl M.K (xFn r ZS) E):=by
 obtain⟨f,fd,hm,Zq,hb,F⟩:=F.ex;have e1:X.prog=M.P:=S.hP;have e2:X.w=M.w:=S.hw;have e3:X.K=M.K:=S.hK;have e4:X.mg=M.mg:=S.hm;have e5:X.base=M.base:=S.hb;rw[<-e1,<-e2,<-e3,<-e4,<-e5]at F;rw[<-e4]at hm;rw[<-e3]at Zq hb;rw[bK,av]at hs;refine PE.con (zl F 14#2 5#4 hm Zq hb .nil L.pass ha.nox (cU hp).1 (cR hs.1 _ _) (pL _ _ hs.2)) λσ H Q h=>?_;obtain⟨μ,S0,G,C,S',hr,er,q,aft⟩:=h;obtain⟨us,S1,e1,q⟩:=a6 q;refine⟨μ,S0,G,us,S1,hr,er,e1,λY0 vs H1 p1 k1 Z' rs=>?_⟩;show spX cl M.K r (vs++[]) H1 Q E;rw[gg];exact⟨Y0,S1,us,C,S',Z',rs,q,aft.mono p1 k1⟩
end
structure TOk(M:Mo)(T:Tb)(k:Nat):Prop where
 D:∀x mf,T.D.lookup x=some mf->∃k' ps,k'<=k/\Fn M x k' ps mf
 C:∀x u,T.C.lookup x=some u->∃g v,M.mg x=some g/\RelV v g /\ ∀H μ,RU H μ u v
 B:∀x∈jg,M.mg x=none
 L:∀x q,T.L.lookup x=some q->∃k' ps,k'<=k/\Lam M q.1 k' ps q.2
 mkr:T.mkr=true->∃c q P,M.mkr=some (c,q)/\Mkr M c P (q++T.Z.nm)
 Z:∀x r,T.Z.R.lookup x=some r->∃k' ps,k'<=k/\FnX M T.Z.cl x k' ps r
def GOk(M:Mo)(T:Tb)(k:Nat):Prop:=TOk M T k/\(T.mkr=true->∃j,j+2<=k/\(∀x F,T.H.lookup x=some F->∃k' ps,k'<=j+1/\FnC M x k' ps F)/\(∀x rz,T.Z.F.lookup x=some rz->∃k',k'<=j+1/\FnR M T.Z.cl x k' rz) /\ ∀caps capv cds base,fQ M.mg base->TOk 9#0 T.bare j)
def IOk(M:Mo)(X:Cx)(tg it:Expr)(mi:MI):Prop:= ∃wi,PI X tg it wi /\
 (∀i ms D σ H,tMS M.K (dU i mi ms) D σ H->zp wi (kC i) (tMS M.K ms) D σ H) /\
 (∀mt mc σ H Q,tM M.K (bL mi mt mc) σ H Q->sX wi 7#0 (tM M.K mc) σ H Q)
structure Snd(M:Mo)(T:Tb)(k n:Nat):Prop where
 e:∀N ns e m,cE T n N ns e=some m->∀X,Sc M X k N ns->PE X e (tM M.K m)
 c:∀N ns g as m,cC T n N ns g as=some m->dM ns g=true->cu g=true->∀a r,as=a::r->∀X p1 pos,Sc M X k N ns->PE X (.Call (.Name g p1) as [] pos) (tM M.K m)
 v:∀N ns g as m,cV T n N ns g as=some m->∀a r,as=a::r->∀X p1 pos,Sc M X k N ns->PE X (.Call (.Name g p1) as [] pos) (tM M.K m)
 v0:∀N ns g m,cV T n N ns g []≠some m
 o:∀N ns o m,cO T n N ns o=some m->∀X,Sc M X k N ns->mT M X o m
 t:∀N ns e m,cT T n N ns e=some m->∀X,Sc M X k N ns->PT X e (tMT M.K m)
 l:∀N ns b vs m pos,cL T n N ns b vs=some m->∀X,Sc M X k N ns->PW X (.BoolOp (if b then .And else .Or) vs pos) (tMT M.K m)
 f:∀N ns vs m,cF T n N ns vs=some m->∀X,Sc M X k N ns->PTs X vs (tMT M.K m)
 a:∀N ns es m,cA T n N ns es=some m->∀X,Sc M X k N ns->PA X es (tMA M.K m)
 i:∀N ns tg it m,cI T n N ns it=some m->∀X,Sc M X k N ns->IOk M X tg it m
 g:∀N ns e m,cG T n N ns e=some m->∀X,Sc M X k N ns->PG X e (tG M.K m)
 gs:∀N ns es m,cGs T n N ns es=some m->∀X,Sc M X k N ns->PGs X es (tGs M.K m)
 s:∀N ns st m,cS T n N ns st=some m->∀X,Sc M X k N ns->PS X st (tMS M.K m)
 b:∀N ns sts m,cB T n N ns sts=some m->∀X,Sc M X k N ns->PSs X sts (tMS M.K m)
theorem eE{α:Type}{x:α}{P:Prop}(h:(none:Option α)=some x):P:=by cases h
theorem UA(M:Mo)(T:Tb)(k:Nat):Snd M T k 0:=
 ⟨λ_ _ _ _ h=>eE h,λ_ _ _ _ _ h=>eE h,λ_ _ _ _ _ h=>eE h,λ_ _ _ _ h=>eE h,λ_ _ _ _ h=>eE h,λ_ _ _ _ h=>eE h,λ_ _ _ _ _ _ h=>eE h,λ_ _ _ _ h=>eE h,λ_ _ _ _ h=>eE h,λ_ _ _ _ _ h=>eE h,λ_ _ _ _ h=>eE h,λ_ _ _ _ h=>eE h,λ_ _ _ _ h=>eE h,λ_ _ _ _ h=>eE h⟩
section
variable {M:Mo}{T:Tb}{k n:Nat}
variable{ns:NS}{X:Cx}{a:Expr}{ma mb:ME}{f:F2}{pos:Pos}
theorem Ov{b:Expr}{op:Operator}(h:PU op=some f)(S:Sc M X k N ns)(ha:PE X a 4#1)(hb:PE X b 7#8):PE X (.BinOp a op b pos) (tM M.K (m2 f ma mb)):=by
 cases op<;>simp only[PU,fO,reduceCtorEq]at h<;>subst h
 .exact Mi S ha hb
 .exact Sj ha hb
 .exact RS S ha hb
 .exact QQ ha hb
 .exact SK ha hb
 .exact QS ha hb
variable{op:CmpOp}
theorem Pn{b:Expr}(h:AG op=some f)(S:Sc M X k N ns)(ha:PE X a 4#1)(hb:PE X b 7#8)(hs:iW b=true):
  PE X (.Compare a [op] [b] pos) (tM M.K (m2 f ma mb))/\PT X (.Compare a [op] [b] pos) (tMT M.K (cOf (m2 f ma mb))):=by
 obtain⟨r,ho,ou⟩:=IT S h;exact⟨PE.con (Kt ho ha hb (yP hs _)) λ_ _ _ h=>yE ou h,PT.con (KQ ho ha hb (yP hs _)) λ_ _ _ h=>BR (λ_ q=>yE ou q) h⟩
theorem IE{b c:Expr}{mc:ME}{Ys:CmpOp}{g:F2}(h:AG op=some f)(h':AG Ys=some g)(S:Sc M X k N ns)(ha:PE X a 4#1)(hb:PE X b 7#8)(hc:PE X c (tM M.K mc))(hs:iW c=true):
  PE X 26#1 (tM M.K (mCh f g ma mb mc))/\PT X 26#1 (tMT M.K (cOf (mCh f g ma mb mc))):=by
 obtain⟨r,ho,ou⟩:=IT S h;obtain⟨r',YI,ou'⟩:=IT S h';have hm:lastMarks [op,Ys] [b,c]=false:=yP hs _;exact⟨PE.con (Iv ho YI ha hb hc hm) λ_ _ _ h=>Dn ou ou' h,PT.con (GW ho YI ha hb hc hm) λ_ _ _ h=>BR (λ_ q=>Dn ou ou' q) h⟩
theorem Nt{t:Str}{c:String}(h:Jh t=some c):bootBuiltins t=some (.type c)/\c∈mj/\t≠"__name__"/\(t==("__debug__":Str))=false/\t∈jg:=by
 unfold Jh at h
 repeat' split at h
 all_goals first
  | cases h
    done
  | (rename_i q
     cases h;rw[eq_of_beq q]
     exact⟨by decide +kernel,by decide,by decide +kernel,by decide +kernel,by decide +kernel⟩)
variable{ZS:MA}
theorem Kc{g:Str}{e:Expr}{es:List Expr}{p1:Pos}{mf:MF}(O:TOk M T k)(h:O7 g=some mf)(hg:dM ns g=true)(S:Sc M X k N ns)(ha:PA X 2#5 4#0)(hs:(e::es).all notStar=true):
  PE X (.Call (.Name g p1) 2#5 [] pos) (tM M.K (mFn mf ZS)):=by
 rw[bK,av]at hs;have he:=cR hs.1 es X.env;have hp:=pL pos X.env hs.2;unfold O7 at h
 repeat' split at h
 all_goals first
  |(cases h;done)
  | (rename_i q
     cases h;rw[eq_of_beq q]at hg ⊢
     first
      |exact Jr S hg (O.B _ (by decide +kernel)) ha he hp
      |exact K0 S hg (O.B _ (by decide +kernel)) ha he hp
      |exact PX S hg (O.B _ (by decide +kernel)) ha he hp
      |exact SB S hg (O.B _ (by decide +kernel)) ha he hp
      |exact TZ S hg (O.B _ (by decide +kernel)) ha he hp
      |exact QU S hg (O.B _ (by decide +kernel)) ha he hp
      |exact HQ S hg (O.B _ (by decide +kernel)) ha he hp
      |exact Qb S hg (O.B _ (by decide +kernel)) ha he hp
      | exact PK S hg (O.B _ (by decide +kernel)) ha he hp)
theorem La{name:Str}{o:Expr}{mo m:ME}{p1:Pos}(h:Gv name mo ZS=some m)(S:Sc M X k N ns)(ho:PE X o (tM M.K mo))(ha:PA X [a] 4#0)(hb:baseOk o=true)(hl:(p1.endLine==pos.line)=true)(hs:notStar a=true):
  PE X (.Call (.Attribute o name p1) [a] [] pos) 8#7:=by
 unfold Gv at h
 repeat' split at h
 all_goals first
  |(cases h;done)
  | (rename_i q
     cases h;rw[eq_of_beq q]
     first
      |exact zZ S ho ha (n9 hb _ _) (vJ hs _ _) hl (cR hs _ _) rfl
      |exact KE S ho ha (n9 hb _ _) (vJ hs _ _) hl (cR hs _ _) rfl
      |exact Kn S ho ha hb hs hl
      | exact GH S ho ha hb hs hl)
end
section
variable {M:Mo}{T:Tb}{k n:Nat}
variable{ps:List Str}{ns:NS}
theorem tF{sc:Scope}(h:yM ps sc ns=true):jf ps (frees sc) sc /\ ∀y∈frees sc,ns.lookup y=some .cell/\(y,ba)∈sc.names:=by
 unfold yM at h;simp only[av,bH,Bool.not_eq_true',decide_eq_true_eq]at h;obtain⟨⟨⟨⟨⟨⟨h1,h2⟩,h3⟩,h4⟩,h5⟩,h6⟩,h7⟩:=h;have fm:∀y∈frees sc,(y,ba)∈sc.names:=λy hy=>by
  obtain⟨z,hz,e⟩:=aU.mp hy;obtain⟨a,b⟩:=eu.mp hz;obtain⟨z1,z2⟩:=z;cases e;have:z2=.free:=eq_of_beq b;rw[this]at a;exact a
 refine⟨⟨eq_of_beq h1,h2,h3,h4,λp hp=>?_,λx hx e=>?_,λy hy e=>aU.mpr ⟨y,eu.mpr ⟨hy,by rw[e];rfl⟩,rfl⟩,λy hy=>eq_of_beq (h7 y hy).1⟩,λy hy=>⟨eq_of_beq (h7 y hy).2,fm y hy⟩⟩
 .have:=h5 p hp
  rw[pX]at this;exact this.imp eq_of_beq eq_of_beq
 .have:=h6 x hx
  rw[e]at this;simpa using this
theorem GOk.of(O:TOk M T k)(h:T.mkr=false):GOk M T k:=⟨O,λz=>by rw[h]at z;cases z⟩
theorem Sq(O:TOk M T k)(R:Snd M T k n):∀N ns g as m,cV T (n+1) N ns g as=some m->∀a r,as=a::r->∀X p1 pos,Sc M X k N ns->PE X (.Call (.Name g p1) as [] pos) 8#7:=by
 intro N ns g as m h a r e X p1 pos S;subst e;simp only[cV,rc,sV]at h
 split at h
 .rename_i hs
  rw[av]at hs;obtain⟨q,e1,h⟩:=bind_eq h;obtain⟨i,e2,h⟩:=bind_eq h;obtain⟨ZS,e3,rfl⟩:=map_eq h;obtain⟨k',ps,hk,F⟩:=O.L _ _ e1;have ZQ:=hG e3;rw[bK,av]at ZQ;obtain⟨n1,n2⟩:=cU hs.2;exact JZ S F hk i (slot_get e2) hs.1 (R.a _ _ _ _ e3 X S) n1 n2 (cR ZQ.1 _ _) (pL _ _ ZQ.2)
 .cases h
section
variable {N:List Str}{ns:NS}{X:Cx}{m:ME}
variable{pos:Pos}
theorem KF{c:Const}{j}(h:SW c=some m):PE X (.Constant c j pos) 8#7:=by
 cases c<;>first | (cases h;done) |skip
 all_goals cases h
 all_goals first |exact QV |exact UV |exact Jv |exact PE.con GO λ_ _ _ q=>r_c (λ_ _=>by simp only[RU]) q
variable{a:Expr}
theorem NZ(R:Snd M T k n){op:UnaryOp}(h:eUn (rc n) T N ns a op=some m)(S:Sc M X k N ns):PE X (.UnaryOp op a pos) 8#7:=by
 cases op<;>first | (cases h;done) |skip
 all_goals obtain⟨ma,e1,rfl⟩:=map_eq h
 all_goals first |exact Rq (R.e _ _ _ _ e1 X S) |exact Pq (R.e _ _ _ _ e1 X S)
variable{vs:List Expr}
theorem P3(R:Snd M T k n){op:BoolOp}{p:Pos}(h:eBo (rc n) T N ns op p vs=some m)(S:Sc M X k N ns):PE X (.BoolOp op vs p) 8#7:=by
 unfold eBo at h
 split at h
 .cases h
 .exact Pj (R.e _ _ _ _ h X S)
 .obtain⟨ma,e1,h⟩:=bind_eq h
  cases op
  .obtain⟨mb,e2,rfl⟩:=map_eq h
   exact Oc 6#8 9#8
  .obtain⟨mb,e2,rfl⟩:=map_eq h
   exact RV 6#8 9#8
theorem IK(R:Snd M T k n){ops:List CmpOp}{bs:List Expr}(h:eCm (rc n) T N ns a ops bs=some m)(S:Sc M X k N ns):PE X (.Compare a ops bs pos) 8#7/\PT X (.Compare a ops bs pos) (tMT M.K (cOf m)):=by
 unfold eCm at h
 split at h
 .split at h
  .rename_i hs
   obtain⟨ma,e1,h⟩:=bind_eq h;obtain⟨mb,e2,h⟩:=bind_eq h;obtain⟨f,e3,rfl⟩:=map_eq h;exact Pn e3 S 6#8 9#8 hs
  .cases h
 .split at h
  .rename_i hs
   rw[av]at hs;obtain⟨ma,e1,h⟩:=bind_eq h;obtain⟨mb,e2,h⟩:=bind_eq h;obtain⟨mc,e3,h⟩:=bind_eq h;obtain⟨f,e4,h⟩:=bind_eq h;obtain⟨g,e5,rfl⟩:=map_eq h;exact IE e4 e5 S 6#8 9#8 (R.e _ _ _ _ e3 X S) hs.2
  .cases h
 .cases h
theorem KM{s:Expr}(h:LW s=true):∃j p3 p4,s=.UnaryOp .USub (.Constant (.int 1) j p3) p4:=by
 unfold LW at h
 split at h
 .rename_i i j p3 p4
  rw[eq_of_beq h];exact⟨j,p3,p4,rfl⟩
 .cases h
theorem NK(R:Snd M T k n){b:Expr}(h:eSb (rc n) T N ns a b=some m)(S:Sc M X k N ns):PE X (.Subscript a b pos) 8#7:=by
 unfold eSb at h
 split at h
 .rename_i lo hi st p
  cases st with
  | none=>
    obtain⟨ma,e1,h⟩:=bind_eq h;obtain⟨ml,e2,h⟩:=bind_eq h;obtain⟨mh,e3,rfl⟩:=map_eq h;exact Me S 6#8 (R.o _ _ _ _ e2 X S) (R.o _ _ _ _ e3 X S)
  | some s=>
    have h:(if lo.isNone&&hi.isNone&&LW s then((rc n).e T N ns a).map (m1 oG) else none)=some m:=h
    split at h
    .rename_i hs
     rw[av,av]at hs;obtain⟨⟨h1,h2⟩,h3⟩:=hs;cases lo with
     |some z=>cases h1
     | none=>
       cases hi with
       |some z=>cases h2
       | none=>
         obtain⟨j,p3,p4,rfl⟩:=KM h3;obtain⟨ma,e1,rfl⟩:=map_eq h;exact Rn S 6#8
    .cases h
 .split at h
  .rename_i hs
   obtain⟨ma,e1,h⟩:=bind_eq h;obtain⟨mb,e2,rfl⟩:=map_eq h;exact Uv S 6#8 9#8 (M4 hs)
  .cases h
theorem PL(R:Snd M T k n){ks:List (Option Expr)}(h:eDi (rc n) T N ns ks vs=some m)(S:Sc M X k N ns):PE X (.Dict ks vs pos) 8#7:=by
 unfold eDi at h
 split at h
 .cases h;exact O5
 .obtain⟨ma,e1,h⟩:=bind_eq h
  obtain⟨mb,e2,rfl⟩:=map_eq h;exact OJ 6#8 9#8
 .cases h
theorem KC{e:Expr}(h:PC x e=true):∃p,e=.Name x p:=by
 cases e with
 |Name g p=>exact⟨p,by rw[eq_of_beq (show(g==x)=true from h)]⟩
 |_=>cases h
theorem Fd{e:Expr}(h:Jc e=some a) :∃ p q,e=.Call (.Name "enumerate" p) [a] [] q:=by
 cases e with
 | Call g as ks p=>
   replace h:(if PC "enumerate" g&&(ks.isEmpty&&as.length==1) then as.head? else none)=some a:=h
   split at h
   .rename_i q
    obtain⟨q1,q⟩:=dH.mp q;obtain⟨q2,q3⟩:=dH.mp q;obtain⟨p1,rfl⟩:=KC q1;obtain⟨b,rfl⟩:=F3.mp (eq_of_beq q3);cases h;rw[yx.mp q2];exact⟨_,_,rfl⟩
   .cases h
 |_=>cases h
theorem Oa(O:TOk M T k)(R:Snd M T k n){it:Expr}{mi:MI}{ts:List Expr}{kt:Nat}{pt:Pos}(h:eIc (rc n) T N ns it=some mi)(S:Sc M X k N ns):
  ∃wi,PI X 17#2 it wi /\ ∀c mt mc σ H Q,tM M.K (ic c mi mt mc) σ H Q->rM (gTt M.K c) wi 7#0 (tM M.K mc) σ H Q:=by
 unfold eIc at h
 split at h
 .rename_i a ha
  obtain⟨p,q,rfl⟩:=Fd ha
  split at h
  .rename_i hg
   obtain⟨ma,e1,rfl⟩:=map_eq h;have ZQ:=hG e1;simp only[bK,jm,iI]at ZQ;exact⟨_,DY S hg 13#4 13#0 (cR ZQ _ _),λ_ _ _ _ _ _ q=>Sz q⟩
  .cases h
 .obtain⟨ma,e1,rfl⟩:=map_eq h
  exact⟨_,LI S 6#8,λ_ _ _ _ _ _ q=>SM q⟩
variable{elt:Expr}{scope:Scope}
theorem Pd(O:TOk M T k)(R:Snd M T k n){it:Expr}{ifs:List Expr}{px:Pos}(h:eLn (rc n) T N ns elt it ifs scope x=some m)(S:Sc M X k N ns)(hk:14#9=.function)(ok:oh N (Cd N x) ns scope.names x=true)(hs:iW it=true):
  PE X (.ListComp elt [⟨.Name x px,it,ifs,0⟩] scope pos) 8#7:=by
 unfold eLn at h;obtain⟨mi,e1,h⟩:=bind_eq h;obtain⟨mt,e2,h⟩:=bind_eq h;obtain⟨mc,e3,rfl⟩:=map_eq h;obtain⟨wi,h1,_,h3⟩:=R.i _ _ _ _ _ e1 X S;exact HE S hk ok h1 (λX' S'=>R.f _ _ _ _ e2 X' S') (λX' S'=>R.e _ _ _ _ e3 X' S') (h3 mt mc) (rq hs _)
theorem P5(O:TOk M T k)(R:Snd M T k n){gens:List Comprehension}(h:eLc (rc n) T N ns elt scope gens=some m)(S:Sc M X k N ns):PE X (.ListComp elt gens scope pos) 8#7:=by
 unfold eLc at h
 split at h
 rotate_left
 .cases h
 rename_i c
 obtain⟨tg,it,ifs,ia⟩:=c
 split at h
 rotate_left
 .cases h
 rename_i h0
 have WY:ia=0:=h0;subst WY;have h:eLt (rc n) T N ns elt it ifs scope tg=some m:=h;unfold eLt at h
 split at h
 .split at h
  .rename_i hs
   rw[av,av]at hs;exact Pd O R h S (eq_of_beq hs.1.1) hs.1.2 hs.2
  .cases h
 .obtain⟨xs,e0,h⟩:=bind_eq h
  split at h
  .rename_i hs
   rw[av,av]at hs;obtain⟨mi,e1,h⟩:=bind_eq h;obtain⟨mt,e2,h⟩:=bind_eq h;obtain⟨mc,e3,rfl⟩:=map_eq h;obtain⟨wi,h1,h3⟩:=Oa O R e1 S;exact L9 S (eq_of_beq hs.1.1) hs.1.2 (AB e0) h1 (λX' S'=>R.f _ _ _ _ e2 X' S') (λX' S'=>R.e _ _ _ _ e3 X' S') (λ_ _ _ q=>h3 _ _ _ _ _ _ q) (rq hs.2 _)
  .cases h
 .cases h
variable{g:Str}{p1:Pos}
theorem Od(O:TOk M T k)(R:Snd M T k n){rs:List Expr}{q rp:Pos}(h:eRg (rc n) T N ns g rs=some m)(S:Sc M X k N ns)(hl:g="list"\/g="tuple")(hg:dM ns g=true)(hr:dM ns "range"=true) :
  PE X (.Call (.Name g p1) [.Call (.Name "range" q) rs [] rp] [] pos) 8#7:=by
 unfold eRg at h
 split at h
 .rcases hl with rfl|rfl
  .rw[if_pos 1#4]at h
   obtain⟨ma,e1,rfl⟩:=map_eq h;have ZQ:=hG e1;simp only[bK,jm,iI]at ZQ;exact IY S hg 13#4 hr 13#4 13#0 ZQ
  .rw[if_neg 1#4]at h
   obtain⟨ma,e1,rfl⟩:=map_eq h;have ZQ:=hG e1;simp only[bK,jm,iI]at ZQ;exact LR S hg 13#4 hr 13#4 13#0 ZQ
 .rcases hl with rfl|rfl
  .rw[if_pos 1#4]at h
   obtain⟨ma,e1,rfl⟩:=map_eq h;have ZQ:=hG e1;simp only[bK,jm,iI,av]at ZQ;exact Gc S hg 13#4 hr 13#4 13#0 ZQ.1 ZQ.2
  .rw[if_neg 1#4]at h
   cases h
 .cases h
theorem IJ{cl:Nat->Addr}{E:XK}{X:Cx}{o:Expr}{mo:ME}{r:MX}(S:Sc M X.nox k N ns)(ho:PE X.nox o (tM M.K mo))(ha:PE X a (tXE cl M.K r E))(hb:baseOk o=true)(hs:notStar a=true)(hl:(p1.endLine==pos.line)=true):
  PE X (.Call (.Attribute o "append" p1) [a] [] pos) (tXE cl M.K (xML mo r) E):=by
 have hK:X.K=M.K.K:=S.hK;refine PE.con (Dq (r:=λ_ _ _ _=>False) (t:=tXA cl M.K r E) fv Bm Bn (λ_ _ _ _ _ _ _ _ _ _ _ _ z=>z.elim) ho.nox (λpos pins s σ H Q I q=>jN (t:=λ_ _ _=>False) ha (λ_ _ _ _ _ _ _ h=>h.elim) (cR hs _ _) pos pins s σ H Q I q) (n9 hb _ _) (vJ hs _ _) hl (cR hs _ _) rfl) λσ H Q h=>?_;obtain⟨μ,S0,G,C,S',hr,er,e,aft⟩:=h;obtain⟨x,S1,e1,e⟩:=a6 e
 split at e
 .rename_i n
  cases q:getL S1 n with
  |none=>rw[q]at e;cases e
  | some ws=>
    rw[q]at e;refine⟨μ,S0,G,_,S1,hr,er,e1,λY0 vx H1 p1 k1 Z' rx=>?_⟩;obtain⟨p,rfl,hp⟩:=fe rx;obtain⟨p',ys,ZK,Yg,r'⟩:=Z'.sq q;rw[hp]at ZK;cases ZK;exact⟨hK ▸ .inl ⟨rfl,ys,Yg⟩,Y0,S1,G,C,S',Z',er.mono k1 p1,e,aft.mono p1 k1⟩
 .cases e
theorem Qe(Gk:GOk M T k)(RA:∀M T k,GOk M T k->Snd M T k n){p:Arguments}{b:Expr}{sc:Scope}{lp:Pos}(h:Ic (rc n) T N ns g p b sc=some m)(S:Sc M X k N ns)(hg:dM ns g=true)(hn:cu g=true):
  PE X (.Call (.Name g p1) [.Lambda p b sc lp] [] pos) 8#7:=by
 unfold Ic at h
 split at h
 rotate_left
 .cases h
 rename_i hc
 simp only[av]at hc;obtain⟨⟨⟨hT,hnm⟩,hp⟩,hl⟩:=hc;have ZK:p=As:=by
  unfold HF at hp;rw[av,yx]at hp;rw[wm hp.1,hp.2];rfl
 subst ZK;obtain⟨is,e1,h⟩:=bind_eq h;obtain⟨ml,e2,h⟩:=bind_eq h;obtain⟨rl,e3,h⟩:=bind_eq h;obtain⟨rz,e4,rfl⟩:=map_eq h;obtain⟨c,q,P,WV,MK⟩:=Gk.1.mkr hT;rw[eq_of_beq hnm]at MK;obtain⟨j,hj,hH,hF,hB⟩:=Gk.2 hT;obtain⟨k',Zm,FR⟩:=hF _ _ e4;obtain⟨LS,Zf⟩:=tF hl;refine Kg S FR Zm hj WV MK hg (cU hn).1 LS Zf e1 (λcaps capv cds base Zg X' S'=>(RA _ _ _ (.of (hB caps capv cds base Zg) rfl)).e _ _ _ _ e2 X' S') λcaps capv cds base Zg X' E L S'=>?_;have Y:∀{e:Expr}{rl:MX},zV (rc n) T ([]++frees sc) sc.names e=some rl->PE X' e (tXE T.Z.cl 12#9 rl E):=by
  intro e rl e3;unfold zV at e3
  split at e3
  .split at e3
   .rename_i hs
    rw[av]at hs;obtain⟨rf,e5,e3⟩:=bind_eq e3;obtain⟨ZS,e6,rfl⟩:=map_eq e3;obtain⟨k2,ps,WH,FX⟩:=(hB caps capv cds base Zg).Z _ _ e5;exact x_call L S' FX WH hs.1 hs.2 ((RA _ _ _ (.of (hB caps capv cds base Zg) rfl)).a _ _ _ _ e6 _ S') (hG e6)
   .cases e3
  .cases e3
 unfold Ng at e3
 split at e3
 .rename_i g a q
  rcases Option.or_eq_some_iff.mp e3 with h|⟨_,h⟩
  .unfold Mh at h
   split at h
   .rename_i o x p
    split at h
    .rename_i hs
     simp only[av]at hs;obtain⟨⟨⟨hx,hb⟩,hl⟩,ZQ⟩:=hs;obtain⟨mo,e5,h⟩:=bind_eq h;obtain⟨r,e6,rfl⟩:=map_eq h;rw[eq_of_beq hx];exact IJ S' ((RA _ _ _ (.of (hB caps capv cds base Zg) rfl)).e _ _ _ _ e5 _ S') (Y e6) hb ZQ hl
    .cases h
   .cases h
  .exact Y h
 .exact Y e3
variable{as:List Expr}
theorem Ow(Gk:GOk M T k)(R:Snd M T k n)(RA:∀M T k,GOk M T k->Snd M T k n)(h:eCf (rc n) T N ns g as=some m)(S:Sc M X k N ns)(hg:dM ns g=true)(hn:cu g=true):
  PE X (.Call (.Name g p1) as [] pos) 8#7:=by
 have O:=Gk.1;unfold eCf at h
 split at h
 .obtain⟨mf,e1,rfl⟩:=map_eq h
  obtain⟨k',ps,hk,F⟩:=O.D _ _ e1;exact Kz S F hk hg (cU hn).1
 .unfold eC1 at h
  split at h
  .exact Qe Gk RA h S hg hn
  .split at h
   .rename_i hl
    rw[av,pX]at hl
    split at h
    .rename_i hr
     rw[eq_of_beq hl.2]at hr ⊢;exact Od O R h S (hl.1.imp eq_of_beq eq_of_beq) hg hr
    .cases h
   .exact R.c _ _ _ _ _ h hg hn _ _ rfl X _ _ S
  .exact R.c _ _ _ _ _ h hg hn _ _ rfl X _ _ S
 .unfold eC2 at h
  split at h
  .unfold eIs at h
   split at h
   .rename_i hl
    split at h
    .rename_i ht
     obtain⟨c,e1,h⟩:=bind_eq h;obtain⟨ma,e2,rfl⟩:=map_eq h;obtain⟨c1,c2,c3,c4,c5⟩:=Nt e1;rw[av]at ht;rw[eq_of_beq hl]at hg ⊢;exact Uj S hg 13#4 ht.1 (O.B _ c5) c1 c2 c3 c4 9#8 ht.2
    .cases h
   .exact R.c _ _ _ _ _ h hg hn _ _ rfl X _ _ S
  .unfold Ub at h
   split at h
   .rename_i hs
    rw[av,av]at hs;obtain⟨⟨hT,hnm⟩,ZQ⟩:=hs;obtain⟨ps,e0,h⟩:=bind_eq h
    split at h
    .rename_i hl
     obtain⟨is,e1,h⟩:=bind_eq h;obtain⟨ma,e2,h⟩:=bind_eq h;obtain⟨ml,e3,h⟩:=bind_eq h;obtain⟨F,e4,rfl⟩:=map_eq h;obtain⟨c,q,P,WV,MK⟩:=O.mkr hT;rw[eq_of_beq hnm]at MK;obtain⟨j,hj,hH,hF,hB⟩:=Gk.2 hT;obtain⟨k',WN,Zm,FC⟩:=hH _ _ e4;obtain⟨LS,Zf⟩:=tF hl;exact Lx S FC Zm hj WV MK hg (cU hn).1 9#8 (cR ZQ _ _) e0 LS Zf e1
      λcaps capv cds base hb X' S'=>(RA _ _ _ ⟨hB caps capv cds base hb,λz=>by cases z⟩).e _ _ _ _ e3 X' S'
    .cases h
   .cases h
  .exact R.c _ _ _ _ _ h hg hn _ _ rfl X _ _ S
 .exact R.c _ _ _ _ _ h hg hn _ _ rfl X _ _ S
theorem Po(R:Snd M T k n){o:Expr}{name:Str}{p q:Pos}(h:eMe (rc n) T N ns o name p q as=some m)(S:Sc M X k N ns):PE X (.Call (.Attribute o name p) as [] q) 8#7:=by
 unfold eMe at h
 split at h
 .split at h
  .rename_i hs
   rw[av,av]at hs;obtain⟨mo,e1,rfl⟩:=map_eq h;rw[eq_of_beq hs.2];exact OB S 6#8 hs.1.1 hs.1.2
  .cases h
 .split at h
  .rename_i hs
   rw[av,av]at hs;obtain⟨mo,e1,h⟩:=bind_eq h;obtain⟨ZS,e2,h⟩:=bind_eq h;exact La h S 6#8 (R.a _ _ _ _ e2 X S) hs.1.1 hs.1.2 hs.2
  .cases h
 .cases h
end
theorem TQ(Gk:GOk M T k)(R:Snd M T k n)(RA:∀M T k,GOk M T k->Snd M T k n):∀N ns e m,cE T (n+1) N ns e=some m->∀X,Sc M X k N ns->PE X e 8#7:=by
 have O:=Gk.1;intro N ns e m h X S;have h:sE (rc n) T N ns e=some m:=h;cases e with
 | Name x p=>
   have h:(if cu x then(if pK ns x then(slot N x).map ae else if dM ns x then(T.C.lookup x).map mC else none) else none)=some m:=h
   split at h
   .rename_i hn
    obtain⟨n1,n2⟩:=cU hn
    split at h
    .rename_i hv
     obtain⟨i,e1,rfl⟩:=map_eq h;exact Mm S i (slot_get e1) hv n1 n2
    .split at h
     .rename_i hg
      obtain⟨u,e1,rfl⟩:=map_eq h;obtain⟨g,v,hm,r,hv⟩:=O.C _ _ e1;exact On S hg hm r hv n1
     .cases h
   .cases h
 |Constant c j p=>exact KF h
 | BinOp a op b p=>
   obtain⟨ma,e1,h⟩:=bind_eq (show((rc n).e T N ns a).bind _=some m from h);obtain⟨mb,e2,h⟩:=bind_eq h;obtain⟨f,e3,rfl⟩:=map_eq h;exact Ov e3 S 6#8 9#8
 |UnaryOp op a p=>exact NZ R h S
 |BoolOp op vs p=>exact P3 R h S
 |Compare a ops bs p=>exact(IK R h S).1
 | IfExp c a b p=>
   obtain⟨mc,e1,h⟩:=bind_eq (show((rc n).t T N ns c).bind _=some m from h);obtain⟨ma,e2,h⟩:=bind_eq h;obtain⟨mb,e3,rfl⟩:=map_eq h;exact Sw 21#6 9#8 (R.e _ _ _ _ e3 X S)
 |Subscript a b p=>exact NK R h S
 |Dict ks vs p=>exact PL R h S
 | Tuple es j p=>
   obtain⟨ma,e1,rfl⟩:=map_eq (show((rc n).a T N ns es).map cH=some m from h);exact QN 13#0
 | List es p=>
   obtain⟨ma,e1,rfl⟩:=map_eq (show((rc n).a T N ns es).map bA=some m from h);exact IV 13#0
 |ListComp elt gens scope p=>exact P5 Gk.1 R h S
 | Call f as Ws q=>
   have h:(if Ws.isEmpty then eCa (rc n) T N ns as q f else none)=some m:=h;cases Ws with
   |cons w ws=>cases h
   | nil=>
     have h:eCa (rc n) T N ns as q f=some m:=h;unfold eCa at h
     split at h
     .split at h
      .rename_i hs
       rw[av]at hs;exact Ow Gk R RA h S hs.1 hs.2
      .cases as with
       |nil=>exact absurd h (R.v0 _ _ _ _)
       |cons a r=>exact R.v _ _ _ _ _ h _ _ rfl X _ _ S
     .exact Po R h S
     .cases h
 |_=>cases h
theorem Tg(O:TOk M T k)(R:Snd M T k n):∀N ns g as m,cC T (n+1) N ns g as=some m->dM ns g=true->cu g=true->∀a r,as=a::r->∀X p1 pos,Sc M X k N ns->PE X (.Call (.Name g p1) as [] pos) 8#7:=by
 intro N ns g as m h hg hn a r e X p1 pos S;subst e;simp only[cC,rc,sC]at h;obtain⟨ZS,e1,h⟩:=bind_eq h;have ZQ:=hG e1
 split at h
 .rename_i mf hb
  cases h;exact Kc O hb hg S 13#0 ZQ
 .obtain⟨mf,e2,rfl⟩:=map_eq h
  obtain⟨k',ps,hk,F⟩:=O.D _ _ e2;rw[bK,av]at ZQ;exact Oq S F hk hg 13#0 (cU hn).1 (cR ZQ.1 _ _) (pL _ _ ZQ.2)
theorem TM(R:Snd M T k n):∀N ns o m,cO T (n+1) N ns o=some m->∀X,Sc M X k N ns->mT M X o m:=by
 intro N ns o m h X S;simp only[cO,rc,sO]at h
 split at h
 .cases h;exact .none
 .obtain⟨me,e1,rfl⟩:=map_eq h
  exact .some 6#8
theorem R9(R:Snd M T k n):∀N ns e m,cT T (n+1) N ns e=some m->∀X,Sc M X k N ns->PT X e (tMT M.K m):=by
 intro N ns e m h X S;simp only[cT,rc,sT]at h
 split at h
 .obtain⟨ma,e1,rfl⟩:=map_eq h
  exact M3 21#6
 .exact PW.pt (R.l _ _ true _ _ _ h X S)
 .exact PW.pt (R.l _ _ false _ _ _ h X S)
 .obtain⟨mc,e1,rfl⟩:=map_eq h
  exact(IK R e1 S).2
 .split at h
  .rename_i hs
   obtain⟨ma,e1,rfl⟩:=map_eq h;exact Mw 6#8 (Ih hs _)
  .cases h
theorem RB(R:Snd M T k n):∀N ns b vs m pos,cL T (n+1) N ns b vs=some m->∀X,Sc M X k N ns->PW X (.BoolOp (if b then .And else .Or) vs pos) (tMT M.K m):=by
 intro N ns b vs m pos h X S;simp only[cL,rc,sL]at h
 split at h
 .cases h
 .cases b
  .exact SJ (R.t _ _ _ _ h X S)
  .exact ND (R.t _ _ _ _ h X S)
 .rename_i a r hr
  obtain⟨ma,e1,h⟩:=bind_eq h;obtain⟨mr,e2,rfl⟩:=map_eq h;cases r with
  |nil=>exact(hr rfl).elim
  | cons c r=>
    have h2:=R.l _ _ b _ _ pos e2 X S;cases b
    .exact U0 21#6 h2
    .exact Tc 21#6 h2
theorem Sr(R:Snd M T k n):∀N ns vs m,cF T (n+1) N ns vs=some m->∀X,Sc M X k N ns->PTs X vs (tMT M.K m):=by
 intro N ns vs m h X S;simp only[cF,rc,sF]at h
 split at h
 .cases h;exact Qt
 .exact Tu (R.t _ _ _ _ h X S)
 .cases h
theorem Q0(R:Snd M T k n):∀N ns es m,cA T (n+1) N ns es=some m->∀X,Sc M X k N ns->PA X es (tMA M.K m):=by
 intro N ns es m h X S;simp only[cA,rc,sA]at h
 split at h
 .cases h;exact DP
 .split at h
  .rename_i hs
   obtain⟨ma,e1,h⟩:=bind_eq h;obtain⟨mr,e2,rfl⟩:=map_eq h;exact nq 6#8 (R.a _ _ _ _ e2 X S) (cR hs _ _)
  .cases h
variable{X:Cx}{e:Expr}
theorem GS{tg:Expr}{m:ME}(S:Sc M X k N ns)(h:PE X e 8#7):IOk M X tg e (bZ m):=
 ⟨_,LI S h,λ_ _ _ _ _ q=>UJ q,λ_ _ _ _ _ q=>Up q⟩
theorem Sx(O:TOk M T k)(R:Snd M T k n):∀N ns tg it m,cI T (n+1) N ns it=some m->∀X,Sc M X k N ns->IOk M X tg it m:=by
 intro N ns tg it m h X S;simp only[cI,rc,sI]at h
 split at h
 .split at h
  .rename_i hr
   split at h
   .rename_i hg
    rw[eq_of_beq hr]at hg ⊢
    split at h
    .obtain⟨ma,e1,rfl⟩:=map_eq h
     have ZQ:=hG e1;simp only[bK,jm,iI]at ZQ;exact⟨_,Tp S hg 13#4 13#0 (cR ZQ _ _),λ_ _ _ _ _ q=>SZ q,λ_ _ _ _ _ q=>QO q⟩
    .obtain⟨ma,e1,rfl⟩:=map_eq h
     have ZQ:=hG e1;simp only[bK,jm,iI,av]at ZQ;exact⟨_,Tt S hg 13#4 13#0 (by rw[cR ZQ.1,cR ZQ.2];rfl) (by rw[cR ZQ.2];rfl),λ_ _ _ _ _ q=>Rh q,λ_ _ _ _ _ q=>Uh q⟩
    .cases h
   .cases h
  .obtain⟨ma,e1,rfl⟩:=map_eq h
   exact GS S 6#8
 .obtain⟨ma,e1,rfl⟩:=map_eq h
  exact GS S 6#8
theorem Ua(R:Snd M T k n):∀N ns e m,cG T (n+1) N ns e=some m->∀X,Sc M X k N ns->PG X e (tG M.K m):=by
 intro N ns e m h X S;simp only[cG,rc,sG]at h
 split at h
 .split at h
  .rename_i hs
   obtain⟨i,e1,rfl⟩:=map_eq h;exact PG.con (CY (by rw[S.hN];exact S.nd) (by rw[S.hN];exact slot_get e1) (S.lo hs).1 (S.lo hs).2) λ_ _ _ _ q=>UO q
  .cases h
 .obtain⟨gs,e1,rfl⟩:=map_eq h
  obtain⟨h1,h2⟩:=Di X.env _ (A8 e1);refine PG.con (Pa S.calm (R.gs _ _ _ _ e1 X S) h1 h2) λ_ _ _ _ q=>?_;rw[S.hK];exact Sh q
 .cases h
theorem O6(R:Snd M T k n):∀N ns es m,cGs T (n+1) N ns es=some m->∀X,Sc M X k N ns->PGs X es (tGs M.K m):=by
 intro N ns es m h X S;simp only[cGs,rc,sGs]at h
 split at h
 .cases h;exact PGs.con LM λ_ _ _ _ q=>Oj q
 .split at h
  .rename_i hs
   obtain⟨g,e1,h⟩:=bind_eq h;obtain⟨gs,e2,rfl⟩:=map_eq h;exact PGs.con (IP (R.g _ _ _ _ e1 X S) (R.gs _ _ _ _ e2 X S) (by rw[Ax hs];rfl)) λ_ _ _ _ q=>Kv q
  .cases h
variable{it:Expr}
theorem OT(O:TOk M T k)(R:Snd M T k n){mi:MI}{ts:List Expr}{kt:Nat}{pt:Pos}(h:eIt (rc n) T N ns it=some mi)(S:Sc M X k N ns):
  ∃wi,PI X 17#2 it wi /\ ∀g mb D σ H,tMS M.K (va g mi mb) D σ H->zp wi (tG M.K g) (tMS M.K mb) D σ H:=by
 unfold eIt at h
 split at h
 .split at h
  .rename_i hr
   split at h
   .rename_i hg
    rw[eq_of_beq hr]at hg ⊢;obtain⟨ma,e1,rfl⟩:=map_eq h;have ZQ:=hG e1;simp only[bK,jm,iI]at ZQ;exact⟨_,DY S hg 13#4 13#0 (cR ZQ _ _),λ_ _ _ _ _ q=>RQ q⟩
   .cases h
  .obtain⟨ma,e1,rfl⟩:=map_eq h
   exact⟨_,LI S 6#8,λ_ _ _ _ _ q=>Mn q⟩
 .obtain⟨ma,e1,rfl⟩:=map_eq h
  exact⟨_,LI S 6#8,λ_ _ _ _ _ q=>Mn q⟩
variable{m:MS}{p1 p3:Pos}
theorem Lh(R:Snd M T k n){y:Str}{elt tg:Expr}{ifs:List Expr}{scope:Scope}{p2:Pos}(h:Nw (rc n) T N ns y elt it ifs scope tg=some m)(S:Sc M X k N ns):
  PS X (.Assign [.Name y p1] (.ListComp elt [⟨tg,it,ifs,0⟩] scope p2) p3) (tMS M.K m):=by
 unfold Nw at h
 split at h
 .split at h
  .rename_i hs
   rw[av,av,av]at hs;obtain⟨i,e0,h⟩:=bind_eq h;obtain⟨mi,e1,h⟩:=bind_eq h;obtain⟨mt,e2,h⟩:=bind_eq h;obtain⟨mc,e3,rfl⟩:=map_eq h;obtain⟨wi,h1,_,h3⟩:=R.i _ _ _ _ _ e1 X S;exact Qc S i (slot_get e0) hs.1 (eq_of_beq hs.2.1.1) hs.2.1.2 h1 (λX' S'=>R.f _ _ _ _ e2 X' S') (λX' S'=>R.e _ _ _ _ e3 X' S') (h3 mt mc) (rq hs.2.2 _)
  .cases h
 .cases h
theorem Kj(R:Snd M T k n)(h:Qz (rc n) T N ns x e=some m)(S:Sc M X k N ns):PS X (.Assign [.Name x p1] e p3) (tMS M.K m):=by
 unfold Qz at h
 split at h
 .unfold Ss at h
  split at h
  .rename_i c
   obtain⟨tg,it,ifs,ia⟩:=c
   split at h
   .rename_i h0
    have WY:ia=0:=h0;subst WY;exact Lh R h S
   .cases h
  .cases h
 .split at h
  .rename_i hs
   rw[av]at hs;obtain⟨i,e1,h⟩:=bind_eq h;obtain⟨me,e2,rfl⟩:=map_eq h;exact A9 S i (slot_get e1) hs.1 9#8 (qC hs.2 _ _ _)
  .cases h
theorem Mc(R:Snd M T k n){t:Expr}(h:OP (rc n) T N ns e t=some m)(S:Sc M X k N ns):PS X (.Assign [t] e p3) (tMS M.K m):=by
 unfold OP at h
 split at h
 .exact Kj R h S
 .split at h
  .rename_i hs
   rw[av]at hs;obtain⟨ma,e1,h⟩:=bind_eq h;obtain⟨mb,e2,h⟩:=bind_eq h;obtain⟨me,e3,rfl⟩:=map_eq h;exact Lg S 6#8 9#8 (R.e _ _ _ _ e3 X S) (Dv hs.1 _ _ _) B2 rfl (PZ hs.2 _)
  .cases h
 .split at h
  .rename_i hs
   rw[av]at hs;obtain⟨g,e1,h⟩:=bind_eq h;obtain⟨me,e2,rfl⟩:=map_eq h;exact PS.con (HN 9#8 (R.g _ _ _ _ e1 X S) (Dv hs.1 _ _ _) (Ah hs.2) rfl) λ_ _ _ q=>Rz q
  .cases h
 .cases h
theorem NI(R:Snd M T k n){op:Operator}(h:sAu (rc n) T N ns x e op=some m)(S:Sc M X k N ns):PS X (.AugAssign 13#5 op e p3) (tMS M.K m):=by
 unfold sAu at h;cases h
theorem Pr(O:TOk M T k)(R:Snd M T k n){t:Expr}{body:List Stmt}(h:sFo (rc n) T N ns it body t=some m)(S:Sc M X k N ns):PS X (.For t it body [] p3) (tMS M.K m):=by
 unfold sFo at h
 split at h
 .split at h
  .rename_i hs
   rw[av]at hs;obtain⟨i,e1,h⟩:=bind_eq h;obtain⟨mi,e2,h⟩:=bind_eq h;obtain⟨mb,e3,rfl⟩:=map_eq h;obtain⟨wi,h1,h2,_⟩:=R.i _ _ _ _ _ e2 X S;exact Th S i (slot_get e1) hs.1 h1 (R.b _ _ _ _ e3 X S) (h2 i mb) (rq hs.2 _)
  .cases h
 .rename_i ts kt pt
  split at h
  .rename_i hs
   obtain⟨g,e1,h⟩:=bind_eq h;obtain⟨mi,e2,h⟩:=bind_eq h;obtain⟨mb,e3,rfl⟩:=map_eq h;obtain⟨wi,h1,h2⟩:=OT O R (ts:=ts) (kt:=kt) (pt:=pt) e2 S;exact PS.con (GU S.own S.calm h1 (R.g _ _ _ _ e1 X S) (R.b _ _ _ _ e3 X S) (rq hs _)) λ_ _ _ q=>h2 _ _ _ _ _ q
  .cases h
 .cases h
theorem Rj(O:TOk M T k)(R:Snd M T k n):∀N ns st m,cS T (n+1) N ns st=some m->∀X,Sc M X k N ns->PS X st (tMS M.K m):=by
 intro N ns st m h X S;have h:sS (rc n) T N ns st=some m:=h;cases st with
 | Assign ts e p=>
   have h:sAs (rc n) T N ns e ts=some m:=h;unfold sAs at h
   split at h
   .exact Mc R h S
   .cases h
 | AugAssign t op e p=>
   have h:Qi (rc n) T N ns op e t=some m:=h;unfold Qi at h
   split at h
   .exact NI R h S
   .cases h
 | Expr e p=>
   have h:(if i6 e then((rc n).e T N ns e).map di else none)=some m:=h
   split at h
   .rename_i hs
    obtain⟨me,e2,rfl⟩:=map_eq h;exact Jp 9#8 (qC hs _ _ _)
   .cases h
 | Return o p=>
   have h:sRt (rc n) T N ns o=some m:=h;unfold sRt at h
   split at h
   .obtain⟨me,e2,rfl⟩:=map_eq h
    exact MH 9#8
   .cases h;exact P7
 | If c a b p=>
   obtain⟨mc,e1,h⟩:=bind_eq h;obtain⟨ma,e2,h⟩:=bind_eq h;obtain⟨mb,e3,rfl⟩:=map_eq h;exact Sk 21#6 (R.b _ _ _ _ e2 X S) (R.b _ _ _ _ e3 X S)
 | For t it body els p=>
   have h:Oy (rc n) T N ns t it body els=some m:=h;unfold Oy at h
   split at h
   .exact Pr O R h S
   .cases h
 | While c body els p=>
   have h:sWh (rc n) T N ns c body els=some m:=h;unfold sWh at h
   split at h
   .obtain⟨mc,e1,h⟩:=bind_eq h
    obtain⟨mb,e2,rfl⟩:=map_eq h;exact J0 S 21#6 (R.b _ _ _ _ e2 X S)
   .cases h
 | Pass p=>
   cases h;exact OQ
 | Break p=>
   cases h;exact Sl
 | Raise a b p=>
   cases h;exact TR
 | Continue p=>
   cases h;exact SV
 |_=>cases h
theorem QI(Gk:GOk M T k)(R:Snd M T k n)(RA:∀M T k,GOk M T k->Snd M T k n):∀N ns sts m,cB T (n+1) N ns sts=some m->∀X,Sc M X k N ns->PSs X sts (tMS M.K m):=by
 intro N ns sts m h X S;simp only[cB,rc,sB]at h
 split at h
 .cases h;exact Ni
 .exact Gy (R.s _ _ _ _ h X S)
 .obtain⟨ma,e1,h⟩:=bind_eq h
  obtain⟨mr,e2,rfl⟩:=map_eq h;exact AC (R.s _ _ _ _ e1 X S) (R.b _ _ _ _ e2 X S)
theorem snd:∀n M T k,GOk M T k->Snd M T k n
 |0,M,T,k,_=>UA M T k
 | n+1,M,T,k,Gk=>by
   have RA:=snd n;have R:=RA M T k Gk;exact⟨TQ Gk R RA,Tg Gk.1 R,Sq Gk.1 R,λN ns g m h=>(by cases (show(none:Option ME)=some m from h)),TM R,R9 R,RB R,Sr R,Q0 R,Sx Gk.1 R,Ua R,O6 R,Rj Gk.1 R,QI Gk R RA⟩
theorem Am{qual:Str}{st:Stmt}{f:Addr}{fd:FuncData}{ms:MS}{fu:Nat}(O:TOk M T k)(h0:M.mkr=none)(h1:T.mkr=false)(F:Fun M.K x qual st f fd)(S:a8 N ps (aC st))(hm:M.mg x=some (.ref f))(hb:Binds M.K fd ps [])
  (h:cB T fu N (aC st).names (cp st)=some ms):Fn M x (k+1) ps 20#5:=
 ⟨f,fd,hm,F.2,hb,G9 h0 F S λX S'=>(snd fu M T k (.of O h1)).b _ _ _ _ h X S'⟩
end
structure Def(K:ao)(x:Str)(st:Stmt):Prop where
 ex:∃f fd,bD K mainGlobals x=some (some (.ref f))/\Fun K x x st f fd
variable{f:Addr}{st:Stmt}{K:ao}{an:Option Addr}{sl:Array (Option Value)}
theorem Qk{od:Option Addr}{oc kV doc pm cd ct:Value}(a:bD K mainGlobals x=some (some (.ref f)))
  (l:K.lookup f=some ⟨oc,od,.func (de x x (fN st) (cp st) (aC st) .none kV doc pm an cd ct),sl⟩) (c:gK K cd x=true) (k:cZ K (.ref f)=true):Def K x st:=
 ⟨f,_,a,Ib l c k⟩
section
variable {M:Mo}{T:Tb}{k:Nat}{h:Heap}{x:Str}{st:Stmt}{N ps:List Str}{ms:MS}{fu:Nat}
theorem Def.fn(O:TOk M T k)(h0:M.mkr=none)(h1:T.mkr=false)(X:M.K.K.In h)(Gn:h.Ns mainGlobals M.mg)(D:Def M.K x st)(S:a8 N ps (aC st))
  (hb:∀(kV doc pm:Value) (an:Option Addr) (cdv ct:Value) (us:List Value),1#1=7#1->bindArgs 24#2 ⟨us,[]⟩=pure (ps.zip us))
  (hc:cB T fu N (aC st).names (cp st)=some ms):Fn M x (k+1) ps 20#5:=by
 obtain⟨f,fd,a,F⟩:=D.ex;exact Am O h0 h1 F S (dq X Gn a) (F.binds hb) hc
theorem TOk.mono{j:Nat}(O:TOk M T k)(hj:k<=j):TOk M T j where
 Z:=λy r hy=>let ⟨k',_,hk,F'⟩:=O.Z y r hy;⟨k',_,aB hk hj,F'⟩
 D:=λy g hy=>let ⟨k',_,hk,F'⟩:=O.D y g hy;⟨k',_,aB hk hj,F'⟩
 C:=O.C
 B:=O.B
 L:=λy q hy=>let ⟨k',_,hk,F'⟩:=O.L y q hy;⟨k',_,aB hk hj,F'⟩
 mkr:=O.mkr
theorem TOk.cons{j:Nat}{mf:MF}(O:TOk M T k)(F:Fn M x j ps mf)(hj:k<=j):TOk M ⟨(x,mf)::T.D,T.C,T.L,T.H,T.mkr,T.Z⟩ j where
 D:=λy g hy=>by
  rw[bG]at hy;cases e:y==x with
  |true=>rw[e]at hy;cases hy;rw[eq_of_beq e];exact⟨j,ps,ak _,F⟩
  | false=>
    rw[e]at hy;obtain⟨k',Xy,hk,F'⟩:=O.D y g hy;exact⟨k',_,aB hk hj,F'⟩
 C:=O.C
 B:=O.B
 L:=(O.mono hj).L
 mkr:=O.mkr
 Z:=(O.mono hj).Z
theorem TOk.setH{Hs:List (Str×(Addr->MF->MF))}(O:TOk M T k):TOk M ⟨T.D,T.C,T.L,Hs,T.mkr,T.Z⟩ k:=⟨O.D,O.C,O.B,O.L,O.mkr,O.Z⟩
theorem TOk.nil{Fs:List (Str×List Nat)}{cl:Nat->Addr}{nm:Str}(X:M.K.K.In h)(Gn:h.Ns mainGlobals M.mg)(B:∀x∈jg,bD M.K mainGlobals x=some none):TOk M ⟨[],[],[],[],false,⟨[],Fs,cl,nm⟩⟩ 0 where
 D:=λy g hy=>by cases hy
 C:=λy g hy=>by cases hy
 B:=λy hy=>JE X Gn (B y hy)
 L:=λy g hy=>by cases hy
 mkr:=λh=>by cases h
 Z:=λy g hy=>by cases hy
theorem Def.fnC{y:Str}{msC:Addr->MF->MS}(O:∀caps capv cds base,fQ M.mg base->TOk 9#0 T k)(h1:T.mkr=false)(hL:T.L=[])(X:M.K.K.In h)(Gn:h.Ns mainGlobals M.mg)(D:Def M.K x st)(S:a8 N ps (aC st))
  (hb:∀(kV doc pm:Value) (an:Option Addr) (cdv ct:Value) (us:List Value),1#1=7#1->bindArgs 24#2 ⟨us,[]⟩=pure (ps.zip us))
  (hc:∀g φ,cB ⟨T.D,T.C,[(y,g,φ)],T.H,T.mkr,T.Z⟩ fu N (aC st).names (cp st)=some (msC g φ)):FnC M x k ps λg φ=>run ps.length N.length (msC g φ):=by
 obtain⟨f,fd,a,F⟩:=D.ex;refine⟨f,fd,dq X Gn a,F.2,F.binds hb,λcaps capv cds base g j lps φ Zg hkj lam=>?_⟩;have O':TOk 9#0 ⟨T.D,T.C,[(y,g,φ)],T.H,T.mkr,T.Z⟩ j:=by
  have O1:=(O caps capv cds _ Zg).mono hkj;refine⟨O1.D,O1.C,O1.B,λz q hz=>?_,(λhm=>by grind),O1.Z⟩;rw[bG]at hz;cases e:z==y with
  |true=>rw[e]at hz;cases hz;exact⟨j,_,ak _,lam⟩
  |false=>simp_all
 exact G9 (M:=M.to _ _ cds _) rfl F S λX' S'=>(snd fu _ _ _ (.of O' h1)).b _ _ _ _ (hc g φ) X' S'
end
structure kZ(K:ao)(x:Str)(st:Stmt)(c P:Addr):Prop where
 ex:∃(f:Addr) (oc:Value) (od:Option Addr) (kV doc pm:Value) (an:Option Addr) (ct:Value) (sl:Array (Option Value)),bD K mainGlobals x=some (some (.ref f)) /\
  K.lookup f=some ⟨oc,od,.func (de x x (fN st) (cp st) (aC st) .none kV doc pm an (.ref c) ct),sl⟩/\gK K (.ref c) x=true/\cZ K (.ref f)=true
 cd :∃ (vs:Array Value) (od:Option Addr) (sl:Array (Option Value)) (file:Str) (tf:Tok) (flags:Int) (tg:Tok) (inF:Bool) (text:Int) (tt:Tok),K.lookup c=some ⟨.type "code",od,.fields vs,sl⟩/\vs[11]?=some (.ref P)/\vs.getD 11 .none=.ref P/\vs.getD 18 .none=.str file tf /\
  vs.getD 7 .none=.int flags tg/\vs.getD 9 .none=.bool inF/\vs.getD 10 .none=.int text tt/\c≠P
section
variable {M:Mo}{T:Tb}{k:Nat}{h:Heap}{x:Str}{st:Stmt}{N ps:List Str}{ms:MS}{fu:Nat}{c P:Addr}
theorem kZ.mkr(D:kZ M.K x st c P)(B:fQ M.mg M.base)(X:M.K.K.In h)(Gn:h.Ns mainGlobals M.mg){q:Str}(hm:(P,q)∈M.K.tabs)(nd:(M.K.tabs.map (·.1)).Nodup)(hg:mainGlobals≠P):Mkr M c P q where
 hd:=λh' X'=>by
  obtain⟨vs,od,sl,file,tf,flags,tg,inF,text,tt,e,r⟩:=D.cd;obtain⟨r1,r2,r3,r4,r5,r6,r7⟩:=r;exact⟨_,vs,_,tf,_,tg,_,_,tt,X' _ _ e,rfl,rfl,r1,r2,r3,r4,r5,r6,r7⟩
 bl:=B
 gP:=hg
 mem:=hm
 un:=λr hr e=>by
  have key:∀(l:List _),(l.map (·.1)).Nodup->r∈l->(P,q)∈l->r.2=q:=by
   intro l
   induction l<;>grind
  exact key _ nd hr hm
theorem kZ.ok(D:kZ M.K x st c P)(h0:M.mkr=none)(O :∀ caps capv cds base,fQ M.mg base->TOk 9#0 T k)(O0:TOk M T k)(hL:T.L=[])(h1:T.mkr=false)(hH :∀ y F,T.H.lookup y=some F->∃ k' ps,k'<=k+1/\FnC M y k' ps F)(hF :∀ y rz,T.Z.F.lookup y=some rz->∃ k',k'<=k+1/\FnR M T.Z.cl y k' rz){nm:Str}(MK:Mkr M c P (x++".<locals>."++nm))
  (S:a8 N ps (aC st)) (hc:cB 19#8 fu N (aC st).names (cp st)=some ms)
  {oc kV doc pm ct:Value}{od:Option Addr} (lk:M.K.K.lookup f=some ⟨oc,od,.func 27#8,sl⟩) (ZC:gK M.K.K (.ref c) x=true):
  jx M.P M.w M.K M.mg M.base CX0 (k+3) f 27#8 ps (spM M.K 20#5):=by
 let M1:Mo:=⟨M.P,M.w,M.K,M.mg,M.base,some (c,x++".<locals>.")⟩
 have O1:TOk M1 19#8 (k+2):=by
  have Om:=O0.mono (show k<=k+2 by omega);refine⟨fun y g hy=>?_,Om.C,Om.B,fun y q hy=>?_,fun _=>⟨c,x++".<locals>.",P,rfl,MK.hd,MK.bl,MK.gP,MK.mem,MK.un⟩,fun y r hy=>?_⟩
  .obtain⟨k',Xy,hk,F'⟩:=Om.D y g hy
   exact⟨k',Xy,hk,⟨F'.ex⟩⟩
  .rw[show(19#8:Tb).L=T.L from rfl,hL]at hy
   cases hy
  .obtain⟨k',Xy,hk,F'⟩:=Om.Z y r hy
   exact⟨k',Xy,hk,⟨F'.ex⟩⟩
 have G1:GOk M1 19#8 (k+2):=⟨O1,λ_=>⟨k,ak _,λy F hy=>by
  obtain⟨k',Xy,hk,FC⟩:=hH y F hy;exact⟨k',Xy,hk,⟨FC.ex⟩⟩,λy rz hy=>by
  obtain⟨k',hk,FC⟩:=hF y rz hy;exact⟨k',hk,⟨FC.ex⟩⟩,λcaps capv cds base Zg=>by
   have Ob:=O caps capv cds base Zg
   exact⟨Ob.D,Ob.C,Ob.B,λy q hy=>(by cases hy),λz=>(by cases z),Ob.Z⟩⟩⟩
 have len:∀vs H Q E,spM M.K 20#5 vs H Q E->3#7=7#1:=λvs H Q E h=>by
  obtain⟨μ,S',us,u,Zh,hr,rs,e,_⟩:=h;unfold run at e
  split at e
  .rename_i hl;rw[<-rs.len];exact hl
  .cases e
 refine _L.Am lk ZC S len λA outer s H vs Q E hr h=>⟨tMS M.K ms,((snd fu M1 _ _ G1).b _ _ _ _ hc _ (Sc.def (M:=M1) S hr λc' q' hq=>by cases hq;exact⟨rfl,rfl⟩)).nox,?_⟩;obtain⟨μ,S1,us,u,S2,hr,rs,e,ka⟩:=h;unfold run at e
 split at e
 .rename_i hl
  have er:=nU (N:=N) rs;rw[hl]at er
  split at e
  .rename_i w Y1 S3 q
   cases e;exact⟨μ,S1,_,_,hr,er,q,ka⟩
  .rename_i Y1 S3 q
   cases e;exact⟨μ,S1,_,_,hr,er,q,λY4 Y3 H' p' k' Zs er'=>ka Y4 _ H' p' k' Zs rS⟩
  .cases e
 .cases e
theorem kZ.fn(D:kZ M.K x st c P)(h0:M.mkr=none)(O :∀ caps capv cds base,fQ M.mg base->TOk 9#0 T k)(O0:TOk M T k)(hL:T.L=[])(h1:T.mkr=false)(hH :∀ y F,T.H.lookup y=some F->∃ k' ps,k'<=k+1/\FnC M y k' ps F)(hF :∀ y rz,T.Z.F.lookup y=some rz->∃ k',k'<=k+1/\FnR M T.Z.cl y k' rz){nm:Str}(MK:Mkr M c P (x++".<locals>."++nm))
  (X:M.K.K.In h) (Gn:h.Ns mainGlobals M.mg) (S:a8 N ps (aC st))
  (hb:∀(kV doc pm:Value) (an:Option Addr) (cdv ct:Value) (us:List Value),1#1=7#1->bindArgs 24#2 ⟨us,[]⟩=pure (ps.zip us))
  (hc:cB 19#8 fu N (aC st).names (cp st)=some ms):Fn M x (k+3) ps 20#5:=by
 obtain⟨f,oc,od,kV,doc,pm,an,ct,sl,a,lk,ZC,Zq⟩:=D.ex;exact⟨f,_,dq X Gn a,Zq,.all (hb kV _ pm an _ ct),D.ok h0 O O0 hL h1 hH hF MK S hc lk ZC⟩
theorem kZ.def(D:kZ M.K x st c P):Def M.K x st:=by
 obtain⟨f,oc,od,kV,doc,pm,an,ct,sl,a,lk,ZC,Zq⟩:=D.ex;exact⟨f,_,a,Ib lk ZC Zq⟩
end
section
variable {M:Mo}
variable{Hs:List (Str×(Addr->MF->MF))}
theorem qY{j k:Nat}(h:∀y F,Hs.lookup y=some F->∃k' ps,k'<=j/\FnC M y k' ps F)(hj:j<=k):∀y F,Hs.lookup y=some F->∃k' ps,k'<=k/\FnC M y k' ps F:=λy F hy=>
 let ⟨k',ps,a,b⟩:=h y F hy;⟨k',ps,aB a hj,b⟩
theorem LF{i j k:Nat}{F0:Addr->MF->MF}{ps:List Str}(h:∀y F,Hs.lookup y=some F->∃k' ps,k'<=j/\FnC M y k' ps F)(F1:FnC M x i ps F0)(hi:i<=k)(hj:j<=k):∀y F,((x,F0)::Hs).lookup y=some F->∃k' ps,k'<=k/\FnC M y k' ps F:=λy F hy=>by
 rw[bG]at hy;cases e:y==x with
 |true=>rw[e]at hy;cases hy;rw[eq_of_beq e];exact⟨i,ps,hi,F1⟩
 |false=>rw[e]at hy;exact qY h hj y F hy
end
theorem ud{c P:Addr}{od od':Option Addr}{Ya:Array (Option Value)}{oc kV doc pm ct:Value}{vs:Array Value}{file:Str}{tf tg tt:Tok}{flags text:Int}{inF:Bool}(a:bD K mainGlobals x=some (some (.ref f)))
  (l:K.lookup f=some ⟨oc,od,.func 27#8,sl⟩) (cc:gK K (.ref c) x=true) (k:cZ K (.ref f)=true)
  (e:K.lookup c=some ⟨.type "code",od',.fields vs,Ya⟩) (r1:vs[11]?=some (.ref P)) (r2:vs.getD 11 .none=.ref P) (r3:vs.getD 18 .none=.str file tf) (r4:vs.getD 7 .none=.int flags tg) (r5:vs.getD 9 .none=.bool inF) (r6:vs.getD 10 .none=.int text tt) (r7:c≠P):kZ K x st c P:=
 ⟨⟨f,oc,od,kV,_,pm,an,ct,sl,a,l,cc,k⟩,⟨vs,_,_,_,tf,_,tg,_,_,tt,e,r1,r2,r3,r4,r5,r6,r7⟩⟩
theorem QC{l:ot}{w:World}{h:Heap}{mg:Str->Option Value}{fa:Addr}{ms:MS}{fu k:Nat}{T:Tb}(X:K.In h)(Gn:h.Ns mainGlobals mg)(hfa:mg "law"=some (.ref fa))
  (D:Def K "law" st) (S:a8 N ["script"] (aC st))
  (hb :∀ (kV doc pm:Value) (an:Option Addr) (cdv ct:Value) (us:List Value),1#1=["script"].length->bindArgs (de "law" "law" (fN st) (cp st) (aC st) .none kV doc pm an cdv ct) ⟨us,[]⟩=pure ((["script"]:List Str).zip us))
  {tabs:List (Addr×Str)} (h1:T.mkr=false) (hO:∀base:Heap,fQ mg base->TOk ⟨l.prog,w,⟨K,[],[],[],tabs⟩,mg,base,none⟩ T k) (hc:cB T fu N (aC st).names (cp st)=some ms):
  ∃ fd:FuncData,27#4 /\ ∀ base:Heap,K.In base->base.Ns mainGlobals mg->fQ mg base->jx l.prog w K mg base CX0 (k+1) fa fd ["script"] (spM ⟨K,[],[],[],tabs⟩ (run 1 N.length ms)):=by
 obtain⟨f,fd,a,F⟩:=D.ex;have e:=hfa.symm.trans (dq X Gn a);cases e;refine⟨fd,λs v=>?_,λbase _ _ Zg=>G9 (M:=⟨l.prog,w,⟨K,[],[],[],tabs⟩,mg,base,none⟩) rfl F S λX' S'=>(snd fu _ _ _ (.of (hO base Zg) h1)).b _ _ _ _ hc X' S'⟩;obtain⟨oc,od,kV,doc,pm,an,cdv,ct,osl,rfl,lk,ZC⟩:=F.ex;exact .of_eq (hb kV doc pm an cdv ct [v] rfl)
theorem Ta{tabs:List (Addr×Str)}{H:Hp}{a:Addr}{ns:List Int}{m:MF}(hT:∀q∈tabs,Ce H q.1 q.2)(hS:SqL K H a 10#7)(hm:∀S:Sto,0#3=1->getL S 0=some (ns.map U.int)->∃S',m [.ref 0] S=some (.bl true,S')):
  spM ⟨K,[],[],[],tabs⟩ m [.ref a] H (λv _=>v=.bl true) λ_ _ _=>False:=by
 have key:∃c:Cell,oP ⟨K,[],[],[],tabs⟩ H [a] a c/\getL [c] 0=some (ns.map U.int):=by
  rcases hS with (h|⟨o,h⟩)|h
  .exact⟨.lst _,⟨_,h,RUs.ints ns⟩,rfl⟩
  .exact⟨.frz _,⟨_,.inl ⟨o,h⟩,RUs.ints ns⟩,rfl⟩
  .exact⟨.frz _,⟨_,.inr (.inr h),RUs.ints ns⟩,rfl⟩
 obtain⟨c,hc,hg⟩:=key;obtain⟨S',e⟩:=hm _ rfl hg;refine⟨[a],_,_,_,S',⟨rfl,λn m us ws q1 q2 _ _ _=>?_,λn c' b q1 q2=>?_,⟨.nil,λq hq=>(nomatch hq),hT⟩⟩,.cons (vX rfl) .nil,e,λY4 v H' _ _ _ r=>jB r⟩
 .have h1:=(af.mp q1).1
  have h2:=(af.mp q2).1<;>simp_all
 .have h1:=(af.mp q1).1
  simp_all
end _G
namespace _G
open PySem PySem.Spec _L
open PySem.W (CodeHd tabObj tabIn)
open PyProof.Rows hiding St
theorem kZ.tab{K:ao}{x:Str}{st:Stmt}{c P:Addr}(D:kZ K x st c P):tabIn K x=some (c,P):=by
 obtain⟨f,oc,od,kV,doc,pm,an,ct,sl,e1,e2,_⟩:=D.ex;obtain⟨vs,od',Ya,file,tf,flags,tg,inF,text,tt,e3,e4,_⟩:=D.cd;unfold tabIn;simp only[e1,e2,e3,e4]
def AW(K:ao)(tabs:List (Addr×Str))(a:Addr)(o:Obj)(xs:List V):Hp:=λb=>
 if b∈tabs.map (·.1) then some (.tbl #[]) else if b=a/\K.lookup a=none then some (.frz o 8#8) else none
section
variable {P:Program}{w:World}{K:ao}{mg mb:Str->Option Value}{k:Nat}{fa a:Addr}{fd:FuncData}{x:Str}{sp:Sp}{s:Shared}{vs:List Value}{ns:List Int}{tabs:List (Addr×Str)}
theorem LH(kx:K.In s.heap)(YH:s.heap.Ns mainGlobals mg)(hb:s.heap.Ns builtinsNs mb)(Zg :∀ x:Str,x≠"__name__"->mb x=bootBuiltins x)(V8:s.heap.NoLimit)(hbm:fQ mg s.heap)(hg:s.gens = #[])
  (ha:s.heap.get? a=some { cls := .type "list",data := .seq vs.toArray }) (hi:IntsAre vs ns) (hl:11#7<=sizeLine) (hr:lz k callerA)
  (hT:∀r∈tabs,K.lookup r.1=none /\ ∃c,s.heap.TableAt c r.1 #[])
  (F:∀base:Heap,K.In base->base.Ns mainGlobals mg->fQ mg base->jx P w K mg base CX0 k fa fd [x] sp) (We:∀(s:Shared) (u:Value),BindsTo s fd ⟨[u],[]⟩ [(x,u)])
  (Zr:∀H:Hp,(∀r∈tabs,Ce H r.1 r.2)->SqL K H a 10#7->sp [.ref a] H (λv _=>v=.bl true) λ_ _ _=>False):
  oZ (model P w) callerA (.call (.ref fa) ⟨[.ref a],[]⟩) (λr s'=>r=.ok (.ret (.bool true))/\OldK s.heap s'.heap/\s'.os=s.os/\AllBare s'.gens) s:=by
 have rv:=sM hi;have U7:=hi.length
 let o:Obj:={ cls := .type "list",data := .seq vs.toArray }
 let H:=AW K tabs a o 10#7
 have hH:H=AW K tabs a o 10#7:=rfl;have tab:∀b,b∈tabs.map (·.1)->H b=some (.tbl #[])/\K.lookup b=none /\ ∃c,s.heap.TableAt c b #[]:=λb hb=>by
  obtain⟨r,hr,e⟩:=aU.mp hb;subst e;exact⟨if_pos hb,hT r hr⟩
 have anot:a∉tabs.map (·.1):=λz=>by
  obtain⟨_,_,c,ht⟩:=tab a z;have e:=ht.2;rw[ha]at e;cases e
 have Wc:∀b u,H b=some u->(b∈tabs.map (·.1)/\u=.tbl #[])\/(b=a/\K.lookup a=none/\u=.frz o (.lst 10#7)):=λb u e=>by
  rw[hH]at e;unfold AW at e
  split at e
  .rename_i z;cases e;exact .inl ⟨z,rfl⟩
  .split at e
   .rename_i z;cases e;exact .inr ⟨z.1,z.2,rfl⟩
   .cases e
 have nodic:∀{b:Addr}{o:Obj}{es:Array DictEntry}{ep:Nat},s.heap.get? b=some o->o.data=.dict es ep->H b=none:=λ{b o' es ep} e d=>by
  cases q:H b with
  |none=>rfl
  | some u=>
    rcases Wc b u q with⟨z,_⟩|⟨z,_⟩
    .obtain⟨_,_,c,ht⟩:=tab b z
     have e2:=ht.2;rw[e]at e2;cases e2;cases d
    .subst z
     rw[ha]at e;cases e;cases d
 have nsK:∀{b:Addr}{m:Str->Option Value},s.heap.Ns b m->(xu s.heap H).Ns b m:=λ{b m} ⟨o,es,ep,e,d,r⟩=>⟨o,es,ep,qu e (nodic e d),d,r⟩
 have hKb:K.In (xu s.heap H):=λb o' e=>qu (kx b o' e) (by
  cases q:H b with
  |none=>rfl
  | some u=>
    rcases Wc b u q with⟨z,_⟩|⟨z,z2,_⟩
    .rw[(tab b z).2.1]at e;cases e
    ·rw[z,z2]at e;cases e)
 have hok:HOk P w H s.heap:=λb u e=>by
  rcases Wc b u e with⟨z,rfl⟩|⟨rfl,z2,rfl⟩
  .obtain⟨_,_,c,ht⟩:=tab b z
   exact ht.2
  .exact⟨ha,by rw[ay];exact hl,vs,_,rv,ha⟩
 have hS:SqL K H a 10#7:=by
  cases hk:K.lookup a with
  | some o'=>
    have e:=kx a o' hk;rw[ha]at e;cases e;exact .inr ⟨_,vs.toArray,_,hk,rfl,rfl,rfl,by rw[bV,U7];exact hl,by simpa using rv⟩
  |none=>exact .inl (.inr ⟨o,by show AW K tabs a o 10#7 a=_;unfold AW;rw[if_neg anot,if_pos ⟨rfl,hk⟩]⟩)
 have hM:Mod K mg (xu s.heap H):=⟨hKb,nsK YH,⟨mb,nsK hb,Zg⟩,let ⟨mc,h1,h2⟩:=V8;⟨mc,nsK h1,h2⟩⟩;have e0:E6 P w K mg (xu s.heap H) callerA [] s H:=⟨rfl,hM,λb o e=>CS e,lN (ye _ _),trivial,λb hb=>absurd (show b∈([]:List Addr) from hb) 0#6,hok,.of_eq hg⟩;have hBb:fQ mg (xu s.heap H):=by
  obtain⟨bm,ob,e1,e2,e3,e4,e5,e6⟩:=hbm;refine⟨bm,ob,e1,e2,qu e3 ?_,e4,e5,e6⟩;cases q:H bm with
  |none=>rfl
  | some u=>
    rcases Wc bm u q with⟨z,_⟩|⟨z,_⟩
    .obtain⟨_,_,c,ht⟩:=tab bm z
     have e:=ht.2;rw[e3]at e;cases e;cases e6
    .rw[z,ha]at e3;cases e3;cases e6
 have hTR:∀r∈tabs,Ce H r.1 r.2:=λr hr=>⟨#[],(tab r.1 (aU.mpr ⟨r,hr,rfl⟩)).1,trivial,λpos cv h=>by cases h⟩;refine iK ((F _ hKb (nsK YH) hBb).run callerA [] s H ⟨[.ref a],[]⟩ [.ref a] [.ref a] _ _ hr e0 (We s (.ref a)) (.cons rfl .nil) (Zr H hTR hS)) λr s' h=>?_;cases r with
 |error e=>exact h.elim
 | ok fl=>
   cases fl with
   |next=>exact ck h
   |brk=>exact ck h
   |cont=>exact ck h
   | ret u=>
     obtain⟨v,H',os,bare,un,Wa,r',q⟩:=h;have q':v=.bl true:=q;subst q';obtain rfl:u=tZ true:=r';refine⟨rfl,⟨λb o' e=>?_,λb o' e=>un.there b o' e 0#6⟩,os,bare⟩;cases q:H b with
     |none=>exact .inl (un.keep b o' e q (by intro z;exact absurd (show b∈([]:List Addr) from z) 0#6) 0#6)
     | some u=>
       rcases Wc b u q with⟨z,rfl⟩|⟨rfl,_,rfl⟩
       .obtain⟨_,_,c,ht⟩:=tab b z
        obtain⟨more,e2⟩:=un.tbls b #[] q;have e3:s'.heap.get? b=some { cls:= .none,data:= .fields (#[]++more) }:=Wa b _ e2;have e4:=ht.2;rw[e]at e4;cases e4;exact .inr (.inl ⟨ht.isCodeTable,rfl,#[],more,rfl,e3⟩)
       .obtain⟨e2,_⟩:=Wa b _ (un.frzs b _ _ q)
        rw[ha]at e;cases e;exact .inl e2
end
theorem IR{l:ot}{n k:Nat}{q:Program}{loose:List Str}{XP:(Str->Option Value)->Heap->Prop}{YP:World->Heap->Prop}{d:DefRec}{K:Params->ao}{x:Str}
  (hn:l.most=some n) (YY:n<=sizeLine) (VR:d.params.defaults=[]) (hr:lz k callerA) (hY:∀(w:World) (h:Heap),YP w h->(K w.params).In h)
  (F: ∀(w:World) (mg:Str->Option Value) (fa:Addr) (h:Heap),(K w.params).In h->h.Ns mainGlobals mg->mg d.name=some (.ref fa) -> ∃(tabs:List (Addr×Str)) (fd:FuncData) (sp:Sp),
   (∀r∈tabs,(K w.params).lookup r.1=none /\ ∃x d c,(recsOf q).find? (λe=>e.name==x)=some d/\tabIn (K w.params) x=some (c,r.1)) /\
   (∀(s:Shared) (u:Value),BindsTo s fd ⟨[u],[]⟩ [(x,u)])/\(∀base:Heap,(K w.params).In base->base.Ns mainGlobals mg->fQ mg base->jx l.prog w (K w.params) mg base CX0 k fa fd [x] sp) /\
   ∀(H:Hp) (a:Addr) (ns:List Int),ns.length<=n->(∀r∈tabs,Ce H r.1 r.2)->SqL (K w.params) H a (ns.map V.int)->sp [.ref a] H (λv _=>v = .bl true) λ_ _ _=>False):
  PySem.W.WalkO q loose XP YP l.row.toRowW d [] (λf vs=>PySem.call f vs):=by
 refine Att.attach_call hn VR λw s₀ ZU mg mb fa o pm cd doc a vs ns f8 Y ho hd ZC W2 WS hints hlen hg=>?_;have kx:=hY w _ Y;obtain⟨tabs,fd,sp,hT,hb,hF,Zr⟩:=F w mg fa _ kx f8.T.g W2;refine LH (tabs:=tabs) kx f8.T.g f8.T.b f8.T.builtins f8.T.nolimit f8.T.bmain hg WS hints (aB hlen YY) hr (λr hr=>?_) hF hb λH h1 h2=>Zr H a ns hlen h1 h2;obtain⟨h1,x',d',c,h2,h3⟩:=hT r hr;obtain⟨h4,h5⟩:=PySem.W.tab_of f8.T kx h2 h3;exact⟨h1,c,h4.tab h5⟩
end _G
namespace _G
open PySem PySem.Spec _L
variable{p:List Value->Prop}
theorem usC{n:Nat}(h:∀a us,1#1=n->p (a::us)):∀us:List Value,1#1=n+1->p us:=λus hl=>by
 cases us with
 |nil=>cases hl
 |cons a us=>exact h a us (Bw hl)
theorem us0(h:p []):∀us:List Value,1#1=0->p us
 |[],_=>h
theorem us1(h:∀a,p [a]):∀us:List Value,1#1=1->p us:=usC λa us hl=>fR hl▸h a
theorem us2(h:∀a b,p [a,b]):∀us:List Value,1#1=2->p us:=usC λa=>us1 (h a)
theorem us3(h:∀a b c,p [a,b,c]):∀us:List Value,1#1=3->p us:=usC λa=>us2 (h a)
theorem us4(h:∀a b c d,p [a,b,c,d]):∀us:List Value,1#1=4->p us:=usC λa=>us3 (h a)
theorem TOk.nm{M:Mo}{T:Tb}{k:Nat}(h:TOk M T k)(x:Str):TOk M ⟨T.D,T.C,[],T.H,false,T.Z.to x⟩ k:=⟨h.D,h.C,h.B,λ_ _ e=>(by cases e),λz=>(by cases z),h.Z⟩
def Bd(x:Str)(st:Stmt)(ps:List Str):Prop:= ∀(kV doc pm:Value) (an:Option Addr) (cdv ct:Value) (us:List Value),1#1=7#1->bindArgs 24#2 ⟨us,[]⟩=pure (ps.zip us)
structure Ch(P:Program)(w:World)(K:ao)(mg:Str->Option Value)(tabs:List (Addr×Str))(T:Tb)(k:Nat):Prop where
 o:∀(caps:List U) (capv:List V) (cds:List (Addr×Obj)) (base:Heap),fQ mg base->TOk ⟨P,w,⟨K,caps,capv,cds,tabs⟩,mg,base,none⟩ T k
 h:∀(caps:List U) (capv:List V) (cds:List (Addr×Obj)) (base:Heap),fQ mg base->∀y F,T.H.lookup y=some F->∃k' ps,k'<=k/\FnC ⟨P,w,⟨K,caps,capv,cds,tabs⟩,mg,base,none⟩ y k' ps F
 r:∀(caps:List U) (capv:List V) (cds:List (Addr×Obj)) (base:Heap),fQ mg base->∀y rz,T.Z.F.lookup y=some rz->∃k',k'<=k/\FnR ⟨P,w,⟨K,caps,capv,cds,tabs⟩,mg,base,none⟩ T.Z.cl y k' rz
theorem uk{M:Mo}{Fs:List (Str×List Nat)}{cl:Nat->Addr}{j k:Nat}(h:∀y rz,Fs.lookup y=some rz->∃k',k'<=j/\FnR M cl y k' rz)(hj:j<=k):∀y rz,Fs.lookup y=some rz->∃k',k'<=k/\FnR M cl y k' rz:=λy rz hy=>
 let ⟨k',a,b⟩:=h y rz hy;⟨k',aB a hj,b⟩
section
variable {P:Program}{w:World}{K:ao}{mg:Str->Option Value}{tabs:List (Addr×Str)}{T T':Tb}{k j:Nat}{h:Heap}{x:Str}{st:Stmt}{N ps:List Str}{ms:MS}{fu:Nat}
theorem Ch.dfn(c:Ch P w K mg tabs T k)(O:∀(caps:List U) (capv:List V) (cds:List 2#9) (base:Heap),fQ mg base->TOk ⟨P,w,⟨K,caps,capv,cds,tabs⟩,mg,base,none⟩ T' k)(h1:T'.mkr=false)(X:K.In h)(Gn:h.Ns mainGlobals mg)(D:Def K x st)(S:a8 N ps (aC st))(hb:Bd x st ps)
  (hc:cB T' fu N (aC st).names (cp st)=some ms):Ch P w K mg tabs ⟨(x,run ps.length N.length ms)::T.D,T.C,T.L,T.H,T.mkr,T.Z⟩ (k+1):=
 ⟨λa b d e f=>(c.o a b d e f).cons (D.fn (M:=⟨P,w,⟨K,a,b,d,tabs⟩,mg,e,none⟩) (O a b d e f) rfl h1 X Gn S hb hc) (cX k),λa b d e f=>qY (c.h a b d e f) (cX k),λa b d e f=>uk (c.r a b d e f) (cX k)⟩
theorem Ch.cls{y:Str}{msC:Addr->MF->MS}(c:Ch P w K mg tabs T k)(h1:T.mkr=false)(hL:T.L=[])(X:K.In h)(Gn:h.Ns mainGlobals mg)(D:Def K x st)(S:a8 N ps (aC st))(hb:Bd x st ps)
  (hc:∀g φ,cB ⟨T.D,T.C,[(y,g,φ)],T.H,T.mkr,T.Z⟩ fu N (aC st).names (cp st)=some (msC g φ)):Ch P w K mg tabs ⟨T.D,T.C,T.L,(x,λg φ=>run ps.length N.length (msC g φ))::T.H,T.mkr,T.Z⟩ k:=
 ⟨λa b d e f=>(c.o a b d e f).setH,λa b d e f=>LF (c.h a b d e f) (D.fnC (M:=⟨P,w,⟨K,a,b,d,tabs⟩,mg,e,none⟩) c.o h1 hL X Gn S hb hc) (ak k) (ak k),c.r⟩
theorem Ch.lam_{a p:Addr}{nm:Str}(c:Ch P w K mg tabs T k)(h1:T.mkr=false)(hL:T.L=[])(hm:(p,x++".<locals>."++nm)∈tabs)(nd:(tabs.map (·.1)).Nodup)(hg:mainGlobals≠p)(X:K.In h)(Gn:h.Ns mainGlobals mg)(D:kZ K x st a p)(S:a8 N ps (aC st))(hb:Bd x st ps)
  (hc:cB 19#8 fu N (aC st).names (cp st)=some ms):Ch P w K mg tabs ⟨(x,run ps.length N.length ms)::T.D,T.C,T.L,T.H,T.mkr,T.Z⟩ (k+3):=
 ⟨λa b d e f=>(c.o a b d e f).cons (D.fn (M:=⟨P,w,⟨K,a,b,d,tabs⟩,mg,e,none⟩) rfl c.o (c.o a b d e f) hL h1 (qY (c.h a b d e f) (cX k)) (uk (c.r a b d e f) (cX k)) (D.mkr (M:=⟨P,w,⟨K,a,b,d,tabs⟩,mg,e,none⟩) f X Gn hm nd hg) X Gn S hb hc) (d9 k 3),λa b d e f=>qY (c.h a b d e f) (d9 k 3),λa b d e f=>uk (c.r a b d e f) (d9 k 3)⟩
end
end _G
namespace _G
open PySem PySem.Spec _L
open PyProof.Rows hiding St
def xNo:MX:=λ_ _=>none
def So(m:ME)(r:MX):MX:=λG S=>bnd (m G S) λ_ S1=>r G S1
def su(C:Nat):MX:=λ_ S=>some (C,S)
def xIf(c:MT)(a b:MX):MX:=λG S=>bnd (c G S) λk S1=>if k then a G S1 else b G S1
def rC(a:MX)(m:MS)(b:MX):MX:=λG S=>match a G S with
 |some r=>some r
 | none=>match m G S with
   |some (.nx,Y2,S1)=>b Y2 S1
   |_=>none
def y6(k n:Nat)(r:MX):RF:=λus S=>if 1#1=k then r 23#2 S else none
structure Tx where
 R:List (Str×RF)
 Cl:List (Str×Nat)
def Q8:Const->Option Str
 |.str s=>some s
 |_=>none
def GV:Expr->Option Str
 |.Name y _=>some y
 |_=>none
def CZ(T:Tb)(ns:NS):Expr->Bool
 |.Constant c _ _=>(Q8 c).isSome
 |_=>false
def oneOf{α:Type}:List α->Option α
 |[a]=>some a
 |_=>none
structure Xc where
 e:Tb->Tx->List Str->NS->Expr->Option MX
 a:Tb->Tx->List Str->NS->List Expr->Option MX
 s:Tb->Tx->List Str->NS->Stmt->Option MX
 b:Tb->Tx->List Str->NS->List Stmt->Option MX
section
variable (f:Nat) (R:Xc) (T:Tb) (Z:Tx) (N:List Str) (ns:NS)
def xC(g:Str)(as:List Expr):Option MX:=match Z.R.lookup g with
 |some r=>(cA T f N ns as).map (xFn r)
 | none=>match T.D.lookup g with
   |some _=>if as.all notStar then R.a T Z N ns as else none
   |none=>none
def xE:Expr->Option MX
 |.Call g as ks _=>(GV g).bind λx=>if ks.isEmpty&&(!as.isEmpty&&(dM ns x&&cu x)) then xC f R T Z N ns x as else none
 |.Subscript a b _=>if lG b then R.e T Z N ns a else none
 |_=>none
def xA:List Expr->Option MX
 |[]=>none
 | e::r=>if notStar e then(match R.e T Z N ns e with
   |some re=>some re
   | none=>(cE T f N ns e).bind λme=>(R.a T Z N ns r).map (So me)) else none
def xR:Expr->Option MX
 |.Call g as ks _=>(GV g).bind λx=>(oneOf as).bind λa=>if ks.isEmpty&&dM ns x&&cu x&&notStar a&&CZ T ns a then(Z.Cl.lookup x).map su else none
 |_=>none
def xS:Stmt->Option MX
 |.Raise o c _=>if c.isNone then o.bind (xR T Z ns) else none
 |.If c a b _=>(cT T f N ns c).bind λmc=>(R.b T Z N ns a).map λra=>xIf mc ra ((R.b T Z N ns b).getD xNo)
 |.Expr e _=>if i6 e then R.e T Z N ns e else none
 |.Return o _=>o.bind λe=>R.e T Z N ns e
 |.Assign ts e _=>(oneOf ts).bind λt=>(GV t).bind λx=>if nO ns x&&i6 e&&(slot N x).isSome then R.e T Z N ns e else none
 |_=>none
def xB:List Stmt->Option MX
 |[]=>none
 | s::r=>match R.s T Z N ns s with
   |some rs=>some (rC rs ((cS T f N ns s).getD sNo) ((R.b T Z N ns r).getD xNo))
   |none=>(cS T f N ns s).bind λms=>(R.b T Z N ns r).map (rC xNo ms)
end
def xc(f:Nat):Nat->Xc
 |0=>⟨λ_ _ _ _ _=>none,λ_ _ _ _ _=>none,λ_ _ _ _ _=>none,λ_ _ _ _ _=>none⟩
 |n+1=>⟨xE f (xc f n),xA f (xc f n),xS f (xc f n),xB f (xc f n)⟩
def LD:Data->Option ClassData
 |.cls cd=>some cd
 |_=>none
def exC(K:ao)(C:Addr)(oc:Value)(cd:ClassData)(sl:Array (Option Value)):Bool:=
 oc == .type "type"&&(sl == #[sl.getD 0 none,sl.getD 1 none,sl.getD 2 none,sl.getD 3 none,some (.builtin "ValueError.__new__"),sl.getD 5 none]&&(cd.mro == .ref C::cd.mro.tail&&(!cd.hasDel&&(PySem.W.tailIn K vE cd.mro.tail&&(PySem.W.nsOkIn K cd.ns&&bD K cd.ns "__init__" == some none)))))
def exB(K:ao)(C:Addr):Bool:=match K.lookup C with
 | some o=>(match LD o.data with
   |some cd=>exC K C o.cls cd o.slots
   | none=>false)
 |none=>false
structure XOk(M:Mo)(cl:Nat->Addr)(T:Tb)(Z:Tx)(k:Nat):Prop where
 g:GOk M T k
 R:∀x r,Z.R.lookup x=some r->∃k' ps,k'<=k/\FnX M cl x k' ps r
 C:∀x c,Z.Cl.lookup x=some c->M.mg x=some (.ref (cl c))/\exB M.K.K (cl c)=true
theorem Qd{d:Data}{cd:ClassData}(h:LD d=some cd):d=.cls cd:=by
 cases d<;>first | (cases h;rfl) |cases h
theorem Pg{K:ao}{h:Heap}{mg:Str->Option Value}{x:Str}{C:Addr}(X:K.In h)(e:mg x=some (.ref C))(q:exB K C=true):OwnCls x C vE "ValueError.__new__" mg h:=by
 refine⟨e,?_⟩;unfold exB at q;cases ho:K.lookup C with
 |none=>rw[ho]at q;cases q
 | some o=>
   rw[ho]at q;obtain⟨oc,dd,da,sl⟩:=o
   have qa:(match LD da with
    |some cd=>exC K C oc cd sl
    | none=>false)=true:=q
   clear q;cases hd:LD da with
   |none=>rw[hd]at qa;cases qa
   | some cd=>
     rw[hd]at qa;have q:exC K C oc cd sl=true:=qa;clear qa;have WT:=Qd hd;clear hd;subst WT;unfold exC at q;obtain⟨q0,q⟩:=dH.mp q;obtain⟨q1,q⟩:=dH.mp q;obtain⟨q3,q⟩:=dH.mp q;obtain⟨q4,q⟩:=dH.mp q;obtain⟨q5,q⟩:=dH.mp q;obtain⟨q6,q7⟩:=dH.mp q;obtain⟨nm,bs,mro,ns,qn,hd,sn,sub,ab,col,del⟩:=cd;have WL:mro=.ref C::mro.tail:=eq_of_beq q3;have q4':del=false:=by
      cases del with
      |false=>rfl
      |true=>cases q4
     rw[eq_of_beq q0,WL,q4',eq_of_beq q1]at ho;exact⟨mro.tail,ns,nm,qn,bs,hd,sn,sub,ab,col,dd,_,_,_,_,_,_,X _ _ ho,.of_isNs (PySem.W.isNs_of_in X q6),PySem.W.nsMap_none_of_in X q6 (eq_of_beq q7),PySem.W.tail_of_in X q5⟩
section
variable {M:Mo}{cl:Nat->Addr}{T:Tb}{Z:Tx}{k n fu:Nat}{N:List Str}{ns:NS}{X:Cx}{E:XK}
variable{s:Str}
theorem LK{c:Const}(h:Q8 c=some s):c=.str s:=by
 cases c<;>cases h;rfl
theorem Jm{e:Expr}(h:GV e=some s):∃p,e=.Name s p:=by
 unfold GV at h
 split at h<;>simp_all
theorem Je{α:Type}{l:List α}{a:α}(h:oneOf l=some a):l=[a]:=by
 match l,h with
 |[_],h=>cases h;rfl
theorem O3(O:TOk M T k)(S:Sc M X.nox k N ns){a:Expr}(h:CZ T ns a=true):PE X a λσ H Q=>∀x,Q (.str x) H:=by
 unfold CZ at h
 split at h
 .obtain⟨s,e⟩:=dC.mp h
  rw[LK e];exact PE.con GO λ_ _ _ q=>q _
 .cases h
end
theorem QE{T:Tb}{Z:Tx}{ns:NS}{e:Expr}{r:MX}(h:xR T Z ns e=some r):∃x a p1 p C,e=.Call 13#5 [a] [] p/\Z.Cl.lookup x=some C/\r=su C/\dM ns x=true/\cu x=true/\notStar a=true/\CZ T ns a=true:=by
 unfold xR at h
 split at h
 .rename_i g as ks p
  obtain⟨x,e1,hy⟩:=bind_eq h;obtain⟨a,e2,hz⟩:=bind_eq hy;obtain⟨p1,rfl⟩:=Jm e1;cases Je e2
  split at hz
  .rename_i hs
   simp at hs;obtain⟨C,e1,rfl⟩:=map_eq hz;have hk:=hs.1.1.1.1;cases ks with
   |nil=>exact⟨x,a,p1,p,C,rfl,e1,rfl,hs.1.1.1.2,hs.1.1.2,hs.1.2,hs.2⟩
   |cons _ _=>cases hk
  .cases hz
 .cases h
section
variable {M:Mo}{cl:Nat->Addr}{T:Tb}{Z:Tx}{k n fu:Nat}{N:List Str}{ns:NS}{X:Cx}{E:XK}
variable{a:Expr}
theorem x_raise{x:Str}{C:Nat}{p1 p2 pos:Pos}(L:Lv X E)(S:Sc M X.nox k N ns)(O:M.mg x=some (.ref (cl C))/\exB M.K.K (cl C)=true)(hg:dM ns x=true)(hp:cu x=true)(hs:notStar a=true)(ha:PE X a λσ H Q=>∀x,Q (.str x) H):
  PS X (.Raise (some (.Call 13#5 [a] [] p2)) none pos) (tXS cl M.K (su C) E):=by
 intro pins s σ H D I h;obtain⟨μ,S0,G,C',S',hr,er,q,aft⟩:=h;cases q;have hb:X.base=M.base:=S.hb;have hm:X.mg=M.mg:=S.hm;have hK:X.K=M.K.K:=S.hK;have O:=Pg (K:=M.K.K) (h:=X.base) (by rw[<-hK];exact I.ok.mod.kin) O.1 O.2;obtain⟨tl,Nn,nm,q,bs,hdct,sn,sub,ab,col,dd,k0,k1,k2,k3,k5,mN,hC,hN,hni,T'⟩:=O.obj;refine wpAny_Raise_call_subU (C:=cl C) (nm:=nm) (q:=q) (N:=Nn) (bs:=bs) (bm:=tl) (hdct:=hdct) (sn:=sn) (sub:=sub) (ab:=ab) (col:=col) (dd:=dd) (k0:=k0) (k1:=k1) (k2:=k2) (k3:=k3) (k5:=k5)
  zJ (bmB:=vE) 1#4 zJ (mN:=mN) (T'.hasType PySem.F.excBase_ValueError.hasBase) S.room.hd (pL _ _ (by rw[bK,hs];rfl)) hni (kn I 5#4 (by rw[hm];exact O.bound) ⟨rfl,?_⟩ (cU hp).1)
 rw[cR hs];refine kf ?_;refine d7 (thn (ha pins s σ H (λv H1=>(∃x,v=.str x)/\H1=H) I λx=>⟨⟨x,rfl⟩,rfl⟩) λu s1 ⟨v,H1,I1,r1,_,e1⟩=>?_);subst e1;refine gE ⟨rfl,?_,I1.bk _ _ hC,hN.keeps I1.bk,T'.keeps I1.bk,λh' e hx=>?_⟩
 .show 1<=sizeLine
  rw[sizeLine_eq];decide
 .exact L.made I1 hx (aft μ H1 2#4 9#7 hr)
theorem Qg{g:Str}{as:List Expr}{p pos:Pos}{mf:MF}{r:MX}{k':Nat}{ps:List Str}(S:Sc M X.nox k N ns)(F:Fn M g k' ps mf)(hk:k'<=k)(hg:dM ns g=true)(hp:cu g=true)(ha:PA X (a::as) (tXA cl M.K r E))(hs:(a::as).all notStar=true):
  PE X (.Call (.Name g p) (a::as) [] pos) (tXE cl M.K r E):=by
 obtain⟨f,fd,hm,Zq,hb,F⟩:=F.ex;have e1:X.prog=M.P:=S.hP;have e2:X.w=M.w:=S.hw;have e3:X.K=M.K:=S.hK;have e4:X.mg=M.mg:=S.hm;have e5:X.base=M.base:=S.hb;rw[<-e1,<-e2,<-e3,<-e4,<-e5]at F;rw[<-e4]at hm;rw[<-e3]at Zq hb;rw[bK,av]at hs;exact PE.con (zl F 14#2 5#4 hm Zq hb .nil xM ha (cU hp).1 (cR hs.1 _ _) (pL _ _ hs.2)) λσ H Q h=>h
structure Ug(M:Mo)(cl:Nat->Addr)(T:Tb)(Z:Tx)(k fu n:Nat):Prop where
 e:∀N ns e r,(xc fu n).e T Z N ns e=some r->∀X E,Lv X E->Sc M X.nox k N ns->PE X e (tXE cl M.K r E)
 a:∀N ns es r,(xc fu n).a T Z N ns es=some r->∀X E,Lv X E->Sc M X.nox k N ns->PA X es (tXA cl M.K r E)
 s:∀N ns st r,(xc fu n).s T Z N ns st=some r->∀X E,Lv X E->Sc M X.nox k N ns->PS X st (tXS cl M.K r E)
 b:∀N ns sts r,(xc fu n).b T Z N ns sts=some r->∀X E,Lv X E->Sc M X.nox k N ns->PSs X sts (tXS cl M.K r E)
theorem Rm{R:Ug M cl T Z k fu n}{sts:List Stmt}(h:∀r,(xc fu n).b T Z N ns sts=some r->PSs X sts (tXS cl M.K r E)):PSs X sts (tXS cl M.K (((xc fu n).b T Z N ns sts).getD xNo) E):=by
 cases q:(xc fu n).b T Z N ns sts with
 |some r=>exact h r q
 | none=>
   rintro pins s σ H D I ⟨μ,S0,G,C,S',hr,er,q,aft⟩;cases q
theorem R3(O:XOk M cl T Z k):∀n,Ug M cl T Z k fu n
 |0=>⟨λ_ _ _ _ h=>eE h,λ_ _ _ _ h=>eE h,λ_ _ _ _ h=>eE h,λ_ _ _ _ h=>eE h⟩
 | n+1=>by
   have R:=R3 O n;have Sn:=snd fu M T k O.g;refine⟨λN ns e r h X E L S=>?_,λN ns es r h X E L S=>?_,λN ns st r h X E L S=>?_,λN ns sts r h X E L S=>?_⟩
   .replace h:xE fu (xc fu n) T Z N ns e=some r:=h
    cases e with
    | Call g as ks p=>
      obtain⟨x,hx,h2⟩:=bind_eq h;clear h;obtain⟨p1,rfl⟩:=Jm hx;have h:(if ks.isEmpty&&(!as.isEmpty&&(dM ns x&&cu x)) then xC fu (xc fu n) T Z N ns x as else none)=some r:=h2;clear h2
      split at h
      .rename_i hs
       rw[av,av,av,yx]at hs;obtain⟨rfl,ha,hs⟩:=hs;cases as with
       |nil=>cases ha
       |cons a as=>
       unfold xC at h
       split at h
       .rename_i rr hr
        obtain⟨ZS,e1,rfl⟩:=map_eq h;obtain⟨k',ps,hk,F⟩:=O.R _ _ hr;exact x_call L S F hk hs.1 hs.2 (Sn.a _ _ _ _ e1 _ S) (hG e1)
       .split at h
        .rename_i mf hd
         split at h
         .rename_i ZQ
          obtain⟨k',ps,hk,F⟩:=O.g.1.D _ _ hd;exact Qg S F hk hs.1 hs.2 (R.a _ _ _ _ h _ _ L S) ZQ
         .cases h
        .cases h
      .cases h
    | Subscript a b p=>
      have h:(if lG b then(xc fu n).e T Z N ns a else none)=some r:=h
      split at h
      .rename_i hs
       exact PE.con (Nb (r:=λ_ _ _ _=>False) (by unfold IxR;intros;contradiction) (R.e _ _ _ _ h _ _ L S) PE.never (M4 hs)) λ_ _ _ q=>q
      .cases h
    |_=>cases h
   .simp only[xc]at h
    unfold xA at h
    split at h
    .cases h
    .split at h
     .rename_i e es hs
      split at h
      .rename_i re he
       cases h;exact λpos pins s σ H Q I q=>jN (t:=λ_ _ _=>False) (R.e _ _ _ _ he _ _ L S) (λ_ _ _ _ _ _ _ h=>h.elim) (cR hs _ _) pos pins s σ H Q I q
      .obtain⟨me,e1,h⟩:=bind_eq h
       obtain⟨rr,e2,rfl⟩:=map_eq h;intro pos pins s σ H Q I q;refine jN (Sn.e _ _ _ _ e1 _ S).nox (R.a _ _ _ _ e2 _ _ L S) (cR hs _ _) pos pins s σ H Q I ?_;obtain⟨μ,S0,G,C,S',hr,er,q,aft⟩:=q;obtain⟨u,S1,e1,q⟩:=a6 q;exact⟨μ,S0,G,u,S1,hr,er,e1,λY0 v H1 p1 k1 Z' _=>28#5⟩
     .cases h
   .replace h:xS fu (xc fu n) T Z N ns st=some r:=h
    cases st with
    | Raise o c p=>
      have h:(if c.isNone then o.bind (xR T Z ns) else none)=some r:=h
      split at h
      .rename_i hn
       obtain⟨e,rfl,hx⟩:=bind_eq h;clear h;cases c with
       |some _=>cases hn
       |none=>
       obtain⟨x,a,p1,p2,C,rfl,e1,rfl,h1,h2,h3,h4⟩:=QE hx;exact x_raise L S (O.C _ _ e1) h1 h2 h3 (O3 O.g.1 S h4)
      .cases h
    | If c a b p=>
      obtain⟨mc,e1,h⟩:=bind_eq h;obtain⟨ra,e2,rfl⟩:=map_eq h;refine PS.con (Na (Sn.t _ _ _ _ e1 _ S).nox (R.b _ _ _ _ e2 _ _ L S) (Rm (R:=R) λr q=>R.b _ _ _ _ q _ _ L S)) λD σ H q=>?_;obtain⟨μ,S0,G,C,S',hr,er,q,aft⟩:=q;obtain⟨b,S1,e1,q⟩:=a6 q;refine⟨μ,S0,G,b,S1,hr,er,e1,λY0 H1 p1 k1 Z'=>?_⟩;cases b with
      |true=>exact U2 28#5
      |false=>exact Uz 28#5
    | Expr e p=>
      have h:(if i6 e then(xc fu n).e T Z N ns e else none)=some r:=h
      split at h
      .rename_i hs
       exact PS.con (DM (R.e _ _ _ _ h _ _ L S) (qC hs _ _ _)) λ_ _ _ q=>q
      .cases h
    | Return o p=>
      obtain⟨e,rfl,hx⟩:=bind_eq h;exact PS.con (IX (R.e _ _ _ _ hx _ _ L S)) λ_ _ _ q=>q
    | Assign ts e p=>
      obtain⟨t,e1,hx⟩:=bind_eq h;clear h;obtain⟨x,e2,h⟩:=bind_eq hx;clear hx;cases Je e1;obtain⟨p1,rfl⟩:=Jm e2
      split at h
      .rename_i hs
       simp only[av]at hs;obtain⟨i,hi⟩:=dC.mp hs.2;have hl:=S.lo hs.1.1;exact PS.con (BI (i:=i) (by have:=S.nd;have e:=S.hN;exact e▸this) (by have e:X.N=N:=S.hN;rw[e];exact slot_get hi) hl.1 (R.e _ _ _ _ h _ _ L S) (qC hs.1.2 _ _ _) hl.2) λ_ _ _ q=>q
      .cases h
    |_=>cases h
   .simp only[xc]at h
    unfold xB at h
    split at h
    .cases h
    .rename_i st rest
     have two:∀(rs:MX) (ms:MS) (rr:MX),PS X st (tXS cl M.K rs E)->PS X st (tMS M.K ms)->PSs X rest (tXS cl M.K rr E)->PSs X (st::rest) (tXS cl M.K (rC rs ms rr) E):=by
      rintro rs ms rr h1 h2 h3 pins s σ H D I ⟨μ,S0,G,C,S',hr,er,q,aft⟩;unfold rC at q
      split at q
      .rename_i r e1
       cases q;exact(m7 h1 (PSs.never (e:=rest))) pins s σ H D I ⟨μ,S0,G,C,S',hr,er,e1,aft⟩
      .split at q
       .rename_i Y2 S1 e2
        exact(m7 h2 h3) pins s σ H D I ⟨μ,S0,G,_,hr,er,e2,λY0 Y6 H1 p1 k1 Z' ZT=>⟨Y0,S1,Y2,C,S',Z',ZT,q,aft.mono p1 k1⟩⟩
       .cases q
     split at h
     .rename_i rs e1
      cases h;refine two _ _ _ (R.s _ _ _ _ e1 _ _ L S) ?_ (Rm (R:=R) λr q=>R.b _ _ _ _ q _ _ L S);cases e2:cS T fu N ns st with
      |some ms=>exact(Sn.s _ _ _ _ e2 _ S).nox
      |none=>exact TR
     .obtain⟨ms,e1,h⟩:=bind_eq h
      obtain⟨rr,e2,rfl⟩:=map_eq h;refine two _ _ _ ?_ (Sn.s _ _ _ _ e1 _ S).nox (R.b _ _ _ _ e2 _ _ L S);rintro pins s σ H D I ⟨μ,S0,G,C,S',hr,er,q,aft⟩;cases q
end
section
variable {M:Mo}{cl:Nat->Addr}{T:Tb}{Z:Tx}{k:Nat}{h:Heap}{x:Str}{st:Stmt}{N ps:List Str}{r:MX}{fu n:Nat}
theorem Def.fnX(O:XOk M cl T Z k)(h0:M.mkr=none)(X:M.K.K.In h)(Gn:h.Ns mainGlobals M.mg)(D:Def M.K x st)(S:a8 N ps (aC st))
  (hb:Bd x st ps) (hc:(xc fu n).b T Z N (aC st).names (cp st)=some r):FnX M cl x (k+1) ps (y6 ps.length N.length r):=by
 obtain⟨f,fd,a,F⟩:=D.ex;refine⟨f,fd,dq X Gn a,F.2,F.binds hb,?_⟩;obtain⟨oc,od,kV,doc,pm,an,cdv,ct,osl,rfl,lk,ZC⟩:=F.ex;have len:∀vs H Q E,spX cl M.K (y6 ps.length N.length r) vs H Q E->3#7=7#1:=λvs H Q E h=>by
  obtain⟨μ,S',us,u,Zh,hr,rs,e,_⟩:=h;unfold y6 at e
  split at e
  .rename_i hl;rw[<-rs.len];exact hl
  .cases e
 refine _L.Am lk ZC S len λA outer s H vs Q E hr h=>⟨tXS cl M.K r E,(R3 O n).b _ _ _ _ hc _ E ⟨rfl,rfl,rfl,rfl⟩ (Sc.def (M:=M) (E:=E) S hr λc q h=>by rw[h0]at h;cases h),?_⟩;obtain⟨μ,S1,us,C,S2,hR,rs,e,ka⟩:=h;unfold y6 at e
 split at e
 .rename_i hl
  have er:=nU (N:=N) rs;rw[hl]at er;exact⟨μ,S1,_,C,S2,hR,er,e,ka⟩
 .cases e
end
end _G
namespace _G
open PySem PySem.Spec PySem.W _L
open PyProof.Rows hiding St
section
variable {prog:Program}{w:World}{A:Around}{E:Value->Shared->Prop}{K:Frag}{h:Heap}{g:Array GenState}{d:Drawn}{t:Nat}{os:OsState}{e C:Addr}{oe:Obj}
theorem OU{tp:Value}{R:Result->Shared->Prop}(X:K.In h)(he:h.get? e=some oe)(hc:oe.cls=.ref C)(hm:mroIn K C (.type "object")=some true)(q:R (.ok (.ret (.ref C))) ⟨h,g,d,t,os⟩) :
  oZ 4#9 A (.call (.builtin "getset_descriptor.__get__") ⟨[.builtin "object.__class__",.ref e,tp],[]⟩) R ⟨h,g,d,t,os⟩:=by
 have L1:=looks_mroIn (M:=model prog w) X hm;have ow:=PySem.F.owner_object_class;have T5:(⟨h,g,d,t,os⟩:Shared).TypeIs 20#3 "getset_descriptor":=kl;refine codeAny_call_builtin PySem.F.slot_gs_get.plain PySem.F.entry_gs_get (PySem.F.slot_gs_get.check _ _ _ _ _ _ _ _ T5 (PySem.F.args_gs_get _ _ _) ?_)
 repeat (any_goals (first |assumption | (with_reducible refine kg he ?_;rw[hc]) | (rw[ow];with_reducible refine L1.at ?_) |with_reducible refine L1.at ?_ |wp_step))
 refine⟨Code.quiet_builtin _ 1#4,fA PySem.F.entry_object_class ?_⟩
 repeat (any_goals (first |assumption | (with_reducible refine kg he ?_;rw[hc]) |wp_step))
theorem Ht{tk:Tok}{Q:Fin->Shared->Prop}(X:K.In h)(he:h.get? e=some oe)(hc:oe.cls=.ref C)(hm:mroIn K C (.type "object")=some true)(hf:findIn K (.ref C) "__class__"=some (some 20#3))(q:Q (.done (.ret (.ref C))) ⟨h,g,d,t,os⟩) :
  aT 4#9 A (Builtin.«object.__getattribute__» ⟨[.ref e,.str "__class__" tk],[]⟩) Q E ⟨h,g,d,t,os⟩:=by
 have L1:=looks_findIn (M:=model prog w) X hf;have f5:(⟨h,g,d,t,os⟩:Shared).TypeIs 20#3 "getset_descriptor":=kl;have f4:=kl;have f6:=PySem.F.slot_gs_get.lookup;have f7:=PySem.F.slot_gs_set.lookup
 repeat (any_goals (first |assumption | (with_reducible refine kg he ?_;rw[hc]) |with_reducible refine L1.at ?_ |wp_step))
 refine OU X he hc hm ?_
 repeat (any_goals (first |assumption |wp_step))
theorem ID{Xx:Value}{M:Model}{Q:Unit->Shared->Prop}(X:K.In h)(he:h.get? e=some oe)(hc:oe.cls=.ref C)(hb:mroIn K C (.type "BaseException")=some true)(q:Q () ⟨h,g,d,t,os⟩) :
  aT M A (checkBuiltinCall "BaseException.__getattribute__" ⟨[.ref e,Xx],[]⟩) Q E ⟨h,g,d,t,os⟩:=by
 have L1:=looks_mroIn (M:=M) X hb;have k1:builtinKind "BaseException.__getattribute__"=some .slot:=by decide +kernel
 have k2:splitId "BaseException.__getattribute__"=some ("BaseException","__getattribute__"):=by decide +kernel
 have ha:=PySem.F.args_bexc_ga (.ref e) Xx;simp only[checkBuiltinCall,k1,k2];refine ax ?_;unfold isInstance
 repeat (first | (with_reducible refine kg he ?_;rw[hc]) |with_reducible refine L1.at ?_ |wp_step)
 exact q
theorem SC{tk:Tok}{Q:Value->Shared->Prop}(X:K.In h)(he:h.get? e=some oe)(hc:oe.cls=.ref C)(hm:mroIn K C (.type "object")=some true)(hb:mroIn K C (.type "BaseException")=some true)(hf:findIn K (.ref C) "__class__"=some (some 20#3))
  (hg:findIn K (.ref C) "__getattribute__"=some 29#3) (ha:findIn K (.ref C) "__getattr__"=some none) (q:Q (.ref C) ⟨h,g,d,t,os⟩) :
  aT 4#9 A (getAttrBy (.ref e) (.str "__class__" tk) false) Q E ⟨h,g,d,t,os⟩:=by
 have L1:=looks_findIn (M:=model prog w) X hg;have L2:=looks_findIn (M:=model prog w) X ha;have f3:=PySem.F.excAttr_ValueError.ga.bind (.ref e);have x2:(tH "BaseException.__getattribute__" == tH "object.__getattribute__")=false:=by decide +kernel
 have x1:(onTheHeap (bw C)&&tH "BaseException.__getattribute__" == tH "object.__getattribute__")=false:=by rw [x2];rfl
 repeat (any_goals (first |assumption | (with_reducible refine kg he ?_;rw[hc]) |with_reducible refine L1.at ?_ |with_reducible refine L2.at ?_ |wp_step))
 refine codeAny_call_builtin PySem.F.excAttr_ValueError.ga.plain PySem.F.entry_bexc_ga (ID X he hc hb (Ht X he hc hm hf ?_))
 repeat (any_goals (first |assumption |wp_step))
theorem JY{Q:Option Value->Shared->Prop}(X:K.In h)(he:h.get? e=some oe)(hc:oe.cls=.ref C)(hm:mroIn K C (.type "object")=some true)(hb:mroIn K C (.type "BaseException")=some true)(hf:findIn K (.ref C) "__class__"=some (some 20#3))
  (hg:findIn K (.ref C) "__getattribute__"=some 29#3) (ha:findIn K (.ref C) "__getattr__"=some none) (q:Q (some (.ref C)) ⟨h,g,d,t+1,os⟩) :
  aT 4#9 A (getAttr? (.ref e) "__class__") Q E ⟨h,g,d,t,os⟩:=by
 unfold getAttr? getAttrBy?
 repeat (any_goals (first |assumption |with_reducible apply SC X he hc hm hb hf hg ha |wp_step))
def Jt(K:Frag)(C:Addr):Bool:=(clsIn K C).isSome&&mroIn K C (.type "object")==some true&&mroIn K C (.type "BaseException")==some true&&findIn K (.ref C) "__class__" == some (some 20#3) &&
 findIn K (.ref C) "__getattribute__" == some 29#3&&findIn K (.ref C) "__getattr__" == some none
theorem GD(hB:Jt K C=true):KitX K (.ref e) (.ref C) (λh=>∃oe,h.get? e=some oe/\oe.cls=.ref C):=by
 unfold Jt at hB;simp only[av,beq_iff_eq]at hB;obtain⟨⟨⟨⟨⟨h0,h1⟩,h2⟩,h3⟩,h4⟩,h5⟩:=hB;obtain⟨cd,ZC⟩:=dC.mp h0;unfold clsIn at ZC
 split at ZC
 rotate_left
 .cases ZC
 rename_i c' d' cd' Ya ho
 refine⟨λM h X p=>?_,λM h X p=>?_,λh tp dd ZZ n sl X htp=>?_,λ{prog w A E Q s} X p k=>?_⟩
 .obtain⟨oe,e1,e2⟩:=p
  exact e2▸(Looks.ld e1).andThen .now
 .intro A' Q' E' s' k q
  unfold isType loadHead;exact ax (wpAny_loadPart (k _ _ (X _ _ ho)) (aJ q))
 .refine Bool.eq_false_iff.mpr λq=>?_
  have z:C=tp:=Value.ref.inj (beq_iff_eq.mp q);subst z;have:=(X _ _ ho).symm.trans htp;cases this
 .obtain⟨oe,e1,e2⟩:=p
  obtain⟨h,g,d,t,os⟩:=s;exact JY X e1 e2 h1 h2 h3 h4 h5 k
end
end _G
namespace _G
open PySem PySem.Spec _L
open PySem.W (envX kla_fn kla_obj CodeHd tabObj)
open PyProof.Rows hiding St
section
variable {X:Cx}{pins:List (Addr×Obj)}{σ:St}{H H':Hp}{s s':Shared}
theorem GG{M:Model}{A:Around}{E:Value->Shared->Prop}{j:Nat}{n:Str}{pos:Pos}{Q:Unit->Shared->Prop}(I:Inv X pins σ H s)(hN:X.N.Nodup)(hj:X.N[j]?=some n)(hn:X.env.scope.names.lookup n=some .local)
  (h:∀s',Inv X pins (σ.set j none) H s'->Q () s'):aT M A (do bindName X.env n .none;unbindBehindTheSuite X.env n pos) Q E s:=by
 obtain⟨m,hm,hl⟩:=id I.loc;have Yx:(X.env.scope.kind==.class||(X.env.scope.kind==.module&&8#2 != X.env.globals))=false:=by rw[I.ok.kind];rfl
 refine wpAny_nameGoes_keeps hn hm Yx λh' v hn' hs=>h _ ?_;obtain⟨oL,_,_,Yj,_⟩:=id hm;have below:∀b o,X.s₀.heap.get? b=some o->b≠8#2:=λb o e=>aS (ai (aG e) I.ok.above);refine⟨I.ok,I.os,I.bare,⟨λb o e n hb hx=>(hs.2 b (below b o e)).trans (I.base.keep b o e n hb hx),λb o e n hb hx=>?_,I.base.free,λb o e hx=>?_,I.base.tups,I.base.frzs,I.base.tbls⟩,⟨_,hn',λi y w e1 e2 e3=>?_⟩,λy c e=>?_,I.free,I.freeC,λp hp=>?_,λb ob e=>?_,by simpa using I.len⟩
 .obtain⟨sl,e1⟩:=I.base.slot b o e n hb hx
  exact⟨sl,(hs.2 b (below b o e)).trans e1⟩
 .obtain⟨o',e1⟩:=I.base.there b o e hx
  exact⟨o',(hs.2 b (below b o e)).trans e1⟩
 .by_cases hi:i=j
  .rw[hi]at e2
   rw[List.getElem?_set]at e2;simp only[if_true]at e2
   split at e2<;>cases e2
  .rw[aD (dO hi)]at e2
   obtain⟨u',r',q⟩:=hl i y w e1 e2 e3;refine⟨u',r',?_⟩;rcases q with⟨k,e⟩|⟨k,c,e,z⟩
   .refine .inl ⟨k,?_⟩
    have ZI:y≠n:=λe=>hi (vg hN e1 (e▸hj));simp[ZI,e]
   .exact .inr ⟨k,c,e,z.sameBut hs (I.cne y c e)⟩
 .obtain⟨w',z⟩:=I.cell y c e
  exact⟨w',z.sameBut hs (I.cne y c e)⟩
 .obtain⟨e,n,ne,nf,d⟩:=I.pin p hp
  exact⟨(hs.2 p.1 ne).trans e,n,ne,nf,d⟩
 .refine(I.hok b ob e).stay (λc w' hc q=>(hs.2 c ?_).trans q) (λ_ q=>q) λ_ _ q=>q
  rintro rfl;rcases hc with rfl|hc
  .rw[I.free]at e;cases e
  .rw[I.free]at hc;cases hc
abbrev Cx.mkd(X:Cx)(e:Value):Cx:={ X with A:=X.A.mark (some e),calm:=false,xe:=λ_ _=>False }
variable{e:Value}
theorem Inv.mkd(I:Inv X pins σ H s):Inv (Cx.mkd X e) pins σ H s:=
 ⟨⟨I.ok.mod,I.ok.kind,I.ok.glob,I.ok.blt,I.ok.above,I.ok.inj,I.ok.has,I.ok.cab,11#5,I.ok.frames,I.ok.stk,I.ok.exf,I.ok.bs,I.ok.bsz,I.ok.noex,I.ok.exfs,I.ok.funs,I.ok.frf⟩,I.os,I.bare,I.base,I.loc,I.cell,I.free,I.freeC,I.pin,I.hok,I.len⟩
theorem Inv.unmkd(I:Inv (Cx.mkd X e) pins σ H s)(hd:X.calm=true->X.A.handled=none):Inv X pins σ H s:=
 ⟨⟨I.ok.mod,I.ok.kind,I.ok.glob,I.ok.blt,I.ok.above,I.ok.inj,I.ok.has,I.ok.cab,hd,I.ok.frames,I.ok.stk,I.ok.exf,I.ok.bs,I.ok.bsz,I.ok.noex,I.ok.exfs,I.ok.funs,I.ok.frf⟩,I.os,I.bare,I.base,I.loc,I.cell,I.free,I.freeC,I.pin,I.hok,I.len⟩
theorem HOk.frz{P:Program}{w:World}{h:Heap}{a:Addr}{o:Obj}(x:HOk P w H h)(n:H a=none)(e:h.get? a=some o):HOk P w (upd H a (.frz o fz)) h:=λb u q=>by
 by_cases hb:b=a
 .subst hb
  rw[cx]at q;cases q;exact⟨e,trivial,⟨_,e⟩,λ_ _ _ _=>trivial⟩
 .rw[bg hb]at q
  exact(x b u q).stay (λ_ _ _ z=>z) (λc z=>by rw[bg (bh z n)];exact z) λc xs z=>by rw[bg (bh z n)];exact z
theorem Un.frz{fs:List Addr}{h h':Heap}{a:Addr}{o:Obj}(u:Un fs [] H H' h h')(hn:h.get? a=none)(n:H' a=none):Un fs [] H (upd H' a (.frz o fz)) h h' where
 keep:=u.keep
 slot:=u.slot
 free:=λb o q m hx=>by rw[bg (λz=>by rw[z,hn]at q;cases q)];exact u.free b o q m hx
 there:=u.there
 tups:=λb xs q=>by have:=u.tups b xs q;rw[bg (bh this n)];exact this
 frzs:=λb ob xs q=>by have:=u.frzs b ob xs q;rw[bg (bh this n)];exact this
 tbls:=λb ps q=>by obtain⟨m,e⟩:=u.tbls b ps q;exact⟨m,by rw[bg (bh e n)];exact e⟩
end
end _G
namespace _G
open PySem PySem.Spec _L
open PyProof.Rows hiding St
section
variable {X:Cx}{pins:List (Addr×Obj)}{σ:St}{H H':Hp}{s s':Shared}
theorem HR.frz{K:KX}{μ:List Addr}{S:Sto}{a:Addr}{o:Obj}(h:HR K μ S H)(n:H a=none):bp H (upd H a (.frz o fz))/\HR K μ S (upd H a (.frz o fz)):=by
 have kp:bp H (upd H a (.frz o fz)):=bp.new n;refine⟨kp,h.len,h.inj,λm c x q1 q2=>(h.cell m c x q1 q2).mono kp 2#4 (λhc=>?_) λo' u e=>by rw[bg (bh e n)];exact e,h.ext.upd kp 2#4 λo' q=>by rw[n]at q;cases q⟩;obtain⟨ob,e,_⟩:=(h.cell m c x q1 q2).has hc;exact bg (bh e n)
theorem Mu{E:Value->Shared->Prop}{Q:Value->Shared->Prop}{i:Nat}{x:Str}{g:Addr}{fd:FuncData}{p1 pos:Pos}(I:Inv X pins σ H s)(hN:X.N[i]?=some x)(hv:Vis X.env.scope x)(hp:cu x=true)(X0:σ[i]?=some (some (.ref g)))
  (hf:(∃(oc:Value) (od:Option Addr) (sl:Array (Option Value)),X.base.get? g=some ⟨oc,od,.func fd,sl⟩)\/cZ X.K (.ref g)=true)
  (h:∀s1,Inv X pins σ H s1->aT 1#8 X.A (call (.ref g) []) Q E s1):aT 1#8 X.A (eval (.Call 13#5 [] [] pos) X.env) Q E s:=by
 obtain⟨n1,n2⟩:=cU hp;refine dP (thn (wC (X:=X.wish E) hN hv n1 n2 pins s σ H (λv H1=>v=.ref g/\H1=H) (I.wish E) ⟨_,X0,rfl,rfl⟩) λw s1 ⟨v,H1,I1,r1,e1,e2⟩=>?_);subst e1;subst e2;obtain rfl:w=bw g:=r1;have I1:=I1.unwish;rcases hf with⟨oc,od,sl,hf⟩ |hf
 .exact FZ (P:=λh=>h.get? g=some ⟨oc,od,.func fd,sl⟩) rfl (λh q=>⟨.frame,.inl rfl,(rE (part:=none) q).andThen .now⟩) (evalArgs_nil3 ⟨I1.bk g _ hf,h s1 I1⟩)
 .exact FW I1.kIn hf (h s1 I1)
end
def UQ(cl:Nat->Addr)(K:KX)(i j l:Nat)(g:Addr)(φ:MF)(ψ:RF):TS:=λD σ H=>∃μ S G,HR K μ S H/\ER H μ G σ/\G[i]?=some (some (.obj g))/\G[j]?=some none /\
 ((∃u S1,φ [] S=some (u,S1) /\ ∀Y4 Y3 H',Pre μ Y4->bp H H'->HR K Y4 S1 H'->ER H' Y4 G Y3->D.nx Y3 H') \/
  ∃q S1,ψ [] S=some (q,S1) /\ ∀e oe Y4 Y3 H',Pre μ Y4->bp H H'->HR K Y4 S1 H'->ER H' Y4 (G.set l (some (.obj e))) Y3->H' e=some (.frz oe fz)->oe.cls = .ref (cl q)->D.nx Y3 H')
section
variable {M:Mo}{X:Cx}{k:Nat}{N:List Str}{ns:List (Str×NameKind)}{x n y W:Str}{p1 p2 p3 p4 p5 p6 p7 p8 p9:Pos}
theorem Oe{cl:Nat->Addr}{φ:MF}{ψ:RF}{g w:Addr}{k' i j l:Nat}(S:Sc M X k N ns)(stk:X.stack=X.env::X.outer)(fr:X.env.frame=some 8#2)(F:Lam M g k' [] φ)(F':AS M cl g k' [] ψ)(hk:k'<=k)
  (hi:N[i]?=some x) (hx:pK ns x=true) (hp:cu x=true) (hj:N[j]?=some n) (hn:ns.lookup n=some .local) (hnp:cu n=true) (hl:N[l]?=some y) (hy:nO ns y=true) (Va:j≠l) (hW:dM ns W=true) (hWp:cu W=true) (hw:M.mg W=some (.ref w))
  (hm:∀S q S1,ψ [] S=some (q,S1)->zK M.K (.ref (cl q)) (.ref w)=some true):
  PS X (.Try [.Expr (.Call 13#5 [] [] p2) p3] [.ExceptHandler (some (.Name W p4)) (some n) [.Assign [.Name y p5] (.Name n p6) p7] p8] [] [] p9) (UQ cl M.K i j l g φ ψ):=by
 intro pins s σ H D I h;obtain⟨μ,S0,G,hr,er,G',Z1,h⟩:=h;obtain⟨v,X0,rv⟩:=er.get i _ G';have hv':v=.ref g:=by simpa only [RU]using rv
 subst hv';have hiN:X.N[i]?=some x:=by rw[S.hN];exact hi
 refine wpAny_Try_except (CJ (wpAny_Expr_any ?_ I.quiet rfl));rcases h with⟨u,S1,WR,kk⟩|⟨q,S1,Vq,kk⟩
 .obtain⟨fd,hf,hb,F⟩:=F.ex
  rw[<-S.hP,<-S.hw,<-S.hK,<-S.hm,<-S.hb]at F;rw[<-S.hb,<-S.hK]at hf;rw[<-S.hK]at hb;refine Mu I hiN (S.vis hx) hp X0 hf λs1 I1=>?_;refine thn (cf (uE (X:=X.nox) F 14#2 hb .nil xM (I1.wish _) .nil (show spM M.K φ ([]++[]) H (λ_ H'=>D.nx σ H') E0 from⟨μ,S0,[],u,S1,hr,.nil,WR,λY4 v H' p k Zs _=>kk Y4 σ H' p k Zs (er.mono k p)⟩)) (λ_ _ z=>z) λ_ _ z=>z.elim) λu s2 ⟨v,H2,I2,r2,q2⟩=>?_;exact jj (jj ⟨σ,H2,I2.unwish,q2⟩)
 .obtain⟨fd,hf,hb,F'⟩:=F'.ex
  rw[<-S.hP,<-S.hw,<-S.hK,<-S.hm,<-S.hb]at F';rw[<-S.hb,<-S.hK]at hf;rw[<-S.hK]at hb;have hM:=hm _ _ _ Vq;refine Mu I hiN (S.vis hx) hp X0 hf λs1 I1=>?_;have Zr:spX cl M.K ψ [] H 16#0 (λc _ H'=>c=.ref (cl q) /\ ∃Y4,Pre μ Y4/\bp H H'/\HR M.K Y4 S1 H'):=⟨μ,S0,[],q,S1,hr,.nil,Vq,λY4 H' p k Zs=>⟨rfl,Y4,p,k,Zs⟩⟩;refine JA (iK (F'.run X.A X.stack s1 H ⟨[],[]⟩ [] [] 16#0 _ 14#2 I1.env0 (hb s1 [] I1.kIn (by have:=F'.len _ _ _ _ Zr;simpa using this)) .nil Zr) λr s2 hq=>?_);cases r with
  | ok fl=>
    cases fl with
    |ret u=>obtain⟨_,_,_,_,_,_,_,z⟩:=hq;exact z.elim
    |next=>exact ck hq
    |brk=>exact ck hq
    |cont=>exact ck hq
  | error ev=>
    obtain⟨e,T,cls,H',rfl,os,hg,un,hok,t,he,hT,ne,nT,rfl,Y4,pr,kp,Zs⟩:=hq;have I2:Inv X pins σ H' s2:=I1.call' os un hok hg λb z=>nomatch z
    have fS:X.A.frames=some (X.env::X.outer):=by rw[I.ok.frames,stk]
    obtain⟨a0,fl⟩:=flying I2 t;rw[show o4 (cy s2.heap 16#7) X.stack e (.ref (cl q)) a0 s2.heap=o4 (cy s2.heap 16#7) (X.env::X.outer) e (.ref (cl q)) a0 s2.heap by rw[<-stk]]at fl;refine wpAny_looks_onW fS fr fl λh3 hd3 sl3=>wpAny_landsW hd3 λh4 fl4 sl4=>?_;have Wg:=sl3.trans sl4;have lf4:=yK I2 fl4.1 Wg;have I4:Inv X pins σ H' { s2 with heap:=h4 }:=I1.call' (s':={ s2 with heap:=h4 }) os (lf4.un un he hT) (lf4.hok hok I2.stkFree ne nT) hg λb z=>nomatch z
    refine wpAny_handleBy_cons (codeAny_handlers_test (kn (X:=Cx.mkd X (.ref e)) (Inv.mkd I4) (S.gl hW) (by show X.mg W=_;rw[S.hm];exact hw) ?_ (cU hWp).1)) 21#5;obtain⟨ob,hob,hobc⟩:=fl4.there;have kin:M.K.K.In h4:=by have:=I4.kIn;rw[S.hK]at this;exact this
    refine(PySem.W.exm_one (M:=model X.prog X.w) kin (hobc▸(rE hob).andThen .now) hM).here ?_;refine codeAny_handlers_suite_as (lands_againW (s:={ s2 with heap:=h4 }) fl4 λh6 fl6 sl6=>?_);have sl06:=Wg.trans sl6;have lf6:=yK I2 fl6.1 sl06;obtain⟨oe,e1,e2⟩:=fl6.there;have I6:Inv X pins σ (upd H' e (.frz oe fz)) { s2 with heap:=h6 }:=I1.call' (s':={ s2 with heap:=h6 }) os (Un.frz (lf6.un un he hT) he ne) (HOk.frz (lf6.hok hok I2.stkFree ne nT) ne e1) hg λb z=>nomatch z
    obtain⟨kp6,hr6⟩:=HR.frz (o:=oe) Zs ne;have ndN:X.N.Nodup:=by rw[S.hN];exact S.nd
    have Vv:X.N[j]?=some n:=by rw[S.hN];exact hj
    have hlN:X.N[l]?=some y:=by rw[S.hN];exact hl
    have WX:=S.loc n hn;refine nj I6 ndN Vv (.inl WX) (v:= .ref e) rfl (λs7 I7=>?_) (.inr WX);have hjl':j<σ.length:=by rw[I.len];exact(af.mp Vv).1
    have ps:=CM (BI (X:=Cx.mkd X (.ref e)) (i:=l) (pos:=p7) (pos':=p5) ndN hlN (S.lo hy).1 (wC (X:=Cx.mkd X (.ref e)) (i:=j) (pos:=p6) Vv (.inl WX) (cU hnp).1 (cU hnp).2) rfl (S.lo hy).2);refine cf (ps pins s7 _ _ { nx:=λY3 Xm=>Y3=(σ.set j (some (.ref e))).set l (some (.ref e))/\Xm=upd H' e (.frz oe fz),rt:=λ_ _=>False } (Inv.mkd I7) ⟨.ref e,aM hjl',rfl,rfl⟩) (λf s8 hs=>?_) λ_ _ z=>z.elim;cases f with
    |ret u=>obtain⟨_,_,_,_,_,z⟩:=hs;exact z.elim
    |brk=>obtain⟨_,_,_,z⟩:=hs;exact z.elim
    |cont=>obtain⟨_,_,_,z⟩:=hs;exact z.elim
    | next=>
      obtain⟨Y3,Xm,I8,rfl,rfl⟩:=hs;have I8':Inv X pins _ _ s8:=Inv.unmkd I8 I.ok.hd;refine GG I8' ndN Vv WX λs9 I9=>⟨_,_,I9,?_⟩;refine kk e oe Y4 _ _ pr (kp.trans kp6) hr6 ⟨by simp[er.len],λm u hu=>?_⟩ cx e2;have er6:=er.mono (kp.trans kp6) pr;have YS:l<σ.length:=by rw[I.len];exact(af.mp hlN).1
      by_cases Yz:m=l
      .subst Yz
       rw[aM (by rw[er.len];exact YS)]at hu;cases hu;refine⟨.ref e,?_,by simp only[RU]⟩;rw[aD Va,aM (by simpa using YS)]
      .rw[aD (dO Yz)]at hu
       have Vx:m≠j:=λz=>by rw[z,Z1]at hu;cases hu
       obtain⟨v,h1,h2⟩:=er6.get m u hu;refine⟨v,?_,h2⟩;rw[aD (dO Vx),aD (dO Yz),aD (dO Vx)];exact h1
end
def cn:List Str := ["TooMany","NotLevel","NoLift","NotPlain","NoName","BadNote","NoTwist"]
structure Aa(K:ao)(mg:Str->Option Value)(cl:Nat->Addr)(w:Addr)(rz:List Nat):Prop where
 c:∀j t,cn[j]?=some t->mg t=some (.ref (cl j))
 W:mg "WalkError"=some (.ref w)
 V:mg "ValueError"=none
 n :∀ j,j<7->cN K (.type "NoneType") (.ref (cl j))=some false
 nV:cN K (.type "NoneType") (.type "ValueError")=some false
 lt:∀q∈rz,q<7
 x:∀q∈rz,Jt K (cl q)=true
 m:∀q∈rz,zK K (.ref (cl q)) (.ref w)=some true
 k:∀q∈rz,∀j,j<7->cN K (.ref (cl q)) (.ref (cl j))=some (decide (q=j))
 kV :∀ q∈rz,cN K (.ref (cl q)) (.type "ValueError")=some true
def mIs(u:U)(b:Bool):ME:=λG S=>open Classical in if G[1]?=some (some u) then some (.bl b,S) else none
def PP(L a b c:Nat):Pos:=⟨L+a,b,L+a,c⟩
def isi(L a b:Nat)(t:Str)(n:Nat):Expr := .Call (.Name "isinstance" (PP L a b (b+10))) [.Name "error" (PP L a (b+11) (b+16)),.Name t (PP L a (b+18) (b+18+n))] [] (PP L a b (b+19+n))
def BK(K:KX)(u:U)(t:Value):Prop:=(u=.non/\t=.type "NoneType") \/ ∃ e oe C,u=.obj e/\t=.ref C/\(e,oe)∈K.cds/\oe.cls=.ref C/\Jt K.K C=true
section
variable {M:Mo}{X:Cx}{k:Nat}{N:List Str}{ns:List (Str×NameKind)}
variable{b:Bool}
theorem Oh{pins:List (Addr×Obj)}{σ:St}{H:Hp}{s:Shared}{E:Value->Shared->Prop}{u:U}{t c:Value}{v:V}{x:Value}{Q:VK}{μ:List Addr}{S:Sto}(I:Inv X pins σ H s)(hK:X.K=M.K.K)(hr:HR M.K μ S H)(ok:BK M.K u t)(ru:RU H μ u v)(rv:RelV v x)(e:cN M.K t c=some b)(q:Q (.bl b) H):
  aT 1#8 X.A (call (.builtin "isinstance") [x,c]) 9#2 E s:=by
 have kin:M.K.K.In s.heap:=by rw[<-hK];exact I.kIn
 rcases ok with⟨rfl,rfl⟩|⟨ea,oe,C,rfl,rfl,hm,hc,hB⟩
 .have hv:v=.non:=by simpa only [RU]using ru
  subst hv;obtain rfl:x=lL:=rv;exact cY JF kin trivial e 21#5 λtk=>⟨.bl b,H,I.tok tk,rfl,q⟩
 .have hv:v=.ref ea:=by simpa only [RU]using ru
  subst hv;obtain rfl:x=bw ea:=rv;exact cY (GD hB) kin ⟨oe,(I.hok ea _ (hr.ext.cds _ hm)).1,hc⟩ e 21#5 λtk=>⟨.bl b,H,I.tok tk,rfl,q⟩
theorem Nh{u:U}{t c:Value}{L a bb n:Nat}{y:Str}(S:Sc M X k N ns)(ok:BK M.K u t)(h1:N[1]?=some ("error":Str))(hv:pK ns "error"=true)(hg:dM ns "isinstance"=true)(hm:M.mg "isinstance"=none)(hy:dM ns y=true)(hp:cu y=true)
  (hc:M.mg y=some c\/(M.mg y=none/\bootBuiltins y=some c/\y≠"__name__")) (e:cN M.K t c=some b):PE X (isi L a bb y n) (tM M.K (mIs u b)):=by
 rintro pins s σ H Q I ⟨μ,S0,G,w,S',hr,er,q,aft⟩;unfold mIs at q
 split at q
 rotate_left
 .cases q
 rename_i G'
 cases q;obtain⟨v,X0,ru⟩:=er.get 1 _ G';have h1N:X.N[1]?=some ("error":Str):=by rw [S.hN];exact h1
 unfold isi;refine dP (kX I 5#4 6#7 boot_isinstance ?_ 0#1 0#1);refine callWith_builtin1 ?_ rfl rfl;refine d7 (thn (wC (X:=X) h1N (S.vis hv) 1#4 1#4 pins s σ H (λv' H1=>v'=v/\H1=H) I ⟨_,X0,rfl,rfl⟩) λx s1 ⟨v',H1,I1,r1,e1,e2⟩=>?_);subst e1;subst e2;have fin:aT 1#8 X.A (call (.builtin "isinstance") [x,c]) 9#2 X.xe s1:=Oh I1 S.hK hr ok ru r1 e (aft μ _ H1 2#4 9#7 hr jC);rcases hc with hc|⟨hc,hb,hn⟩
 .exact d7 (kn I1 (S.gl hy) (by rw[S.hm];exact hc) (gE fin) (cU hp).1)
 .exact d7 (kX I1 (S.gl hy) (by rw[S.hm];exact hc) hb (gE fin) hn (cU hp).1)
end
def og(L:Nat)(z:Stmt):List Stmt:= [
 .Assign [.Name "error" (PP L 1 4 9)] (.Constant .none 0 (PP L 1 12 16)) (PP L 1 4 16),
 .Try [.Expr (.Call (.Name "call" (PP L 3 8 12)) [] [] (PP L 3 8 14)) (PP L 3 8 14)] [.ExceptHandler (some (.Name "WalkError" (PP L 4 11 20))) (some "e") [.Assign [.Name "error" (PP L 5 8 13)] (.Name "e" (PP L 5 16 17)) (PP L 5 8 17)] ⟨L+4,4,L+5,17⟩] [] [] ⟨L+2,4,L+5,17⟩,
 .Assign [.Name "kinds" (PP L 6 4 9)] (.List [isi L 6 13 "TooMany" 7,isi L 6 41 "NotLevel" 8,isi L 6 70 "NoLift" 6] (PP L 6 12 96)) (PP L 6 4 96),
 .Assign [.Name "kinds" (PP L 7 4 9)] (.BinOp (.Name "kinds" (PP L 7 12 17)) .Add (.List [isi L 7 21 "NotPlain" 8,isi L 7 50 "NoName" 6,isi L 7 77 "BadNote" 7] (PP L 7 20 104)) (PP L 7 12 104)) (PP L 7 4 104),
 .Expr (.Call (.Attribute (.Name "kinds" (PP L 8 4 9)) "append" (PP L 8 4 16)) [isi L 8 17 "NoTwist" 7] [] (PP L 8 4 44)) (PP L 8 4 44),
 .If (.UnaryOp .Not (isi L 9 11 "ValueError" 10) (PP L 9 7 40)) [.Return (some (.Constant .none 0 (PP L 10 15 19))) (PP L 10 8 19)] [] ⟨L+9,4,L+10,19⟩,
 z]
def mzR:MS:=b9 (bL (iR1 (aa (mC (.int 7)) ag)) (cOf (m2 oIx 0#8 1#3)) 1#3)
def tlR(u:U)(b:Nat->Bool):MS:=
 aR (bq 3 (bA (aa (mIs u (b 0)) (aa (mIs u (b 1)) (aa (mIs u (b 2)) ag)))))
 (aR (bq 3 (m2 bN 0#8 (bA 28#1)))
 (aR (di (mML bJ 0#8 (aa (mIs u (b 6)) ag)))
 (aR (sIf (kj (cOf (mIs u (b 7)))) (b9 (mC .non)) cM) mzR)))
def yc(ns:NS):Bool:=nO ns "error"&&nO ns "kinds"&&pK ns "call"&&ns.lookup ("e":Str)==some .local&&dM ns "isinstance"&&dM ns "ValueError"&&dM ns "WalkError"&&cn.all (dM ns)
def tW:List Str := ["call","error","e","kinds"]
theorem zv{ns:NS}{x:Str}(h:nO ns x=true):pK ns x=true:=by
 unfold nO at h;unfold pK
 split at h<;>rename_i e<;>first | (cases h;done) |rw[e]
section
variable {M:Mo}{X:Cx}{k:Nat}{ns:List (Str×NameKind)}
theorem Dj{u:U}{t:Value}{b:Nat->Bool}{c:Nat->Value}{L:Nat}{z:Stmt}{cl:Nat->Addr}{w:Addr}{rz:List Nat}(S:Sc M X k tW ns)(YH:yc ns=true)(B :∀ x∈jg,M.mg x=none)(Rk:Aa M.K.K M.mg cl w rz)(ok:BK M.K u t)(hb :∀ j,j<7->cN M.K t (.ref (cl j))=some (b j))(hV:cN M.K t (.type "ValueError")=some (b 7))
  (hz:PS X z (tMS M.K mzR)):PSs X ((og L z).drop 2) (tMS M.K (tlR u b)):=by
 unfold yc at YH;simp only[av,bH]at YH;obtain⟨⟨⟨⟨⟨⟨⟨h1,h2⟩,h3⟩,h4⟩,h5⟩,h6⟩,h7⟩,h8⟩:=YH;have hiB:M.mg "isinstance"=none:=B _ 1#4;have is:∀(j a bb n:Nat) (y:Str),cn[j]?=some y->PE X (isi L a bb y n) (tM M.K (mIs u (b j))):=λj a bb n y hj=>by
  have ZV:j<7:=(af.mp hj).1;have hm:y∈cn:=bu hj;have hp:cu y=true:=by
   have:∀y∈cn,cu y=true:=by decide +kernel
   exact this y hm
  exact Nh S ok rfl (zv h1) h5 hiB (h8 y hm) hp (.inl (Rk.c j y hj)) (hb j ZV)
 have kv :∀ pos,PE X (.Name "kinds" pos) (tM M.K 0#8):=fun pos=>Mm S 3 rfl (zv h2) 1#4 1#4;refine AC (A9 S 3 rfl h2 (IV (nq (is 0 _ _ _ _ rfl) (nq (is 1 _ _ _ _ rfl) (nq (is 2 _ _ _ _ rfl) DP))))) ?_;refine AC (A9 S 3 rfl h2 (Mi S (kv _) (IV (nq (is 3 _ _ _ _ rfl) (nq (is 4 _ _ _ _ rfl) (nq (is 5 _ _ _ _ rfl) DP)))))) ?_;refine AC (Jp (zZ S (kv _) (nq (is 6 _ _ _ _ rfl) DP) rfl rfl (by show((L+8)==(L+8))=true;simp) rfl rfl)) ?_;refine AC (Sk (M3 (Mw (Nh S ok rfl (zv h1) h5 hiB h6 1#4 (.inr ⟨Rk.V,by decide +kernel,by decide +kernel⟩) hV))) (Gy (MH Jv)) Ni) (Gy hz)
end
variable{u:U}{S:Sto}
theorem Cm{b:Bool}{G:Rho}(h:G[1]?=some (some u)):mIs u b G S=some (.bl b,S):=by
 unfold mIs;rw[if_pos h]
variable{x y:Option U}{b:Nat->Bool}
theorem DC:tlR u b [x,some u,y,none] S =
  (aR (sIf (kj (cOf (mIs u (b 7)))) (b9 (mC .non)) cM) mzR) 12#5 (S++iy b):=by
 have i0:∀(v:Option U) (c:Bool) (S:Sto),mIs u c [x,some u,y,v] S=some (.bl c,S):=λv c S=>Cm rfl;have e1:bq 3 (bA (aa (mIs u (b 0)) (aa (mIs u (b 1)) (aa (mIs u (b 2)) ag)))) [x,some u,y,none] S=some (.nx,[x,some u,y,2#2],S++[kL b [0,1,2]]):=by
  simp only[bq,bA,aa,ag,i0,aw];rw[if_pos (by simp[big])];rfl
 have g1:(S++[kL b [0,1,2],kL b [3,4,5]])[0#3]?=some (kL b [0,1,2]):=by simp
 have g2:(S++[kL b [0,1,2],kL b [3,4,5]])[0#3+1]?=some (kL b [3,4,5]):=by rw[aq 0#2];simp
 have e2:bq 3 (m2 bN 0#8 (bA 28#1)) [x,some u,y,2#2] (S++[kL b [0,1,2]])=some (.nx,12#5,S++19#5):=by
  have a0:bA 28#1 [x,some u,y,2#2] (S++[kL b [0,1,2]])=some (.ref (0#3+1),S++[kL b [0,1,2],kL b [3,4,5]]):=by
   simp only[bA,aa,ag,i0,aw];rw[if_pos (by simp[big])];simp[kL]
  have v0:∀S',ae 3 [x,some u,y,2#2] S'=some 14#6:=λS'=>rfl;have a1:bN (.ref 0#3) 6#2 (S++[kL b [0,1,2],kL b [3,4,5]])=some (.ref (0#3+2),S++19#5):=by
   unfold bN;simp only[g1,g2];simp only[kL];rw[if_pos (by simp[big])];simp
  simp only[bq,m2,v0,aw,a0,a1];rfl
 have g3:(S++19#5)[0#3+2]?=some (kL b [0,1,2,3,4,5]):=by rw[aq 0#2];simp
 have e3:di (mML bJ 0#8 (aa (mIs u (b 6)) ag)) 12#5 (S++19#5)=some (.nx,12#5,S++iy b):=by
  have v0:∀S',ae 3 12#5 S'=some (.ref (0#3+2),S'):=λS'=>rfl;have gl:getL (S++19#5) (0#3+2)=some ([0,1,2,3,4,5].map λi=>.bl (b i)):=by
   unfold getL;rw[g3];rfl
  have a1:bJ (0#3+2) [.bl (b 6)] (S++19#5)=some (.non,S++iy b):=by
   unfold bJ;simp only[g3];simp only[kL];rw[if_pos (by simp[big])];rw[dE _ _ 0#2];have:0#3+2-0#3=2:=by omega
   rw[this];rfl
  simp only[di,mML,v0,aw,gl,ah,aa,ag,i0,a1]
 unfold tlR;rw[show ∀(a b:MS) (G:Rho) (S:Sto),aR a b G S=28#7 from λ_ _ _ _=>rfl,e1];simp only[];rw[show ∀(a b:MS) (G:Rho) (S:Sto),aR a b G S=28#7 from λ_ _ _ _=>rfl,e2];simp only[];rw[show ∀(a b:MS) (G:Rho) (S:Sto),aR a b G S=28#7 from λ_ _ _ _=>rfl,e3]
theorem Ky(hb:b 7=false):tlR u b [x,some u,y,none] S=some (.rt .non,12#5,S++iy b):=by
 rw[DC];simp only[aR,sIf,kj,cOf,Cm (show([x,some u,y,some (.ref (S.length+2))]:Rho)[1]?=some (some u) from rfl),aw,hb];rfl
theorem Um:okR 7:=by unfold okR;omega
theorem Ka{q:Nat}(hq:q<7):∃Y1,tlR u (bQ q) [x,some u,y,none] S=some (.rt (.ref (0#3+3)),Y1,S++(iy (bQ q)++[.lst [.int q]])):=by
 rw[DC];have h7:bQ q 7=true:=by unfold bQ;simp
 simp only[aR,sIf,kj,cOf,Cm (show([x,some u,y,some (.ref (S.length+2))]:Rho)[1]?=some (some u) from rfl),aw,h7,Bool.not_true,fU,if_false,cM];refine⟨12#5,?_⟩;unfold mzR b9 bL;have hi:iR1 (aa (mC (.int 7)) ag) 12#5 (S++iy (bQ q))=some (.imm (bj 0 7),S++iy (bQ q)):=by
  simp only[iR1,aa,mC,ag,aw];rw[if_pos Um];rfl
 have g3:(S++iy (bQ q))[0#3+2]?=some (kL (bQ q) [0,1,2,3,4,5,6]):=by rw[aq 0#2];simp[iy]
 have gi:∀i:Nat,i<7->cOf (m2 oIx 0#8 1#3) 22#6 (S++iy (bQ q))=some (bQ q i,S++iy (bQ q)):=λi hi=>by
  have v3:∀S',ae 3 22#6 S'=some (.ref (0#3+2),S'):=λS'=>rfl;have v4:∀S',ae 4 22#6 S'=some (.int i,S'):=λS'=>rfl;have d0:eW (S++iy (bQ q)) (.ref (0#3+2))=none:=by
   simp only[eW,g3,kL]
  have s0:dZ (S++iy (bQ q)) (.ref (0#3+2))=some ([0,1,2,3,4,5,6].map λi=>.bl (bQ q i)):=by
   simp only[dZ,getL,g3,kL]
  have a0:_L.atI ([0,1,2,3,4,5,6].map λi=>U.bl (bQ q i)) (i:Int)=some (.bl (bQ q i)):=by
   have:i=0\/i=1\/i=2\/i=3\/i=4\/i=5\/i=6:=by omega
   rcases this with rfl|rfl|rfl|rfl|rfl|rfl|rfl<;>rfl
  simp only[cOf,m2,v3,v4,aw,oIx,d0,s0,ah,a0,aN]
 have v4:∀(i:Nat) S',ae 4 22#6 S'=some (.int i,S'):=λi S'=>rfl;have key:∀(is:List Nat) (acc:List U),(∀i∈is,i<7)->gz (cOf (m2 oIx 0#8 1#3)) 1#3 12#5 (is.map λ(i:Nat)=>.int i) acc (S++iy (bQ q))=some (acc++(is.filter (bQ q)).map (λ(i:Nat)=>.int i),S++iy (bQ q)):=by
  intro is
  induction is with
  |nil=>intro acc _;simp[gz]
  | cons i is ih=>
    intro acc h;have hi:=h i bc;have ih':=λacc=>ih acc λj hj=>h j (aE _ hj);rw[bz];unfold gz;rw[show(12#5:Rho)++[some 3#0]=22#6 from rfl,gi i hi];simp only[aw];cases hb:bQ q i with
    | true=>
      rw[if_pos rfl,v4];simp only[aw];rw[ih'];simp[hb]
    | false=>
      rw[if_neg 0#6,ih'];simp[hb]
 have hr:bj 0 7=([0,1,2,3,4,5,6]:List Nat).map λ(i:Nat)=>.int i:=rfl;have hf:([0,1,2,3,4,5,6]:List Nat).filter (bQ q)=[q]:=by
  have:q=0\/q=1\/q=2\/q=3\/q=4\/q=5\/q=6:=by omega
  rcases this with rfl|rfl|rfl|rfl|rfl|rfl|rfl<;>decide
 have hc:vW (cOf (m2 oIx 0#8 1#3)) 1#3 12#5 (.imm (bj 0 7)) (S++iy (bQ q))=some ([.int q],S++iy (bQ q)):=by
  unfold vW;simp only[hr,key _ _ (show ∀i∈([0,1,2,3,4,5,6]:List Nat),i<7 by decide),hf];rfl
 simp only[hi,aw,hc];rw[if_pos (by simp[big])];simp[iy];rfl
section
variable {M:Mo}{cl:Nat->Addr}{T:Tb}{k fu L:Nat}{h:Heap}{x:Str}{st z:Stmt}{w:Addr}{rz:List Nat}
theorem Def.fnRef(O :∀ caps capv cds base,fQ M.mg base->TOk 9#0 T k)(h1:T.mkr=false)(X:M.K.K.In h)(Gn:h.Ns mainGlobals M.mg)(D:Def M.K x st)(S:a8 tW ["call"] (aC st))(hb:Bd x st ["call"])
  (YH:yc (aC st).names=true) (Zw:cp st=og L z) (hz:cS T fu tW (aC st).names z=some mzR) (Rk:Aa M.K.K M.mg cl w rz):FnR M cl x k rz:=by
 obtain⟨f,fd,a,F⟩:=D.ex;refine⟨f,fd,dq X Gn a,F.2,F.binds hb,λcaps capv cds base g j φ ψ Zg hkj lam W'=>?_⟩;have len:∀vs H Q E,spM 12#9 (EN rz g φ ψ) vs H Q E->3#7=1:=λvs H Q E hh=>by
  obtain⟨μ,S',us,u,Zh,hr,rs,e,_⟩:=hh;unfold EN at e
  split at e
  .rw[<-rs.len];rfl
  .cases e
 have lx:AS 9#0 cl g j [] λus S=>(ψ us S).filter λr=>decide (r.1∈rz):=W'.imp λus S q hq=>(lR.mp hq).1;have WZ:=YH;unfold yc at WZ;simp only[av]at WZ;obtain⟨⟨⟨⟨⟨⟨⟨n1,n2⟩,n3⟩,n4⟩,n5⟩,n6⟩,n7⟩,n8⟩:=WZ;refine Fun.ok (K:=M.K.K) F S (λvs H Q E hh=>len vs H Q E hh) λcdv A outer s H vs Q E hr hh=>?_;have S0:∀YN,Sc (M.to caps capv YN base) (vG CX0 M.P M.w M.K M.mg base tW x (aC st) f cdv A outer s H E).nox j tW (aC st).names:=λYN=>Sc.def (M:=M.to caps capv YN base) S hr λc q z=>nomatch z
 have hzz:∀YN,PS (vG CX0 M.P M.w M.K M.mg base tW x (aC st) f cdv A outer s H E).nox z (tMS (M.K.to caps capv YN) mzR):=λYN=>(snd fu (M.to caps capv YN base) T j (.of ((O caps capv YN base Zg).mono hkj) h1)).s _ _ _ _ hz _ (S0 YN);have B:∀y∈jg,M.mg y=none:=λy hy=>(O caps capv cds base Zg).B y hy;have hf :∀ j',j'<7->cN M.K.K (.type "NoneType") (.ref (cl j'))=some ((fun _=>false) j'):=fun j' hj=>Rk.n j' hj;have ptl:=Dj (M:=M.to caps capv cds base) (L:=L) (z:=z) (c:=λ_=>.none) (S0 cds) YH B Rk (u:= .non) (.inl ⟨rfl,rfl⟩) hf Rk.nV (hzz cds);have ptx:∀e oe q,q∈rz->oe.cls=.ref (cl q)->PSs (vG CX0 M.P M.w M.K M.mg base tW x (aC st) f cdv A outer s H E).nox ((og L z).drop 2) (tMS (M.K.to caps capv (cds++[(e,oe)])) (tlR (.obj e) (bQ q))):=λe oe q hq hc=>by
  refine Dj (M:=M.to caps capv (cds++[(e,oe)]) base) (L:=L) (z:=z) (c:=λ_=>.none) (S0 _) YH B Rk (.inr ⟨e,oe,cl q,rfl,rfl,aW _ bc,hc,Rk.x q hq⟩) (λj' hj=>?_) ?_ (hzz _)
  .rw[show bQ q j'=decide (q=j') by unfold bQ;rw[show decide (j'=7)=false from decide_eq_false 0#2];simp]
   exact Rk.k q hq j' hj
  .rw[show bQ q 7=true by unfold bQ;simp]
   exact Rk.kV q hq
 have pT:=Oe (M:=M.to caps capv cds base) (cl:=cl) (S0 cds) rfl rfl lam lx (ak j) (i:=0) (x:="call") (j:=2) (n:="e") (l:=1) (y:="error") (W:="WalkError") (w:=w) (p1:=PP L 3 8 12) (p2:=PP L 3 8 14) (p3:=PP L 3 8 14) (p4:=PP L 4 11 20) (p5:=PP L 5 8 13) (p6:=PP L 5 16 17) (p7:=PP L 5 8 17) (p8:=⟨L+4,4,L+5,17⟩) (p9:=⟨L+2,4,L+5,17⟩)
  rfl n3 1#4 rfl (eq_of_beq n4) 1#4 rfl n1 0#1 n7 1#4 Rk.W λS q S1 hq=>by
   obtain⟨_,h2⟩:=lR.mp hq;exact Rk.m q (of_decide_eq_true h2)
 have pS:=A9 (M:=M.to caps capv cds base) (p1:=PP L 1 4 9) (pos:=PP L 1 4 16) (S0 cds) 1 rfl n1 (Jv (M:=M.to caps capv cds base) (j:=0) (pos:=PP L 1 12 16)) rfl
 let tT:TS:=λD σ H=>tMS 12#9 (tlR .non λ_=>false) D σ H \/ ∃e oe q,q∈rz/\oe.cls=.ref (cl q)/\tMS (M.K.to caps capv (cds++[(e,oe)])) (tlR (.obj e) (bQ q)) D σ H
 have pTl:PSs (vG CX0 M.P M.w M.K M.mg base tW x (aC st) f cdv A outer s H E).nox ((og L z).drop 2) tT:=λpins s σ H D I q=>by
  rcases q with q|⟨e,oe,q',hq,hc,q⟩
  .exact ptl pins s σ H D I q
  .exact ptx e oe q' hq hc pins s σ H D I q
 rw[Zw];refine⟨_,m7 pS (m7 pT pTl),?_⟩;obtain⟨μ,S1,us,u,S2,hR,rs,e,ka⟩:=hh;unfold EN at e
 split at e
 rotate_left
 .cases e
 rename_i a'
 split at e
 rotate_left
 .cases e
 rename_i ha
 subst ha;have er:=nU (N:=tW) rs;refine⟨μ,S1,_,_,hR,er,rfl,λY0 Y6 H1 p1 k1 Z' ZT=>?_⟩;refine⟨Y0,S1,_,Z',ZT,rfl,rfl,?_⟩;unfold Fj at e
 split at e
 .rename_i r WR
  cases e;refine .inl ⟨r.1,r.2,WR,λY5 Y7 H2 p2 k2 ZX Zd=>.inl ⟨Y5,r.2,_,_,ZX,Zd,Ky rfl,?_⟩⟩;exact ka.mono 10#1 10#9
 .split at e
  rotate_left
  .cases e
  rename_i r Vq
  split at e
  rotate_left
  .cases e
  rename_i hq
  cases e;refine .inr ⟨r.1,r.2,lR.mpr ⟨Vq,decide_eq_true hq⟩,λe oe Y5 Y7 H2 p2 k2 ZX Zd hfz Yx=>.inr ⟨e,oe,r.1,hq,Yx,?_⟩⟩;obtain⟨Y1,hv⟩:=Ka (x:=some (.obj a')) (y:=none) (S:=r.2) (u:= .obj e) (Rk.lt _ hq);refine⟨Y5,r.2,_,_,⟨ZX.len,ZX.inj,ZX.cell,ZX.ext.cap,λc hc=>?_,ZX.ext.tab⟩,Zd,hv,λY' v3 H3 p3 k3 ZF ru3=>?_⟩
  .rcases aY.mp hc with z|z
   .exact ZX.ext.cds c z
   .have e':c=(e,oe):=by simpa using z
    rw[e'];exact hfz
  .exact ka Y' v3 H3 ((p1.trans p2).trans p3) ((k1.trans k2).trans k3) ⟨ZF.len,ZF.inj,ZF.cell,ZF.ext.cap,λc hc=>ZF.ext.cds c (a9 _ hc),ZF.ext.tab⟩ ru3
end
end _G
namespace _G
open PySem PySem.Spec _L
section
variable {P:Program}{w:World}{K:ao}{mg:Str->Option Value}{tabs:List (Addr×Str)}{T:Tb}{k j:Nat}{h:Heap}{x:Str}{st z:Stmt}{N ps:List Str}{r:MX}{fu n L:Nat}{wA:Addr}{rz:List Nat}
theorem Ch.raise(c:Ch P w K mg tabs T k)(Cl:List (Str×Nat))(h1:T.mkr=false)(hC:∀y i,Cl.lookup y=some i->mg y=some (.ref (T.Z.cl i))/\exB K (T.Z.cl i)=true)(X:K.In h)(Gn:h.Ns mainGlobals mg)(D:Def K x st)(S:a8 N ps (aC st))(hb:Bd x st ps)
  (hc:(xc fu n).b T ⟨T.Z.R,Cl⟩ N (aC st).names (cp st)=some r):Ch P w K mg tabs ⟨T.D,T.C,T.L,T.H,T.mkr,⟨(x,y6 ps.length N.length r)::T.Z.R,T.Z.F,T.Z.cl,T.Z.nm⟩⟩ (k+1):=
 ⟨λa b d e f=>by
  have O:=c.o a b d e f;have F:=D.fnX (M:=⟨P,w,⟨K,a,b,d,tabs⟩,mg,e,none⟩) (cl:=T.Z.cl) (T:=T) (Z:=⟨T.Z.R,Cl⟩) ⟨.of O h1,O.Z,hC⟩ rfl X Gn S hb hc;have Om:=O.mono (cX k);refine⟨Om.D,Om.C,Om.B,Om.L,Om.mkr,λy r' hy=>?_⟩;rw[bG]at hy;cases q:y==x with
  |true=>rw[q]at hy;cases hy;rw[eq_of_beq q];exact⟨k+1,ps,ak _,F⟩
  | false=>rw[q]at hy;exact Om.Z y r' hy,λa b d e f=>qY (c.h a b d e f) (cX k),λa b d e f=>uk (c.r a b d e f) (cX k)⟩
theorem Ch.refd(c:Ch P w K mg tabs T k)(h1:T.mkr=false)(X:K.In h)(Gn:h.Ns mainGlobals mg)(D:Def K x st)(S:a8 tW ["call"] (aC st))(hb:Bd x st ["call"])(YH:yc (aC st).names=true)(Zw:cp st=og L z)(hz:cS T fu tW (aC st).names z=some mzR)(Rk:Aa K mg T.Z.cl wA rz) :
  Ch P w K mg tabs ⟨T.D,T.C,T.L,T.H,T.mkr,⟨T.Z.R,(x,rz)::T.Z.F,T.Z.cl,T.Z.nm⟩⟩ k:=
 ⟨λa b d e f=>let O:=c.o a b d e f;⟨O.D,O.C,O.B,O.L,O.mkr,O.Z⟩,c.h,λa b d e f y rz' hy=>by
  rw[bG]at hy;cases q:y==x with
  |true=>rw[q]at hy;cases hy;rw[eq_of_beq q];exact⟨k,ak _,D.fnRef (M:=⟨P,w,⟨K,a,b,d,tabs⟩,mg,e,none⟩) c.o h1 X Gn S hb YH Zw hz Rk⟩
  | false=>rw[q]at hy;exact c.r a b d e f y rz' hy⟩
end
def clR(rz:List Nat):List (Str×Nat):=rz.map fun q=>(cn.getD q (xy ""),q)
def NJ(K:ao)(cs:List Addr)(w:Addr)(rz:List Nat):Bool:=
 bD K mainGlobals "ValueError" == some none&&(aA 7).all (fun j=>cN K (.type "NoneType") (.ref (cs.getD j 0))==some false)&&cN K (.type "NoneType") (.type "ValueError")==some false &&
 rz.all λq=>decide (q<7)&&Jt K (cs.getD q 0)&&zK K (.ref (cs.getD q 0)) (.ref w)==some true&&(aA 7).all (λj=>cN K (.ref (cs.getD q 0)) (.ref (cs.getD j 0))==some (decide (q=j))) &&
  cN K (.ref (cs.getD q 0)) (.type "ValueError")==some true&&exB K (cs.getD q 0)
section
variable {K:ao}{h:Heap}{mg:Str->Option Value}{c0 c1 c2 c3 c4 c5 c6 w:Addr}{rz:List Nat}
theorem Qp(X:K.In h)(Gn:h.Ns mainGlobals mg)(n0:bD K mainGlobals "TooMany"=some (some (.ref c0)))(n1:bD K mainGlobals "NotLevel"=some (some (.ref c1)))(n2:bD K mainGlobals "NoLift"=some (some (.ref c2)))(n3:bD K mainGlobals "NotPlain"=some (some (.ref c3)))
  (n4:bD K mainGlobals "NoName"=some (some (.ref c4))) (n5:bD K mainGlobals "BadNote"=some (some (.ref c5))) (n6:bD K mainGlobals "NoTwist"=some (some (.ref c6))) (nw:bD K mainGlobals "WalkError"=some (some (.ref w)))
  (hb:NJ K [c0,c1,c2,c3,c4,c5,c6] w rz=true):Aa K mg (λj=>[c0,c1,c2,c3,c4,c5,c6].getD j 0) w rz /\ ∀y i,(clR rz).lookup y=some i->mg y=some (.ref ([c0,c1,c2,c3,c4,c5,c6].getD i 0))/\exB K ([c0,c1,c2,c3,c4,c5,c6].getD i 0)=true:=by
 unfold NJ at hb;simp only[av,bH,beq_iff_eq,decide_eq_true_eq,cq]at hb;obtain⟨⟨⟨b1,b2⟩,b3⟩,b4⟩:=hb;have hc:∀j t,cn[j]?=some t->mg t=some (.ref ([c0,c1,c2,c3,c4,c5,c6].getD j 0)):=λj t hj=>by
  have hl:j<7:=(af.mp hj).1;have:j=0\/j=1\/j=2\/j=3\/j=4\/j=5\/j=6:=by omega
  rcases this with rfl|rfl|rfl|rfl|rfl|rfl|rfl<;>cases hj
  .exact dq X Gn n0
  .exact dq X Gn n1
  .exact dq X Gn n2
  .exact dq X Gn n3
  .exact dq X Gn n4
  .exact dq X Gn n5
  .exact dq X Gn n6
 refine⟨⟨hc,dq X Gn nw,JE X Gn b1,b2,b3,λq hq=>(b4 q hq).1.1.1.1.1,λq hq=>(b4 q hq).1.1.1.1.2,λq hq=>(b4 q hq).1.1.1.2,λq hq=>(b4 q hq).1.1.2,λq hq=>(b4 q hq).1.2⟩,λy i hy=>?_⟩;have hm:=mem_of_lookup hy;unfold clR at hm;obtain⟨q,hq,e⟩:=aU.mp hm;cases e;refine⟨hc i _ ?_,(b4 i hq).2⟩;have hl:i<cn.length:=(b4 i hq).1.1.1.1.1;rw[bF,aI hl];rfl
end
def Tb.dd(T:Tb)(x:Str)(f:MF):Tb:=⟨(x,f)::T.D,T.C,[],T.H,false,T.Z⟩
def Tb.hh(T:Tb)(x:Str)(F:Addr->MF->MF):Tb:=⟨T.D,T.C,[],(x,F)::T.H,false,T.Z⟩
def Tb.xx(T:Tb)(x:Str)(f:MF)(r:RF):Tb:=⟨(x,f)::T.D,T.C,[],T.H,false,⟨(x,r)::T.Z.R,T.Z.F,T.Z.cl,T.Z.nm⟩⟩
def Tb.qq(T:Tb)(x:Str)(rz:List Nat):Tb:=⟨T.D,T.C,[],T.H,false,⟨T.Z.R,(x,rz)::T.Z.F,T.Z.cl,T.Z.nm⟩⟩
abbrev cD(T:Tb)(N:List Str)(st:Stmt):Option MS:=cB T 80 N (aC st).names (cp st)
def fsB(N P:List Str)(sc:Scope):Bool:=sc.kind==.function && !sc.isCoroutine && !sc.isGenerator&&decide N.Nodup&&N.take P.length==P&&P.all (λx=>sc.names.lookup x==some .local||sc.names.lookup x==some .cell)&&sc.names.all λy=>!(y.2==.free)
theorem dr{N P:List Str}{sc:Scope}(h:fsB N P sc=true):a8 N P sc:=by
 unfold fsB at h;simp only[av]at h;obtain⟨⟨⟨⟨⟨⟨h1,h2⟩,h3⟩,h4⟩,h5⟩,h6⟩,h7⟩:=h;refine⟨eq_of_beq h1,by simpa using h2,by simpa using h3,of_decide_eq_true h4,eq_of_beq h5,λx hx=>?_,λy hy z=>?_⟩
 .have:=bH.mp h6 x hx
  rw[pX]at this;exact this.imp eq_of_beq eq_of_beq
 .have:=bH.mp h7 y hy
  rw[z]at this;cases this
def Qm(K:ao):List (Str×Stmt)->Prop
 |[]=>True
 |p::r=>Def K p.1 p.2/\Qm K r
end _G
namespace _W
open PySem PySem.Spec _L _G
def gO:MS:=aR (sIf (cOf (m2 oLt 1#0 7#5)) (b9 (m2 oIx 0#4 1#0)) cM) (b9 1#9)
def ja:MF:=run 2 2 gO
def kG:MS:=aR (bq 2 (mFn ja 5#6)) (aR (sIf (cOf (m2 oGe 0#5 (m2 uC (mC (.int 10)) (mC (.int 18))))) (b9 (bA (aa (m2 oB 0#5 (m2 uC (mC (.int 10)) (mC (.int 18)))) (aa 7#4 ag)))) cM) (b9 (bA (aa (m2 oMod 0#5 (mC (.int 2147483647))) (aa 14#1 ag)))))
def nz:MF:=run 2 3 kG
def mm:MS:=aR (sIf (cOf (m2 oIx 0#4 1#7)) (aR (bq 2 (m2 oMod (m2 oIx 0#4 1#9) 1#0)) (aR (eI 0#4 1#9 (m2 oDiv (m2 oIx 0#4 1#9) 1#0)) (b9 0#5))) cM) (aR (eI 0#4 1#9 (m2 oMod (m2 bN (m2 fW (m2 oIx 0#4 1#9) (mC (.int 48271))) (mC (.int 29))) (mC (.int 2147483647)))) (aR (bq 3 (m2 oMod (m2 bN (m2 bN (m2 fW (m2 oIx 0#4 1#9) (m2 oIx 0#4 1#9)) (m2 fW (mC (.int 39373)) (m2 oIx 0#4 1#9))) (mC (.int 7))) (mC (.int 2147483629)))) (aR (bq 3 (m2 oMod (m2 bN (m2 fW 0#8 0#8) (m2 fW (mC (.int 16807)) 0#8)) (mC (.int 2147483587)))) (b9 (m2 oMod (m2 oDiv 0#8 (mC (.int 8))) 1#0)))))
def aO:MF:=run 2 4 mm
def nu:MS:=b9 (mFn bC (aa (bL (iR1 5#2) cTT (mFn bC (aa (bL (iR1 5#2) cTT (m2 oMod (m2 bN 1#0 0#5) 0#4)) ag))) ag))
def dw:MF:=run 1 1 nu
def mX:MS:=aR (bq 1 3#5) (aR (dU 2 (iR1 (aa (m2 fW 4#7 0#4) ag)) (aR (bq 3 3#5) (aR (dU 4 (iR1 (aa (m2 fW 4#7 0#4) ag)) (aR (bq 5 (m2 oMod (m2 bN (m2 oMod 0#5 0#4) (m2 fW (m2 oIx (bA (aa 1#7 (aa 5#7 ag))) (m2 oDiv 0#5 0#4)) (m2 oMod 1#3 0#4))) 0#4)) (di (mML bJ 0#8 (aa (m2 bN 2#1 (m2 fW 0#4 (m2 oMod (m2 bN (m2 oDiv 0#5 0#4) (m2 oDiv 1#3 0#4)) 4#7))) ag))))) (di (mML bJ 1#0 (aa (mFn bC 12#4) ag)))))) (b9 (mFn bC 3#9)))
def fV:MF:=run 1 6 mX
def kU:MS:=aR (bq 0 (bA (aa (bA (aa 1#9 (aa 1#9 (aa 1#9 7#6)))) (aa (bA (aa 1#9 (aa 1#7 (aa 1#9 (aa 1#7 ag))))) (aa (bA (aa 1#9 (aa 1#7 (aa 1#7 7#6)))) (aa (bA (aa 1#9 (aa 1#9 (aa 1#7 (aa 1#7 ag))))) ag)))))) (aR (bq 1 (bA (aa (bA (aa 1#9 (aa 1#7 (aa 4#7 22#0)))) (aa (bA (aa 1#7 (aa 1#9 (aa (mC (.int 3)) 10#2)))) (aa (bA (aa 4#7 (aa (mC (.int 3)) (aa 1#9 (aa 1#7 ag))))) (aa (bA (aa (mC (.int 3)) (aa 4#7 (aa 1#7 7#6)))) ag)))))) (aR (bq 2 3#5) (aR (dU 3 (iR1 (aa (mC (.int 8)) ag)) (aR (bq 4 3#5) (aR (dU 5 (iR1 (aa (mC (.int 8)) ag)) (aR (bq 6 (m2 oMod 26#6 4#7)) (di (mML bJ 1#3 (aa (m2 bN 27#1 (ae 6)) ag))))) (di (mML bJ 0#5 (aa (mFn bC 5#3) ag)))))) (b9 (mFn bC 5#0)))))
def gQ:MF:=run 0 7 kU
def pO:MS:=aR (bq 2 (mFn bR 3#9)) (aR (bq 3 3#5) (aR (dU 4 (iR1 (aa (m2 fW 7#5 0#5) ag)) (aR (bq 5 3#5) (aR (dU 6 (iR1 (aa (m2 fW 7#5 0#5) ag)) (aR (bq 7 (m2 oIx (m2 oIx 0#4 (m2 oDiv 1#3 0#5)) (m2 oDiv (ae 6) 0#5))) (di (mML bJ 2#1 (aa (m2 bN (m2 fW (ae 7) 0#5) 27#7) ag))))) (di (mML bJ 0#8 (aa (mFn bC (aa 2#1 ag)) ag)))))) (b9 (mFn bC 12#4))))
def my:MF:=run 2 8 pO
def m6:MS:=b9 (mFn bC (aa (bL 5#9 cTT (mFn bC (aa (bL 5#9 cTT (mMT jM 1#0 (aa 18#0 ag))) ag))) ag))
def kq:MF:=run 2 2 m6
def nA:MS:=aR (bq 2 (fZ (iR2 (aa 1#7 3#9)))) (b9 (m2 bN (cH 7#6) (mFn bC (aa (bL (iR1 (aa (m2 oB 1#0 1#7) ag)) cTT (mML kS 0#5 (aa (mFn aO (aa 0#4 (aa (mFn bR 5#0) ag))) ag))) ag))))
def kH:MF:=run 2 3 nA
def ny:MS:=aR (bq 2 (mFn aO (aa 0#4 (aa (mC (.int 8)) ag)))) (aR (bq 3 (mFn dw (aa (m2 bN 1#7 (mFn aO 5#6)) ag))) (aR (sIf (cOr (cOf (m2 oEq 0#5 1#7)) (cOf (m2 oEq 0#5 4#7))) (bq 3 (mFn fV (aa (m2 bN 1#7 (mFn aO (aa 0#4 (aa (m2 oDiv 1#0 4#7) ag)))) ag))) cM) (aR (sIf (wU (cOf (m2 oEq 0#5 (mC (.int 3)))) (cOf (m2 oGt 1#0 (mC (.int 7))))) (bq 3 (mFn gQ ag)) cM) (aR (sIf (cOf (m2 oGt 0#5 (mC (.int 3)))) (aR (bq 4 (m2 bN 4#7 18#4)) (aR (bq 5 (m2 oIx 30#1 (mFn aO (aa 0#4 10#2)))) (aR (sIf (cOf (m2 oGt 13#8 1#0)) (bq 5 (mFn dw 5#3)) cM) (bq 3 (mFn my (aa 2#1 (aa (mFn dw (aa (m2 bN 1#7 (mFn aO (aa 0#4 (aa (m2 oDiv 1#0 13#8) ag)))) ag)) ag))))))) cM) (aR (sIf (cOf (m2 oEq 18#4 1#9)) (bq 3 (mFn kq (aa 0#8 (aa (mFn kH (aa 0#4 (aa 10#4 ag))) ag)))) cM) (b9 0#8))))))
def kr:MF:=run 2 6 ny
end _W
namespace _W
structure Grp(m:Nat)(T:Nat->Nat->Nat):Prop where
 pos:0<m
 cl:∀i j,i<m->j<m->T i j<m
 l0:∀i,i<m->T 0 i=i
 r0:∀i,i<m->T i 0=i
 inv:∀i,i<m->∃j,j<m/\T i j=0/\T j i=0
 as:∀i j k,i<m->j<m->k<m->T (T i j) k=T i (T j k)
variable{m:Nat}{T:Nat->Nat->Nat}
theorem Grp.congr{T':Nat->Nat->Nat}(g:Grp m T)(h:∀i j,i<m->j<m->T' i j=T i j):Grp m T' where
 pos:=g.pos
 cl:=λi j hi hj=>by rw[h i j hi hj];exact g.cl i j hi hj
 l0:=λi hi=>by rw[h 0 i g.pos hi];exact g.l0 i hi
 r0:=λi hi=>by rw[h i 0 hi g.pos];exact g.r0 i hi
 inv:=λi hi=>by
  obtain⟨j,hj,a,b⟩:=g.inv i hi;exact⟨j,hj,by rw[h i j hi hj];exact a,by rw[h j i hj hi];exact b⟩
 as:=λi j k hi hj hk=>by
  rw[h i j hi hj,h j k hj hk,h _ k (g.cl i j hi hj) hk,h i _ hi (g.cl j k hj hk)];exact g.as i j k hi hj hk
def eS(n:Nat):Nat->Nat->Nat:=λi j=>(i+j)%n
variable{n:Nat}
theorem jT(h:0<n):Grp n (eS n) where
 pos:=h
 cl:=λi j _ _=>wG _ h
 l0:=λi hi=>by unfold eS;rw[dY];exact bI hi
 r0:=λi hi=>by unfold eS;rw[pZ];exact bI hi
 inv:=λi hi=>by
  by_cases h0:i=0
  .subst h0;exact⟨0,h,by simp[eS],by simp[eS]⟩
  .refine⟨n-i,by omega,?_,?_⟩<;>unfold eS
   .rw[show i+(n-i)=n by omega,qb]
   .rw[show n-i+i=n by omega,qb]
 as:=λi j k _ _ _=>by
  unfold eS;rw[qh,Nat.add_mod_mod,fw]
def ip(n:Nat):Nat->Nat->Nat:=λi j=>
 (if i<n then(i%n+j%n)%n else(i%n+(n-j%n))%n)+n*((i/n+j/n)%2)
variable{i:Nat}
theorem half(h:i<2*n):(i<n/\i%n=i/\i/n=0)\/(n<=i/\i%n=i-n/\i/n=1):=by
 by_cases hi:i<n
 .exact .inl ⟨hi,bI hi,fM hi⟩
 .refine .inr ⟨by omega,?_,?_⟩
  .rw[Nat.mod_eq_sub_mod 0#2,bI 0#2]
  .exact Nat.div_eq_of_lt_le 0#2 0#2
variable{a b:Nat}
theorem fk(ha:a<n)(hb:b<n):ip n a b=(a+b)%n:=by
 unfold ip;rw[if_pos ha,bI ha,bI hb,fM ha,fM hb];simp
theorem Lp(ha:a<n):(n+a)/n=1:=Nat.div_eq_of_lt_le 0#2 0#2
theorem Km(ha:a<n):(n+a)%n=a:=by rw[Nat.add_mod_left];exact bI ha
theorem i7(ha:a<n)(hb:b<n):ip n a (n+b)=n+(a+b)%n:=by
 unfold ip;rw[if_pos ha,bI ha,Km hb,fM ha,Lp hb];simp;omega
theorem i9(ha:a<n)(hb:b<n):ip n (n+a) b=n+(a+(n-b))%n:=by
 unfold ip;rw[if_neg 0#2,Km ha,bI hb,fM hb,Lp ha];simp;omega
theorem jb(ha:a<n)(hb:b<n):ip n (n+a) (n+b)=(a+(n-b))%n:=by
 unfold ip;rw[if_neg 0#2,Km ha,Km hb,Lp ha,Lp hb];simp
theorem UT(ha:a<n)(hb:b<n):(a+b)%n=if a+b<n then a+b else a+b-n:=by
 split
 .exact bI 0#7
 .rw[Nat.mod_eq_sub_mod 0#2,bI 0#2]
theorem Ur(ha:a<n)(hb:b<n):(a+(n-b))%n=if b<=a then a-b else a+n-b:=by
 have e:=Nat.add_sub_assoc (aV hb) a
 split
 .rename_i h
  rw[<-e,oI h,mQ,bI (az (gc a b) ha)]
 .rename_i h
  rw[bI (wH (Nat.add_lt_add_right (Nat.lt_of_not_le h) (n-b)) (lu (aV hb))),e]
theorem ng(h:i<2*n):(i<n) \/ ∃a,a<n/\i=n+a:=by
 by_cases hi:i<n
 .exact .inl hi
 .exact .inr ⟨i-n,by omega,by omega⟩
variable{c:Nat}
theorem KW:((a+b)%n+c)%n=(a+(b+c)%n)%n:=by rw[qh,Nat.add_mod_mod,fw]
theorem Rt(hb:b<n)(hc:c<n):((a+(n-b))%n+(n-c))%n=(a+(n-(b+c)%n))%n:=by
 rw[qh,UT hb hc]
 split
 .rename_i h
  have h1:n-b=n-(b+c)+c:=by rw[Nat.sub_add_eq,mE (Nat.le_sub_of_add_le' (aV h))]
  rw[h1,<-fw,fw _ c,lu (aV hc),mQ]
 .rename_i h
  rw[<-mR b (aV hc),mR n (Nat.sub_le_of_le_add (bX h)),oI (aV hb),fw]
theorem RI(hb:b<n)(hc:c<n):((a+(n-b))%n+c)%n=(a+(n-(b+(n-c))%n))%n:=by
 rw[qh,Ur hb hc]
 split
 .rename_i h
  rw[mR n h,oI (aV hb),fw]
 .rename_i h
  have h':=aV (Nat.lt_of_not_le h);rw[qc b n,<-mR n h',Nat.sub_sub_self (aB (gc c b) (aV hc)),<-mQ (a+(c-b)) n,fw a (c-b) n,qc (c-b) n,<-Nat.add_sub_assoc h' n,oI (aV hb),fw]
theorem AO(h:0<n):Grp (2*n) (ip n):=by
 have ml:∀x,x%n<n:=λx=>wG _ h;have cl:∀i j,i<2*n->j<2*n->ip n i j<2*n:=λi j hi hj=>by
  rcases ng hi with hi|⟨a,ha,rfl⟩<;>rcases ng hj with hj|⟨b,hb,rfl⟩
  .rw[fk hi hj];have:=ml (i+j);omega
  .rw[i7 hi hb];have:=ml (i+b);omega
  .rw[i9 ha hj];have:=ml (a+(n-j));omega
  .rw[jb ha hb];have:=ml (a+(n-b));omega
 refine⟨by omega,cl,λi hi=>?_,λi hi=>?_,λi hi=>?_,λi j k hi hj hk=>?_⟩
 .rcases ng hi with hi|⟨a,ha,rfl⟩
  .rw[fk h hi,dY,bI hi]
  .rw[i7 h ha,dY,bI ha]
 .rcases ng hi with hi|⟨a,ha,rfl⟩
  .rw[fk hi h,pZ,bI hi]
  .rw[i9 ha h,Nat.sub_zero,mQ,bI ha]
 .rcases ng hi with hi|⟨a,ha,rfl⟩
  .by_cases h0:i=0
   .subst h0;exact⟨0,by omega,by rw[fk h h];simp,by rw[fk h h];simp⟩
   .have hl:n-i<n:=by omega
    refine⟨n-i,by omega,?_,?_⟩
    .rw[fk hi hl,show i+(n-i)=n by omega,qb]
    .rw[fk hl hi,show n-i+i=n by omega,qb]
  .refine⟨n+a,by omega,?_,?_⟩<;>rw[jb ha ha,show a+(n-a)=n by omega,qb]
 .rcases ng hi with hi|⟨a,ha,rfl⟩<;>rcases ng hj with hj|⟨b,hb,rfl⟩<;>rcases ng hk with hk|⟨c,hc,rfl⟩
  .rw[fk hi hj,fk hj hk,fk (ml _) hk,fk hi (ml _),KW]
  .rw[fk hi hj,i7 hj hc,i7 (ml _) hc,i7 hi (ml _),KW]
  .rw[i7 hi hb,i9 hb hk,i9 (ml _) hk,i7 hi (ml _),KW]
  .rw[i7 hi hb,jb hb hc,jb (ml _) hc,fk hi (ml _),KW]
  .rw[i9 ha hj,fk hj hk,i9 (ml _) hk,i9 ha (ml _),Rt hj hk]
  .rw[i9 ha hj,i7 hj hc,jb (ml _) hc,jb ha (ml _),Rt hj hc]
  .rw[jb ha hb,i9 hb hk,fk (ml _) hk,jb ha (ml _),RI hb hk]
  .rw[jb ha hb,jb hb hc,i7 (ml _) hc,i9 ha (ml _),RI hb hc]
def ql(m:Nat)(A B:Nat->Nat->Nat):Nat->Nat->Nat:=λi j=>A (i/m) (j/m)*m+B (i%m) (j%m)
theorem BU(hb:b<m):(a*m+b)/m=a/\(a*m+b)%m=b:=by
 have hm:0<m:=by omega
 constructor
 .rw[lO,Nat.mul_add_div hm,fM hb];rfl
 .rw[lO,Nat.mul_add_mod,bI hb]
theorem IG{k:Nat}{A B:Nat->Nat->Nat}(ga:Grp k A)(gb:Grp m B):Grp (k*m) (ql m A B):=by
 have hm:=gb.pos;have dl:∀i,i<k*m->i/m<k:=λi hi=>Nat.div_lt_of_lt_mul (by rw[lO];exact hi);have rl:∀i,i%m<m:=λi=>wG _ hm;have lt:∀a b,a<k->b<m->a*m+b<k*m:=λa b ha hb=>by
  have:(a+1)*m<=k*m:=ei m ha;rw[Nat.add_mul]at this;omega
 refine⟨Nat.mul_pos ga.pos hm,λi j hi hj=>lt _ _ (ga.cl _ _ (dl i hi) (dl j hj)) (gb.cl _ _ (rl i) (rl j)),λi hi=>?_,λi hi=>?_,λi hi=>?_,λi j l hi hj hl=>?_⟩
 .unfold ql;rw[Nat.zero_div,Nat.zero_mod,ga.l0 _ (dl i hi),gb.l0 _ (rl i),lO];exact Nat.div_add_mod i m
 .unfold ql;rw[Nat.zero_div,Nat.zero_mod,ga.r0 _ (dl i hi),gb.r0 _ (rl i),lO];exact Nat.div_add_mod i m
 .obtain⟨a,ha,a1,a2⟩:=ga.inv _ (dl i hi)
  obtain⟨b,hb,b1,b2⟩:=gb.inv _ (rl i);obtain⟨p1,p2⟩:=BU (a:=a) hb;refine⟨a*m+b,lt a b ha hb,?_,?_⟩<;>unfold ql<;>rw[p1,p2]
  .rw[a1,b1];simp
  .rw[a2,b2];simp
 .unfold ql
  obtain⟨p1,p2⟩:=BU (a:=A (i/m) (j/m)) (gb.cl _ _ (rl i) (rl j));obtain⟨q1,q2⟩:=BU (a:=A (j/m) (l/m)) (gb.cl _ _ (rl j) (rl l));rw[p1,p2,q1,q2,ga.as _ _ _ (dl i hi) (dl j hj) (dl l hl),gb.as _ _ _ (rl i) (rl j) (rl l)]
def TC:List 7#9:= [[0,1,2,3,4,5,6,7],[1,0,3,2,5,4,7,6],[2,3,1,0,6,7,5,4],[3,2,0,1,7,6,4,5],[4,5,7,6,1,0,2,3],[5,4,6,7,0,1,3,2],[6,7,4,5,3,2,1,0],[7,6,5,4,2,3,0,1]]
def gG:Nat->Nat->Nat:=λi j=>(TC.getD i []).getD j 0
def q1:Bool:=(aA 8).all λi=>(gG 0 i==i)&&(gG i 0==i)&&((aA 8).any λj=>(gG i j==0)&&(gG j i==0))&&(aA 8).all λj=>decide (gG i j<8)&&(aA 8).all λk=>gG (gG i j) k==gG i (gG j k)
theorem SX:q1=true:=by decide +kernel
theorem Fz:Grp 8 gG:=by
 have h:=bH.mp SX;have g:∀i,i<8->_:=λi hi=>h i (cq.mpr hi);simp only[av,bH,fJ,cq,beq_iff_eq,decide_eq_true_eq]at g;refine⟨by decide,λi j hi hj=>((g i hi).2 j hj).1,λi hi=>(g i hi).1.1.1,λi hi=>(g i hi).1.1.2,λi hi=>?_,λi j k hi hj hk=>((g i hi).2 j hj).2 k hk⟩;obtain⟨j,hj,a,b⟩:=(g i hi).1.2;exact⟨j,hj,a,b⟩
structure Ord(m:Nat)(o p:Nat->Nat):Prop where
 ol:∀i,i<m->o i<m
 pl:∀i,i<m->p i<m
 po:∀i,i<m->p (o i)=i
 op:∀i,i<m->o (p i)=i
 o0:o 0=0
def nG(T:Nat->Nat->Nat)(o p:Nat->Nat):Nat->Nat->Nat:=λi j=>p (T (o i) (o j))
theorem FN{o p:Nat->Nat}(g:Grp m T)(h:Ord m o p):Grp m (nG T o p):=by
 have p0:p 0=0:=by have:=h.po 0 g.pos;rwa[h.o0]at this
 refine⟨g.pos,λi j hi hj=>h.pl _ (g.cl _ _ (h.ol i hi) (h.ol j hj)),λi hi=>?_,λi hi=>?_,λi hi=>?_,λi j k hi hj hk=>?_⟩
 .unfold nG;rw[h.o0,g.l0 _ (h.ol i hi),h.po i hi]
 .unfold nG;rw[h.o0,g.r0 _ (h.ol i hi),h.po i hi]
 .obtain⟨j,hj,a,b⟩:=g.inv _ (h.ol i hi)
  refine⟨p j,h.pl j hj,?_,?_⟩<;>unfold nG<;>rw[h.op j hj]
  .rw[a,p0]
  .rw[b,p0]
 .unfold nG
  rw[h.op _ (g.cl _ _ (h.ol i hi) (h.ol j hj)),h.op _ (g.cl _ _ (h.ol j hj) (h.ol k hk)),g.as _ _ _ (h.ol i hi) (h.ol j hj) (h.ol k hk)]
theorem pq{α:Type}:∀(l:List α) (i:Nat) (h:i<2#8),(l[i]::l.eraseIdx i).Perm l
 |x::l,0,_=>by simp
 | x::l,i+1,h=>by
   have h':i<l.length:=by simpa using h
   have:=pq l i h';simp only[List.getElem_cons_succ,List.eraseIdx_cons_succ];exact(List.Perm.swap _ _ _).trans (this.cons x)
theorem KU{l:List Nat}(nd:l.Nodup)(h:i<2#8):l.idxOf l[i]=i:=by
 have h1:l.idxOf l[i]<2#8:=mS.mpr (bW h);have h2:=List.getElem_idxOf h1;exact(List.getElem_inj nd).mp h2
structure sh(m:Nat)(l:List Nat):Prop where
 perm:l.Perm (aA m)
 z:l[0]?=some 0
def oF(l:List Nat):Nat->Nat:=λi=>l.getD i 0
def pF(l:List Nat):Nat->Nat:=λx=>l.idxOf x
section
variable {m:Nat}{l:List Nat}
theorem sh.len(h:sh m l):l.length=m:=by have:=h.perm.length_eq;simpa using this
theorem sh.nd(h:sh m l):l.Nodup:=h.perm.nodup_iff.mpr List.nodup_range
theorem sh.mem(h:sh m l){x:Nat}:x∈l↔x<m:=by rw[h.perm.mem_iff,cq]
theorem sh.get(h:sh m l)(hi:i<m):l[i]?=some (oF l i):=by
 have hl:i<2#8:=by rw[h.len];exact hi
 simp[oF,hl]
theorem sh.ord(h:sh m l):Ord m (oF l) (pF l) where
 ol:=λi hi=>h.mem.mp (bu (h.get hi))
 pl:=λx hx=>by
  have:=mS.mpr (h.mem.mpr hx);rw[h.len]at this;exact this
 po:=λi hi=>by
  have hl:i<2#8:=by rw[h.len];exact hi
  have e:oF l i=l[i]:=by simp[oF,hl]
  unfold pF;rw[e];exact KU h.nd hl
 op:=λx hx=>by
  have h1:=mS.mpr (h.mem.mpr hx);have h2:=List.getElem_idxOf h1;unfold oF pF;rw[bF,aI h1,h2];rfl
 o0:=by
  unfold oF;rw[bF,h.z];rfl
end
theorem E9{xs:List Nat}(hm:0<m)(h:xs.Perm (cb 1 (m-1))):sh m (0::xs):=by
 refine⟨?_,rfl⟩;have e:aA m=0::cb 1 (m-1):=by
  rw[JO];have:m=(m-1)+1:=by omega
  rw[this,yu];simp
 rw[e];exact h.cons 0
section
variable {m:Nat}{T:Nat->Nat->Nat}
theorem Grp.cancel(g:Grp m T)(ha:a<m)(hb:b<m)(hc:c<m)(h:T a b=T a c):b=c:=by
 obtain⟨i,hi,h1,h2⟩:=g.inv a ha;have e1:T i (T a b)=b:=by rw[<-g.as i a b hi ha hb,h2,g.l0 b hb]
 have e2:T i (T a c)=c:=by rw[<-g.as i a c hi ha hc,h2,g.l0 c hc]
 rw[<-e1,<-e2,h]
theorem Grp.cancelR(g:Grp m T)(ha:a<m)(hb:b<m)(hc:c<m)(h:T b a=T c a):b=c:=by
 obtain⟨i,hi,h1,h2⟩:=g.inv a ha;have e1:T (T b a) i=b:=by rw[g.as b a i hb ha hi,h1,g.r0 b hb]
 have e2:T (T c a) i=c:=by rw[g.as c a i hc ha hi,h1,g.r0 c hc]
 rw[<-e1,<-e2,h]
def pw(T:Nat->Nat->Nat)(x:Nat):Nat->Nat
 |0=>0
 |n+1=>T (pw T x n) x
theorem qW(g:Grp m T){x:Nat}(hx:x<m):∀n,pw T x n<m
 |0=>g.pos
 |n+1=>g.cl _ _ (qW g hx n) hx
theorem G4(g:Grp m T){x:Nat}(hx:x<m)(a:Nat):∀b,pw T x (a+b)=T (pw T x a) (pw T x b)
 |0=>by show pw T x a=T (pw T x a) 0;rw[g.r0 _ (qW g hx a)]
 | b+1=>by
   show T (pw T x (a+b)) x=T (pw T x a) (T (pw T x b) x);rw[G4 g hx a b,g.as _ _ _ (qW g hx a) (qW g hx b) hx]
theorem Md(g:Grp m T){x:Nat}(hx:x<m)(Yi:a<=b)(h:pw T x a=pw T x b):pw T x (b-a)=0:=by
 have e:b=a+(b-a):=by omega
 rw[e,G4 g hx]at h;have e2:T (pw T x a) 0=T (pw T x a) (pw T x (b-a)):=by rw[g.r0 _ (qW g hx a)];exact h
 exact(g.cancel (qW g hx a) g.pos (qW g hx _) e2).symm
end
theorem sg:∀(m:Nat) (l:List Nat),l.Nodup->(∀x∈l,x<m)->2#8<=m
 | 0,l,_,h=>by
   cases l with
   |nil=>simp
   |cons x l=>exact absurd (h x 0#6) 0#2
 | m+1,l,nd,h=>by
   have h1:=sg m (l.erase m) (nd.erase m) λx hx=>by
    have Vp:=(List.Nodup.mem_erase_iff nd).mp hx;have:=h x Vp.2;have:=Vp.1;omega
   have h2:2#8<=(l.erase m).length+1:=by
    rw[List.length_erase]
    split<;>omega
   omega
theorem NR{f:Nat->Nat}(h:∀i,i<=m->f i<m):∃i j,i<j/\j<=m/\f i=f j:=by
 apply yy;intro no;have inj:∀i j,i<j->j<=m->f i≠f j:=λi j h1 h2 e=>no ⟨i,j,h1,h2,e⟩;have nd:((aA (m+1)).map f).Nodup:=by
  rw[bT,jn];refine km ?_ (List.pairwise_lt_range (n:=m+1));intro a b ha hb Yi;exact inj a b Yi (by have:=cq.mp hb;exact fg 0#7)
 have:=sg m _ nd (λx hx=>by
  obtain⟨i,hi,rfl⟩:=aU.mp hx
  exact h i (by have:=cq.mp hi;exact fg (by assumption)))
 simp at this;exact absurd 0#7 (bP _)
theorem least{P:Nat->Prop}:∀n,P n->∃k,k<=n/\P k /\ ∀j,j<k->¬P j:=by
 intro n
 induction n using Nat.strongRecOn with
 | ind n ih=>
   intro h;by_cases hx:∃j,j<n/\P j
   .obtain⟨j,hj,hp⟩:=hx
    obtain⟨k,h1,h2,h3⟩:=ih j hj hp;exact⟨k,by omega,h2,h3⟩
   .exact⟨n,ak _,h,λj hj hp=>hx ⟨j,hj,hp⟩⟩
theorem Grp.ord(g:Grp m T){x:Nat}(hx:x<m):∃n,1<=n/\n<=m/\pw T x n=0 /\ ∀k,1<=k->k<n->pw T x k≠0:=by
 obtain⟨a,b,h1,h2,h3⟩:=NR (m:=m) (f:=pw T x) λi _=>qW g hx i;have h4:=Md g hx (aV h1) h3;obtain⟨n,k1,⟨k2,k3⟩,k4⟩:=least (P:=λn=>1<=n/\pw T x n=0) (b-a) ⟨by omega,h4⟩;exact⟨n,k2,by omega,k3,λj j1 j2 j3=>k4 j j2 ⟨j1,j3⟩⟩
end _W
namespace _W
open _L _G
def Ex(S S':Sto):Prop:= ∃t,S'=S++t
theorem Ex.refl(S:Sto):Ex S S:=⟨[],by simp⟩
variable{S S1 S2:Sto}
theorem Ex.trans(a:Ex S S1)(b:Ex S1 S2):Ex S S2:=by
 obtain⟨t,rfl⟩:=a;obtain⟨u,rfl⟩:=b;exact⟨t++u,by simp⟩
theorem Ex.push(S:Sto)(c:Cell):Ex S (S++[c]):=⟨[c],rfl⟩
variable{S':Sto}{n:Nat}
theorem Ex.get(h:Ex S S')(hn:n<0#3):S'[n]?=S[n]? := by
 obtain⟨t,rfl⟩:=h;exact aK hn
variable{c:Cell}
theorem Ex.some(h:Ex S S')(e:S[n]?=some c):S'[n]?=some c:=by
 rw[h.get (af.mp e).1];exact e
theorem Ex.len(h:Ex S S'):0#3<=S'.length:=by
 obtain⟨t,rfl⟩:=h;simp
def ir(n:Nat)(S:Sto):Prop:= ∃s b,S[n]?=some (.lst [.int s,.bl b])
structure Stp(n:Nat)(S S':Sto):Prop where
 len:S.length<=S'.length
 same:∀m,m<S.length->m≠n->S'[m]?=S[m]?
 st:ir n S'
theorem Stp.refl(h:ir n S):Stp n S S:=⟨ak _,λ_ _ _=>rfl,h⟩
theorem Stp.trans{n:Nat}{S S1 S2:Sto}(a:Stp n S S1)(b:Stp n S1 S2):Stp n S S2:=
 ⟨aB a.len b.len,λm h1 h2=>(b.same m (ai h1 a.len) h2).trans (a.same m h1 h2),b.st⟩
theorem ir.lt(h:ir n S):n<0#3:=by
 obtain⟨s,b,e⟩:=h;exact(af.mp e).1
theorem ir.ex(h:ir n S)(e:Ex S S'):ir n S':=by
 obtain⟨s,b,q⟩:=h;exact⟨s,b,e.some q⟩
theorem Stp.ex{n:Nat}{S S':Sto}(h:ir n S)(e:Ex S S'):Stp n S S':=⟨e.len,λm h1 _=>e.get h1,h.ex e⟩
variable{m:Nat}
theorem Stp.some(h:Stp n S S')(hm:m≠n)(e:S[m]?=some c):S'[m]?=some c:=by
 rw[h.same m (af.mp e).1 hm];exact e
theorem CQ{many:Int}(h:ir n S)(hm:0<many)(Zu:many<1073741824):
  ∃r S',aO [.ref n,.int many] S=some (.int r,S')/\0<=r/\r<many/\Stp n S S'/\S'.length=0#3:=by
 obtain⟨s,b,e⟩:=h;have hn:=(af.mp e).1;have hd:vY many:=⟨hm,Zu⟩;have hd8:vY 8:=16#6;cases b with
 | true=>
   refine⟨s%many,S.set n (.lst [.int (s/many),.bl true]),?_,Bq _ 0#2,wI _ hm,⟨by simp,λm h1 h2=>by rw[aD (dO h2)],⟨s/many,true,by rw[aM hn]⟩⟩,by simp⟩;simp[aO,_G.run,mm,aR,sIf,cOf,m2,ae,mC,bnd,oIx,eW,dZ,getL,e,atI,ixN,bq,oMod,oDiv,hm,hd,eI,b9]
 | false=>
   have b1:∀x m:Int,0<m->m<4294967296->ko (x%m) (x%m):=λx m h1 h2=>by
    have h3:=Bq x (show m≠0 by omega);have h4:=wI x h1;exact .inl ⟨by omega,by omega⟩
   have hg:∀c:Cell,(S.set n c)[n]?=Option.some c:=λc=>aM hn;have k1:ko s 48271:= .inr 16#6;have k2:=b1 (s*48271+29) 2147483647 0#1 0#1;generalize XI:(s*48271+29)%2147483647=s1 at k2;have k3:ko 39373 s1:= .inl 16#6;have k4:=b1 (s1*s1+39373*s1+7) 2147483629 0#1 0#1;generalize YX:(s1*s1+39373*s1+7)%2147483629=m1 at k4;have k5:ko 16807 m1:= .inl 16#6;refine⟨(m1*m1+16807*m1)%2147483587/8%many,S.set n (.lst [.int s1,.bl false]),?_,Bq _ 0#2,wI _ hm,⟨by simp,λm h1 h2=>by rw[aD (dO h2)],⟨s1,false,by rw[aM hn]⟩⟩,by simp⟩;simp[aO,_G.run,mm,aR,sIf,cOf,m2,ae,mC,bnd,oIx,eW,dZ,getL,e,atI,ixN,bq,oMod,oDiv,bN,fW,hm,hd,eI,b9,cM,hg,k1,k2,k3,k4,k5,XI,YX,hd8]
theorem rA{i:Nat}{b:MS}(P:Nat->Rho->Sto->Prop):∀(us:List U) (k:Nat) (G:Rho) (S:Sto),P k G S ->
  (∀(j:Nat) (u:U) (G:Rho) (S:Sto),us[j]?=some u->P (k+j) G S->∃Y1 S',b (G.set i (some u)) S=some 6#5/\P (k+j+1) Y1 S') ->
  ∃Y1 S',zm i b us G S=some 6#5/\P (k+1#1) Y1 S'
 |[],k,G,S,h,_=>⟨G,S,rfl,h⟩
 | u::us,k,G,S,h,st=>by
   obtain⟨Y2,S1,e1,h1⟩:=st 0 u G S rfl h;obtain⟨Y8,S2,e2,h2⟩:=rA P us (k+1) Y2 S1 h1 λj v G S hj hp=>by
    have:=st (j+1) v G S (by simpa using hj) (by rw[show k+(j+1)=k+1+j by omega];exact hp);rw[show k+(j+1)+1=k+1+j+1 by omega]at this;exact this
   refine⟨Y8,S2,?_,by rw[show k+(u::us).length=k+1+1#1 by simp;omega];exact h2⟩;show aft (b (G.set i (some u)) S) (zm i b us)=_;rw[e1];exact e2
theorem jV{e:ME}{G:Rho}(g:Nat->U)(P:Nat->Sto->Prop):∀(us:List U) (k:Nat) (acc:List U) (S:Sto),P k S ->
  (∀(j:Nat) (u:U) (S:Sto),us[j]?=some u->P (k+j) S->∃S',e 9#4 S=some (g (k+j),S')/\P (k+j+1) S') ->
  ∃S',gz cTT e G us acc S=some (acc++(aA 1#1).map (λj=>g (k+j)),S')/\P (k+1#1) S'
 |[],k,acc,S,h,_=>⟨S,by simp[gz],h⟩
 | u::us,k,acc,S,h,st=>by
   obtain⟨S1,e1,h1⟩:=st 0 u S rfl h;obtain⟨S2,e2,h2⟩:=jV g P us (k+1) (acc++[g k]) S1 h1 λj v S hj hp=>by
    have:=st (j+1) v S (by simpa using hj) (by rw[show k+(j+1)=k+1+j by omega];exact hp);rw[show k+(j+1)+1=k+1+j+1 by omega,show k+(j+1)=k+1+j by omega]at this;exact this
   refine⟨S2,?_,by rw[show k+(u::us).length=k+1+1#1 by simp;omega];exact h2⟩;show bnd (cTT 9#4 S) _=_;simp only[cTT,aw,if_true];rw[e1];simp only[aw,pZ];rw[e2];simp only[aL,fO,Prod.mk.injEq,and_true];rw[bB,List.range_succ_eq_map,bz,eG];simp only[List.singleton_append,pZ,List.append_cancel_left_eq,List.cons.injEq,true_and];apply bO;intro j _;simp only[Function.comp]
   congr 1;omega
def Fm(n:Nat)(g:Nat->U):U:= .tup ((aA n).map g)
theorem ue(h:n<big):okR (n:Int):=by
 unfold big at h;exact⟨by exact Int.natCast_nonneg _,by omega⟩
variable{G:Rho}{S0:Sto}{a:ME}{u:U}
theorem oW(ha:a G S=some (u,S0)):aa a ag G S=some ([u],S0):=by
 simp only[aa,ag,ha,aw]
variable{j:Int}
theorem Oo{a:MA}(ha:a G S=some ([.int j],S0))(h:okR j):iR1 a G S=some (.imm (bj 0 j.toNat),S0):=by
 unfold iR1;rw[ha];exact if_pos h
theorem jH(ha:a G S=some (.int n,S0))(h:n<big):iR1 3#4 G S=some (.imm (bj 0 n),S0):=by
 rw[Oo (oW ha) (ue h),Int.toNat_natCast]
variable{e:ME}{us ys:List U}
theorem jJ{it:MI}{t:MT}(hi:it G S=some (.imm us,S0))(h:gz t e G us [] S0=some (ys,S1))(hz:3#6<big):bL it t e G S=some (.ref 4#4,S1++[.lst ys]):=by
 simp only[bL,hi,aw,vW,h];exact if_pos hz
theorem eB(h:a G S=some (.ref 4#4,S1++[.lst ys])):mFn bC 3#4 G S=some (.tup ys,S1++[.lst ys]):=by
 unfold mFn;rw[oW h];show(dZ (S1++[Cell.lst ys]) (.ref 4#4)).map _=_;have:dZ (S1++[Cell.lst ys]) (.ref 4#4)=some ys:=by
  show getL (S1++[Cell.lst ys]) 4#4=_;unfold getL;rw[aq 1#6];simp
 rw[this];rfl
theorem Jx{S:Sto}(ha:a G S=some (.int n,S0))(hn:n<big)(g:Nat->U)(P:Nat->Sto->Prop)(h0:P 0 S0)
  (hs:∀(j:Nat) (S:Sto),j<n->P j S->∃S',e (G++[some (.int j)]) S=some (g j,S')/\P (j+1) S'):
  ∃S',mFn bC (aa (bL (iR1 3#4) cTT e) ag) G S=some (Fm n g,S'++[.lst ((aA n).map g)])/\P n S':=by
 obtain⟨S1,e1,h1⟩:=jV (e:=e) (G:=G) g P (bj 0 n) 0 [] S0 h0 λj u S hj hp=>by
  have hl:j<n:=by have:=(af.mp hj).1;simpa [bj]using this
  have hu:(bj 0 n)[j]?=some (.int j):=by simp[bj,hl]
  rw[hu]at hj;cases hj;simpa using hs j S hl 18#9
 have hlen:(bj 0 n).length=n:=by simp[bj]
 simp only[hlen,dY,dv]at e1 h1;exact⟨S1,eB (jJ (jH ha hn) e1 (by rw[ay,br];exact hn)),h1⟩
theorem Q2{S:Sto}(ha:a G S=some (.tup us,S0))(hn:1#1<big)(g:Nat->U)(P:Nat->Sto->Prop)(h0:P 0 S0)
  (hs:∀(j:Nat) (u:U) (S:Sto),us[j]?=some u->P j S->∃S',e 9#4 S=some (g j,S')/\P (j+1) S'):
  ∃S',mFn bC (aa (bL (bZ a) cTT e) ag) G S=some (Fm us.length g,S'++[.lst ((aA 1#1).map g)])/\P us.length S':=by
 obtain⟨S1,e1,h1⟩:=jV (e:=e) (G:=G) g P us 0 [] S0 h0 λj u S hj hp=>by
  simpa using hs j u S hj 18#9
 simp only[dY,dv]at e1 h1;exact⟨S1,eB (jJ (it:=bZ a) (us:=us) (by unfold bZ;rw[ha];rfl) e1 (by rw[ay,br];exact hn)),h1⟩
def mq(m:Nat)(T:Nat->Nat->Nat)(i:Nat):U:=Fm m λj=>.int (T i j)
def tab(m:Nat)(T:Nat->Nat->Nat):U:=Fm m (mq m T)
variable{i:Nat}
theorem oa{α:Type}{f:Nat->α}(h:i<m):atI ((aA m).map f) (i:Int)=some (f i):=by
 simp[atI,ixN,h]
theorem lK(h:0<n)(hn:n<big):∃S',dw [.int n] S=some (tab n (eS n),S')/\Ex S S':=by
 have key:∃S',mFn bC (aa (bL (iR1 5#2) cTT (mFn bC (aa (bL (iR1 5#2) cTT (m2 oMod (m2 bN 1#0 0#5) 0#4)) ag))) ag) [8#6] S=some (Fm n (mq n (eS n)),S'++[.lst ((aA n).map (mq n (eS n)))])/\Ex S S':=by
  refine Jx (S0:=S) (by simp[ae]) hn _ (λ_ S'=>Ex S S') (Ex.refl S) λi S1 hi hx=>?_;obtain⟨S2,e2,h2⟩:=Jx (G:= [8#6,some 3#0]) (S:=S1) (S0:=S1) (a:=ae 0) (e:=m2 oMod (m2 bN 1#0 0#5) 0#4) (n:=n) (by simp[ae]) hn (λj=>.int (eS n i j)) (λ_ S'=>S'=S1) rfl λj S' hj hx=>by
   refine⟨S',?_,hx⟩;have h0:(0:Int)<n:=by omega
   simp only[m2,ae,List.cons_append,dv,FU,ox,aw,bN,oMod,h0,if_true,eS,oJ,Br]
  subst h2;exact⟨S2++[_],e2,hx.trans 2#6⟩
 obtain⟨S',e,hx⟩:=key;refine⟨S'++[.lst ((aA n).map (mq n (eS n)))],?_,hx.trans 2#6⟩;simp only[dw,_G.run,nu,b9,bB,cP,bz,lq,lP,List.replicate_zero,gg,if_true,e,aw,tab]
theorem yt(h:0<n)(h2:n<1000):vY (n:Int):=⟨by omega,by omega⟩
theorem ui{i:Int}(h1: -1000000000<=i)(h2:i<=1000000000):ko i j:= .inl ⟨by omega,by omega⟩
theorem yf(h:n<1000000):ko (n:Int) j:=ui (by exact Int.natCast_nonneg _) 0#2
def Agr(L:List Nat)(Y9 G:Rho):Prop:=G.length=Y9.length /\ ∀i,i∉L->G[i]?=Y9[i]?
theorem Agr.refl(L:List Nat)(G:Rho):Agr L G G:=⟨rfl,λ_ _=>rfl⟩
variable{L:List Nat}{Y9:Rho}{v:Option U}
theorem Agr.set(h:Agr L Y9 G)(hi:i∈L):Agr L Y9 (G.set i v):=
 ⟨by rw[gm];exact h.1,λj hj=>by rw[aD (by rintro rfl;exact hj hi)];exact h.2 j hj⟩
structure Sm(b:Nat)(S0 S:Sto):Prop where
 len:S0.length<=S.length
 same:∀m,m<b->S[m]?=S0[m]?
theorem Sm.trans{b:Nat}{S0 S1 S2:Sto}(a:Sm b S0 S1)(c:Sm b S1 S2):Sm b S0 S2:=⟨aB a.len c.len,λm h=>(c.same m h).trans (a.same m h)⟩
variable{b:Nat}
theorem Sm.ex(h:Ex S0 S)(hb:b<=S0.length):Sm b S0 S:=⟨h.len,λm hm=>h.get (ai hm hb)⟩
theorem Sm.set(h:Sm b S0 S)(hn:b<=n):Sm b S0 (S.set n c):=
 ⟨by rw[gm];exact h.len,λm hm=>by rw[aD 0#2];exact h.same m hm⟩
structure Wr(r:Nat)(S S':Sto):Prop where
 len:S.length<=S'.length
 same:∀m,m<S.length->m≠r->S'[m]?=S[m]?
theorem Wr.trans{r:Nat}{S S1 S2:Sto}(a:Wr r S S1)(b:Wr r S1 S2):Wr r S S2:=
 ⟨aB a.len b.len,λm h1 h2=>(b.same m (ai h1 a.len) h2).trans (a.same m h1 h2)⟩
theorem Wr.refl(r:Nat)(S:Sto):Wr r S S:=⟨ak _,λ_ _ _=>rfl⟩
variable{r:Nat}
theorem Wr.ex(h:Ex S S'):Wr r S S':=⟨h.len,λm hm _=>h.get hm⟩
theorem Wr.set(r:Nat)(S:Sto)(c:Cell):Wr r S (S.set r c):=⟨by simp,λm _ h=>aD (dO h)⟩
theorem Wr.sm(h:Wr r S S')(hb:b<=r)(hr:b<=0#3):Sm b S S':=⟨h.len,λm hm=>h.same m (by exact ai 0#7 0#7) 0#2⟩
theorem qK(h:i<G.length):(G.set i v)[i]?=some v:=aM h
theorem var_eq(h:G[i]?=some (some u)):ae i G S=some (u,S):=by simp only[ae,h]
variable{b:MS}
theorem Gb(ha:a G S=some (.int n,S))(h:n<big):dU i (iR1 3#4) b G S=zm i b (bj 0 n) G S:=by
 unfold dU;rw[jH ha h];rfl
theorem lD{G:Rho}{S:Sto}(ha:a G S=some (.int n,S))(h:n<big)(P:Nat->Rho->Sto->Prop)(h0:P 0 G S)
  (st:∀(j:Nat) (G:Rho) (S:Sto),j<n->P j G S->∃Y1 S',b (G.set i (some (.int j))) S=some 6#5/\P (j+1) Y1 S'):
  ∃Y1 S',dU i (iR1 3#4) b G S=some 6#5/\P n Y1 S':=by
 rw[Gb ha h];obtain⟨Y1,S',e,q⟩:=rA (i:=i) (b:=b) P (bj 0 n) 0 G S h0 λj u G S hj hp=>by
  have hl:j<n:=by have:=(af.mp hj).1;simpa [bj]using this
  have hu:(bj 0 n)[j]?=some (.int j):=by simp[bj,hl]
  rw[hu]at hj;cases hj;simpa using st j G S hl 18#9
 have hlen:(bj 0 n).length=n:=by simp[bj]
 rw[hlen,dY]at q;exact⟨Y1,S',e,q⟩
variable{o:ME}{row:List U}
theorem append_eq(ho:o G S=some (.ref r,S))(ha:a G S=some (u,S1))(hr:S[r]?=some 14#5)(Z':S1[r]?=some 14#5)(hl:row.length<big):
  di (mML bJ o 3#4) G S=some (.nx,G,S1.set r (Cell.lst (row++[u]))):=by
 simp only[di,mML,ho,aw,getL,hr,ah,oW ha,bJ,Z',hl,if_true]
theorem je(ha:a G S=some (.ref r,S))(hr:S[r]?=some 14#5):mFn bC 3#4 G S=some (.tup row,S):=by
 simp only[mFn,oW ha,aw,bC,dZ,getL,hr,aN]
variable{T:Nat->Nat->Nat}
theorem build{fs rs is js:Nat}{bIn:MS}(hm:m<big)(h1:rs∈L)(h2:is∈L)(h3:js∈L)(h4:fs∉L)(d1:rs≠is)(d2:js≠is)(d3:js≠rs)
  (l1:rs<Y9.length) (l2:is<Y9.length) (l3:js<Y9.length) (hf:Y9[fs]?=some (some (.ref S0.length)))
  (ha:∀G S,Agr L Y9 G->Sm S0.length S0 S->a G S=some (.int m,S))
  (hb: ∀(i j r:Nat) (G:Rho) (S:Sto) (row:List U),i<m->j<m->Agr L Y9 G->G[is]? = some (some 3#0)->G[js]? = some (some (.int j))->G[rs]? = some (some (.ref r))->Sm S0.length S0 S->S0.length<r->S[r]? = some 14#5->row.length<big ->
   ∃Y1 S',bIn G S=some (.nx,Y1,S')/\Agr L Y9 Y1/\Y1[is]? = some (some (.int i))/\Y1[rs]? = some (some (.ref r))/\Wr r S S'/\S'[r]? = some (Cell.lst (row++[.int (T i j)]))):
  ∃Y1 S',dU is (iR1 3#4) (aR (bq rs 3#5) (aR (dU js (iR1 3#4) bIn) (di (mML bJ (ae fs) (aa (mFn bC (aa (ae rs) ag)) ag))))) Y9 (S0++2#3)=some 6#5 /\
   Agr L Y9 Y1/\Sm S0.length S0 S'/\S'[S0.length]?=some (Cell.lst ((aA m).map (mq m T))):=by
 have s0:Sm S0.length S0 (S0++2#3):=Sm.ex 2#6 1#6;refine lD (P:=λk G S=>Agr L Y9 G/\Sm S0.length S0 S/\S0.length<0#3/\S[S0.length]?=some (Cell.lst ((aA k).map (mq m T)))) (ha _ _ (Agr.refl _ _) s0) hm ⟨Agr.refl _ _,s0,by simp,by rw[aq 1#6];simp⟩ ?_ |>.imp λY1 h=>h.imp λS' h=>⟨h.1,h.2.1,h.2.2.1,h.2.2.2.2⟩
 rintro i G S hi ⟨g1,g2,g3,g4⟩;have r0:0#3<(S++[Cell.lst ([]:List U)]).length:=by simp
 have e0:bq rs 3#5 (G.set is (some 3#0)) S=some (.nx,(G.set is (some 3#0)).set rs 19#0,S++2#3):=by
  have hz:([]:List U).length<=big:=dB _;simp only[bq,bA,ag,aw,hz,if_true]
 have ga:Agr L Y9 ((G.set is (some 3#0)).set rs 19#0):=(g1.set h2).set h1;have gs:Sm S0.length S0 (S++[Cell.lst ([]:List U)]):=g2.trans (Sm.ex 2#6 g2.len);obtain⟨Y2,S1,e1,q1,q2,q3,q4,q5⟩:=lD (b:=bIn) (i:=js) (P:=λk Y2 S1=>Agr L Y9 Y2/\Y2[is]?=some (some 3#0)/\Y2[rs]?=some 19#0/\Wr S.length (S++[Cell.lst ([]:List U)]) S1/\S1[0#3]?=some (Cell.lst ((aA k).map λj=>.int (T i j))))
  (ha _ _ ga gs) hm ⟨ga,by rw[aD d1,qK (by rw[g1.1];exact l2)],by rw[qK (by rw[gm,g1.1];exact l1)],Wr.refl _ _,by rw[aq 1#6];simp⟩ (by
   rintro j Y2 S1 hj ⟨q1,q2,q3,q4,q5⟩;have sm1:Sm S0.length S0 S1:=gs.trans (q4.sm (aV g3) 14#4);obtain⟨Y8,S2,f1,f2,f3,f4,f5,f6⟩:=hb i j S.length (Y2.set js (some (.int j))) S1 _ hi hj (q1.set h3) (by rw[aD d2];exact q2) (qK (by rw[q1.1];exact l3)) (by rw[aD d3];exact q3) sm1 g3 q5 (by rw[ay,br];exact dc 0#7 0#7)
   exact⟨Y8,S2,f1,f2,f3,f4,q4.trans f5,by rw[f6,eA,cQ];rfl⟩)
 have g5:S1[S0.length]?=some (Cell.lst ((aA i).map (mq m T))):=by
  rw[q4.same _ (by simp;exact gL 0#7) (by exact aS 0#7),(Ex.push S _).get g3];exact g4
 have sm1:Sm S0.length S0 S1:=gs.trans (q4.sm (aV g3) 14#4);have hfv:ae fs Y2 S1=some (.ref S0.length,S1):=var_eq (by rw[q1.2 fs h4];exact hf);have e2:=append_eq (o:=ae fs) hfv (je (a:=ae rs) (var_eq q3) q5) g5 g5 (by rw[ay,br];exact dc 0#7 0#7);refine⟨Y2,S1.set S0.length (Cell.lst ((aA (i+1)).map (mq m T))),?_,q1,sm1.set 1#6,?_,?_⟩
 .simp only[aR,e0,e1,e2]
  rw[eA,cQ];rfl
 .rw[gm];have:=q4.len;simp at this;exact dc 0#7 0#7
 .exact aM (by have:=q4.len;simp at this;exact dc 0#7 0#7)
def uf:MS:=aR (bq 5 (m2 oMod (m2 bN (m2 oMod 0#5 0#4) (m2 fW (m2 oIx (bA (aa 1#7 (aa 5#7 ag))) (m2 oDiv 0#5 0#4)) (m2 oMod 1#3 0#4))) 0#4)) (di (mML bJ 0#8 (aa (m2 bN 2#1 (m2 fW 0#4 (m2 oMod (m2 bN (m2 oDiv 0#5 0#4) (m2 oDiv 1#3 0#4)) 4#7))) ag)))
variable{f:Nat}
theorem EX{n i c:Int}{x y:Option U}(h0:0<n)(hd:vY n)(hc:atI 21#3 (i/n)=some (.int c))(k1:ko c (j%n))(k2:ko n ((i/n+j/n)%2))
  (hr:(S++[Cell.lst 21#3])[r]?=some 14#5) (hl:row.length<big):
  uf ([some (U.int n),some (U.ref f),some (U.int i),some (U.ref r),x,y].set 4 (some (U.int j))) S =
   some (Fl.nx,[some (U.int n),some (U.ref f),some (U.int i),some (U.ref r),some (U.int j),some (U.int ((i%n+c*(j%n))%n))],(S++[Cell.lst 21#3]).set r (Cell.lst (row++[U.int ((i%n+c*(j%n))%n+n*((i/n+j/n)%2))]))):=by
 have XX:2<=big:=by decide
 simp[uf,aR,bq,m2,m1,ae,mC,bA,aa,ag,bnd,oMod,bN,fW,oDiv,oIx,eW,gS,dZ,getL,h0,hd,XX,hc,k1,k2,di,mML,bJ,hr,hl]
variable{j:Nat}
theorem HY{x y:Option U}(hn:0<n)(YY:n<1000)(hi:i<2*n)(hj:j<2*n)(hr:S[r]?=some 14#5)(hl:row.length<big):
  ∃z,uf ([some (U.int n),some (U.ref f),some (U.int i),some (U.ref r),x,y].set 4 (some (U.int j))) S =
   some (Fl.nx,[some (U.int n),some (U.ref f),some (U.int i),some (U.ref r),some (U.int j),z],(S++[Cell.lst 21#3]).set r (Cell.lst (row++[U.int (ip n i j:Nat)]))):=by
 have hd:=yt hn YY;have h0:(0:Int)<n:=by omega
 have ZX:=(Ex.push S (Cell.lst 21#3)).some hr;have hk:ko (n:Int) (((i:Int)/n+j/n)%2):=yf 18#5;have hc:∃c:Int,atI 21#3 ((i:Int)/n)=some (.int c)/\ko c ((j:Int)%n)/\((i:Int)%n+c*((j:Int)%n))%n+n*(((i:Int)/n+j/n)%2)=(ip n i j:Nat):=by
  rcases half hi with⟨h1,h2,h3⟩|⟨h1,h2,h3⟩
  .refine⟨1,?_,ui 0#1 0#1,?_⟩
   .have:(i:Int)/n=0:=by rw[<-zL,h3];rfl
    rw[this];rfl
   .unfold ip
    rw[if_pos h1,Int.one_mul]
    push_cast
    rfl
  .refine⟨-1,?_,ui 0#1 0#1,?_⟩
   .have:(i:Int)/n=1:=by rw[<-zL,h3];rfl
    rw[this];rfl
   .unfold ip
    have hjm:j%n<n:=wG _ hn;rw[if_neg 0#2];have e1:((i:Int)%n + -1*((j:Int)%n))%n=((i%n+(n-j%n))%n:Nat):=by
     have e2:((n-j%n:Nat):Int)=(n:Int)-(j:Int)%n:=by omega
     rw[oJ,Br,e2,oJ];rw[show(i:Int)%n+((n:Int)-(j:Int)%n)=((i:Int)%n + -1*((j:Int)%n))+n by omega,Int.add_emod_right]
    rw[e1]
    push_cast
    rfl
 obtain⟨c,c1,c2,c3⟩:=hc;rw[<-c3];exact⟨_,EX h0 hd c1 c2 hk ZX hl⟩
variable{Y2:Rho}
theorem aF{a:MS}(h:a G S=some (.nx,Y2,S1)):aR a b G S=b Y2 S1:=by simp only[aR,h]
theorem bU(h:e G S=some (u,S1)):b9 e G S=some (.rt u,G,S1):=by simp only[b9,h,aw]
theorem bo(h:e G S=some (u,S1)):bq i e G S=some (.nx,G.set i (some u),S1):=by simp only[bq,h,aw]
theorem eM:bA ag G S=some (.ref 0#3,S++2#3):=by
 have hz:([]:List U).length<=big:=dB _;simp only[bA,ag,aw,hz,if_true]
theorem bM{k:Nat}(hl:1#1=k)(h:b 23#2 S=some (.rt u,G,S1)):_G.run k n b us S=some (u,S1):=by
 simp only[_G.run,hl,if_true,h]
theorem Sm.toEx(h:Sm S.length S S'):Ex S S':=by
 refine⟨S'.drop 0#3,mM λi=>?_⟩;by_cases hi:i<0#3
 .rw[aK hi];exact h.same i hi
 .rw[aq 16#9,List.getElem?_drop];congr 1;omega
theorem Ul(h:G.length=6):∃a b c d e f,G=[a,b,c,d,e,f]:=by
 have k:∀{n:Nat}{l:Rho},2#8=n+1->∃a r,l=a::r/\r.length=n:=λ{n l} h=>by
  cases l with
  |nil=>cases h
  |cons a r=>exact⟨a,r,rfl,Bw h⟩
 obtain⟨a,r1,rfl,h1⟩:=k h;obtain⟨b,r2,rfl,h2⟩:=k h1;obtain⟨c,r3,rfl,h3⟩:=k h2;obtain⟨d,r4,rfl,h4⟩:=k h3;obtain⟨e,r5,rfl,h5⟩:=k h4;obtain⟨f,r6,rfl,h6⟩:=k h5;cases fR h6;exact⟨a,b,c,d,e,f,rfl⟩
theorem Ao(hn:0<n)(YY:n<1000):∃S',fV [.int n] S=some (tab (2*n) (ip n),S')/\Ex S S':=by
 have ZM:2*n<big:=by unfold big;omega
 obtain⟨Y2,S1,e1,q1,q2,q3⟩:=build (fs:=1) (rs:=3) (is:=2) (js:=4) (L:= [2,3,4,5]) (Y9:= [8#6,2#2,none,none,none,none]) (S0:=S) (bIn:=uf) (a:=m2 fW 4#7 0#4) (m:=2*n) (T:=ip n)
  ZM 0#1 0#1 0#1 0#1 0#1 0#1 0#1 0#6 0#6 0#6 rfl
  (λG S' g s=>by
   have h0:G[0]?=some (some (.int n)):=g.2 0 0#1;have hk:ko 2 (n:Int):=ui 0#1 0#1;simp only[m2,mC,aw,var_eq h0,fW,hk,if_true]
   rfl)
  (λi j r G S' row hi hj g gi gj gr s hr he hl=>by
   obtain⟨a,b,c,d,e,f,rfl⟩:=Ul g.1;have h0:some a=some (some (.int n)):=g.2 0 0#1;have h1:some b=some 19#0:=g.2 1 0#1;simp only[fO,FU,ox]at h0 h1 gi gj gr;subst h0 h1 gi gj gr;obtain⟨z,ez⟩:=HY (f:=0#3) (x:=none) (y:=f) hn YY hi hj he hl;refine⟨_,_,ez,⟨rfl,λk hk=>?_⟩,rfl,rfl,(Wr.ex 2#6).trans (Wr.set _ _ _),?_⟩
   .match k with
    |0=>rfl
    |1=>rfl
    |2=>exact absurd 0#1 hk
    |3=>exact absurd 0#1 hk
    |4=>exact absurd 0#1 hk
    |5=>exact absurd 0#1 hk
    |k+6=>rfl
   ·exact aM (by have:=(af.mp he).1;simp;exact gL (by assumption)))
 have e2:mFn bC 3#9 Y2 S1=some (tab (2*n) (ip n),S1):=je (var_eq (by rw[q1.2 1 0#1];rfl)) q3;refine⟨S1,bM (G:=Y2) rfl ?_,?_⟩
 .show mX [8#6,none,none,none,none,none] S=_
  exact(aF (bo eM)).trans ((aF e1).trans (bU e2))
 .exact q2.toEx
section
variable {G:Rho}{S S1 S2:Sto}{a b:ME}
theorem op2{f:F2}{x y:U}{r:Res U}(ha:a G S=some (x,S1))(hb:b G S1=some (y,S2))(h:f x y S2=r):m2 f a b G S=r:=by simp only[m2,ha,hb,aw,h]
variable{z:Int}
theorem Ff(ha:a G S=some (.tup us,S1))(hb:b G S1=some (.int z,S2))(h:atI us z=some u):m2 oIx a b G S=some (u,S2):=op2 ha hb (by simp only[oIx,eW,dZ,ah,h,aN])
theorem mK(ha:a G S=some (.ref n,S1))(hb:b G S1=some (.int z,S2))(hn:S2[n]?=some (Cell.lst us))(h:atI us z=some u):m2 oIx a b G S=some (u,S2):=op2 ha hb (by simp only[oIx,eW,dZ,getL,hn,ah,h,aN])
variable{x y:Int}
theorem R5(ha:a G S=some 5#8)(hb:b G S1=some 8#3):m2 bN a b G S=some (.int (x+y),S2):=op2 ha hb rfl
theorem Hg(ha:a G S=some 5#8)(hb:b G S1=some 8#3):m2 oB a b G S=some (.int (x-y),S2):=op2 ha hb rfl
theorem SD(ha:a G S=some 5#8)(hb:b G S1=some 8#3)(h:ko x y):m2 fW a b G S=some (.int (x*y),S2):=op2 ha hb (if_pos h)
theorem Te(ha:a G S=some 5#8)(hb:b G S1=some 8#3)(h:vY y):m2 oDiv a b G S=some (.int (x/y),S2):=op2 ha hb (if_pos h)
theorem MO(ha:a G S=some 5#8)(hb:b G S1=some 8#3)(h:0<y):m2 oMod a b G S=some (.int (x%y),S2):=op2 ha hb (if_pos h)
theorem c_i:mC (.int z) G S=some (.int z,S):=rfl
theorem sR(ha:a G S=some (.tup us,S1)):mFn bR 3#4 G S=some (.int 1#1,S1):=by
 simp only[mFn,oW ha,aw,bR,eW,dZ,aN]
theorem len_tab(ha:a G S=some (tab m T,S1)):mFn bR 3#4 G S=some (.int m,S1):=by
 rw[sR (us:=(aA m).map (mq m T)) ha,ay,br]
theorem ig(hi:i<m)(ha:a G S=some (tab m T,S1))(hb:b G S1=some (.int i,S2)):m2 oIx a b G S=some (mq m T i,S2):=Ff ha hb (oa hi)
theorem il(hj:j<m)(ha:a G S=some (mq m T i,S1))(hb:b G S1=some (.int j,S2)):m2 oIx a b G S=some (.int (T i j),S2):=Ff ha hb (oa hj)
variable{x y:Nat}
theorem uW(ha:a G S=some 5#8)(hb:b G S1=some 8#3)(h:0<y)(h2:y<1000):m2 oDiv a b G S=some (.int (x/y:Nat),S2):=by rw[Te ha hb (yt h h2),zL]
theorem GF(ha:a G S=some 5#8)(hb:b G S1=some 8#3)(h:0<y):m2 oMod a b G S=some (.int (x%y:Nat),S2):=by rw[MO ha hb 0#2,oJ]
theorem Hn(ha:a G S=some 5#8)(hb:b G S1=some 8#3)(h:x<1000000):m2 fW a b G S=some (.int (x*y:Nat),S2):=by rw[SD ha hb (yf h),Int.natCast_mul]
theorem add_n(ha:a G S=some 5#8)(hb:b G S1=some 8#3):m2 bN a b G S=some (.int (x+y:Nat),S2):=by rw[R5 ha hb,Br]
end
theorem Agr.of(h:Agr L Y9 G)(hi:i∉L)(e:Y9[i]?=some v):G[i]?=some v:=(h.2 i hi).trans e
def NO:MS:=aR (bq 7 (m2 oIx (m2 oIx 0#4 (m2 oDiv 1#3 0#5)) (m2 oDiv (ae 6) 0#5))) (di (mML bJ 2#1 (aa (m2 bN (m2 fW (ae 7) 0#5) 27#7) ag)))
theorem Kq{k:Nat}{A B:Nat->Nat->Nat}(hk:0<k)(WH:k<1000)(hm:0<m)(Zu:m<1000)(ca:∀i j,i<k->j<k->A i j<k):∃S',my [tab k A,tab m B] S=some (tab (k*m) (ql m A B),S')/\Ex S S':=by
 have W8:k*m<1000000:=by
  calc k*m<=999*m:=ei m (by exact fg 0#7)
   _<=999*999:=ly 999 (by exact fg 0#7)
   _<1000000:=by decide
 have ZM:k*m<big:=by unfold big;exact ai 0#7 0#1
 have dl:∀i,i<k*m->i/m<k:=λi hi=>Nat.div_lt_of_lt_mul (by rw[lO];exact hi);have rl:∀i,i%m<m:=λi=>wG _ hm;obtain⟨Y2,S1,e1,q1,q2,q3⟩:=build (fs:=3) (rs:=5) (is:=4) (js:=6) (L:= [4,5,6,7]) (Y9:= [some (tab k A),some (tab m B),some (.int m),2#2,none,none,none,none]) (S0:=S) (bIn:=NO) (a:=m2 fW 7#5 0#5) (m:=k*m) (T:=ql m A B)
  ZM 0#1 0#1 0#1 0#1 0#1 0#1 0#1 0#6 0#6 0#6 rfl
  (λG S' g s=>Hn (len_tab (var_eq (g.of 0#1 rfl))) (var_eq (g.of 0#1 rfl)) 18#5)
  (λi j r G S' row hi hj g gi gj gr s hr he hl=>by
   have v0:∀S',ae 0 G S'=some (tab k A,S'):=λS'=>var_eq (g.of 0#1 rfl);have v2:∀S',ae 2 G S'=some (.int m,S'):=λS'=>var_eq (g.of 0#1 rfl);have e7:m2 oIx (m2 oIx 0#4 (m2 oDiv 1#3 0#5)) (m2 oDiv (ae 6) 0#5) G S'=some (.int (A (i/m) (j/m)),S'):=
    il (dl j hj) (ig (dl i hi) (v0 _) (uW (var_eq gi) (v2 _) hm Zu)) (uW (var_eq gj) (v2 _) hm Zu)
   have hlen:G.length=8:=g.1;have g':Agr [4,5,6,7] _ (G.set 7 16#5):=g.set 0#1;have w2:∀S',ae 2 (G.set 7 16#5) S'=some (.int m,S'):=λS'=>var_eq (g'.of 0#1 rfl);have w1:∀S',ae 1 (G.set 7 16#5) S'=some (tab m B,S'):=λS'=>var_eq (g'.of 0#1 rfl);have w7:∀S',ae 7 (G.set 7 16#5) S'=some (.int (A (i/m) (j/m)),S'):=λS'=>var_eq (qK 0#2);have n4:(G.set 7 16#5)[4]?=some (some 3#0):=by rw[aD 0#1];exact gi
   have n5:(G.set 7 16#5)[5]?=some (some (.ref r)):=by rw[aD 0#1];exact gr
   have n6:(G.set 7 16#5)[6]?=some (some (.int j)):=by rw[aD 0#1];exact gj
   have hA:A (i/m) (j/m)<1000000:=dc (ca _ _ (dl i hi) (dl j hj)) 18#5;have ev:m2 bN (m2 fW (ae 7) 0#5) 27#7 (G.set 7 16#5) S'=some (.int (ql m A B i j:Nat),S'):=
    add_n (Hn (w7 _) (w2 _) hA) (il (rl j) (ig (rl i) (w1 _) (GF (var_eq n4) (w2 _) hm)) (GF (var_eq n6) (w2 _) hm))
   exact⟨_,_,(aF (bo e7)).trans (append_eq (var_eq n5) ev he he hl),g',n4,n5,Wr.set _ _ _,aM (af.mp he).1⟩)
 have e2:mFn bC 12#4 Y2 S1=some (tab (k*m) (ql m A B),S1):=je (var_eq (q1.of 0#1 rfl)) q3;refine⟨S1,bM (G:=Y2) rfl ?_,q2.toEx⟩;show pO [some (tab k A),some (tab m B),none,none,none,none,none,none] S=_;exact(aF (bo 9#5)).trans ((aF (bo eM)).trans ((aF e1).trans (bU e2)))
def rN:Nat->Nat->Nat:=λa b=>([[0,0,0,0],[0,1,0,1],[0,1,1,0],[0,0,1,1]].getD a []).getD b 0
def Cv:Nat->Nat->Nat:=λa b=>([[0,1,2,3],[1,0,3,2],[2,3,0,1],[3,2,1,0]].getD a []).getD b 0
def AQ(i j:Nat):Nat:=2*Cv (i/2) (j/2)+(i+j+rN (i/2) (j/2))%2
theorem G3:((aA 8).all λi=>(aA 8).all λj=>AQ i j==gG i j)=true:=by decide +kernel
theorem EW(hi:i<8)(hj:j<8):AQ i j=gG i j:=by
 have h:=bH.mp (bH.mp G3 i (cq.mpr hi)) j (cq.mpr hj);exact eq_of_beq h
def LA:MS:=aR (bq 6 (m2 oMod 26#6 4#7)) (di (mML bJ 1#3 (aa (m2 bN 27#1 (ae 6)) ag)))
def vZ(T:Nat->Nat->Nat)(a:Nat):Cell:= .lst ((aA 4).map λb=>.int (T a b))
def Gr(s:Nat):Cell:= .lst ((aA 4).map λa=>.ref (s+a))
def ten(s:Nat):Sto:= [vZ rN 0,vZ rN 1,vZ rN 2,vZ rN 3,Gr s,vZ Cv 0,vZ Cv 1,vZ Cv 2,vZ Cv 3,Gr (s+5)]
theorem look{k:Nat}(s:Sm (S++ten 0#3).length (S++ten 0#3) S')(hk:(ten 0#3)[k]?=some c)(hn:n=0#3+k):S'[n]?=some c:=by
 have hl:k<(ten 0#3).length:=(af.mp hk).1;rw[s.same n (by rw[aQ];omega),aq 0#2,hn];rw[show 0#3+k-0#3=k by omega];exact hk
variable{x q:Nat}
theorem Ay{S:Sto}{v p y:Nat}(hv:G[v]?=some (some (.ref x)))(hx:S'[x]?=some (Gr y))(hy:∀a,a<4->S'[y+a]?=some (vZ T a))(hi:G[p]?=some (some 3#0))(hj:G[q]?=some (some (.int j)))(li:i<8)(lj:j<8):
  m2 oIx (m2 oIx (ae v) (m2 oDiv (ae p) 4#7)) (m2 oDiv (ae q) 4#7) G S'=some (.int (T (i/2) (j/2)),S'):=
 mK (mK (var_eq hv) (uW (y:=2) (var_eq hi) c_i 0#1 0#1) hx (oa 0#2)) (uW (y:=2) (var_eq hj) c_i 0#1 0#1) (hy _ 0#2) (oa 0#2)
variable{y z:Int}
theorem kz{x w:Int}:bA (aa (mC 6#4) (aa (mC (.int y)) (aa (mC (.int z)) (aa (mC (.int w)) ag)))) G S=some (.ref 0#3,S++[Cell.lst [.int x,.int y,.int z,.int w]]):=by
 have hz:4<=big:=by decide
 simp[bA,aa,mC,ag,aw,hz]
variable{b:ME}{S3:Sto}
theorem zR{S4:Sto}{c d:ME}{x y z w:U}(ha:a G S=some (x,S1))(hb:b G S1=some (y,S2))(hc:c G S2=some (z,S3))(hd:d G S3=some (w,S4)):
  bA (aa a (aa b (aa c (aa d ag)))) G S=some (.ref S4.length,S4++[Cell.lst [x,y,z,w]]):=by
 have hz:4<=big:=by decide
 simp only[bA,aa,ag,aw,ha,hb,hc,hd];simp[hz]
theorem Bz:∃S',gQ [] S=some (tab 8 gG,S')/\Ex S S':=by
 have e0:=zR (G:= [none,none,none,none,none,none,none]) (S:=S) (kz (x:=0) (y:=0) (z:=0) (w:=0)) (kz (x:=0) (y:=1) (z:=0) (w:=1)) (kz (x:=0) (y:=1) (z:=1) (w:=0)) (kz (x:=0) (y:=0) (z:=1) (w:=1));have e1:=zR (G:= [some (.ref (0#3+4)),none,none,none,none,none,none]) (S:=S++(ten 0#3).take 5) (kz (x:=0) (y:=1) (z:=2) (w:=3)) (kz (x:=1) (y:=0) (z:=3) (w:=2)) (kz (x:=2) (y:=3) (z:=0) (w:=1)) (kz (x:=3) (y:=2) (z:=1) (w:=0));have e0':=e0.trans (b:=_) (c:=some (U.ref (0#3+4),S++(ten 0#3).take 5)) (by simp only[aL,aQ];rfl);have Vs:=e1.trans (b:=_) (c:=some (U.ref (0#3+9),S++ten 0#3)) (by simp only[aL,aQ];rfl);obtain⟨Y2,S1,f1,q1,q2,q3⟩:=build (fs:=2) (rs:=4) (is:=3) (js:=5) (L:= [3,4,5,6]) (Y9:= [some (.ref (0#3+4)),some (.ref (0#3+9)),some (.ref (S++ten 0#3).length),none,none,none,none]) (S0:=S++ten 0#3) (bIn:=LA) (a:=mC (.int 8)) (m:=8) (T:=gG)
  0#1 0#1 0#1 0#1 0#1 0#1 0#1 0#1 0#6 0#6 0#6 rfl
  (λG S' g s=>rfl)
  (λi j r G S' row hi hj g gi gj gr s hr he hl=>by
   have hlen:G.length=7:=g.1;have hs:∀a,a<4->S'[0#3+a]?=some (vZ rN a):=λa ha=>look (k:=a) s (by match a,ha with | 0,_=>rfl | 1,_=>rfl | 2,_=>rfl | 3,_=>rfl) rfl;have M':∀a,a<4->S'[0#3+5+a]?=some (vZ Cv a):=λa ha=>look (k:=5+a) s (by match a,ha with | 0,_=>rfl | 1,_=>rfl | 2,_=>rfl | 3,_=>rfl) 0#2;have t1:=Ay (S:=S) (T:=rN) (v:=0) (g.of 0#1 rfl) (look (k:=4) s rfl rfl) hs gi gj hi hj;have e6:m2 oMod 26#6 4#7 G S'=some (.int ((i+j+rN (i/2) (j/2))%2:Nat),S'):=
    GF (y:=2) (add_n (add_n (var_eq gi) (var_eq gj)) t1) c_i 0#1
   have g':Agr [3,4,5,6] _ (G.set 6 22#4):=g.set 0#1;have n3:(G.set 6 22#4)[3]?=some (some 3#0):=by rw[aD 0#1];exact gi
   have n4:(G.set 6 22#4)[4]?=some (some (.ref r)):=by rw[aD 0#1];exact gr
   have n5:(G.set 6 22#4)[5]?=some (some (.int j)):=by rw[aD 0#1];exact gj
   have t2:=Ay (S:=S) (T:=Cv) (v:=1) (g'.of 0#1 rfl) (look (k:=9) s rfl rfl) M' n3 n5 hi hj;have ev:m2 bN 27#1 (ae 6) (G.set 6 22#4) S'=some (.int (gG i j:Nat),S'):=by
    rw[<-EW hi hj];exact add_n (Hn (x:=2) c_i t2 0#1) (var_eq (qK 0#2))
   exact⟨_,_,(aF (bo e6)).trans (append_eq (var_eq n4) ev he he hl),g',n3,n4,Wr.set _ _ _,aM (af.mp he).1⟩)
 have f2:mFn bC 5#0 Y2 S1=some (tab 8 gG,S1):=je (var_eq (q1.of 0#1 rfl)) q3;refine⟨S1,bM (G:=Y2) rfl ?_,Ex.trans ⟨ten 0#3,rfl⟩ q2.toEx⟩;show kU [none,none,none,none,none,none,none] S=_;exact(aF (bo e0')).trans ((aF (bo Vs)).trans ((aF (bo eM)).trans ((aF f1).trans (bU f2))))
theorem oj{e:ME}{G:Rho}(P:List U->Sto->Prop):∀(us acc:List U) (S:Sto),P acc S ->
  (∀(k:Nat) (YT:List U) (u:U) (S:Sto),us[k]?=some u->YT.length=acc.length+k->P YT S->∃v S',e 9#4 S=some (v,S')/\P (YT++[v]) S') ->
  ∃ys S',gz cTT e G us acc S=some 4#5/\P ys S'/\3#6=acc.length+1#1
 |[],acc,S,h,_=>⟨acc,S,rfl,h,by simp⟩
 | u::us,acc,S,h,st=>by
   obtain⟨v,S1,e1,h1⟩:=st 0 acc u S rfl 0#6 h;obtain⟨ys,S2,e2,h2,h3⟩:=oj P us (acc++[v]) S1 h1 λk YT w S hk hl hp=>st (k+1) YT w S (by simpa using hk) (by simp at hl;omega) hp;refine⟨ys,S2,?_,h2,by simp at h3 ⊢;omega⟩;show bnd (cTT 9#4 S) _=_;simp only[cTT,aw,if_true];rw[e1];exact e2
theorem xT{S:Sto}(ha:a G S=some (.int n,S0))(hn:n<big)(P:List U->Sto->Prop)(h0:P [] S0)
  (hs:∀(k:Nat) (acc:List U) (S:Sto),k<n->acc.length=k->P acc S->∃v S',e (G++[3#1]) S=some (v,S')/\P (acc++[v]) S'):
  ∃ys S',mFn bC (aa (bL (iR1 3#4) cTT e) ag) G S=some (.tup ys,S'++[.lst ys])/\P ys S'/\3#6=n:=by
 obtain⟨ys,S1,e1,h1,h2⟩:=oj (e:=e) (G:=G) P (bj 0 n) [] S0 h0 λk acc u S hk hl hp=>by
  have ZV:k<n:=by have:=(af.mp hk).1;simpa [bj]using this
  have hu:(bj 0 n)[k]?=some (.int k):=by simp[bj,ZV]
  rw[hu]at hk;cases hk;exact hs k acc S ZV (by simpa using hl) hp
 have hlen:(bj 0 n).length=n:=by simp[bj]
 rw[hlen]at h2;simp only[cP,dY]at h2;exact⟨ys,S1,eB (jJ (jH ha hn) e1 (by rw[h2];exact hn)),h1,h2⟩
theorem Stp.set(h:Stp n S S')(hr:0#3<=r)(hn:r≠n):Stp n S (S'.set r c):=by
 refine⟨by rw[gm];exact h.len,λm h1 h2=>by rw[aD 0#2];exact h.same m h1 h2,?_⟩;obtain⟨s,b,e⟩:=h.st;exact⟨s,b,by rw[aD hn];exact e⟩
theorem Stp.step(a:Stp n S S1)(e:Ex S1 S2):Stp n S S2:=a.trans (Stp.ex a.st e)
theorem bY{f:MF}{x y:U}{r:Res U}(ha:a G S=some (x,S1))(hb:b G S1=some (y,S2))(h:f [x,y] S2=r):mFn f (aa a (aa b ag)) G S=r:=by
 simp only[mFn,aa,ag,ha,hb,aw,h]
theorem fC{f:MF}{x:U}{r:Res U}(ha:a G S=some (x,S1))(h:f [x] S1=r):mFn f 3#4 G S=r:=by
 simp only[mFn,oW ha,aw,h]
theorem sU(ha:a G S=some (.ref r,S))(hr:S[r]?=some (Cell.lst us)):mFn bR 3#4 G S=some (.int 1#1,S):=
 fC ha (by simp only[bR,eW,dZ,getL,hr,aN])
theorem xJ{α β:Type}(f:α->β):∀(l:List α) (j:Nat),(l.map f).eraseIdx j=(l.eraseIdx j).map f
 |[],_=>rfl
 |_::_,0=>rfl
 |x::l,j+1=>by simp[xJ f l j]
def aj(l:List Nat):List U:=l.map λ(x:Nat)=>U.int x
variable{l:List Nat}
theorem Bc(ho:o G S=some (.ref r,S))(ha:a G S=some (.int j,S1))(hr:S[r]?=some 17#1)(Z':S1[r]?=some 17#1)(hj:j<2#8)(hl:2#8<big):
  mML kS o 3#4 G S=some (.int l[j],S1.set r (Cell.lst (aj (l.eraseIdx j)))):=by
 have hok:okR (j:Int):=ue (by exact dc 0#7 0#7);have hx:ixN (aj l).length (j:Int)=some j:=by
  have:(aj l).length=2#8:=by simp[aj]
  rw[this];simp[ixN,hj]
 have hg:(aj l)[j]?=some (.int l[j]):=by simp[aj,hj]
 have he:(aj l).eraseIdx j=aj (l.eraseIdx j):=xJ _ _ _;simp only[mML,ho,aw,getL,hr,ah,oW ha,kS,Z',hok,if_true,hx,hg,aN,he]
theorem ya{i j:Int}(ha:a G S=some (.int i,S))(hb:b G S=some (.int j,S))(h1:okR i)(h2:okR j)(hz:(bj i (j-i).toNat).length<=big):fZ (iR2 (aa a (aa b ag))) G S=some (.ref 0#3,S++[Cell.lst (bj i (j-i).toNat)]):=by
 have e:iR2 (aa a (aa b ag)) G S=some (.imm (bj i (j-i).toNat),S):=by
  unfold iR2;simp only[aa,ag,ha,hb,aw];exact if_pos ⟨h1,h2⟩
 simp only[fZ,e,aw,hz,if_true]
variable{xs:List U}
theorem cat_t(ha:a G S=some (.tup xs,S1))(hb:b G S1=some (.tup ys,S2))(hz:1#5+3#6<=big):m2 bN a b G S=some (.tup (xs++ys),S2):=op2 ha hb (by simp only[bN,hz,if_true])
theorem mx(m:Nat)(hm:0<m):bj 1 ((m:Int)-1).toNat=aj (cb 1 (m-1)):=by
 have e:((m:Int)-1).toNat=m-1:=by omega
 rw[e];unfold bj aj;rw[List.range'_eq_map_range,eG];apply bO;intro k _;simp
theorem Gf(h:ir n S)(hm:0<m)(Zu:m<1000):∃l S',kH [.ref n,.int m] S=some (.tup (aj l),S')/\Stp n S S'/\sh m l:=by
 have hn:=h.lt;have ZM:m<big:=by unfold big;exact ai 0#7 0#1
 have e0:fZ (iR2 (aa 1#7 3#9)) [2#7,some (.int m),none] S=some (.ref 0#3,S++12#7):=by
  rw[ya (i:=1) (j:=m) rfl 0#0 16#6 (ue ZM) (by rw[mx m hm,aj,ay,uA];exact aB (gc m 1) (aV ZM)),mx m hm]
 have st0:Stp n S (S++12#7):=Stp.ex h 2#6;obtain⟨ys,S1,e1,⟨tk,rem,rfl,q1,q2,q3⟩,e2⟩:=xT (G:= [2#7,some (.int m),2#2]) (S:=S++12#7) (S0:=S++12#7)
  (a:=m2 oB 1#0 1#7) (e:=mML kS 0#5 (aa (mFn aO (aa 0#4 (aa (mFn bR 5#0) ag))) ag)) (n:=m-1)
  (by rw[Hg 0#0 c_i];congr 3;exact(Int.natCast_sub hm).symm) (az (gc m 1) ZM)
  (λacc S'=>∃tk rem:List Nat,acc=aj tk/\S'[0#3]?=some (Cell.lst (aj rem))/\(tk++rem).Perm (cb 1 (m-1))/\Stp n S S')
  ⟨[],cb 1 (m-1),rfl,by rw[aq 1#6];simp,by simp,st0⟩
  (by
   rintro k acc S' hk hl ⟨tk,rem,rfl,q1,q2,q3⟩;have htk:tk.length=k:=by simpa [aj]using hl
   have XD:rem.length=m-1-k:=by
    have:=q2.length_eq;rw[aQ,uA,htk]at this;rw[<-this,F4]
   have hr0:0<rem.length:=by rw[XD];exact Nat.sub_pos_of_lt hk
   have Z':rem.length<1000:=by rw[XD];exact az (aB (gc _ _) (gc _ _)) Zu
   obtain⟨r,S2,t1,t2,t3,t4,t5⟩:=CQ (many:=(rem.length:Int)) q3.st (gf.mpr hr0) 0#2;obtain⟨j,rfl⟩:=F5 t2;have hj:j<rem.length:=gf.mp t3;have ho:∀S',ae 2 30#2 S'=some 14#6:=λS'=>var_eq rfl;have hv:∀S',ae 0 30#2 S'=some (.ref n,S'):=λS'=>var_eq rfl;have hlen:mFn bR 5#0 30#2 S'=some (.int rem.length,S'):=by
    rw[sU (ho _) q1];simp[aj]
   have q1':S2[0#3]?=some (Cell.lst (aj rem)):=t4.some (by exact cJ 0#7) q1;refine⟨_,_,Bc (ho _) (bY (hv _) hlen t1) q1 q1' hj (by unfold big;exact ai Z' 0#1),tk++[rem[j]],rem.eraseIdx j,by simp[aj],?_,?_,?_⟩
   .exact aM (af.mp q1').1
   .refine JP ?_ q2
    rw[aL];exact(pq rem j hj).append_left tk
   ·exact(q3.trans t4).set (ak _) (by exact cJ (by assumption)))
 have XD:rem=[]:=by
  have:=q2.length_eq;simp[aj]at this e2;exact fR 0#2
 subst XD;rw[gg]at q2;refine⟨0::tk,S1++[Cell.lst (aj tk)],bM (G:= [2#7,some (.int m),2#2]) rfl ?_,q3.step 2#6,E9 hm q2⟩;show nA [2#7,some (.int m),none] S=_;refine(aF (bo e0)).trans (bU ?_);have ez:cH 7#6 [2#7,some (.int m),2#2] (S++12#7)=some (.tup [.int 0],S++12#7):=by
  have YF:1<=big:=by decide
  simp[cH,oW (show mC (.int 0) _ _=some (U.int 0,S++12#7) from rfl),aw,YF]
 exact cat_t ez e1 (by simp[aj]at e2 ⊢;omega)
theorem Ke{i:Int}:toD S (f+1) 3#0=some 3#0:=rfl
theorem qI{S:Sto}{f:Nat}:∀(l:List Nat),dG (toD S (f+1)) (aj l)=some (l.map λ(x:Nat)=>en x)
 |[]=>rfl
 | x::l=>by
   show(toD S (f+1) 6#4).bind _=_;rw[Ke];simp only[ah];rw[show JQ (λ(x:Nat)=>U.int x) l=aj l from rfl,qI l];rfl
theorem zX(x:Nat):∀(l:List Nat),x∈l->(l.map λ(x:Nat)=>en x).findIdx? (λy=>dj y 6#4)=some (l.idxOf x)
 |[],h=>by simp at h
 | y::l,h=>by
   have e:dj (.int y) 6#4=decide (y=x):=by
    simp[dj];by_cases hxy:y=x
    .subst hxy;simp
    .have: ¬((y:Int)=x):=by omega
     simp[hxy,this]
   rw[bz,uy,e,List.idxOf_cons];by_cases hxy:y=x
   .subst hxy;simp
   .have hm:x∈l:=by
     rcases a7.mp h with z|z
     .exact absurd z.symm hxy
     .exact z
    have hb:(y==x)=false:=by simpa using hxy
    rw[zX x l hm];simp[hxy,hb]
theorem KA(h:x∈l):G2 S 6#4 (aj l)=some (l.idxOf x):=by
 unfold G2;rw[qI l];simp only[ah];rw[show toD S 40 6#4=some 6#4 from rfl];exact zX x l h
theorem Hr(ho:o G S=some (.tup (aj l),S))(ha:a G S=some 5#8)(h:x∈l):mMT jM o 3#4 G S=some (.int (l.idxOf x:Nat),S1):=by
 simp only[mMT,ho,aw,oW ha,jM,KA h,aN];rfl
theorem uI(h:(aj l)[j]?=some u):j<2#8/\u=.int (oF l j):=by
 have hl:j<l.length:=by have:=(af.mp h).1;simpa [aj]using this
 have:(aj l)[j]?=some (.int l[j]):=by simp[aj,hl]
 rw[this]at h;cases h;exact⟨hl,by simp[oF,hl]⟩
theorem bf(l:List Nat):(aj l).length=2#8:=by simp[aj]
theorem Jg(hm:m<big)(g:∀i j,i<m->j<m->T i j<m)(ho:sh m l):∃S',kq [tab m T,.tup (aj l)] S=some (tab m (nG T (oF l) (pF l)),S')/\Ex S S':=by
 have hlen:=ho.len;obtain⟨S1,e1,h1⟩:=Q2 (G:= [0#9,15#6]) (S:=S) (S0:=S) (a:=ae 1) (us:=aj l) (e:=mFn bC (aa (bL 5#9 cTT (mMT jM 1#0 (aa 18#0 ag))) ag))
  0#0 (by rw[bf,hlen];exact hm) (mq m (nG T (oF l) (pF l))) (λ_ S'=>Ex S S') (Ex.refl _) (by
   intro i u S' hu hx;obtain⟨hi,rfl⟩:=uI hu;rw[hlen]at hi;obtain⟨S2,e2,h2⟩:=Q2 (G:= [0#9,15#6,some (.int (oF l i))]) (S:=S') (S0:=S') (a:=ae 1) (us:=aj l) (e:=mMT jM 1#0 (aa 18#0 ag))
    0#0 (by rw[bf,hlen];exact hm) (λj => .int (nG T (oF l) (pF l) i j)) (λ_ Zh=>Zh=S') rfl (by
     intro j u Zh hu hx;obtain⟨hj,rfl⟩:=uI hu;rw[hlen]at hj;refine⟨Zh,?_,hx⟩
     exact Hr (var_eq rfl) (il (ho.ord.ol j hj) (ig (ho.ord.ol i hi) (var_eq rfl) (var_eq rfl)) (var_eq rfl)) (ho.mem.mpr (g _ _ (ho.ord.ol i hi) (ho.ord.ol j hj))))
   subst h2;rw[bf,hlen]at e2
   exact⟨_,e2,hx.trans (Ex.push _ _)⟩)
 rw[bf,hlen]at e1;exact⟨_,bM (G:= [0#9,15#6]) rfl (show m6 [0#9,15#6] S=_ from bU e1),h1.trans 2#6⟩
theorem ES{x:Int}(ha:a G S=some 5#8)(hb:b G S1=some 8#3):m2 oEq a b G S=some (.bl (x==y),S2):=op2 ha hb rfl
theorem Gm{x:Int}(ha:a G S=some 5#8)(hb:b G S1=some 8#3):m2 oGt a b G S=some (.bl (decide (y<x)),S2):=op2 ha hb rfl
theorem of_eq{b:Bool}(h:a G S=some (.bl b,S1)):cOf a G S=some (b,S1):=by simp only[cOf,h,aw]
theorem or_eq{a b:MT}{x y:Bool}(ha:a G S=some (x,S1))(hb:b G S1=some (y,S2))(e:x=true->S2=S1):cOr a b G S=some (x||y,S2):=by
 cases x
 .simp[cOr,ha,hb,aw]
 .simp[cOr,ha,aw,e rfl]
theorem and_eq{a b:MT}{x y:Bool}(ha:a G S=some (x,S1))(hb:b G S1=some (y,S2))(e:x=false->S2=S1):wU a b G S=some (x&&y,S2):=by
 cases x
 .simp[wU,ha,aw,e rfl]
 .simp[wU,ha,hb,aw]
theorem iJ{c:MT}{a b:MS}(h:c G S=some (true,S1)):sIf c a b G S=a G S1:=by simp[sIf,h,aw]
theorem gF{c:MT}{a b:MS}(h:c G S=some (false,S1)):sIf c a b G S=b G S1:=by simp[sIf,h,aw]
theorem eP(h:ir n S)(hm:0<m)(Zu:m<1000):∃r S',aO [.ref n,.int m] S=some (.int (r:Nat),S')/\r<m/\Stp n S S':=by
 obtain⟨r,S',e,h1,h2,h3,_⟩:=CQ (many:=(m:Int)) h 0#2 0#2;obtain⟨r,rfl⟩:=F5 h1;exact⟨r,S',e,by omega,h3⟩
def gA:MS:=sIf (cOr (cOf (m2 oEq 0#5 1#7)) (cOf (m2 oEq 0#5 4#7))) (bq 3 (mFn fV (aa (m2 bN 1#7 (mFn aO (aa 0#4 (aa (m2 oDiv 1#0 4#7) ag)))) ag))) cM
def gB:MS:=sIf (wU (cOf (m2 oEq 0#5 (mC (.int 3)))) (cOf (m2 oGt 1#0 (mC (.int 7))))) (bq 3 (mFn gQ ag)) cM
def gC:MS:=sIf (cOf (m2 oGt 0#5 (mC (.int 3)))) (aR (bq 4 (m2 bN 4#7 18#4)) (aR (bq 5 (m2 oIx 30#1 (mFn aO (aa 0#4 10#2)))) (aR (sIf (cOf (m2 oGt 13#8 1#0)) (bq 5 (mFn dw 5#3)) cM) (bq 3 (mFn my (aa 2#1 (aa (mFn dw (aa (m2 bN 1#7 (mFn aO (aa 0#4 (aa (m2 oDiv 1#0 13#8) ag)))) ag)) ag))))))) cM
def gD:MS:=sIf (cOf (m2 oEq 18#4 1#9)) (bq 3 (mFn kq (aa 0#8 (aa (mFn kH (aa 0#4 (aa 10#4 ag))) ag)))) cM
structure Gs(n most way:Nat)(S0:Sto)(G:Rho)(S:Sto):Prop where
 ex:∃m T x y,G=[some (.ref n),some (.int most),some (.int way),some (tab m T),x,y]/\Grp m T/\m<=most
 st:Stp n S0 S
section
variable {n most way:Nat}{S0 S:Sto}{G:Rho}
theorem SA(h6:6<=most)(hm:most<1000)(g:Gs n most way S0 G S):∃Y1 S',gA G S=some 6#5/\Gs n most way S0 Y1 S':=by
 obtain⟨⟨m,T,x,y,rfl,gr,hle⟩,st⟩:=g;have hc:=or_eq (of_eq (ES (G:= 19#4) (S:=S) (a:=ae 2) (b:=mC (.int 1)) 0#0 c_i)) (of_eq (ES (a:=ae 2) (b:=mC (.int 2)) 0#0 c_i)) λ_=>rfl;cases hb:(((way:Int)==1)||((way:Int)==2)) with
 | false=>
   rw[hb]at hc;exact⟨_,S,gF hc,⟨m,T,x,y,rfl,gr,hle⟩,st⟩
 | true=>
   rw[hb]at hc;obtain⟨r,S1,e1,w1,s1⟩:=eP (m:=most/2) st.st 0#2 0#2;obtain⟨S2,e2,s2⟩:=Ao (n:=1+r) (S:=S1) 11#4 0#2;refine⟨_,S2,(iJ hc).trans (bo (fC (x:= .int (1+r:Nat)) (add_n (x:=1) c_i (bY 0#0 (uW (y:=2) 0#0 c_i 0#1 0#1) e1)) e2)),⟨_,_,x,y,rfl,AO 11#4,by omega⟩,(st.trans s1).step s2⟩
theorem Sd(g:Gs n most way S0 G S):∃Y1 S',gB G S=some 6#5/\Gs n most way S0 Y1 S':=by
 obtain⟨⟨m,T,x,y,rfl,gr,hle⟩,st⟩:=g;have hc:=and_eq (of_eq (ES (G:= 19#4) (S:=S) (a:=ae 2) (b:=mC (.int 3)) 0#0 c_i)) (of_eq (Gm (a:=ae 1) (b:=mC (.int 7)) 0#0 c_i)) λ_=>rfl;cases hb:(((way:Int)==3)&&decide ((7:Int)<most)) with
 | false=>
   rw[hb]at hc;exact⟨_,S,gF hc,⟨m,T,x,y,rfl,gr,hle⟩,st⟩
 | true=>
   rw[hb]at hc;obtain⟨S2,e2,s2⟩:=Bz (S:=S);have h7:(7:Int)<most:=by simp at hb;exact hb.2
   refine⟨_,S2,(iJ hc).trans (bo (show mFn gQ ag _ S=_ from e2)),⟨_,_,x,y,rfl,Fz,by omega⟩,st.step s2⟩
theorem Dg{G:Rho}{S:Sto}{x y:U}(ha:a G S=some (x,S1))(hb:b G S1=some (y,S2)):bA (aa a (aa b ag)) G S=some (.ref 8#0,S2++[Cell.lst [x,y]]):=by
 have hz:2<=big:=by decide
 simp[bA,aa,ag,aw,ha,hb,hz]
theorem QZ(h6:6<=most)(hm:most<1000)(g:Gs n most way S0 G S):∃Y1 S',gC G S=some 6#5/\Gs n most way S0 Y1 S':=by
 obtain⟨⟨m,T,x,y,rfl,gr,hle⟩,st⟩:=g;have ZM:∀x,x<=most->x<big:=λx hx=>by unfold big;exact az 0#7 (ai 0#7 0#1)
 have hc:=of_eq (Gm (G:= 19#4) (S:=S) (a:=ae 2) (b:=mC (.int 3)) 0#0 c_i);cases hb:decide ((3:Int)<way) with
 | false=>
   rw[hb]at hc;exact⟨_,S,gF hc,⟨m,T,x,y,rfl,gr,hle⟩,st⟩
 | true=>
   rw[hb]at hc;obtain⟨r,S1,e1,w1,s1⟩:=eP (m:=3) st.st 0#1 0#1;have f1:m2 bN 4#7 18#4 19#4 S=some (.int (2+r:Nat),S1):=
    add_n (x:=2) c_i (bY 0#0 c_i e1)
   have VT:2+r<=4:=Nat.add_le_add_left (fg w1) 2;have Vd:2+r<=most:=aB VT (aB 0#1 h6);obtain⟨S2,e2,s2⟩:=lK (n:=2+r) (S:=S1) 11#4 (ZM _ Vd);obtain⟨S3,e3,s3⟩:=Ao (n:=2+r) (S:=S2) 11#4 (az VT 0#1);have ZJ:Stp n S0 (S3++[Cell.lst 29#6]):=(((st.trans s1).step s2).step s3).step 2#6;obtain⟨q,S4,e4,w4,s4⟩:=eP (m:=2) ZJ.st 0#1 0#1;have Zk:S4[S3.length]?=some (Cell.lst 29#6):=by
    refine s4.some ?_ (by rw[aq 1#6];simp);have:=(((st.trans s1).step s2).step s3).st.lt;exact cJ 0#7
   have one:∃k K,atI 29#6 (q:Int)=some (tab k K)/\Grp k K/\k<=8:=by
    rcases q with _|_|q
    .exact⟨_,_,rfl,jT 11#4,aB VT 0#1⟩
    .exact⟨_,_,rfl,AO 11#4,ly 2 VT⟩
    .exact absurd (qf (qf w4)) (Nat.not_lt_zero _)
   obtain⟨k,K,hix,gk,hk8⟩:=one;have f5:m2 oIx 30#1 (mFn aO (aa 0#4 10#2)) [2#7,17#3,some (.int way),0#9,some (.int (2+r:Nat)),y] S1=some (tab k K,S4):=
    mK (Dg (fC (x:= .int (2+r:Nat)) 0#0 e2) (fC (x:= .int (2+r:Nat)) 0#0 e3)) (bY 0#0 c_i e4) Zk hix
   have Za:=ZJ.trans s4;have cut:∃k' K' S5,sIf (cOf (m2 oGt 13#8 1#0)) (bq 5 (mFn dw 5#3)) cM [2#7,17#3,some (.int way),0#9,some (.int (2+r:Nat)),some (tab k K)] S4 =
     some (.nx,[2#7,17#3,some (.int way),0#9,some (.int (2+r:Nat)),some (tab k' K')],S5)/\Grp k' K'/\k'<=most/\k'<=8/\Stp n S0 S5:=by
    have XN:=of_eq (Gm (G:= [2#7,17#3,some (.int way),0#9,some (.int (2+r:Nat)),some (tab k K)]) (S:=S4) (a:=mFn bR (aa 2#1 ag)) (b:=ae 1) 9#5 0#0);cases XX:decide ((most:Int)<k) with
    | false=>
      rw[XX]at XN;have: ¬((most:Int)<k):=by simpa using XX
      exact⟨k,K,S4,gF XN,gk,bX λz=>this (gf.mpr z),hk8,Za⟩
    | true=>
      rw[XX]at XN;obtain⟨S5,e5,s5⟩:=lK (n:=2+r) (S:=S4) 11#4 (ZM _ Vd);exact⟨_,_,S5,(iJ XN).trans (bo (fC (x:= .int (2+r:Nat)) 0#0 e5)),jT 11#4,Vd,aB VT 0#1,Za.step s5⟩
   obtain⟨k',K',S5,f6,P',W8,hk8',Zj⟩:=cut;have kp:=P'.pos;have hdiv:0<most/k':=Nat.div_pos W8 kp;have XM:most/k'<=most:=Nat.div_le_self _ _;obtain⟨t,S6,e6,w6,s6⟩:=eP (m:=most/k') Zj.st hdiv (by exact az 0#7 0#7);have h1t:1+t<=most/k':=by rw[qc];exact w6
   obtain⟨S7,e7,s7⟩:=lK (n:=1+t) (S:=S6) 11#4 (ZM _ (aB h1t XM));obtain⟨S8,e8,s8⟩:=Kq (k:=k') (m:=1+t) (A:=K') (B:=eS (1+t)) (S:=S7) kp (by exact az 0#7 0#1) 11#4 (az (aB h1t XM) hm) P'.cl;have hsz:k'*(1+t)<=most:=aB (ly k' h1t) (Nat.mul_div_le most k');refine⟨_,S8,(iJ hc).trans ((aF (bo f1)).trans ((aF (bo f5)).trans ((aF f6).trans (bo (bY 0#0 (fC (x:= .int (1+t:Nat)) ?_ e7) e8))))),⟨_,_,_,_,rfl,IG P' (jT 11#4),hsz⟩,((Zj.trans s6).step s7).step s8⟩;exact add_n (x:=1) c_i (bY 0#0 (uW 0#0 9#5 kp (by exact az 0#7 0#1)) e6)
theorem Uc(hm:most<1000)(g:Gs n most way S0 G S):∃Y1 S',gD G S=some 6#5/\Gs n most way S0 Y1 S':=by
 obtain⟨⟨m,T,x,y,rfl,gr,hle⟩,st⟩:=g;obtain⟨r,S1,e1,w1,s1⟩:=eP (m:=3) st.st 0#1 0#1;have hc:=of_eq (ES (G:= 19#4) (S:=S) (a:=mFn aO (aa 0#4 22#0)) (b:=mC (.int 0)) (bY 0#0 c_i e1) c_i);cases hb:((r:Int)==0) with
 | false=>
   rw[hb]at hc;exact⟨_,S1,gF hc,⟨m,T,x,y,rfl,gr,hle⟩,st.trans s1⟩
 | true=>
   rw[hb]at hc;obtain⟨l,S2,e2,s2,ol⟩:=Gf (m:=m) s1.st gr.pos (by exact az 0#7 0#7);obtain⟨S3,e3,s3⟩:=Jg (m:=m) (T:=T) (S:=S2) (by unfold big;exact az 0#7 (ai 0#7 0#1)) gr.cl ol;refine⟨_,S3,(iJ hc).trans (bo (bY 0#0 (bY 0#0 9#5 e2) e3)),⟨_,_,x,y,rfl,FN gr ol.ord,hle⟩,((st.trans s1).trans s2).step s3⟩
end
variable{most:Nat}
theorem GA(h:ir n S)(h6:6<=most)(hm:most<1000):∃m T S',kr [.ref n,.int most] S=some (tab m T,S')/\Grp m T/\m<=most/\Stp n S S':=by
 have ZM:∀x,x<=most->x<big:=λx hx=>by unfold big;exact az 0#7 (ai 0#7 0#1)
 obtain⟨way,S1,e1,w1,s1⟩:=eP (m:=8) h 0#1 0#1;obtain⟨r2,S2,e2,w2,s2⟩:=eP (m:=most) s1.st (by exact Nat.zero_lt_of_lt 0#7) hm;obtain⟨S3,e3,s3⟩:=lK (n:=1+r2) (S:=S2) 11#4 (ZM _ 0#2);have f1:m2 bN 1#7 (mFn aO 5#6) [2#7,17#3,some (.int way),none,none,none] S1=some (.int (1+r2:Nat),S2):=add_n (x:=1) (y:=r2) c_i (bY 0#0 0#0 e2);have g0:Gs n most way S [2#7,17#3,some (.int way),some (tab (1+r2) (eS (1+r2))),none,none] S3:=⟨⟨_,_,none,none,rfl,jT 11#4,by omega⟩,(s1.trans s2).step s3⟩;obtain⟨Z0,S4,e4,g4⟩:=SA h6 hm g0;obtain⟨X9,S5,e5,g5⟩:=Sd g4;obtain⟨Z6,S6,e6,g6⟩:=QZ h6 hm g5;obtain⟨Z7,S7,e7,g7⟩:=Uc hm g6;obtain⟨⟨m,T,x,y,rfl,gr,hle⟩,st⟩:=g7;refine⟨m,T,S7,bM (G:= 19#4) rfl ?_,gr,hle,st⟩;show ny [2#7,17#3,none,none,none,none] S=_;exact(aF (bo (bY 0#0 c_i e1))).trans ((aF (bo (fC f1 e3))).trans ((aF e4).trans ((aF e5).trans ((aF e6).trans ((aF e7).trans (bU 0#0))))))
def Scr(ns:List Int)(S:Sto):Prop:=getL S 0=some (ns.map U.int)
variable{ns:List Int}
theorem Scr.ex(h:Scr ns S)(e:∀c,S[0]?=some c->S'[0]?=some c):Scr ns S':=by
 unfold Scr getL at h ⊢
 split at h
 .rename_i us q;rw[e _ q];exact h
 .rename_i us q;rw[e _ q];exact h
 all_goals cases h
theorem Scr.lt(h:Scr ns S):0<0#3:=by
 unfold Scr getL at h
 split at h
 .rename_i q;exact(af.mp q).1
 .rename_i q;exact(af.mp q).1
 all_goals cases h
theorem aX{α:Type}(S:List α)(c:α):(S++[c])[0#3]?=some c:=by
 rw[aq 1#6];simp
theorem NX{x:Int}(ha:a G S=some 5#8)(hb:b G S1=some 8#3):m2 oLt a b G S=some (.bl (decide (x<y)),S2):=op2 ha hb rfl
theorem Ux{x:Int}(ha:a G S=some 5#8)(hb:b G S1=some 8#3):m2 oGe a b G S=some (.bl (decide (y<=x)),S2):=op2 ha hb rfl
theorem MJ(h:getL S r=some us):eW S (.ref r)=none:=by
 unfold getL at h
 show(match S[r]? with
  |some (.dic kvs)=>some kvs
  | _=>none)=none
 split at h<;>rename_i q<;>first | (cases h;done) | (rw[q])
theorem MY(ha:a G S=some (.ref r,S))(hr:getL S r=some us):mFn bR 3#4 G S=some (.int 1#1,S):=
 fC ha (by simp only[bR,MJ hr,dZ,hr,aN])
theorem Uy(ha:a G S=some (.ref n,S1))(hb:b G S1=some (.int z,S2))(hn:getL S2 n=some us)(h:atI us z=some u):m2 oIx a b G S=some (u,S2):=op2 ha hb (by simp only[oIx,MJ hn,dZ,hn,ah,h,aN])
theorem gq{α:Type}{us:List α}{k:Nat}{u:α}(h:us[k]?=some u):atI us (k:Int)=some u:=by
 have hk:k<1#1:=(af.mp h).1;simp[atI,ixN,hk];exact(af.mp h).2
theorem K7{k:Nat}(h:Scr ns S):∃z,ja [.ref 0,.int k] S=some (.int z,S):=by
 have hc:=of_eq (NX (G:= [7#3,3#1]) (S:=S) (a:=ae 1) (b:=mFn bR 5#2) 0#0 (MY 0#0 h));rw[ay]at hc;cases hb:decide ((k:Int)<11#7) with
 | true=>
   rw[hb]at hc;have hk:k<ns.length:=by simpa using hb
   have e:=Uy (G:= [7#3,3#1]) (S:=S) (a:=ae 0) (b:=ae 1) 0#0 0#0 h (gq (k:=k) (u:= .int ns[k]) (by simp[hk]));refine⟨ns[k],bM (G:= [7#3,3#1]) rfl ?_⟩;show gO [7#3,3#1] S=_;unfold gO aR;rw[iJ hc,bU e]
 | false=>
   rw[hb]at hc;refine⟨0,bM (G:= [7#3,3#1]) rfl ?_⟩;show gO [7#3,3#1] S=_;exact(aF ((gF hc).trans rfl)).trans (bU c_i)
theorem Mx:m2 uC (mC (.int 10)) (mC (.int 18)) G S=some (.int (10^(18:Int).toNat),S):=op2 rfl rfl (if_pos 25#4)
theorem Hk{k:Nat}(h:Scr ns S):∃S',nz [.ref 0,.int k] S=some 14#6/\Ex S S'/\ir S.length S':=by
 obtain⟨z,e1⟩:=K7 (k:=k) h;have e2:bq 2 (mFn ja 5#6) [7#3,3#1,none] S=some (.nx,20#7,S):=bo (bY 0#0 0#0 e1);have hc:=of_eq (Ux (G:= 20#7) (S:=S) (a:=ae 2) 0#0 Mx);generalize hp:(10:Int)^(18:Int).toNat=p at hc;have hpe:∀G (S:Sto),m2 uC (mC (.int 10)) (mC (.int 18)) G S=some (.int p,S):=λG S=>by rw[Mx,hp]
 cases hb:decide (p<=z) with
 | true=>
   rw[hb]at hc;have e3:=Dg (G:= 20#7) (S:=S) (a:=m2 oB 0#5 (m2 uC (mC (.int 10)) (mC (.int 18)))) (b:=mC (.bl true)) (Hg 0#0 (hpe _ _)) rfl;refine⟨_,bM (G:= 20#7) rfl ?_,Ex.push _ _,⟨z-p,true,aX _ _⟩⟩;show kG [7#3,3#1,none] S=_;refine(aF e2).trans ?_;unfold aR;rw[iJ hc,bU e3]
 | false=>
   rw[hb]at hc;have e3:=Dg (G:= 20#7) (S:=S) (a:=m2 oMod 0#5 (mC (.int 2147483647))) (b:=mC (.bl false)) (MO 0#0 c_i 0#1) rfl;refine⟨_,bM (G:= 20#7) rfl ?_,Ex.push _ _,⟨z%2147483647,false,aX _ _⟩⟩;show kG [7#3,3#1,none] S=_;exact(aF e2).trans ((aF ((gF hc).trans rfl)).trans (bU e3))
theorem zQ{i n:Nat}{b:MS}(us:List U)(P:Nat->Rho->Sto->Prop)(hl:∀k G S,P k G S->getL S n=some us)
  (st:∀(k:Nat) (u:U) (G:Rho) (S:Sto),us[k]?=some u->P k G S->∃Y1 S',b (G.set i (some u)) S=some 6#5/\P (k+1) Y1 S'):
  ∀(f k:Nat) (G:Rho) (S:Sto),k<=1#1->1#1-k<f->P k G S->∃Y1 S',forL i b n f k G S=some 6#5/\P us.length Y1 S'
 |0,k,G,S,h1,h2,_=>by omega
 | f+1,k,G,S,h1,h2,hp=>by
   unfold forL;rw[hl k G S hp];simp only[ah];by_cases hk:k<1#1
   .have hu:us[k]?=some us[k]:=by simp[hk]
    obtain⟨Y2,S1,e1,p1⟩:=st k us[k] G S hu hp;obtain⟨Y8,S2,e2,p2⟩:=zQ us P hl st f (k+1) Y2 S1 0#7 0#2 p1;refine⟨Y8,S2,?_,p2⟩;simp only[hu,aft,e1,e2]
   .have:k=1#1:=by omega
    subst this;exact⟨G,S,by simp,hp⟩
theorem o5{b:MS}{G:Rho}{S:Sto}(he:e G S=some (.ref n,S1))(hu:1#1<100000)(P:Nat->Rho->Sto->Prop)(h0:P 0 G S1)(hl:∀k G S,P k G S->getL S n=some us)
  (st:∀(k:Nat) (u:U) (G:Rho) (S:Sto),us[k]?=some u->P k G S->∃Y1 S',b (G.set i (some u)) S=some 6#5/\P (k+1) Y1 S'):
  ∃Y1 S',dU i (bZ e) b G S=some 6#5/\P us.length Y1 S':=by
 obtain⟨Y1,S',e1,p1⟩:=zQ us P hl st fuel 0 G S1 (dB _) (by unfold fuel;assumption) h0;refine⟨Y1,S',?_,p1⟩;unfold dU bZ;rw[he];simp only[aw,hl 0 G S1 h0,aN];exact e1
theorem pA{b:MS}{G:Rho}{S:Sto}(he:e G S=some (.tup us,S1))(P:Nat->Rho->Sto->Prop)(h0:P 0 G S1)
  (st:∀(k:Nat) (u:U) (G:Rho) (S:Sto),us[k]?=some u->P k G S->∃Y1 S',b (G.set i (some u)) S=some 6#5/\P (k+1) Y1 S'):
  ∃Y1 S',dU i (bZ e) b G S=some 6#5/\P us.length Y1 S':=by
 obtain⟨Y1,S',e1,p1⟩:=rA (i:=i) (b:=b) P us 0 G S1 h0 λj u G S hj hp=>by simpa using st j u G S hj 18#9
 rw[dY]at p1;refine⟨Y1,S',?_,p1⟩;unfold dU bZ;rw[he];exact e1
def eR(T:Nat->Nat->Nat)(w:List Nat):Nat:=w.foldl T 0
def plc(T:Nat->Nat->Nat)(w:List Nat):List Nat:=(aA (3#3+1)).map λk=>eR T (w.take k)
theorem Eb(hp:0<m)(cl:∀i j,i<m->j<m->T i j<m){w:List Nat}(hw:∀x∈w,x<m):eR T w<m:=by
 unfold eR;have:∀(w:List Nat) (a:Nat),a<m->(∀x∈w,x<m)->w.foldl T a<m:=by
  intro w
  induction w with
  |nil=>intro a ha _;exact ha
  |cons x w ih=>intro a ha h;exact ih _ (cl a x ha (h x 0#6)) λy hy=>h y (by simp[hy])
 exact this w 0 hp hw
variable{w:List Nat}
theorem xQ{k:Nat}(h:w[k]?=some x):eR T (w.take (k+1))=T (eR T (w.take k)) x:=by
 unfold eR;rw[mO,h];simp
theorem Hv{α:Type}{f:Nat->α}{k:Nat}:atI ((aA (k+1)).map f) (-1)=some (f k):=by
 have e:ixN ((aA (k+1)).map f).length (-1)=some k:=by
  rw[ay,br];unfold ixN;rw[if_neg 0#1,if_pos 0#2]
  congr 1;omega
 unfold atI;rw[e];simp
theorem gM{k:Nat}(h:(aj l)[k]?=some u):∃x,l[k]?=some x/\u=.int x:=by
 obtain⟨hk,rfl⟩:=uI h;exact⟨oF l k,by simp[oF,hk],rfl⟩
theorem Aw:m1 gS 1#7 G S=some (.int (-1),S):=rfl
theorem mn:∀(a b:List Nat),cK (a.map λ(x:Nat)=>en x) (b.map λ(x:Nat)=>en x)=decide (a=b)
 |[],[]=>by simp[cK]
 |[],_::_=>by simp[cK]
 |_::_,[]=>by simp[cK]
 | x::a,y::b=>by
   simp only[bz,cK,dj,mn a b];by_cases h:x=y
   .subst h;simp
   .have: ¬((x:Int)=y):=by omega
    simp[h,this]
theorem lI:toD S (f+2) (.tup (aj l))=some (.tuple (l.map λ(x:Nat)=>en x)):=by
 show(dG (toD S (f+1)) (aj l)).map _=_;rw[qI l];rfl
theorem DO{a b:List Nat}:_G.eqU S (.tup (aj a)) (.tup (aj b))=some (decide (a=b)):=by
 unfold _G.eqU;rw[lI (f:=38),lI (f:=38)];simp only[ah,aN,dj,mn]
theorem Qj{x y:List Nat}(ha:a G S=some (.tup (aj x),S1))(hb:b G S1=some (.tup (aj y),S2)):m2 oNe a b G S=some (.bl (!decide (x=y)),S2):=
 op2 ha hb (by simp only[oNe,DO,aN])
theorem isT (ha:a G S=some (.tup us,S1)):m1 (gv "tuple") a G S=some (.bl true,S1):=by
 simp only[m1,ha,aw,gv,tyU,aN];rfl
theorem not_eq{c:MT}{b:Bool}(h:c G S=some (b,S1)):kj c G S=some (!b,S1):=by simp only[kj,h,aw]
theorem KY{t:Nat}{S:Sto}{sv mv:ME}(ha:a G S=some (.int t,S0))(ht:t<1000)(h:ir n S0)(hm:0<m)(Zu:m<1000)
  (hs:∀z (S:Sto),sv (G++[z]) S=some (.ref n,S)) (hv:∀z (S:Sto),mv (G++[z]) S=some (.int m,S)):
  ∃w S',mFn bC (aa (bL (iR1 3#4) cTT (mFn aO (aa sv (aa mv ag)))) ag) G S=some (.tup (aj w),S')/\Stp n S0 S'/\(∀x∈w,x<m)/\3#3=t:=by
 obtain⟨ys,S1,e1,⟨w,rfl,q1,q2⟩,q3⟩:=xT (e:=mFn aO (aa sv (aa mv ag))) ha 22#9 (λacc S' =>∃w,acc=aj w/\(∀x∈w,x<m)/\Stp n S0 S') ⟨[],rfl,by simp,Stp.refl h⟩ (by
  rintro k acc S' hk hl ⟨w,rfl,q1,q2⟩;obtain⟨r,S2,e2,h2,h3⟩:=eP (m:=m) q2.st hm Zu;refine⟨_,S2,bY (hs _ _) (hv _ _) e2,w++[r],by simp[aj],λx hx=>?_,q2.trans h3⟩;rcases aY.mp hx with hx |hx
  .exact q1 x hx
  ·simp at hx;omega)
 exact⟨w,_,e1,q2.step 2#6,q1,by simpa [aj]using q3⟩
theorem Eg{c:ME}{x y z:U}(ha:a G S=some (x,S1))(hb:b G S1=some (y,S2))(hc:c G S2=some (z,S3)):bA (aa a (aa b (aa c ag))) G S=some (.ref S3.length,S3++[Cell.lst [x,y,z]]):=by
 have hq:3<=big:=by decide
 simp[bA,aa,ag,aw,ha,hb,hc,hq]
theorem F9{c:Nat}(h:Scr ns S)(hv:G[0]?=some (some (.ref 0)))(hl:11#7<=63):∃q:Nat,q<1000/\mFn B3 (aa 1#7 (aa (mFn uH (aa 7#5 (aa (mC (.int c)) ag))) ag)) G S=some (.int q,S):=by
 have e1:mFn uH (aa 7#5 (aa (mC (.int c)) ag)) G S=some (.int (if (c:Int)<(ns.map U.int).length then(c:Int) else(ns.map U.int).length),S):=bY (MY (var_eq hv) h) c_i rfl;have e2:=bY (f:=B3) (a:=mC (.int 1)) (S:=S) (G:=G) c_i e1 rfl;rw[ay]at e2;refine⟨max 1 (min ns.length c),Nat.max_lt.mpr ⟨by decide,az (aB (lh _ _) hl) 0#1⟩,?_⟩;rw[e2];show some (U.int (if 24#7>1 then 24#7 else 1),S)=_;have:(if 24#7>1 then 24#7 else 1)=((max 1 (min ns.length c):Nat):Int):=by
  by_cases h:(c:Int)<11#7
  .rw[zM (aV (gf.mp h)),if_pos h]
   split
   .rename_i h1;rw[Nat.max_eq_right (aV (gf.mp h1))]
   .rename_i h1;rw[Nat.max_eq_left (bX λz=>h1 (gf.mpr z))];rfl
  .rw[Bs (bX λz=>h (gf.mpr z)),if_neg h]
   split
   .rename_i h1;rw[Nat.max_eq_right (aV (gf.mp h1))]
   .rename_i h1;rw[Nat.max_eq_left (bX λz=>h1 (gf.mpr z))];rfl
 rw[this]
theorem B1{S:Sto}(ha:a G S=some (.int n,S0))(hn:n<big)(g:Nat->U)(P:Nat->Sto->Prop)(h0:P 0 S0)
  (hs:∀(j:Nat) (S:Sto),j<n->P j S->∃S',e (G++[some (.int j)]) S=some (g j,S')/\P (j+1) S'):
  ∃S',bL (iR1 3#4) cTT e G S=some (.ref S'.length,S'++[.lst ((aA n).map g)])/\P n S':=by
 obtain⟨S1,e1,h1⟩:=jV (e:=e) (G:=G) g P (bj 0 n) 0 [] S0 h0 λj u S hj hp=>by
  have hl:j<n:=by have:=(af.mp hj).1;simpa [bj]using this
  have hu:(bj 0 n)[j]?=some (.int j):=by simp[bj,hl]
  rw[hu]at hj;cases hj;simpa using hs j S hl 18#9
 have hlen:(bj 0 n).length=n:=by simp[bj]
 simp only[hlen,dY,dv]at e1 h1;exact⟨S1,jJ (jH ha hn) e1 (by rw[ay,br];exact hn),h1⟩
variable{y:Nat}
theorem P4(ha:a G S=some 5#8)(hb:b G S1=some 8#3):m2 oEq a b G S=some (.bl (decide (x=y)),S2):=by
 rw[ES ha hb]
 congr 3
 by_cases h:x=y
 .subst h;simp
 .have: ¬((x:Int)=y):=by omega
  simp[h,this]
theorem Qr(ha:a G S=some 5#8)(hb:b G S1=some 8#3):m2 oNe a b G S=some (.bl (!decide (x=y)),S2):=by
 rw[op2 (f:=oNe) ha hb rfl];show some (U.bl (!((x:Int)==y)),S2)=_
 congr 4
 by_cases h:x=y
 .subst h;simp
 .have: ¬((x:Int)=y):=by omega
  simp[h,this]
theorem DD{α:Type}(f:α->Bool):∀(l:List α),dG j4 (l.map λx=>U.bl (f x))=some (l.map f)
 |[]=>rfl
 | x::l=>by
   show(j4 (.bl (f x))).bind _=_;simp only[j4,ah];rw[DD f l];rfl
theorem IF{α:Type}{l:List α}{f:α->Bool}(ha:a G S=some (.ref 4#4,S1++[Cell.lst (l.map λx=>U.bl (f x))])):mFn sx 3#4 G S=some (.bl (l.all f),S1++[Cell.lst (l.map λx=>U.bl (f x))]):=by
 refine fC ha ?_;simp only[sx,getL,aX,ah,DD,aN];rw[List.all_map];rfl
theorem jz{a b:MS}(h:a G S=some (.rt u,Y2,S1)):aR a b G S=some (.rt u,Y2,S1):=by simp only[aR,h]
def Mr:MS:=aR (bq 2 1#9) (aR (dU 3 5#9 (bq 2 18#0)) (b9 0#5))
theorem DR{w:List Nat}(g:Grp m T)(hw:∀x∈w,x<m):_G.run 2 4 Mr [tab m T,.tup (aj w)] S=some (.int (eR T w),S):=by
 obtain⟨Y2,S1,e1,⟨x,rfl⟩,rfl⟩:=pA (i:=3) (b:=bq 2 18#0) (e:=ae 1) (G:= [0#9,some 4#2,some (.int 0),none]) (S:=S) (S1:=S) (us:=aj w) 0#0
  (λk G S'=>(∃x,G = [0#9,some 4#2,some (.int (eR T (w.take k))),x])/\S'=S) ⟨⟨none,rfl⟩,rfl⟩ (by
   rintro k u G S' hu ⟨⟨x,rfl⟩,rfl⟩;obtain⟨y,hy,rfl⟩:=gM hu;have YB:y<m:=hw y (bu hy);have YM:eR T (w.take k)<m:=Eb g.pos g.cl λz hz=>hw z (ib hz);refine⟨_,_,bo (il YB (ig YM 0#0 0#0) 0#0),⟨some (.int y),?_⟩,rfl⟩
   rw[xQ hy];rfl)
 rw[bf,oy]at e1;exact bM (G:= [0#9,some 4#2,some (.int (eR T w)),x]) rfl (show Mr [0#9,some 4#2,none,none] S1=_ from(aF (bo rfl)).trans ((aF e1).trans (bU 0#0)))
theorem l6(ha:a G S=some (u,S1)):cH 3#4 G S=some (.tup [u],S1):=by
 have YF:1<=big:=by decide
 simp[cH,oW ha,aw,YF]
theorem qO(h:S[n]?=some 17#1):toD S (f+2) (.ref n)=some (.list (l.map λ(x:Nat)=>en x)):=by
 show(getL S n).bind _=_;have:getL S n=some (aj l):=by unfold getL;rw[h]
 rw[this];simp only[ah];rw[qI l];rfl
theorem Ea{k:Nat}{x y:List Nat}(ha:a G S=some (.ref n,S1))(hb:b G S1=some (.ref k,S2))(hn:S2[n]?=some (Cell.lst (aj x)))(hk:S2[k]?=some (Cell.lst (aj y))):m2 oNe a b G S=some (.bl (!decide (x=y)),S2):=by
 refine op2 ha hb ?_;unfold oNe _G.eqU;rw[qO (f:=38) hn,qO (f:=38) hk];simp only[ah,aN,dj,mn]
theorem Ko (ha:a G S=some (.int z,S1)):m1 (gv "int") a G S=some (.bl true,S1):=by
 simp only[m1,ha,aw,gv,tyU,aN];rfl
theorem Kf (ha:a G S=some (.int z,S1)):m1 (gv "bool") a G S=some (.bl false,S1):=by
 simp only[m1,ha,aw,gv,tyU,aN];rfl
theorem RL{b:Bool}(ha:a G S=some (.bl b,S1)):m1 pG a G S=some (.bl (!b),S1):=by
 simp only[m1,ha,aw,pG]
theorem CP{r:Res U}(ha:a G S=some (.bl true,S1))(hb:b G S1=r):iZ a b G S=r:=by
 simp only[iZ,ha,aw,hb]
theorem or_false{a b:MT}(ha:a G S=some (false,S1))(hb:b G S1=some (false,S2)):cOr a b G S=some (false,S2):=by
 rw[or_eq ha hb 21#5];rfl
def jh(l:List Nat):List Int:=l.map λ(x:Nat)=>(x:Int)
def srt(l:List Nat):List Nat:=(tD (jh l)).map zN
theorem B9(l:List Nat):(tD (jh l)).map U.int=aj (srt l):=by
 unfold aj srt;rw[eG];apply bO;intro i hi;have hm:=(j6 (jh l)).mem_iff.mp hi;obtain⟨x,_,rfl⟩:=aU.mp hm;rfl
theorem uV:∀l:List Nat,(jh l).map zN=l
 |[]=>rfl
 | x::l=>by
   show zN (x:Int)::(jh l).map zN=x::l;rw[uV l];rfl
theorem lE(l:List Nat):(srt l).Perm l:=by
 have h:=(j6 (jh l)).map zN;rw[uV]at h;exact h
theorem yn{a b:List Nat}(p:a.Perm b):srt a=srt b:=by
 unfold srt;rw[wj ((j6 (jh a)).trans (p.map _)) (vj _)];rfl
theorem eD:x∈srt l↔x∈l:=(lE l).mem_iff
theorem kA(l:List Nat):(srt l).length=2#8:=(lE l).length_eq
theorem pb:∀(l:List Nat),dG vv (aj l)=some (jh l)
 |[]=>rfl
 | x::l=>by
   show(vv 6#4).bind _=_;simp only[vv,ah];rw[show JQ (λ(x:Nat)=>U.int x) l=aj l from rfl,pb l];rfl
def ek(l:List Nat):List (_L.Key×U):=l.map λ(x:Nat)=>(fI (x:Int),U.bl true)
theorem yp:∀(l:List Nat),dG lU (ek l)=some (jh l)
 |[]=>rfl
 | x::l=>by
   show(lU (fI (x:Int),U.bl true)).bind _=_;simp only[lU,ah];rw[show JQ (λ(x:Nat)=>(fI (x:Int),U.bl true)) l=ek l from rfl,yp l];rfl
theorem qU{x:U}(h:tw S x=some (jh l))(hl:2#8<64):dh [x] S=some (.ref 0#3,S++[.lst (aj (srt l))]):=by
 have ok:Cc (jh l).length:=by unfold jh;rw[ay];exact hl
 simp only[dh,h,ah,ok,if_true,B9]
theorem qx(ha:a G S=some (.ref n,S1))(hn:S1[n]?=some 17#1)(hl:2#8<64):mFn dh 3#4 G S=some (.ref 4#4,S1++[.lst (aj (srt l))]):=
 fC ha (qU (by simp only[tw,eW,hn,dZ,getL,ah,pb]) hl)
theorem Ia(ha:a G S=some (.ref n,S1))(hn:S1[n]?=some (Cell.dic (ek l)))(hl:2#8<64):mFn dh 3#4 G S=some (.ref 4#4,S1++[.lst (aj (srt l))]):=
 fC ha (qU (by simp only[tw,eW,hn,yp]) hl)
def wY(m:List (_L.Key×U))(k:_L.Key):Bool:=(j8 m k).isSome
theorem qM{m:List (_L.Key×U)}{k:_L.Key}:wY m k=true ↔ ∃kv∈m,kv.1=k:=by
 unfold wY j8;rw[mD,List.find?_isSome];simp
variable{kvs:List (_L.Key×U)}
theorem y0{x:Int}(ha:a G S=some 5#8)(hb:b G S1=some (.ref r,S2))(hr:S2[r]?=some (Cell.dic kvs)):cOf (m2 eJ a b) G S=some (!wY kvs (.inl x),S2):=
 of_eq (op2 ha hb (by simp only[eJ,eW,hr,keyOf,aN,wY]))
theorem Q7{i:ME}{x:Int}(ho:o G S=some (.ref r,S))(hi:i G S=some (.int x,S))(hr:S[r]?=some (Cell.dic kvs))(hl:3#2<big):eI o i 7#4 G S=some (.nx,G,S.set r (.dic (kY kvs (.inl x) (.bl true)))):=by
 simp only[eI,mC,aw,ho,hi,hr,keyOf,ah,hl,if_true]
section
variable {m:Nat}{T:Nat->Nat->Nat}{t n:Nat}
end
open PySem in
theorem l9(s:String):dy (xy s)=true:=by
 rw[Str.ofString_eq_toList];unfold dy;rw[Array.all_eq_true_iff_forall_mem];intro c hc;obtain⟨x,_,rfl⟩:=aU.mp (List.mem_toArray.mp hc);have h:=x.valid;simp only[UInt32.isValidChar,Nat.isValidChar]at h;have e:x.toNat=x.val.toNat:=rfl;simp only[decide_eq_true_eq];omega
open PySem in
theorem lT{x y:Str}(hx:dy x=true)(hy:dy y=true):dy (x++y)=true:=by
 unfold dy at *;show(x.cps++y.cps).all _=true;rw[Array.all_append,hx,hy];rfl
open PySem in
theorem AM :∀ ts:List Str,(∀ t∈ts,dy t=true)->dy (Str.join ", " ts)=true
 |[],_=>by decide +kernel
 |[x],h=>h x 0#6
 | x::y::r,h=>by
   show dy (x++_++Str.join ", " (y::r))=true;exact lT (lT (h x 0#6) (l9 _)) (AM (y::r) λt ht=>h t (by simp[ht]))
inductive Pl:ji->Prop where
 |non:Pl .none
 |bl (b:Bool):Pl (.bool b)
 |int (i:Int):i.natAbs<10^12->Pl (.int i)
 |lst (xs:List ji):(∀x∈xs,Pl x)->Pl (.list xs)
 |tup (xs:List ji):(∀x∈xs,Pl x)->Pl (.tuple xs)
open PySem in
theorem lV:∀{xs:List PyData}{t:Str},t∈yz xs->∃x∈xs,t=x.shown
 |[],t,h=>by simp[yz]at h
 | x::xs,t,h=>by
   simp only[yz,a7]at h;rcases h with h|h
   .exact⟨x,by simp,h⟩
   .obtain⟨y,hy,e⟩:=lV h
    exact⟨y,by simp[hy],e⟩
open PySem in
theorem AE:∀(ts:List Str) (k:Nat) (acc:Str),dy acc=true->(∀t∈ts,dy t=true)->dy (textFrom k acc ts)=true
 |[],_,acc,h,_=>h
 | t::r,k,acc,h,ht=>by
   show dy (textFrom (k+1) _ r)=true;exact AE r _ _ (lT (lT h (l9 _)) (ht t 0#6)) λx hx=>ht x (by simp[hx])
open PySem in
theorem Pl.sok{d:PyData}(h:Pl d):dy d.shown=true:=by
 induction h with
 |non=>exact l9 "None"
 |bl b=>cases b<;>exact l9 _
 |int i _=>exact l9 _
 | lst xs _ ih=>
   rw[PyData.shown];show dy (textFrom 0 "[" _++_)=true;refine lT (AE _ _ _ (l9 "[") fun t ht=>?_) (l9 "]");obtain⟨x,hx,rfl⟩:=lV ht;exact ih x hx
 | tup xs _ ih=>
   rw[PyData.shown];unfold tupleText;refine lT (lT (l9 "(") (AM _ fun t ht=>?_)) (l9 _);obtain⟨x,hx,rfl⟩:=lV ht;exact ih x hx
open PySem in
theorem vD:∀{xs:List PyData},(∀x∈xs,x.canLay0=true)->fb xs=true
 |[],_=>by simp[fb]
 |x::xs,h=>by simp[fb,h x 0#6,vD (xs:=xs) λy hy=>h y (aE _ hy)]
open PySem in
theorem uR:∀{xs:List PyData},(∀x∈xs,x.showable=true)->tI xs=true
 |[],_=>by simp[tI]
 |x::xs,h=>by simp[tI,h x 0#6,uR (xs:=xs) λy hy=>h y (aE _ hy)]
open PySem in
theorem rR:∀{xs:List PyData},(∀x∈xs,x.intsShort 13=true)->rH 13 xs=true
 |[],_=>by simp[rH]
 |x::xs,h=>by simp[rH,h x 0#6,rR (xs:=xs) λy hy=>h y (aE _ hy)]
theorem Hq{i:Int}(h:i.natAbs<10^12):i.natAbs.log2<40:=by
 by_cases h0:i.natAbs=0
 .rw[h0];decide
 .rw[Nat.log2_lt h0]
  exact ai h 0#1
open PySem in
theorem Pl.lay{d:PyData}(h:Pl d):d.canLay0=true/\d.showable=true/\d.intsShort 13=true:=by
 induction h with
 |non=>exact⟨by simp[dR],by simp[iH],by simp[jE]⟩
 |bl b=>exact⟨by simp[dR],by simp[iH],by simp[jE]⟩
 |int i hi=>exact⟨by simp[dR],by simp only[iH,decide_eq_true_eq];exact dc (Hq hi) 0#1,by simp only[jE,decide_eq_true_eq];exact PyData.shown_int_le hi⟩
 |lst xs _ ih=>exact⟨by simp only[dR];exact vD λx hx=>(ih x hx).1,by simp only[iH];exact uR λx hx=>(ih x hx).2.1,by simp only[jE];exact rR λx hx=>(ih x hx).2.2⟩
 |tup xs _ ih=>exact⟨by simp only[dR];exact vD λx hx=>(ih x hx).1,by simp only[iH];exact uR λx hx=>(ih x hx).2.1,by simp only[jE];exact rR λx hx=>(ih x hx).2.2⟩
open PySem in
theorem uY{B:Nat}:∀{xs:List PyData},(∀x∈xs,x.weight<=B)->wM xs<=1#5*(B+1)
 |[],_=>by simp[wM]
 | x::xs,h=>by
   have h1:=h x 0#6;have h2:=uY (B:=B) (xs:=xs) λy hy=>h y (by simp[hy]);simp only[wM,bB];rw[lM];omega
open PySem in
theorem ve{i:Int}(h:i.natAbs<10^12):(PyData.int i).weight<=40:=by
 simp only[PyData.weight];have:=Hq h
 split<;>omega
open PySem in
theorem Pl.ok{d:PyData}(h:Pl d)(hd:d.depth<=64)(hw:d.weight<=1048576):pf d:=
 ⟨h.lay.2.1,PyData.shown_fits_of_layable0 (B:=13) 0#1 0#1 (by unfold PyData.layable0;rw[h.lay.1];simp[hd,hw]) h.lay.2.2⟩
theorem DF{x:U}{d:ji}(ha:a G S=some (x,S1))(hd:toD S1 40 x=some d)(ho:pf d):mFn oQ 3#4 G S=some (.str d.shown,S1):=by
 refine fC ha ?_;simp only[oQ,hd,ah,if_pos ho]
theorem KS{x:Ep}(h:Bx x=true):_G.eqU S (.str x) (.str x)=some true:=by
 have e:toD S 40 (.str x)=some (.str x):=by
  unfold toD;rw[if_pos (by simpa [PySem.PyData.canLay0]using h)]
 unfold _G.eqU;rw[e];simp[dj]
theorem Hh{x:Ep}(ha:a G S=some (.str x,S1))(hb:b G S1=some (.str x,S2))(h:Bx x=true):m2 oEq a b G S=some (.bl true,S2):=
 op2 ha hb (by simp only[oEq,KS h,aN])
def tY(l:List Nat):ji:= .tuple (l.map λ(x:Nat)=>en x)
open PySem in
theorem Da{l:List Nat}(h:∀x∈l,x<1000):Pl (tY l):=by
 refine .tup _ λd hd=>?_;obtain⟨x,hx,rfl⟩:=aU.mp hd;have:=h x hx;exact .int _ (by rw[wJ];exact dc this 0#1)
theorem uX:∀l:List Nat,iL (l.map λ(x:Nat)=>en x)<=1
 |[]=>by simp[iL]
 | x::l=>by
   have:=uX l;simp only[bz,iL,By];assumption
open PySem in
theorem KG{l:List Nat}(h:∀x∈l,x<1000)(hl:2#8<=1000):pf (tY l):=by
 refine(Da h).ok ?_ ?_
 .have:=uX l
  simp only[tY,jd];exact az 0#7 0#1
 .simp only[tY,PyData.weight]
  have:=uY (B:=40) (xs:=l.map λ(x:Nat)=>PyData.int x) λd hd=>by
   obtain⟨x,hx,rfl⟩:=aU.mp hd;have:=h x hx;exact ve (by rw[wJ];exact dc this 0#1)
  rw[ay]at this;omega
def Hw:MS:=b9 (m2 oEq (mFn oQ 5#2) (mFn oQ 3#9))
theorem IW{x y:U}{d:ji}(hx:toD S 40 x=some d)(hy:toD S 40 y=some d)(hp:Pl d)(ho:pf d):_G.run 2 2 Hw [x,y] S=some (.bl true,S):=
 bM (G:= [some x,some y]) rfl (show Hw [some x,some y] S=_ from bU (Hh (DF 0#0 hx ho) (DF 0#0 hy ho) hp.sok))
theorem GT{l:List Nat}(h:∀x∈l,x<1000)(hl:2#8<=1000):_G.run 2 2 Hw [.tup (aj l),.tup (aj l)] S=some (.bl true,S):=
 IW (d:=tY l) lI lI (Da h) (KG h hl)
theorem jW{f:MF}{c:ME}{x y z:U}{r:Res U}(ha:a G S=some (x,S1))(hb:b G S1=some (y,S2))(hc:c G S2=some (z,S3))(h:f [x,y,z] S3=r):mFn f (aa a (aa b (aa c ag))) G S=r:=by
 simp only[mFn,aa,ag,ha,hb,hc,aw,h]
theorem ug{c:MT}{b:MS}(P:Nat->Rho->Sto->Prop)(Q:Rho->Sto->Prop)
  (hc:∀μ G S,P μ G S->∃k S1,c G S=some (k,S1)/\(k=false->Q G S1)/\(k=true->∃Y1 S' Y4,Y4<μ/\b G S1=some 6#5/\P Y4 Y1 S')):
  ∀(f μ:Nat) (G:Rho) (S:Sto),μ<f->P μ G S->∃Y1 S',whl c b f G S=some 6#5/\Q Y1 S'
 |0,μ,G,S,h,_=>by omega
 | f+1,μ,G,S,h,hp=>by
   obtain⟨k,S1,e,q1,q2⟩:=hc μ G S hp;unfold whl;rw[e];simp only[aw];cases k with
   |false=>exact⟨G,S1,by simp,q1 rfl⟩
   | true=>
     obtain⟨Y2,S2,Y0,hl,e1,p1⟩:=q2 rfl;obtain⟨Y8,S3,e2,q⟩:=ug P Q hc f Y0 Y2 S2 0#2 p1;exact⟨Y8,S3,by simp only[if_true,aft,e1,e2],q⟩
section
variable {S x:Sto}{c e c' e':Cell}
theorem h0:(S++[c,e]++x)[0#3]?=some c:=by rw[aL,aq 1#6];simp
theorem h1:(S++[c,e]++x)[0#3+1]?=some e:=by rw[aL,aq (by exact cX _)];simp
theorem t0:(S++[c,e]++x).set S.length c'=S++[c',e]++x:=by
 rw[aL,dE _ _ 1#6,lP,aL];rfl
theorem t1:(S++[c,e]++x).set (0#3+1) e'=S++[c,e']++x:=by
 rw[aL,dE _ _ (by exact cX _),show 0#3+1-0#3=1 by omega,aL];rfl
end
theorem vm:wY (ek l) 10#0=decide (x∈l):=by
 have:wY (ek l) 10#0=true↔x∈l:=by
  rw[qM];unfold ek;constructor
  .rintro ⟨kv,hm,e⟩
   obtain⟨y,hy,rfl⟩:=aU.mp hm;have e':(y:Int)=x:=Sum.inl.inj e;have:y=x:=by omega
   rw[<-this];exact hy
  .intro h
   exact⟨_,aU.mpr ⟨x,h,rfl⟩,rfl⟩
 by_cases h:x∈l
 .rw[this.mpr h];simp[h]
 .cases q:wY (ek l) 10#0 with
  |true=>exact absurd (this.mp q) h
  |false=>simp[h]
theorem Dx(h:x∉l):kY (ek l) 10#0 (.bl true)=ek (l++[x]):=by
 unfold kY;rw[if_neg]
 .simp[ek]
 .intro z
  obtain⟨kv,hm,e⟩:=fJ.mp z;have:wY (ek l) 10#0=true:=qM.mpr ⟨kv,hm,of_decide_eq_true e⟩;rw[vm]at this;exact h (of_decide_eq_true this)
theorem Be(l:List Nat):(ek l).length=2#8:=by simp[ek]
variable{h:Nat}
theorem Ek(ho:o G S=some (.ref r,S))(hr:S[r]?=some (Cell.lst (aj (l++[h])))):mML nM o ag G S=some (.int h,S.set r 17#1):=by
 simp only[mML,ho,aw,getL,hr,ah,ag,nM];simp[aj,JR]
inductive Rch(T:Nat->Nat->Nat)(ths:List Nat):Nat->Prop where
 |zero:Rch T ths 0
 |step {x y:Nat}:Rch T ths x->y∈ths->Rch T ths (T x y)
structure Dfs(m:Nat)(T:Nat->Nat->Nat)(ths:List Nat)(ks:List Nat)(C:Nat->Prop):Prop where
 nd:ks.Nodup
 lt:∀x∈ks,x<m
 z:0∈ks
 rc:∀x∈ks,Rch T ths x
 cl:∀x∈ks,C x \/ ∀y∈ths,T x y∈ks
section
variable {m:Nat}{T:Nat->Nat->Nat}{ths ks st:List Nat}
theorem Dfs.all(d:Dfs m T ths ks λ_=>False):x∈ks↔Rch T ths x:=by
 refine⟨d.rc x,λh=>?_⟩
 induction h with
 |zero=>exact d.z
 |step _ hy ih=>exact((d.cl _ ih).resolve_left id) _ hy
theorem Dfs.len(d:Dfs m T ths ks C):ks.length<=m:=sg m ks d.nd d.lt
theorem Dd{a b:List Nat}(ha:a.Nodup)(hb:b.Nodup)(h:∀x,x∈a↔x∈b):a.Perm b:=(List.perm_ext_iff_of_nodup ha hb).mpr λx=>h x
def tryD(T:Nat->Nat->Nat)(h y:Nat)(p:List Nat×List Nat):List Nat×List Nat:=if T h y∈p.1 then p else(p.1++[T h y],p.2++[T h y])
structure Inn(m:Nat)(T:Nat->Nat->Nat)(ths:List Nat)(h k:Nat)(p:List Nat×List Nat)(μ:Nat):Prop where
 d:Dfs m T ths p.1 λx=>x∈p.2\/x=h
 sub:∀x∈p.2,x∈p.1
 hk:h∈p.1
 hh:∀y∈ths.take k,T h y∈p.1
 ms:2*(m-p.1.length)+p.2.length<=μ
variable{μ:Nat}{p:List Nat×List Nat}
theorem Inn.try{k:Nat}(g:Grp m T)(ht:∀x∈ths,x<m)(n:Inn m T ths h k p μ)(hy:ths[k]?=some y):Inn m T ths h (k+1) (tryD T h y p) μ:=by
 have YB:y∈ths:=bu hy;have htk:ths.take (k+1)=ths.take k++[y]:=by rw[mO,hy];rfl
 unfold tryD
 split
 .rename_i ZR
  refine⟨n.d,n.sub,n.hk,λz hz=>?_,n.ms⟩;rw[htk]at hz;rcases aY.mp hz with hz |hz
  .exact n.hh z hz
  .simp at hz;rw[hz];exact ZR
 .rename_i ZR
  have nd:(p.1++[T h y]).Nodup:=by
   rw[jl];exact⟨n.d.nd,by simp,λa ha b hb=>by simp at hb;rintro rfl;exact ZR (hb▸ha)⟩
  have ZV:T h y<m:=g.cl _ _ (n.d.lt h n.hk) (ht y YB);have lt:∀x∈p.1++[T h y],x<m:=λx hx=>by
   rcases aY.mp hx with hx|hx
   .exact n.d.lt x hx
   .simp at hx;omega
  refine⟨⟨nd,lt,a9 _ n.d.z,λx hx=>?_,λx hx=>?_⟩,λx hx=>?_,a9 _ n.hk,λz hz=>?_,?_⟩
  .rcases aY.mp hx with hx|hx
   .exact n.d.rc x hx
   .simp at hx;rw[hx];exact .step (n.d.rc h n.hk) YB
  .rcases aY.mp hx with hx|hx
   .rcases n.d.cl x hx with (c|c)|c
    .exact .inl (.inl (a9 _ c))
    .exact .inl (.inr c)
    .exact .inr λy hy=>a9 _ (c y hy)
   .exact .inl (.inl (aW _ hx))
  .rcases aY.mp hx with hx|hx
   .exact a9 _ (n.sub x hx)
   .exact aW _ hx
  .rw[htk]at hz
   rcases aY.mp hz with hz|hz
   .exact a9 _ (n.hh z hz)
   .simp at hz;rw[hz];exact aW _ 0#6
  .have:=sg m _ nd lt
   have:=n.ms;simp only[aQ,bB,cP]at *;omega
structure yZ(m:Nat)(T:Nat->Nat->Nat)(ths ks st:List Nat)(μ:Nat):Prop where
 d:Dfs m T ths ks λx=>x∈st
 sub:∀x∈st,x∈ks
 ms:2*(m-ks.length)+st.length<=μ
theorem yZ.start(hm:0<m):yZ m T ths [0] [0] (2*m):=
 ⟨⟨by simp,by simpa using hm,by simp,λx hx=>by simp at hx;rw[hx];exact .zero,λx hx=>.inl hx⟩,λx hx=>hx,by simp;omega⟩
theorem yZ.pop(s:yZ m T ths ks (st++[h]) (μ+1)):Inn m T ths h 0 (ks,st) μ:=
 ⟨⟨s.d.nd,s.d.lt,s.d.z,s.d.rc,λx hx=>(s.d.cl x hx).imp (λc=>by simpa using c) id⟩,λx hx=>s.sub x (a9 _ hx),s.sub h 0#6,by simp,by have:=s.ms;simp only[aQ,bB,cP]at this;show 2*(m-ks.length)+st.length<=μ;exact fg 0#7⟩
theorem Inn.done(n:Inn m T ths h ths.length p μ):yZ m T ths p.1 p.2 μ:=
 ⟨⟨n.d.nd,n.d.lt,n.d.z,n.d.rc,λx hx=>by
  rcases n.d.cl x hx with (c|c)|c
  .exact .inl c
  .subst c;exact .inr λy hy=>n.hh y (by rw[oy];exact hy)
  ·exact .inr c⟩,n.sub,n.ms⟩
end
def two(S:Sto)(p:List Nat×List Nat)(x:Sto):Sto:=S++[.dic (ek p.1),.lst (aj p.2)]++x
section
variable {m:Nat}{T:Nat->Nat->Nat}{ths:List Nat}{S x:Sto}{v:U}
def spR(m:Nat)(T:Nat->Nat->Nat)(v:U)(S:Sto)(r:List (Option U)):Rho:= [0#9,some v,2#2,some 6#2]++r
def Wk(S:Sto)(v:U)(ths:List Nat):Prop:=v=.tup (aj ths) \/ ∃r,v=.ref r/\S[r]?=some (.lst (aj ths))/\ths.length<1000
variable{p:List Nat×List Nat}
theorem K3(he:∀q x,e G (two S q x)=some (.int (T h y:Nat),two S q x))(h2:G[2]?=some 19#0)(h3:G[3]?=some (some 6#2))(l1:p.1.length<big)(l2:p.2.length<big):
  sIf (cOf (m2 eJ e 0#5)) (aR (eI 0#5 e 7#4) (di (mML bJ 0#8 (aa e ag)))) cM G (two S p x)=some (.nx,G,two S (tryD T h y p) x):=by
 have ec:=y0 (b:=ae 2) (he p x) (var_eq h2) (show(two S p x)[0#3]?=_ from h0);rw[vm]at ec;unfold tryD;by_cases ZR:T h y∈p.1
 .rw[if_pos ZR]
  rw[decide_eq_true ZR]at ec;exact gF ec
 .rw[if_neg ZR]
  rw[decide_eq_false ZR]at ec;refine(iJ ec).trans ?_;have e1:=Q7 (o:=ae 2) (i:=e) (var_eq h2) (he p x) (show(two S p x)[0#3]?=_ from h0) (by rw[Be];exact l1);rw[Dx ZR,show(two S p x).set S.length (.dic (ek (p.1++[T h y])))=two S (p.1++[T h y],p.2) x from t0]at e1;refine(aF e1).trans ?_;have e2:=append_eq (o:=ae 3) (a:=e) (var_eq h3) (he (p.1++[T h y],p.2) x) (show(two S (p.1++[T h y],p.2) x)[0#3+1]?=_ from h1) h1 (by rw[bf];exact l2);rw[show(two S (p.1++[T h y],p.2) x).set (0#3+1) _=S++[.dic (ek (p.1++[T h y])),_]++x from t1]at e2;rw[e2];simp[two,aj]
def IZ:MT:=cOf (m2 oGt 10#4 1#9)
def zu:MS:=sIf (cOf (m2 eJ 16#4 0#5)) (aR (eI 0#5 16#4 7#4) (di (mML bJ 0#8 (aa 16#4 ag)))) cM
def BP:MT:=cOf (m2 oNe 0#8 3#5)
def G8:MS:=aR (bq 4 (mML nM 0#8 ag)) (dU 5 5#9 zu)
def IA:MS:=aR (bq 2 (kE 1#9 7#4)) (aR (bq 3 (bA 7#6)) (aR (jy BP G8) (b9 (mFn bC (aa (mFn dh 5#0) ag)))))
variable{μ:Nat}
theorem Inn.st_le{k:Nat}(n:Inn m T ths h k p μ)(X2:μ<1000)(hm:m<64):p.1.length<big/\p.2.length<big:=by
 have:=n.ms;have:=n.d.len;unfold big;omega
theorem EA{b:MS}(g:Grp m T)(hm:m<64)(X2:μ<1000)(ht:∀z∈ths,z<m)(hv:Wk S v ths)(R:Rho->Prop)
  (hb:∀(y:Nat) (G:Rho) (q:List Nat×List Nat),y<m->R G->q.1.length<big->q.2.length<big->∃Y1,b (G.set 5 (some (.int y))) (two S q x)=some (.nx,Y1,two S (tryD T h y q) x)/\R Y1)
  {G:Rho} (hq:G[1]?=some (some v)) (hr:R G) (n:Inn m T ths h 0 p μ):
  ∃Y1 q,dU 5 5#9 b G (two S p x)=some (.nx,Y1,two S q x)/\R Y1/\Inn m T ths h ths.length q μ:=by
 have stp:∀(k:Nat) (u:U) (G:Rho) (S':Sto),(aj ths)[k]?=some u->(∃q,S'=two S q x/\R G/\Inn m T ths h k q μ)->∃Y1 Zh,b (G.set 5 (some u)) S'=some (.nx,Y1,Zh) /\ ∃q,Zh=two S q x/\R Y1/\Inn m T ths h (k+1) q μ:=by
  rintro k u G S' hu ⟨q,rfl,q2,q3⟩;obtain⟨y,hy,rfl⟩:=gM hu;have l:=q3.st_le X2 hm;obtain⟨Y2,e1,r1⟩:=hb y G q (ht y (bu hy)) q2 l.1 l.2;exact⟨Y2,_,e1,_,rfl,r1,q3.try g ht hy⟩
 rcases hv with rfl|⟨r,rfl,Z',hl⟩
 .obtain⟨Y1,S',e,q,rfl,q2,q3⟩:=pA (i:=5) (b:=b) (e:=ae 1) (G:=G) (S:=two S p x) (us:=aj ths) (var_eq hq) (λk G S'=>∃q,S'=two S q x/\R G/\Inn m T ths h k q μ) ⟨p,rfl,hr,n⟩ stp
  rw[bf]at q3;exact⟨Y1,q,e,q2,q3⟩
 .have Yd:=(af.mp Z').1
  obtain⟨Y1,S',e,q,rfl,q2,q3⟩:=o5 (i:=5) (b:=b) (e:=ae 1) (G:=G) (S:=two S p x) (us:=aj ths) (var_eq hq) (by rw[bf];exact ai 0#7 0#1) (λk G S'=>∃q,S'=two S q x/\R G/\Inn m T ths h k q μ) ⟨p,rfl,hr,n⟩
   (by
    rintro k G S' ⟨q,rfl,_,_⟩;unfold getL two
    rw[aL,aK Yd,Z']) stp
  rw[bf]at q3;exact⟨Y1,q,e,q2,q3⟩
theorem qX{α:Type}:∀{l:List α},l≠[]->∃a b,l=a++[b]
 |l,h=>⟨l.dropLast,l.getLast h,(List.dropLast_concat_getLast h).symm⟩
theorem Jb{b:Option U}(g:Grp m T)(hm:m<64)(X2:μ<1000)(ht:∀z∈ths,z<m)(hv:Wk S v ths)(n:Inn m T ths h 0 p μ):
  ∃b' q,dU 5 5#9 zu (spR m T v S [10#8,b]) (two S p x)=some (.nx,spR m T v S [10#8,b'],two S q x)/\Inn m T ths h ths.length q μ:=by
 have hh:h<m:=n.d.lt h n.hk
 obtain⟨Y1,q,e,⟨b',rfl⟩,i⟩:=EA (b:=zu) (x:=x) g hm X2 ht hv (λG =>∃b,G=spR m T v S [10#8,b]) (by
  rintro y G q hy ⟨b,rfl⟩ l1 l2;refine⟨spR m T v S [10#8,some (.int y)],?_,_,rfl⟩
  exact K3 (G:=spR m T v S [some (.int h),some (.int y)]) (e:=m2 oIx (m2 oIx (ae 0) (ae 4)) (ae 5)) (λ_ _=>il hy (ig hh (var_eq rfl) (var_eq rfl)) (var_eq rfl)) rfl rfl l1 l2) (G:=spR m T v S [some (.int h),b]) rfl ⟨_,rfl⟩ n
 exact⟨b',q,e,i⟩
theorem LV{S:Sto}:kE 1#9 7#4 G S=some (.ref 0#3,S++[.dic (ek [0])]):=by
 simp[kE,mC,aw,keyOf,ek]
theorem rm{S:Sto}{x:U}(ha:a G S=some (x,S1)):bA 3#4 G S=some (.ref 4#4,S1++[Cell.lst [x]]):=by
 have hq:1<=big:=by decide
 simp[bA,aa,ag,aw,ha,hq]
theorem QB{ks:List Nat}(h2:G[2]?=some 19#0)(hl:ks.length<64):
  ∃S',b9 (mFn bC (aa (mFn dh 5#0) ag)) G (two S (ks,[]) x)=some (.rt (.tup (aj (srt ks))),G,S')/\Ex S S':=by
 refine⟨_,bU (eB (Ia (var_eq h2) h0 hl)),?_⟩;rw[two,aL,aL];exact⟨_,rfl⟩
theorem EC(g:Grp m T)(hm:m<64)(ht:∀z∈ths,z<m)(hv:Wk S v ths):∃ks S',_G.run 2 6 IA [tab m T,v] S=some (.tup (aj (srt ks)),S')/\Ex S S'/\Dfs m T ths ks λ_=>False:=by
 have hp:=g.pos;obtain⟨Y1,S1,e1,⟨r,ks,x,rfl,rfl,d⟩⟩:=ug (c:=BP) (b:=G8) (λμ G S'=>∃a b p x,G=spR m T v S [a,b]/\S'=two S p x/\yZ m T ths p.1 p.2 μ/\μ<1000)
  (λG S' =>∃r ks x,G=spR m T v S r/\S'=two S (ks,[]) x/\Dfs m T ths ks λ_=>False) (by
  rintro μ G S' ⟨a,b,p,x,rfl,rfl,s,X2⟩;have hx:two S p x++2#3=two S p (x++2#3):=by simp[two]
  have ec:BP (spR m T v S [a,b]) (two S p x)=some (!decide (p.2=[]),two S p (x++2#3)):=by
   refine of_eq (Ea (x:=p.2) (y:= []) (var_eq (i:=3) rfl) (eM.trans (by rw[hx])) h1 ?_);rw[<-hx];exact aX _ _
  refine⟨_,_,ec,λhf=>?_,λhf=>?_⟩
  .have h2:p.2=[]:=by simpa using hf
   refine⟨_,p.1,_,rfl,by rw[<-h2],?_⟩;have:=s.d;rw[h2]at this;exact⟨this.nd,this.lt,this.z,this.rc,λx hx=>(this.cl x hx).imp 0#6 id⟩
  .have h2:p.2≠[]:=by simpa using hf
   obtain⟨st,h,e⟩:=qX h2;obtain⟨ks,s2⟩:=p;subst e;cases μ with
   |zero=>have:=s.ms;simp at this
   |succ μ=>
   have e4:bq 4 (mML nM 0#8 ag) (spR m T v S [a,b]) (two S (ks,st++[h]) (x++2#3))=some (.nx,spR m T v S [10#8,b],two S (ks,st) (x++2#3)):=by
    rw[bo (i:=4) (Ek (G:=spR m T v S [a,b]) (S:=two S (ks,st++[h]) (x++2#3)) (o:=ae 3) (r:=0#3+1) 0#0 h1)];rw[show(two S (ks,st++[h]) (x++2#3)).set (0#3+1) (Cell.lst (aj st))=two S (ks,st) (x++2#3) from t1];rfl
   obtain⟨b',q,e5,i⟩:=Jb (S:=S) (x:=x++2#3) (b:=b) g hm (by exact aV 0#7) ht hv s.pop
   exact⟨_,_,μ,bx _,(aF e4).trans e5,_,_,q,_,rfl,rfl,i.done,by exact aV (by assumption)⟩) fuel (2*m) (spR m T v S [none,none]) (two S ([0],[0]) []) (by unfold fuel;omega) ⟨_,_,([0],[0]),[],rfl,rfl,yZ.start hp,by omega⟩
 obtain⟨S2,e2,x2⟩:=QB (S:=S) (x:=x) (G:=spR m T v S r) (ks:=ks) rfl (az d.len hm);refine⟨ks,S2,bM (G:=spR m T v S r) rfl ?_,x2,d⟩;show IA [0#9,some v,none,none,none,none] S=_;refine(aF (bo LV)).trans ((aF (bo (rm c_i))).trans ?_);refine(aF (Y2:=spR m T v S r) (S1:=two S (ks,[]) x) ?_).trans e2;rw[<-e1];simp[jy,two,spR,aj]
end
def tups(ls:List 7#9):List U:=ls.map λl=>U.tup (aj l)
theorem xI{S:Sto}{f:Nat}:∀(ls:List 7#9),dG (toD S (f+2)) (tups ls)=some (ls.map tY)
 |[]=>rfl
 | l::ls=>by
   show(toD S (f+2) (.tup (aj l))).bind _=_;rw[lI];simp only[ah];have:=xI (S:=S) (f:=f) ls;unfold tups at this;rw[this];rfl
variable{ls:List (List Nat)}
theorem qy(h:S[n]?=some (Cell.lst (tups ls))):toD S 40 (.ref n)=some (.list (ls.map tY)):=by
 show(getL S n).bind _=_;unfold getL;rw[h];simp only[ah];rw[xI (f:=37)];rfl
theorem we:∀(a b:List 7#9),cK (a.map tY) (b.map tY)=decide (a=b)
 |[],[]=>by simp[cK]
 |[],_::_=>by simp[cK]
 |_::_,[]=>by simp[cK]
 | x::a,y::b=>by
   rw[bz,bz,cK,we a b];unfold tY;rw[dj,mn];by_cases h:x=y
   .subst h;simp
   .simp[h]
theorem Ef{k:Nat}{x y:List (List Nat)}(ha:a G S=some (.ref n,S1))(hb:b G S1=some (.ref k,S2))(hn:S2[n]?=some (Cell.lst (tups x)))(hk:S2[k]?=some (Cell.lst (tups y))):m2 oEq a b G S=some (.bl (decide (x=y)),S2):=by
 refine op2 ha hb ?_;simp only[oEq,_G.eqU,qy hn,qy hk,ah,aN,dj,we]
open PySem in
structure Sml(ls:List (List Nat)):Prop where
 len:ls.length<=64
 each:∀l∈ls,l.length<=64
 lt:∀l∈ls,∀x∈l,x<1000
open PySem in
open PySem in
open PySem in
theorem uq{l:List Nat}{x:Nat}:inV 6#4 (l.map λ(y:Nat)=>V.int y)=decide (x∈l):=by
 unfold inV;rw[List.any_map];by_cases h:x∈l
 .rw[decide_eq_true h,fJ]
  exact⟨x,h,beq_self_eq_true (x:Int)⟩
 .rw[decide_eq_false h,List.any_eq_false]
  intro y hy;have q:y≠x:=λe=>h (e▸hy);show ¬(((y:Int)==(x:Int))=true);exact λz=>q (Int.ofNat.inj (eq_of_beq z))
theorem lJ:∀(l:List Nat),dG ff (aj l)=some (l.map λ(y:Nat)=>V.int y)
 |[]=>rfl
 | x::l=>by
   show(ff 6#4).bind _=_;simp only[ff,ah];have:=lJ l;unfold aj at this;rw[this];rfl
theorem R1(h:S[r]?=some (Cell.lst us)):eW S (.ref r)=none:=by
 simp only[eW,h]
theorem K4(ha:a G S=some 5#8)(hb:b G S1=some (.ref n,S2))(hn:S2[n]?=some 17#1):cOf (m2 eJ a b) G S=some (!decide (x∈l),S2):=by
 refine of_eq (op2 ha hb ?_);simp only[eJ,R1 hn,ff,ah,dZ,getL,hn,lJ,aN,Option.some_or,uq]
theorem add_l{k:Nat}{x y:List Nat}(ha:a G S=some (.ref n,S1))(hb:b G S1=some (.ref k,S2))(hn:S2[n]?=some (Cell.lst (aj x)))(hk:S2[k]?=some (Cell.lst (aj y)))(hl:x.length+y.length<=big):m2 bN a b G S=some (.ref 8#0,S2++[.lst (aj (x++y))]):=by
 refine op2 ha hb ?_;simp only[bN,hn,hk];rw[if_pos (by rw[bf,bf];exact hl)];simp[aj]
def sdF(r:Nat->List Nat):Nat->List 7#9×List Nat
 |0=>([],[])
 |k+1=>if k∈(sdF r k).2 then sdF r k else((sdF r k).1++[srt (r k)],(sdF r k).2++r k)
theorem BG{r:Nat->List Nat}{B:Nat}(hr:∀k,(r k).length<=B):∀k,(sdF r k).1.length<=k/\(sdF r k).2.length<=k*B
 |0=>by simp[sdF]
 | k+1=>by
   have:=BG hr k;have:=hr k;unfold sdF;rw[lM]
   split
   .omega
   .simp;omega
theorem i8{r:Nat->List Nat}:∀{k:Nat}{l:List Nat},l∈(sdF r k).1->∃i,i<k/\l=srt (r i)
 |0,l,h=>by simp[sdF]at h
 | k+1,l,h=>by
   unfold sdF at h
   split at h
   .obtain⟨i,hi,e⟩:=i8 h;exact⟨i,by exact gL 0#7,e⟩
   .rcases aY.mp h with h|h
    .obtain⟨i,hi,e⟩:=i8 h;exact⟨i,by exact gL 0#7,e⟩
    .exact⟨k,by exact ak _,by simpa using h⟩
theorem LX{r:Nat->List Nat}(hm:m<64)(hr:∀k,(r k).length<=64)(hl:∀k,k<m->∀x∈r k,x<1000):Sml (sdF r m).1:=by
 refine⟨by have:=(BG hr m).1;omega,λl h=>?_,λl h x hx=>?_⟩
 .obtain⟨i,_,rfl⟩:=i8 h
  rw[kA];exact hr i
 .obtain⟨i,hi,rfl⟩:=i8 h
  exact hl i hi x (eD.mp hx)
def putN(l:List Nat)(x:Nat):List Nat:=if x∈l then l else l++[x]
theorem F7:y∈putN l x↔y∈l\/y=x:=by
 unfold putN
 split
 .rename_i h
  exact⟨.inl,λz=>z.elim id λe=>e▸h⟩
 .simp
theorem Ga:kY (ek l) 10#0 (.bl true)=ek (putN l x):=by
 unfold putN
 split
 .rename_i h
  unfold kY;have:((ek l).any λkv=>decide (kv.1=fI (x:Int)))=true:=by
   rw[fJ];exact⟨_,aU.mpr ⟨x,h,rfl⟩,by simp⟩
  rw[if_pos this];unfold ek;rw[eG];apply bO;intro y _;simp only[Function.comp]
  split<;>simp_all
 .rename_i h
  exact Dx h
theorem Bh:∀{xs l:List Nat}{y:Nat},y∈xs.foldl putN l↔y∈l\/y∈xs
 |[],l,y=>by simp
 | x::xs,l,y=>by
   rw[pY,Bh,F7];simp[or_assoc]
theorem Js:(putN l x).length<=2#8+1:=by
 unfold putN;split<;>simp
theorem vn:∀{xs l:List Nat},(xs.foldl putN l).length<=2#8+1#5
 |[],l=>by simp
 | x::xs,l=>by
   have:=vn (xs:=xs) (l:=putN l x);have:=Js (l:=l) (x:=x);simp only[pY,bB];omega
def pcF(r:Nat->List Nat)(ext:Nat->Sto):Nat->List 7#9×List Nat×Sto
 |0=>([],[],[])
 |k+1=>if k∈(pcF r ext k).2.1 then pcF r ext k else((pcF r ext k).1++[srt (r k)],(srt (r k)).foldl putN (pcF r ext k).2.1,(pcF r ext k).2.2++ext k)
theorem BJ{r:Nat->List Nat}{ext:Nat->Sto}:∀k,(pcF r ext k).1=(sdF r k).1 /\ ∀y,y∈(pcF r ext k).2.1↔y∈(sdF r k).2
 |0=>⟨rfl,λy=>Iff.rfl⟩
 | k+1=>by
   obtain⟨h1,h2⟩:=BJ (r:=r) (ext:=ext) k;unfold pcF sdF;by_cases h:k∈(sdF r k).2
   .rw[if_pos h,if_pos ((h2 k).mpr h)];exact⟨h1,h2⟩
   .rw[if_neg h,if_neg λz=>h ((h2 k).mp z)]
    refine⟨by rw[h1],λy=>?_⟩;rw[Bh,h2,eD,aY]
theorem HC{r:Nat->List Nat}{ext:Nat->Sto}{B:Nat}(hr:∀k,(r k).length<=B):∀k,(pcF r ext k).1.length<=k/\(pcF r ext k).2.1.length<=k*B
 |0=>by simp[pcF]
 | k+1=>by
   have:=HC (ext:=ext) hr k;have:=hr k;unfold pcF;rw[lM]
   split
   .omega
   .have h:=vn (xs:=srt (r k)) (l:=(pcF r ext k).2.1)
    rw[kA]at h;simp;omega
def eN(S:Sto)(p:List 7#9×List Nat×Sto):Sto:=S++[.lst (tups p.1),.dic (ek p.2.1)]++p.2.2
def z3(g:iM)(φ:MF):MS:=sIf (cOf (m2 eJ 1#3 0#8)) (aR (bq 5 (wZ 1 g φ 5#3)) (aR (di (mML bJ 0#5 (aa 2#1 ag))) (dU 6 (bZ 2#1) (eI 0#8 (ae 6) 7#4)))) cM
def um(g:iM)(φ:MF):MS:=aR (bq 2 3#5) (aR (bq 3 sW) (aR (dU 4 (bZ 0#4) (z3 g φ)) (b9 0#5)))
theorem Fu{x:Sto}{xs:List Nat}(h5:G[5]?=some (some (.tup (aj xs))))(h3:G[3]?=some (some 6#2))(h7:G.length=7)(hb:2#8+1#5<big):
  ∃v,dU 6 (bZ 2#1) (eI 0#8 (ae 6) 7#4) G (S++[c,.dic (ek l)]++x)=some (.nx,G.set 6 v,S++[c,.dic (ek (xs.foldl putN l))]++x):=by
 obtain⟨Y1,S',e,⟨v,rfl⟩,rfl⟩:=pA (i:=6) (b:=eI 0#8 (ae 6) 7#4) (e:=ae 5) (G:=G) (S:=S++[c,.dic (ek l)]++x) (us:=aj xs) (var_eq h5)
  (λk Y1 S'=>(∃v,Y1=G.set 6 v)/\S'=S++[c,.dic (ek ((xs.take k).foldl putN l))]++x) ⟨⟨G[6]' 0#2,by simp⟩,by simp⟩ (by
  rintro k u Y1 S' hu ⟨⟨v,rfl⟩,rfl⟩;obtain⟨y,hy,rfl⟩:=gM hu;rw[List.set_set];have g3:(G.set 6 (some (.int y)))[3]?=some (some 6#2):=by rw[aD 0#1];exact h3
  have g6:(G.set 6 (some (.int y)))[6]?=some (some (.int y)):=aM 0#2
  have e:=Q7 (G:=G.set 6 (some (.int y))) (o:=ae 3) (i:=ae 6) (var_eq g3) (var_eq g6) (h1 (S:=S) (x:=x) (c:=c) (e:= .dic (ek ((xs.take k).foldl putN l)))) (by
   rw[Be];have:=vn (xs:=xs.take k) (l:=l);have:(xs.take k).length<=1#5:=by rw[iq];omega
   omega)
  rw[t1,Ga]at e;refine⟨_,_,e,⟨_,rfl⟩,?_⟩;rw[mO,hy,List.foldl_append]
  rfl)
 rw[bf,oy]at e;exact⟨v,e⟩
variable{ext:Nat->Sto}{φ:MF}
theorem xW{r:Nat->List Nat}{S:Sto}(hm:m<64)(hr:∀k,(r k).length<=64)(WR:∀i (S:Sto),i<m->φ [.int (i:Nat)] S=some (.tup (aj (srt (r i))),S++ext i))(g:iM):
  _G.run 2 7 (um g φ) [.tup (aj (aA m)),.obj g] S=some (.ref 0#3,eN S (pcF r ext m)):=by
 obtain⟨Y2,S1,e1,⟨a,b,c,rfl⟩,Vs⟩:=pA (i:=4) (e:=ae 0) (us:=aj (aA m)) (b:=z3 g φ) (G:= [15#3,8#5,2#2,some 6#2,none,none,none]) (S:=eN S (pcF r ext 0)) 0#0
  (λk G S'=>(∃a b c,G = [15#3,8#5,2#2,some 6#2,a,b,c])/\S'=eN S (pcF r ext k)) ⟨⟨_,_,_,rfl⟩,rfl⟩ (by
   rintro k u G S' hu ⟨⟨a,b,c,rfl⟩,rfl⟩;obtain⟨k',Zm,rfl⟩:=gM hu;have hk:k<m:=by have:=(af.mp Zm).1;simpa using this
   rw[tJ hk]at Zm;cases Zm;have bd:=HC (ext:=ext) hr k;have ec:=y0 (G:= [15#3,8#5,2#2,some 6#2,3#1,b,c]) (a:=ae 4) (b:=ae 3) (x:=k) 0#0 0#0 (show(eN S (pcF r ext k))[0#3+1]?=_ from h1);rw[vm]at ec;by_cases ZR:k∈(pcF r ext k).2.1
   .rw[decide_eq_true ZR]at ec
    refine⟨_,_,(gF ec).trans rfl,⟨_,_,_,rfl⟩,?_⟩;rw[pcF,if_pos ZR]
   .rw[decide_eq_false ZR]at ec
    have e5:wZ 1 g φ 5#3 [15#3,8#5,2#2,some 6#2,3#1,b,c] (eN S (pcF r ext k))=some (.tup (aj (srt (r k))),eN S (pcF r ext k)++ext k):=by
     show(if g=g then mFn φ 5#3 _ _ else none)=_;rw[if_pos rfl];exact fC 0#0 (WR k _ hk)
    have hx:eN S (pcF r ext k)++ext k=S++[.lst (tups (pcF r ext k).1),.dic (ek (pcF r ext k).2.1)]++((pcF r ext k).2.2++ext k):=by simp[eN]
    rw[hx]at e5;have e6:=append_eq (G:= [15#3,8#5,some (.ref S.length),some (.ref (S.length+1)),3#1,some (.tup (aj (srt (r k)))),c]) (o:=ae 2) (a:=ae 5) (u:= .tup (aj (srt (r k)))) 0#0 0#0 (h0 (S:=S) (x:=(pcF r ext k).2.2++ext k) (c:= .lst (tups (pcF r ext k).1)) (e:= .dic (ek (pcF r ext k).2.1))) h0 (by simp only[tups,ay];unfold big;omega);rw[t0]at e6
    obtain⟨v,e7⟩:=Fu (S:=S) (x:=(pcF r ext k).2.2++ext k) (c:= .lst (tups (pcF r ext k).1++[.tup (aj (srt (r k)))])) (G:= [15#3,8#5,2#2,some 6#2,3#1,some (.tup (aj (srt (r k)))),c]) (xs:=srt (r k)) (l:=(pcF r ext k).2.1) rfl rfl rfl (by
     rw[kA];have:=hr k;have h3:k*64<=64*64:=ei _ 0#2
     unfold big;omega)
    refine⟨_,_,(iJ ec).trans ((aF (bo e5)).trans ((aF e6).trans e7)),⟨_,_,_,rfl⟩,?_⟩;rw[pcF,if_neg ZR]
    simp[eN,tups])
 rw[bf,br]at Vs;subst Vs;refine bM (G:= [15#3,8#5,2#2,some 6#2,a,b,c]) rfl ?_;show um g φ [15#3,8#5,none,none,none,none,none] S=_;have e2:sW [15#3,8#5,2#2,none,none,none,none] (S++2#3)=some (.ref (0#3+1),eN S (pcF r ext 0)):=by
  simp[sW,eN,pcF,tups,ek]
 exact(aF (bo eM)).trans ((aF (bo e2)).trans ((aF e1).trans (bU 0#0)))
variable{f:Nat->Nat}{part:List Nat}
theorem HA{S:Sto}(hi:G[i]?=some (some (.tup (aj part))))(hl:9#6<64)(he:∀(x:Nat) (S:Sto),x∈part->e 19#2 S=some (.int (f x:Nat),S)):
  mFn bC (aa (mFn dh (aa (bL (bZ (ae i)) cTT e) ag)) ag) G S=some (.tup (aj (srt (part.map f))),S++[.lst (aj (part.map f)),.lst (aj (srt (part.map f)))]):=by
 have hz:(part.map f).length<64:=by rw[ay];exact hl
 obtain⟨S1,e1,rfl⟩:=jV (e:=e) (G:=G) (λj => .int (f (oF part j):Nat)) (λ_ S'=>S'=S) (aj part) 0 [] S rfl (by
  rintro j u S' hu rfl;obtain⟨x,hx,rfl⟩:=gM hu;refine⟨S',?_,rfl⟩;have:oF part (0+j)=x:=by rw[dY];unfold oF;rw[bF,hx];rfl
  rw[this]
  exact he x S' (bu hx))
 have hm:(aA (aj part).length).map (λj=>U.int (f (oF part (0+j)):Nat))=aj (part.map f):=by
  unfold aj;apply mM;intro j;rw[bE,bE,bE];by_cases h:j<9#6
  .rw[tJ 19#1,aI h]
   simp[oF,bF,h]
  .rw[jS 19#1,jS 16#9];rfl
 rw[hm,dv]at e1;have e2:=jJ (it:=bZ (ae i)) (us:=aj part) (by unfold bZ;rw[var_eq hi];rfl) e1 (by rw[bf];unfold big;exact ai 0#7 0#1);have e3:=eB (qx e2 6#0 hz);rw[e3];simp
theorem map_len(h:9#6<64):(part.map f).length<=64:=by rw[ay];exact aV 0#7
def d4(T:Nat->Nat->Nat)(part:List Nat)(left:Bool)(x:Nat):List Nat:=part.map λo=>if left then T x o else T o x
def atM:MS:=b9 (vK (iR1 (aa 7#5 ag)))
theorem Gq(hm:m<1000):_G.run 1 1 atM [tab m T] S=some (.tup (aj (aA m)),S):=by
 refine bM (G:= [0#9]) rfl (bU ?_);have e1:=jH (G:= [0#9]) (S:=S) (a:=mFn bR 5#2) (n:=m) 9#5 22#9;have e2:bj 0 m=aj (aA m):=by
  unfold bj aj;apply bO;intro k _;simp
 rw[e2]at e1;have hz:(aj (aA m)).length<=big:=by rw[bf,br];unfold big;omega
 show vK (iR1 (aa 7#5 ag)) [0#9] S=_;simp only[vK,e1,aw,hz,if_true]
def lsM:MS:=b9 (kT (λg φ=>_G.run 2 7 (um g φ)) 1 [0,1] (mFn bC (aa (mFn dh (aa (bL (bZ 0#5) cTT (m2 oIx (m2 oIx 1#0 0#4) 0#8)) ag)) ag)) (mFn (_G.run 1 1 atM) 5#2))
def rsM:MS:=b9 (kT (λg φ=>_G.run 2 7 (um g φ)) 1 [0,1] (mFn bC (aa (mFn dh (aa (bL (bZ 0#5) cTT (m2 oIx (m2 oIx 1#0 0#8) 0#4)) ag)) ag)) (mFn (_G.run 1 1 atM) 5#2))
def aZ(m:Nat)(T:Nat->Nat->Nat)(part:List Nat)(left:Bool):List 7#9:=(sdF 13#3 m).1
section
variable {m:Nat}{T:Nat->Nat->Nat}{part:List Nat}{S:Sto}
theorem rX{left:Bool}(g:Grp m T)(hm:m<64)(hl:9#6<64)(hp:∀x∈part,x<m):Sml (aZ m T part left):=
 LX hm (λk=>map_len hl) λk hk x hx=>by
  obtain⟨o,ho,rfl⟩:=aU.mp hx;have:=hp o ho;cases left
  .have:=g.cl o k this hk;simp;exact dc 0#7 (ai 0#7 0#1)
  .have:=g.cl k o hk this;simp;exact dc 0#7 (ai 0#7 0#1)
theorem oi{left:Bool}:Ex S (eN S (pcF 13#3 ext m))/\(eN S (pcF 13#3 ext m))[0#3]?=some (Cell.lst (tups (aZ m T part left))):=by
 refine⟨⟨_,by unfold eN;rw[aL]⟩,?_⟩;have:=h0 (S:=S) (x:=(pcF 13#3 ext m).2.2) (c:= .lst (tups (pcF 13#3 ext m).1)) (e:= .dic (ek (pcF 13#3 ext m).2.1));rw[(BJ m).1]at this;unfold eN;rw[(BJ m).1];exact this
theorem L3(g:Grp m T)(hm:m<64)(hl:9#6<64)(hp:∀x∈part,x<m):∃S',_G.run 2 2 lsM 12#8 S=some 14#6/\Ex S S'/\S'[0#3]?=some (Cell.lst (tups 12#0)):=by
 refine⟨eN S (pcF (d4 T part true) (λi=>[.lst (aj (d4 T part true i)),.lst (aj (srt (d4 T part true i)))]) m),bM (G:= [0#9,7#2]) rfl (show lsM [0#9,7#2] S=_ from bU ?_),oi.1,oi.2⟩;refine vQ (cs:= 12#8) (fC (f:=_G.run 1 1 atM) 0#0 (Gq 18#5)) rfl λf=>xW hm (λk=>map_len hl) (λi S' hi=>?_) f;exact HA (G:= [some (.int (i:Nat)),0#9,7#2]) (f:=λo=>if true then T i o else T o i) rfl hl λx S hx=>il (T:=T) (i:=i) (j:=x) (hp x hx) (ig hi 0#0 0#0) 0#0
theorem GL(g:Grp m T)(hm:m<64)(hl:9#6<64)(hp:∀x∈part,x<m):∃S',_G.run 2 2 rsM 12#8 S=some 14#6/\Ex S S'/\S'[0#3]?=some (Cell.lst (tups (aZ m T part false))):=by
 refine⟨eN S (pcF (d4 T part false) (λi=>[.lst (aj (d4 T part false i)),.lst (aj (srt (d4 T part false i)))]) m),bM (G:= [0#9,7#2]) rfl (show rsM [0#9,7#2] S=_ from bU ?_),oi.1,oi.2⟩;refine vQ (cs:= 12#8) (fC (f:=_G.run 1 1 atM) 0#0 (Gq 18#5)) rfl λf=>xW hm (λk=>map_len hl) (λi S' hi=>?_) f;exact HA (G:= [some (.int (i:Nat)),0#9,7#2]) (f:=λo=>if false then T i o else T o i) rfl hl λx S hx=>il (T:=T) (i:=x) (j:=i) hi (ig (hp x hx) 0#0 0#0) 0#0
end
theorem Ii{t:Nat}{S:Sto}{sv mv:ME}(ha:a G S=some (.int t,S0))(ht:t<1000)(h:ir n S0)(hm:0<m)(Zu:m<1000)
  (hs:∀z (S:Sto),sv (G++[z]) S=some (.ref n,S)) (hv:∀z (S:Sto),mv (G++[z]) S=some (.int m,S)):
  ∃w S',bL (iR1 3#4) cTT (mFn aO (aa sv (aa mv ag))) G S=some (.ref S'.length,S'++[.lst (aj w)])/\Stp n S0 S'/\(∀x∈w,x<m)/\3#3=t:=by
 obtain⟨ys,S1,e1,⟨w,rfl,q1,q2⟩,q3⟩:=oj (e:=mFn aO (aa sv (aa mv ag))) (G:=G) (λacc S' =>∃w,acc=aj w/\(∀x∈w,x<m)/\Stp n S0 S') (bj 0 t) [] S0 ⟨[],rfl,by simp,Stp.refl h⟩ (by
  rintro k acc u S' hk hl ⟨w,rfl,q1,q2⟩;obtain⟨r,S2,e2,h2,h3⟩:=eP (m:=m) q2.st hm Zu;refine⟨_,S2,bY (hs _ _) (hv _ _) e2,w++[r],by simp[aj],λx hx=>?_,q2.trans h3⟩;rcases aY.mp hx with hx |hx
  .exact q1 x hx
  ·simp at hx;omega)
 have hlen:(bj 0 t).length=t:=by simp[bj]
 have hw:w.length=t:=by rw[bf]at q3;simpa [hlen]using q3
 exact⟨w,S1,jJ (jH ha 22#9) e1 (by rw[bf,hw];unfold big;exact ai 0#7 0#1),q2,q1,hw⟩
theorem pj{t:MT}{e:ME}{G:Rho}{n:Nat}{S:Sto}{us:List U}{p:U->Bool}{f:U->U}(hu:getL S n=some us)(ht:∀u∈us,t 9#4 S=some (p u,S))(he:∀u∈us,p u=true->e 9#4 S=some (f u,S)):
  ∀(k i:Nat) (acc:List U),i<=1#1->1#1-i<k->iO t e G n k i acc S=some (acc++((us.drop i).filter p).map f,S)
 |0,i,acc,h1,h2=>by omega
 | k+1,i,acc,h1,h2=>by
   unfold iO;rw[hu];simp only[ah];by_cases hi:i<1#1
   .have hd:us.drop i=us[i]::us.drop (i+1):=iw hi
    have hm:us[i]∈us:=bW hi;rw[aI hi];simp only;rw[ht _ hm];simp only[aw];rw[hd];cases hp:p us[i] with
    | true=>
      rw[if_pos rfl,he _ hm hp];simp only[aw];rw[pj hu ht he k (i+1) _ 0#7 0#2,oz hp];simp
    | false=>
      rw[if_neg du,pj hu ht he k (i+1) _ 0#7 0#2,oA (by rw[hp];decide)]
   .rw[jS 16#9,jo 16#9]
    simp
variable{f:U->U}{p:U->Bool}
theorem FJ{t:MT}{us:List U}(ha:a G S=some (.ref n,S1))(hu:S1[n]?=some (Cell.lst us))(hl:1#1<1000)(ht:∀u∈us,t 9#4 S1=some (p u,S1))(he:∀u∈us,p u=true->e 9#4 S1=some (f u,S1)):
  bL (bZ a) t e G S=some (.ref 4#4,S1++[.lst ((us.filter p).map f)]):=by
 have hg:getL S1 n=some us:=by unfold getL;rw[hu]
 have hi:bZ a G S=some (.mut n,S1):=by simp only[bZ,ha,aw,hg,aN]
 have e1:=pj hg ht he fuel 0 [] (dB _) (by unfold fuel;exact ai 0#7 0#1);rw[rJ,dv]at e1;simp only[bL,hi,aw,vW,e1];refine if_pos ?_;have:=eV p us;rw[ay];unfold big;exact az 0#7 (ai 0#7 0#1)
theorem pQ{t:MT}{e:ME}{G:Rho}{S:Sto}{p:U->Bool}{f:U->U}:∀(us acc:List U),(∀u∈us,t 9#4 S=some (p u,S))->(∀u∈us,p u=true->e 9#4 S=some (f u,S)) ->
  gz t e G us acc S=some (acc++(us.filter p).map f,S)
 |[],acc,_,_=>by simp[gz]
 | u::us,acc,ht,he=>by
   unfold gz;rw[ht u 0#6];simp only[aw];cases hp:p u with
   | true=>
     rw[if_pos rfl,he u 0#6 hp];simp only[aw];rw[pQ us _ (λv hv=>ht v (aE _ hv)) (λv hv=>he v (aE _ hv)),oz hp];simp
   | false=>
     rw[if_neg du,pQ us _ (λv hv=>ht v (aE _ hv)) (λv hv=>he v (aE _ hv)),oA (by rw[hp];decide)]
theorem sJ{t:MT}{us:List U}(ha:a G S=some (.tup us,S1))(hl:1#1<big)(ht:∀u∈us,t 9#4 S1=some (p u,S1))(he:∀u∈us,p u=true->e 9#4 S1=some (f u,S1)):
  bL (bZ a) t e G S=some (.ref 4#4,S1++[.lst ((us.filter p).map f)]):=by
 have hi:bZ a G S=some (.imm us,S1):=by simp only[bZ,ha,aw]
 have e1:=pQ us [] ht he;rw[dv]at e1;refine jJ hi e1 ?_;have:=eV p us;rw[ay];exact az 0#7 0#7
variable{f:Nat->U}{p:Nat->Bool}
theorem uU{t:MT}{l:List Nat}(ha:a G S=some (.tup (aj l),S1))(hl:2#8<big)(ht:∀x∈l,t 19#2 S1=some (p x,S1))(he:∀x∈l,p x=true->e 19#2 S1=some (f x,S1)):
  bL (bZ a) t e G S=some (.ref 4#4,S1++[.lst ((l.filter p).map f)]):=by
 have nat:∀u∈aj l,∃x∈l,u=.int (x:Nat):=λu hu=>by
  obtain⟨x,hx,rfl⟩:=aU.mp hu;exact⟨x,hx,rfl⟩
 let g:U->Nat:=λu=>match u with | .int i=>i.toNat |_=>0
 have gx:∀x:Nat,g 6#4=x:=λx=>by simp[g]
 have h:=sJ (t:=t) (e:=e) (p:=λu=>p (g u)) (f:=λu=>f (g u)) ha (by rw[bf];exact hl) (λu hu=>by
  obtain⟨x,hx,rfl⟩:=nat u hu
  rw[gx];exact ht x hx) (λu hu hp=>by
  obtain⟨x,hx,rfl⟩:=nat u hu
  rw[gx]at hp ⊢;exact he x hx hp)
 rw[h];have:((aj l).filter λu=>p (g u)).map (λu=>f (g u))=(l.filter p).map f:=by
  unfold aj;rw[List.filter_map,eG];have e1:(λu=>p (g u))∘(λ(x:Nat)=>U.int x)=p:=by funext x;simp[gx]
  have e2:(λu=>f (g u))∘(λ(x:Nat)=>U.int x)=f:=by funext x;simp[gx]
  rw[e1,e2]
 rw[this]
theorem sy{t:MT}{l:List Nat}(ha:a G S=some (.tup (aj l),S1))(hl:2#8<1000)(ht:∀x∈l,t 19#2 S1=some (p x,S1))(he:∀x∈l,p x=true->e 19#2 S1=some (f x,S1)):
  bL (bZ a) t e G S=some (.ref 4#4,S1++[.lst ((l.filter p).map f)]):=
 uU ha 22#9 ht he
theorem RE(ha:a G S=some 5#8)(hb:b G S1=some (.tup (aj l),S2)):cOf (m2 oIn a b) G S=some (decide (x∈l),S2):=by
 refine of_eq (op2 ha hb ?_);simp only[oIn,eW,ff,ah,dZ,lJ,aN,uq]
theorem Lz(ha:a G S=some 5#8)(hb:b G S1=some (.tup (aj l),S2)):cOf (m2 eJ a b) G S=some (!decide (x∈l),S2):=by
 refine of_eq (op2 ha hb ?_);simp only[eJ,eW,ff,ah,dZ,lJ,aN,Option.some_or,uq]
theorem Cj{x y:U}(ha:a G S=some (x,S1))(hb:b G S1=some (y,S2)):cH (aa a (aa b ag)) G S=some (.tup [x,y],S2):=by
 have XX:2<=big:=by decide
 simp[cH,aa,ag,ha,hb,aw,XX]
section
variable {m:Nat}{T:Nat->Nat->Nat}{st left:List Nat}{S:Sto}
def prU(T:Nat->Nat->Nat)(h s:Nat):U:= .tup [.int s,.int (T h s:Nat)]
theorem MR{f:MF}{S S4:Sto}{c d:ME}{x y z v:U}{r:Res U}(ha:a G S=some (x,S1))(hb:b G S1=some (y,S2))(hc:c G S2=some (z,S3))(hd:d G S3=some (v,S4))(h:f [x,y,z,v] S4=r):mFn f (aa a (aa b (aa c (aa d ag)))) G S=r:=by
 simp only[mFn,aa,ag,ha,hb,hc,hd,aw,h]
theorem O2{S:Sto}{x y:List Nat}(ha:a G S=some (.tup (aj x),S1))(hb:b G S1=some (.tup (aj y),S2))(hl:x.length+y.length<=big):m2 bN a b G S=some (.tup (aj (x++y)),S2):=by
 refine op2 ha hb ?_;simp only[bN];rw[if_pos (by rw[bf,bf];exact hl)];simp[aj]
theorem Df{S:Sto}{x y:List Nat}(ha:a G S=some (.tup (aj x),S1))(hb:b G S1=some (.tup (aj y),S2))(hl:x.length+y.length<1000):m2 bN a b G S=some (.tup (aj (x++y)),S2):=
 O2 ha hb 18#8
end
abbrev Nod:=List Nat×List Nat
def lnU(p:Nod):U:= .tup [.tup (aj p.1),.tup (aj p.2)]
def lnD(p:Nod):ji:= .tuple [tY p.1,tY p.2]
theorem Pe{f:Nat}(p:Nod):toD S (f+3) (lnU p)=some (lnD p):=by
 show(dG _ _).map _=_;simp[dG,lI];rfl
theorem Do{S:Sto}{f:Nat}:∀(ls:List Nod),dG (toD S (f+3)) (ls.map lnU)=some (ls.map lnD)
 |[]=>rfl
 | p::ls=>by
   show(toD S _ _).bind _=_;rw[Pe];rw[Do ls];rfl
theorem DK{ls:List Nod}(h:S[n]?=some (Cell.lst (ls.map lnU))):toD S 40 (.ref n)=some (.list (ls.map lnD)):=by
 show(getL S n).bind _=_;unfold getL;rw[h];simp only[ah];rw[Do];rfl
theorem NC{k:Nat}{x:List Nod}(ha:a G S=some (.ref n,S1))(hb:b G S1=some (.ref k,S2))(hn:S2[n]?=some (Cell.lst (x.map lnU)))(hk:S2[k]?=some (Cell.lst [])):m2 oNe a b G S=some (.bl (!decide (x=[])),S2):=by
 refine op2 ha hb ?_;have e2:=by
  have:=DK (ls:= []) hk;omega
 simp[oNe,_G.eqU,DK hn,e2,dj];cases x<;>simp[cK]
def fD(th:List Nat):Nat:=(th.getLast?).getD 0
theorem l4:fD (l++[x])=x:=by simp[fD]
variable{th:List Nat}
theorem yT(h:th≠[]):atI (aj th) (-1)=some (.int (fD th:Nat)):=by
 obtain⟨l,x,rfl⟩:=qX h;rw[l4];have hl:(aj (l++[x])).length=2#8+1:=by simp[aj]
 unfold atI;have:_L.ixN (aj (l++[x])).length (-1)=some 2#8:=by
  rw[hl];unfold _L.ixN
  grind
 rw[this];simp[aj]
theorem AJ{th:List Nat}(h:th≠[])(hl:∀x∈th,x<m):fD th<m:=by
 obtain⟨l,x,rfl⟩:=qX h;rw[l4];exact hl x 0#6
def kids(T:Nat->Nat->Nat)(st:List Nat)(p:Nod):List Nod:=(st.filter λs=>!decide (T (fD p.2) s∈p.2)).map λs=>(p.1++[s],p.2++[T (fD p.2) s])
def qj(T:Nat->Nat->Nat)(st:List Nat)(L:Nod->List 7#9):Nat->Nod->List 7#9
 |0,p=>L p
 |k+1,p=>(kids T st p).flatMap (qj T st L k)
theorem uM{e:ME}{G:Rho}{n c:Nat}{S:Sto}{us:List U}{f:U->U}(hu:getL S n=some us)(he:∀u∈us,∃ws,Fp c u=some ws/\e (G++ws.map some) S=some (f u,S)):
  ∀(k i:Nat) (acc:List U),i<=1#1->1#1-i<k->iU c cTT e G n k i acc S=some (acc++(us.drop i).map f,S)
 |0,i,acc,h1,h2=>by omega
 | k+1,i,acc,h1,h2=>by
   unfold iU;rw[hu];simp only[ah];by_cases hi:i<1#1
   .have hd:=iw hi
    obtain⟨ws,e1,e2⟩:=he _ (bW hi);rw[aI hi];simp only;rw[e1];simp only[ah,cTT,aw];rw[e2];simp only[aw];have ih:=uM hu he k _ (acc++[f us[i]]) 0#7 0#2;rw[ih,hd,aL];rfl
   simp_all
def dk(S:Sto)(F:List 7#9)(ln:List Nod)(x:Sto):Sto:=S++[.lst (tups F),.lst (ln.map lnU)]++x
section
variable {m:Nat}{T:Nat->Nat->Nat}{st:List Nat}{S x:Sto}{F:List (List Nat)}{ln:List Nod}{G:Rho}
theorem fG:dk S F ln x++[c]=dk S F ln (x++[c]):=by simp[dk]
theorem G0{he:ME}{p:Nod}(hh:h<m)(hs:∀s∈st,s<m)(Yc:st.length<1000)(hp1:p.1.length<400)(hp2:p.2.length<400)(YC:ln.length<100000)(hl:fD p.2=h)
  (WY:G[0]?=some (some (tab m T))) (VC:G[1]?=some (some (.tup (aj st)))) (h4:G[4]?=some (some 6#2)) (h5:G[5]?=some (some (.tup (aj p.1)))) (h6:G[6]?=some (some (.tup (aj p.2)))) (hn:G.length=n) (hi:i<n) (hi6:6<i)
  (hhe:∀z (S:Sto),he (G++z) S=some (.int (h:Nat),S)):
  ∃v x',aR (bq i (bL 5#9 (cOf (m2 eJ 25#8 (ae 6))) (cH (aa (ae n) (aa 25#8 ag))))) (di (mML gn 1#3 (aa (ic 2 (bZ (m1 oG (ae i))) cTT (cH 23#8)) ag))) G (dk S F ln x) =
   some (.nx,G.set i v,dk S F (ln++(kids T st p).reverse) x'):=by
 have ap:∀{j:Nat}{v:Option U}{z:Rho},G[j]?=some v->(G++z)[j]?=some v:=λ{j v z} e=>by
  have:=(af.mp e).1;rw[aK this];exact e
 have apn:∀{v:Option U}{z:Rho},(G++(v::z))[n]?=some v:=λ{v z}=>by rw[aq (by exact lN 0#7),hn];simp
 have ev:∀(s:Nat) (S':Sto),s∈st->m2 oIx (m2 oIx 0#4 he) (ae n) (G++[some (.int s)]) S'=some (.int (T h s:Nat),S'):=λs S' Yg=>il (T:=T) (i:=h) (j:=s) (hs s Yg) (ig hh (var_eq (ap WY)) (hhe _ _)) (var_eq apn);have e1:=sy (t:=cOf (m2 eJ 25#8 (ae 6))) (e:=cH (aa (ae n) (aa 25#8 ag))) (G:=G) (S:=dk S F ln x) (a:=ae 1) (l:=st) (p:=λs=>!decide (T h s∈p.2)) (f:=prU T h) (var_eq VC) Yc (λs Yg=>Lz (ev s _ Yg) (var_eq (ap h6))) (λs Yg _=>Cj (var_eq apn) (ev s _ Yg));generalize YD:(st.filter λs=>!decide (T h s∈p.2))=fr at e1;have hfl:fr.length<=st.length:=by rw[<-YD];exact eV _ _
 have g7:(G.set i 11#8)[i]?=some 11#8:=aM 0#2;have ne:∀{j:Nat}{v w:Option U},j≠i->G[j]?=some v->(G.set i w)[j]?=some v:=λ{j v w} hj e=>by rw[aD 0#2];exact e
 have hlen:(G.set i 11#8).length=n:=by simp[hn]
 rw[fG]at e1;have c1:(dk S F ln (x++10#3))[(dk S F ln x).length]?=some (Cell.lst (fr.map (prU T h))):=by rw[<-fG];exact aX _ _
 have e2:m1 oG (ae i) (G.set i 11#8) (dk S F ln (x++10#3))=some (.ref (dk S F ln (x++10#3)).length,dk S F ln (x++10#3++22#8)):=by
  simp only[m1,var_eq g7,aw,oG,getL,c1,aN];rw[fG,List.map_reverse]
 have c2:(dk S F ln (x++10#3++22#8))[(dk S F ln (x++10#3)).length]?=some (Cell.lst (fr.reverse.map (prU T h))):=by rw[<-fG];exact aX _ _
 generalize WA:dk S F ln (x++10#3++22#8)=S2 at e2 c2;generalize ZX:(dk S F ln (x++10#3)).length=r2 at e2 c2;have Yf:getL S2 r2=some (fr.reverse.map (prU T h)):=by unfold getL;rw[c2]
 have e3:=uM (c:=2) (e:=cH 23#8) (G:=G.set i 11#8) (f:=λu=>match u with | .tup [.int a,.int b]=>lnU (p.1++[a.toNat],p.2++[b.toNat]) |_ => .non) Yf (by
  intro u hu;obtain⟨s,_,rfl⟩:=aU.mp hu;refine⟨[.int s,.int (T h s:Nat)],rfl,?_⟩;have ap2:∀{j:Nat}{v:Option U}{z:Rho},(G.set i 11#8)[j]?=some v->(G.set i 11#8++z)[j]?=some v:=λ{j v z} e=>by
   have:=(af.mp e).1;rw[aK this];exact e
  have q1:(G.set i 11#8++([.int s,.int (T h s:Nat)]:List U).map some)[n]?=some (some (.int s)):=by rw[aq (by exact lN 0#7),hlen];simp
  have q2:(G.set i 11#8++([.int s,.int (T h s:Nat)]:List U).map some)[n+1]?=some (some (.int (T h s:Nat))):=by rw[aq 0#2,hlen];simp
  refine(Cj (Df (x:=p.1) (y:= [s]) (var_eq (ap2 (ne 0#2 h5))) (l6 (var_eq q1)) (by simp;exact az 0#7 0#1)) (Df (x:=p.2) (y:= [T h s]) (var_eq (ap2 (ne (by exact aS 0#7) h6))) (l6 (var_eq q2)) (by simp;exact az 0#7 0#1))).trans ?_
  simp[prU,lnU]) fuel 0 [] (dB _) (by rw[ay,eF];unfold fuel;exact az (by assumption) (ai (by assumption) (by decide)))
 rw[rJ,dv,eG]at e3;have hk:(fr.reverse.map ((λu=>match u with | .tup [.int a,.int b]=>lnU (p.1++[a.toNat],p.2++[b.toNat]) |_=>.non)∘prU T h))=((kids T st p).reverse).map lnU:=by
  unfold kids;rw[hl,YD,<-List.map_reverse,eG];apply bO;intro s _;simp[prU]
 rw[hk]at e3;have YK:(kids T st p).reverse.length<1000:=by
  rw[eF];unfold kids;rw[ay,hl,YD];exact az 0#7 0#7
 have e4:ic 2 (bZ (m1 oG (ae i))) cTT (cH 23#8) (G.set i 11#8) (dk S F ln (x++10#3))=some (.ref 8#0,S2++[.lst 19#9]):=by
  have hi2:bZ (m1 oG (ae i)) (G.set i 11#8) (dk S F ln (x++10#3))=some (.mut r2,S2):=by simp only[bZ,e2,aw,Yf,aN]
  simp only[ic,hi2,aw,Cs,e3];exact if_pos (by rw[ay];unfold big;exact ai 0#7 0#1)
 have c3:(S2++[Cell.lst 19#9])[0#3+1]?=some (.lst (ln.map lnU)):=by rw[<-WA,fG];exact h1
 have c4:(S2++[Cell.lst 19#9])[8#0]?=some (.lst 19#9):=aX _ _;have c5:(dk S F ln (x++10#3))[0#3+1]?=some (.lst (ln.map lnU)):=h1;refine⟨some (.ref (dk S F ln x).length),x++10#3++22#8++[Cell.lst 19#9],(aF (bo e1)).trans ?_⟩;have e5:mML gn 1#3 (aa (ic 2 (bZ (m1 oG (ae i))) cTT (cH 23#8)) ag) (G.set i 11#8) (dk S F ln (x++10#3))=some (.non,dk S F (ln++(kids T st p).reverse) (x++10#3++22#8++[Cell.lst 19#9])):=by
  simp only[mML,var_eq (ne 0#2 h4),aw,getL,c5,ah,aa,ag,e4,gn,c3,c4];rw[if_pos (by rw[ay,ay];unfold big;omega)]
  congr 2
  rw[<-WA,fG];show(S++[_,_]++_).set (0#3+1) _=_;rw[t1];simp[dk]
 simp only[di,e5,aw]
def Iu:MT:=wU (cOf (m2 oNe 1#3 3#5)) (cOf (m2 oLt 10#4 0#5))
theorem LN(h2:G[2]?=some (some (.int most)))(h3:G[3]?=some 19#0)(h4:G[4]?=some (some 6#2)):
  Iu G (dk S F ln x)=some (!decide (ln=[])&&decide (F.length<most),dk S F ln 16#1):=by
 have e1:cOf (m2 oNe 1#3 3#5) G (dk S F ln x)=some (!decide (ln=[]),dk S F ln 16#1):=by
  refine of_eq (NC (var_eq h4) (eM.trans (by rw[fG])) h1 ?_);rw[<-fG];exact aX _ _
 have e2:cOf (m2 oLt 10#4 0#5) G (dk S F ln 16#1)=some (decide (F.length<most),dk S F ln 16#1):=by
  have:=of_eq (NX (G:=G) (S:=dk S F ln 16#1) (a:=mFn bR 12#4) (b:=ae 2) (sU (var_eq h3) h0) (var_eq h2));rw[this]
  congr 2
  simp[tups]
 exact and_eq e1 e2 λ_=>rfl
theorem L0{p:Nod}(h4:G[4]?=some (some 6#2)):
  ze (mML nM 1#3 ag) (gTp 2 23#5) G (dk S F (ln++[p]) x)=some (.nx,(G.set 5 (some (.tup (aj p.1)))).set 6 (some (.tup (aj p.2))),dk S F ln x):=by
 have e1:mML nM 1#3 ag G (dk S F (ln++[p]) x)=some (lnU p,dk S F ln x):=by
  have c:(dk S F (ln++[p]) x)[0#3+1]?=some (.lst ((ln++[p]).map lnU)):=h1;simp only[mML,var_eq h4,aw,getL,c,ah,ag,nM];simp only[cQ,bz,lq,aQ,bB,cP,JR];rw[aq 0#6];simp only[ay,F4,dY,Nat.add_sub_cancel,lP,ox,aN]
  congr 2
  exact t1
 simp only[ze,e1,aw];rfl
end
def iP(b:Nat):Nat->Nat
 |0=>1
 |k+1=>1+b*iP b k
def msr(b m:Nat)(ln:List Nod):Nat:=(ln.map λp=>iP b (m-1-p.1.length)).sum
def rest(T:Nat->Nat->Nat)(st:List Nat)(L:Nod->List 7#9)(m:Nat)(ln:List Nod):List 7#9:=ln.reverse.flatMap λp=>qj T st L (m-1-p.1.length) p
structure Nd(m:Nat)(p:Nod):Prop where
 le:p.1.length<=m-1
 len:p.2.length=p.1.length+1
 lt:∀x∈p.2,x<m
section
variable {m:Nat}{T:Nat->Nat->Nat}{st:List Nat}{L:Nod->List (List Nat)}{ln:List Nod}{p:Nod}
theorem rP{b k:Nat}:1<=iP b k:=by cases k<;>simp[iP]
theorem DU{b:Nat}{a c:List Nod}:msr b m (a++c)=msr b m a+msr b m c:=by simp[msr]
theorem yV{b:Nat}:∀ln:List Nod,ln.length<=msr b m ln
 |[]=>by simp
 | p::ln=>by
   have:=yV (b:=b) ln;have:=rP (b:=b) (k:=m-1-p.1.length);simp only[msr,bz,Er,bB]at *;omega
theorem zr(g:Grp m T)(hs:∀s∈st,s<m)(n:Nd m p)(h:p.1.length<m-1){q:Nod}(hq:q∈kids T st p):Nd m q/\q.1.length=p.1.length+1:=by
 obtain⟨s,XI,rfl⟩:=aU.mp hq;have XR:=(eu.mp XI).1;have ZI:p.2≠[]:=by intro z;have:=n.len;rw[z]at this;simp at this
 refine⟨⟨by simp;assumption,by simp[n.len],λx hx=>?_⟩,by simp⟩;rcases aY.mp hx with hx |hx
 .exact n.lt x hx
 .simp at hx;rw[hx];exact g.cl _ _ (AJ ZI n.lt) (hs s XR)
theorem Gx(g:Grp m T)(hs:∀s∈st,s<m)(n:Nd m p)(h:p.1.length<m-1):msr st.length m (kids T st p).reverse+1<=msr st.length m [p]:=by
 have hk:(kids T st p).length<=st.length:=by unfold kids;rw[ay];exact eV _ _
 have e1:∀q∈(kids T st p).reverse,iP st.length (m-1-q.1.length)=iP st.length (m-1-p.1.length-1):=λq hq=>by
  rw[(zr g hs n h (yA.mp hq)).2];congr 1
 have e2:msr st.length m (kids T st p).reverse=(kids T st p).length*iP st.length (m-1-p.1.length-1):=by
  unfold msr;rw[bO e1,List.map_const',F6,eF]
 obtain⟨k,WH⟩ :∃k,m-1-p.1.length=k+1:=⟨m-1-p.1.length-1,by omega⟩;rw[e2];simp only[msr,bz,lq,Er,List.sum_nil,pZ];rw[WH,Nat.add_sub_cancel,iP];have:=ei (iP st.length k) hk;omega
theorem Cr(h:p.1.length<m-1)(hk:∀q∈kids T st p,q.1.length=p.1.length+1):rest T st L m (ln++(kids T st p).reverse)=rest T st L m (ln++[p]):=by
 unfold rest;rw[tK,List.reverse_reverse,tK,tL,tL]
 congr 1
 obtain⟨k,WH⟩ :∃k,m-1-p.1.length=k+1:=⟨m-1-p.1.length-1,by omega⟩;simp only[jk,List.reverse_nil,dv,List.flatMap_cons,List.flatMap_nil,gg];rw[WH,qj];rw[List.flatMap_def,List.flatMap_def]
 congr 1
 apply bO;intro q hq;rw[hk q hq]
 congr 1
 omega
theorem E7(h:p.1.length=m-1):rest T st L m (ln++[p])=L p++rest T st L m ln:=by
 unfold rest;rw[tK,tL]
 congr 1
 simp[h,qj]
end
theorem B8{G:Rho}{S:Sto}{b:MS}(ha:a G S=some (.int n,S0))(h:n<big)(P:Nat->Rho->Sto->Prop)(h0:P 0 G S0)
  (hs:∀(j:Nat) (G:Rho) (S:Sto),j<n->P j G S->∃Y1 S',b (G.set i (some (.int j))) S=some 6#5/\P (j+1) Y1 S'):
  ∃Y1 S',dU i (iR1 3#4) b G S=some 6#5/\P n Y1 S':=by
 obtain⟨Y1,S',e1,p1⟩:=rA (i:=i) (b:=b) P (bj 0 n) 0 G S0 h0 λj u G S hj hp=>by
  have hl:j<n:=by have:=(af.mp hj).1;simpa [bj]using this
  have hu:(bj 0 n)[j]?=some (.int j):=by simp[bj,hl]
  rw[hu]at hj;cases hj;simpa using hs j G S hl 18#9
 have hlen:(bj 0 n).length=n:=by simp[bj]
 rw[hlen,dY]at p1;refine⟨Y1,S',?_,p1⟩;unfold dU;rw[jH ha h];exact e1
theorem RR(ha:a G S=some 5#8)(hb:b G S1=some 8#3):mFn uH (aa a (aa b ag)) G S=some (.int (min x y:Nat),S2):=by
 refine bY ha hb ?_;show some (U.int (if (y:Int)<x then(y:Int) else x),S2)=_
 congr 3
 split<;>omega
def Du:MS:=di (mML bJ 1#3 (aa (mML kS 0#8 (aa (mFn aO (aa 0#4 (aa 10#4 ag))) ag)) ag))
def G5:MS:=aR (bq 3 (fZ (iR2 (aa 1#7 (aa (mFn bR 3#9) ag))))) (aR (bq 4 3#5) (aR (dU 5 (iR1 (aa (mFn uH 28#9) ag)) Du) (b9 (mFn bC (aa (mFn dh 5#3) ag)))))
theorem EV(h:ir n S)(g:Grp m T)(hm:m<60)(WM:0<most)(Wx:most<60):∃w S',_G.run 3 6 G5 [.ref n,tab m T,.int (most:Nat)] S=some (.tup (aj w),S')/\Stp n S S'/\(∀x∈w,x<m)/\3#3<=most/\3#3<60/\w.Nodup/\(∀x∈w,x≠0)/\(1<m->w≠[])/\srt w=w:=by
 have hp:=g.pos;have ZM:m<big:=by unfold big;exact ai 0#7 0#1
 have hn:=h.lt;have WU:0#3+1≠n:=cJ (dW hn);have YX:m-1<60:=az (gc m 1) hm;have e1:fZ (iR2 (aa 1#7 (aa (mFn bR 3#9) ag))) [2#7,0#9,11#3,none,none,none] S=some (.ref 0#3,S++12#7):=by
  rw[ya (i:=1) (j:=m) rfl 9#5 16#6 (ue ZM) (by rw[mx m 0#7,bf,uA];exact aB (gc m 1) (aV ZM)),mx m 0#7]
 have e2:bA ag [2#7,0#9,11#3,2#2,none,none] (S++12#7)=some (.ref (0#3+1),S++12#7++2#3):=eM.trans 0#6;generalize WA:S++12#7++2#3=S2 at e2;have x2:Ex S S2:=⟨_,by rw[<-WA,aL]⟩;have g3:S2[0#3]?=some (Cell.lst (aj (cb 1 (m-1)))):=by rw[<-WA,aL,aq 1#6];simp
 have g4:S2[0#3+1]?=some (Cell.lst (aj [])):=by rw[<-WA,aL,aq (by exact cX _)];simp[aj]
 have ZO:Stp n S S2:=Stp.ex h x2;obtain⟨r,S3,e3,hr,ZJ⟩:=eP (m:=most) ZO.st WM 18#5;have hlen:(cb 1 (m-1)).length=m-1:=by simp
 have e4:mFn uH 28#9 [2#7,0#9,11#3,2#2,some 6#2,none] S2=some (.int (min (m-1) (1+r):Nat),S3):=by
  refine RR (x:=m-1) (y:=1+r) ?_ (add_n (x:=1) (y:=r) c_i (bY 0#0 0#0 e3));have:=sU (G:= [2#7,0#9,11#3,2#2,some 6#2,none]) (S:=S2) (a:=ae 3) 0#0 g3;rw[this,bf,hlen]
 obtain⟨X9,S5,e5,a5,l5,w5,rfl,q3,q4,q5,q6,q7,q8,Zj⟩:=B8 (i:=5) (b:=Du) e4 (az (aB (lh _ _) (gc m 1)) ZM)
  (λk G S'=>∃a l w,G=[2#7,0#9,11#3,2#2,some 6#2,a]/\S'[0#3]?=some 17#1/\S'[0#3+1]?=some (Cell.lst (aj w))/\2#8+k=m-1/\3#3=k/\(∀x∈l,x<m)/\(w++l).Perm (cb 1 (m-1))/\Stp n S S')
  ⟨none,cb 1 (m - 1),[],rfl,ZJ.some (by exact cJ 0#7) g3,ZJ.some WU g4,by rw[hlen];rfl,rfl,λx hx=>wH (wN.mp hx).2 (lu hp),by simp,ZO.trans ZJ⟩ (by
   rintro k G S' hk ⟨a,l,w,rfl,c3,c4,hl,hw,lt1,lt2,st⟩;have YG:0<2#8:=Nat.lt_of_add_lt_add_right (by rw[dY,hl];exact ai hk (lh _ _));have YS:2#8<60:=az (aB (d9 _ k) (lN hl)) YX;have M':k<60:=az (aB (Nat.le_add_left k _) (lN hl)) YX;obtain⟨q,S6,e6,hq,Yw⟩:=eP (m:=2#8) st.st YG (ai YS 0#1);have c3':=Yw.some (by exact cJ 0#7) c3;have c4':=Yw.some WU c4;have el:mFn bR 12#4 [2#7,0#9,11#3,2#2,some 6#2,3#1] S'=some (.int (2#8:Nat),S'):=by
    have:=sU (G:= [2#7,0#9,11#3,2#2,some 6#2,3#1]) (S:=S') (a:=ae 3) 0#0 c3;rw[this,bf]
   have ep:=Bc (G:= [2#7,0#9,11#3,some (.ref S.length),some (.ref (S.length+1)),3#1]) (o:=ae 3) (a:=mFn aO (aa 0#4 (aa 10#4 ag))) (r:=S.length) (j:=q) (l:=l) 0#0 (bY 0#0 el e6) c3 c3' hq (by unfold big;exact ai YS 0#1);have ZR:l[q]∈l:=bW hq;generalize hx:l[q]=xv at ep ZR;have lS:0#3<S6.length:=(af.mp c3').1;have V':(S6.set S.length (Cell.lst (aj (l.eraseIdx q))))[0#3+1]?=some (Cell.lst (aj w)):=by rw[aD (by exact aS (bx _))];exact c4'
   have ea:=append_eq (G:= [2#7,0#9,11#3,some (.ref S.length),some (.ref (S.length+1)),3#1]) (o:=ae 4) (r:=S.length+1) 0#0 ep c4 V' (by rw[bf,hw];unfold big;exact ai M' 0#1);refine⟨_,_,ea,3#1,l.eraseIdx q,w++[xv],rfl,?_,?_,?_,by simp[hw],λz hz=>lt1 z (List.mem_of_mem_eraseIdx hz),?_,?_⟩
   .rw[aD (by exact Nat.succ_ne_self _)]
    exact aM lS
   .rw[aM (af.mp V').1]
    simp[aj]
   .rw[List.length_eraseIdx,if_pos hq,<-hl,<-fw,Nat.add_right_comm,mE YG]
   .rw[aL]
    refine JP (List.Perm.append_left w ?_) lt2;show(xv::l.eraseIdx q).Perm l;rw[<-hx];exact pq l q hq
   ·exact((st.trans Yw).set (by exact ak _) (by exact cJ (by assumption))).set (by exact cX _) WU)
 have hw:w5.length<60:=by rw[q6];exact az (lh _ _) YX
 have e6:=eB (qx (G:= [2#7,0#9,11#3,2#2,some 6#2,a5]) (S:=S5) (a:=ae 4) 0#0 q4 18#5);refine⟨srt w5,_,bM (G:= [2#7,0#9,11#3,2#2,some 6#2,a5]) rfl (show G5 [2#7,0#9,11#3,none,none,none] S=_ from(aF (bo e1)).trans ((aF (bo e2)).trans ((aF e5).trans (bU e6)))),Zj.step 2#6,λx hx=>?_,?_,?_,?_,λx hx=>?_,λh1 z=>?_,yn (lE w5)⟩
 .exact wH (wN.mp (q8.mem_iff.mp (a9 l5 (eD.mp hx)))).2 (lu hp)
 .rw[kA,q6];exact aB (Nat.min_le_right _ _) (by rw[qc];exact hr)
 .rw[kA];assumption
 .rw[(lE w5).nodup_iff]
  have:=q8.nodup_iff.mpr List.nodup_range';exact(jl.mp this).1
 .have:=wN.mp (q8.mem_iff.mp (a9 l5 (eD.mp hx)));omega
 .have:w5.length=0:=by rw[<-kA,z];rfl
  omega
theorem zw{α:Type}{xs:List α}{k:Nat}:cut xs none (some (k:Int))=xs.take k:=by
 have h1:HT.sIx xs.length 0 none=0:=rfl;have h2:HT.sIx xs.length xs.length (some (k:Int))=min k 1#5:=HT.sIx_nat _ _ k;unfold cut;rw[h1,h2,rJ,Nat.sub_zero];by_cases h:k<=1#5
 .rw[Bs h]
 .rw[zM 0#2,jq 1#6,jq 0#2]
variable{F:List (List Nat)}
theorem IM{k:Nat}:cut (tups F) none (some (k:Int))=tups (F.take k):=by
 rw[zw];unfold tups;rw[ua]
section
variable {m:Nat}{T:Nat->Nat->Nat}{st:List Nat}{S:Sto}
def oE(m:Nat)(T:Nat->Nat->Nat)(st:List Nat)(most:Nat)(S:Sto)(r:List (Option U)):Rho:= [0#9,some (.tup (aj st)),17#3,2#2,some 6#2]++r
structure Sv(m:Nat)(T:Nat->Nat->Nat)(st:List Nat)(L:Nod->List (List Nat))(F:List (List Nat))(ln:List Nod)(μ:Nat):Prop where
 nd:∀p∈ln,Nd m p
 tot:F++rest T st L m ln=qj T st L (m-1) ([],[0])
 ms:msr st.length m ln<=μ
 bd:μ<=30000
theorem Sv.start{L:Nod->List (List Nat)}(hm:0<m)(hz:iP st.length (m-1)<=30000):Sv m T st L [] [([],[0])] (iP st.length (m-1)):=
 ⟨λp hp=>by simp at hp;subst hp;exact⟨by simp,rfl,by simpa using hm⟩,by simp[rest],by simp[msr],hz⟩
variable{ln:List Nod}{μ:Nat}
theorem Sv.stop{L:Nod->List (List Nat)}(s:Sv m T st L F ln μ)(h:(!decide (ln=[])&&decide (F.length<most))=false):F.take most=(qj T st L (m-1) ([],[0])).take most:=by
 rw[<-s.tot];by_cases hl:ln=[]
 .subst hl;simp[rest]
 .have:most<=F.length:=by simpa [hl]using h
  rw[zO this]
theorem Sv.leaf{L:Nod->List (List Nat)}{p:Nod}(s:Sv m T st L F (ln++[p]) (μ+1))(h:p.1.length=m-1):Sv m T st L (F++L p) ln μ:=by
 refine⟨λq hq=>s.nd q (a9 _ hq),?_,?_,by have:=s.bd;exact aV 0#7⟩
 .have:=s.tot
  rw[E7 h]at this;rw[<-this,aL]
 .have:=s.ms
  rw[DU]at this;have h1:=rP (b:=st.length) (k:=m-1-p.1.length);simp only[msr,bz,lq,Er,List.sum_nil]at this ⊢;omega
theorem Sv.inner{L:Nod->List (List Nat)}{p:Nod}(g:Grp m T)(hs:∀s∈st,s<m)(s:Sv m T st L F (ln++[p]) (μ+1))(h:p.1.length<m-1):Sv m T st L F (ln++(kids T st p).reverse) μ:=by
 have np:=s.nd p 0#6;refine⟨λq hq=>?_,?_,?_,by have:=s.bd;exact aV 0#7⟩
 .rcases aY.mp hq with hq|hq
  .exact s.nd q (a9 _ hq)
  .exact(zr g hs np h (yA.mp hq)).1
 .rw[Cr h λq hq=>(zr g hs np h hq).2];exact s.tot
 .have:=s.ms
  have:=Gx g hs np h;rw[DU]at *;omega
def DI:MS:=aR (ze (mML nM 1#3 ag) (gTp 2 23#5)) (aR (bq 7 (m2 oIx (ae 6) 5#7)) (sIf (cOf (m2 oEq 13#8 (m2 oB 7#5 1#7))) (di (mML gn 0#8 (aa (bL 5#9 (cOf (m2 oEq 17#7 1#9)) 25#9) ag))) (aR (bq 8 (bL 5#9 (cOf (m2 eJ 17#7 (ae 6))) (cH (aa (ae 9) (aa 17#7 ag))))) (di (mML gn 1#3 (aa (ic 2 (bZ (m1 oG (ae 8))) cTT (cH (aa 25#9 (aa (m2 bN (ae 6) (cH (aa (ae 10) ag))) ag)))) ag))))))
def De:MS:=aR (bq 3 3#5) (aR (bq 4 (bA 30#5)) (aR (jy Iu DI) (b9 (mSl 0#8 none (some 0#5)))))
def pJ(T:Nat->Nat->Nat)(st:List Nat)(p:Nod):List 7#9:=(st.filter λs=>decide (T (fD p.2) s=0)).map λs=>p.1++[s]
theorem Uk{p:Nod}(WY:G[0]?=some (some (tab m T)))(h5:G[5]?=some (some (.tup (aj p.1))))(hm:0<m):cOf (m2 oEq 13#8 (m2 oB 7#5 1#7)) G S'=some (decide (p.1.length=m-1),S'):=by
 have:=of_eq (ES (G:=G) (S:=S') (a:=mFn bR (aa 2#1 ag)) (b:=m2 oB 7#5 1#7) (sR (var_eq h5)) (Hg (len_tab (var_eq WY)) c_i));rw[this,bf]
 congr 2
 by_cases h:p.1.length=m-1
 .rw[decide_eq_true h,h];simp;omega
 .rw[decide_eq_false h];simp;omega
theorem Si(h6:G[6]?=some (some (.tup (aj th))))(ZI:th≠[]):m2 oIx (ae 6) 5#7 G S'=some (.int (fD th:Nat),S'):=Ff (var_eq h6) Aw (yT ZI)
theorem Hc:bA 30#5 G S'=some (.ref S'.length,S'++[.lst [lnU ([],[0])]]):=rm (Cj (x:= .tup []) rfl (l6 c_i))
theorem FK{S:Sto}{k:Nat}{ws:List U}(ho:o G S=some (.ref r,S))(ha:a G S=some (.ref k,S1))(hr:S[r]?=some (Cell.lst us))(Z':S1[r]?=some (Cell.lst us))(hk:S1[k]?=some (Cell.lst ws))(hl:1#1+ws.length<=big):
  di (mML gn o 3#4) G S=some (.nx,G,S1.set r (.lst (us++ws))):=by
 simp only[di,mML,ho,aw,getL,hr,ah,aa,ag,ha,gn,Z',hk];rw[if_pos hl];simp only[aw]
theorem FM(g:Grp m T)(hm:m<100)(hs:∀s∈st,s<m)(Yc:st.length<1000)(WM:most<10000000)(hz:iP st.length (m-1)<=30000):
  ∃r S',_G.run 3 9 De [tab m T,.tup (aj st),.int (most:Nat)] S=some (.ref r,S')/\Ex S S'/\S'[r]?=some (.lst 28#6):=by
 have hp:=g.pos;obtain⟨Y2,S1,e1,r,F,ln,x,rfl,rfl,hF⟩:=ug (c:=Iu) (b:=DI) (λμ G S'=>∃a b c d F ln x,G=oE m T st most S [a,b,c,d]/\S'=dk S F ln x/\Sv m T st (pJ T st) F ln μ)
  (λG S' =>∃r F ln x,G=oE m T st most S r/\S'=dk S F ln x/\F.take most=(qj T st (pJ T st) (m - 1) ([],[0])).take most) (by
  rintro μ G S' ⟨a,b,c,d,F,ln,x,rfl,rfl,s⟩;refine⟨_,_,LN (most:=most) rfl rfl rfl,λhf=>⟨_,F,ln,_,rfl,rfl,s.stop hf⟩,λht=>?_⟩;rw[av]at ht;have ZI:ln≠[]:=by simpa using ht.1
  have hFl:F.length<most:=of_decide_eq_true ht.2;obtain⟨ln,p,rfl⟩:=qX ZI;have np:=s.nd p 0#6;have YC:ln.length<100000:=by
   have:=yV (m:=m) (b:=st.length) (ln++[p]);have:=s.ms;have:=s.bd;simp only[aQ,bB,cP]at *;omega
  have hth:p.2≠[]:=by intro z;have:=np.len;rw[z]at this;simp at this
  cases μ with
  | zero=>
    have:=s.ms;have:=yV (m:=m) (b:=st.length) (ln++[p]);simp at this;omega
  |succ μ=>
  have e1:=L0 (S:=S) (F:=F) (ln:=ln) (x:=x++[.lst []]) (p:=p) (G:=oE m T st most S [a,b,c,d]) rfl;have e0:bq 7 (m2 oIx (ae 6) 5#7) (oE m T st most S [some (.tup (aj p.1)),some (.tup (aj p.2)),c,d]) (dk S F ln 16#1)=some (.nx,oE m T st most S 21#9,dk S F ln 16#1):=bo (Si rfl hth);have ec:=Uk (m:=m) (T:=T) (p:=p) (G:=oE m T st most S 21#9) (S':=dk S F ln 16#1) rfl rfl hp;have hla:=AJ hth np.lt;by_cases hl:p.1.length=m-1
  .rw[decide_eq_true hl]at ec
   have e2:=sy (t:=cOf (m2 oEq 17#7 1#9)) (e:=m2 bN 2#1 (cH (aa (ae 9) ag))) (G:=oE m T st most S 21#9) (S:=dk S F ln 16#1) (a:=ae 1) (l:=st) (p:=λs=>decide (T (fD p.2) s=0)) (f:=λs=>.tup (aj (p.1++[s]))) 0#0 Yc
    (λs Yg=>of_eq (P4 (y:=0) (il (T:=T) (i:=fD p.2) (j:=s) (hs s Yg) (ig hla 0#0 0#0) 0#0) c_i)) (λs Yg _=>Df (x:=p.1) (y:= [s]) 0#0 (l6 0#0) 14#4)
   have Yd:((st.filter λs=>decide (T (fD p.2) s=0)).map λs=>U.tup (aj (p.1++[s])))=tups (pJ T st p):=by
    unfold tups pJ;rw[eG];rfl
   rw[Yd,fG]at e2;have YS:(pJ T st p).length<=st.length:=by unfold pJ;rw[ay];exact eV _ _
   have e3:=FK (G:=oE m T st most S 21#9) (o:=ae 3) (r:=S.length) 0#0 e2 h0 h0 (by rw[<-fG];exact aX _ _) (by simp only[tups,ay];unfold big;omega);rw[show(dk S F ln (x++2#3++[Cell.lst (tups (pJ T st p))])).set S.length (Cell.lst (tups F++tups (pJ T st p)))=dk S (F++pJ T st p) ln (x++2#3++[Cell.lst (tups (pJ T st p))]) from(show(S++[_,_]++_).set S.length _=_ from t0).trans (by simp[dk,tups])]at e3;exact⟨_,_,μ,bx _,(aF e1).trans ((aF e0).trans ((iJ ec).trans e3)),_,_,_,_,_,_,_,rfl,rfl,s.leaf hl⟩
  .rw[decide_eq_false hl]at ec
   have ZV:p.1.length<m-1:=by have:=np.le;exact wF 0#7 0#7
   obtain⟨v,x',e2⟩:=G0 (S:=S) (F:=F) (ln:=ln) (x:=x++[.lst []]) (i:=8) (n:=9) (h:=fD p.2) (he:=ae 7) (p:=p) (G:=oE m T st most S 21#9) hla hs Yc 0#2 (by have:=np.len;omega) YC rfl rfl rfl rfl rfl rfl rfl 0#1 0#1 (λz S'=>var_eq rfl)
   exact⟨_,_,μ,bx _,(aF e1).trans ((aF e0).trans ((gF ec).trans e2)),_,_,_,_,_,_,_,rfl,rfl,s.inner g hs ZV⟩) fuel (iP st.length (m - 1)) (oE m T st most S [none,none,none,none]) (dk S [] [([],[0])] []) (by unfold fuel;exact az (by assumption) (by decide)) ⟨_,_,_,_,_,_,_,rfl,rfl,Sv.start hp hz⟩
 have e9:mSl 0#8 none (some 0#5) (oE m T st most S r) (dk S F ln x)=some (.ref (dk S F ln x).length,dk S F ln x++[.lst (tups (F.take most))]):=by
  have c:(dk S F ln x)[0#3]?=some (.lst (tups F)):=h0;have v3:ae 3 (oE m T st most S r) (dk S F ln x)=some (.ref 0#3,dk S F ln x):=var_eq rfl;have v2:ae 2 (oE m T st most S r) (dk S F ln x)=some (.int (most:Nat),dk S F ln x):=var_eq rfl;simp only[mSl,v3,aw,mZ,v2,getL,c,aN];rw[IM]
 rw[hF]at e9;refine⟨(dk S F ln x).length,dk S F ln x++[.lst 28#6],bM (G:=oE m T st most S r) rfl ?_,⟨[.lst (tups F),.lst (ln.map lnU)]++x++[.lst 28#6],by unfold dk;simp⟩,aX _ _⟩;show De [0#9,some (.tup (aj st)),11#3,none,none,none,none,none,none] S=_;refine(aF (bo eM)).trans ((aF (bo Hc)).trans ?_);refine(aF (Y2:=oE m T st most S r) (S1:=dk S F ln x) ?_).trans (bU e9);rw[<-e1];simp[jy,dk,oE,tups]
end
theorem Ex.set{S S':Sto}{r:Nat}{c:Cell}(h:Ex S S')(hr:0#3<=r):Ex S (S'.set r c):=by
 obtain⟨t,rfl⟩:=h;exact⟨t.set (r-0#3) c,by rw[dE _ _ hr]⟩
section
variable {m:Nat}{T:Nat->Nat->Nat}{st:List Nat}
end
open PySem in
open PySem in
section
variable {m:Nat}{T:Nat->Nat->Nat}{st:List Nat}{S:Sto}
end
abbrev Rds:=List (Nat×List Nat)
def kF(ks:Rds):List Nat:=ks.map Prod.fst
def fK(ks:Rds):List (_L.Key×U):=ks.map λp=>(fI (p.1:Int),U.tup (aj p.2))
variable{ks:Rds}
theorem Ge:wY (fK ks) 10#0=decide (x∈kF ks):=by
 have:wY (fK ks) (.inl x)=true↔x∈kF ks:=by
  rw[qM];unfold fK kF;constructor
  .grind
  .intro h
   obtain⟨y,hy,rfl⟩:=aU.mp h;exact⟨_,aU.mpr ⟨y,hy,rfl⟩,rfl⟩
 grind
theorem R0(h:x∉kF ks):kY (fK ks) 10#0 4#2=fK (ks++[(x,w)]):=by
 unfold kY;rw[if_neg]
 .simp[fK]
 .intro z
  obtain⟨kv,hm,e⟩:=fJ.mp z;have:=qM.mpr ⟨kv,hm,of_decide_eq_true e⟩;rw[Ge]at this
  grind
theorem Et(ks:Rds):(fK ks).length=ks.length:=by simp[fK]
theorem vA:∀(ks:Rds),dG lU (fK ks)=some (jh (kF ks))
 |[]=>rfl
 | x::l=>by
   show(lU _).bind _=_;rw[show JQ _ l=fK l from rfl,vA l];rfl
def iY(ks:Rds)(x:Nat):List Nat:=((ks.find? λp=>decide (p.1=x)).map Prod.snd).getD []
theorem Nm{x:Nat}:∀{ks:Rds},x∈kF ks->j8 (fK ks) 10#0=some (.tup (aj (iY ks x)))
 |[],h=>by simp[kF]at h
 | p::ks,h=>by
   unfold j8 iY fK;rw[bz,cg,cg];by_cases e:p.1=x
   .have:(fI (p.1:Int):_L.Key)=.inl (x:Int):=by rw[e]
    simp[e]
   .have e1: ¬((fI (p.1:Int):_L.Key)=.inl (x:Int)):=λz=>e (by have:=Sum.inl.inj z;omega)
    simp only[decide_eq_false e,decide_eq_false e1];have h':x∈kF ks:=by
     rcases a7.mp (show x∈p.1::kF ks from h) with z|z
     .exact absurd z.symm e
     .exact z
    exact Nm (ks:=ks) h'
theorem pH{x:Nat}:∀{ks:Rds},x∈kF ks->(x,iY ks x)∈ks
 |[],h=>by simp[kF]at h
 | p::ks,h=>by
   unfold iY;rw[cg];by_cases e:p.1=x
   .rw[decide_eq_true e]
    show(x,p.2)∈p::ks;rw[<-e];exact bc
   .have h':x∈kF ks:=by
     rcases a7.mp (show x∈p.1::kF ks from h) with z|z
     .exact absurd z.symm e
     .exact z
    rw[decide_eq_false e];exact aE _ (pH (ks:=ks) h')
structure Rd(T:Nat->Nat->Nat)(ths:List Nat)(ks:Rds):Prop where
 go:∀p∈ks,eR T p.2=p.1
 by':∀p∈ks,∀y∈p.2,y∈ths
 len:∀p∈ks,p.2.length<ks.length
section
variable {m:Nat}{T:Nat->Nat->Nat}{ths:List Nat}{S x:Sto}{v:U}
def fP(S:Sto)(p:Rds×List Nat)(x:Sto):Sto:=S++[.dic (fK p.1),.lst (aj p.2)]++x
def B4(T:Nat->Nat->Nat)(h y:Nat)(p:Rds×List Nat):Rds×List Nat:=if T h y∈kF p.1 then p else(p.1++20#9,p.2++[T h y])
def cvR(p:Rds×List Nat):List Nat×List Nat:=(kF p.1,p.2)
theorem KN{p:Rds×List Nat}:cvR (B4 T h y p)=tryD T h y (cvR p):=by
 by_cases e:T h y∈kF p.1
 .rw[B4,if_pos e,tryD,if_pos (show T h y∈(cvR p).1 from e)]
 .rw[B4,if_neg e,tryD,if_neg (show ¬T h y∈(cvR p).1 from e)]
  simp[cvR,kF]
theorem Lj{p:Rds×List Nat}(hr:Rd T ths p.1)(hh:h∈kF p.1)(hy:y∈ths):Rd T ths (B4 T h y p).1:=by
 unfold B4
 split
 .exact hr
 .have hm:=pH hh
  refine⟨λq hq=>?_,λq hq=>?_,λq hq=>?_⟩
  .rcases aY.mp hq with hq|hq
   .exact hr.go q hq
   .simp at hq;subst hq
    show eR T (iY p.1 h++[y])=T h y;have:=hr.go _ hm;unfold eR at this ⊢;rw[List.foldl_append,this];rfl
  .rcases aY.mp hq with hq|hq
   .exact hr.by' q hq
   .simp at hq;subst hq
    intro z hz;rcases aY.mp hz with hz|hz
    .exact hr.by' _ hm z hz
    .simp at hz;rw[hz];exact hy
  .rw[aQ]
   rcases aY.mp hq with hq|hq
   .have:=hr.len q hq;simp;exact gL 0#7
   .simp at hq;subst hq
    have:=hr.len _ hm;simp at this ⊢;assumption
theorem OR{S:Sto}(ha:a G S=some (.ref r,S1))(hb:b G S1=some (.int (y:Nat),S2))(hr:S2[r]?=some (Cell.dic kvs))(h:j8 kvs (.inl (y:Int))=some u):m2 oIx a b G S=some (u,S2):=
 op2 ha hb (by simp only[oIx,eW,hr,keyOf,ah,h,aN])
theorem Nl{S:Sto}{i:ME}(he:e G S=some (u,S))(ho:o G S=some (.ref r,S))(hi:i G S=some (.int z,S))(hr:S[r]?=some (Cell.dic kvs))(hl:3#2<big):eI o i e G S=some (.nx,G,S.set r (.dic (kY kvs (.inl z) u))):=by
 simp only[eI,he,aw,ho,hi,hr,keyOf,ah,hl,if_true]
def rK:MS:=aR (bq 6 16#4) (sIf (cOf (m2 eJ (ae 6) 0#5)) (aR (eI 0#5 (ae 6) (m2 bN (m2 oIx 0#5 1#3) (cH (aa 2#1 ag)))) (di (mML bJ 0#8 (aa (ae 6) ag)))) cM)
def Ml:MS:=aR (bq 4 (mML nM 0#8 ag)) (dU 5 5#9 rK)
def CV:MS:=aR (bq 2 (kE 1#9 (cH ag))) (aR (bq 3 (bA 7#6)) (aR (jy IZ Ml) (b9 0#5)))
def spM:MS:=b9 (mFn bC (aa (mFn dh (aa (mFn (_G.run 2 7 CV) 5#6) ag)) ag))
theorem Fq{c:Option U}{p:Rds×List Nat}(hh:h<m)(hy:y<m)(hk:h∈kF p.1)(hr:Rd T ths p.1)(l1:p.1.length<1000)(l2:p.2.length<big):
  rK (spR m T v S [10#8,some (.int y),c]) (fP S p x)=some (.nx,spR m T v S 22#2,fP S (B4 T h y p) x):=by
 have e6:m2 oIx (m2 oIx 0#4 1#3) 2#1 (spR m T v S [10#8,some (.int y),c]) (fP S p x)=some (.int (T h y:Nat),fP S p x):=il hy (ig hh 0#0 0#0) 0#0;refine(aF (bo e6)).trans ?_;show sIf _ _ _ (spR m T v S 22#2) (fP S p x)=_;have ec:=y0 (G:=spR m T v S 22#2) (a:=ae 6) (b:=ae 2) (x:=T h y) 0#0 0#0 (show(fP S p x)[0#3]?=_ from h0);rw[Ge]at ec;unfold B4;by_cases ZR:T h y∈kF p.1
 .rw[if_pos ZR]
  rw[decide_eq_true ZR]at ec;exact gF ec
 .rw[if_neg ZR]
  rw[decide_eq_false ZR]at ec;refine(iJ ec).trans ?_;have Yd:=hr.len _ (pH hk);have ea:m2 bN (m2 oIx 0#5 1#3) (cH (aa 2#1 ag)) (spR m T v S 22#2) (fP S p x)=some (.tup (aj (iY p.1 h++[y])),fP S p x):=Df (x:=iY p.1 h) (y:= [y]) (OR (y:=h) 0#0 0#0 (show(fP S p x)[0#3]?=_ from h0) (Nm hk)) (l6 0#0) (by simp at Yd ⊢;exact az 0#7 0#7);have e1:=Nl (o:=ae 2) (i:=ae 6) ea 0#0 0#0 (show(fP S p x)[S.length]?=_ from h0) (by rw[Et];unfold big;exact ai 0#7 0#1);rw[R0 ZR,show(fP S p x).set S.length (.dic (fK (p.1++20#9)))=fP S (p.1++20#9,p.2) x from t0]at e1;refine(aF e1).trans ?_;have e2:=append_eq (G:=spR m T v S 22#2) (o:=ae 3) (a:=ae 6) 0#0 0#0 (show(fP S (p.1++20#9,p.2) x)[0#3+1]?=_ from h1) h1 (by rw[bf];exact l2);rw[show(fP S (p.1++20#9,p.2) x).set (0#3+1) _=S++[.dic (fK (p.1++20#9)),_]++x from t1]at e2;rw[e2];simp[fP,aj]
theorem LC{a b c:Option U}{μ:Nat}{p:Rds×List Nat}(g:Grp m T)(hm:m<64)(X2:μ<1000)(ht:∀z∈ths,z<m)(hv:Wk S v ths)(n:Inn m T ths h 0 (cvR p) μ)(hr:Rd T ths p.1):
  ∃b' c' q,dU 5 5#9 rK (spR m T v S [10#8,b,c]) (fP S p x)=some (.nx,spR m T v S [10#8,b',c'],fP S q x)/\Inn m T ths h ths.length (cvR q) μ/\Rd T ths q.1:=by
 have hh:h<m:=n.d.lt h n.hk;have stp:∀(k:Nat) (u:U) (G:Rho) (S':Sto),(aj ths)[k]?=some u->(∃b c q,S'=fP S q x/\G=spR m T v S [10#8,b,c]/\Inn m T ths h k (cvR q) μ/\Rd T ths q.1)->∃Y1 Zh,rK (G.set 5 (some u)) S'=some (.nx,Y1,Zh) /\ ∃b c q,Zh=fP S q x/\Y1=spR m T v S [10#8,b,c]/\Inn m T ths h (k+1) (cvR q) μ/\Rd T ths q.1:=by
  rintro k u G S' hu ⟨b,c,q,rfl,rfl,q3,q4⟩;obtain⟨y,hy,rfl⟩:=gM hu;have l:=q3.st_le X2 hm;have YB:=bu hy;have l1:q.1.length<1000:=by have:=q3.d.len;simp only[cvR,kF,ay]at this;exact az 0#7 (ai 0#7 0#1)
  refine⟨_,_,Fq (S:=S) (x:=x) (v:=v) (c:=c) hh (ht y YB) q3.hk q4 l1 l.2,_,_,_,rfl,rfl,?_,Lj q4 q3.hk YB⟩;rw[KN];exact q3.try g ht hy
 rcases hv with rfl|⟨r,rfl,Z',hl⟩
 .obtain⟨Y1,S',e,b',c',q,rfl,rfl,q3,q4⟩:=pA (i:=5) (b:=rK) (e:=ae 1) (G:=spR m T (.tup (aj ths)) S [10#8,b,c]) (S:=fP S p x) (us:=aj ths) 0#0 _ ⟨b,c,p,rfl,rfl,n,hr⟩ stp
  rw[bf]at q3;exact⟨b',c',q,e,q3,q4⟩
 .have Yd:=(af.mp Z').1
  obtain⟨Y1,S',e,b',c',q,rfl,rfl,q3,q4⟩:=o5 (i:=5) (b:=rK) (e:=ae 1) (G:=spR m T (.ref r) S [10#8,b,c]) (S:=fP S p x) (us:=aj ths) 0#0 (by rw[bf];exact ai 0#7 0#1) _ ⟨b,c,p,rfl,rfl,n,hr⟩
   (by
    rintro k G S' ⟨b,c,q,rfl,_⟩;unfold getL fP
    rw[aL,aK Yd,Z']) stp
  rw[bf]at q3;exact⟨b',c',q,e,q3,q4⟩
theorem Hm(g:Grp m T)(hm:m<64)(ht:∀z∈ths,z<m)(hv:Wk S v ths):∃ks S',_G.run 2 7 CV [tab m T,v] S=some 14#6/\Ex S S'/\S'[0#3]?=some (.dic (fK ks))/\Dfs m T ths (kF ks) (λ_=>False)/\Rd T ths ks:=by
 have hp:=g.pos;obtain⟨Y1,S1,e1,⟨r,ks,x,rfl,rfl,d,hr⟩⟩:=ug (c:=IZ) (b:=Ml) (λμ G S'=>∃a b c p x,G=spR m T v S [a,b,c]/\S'=fP S p x/\yZ m T ths (kF p.1) p.2 μ/\μ<1000/\Rd T ths p.1)
  (λG S' =>∃r ks x,G=spR m T v S r/\S'=fP S (ks,[]) x/\Dfs m T ths (kF ks) (λ_=>False)/\Rd T ths ks) (by
  rintro μ G S' ⟨a,b,c,p,x,rfl,rfl,s,X2,hr⟩;have ec:IZ (spR m T v S [a,b,c]) (fP S p x)=some (decide ((0:Int)<(aj p.2).length),fP S p x):=of_eq (Gm (sU 0#0 h1) c_i);refine⟨_,_,ec,λhf=>?_,λhf=>?_⟩
  .have h2:p.2=[]:=by
    have:=of_decide_eq_false hf;rw[bf]at this;exact FQ.mp 0#2
   refine⟨_,p.1,x,rfl,by rw[<-h2],?_,hr⟩;have:=s.d;rw[h2]at this;exact⟨this.nd,this.lt,this.z,this.rc,λx hx=>(this.cl x hx).imp 0#6 id⟩
  .have h2:p.2≠[]:=λe=>by rw[e]at hf;simp[aj]at hf
   obtain⟨st,h,e⟩:=qX h2;obtain⟨ks,s2⟩:=p;subst e;cases μ with
   |zero=>have:=s.ms;simp at this
   |succ μ=>
   have e4:bq 4 (mML nM 0#8 ag) (spR m T v S [a,b,c]) (fP S (ks,st++[h]) x)=some (.nx,spR m T v S [10#8,b,c],fP S (ks,st) x):=by
    rw[bo (i:=4) (Ek (G:=spR m T v S [a,b,c]) (S:=fP S (ks,st++[h]) x) (o:=ae 3) (r:=0#3+1) 0#0 h1)];rw[show(fP S (ks,st++[h]) x).set (0#3+1) (Cell.lst (aj st))=fP S (ks,st) x from t1];rfl
   obtain⟨b',c',q,e5,i,hq⟩:=LC (S:=S) (x:=x) (a:=a) (b:=b) (c:=c) (p:=(ks,st)) g hm (by exact aV 0#7) ht hv s.pop hr
   exact⟨_,_,μ,bx _,(aF e4).trans e5,_,_,_,q,x,rfl,rfl,i.done,by exact aV (by assumption),hq⟩) fuel (2*m) (spR m T v S [none,none,none]) (fP S ([(0,[])],[0]) []) (by unfold fuel;omega) ⟨_,_,_,([(0,[])],[0]),[],rfl,rfl,yZ.start hp,by omega,⟨λp hp=>by simp at hp;subst hp;rfl,λp hp=>by simp at hp;subst hp;simp,λp hp=>by simp at hp;subst hp;simp⟩⟩
 refine⟨ks,_,bM (G:=spR m T v S r) rfl ?_,?_,(show(fP S (ks,[]) x)[0#3]?=_ from h0),d,hr⟩
 .show CV [0#9,some v,none,none,none,none,none] S=_
  have ed:kE 1#9 (cH ag) [0#9,some v,none,none,none,none,none] S=some (.ref 0#3,S++[.dic (fK [(0,[])])]):=by
   simp[kE,mC,cH,ag,aw,keyOf,fK,aj]
  refine(aF (bo ed)).trans ((aF (bo (rm c_i))).trans ?_);refine(aF (Y2:=spR m T v S r) (S1:=fP S (ks,[]) x) ?_).trans (bU 0#0);rw[<-e1];simp[jy,fP,spR,aj]
 .unfold fP;rw[aL];exact⟨_,rfl⟩
theorem NU(g:Grp m T)(hm:m<64)(ht:∀z∈ths,z<m)(hv:Wk S v ths):∃ks S',_G.run 2 2 spM [tab m T,v] S=some (.tup (aj (srt ks)),S')/\Ex S S'/\Dfs m T ths ks λ_=>False:=by
 obtain⟨ks,S1,e1,x1,q1,d,_⟩:=Hm (v:=v) g hm ht hv;have hl:(kF ks).length<64:=az d.len hm;have e2:mFn dh (aa (mFn (_G.run 2 7 CV) 5#6) ag) [0#9,some v] S=some (.ref 4#4,S1++[.lst (aj (srt (kF ks)))]):=fC (bY 0#0 0#0 e1) (qU (by simp only[tw,eW,q1,vA]) hl);exact⟨kF ks,_,bM (G:= [0#9,some v]) rfl (bU (eB e2)),x1.trans 2#6,d⟩
theorem Ri(g:Grp m T)(hm:m<64)(ht:∀z∈ths,z<m):∃ks S',_G.run 2 2 spM [tab m T,.tup (aj ths)] S=some (.tup (aj (srt ks)),S')/\Ex S S'/\Dfs m T ths ks λ_=>False:=NU g hm ht 6#6
end
theorem Ry{α β γ:Sort _}{f:α->β->γ}{a a':α}{b b':β}(h1:a=a')(h2:b=b'):f a b=f a' b':=by rw[h1,h2]
section
variable {m:Nat}{T:Nat->Nat->Nat}
abbrev Lt(m:Nat)(w:List Nat):Prop:= ∀x∈w,x<m
theorem Lt.app{a b:List Nat}(ha:Lt m a)(hb:Lt m b):Lt m (a++b):=λx hx=>(aY.mp hx).elim (ha x) (hb x)
theorem Lt.tk{a:List Nat}(ha:Lt m a)(k:Nat):Lt m (a.take k):=λx hx=>ha x (ib hx)
theorem AU(g:Grp m T)(hw:Lt m w):eR T w<m:=Eb g.pos g.cl hw
theorem xX:eR T (w++[x])=T (eR T w) x:=by unfold eR;simp_all
theorem HG:plc T (w++[x])=plc T w++[T (eR T w) x]:=by
 unfold plc;rw[aQ,bB,cP,eA,cQ];refine Ry (bO λk hk=>?_) ?_
 .grind
 .show [eR T _]=_
  rw[jq 0#6,xX]
theorem Ld:(plc T w).length=3#3+1:=by simp[plc]
theorem PD(g:Grp m T)(hw:Lt m w):Lt m (plc T w):=λx hx=>by
 obtain⟨k,_,rfl⟩:=aU.mp hx;exact AU g (hw.tk k)
def pre(T:Nat->Nat->Nat)(w:List Nat):List Nat:=(aA 3#3).map λk=>eR T (w.take k)
theorem ub:plc T w=pre T w++[eR T w]:=by
 unfold plc pre;rw[eA];simp
theorem yF:(pre T w).length=3#3:=by simp[pre]
structure All(m:Nat)(l:List Nat):Prop where
 nd:l.Nodup
 lt:Lt m l
 len:l.length=m
theorem All.map{f:Nat->Nat}(h:All m l)(lt:∀x,x<m->f x<m)(inj:∀x y,x<m->y<m->f x=f y->x=y):All m (l.map f):=by
 refine⟨?_,λx hx=>?_,by simp[h.len]⟩
 .rw[bT,jn]
  exact km (λha hb Yi e=>Yi (inj _ _ (h.lt _ ha) (h.lt _ hb) e)) (bT.mp h.nd)
 .obtain⟨y,hy,rfl⟩:=aU.mp hx
  exact lt y (h.lt y hy)
theorem All.left(g:Grp m T){a:Nat}(ha:a<m)(h:All m l):All m (l.map (T a)):=
 h.map (λx hx=>g.cl a x ha hx) λx y hx hy e=>g.cancel ha hx hy e
structure Rnd(m:Nat)(T:Nat->Nat->Nat)(w:List Nat):Prop where
 home:eR T w=0
 all:All m (pre T w)
structure Gd(T:Nat->Nat->Nat)(st:List Nat)(p:Nod):Prop where
 pl:p.2=plc T p.1
 nd:p.2.Nodup
 by':∀x∈p.1,x∈st
theorem uS:fD (plc T w)=eR T w:=by rw[ub,l4]
theorem DX{st:List Nat}{L:Nod->List (List Nat)}:∀(k:Nat) (p:Nod) (w:List Nat),Gd T st p->w∈qj T st L k p->∃q:Nod,Gd T st q/\q.1.length=p.1.length+k/\w∈L q
 |0,p,w,h,e=>⟨p,h,rfl,e⟩
 | k+1,p,w,h,e=>by
   obtain⟨q,hq,e⟩:=List.mem_flatMap.mp (show w∈(kids T st p).flatMap (qj T st L k) from e);obtain⟨s,hs,rfl⟩:=aU.mp hq;obtain⟨XI,ZH⟩:=eu.mp hs;have hn:T (fD p.2) s∉p.2:=by simpa using ZH
   have hl:fD p.2=eR T p.1:=by rw[h.pl,uS]
   have gd:Gd T st (p.1++[s],p.2++[T (fD p.2) s]):=by
    refine⟨?_,?_,λx hx=>?_⟩
    .show p.2++[T (fD p.2) s]=plc T (p.1++[s])
     rw[HG,hl,<-h.pl]
    .show(p.2++[T (fD p.2) s]).Nodup
     rw[jl];exact⟨h.nd,by simp,λa ha b hb=>by simp at hb;rintro rfl;exact hn (hb▸ha)⟩
    .rcases aY.mp hx with hx|hx
     .exact h.by' x hx
     .simp at hx;rw[hx];exact XI
   obtain⟨q,g1,g2,g3⟩:=DX k _ w gd e;exact⟨q,g1,by rw[g2];simp;omega,g3⟩
variable{st:List Nat}
theorem Im:Gd T st ([],[0]):=⟨rfl,by simp,by simp⟩
theorem tz{w:List Nat}(g:Grp m T)(hs:Lt m st)(h:w∈qj T st (pJ T st) (m-1) ([],[0])):Rnd m T w/\(∀x∈w,x∈st)/\3#3=m:=by
 obtain⟨q,g1,g2,g3⟩:=DX _ _ _ Im h;obtain⟨s,XI,rfl⟩:=aU.mp g3;obtain⟨XI,ZH⟩:=eu.mp XI;have hl:fD q.2=eR T q.1:=by rw[g1.pl,uS]
 rw[hl]at ZH;have ZH:=of_decide_eq_true ZH;have hp:=g.pos;have hlen:q.1.length=m-1:=by simpa using g2
 have lt1:Lt m q.1:=λx hx=>hs x (g1.by' x hx);refine⟨⟨by rw[xX];exact ZH,?_⟩,λx hx=>?_,by simp;omega⟩
 .have:pre T (q.1++[s])=plc T q.1:=by
   unfold pre plc;rw[aQ,bB,cP];refine bO λk hk=>?_;have:=cq.mp hk;rw[zO (by exact fg 0#7)]
  rw[this];exact⟨by rw[<-g1.pl];exact g1.nd,PD g lt1,by rw[Ld];omega⟩
 .rcases aY.mp hx with hx|hx
  .exact g1.by' x hx
  .simp at hx;rw[hx];exact XI
end
theorem pP{x y:Bool}(ha:a G S=some (.bl x,S1))(hb:x=true->b G S1=some (.bl y,S2))(hf:x=false->S2=S1):iZ a b G S=some (.bl (x&&y),S2):=by
 cases x with
 |true=>simp[iZ,ha,aw,hb _]
 |false=>simp[iZ,ha,aw,hf _]
theorem BN{x y:Bool}(ha:a G S=some (.bl x,S1))(hb:b G S1=some (.bl y,S2))(x1:Ex S S1)(x2:Ex S1 S2):∃S',iZ a b G S=some (.bl (x&&y),S')/\Ex S S':=by
 cases x with
 |true=>exact⟨S2,pP ha (λ_=>hb) 15#8,x1.trans x2⟩
 |false=>exact⟨S1,pP ha 15#8 (λ_=>rfl),x1⟩
theorem Ak{α:Type}{f:α->Bool}:∀l:List α,dG j4 (l.map λx=>U.bl (f x))=some (l.map f)
 |[]=>rfl
 | x::l=>by
   show(j4 (U.bl (f x))).bind _=_;simp only[j4,ah];rw[Ak l];rfl
theorem Pz{α:Type}{f:α->Bool}{l:List α}(ha:a G S=some (.ref r,S1))(hr:S1[r]?=some (.lst (l.map λx=>U.bl (f x)))):mFn sx 3#4 G S=some (.bl (l.all f),S1):=by
 refine fC ha ?_;simp only[sx,getL,hr,ah,Ak]
 simp_all
theorem RM{x y:List Nat}(ha:a G S=some (.tup (aj x),S1))(hb:b G S1=some (.tup (aj y),S2)):m2 oEq a b G S=some (.bl (decide (x=y)),S2):=
 op2 ha hb (by simp[oEq,DO])
theorem Ig(ha:a G S=some (.tup (aj l),S1))(hl:2#8<64):mFn dh 3#4 G S=some (.ref 4#4,S1++[.lst (aj (srt l))]):=
 fC ha (qU (by simp only[tw,eW,dZ,ah,pb]) hl)
section
variable {m:Nat}{T:Nat->Nat->Nat}{st w:List Nat}{S:Sto}
def nbM:MS:=b9 (iZ (m1 (gv "int") 0#4) (iZ (m1 pG (m1 (gv "bool") 0#4)) (mCh oLe oLt 1#9 0#4 1#0)))
theorem RO:_G.run 2 2 nbM [.int (x:Nat),.int (n:Nat)] S=some (.bl (decide (x<n)),S):=by
 have h1:m1 (gv "int") 0#4 [some 6#4,8#6] S=some _:=rfl;have h2:m1 pG (m1 (gv "bool") 0#4) [some 6#4,8#6] S=some _:=rfl;have h3:mCh oLe oLt 1#9 0#4 1#0 [some 6#4,8#6] S=some (.bl (decide (x<n)),S):=by
  have v0:ae 0 [some 6#4,8#6] S=some _:=rfl;have v1:ae 1 [some 6#4,8#6] S=some _:=rfl;have l:oLe (.int 0) 6#4 S=some (.bl true,S):=by
   show some _=_<;>simp_all
  have l2:oLt 6#4 (.int n) S=some (.bl (decide (x<n)),S):=by
   show some _=_;simp
  simp[mCh,mC,aw,v0,l,v1,l2]
 exact pP h1 (λ_=>pP h2 (λ_=>h3) 15#8) 15#8
def QH:MS:=b9 (iZ (m1 (gv "tuple") 0#4) (mFn sx (aa (bL (bZ 0#4) cTT (mFn (_G.run 2 2 nbM) (aa 0#5 3#9))) ag)))
theorem uN{S:Sto}{l:List Nat}(ha:a G S=some (.tup (aj l),S))(hl:2#8<10000000)(he:∀x∈l,e 19#2 S=some (f x,S)):bL (bZ a) cTT e G S=some (.ref 0#3,S++[.lst (l.map f)]):=by
 have h:=uU (t:=cTT) ha (by exact ai 0#2 0#1) (λ_ _=>rfl) (λx hx _=>he x hx);rwa[ll.mpr (λ_ _=>rfl)]at h
theorem NQ(hl:3#3<10000000):∃S',_G.run 2 2 QH [.tup (aj w),.int (n:Nat)] S=some (.bl (w.all λx=>decide (x<n)),S')/\Ex S S':=by
 have h1:m1 (gv "tuple") 0#4 [some 4#2,9#9] S=some (.bl true,S):=isT 0#0;have h2:=uN (e:=mFn (_G.run 2 2 nbM) (aa 0#5 3#9)) (G:= [some 4#2,9#9]) (S:=S) (a:=ae 0) (l:=w) (f:=λx=>.bl (decide (x<n))) 0#0 hl (λx _=>bY 0#0 0#0 RO);obtain⟨S',e,x⟩:=BN h1 (Pz h2 6#0) (Ex.refl _) 2#6;exact⟨S',bM (G:= [some 4#2,9#9]) rfl (bU (e.trans (by rw[Bool.true_and]))),x⟩
theorem UF{S:Sto}(ha:a G S=some 5#8)(hb:b G S1=some (.tup (aj l),S2)):m2 oIn a b G S=some (.bl (decide (x∈l)),S2):=
 op2 ha hb (by simp[oIn,eW,ff,dZ,lJ,uq])
def UM:MS:=b9 (m2 oEq (mFn bC (aa (mFn dh 3#9) ag)) (mFn (_G.run 1 1 atM) 5#2))
theorem P1(hm:m<1000)(hl:2#8<64):∃S',_G.run 2 2 UM [tab m T,.tup (aj l)] S=some (.bl (decide (srt l=aA m)),S')/\Ex S S':=
 ⟨_,bM (G:= [0#9,15#6]) rfl (bU (RM (eB (Ig 0#0 hl)) (fC 0#0 (Gq hm)))),Ex.push _ _⟩
theorem GZ(ZI:True):atI (aj (plc T w)) (-1)=some (.int (eR T w:Nat)):=by
 have:=yT (th:=plc T w) (by rw[ub];simp);rw[uS]at this;exact this
theorem Ba{α:Type}{xs:List α}{y:α}:cut (xs++[y]) none (some (-1))=xs:=by
 unfold cut;have h1:HT.sIx (xs++[y]).length 0 none=0:=rfl;have h2:HT.sIx (xs++[y]).length (xs++[y]).length (some (-1))=1#5:=by
  unfold HT.sIx;simp;omega
 rw[h1,h2];simp
theorem J8{S:Sto}(ha:a G S=some (.tup (aj (l++[x])),S1)):mSl a none (some 5#7) G S=some (.tup (aj l),S1):=by
 have e:aj (l++[x])=aj l++[.int x]:=by simp[aj]
 rw[e]at ha;have n1:m1 gS 1#7 G S1=some (.int (-1),S1):=rfl;simp only[mSl,ha,aw,mZ,n1,Ba]
end
def tabS(S:Sto)(n:Nat)(T:Nat->Nat->Nat)(k:Nat):Sto:=S++[Cell.lst ((aA k).map (mq n T))]++(aA k).map λi=>Cell.lst ((aA n).map λj=>U.int (T i j))
theorem Fv{k:Nat}:((tabS S n T k)++[Cell.lst ((aA n).map λj=>U.int (T k j))]).set S.length (Cell.lst ((aA k).map (mq n T)++[mq n T k]))=tabS S n T (k+1):=by
 unfold tabS;rw[aL,aL,dE _ _ 1#6,lP];simp[eA]
def tbM(g:iM)(φ:MF):MS:=aR (bq 2 3#5) (aR (dU 3 (iR1 5#2) (di 26#7)) (b9 (mFn bC 5#0)))
theorem DS{k:Nat}:Ex S (tabS S n T k):=⟨_,by unfold tabS;rw[aL]⟩
section
variable {m:Nat}{T:Nat->Nat->Nat}
theorem Lt.one{s:Nat}(hs:s<m):Lt m [s]:=λx hx=>by simp_all
structure Sn(m:Nat)(T:Nat->Nat->Nat)(p:List Nat):Prop where
 lt:Lt m p
 nd:(plc T p).Nodup
 cl:∀x∈plc T p,∀y∈plc T p,T x y∈plc T p
end
section
variable {m:Nat}{T:Nat->Nat->Nat}{S:Sto}
abbrev Pln(m:Nat)(T:Nat->Nat->Nat):Prop:= ∀i j,i<m->j<m->T i j=T j i
end
section
variable {m:Nat}{T:Nat->Nat->Nat}{S:Sto}
end
inductive Smp:U->Prop where
 |non:Smp .non
 |bl (b:Bool):Smp (.bl b)
 |int (i:Int):Smp (.int i)
 |str (x:Ep):Smp (.str x)
 |tup (us:List U):Smp (.tup us)
inductive Thg(S:Sto):U->Prop where
 |non:Thg S .non
 |bl (b:Bool):Thg S (.bl b)
 |int (i:Int):Thg S (.int i)
 |str (x:Ep):Thg S (.str x)
 |tup {us:List U} (h:∀v∈us,Smp v) (hl:us.length<64):Thg S (.tup us)
 |lst {n:Nat}{xs:List U} (h:S[n]?=some (Cell.lst xs)):Thg S (.ref n)
 |dic {n:Nat}{kv:List (_L.Key×U)} (h:S[n]?=some (Cell.dic kv)):Thg S (.ref n)
theorem Thg.ex(h:Thg S u)(x:Ex S S'):Thg S' u:=by
 cases h with
 |non=>exact .non
 |bl b=>exact .bl b
 |int i=>exact .int i
 |str y=>exact .str y
 |tup h hl=>exact .tup h hl
 |lst h=>exact .lst (x.some h)
 |dic h=>exact .dic (x.some h)
theorem Thg.stp(h:Thg S u)(x:Stp n S S')(hn:u≠.ref n):Thg S' u:=by
 cases h with
 |non=>exact .non
 |bl b=>exact .bl b
 |int i=>exact .int i
 |str y=>exact .str y
 |tup h hl=>exact .tup h hl
 |lst h=>exact .lst (x.some (λe=>hn (by rw[e])) h)
 |dic h=>exact .dic (x.some (λe=>hn (by rw[e])) h)
theorem Thg.nat(hl:2#8<64):Thg S (.tup (aj l)):= .tup (λv hv=>by obtain⟨x,_,rfl⟩:=aU.mp hv;exact .int _) (by rw[bf];exact hl)
def isTup:U->Bool
 |.tup _=>true
 |_=>false
theorem Dk (ha:a G S=some (u,S1))(h:Thg S1 u):m1 (gv "tuple") a G S=some (.bl (isTup u),S1):=by
 simp only[m1,ha,aw,gv];cases h with
 |lst h=>simp only[tyU,h];rfl
 |dic h=>simp only[tyU,h];rfl
 |_=>rfl
def nbV(n:Nat):U->Bool
 |.int i=>decide (0<=i)&&decide (i<n)
 |_=>false
theorem IB{n:Nat}:∀{us:List U},us.all (nbV n)=true->∃l:List Nat,us=aj l /\ ∀x∈l,x<n
 |[],_=>⟨[],rfl,by simp⟩
 | u::us,h=>by
   rw[bK,av]at h;obtain⟨l,rfl,hl⟩:=IB h.2;cases u with
   | int i=>
     have h1:=h.1;simp only[nbV,av,decide_eq_true_eq]at h1;refine⟨i.toNat::l,?_,λx hx=>?_⟩
     .show _=U.int ((i.toNat:Nat):Int)::aj l
      rw[Int.toNat_of_nonneg h1.1]
     .rcases a7.mp hx with rfl|hx
      .omega
      .exact hl x hx
   |_=>exact absurd h.1 (by simp[nbV])
theorem uP{e:ME}{G:Rho}{n:Nat}{us:List U}{f:U->U}(P:Sto->Prop)(hP:∀S,P S->getL S n=some us)(he:∀u∈us,∀S,P S->∃S',e 9#4 S=some (f u,S')/\P S'):
  ∀(k i:Nat) (acc:List U) (S:Sto),i<=1#1->1#1-i<k->P S->∃S',iO cTT e G n k i acc S=some (acc++(us.drop i).map f,S')/\P S'
 |0,i,acc,S,h1,h2,_=>by omega
 | k+1,i,acc,S,h1,h2,h=>by
   unfold iO;rw[hP S h];simp only[ah];by_cases hi:i<1#1
   .have hd:us.drop i=us[i]::us.drop (i+1):=iw hi
    obtain⟨S1,e1,p1⟩:=he _ (bW hi) S h;obtain⟨S2,e2,p2⟩:=uP P hP he k (i+1) (acc++[f us[i]]) S1 0#7 0#2 p1;refine⟨S2,?_,p2⟩;rw[aI hi];simp only[cTT,aw,if_true];rw[e1];simp only[aw];rw[e2,hd,bz,aL];rfl
   .rw[jS 16#9,jo 16#9]
    exact⟨S,by simp,h⟩
theorem Iy(nd:w.Nodup):(srt w).Pairwise (· < ·):=by
 have h1:(srt w).Pairwise (· <= ·):=by
  unfold srt;exact jn.mpr ((vj (jh w)).imp λ{a b} Yi=>by omega)
 exact(h1.and (bT.mp ((lE w).nodup_iff.mpr nd))).imp λ{a b} Yi=>by omega
theorem CD(h:l.Pairwise (· < ·)):srt l=l:=by
 have h1:(jh l).Pairwise (· <= ·):=jn.mpr (h.imp λ{a b} Yi=>by omega);have h2:=wj (List.Perm.refl (jh l)) h1;unfold srt;rw[<-h2];unfold jh;rw[eG]
 conv=>rhs;rw[<-JS l]
 apply bO;intro x _;simp
theorem ML(h:l.Pairwise (· < ·)):l.Nodup:=bT.mpr (h.imp λ{a b} Yi=>by exact aS 0#7)
theorem PY{a b:List Nat}(ha:a.Pairwise (· < ·))(hb:b.Pairwise (· < ·))(h:∀x,x∈a↔x∈b):a=b:=by
 rw[<-CD ha,<-CD hb];exact yn (Dd (ML ha) (ML hb) h)
section
variable {m:Nat}{T:Nat->Nat->Nat}{S:Sto}{u:U}{st:List Nat}
theorem QK(ha:a G S=some (.bl false,S1)):iZ a b G S=some (.bl false,S1):=by simp only[iZ,ha,aw]
theorem Sf{a b:MT}(ha:a G S=some (true,S1)):cOr a b G S=some (true,S1):=by simp[cOr,ha,aw]
theorem Uo{a b:MT}{y:Bool}(ha:a G S=some (false,S1))(hb:b G S1=some (y,S2)):cOr a b G S=some (y,S2):=by simp[cOr,ha,aw,hb]
theorem Py{v:U}(h:Smp v):_G.run 2 2 nbM [v,.int (n:Nat)] S=some (.bl (nbV n v),S):=by
 refine bM (G:= [some v,9#9]) rfl (show nbM [some v,9#9] S=_ from bU ?_);cases h with
 | int i=>
   have h1:m1 (gv "int") 0#4 [some 3#0,9#9] S=some (.bl true,S):=rfl;have h2:m1 pG (m1 (gv "bool") 0#4) [some 3#0,9#9] S=some (.bl true,S):=rfl;have h3:mCh oLe oLt 1#9 0#4 1#0 [some 3#0,9#9] S=some (.bl (decide (0<=i)&&decide (i<n)),S):=by
    have v0:ae 0 [some 3#0,9#9] S=some (.int i,S):=rfl;have v1:ae 1 [some 3#0,9#9] S=some (.int (n:Nat),S):=rfl;have c0:mC (.int 0) [some 3#0,9#9] S=some (.int 0,S):=rfl;by_cases z:(0:Int)<=i
    .simp[mCh,v0,v1,c0,aw,A2,z]
    .simp[mCh,v0,v1,c0,aw,A2,z]
   exact(pP h1 (λ_=>pP h2 (λ_=>h3) 15#8) 15#8).trans (by simp[nbV])
 |bl b=>rfl
 |non=>rfl
 |str x=>rfl
 |tup us=>rfl
def xG(n:Nat):U->Bool
 |.tup us=>us.all (nbV n)
 |_=>false
theorem KB(h:Thg S u):∃S',_G.run 2 2 QH [u,.int (n:Nat)] S=some (.bl (xG n u),S')/\Ex S S':=by
 have h1:=Dk (G:= [some u,9#9]) (S:=S) (a:=ae 0) 0#0 h;cases ht:isTup u with
 | false=>
   rw[ht]at h1;refine⟨S,bM (G:= [some u,9#9]) rfl (bU ((QK h1).trans ?_)),Ex.refl _⟩;cases u with
   |tup us=>cases ht
   |_=>rfl
 | true=>
   rw[ht]at h1;cases h with
   | tup h hl=>
     rename_i us
     have h2:=sJ (t:=cTT) (e:=mFn (_G.run 2 2 nbM) (aa 0#5 3#9)) (G:= [some (.tup us),9#9]) (S:=S) (a:=ae 0) (us:=us) (p:=λ_=>true) (f:=λv=>.bl (nbV n v)) 0#0 22#9 (λ_ _=>rfl) (λv hv _=>bY 0#0 0#0 (Py (h v hv)));rw[ll.mpr (λ_ _=>rfl)]at h2;exact⟨_,bM (G:= [some (.tup us),9#9]) rfl (bU (pP h1 (λ_=>IF h2) 15#8)),Ex.push _ _⟩
   |_=>cases ht
theorem mc{r:MA}{x:U}(ha:a G S=some (x,S1))(hr:r G S1=some (xs,S2)):aa a r G S=some (x::xs,S2):=by simp only[aa,ha,hr,aw]
theorem ml{r:MA}(h:r G S=some (xs,S1))(hl:1#5<1000):bA r G S=some (.ref 4#4,S1++[.lst xs]):=by
 have:xs.length<=big:=by unfold big;omega
 simp only[bA,h,aw,this,if_true]
def Tn(n:Nat)(S:Sto)(u:U):Prop:=Thg S u/\u≠.ref n
theorem Tn.ex{n:Nat}{S':Sto}(h:Tn n S u)(x:Ex S S'):Tn n S' u:=⟨h.1.ex x,h.2⟩
theorem Tn.stp{n:Nat}{S':Sto}(h:Tn n S u)(x:Stp n S S'):Tn n S' u:=⟨h.1.stp x h.2,h.2⟩
theorem xH{k:Nat}:cut xs (some (k:Int)) none=xs.drop k:=by
 have h1:HT.sIx xs.length 0 (some (k:Int))=min k 1#5:=HT.sIx_nat _ _ k;have h2:HT.sIx xs.length xs.length none=1#5:=rfl;unfold cut;rw[h1,h2];rcases Nat.le_total k 1#5 with z|z
 .rw[Bs z,jq 0#6]
 .rw[zM z,jo 1#6,jo z];simp
theorem vc(ha:a G S=some (.tup xs,S1))(hb:b G S1=some (.tup ys,S2))(hl:xs.length+ys.length<1000):m2 bN a b G S=some (.tup (xs++ys),S2):=op2 ha hb (if_pos 18#8)
theorem Qa{k:Nat}(ha:a G S=some (.ref n,S1))(hb:b G S1=some (.ref k,S2))(hn:S2[n]?=some (Cell.lst xs))(hk:S2[k]?=some (Cell.lst ys))(hl:1#5+3#6<1000):m2 bN a b G S=some (.ref 8#0,S2++[Cell.lst (xs++ys)]):=
 op2 ha hb (by simp only[bN,hn,hk];exact if_pos 18#8)
theorem xP{g:MG}{b:MS}{n:Nat}(us:List U)(P:Nat->Rho->Sto->Prop)(hl:∀k G S,P k G S->getL S n=some us)
  (st:∀(k:Nat) (u:U) (G:Rho) (S:Sto),us[k]?=some u->P k G S->∃Y2 S1 Y1 S',g (.tup [.int k,u]) G S=some (Y2,S1)/\b Y2 S1=some 6#5/\P (k+1) Y1 S'):
  ∀(f k:Nat) (G:Rho) (S:Sto),k<=1#1->1#1-k<f->P k G S->∃Y1 S',tj g b n f k G S=some 6#5/\P us.length Y1 S'
 |0,k,G,S,h1,h2,_=>by omega
 | f+1,k,G,S,h1,h2,hp=>by
   unfold tj;rw[hl k G S hp];simp only[ah];by_cases hk:k<1#1
   .have hu:us[k]?=some us[k]:=by simp[hk]
    obtain⟨Y9,S0,Y2,S1,e0,e1,p1⟩:=st k us[k] G S hu hp;obtain⟨Y8,S2,e2,p2⟩:=xP us P hl st f (k+1) Y2 S1 0#7 0#2 p1;refine⟨Y8,S2,?_,p2⟩;simp only[hu,e0,ah,aft,e1,e2]
   .have:k=1#1:=by omega
    subst this;exact⟨G,S,by simp,hp⟩
end
section
variable {m:Nat}{f:Nat->Nat}
end
variable{rl:MX}{cs:List U}
theorem Jn{rz is:List Nat}{ml:ME}(hc:jw is G=some cs)(h:ml (cs.map some) S=some (u,S1)):j9 rz is ml rl G S=some (.non,S1++iy λ_=>false):=by
 have e:nc 0 ml cs [] S=some (u,S1):=h;simp only[j9,hc,ah,Fj,e]
theorem HH{rz is:List Nat}{ml:ME}(hc:jw is G=some cs)(h:ml (cs.map some) S=none)(hx:rl (cs.map some) S=some (q,S1))(hq:q∈rz):j9 rz is ml rl G S=some (.ref (4#4+3),S1++(iy (bQ q)++[.lst (aj [q])])):=by
 have e:nc 0 ml cs [] S=none:=h;have e2:zq 0 rl cs [] S=some (q,S1):=hx;simp only[j9,hc,ah,Fj,e,e2];rw[if_pos hq];rfl
theorem Ql(S:Sto)(b:Nat->Bool)(l:List Cell):Ex S (S++(iy b++l)):=⟨_,rfl⟩
theorem Ln(S:Sto)(b:Nat->Bool):Ex S (S++iy b):=⟨_,rfl⟩
theorem J1{b:Nat->Bool}:(S++(iy b++[c]))[0#3+3]?=some c:=by
 rw[aq 0#2];simp[iy]
theorem BO{k:Nat}{b:MS}(h:b 23#2 S=none):_G.run k n b us S=none:=by
 unfold _G.run
 split
 .rw[h]
 .rfl
theorem zC{k:Nat}{r:MX}(hl:1#1=k)(h:r 23#2 S=some (q,S1)):y6 k n r us S=some (q,S1):=by
 unfold y6;rw[if_pos hl,h]
theorem AD{a b:MX}{s:MS}(h:a G S=some (q,S1)):rC a s b G S=some (q,S1):=by simp only[rC,h]
theorem M7{a b:MX}{s:MS}(h:a G S=none)(h1:s G S=some (.nx,Y2,S1)):rC a s b G S=b Y2 S1:=by simp only[rC,h,h1]
theorem M0{c:MT}{a b:MX}(h:c G S=some (true,S1)):xIf c a b G S=a G S1:=by simp[xIf,h,aw]
theorem Q1{c:MT}{a b:MX}(h:c G S=some (false,S1)):xIf c a b G S=b G S1:=by simp[xIf,h,aw]
theorem Ck{a b:MS}(h:a G S=none):aR a b G S=none:=by simp only[aR,h]
variable{v:Option (Nat×Sto)}
theorem Tq{r:RF}{x y:U}(ha:a G S=some (x,S1))(hb:b G S1=some (y,S2))(h:r [x,y] S2=v):xFn r (aa a (aa b ag)) G S=v:=by simp only[xFn,aa,ag,ha,hb,aw,h]
section
variable {m:Nat}{T:Nat->Nat->Nat}{S:Sto}
end
section
variable {S:Sto}
theorem Ti{S:Sto}(ha:a G S=some 5#8)(hb:b G S1=some 8#3):m2 oGt a b G S=some (.bl (decide (y<x)),S2):=by
 rw[Gm ha hb]
 congr 3
 exact decide_eq_decide.mpr 0#2
end
theorem FA(hn:n<big)(WR:∀i j (S':Sto),Ex S S'->i<n->j<n->φ [.int (i:Nat),.int (j:Nat)] S'=some (.int (T i j:Nat),S'))(g:iM):
  _G.run 2 4 (tbM g φ) [.int (n:Nat),.obj g] S=some (tab n T,tabS S n T n):=by
 have cell:∀k,(tabS S n T k)[0#3]?=some (Cell.lst ((aA k).map (mq n T))):=λk=>by
  unfold tabS;rw[aL,aq 1#6];simp
 obtain⟨Y2,S1,e1,⟨x,rfl⟩,rfl⟩:=lD (i:=3) (a:=ae 0) (n:=n) (b:=di 26#7)
  (G:= [8#6,8#5,2#2,none]) (S:=tabS S n T 0) 0#0 hn
  (λk G S'=>(∃x,G = [8#6,8#5,2#2,x])/\S'=tabS S n T k) ⟨⟨none,rfl⟩,rfl⟩ (by
   rintro k G S' hk ⟨⟨x,rfl⟩,rfl⟩
   obtain⟨S2,e2,h2⟩:=Jx (G:= [8#6,8#5,2#2,3#1]) (S:=tabS S n T k) (S0:=tabS S n T k) (a:=ae 0) (e:=wZ 1 g φ (aa 0#8 5#3)) (n:=n) 0#0 hn (λj => .int (T k j)) (λ_ Zh=>Zh=tabS S n T k) rfl (by
    rintro j Zh hj rfl;refine⟨_,?_,rfl⟩;show(if g=g then mFn φ (aa 0#8 5#3) _ _ else none)=_;rw[if_pos rfl]
    exact bY (var_eq rfl) (var_eq rfl) (WR k j _ DS hk hj))
   subst h2;have hl:((aA k).map (mq n T)).length<big:=by rw[ay,br];exact dc hk hn
   have e3:=append_eq (G:= [8#6,8#5,2#2,3#1]) (o:=ae 2) (r:=0#3) (row:=(aA k).map (mq n T)) 0#0 e2 (cell k) ((Ex.push _ _).some (cell k)) hl;rw[show Fm n (λj=>U.int (T k j))=mq n T k from rfl,Fv]at e3
   exact⟨_,_,e3,⟨_,rfl⟩,rfl⟩)
 have e0:bA ag [8#6,8#5,none,none] S=some (.ref 0#3,tabS S n T 0):=eM.trans (by simp[tabS]);have e2:mFn bC 5#0 [8#6,8#5,2#2,x] (tabS S n T n)=some (tab n T,tabS S n T n):=je 0#0 (cell n);exact bM (G:= [8#6,8#5,2#2,x]) rfl (show tbM g φ [8#6,8#5,none,none] S=_ from(aF (bo e0)).trans ((aF e1).trans (bU e2)))
open PySem in
open PySem in
section
variable {S:Sto}
section
variable {n m r:Nat} (hn:0<n) (YY:n<100) (hm:0<m) (Zu:m<100) (hr:r<100)
include hn YY hm Zu hr
end
end
theorem UR{r:RF}{c:ME}{x y z:U}(ha:a G S=some (x,S1))(hb:b G S1=some (y,S2))(hc:c G S2=some (z,S3))(h:r [x,y,z] S3=v):xFn r (aa a (aa b (aa c ag))) G S=v:=by simp only[xFn,aa,ag,ha,hb,hc,aw,h]
section
variable {m:Nat}{T:Nat->Nat->Nat}
def BW(T:Nat->Nat->Nat)(x n:Nat):Prop:=1<=n/\pw T x n=0 /\ ∀k,1<=k->k<n->pw T x k≠0
theorem BW.uniq{a b:Nat}(h:BW T x a)(q:BW T x b):a=b:=by
 rcases Nat.lt_trichotomy a b with z|z|z
 .exact absurd h.2.1 (q.2.2 a h.1 z)
 .exact z
 .exact absurd q.2.1 (h.2.2 b q.1 z)
theorem RY(g:Grp m T)(hx:x<m):∃n,BW T x n/\n<=m:=by
 obtain⟨n,h1,h2,h3,h4⟩:=g.ord hx;exact⟨n,⟨h1,h3,h4⟩,h2⟩
open Classical in
def od(T:Nat->Nat->Nat)(x:Nat):Nat:=if h:∃n,BW T x n then choose h else 0
theorem Su(g:Grp m T)(hx:x<m):BW T x (od T x)/\od T x<=m:=by
 obtain⟨n,h,hn⟩:=RY g hx;have hh:∃n,BW T x n:=⟨n,h⟩;have e:od T x=Classical.choose hh:=dif_pos hh;have q:=Classical.choose_spec hh;rw[<-e]at q;exact⟨q,by rw[q.uniq h];exact hn⟩
end
variable{D:List (_L.Key×U)}
theorem J2{k j:_L.Key}:j8 (kY D k u) j=if k=j then some u else j8 D j:=by
 unfold j8 kY;by_cases h:(D.any λkv=>decide (kv.1=k))=true
 .rw[if_pos h]
  induction D with
  |nil=>simp at h
  | cons p D ih=>
    rw[bz,cg];by_cases hp:p.1=k
    .rw[if_pos hp]
     by_cases hk:k=j
     .subst hk
      simp[hp]
     .have h1:decide (p.1=j)=false:=decide_eq_false (by rw[hp];exact hk)
      simp only[h1,if_neg hk];rw[cg,h1];simp only;by_cases h2:(D.any λkv=>decide (kv.1=k))=true
      .have:=ih h2
       rw[if_neg hk]at this;exact this
      .have:D.map (λkv=>if kv.1=k then(kv.1,u) else kv)=D:=by
        conv=>rhs;rw[<-JS D]
        apply bO;intro kv hkv;have:kv.1≠k:=λe=>h2 (fJ.mpr ⟨kv,hkv,decide_eq_true e⟩);simp[this]
       rw[this]
    .rw[if_neg hp]
     have h2:(D.any λkv=>decide (kv.1=k))=true:=by
      rw[gy,decide_eq_false hp,Bool.false_or]at h;exact h
     by_cases hj:p.1=j
     .have hk:k≠j:=λe=>hp (hj.trans e.symm)
      rw[if_neg hk,cg];simp[hj]
     .have h1:decide (p.1=j)=false:=decide_eq_false hj
      rw[h1,cg,h1];simp only;exact ih h2
 .rw[if_neg h,List.find?_append]
  by_cases hk:k=j
  .subst hk
   have:D.find? (λkv=>decide (kv.1=k))=none:=by
    rw[List.find?_eq_none];intro kv hkv hd;exact h (fJ.mpr ⟨kv,hkv,hd⟩)
   rw[this,if_pos rfl];simp
  .rw[if_neg hk]
   have: [((k,u):_L.Key×U)].find? (λkv=>decide (kv.1=j))=none:=by simp[hk]
   rw[this,Option.or_none]
theorem HW{k:_L.Key}:(kY D k u).length<=D.length+1:=by
 unfold kY
 split
 .simp
 .simp
def u0(D:List (_L.Key×U))(xs:List Nat)(v:Nat):List (_L.Key×U):=xs.foldl (λD (x:Nat)=>kY D 10#0 (.int (v:Nat))) D
theorem vL{v:Nat}:∀{xs:List Nat}{D:List (_L.Key×U)},(u0 D xs v).length<=D.length+1#5
 |[],D=>by simp[u0]
 | x::xs,D=>by
   have h1:=vL (v:=v) (xs:=xs) (D:=kY D 10#0 (.int (v:Nat)));have h2:=HW (D:=D) (k:= .inl (x:Int)) (u:= .int (v:Nat));show(u0 (kY D 10#0 (.int (v:Nat))) xs v).length<=_;simp only[bB];omega
theorem Av{v x:Nat}:∀{xs:List Nat}{D:List (_L.Key×U)},j8 (u0 D xs v) 10#0=if x∈xs then some (.int (v:Nat)) else j8 D 10#0
 |[],D=>by simp[u0]
 | y::xs,D=>by
   show j8 (u0 (kY D (.inl (y:Int)) (.int (v:Nat))) xs v) _=_;rw[Av,J2];by_cases h:x∈xs
   .simp[h]
   .by_cases e:y=x
    .subst e;simp
    .have:(fI (y:Int):_L.Key)≠.inl (x:Int):=λz=>e (by injection z with z;omega)
     simp[h,this,dO e]
structure Sbg(m:Nat)(T:Nat->Nat->Nat)(P:List Nat):Prop where
 z:0∈P
 lt:∀x∈P,x<m
 cl:∀a∈P,∀b∈P,T a b∈P
section
variable {m:Nat}{T:Nat->Nat->Nat}{P:List Nat}
theorem Sbg.inv(h:Sbg m T P)(g:Grp m T){a:Nat}(ha:a∈P):∃b,b∈P/\T b a=0/\T a b=0:=by
 have YO:=h.lt a ha;obtain⟨⟨n1,n2,_⟩,_⟩:=Su g YO;have pin:∀k,pw T a k∈P:=λk=>by
  induction k with
  |zero=>exact h.z
  |succ k ih=>exact h.cl _ ih _ ha
 have e:T (pw T a (od T a-1)) a=0:=by
  show pw T a (od T a-1+1)=0;rw[mE n1];exact n2
 refine⟨pw T a (od T a-1),pin _,e,?_⟩;obtain⟨j,hj,h1,h2⟩:=g.inv a YO;have:pw T a (od T a-1)=j:=g.cancelR YO (qW g YO _) hj (e.trans h2.symm);rw[this];exact h1
theorem Dfs.sbg{ths ks:List Nat}(g:Grp m T)(ht:∀z∈ths,z<m)(d:Dfs m T ths ks λ_=>False):Sbg m T (srt ks) where
 z:=eD.mpr d.z
 lt:=λx hx=>d.lt x (eD.mp hx)
 cl:=λa ha b hb=>by
  have ha:=eD.mp ha;have YO:=d.lt a ha;refine eD.mpr ?_;have rb:=d.rc b (eD.mp hb);have key:T a b∈ks/\b<m:=by
   clear hb
   induction rb with
   |zero=>rw[g.r0 a YO];exact⟨ha,g.pos⟩
   | step _ hy ih=>
     rename_i x y hr
     obtain⟨h1,hx⟩:=ih;refine⟨?_,g.cl _ _ hx (ht _ hy)⟩;rw[<-g.as a x y YO hx (ht y hy)];exact((d.cl _ h1).resolve_left id) _ hy
  exact key.1
theorem yD(h:Sbg m T P)(g:Grp m T){b:Bool}(hx:x<m):x∈d4 T P b x:=by
 refine aU.mpr ⟨0,h.z,?_⟩;cases b
 .exact g.l0 x hx
 .exact g.r0 x hx
theorem Cg(h:Sbg m T P)(g:Grp m T){b:Bool}(hx:x<m)(hy:y∈d4 T P b x):y<m /\ ∀z,z∈d4 T P b y↔z∈d4 T P b x:=by
 obtain⟨p,hp,rfl⟩:=aU.mp hy;have YM:=h.lt p hp;obtain⟨p',ZK,i1,i2⟩:=h.inv g hp;have XO:=h.lt p' ZK;cases b with
 | true=>
   refine⟨g.cl _ _ hx YM,λz=>⟨λhz=>?_,λhz=>?_⟩⟩
   .obtain⟨q,hq,rfl⟩:=aU.mp hz
    have Yu:=h.lt q hq;exact aU.mpr ⟨T p q,h.cl p hp q hq,(g.as x p q hx YM Yu).symm⟩
   .obtain⟨q,hq,rfl⟩:=aU.mp hz
    have Yu:=h.lt q hq;refine aU.mpr ⟨T p' q,h.cl p' ZK q hq,?_⟩;show T (T x p) (T p' q)=T x q;rw[g.as x p _ hx YM (g.cl _ _ XO Yu),<-g.as p p' q YM XO Yu,i2,g.l0 q Yu]
 | false=>
   refine⟨g.cl _ _ YM hx,λz=>⟨λhz=>?_,λhz=>?_⟩⟩
   .obtain⟨q,hq,rfl⟩:=aU.mp hz
    have Yu:=h.lt q hq;exact aU.mpr ⟨T q p,h.cl q hq p hp,g.as q p x Yu YM hx⟩
   .obtain⟨q,hq,rfl⟩:=aU.mp hz
    have Yu:=h.lt q hq;refine aU.mpr ⟨T q p',h.cl q hq p' ZK,?_⟩;show T (T q p') (T p x)=T q x;rw[g.as q p' _ Yu XO (g.cl _ _ YM hx),<-g.as p' p x XO YM hx,i1,g.l0 x hx]
end
structure Prt(r:Nat->List Nat)(k:Nat):Prop where
 gone:∀y,y∈(sdF r k).2 ↔ ∃i,i<k/\y∈r i
 cov:∀i,i<k->∃s∈(sdF r k).1,∀z,z∈s↔z∈r i
 dis:(sdF r k).1.Pairwise λs t=>∀y,y∈s->y∉t
theorem Ij{r:Nat->List Nat}{m:Nat}(self:∀i,i<m->i∈r i)(cos:∀i,i<m->∀y∈r i,y<m /\ ∀z,z∈r y↔z∈r i):∀k,k<=m->Prt r k
 |0,_=>⟨λy=>by simp[sdF],λi hi=>by omega,by simp[sdF]⟩
 | k+1,hk=>by
   have ih:=Ij self cos k 0#2;have W8:k<m:=hk;by_cases ZR:k∈(sdF r k).2
   .obtain⟨i,hi,hki⟩:=(ih.gone k).mp ZR
    have same:=(cos i 0#2 k hki).2;have e:sdF r (k+1)=sdF r k:=by rw[sdF,if_pos ZR]
    refine⟨?_,?_,?_⟩
    .intro y
     rw[e,ih.gone y];constructor
     .rintro ⟨j,hj,h⟩;exact⟨j,by omega,h⟩
     .rintro ⟨j,hj,h⟩
      rcases iN.mp hj with q|q
      .exact⟨j,q,h⟩
      .subst q;exact⟨i,hi,(same y).mp h⟩
    .intro j hj
     rw[e];rcases iN.mp hj with q|q
     .exact ih.cov j q
     .subst q
      obtain⟨s,hs,hz⟩:=ih.cov i hi;exact⟨s,hs,λz=>(hz z).trans (same z).symm⟩
    .rw[e];exact ih.dis
   .have e:sdF r (k+1)=((sdF r k).1++[srt (r k)],(sdF r k).2++r k):=by rw[sdF,if_neg ZR]
    refine⟨?_,?_,?_⟩
    .intro y
     rw[e];show y∈(sdF r k).2++r k↔_;rw[aY,ih.gone y];constructor
     .rintro (⟨j,hj,h⟩|h)
      .exact⟨j,by omega,h⟩
      .exact⟨k,by omega,h⟩
     .rintro ⟨j,hj,h⟩
      rcases iN.mp hj with q|q
      .exact .inl ⟨j,q,h⟩
      .subst q;exact .inr h
    .intro j hj
     rw[e];rcases iN.mp hj with q|q
     .obtain⟨s,hs,hz⟩:=ih.cov j q
      exact⟨s,a9 _ hs,hz⟩
     .subst q
      exact⟨srt (r j),by simp,λz=>eD⟩
    .rw[e]
     show((sdF r k).1++[srt (r k)]).Pairwise _;rw[List.pairwise_append];refine⟨ih.dis,by simp,λs hs t ht y hy hyt=>?_⟩;have:t=srt (r k):=by simpa using ht
     subst this;obtain⟨i,hi,rfl⟩:=i8 hs;have h1:=eD.mp hy;have h2:=eD.mp hyt;have c1:=(cos i 0#2 y h1).2;have c2:=(cos k W8 y h2).2;exact ZR ((ih.gone k).mpr ⟨i,hi,(c1 k).mp ((c2 k).mpr (self k W8))⟩)
def nbr(ls:List 7#9)(y:Nat):Nat:=ls.findIdx λs=>decide (y∈s)
theorem Ir{p:Nat->Bool}{k:Nat}:∀{n:Nat},k<n->p k=true->(∀j,j<n->p j=true->j=k)->(aA n).filter p=[k]
 |0,h,_,_=>by omega
 | n+1,h,h1,h2=>by
   rw[eA,List.filter_append];by_cases e:k=n
   .subst e
    have:(aA k).filter p=[]:=List.filter_eq_nil_iff.mpr λj hj hp=>by
     have:=h2 j (by have:=cq.mp hj;omega) hp;have:=cq.mp hj;omega
    rw[this];simp[h1]
   .rw[Ir (n:=n) 0#2 h1 λj hj hp=>h2 j 0#2 hp]
    have:p n=false:=by
     cases q:p n with
     |false=>rfl
     |true=>exact absurd (h2 n 0#2 q).symm e
    simp[this]
structure Sds(m:Nat)(ls:List (List Nat)):Prop where
 cov:∀y,y<m->∃s∈ls,y∈s
 dis:ls.Pairwise λs t=>∀y,y∈s->y∉t
theorem Sds.nb(h:Sds m ls)(hy:y<m):nbr ls y<3#8/\y∈ls.getD (nbr ls y) []:=by
 obtain⟨s,hs,V5⟩:=h.cov y hy;have hl:nbr ls y<3#8:=List.findIdx_lt_length_of_exists ⟨s,hs,decide_eq_true V5⟩;refine⟨hl,?_⟩;have:=List.findIdx_getElem (w:=hl);rw[bF,aI hl];exact of_decide_eq_true this
theorem Sds.uniq(h:Sds m ls)(hi:i<3#8)(hj:j<3#8)(h1:y∈ls.getD i [])(h2:y∈ls.getD j []):i=j:=by
 rw[bF,aI hi]at h1;rw[bF,aI hj]at h2;rcases Nat.lt_trichotomy i j with q|q|q
 .exact absurd h2 (CK.mp h.dis i j hi hj q y h1)
 .exact q
 .exact absurd h1 (CK.mp h.dis j i hj hi q y h2)
theorem Sds.nb_of(h:Sds m ls)(hy:y<m)(hi:i<3#8)(h1:y∈ls.getD i []):nbr ls y=i:=h.uniq (h.nb hy).1 hi (h.nb hy).2 h1
def dN(ls:List 7#9):Nat->List (_L.Key×U)
 |0=>[]
 |k+1=>u0 (dN ls k) (ls.getD k []) k
theorem BX{m:Nat}{ls:List (List Nat)}(h:Sds m ls){y:Nat}(hy:y<m):∀k,k<=3#8->j8 (dN ls k) (.inl (y:Int))=if nbr ls y<k then some (.int (nbr ls y:Nat)) else none
 |0,_=>rfl
 | k+1,hk=>by
   rw[dN,Av,BX h hy k 0#2];by_cases q:y∈ls.getD k []
   .rw[if_pos q,h.nb_of hy 0#2 q,if_pos (bx k)]
   .rw[if_neg q]
    have:nbr ls y≠k:=λe=>q (e▸(h.nb hy).2);by_cases z:nbr ls y<k
    .rw[if_pos z,if_pos 0#2]
    .rw[if_neg z,if_neg 0#2]
section
variable {m:Nat}{T:Nat->Nat->Nat}{P:List Nat}
theorem fB(h:Sbg m T P)(g:Grp m T){b:Bool}:Sds m (aZ m T P b):=by
 have p:=Ij (r:=d4 T P b) (λi hi=>yD h g hi) (λi hi y hy=>Cg h g hi hy) m 1#6;exact⟨λy hy=>by obtain⟨s,hs,hz⟩:=p.cov y hy;exact⟨s,hs,(hz y).mpr (yD h g hy)⟩,p.dis⟩
theorem gU(h:Sbg m T P)(g:Grp m T){b:Bool}(hi:i<(aZ m T P b).length)(hx:x∈(aZ m T P b).getD i []):x<m /\ ∀z,z∈(aZ m T P b).getD i []↔z∈d4 T P b x:=by
 have e:(aZ m T P b).getD i []=(aZ m T P b)[i]:=by rw[bF,aI hi];rfl
 rw[e]at hx ⊢;obtain⟨k,hk,q⟩:=i8 (bW hi:(aZ m T P b)[i]∈aZ m T P b);rw[q]at hx ⊢;obtain⟨h1,h2⟩:=Cg h g hk (eD.mp hx);exact⟨h1,λz=>eD.trans (h2 z).symm⟩
theorem AX(h:Sbg m T P)(g:Grp m T)(Xt:aZ m T P true=aZ m T P false){a b c d:Nat}(hi:i<(aZ m T P true).length)(hj:j<(aZ m T P true).length)(ha:a∈(aZ m T P true).getD i [])(hb:b∈(aZ m T P true).getD j [])(hc:c∈(aZ m T P true).getD i [])(hd:d∈(aZ m T P true).getD j []):
  nbr 6#1 (T a b)=nbr 6#1 (T c d):=by
 have sd:=fB (b:=true) h g;obtain⟨am,as⟩:=gU h g hi ha;obtain⟨bm,bs⟩:=gU h g hj hb;obtain⟨cm,_⟩:=gU h g hi hc;obtain⟨dm,_⟩:=gU h g hj hd;obtain⟨p,hp,e1⟩:=aU.mp ((as c).mp hc);have e1:T a p=c:=e1;have YM:=h.lt p hp;have WT:d∈(aZ m T P false).getD j []:=Xt▸hd;have XQ:j<(aZ m T P false).length:=Xt▸hj;obtain⟨_,ds⟩:=gU h g XQ WT;have hpd:T p d∈(aZ m T P false).getD j []:=(ds _).mpr (aU.mpr ⟨p,hp,rfl⟩);rw[<-Xt]at hpd;obtain⟨q,hq,e2⟩:=aU.mp ((bs _).mp hpd);have e2:T b q=T p d:=e2;have Yu:=h.lt q hq;have Yi:=g.cl a b am bm;have e3:T c d=T (T a b) q:=by rw[<-e1,g.as a p d am YM dm,<-e2,g.as a b q am bm Yu]
 obtain⟨n1,n2⟩:=sd.nb Yi;have ZC:T c d∈(aZ m T P true).getD (nbr 6#1 (T a b)) []:=by
  rw[(gU h g n1 n2).2,e3];exact aU.mpr ⟨q,hq,rfl⟩
 exact(sd.nb_of (g.cl c d cm dm) n1 ZC).symm
end
end _W
namespace _W
open PySem PySem.Spec _L _G
def uK:MS:=aR (bq 2 (kE 1#9 7#4)) (aR (bq 3 (bA 7#6)) (aR (jy (cOf (m2 oNe 0#8 3#5)) (aR (bq 4 (mML nM 0#8 ag)) (dU 5 5#9 (sIf (cOf (m2 eJ 16#4 0#5)) (aR (eI 0#5 16#4 7#4) (di (mML bJ 0#8 (aa 16#4 ag)))) cM)))) (b9 (mFn bC (aa (mFn dh 5#0) ag)))))
def iT:MF:=run 2 6 uK
def wx:MS:=b9 (mFn iT (aa 1#0 (aa (bL (iR1 (aa (m2 bN 1#7 (mFn aO (aa 0#4 10#2))) ag)) cTT 19#7) ag)))
def o7:MF:=run 2 2 wx
def tE:MS:=aR (bq 3 3#5) (aR (bq 4 3#5) (aR (dU 5 (iR1 (aa 7#5 ag)) (sIf (cOf (m2 eJ 2#1 1#3)) (aR (bq 6 (bL 5#9 cTT (m2 oIx (bA (aa (m2 oIx (m2 oIx 0#4 (ae 7)) 2#1) (aa (m2 oIx (m2 oIx 0#4 2#1) (ae 7)) ag))) (mFn Cp 5#0)))) (aR (di (mML bJ 0#8 (aa (mFn bC (aa (mFn dh (aa (ae 6) ag)) ag)) ag))) (bq 4 (m2 bN 1#3 (ae 6))))) cM)) (b9 0#8)))
def fh:MF:=run 3 7 tE
def rh:MS:=b9 (m2 oIx (ic 2 (mI 5#2) (cOf (m2 oIn 1#0 0#8)) 0#5) 1#9)
def ft:MF:=run 2 2 rh
def vR:MS:=aR (bq 2 3#5) (aR (dU 3 5#9 (di (mML bJ 0#5 (aa (mFn bC (aa (bL 5#9 cTT (mFn ft (aa 1#0 (aa (m2 oIx (m2 oIx 0#4 (m2 oIx 0#8 5#7)) (m2 oIx 1#3 5#7)) ag)))) ag)) ag)))) (b9 (mFn bC 5#0)))
def pR:MF:=run 2 4 vR
def sQ:MS:=aR (bq 3 (fZ (iR2 (aa 1#7 (aa (mFn bR 3#9) ag))))) (aR (bq 4 3#5) (aR (dU 5 (iR1 (aa (mFn uH 28#9) ag)) (di (mML bJ 1#3 (aa (mML kS 0#8 (aa (mFn aO (aa 0#4 (aa 10#4 ag))) ag)) ag)))) (b9 (mFn bC (aa (mFn dh 5#3) ag)))))
def ky:MF:=run 3 6 sQ
def wq:MS:=b9 (mFn bC (aa (bL (iR1 (aa (mFn aO (aa 0#4 (aa (m2 bN 0#5 1#7) ag))) ag)) cTT 19#7) ag))
def pM:MF:=run 3 3 wq
def qH:MS:=aR (bq 3 3#5) (aR (bq 4 (bA 30#5)) (aR (jy (wU (cOf (m2 oNe 1#3 3#5)) (cOf (m2 oLt 10#4 0#5))) (aR (ze (mML nM 1#3 ag) (gTp 2 23#5)) (aR (bq 7 (m2 oIx (ae 6) 5#7)) (sIf (cOf (m2 oEq 13#8 (m2 oB 7#5 1#7))) (di (mML gn 0#8 (aa (bL 5#9 (cOf (m2 oEq 17#7 1#9)) 25#9) ag))) (aR (bq 8 (bL 5#9 (cOf (m2 eJ 17#7 (ae 6))) (cH (aa (ae 9) (aa 17#7 ag))))) (di (mML gn 1#3 (aa (ic 2 (bZ (m1 oG (ae 8))) cTT (cH (aa 25#9 (aa (m2 bN (ae 6) (cH (aa (ae 10) ag))) ag)))) ag)))))))) (b9 (mSl 0#8 none (some 0#5)))))
def gw:MF:=run 3 9 qH
def mH:MS:=aR (bq 1 (mFn kr (aa 0#4 (aa (m2 oIx (bA (aa (mC (.int 8)) (aa (mC (.int 12)) (aa (mC (.int 24)) ag)))) 18#4) ag)))) (aR (bq 2 (mFn o7 5#6)) (aR (bq 3 (mFn fh (aa 1#0 (aa 0#5 (aa 7#4 ag))))) (aR (sIf (cOr (cOf (m2 oNe 0#8 (mFn fh (aa 1#0 (aa 0#5 (aa 14#1 ag)))))) (cOf (m2 oEq (mFn bR 3#9) 1#7))) (b9 (cH (aa 1#0 (aa 0#5 (aa (mFn pM (aa 0#4 (aa 1#0 22#0))) ag))))) cM) (aR (bq 4 (mFn pR (aa 1#0 12#4))) (aR (bq 5 (bA (aa (cH 7#6) ag))) (aR (sIf (cOf (m2 oGt (mFn bR 5#3) 1#7)) (aR (bq 6 (mFn ky (aa 0#4 (aa 1#3 (aa (m2 oIx (bA (aa (mC (.int 3)) (aa 4#7 10#2))) (m2 oDiv (mFn bR 5#3) (mC (.int 9)))) ag))))) (bq 5 (tS 25#0 25#5 3#5))) cM) (aR (sIf (cOf (m2 oEq 2#1 3#5)) (b9 (cH (aa 1#0 (aa 0#5 (aa (mFn bC (aa (bL (bZ 0#8) cTT 19#7) ag)) ag))))) cM) (aR (bq 7 3#5) (aR (dU 8 (bZ (m2 oIx 2#1 (mFn aO (aa 0#4 (aa 13#8 ag))))) (aR (bq 9 (bL (bZ (m2 oIx 0#8 (ae 8))) (cOf (m2 oGt (ae 10) 1#9)) (ae 10))) (di (mML bJ (ae 7) (aa (m2 oIx (ae 9) (mFn aO (aa 0#4 (aa (mFn bR (aa (ae 9) ag)) ag)))) ag))))) (b9 (cH (aa 1#0 (aa 0#5 (aa (mFn bC (aa (ae 7) ag)) ag))))))))))))))
def hU:MF:=run 1 10 mH
def mF:MS:=aR (bq 3 (mFn aO (aa 0#4 (aa (m2 bN (mFn bR 3#9) 1#7) ag)))) (aR (bq 4 (m2 oIx (bA (aa 1#9 (aa 1#7 (aa 0#5 (aa 5#7 (aa 7#4 (aa (mC .non) (aa (mC (.str "0")) (aa (cH 7#6) (aa (m2 oB 0#5 1#7) ag)))))))))) (mFn aO (aa 0#4 (aa (mC (.int 9)) ag))))) (aR (bq 5 (bA (aa (m2 bN (m2 bN 23#4 (cH 5#3)) (mSl 1#0 (some (m2 bN 0#8 1#7)) none)) (aa (m2 bN 23#4 (mSl 1#0 (some (m2 bN 0#8 1#7)) none)) (aa (m2 bN (m2 bN 23#4 (cH 5#3)) (mSl 1#0 (some 0#8) none)) (aa (mFn vU 3#9) ag)))))) (aR (bq 5 (m2 bN 2#1 (bA (aa (m1 oG 1#0) (aa (m2 bN (mSl 1#0 (some 0#8) none) 23#4) (aa (m2 bN 1#0 1#0) (aa (mC .non) (aa (cH ag) 3#9)))))))) (b9 (m2 oIx 2#1 (mFn aO (aa 0#4 (aa (mC (.int 10)) ag))))))))
def jv:MF:=run 3 6 mF
def vN:MS:=b9 (m2 oEq (mFn oQ 5#2) (mFn oQ 3#9))
def jZ:MF:=run 2 2 vN
def xU:MS:=aR (bq 1 (bA (aa (mC .non) (aa 7#4 (aa 14#1 (aa 5#7 (aa (mC (.str "")) (aa (mC (.str "0")) (aa (cH ag) (aa 3#5 (aa (cH (aa 7#4 ag)) (aa (bA 7#6) (aa (kE 1#9 1#7) (aa (cH (aa (mC .non) ag)) (aa (cH (aa 5#7 ag)) (aa (cH (aa (mC (.str "a")) ag)) (aa (m2 uC (mC (.int 10)) (mC (.int 30))) (aa (cH (aa (cH 7#6) ag)) ag)))))))))))))))))) (b9 (m2 oIx 1#0 (mFn aO (aa 0#4 (aa (mC (.int 16)) ag)))))
def rY:MF:=run 1 2 xU
def Ap(g:iM)(φ:MF):MS:=aR (bq 2 3#5) (aR (bq 3 sW) (aR (dU 4 (bZ 0#4) (sIf (cOf (m2 eJ 1#3 0#8)) (aR (bq 5 (wZ 1 g φ 5#3)) (aR (di (mML bJ 0#5 (aa 2#1 ag))) (dU 6 (bZ 2#1) (eI 0#8 (ae 6) 7#4)))) cM)) (b9 0#5)))
def vp(g:iM)(φ:MF):MF:=run 2 7 (Ap g φ)
def qB:MS:=b9 (vK (iR1 (aa 7#5 ag)))
def jG:MF:=run 1 1 qB
def qE:MS:=b9 (kT vp 1 [0,1] (mFn bC (aa (mFn dh (aa (bL (bZ 0#5) cTT (m2 oIx (m2 oIx 1#0 0#4) 0#8)) ag)) ag)) (mFn jG 5#2))
def fq:MF:=run 2 2 qE
def jX:MS:=aR (bq 2 sW) (aR (va (gTp 2 (eK (gN 3) (eK (gN 4) oR))) (mI (aa (mFn fq 5#6) ag)) (dU 5 (bZ 1#3) (eI 0#5 2#1 0#8))) (b9 0#5))
def iA:MF:=run 2 6 jX
def wo(g:iM)(φ:MF):MS:=aR (bq 2 3#5) (aR (dU 3 (iR1 5#2) (di 26#7)) (b9 (mFn bC 5#0)))
def vV(g:iM)(φ:MF):MF:=run 2 4 (wo g φ)
def oV:MS:=b9 (kT vp 1 [0,1] (mFn bC (aa (mFn dh (aa (bL (bZ 0#5) cTT (m2 oIx (m2 oIx 1#0 0#8) 0#4)) ag)) ag)) (mFn jG 5#2))
def kO:MF:=run 2 2 oV
def wa:MS:=b9 (m2 oEq (mFn fq 5#6) (mFn kO 5#6))
def j0:MF:=run 2 2 wa
def qZ:MS:=aR (sIf (kj (cOf (mFn j0 5#6))) sNo cM) (aR (bq 2 (bL (bZ (mFn fq 5#6)) cTT (m2 oIx 1#3 1#9))) (aR (bq 3 (mFn iA 5#6)) (b9 (kT vV 2 [0,2,3] (m2 oIx 1#3 (m2 oIx (m2 oIx 0#5 (m2 oIx 0#8 0#4)) (m2 oIx 0#8 1#0))) (mFn bR 5#0)))))
def fo:MF:=run 2 4 qZ
def rj:MX:=rC (xIf (kj (cOf (mFn j0 5#6))) (rC (su 1) sNo xNo) xNo) (sIf (kj (cOf (mFn j0 5#6))) sNo cM) xNo
def iG:RF:=y6 2 4 rj
def A3:MS:=aR (bq 2 (bA 7#6)) (aR (dU 3 5#9 (di (mML bJ 0#5 (aa (m2 oIx (m2 oIx 0#4 (m2 oIx 0#5 5#7)) 0#8) ag)))) (b9 (mFn bC 5#0)))
def vS:MF:=run 2 4 A3
def lC:MS:=b9 (m2 oEq (mFn bC (aa (mFn dh 3#9) ag)) (mFn jG 5#2))
def iR:MF:=run 2 2 lC
def oK:MS:=aR (bq 2 (mFn vS 5#6)) (b9 (iZ (m2 oEq (m2 oIx 0#5 5#7) 1#9) (mFn iR (aa 0#4 (aa (mSl 0#5 none (some 5#7)) ag)))))
def kR:MF:=run 2 3 oK
def ku:MS:=b9 (iZ (m1 (gv "int") 0#4) (iZ (m1 pG (m1 (gv "bool") 0#4)) (mCh oLe oLt 1#9 0#4 1#0)))
def kD:MF:=run 2 2 ku
def jD:MS:=b9 (iZ (m1 (gv "tuple") 0#4) (mFn sx (aa (bL (bZ 0#4) cTT (mFn kD (aa 0#5 3#9))) ag)))
def gI:MF:=run 2 2 jD
def CO:MS:=aR (bq 2 (kE 1#9 (cH ag))) (aR (bq 3 (bA 7#6)) (aR (jy (cOf (m2 oGt 10#4 1#9)) (aR (bq 4 (mML nM 0#8 ag)) (dU 5 5#9 (aR (bq 6 16#4) (sIf (cOf (m2 eJ (ae 6) 0#5)) (aR (eI 0#5 (ae 6) (m2 bN (m2 oIx 0#5 1#3) (cH (aa 2#1 ag)))) (di (mML bJ 0#8 (aa (ae 6) ag)))) cM))))) (b9 0#5)))
def DN:MF:=run 2 7 CO
def GI:MS:=b9 (mFn bC (aa (mFn dh (aa (mFn DN 5#6) ag)) ag))
def Ct:MF:=run 2 2 GI
def Dm:MS:=aR (bq 2 1#9) (aR (dU 3 5#9 (bq 2 18#0)) (b9 0#5))
def zj:MF:=run 2 4 Dm
def qS:MS:=aR (sIf (cOr (kj (cOf (mFn gI (aa 0#8 (aa 7#5 ag))))) (cOf (m2 oIn 1#9 0#8))) (b9 14#1) cM) (aR (bq 4 (mFn iA 5#6)) (b9 (iZ (mFn kR (aa 0#5 (aa (bL (bZ 0#8) cTT (m2 oIx 1#3 2#1)) ag))) (m2 oEq (mFn Ct (aa 0#4 (aa (cH (aa (mFn zj (aa 0#4 12#4)) ag)) ag))) 1#0))))
def eO:MF:=run 4 5 qS
def AI:MS:=aR (bq 3 (mFn fo 5#6)) (aR (sIf 28#8 sNo cM) (b9 (m2 fW 0#5 (mFn bR 3#9))))
def iC:MF:=run 3 4 AI
def z7:MX:=rC (xFn iG 5#6) (bq 3 (mFn fo 5#6)) (rC (xIf 28#8 (rC (su 2) sNo xNo) xNo) (sIf 28#8 sNo cM) xNo)
def lH:RF:=y6 3 4 z7
def qD:MS:=aR (bq 3 3#5) (aR (bq 4 (j9 [1,2] [3,0,1,2] (mML bJ 0#4 (aa (mFn iC (aa 1#0 (aa 0#5 12#4))) ag)) (xML 0#4 (xFn lH (aa 1#0 (aa 0#5 12#4)))))) (b9 (tS (cOf (m2 o9 1#3 (mC .non))) 1#3 (m2 oIx 0#8 1#9))))
def eh:MF:=run 3 5 qD
def tu:MS:=aR (bq 2 1#9) (aR (dU 3 5#9 (bq 2 18#0)) (b9 0#5))
def fY:MF:=run 2 4 tu
def nC:MS:=aR (bq 3 (mFn fh (aa 0#4 (aa 1#0 (aa 7#4 ag))))) (aR (sIf (cOf (m2 oNe 0#8 (mFn fh (aa 0#4 (aa 1#0 (aa 14#1 ag)))))) (b9 (bA (aa 1#7 ag))) cM) (aR (sIf (cOr (kj (cOf (m1 (gv "tuple") 0#5))) (cOf (m2 oNe (mFn bR 5#0) 10#4))) (b9 (bA 10#2)) cM) (aR (sIf (kj (cOf (mFn sx 26#4))) (b9 (bA 10#2)) cM) (aR (bq 4 (bL (iR1 (aa (m2 bN (mFn bR 5#0) 1#7) ag)) cTT 26#9)) (aR (sIf (cOr (cOf (m2 oNe (mFn dh (aa (mSl 1#3 none (some 5#7)) ag)) (fZ (iR1 (aa 10#4 ag))))) (cOf (m2 oNe (m2 oIx 1#3 5#7) 1#9))) (b9 (bA 10#2)) cM) (aR (sIf (cOf (m2 oNe (mFn iT (aa 0#4 (aa (bA (aa (mFn fY (aa 0#4 5#0)) ag)) ag))) 1#0)) (b9 (bA 10#2)) cM) (b9 (m2 fW 0#5 (mFn bR 3#9)))))))))
def eC:MF:=run 3 5 nC
def Mj:MS:=aR (dU 1 (bZ (bA (aa (cH ag) (aa (cH 7#6) (aa (mC .non) (aa (bA (aa 1#7 ag)) (aa (cH (aa 7#4 ag)) (aa (cH (aa 1#7 ag)) ag)))))))) (dU 2 (bZ (bA (aa (mFn dw (aa 1#7 ag)) (aa (mFn dw 10#2) ag)))) (sIf (kj (cOf (mFn jZ (aa (mFn eh (aa 0#5 (aa (cH 7#6) 3#9))) (aa (mFn eC (aa 0#5 (aa (cH 7#6) 3#9))) ag))))) (b9 14#1) cM))) (aR (dU 3 (iR1 (aa (mFn B3 (aa 1#7 (aa (mFn uH (aa 7#5 (aa (mC (.int 5)) ag))) ag))) ag)) (aR (bq 4 (mFn nz (aa 0#4 12#4))) (aR (ze (mFn hU 5#3) (gTp 3 (eK (gN 2) 23#5))) (aR (bq 7 (bL (iR1 (aa (mC (.int 4)) ag)) cTT (mFn jv (aa 1#3 (aa (ae 6) (aa (mFn bR 5#0) ag)))))) (dU 1 (bZ (m2 bN (ae 7) (bA (aa (mFn rY 5#3) (aa (mSl (ae 6) none (some 1#7)) (aa (cH ag) ag)))))) (sIf (kj (cOf (mFn jZ (aa (mFn eh (aa 0#5 (aa 2#1 3#9))) (aa (mFn eC (aa 0#5 (aa 2#1 3#9))) ag))))) (b9 14#1) cM)))))) (b9 7#4))
def Ru:MF:=run 1 8 Mj
section
open _L _G
theorem Hy{G:Rho}{S:Sto}{e:ME}{part:List Nat}{f:Nat->Nat}{i:Nat}(hi:G[i]?=some (some (.tup (aj part))))(hl:9#6<big)(he:∀(x:Nat) (S:Sto),x∈part->∃S',e 19#2 S=some (.int (f x:Nat),S')/\Ex S S'):
  ∃S',bL (bZ (ae i)) cTT e G S=some (.ref S'.length,S'++[Cell.lst (aj (part.map f))])/\Ex S S':=by
 obtain⟨S1,e1,x1⟩:=jV (λj => .int (f (oF part j))) (λ_ S'=>Ex S S') _ 0 [] S (Ex.refl _) (by
  rintro j u S' hu x1;obtain⟨x,hx,rfl⟩:=gM hu;obtain⟨S2,e2,x2⟩:=he x S' (bu hx);refine⟨S2,?_,x1.trans x2⟩;have:oF part (0+j)=x:=by unfold oF;simp_all
  rw[this]
  omega)
 have hm:(aA (aj part).length).map (λj=>U.int (f (oF part (0+j))))=aj (part.map f):=by
  unfold aj;apply mM;intro j;by_cases h:j<9#6
  .simp[oF,h]
  simp_all
 rw[hm]at e1;exact⟨S1,jJ (by unfold bZ;rw[var_eq hi];rfl) e1 (by rw[bf,ay];omega),x1⟩
variable{S x:Sto}{c:Cell}
theorem k0:(S++[c]++x)[0#3]?=some c:=by simp
theorem ks0{c':Cell}:(S++[c]++x).set S.length c'=S++[c']++x:=by
 grind
variable{g:Nat}
theorem kx(hg:0#3<g):(S++[c]++x)[g]?=x[g-(0#3+1)]? := by
 rw[aq 14#4];simp
theorem Q4{c':Cell}(hg:0#3<g):(S++[c]++x)[g]?=(S++[c']++x)[g]? := by rw[kx hg,kx hg]
section
variable {m:Nat}{T:Nat->Nat->Nat}{part:List Nat}{S:Sto}
def UU:MS:=sIf (cOf (m2 eJ 2#1 1#3)) (aR (bq 6 (bL 5#9 cTT (m2 oIx (bA (aa (m2 oIx (m2 oIx 0#4 (ae 7)) 2#1) (aa (m2 oIx (m2 oIx 0#4 2#1) (ae 7)) ag))) (mFn Cp 5#0)))) (aR (di (mML bJ 0#8 (aa (mFn bC (aa (mFn dh (aa (ae 6) ag)) ag)) ag))) (bq 4 (m2 bN 1#3 (ae 6))))) cM
theorem qw{left:Bool}(g:Grp m T)(hm:m<64)(hl:9#6<64)(hp:∀x∈part,x<m):∃S',fh [tab m T,.tup (aj part),.bl left] S=some 14#6/\Ex S S'/\S'[0#3]?=some (Cell.lst (tups (aZ m T part left))):=by
 have hr:∀k,(d4 T part left k).length<=64:=λk=>map_len hl;obtain⟨Y2,S1,e1,a,b,c,x,rfl,rfl,_⟩:=lD (i:=5) (a:=mFn bR 5#2) (b:=UU) 9#5 (ai hm 0#1)
  (λk G S'=>∃a b c x,G=[0#9,7#2,some (.bl left),2#2,some (.ref a),b,c]/\S'=S++17#6++x/\0#3<a/\S'[a]?=some (.lst (aj (sdF _ k).2)))
  ⟨_,none,none,2#3,rfl,rfl,bx _,by simp[sdF,aj]⟩ (by
   rintro k G S' hk ⟨a,b,c,x,rfl,rfl,ha,hg⟩;have bd:=BG hr k;have ec:=K4 (G:= 29#0) (a:=ae 5) (b:=ae 4) 0#0 0#0 hg;by_cases ZR:k∈(sdF 13#3 k).2
   .rw[decide_eq_true ZR]at ec
    refine⟨_,_,(gF ec).trans rfl,a,_,_,x,rfl,?_,ha,?_⟩
    .rw[sdF,if_pos ZR]
    .rw[sdF,if_pos ZR];exact hg
   .rw[decide_eq_false ZR]at ec
    obtain⟨S2,e2,x2⟩:=Hy (i:=1) (f:=λo=>if left then T k o else T o k) rfl (ai hl 0#1) (by
     intro y S' hy;have YB:=hp y hy;refine⟨S'++[Cell.lst [.int (T y k:Nat),.int (T k y:Nat)]],?_,Ex.push _ _⟩;have f1:=Dg (G:= 29#0++[some (.int y)]) (S:=S') (a:=m2 oIx (m2 oIx 0#4 (ae 7)) 2#1) (b:=m2 oIx (m2 oIx 0#4 2#1) (ae 7)) (il hk (ig YB 0#0 0#0) 0#0) (il YB (ig hk 0#0 0#0) 0#0);have f2:mFn Cp 5#0 (29#0++[some (.int y)]) (S'++[Cell.lst [.int (T y k:Nat),.int (T k y:Nat)]])=some _:=fC 0#0 rfl;refine mK f1 f2 6#0 ?_
     cases left <;> rfl)
    have hw:d4 T part left k=part.map _:=rfl;obtain⟨t,rfl⟩:=x2;have ZH:∀y:Sto,S++17#6++x++t++y=S++17#6++(x++t++y):=λy=>by simp
    have ZX:0#3<(S++17#6++x++t).length:=by simp
    have g2:(S++7#7++x++t++[Cell.lst (aj (d4 T part left k))])[(S++17#6++x++t).length]?=some _:=aX _ _;generalize hn:(S++7#7++x++t).length=n at e2 ZX g2;have e3:=eB (qx (G:= [0#9,7#2,some (.bl left),2#2,some (.ref a),3#1,2#7]) (a:=ae 6) 0#0 g2 (by rw[hw,ay];exact hl));have g3:∀z:Sto,(S++7#7++x++t++z)[0#3]?=some _:=λz=>by rw[ZH];exact k0
    have e4:=append_eq (o:=ae 3) 0#0 e3 (g3 _) (by rw[aL];exact g3 _) (by rw[tups,ay];exact az bd.1 (dc hk (ai hm 0#1)));have hs3:S++17#6++x++t++[Cell.lst (aj (d4 T part left k))]++[Cell.lst (aj (srt (d4 T part left k)))]=S++17#6++(x++t++23#9):=by simp
    rw[hs3,ks0]at e4;have hga:(S++[Cell.lst (tups (sdF 13#3 k).1++[.tup (aj (srt (d4 T part left k)))])]++(x++t++23#9))[a]?=some (.lst (aj (sdF 13#3 k).2)):=by
     rw[Q4 ha];have U3:=(af.mp hg).1;rw[<-ZH,aL _ t,aK U3,hg]
    have hgn:(S++[Cell.lst (tups (sdF 13#3 k).1++[.tup (aj (srt (d4 T part left k)))])]++(x++t++23#9))[n]?=some (.lst (aj (d4 T part left k))):=by
     rw[Q4 ZX,<-ZH,<-aL];have WX:=(af.mp g2).1;rw[aK WX,g2]
    have e5:=add_l (G:= [0#9,7#2,some (.bl left),2#2,some (.ref a),3#1,2#7]) (a:=ae 4) (b:=ae 6) 0#0 0#0 hga hgn (by
     have:=hr k
     unfold big;omega)
    refine⟨_,_,(iJ ec).trans ((aF (bo e2)).trans ((aF e4).trans (bo e5))),_,_,_,(x++t++23#9++[Cell.lst (aj ((sdF 13#3 k).2++d4 T part left k))]),rfl,?_,?_,?_⟩
    .rw[sdF,if_neg ZR];simp[tups]
    .simp
    ·rw[sdF,if_neg ZR];exact aX _ _)
 refine⟨S++7#7++x,bM (G:= [0#9,7#2,some (.bl left),2#2,some (.ref a),b,c]) rfl ?_,⟨_,by rw[aL]⟩,k0⟩;have e2:bA ag [0#9,7#2,some (.bl left),2#2,none,none,none] (S++2#3)=some (.ref (0#3+1),S++2#3++2#3):=eM.trans 0#6;exact(aF (bo eM)).trans ((aF (bo e2)).trans ((aF e1).trans (bU 0#0)))
theorem B0(g:Grp m T)(hm:m<64)(hl:9#6<64)(hp:∀x∈part,x<m):∃S',fq 12#8 S=some 14#6/\Ex S S'/\S'[0#3]?=some (Cell.lst (tups 12#0)):=L3 g hm hl hp
theorem L4(g:Grp m T)(hm:m<64)(hl:9#6<64)(hp:∀x∈part,x<m):∃S',kO 12#8 S=some 14#6/\Ex S S'/\S'[0#3]?=some (Cell.lst (tups (aZ m T part false))):=GL g hm hl hp
theorem yX(g:Grp m T)(hm:m<64)(hl:9#6<64)(hp:∀x∈part,x<m):∃S',j0 12#8 S=some (.bl (decide (aZ m T part true=aZ m T part false)),S')/\Ex S S':=by
 obtain⟨S1,e1,x1,h1⟩:=B0 g hm hl hp;obtain⟨S2,e2,x2,h2⟩:=L4 g hm hl hp;exact⟨S2,bM rfl (bU (Ef (bY 0#0 0#0 e1) (bY 0#0 0#0 e2) (x2.some h1) h2)),x1.trans x2⟩
variable{ls:List (List Nat)}{i:Nat}
theorem jO(hi:i<3#8):(tups ls)[i]?=some 20#6:=by
 unfold tups
 simp_all
theorem Iw{G:Rho}{r y:Nat}{ls:List (List Nat)}(G':G.length=2)(h1:G[1]?=some (some (.int (y:Nat))))(hr:getL S r=some (tups ls)):∀(f i:Nat) (acc:List U),3#8-i<f->i<=3#8->ij (cOf (m2 oIn 1#0 0#8)) 0#5 G r f i acc S=some (acc++aj ((cb i (3#8-i)).filter λk=>decide (y∈ls.getD k [])),S)
 |0,i,acc,h,_=>absurd h (Nat.not_lt_zero _)
 | f+1,i,acc,h,hi=>by
   unfold ij;rw[hr];simp only[ah];by_cases ZV:i<3#8
   .rw[jO ZV]
    simp only;have v1:(G++[some (.int (i:Nat)),some 20#6])[1]?=some (some (.int (y:Nat))):=by rw[aK (by rw[G'];decide)];exact h1
    have v2:(G++[some (.int (i:Nat)),some 20#6])[2]?=some (some (.int (i:Nat))):=by rw[aq (by rw[G'];decide),G'];rfl
    have v3:(G++[some (.int (i:Nat)),some 20#6])[3]?=some (some 20#6):=by rw[aq (by rw[G'];decide),G'];rfl
    have ht:=of_eq (UF (S:=S) (a:=ae 1) (b:=ae 3) (var_eq v1) (var_eq v3));have he:ae 2 _ S=some (.int (i:Nat),S):=var_eq v2;have e:3#8-i=(3#8-(i+1))+1:=by rw[Nat.sub_add_eq,mE (Nat.sub_pos_of_lt ZV)]
    have hf:=by rw[e]at h;exact qf h
    rw[ht];simp only[aw];rw[e,yu];by_cases q:y∈ls.getD i []
    .rw[decide_eq_true q,if_pos rfl,he]
     simp only[aw];rw[Iw G' h1 hr f (i+1) _ hf ZV,oz (by exact decide_eq_true q)];simp[aj]
    .rw[decide_eq_false q,if_neg du]
     rw[Iw G' h1 hr f (i+1) _ hf ZV,oA (by simpa using q)]
   .have hq:i=3#8:=Nat.le_antisymm hi (bX ZV)
    have hn:(tups ls)[i]?=none:=by
     rw[dz];unfold tups;rw[ay];exact bX ZV
    rw[hn,hq,lP];simp[aj]
theorem Nc{r y:Nat}(hr:S[r]?=some (.lst (tups ls)))(sd:Sds m ls)(hy:y<m)(hl:3#8<1000):∃S',ft [.ref r,.int (y:Nat)] S=some (.int (nbr ls y:Nat),S')/\Ex S S':=by
 have hg:getL S r=some (tups ls):=by unfold getL;rw[hr]
 have e1:=Iw (G:= [10#6,some _]) (y:=y) rfl rfl hg fuel 0 [] (by exact ai hl 0#1) (dB _);have ef:(cb 0 (3#8-0)).filter (λk=>decide (y∈ls.getD k []))=[nbr ls y]:=by
  rw[<-JO];exact Ir (sd.nb hy).1 (decide_eq_true (sd.nb hy).2) λj hj hp=>(sd.nb_of hy hj (of_decide_eq_true hp)).symm
 rw[ef,dv]at e1;have e2:ic 2 (mI 5#2) (cOf (m2 oIn 1#0 0#8)) 0#5 [10#6,some (.int y)] S=some (.ref 0#3,S++[.lst (aj [nbr ls y])]):=by
  have hi:mI 5#2 [10#6,some (.int y)] S=some (.enl r,S):=by
   show((getL S r).map _)=_<;>simp_all
  simp only[ic,hi,aw,Cs,if_true,e1];rw[if_pos (by simp[aj,big])]
 exact⟨_,bM rfl (bU (mK (z:=0) e2 c_i 6#0 rfl)),Ex.push _ _⟩
theorem GB{ls:List (List Nat)}(h:∀l∈ls,2#8<=64):∀k,k<=3#8->(dN ls k).length<=k*64
 |0,_=>ak _
 | k+1,hk=>by
   have h1:=GB h k (Nat.le_of_succ_le hk);have h2:=vL (v:=k) (xs:=ls.getD k []) (D:=dN ls k);have h3:(ls.getD k []).length<=64:=by
    rw[bF,aI hk]<;>simp_all
   rw[lM];exact aB h2 (Nat.add_le_add h1 h3)
theorem EH{D:List (_L.Key×U)}{xs:List Nat}{x v:Nat}:u0 D (xs++[x]) v=kY (u0 D xs v) 10#0 (.int (v:Nat)):=by
 unfold u0;simp_all
theorem GY(g:Grp m T)(hm:m<64)(hl:9#6<64)(hp:∀x∈part,x<m):∃S',iA 12#8 S=some 14#6/\Ex S S'/\S'[0#3]?=some (.dic (dN 12#0 (aZ m T part true).length)):=by
 have sl:=rX (left:=true) g hm hl hp;obtain⟨S2,e2,x2,h2⟩:=B0 (S:=S++[.dic []]) g hm hl hp;generalize hls:aZ m T part true=ls at h2 sl;have YY:0#3<(S++[Cell.dic []]).length:=by simp
 generalize hN:(S++[Cell.dic []]).length=n at e2 h2 YY;have hu:(tups ls).length=3#8:=by simp[tups]
 have YS:=sl.len;obtain⟨X3,S3,e3,⟨a,b,c,rfl⟩,x3,h3,_⟩:=xP (g:=gTp 2 (eK (gN 3) (eK (gN 4) oR))) _
  (λk G S'=>(∃a b c,G=[0#9,7#2,2#2,a,b,c])/\Ex S S'/\S'[0#3]?=some (.dic (dN ls k))/\S'[n]?=some _)
  (λk G S' h=>by unfold getL;rw[h.2.2.2]) (by
   rintro k u G S' hk ⟨⟨a,b,c,rfl⟩,x,hd,hs⟩;have YK:=by have:=(af.mp hk).1;rwa[hu]at this
   rw[jO YK]at hk;cases hk;generalize hw:ls.getD k []=w;have Z8:3#3<=64:=by
    rw[<-hw,bF,aI YK];exact sl.each _ (bW YK)
   have XM:=aB (GB sl.each k (aV YK)) (ei 64 (aB (aV YK) YS));obtain⟨Z0,S4,e4,⟨c',rfl⟩,x4,h4,hs4⟩:=pA (i:=5) (e:=ae 4) 0#0
    (λj G S4=>(∃c,G=[0#9,7#2,2#2,3#1,some 4#2,c])/\Ex S S4/\S4[0#3]?=some (.dic (u0 _ (w.take j) k))/\S4[n]?=some _)
    ⟨⟨_,rfl⟩,x,by exact hd,hs⟩ (by
     rintro j u G S4 hj ⟨⟨c,rfl⟩,x4,h4,hs4⟩;obtain⟨y,hy,rfl⟩:=gM hj;have hlen:=vL (v:=k) (xs:=w.take j) (D:=dN ls k);have htl:(w.take j).length<=64:=aB (List.length_take_le' _ _) Z8;have Vj:=Nl (G:= [0#9,7#2,some _,3#1,some 4#2,some (.int y)]) (o:=ae 2) (i:=ae 5) (e:=ae 3) 0#0 0#0 0#0 h4 (az (aB hlen (Nat.add_le_add XM htl)) 0#1);have ZR:=(af.mp h4).1;refine⟨_,_,Vj,⟨_,rfl⟩,x4.set 1#6,?_,?_⟩
     .rw[aM ZR]
      have:w.take (j+1)=w.take j++[y]:=by
       rw[mO,hy];rfl
      rw[this,EH]
     ·rw[aD (aS YY)];exact hs4)
   rw[bf,oy]at h4;refine⟨_,S',_,S4,rfl,e4,⟨_,_,_,rfl⟩,x4,?_,hs4⟩
   rw[dN,hw];exact h4) fuel 0 _ S2 (dB _) (by rw[hu];exact az (aB (gc _ _) YS) (by decide)) ⟨⟨_,_,_,rfl⟩,(Ex.push _ _).trans x2,x2.some (aX _ _),h2⟩
 rw[hu]at h3;have hi:mI (aa (mFn fq 5#6) ag) 26#0 (S++[.dic []])=some (.enl n,S2):=by
  have q:=by
   have v0:ae 0 26#0 (S++[Cell.dic []])=some _:=rfl;have v1:ae 1 26#0 (S++[Cell.dic []])=some _:=rfl;exact bY v0 v1 e2
  simp only[mI,aa,ag,q,aw,getL,h2,aN]
 have ef:va (gTp 2 (eK (gN 3) (eK (gN 4) oR))) (mI (aa (mFn fq 5#6) ag)) (dU 5 (bZ 1#3) (eI 0#5 2#1 0#8)) 26#0 (S++[.dic []])=some (.nx,[0#9,7#2,2#2,a,b,c],S3):=by
  unfold va;rw[hi];exact e3
 exact⟨S3,bM rfl (show jX _ S=_ from(aF (bo (rfl))).trans ((aF ef).trans (bU 0#0))),x3,h3⟩
def xf(ls:List 7#9)(i:Nat):Nat:=(ls.getD i []).headD 0
def pd(ls:List 7#9)(i:Nat):Nat:=(ls.getD i []).getLastD 0
theorem ur(sb:Sbg m T part)(g:Grp m T)(hi:i<(aZ m T part true).length):(aZ m T part true).getD i []≠[]:=by
 have e:(aZ m T part true).getD i []=(aZ m T _ _)[i]:=by simp_all
 obtain⟨k,hk,q⟩:=i8 (bW hi);rw[e,q];have:=(eD (l:=d4 T _ true k)).mpr (yD sb g hk)
 grind
theorem Ot(sb:Sbg m T part)(g:Grp m T)(hi:i<(aZ m T part true).length):xf 12#0 i∈(aZ m T part true).getD i []:=by
 have h:=ur sb g hi;unfold xf;generalize (aZ m T _ _).getD i []=l at h ⊢;cases l<;>simp_all
theorem Cb(sb:Sbg m T part)(g:Grp m T)(hi:i<(aZ m T part true).length):pd 12#0 i∈(aZ m T part true).getD i []:=by
 have h:=ur sb g hi;unfold pd;rw[ix,ki h];exact List.getLast_mem h
def hdU:U->U
 |.tup (x::_)=>x
 |_=>.non
theorem HS(sb:Sbg m T part)(g:Grp m T)(hm:m<64)(hl:9#6<64)(Xt:aZ m T part true=aZ m T part false):∃S',fo 12#8 S=some (tab (aZ m T part true).length (λi j=>nbr 12#0 (T (xf 12#0 i) (xf 12#0 j))),S')/\Ex S S':=by
 have hp:=sb.lt;have sl:=rX (left:=true) g hm hl hp;have sd:=fB (b:=true) sb g;obtain⟨S1,e1,x1⟩:=yX (S:=S) g hm hl hp;rw[decide_eq_true Xt]at e1;obtain⟨S2,e2,x2,h2⟩:=B0 (S:=S1) g hm hl hp;have YW:=λi hi=>Ot (i:=i) sb g hi;have ZI:=λi hi=>ur (i:=i) sb g hi;have XR:=λi hi=>(λx hx=>(gU (b:=true) (i:=i) sb g hi (x:=x) hx).1);obtain⟨S4,e4,x4,h4⟩:=GY (S:=S2++[.lst ((tups (aZ m T _ _)).map hdU)]) g hm hl hp;generalize hls:aZ m T _ _=ls at *
 have e3:=FJ (t:=cTT) (e:=m2 _ 1#3 1#9) (G:= [some _,some _,none,none]) (f:=hdU) (bY (a:=ae 0) (b:=ae 1) 0#0 0#0 e2) h2 (by rw[tups,ay];exact az sl.len 0#1) (λu _=>rfl) (λu hu _=>by
  obtain⟨k,hk,e⟩:=JT.mp hu;have Zm:=by simpa [tups]using hk
  have:=jO Zm;rw[aI hk,e]at this;cases this;have h:=ZI k Zm;generalize ls.getD k []=l at h;cases l with
  |nil=>exact absurd rfl h
  | cons x l=>exact Ff (var_eq rfl) rfl (gq rfl))
 rw[ll.mpr (λ_ _=>rfl)]at e3;have hh:∀i,i<3#8->((tups ls).map hdU)[i]?=some (.int (xf ls i)):=λi hi=>by
  rw[bE,jO hi];unfold xf;have h:=ZI i hi;generalize ls.getD i []=l at h ⊢;cases l with
  |nil=>exact absurd rfl h
  |cons x l=>rfl
 have h3:(S2++[Cell.lst ((tups ls).map hdU)])[8#0]?=some _:=aX _ _;have x3:Ex S2 (S2++[Cell.lst ((tups ls).map hdU)]):=Ex.push _ _;generalize S2++7#7=S3 at e3 e4 x4 h4 h3 x3;have el:=sU (G:= [0#9,7#2,some _,some (.ref S3.length)]) (a:=ae 2) 0#0 (x4.some h3);have hlen:((tups ls).map hdU).length=3#8:=by simp[tups]
 rw[hlen]at el;refine⟨tabS S4 ls.length (λi j=>nbr ls (T (xf ls i) (xf ls j))) 3#8,bM (G:= [0#9,7#2,some (.ref 8#0),some (.ref S3.length)]) rfl ?_,(((x1.trans x2).trans x3).trans x4).trans DS⟩;refine(aF ((gF (not_eq (of_eq (bY 0#0 0#0 e1)))).trans rfl)).trans ((aF (bo e3)).trans ((aF (bo (bY 0#0 0#0 e4))).trans (bU ?_)));refine vQ el rfl λf=>FA (az sl.len 0#1) (λi j S' x hi hj=>?_) f;have hc3:=(x4.trans x).some h3;have hd4:=x.some h4;have am:=XR i hi _ (YW i hi);have bm:=XR j hj _ (YW j hj);have hv:=BX sd (g.cl _ _ am bm) _ 1#6;rw[if_pos (sd.nb (g.cl _ _ am bm)).1]at hv;show m2 _ 1#3 _ [some _,some _,some _,some _,some _] S'=_;exact OR 0#0 (il bm (ig am 0#0 (mK 0#0 0#0 hc3 (gq (hh i hi)))) (mK 0#0 0#0 hc3 (gq (hh j hj)))) hd4 hv
theorem Ly(sb:Sbg m T part)(g:Grp m T)(hm:m<64)(hl:9#6<64)(Xt:aZ m T part true≠aZ m T part false):fo 12#8 S=none /\ ∃S',iG 12#8 S=some (1,S')/\Ex S S':=by
 obtain⟨S1,e1,x1⟩:=yX g hm hl sb.lt;rw[decide_eq_false Xt]at e1;have c:=not_eq (of_eq (bY (G:= [some _,some _,none,none]) (a:=ae 0) (b:=ae 1) 0#0 0#0 e1));exact⟨BO (Ck ((iJ c).trans rfl)),S1,zC rfl (AD ((M0 c).trans (AD rfl))),x1⟩
def laU:U->Nat
 | .tup us=>(match us.getLastD .non with
   |.int i=>i.toNat
   | _=>0)
 |_=>0
theorem GC(h:ls.getD i []≠[]):laU 20#6=pd ls i:=by
 unfold pd;generalize ls.getD i []=l at h ⊢;have e:(aj l).getLastD .non=.int (l.getLastD 0):=by
  rw[ix,ix,aj,List.getLast?_map,ki h];rfl
 show(match (aj l).getLastD _ with
  |.int i=>i.toNat
  | _=>0)=_
 rw[e];rfl
variable{G:Rho}
theorem Mt{S1:Sto}{a:ME}{l:List Nat}(ha:a G S=some (.tup (aj l),S1))(h:l≠[]):m2 oIx a 5#7 G S=some (.int (l.getLastD 0:Nat),S1):=by
 refine Ff ha Aw ?_;have hl:=tN.mpr h;have e:ixN (aj l).length (-1)=some (2#8-1):=by
  rw[bf];unfold ixN
  grind
 unfold atI;rw[e];simp only[ah];rw[aj,bE,<-List.getLast?_eq_getElem?,ix,ki h];rfl
theorem Lb(sb:Sbg m T part)(g:Grp m T)(hm:m<64)(hl:9#6<64){r:Nat}(hr:S[r]?=some (.lst (tups 12#0))):∃S',pR [tab m T,.ref r] S=some (tab (aZ m T part true).length (λi j=>nbr 12#0 (T (pd 12#0 i) (pd 12#0 j))),S')/\Ex S S':=by
 have sl:=rX (left:=true) g hm hl sb.lt;have sd:=fB (b:=true) sb g;have YW:=λi hi=>Cb (i:=i) sb g hi;have ZI:=λi hi=>ur (i:=i) sb g hi;have XR:=λi hi=>(λx hx=>(gU (b:=true) (i:=i) sb g hi (x:=x) hx).1);generalize hls:aZ m T _ _=ls at *;have YS:=sl.len;have Yd:=(af.mp hr).1;have hu:(tups ls).length=3#8:=by simp[tups]
 obtain⟨Y2,S1,e1,⟨x,rfl⟩,x1,h1,_⟩:=o5 (i:=3) (e:=ae 1) 0#0 (by rw[hu];exact az YS 0#1)
  (λk G S'=>(∃x,G=[0#9,10#6,2#2,x])/\Ex S S'/\S'[0#3]?=some (.lst ((aA k).map _))/\S'[r]?=some _) ⟨⟨_,rfl⟩,Ex.push _ _,aX _ _,(Ex.push _ _).some hr⟩
  (λk G S' h=>by unfold getL;rw[h.2.2.2]) (by
   rintro k u G S' hk ⟨⟨x,rfl⟩,xx,hf,hs⟩;have YK:=by have:=(af.mp hk).1;rwa[hu]at this
   rw[jO YK]at hk;cases hk;have am:=XR k YK _ (YW k YK)
   obtain⟨S2,e2,x2,ZH⟩:=uP (e:=mFn _ (aa 1#0 (aa (m2 _ (m2 _ 0#4 (m2 _ 0#8 _)) (m2 _ 1#3 _)) _))) (G:= [some _,some _,some (.ref S.length),some _]) (f:=λu => .int (nbr ls (T _ (laU u)):Nat)) (λS2=>Ex S' S2/\S2[r]? = some _) (λS2 h=>by unfold getL;rw[h.2]) (by
    rintro u hu' S2 ⟨x2,ZH⟩;obtain⟨j,hj,e⟩:=JT.mp hu';have XQ:j<3#8:=by rwa[hu]at hj
    have:=jO XQ;rw[aI hj,e]at this;cases this;have bm:=XR j XQ _ (YW j XQ);obtain⟨S3,e3,x3⟩:=Nc ZH sd (g.cl _ _ am bm) (az YS 0#1);refine⟨S3,?_,x2.trans x3,x3.some ZH⟩;rw[GC (ZI j XQ)]
    exact bY (var_eq rfl) (il bm (ig am (var_eq rfl) (Mt (var_eq rfl) (ZI k YK))) (Mt (var_eq rfl) (ZI j XQ))) e3) fuel 0 [] S' (dB _) (by rw[hu];exact az (aB (gc _ _) YS) (by decide)) ⟨Ex.refl _,hs⟩
   rw[rJ,dv]at e2;have V2:(tups ls).map (λu=>U.int (nbr ls (T (pd ls k) (laU u))))=(aA 3#8).map λj=>U.int (nbr ls (T (pd ls k) (pd ls j))):=by
    apply mM;intro j;rw[bE,bE];by_cases hj:j<3#8
    .rw[jO hj,tJ hj,aN,aN,GC (ZI j hj)]
    simp_all
   rw[V2]at e2;have e3:bL 5#9 cTT (mFn ft (aa 1#0 (aa (m2 oIx (m2 oIx 0#4 (m2 oIx 0#8 5#7)) (m2 oIx 1#3 5#7)) ag))) 29#5 S'=some (.ref 8#0,S2++[.lst ((aA 3#8).map λj=>U.int (nbr ls (T (pd ls k) (pd ls j))))]):=by
    have hi:bZ 1#0 29#5 S'=some (.mut r,S'):=by
     have v:ae 1 29#5 S'=some _:=rfl;simp only[bZ,v,aw,getL,hs,aN]
    simp only[bL,hi,aw,vW,e2];rw[if_pos (by rw[ay,br];exact az YS 0#1)]
   have e4:=append_eq (o:=ae 2) 0#0 (eB e3) hf ((x2.trans 2#6).some hf) (by rw[ay,br];exact az (aB (aV YK) YS) 0#1);have ZR:0#3<(S2++[Cell.lst ((aA 3#8).map λj=>U.int (nbr ls (T (pd ls k) (pd ls j))))]).length:=(af.mp ((x2.trans 2#6).some hf)).1;refine⟨_,_,e4,⟨_,rfl⟩,((xx.trans x2).trans 2#6).set 1#6,?_,?_⟩
   .rw[aM ZR,eA,cQ]
    rfl
   .rw[aD (cJ Yd)]
    exact(Ex.push _ _).some ZH)
 rw[hu]at h1;exact⟨S1,bM rfl ((aF (bo eM)).trans ((aF e1).trans (bU (je 0#0 h1)))),x1⟩
theorem DW{S S1 S2:Sto}{a b:ME}{n k:Nat}{x y:List (List Nat)}(ha:a G S=some (.ref n,S1))(hb:b G S1=some (.ref k,S2))(hn:S2[n]?=some (Cell.lst (tups x)))(hk:S2[k]?=some (Cell.lst (tups y))):m2 oNe a b G S=some (.bl (!decide (x=y)),S2):=by
 refine op2 ha hb ?_;simp[oNe,_G.eqU,qy hn,qy hk,dj,we]
end
end
section
open _L _G
section
variable {m:Nat}{T:Nat->Nat->Nat}{P Wd:List Nat}
abbrev Lv(m:Nat)(T:Nat->Nat->Nat)(P:List Nat):Prop:=aZ m T P true=aZ m T P false
variable{b:Bool}{s:List Nat}
theorem vB(hs:s∈aZ m T P b):s.length=P.length:=by
 obtain⟨i,_,rfl⟩:=i8 hs;rw[kA];simp[d4]
theorem Kr(g:Grp m T)(ZV:∀x∈P,x<m)(nd:P.Nodup){x:Nat}(hx:x<m):(d4 T P b x).Nodup:=by
 unfold d4;rw[bT,jn];refine km ?_ (bT.mp nd);intro u v hu hv ZI e;cases b with
 |true=>exact ZI (g.cancel hx (ZV u hu) (ZV v hv) e)
 |false=>exact ZI (g.cancelR hx (ZV u hu) (ZV v hv) e)
theorem JW(h:Sbg m T P)(g:Grp m T)(nd:P.Nodup)(hs:s∈aZ m T P b):s.Nodup:=by
 obtain⟨i,hi,rfl⟩:=i8 hs;exact(lE _).nodup_iff.mpr (Kr g h.lt nd hi)
variable{x:Nat}
theorem J6(h:Sbg m T P)(g:Grp m T)(hs:s∈aZ m T P b)(hx:x∈s):x<m:=by
 obtain⟨i,hi,rfl⟩:=i8 hs;exact(Cg h g hi (eD.mp hx)).1
theorem Hu(h:Sbg m T P)(g:Grp m T)(nd:P.Nodup):(aZ m T P b).flatten.Perm (aA m):=by
 have sd:=fB (b:=b) h g;refine Dd ?_ List.nodup_range λx=>?_
 .rw[bT,List.pairwise_flatten]
  refine⟨λs hs=>bT.mp (JW h g nd hs),sd.dis.imp ?_⟩
  grind
 .rw[List.mem_flatten,cq]
  constructor
  .rintro ⟨s,hs,hx⟩;exact J6 h g hs hx
  .intro hx;exact sd.cov x hx
theorem DH{k:Nat}:∀(ls:List 7#9),(∀s∈ls,s.length=k)->ls.flatten.length=3#8*k
 |[],_=>by simp
 | s::ls,h=>by
   rw[List.flatten_cons,aQ,DH ls λt ht=>h t (aE _ ht),h s 0#6,bB,lM,qc]
theorem ym(h:Sbg m T P)(g:Grp m T)(nd:P.Nodup):(aZ m T P b).length*P.length=m:=by
 rw[<-DH _ λs hs=>vB hs,(Hu h g nd).length_eq,br]
theorem Dt(h:Sbg m T P):0<P.length:=List.length_pos_of_mem h.z
theorem Np(g:Grp m T)(ZV:∀x∈P,x<m):d4 T P b 0=P:=by
 conv=>rhs;rw[<-JS P]
 apply bO;intro x hx;cases b with
 |true=>exact g.l0 x (ZV x hx)
 |false=>exact g.r0 x (ZV x hx)
theorem Qq(h:Sbg m T P)(g:Grp m T)(hP:P.Pairwise (· < ·)):(sdF (d4 T P b) 1).1=[P]:=by
 show(if 0∈[] then([],[]) else([]++[srt _],[]++d4 T P b 0)).1=_;rw[Np g h.lt,CD hP];rfl
theorem yi{r:Nat->List Nat}{s:List Nat}:∀k,1<=k->(sdF r 1).1=[s]->∃l,(sdF r k).1=s::l
 |0,h,_=>by omega
 |1,_,e=>⟨[],e⟩
 | k+2,_,e=>by
   obtain⟨l,hl⟩:=yi (k+1) 0#2 e;rw[sdF]
   split<;>simp_all
theorem wD(h:Sbg m T P)(g:Grp m T)(hP:P.Pairwise (· < ·)):∃l,aZ m T P b=P::l:=yi m g.pos (Qq h g hP)
theorem QF(h:Sbg m T P)(g:Grp m T)(hP:P.Pairwise (· < ·))(hx:x<m):nbr (aZ m T P b) x=0↔x∈P:=by
 obtain⟨l,hl⟩:=wD h g hP;have sd:=fB (b:=b) h g;have e0:(aZ m T P b).getD 0 []=P:=by rw[hl];rfl
 constructor
 .intro e
  have:=(sd.nb hx).2;rw[e,e0]at this;omega
 .intro hxP
  exact sd.nb_of hx (by rw[hl];simp) (by rw[e0];omega)
abbrev ldL(m:Nat)(T:Nat->Nat->Nat)(P:List Nat)(i:Nat):Nat:=((aZ m T P true).getD i []).headD 0
def resT(m:Nat)(T:Nat->Nat->Nat)(P:List Nat)(i j:Nat):Nat:=nbr 6#1 (T (ldL m T P i) (ldL m T P j))
variable{i:Nat}
theorem nK(h:Sbg m T P)(hi:i<(aZ m T P true).length):ldL m T P i∈(aZ m T P true).getD i []:=by
 have e:(aZ m T P true).getD i []=(aZ m T P _)[i]:=by simp_all
 have hl:=vB (bW hi);have:=Dt h;unfold ldL;rw[e];cases q:(aZ m T P _)[i]<;>grind
theorem Ei(h:Sbg m T P)(g:Grp m T)(hi:i<(aZ m T P true).length):ldL m T P i<m:=(gU h g hi (nK h hi)).1
theorem TX(h:Sbg m T P)(g:Grp m T)(hi:i<(aZ m T P true).length):nbr 6#1 (ldL m T P i)=i:=
 (fB h g).nb_of (Ei h g hi) hi (nK h hi)
theorem jL(h:Sbg m T P)(g:Grp m T)(lv:Lv m T P){y:Nat}(hx:x<m)(hy:y<m):nbr 6#1 (T x y)=resT m T P (nbr 6#1 x) (nbr 6#1 y):=by
 have sd:=fB (b:=true) h g;obtain⟨a1,a2⟩:=sd.nb hx;obtain⟨b1,b2⟩:=sd.nb hy;exact AX h g lv a1 b1 a2 b2 (nK h a1) (nK h b1)
theorem Dc(h:Sbg m T P)(g:Grp m T)(hP:P.Pairwise (· < ·))(lv:Lv m T P):Grp (aZ m T P true).length (resT m T P):=by
 have sd:=fB (b:=true) h g;have WJ:∀i,i<(aZ m T P _).length->∃x,x<m/\nbr _ x=i:=λi hi=>⟨_,Ei h g hi,TX h g hi⟩;have z0:nbr 6#1 0=0:=(QF h g hP g.pos).mpr h.z;refine⟨?_,λi j hi hj=>?_,λi hi=>?_,λi hi=>?_,λi hi=>?_,λi j k hi hj hk=>?_⟩
 .have:=(sd.nb g.pos).1;omega
 .exact(sd.nb (g.cl _ _ (Ei h g hi) (Ei h g hj))).1
 .obtain⟨x,hx,rfl⟩:=WJ i hi
  have:=jL h g lv g.pos hx;rw[z0,g.l0 x hx]at this;exact this.symm
 .obtain⟨x,hx,rfl⟩:=WJ i hi
  have:=jL h g lv hx g.pos;rw[z0,g.r0 x hx]at this;exact this.symm
 .obtain⟨x,hx,rfl⟩:=WJ i hi
  obtain⟨y,hy,e1,e2⟩:=g.inv x hx;refine⟨_,(sd.nb hy).1,?_,?_⟩
  .rw[<-jL h g lv hx hy,e1,z0]
  .rw[<-jL h g lv hy hx,e2,z0]
 .obtain⟨x,hx,rfl⟩:=WJ i hi
  obtain⟨y,hy,rfl⟩:=WJ j hj;obtain⟨z,hz,rfl⟩:=WJ k hk;rw[<-jL h g lv hx hy,<-jL h g lv (g.cl _ _ hx hy) hz,<-jL h g lv hy hz,<-jL h g lv hx (g.cl _ _ hy hz),g.as x y z hx hy hz]
end
section
variable {m:Nat}{T:Nat->Nat->Nat}{P:List Nat}{S:Sto}
structure Prl(m:Nat)(T:Nat->Nat->Nat)(P:List Nat):Prop where
 g:Grp m T
 hm:m<=24
 sb:Sbg m T P
 pw:P.Pairwise (· < ·)
theorem Prl.nd(p:Prl m T P):P.Nodup:=bT.mpr (p.pw.imp λh=>aS h)
theorem Prl.len(p:Prl m T P):P.length<=24:=aB (sg m P p.nd p.sb.lt) p.hm
theorem OM{w:List Nat}(g:Grp m T)(hm:m<=24)(hw:∀x∈w,x<m):∃P S',Ct [tab m T,.tup (aj w)] S=some (.tup (aj P),S')/\Ex S S'/\Prl m T P /\ ∀x,x∈P↔Rch T w x:=by
 obtain⟨ks,S1,e1,x1,d⟩:=Ri g 0#2 hw;exact⟨_,S1,e1,x1,⟨g,hm,d.sbg g hw,Iy d.nd⟩,λx=>by rw[eD,d.all]⟩
end
end
section
open _L _G
section
variable {m:Nat}{T:Nat->Nat->Nat}{P w:List Nat}{S:Sto}
abbrev nbS(m:Nat)(T:Nat->Nat->Nat)(P:List Nat):Nat->Nat:=nbr 6#1
abbrev mnS(m:Nat)(T:Nat->Nat->Nat)(P:List Nat):Nat:=(aZ m T P true).length
theorem AY(p:Prl m T P)(lv:Lv m T P):∀(w:List Nat) (x:Nat),x<m->Lt m w->(w.map (nbS m T P)).foldl (resT m T P) (nbS m T P x)=nbS m T P (w.foldl T x)
 |[],x,_,_=>rfl
 | y::w,x,hx,hw=>by
   have hy:=hw y 0#6;show(w.map _).foldl _ _=_;rw[<-jL p.sb p.g lv hx hy];exact AY p lv w _ (p.g.cl x y hx hy) λz hz=>hw z (aE _ hz)
theorem nb0(p:Prl m T P):nbS m T P 0=0:=(QF p.sb p.g p.pw p.g.pos).mpr p.sb.z
theorem Ai(p:Prl m T P)(lv:Lv m T P)(hw:Lt m w):eR (resT m T P) (w.map (nbS m T P))=nbS m T P (eR T w):=by
 have:=AY p lv w 0 p.g.pos hw;rwa[nb0 p]at this
theorem LB(p:Prl m T P)(lv:Lv m T P)(hw:Lt m w):pre (resT m T P) (w.map (nbS m T P))=(pre T w).map (nbS m T P):=by
 unfold pre;rw[ay,eG];refine bO λk _=>?_;rw[<-ua];exact Ai p lv (hw.tk k)
theorem RT(p:Prl m T P){x:Nat}(hx:x<m):nbS m T P x<mnS m T P:=((fB p.sb p.g).nb hx).1
theorem Pb(p:Prl m T P)(hw:Lt m w):Lt (mnS m T P) (w.map (nbS m T P)):=λx hx=>by
 obtain⟨y,hy,rfl⟩:=aU.mp hx;exact RT p (hw y hy)
theorem uF(p:Prl m T P):1<=mnS m T P/\mnS m T P<=m:=by
 have h1:=ym (b:=true) p.sb p.g p.nd;have h2:=Dt p.sb;have h3:=p.g.pos;refine⟨?_,?_⟩
 .grind
 .have:mnS m T P*1<=mnS m T P*P.length:=ly _ h2
  grind
def spn(T:Nat->Nat->Nat)(P:List Nat)(c:Nat):Prop:= ∀x,x∈P↔Rch T [c] x
instance(T:Nat->Nat->Nat)(P:List Nat)(c:Nat):Decidable (spn T P c):=cj _
def okL(m:Nat)(T:Nat->Nat->Nat)(P w:List Nat):Bool:= !decide (0∈w)&&((decide (nbS m T P (eR T w)=0)&&decide (srt 18#2=aA (mnS m T P)))&&decide (spn T P (eR T w)))
theorem zx(h:okL m T P w=true):3#3=mnS m T P/\0∉w:=by
 unfold okL at h;simp at h;have:=congrArg zG h.2.1.2;rw[kA,ay,yF]at this
 simp_all
theorem z5(p:Prl m T P){Q:List Nat}{c:Nat}(q:Prl m T Q)(h:∀x,x∈Q↔Rch T [c] x):decide (Q=P)=decide (spn T P c):=by
 rw[decide_eq_decide];constructor
 .rintro rfl;exact h
 .intro z
  exact PY q.pw p.pw λx=>(h x).trans (z x).symm
variable{r:Nat}{v:List Nat}
theorem NG(g:Grp m T)(hw:Lt m v)(hl:v.length<1000)(hr:S[r]?=some (.lst (aj v))):∃S',vS [tab m T,.ref r] S=some (.tup (aj (plc T v)),S')/\Ex S S':=by
 have hone:bA (aa 1#9 _) [0#9,10#6,none,none] S=some _:=rm rfl;have Yd:=(af.mp hr).1;obtain⟨Y2,S1,e1,⟨x,rfl⟩,q1,q2,_⟩:=o5 (i:=3) (b:=di (mML _ 0#5 _)) (e:=ae 1)
  (S:=S++14#0) (us:=aj v) 0#0 (by rw[bf];omega)
  (λk G S'=>(∃x,G=[0#9,10#6,2#2,x])/\Ex S S'/\S'[0#3]?=some (Cell.lst (aj ((aA (k+1)).map λi=>eR T (v.take i))))/\S'[r]?=some _)
  ⟨⟨_,rfl⟩,Ex.push _ _,by rw[aX];simp[aj,eR],(Ex.push _ _).some hr⟩ (λk G S' h=>by unfold getL;rw[h.2.2.2])
  (by
   rintro k u G S' hu ⟨⟨x,rfl⟩,q1,q2,q3⟩;obtain⟨y,hy,rfl⟩:=gM hu;have YB:=hw y (bu hy);have YM:=AU g (hw.tk k);have Wh:atI (aj ((aA (k+1)).map λi=>eR T (v.take i))) (-1)=some (.int (eR T (v.take k))):=by
    unfold aj;rw[eG];exact Hv
   have ev:m2 _ (m2 _ 0#4 (m2 _ 0#5 _)) 0#8 [0#9,10#6,some _,some _] S'=some _:=
    il YB (ig YM 0#0 (mK 0#0 Aw q2 Wh)) 0#0
   have YK:=(af.mp hy).1;refine⟨_,_,append_eq 0#0 ev q2 q2 (by simp[aj];unfold big;omega),⟨_,rfl⟩,q1.set 1#6,?_,?_⟩
   .rw[aM (af.mp q2).1]
    rw[eA (n:=k+1)];simp[aj,xQ hy]
   ·rw[aD (by omega)];omega)
 rw[bf]at q2;refine⟨S1,bM (G:= [0#9,10#6,2#2,x]) rfl ?_,q1⟩;exact(aF (bo hone)).trans ((aF e1).trans (bU (je 0#0 q2)))
variable{l:List Nat}
theorem Tj(hm:m<1000)(hl:2#8<64):∃S',iR [tab m T,.tup (aj l)] S=some (.bl (decide (srt l=aA m)),S')/\Ex S S':=P1 hm hl
theorem OV(g:Grp m T)(hm:m<1000)(hw:Lt m v)(hl:v.length<64)(hr:S[r]?=some (.lst (aj v))):∃S',kR [tab m T,.ref r] S=some (.bl (decide (eR T v=0)&&decide (srt (pre T v)=aA m)),S')/\Ex S S':=by
 obtain⟨S1,e1,x1⟩:=NG g hw 0#2 hr;obtain⟨S2,e2,x2⟩:=Tj (l:=pre T v) hm (by rw[yF];omega);have h1:m2 _ (m2 _ 0#5 _) _ [0#9,10#6,some (.tup (aj (plc T v)))] S1=some _:=P4 (y:=0) (Ff 0#0 Aw (GZ trivial)) c_i;have h2:mFn _ (aa 0#4 (aa (mSl 0#5 _ _) _)) [some _,10#6,some _] S1=some _:=bY 0#0 (J8 (by rw[<-ub];exact var_eq rfl)) e2;obtain⟨S',e,x⟩:=BN h1 h2 (Ex.refl _) x2;refine⟨S',bM (G:= [0#9,10#6,some (.tup (aj (plc T v)))]) rfl ?_,x1.trans x⟩;exact(aF (bo (bY 0#0 0#0 e1))).trans (bU e)
theorem Mq{n:Nat}(hl:3#3<10000000):∃S',gI [.tup (aj w),.int (n:Nat)] S=some (.bl (w.all λx=>decide (x<n)),S')/\Ex S S':=NQ hl
theorem U1(g:Grp m T)(hw:Lt m w):zj [tab m T,.tup (aj w)] S=some (.int (eR T w),S):=DR g hw
theorem MQ(g:Grp m T)(hw:Lt m w):fY [tab m T,.tup (aj w)] S=some (.int (eR T w),S):=DR g hw
theorem rest_eq:(λi j=>nbr 6#1 (T (xf 6#1 i) (xf 6#1 j)))=resT m T P:=rfl
theorem RX(hw:Lt m w)(hl:3#3<64)(hz:0∈w){v1 v2:U}:∃S',eO [tab m T,v1,v2,.tup (aj w)] S=some (.bl false,S')/\Ex S S':=by
 obtain⟨S1,e1,x1⟩:=Mq (w:=w) 0#2;have ZG:=bH.mpr λx hx=>decide_eq_true (hw x hx);rw[ZG]at e1;have c1:=not_eq (of_eq (bY (G:= [0#9,some v1,some v2,some _,none]) (a:=ae 3) (b:=mFn _ (aa 0#4 _)) 0#0 9#5 e1));have c2:=RE (G:= [0#9,some v1,some v2,some _,none]) (S:=S1) (b:=ae 3) (x:=0) (l:=w) c_i 0#0;rw[decide_eq_true hz]at c2;have c3:=or_eq c1 c2 15#8;exact⟨S1,bM rfl (jz ((iJ c3).trans (bU rfl))),x1⟩
theorem M2(p:Prl m T P)(lv:Lv m T P)(hw:Lt m w)(hl:3#3<64):∃S',eO [tab m T,.tup (aj P),tab (mnS m T P) (resT m T P),.tup (aj w)] S=some (.bl (okL m T P w),S')/\Ex S S':=by
 by_cases hz:0∈w
 .have:okL m T P w=false:=by unfold okL;simp_all
  rw[this];exact RX hw hl hz
 have hm:=p.hm;have YG:=p.len;obtain⟨S1,e1,x1⟩:=Mq (w:=w) 0#2;have ZG:=bH.mpr λx hx=>decide_eq_true (hw x hx);rw[ZG]at e1;have c1:=not_eq (of_eq (bY (G:= [0#9,4#8,17#8,some _,none]) (a:=ae 3) (b:=mFn _ (aa 0#4 _)) 0#0 9#5 e1));have c2:=RE (G:= [0#9,4#8,17#8,some _,none]) (S:=S1) (b:=ae 3) (x:=0) (l:=w) c_i 0#0;rw[decide_eq_false hz]at c2;have c3:=_W.or_false c1 c2;obtain⟨S2,e2,x2,h2⟩:=GY p.g 0#2 0#2 p.sb.lt;have f2:=bo (i:=4) (bY (G:= [some _,some _,17#8,some 4#2,none]) (a:=ae 0) (b:=ae 1) 0#0 0#0 e2);have sd:=fB (b:=true) p.sb p.g
 have f3:=uN (e:=m2 _ 1#3 2#1) (G:= [0#9,4#8,17#8,some _,some _]) (a:=ae 3) (l:=w) 0#0 0#2 (λx hx=>by
  have hv:=BX sd (hw x hx) _ 1#6;rw[if_pos (sd.nb (hw x hx)).1]at hv
  exact OR (var_eq rfl) (var_eq rfl) h2 hv)
 rw[show(w.map _)=aj (w.map (nbS m T P)) by simp[aj]]at f3;have gr:=Dc p.sb p.g p.pw lv;have Xr:=uF p;obtain⟨S4,e4,x4⟩:=OV gr (by grind) (Pb p hw) 12#3 6#0;rw[Ai p lv hw,LB p lv hw]at e4;have k1:=bY (a:=ae 2) 0#0 f3 e4;have hc:=AU p.g hw;obtain⟨Q,S5,e5,x5,q,hq⟩:=OM p.g p.hm (λx hx=>by rw[be.mp hx];omega);have k2:=RM (G:= [some _,some _,17#8,some _,some (.ref 4#4)]) (y:=P) (bY (a:=ae 0) 0#0 (l6 (bY (a:=ae 0) (b:=ae 3) 0#0 0#0 (U1 p.g hw))) e5) (b:=ae 1) 0#0;rw[z5 p q hq]at k2;obtain⟨S6,e6,x6⟩:=BN k1 k2 ((Ex.push _ _).trans x4) x5;refine⟨S6,bM (G:= [0#9,4#8,17#8,some 4#2,some (.ref 4#4)]) rfl ?_,(x1.trans x2).trans x6⟩;refine(aF ((gF c3).trans rfl)).trans ((aF f2).trans (bU ?_));unfold okL;rw[decide_eq_false hz];exact e6
def Co(w:List Nat)(k:Nat):List Nat:=(aP k w).flatten
theorem UK{k:Nat}:(aP k (aj w)).flatten=aj (Co w k):=by
 unfold Co aj
 simp_all
variable{G:Rho}{S1:Sto}
theorem Ms{S S2:Sto}{a b:ME}{k:Nat}(ha:a G S=some (.tup (aj w),S1))(hb:b G S1=some (.int (k:Nat),S2))(hk:k<1000)(h1:0<3#3)(h2:3#3<1000):m2 fW a b G S=some (.tup (aj (Co w k)),S2):=by
 refine op2 ha hb ?_;have h:Dw (aj w).length k:=⟨by simp_all,by omega,by rw[bf];omega,by rw[bf];omega⟩;simp[fW,if_pos h,UK]
theorem K6(p:Prl m T P)(lv:Lv m T P)(hw:Lt m w)(hl:3#3<64)(h:okL m T P w=true):∃S',iC 23#0 S=some (.tup (aj (Co w P.length)),S')/\Ex S S':=by
 have hm:=p.hm;have YG:=p.len;obtain⟨S1,e1,x1⟩:=HS p.sb p.g 0#2 0#2 lv;obtain⟨S2,e2,x2⟩:=M2 p lv hw hl;rw[h]at e2;have Xr:=uF p;have YC:=(zx h).1;have f1:=bo (i:=3) (bY (G:= [some _,some _,some 4#2,none]) (a:=ae 0) (b:=ae 1) 0#0 0#0 e1);have c2:=not_eq (of_eq (MR (G:= [some _,some _,some _,some _]) (a:=ae 0) (b:=ae 1) (c:=ae 3) (d:=ae 2) 0#0 0#0 0#0 0#0 e2));have f3:=Ms (G:= [0#9,4#8,some _,17#8]) (S:=S2) (a:=ae 2) (b:=mFn _ (aa 1#0 _)) (w:=w) 0#0 (by rw[sR 0#0,bf]) 0#2 0#2 0#2;exact⟨S2,bM rfl ((aF f1).trans ((aF ((gF c2).trans rfl)).trans (bU f3))),x1.trans x2⟩
variable{u:U}
theorem Bb(p:Prl m T P)(lv: ¬Lv m T P):iC 10#5 S=none /\ ∃S',lH 10#5 S=some (1,S')/\Ex S S':=by
 have hm:=p.hm;have YG:=p.len;obtain⟨e0,S1,e1,x1⟩:=Ly p.sb p.g 0#2 0#2 lv;have f0:bq 3 (mFn fo 5#6) [0#9,4#8,some u,none] S=none:=by
  have:=bY (G:= [some _,some _,some u,none]) (S:=S) (a:=ae 0) (b:=ae 1) 0#0 0#0 e0;simp[bq,this];rfl
 refine⟨BO (Ck f0),S1,zC rfl (AD (Tq (r:=iG) 0#0 0#0 e1)),x1⟩
theorem Rr{v:U}(p:Prl m T P)(lv:Lv m T P):iG [tab m T,.tup (aj P)] S=none:=by
 have hm:=p.hm;have YG:=p.len;obtain⟨S1,e1,x1⟩:=yX p.g 0#2 0#2 p.sb.lt;rw[decide_eq_true lv]at e1;have c:=not_eq (of_eq (bY (G:= [some _,some _,none,none]) (a:=ae 0) (b:=ae 1) 0#0 0#0 e1));have h1:xIf _ (rC (su 1) sNo xNo) xNo _ S=none:=(Q1 c).trans rfl;exact(M7 h1 ((gF c).trans rfl)).trans rfl
theorem Ab(p:Prl m T P)(lv:Lv m T P)(h:∀S1,Ex S S1->∃S',eO [tab m T,.tup (aj P),tab (mnS m T P) (resT m T P),u] S1=some (.bl false,S')/\Ex S1 S'):iC 10#5 S=none /\ ∃S',lH 10#5 S=some (2,S')/\Ex S S':=by
 have hm:=p.hm;have YG:=p.len;obtain⟨S1,e1,x1⟩:=HS p.sb p.g 0#2 0#2 lv;obtain⟨S2,e2,x2⟩:=h S1 x1;have f1:=bo (i:=3) (bY (G:= [some _,some _,some u,none]) (a:=ae 0) (b:=ae 1) 0#0 0#0 e1);have c2:=not_eq (of_eq (MR (G:= [some _,some _,some u,some _]) (a:=ae 0) (b:=ae 1) (c:=ae 3) (d:=ae 2) 0#0 0#0 0#0 0#0 e2));refine⟨BO ((aF f1).trans (Ck ((iJ c2).trans rfl))),S2,zC rfl ((M7 (Tq 0#0 0#0 (Rr (v:=u) p lv)) f1).trans (AD ((M0 c2).trans (AD rfl)))),x1.trans x2⟩
def Ans(S:Sto):List Nat ⊕ Nat->U->Prop
 |.inl l,u=>u=.tup (aj l)
 |.inr q,u=>∃r,u=.ref r/\S[r]?=some (.lst (aj [q]))
variable{a:List Nat ⊕ Nat}
theorem Ans.ex{S S':Sto}(h:Ans S a u)(x:Ex S S'):Ans S' a u:=by
 cases a with
 |inl l=>exact h
 |inr q=>obtain⟨r,e,hr⟩:=h;exact⟨r,e,x.some hr⟩
def RZ:List Nat ⊕ Nat->Prop
 |.inl l=>(∀x∈l,x<1000)/\2#8<=1000
 |.inr q=>q<1000
theorem Iz{v:U}(hu:Ans S a u)(hv:Ans S a v)(h:RZ a):jZ [u,v] S=some (.bl true,S):=by
 cases a with
 | inl l=>
   cases (hu);cases (hv);exact GT h.1 h.2
 | inr q=>
   obtain⟨r,rfl,hr⟩:=hu;obtain⟨r',rfl,Zs⟩:=hv;have hq:q<1000:=h;have hi:(q:Int).natAbs<10^12:=by rw[wJ];omega
   have pl:Pl _:= .lst _ λd hd=>by
    rw[be.mp hd];exact .int _ hi
   refine IW (qO hr) (qO Zs) pl (pl.ok ?_ ?_)
   .simp[By,iL]
   .have:=ve hi
    simp[PySem.PyData.weight,PySem.PyData.weightAll]at this ⊢;omega
variable{o:ME}{row:List U}
theorem QL{S:Sto}{a:ME}(ho:o G S=some (.ref r,S))(ha:a G S=some (u,S1))(hr:S[r]?=some 14#5)(Z':S1[r]?=some 14#5)(hl:row.length<big):mML bJ o 3#4 G S=some (.non,S1.set r (.lst (row++[u]))):=by
 simp only[mML,ho,aw,getL,hr,ah,aa,ag,ha,bJ,Z'];rw[if_pos hl]
theorem Oi{S:Sto}{a:ME}(ho:o G S=some (.ref r,S))(ha:a G S=none)(hr:S[r]?=some 14#5):mML bJ o 3#4 G S=none:=by
 simp[mML,ho,aw,getL,hr,aa,ha];rfl
theorem NA{S:Sto}{x:MX}(ho:o G S=some (.ref r,S))(hr:S[r]?=some 14#5):xML o x G S=x G S:=by
 simp[xML,ho,aw,getL,hr]
def llM:ME:=mML bJ 0#4 (aa (mFn iC (aa 1#0 (aa 0#5 12#4))) ag)
def llX:MX:=xML 0#4 (xFn lH (aa 1#0 (aa 0#5 12#4)))
def llE:ME:=tS (cOf (m2 o9 1#3 (mC .non))) 1#3 (m2 oIx 0#8 1#9)
theorem Ie{v w:U}{S0:Sto}(e1:j9 [1,2] [3,0,1,2] llM llX [0#9,4#8,some u,2#2,none] (S++[.lst []])=some (v,S0))(e2:llE [0#9,4#8,some u,2#2,some v] S0=some (w,S1)):eh 10#5 S=some (w,S1):=
 bM rfl ((aF (bo eM)).trans ((aF (bo e1)).trans (bU e2)))
theorem QG(h:∀S,∃S',iC 10#5 S=some (.tup (aj l),S')/\Ex S S'):∃v S',eh 10#5 S=some (v,S')/\Ex S S'/\Ans S' (.inl l) v:=by
 have q0:(S++2#3)[0#3]?=some _:=aX _ _;have x0:Ex S (S++2#3):=Ex.push _ _;have fin:=λv w S0 S1=>Ie (m:=m) (T:=T) (P:=P) (S:=S) (u:=u) (v:=v) (w:=w) (S0:=S0) (S1:=S1);generalize S++2#3=S0 at q0 x0 fin;obtain⟨S1,e1,x1⟩:=h S0;have q1:=x1.some q0;have e2:llM [some _,some _,some _,some u] S0=some _:=QL 0#0 (jW 0#0 0#0 0#0 e1) q0 q1 0#1;have ZR:=(af.mp q1).1;have q2:(S1.set S.length (.lst ([]++[.tup (aj l)])))[0#3]?=some (.lst [.tup (aj l)]):=by
  simp_all
 have x2:Ex S (S1.set _ (.lst ([]++[.tup (aj l)]))):=(x0.trans x1).set 1#6;generalize S1.set _ _=S2 at e2 q2 x2;have e3:j9 [1,2] [3,0,1,2] _ llX [some _,some _,some u,some _,none] S0=some _:=Jn rfl e2;have x3:=Ln S2 λ_=>false;have q3:=x3.some q2;generalize (S2++iy _)=S3 at e3 x3 q3;have c4:cOf (m2 o9 1#3 (mC .non)) [0#9,4#8,some u,2#2,some .non] S3=some _:=of_eq (op2 0#0 rfl rfl);have e5:llE [0#9,4#8,some u,2#2,some .non] S3=some (.tup (aj l),S3):=by
  simp only[llE,tS,c4,aw];exact mK 0#0 rfl q3 (gq rfl)
 exact⟨_,_,fin _ _ _ _ e3 e5,x2.trans x3,rfl⟩
theorem Dl{q:Nat}(hq:q∈[1,2])(h:∀S1,Ex S S1->iC 10#5 S1=none /\ ∃S',lH 10#5 S1=some (q,S')/\Ex S1 S'):∃v S',eh 10#5 S=some (v,S')/\Ex S S'/\Ans S' (.inr q) v:=by
 have q0:(S++2#3)[0#3]?=some _:=aX _ _;have x0:Ex S (S++2#3):=Ex.push _ _;have fin:=λv w S0 S1=>Ie (m:=m) (T:=T) (P:=P) (S:=S) (u:=u) (v:=v) (w:=w) (S0:=S0) (S1:=S1);generalize S++2#3=S0 at q0 x0 fin;obtain⟨e0,S1,e1,x1⟩:=h S0 x0;have k1:llM [some _,some _,some _,some u] S0=none:=Oi 0#0 (jW 0#0 0#0 0#0 e0) q0;have k2:llX [some _,some _,some _,some u] S0=some _:=(NA 0#0 q0).trans (UR 0#0 0#0 0#0 e1);have e3:j9 _ [3,0,1,2] _ _ [some _,some _,some u,some _,none] S0=some _:=HH rfl k1 k2 hq;have x3:=Ql S1 (bQ q) [.lst (aj [q])];have q3:(S1++(iy (bQ q)++[Cell.lst (aj [q])]))[4#4+3]?=some _:=J1;generalize S1++(iy _++7#7)=S3 at e3 x3 q3;have c4:cOf (m2 o9 1#3 (mC .non)) [0#9,4#8,some u,2#2,some (.ref (4#4+3))] S3=some _:=of_eq (op2 0#0 rfl rfl);have e5:llE [0#9,4#8,some u,2#2,some (.ref (4#4+3))] S3=some (.ref (4#4+3),S3):=by
  show ae 4 [0#9,4#8,some u,2#2,some _] S3=_;exact var_eq rfl
 exact⟨_,_,fin _ _ _ _ e3 e5,(x0.trans x1).trans x3,_,rfl,q3⟩
end
end
section
open _L _G
section
variable {m:Nat}{T:Nat->Nat->Nat}{P w:List Nat}{S:Sto}
def q9(m:Nat)(T:Nat->Nat->Nat)(P w:List Nat):List Nat ⊕ Nat:=if Lv m T P then(if okL m T P w=true then .inl (Co w P.length) else .inr 2) else .inr 1
variable{G:Rho}{a:ME}{r:Nat}
theorem yQ{S:Sto}{ls:List (List Nat)}(ha:a G S=some (.ref r,S))(hr:S[r]?=some (.lst (tups ls))):mFn bR 3#4 G S=some (.int (3#8:Nat),S):=by
 rw[sU ha hr];simp[tups]
theorem UB(p:Prl m T P)(hw:Lt m w)(hl:3#3<64):∃v S',eh 23#0 S=some (v,S')/\Ex S S'/\Ans S' (q9 m T P w) v:=by
 unfold q9;by_cases lv:Lv m T P
 .rw[if_pos lv]
  by_cases h:okL m T P w=true
  .rw[if_pos h]
   exact QG λS=>K6 p lv hw hl h
  .rw[if_neg h]
   exact Dl 0#6 λS _=>Ab p lv λS _=>by
    obtain⟨S',e,x⟩:=M2 (S:=S) p lv hw hl<;>simp_all
 .rw[if_neg lv]
  exact Dl 0#6 λS _=>Bb p lv
theorem Nj{ths:List Nat}{v:U}(g:Grp m T)(hm:m<=24)(ht:∀z∈ths,z<m)(hv:Wk S v ths):∃Q S',iT [tab m T,v] S=some (.tup (aj Q),S')/\Ex S S'/\Prl m T Q /\ ∀x,x∈Q↔Rch T ths x:=by
 obtain⟨ks,S1,e1,x1,d⟩:=EC g 0#2 ht hv;exact⟨_,S1,e1,x1,⟨g,hm,d.sbg g ht,Iy d.nd⟩,λx=>by rw[eD,d.all]⟩
theorem Pp{S S1:Sto}{n:Nat}(ha:a G S=some (.int n,S1))(hn:n<1000):fZ (iR1 3#4) G S=some (.ref 4#4,S1++[.lst (aj (aA n))]):=by
 have e:=jH ha 18#8;have hz:(bj 0 n).length<=big:=by simp[bj,ay];unfold big;omega
 simp only[fZ,e,aw];rw[if_pos hz];simp[bj,aj]
theorem IU{S S1:Sto}{l:List Nat}{x:Nat}(ha:a G S=some (.ref r,S1))(hr:S1[r]?=some (.lst (aj (l++[x])))):mSl a none (some 5#7) G S=some (.ref 4#4,S1++[.lst (aj l)]):=by
 have e:aj (l++[x])=aj l++[.int x]:=by simp[aj]
 have n1:m1 gS 1#7 G S1=some _:=rfl;rw[e]at hr;simp[mSl,ha,aw,mZ,n1,getL,hr,Ba]
def d61:MS:=aR (sIf (kj (cOf (mFn sx 26#4))) (b9 (bA 10#2)) cM) (aR (bq 4 (bL (iR1 (aa (m2 bN (mFn bR 5#0) 1#7) ag)) cTT 26#9)) (aR (sIf (cOr (cOf (m2 oNe (mFn dh (aa (mSl 1#3 none (some 5#7)) ag)) (fZ (iR1 (aa 10#4 ag))))) (cOf (m2 oNe (m2 oIx 1#3 5#7) 1#9))) (b9 (bA 10#2)) cM) (aR (sIf (cOf (m2 oNe (mFn iT (aa 0#4 (aa (bA (aa (mFn fY (aa 0#4 5#0)) ag)) ag))) 1#0)) (b9 (bA 10#2)) cM) (b9 (m2 fW 0#5 (mFn bR 3#9))))))
abbrev r61(m:Nat)(T:Nat->Nat->Nat)(P:List Nat)(u:U)(r:Nat)(x:Option U):Rho:= [0#9,4#8,some u,10#6,x]
theorem sZ{q:Nat}:b9 (bA (aa (mC (.int (q:Nat))) ag)) G S=some (.rt (.ref 0#3),G,S++[.lst (aj [q])]):=bU (rm rfl)
theorem TB{x y z:Nat}(ha:ae 5 G S=some (.int (y:Nat),S))(hb:mFn bR 5#2 G S=some (.int (z:Nat),S)):mCh oLt oLt (mC (.int (x:Nat))) 2#1 7#5 G S=some (.bl (decide (x<y)&&decide (y<z)),S):=by
 have h1:oLt 6#4 (.int y) S=some (.bl (decide (x<y)),S):=by show some _=_;simp
 have h2:oLt (.int y) (.int z) S=some (.bl (decide (y<z)),S):=by show some _=_;simp
 have h0:mC 6#4 G S=some _:=rfl;simp[mCh,h0,ha,hb,aw,h1];cases decide (x<y)<;>simp[h2]
theorem Tv{x:Option U}(hl:3#3<1000):mFn sx 26#4 (r61 m T P 4#2 r x) S=some (.bl (w.all fun y=>decide (0<y)&&decide (y<m)),S ++ [.lst (w.map fun y=>U.bl (decide (0<y)&&decide (y<m)))]):=by
 refine IF (uN 0#0 0#2 λy hy=>?_);exact CP (Ko 0#0) (CP (RL (Kf 0#0)) (TB 0#0 9#5))
theorem Os(p:Prl m T P)(hw:Lt m w)(hl:3#3<64)(hr:S[r]?=some (.lst (tups 6#1))):∃S',bL (iR1 (aa (m2 bN (mFn bR 5#0) 1#7) ag)) cTT 26#9 (r61 m T P 4#2 r none) S=some (.ref S'.length,S'++[.lst (aj ((plc T w).map (nbS m T P)))])/\Ex S S':=by
 have hm:=p.hm;have sd:=fB (b:=true) p.sb p.g;have Xr:=uF p
 obtain⟨S2,e2,x2,q2⟩:=B1 (G:=r61 m T P 4#2 r _) (a:=m2 _ (mFn _ (aa 0#5 _)) 1#7) (add_n (y:=1) (by rw[sR 0#0,bf]) c_i) 18#8 _ (λ_ S2=>Ex S S2/\S2[r]? = some _) ⟨Ex.refl _,hr⟩ (by
  rintro k S2 hk ⟨x2,q2⟩;have Yc:mSl 0#5 none (some 2#1) (r61 m T P 4#2 r none++[3#1]) S2=some (.tup (aj (w.take k)),S2):=by
   have v2:ae 2 (r61 m T P 4#2 r none++[3#1]) S2=some _:=rfl;have v5:ae 5 (r61 m T P 4#2 r none++[3#1]) S2=some _:=rfl;simp only[mSl,v2,aw,mZ,v5,zw];unfold aj;rw[ua]
  have hc:=AU p.g (hw.tk k);obtain⟨S3,e3,x3⟩:=Nc q2 sd hc (by have:(aZ m T P _).length<=m:=Xr.2;omega)
  exact⟨S3,bY (a:=ae 3) (var_eq rfl) (bY (a:=ae 0) (var_eq rfl) Yc (MQ p.g (hw.tk k))) e3,x2.trans x3,x3.some q2⟩)
 refine⟨S2,?_,x2⟩;rw[e2];simp[aj,plc]
theorem P0(p:Prl m T P)(lv:Lv m T P)(hw:Lt m w)(hl:3#3<64)(YC:3#3=mnS m T P)(hr:S[r]?=some (.lst (tups 6#1))):∃v Y1 S',d61 (r61 m T P 4#2 r none) S=some (.rt v,Y1,S')/\Ex S S'/\Ans S' (q9 m T P w) v:=by
 have YG:=p.len;have Xr:=uF p;have Xu:okL m T P w=false->q9 m T P w=.inr 2:=λh=>by unfold q9;grind
 have c1:=not_eq (of_eq (Tv (m:=m) (T:=T) (P:=P) (w:=w) (r:=r) (x:=none) (S:=S) 0#2));by_cases hz:0∈w
 .have ZG:(w.all λy=>decide (0<y)&&decide (y<m))=false:=by
   rw[List.all_eq_false];exact⟨0,hz,by simp⟩
  rw[ZG]at c1;rw[Xu (by unfold okL;simp_all)];exact⟨_,_,_,jz ((iJ c1).trans (sZ)),(Ex.push _ _).trans 2#6,_,rfl,aX _ _⟩
 have ZG:(w.all λy=>decide (0<y)&&decide (y<m))=true:=by
  rw[bH];intro y hy;have h0:=Nat.pos_of_ne_zero λe=>hz (e▸hy)<;>simp_all
 rw[ZG]at c1;have x1:Ex S (S++[Cell.lst (w.map λy=>U.bl (decide (0<y)&&decide (y<m)))]):=Ex.push _ _;generalize S++7#7=S1 at c1 x1;obtain⟨S2,e2,x2⟩:=Os p hw hl (x1.some hr);have f2:=bo (i:=4) e2;have q2:(S2++[Cell.lst (aj ((plc T w).map (nbS m T P)))])[8#0]?=some _:=aX _ _;have VB:=x2.trans (Ex.push S2 (Cell.lst (aj ((plc T w).map (nbS m T P)))));generalize S2++7#7=S3 at f2 q2 VB;have ZP:(plc T w).map (nbS m T P)=(pre T w).map (nbS m T P)++[nbS m T P (eR T w)]:=by rw[ub,cQ];rfl
 rw[ZP]at q2;have k1:=IU (G:=r61 m T P 4#2 r _) (a:=ae 4) 0#0 q2;have k2:=qx k1 6#0 (by rw[ay,yF];omega);have x4:Ex S3 (S3++[Cell.lst (aj 18#2)]++[Cell.lst (aj (srt 18#2))]):=(Ex.push _ _).trans 2#6;have q4:(S3++7#7++[Cell.lst (aj (srt 18#2))])[(S3++[Cell.lst (aj 18#2)]).length]?=some _:=aX _ _;generalize S3++7#7++7#7=S4 at k2 x4 q4;have hK:=Xr.2;have hr4:=((x1.trans VB).trans x4).some hr;have k3:=Pp (G:=r61 m T P 4#2 r (some (.ref 8#0))) (a:=mFn _ (aa 0#8 _)) (n:=mnS m T P) (yQ 0#0 hr4) 0#2;have c5:=of_eq (Ea k2 k3 ((Ex.push _ _).some q4) 6#0);have x5:Ex S4 (S4++[Cell.lst (aj (aA (mnS m T P)))]):=Ex.push _ _;generalize S4++7#7=S5 at c5 x5;have q5:=(x4.trans x5).some q2;have k6:m2 oIx 1#3 5#7 (r61 m T P 4#2 r (some (.ref 8#0))) S5=some (.int (nbS m T P (eR T w)),S5):=by
  refine mK 0#0 Aw q5 ?_;have:=yT (th:=(pre T w).map (nbS m T P)++[nbS m T P (eR T w)]) 0#6;rwa[l4]at this
 have c6:=of_eq (Qr k6 (c_i (z:=0)));have c7:=or_eq c5 c6 (λ_=>rfl);by_cases hb:srt 18#2=aA (mnS m T P)/\nbS m T P (eR T w)=0
 rotate_left
 .have hf:(!decide (srt 18#2=aA (mnS m T P)) || !decide (nbS m T P (eR T w)=0))=true:=by
   grind
  rw[hf]at c7
  rw[Xu (by
   unfold okL <;> grind)]
  exact⟨_,_,_,(aF ((gF c1).trans rfl)).trans ((aF f2).trans (jz ((iJ c7).trans (sZ)))),(((x1.trans VB).trans x4).trans x5).trans 2#6,_,rfl,aX _ _⟩
 rw[decide_eq_true hb.1,decide_eq_true hb.2]at c7;have hc:=AU p.g hw;have k8:bA (aa (mFn _ (aa 0#4 (aa 0#5 _))) _) (r61 m T P _ r (some (.ref 8#0))) S5=some _:=rm (bY 0#0 0#0 (MQ p.g hw));obtain⟨Q,S9,e9,x9,q,hq⟩:=Nj p.g p.hm (λz hz=>by rw[be.mp hz];omega) (.inr ⟨_,rfl,aX _ _,by simp⟩);have c9:=of_eq (Qj (bY (a:=ae 0) 0#0 k8 e9) (b:=ae 1) 0#0);rw[z5 p q hq]at c9;have x9':=(((x1.trans VB).trans x4).trans x5).trans ((Ex.push _ _).trans x9);by_cases hs:spn T P (eR T w)
 .rw[decide_eq_true hs]at c9
  have ok:okL m T P w=true:=by unfold okL;grind
  have:q9 m T P w=.inl (Co w P.length):=by unfold q9;rw[if_pos lv,if_pos ok]
  rw[this];have k10:=Ms (G:=r61 m T P _ r (some (.ref 8#0))) (S:=S9) (a:=ae 2) (b:=mFn _ (aa 1#0 _)) (w:=w) 0#0 (by rw[sR 0#0,bf]) 0#2 0#2 0#2;exact⟨_,_,_,(aF ((gF c1).trans rfl)).trans ((aF f2).trans ((aF ((gF c7).trans rfl)).trans ((aF ((gF c9).trans rfl)).trans (bU k10)))),x9',rfl⟩
 .rw[decide_eq_false hs]at c9
  rw[Xu (by unfold okL;simp_all)];exact⟨_,_,_,(aF ((gF c1).trans rfl)).trans ((aF f2).trans ((aF ((gF c7).trans rfl)).trans (jz ((iJ c9).trans (sZ))))),x9'.trans 2#6,_,rfl,aX _ _⟩
theorem A1{u:U}(p:Prl m T P):∃r S',fh [tab m T,.tup (aj P),.bl true] S=some (.ref r,S')/\Ex S S'/\S'[r]?=some (.lst (tups 6#1)) /\ ∃S2,cOf (m2 oNe 0#8 (mFn fh (aa 0#4 (aa 1#0 (aa 14#1 ag))))) (r61 m T P u r none) S'=some (!decide (Lv m T P),S2)/\Ex S' S2:=by
 have hm:=p.hm;have YG:=p.len;obtain⟨S1,e1,x1,q1⟩:=qw p.g 0#2 0#2 p.sb.lt;obtain⟨S2,e2,x2,q2⟩:=qw p.g 0#2 0#2 p.sb.lt;exact⟨_,S1,e1,x1,q1,S2,of_eq (DW 0#0 (jW 0#0 0#0 rfl e2) (x2.some q1) q2),x2⟩
theorem Rx(p:Prl m T P)(hw:Lt m w)(hl:3#3<64):∃v S',eC 23#0 S=some (v,S')/\Ex S S'/\Ans S' (q9 m T P w) v:=by
 obtain⟨r,S1,e1,x1,q1,S2,c2,x2⟩:=A1 p;have f1:=bo (i:=3) (jW (G:= [some _,some _,some 4#2,none,none]) (a:=ae 0) (b:=ae 1) (c:=mC _) 0#0 0#0 rfl e1);by_cases lv:Lv m T P
 rotate_left
 .rw[decide_eq_false lv]at c2
  have:q9 m T P w=.inr 1:=by unfold q9;rw[if_neg lv]
  rw[this];exact⟨_,_,bM rfl ((aF f1).trans (jz ((iJ c2).trans (sZ (q:=1))))),(x1.trans x2).trans 2#6,_,rfl,aX _ _⟩
 rw[decide_eq_true lv]at c2;have d1:kj (cOf (m1 _ 0#5)) (r61 m T P 4#2 r none) S2=some _:=not_eq (of_eq (isT 0#0));have d2:=of_eq (Qr (G:=r61 m T P 4#2 r none) (a:=mFn _ (aa 0#5 _)) (b:=mFn _ (aa 0#8 _)) (by rw[sR 0#0,bf]) (yQ 0#0 (x2.some q1)));by_cases YC:3#3=mnS m T P
 .rw[decide_eq_true YC]at d2
  obtain⟨v,X3,S3,e3,x3,a3⟩:=P0 p lv hw hl YC (x2.some q1);exact⟨v,S3,bM rfl ((aF f1).trans ((aF ((gF c2).trans rfl)).trans ((aF ((gF (_W.or_false d1 d2)).trans rfl)).trans e3))),(x1.trans x2).trans x3,a3⟩
 .rw[decide_eq_false YC]at d2
  have d3:=or_eq d1 d2 15#8;have:q9 m T P w=.inr 2:=by unfold q9;rw[if_pos lv,if_neg (λz=>YC (zx z).1)]
  rw[this];exact⟨_,_,bM rfl ((aF f1).trans ((aF ((gF c2).trans rfl)).trans (jz ((iJ d3).trans (sZ (q:=2)))))),(x1.trans x2).trans 2#6,_,rfl,aX _ _⟩
theorem E2(p:Prl m T P)(hw:Lt m w):RZ (q9 m T P w):=by
 have hm:=p.hm;have YG:=p.len;have Xr:=uF p;unfold q9;by_cases lv:Lv m T P
 .rw[if_pos lv]
  by_cases h:okL m T P w=true
  .rw[if_pos h]
   refine⟨λx hx=>?_,?_⟩
   .obtain⟨l,hl,hx⟩:=List.mem_flatten.mp hx<;>grind
   .have h1:=(zx h).1
    unfold Co;rw[List.length_flatten,List.map_replicate,F6];have:P.length*3#3<=24*24:=Nat.mul_le_mul YG 0#2;omega
  .rw[if_neg h];show 2<1000;decide
 .rw[if_neg lv];show 1<1000;decide
end
end
section
open _L _G
theorem yq{e:ME}{G:Rho}{n:Nat}{us:List U}(P:List U->Sto->Prop)(hP:∀acc S,P acc S->getL S n=some us)(he:∀u∈us,∀acc S,P acc S->∃y S',e 9#4 S=some (y,S')/\P (acc++[y]) S'):∀(k i:Nat) (acc:List U) (S:Sto),i<=1#1->1#1-i<k->P acc S->∃ys S',iO cTT e G n k i acc S=some 4#5/\P ys S'/\3#6=acc.length+(1#1-i)
 |0,i,acc,S,h1,h2,h=>by omega
 | k+1,i,acc,S,h1,h2,h=>by
   unfold iO;rw[hP _ S h];simp;by_cases hi:i<1#1
   .obtain⟨y,S1,e1,p1⟩:=he _ (bW hi) _ S h
    obtain⟨ys,S2,e2,p2,l2⟩:=yq P hP he k (i+1) _ S1 0#2 0#2 p1;refine⟨ys,S2,?_,p2,by grind⟩;rw[aI hi];simp[cTT,aw,e1];omega
   grind
variable{n:Nat}{S:Sto}
theorem P6{G:Rho}(h:ir n S)(h2:G[0]?=some (some (.ref n))):∃m T S',mFn kr (aa 0#4 (aa (m2 oIx (bA (aa (mC (.int 8)) (aa (mC (.int 12)) (aa (mC (.int 24)) ag)))) 18#4) ag)) G S=some (tab m T,S')/\Grp m T/\m<=24/\Stp n S S':=by
 have f3:bA _ G S=some (.ref _,S++[Cell.lst (aj [8,12,24])]):=Eg c_i c_i c_i;have ZJ:Stp n S (S++[Cell.lst (aj [8,12,24])]):=Stp.ex h 2#6;obtain⟨r,S4,f4,hr,Za⟩:=eP (m:=3) ZJ.st 0#1 0#1;have ZI:0#3≠n:=by have:=h.lt;omega
 have g4:=Za.some ZI 6#0;obtain⟨most,Yl,hm6,hm8⟩ :∃most:Nat,(aj [8,12,24])[r]?=some (.int most)/\6<=most/\most<=24:=by
  rcases r with _|_|_|r
  .exact⟨8,rfl,by decide,by decide⟩
  .exact⟨12,rfl,by decide,by decide⟩
  .exact⟨24,rfl,by decide,by decide⟩
  omega
 have f5:=mK f3 (bY (var_eq h2) c_i f4) g4 (gq Yl);obtain⟨m,T,S5,f6,gr,hm,Zj⟩:=GA Za.st hm6 0#2;exact⟨m,T,S5,bY (var_eq h2) f5 f6,gr,by omega,(ZJ.trans Za).trans Zj⟩
variable{T:Nat->Nat->Nat}
theorem KH{m:Nat}(h:ir n S)(g:Grp m T)(hm:m<=24):∃P S',o7 [.ref n,tab m T] S=some (.tup (aj P),S')/\Stp n S S'/\Prl m T P:=by
 obtain⟨r,S1,e1,hr,ZL⟩:=eP (m:=2) h 0#2 0#2;have et:m2 _ _ (mFn _ (aa 0#4 _)) [some _,0#9] S=some _:=add_n (x:=1) c_i (bY 0#0 c_i e1);obtain⟨w,S2,e2,ZO,hw,Z8⟩:=Ii (sv:=ae 0) (mv:=mFn _ (aa 1#0 _)) et 0#2 ZL.st g.pos 0#2 (λz S=>var_eq rfl) (λz S=>len_tab 0#0);obtain⟨Q,S3,e3,x3,q,_⟩:=Nj g hm hw (.inr ⟨_,rfl,aX _ _,by omega⟩);exact⟨Q,S3,bM rfl (bU (bY (f:=iT) 0#0 e2 e3)),((ZL.trans ZO).step 2#6).step x3,q⟩
theorem Pu{m c:Nat}(h:ir n S)(g:Grp m T)(hm:m<1000)(hc:c<500):∃w S',pM [.ref n,tab m T,.int c] S=some (.tup (aj w),S')/\Stp n S S'/\(∀x∈w,x<m)/\3#3<=c:=by
 obtain⟨r,S1,e1,hr,ZL⟩:=eP (m:=c+1) h 0#2 0#2;have et:mFn _ (aa 0#4 (aa (m2 _ 0#5 _) _)) [some _,0#9,some _] S=some _:=bY 0#0 (add_n 0#0 c_i) e1;obtain⟨w,S2,e2,ZO,hw,Z8⟩:=KY (sv:=ae 0) (mv:=mFn _ (aa 1#0 _)) et 0#2 ZL.st g.pos hm (λz S=>var_eq rfl) (λz S=>len_tab 0#0);exact⟨w,S2,bM rfl (bU e2),ZL.trans ZO,hw,by omega⟩
section
variable {m:Nat}{T:Nat->Nat->Nat}{P:List Nat}{S:Sto}
theorem Ks(p:Prl m T P)(lv:Lv m T P):Grp (mnS m T P) (λi j=>nbr 6#1 (T (pd 6#1 i) (pd 6#1 j))):=by
 refine(Dc p.sb p.g p.pw lv).congr λi j hi hj=>?_;exact AX p.sb p.g lv hi hj (Cb p.sb p.g hi) (Cb p.sb p.g hj) (nK p.sb hi) (nK p.sb hj)
structure Rb(K:Nat)(F:List (List Nat)):Prop where
 len:F.length<=3
 each:∀l∈F,l.length<=K
 lt:∀l∈F,∀x∈l,x<K/\(x=0->K=1)
variable{x:Nat}
theorem Jf(p:Prl m T P)(h1:m≠1)(hx:x<mnS m T P)(h0:x=0->mnS m T P=1):((aZ m T P true).getD x []).filter (λy=>decide (0<y))≠[]:=by
 have sd:=fB (b:=true) p.sb p.g;have hp:=p.g.pos;obtain⟨y,hy,hy0⟩ :∃y∈(aZ m T P true).getD x [],0<y:=by
  by_cases z:x=0
  .obtain⟨l,hl⟩:=wD p.sb p.g p.pw
   have e0:(aZ m T P true).getD x []=P:=by rw[z,hl];rfl
   have hm:=ym (b:=true) p.sb p.g p.nd;rw[show(aZ m T P _).length=1 from h0 z,Nat.one_mul]at hm;rw[e0];apply yy;intro q;have:=sg 1 P p.nd λy hy=>by
    grind
   omega
  .refine⟨_,nK p.sb hx,Nat.pos_of_ne_zero λe=>z ?_⟩
   have h2:=nK p.sb hx;rw[e]at h2;rw[<-sd.nb_of p.g.pos hx h2];exact nb0 p
 intro q;have:y∈((aZ m T P _).getD x []).filter (λy=>decide _):=eu.mpr ⟨hy,decide_eq_true hy0⟩;rw[q]at this;simp at this
variable{K:Nat}
theorem UL{b:Nat}(h:(b<=3/\K<=8)\/(b<=2/\K<=12)):iP b (K-1)<=30000:=by
 have mono:∀{b c:Nat},b<=c->∀{j k:Nat},j<=k->iP b j<=iP c k:=by
  intro b c h j
  induction j with
  |zero=>intro k _;exact rP
  | succ j ih=>
    intro k h2;cases k with
    |zero=>omega
    | succ k=>
      unfold iP;have:=Nat.mul_le_mul h (ih (k:=k) 0#2);omega
 rcases h with⟨h1,h2⟩|⟨h1,h2⟩
 .exact aB (mono h1 (k:=7) 0#2) 0#1
 .exact aB (mono h1 (k:=11) 0#2) 0#1
variable{R:Nat->Nat->Nat}
theorem Tf{n most:Nat}(h:ir n S)(g:Grp K R)(hm:K<60)(WM:0<most)(Wx:most<60):∃w S',ky [.ref n,tab K R,.int (most:Nat)] S=some (.tup (aj w),S')/\Stp n S S'/\(∀x∈w,x<K)/\3#3<=most/\3#3<60/\w.Nodup/\(∀x∈w,x≠0)/\(1<K->w≠[])/\srt w=w:=EV h g hm WM Wx
theorem Q9{st:List Nat}(g:Grp K R)(hm:K<100)(hs:∀s∈st,s<K)(Yc:st.length<1000)(hz:iP st.length (K-1)<=30000):∃r S',gw [tab K R,.tup (aj st),.int (3:Nat)] S=some (.ref r,S')/\Ex S S'/\S'[r]?=some (.lst (tups ((qj R st (pJ R st) (K-1) ([],[0])).take 3))):=FM g hm hs Yc 0#1 hz
def UH:MS:=sIf (cOf (m2 oGt (mFn bR 5#3) 1#7)) (aR (bq 6 (mFn ky (aa 0#4 (aa 1#3 (aa (m2 oIx (bA (aa (mC (.int 3)) (aa 4#7 10#2))) (m2 oDiv (mFn bR 5#3) (mC (.int 9)))) ag))))) (bq 5 (tS 25#0 25#5 3#5))) cM
theorem Ut{G:Rho}{S S1 S2:Sto}{a b:ME}{y:Nat}(ha:a G S=some 5#8)(hb:b G S1=some 8#3):m2 oLt a b G S=some (.bl (decide (x<y)),S2):=by
 rw[NX ha hb];simp
theorem J7{n r5:Nat}{v1 v2 v3 v7 v8 v9:Option U}(h:ir n S)(g:Grp K R)(hK:K<=24)(h5:S[r5]?=some (.lst (tups [[0]]))):∃r F v6 S',UH 24#1 S=some (.nx,[2#7,v1,v2,v3,some (tab K R),10#6,v6,v7,v8,v9],S')/\Stp n S S'/\S'[r]?=some (.lst (tups F))/\Rb K F:=by
 have hp:=g.pos;have c1:=of_eq (Ti (G:= 24#1) (S:=S) (a:=mFn _ (aa 1#3 _)) (y:=1) 9#5 c_i);by_cases h1:1<K
 rotate_left
 .have:K=1:=by omega
  subst this;exact⟨r5,_,_,S,(gF c1).trans rfl,Stp.refl h,h5,⟨by decide,by simp,by simp⟩⟩
 rw[decide_eq_true h1]at c1;have fl:bA _ 24#1 S=some (.ref _,S++[Cell.lst (aj [3,2,2])]):=Eg c_i c_i c_i;have fd:m2 _ (mFn _ (aa 1#3 _)) _ 24#1 (S++[Cell.lst (aj [3,2,2])])=some _:=uW (y:=9) 9#5 c_i 0#1 0#1;obtain⟨most,Yl,WM,hmz⟩ :∃most:Nat,(aj [3,2,2])[K/9]?=some (.int _)/\0<most/\((most<=3/\K<=8)\/(most<=2/\9<=K)):=by
  by_cases h9:K<9
  .rw[fM h9];exact⟨3,rfl,by decide,.inl ⟨by decide,by omega⟩⟩
  .by_cases h18:K<18
   .rw[show K/9=1 by omega];exact⟨2,rfl,by decide,.inr ⟨by decide,by omega⟩⟩
   .rw[show K/9=2 by omega];exact⟨2,rfl,by decide,.inr ⟨by decide,by omega⟩⟩
 have fi:=mK fl fd 6#0 (gq Yl);have ZL:Stp n S (S++[Cell.lst (aj [3,2,2])]):=Stp.ex h 2#6;obtain⟨w,S2,f2,ZO,hw,Z8,hwl2,hnd,hnz,_,_⟩:=Tf ZL.st g 0#2 WM 0#2;have g2:=bo (i:=6) (jW (a:=ae 0) (b:=ae 4) 0#0 0#0 fi f2);have c2:=of_eq (Ut (G:= 27#6) (S:=S2) (a:=mFn _ (aa 1#3 _)) (b:=mC (.int 13)) 9#5 c_i);by_cases h13:K<13
 .rw[decide_eq_true h13]at c2
  obtain⟨r,S3,f3,x3,q3⟩:=Q9 g 0#2 hw 0#2 (UL 0#2);have k3:tS 25#0 25#5 3#5 27#6 S2=some (.ref r,S3):=by
   simp[tS,c2,aw];exact jW 0#0 0#0 c_i f3
  refine⟨r,_,_,S3,(iJ c1).trans ((aF g2).trans (bo k3)),(ZL.trans ZO).step x3,q3,⟨by rw[iq];omega,λl hl=>?_,λl hl x hx=>?_⟩⟩
  .have:=(tz g hw (ib hl)).2.2
   omega
  .have:=(tz g hw (ib hl)).2.1 x hx
   exact⟨hw x this,λz=>absurd z (hnz x this)⟩
 .rw[decide_eq_false h13]at c2
  have k3:tS 25#0 25#5 3#5 27#6 S2=some (.ref 8#0,S2++[.lst []]):=by
   simp[tS,c2,aw];exact eM
  exact⟨_,[],_,_,(iJ c1).trans ((aF g2).trans (bo k3)),(ZL.trans ZO).step 2#6,aX _ _,⟨by decide,by simp,by simp⟩⟩
def Nu:MS:=aR (bq 9 (bL (bZ (m2 oIx 0#8 (ae 8))) (cOf (m2 oGt (ae 10) 1#9)) (ae 10))) (di (mML bJ (ae 7) (aa (m2 oIx (ae 9) (mFn aO (aa 0#4 (aa (mFn bR (aa (ae 9) ag)) ag)))) ag)))
abbrev r10(n m:Nat)(T:Nat->Nat->Nat)(P:List Nat)(r3:Nat)(v4 v5 v6:Option U)(r7:Nat)(v8 v9:Option U):Rho:= [2#7,0#9,4#8,some (.ref r3),v4,v5,v6,some (.ref r7),v8,v9]
theorem K9{n r3 r7:Nat}{v:List Nat}{v4 v5 v6 v9:Option U}(p:Prl m T P)(h1:m≠1)(h:ir n S)(q3:S[r3]?=some (.lst (tups 6#1)))(q7:S[r7]?=some (.lst (aj v)))(n3:r3≠n)(n7:r7≠n)(Vh:r3≠r7)(hv:Lt m v)(WG:v.length<1000)(hx:x<mnS m T P)(h0:x=0->mnS m T P=1):
  ∃u9 y S',Nu (r10 n m T P r3 v4 v5 v6 r7 (some (.int (x:Nat))) v9) S=some (.nx,r10 n m T P r3 v4 v5 v6 r7 (some (.int (x:Nat))) u9,S')/\ir n S'/\0#3<=S'.length/\(∀k,k<0#3->k≠n->k≠r7->S'[k]?=S[k]?)/\S'[r7]?=some (.lst (aj (v++[y])))/\y<m:=by
 have ZI:=Jf p h1 hx h0;have ZV:=λy (hy:y∈(aZ m T P _).getD x [])=>(gU p.sb p.g hx hy).1;have Yc:((aZ m T P true).getD x []).length<=24:=by
  have e:(aZ m T P true).getD x []=(aZ m T P _)[x]:=by simp_all
  rw[e,vB (bW hx)];exact p.len
 have k1:m2 _ 0#8 (ae 8) (r10 n m T P r3 v4 v5 v6 r7 _ v9) S=some _:=mK 0#0 0#0 q3 (gq (jO hx));have k2:=sy (t:=cOf (m2 _ (ae 10) _)) (e:=ae 10) k1 0#2 (λy hy=>of_eq (Ti (y:=0) 0#0 c_i)) (λy hy _=>var_eq rfl);generalize hF:((aZ m T P _).getD x []).filter _=F at k2 ZI;have hFl:F.length<=24:=by rw[<-hF];exact aB (eV _ _) Yc
 have hFm:Lt m F:=λy hy=>by rw[<-hF]at hy;exact ZV y (eu.mp hy).1
 have k3:=bo (i:=9) k2;have qF:(S++[Cell.lst (aj F)])[0#3]?=some _:=aX _ _;have ZL:Stp n S (S++[Cell.lst (aj F)]):=Stp.ex h 2#6;have WI:(S++[Cell.lst (aj F)])[r7]?=some _:=(Ex.push _ _).some q7;obtain⟨r,S2,e2,hr,ZO⟩:=eP ZL.st (tN.mpr ZI) 0#2;have hSn:0#3≠n:=by have:=h.lt;omega
 have qF2:=ZO.some hSn qF;have k4:m2 _ (ae 9) (mFn _ (aa 0#4 (aa (mFn _ (aa (ae 9) _)) _))) (r10 n m T P r3 v4 v5 v6 r7 (some 6#4) _) _=some (.int F[r],S2):=mK 0#0 (bY 0#0 (by rw[sU 0#0 qF,bf]) e2) qF2 (gq (by simp[aj,hr]));have q72:=ZO.some n7 WI;have k5:=append_eq (o:=ae 7) 0#0 k4 WI q72 (by rw[bf];unfold big;omega);have ZR:=(af.mp q72).1;obtain⟨s,b,ZQ⟩:=ZO.st;refine⟨_,_,_,(aF k3).trans k5,⟨s,b,by simp_all⟩,?_,λk hk h1 h2=>?_,?_,hFm _ (bW hr)⟩
 .rw[gm];exact aB ZL.len ZO.len
 .rw[aD 0#2,ZO.same k (ai hk ZL.len) h1,aK hk]
 .rw[aM ZR];simp[aj]
end
end
section
open _L _G
section
variable {m:Nat}{T:Nat->Nat->Nat}{P:List Nat}{S:Sto}
structure St2(n r:Nat)(S S':Sto):Prop where
 st:ir n S'
 len:S.length<=S'.length
 same:∀k,k<S.length->k≠n->k≠r->S'[k]?=S[k]?
variable{n r3:Nat}
theorem PQ{r7:Nat}{l:List Nat}{v4 v5 v6 v8 v9:Option U}{e:ME}{S0:Sto}(p:Prl m T P)(h1:m≠1)(he:e (r10 n m T P r3 v4 v5 v6 r7 v8 v9) S0=some (.tup (aj l),S))(h:ir n S)(q3:S[r3]?=some (.lst (tups 6#1)))(q7:S[r7]?=some (.lst []))(n3:r3≠n)(n7:r7≠n)(Vh:r3≠r7)(hl:2#8<=24)(ZV:∀x∈l,x<mnS m T P/\(x=0->mnS m T P=1)):
  ∃v u8 u9 S',dU 8 (bZ e) Nu (r10 n m T P r3 v4 v5 v6 r7 v8 v9) S0=some (.nx,r10 n m T P r3 v4 v5 v6 r7 u8 u9,S')/\St2 n r7 S S'/\S'[r7]?=some (.lst (aj v))/\Lt m v/\v.length=2#8:=by
 have ZF:=(af.mp q3).1;obtain⟨Y2,S1,e1,⟨u8,u9,rfl⟩,s1,v,q1,hv,WG⟩:=pA (i:=8) he
  (λk G S'=>(∃u8 u9,G=r10 n m T P r3 v4 v5 v6 r7 u8 u9)/\St2 n r7 S S' /\ ∃v,S'[r7]?=some (.lst (aj v))/\Lt m v/\v.length=k)
  ⟨⟨_,_,rfl⟩,⟨h,ak _,λ_ _ _ _=>rfl⟩,[],q7,λx hx=>by simp at hx,rfl⟩ (by
   rintro k u G S' hu ⟨⟨u8,u9,rfl⟩,s,v,q,hv,WG⟩;obtain⟨x,hx,rfl⟩:=gM hu;obtain⟨hx1,Vp⟩:=ZV x (bu hx);have hk:=(af.mp hx).1;obtain⟨w9,y,S2,e2,ZO,l2,sm2,q2,hy⟩:=K9 p h1 s.st (by rw[s.same r3 ZF n3 Vh];omega) q n3 n7 Vh hv 0#2 hx1 Vp
   refine⟨_,S2,e2,⟨_,_,rfl⟩,⟨ZO,aB s.len l2,λk hk a b=>(sm2 k (ai hk s.len) a b).trans (s.same k hk a b)⟩,_,q2,Lt.app hv (Lt.one hy),by simp[WG]⟩)
 rw[bf]at WG;exact⟨v,u8,u9,S1,e1,s1,q1,hv,WG⟩
theorem Lq{v4 v5 v6 v7 v8 v9:Option U}(g:Grp m T)(hm:m<=24)(h:ir n S){ls:List (List Nat)}(q3:S[r3]?=some (.lst (tups ls)))(n3:r3≠n)(hl:3#8<=24):∃w S',mFn bC (aa (bL (bZ 0#8) cTT 19#7) ag) 24#6 S=some (.tup (aj w),S')/\Stp n S S'/\Lt m w/\3#3=3#8:=by
 have hu:(tups ls).length=3#8:=by simp[tups]
 obtain⟨ys,S1,e1,⟨w,rfl,hw,st⟩,hlen⟩:=yq (e:=mFn _ (aa 0#4 (aa (mFn _ (aa 1#0 _)) _))) (G:= [some _,0#9,4#8,some (.ref r3),v4,v5,v6,v7,v8,v9]) (λacc S' =>∃w,acc=aj w/\Lt m w/\Stp n S S') (λacc S' ⟨_,_,_,st⟩=>by unfold getL;rw[st.some n3 q3]) (by
  rintro u _ acc S' ⟨w,rfl,hw,st⟩;obtain⟨r,S2,e2,hr,ZO⟩:=eP st.st g.pos 0#2
  exact⟨_,S2,bY (var_eq rfl) (len_tab (var_eq rfl)) e2,_,by simp[aj],Lt.app hw (Lt.one hr),st.trans ZO⟩) fuel 0 [] S (dB _) (by unfold fuel;omega) ⟨[],rfl,λx hx=>by simp at hx,Stp.refl h⟩
 have Z8:3#3=3#8:=by rw[bf]at hlen<;>simp_all
 have hi:bZ 0#8 24#6 S=some (.mut r3,S):=by
  have v:ae 3 24#6 S=some _:=rfl;simp[bZ,v,aw,getL,q3]
 have e2:bL (bZ 0#8) cTT 19#7 24#6 S=some (.ref 4#4,S1++[.lst (aj w)]):=by
  simp only[bL,hi,aw,vW,e1];rw[if_pos (by rw[bf];unfold big;omega)]
 exact⟨w,_,eB e2,st.step 2#6,hw,Z8⟩
theorem PF{G:Rho}{S1 S2 S3:Sto}{a b c:ME}{x y z:U}(ha:a G S=some (x,S1))(hb:b G S1=some (y,S2))(hc:c G S2=some (z,S3)):cH (aa a (aa b (aa c ag))) G S=some (.tup [x,y,z],S3):=by
 have hq:3<=big:=by decide
 simp[cH,aa,ag,aw,ha,hb,hc,hq]
def UE:MS:=aR (sIf (cOf (m2 oEq 2#1 3#5)) (b9 (cH (aa 1#0 (aa 0#5 (aa (mFn bC (aa (bL (bZ 0#8) cTT 19#7) ag)) ag))))) cM) (aR (bq 7 3#5) (aR (dU 8 (bZ (m2 oIx 2#1 (mFn aO (aa 0#4 (aa 13#8 ag))))) Nu) (b9 (cH (aa 1#0 (aa 0#5 (aa (mFn bC (aa (ae 7) ag)) ag)))))))
theorem Ls{r5:Nat}{v4 v6:Option U}{F:List (List Nat)}(p:Prl m T P)(h1:m≠1)(h:ir n S)(q3:S[r3]?=some (.lst (tups 6#1)))(n3:r3≠n)(q5:S[r5]?=some (.lst (tups F)))(n5:r5≠n)(hF:Rb (mnS m T P) F):
  ∃w Y1 S',UE [2#7,0#9,4#8,some (.ref r3),v4,some (.ref r5),v6,none,none,none] S=some (.rt (.tup 23#0),Y1,S')/\Stp n S S'/\Lt m w/\3#3<=24:=by
 have hm:=p.hm;have Xr:(aZ m T P _).length<=m:=(uF p).2;have c1:=of_eq (Ef (G:= [2#7,0#9,4#8,some (.ref r3),v4,some _,v6,none,none,none]) (a:=ae 5) (y:= []) 0#0 eM ((Ex.push _ _).some q5) 6#0);have ZL:Stp n S (S++2#3):=Stp.ex h 2#6;have WL:(S++2#3)[r3]?=some _:=(Ex.push _ _).some q3;have q5':(S++2#3)[r5]?=some _:=(Ex.push _ _).some q5;generalize S++2#3=S1 at c1 ZL WL q5';by_cases hF0:F=[]
 .rw[decide_eq_true hF0]at c1
  obtain⟨w,S2,e2,ZO,hw,Z8⟩:=Lq p.g hm ZL.st WL n3 0#2;exact⟨w,_,S2,jz ((iJ c1).trans (bU (PF 0#0 0#0 e2))),ZL.trans ZO,hw,by omega⟩
 rw[decide_eq_false hF0]at c1;have f2:bq 7 _ [2#7,0#9,4#8,some (.ref r3),v4,some (.ref r5),v6,none,none,none] S1=some _:=bo eM;have ZO:Stp n S1 (S1++2#3):=Stp.ex ZL.st 2#6;have q7:(S1++2#3)[4#4]?=some _:=aX _ _;have Wb:(S1++2#3)[r3]?=some _:=(Ex.push _ _).some WL;have Xi:(S1++2#3)[r5]?=some _:=(Ex.push _ _).some q5';have ZF:=(af.mp WL).1;have hn1:=ZL.st.lt;generalize S1++2#3=S2 at f2 ZO q7 Wb Xi;have hFp:=tN.mpr hF0;obtain⟨r,S3,e3,hr,ZJ⟩:=eP ZO.st hFp (by have:=hF.len;omega);have hFr:F.getD r []∈F:=by
  simp_all
 have k3:m2 _ 2#1 (mFn _ (aa 0#4 (aa (mFn _ (aa 2#1 _)) _))) (r10 n m T P r3 v4 _ v6 S1.length none none) S2=some _:=mK 0#0 (bY 0#0 (yQ 0#0 Xi) e3) (ZJ.some n5 Xi) (gq (jO hr));have hle:=hF.each _ hFr;obtain⟨v,u8,u9,S4,e4,s4,q4,hv,WG⟩:=PQ p h1 k3 ZJ.st (ZJ.some n3 Wb) (ZJ.some 0#2 q7) n3 0#2 0#2 (by grind) (hF.lt _ hFr);have k5:mFn _ (aa (ae 7) _) (r10 n m T P r3 v4 (some (.ref r5)) v6 _ u8 u9) S4=some _:=je 0#0 q4;refine⟨v,_,S4,(aF ((gF c1).trans rfl)).trans ((aF f2).trans ((aF e4).trans (bU (PF 0#0 0#0 k5)))),⟨?_,λk hk Vw=>?_,s4.st⟩,hv,by grind⟩
 .exact aB ZL.len (aB ZO.len (aB ZJ.len s4.len))
 .have VC:=ai hk ZL.len
  have VH:=ai VC ZO.len;have h3':=ai VH ZJ.len;rw[s4.same k h3' Vw 0#2,ZJ.same k VH Vw,ZO.same k VC Vw,ZL.same k hk Vw]
theorem Ny{S:Sto}(h:ir n S):∃m T P w S',hU [.ref n] S=some (.tup 23#0,S')/\Prl m T P/\Lt m w/\3#3<=24/\Stp n S S':=by
 obtain⟨m,T,S1,e1,g,hm,ZL⟩:=P6 (G:= [some _,none,none,none,none,none,none,none,none,none]) h rfl;obtain⟨P,S2,e2,ZO,p⟩:=KH ZL.st g hm;have f2:=bo (i:=2) (bY (G:= [some _,some _,none,none,none,none,none,none,none,none]) (a:=ae 0) (b:=ae 1) 0#0 0#0 e2);have YG:=p.len;obtain⟨S3,e3,x3,q3⟩:=qw p.g 0#2 0#2 p.sb.lt;have f3:=bo (i:=3) (jW (G:= [2#7,some _,some _,none,none,none,none,none,none,none]) (a:=ae 1) (b:=ae 2) (c:=mC _) 0#0 0#0 rfl e3);obtain⟨S4,e4,x4,q4⟩:=qw p.g 0#2 0#2 p.sb.lt;have n3:8#0≠n:=by have:=ZO.st.lt;omega
 have c4:=of_eq (DW (G:= [2#7,some _,some _,some _,none,none,none,none,none,none]) (a:=ae 3) 0#0 (jW (a:=ae 1) (b:=ae 2) (c:=mC (.bl false)) 0#0 0#0 rfl e4) (x4.some q3) q4);have c5:=of_eq (P4 (G:= [2#7,0#9,4#8,some (.ref 8#0),none,none,none,none,none,none]) (S:=S4) (a:=mFn _ (aa 1#0 _)) (y:=1) 9#5 c_i);have c6:=or_eq c4 c5 (λ_=>rfl);have Za:=(ZL.trans ZO).step (x3.trans x4);have U8:=x4.some q3;generalize 8#0=r3 at q3 U8 f3 c4 c5 c6 n3;by_cases hb:Lv m T P/\m≠1
 rotate_left
 .have hf:(!decide (aZ m T P true=aZ m T P false)||decide (m=1))=true:=by
   grind
  rw[hf]at c6;obtain⟨w,S5,e5,Zj,hw,Z8⟩:=Pu (c:=3) Za.st g 0#2 0#1;exact⟨m,T,P,w,S5,bM rfl ((aF (bo e1)).trans ((aF f2).trans ((aF f3).trans (jz ((iJ c6).trans (bU (PF 0#0 0#0 (jW 0#0 0#0 c_i e5)))))))),p,hw,by omega,Za.trans Zj⟩
 obtain⟨lv,YX⟩:=hb;rw[decide_eq_true (lv),decide_eq_false YX]at c6;obtain⟨S5,e5,x5⟩:=Lb p.sb p.g 0#2 0#2 U8;have gR:=Ks p lv;have f5:=bo (i:=4) (bY (G:= [2#7,some _,4#8,some _,none,none,none,none,none,none]) (a:=ae 1) (b:=ae 3) 0#0 0#0 e5);generalize hR:(λi j=>nbr _ _)=R at f5 gR;have k6:bA _ [2#7,0#9,4#8,some (.ref r3),some (tab (mnS m T P) R),none,none,none,none,none] S5=some _:=rm (l6 (c_i (z:=0)));have Yw:Stp n S4 (S5++[Cell.lst (tups [[0]])]):=Stp.ex Za.st (x5.trans 2#6);obtain⟨r,F,v6,S7,e7,VG,q7,hF⟩:=J7 Yw.st gR (by have:=(uF p).2;omega) 6#0;have q37:=(Yw.trans VG).some n3 U8;have nr:r≠n:=λz=>by
  obtain⟨s,b,e⟩:=VG.st;rw[z,e]at q7;cases F with
  |nil=>simp[tups]at q7
  |cons a l=>simp[tups]at q7
 obtain⟨w,Z5,S8,e8,Xz,hw,Z8⟩:=Ls p YX VG.st q37 n3 q7 nr hF;exact⟨m,T,P,w,S8,bM rfl ((aF (bo e1)).trans ((aF f2).trans ((aF f3).trans ((aF ((gF c6).trans rfl)).trans ((aF f5).trans ((aF (bo k6)).trans ((aF e7).trans e8))))))),p,hw,Z8,((Za.trans Yw).trans VG).trans Xz⟩
end
end
section
open _L _G
section
variable {m:Nat}{T:Nat->Nat->Nat}{S:Sto}{u:U}
variable{n:Nat}
theorem Nr(h:ir n S):∃u S',rY [.ref n] S=some (u,S')/\Stp n S S'/\Tn n S' u:=by
 have hn:=h.lt;have ep:m2 uC _ (mC (.int 30)) [2#7,none] _=some (.int (10^30),S++2#3++14#0++20#4):=op2 c_i c_i (if_pos 25#4);have ed:kE 1#9 1#7 [2#7,none] (S++2#3++14#0)=some (.ref (S++2#3++14#0).length,S++2#3++14#0++20#4):=by
  generalize S++2#3++7#7=S0;have g0:(S0++[Cell.dic []])[S0.length]?=some _:=aX _ _;simp only[kE,mC,aw,keyOf,ah,g0];rw[dE _ _ 1#6,lP];rfl
 have e1:=ml (mc (a:=mC .non) rfl (mc (a:=mC (.bl true)) rfl (mc (a:=mC (.bl false)) rfl (mc Aw (mc (a:=mC (.str "")) rfl (mc (a:=mC (.str "0")) rfl (mc (show cH ag _ _=_ from rfl) (mc eM (mc (l6 (a:=mC (.bl true)) rfl) (mc (rm (c_i)) (mc ed (mc (l6 (a:=mC .non) rfl) (mc (l6 Aw) (mc (l6 (a:=mC (.str "a")) rfl) (mc ep (mc (l6 (l6 (c_i (z:=0)))) 18#3)))))))))))))))) 0#6;have V3:Ex S (S++2#3++14#0++20#4):=((Ex.push _ _).trans 2#6).trans 2#6;have g1:(S++2#3++14#0++20#4)[0#3]?=some _:=((Ex.push _ _).trans 2#6).some 6#0;have g2:(S++2#3++14#0++20#4)[(S++2#3).length]?=some _:=(Ex.push _ _).some 6#0;have g3:(S++2#3++7#7++20#4)[(S++2#3++14#0).length]?=some _:=aX _ _;have l1:0#3≠n:=by omega
 have l2:(S++2#3).length≠n:=by simp;omega
 have l3:(S++2#3++14#0).length≠n:=by simp;omega
 generalize S++2#3++7#7++[Cell.dic _]=S1 at e1 V3 g1 g2 g3;generalize (S++2#3++7#7).length=r3 at e1 g3 l3;generalize (S++2#3).length=r2 at e1 g2 l2;have all :∀ v∈([.non,.bl true,.bl false,.int (-1),.str "",.str "0",.tup [],.ref 0#3,.tup [.bl true],.ref r2,.ref r3,.tup [.non],.tup [.int (-1)],.tup [.str "a"],.int (10^30),.tup [.tup [.int 0]]]),Tn n S1 v:=by
  intro v hv;simp at hv;rcases hv with rfl|rfl|rfl|rfl|rfl|rfl|rfl|rfl|rfl|rfl|rfl|rfl|rfl|rfl|rfl|rfl
  .exact⟨.non,λz=>by cases z⟩
  .exact⟨.bl _,λz=>by cases z⟩
  .exact⟨.bl _,λz=>by cases z⟩
  .exact⟨.int _,λz=>by cases z⟩
  .exact⟨.str _,λz=>by cases z⟩
  .exact⟨.str _,λz=>by cases z⟩
  .exact⟨.tup 0#6 0#6,λz=>by cases z⟩
  .exact⟨.lst g1,λz=>by injection z with z;exact l1 z⟩
  .exact⟨.tup (λw hw=>by cases be.mp hw;exact .bl _) 0#6,λz=>by cases z⟩
  .exact⟨.lst g2,λz=>by injection z with z;exact l2 z⟩
  .exact⟨.dic g3,λz=>by injection z with z;exact l3 z⟩
  .exact⟨.tup (λw hw=>by cases be.mp hw;exact .non) 0#6,λz=>by cases z⟩
  .exact⟨.tup (λw hw=>by cases be.mp hw;exact .int _) 0#6,λz=>by cases z⟩
  .exact⟨.tup (λw hw=>by cases be.mp hw;exact .str _) 0#6,λz=>by cases z⟩
  .exact⟨.int _,λz=>by cases z⟩
  .exact⟨.tup (λw hw=>by cases be.mp hw;exact .tup _) 0#6,λz=>by cases z⟩
 generalize hits:([.non,.bl _,.bl _,.int _,.str "",.str _,.tup [],.ref 0#3,.tup _,.ref r2,.ref r3,.tup _,.tup _,.tup _,.int _,.tup _]:List U)=ZZ at e1 all;have hlen:ZZ.length=16:=by rw[<-hits];rfl
 have ZL:Stp n S (S1++[Cell.lst ZZ]):=Stp.ex h (V3.trans 2#6);obtain⟨r,S4,f4,hr,Za⟩:=eP (m:=16) ZL.st 0#1 0#1;have hS1:4#4≠n:=by obtain⟨z,hz⟩:=V3;rw[hz];simp;omega
 have g4:=Za.some hS1 6#0;have hi:ZZ[r]?=some ZZ[r]:=aI _;have e2:m2 _ 1#0 (mFn _ (aa 0#4 _)) [some _,some _] _=some _:=mK 0#0 (bY 0#0 c_i f4) g4 (gq hi);exact⟨_,S4,bM rfl ((aF (bo e1)).trans (bU e2)),ZL.trans Za,((all _ (bW _)).ex 2#6).stp Za⟩
theorem KI{l:List Nat}(h:ir n S)(hl:2#8<=24)(hm:0<m):∃u S',jv [.ref n,.tup (aj l),.int (m:Nat)] S=some (u,S')/\Stp n S S'/\Tn n S' u:=by
 have hn:=h.lt;have el:=by
  have:=add_n (G:= [2#7,15#6,some (.int (m:Nat)),none,none,none]) (S:=S) (x:=(aj l).length) (y:=1) (a:=mFn bR 3#9) (b:=mC (.int 1)) (sR 0#0) c_i;rwa[bf]at this
 obtain⟨k,S1,f1,hk,ZL⟩:=eP (m:=2#8+1) h 0#2 0#2;have h1:=ZL.st.lt;have e2:=ml (mc (c_i (z:=0)) (mc (c_i (z:=1)) (mc (a:=ae 2) (G := [2#7,15#6,some (.int (m:Nat)),some (.int (k:Nat)),none,none]) (S:=S1) (x := .int (m:Nat)) 0#0 (mc Aw (mc (a:=mC (.bl true)) rfl (mc (a:=mC .non) rfl (mc (a:=mC (.str "0")) rfl (mc (l6 (c_i (z:=0))) (mc (a:=m2 oB 0#5 1#7) (op2 (f:=oB) (var_eq (u := .int (m:Nat)) rfl) (c_i (z:=1)) rfl) 18#3))))))))) 0#6;have all :∀ v∈([.int 0,.int 1,.int (m:Nat),.int (-1),.bl true,.non,.str "0",.tup [.int 0],.int ((m:Nat)-1)]:List U),Smp v:=by
  intro v hv;simp at hv;rcases hv with rfl|rfl|rfl|rfl|rfl|rfl|rfl|rfl|rfl
  .exact .int _
  .exact .int _
  .exact .int _
  .exact .int _
  .exact .bl _
  .exact .non
  .exact .str _
  .exact .tup _
  .exact .int _
 generalize hits:([.int 0,.int 1,.int (m:Nat),.int (-1),.bl true,.non,.str "0",.tup [.int 0],.int ((m:Nat)-1)]:List U)=ZZ at e2 all;have hlen:ZZ.length=9:=by rw[<-hits];rfl
 have ZO:Stp n S1 (S1++[Cell.lst ZZ]):=Stp.ex ZL.st 2#6;obtain⟨r,S3,f3,hr,ZJ⟩:=eP (m:=9) ZO.st 0#1 0#1;have g3:=ZJ.some 0#2 6#0;have hi:ZZ[r]?=some ZZ[r]:=aI 0#2;have e3:m2 oIx _ (mFn aO (aa 0#4 (aa (mC (.int 9)) ag))) _ S1=some (ZZ[r],S3):=mK e2 (bY 0#0 c_i f3) g3 (gq hi);have hod:Smp ZZ[r]:=all _ (bW 0#2);generalize ZZ[r]=od at e3 hod;have h3:=ZJ.st.lt;have s1:∀S',mSl 1#0 none (some 0#8) 15#0 S'=some (.tup ((aj l).take k),S'):=λS'=>by
  have v1:ae 1 15#0 S'=some (.tup (aj l),S'):=rfl;have v3:ae 3 15#0 S'=some (.int (k:Nat),S'):=rfl;simp only[mSl,v1,aw,mZ,v3];rw[zw]
 have s2:∀S',mSl 1#0 (some 0#8) none 15#0 S'=some (.tup ((aj l).drop k),S'):=λS'=>by
  have v1:ae 1 15#0 S'=some (.tup (aj l),S'):=rfl;have v3:ae 3 15#0 S'=some (.int (k:Nat),S'):=rfl;simp only[mSl,v1,aw,mZ,v3];rw[xH]
 have s3:∀S',mSl 1#0 (some (m2 bN 0#8 1#7)) none 15#0 S'=some _:=λS'=>by
  have v1:ae 1 15#0 S'=some (.tup (aj l),S'):=rfl;have v3:m2 bN 0#8 1#7 15#0 S'=some (.int ((k+1:Nat):Int),S'):=rfl;simp only[mSl,v1,aw,mZ,v3];rw[xH]
 have WX:=bf l;have lt1:((aj l).take k).length<=24:=by rw[iq];omega
 have lt2:((aj l).drop k).length<=24:=by rw[om];omega
 have lt3:((aj l).drop (k+1)).length<=24:=by rw[om];omega
 have ss:∀v∈aj l,Smp v:=λv hv=>by obtain⟨x,_,rfl⟩:=aU.mp hv;exact .int _
 have t1:∀v∈(aj l).take k,Smp v:=λv hv=>ss v (ib hv);have t2:∀v∈(aj l).drop k,Smp v:=λv hv=>ss v (JU hv);have t3:∀v∈(aj l).drop (k+1),Smp v:=λv hv=>ss v (JU hv);have o1:∀v∈[od],Smp v:=λv hv=>by cases be.mp hv;exact hod
 have ap:∀{a b:List U},(∀v∈a,Smp v)->(∀v∈b,Smp v)->∀v∈a++b,Smp v:=λ{a b} ha hb v hv=>(aY.mp hv).elim (ha v) (hb v);have e5:=ml (mc (vc (vc (s1 S3) (l6 (a:=ae 4) (u:=od) 0#0) 14#4) (s3 S3) 26#3) (mc (vc (s1 S3) (s3 S3) 0#2) (mc (vc (vc (s1 S3) (l6 (a:=ae 4) (u:=od) 0#0) 14#4) (s2 S3) 26#3) (mc (a:=mFn vU 3#9) (fC (f:=vU) (var_eq (u:= .tup (aj l)) rfl) (rfl)) 18#3)))) 0#6;generalize hX:([.tup _,.tup _,.tup _,.ref S3.length]:List U)=X at e5;have hrv:∀S',m1 oG 1#0 23#7 S'=some (.tup (aj l).reverse,S'):=λS'=>rfl;have s1':∀S',mSl 1#0 none (some 0#8) 23#7 S'=some (.tup ((aj l).take k),S'):=λS'=>s1 S';have s2':∀S',mSl 1#0 (some 0#8) none 23#7 S'=some (.tup ((aj l).drop k),S'):=λS'=>s2 S';have e6:=ml (mc (hrv (S3++13#2++[Cell.lst X])) (mc (vc (s2' _) (s1' _) 0#2) (mc (a:=m2 bN 1#0 1#0) (vc (xs:=aj l) (ys:=aj l) 0#0 0#0 0#2) (mc (a:=mC .non) rfl (mc (show cH ag _ _=_ from rfl) (mc (a:=ae 1) (x:= .tup (aj l)) 0#0 18#3)))))) 0#6;generalize hY:([.tup (aj l).reverse,.tup _,.tup (aj l++aj l),.non,.tup [],.tup (aj l)]:List U)=Y at e6;have lX:X.length=4:=by rw[<-hX];rfl
 have lY:Y.length=6:=by rw[<-hY];rfl
 have gX:(S3++13#2++[Cell.lst X]++[Cell.lst Y])[(S3++13#2).length]?=some (Cell.lst X):=(Ex.push _ _).some 6#0;have gY:(S3++13#2++[Cell.lst X]++[Cell.lst Y])[(S3++13#2++[Cell.lst X]).length]?=some (Cell.lst Y):=aX _ _;have gW:(S3++13#2++[Cell.lst X]++[Cell.lst Y])[S3.length]?=some 17#1:=((Ex.push _ _).trans 2#6).some 6#0;have x4:Ex S3 (S3++13#2++[Cell.lst X]++[Cell.lst Y]):=((Ex.push _ _).trans 2#6).trans 2#6;have e7:m2 bN 2#1 (bA (aa (m1 oG 1#0) (aa (m2 bN (mSl 1#0 (some 0#8) none) 23#4) (aa (m2 bN 1#0 1#0) (aa (mC .non) (aa (cH ag) 3#9)))))) 23#7 (S3++13#2++[Cell.lst X])=some (.ref (S3++13#2++[Cell.lst X]++[Cell.lst Y]).length,S3++13#2++[Cell.lst X]++[Cell.lst Y]++[.lst (X++Y)]):=by
  refine op2 (f:=bN) 0#0 e6 ?_;simp only[bN,gX,gY];exact if_pos (by rw[lX,lY];decide)
 generalize S3++13#2++[Cell.lst X]++[Cell.lst Y]=S4 at e7 gW x4;have tn:∀{us:List U},(∀v∈us,Smp v)->1#1<64->Tn n S4 (.tup us):=λh hl=>⟨.tup h hl,λz=>by cases z⟩;have allT:∀v∈X++Y,Tn n S4 v:=by
  intro v hv;rcases aY.mp hv with hv|hv
  .rw[<-hX]at hv
   simp only[a7,oq,_root_.or_false]at hv;rcases hv with rfl|rfl|rfl|rfl
   .exact tn (ap (ap t1 o1) t3) 26#3
   .exact tn (ap t1 t3) (by simp only[aQ];omega)
   .exact tn (ap (ap t1 o1) t2) 26#3
   .exact⟨.lst gW,λz=>by injection z with z;omega⟩
  .rw[<-hY]at hv
   simp at hv;rcases hv with rfl|rfl|rfl|rfl|rfl|rfl
   .exact tn (λv hv=>ss v (yA.mp hv)) (by rw[eF];omega)
   .exact tn (ap t2 t1) (by simp only[aQ];omega)
   .exact tn (ap ss ss) (by simp only[aQ];omega)
   .exact⟨.non,λz=>by cases z⟩
   .exact tn 0#6 0#6
   .exact tn ss 0#2
 have hlZ:(X++Y).length=10:=by rw[aQ,lX,lY]
 generalize X++Y=Z at e7 allT hlZ;have Zj:Stp n S3 (S4++[Cell.lst Z]):=Stp.ex ZJ.st (x4.trans 2#6);obtain⟨q,S6,f6,hq,Yw⟩:=eP (m:=10) Zj.st 0#1 0#1;have hS4:S4.length≠n:=by obtain⟨z,hz⟩:=x4;rw[hz];simp;omega
 have g6:=Yw.some hS4 6#0;have hi6:Z[q]?=some Z[q]:=aI 0#2;have e8:m2 oIx 2#1 (mFn aO (aa 0#4 (aa (mC (.int 10)) ag))) [2#7,15#6,some (.int (m:Nat)),some (.int (k:Nat)),some od,some (.ref S4.length)] (S4++[Cell.lst Z])=some (Z[q],S6):=mK 0#0 (bY 0#0 c_i f6) g6 (gq hi6);refine⟨Z[q],S6,bM (G:= [2#7,15#6,some (.int (m:Nat)),some (.int (k:Nat)),some od,some (.ref S4.length)]) rfl ?_,(((ZL.trans ZO).trans ZJ).trans Zj).trans Yw,((allT _ (bW 0#2)).ex 2#6).stp Yw⟩;exact(aF (bo (bY 0#0 el f1))).trans ((aF (bo e3)).trans ((aF (bo e5)).trans ((aF (bo e7)).trans (bU e8))))
end
end
section
open _L _G
section
variable {m:Nat}{T:Nat->Nat->Nat}{P w:List Nat}{S:Sto}{u:U}
theorem QM(h:Thg S u):(∃w,u=.tup (aj w)/\Lt m w/\3#3<64)\/xG m u=false:=by
 cases ha:xG m u with
 |false=>exact .inr rfl
 | true=>
   left;cases h with
   | tup hs hl=>
     obtain⟨l,rfl,ZV⟩:=IB ha;exact⟨l,rfl,ZV,by rwa[bf]at hl⟩
   |_=>cases ha
theorem KR{v1 v2:U}(h:Thg S u)(ha:xG m u=false):∃S',eO [tab m T,v1,v2,u] S=some (.bl false,S')/\Ex S S':=by
 obtain⟨S1,e1,x1⟩:=KB h;rw[ha]at e1;have c1:=not_eq (of_eq (bY (G:= [0#9,some v1,some v2,some u,none]) (a:=ae 3) (b:=mFn _ (aa 0#4 _)) 0#0 9#5 e1));have c3:=Sf (b:=cOf (m2 oIn 1#9 0#8)) c1;exact⟨S1,bM rfl (jz ((iJ c3).trans (bU rfl))),x1⟩
theorem Us(p:Prl m T P)(h:Thg S u)(hn:xG m u=false):∃v S',eh 10#5 S=some (v,S')/\Ex S S'/\Ans S' (if Lv m T P then .inr 2 else .inr 1) v:=by
 by_cases lv:Lv m T P
 .rw[if_pos lv]
  exact Dl 0#6 λS1 x1=>Ab p lv λS2 x2=>KR ((h.ex x1).ex x2) hn
 .rw[if_neg lv]
  exact Dl 0#6 λS1 _=>Bb p lv
def pnV(n:Nat):U->Bool
 |.int i=>decide (0<i)&&decide (i<n)
 |_=>false
theorem Qv{v:U}{r:Nat}{x:Option U}(h:Smp v):iZ (m1 (gv "int") 2#1) (iZ (m1 pG (m1 (gv "bool") 2#1)) (mCh oLt oLt 1#9 2#1 7#5)) (r61 m T P u r x ++ [some v]) S=some (.bl (pnV m v),S):=by
 cases h with
 | int i=>
   have h1:m1 (gv "int") 2#1 (r61 m T P u r x ++ [some 3#0]) S=some _:=rfl;have h2:m1 pG (m1 (gv "bool") 2#1) (r61 m T P u r x ++ [some 3#0]) S=some _:=rfl;have v5:ae 5 26#2 S=some _:=rfl;have c0:mC (.int 0) 26#2 S=some _:=rfl;have hb:mFn bR 5#2 26#2 S=some _:=len_tab 0#0;have o1:oLt (.int 0) 3#0 S=some _:=rfl;have o2:oLt 3#0 (.int m) S=some _:=rfl;have h3:mCh oLt oLt 1#9 2#1 7#5 26#2 S=some (.bl (decide (0<i)&&decide (i<m)),S):=by
    simp only[mCh,c0,v5,hb,aw,o1];cases decide (0<i)<;>simp[o2]
   exact CP h1 (CP h2 h3)
 |bl b=>rfl
 |non=>rfl
 |str x=>rfl
 |tup us=>rfl
theorem Mp:∀{us:List U},us.all (pnV m)=true->us.all (nbV m)=true
 |[],_=>rfl
 | u::us,h=>by
   rw[bK,av]at h ⊢;refine⟨?_,Mp h.2⟩;cases u with
   | int i=>
     have h1:=h.1;simp[pnV,nbV]at h1 ⊢;omega
   |_=>exact absurd h.1 (by simp[pnV])
theorem SY(p:Prl m T P)(h:Thg S u)(hn:xG m u=false):∃v S',eC 10#5 S=some (v,S')/\Ex S S'/\Ans S' (if Lv m T P then .inr 2 else .inr 1) v:=by
 obtain⟨r,S1,e1,x1,q1,S2,c2,x2⟩:=A1 p;have f1:=bo (i:=3) (jW (G:= [some _,some _,some u,none,none]) (a:=ae 0) (b:=ae 1) (c:=mC _) 0#0 0#0 rfl e1);by_cases lv:Lv m T P
 rotate_left
 .rw[decide_eq_false lv]at c2
  rw[if_neg lv];exact⟨_,_,bM rfl ((aF f1).trans (jz ((iJ c2).trans (sZ (q:=1))))),(x1.trans x2).trans 2#6,_,rfl,aX _ _⟩
 rw[decide_eq_true lv]at c2;rw[if_pos lv];have h2:=h.ex (x1.trans x2);have d1:=not_eq (of_eq (Dk (G:=r61 m T P u r none) (a:=ae 2) 0#0 h2));have bad:∀{S3:Sto},cOr _ _ _ S2=some _->Ex S2 S3->∃v S',eC [tab m T,.tup _,u] S=some _/\Ex S S'/\Ans S' (.inr 2) v:=λ{S3} d3 x3=>
  ⟨_,_,bM rfl ((aF f1).trans ((aF ((gF c2).trans rfl)).trans (jz ((iJ d3).trans (sZ (q:=2)))))),((x1.trans x2).trans x3).trans 2#6,_,rfl,aX _ _⟩
 cases ht:isTup u with
 | false=>
   rw[ht]at d1;exact bad (Sf d1) (Ex.refl _)
 | true=>
   cases h2 with
   | tup hs hl=>
     rename_i us
     have d2:=of_eq (Qr (G:=r61 m T P (.tup us) r none) (a:=mFn _ (aa 0#5 _)) (b:=mFn _ (aa 0#8 _)) (sR 0#0) (yQ 0#0 (x2.some q1)));by_cases YC:1#1=mnS m T P
     .rw[decide_eq_true YC]at d2
      have e3:=sJ (t:=cTT) (G:=r61 m T P _ r none) (S:=S2) (a:=ae 2) 0#0 18#8 (λ_ _=>rfl) (λv hv _=>Qv (hs v hv));rw[ll.mpr (λ_ _=>rfl)]at e3;have c3:=not_eq (of_eq (IF e3));have hf:us.all (pnV m)=false:=by
       cases hz:us.all _ with
       |false=>rfl
       |true=>exact absurd (Mp hz) (by rw[show us.all _=false from hn];simp)
      rw[hf]at c3;exact⟨_,_,bM rfl ((aF f1).trans ((aF ((gF c2).trans rfl)).trans ((aF ((gF (_W.or_false d1 d2)).trans rfl)).trans (jz ((iJ c3).trans (sZ (q:=2))))))),((x1.trans x2).trans 2#6).trans 2#6,_,rfl,aX _ _⟩
     .rw[decide_eq_false YC]at d2
      exact bad (Uo d1 d2) (Ex.refl _)
   |_=>cases ht
theorem Gg(p:Prl m T P)(h:Thg S u):∃v S1 z S2,eh 10#5 S=some (v,S1)/\eC 10#5 S1=some (z,S2)/\Ex S S2/\jZ [v,z] S2=some (.bl true,S2):=by
 rcases QM (m:=m) h with⟨w,rfl,hw,hl⟩|hn
 .obtain⟨v,S1,f1,x1,a1⟩:=UB p hw hl
  obtain⟨z,S2,f2,x2,a2⟩:=Rx p hw hl;exact⟨v,S1,z,S2,f1,f2,x1.trans x2,Iz (a1.ex x2) a2 (E2 p hw)⟩
 .obtain⟨v,S1,f1,x1,a1⟩:=Us p h hn
  obtain⟨z,S2,f2,x2,a2⟩:=SY p (h.ex x1) hn;refine⟨v,S1,z,S2,f1,f2,x1.trans x2,Iz (a1.ex x2) a2 ?_⟩;by_cases lv:Lv m T P
  .rw[if_pos lv];show 2<1000;decide
  .rw[if_neg lv];show 1<1000;decide
end
end
section
open _L _G
theorem p62{n:Nat}(h:n=1\/n=2):Prl n (eS n) [0]:=by
 rcases h with rfl|rfl
 .exact⟨jT 0#1,by decide,25#4,by decide⟩
 .exact⟨jT 0#1,by decide,25#4,by decide⟩
theorem GM(ns:List Int)(hl:11#7<=63)(S:Sto)(h1:0#3=1)(h2:getL S 0=some (ns.map U.int)):∃S',Ru [.ref 0] S=some (.bl true,S'):=by
 have e0:=ml (mc (show cH ag _ _=_ from rfl) (mc (l6 (c_i (z:=0))) (mc (a:=mC .non) (G:= [7#3,none,none,none,none,none,none,none]) (S:=S) rfl (mc (rm (c_i (z:=1))) (mc (l6 (a:=mC (.bl true)) rfl) (mc (l6 (c_i (z:=1))) 18#3)))))) 0#6;have all0:∀v∈([.tup [],.tup [.int 0],.non,.ref 0#3,.tup [.bl true],.tup [.int 1]]),Thg (S++[Cell.lst [.int 1]]) v:=by
  intro v hv;simp at hv;rcases hv with rfl|rfl|rfl|rfl|rfl|rfl
  .exact .tup 0#6 0#6
  .exact .tup (λv hv=>by cases be.mp hv;exact .int _) 0#6
  .exact .non
  .exact .lst 6#0
  .exact .tup (λv hv=>by cases be.mp hv;exact .bl _) 0#6
  .exact .tup (λv hv=>by cases be.mp hv;exact .int _) 0#6
 have x00:Ex S (S++[Cell.lst [U.int 1]]):=Ex.push _ _;generalize hI0:([.tup [],.tup _,.non,.ref _,.tup _,.tup _]:List U)=I0 at e0 all0;have hI0l:I0.length=6:=by rw[<-hI0];rfl
 generalize S++7#7=S00 at e0 all0 x00;obtain⟨Y9,S0,f0,⟨a0,b0,rfl⟩,x0⟩:=o5 (i:=1) (us:=I0) e0 0#2
  (λi G S0=>(∃a b,G = [some _,a,b,none,none,none,none,none])/\Ex _ S0) ⟨⟨_,_,rfl⟩,Ex.refl _⟩ (λi G S0 hp=>by unfold getL;rw[hp.2.some 6#0]) (by
   rintro i u G S0 hu ⟨⟨a,b,rfl⟩,x0⟩;have ht:=(all0 u (bu hu)).ex ((Ex.push _ _).trans x0);obtain⟨Sa,ea,xa⟩:=lK (n:=1) 0#1 0#1;obtain⟨Sb,eb,xb⟩:=lK (n:=2) 0#1 0#1;have e2:=ml (mc (fC (G:= [7#3,some u,b,none,none,none,none,none]) (c_i) ea) (mc (fC (c_i) eb) 18#3)) 0#6;obtain⟨X3,S3,f3,⟨b3,rfl⟩,x3⟩:=o5 (i:=2) (us:= [tab 1 _,tab 2 _]) (b:=sIf _ (b9 14#1) cM) e2 0#6
    (λi G S3=>(∃b,G = [some _,some u,b,none,none,none,none,none])/\Ex _ S3) ⟨⟨_,rfl⟩,Ex.refl _⟩ (λi G S0 hp=>by unfold getL;rw[hp.2.some 6#0]) (by
     rintro j g G S3 hg ⟨⟨b3,rfl⟩,x3⟩;obtain⟨n,hn,rfl⟩ :∃n,(n=1\/n=2)/\g=tab n (eS n):=by
      have:=bu hg;simp at this;rcases this with rfl|rfl
      .exact⟨1,.inl rfl,rfl⟩
      .exact⟨2,.inr rfl,rfl⟩
     obtain⟨v,S4,z,S5,f4,f5,x5,f6⟩:=Gg (p62 hn) (ht.ex (((xa.trans xb).trans 2#6).trans x3));have t0:∀S,cH 7#6 [7#3,some u,some (tab n (eS n)),none,none,none,none,none] S=some _:=λS=>rfl;have c:=not_eq (of_eq (bY (jW (a:=ae 2) (c:=ae 1) 0#0 (t0 _) 0#0 f4) (jW (a:=ae 2) (c:=ae 1) 0#0 (t0 _) 0#0 f5) f6))
     exact⟨_,S5,(gF c).trans rfl,⟨_,rfl⟩,x3.trans x5⟩)
   exact⟨_,S3,f3,⟨_,_,rfl⟩,((x0.trans xa).trans xb).trans ((Ex.push _ _).trans x3)⟩)
 have WK:=Scr.ex h2 λc h=>((x00.trans 2#6).trans x0).some h;obtain⟨q,hq,eq⟩:=F9 (G:= [some _,a0,b0,none,none,none,none,none]) WK rfl hl;obtain⟨Y2,S1,e1,_,_⟩:=lD (i:=3)
  (b:=aR (bq 4 (mFn _ (aa 0#4 (aa 0#8 _)))) _)
  eq 18#8
  (λk G S'=>(∃a b c d e f g,G=[some _,a,b,c,d,e,f,g])/\Scr ns S') ⟨⟨_,_,_,_,_,_,_,rfl⟩,WK⟩
  (by
   rintro k G S' hk ⟨⟨u1,u2,u3,u4,u5,u6,u7,rfl⟩,hs⟩;have h0:=hs.lt;obtain⟨S2,f2,x2,ZO⟩:=Hk hs;obtain⟨m,T,P,w,S3,f3,p,hw,Z8,ZJ⟩:=Ny ZO;have a3:ze (mFn hU 5#3) (gTp 3 (eK (gN 2) 23#5)) [7#3,u1,u2,3#1,some 14#3,u5,u6,u7] S2=some (.nx,[7#3,u1,0#9,3#1,some 14#3,4#8,some 4#2,u7],S3):=by
    have:=fC (G:= [7#3,u1,u2,3#1,some _,u5,u6,u7]) (a:=ae 4) 0#0 f3;simp[ze,this];rfl
   obtain⟨ys,S8,e8,⟨Xz,V5⟩,hyl⟩:=oj (e:=mFn _ (aa 1#3 (aa (ae 6) (aa (mFn _ (aa 0#5 _)) _)))) (G:= [some _,u1,0#9,some _,some _,some _,some _,u7])
    (λacc S8=>Stp _ S3 S8 /\ ∀v∈acc,Tn _ S8 v) (bj 0 4) [] _ ⟨Stp.refl ZJ.st,by simp⟩ (by
     rintro j acc u S8 hu _ ⟨Xz,ZN⟩;obtain⟨v,S9,f9,WE,hv⟩:=KI Xz.st Z8 p.g.pos;refine⟨v,S9,jW 0#0 0#0 9#5 f9,Xz.trans WE,λx hx=>?_⟩;rcases aY.mp hx with hx |hx
     .exact(ZN x hx).stp WE
     ·cases be.mp hx;exact hv)
   have Xn:=by simpa [bj]using hyl
   have i4:iR1 _ [7#3,u1,0#9,3#1,some 14#3,4#8,some 4#2,u7] S3=some _:=jH (n:=4) c_i 0#1;have e9:=bo (i:=7) (jJ i4 e8 (by rw[Xn];decide));have h8:=Xz.st.lt;have WE:Stp _ S8 (S8++[Cell.lst ys]):=Stp.ex Xz.st 2#6;obtain⟨o,XT,f10,Xq,ho⟩:=Nr WE.st;have g9:=Xq.some 0#2 6#0;have sl:mSl (ae 6) none (some 1#7) 27#0 XT=some (.tup (aj (w.take 1)),XT):=by
    have v6:ae 6 27#0 XT=some _:=rfl;have c1:mC (.int 1) 27#0 _=some (.int (1:Nat),XT):=rfl;simp only[mSl,v6,aw,mZ,c1,zw];unfold aj;rw[ua]
   have e11:=ml (mc (fC (a:=ae 4) 0#0 f10) (mc sl (mc (show cH ag _ _=_ from rfl) 18#3))) 0#6;have V6:=Qa (a:=ae 7) 0#0 e11 ((Ex.push _ _).some g9) 6#0 (by rw[Xn];simp);have ZG:∀v∈ys++20#0,Thg XT v:=by
    intro v hv;rcases aY.mp hv with hv|hv
    .exact(((V5 v hv).stp WE).stp Xq).1
    .simp at hv
     rcases hv with rfl|rfl|rfl
     .exact ho.1
     .exact Thg.nat (by rw[iq];omega)
     .exact .tup 0#6 0#6
   have Vt:Ex _ (XT++[Cell.lst 20#0]++[Cell.lst (ys++20#0)]):=(Ex.push _ _).trans 2#6;have hZl:(ys++20#0).length=7:=by rw[aQ,Xn];rfl
   have Vg:(XT++7#7++[Cell.lst (ys++20#0)])[(XT++[Cell.lst 20#0]).length]?=some _:=aX _ _;generalize ys++[o,.tup _,.tup []]=Z at V6 ZG Vt hZl Vg;generalize XT++7#7++[Cell.lst Z]=S12 at V6 Vt Vg;obtain⟨Z4,Vy,f13,⟨b13,rfl⟩,x13⟩:=o5 (i:=1) (us:=Z) (b:=sIf _ (b9 14#1) cM) V6 0#2
    (λi G Vy=>(∃b,G = [some _,b,some _,some _,some _,some _,some _,some _])/\Ex _ Vy) ⟨⟨_,rfl⟩,Ex.refl _⟩ (λi G Vy hp=>by unfold getL;rw[hp.2.some Vg]) (by
     rintro j u G Vy hu ⟨⟨b13,rfl⟩,x13⟩;obtain⟨v,S14,z,S15,f14,f15,x15,f16⟩:=Gg p ((ZG u (bu hu)).ex (Vt.trans x13));have c:=not_eq (of_eq (bY (G:= [7#3,some u,some _,3#1,some 14#3,some _,some 4#2,some (.ref S8.length)]) (jW (a:=ae 2) (b:=ae 5) (c:=ae 1) 0#0 0#0 0#0 f14) (jW (a:=ae 2) (b:=ae 5) (c:=ae 1) 0#0 0#0 0#0 f15) f16))
     exact⟨_,_,(gF c).trans rfl,⟨_,rfl⟩,x13.trans x15⟩)
   refine⟨_,_,(aF (bo (bY 0#0 0#0 f2))).trans ((aF a3).trans ((aF e9).trans f13)),⟨_,_,_,_,_,_,_,rfl⟩,?_⟩
   exact((hs.ex λc h=>x2.some h).ex λc h=>(((ZJ.trans Xz).trans WE).trans Xq).some (by omega) h).ex λc h=>(Vt.trans x13).some h)
 exact⟨S1,bM rfl ((aF f0).trans ((aF e1).trans (bU rfl)))⟩
end
def top(i:Nat):Stmt:=PySem.Challenge.pw_groupwalks_k62_what_does_not_lift.main.body.getD i (.Pass ⟨0,0,0,0⟩)
abbrev kP:Stmt:=top 32
abbrev m8:Stmt:=top 33
abbrev pC:Stmt:=top 34
abbrev nE:Stmt:=top 35
abbrev ni:Stmt:=top 36
abbrev k7:Stmt:=top 38
abbrev pU:Stmt:=top 37
abbrev nL:Stmt:=top 40
abbrev mW:Stmt:=top 39
abbrev nh:Stmt:=top 41
abbrev o6:Stmt:=top 46
abbrev pN:Stmt:=top 48
abbrev nI:Stmt:=top 49
abbrev mz:Stmt:=top 50
abbrev pk:Stmt:=top 51
abbrev nF:Stmt:=top 43
abbrev pv:Stmt:=top 47
abbrev l8:Stmt:=top 44
abbrev ju:Stmt:=top 56
abbrev jA:Stmt:=top 54
abbrev o8:Stmt:=top 45
abbrev sH:Stmt:=top 53
abbrev qJ:Stmt:=top 18
abbrev lZ:Stmt:=top 12
abbrev jK:Stmt:=top 19
abbrev j7:Stmt:=top 22
abbrev lW:Stmt:=top 14
abbrev jc:Stmt:=top 20
abbrev pV:Stmt:=top 21
abbrev gp:Stmt:=top 23
abbrev vf:Stmt:=top 25
abbrev iS:Stmt:=top 26
abbrev kN:Stmt:=top 27
abbrev iB:Stmt:=top 10
abbrev gH:Stmt:=top 11
abbrev yO:Stmt:=top 16
abbrev Cf:Stmt:=top 17
abbrev yN:Stmt:=top 13
abbrev md:Stmt:=top 29
abbrev nJ:Stmt:=top 30
abbrev fH:Stmt:=top 42
abbrev jF:Stmt:=top 57
abbrev nk:Stmt:=top 52
abbrev kc:Stmt:=top 55
abbrev Gw:Stmt:=top 58
abbrev N0:List Str := ["script","k"]
abbrev N1:List Str := ["script","k","cell"]
abbrev N2:List Str := ["state","many","found","mixed"]
abbrev N3:List Str := ["n"]
abbrev N4:List Str := ["n","found","i","row","j","turn"]
abbrev N5:List Str := ["signs","kinds","found","one","row","other","sign"]
abbrev N6:List Str := ["one","other","size","found","i","row","j","ahead"]
abbrev N7:List Str := ["group","order"]
abbrev N8:List Str := ["state","many","left"]
abbrev N9:List Str := ["state","most","way","found","first","one"]
abbrev N10:List Str := ["group","things","found","fresh","here","one"]
abbrev N11:List Str := ["state","group"]
abbrev N12:List Str := ["group","part","left","found","gone","thing","row"]
abbrev N13:List Str := ["parted","thing"]
abbrev N14:List Str := ["group","parted","found","one"]
abbrev N15:List Str := ["state","group","most","left","found","k"]
abbrev N16:List Str := ["state","group","most"]
abbrev N17:List Str := ["group","steps","most","found","line","walk","there","here","fresh"]
abbrev N18:List Str := ["state","group","part","parted","rest","rounds","steps","walk","number","some"]
abbrev N19:List Str := ["state","walk","many","at","odd","some"]
abbrev N20:List Str := ["found","due"]
abbrev N21:List Str := ["state","some"]
abbrev N22:List Str := ["rising","piece_at","found","met","least","piece","one"]
abbrev N23:List Str := ["group"]
abbrev N24:List Str := ["group","part"]
abbrev N25:List Str := ["group","part","numbers","number","side","thing"]
abbrev N26:List Str := ["many","times","rows","i"]
abbrev N27:List Str := ["group","part"]
abbrev N28:List Str := ["group","part"]
abbrev N29:List Str := ["group","part","leasts","numbers"]
abbrev N30:List Str := ["group","walk","come_to","thing"]
abbrev N31:List Str := ["group","come_to"]
abbrev N32:List Str := ["group","walk","come_to"]
abbrev N33:List Str := ["value","many"]
abbrev N34:List Str := ["value","many"]
abbrev N35:List Str := ["group","things","found","waiting","place","thing","onward"]
abbrev N36:List Str := ["group","things"]
abbrev N37:List Str := ["group","things","product","thing"]
abbrev N38:List Str := ["group","part","rest","walk","numbers"]
abbrev N39:List Str := ["group","part","walk","rest"]
abbrev N40:List Str := ["call","error","e","kinds"]
abbrev N41:List Str := ["group","part","walk","found","refused"]
abbrev N42:List Str := ["group","things","found","one"]
abbrev N43:List Str := ["group","part","walk","parted","numbers"]
abbrev N44:List Str := ["script","thing","group","k","state","part","walk","things"]
def T0(cl:Nat->Addr):Tb:=⟨[],[],[],[],false,⟨[],[],cl,"<lambda>"⟩⟩
def T1(cl:Nat->Addr):Tb:=(T0 cl).dd "_law_cell_at" ja
def T2(cl:Nat->Addr):Tb:=(T1 cl).dd "_law_state" nz
def T3(cl:Nat->Addr):Tb:=(T2 cl).dd "_law_take" aO
def T4(cl:Nat->Addr):Tb:=(T3 cl).dd "_law_clock" dw
def T5(cl:Nat->Addr):Tb:=(T4 cl).dd "_law_flips" fV
def T6(cl:Nat->Addr):Tb:=(T5 cl).dd "_law_quarter" gQ
def T7(cl:Nat->Addr):Tb:=(T6 cl).dd "_law_both" my
def T8(cl:Nat->Addr):Tb:=(T7 cl).dd "_law_named" kq
def T9(cl:Nat->Addr):Tb:=(T8 cl).dd "_law_order" kH
def T10(cl:Nat->Addr):Tb:=(T9 cl).dd "_law_group" kr
def T11(cl:Nat->Addr):Tb:=(T10 cl).dd "_law_span" iT
def T12(cl:Nat->Addr):Tb:=(T11 cl).dd "_law_part" o7
def T13(cl:Nat->Addr):Tb:=(T12 cl).dd "_law_sides" fh
def T14(cl:Nat->Addr):Tb:=(T13 cl).dd "_law_number" ft
def T15(cl:Nat->Addr):Tb:=(T14 cl).dd "_law_rest" pR
def T16(cl:Nat->Addr):Tb:=(T15 cl).dd "_law_steps" ky
def T17(cl:Nat->Addr):Tb:=(T16 cl).dd "_law_some" pM
def T18(cl:Nat->Addr):Tb:=(T17 cl).dd "_law_rounds" gw
def T19(cl:Nat->Addr):Tb:=(T18 cl).dd "_law_lift_case" hU
def T20(cl:Nat->Addr):Tb:=(T19 cl).dd "_law_bent_walk" jv
def T21(cl:Nat->Addr):Tb:=(T20 cl).dd "_law_same" jZ
def T22(cl:Nat->Addr):Tb:=(T21 cl).dd "_law_odd" rY
def T23(cl:Nat->Addr):Tb:=(T22 cl).hh "pieces" vp
def T24(cl:Nat->Addr):Tb:=(T23 cl).dd "all_things" jG
def T25(cl:Nat->Addr):Tb:=(T24 cl).dd "left_sides" fq
def T26(cl:Nat->Addr):Tb:=(T25 cl).dd "side_numbers" iA
def T27(cl:Nat->Addr):Tb:=(T26 cl).hh "table_of" vV
def T28(cl:Nat->Addr):Tb:=(T27 cl).dd "right_sides" kO
def T29(cl:Nat->Addr):Tb:=(T28 cl).dd "is_level" j0
def T30(cl:Nat->Addr):Tb:=(T29 cl).xx "rest_group" fo iG
def T31(cl:Nat->Addr):Tb:=(T30 cl).dd "places" vS
def T32(cl:Nat->Addr):Tb:=(T31 cl).dd "are_all_things" iR
def T33(cl:Nat->Addr):Tb:=(T32 cl).dd "comes_round" kR
def T34(cl:Nat->Addr):Tb:=(T33 cl).dd "is_number_below" kD
def T35(cl:Nat->Addr):Tb:=(T34 cl).dd "are_numbers_below" gI
def T36(cl:Nat->Addr):Tb:=(T35 cl).dd "roads" DN
def T37(cl:Nat->Addr):Tb:=(T36 cl).dd "span" Ct
def T38(cl:Nat->Addr):Tb:=(T37 cl).dd "along" zj
def T39(cl:Nat->Addr):Tb:=(T38 cl).dd "is_to_lift" eO
def T40(cl:Nat->Addr):Tb:=(T39 cl).xx "lifted" iC lH
def T41(cl:Nat->Addr):Tb:=(T40 cl).qq "_law_refused" [1,2]
def T42(cl:Nat->Addr):Tb:=(T41 cl).dd "_law_lifted" eh
def T43(cl:Nat->Addr):Tb:=(T42 cl).dd "_law_along" fY
def T44(cl:Nat->Addr):Tb:=(T43 cl).dd "_law_due_lift" eC
theorem xt:∀(cl:Nat->Addr),cD (T0 cl) N0 kP=some gO:=by intro cl;kernel_rfl
theorem uQ:a8 N0 (N0.take 2) (aC kP):=dr 1#4
theorem AN:∀(cl:Nat->Addr),cD (T1 cl) N1 m8=some kG:=by intro cl;kernel_rfl
theorem y9:a8 N1 (N1.take 2) (aC m8):=dr 1#4
theorem BL:∀(cl:Nat->Addr),cD (T2 cl) N2 pC=some mm:=by intro cl;kernel_rfl
theorem zU:a8 N2 (N2.take 2) (aC pC):=dr 1#4
theorem Ag:∀(cl:Nat->Addr),cD (T3 cl) N3 nE=some nu:=by intro cl;kernel_rfl
theorem zk:a8 N3 (N3.take 1) (aC nE):=dr 1#4
theorem AA:∀(cl:Nat->Addr),cD (T4 cl) N4 ni=some mX:=by intro cl;kernel_rfl
theorem yL:a8 N4 (N4.take 1) (aC ni):=dr 1#4
theorem wO:∀(cl:Nat->Addr),cD (T5 cl) N5 k7=some kU:=by intro cl;kernel_rfl
theorem wz:a8 N5 (N5.take 0) (aC k7):=dr 1#4
theorem Cu:∀(cl:Nat->Addr),cD (T6 cl) N6 pU=some pO:=by intro cl;kernel_rfl
theorem Ac:a8 N6 (N6.take 2) (aC pU):=dr 1#4
theorem zW:∀(cl:Nat->Addr),cD (T7 cl) N7 nL=some m6:=by intro cl;kernel_rfl
theorem y7:a8 N7 (N7.take 2) (aC nL):=dr 1#4
theorem A6:∀(cl:Nat->Addr),cD (T8 cl) N8 mW=some nA:=by intro cl;kernel_rfl
theorem zd:a8 N8 (N8.take 2) (aC mW):=dr 1#4
theorem A4:∀(cl:Nat->Addr),cD (T9 cl) N9 nh=some ny:=by intro cl;kernel_rfl
theorem yR:a8 N9 (N9.take 2) (aC nh):=dr 1#4
theorem Ca:∀(cl:Nat->Addr),cD (T10 cl) N10 o6=some uK:=by intro cl;kernel_rfl
theorem AV:a8 N10 (N10.take 2) (aC o6):=dr 1#4
theorem CI:∀(cl:Nat->Addr),cD (T11 cl) N11 pN=some wx:=by intro cl;kernel_rfl
theorem z4:a8 N11 (N11.take 2) (aC pN):=dr 1#4
theorem Au:∀(cl:Nat->Addr),cD (T12 cl) N12 nI=some tE:=by intro cl;kernel_rfl
theorem zz:a8 N12 (N12.take 3) (aC nI):=dr 1#4
theorem zD:∀(cl:Nat->Addr),cD (T13 cl) N13 mz=some rh:=by intro cl;kernel_rfl
theorem xm:a8 N13 (N13.take 2) (aC mz):=dr 1#4
theorem Cw:∀(cl:Nat->Addr),cD (T14 cl) N14 pk=some vR:=by intro cl;kernel_rfl
theorem Al:a8 N14 (N14.take 2) (aC pk):=dr 1#4
theorem A5:∀(cl:Nat->Addr),cD (T15 cl) N15 nF=some sQ:=by intro cl;kernel_rfl
theorem yC:a8 N15 (N15.take 3) (aC nF):=dr 1#4
theorem BE:∀(cl:Nat->Addr),cD (T16 cl) N16 pv=some wq:=by intro cl;kernel_rfl
theorem Aq:a8 N16 (N16.take 3) (aC pv):=dr 1#4
theorem y3:∀(cl:Nat->Addr),cD (T17 cl) N17 l8=some qH:=by intro cl;kernel_rfl
theorem xl:a8 N17 (N17.take 3) (aC l8):=dr 1#4
theorem tR:∀(cl:Nat->Addr),cD (T18 cl) N18 ju=some mH:=by intro cl;kernel_rfl
theorem sf:a8 N18 (N18.take 1) (aC ju):=dr 1#4
theorem tU:∀(cl:Nat->Addr),cD (T19 cl) N19 jA=some mF:=by intro cl;kernel_rfl
theorem rT:a8 N19 (N19.take 3) (aC jA):=dr 1#4
theorem B7:∀(cl:Nat->Addr),cD (T20 cl) N20 o8=some vN:=by intro cl;kernel_rfl
theorem z8:a8 N20 (N20.take 2) (aC o8):=dr 1#4
theorem EB:∀(cl:Nat->Addr),cD (T21 cl) N21 sH=some xU:=by intro cl;kernel_rfl
theorem BZ:a8 N21 (N21.take 1) (aC sH):=dr 1#4
theorem Gi :∀ (cl:Nat->Addr),∀ g φ,cB ⟨(T22 cl).D,(T22 cl).C,[("piece_at",g,φ)],(T22 cl).H,(T22 cl).mkr,(T22 cl).Z⟩ 80 (["rising","piece_at","found","met","least","piece","one"]:List Str) (aC qJ).names (cp qJ)=some (Ap g φ):=by intro cl;intro g φ;kernel_rfl
theorem FI:a8 N22 (N22.take 2) (aC qJ):=dr 1#4
theorem zB:∀(cl:Nat->Addr),cD (T23 cl) N23 lZ=some qB:=by intro cl;kernel_rfl
theorem xq:a8 N23 (N23.take 1) (aC lZ):=dr 1#4
theorem yS :∀ (cl:Nat->Addr),cD ⟨(T24 cl).D,(T24 cl).C,(T24 cl).L,(T24 cl).H,true,(T24 cl).Z.to "<lambda>"⟩ N24 jK=some qE:=by intro cl;kernel_rfl
theorem xh:a8 N24 (N24.take 2) (aC jK):=dr 1#4
theorem uB:∀(cl:Nat->Addr),cD (T25 cl) N25 j7=some jX:=by intro cl;kernel_rfl
theorem tP:a8 N25 (N25.take 2) (aC j7):=dr 1#4
theorem BF :∀ (cl:Nat->Addr),∀ g φ,cB ⟨(T26 cl).D,(T26 cl).C,[("times",g,φ)],(T26 cl).H,(T26 cl).mkr,(T26 cl).Z⟩ 80 (["many","times","rows","i"]:List Str) (aC lW).names (cp lW)=some (wo g φ):=by intro cl;intro g φ;kernel_rfl
theorem zS:a8 N26 (N26.take 2) (aC lW):=dr 1#4
theorem xo :∀ (cl:Nat->Addr),cD ⟨(T27 cl).D,(T27 cl).C,(T27 cl).L,(T27 cl).H,true,(T27 cl).Z.to "<lambda>"⟩ N27 jc=some oV:=by intro cl;kernel_rfl
theorem uZ:a8 N27 (N27.take 2) (aC jc):=dr 1#4
theorem Cn:∀(cl:Nat->Addr),cD (T28 cl) N28 pV=some wa:=by intro cl;kernel_rfl
theorem Af:a8 N28 (N28.take 2) (aC pV):=dr 1#4
theorem yW :∀ (cl:Nat->Addr),cD ⟨(T29 cl).D,(T29 cl).C,(T29 cl).L,(T29 cl).H,true,(T29 cl).Z.to "<lambda>"⟩ N29 gp=some qZ:=by intro cl;kernel_rfl
theorem wQ :∀ (cl:Nat->Addr),(xc 80 80).b ⟨("rest_group",fo)::(T29 cl).D,(T29 cl).C,(T29 cl).L,(T29 cl).H,(T29 cl).mkr,(T29 cl).Z⟩ ⟨(T29 cl).Z.R,clR [1,2]⟩ N29 (aC gp).names (cp gp)=some rj:=by intro cl;kernel_rfl
theorem oS:a8 N29 (N29.take 2) (aC gp):=dr 1#4
theorem IQ:∀(cl:Nat->Addr),cD (T30 cl) N30 vf=some A3:=by intro cl;kernel_rfl
theorem Fw:a8 N30 (N30.take 2) (aC vf):=dr 1#4
theorem sk:∀(cl:Nat->Addr),cD (T31 cl) N31 iS=some lC:=by intro cl;kernel_rfl
theorem qQ:a8 N31 (N31.take 2) (aC iS):=dr 1#4
theorem wW:∀(cl:Nat->Addr),cD (T32 cl) N32 kN=some oK:=by intro cl;kernel_rfl
theorem uJ:a8 N32 (N32.take 2) (aC kN):=dr 1#4
theorem rg:∀(cl:Nat->Addr),cD (T33 cl) N33 iB=some ku:=by intro cl;kernel_rfl
theorem pe:a8 N33 (N33.take 2) (aC iB):=dr 1#4
theorem oC:∀(cl:Nat->Addr),cD (T34 cl) N34 gH=some jD:=by intro cl;kernel_rfl
theorem nv:a8 N34 (N34.take 2) (aC gH):=dr 1#4
theorem Li:∀(cl:Nat->Addr),cD (T35 cl) N35 yO=some CO:=by intro cl;kernel_rfl
theorem He:a8 N35 (N35.take 2) (aC yO):=dr 1#4
theorem NN:∀(cl:Nat->Addr),cD (T36 cl) N36 Cf=some GI:=by intro cl;kernel_rfl
theorem Kk:a8 N36 (N36.take 2) (aC Cf):=dr 1#4
theorem JX:∀(cl:Nat->Addr),cD (T37 cl) N37 yN=some Dm:=by intro cl;kernel_rfl
theorem Hf:a8 N37 (N37.take 2) (aC yN):=dr 1#4
theorem y4:∀(cl:Nat->Addr),cD (T38 cl) N38 md=some qS:=by intro cl;kernel_rfl
theorem wV:a8 N38 (N38.take 4) (aC md):=dr 1#4
theorem Hl:∀(cl:Nat->Addr),cD (T39 cl) N39 nJ=some AI:=by intro cl;kernel_rfl
theorem FD :∀ (cl:Nat->Addr),(xc 80 80).b ⟨("lifted",iC)::(T39 cl).D,(T39 cl).C,(T39 cl).L,(T39 cl).H,(T39 cl).mkr,(T39 cl).Z⟩ ⟨(T39 cl).Z.R,clR [1,2]⟩ N39 (aC nJ).names (cp nJ)=some z7:=by intro cl;kernel_rfl
theorem yg:a8 N39 (N39.take 3) (aC nJ):=dr 1#4
def oX:Stmt:=(cp fH).getD 6 (.Pass ⟨0,0,0,0⟩)
theorem xk:cp fH=og 171 oX:=by kernel_rfl
theorem UY:∀(cl:Nat->Addr),cS (T40 cl) 80 tW (aC fH).names oX=some mzR:=by intro cl;kernel_rfl
theorem vH:yc (aC fH).names=true:=by decide +kernel
theorem vF:a8 N40 (N40.take 1) (aC fH):=dr 1#4
theorem yI :∀ (cl:Nat->Addr),cD ⟨(T41 cl).D,(T41 cl).C,(T41 cl).L,(T41 cl).H,true,(T41 cl).Z.to "<lambda>"⟩ N41 jF=some qD:=by intro cl;kernel_rfl
theorem xi:a8 N41 (N41.take 3) (aC jF):=dr 1#4
theorem A0:∀(cl:Nat->Addr),cD (T42 cl) N42 nk=some tu:=by intro cl;kernel_rfl
theorem zh:a8 N42 (N42.take 2) (aC nk):=dr 1#4
theorem vP:∀(cl:Nat->Addr),cD (T43 cl) N43 kc=some nC:=by intro cl;kernel_rfl
theorem tV:a8 N43 (N43.take 3) (aC kc):=dr 1#4
theorem QR:∀(cl:Nat->Addr),cD (T44 cl) N44 Gw=some Mj:=by intro cl;kernel_rfl
theorem ON:a8 N44 (N44.take 1) (aC Gw):=dr 1#4
abbrev dL:List (Str×Stmt):=("_law_cell_at",kP)::("_law_state",m8)::("_law_take",pC)::("_law_clock",nE)::("_law_flips",ni)::("_law_quarter",k7)::("_law_both",pU)::("_law_named",nL)::("_law_order",mW)::("_law_group",nh)::("_law_span",o6)::("_law_part",pN)::("_law_sides",nI)::("_law_number",mz)::("_law_rest",pk)::("_law_steps",nF)::("_law_some",pv)::("_law_rounds",l8)::("_law_lift_case",ju)::("_law_bent_walk",jA)::("_law_same",o8)::("_law_odd",sH)::("pieces",qJ)::("all_things",lZ)::("side_numbers",j7)::("table_of",lW)::("is_level",pV)::("places",vf)::("are_all_things",iS)::("comes_round",kN)::("is_number_below",iB)::("are_numbers_below",gH)::("roads",yO)::("span",Cf)::("along",yN)::("is_to_lift",md)::("lifted",nJ)::("_law_refused",fH)::("_law_along",nk)::("_law_due_lift",kc)::("law",Gw) :: []
variable{w:World}{mg:Str->Option Value}{h:Heap}
theorem chain{P:Program}{K:ao}{Wm XH:Addr}{Wy XE:Addr}{Wl XY:Addr}{W4 XJ:Addr}{cl:Nat->Addr}(X:K.In h)(Gn:h.Ns mainGlobals mg)(B:∀x∈jg,bD K mainGlobals x=some none){wA:Addr}(Rk:Aa K mg cl wA [1,2])(hC:∀y i,(clR [1,2]).lookup y=some i->mg y=some (.ref (cl i))/\exB K (cl i)=true)(VO:mainGlobals≠XH)(Wi:mainGlobals≠XE)(VU:mainGlobals≠XY)(Wq:mainGlobals≠XJ)(nd:([XH,XE,XY,XJ]:List Addr).Nodup)
  (DA:Qm K dL) (Vu:kZ K "left_sides" jK Wm XH) (VA:kZ K "right_sides" jc Wy XE) (Wj:kZ K "rest_group" gp Wl XY) (VI:kZ K "_law_lifted" jF W4 XJ):Ch P w K mg 21#8 (T44 cl) 51:=by
 obtain⟨D0,D1,D2,D3,D4,D5,D6,D7,D8,D9,D10,D11,D12,D13,D14,D15,D16,D17,D18,D19,D20,D21,D22,D23,D25,D26,D28,D30,D31,D32,D33,D34,D35,D36,D37,D38,D39,D40,D42,D43,D44,_⟩:=DA;have C0:Ch P w K mg 21#8 (T0 cl) 0:=⟨fun _ _ _ _ _=>TOk.nil X Gn B,(fun _ _ _ _ _ _ _ z=>by cases z),(fun _ _ _ _ _ _ _ z=>by cases z)⟩;have nd:((21#8:List (Addr×Str)).map (·.1)).Nodup:=by simpa using nd
 have C1:Ch P w K mg _ (T1 cl) 1:=C0.dfn C0.o rfl X Gn D0 uQ 4#6 (xt cl);have C2:Ch P w K mg _ (T2 cl) 2:=C1.dfn C1.o rfl X Gn D1 y9 4#6 (AN cl);have C3:Ch P w K mg _ (T3 cl) 3:=C2.dfn C2.o rfl X Gn D2 zU 4#6 (BL cl);have C4:Ch P w K mg _ (T4 cl) 4:=C3.dfn C3.o rfl X Gn D3 zk 20#2 (Ag cl);have C5:Ch P w K mg _ (T5 cl) 5:=C4.dfn C4.o rfl X Gn D4 yL 20#2 (AA cl);have C6:Ch P w K mg _ (T6 cl) 6:=C5.dfn C5.o rfl X Gn D5 wz (λ_ _ _ _ _ _=>us0 rfl) (wO cl);have C7:Ch P w K mg _ (T7 cl) 7:=C6.dfn C6.o rfl X Gn D6 Ac 4#6 (Cu cl);have C8:Ch P w K mg _ (T8 cl) 8:=C7.dfn C7.o rfl X Gn D7 y7 4#6 (zW cl);have C9:Ch P w K mg _ (T9 cl) 9:=C8.dfn C8.o rfl X Gn D8 zd 4#6 (A6 cl);have C10:Ch P w K mg _ (T10 cl) 10:=C9.dfn C9.o rfl X Gn D9 yR 4#6 (A4 cl);have C11:Ch P w K mg _ (T11 cl) 11:=C10.dfn C10.o rfl X Gn D10 AV 4#6 (Ca cl);have C12:Ch P w K mg _ (T12 cl) 12:=C11.dfn C11.o rfl X Gn D11 z4 4#6 (CI cl);have C13:Ch P w K mg _ (T13 cl) 13:=C12.dfn C12.o rfl X Gn D12 zz 15#1 (Au cl);have C14:Ch P w K mg _ (T14 cl) 14:=C13.dfn C13.o rfl X Gn D13 xm 4#6 (zD cl);have C15:Ch P w K mg _ (T15 cl) 15:=C14.dfn C14.o rfl X Gn D14 Al 4#6 (Cw cl);have C16:Ch P w K mg _ (T16 cl) 16:=C15.dfn C15.o rfl X Gn D15 yC 15#1 (A5 cl);have C17:Ch P w K mg _ (T17 cl) 17:=C16.dfn C16.o rfl X Gn D16 Aq 15#1 (BE cl);have C18:Ch P w K mg _ (T18 cl) 18:=C17.dfn C17.o rfl X Gn D17 xl 15#1 (y3 cl);have C19:Ch P w K mg _ (T19 cl) 19:=C18.dfn C18.o rfl X Gn D18 sf 20#2 (tR cl);have C20:Ch P w K mg _ (T20 cl) 20:=C19.dfn C19.o rfl X Gn D19 rT 15#1 (tU cl);have C21:Ch P w K mg _ (T21 cl) 21:=C20.dfn C20.o rfl X Gn D20 z8 4#6 (B7 cl);have C22:Ch P w K mg _ (T22 cl) 22:=C21.dfn C21.o rfl X Gn D21 BZ 20#2 (EB cl);have C23:Ch P w K mg _ (T23 cl) 22:=C22.cls rfl rfl X Gn D22 FI 4#6 (Gi cl);have C24:Ch P w K mg _ (T24 cl) 23:=C23.dfn C23.o rfl X Gn D23 xq 20#2 (zB cl);have C25:Ch P w K mg _ (T25 cl) 26:=C24.lam_ rfl rfl 0#6 nd VO X Gn Vu xh 4#6 (yS cl);have C26:Ch P w K mg _ (T26 cl) 27:=C25.dfn C25.o rfl X Gn D25 tP 4#6 (uB cl);have C27:Ch P w K mg _ (T27 cl) 27:=C26.cls rfl rfl X Gn D26 zS 4#6 (BF cl);have C28:Ch P w K mg _ (T28 cl) 30:=C27.lam_ rfl rfl 0#6 nd Wi X Gn VA uZ 4#6 (xo cl);have C29:Ch P w K mg _ (T29 cl) 31:=C28.dfn C28.o rfl X Gn D28 Af 4#6 (Cn cl);have A29:=C29.lam_ rfl rfl 0#6 nd VU X Gn Wj oS 4#6 (yW cl);have C30:Ch P w K mg _ (T30 cl) 35:=A29.raise (clR [1,2]) rfl hC X Gn (kZ.def (M:=⟨P,w,⟨K,[],[],[],[]⟩,mg,h,none⟩) Wj) oS 4#6 (wQ cl);have C31:Ch P w K mg _ (T31 cl) 36:=C30.dfn C30.o rfl X Gn D30 Fw 4#6 (IQ cl);have C32:Ch P w K mg _ (T32 cl) 37:=C31.dfn C31.o rfl X Gn D31 qQ 4#6 (sk cl);have C33:Ch P w K mg _ (T33 cl) 38:=C32.dfn C32.o rfl X Gn D32 uJ 4#6 (wW cl);have C34:Ch P w K mg _ (T34 cl) 39:=C33.dfn C33.o rfl X Gn D33 pe 4#6 (rg cl);have C35:Ch P w K mg _ (T35 cl) 40:=C34.dfn C34.o rfl X Gn D34 nv 4#6 (oC cl);have C36:Ch P w K mg _ (T36 cl) 41:=C35.dfn C35.o rfl X Gn D35 He 4#6 (Li cl);have C37:Ch P w K mg _ (T37 cl) 42:=C36.dfn C36.o rfl X Gn D36 Kk 4#6 (NN cl);have C38:Ch P w K mg _ (T38 cl) 43:=C37.dfn C37.o rfl X Gn D37 Hf 4#6 (JX cl);have C39:Ch P w K mg _ (T39 cl) 44:=C38.dfn C38.o rfl X Gn D38 wV (λ_ _ _ _ _ _=>us4 λ_ _ _ _=>rfl) (y4 cl);have A39:=C39.dfn C39.o rfl X Gn D39 yg 15#1 (Hl cl);have C40:Ch P w K mg _ (T40 cl) 46:=A39.raise (clR [1,2]) rfl hC X Gn D39 yg 15#1 (FD cl);have C41:Ch P w K mg _ (T41 cl) 46:=C40.refd rfl X Gn D40 vF 20#2 vH xk (UY cl) Rk;have C42:Ch P w K mg _ (T42 cl) 49:=C41.lam_ rfl rfl 0#6 nd Wq X Gn VI xi 15#1 (yI cl);have C43:Ch P w K mg _ (T43 cl) 50:=C42.dfn C42.o rfl X Gn D42 zh 4#6 (A0 cl);have C44:Ch P w K mg _ (T44 cl) 51:=C43.dfn C43.o rfl X Gn D43 tV 15#1 (vP cl);exact C44
variable{q:Program}
theorem all_mk{l:ot}{K:ao}{fa:Addr}{Wm XH:Addr}{Wy XE:Addr}{Wl XY:Addr}{W4 XJ:Addr}(X:K.In h)(Gn:h.Ns mainGlobals mg)(hfa:mg "law"=some (.ref fa))(B :∀ x∈jg,bD K mainGlobals x=some none) {c0 c1 c2 c3 c4 c5 c6 wA:Addr}(U5:bD K mainGlobals "TooMany"=some (some (.ref c0)))(nc1:bD K mainGlobals "NotLevel"=some (some (.ref c1)))(Vf:bD K mainGlobals "NoLift"=some (some (.ref c2)))(f':bD K mainGlobals "NotPlain"=some (some (.ref c3)))(Vk:bD K mainGlobals "NoName"=some (some (.ref c4)))(l':bD K mainGlobals "BadNote"=some (some (.ref c5)))(nc6:bD K mainGlobals "NoTwist"=some (some (.ref c6)))(ncw:bD K mainGlobals "WalkError"=some (some (.ref wA)))(rb:NJ K [c0,c1,c2,c3,c4,c5,c6] wA [1,2]=true)(VO:mainGlobals≠XH)(Wi:mainGlobals≠XE)(VU:mainGlobals≠XY)(Wq:mainGlobals≠XJ)(nd:([XH,XE,XY,XJ]:List Addr).Nodup)
  (DA:Qm K dL) (Vu:kZ K "left_sides" jK Wm XH) (VA:kZ K "right_sides" jc Wy XE) (Wj:kZ K "rest_group" gp Wl XY) (VI:kZ K "_law_lifted" jF W4 XJ) {d24:DefRec} (n24:K.lookup XH=none) (Vi:(eZ q).find? (fun e=>e.name==("left_sides":Str))=some d24) {d27:DefRec} (U':K.lookup XE=none) (r27:(eZ q).find? (fun e=>e.name==("right_sides":Str))=some d27) {d29:DefRec} (Vn:K.lookup XY=none) (Vb:(eZ q).find? (fun e=>e.name==("rest_group":Str))=some d29) {d41:DefRec} (n41:K.lookup XJ=none) (V9:(eZ q).find? (fun e=>e.name==("_law_lifted":Str))=some d41) :
  ∃ (tabs:List (Addr×Str)) (fd:FuncData) (sp:Sp),(∀ r∈tabs,K.lookup r.1=none /\ ∃ x d c,(eZ q).find? (fun e=>e.name==x)=some d/\PySem.W.tabIn K x=some (c,r.1))/\27#4 /\
   (∀ base:Heap,K.In base->base.Ns mainGlobals mg->fQ mg base->jx l.prog w K mg base CX0 52 fa fd ["script"] sp) /\ ∀ (H:Hp) (a:Addr) (ns:List Int),11#7<=63->(∀ r∈tabs,Ce H r.1 r.2)->SqL K H a 10#7->sp [.ref a] H (fun v _=>v=.bl true) fun _ _ _=>False:=by
 have DB:=DA;obtain⟨D0,D1,D2,D3,D4,D5,D6,D7,D8,D9,D10,D11,D12,D13,D14,D15,D16,D17,D18,D19,D20,D21,D22,D23,D25,D26,D28,D30,D31,D32,D33,D34,D35,D36,D37,D38,D39,D40,D42,D43,D44,_⟩:=DA;have DA:=DB;obtain⟨Rk,hC⟩:=Qp (rz:= [1,2]) X Gn U5 nc1 Vf f' Vk l' nc6 ncw rb;have CH:=chain (P:=l.prog) (w:=w) X Gn B   Rk hC VO Wi VU Wq nd DA Vu VA Wj VI;obtain⟨fd,h1,h2⟩:=QC (l:=l) (w:=w) (tabs := 21#8) X Gn hfa D44 ON (fun _ _ _ _ _ _=>us1 fun _=>rfl) rfl (fun base Zg=>CH.o [] [] [] base Zg) (QR _);refine⟨21#8,fd,_,?_,h1,h2,fun H a ns hl hT hS=>Ta hT hS fun S h1 h2=>GM ns hl S h1 h2⟩;intro r hr;simp only[a7,oq,_root_.or_false]at hr;rcases hr with rfl |rfl |rfl |rfl
 .exact⟨n24,_,_,_,Vi,Vu.tab⟩
 .exact⟨U',_,_,_,r27,VA.tab⟩
 .exact⟨Vn,_,_,_,Vb,Wj.tab⟩
 .exact⟨n41,_,_,_,V9,VI.tab⟩
theorem walk{l:ot}{loose:List Str}{XP:(Str->Option Value)->Heap->Prop}{YP:World->Heap->Prop}{d:DefRec}{K:Params->ao}(hn:l.most=some 63)(VR:d.params.defaults=[])
  (hY:∀(w:World) (h:Heap),YP w h->(K w.params).In h)
  (F: ∀(w:World) (mg:Str->Option Value) (fa:Addr) (h:Heap),(K w.params).In h->h.Ns mainGlobals mg->mg d.name=some (.ref fa) -> ∃(tabs:List (Addr×Str)) (fd:FuncData) (sp:Sp),
   (∀ r∈tabs,(K w.params).lookup r.1=none /\ ∃ x d c,(eZ q).find? (fun e=>e.name==x)=some d/\PySem.W.tabIn (K w.params) x=some (c,r.1))/\27#4 /\
   (∀ base:Heap,(K w.params).In base->base.Ns mainGlobals mg->fQ mg base->jx l.prog w (K w.params) mg base CX0 52 fa fd ["script"] sp) /\ ∀ (H:Hp) (a:Addr) (ns:List Int),ns.length<=63->(∀ r∈tabs,Ce H r.1 r.2)->SqL (K w.params) H a (ns.map V.int)->sp [.ref a] H (fun v _=>v = .bl true) fun _ _ _=>False) :
  PySem.W.WalkO q loose XP YP l.row.toRowW d [] (λf vs=>PySem.call f vs):=
 IR (n:=63) (k:=52) (x:="script") hn 0#1 VR ⟨rfl,by decide,by decide,rfl⟩ hY F
end _W
open PySem PySem.W PyProof.Rows
namespace PySem.W.Fast
theorem tw6639075299333009639:True:=trivial
theorem tw3009935531010680805:True:=trivial
theorem tw1034408012394592064:True:=trivial
theorem tw7952409084098846993:True:=trivial
theorem tw6274605120072097952:True:=trivial
theorem tw12965070942659456818:True:=trivial
theorem tw16799771543594955053:True:=trivial
theorem tw2429151232320465735:True:=trivial
theorem tw372279758833634802:True:=trivial
theorem tw9717109822983404874:True:=trivial
theorem tw14899543930647010371:True:=trivial
theorem tw1645187196431120524:True:=trivial
theorem tw8711379072467690895:True:=trivial
theorem tw9854477200243785936:True:=trivial
theorem tw11797117460426837481:True:=trivial
theorem tw4565868000169279299:True:=trivial
theorem tw245141176602338660:True:=trivial
theorem tw5660952930289983143:True:=trivial
theorem tw10160569244070955251:True:=trivial
theorem tw17339842049057557851:True:=trivial
theorem tw8723549542385413004:True:=trivial
theorem tw12457787344277704702:True:=trivial
theorem tw12507306343321532183:True:=trivial
theorem tw1439278616643386448:True:=trivial
theorem tw1897387990806684900:True:=trivial
theorem tw478240429207391153:True:=trivial
theorem tw15575924228529998296:True:=trivial
theorem tw10023854282700515844:True:=trivial
theorem tw7436655131493626097:True:=trivial
theorem tw1564106526637810978:True:=trivial
theorem tw2436671282747300651:True:=trivial
theorem tw7749676042002202363:True:=trivial
theorem tw17138436649405151009:True:=trivial
theorem tw9492914046221516733:True:=trivial
theorem tw13345336420195422935:True:=trivial
theorem tw14931892591616457456:True:=trivial
theorem tw3413077591211812645:True:=trivial
theorem tw13492254921764075203:True:=trivial
theorem tw6888382877720616739:True:=trivial
theorem tw12342878759424855317:True:=trivial
theorem tw2107700006535044087:True:=trivial
theorem tw4620327765965045461:True:=trivial
theorem tw8298793982018651998:True:=trivial
theorem tw13624864343695653838:True:=trivial
theorem tw1357380444916688284:True:=trivial
theorem tw9526954599046340349:True:=trivial
theorem tw12332065462370526711:True:=trivial
theorem tw4739303693100044872:True:=trivial
theorem tw14218875408531715998:True:=trivial
theorem tw6951683056984163556:True:=trivial
theorem tw12894072937617385010:True:=trivial
theorem tw18351776737427227145:True:=trivial
theorem tw7398496358952647196:True:=trivial
theorem tw14545614706860199114:True:=trivial
theorem tw11382338629158173654:True:=trivial
theorem tw2834964330327031296:True:=trivial
theorem tw10064911646868409760:True:=trivial
theorem tw8210329960996434105:True:=trivial
theorem tw13395417886296161645:True:=trivial
theorem tw1289450796022076259:True:=trivial
theorem tw6247582481732221397:True:=trivial
theorem tw4148905007606477932:True:=trivial
theorem tw11595109243648402239:True:=trivial
theorem tw12936581143994525387:True:=trivial
theorem tw7427836481775280317:True:=trivial
theorem tw15149688787702173419:True:=trivial
theorem tw17110161602803441559:True:=trivial
theorem tw16927226990742385898:True:=trivial
theorem tw16120444651377354110:True:=trivial
theorem tw4918722148275205683:True:=trivial
theorem tw11462407286382066020:True:=trivial
theorem tw9710411207333626430:True:=trivial
theorem tw9997699548692757363:True:=trivial
theorem tw13888697639206122152:True:=trivial
theorem tw10222024775545438808:True:=trivial
theorem tw8078590095672469191:True:=trivial
theorem tw2557008316434965334:True:=trivial
theorem tw890970557367636537:True:=trivial
theorem tw15809615127587694948:True:=trivial
theorem tw4579002701701107681:True:=trivial
theorem tw15710509520480357842:True:=trivial
theorem tw15841852773000673883:True:=trivial
theorem tw16778761242852056682:True:=trivial
theorem tw1468893302153748452:True:=trivial
theorem tw1071385782414519878:True:=trivial
theorem tw2196715776106285504:True:=trivial
theorem tw16848218867562937464:True:=trivial
theorem tw1492629836396701970:True:=trivial
theorem tw18281639437275546565:True:=trivial
theorem tw12132499860160219419:True:=trivial
theorem tw10712369318547712048:True:=trivial
theorem tw12162002664895067472:True:=trivial
theorem tw12453196823295481278:True:=trivial
theorem tw14697972467249358672:True:=trivial
theorem tw580778995157642651:True:=trivial
theorem tw10234309336681862158:True:=trivial
theorem tw15076988412418003262:True:=trivial
theorem tw2054209494439049408:True:=trivial
theorem tw2021947793972966658:True:=trivial
theorem tw12810803560723471838:True:=trivial
theorem tw2348637308390862441:True:=trivial
theorem tw2377315866306774827:True:=trivial
theorem tw15890366289421385891:True:=trivial
theorem tw5324451246500895825:True:=trivial
theorem tw7498720750957049319:True:=trivial
theorem tw15668626795773678994:True:=trivial
theorem tw1225693127311508737:True:=trivial
theorem tw17260241574748628774:True:=trivial
theorem tw2149831612281378693:True:=trivial
theorem tw2195504576606761890:True:=trivial
theorem tw6172162758403579893:True:=trivial
theorem tw6408888251681243847:True:=trivial
theorem tw8596803028884651186:True:=trivial
theorem tw9722029098369681124:True:=trivial
theorem tw1856623859460248002:True:=trivial
theorem tw16870927304785788956:True:=trivial
theorem tw8275687281530726696:True:=trivial
theorem tw14929519371774600995:True:=trivial
theorem tw6959638781381838513:True:=trivial
theorem tw8058902068008534330:True:=trivial
theorem tw7426769915986093617:True:=trivial
theorem tw12262897193812934394:True:=trivial
theorem tw5423804351884220237:True:=trivial
theorem tw7326499359826947000:True:=trivial
theorem tw14696559083605981625:True:=trivial
theorem tw14427433933456443643:True:=trivial
theorem tw4822695655148885983:True:=trivial
theorem tw8687709327688411427:True:=trivial
theorem tw17611275952062021001:True:=trivial
theorem tw12273727677281635080:True:=trivial
theorem tw8186706013330430325:True:=trivial
theorem tw17736083455594569394:True:=trivial
theorem tw5890193295363313097:True:=trivial
theorem tw10640088272493237794:True:=trivial
theorem tw18316649395924021950:True:=trivial
theorem tw9979639898866631521:True:=trivial
theorem tw8143938192060136501:True:=trivial
theorem tw9688646047567817214:True:=trivial
theorem tw15906206001425383073:True:=trivial
theorem tw16654320441671574576:True:=trivial
theorem tw1884418820786842207:True:=trivial
theorem tw14093504792597528160:True:=trivial
end PySem.W.Fast
set_option maxRecDepth 100000 in
set_option maxHeartbeats 0 in
theorem PySem.Challenge.cw_groupwalks_k62_what_does_not_lift_holds : PySem.Challenge.rw_groupwalks_k62_what_does_not_lift.Holds := by
 w_on;o_law;k_head;(case hw=>w_witness2)
 k_fill
 refine _W.walk (l:=PySem.Challenge.rw_groupwalks_k62_what_does_not_lift) rfl rfl (λw h Y=>PySem.W.km_in_of Y) ?F
 case F=>
  intro w mg fa h KX Gh W2;refine' _W.all_mk KX Gh W2 ?B  ?U5 ?nc1 ?Vf ?f' ?Vk ?l' ?nc6 ?ncw ?rb ?VO ?Wi ?VU ?Wq ?nd ?DA (_G.ud ?a24 ?l24 ?c24 ?Wm ?e24 ?u24 ?v24 ?w24 ?x24 ?y24 ?z24 ?t24) (_G.ud ?a27 ?l27 ?c27 ?Wy ?e27 ?u27 ?v27 ?w27 ?x27 ?y27 ?z27 ?t27) (_G.ud ?a29 ?l29 ?c29 ?Wl ?e29 ?u29 ?v29 ?w29 ?x29 ?y29 ?z29 ?t29) (_G.ud ?a41 ?l41 ?c41 ?W4 ?e41 ?u41 ?v41 ?w41 ?x41 ?y41 ?z41 ?t41) ?n24 ?Vi ?U' ?r27 ?Vn ?Vb ?n41 ?V9
  (case U5=>k_is)
  (case nc1=>k_is)
  (case Vf=>k_is)
  (case f'=>k_is)
  (case Vk=>k_is)
  (case l'=>k_is)
  (case nc6=>k_is)
  (case ncw=>k_is)
  (case rb=>kernel_rfl)
  case B=>
   intro x hx;simp only[_G.jg,a7,oq,or_false]at hx;rcases hx with rfl|rfl|rfl|rfl|rfl|rfl|rfl|rfl|rfl|rfl|rfl|rfl|rfl|rfl|rfl|rfl|rfl|rfl|rfl|rfl
   all_goals k_is
  case DA=>
   iterate 41 (refine' And.intro (_G.Qk ?a ?l ?c ?k) ?_;(case a=>k_is);(case l=>k_is);(case c=>k_is);(case k=>k_is))
   trivial
  (case a24=>k_is);(case l24=>k_is);(case c24=>k_is);(case Wm=>k_is)
  (case e24=>k_is);(case u24=>rfl);(case v24=>rfl);(case w24=>rfl);(case x24=>rfl);(case y24=>rfl);(case z24=>rfl);(case t24=>decide)
  (case a27=>k_is);(case l27=>k_is);(case c27=>k_is);(case Wy=>k_is)
  (case e27=>k_is);(case u27=>rfl);(case v27=>rfl);(case w27=>rfl);(case x27=>rfl);(case y27=>rfl);(case z27=>rfl);(case t27=>decide)
  (case a29=>k_is);(case l29=>k_is);(case c29=>k_is);(case Wl=>k_is)
  (case e29=>k_is);(case u29=>rfl);(case v29=>rfl);(case w29=>rfl);(case x29=>rfl);(case y29=>rfl);(case z29=>rfl);(case t29=>decide)
  (case a41=>k_is);(case l41=>k_is);(case c41=>k_is);(case W4=>k_is)
  (case e41=>k_is);(case u41=>rfl);(case v41=>rfl);(case w41=>rfl);(case x41=>rfl);(case y41=>rfl);(case z41=>rfl);(case t41=>decide)
  (case VO=>decide)
  (case Wi=>decide)
  (case VU=>decide)
  (case Wq=>decide)
  (case nd=>decide)
  (case n24=>kernel_rfl);(case Vi=>rfl)
  (case U'=>kernel_rfl);(case r27=>rfl)
  (case Vn=>kernel_rfl);(case Vb=>rfl)
  (case n41=>kernel_rfl);(case V9=>rfl)
