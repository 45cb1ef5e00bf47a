import PyProof.Rows.All
import Wide.All
import OpenK.AllK
import Wide.FinOn
import Lean
import PyProof.EqAt
import PyProof.EqKinds
import PyProof.TupleCall
import PyProof.EnumStmt
import PyProof.EnumMake
import PyProof.EnumFor
import PyProof.ZipIter
import PyProof.CompFree
import PyProof.CompMap
import PyProof.Cells
import PyProof.ListMulRoad
import PyProof.ConsumeWalk
import PyProof.TupleOfGen
import PyProof.ListRange
import PySem.Challenge.RW_groupwalks_k61_walks_lifted
set_option bootstrap.genMatcherCode false
set_option Elab.async false
set_option linter.all false
set_option maxRecDepth 100000
set_option maxHeartbeats 0
set_option compiler.postponeCompile true
set_option bootstrap.genMatcherCode false
set_option genSizeOfSpec false
set_option relaxedAutoImplicit false
set_option compiler.extract_closed false
open scoped BitVec
set_option hygiene false
local macro_rules
|`(0#0)=>`(var_eq rfl)
|`(0#1)=>`(by decide)
|`(0#2)=>`(by omega)
|`(0#3)=>`(some (tab m T))
local macro_rules
|`(0#4)=>`(by assumption)
|`(0#5)=>`(ae 2)
|`(0#6)=>`(ae 0)
|`(0#7)=>`(ae 3)
local macro_rules
|`(0#8)=>`(by simp)
|`(0#9)=>`(ak _)
|`(1#0)=>`(by decide +kernel)
|`(1#1)=>`(some (.ref S.length))
local macro_rules
|`(1#2)=>`(model X.prog X.w)
|`(1#3)=>`(ae 4)
|`(1#4)=>`(mC (.int 1))
|`(1#5)=>`(ae 1)
local macro_rules
|`(1#6)=>`(Pre.refl _)
|`(1#7)=>`((e::es))
|`(1#8)=>`(mC (.int 0))
|`(1#9)=>`(Addr×Obj)
local macro_rules
|`(2#0)=>`(ai l)
|`(2#1)=>`(rc n)
|`(2#2)=>`((·.1))
|`(2#3)=>`(some (.ref n))
local macro_rules
|`(2#4)=>`([Cell.lst []])
|`(2#5)=>`(some (.tup (ai P)))
|`(2#6)=>`(aa a af)
|`(2#7)=>`(bH af)
local macro_rules
|`(2#8)=>`(some (.int k))
|`(2#9)=>`(tM M.K ma)
|`(3#0)=>`(tMA M.K mas)
|`(3#1)=>`(Ex.push _ _)
local macro_rules
|`(3#2)=>`((ys,S'))
|`(3#3)=>`(mC (.int 2))
|`(3#4)=>`(aa 0#5 af)
|`(3#5)=>`(λ_ _ _ _ _ _=>us2 λ_ _=>rfl)
local macro_rules
|`(3#6)=>`((.int i))
|`(3#7)=>`(aa (ae 0) (aa (ae 1) af))
|`(3#8)=>`(some (.tup (ai part)))
|`(3#9)=>`(some (.tup (ai w)))
local macro_rules
|`(4#0)=>`(aa (ae 0) af)
|`(4#1)=>`(model prog w)
|`(4#2)=>`((.int x,S1))
|`(4#3)=>`(S.gl hg)
local macro_rules
|`(4#4)=>`((.ref (S.length+1)))
|`(4#5)=>`(aa (ae 4) af)
|`(4#6)=>`(b0 1#5)
|`(4#7)=>`(aS m T P true)
local macro_rules
|`(4#8)=>`(Str×Addr)
|`(4#9)=>`(m1 fZ 1#4)
|`(5#0)=>`((.nx,Y2,S'))
|`(5#1)=>`(R.e _ _ _ _ e1 X S)
local macro_rules
|`(5#2)=>`(Str×NameKind)
|`(5#3)=>`(tMT M.K mt)
|`(5#4)=>`(List Nat)
|`(5#5)=>`((.inl rfl))
local macro_rules
|`(5#6)=>`(a Y S)
|`(5#7)=>`(by rw[S.hm];exact hm)
|`(5#8)=>`(some (.ref 0))
|`(5#9)=>`(tM M.K mb)
local macro_rules
|`(6#0)=>`(aa (ae 1) af)
|`(6#1)=>`((.inl (x:Int)))
|`(6#2)=>`(mFn bG 4#0)
|`(6#3)=>`((.int y,S2))
local macro_rules
|`(6#4)=>`(tMA K a)
|`(6#5)=>`((.lst xs))
|`(6#6)=>`((.ref C))
|`(6#7)=>`(dk T part left)
local macro_rules
|`(6#8)=>`(EP X pins G Q)
|`(6#9)=>`(some (.obj g))
|`(7#0)=>`(tM M.K m)
|`(7#1)=>`(blk X N' scope s₂ H₂ fp)
local macro_rules
|`(7#2)=>`(M.to caps capv cds base)
|`(7#3)=>`((x == ("__debug__":Str)))
|`(7#4)=>`(some (.ref r))
|`(7#5)=>`(er.mono k1 p1)
local macro_rules
|`(7#6)=>`(aa 3#3 af)
|`(7#7)=>`(Y++[some u])
|`(7#8)=>`(bq.refl _)
|`(7#9)=>`(R.e _ _ _ _ e2 X S)
local macro_rules
|`(8#0)=>`(mC (.bl true))
|`(8#1)=>`(p1.trans p2)
|`(8#2)=>`((.tup (ai w)))
|`(8#3)=>`((.dK kvs))
local macro_rules
|`(8#4)=>`([Cell.lst (fr.map (prU T h))])
|`(8#5)=>`((pre T w).map (nbS m T P))
|`(8#6)=>`(ns.map V.int)
|`(8#7)=>`(len_tab 0#0)
local macro_rules
|`(8#8)=>`(aa 1#8 af)
|`(8#9)=>`(some (.int h))
|`(9#0)=>`(k1.trans k2)
|`(9#1)=>`(mnS m T P)
local macro_rules
|`(9#2)=>`((starEach (e::es) X.env=(false,eval e X.env)::starEach es X.env))
|`(9#3)=>`(⟨μ,S,Y,x,S1,hr,er,e1,λY0 vx H1 p1 k1 hr1 rx =>?_⟩)
|`(9#4)=>`([x,some u,y,some (.ref (S.length+2))])
|`(9#5)=>`(by exact dj 0#1 _)
local macro_rules
|`(9#6)=>`(aS m T part true)
|`(9#7)=>`(λz=>nomatch z)
|`(9#8)=>`((.ref S'.length))
|`(9#9)=>`(mC (.int 3))
local macro_rules
|`(10#0)=>`(I.ok.hd hc)
|`(10#1)=>`((.ref r,S))
|`(10#2)=>`(some (.ref (dA S F ln x).length))
|`(10#3)=>`(aa (ae 5) af)
local macro_rules
|`(10#4)=>`((.ref s.heap.objs.size))
|`(10#5)=>`(starEach es X.env)
|`(10#6)=>`(k.mono p1 k1)
|`(10#7)=>`(some (.int n))
local macro_rules
|`(10#8)=>`(frs X.stack)
|`(10#9)=>`(nbS m T P)
|`(11#0)=>`([Cell.lst (tups (sdF (dk T part left) k).1)])
|`(11#1)=>`(baseOf s.heap H (frs X.stack))
local macro_rules
|`(11#2)=>`([Cell.lst (ai (bY 1 (m - 1)))])
|`(11#3)=>`([tab m T,.tup (ai part)])
|`(11#4)=>`(M.K.to caps capv cds)
|`(11#5)=>`(R.a _ _ _ _ e1 X S)
local macro_rules
|`(11#6)=>`((.ref S2.length))
|`(11#7)=>`(mFn bG 10#3)
|`(11#8)=>`(S.length+1)
|`(11#9)=>`(O.B _ 1#0)
local macro_rules
|`(12#0)=>`((.Name x p1))
|`(12#1)=>`(ps.zip us)
|`(12#2)=>`((.ref n,S1))
|`(12#3)=>`(((backTo pos (starEach es X.env)).any (·.1)=false))
local macro_rules
|`(12#4)=>`(mFn bG (aa 0#7 af))
|`(12#5)=>`(fq X.env.cells scope.names [])
|`(12#6)=>`(some (.int (most:Nat)))
|`(12#7)=>`([tab m T,.tup (ai P),u])
local macro_rules
|`(12#8)=>`(s₂.heap.objs.size+2)
|`(12#9)=>`(M.K.cds++[(c',oc)])
|`(13#0)=>`(by exact bA 0#4)
|`(13#1)=>`((.ref S.length,S'))
local macro_rules
|`(13#2)=>`((.lst (tups 4#7)))
|`(13#3)=>`(S.room.mono hk)
|`(13#4)=>`(Cell.lst row)
|`(13#5)=>`(p2.trans p3)
local macro_rules
|`(13#6)=>`(tMS M.K ms)
|`(13#7)=>`(ha pins s G H _ I h)
|`(13#8)=>`(some (.tup (ai (ay m))))
|`(13#9)=>`(G++aR xs.length none)
local macro_rules
|`(14#0)=>`(some (.ref S.length))
|`(14#1)=>`(s.heap.objs.size+1)
|`(14#2)=>`(by simpa using h)
|`(14#3)=>`(mC (.bl false))
local macro_rules
|`(14#4)=>`(λ_ _=>False)
|`(14#5)=>`(x++[.lst []])
|`(14#6)=>`(ns.map U.int)
|`(14#7)=>`(C.frees I.ok)
local macro_rules
|`(14#8)=>`(mFn bG 6#0)
|`(14#9)=>`(mFn aP (aa 0#6 (aa (mC (.int 3)) af)))
|`(15#0)=>`(m2 oIx (m2 oIx 0#6 (ae 4)) (ae 5))
|`(15#1)=>`(λ_ _ _ _ _ _=>us3 λ_ _ _=>rfl)
local macro_rules
|`(15#2)=>`(some (.int (A (i / m) (j / m))))
|`(15#3)=>`(aa 1#4 (aa 1#4 af))
|`(15#4)=>`(⟨by decide,by decide⟩)
|`(15#5)=>`(⟨.bl _,H,I,rfl,q⟩)
local macro_rules
|`(15#6)=>`((e::T::frs X.stack))
|`(15#7)=>`(λb ob q=>aw _ q)
|`(15#8)=>`(I.hok.fresh 0#9)
|`(15#9)=>`((∃m,W 0 m G H))
local macro_rules
|`(16#0)=>`((.Tuple ts kt pt))
|`(16#1)=>`(some (.int most))
|`(16#2)=>`(by simp;omega)
|`(16#3)=>`((.int (x:Nat)))
local macro_rules
|`(16#4)=>`((.ListComp elt [⟨.Name x px,iter,ifs,0⟩] scope pos))
|`(16#5)=>`(cellsFrom (s.heap.objs.size+1) scope.names [])
|`(16#6)=>`(m2 oIx (m2 oIx 0#6 (ae 7)) (ae 9))
|`(16#7)=>`((λy=>N.findIdx? (· == y)))
local macro_rules
|`(16#8)=>`([0#3,2#5,some u,none])
|`(16#9)=>`(by exact aj 0#4 0#1)
|`(17#0)=>`(upd H c (.frz oc fz))
|`(17#1)=>`(Y++[some (.int x)])
local macro_rules
|`(17#2)=>`(by simpa using hp)
|`(17#3)=>`(dk T part left k)
|`(17#4)=>`(by rw[aH];omega)
|`(17#5)=>`((kvs.map (·.2)))
local macro_rules
|`(17#6)=>`(aa a (aa b af))
|`(17#7)=>`((.lst (tups ls)))
|`(17#8)=>`(some (.int j))
|`(17#9)=>`(fl.mono p1 k1)
local macro_rules
|`(18#0)=>`(a==sysModules)
|`(18#1)=>`(Cell.lst 2#0)
|`(18#2)=>`(some (tab (mnS m T P) (resT m T P)))
|`(18#3)=>`(k==aZ&&env.scope.kind==.function&&env.kindOf n==some .cell)
local macro_rules
|`(18#4)=>`((∀Y3 H',N Y3 H' -> ∃m',m'<m/\W (k+1) m' Y3 H'))
|`(18#5)=>`([2#3,some (.int most),some (.int way),0#3,x,y])
|`(18#6)=>`([kL b [0,1,2],kL b [3,4,5],kL b [0,1,2,3,4,5]])
|`(18#7)=>`((∀x,foldedSetIterable iter X.env x=pure x))
local macro_rules
|`(18#8)=>`([5#8,none,none,none,none,none,none,none])
|`(18#9)=>`([some (.int (x:Nat)),some (.int (n:Nat))])
|`(19#0)=>`(mFn aP (aa 0#6 (aa (mFn bG 6#0) af)))
|`(19#1)=>`(⟨T.D,T.C,T.L,T.H,true,T.Z.to nm⟩)
local macro_rules
|`(19#2)=>`((false,eval a X.env))
|`(19#3)=>`(((kids T st p).reverse).map lnU)
|`(19#4)=>`(aa 1#5 (aa 0#5 (aa 0#7 af)))
|`(19#5)=>`((X.mg "__name__").getD .none)
local macro_rules
|`(19#6)=>`((.builtin "object.__class__"))
|`(19#7)=>`(run ps.length N.length ms)
|`(19#8)=>`([5#8,2#8,some (.int z)])
|`(19#9)=>`(X.env.qual++"<lambda>")
local macro_rules
|`(20#0)=>`([(T h y,iT p.1 h++[y])])
|`(20#1)=>`(mP lo (hi - lo).toNat)
|`(20#2)=>`(show u=bx a from rx)
|`(20#3)=>`(rQ S C s₂ H₂ fp)
local macro_rules
|`(20#4)=>`([U.int 1,U.int (-1)])
|`(20#5)=>`((false,eval e X.env))
|`(20#6)=>`(by intro z;cases z)
|`(20#7)=>`(R.t _ _ _ _ e1 X S)
local macro_rules
|`(20#8)=>`(Y.set i (some u))
|`(20#9)=>`(m2 oIx 0#6 1#8)
|`(21#0)=>`([(p23,("left_sides":Str)++".<locals>."++"<lambda>"),(p26,("right_sides":Str)++".<locals>."++"<lambda>"),(p28,("rest_group":Str)++".<locals>."++"<lambda>"),(p41,("_law_lifted":Str)++".<locals>."++"<lambda>")])
|`(21#1)=>`(k'==aZ&&env.scope.kind==.function&&env.kindOf n==some .cell)
local macro_rules
|`(21#2)=>`([some (.tup (ai p.1)),some (.tup (ai p.2)),some (.int (fT p.2:Nat)),d])
|`(21#3)=>`(thn (ha pos pins s G H _ I h) λus s1 ⟨vs,H1,I1,r1,q1⟩ =>?_)
|`(21#4)=>`([2#3,v1,v2,v3,some (tab K R),some (.ref r5),none,v7,v8,v9])
|`(21#5)=>`([some (.int h),some (.int y),some (.int (T h y:Nat))])
local macro_rules
|`(21#6)=>`(X.fn x=true\/X.env.scope.names.lookup x=some .local)
|`(21#7)=>`([x,some u,y,some (.ref (S.length+2)),some (.int i)])
|`(21#8)=>`([2#3,0#3,2#5,some (.ref r3),v4,v5,v6,v7,v8,v9])
|`(21#9)=>`([0#3,7#4,1#1,some (.tup (ai (ls.getD k [])))])
local macro_rules
|`(22#0)=>`((some (.int ((i+j+sx (i / 2) (j / 2)) % 2:Nat))))
|`(22#1)=>`(m2 oIx (m2 oIx 0#6 0#5) 0#7)
|`(22#2)=>`((.tbl (ps ++ #[rawInt a,rawInt b,.ref c])))
|`(22#3)=>`([Cell.lst (fr.reverse.map (prU T h))])
local macro_rules
|`(22#4)=>`(if 21#1=true then(n,dr) else(n,k'))
|`(22#5)=>`(by unfold big;exact aj 0#4 0#1)
|`(22#6)=>`([tab m T,.tup (ai P),.tup (ai w)])
|`(22#7)=>`(ai ((plc T w).map (nbS m T P)))
local macro_rules
|`(22#8)=>`([0#3,3#8,1#1,none,none,none])
|`(22#9)=>`(kvs.any λkv=>decide (kv.1=k))
|`(23#0)=>`(us.map some++aR (n - k) none)
|`(23#1)=>`(λ_ _ _ _ _ _=>us1 λ_=>rfl)
local macro_rules
|`(23#2)=>`((x == ("__classdict__":Str)))
|`(23#3)=>`([7#4,some (.int (y:Nat))])
|`(23#4)=>`(j6 X.env scope.names [])
|`(23#5)=>`(mFn aP (aa 0#6 7#6))
local macro_rules
|`(23#6)=>`(l.map λx=>U.bl (f x))
|`(23#7)=>`((l.map λ(x:Nat)=>d9 x))
|`(23#8)=>`(aj (aK e) I.ok.above)
|`(23#9)=>`(aa 0#6 (aa 12#4 af))
local macro_rules
|`(24#0)=>`(aa 1#8 (aa 1#4 af))
|`(24#1)=>`([0#3,3#8,none,none])
|`(24#2)=>`((∀b∈fp,H' b=none))
|`(24#3)=>`(show u=bx b from ry)
local macro_rules
|`(24#4)=>`(aa (ae 1) (aa (m2 oIx (m2 oIx 0#6 (m2 oIx 0#7 (m1 fZ 1#4))) (m2 oIx (ae 4) (m1 fZ 1#4))) af))
|`(24#5)=>`(aa (m2 cK (ae 5) (de (aa (ae n) af))) (aa (m2 cK (ae 6) (de (aa (ae (n+1)) af))) af))
|`(24#6)=>`([Cell.lst (ai (dk T part left k))]++[Cell.lst (ai (srt (dk T part left k)))])
|`(24#7)=>`(aa 0#7 (aa (mFn ek (aa 0#6 (aa (mSl 0#5 none (some (ae 5))) af))) af))
local macro_rules
|`(24#8)=>`(⟨rfl,I.turned (t':=s.toks) (λb o hb e=>eb b o hb e) f0 f1 f3 f4 f5⟩)
|`(24#9)=>`(aa (mC (.int 8)) (aa (mC (.int 12)) (aa (mC (.int 24)) af)))
|`(25#0)=>`((J.stop i H /\ ∀D,H D=none->Q (.ref D) (upd H D (.lst ys))))
|`(25#1)=>`(dv x x (gf st) (cq st) (aE st) .none kV doc pm an cdv ct)
local macro_rules
|`(25#2)=>`(HT.sIx xs.length xs.length hi - HT.sIx xs.length 0 lo)
|`(25#3)=>`(λG H R=>wz K (tM K a) G H R\/B6 K (tM K a) G H R)
|`(25#4)=>`(mFn fK (aa (ae 4) (aa (ae 6) (aa (mC (.int 3)) af))))
|`(25#5)=>`(⟨Y0,S1,Y,u,S',hr1,er.mono k1 p1,e,k.mono p1 k1⟩)
local macro_rules
|`(25#6)=>`([0#3,3#8,some (.bl left),1#1,some (.ref a),2#8,c])
|`(25#7)=>`([some (.int (i:Nat)),some (.tup (ai (ls.getD i [])))])
|`(25#8)=>`(sIx items.size items.size hi - sIx items.size 0 lo)
|`(25#9)=>`(⟨μ,S,Y,x,S1,hr,er,e1,λY0 H1 p1 k1 hr1 =>?_⟩)
local macro_rules
|`(26#0)=>`((∀b o',s.heap.get? b=some o'->h'.get? b=some o'))
|`(26#1)=>`((if (c:Int)<ns.length then(c:Int) else ns.length))
|`(26#2)=>`(λw hw=>nW rx fx r fs w (by simpa using hw))
|`(26#3)=>`((∀x c,X.env.cells.lookup x=some c->c≠b))
local macro_rules
|`(26#4)=>`(cOf (m2 oLt (mFn bG 4#5) (mC (.int 13))))
|`(26#5)=>`(λY0 H1 us p vs p1 k1 hr1 hs hp rs =>?_)
|`(26#6)=>`(⟨.str _,_,I.tok _,⟨_,rfl⟩,q⟩)
|`(26#7)=>`([2#3,0#3,12#6,1#1,some 4#4,2#8])
local macro_rules
|`(26#8)=>`(b∈X.ex\/X.s₀.heap.objs.size<=b)
|`(26#9)=>`(k1.trans (k2.trans (k3.trans kw)))
|`(27#0)=>`(scope.names.lookup y==some .cell)
|`(27#1)=>`(m2 cK (ae 5) (de (aa (ae 9) af)))
local macro_rules
|`(27#2)=>`(m2 oIx (m2 oIx 0#6 he) (ae n))
|`(27#3)=>`((.Compare a [op,op'] [b,c] pos))
|`(27#4)=>`(starEach [a] X.env = [19#2])
|`(27#5)=>`(show h.get? a=some _ from x)
local macro_rules
|`(27#6)=>`([kL b [0,1,2],kL b [3,4,5]])
|`(27#7)=>`(ln++(kids T st p).reverse)
|`(27#8)=>`(I.base.keep b o e n hb hx)
|`(27#9)=>`([0#3,2#5,18#2,3#9,none])
local macro_rules
|`(28#0)=>`([0#3,2#5,3#9,none,none])
|`(28#1)=>`(hb pins s1 G H1 _ I1 q1)
|`(28#2)=>`(aa (bK (b0 0#5) cTT (j7 (m1 (iW "int") (ae 5)) (j7 (m1 tU (m1 (iW "bool") (ae 5))) (mCh oLt oLt 1#8 (ae 5) (mFn bG 4#0))))) af)
|`(28#3)=>`(m2 cK (m2 cK 0#7 (ae 5)) (m2 oIx (m2 oIx 0#6 (m2 oDiv 0#7 3#3)) (m2 oDiv (ae 5) 3#3)))
local macro_rules
|`(28#4)=>`(bH (aa (m2 oIx (m2 oIx 0#6 (ae 7)) (ae 5)) (aa (m2 oIx (m2 oIx 0#6 (ae 5)) (ae 7)) af)))
|`(28#5)=>`(mML bF 0#5 (aa (mFn bC (aa (bK (iR1 4#0) cTT (wQ 1 g φ (aa 0#7 4#5))) af)) af))
|`(28#6)=>`(⟨⟨vs,hs,by rw[<- rs.len];exact dF.mp z⟩,λD hD=>i9 (k.mono p1 k1) hr1 ra hD⟩)
|`(28#7)=>`(m2 gv 3#3 (m2 oIx (m2 oIx 1#5 (m2 oDiv 0#7 3#3)) (m2 oDiv (ae 5) 3#3)))
local macro_rules
|`(28#8)=>`(jL (cOf (mFn iU (aa (mFn eK (aa 0#7 (aa (ae 4) 10#3))) (aa (ae 6) af)))))
|`(28#9)=>`((.Slice none none (some (.UnaryOp .USub (.Constant (.int 1) j p3) p4)) p2))
|`(29#0)=>`(⟨_,e,λ_ z=>(by cases z),λ_ _ z=>(by cases z),λ_ z=>(by cases z)⟩)
|`(29#1)=>`([2#3,0#3,2#5,some (.ref r3),v4,some (.ref r5),v6,none,none,none])
local macro_rules
|`(29#2)=>`((∀ (s:Shared) (v:Value),BindsTo s fd ⟨[v],[]⟩ [("script",v)]))
|`(29#3)=>`(m2 oIx (m2 oIx 1#5 (m2 oMod (ae 4) 0#5)) (m2 oMod (ae 6) 0#5))
|`(29#4)=>`(dv x x (gf st) (cq st) (aE st) .none kV doc pm an (.ref c) ct)
|`(29#5)=>`(dv x qual (gf st) (cq st) (aE st) .none kV doc pm an cdv ct)
local macro_rules
|`(29#6)=>`(thn (he pins s G H _ I h) λv s1 ⟨x,H1,I1,r1,q1⟩ =>?_)
|`(29#7)=>`([2#3,v1,v2,v3,some (tab K R),some (.ref r5),3#9,v7,v8,v9])
|`(29#8)=>`(aa (mIs u (b 3)) (aa (mIs u (b 4)) (aa (mIs u (b 5)) af)))
|`(29#9)=>`(⟨μ,S,Y,xs,S2,hr,er,e2,λY0 vs H1 p1 k1 hr1 rs =>?_⟩)
local macro_rules
|`(30#0)=>`(⟨μ,S,Y,_,_,hr,er,e1,λY0 vx H1 p1 k1 hr1 rx =>?_⟩)
|`(30#1)=>`(⟨μ,S,Y,_,_,hr,er,e1,λY0 vs H1 p1 k1 hr1 rs =>?_⟩)
|`(30#2)=>`([0#3,3#8,some (.bl left),1#1,some (.ref a),2#8,2#3])
|`(30#3)=>`(⟨Y0,S1,Y,C,S',hr1,er.mono k1 p1,q,aft.mono p1 k1⟩)
local macro_rules
|`(30#4)=>`(tups ((qJ T st (pk T st) (m - 1) ([],[0])).take most))
|`(30#5)=>`(match a Y S with |some (.nx,Y1,S1)=>b Y1 S1 |r=>r)
|`(30#6)=>`(jL (cOf (mFn eN (aa 0#6 (aa 1#5 (aa 0#7 3#4))))))
|`(30#7)=>`(aa 12#4 (aa (m2 cK 1#4 (mFn aP (aa 0#6 3#4))) af))
local macro_rules
|`(30#8)=>`((∀Y3 H',N Y3 H' -> ∃m',m'<m/\W (i+1) m' Y3 H'))
|`(30#9)=>`(starEach [a,b] X.env = [19#2,(false,eval b X.env)])
|`(31#0)=>`([2#3,none,none,none,none,none,none,none,none,none])
|`(31#1)=>`(some (.builtin "BaseException.__getattribute__"))
local macro_rules
|`(31#2)=>`(mFn aP (aa 0#6 (aa (mFn bG (aa (ae 9) af)) af)))
|`(31#3)=>`([0#3,2#5,some u,1#1,some (.ref (S1.length+3))])
|`(31#4)=>`(⟨⟨vs,hs,?_⟩,fl Y0 Y6 H1 p1 k1 hr1 er1⟩)
|`(31#5)=>`([tab (2+r) (bL (2+r)),tab (2*(2+r)) (ix (2+r))])
local macro_rules
|`(31#6)=>`((∀b o,s.heap.get? b=some o->h'.get? b=some o))
|`(31#7)=>`(pj qual scope s.heap.objs.size f (.ref c) cl')
|`(31#8)=>`(⟨f,μ,S,[],Pre.refl _,bq.refl _,hr,.nil,h⟩)
|`(31#9)=>`([Cell.lst [.int (T y k:Nat),.int (T k y:Nat)]])
local macro_rules
|`(32#0)=>`(gTp 3 (eD (gN 3) (eD (gN 4) (eD (gN 5) m8))))
|`(32#1)=>`(starEach [b] X.env = [(false,eval b X.env)])
|`(32#2)=>`(bH (aa (mFn cQ 4#5) (aa (mFn gF 4#5) af)))
|`(32#3)=>`([some (U.ref n),some (.int m),1#1]++[2#8])
local macro_rules
|`(32#4)=>`(⟨f,μ,S,Y,Pre.refl _,bq.refl _,hr,er,e⟩)
|`(32#5)=>`(aa 1#4 (aa 1#4 (aa 1#4 (aa 1#4 15#3))))
|`(32#6)=>`([0#3,3#8,1#1,some (.int (k:Nat)),3#9,c])
|`(32#7)=>`([0#3,2#5,18#2,3#9,some (.ref S1.length)])
local macro_rules
|`(32#8)=>`(cU (aG ⟨plainId_quiet ig _,fQ zz ?_⟩))
|`(32#9)=>`(aa (de (aa (de af) (aa (de 8#8) af))) af)
|`(33#0)=>`(thn 13#7 λv s1 ⟨x,H1,I1,r1,q1⟩ =>?_)
|`(33#1)=>`(envOfC qual scope s.heap.objs.size f cd)
local macro_rules
|`(33#2)=>`(aa 1#8 (aa 3#3 (aa (mC (.int 4)) af)))
|`(33#3)=>`(iR1 (aa (m2 cK (mFn bG 3#4) 1#4) af))
|`(33#4)=>`((.ref S1.length,S1++[.lst (ai (srt l))]))
|`(33#5)=>`(show(gg S p x)[S.length]? = _ from h0)
local macro_rules
|`(33#6)=>`(by unfold frs;rw[eX,hf];exact aD _ hb)
|`(33#7)=>`(⟨T.D,T.C,[(y,g,φ)],T.H,T.mkr,T.Z⟩)
|`(33#8)=>`([0#3,7#4,some (.tup (ai (plc T v)))])
|`(33#9)=>`(λkv=>if kv.1=k then(kv.1,v) else kv)
local macro_rules
|`(34#0)=>`(aX (ee 3 4#6 (bu 2 22#1)) (cb 0#5))
|`(34#1)=>`(aW (aj (aK e) (I.ok.cab x c hfn hc)))
|`(34#2)=>`(m2 zd (mC (.int 10)) (mC (.int 18)))
|`(34#3)=>`((.of (hB caps capv cds base hbb) rfl))
theorem au1(h:0=0:=by rfl):0=0:=h
theorem au2(h:0=0:=by decide):0=0:=h
theorem au3(h:Nat->0=0:=by intro _;rfl):0=0:=h 0
theorem au4(h:0=0\/0=1:=by first |exact .inl rfl |exact .inr rfl |assumption):0=0:=rfl
noncomputable section
open Array renaming length_toList→fP,getElem?_toList→FI,toList_append→JC
open Bool renaming and_eq_true→ar,false_ne_true→bM,and_eq_true_iff→dW,false_eq_true→gq,and_true→iJ,not_true→ko,or_eq_true→kW,not_false→lX,true_and→DZ
open Classical renaming propDecidable→cp,byContradiction→fh
open False renaming elim→bT
open ForInStep renaming yield→d5
open Int renaming ofNat_lt→gJ,natCast_nonneg→mL,natCast_emod→oQ,emod_lt_of_pos→wD,natAbs_natCast→wF,toNat_natCast→xt,natCast_ediv→zC,toNat→zD,emod_nonneg→Bb,natCast_add→Bc,eq_ofNat_of_zero_le→FN
open List renaming getElem?_eq_some_iff→ag,getElem?_append_right→aq,length_map→ax,range→ay,getElem?_set_ne→aB,mem_cons_of_mem→aD,getElem?_eq_getElem→aF,size_toArray→aH,append_assoc→aJ,getElem?_append_left→aM,getElem?_set_self→aN,mem_map→aQ,replicate→aR,getD_eq_getElem?_getD→aU,mem_append_right→aY,lookup_cons→a6,mem_cons_self→a7,length_append→a8,mem_cons→a9,length_range→bc,mem_append→be,mem_append_left→bg,getElem?_map→bj,map_cons→bp,all_eq_true→bI,map_congr_left→bN,mem_of_getElem?→bP,nodup_iff_pairwise_ne→bS,all_cons→bU,find?_cons→bV,mem_singleton→bW,range'→bY,mem_range→bZ,length_cons→cf,getElem_mem→cg,map_append→ck,getElem?_eq_none→cY,nil_append→dg,getElem?_eq_none_iff→dF,replicate_succ→dH,eq_nil_of_length_eq_zero→dJ,set_append_right→dP,length_nil→ej,mem_filter→eR,range_succ→eS,filterMap_cons→eX,map_map→eZ,length_filter_le→fo,findIdx?_eq_some_iff_getElem→fv,length_set→fH,flatten_cons→fI,length_reverse→fU,any_eq_true→fY,getLast?_eq_some_getLast→gn,append_nil→gK,any_cons→gQ,pairwise_map→g8,drop_eq_getElem_cons→iC,getLastD_eq_getLast?→iD,nodup_cons→iM,lookup_append→iS,getElem?_replicate→i5,map_nil→jr,reverse_cons→jt,nodup_append→ju,all_nil→jv,length_replicate→jW,length_take→j5,mem_of_mem_take→ku,take_append_of_le_length→ky,of_mem_zip→kS,forIn_cons→kU,getElem?_range→lB,ext_getElem?→mR,take_add_one→mS,foldl_append→mT,idxOf_lt_length_iff→mX,range'_succ→oB,not_mem_nil→oC,isEmpty_iff→oE,getElem?_cons_zero→oH,take_length→oI,filter_cons_of_pos→oJ,filter_cons_of_neg→oK,drop_of_length_le→o9,take_of_length_le→pb,foldl_cons→qf,lookup→rK,range_eq_range'→rL,drop_zero→rN,reverse_append→tJ,flatMap_append→tK,length_pos_iff→tL,findIdx?_cons→uC,length_range'→uE,mem_range'_1→wJ,eraseIdxIfInBounds_toArray→xu,drop_length→yo,length→zx,pairwise_iff_getElem→Cs,sum_cons→DX,map_take→DY,eraseIdx_cons_succ→Fy,length_eq_zero_iff→Fz,getElem?_cons_succ→FD,length_eq_one_iff→FK,pairwise_lt_range→FL,sum_replicate_nat→FP,length_singleton→Jr,dropLast_eq_take→Js,getElem_toArray→JB,map_eq_cons_iff→JD,map→JF,dropLast_concat→JG,map_id→JH,mem_iff_getElem→JI
open List.Pairwise renaming nil→iB,imp_of_mem→kB
open List.Perm renaming trans→JE
open Nat renaming lt_of_lt_of_le→aj,le_refl→ak,lt_of_le_of_lt→aA,le_trans→aC,le_of_lt→aT,ne_of_lt→aW,le_of_not_lt→bA,lt_succ_self→bB,mod_eq_of_lt→bJ,lt_irrefl→bO,ne_of_gt→cN,lt_trans→cP,le_succ→dc,add_pos_left→dj,zero_le→dC,zero_add→dR,mul_le_mul_right→dX,lt_succ_of_lt→eg,le_add_right→eF,le_of_lt_succ→eT,add_assoc→fO,div_eq_of_lt→gc,sub_le→gI,le_succ_of_le→g9,lt_succ_iff_lt_or_eq→iP,lt_of_le_of_ne→i6,succ_mul→jC,add_comm→jD,min_le_left→lA,add_sub_cancel'→lD,mul_le_mul_left→lE,le_of_eq→lT,mul_comm→lU,sub_self→lV,sub_add_cancel→mK,add_mod_right→mV,sub_sub_right→mW,sub_add_comm→oP,add_zero→qg,mod_self→qh,lt_of_succ_lt_succ→qi,mod_add_mod→qj,mod_lt→wB,lt_of_lt_of_eq→wC,add_sub_cancel_left→FM,sub_zero→Jv
open Nat.succ renaming inj→Bh
open Ne renaming symm→dZ
open Option renaming bind_some→ah,map_some→aI,isSome_iff_exists→dM,filter_eq_some_iff→lW,isSome_map→mJ,isSome_some→Jz
open Option.some renaming inj→b9,injEq→fg
open PUnit renaming unit→ub
open PyProof.Rows renaming slot_tuple_getitem→dw,callWith_type1→dO,recsOf→fw,boot_tuple→xy,boot_list→yq
open PyProof.Rows.IsTup renaming new→n9
open PySem renaming wpAny_bind→av,wpAny_pure→aG,wpAny→aV,wpAny_mono→cj,mem_of_lookup→cy,wpAny_newObj_type→cU,wpAny_Call_Name_kw→d4,wpAny_truthy_bool→en,codeAny_builtin→fQ,wpAny_holding→f9,wpAny_passesOwn→hX,wpAny_loadPart'→hZ,codeAny_mono→iL,Addr→iO,PyData→jo,wpAny_execs_nil→jq,wpAny_typeOf→km,wpAny_loadPart_at→kq,wpAny_call_entry→lz,wpAny_assign_Name→o4,codeAny→o5,wpAny_field→o7,wpAny_comprehension_free→qc,wpAny_callSpecial?_slot→rF,wpAny_sequenceKey→A5,wpAny_execs_cons→Cr,wpAny_load→Jo,wpAny_call→Jp,wpAny_runValue→Jt
open PySem.Around renaming under_plainId→eG,frames_deeper→FH
open PySem.AutoSeq1 renaming idx_int→uD
open PySem.Builtin.List renaming listTooLong→kT,listExtendWith→ua,listSameRef→wH
open PySem.Builtin.Range renaming rangeSize→eu,small→oa
open PySem.Builtin.Slice renaming slicePlaces→cZ,sliceAdjust→eY,sliceApplied→gm,sliceFields→uB
open PySem.Builtin.Tuple renaming tupleExact→bX,tupleItemsOf→jX,tupleIsExact→t8,tupleTooMany→t9
open PySem.Calls renaming spliced_cons→eA,spliced_nil→gU,evalArgs_plain→kn,callWith_builtin→oO,Name_function_global→A4,call_function_entry→Bf
open PySem.Data renaming seq→JA
open PySem.F renaming plainAttrs_list→fN,plain_list_iadd→ig,typeOf_object_class→kA,args_tuple_add_2→mI,entry_tuple_add→mQ,slot_tuple_add→nZ,entry_proto_collect→sW,plain_proto_collect→sX,args_tuple_mul_2→xw,entry_tuple_mul→zy,entry_list_iadd→zz,excBase_ValueError→zA,slot_tuple_mul→A6,slot_list_append→A7,type_list_append→A8,slot_tuple_index→A9,slot_list_pop→DV,type_list_pop→DW
open PySem.Heap renaming get?_push_of_some→aw,lt_size→aK,get?_push_size→aL,size_push→bR,get?_update_other→d8,get?_update_self→jY,FlyingW→o8,SameBut→FE
open PySem.Heap.IsSliceOf renaming new→oA
open PySem.IsL renaming update→Jq
open PySem.NameKind renaming free→aZ,cell→dr
open PySem.Obj renaming mapSeq→eE
open PySem.Paired renaming length→Be
open PySem.PassesOwn renaming never→mU
open PySem.PyData renaming eqvAll→cR,eqv→dz,strOk→dD,canLay0→d6,int→d9,canLayAll0→fB,showable→iI,depthAll→iN,depth→ji,intsShort→jH,depthAll→kr,eqv→lC,intsShortAll→rM,showableAll→tI,weightAll→wI,shownAll→yr,hasDict_of_canLay→Bg,strOk→Bi,depth→Bj
open PySem.SeqAt.EqAt renaming int_str→DT,str_int→DU
open PySem.Str renaming ofString→qb
open PySem.Value renaming ref→bx,none→jV,int→rH,str→rJ,builtin→tH,bool→t6,type→A3
open PySem.W renaming Frag→ao,nsIn→bE,hideAll→cH,kitOne→cX,kia_one→dn,keepIn→dq,fnOf→dv,mg_of→dB,hideAll_get→fJ,hideAll_none→gY,codeIn→gZ,cellsFrom_some→i4,of_hideAll→lu,callWith_K→ly,OpenLaw→oG,methodObj→t7,instObj→xr,kla_makeFunctionHit→yp,lookIn→zw,exmOne→zB,kla_makeFunction→Ba,hideAll_size→Fx,kla_callFunE→FA,kla_codeExpr→FB,callWith_K0→FG,callWith_of→FJ,mg_none_of→Ju,kitx_none→Jw,kitx_list→Jx,kitx_dict→Jy
open PySem.W.Looks renaming ld→rG
open Sum renaming inl→eQ,inr→xq
open Sum.inl renaming inj→wG
open True renaming intro→gp
namespace _L
open PySem PySem.Spec PyProof.Rows
abbrev Key:=Sum Int Str
def vI:Key->Value->Bool
 |.inl k,v=>Value.isInt k v
 |.inr x,v=>Value.isStrOf x v
def TR(w:World):Key->Int
 |.inl k=>hashInt k
 |.inr x=>hashStr w x
theorem eO:∀{k:Key}{v:Value},vI k v=true->(∃i t,k=eQ i/\v=rH i t)\/(∃x t,k=xq x/\v=rJ x t)
 | .inl i,v,h=>by
   obtain⟨t,e⟩:=Value.isInt_shape (k:=i) (v:=v) h;exact .inl ⟨i,t,rfl,e⟩
 | .inr x,v,h=>by
   obtain⟨t,e⟩:=Value.isStrOf_shape (x:=x) (v:=v) h;exact .inr ⟨x,t,rfl,e⟩
theorem Eb(i:Int)(t:Tok):vI (.inl i) (.int i t)=true:=by simp[vI,Value.isInt]
theorem Fv(x:Str)(t:Tok):vI (.inr x) (.str x t)=true:=by simp[vI,Value.isStrOf]
theorem Pa(a b:Int):decide ((eQ a:Key)=eQ b)=(a==b):=by
 by_cases e:a=b
 .subst e;simp
 .have h: ¬(eQ a:Key)=eQ b:=λq=>e (wG q)
  rw[decide_eq_false h];exact(beq_eq_false_iff_ne.mpr e).symm
theorem Og(a b:Str):decide ((xq a:Key)=xq b)=decide (a=b):=by
 by_cases e:a=b
 .subst e;simp
 .have h: ¬(xq a:Key)=xq b:=λq=>e (Sum.inr.inj q)
  rw[decide_eq_false h,decide_eq_false e]
theorem Nv(a:Int)(b:Str):decide ((eQ a:Key)=xq b)=false:=decide_eq_false (λq=>nomatch q)
theorem OI(a:Str)(b:Int):decide ((xq a:Key)=eQ b)=false:=decide_eq_false (λq=>nomatch q)
def eB(prog:Program)(w:World):PySem.KeyKind prog w Key where
 is:=vI
 hash:=TR w
 inj:=λv a b ha hb=>by
  rcases eO ha with⟨i,t,rfl,rfl⟩|⟨x,t,rfl,rfl⟩
  .rcases eO hb with⟨j,u,rfl,e⟩|⟨y,u,rfl,e⟩
   .injection e with e1 _;rw[e1]
   .exact nomatch e
  .rcases eO hb with⟨j,u,rfl,e⟩|⟨y,u,rfl,e⟩
   .exact nomatch e
   .injection e with e1 _;rw[e1]
 byValue:=λk v h=>by
  rcases eO h with⟨i,t,rfl,rfl⟩|⟨x,t,rfl,rfl⟩<;>rfl
 pyHash:=λhv h=>by
  rcases eO hv with⟨i,t,rfl,rfl⟩|⟨x,t,rfl,rfl⟩
  .exact wpAny_pyHash_int h
  .exact wpAny_pyHash_str h
 eqBool:=λhu hv h=>by
  rcases eO hu with⟨i,t,rfl,rfl⟩|⟨x,t,rfl,rfl⟩
  .rcases eO hv with⟨j,u,rfl,rfl⟩|⟨y,u,rfl,rfl⟩
   .rw[Pa]at h;exact wpAny_eqBool_int h
   .rw[Nv]at h;exact DT i t y u _ _ _ _ h
  .rcases eO hv with⟨j,u,rfl,rfl⟩|⟨y,u,rfl,rfl⟩
   .rw[OI]at h;exact DU x t j u _ _ _ _ h
   .rw[Og]at h;exact wpAny_eqBool_str h
 «strs»:=λk x t v h=>by
  rcases eO h with⟨i,u,rfl,e⟩|⟨y,u,rfl,e⟩
  .exact nomatch e
  .injection e with e1 _
   subst e1;cases v<;>rfl
theorem AD(prog:Program)(w:World)(i:Int)(t:Tok):(eB prog w).is (.inl i) (.int i t)=true:=Eb i t
theorem zS(prog:Program)(w:World)(x:Str)(t:Tok):(eB prog w).is (.inr x) (.str x t)=true:=Fv x t
inductive V where
 |non |bl (b:Bool) |int (i:Int) |str (x:Str) |byt (b:Array UInt8) |flt (b:UInt64) |ref (a:Addr) |ty (n:String)
def RelV:V->Value->Prop
 |.non,u=>u=jV
 |.bl b,u=>u=t6 b
 |.int i,u=>∃t,u=rH i t
 |.str x,u=>∃t,u=rJ x t
 |.byt b,u=>∃t,u=Value.bytes b t
 |.flt b,u=>∃t,u=Value.float b t
 |.ref a,u=>u=bx a
 |.ty n,u=>u=A3 n
abbrev cM:List V->List Value->Prop:=Paired RelV
variable{xs:List V}{us:List Value}
theorem cM.length(r:cM xs us):xs.length=us.length:=Be r
theorem cM.get:∀{xs:List V}{us:List Value}{i:Nat}{x:V},cM xs us->xs[i]?=some x->∃u,us[i]?=some u/\RelV x u
 |_,_,_,_,.nil,e=>by simp at e
 |_,_,0,_,.cons r _,e=>by simp at e;subst e;exact⟨_,rfl,r⟩
 | _,_,i+1,x,.cons _ t,e=>by
   obtain⟨u,h1,h2⟩:=cM.get (i:=i) (x:=x) t (by simpa using e);exact⟨u,by simpa using h1,h2⟩
theorem cM.set{x:V}{u:Value}(r:RelV x u):∀{xs:List V}{us:List Value} (i:Nat),cM xs us->cM (xs.set i x) (us.set i u)
 |_,_,_,.nil=>.nil
 |_,_,0,.cons _ t=>.cons r t
 |_,_,i+1,.cons q t=>.cons q (cM.set r i t)
theorem cM.append:∀{xs ys:List V}{us ws:List Value},cM xs us->cM ys ws->cM (xs++ys) (us++ws)
 |_,_,_,_,.nil,s=>s
 |_,_,_,_,.cons r t,s=>.cons r (cM.append t s)
theorem cM.take:∀{xs:List V}{us:List Value} (n:Nat),cM xs us->cM (xs.take n) (us.take n)
 |_,_,0,_=>.nil
 |_,_,_+1,.nil=>.nil
 |_,_,n+1,.cons r t=>.cons r (cM.take n t)
theorem cM.drop:∀{xs:List V}{us:List Value} (n:Nat),cM xs us->cM (xs.drop n) (us.drop n)
 |_,_,0,r=>r
 |_,_,_+1,.nil=>.nil
 |_,_,n+1,.cons _ t=>cM.drop n t
def vm:Option V->Option Value->Prop
 |some v,some u=>RelV v u
 |none,none=>True
 |_,_=>False
def KV{κ:Type}:List (κ×V)->List (κ×Value)->Prop:=Paired λ(p:κ×V) (q:κ×Value)=>p.1=q.1/\RelV p.2 q.2
def kV:Key->V
 |.inl i=>.int i
 |.inr x=>.str x
inductive HO where
 |lst (xs:List V)
 |tup (xs:List V)
 |dK (kvs:List (Key×V)) |dT (kvs:List (List Key×V))
 |set (S:Int->Bool) (n:Nat)
 |ins (C dx:Addr) (fs:List (Str×V))
 |own (x:Addr)
 |xd (fs:List (Str×V))
 |met (f x:Addr)
 |rng (lo hi:Int)
 |frz (o:Obj) (u:HO)
 |tbl (ps:Array Value)
 |ext (φ:Heap->Prop)
abbrev Hp:=Addr->Option HO
def upd(H:Hp)(a:Addr)(o:HO):Hp:=λb=>if b=a then some o else H b
variable{H:Hp}{a:Addr}{o:HO}
theorem cz:upd H a o a=some o:=by unfold upd;rw[if_pos rfl]
variable{b:Addr}
theorem bo(h:b≠a):upd H a o b=H b:=by unfold upd;rw[if_neg h]
theorem qy{u:HO}(h:H a=some o)(h':H b=some u)(d:o≠u):a≠b:=by
 intro e;subst e;rw[h]at h';exact d (b9 h')
theorem bf(h:H a=some o)(h':H b=none):a≠b:=by
 intro e;subst e;rw[h]at h';cases h'
section
variable (P:Program) (w:World)
def eI(H:Hp)(h:Heap)(a:Addr):HO->Prop
 |.lst xs=>xs.length<=sizeLine /\ ∃ (its:List Value) (n:Nat),cM xs its/\h.get? a=some { cls := .type "list",data := .seq its.toArray n }
 |.tup xs=>xs.length<=sizeLine /\ ∃its:List Value,cM xs its/\IsTup h a its.toArray /\ ∃o,h.get? a=some o/\o.dict=none
 |.dK kvs=>kvs.length<=sizeLine/\18#0=false /\ ∃vs,KV kvs vs/\h.DictOf (eB P w) a vs
 | .dT kvs=>kvs.length<=sizeLine/\18#0=false /\ ∃xs:List (List Key×Addr×Value),
   Paired (λ(p:List Key×V) (q:List Key×Addr×Value)=>p.1=q.1/\H q.2.1=some (.tup (p.1.map kV))/\RelV p.2 q.2.2) kvs xs /\
   ∃o es ep,h.get? a=some o/\o.ExactDict/\o.data=.dict es ep/\es.toList=xs.map (entryOfKey (tupleKind (eB P w)))/\(xs.map 2#2).Nodup
 |.set S n=>h.SetOf (intKind P w) a S n
 | .ins C dx fs=>H dx=some (.own a)/\fs.length<=1000/\dx≠a/\h.get? a=some (xr C dx) /\
   ∃mA,h.Ns1 dx mA/\(∀f,vm (fs.lookup f) (mA f))/\PySem.Within mA (fs.map 2#2)
 |.own _=>∃o,h.get? a=some o
 |.xd fs=>∃mA,h.Ns1 a mA /\ ∀f,vm (fs.lookup f) (mA f)
 |.rng lo hi=>∃ t u v,h.get? a=some { cls := .type "range",data := .fields #[.int lo t,.int hi u,.int 1 v] }
 |.frz o u=>h.get? a=some o/\eI H h a u
 |.tbl ps=>h.get? a=some { cls:= .none,data:= .fields ps }
 |.met f x=>h.get? a=some (t7 (.ref f) (.ref x))
 |.ext φ=>φ h/\(∃o,h.get? a=some o) /\ ∀h1 h2:Heap,φ h1->(∀o,h1.get? a=some o->h2.get? a=some o)->φ h2
def HOk(H:Hp)(h:Heap):Prop:= ∀a o,H a=some o->eI P w H h a o
end
section
variable {P:Program}{w:World}{H H':Hp}{h h':Heap}{a:Addr}{o:HO}
theorem eI.lt(x:eI P w H h a o):a<h.objs.size:=by
 cases o with
 |lst xs=>obtain⟨_,_,_,_,e⟩:=x;exact aK e
 |tup xs=>obtain⟨_,_,_,p⟩:=x;exact p.1.lt
 |dK kvs=>obtain⟨_,_,_,_,o,_,_,e,_⟩:=x;exact aK e
 |dT kvs=>obtain⟨_,_,_,_,o,_,_,e,_⟩:=x;exact aK e
 |set S n=>obtain⟨o,_,_,_,e,_⟩:=x;exact aK e
 |ins C dx fs=>obtain⟨_,_,_,e,_⟩:=x;exact aK e
 |own y=>obtain⟨_,e⟩:=x;exact aK e
 |xd fs=>obtain⟨_,⟨_,_,_,e,_⟩,_⟩:=x;exact aK e
 |rng lo hi=>obtain⟨_,_,_,e⟩:=x;exact aK e
 |frz ob u=>obtain⟨e,_⟩:=x;exact aK e
 |tbl ps=>exact aK 27#5
 |met f y=>exact aK 27#5
 |ext φ=>obtain⟨_,⟨_,e⟩,_⟩:=x;exact aK e
theorem Paired.mapP{α β:Type}{F B':α->β->Prop}:∀{l₁:List α}{l₂:List β},Paired F l₁ l₂->(∀a b,F a b->B' a b)->Paired B' l₁ l₂:=by
 intro l m h f
 induction h with
 |nil=>exact .nil
 |cons r t ih=>exact .cons (f _ _ r) ih
theorem eI.stay(x:eI P w H h a o)(k:∀b u,(b=a\/H b=some (.own a))->h.get? b=some u->h'.get? b=some u)
  (ho:∀b,H b=some (.own a)->H' b=some (.own a)) (ht:∀b xs,H b=some (.tup xs)->H' b=some (.tup xs)):eI P w H' h' a o:=by
 induction o with
 |lst xs=>obtain⟨z,its,n,r,e⟩:=x;exact⟨z,its,n,r,k _ _ 5#5 e⟩
 |tup xs=>obtain⟨z,its,r,⟨ob,e,c⟩,o2,e2,c2⟩:=x;exact⟨z,its,r,⟨ob,k _ _ 5#5 e,c⟩,o2,k _ _ 5#5 e2,c2⟩
 |dK kvs=>obtain⟨z,y,vs,r,ob,es,ep,e,c⟩:=x;exact⟨z,y,vs,r,ob,es,ep,k _ _ 5#5 e,c⟩
 | dT kvs=>
   obtain⟨z,y,xs,r,ob,es,ep,e,c⟩:=x;exact⟨z,y,xs,Paired.mapP r λp q z=>⟨z.1,ht _ _ z.2.1,z.2.2⟩,ob,es,ep,k _ _ 5#5 e,c⟩
 |set S n=>obtain⟨ob,es,ep,t,e,c⟩:=x;exact⟨ob,es,ep,t,k _ _ 5#5 e,c⟩
 | ins C dx fs=>
   obtain⟨d,z,ne,e,mA,⟨od,es,ep,e2,c⟩,r⟩:=x;exact⟨ho _ d,z,ne,k _ _ 5#5 e,mA,⟨od,es,ep,k _ _ (.inr d) e2,c⟩,r⟩
 |own y=>obtain⟨ob,e⟩:=x;exact⟨ob,k _ _ 5#5 e⟩
 |xd fs=>obtain⟨mA,⟨od,es,ep,e,c⟩,r⟩:=x;exact⟨mA,⟨od,es,ep,k _ _ 5#5 e,c⟩,r⟩
 |rng lo hi=>obtain⟨t,u,v,e⟩:=x;exact⟨t,u,v,k _ _ 5#5 e⟩
 |frz ob u ih=>obtain⟨e,q⟩:=x;exact⟨k _ _ 5#5 e,ih q⟩
 | tbl ps=>
   have e:h.get? a=some { cls:= .none,data:= .fields ps }:=x;show h'.get? a=some { cls:= .none,data:= .fields ps };exact k a _ 5#5 e
 | met f y=>
   have e:h.get? a=some (t7 (.ref f) (.ref y)):=x;show h'.get? a=some (t7 (.ref f) (.ref y));exact k a _ 5#5 e
 |ext φ=>obtain⟨p,⟨o,e⟩,st⟩:=x;exact⟨st _ _ p λo q=>k _ _ 5#5 q,⟨o,k _ _ 5#5 e⟩,st⟩
theorem HOk.lt(x:HOk P w H h)(e:H a=some o):a<h.objs.size:=(x a o e).lt
theorem HOk.fresh(x:HOk P w H h)(e:h.objs.size<=a):H a=none:=by
 cases q:H a with
 |none=>rfl
 |some u=>exact absurd (aj (x.lt q) e) (bO _)
theorem HOk.kept(x:HOk P w H h)(k:∀b u,h.get? b=some u->h'.get? b=some u):HOk P w H h':=λa o e=>
 (x a o e).stay (λb u _ q=>k b u q) (λ_ q=>q) λ_ _ q=>q
theorem HOk.laid(x:HOk P w H h)(k:∀b u,h.get? b=some u->h'.get? b=some u)(hp:h.objs.size<=a)(new:eI P w (upd H a o) h' a o):HOk P w (upd H a o) h':=λb u e=>by
 have hn:=x.fresh hp;by_cases hb:b=a
 .subst hb;rw[cz]at e;cases e;exact new
 .rw[bo hb]at e
  exact(x b u e).stay (λc v _ q=>k c v q) (λc q=>by rw[bo (bf q hn)];exact q) λc xs q=>by rw[bo (bf q hn)];exact q
end
def Rd(H:Hp)(a:Addr)(u:HO):Prop:=H a=some u \/ ∃o,H a=some (.frz o u)
variable{P:Program}{w:World}{h:Heap}
theorem Rd.ok{u:HO}(r:Rd H a u)(x:HOk P w H h):eI P w H h a u:=by
 rcases r with r|⟨o,r⟩
 .exact x a u r
 .obtain⟨_,q⟩:=x a _ r
  exact q
def Mut:Option HO->Prop
 |some (.lst _)=>True
 |some (.dK _)=>True
 |some (.dT _)=>True
 |some (.set _ _)=>True
 |some (.ins _ _ _)=>True
 |some (.ext _)=>True
 |_=>False
section
variable {P:Program}{w:World}{H:Hp}{h h':Heap}{x e:Addr}{o':HO}
theorem HOk.write(ok:HOk P w H h)(mu:Mut (H x))(he:e=x\/H e=some (.own x))(k:∀b u,b≠e->h.get? b=some u->h'.get? b=some u)(heo:∃u,h'.get? e=some u)
  (new:eI P w (upd H x o') h' x o'):HOk P w (upd H x o') h':=λb u q=>by
 have nown:∀c y,H c=some (.own y)->c≠x:=λc y r z=>by subst z;rw[r]at mu;exact mu
 have ntup:∀c xs,H c=some (.tup xs)->c≠x:=λc xs r z=>by subst z;rw[r]at mu;exact mu
 by_cases hb:b=x
 .subst hb;rw[cz]at q;cases q;exact new
 .rw[bo hb]at q
  by_cases hbe:b=e
  .have q':H b=some (.own x):=by
    rcases he with z|z
    .exact absurd (hbe.trans z) hb
    .rw[hbe];exact z
   rw[q]at q';cases q';obtain⟨v,hv⟩:=heo;exact⟨v,by rw[hbe];exact hv⟩
  .refine(ok b u q).stay (λc v hc r=>k c v ?_ r) (λc r=>by rw[bo (nown c b r)];exact r) λc xs r=>by rw[bo (ntup c xs r)];exact r
   rcases hc with rfl|hc
   .exact hbe
   .rintro rfl
    rcases he with z|z
    .exact nown c b hc z
    .rw[hc]at z;cases z;exact hb rfl
end
structure Un(fs ex:List Addr)(H H':Hp)(h h':Heap):Prop where
 keep:∀b o,h.get? b=some o->H b=none->b∉fs->b∉ex->h'.get? b=some o
 slot:∀b o,h.get? b=some o->H b=none->b∈fs->b∉ex->∃sl,h'.get? b=some { o with slots:=sl }
 free:∀b o,h.get? b=some o->H b=none->b∉ex->H' b=none
 there:∀b o,h.get? b=some o->b∉ex->∃o',h'.get? b=some o'
 tups:∀b xs,H b=some (.tup xs)->H' b=some (.tup xs)
 frzs:∀b o u,H b=some (.frz o u)->H' b=some (.frz o u)
 tbls:∀b ps,H b=some (.tbl ps)->∃more,H' b=some (.tbl (ps++more))
section
variable {fs fs' ex ex':List Addr}{H H1 H2:Hp}{h h1 h2 h':Heap}{a x e:Addr}{o:HO}
theorem Un.any(u:Un fs ex H H1 h h1){ob:Obj}(q:h.get? b=some ob)(n:H b=none)(hx:b∉ex):∃sl,h1.get? b=some { ob with slots:=sl }:=by
 by_cases hb:b∈fs
 .exact u.slot b ob q n hb hx
 .exact⟨ob.slots,u.keep b ob q n hb hx⟩
theorem Un.kept(k:∀b u,h.get? b=some u->h'.get? b=some u):Un fs ex H H h h':=
 ⟨λb ob q _ _ _=>k b ob q,λb ob q _ _ _=>⟨ob.slots,k b ob q⟩,λ_ _ _ n _=>n,λb ob q _=>⟨ob,k b ob q⟩,λ_ _ q=>q,λ_ _ _ q=>q,λ_ ps q=>⟨#[],by rw[q];simp⟩⟩
theorem Un.refl:Un fs ex H H h h:=Un.kept λ_ _ q=>q
theorem Un.laid(k:∀b u,h.get? b=some u->h'.get? b=some u)(hp:h.objs.size<=a)(hn:H a=none):Un fs ex H (upd H a o) h h' where
 keep:=λb u q _ _ _=>k b u q
 slot:=λb u q _ _ _=>⟨u.slots,k b u q⟩
 free:=λb u q n _=>by rw[bo (aW (aj (aK q) hp))];exact n
 there:=λb u q _=>⟨u,k b u q⟩
 tups:=λb xs q=>by rw[bo (bf q hn)];exact q
 frzs:=λb u xs q=>by rw[bo (bf q hn)];exact q
 tbls:=λb ps q=>⟨#[],by rw[bo (bf q hn),q];simp⟩
theorem Un.write(mu:Mut (H x))(he:e=x\/H e=some (.own x))(k:∀b u,b≠e->h.get? b=some u->h'.get? b=some u)(heo:∃u,h'.get? e=some u):Un fs ex H (upd H x o) h h':=by
 have hx:∀b,H b=none->b≠x:=λb n z=>by subst z;rw[n]at mu;exact mu
 have hb:∀b,H b=none->b≠e:=λb n z=>by
  subst z;rcases he with r|r
  .exact hx b n r
  .rw[n]at r;cases r
 have hm:∀b u,H b=some u->¬Mut (some u)->b≠x:=λb u q nm z=>by subst z;rw[q]at mu;exact nm mu
 refine⟨λb u q n _ _=>k b u (hb b n) q,λb u q n _ _=>⟨u.slots,k b u (hb b n) q⟩,λb u q n _=>by rw[bo (hx b n)];exact n,λb u q _ =>?_,
  λb xs q=>by rw[bo (hm b _ q λz=>z)];exact q,λb u xs q=>by rw[bo (hm b _ q λz=>z)];exact q,λb ps q=>⟨#[],by rw[bo (hm b _ q λz=>z),q];simp⟩⟩
 by_cases hbe:b=e
 .subst hbe;exact heo
 .exact⟨u,k b u hbe q⟩
end
def trk(h:Heap)(H:Hp):List Addr:=(ay h.objs.size).filter λa=>(H a).isSome
def xf(h:Heap)(H:Hp):Heap:=cH h (trk h H)
theorem yn(h:Heap)(H:Hp):(xf h H).objs.size=h.objs.size:=Fx _ _
variable{o:Obj}
theorem rg(e:h.get? b=some o)(n:H b=none):(xf h H).get? b=some o:=
 fJ _ e λhm=>by
  have q:(H b).isSome=true:=(eR.mp hm).2;rw[n]at q;simp at q
theorem DP(e:(xf h H).get? b=some o):h.get? b=some o/\H b=none:=by
 have e':h.get? b=some o:=lu (trk h H) e;refine⟨e',?_⟩;cases q:H b with
 |none=>rfl
 | some x=>
   have hm:b∈trk h H:=eR.mpr ⟨bZ.mpr (aK e'),by simp[q]⟩;have z:(xf h H).get? b=none:=gY (trk h H) hm;rw[z]at e;cases e
def Kq(g h:Heap)(L:Addr):List 1#9:=(ay h.objs.size).filterMap λa=>if a=L\/(g.get? a).isSome=true then none else(h.get? a).map λo=>(a,o)
def rest(g h:Heap)(L d:Addr):List 1#9:=(Kq g h L).filter λp=>decide (p.1≠d)
structure Mod(K:ao)(mg:Str->Option Value)(base:Heap):Prop where
 kin:K.In base
 glob:base.Ns mainGlobals mg
 blt :∃ mb,base.Ns builtinsNs mb /\ ∀ x:Str,x≠"__name__"->mb x=bootBuiltins x
 nolimit:base.NoLimit
set_option genInjectivity false in
structure Cx where
 prog:Program
 w:World
 K:ao
 mg:Str->Option Value
 base:Heap
 A:Around
 N:List Str
 s₀:Shared
 H₀:Hp
 env:Env
 outer:List Env
 stack:List Env
 ex:List Addr
 fn:Str->Bool
 calm:Bool
 pn:List (Addr×Obj)
 xe:Value->Shared->Prop
def frs(l:List Env):List Addr:=l.filterMap (·.frame)
abbrev Cx.fs(X:Cx):List Addr:=frs X.outer
def Vis(sc:Scope)(x:Str):Prop:=sc.names.lookup x=some .local\/sc.names.lookup x=some .cell\/sc.names.lookup x=some .free
def Loc(sc:Scope)(x:Str):Prop:=sc.names.lookup x=some .local\/sc.names.lookup x=some .cell
def Look(env:Env)(h:Heap)(m:Str->Option Value)(x:Str)(u:Value):Prop:=
 (env.kindOf x=some .local/\m x=some u)\/((env.kindOf x=some .cell\/env.kindOf x=some .free) /\ ∃c,env.cells.lookup x=some c/\h.IsCell c (some u))
structure Cx.Ok(X:Cx):Prop where
 mod:Mod X.K X.mg X.base
 kind:X.env.scope.kind=.function
 glob:X.env.globals=mainGlobals
 blt:X.env.builtins=builtinsNs
 above:X.s₀.heap.objs.size<=X.env.locals
 inj:∀x y c,X.env.cells.lookup x=some c->X.env.cells.lookup y=some c->x=y
 has:∀x,(X.env.kindOf x=some .cell\/X.env.kindOf x=some .free)->∃c,X.env.cells.lookup x=some c
 cab:∀x c,X.fn x=true->X.env.cells.lookup x=some c->X.s₀.heap.objs.size<=c
 hd:X.calm=true->X.A.handled=none
 frames:X.A.frames=some X.stack
 stk:X.stack=X.outer\/(X.stack=X.env::X.outer/\X.env.frame=some X.env.locals)
 exf:∀b∈X.ex,b≠X.env.locals /\ ∀x c,X.env.cells.lookup x=some c->c≠b
 bs:∀b o,X.base.get? b=some o->X.s₀.heap.get? b=some o/\X.H₀ b=none
 bsz:X.base.objs.size<=X.s₀.heap.objs.size
 noex:∀b o,X.base.get? b=some o->b∉X.ex
 exfs:∀b∈X.ex,b∉X.fs
 funs:X.s₀.heap.FunFrames X.base X.outer
 frf:∀b∈X.fs,X.H₀ b=none
structure Inv(X:Cx)(pins:List (Addr×Obj))(G:List (Option V))(H:Hp)(s:Shared):Prop where
 ok:X.Ok
 os:s.os=X.s₀.os
 bare:AllBare s.gens
 base:Un X.fs X.ex X.H₀ H X.s₀.heap s.heap
 loc:∃m,s.heap.Ns X.env.locals m /\ ∀(i:Nat) (x:Str) (v:V),X.N[i]?=some x->G[i]?=some (some v)->Vis X.env.scope x->∃u,RelV v u/\Look X.env s.heap m x u
 cell:∀x c,X.env.cells.lookup x=some c->∃v,s.heap.IsCell c v
 free:H X.env.locals=none
 freeC:∀x c,X.env.cells.lookup x=some c->H c=none
 pin:∀p∈X.pn++pins,s.heap.get? p.1=some p.2/\H p.1=none/\p.1≠X.env.locals/\p.1∉X.fs /\ ∀v,p.2.data≠.cell v
 hok:HOk X.prog X.w H s.heap
 len:G.length=X.N.length
section
variable {X:Cx}{pins:List (Addr×Obj)}{G:List (Option V)}{H H':Hp}{s:Shared}{h':Heap}
theorem Cx.Ok.nofr(ok:X.Ok)(e:X.base.get? b=some o):b∉X.fs:=λhb=>by
 have:=(ok.funs.mem hb).1;rw[e]at this;cases this
theorem Inv.bs(I:Inv X pins G H s):∀b o,X.base.get? b=some o->s.heap.get? b=some o/\H b=none:=λb o e=>
 ⟨I.base.keep b o (I.ok.bs b o e).1 (I.ok.bs b o e).2 (I.ok.nofr e) (I.ok.noex b o e),I.base.free b o (I.ok.bs b o e).1 (I.ok.bs b o e).2 (I.ok.noex b o e)⟩
theorem Inv.bk(I:Inv X pins G H s):∀b o,X.base.get? b=some o->s.heap.get? b=some o:=λb o e=>(I.bs b o e).1
theorem Inv.mod(I:Inv X pins G H s):Mod X.K X.mg X.base:=I.ok.mod
theorem Inv.kIn(I:Inv X pins G H s):X.K.In s.heap:=I.ok.mod.kin.keeps I.bk
theorem Inv.lt(I:Inv X pins G H s):X.env.locals<s.heap.objs.size:=let ⟨_,hn,_⟩:=I.loc;hn.lt
theorem Inv.sz(I:Inv X pins G H s):X.s₀.heap.objs.size<=s.heap.objs.size:=aC I.ok.above (aT I.lt)
theorem Inv.nofs(I:Inv X pins G H s)(h:s.heap.objs.size<=a):a∉X.fs:=λhb=>by
 obtain⟨_,o,ho,_⟩:=I.ok.funs.mem hb;exact absurd (aj (aK ho) (aC I.sz h)) (bO _)
theorem Inv.cne(I:Inv X pins G H s):∀x c,X.env.cells.lookup x=some c->c≠X.env.locals:=λx c e z=>by
 obtain⟨v,o,ho,hd⟩:=I.cell x c e;obtain⟨m,⟨o',es,ep,ho',hd',_⟩,_⟩:=I.loc;rw[z,ho']at ho;cases ho;rw[hd']at hd;cases hd
theorem Inv.funs(I:Inv X pins G H s):s.heap.FunFrames X.base X.outer:=by
 have all:∀(l:List Env),(∀b∈frs l,b∈X.fs)->X.s₀.heap.FunFrames X.base l->s.heap.FunFrames X.base l:=by
  intro l
  induction l with
  |nil=>intro _ _;trivial
  | cons env r ih=>
    intro hs hl;obtain⟨hk,⟨L,o,hf,hn,ho,hd⟩,hr⟩:=hl;have hL:L∈X.fs:=hs L (by unfold frs;rw[eX,hf];exact a7);obtain⟨sl,e⟩:=I.base.slot L o ho (I.ok.frf L hL) hL λz=>I.ok.exfs L z hL;exact⟨hk,⟨L,_,hf,hn,e,hd⟩,ih (λb hb=>hs b 33#6) hr⟩
 exact all X.outer (λ_ hb=>hb) I.ok.funs
theorem Inv.stack(I:Inv X pins G H s):s.heap.FunFrames X.base X.stack:=by
 rcases I.ok.stk with e|⟨e,hf⟩
 .rw[e];exact I.funs
 .rw[e]
  obtain⟨m,hn,_⟩:=I.loc;refine .cons (by rw[I.ok.kind];decide) hf hn ?_ I.funs;exact Heap.get?_none_of_le (aC I.ok.bsz I.ok.above)
theorem Inv.stkSub(I:Inv X pins G H s):∀b∈frs X.stack,b∈X.env.locals::X.fs:=λb hb=>by
 rcases I.ok.stk with e|⟨e,hf⟩
 .rw[e]at hb;exact aD _ hb
 .rw[e]at hb
  unfold frs at hb;rw[eX,hf]at hb;exact hb
theorem Inv.stkFree(I:Inv X pins G H s):∀b∈frs X.stack,H b=none:=λb hb=>by
 rcases a9.mp (I.stkSub b hb) with e|hb
 .rw[e];exact I.free
 .obtain⟨_,o,ho,_⟩:=I.ok.funs.mem hb
  exact I.base.free b o ho (I.ok.frf b hb) λz=>I.ok.exfs b z hb
variable{g':Array GenState}{t':Nat}{d':Drawn}
theorem Inv.step{ch:List Addr}(I:Inv X pins G H s)
  (hch:∀b∈ch,26#8/\b≠X.env.locals/\26#3 /\ ∀p∈X.pn++pins,p.1≠b)
  (keep:∀b o,b≠X.env.locals->b∉X.fs->b∉ch->s.heap.get? b=some o->H b=none->h'.get? b=some o)
  (slot:∀b o,b≠X.env.locals->b∈X.fs->b∉ch->s.heap.get? b=some o->H b=none->∃sl,h'.get? b=some { o with slots:=sl }) (free:∀b o,b∉ch->s.heap.get? b=some o->H b=none->H' b=none)
  (there:∀b o,b∉ch->s.heap.get? b=some o->∃o',h'.get? b=some o')
  (tups:∀b xs,H b=some (.tup xs)->H' b=some (.tup xs)) (frzs:∀b o u,H b=some (.frz o u)->H' b=some (.frz o u)) (tbls:∀b ps,H b=some (.tbl ps)->∃more,H' b=some (.tbl (ps++more)))
  (ns:∀m,s.heap.Ns X.env.locals m->h'.Ns X.env.locals m) (hok:HOk X.prog X.w H' h') (hg:AllBare g'):
  Inv X pins G H' { s with heap:=h',gens:=g',drawn:=d',toks:=t' }:=by
 have neL:∀b o,X.s₀.heap.get? b=some o->b≠X.env.locals:=λb o e=>aW 23#8;have neC:∀b o,X.s₀.heap.get? b=some o->b∉X.ex->b∉ch:=λb o e hx hb=>by
  rcases (hch b hb).1 with z|z
  .exact hx z
  .exact absurd (aj (aK e) z) (bO _)
 have cellK:∀x c,X.env.cells.lookup x=some c->∀v,s.heap.IsCell c v->h'.IsCell c v:=λx c e v ⟨o,ho,hd⟩=>by
  have nch:c∉ch:=λz=>(hch c z).2.2.1 x c e rfl;by_cases hc:c∈X.fs
  .obtain⟨sl,q⟩:=slot c o (I.cne x c e) hc nch ho (I.freeC x c e)
   exact⟨_,q,hd⟩
  .exact⟨o,keep c o (I.cne x c e) hc nch ho (I.freeC x c e),hd⟩
 refine⟨I.ok,I.os,hg,⟨λb o e n hb hx=>?_,λb o e n hb hx=>?_,λb o e n hx=>?_,λb o e hx=>?_,λb xs e=>tups b xs (I.base.tups b xs e),λb o xs e=>frzs b o xs (I.base.frzs b o xs e),λb ps e=>?_⟩,?_,λx c e=>?_,?_,λx c e=>?_,λp hp=>?_,hok,I.len⟩
 .exact keep b o (neL b o e) hb (neC b o e hx) 27#8 (I.base.free b o e n hx)
 .obtain⟨sl,e1⟩:=I.base.slot b o e n hb hx
  obtain⟨sl',e2⟩:=slot b _ (neL b o e) hb (neC b o e hx) e1 (I.base.free b o e n hx);exact⟨sl',e2⟩
 .obtain⟨o',e1⟩:=I.base.there b o e hx
  exact free b o' (neC b o e hx) e1 (I.base.free b o e n hx)
 .obtain⟨o',e1⟩:=I.base.there b o e hx
  exact there b o' (neC b o e hx) e1
 .obtain⟨m1,e1⟩:=I.base.tbls b ps e
  obtain⟨m2,e2⟩:=tbls b _ e1;exact⟨m1++m2,by rw[e2,Array.append_assoc]⟩
 .obtain⟨m,hn,hl⟩:=I.loc
  refine⟨m,ns m hn,λi x v e1 e2 e3=>?_⟩;obtain⟨u,r,l⟩:=hl i x v e1 e2 e3;refine⟨u,r,?_⟩;rcases l with l | ⟨k,c,e,z⟩
  .exact .inl l
  .exact .inr ⟨k,c,e,cellK x c e _ z⟩
 .obtain⟨v,z⟩:=I.cell x c e
  exact⟨v,cellK x c e v z⟩
 .obtain⟨m,⟨o,_,_,ho,_⟩,_⟩:=I.loc
  exact free _ o (λz=>(hch _ z).2.1 rfl) ho I.free
 .obtain⟨v,o,ho,hd⟩:=I.cell x c e
  exact free c o (λz=>(hch c z).2.2.1 x c e rfl) ho (I.freeC x c e)
 .obtain⟨e,n,ne,nf,d⟩:=I.pin p hp
  have nch:p.1∉ch:=λz=>(hch p.1 z).2.2.2 p hp rfl;exact⟨keep p.1 p.2 ne nf nch e n,free p.1 p.2 nch e n,ne,nf,d⟩
theorem Inv.un(I:Inv X pins G H s)(u:Un X.fs [] H H' s.heap h')(hok:HOk X.prog X.w H' h'):Inv X pins G H' { s with heap:=h',toks:=t' }:=by
 obtain⟨m,⟨o,es,ep,ho,r⟩,_⟩:=id I.loc;obtain⟨sl,hL⟩:=u.any ho I.free 0#8
 exact I.step (g':=s.gens) (d':=s.drawn) (ch:= []) (λ_ z=>nomatch z) (λb o _ hb _ e n=>u.keep b o e n hb 0#8) (λb o _ hb _ e n=>u.slot b o e n hb 0#8) (λb o _ e n=>u.free b o e n 0#8) (λb o _ e=>u.there b o e 0#8) u.tups u.frzs u.tbls (λm' hm=>by
  obtain⟨o',es',ep',ho',r'⟩:=hm;rw[ho]at ho';cases ho'
  exact⟨_,es',ep',hL,r'⟩) hok I.bare
theorem Inv.call{ch:List Addr}(I:Inv X pins G H s)(u:Un 10#8 ch H H' s.heap h')(hok:HOk X.prog X.w H' h')(hg:AllBare g')
  (hch:∀b∈ch,26#8/\b≠X.env.locals/\26#3 /\ ∀p∈X.pn++pins,p.1≠b):
  Inv X pins G H' { s with heap:=h',gens:=g',drawn:=d',toks:=t' }:=by
 obtain⟨m,⟨o,es,ep,ho,r⟩,_⟩:=id I.loc;obtain⟨sl,hL⟩:=u.any ho I.free λz=>(hch _ z).2.1 rfl
 exact I.step (ch:=ch) hch (λb o hL hb hc e n=>u.keep b o e n (λz=>(a9.mp (I.stkSub b z)).elim hL hb) hc) (λb o _ _ hc e n=>u.any e n hc) (λb o hc e n=>u.free b o e n hc) (λb o hc e=>u.there b o e hc) u.tups u.frzs u.tbls (λm' hm=>by
  obtain⟨o',es',ep',ho',r'⟩:=hm;rw[ho]at ho';cases ho'
  exact⟨_,es',ep',hL,r'⟩) hok hg
theorem Inv.turned{it:Addr}(I:Inv X pins G H s)(k:∀b o,b≠it->s.heap.get? b=some o->h'.get? b=some o)(hn:H it=none)(hL:it≠X.env.locals)
  (h1:it∈X.ex\/X.s₀.heap.objs.size<=it) (h2:∀x c,X.env.cells.lookup x=some c->c≠it) (h3:∀p∈X.pn++pins,p.1≠it):Inv X pins G H { s with heap:=h',toks:=t' }:=by
 have nit:∀b u,H b=some u->b≠it:=λb u e z=>by rw[z,hn]at e;cases e
 refine I.step (g':=s.gens) (d':=s.drawn) (ch:= [it]) (λb hb=>?_) (λb o _ _ hc e _=>k b o (λz=>hc (by simp[z])) e) (λb o _ _ hc e _=>⟨o.slots,k b o (λz=>hc (by simp[z])) e⟩) (λ_ _ _ _ n=>n)
  (λb o hc e=>⟨o,k b o (λz=>hc (by simp[z])) e⟩) (λ_ _ e=>e) (λ_ _ _ e=>e) (λb ps e=>⟨#[],by rw[e];simp⟩) (λm hm=>?_) (λb u e=>?_) I.bare
 .have e:b=it:=by simpa using hb
  subst e;exact⟨h1,hL,h2,h3⟩
 .obtain⟨o,es,ep,ho,r⟩:=hm
  exact⟨o,es,ep,k _ o (dZ hL) ho,r⟩
 .refine(I.hok b u e).stay (λc v hc q=>k c v ?_ q) (λ_ q=>q) λ_ _ q=>q
  rcases hc with z|z
  .rw[z];exact nit b u e
  .exact nit c _ z
theorem Inv.tok(I:Inv X pins G H s)(t:Nat):Inv X pins G H { s with toks:=t }:=I.un (h':=s.heap) (t':=t) Un.refl I.hok
theorem Inv.kept{t':Nat}(I:Inv X pins G H s)(k:∀b u,s.heap.get? b=some u->h'.get? b=some u):Inv X pins G H { s with heap:=h',toks:=t' }:=I.un (Un.kept k) (I.hok.kept k)
theorem Inv.laid{a:Addr}{o:HO}{t':Nat}(I:Inv X pins G H s)(k:∀b u,s.heap.get? b=some u->h'.get? b=some u)(hp:s.heap.objs.size<=a)(new:eI X.prog X.w (upd H a o) h' a o):
  Inv X pins G (upd H a o) { s with heap:=h',toks:=t' }:=I.un (Un.laid k hp (I.hok.fresh hp)) (I.hok.laid k hp new)
theorem Inv.write{x e:Addr}{o:HO}{t':Nat}(I:Inv X pins G H s)(mu:Mut (H x))(he:e=x\/H e=some (.own x))(k:∀b u,b≠e->s.heap.get? b=some u->h'.get? b=some u)(heo:∃u,h'.get? e=some u)
  (new:eI X.prog X.w (upd H x o) h' x o):Inv X pins G (upd H x o) { s with heap:=h',toks:=t' }:=I.un (Un.write mu he k heo) (I.hok.write mu he k heo new)
theorem Inv.weak{Y3:List (Option V)}(I:Inv X pins G H s)(hl:Y3.length=G.length)(w:∀(i:Nat) v,Y3[i]?=some (some v)->G[i]?=some (some v)):Inv X pins Y3 H s:=
 ⟨I.ok,I.os,I.bare,I.base,let ⟨m,hn,hl'⟩:=I.loc;⟨m,hn,λi x v e1 e2 e3=>hl' i x v e1 (w i v e2) e3⟩,I.cell,I.free,I.freeC,I.pin,I.hok,hl.trans I.len⟩
theorem Inv.pins_of{pins':List (Addr×Obj)}(I:Inv X pins G H s)(h:∀p∈pins',s.heap.get? p.1=some p.2/\H p.1=none/\p.1≠X.env.locals/\p.1∉X.fs /\ ∀v,p.2.data≠.cell v):Inv X pins' G H s:=
 ⟨I.ok,I.os,I.bare,I.base,I.loc,I.cell,I.free,I.freeC,λp hp=>(be.mp hp).elim (λz=>I.pin p (bg _ z)) (h p),I.hok,I.len⟩
variable{i:Nat}{x:Str}
theorem vK{N:List Str}(hN:N.Nodup){j:Nat}(a:N[i]?=some x)(b:N[j]?=some x):i=j:=by
 obtain⟨h1,e1⟩:=ag.mp a;obtain⟨h2,e2⟩:=ag.mp b;exact(List.getElem_inj hN).mp (e1.trans e2.symm)
variable{M:Model}{A:Around}{E:Value->Shared->Prop}{u:Value}{Q:Unit->Shared->Prop}
theorem xV{v:V}(I:Inv X pins G H s)(hN:X.N.Nodup)(hi:X.N[i]?=some x)(hx:Loc X.env.scope x)(r:RelV v u)
  (h:∀s',Inv X pins (G.set i (some v)) H s'->(∃a,FE a s.heap s'.heap/\(a=X.env.locals\/X.env.cells.lookup x=some a))->Q () s') (hf:autoParam 21#6 au4._auto_1):aV M A (storeName X.env x u) Q E s:=by
 obtain⟨m,hn,hl⟩:=id I.loc;have hcls:(X.env.scope.kind==.class||(X.env.scope.kind==.module&&X.env.locals != X.env.globals))=false:=by rw[I.ok.kind];rfl
 have X8:i<G.length:=by rw[I.len];exact(ag.mp hi).1
 have cne:=I.cne;have tracked:∀{a:Addr}{h':Heap},(∃o,s.heap.get? a=some o/\H a=none)->FE a s.heap h'->HOk X.prog X.w H h':=λ{a h'} ha hs b ob e=>by
  obtain⟨_,_,hfree⟩:=ha;refine(I.hok b ob e).stay (λc w' hc q=>(hs.2 c ?_).trans q) (λ_ q=>q) λ_ _ q=>q;rintro rfl;rcases hc with rfl |hc
  .rw[hfree]at e;cases e
  .rw[hfree]at hc;cases hc
 rcases hx with hk|hk
 .refine wpAny_storeName_local hk hn (λh' hn' hs=>?_) hcls
  obtain⟨oL,_,_,hoL,_⟩:=id hn;refine h _ ⟨I.ok,I.os,I.bare,⟨λb o e n hb hx=>?_,λb o e n hb hx=>?_,I.base.free,λb o e hx=>?_,I.base.tups,I.base.frzs,I.base.tbls⟩,⟨_,hn',λj y v' e1 e2 e3=>?_⟩,λy c e=>?_,I.free,I.freeC,λp hp=>?_,tracked ⟨oL,hoL,I.free⟩ hs,by simpa using I.len⟩ ⟨_,hs,.inl rfl⟩
  .exact(hs.2 b (aW 23#8)).trans 27#8
  .obtain⟨sl,e1⟩:=I.base.slot b o e n hb hx
   exact⟨sl,(hs.2 b (aW 23#8)).trans e1⟩
  .obtain⟨o',e1⟩:=I.base.there b o e hx
   exact⟨o',(hs.2 b (aW 23#8)).trans e1⟩
  .by_cases hj:j=i
   .subst hj
    rw[hi]at e1;cases e1;rw[aN X8]at e2;cases e2;exact⟨u,r,.inl ⟨hk,by simp⟩⟩
   .rw[aB (dZ hj)]at e2
    obtain⟨u',r',q⟩:=hl j y v' e1 e2 e3;refine⟨u',r',?_⟩;rcases q with⟨k,e⟩|⟨k,c,e,z⟩
    .refine .inl ⟨k,?_⟩
     have:y≠x:=λe=>hj (vK hN e1 (e▸hi));simp[this,e]
    .exact .inr ⟨k,c,e,z.sameBut hs (cne y c e)⟩
  .obtain⟨w',z⟩:=I.cell y c e
   exact⟨w',z.sameBut hs (cne y c e)⟩
  .obtain⟨e,n,ne,nf,d⟩:=I.pin p hp
   exact⟨(hs.2 p.1 ne).trans e,n,ne,nf,d⟩
 .have hfn:X.fn x=true:=by
   rcases hf with z|z
   .exact z
   .rw[z]at hk;cases hk
  obtain⟨c,hc⟩:=I.ok.has x (.inl hk);obtain⟨w',z⟩:=I.cell x c hc;refine wpAny_storeName_cell I.ok.kind hk hc z (λh' hc' hs=>?_);obtain⟨oc,hoc,hocd⟩:=id z;refine h { s with heap:=h' } ⟨I.ok,I.os,I.bare,⟨λb o e n hb hx=>?_,λb o e n hb hx=>?_,I.base.free,λb o e hx=>?_,I.base.tups,I.base.frzs,I.base.tbls⟩,⟨m,hn.sameBut hs (dZ (cne x c hc)),λj y v' e1 e2 e3=>?_⟩,λy c' e=>?_,I.free,I.freeC,λp hp=>?_,tracked ⟨oc,hoc,I.freeC x c hc⟩ hs,by simpa using I.len⟩ ⟨c,hs,.inr hc⟩
  .exact(hs.2 b 34#1).trans 27#8
  .obtain⟨sl,e1⟩:=I.base.slot b o e n hb hx
   exact⟨sl,(hs.2 b 34#1).trans e1⟩
  .obtain⟨o',e1⟩:=I.base.there b o e hx
   exact⟨o',(hs.2 b 34#1).trans e1⟩
  .by_cases hj:j=i
   .subst hj
    rw[hi]at e1;cases e1;rw[aN X8]at e2;cases e2;exact⟨u,r,.inr ⟨.inl hk,c,hc,hc'⟩⟩
   .rw[aB (dZ hj)]at e2
    obtain⟨u',r',q⟩:=hl j y v' e1 e2 e3;refine⟨u',r',?_⟩;rcases q with q|⟨k,c',e,z'⟩
    .exact .inl q
    .refine .inr ⟨k,c',e,z'.sameBut hs ?_⟩
     rintro rfl;exact hj (vK hN e1 (I.ok.inj _ _ _ e hc▸hi))
  .by_cases hcc:c'=c
   .subst hcc;exact⟨_,hc'⟩
   .obtain⟨w2,z2⟩:=I.cell y c' e
    exact⟨w2,z2.sameBut hs hcc⟩
  .obtain⟨e,n,ne,nf,d⟩:=I.pin p hp
   refine⟨(hs.2 p.1 ?_).trans e,n,ne,nf,d⟩;intro q;rw[q,hoc]at e;have q':oc=p.2:=b9 e;exact d w' (by rw[<-q'];exact hocd)
theorem nO{v:V}(I:Inv X pins G H s)(hN:X.N.Nodup)(hi:X.N[i]?=some x)(hx:Loc X.env.scope x)(r:RelV v u)
  (h:∀s',Inv X pins (G.set i (some v)) H s'->Q () s') (hf:autoParam 21#6 au4._auto_1):aV M A (storeName X.env x u) Q E s:=
 xV I hN hi hx r (λs' I' _=>h s' I') hf
theorem Inv.call'{s':Shared}{ch:List Addr}(I:Inv X pins G H s)(ho:s'.os=s.os)(u:Un 10#8 ch H H' s.heap s'.heap)(hok:HOk X.prog X.w H' s'.heap)(hg:AllBare s'.gens)
  (hch:∀b∈ch,26#8/\b≠X.env.locals/\26#3 /\ ∀p∈X.pn++pins,p.1≠b):Inv X pins G H' s':=by
 obtain⟨h',g',d',t',o'⟩:=s';have e:o'=s.os:=ho;subst e;exact I.call (g':=g') (t':=t') (d':=d') u hok hg hch
end
abbrev XK:=Value->Option Addr->Hp->Prop
abbrev St:=List (Option V)
abbrev VK:=V->Hp->Prop
abbrev TE:=St->Hp->VK->Prop
abbrev TT:=St->Hp->(Bool->Hp->Prop)->Prop
abbrev TA:=St->Hp->(List V->Hp->Prop)->Prop
structure Ends where
 nx:St->Hp->Prop
 rt:VK
 bk:St->Hp->Prop:=λ_ _=>False
 ct:St->Hp->Prop:=λ_ _=>False
abbrev TS:=Ends->St->Hp->Prop
def EP(X:Cx)(pins:List 1#9)(G:St)(Q:VK)(u:Value)(s':Shared):Prop:= ∃v H',Inv X pins G H' s'/\RelV v u/\Q v H'
def TP(X:Cx)(pins:List 1#9)(G:St)(Q:Bool->Hp->Prop)(b:Bool)(s':Shared):Prop:= ∃H',Inv X pins G H' s'/\Q b H'
def AP(X:Cx)(pins:List 1#9)(G:St)(Q:List V->Hp->Prop)(us:List Value)(s':Shared):Prop:= ∃vs H',Inv X pins G H' s'/\cM vs us/\Q vs H'
def SP(X:Cx)(pins:List 1#9)(D:Ends)(f:Flow)(s':Shared):Prop:=
 match f with
 |.next=>∃Y3 H',Inv X pins Y3 H' s'/\D.nx Y3 H'
 |.brk=>∃Y3 H',Inv X pins Y3 H' s'/\D.bk Y3 H'
 |.cont=>∃Y3 H',Inv X pins Y3 H' s'/\D.ct Y3 H'
 |.ret u=>∃v Y3 H',Inv X pins Y3 H' s'/\RelV v u/\D.rt v H'
def PE(X:Cx)(e:Expr)(t:TE):Prop:=
 ∀(pins:List 1#9) (s:Shared) (G:St) (H:Hp) (Q:VK),Inv X pins G H s->t G H Q->aV 1#2 X.A (eval e X.env) 6#8 X.xe s
def PT(X:Cx)(e:Expr)(t:TT):Prop:=
 ∀(pins:List 1#9) (s:Shared) (G:St) (H:Hp) (Q:Bool->Hp->Prop),Inv X pins G H s->t G H Q->aV 1#2 X.A (isTrue e X.env (eval e X.env)) (TP X pins G Q) X.xe s
def PW(X:Cx)(e:Expr)(t:TT):Prop:=
 ∀(whole:Sem Value) (pins:List 1#9) (s:Shared) (G:St) (H:Hp) (Q:Bool->Hp->Prop),Inv X pins G H s->t G H Q->aV 1#2 X.A (isTrue e X.env whole) (TP X pins G Q) X.xe s
variable{X:Cx}{e:Expr}
theorem PW.pt{t:TT}(h:PW X e t):PT X e t:=h _
def PA(X:Cx)(es:List Expr)(t:TA):Prop:=
 ∀(pos:Pos) (pins:List 1#9) (s:Shared) (G:St) (H:Hp) (Q:List V->Hp->Prop),Inv X pins G H s->t G H Q->aV 1#2 X.A (spliced (backTo pos 10#5)) (AP X pins G Q) X.xe s
def PS(X:Cx)(st:Stmt)(t:TS):Prop:=
 ∀(pins:List 1#9) (s:Shared) (G:St) (H:Hp) (D:Ends),Inv X pins G H s->t D G H->aV 1#2 X.A (exec st X.env) (SP X pins D) X.xe s
def PSs(X:Cx)(st:List Stmt)(t:TS):Prop:=
 ∀(pins:List 1#9) (s:Shared) (G:St) (H:Hp) (D:Ends),Inv X pins G H s->t D G H->aV 1#2 X.A (execs st X.env) (SP X pins D) X.xe s
variable{M:Model}{A:Around}{E:Value->Shared->Prop}
theorem thn{α:Type}{t:Sem α}{Q Q':α->Shared->Prop}{s:Shared}(h:aV M A t Q E s)(hQ:∀a s,Q a s->Q' a s):aV M A t Q' E s:=cj h hQ λ_ _ x=>x
section
variable {X:Cx}
def Ta(i:Nat):TE:=λG H Q=>∃v,G[i]?=some (some v)/\Q v H
def tC(v:V):TE:=λ_ H Q=>Q v H
variable{x:Str}
theorem vb {i:Nat}{pos:Pos} (hN:X.N[i]?=some x) (hv:Vis X.env.scope x) (hd:autoParam (7#3=false) au2._auto_1) (hcd:autoParam (23#2=false) au2._auto_1):PE X (.Name x pos) (Ta i):=by
 intro pins s G H Q I h;obtain⟨v,e,h⟩:=h;obtain⟨m,hn,hl⟩:=I.loc;obtain⟨u,r,l⟩:=hl i x v hN e hv;have fin:EP X pins G Q u s:=⟨v,H,I,r,h⟩;rcases l with⟨hk,hm⟩|⟨hk,c,hc,hcell⟩
 .exact wpAny_Name (wpAny_loadName_local I.ok.kind hk hn hm fin) hd
 .rcases hk with hk|hk
  .exact wpAny_Name (wpAny_loadName_cell I.ok.kind hk hc hcell fin) hd
  .exact wpAny_Name (wpAny_loadName_free I.ok.kind hk hc hcell fin hcd) hd
theorem GP{i j pos}:PE X (.Constant 3#6 j pos) (tC 3#6):=λ_ _ _ H _ I h=>wpAny_Constant_int ⟨.int i,H,I.tok _,⟨_,rfl⟩,h⟩
theorem Qu{b j pos}:PE X (.Constant (.bool b) j pos) (tC (.bl b)):=λ_ _ _ H _ I h=>Constant_bool ⟨.bl b,H,I,rfl,h⟩
theorem PQ{j pos}:PE X (.Constant .none j pos) (tC .non):=λ_ _ _ H _ I h=>Constant_none ⟨.non,H,I,rfl,h⟩
theorem GN{x j pos}:PE X (.Constant (.str x) j pos) (tC (.str x)):=λ_ _ _ H _ I h=>Calls.Constant_str ⟨.str x,H,I.tok _,⟨_,rfl⟩,h⟩
def Gl(X:Cx)(x:Str):Prop:=X.env.kindOf x=some .globalImplicit
variable{pins:List (Addr×Obj)}{s:Shared}{G:St}{u:Value}{Q:Value->Shared->Prop}
theorem kK{pos:Pos}(I:Inv X pins G H s)(hg:Gl X x)(hm:X.mg x=some u)(h:Q u s)
  (hd:autoParam (7#3=false) au2._auto_1):aV 1#2 X.A (eval (.Name x pos) X.env) Q E s:=
 A4 I.ok.kind hg (Calls.loadGlobal_global (by rw[I.ok.glob];exact I.mod.glob.keeps I.bk) hm h) hd
theorem lh{pos:Pos}(I:Inv X pins G H s)(hg:Gl X x)(hm:X.mg x=none)(hv:bootBuiltins x=some u)(h:Q u s)
  (hn:autoParam (x≠"__name__") au2._auto_1) (hd:autoParam (7#3=false) au2._auto_1):aV 1#2 X.A (eval (.Name x pos) X.env) Q E s:=by
 obtain⟨mb,h1,h2⟩:=I.mod.blt;exact A4 I.ok.kind hg (Calls.loadGlobal_builtin (by rw[I.ok.glob];exact I.mod.glob.keeps I.bk) hm (by rw[I.ok.blt];exact h1.keeps I.bk) ((h2 x hn).trans hv) h) hd
theorem LB {v:V}{pos:Pos} (hg:Gl X x) (hm:X.mg x=some u) (r:RelV v u) (hd:autoParam (7#3=false) au2._auto_1):PE X (.Name x pos) (tC v):=
 λ_ _ _ H _ I h=>kK I hg hm ⟨v,H,I,r,h⟩ hd
theorem LX {v:V}{pos:Pos} (hg:Gl X x) (hm:X.mg x=none) (hv:bootBuiltins x=some u) (r:RelV v u) (hn:autoParam (x≠"__name__") au2._auto_1) (hd:autoParam (7#3=false) au2._auto_1):PE X (.Name x pos) (tC v):=
 λ_ _ _ H _ I h=>lh I hg hm hv ⟨v,H,I,r,h⟩ hn hd
variable {a b:Expr}{ta tb:TE}{pos:Pos}
def tB(t:TE):TT:=λG H Q=>t G H λx H1=>∃c,x=.bl c/\Q c H1
theorem PB{t:TE}(h:PE X e t)(he:autoParam (∀whole,isTrue e X.env whole=(do let v <- whole;standAt e.pos;holding [v] (truthy v))) au3._auto_1):PT X e (tB t):=by
 intro pins s G H Q I hw;refine isTrue_plain (thn (h pins s G H _ I hw) λv s1 ⟨x,H1,I1,r1,q1⟩=>?_) (he _);obtain⟨d,rfl,q⟩:=q1;cases r1;exact en ⟨H1,I1,q⟩
variable {tA tB':TT}{rest:List Expr}
def Si(t u:TT):TT:=λG H Q=>t G H λc H1=>if c=true then u G H1 Q else Q false H1
def tOr(t u:TT):TT:=λG H Q=>t G H λc H1=>if c=true then Q true H1 else u G H1 Q
def Qs(t:TT):TT:=λG H Q=>t G H λc H1=>Q (!c) H1
theorem KW(ha:PT X a tA):PW X (.BoolOp .And [a] pos) tA:=by
 intro wh pins s G H Q I h;refine isTrue_and (thn (ha pins s G H Q I h) λc s1 e=>?_);cases c with
 |true=>exact isTrue_and_nil e
 |false=>exact e
theorem Na(ha:PT X a tA):PW X (.BoolOp .Or [a] pos) tA:=by
 intro wh pins s G H Q I h;refine isTrue_or (thn (ha pins s G H Q I h) λc s1 e=>?_);cases c with
 |false=>exact isTrue_or_nil e
 |true=>exact e
theorem Oo(ha:PT X a tA)(hb:PW X (.BoolOp .And (b::rest) pos) tB'):PW X (.BoolOp .And (a::b::rest) pos) (Si tA tB'):=by
 intro wh pins s G H Q I h;refine isTrue_and (thn 13#7 λc s1 ⟨H1,I1,q1⟩=>?_);cases c with
 |true=>exact hb wh pins s1 G H1 Q I1 q1
 |false=>exact⟨H1,I1,q1⟩
theorem RK(ha:PT X a tA)(hb:PW X (.BoolOp .Or (b::rest) pos) tB'):PW X (.BoolOp .Or (a::b::rest) pos) (tOr tA tB'):=by
 intro wh pins s G H Q I h;refine isTrue_or (thn 13#7 λc s1 ⟨H1,I1,q1⟩=>?_);cases c with
 |true=>exact⟨H1,I1,q1⟩
 |false=>exact hb wh pins s1 G H1 Q I1 q1
theorem OO(ha:PT X a tA):PT X (.UnaryOp .Not a pos) (Qs tA):=by
 intro pins s G H Q I h;exact isTrue_not (ha pins s G H (λc H1=>Q (!c) H1) I h)
def Mz(ta tb:TE):TE:=λG H Q=>ta G H λx H1=>∃c,x=.bl c/\if c=true then tb G H1 Q else Q (.bl false) H1
def Sw(ta tb:TE):TE:=λG H Q=>ta G H λx H1=>∃c,x=.bl c/\if c=true then Q (.bl true) H1 else tb G H1 Q
def L6(ta:TE):TE:=λG H Q=>ta G H λx H1=>∃c,x=.bl c/\Q (.bl (!c)) H1
theorem Oa{op}{t:TE}(h:PE X a t):PE X (.BoolOp op [a] pos) t:=λpins s G H Q I hw=>BoolOp_one (h pins s G H Q I hw)
theorem NN(ha:PE X a ta)(hb:PE X (.BoolOp .And (b::rest) pos) tb):PE X (.BoolOp .And (a::b::rest) pos) (Mz ta tb):=by
 intro pins s G H Q I h;refine BoolOp_and 33#0;obtain⟨c,rfl,q1⟩:=q1;cases r1;refine en ?_;cases c with
 |true=>exact hb pins s1 G H1 Q I1 q1
 |false=>exact⟨.bl false,H1,I1,rfl,q1⟩
theorem Rg(ha:PE X a ta)(hb:PE X (.BoolOp .Or (b::rest) pos) tb):PE X (.BoolOp .Or (a::b::rest) pos) (Sw ta tb):=by
 intro pins s G H Q I h;refine BoolOp_or 33#0;obtain⟨c,rfl,q1⟩:=q1;cases r1;refine en ?_;cases c with
 |false=>exact hb pins s1 G H1 Q I1 q1
 |true=>exact⟨.bl true,H1,I1,rfl,q1⟩
theorem Nf(ha:PE X a ta):PE X (.UnaryOp .Not a pos) (L6 ta):=by
 intro pins s G H Q I h;refine UnaryOp_ 33#0;obtain⟨c,rfl,q1⟩:=q1;cases r1;exact not_of (en ⟨.bl (!c),H1,I1,rfl,q1⟩)
def tIf(t:TT)(ta tb:TE):TE:=λG H Q=>t G H λc H1=>if c=true then ta G H1 Q else tb G H1 Q
theorem GI{c:Expr}(hc:PT X c tA)(ha:PE X a ta)(hb:PE X b tb):PE X (.IfExp c a b pos) (tIf tA ta tb):=by
 intro pins s G H Q I h;refine wpAny_IfExp (thn (hc pins s G H _ I h) λd s1 ⟨H1,I1,q1⟩=>?_);cases d with
 |true=>exact ha pins s1 G H1 Q I1 q1
 |false=>exact hb pins s1 G H1 Q I1 q1
end
def SqL(K:ao)(H:Hp)(a:Addr)(xs:List V):Prop:=
 Rd H a 6#5 \/
  ∃ (o:Obj) (its:Array Value) (n:Nat),K.lookup a=some o/\o.cls=.type "list"/\o.dict=none/\o.data=.seq its n/\its.size<=sizeLine/\cM xs its.toList
def SqT(K:ao)(H:Hp)(a:Addr)(xs:List V):Prop:=
 Rd H a (.tup xs) \/
  ∃ (o:Obj) (its:Array Value) (n:Nat),K.lookup a=some o/\o.cls=.type "tuple"/\o.data=.seq its n/\its.size<=sizeLine/\cM xs its.toList
def Ue:Value->Option V
 |.none=>some .non
 |.bool b=>some (.bl b)
 |.int i _=>some 3#6
 |.str x _=>some (.str x)
 |.bytes b _=>some (.byt b)
 |.float b _=>some (.flt b)
 |.ref a=>some (.ref a)
 |.type n=>some (.ty n)
 |_=>none
variable{u:Value}{x:V}
theorem RelV.abs(r:RelV x u):Ue u=some x:=by
 cases x with
 |non=>cases r;rfl
 |bl _=>cases r;rfl
 |int _=>obtain⟨t,rfl⟩:=r;rfl
 |str _=>obtain⟨t,rfl⟩:=r;rfl
 |byt _=>obtain⟨t,rfl⟩:=r;rfl
 |flt _=>obtain⟨t,rfl⟩:=r;rfl
 |ref _=>cases r;rfl
 |ty _=>cases r;rfl
theorem RelV.inj{y:V}(r:RelV x u)(q:RelV y u):x=y:=b9 (r.abs.symm.trans q.abs)
theorem cM.inj:∀{xs ys:List V}{us:List Value},cM xs us->cM ys us->xs=ys:=by
 intro xs ys us h
 induction h generalizing ys with
 |nil=>intro q;cases q;rfl
 |cons r t ih=>intro q;cases q with |cons r' t'=>rw[r.inj r',ih t']
section
variable {X:Cx}{pins:List (Addr×Obj)}{G:St}{H:Hp}{s:Shared}{a:Addr}{xs ys:List V}
theorem SqL.of{K:ao}(h:H a=some 6#5):SqL K H a xs:= .inl (.inl h)
theorem Inv.list(I:Inv X pins G H s)(h:SqL X.K H a xs):∃its:List Value,cM xs its/\PlainL s.heap a its.toArray/\xs.length<=sizeLine:=by
 rcases h with h|⟨o,its,n,hk,hc,hd,hs,hz,r⟩
 .obtain⟨z,its,n,r,e⟩:=h.ok I.hok
  exact⟨its,r,⟨_,n,e,rfl,rfl,rfl⟩,z⟩
 .refine⟨its.toList,r,⟨o,n,I.kIn a o hk,hc,hd,by simpa using hs⟩,?_⟩
  have e:=r.length;simp only[fP]at e;omega
theorem Inv.tuple(I:Inv X pins G H s)(h:SqT X.K H a xs):∃its:List Value,cM xs its/\IsTup s.heap a its.toArray/\xs.length<=sizeLine:=by
 rcases h with h|⟨o,its,n,hk,hc,hs,hz,r⟩
 .obtain⟨z,its,r,p⟩:=h.ok I.hok
  exact⟨its,r,p.1,z⟩
 .refine⟨its.toList,r,⟨o,I.kIn a o hk,hc,n,by simpa using hs⟩,?_⟩
  have e:=r.length;simp only[fP]at e;omega
theorem Inv.list_inj(I:Inv X pins G H s)(h:SqL X.K H a xs)(h':SqL X.K H a ys):xs=ys:=by
 obtain⟨its,r,⟨o,n,e,_,_,d⟩,_⟩:=I.list h;obtain⟨its',r',⟨o',n',e',_,_,d'⟩,_⟩:=I.list h';rw[e]at e';cases e';rw[d]at d';injection d' with d1 _
 have:its=its':=by simpa using congrArg Array.toList d1
 subst this;exact r.inj r'
theorem Inv.tuple_inj(I:Inv X pins G H s)(h:SqT X.K H a xs)(h':SqT X.K H a ys):xs=ys:=by
 obtain⟨its,r,⟨o,e,_,n,d⟩,_⟩:=I.tuple h;obtain⟨its',r',⟨o',e',_,n',d'⟩,_⟩:=I.tuple h';rw[e]at e';cases e';rw[d]at d';injection d' with d1 _
 have:its=its':=by simpa using congrArg Array.toList d1
 subst this;exact r.inj r'
end
abbrev Cx.wish(X:Cx)(E:Value->Shared->Prop):Cx:={ X with xe:=E }
abbrev Cx.nox(X:Cx):Cx:=X.wish λ_ _=>False
theorem Cx.Ok.wish(ok:X.Ok)(E:Value->Shared->Prop):(X.wish E).Ok:=
 ⟨ok.mod,ok.kind,ok.glob,ok.blt,ok.above,ok.inj,ok.has,ok.cab,ok.hd,ok.frames,ok.stk,ok.exf,ok.bs,ok.bsz,ok.noex,ok.exfs,ok.funs,ok.frf⟩
theorem Cx.Ok.unwish(ok:(X.wish E).Ok):X.Ok:=
 ⟨ok.mod,ok.kind,ok.glob,ok.blt,ok.above,ok.inj,ok.has,ok.cab,ok.hd,ok.frames,ok.stk,ok.exf,ok.bs,ok.bsz,ok.noex,ok.exfs,ok.funs,ok.frf⟩
section
variable {X:Cx}{pins:List (Addr×Obj)}{G:St}{H:Hp}{s:Shared}{E:Value->Shared->Prop}
theorem Inv.wish(I:Inv X pins G H s)(E:Value->Shared->Prop):Inv (X.wish E) pins G H s:=⟨I.ok.wish E,I.os,I.bare,I.base,I.loc,I.cell,I.free,I.freeC,I.pin,I.hok,I.len⟩
theorem Inv.unwish(I:Inv (X.wish E) pins G H s):Inv X pins G H s:=⟨I.ok.unwish,I.os,I.bare,I.base,I.loc,I.cell,I.free,I.freeC,I.pin,I.hok,I.len⟩
theorem SP.unwish{D:Ends}{f:Flow}{s':Shared}(h:SP (X.wish E) pins D f s'):SP X pins D f s':=by
 cases f with
 |next=>obtain⟨Y3,H',I,q⟩:=h;exact⟨Y3,H',I.unwish,q⟩
 |brk=>obtain⟨Y3,H',I,q⟩:=h;exact⟨Y3,H',I.unwish,q⟩
 |cont=>obtain⟨Y3,H',I,q⟩:=h;exact⟨Y3,H',I.unwish,q⟩
 |ret u=>obtain⟨v,Y3,H',I,r,q⟩:=h;exact⟨v,Y3,H',I.unwish,r,q⟩
theorem PE.nox{t:TE}(h:PE X.nox e t):PE X e t:=λpins s G H Q I hw=>
 cj (h pins s G H Q (I.wish _) hw) (λ_ _ ⟨v,H',I',r,q⟩=>⟨v,H',I'.unwish,r,q⟩) λ_ _ z=>bT z
theorem PT.nox{t:TT}(h:PT X.nox e t):PT X e t:=λpins s G H Q I hw=>
 cj (h pins s G H Q (I.wish _) hw) (λ_ _ ⟨H',I',q⟩=>⟨H',I'.unwish,q⟩) λ_ _ z=>bT z
theorem PSs.nox{st:List Stmt}{t:TS}(h:PSs X.nox st t):PSs X st t:=λpins s G H D I hw=>
 cj (h pins s G H D (I.wish _) hw) (λ_ _ q=>q.unwish) λ_ _ z=>bT z
end
section
variable {X:Cx}{st:Stmt}{rest:List Stmt}{t u:TS}{e:Expr}{te:TE}{pos:Pos}
def IZ:TS:=λD G H=>D.nx G H
def Q0(t u:TS):TS:=λD G H=>t { D with nx:=u D } G H
theorem Ln:PSs X [] IZ:=λ_ _ G H _ I h=>jq ⟨G,H,I,h⟩
theorem m9(h1:PS X st t)(h2:PSs X rest u):PSs X (st::rest) (Q0 t u):=by
 intro pins s G H D I h;refine Cr (thn (h1 pins s G H { D with nx:=u D } I h) λf s1 q=>?_);cases f with
 | next=>
   obtain⟨Y3,H',I',q⟩:=q;exact h2 pins s1 Y3 H' D I' q
 |ret v=>exact q
 |brk=>exact q
 |cont=>exact q
theorem CD(h1:PS X st t):PSs X [st] t:=by
 intro pins s G H D I h;refine Cr (thn (h1 pins s G H D I h) λf s1 q=>?_);cases f with
 |next=>exact jq q
 |ret v=>exact q
 |brk=>exact q
 |cont=>exact q
def OM:TS:=λD G H=>D.bk G H
def RO:TS:=λD G H=>D.ct G H
theorem JV:PS X (.Pass pos) IZ:=λ_ _ G H _ I h=>wpAny_Pass ⟨G,H,I,h⟩
theorem HE:PS X (.Break pos) OM:=λ_ _ G H _ I h=>wpAny_Break ⟨G,H,I,h⟩
theorem AW:PS X (.Continue pos) RO:=λ_ _ G H _ I h=>wpAny_Continue ⟨G,H,I,h⟩
theorem Inv.quiet{pins:List (Addr×Obj)}{G:St}{s:Shared}(I:Inv X pins G H s):interactive X.env=false:=by simp[interactive,I.ok.kind]
def M2(te:TE):TS:=λD G H=>te G H λ_ H1=>D.nx G H1
theorem DG(he:PE X e te)(hs:autoParam (swapsWith e none pos.line X.env=pure false) au1._auto_1):PS X (.Expr e pos) (M2 te):=by
 intro pins s G H D I h;exact wpAny_Expr_any (thn (he pins s G H _ I h) λv s1 ⟨x,H1,I1,r1,q1⟩=>⟨G,H1,I1,q1⟩) I.quiet hs
def Qv(te:TE):TS:=λD G H=>te G H D.rt
theorem IF(he:PE X e te):PS X (.Return (some e) pos) (Qv te):=by
 intro pins s G H D I h;exact wpAny_Return_some (thn (he pins s G H _ I h) λv s1 ⟨x,H1,I1,r1,q1⟩=>⟨x,G,H1,I1,r1,q1⟩)
def R9:TS:=λD _ H=>D.rt .non H
theorem Lo:PS X (.Return none pos) R9:=λ_ _ G H _ I h=>wpAny_Return_none ⟨.non,G,H,I,rfl,h⟩
def SA(c:TT)(t u:TS):TS:=λD G H=>c G H λb H1=>if b=true then t D G H1 else u D G H1
theorem MV{c:Expr}{a b:List Stmt}{tc:TT}(hc:PT X c tc)(ha:PSs X a t)(hb:PSs X b u):PS X (.If c a b pos) (SA tc t u):=by
 intro pins s G H D I h;refine wpAny_If (thn (hc pins s G H _ I h) λd s1 ⟨H1,I1,q1⟩=>?_);cases d with
 |true=>exact ha pins s1 G H1 D I1 q1
 |false=>exact hb pins s1 G H1 D I1 q1
end
abbrev TG:=V->St->Hp->(St->Hp->Prop)->Prop
abbrev TGs:=List V->St->Hp->(St->Hp->Prop)->Prop
def PG(X:Cx)(target:Expr)(t:TG):Prop:=
 ∀(pins:List 1#9) (s:Shared) (G:St) (H:Hp) (v:V) (u:Value) (Q:St->Hp->Prop),Inv X pins G H s->RelV v u->t v G H Q ->
  aV 1#2 X.A (assign target X.env u) (λ_ s'=>∃Y3 H',Inv X pins Y3 H' s'/\Q Y3 H') X.xe s
def PGs(X:Cx)(ts:List Expr)(t:TGs):Prop:=
 ∀(pins:List 1#9) (s:Shared) (G:St) (H:Hp) (vs:List V) (us:List Value) (Q:St->Hp->Prop),Inv X pins G H s->cM vs us->t vs G H Q ->
  aV 1#2 X.A (assignInOrder ((assignEach ts X.env).map (·.2)) us) (λ_ s'=>∃Y3 H',Inv X pins Y3 H' s'/\Q Y3 H') X.xe s
abbrev IV:=V->V->V->Hp->(Hp->Prop)->Prop
def Nb(X:Cx)(t:IV):Prop:=
 ∀(pins:List 1#9) (s:Shared) (G:St) (H:Hp) (o i v:V) (ov iv u:Value) (Q:Hp->Prop),Inv X pins G H s->RelV o ov->RelV i iv->RelV v u->t o i v H Q ->
  aV 1#2 X.A (setItem ov iv u) (λ_ s'=>∃H',Inv X pins G H' s'/\Q H') X.xe s
section
variable {X:Cx}{pos:Pos}
def kQ(i:Nat):TG:=λv G H Q=>Q (G.set i (some v)) H
variable{i:Nat}
theorem DL{x:Str}(hN:X.N.Nodup)(hi:X.N[i]?=some x)(hx:Loc X.env.scope x)(hf:autoParam 21#6 au4._auto_1):PG X (.Name x pos) (kQ i):=by
 intro pins s G H v u Q I r h;exact o4 (nO I hN hi hx r (λs' I'=>⟨_,H,I',h⟩) hf)
def RS:TGs:=λvs G H Q=>vs=[]/\Q G H
def MB(t:TG)(u:TGs):TGs:=λvs G H Q=>∃v r,vs=v::r/\t v G H λY3 H'=>u r Y3 H' Q
theorem KD:PGs X [] RS:=by
 intro pins s G H vs us Q I r h;obtain⟨e,h⟩:=h;subst e;cases r;exact assignInOrder_nil ⟨G,H,I,h⟩
variable{es:List Expr}
theorem Iw{t:TG}{u:TGs}(h1:PG X e t)(h2:PGs X es u)
  (hs:autoParam ((assignEach 1#7 X.env).map (·.2)=assign e X.env::(assignEach es X.env).map (·.2)) au1._auto_1):PGs X 1#7 (MB t u):=by
 intro pins s G H vs us Q I r h;obtain⟨v,vr,e1,h⟩:=h;subst e1;cases r with
 | cons r rr=>
   rw[hs];refine assignInOrder_cons (thn (h1 pins s G H _ _ _ I r h) λ_ s1 ⟨Y6,H1,I1,q1⟩=>?_);exact h2 pins s1 Y6 H1 _ _ Q I1 rr q1
def QK(K:ao)(n:Nat)(t:TGs):TG:=λv G H Q=>∃a xs,v=.ref a/\SqT K H a xs/\xs.length=n/\t xs G H Q
theorem OV{k:Nat}{t:TGs}{n:Nat}(hc:X.calm=true)(h:PGs X es t)
  (hn:autoParam ((assignEach es X.env).length=n) au1._auto_1) (hst:autoParam ((assignEach es X.env).findIdx? 2#2=none) au1._auto_1):PG X (.Tuple es k pos) (QK X.K n t):=by
 intro pins s G H v u Q I r hw;obtain⟨a,xs,e1,hq,hl,hw⟩:=hw;subst e1;cases r;obtain⟨its,rv,ht,hz⟩:=I.tuple hq;refine assign_Tuple_tuple 10#0 ht (by simp[hn,<-hl,rv.length]) hst λh' hx=>?_;have I1:Inv X pins G H { s with heap:=h' }:=I.kept (t':=s.toks) λb o e=>hx b o (aW (aK e)) e;exact h pins _ G H xs _ Q I1 (by simpa using rv) hw
def Th(to ti:TE)(t:IV):TG:=λv G H Q=>to G H λo H1=>ti G H1 λi H2=>t o i v H2 λH3=>Q G H3
theorem Oy{o i:Expr}{to ti:TE}{t:IV}(ho:PE X o to)(hi:PE X i ti)(hs:Nb X t)
  (ha:autoParam (∀v,assign (.Subscript o i pos) X.env v=(do
   let ov <- holding [v] (eval o X.env)
   let iv <- holding [v,ov] (eval i X.env)
   standAt pos
   holding [v,ov,iv] (setItem ov iv v)
   release [v,ov,iv] [])) au3._auto_1):PG X (.Subscript o i pos) (Th to ti t):=by
 intro pins s G H v u Q I r h;rw[ha];refine av (f9 (thn (ho pins s G H _ I h) λov s1 ⟨x,H1,I1,r1,q1⟩=>?_));refine av (f9 (thn (hi pins s1 G H1 _ I1 q1) λiv s2 ⟨y,H2,I2,r2,q2⟩=>?_));refine av (wpAny_standAt (av (f9 (thn (hs pins s2 G H2 x y v ov iv u _ I2 r1 r2 r q2) λ_ s3 ⟨H3,I3,q3⟩=>?_))));exact wpAny_release ⟨G,H3,I3,q3⟩
def Fo(te:TE)(g:TG):TS:=λD G H=>te G H λx H1=>g x G H1 D.nx
variable{te:TE}
theorem Gi{tg:Expr}{g:TG}(he:PE X e te)(hg:PG X tg g)(hs:autoParam (swapsWithSole [tg] e pos.line X.env=pure false) au1._auto_1)(hw:autoParam (swappedStores [tg] e X.env=pure none) au1._auto_1)
  (h1:autoParam ((assignEach [tg] X.env).map (·.2)=[assign tg X.env]) au1._auto_1):PS X (.Assign [tg] e pos) (Fo te g):=by
 intro pins s G H D I h;refine wpAny_Assign_stores 29#6 hs hw;rw[h1];exact thn (hg pins s1 G H1 x v _ I1 r1 q1) λ_ s2 q=>q
theorem BO{x:Str}{pos':Pos}(hN:X.N.Nodup)(hi:X.N[i]?=some x)(hx:Loc X.env.scope x)(he:PE X e te)(hs:autoParam (swapsWith e (some (.Name x pos')) pos.line X.env=pure false) au1._auto_1)(hf:autoParam 21#6 au4._auto_1):
  PS X (.Assign [.Name x pos'] e pos) (Fo te (kQ i)):=by
 intro pins s G H D I h;refine wpAny_Assign_Name (thn (he pins s G H _ I h) λv s1 ⟨y,H1,I1,r1,q1⟩=>?_) hs;exact nO I1 hN hi hx r1 (λs2 I2=>⟨_,H1,I2,q1⟩) hf
end
section
variable {X:Cx}{pos:Pos}
def Ip(c:TT)(tb:TS):TS:=λD G H=>∃W:Nat->St->Hp->Prop,(∃m,W m G H) /\ ∀m G H,W m G H ->
 c G H λb H1=>if b=true then ∃N:St->Hp->Prop,(∀Y3 H',N Y3 H'->∃m',m'<m/\W m' Y3 H')/\tb { D with nx:=N,ct:=N,bk:=D.nx } G H1 else D.nx G H1
theorem F4{c:Expr}{body:List Stmt}{tc:TT}{tb:TS}(hp:PassesOwn 1#2 X.A X.env X.xe)(hc:PT X c tc)(hb:PSs X body tb):PS X (.While c body [] pos) (Ip tc tb):=by
 intro pins s G H D I h;obtain⟨W,⟨m0,w0⟩,turn⟩:=h;refine wpAny_While (codeAny_whileLoop (λn s'=>∃Y3 H',Inv X pins Y3 H' s'/\W n Y3 H') ?_ m0 ⟨G,H,I,w0⟩);rintro n s1 ⟨Y6,H1,I1,w1⟩;refine hX hp (thn (hc pins s1 Y6 H1 _ I1 (turn n Y6 H1 w1)) λb s2 ⟨H2,I2,q2⟩=>?_);cases b with
 | true=>
   obtain⟨N,hN,q2⟩:=q2;rw[if_pos rfl];refine hX hp (thn (hb pins s2 Y6 H2 _ I2 q2) λf s3 q3=>?_);cases f with
   | next=>
     obtain⟨G',H3,I3,n3⟩:=q3;obtain⟨m',hm,w3⟩:=hN G' H3 n3;exact⟨m',hm,G',H3,I3,w3⟩
   | cont=>
     obtain⟨G',H3,I3,n3⟩:=q3;obtain⟨m',hm,w3⟩:=hN G' H3 n3;exact⟨m',hm,G',H3,I3,w3⟩
   |brk=>exact q3
   |ret v=>exact q3
 | false=>
   rw[if_neg bM];exact jq ⟨Y6,H2,I2,q2⟩
end
structure It where
 go:Nat->Hp->Prop
 yld:Nat->Hp->V->Hp->Prop
 stop:Nat->Hp->Prop
def wL(X:Cx)(pins:List 1#9)(H:Hp)(b:Addr):Prop:=
 H b=none/\b≠X.env.locals/\b∉X.fs/\26#8/\26#3 /\ ∀p∈X.pn++pins,p.1≠b
variable{pins:List (Addr×Obj)}{s:Shared}{G:St}
theorem Inv.fpOk{H':Hp}(I:Inv X pins G H s)(hb:s.heap.objs.size<=b)(hn:H' b=none):wL X pins H' b:=by
 refine⟨hn,cN (aj I.lt hb),I.nofs hb,.inr (aC I.sz hb),λx c e z=>?_,λp hp z=>?_⟩
 .obtain⟨v,q⟩:=I.cell x c e
  exact absurd (aj q.lt (by rw[z];exact hb)) (bO _)
 .exact absurd (aj (aK (I.pin p hp).1) (by rw[z];exact hb)) (bO _)
structure Turn(P:Program)(w:World)(K:ao)(tg:Expr)(J:It)(fp:List Addr)(it:Addr)(tn:Nat->Heap->Prop):Prop where
 mem:it∈fp
 obj:∀i h,tn i h->∀b∈fp,∃o,h.get? b=some o /\ ∀v,o.data≠.cell v
 keep:∀i h h',tn i h->(∀b∈fp,∀o,h.get? b=some o->h'.get? b=some o)->tn i h'
 item:∀(X:Cx),X.prog=P->X.w=w->X.K=K->X.calm=true->∀(i:Nat) (pins:List (Addr×Obj)) (s:Shared) (G:St) (H:Hp) (E:Value->Shared->Prop),Inv X pins G H s->(∀b∈fp,wL X pins H b)->tn i s.heap->J.go i H ->
  aV (model P w) X.A (pyNext (.ref it)) (λr s1 =>∃u,r=some u /\
   aV (model P w) X.A (letOwnedTupleGo tg (.ref it) u) (λ_ s2 =>∃x H',Inv X pins G H' s2/\RelV x u/\J.yld i H x H'/\tn (i+1) s2.heap /\ ∀b∈fp,H' b=none) E s1) E s
 done:∀(X:Cx),X.prog=P->X.w=w->X.K=K->X.calm=true->∀(i:Nat) (pins:List (Addr×Obj)) (s:Shared) (G:St) (H:Hp) (E:Value->Shared->Prop),Inv X pins G H s->(∀b∈fp,wL X pins H b)->tn i s.heap->J.stop i H ->
  aV (model P w) X.A (pyNext (.ref it)) (λr s1=>r=none/\Inv X pins G H s1) E s
 self:∀(A:Around) (i:Nat) (s:Shared) (Q:Value->Shared->Prop) (E:Value->Shared->Prop),tn i s.heap->Q (.ref it) s->aV (model P w) A (pyIter (.ref it)) Q E s
abbrev TI:=St->Hp->(It->Hp->Prop)->Prop
def PIE(X:Cx)(pins:List 1#9)(G:St)(tg:Expr)(R:It->Hp->Prop)(itv:Value)(s2:Shared):Prop:=
 ∃(it:Addr) (fp:List Addr) (tn:Nat->Heap->Prop) (J:It) (H':Hp),itv=.ref it/\Inv X pins G H' s2/\Turn X.prog X.w X.K tg J fp it tn/\tn 0 s2.heap/\(∀b∈fp,wL X pins H' b)/\R J H'
def PI(X:Cx)(tg iter:Expr)(wi:TI):Prop:=
 ∀(pins:List 1#9) (s:Shared) (G:St) (H:Hp) (R:It->Hp->Prop),Inv X pins G H s->wi G H R ->
  aV 1#2 X.A (eval iter X.env) (λv s1=>aV 1#2 X.A (pyIter v) (PIE X pins G tg R) X.xe s1) X.xe s
variable{tg:Expr}
theorem IM{it:Addr}{n:String}{vs:Array Value}{Q:Unit->Shared->Prop}(ho:s.heap.get? it=some o)(hc:o.cls=.type n)(hd:o.data=.fields vs)
  (hn : ["enumerate","zip","dict_itemiterator","dict_reverseitemiterator","odict_iterator","itertools.zip_longest","itertools.pairwise"].contains n=false) (hQ:Q () s):aV M A (letOwnedTupleGo tg (.ref it) u) Q E s:=by
 unfold letOwnedTupleGo;cases tg<;>first
  |exact aG hQ
  | (cases u <;> first
    |exact aG hQ
    | (refine av (Jo ho ?_)
       rw[hc,hd];show aV M A (if (["enumerate","zip","dict_itemiterator","dict_reverseitemiterator","odict_iterator","itertools.zip_longest","itertools.pairwise"].contains n&&vs[0]? == some (rawInt _))=true then _ else _) Q E s;rw[if_neg (by intro h;rw[hn,Bool.false_and]at h;cases h)]
       exact aG hQ))
def Itl(K:ao)(a:Addr):It:=
 ⟨λi H=>∃xs x,SqL K H a xs/\xs[i]?=some x,λi H x H'=>H'=H /\ ∀xs,SqL K H a xs->xs[i]?=some x,λi H=>∃xs,SqL K H a xs/\xs.length<=i⟩
def Itt(K:ao)(a:Addr):It:=
 ⟨λi H=>∃xs x,SqT K H a xs/\xs[i]?=some x,λi H x H'=>H'=H /\ ∀xs,SqT K H a xs->xs[i]?=some x,λi H=>∃xs,SqT K H a xs/\xs.length<=i⟩
def Itr(lo:Int)(n:Nat):It:=⟨λi _=>i<n,λi H x H'=>H'=H/\x=.int (lo+i),λi _=>n<=i⟩
variable{K:ao}
theorem E8(a it:Addr):Turn P w K tg (Itl K a) [it] it (λi h=>h.IsListIter it a i) where
 mem:=by simp
 obj:=λi h st b hb=>by
  have e:b=it:=by simpa using hb
  subst e;obtain⟨o,e,c,d⟩:=st;exact⟨o,e,λv z=>by rw[d]at z;cases z⟩
 keep:=λi h h' st k=>st.at λo e=>k it 0#8 o e
 item:=by
  intro X hP hw hK hc i pins s G H E I hf st hg;subst hP hw hK;obtain⟨xs,x,hq,hx⟩:=hg;obtain⟨its,rv,p,hz⟩:=I.list hq;obtain⟨u,hu,ru⟩:=rv.get hx;obtain⟨f0,f1,f2,f3,f4,f5⟩:=hf it 0#8;refine wpAny_pyNext_list_item st p.isList (x:=u) (by simpa using hu) λh' st' sb=>?_;have I1:Inv X pins G H { s with heap:=h' }:=I.turned (t':=s.toks) (λb o hb e=>(sb.2 b hb).trans e) f0 f1 f3 f4 f5;obtain⟨o,e,c,d⟩:=id st';exact⟨u,rfl,IM (s:={ s with heap:=h' }) e c d 0#1 ⟨x,H,I1,ru,⟨rfl,λys hy=>by rw[I.list_inj hy hq];exact hx⟩,st',λb hb=>(hf b hb).1⟩⟩
 done:=by
  intro X hP hw hK hc i pins s G H E I hf st hg;subst hP hw hK;obtain⟨xs,hq,hx⟩:=hg;obtain⟨its,rv,p,hz⟩:=I.list hq;obtain⟨f0,f1,f2,f3,f4,f5⟩:=hf it 0#8;have hl:=rv.length;exact wpAny_pyNext_list_end 10#0 st p.isList 16#2 λh' eb=>24#8
 self:=λ_ _ _ _ _ st h=>wpAny_pyIter_listiter st h
theorem Bq(a it:Addr):Turn P w K tg (Itt K a) [it] it (λi h=>h.IsTupleIter it a i) where
 mem:=by simp
 obj:=λi h st b hb=>by
  have e:b=it:=by simpa using hb
  subst e;obtain⟨o,e,c,d⟩:=st;exact⟨o,e,λv z=>by rw[d]at z;cases z⟩
 keep:=λi h h' st k=>st.at λo e=>k it 0#8 o e
 item:=by
  intro X hP hw hK hc i pins s G H E I hf st hg;subst hP hw hK;obtain⟨xs,x,hq,hx⟩:=hg;obtain⟨its,rv,p,hz⟩:=I.tuple hq;obtain⟨u,hu,ru⟩:=rv.get hx;obtain⟨f0,f1,f2,f3,f4,f5⟩:=hf it 0#8;refine wpAny_pyNext_tuple_item st (show s.heap.IsTuple a its.toArray from p) (x:=u) (by simpa using hu) λh' st' sb=>?_;have I1:Inv X pins G H { s with heap:=h' }:=I.turned (t':=s.toks) (λb o hb e=>(sb.2 b hb).trans e) f0 f1 f3 f4 f5;obtain⟨o,e,c,d⟩:=id st';exact⟨u,rfl,IM (s:={ s with heap:=h' }) e c d 0#1 ⟨x,H,I1,ru,⟨rfl,λys hy=>by rw[I.tuple_inj hy hq];exact hx⟩,st',λb hb=>(hf b hb).1⟩⟩
 done:=by
  intro X hP hw hK hc i pins s G H E I hf st hg;subst hP hw hK;obtain⟨xs,hq,hx⟩:=hg;obtain⟨its,rv,p,hz⟩:=I.tuple hq;obtain⟨f0,f1,f2,f3,f4,f5⟩:=hf it 0#8;have hl:=rv.length;exact wpAny_pyNext_tuple_end 10#0 st (show s.heap.IsTuple a its.toArray from p) 16#2 λh' eb=>24#8
 self:=λ_ _ _ _ _ st h=>wpAny_pyIter_tupleiter st h
theorem BX(it:Addr)(lo:Int)(n:Nat):Turn P w K tg (Itr lo n) [it] it (λi h=>IsRangeIter h it (lo+(i:Nat)*1) ((n:Int)-(i:Nat)) 1) where
 mem:=by simp
 obj:=λi h st b hb=>by
  have e:b=it:=by simpa using hb
  subst e
  exact⟨_,st,λv z=>by
   have z':Data.fields _=Data.cell v:=z
   cases z'⟩
 keep:=λi h h' st k=>k it 0#8 _ st
 item:=by
  intro X hP hw hK hc i pins s G H E I hf st hg;subst hP hw hK;obtain⟨f0,f1,f2,f3,f4,f5⟩:=hf it 0#8;have W:=Walks.range (prog:=X.prog) (w:=X.w) 10#0 it lo 1 n;refine W.item i s _ _ hg st λv h' tk hv st' kk=>?_;obtain⟨t,rfl⟩:=hv;have I1:Inv X pins G H { s with heap:=h',toks:=tk }:=I.turned (λb o hb e=>kk b o (by simpa using hb) e) f0 f1 f3 f4 f5;refine⟨_,rfl,IM (s:={ s with heap:=h',toks:=tk }) (n:="range_iterator") st' rfl rfl 0#1 ⟨.int (lo+i),H,I1,⟨t,?_⟩,⟨rfl,rfl⟩,st',fun b hb=>(hf b hb).1⟩⟩;rw[Int.mul_one]
 done:=by
  intro X hP hw hK hc i pins s G H E I hf st hg;subst hP hw hK;obtain⟨f0,f1,f2,f3,f4,f5⟩:=hf it 0#8;exact wpAny_pyNext_range_end 10#0 st (by have:n<=i:=hg;omega) λh' eb=>24#8
 self:=λ_ _ _ _ _ st h=>wpAny_pyIter_rangeiter st h
section
variable {X:Cx}{tg:Expr}
def wz(K:ao)(tl:TE):TI:=λG H R=>tl G H λx H1=>∃a,x=.ref a/\(∃xs,SqL K H1 a xs)/\R (Itl K a) H1
def B6(K:ao)(tl:TE):TI:=λG H R=>tl G H λx H1=>∃a,x=.ref a/\(∃xs,SqT K H1 a xs)/\R (Itt K a) H1
variable{l:Expr}{tl:TE}
theorem JO(hl:PE X l tl):PI X tg l (wz X.K tl):=by
 intro pins s G H R I h;refine thn (hl pins s G H _ I h) λv s1 ⟨x,H1,I1,r1,q1⟩=>?_;obtain⟨a,e,⟨xs,hq⟩,q⟩:=q1;subst e;cases r1;obtain⟨its,rv,p,hz⟩:=I1.list hq;refine wpAny_pyIter_list p.isList ?_;refine⟨s1.heap.objs.size,[s1.heap.objs.size],_,_,H1,rfl,I1.kept (t':=s1.toks) λb o e=>aw _ e,E8 a _,⟨_,aL _ rfl,rfl,rfl⟩,λb hb=>?_,q⟩;have e:b=s1.heap.objs.size:=by simpa using hb
 subst e;exact I1.fpOk 0#9 (I1.hok.fresh 0#9)
theorem NG(hl:PE X l tl):PI X tg l (B6 X.K tl):=by
 intro pins s G H R I h;refine thn (hl pins s G H _ I h) λv s1 ⟨x,H1,I1,r1,q1⟩=>?_;obtain⟨a,e,⟨xs,hq⟩,q⟩:=q1;subst e;cases r1;obtain⟨its,rv,p,hz⟩:=I1.tuple hq;refine wpAny_pyIter_tuple (show s1.heap.IsTuple a its.toArray from p) ?_;refine⟨s1.heap.objs.size,[s1.heap.objs.size],_,_,H1,rfl,I1.kept (t':=s1.toks) λb o e=>aw _ e,Bq a _,⟨_,aL _ rfl,rfl,rfl⟩,λb hb=>?_,q⟩;have e:b=s1.heap.objs.size:=by simpa using hb
 subst e;exact I1.fpOk 0#9 (I1.hok.fresh 0#9)
theorem zQ{R:It->Hp->Prop}{lo hi:Int}{t u v:Tok}{tk:Nat}(I:Inv X pins G H s)(h1: -(2^62)<=lo)(h2:lo<2^62)(h3: -(2^62)<=hi)(h4:hi<2^62)
  (q:R (Itr lo (hi-lo).toNat) H):aV 1#2 X.A (pyIter 10#4) (PIE X pins G tg R) E { s with heap:=s.heap.push { cls := .type "range",data := .fields #[.int lo t,.int hi u,.int 1 v] },toks:=tk }:=by
 refine wpAny_pyIter_range (IsRange.new ..) (small_one h1 h2 h3 h4) ?_;have I1:Inv X pins G H { s with heap:=s.heap.push { cls := .type "range",data := .fields #[.int lo t,.int hi u,.int 1 v] },toks:=tk }:=I.kept fun b o e=>aw _ e
 refine⟨(s.heap.push { cls := .type "range",data := .fields #[.int lo t,.int hi u,.int 1 v] }).objs.size,[(s.heap.push { cls := .type "range",data := .fields #[.int lo t,.int hi u,.int 1 v] }).objs.size],_,_,H,rfl,
  I1.kept (t':=tk) λb o e=>aw _ e,BX _ lo (hi - lo).toNat,?_,λb hb =>?_,q⟩
 .have e1:lo+((0:Nat):Int)*1=lo:=by simp
  have e2:(((hi-lo).toNat:Nat):Int)-((0:Nat):Int)=eu lo hi 1:=by rw[rangeSize_one];split<;>omega
  show IsRangeIter _ _ (lo+((0:Nat):Int)*1) ((((hi-lo).toNat:Nat):Int)-((0:Nat):Int)) 1;rw[e1,e2];exact aL _ rfl
 .have e:b=(s.heap.push { cls := .type "range",data := .fields #[.int lo t,.int hi u,.int 1 v] }).objs.size:=by simpa using hb
  subst e;exact I1.fpOk 0#9 (I1.hok.fresh 0#9)
def Ab(ta:TA):TI:=λG H R=>ta G H λvs H1=>∃j:Int,vs=[.int j] /\ -(2^62)<=j/\j<2^62/\R (Itr 0 j.toNat) H1
def A0(ta:TA):TI:=λG H R=>ta G H λvs H1=>∃i j:Int,vs=[.int i,.int j]/\(-(2^62)<=i/\i<2^62 /\ -(2^62)<=j/\j<2^62)/\R (Itr i (j-i).toNat) H1
variable{ta:TA}{pos:Pos}
theorem E4 {a:Expr}{p:Pos} (hg:Gl X "range") (hm:X.mg "range"=none) (ha:PA X [a] ta) (hs:autoParam 27#4 au1._auto_1):PI X tg (.Call (.Name "range" p) [a] [] pos) (Ab ta):=by
 intro pins s G H R I h;refine Call_ (lh I hg hm boot_range (dO 21#3 hs rfl));obtain⟨j,e,q1,q2,q⟩:=q1;subst e;cases r1 with
 | cons r rr=>
   cases rr;obtain⟨t,rfl⟩:=r;exact call_range_1 (zQ I1 0#1 0#1 q1 q2 (by simpa using q))
theorem Fq {a b:Expr}{p:Pos} (hg:Gl X "range") (hm:X.mg "range"=none) (ha:PA X [a,b] ta) (hs:autoParam 30#9 au1._auto_1) (hs2:autoParam 32#1 au1._auto_1) :
  PI X tg (.Call (.Name "range" p) [a,b] [] pos) (A0 ta):=by
 intro pins s G H R I h;refine Call_ (lh I hg hm boot_range (dO 21#3 (by rw[hs,hs2]) (by rw[hs2];rfl)));obtain⟨i,j,e,⟨q1,q2,q3,q4⟩,q⟩:=q1;subst e;cases r1 with
 | cons r rr=>
   cases rr with
   | cons r' rr=>
     cases rr;obtain⟨t,rfl⟩:=r;obtain⟨t',rfl⟩:=r';exact call_range_2 (zQ I1 q1 q2 q3 q4 q)
def zh(wi:TI)(g:TG)(tb:TS):TS:=λD G H=>wi G H λJ H1=>∃W:Nat->Nat->St->Hp->Prop,(∃m,W 0 m G H1) /\ ∀i m G H,W i m G H ->
 (J.stop i H/\D.nx G H)\/(J.go i H /\ ∃N:St->Hp->Prop,30#8 /\ ∀x H',J.yld i H x H'->g x G H' λY7 H2=>tb { D with nx:=N,ct:=N,bk:=D.nx } Y7 H2)
def uM(fp:List Addr)(h:Heap):List 1#9:=fp.filterMap λb=>(h.get? b).map λo=>(b,o)
variable{fp:List Addr}
theorem md(hb:b∈fp)(e:h.get? b=some o):(b,o)∈uM fp h:=List.mem_filterMap.mpr ⟨b,hb,by rw[e];rfl⟩
theorem EL{p:Addr×Obj}(hp:p∈uM fp h):p.1∈fp/\h.get? p.1=some p.2:=by
 obtain⟨b,hb,e⟩:=List.mem_filterMap.mp hp;cases q:h.get? b with
 |none=>rw[q]at e;cases e
 | some o=>
   rw[q]at e;have e':(b,o)=p:=b9 e;subst e';exact⟨hb,q⟩
theorem Inv.pinned{fp:List Addr}(I:Inv X pins G H s)(hf:∀b∈fp,wL X pins H b)(ho:∀b∈fp,∃o,s.heap.get? b=some o /\ ∀v,o.data≠.cell v):Inv X (pins++uM fp s.heap) G H s:=
 I.pins_of λp hp=>(be.mp hp).elim (λz=>I.pin p (aY _ z)) λz=>by
  obtain⟨hb,e⟩:=EL z;obtain⟨f0,f1,f2,_⟩:=hf p.1 hb;obtain⟨o,e',d⟩:=ho p.1 hb;rw[e]at e';cases e';exact⟨e,f0,f1,f2,d⟩
theorem Inv.unpinned{pl:List (Addr×Obj)}(I:Inv X (pins++pl) G H s):Inv X pins G H s:=I.pins_of λp hp=>I.pin p (aY _ (bg _ hp))
theorem He{iter:Expr}{body:List Stmt}{wi:TI}{g:TG}{tb:TS}(hp:PassesOwn 1#2 X.A X.env X.xe)(hc:X.calm=true)(hi:PI X tg iter wi)(hg:PG X tg g)(hb:PSs X body tb)
  (hs:autoParam 18#7 au3._auto_1):PS X (.For tg iter body [] pos) (zh wi g tb):=by
 intro pins s G H D I h;refine wpAny_For (thn (hi pins s G H _ I h) λv s1 h1=>thn h1 λitv s2 h2=>?_) hs;obtain⟨it,fp,tn,J,H2,e,I2,T,st2,f2,W,⟨m0,w0⟩,turn⟩:=h2;subst e;have stat:∀{H':Hp},24#2->∀b∈fp,wL X pins H' b:=λhn b hb=>⟨hn b hb,(f2 b hb).2⟩;refine codeAny_forLoop_any (λn s'=>∃i Y3 H',Inv X pins Y3 H' s'/\tn i s'.heap/\24#2/\W i n Y3 H') ?_ m0 ⟨0,G,H2,I2,st2,λb hb=>(f2 b hb).1,w0⟩;rintro n s3 ⟨i,G',H3,I3,st3,fr3,w3⟩;rcases turn i n G' H3 w3 with⟨stop,qn⟩ | ⟨go,N,hN,step⟩
 .refine hX hp (thn (T.done X rfl rfl rfl hc i pins s3 G' H3 X.xe I3 (stat fr3) st3 stop) λr s4 ⟨hr,I4⟩=>?_)
  subst hr;exact jq ⟨G',H3,I4,qn⟩
 .refine hX hp (thn (T.item X rfl rfl rfl hc i pins s3 G' H3 X.xe I3 (stat fr3) st3 go) λr s4 ⟨u,hr,h4⟩=>?_)
  subst hr;refine hX hp (thn h4 λ_ s5 ⟨x,H5,I5,r5,y5,st5,fr5⟩=>?_);have I5':=I5.pinned (stat fr5) (T.obj _ _ st5);refine hX hp (thn (hg _ s5 G' H5 x u _ I5' r5 (step x H5 y5)) λ_ s6 ⟨Z1,H6,I6,q6⟩=>?_);refine hX hp (thn (hb _ s6 Z1 H6 _ I6 q6) λf s7 q7=>?_);have again:∀{X2:St}{H7:Hp},Inv X (pins++uM fp s5.heap) X2 H7 s7->N X2 H7->∃m,m<n /\ ∃i Y3 H',Inv X pins Y3 H' s7/\tn i s7.heap/\24#2/\W i m Y3 H':=λ{X2 H7} I7 n7=>by
   obtain⟨m',hm,w7⟩:=hN X2 H7 n7;refine⟨m',hm,i+1,X2,H7,I7.unpinned,T.keep _ _ _ st5 λb hb o e=>(I7.pin (b,o) (aY _ (aY _ (md hb e)))).1,λb hb=>?_,w7⟩;obtain⟨o,e,d⟩:=T.obj _ _ st5 b hb;exact(I7.pin (b,o) (aY _ (aY _ (md hb e)))).2.1
  cases f with
  |next=>obtain⟨X2,H7,I7,n7⟩:=q7;exact again I7 n7
  |cont=>obtain⟨X2,H7,I7,n7⟩:=q7;exact again I7 n7
  |brk=>obtain⟨X2,H7,I7,q7⟩:=q7;exact⟨X2,H7,I7.unpinned,q7⟩
  |ret v=>obtain⟨x7,X2,H7,I7,r7,q7⟩:=q7;exact⟨x7,X2,H7,I7.unpinned,r7,q7⟩
end
variable{tb:TS}{D:Ends}
theorem KC{g:TG}{G:St}{H:Hp}(Pv:Nat->St->Hp->Prop)(h0:Pv 0 G H)(hl:∀i G H,i<=xs.length->Pv i G H->SqT K H a xs)
  (hs:∀i x G H,xs[i]?=some x->Pv i G H->g x G H λY7 H2=>tb { D with nx:=Pv (i+1),ct:=Pv (i+1),bk:=D.nx } Y7 H2) (hd:∀G H,Pv xs.length G H->D.nx G H):
  ∃W:Nat->Nat->St->Hp->Prop,15#9 /\ ∀i m G H,W i m G H ->
   ((Itt K a).stop i H/\D.nx G H)\/((Itt K a).go i H /\ ∃N:St->Hp->Prop,30#8 /\ ∀x H',(Itt K a).yld i H x H'->g x G H' λY7 H2=>tb { D with nx:=N,ct:=N,bk:=D.nx } Y7 H2):=by
 refine⟨λi m G H=>m=xs.length-i/\i<=xs.length/\Pv i G H,⟨xs.length,by simp,dC _,h0⟩,?_⟩;rintro i m G H ⟨rfl,hi,p⟩;have q:=hl i G H hi p;by_cases hlt:i<xs.length
 .refine .inr ⟨⟨xs,xs[i],q,by simp[hlt]⟩,Pv (i+1),λY3 H' p'=>⟨xs.length-(i+1),by omega,rfl,hlt,p'⟩,λx H' y=>?_⟩
  obtain⟨e,y⟩:=y;subst e;exact hs i x G _ (y xs q) p
 .have e:i=xs.length:=by omega
  subst e;exact .inl ⟨⟨xs,q,ak _⟩,hd G H p⟩
variable{n:Nat}
theorem Em{lo:Int}{g:TG}{G:St}{H:Hp}(Pv:Nat->St->Hp->Prop)(h0:Pv 0 G H)
  (hs:∀i G H,i<n->Pv i G H->g (.int (lo+i)) G H λY7 H2=>tb { D with nx:=Pv (i+1),ct:=Pv (i+1),bk:=D.nx } Y7 H2) (hd:∀G H,Pv n G H->D.nx G H):
  ∃W:Nat->Nat->St->Hp->Prop,15#9 /\ ∀i m G H,W i m G H ->
   ((Itr lo n).stop i H/\D.nx G H)\/((Itr lo n).go i H /\ ∃N:St->Hp->Prop,30#8 /\ ∀x H',(Itr lo n).yld i H x H'->g x G H' λY7 H2=>tb { D with nx:=N,ct:=N,bk:=D.nx } Y7 H2):=by
 refine⟨λi m G H=>m=n-i/\i<=n/\Pv i G H,⟨n,by simp,dC _,h0⟩,?_⟩;rintro i m G H ⟨rfl,hi,p⟩;by_cases hlt:i<n
 .refine .inr ⟨hlt,Pv (i+1),λY3 H' p'=>⟨n-(i+1),by omega,rfl,hlt,p'⟩,λx H' y=>?_⟩
  obtain⟨e,y⟩:=y;subst e y;exact hs i G _ hlt p
 .have e:i=n:=by omega
  subst e;exact .inl ⟨ak _,hd G H p⟩
abbrev R2:=V->V->Hp->VK->Prop
def OpR(X:Cx)(f:Value->Value->Sem Value)(r:R2):Prop:=
 ∀(pins:List 1#9) (s:Shared) (G:St) (H:Hp) (x y:V) (v u:Value) (Q:VK),Inv X pins G H s->RelV x v->RelV y u->r x y H Q ->
  aV 1#2 X.A (f v u) 6#8 X.xe s
def UnR(X:Cx)(f:Value->Sem Value)(r:V->Hp->VK->Prop):Prop:=
 ∀(pins:List 1#9) (s:Shared) (G:St) (H:Hp) (x:V) (v:Value) (Q:VK),Inv X pins G H s->RelV x v->r x H Q ->
  aV 1#2 X.A (f v) 6#8 X.xe s
def iy(X:Cx)(f:Value)(r:List V->Hp->VK->Prop):Prop:=
 ∀(pins:List 1#9) (s:Shared) (G:St) (H:Hp) (xs:List V) (us:List Value) (Q:VK),Inv X pins G H s->cM xs us->r xs H Q ->
  aV 1#2 X.A (call f us) 6#8 X.xe s
def tOp(r:R2)(ta tb:TE):TE:=λG H Q=>ta G H λx H1=>tb G H1 λy H2=>r x y H2 Q
def tUn(r:V->Hp->VK->Prop)(ta:TE):TE:=λG H Q=>ta G H λx H1=>r x H1 Q
def rI(C:Int->Int->Prop)(g:Int->Int->V):R2:=λx y H Q=>∃i j,x=.int i/\y=.int j/\C i j/\Q (g i j) H
def rI0(g:Int->Int->V):R2:=λx y H Q=>∃i j,x=.int i/\y=.int j/\Q (g i j) H
def rU(g:Int->V):V->Hp->VK->Prop:=λx H Q=>∃i,x=.int i/\Q (g i) H
section
variable {X:Cx}{a b c:Expr}{ta tb tc:TE}{pos:Pos}
variable{f:Value->Value->Sem Value}
theorem Pg(ha:PE X a ta)(hb:PE X b tb){R:V->V->Hp->Prop}(I:Inv X pins G H s)
  (h:ta G H λx H1=>tb G H1 λy H2=>R x y H2) {Q:Value->Shared->Prop}
  (hf:∀v u s2 x y H2,Inv X pins G H2 s2->RelV x v->RelV y u->R x y H2->aV 1#2 X.A (f v u) Q X.xe s2):
  aV 1#2 X.A (eval a X.env) (λv s₁=>aV 1#2 X.A (eval b X.env) (λu s₂=>aV 1#2 X.A (f v u) Q X.xe s₂) X.xe s₁) X.xe s:=by
 refine thn 13#7 λv s1 ⟨x,H1,I1,r1,q1⟩=>?_;refine thn 28#1 λu s2 ⟨y,H2,I2,r2,q2⟩=>?_;exact hf v u s2 x y H2 I2 r1 r2 q2
theorem xF{op:Operator}{r:R2}(ho:OpR X (binaryOp op) r)(ha:PE X a ta)(hb:PE X b tb):PE X (.BinOp a op b pos) (tOp r ta tb):=by
 intro pins s G H Q I h;exact wpAny_BinOp (Pg ha hb I h λv u s2 x y H2 I2 rx ry q=>ho pins s2 G H2 x y v u Q I2 rx ry q)
theorem MM{op:UnaryOp}{r:V->Hp->VK->Prop}(ho:UnR X (unaryOp op) r)(ha:PE X a ta):PE X (.UnaryOp op a pos) (tUn r ta):=by
 intro pins s G H Q I h;exact UnaryOp_ (thn 13#7 λv s1 ⟨x,H1,I1,r1,q1⟩=>ho pins s1 G H1 x v Q I1 r1 q1)
variable{g:Int->Int->Int}
theorem opI{C:Int->Int->Prop}
  (rule:∀(i j:Int) (t u:Tok) (s:Shared) (Q:Value->Shared->Prop) (E:Value->Shared->Prop),C i j->Q (.int (g i j) s.toks) { s with toks:=s.toks+1 }->aV 1#2 X.A (f (.int i t) (.int j u)) Q E s):
  OpR X f (rI C λi j=>.int (g i j)):=by
 intro pins s G H x y v u Q I rx ry h;obtain⟨i,j,rfl,rfl,hc,q⟩:=h;obtain⟨t,rfl⟩:=rx;obtain⟨t',rfl⟩:=ry;exact rule i j t t' s _ _ hc ⟨.int (g i j),H,I.tok _,⟨_,rfl⟩,q⟩
theorem QL
  (rule:∀(i j:Int) (t u:Tok) (s:Shared) (Q:Value->Shared->Prop) (E:Value->Shared->Prop),Q (.int (g i j) s.toks) { s with toks:=s.toks+1 }->aV 1#2 X.A (f (.int i t) (.int j u)) Q E s):
  OpR X f (rI0 λi j=>.int (g i j)):=by
 intro pins s G H x y v u Q I rx ry h;obtain⟨i,j,rfl,rfl,q⟩:=h;obtain⟨t,rfl⟩:=rx;obtain⟨t',rfl⟩:=ry;exact rule i j t t' s _ _ ⟨.int (g i j),H,I.tok _,⟨_,rfl⟩,q⟩
theorem LQ{g:Int->Int->Bool}
  (rule:∀(i j:Int) (t u:Tok) (s:Shared) (Q:Value->Shared->Prop) (E:Value->Shared->Prop),Q (.bool (g i j)) s->aV 1#2 X.A (f (.int i t) (.int j u)) Q E s):
  OpR X f (rI0 λi j=>.bl (g i j)):=by
 intro pins s G H x y v u Q I rx ry h;obtain⟨i,j,rfl,rfl,q⟩:=h;obtain⟨t,rfl⟩:=rx;obtain⟨t',rfl⟩:=ry;exact rule i j t t' s _ _ ⟨.bl (g i j),H,I,rfl,q⟩
def Qy(i j:Int):Prop:=0<j/\j<1073741824
def R0(i j:Int):Prop:=0<=j/\j<=1000000/\i.natAbs<2^64
def K0(i j:Int):Prop:=(-(2^64)<i/\i<2^64)\/(-(2^64)<j/\j<2^64)
theorem K0.ok{i j:Int}(h:K0 i j):IntMulOk i j:=by
 rcases h with⟨h1,h2⟩|⟨h1,h2⟩
 .exact .of_left (intBits_le_64 h1 h2)
 .exact .of_right (intBits_le_64 h1 h2)
theorem OY:OpR X (binaryOp .Add) (rI0 λi j=>.int (i+j)):=QL λ_ _ _ _ _ _ _ q=>add_int q
theorem P2:OpR X (binaryOp .Sub) (rI0 λi j=>.int (i-j)):=QL λ_ _ _ _ _ _ _ q=>sub_int q
theorem OD:OpR X (binaryOp .Mult) (rI K0 λi j=>.int (i*j)):=opI λ_ _ _ _ _ _ _ hc q=>mul_int q hc.ok
theorem Lf:OpR X (binaryOp .FloorDiv) (rI Qy λi j=>.int (i/j)):=opI λi j _ _ _ _ _ hc q=>by
 have h1:(0:Int)<j:=hc.1;have h2:j<1073741824:=hc.2;exact floordiv_int 0#2 (by rw[Int.fdiv_eq_ediv_of_nonneg i 0#2];exact q) (.inl (PyProof.noPylong_small 0#2))
theorem Pz:OpR X (binaryOp .Mod) (rI (λ_ j=>0<j) λi j=>.int (i%j)):=opI λi j _ _ _ _ _ hc q=>by
 have h1:(0:Int)<j:=hc;exact mod_int' 0#2 (by rw[Int.fmod_eq_emod_of_nonneg i 0#2];exact q)
theorem Px:OpR X (binaryOp .Pow) (rI R0 λi j=>.int (i^j.toNat)):=opI λ_ _ _ _ _ _ _ hc q=>pow_int_small hc.1 hc.2.1 hc.2.2 q
theorem unI{f:Value->Sem Value}{g:Int->Int}
  (rule:∀(i:Int) (t:Tok) (s:Shared) (Q:Value->Shared->Prop) (E:Value->Shared->Prop),Q (.int (g i) s.toks) { s with toks:=s.toks+1 }->aV 1#2 X.A (f (.int i t)) Q E s):
  UnR X f (rU λi=>.int (g i)):=by
 intro pins s G H x v Q I rx h;obtain⟨i,rfl,q⟩:=h;obtain⟨t,rfl⟩:=rx;exact rule i t s _ _ ⟨.int (g i),H,I.tok _,⟨_,rfl⟩,q⟩
theorem Gr:UnR X (unaryOp .USub) (rU λi=>.int (-i)):=unI λ_ _ _ _ _ q=>neg_int q
end
section
variable {X:Cx}{a b c:Expr}{ta tb tc:TE}{pos:Pos}
theorem QI:OpR X (compareOp .Lt) (rI0 λi j=>.bl (decide (i<j))):=LQ λ_ _ _ _ _ _ _ q=>lt_int q
theorem RX:OpR X (compareOp .LtE) (rI0 λi j=>.bl (decide (i<=j))):=LQ λ_ _ _ _ _ _ _ q=>le_int q
theorem Tq:OpR X (compareOp .Gt) (rI0 λi j=>.bl (decide (j<i))):=LQ λ_ _ _ _ _ _ _ q=>gt_int q
theorem QP:OpR X (compareOp .GtE) (rI0 λi j=>.bl (decide (j<=i))):=LQ λ_ _ _ _ _ _ _ q=>ge_int q
variable{r r':R2}
theorem OpR.or{f:Value->Value->Sem Value}(h:OpR X f r)(h':OpR X f r'):OpR X f (λx y H Q=>r x y H Q\/r' x y H Q):=by
 intro pins s G H x y v u Q I rx ry q;rcases q with q|q
 .exact h pins s G H x y v u Q I rx ry q
 .exact h' pins s G H x y v u Q I rx ry q
variable{op:CmpOp}
theorem Li(ho:OpR X (compareOp op) r)(ha:PE X a ta)(hb:PE X b tb)(hm:behindInMarks op b=false):PE X (.Compare a [op] [b] pos) (tOp r ta tb):=by
 intro pins s G H Q I h;exact wpAny_Compare1 (Pg ha hb I h λv u s2 x y H2 I2 rx ry q=>ho pins s2 G H2 x y v u Q I2 rx ry q) hm
def HG(t:TE):TT:=λG H Q=>t G H λx H'=>∃k,x=.bl k/\Q k H'
theorem Ld(ho:OpR X (compareOp op) r)(ha:PE X a ta)(hb:PE X b tb)(hm:behindInMarks op b=false):PT X (.Compare a [op] [b] pos) (HG (tOp r ta tb)):=by
 intro pins s G H Q I h
 refine wpAny_isTrue_Compare1 (thn 13#7 λv s1 ⟨x,H1,I1,r1,q1⟩=>thn 28#1 λu s2 ⟨y,H2,I2,r2,q2⟩=>
  thn (ho pins s2 G H2 x y v u _ I2 r1 r2 q2) λc s3 ⟨z,H3,I3,r3,k,e,q3⟩ =>?_) hm
 subst e;cases r3;exact en ⟨H3,I3,q3⟩
def Co(r r':R2)(ta tb tc:TE):TE:=λG H Q=>ta G H λx H1=>tb G H1 λy H2=>r x y H2 λz H3=>∃k,z=.bl k /\
 (if k=true then tc G H3 λw' H4=>r' y w' H4 Q else Q (.bl false) H3)
theorem F7{op':CmpOp}(ho:OpR X (compareOp op) r)(ho':OpR X (compareOp op') r')(ha:PE X a ta)(hb:PE X b tb)(hc:PE X c tc)
  (hm:lastMarks [op,op'] [b,c]=false:=by with_unfolding_all rfl):PE X 27#3 (Co r r' ta tb tc):=by
 intro pins s G H Q I h
 refine Compare_chain (thn 13#7 λv s1 ⟨x,H1,I1,r1,q1⟩=>chain_link (thn 28#1 λu s2 ⟨y,H2,I2,r2,q2⟩=>
  thn (ho pins s2 G H2 x y v u _ I2 r1 r2 q2) λd s3 ⟨z,H3,I3,r3,k,e,q3⟩ =>?_)) hm
 subst e;cases r3;refine en ?_;cases k with
 |false=>exact ite_ff ⟨.bl false,H3,I3,rfl,q3⟩
 |true=>exact ite_tt (chain_last (thn (hc pins s3 G H3 _ I3 q3) λw' s4 ⟨z',H4,I4,r4,q4⟩=>ho' pins s4 G H4 y z' u w' Q I4 r2 r4 q4))
theorem GY{op':CmpOp}(ho:OpR X (compareOp op) r)(ho':OpR X (compareOp op') r')(ha:PE X a ta)(hb:PE X b tb)(hc:PE X c tc)
  (hm:lastMarks [op,op'] [b,c]=false:=by with_unfolding_all rfl):PT X 27#3 (HG (Co r r' ta tb tc)):=by
 intro pins s G H Q I h
 refine isTrue_chain (thn 13#7 λv s1 ⟨x,H1,I1,r1,q1⟩=>test_link (thn 28#1 λu s2 ⟨y,H2,I2,r2,q2⟩=>
  thn (ho pins s2 G H2 x y v u _ I2 r1 r2 q2) λd s3 ⟨z,H3,I3,r3,k,e,q3⟩ =>?_)) hm
 subst e;cases r3;refine en ?_;cases k with
 | false=>
   obtain⟨k',e',q'⟩:=q3;cases e';exact ite_ff ⟨H3,I3,q'⟩
 | true=>
   refine ite_tt (test_last (thn (hc pins s3 G H3 _ I3 q3) λw' s4 ⟨z',H4,I4,r4,q4⟩=>thn (ho' pins s4 G H4 y z' u w' _ I4 r2 r4 q4) λd' s5 ⟨z2,H5,I5,r5,k2,e2,q5⟩=>?_));subst e2;cases r5;exact en ⟨H5,I5,q5⟩
theorem wu:(sizeLine:Nat)<2^63:=by rw[sizeLine_eq];decide
theorem vals1(r:cM [x] us):∃u,us=[u]/\RelV x u:=by
 cases r with
 |cons r1 r2=>cases r2;exact⟨_,rfl,r1⟩
theorem vals2{y:V}(r:cM [x,y] us):∃u w',us=[u,w']/\RelV x u/\RelV y w':=by
 cases r with
 | cons r1 r2=>
   cases r2 with
   |cons r3 r4=>cases r4;exact⟨_,_,rfl,r1,r3⟩
theorem E5 (hc:X.calm=true):iy X (.builtin "max") (fun xs H Q=>∃ i j,xs=[.int i,.int j]/\Q (.int (if j>i then j else i)) H):=by
 intro pins s G H xs us Q I r h;obtain⟨i,j,rfl,q⟩:=h;obtain⟨u,w',rfl,⟨t,rfl⟩,⟨t',rfl⟩⟩:=vals2 r;refine max_two_ints 10#0 λh' tk k=>⟨_,H,I.kept k,?_,q⟩;by_cases hj:j>i
 .rw[if_pos hj,if_pos hj];exact⟨_,rfl⟩
 .rw[if_neg hj,if_neg hj];exact⟨_,rfl⟩
theorem Fk (hc:X.calm=true):iy X (.builtin "min") (fun xs H Q=>∃ i j,xs=[.int i,.int j]/\Q (.int (if j<i then j else i)) H):=by
 intro pins s G H xs us Q I r h;obtain⟨i,j,rfl,q⟩:=h;obtain⟨u,w',rfl,⟨t,rfl⟩,⟨t',rfl⟩⟩:=vals2 r;refine min_two_ints 10#0 λh' tk k=>⟨_,H,I.kept k,?_,q⟩;by_cases hj:j<i
 .rw[if_pos hj,if_pos hj];exact⟨_,rfl⟩
 .rw[if_neg hj,if_neg hj];exact⟨_,rfl⟩
theorem Fb:iy X (.type "int") (fun xs H Q=>(∃ i,xs=[.int i]/\Q 3#6 H) \/ ∃ k,xs=[.bl k]/\Q (.int (if k then 1 else 0)) H):=by
 intro pins s G H xs us Q I r h;rcases h with⟨i,rfl,q⟩|⟨k,rfl,q⟩
 .obtain⟨u,rfl,t,rfl⟩:=vals1 r
  exact call_int_int ⟨.int i,H,I,⟨_,rfl⟩,q⟩
 .obtain⟨u,rfl,r1⟩:=vals1 r
  cases r1;exact call_int_bool ⟨.int (if k then 1 else 0),H,I.tok _,⟨_,rfl⟩,q⟩
end
structure OP(h:Heap)(x dx C:Addr)(mA:Str->Option Value):Prop where
 obj:h.get? x=some (xr C dx)
 ns:h.Ns1 dx mA
 ne:dx≠x
variable{mA:Str->Option Value}
theorem EV{dx:Addr}(n:h.Ns1 dx mA):∃od,h.get? dx=some od /\ ∀name,zw name od=some (mA name):=by
 obtain⟨o,es,ep,ho,hd,hk,_,hm⟩:=n;refine⟨o,ho,λname=>?_⟩;have e:=hm name;unfold nsFind findBy at e;rw[<-Array.find?_toList]at e;unfold zw;rw[hd];dsimp only
 split
 .rename_i y q
  rw[q]at e;exact congrArg some e
 .rename_i q
  rw[q]at e;have a:es.toList.any (·.refKey)=false:=by
   rw[List.any_eq_false];intro y hy;obtain⟨z,t,hkey⟩:=hk y (Array.mem_toList_iff.mp hy);simp[DictEntry.refKey,hkey]
  have a': ¬es.toList.any (·.refKey)=true:=by rw[a];exact bM
  rw[if_neg a'];exact congrArg some e
theorem OP.look{x dx C:Addr}(I:OP h x dx C mA):∃od,PySem.W.InstAt h x (xr C dx) C (some od) /\ ∀name,zw name od=some (mA name):=
 let ⟨od,ho,hl⟩:=EV I.ns
 ⟨od,⟨I.obj,rfl,rfl,ho⟩,hl⟩
section
variable {prog:Program}{w:World}{A:Around}{E:Value->Shared->Prop}{s:Shared}{K:ao}{x dx C f:Addr}{mA:Str->Option Value}{name:Str}{v:Value}
end
theorem vm.some_of{v:V}{o:Option Value}(r:vm (some v) o):∃u,o=some u/\RelV v u:=by
 cases o with
 |none=>exact(show False from r).elim
 |some u=>exact⟨u,rfl,r⟩
section
variable {P:Program}{w:World}{H H':Hp}{h h':Heap}{a C dx:Addr}{fs fs':List (Str×V)}
theorem LN(hok:HOk P w H h)(e:H a=some (.ins C dx fs)):∃mA,OP h a dx C mA/\(∀f,vm (fs.lookup f) (mA f))/\PySem.Within mA (fs.map 2#2)/\fs.length<=1000/\H dx=some (.own a):=by
 obtain⟨d,z,ne,ob,mA,n,r,q⟩:=(show eI P w H h a (.ins C dx fs) from hok a _ e);exact⟨mA,⟨ob,n,ne⟩,r,q,z,d⟩
end
structure Cls(K:ao)(C:Addr):Prop where
 pg:PySem.W.plainGet K C Str.empty=true
 hd:PySem.W.hasDictIn K C=true
 po:PySem.W.plainOver K C=true
 sa:PySem.W.findIn K (.ref C) "__setattr__"=some (some (.builtin "object.__setattr__"))
theorem Cls.get{C:Addr}(c:Cls K C)(f:Str):PySem.W.plainGet K C f=true:=c.pg
section
variable {X:Cx}{pins:List (Addr×Obj)}{G:St}{H:Hp}{s:Shared}{a C dx:Addr}{fs:List (Str×V)}{f:Str}{v:V}{A:Around}{E:Value->Shared->Prop}
end
section
variable {X:Cx}{o e value:Expr}{f:Str}{pos pos' tpos:Pos}{ta tv:TE}
end
section
variable {X:Cx}{pins:List (Addr×Obj)}{G:St}{H:Hp}{s:Shared}{A:Around}{E:Value->Shared->Prop}{Q:Value->Shared->Prop}{c:Value}{b:Bool}
inductive pB(K:ao)(H:Hp):V->Value->Prop where
 |non:pB K H .non (.type "NoneType")
 |bl (x:Bool):pB K H (.bl x) (.type "bool")
 |int (i:Int):pB K H (.int i) (.type "int")
 |str (x:Str):pB K H (.str x) (.type "str")
 |flt (x:UInt64):pB K H (.flt x) (.type "float")
 |lst {a:Addr}{xs:List V} (e:H a=some (.lst xs)):pB K H (.ref a) (.type "list")
 |frz {a:Addr}{o:Obj}{xs:List V} (e:H a=some (.frz o (.lst xs))):pB K H (.ref a) (.type "list")
 |tup {a:Addr}{xs:List V} (e:H a=some (.tup xs)):pB K H (.ref a) (.type "tuple")
 |dK {a:Addr}{kvs:List (Key×V)} (e:H a=some (.dK kvs)):pB K H (.ref a) (.type "dict")
 |dT {a:Addr}{kvs:List (List Key×V)} (e:H a=some (.dT kvs)):pB K H (.ref a) (.type "dict")
 | ins {a C dx:Addr}{fs:List (Str×V)} (e:H a=some (.ins C dx fs)) (cl:Cls K C) (ha:PySem.W.findIn K (.ref C) "__class__"=some (some (.builtin "object.__class__")))
   (hn:PySem.W.specialIn K (.builtin "object.__class__") "__get__"=some (some (.builtin "getset_descriptor.__get__"))) (htk:PySem.W.takesIn K (.builtin "object.__class__")=some true)
   (hm:PySem.W.mroIn K C (.type "object")=some true):pB K H (.ref a) (.ref C)
theorem Ej{t:Value}(I:Inv X pins G H s)(rx:RelV x u)(ty:pB X.K H x t)(e:cX X.K t c=some b)(h:∀tk,Q (.bool b) { s with toks:=tk }):
  aV 1#2 A (call (.builtin "isinstance") [u,c]) Q E s:=by
 cases ty with
 |non=>cases (show u=jV from rx);exact dn Jw I.kIn gp e 9#7 h
 |bl y=>cases (show u=t6 y from rx);exact dn PySem.W.kitx_bool I.kIn gp e 9#7 h
 |int i=>obtain⟨t,q⟩:=(show ∃t,u=rH i t from rx);cases q;exact dn PySem.W.kitx_int I.kIn gp e 9#7 h
 |str y=>obtain⟨t,q⟩:=(show ∃t,u=rJ y t from rx);cases q;exact dn PySem.W.kitx_str I.kIn gp e 9#7 h
 |flt y=>obtain⟨t,q⟩:=(show ∃t,u=Value.float y t from rx);cases q;exact dn PySem.W.kitx_float I.kIn gp e 9#7 h
 | @lst a xs ea=>
   cases 20#2;obtain⟨_,_,n,_,h1⟩:=(show eI X.prog X.w H s.heap a 6#5 from I.hok a _ ea);exact dn Jx I.kIn ⟨_,h1,rfl⟩ e 9#7 h
 | @frz a ob xs ea=>
   cases 20#2;obtain⟨_,_,_,n,_,h1⟩:=(show eI X.prog X.w H s.heap a (.frz ob 6#5) from I.hok a _ ea);exact dn Jx I.kIn ⟨_,h1,rfl⟩ e 9#7 h
 | @tup a xs ea=>
   cases 20#2;obtain⟨_,_,_,p⟩:=(show eI X.prog X.w H s.heap a (.tup xs) from I.hok a _ ea);obtain⟨o,h1,h2,_⟩:=p.1;exact dn PySem.W.kitx_tuple I.kIn ⟨o,h1,h2⟩ e 9#7 h
 | @dK a kvs ea=>
   cases 20#2;obtain⟨_,_,vs,_,p⟩:=(show eI X.prog X.w H s.heap a 8#3 from I.hok a _ ea);obtain⟨o,es,ep,h1,h2,_⟩:=p;exact dn Jy I.kIn ⟨o,h1,h2.1⟩ e 9#7 h
 | @dT a kvs ea=>
   cases 20#2;obtain⟨_,_,xs,_,o,es,ep,h1,h2,_⟩:=(show eI X.prog X.w H s.heap a (.dT kvs) from I.hok a _ ea);exact dn Jy I.kIn ⟨o,h1,h2.1⟩ e 9#7 h
 | @ins a C dx fs ea cl ha hn htk hm=>
   cases 20#2;obtain⟨mA,O,_⟩:=LN I.hok ea;obtain⟨od,J,_⟩:=O.look;exact dn (PySem.W.kitx_own (cl.get _) cl.hd ha hn htk hm) I.kIn J e 9#7 h
end
structure lJ(k:Nat)(A:Around):Prop where
 hd:A.handled=none
 dp:A.depth+3*k+5<recursionLimit
 un:A.units+16*k+200<cLine
 gu:A.guards=some []
theorem lJ.mono{j k:Nat}(r:lJ k A)(h:j<=k):lJ j A:=⟨r.hd,by have:=r.dp;omega,by have:=r.un;omega,r.gu⟩
theorem lJ.deeper{k:Nat}(r:lJ (k+1) A)(env:Env):lJ k (A.deeper env):=
 ⟨r.hd,by have:=r.dp;show A.depth+1+3*k+5<_;omega,by have:=r.un;show A.units+3+16*k+200<_;omega,r.gu⟩
theorem lJ.depth{k:Nat}(r:lJ k A):A.depth<recursionLimit:=by have:=r.dp;omega
theorem lJ.units{k:Nat}(r:lJ k A):A.units+64<cLine:=by have:=r.un;omega
def Cb:TA:=λ_ H Q=>Q [] H
def uJ(ta:TE)(tr:TA):TA:=λG H Q=>ta G H λx H1=>tr G H1 λxs H2=>Q (x::xs) H2
section
variable {X:Cx}{e:Expr}{es:List Expr}{te:TE}{t:TA}{pos:Pos}
theorem uN:PA X [] Cb:=λ_ _ _ _ H Q I h=>gU ⟨[],H,I,.nil,h⟩
theorem jI(ha:PE X e te)(hr:PA X es t)(hs:autoParam 9#2 au1._auto_1):PA X 1#7 (uJ te t):=by
 intro pos pins s G H Q I h;rw[hs];show aV _ _ (spliced (20#5::backTo pos 10#5)) _ _ s;refine eA (thn 13#7 λu s1 ⟨x,H1,I1,r1,q1⟩=>?_);exact thn (hr pos pins s1 G H1 _ I1 q1) λus s2 ⟨xs,H2,I2,r2,q2⟩=>⟨x::xs,H2,I2,.cons r1 r2,q2⟩
def Rj(t:TA):TE:=λG H Q=>t G H λxs H1=>xs.length<=sizeLine /\ ∀p,H1 p=none->Q (.ref p) (upd H1 p (.tup xs))
def Tz(t:TA):TE:=λG H Q=>t G H λxs H1=>xs.length<=sizeLine /\ ∀p,H1 p=none->Q (.ref p) (upd H1 p 6#5)
theorem Pi{x1}(h:PA X es t):PE X (.Tuple es x1 pos) (Rj t):=by
 intro pins s G H Q I hq;refine wpAny_Tuple_spliced (thn (h pos pins s G H _ I hq) λus s1 ⟨xs,H1,I1,r,z,q⟩=>⟨by rw[<-r.length];exact z,?_⟩);have hf:H1 s1.heap.objs.size=none:=I1.hok.fresh 0#9;refine⟨.ref s1.heap.objs.size,upd H1 s1.heap.objs.size (.tup xs),I1.laid (t':=s1.toks) (λb u e=>aw _ e) 0#9 ?_,rfl,q _ hf⟩;exact⟨z,us,r,⟨_,aL _ rfl,rfl,_,rfl⟩,_,aL _ rfl,rfl⟩
theorem Pb(h:PA X es t):PE X (.List es pos) (Tz t):=by
 intro pins s G H Q I hq;refine wpAny_List_spliced (thn (h pos pins s G H _ I hq) λus s1 ⟨xs,H1,I1,r,z,q⟩=>⟨by rw[<-r.length];exact z,?_⟩);have hf:H1 s1.heap.objs.size=none:=I1.hok.fresh 0#9;refine⟨.ref s1.heap.objs.size,upd H1 s1.heap.objs.size 6#5,I1.laid (t':=s1.toks) (λb u e=>aw _ e) 0#9 ?_,rfl,q _ hf⟩;exact⟨z,us,0,r,aL _ rfl⟩
end
abbrev Sp:=List V->Hp->VK->XK->Prop
abbrev CXT:=List Env->Hp->Shared->XK->Value->Shared->Prop
structure EB(P:Program)(w:World)(K:ao)(mg:Str->Option Value)(base:Heap)(A:Around)(outer:List Env)(s:Shared)(H:Hp):Prop where
 frames:A.frames=some outer
 mod:Mod K mg base
 bs:∀b o,base.get? b=some o->s.heap.get? b=some o/\H b=none
 bsz:base.objs.size<=s.heap.objs.size
 funs:s.heap.FunFrames base outer
 frf:∀b∈frs outer,H b=none
 hok:HOk P w H s.heap
 bare:AllBare s.gens
def CE(outer:List Env)(P:Program)(w:World)(H:Hp)(s:Shared)(Q:VK)(u:Value)(s':Shared):Prop:=
 ∃v H',s'.os=s.os/\AllBare s'.gens/\Un (frs outer) [] H H' s.heap s'.heap/\HOk P w H' s'.heap/\RelV v u/\Q v H'
def CR(CX:CXT)(outer:List Env)(P:Program)(w:World)(H:Hp)(s:Shared)(Q:VK)(E:XK)(r:Result)(s':Shared):Prop:=
 match r with
 |.ok (.ret u)=>CE outer P w H s Q u s'
 |.ok _=>False
 |.error e=>CX outer H s E e s'
structure jA(P:Program)(w:World)(K:ao)(mg:Str->Option Value)(base:Heap)(CX:CXT)(k:Nat)(f:Addr)(fd:FuncData)(ps:List Str)(sp:Sp):Prop where
 len:∀vs H Q E,sp vs H Q E->vs.length=ps.length
 run:∀(A:Around) (outer:List Env) (s:Shared) (H:Hp) (args:Args) (us:List Value) (vs:List V) (Q:VK) (E:XK),lJ k A->EB P w K mg base A outer s H->BindsTo s fd args (ps.zip us)->cM vs us->sp vs H Q E ->
  o5 (model P w) A (.call (.ref f) args) (CR CX outer P w H s Q E) s
variable{f:Addr}{mg:Str->Option Value}{base:Heap}{CX:CXT}{fd:FuncData}{ps:List Str}
theorem jA.imp{k:Nat}{sp sp':Sp}(F:jA P w K mg base CX k f fd ps sp)
  (h:∀vs H Q E,sp' vs H Q E->sp vs H Q E):jA P w K mg base CX k f fd ps sp':=
 ⟨λvs H Q E q=>F.len vs H Q E (h _ _ _ _ q),λA outer s H args us vs Q E hr he hb hv hs=>F.run A outer s H args us vs Q E hr he hb hv (h _ _ _ _ hs)⟩
section
variable {X:Cx}{pins:List (Addr×Obj)}{G:St}{H:Hp}{s s':Shared}
theorem Inv.env0(I:Inv X pins G H s):EB X.prog X.w X.K X.mg X.base X.A X.stack s H:=
 ⟨I.ok.frames,I.ok.mod,I.bs,aC I.ok.bsz I.sz,I.stack,I.stkFree,I.hok,I.bare⟩
theorem Inv.after{Q:VK}(I:Inv X pins G H s)(h:CE X.stack X.prog X.w H s Q u s'):EP X pins G Q u s':=by
 obtain⟨v,H',os,bare,un,hok,r,q⟩:=h;obtain⟨hh,g,d,t,os'⟩:=s';obtain rfl:os'=s.os:=os;exact⟨v,H',I.call (h':=hh) (g':=g) (d':=d) (t':=t) (ch:= []) un hok bare (λb z=>absurd z 0#8),r,q⟩
end
def CY(sp:Sp)(dvs:List V)(E:XK)(t:TA):TE:=λG H Q=>t G H λvs H1=>sp (vs++dvs) H1 Q E
def Binds(K:ao)(fd:FuncData)(ps:List Str)(ds:List Value):Prop:=
 ∀(s:Shared) (us:List Value),K.In s.heap->(us++ds).length=ps.length->BindsTo s fd ⟨us,[]⟩ (ps.zip (us++ds))
theorem Binds.all(h:∀us:List Value,us.length=ps.length->bindArgs fd ⟨us,[]⟩=pure 12#1):Binds K fd ps []:=λs us _ hl=>by
 rw[gK]at hl ⊢;exact .of_eq (h us hl)
def uQ(CX:CXT)(X:Cx)(E:XK):Prop:= ∀(pins:List 1#9) (G:St) (H:Hp) (s:Shared) (e:Value) (s':Shared),Inv X pins G H s->CX X.stack H s E e s'->X.xe e s'
section
variable {X:Cx}{CX:CXT}{k:Nat}{f C:Addr}{fd:FuncData}{ps:List Str}{sp:Sp}{dvs:List V}{ds:List Value}{E:XK}{x m:Str}{p pos apos:Pos}{e o:Expr}{es:List Expr}{ta:TE}{t:TA}
theorem vk{Q:VK}{vs:List V}(F:jA X.prog X.w X.K X.mg X.base CX k f fd ps sp)(hr:lJ k X.A)(hb:Binds X.K fd ps ds)(hd:cM dvs ds)(hx:uQ CX X E)
  (I:Inv X pins G H s) (r:cM vs us) (h:sp (vs++dvs) H Q E):aV 1#2 X.A (call (.ref f) us) 6#8 X.xe s:=by
 have r2:cM (vs++dvs) (us++ds):=r.append hd;have hl:(us++ds).length=ps.length:=by rw[<-r2.length];exact F.len _ _ _ _ h
 refine Jp (iL (F.run X.A X.stack s H ⟨us,[]⟩ (us++ds) (vs++dvs) Q E hr I.env0 (hb s us I.kIn hl) r2 h) λr s' hq=>?_);cases r with
 |error e=>exact hx pins G H s e s' I hq
 | ok fl=>
   cases fl with
   |ret u=>exact I.after hq
   |next=>exact bT hq
   |brk=>exact bT hq
   |cont=>exact bT hq
theorem zp(F:jA X.prog X.w X.K X.mg X.base CX k f fd ps sp)(hr:lJ k X.A)(hg:Gl X x)(hm:X.mg x=some (.ref f))(hk:dq X.K (.ref f)=true)(hb:Binds X.K fd ps ds)(hd:cM dvs ds)(hx:uQ CX X E)
  (ha:PA X 1#7 t) (hdb:autoParam (7#3=false) au2._auto_1) (he:autoParam 9#2 au1._auto_1) (hpl:autoParam 12#3 au1._auto_1) :
  PE X (.Call (.Name x p) 1#7 [] pos) (CY sp dvs E t):=by
 intro pins s G H Q I h;refine d4 (kK I hg hm ?_ hdb);refine ly (h₀:=X.base) I.ok.mod.kin hk (thn (ha pos pins s G H _ I h) λus s1 ⟨vs,H1,I1,r,q⟩=>⟨I1.kIn,?_⟩) he hpl;exact vk F hr hb hd hx I1 r q
theorem Ig(F:jA X.prog X.w X.K X.mg X.base CX k f fd ps sp)(hr:lJ k X.A)(hg:Gl X x)(hm:X.mg x=some (.ref f))(hk:dq X.K (.ref f)=true)(hb:Binds X.K fd ps ds)(hd:cM dvs ds)(hx:uQ CX X E)
  (hdb:autoParam (7#3=false) au2._auto_1):PE X (.Call (.Name x p) [] [] pos) (CY sp dvs E Cb):=by
 intro pins s G H Q I h;refine d4 (kK I hg hm ?_ hdb);exact FG I.kIn hk (vk (us:= []) F hr hb hd hx I .nil h)
end
section
variable {X:Cx}{CX:CXT}{k:Nat}{f C:Addr}{fd:FuncData}{ps ks:List Str}{sp:Sp}{E:XK}{x m:Str}{p pos apos kpos:Pos}{e o:Expr}{es:List Expr}{kws:List Keyword}{te ta:TE}{t tk:TA}{nm:Option Str}
variable {g:List Value->List Value->List Value}{gV:List V->List V->List V}
end
structure bh(N P:List Str)(sc:Scope):Prop where
 kind:sc.kind=.function
 co:sc.isCoroutine=false
 gen:sc.isGenerator=false
 nd:N.Nodup
 pre:N.take P.length=P
 par:∀x∈P,sc.names.lookup x=some .local\/sc.names.lookup x=some .cell
 nofree:∀y∈sc.names,y.2≠.free
theorem xY{kindOf:Str->Option NameKind}{x:Str}:∀{binds:List (Str×Value)}{m:Str->Option Value},(∀v,(x,v)∉binds)->bindL kindOf binds m x=m x
 |[],_,_=>rfl
 | (n,v)::r,m,h=>by
   unfold bindL;rw[xY λw hw=>h w (aD _ hw)]
   split
   .have:x≠n:=by rintro rfl;exact h v a7
    simp[this]
   .rfl
theorem yd{kindOf:Str->Option NameKind}{x:Str}:∀{binds:List (Str×Value)}{m:Str->Option Value},(∀v,(x,v)∉binds)->bindC kindOf binds m x=m x
 |[],_,_=>rfl
 | (n,v)::r,m,h=>by
   unfold bindC;rw[yd λw hw=>h w (aD _ hw)]
   split
   .rfl
   .have:x≠n:=by rintro rfl;exact h v a7
    simp[this]
theorem rR{kindOf:Str->Option NameKind}{x:Str}{v:Value}:∀{P:List Str}{vs:List Value}{i:Nat}{m:Str->Option Value},P.Nodup->P[i]?=some x->vs[i]?=some v->kindOf x=some .local ->
  bindL kindOf (P.zip vs) m x=some v
 |[],_,_,_,_,h,_,_=>by simp at h
 |_::_,[],_,_,_,_,h,_=>by simp at h
 | p::P,w::vs,0,m,nd,h1,h2,hk=>by
   simp at h1 h2;subst h1;subst h2;show bindL kindOf ((p,w)::P.zip vs) m p=_;unfold bindL;rw[xY λv hv=>(iM.mp nd).1 (kS hv).1,if_pos hk];simp
 | p::P,w::vs,i+1,m,nd,h1,h2,hk=>by
   show bindL kindOf ((p,w)::P.zip vs) m x=_;unfold bindL;exact rR (i:=i) (iM.mp nd).2 (by simpa using h1) (by simpa using h2) hk
theorem sR{kindOf:Str->Option NameKind}{x:Str}{v:Value}:∀{P:List Str}{vs:List Value}{i:Nat}{m:Str->Option Value},P.Nodup->P[i]?=some x->vs[i]?=some v->kindOf x≠some .local ->
  bindC kindOf (P.zip vs) m x=some v
 |[],_,_,_,_,h,_,_=>by simp at h
 |_::_,[],_,_,_,_,h,_=>by simp at h
 | p::P,w::vs,0,m,nd,h1,h2,hk=>by
   simp at h1 h2;subst h1;subst h2;show bindC kindOf ((p,w)::P.zip vs) m p=_;unfold bindC;rw[yd λv hv=>(iM.mp nd).1 (kS hv).1,if_neg hk];simp
 | p::P,w::vs,i+1,m,nd,h1,h2,hk=>by
   show bindC kindOf ((p,w)::P.zip vs) m x=_;unfold bindC;exact sR (i:=i) (iM.mp nd).2 (by simpa using h1) (by simpa using h2) hk
def start(N:List Str)(vs:List V):St:=vs.map some++aR (N.length-vs.length) none
def vf(CX:CXT)(P:Program)(w:World)(K:ao)(mg:Str->Option Value)(base:Heap)(N:List Str)(qual:Str)(scope:Scope)(f:Addr)(cd:Value)(A:Around)(outer:List Env)(s:Shared)(H:Hp)(E:XK):Cx where
 prog:=P
 w:=w
 K:=K
 mg:=mg
 base:=base
 A:=A.deeper 33#1
 N:=N
 s₀:=s
 H₀:=H
 env:=envOfC qual scope s.heap.objs.size f cd
 outer:=outer
 stack:=envOfC qual scope s.heap.objs.size f cd::outer
 ex:= []
 calm:=true
 fn:=λ_=>true
 pn:= []
 xe:=λe s'=>aV (model P w) (A.deeper 33#1) (leaving 33#1 e) (λ_ s''=>CX outer H s E e s'') (λe' s''=>CX outer H s E e' s'') s'
theorem j9{sc:Scope}{x:Str}(h:sc.names.lookup x=some .cell):∃c,(cellsFrom n sc.names []).lookup x=some c:=by
 have q:=i4 sc.names n [] (.inl h);exact dM.mp q
variable{qual:Str}{scope:Scope}
theorem EA{N:List Str}{cd:Value}{outer:List Env}{s1:Shared}{E:XK}{vs:List V}
  (S:bh N ps scope) (hd:A.handled=none) (e0:EB P w K mg base A outer s H) (hl:vs.length=ps.length) (r:cM vs us)
  (x:InCallC s s.heap.objs.size (bindL (envOfC qual scope s.heap.objs.size f cd).kindOf 12#1 λ_=>none) 16#5 (bindC (envOfC qual scope s.heap.objs.size f cd).kindOf 12#1 λ_=>none) s1):
  Inv (vf CX P w K mg base N qual scope f cd A outer s H E) [] (start N vs) H s1:=by
 have hpl:ps.length<=N.length:=by have:=congrArg zx S.pre;rw[j5]at this;omega
 obtain⟨h1,tk,rfl,hk⟩:=x.done;have noA:∀b:Addr,b∉(vf CX P w K mg base N qual scope f cd A outer s H E).ex:=λb z=>absurd (show b∈([]:List Addr) from z) 0#8
 refine⟨⟨e0.mod,S.kind,rfl,rfl,ak _,λy z c h1 h2 =>?_,λy hy =>?_,λy c _ h =>?_,λ_=>hd,FH e0.frames,.inr ⟨rfl,rfl⟩,λb z=>absurd z (noA b),e0.bs,e0.bsz,λb _ _=>noA b,λb z=>absurd z (noA b),e0.funs,e0.frf⟩,
  rfl,e0.bare,Un.kept hk,⟨_,x.toInCall.ns,λi y v h1 h2 h3 =>?_⟩,λy c h=>⟨_,x.cell y c h⟩,e0.hok.fresh (ak _),λy c h =>?_,λp hp=>absurd (show p∈([]:List (Addr×Obj)) from hp) (by simp),e0.hok.kept hk,?_⟩
 .exact name_of_addr x.apart (cy h1) (cy h2)
 .have hy:scope.names.lookup y=some .cell\/scope.names.lookup y=some .free:=hy
  rcases hy with hy|hy
  .exact j9 hy
  .exact absurd rfl (S.nofree _ (cy hy))
 .exact aT (x.above y c (cy h))
 .have hi:i<vs.length:=by
   unfold start at h2;by_cases hi:i<vs.length
   .exact hi
   .rw[aq (by simpa using hi)]at h2
    rw[i5]at h2
    split at h2<;>cases h2
  have ha:vs[i]?=some v:=by
   unfold start at h2;rw[aM (by simpa using hi),bj]at h2;cases e:vs[i]? with
   |none=>rw[e]at h2;cases h2
   |some a=>rw[e]at h2;cases h2;rfl
  obtain⟨u,hu,rv⟩:=r.get ha;have hp:ps[i]?=some y:=by
   rw[<-S.pre,List.getElem?_take_of_lt 0#2];exact h1
  have ndP:ps.Nodup:=by rw[<-S.pre];exact S.nd.sublist (List.take_sublist _ _)
  refine⟨u,rv,?_⟩;rcases S.par y (bP hp) with k|k
  .exact .inl ⟨k,rR ndP hp hu k⟩
  .obtain⟨c,e⟩:=j9 (n:=s.heap.objs.size+1) k
   refine .inr ⟨.inl k,c,e,?_⟩;have q:=x.cell y c e;rw[sR ndP hp hu (by show scope.names.lookup y≠_;rw[k];decide)]at q;exact q
 .exact e0.hok.fresh (aT (x.above y c (cy h)))
 .unfold start
  show _=N.length;rw[a8,ax,jW];omega
theorem AG{k:Nat}{name:Str}{params:Arguments}{body:List Stmt}{dV kV doc pm cdv ct oc:Value}{an od:Option Addr}
  {osl:Array (Option Value)}{N:List Str}{sp:Sp} (lk:K.lookup f=some ⟨oc,od,.func (dv name qual params body scope dV kV doc pm an cdv ct),osl⟩) (hcd:gZ K cdv qual=true) (S:bh N ps scope)
  (len:∀vs H Q E,sp vs H Q E->vs.length=ps.length)
  (hbody: ∀(A:Around) (outer:List Env) (s:Shared) (H:Hp) (vs:List V) (Q:VK) (E:XK),lJ k (A.deeper (envOfC qual scope s.heap.objs.size f cdv))->sp vs H Q E ->
   ∃t,PSs (vf CX P w K mg base N qual scope f cdv A outer s H E) body t/\t { nx:=λ_ H'=>Q .non H',rt:=Q } (start N vs) H):
  jA P w K mg base CX (k+1) f (dv name qual params body scope dV kV doc pm an cdv ct) ps sp:=by
 refine⟨len,λA outer s H args us vs Q E hr e0 hb r hsp=>?_⟩;have hl:=len _ _ _ _ hsp;have KX:K.In s.heap:=e0.mod.kin.keeps λb o e=>(e0.bs b o e).1;have lim:s.heap.NoLimit:=e0.mod.nolimit.keeps λb o e=>(e0.bs b o e).1;have hkind:∀y∈ps.zip us,scope.names.lookup y.1=some .local\/(scope.names.lookup y.1=some .cell/\((cellsFrom 14#1 scope.names []).lookup y.1).isSome=true):=fun⟨n,v⟩ hy=>by
  rcases S.par n (kS hy).1 with q|q
  .exact .inl q
  .exact .inr ⟨q,i4 _ _ _ (.inl q)⟩
 refine codeAny_call_function hr.depth (KX _ _ lk) rfl S.co S.gen rfl (PySem.W.codeRec_of KX hcd) (hb _ _ _ _ ?_);refine wpAny_newFunctionEnv_cells S.kind hkind λenv he s1 x=>?_;subst he;refine⟨lim.keeps x.toInCall.keep,codeAny_func ?_⟩;obtain⟨t,ht,hq⟩:=hbody A outer s H vs Q E (hr.deeper _) hsp;have I:Inv (vf CX P w K mg base N qual scope f cdv A outer s H E) [] (start N vs) H s1:=EA S hr.hd e0 hl r x;refine cj (ht [] s1 (start N vs) H _ I hq) (λfl s' hs=>?_) λe s' hs=>hs;have fin:∀{Y3:St}{H':Hp}{v:V}{u:Value},Inv (vf CX P w K mg base N qual scope f cdv A outer s H E) [] Y3 H' s'->RelV v u->Q v H'->CE outer P w H s Q u s':=
  λ{Y3 H' v u} J rv q=>⟨v,H',J.os,J.bare,J.base,J.hok,rv,q⟩
 cases fl with
 | ret u=>
   obtain⟨v,Y3,H',J,rv,q⟩:=hs;exact fin J rv q
 | next=>
   obtain⟨Y3,H',J,q⟩:=hs;exact fin (v:=V.non) (u:=jV) J rfl q
 | brk=>
   obtain⟨_,_,_,q⟩:=hs;exact bT q
 | cont=>
   obtain⟨_,_,_,q⟩:=hs;exact bT q
section
variable {X:Cx}{x:Str}{p pos:Pos}{e:Expr}{es:List Expr}{t:TA}{id T:String}{r:List V->Hp->VK->Prop}
def tCB(r:List V->Hp->VK->Prop)(t:TA):TE:=λG H Q=>t G H λvs H1=>r vs H1 Q
theorem ki (hc:iy X (.builtin id) r) (hg:Gl X x) (hm:X.mg x=none) (hv:bootBuiltins x=some (.builtin id)) (ha:PA X 1#7 t) (hn:autoParam (x≠"__name__") au2._auto_1) (hdb:autoParam (7#3=false) au2._auto_1)
  (he:autoParam 9#2 au1._auto_1) (hpl:autoParam 12#3 au1._auto_1):PE X (.Call (.Name x p) 1#7 [] pos) (tCB r t):=by
 intro pins s G H Q I h;refine d4 (lh I hg hm hv ?_ hn hdb);exact PyProof.Rows.callWith_builtin1 (thn (ha pos pins s G H _ I h) λus s1 ⟨vs,H1,I1,r1,q1⟩=>hc pins s1 G H1 vs us Q I1 r1 q1) he hpl
theorem lO (hc:iy X (.type T) r) (hg:Gl X x) (hm:X.mg x=none) (hv:bootBuiltins x=some (.type T)) (ha:PA X 1#7 t) (hn:autoParam (x≠"__name__") au2._auto_1) (hdb:autoParam (7#3=false) au2._auto_1)
  (he:autoParam 9#2 au1._auto_1) (hpl:autoParam 12#3 au1._auto_1):PE X (.Call (.Name x p) 1#7 [] pos) (tCB r t):=by
 intro pins s G H Q I h;refine d4 (lh I hg hm hv ?_ hn hdb);exact dO (thn (ha pos pins s G H _ I h) λus s1 ⟨vs,H1,I1,r1,q1⟩=>hc pins s1 G H1 vs us Q I1 r1 q1) he hpl
end
end _L
namespace HT
open PySem PyProof.Rows
section
open PySem.SeqAt
open PySem.AutoSeq1 (wpAny_loadPart')
open PySem.MeetsSeq PySem.MeetsSeq2 PySem.MeetsSeq3
end
section
variable {prog:Program}{w:World}{A:Around}{E:Value->Shared->Prop}{s:Shared}
variable{Q:Value->Shared->Prop}
theorem cat_tup{t b:Addr}{vs ws:List Value}(ht:IsTup s.heap t vs.toArray)(hb:IsTup s.heap b ws.toArray)(hv:vs≠[])
  (h1:ws=[]->Q (.ref t) s) (h2:ws ≠ []->Q 10#4 { s with heap:=s.heap.push { cls := .type "tuple",data := .seq (vs++ws).toArray } })
  (hsz:vs.length+ws.length<=sizeLine):aV 4#1 A (binaryOp .Add (.ref t) (.ref b)) Q E s:=by
 obtain⟨⟨cls,dd,data,sl⟩,ho,hc,n,hd⟩:=id ht;obtain⟨⟨cls2,dd2,data2,sl2⟩,ho2,hc2,n2,hd2⟩:=id hb;simp only at hc hd hc2 hd2;subst hc hd hc2 hd2;have e:vs.toArray++ws.toArray=(vs++ws).toArray:=by simp
 by_cases hw:ws=[]
 .exact concat_meets ⟨_,ho,rfl⟩ ⟨_,ho2,rfl⟩ noFill_tuple_add seq_tuple_add nZ mQ (mI _ _)
   (tuple_addW1 t b vs.toArray ws.toArray n n2 dd dd2 sl sl2 (by simpa using hv) (by simp[hw])) ⟨ho,ho2,h1 hw⟩
 .refine concat_meets ⟨_,ho,rfl⟩ ⟨_,ho2,rfl⟩ noFill_tuple_add seq_tuple_add nZ mQ (mI _ _)
   (tuple_addW2 t b vs.toArray ws.toArray n n2 dd dd2 sl sl2 (by simpa using hv) (by simpa using hw) (by rw[aH,aH];exact hsz)) ⟨ho,ho2,?_⟩
  rw[e];exact h2 hw
def sIx(n d:Nat):Option Int->Nat
 |none=>d
 |some v=>if v<0 then(v+(n:Int)).toNat else min v.toNat n
theorem sIx_nat(n d k:Nat):sIx n d (some (k:Int))=min k n:=by
 show(if (k:Int)<0 then((k:Int)+(n:Int)).toNat else min (k:Int).toNat n)=min k n;rw[if_neg 0#2,xt]
theorem NH(n d:Nat)(hd:d<=n)(o:Option Int):sIx n d o<=n:=by
 cases o with
 |none=>exact hd
 | some v=>
   show(if v<0 then(v+(n:Int)).toNat else min v.toNat n)<=n;by_cases hv:v<0
   .rw[if_pos hv];omega
   .rw[if_neg hv];exact Nat.min_le_right _ _
theorem Df(v:Int)(n d:Nat):(if v<0 then max (v+(n:Int)) 0 else min v (n:Int))=((sIx n d (some v):Nat):Int):=by
 show(if v<0 then max (v+(n:Int)) 0 else min v (n:Int))=(((if v<0 then(v+(n:Int)).toNat else min v.toNat n):Nat):Int);by_cases hv:v<0
 .simp only[if_pos hv];omega
 .simp only[if_neg hv];omega
theorem Bw(lo hi:Option Int)(n:Nat):eY lo hi 1 (n:Int)=(((sIx n 0 lo:Nat):Int),((sIx n n hi:Nat):Int)):=by
 have h1: ¬((1:Int)<0):=by decide
 unfold eY;simp only[h1,if_false];refine Prod.ext ?_ ?_
 .cases lo with
  |none=>rfl
  |some v=>exact Df v n 0
 .cases hi with
  |none=>rfl
  |some v=>exact Df v n n
theorem Bs(i j:Nat):cZ (i:Int) (j:Int) 1=j-i:=by
 unfold cZ;have h1:(1:Int)>0:=by decide
 simp only[h1,if_true,Int.ediv_one]
 split<;>omega
theorem slicePart_{v:Value}{o:Option Int}{Q:Option Int->Shared->Prop}(p:IsPart v o)(h:Q o s):aV 4#1 A (Builtin.Slice.slicePartIndex v) Q E s:=by
 cases p with
 |none=>exact slicePart_none h
 |int i t=>exact slicePart_int h
theorem lP{sl:Addr}{vl vu:Value}{lo hi:Option Int}{n:Nat}{Q:Int×Int×Nat->Shared->Prop}(hs:s.heap.IsSliceOf sl vl vu .none)(pl:IsPart vl lo)(pu:IsPart vu hi)
  (h:Q (((sIx n 0 lo:Nat):Int),1,sIx n n hi-sIx n 0 lo) s):aV 4#1 A (gm (.ref sl) (pure (n:Int))) Q E s:=by
 obtain⟨os,hos,hcs,hds⟩:=id hs;unfold gm uB;refine av (av (o7 hos hds (x:=vl) rfl (av (o7 hos hds (x:=vu) rfl (av (o7 hos hds (x:= .none) rfl (aG ?_)))))));refine av (slicePart_none ?_);show aV _ _ (if ((1:Int)==0)=true then _ else _) _ _ s;rw[if_neg 0#1];refine av (slicePart_ pl (av (slicePart_ pu (av (aG ?_)))));show aV _ _ (match eY lo hi 1 (n:Int) with | (lo,hi)=>pure (lo,(1:Int),cZ lo hi 1)) _ _ s;rw[Bw lo hi n];show aV _ _ (pure (((sIx n 0 lo:Nat):Int),(1:Int),cZ ((sIx n 0 lo:Nat):Int) ((sIx n n hi:Nat):Int) 1)) _ _ s;rw[Bs];exact aG h
theorem Hr(xs:Array Value)(i k:Nat):((ay k).filterMap λ(m:Nat)=>xs[((i:Int)+(m:Int)*1).toNat]?).toArray=((xs.toList.drop i).take k).toArray:=by
 have e:(λ(m:Nat)=>xs[((i:Int)+(m:Int)*1).toNat]?)=λm=>xs[i+m]? := by
  funext m
  have:((i:Int)+(m:Int)*1).toNat=i+m:=by omega
  rw[this]
 rw[e];have:=pick_run xs i k;rw[List.filterMap_map]at this;have e2:((λx=>xs[x]?)∘λx=>i+x)=λm=>xs[i+m]? := rfl;rw[e2]at this;rw[this]
theorem getItem_tuple_cut{t sl:Addr}{items:Array Value}{vl vu:Value}{lo hi:Option Int}(ht:IsTup s.heap t items)(hs:s.heap.IsSliceOf sl vl vu .none)(pl:IsPart vl lo)(pu:IsPart vu hi)
  (hw: ¬(sIx items.size 0 lo=0/\sIx items.size items.size hi=items.size))
  (h:Q 10#4 { s with heap:=s.heap.push { cls := .type "tuple",data := .seq ((items.toList.drop (sIx items.size 0 lo)).take (sIx items.size items.size hi-sIx items.size 0 lo)).toArray } })
  (hsz:items.size<=sizeLine):aV 4#1 A (getItem (.ref t) (.ref sl)) Q E s:=by
 have htake:sizeOk (.seq ((items.toList.drop (sIx items.size 0 lo)).take 25#8).toArray):=by
  show((items.toList.drop (sIx items.size 0 lo)).take 25#8).toArray.size<=sizeLine;rw[aH,j5,List.length_drop,fP];omega
 have hj:sIx items.size items.size hi<=items.size:=NH _ _ 0#9 hi;obtain⟨os,hos,hcs,hds⟩:=id hs;have hTs:s.TypeIs (.ref sl) "slice":=⟨os,hos,hcs⟩;unfold getItem
 try with_reducible refine f9 ?_
 first |refine av (aG ?_) |skip
 refine av (A5 ht.typeIs 0#1 ?_)
 refine av (rF (name:=qb "__getitem__") ht.typeIs dw
  (lz dw ht.typeIs entry_tuple_getitem ?_ (args_tuple_getitem _ _)))
 show aV _ _ (jX (.ref t) >>= _) _ _ s;refine av (tupleItemsOf_ ht ?_);refine av (km hTs ?_);rw[if_pos 0#1];refine av (lP hs pl pu ?_);have hno: ¬((((sIx items.size 0 lo:Nat):Int)==0&&(1:Int)==1&&25#8==items.size)=true):=by
  intro q;rw[ar,ar]at q;have q1:((sIx items.size 0 lo:Nat):Int)=0:=eq_of_beq q.1.1;have q2:sIx items.size items.size hi-sIx items.size 0 lo=items.size:=eq_of_beq q.2;exact hw ⟨by omega,by omega⟩
 show aV _ _ (if (((sIx items.size 0 lo:Nat):Int)==0&&(1:Int)==1&&25#8==items.size)=true then _ else _) _ _ s;rw[if_neg hno,Hr]
 first
  |exact av (m:=bX _) (cU (aG ⟨_,rfl,aG h⟩) htake)
  |exact av (m:=bX _) (cU (av (aG (aG ⟨_,rfl,aG h⟩))) htake)
  |exact av (av (m:=bX _) (cU (aG (aG ⟨_,rfl,aG h⟩)) htake))
  |exact av (av (m:=bX _) (cU (aG ⟨_,rfl,aG h⟩) htake))
end
end HT
namespace _L
open PySem PySem.Spec PyProof.Rows
abbrev TO:=St->Hp->(Option Int->Hp->Prop)->Prop
def PO(X:Cx)(e:Option Expr)(t:TO):Prop:=
 ∀(pins:List 1#9) (s:Shared) (G:St) (H:Hp) (Q:Option Int->Hp->Prop),Inv X pins G H s->t G H Q ->
  aV 1#2 X.A (evalPart e X.env) (λu s'=>∃o H',Inv X pins G H' s'/\IsPart u o/\Q o H') X.xe s
def Dt:TO:=λ_ H Q=>Q none H
def Mi(t:TE):TO:=λG H Q=>t G H λx H1=>∃i,x=.int i/\Q (some i) H1
section
variable {X:Cx}{e:Expr}{te:TE}{lo hi:Option Expr}{tl th:TO}{pos p2:Pos}
theorem KJ:PO X none Dt:=by
 intro pins s G H Q I h;rw[evalPart_none];exact aG ⟨none,H,I,.none,h⟩
theorem Ls(h:PE X e te):PO X (some e) (Mi te):=by
 intro pins s G H Q I hw;rw[evalPart_some];refine thn (h pins s G H _ I hw) λu s1 ⟨x,H1,I1,r1,q1⟩=>?_;obtain⟨i,rfl,q⟩:=q1;obtain⟨t,rfl⟩:=r1;exact⟨some i,H1,I1,.int i t,q⟩
def SlR(X:Cx)(r:V->Option Int->Option Int->Hp->VK->Prop):Prop:=
 ∀(pins:List 1#9) (s:Shared) (G:St) (H:Hp) (x:V) (v vl vu:Value) (lo hi:Option Int) (sl:Addr) (Q:VK),Inv X pins G H s->RelV x v->s.heap.IsSliceOf sl vl vu .none->IsPart vl lo->IsPart vu hi->r x lo hi H Q ->
  ∃ T id,typeLookup (.type T) "__getitem__"=pure (some (.builtin id))/\s.TypeIs v T/\aV 1#2 X.A (getItem v (.ref sl)) 6#8 X.xe s
variable{r:V->Option Int->Option Int->Hp->VK->Prop}
theorem SlR.or{r':V->Option Int->Option Int->Hp->VK->Prop}(h:SlR X r)(h':SlR X r'):SlR X (λx lo hi H Q=>r x lo hi H Q\/r' x lo hi H Q):=by
 intro pins s G H x v vl vu lo hi sl Q I rx hs pl pu q;rcases q with q|q
 .exact h pins s G H x v vl vu lo hi sl Q I rx hs pl pu q
 .exact h' pins s G H x v vl vu lo hi sl Q I rx hs pl pu q
def tSl(r:V->Option Int->Option Int->Hp->VK->Prop)(te:TE)(tl th:TO):TE:=λG H Q=>te G H λx H1=>tl G H1 λl H2=>th G H2 λu H3=>r x l u H3 Q
theorem F8(hr:SlR X r)(he:PE X e te)(hl:PO X lo tl)(hu:PO X hi th):PE X (.Subscript e (.Slice lo hi none p2) pos) (tSl r te tl th):=by
 intro pins s G H Q I h;refine Subscript_ 29#6;refine wpAny_Slice (thn (hl pins s1 G H1 _ I1 q1) λvl s2 ⟨l,H2,I2,pl,q2⟩=>thn (hu pins s2 G H2 _ I2 q2) λvu s3 ⟨u,H3,I3,pu,q3⟩=>?_);rw[evalPart_none];refine aG ?_;have I4:Inv X pins G H3 { s3 with heap:=s3.heap.push { cls := .type "slice",data := .fields #[vl,vu,.none] } }:=I3.kept (t':=s3.toks) fun b ob q=>aw _ q;obtain⟨T,id,hT,ht,hg⟩:=hr pins { s3 with heap:=s3.heap.push { cls := .type "slice",data := .fields #[vl,vu,.none] } } G H3 x v vl vu l u s3.heap.objs.size Q I4 r1 (oA ..) pl pu q3;show aV 1#2 X.A (subscriptTail e (.Slice lo hi none p2) v (.ref s3.heap.objs.size)) 6#8 X.xe { s3 with heap:=s3.heap.push { cls := .type "slice",data := .fields #[vl,vu,.none] } };exact tail_any (ops:= [.ref s3.heap.objs.size,v]) ht hT hg (by with_unfolding_all rfl)
def zO(xs:List V)(lo hi:Option Int):List V:=(xs.drop (HT.sIx xs.length 0 lo)).take 25#2
theorem tF(xs:List V)(lo hi:Option Int):(zO xs lo hi).length<=xs.length:=by
 unfold zO;rw[j5,List.length_drop];omega
def RG(K:ao):V->Option Int->Option Int->Hp->VK->Prop:=λx lo hi H Q=>∃a xs,x=.ref a/\SqT K H a xs /\
 ¬(HT.sIx xs.length 0 lo=0/\HT.sIx xs.length xs.length hi=xs.length) /\ ∀p,H p=none->Q (.ref p) (upd H p (.tup (zO xs lo hi)))
theorem Pm:SlR X (RG X.K):=by
 intro pins s G H x v vl vu lo hi sl Q I rx hs pl pu h;obtain⟨a,xs,rfl,hx,hw,q⟩:=h;cases rx;obtain⟨its,r,ht,hz⟩:=I.tuple hx;have hlen:its.toArray.size=xs.length:=by rw[aH];exact r.length.symm
 refine⟨"tuple",_,PyProof.Rows.slot_tuple_getitem.lookup,ht.typeIs,?_⟩;refine HT.getItem_tuple_cut ht hs pl pu (by rw[hlen];exact hw) ?_ (by rw[hlen];exact hz);rw[hlen];refine⟨.ref s.heap.objs.size,_,I.laid (t':=s.toks) (o:= .tup (zO xs lo hi)) 15#7 0#9 ?_,rfl,q _ 15#8⟩;exact⟨aC (tF xs lo hi) hz,_,(r.drop (HT.sIx xs.length 0 lo)).take 25#2,n9 _ _,_,aL _ rfl,rfl⟩
def MU(K:ao):R2:=λx y H Q=>∃a b xs ys,x=.ref a/\y=.ref b/\SqT K H a xs/\SqT K H b ys/\xs≠[]/\xs.length+ys.length<=sizeLine /\
 (ys=[]->Q (.ref a) H)/\(ys≠[]->∀p,H p=none->Q (.ref p) (upd H p (.tup (xs++ys))))
theorem cM.nil_iff{xs:List V}{us:List Value}(r:cM xs us):us=[]↔xs=[]:=by
 cases r with
 |nil=>simp
 |cons _ _=>simp
theorem J1:OpR X (binaryOp .Add) (MU X.K):=by
 intro pins s G H x y v u Q I rx ry h;obtain⟨a,b,xs,ys,rfl,rfl,ha,hb,hx,hz,q1,q2⟩:=h;cases rx;cases ry;obtain⟨its,r1,p1,_⟩:=I.tuple ha;obtain⟨its2,r2,p2,_⟩:=I.tuple hb;refine HT.cat_tup p1 p2 (λz=>hx (r1.nil_iff.mp z)) (λz=>⟨.ref a,H,I,rfl,q1 (r2.nil_iff.mp z)⟩) (λz=>?_) (by rw[<-r1.length,<-r2.length];exact hz);refine⟨.ref s.heap.objs.size,_,I.laid (t':=s.toks) (o:= .tup (xs++ys)) 15#7 0#9 ?_,rfl,q2 (λw=>z (r2.nil_iff.mpr w)) _ 15#8⟩;exact⟨by rw[a8];exact hz,_,r1.append r2,n9 _ _,_,aL _ rfl,rfl⟩
end
def ixN(n:Nat)(i:Int):Option Nat:=if 0<=i then(if i<n then some i.toNat else none) else if -(n:Int)<=i then some (i+n).toNat else none
def atI{α:Type}(xs:List α)(i:Int):Option α:=(ixN xs.length i).bind λj=>xs[j]?
variable{n:Nat}{i:Int}
theorem CQ{j:Nat}(h:ixN n i=some j):seqIndex? i n=some j/\j<n /\ -(n:Int)<=i/\i<n:=by
 unfold ixN at h;by_cases h0:0<=i
 .rw[if_pos h0]at h
  by_cases h1:i<n
  .rw[if_pos h1]at h
   have e:i.toNat=j:=b9 h;exact⟨by rw[seqIndex_of h0 h1,e],by omega,by omega,h1⟩
  .rw[if_neg h1]at h;cases h
 .rw[if_neg h0]at h
  by_cases h1: -(n:Int)<=i
  .rw[if_pos h1]at h
   have e:(i+n).toNat=j:=b9 h;exact⟨by rw[seqIndex_neg 0#2 h1,e],by omega,h1,by omega⟩
  .rw[if_neg h1]at h;cases h
theorem zq{α:Type}{xs:List α}{v:α}(h:atI xs i=some v):∃j,seqIndex? i xs.length=some j/\xs[j]?=some v/\j<xs.length /\ -(xs.length:Int)<=i/\i<xs.length:=by
 unfold atI at h;cases e:ixN xs.length i with
 |none=>rw[e]at h;cases h
 | some j=>
   rw[e]at h;obtain⟨h1,h2,h3,h4⟩:=CQ e;exact⟨j,h1,h,h2,h3,h4⟩
def yH(b:Expr):Prop:= ∀o i,subscripted b false o i=operate [o,i] (getItem o i)
def IxR(X:Cx)(r:R2):Prop:=
 ∀(value slice:Expr) (pins:List 1#9) (s:Shared) (G:St) (H:Hp) (x y:V) (v u:Value) (Q:VK),Inv X pins G H s->RelV x v->RelV y u->r x y H Q ->
  subscripted slice false v u=operate [v,u] (getItem v u)->aV 1#2 X.A (subscriptTail value slice v u) 6#8 X.xe s
def MtR(X:Cx)(id:String)(r:V->List V->Hp->VK->Prop):Prop:=
 ∀(pins:List 1#9) (s:Shared) (G:St) (H:Hp) (x:V) (xs:List V) (v:Value) (us:List Value) (Q:VK),Inv X pins G H s->RelV x v->cM xs us->r x xs H Q ->
  aV 1#2 X.A (call (.builtin id) (v::us)) 6#8 X.xe s
section
variable {X:Cx}{a b:Expr}{ta tb:TE}{pos:Pos}
theorem IxR.or{r r':R2}(h:IxR X r)(h':IxR X r'):IxR X (λx y H Q=>r x y H Q\/r' x y H Q):=by
 intro value slice pins s G H x y v u Q I rx ry q hs;rcases q with q|q
 .exact h value slice pins s G H x y v u Q I rx ry q hs
 .exact h' value slice pins s G H x y v u Q I rx ry q hs
theorem Mw{r:R2}(hr:IxR X r)(ha:PE X a ta)(hb:PE X b tb)(hs:yH b):PE X (.Subscript a b pos) (tOp r ta tb):=by
 intro pins s G H Q I h;exact Subscript_ (Pg ha hb I h λv u s2 x y H2 I2 rx ry q=>hr a b pins s2 G H2 x y v u Q I2 rx ry q (hs _ _))
def Q4(K:ao):R2:=λx y H Q=>∃p xs i v,x=.ref p/\y=.int i/\SqL K H p xs/\atI xs i=some v/\Q v H
def SC(K:ao):R2:=λx y H Q=>∃p xs i v,x=.ref p/\y=.int i/\SqT K H p xs/\atI xs i=some v/\Q v H
def Qj:R2:=λx y H Q=>∃z i c,x=.str z/\y=.int i/\z.length<=sizeLine/\atI z.cps.toList i=some c/\Q (.str ⟨#[c]⟩) H
theorem Kw:IxR X (Q4 X.K):=by
 intro value slice pins s G H x y v u Q I rx ry h hs;obtain⟨p,xs,i,z,rfl,rfl,hq,he,q⟩:=h;cases rx;obtain⟨t,rfl⟩:=ry;obtain⟨its,r,pl,hz⟩:=I.list hq;obtain⟨j,h1,h2,h3,h4,h5⟩:=zq he;obtain⟨w,ew,rw'⟩:=r.get h2;have hl:=r.length;have hn:=wu;have fin:EP X pins G Q w s:=⟨z,H,I,rw',q⟩;by_cases h0:0<=i
 .have hj:i.toNat=j:=by
   rw[seqIndex_of h0 h5]at h1;exact b9 h1
  exact item_listR pl.isList h0 0#2 (by rw[hj];simpa using ew) fin hs
 .have hj:(i+(its.toArray.size:Int)).toNat=j:=by
   rw[seqIndex_neg 0#2 h4]at h1;rw[aH,<-hl];exact b9 h1
  exact subscriptTail_builtinR (x:=w) pl.isList.typeIs slot_list_getitem.lookup
   (wpAny_getItem_list_neg (Q:=λr s'=>r=w/\EP X pins G Q r s') pl.isList 0#2 (by rw[aH]<;>omega) 0#2 (by rw[hj];simpa using ew) ⟨rfl,fin⟩) hs
theorem Qa:IxR X (SC X.K):=by
 intro value slice pins s G H x y v u Q I rx ry h hs;obtain⟨p,xs,i,z,rfl,rfl,hq,he,q⟩:=h;cases rx;obtain⟨t,rfl⟩:=ry;obtain⟨its,r,pl,hz⟩:=I.tuple hq;obtain⟨j,h1,h2,h3,h4,h5⟩:=zq he;obtain⟨w,ew,rw'⟩:=r.get h2;have hl:=r.length;have hn:=wu;have fin:EP X pins G Q w s:=⟨z,H,I,rw',q⟩;exact subscriptTail_builtinR (x:=w) pl.typeIs slot_tuple_getitem.lookup
  (getItem_tuple (j:=j) (Q:=λr s'=>r=w/\EP X pins G Q r s') pl 0#2 0#2 (by rw[aH,<-hl];exact h1) (by simpa using ew) ⟨rfl,fin⟩) hs
theorem ND:IxR X Qj:=by
 intro value slice pins s G H x y v u Q I rx ry h hs;obtain⟨z,i,c,rfl,rfl,hz,he,q⟩:=h;obtain⟨t,rfl⟩:=rx;obtain⟨t',rfl⟩:=ry;obtain⟨j,h1,h2,h3,h4,h5⟩:=zq he;have hl:z.cps.toList.length=z.length:=by simp[Str.length]
 rw[hl]at h1 h4 h5;have hn:=wu
 exact tail_any (typeIs_str s z t) slot_str_getitem.lookup (getItem_str (c:=c) (by
  have e1:decide (i < -(2^63:Int))=false:=decide_eq_false 0#2;have e2:decide (i >= 2^63)=false:=decide_eq_false 0#2
  rw[e1,e2,Bool.or_false]) (by rw[h1];simpa using h2) ⟨.str ⟨#[c]⟩,H,I.tok _,⟨_,rfl⟩,q⟩) hs
def rIx(K:ao):R2:=λx y H Q=>Q4 K x y H Q\/SC K x y H Q\/Qj x y H Q
theorem Pu:IxR X (rIx X.K):=Kw.or (Qa.or ND)
theorem BB (its:List Value) (n j:Nat) (u:Value):eE (·.setIfInBounds j u) { cls := .type "list",data := .seq its.toArray n }={ cls := .type "list",data := .seq (its.set j u).toArray n }:=by
 simp[eE]
theorem Inv.lst{pins:List (Addr×Obj)}{G:St}{H:Hp}{s:Shared}{p:Addr}{xs:List V}(I:Inv X pins G H s)(h:H p=some 6#5):
  ∃ (its:List Value) (n:Nat),cM xs its/\s.heap.get? p=some { cls := .type "list",data := .seq its.toArray n }/\xs.length<=sizeLine:=by
 obtain⟨z,its,n,r,e⟩:=I.hok p _ h;exact⟨its,n,r,e,z⟩
variable{pins:List (Addr×Obj)}{G:St}{s:Shared}
theorem Inv.lstUpd{H:Hp}{p:Addr}{xs ys:List V}{its its':List Value}{n':Nat}{f:Obj->Obj}(I:Inv X pins G H s)(h:H p=some 6#5)
  (ho:s.heap.get? p=some { cls := .type "list",data := .seq its.toArray n }) (hf:f { cls := .type "list",data := .seq its.toArray n }={ cls := .type "list",data := .seq its'.toArray n' }) (r:cM ys its') (hz:ys.length<=sizeLine) (t:Nat) :
  Inv X pins G (upd H p (.lst ys)) { s with heap:=s.heap.update p f,toks:=t }:=by
 have e:(s.heap.update p f).get? p=some { cls := .type "list",data := .seq its'.toArray n' }:=by
  rw[jY f ho (by rw[hf]<;>rfl),hf]
 refine I.write (x:=p) (e:=p) (by rw[h];trivial) 5#5 (λb u hb q=>(d8 _ _ (dZ hb)).trans q) ⟨_,e⟩ ?_;exact⟨hz,its',n',r,e⟩
def MC:V->V->V->Hp->(Hp->Prop)->Prop:=λo i v H Q=>∃p xs k j,o=.ref p/\i=.int k/\H p=some 6#5/\ixN xs.length k=some j/\Q (upd H p (.lst (xs.set j v)))
theorem set_list:Nb X MC:=by
 intro pins s G H o i v ov iv u Q I ro ri rv h;obtain⟨p,xs,k,j,rfl,rfl,hp,hj,q⟩:=h;cases ro;obtain⟨t,rfl⟩:=ri;obtain⟨its,n,r,ho,hz⟩:=I.lst hp;obtain⟨h1,h2,h3,h4⟩:=CQ hj;have hl:=r.length;have hn:=wu;have I':Inv X pins G (upd H p (.lst (xs.set j v))) { s with heap:=s.heap.update p (eE (·.setIfInBounds j u)) }:=
  I.lstUpd hp ho (BB its n j u) (r.set rv j) (by rw[fH];exact hz) s.toks
 by_cases h0:0<=k
 .have hk:k.toNat=j:=by
   rw[seqIndex_of h0 h4]at h1;exact b9 h1
  exact PySem.W.ki_setAt ho h0 0#2 (by rw[aH,<-hl];exact h4) (by rw[hk];exact⟨_,I',q⟩)
 .have hk:(k+(its.toArray.size:Int)).toNat=j:=by
   rw[seqIndex_neg 0#2 h3]at h1;rw[aH,<-hl];exact b9 h1
  exact PySem.W.ki_setBack ho 0#2 (by rw[aH,<-hl];exact h3) 0#2 (by rw[hk];exact⟨_,I',q⟩)
theorem yG(lo hi:Option Int)(n:Nat):(sliceBounds lo hi none n).1=((HT.sIx n 0 lo:Nat):Int)/\(sliceBounds lo hi none n).2.1=((HT.sIx n n hi:Nat):Int)/\(sliceBounds lo hi none n).2.2=1:=by
 refine⟨?_,?_,rfl⟩
 .cases lo with
  |none=>simp[sliceBounds,HT.sIx]
  | some i=>
    simp only[sliceBounds,HT.sIx,Option.getD_none,show(1:Int)>0 by decide,if_true];by_cases h:i<0
    .simp only[h,if_true]<;>omega
    .simp only[h,if_false]<;>omega
 .cases hi with
  |none=>simp[sliceBounds,HT.sIx]
  | some i=>
    simp only[sliceBounds,HT.sIx,Option.getD_none,show(1:Int)>0 by decide,if_true];by_cases h:i<0
    .simp only[h,if_true]<;>omega
    .simp only[h,if_false]<;>omega
theorem xm(its:List Value)(lo hi:Option Int):slicePick its.toArray lo hi none=((its.drop (HT.sIx its.length 0 lo)).take (HT.sIx its.length its.length hi-HT.sIx its.length 0 lo)).toArray:=by
 obtain⟨h1,h2,h3⟩:=yG lo hi its.toArray.size;unfold slicePick;rw[h1,h2,h3];simp only[sliceRange_one,pick_run,aH]<;>rfl
def Rp(K:ao):V->Option Int->Option Int->Hp->VK->Prop:=λx lo hi H Q=>∃a xs,x=.ref a/\SqL K H a xs /\ ∀p,H p=none->Q (.ref p) (upd H p (.lst (zO xs lo hi)))
theorem LK:SlR X (Rp X.K):=by
 intro pins s G H x v vl vu lo hi sl Q I rx hs pl pu h;obtain⟨a,xs,rfl,hx,q⟩:=h;cases rx;obtain⟨its,r,ht,hz⟩:=I.list hx;have hlen:=r.length;refine⟨"list",_,slot_list_getitem.lookup,ht.isList.typeIs,?_⟩;refine wpAny_getItem_list_slice ht.isList hs pl pu .none 0#8 ?_ (by rw[aH]<;>omega);rw[xm,<-hlen];refine⟨.ref s.heap.objs.size,_,I.laid (t':=s.toks) (o:= .lst (zO xs lo hi)) 15#7 0#9 ?_,rfl,q _ 15#8⟩;exact⟨aC (tF xs lo hi) hz,_,0,(r.drop (HT.sIx xs.length 0 lo)).take 25#2,aL _ rfl⟩
def oX:V->Bool
 |.non=>true
 |.bl _=>true
 |.int _=>true
 |.str _=>true
 |_=>false
def eqV:V->V->Bool
 |.non,.non=>true
 |.bl a,.bl b=>a==b
 |.bl a,.int b=>(if a then 1 else 0)==b
 |.int a,.bl b=>a==(if b then 1 else 0)
 |.int a,.int b=>a==b
 |.str a,.str b=>a==b
 |_,_=>false
variable{x:V}
theorem PM{A:Around}{y:V}{u v:Value}(ry:RelV y u)(rx:RelV x v)(fy:oX y=true)(fx:oX x=true):SeqAt.EqAt A s u v (eqV y x):=by
 cases y with
 | non=>
   cases ry;cases x with
   |non=>cases rx;exact SeqAt.EqAt.same _
   |bl b=>cases rx;exact SeqAt.EqAt.none_bool b
   |int b=>obtain⟨t,rfl⟩:=rx;exact SeqAt.EqAt.none_int b t
   |str b=>obtain⟨t,rfl⟩:=rx;exact SeqAt.EqAt.none_str b t
   |_=>exact absurd (show false=true from fx) bM
 | bl a=>
   cases ry;cases x with
   |non=>cases rx;exact SeqAt.EqAt.bool_none a
   |bl b=>cases rx;exact SeqAt.EqAt.bool_bool a b
   |int b=>obtain⟨t,rfl⟩:=rx;exact SeqAt.EqAt.bool_int a b t
   |str b=>obtain⟨t,rfl⟩:=rx;exact SeqAt.EqAt.bool_str a b t
   |_=>exact absurd (show false=true from fx) bM
 | int a=>
   obtain⟨t',rfl⟩:=ry;cases x with
   |non=>cases rx;exact SeqAt.EqAt.int_none a t'
   |bl b=>cases rx;exact SeqAt.EqAt.int_bool a t' b
   |int b=>obtain⟨t,rfl⟩:=rx;exact SeqAt.EqAt.int_int a t' b t
   |str b=>obtain⟨t,rfl⟩:=rx;exact DT a t' b t
   |_=>exact absurd (show false=true from fx) bM
 | str a=>
   obtain⟨t',rfl⟩:=ry;cases x with
   |non=>cases rx;exact SeqAt.EqAt.str_none a t'
   |bl b=>cases rx;exact SeqAt.EqAt.str_bool a t' b
   |int b=>obtain⟨t,rfl⟩:=rx;exact DU a t' b t
   |str b=>obtain⟨t,rfl⟩:=rx;exact SeqAt.EqAt.str_str a t' b t
   |_=>exact absurd (show false=true from fx) bM
 |_=>exact absurd (show false=true from fy) bM
def eqU(x:V)(u:Value):Bool:=match u with
 |.none=>eqV .non x
 |.bool b=>eqV (.bl b) x
 |.int i _=>eqV 3#6 x
 |.str z _=>eqV (.str z) x
 |_=>false
theorem Ji{y:V}{u:Value}(r:RelV y u)(f:oX y=true):eqU x u=eqV y x:=by
 cases y with
 |non=>cases r;rfl
 |bl b=>cases r;rfl
 |int i=>obtain⟨t,rfl⟩:=r;rfl
 |str z=>obtain⟨t,rfl⟩:=r;rfl
 |_=>exact absurd (show false=true from f) bM
theorem qD{x:V}:∀{xs:List V}{us:List Value},cM xs us->xs.all oX=true->us.any (eqU x)=xs.any λy=>eqV y x
 |_,_,.nil,_=>rfl
 | y::xs,u::us,.cons r t,f=>by
   rw[bU,ar]at f;rw[gQ,gQ,Ji r f.1,qD t f.2]
theorem nW{A:Around}{s:Shared}{x:V}{v:Value}(rx:RelV x v)(fx:oX x=true):∀{xs:List V}{us:List Value},cM xs us->xs.all oX=true->∀u∈us,SeqAt.EqAt A s u v (eqU x u)
 |_,_,.nil,_=>λu hu=>by cases hu
 | y::xs,u::us,.cons r t,f=>λu' hu=>by
   rw[bU,ar]at f;rcases a9.mp hu with rfl|hu
   .rw[Ji r f.1];exact PM r rx f.1 fx
   .exact nW rx fx t f.2 u' hu
def inV(x:V)(xs:List V):Bool:=xs.any λy=>eqV y x
def rIn(K:ao)(neg:Bool):R2:=λx y H Q=>∃p xs,y=.ref p/\(SqL K H p xs\/SqT K H p xs)/\oX x=true/\xs.all oX=true/\Q (.bl (if neg then !inV x xs else inV x xs)) H
theorem EH:OpR X (compareOp .In) (rIn X.K false):=by
 intro pins s G H x y v u Q I rx ry h;obtain⟨p,xs,rfl,hq,fx,fs,q⟩:=h;cases ry;rcases hq with hq|hq
 .obtain⟨its,r,pl,hz⟩:=I.list hq
  refine SeqAt.in_listAt (eqU x) pl.isList 26#2 ⟨.bl _,H,I,rfl,?_⟩;rw[show its.toArray.any (eqU x)=its.any (eqU x) by simp,qD r fs];exact q
 .obtain⟨its,r,pl,hz⟩:=I.tuple hq
  refine SeqAt.in_tupleAt (eqU x) pl 26#2 ⟨.bl _,H,I,rfl,?_⟩;rw[show its.toArray.any (eqU x)=its.any (eqU x) by simp,qD r fs];exact q
theorem yx:OpR X (compareOp .NotIn) (rIn X.K true):=by
 intro pins s G H x y v u Q I rx ry h;obtain⟨p,xs,rfl,hq,fx,fs,q⟩:=h;cases ry;rcases hq with hq|hq
 .obtain⟨its,r,pl,hz⟩:=I.list hq
  refine SeqAt.notIn_listAt (eqU x) pl.isList 26#2 ⟨.bl _,H,I,rfl,?_⟩;rw[show its.toArray.any (eqU x)=its.any (eqU x) by simp,qD r fs];exact q
 .obtain⟨its,r,pl,hz⟩:=I.tuple hq
  refine SeqAt.notIn_tupleAt (eqU x) pl 26#2 ⟨.bl _,H,I,rfl,?_⟩;rw[show its.toArray.any (eqU x)=its.any (eqU x) by simp,qD r fs];exact q
theorem yL:iy X (.builtin "len") (fun xs H Q=>∃ p ys,xs=[.ref p]/\(SqL X.K H p ys\/SqT X.K H p ys)/\Q (.int ys.length) H):=by
 intro pins s G H xs us Q I r h;obtain⟨p,ys,rfl,hq,q⟩:=h;obtain⟨u,rfl,rx⟩:=vals1 r;cases rx;have hn:=wu;rcases hq with hq|hq
 .obtain⟨its,r',pl,hz⟩:=I.list hq
  have hlen:=r'.length;exact Calls.call_len_list pl.isList (by simp only[aH]<;>omega) ⟨.int ys.length,H,I.tok _,⟨s.toks+1,by rw[aH,hlen]⟩,q⟩
 .obtain⟨its,r',pl,hz⟩:=I.tuple hq
  have hlen:=r'.length;exact len_tuple pl (by simp only[aH]<;>omega) ⟨.int ys.length,H,I.tok _,⟨s.toks+1,by rw[aH,hlen]⟩,q⟩
theorem iy.or{f:Value}{r r':List V->Hp->VK->Prop}(h:iy X f r)(h':iy X f r'):iy X f (λxs H Q=>r xs H Q\/r' xs H Q):=by
 intro pins s G H xs us Q I rs q;rcases q with q|q
 .exact h pins s G H xs us Q I rs q
 .exact h' pins s G H xs us Q I rs q
theorem wN:iy X (.type "tuple") (fun xs H Q=>∃ p ys,xs=[.ref p]/\((SqL X.K H p ys /\ ∀ l,H l=none->Q (.ref l) (upd H l (.tup ys)))\/(SqT X.K H p ys/\Q (.ref p) H))):=by
 intro pins s G H xs us Q I r h;obtain⟨p,ys,rfl,h⟩:=h;obtain⟨u,rfl,rx⟩:=vals1 r;cases rx;rcases h with⟨hq,q⟩|⟨hq,q⟩
 .obtain⟨its,r',pl,hz⟩:=I.list hq
  have hlen:=r'.length;refine call_tuple_list pl.isList (λh' kp=>?_) (by simp only[aH]<;>omega);have I1:Inv X pins G H { s with heap:=h' }:=I.kept (t':=s.toks) kp;have I2:Inv X pins G (upd H h'.objs.size (.tup ys)) { s with heap:=h'.push { cls := .type "tuple",data := .seq its.toArray } }:=
   I1.laid (t':=s.toks) (λb o e=>aw _ e) 0#9 (show eI X.prog X.w _ _ _ (.tup ys) from⟨hz,its,r',n9 _ _,_,aL _ rfl,rfl⟩)
  exact⟨.ref h'.objs.size,_,I2,rfl,q _ (I1.hok.fresh 0#9)⟩
 .obtain⟨its,r',pl,hz⟩:=I.tuple hq
  exact call_tuple_same pl ⟨.ref p,H,I,rfl,q⟩
def tyV(K:ao)(T:String)(x:V)(H:Hp):Prop:=match x with
 |.str _=>T="str"
 |.int _=>T="int"
 | .ref p=>(T="list" /\ ∃ xs,SqL K H p xs)\/(T="tuple" /\ ∃ o,K.lookup p=some o/\o.cls=.type "tuple"/\o.dict=none) \/
   (T="dict"/\((∃ kvs,H p=some 8#3) \/ ∃ kvs,H p=some (.dT kvs)))\/(T="set" /\ ∃ S n,H p=some (.set S n))
 |_=>False
theorem HI{H:Hp}{T:String}{v:Value}(I:Inv X pins G H s)(r:RelV x v)(ty:tyV X.K T x H):
  s.TypeIs v T /\ ∀a,v=.ref a->∃ob,s.heap.get? a=some ob/\ob.dict=none:=by
 cases x with
 | str z=>
   obtain⟨t,rfl⟩:=r;cases (show T="str" from ty);exact⟨typeIs_str s z t,λ_ e=>nomatch e⟩
 | int i=>
   obtain⟨t,rfl⟩:=r;cases (show T="int" from ty);exact⟨typeIs_int s i t,λ_ e=>nomatch e⟩
 | ref p=>
   cases r;rcases ty with⟨rfl,xs,hq⟩|⟨rfl,o,hk,hc,hd⟩|⟨rfl,hk⟩|⟨rfl,S,n,hk⟩
   .obtain⟨its,_,pl,_⟩:=I.list hq
    refine⟨pl.isList.typeIs,λa e=>?_⟩;cases e;obtain⟨o,n,e,c,hd,_⟩:=pl;exact⟨o,e,hd⟩
   .refine⟨⟨o,I.kIn p o hk,hc⟩,λa e=>?_⟩
    cases e;exact⟨o,I.kIn _ o hk,hd⟩
   .have z:∃o,s.heap.get? p=some o/\o.ExactDict:=by
     rcases hk with⟨kvs,hk⟩|⟨kvs,hk⟩
     .obtain⟨_,_,_,_,o,_,_,e,ex,_⟩:=I.hok p _ hk
      exact⟨o,e,ex⟩
     .obtain⟨_,_,_,_,o,_,_,e,ex,_⟩:=I.hok p _ hk
      exact⟨o,e,ex⟩
    obtain⟨o,e,ex⟩:=z;refine⟨⟨o,e,ex.1⟩,λa e2=>?_⟩;cases e2;exact⟨o,e,ex.2.1⟩
   .obtain⟨o,_,_,_,e,ex,_⟩:=I.hok p _ hk
    refine⟨⟨o,e,ex.1⟩,λa e2=>?_⟩;cases e2;exact⟨o,e,ex.2.1⟩
 |_=>exact bT ty
def RW(K:ao)(T:String)(r:V->List V->Hp->VK->Prop)(to:TE):TE:=λG H Q=>to G H λx H1=>tyV K T x H1/\r x [] H1 Q
def tBM(K:ao)(T:String)(r:V->List V->Hp->VK->Prop)(to:TE)(t:TA):TE:=λG H Q=>to G H λx H1=>tyV K T x H1/\t G H1 λxs H2=>r x xs H2 Q
variable {o e:Expr}{es:List Expr}{to:TE}{t:TA}{name:Str}{apos cpos:Pos}{T id:String}{r:V->List V->Hp->VK->Prop}
theorem OK (pa:PlainAttrs T) (slot:Slot T name id) (hty:typeOf (.builtin id)=pure (.type "method_descriptor")) (hm:MtR X id r) (ho:PE X o to)
  (hbase:autoParam (attributeBase o name X.env (eval o X.env)=eval o X.env) au1._auto_1) (hline:autoParam ((apos.endLine==cpos.line)=true) au1._auto_1):PE X (.Call (.Attribute o name apos) [] [] cpos) (RW X.K T r to):=by
 intro pins s G H Q I h;refine wpAny_Call_method0_late hbase hline (thn (ho pins s G H _ I h) λv s1 ⟨x,H1,I1,r1,ty,q1⟩=>?_);obtain⟨h1,h2⟩:=HI I1 r1 ty;exact⟨T,id,pa,slot,hty,h1,h2,oO rfl (PySem.evalArgs_none (hm pins s1 G H1 x [] v [] Q I1 r1 .nil q1))⟩
theorem CK (pa:PlainAttrs T) (slot:Slot T name id) (hty:typeOf (.builtin id)=pure (.type "method_descriptor")) (hm:MtR X id r) (ho:PE X o to) (ha:PA X 1#7 t)
  (hbase:autoParam (attributeBase o name X.env (eval o X.env)=eval o X.env) au1._auto_1)
  (hfew:autoParam (((backTo cpos (starEach 1#7 X.env)).all (λx => !x.1)&&(backToKw cpos (keywordEach [] X.env)).all (λx=>x.1.isSome)
   && decide ((e::es).length+([]:List Keyword).length+(if ([]:List Keyword).isEmpty then 0 else 1)<30))=true) au1._auto_1)
  (hline:autoParam ((apos.endLine==cpos.line)=true) au1._auto_1) (hs:autoParam 9#2 au1._auto_1) (hplain:autoParam ((backTo cpos 10#5).any 2#2=false) au1._auto_1):
  PE X (.Call (.Attribute o name apos) 1#7 [] cpos) (tBM X.K T r to t):=by
 intro pins s G H Q I h;refine wpAny_Call_method_late hbase hfew hline rfl (thn (ho pins s G H _ I h) λv s1 ⟨x,H1,I1,r1,ty,q1⟩=>?_);obtain⟨h1,h2⟩:=HI I1 r1 ty;refine⟨T,id,pa,slot,hty,h1,h2,?_⟩;have hA:=ha cpos pins s1 G H1 _ I1 q1;rw[hs]at hA ⊢;refine oO (by show(false||(backTo cpos 10#5).any 2#2)=false;rw[hplain]<;>rfl) (kn ?_);exact thn hA λus s2 ⟨vs,H2,I2,r2,q2⟩=>hm pins s2 G H2 x vs v us Q I2 r1 r2 q2
end
def MtM(X:Cx)(id:String)(r:V->List V->Hp->VK->Prop):Prop:=
 ∀(pins:List 1#9) (s:Shared) (G:St) (H:Hp) (x:V) (xs:List V) (v:Value) (us:List Value) (Q:VK),Inv X pins G H s->RelV x v->cM xs us->r x xs H Q ->
  aV 1#2 X.A (call (.builtin id) (v::us)) 6#8 X.xe s
theorem cM.one:∀{x:V}{us:List Value},cM [x] us->∃u,us=[u]/\RelV x u:=by
 intro x us h;cases h with |cons r t=>cases t;exact⟨_,rfl,r⟩
theorem cM.zero:∀{us:List Value},cM [] us->us=[]
 |_,.nil=>rfl
theorem cM.dropLast{xs:List V}{us:List Value}(h:cM xs us):cM xs.dropLast us.dropLast:=by
 induction h with
 |nil=>exact .nil
 | cons r t ih=>
   cases t with
   |nil=>exact .nil
   |cons q t'=>exact .cons r ih
theorem cM.eraseIdx:∀{xs:List V}{us:List Value} (i:Nat),cM xs us->cM (xs.eraseIdx i) (us.eraseIdx i)
 |_,_,_,.nil=>.nil
 |_,_,0,.cons _ t=>t
 |_,_,i+1,.cons r t=>.cons r (cM.eraseIdx i t)
theorem cM.rep{xs:List V}{us:List Value}(h:cM xs us):∀k:Nat,cM (aR k xs).flatten (aR k us).flatten
 |0=>.nil
 | k+1=>by
   rw[dH,dH,fI,fI];exact cM.append h (cM.rep h k)
theorem Cp{α:Type}(l:List α):l.eraseIdx (l.length-1)=l.dropLast:=by
 induction l with
 |nil=>rfl
 | cons a r ih=>
   cases r with
   |nil=>rfl
   | cons b r=>
     have e:(a::b::r).length-1=((b::r).length-1)+1:=by
      have h1:(a::b::r).length=r.length+2:=rfl;have h2:(b::r).length=r.length+1:=rfl;assumption
     rw[e,Fy,ih]
     all_goals rfl
theorem xJ{α:Type}:∀(l:List α) (i:Nat),(l.eraseIdx i).length<=l.length
 |[],_=>ak _
 |_::_,0=>dc _
 |_::r,i+1=>Nat.succ_le_succ (xJ r i)
section
variable {X:Cx}{pins:List (Addr×Obj)}{G:St}{H:Hp}{s:Shared}{l b:Addr}{xs ys zs:List V}
variable{its:List Value}{t':Nat}
theorem Inv.lset{its':List Value}{f:Array Value->Array Value}(I:Inv X pins G H s)(hH:H l=some 6#5)
  (e:s.heap.get? l=some { cls := .type "list",data := .seq its.toArray n }) (hf:f its.toArray=its'.toArray) (hv:cM ys its') (hz:ys.length<=sizeLine) :
  Inv X pins G (upd H l (.lst ys)) { s with heap:=s.heap.update l (eE f),toks:=t' }:=by
 have q:=Jq e f;rw[hf]at q;refine I.write (x:=l) (e:=l) (by rw[hH];exact trivial) 5#5 (λb' u hb hu=>(d8 s.heap (eE f) (dZ hb)).trans hu) ⟨_,q⟩ ?_;exact⟨hz,its',_,hv,q⟩
theorem Inv.lnew(I:Inv X pins G H s)(hv:cM ys its)(hz:ys.length<=sizeLine):
  Inv X pins G (upd H s.heap.objs.size (.lst ys)) { s with heap:=s.heap.push { cls := .type "list",data := .seq its.toArray },toks:=t' }:=
 I.laid (λ_ _ q=>aw _ q) 0#9 ⟨hz,its,0,hv,aL _ rfl⟩
theorem Inv.fresh(I:Inv X pins G H s):H s.heap.objs.size=none:=I.hok.fresh 0#9
theorem Inv.lstM (I:Inv X pins G H s) (hH:H l=some 6#5):xs.length<=sizeLine /\ ∃ (its:List Value) (n:Nat),cM xs its/\xs.length=its.length/\s.heap.get? l=some { cls := .type "list",data := .seq its.toArray n }:=by
 obtain⟨z,its,n,r,e⟩:=I.hok l _ hH;exact⟨z,its,n,r,r.length,e⟩
theorem Jf(h:n<=sizeLine):kT n=false:=by
 unfold kT;exact decide_eq_false 0#2
end
section
variable {X:Cx}
def Dx:V->List V->Hp->VK->Prop:=λx vs H Q=>∃l xs y,x=.ref l/\vs=[y]/\H l=some 6#5/\xs.length<sizeLine/\Q .non (upd H l (.lst (xs++[y])))
theorem Ff:MtM X "list.append" Dx:=by
 intro pins s G H x vs v us Q I rx rv h;obtain⟨l,xs,y,rfl,rfl,hH,hz,q⟩:=h;cases rx;obtain⟨u,rfl,ru⟩:=rv.one;obtain⟨z,its,n,r,hl,e⟩:=I.lstM hH;refine call_meets F.slot_list_append ⟨_,e,rfl⟩ F.entry_list_append (F.args_list_append_2 _ _) (PySem.list_append l its.toArray n u 17#4) ⟨e,?_⟩;refine⟨.non,_,I.lset (its':=its++[u]) hH e 0#8 (r.append (.cons ru .nil)) ?_,rfl,q⟩;rw[a8,Jr];assumption
def CV:V->List V->Hp->VK->Prop:=λx vs H Q=>∃l b xs zs,x=.ref l/\vs=[.ref b]/\H l=some 6#5/\H b=some (.lst zs)/\xs.length+zs.length<=sizeLine/\Q .non (upd H l (.lst (xs++zs)))
theorem Eh:MtM X "list.extend" CV:=by
 intro pins s G H x vs v us Q I rx rv h;obtain⟨l,b,xs,zs,rfl,rfl,hH,hB,hz,q⟩:=h;cases rx;obtain⟨u,rfl,ru⟩:=rv.one;cases ru;obtain⟨z,its,n,r,hl,e⟩:=I.lstM hH;obtain⟨z2,its2,n2,r2,hl2,e2⟩:=I.lstM hB;have hsz:its.toArray.size+its2.toArray.size<=sizeLine:=by rw[aH,aH];omega
 have hlong: ¬(!its.toArray.isEmpty&&kT (its.toArray.size+its2.toArray.size))=true:=by
  rw[Jf hsz,Bool.and_false];exact bM
 refine call_meets F.slot_list_extend ⟨_,e,rfl⟩ F.entry_list_extend (F.args_list_extend_2 _ _)
  (AutoSeq1.list_extend_list_list_0 l its.toArray n b its2.toArray n2 hlong 17#4 (by exact aC 0#4 0#1)) ⟨e,e2,?_⟩
 refine⟨.non,_,I.lset (its':=its++its2) hH e 0#8 (r.append r2) ?_,rfl,q⟩;rw[a8];assumption
def Qw:V->List V->Hp->VK->Prop:=λx vs H Q=>∃l xs y,x=.ref l/\vs=[]/\H l=some 6#5/\xs[xs.length-1]?=some y/\Q y (upd H l (.lst xs.dropLast))
theorem PC:MtM X "list.pop" Qw:=by
 intro pins s G H x vs v us Q I rx rv h;obtain⟨l,xs,y,rfl,rfl,hH,hy,q⟩:=h;cases rx;have hus:=rv.zero;subst hus;obtain⟨z,its,n,r,hl,e⟩:=I.lstM hH;obtain⟨u,hu,ru⟩:=r.get hy;have hy':its.toArray[its.toArray.size-1]?=some u:=by
  show its.toArray[its.length-1]?=some u;rw[<-FI,<-hl];exact hu
 refine call_meets F.slot_list_pop ⟨_,e,rfl⟩ F.entry_list_pop (F.args_list_pop_1 _) (MeetsSeq.list_pop_last l its.toArray n u hy' 17#4) ⟨e,?_⟩;refine⟨y,_,I.lset (its':=its.dropLast) hH e ?_ r.dropLast ?_,ru,q⟩
 .show its.toArray.eraseIdxIfInBounds (its.toArray.size-1)=its.dropLast.toArray
  rw[aH,xu,Cp]
 .rw[List.length_dropLast]
  omega
def HB:V->List V->Hp->VK->Prop:=λx vs H Q=>∃l xs i k y,x=.ref l/\vs=[.int i]/\H l=some 6#5 /\ -(2^63)<=i/\i<2^63/\seqIndex? i xs.length=some k/\xs[k]?=some y/\Q y (upd H l (.lst (xs.eraseIdx k)))
theorem IH:MtM X "list.pop" HB:=by
 intro pins s G H x vs v us Q I rx rv h;obtain⟨l,xs,i,k,y,rfl,rfl,hH,h1,h2,hk,hy,q⟩:=h;cases rx;obtain⟨u,rfl,ru⟩:=rv.one;obtain⟨t,rfl⟩:=ru;obtain⟨z,its,n,r,hl,e⟩:=I.lstM hH;obtain⟨w,hw,rw'⟩:=r.get hy;refine call_meets F.slot_list_pop ⟨_,e,rfl⟩ F.entry_list_pop (F.args_list_pop_2 _ _)
  (MeetsSeq.list_pop_at l its.toArray n i t k w (fitsIndex_both h1 h2) (by rw[aH,<-hl];exact hk) (by rw[<-FI];exact hw) 17#4) ⟨e,?_⟩
 refine⟨y,_,I.lset (its':=its.eraseIdx k) hH e ?_ (r.eraseIdx k) ?_,rw',q⟩
 .show its.toArray.eraseIdxIfInBounds k=(its.eraseIdx k).toArray
  rw[xu]
 .have:=xJ xs k
  exact aC 0#4 0#4
def Ql:R2:=λx y H Q=>∃l b xs zs,x=.ref l/\y=.ref b/\H l=some 6#5/\H b=some (.lst zs)/\xs.length+zs.length<=sizeLine /\ ∀p,H p=none->Q (.ref p) (upd H p (.lst (xs++zs)))
theorem NM:OpR X (binaryOp .Add) Ql:=by
 intro pins s G H x y v u Q I rx ry h;obtain⟨l,b,xs,zs,rfl,rfl,hH,hB,hz,q⟩:=h;cases rx;cases ry;obtain⟨z,its,n,r,hl,e⟩:=I.lstM hH;obtain⟨z2,its2,n2,r2,hl2,e2⟩:=I.lstM hB;refine PySem.P.add_list e e2 ?_ (by rw[aH,aH];omega);have ea:its.toArray++its2.toArray=(its++its2).toArray:=by simp
 rw[ea];exact⟨.ref _,_,I.lnew (t':=s.toks) (r.append r2) (by rw[a8];assumption),rfl,q _ I.fresh⟩
theorem len_rep{α:Type}(xs:List α)(k:Nat):(aR k xs).flatten.length=k*xs.length:=by
 induction k with
 |zero=>simp
 |succ k ih=>rw[dH,fI,a8,ih,jC,jD]
end
section
variable {prog:Program}{w:World}{A:Around}{E:Value->Shared->Prop}{s:Shared}
end
section
variable {X:Cx}
end
end _L
namespace Att
open PySem PySem.W PySem.Calls PyProof.Rows
variable{P:Params}{h:Heap}
theorem tZ:∀(ns:List Int) (vs:List Value),WellAll P h vs (ns.map WData.int)->IntsAre vs ns:=by
 intro ns
 induction ns with
 | nil=>
   intro vs w;rw[jr]at w;cases w;exact .nil
 | cons n ns ih=>
   intro vs w;rw[bp]at w;cases w with
   | cons a b=>
     cases a;exact .cons _ _ (ih _ b)
variable{l:OpenLaw}{n:Nat}
theorem ES(hn:l.most=some n){args:List WData}{vals:List Value}
  (hpre:l.row.toRowW.claim.pre args=true) (hwl:WellAll P h vals args):
  ∃ a vs ns,vals=[bx a]/\args=[WData.list (ns.map WData.int)]/\h.get? a=some { cls := .type "list",data := .seq vs.toArray }/\IntsAre vs ns/\ns.length<=n:=by
 have hsh:WShape.hasAll [] args [.list .int]=true:=(pre_splitW hpre).1;have hc:l.pre.holds [] { args:=args }=true:=(pre_splitW hpre).2;obtain⟨d,r,rfl,h1,h2⟩:=hasAllW_cons hsh;obtain rfl:=hasAllW_nil h2;obtain⟨xs,rfl,h3⟩:=hasW_list h1;obtain⟨ns,rfl⟩:=items_int h3;have hlen:ns.length<=n:=by
  unfold OpenLaw.pre at hc;have h4:(WTm.not (.lt (.lit (.int (n:Int))) (.len (.arg 0)))).holds [] { args:= [.list (ns.map .int)] }=true:=by
   have h4:=(holds_andW hc).1;rw[hn]at h4;exact h4
  have h5:=condW_of h4 (w_not (w_lt w_lit (w_len_list (w_arg rfl))));rw[ax]at h5;refine bA λq=>?_;have q':(n:Int)<((ns.length:Nat):Int):=by omega
  first
   |(rw[decide_eq_true q']at h5;exact absurd h5 (by decide))
   |(simp at h5;omega)
 cases hwl with
 | cons w1 w2=>
   cases w2;cases w1 with
   |list ho hall=>exact⟨_,_,ns,rfl,rfl,ho,tZ ns _ hall,hlen⟩
theorem EG(l:OpenLaw)(args:List WData):l.row.toRowW.claim.post args (.bool true) args=true:=
 postW_of (r:=l.row.toRowW) (X:=(true==true))
  (show WShape.has [] (.bool true) .bool=true by first |rfl |decide |simp[WShape.has,WShape.arms,WShape.armsAll])
  (show(WTm.eq .res (.lit (.bool true))).value [] { args:=args,res:=some (.bool true),after:=args }=some (.bool (true==true)) from w_eq_bool (w_res rfl) w_lit) rfl
theorem attach_call{q:Program}{loose:List Str}{XP:(Str->Option Value)->Heap->Prop}{YP:World->Heap->Prop}{d:DefRec}
  (hn:l.most=some n) (hdf:d.params.defaults=[])
  (call: ∀(w:World) (s₀ s₁:Shared) (mg mb:Str->Option Value) (fa:Addr) (o:Obj) (pm cd doc:Value) (a:Addr) (vs:List Value) (ns:List Int),
   Ground q loose [] XP w s₀ mg mb s₁.heap->YP w s₁.heap ->
   s₁.heap.get? fa=some o->o.data=.func (docDef d.name d.params d.body d.scope pm cd doc)->s₁.heap.CodeRec cd d.name->mg d.name=some (.ref fa) ->
   s₁.heap.get? a=some { cls := .type "list",data := .seq vs.toArray }->IntsAre vs ns->ns.length<=n->s₁.gens = #[] ->
   o5 (model l.prog w) callerA (.call (.ref fa) ⟨[.ref a],[]⟩) (λr s'=>r = .ok (.ret (.bool true))/\OldK s₁.heap s'.heap/\s'.os=s₁.os/\AllBare s'.gens) s₁):
  WalkO q loose XP YP l.row.toRowW d [] (λf vs=>PySem.call f vs):=by
 intro w s₀ s₁ mg mb B' f8 fa o pm cd doc dV kV ho hd hcd hD hmg hg args vals as hpre hlay hrd hwl hlo;obtain rfl:dV=.none:=Dflts.none hD hdf;obtain rfl:kV=.none:=Dflts.noKw hD;obtain⟨a,vs,ns,rfl,rfl,hobj,hints,hlen⟩:=ES hn hpre hwl;refine enter_call (iL (call w s₀ s₁ mg mb fa o pm cd doc a vs ns B' f8 ho (fd_plain hd) hcd hmg hobj hints hlen hg) λr s' hq=>?_);obtain⟨rfl,h2,h3,h4⟩:=hq;exact⟨.inl ⟨.bool true,.bool true,[],rfl,λ_=>rfl,.bool true,EG l _,λ_=>⟨iB,λ_ hm=>(nomatch hm)⟩⟩,h2,h3,h4⟩
section
variable {prog:Program}{w:World}{A:Around}{E:Value->Shared->Prop}{s:Shared}{K:Frag}
end
end Att
namespace _L
open PySem PySem.Spec PyProof.Rows
abbrev KOf{K:ao}{h:Heap}(_:K.In h):ao:=K
def gf(s:Stmt):Arguments:=match s with
 |.FunctionDef _ a _ _ _ _ _ _ _ _=>a
 |_=>{ posonlyargs:= [],args:= [],vararg:=none,kwonlyargs:= [],kw_defaults:= [],kwarg:=none,defaults:= [] }
def cq(s:Stmt):List Stmt:=match s with
 |.FunctionDef _ _ b _ _ _ _ _ _ _=>b
 |_=>[]
def aE(s:Stmt):Scope:=match s with
 |.FunctionDef _ _ _ _ _ _ sc _ _ _=>sc
 |_=>{ kind:= .function,names:= [],isGenerator:=false,isCoroutine:=false }
abbrev CX0:CXT:=λ_ _ _ _ _ _=>False
abbrev E0:XK:=λ_ _ _=>False
theorem yb{X:Cx}:uQ CX0 X E0:=λ_ _ _ _ _ _ _ h=>h.elim
structure Fun(K:ao)(x qual:Str)(st:Stmt)(f:Addr)(fd:FuncData):Prop where
 ex:∃(oc:Value) (od:Option Addr) (kV doc pm:Value) (an:Option Addr) (cdv ct:Value) (osl:Array (Option Value)),
  fd=dv x qual (gf st) (cq st) (aE st) .none kV doc pm an cdv ct/\K.lookup f=some ⟨oc,od,.func fd,osl⟩/\gZ K cdv qual=true
 kp:dq K (.ref f)=true
section
variable {P:Program}{w:World}{K:ao}{mg:Str->Option Value}{base:Heap}
variable{x qual:Str}{st:Stmt}{f:Addr}{fd:FuncData}{ps:List Str}
theorem Fun.ok{N:List Str}{k:Nat}{sp:Sp}(F:Fun K x qual st f fd)(S:bh N ps (aE st))(len:∀vs H Q E,sp vs H Q E->vs.length=ps.length)
  (hbody: ∀(cdv:Value) (A:Around) (outer:List Env) (s:Shared) (H:Hp) (vs:List V) (Q:VK) (E:XK),lJ k (A.deeper (envOfC qual (aE st) s.heap.objs.size f cdv))->sp vs H Q E ->
   ∃t,PSs (vf CX0 P w K mg base N qual (aE st) f cdv A outer s H E).nox (cq st) t/\t { nx:=λ_ H'=>Q .non H',rt:=Q } (start N vs) H):jA P w K mg base CX0 (k+1) f fd ps sp:=by
 obtain⟨oc,od,kV,doc,pm,an,cdv,ct,osl,rfl,lk,hcd⟩:=F.ex;refine AG lk hcd S len λA outer s H vs Q E hr hsp=>?_;obtain⟨t,h,q⟩:=hbody cdv A outer s H vs Q E hr hsp;exact⟨t,h.nox,q⟩
theorem Fun.binds(F:Fun K x qual st f fd)
  (h:∀(kV doc pm:Value) (an:Option Addr) (cdv ct:Value) (us:List Value),us.length=ps.length->bindArgs 29#5 ⟨us,[]⟩=pure 12#1):Binds K fd ps []:=by
 obtain⟨oc,od,kV,doc,pm,an,cdv,ct,osl,rfl,lk,hcd⟩:=F.ex;exact .all (h kV doc pm an cdv ct)
theorem HM{oc:Value}{od an:Option Addr}{osl:Array (Option Value)}{kV doc pm cdv ct:Value}(l:K.lookup f=some ⟨oc,od,.func 29#5,osl⟩)
  (c:gZ K cdv qual=true) (k:dq K (.ref f)=true):Fun K x qual st f 29#5:=⟨⟨oc,od,kV,doc,pm,an,cdv,ct,osl,rfl,l,c⟩,k⟩
end
section
variable {X:Cx}
end
theorem Uh{A B:Prop}(h:B):if false=true then A else B:=by
 rw[if_neg bM];exact h
theorem Uv{A B:Prop}(h:A):if true=true then A else B:=by
 rw[if_pos rfl];exact h
end _L
namespace HT
open PySem PyProof.Rows
section
open PySem.SeqAt
open PySem.AutoSeq1 (wpAny_loadPart')
open PySem.MeetsSeq PySem.MeetsSeq2 PySem.MeetsSeq3
end
section
variable {prog:Program}{w:World}{A:Around}{E:Value->Shared->Prop}{s:Shared}
end
end HT
namespace _L
open PySem PyProof.Rows
section
variable {X:Cx}
end
end _L
namespace PySem
namespace GR
def Bp (h:Heap) (a t:Addr) (i:Int):Prop := ∃ o,h.get? a=some o/\o.cls=.type "reversed"/\o.data=.fields #[.ref t,rawInt i]
theorem Bp.at{h h':Heap}{a t:Addr}{i:Int}(x:Bp h a t i)(e:∀o,h.get? a=some o->h'.get? a=some o):Bp h' a t i:=let ⟨o,ho,r⟩:=x;⟨o,e _ ho,r⟩
open PyProof.Rows in
section
variable {prog:Program}{w:World}{A:Around}{E:Value->Shared->Prop}{s:Shared}
open PyProof.Rows
end
end GR
end PySem
namespace _L
open PySem PySem.Spec PyProof.Rows
section
variable {X:Cx}{tg:Expr}
end
end _L
namespace PySem
namespace GE
open AutoSeq1 (wpAny_loadPart')
section
variable {prog:Program}{w:World}{A:Around}{E:Value->Shared->Prop}{s:Shared}
end
end GE
end PySem
namespace _L
open PySem PySem.Spec PyProof.Rows
theorem Inv.turnNew{X:Cx}{pins:List (Addr×Obj)}{G:St}{H:Hp}{s:Shared}{h':Heap}{t':Nat}{fp:List Addr}{T:Addr}{o:HO}(I:Inv X pins G H s)(hf:∀b∈fp,wL X pins H b)(k:∀b u,b∉fp->s.heap.get? b=some u->h'.get? b=some u)
  (hT:s.heap.objs.size<=T) (new:eI X.prog X.w (upd H T o) h' T o):Inv X pins G (upd H T o) { s with heap:=h',toks:=t' }:=by
 have hn:H T=none:=I.hok.fresh hT;have neT:∀b u,s.heap.get? b=some u->b≠T:=λb u e z=>absurd (aj (aK e) (by rw[z];exact hT)) (bO _);have nfp:∀b u,H b=some u->b∉fp:=λb u e z=>by rw[(hf b z).1]at e;cases e
 refine I.step (g':=s.gens) (d':=s.drawn) (ch:=fp) (λb hb=>⟨(hf b hb).2.2.2.1,(hf b hb).2.1,(hf b hb).2.2.2.2.1,(hf b hb).2.2.2.2.2⟩) (λb o _ _ hc e _=>k b o hc e) (λb o _ _ hc e _=>⟨o.slots,k b o hc e⟩)
  (λb o _ e n=>by rw[bo (neT b o e)];exact n) (λb o hc e=>⟨o,k b o hc e⟩) (λb xs e=>by rw[bo (bf e hn)];exact e) (λb o u e=>by rw[bo (bf e hn)];exact e) (λb ps e=>⟨#[],by rw[bo (bf e hn),e];simp⟩) (λm hm=>?_) (λb u e=>?_) I.bare
 .obtain⟨o,es,ep,ho,r⟩:=hm
  exact⟨o,es,ep,k _ o (λz=>(hf _ z).2.1 rfl) ho,r⟩
 .by_cases hb:b=T
  .subst hb;rw[cz]at e;cases e;exact new
  .rw[bo hb]at e
   refine(I.hok b u e).stay (λc v hc q=>k c v ?_ q) (λc q=>by rw[bo (bf q hn)];exact q) λc xs q=>by rw[bo (bf q hn)];exact q
   rcases hc with z|z
   .rw[z];exact nfp b u e
   .exact nfp c _ z
def B7(K:ao)(a:Addr):It:=
 ⟨λi H=>∃xs x,SqL K H a xs/\xs[i]?=some x,λi H x H'=>∃T u,(∀xs,SqL K H a xs->xs[i]?=some u)/\H T=none/\x=.ref T/\H'=upd H T (.tup [.int i,u]),λi H=>∃xs,SqL K H a xs/\xs.length<=i⟩
variable{ts:List Expr}{kt:Nat}
theorem BY{P:Program}{w:World}{K:ao}{pt:Pos}(a e it:Addr)(hne:e≠it):Turn P w K 16#0 (B7 K a) [e,it] e (λi h=>(∃old,IsEnum h e it (i:Nat) old)/\h.IsListIter it a i) where
 mem:=by simp
 obj:=λi h st b hb=>by
  obtain⟨⟨old,he⟩,o,ho,c,d⟩:=st;rcases a9.mp hb with z|z
  .subst z;exact⟨_,he,λv y=>by have y':Data.fields _=Data.cell v:=y;cases y'⟩
  .have z:b=it:=by simpa using z
   subst z;exact⟨o,ho,λv y=>by rw[d]at y;cases y⟩
 keep:=λi h h' st k=>by
  obtain⟨⟨old,he⟩,o,ho,r⟩:=st;exact⟨⟨old,k e 0#8 _ he⟩,o,k it 0#8 _ ho,r⟩
 item:=by
  intro X hP hw hK hc i pins s G H E I hf st hg;subst hP hw hK;obtain⟨xs,x,hq,hx⟩:=hg;obtain⟨its,rv,p,hz⟩:=I.list hq;obtain⟨u,hu,ru⟩:=rv.get hx;obtain⟨⟨old,he⟩,hit⟩:=st;have hel:=aK he;have hil:it<s.heap.objs.size:=by obtain⟨o,ho,_⟩:=hit;exact aK ho
  refine wpAny_pyNext_enum_item he hit p.isList (x:=u) (by simpa using hu) hne λh' ho hit' hT hsz hk=>?_;refine⟨_,rfl,wpAny_letOwnedTupleGo_enum (s:={ s with heap:=h',toks:=s.toks+1 }) ho λh2 he2 hs2=>?_⟩;have hT2:h2.get? s.heap.objs.size=some { cls := .type "tuple",data := .seq #[.int i s.toks,u] }:=(hs2.2 _ (cN hel)).trans hT;have k:∀b o,b ∉ [e,it]->s.heap.get? b=some o->h2.get? b=some o:=λb o hb eo=>by
   have hb1:b≠e:=λz=>hb (by simp[z]);have hb2:b≠it:=λz=>hb (by simp[z]);exact(hs2.2 b hb1).trans (hk b o hb1 hb2 eo)
  have new:eI X.prog X.w (upd H s.heap.objs.size (.tup [.int i,x])) h2 s.heap.objs.size (.tup [.int i,x]):=⟨by rw[sizeLine_eq];show 2<=16777216;decide,[.int i s.toks,u],.cons ⟨s.toks,rfl⟩ (.cons ru .nil),⟨_,hT2,rfl,_,rfl⟩,_,hT2,rfl⟩;have it2:h2.IsListIter it a (i+1):=hit'.extBut hs2.extBut (dZ hne)
  exact⟨.ref s.heap.objs.size,_,I.turnNew (t':=s.toks+1) hf k 0#9 new,rfl,⟨_,x,λys hy=>by rw[I.list_inj hy hq];exact hx,I.hok.fresh 0#9,rfl,rfl⟩,⟨⟨u,by simpa using he2⟩,it2⟩,λb hb=>by
   have hb0:=(hf b hb).1;rw[bo (λz=>?_)]
   .exact hb0
   .rcases a9.mp hb with y|y
    .exact absurd (y.symm.trans z) (aW hel)
    .have y:b=it:=by simpa using y
     exact absurd (y.symm.trans z) (aW hil)⟩
 done:=by
  intro X hP hw hK hc i pins s G H E I hf st hg;subst hP hw hK;obtain⟨xs,hq,hx⟩:=hg;obtain⟨its,rv,p,hz⟩:=I.list hq;obtain⟨⟨old,he⟩,hit⟩:=st;obtain⟨f0,f1,f2,f3,f4,f5⟩:=hf it 0#8;have hl:=rv.length;exact wpAny_pyNext_enum_end 10#0 he hit p.isList 16#2 λh' eb=>24#8
 self:=λ_ _ _ _ _ st h=>by
  obtain⟨⟨old,he⟩,_⟩:=st;exact wpAny_pyIter_enum he h
section
variable {X:Cx}
def vJ(K:ao)(ta:TA):TI:=λG H R=>ta G H λvs H1=>False \/ ∃a xs,vs=[.ref a]/\SqL K H1 a xs/\R (B7 K a) H1
theorem LR {a:Expr}{ta:TA}{p pos:Pos}{pt:Pos} (hg:Gl X "enumerate") (hm:X.mg "enumerate"=none) (ha:PA X [a] ta) (hs:autoParam 27#4 au1._auto_1):PI X 16#0 (.Call (.Name "enumerate" p) [a] [] pos) (vJ X.K ta):=by
 intro pins s G H R I h;refine Call_ (lh I hg hm boot_enumerate (dO 21#3 hs rfl));rcases q1 with q1|q1
 .exact q1.elim
 .obtain⟨b,xs,e,hq,q⟩:=q1
  subst e;cases r1 with
  | cons r rr=>
    cases rr;cases r;obtain⟨its,rv,pt,hz⟩:=I1.list hq;refine call_enumerate_list pt.isList λh' he hit hsz hk=>?_;have I2:Inv X pins G H1 { s1 with heap:=h',toks:=s1.toks }:=I1.kept hk;refine wpAny_pyIter_enum (s:={ s1 with heap:=h' }) he ?_;refine⟨s1.heap.objs.size+1,[s1.heap.objs.size+1,s1.heap.objs.size],_,_,H1,rfl,I2,BY b _ _ (Nat.succ_ne_self _),⟨⟨_,he⟩,hit⟩,λc hc=>?_,q⟩;rcases a9.mp hc with z |z
    .subst z;exact I1.fpOk (dc _) (I1.hok.fresh (dc _))
    .have z:c=s1.heap.objs.size:=by simpa using z
     subst z;exact I1.fpOk 0#9 (I1.hok.fresh 0#9)
end
end _L
namespace PySem
namespace GE
section
variable {prog:Program}{w:World}{A:Around}{E:Value->Shared->Prop}{s:Shared}
end
section
variable {prog:Program}{w:World}{A:Around}{E:Value->Shared->Prop}{s:Shared}
end
end GE
end PySem
namespace _L
open PySem PySem.Spec PyProof.Rows
section
variable {X:Cx}
end
section
variable {κ:Type} [DecidableEq κ]
def nQ(kvs:List (κ×V))(k:κ):Option V:=(kvs.find? λkv=>decide (kv.1=k)).map (·.2)
def putK(kvs:List (κ×V))(k:κ)(v:V):List (κ×V):=
 if 22#9=true then kvs.map 33#9 else kvs++[(k,v)]
theorem nB{p:κ×V}{r:List (κ×V)}{k:κ}(e:p.1=k):nQ (p::r) k=some p.2:=by simp[nQ,bV,e]
theorem ny{p:κ×V}{r:List (κ×V)}{k:κ}(e: ¬p.1=k):nQ (p::r) k=nQ r k:=by simp[nQ,bV,e]
theorem Ag(k:κ):∀kvs:List (κ×V),22#9=(nQ kvs k).isSome
 |[]=>rfl
 | p::r=>by
   rw[gQ];by_cases e:p.1=k
   .simp only[nB e,decide_eq_true e,Bool.true_or,Jz]
   .rw[ny e,decide_eq_false e,Bool.false_or];exact Ag k r
theorem nu(kvs:List (κ×V))(k:κ)(v:V):(putK kvs k v).length<=kvs.length+1:=by
 unfold putK
 split
 .rw[ax];exact dc _
 .rw[a8,cf,ej];exact ak _
theorem vm.isSome_eq{o:Option V}{u:Option Value}(r:vm o u):o.isSome=u.isSome:=by
 cases o with
 | none=>cases u with
   |none=>rfl
   |some _=>exact(show False from r).elim
 | some _=>cases u with
   |none=>exact(show False from r).elim
   |some _=>rfl
theorem KV.val{kvs:List (κ×V)}{vs:List (κ×Value)}(r:KV kvs vs)(k:κ):vm (nQ kvs k) (valueAt vs k):=by
 unfold KV at r
 induction r with
 |nil=>exact gp
 | @cons p q ps qs h t ih=>
   obtain⟨h1,h2⟩:=h;by_cases e:p.1=k
   .have e':q.1=k:=h1.symm.trans e
    have b:valueAt (q::qs) k=some q.2:=by simp[valueAt,bV,e']
    rw[nB e,b];exact h2
   .have e': ¬q.1=k:=λz=>e (h1.trans z)
    have b:valueAt (q::qs) k=valueAt qs k:=by simp[valueAt,bV,e']
    rw[ny e,b];exact ih
theorem KV.any{kvs:List (κ×V)}{vs:List (κ×Value)}(r:KV kvs vs)(k:κ):22#9=vs.any λkv=>decide (kv.1=k):=by
 unfold KV at r
 induction r with
 |nil=>rfl
 |cons h t ih=>rw[gQ,gQ,ih,h.1]
variable{u:Value}
theorem KV.repl{kvs:List (κ×V)}{vs:List (κ×Value)}(r:KV kvs vs)(k:κ){y:V}(ry:RelV y u):
  KV (kvs.map λkv=>if kv.1=k then(kv.1,y) else kv) (vs.map λkv=>if kv.1=k then(kv.1,u) else kv):=by
 unfold KV at r ⊢
 induction r with
 |nil=>exact .nil
 | @cons p q ps qs h t ih=>
   rw[bp,bp];refine .cons ?_ ih;obtain⟨h1,h2⟩:=h;by_cases e:p.1=k
   .rw[if_pos e,if_pos (h1.symm.trans e)];exact⟨h1,ry⟩
   .rw[if_neg e,if_neg (λz=>e (h1.trans z))];exact⟨h1,h2⟩
theorem KV.put{kvs:List (κ×V)}{vs:List (κ×Value)}(r:KV kvs vs)(k:κ){y:V}(ry:RelV y u):KV (putK kvs k y) (stored vs k u):=by
 unfold putK stored;rw[r.any k];by_cases e:(vs.any λkv=>decide (kv.1=k))=true
 .rw[if_pos e,if_pos e];exact r.repl k ry
 .rw[if_neg e,if_neg e];exact Paired.snoc r ⟨rfl,ry⟩
theorem KV.length{kvs:List (κ×V)}{vs:List (κ×Value)}(r:KV kvs vs):kvs.length=vs.length:=Be r
end
variable{u:Value}{P:Program}{w:World}
theorem yc{k:Key}(r:RelV (kV k) u):(eB P w).is k u=true:=by
 cases k with
 |inl i=>obtain⟨t,e⟩:=(show ∃t,u=rH i t from r);subst e;exact AD P w i t
 |inr x=>obtain⟨t,e⟩:=(show ∃t,u=rJ x t from r);subst e;exact zS P w x t
theorem ym{P:Program}{w:World}:∀{ks:List Key}{us:List Value},cM (ks.map kV) us->ItemsAre (eB P w) ks us
 |[],_,r=>by rw[jr]at r;cases r;exact .nil
 | k::ks,_,r=>by
   rw[bp]at r;cases r with
   |cons h t=>exact .cons (yc h) (ym t)
abbrev KT(H:Hp):List (List Key×V)->List (List Key×Addr×Value)->Prop:=Paired λp q=>p.1=q.1/\H q.2.1=some (.tup (p.1.map kV))/\RelV p.2 q.2.2
variable{H:Hp}{kvs:List (List Key×V)}{xs:List (List Key×Addr×Value)}
theorem KT.val(r:KT H kvs xs)(k:List Key):vm (nQ kvs k) ((atKey xs k).map (·.2)):=by
 induction r with
 |nil=>exact gp
 | @cons p q ps qs h t ih=>
   obtain⟨h1,_,h2⟩:=h;by_cases e:p.1=k
   .have e':q.1=k:=h1.symm.trans e
    have b:atKey (q::qs) k=some q.2:=by simp[atKey,bV,e']
    rw[nB e,b];exact h2
   .have e': ¬q.1=k:=λz=>e (h1.trans z)
    have b:atKey (q::qs) k=atKey qs k:=by simp[atKey,bV,e']
    rw[ny e,b];exact ih
variable{y:V}
theorem KT.repl(r:KT H kvs xs)(k:List Key)(ry:RelV y u):
  KT H (kvs.map λkv=>if kv.1=k then(kv.1,y) else kv) (xs.map (putAt k u)):=by
 induction r with
 |nil=>exact .nil
 | @cons p q ps qs h t ih=>
   rw[bp,bp];refine .cons ?_ ih;obtain⟨h1,h2,h3⟩:=h;unfold putAt;by_cases e:p.1=k
   .rw[if_pos e,if_pos (h1.symm.trans e)];exact⟨h1,h2,ry⟩
   .rw[if_neg e,if_neg (λz=>e (h1.trans z))];exact⟨h1,h2,h3⟩
variable{b:Addr}
theorem KT.put(r:KT H kvs xs)(k:List Key)(hb:H b=some (.tup (k.map kV)))(ry:RelV y u):
  KT H (putK kvs k y) (storedH xs k b u):=by
 have e:22#9=(atKey xs k).isSome:=by
  rw[Ag,(r.val k).isSome_eq,mJ]
 unfold putK storedH;rw[e];by_cases q:(atKey xs k).isSome=true
 .rw[if_pos q,if_pos q];exact r.repl k ry
 .rw[if_neg q,if_neg q];exact Paired.snoc r ⟨rfl,hb,ry⟩
variable{H':Hp}
theorem KT.keeps(r:KT H kvs xs)(ht:∀b ys,H b=some (.tup ys)->H' b=some (.tup ys)):KT H' kvs xs:=
 Paired.mapP r λ_ _ z=>⟨z.1,ht _ _ z.2.1,z.2.2⟩
section
variable {P:Program}{w:World}{H:Hp}{h:Heap}{a:Addr}
theorem Mn{u:HO}(ok:HOk P w H h)(e:Rd H a u):eI P w H h a u:=e.ok ok
theorem xO{kvs:List (Key×V)}(ok:HOk P w H h)(e:Rd H a 8#3):kvs.length<=sizeLine/\18#0=false /\ ∃vs,KV kvs vs/\h.DictOf (eB P w) a vs:=
 show eI P w H h a 8#3 from Mn ok e
theorem M3{kvs:List (Key×V)}(ok:HOk P w H h)(e:H a=some 8#3):kvs.length<=sizeLine/\18#0=false /\ ∃vs,KV kvs vs/\h.DictOf (eB P w) a vs:=xO ok (.inl e)
theorem vL{ks:List Key}(ok:HOk P w H h)(e:H a=some (.tup (ks.map kV))):(tupleKind (eB P w)).is h ks a:=by
 obtain⟨_,its,r,⟨o,h1,h2,n,h3⟩,_⟩:=(show eI P w H h a (.tup (ks.map kV)) from ok a _ e);exact⟨o,its.toArray,n,h1,h2,h3,by simpa using ym r⟩
theorem AS(ok:HOk P w H h)(e:Rd H a (.dT kvs)):kvs.length<=sizeLine/\18#0=false /\
  ∃xs,KT H kvs xs/\h.DictOfH (tupleKind (eB P w)) a xs:=by
 obtain⟨z,y,xs,r,o,es,ep,h1,h2,h3,h4,h5⟩:=(show eI P w H h a (.dT kvs) from Mn ok e);refine⟨z,y,xs,r,o,es,ep,h1,h2,h3,h4,λx hx=>?_,h5⟩;have all:∀{l:List (List Key×V)}{m:List (List Key×Addr×Value)},KT H l m->∀x∈m,(tupleKind (eB P w)).is h x.1 x.2.1:=by
  intro l m q
  induction q with
  |nil=>intro x hx;exact nomatch hx
  | @cons p q ps qs hq t ih=>
    intro x hx;rcases a9.mp hx with e|hx
    .subst e
     exact vL ok (by rw[<-hq.1];exact hq.2.1)
    .exact ih x hx
 exact all r x hx
theorem QU(ok:HOk P w H h)(e:H a=some (.dT kvs)):kvs.length<=sizeLine/\18#0=false /\
  ∃xs,KT H kvs xs/\h.DictOfH (tupleKind (eB P w)) a xs:=AS ok (.inl e)
end
def wR(H:Hp)(a:Addr)(y:V)(r:Option V):Prop:=
 (∃kvs k,Rd H a 8#3/\y=kV k/\r=nQ kvs k) \/ ∃kvs k b,Rd H a (.dT kvs)/\y=.ref b/\H b=some (.tup (k.map kV))/\r=nQ kvs k
def EN(H:Hp)(a:Addr)(y v:V)(H':Hp):Prop:=
 (∃kvs k,H a=some 8#3/\y=kV k/\kvs.length<sizeLine/\H'=upd H a (.dK (putK kvs k v))) \/
 ∃kvs k b,H a=some (.dT kvs)/\y=.ref b/\H b=some (.tup (k.map kV))/\kvs.length<sizeLine/\H'=upd H a (.dT (putK kvs k v))
theorem wR.k{H:Hp}{a:Addr}{kvs:List (Key×V)}{k:Key}(e:H a=some 8#3):wR H a (kV k) (nQ kvs k):= .inl ⟨kvs,k,.inl e,rfl,rfl⟩
variable{a:Addr}
theorem wR.t{k:List Key}(e:H a=some (.dT kvs))(eb:H b=some (.tup (k.map kV))):wR H a (.ref b) (nQ kvs k):= .inr ⟨kvs,k,b,.inl e,rfl,eb,rfl⟩
theorem EN.k{H:Hp}{a:Addr}{kvs:List (Key×V)}{k:Key}{v:V}(e:H a=some 8#3)(hl:kvs.length<sizeLine):EN H a (kV k) v (upd H a (.dK (putK kvs k v))):= .inl ⟨kvs,k,e,rfl,hl,rfl⟩
theorem EN.t{k:List Key}{v:V}(e:H a=some (.dT kvs))(eb:H b=some (.tup (k.map kV)))(hl:kvs.length<sizeLine):
  EN H a (.ref b) v (upd H a (.dT (putK kvs k v))):= .inr ⟨kvs,k,b,e,rfl,eb,hl,rfl⟩
section
variable {X:Cx}{pins:List (Addr×Obj)}{G:St}{H:Hp}{s:Shared}{a:Addr}{y v:V}{u r:Value}{o:Option V}{A:Around}{E:Value->Shared->Prop}
theorem Inv.big(I:Inv X pins G H s):sysModules<s.heap.objs.size:=by
 have h:mainGlobals<s.heap.objs.size:=(I.mod.glob.keeps I.bk).lt;exact cP 0#1 h
variable{Q:Value->Shared->Prop}
theorem ET(hu:A.units+1<cLine)(I:Inv X pins G H s)(g:wR H a y (some v))(ry:RelV y u)(h:∀w' s',Inv X pins G H s'->RelV v w'->Q w' s'):
  aV 1#2 A (getItem (.ref a) u) Q E s:=by
 rcases g with⟨kvs,k,e,ey,l⟩|⟨kvs,k,b,e,ey,eb,l⟩
 .subst ey
  obtain⟨z,hd,vs,rel,dd⟩:=xO I.hok e;obtain⟨w',hw,rw'⟩:=vm.some_of (v:=v) (o:=valueAt vs k) (by rw[l];exact rel.val k);exact wpAny_getItem_of (yc ry) dd.mapOf hw (h w' _ (I.tok _) rw')
 .subst ey
  cases 24#3;obtain⟨z,hd,xs,rel,dd⟩:=AS I.hok e;obtain⟨w',hw,rw'⟩:=vm.some_of (v:=v) (o:=(atKey xs k).map (·.2)) (by rw[l];exact rel.val k);obtain⟨p,hp,hp2⟩:=Option.map_eq_some_iff.mp hw;refine wpAny_getItem_heap (tupleKind_room_in1 hu) (vL I.hok eb) dd hp ?_;rw[hp2];exact h w' _ (I.tok _) rw'
theorem TM(hu:A.units+1<cLine)(I:Inv X pins G H s)(g:wR H a y o)(ry:RelV y u)(h:∀s',Inv X pins G H s'->Q (.bool o.isSome) s'):
  aV 1#2 A (compareOp .In u (.ref a)) Q E s:=by
 rcases g with⟨kvs,k,e,ey,l⟩|⟨kvs,k,b,e,ey,eb,l⟩
 .subst ey
  obtain⟨z,hd,vs,rel,dd⟩:=xO I.hok e;refine wpAny_in_of (yc ry) hd dd.mapOf ?_;rw[<-(rel.val k).isSome_eq,<-l];exact h _ (I.tok _)
 .subst ey
  cases 24#3;obtain⟨z,hd,xs,rel,dd⟩:=AS I.hok e;refine wpAny_in_heap (tupleKind_room_in1 hu) (vL I.hok eb) hd dd ?_;have q:=(rel.val k).isSome_eq;rw[mJ]at q;rw[<-q,<-l];exact h _ (I.tok _)
theorem Lg(hu:A.units+1<cLine)(I:Inv X pins G H s)(g:wR H a y o)(ry:RelV y u)(h:∀s',Inv X pins G H s'->Q (.bool (!o.isSome)) s'):
  aV 1#2 A (compareOp .NotIn u (.ref a)) Q E s:=by
 rcases g with⟨kvs,k,e,ey,l⟩|⟨kvs,k,b,e,ey,eb,l⟩
 .subst ey
  obtain⟨z,hd,vs,rel,dd⟩:=xO I.hok e;refine wpAny_notIn_of (yc ry) hd dd.mapOf ?_;rw[<-(rel.val k).isSome_eq,<-l];exact h _ (I.tok _)
 .subst ey
  cases 24#3;obtain⟨z,hd,xs,rel,dd⟩:=AS I.hok e;refine wpAny_notIn_heap (tupleKind_room_in1 hu) (vL I.hok eb) hd dd ?_;have q:=(rel.val k).isSome_eq;rw[mJ]at q;rw[<-q,<-l];exact h _ (I.tok _)
variable{h':Heap}
theorem zv{t':Nat}{ob:HO}(I:Inv X pins G H s)(mu:Mut (H a))(hs:FE a s.heap h')(he:∃q,h'.get? a=some q)(new:eI X.prog X.w (upd H a ob) h' a ob):
  Inv X pins G (upd H a ob) { s with heap:=h',toks:=t' }:=
 I.write (x:=a) (e:=a) mu 5#5 (λb q hb z=>(hs.2 b hb).trans z) he new
theorem Iq{kvs:List (Key×V)}{vs:List (Key×Value)}(z:kvs.length<=sizeLine)(hd:18#0=false)(rel:KV kvs vs)(dd:h'.DictOf (eB P w) a vs):
  eI P w H' h' a 8#3:=⟨z,hd,vs,rel,dd⟩
theorem EY{Q:Unit->Shared->Prop}(hu:A.units+1<cLine)(I:Inv X pins G H s)(g:EN H a y v H')(ry:RelV y u)(rv:RelV v r)(h:∀s',Inv X pins G H' s'->Q () s'):
  aV 1#2 A (setItem (.ref a) u r) Q E s:=by
 rcases g with⟨kvs,k,e,ey,l,eH⟩|⟨kvs,k,b,e,ey,eb,l,eH⟩
 .subst ey eH
  obtain⟨z,hd,vs,rel,dd⟩:=M3 I.hok e;have hz:vs.length<=sizeLine:=by rw[<-rel.length];exact z
  have hl:(putK kvs k v).length<=sizeLine:=by have:=nu kvs k v;exact aC 0#4 0#4
  refine wpAny_setItem_pairs (hsz:=hz) (yc ry) dd λh' dd' hs=>h _ ?_;have he:∃q,h'.get? a=some q:=let ⟨q,_,_,hq,_⟩:=dd';⟨q,hq⟩;exact zv I (by rw[e];exact gp) hs he (Iq hl hd (rel.put k rv) dd')
 .subst ey eH
  cases 24#3;obtain⟨z,hd,xs,rel,dd⟩:=QU I.hok e;have hz:xs.length<=sizeLine:=by rw[<-Be rel];exact z
  have hl:(putK kvs k v).length<=sizeLine:=by have:=nu kvs k v;exact aC 0#4 0#4
  refine wpAny_setItem_heap (hsz:=hz) (tupleKind_room_in1 hu) (vL I.hok eb) dd λh' dd' hs=>h _ ?_;obtain⟨q,es,ep,hq,h2,h3,h4,_,h5⟩:=dd';refine zv I (by rw[e];exact gp) hs ⟨q,hq⟩ ⟨hl,hd,_,(rel.put k eb rv).keeps λc ys ec=>?_,q,es,ep,hq,h2,h3,h4,h5⟩;rw[bo (qy ec e 9#7)];exact ec
end
section
variable {X:Cx}{pins:List (Addr×Obj)}{G:St}{H:Hp}{s:Shared}{a:Addr}{kvs:List (Key×V)}{k:Key}{u:Value}{A:Around}{E:Value->Shared->Prop}
theorem Iy {Q:Value->Shared->Prop} (I:Inv X pins G H s) (e:Rd H a 8#3) (h :∀ t s',Inv X pins G H s'->Q (.int kvs.length t) s'):aV 1#2 A (call (.builtin "len") [.ref a]) Q E s:=by
 obtain⟨z,hd,vs,rel,dd⟩:=xO I.hok e;refine call_len_dict hd dd (by rw[<-rel.length];rw[sizeLine_eq]at z;omega) ?_;rw[<-rel.length];exact h _ _ (I.tok _)
end
variable{X:Cx}
theorem AZ {pins:List (Addr×Obj)}{G:St}{s:Shared}{o:Option V} (I:Inv X pins G H s) (g:wR H a y o):s.TypeIs (.ref a) "dict":=by
 rcases g with⟨kvs,k,e,_,_⟩|⟨kvs,k,b,e,_,_,_⟩
 .obtain⟨_,_,vs,_,dd⟩:=xO I.hok e
  exact dd.typeIs
 .obtain⟨_,_,xs,_,dd⟩:=AS I.hok e
  exact dd.typeIs
section
variable {X:Cx}{o i e value:Expr}{pos pos' tpos:Pos}{td ty tv:TE}
end
theorem AJ  (h:Heap) (hb:sysModules<h.objs.size):eI P w H (h.push { cls := .type "dict",data := .dict #[] }) h.objs.size (.dK []):=
 ⟨dC _,beq_eq_false_iff_ne.mpr (dZ (aW hb)),[],.nil,Heap.DictOf.new h⟩
def Iu:TE:=λ_ H Q=>∀p,H p=none->Q (.ref p) (upd H p (.dK []))
section
variable {X:Cx}{pos:Pos}
theorem GW:PE X (.Dict [] [] pos) Iu:=λpins s G H Q I h=>
 wpAny_Dict_empty ⟨.ref s.heap.objs.size,_,I.laid (a:=s.heap.objs.size) (o:= .dK []) (t':=s.toks) (λ_ _ q=>aw _ q) 0#9 (AJ s.heap I.big),rfl,h _ 15#8⟩
end
def Bm:List (TE×TE)->St->Hp->(List (V×V)->Hp->Prop)->Prop
 |[],_,H,Q=>Q [] H
 |(tk,tv)::r,G,H,Q=>tk G H λx H1=>tv G H1 λy H2=>Bm r G H2 λps H3=>Q ((x,y)::ps) H3
abbrev VV:List (V×V)->List (Value×Value)->Prop:=Paired λp q=>RelV p.1 q.1/\RelV p.2 q.2
def PPs(X:Cx)(pos:Pos)(keys:List (Option Expr))(values:List Expr)(trs:List (TE×TE)):Prop:=
 ∀(pins:List 1#9) (s:Shared) (G:St) (H:Hp) (Q:List (V×V)->Hp->Prop),Inv X pins G H s->Bm trs G H Q ->
  aV 1#2 X.A (evalPairs (pairTrees keys values X.env pos)) (λvs s'=>∃ps H',Inv X pins G H' s'/\VV ps vs/\Q ps H') X.xe s
variable{pos:Pos}
theorem J5:PPs X pos [] [] []:=λpins s G H Q I h=>pairTrees_nil_walk ⟨[],H,I,.nil,h⟩
variable{trs:List (TE×TE)}
theorem GZ{k v:Expr}{ks:List (Option Expr)}{vs:List Expr}{tk tv:TE}(hk:PE X k tk)(hv:PE X v tv)(hr:PPs X pos ks vs trs):
  PPs X pos (some k::ks) (v::vs) ((tk,tv)::trs):=λpins s G H Q I h=>
 pairTrees_cons_walk (thn (hk pins s G H _ I h) λu s1 ⟨x,H1,I1,rx,q1⟩=>thn (hv pins s1 G H1 _ I1 q1) λw2 s2 ⟨y,H2,I2,ry,q2⟩=>
  thn (hr pins s2 G H2 _ I2 q2) λws s3 ⟨ps,H3,I3,rel,q3⟩=>⟨(x,y)::ps,H3,I3,.cons ⟨rx,ry⟩ rel,q3⟩)
def sU(kvs more:List (Key×V)):List (Key×V):=more.foldl (λacc kv=>putK acc kv.1 kv.2) kvs
theorem KV.merge:∀{more:List (Key×V)}{rs:List (Key×Value)}{kvs:List (Key×V)}{vs:List (Key×Value)},KV more rs->KV kvs vs->KV (sU kvs more) (merged vs rs):=by
 intro more rs kvs vs r;unfold KV at r
 induction r generalizing kvs vs with
 |nil=>intro q;exact q
 | @cons p q ps qs h t ih=>
   intro r0;have e:KV (putK kvs p.1 p.2) (stored vs q.1 q.2):=by
    have:=r0.put p.1 h.2;rw[<-h.1];exact this
   exact ih e
theorem oS:∀(more kvs:List (Key×V)),(sU kvs more).length<=kvs.length+more.length
 |[],kvs=>by show kvs.length<=kvs.length+0;exact ak _
 | p::r,kvs=>by
   have h1:=oS r (putK kvs p.1 p.2);have h2:=nu kvs p.1 p.2;show(sU (putK kvs p.1 p.2) r).length<=_;rw[cf];omega
theorem uK{P:Program}{w:World}:∀{kvs:List (Key×V)}{ws:List (Value×Value)},VV (kvs.map λkv=>(kV kv.1,kv.2)) ws->∃rs,Carries (eB P w) ws rs/\KV kvs rs
 |[],_,r=>by rw[jr]at r;cases r;exact⟨[],gp,.nil⟩
 | p::kvs,_,r=>by
   rw[bp]at r;cases r with
   | @cons a b as bs h t=>
     obtain⟨rs,c,q⟩:=uK (P:=P) (w:=w) t;obtain⟨b1,b2⟩:=b;exact⟨(p.1,b2)::rs,⟨yc h.1,rfl,c⟩,.cons ⟨rfl,h.2⟩ q⟩
def MW(trs:List (TE×TE)):TE:=λG H Q=>∀p,H p=none->Bm trs G (upd H p (.dK [])) λps H2=>H2 p=some (.dK []) /\ ∃kvs:List (Key×V),ps=kvs.map (λkv=>(kV kv.1,kv.2))/\kvs.length<=15/\Q (.ref p) (upd H2 p (.dK (sU [] kvs)))
theorem Kb{keys:List (Option Expr)}{values:List Expr}(h:PPs X pos keys values trs)(hall:keys.all (·.isSome)=true)(hl:keys.length=values.length)(h0:keys≠[])
  (h15:keys.length<=15):PE X (.Dict keys values pos) (MW trs):=by
 intro pins s G H Q I q;have hn:=I.hok.fresh (ak s.heap.objs.size);have I1:=I.laid (a:=s.heap.objs.size) (o := .dK []) (h':=s.heap.push { cls := .type "dict",data := .dict #[] }) (t':=s.toks) (fun _ _ q=>aw _ q) 0#9 (AJ s.heap I.big);refine wpAny_Dict_walk (knd:=eB X.prog X.w) hall hl h0 h15 (thn (h pins _ G _ _ I1 (q _ hn)) λws s2 ⟨ps,H2,I2,rel,e,kvs,ep,lk,q2⟩=>?_);subst ep;obtain⟨rs,c,rk⟩:=uK (P:=X.prog) (w:=X.w) rel;obtain⟨z,hd,vs0,r0,dd⟩:=M3 I2.hok e;cases r0;refine⟨rs,c,dd,λh' dd' hs=>⟨.ref s.heap.objs.size,_,?_,rfl,q2⟩⟩;have hz:(sU [] kvs).length<=sizeLine:=by
  have h1:=oS kvs [];rw[ej]at h1;rw[sizeLine_eq];omega
 have he:∃q,h'.get? s.heap.objs.size=some q:=let ⟨q,_,_,hq,_⟩:=dd';⟨q,hq⟩;exact zv I2 (by rw[e];exact gp) hs he (Iq hz hd (rk.merge .nil) dd')
structure M1(X:Cx)(o:Expr)(m:Str)(apos:Pos)(e:Expr)(cpos:Pos):Prop where
 base:attributeBase o m X.env (eval o X.env)=eval o X.env
 few:((backTo cpos (starEach [e] X.env)).all (λx => !x.1)&&(backToKw cpos (keywordEach [] X.env)).all (λx=>x.1.isSome)
  && decide (([e]:List Expr).length+([]:List Keyword).length+(if ([]:List Keyword).isEmpty then 0 else 1)<30))=true
 line:(apos.endLine==cpos.line)=true
 trees:backTo cpos (starEach [e] X.env)=[(false,eval e X.env)]
section
variable {X:Cx}{pins:List (Addr×Obj)}{G:St}{H:Hp}{s:Shared}{a:Addr}{y d:V}{u r:Value}{o:Option V}{A:Around}{E:Value->Shared->Prop}
end
section
variable {X:Cx}{o e f:Expr}{apos cpos:Pos}{td ty tx:TE}
end
section
variable {X:Cx}{pins:List (Addr×Obj)}{G:St}{H:Hp}{s:Shared}{a:Addr}{kvs:List (Key×V)}{A:Around}{E:Value->Shared->Prop}
end
section
variable {X:Cx}{pins:List (Addr×Obj)}{G:St}{H:Hp}{s:Shared}{a:Addr}{y:V}{u:Value}{A:Around}{E:Value->Shared->Prop}
end
section
variable {X:Cx}
theorem Fp:iy X (.builtin "len") (fun xs H Q=>∃ a kvs,xs=[V.ref a]/\H a=some 8#3/\Q (.int kvs.length) H):=by
 intro pins s G H xs us Q I r h;obtain⟨a,kvs,rfl,ha,q⟩:=h;obtain⟨u,rfl,ru⟩:=vals1 r;cases ru;exact Iy I (.inl ha) λt s' I'=>⟨.int kvs.length,H,I',⟨t,rfl⟩,q⟩
end
section
variable {κ:Type} [DecidableEq κ]
end
end _L
namespace PySem
open Sem (wp)
def j6(env:Env):List 5#2->List 4#8->List 4#8
 |[],acc=>acc
 |(n,k)::r,acc=>if k==.free then j6 env r ((n,(env.cells.lookup n).getD 0)::acc) else j6 env r acc
variable{env:Env}
theorem jy{scope:Scope}(h:∀y∈scope.names,y.2=.free->∃c,env.cells.lookup y.1=some c):closureFor scope env=pure (j6 env scope.names []):=by
 simp only[closureFor];have go:∀(names:List 5#2) (acc:List 4#8),(∀y∈names,y.2=.free->∃c,env.cells.lookup y.1=some c) ->
   (forIn (m:=Sem) names acc λx r=>if (x.2==aZ)=true then cellOf env x.1 >>= λa=>pure (d5 ((x.1,a)::r)) else pure (d5 r))=pure (j6 env names acc):=by
  intro names
  induction names with
  |nil=>intro acc _;rfl
  | cons y r ih=>
    intro acc hy;obtain⟨n,k⟩:=y;rw[kU];by_cases hk:k=.free
    .subst hk
     obtain⟨c,hc⟩:=hy (n,.free) a7 rfl;have e1:cellOf env n=pure c:=by unfold cellOf;rw[hc]
     have e2:j6 env ((n,aZ)::r) acc=j6 env r ((n,c)::acc):=by
      show(if (aZ==aZ)=true then _ else _)=_;rw[if_pos 0#1,hc];rfl
     rw[e2,<-ih _ λz hz=>hy z (aD _ hz)];simp only[beq_self_eq_true,if_true,e1];rfl
    .have hb:(k==aZ)=false:=by simpa using hk
     have e2:j6 env ((n,k)::r) acc=j6 env r acc:=by
      show(if (k==aZ)=true then _ else _)=_;rw[if_neg (by rw[hb];decide)]
     rw[e2,<-ih _ λz hz=>hy z (aD _ hz)];simp only[hb,gq,if_false];rfl
 exact(congrArg (λz=>z >>= pure) (go scope.names [] h)).trans rfl
theorem rq{env:Env}:∀(names:List 5#2) (acc:List 4#8),(∀y∈names,y.2=.free->∃c,env.cells.lookup y.1=some c)->∀x c,(j6 env names acc).lookup x=some c->env.cells.lookup x=some c\/acc.lookup x=some c
 |[],_,_,_,_,h=>.inr h
 | (n,k)::r,acc,hy,x,c,h=>by
   unfold j6 at h
   split at h
   .rename_i hk
    have hk':k=.free:=by simpa using hk
    subst hk';obtain⟨d,hd⟩:=hy (n,.free) a7 rfl;rcases rq r _ (λz hz=>hy z (aD _ hz)) x c h with e |e
    .exact .inl e
    .rw[a6]at e
     cases hb:x==n with
     | true=>
       rw[hb]at e;rw[beq_iff_eq.mp hb,hd];rw[hd]at e;exact .inl e
     |false=>rw[hb]at e;exact .inr e
   .exact rq r acc (λz hz=>hy z (aD _ hz)) x c h
theorem qY{env:Env}{x:Str}:∀(names:List 5#2) (acc:List 4#8),(names.lookup x=some .free\/(acc.lookup x).isSome=true)->((j6 env names acc).lookup x).isSome=true
 |[],_,h=>h.elim (λe=>by cases e) id
 | (y,k)::r,acc,h=>by
   unfold j6;by_cases hk:(k==.free)=true
   .rw[if_pos hk]
    refine qY r ((y,(env.cells.lookup y).getD 0)::acc) ?_;by_cases hy:(x==y)=true
    .exact .inr (by rw[a6,hy];rfl)
    .refine h.imp (λe=>?_) λe=>?_
     .rw[a6]at e;simpa only [hy]using e
     .rw[a6];simpa only [hy]using e
   .rw[if_neg hk]
    refine qY r acc ?_;refine h.imp (λe=>?_) id;rw[a6]at e;cases hb:x==y with
    |true=>rw[hb]at e;cases e;exact absurd rfl hk
    |false=>rw[hb]at e;exact e
theorem fX:∀(names:List 5#2) (n:Nat) (acc:List 4#8),cellsFrom n names acc=cellsFrom n names []++acc
 |[],_,_=>rfl
 | (y,k)::r,n,acc=>by
   unfold cellsFrom
   split
   .rw[fX r (n+1) ((y,n)::acc),fX r (n+1) [(y,n)],aJ];rfl
   .exact fX r n acc
theorem k7{x:Str}:∀(names:List 5#2) (n:Nat) (acc:List 4#8) (c:Addr),(cellsFrom n names acc).lookup x=some c->(∃k∈names,k.1=x/\k.2=.cell)\/acc.lookup x=some c
 |[],_,_,_,h=>.inr h
 | (y,k)::r,n,acc,c,h=>by
   unfold cellsFrom at h
   split at h
   .rename_i hk
    rcases k7 r _ _ c h with⟨z,hz,e⟩|e
    .exact .inl ⟨z,aD _ hz,e⟩
    .rw[a6]at e
     cases hb:x==y with
     |true=>exact .inl ⟨(y,k),a7,(beq_iff_eq.mp hb).symm,by simpa using hk⟩
     |false=>rw[hb]at e;exact .inr e
   .rcases k7 r _ _ c h with⟨z,hz,e⟩|e
    .exact .inl ⟨z,aD _ hz,e⟩
    .exact .inr e
section
variable {M:Model}{A:Around}{E:Value->Shared->Prop}{s:Shared}
theorem qH{scope:Scope}{globals:Addr}{cl:List (Str×Addr)}{qual:Str}{Q:Env->Shared->Prop}
  (hQ:Q { scope:=scope,locals:=s.heap.objs.size,globals:=globals,cells:=cellsFrom (s.heap.objs.size+1) scope.names cl,qual:=qual,func:=none,code:=env.code,frame:=env.frame,builtins:=env.builtins }
   { s with heap:=pushCells (s.heap.push { cls := .type "dict",data := .dict #[] }) scope.names }) :
  aV M A (newFunctionEnv scope globals cl [] qual none .none (some env)) Q E s:=by
 simp only[newFunctionEnv,Jz,if_true];refine av (wpAny_alloc ?_);refine av (wpAny_layCells _ (λname kind cells=>by cases hkc:kind==dr<;>simp[hkc]) _ _ _ _ ?_);rw [show ({ s with heap:=s.heap.push { cls := .type "dict",data := .dict #[] } }:Shared).heap.objs.size=s.heap.objs.size+1 from bR ..];exact aG hQ
end
section
variable {prog:Program}{w:World}{A:Around}{R:Result->Shared->Prop}{s:Shared}
theorem nk{elt target iter:Expr}{ifs:List Expr}{scope:Scope}{pos:Pos}{it acc:Value}(I:Nat->Shared->Prop)
  (turn: ∀n s,I n s->aV 4#1 A (pyNext it) (λr s₁=>match r with
   |none=>R (.ok .next) s₁
   | some v=>aV 4#1 A (letOwnedTupleGo target it v) (λ_ s₁=>aV 4#1 A (assign target env v) (λ_ s₂=>
     aV 4#1 A (forIn ifs true λc r=>if r=true then do let ok <- isTrue c env (eval c env);pure (d5 ok) else pure (d5 r)) (λok s₃=>
      if ok=true then aV 4#1 A (eval elt env) (λx s₄=>
       aV (model prog w) A (call (.builtin "list.append") [acc,x]) (fun _ s₅ => ∃ m,m < n/\I m s₅) (fun _ _=>False) s₄) (fun _ _=>False) s₃
      else ∃m,m<n/\I m s₃) (λ_ _=>False) s₂) (λ_ _=>False) s₁) (λ_ _=>False) s₁) (λ_ _=>False) s)
  (n:Nat) (h:I n s):
  o5 4#1 A (.compLoop (.ListComp elt [⟨target,iter,ifs,0⟩] scope pos) 0 it acc env) R s:=by
 refine codeAny_loop rfl I (λn s hI=>?_) n h;show aV _ A ((compTurn (.ListComp elt [⟨target,iter,ifs,0⟩] scope pos) 0 it acc env).onRaise (λx=>do noteFrame x env;theTreesLotGoes x)) _ _ s;refine wpAny_noted ?_;rw[compTurn_list];refine av (wpAny_standAt (av (cj (turn n s hI) (λr s₁ h₁=>?_) λ_ _ h'=>h'.elim)));cases r with
 |none=>exact aG h₁
 | some v=>
   refine av (cj h₁ (λ_ s₁ h₁=>?_) λ_ _ h'=>h'.elim);refine av (cj h₁ (λ_ s₂ h₂=>av (cj h₂ (λok s₃ h₃=>?_) λ_ _ h'=>h'.elim)) λ_ _ h'=>h'.elim);cases ok with
   |false=>exact aG ⟨rfl,h₃⟩
   | true=>
     exact av (av (cj h₃ (λx s₄ h₄=>av (cj h₄ (λ_ s₅ h₅=>aG (aG ⟨rfl,h₅⟩)) λ_ _ h'=>h'.elim)) λ_ _ h'=>h'.elim))
end
end PySem
namespace _G
open PySem
inductive U where
 |non |bl (b:Bool) |int (i:Int) |str (x:Str) |tup (us:List U) |ref (n:Nat) |obj (a:Addr)
 deriving Inhabited
inductive Cell where
 |lst (us:List U)
 |frz (us:List U)
 |dic (kvs:List (_L.Key×U))
 |dit (f:Bool) (kvs:List (List _L.Key×U))
 deriving Inhabited
abbrev Sto:=List Cell
abbrev Rho:=List (Option U)
abbrev Res(α:Type):=Option (α×Sto)
abbrev ME:=Rho->Sto->Res U
abbrev MT:=Rho->Sto->Res Bool
abbrev MA:=Rho->Sto->Res (List U)
abbrev MF:=List U->Sto->Res U
def bnd{α β:Type}(r:Option (α×Sto))(k:α->Sto->Option β):Option β:=match r with
 |none=>none
 |some p=>k p.1 p.2
theorem az{α β:Type}{a:α}{S:Sto}{k:α->Sto->Option β}:bnd (some (a,S)) k=k a S:=rfl
theorem ba{α β:Type}{r:Option (α×Sto)}{k:α->Sto->Option β}{b:β}(h:bnd r k=some b):∃a S,r=some (a,S)/\k a S=some b:=by
 cases r with
 |none=>cases h
 |some p=>exact⟨p.1,p.2,rfl,h⟩
def big:Nat:=16777216
def getL(S:Sto)(n:Nat):Option (List U):=match S[n]? with
 |some (.lst us)=>some us
 |some (.frz us)=>some us
 |some (.dic _)=>none
 |some (.dit _ _)=>none
 |none=>none
def cut{α:Type}(xs:List α)(lo hi:Option Int):List α:=(xs.drop (HT.sIx xs.length 0 lo)).take 25#2
abbrev F2:=U->U->Sto->Res U
def cK:F2:=λx y S=>match x,y with
 |.int i,.int j=>some (.int (i+j),S)
 |.tup xs,.tup ys=>if xs.length+ys.length<=big then some (.tup (xs++ys),S) else none
 | .ref n,.ref m=>match S[n]?,S[m]? with
   |some (.lst xs),some (.lst ys)=>if xs.length+ys.length<=big then some (.ref S.length,S++[.lst (xs++ys)]) else none
   |_,_=>none
 |_,_=>none
def sQ:F2:=λx y S=>match x,y with
 |.int i,.int j=>some (.int (i-j),S)
 |_,_=>none
def kG(i j:Int):Prop:=(-(2^64)<i/\i<2^64)\/(-(2^64)<j/\j<2^64)
instance(i j:Int):Decidable (kG i j):=cp _
def Cy(n:Nat)(k:Int):Prop:=0<=k/\k<1000/\0<n/\n<1000
instance(n:Nat)(k:Int):Decidable (Cy n k):=cp _
def gv:F2:=λx y S=>match x,y with
 |.int i,.int j=>if kG i j then some (.int (i*j),S) else none
 |.tup xs,.int k=>if Cy xs.length k then some (.tup (aR k.toNat xs).flatten,S) else none
 |_,_=>none
def vA(j:Int):Prop:=0<j/\j<1073741824
instance(j:Int):Decidable (vA j):=cp _
def oDiv:F2:=λx y S=>match x,y with
 |.int i,.int j=>if vA j then some (.int (i/j),S) else none
 |_,_=>none
def oMod:F2:=λx y S=>match x,y with
 |.int i,.int j=>if 0<j then some (.int (i%j),S) else none
 |_,_=>none
def Ml(i j:Int):Prop:=0<=j/\j<=1000000/\i.natAbs<2^64
instance(i j:Int):Decidable (Ml i j):=cp _
def zd:F2:=λx y S=>match x,y with
 |.int i,.int j=>if Ml i j then some (.int (i^j.toNat),S) else none
 |_,_=>none
def EC(p:Int->Int->Bool):F2:=λx y S=>match x,y with
 |.int i,.int j=>some (.bl (p i j),S)
 |_,_=>none
abbrev oLt:F2:=EC λi j=>decide (i<j)
abbrev oLe:F2:=EC λi j=>decide (i<=j)
abbrev oGt:F2:=EC λi j=>decide (j<i)
abbrev oGe:F2:=EC λi j=>decide (j<=i)
def eC(S:Sto):U->Option (List U)
 |.tup us=>some us
 |.ref n=>getL S n
 |_=>none
def dS{α β:Type}(f:α->Option β):List α->Option (List β)
 |[]=>some []
 |x::xs=>(f x).bind λy=>(dS f xs).map λys=>y::ys
def toD(S:Sto):Nat->U->Option PyData
 |0,_=>none
 |_+1,.non=>some .none
 |_+1,.bl b=>some (.bool b)
 |_+1,.int i=>some 3#6
 |_+1,.str x=>if d6 (.str x)=true then some (.str x) else none
 |f+1,.tup us=>(dS (toD S f) us).map .tuple
 |f+1,.ref n=>(getL S n).bind λus=>(dS (toD S f) us).map .list
 |_+1,.obj _=>none
def eqU(S:Sto)(x y:U):Option Bool:=(toD S 40 x).bind λa=>(toD S 40 y).map λb=>lC a b
def oEq:F2:=λx y S=>(eqU S x y).map λb=>(.bl b,S)
def oNe:F2:=λx y S=>(eqU S x y).map λb=>(.bl (!b),S)
def keyOf:U->Option _L.Key
 |.int i=>some (.inl i)
 |.str x=>some (.inr x)
 |_=>none
def kf{κ:Type} [DecidableEq κ] (kvs:List (κ×U)) (k:κ):Option U:=(kvs.find? λkv=>decide (kv.1=k)).map (·.2)
def lq{κ:Type} [DecidableEq κ] (kvs:List (κ×U)) (k:κ) (u:U):List (κ×U):=
 if 22#9=true then kvs.map (λkv=>if kv.1=k then(kv.1,u) else kv) else kvs++[(k,u)]
def ft(S:Sto):U->Option (List (_L.Key×U))
 | .ref n=>match S[n]? with
   |some (.dic kvs)=>some kvs
   |_=>none
 |_=>none
def oIx:F2:=λx y S=>match ft S x with
 |some kvs=>(keyOf y).bind λk=>(kf kvs k).map λu=>(u,S)
 | none=>match y with
   |.int i=>((eC S x).bind λus=>_L.atI us i).map λu=>(u,S)
   |_=>none
def ae(i:Nat):ME:=λY S=>match Y[i]? with
 |some (some u)=>some (u,S)
 |_=>none
def mC(u:U):ME:=λ_ S=>some (u,S)
def m1(f:U->Sto->Res U)(a:ME):ME:=λY S=>bnd 5#6 λx S1=>f x S1
def m2(f:F2)(a b:ME):ME:=λY S=>bnd 5#6 λx S1=>bnd (b Y S1) λy S2=>f x y S2
def af:MA:=λ_ S=>some ([],S)
def aa(a:ME)(r:MA):MA:=λY S=>bnd 5#6 λx S1=>bnd (r Y S1) λxs S2=>some (x::xs,S2)
def de(a:MA):ME:=λY S=>bnd 5#6 λxs S1=>if xs.length<=big then some (.tup xs,S1) else none
def bH(a:MA):ME:=λY S=>bnd 5#6 λxs S1=>if xs.length<=big then some (.ref S1.length,S1++[.lst xs]) else none
def mFn(f:MF)(a:MA):ME:=λY S=>bnd 5#6 λxs S1=>f xs S1
def fZ:U->Sto->Res U:=λx S=>match x with
 |.int i=>some (.int (-i),S)
 |_=>none
def so(c:MT)(a b:ME):ME:=λY S=>bnd (c Y S) λk S1=>if k then a Y S1 else b Y S1
def uU:Option ME->Rho->Sto->Res (Option Int)
 |none=>λ_ S=>some (none,S)
 | some a=>λY S=>bnd 5#6 λx S1=>match x with
   |.int i=>some (some i,S1)
   |_=>none
def mSl(a:ME)(lo hi:Option ME):ME:=λY S=>bnd 5#6 λx S1=>bnd (uU lo Y S1) λl S2=>bnd (uU hi Y S2) λh S3=>match x with
 |.tup us=>some (.tup (cut us l h),S3)
 |.ref n=>(getL S3 n).map λus=>(.ref S3.length,S3++[.lst (cut us l h)])
 |_=>none
def cOf(a:ME):MT:=λY S=>bnd 5#6 λx S1=>match x with
 |.bl b=>some (b,S1)
 |_=>none
def wZ(a b:MT):MT:=λY S=>bnd 5#6 λk S1=>if k then b Y S1 else some (false,S1)
def cOr(a b:MT):MT:=λY S=>bnd 5#6 λk S1=>if k then some (true,S1) else b Y S1
def jL(a:MT):MT:=λY S=>bnd 5#6 λk S1=>some (!k,S1)
def cTT:MT:=λ_ S=>some (true,S)
inductive Src where
 |imm (us:List U)
 |mut (n:Nat)
 |enl (n:Nat)
 |zlt (n:Nat) (us:List U)
abbrev MI:=Rho->Sto->Option (Src×Sto)
def okR(i:Int):Prop:= -(2^62)<=i/\i<2^62
instance(i:Int):Decidable (okR i):=cp _
def br(i:Int)(n:Nat):List U:=(ay n).map λ(k:Nat)=>.int (i+k)
def iR1(a:MA):MI:=λY S=>bnd 5#6 λxs S1=>match xs with
 |[.int j]=>if okR j then some (.imm (br 0 j.toNat),S1) else none
 |_=>none
def iR2(a:MA):MI:=λY S=>bnd 5#6 λxs S1=>match xs with
 |[.int i,.int j]=>if okR i/\okR j then some (.imm (br i (j-i).toNat),S1) else none
 |_=>none
def b0(a:ME):MI:=λY S=>bnd 5#6 λx S1=>match x with
 |.tup us=>some (.imm us,S1)
 |.ref n=>(getL S1 n).map λ_=>(.mut n,S1)
 |_=>none
def mO(a:MA):MI:=λY S=>bnd 5#6 λxs S1=>match xs with
 |[.ref n]=>(getL S1 n).map λ_=>(.enl n,S1)
 |_=>none
def gS(t:MT)(e:ME)(Y:Rho):List U->List U->Sto->Res (List U)
 |[],acc,S=>some (acc,S)
 |x::xs,acc,S=>bnd (t (Y++[some x]) S) λk S1=>if k then bnd (e (Y++[some x]) S1) λy S2=>gS t e Y xs (acc++[y]) S2 else gS t e Y xs acc S1
def iR(t:MT)(e:ME)(Y:Rho)(n:Nat):Nat->Nat->List U->Sto->Res (List U)
 |0,_,_,_=>none
 | f+1,i,acc,S=>(getL S n).bind λus=>match us[i]? with
   |none=>some (acc,S)
   |some x=>bnd (t (Y++[some x]) S) λk S1=>if k then bnd (e (Y++[some x]) S1) λy S2=>iR t e Y n f (i+1) (acc++[y]) S2 else iR t e Y n f (i+1) acc S1
def fuel:Nat:=100000
def wj(t:MT)(e:ME)(Y:Rho):Src->Sto->Res (List U)
 |.imm us,S=>gS t e Y us [] S
 |.mut n,S=>iR t e Y n fuel 0 [] S
 |_,_=>none
def bK(it:MI)(t:MT)(e:ME):ME:=λY S=>bnd (it Y S) λsrc S1=>bnd (wj t e Y src S1) λys S2=>if ys.length<big then some (.ref S2.length,S2++[.lst ys]) else none
inductive Fl where
 |nx |rt (u:U) |bk |ct
abbrev MS:=Rho->Sto->Option (Fl×Rho×Sto)
def cW:MS:=λY S=>some (.nx,Y,S)
def aX(a b:MS):MS:=λY S=>match a Y S with
 |some (.nx,Y1,S1)=>b Y1 S1
 |r=>r
def bu(i:Nat)(e:ME):MS:=λY S=>bnd (e Y S) λx S1=>some (.nx,Y.set i (some x),S1)
def eM(o i e:ME):MS:=λY S=>bnd (e Y S) λx S1=>bnd (o Y S1) λp S2=>bnd (i Y S2) λj S3=>match p with
 | .ref n=>match S3[n]? with
   | some (.lst us)=>(match j with
     |.int k=>(_L.ixN us.length k).map λm=>(.nx,Y,S3.set n (.lst (us.set m x)))
     | _=>none)
   |some (.dic kvs)=>(keyOf j).bind λk=>if kvs.length<big then some (.nx,Y,S3.set n (.dic (lq kvs k x))) else none
   |_=>none
 |_=>none
def du(e:ME):MS:=λY S=>bnd (e Y S) λ_ S1=>some (.nx,Y,S1)
def cb(e:ME):MS:=λY S=>bnd (e Y S) λx S1=>some (.rt x,Y,S1)
def sIf(c:MT)(a b:MS):MS:=λY S=>bnd (c Y S) λk S1=>if k then a Y S1 else b Y S1
def aft(r:Option (Fl×Rho×Sto))(k:MS):Option (Fl×Rho×Sto):=match r with
 |some (.nx,Y1,S1)=>k Y1 S1
 |some (.ct,Y1,S1)=>k Y1 S1
 |some (.bk,Y1,S1)=>some (.nx,Y1,S1)
 |r=>r
def yU(i:Nat)(b:MS):List U->MS
 |[],Y,S=>some (.nx,Y,S)
 |x::xs,Y,S=>aft (b (Y.set i (some x)) S) (yU i b xs)
def forL(i:Nat)(b:MS)(n:Nat):Nat->Nat->MS
 |0,_,_,_=>none
 | f+1,k,Y,S=>(getL S n).bind λus=>match us[k]? with
   |none=>some (.nx,Y,S)
   |some x=>aft (b (Y.set i (some x)) S) (forL i b n f (k+1))
def UA(i:Nat)(b:MS):Src->MS
 |.imm us=>yU i b us
 |.mut n=>forL i b n fuel 0
 |_=>λ_ _=>none
def ee(i:Nat)(it:MI)(b:MS):MS:=λY S=>bnd (it Y S) λsrc S1=>UA i b src Y S1
def whl(c:MT)(b:MS):Nat->MS
 |0,_,_=>none
 |f+1,Y,S=>bnd (c Y S) λk S1=>if k then aft (b Y S1) (whl c b f) else some (.nx,Y,S1)
def jx(c:MT)(b:MS):MS:=whl c b fuel
def run(k n:Nat)(b:MS):MF:=λus S=>if us.length=k then match b 23#0 S with
  |some (.rt u,_,S1)=>some (u,S1)
  |some (.nx,_,S1)=>some (.non,S1)
  |_=>none
 else none
def bG:MF:=λus S=>match us with
 | [x]=>(match ft S x with
   |some kvs=>some (.int kvs.length,S)
   | none=>(eC S x).map λxs=>(.int xs.length,S))
 |_=>none
def bC:MF:=λus S=>match us with
 |[x]=>(eC S x).map λxs=>(.tup xs,S)
 |_=>none
def zI:MF:=λus S=>match us with
 |[.int i,.int j]=>some (.int (if j>i then j else i),S)
 |_=>none
def tS:MF:=λus S=>match us with
 |[.int i,.int j]=>some (.int (if j<i then j else i),S)
 |_=>none
def gy(it:MI):ME:=λY S=>bnd (it Y S) λsrc S1=>match src with
 |.imm us=>if us.length<=big then some (.ref S1.length,S1++[.lst us]) else none
 |_=>none
def vP(it:MI):ME:=λY S=>bnd (it Y S) λsrc S1=>match src with
 |.imm us=>if us.length<=big then some (.tup us,S1) else none
 |_=>none
def tyU(S:Sto):U->Option String
 |.non=>some "NoneType"
 |.bl _=>some "bool"
 |.int _=>some "int"
 |.str _=>some "str"
 |.tup _=>some "tuple"
 | .ref n=>match S[n]? with
   |some (.lst _)=>some "list"
   |some (.dic _)=>some "dict"
   |_=>none
 |.obj _=>none
def pV(d:PyData):Prop:=d.showable=true/\d.shown.length<=sizeLine
instance(d:PyData):Decidable (pV d):=cp _
def oR:MF:=λus S=>match us with
 |[x]=>(toD S 40 x).bind λd=>if pV d then some (.str d.shown,S) else none
 |_=>none
def K3 (t T:String):Bool:=t==T||(t == "bool"&&T == "int")
def iW(T:String):U->Sto->Res U:=λx S=>(tyU S x).map λt=>(.bl (K3 t T),S)
def mML(f:Nat->List U->Sto->Res U)(o:ME)(a:MA):ME:=λY S=>bnd (o Y S) λp S1=>match p with
 |.ref n=>(getL S1 n).bind λ_=>bnd (a Y S1) λxs S2=>f n xs S2
 |_=>none
def bF:Nat->List U->Sto->Res U:=λn xs S=>match xs with
 | [x]=>match S[n]? with
   |some (.lst us)=>if us.length<big then some (.non,S.set n (.lst (us++[x]))) else none
   |_=>none
 |_=>none
def lb:Nat->List U->Sto->Res U:=λn xs S=>match xs with
 | [.int i]=>match S[n]? with
   |some (.lst us)=>if okR i then(_L.ixN us.length i).bind λj=>us[j]?.map λy=>(y,S.set n (.lst (us.eraseIdx j))) else none
   |_=>none
 |_=>none
def nc:Nat->List U->Sto->Res U:=λn xs S=>match xs with
 | []=>match S[n]? with
   |some (.lst us)=>us[us.length-1]?.map λy=>(y,S.set n (.lst us.dropLast))
   |_=>none
 |_=>none
def mMT(f:List U->List U->Sto->Res U)(o:ME)(a:MA):ME:=λY S=>bnd (o Y S) λp S1=>match p with
 |.tup us=>bnd (a Y S1) λxs S2=>f us xs S2
 |_=>none
end _G
namespace _L
open PySem PySem.Spec PyProof.Rows
def blk(X:Cx)(N':List Str)(scope:Scope)(s₂:Shared)(H₂:Hp)(fp:List Addr):Cx:=
 { X with
  N:=N'
  s₀:=s₂
  H₀:=H₂
  env:={ scope:=relabel scope X.env,locals:=s₂.heap.objs.size+1,globals:=X.env.globals,cells:=cellsFrom (s₂.heap.objs.size+2) scope.names (j6 X.env scope.names []),qual:=X.env.qual,func:=none,code:=X.env.code,frame:=X.env.frame,builtins:=X.env.builtins }
  outer:=X.stack
  ex:=fp
  fn:=λx=>scope.names.lookup x==some .cell
  pn:= []
  xe:=λ_ _=>False }
structure iH(X:Cx)(N':List Str)(scope:Scope)(xs:List Str):Prop where
 kind:scope.kind=.function
 nd:(scope.names.map (·.1)).Nodup
 free:∀y∈scope.names,y.2=.free->X.env.kindOf y.1=some .cell\/X.env.kindOf y.1=some .free
 own:∀x∈xs,scope.names.lookup x=some .local\/scope.names.lookup x=some .cell
 ndN:N'.Nodup
 len:N'.length=X.N.length+xs.length
 last:∀(j:Nat) (x:Str),xs[j]?=some x->N'[X.N.length+j]?=some x
 vis:∀(i:Nat) (y:Str),i<X.N.length->N'[i]?=some y->(scope.names.lookup y=some .local\/scope.names.lookup y=some .cell\/scope.names.lookup y=some .free)->X.N[i]?=some y/\scope.names.lookup y=some .free
theorem iE{env:Env}:∀{names:List (Str×NameKind)}{x:Str}{k:NameKind},
  (names.map λ(n,k)=>if 18#3 then(n,dr) else(n,k)).lookup x=some k ->
  names.lookup x=some k\/(names.lookup x=some .free/\k=.cell)
 |[],_,_,h=>by simp at h
 | (n,k')::r,x,k,h=>by
   have ih:= @iE env r x k;have h':rK x (22#4::(r.map λ(n,k)=>if 18#3 then(n,dr) else(n,k)))=some k:=h;by_cases hc:21#1=true
   .rw[if_pos hc]at h'
    rw[a6]at h' ⊢;cases hx:x==n with
    | true=>
      rw[hx]at h';have hk:k'=.free:=by
       rw[ar,ar]at hc;simpa using hc.1.1
      subst hk;exact .inr ⟨rfl,(b9 h').symm⟩
    |false=>rw[hx]at h';exact ih h'
   .rw[if_neg hc]at h'
    rw[a6]at h' ⊢;cases hx:x==n with
    |true=>rw[hx]at h';exact .inl h'
    |false=>rw[hx]at h';exact ih h'
theorem jM{env:Env}:∀{names:List (Str×NameKind)}{x:Str},names.lookup x=some .cell ->
  (names.map λ(n,k)=>if 18#3 then(n,dr) else(n,k)).lookup x=some .cell
 |[],_,h=>by simp at h
 | (n,k')::r,x,h=>by
   have ih:= @jM env r x;show rK x (22#4::_)=_;rw[a6]at h;cases hx:x==n with
   | true=>
     rw[hx]at h;cases h;simp[a6,hx]
   | false=>
     rw[hx]at h;by_cases hc:21#1=true
     .rw[if_pos hc];simp only[a6,hx];exact ih h
     .rw[if_neg hc];simp only[a6,hx];exact ih h
theorem mE{env:Env}:∀{names:List (Str×NameKind)}{x:Str},names.lookup x=some .free ->
  (names.map λ(n,k)=>if 18#3 then(n,dr) else(n,k)).lookup x=some .cell \/
  (names.map λ(n,k)=>if 18#3 then(n,dr) else(n,k)).lookup x=some .free
 |[],_,h=>by simp at h
 | (n,k')::r,x,h=>by
   have ih:= @mE env r x;show rK x (22#4::_)=_\/rK x (22#4::_)=_;rw[a6]at h;by_cases hc:21#1=true
   .rw[if_pos hc]
    cases hx:x==n with
    |true=>exact .inl (by simp[a6,hx])
    | false=>
      rw[hx]at h;simp only[a6,hx];exact ih h
   .rw[if_neg hc]
    cases hx:x==n with
    |true=>rw[hx]at h;cases h;exact .inr (by simp[a6,hx])
    | false=>
      rw[hx]at h;simp only[a6,hx];exact ih h
theorem qo{env:Env}:∀{names:List (Str×NameKind)}{x:Str},names.lookup x=some .globalImplicit ->
  (names.map λ(n,k)=>if 18#3 then(n,dr) else(n,k)).lookup x=some .globalImplicit
 |[],_,h=>by simp at h
 | (n,k')::r,x,h=>by
   have ih:= @qo env r x;show rK x (22#4::_)=_;rw[a6]at h;cases hx:x==n with
   | true=>
     rw[hx]at h;cases h;simp[a6,hx]
   | false=>
     rw[hx]at h;by_cases hc:21#1=true
     .rw[if_pos hc];simp only[a6,hx];exact ih h
     .rw[if_neg hc];simp only[a6,hx];exact ih h
theorem lN:∀{names:List (Str×NameKind)}{x:Str}{k:NameKind},(names.map 2#2).Nodup->(x,k)∈names->names.lookup x=some k
 |[],_,_,_,h=>by simp at h
 | (n,k')::r,x,k,nd,h=>by
   rw[bp,iM]at nd;rw[a6];rcases a9.mp h with e|h2
   .cases e;simp
   .have hne:x≠n:=by
     intro e;subst e;exact nd.1 (aQ.mpr ⟨(x,k),h2,rfl⟩)
    have hb:(x==n)=false:=beq_eq_false_iff_ne.mpr hne;rw[hb];exact lN nd.2 h2
variable{X:Cx}{n:Nat}
theorem lG{scope:Scope}(hf:∀y∈scope.names,y.2=.free->∃c,X.env.cells.lookup y.1=some c){x:Str}{c:Addr}
  (h:(cellsFrom n scope.names 23#4).lookup x=some c):(cellsFrom n scope.names []).lookup x=some c\/X.env.cells.lookup x=some c:=by
 rw[fX,iS]at h;cases q:(cellsFrom n scope.names []).lookup x with
 |some d=>rw[q]at h;exact .inl h
 | none=>
   rw[q]at h;have h':(j6 X.env scope.names []).lookup x=some c:=h;rcases rq scope.names [] hf x c h' with e|e
   .exact .inr e
   .cases e
section
variable {X:Cx}{pins:List (Addr×Obj)}{G:St}{H₂:Hp}{s₂:Shared}{N':List Str}{scope:Scope}{xs:List Str}{fp:List Addr}
theorem iH.frees(C:iH X N' scope xs)(ok:X.Ok):∀y∈scope.names,y.2=.free->∃c,X.env.cells.lookup y.1=some c:=λy hy e=>ok.has y.1 (C.free y hy e)
theorem JW(C:iH X N' scope xs){y:Str}(h:scope.names.lookup y=some .cell\/scope.names.lookup y=some .free):∃c,(cellsFrom n scope.names 23#4).lookup y=some c:=by
 refine dM.mp (i4 scope.names n _ ?_);rcases h with h|h
 .exact .inl h
 .exact .inr (qY scope.names [] (.inl h))
theorem Pp(I:Inv X pins G H₂ s₂)(C:iH X N' scope xs)(hfp:∀b∈fp,wL X pins H₂ b)(hlt:∀b∈fp,b<s₂.heap.objs.size):(blk X N' scope s₂ H₂ fp).Ok:=by
 have own:∀y c,(cellsFrom 12#8 scope.names []).lookup y=some c->s₂.heap.objs.size+2<=c:=λy c h=>by
  have ok:=cellsFrom_ok scope.names ((s₂.heap.push default).push default) 12#8 [] ⟨λ_ _ hm=>(nomatch hm),iB⟩ (by rw[bR,bR];exact ak _);rw[bR,bR]at ok;exact(ok.empty y c (cy h)).2
 have apart:(cellsFrom 12#8 scope.names []).Pairwise λx y=>x.2≠y.2:=by
  have ok:=cellsFrom_ok scope.names ((s₂.heap.push default).push default) 12#8 [] ⟨λ_ _ hm=>(nomatch hm),iB⟩ (by rw[bR,bR];exact ak _);rw[bR,bR]at ok;exact ok.apart
 have old:∀y c,X.env.cells.lookup y=some c->c<s₂.heap.objs.size:=λy c h=>by obtain⟨v,z⟩:=I.cell y c h;exact z.lt
 refine⟨I.ok.mod,C.kind,I.ok.glob,I.ok.blt,dc _,λy z c h1 h2=>?_,λy hy=>?_,λy c hy h=>?_,I.ok.hd,I.ok.frames,.inl rfl,λb hb=>⟨?_,λy c h z=>?_⟩,I.bs,aC I.ok.bsz I.sz,λb o e hb=>?_,λb hb z=>?_,I.stack,I.stkFree⟩
 .rcases lG 14#7 h1 with a|a<;>rcases lG 14#7 h2 with b|b
  .exact name_of_addr apart (cy a) (cy b)
  .exact absurd (aj (old z c b) (aC (eF _ 2) (own y c a))) (bO _)
  .exact absurd (aj (old y c a) (aC (eF _ 2) (own z c b))) (bO _)
  .exact I.ok.inj y z c a b
 .have hy:(relabel scope X.env).names.lookup y=some .cell\/(relabel scope X.env).names.lookup y=some .free:=hy
  refine JW C ?_;rcases hy with hy|hy
  .rcases iE hy with e|⟨e,_⟩
   .exact .inl e
   .exact .inr e
  .rcases iE hy with e|⟨e,_⟩
   .exact .inr e
   .exact .inr e
 .have hy':scope.names.lookup y=some .cell:=by simpa [blk]using hy
  have h':(cellsFrom 12#8 scope.names 23#4).lookup y=some c:=h;rw[fX,iS]at h';have q:=dM.mp (i4 scope.names 12#8 [] (.inl hy'));obtain⟨d,hd⟩:=q;rw[hd]at h';have e:d=c:=b9 h';subst e;have:=own y d hd;show s₂.heap.objs.size<=d;omega
 .have:=hlt b hb
  exact aW (eg this)
 .have:=hlt b hb
  rcases lG 14#7 h with a|a
  .exact absurd (aj this (aC (eF _ 2) (z▸own y c a))) (bO _)
  .exact(hfp b hb).2.2.2.2.1 y c a z
 .have z:=(hfp b hb).2.2.2.1
  rcases z with z|z
  .exact I.ok.noex b o e z
  .exact absurd (aj (aK e) (aC I.ok.bsz z)) (bO _)
 .rcases a9.mp (I.stkSub b z) with e|e
  .exact(hfp b hb).2.1 e
  .exact(hfp b hb).2.2.1 e
theorem EJ(I:Inv X pins G H₂ s₂)(C:iH X N' scope xs)(hfp:∀b∈fp,wL X pins H₂ b)(hlt:∀b∈fp,b<s₂.heap.objs.size){lo do':Obj}(hdo:do'.data=.dict #[])(hdo2:do'.isFreed=false)(hlo:lo.isFreed=false):
  Inv 7#1 [] 13#9 H₂ { s₂ with heap:=pushCells ((s₂.heap.push lo).push do') scope.names }:=by
 have sz:((s₂.heap.push lo).push do').objs.size=s₂.heap.objs.size+2:=by rw[bR,bR]
 have okc:=cellsFrom_ok scope.names ((s₂.heap.push lo).push do') 12#8 [] ⟨λ_ _ hm=>(nomatch hm),iB⟩ (by rw[sz];exact ak _);rw[sz]at okc;have kp:∀b o,s₂.heap.get? b=some o->(pushCells ((s₂.heap.push lo).push do') scope.names).get? b=some o:=λb o e=>pushCells_keeps _ _ b o (aw _ (aw _ e))
 have hL:(pushCells ((s₂.heap.push lo).push do') scope.names).get? (s₂.heap.objs.size+1)=some do':=pushCells_keeps _ _ _ _ (by
  have e:s₂.heap.objs.size+1=(s₂.heap.push lo).objs.size:=by rw[bR]
  rw[e];exact aL _ hdo2)
 refine⟨Pp I C hfp hlt,rfl,I.bare,Un.kept kp,⟨λ_=>none,⟨do',#[],_,hL,hdo,λe he=>by simp at he,λ_=>rfl⟩,λi y v h1 h2 h3=>?_⟩,λy c h=>?_,I.hok.fresh (dc _),λy c h=>?_,λp hp=>absurd (show p∈([]:List 1#9) from hp) 0#8,I.hok.kept kp,?_⟩
 .have hi:i<X.N.length:=by
   by_cases hi:i<X.N.length
   .exact hi
   .rw[aq (by rw[I.len];exact bA 0#4),i5]at h2
    split at h2<;>simp at h2
  rw[aM (by rw[I.len];exact hi)]at h2;have hv:scope.names.lookup y=some .local\/scope.names.lookup y=some .cell\/scope.names.lookup y=some .free:=by
   rcases h3 with h3|h3|h3<;>rcases iE h3 with e|⟨e,e'⟩
   .exact .inl e
   .cases e'
   .exact .inr (.inl e)
   .exact .inr (.inr e)
   .exact .inr (.inr e)
   .cases e'
  obtain⟨hN,hfr⟩:=C.vis i y hi h1 hv;have hmem:(y,aZ)∈scope.names:=cy hfr;have hk:=C.free _ hmem rfl;have vis:Vis X.env.scope y:= .inr hk;obtain⟨m,hn,hl⟩:=I.loc;obtain⟨u,r,l⟩:=hl i y v hN h2 vis;refine⟨u,r,.inr ⟨mE hfr,?_⟩⟩;rcases l with⟨hk',_⟩|⟨_,c,hc,hcell⟩
  .rcases hk with hk|hk
   .rw[hk]at hk';cases hk'
   .rw[hk]at hk';cases hk'
  .have nown:(cellsFrom 12#8 scope.names []).lookup y=none:=by
    cases q:(cellsFrom 12#8 scope.names []).lookup y with
    |none=>rfl
    | some d=>
      rcases k7 scope.names _ _ d q with⟨z,hz,e1,e2⟩|e
      .obtain⟨z1,z2⟩:=z
       simp only at e1 e2;subst e1;subst e2;exact absurd (lN C.nd hz) (by rw[hfr];simp)
      .cases e
   obtain⟨d,hd⟩:=dM.mp (qY (env:=X.env) (x:=y) scope.names [] (.inl hfr));have hd':X.env.cells.lookup y=some d:=by
    rcases rq scope.names [] 14#7 y d hd with e|e
    .exact e
    .cases e
   rw[hc]at hd';cases hd';refine⟨c,?_,hcell.keeps kp⟩;show(cellsFrom 12#8 scope.names 23#4).lookup y=some c;rw[fX,iS,nown];exact hd
 .rcases lG 14#7 h with a|a
  .exact⟨none,(okc.empty y c (cy a)).1⟩
  .obtain⟨v,z⟩:=I.cell y c a
   exact⟨v,z.keeps kp⟩
 .rcases lG 14#7 h with a|a
  .exact I.hok.fresh (aC (eF _ 2) (okc.empty y c (cy a)).2)
  .exact I.freeC y c a
 .show(G++aR xs.length none).length=N'.length
  rw[a8,jW,I.len,C.len]
end
def PTs(X:Cx)(ifs:List Expr)(t:TT):Prop:=
 ∀(pins:List 1#9) (s:Shared) (G:St) (H:Hp) (Q:Bool->Hp->Prop),Inv X pins G H s->t G H Q ->
  aV 1#2 X.A (forIn ifs true λc r=>if r=true then do let ok <- isTrue c X.env (eval c X.env);pure (d5 ok) else pure (d5 r)) (TP X pins G Q) X.xe s
theorem JX:PTs X [] (λ_ H Q=>Q true H):=λpins s G H Q I h=>by
 rw[List.forIn_nil];exact aG ⟨H,I,h⟩
theorem Kd{c:Expr}{t:TT}(h:PT X c t):PTs X [c] t:=λpins s G H Q I q=>by
 rw[kU];simp only[if_true];refine av (av (thn (h pins s G H Q I q) λb s1 e=>aG ?_));show aV _ _ (forIn [] b _) _ _ _;rw[List.forIn_nil];exact aG e
def sZ(wi:TI)(tt:TT)(te:TE):TE:=λG H Q=>wi G H λJ H1=>∃W:Nat->Nat->List V->Hp->Prop,(∃m,W 0 m [] H1) /\ ∀i m ys H,W i m ys H->ys.length<sizeLine /\
 (25#0 \/
  (J.go i H /\ ∀x H',J.yld i H x H'->tt (G++[some x]) H' λb H3=>if b=true then te (G++[some x]) H3 λy H4 =>∃m',m'<m/\W (i+1) m' (ys++[y]) H4 else ∃m',m'<m/\W (i+1) m' ys H3))
variable{P:Program}{w:World}{H:Hp}{a:Addr}
theorem HOk.track{h:Heap}{o:HO}(x:HOk P w H h)(hn:H a=none)(new:eI P w (upd H a o) h a o):HOk P w (upd H a o) h:=λb u e=>by
 by_cases hb:b=a
 .subst hb;rw[cz]at e;cases e;exact new
 .rw[bo hb]at e
  exact(x b u e).stay (λc v _ q=>q) (λc q=>by rw[bo (bf q hn)];exact q) λc xs q=>by rw[bo (bf q hn)];exact q
theorem HOk.but{h h':Heap}(x:HOk P w H h)(hn:H a=none)(k:∀b o,b≠a->h.get? b=some o->h'.get? b=some o):HOk P w H h':=λb u e=>by
 refine(x b u e).stay (λc v hc q=>k c v ?_ q) (λ_ q=>q) λ_ _ q=>q;rcases hc with rfl |hc
 .exact bf e hn
 .exact bf hc hn
def si(gT:V->Hp->(St->Hp->Prop)->Prop)(wi:TI)(tt:TT)(te:TE):TE:=λG H Q=>wi G H λJ H1=>∃W:Nat->Nat->List V->Hp->Prop,(∃m,W 0 m [] H1) /\ ∀i m ys H,W i m ys H->ys.length<sizeLine /\
 (25#0 \/
  (J.go i H /\ ∀x H',J.yld i H x H'->gT x H' λτ H2=>tt (G++τ) H2 λb H3=>if b=true then te (G++τ) H3 λy H4 =>∃m',m'<m/\W (i+1) m' (ys++[y]) H4 else ∃m',m'<m/\W (i+1) m' ys H3))
def gT1:V->Hp->(St->Hp->Prop)->Prop:=λv H Q=>Q [some v] H
section
variable {X:Cx}{N':List Str}{scope:Scope}{x:Str}{xs:List Str}{tg:Expr}{gT:V->Hp->(St->Hp->Prop)->Prop}{px pos:Pos}{elt iter:Expr}{ifs:List Expr}{wi:TI}{tt:TT}{te:TE}
variable{G:St}
theorem sM{use:Option (Value->Sem Unit)}{Qf:Value->Shared->Prop}(hc:X.calm=true)(C:iH X N' scope xs)(hi:PI X tg iter wi)
  (ht:∀s₂ H₂ fp,PTs 7#1 ifs tt) (he:∀s₂ H₂ fp,PE 7#1 elt te) {pins:List (Addr×Obj)}{s:Shared}{H:Hp}{Q:VK} (I:Inv X pins G H s) (h:si gT wi tt te G H Q)
  (htg: ∀(s₂:Shared) (H₂:Hp) (fp:List Addr) (pl:List 1#9) (s:Shared) (H:Hp) (v:V) (u:Value) (Q:St->Hp->Prop),Inv 7#1 pl 13#9 H s->RelV v u->gT v H Q ->
   aV (model X.prog X.w) X.A (assign tg (blk X N' scope s₂ H₂ fp).env u) (λ_ s' =>∃τ H',τ.length=xs.length/\Inv (blk X N' scope s₂ H₂ fp) pl (G++τ) H' s'/\Q τ H') (λ_ _=>False) s)
  (hfin: ∀(s':Shared) (L D:Addr) (H':Hp) (ml:Str->Option Value),s'.heap.Ns L ml->Inv X pins G H' s'->H' L=none->L≠X.env.locals->X.s₀.heap.objs.size<=L->(∀y c,X.env.cells.lookup y=some c->c≠L)->(∀p∈X.pn++pins,p.1≠L) ->
   Q (.ref D) H'->compPost (model X.prog X.w) X.A X.xe use Qf (.ref D) L (.ok .next) s'):
  aV 1#2 X.A (eval iter X.env) (λxv s₁=>aV 1#2 X.A (pyIter xv) (λit s₂=>aV 1#2 X.A (newList []) (λacc s₃=>
   aV 1#2 X.A (newFunctionEnv scope X.env.globals 23#4 [] X.env.qual none .none (some X.env)) (λcenv s₄=>
    o5 (model X.prog X.w) X.A (.compStart (.ListComp elt [⟨tg,iter,ifs,0⟩] scope pos) 0 it acc { cenv with scope:=relabel scope X.env }) (compPost (model X.prog X.w) X.A X.xe use Qf acc cenv.locals) s₄) X.xe s₃) X.xe s₂) X.xe s₁) X.xe s:=by
 refine thn (hi pins s G H _ I h) λv s1 h1=>thn h1 λitv s2 h2=>?_;obtain⟨it,fp,tn,J,H2,e,I2,T,st2,f2,W,⟨m0,w0⟩,turn⟩:=h2;subst e;have hlt:∀b∈fp,b<s2.heap.objs.size:=λb hb=>by obtain⟨o,ho,_⟩:=T.obj _ _ st2 b hb;exact aK ho
 refine cU (qH ?_);dsimp only;have I4:Inv (blk X N' scope s2 H2 fp) [] 13#9 H2 { s2 with heap:=pushCells ((s2.heap.push { cls := .type "list",dict:=none,data := .seq ([]:List Value).toArray }).push { cls := .type "dict",data := .dict #[] }) scope.names }:=
  EJ I2 C f2 hlt rfl rfl rfl
 generalize hXb:blk X N' scope s2 H2 fp=Xb at I4;have hD4:(pushCells ((s2.heap.push { cls := .type "list",dict:=none,data := .seq ([]:List Value).toArray }).push { cls := .type "dict",data := .dict #[] }) scope.names).get? s2.heap.objs.size=some { cls := .type "list",data := .seq ([]:List Value).toArray }:=
  pushCells_keeps _ _ _ _ (aw _ (aL _ rfl))
 have st4:tn 0 (pushCells ((s2.heap.push { cls := .type "list",dict:=none,data := .seq ([]:List Value).toArray }).push { cls := .type "dict",data := .dict #[] }) scope.names):=
  T.keep _ _ _ st2 λb hb o e=>pushCells_keeps _ _ b o (aw _ (aw _ e))
 have henv:({ scope:=relabel scope X.env,locals:=(s2.heap.push { cls := .type "list",dict:=none,data := .seq ([]:List Value).toArray }).objs.size,globals:=X.env.globals,cells:=cellsFrom ((s2.heap.push { cls := .type "list",dict:=none,data := .seq ([]:List Value).toArray }).objs.size+1) scope.names (j6 X.env scope.names []),qual:=X.env.qual,func:=none,code:=X.env.code,frame:=X.env.frame,builtins:=X.env.builtins }:Env)=Xb.env:=by
  rw[<-hXb,bR];rfl
 generalize hs4:({ s2 with heap:=pushCells ((s2.heap.push { cls := .type "list",dict:=none,data := .seq ([]:List Value).toArray }).push { cls := .type "dict",data := .dict #[] }) scope.names }:Shared)=s4 at I4;have hD4':s4.heap.get? s2.heap.objs.size=some { cls := .type "list",data := .seq ([]:List Value).toArray }:=by rw [<-hs4];exact hD4
 have st4':tn 0 s4.heap:=by rw[<-hs4];exact st4
 have hL:Xb.env.locals=s2.heap.objs.size+1:=by rw[<-hXb];rfl
 have hex:Xb.ex=fp:=by rw[<-hXb];rfl
 have hs0:Xb.s₀=s2:=by rw[<-hXb];rfl
 have hH0:Xb.H₀=H2:=by rw[<-hXb];rfl
 have hfs:Xb.fs=frs X.stack:=by rw[<-hXb];rfl
 have hpn:Xb.pn=[]:=by rw[<-hXb];rfl
 have hK:Xb.K=X.K:=by rw[<-hXb];rfl
 have hP:Xb.prog=X.prog:=by rw[<-hXb];rfl
 have hw:Xb.w=X.w:=by rw[<-hXb];rfl
 have hA:Xb.A=X.A:=by rw[<-hXb];rfl
 have hxe:Xb.xe=λ_ _=>False:=by rw[<-hXb];rfl
 have hcb:Xb.calm=true:=by rw[<-hXb];exact hc
 have hNb:Xb.N=N':=by rw[<-hXb];rfl
 have hfn:∀y,scope.names.lookup y=some .cell->Xb.fn y=true:=λy hy=>by rw[<-hXb];show 27#0=true;rw[hy];rfl
 have htb:PTs Xb ifs tt:=by rw[<-hXb];exact ht _ _ _
 have heb:PE Xb elt te:=by rw[<-hXb];exact he _ _ _
 have hgb:∀(pl:List 1#9) (s:Shared) (H:Hp) (v:V) (u:Value) (Q:St->Hp->Prop),Inv Xb pl 13#9 H s->RelV v u->gT v H Q ->
   aV 1#2 X.A (assign tg Xb.env u) (λ_ s'=>∃τ H',τ.length=xs.length/\Inv Xb pl (G++τ) H' s'/\Q τ H') 14#4 s:=by
  rw[<-hXb];exact htg _ _ _
 have cellne:∀y c,Xb.env.cells.lookup y=some c->c≠s2.heap.objs.size:=λy c e z=>by
  obtain⟨v,o,ho,hd⟩:=I4.cell y c e;rw[z,hD4']at ho;cases ho;cases hd
 have stat:∀{H':Hp}{pl:List (Addr×Obj)},24#2->(∀p∈pl,p.1=s2.heap.objs.size)->∀b∈fp,wL Xb pl H' b:=λ{H' pl} hn hpl b hb=>by
  refine⟨hn b hb,?_,?_,.inl (by rw[hex];exact hb),λy c e z=>?_,λp hp z=>?_⟩
  .rw[hL];exact aW (eg (hlt b hb))
  .exact I4.ok.exfs b (by rw[hex];exact hb)
  .exact(I4.ok.exf b (by rw[hex];exact hb)).2 y c e z
  .rw[hpn]at hp
   have h1:=hpl p 17#2;have h2:=hlt b hb;exact absurd h2 (by rw[<-z,h1];exact bO _)
 have Dfs:s2.heap.objs.size∉Xb.fs:=by
  rw[hfs];intro z;rcases a9.mp (I2.stkSub _ z) with e|e
  .exact absurd I2.lt (by rw[<-e];exact bO _)
  .exact I2.nofs 0#9 e
 have fin :∀ (s':Shared) (i m:Nat) (ys:List V) (its:List Value) (n:Nat) (H':Hp) (Y3:St),Inv Xb [] Y3 H' s'->H' s2.heap.objs.size=none->s'.heap.get? s2.heap.objs.size=some { cls := .type "list",data := .seq its.toArray n }->cM ys its->ys.length<sizeLine ->
   (∀D,H' D=none->Q (.ref D) (upd H' D (.lst ys)))->compPost 1#2 X.A X.xe use Qf (.ref s2.heap.objs.size) Xb.env.locals (.ok .next) s':=by
  intro s' i m ys its n H' Y3 I' hDn hDo rv hz q;obtain⟨ml,hml,_⟩:=I'.loc;have kb:∀b o,b≠Xb.env.locals->s'.heap.get? b=some o->s'.heap.get? b=some o:=λb o _ e=>e;have hDL:s2.heap.objs.size≠Xb.env.locals:=by rw[hL];exact aW (bB _)
  have hok1:HOk X.prog X.w H' s'.heap:=by
   have:=I'.hok.but I'.free kb;rw[hP,hw]at this;exact this
  have hok2:HOk X.prog X.w (upd H' s2.heap.objs.size (.lst ys)) s'.heap:=hok1.track hDn ⟨aT hz,its,n,rv,kb _ _ hDL hDo⟩;have base:=I'.base;rw[hs0,hH0,hex,hfs]at base;have un:Un 10#8 fp H2 (upd H' s2.heap.objs.size (.lst ys)) s2.heap s'.heap:=by
   have ltL:∀b o,s2.heap.get? b=some o->b≠Xb.env.locals:=λb o e=>by rw[hL];exact aW (eg (aK e))
   have ltD:∀b o,s2.heap.get? b=some o->b≠s2.heap.objs.size:=λb o e=>aW (aK e);refine⟨λb o e n hb hx=>kb b o (ltL b o e) (base.keep b o e n hb hx),λb o e n hb hx=>?_,λb o e n hx=>?_,λb o e hx=>?_,λb xs e=>?_,λb o u e=>?_,λb ps e=>?_⟩
   .obtain⟨sl,q⟩:=base.slot b o e n hb hx
    exact⟨sl,kb b _ (ltL b o e) q⟩
   .rw[bo (ltD b o e)];exact base.free b o e n hx
   .obtain⟨o',q⟩:=base.there b o e hx
    exact⟨o',kb b _ (ltL b o e) q⟩
   .have q:=base.tups b xs e
    rw[bo (bf q hDn)];exact q
   .have q:=base.frzs b o u e
    rw[bo (bf q hDn)];exact q
   .obtain⟨more,q⟩:=base.tbls b ps e
    exact⟨more,by rw[bo (bf q hDn)];exact q⟩
  have os:s'.os=s2.os:=by rw[I'.os,hs0]
  have If:=I2.call' (s':=s') os un hok2 I'.bare λb hb=>⟨(f2 b hb).2.2.2.1,(f2 b hb).2.1,(f2 b hb).2.2.2.2.1,(f2 b hb).2.2.2.2.2⟩;refine hfin s' _ _ _ ml hml If ?_ ?_ ?_ ?_ ?_ (q _ hDn)
  .rw[bo (dZ hDL)];exact I'.free
  .rw[hL];exact cN (eg I2.lt)
  .rw[hL];exact g9 I2.sz
  .intro y c e z
   obtain⟨v,o,ho,_⟩:=I2.cell y c e;have:=aK ho;rw[z,hL]at this;exact absurd (Nat.lt_of_succ_lt this) (bO _)
  .intro p hp z
   have:=aK (I2.pin p hp).1;rw[z,hL]at this;exact absurd (Nat.lt_of_succ_lt this) (bO _)
 have loop:∀it':Addr,it'=it->o5 1#2 X.A (.compLoop (.ListComp elt [⟨tg,iter,ifs,0⟩] scope pos) 0 (.ref it') (.ref s2.heap.objs.size) Xb.env) (compPost 1#2 X.A X.xe use Qf (.ref s2.heap.objs.size) Xb.env.locals) s4:=by
  rintro it' rfl
  refine nk (λn s' =>∃(i:Nat) (ys:List V) (its:List Value) (nn:Nat) (H':Hp),Inv Xb [] 13#9 H' s'/\tn i s'.heap/\24#2/\H' s2.heap.objs.size=none /\
   s'.heap.get? s2.heap.objs.size=some { cls := .type "list",data := .seq its.toArray nn }/\cM ys its/\W i n ys H') ?_ m0 ⟨0,[],[],_,H2,I4,st4',fun b hb=>(f2 b hb).1,I2.hok.fresh (ak _),hD4',.nil,w0⟩
  rintro n s3 ⟨i,ys,its,nn,H3,I3,st3,fr3,hD3,hDo3,rv3,w3⟩;obtain⟨hz,turn⟩:=turn i n ys H3 w3;have pinD:∀{s':Shared}{H':Hp}{Y3:St}{oD:Obj},Inv Xb [] Y3 H' s'->H' s2.heap.objs.size=none->s'.heap.get? s2.heap.objs.size=some oD->(∀v,oD.data≠.cell v)->Inv Xb [(s2.heap.objs.size,oD)] Y3 H' s':=λ{s' H' Y3 oD} I' hn ho hd=>
   I'.pins_of λp hp=>by
    have e:p=(s2.heap.objs.size,oD):=by simpa using hp
    subst e;exact⟨ho,hn,by rw[hL];show s2.heap.objs.size≠_;exact aW (bB _),Dfs,hd⟩
  have I3p:=pinD I3 hD3 hDo3 (λv z=>by cases z);have hpl :∀ p ∈ [(s2.heap.objs.size,({ cls := .type "list",data := .seq its.toArray nn }:Obj))],p.1=s2.heap.objs.size:=fun p hp=>by
   have e:=bW.mp hp;rw[e]
  rcases turn with⟨stop,qn⟩|⟨go,step⟩
  .have q:=T.done Xb hP hw hK hcb i _ s3 _ H3 14#4 I3p (stat fr3 hpl) st3 stop
   rw[hA]at q;refine cj q (λr s5 ⟨hr,I5⟩=>?_) λ_ _ z=>bT z;subst hr;exact fin s5 i n ys its nn H3 _ (I5.pins_of λp hp=>absurd hp 0#8) hD3 (I5.pin _ (aY _ (bW.mpr rfl))).1 rv3 hz qn
  .have q:=T.item Xb hP hw hK hcb i _ s3 _ H3 14#4 I3p (stat fr3 hpl) st3 go
   rw[hA]at q;refine cj q (λr s45 ⟨u,hr,h5⟩=>?_) λ_ _ z=>bT z;subst hr;refine cj h5 (λ_ s5 ⟨y5,H5,I5,r5,yl5,st5,fr5⟩=>?_) λ_ _ z=>bT z;have hD5:=(I5.pin _ (aY _ (bW.mpr rfl)));have I5':=I5.pinned (stat fr5 hpl) (T.obj _ _ st5);refine cj (hgb _ s5 H5 y5 _ _ I5' r5 (step y5 H5 yl5)) (λ_ s6 ⟨τ,H6,hτ,I6,q6⟩=>?_) λ_ _ z=>bT z;have qt:=htb _ s6 _ H6 _ I6 q6;rw[hP,hw,hA,hxe]at qt;refine cj qt (λb s7 ⟨H7,I7,q7⟩=>?_) λ_ _ z=>bT z;have again :∀ {s8:Shared}{H8:Hp}{X7:St},Inv Xb ([(s2.heap.objs.size,({ cls := .type "list",data := .seq its.toArray nn }:Obj))]++uM fp s5.heap) X7 H8 s8->tn (i+1) s8.heap/\(∀ b∈fp,H8 b=none)/\H8 s2.heap.objs.size=none/\s8.heap.get? s2.heap.objs.size=some { cls := .type "list",data := .seq its.toArray nn }:=fun {s8 H8 X7} I8=>by
    refine⟨T.keep _ _ _ st5 λb hb o e=>(I8.pin (b,o) (aY _ (aY _ (md hb e)))).1,λb hb=>?_,?_,?_⟩
    .obtain⟨o,e,d⟩:=T.obj _ _ st5 b hb
     exact(I8.pin (b,o) (aY _ (aY _ (md hb e)))).2.1
    .exact(I8.pin _ (aY _ (bg _ (bW.mpr rfl)))).2.1
    .exact(I8.pin _ (aY _ (bg _ (bW.mpr rfl)))).1
   have forget:∀{s8:Shared}{H8:Hp}{pl:List (Addr×Obj)},Inv Xb pl (G++τ) H8 s8->Inv Xb [] 13#9 H8 s8:=λ{s8 H8 pl} I8=>
    (I8.pins_of (pins':= []) λp hp=>absurd hp 0#8).weak (by simp[hτ]) λj v hj=>by
     by_cases hjs:j<G.length
     .rw[aM hjs]at hj ⊢;exact hj
     .rw[aq 13#0,i5]at hj
      split at hj<;>simp at hj
   cases b with
   | false=>
     have q7':∃m',m'<n/\W (i+1) m' ys H7:=q7;obtain⟨m',hm,w7⟩:=q7';obtain⟨a1,a2,a3,a4⟩:=again I7;exact⟨m',hm,i+1,ys,its,nn,H7,forget I7,a1,a2,a3,a4,rv3,w7⟩
   | true=>
     have q7':te (G++τ) H7 λy H4=>∃m',m'<n/\W (i+1) m' (ys++[y]) H4:=q7;have qe:=heb _ s7 _ H7 _ I7 q7';rw[hP,hw,hA,hxe]at qe;refine cj qe (λuv s8 ⟨y8,H8,I8,r8,m',hm,w8⟩=>?_) λ_ _ z=>bT z;obtain⟨a1,a2,a3,a4⟩:=again I8;have I9:=forget I8;have hl3:=rv3.length;refine call_meets F.slot_list_append ⟨_,a4,rfl⟩ F.entry_list_append (F.args_list_append_2 _ _) (PySem.list_append s2.heap.objs.size its.toArray nn uv 17#4) ⟨a4,?_⟩;have hup:=Jq a4 (·.push uv);have e1:(its.toArray.push uv)=(its++[uv]).toArray:=by simp
     rw[e1]at hup;have I10:Inv Xb [] 13#9 H8 { s8 with heap:=s8.heap.update s2.heap.objs.size (eE (·.push uv)) }:=
      I9.turned (t':=s8.toks) (λb' u hb hu=>(d8 s8.heap (eE (·.push uv)) (dZ hb)).trans hu) a3 (by rw[hL];exact aW (bB _)) (.inr (by rw[hs0];exact ak _)) cellne (λp hp=>by rw[hpn]at hp;exact absurd hp 0#8)
     refine⟨m',hm,i+1,ys++[y8],its++[uv],_,H8,I10,T.keep _ _ _ a1 λb hb o e=>?_,a2,a3,hup,rv3.append (.cons r8 .nil),w8⟩;exact(d8 s8.heap (eE (·.push uv)) (by first |exact cN (hlt b hb) |exact aW (hlt b hb))).trans e
 have start:=codeAny_compStart_list (loop it rfl) (T.self X.A 0 s4 _ _ st4' (loop it rfl));rw[henv];have eL:(s2.heap.push { cls := .type "list",dict:=none,data := .seq ([]:List Value).toArray }).objs.size=Xb.env.locals:=by rw [bR,hL]
 rw[eL];exact start
theorem DR(C:iH X N' scope [x])(s₂:Shared)(H₂:Hp)(fp:List Addr)(pl:List 1#9)(s:Shared)(H:Hp)(v:V)(u:Value)(Q:St->Hp->Prop)(I:Inv 7#1 pl (G++aR [x].length none) H s)(r:RelV v u)(q:gT1 v H Q):
  aV 1#2 X.A (assign (.Name x px) (blk X N' scope s₂ H₂ fp).env u) (λ_ s'=>∃τ H',τ.length=[x].length/\Inv 7#1 pl (G++τ) H' s'/\Q τ H') 14#4 s:=by
 have hl:G.length=X.N.length:=by
  have:=I.len;rw[show(blk X N' scope s₂ H₂ fp).N=N' from rfl,C.len,a8,jW]at this;omega
 have hlocx:Loc (blk X N' scope s₂ H₂ fp).env.scope x:=by
  rcases C.own x 0#8 with e|e
  .exact .inl (lookup_relabel_local e)
  .exact .inr (jM e)
 have hfx:(blk X N' scope s₂ H₂ fp).fn x=true\/(blk X N' scope s₂ H₂ fp).env.scope.names.lookup x=some .local:=by
  rcases C.own x 0#8 with e|e
  .right;exact lookup_relabel_local e
  .left;show(scope.names.lookup x==some .cell)=true;rw[e];rfl
 refine o4 (nO I C.ndN (i:=X.N.length) (C.last 0 x rfl) hlocx r (λs6 I6=>?_) hfx);have hset:(G++aR [x].length none).set X.N.length (some v)=G++[some v]:=by
  rw[<-hl,dP _ _ 0#9];simp
 rw[hset]at I6;exact⟨[some v],H,rfl,I6,q⟩
theorem Le(hc:X.calm=true)(C:iH X N' scope [x])(hi:PI X (.Name x px) iter wi)
  (ht:∀s₂ H₂ fp,PTs 7#1 ifs tt) (he:∀s₂ H₂ fp,PE 7#1 elt te)
  (hs:autoParam 18#7 au3._auto_1):
  PE X 16#4 (sZ wi tt te):=by
 intro pins s G H Q I h;rw[eval_ListComp];refine qc (use:=none) (cl:=j6 X.env scope.names []) rfl hs (jy 14#7) C.kind (λy hy e=>lN C.nd (by rw[<-e];exact hy)) ?_;refine sM (gT:=gT1) hc C hi ht he I h (DR C) λs' L D H' ml hml I' hn h1 h2 h3 h4 q=>?_;exact⟨ml,hml,λh' hsb=>⟨.ref D,H',I'.turned (t':=s'.toks) (λb o hb e=>(hsb.2 b hb).trans e) hn h1 (.inr h2) h3 h4,rfl,q⟩⟩
theorem Kp{i:Nat}{y:Str}{py spos:Pos}(hN:X.N.Nodup)(hi':X.N[i]?=some y)(hy:Loc X.env.scope y)(hc:X.calm=true)(C:iH X N' scope [x])(hi:PI X (.Name x px) iter wi)
  (ht:∀s₂ H₂ fp,PTs 7#1 ifs tt) (he:∀s₂ H₂ fp,PE 7#1 elt te)
  (hsw:swapsWith 16#4 (some (.Name y py)) spos.line X.env=pure true)
  (hs:autoParam 18#7 au3._auto_1) (hf:autoParam (X.fn y=true\/X.env.scope.names.lookup y=some .local) au4._auto_1):
  PS X (.Assign [.Name y py] 16#4 spos) (Fo (sZ wi tt te) (kQ i)):=by
 intro pins s G H D I h;rw[exec_Assign_Name_used _ _ _ _ hsw];refine av (wpAny_standAt (av ?_));show aV _ X.A (do let _ <- comprehension 16#4 scope X.env _ (newList []) false (eval iter X.env) (some (assign (.Name y py) X.env))) _ _ s
 refine av (cj (qc (use:=some (assign (.Name y py) X.env)) (Q:=λ_ s'=>SP X pins D .next s') (cl:=j6 X.env scope.names []) rfl hs (jy 14#7) C.kind (λy hy e=>lN C.nd (by rw[<- e];exact hy))
  (sM (gT:=gT1) (Q:=λv H1=>kQ i v G H1 D.nx) hc C hi ht he I h (DR C) λs' L D' H' ml hml I' hn h1 h2 h3 h4 q =>?_)) (λ_ s' hq=>aG (aG hq)) λ_ _ e=>e)
 show aV _ X.A (assign (.Name y py) X.env (.ref D')) _ _ _;refine o4 (xV (v:= .ref D') I' hN hi' hy rfl (λs6 I6 hsb=>?_) hf);obtain⟨a,hsb,ha⟩:=hsb;have haL:L≠a:=by
  rcases ha with e|e
  .rw[e];exact h1
  .exact dZ (h3 _ _ e)
 refine⟨ml,hml.sameBut hsb haL,λh' hsb'=>?_⟩;exact⟨_,H',I6.turned (t':=s6.toks) (λb o hb e=>(hsb'.2 b hb).trans e) hn h1 (.inr h2) h3 h4,q⟩
inductive gz:List Expr->List Str->Prop
 |nil:gz [] []
 |cons (x:Str) (p:Pos) {es xs}:gz es xs->gz (.Name x p::es) (x::xs)
def gTt(K:ao)(n:Nat):V->Hp->(St->Hp->Prop)->Prop:=λv H Q=>∃a vs,v=.ref a/\SqT K H a vs/\vs.length=n/\Q (vs.map some) H
theorem gz.each{env:Env}:∀{es:List Expr}{xs:List Str},gz es xs->(assignEach es env).length=xs.length/\(assignEach es env).findIdx? 2#2=none
 |_,_,.nil=>⟨rfl,rfl⟩
 | _,_,.cons x p r=>by
   obtain⟨a,b⟩:=gz.each (env:=env) r
   exact⟨by show(assignEach _ env).length+1=_;rw[a];rfl,by
    show(((false,_):Bool×(Value->Sem Unit))::assignEach _ env).findIdx? 2#2=none
    rw[uC];simp[b]⟩
theorem Jl{Xb:Cx}{pl:List (Addr×Obj)}{E:Shared->Prop}(nd:Xb.N.Nodup)(own:∀x∈xs,Loc Xb.env.scope x/\(Xb.fn x=true\/Xb.env.scope.names.lookup x=some .local)):
  ∀{es:List Expr}{ys:List Str},gz es ys->(∀y∈ys,y∈xs)->∀(vs:List V) (us:List Value) (τ:St) (s:Shared),(∀(j:Nat) (y:Str),ys[j]?=some y->Xb.N[τ.length+j]?=some y)->vs.length=ys.length->cM vs us ->
   Inv Xb pl (τ++aR ys.length none) H s->(∀s',Inv Xb pl (τ++vs.map some) H s'->E s')->aV 1#2 X.A (assignInOrder ((assignEach es Xb.env).map (·.2)) us) (λ_ s'=>E s') 14#4 s:=by
 intro es ys n
 induction n with
 | nil=>
   intro _ vs us τ s hN hl r I k;have e:vs=[]:=Fz.mp hl;subst e;cases r;exact assignInOrder_nil (k s I)
 | @cons x p es ys n ih=>
   intro hm vs us τ s hN hl r I k;cases r with
   |nil=>cases hl
   | @cons v u vs us ra rb=>
     obtain⟨ho,hf⟩:=own x (hm x 0#8);show aV _ _ (assignInOrder (assign (.Name x p) Xb.env::(assignEach es Xb.env).map (·.2)) (u::us)) _ _ s;refine assignInOrder_cons (o4 (nO I nd (i:=τ.length) (hN 0 x rfl) ho ra (λs6 I6=>?_) hf));have hset:(τ++aR (x::ys).length none).set τ.length (some v)=(τ++[some v])++aR ys.length none:=by
      rw[dP _ _ 0#9];simp[dH]
     rw[hset]at I6;refine ih (λy hy=>hm y (by simp[hy])) vs us (τ++[some v]) s6 (λj y hj=>?_) (by simpa using hl) rb I6 λs' I'=>k s' (by simpa using I');have:=hN (j+1) y (by simpa using hj);rw[a8,Jr,show τ.length+1+j=τ.length+(j+1) by omega];exact this
variable{es:List Expr}{kt:Nat}
theorem Oh{pt:Pos}(hc:X.calm=true)(C:iH X N' scope xs)(n:gz es xs)(s₂:Shared)(H₂:Hp)(fp:List Addr)(pl:List 1#9)(s:Shared)(H:Hp)(v:V)(u:Value)(Q:St->Hp->Prop)(I:Inv 7#1 pl 13#9 H s)(r:RelV v u)(q:gTt X.K xs.length v H Q):
  aV 1#2 X.A (assign (.Tuple es kt pt) (blk X N' scope s₂ H₂ fp).env u) (λ_ s'=>∃τ H',τ.length=xs.length/\Inv 7#1 pl (G++τ) H' s'/\Q τ H') 14#4 s:=by
 have hl:G.length=X.N.length:=by
  have:=I.len;rw[show(blk X N' scope s₂ H₂ fp).N=N' from rfl,C.len,a8,jW]at this;omega
 obtain⟨a,vs,rfl,hq,hv,q⟩:=q;cases r;obtain⟨its,rv,ht,hz⟩:=I.tuple hq;obtain⟨h1,h2⟩:=n.each (env:=(blk X N' scope s₂ H₂ fp).env);refine assign_Tuple_tuple 10#0 ht (by simp[h1,<-hv,rv.length]) h2 λh' hx=>?_;have I1:Inv 7#1 pl 13#9 H { s with heap:=h' }:=I.kept (t':=s.toks) λb o e=>hx b o (aW (aK e)) e;refine Jl (X:=X) (xs:=xs) (Xb:=blk X N' scope s₂ H₂ fp) C.ndN (λx hx=>⟨?_,?_⟩) n (λy hy=>hy) vs _ G _ (λj y hj=>?_) hv (by simpa using rv) I1 λs' I'=>⟨vs.map some,H,by simpa using hv,I',q⟩
 .rcases C.own x hx with e|e
  .exact .inl (lookup_relabel_local e)
  .exact .inr (jM e)
 .rcases C.own x hx with e|e
  .right;exact lookup_relabel_local e
  .left;show(scope.names.lookup x==some .cell)=true;rw[e];rfl
 .rw[hl];exact C.last j y hj
theorem F5{pt:Pos}(hc:X.calm=true)(C:iH X N' scope xs)(n:gz es xs)(hi:PI X (.Tuple es kt pt) iter wi)
  (ht:∀s₂ H₂ fp,PTs 7#1 ifs tt) (he:∀s₂ H₂ fp,PE 7#1 elt te)
  (hs:autoParam 18#7 au3._auto_1):
  PE X (.ListComp elt [⟨.Tuple es kt pt,iter,ifs,0⟩] scope pos) (si (gTt X.K xs.length) wi tt te):=by
 intro pins s G H Q I h;rw[eval_ListComp];refine qc (use:=none) (cl:=j6 X.env scope.names []) rfl hs (jy 14#7) C.kind (λy hy e=>lN C.nd (by rw[<-e];exact hy)) ?_;refine sM hc C hi ht he I h (Oh hc C n) λs' L D H' ml hml I' hn h1 h2 h3 h4 q=>?_;exact⟨ml,hml,λh' hsb=>⟨.ref D,H',I'.turned (t':=s'.toks) (λb o hb e=>(hsb.2 b hb).trans e) hn h1 (.inr h2) h3 h4,rfl,q⟩⟩
end
end _L
namespace HT
open PySem PyProof.Rows
open PySem.SeqAt
open PySem.AutoSeq1 (wpAny_loadPart')
open PySem.MeetsSeq PySem.MeetsSeq2 PySem.MeetsSeq3
section
variable {prog:Program}{w:World}{A:Around}{E:Value->Shared->Prop}{s:Shared}
variable{Q:Value->Shared->Prop}
theorem getItem_tuple_whole{t sl:Addr}{items:Array Value}{vl vu:Value}{lo hi:Option Int}(ht:IsTup s.heap t items)(hs:s.heap.IsSliceOf sl vl vu .none)(pl:IsPart vl lo)(pu:IsPart vu hi)
  (hw:sIx items.size 0 lo=0/\sIx items.size items.size hi=items.size)
  (h:Q (.ref t) s):aV 4#1 A (getItem (.ref t) (.ref sl)) Q E s:=by
 obtain⟨os,hos,hcs,hds⟩:=id hs;have hTs:s.TypeIs (.ref sl) "slice":=⟨os,hos,hcs⟩;unfold getItem
 try with_reducible refine f9 ?_
 first |refine av (aG ?_) |skip
 refine av (A5 ht.typeIs 0#1 ?_)
 refine av (rF (name:=qb "__getitem__") ht.typeIs dw
  (lz dw ht.typeIs entry_tuple_getitem ?_ (args_tuple_getitem _ _)))
 show aV _ _ (jX (.ref t) >>= _) _ _ s;refine av (tupleItemsOf_ ht ?_);refine av (km hTs ?_);rw[if_pos 0#1];refine av (lP hs pl pu ?_);rw[hw.1,hw.2];show aV _ _ (if (((0:Nat):Int)==0&&(1:Int)==1&&(items.size-0)==items.size)=true then _ else _) _ _ s;rw[if_pos 0#8];obtain⟨o,ho,hc,n,hd⟩:=id ht;refine av (m:=t8 _) ?_;unfold t8;refine av (km ⟨o,ho,hc⟩ (aG ?_));rw[if_pos 0#1];refine av (wpAny_rule ?_)
 first
  |exact aG ⟨_,rfl,aG h⟩
  |exact av (aG (aG ⟨_,rfl,aG h⟩))
theorem cat_tup0{t b:Addr}{ws:List Value}(ht:IsTup s.heap t ([]:List Value).toArray)(hb:IsTup s.heap b ws.toArray)(h:Q (.ref b) s):aV 4#1 A (binaryOp .Add (.ref t) (.ref b)) Q E s:=by
 obtain⟨⟨cls,dd,data,sl⟩,ho,hc,n,hd⟩:=id ht;obtain⟨⟨cls2,dd2,data2,sl2⟩,ho2,hc2,n2,hd2⟩:=id hb;simp only at hc hd hc2 hd2;subst hc hd hc2 hd2;exact concat_meets ⟨_,ho,rfl⟩ ⟨_,ho2,rfl⟩ noFill_tuple_add seq_tuple_add nZ mQ (mI _ _)
   (tuple_addW0 t b #[] ws.toArray n n2 dd dd2 sl sl2 0#8) ⟨ho,ho2,h⟩
end
end HT
namespace _G
open PySem PySem.SeqAt
open PySem.AutoSeq1 (wpAny_loadPart')
open PySem.MeetsSeq PySem.MeetsSeq2 PySem.MeetsSeq3
theorem wY(l:Addr)(items:Array Value)(n:Nat)(dd:Option Addr)(sl:Array (Option Value))(x:Value)(e:Value->Bool)(j:Nat)(hj:j<items.size)
  (hit:e items[j]=true) (hno:∀m (hm:m<items.size),m<j->e items[m]=false):
  Meets (Builtin.«tuple.index» ⟨[.ref l,x],[]⟩)
   (fun A R s=>s.heap.get? l=some { cls := .type "tuple",dict:=dd,data := .seq items n,slots:=sl }/\(∀ y,y∈items->EqAt A.in1 s y x (e y))/\R (.ok (.ret (.int j s.toks))) { s with toks:=s.toks+1 }):=
 .of_wp λprog w A R s h=>by
  obtain⟨hp,g,d,tk,os⟩:=s;obtain⟨hl,he,h⟩:=h;simp only[Builtin.«tuple.index»,Std.Legacy.Range.forIn_eq_forIn_range']
  wp_walk using hZ hl,wpAny_forIn_list _ (λrest b s'=>b.1=none/\s'=⟨hp,g,d,tk,os⟩ /\ ∃i,i<=j/\rest=bY i (items.size-i)) _
  case turn=>
   rintro y rest b s' ⟨hb,rfl,i,hij,hrest⟩;have hlt:i<items.size:=by
    rcases Nat.lt_or_ge i items.size with q|q
    .exact q
    .exact aA 0#4 0#4
   obtain⟨k,hk⟩ :∃k,items.size-i=k+1:=⟨items.size-i-1,by omega⟩;rw[hk,oB]at hrest;injection hrest with h1 h2
   subst h1;have hg:items[y]?=some items[y]:=by simp[hlt]
   rw[hg];refine av (he _ (Array.getElem_mem hlt) prog w _ _ ?_);by_cases hyj:y=j
   .subst hyj
    rw[hit]
    wp_walk
    exact⟨_,rfl,h⟩
   .rw[hno y hlt (by exact i6 0#4 0#4)]
    wp_walk
    exact⟨rfl,rfl,y+1,by exact i6 0#4 0#4,by rw[h2];congr 1;omega⟩
  case fin=>
   rintro ⟨b1,b2⟩ s' ⟨hb,rfl,i,hij,hrest⟩;exfalso;have h3:=congrArg zx hrest;simp at h3;omega
  case h=>
   exact⟨rfl,rfl,0,dC _,by simp⟩
theorem sN:fillsNumberSlot (.type "tuple") "mul"=pure false:=
 fillsNumberSlot_seq (id:="tuple.__mul__") (r:=some (.builtin "tuple.__rmul__")) F.slot_tuple_mul.lookup 1#0 F.slot_tuple_rmul.lookup 1#0
theorem yN:seqRepeat? (.type "tuple")=pure (some (.builtin "tuple.__mul__")):=by
 unfold seqRepeat?;rw [seqSlot_of (T:="tuple") (name:="__mul__") (id:="tuple.__mul__") F.slot_tuple_mul.lookup 1#0,seqSlot_of (T:="tuple") (name:="__rmul__") (id:="tuple.__rmul__") F.slot_tuple_rmul.lookup 1#0];rfl
theorem uI(a:Int)(t:Tok)(l:Addr)(items:Array Value)(n:Nat)(dd:Option Addr)(sl:Array (Option Value)):
  Meets (Builtin.«int.__rmul__» ⟨[.int a t,.ref l],[]⟩) (fun _ R s=>s.heap.get? l=some { cls := .type "tuple",dict:=dd,data := .seq items n,slots:=sl }/\R (.ok (.ret Value.notImplemented)) s):=
 .of_wp λprog w A R s h=>by obtain⟨hp,g,d,tk,os⟩:=s;obtain⟨hl,h⟩:=h;wp_walk;exact⟨_,rfl,h⟩
theorem xn(l:Addr)(items:Array Value)(n:Nat)(dd:Option Addr)(sl:Array (Option Value))(t:Tok):
  Meets (Builtin.«tuple.__mul__» ⟨[.ref l,.int 1 t],[]⟩) (fun _ R s=>s.heap.get? l=some { cls := .type "tuple",dict:=dd,data := .seq items n,slots:=sl }/\R (.ok (.ret (bx l))) { s with toks:=s.toks }):=
 .of_wp λprog w A R s h=>by
  obtain⟨hp,g,d,tk,os⟩:=s;obtain⟨hl,h⟩:=h;have f1:=uD;have hno: ¬((decide ((1:Int) < -2^63)||decide ((1:Int) >= 2^63))=true):=by decide
  have hyes:(items.isEmpty||(1:Int)==1)=true:=by simp
  wp_walk using hZ hl
  exact⟨_,rfl,h⟩
theorem Bo(l:Addr)(items:Array Value)(n:Nat)(dd:Option Addr)(sl:Array (Option Value))(t:Tok)(he:items.isEmpty=false):
  Meets (Builtin.«tuple.__mul__» ⟨[.ref l,.int 0 t],[]⟩) (fun _ R s=>s.heap.get? l=some { cls := .type "tuple",dict:=dd,data := .seq items n,slots:=sl }/\R (.ok (.ret (bx s.heap.objs.size))) { s with heap:=s.heap.push { cls:=A3 "tuple",data:=JA #[] },toks:=s.toks }):=
 .of_wp λprog w A R s h=>by
  obtain⟨hp,g,d,tk,os⟩:=s;obtain⟨hl,h⟩:=h;have f1:=uD;have hno: ¬((decide ((0:Int) < -2^63)||decide ((0:Int) >= 2^63))=true):=by decide
  have hno1: ¬((items.isEmpty||(0:Int)==1)=true):=by rw[he];decide
  have hyes:(decide ((0:Int)<=0)||items.isEmpty)=true:=by simp
  wp_walk using hZ hl
  exact⟨_,rfl,h⟩
theorem BH(l:Addr)(items:Array Value)(n:Nat)(dd:Option Addr)(sl:Array (Option Value))(k:Int)(t:Tok)(h1: ¬(items.isEmpty||k==1)=true)(h0:0<k)(hk:k<1000)(hz:items.size<1000):
  Meets (Builtin.«tuple.__mul__» ⟨[.ref l,.int k t],[]⟩) (fun _ R s=>s.heap.get? l=some { cls := .type "tuple",dict:=dd,data := .seq items n,slots:=sl } /\
   R (.ok (.ret (bx s.heap.objs.size))) { s with heap:=s.heap.push { cls:=A3 "tuple",data:=JA ((aR k.toNat items).foldl (· ++ ·) #[]) },toks:=s.toks }):=
 .of_wp λprog w A R s h=>by
  obtain⟨hp,g,d,tk,os⟩:=s;obtain⟨hl,h⟩:=h;have f1:=uD;have hno: ¬((decide (k < -2^63)||decide (k >= 2^63))=true):=by
   rw[kW,decide_eq_true_eq,decide_eq_true_eq];omega
  have he:items.isEmpty=false:=by
   cases q:items.isEmpty with
   |false=>rfl
   |true=>rw[q]at h1;simp at h1
  have hno2: ¬((decide (k<=0)||items.isEmpty)=true):=by
   rw[he,Bool.or_false,decide_eq_true_eq];omega
  have hp1:(items.size:Int)*k<=1000000:=by
   have a1:(items.size:Int)*k<=1000*k:=Int.mul_le_mul_of_nonneg_right 0#2 0#2;omega
  have hm1: ¬((items.size:Int)*k>(2^63-1)/8):=by omega
  have hm2: ¬(t9 ((items.size:Int)*k)=true):=by
   unfold t9;simp only[sizeLine_eq,decide_eq_true_eq,gt_iff_lt];omega
  have hsz:(List.foldl (λx1 x2=>x1++x2) #[] (aR k.toNat items)).size<=sizeLine:=by
   have e:∀(m:Nat) (a:Array Value),(List.foldl (λx1 x2=>x1++x2) a (aR m items)).size=a.size+m*items.size:=by
    intro m
    induction m with
    |zero=>intro a;simp
    |succ m ih=>intro a;rw[dH,qf,ih];simp;rw[jC];omega
   rw[e];have a2:k.toNat*items.size<=1000*items.size:=dX _ 0#2;rw[sizeLine_eq];simp;omega
  wp_walk using hZ hl
  rw[if_neg hno]
  wp_walk using hZ hl
  rw[if_neg h1]
  wp_walk using hZ hl
  rw[if_neg hm1]
  wp_walk using hZ hl
  all_goals first |exact⟨_,rfl,h⟩ |skip
end _G
namespace _G
open PySem PySem.Spec _L
open PyProof.Rows hiding St
mutual
def RU(H:Hp)(μ:List Addr):U->V->Prop
 |.non,v=>v=.non
 |.bl b,v=>v=.bl b
 |.int i,v=>v=.int i
 |.str x,v=>v=.str x
 |.tup us,v=>∃a vs,v=.ref a/\H a=some (.tup vs)/\RUs H μ us vs
 |.ref n,v=>∃a,v=.ref a/\μ[n]?=some a
 |.obj a,v=>v=.ref a
def RUs(H:Hp)(μ:List Addr):List U->List V->Prop
 |[],vs=>vs=[]
 |u::us,vs=>∃v r,vs=v::r/\RU H μ u v/\RUs H μ us r
end
structure bq(H H':Hp):Prop where
 t:∀a vs,H a=some (.tup vs)->H' a=some (.tup vs)
 f:∀a o u,H a=some (.frz o u)->H' a=some (.frz o u)
instance{H H':Hp}:CoeFun (bq H H') λ_=>∀a vs,H a=some (.tup vs)->H' a=some (.tup vs):=⟨bq.t⟩
def Pre(μ Y4:List Addr):Prop:= ∃t,Y4=μ++t
theorem bq.refl(H:Hp):bq H H:=⟨λ_ _ h=>h,λ_ _ _ h=>h⟩
variable{H H1:Hp}
theorem bq.trans{H2:Hp}(a:bq H H1)(b:bq H1 H2):bq H H2:=⟨λc vs h=>b c vs (a c vs h),λc o u h=>b.f c o u (a.f c o u h)⟩
theorem Pre.refl(μ:List Addr):Pre μ μ:=⟨[],by simp⟩
variable{μ Y0:List Addr}
theorem Pre.trans{Y5:List Addr}(a:Pre μ Y0)(b:Pre Y0 Y5):Pre μ Y5:=by
 obtain⟨t,rfl⟩:=a;obtain⟨u,rfl⟩:=b;exact⟨t++u,by simp⟩
variable{n:Nat}{a:Addr}
theorem Pre.get{Y4:List Addr}(p:Pre μ Y4)(h:μ[n]?=some a):Y4[n]?=some a:=by
 obtain⟨t,rfl⟩:=p;have hn:n<μ.length:=(ag.mp h).1;rw[aM hn];exact h
variable{p:Addr}
theorem bq.new{o:HO}(h:H p=none):bq H (upd H p o):=⟨λa vs e=>by rw[bo (bf e h)];exact e,λa _ _ e=>by rw[bo (bf e h)];exact e⟩
theorem bq.wr{xs ys:List V}(h:H p=some 6#5):bq H (upd H p (.lst ys)):=⟨λa vs e=>by
 rw[bo (qy e h 20#6)];exact e,λa _ _ e=>by
 rw[bo (qy e h (by intro z;cases z))];exact e⟩
mutual
theorem RU.mono{H H':Hp}{μ Y4:List Addr}(k:bq H H')(p:Pre μ Y4):∀(u:U) (v:V),RU H μ u v->RU H' Y4 u v
 |.non,_,h=>by simpa [RU]using h
 |.bl _,_,h=>by simpa [RU]using h
 |.int _,_,h=>by simpa [RU]using h
 |.str _,_,h=>by simpa [RU]using h
 |.obj _,_,h=>by simpa [RU]using h
 | .ref n,v,h=>by
   simp only[RU]at h ⊢;obtain⟨a,e,q⟩:=h;exact⟨a,e,p.get q⟩
 | .tup us,v,h=>by
   simp only[RU]at h ⊢;obtain⟨a,vs,e,q,r⟩:=h;exact⟨a,vs,e,k a vs q,RUs.mono k p us vs r⟩
theorem RUs.mono{H H':Hp}{μ Y4:List Addr}(k:bq H H')(p:Pre μ Y4):∀(us:List U) (vs:List V),RUs H μ us vs->RUs H' Y4 us vs
 |[],_,h=>by simpa [RUs]using h
 | u::us,vs,h=>by
   simp only[RUs]at h ⊢;obtain⟨v,r,e,a,b⟩:=h;exact⟨v,r,e,RU.mono k p u v a,RUs.mono k p us r b⟩
end
section
variable {H:Hp}{μ:List Addr}
theorem RUs.nil:RUs H μ [] []:=by simp[RUs]
theorem RUs.cons{u:U}{us:List U}{v:V}{vs:List V}(a:RU H μ u v)(b:RUs H μ us vs):RUs H μ (u::us) (v::vs):=by
 simp only[RUs];exact⟨v,vs,rfl,a,b⟩
variable{us:List U}{vs:List V}
theorem RUs.inv{u:U}(h:RUs H μ (u::us) vs):∃v r,vs=v::r/\RU H μ u v/\RUs H μ us r:=by simpa only [RUs]using h
theorem RUs.nil_inv(h:RUs H μ [] vs):vs=[]:=by simpa only [RUs]using h
theorem RUs.len:∀{us:List U}{vs:List V},RUs H μ us vs->us.length=vs.length
 |[],vs,h=>by rw[h.nil_inv];rfl
 | u::us,vs,h=>by
   obtain⟨v,r,rfl,_,b⟩:=h.inv;simp[b.len]
theorem RUs.get:∀{us:List U}{vs:List V}{i:Nat}{u:U},RUs H μ us vs->us[i]?=some u->∃v,vs[i]?=some v/\RU H μ u v
 |[],vs,i,u,h,e=>by simp at e
 | x::us,vs,0,u,h,e=>by
   obtain⟨v,r,rfl,a,b⟩:=h.inv;simp at e;subst e;exact⟨v,rfl,a⟩
 | x::us,vs,i+1,u,h,e=>by
   obtain⟨v,r,rfl,a,b⟩:=h.inv;obtain⟨w,h1,h2⟩:=RUs.get (i:=i) b (by simpa using e);exact⟨w,by simpa using h1,h2⟩
theorem RUs.append:∀{us ws:List U}{vs xs:List V},RUs H μ us vs->RUs H μ ws xs->RUs H μ (us++ws) (vs++xs)
 |[],ws,vs,xs,h,g=>by rw[h.nil_inv];exact g
 | u::us,ws,vs,xs,h,g=>by
   obtain⟨v,r,rfl,a,b⟩:=h.inv;exact .cons a (b.append g)
theorem RUs.set{u:U}{v:V}(q:RU H μ u v):∀{us:List U}{vs:List V} (i:Nat),RUs H μ us vs->RUs H μ (us.set i u) (vs.set i v)
 |[],vs,i,h=>by rw[h.nil_inv];simpa using RUs.nil
 | x::us,vs,0,h=>by
   obtain⟨w,r,rfl,a,b⟩:=h.inv;exact .cons q b
 | x::us,vs,i+1,h=>by
   obtain⟨w,r,rfl,a,b⟩:=h.inv;exact .cons a (RUs.set q i b)
theorem RUs.eraseIdx:∀{us:List U}{vs:List V} (i:Nat),RUs H μ us vs->RUs H μ (us.eraseIdx i) (vs.eraseIdx i)
 |[],vs,i,h=>by rw[h.nil_inv];simpa using RUs.nil
 | x::us,vs,0,h=>by
   obtain⟨w,r,rfl,a,b⟩:=h.inv;exact b
 | x::us,vs,i+1,h=>by
   obtain⟨w,r,rfl,a,b⟩:=h.inv;exact .cons a (RUs.eraseIdx i b)
theorem RUs.drop:∀{us:List U}{vs:List V} (i:Nat),RUs H μ us vs->RUs H μ (us.drop i) (vs.drop i)
 |us,vs,0,h=>h
 |[],vs,i+1,h=>by rw[h.nil_inv];simpa using RUs.nil
 | x::us,vs,i+1,h=>by
   obtain⟨w,r,rfl,a,b⟩:=h.inv;exact RUs.drop i b
theorem RUs.take:∀{us:List U}{vs:List V} (i:Nat),RUs H μ us vs->RUs H μ (us.take i) (vs.take i)
 |us,vs,0,h=>by simpa using RUs.nil
 |[],vs,i+1,h=>by rw[h.nil_inv];simpa using RUs.nil
 | x::us,vs,i+1,h=>by
   obtain⟨w,r,rfl,a,b⟩:=h.inv;exact .cons a (RUs.take i b)
theorem RUs.dropLast(h:RUs H μ us vs):RUs H μ us.dropLast vs.dropLast:=by
 rw[Js,Js,h.len];exact h.take _
theorem RUs.ints:∀(ns:List Int),RUs H μ 14#6 8#6
 |[]=>.nil
 |n::ns=>.cons (by simp[RU]) (RUs.ints ns)
end
structure KX where
 K:ao
 caps:List U
 capv:List V
 cds:List (Addr×Obj)
 tabs:List (Addr×Str)
instance:Coe KX ao:=⟨KX.K⟩
def fz:HO:= .ext λ_=>True
def Cm(H:Hp)(P:Addr)(q:Str):Prop:= ∃ps:Array Value,H P=some (.tbl ps)/\TriplesOk ps.toList /\
 ∀pos cv,codeAmong pos ps.toList=some cv->∃c oc vs t,cv=.ref c/\H c=some (.frz oc fz)/\oc.data=.fields vs/\vs[1]?=some (.str q t)
structure HX(K:KX)(μ:List Addr)(H:Hp):Prop where
 cap:RUs H μ K.caps K.capv
 cds:∀q∈K.cds,H q.1=some (.frz q.2 fz)
 tab:∀q∈K.tabs,Cm H q.1 q.2
theorem HX.upd{K:KX}{μ Y4:List Addr}{H:Hp}{p:Addr}{o':HO}(h:HX K μ H)(kp:bq H (upd H p o'))(pre:Pre μ Y4)(nf:∀o,H p=some o->(∀o' u,o≠.frz o' u) /\ ∀ps,o≠.tbl ps):HX K Y4 (upd H p o'):=by
 have f:∀a o u,H a=some (.frz o u)->_L.upd H p o' a=some (.frz o u):=λa o u e=>by
  rw[bo]
  .exact e
  .rintro rfl
   exact(nf _ e).1 o u rfl
 refine⟨RUs.mono kp pre _ _ h.cap,λq hq=>f _ _ _ (h.cds q hq),λq hq=>?_⟩;obtain⟨ps,e,tr,al⟩:=h.tab q hq;refine⟨ps,?_,tr,λpos cv hc=>?_⟩
 .rw[bo]
  .exact e
  .intro z
   rw[z]at e;exact(nf _ e).2 ps rfl
 .obtain⟨c,oc,vs,t,e1,e2,e3,e4⟩:=al pos cv hc
  exact⟨c,oc,vs,t,e1,f _ _ _ e2,e3,e4⟩
def dV{κ:Type}(kvs:List (κ×U))(vs:List V):List (κ×V):=(kvs.map 2#2).zip vs
def oY(K:KX)(H:Hp)(μ:List Addr)(a:Addr):Cell->Prop
 |.lst us=>∃vs,H a=some (.lst vs)/\RUs H μ us vs
 |.frz us=>∃vs,((∃o,H a=some (.frz o (.lst vs)))\/SqL K (λ_=>none) a vs)/\RUs H μ us vs
 |.dic kvs=>∃vs,H a=some (.dK (dV kvs vs))/\RUs H μ 17#5 vs
 |.dit false kvs=>∃vs,H a=some (.dT (dV kvs vs))/\RUs H μ 17#5 vs
 |.dit true kvs=>∃vs,(∃o,H a=some (.frz o (.dT (dV kvs vs))))/\RUs H μ 17#5 vs
def Cell.own:Cell->Bool
 |.frz _=>false
 |.dit f _=>!f
 |_=>true
structure HR(K:KX)(μ:List Addr)(S:Sto)(H:Hp):Prop where
 len:μ.length=S.length
 inj:∀(n m:Nat) (c d:Cell),S[n]?=some c->S[m]?=some d->c.own=true->d.own=true->μ[n]?=μ[m]? -> n=m
 cell:∀(n:Nat) (c:Cell) (a:Addr),S[n]?=some c->μ[n]?=some a->oY K H μ a c
 ext:HX K μ H
structure ER(H:Hp)(μ:List Addr)(Y:Rho)(G:St):Prop where
 len:Y.length=G.length
 get:∀(i:Nat) (u:U),Y[i]?=some (some u)->∃v,G[i]?=some (some v)/\RU H μ u v
theorem ER.mono{H H':Hp}{μ Y4:List Addr}{Y:Rho}{G:St}(e:ER H μ Y G)(k:bq H H')(p:Pre μ Y4):ER H' Y4 Y G:=
 ⟨e.len,λi u h=>let ⟨v,a,b⟩:=e.get i u h;⟨v,a,RU.mono k p u v b⟩⟩
variable{u:U}{Y:Rho}{G:St}{v:V}
theorem ER.set(e:ER H μ Y G)(r:RU H μ u v)(i:Nat):ER H μ 20#8 (G.set i (some v)):=by
 refine⟨by simpa using e.len,λj w h=>?_⟩;by_cases hj:i=j
 .subst hj
  rw[List.getElem?_set]at h;simp only[if_true]at h
  split at h
  .rename_i hl
   cases h;refine⟨v,?_,r⟩;rw[aN (by rw[<-e.len];exact hl)]
  .cases h
 .rw[aB hj]at h
  obtain⟨x,a,b⟩:=e.get j w h;exact⟨x,by rw[aB hj];exact a,b⟩
theorem ER.push(e:ER H μ Y G)(r:RU H μ u v):ER H μ 7#7 (G++[some v]):=by
 refine⟨by simp[e.len],λj w h=>?_⟩;by_cases hj:j<Y.length
 .rw[aM hj]at h
  obtain⟨x,a,b⟩:=e.get j w h;exact⟨x,by rw[aM (by rw[<-e.len];exact hj)];exact a,b⟩
 .have hj':j=Y.length:=by
   have:=(ag.mp h).1;simp at this;omega
  subst hj';rw[aq 0#9]at h;simp at h;subst h;refine⟨v,?_,r⟩;rw[e.len,aq 0#9];simp
section
variable {K:KX}{H:Hp}{μ:List Addr}{S:Sto}
theorem oY.mono{H':Hp}{Y4:List Addr}{a:Addr}{c:Cell}(h:oY K H μ a c)(k:bq H H')(p:Pre μ Y4)(l:c.own=true->H' a=H a)(f:∀o u,H a=some (.frz o u)->H' a=some (.frz o u)):oY K H' Y4 a c:=by
 cases c with
 | lst us=>
   obtain⟨vs,e,r⟩:=h;exact⟨vs,(l rfl).trans e,RUs.mono k p us vs r⟩
 | dic kvs=>
   obtain⟨vs,e,r⟩:=h;exact⟨vs,(l rfl).trans e,RUs.mono k p _ vs r⟩
 | dit b kvs=>
   cases b with
   | false=>
     obtain⟨vs,e,r⟩:=h;exact⟨vs,(l rfl).trans e,RUs.mono k p _ vs r⟩
   | true=>
     obtain⟨vs,⟨o,e⟩,r⟩:=h;exact⟨vs,⟨o,f o _ e⟩,RUs.mono k p _ vs r⟩
 | frz us=>
   obtain⟨vs,e,r⟩:=h;refine⟨vs,?_,RUs.mono k p us vs r⟩;rcases e with⟨o,e⟩|e
   .exact .inl ⟨o,f o _ e⟩
   .exact .inr e
variable{c:Cell}
theorem oY.has(h:oY K H μ a c)(ho:c.own=true):∃o,H a=some o/\(∀vs,o≠.tup vs)/\(∀o' u,o≠.frz o' u) /\ ∀ps,o≠.tbl ps:=by
 cases c with
 |lst us=>obtain⟨vs,e,r⟩:=h;exact 29#0
 |dic kvs=>obtain⟨vs,e,r⟩:=h;exact 29#0
 | dit b kvs=>
   cases b with
   |false=>obtain⟨vs,e,r⟩:=h;exact 29#0
   |true=>cases ho
 |frz us=>cases ho
variable{o':HO}
theorem bq.wrG{H:Hp}{o:HO}(h:H p=some o)(ht: ∀vs,o≠.tup vs)(hf: ∀ob u,o≠.frz ob u):bq H (upd H p o'):=⟨λa vs e=>by
 rw[bo (qy e h (dZ (ht vs)))];exact e,λa ob u e=>by
 rw[bo (qy e h (dZ (hf ob u)))];exact e⟩
theorem HR.get(h:HR K μ S H)(e:S[n]?=some c):∃a,μ[n]?=some a/\oY K H μ a c:=by
 have hn:n<μ.length:=by rw[h.len];exact(ag.mp e).1
 exact⟨μ[n],by simp[hn],h.cell n c _ e (by simp[hn])⟩
theorem HR.wrC(h:HR K μ S H){d:Cell}(e:S[n]?=some c)(ea:μ[n]?=some a)(hc:c.own=true)(r:oY K (upd H a o') μ a d):HR K μ (S.set n d) (upd H a o'):=by
 obtain⟨o,e0,nt,nf,nb⟩:=(h.cell n _ a e ea).has hc;have kp:bq H (upd H a o'):=bq.wrG e0 nt nf;have hn:n<S.length:=(ag.mp e).1;have pick:∀(m:Nat) (c':Cell),(S.set n d)[m]?=some c'->c'.own=true->∃c'',S[m]?=some c''/\c''.own=true:=λm c' q hq=>by
  by_cases hm:n=m
  .subst hm;exact⟨c,e,hc⟩
  .rw[aB hm]at q;exact⟨c',q,hq⟩
 refine⟨by rw[fH];exact h.len,λi j u1 u2 q1 q2 o1 o2 q3=>?_,λm c' b q1 q2=>?_,h.ext.upd kp 1#6 λo1 q=>by rw[e0]at q;cases q;exact⟨nf,nb⟩⟩
 .obtain⟨w1,z1,y1⟩:=pick i u1 q1 o1
  obtain⟨w2,z2,y2⟩:=pick j u2 q2 o2;exact h.inj i j w1 w2 z1 z2 y1 y2 q3
 .by_cases hm:n=m
  .subst hm
   rw[aN hn]at q1;cases q1;rw[ea]at q2;cases q2;exact r
  .rw[aB hm]at q1
   refine(h.cell m c' b q1 q2).mono kp 1#6 (λhc'=>?_) λo u hf=>?_
   .refine bo ?_
    rintro rfl;exact hm (h.inj n m c c' e q1 hc hc' (ea.trans q2.symm))
   .rw[bo (qy hf e0 (dZ (nf o u)))];exact hf
theorem HR.wr(h:HR K μ S H){n:Nat}{us ws:List U}{vs:List V}{a:Addr}(e:S[n]?=some (.lst us))(ea:μ[n]?=some a)(r:RUs H μ ws vs):HR K μ (S.set n (.lst ws)) (upd H a (.lst vs)):=by
 obtain⟨vs0,e0,r0⟩:=h.cell n _ a e ea;exact h.wrC e ea rfl ⟨vs,cz,RUs.mono (bq.wr e0) 1#6 ws vs r⟩
theorem HR.newC(h:HR K μ S H){d:Cell}(hp:H p=none)(hd:d.own=true)(r:oY K (upd H p o') (μ++[p]) p d):HR K (μ++[p]) (S++[d]) (upd H p o'):=by
 have kp:bq H (upd H p o'):=bq.new hp;have pre:Pre μ (μ++[p]):=⟨[p],rfl⟩;have old:∀(n:Nat) (c:Cell),n<S.length->(S++[d])[n]?=some c->S[n]?=some c:=λn c hn q=>by rwa[aM hn]at q
 have last:∀(n:Nat) (c:Cell),¬n<S.length->(S++[d])[n]?=some c->n=S.length:=λn c hn q=>by
  have:=(ag.mp q).1;simp at this;omega
 have fresh:∀(n:Nat) (c:Cell),S[n]?=some c->c.own=true->∀a,μ[n]?=some a->a≠p:=λn c q hc a qa=>by
  obtain⟨o,e,_⟩:=(h.cell n _ a q qa).has hc;exact bf e hp
 have mulast:(μ++[p])[S.length]?=some p:=by rw[<-h.len,aq 0#9];simp
 have muold:∀(n:Nat),n<S.length->(μ++[p])[n]?=μ[n]? := λn hn=>aM (by rw[h.len];exact hn);refine⟨by simp[h.len],λi j u1 u2 q1 q2 o1 o2 q3=>?_,λm c b q1 q2=>?_,h.ext.upd kp pre λo1 q=>by rw[hp]at q;cases q⟩
 .by_cases hi:i<S.length
  .by_cases hj:j<S.length
   .rw[muold i hi,muold j hj]at q3
    exact h.inj i j u1 u2 (old i _ hi q1) (old j _ hj q2) o1 o2 q3
   .have e:=last j _ hj q2
    subst e;obtain⟨a,ha,_⟩:=h.get (old i _ hi q1);rw[muold i hi,mulast,ha]at q3;exact absurd (b9 q3) (fresh i u1 (old i _ hi q1) o1 a ha)
  .have e:=last i _ hi q1
   subst e;by_cases hj:j<S.length
   .obtain⟨a,ha,_⟩:=h.get (old j _ hj q2)
    rw[muold j hj,mulast,ha]at q3;exact absurd (b9 q3).symm (fresh j u2 (old j _ hj q2) o2 a ha)
   .exact(last j _ hj q2).symm
 .by_cases hm:m<S.length
  .rw[muold m hm]at q2
   refine(h.cell m c b (old m c hm q1) q2).mono kp pre (λhc=>?_) λo u hf=>?_
   .exact bo (fresh m c (old m _ hm q1) hc b q2)
   .rw[bo (bf hf hp)];exact hf
  .have e:=last m c hm q1
   subst e;rw[mulast]at q2;cases q2;rw[aq 0#9]at q1;simp at q1;subst q1;exact r
theorem HR.new(h:HR K μ S H){us:List U}{vs:List V}{p:Addr}(hp:H p=none)(r:RUs H μ us vs):HR K (μ++[p]) (S++[.lst us]) (upd H p (.lst vs)):=
 h.newC hp rfl ⟨vs,cz,RUs.mono (bq.new hp) ⟨[p],rfl⟩ us vs r⟩
theorem HR.tup(h:HR K μ S H){vs:List V}{p:Addr}(hp:H p=none):HR K μ S (upd H p (.tup vs)):=by
 have kp:bq H (upd H p (.tup vs)):=bq.new hp;refine⟨h.len,h.inj,λm c b q1 q2=>(h.cell m c b q1 q2).mono kp 1#6 (λhc=>?_) λo u hf=>?_,h.ext.upd kp 1#6 λo1 q=>by rw[hp]at q;cases q⟩
 .obtain⟨o,e,_⟩:=(h.cell m _ b q1 q2).has hc
  exact bo (bf e hp)
 .rw[bo (bf hf hp)];exact hf
theorem HR.sq(h:HR K μ S H){us:List U}(e:getL S n=some us):∃a vs,μ[n]?=some a/\SqL K H a vs/\RUs H μ us vs:=by
 unfold getL at e
 split at e
 .rename_i ws q
  cases e;obtain⟨a,ha,vs,e1,r⟩:=h.get q;exact⟨a,vs,ha,SqL.of e1,r⟩
 .rename_i ws q
  cases e;obtain⟨a,ha,vs,e1,r⟩:=h.get q;refine⟨a,vs,ha,?_,r⟩;rcases e1 with⟨o,e1⟩|e1
  .exact .inl (.inr ⟨o,e1⟩)
  .rcases e1 with (e1|⟨o,e1⟩)|e1
   .cases e1
   .cases e1
   .exact .inr e1
 .cases e
 .cases e
 .cases e
end
def Aft(K:KX)(μ:List Addr)(H:Hp)(u:U)(S':Sto)(Q:VK):Prop:= ∀Y4 v H',Pre μ Y4->bq H H'->HR K Y4 S' H'->RU H' Y4 u v->Q v H'
def tM(K:KX)(m:ME):TE:=λG H Q=>∃μ S Y u S',HR K μ S H/\ER H μ Y G/\m Y S=some (u,S')/\Aft K μ H u S' Q
def tMT(K:KX)(m:MT):TT:=λG H Q=>∃μ S Y b S',HR K μ S H/\ER H μ Y G/\m Y S=some (b,S') /\ ∀Y4 H',Pre μ Y4->bq H H'->HR K Y4 S' H'->Q b H'
def tMA(K:KX)(m:MA):TA:=λG H Q=>∃μ S Y us S',HR K μ S H/\ER H μ Y G/\m Y S=some (us,S') /\ ∀Y4 vs H',Pre μ Y4->bq H H'->HR K Y4 S' H'->RUs H' Y4 us vs->Q vs H'
def FlP(K:KX)(μ:List Addr)(H:Hp)(D:Ends):Fl×Rho×Sto->Prop
 |(.nx,Y2,S')=>∀Y4 Y3 H',Pre μ Y4->bq H H'->HR K Y4 S' H'->ER H' Y4 Y2 Y3->D.nx Y3 H'
 |(.bk,Y2,S')=>∀Y4 Y3 H',Pre μ Y4->bq H H'->HR K Y4 S' H'->ER H' Y4 Y2 Y3->D.bk Y3 H'
 |(.ct,Y2,S')=>∀Y4 Y3 H',Pre μ Y4->bq H H'->HR K Y4 S' H'->ER H' Y4 Y2 Y3->D.ct Y3 H'
 |(.rt u,_,S')=>Aft K μ H u S' D.rt
def tMS(K:KX)(m:MS):TS:=λD G H=>∃μ S Y r,HR K μ S H/\ER H μ Y G/\m Y S=some r/\FlP K μ H D r
variable{K:KX}{S':Sto}{Q:VK}
theorem Aft.mono(a:Aft K μ H u S' Q)(p:Pre μ Y0)(k:bq H H1):Aft K Y0 H1 u S' Q:=
 λY4 v H' p' k'=>a Y4 v H' (p.trans p') (k.trans k')
theorem FlP.mono{K:KX}{μ Y0:List Addr}{H H1:Hp}{D:Ends}{r:Fl×Rho×Sto}(a:FlP K μ H D r)(p:Pre μ Y0)(k:bq H H1):FlP K Y0 H1 D r:=by
 obtain⟨f,Y2,S'⟩:=r;cases f with
 |nx=>exact λY4 Y3 H' p' k'=>a Y4 Y3 H' (p.trans p') (k.trans k')
 |bk=>exact λY4 Y3 H' p' k'=>a Y4 Y3 H' (p.trans p') (k.trans k')
 |ct=>exact λY4 Y3 H' p' k'=>a Y4 Y3 H' (p.trans p') (k.trans k')
 |rt u=>exact Aft.mono a p k
section
variable {K:KX}{G:St}{H:Hp}{Q:VK}
theorem qX{A B:Prop}(h:A):if true=true then A else B:=by rw[if_pos rfl];exact h
theorem rm{A B:Prop}(h:B):if false=true then A else B:=by rw[if_neg bM];exact h
theorem SQ{i:Nat}(h:tM K (ae i) G H Q):Ta i G H Q:=by
 obtain⟨μ,S,Y,u,S',hr,er,e,k⟩:=h;unfold ae at e
 split at e
 .rename_i w q
  cases e;obtain⟨v,hv,ru⟩:=er.get i _ q;exact⟨v,hv,k μ v H 1#6 7#8 hr ru⟩
 .cases e
theorem r_c(hv:∀H μ,RU H μ u v)(h:tM K (mC u) G H Q):tC v G H Q:=by
 obtain⟨μ,S,Y,u',S',hr,er,e,k⟩:=h;cases e;exact k μ v H 1#6 7#8 hr (hv _ _)
def OpU(K:KX)(r:R2)(f:F2):Prop:= ∀(μ:List Addr) (S:Sto) (H:Hp) (x y:U) (vx vy:V) (u:U) (S':Sto) (Q:VK),HR K μ S H->RU H μ x vx->RU H μ y vy->f x y S=some (u,S')->Aft K μ H u S' Q->r vx vy H Q
variable{f:F2}
theorem zc{r:R2}{a b:ME}(o:OpU K r f)(h:tM K (m2 f a b) G H Q):tOp r (tM K a) (tM K b) G H Q:=by
 obtain⟨μ,S,Y,u,S',hr,er,e,k⟩:=h;obtain⟨x,S1,e1,e⟩:=ba e;obtain⟨y,S2,e2,e⟩:=ba e;refine 9#3;refine⟨Y0,S1,Y,y,S2,hr1,er.mono k1 p1,e2,λY5 vy H2 p2 k2 hr2 ry=>?_⟩;exact o Y5 S2 H2 x y vx vy u S' Q hr2 (RU.mono k2 p2 x vx rx) ry e (k.mono 8#1 9#0)
def UnU(K:KX)(r:V->Hp->VK->Prop)(f:U->Sto->Res U):Prop:= ∀(μ:List Addr) (S:Sto) (H:Hp) (x:U) (vx:V) (u:U) (S':Sto) (Q:VK),HR K μ S H->RU H μ x vx->f x S=some (u,S')->Aft K μ H u S' Q->r vx H Q
theorem TU{r:V->Hp->VK->Prop}{f:U->Sto->Res U}{a:ME}(o:UnU K r f)(h:tM K (m1 f a) G H Q):tUn r (tM K a) G H Q:=by
 obtain⟨μ,S,Y,u,S',hr,er,e,k⟩:=h;obtain⟨x,S1,e1,e⟩:=ba e;refine 9#3;exact o Y0 S1 H1 x vx u S' Q hr1 rx e 10#6
variable{S:Sto}
theorem Aft.now(k:Aft K μ H u S Q)(hr:HR K μ S H)(r:RU H μ u v):Q v H:=k μ v H 1#6 7#8 hr r
variable{i:Int}
theorem fj:RU H μ 3#6 3#6:=by simp[RU]
variable{b:Bool}
theorem jG:RU H μ (.bl b) (.bl b):=by simp[RU]
theorem su:RU H μ .non .non:=by simp[RU]
variable{us:List U}{vs:List V}
theorem iV(e:H a=some (.tup vs))(r:RUs H μ us vs):RU H μ (.tup us) (.ref a):=by
 simp only[RU];exact⟨a,vs,rfl,e,r⟩
theorem vv(e:μ[n]?=some a):RU H μ (.ref n) (.ref a):=by
 simp only[RU];exact⟨a,rfl,e⟩
theorem dI(h:RU H μ 3#6 v):v=.int i:=by simpa only [RU]using h
theorem jF(h:RU H μ (.bl b) v):v=.bl b:=by simpa only [RU]using h
theorem iG(h:RU H μ (.tup us) v):∃a vs,v=.ref a/\H a=some (.tup vs)/\RUs H μ us vs:=by simpa only [RU]using h
theorem fF(h:RU H μ (.ref n) v):∃a,v=.ref a/\μ[n]?=some a:=by simpa only [RU]using h
variable{g:Int->Int->V}
theorem CL{k:Int->Int->U}(hf:∀x y S u S',f x y S=some (u,S')->∃i j,x=.int i/\y=.int j/\u=k i j/\S'=S)(hg:∀H μ i j,RU H μ (k i j) (g i j)):OpU K (rI0 g) f:=by
 intro μ S H x y vx vy u S' Q hr rx ry e a;obtain⟨i,j,rfl,rfl,rfl,rfl⟩:=hf x y S u S' e;exact⟨i,j,dI rx,dI ry,a.now hr (hg _ _ _ _)⟩
theorem BR{C:Int->Int->Prop}{k:Int->Int->U}(hf:∀x y S u S',f x y S=some (u,S')->∃i j,x=.int i/\y=.int j/\C i j/\u=k i j/\S'=S)(hg:∀H μ i j,RU H μ (k i j) (g i j)):OpU K (rI C g) f:=by
 intro μ S H x y vx vy u S' Q hr rx ry e a;obtain⟨i,j,rfl,rfl,c,rfl,rfl⟩:=hf x y S u S' e;exact⟨i,j,dI rx,dI ry,c,a.now hr (hg _ _ _ _)⟩
theorem PL:OpU K (rI0 λi j => .int (i - j)) sQ:=CL (k:=λi j => .int (i - j)) (λx y S u S' h=>by
 unfold sQ at h;split at h <;> simp at h;obtain⟨rfl,rfl⟩:=h;exact⟨_,_,rfl,rfl,rfl,rfl⟩) λ_ _ _ _=>fj
def L8(K:ao):R2:=λx y H Q=>∃l k xs,x=.ref l/\y=.int k/\H l=some (.tup xs)/\Cy xs.length k/\(k=1->Q (.ref l) H)/\(k≠1->∀p,H p=none->Q (.ref p) (upd H p (.tup (aR k.toNat xs).flatten)))
theorem wy(its:List Value):∀(m:Nat) (a:List Value),List.foldl (λx1 x2=>x1++x2) a.toArray (aR m its.toArray)=(a++(aR m its).flatten).toArray
 |0,a=>by simp
 | m+1,a=>by
   rw[dH,qf,List.append_toArray,wy its m (a++its),dH,fI,aJ]
theorem RUs.rep{H:Hp}{μ:List Addr}{us:List U}{vs:List V}(r:RUs H μ us vs):∀(m:Nat),RUs H μ (aR m us).flatten (aR m vs).flatten
 |0=>by simpa using RUs.nil
 | m+1=>by
   rw[dH,fI,dH,fI];exact r.append (RUs.rep r m)
variable{X:Cx}
theorem JM:OpR X (binaryOp .Mult) (L8 X.K):=by
 intro pins s G H x y v u Q I rx ry h;obtain⟨l,k,xs,rfl,rfl,hH,⟨h1,h2,h3,h4⟩,q1,q2⟩:=h;cases (show v=bx l from rx);obtain⟨t,rfl⟩:=ry;obtain⟨z,its,r,⟨⟨cls,dd,data,sl⟩,e,c,n,d⟩,_⟩:=I.hok l _ hH;simp only at c d;subst c d;have hl:its.length=xs.length:=r.length.symm;refine wpAny_binaryOp_repeat_ref (T:="tuple") (U:="int") 0#1 ⟨_,e,rfl⟩ (fun s'=>typeIs_int s' k t) sN F.fills_int_mul F.slot_int_rmul yN F.slot_int_index.lookup
  (call_meets F.slot_int_rmul (typeIs_int s k t) F.entry_int_rmul (F.args_int_rmul_2 _ _) (uI k t l its.toArray n dd sl) ⟨e,rfl,⟨_,e,rfl⟩,?_⟩)
 by_cases hk:k=1
 .subst hk
  exact call_meets A6 ⟨_,e,rfl⟩ zy (xw _ _) (xn l its.toArray n dd sl t) ⟨e,⟨.ref l,H,I,rfl,q1 rfl⟩⟩
 .by_cases hk0:k=0
  .subst hk0
   refine call_meets A6 ⟨_,e,rfl⟩ zy (xw _ _) (Bo l its.toArray n dd sl t ?_) ⟨e,?_⟩
   .cases its with
    |nil=>simp at hl;omega
    |cons a b=>rfl
   .exact⟨.ref s.heap.objs.size,_,I.laid (t':=s.toks) (o:= .tup []) 15#7 0#9 ⟨dC _,[],.nil,n9 _ _,_,aL _ rfl,rfl⟩,rfl,by simpa using q2 hk _ 15#8⟩
  refine call_meets A6 ⟨_,e,rfl⟩ zy (xw _ _) (BH l its.toArray n dd sl k t ?_ 0#2 h2 17#4) ⟨e,?_⟩
  .intro w
   rw[kW]at w;rcases w with w|w
   .have:its=[]:=by simpa using w
    rw[this]at hl;simp at hl;omega
   .exact hk (by simpa using w)
  .rw[show(#[]:Array Value)=([]:List Value).toArray from rfl,wy its k.toNat [],dg]
   refine⟨.ref s.heap.objs.size,_,I.laid (t':=s.toks) (o:= .tup (aR k.toNat xs).flatten) 15#7 0#9 ?_,rfl,q2 hk _ 15#8⟩;refine⟨?_,_,r.rep k.toNat,n9 _ _,_,aL _ rfl,rfl⟩;rw[len_rep,sizeLine_eq];have:k.toNat*xs.length<=1000*xs.length:=dX _ 0#2;omega
theorem PV:OpU K (λx y H Q=>rI K0 (λi j=>.int (i*j)) x y H Q\/L8 K x y H Q) gv:=by
 intro μ S H x y vx vy u S' Q hr rx ry e a;unfold gv at e
 split at e
 .split at e
  .rename_i hc
   simp at e;obtain⟨rfl,rfl⟩:=e;exact .inl ⟨_,_,dI rx,dI ry,hc,a.now hr fj⟩
  .cases e
 .rename_i xs k
  split at e
  .rename_i hc
   simp at e;obtain⟨rfl,rfl⟩:=e;obtain⟨p,vs,rfl,hp,r1⟩:=iG rx;refine .inr ⟨p,k,vs,rfl,dI ry,hp,by rw[<-r1.len];exact hc,λhk=>?_,λhk t ht=>?_⟩
   .subst hk
    have e1:(aR (1:Int).toNat xs).flatten=xs:=by simp
    rw[e1]at a;exact a.now hr (iV hp r1)
   .exact a μ _ _ 1#6 (bq.new ht) (hr.tup ht) (iV cz (RUs.mono (bq.new ht) 1#6 _ _ (r1.rep _)))
  .cases e
 .cases e
theorem PJ:OpU K (rI Qy λi j => .int (i / j)) oDiv:=BR (k:=λi j => .int (i / j)) (λx y S u S' h=>by
 unfold oDiv at h;split at h
 .split at h
  .rename_i hc;simp at h;obtain⟨rfl,rfl⟩:=h;exact⟨_,_,rfl,rfl,hc,rfl,rfl⟩
  .cases h
 ·cases h) λ_ _ _ _=>fj
theorem Nw:OpU K (rI (λ_ j=>0<j) λi j => .int (i % j)) oMod:=BR (k:=λi j => .int (i % j)) (λx y S u S' h=>by
 unfold oMod at h;split at h
 .split at h
  .rename_i hc;simp at h;obtain⟨rfl,rfl⟩:=h;exact⟨_,_,rfl,rfl,hc,rfl,rfl⟩
  .cases h
 ·cases h) λ_ _ _ _=>fj
theorem Oz:OpU K (rI R0 λi j => .int (i ^ j.toNat)) zd:=BR (k:=λi j => .int (i ^ j.toNat)) (λx y S u S' h=>by
 unfold zd at h;split at h
 .split at h
  .rename_i hc;simp at h;obtain⟨rfl,rfl⟩:=h;exact⟨_,_,rfl,rfl,hc,rfl,rfl⟩
  .cases h
 ·cases h) λ_ _ _ _=>fj
theorem za{p:Int->Int->Bool}:OpU K (rI0 λi j => .bl (p i j)) (EC p):=CL (k:=λi j => .bl (p i j)) (λx y S u S' h=>by
 unfold EC at h;split at h <;> simp at h;obtain⟨rfl,rfl⟩:=h;exact⟨_,_,rfl,rfl,rfl,rfl⟩) λ_ _ _ _=>jG
def L7(K:ao):R2:=λx y H Q=>∃a b ys,x=.ref a/\y=.ref b/\SqT K H a []/\SqT K H b ys/\Q (.ref b) H
theorem LM:OpR X (binaryOp .Add) (L7 X.K):=by
 intro pins s G H x y v u Q I rx ry h;obtain⟨a,b,ys,rfl,rfl,h1,h2,q⟩:=h;cases (show v=bx a from rx);cases 24#3;obtain⟨its,r1,p1,_⟩:=I.tuple h1;obtain⟨its2,r2,p2,_⟩:=I.tuple h2;cases r1;exact HT.cat_tup0 p1 p2 ⟨.ref b,H,I,rfl,q⟩
theorem PU:OpU K (λx y H Q=>rI0 (λi j=>.int (i+j)) x y H Q\/MU K x y H Q\/L7 K x y H Q\/Ql x y H Q) cK:=by
 intro μ S H x y vx vy u S' Q hr rx ry e a;unfold cK at e
 split at e
 .simp at e;obtain⟨rfl,rfl⟩:=e
  exact .inl ⟨_,_,dI rx,dI ry,a.now hr fj⟩
 .rename_i xs ys
  split at e
  .rename_i hc
   simp at e;obtain⟨rfl,rfl⟩:=e;obtain⟨p,vs,rfl,hp,r1⟩:=iG rx;obtain⟨q,ws,rfl,hq,r2⟩:=iG ry;by_cases hx:xs=[]
   .subst hx
    have hv:vs=[]:=by have:=r1.len;exact dJ (by simpa using this.symm)
    subst hv;exact .inr (.inr (.inl ⟨p,q,ws,rfl,rfl,.inl (.inl hp),.inl (.inl hq),a.now hr (iV hq r2)⟩))
   refine .inr (.inl ⟨p,q,vs,ws,rfl,rfl,.inl (.inl hp),.inl (.inl hq),?_,?_,λz=>?_,λz t ht=>?_⟩)
   .intro z;subst z;have:=r1.len;exact hx (dJ (by simpa using this))
   .have h1:=r1.len;have h2:=r2.len;unfold big at hc;rw[sizeLine_eq];omega
   .subst z
    have:ys=[]:=by have:=r2.len;exact dJ (by simpa using this)
    subst this;rw[gK]at a;exact a.now hr (iV hp r1)
   .refine a μ _ _ 1#6 (bq.new ht) (hr.tup ht) ?_
    have kp:bq H (upd H t (.tup (vs++ws))):=bq.new ht;exact iV cz ((RUs.mono kp 1#6 _ _ r1).append (RUs.mono kp 1#6 _ _ r2))
  .cases e
 .rename_i n m
  split at e
  .rename_i xs ys q1 q2
   split at e
   .rename_i hc
    simp at e;obtain⟨rfl,rfl⟩:=e;obtain⟨p,rfl,hp⟩:=fF rx;obtain⟨q,rfl,hq⟩:=fF ry;obtain⟨vs,e1,r1⟩:=hr.cell n _ p q1 hp;obtain⟨ws,e2,r2⟩:=hr.cell m _ q q2 hq;refine .inr (.inr (.inr ⟨p,q,vs,ws,rfl,rfl,e1,e2,?_,λt ht=>?_⟩))
    .have h1:=r1.len;have h2:=r2.len;unfold big at hc;rw[sizeLine_eq];omega
    .refine a (μ++[t]) _ _ ⟨[t],rfl⟩ (bq.new ht) (hr.new ht (r1.append r2)) (vv ?_)
     rw[<-hr.len,aq 0#9];simp
   .cases e
  .cases e
 .cases e
theorem HR.seq{x:U}(hr:HR K μ S H)(r:RU H μ x v)(e:eC S x=some us):∃a vs,v=.ref a/\(SqL K H a vs\/SqT K H a vs)/\RUs H μ us vs:=by
 unfold eC at e
 split at e
 .cases e
  obtain⟨a,vs,rfl,h,q⟩:=iG r;exact⟨a,vs,rfl,.inr (.inl (.inl h)),q⟩
 .obtain⟨a,rfl,ha⟩:=fF r
  obtain⟨a',vs,ha',hs,q⟩:=hr.sq e;rw[ha]at ha';cases ha';exact⟨a,vs,rfl,.inl hs,q⟩
 .cases e
theorem JL(r:RUs H μ us vs)(e:atI us i=some u):∃v,atI vs i=some v/\RU H μ u v:=by
 unfold atI at e ⊢;rw[<-r.len];cases q:ixN us.length i with
 |none=>rw[q]at e;cases e
 | some j=>
   rw[q]at e;exact r.get e
theorem qI{y:U}{k:Key}(r:RU H μ y v)(e:keyOf y=some k):v=kV k:=by
 cases y<;>simp only[keyOf,fg,reduceCtorEq]at e<;>subst e<;>(simp only[RU]at r;exact r)
theorem CC{κ:Type} [DecidableEq κ] {μ:List Addr}{k:κ}{u:U}:∀{kvs:List (κ×U)}{vs:List V},RUs H μ 17#5 vs->kf kvs k=some u->∃v,nQ (dV kvs vs) k=some v/\RU H μ u v
 |[],vs,r,e=>by cases e
 | (j,x)::kvs,vs,r,e=>by
   obtain⟨v,r',rfl,a,b⟩:=r.inv;show ∃w,nQ ((j,v)::dV kvs r') k=some w/\_;by_cases h:j=k
   .rw[nB h]
    simp[kf,bV,h]at e;subst e;exact⟨v,rfl,a⟩
   .rw[ny h]
    refine CC b ?_;simpa [kf,bV,h]using e
theorem uT{κ:Type} [DecidableEq κ] {k:κ}:∀{kvs:List (κ×U)}{vs:List V},kvs.length=vs.length->(nQ (dV kvs vs) k).isSome=(kf kvs k).isSome
 |[],vs,_=>by simp[dV,nQ,kf]
 |(j,x)::kvs,[],h=>by simp at h
 | (j,x)::kvs,v::vs,h=>by
   show(nQ ((j,v)::dV kvs vs) k).isSome=_;by_cases hj:j=k
   .rw[nB hj];simp[kf,bV,hj]
   .rw[ny hj,uT 14#2];simp[kf,bV,hj]
theorem Jm{κ:Type} [DecidableEq κ] {k:κ}:∀{kvs:List (κ×U)}{vs:List V},kvs.length=vs.length->((dV kvs vs).any λkv=>decide (kv.1=k))=kvs.any λkv=>decide (kv.1=k)
 |[],vs,_=>by simp[dV]
 |(j,x)::kvs,[],h=>by simp at h
 | (j,x)::kvs,v::vs,h=>by
   show(((j,v)::dV kvs vs).any λkv=>decide (kv.1=k))=_;rw[gQ,gQ,Jm 14#2]
theorem Hm{κ:Type}{kvs:List (κ×U)}(h:kvs.length=vs.length):(dV kvs vs).length=kvs.length:=by
 simp[dV,h]
theorem CF{κ:Type} [DecidableEq κ] {μ:List Addr}{k:κ}{u:U}{v:V} (ru:RU H μ u v):∀{kvs:List (κ×U)}{vs:List V},RUs H μ 17#5 vs ->
  ∃ws,dV (kvs.map λkv=>if kv.1=k then(kv.1,u) else kv) ws=(dV kvs vs).map 33#9/\RUs H μ ((kvs.map λkv=>if kv.1=k then(kv.1,u) else kv).map (·.2)) ws
 |[],vs,r=>⟨[],by simp[dV],.nil⟩
 | (j,x)::kvs,vs,r=>by
   obtain⟨w,r',rfl,a,b⟩:=r.inv;obtain⟨ws,e,q⟩:=CF ru b;show ∃ws',dV ((if j=k then(j,u) else(j,x))::kvs.map λkv=>if kv.1=k then(kv.1,u) else kv) ws'=(if j=k then(j,v) else(j,w))::(dV kvs r').map 33#9/\RUs H μ (((if j=k then(j,u) else(j,x))::kvs.map λkv=>if kv.1=k then(kv.1,u) else kv).map (·.2)) ws';by_cases h:j=k
   .rw[if_pos h,if_pos h]
    exact⟨v::ws,by rw[<-e];rfl,.cons ru q⟩
   .rw[if_neg h,if_neg h]
    exact⟨w::ws,by rw[<-e];rfl,.cons a q⟩
theorem Kx{κ:Type} [DecidableEq κ] {k:κ}{kvs:List (κ×U)} (ru:RU H μ u v) (r:RUs H μ 17#5 vs):∃ws,dV (lq kvs k u) ws=putK (dV kvs vs) k v/\RUs H μ ((lq kvs k u).map (·.2)) ws:=by
 have hl:kvs.length=vs.length:=by have:=r.len;rwa[ax]at this
 unfold lq putK;rw[Jm hl]
 split
 .exact CF ru r
 .refine⟨vs++[v],?_,by rw[ck];exact r.append (.cons ru .nil)⟩
  unfold dV;rw[ck,List.zip_append (by simpa using hl)];rfl
theorem HR.dic{x:U}{kvs:List (Key×U)}(hr:HR K μ S H)(r:RU H μ x v)(e:ft S x=some kvs):∃a vs,v=.ref a/\H a=some (.dK (dV kvs vs))/\RUs H μ 17#5 vs:=by
 unfold ft at e
 split at e
 .split at e
  .rename_i q
   cases e;obtain⟨a,rfl,ha⟩:=fF r;obtain⟨vs,e1,r1⟩:=hr.cell _ _ a q ha;exact⟨a,vs,rfl,e1,r1⟩
  .cases e
 .cases e
def QM:R2:=λx y H Q=>∃a v,x=.ref a/\wR H a y (some v)/\Q v H
def Uq(K:ao):R2:=λx y H Q=>rIx K x y H Q\/QM x y H Q
theorem Nk(hu:X.A.units+1<cLine):IxR X QM:=by
 intro value slice pins s G H x y v u Q I rx ry h hs;obtain⟨a,w,rfl,g,q⟩:=h;obtain rfl:v=bx a:=rx;exact tail_any (AZ I g) PySem.F.slot_dict_getitem.lookup (ET hu I g ry λw' s3 I3 rw'=>⟨w,H,I3,rw',q⟩) hs
theorem QB:OpU K (Uq K) oIx:=by
 intro μ S H x y vx vy u S' Q hr rx ry e a;unfold oIx at e
 split at e
 .rename_i kvs qd
  cases qk:keyOf y with
  |none=>rw[qk]at e;cases e
  | some kk=>
    rw[qk]at e;simp only[ah]at e;cases qv:kf kvs kk with
    |none=>rw[qv]at e;cases e
    | some w=>
      rw[qv]at e;simp at e;obtain⟨rfl,rfl⟩:=e;obtain⟨p,vs,rfl,hp,r⟩:=hr.dic rx qd;obtain⟨v,hv,rv⟩:=CC r qv;rw[qI ry qk];exact .inr ⟨p,v,rfl,.inl ⟨_,kk,.inl hp,rfl,hv.symm⟩,a.now hr rv⟩
 split at e
 .rename_i i
  refine .inl ?_;cases q:eC S x with
  |none=>rw[q]at e;cases e
  | some us=>
    rw[q]at e;simp only[ah]at e;cases z:atI us i with
    |none=>rw[z]at e;cases e
    | some w=>
      rw[z]at e;simp at e;obtain⟨rfl,rfl⟩:=e;obtain⟨p,vs,rfl,hs,r⟩:=hr.seq rx q;obtain⟨v,hv,rv⟩:=JL r z;rcases hs with hs|hs
      .exact .inl ⟨p,vs,i,v,rfl,dI ry,hs,hv,a.now hr rv⟩
      .exact .inr (.inl ⟨p,vs,i,v,rfl,dI ry,hs,hv,a.now hr rv⟩)
 .cases e
theorem M6:UnU K (rU λi=>.int (-i)) fZ:=by
 intro μ S H x vx u S' Q hr rx e a;unfold fZ at e
 split at e
 .cases e
  exact⟨_,dI rx,a.now hr fj⟩
 .cases e
theorem RP{Q:List V->Hp->Prop}(h:tMA K af G H Q):Cb G H Q:=by
 obtain⟨μ,S,Y,us,S',hr,er,e,k⟩:=h;cases e;exact k μ [] H 1#6 7#8 hr .nil
theorem PZ{a:ME}{r:MA}{Q:List V->Hp->Prop}(h:tMA K (aa a r) G H Q):uJ (tM K a) (tMA K r) G H Q:=by
 obtain⟨μ,S,Y,us,S',hr,er,e,k⟩:=h;obtain⟨x,S1,e1,e⟩:=ba e;obtain⟨xs,S2,e2,e⟩:=ba e;cases e;refine 9#3;refine⟨Y0,S1,Y,xs,_,hr1,er.mono k1 p1,e2,λY5 vs H2 p2 k2 hr2 rs=>?_⟩;exact k Y5 _ H2 8#1 9#0 hr2 (.cons (RU.mono k2 p2 x vx rx) rs)
theorem SH{a:MA}(h:tM K (de a) G H Q):Rj 6#4 G H Q:=by
 obtain⟨μ,S,Y,u,S',hr,er,e,k⟩:=h;obtain⟨xs,S1,e1,e⟩:=ba e
 split at e
 .rename_i hc
  cases e;refine⟨μ,S,Y,xs,_,hr,er,e1,λY0 vs H1 p1 k1 hr1 rs=>⟨?_,λp hp=>?_⟩⟩
  .have:=rs.len;unfold big at hc;rw[sizeLine_eq];omega
  .exact k Y0 _ _ p1 (k1.trans (bq.new hp)) (hr1.tup hp) (iV cz (RUs.mono (bq.new hp) 1#6 _ _ rs))
 .cases e
theorem i9(k:Aft K μ H (.ref S.length) (S++[.lst us]) Q)(hr:HR K μ S H)(rs:RUs H μ us vs)(hp:H p=none):Q (.ref p) (upd H p (.lst vs)):=by
 refine k (μ++[p]) _ _ ⟨[p],rfl⟩ (bq.new hp) (hr.new hp rs) (vv ?_);rw[<-hr.len,aq 0#9];simp
theorem Rw{a:MA}(h:tM K (bH a) G H Q):Tz 6#4 G H Q:=by
 obtain⟨μ,S,Y,u,S',hr,er,e,k⟩:=h;obtain⟨xs,S1,e1,e⟩:=ba e
 split at e
 .rename_i hc
  cases e;refine⟨μ,S,Y,xs,S1,hr,er,e1,λY0 vs H1 p1 k1 hr1 rs=>⟨?_,λp hp=>?_⟩⟩
  .have:=rs.len;unfold big at hc;rw[sizeLine_eq];omega
  .exact i9 10#6 hr1 rs hp
 .cases e
def qW(K:KX)(r:List V->Hp->VK->Prop)(f:MF):Prop:= ∀(μ:List Addr) (S:Sto) (H:Hp) (us:List U) (vs:List V) (u:U) (S':Sto) (Q:VK),HR K μ S H->RUs H μ us vs->f us S=some (u,S')->Aft K μ H u S' Q->r vs H Q
theorem AY{r:List V->Hp->VK->Prop}{f:MF}{a:MA}(o:qW K r f)(h:tM K (mFn f a) G H Q):tCB r 6#4 G H Q:=by
 obtain⟨μ,S,Y,u,S',hr,er,e,k⟩:=h;obtain⟨xs,S1,e1,e⟩:=ba e;refine⟨μ,S,Y,xs,S1,hr,er,e1,λY0 vs H1 p1 k1 hr1 rs=>?_⟩;exact o Y0 S1 H1 xs vs u S' Q hr1 rs e 10#6
def spM(K:KX)(m:MF):Sp:=λvs H Q _=>∃μ S us u S',HR K μ S H/\RUs H μ us vs/\m us S=some (u,S')/\Aft K μ H u S' Q
theorem Jb{f:MF}{a:MA}{E:XK}(h:tM K (mFn f a) G H Q):CY (spM K f) [] E 6#4 G H Q:=by
 obtain⟨μ,S,Y,u,S',hr,er,e,k⟩:=h;obtain⟨xs,S1,e1,e⟩:=ba e;refine⟨μ,S,Y,xs,S1,hr,er,e1,λY0 vs H1 p1 k1 hr1 rs=>?_⟩;show spM K f (vs++[]) H1 Q E;rw[gK];exact⟨Y0,S1,xs,u,S',hr1,rs,e,k.mono p1 k1⟩
theorem P4:qW K (λxs H Q=>(∃p ys,xs=[.ref p]/\(SqL K H p ys\/SqT K H p ys)/\Q (.int ys.length) H) \/ ∃a kvs,xs=[V.ref a]/\H a=some 8#3/\Q (.int kvs.length) H) bG:=by
 intro μ S H us vs u S' Q hr rs e a;unfold bG at e
 split at e
 .rename_i x
  obtain⟨v,r,rfl,rx,rn⟩:=rs.inv;rw[rn.nil_inv]
  split at e
  .rename_i kvs qd
   cases e;obtain⟨p,ws,rfl,hp,r'⟩:=hr.dic rx qd;refine .inr ⟨p,_,rfl,hp,?_⟩;have hl:kvs.length=ws.length:=by have:=r'.len;rwa[ax]at this
   rw[Hm hl];exact a.now hr fj
  cases q:eC S x with
  |none=>rw[q]at e;cases e
  | some ws=>
    rw[q]at e;cases e;obtain⟨p,ys,rfl,hs,r'⟩:=hr.seq rx q;refine .inl ⟨p,ys,rfl,hs,?_⟩;rw[<-r'.len];exact a.now hr fj
 .cases e
theorem G9:qW K (λxs H Q=>∃p ys,xs=[.ref p]/\((SqL K H p ys /\ ∀l,H l=none->Q (.ref l) (upd H l (.tup ys)))\/(SqT K H p ys/\Q (.ref p) H))) bC:=by
 intro μ S H us vs u S' Q hr rs e a;unfold bC at e
 split at e
 .rename_i x
  obtain⟨v,r,rfl,rx,rn⟩:=rs.inv;rw[rn.nil_inv];unfold eC at e
  split at e
  .cases e
   obtain⟨p,ys,rfl,hp,r'⟩:=iG rx;exact⟨p,ys,rfl,.inr ⟨.inl (.inl hp),a.now hr (iV hp r')⟩⟩
  .rename_i n
   cases q:getL S n with
   |none=>rw[q]at e;cases e
   | some ws=>
     rw[q]at e;cases e;obtain⟨p,rfl,hp⟩:=fF rx;obtain⟨p',ys,hp',hs,r'⟩:=hr.sq q;rw[hp]at hp';cases hp';refine⟨p,ys,rfl,.inl ⟨hs,λl hl=>?_⟩⟩;exact a μ _ _ 1#6 (bq.new hl) (hr.tup hl) (iV cz (RUs.mono (bq.new hl) 1#6 _ _ r'))
  .cases e
 .cases e
theorem NV:qW K (λxs H Q=>∃i j,xs=[.int i,.int j]/\Q (.int (if j>i then j else i)) H) zI:=by
 intro μ S H us vs u S' Q hr rs e a;unfold zI at e
 split at e
 .cases e
  obtain⟨v,r,rfl,rx,rs⟩:=rs.inv;obtain⟨w,r,rfl,ry,rn⟩:=rs.inv;rw[rn.nil_inv,dI rx,dI ry];exact⟨_,_,rfl,a.now hr fj⟩
 .cases e
def Qn(K:ao):List V->Hp->VK->Prop:=λxs H Q=>((∃i j,xs=[.int i,.int j]/\Q (.int (if j<i then j else i)) H))
theorem Ft  (hc:X.calm=true) (hu:X.A.units+64<cLine):iy X (.builtin "min") (Qn X.K):=by
 intro pins s G H xs us Q I rs h;exact Fk hc pins s G H xs us Q I rs h
theorem O5:qW K (Qn K) tS:=by
 intro μ S H us vs u S' Q hr rs e a;unfold tS at e
 split at e
 .cases e
  obtain⟨v,r,rfl,rx,rs⟩:=rs.inv;obtain⟨w,r,rfl,ry,rn⟩:=rs.inv;rw[rn.nil_inv,dI rx,dI ry];exact⟨_,_,rfl,a.now hr fj⟩
 .cases e
def MtU(K:KX)(r:V->List V->Hp->VK->Prop)(f:Nat->List U->Sto->Res U):Prop:= ∀(μ:List Addr) (S:Sto) (H:Hp) (n:Nat) (p:Addr) (us:List U) (vs:List V) (u:U) (S':Sto) (Q:VK),HR K μ S H->μ[n]?=some p->RUs H μ us vs->f n us S=some (u,S')->Aft K μ H u S' Q->r (.ref p) vs H Q
variable{r:V->List V->Hp->VK->Prop}{f:Nat->List U->Sto->Res U}
theorem OT {o:ME}{a:MA} (m:MtU K r f) (h:tM K (mML f o a) G H Q):tBM K "list" r (tM K o) 6#4 G H Q:=by
 obtain⟨μ,S,Y,u,S',hr,er,e,k⟩:=h;obtain⟨x,S1,e1,e⟩:=ba e
 split at e
 .rename_i n
  cases q:getL S1 n with
  |none=>rw[q]at e;cases e
  | some ws=>
    rw[q]at e;obtain⟨xs,S2,e2,e⟩:=ba e;refine⟨μ,S,Y,_,S1,hr,er,e1,λY0 vx H1 p1 k1 hr1 rx=>?_⟩;obtain⟨p,rfl,hp⟩:=fF rx;obtain⟨p',ys,hp',hs,r'⟩:=hr1.sq q;rw[hp]at hp';cases hp';refine⟨.inl ⟨rfl,ys,hs⟩,Y0,S1,Y,xs,S2,hr1,er.mono k1 p1,e2,λY5 vs H2 p2 k2 hr2 rs=>?_⟩;exact m Y5 S2 H2 n p xs vs u S' Q hr2 (p2.get hp) rs e (k.mono 8#1 9#0)
 .cases e
theorem RZ {o:ME} (m:MtU K r f) (h:tM K (mML f o af) G H Q):RW K "list" r (tM K o) G H Q:=by
 obtain⟨μ,S,Y,u,S',hr,er,e,k⟩:=h;obtain⟨x,S1,e1,e⟩:=ba e
 split at e
 .rename_i n
  cases q:getL S1 n with
  |none=>rw[q]at e;cases e
  | some ws=>
    rw[q]at e;refine⟨μ,S,Y,_,S1,hr,er,e1,λY0 vx H1 p1 k1 hr1 rx=>?_⟩;obtain⟨p,rfl,hp⟩:=fF rx;obtain⟨p',ys,hp',hs,r'⟩:=hr1.sq q;rw[hp]at hp';cases hp';exact⟨.inl ⟨rfl,ys,hs⟩,m Y0 S1 H1 n p [] [] u S' Q hr1 hp .nil e 10#6⟩
 .cases e
theorem yI{ws:List U}(k:Aft K μ H u (S.set n (.lst ws)) Q)(hr:HR K μ S H)(e:S[n]?=some (.lst us))(hp:μ[n]?=some p)(rs:RUs H μ ws vs)(ru:RU H μ u v):
  Q v (upd H p (.lst vs)):=by
 obtain⟨vs0,e0,_⟩:=hr.cell n _ p e hp;exact k μ _ _ 1#6 (bq.wr e0) (hr.wr e hp rs) (RU.mono (bq.wr e0) 1#6 _ _ ru)
theorem EF:MtU K Dx bF:=by
 intro μ S H n p us vs u S' Q hr hp rs e a;unfold bF at e
 split at e
 .split at e
  .rename_i ws q
   split at e
   .rename_i hc
    cases e;obtain⟨v,r,rfl,rx,rn⟩:=rs.inv;rw[rn.nil_inv];obtain⟨xs,e0,r0⟩:=hr.cell n _ p q hp;refine⟨p,xs,v,rfl,rfl,e0,?_,yI a hr q hp (r0.append (.cons rx .nil)) su⟩;have:=r0.len;unfold big at hc;rw[sizeLine_eq];omega
   .cases e
  .cases e
 .cases e
variable{j:Nat}
theorem Nr(h:ixN n i=some j):j<n /\ -(n:Int)<=i/\i<n:=by
 unfold ixN at h
 split at h
 .split at h
  .cases h;omega
  .cases h
 .split at h
  .cases h;omega
  .cases h
theorem K9(h:ixN n i=some j):seqIndex? i n=some j:=by
 unfold ixN at h;unfold seqIndex?
 split at h
 .split at h
  .cases h
   rename_i h0 h1
   simp only[show ¬i<0 by omega,if_false]
   first
    |(rw[if_pos (by omega)])
    |(simp;omega)
  .cases h
 .split at h
  .cases h
   rename_i h0 h1
   simp only[show i<0 by omega,if_true]
   first
    |(rw[if_pos (by omega)])
    |(simp;omega)
  .cases h
theorem OA:MtU K Qw nc:=by
 intro μ S H n p us vs u S' Q hr hp rs e a;unfold nc at e
 split at e
 .split at e
  .rename_i ws q
   cases z:ws[ws.length-1]? with
   |none=>rw[z]at e;cases e
   | some y=>
     rw[z]at e;cases e;rw[rs.nil_inv];obtain⟨xs,e0,r0⟩:=hr.cell n _ p q hp;obtain⟨v,hv,rv⟩:=r0.get z;exact⟨p,xs,v,rfl,rfl,e0,by rw[<-r0.len];exact hv,yI a hr q hp r0.dropLast rv⟩
  .cases e
 .cases e
theorem IB:MtU K HB lb:=by
 intro μ S H n p us vs u S' Q hr hp rs e a;unfold lb at e
 split at e
 .rename_i i
  split at e
  .rename_i ws q
   split at e
   rotate_left
   .cases e
   rename_i hR
   cases z:ixN ws.length i with
   |none=>rw[z]at e;cases e
   | some j=>
     rw[z]at e;simp only[ah]at e;cases z2:ws[j]? with
     |none=>rw[z2]at e;cases e
     | some y=>
       rw[z2]at e;cases e;obtain⟨v,r,rfl,rx,rn⟩:=rs.inv;rw[rn.nil_inv,dI rx];obtain⟨xs,e0,r0⟩:=hr.cell n _ p q hp;obtain⟨w,hw,rw'⟩:=r0.get z2;have hl:=Nr z;have hlen:=r0.len;refine⟨p,xs,i,j,w,rfl,rfl,e0,?_,?_,?_,hw,yI a hr q hp (r0.eraseIdx j) rw'⟩
       .have:=hR.1;omega
       .have:=hR.2;omega
       .rw[<-hlen];exact K9 z
  .cases e
 .cases e
theorem BI{t:TE}{m:ME}{Q:Bool->Hp->Prop}(ht:∀Q,tM K m G H Q->t G H Q)(h:tMT K (cOf m) G H Q):HG t G H Q:=by
 obtain⟨μ,S,Y,b,S',hr,er,e,k⟩:=h;obtain⟨x,S1,e1,e⟩:=ba e
 split at e
 .cases e
  refine ht _ 30#0;exact⟨_,jF rx,k Y0 H1 p1 k1 hr1⟩
 .cases e
theorem TN{t:TE}{m:ME}{Q:Bool->Hp->Prop}(ht:∀Q,tM K m G H Q->t G H Q)(h:tMT K (cOf m) G H Q):tB t G H Q:=BI ht h
theorem Ru{a b:MT}{Q:Bool->Hp->Prop}(h:tMT K (wZ a b) G H Q):_L.Si (tMT K a) (tMT K b) G H Q:=by
 obtain⟨μ,S,Y,c,S',hr,er,e,k⟩:=h;obtain⟨x,S1,e1,e⟩:=ba e;refine 25#9;cases x with
 |true=>exact qX ⟨Y0,S1,Y,c,S',hr1,er.mono k1 p1,e,λY5 H2 p2 k2=>k Y5 H2 8#1 9#0⟩
 | false=>
   have e':some (false,S1)=some (c,S'):=e;cases e';exact rm (k Y0 H1 p1 k1 hr1)
theorem Ua{a b:MT}{Q:Bool->Hp->Prop}(h:tMT K (cOr a b) G H Q):_L.tOr (tMT K a) (tMT K b) G H Q:=by
 obtain⟨μ,S,Y,c,S',hr,er,e,k⟩:=h;obtain⟨x,S1,e1,e⟩:=ba e;refine 25#9;cases x with
 | true=>
   have e':some (true,S1)=some (c,S'):=e;cases e';exact qX (k Y0 H1 p1 k1 hr1)
 |false=>exact rm ⟨Y0,S1,Y,c,S',hr1,er.mono k1 p1,e,λY5 H2 p2 k2=>k Y5 H2 8#1 9#0⟩
theorem QC{a:MT}{Q:Bool->Hp->Prop}(h:tMT K (jL a) G H Q):_L.Qs (tMT K a) G H Q:=by
 obtain⟨μ,S,Y,c,S',hr,er,e,k⟩:=h;obtain⟨x,S1,e1,e⟩:=ba e;cases e;exact⟨μ,S,Y,x,_,hr,er,e1,λY0 H1 p1 k1 hr1=>k Y0 H1 p1 k1 hr1⟩
theorem Sg{c:MT}{a b:ME}(h:tM K (so c a b) G H Q):tIf (tMT K c) (tM K a) (tM K b) G H Q:=by
 obtain⟨μ,S,Y,u,S',hr,er,e,k⟩:=h;obtain⟨x,S1,e1,e⟩:=ba e;refine 25#9;cases x with
 |true=>exact qX 25#5
 |false=>exact rm 25#5
section
variable {D:Ends}
theorem FQ(h:tMS K cW D G H):IZ D G H:=by
 obtain⟨μ,S,Y,r,hr,er,e,k⟩:=h;cases e;exact k μ G H 1#6 7#8 hr er
variable{b:MS}
theorem Q2{a:MS}(h:tMS K (aX a b) D G H):Q0 (tMS K a) (tMS K b) D G H:=by
 obtain⟨μ,S,Y,r,hr,er,e,k⟩:=h;unfold aX at e
 split at e
 .rename_i Y1 S1 q
  refine⟨μ,S,Y,_,hr,er,q,λY0 Y6 H1 p1 k1 hr1 er1=>?_⟩;exact⟨Y0,S1,Y1,r,hr1,er1,e,k.mono p1 k1⟩
 .rename_i q
  refine⟨μ,S,Y,r,hr,er,e,?_⟩;obtain⟨f,Y2,S'⟩:=r;cases f with
  |nx=>exact absurd e (q Y2 S')
  |bk=>exact k
  |ct=>exact k
  |rt u=>exact k
variable{i:Nat}{m:ME}
theorem Mr(h:tMS K (bu i m) D G H):Fo (tM K m) (kQ i) D G H:=by
 obtain⟨μ,S,Y,r,hr,er,e,k⟩:=h;obtain⟨x,S1,e1,e⟩:=ba e;cases e;exact⟨μ,S,Y,x,S1,hr,er,e1,λY0 vx H1 p1 k1 hr1 rx=>k Y0 _ H1 p1 k1 hr1 ((er.mono k1 p1).set rx i)⟩
def QJ:IV:=λo i v H Q=>∃a H',o=.ref a/\EN H a i v H'/\Q H'
def M0:IV:=λo i v H Q=>MC o i v H Q\/QJ o i v H Q
theorem Kf{X:Cx}(hu:X.A.units+1<cLine):Nb X M0:=by
 intro pins s G H o i v ov iv u Q I ro ri rv h;rcases h with h|⟨a,H',rfl,g,q⟩
 .exact set_list pins s G H o i v ov iv u Q I ro ri rv h
 .obtain rfl:ov=bx a:=ro
  exact EY hu I g ri rv λs4 I4=>⟨H',I4,q⟩
theorem KU{o i:ME}(h:tMS K (eM o i m) D G H):Fo (tM K m) (Th (tM K o) (tM K i) M0) D G H:=by
 obtain⟨μ,S,Y,r,hr,er,e,k⟩:=h;obtain⟨x,S1,e1,e⟩:=ba e;obtain⟨p,S2,e2,e⟩:=ba e;obtain⟨j,S3,e3,e⟩:=ba e;cases p with
 | ref n=>
   simp only at e
   split at e
   .rename_i us q
    split at e
    rotate_left
    .cases e
    rename_i kk
    cases z:ixN us.length kk with
    |none=>rw[z]at e;cases e
    | some m'=>
      rw[z]at e;cases e;refine 9#3;refine⟨Y0,S1,Y,_,S2,hr1,er.mono k1 p1,e2,λY5 vo H2 p2 k2 hr2 ro=>?_⟩;refine⟨Y5,S2,Y,_,S3,hr2,er.mono 9#0 8#1,e3,λY' vi H3 p3 k3 hr3 ri=>?_⟩;obtain⟨a,rfl,ha⟩:=fF ro;have ha3:=p3.get ha;obtain⟨vs,e0,r0⟩:=hr3.cell n _ a q ha3;have rx3:RU H3 Y' x vx:=RU.mono (k2.trans k3) 13#5 _ _ rx;refine .inl ⟨a,vs,kk,m',rfl,dI ri,e0,by rw[<-r0.len];exact z,?_⟩;have kw:bq H3 (upd H3 a (.lst (vs.set m' vx))):=bq.wr e0;exact k Y' _ _ (p1.trans 13#5) 26#9 (hr3.wr q ha3 (r0.set rx3 m')) (er.mono 26#9 (p1.trans 13#5))
   .rename_i kvs q
    cases qk:keyOf j with
    |none=>rw[qk]at e;cases e
    | some kk=>
      rw[qk]at e;simp only[ah]at e
      split at e
      .rename_i hz
       cases e;refine 9#3;refine⟨Y0,S1,Y,_,S2,hr1,er.mono k1 p1,e2,λY5 vo H2 p2 k2 hr2 ro=>?_⟩;refine⟨Y5,S2,Y,_,S3,hr2,er.mono 9#0 8#1,e3,λY' vi H3 p3 k3 hr3 ri=>?_⟩;obtain⟨a,rfl,ha⟩:=fF ro;have ha3:=p3.get ha;obtain⟨vs,e0,r0⟩:=hr3.cell n _ a q ha3;have rx3:RU H3 Y' x vx:=RU.mono (k2.trans k3) 13#5 _ _ rx;have hl:kvs.length=vs.length:=by have:=r0.len;rwa[ax]at this
       obtain⟨ws,ew,rw'⟩:=Kx (k:=kk) rx3 r0;have kw:bq H3 (upd H3 a (.dK (putK (dV kvs vs) kk vx))):=bq.wrG e0 (λ_ z=>by cases z) λ_ _ z=>by cases z
       refine .inr ⟨a,_,rfl,.inl ⟨_,kk,e0,qI ri qk,by rw[Hm hl,sizeLine_eq];exact hz,rfl⟩,?_⟩;exact k Y' _ _ (p1.trans 13#5) 26#9 (hr3.wrC q ha3 rfl ⟨ws,by rw[ew];exact cz,RUs.mono kw 1#6 _ _ rw'⟩) (er.mono 26#9 (p1.trans 13#5))
      .cases e
   .cases e
 |_=>cases e
theorem Ng(h:tMS K (du m) D G H):M2 (tM K m) D G H:=by
 obtain⟨μ,S,Y,r,hr,er,e,k⟩:=h;obtain⟨x,S1,e1,e⟩:=ba e;cases e;exact⟨μ,S,Y,x,S1,hr,er,e1,λY0 vx H1 p1 k1 hr1 rx=>k Y0 G H1 p1 k1 hr1 7#5⟩
theorem Ti(h:tMS K (cb m) D G H):Qv (tM K m) D G H:=by
 obtain⟨μ,S,Y,r,hr,er,e,k⟩:=h;obtain⟨x,S1,e1,e⟩:=ba e;cases e;exact⟨μ,S,Y,x,S1,hr,er,e1,k⟩
theorem UF{c:MT}{a:MS}(h:tMS K (sIf c a b) D G H):SA (tMT K c) (tMS K a) (tMS K b) D G H:=by
 obtain⟨μ,S,Y,r,hr,er,e,k⟩:=h;obtain⟨x,S1,e1,e⟩:=ba e;refine 25#9;cases x with
 |true=>exact qX ⟨Y0,S1,Y,r,hr1,er.mono k1 p1,e,k.mono p1 k1⟩
 |false=>exact rm ⟨Y0,S1,Y,r,hr1,er.mono k1 p1,e,k.mono p1 k1⟩
variable{S:Sto}{r:Fl×Rho×Sto}
theorem qU{X6:List Addr}{H0:Hp}{k:MS}{N:St->Hp->Prop}(hr:HR K μ S H)(er:ER H μ Y G)(e:aft (b Y S) k=some r)(p:Pre X6 μ)(kp:bq H0 H)(fl:FlP K X6 H0 D r)
  (hN:∀Y0 Y6 H1 Y1 S1,Pre X6 Y0->bq H0 H1->HR K Y0 S1 H1->ER H1 Y0 Y1 Y6->k Y1 S1=some r->N Y6 H1):tMS K b { D with nx:=N,ct:=N,bk:=D.nx } G H:=by
 unfold aft at e
 split at e
 .rename_i Y1 S1 q
  exact⟨μ,S,Y,_,hr,er,q,λY0 Y6 H1 p1 k1 hr1 er1=>hN Y0 Y6 H1 Y1 S1 (p.trans p1) (kp.trans k1) hr1 er1 e⟩
 .rename_i Y1 S1 q
  exact⟨μ,S,Y,_,hr,er,q,λY0 Y6 H1 p1 k1 hr1 er1=>hN Y0 Y6 H1 Y1 S1 (p.trans p1) (kp.trans k1) hr1 er1 e⟩
 .rename_i Y1 S1 q
  cases e;exact⟨μ,S,Y,_,hr,er,q,λY0 Y6 H1 p1 k1 hr1 er1=>fl Y0 Y6 H1 (p.trans p1) (kp.trans k1) hr1 er1⟩
 .rename_i q1 q2 q3
  refine⟨μ,S,Y,r,hr,er,e,?_⟩;obtain⟨f,Y2,S'⟩:=r;cases f with
  |nx=>exact absurd e (q1 Y2 S')
  |ct=>exact absurd e (q2 Y2 S')
  |bk=>exact absurd e (q3 Y2 S')
  |rt u=>exact Aft.mono fl p kp
theorem drop_cons{α:Type}{l:List α}{x:α}(h:l[i]?=some x):l.drop i=x::l.drop (i+1):=by
 obtain⟨hi,e⟩:=ag.mp h;rw[iC hi,e]
theorem NP{us:List U}{vs:List V}(hr:HR K μ S H)(er:ER H μ Y G)(e:yU i b us Y S=some r)(fl:FlP K μ H D r)(ha:H a=some (.tup vs))(ru:RUs H μ us vs):
  ∃W:Nat->Nat->St->Hp->Prop,15#9 /\ ∀k m G H,W k m G H ->
   ((Itt K a).stop k H/\D.nx G H)\/((Itt K a).go k H /\ ∃N:St->Hp->Prop,18#4 /\ ∀x H',(Itt K a).yld k H x H'->kQ i x G H' λY7 H2=>tMS K b { D with nx:=N,ct:=N,bk:=D.nx } Y7 H2):=by
 refine KC (xs:=vs) (λk Y6 H1=>∃Y0 S1 Y1,Pre μ Y0/\bq H H1/\HR K Y0 S1 H1/\ER H1 Y0 Y1 Y6/\yU i b (us.drop k) Y1 S1=some r) ⟨μ,S,Y,Pre.refl _,bq.refl _,hr,er,e⟩ ?_ ?_ ?_
 .rintro k Y6 H1 _ ⟨Y0,S1,Y1,p1,k1,_⟩
  exact .inl (.inl (k1 a vs ha))
 .rintro k x Y6 H1 hx ⟨Y0,S1,Y1,p1,k1,hr1,er1,e1⟩
  have hk:k<us.length:=by rw[ru.len];exact(ag.mp hx).1
  have hu:us[k]?=some us[k]:=by simp[hk]
  obtain⟨v,hv,rv⟩:=ru.get hu;rw[hx]at hv;cases hv;rw[drop_cons hu]at e1;have rv1:RU H1 Y0 us[k] x:=RU.mono k1 p1 _ _ rv;exact qU hr1 (er1.set rv1 i) e1 p1 k1 fl λY5 Y7 H2 Y8 S2 p2 k2 hr2 er2 e2=>⟨Y5,S2,Y8,p2,k2,hr2,er2,e2⟩
 .rintro Y6 H1 ⟨Y0,S1,Y1,p1,k1,hr1,er1,e1⟩
  rw[<-ru.len,yo]at e1;cases e1;exact fl Y0 Y6 H1 p1 k1 hr1 er1
theorem HU{lo:Int}(hr:HR K μ S H)(er:ER H μ Y G)(e:yU i b (br lo n) Y S=some r)(fl:FlP K μ H D r):
  ∃W:Nat->Nat->St->Hp->Prop,15#9 /\ ∀k m G H,W k m G H ->
   ((Itr lo n).stop k H/\D.nx G H)\/((Itr lo n).go k H /\ ∃N:St->Hp->Prop,18#4 /\ ∀x H',(Itr lo n).yld k H x H'->kQ i x G H' λY7 H2=>tMS K b { D with nx:=N,ct:=N,bk:=D.nx } Y7 H2):=by
 refine Em (λk Y6 H1=>∃Y0 S1 Y1,Pre μ Y0/\bq H H1/\HR K Y0 S1 H1/\ER H1 Y0 Y1 Y6/\yU i b ((br lo n).drop k) Y1 S1=some r) ⟨μ,S,Y,Pre.refl _,bq.refl _,hr,er,e⟩ ?_ ?_
 .rintro k Y6 H1 hk ⟨Y0,S1,Y1,p1,k1,hr1,er1,e1⟩
  have hu:(br lo n)[k]?=some (.int (lo+k)):=by simp[br,hk]
  rw[drop_cons hu]at e1;exact qU hr1 (er1.set fj i) e1 p1 k1 fl λY5 Y7 H2 Y8 S2 p2 k2 hr2 er2 e2=>⟨Y5,S2,Y8,p2,k2,hr2,er2,e2⟩
 .rintro Y6 H1 ⟨Y0,S1,Y1,p1,k1,hr1,er1,e1⟩
  have hl:(br lo n).length=n:=by simp[br]
  rw[List.drop_eq_nil_of_le (by exact lT 0#4)]at e1;cases e1;exact fl Y0 Y6 H1 p1 k1 hr1 er1
theorem Np{f:Nat}(hr:HR K μ S H)(er:ER H μ Y G)(e:forL i b n f 0 Y S=some r)(fl:FlP K μ H D r)(ha:μ[n]?=some a):
  ∃W:Nat->Nat->St->Hp->Prop,15#9 /\ ∀k m G H,W k m G H ->
   ((Itl K a).stop k H/\D.nx G H)\/((Itl K a).go k H /\ ∃N:St->Hp->Prop,18#4 /\ ∀x H',(Itl K a).yld k H x H'->kQ i x G H' λY7 H2=>tMS K b { D with nx:=N,ct:=N,bk:=D.nx } Y7 H2):=by
 refine⟨λk m Y6 H1=>∃Y0 S1 Y1,Pre μ Y0/\bq H H1/\HR K Y0 S1 H1/\ER H1 Y0 Y1 Y6/\forL i b n m k Y1 S1=some r,32#4,?_⟩;rintro k m Y6 H1 ⟨Y0,S1,Y1,p1,k1,hr1,er1,e1⟩;cases m with
 |zero=>cases e1
 | succ m=>
   unfold forL at e1;cases q:getL S1 n with
   |none=>rw[q]at e1;cases e1
   | some us=>
     rw[q]at e1;simp only[ah]at e1;obtain⟨a',vs,ha',hs,rs⟩:=hr1.sq q;rw[p1.get ha]at ha';cases ha';cases z:us[k]? with
     | none=>
       rw[z]at e1;cases e1;refine .inl 31#4;rw[<-rs.len];exact dF.mp z
     | some u=>
       rw[z]at e1;obtain⟨v,hv,rv⟩:=rs.get z;refine .inr ⟨⟨vs,v,hs,hv⟩,λY7 H2=>∃Y5 S2 Y8,Pre μ Y5/\bq H H2/\HR K Y5 S2 H2/\ER H2 Y5 Y8 Y7/\forL i b n m (k+1) Y8 S2=some r,λY3 H' w=>⟨m,bB _,w⟩,λx H' y=>?_⟩;obtain⟨e',y⟩:=y;subst e';have hx:=y vs hs;rw[hv]at hx;cases hx;exact qU hr1 (er1.set rv i) e1 p1 k1 fl λY5 Y7 H2 Y8 S2 p2 k2 hr2 er2 e2=>⟨Y5,S2,Y8,p2,k2,hr2,er2,e2⟩
theorem Lk{c:MT}(h:tMS K (jx c b) D G H):Ip (tMT K c) (tMS K b) D G H:=by
 obtain⟨μ,S,Y,r,hr,er,e,fl⟩:=h;refine⟨λm Y6 H1=>∃Y0 S1 Y1,Pre μ Y0/\bq H H1/\HR K Y0 S1 H1/\ER H1 Y0 Y1 Y6/\whl c b m Y1 S1=some r,⟨fuel,μ,S,Y,Pre.refl _,bq.refl _,hr,er,e⟩,?_⟩;rintro m Y6 H1 ⟨Y0,S1,Y1,p1,k1,hr1,er1,e1⟩;cases m with
 |zero=>cases e1
 | succ m=>
   unfold whl at e1;obtain⟨x,S2,e2,e1⟩:=ba e1;refine⟨Y0,S1,Y1,x,S2,hr1,er1,e2,λY5 H2 p2 k2 hr2=>?_⟩;cases x with
   | true=>
     refine qX ⟨λG' H3=>∃Y' S3 X5,Pre μ Y'/\bq H H3/\HR K Y' S3 H3/\ER H3 Y' X5 G'/\whl c b m X5 S3=some r,λY3 H' w=>⟨m,bB _,w⟩,?_⟩;exact qU hr2 (er1.mono k2 p2) e1 8#1 9#0 fl λY' G' H3 X5 S3 p3 k3 hr3 er3 e3=>⟨Y',S3,X5,p3,k3,hr3,er3,e3⟩
   | false=>
     have e':some (Fl.nx,Y1,S2)=some r:=e1;cases e';exact rm (fl Y5 Y6 H2 8#1 9#0 hr2 (er1.mono k2 p2))
end
end
section
variable {K:KX}{G:St}{H:Hp}{Q:VK}{D:Ends}
variable{R:It->Hp->Prop}{S S1:Sto}{src:Src}
theorem Mf{a:MA}(hr:HR K μ S H)(er:ER H μ Y G)(e:iR1 a Y S=some (src,S1))
  (hR:∀Y0 H1 n,Pre μ Y0->bq H H1->HR K Y0 S1 H1->src=.imm (br 0 n)->R (Itr 0 n) H1):Ab 6#4 G H R:=by
 obtain⟨xs,S2,e1,e⟩:=ba e
 split at e
 .rename_i j
  split at e
  .rename_i hj
   cases e;refine 30#1;obtain⟨v,r,rfl,rx,rn⟩:=rs.inv;rw[rn.nil_inv,dI rx];exact⟨j,rfl,hj.1,hj.2,hR Y0 H1 _ p1 k1 hr1 rfl⟩
  .cases e
 .cases e
theorem MY{a:MA}(hr:HR K μ S H)(er:ER H μ Y G)(e:iR2 a Y S=some (src,S1))
  (hR:∀Y0 H1 lo n,Pre μ Y0->bq H H1->HR K Y0 S1 H1->src=.imm (br lo n)->R (Itr lo n) H1):A0 6#4 G H R:=by
 obtain⟨xs,S2,e1,e⟩:=ba e
 split at e
 .rename_i i j
  split at e
  .rename_i hj
   cases e;refine 30#1;obtain⟨v,r,rfl,rx,rs⟩:=rs.inv;obtain⟨w,r,rfl,ry,rn⟩:=rs.inv;rw[rn.nil_inv,dI rx,dI ry];exact⟨i,j,rfl,⟨hj.1.1,hj.1.2,hj.2.1,hj.2.2⟩,hR Y0 H1 _ _ p1 k1 hr1 rfl⟩
  .cases e
 .cases e
theorem zi{a:ME}(hr:HR K μ S H)(er:ER H μ Y G)(e:b0 a Y S=some (src,S1))
  (hT:∀Y0 H1 us p vs,Pre μ Y0->bq H H1->HR K Y0 S1 H1->src=.imm us->H1 p=some (.tup vs)->RUs H1 Y0 us vs->R (Itt K p) H1)
  (hL:∀Y0 H1 n p,Pre μ Y0->bq H H1->HR K Y0 S1 H1->src=.mut n->Y0[n]?=some p->R (Itl K p) H1):wz K (tM K a) G H R\/B6 K (tM K a) G H R:=by
 obtain⟨x,S2,e1,e⟩:=ba e
 split at e
 .cases e
  refine .inr 30#0;obtain⟨p,vs,rfl,hp,r⟩:=iG rx;exact⟨p,rfl,⟨vs,.inl (.inl hp)⟩,hT Y0 H1 _ p vs p1 k1 hr1 rfl hp r⟩
 .rename_i n
  cases q:getL S2 n with
  |none=>rw[q]at e;cases e
  | some ws=>
    rw[q]at e;cases e;refine .inl 30#0;obtain⟨p,rfl,hp⟩:=fF rx;obtain⟨p',ys,hp',hs,r'⟩:=hr1.sq q;rw[hp]at hp';cases hp';exact⟨p,rfl,⟨ys,hs⟩,hL Y0 H1 n p p1 k1 hr1 rfl hp⟩
 .cases e
variable{i:Nat}{b:MS}
theorem Qp{a:MA}(h:tMS K (ee i (iR1 a) b) D G H):zh (Ab 6#4) (kQ i) (tMS K b) D G H:=by
 obtain⟨μ,S,Y,r,hr,er,e,fl⟩:=h;obtain⟨src,S1,e1,e⟩:=ba e;refine Mf hr er e1 λY0 H1 n p1 k1 hr1 hs=>?_;subst hs;exact HU hr1 7#5 e 17#9
theorem SR{a:MA}(h:tMS K (ee i (iR2 a) b) D G H):zh (A0 6#4) (kQ i) (tMS K b) D G H:=by
 obtain⟨μ,S,Y,r,hr,er,e,fl⟩:=h;obtain⟨src,S1,e1,e⟩:=ba e;refine MY hr er e1 λY0 H1 lo n p1 k1 hr1 hs=>?_;subst hs;exact HU hr1 7#5 e 17#9
theorem TV{a:ME}(h:tMS K (ee i (b0 a) b) D G H):zh 25#3 (kQ i) (tMS K b) D G H:=by
 obtain⟨μ,S,Y,r,hr,er,e,fl⟩:=h;obtain⟨src,S1,e1,e⟩:=ba e;refine zi hr er e1 26#5 λY0 H1 n p p1 k1 hr1 hs hp=>?_
 .subst hs
  exact NP hr1 7#5 e 17#9 hp rs
 .subst hs
  exact Np hr1 7#5 e 17#9 hp
theorem sr{t:MT}{e:ME}{Y:Rho}:∀{us acc ys:List U}{S S':Sto},gS t e Y us acc S=some 3#2->acc.length<=ys.length
 |[],acc,ys,S,S',h=>by cases h;exact ak _
 | x::us,acc,ys,S,S',h=>by
   obtain⟨k,S1,e1,h⟩:=ba h;cases k with
   | true=>
     obtain⟨y,S2,e2,h⟩:=ba (show bnd (e (Y++[some x]) S1) (λy S2=>gS t e Y us (acc++[y]) S2)=some 3#2 from h);have:=sr h;simp at this;exact aT 0#4
   |false=>exact sr (show gS t e Y us acc S1=some 3#2 from h)
theorem rT{t:MT}{e:ME}{Y:Rho}{n:Nat}:∀{f i:Nat}{acc ys:List U}{S S':Sto},iR t e Y n f i acc S=some 3#2->acc.length<=ys.length
 |0,i,acc,ys,S,S',h=>by cases h
 | f+1,i,acc,ys,S,S',h=>by
   unfold iR at h;cases q:getL S n with
   |none=>rw[q]at h;cases h
   | some us=>
     rw[q]at h;simp only[ah]at h;cases z:us[i]? with
     |none=>rw[z]at h;cases h;exact ak _
     | some x=>
       rw[z]at h;obtain⟨k,S1,e1,h⟩:=ba h;cases k with
       | true=>
         obtain⟨y,S2,e2,h⟩:=ba (show bnd (e (Y++[some x]) S1) (λy S2=>iR t e Y n f (i+1) (acc++[y]) S2)=some 3#2 from h);have:=rT h;simp at this;exact aT 0#4
       |false=>exact rT (show iR t e Y n f (i+1) acc S1=some 3#2 from h)
def Dg(J:It)(G:St)(tt:TT)(te:TE)(H1:Hp)(Q:VK):Prop:= ∃W:Nat->Nat->List V->Hp->Prop,(∃m,W 0 m [] H1) /\ ∀i m ys H,W i m ys H->ys.length<sizeLine /\
 (25#0 \/
  (J.go i H /\ ∀x H',J.yld i H x H'->tt (G++[some x]) H' λb H3=>if b=true then te (G++[some x]) H3 λy H4 =>∃m',m'<m/\W (i+1) m' (ys++[y]) H4 else ∃m',m'<m/\W (i+1) m' ys H3))
variable{e:ME}{ys:List U}
theorem rS{t:MT}{Y2:Rho}{Y3:St}{au:List U}{acc:List V}{next:List U->Sto->Res (List U)}(W:List V->Hp->Prop)(hr1:HR K Y0 S1 H1)(er1:ER H1 Y0 Y2 Y3)(ra:RUs H1 Y0 au acc)
  (e1:bnd (t Y2 S1) (λk S2=>if k then bnd (e Y2 S2) λy S3=>next (au++[y]) S3 else next au S2)=some 3#2)
  (hW:∀Y5 S2 au2 acc2 H2,Pre Y0 Y5->bq H1 H2->HR K Y5 S2 H2->RUs H2 Y5 au2 acc2->next au2 S2=some 3#2->W acc2 H2):
  tMT K t Y3 H1 λb H3=>if b=true then tM K e Y3 H3 λy H4=>W (acc++[y]) H4 else W acc H3:=by
 obtain⟨b,S2,e2,e1⟩:=ba e1;refine⟨Y0,S1,_,b,S2,hr1,er1,e2,λY5 H2 p2 k2 hr2=>?_⟩;have ra2:=RUs.mono k2 p2 _ _ ra;cases b with
 | true=>
   obtain⟨y',S3,e3,e1⟩:=ba (show bnd (e Y2 S2) (λy S2=>next (au++[y]) S2)=some 3#2 from e1);exact qX ⟨Y5,S2,_,y',S3,hr2,er1.mono k2 p2,e3,λY' v3 H3 p3 k3 hr3 rv3=>hW Y' S3 _ _ H3 13#5 (k2.trans k3) hr3 ((RUs.mono k3 p3 _ _ ra2).append (.cons rv3 .nil)) e1⟩
 |false=>exact rm (hW Y5 S2 _ _ H2 p2 k2 hr2 ra2 e1)
variable{us:List U}
theorem Ap{J:It}{t:MT}(hr:HR K μ S H)(er:ER H μ Y G)(h:gS t e Y us [] S=some 3#2)(hz:ys.length<big)(k:Aft K μ H 9#8 (S'++[.lst ys]) Q)
  (hstop:∀H',bq H H'->J.stop us.length H') (hgo:∀(i:Nat) H',i<us.length->bq H H'->J.go i H')
  (hy:∀(i:Nat) H' x H'' (u:U),us[i]?=some u->bq H H'->J.yld i H' x H''->H''=H'/\RU H μ u x):Dg J G (tMT K t) (tM K e) H Q:=by
 have hz':ys.length<sizeLine:=by unfold big at hz;rw[sizeLine_eq];exact hz
 refine⟨λi m acc H1=>m=us.length-i/\i<=us.length /\ ∃Y0 S1 au,Pre μ Y0/\bq H H1/\HR K Y0 S1 H1/\RUs H1 Y0 au acc/\gS t e Y (us.drop i) au S1=some 3#2,⟨_,rfl,dC _,μ,S,[],Pre.refl _,bq.refl _,hr,.nil,h⟩,?_⟩;rintro i m acc H1 ⟨rfl,hi,Y0,S1,au,p1,k1,hr1,ra,e1⟩;have hl:=sr e1;have hl2:=ra.len;refine⟨by omega,?_⟩;by_cases hlt:i<us.length
 .have hu:us[i]?=some us[i]:=by simp[hlt]
  rw[drop_cons hu]at e1;refine .inr ⟨hgo i H1 hlt k1,λx H' y=>?_⟩;obtain⟨rfl,rx⟩:=hy i H1 x H' us[i] hu k1 y;have er1:ER H' Y0 (Y++[some us[i]]) (G++[some x]):=(er.mono k1 p1).push (RU.mono k1 p1 _ _ rx);exact rS (next:=gS t e Y (us.drop (i+1))) (λacc H1=>∃m',m'<us.length-i/\m'=us.length-(i+1)/\i+1<=us.length /\ ∃Y0 S1 au,Pre μ Y0/\bq H H1/\HR K Y0 S1 H1/\RUs H1 Y0 au acc/\gS t e Y (us.drop (i+1)) au S1=some 3#2) hr1 er1 ra e1 λY5 S2 au2 acc2 H2 p2 k2 hr2 ra2 q=>⟨us.length-(i+1),by omega,rfl,hlt,Y5,S2,au2,p1.trans p2,k1.trans k2,hr2,ra2,q⟩
 .have e:i=us.length:=by omega
  subst e;rw[yo]at e1;cases e1;exact .inl ⟨hstop H1 k1,λD hD=>i9 10#6 hr1 ra hD⟩
theorem HV{t:MT}{f:Nat}(hr:HR K μ S H)(er:ER H μ Y G)(h:iR t e Y n f 0 [] S=some 3#2)(hz:ys.length<big)(k:Aft K μ H 9#8 (S'++[.lst ys]) Q)
  (hp:μ[n]?=some p):Dg (Itl K p) G (tMT K t) (tM K e) H Q:=by
 have hz':ys.length<sizeLine:=by unfold big at hz;rw[sizeLine_eq];exact hz
 refine⟨λi m acc H1=>∃Y0 S1 au,Pre μ Y0/\bq H H1/\HR K Y0 S1 H1/\RUs H1 Y0 au acc/\iR t e Y n m i au S1=some 3#2,31#8,?_⟩;rintro i m acc H1 ⟨Y0,S1,au,p1,k1,hr1,ra,e1⟩;have hl:=rT e1;have hl2:=ra.len;refine⟨by omega,?_⟩;cases m with
 |zero=>cases e1
 | succ m=>
   unfold iR at e1;cases q:getL S1 n with
   |none=>rw[q]at e1;cases e1
   | some us=>
     rw[q]at e1;simp only[ah]at e1;obtain⟨a',vs,ha',hs,rs⟩:=hr1.sq q;rw[p1.get hp]at ha';cases ha';cases z:us[i]? with
     | none=>
       rw[z]at e1;cases e1;exact .inl 28#6
     | some u=>
       rw[z]at e1;obtain⟨v,hv,rv⟩:=rs.get z;refine .inr ⟨⟨vs,v,hs,hv⟩,λx H' y=>?_⟩;obtain⟨e',y⟩:=y;subst e';have hx:=y vs hs;rw[hv]at hx;cases hx;exact rS (next:=iR t e Y n m (i+1)) (λacc H1=>∃m',m'<m+1 /\ ∃Y0 S1 au,Pre μ Y0/\bq H H1/\HR K Y0 S1 H1/\RUs H1 Y0 au acc/\iR t e Y n m' (i+1) au S1=some 3#2) hr1 ((er.mono k1 p1).push rv) ra e1 λY5 S2 au2 acc2 H2 p2 k2 hr2 ra2 q=>⟨m,bB _,Y5,S2,au2,p1.trans p2,k1.trans k2,hr2,ra2,q⟩
theorem AR{lo:Int}{t:MT}(hr:HR K μ S H)(er:ER H μ Y G)(h:gS t e Y (br lo n) [] S=some 3#2)(hz:ys.length<big)(k:Aft K μ H 9#8 (S'++[.lst ys]) Q):
  Dg (Itr lo n) G (tMT K t) (tM K e) H Q:=by
 have hl:(br lo n).length=n:=by simp[br]
 refine Ap hr er h hz k (λH' _=>by rw[hl];exact ak _) (λi H' hi _=>by rw[hl]at hi;exact hi) λi H' x H'' u hu _ y=>?_;obtain⟨rfl,rfl⟩:=y;have hi:i<n:=by rw[<-hl];exact(ag.mp hu).1
 have e2:(br lo n)[i]?=some (.int (lo+i)):=by simp[br,hi]
 rw[e2]at hu;cases hu;exact⟨rfl,fj⟩
theorem GQ{vs:List V}{t:MT}(hr:HR K μ S H)(er:ER H μ Y G)(h:gS t e Y us [] S=some 3#2)(hz:ys.length<big)(k:Aft K μ H 9#8 (S'++[.lst ys]) Q)
  (hp:H p=some (.tup vs)) (rs:RUs H μ us vs):Dg (Itt K p) G (tMT K t) (tM K e) H Q:=by
 refine Ap hr er h hz k (λH' kp=>⟨vs,.inl (.inl (kp p vs hp)),by rw[rs.len];exact ak _⟩) (λi H' hi kp=>?_) λi H' x H'' u hu kp y=>?_
 .have hi':i<vs.length:=by rw[<-rs.len];exact hi
  exact⟨vs,vs[i],.inl (.inl (kp p vs hp)),by simp[hi']⟩
 .obtain⟨rfl,y⟩:=y
  obtain⟨v,hv,rv⟩:=rs.get hu;have:=y vs (.inl (.inl (kp p vs hp)));rw[hv]at this;cases this;exact⟨rfl,rv⟩
theorem Ra{a:MA}{t:MT}(h:tM K (bK (iR1 a) t e) G H Q):sZ (Ab 6#4) (tMT K t) (tM K e) G H Q:=by
 obtain⟨μ,S,Y,u,S',hr,er,e0,k⟩:=h;obtain⟨src,S1,e1,e0⟩:=ba e0;obtain⟨ys,S2,e2,e0⟩:=ba e0
 split at e0
 .rename_i hz
  cases e0;refine Mf hr er e1 λY0 H1 n p1 k1 hr1 hs=>?_;subst hs;exact AR hr1 7#5 e2 hz 10#6
 .cases e0
theorem Rm{a:MA}{t:MT}(h:tM K (bK (iR2 a) t e) G H Q):sZ (A0 6#4) (tMT K t) (tM K e) G H Q:=by
 obtain⟨μ,S,Y,u,S',hr,er,e0,k⟩:=h;obtain⟨src,S1,e1,e0⟩:=ba e0;obtain⟨ys,S2,e2,e0⟩:=ba e0
 split at e0
 .rename_i hz
  cases e0;refine MY hr er e1 λY0 H1 lo n p1 k1 hr1 hs=>?_;subst hs;exact AR hr1 7#5 e2 hz 10#6
 .cases e0
theorem Ug{a:ME}{t:MT}(h:tM K (bK (b0 a) t e) G H Q):sZ 25#3 (tMT K t) (tM K e) G H Q:=by
 obtain⟨μ,S,Y,u,S',hr,er,e0,k⟩:=h;obtain⟨src,S1,e1,e0⟩:=ba e0;obtain⟨ys,S2,e2,e0⟩:=ba e0
 split at e0
 .rename_i hz
  cases e0;refine zi hr er e1 26#5 λY0 H1 n p p1 k1 hr1 hs hp=>?_
  .subst hs
   exact GQ hr1 7#5 e2 hz 10#6 hp rs
  .subst hs
   exact HV hr1 7#5 e2 hz 10#6 hp
 .cases e0
end
section
variable {K:KX}{G:St}{H:Hp}{Q:VK}{D:Ends}
end
variable{X:Cx}{e:Expr}
theorem PE.con{t t':TE}(h:PE X e t)(hm:∀G H Q,t' G H Q->t G H Q):PE X e t':=λpins s G H Q I q=>h pins s G H Q I (hm G H Q q)
variable{t':TT}
theorem PT.con{t:TT}(h:PT X e t)(hm:∀G H Q,t' G H Q->t G H Q):PT X e t':=λpins s G H Q I q=>h pins s G H Q I (hm G H Q q)
theorem PW.con{t:TT}(h:PW X e t)(hm:∀G H Q,t' G H Q->t G H Q):PW X e t':=λwh pins s G H Q I q=>h wh pins s G H Q I (hm G H Q q)
variable{e:List Expr}
theorem PA.con{t t':TA}(h:PA X e t)(hm:∀G H Q,t' G H Q->t G H Q):PA X e t':=λpos pins s G H Q I q=>h pos pins s G H Q I (hm G H Q q)
theorem PS.con{e:Stmt}{t t':TS}(h:PS X e t)(hm:∀D G H,t' D G H->t D G H):PS X e t':=λpins s G H D I q=>h pins s G H D I (hm D G H q)
theorem PSs.con{e:List Stmt}{t t':TS}(h:PSs X e t)(hm:∀D G H,t' D G H->t D G H):PSs X e t':=λpins s G H D I q=>h pins s G H D I (hm D G H q)
theorem PTs.con{t:TT}(h:PTs X e t)(hm:∀G H Q,t' G H Q->t G H Q):PTs X e t':=λpins s G H Q I q=>h pins s G H Q I (hm G H Q q)
variable{tg:Expr}
theorem PI.or{it:Expr}{w1 w2:TI}(h1:PI X tg it w1)(h2:PI X tg it w2):PI X tg it (λG H R=>w1 G H R\/w2 G H R):=λpins s G H R I q=>by
 rcases q with q|q
 .exact h1 pins s G H R I q
 .exact h2 pins s G H R I q
structure Mo where
 P:Program
 w:World
 K:KX
 mg:Str->Option Value
 base:Heap
 mkr:Option (Addr×Str)
def pY(ns:List 5#2)(x:Str):Bool:=match ns.lookup x with
 |some .local=>true
 |some .cell=>true
 |some .free=>true
 |_=>false
def nX(ns:List 5#2)(x:Str):Bool:=match ns.lookup x with
 |some .local=>true
 |some .cell=>true
 |_=>false
def d7(ns:List 5#2)(x:Str):Bool:=match ns.lookup x with
 |some .globalImplicit=>true
 |_=>false
structure Sc(M:Mo)(X:Cx)(k:Nat)(N:List Str)(ns:List (Str×NameKind)):Prop where
 hP:X.prog=M.P
 hw:X.w=M.w
 hK:X.K=M.K
 hm:X.mg=M.mg
 hb:X.base=M.base
 hN:X.N=N
 nd:N.Nodup
 calm:X.calm=true
 loc:∀y,ns.lookup y=some .local->X.env.scope.names.lookup y=some .local
 cel:∀y,ns.lookup y=some .cell->X.env.scope.names.lookup y=some .cell/\X.fn y=true
 fre:∀y,ns.lookup y=some .free->X.env.scope.names.lookup y=some .cell\/X.env.scope.names.lookup y=some .free
 glo:∀y,ns.lookup y=some .globalImplicit->X.env.scope.names.lookup y=some .globalImplicit
 room:lJ k X.A
 own:PassesOwn (model X.prog X.w) X.A X.env X.xe
 cod:∀c q,M.mkr=some (c,q)->X.env.code=.ref c/\X.env.qual=q
section
variable {M:Mo}{X:Cx}{k:Nat}{N:List Str}{ns:List (Str×NameKind)}
theorem Sc.vis(S:Sc M X k N ns){x:Str}(h:pY ns x=true):Vis X.env.scope x:=by
 unfold pY at h
 split at h
 .rename_i e;exact .inl (S.loc x e)
 .rename_i e;exact .inr (.inl (S.cel x e).1)
 .rename_i e;exact .inr (S.fre x e)
 .cases h
theorem Sc.lo(S:Sc M X k N ns){x:Str}(h:nX ns x=true):Loc X.env.scope x/\21#6:=by
 unfold nX at h
 split at h
 .rename_i e;exact⟨.inl (S.loc x e),.inr (S.loc x e)⟩
 .rename_i e;exact⟨.inr (S.cel x e).1,.inl (S.cel x e).2⟩
 .cases h
theorem Sc.gl(S:Sc M X k N ns){x:Str}(h:d7 ns x=true):Gl X x:=by
 unfold d7 at h
 split at h
 .rename_i e;exact S.glo x e
 .cases h
variable {a b c e:Expr}{es:List Expr}{ma mb mc:ME}{mt:MT}{mas:MA}{pos p1 p2:Pos}{x:Str}
theorem Mv (S:Sc M X k N ns) (i:Nat) (hi:N[i]?=some x) (hv:pY ns x=true) (hd:7#3=false) (hcd:23#2=false):PE X (.Name x pos) (tM M.K (ae i)):=
 PE.con (vb (by rw[S.hN];exact hi) (S.vis hv) hd hcd) λ_ _ _ h=>SQ h
theorem R1{i:Int}{j}:PE X (.Constant 3#6 j pos) (tM M.K (mC 3#6)):=PE.con GP λ_ _ _ h=>r_c (λ_ _=>fj) h
theorem Uk{i:Bool}{j}:PE X (.Constant (.bool i) j pos) (tM M.K (mC (.bl i))):=PE.con Qu λ_ _ _ h=>r_c (λ_ _=>jG) h
theorem IS{j}:PE X (.Constant .none j pos) (tM M.K (mC .non)):=PE.con PQ λ_ _ _ h=>r_c (λ_ _=>su) h
theorem OE {g:Value} (S:Sc M X k N ns) (hg:d7 ns x=true) (hm:M.mg x=some g) (r:RelV v g) (hv :∀ H μ,RU H μ u v) (hd:7#3=false):PE X (.Name x pos) (tM M.K (mC u)):=
 PE.con (LB 4#3 5#7 r hd) λ_ _ _ h=>r_c hv h
theorem MO(S:Sc M X k N ns)(ha:PE X a 2#9)(hb:PE X b 5#9):PE X (.BinOp a .Add b pos) (tM M.K (m2 cK ma mb)):=
 PE.con (xF (OY.or (OpR.or (S.hK▸J1) (OpR.or (S.hK▸LM) NM))) ha hb) λ_ _ _ h=>zc PU h
theorem So(ha:PE X a 2#9)(hb:PE X b 5#9):PE X (.BinOp a .Sub b pos) (tM M.K (m2 sQ ma mb)):=PE.con (xF P2 ha hb) λ_ _ _ h=>zc PL h
theorem RY(S:Sc M X k N ns)(ha:PE X a 2#9)(hb:PE X b 5#9):PE X (.BinOp a .Mult b pos) (tM M.K (m2 gv ma mb)):=PE.con (xF (OD.or (S.hK▸JM)) ha hb) λ_ _ _ h=>zc PV h
theorem Q1(ha:PE X a 2#9)(hb:PE X b 5#9):PE X (.BinOp a .FloorDiv b pos) (tM M.K (m2 oDiv ma mb)):=PE.con (xF Lf ha hb) λ_ _ _ h=>zc PJ h
theorem QQ(ha:PE X a 2#9)(hb:PE X b 5#9):PE X (.BinOp a .Mod b pos) (tM M.K (m2 oMod ma mb)):=PE.con (xF Pz ha hb) λ_ _ _ h=>zc Nw h
theorem QS(ha:PE X a 2#9)(hb:PE X b 5#9):PE X (.BinOp a .Pow b pos) (tM M.K (m2 zd ma mb)):=PE.con (xF Px ha hb) λ_ _ _ h=>zc Oz h
theorem Re(ha:PE X a 2#9):PE X (.UnaryOp .USub a pos) (tM M.K (m1 fZ ma)):=PE.con (MM Gr ha) λ_ _ _ h=>TU M6 h
theorem Ub(S:Sc M X k N ns)(ha:PE X a 2#9)(hb:PE X b 5#9)(hs:yH b):PE X (.Subscript a b pos) (tM M.K (m2 oIx ma mb)):=
 PE.con (Mw (IxR.or (S.hK▸Pu) (Nk (by have:=S.room.units;omega))) ha hb hs) λ_ _ _ h=>zc QB h
theorem SL(hc:PT X c 5#3)(ha:PE X a 2#9)(hb:PE X b 5#9):PE X (.IfExp c a b pos) (tM M.K (so mt ma mb)):=PE.con (GI hc ha hb) λ_ _ _ h=>Sg h
theorem Cw:PA X [] (tMA M.K af):=PA.con uN λ_ _ _ h=>RP h
theorem mY(ha:PE X a 2#9)(hr:PA X es 3#0)(hs:autoParam (starEach (a::es) X.env=19#2::starEach es X.env) au1._auto_1):PA X (a::es) (tMA M.K (aa ma mas)):=
 PA.con (jI ha hr hs) λ_ _ _ h=>PZ h
theorem Sy{x1}(h:PA X es 3#0):PE X (.Tuple es x1 pos) (tM M.K (de mas)):=PE.con (Pi h) λ_ _ _ h=>SH h
theorem GT(h:PA X es 3#0):PE X (.List es pos) (tM M.K (bH mas)):=PE.con (Pb h) λ_ _ _ h=>Rw h
variable{mt':MT}
theorem Tv(ha:PT X a 5#3)(hb:PW X (.BoolOp .And (b::es) pos) (tMT M.K mt')):PW X (.BoolOp .And (a::b::es) pos) (tMT M.K (wZ mt mt')):=PW.con (Oo ha hb) λ_ _ _ h=>Ru h
theorem Uc(ha:PT X a 5#3)(hb:PW X (.BoolOp .Or (b::es) pos) (tMT M.K mt')):PW X (.BoolOp .Or (a::b::es) pos) (tMT M.K (cOr mt mt')):=PW.con (RK ha hb) λ_ _ _ h=>Ua h
theorem NW(ha:PT X a 5#3):PW X (.BoolOp .And [a] pos) 5#3:=KW ha
theorem QW(ha:PT X a 5#3):PW X (.BoolOp .Or [a] pos) 5#3:=Na ha
theorem Mu(ha:PT X a 5#3):PT X (.UnaryOp .Not a pos) (tMT M.K (jL mt)):=PT.con (OO ha) λ_ _ _ h=>QC h
theorem Mk(ha:PE X a 2#9)(he:autoParam (∀whole,isTrue a X.env whole=(do let v <- whole;standAt a.pos;holding [v] (truthy v))) au3._auto_1):PT X a (tMT M.K (cOf ma)):=PT.con (PB ha he) λ_ _ _ h=>TN (λ_ q=>q) h
theorem Iy (S:Sc M X k N ns) (hg:d7 ns "len"=true) (hm:M.mg "len"=none) (ha:PA X 1#7 3#0) (he:autoParam 9#2 au1._auto_1) (hpl:autoParam 12#3 au1._auto_1) :
  PE X (.Call (.Name "len" p1) 1#7 [] pos) (tM M.K (mFn bG mas)):=
 PE.con (ki (iy.or (S.hK▸yL) Fp) 4#3 5#7 PySem.boot_len ha 0#1 0#1 he hpl) λ_ _ _ h=>AY P4 h
theorem JK (S:Sc M X k N ns) (hg:d7 ns "tuple"=true) (hm:M.mg "tuple"=none) (ha:PA X 1#7 3#0) (he:autoParam 9#2 au1._auto_1) (hpl:autoParam 12#3 au1._auto_1) :
  PE X (.Call (.Name "tuple" p1) 1#7 [] pos) (tM M.K (mFn bC mas)):=
 PE.con (lO (S.hK▸wN) 4#3 5#7 xy ha 0#1 0#1 he hpl) λ_ _ _ h=>AY G9 h
theorem TC (S:Sc M X k N ns) (hg:d7 ns "max"=true) (hm:M.mg "max"=none) (ha:PA X 1#7 3#0) (he:autoParam 9#2 au1._auto_1) (hpl:autoParam 12#3 au1._auto_1) :
  PE X (.Call (.Name "max" p1) 1#7 [] pos) (tM M.K (mFn zI mas)):=
 PE.con (ki (E5 S.calm) 4#3 5#7 PyProof.Rows.boot_max ha 0#1 0#1 he hpl) λ_ _ _ h=>AY NV h
theorem Q8 (S:Sc M X k N ns) (hg:d7 ns "min"=true) (hm:M.mg "min"=none) (ha:PA X 1#7 3#0) (he:autoParam 9#2 au1._auto_1) (hpl:autoParam 12#3 au1._auto_1) :
  PE X (.Call (.Name "min" p1) 1#7 [] pos) (tM M.K (mFn tS mas)):=
 PE.con (ki (S.hK▸Ft S.calm (by have:=S.room.units;assumption)) 4#3 5#7 PyProof.Rows.boot_min ha 0#1 0#1 he hpl) λ_ _ _ h=>AY O5 h
structure Fn(M:Mo)(x:Str)(k:Nat)(ps:List Str)(m:MF):Prop where
 ex:∃(f:Addr) (fd:FuncData),M.mg x=some (.ref f)/\dq M.K (.ref f)=true/\Binds M.K fd ps []/\jA M.P M.w M.K M.mg M.base CX0 k f fd ps (spM M.K m)
variable{mf:MF}{ps:List Str}{k':Nat}
theorem OZ  (S:Sc M X k N ns) (F:Fn M x k' ps mf) (hk:k'<=k) (hg:d7 ns x=true) (ha:PA X 1#7 3#0) (hd:7#3=false) (he:autoParam 9#2 au1._auto_1) (hpl:autoParam 12#3 au1._auto_1) :
  PE X (.Call 12#0 1#7 [] pos) (tM M.K (mFn mf mas)):=by
 obtain⟨f,fd,hm,hkp,hb,F⟩:=F.ex;rw[<-S.hP,<-S.hw,<-S.hK,<-S.hm,<-S.hb]at F;rw[<-S.hm]at hm;rw[<-S.hK]at hkp hb;exact PE.con (zp F 13#3 4#3 hm hkp hb .nil yb ha hd he hpl) λ_ _ _ h=>Jb h
theorem La  (S:Sc M X k N ns) (F:Fn M x k' ps mf) (hk:k'<=k) (hg:d7 ns x=true) (hd:7#3=false) :
  PE X (.Call 12#0 [] [] pos) (tM M.K (mFn mf af)):=by
 obtain⟨f,fd,hm,hkp,hb,F⟩:=F.ex;rw[<-S.hP,<-S.hw,<-S.hK,<-S.hm,<-S.hb]at F;rw[<-S.hm]at hm;rw[<-S.hK]at hkp hb;refine PE.con (Ig F 13#3 4#3 hm hkp hb .nil yb hd) λG H Q h=>?_;obtain⟨μ,S,Y,u,S',hr,er,e,kk⟩:=h;exact⟨μ,S,[],u,S',hr,.nil,e,kk⟩
theorem zR (S:Sc M X k N ns) (ho:PE X a 2#9) (ha:PA X 1#7 3#0) (hbase:autoParam (attributeBase a "append" X.env (eval a X.env)=eval a X.env) au1._auto_1)
  (hfew:autoParam (((backTo pos (starEach 1#7 X.env)).all (λx => !x.1)&&(backToKw pos (keywordEach [] X.env)).all (λx=>x.1.isSome)
   && decide ((e::es).length+([]:List Keyword).length+(if ([]:List Keyword).isEmpty then 0 else 1)<30))=true) au1._auto_1)
  (hline:autoParam ((p1.endLine==pos.line)=true) au1._auto_1) (hs:autoParam 9#2 au1._auto_1) (hpl:autoParam 12#3 au1._auto_1):
  PE X (.Call (.Attribute a "append" p1) 1#7 [] pos) (tM M.K (mML bF ma mas)):=by
 exact PE.con (CK fN A7 A8 Ff ho ha hbase hfew hline hs hpl) λ_ _ _ h=>S.hK▸OT EF h
theorem KA (S:Sc M X k N ns) (ho:PE X a 2#9) (ha:PA X 1#7 3#0) (hbase:autoParam (attributeBase a "pop" X.env (eval a X.env)=eval a X.env) au1._auto_1)
  (hfew:autoParam (((backTo pos (starEach 1#7 X.env)).all (λx => !x.1)&&(backToKw pos (keywordEach [] X.env)).all (λx=>x.1.isSome)
   && decide ((e::es).length+([]:List Keyword).length+(if ([]:List Keyword).isEmpty then 0 else 1)<30))=true) au1._auto_1)
  (hline:autoParam ((p1.endLine==pos.line)=true) au1._auto_1) (hs:autoParam 9#2 au1._auto_1) (hpl:autoParam 12#3 au1._auto_1):
  PE X (.Call (.Attribute a "pop" p1) 1#7 [] pos) (tM M.K (mML lb ma mas)):=by
 exact PE.con (CK fN DV DW IH ho ha hbase hfew hline hs hpl) λ_ _ _ h=>S.hK▸OT IB h
theorem RN  (S:Sc M X k N ns) (hg:d7 ns "range"=true) (hm:M.mg "range"=none) (ha:PA X [a] 3#0) (hs:autoParam 27#4 au1._auto_1):PI X tg (.Call (.Name "range" p1) [a] [] pos) (Ab 3#0):=
 E4 4#3 5#7 ha hs
theorem Qx  (S:Sc M X k N ns) (hg:d7 ns "range"=true) (hm:M.mg "range"=none) (ha:PA X [a,b] 3#0) (hs:autoParam 30#9 au1._auto_1) (hs2:autoParam 32#1 au1._auto_1):PI X tg (.Call (.Name "range" p1) [a,b] [] pos) (A0 3#0):=
 Fq 4#3 5#7 ha hs hs2
theorem LF(S:Sc M X k N ns)(ha:PE X a 2#9):PI X tg a (λG H R=>wz M.K 2#9 G H R\/B6 M.K 2#9 G H R):=by
 have h:=PI.or (JO (tg:=tg) ha) (NG ha);rw[S.hK]at h;exact h
def qV(N N':List Str)(ns names:List 5#2)(xs:List Str):Bool:=
 decide ((names.map 2#2).Nodup)&&names.all (λy=>if y.2==.free then(match ns.lookup y.1 with |some .cell=>true |some .free=>true |_=>false) else true)&&xs.all (nX names)&&decide N'.Nodup &&
 (N'.length==N.length+xs.length)&&((ay xs.length).all λj=>N'[N.length+j]? == xs[j]?)&&(ay N.length).all λi=>match N'[i]? with
  |none=>true
  |some y=>if pY names y then N[i]? == some y&&names.lookup y==some .free else true
def oh(N N':List Str)(ns names:List 5#2)(x:Str):Bool:=qV N N' ns names [x]
variable{N' xs:List Str}{scope:Scope}
theorem uL(S:Sc M X k N ns)(hk:scope.kind=.function)(h:qV N N' ns scope.names xs=true):iH X N' scope xs:=by
 unfold qV at h;simp only[ar]at h;obtain⟨⟨⟨⟨⟨⟨h1,h2⟩,h3⟩,h4⟩,h5⟩,h6⟩,h7⟩:=h;refine⟨hk,of_decide_eq_true h1,λy hy e=>?_,λx hx=>?_,of_decide_eq_true h4,?_,λj x hj=>?_,λi y hi e hv=>?_⟩
 .have:=bI.mp h2 y hy
  rw[if_pos (by rw[e];rfl)]at this
  split at this
  .rename_i q;exact .inl (S.cel y.1 q).1
  .rename_i q;exact S.fre y.1 q
  .cases this
 .have h3:=bI.mp h3 x hx
  unfold nX at h3
  split at h3
  .rename_i q;exact .inl q
  .rename_i q;exact .inr q
  .cases h3
 .rw[S.hN];exact eq_of_beq h5
 .have hl:=(ag.mp hj).1
  have:=bI.mp h6 j (bZ.mpr hl);rw[S.hN,eq_of_beq this];exact hj
 .rw[S.hN]at hi ⊢
  have:=bI.mp h7 i (bZ.mpr hi);rw[e]at this;simp only at this;have hvb:pY scope.names y=true:=by
   unfold pY;rcases hv with q|q|q<;>rw[q]
  rw[if_pos hvb,ar]at this;exact⟨eq_of_beq this.1,eq_of_beq this.2⟩
theorem yi(S:Sc M X k N ns)(hk:scope.kind=.function)(h:oh N N' ns scope.names x=true):iH X N' scope [x]:=uL S hk h
theorem rQ(S:Sc M X k N ns)(C:iH X N' scope xs)(s₂:Shared)(H₂:Hp)(fp:List Addr):Sc M 7#1 k N' scope.names where
 hP:=S.hP
 hw:=S.hw
 hK:=S.hK
 hm:=S.hm
 hb:=S.hb
 hN:=rfl
 nd:=C.ndN
 calm:=S.calm
 loc:=λy h=>lookup_relabel_local h
 cel:=λy h=>⟨jM h,by show 27#0=true;rw[h];rfl⟩
 fre:=λy h=>mE h
 glo:=λy h=>qo h
 room:=S.room
 own:=mU
 cod:=S.cod
variable{iter:Expr}{wi:TI}{mi:MI}
theorem Jc{px:Pos}{elt:Expr}{ifs:List Expr}(S:Sc M X k N ns)(hk:scope.kind=.function)(ok:oh N N' ns scope.names x=true)(hi:PI X (.Name x px) iter wi)
  (ht:∀X',Sc M X' k N' scope.names->PTs X' ifs 5#3) (he:∀X',Sc M X' k N' scope.names->PE X' elt (tM M.K mc)) (hr:∀G H Q,tM M.K (bK mi mt mc) G H Q->sZ wi 5#3 (tM M.K mc) G H Q)
  (hs:autoParam 18#7 au3._auto_1):PE X 16#4 (tM M.K (bK mi mt mc)):=by
 have C:=yi S hk ok;exact PE.con (Le S.calm C hi (λs₂ H₂ fp=>ht _ 20#3) (λs₂ H₂ fp=>he _ 20#3) hs) hr
theorem Ou:PTs X [] (tMT M.K cTT):=PTs.con JX λG H Q h=>by
 obtain⟨μ,S,Y,b,S',hr,er,e,kk⟩:=h;cases e;exact kk μ H 1#6 7#8 hr
theorem Se(h:PT X c 5#3):PTs X [c] 5#3:=Kd h
variable {st:Stmt}{sts:List Stmt}{ms ms':MS}
theorem Mx:PSs X [] (tMS M.K cW):=PSs.con Ln λ_ _ _ h=>FQ h
theorem AQ(h1:PS X st 13#6)(h2:PSs X sts (tMS M.K ms')):PSs X (st::sts) (tMS M.K (aX ms ms')):=PSs.con (m9 h1 h2) λ_ _ _ h=>Q2 h
theorem Hz(h1:PS X st 13#6):PSs X [st] 13#6:=CD h1
theorem Ar(S:Sc M X k N ns)(i:Nat)(hi:N[i]?=some x)(ho:nX ns x=true)(he:PE X e 2#9)(hs:autoParam (swapsWith e (some 12#0) pos.line X.env=pure false) au1._auto_1):PS X (.Assign [.Name x p1] e pos) (tMS M.K (bu i ma)):=
 PS.con (BO (by rw[S.hN];exact S.nd) (by rw[S.hN];exact hi) (S.lo ho).1 he hs (S.lo ho).2) λ_ _ _ h=>Mr h
theorem J0(S:Sc M X k N ns)(ho:PE X a 2#9)(hi:PE X b 5#9)(he:PE X e (tM M.K mc))(hs:autoParam (swapsWithSole [.Subscript a b p1] e pos.line X.env=pure false) au1._auto_1)(hw:autoParam (swappedStores [.Subscript a b p1] e X.env=pure none) au1._auto_1)
  (h1:autoParam ((assignEach [.Subscript a b p1] X.env).map (·.2)=[assign (.Subscript a b p1) X.env]) au1._auto_1)
  (hasn:autoParam (∀v,assign (.Subscript a b p1) X.env v=(do
   let ov <- holding [v] (eval a X.env)
   let iv <- holding [v,ov] (eval b X.env)
   standAt p1
   holding [v,ov,iv] (setItem ov iv v)
   release [v,ov,iv] [])) au3._auto_1):PS X (.Assign [.Subscript a b p1] e pos) (tMS M.K (eM ma mb mc)):=
 PS.con (Gi he (Oy ho hi (Kf (by have:=S.room.units;omega)) hasn) hs hw h1) λ_ _ _ h=>KU h
theorem Hg(he:PE X e 2#9)(hs:autoParam (swapsWith e none pos.line X.env=pure false) au1._auto_1):PS X (.Expr e pos) (tMS M.K (du ma)):=PS.con (DG he hs) λ_ _ _ h=>Ng h
theorem Mb(he:PE X e 2#9):PS X (.Return (some e) pos) (tMS M.K (cb ma)):=PS.con (IF he) λ_ _ _ h=>Ti h
theorem Q3{sts':List Stmt}(hc:PT X c 5#3)(ha:PSs X sts 13#6)(hb:PSs X sts' (tMS M.K ms')):PS X (.If c sts sts' pos) (tMS M.K (sIf mt ms ms')):=PS.con (MV hc ha hb) λ_ _ _ h=>UF h
theorem QT(S:Sc M X k N ns)(i:Nat)(hi:N[i]?=some x)(ho:nX ns x=true)(hit:PI X 12#0 iter wi)(hb:PSs X sts 13#6)(hr:∀D G H,tMS M.K (ee i mi ms) D G H->zh wi (kQ i) 13#6 D G H)
  (hs:autoParam 18#7 au3._auto_1):PS X (.For 12#0 iter sts [] pos) (tMS M.K (ee i mi ms)):=
 PS.con (He S.own S.calm hit (DL (by rw[S.hN];exact S.nd) (by rw[S.hN];exact hi) (S.lo ho).1 (S.lo ho).2) hb hs) hr
theorem J3(S:Sc M X k N ns)(hc:PT X c 5#3)(hb:PSs X sts 13#6):PS X (.While c sts [] pos) (tMS M.K (jx mt ms)):=PS.con (F4 S.own hc hb) λ_ _ _ h=>Lk h
end
variable{A:Around}{f:Addr}{N ps:List Str}{qual:Str}{s:Shared}
theorem Sc.def {M:Mo}{scope:Scope}{cdv:Value}{outer:List Env}{E:XK}{k:Nat} (S:bh N ps scope) (hr:lJ k (A.deeper (envOfC qual scope s.heap.objs.size f cdv))) (h0 :∀ c q,M.mkr=some (c,q)->cdv=.ref c/\qual++".<locals>."=q) :
  Sc M (vf CX0 M.P M.w M.K M.mg M.base N qual scope f cdv A outer s H E).nox k N scope.names:=
 ⟨rfl,rfl,rfl,rfl,rfl,rfl,S.nd,rfl,λ_ h=>h,λ_ h=>⟨h,rfl⟩,λ_ h=>.inr h,λ_ h=>h,hr,mU,h0⟩
variable{us:List U}{vs:List V}
theorem oz(r:RUs H μ us vs):ER H μ (us.map some++aR (N.length-us.length) none) (_L.start N vs):=by
 unfold _L.start;refine⟨by simp[r.len],λi u h=>?_⟩;by_cases hi:i<us.length
 .rw[aM (by simpa using hi),bj]at h
  cases e:us[i]? with
  |none=>rw[e]at h;cases h
  | some w=>
    rw[e]at h;cases h;obtain⟨v,hv,rv⟩:=r.get e;refine⟨v,?_,rv⟩;rw[aM (by simpa [<-r.len]using hi),bj,hv];rfl
 .rw[aq (by simpa using hi)]at h
  rw[i5]at h
  split at h<;>cases h
theorem IR{M:Mo}(h0:M.mkr=none){x:Str}{st:Stmt}{fd:FuncData}{k:Nat}{ms:MS}(F:Fun M.K x qual st f fd)(S:bh N ps (aE st))
  (hb:∀X,Sc M X k N (aE st).names->PSs X (cq st) 13#6):jA M.P M.w M.K M.mg M.base CX0 (k+1) f fd ps (spM M.K 19#7):=by
 refine F.ok S (λvs H Q E h=>?_) λcdv A outer s H vs Q E hr h=>⟨tMS M.K ms,hb _ (Sc.def S hr λc q h=>by rw[h0]at h;cases h),?_⟩
 .obtain⟨μ,S',us,u,S'',hr,rs,e,_⟩:=h
  unfold run at e
  split at e
  .rename_i hl;rw[<-rs.len];exact hl
  .cases e
 .obtain⟨μ,S1,us,u,S2,hr,rs,e,ka⟩:=h
  unfold run at e
  split at e
  .rename_i hl
   have er:=oz (N:=N) rs;rw[hl]at er
   split at e
   .rename_i w Y2 S3 q
    cases e;exact⟨μ,S1,_,_,hr,er,q,ka⟩
   .rename_i Y2 S3 q
    cases e;exact⟨μ,S1,_,_,hr,er,q,λY4 Y3 H' p' k' hr' er'=>ka Y4 _ H' p' k' hr' su⟩
   .cases e
  .cases e
mutual
inductive pK(K:ao)(H:Hp):V->PyData->Prop where
 |non:pK K H .non .none
 |bl (b:Bool):pK K H (.bl b) (.bool b)
 |int (i:Int):pK K H (.int i) (.int i)
 |str (x:Str):pK K H (.str x) (.str x)
 |tup {a:Addr}{vs:List V}{ds:List PyData}:SqT K H a vs->mM K H vs ds->pK K H (.ref a) (.tuple ds)
 |lst {a:Addr}{vs:List V}{ds:List PyData}:SqL K H a vs->mM K H vs ds->pK K H (.ref a) (.list ds)
inductive mM(K:ao)(H:Hp):List V->List PyData->Prop where
 |nil:mM K H [] []
 |cons {v:V}{vs:List V}{d:PyData}{ds:List PyData}:pK K H v d->mM K H vs ds->mM K H (v::vs) (d::ds)
end
section
variable {X:Cx}{pins:List (Addr×Obj)}{G:St}{H:Hp}{s:Shared}
mutual
theorem pK.reads(I:Inv X pins G H s):∀{v:V}{d:PyData}{w:Value},pK X.K H v d->RelV v w->∃as,Reads s.heap w d as
 |_,_,_,.non,r=>⟨[],by cases (show _=jV from r);exact .none⟩
 |_,_,_,.bl b,r=>⟨[],by cases (show _=t6 b from r);exact .bool b⟩
 | _,_,_,.int i,r=>by
   obtain⟨t,e⟩:=(show ∃t,_=rH i t from r);subst e;exact⟨[],.int i t⟩
 | _,_,_,.str x,r=>by
   obtain⟨t,e⟩:=(show ∃t,_=rJ x t from r);subst e;exact⟨[],.str x t⟩
 | _,_,_,.tup (a:=a) h rs,r=>by
   cases (show _=bx a from r);obtain⟨its,rv,⟨o,e,c,n,dt⟩,_⟩:=I.tuple h;obtain⟨as,q⟩:=mM.reads I rs rv;exact⟨as,.tuple e c dt q⟩
 | _,_,_,.lst (a:=a) h rs,r=>by
   cases (show _=bx a from r);obtain⟨its,rv,⟨o,n,e,c,dd,dt⟩,_⟩:=I.list h;obtain⟨as,q⟩:=mM.reads I rs rv;exact⟨a::as,.list e c dt q⟩
theorem mM.reads(I:Inv X pins G H s):∀{vs:List V}{ds:List PyData}{ws:List Value},mM X.K H vs ds->cM vs ws->∃as,ReadsAll s.heap ws ds as
 |_,_,_,.nil,r=>by cases r;exact⟨[],.nil⟩
 | _,_,_,.cons h rs,r=>by
   cases r with
   | cons r1 r2=>
     obtain⟨as,q⟩:=pK.reads I h r1;obtain⟨bs,q'⟩:=mM.reads I rs r2;exact⟨as++bs,.cons q q'⟩
end
end
theorem qP{α β:Type}{f:α->Option β}{P:α->β->Prop}(hf:∀x y,f x=some y->P x y):∀{xs:List α}{ys:List β},dS f xs=some ys->Paired P xs ys
 |[],ys,h=>by cases h;exact .nil
 | x::xs,ys,h=>by
   unfold dS at h;cases e:f x with
   |none=>rw[e]at h;cases h
   | some y=>
     rw[e]at h;simp only[ah]at h;cases e2:dS f xs with
     |none=>rw[e2]at h;cases h
     | some zs=>
       rw[e2]at h;cases h;exact .cons (hf x y e) (qP hf e2)
theorem ue{f:Nat}:∀{us:List U}{ds:List PyData},Paired (λ(_:U) (d:PyData)=>d.canLay0=true/\d.depth<=f) us ds->fB ds=true/\kr ds<=f
 |_,_,.nil=>⟨by simp[fB],by simp[kr]⟩
 | _,_,.cons h t=>by
   obtain⟨a,b⟩:=ue t;exact⟨by simp[fB,h.1,a],by simp only[kr];exact Nat.max_le.mpr ⟨h.2,b⟩⟩
section
variable {K:KX}{H:Hp}{μ:List Addr}{S:Sto}
theorem uo{f:Nat}(hr:HR K μ S H)(ih:∀(u:U) (d:PyData),toD S f u=some d->∀v,RU H μ u v->pK K H v d):∀{us:List U}{ds:List PyData},dS (toD S f) us=some ds->∀{vs:List V},RUs H μ us vs->mM K H vs ds
 |[],ds,h,vs,r=>by cases h;rw[r.nil_inv];exact .nil
 | u::us,ds,h,vs,r=>by
   unfold dS at h;cases e:toD S f u with
   |none=>rw[e]at h;cases h
   | some y=>
     rw[e]at h;simp only[ah]at h;cases e2:dS (toD S f) us with
     |none=>rw[e2]at h;cases h
     | some zs=>
       rw[e2]at h;cases h;obtain⟨v,r',rfl,a,b⟩:=r.inv;exact .cons (ih u y e v a) (uo hr ih e2 b)
theorem ur(hr:HR K μ S H):∀(f:Nat) (u:U) (d:PyData),toD S f u=some d->∀v,RU H μ u v->pK K H v d
 |0,u,d,h,v,r=>by cases u<;>cases h
 |f+1,.non,d,h,v,r=>by cases h;rw[show v=.non by simpa only [RU]using r];exact .non
 |f+1,.bl b,d,h,v,r=>by cases h;rw[jF r];exact .bl b
 |f+1,.int i,d,h,v,r=>by cases h;rw[dI r];exact .int i
 | f+1,.str x,d,h,v,r=>by
   unfold toD at h
   split at h
   .cases h;rw[show v=.str x by simpa only [RU]using r];exact .str x
   .cases h
 | f+1,.tup us,d,h,v,r=>by
   unfold toD at h;cases e:dS (toD S f) us with
   |none=>rw[e]at h;cases h
   | some ds=>
     rw[e]at h;cases h;obtain⟨a,vs,rfl,ha,rs⟩:=iG r;exact .tup (.inl (.inl ha)) (uo hr (ur hr f) e rs)
 | f+1,.ref n,d,h,v,r=>by
   unfold toD at h;cases e0:getL S n with
   |none=>rw[e0]at h;cases h
   | some us=>
     rw[e0]at h;simp only[ah]at h;cases e:dS (toD S f) us with
     |none=>rw[e]at h;cases h
     | some ds=>
       rw[e]at h;cases h;obtain⟨a,rfl,ha⟩:=fF r;obtain⟨a',vs,ha',hs,rs⟩:=hr.sq e0;rw[ha]at ha';cases ha';exact .lst hs (uo hr (ur hr f) e rs)
 |f+1,.obj a,d,h,v,r=>by cases h
end
theorem ui(S:Sto):∀(f:Nat) (u:U) (d:PyData),toD S f u=some d->d.canLay0=true/\d.depth<=f
 |0,u,d,h=>by cases u<;>cases h
 |f+1,.non,d,h=>by cases h;exact⟨by simp[d6],by simp[ji]⟩
 |f+1,.bl b,d,h=>by cases h;exact⟨by simp[d6],by simp[ji]⟩
 |f+1,.int i,d,h=>by cases h;exact⟨by simp[d6],by simp[ji]⟩
 | f+1,.str x,d,h=>by
   unfold toD at h
   split at h
   .rename_i q;cases h;exact⟨q,by simp[ji]⟩
   .cases h
 | f+1,.tup us,d,h=>by
   unfold toD at h;cases e:dS (toD S f) us with
   |none=>rw[e]at h;cases h
   | some ds=>
     rw[e]at h;cases h;obtain⟨a,b⟩:=ue (qP (λx y q=>ui S f x y q) e);exact⟨by simpa [d6]using a,by simp only[ji];exact Nat.lt_succ_of_le 0#4⟩
 | f+1,.ref n,d,h=>by
   unfold toD at h;cases e0:getL S n with
   |none=>rw[e0]at h;cases h
   | some us=>
     rw[e0]at h;simp only[ah]at h;cases e:dS (toD S f) us with
     |none=>rw[e]at h;cases h
     | some ds=>
       rw[e]at h;cases h;obtain⟨a,b⟩:=ue (qP (λx y q=>ui S f x y q) e);exact⟨by simpa [d6]using a,by simp only[ji];exact Nat.lt_succ_of_le 0#4⟩
 |f+1,.obj a,d,h=>by cases h
def tu(K:ao)(H:Hp)(v:V)(d:PyData):Prop:=pK K H v d/\d.canLay0=true/\d.depth<=40
def Qq(K:ao):R2:=λx y H Q=>∃a b,tu K H x a/\tu K H y b/\Q (.bl (lC a b)) H
def Sq(K:ao):R2:=λx y H Q=>∃a b,tu K H x a/\tu K H y b/\Q (.bl (!lC a b)) H
variable{d:PyData}
theorem oo{K:ao}(h:tu K H v d):SeqAt.shaped d=true:=by
 unfold SeqAt.shaped;rw[h.2.1,decide_eq_true (aC h.2.2 0#1)];rfl
section
variable {X:Cx}
theorem P7(hu:X.A.units+64<cLine):OpR X (compareOp .Eq) (Qq X.K):=by
 intro pins s G H x y v u Q I rx ry h;obtain⟨a,b,ha,hb,q⟩:=h;obtain⟨as,r1⟩:=ha.1.reads I rx;obtain⟨bs,r2⟩:=hb.1.reads I ry;exact SeqAt.compareEq_shaped r1 r2 (oo ha) (oo hb) hu 15#5
theorem Pe(hu:X.A.units+64<cLine):OpR X (compareOp .NotEq) (Sq X.K):=by
 intro pins s G H x y v u Q I rx ry h;obtain⟨a,b,ha,hb,q⟩:=h;obtain⟨as,r1⟩:=ha.1.reads I rx;obtain⟨bs,r2⟩:=hb.1.reads I ry;exact SeqAt.compareNe_shaped r1 r2 (oo ha) (oo hb) hu 15#5
end
section
variable {K:KX}{μ:List Addr}{S:Sto}{H:Hp}
theorem ye(hr:HR K μ S H)(r:RU H μ u v)(h:toD S 40 u=some d):tu K H v d:=⟨ur hr 40 u d h v r,ui S 40 u d h⟩
theorem CI{x y:U}{b:Bool}(h:eqU S x y=some b):∃a c,toD S 40 x=some a/\toD S 40 y=some c/\b=lC a c:=by
 unfold eqU at h;cases e1:toD S 40 x with
 |none=>rw[e1]at h;cases h
 | some a=>
   rw[e1]at h;simp only[ah]at h;cases e2:toD S 40 y with
   |none=>rw[e2]at h;cases h
   |some c=>rw[e2]at h;cases h;exact⟨a,c,rfl,rfl,rfl⟩
theorem QE:OpU K (Qq K) oEq:=by
 intro μ S H x y vx vy u S' Q hr rx ry e a;unfold oEq at e;cases q:eqU S x y with
 |none=>rw[q]at e;cases e
 | some b=>
   rw[q]at e;cases e;obtain⟨d1,d2,e1,e2,rfl⟩:=CI q;exact⟨d1,d2,ye hr rx e1,ye hr ry e2,a.now hr jG⟩
theorem QG:OpU K (Sq K) oNe:=by
 intro μ S H x y vx vy u S' Q hr rx ry e a;unfold oNe at e;cases q:eqU S x y with
 |none=>rw[q]at e;cases e
 | some b=>
   rw[q]at e;cases e;obtain⟨d1,d2,e1,e2,rfl⟩:=CI q;exact⟨d1,d2,ye hr rx e1,ye hr ry e2,a.now hr jG⟩
end
def Sz(K:ao):V->Option Int->Option Int->Hp->VK->Prop:=λx lo hi H Q=>∃a xs,x=.ref a/\SqT K H a xs /\
 (HT.sIx xs.length 0 lo=0/\HT.sIx xs.length xs.length hi=xs.length)/\Q (.ref a) H
theorem II:SlR X (Sz X.K):=by
 intro pins s G H x v vl vu lo hi sl Q I rx hs pl pu h;obtain⟨a,xs,rfl,hx,hw,q⟩:=h;cases rx;obtain⟨its,r,ht,hz⟩:=I.tuple hx;have hlen:its.toArray.size=xs.length:=by rw[aH];exact r.length.symm
 refine⟨"tuple",_,PyProof.Rows.slot_tuple_getitem.lookup,ht.typeIs,?_⟩;exact HT.getItem_tuple_whole ht hs pl pu (by rw[hlen];exact hw) ⟨.ref a,H,I,rfl,q⟩
def rSl(K:ao):V->Option Int->Option Int->Hp->VK->Prop:=λx lo hi H Q=>RG K x lo hi H Q\/(Sz K x lo hi H Q\/Rp K x lo hi H Q)
theorem Oi:SlR X (rSl X.K):=SlR.or Pm (SlR.or II LK)
def tO(K:KX):Option ME->TO
 |none=>Dt
 |some m=>Mi (tM K m)
theorem Dq(r:RUs H μ us vs)(lo hi:Option Int):RUs H μ (cut us lo hi) (zO vs lo hi):=by
 unfold cut zO;rw[r.len];exact(r.drop _).take _
section
variable {K:KX}{G:St}{H:Hp}{Q:VK}
theorem Io{a:Option ME}{S S1:Sto}{o:Option Int}{Q:Option Int->Hp->Prop}(hr:HR K μ S H)(er:ER H μ Y G)(e:uU a Y S=some (o,S1))
  (k:∀Y0 H1,Pre μ Y0->bq H H1->HR K Y0 S1 H1->Q o H1):tO K a G H Q:=by
 cases a with
 |none=>cases e;exact k μ H 1#6 7#8 hr
 | some m=>
   obtain⟨x,S2,e1,e⟩:=ba (show bnd (m Y S) (λx S1=>match x with
    |.int i=>some (some i,S1)
    | _=>none)=some (o,S1) from e)
   split at e
   .cases e
    exact⟨μ,S,Y,_,_,hr,er,e1,λY0 v H1 p1 k1 hr1 rx=>⟨_,dI rx,k Y0 H1 p1 k1 hr1⟩⟩
   .cases e
theorem J2{a:ME}{lo hi:Option ME}(h:tM K (mSl a lo hi) G H Q):tSl (rSl K) (tM K a) (tO K lo) (tO K hi) G H Q:=by
 obtain⟨μ,S,Y,u,S',hr,er,e,k⟩:=h;obtain⟨x,S1,e1,e⟩:=ba e;obtain⟨l,S2,e2,e⟩:=ba e;obtain⟨r,S3,e3,e⟩:=ba e;refine 9#3;refine Io hr1 7#5 e2 λY5 H2 p2 k2 hr2=>?_;refine Io hr2 (er.mono 9#0 8#1) e3 λY' H3 p3 k3 hr3=>?_;have k':=k.mono (p1.trans 13#5) (k1.trans (k2.trans k3));have rx3:=RU.mono (k2.trans k3) 13#5 _ _ rx;cases x with
 | tup us=>
   cases e;obtain⟨p,vs,rfl,hp,rs⟩:=iG rx3;by_cases hw:HT.sIx vs.length 0 l=0/\HT.sIx vs.length vs.length r=vs.length
   .refine .inr (.inl ⟨p,vs,rfl,.inl (.inl hp),hw,k'.now hr3 ?_⟩)
    have e4:cut us l r=us:=by
     unfold cut;rw[rs.len,hw.1,hw.2];simp[<-rs.len]
    rw[e4];exact iV hp rs
   .refine .inl ⟨p,vs,rfl,.inl (.inl hp),hw,λt ht=>?_⟩
    refine k' Y' _ _ 1#6 (bq.new ht) (hr3.tup ht) (iV cz (RUs.mono (bq.new ht) 1#6 _ _ (Dq rs l r)))
 | ref n=>
   simp only at e;cases q:getL S3 n with
   |none=>rw[q]at e;cases e
   | some us=>
     rw[q]at e;cases e;obtain⟨p,rfl,hp⟩:=fF rx3;obtain⟨p',vs,hp',hs,rs⟩:=hr3.sq q;rw[hp]at hp';cases hp';exact .inr (.inr ⟨p,vs,rfl,hs,λt ht=>i9 k' hr3 (Dq rs l r) ht⟩)
 |_=>cases e
end
section
variable {M:Mo}{X:Cx}{k:Nat}{N:List Str}{ns:List (Str×NameKind)}{a b c e:Expr}{es:List Expr}{ma mb mc:ME}{mt:MT}{mas:MA}{pos p1 p2:Pos}{x:Str}
inductive nK(M:Mo)(X:Cx):Option Expr->Option ME->Prop where
 |none:nK M X .none .none
 |some {e:Expr}{m:ME}:PE X e (tM M.K m)->nK M X (.some e) (.some m)
theorem nK.po{lo:Option Expr}{m:Option ME}(h:nK M X lo m):PO X lo (tO M.K m):=by
 cases h with
 |none=>exact KJ
 |some h=>exact Ls h
theorem KL{lo hi:Option Expr}{ml mh:Option ME}(S:Sc M X k N ns)(ha:PE X a 2#9)(hl:nK M X lo ml)(hh:nK M X hi mh):PE X (.Subscript a (.Slice lo hi none p2) pos) (tM M.K (mSl ma ml mh)):=
 PE.con (F8 (S.hK▸Oi) ha hl.po hh.po) λ_ _ _ h=>J2 h
end
def j7(a b:ME):ME:=λY S=>bnd 5#6 λx S1=>match x with
 |.bl true=>b Y S1
 |.bl false=>some (.bl false,S1)
 |_=>none
def mOr(a b:ME):ME:=λY S=>bnd 5#6 λx S1=>match x with
 |.bl true=>some (.bl true,S1)
 |.bl false=>b Y S1
 |_=>none
def tU:U->Sto->Res U:=λx S=>match x with
 |.bl b=>some (.bl (!b),S)
 |_=>none
section
variable {K:KX}{G:St}{H:Hp}{Q:VK}
theorem P8{a b:ME}(h:tM K (j7 a b) G H Q):Mz (tM K a) (tM K b) G H Q:=by
 obtain⟨μ,S,Y,u,S',hr,er,e,k⟩:=h;obtain⟨x,S1,e1,e⟩:=ba e;refine 9#3
 split at e
 .exact⟨true,jF rx,qX 25#5⟩
 .cases e
  exact⟨false,jF rx,rm (k Y0 _ H1 p1 k1 hr1 jG)⟩
 .cases e
theorem Qo{a b:ME}(h:tM K (mOr a b) G H Q):Sw (tM K a) (tM K b) G H Q:=by
 obtain⟨μ,S,Y,u,S',hr,er,e,k⟩:=h;obtain⟨x,S1,e1,e⟩:=ba e;refine 9#3
 split at e
 .cases e
  exact⟨true,jF rx,qX (k Y0 _ H1 p1 k1 hr1 jG)⟩
 .exact⟨false,jF rx,rm 25#5⟩
 .cases e
theorem O4{a:ME}(h:tM K (m1 tU a) G H Q):L6 (tM K a) G H Q:=by
 obtain⟨μ,S,Y,u,S',hr,er,e,k⟩:=h;obtain⟨x,S1,e1,e⟩:=ba e;refine 9#3;unfold tU at e
 split at e
 .cases e
  exact⟨_,jF rx,k Y0 _ H1 p1 k1 hr1 jG⟩
 .cases e
end
section
variable {X:Cx}{a b:Expr}{ta:TA}{p pos:Pos}
def Hn(ta:TA):TE:=λG H Q=>ta G H λvs H1=>∃j:Int,vs=[.int j] /\ -(2^62)<=j/\j<2^62 /\ ∀r,H1 r=none->Q (.ref r) (upd H1 r (.rng 0 j))
def MZ(ta:TA):TE:=λG H Q=>ta G H λvs H1=>∃i j:Int,vs=[.int i,.int j]/\(-(2^62)<=i/\i<2^62 /\ -(2^62)<=j/\j<2^62) /\ ∀r,H1 r=none->Q (.ref r) (upd H1 r (.rng i j))
theorem zY{pins:List (Addr×Obj)}{lo hi:Int}{t u v:Tok}{tk:Nat}(I:Inv X pins G H s)(q:∀r,H r=none->Q (.ref r) (upd H r (.rng lo hi))):
  EP X pins G Q 10#4 { s with heap:=s.heap.push { cls := .type "range",data := .fields #[.int lo t,.int hi u,.int 1 v] },toks:=tk }:=by
 refine⟨.ref s.heap.objs.size,_,I.laid (t':=tk) (o:= .rng lo hi) 15#7 0#9 ?_,rfl,q _ 15#8⟩;exact⟨t,u,v,aL _ rfl⟩
theorem Cz (hg:Gl X "range") (hm:X.mg "range"=none) (ha:PA X [a] ta) (hs:autoParam 27#4 au1._auto_1):PE X (.Call (.Name "range" p) [a] [] pos) (Hn ta):=by
 intro pins s G H Q I h;refine Call_ (lh I hg hm boot_range (dO 21#3 (by rw[hs];rfl) rfl));obtain⟨j,e,q1,q2,q⟩:=q1;subst e;cases r1 with
 | cons r rr=>
   cases rr;obtain⟨t,rfl⟩:=r;exact call_range_1 (zY I1 q)
theorem Kn (hg:Gl X "range") (hm:X.mg "range"=none) (ha:PA X [a,b] ta) (hs:autoParam 30#9 au1._auto_1) (hs2:autoParam 32#1 au1._auto_1) :
  PE X (.Call (.Name "range" p) [a,b] [] pos) (MZ ta):=by
 intro pins s G H Q I h;refine Call_ (lh I hg hm boot_range (dO 21#3 (by rw[hs,hs2]) (by rw[hs2];rfl)));obtain⟨i,j,e,⟨q1,q2,q3,q4⟩,q⟩:=q1;subst e;cases r1 with
 | cons r rr=>
   cases rr with
   | cons r' rr=>
     cases rr;obtain⟨t,rfl⟩:=r;obtain⟨t',rfl⟩:=r';exact call_range_2 (zY I1 q)
theorem zb:∀{xs:List V}{us:List Value},xs.length=us.length->(∀(i:Nat) (x:V) (u:Value),xs[i]?=some x->us[i]?=some u->RelV x u)->cM xs us
 |[],[],_,_=>.nil
 |[],_::_,h,_=>by simp at h
 |_::_,[],h,_=>by simp at h
 |x::xs,u::us,h,k=>.cons (k 0 x u rfl rfl) (zb 14#2 λi y w h1 h2=>k (i+1) y w (by simpa using h1) (by simpa using h2))
def mP(i:Int)(n:Nat):List V:=(ay n).map λ(k:Nat)=>.int (i+k)
theorem oU (hc:X.calm=true):iy X (.type "list") (fun xs H Q=>∃ r lo hi,xs=[.ref r]/\H r=some (.rng lo hi)/\(-(2^62)<=lo/\lo<2^62 /\ -(2^62)<=hi/\hi<2^62)/\(hi-lo).toNat<=sizeLine /\ ∀ l,H l=none->Q (.ref l) (upd H l (.lst 20#1))):=by
 intro pins s G H xs us Q I rs h;obtain⟨r,lo,hi,rfl,hr,⟨h1,h2,h3,h4⟩,hz,q⟩:=h;cases rs with
 | cons r1 rr=>
   cases rr;cases (show _=bx r from r1);obtain⟨t,u,v,e⟩:=I.hok r _ hr;have hn:eu lo hi 1=((hi-lo).toNat:Nat):=by rw[rangeSize_one];split<;>omega
   refine call_list_range (n:=(hi-lo).toNat) 10#0 e (small_one h1 h2 h3 h4) hn (by rw[sizeLine_eq]at hz;exact hz) λh' tk acc c' hk hl hacc=>?_;obtain⟨hsz,hit⟩:=hacc;refine⟨.ref s.heap.objs.size,_,I.laid (t':=tk) (o:= .lst 20#1) hk 0#9 ?_,rfl,q _ 15#8⟩;refine⟨by rw[mP,ax,bc];exact hz,acc.toList,c',?_,by simpa using hl⟩;refine zb (by rw[mP,ax,bc,fP,hsz]) λi x w h5 h6=>?_;have hlt:i<(hi-lo).toNat:=by
    have:=(ag.mp h5).1;rwa[mP,ax,bc]at this
   have hx:(mP lo (hi-lo).toNat)[i]?=some (.int (lo+i)):=by simp[mP,hlt]
   rw[hx]at h5;cases h5;obtain⟨t',e'⟩:=hit i w (by simpa using h6);exact⟨t',by rw[e'];simp⟩
end
theorem Do(i:Int)(n:Nat):RUs H μ (br i n) (mP i n):=by
 unfold br mP
 induction n with
 |zero=>simpa using RUs.nil
 |succ n ih=>rw[eS,ck,ck];exact ih.append (.cons fj .nil)
section
variable {K:KX}{G:St}{H:Hp}{Q:VK}
def rLR:List V->Hp->VK->Prop:=λxs H Q=>∃r lo hi,xs=[.ref r]/\H r=some (.rng lo hi)/\(-(2^62)<=lo/\lo<2^62 /\ -(2^62)<=hi/\hi<2^62)/\(hi-lo).toNat<=sizeLine /\ ∀l,H l=none->Q (.ref l) (upd H l (.lst 20#1))
theorem HR.rng{μ:List Addr}{S:Sto}{p:Addr}{i j:Int}(h:HR K μ S H)(hp:H p=none):HR K μ S (upd H p (.rng i j)):=by
 have kp:bq H (upd H p (.rng i j)):=bq.new hp;refine⟨h.len,h.inj,λm c b q1 q2=>(h.cell m c b q1 q2).mono kp 1#6 (λhc=>?_) λo u hf=>?_,h.ext.upd kp 1#6 λo1 q=>by rw[hp]at q;cases q⟩
 .obtain⟨o,e,_⟩:=(h.cell m _ b q1 q2).has hc
  exact bo (bf e hp)
 .rw[bo (bf hf hp)];exact hf
theorem CZ{S1:Sto}{i j:Int}{r:Addr}(hr1:HR K μ S1 H)(ho:okR i/\okR j)(hz:(br i (j-i).toNat).length<=big)(k:Aft K μ H (.ref S1.length) (S1++[.lst (br i (j-i).toNat)]) Q)(hrn:H r=none):rLR [.ref r] (upd H r (.rng i j)) Q:=by
 refine⟨r,i,j,rfl,cz,⟨ho.1.1,ho.1.2,ho.2.1,ho.2.2⟩,?_,λl hl=>?_⟩
 .unfold br big at hz;rw[ax,bc]at hz;rw[sizeLine_eq];exact hz
 .exact i9 (k.mono 1#6 (bq.new hrn)) (hr1.rng hrn) (Do _ _) hl
theorem Hj{a:MA}(h:tM K (gy (iR1 a)) G H Q):tCB rLR (uJ (Hn 6#4) Cb) G H Q:=by
 obtain⟨μ,S,Y,u,S',hr,er,e,k⟩:=h;obtain⟨src,S1,e1,e⟩:=ba e;obtain⟨xs,S2,e2,e1⟩:=ba e1;refine 29#9
 split at e1
 .rename_i j
  split at e1
  .rename_i hj
   cases e1;simp only at e
   split at e
   .rename_i hz
    cases e;obtain⟨v,r,rfl,rx,rn⟩:=rs.inv;rw[rn.nil_inv,dI rx];refine⟨j,rfl,hj.1,hj.2,λr hrn=>?_⟩;have ez:(j-0).toNat=j.toNat:=by simp
    exact CZ (i:=0) hr1 ⟨15#4,hj⟩ (by rw[ez];exact hz) (by rw[ez];exact k.mono p1 k1) hrn
   .cases e
  .cases e1
 .cases e1
theorem Hq{a:MA}(h:tM K (gy (iR2 a)) G H Q):tCB rLR (uJ (MZ 6#4) Cb) G H Q:=by
 obtain⟨μ,S,Y,u,S',hr,er,e,k⟩:=h;obtain⟨src,S1,e1,e⟩:=ba e;obtain⟨xs,S2,e2,e1⟩:=ba e1;refine 29#9
 split at e1
 .rename_i i j
  split at e1
  .rename_i hj
   cases e1;simp only at e
   split at e
   .rename_i hz
    cases e;obtain⟨v,r,rfl,rx,rs⟩:=rs.inv;obtain⟨w,r,rfl,ry,rn⟩:=rs.inv;rw[rn.nil_inv,dI rx,dI ry];exact⟨i,j,rfl,⟨hj.1.1,hj.1.2,hj.2.1,hj.2.2⟩,λr hrn=>CZ hr1 hj hz 10#6 hrn⟩
   .cases e
  .cases e1
 .cases e1
end
def qM:List String := ["NoneType","bool","int","str","list","tuple","dict"]
def mG:List String := ["bool","int","str","list","tuple","dict"]
variable{T:String}
theorem P5(K:ao){t:String}(ht:t∈qM)(hT:T∈mG):cX K (.type t) (.type T)=some (K3 t T):=by
 simp only[qM,mG,a9,oC,or_false]at ht hT;rcases ht with rfl|rfl|rfl|rfl|rfl|rfl|rfl<;>rcases hT with rfl|rfl|rfl|rfl|rfl|rfl<;>first|rfl|kernel_rfl
theorem Gc :iy X (.builtin "isinstance") (fun xs H Q=>∃ x t T,xs=[x,.ty T]/\pB X.K H x (.type t)/\t∈qM/\T∈mG/\Q (.bl (K3 t T)) H):=by
 intro pins s G H xs us Q I rs h;obtain⟨x,t,T,rfl,ty,ht,hT,q⟩:=h;cases rs with
 | cons r1 rr=>
   cases rr with
   | cons r2 rr=>
     cases rr;cases (show _=A3 T from r2);exact Ej I r1 ty (P5 X.K ht hT) λtk=>⟨.bl _,H,I.tok _,rfl,q⟩
variable{S:Sto}{x:U}
theorem Sr{t:String}(hr:HR K μ S H)(r:RU H μ x v)(e:tyU S x=some t):pB K H v (.type t)/\t∈qM:=by
 unfold tyU at e
 split at e
 .cases e;rw[show v=.non by simpa only [RU]using r];exact⟨.non,by decide⟩
 .cases e;rw[jF r];exact⟨.bl _,by decide⟩
 .cases e;rw[dI r];exact⟨.int _,by decide⟩
 .cases e;rw[show v=.str _ by simpa only [RU]using r];exact⟨.str _,by decide⟩
 .cases e;obtain⟨a,vs,rfl,ha,_⟩:=iG r;exact⟨.tup ha,by decide⟩
 .split at e
  .rename_i q
   cases e;obtain⟨a,rfl,ha⟩:=fF r;obtain⟨vs,e1,_⟩:=hr.cell _ _ a q ha;exact⟨.lst e1,by decide⟩
  .rename_i q
   cases e;obtain⟨a,rfl,ha⟩:=fF r;obtain⟨vs,e1,_⟩:=hr.cell _ _ a q ha;exact⟨.dK e1,by decide⟩
  .cases e
 .cases e
theorem SU{H:Hp}{Q:VK}{a:ME}{T:String}(hT:T∈mG)(h:tM K (m1 (iW T) a) G H Q):
  tCB (λxs H Q=>∃x t T,xs=[x,.ty T]/\pB K H x (.type t)/\t∈qM/\T∈mG/\Q (.bl (K3 t T)) H) (uJ (tM K a) (uJ (tC (.ty T)) Cb)) G H Q:=by
 obtain⟨μ,S,Y,u,S',hr,er,e,k⟩:=h;obtain⟨x,S1,e1,e⟩:=ba e;refine 9#3;unfold iW at e;cases q:tyU S1 x with
 |none=>rw[q]at e;cases e
 | some t=>
   rw[q]at e;cases e;obtain⟨ty,ht⟩:=Sr hr1 rx q;exact⟨vx,t,T,rfl,ty,ht,hT,k Y0 _ H1 p1 k1 hr1 jG⟩
def IT(S:Sto)(x:U)(us:List U):Option Nat:=(dS (toD S 39) us).bind λds=>(toD S 40 x).bind λd=>ds.findIdx? λy=>lC y d
def jO:List U->List U->Sto->Res U:=λus xs S=>match xs with
 |[x]=>(IT S x us).map λk=>(.int k,S)
 |_=>none
def Ol(K:ao)(to:TE)(t:TA):TE:=λG H Q=>to G H λx H1=>(∃p ys,x=.ref p/\H1 p=some (.tup ys))/\t G H1 λxs H2=>∃p ys v ds d j,x=.ref p/\xs=[v]/\H2 p=some (.tup ys) /\
 mM K H2 ys ds/\fB ds=true/\kr ds<=40/\tu K H2 v d/\ds.findIdx? (λy=>lC y d)=some j/\Q (.int j) H2
theorem Ij{o e:Expr}{es:List Expr}{to:TE}{t:TA}{apos cpos:Pos}(hu:X.A.units+64<cLine)(ho:PE X o to)(ha:PA X 1#7 t)
  (hbase:autoParam (attributeBase o "index" X.env (eval o X.env)=eval o X.env) au1._auto_1)
  (hfew:autoParam (((backTo cpos (starEach 1#7 X.env)).all (λx => !x.1)&&(backToKw cpos (keywordEach [] X.env)).all (λx=>x.1.isSome)
   && decide ((e::es).length+([]:List Keyword).length+(if ([]:List Keyword).isEmpty then 0 else 1)<30))=true) au1._auto_1)
  (hline:autoParam ((apos.endLine==cpos.line)=true) au1._auto_1) (hs:autoParam 9#2 au1._auto_1) (hplain:autoParam ((backTo cpos 10#5).any 2#2=false) au1._auto_1):
  PE X (.Call (.Attribute o "index" apos) 1#7 [] cpos) (Ol X.K to t):=by
 intro pins s G H Q I h;refine wpAny_Call_method_late hbase hfew hline rfl (thn (ho pins s G H _ I h) λv s1 ⟨x,H1,I1,r1,⟨p,ys,hx,hp⟩,q1⟩=>?_);subst hx;cases (show v=bx p from r1);obtain⟨_,its,rv,⟨o1,e1,c1,n1,d1⟩,o2,e2,c2⟩:=I1.hok p _ hp;refine⟨"tuple",_,PySem.F.plainAttrs_tuple,A9,PySem.F.type_tuple_index,⟨o1,e1,c1⟩,fun a ea=>by cases ea;exact⟨o2,e2,c2⟩,?_⟩;have hA:=ha cpos pins s1 G H1 _ I1 q1;rw[hs]at hA ⊢;refine oO (by show(false||(backTo cpos 10#5).any 2#2)=false;rw[hplain]<;>rfl) (kn ?_);refine thn hA λus s2 ⟨vs,H2,I2,r2,q2⟩=>?_;obtain⟨p',ys',v',ds,d,j,hx,hxs,hp',rd,hl,hdp,hd,hj,q⟩:=q2;cases hx;subst hxs;cases r2 with
 | cons ra rr=>
   cases rr;obtain⟨_,its2,rv2,⟨⟨cls,dd,data,sl⟩,e3,c3,n3,d3⟩,_⟩:=I2.hok p _ hp';simp only at c3 d3;subst c3 d3;obtain⟨as,rds⟩:=rd.reads I2 rv2;obtain⟨bs,rdv⟩:=hd.1.reads I2 ra;have hlen:its2.length=ds.length:=SeqAt.ReadsAll.length _ _ _ rds;have hjl:j<ds.length:=by
    obtain⟨h1,_⟩:=fv.mp hj;exact h1
   have hmap:=SeqAt.readsAll_map ds _ _ hl rds;have hget:∀(m:Nat) (h1:m<its2.length) (h2:m<ds.length),SeqAt.readOf s2.heap its2[m]=ds[m]:=λm h1 h2=>by
    have:=congrArg (λl=>l[m]?) hmap;simp[h1,h2]at this;exact this
   have heq:=SeqAt.items_eqAt (A:=X.A) (vs:=its2.toArray) (by simpa using rds) rdv hl hd.2.1 (by have:=lA (kr ds) d.depth;omega);obtain⟨h1,h2,h3⟩:=fv.mp hj;refine call_meets A9 ⟨_,e3,rfl⟩ PySem.F.entry_tuple_index (PySem.F.args_tuple_index_2 _ _)
    (wY p its2.toArray n3 dd sl _ (λy=>lC (SeqAt.readOf s2.heap y) d) j 17#4 ?_ ?_) ⟨e3,heq,?_⟩
   .have:=hget j 0#2 hjl
    simp only[JB,this];exact h2
   .intro m hm hmj
    rw[aH]at hm;have:=hget m hm (by exact cP 0#4 0#4);simp only[JB,this];simpa using h3 m hmj
   .exact⟨.int j,H2,I2.tok _,⟨_,rfl⟩,q⟩
theorem LO{o:ME}{a:MA}(h:tM K (mMT jO o a) G H Q):Ol K (tM K o) 6#4 G H Q:=by
 obtain⟨μ,S,Y,u,S',hr,er,e,k⟩:=h;obtain⟨x,S1,e1,e⟩:=ba e;refine 9#3;cases x with
 | tup us=>
   obtain⟨xs,S2,e2,e⟩:=ba e;obtain⟨p,vs,rfl,hp,rs⟩:=iG rx;refine⟨⟨p,vs,rfl,hp⟩,Y0,S1,Y,xs,S2,hr1,er.mono k1 p1,e2,λY5 ws H2 p2 k2 hr2 rws=>?_⟩;unfold jO at e
   split at e
   .rename_i x
    obtain⟨v,r,rfl,rx',rn⟩:=rws.inv;rw[rn.nil_inv];cases q:IT S2 x us with
    |none=>rw[q]at e;cases e
    | some j=>
      rw[q]at e;cases e;unfold IT at q;cases q1:dS (toD S' 39) us with
      |none=>rw[q1]at q;cases q
      | some ds=>
        rw[q1]at q;simp only[ah]at q;cases q2:toD S' 40 x with
        |none=>rw[q2]at q;cases q
        | some d=>
          rw[q2]at q;simp only[ah]at q;obtain⟨l1,l2⟩:=ue (qP (λx y z=>ui S' 39 x y z) q1);exact⟨p,vs,v,ds,d,j,rfl,rfl,k2 p vs hp,uo hr2 (ur hr2 39) q1 (RUs.mono k2 p2 _ _ rs),l1,by exact aC 0#4 0#1,ye hr2 rx' q2,q,k Y5 _ H2 8#1 9#0 hr2 fj⟩
   .cases e
 |_=>cases e
variable{o:Obj}
theorem LU{h h':Heap}(hk:∀b x,b ∉ [h.objs.size]->(h.push o).get? b=some x->h'.get? b=some x):∀b x,h.get? b=some x->h'.get? b=some x:=
 λb x e=>hk b x (λhm=>by rw[bW.mp hm]at e;exact bO _ (aK e)) (aw _ e)
theorem Bu(bs:List Bool):((ay bs.length).all λi=>(bs[i]?).getD true)=bs.all id:=by
 rw[Bool.eq_iff_iff,bI,bI];constructor
 .intro h b hb
  obtain⟨i,hi,rfl⟩:=List.getElem_of_mem hb;have:=h i (bZ.mpr hi);simpa [aF hi]using this
 .intro h i hi
  have hi':=bZ.mp hi;simp only[aF hi',Option.getD_some];exact h _ (cg hi')
theorem Ew{bs:List Bool}:∀{us:List Value}{i:Nat}{v:Value},cM (bs.map V.bl) us->us[i]?=some v->∃b,bs[i]?=some b/\v=.bool b:=λ{us i v} r h=>by
 have hl:=r.length;rw[ax]at hl;have hi:i<bs.length:=by rw[hl];exact(ag.mp h).1
 obtain⟨u,hu,ru⟩:=r.get (i:=i) (x:= .bl bs[i]) (by simp[hi]);rw[h]at hu;cases hu;exact⟨bs[i],by simp[hi],ru⟩
section
variable {X:Cx}
theorem Fc (hc:X.calm=true):iy X (.builtin "all") (fun xs H Q=>∃ (p:Addr) (bs:List Bool),xs=[.ref p]/\SqL X.K H p (bs.map V.bl)/\Q (.bl (bs.all id)) H):=by
 intro pins s G H xs us Q I rs h;obtain⟨p,bs,rfl,hS,q⟩:=h;cases rs with
 | cons r1 rr=>
   cases rr;cases (show _=bx p from r1);obtain⟨its,rv,pl,_⟩:=I.list hS;have hl:=pl.isList;have hlt:p<s.heap.objs.size:=by obtain⟨_,e,_⟩:=hl;exact aK e
   refine call_all_walk (wpAny_pyIter_list hl ?_)
   refine⟨s.heap.objs.size,[s.heap.objs.size,p],[s.heap.objs.size],its.toArray.size,_,_,λi=>(bs[i]?).getD true,rfl,Walks.list (A:=X.A.in1) 10#0 _ p (aW hlt) its.toArray,
    ⟨⟨_,aL _ rfl,rfl,rfl⟩,hl.push _⟩,λi v s' Q' E' hP hQ =>?_,λh' tk hk =>?_⟩
   .obtain⟨b,e,rfl⟩:=Ew rv (by simpa using hP)
    simp only[e,Option.getD_some]at hQ;exact en hQ
   .have e:((ay its.toArray.size).all λi=>(bs[i]?).getD true)=bs.all id:=by
     rw[aH,<-rv.length,ax];exact Bu bs
    rw[e];exact⟨.bl _,H,I.kept (LU hk),rfl,q⟩
end
def kc:U->Option Bool
 |.bl b=>some b
 |_=>none
def r9:MF:=λus S=>match us with
 |[.ref n]=>(getL S n).bind λxs=>(dS kc xs).map λbs=>(.bl (bs.all id),S)
 |_=>none
theorem Ay{H:Hp}{μ:List Addr}:∀{us:List U}{vs:List V}{bs:List Bool},RUs H μ us vs->dS kc us=some bs->vs=bs.map V.bl
 |[],vs,bs,r,e=>by cases e;rw[r.nil_inv];rfl
 | u::us,vs,bs,r,e=>by
   obtain⟨v,r',rfl,a,b⟩:=r.inv;unfold dS at e;cases u with
   | bl x=>
     simp only[kc,ah]at e;cases q:dS kc us with
     |none=>rw[q]at e;cases e
     | some cs=>
       rw[q]at e;cases e;rw[jF a,Ay b q];rfl
   |_=>cases e
section
variable {K:KX}
theorem Qg:qW K (λxs H Q=>∃(p:Addr) (bs:List Bool),xs=[.ref p]/\SqL K H p (bs.map V.bl)/\Q (.bl (bs.all id)) H) r9:=by
 intro μ S H us vs u S' Q hr rs e a;unfold r9 at e
 split at e
 .rename_i n
  obtain⟨v,r,rfl,rx,rn⟩:=rs.inv;rw[rn.nil_inv];cases q:getL S n with
  |none=>rw[q]at e;cases e
  | some xs=>
    rw[q]at e;simp only[ah]at e;cases q2:dS kc xs with
    |none=>rw[q2]at e;cases e
    | some bs=>
      rw[q2]at e;cases e;obtain⟨p,rfl,hp⟩:=fF rx;obtain⟨p',ys,hp',hs,r'⟩:=hr.sq q;rw[hp]at hp';cases hp';rw[Ay r' q2]at hs;exact⟨p,bs,rfl,hs,a.now hr jG⟩
 .cases e
end
def fC:U->Option V
 |.non=>some .non
 |.bl b=>some (.bl b)
 |.int i=>some 3#6
 |.str x=>some (.str x)
 |_=>none
def oIn:F2:=λx y S=>match ft S y with
 |some kvs=>(keyOf x).map λk=>(.bl (kf kvs k).isSome,S)
 |none=>(fC x).bind λvx=>(eC S y).bind λys=>(dS fC ys).map λvs=>(.bl (inV vx vs),S)
def fb:F2:=λx y S=>match ft S y with
 |some kvs=>(keyOf x).map λk=>(.bl (!(kf kvs k).isSome),S)
 |none=>(fC x).bind λvx=>(eC S y).bind λys=>(dS fC ys).map λvs=>(.bl (!inV vx vs),S)
theorem zg{w:V}(e:fC u=some v)(r:RU H μ u w):w=v/\oX v=true:=by
 cases u<;>simp only[fC,fg,reduceCtorEq]at e<;>subst e<;>exact⟨by simpa only [RU]using r,rfl⟩
theorem wm{H:Hp}{μ:List Addr}:∀{us:List U}{vs ws:List V},dS fC us=some vs->RUs H μ us ws->ws=vs/\vs.all oX=true
 |[],vs,ws,e,r=>by cases e;rw[r.nil_inv];exact⟨rfl,rfl⟩
 | u::us,vs,ws,e,r=>by
   obtain⟨v,r',rfl,a,b⟩:=r.inv;unfold dS at e;cases q1:fC u with
   |none=>rw[q1]at e;cases e
   | some x=>
     cases q2:dS fC us with
     |none=>rw[q1,q2]at e;cases e
     | some xs=>
       rw[q1,q2]at e;cases e;obtain⟨e1,f1⟩:=zg q1 a;obtain⟨e2,f2⟩:=wm q2 b;exact⟨by rw[e1,e2],by rw[bU,f1,f2];rfl⟩
section
variable {K:KX}
def KN(K:ao)(neg:Bool):R2:=λy x H Q=>rIn K neg y x H Q \/ ∃a o,x=.ref a/\wR H a y o/\Q (.bl (if neg then !o.isSome else o.isSome)) H
theorem Pt(hu:X.A.units+1<cLine):OpR X (compareOp .In) (KN X.K false):=by
 intro pins s G H x y v u Q I rx ry h;rcases h with h|⟨a,o,rfl,g,q⟩
 .exact EH pins s G H x y v u Q I rx ry h
 .obtain rfl:u=bx a:=ry
  exact TM hu I g rx λs3 I3=>⟨.bl o.isSome,H,I3,rfl,q⟩
theorem EU(hu:X.A.units+1<cLine):OpR X (compareOp .NotIn) (KN X.K true):=by
 intro pins s G H x y v u Q I rx ry h;rcases h with h|⟨a,o,rfl,g,q⟩
 .exact yx pins s G H x y v u Q I rx ry h
 .obtain rfl:u=bx a:=ry
  exact Lg hu I g rx λs3 I3=>⟨.bl (!o.isSome),H,I3,rfl,q⟩
theorem RQ:OpU K (KN K false) oIn:=by
 intro μ S H x y vx vy u S' Q hr rx ry e a;unfold oIn at e
 split at e
 .rename_i kvs qd
  cases qk:keyOf x with
  |none=>rw[qk]at e;cases e
  | some kk=>
    rw[qk]at e;cases e;obtain⟨p,vs,rfl,hp,r⟩:=hr.dic ry qd;have hl:kvs.length=vs.length:=by have:=r.len;rwa[ax]at this
    refine .inr ⟨p,_,rfl,.inl ⟨_,kk,.inl hp,qI rx qk,rfl⟩,?_⟩;simp only[gq,if_false];rw[uT hl];exact a.now hr jG
 refine .inl ?_;cases q1:fC x with
 |none=>rw[q1]at e;cases e
 | some fx=>
   cases q2:eC S y with
   |none=>rw[q1,q2]at e;cases e
   | some ys=>
     cases q3:dS fC ys with
     |none=>rw[q1,q2]at e;simp only[ah,q3]at e;cases e
     | some vs=>
       rw[q1,q2]at e;simp only[ah,q3]at e;cases e;obtain⟨rfl,f1⟩:=zg q1 rx;obtain⟨p,zs,rfl,hs,r'⟩:=hr.seq ry q2;obtain⟨rfl,f2⟩:=wm q3 r';exact⟨p,zs,rfl,hs,f1,f2,a.now hr jG⟩
theorem G3:OpU K (KN K true) fb:=by
 intro μ S H x y vx vy u S' Q hr rx ry e a;unfold fb at e
 split at e
 .rename_i kvs qd
  cases qk:keyOf x with
  |none=>rw[qk]at e;cases e
  | some kk=>
    rw[qk]at e;cases e;obtain⟨p,vs,rfl,hp,r⟩:=hr.dic ry qd;have hl:kvs.length=vs.length:=by have:=r.len;rwa[ax]at this
    refine .inr ⟨p,_,rfl,.inl ⟨_,kk,.inl hp,qI rx qk,rfl⟩,?_⟩;simp only[if_true];rw[uT hl];exact a.now hr jG
 refine .inl ?_;cases q1:fC x with
 |none=>rw[q1]at e;cases e
 | some fx=>
   cases q2:eC S y with
   |none=>rw[q1,q2]at e;cases e
   | some ys=>
     cases q3:dS fC ys with
     |none=>rw[q1,q2]at e;simp only[ah,q3]at e;cases e
     | some vs=>
       rw[q1,q2]at e;simp only[ah,q3]at e;cases e;obtain⟨rfl,f1⟩:=zg q1 rx;obtain⟨p,zs,rfl,hs,r'⟩:=hr.seq ry q2;obtain⟨rfl,f2⟩:=wm q3 r';exact⟨p,zs,rfl,hs,f1,f2,a.now hr jG⟩
def isU(x:U):U->Option Bool
 | .non=>(match x with
   |.non=>some true
   |.bl _=>some false
   |.tup _=>some false
   |.ref _=>some false
   |.int _=>some false
   | _=>none)
 | .bl j=>(match x with
   |.bl i=>some (i==j)
   |.non=>some false
   | _=>none)
 |_=>none
def mm:F2:=λx y S=>(isU x y).map λb=>(.bl (!b),S)
def rIs(neg:Bool):R2:=λx y H Q=>(∃i j,x=.bl i/\y=.bl j/\Q (.bl (if neg then i != j else i==j)) H)\/(∃i,x=.bl i/\y=.non/\Q (.bl neg) H) \/
 (∃j,x=.non/\y=.bl j/\Q (.bl neg) H)\/(x=.non/\y=.non/\Q (.bl (!neg)) H) \/
 (∃p,x=.ref p/\y=.non/\Q (.bl neg) H)\/(∃i,x=.int i/\y=.non/\Q (.bl neg) H)
theorem Fe:OpR X (compareOp .IsNot) (rIs true):=by
 intro pins s G H x y v u Q I rx ry h;rcases h with⟨i,j,rfl,rfl,q⟩|⟨i,rfl,rfl,q⟩|⟨j,rfl,rfl,q⟩|⟨rfl,rfl,q⟩|⟨p,rfl,rfl,q⟩|⟨i,rfl,rfl,q⟩
 .cases rx;cases ry
  exact isnot_bool 15#5
 .cases rx;cases ry
  exact isnot_bool_none 15#5
 .cases rx;cases ry
  exact aG 15#5
 .cases rx;cases ry
  exact isnot_none_none 15#5
 .cases rx;cases ry
  exact aG 15#5
 .obtain⟨t,rfl⟩:=rx;cases ry
  exact aG 15#5
theorem By(h:RU H μ .non v):v=.non:=by simpa only [RU]using h
theorem Ox{neg:Bool}{y:U}{vx vy:V}{b:Bool}(rx:RU H μ x vx)(ry:RU H μ y vy)(e:isU x y=some b)(a:Q (.bl (if neg then !b else b)) H):rIs neg vx vy H Q:=by
 have hf:(if neg then !false else false)=neg:=by cases neg<;>rfl
 have ht:(if neg then !true else true) = !neg:=by cases neg<;>rfl
 cases y with
 | non=>
   have hy:=By ry;subst hy;cases x with
   |non=>cases e;rw[ht]at a;exact .inr (.inr (.inr (.inl ⟨By rx,rfl,a⟩)))
   |bl i=>cases e;rw[hf]at a;exact .inr (.inl ⟨_,jF rx,rfl,a⟩)
   |tup us=>cases e;rw[hf]at a;obtain⟨p,_,rfl,_⟩:=iG rx;exact .inr (.inr (.inr (.inr (.inl ⟨_,rfl,rfl,a⟩))))
   |ref n=>cases e;rw[hf]at a;obtain⟨p,rfl,_⟩:=fF rx;exact .inr (.inr (.inr (.inr (.inl ⟨_,rfl,rfl,a⟩))))
   |int i=>cases e;rw[hf]at a;exact .inr (.inr (.inr (.inr (.inr ⟨_,dI rx,rfl,a⟩))))
   |_=>cases e
 | bl j=>
   have hy:=jF ry;subst hy;cases x with
   |bl i=>cases e;exact .inl ⟨_,_,jF rx,rfl,a⟩
   |non=>cases e;rw[hf]at a;exact .inr (.inr (.inl ⟨_,By rx,rfl,a⟩))
   |_=>cases e
 |_=>cases e
theorem IG:OpU K (rIs true) mm:=by
 intro μ S H x y vx vy u S' Q hr rx ry e a;unfold mm at e;cases q:isU x y with
 |none=>rw[q]at e;cases e
 |some b=>rw[q]at e;cases e;exact Ox rx ry q (a.now hr jG)
def mCh(f g:F2)(a b c:ME):ME:=λY S=>bnd 5#6 λx S1=>bnd (b Y S1) λy S2=>bnd (f x y S2) λz S3=>match z with
 |.bl true=>bnd (c Y S3) λw S4=>g y w S4
 |.bl false=>some (.bl false,S3)
 |_=>none
theorem Dm{r r':R2}{f g:F2}{a b c:ME}(o:OpU K r f)(o':OpU K r' g)(h:tM K (mCh f g a b c) G H Q):Co r r' (tM K a) (tM K b) (tM K c) G H Q:=by
 obtain⟨μ,S,Y,u,S',hr,er,e,k⟩:=h;obtain⟨x,S1,e1,e⟩:=ba e;obtain⟨y,S2,e2,e⟩:=ba e;obtain⟨z,S3,e3,e⟩:=ba e;refine 9#3;refine⟨Y0,S1,Y,y,S2,hr1,er.mono k1 p1,e2,λY5 vy H2 p2 k2 hr2 ry=>?_⟩;refine o Y5 S2 H2 x y vx vy z S3 _ hr2 (RU.mono k2 p2 x vx rx) ry e3 λY' vz H3 p3 k3 hr3 rz=>?_
 split at e
 .refine⟨true,jF rz,?_⟩
  rw[if_pos rfl];obtain⟨w,S4,e4,e⟩:=ba e;refine⟨Y',S3,Y,w,S4,hr3,er.mono ((k1.trans k2).trans k3) ((p1.trans p2).trans p3),e4,λZ3 vw H4 p4 k4 hr4 rw'=>?_⟩;exact o' Z3 S4 H4 y w vy vw u S' Q hr4 (RU.mono (k3.trans k4) (p3.trans p4) y vy ry) rw' e (k.mono (((p1.trans p2).trans p3).trans p4) (((k1.trans k2).trans k3).trans k4))
 .cases e
  refine⟨false,jF rz,?_⟩;rw[if_neg bM];exact k Y' _ H3 ((p1.trans p2).trans p3) ((k1.trans k2).trans k3) hr3 jG
 .cases e
def gO:Nat->List U->Sto->Res U:=λn xs S=>match xs with
 | [.ref m]=>match S[n]?,S[m]? with
   |some (.lst us),some (.lst ws)=>if us.length+ws.length<=big then some (.non,S.set n (.lst (us++ws))) else none
   |_,_=>none
 |_=>none
theorem E9:MtU K CV gO:=by
 intro μ S H n p us vs u S' Q hr hp rs e a;unfold gO at e
 split at e
 .rename_i m
  split at e
  .rename_i xs ws q q2
   split at e
   .rename_i hc
    cases e;obtain⟨v,r,rfl,rx,rn⟩:=rs.inv;rw[rn.nil_inv];obtain⟨b,rfl,hb⟩:=fF rx;obtain⟨ys,e0,r0⟩:=hr.cell n _ p q hp;obtain⟨zs,e1,r1⟩:=hr.cell m _ b q2 hb;refine⟨p,b,ys,zs,rfl,rfl,e0,e1,?_,yI a hr q hp (r0.append r1) su⟩;have:=r0.len;have:=r1.len;unfold big at hc;rw[sizeLine_eq];omega
   .cases e
  .cases e
 .cases e
end
def ql(ns:List Int):List Int:=ns.mergeSort λi j=>decide (i<=j)
def uF:U->Option Int
 |.int i=>some i
 |_=>none
def BZ(n:Nat):Prop:=n<64
instance(n:Nat):Decidable (BZ n):=cp _
def lr:_L.Key×U->Option Int
 |(.inl i,_)=>some i
 |_=>none
def tw(S:Sto)(x:U):Option (List Int):=match ft S x with
 |some kvs=>dS lr kvs
 |none=>(eC S x).bind λxs=>dS uF xs
def dy:MF:=λus S=>match us with
 |[x]=>(tw S x).bind λns=>if BZ ns.length then some (.ref S.length,S++[.lst ((ql ns).map U.int)]) else none
 |_=>none
theorem kg(ns:List Int):(ql ns).Perm ns:=List.mergeSort_perm _ _
theorem vn(ns:List Int):(ql ns).Pairwise (· <= ·):=by
 have h:=List.pairwise_mergeSort (le:=λ(i j:Int)=>decide (i<=j)) (λa b c h1 h2=>by simp at *;omega) (λa b=>by simp;omega) ns;exact h.imp λh=>by simpa using h
theorem sY:∀{as bs:List Int},as.Perm bs->as.Pairwise (· <= ·)->bs.Pairwise (· <= ·)->as=bs
 |[],bs,p,_,_=>by rw[List.nil_perm.mp p]
 |a::as,[],p,_,_=>by cases List.perm_nil.mp p
 | a::as,b::bs,p,h1,h2=>by
   rw[List.pairwise_cons]at h1 h2;have e:a=b:=by
    have m1:a∈b::bs:=p.subset 0#8;have m2:b∈a::as:=p.symm.subset 0#8;rcases a9.mp m1 with e|m1
    .exact e
    .rcases a9.mp m2 with e|m2
     .exact e.symm
     .have:=h1.1 b m2;have:=h2.1 a m1;omega
   subst e;rw[sY (List.perm_cons _ |>.mp p) h1.2 h2.2]
variable{ns:List Int}
theorem qS{ms:List Int}(p:ms.Perm ns)(h:ms.Pairwise (· <= ·)):ms=ql ns:=sY (p.trans (kg ns).symm) h (vn ns)
theorem Dk{H:Hp}{μ:List Addr}:∀{us:List U}{vs:List V}{ns:List Int},RUs H μ us vs->dS uF us=some ns->vs=ns.map V.int
 |[],vs,ns,r,e=>by cases e;rw[r.nil_inv];rfl
 | u::us,vs,ns,r,e=>by
   obtain⟨v,r',rfl,a,b⟩:=r.inv;unfold dS at e;cases u with
   | int x=>
     simp only[uF,ah]at e;cases q:dS uF us with
     |none=>rw[q]at e;cases e
     | some cs=>
       rw[q]at e;cases e;rw[dI a,Dk b q];rfl
   |_=>cases e
theorem intsAre_of:∀{ns:List Int}{us:List Value},cM 8#6 us->IntsAre us ns
 |[],us,r=>by cases r;exact .nil
 | n::ns,us,r=>by
   cases r with
   | cons a b=>
     obtain⟨t,rfl⟩:=a;exact .cons n t (intsAre_of b)
theorem se:∀{ns:List Int}{us:List Value},IntsAre us ns->cM 8#6 us
 |_,_,.nil=>.nil
 |_,_,.cons n t r=>.cons ⟨t,rfl⟩ (se r)
theorem kE:∀{ns:List Int}{us:List Value},IntsAre us ns->us.length=ns.length
 |_,_,.nil=>rfl
 |_,_,.cons n t r=>by simp[kE r]
variable{E:Value->Shared->Prop}{w:World}{prog:Program}{items:Array Value}
theorem Bk {Q:List Value->Shared->Prop} (it:Addr)  (hT:T="list"\/T="tuple")
  (ho:s.heap.get? it=some o) (hc:o.cls=.type T) (hd:o.data=.seq items n) (hsz:items.size<=sizeLine)
  (hQ:∀h',26#0->s.heap.objs.size<=h'.objs.size->Q items.toList { s with heap:=h' }):
  aV 4#1 A (collect (.ref it)) Q E s:=by
 unfold collect;refine av (Jt (fQ sW ?_));rw[eG sX _];show aV _ A.in1 (newList [] >>= fun l=>again (.builtin "list.__iadd__" ⟨[l,.ref it],[]⟩)) _ _ s;refine av 32#8;rw[eG ig _];have hS:(s.heap.push { cls := .type "list",data := .seq ([]:List Value).toArray }).get? s.heap.objs.size=some { cls := .type "list",data := .seq #[] 0 }:=aL _ rfl;have hS₂:=jY (eE (· ++ items)) hS rfl
 refine cj (wpAny_extend_seq (hsz:=hsz) (A:=A) (R:=fun r s'=>r = .ok (.ret 10#4)/\s'={ s with heap:=(s.heap.push { cls := .type "list",data := .seq ([]:List Value).toArray }).update s.heap.objs.size (eE (· ++ items)) })
  (s:={ s with heap:=s.heap.push { cls := .type "list",data := .seq ([]:List Value).toArray } }) _ it _ 0 hT hS (aw _ ho) hc hd ⟨rfl,rfl⟩) (fun fin s' h => ?_) (fun e s' h=>absurd h.1 (by simp))
 have fin':aV 4#1 A (match bx s.heap.objs.size with
   | bx a=>do
     match (<- load a).data with
      |JA xs _=>pure xs.toList
      |_=>unsupported "internal:collect"
   | _=>unsupported "internal:collect") Q E { s with heap:=(s.heap.push { cls := .type "list",data := .seq ([]:List Value).toArray }).update s.heap.objs.size (eE (· ++ items)) }:=by
  show aV _ A (load s.heap.objs.size >>= _) _ _ _;refine av (Jo hS₂ (aG ?_));show Q ((#[]:Array Value)++items).toList _;rw[show((#[]:Array Value)++items).toList=items.toList by simp];exact hQ _ (λb o' hb=>(d8 _ _ (cN (aK hb))).trans (aw _ hb)) (by rw[Heap.size_update,size_push'];exact dc _)
 cases fin with
 | done f=>
   obtain⟨e,rfl⟩:=h;cases e;exact fin'
 |again c'=>exact⟨h.1,iL h.2 λr s'' hr=>by obtain⟨rfl,rfl⟩:=hr;exact fin'⟩
variable{Q:Value->Shared->Prop}
theorem vg {l:Addr}{vs:List Value} (hT:T="list"\/T="tuple")
  (ho:s.heap.get? l=some o) (hc:o.cls=.type T) (hd:o.data=.seq vs.toArray n) (hI:IntsAre vs ns) (h64:vs.length<64)
  (h: ∀(out:Array Value) (ns':List Int) (a:Addr) (e:Nat) (h':Heap),IntsAre out.toList ns'->ns'.Perm ns->ns'.Pairwise (· <= ·)->s.heap.objs.size<=a->26#0 ->
   h'.get? a=some (seqObj "list" out e)->Q (.ref a) { s with heap:=h' }) :
  aV 4#1 A (call (.builtin "sorted") [.ref l]) Q E s:=by
 refine Bf kind_sorted plain_sorted entry_sorted (args_sorted1 _) ?_;unfold Builtin.«sorted»;refine av (m:=checkCount "sorted" 1 1 _) (aG ?_);refine av (Bk l hT ho hc hd (by rw[aH,sizeLine_eq];omega) λh1 hk hle=>?_);refine av (wpAny_newList ?_);have hoL:(h1.push (seqObj "list" vs.toArray 0)).get? h1.objs.size=some (seqObj "list" vs.toArray 0):=aL _ rfl;show aV _ _ _ _ _ { s with heap:=h1.push (seqObj "list" vs.toArray 0) };refine av (f9 (lz slot_list_sort ⟨_,hoL,rfl⟩ entry_list_sort (list_sort_tree hoL hI h64 λout ns' a1 a2 a3=>⟨_,rfl,?_⟩) (args_list_sort _)));obtain⟨e,he⟩:=sortedHeap_at (out:=out) hoL
 exact aG ⟨_,rfl,h out ns' _ e _ a1 a2 a3 hle (λb o' hb=>by
  have hb1:=hk b o' hb;have hlt:=aK hb1;rw[sortedHeap_old (aW hlt) (by rw[size_push'];exact eg hlt),Heap.get?_push_ne _ _ _ (aW hlt)]
  exact hb1) he⟩
variable{vs:List (Key×Value)}{d:Addr}
theorem yy{Q:List Value->Shared->Prop}{ep:Nat}(hh:A.handled=none)(hS:(d==sysModules)=false)(hm:s.heap.DictAt (eB prog w) d vs ep)(hn:vs.length<=sizeLine)
  (hQ:∀s' acc,(∀b o,s.heap.get? b=some o->s'.heap.get? b=some o)->s'.gens=s.gens->s'.drawn=s.drawn->s'.os=s.os->ItemsOf (λi v=>∃k x,vs[i]?=some (k,x)/\(eB prog w).is k v=true) acc vs.length->s.heap.objs.size<=s'.heap.objs.size->Q acc.toList s'):aV 4#1 A (collect (.ref d)) Q E s:=by
 have hdl:d<s.heap.objs.size:=hm.lt_size
 let lo:Obj:={ cls := .type "list",data := .seq ([]:List Value).toArray }
 let io:Obj:={ cls := .type "dict_keyiterator",data := .fields #[.ref d,.int 0 0,.int vs.length 0,.int ep 0] }
 have hm1:(s.heap.push lo).DictAt (eB prog w) d vs ep:=hm.push lo;have hT1:Shared.TypeIs { s with heap:=s.heap.push lo } (.ref d) "dict":=hm1.dictOf.typeIs;unfold collect;refine av (Jt (fQ sW ?_));rw[eG sX _];show aV _ A.in1 (newList [] >>= fun l=>again (.builtin "list.__iadd__" ⟨[l,.ref d],[]⟩)) _ _ s;refine av 32#8;rw[eG ig _];show aV _ A.in1 (ua 10#4 (.ref d) 10#4) _ _ _;unfold ua;refine av (km hT1 ?_);have hne:wH 10#4 (.ref d)=false:=by simp[wH];exact cN hdl
 rw[if_neg (by rw[hne];decide)];refine av (wpAny_pyIter_dict hS hm1 ?_);refine av (f9 ?_);unfold Builtin.List.listLengthHint;have hT2:Shared.TypeIs { s with heap:=(s.heap.push lo).push io } (.ref d) "dict":=(hm1.push io).dictOf.typeIs;refine av (wpAny_specialOf hT2 PySem.F.slot_dict_len.lookup ?_);generalize hid:("dict.__len__":String)=id0
 wp_delta
 rw [show splitId id0=some ("dict","__len__") from by subst hid;decide +kernel];subst hid;refine av (wpAny_isInstance (b:=true) hT2 (by rw[isSubtype_type];kernel_rfl) ?_);simp only[ko,gq,if_false];rw[if_pos 1#0];refine av (km hT2 (aG ?_));rw[if_pos 1#0];refine av (wpAny_rule (av ?_));have hne2:s.heap.objs.size≠(s.heap.push lo).objs.size:=by rw[bR];exact aW (bB _)
 have hL1:((s.heap.push lo).push io).get? s.heap.objs.size=some lo:=aw _ (aL _ rfl);show aV _ A.in1 (updateSeq s.heap.objs.size (·.push .none) >>= λ_=>updateSeq s.heap.objs.size (·.pop)) _ _ _;refine av (wpAny_updateSeq hL1 rfl ?_);have hL2:=jY (eE (·.push jV)) hL1 rfl;refine wpAny_updateSeq hL2 rfl ?_;have hL3:=jY (eE (·.pop)) hL2 rfl;have oth:∀b o,b≠s.heap.objs.size->((s.heap.push lo).push io).get? b=some o->((((s.heap.push lo).push io).update s.heap.objs.size (eE (·.push jV))).update s.heap.objs.size (eE (·.pop))).get? b=some o:=
  λb o hb e=>(d8 _ _ (dZ hb)).trans ((d8 _ _ (dZ hb)).trans e)
 have hI:(s.heap.push lo).objs.size=s.heap.objs.size+1:=bR ..;have hdI:d≠(s.heap.push lo).objs.size:=by rw[hI];exact aW (eg hdl)
 have W:=(Walks.dictKeys (prog:=prog) (w:=w) (A:=A.in1) (knd:=eB prog w) hh (s.heap.push lo).objs.size d hdI vs ep).toS;have hSf:s.heap.objs.size ∉ [(s.heap.push lo).objs.size,d]:=by
  rw[hI];intro z;rcases a9.mp z with z|z
  .omega
  .rw[bW]at z;exact absurd z (cN hdl)
 have it0:((s.heap.push lo).push io).IsKeyIter (s.heap.push lo).objs.size d 0 vs.length ep:=⟨io,aL _ rfl,rfl,rfl⟩;refine aG ⟨plainId_quiet F.plain_extend_loop _,codeAny_extend_loopS W hn s.heap.objs.size hSf _ vs.length 0 _ _ _ rfl (dC _) ?_ hL3 (ItemsOf.nil _) λs' acc' c' hmv hS' hacc=>?_⟩
 .exact⟨it0.at λo e=>oth _ o (dZ hne2) e,(hm1.push io).at' λo e=>oth _ o (aW hdl) e⟩
 .show aV _ A (load s.heap.objs.size >>= _) _ _ s'
  refine av (Jo hS' (aG (hQ s' acc' (λb o e=>?_) hmv.gens hmv.drawn hmv.os hacc (aT (aK hS')))));have hb:b<s.heap.objs.size:=aK e;refine hmv.heap b o ?_ (oth b o (aW hb) (aw _ (aw _ e)));rw[hI];intro z;rcases a9.mp z with z |z
  .exact absurd z (aW hb)
  .rw[bW]at z;exact absurd z (aW (eg hb))
theorem xN:∀{l:List Value}{ns:List Int},l.length=ns.length->(∀(j:Nat) (v:Value),l[j]?=some v->∃i t,ns[j]?=some i/\v=.int i t)->IntsAre l ns
 |[],[],_,_=>.nil
 |[],_::_,h,_=>by simp at h
 |_::_,[],h,_=>by simp at h
 | v::l,n::ns,h,k=>by
   obtain⟨i,t,e,rfl⟩:=k 0 v rfl;simp at e;subst e;exact .cons n t (xN 14#2 λj w hj=>by simpa using k (j+1) w (by simpa using hj))
theorem zM(hh:A.handled=none)(hS:(d==sysModules)=false)(hm:s.heap.DictOf (eB prog w) d vs)(hk:vs.map 2#2=ns.map eQ)(h64:ns.length<64)
  (h: ∀(out:Array Value) (ns':List Int) (a:Addr) (e:Nat) (h':Heap) (tk:Nat),IntsAre out.toList ns'->ns'.Perm ns->ns'.Pairwise (· <= ·)->s.heap.objs.size<=a->26#0 ->
   h'.get? a=some (seqObj "list" out e)->Q (.ref a) { s with heap:=h',toks:=tk }) :
  aV 4#1 A (call (.builtin "sorted") [.ref d]) Q E s:=by
 obtain⟨ep,hm⟩:=hm.dictAt;have hlen:vs.length=ns.length:=by have:=congrArg zx hk;simpa using this
 refine Bf kind_sorted plain_sorted entry_sorted (args_sorted1 _) ?_;unfold Builtin.«sorted»;refine av (m:=checkCount "sorted" 1 1 _) (aG (av (yy hh hS hm (by rw [hlen,sizeLine_eq];omega) fun s1 acc hk1 hg hdr hos hacc hle=>?_)));have hI:IntsAre acc.toList ns:=xN (by rw[<-hlen,<-hacc.1];simp) λj v hj=>by
  obtain⟨k,x,e,ik⟩:=hacc.2 j v (by simpa using hj);have e2:(vs.map 2#2)[j]?=some k:=by rw[bj,e];rfl
  rw[hk,bj]at e2;cases q:ns[j]? with
  |none=>rw[q]at e2;cases e2
  | some i=>
    rw[q]at e2;have e3:eQ i=k:=b9 e2;subst e3;rcases eO (show vI (eQ i) v=true from ik) with⟨i',t,e4,e5⟩|⟨y,t,e4,_⟩
    .cases e4;exact⟨_,t,rfl,e5⟩
    .cases e4
 have hal:acc.toList.length<64:=by rw[kE hI];exact h64
 refine av (wpAny_newList ?_);have hoL:(s1.heap.push (seqObj "list" acc 0)).get? s1.heap.objs.size=some (seqObj "list" acc.toList.toArray 0):=aL _ rfl;show aV _ _ _ _ _ { s1 with heap:=s1.heap.push (seqObj "list" acc 0) };refine av (f9 (lz slot_list_sort ⟨_,hoL,rfl⟩ entry_list_sort (list_sort_tree hoL hI hal λout ns' a1 a2 a3=>⟨_,rfl,?_⟩) (args_list_sort _)));obtain⟨e,he⟩:=sortedHeap_at (out:=out) hoL
 have hq:=h out ns' _ e _ s1.toks a1 a2 a3 hle (λb o' hb=>by
  have hb1:=hk1 b o' hb;have hlt:=aK hb1;rw[sortedHeap_old (aW hlt) (by rw[size_push'];exact eg hlt),Heap.get?_push_ne _ _ _ (aW hlt)]
  exact hb1) he
 rw[<-hg,<-hdr,<-hos]at hq;exact aG ⟨_,rfl,hq⟩
section
variable {X:Cx}
def Da(K:ao):List V->Hp->VK->Prop:=λxs H Q=>∃(p:Addr) (ns:List Int),xs=[.ref p]/\((SqL K H p 8#6\/SqT K H p 8#6) \/ ∃kvs,H p=some 8#3/\kvs.map 2#2=ns.map eQ)/\ns.length<64 /\ ∀l,H l=none->Q (.ref l) (upd H l (.lst ((ql ns).map V.int)))
theorem K6{kvs:List (Key×V)}(h:KV kvs vs):vs.map 2#2=kvs.map 2#2:=by
 induction h with
 |nil=>rfl
 |cons a _ ih=>rw[bp,bp,ih,a.1]
theorem z3 (hc:X.calm=true):iy X (.builtin "sorted") (Da X.K):=by
 intro pins s G H xs us Q I rs h;obtain⟨p,ns,rfl,hS,h64,q⟩:=h;cases rs with
 | cons r1 rr=>
   cases rr;cases (show _=bx p from r1);have fin:∀(out:Array Value) (ns':List Int) (a:Addr) (e:Nat) (h':Heap) (tk:Nat),IntsAre out.toList ns'->ns'.Perm ns->ns'.Pairwise (· <= ·)->s.heap.objs.size<=a->26#0 ->
    h'.get? a=some (seqObj "list" out e)->EP X pins G Q (.ref a) { s with heap:=h',toks:=tk }:=by
    intro out ns' a e h' tk a1 a2 a3 hle hk he;have e':=qS a2 a3;subst e';refine⟨.ref a,_,I.laid (t':=tk) (o:= .lst ((ql ns).map V.int)) hk hle ?_,rfl,q _ (I.hok.fresh hle)⟩;refine⟨by rw[ax,(kg ns).length_eq,sizeLine_eq];omega,out.toList,e,se a1,?_⟩;rw[he]
   rcases hS with (hS|hS)|⟨kvs,hp,hks⟩
   .obtain⟨its,rv,pl,_⟩:=I.list hS
    have hl:=pl.isList;obtain⟨o,ho,hc,n,hd⟩:=hl;have hI:=intsAre_of rv;exact vg 5#5 ho hc hd hI (by rw[kE hI];exact h64) λout ns' a e h'=>fin out ns' a e h' s.toks
   .obtain⟨its,rv,pl,_⟩:=I.tuple hS
    obtain⟨o,ho,hc,n,hd⟩:=pl;have hI:=intsAre_of rv;exact vg (.inr rfl) ho hc hd hI (by rw[kE hI];exact h64) λout ns' a e h'=>fin out ns' a e h' s.toks
   .obtain⟨_,hsm,vs,rel,dd⟩:=(show eI X.prog X.w H s.heap p 8#3 from I.hok p _ hp)
    exact zM 10#0 hsm dd (by rw[K6 rel];exact hks) h64 fin
end
section
variable {K:KX}
theorem vR{H:Hp}{μ:List Addr}:∀ns:List Int,RUs H μ 14#6 8#6
 |[]=>.nil
 |n::ns=>.cons fj (vR ns)
theorem DD:∀{kvs:List (Key×U)}{vs:List V},kvs.length=vs.length->(dV kvs vs).map 2#2=kvs.map 2#2
 |[],_,_=>rfl
 |_::_,[],h=>by simp at h
 | kv::kvs,v::vs,h=>by
   show kv.1::(dV kvs vs).map 2#2=kv.1::kvs.map 2#2;rw[DD 14#2]
theorem yl:∀{kvs:List (Key×U)}{ns:List Int},dS lr kvs=some ns->kvs.map 2#2=ns.map eQ
 |[],ns,h=>by cases h;rfl
 | (k,u)::kvs,ns,h=>by
   unfold dS at h;cases k with
   |inr x=>cases h
   | inl i=>
     simp only[lr,ah]at h;cases q:dS lr kvs with
     |none=>rw[q]at h;cases h
     | some ms=>
       rw[q]at h;cases h;rw[bp,yl q];rfl
theorem Fi:qW K (Da K) dy:=by
 intro μ S H us vs u S' Q hr rs e a;unfold dy at e
 split at e
 .rename_i x
  obtain⟨v,r,rfl,rx,rn⟩:=rs.inv;rw[rn.nil_inv];cases q:tw S x with
  |none=>rw[q]at e;cases e
  | some ns=>
    rw[q]at e;simp only[ah]at e
    split at e
    rotate_left
    .cases e
    rename_i hc
    cases e;unfold tw at q
    split at q
    .rename_i kvs qd
     obtain⟨p,ws,rfl,hp,r'⟩:=hr.dic rx qd;have hl:kvs.length=ws.length:=by have:=r'.len;rwa[ax]at this
     exact⟨p,ns,rfl,.inr ⟨_,hp,by rw[DD hl];exact yl q⟩,hc,λl hl=>i9 a hr (vR _) hl⟩
    .cases q1:eC S x with
     |none=>rw[q1]at q;cases q
     | some ws=>
       rw[q1]at q;obtain⟨p,ys,rfl,hs,r'⟩:=hr.seq rx q1;rw[Dk r' q]at hs;exact⟨p,ns,rfl,.inl hs,hc,λl hl=>i9 a hr (vR _) hl⟩
 .cases e
end
section
variable {X:Cx}
def Mt(K:ao):List V->Hp->VK->Prop:=λxs H Q=>∃v d,xs=[v]/\tu K H v d/\pV d/\Q (.str d.shown) H
theorem Fj (hg:X.A.guards=some []) (hu:X.A.units+64<cLine):iy X (.builtin "repr") (Mt X.K):=by
 intro pins s G H xs us Q I rs h;obtain⟨v,d,rfl,⟨hd,hl,hdp⟩,⟨hs,hz⟩,q⟩:=h;cases rs with
 | cons r1 rr=>
   cases rr;have hq:=hd;cases hd with
   |non=>cases (show _=jV from r1);exact P.repr_of_none 26#6
   | bl b=>
     cases (show _=t6 b from r1);exact P.repr_of_bool 26#6
   | int i=>
     obtain⟨t,e⟩:=(show ∃t,_=rH i t from r1);subst e;exact P.repr_of_int (by simpa [iI]using hs) 26#6
   | str x=>
     obtain⟨t,e⟩:=(show ∃t,_=rJ x t from r1);subst e;exact P.repr_of_str 26#6 hz
   | tup h1 h2=>
     cases (show _=bx _ from r1);obtain⟨as,rd⟩:=pK.reads I hq r1;exact repr_of_reads' rd hs (PyData.noDict_hsm (Bg _ hl)) hg 0#2 (λ_ _ e=>e) (λh' u tk hk=>⟨.str _,_,I.kept hk,⟨_,rfl⟩,q⟩) hz
   | lst h1 h2=>
     cases (show _=bx _ from r1);obtain⟨as,rd⟩:=pK.reads I hq r1;exact repr_of_reads' rd hs (PyData.noDict_hsm (Bg _ hl)) hg 0#2 (λ_ _ e=>e) (λh' u tk hk=>⟨.str _,_,I.kept hk,⟨_,rfl⟩,q⟩) hz
end
section
variable {K:KX}
theorem KM:qW K (Mt K) oR:=by
 intro μ S H us vs u S' Q hr rs e a;unfold oR at e
 split at e
 .rename_i x
  obtain⟨v,r,rfl,rx,rn⟩:=rs.inv;rw[rn.nil_inv];cases q:toD S 40 x with
  |none=>rw[q]at e;cases e
  | some d=>
    rw[q]at e;simp only[ah]at e
    split at e
    .rename_i hc
     cases e;exact⟨v,d,rfl,ye hr rx q,hc,a.now hr (by simp only[RU])⟩
    .cases e
 .cases e
end
section
variable {prog:Program}{w:World}{A:Around}{E:Value->Shared->Prop}{s:Shared}
theorem Hf(xs:Array Value)(n:Nat)(hn:xs.size=n):((ay n).filterMap λ(k:Nat)=>xs[(((n:Int)-1)+(k:Int)*(-1)).toNat]?).toArray=xs.toList.reverse.toArray:=by
 subst hn;have e:(λ(k:Nat)=>xs[(((xs.size:Int)-1)+(k:Int)*(-1)).toNat]?)=(λi=>xs[i]?)∘λk=>xs.size-1-k:=by
  funext k
  have e1:(((xs.size:Int)-1)+(k:Int)*(-1)).toNat=xs.size-1-k:=by omega
  rw[e1];rfl
 rw[e,<-List.filterMap_map,PySem.W.krv_range,List.filterMap_reverse,PySem.W.krv_all]
theorem rO{sl:Addr}{t:Tok}{Q:Int×Int×Nat->Shared->Prop}(hs:s.heap.IsSliceOf sl .none .none (.int (-1) t))
  (h:Q ((n:Int)-1,-1,n) s):aV 4#1 A (gm (.ref sl) (pure (n:Int))) Q E s:=by
 obtain⟨os,hos,hcs,hds⟩:=id hs;unfold gm uB;refine av (av (o7 hos hds (x:= .none) rfl (av (o7 hos hds (x:= .none) rfl (av (o7 hos hds (x:= .int (-1) t) rfl (aG ?_)))))));refine av (HT.slicePart_ (.int (-1) t) ?_);show aV _ _ (if ((-1:Int)==0)=true then _ else _) _ _ s;rw[if_neg 0#1];refine av (HT.slicePart_ .none (av (HT.slicePart_ .none (av (aG ?_)))));show aV _ _ (match eY none none (-1) (n:Int) with | (lo,hi)=>pure (lo,(-1:Int),cZ lo hi (-1))) _ _ s;have e1:eY none none (-1) (n:Int)=((n:Int)-1,-1):=rfl;have e2:cZ ((n:Int)-1) (-1) (-1)=n:=by
  unfold cZ;rw[if_neg 0#1]
  split
  .rw[show(-(-1):Int)=1 by decide,Int.ediv_one];omega
  .omega
 rw[e1];show aV _ _ (pure ((n:Int)-1,(-1:Int),cZ ((n:Int)-1) (-1) (-1))) _ _ s;rw[e2];exact aG h
theorem qC{t sl:Addr}{tk:Tok}(ht:IsTup s.heap t items)(hs:s.heap.IsSliceOf sl .none .none (.int (-1) tk))
  (h:Q 10#4 { s with heap:=s.heap.push { cls := .type "tuple",data := .seq items.toList.reverse.toArray } })
  (hsz:items.size<=sizeLine):aV 4#1 A (getItem (.ref t) (.ref sl)) Q E s:=by
 have htake:sizeOk (.seq items.toList.reverse.toArray):=by
  show items.toList.reverse.toArray.size<=sizeLine;rw[aH,fU,fP];exact hsz
 obtain⟨os,hos,hcs,hds⟩:=id hs;have hTs:s.TypeIs (.ref sl) "slice":=⟨os,hos,hcs⟩;unfold getItem
 try with_reducible refine f9 ?_
 first |refine av (aG ?_) |skip
 refine av (A5 ht.typeIs 0#1 ?_)
 refine av (rF (name:=qb "__getitem__") ht.typeIs dw
  (lz dw ht.typeIs entry_tuple_getitem ?_ (args_tuple_getitem _ _)))
 show aV _ _ (jX (.ref t) >>= _) _ _ s;refine av (tupleItemsOf_ ht ?_);refine av (km hTs ?_);rw[if_pos 0#1];refine av (rO hs ?_);show aV _ _ (if ((((items.size:Int)-1)==0&&(-1:Int)==1&&items.size==items.size))=true then _ else _) _ _ s;rw[if_neg 0#8,Hf items _ rfl]
 first
  |exact av (m:=bX _) (cU (aG ⟨_,rfl,aG h⟩) htake)
  |exact av (m:=bX _) (cU (av (aG (aG ⟨_,rfl,aG h⟩))) htake)
  |exact av (av (m:=bX _) (cU (aG (aG ⟨_,rfl,aG h⟩)) htake))
  |exact av (av (m:=bX _) (cU (aG ⟨_,rfl,aG h⟩) htake))
end
theorem cM.rev:∀{xs:List V}{us:List Value},cM xs us->cM xs.reverse us.reverse
 |_,_,.nil=>.nil
 | x::xs,u::us,.cons a b=>by
   rw[jt,jt];exact(cM.rev b).append (.cons a .nil)
def Uw(K:ao):V->Hp->VK->Prop:=λx H Q=>∃a xs,x=.ref a/\((SqT K H a xs /\ ∀p,H p=none->Q (.ref p) (upd H p (.tup xs.reverse)))\/(SqL K H a xs /\ ∀p,H p=none->Q (.ref p) (upd H p (.lst xs.reverse))))
def O9(K:ao)(te:TE):TE:=λG H Q=>te G H λx H1=>Uw K x H1 Q
section
variable {X:Cx}{e:Expr}{te:TE}{pos p2 p3 p4:Pos}{j:Nat}
theorem OG(he:PE X e te):PE X (.Subscript e 28#9 pos) (O9 X.K te):=by
 intro pins s G H Q I h;refine Subscript_ 29#6;refine wpAny_Slice ?_;rw[evalPart_none,evalPart_some];refine aG (aG ?_);refine thn (MM Gr GP pins s1 G H1 (λy H2=>y=.int (-1)/\H2=H1) I1 ⟨1,rfl,rfl,rfl⟩) λu s3 ⟨y,H3,I3,ry,hy,hH⟩=>?_;subst hy hH;obtain⟨t,rfl⟩:=ry;have I4:Inv X pins G H3 { s3 with heap:=s3.heap.push { cls := .type "slice",data := .fields #[.none,.none,.int (-1) t] } }:=I3.kept (t':=s3.toks) fun b ob q=>aw _ q;show aV 1#2 X.A (subscriptTail e 28#9 v (.ref s3.heap.objs.size)) 6#8 X.xe { s3 with heap:=s3.heap.push { cls := .type "slice",data := .fields #[.none,.none,.int (-1) t] } };obtain⟨a,xs,rfl,q1⟩:=q1;cases r1;rcases q1 with⟨hx,q⟩|⟨hx,q⟩
 .obtain⟨its,r,ht,hz⟩:=I4.tuple hx
  have hlen:its.toArray.size=xs.length:=by rw[aH];exact r.length.symm
  refine tail_any (ops:= [.ref a,.ref s3.heap.objs.size]) ht.typeIs PyProof.Rows.slot_tuple_getitem.lookup ?_ (by with_unfolding_all rfl);refine qC ht (oA ..) ?_ (by rw[hlen];exact hz);refine⟨.ref _,_,I4.laid (t':=s3.toks) (o:= .tup xs.reverse) 15#7 0#9 ?_,rfl,q _ (I4.hok.fresh 0#9)⟩;exact⟨by rw[fU];exact hz,_,cM.rev r,n9 _ _,_,aL _ rfl,rfl⟩
 .obtain⟨its,r,ht,hz⟩:=I4.list hx
  refine tail_any (ops:= [.ref a,.ref s3.heap.objs.size]) ht.isList.typeIs slot_list_getitem.lookup ?_ (by with_unfolding_all rfl);refine wpAny_getItem_list_slice ht.isList (oA ..) .none .none (.int (-1) t) 0#1 ?_ (by rw[aH,<-r.length];exact hz);rw[PySem.W.krv_pick];refine⟨.ref _,_,I4.laid (t':=s3.toks) (o:= .lst xs.reverse) 15#7 0#9 ?_,rfl,q _ (I4.hok.fresh 0#9)⟩;exact⟨by rw[fU];exact hz,_,0,cM.rev r,aL _ rfl⟩
end
def sH:U->Sto->Res U:=λx S=>match x with
 |.tup us=>some (.tup us.reverse,S)
 |.ref n=>(getL S n).map λus=>(.ref S.length,S++[.lst us.reverse])
 |_=>none
theorem RUs.rev{H:Hp}{μ:List Addr}:∀{us:List U}{vs:List V},RUs H μ us vs->RUs H μ us.reverse vs.reverse
 |[],vs,r=>by rw[r.nil_inv];exact .nil
 | u::us,vs,r=>by
   obtain⟨v,r',rfl,a,b⟩:=r.inv;rw[jt,jt];exact(RUs.rev b).append (.cons a .nil)
section
variable {K:KX}{G:St}{H:Hp}{Q:VK}
theorem Q6{a:ME}(h:tM K (m1 sH a) G H Q):O9 K (tM K a) G H Q:=by
 obtain⟨μ,S,Y,u,S',hr,er,e,k⟩:=h;obtain⟨x,S1,e1,e⟩:=ba e;refine 9#3;have k':=k.mono p1 k1;unfold sH at e
 split at e
 .cases e
  obtain⟨p,vs,rfl,hp,rs⟩:=iG rx;refine⟨p,vs,rfl,.inl ⟨.inl (.inl hp),λl hl=>?_⟩⟩;exact k' Y0 _ _ 1#6 (bq.new hl) (hr1.tup hl) (iV cz (RUs.mono (bq.new hl) 1#6 _ _ (RUs.rev rs)))
 .rename_i n
  cases q:getL S1 n with
  |none=>rw[q]at e;cases e
  | some us=>
    rw[q]at e;cases e;obtain⟨p,rfl,hp⟩:=fF rx;obtain⟨p',ys,hp',hs,r'⟩:=hr1.sq q;rw[hp]at hp';cases hp';exact⟨p,ys,rfl,.inr ⟨hs,λl hl=>i9 k' hr1 (RUs.rev r') hl⟩⟩
 .cases e
end
def qZ:ME:=λ_ S=>some (.ref S.length,S++[.dic []])
def nA(k v:ME):ME:=λY S=>bnd (k Y (S++[.dic []])) λx S1=>bnd (v Y S1) λy S2=>(keyOf x).bind λkk=>match S2[S.length]? with
 |some (.dic [])=>some (.ref S.length,S2.set S.length (.dic [(kk,y)]))
 |_=>none
section
variable {K:KX}{G:St}{H:Hp}{Q:VK}
theorem Cu(hr:HR K μ S H)(hp:H p=none):HR K (μ++[p]) (S++[.dic []]) (upd H p (.dK [])):=
 hr.newC hp rfl ⟨[],cz,.nil⟩
theorem Di(hr:HR K μ S H):(μ++[p])[S.length]?=some p:=by
 rw[<-hr.len,aq 0#9];simp
theorem P9(h:tM K qZ G H Q):Iu G H Q:=by
 obtain⟨μ,S,Y,u,S',hr,er,e,k⟩:=h;cases e;intro p hp;exact k (μ++[p]) _ _ ⟨[p],rfl⟩ (bq.new hp) (Cu hr hp) (vv (Di hr))
theorem On{a b:ME}(h:tM K (nA a b) G H Q):MW [(tM K a,tM K b)] G H Q:=by
 obtain⟨μ,S,Y,u,S',hr,er,e,k⟩:=h;intro p hp;obtain⟨x,S1,e1,e⟩:=ba e;obtain⟨y,S2,e2,e⟩:=ba e;have pre:Pre μ (μ++[p]):=⟨[p],rfl⟩;refine⟨μ++[p],S++[.dic []],Y,x,S1,Cu hr hp,er.mono (bq.new hp) pre,e1,λY0 vx H1 p1 k1 hr1 rx=>?_⟩;refine⟨Y0,S1,Y,y,S2,hr1,er.mono ((bq.new hp).trans k1) (pre.trans p1),e2,λY5 vy H2 p2 k2 hr2 ry=>?_⟩;cases qk:keyOf x with
 |none=>rw[qk]at e;cases e
 | some kk=>
   rw[qk]at e;simp only[ah]at e
   split at e
   .rename_i q
    cases e;have hm:=p2.get (p1.get (Di hr (p:=p)));obtain⟨vs,e0,r0⟩:=hr2.cell _ _ p q hm;have hv:vs=[]:=r0.nil_inv;subst hv;have kw:bq H2 (upd H2 p (.dK (sU [] [(kk,vy)]))):=bq.wrG e0 (λ_ z=>by cases z) λ_ _ z=>by cases z
    refine⟨e0,[(kk,vy)],?_,by simp,?_⟩
    .rw[qI (RU.mono k2 p2 _ _ rx) qk];rfl
    .refine k Y5 _ _ (pre.trans 8#1) ((bq.new hp).trans (k1.trans (k2.trans kw))) (hr2.wrC q hm rfl ⟨[vy],by rw[cz];rfl,.cons (RU.mono kw 1#6 _ _ ry) .nil⟩) (vv hm)
   .cases e
def A1:MF:=λus S=>match us with
 |[.int i]=>some (.int i,S)
 |[.bl k]=>some (.int (if k then 1 else 0),S)
 |_=>none
def Sx(i:Int):Prop:=i.natAbs.log2<1920
instance(i:Int):Decidable (Sx i):=cp _
theorem OJ:qW K (λxs H Q=>(∃i,xs=[.int i]/\Q 3#6 H) \/ ∃k,xs=[.bl k]/\Q (.int (if k then 1 else 0)) H) A1:=by
 intro μ S H us vs u S' Q hr rs e a;unfold A1 at e
 split at e
 .cases e
  obtain⟨v,r,rfl,rx,rn⟩:=rs.inv;rw[rn.nil_inv,dI rx];exact .inl ⟨_,rfl,a.now hr fj⟩
 .cases e
  obtain⟨v,r,rfl,rx,rn⟩:=rs.inv;rw[rn.nil_inv,jF rx];exact .inr ⟨_,rfl,a.now hr fj⟩
 .cases e
end
abbrev MG:=U->Rho->Sto->Option (Rho×Sto)
abbrev MGs:=List U->Rho->Sto->Option (Rho×Sto)
def gN(i:Nat):MG:=λu Y S=>some (Y.set i (some u),S)
def m8:MGs:=λus Y S=>match us with
 |[]=>some (Y,S)
 |_=>none
def eD(g:MG)(r:MGs):MGs:=λus Y S=>match us with
 |[]=>none
 |u::us=>(g u Y S).bind λp=>r us p.1 p.2
def gTp(n:Nat)(gs:MGs):MG:=λu Y S=>match u with
 |.tup us=>if us.length=n then gs us Y S else none
 |_=>none
def wM(e:ME)(g:MG):MS:=λY S=>bnd (e Y S) λx S1=>(g x Y S1).map λp=>(.nx,p.1,p.2)
def tG(K:KX)(g:MG):TG:=λv G H Q=>∃μ S Y u r,HR K μ S H/\ER H μ Y G/\RU H μ u v/\g u Y S=some r /\ ∀Y4 Y3 H',Pre μ Y4->bq H H'->HR K Y4 r.2 H'->ER H' Y4 r.1 Y3->Q Y3 H'
def tGs(K:KX)(g:MGs):TGs:=λvs G H Q=>∃μ S Y us r,HR K μ S H/\ER H μ Y G/\RUs H μ us vs/\g us Y S=some r /\ ∀Y4 Y3 H',Pre μ Y4->bq H H'->HR K Y4 r.2 H'->ER H' Y4 r.1 Y3->Q Y3 H'
theorem PG.con{t u:TG}(h:PG X tg t)(k:∀v G H Q,u v G H Q->t v G H Q):PG X tg u:=λpins s G H v w Q I r q=>h pins s G H v w Q I r (k _ _ _ _ q)
theorem PGs.con{tg:List Expr}{t u:TGs}(h:PGs X tg t)(k:∀v G H Q,u v G H Q->t v G H Q):PGs X tg u:=λpins s G H v w Q I r q=>h pins s G H v w Q I r (k _ _ _ _ q)
section
variable {K:KX}{G:St}{H:Hp}{Q:St->Hp->Prop}{v:V}{D:Ends}
theorem Ux{i:Nat}(h:tG K (gN i) v G H Q):kQ i v G H Q:=by
 obtain⟨μ,S,Y,u,r,hr,er,ru,e,k⟩:=h;cases e;exact k μ _ H 1#6 7#8 hr (er.set ru i)
theorem NC{vs:List V}(h:tGs K m8 vs G H Q):RS vs G H Q:=by
 obtain⟨μ,S,Y,us,r,hr,er,rs,e,k⟩:=h;cases us with
 |nil=>cases e;exact⟨rs.nil_inv,k μ _ H 1#6 7#8 hr er⟩
 |cons u us=>cases e
variable{gs:MGs}
theorem K8{g:MG}{vs:List V}(h:tGs K (eD g gs) vs G H Q):MB (tG K g) (tGs K gs) vs G H Q:=by
 obtain⟨μ,S,Y,us,r,hr,er,rs,e,k⟩:=h;cases us with
 |nil=>cases e
 | cons u us=>
   obtain⟨v,vr,rfl,ra,rb⟩:=rs.inv;cases q:g u Y S with
   |none=>rw[show eD g gs (u::us) Y S=(g u Y S).bind λp=>gs us p.1 p.2 from rfl,q]at e;cases e
   | some p=>
     rw[show eD g gs (u::us) Y S=(g u Y S).bind λp=>gs us p.1 p.2 from rfl,q]at e;refine⟨v,vr,rfl,μ,S,Y,u,p,hr,er,ra,q,λY0 Y6 H1 p1 k1 hr1 er1=>?_⟩;exact⟨Y0,p.2,p.1,us,r,hr1,er1,RUs.mono k1 p1 _ _ rb,e,λY5 Y7 H2 p2 k2=>k Y5 Y7 H2 8#1 9#0⟩
theorem R7(h:tG K (gTp n gs) v G H Q):QK K n (tGs K gs) v G H Q:=by
 obtain⟨μ,S,Y,u,r,hr,er,ru,e,k⟩:=h;unfold gTp at e
 split at e
 .rename_i us
  split at e
  .rename_i hl
   obtain⟨a,vs,rfl,ha,rs⟩:=iG ru;exact⟨a,vs,rfl,.inl (.inl ha),by rw[<-rs.len];exact hl,μ,S,Y,us,r,hr,er,rs,e,k⟩
  .cases e
 .cases e
theorem SF{m:ME}{g:MG}(h:tMS K (wM m g) D G H):Fo (tM K m) (tG K g) D G H:=by
 obtain⟨μ,S,Y,r,hr,er,e,k⟩:=h;obtain⟨x,S1,e1,e⟩:=ba e;cases q:g x Y S1 with
 |none=>rw[q]at e;cases e
 | some p=>
   rw[q]at e;cases e;exact⟨μ,S,Y,x,S1,hr,er,e1,λY0 vx H1 p1 k1 hr1 rx=>⟨Y0,S1,Y,x,p,hr1,er.mono k1 p1,rx,q,λY5 Y7 H2 p2 k2 hr2 er2=>k Y5 Y7 H2 8#1 9#0 hr2 er2⟩⟩
end
theorem AU{a b c d:Expr}{p1 p2 p p3:Pos}{k k2:Nat}{vs:List Expr}{env:Env}:swappedStores [.Tuple [.Subscript a b p1,.Subscript c d p2] k p] (.Tuple vs k2 p3) env=pure none:=by
 unfold swappedStores;simp only[List.filterMap_cons_none,List.filterMap_nil]
 split
 .rfl
 .split
  .rfl
  .rfl
def zN(g:MG)(b:MS):List U->MS
 |[],Y,S=>some (.nx,Y,S)
 |x::xs,Y,S=>(g x Y S).bind λp=>aft (b p.1 p.2) (zN g b xs)
def xM(g:MG)(b:MS)(n:Nat):Nat->Nat->MS
 |0,_,_,_=>none
 | f+1,k,Y,S=>(getL S n).bind λus=>match us[k]? with
   |none=>some (.nx,Y,S)
   |some x=>(g x Y S).bind λp=>aft (b p.1 p.2) (xM g b n f (k+1))
def tq(g:MG)(b:MS)(n:Nat):Nat->Nat->MS
 |0,_,_,_=>none
 | f+1,k,Y,S=>(getL S n).bind λus=>match us[k]? with
   |none=>some (.nx,Y,S)
   |some x=>(g (.tup [.int k,x]) Y S).bind λp=>aft (b p.1 p.2) (tq g b n f (k+1))
def Sh(g:MG)(b:MS):Src->MS
 |.imm us=>zN g b us
 |.mut n=>xM g b n fuel 0
 |.enl n=>tq g b n fuel 0
 |_=>λ_ _=>none
def vB(g:MG)(it:MI)(b:MS):MS:=λY S=>bnd (it Y S) λsrc S1=>Sh g b src Y S1
section
variable {K:KX}{G:St}{H:Hp}{Q:VK}{D:Ends}
variable{g:MG}{b:MS}{r:Fl×Rho×Sto}
theorem vG{X6:List Addr}{H0:Hp}{k:MS}{N:St->Hp->Prop}(hr:HR K μ S H)(er:ER H μ Y G)(rx:RU H μ x v)(e:((g x Y S).bind λp=>aft (b p.1 p.2) k)=some r)(p:Pre X6 μ)(kp:bq H0 H)(fl:FlP K X6 H0 D r)
  (hN:∀Y0 Y6 H1 Y1 S1,Pre X6 Y0->bq H0 H1->HR K Y0 S1 H1->ER H1 Y0 Y1 Y6->k Y1 S1=some r->N Y6 H1):tG K g v G H λY7 H2=>tMS K b { D with nx:=N,ct:=N,bk:=D.nx } Y7 H2:=by
 cases q:g x Y S with
 |none=>rw[q]at e;cases e
 | some y=>
   rw[q]at e;exact⟨μ,S,Y,x,y,hr,er,rx,q,λY0 Y6 H1 p1 k1 hr1 er1=>qU hr1 er1 e (p.trans p1) (kp.trans k1) fl hN⟩
theorem LG{vs:List V}(hr:HR K μ S H)(er:ER H μ Y G)(e:zN g b us Y S=some r)(fl:FlP K μ H D r)(ha:H a=some (.tup vs))(ru:RUs H μ us vs):
  ∃W:Nat->Nat->St->Hp->Prop,15#9 /\ ∀k m G H,W k m G H ->
   ((Itt K a).stop k H/\D.nx G H)\/((Itt K a).go k H /\ ∃N:St->Hp->Prop,18#4 /\ ∀x H',(Itt K a).yld k H x H'->tG K g x G H' λY7 H2=>tMS K b { D with nx:=N,ct:=N,bk:=D.nx } Y7 H2):=by
 refine⟨λk m Y6 H1=>m+k=us.length /\ ∃Y0 S1 Y1,Pre μ Y0/\bq H H1/\HR K Y0 S1 H1/\ER H1 Y0 Y1 Y6/\zN g b (us.drop k) Y1 S1=some r,⟨us.length,rfl,μ,S,Y,Pre.refl _,bq.refl _,hr,er,e⟩,?_⟩;rintro k m Y6 H1 ⟨hm,Y0,S1,Y1,p1,k1,hr1,er1,e1⟩;have hq:SqT K H1 a vs:= .inl (.inl (k1 a vs ha));cases m with
 | zero=>
   have hk:k=us.length:=by omega
   subst hk;rw[yo]at e1;cases e1;exact .inl ⟨⟨vs,hq,by rw[ru.len];exact ak _⟩,fl Y0 Y6 H1 p1 k1 hr1 er1⟩
 | succ m=>
   have hk:k<us.length:=by omega
   have hu:us[k]?=some us[k]:=by simp[hk]
   obtain⟨v,hv,rv⟩:=ru.get hu;rw[drop_cons hu]at e1;refine .inr ⟨⟨vs,v,hq,hv⟩,λY7 H2=>∃Y5 S2 Y8,Pre μ Y5/\bq H H2/\HR K Y5 S2 H2/\ER H2 Y5 Y8 Y7/\zN g b (us.drop (k+1)) Y8 S2=some r,λY3 H' w=>⟨m,bB _,by omega,w⟩,λx H' y=>?_⟩;obtain⟨e',y⟩:=y;subst e';have hx:=y vs hq;rw[hv]at hx;cases hx;exact vG hr1 er1 (RU.mono k1 p1 _ _ rv) e1 p1 k1 fl λY5 Y7 H2 Y8 S2 p2 k2 hr2 er2 e2=>⟨Y5,S2,Y8,p2,k2,hr2,er2,e2⟩
theorem Kh{f:Nat}(hr:HR K μ S H)(er:ER H μ Y G)(e:xM g b n f 0 Y S=some r)(fl:FlP K μ H D r)(ha:μ[n]?=some a):
  ∃W:Nat->Nat->St->Hp->Prop,15#9 /\ ∀k m G H,W k m G H ->
   ((Itl K a).stop k H/\D.nx G H)\/((Itl K a).go k H /\ ∃N:St->Hp->Prop,18#4 /\ ∀x H',(Itl K a).yld k H x H'->tG K g x G H' λY7 H2=>tMS K b { D with nx:=N,ct:=N,bk:=D.nx } Y7 H2):=by
 refine⟨λk m Y6 H1=>∃Y0 S1 Y1,Pre μ Y0/\bq H H1/\HR K Y0 S1 H1/\ER H1 Y0 Y1 Y6/\xM g b n m k Y1 S1=some r,32#4,?_⟩;rintro k m Y6 H1 ⟨Y0,S1,Y1,p1,k1,hr1,er1,e1⟩;cases m with
 |zero=>cases e1
 | succ m=>
   unfold xM at e1;cases q:getL S1 n with
   |none=>rw[q]at e1;cases e1
   | some us=>
     rw[q]at e1;simp only[ah]at e1;obtain⟨a',vs,ha',hs,rs⟩:=hr1.sq q;rw[p1.get ha]at ha';cases ha';cases z:us[k]? with
     | none=>
       rw[z]at e1;cases e1;refine .inl 31#4;rw[<-rs.len];exact dF.mp z
     | some u=>
       rw[z]at e1;obtain⟨v,hv,rv⟩:=rs.get z;refine .inr ⟨⟨vs,v,hs,hv⟩,λY7 H2=>∃Y5 S2 Y8,Pre μ Y5/\bq H H2/\HR K Y5 S2 H2/\ER H2 Y5 Y8 Y7/\xM g b n m (k+1) Y8 S2=some r,λY3 H' w=>⟨m,bB _,w⟩,λx H' y=>?_⟩;obtain⟨e',y⟩:=y;subst e';have hx:=y vs hs;rw[hv]at hx;cases hx;exact vG hr1 er1 rv e1 p1 k1 fl λY5 Y7 H2 Y8 S2 p2 k2 hr2 er2 e2=>⟨Y5,S2,Y8,p2,k2,hr2,er2,e2⟩
theorem MD{a:ME}(h:tMS K (vB g (b0 a) b) D G H):zh 25#3 (tG K g) (tMS K b) D G H:=by
 obtain⟨μ,S,Y,r,hr,er,e,fl⟩:=h;obtain⟨src,S1,e1,e⟩:=ba e;refine zi hr er e1 26#5 λY0 H1 n p p1 k1 hr1 hs hp=>?_
 .subst hs
  exact LG hr1 7#5 e 17#9 hp rs
 .subst hs
  exact Kh hr1 7#5 e 17#9 hp
theorem Ds{a:MA}{R:It->Hp->Prop}{S1:Sto}{src:Src}(hr:HR K μ S H)(er:ER H μ Y G)(e:mO a Y S=some (src,S1))
  (hL:∀Y0 H1 n p,Pre μ Y0->bq H H1->HR K Y0 S1 H1->src=.enl n->Y0[n]?=some p->R (B7 K p) H1):vJ K 6#4 G H R:=by
 obtain⟨xs,S2,e1,e⟩:=ba e
 split at e
 .rename_i n
  cases q:getL S2 n with
  |none=>rw[q]at e;cases e
  | some us=>
    rw[q]at e;simp only[aI,fg,Prod.mk.injEq]at e;obtain⟨e2,e3⟩:=e;subst e3;refine 30#1;obtain⟨v,r,rfl,rx,rn⟩:=rs.inv;rw[rn.nil_inv];obtain⟨p,rfl,hp⟩:=fF rx;obtain⟨a',ws,ha',hs,_⟩:=hr1.sq q;rw[hp]at ha';cases ha';exact .inr ⟨p,ws,rfl,hs,hL Y0 H1 n p p1 k1 hr1 e2.symm hp⟩
 .cases e
theorem J8{f:Nat}(hr:HR K μ S H)(er:ER H μ Y G)(e:tq g b n f 0 Y S=some r)(fl:FlP K μ H D r)(ha:μ[n]?=some a):
  ∃W:Nat->Nat->St->Hp->Prop,15#9 /\ ∀k m G H,W k m G H ->
   ((B7 K a).stop k H/\D.nx G H)\/((B7 K a).go k H /\ ∃N:St->Hp->Prop,18#4 /\ ∀x H',(B7 K a).yld k H x H'->tG K g x G H' λY7 H2=>tMS K b { D with nx:=N,ct:=N,bk:=D.nx } Y7 H2):=by
 refine⟨λk m Y6 H1=>∃Y0 S1 Y1,Pre μ Y0/\bq H H1/\HR K Y0 S1 H1/\ER H1 Y0 Y1 Y6/\tq g b n m k Y1 S1=some r,32#4,?_⟩;rintro k m Y6 H1 ⟨Y0,S1,Y1,p1,k1,hr1,er1,e1⟩;cases m with
 |zero=>cases e1
 | succ m=>
   unfold tq at e1;cases q:getL S1 n with
   |none=>rw[q]at e1;cases e1
   | some us=>
     rw[q]at e1;simp only[ah]at e1;obtain⟨a',vs,ha',hs,rs⟩:=hr1.sq q;rw[p1.get ha]at ha';cases ha';cases z:us[k]? with
     | none=>
       rw[z]at e1;cases e1;refine .inl 31#4;rw[<-rs.len];exact dF.mp z
     | some u=>
       rw[z]at e1;obtain⟨v,hv,rv⟩:=rs.get z;refine .inr ⟨⟨vs,v,hs,hv⟩,λY7 H2=>∃Y5 S2 Y8,Pre μ Y5/\bq H H2/\HR K Y5 S2 H2/\ER H2 Y5 Y8 Y7/\tq g b n m (k+1) Y8 S2=some r,λY3 H' w=>⟨m,bB _,w⟩,λx H' y=>?_⟩;obtain⟨T,w,hy,hT,rfl,rfl⟩:=y;have hyk:=hy vs hs;rw[hv]at hyk;cases hyk;have kp:bq H1 (upd H1 T (.tup [.int k,v])):=bq.new hT;have rx:RU (upd H1 T (.tup [.int k,v])) Y0 (.tup [.int k,u]) (.ref T):=iV cz (.cons fj (.cons (RU.mono kp 1#6 _ _ rv) .nil));exact vG (hr1.tup hT) (er1.mono kp 1#6) rx e1 p1 (k1.trans kp) fl λY5 Y7 H2 Y8 S2 p2 k2 hr2 er2 e2=>⟨Y5,S2,Y8,p2,k2,hr2,er2,e2⟩
theorem Sk{a:MA}(h:tMS K (vB g (mO a) b) D G H):zh (vJ K 6#4) (tG K g) (tMS K b) D G H:=by
 obtain⟨μ,S,Y,r,hr,er,e,fl⟩:=h;obtain⟨src,S1,e1,e⟩:=ba e;refine Ds hr er e1 λY0 H1 n p p1 k1 hr1 hs hp=>?_;subst hs;exact J8 hr1 7#5 e 17#9 hp
end
def Ee(n:Nat):U->Option (List U)
 |.tup us=>if us.length=n then some us else none
 |_=>none
def iX(c:Nat)(t:MT)(e:ME)(Y:Rho)(n:Nat):Nat->Nat->List U->Sto->Res (List U)
 |0,_,_,_=>none
 | f+1,i,acc,S=>(getL S n).bind λws=>match ws[i]? with
   |none=>some (acc,S)
   |some x=>(Ee c x).bind λus=>bnd (t (Y++us.map some) S) λk S1=>if k then bnd (e (Y++us.map some) S1) λy S2=>iX c t e Y n f (i+1) (acc++[y]) S2 else iX c t e Y n f (i+1) acc S1
def il(t:MT)(e:ME)(Y:Rho)(n:Nat):Nat->Nat->List U->Sto->Res (List U)
 |0,_,_,_=>none
 | f+1,i,acc,S=>(getL S n).bind λws=>match ws[i]? with
   |none=>some (acc,S)
   |some x=>bnd (t (Y++[some 3#6,some x]) S) λk S1=>if k then bnd (e (Y++[some 3#6,some x]) S1) λy S2=>il t e Y n f (i+1) (acc++[y]) S2 else il t e Y n f (i+1) acc S1
def Ci(c:Nat)(t:MT)(e:ME)(Y:Rho):Src->Sto->Res (List U)
 |.mut n,S=>iX c t e Y n fuel 0 [] S
 |.enl n,S=>if c=2 then il t e Y n fuel 0 [] S else none
 |_,_=>none
def iu(c:Nat)(it:MI)(t:MT)(e:ME):ME:=λY S=>bnd (it Y S) λsrc S1=>bnd (Ci c t e Y src S1) λys S2=>if ys.length<big then some (.ref S2.length,S2++[.lst ys]) else none
theorem pd{c:Nat}{t:MT}{e:ME}{Y:Rho}{n:Nat}:∀{f i:Nat}{acc ys:List U}{S S':Sto},iX c t e Y n f i acc S=some 3#2->acc.length<=ys.length
 |0,i,acc,ys,S,S',h=>by cases h
 | f+1,i,acc,ys,S,S',h=>by
   unfold iX at h;cases q0:getL S n with
   |none=>rw[q0]at h;cases h
   | some vs=>
     rw[q0]at h;simp only[ah]at h;cases z:vs[i]? with
     |none=>rw[z]at h;cases h;exact ak _
     | some x=>
       rw[z]at h;simp only at h;cases q:Ee c x with
       |none=>rw[q]at h;cases h
       | some ws=>
         rw[q]at h;simp only[ah]at h;obtain⟨k,S1,e1,h⟩:=ba h;cases k with
         | true=>
           obtain⟨y,S2,e2,h⟩:=ba (show bnd (e (Y++ws.map some) S1) (λy S2=>iX c t e Y n f (i+1) (acc++[y]) S2)=some 3#2 from h);have:=pd h;simp at this;omega
         |false=>exact pd (show iX c t e Y n f (i+1) acc S1=some 3#2 from h)
theorem pe{t:MT}{e:ME}{Y:Rho}{n:Nat}:∀{f i:Nat}{acc ys:List U}{S S':Sto},il t e Y n f i acc S=some 3#2->acc.length<=ys.length
 |0,i,acc,ys,S,S',h=>by cases h
 | f+1,i,acc,ys,S,S',h=>by
   unfold il at h;cases q0:getL S n with
   |none=>rw[q0]at h;cases h
   | some vs=>
     rw[q0]at h;simp only[ah]at h;cases z:vs[i]? with
     |none=>rw[z]at h;cases h;exact ak _
     | some x=>
       rw[z]at h;simp only at h;obtain⟨k,S1,e1,h⟩:=ba h;cases k with
       | true=>
         obtain⟨y,S2,e2,h⟩:=ba (show bnd (e (Y++[some 3#6,some x]) S1) (λy S2=>il t e Y n f (i+1) (acc++[y]) S2)=some 3#2 from h);have:=pe h;rw[a8]at this;exact aC (eF _ _) this
       |false=>exact pe (show il t e Y n f (i+1) acc S1=some 3#2 from h)
section
variable {K:KX}{G:St}{H:Hp}{Q:VK}
theorem ER.pushs{μ:List Addr}:∀{us:List U}{vs:List V}{Y:Rho}{G:St},ER H μ Y G->RUs H μ us vs->ER H μ (Y++us.map some) (G++vs.map some)
 |[],vs,Y,G,er,r=>by rw[r.nil_inv];simpa using er
 | u::us,vs,Y,G,er,r=>by
   obtain⟨v,r',rfl,a,b⟩:=r.inv;have:=ER.pushs (er.push a) b;simpa using this
variable{c:Nat}
theorem HC(r:RU H μ x v)(e:Ee c x=some us):∃a vs,v=.ref a/\SqT K H a vs/\vs.length=c/\RUs H μ us vs:=by
 unfold Ee at e
 split at e
 .split at e
  .rename_i hl
   cases e;obtain⟨a,vs,rfl,ha,rs⟩:=iG r;exact⟨a,vs,rfl,.inl (.inl ha),by rw[<-rs.len];exact hl,rs⟩
  .cases e
 .cases e
def G4(c:Nat)(K:ao)(J:It)(G:St)(tt:TT)(te:TE)(H1:Hp)(Q:VK):Prop:= ∃W:Nat->Nat->List V->Hp->Prop,(∃m,W 0 m [] H1) /\ ∀i m ys H,W i m ys H->ys.length<sizeLine /\
 (25#0 \/
  (J.go i H /\ ∀x H',J.yld i H x H'->gTt K c x H' λτ H2=>tt (G++τ) H2 λb H3=>if b=true then te (G++τ) H3 λy H4 =>∃m',m'<m/\W (i+1) m' (ys++[y]) H4 else ∃m',m'<m/\W (i+1) m' ys H3))
variable{ys:List U}
theorem Ek{t:MT}{e:ME}{f:Nat}(hr:HR K μ S H)(er:ER H μ Y G)(h:iX c t e Y n f 0 [] S=some 3#2)(hz:ys.length<big)(k:Aft K μ H 9#8 (S'++[.lst ys]) Q)
  (hp:μ[n]?=some p):G4 c K (Itl K p) G (tMT K t) (tM K e) H Q:=by
 have hz':ys.length<sizeLine:=by unfold big at hz;rw[sizeLine_eq];exact hz
 refine⟨λi m acc H1=>∃Y0 S1 au,Pre μ Y0/\bq H H1/\HR K Y0 S1 H1/\RUs H1 Y0 au acc/\iX c t e Y n m i au S1=some 3#2,31#8,?_⟩;rintro i m acc H1 ⟨Y0,S1,au,p1,k1,hr1,ra,e1⟩;have hl:=pd e1;have hl2:=ra.len;refine⟨by omega,?_⟩;cases m with
 |zero=>cases e1
 | succ m=>
   unfold iX at e1;cases q0:getL S1 n with
   |none=>rw[q0]at e1;cases e1
   | some us=>
     rw[q0]at e1;simp only[ah]at e1;obtain⟨a',vs,ha',hs,rs⟩:=hr1.sq q0;rw[p1.get hp]at ha';cases ha';cases z:us[i]? with
     | none=>
       rw[z]at e1;cases e1;exact .inl 28#6
     | some u=>
       rw[z]at e1;obtain⟨v,hv,rv⟩:=rs.get z;simp only at e1;cases q:Ee c u with
       |none=>rw[q]at e1;cases e1
       | some ws=>
         rw[q]at e1;simp only[ah]at e1;obtain⟨b,S2,e2,e1⟩:=ba e1;refine .inr ⟨⟨vs,v,hs,hv⟩,λx H' y=>?_⟩;obtain⟨e',y⟩:=y;subst e';have hx:=y vs hs;rw[hv]at hx;cases hx;obtain⟨a,xs,rfl,hsx,hc,rw'⟩:=HC (K:=K) rv q;refine⟨a,xs,rfl,hsx,hc,?_⟩;have er1:ER _ Y0 (Y++ws.map some) (G++xs.map some):=ER.pushs 7#5 rw';refine⟨Y0,S1,_,b,S2,hr1,er1,e2,λY5 H2 p2 k2 hr2=>?_⟩;have ra2:=RUs.mono k2 p2 _ _ ra;cases b with
         | true=>
           obtain⟨y',S3,e3,e1⟩:=ba (show bnd (e (Y++ws.map some) S2) (λy S2=>iX c t e Y n m (i+1) (au++[y]) S2)=some 3#2 from e1);refine qX ⟨Y5,S2,_,y',S3,hr2,er1.mono k2 p2,e3,λY' v3 H3 p3 k3 hr3 rv3=>?_⟩;exact⟨m,bB _,Y',S3,au++[y'],p1.trans 13#5,k1.trans (k2.trans k3),hr3,(RUs.mono k3 p3 _ _ ra2).append (.cons rv3 .nil),e1⟩
         | false=>
           exact rm ⟨m,bB _,Y5,S2,au,p1.trans p2,k1.trans k2,hr2,ra2,e1⟩
theorem Ea{t:MT}{e:ME}{f:Nat}(hr:HR K μ S H)(er:ER H μ Y G)(h:il t e Y n f 0 [] S=some 3#2)(hz:ys.length<big)(k:Aft K μ H 9#8 (S'++[.lst ys]) Q)
  (hp:μ[n]?=some p):G4 2 K (B7 K p) G (tMT K t) (tM K e) H Q:=by
 have hz':ys.length<sizeLine:=by unfold big at hz;rw[sizeLine_eq];exact hz
 refine⟨λi m acc H1=>∃Y0 S1 au,Pre μ Y0/\bq H H1/\HR K Y0 S1 H1/\RUs H1 Y0 au acc/\il t e Y n m i au S1=some 3#2,31#8,?_⟩;rintro i m acc H1 ⟨Y0,S1,au,p1,k1,hr1,ra,e1⟩;refine⟨by rw[<-ra.len];exact aA (pe e1) hz',?_⟩;cases m with
 |zero=>cases e1
 | succ m=>
   unfold il at e1;cases q0:getL S1 n with
   |none=>rw[q0]at e1;cases e1
   | some us=>
     rw[q0]at e1;simp only[ah]at e1;obtain⟨a',vs,ha',hs,rs⟩:=hr1.sq q0;rw[p1.get hp]at ha';cases ha';cases z:us[i]? with
     | none=>
       rw[z]at e1;cases e1;exact .inl 28#6
     | some u=>
       rw[z]at e1;obtain⟨v,hv,rv⟩:=rs.get z;simp only at e1;refine .inr ⟨⟨vs,v,hs,hv⟩,λx H' y=>?_⟩;obtain⟨T,w,hy,hT,rfl,rfl⟩:=y;have hyk:=hy vs hs;rw[hv]at hyk;cases hyk;have kp:bq H1 (upd H1 T (.tup [.int i,v])):=bq.new hT;have rw':RUs (upd H1 T (.tup [.int i,v])) Y0 [.int i,u] [.int i,v]:= .cons fj (.cons (RU.mono kp 1#6 _ _ rv) .nil);refine⟨T,[.int i,v],rfl,.inl (.inl cz),rfl,?_⟩;exact rS (next:=il t e Y n m (i+1)) (λacc H1=>∃m',m'<m+1 /\ ∃Y0 S1 au,Pre μ Y0/\bq H H1/\HR K Y0 S1 H1/\RUs H1 Y0 au acc/\il t e Y n m' (i+1) au S1=some 3#2) (hr1.tup hT) (ER.pushs ((er.mono k1 p1).mono kp 1#6) rw') (RUs.mono kp 1#6 _ _ ra) e1 λY5 S2 au2 acc2 H2 p2 k2 hr2 ra2 q=>⟨m,bB _,Y5,S2,au2,p1.trans p2,(k1.trans kp).trans k2,hr2,ra2,q⟩
theorem QY{a:MA}{t:MT}{e:ME}(h:tM K (iu c (mO a) t e) G H Q):si (gTt K c) (vJ K 6#4) (tMT K t) (tM K e) G H Q:=by
 obtain⟨μ,S,Y,u,S',hr,er,e0,k⟩:=h;obtain⟨src,S1,e1,e0⟩:=ba e0;obtain⟨ys,S2,e2,e0⟩:=ba e0
 split at e0
 .rename_i hz
  cases e0;refine Ds hr er e1 λY0 H1 n p p1 k1 hr1 hs hp=>?_
  .subst hs
   have e2:(if c=2 then il t e Y n fuel 0 [] S1 else none)=some (ys,S2):=e2
   split at e2
   .rename_i hc
    subst hc;exact Ea hr1 7#5 e2 hz 10#6 hp
   .cases e2
 .cases e0
theorem Rq{a:ME}{t:MT}{e:ME}(h:tM K (iu c (b0 a) t e) G H Q):si (gTt K c) 25#3 (tMT K t) (tM K e) G H Q:=by
 obtain⟨μ,S,Y,u,S',hr,er,e0,k⟩:=h;obtain⟨src,S1,e1,e0⟩:=ba e0;obtain⟨ys,S2,e2,e0⟩:=ba e0
 split at e0
 .rename_i hz
  cases e0;refine zi hr er e1 26#5 λY0 H1 n p p1 k1 hr1 hs hp=>?_
  .subst hs
   cases (show none=some (ys,S2) from e2)
  .subst hs
   exact Ek hr1 7#5 e2 hz 10#6 hp
 .cases e0
end
section
variable {prog:Program}{w:World}{A:Around}{E:Value->Shared->Prop}{s:Shared}
variable{r:Addr}
theorem xk{Q:List Value->Shared->Prop}{a b c:Int}{t u v:Tok}(hh:A.handled=none)(hr:IsRange s.heap r a b c t u v)(hsmall:oa a b c=true)
  (hn:eu a b c=n) (hlen:n<=2^24)
  (hQ:∀(h':Heap) (tk:Nat) (acc:Array Value),31#6->s.heap.objs.size<=h'.objs.size->ItemsOf (λi v=>∃t,v=.int (a+i*c) t) acc n->Q acc.toList { s with heap:=h',toks:=tk }):
  aV 4#1 A (collect (.ref r)) Q E s:=by
 unfold collect;refine av (Jt (fQ sW ?_));rw[eG sX _];show aV _ A.in1 (newList [] >>= fun l=>again (.builtin "list.__iadd__" ⟨[l,.ref r],[]⟩)) _ _ s;refine av 32#8;rw[eG ig _];have hS:(s.heap.push { cls := .type "list",data := .seq ([]:List Value).toArray }).get? s.heap.objs.size=some { cls := .type "list",data := .seq #[] 0 }:=aL _ rfl;have lt:∀b o,s.heap.get? b=some o->b≠s.heap.objs.size:=λb o e=>aW (aK e)
 refine cj (wpAny_extend_range (A:=A) (R:=λx s' =>∃h' tk acc c',x = .ok (.ret 10#4)/\s'={ s with heap:=h',toks:=tk }/\31#6 /\
   h'.get? s.heap.objs.size=some { cls := .type "list",dict:=none,data := .seq acc c',slots := #[] }/\ItemsOf (fun i v => ∃ t,v = .int (a+i*c) t) acc n)
  (s:={ s with heap:=s.heap.push { cls := .type "list",data := .seq ([]:List Value).toArray } }) hh (aw _ hr) hsmall hn hlen s.heap.objs.size 10#4 0 hS
  λh' tk acc c' hk hS' hacc=>⟨h',tk,acc,c',rfl,rfl,λb o e=>hk b o (lt b o e) (aw _ e),hS',hacc⟩) (λfin s' h =>?_) (λe s' h=>by obtain⟨_,_,_,_,h,_⟩:=h;cases h)
 have fin': ∀x s',(∃h' tk acc c',x=(.ok (.ret 10#4):Result)/\s'={ s with heap:=h',toks:=tk }/\31#6 /\
   h'.get? s.heap.objs.size=some { cls := .type "list",dict:=none,data := .seq acc c',slots := #[] }/\ItemsOf (fun i v=>∃ t,v=.int (a+i*c) t) acc n)->x=.ok (.ret (.ref s.heap.objs.size))/\aV (model prog w) A (match bx s.heap.objs.size with
   | bx a=>do
     match (<- load a).data with
      |JA xs _=>pure xs.toList
      |_=>unsupported "internal:collect"
   | _=>unsupported "internal:collect") Q E s':=by
  rintro x s' ⟨h',tk,acc,c',rfl,rfl,hk,hS',hacc⟩;refine⟨rfl,?_⟩;show aV _ A (load s.heap.objs.size >>= _) _ _ _;refine av (Jo hS' (aG ?_));exact hQ h' tk acc hk (aT (aK hS')) hacc
 cases fin with
 | done f=>
   obtain⟨e,q⟩:=fin' _ _ h;cases e;exact q
 | again c'=>exact⟨h.1,iL h.2 λr s'' hr=>by
   obtain⟨e,q⟩:=fin' _ _ hr;subst e
   exact q⟩
theorem nJ{Q₁:Value->Shared->Prop}{a b c:Int}{t u v:Tok}(hh:A.handled=none)(hr:IsRange s.heap r a b c t u v)(hsmall:oa a b c=true)
  (hn:eu a b c=n) (hlen:n<=2^24)
  (h :∀ (h':Heap) (tk:Nat) (acc:Array Value),(∀ b o,s.heap.get? b=some o->h'.get? b=some o)->s.heap.objs.size<=h'.objs.size->ItemsOf (fun i v=>∃ t,v=.int (a+i*c) t) acc n->Q₁ (.ref h'.objs.size) { s with heap:=h'.push { cls := .type "tuple",data := .seq acc },toks:=tk }) :
  o5 4#1 A (.call (.builtin "tuple.__new__") ⟨[.type "tuple",.ref r],[]⟩) (wants Q₁ E) s:=by
 refine codeAny_of_tree ?_;show aV _ A.in1 (do checkBuiltinCall "tuple.__new__" ⟨[.type "tuple",.ref r],[]⟩;again (.builtin "tuple.__new__" ⟨[.type "tuple",.ref r],[]⟩)) _ _ s;refine av (wpAny_of_eq (F.newCall_tuple_1 _) (aG ⟨plainId_quiet F.plain_tuple_new _,fQ F.entry_tuple_new ?_⟩));rw[eG F.plain_tuple_new _];have hsub:=sub_tuple_self;have hinit:=init_tuple_lookup;have hmh:=madeHere_tuple;have hTI:s.TypeIs (.ref r) "range":=⟨_,hr,rfl⟩;have hh1:A.in1.handled=none:=hh
 wp_walk using km hTI,xk hh1 hr hsmall hn hlen
 intro h' tk acc hk hle hacc;show aV _ _ (bX acc.toList.toArray >>= λv=>ret v) _ _ _;unfold bX;refine av (cU ?_ (by show acc.toList.toArray.size<=sizeLine;simp only[Array.toArray_toList];rw[hacc.1,sizeLine_eq];exact hlen));refine aG ?_;have e:acc.toList.toArray=acc:=by simp
 rw[e];exact h h' tk acc hk hle hacc
theorem sk{a b c:Int}{t u v:Tok}(hh:A.handled=none)(hr:IsRange s.heap r a b c t u v)(hsmall:oa a b c=true)
  (hn:eu a b c=n) (hlen:n<=2^24)
  (h :∀ (h':Heap) (tk:Nat) (acc:Array Value),(∀ b o,s.heap.get? b=some o->h'.get? b=some o)->s.heap.objs.size<=h'.objs.size->ItemsOf (fun i v=>∃ t,v=.int (a+i*c) t) acc n->Q (.ref h'.objs.size) { s with heap:=h'.push { cls := .type "tuple",data := .seq acc },toks:=tk }) :
  aV 4#1 A (call (.type "tuple") [.ref r]) Q E s:=by
 refine callType_codes (Q₁:=fun obj s₁=>s₁.TypeIs obj "tuple"/\Q obj s₁) F.called_tuple (F.typeCall_tuple_1 _) F.entry_object_init
  (nJ hh hr hsmall hn hlen λh' tk acc hk hle hacc=>⟨⟨_,aL _ rfl,rfl⟩,h h' tk acc hk hle hacc⟩) λobj s₁ h₁=>?_
 exact⟨h₁.1,F.args_object_init_2 obj _,object_init_meets F.called_tuple.init.lookup F.called_tuple.made 0#1 prog w A.in1 _ s₁ ⟨h₁.1,rfl,h₁.2⟩⟩
end
theorem vN  (hc:X.calm=true):iy X (.type "tuple") (fun xs H Q=>∃ r lo hi,xs=[.ref r]/\H r=some (.rng lo hi)/\(-(2^62)<=lo/\lo<2^62 /\ -(2^62)<=hi/\hi<2^62)/\(hi-lo).toNat<=sizeLine /\ ∀ l,H l=none->Q (.ref l) (upd H l (.tup 20#1))):=by
 intro pins s G H xs us Q I rs h;obtain⟨r,lo,hi,rfl,hr,⟨h1,h2,h3,h4⟩,hz,q⟩:=h;cases rs with
 | cons r1 rr=>
   cases rr;cases (show _=bx r from r1);obtain⟨t,u,v,e⟩:=I.hok r _ hr;have hn:eu lo hi 1=((hi-lo).toNat:Nat):=by rw[rangeSize_one];split<;>omega
   refine sk (n:=(hi-lo).toNat) 10#0 e (small_one h1 h2 h3 h4) hn (by rw[sizeLine_eq]at hz;exact hz) λh' tk acc hk hle hacc=>?_;obtain⟨hsz,hit⟩:=hacc;refine⟨.ref h'.objs.size,_,I.laid (t':=tk) (o:= .tup 20#1) (λb o e=>aw _ (hk b o e)) hle ?_,rfl,q _ (I.hok.fresh hle)⟩;refine⟨by rw[mP,ax,bc];exact hz,acc.toList,?_,n9 _ _,_,aL _ rfl,rfl⟩;refine zb (by rw[mP,ax,bc,fP,hsz]) λi x w h5 h6=>?_;have hlt:i<(hi-lo).toNat:=by
    have:=(ag.mp h5).1;rwa[mP,ax,bc]at this
   have hx:(mP lo (hi-lo).toNat)[i]?=some (.int (lo+i)):=by simp[mP,hlt]
   rw[hx]at h5;cases h5;obtain⟨t',e'⟩:=hit i w (by simpa using h6);exact⟨t',by rw[e'];simp⟩
section
variable {K:KX}{G:St}{H:Hp}{Q:VK}
def rTR:List V->Hp->VK->Prop:=λxs H Q=>∃r lo hi,xs=[.ref r]/\H r=some (.rng lo hi)/\(-(2^62)<=lo/\lo<2^62 /\ -(2^62)<=hi/\hi<2^62)/\(hi-lo).toNat<=sizeLine /\ ∀l,H l=none->Q (.ref l) (upd H l (.tup 20#1))
theorem FY{S1:Sto}{i j:Int}{r:Addr}(hr1:HR K μ S1 H)(ho:okR i/\okR j)(hz:(br i (j-i).toNat).length<=big)(k:Aft K μ H (.tup (br i (j-i).toNat)) S1 Q)(hrn:H r=none):rTR [.ref r] (upd H r (.rng i j)) Q:=by
 refine⟨r,i,j,rfl,cz,⟨ho.1.1,ho.1.2,ho.2.1,ho.2.2⟩,?_,λl hl=>?_⟩
 .unfold br big at hz;rw[ax,bc]at hz;rw[sizeLine_eq];exact hz
 .have k2:=k.mono 1#6 (bq.new hrn (o:= .rng i j))
  exact k2 μ _ _ 1#6 (bq.new hl) ((hr1.rng hrn).tup hl) (iV cz (RUs.mono (bq.new hl) 1#6 _ _ (Do _ _)))
theorem J7{a:MA}(h:tM K (vP (iR1 a)) G H Q):tCB rTR (uJ (Hn 6#4) Cb) G H Q:=by
 obtain⟨μ,S,Y,u,S',hr,er,e,k⟩:=h;obtain⟨src,S1,e1,e⟩:=ba e;obtain⟨xs,S2,e2,e1⟩:=ba e1;refine 29#9
 split at e1
 .rename_i j
  split at e1
  .rename_i hj
   cases e1;simp only at e
   split at e
   .rename_i hz
    cases e;obtain⟨v,r,rfl,rx,rn⟩:=rs.inv;rw[rn.nil_inv,dI rx];refine⟨j,rfl,hj.1,hj.2,λr hrn=>?_⟩;have ez:(j-0).toNat=j.toNat:=by simp
    exact FY (i:=0) hr1 ⟨15#4,hj⟩ (by rw[ez];exact hz) (by rw[ez];exact k.mono p1 k1) hrn
   .cases e
  .cases e1
 .cases e1
end
def wQ(i:Nat)(f:Addr)(φ:MF)(a:MA):ME:=λY S=>match Y[i]? with
 |some (some (.obj g))=>if g=f then mFn φ a Y S else none
 |_=>none
def jB(is:List Nat)(Y:Rho):Option (List U):=dS (λi=>(Y[i]?).bind id) is
def mZ(np:Nat)(ml:ME)(cs:List U):MF:=λus S=>if us.length=np then ml (us.map some++cs.map some) S else none
def kX(F:Addr->MF->MF)(np:Nat)(is:List Nat)(ml:ME)(ma:ME):ME:=λY S=>bnd (ma Y S) λx S1=>(jB is Y).bind λcs=>
 open Classical in
 if h:∃r,∀f,F f (mZ np ml cs) [x,.obj f] S1=some r then some h.choose else none
theorem uV{F:Addr->MF->MF}{np:Nat}{is:List Nat}{ml ma:ME}{S1:Sto}{cs:List U}{r:U×Sto}(ha:ma Y S=some (x,S1))(hc:jB is Y=some cs)(h:∀f,F f (mZ np ml cs) [x,.obj f] S1=some r):
  kX F np is ml ma Y S=some r:=by
 have hx:∃r,∀f,F f (mZ np ml cs) [x,.obj f] S1=some r:=⟨r,h⟩;unfold kX;rw[ha];simp only[az,hc,ah];rw[dif_pos hx];have e:=(hx.choose_spec 0).symm.trans (h 0);exact e
structure Lam(M:Mo)(f:Addr)(k:Nat)(ps:List Str)(φ:MF):Prop where
 ex:∃fd:FuncData,((∃(oc:Value) (od:Option Addr) (sl:Array (Option Value)),M.base.get? f=some ⟨oc,od,.func fd,sl⟩)\/dq M.K (.ref f)=true)/\Binds M.K fd ps []/\jA M.P M.w M.K M.mg M.base CX0 k f fd ps (spM M.K φ)
section
variable {M:Mo}{X:Cx}{k:Nat}{N:List Str}{ns:List (Str×NameKind)}{e:Expr}{es:List Expr}{mas:MA}{x:Str}{p1 pos:Pos}
theorem Lr{φ:MF}{k':Nat}(S:Sc M X k N ns)(F:Lam M f k' ps φ)(hk:k'<=k)(i:Nat)(hi:N[i]?=some x)(hv:pY ns x=true)(ha:PA X 1#7 3#0)
  (hd:7#3=false) (hcd:23#2=false)
  (he:starEach 1#7 X.env=20#5::starEach es X.env) (hpl:(backTo pos 10#5).any 2#2=false):
  PE X (.Call 12#0 1#7 [] pos) (tM M.K (wQ i f φ mas)):=by
 obtain⟨fd,hf,hb,F⟩:=F.ex;rw[<-S.hP,<-S.hw,<-S.hK,<-S.hm,<-S.hb]at F;rw[<-S.hb,<-S.hK]at hf;rw[<-S.hK]at hb;intro pins s G H Q I h;obtain⟨μ,S0,Y,u,S',hr,er,q,aft⟩:=h;unfold wQ at q
 split at q
 rotate_left
 .cases q
 rename_i g hg
 split at q
 rotate_left
 .cases q
 rename_i hgf
 subst hgf;obtain⟨v,X3,rv⟩:=er.get i _ hg;have hv':v=.ref g:=by simpa only [RU]using rv
 subst hv';refine d4 (thn (vb (X:=X) (by rw[S.hN];exact hi) (S.vis hv) hd hcd pins s G H (λv H1=>v=.ref g/\H1=H) I ⟨_,X3,rfl,rfl⟩) λw s1 ⟨v,H1,I1,r1,e1,e2⟩=>?_);subst e1;subst e2;obtain rfl:w=bx g:=r1;have hc:CY (spM M.K φ) [] E0 3#0 G H1 Q:=Jb ⟨μ,S0,Y,u,S',hr,er,q,aft⟩;have hA:=ha pos pins s1 G H1 _ I1 hc;rcases hf with⟨oc,od,sl,hf⟩ |hf
 rotate_left
 .exact ly (h₀:=X.base) I1.ok.mod.kin hf (thn hA λus s2 ⟨vs,H2,I2,r2,q2⟩=>⟨I2.kIn,vk F 13#3 hb .nil yb I2 r2 q2⟩) he hpl
 rw[he];refine FJ (P:=λh=>h.get? g=some ⟨oc,od,.func fd,sl⟩) (by show((false||(backTo pos 10#5).any 2#2)||false)=false;rw[hpl];rfl)
  (λh q=>⟨.frame,.inl rfl,(rG (part:=none) q).andThen .now⟩) (kn ?_)
 rw[he]at hA;refine thn hA λus s2 ⟨vs,H2,I2,r2,q2⟩=>⟨I2.bk g _ hf,?_⟩;exact vk F 13#3 hb .nil yb I2 r2 q2
end
end _G
namespace _G
open PySem PySem.Spec _L
open PySem.W (envX kla_fn kla_obj CodeHd tabObj)
open PyProof.Rows hiding St
structure jj(ps fs:List Str)(scope:Scope):Prop where
 kind:scope.kind=.function
 co:scope.isCoroutine=false
 gen:scope.isGenerator=false
 nd:(ps++fs).Nodup
 par:∀p∈ps,scope.names.lookup p=some .local\/scope.names.lookup p=some .cell
 cel:∀x∈scope.names,x.2=.cell->scope.names.lookup x.1=some .cell
 fre:∀y∈scope.names,y.2=.free->y.1∈fs
 free:∀y∈fs,scope.names.lookup y=some .free
theorem pE:∀(names:List 5#2) (n:Nat) (a b:List 4#8),cellsFrom n names (a++b)=cellsFrom n names a++b
 |[],_,_,_=>rfl
 | (x,k)::r,n,a,b=>by
   unfold cellsFrom;cases k==dr with
   |true=>exact pE r (n+1) ((x,n)::a) b
   |false=>exact pE r n a b
theorem EO(names:List 5#2)(n:Nat)(b:List 4#8):cellsFrom n names b=cellsFrom n names []++b:=pE names n [] b
theorem sf:∀(names:List 5#2) (n:Nat) (a:List 4#8) {x:Str}{c:Addr},(x,c)∈cellsFrom n names a->(x,dr)∈names\/(x,c)∈a
 |[],_,_,_,_,h=>.inr h
 | (y,k)::r,n,a,x,c,h=>by
   unfold cellsFrom at h
   split at h
   .rename_i hk
    rcases sf r (n+1) _ h with h|h
    .exact .inl (aD _ h)
    .rcases a9.mp h with e|h
     .cases e;rw[eq_of_beq hk];exact .inl a7
     .exact .inr h
   .exact(sf r n a h).imp (aD _) id
variable{x:Str}
theorem ic{α:Type}{c:α}:∀{a b:List (Str×α)},a.lookup x=some c->(a++b).lookup x=some c
 |a,b,h=>by rw[iS,h];rfl
theorem jw{α:Type}:∀{a b:List (Str×α)},a.lookup x=none->(a++b).lookup x=b.lookup x
 |a,b,h=>by rw[iS,h];rfl
theorem iZ{α:Type}{c:α}{a b:List (Str×α)}(h:(a++b).lookup x=some c):a.lookup x=some c\/(a.lookup x=none/\b.lookup x=some c):=by
 cases q:a.lookup x with
 |some d=>rw[ic q]at h;exact .inl h
 |none=>rw[jw q]at h;exact .inr ⟨rfl,h⟩
theorem vC{f g:Str×Value->PUnit->Sem (ForInStep PUnit)}:∀{l:List (Str×Value)},(∀x∈l,∀u,f x u=g x u)->forIn l ub f=forIn l ub g
 |[],_=>rfl
 | x::l,h=>by
   rw[kU,kU,h x a7];have ih:=vC (l:=l) λy hy=>h y (aD _ hy)
   congr 1
   funext r
   cases r with
   |done u=>rfl
   |yield u=>exact ih
variable{env:Env}
theorem Bz{cs:List (Str×Addr)}{v:Value}(h:env.kindOf x=some .local\/env.cells.lookup x=cs.lookup x):storeName env x v=storeName { env with cells:=cs } x v:=by
 rcases h with h|h
 .have h':Env.kindOf { env with cells:=cs } x=some .local:=h
  unfold storeName;rw[h,h'];rfl
 .have e:cellOf env x=cellOf { env with cells:=cs } x:=by unfold cellOf;rw[h]
  unfold storeName;rw[e];rfl
variable{A:Around}{scope:Scope}{cl:List (Str×Addr)}{qual:Str}
theorem Dz{M:Model}{E:Value->Shared->Prop}{s:Shared}{g:Addr}{binds:List (Str×Value)}{func:Option Addr}{code:Value}{bt:Addr}{Q:Env->Shared->Prop}(hk:scope.kind=.function)
  (hb:∀x∈binds,scope.names.lookup x.1=some .local\/scope.names.lookup x.1=some .cell)
  (hQ: ∀s',InCallC s s.heap.objs.size (bindL (λx=>scope.names.lookup x) binds λ_=>none) 16#5 (bindC (λx=>scope.names.lookup x) binds λ_=>none) s' ->
   Q (newEnv scope s.heap.objs.size g (cellsFrom (s.heap.objs.size+1) scope.names []++cl) qual func code none bt) s'):
  aV M A (newFunctionEnv scope g cl binds qual func code none bt) Q E s:=by
 have ok:CellsOk (pushCells (s.heap.push { cls := .type "frame",data := .dict #[] }) scope.names) 14#1 (cellsFrom (s.heap.push { cls := .type "frame",data := .dict #[] }).objs.size scope.names []):=
  cellsFrom_ok scope.names _ _ [] ⟨λ_ _ z=>(nomatch z),iB⟩ (by rw[bR];exact ak _)
 rw[bR]at ok;have inC:InCallC s s.heap.objs.size (fun _=>none) 16#5 (fun _=>none) { s with heap:=pushCells (s.heap.push { cls := .type "frame",data := .dict #[] }) scope.names }:=
  ⟨⟨⟨_,s.toks,rfl⟩,(Heap.Ns.new s.heap (.type "frame")).keeps fun b o e=>pushCells_keeps _ _ b o e,fun b o e=>pushCells_keeps _ _ b o (aw _ e),ak _⟩,
   λn c hc=>(ok.empty n c (mem_of_lookup hc)).1,ok.apart,λn c hm=>Nat.lt_of_succ_le (ok.empty n c hm).2⟩
 simp only[newFunctionEnv,Option.isSome_none,gq,if_false];refine av (wpAny_alloc (av (wpAny_layCells _ (λnm kd cs=>by cases q:kd==dr<;>simp[q]) _ _ _ _ ?_)));rw [show ({ s with heap:=s.heap.push { cls := .type "frame",data := .dict #[] } }:Shared).heap.objs.size=s.heap.objs.size+1 from bR ..,EO];refine av ?_;have same:∀x∈binds,∀v:Value,storeName (newEnv scope s.heap.objs.size g (cellsFrom 14#1 scope.names []++cl) qual func code none bt) x.1 v=storeName (newEnv scope s.heap.objs.size g 16#5 qual func code none bt) x.1 v:=λx hx v=>by
  refine Bz (env:=newEnv scope s.heap.objs.size g (cellsFrom 14#1 scope.names []++cl) qual func code none bt) ?_;rcases hb x hx with h|h
  .exact .inl h
  .obtain⟨c,hc⟩:=j9 (n:=s.heap.objs.size+1) h
   exact .inr (by rw[hc];exact ic hc)
 show aV M A (forIn binds ub λx _=>(do storeName (newEnv scope s.heap.objs.size g (cellsFrom 14#1 scope.names []++cl) qual func code none bt) x.1 x.2;pure (d5 ub))) _ E _;rw[vC (g:=λx _=>(do storeName (newEnv scope s.heap.objs.size g 16#5 qual func code none bt) x.1 x.2;pure (d5 ub))) λx hx u=>by rw[same x hx]];refine wpAny_bindParams (s₀:=s) (env:=newEnv scope s.heap.objs.size g 16#5 qual func code none bt) _ (λ_ _ _=>rfl) hk binds _ _ _ _ inC (λx hx=>?_) λs' x=>aG (hQ s' x);rcases hb x hx with h |h
 .exact .inl h
 .obtain⟨c,hc⟩:=j9 (n:=s.heap.objs.size+1) h
  exact .inr ⟨h,by show((cellsFrom 14#1 scope.names []).lookup x.1).isSome=true;rw[hc];rfl⟩
def nI(base:Heap)(cl:List 4#8):List Str->List V->Prop
 |[],[]=>True
 |y::fs,v::vs=>(∃c o u,cl.lookup y=some c/\base.get? c=some o/\o.data=.cell (some u)/\RelV v u)/\nI base cl fs vs
 |_,_=>False
theorem nI.len{base:Heap}{cl:List (Str×Addr)}:∀{fs:List Str}{vs:List V},nI base cl fs vs->fs.length=vs.length
 |[],[],_=>rfl
 |_::_,_::_,h=>by simp[nI.len h.2]
 |[],_::_,h=>h.elim
 |_::_,[],h=>h.elim
theorem nI.get{base:Heap}{cl:List (Str×Addr)}:∀{fs:List Str}{vs:List V}{i:Nat}{y:Str}{v:V},nI base cl fs vs->fs[i]?=some y->vs[i]?=some v->∃c o u,cl.lookup y=some c/\base.get? c=some o/\o.data=.cell (some u)/\RelV v u
 |[],_,i,y,v,_,h1,_=>by simp at h1
 |_::_,[],i,y,v,h,_,_=>h.elim
 | _::_,_::_,0,y,v,h,h1,h2=>by
   simp at h1 h2;subst h1;subst h2;exact h.1
 |_::_,_::_,i+1,y,v,h,h1,h2=>nI.get (i:=i) h.2 (by simpa using h1) (by simpa using h2)
def pj(qual:Str)(scope:Scope)(L f:Addr)(cd:Value)(cl:List 4#8):Env:=envX qual scope L f cd (cellsFrom (L+1) scope.names []++cl)
def Ao(P:Program)(w:World)(K:ao)(mg:Str->Option Value)(base:Heap)(N:List Str)(qual:Str)(scope:Scope)(f:Addr)(cd:Value)(cl:List 4#8)(A:Around)(outer:List Env)(s:Shared)(H:Hp):Cx where
 prog:=P
 w:=w
 K:=K
 mg:=mg
 base:=base
 A:=A.deeper (pj qual scope s.heap.objs.size f cd cl)
 N:=N
 s₀:=s
 H₀:=H
 env:=pj qual scope s.heap.objs.size f cd cl
 outer:=outer
 stack:=pj qual scope s.heap.objs.size f cd cl::outer
 ex:= []
 calm:=true
 fn:=λx=>scope.names.lookup x==some .cell
 pn:= []
 xe:=λ_ _=>False
variable{mg:Str->Option Value}{ps:List Str}{f:Addr}{us:List Value}
theorem Dy{P:Program}{w:World}{K:ao}{base:Heap}{fs:List Str}{cd:Value}{outer:List Env}{s s1:Shared}{H:Hp}{vs cv:List V}
  (S:jj ps fs scope) (hd:A.handled=none) (e0:EB P w K mg base A outer s H) (hl:vs.length=ps.length) (r:cM vs us) (C:nI base cl fs cv)
  (hcl:∀y c,cl.lookup y=some c->∃o v,base.get? c=some o/\o.data=.cell v) (inj:∀x y c,cl.lookup x=some c->cl.lookup y=some c->x=y)
  (x:InCallC s s.heap.objs.size (bindL (λy=>scope.names.lookup y) 12#1 λ_=>none) 16#5 (bindC (λy=>scope.names.lookup y) 12#1 λ_=>none) s1):
  Inv (Ao P w K mg base (ps++fs) qual scope f cd cl A outer s H) [] (vs.map some++cv.map some) H s1:=by
 obtain⟨h1,tk,rfl,hk⟩:=x.done;have ndP:ps.Nodup:=(ju.mp S.nd).1;have newc:∀y c,(cellsFrom 14#1 scope.names []).lookup y=some c->scope.names.lookup y=some .cell/\s.heap.objs.size<c:=λy c e=>by
  have m:=mem_of_lookup e;rcases sf _ _ _ m with z|z
  .exact⟨S.cel _ z rfl,x.above y c m⟩
  .simp at z
 have oldc:∀y c,cl.lookup y=some c->c<s.heap.objs.size/\(∃v,h1.IsCell c v)/\H c=none:=λy c e=>by
  obtain⟨o,v,e1,e2⟩:=hcl y c e;exact⟨aK (e0.bs c o e1).1,⟨v,o,hk _ _ (e0.bs c o e1).1,e2⟩,(e0.bs c o e1).2⟩
 have frc:∀y∈fs,(cellsFrom 14#1 scope.names []).lookup y=none:=λy hy=>by
  cases q:(cellsFrom 14#1 scope.names []).lookup y with
  |none=>rfl
  | some c=>
    have:=(newc y c q).1;rw[S.free y hy]at this;cases this
 have noA:∀b:Addr,b∉(Ao P w K mg base (ps++fs) qual scope f cd cl A outer s H).ex:=λb z=>absurd (show b∈([]:List Addr) from z) 0#8
 refine⟨⟨e0.mod,S.kind,rfl,rfl,ak _,λy z c e1 e2 =>?_,λy hy =>?_,λy c hy e =>?_,λ_=>hd,FH e0.frames,.inr ⟨rfl,rfl⟩,λb z=>absurd z (noA b),e0.bs,e0.bsz,λb _ _=>noA b,λb z=>absurd z (noA b),e0.funs,e0.frf⟩,
  rfl,e0.bare,Un.kept hk,⟨_,x.toInCall.ns,λi y v h2 h3 h4 =>?_⟩,λy c h =>?_,e0.hok.fresh (ak _),λy c h =>?_,λp hp=>absurd (show p∈([]:List (Addr×Obj)) from hp) (by simp),e0.hok.kept hk,?_⟩
 .rcases iZ e1 with e1|⟨_,e1⟩
  .rcases iZ e2 with e2|⟨_,e2⟩
   .exact name_of_addr x.apart (mem_of_lookup e1) (mem_of_lookup e2)
   .exact absurd (cP (newc y c e1).2 (oldc z c e2).1) (bO _)
  .rcases iZ e2 with e2|⟨_,e2⟩
   .exact absurd (cP (newc z c e2).2 (oldc y c e1).1) (bO _)
   .exact inj y z c e1 e2
 .have hy:scope.names.lookup y=some .cell\/scope.names.lookup y=some .free:=hy
  rcases hy with hy|hy
  .obtain⟨c,hc⟩:=j9 (n:=s.heap.objs.size+1) hy
   exact⟨c,ic hc⟩
  .have hf:=S.fre _ (mem_of_lookup hy) rfl
   obtain⟨i,hi⟩:=List.getElem?_of_mem hf;have hi2:i<cv.length:=by rw[<-C.len];exact(ag.mp hi).1
   obtain⟨c,o,u,e,_⟩:=C.get hi (aF hi2);exact⟨c,(jw (frc y hf)).trans e⟩
 .rcases iZ e with e|⟨_,e⟩
  .exact aT (newc y c e).2
  .have hy':scope.names.lookup y=some .cell:=eq_of_beq hy
   obtain⟨c',hc'⟩:=j9 (n:=s.heap.objs.size+1) hy'
   rename_i z
   rw[hc']at z;cases z
 .have hN:(ps++fs)[i]?=some y:=h2
  by_cases hi:i<ps.length
  .rw[aM hi]at hN
   rw[aM (by simpa [hl]using hi),bj]at h3;cases e:vs[i]? with
   |none=>rw[e]at h3;cases h3
   | some a=>
     rw[e]at h3;cases h3;obtain⟨u,hu,rv⟩:=r.get e;refine⟨u,rv,?_⟩;rcases S.par y (bP hN) with kd|kd
     .exact .inl ⟨kd,rR ndP hN hu kd⟩
     .obtain⟨c,hc⟩:=j9 (n:=s.heap.objs.size+1) kd
      refine .inr ⟨.inl kd,c,ic hc,?_⟩;have z:=x.cell y c hc;rw[sR ndP hN hu (by show scope.names.lookup y≠_;rw[kd];decide)]at z;exact z
  .rw[aq 13#0]at hN
   rw[aq 16#2,bj]at h3;simp only[ax,hl]at h3;cases e:cv[i-ps.length]? with
   |none=>rw[e]at h3;cases h3
   | some a=>
     rw[e]at h3;cases h3;have hf:=bP hN;obtain⟨c,o,u,e1,e2,e3,e4⟩:=C.get hN e;exact⟨u,e4,.inr ⟨.inr (S.free y hf),c,(jw (frc y hf)).trans e1,o,hk _ _ (e0.bs c o e2).1,e3⟩⟩
 .rcases iZ h with e|⟨_,e⟩
  .exact⟨_,x.cell y c e⟩
  .exact(oldc y c e).2.1
 .rcases iZ h with e|⟨_,e⟩
  .exact e0.hok.fresh (aT (newc y c e).2)
  .exact(oldc y c e).2.2
 .show(vs.map some++cv.map some).length=(ps++fs).length
  simp[hl,C.len]
variable{params:Arguments}{body:Expr}{pm:Value}{oc:Obj}{ws:Array Value}
theorem Ib{M:Mo}(h0:M.mkr=none){name:Str}{ctv:Value}{c:Addr}{t:Tok}{fs:List Str}{k:Nat}{ml:ME}{od:Option Addr}{fc:Value}{fsl:Array (Option Value)}
  (hf:M.base.get? f=some ⟨fc,od,.func (kla_fn name qual params body scope cl pm (.ref c) ctv),fsl⟩) (hc:(c,oc)∈M.K.cds) (hoc:oc.data=.fields ws) (hq:ws[1]?=some (.str qual t))
  (S:jj ps fs scope) (C:nI M.base cl fs M.K.capv) (hcl:∀y c,cl.lookup y=some c->∃o v,M.base.get? c=some o/\o.data=.cell v) (inj:∀x y c,cl.lookup x=some c->cl.lookup y=some c->x=y)
  (hb:∀X,Sc M X k (ps++fs) scope.names->PE X body (tM M.K ml)):
  jA M.P M.w M.K M.mg M.base CX0 (k+1) f (kla_fn name qual params body scope cl pm (.ref c) ctv) ps (spM M.K (mZ ps.length ml M.K.caps)):=by
 have len:∀vs H Q E,spM M.K (mZ ps.length ml M.K.caps) vs H Q E->vs.length=ps.length:=λvs H Q E h=>by
  obtain⟨μ,S',us,u,S'',hr,rs,e,_⟩:=h;unfold mZ at e
  split at e
  .rename_i hl;rw[<-rs.len];exact hl
  .cases e
 refine⟨len,λA outer s H args us vs Q E hr e0 hbd r hsp=>?_⟩;have hl:=len _ _ _ _ hsp;obtain⟨μ,S1,zs,u,S2,hR,rs,e,ka⟩:=hsp;have hco:s.heap.get? c=some oc:=(e0.hok c _ (hR.ext.cds _ hc)).1;have lim:s.heap.NoLimit:=e0.mod.nolimit.keeps λb o e=>(e0.bs b o e).1;refine FA hr.depth (e0.bs f _ hf).1 rfl S.co S.gen rfl ⟨c,oc,ws,t,rfl,hco,hoc,hq⟩ (hbd _ _ _ _ ?_);refine Dz S.kind (λx hx=>S.par _ (kS hx).1) λs1 x=>⟨lim.keeps x.toInCall.keep,?_⟩;show o5 _ _ (.expr body (pj qual scope s.heap.objs.size f (.ref c) cl)) _ _;have I:=Dy (qual:=qual) (f:=f) (cd:= .ref c) S hr.hd e0 hl r C hcl inj x;have SS:Sc M (Ao M.P M.w M.K M.mg M.base (ps++fs) qual scope f (.ref c) cl A outer s H) k (ps++fs) scope.names:=
  ⟨rfl,rfl,rfl,rfl,rfl,rfl,S.nd,rfl,λ_ h=>h,λy h=>⟨h,by show 27#0=true;rw[h];rfl⟩,λ_ h=>.inr h,λ_ h=>h,hr.deeper _,mU,λc q h=>by rw[h0]at h;cases h⟩
 unfold mZ at e
 split at e
 rotate_left
 .cases e
 have er:ER H μ (zs.map some++M.K.caps.map some) (vs.map some++M.K.capv.map some):=by
  have all:=rs.append hR.ext.cap;refine⟨by simp[rs.len,hR.ext.cap.len],λi w hw=>?_⟩;rw[<-ck,bj]at hw;cases q:(zs++M.K.caps)[i]? with
  |none=>rw[q]at hw;cases hw
  | some w'=>
    rw[q]at hw;cases hw;obtain⟨v,hv,rv⟩:=all.get q;exact⟨v,by rw[<-ck,bj,hv];rfl,rv⟩
 refine FB (cj (hb _ SS [] _ _ H Q I ⟨μ,S1,_,u,S2,hR,er,e,ka⟩) (λv s' hs=>?_) λe s' hs=>hs.elim);obtain⟨x,H',J,rv,q⟩:=hs;exact⟨x,H',J.os,J.bare,J.base,J.hok,rv,q⟩
def fq(cells:List 4#8):List 5#2->List 4#8->List 4#8
 |[],acc=>acc
 | (y,k)::r,acc=>if k==.free then(match cells.lookup y with
   |some c=>fq cells r ((y,c)::acc)
   | none=>fq cells r acc) else fq cells r acc
theorem vO{scope:Scope}(h:∀y∈scope.names,y.2=.free->∃c,env.cells.lookup y.1=some c):closureFor scope env=pure (fq env.cells scope.names []):=by
 unfold closureFor;have key:∀(l:List 5#2) (acc:List 4#8),(∀y∈l,y.2=.free->∃c,env.cells.lookup y.1=some c) ->
   (forIn l acc λ(x:Str×NameKind) (r:List 4#8)=>if (x.2==aZ)=true then(do let a <- cellOf env x.1;pure (d5 ((x.1,a)::r))) else pure (d5 r):Sem _)=pure (fq env.cells l acc):=by
  intro l
  induction l with
  |nil=>intro acc _;rfl
  | cons y l ih=>
    intro acc hh;rw[kU];unfold fq;cases q:y.2==aZ with
    | true=>
      obtain⟨c,hc⟩:=hh y a7 (eq_of_beq q);have e:cellOf env y.1=pure c:=by unfold cellOf;rw[hc]
      simp only[if_true,e,pure_bind,hc];exact ih _ λz hz=>hh z (aD _ hz)
    | false=>
      simp only[gq,if_false,pure_bind];exact ih _ λz hz=>hh z (aD _ hz)
 have e:=key scope.names [] h;show(forIn scope.names ([]:List 4#8) _ >>= λr=>pure r:Sem _)=_;rw[bind_pure];refine Eq.trans ?_ e
 congr 1
theorem oj{cells:List (Str×Addr)}:∀(l:List 5#2) (acc:List 4#8) {y:Str}{c:Addr},(y,c)∈fq cells l acc->(y,c)∈acc\/(cells.lookup y=some c/\(y,aZ)∈l)
 |[],acc,y,c,h=>.inl h
 | (z,k)::l,acc,y,c,h=>by
   unfold fq at h
   split at h
   .rename_i hk
    split at h
    .rename_i d hd
     rcases oj l _ h with h|h
     .rcases a9.mp h with e|h
      .cases e;exact .inr ⟨hd,by rw[eq_of_beq hk];exact a7⟩
      .exact .inl h
     .exact .inr ⟨h.1,aD _ h.2⟩
    .exact(oj l _ h).imp id λh=>⟨h.1,aD _ h.2⟩
   .exact(oj l _ h).imp id λh=>⟨h.1,aD _ h.2⟩
theorem ot{cells:List (Str×Addr)}:∀(l:List 5#2) (acc:List 4#8) {y:Str}{c:Addr},(y,c)∈acc->(y,c)∈fq cells l acc
 |[],acc,y,c,h=>h
 | (z,k)::l,acc,y,c,h=>by
   unfold fq
   split
   .split
    .exact ot l _ (aD _ h)
    .exact ot l _ h
   .exact ot l _ h
theorem oy{cells:List (Str×Addr)}:∀(l:List 5#2) (acc:List 4#8) {y:Str}{c:Addr},(y,aZ)∈l->cells.lookup y=some c->(y,c)∈fq cells l acc
 |[],acc,y,c,h,_=>by simp at h
 | (z,k)::l,acc,y,c,h,hc=>by
   unfold fq;rcases a9.mp h with e|h
   .cases e
    simp only[beq_self_eq_true,if_true,hc];exact ot l _ a7
   .split
    .split
     .exact oy l _ h hc
     .exact oy l _ h hc
    .exact oy l _ h hc
theorem lookup_mem{α:Type}:∀{l:List (Str×α)}{y:Str}{c:α},(y,c)∈l->∃d,l.lookup y=some d
 |[],y,c,h=>by simp at h
 | (z,d)::l,y,c,h=>by
   rw[a6];cases q:y==z with
   |true=>exact⟨d,rfl⟩
   | false=>
     rcases a9.mp h with e|h
     .cases e;simp at q
     .exact lookup_mem h
variable{cells:List (Str×Addr)}{l:List (Str×NameKind)}{y:Str}{c:Addr}
theorem iq(h:(fq cells l []).lookup y=some c):cells.lookup y=some c/\(y,aZ)∈l:=by
 rcases oj l [] (cy h) with h|h
 .simp at h
 .exact h
theorem E7(h:(y,aZ)∈l)(hc:cells.lookup y=some c):(fq cells l []).lookup y=some c:=by
 obtain⟨d,hd⟩:=lookup_mem (oy l [] h hc);have:=(iq hd).1;rw[hc]at this;cases this;exact hd
theorem BS{pos:Pos}{a b:Int}{c cv:Value}(l:List Value)(h:TriplesOk l)(hc:codeAmong pos (l++[rawInt a,rawInt b,c])=some cv):codeAmong pos l=some cv\/cv=c:=by
 fun_induction TriplesOk l with
 | case1=>
   simp only[dg,rawInt,codeAmong]at hc
   split at hc
   .cases hc;exact .inr rfl
   .cases hc
 | case2 x t y u z rest ih=>
   simp only[List.cons_append,codeAmong]at hc ⊢
   split at hc
   .rename_i q;rw[if_pos q];exact .inl hc
   .rename_i q;rw[if_neg q];exact ih h hc
 |case3 l h1 h2=>exact h.elim
section
variable {K:KX}{H:Hp}{μ:List Addr}{S:Sto}
theorem HR.table{P:Addr}{ps:Array Value}{t:Tok}{a b:Int}{q:Str}(h:HR K μ S H)(hP:H P=some (.tbl ps))(hc:H c=none)(hoc:oc.data=.fields ws)(hq:ws[1]?=some (.str q t))(un:∀r∈K.tabs,r.1=P->r.2=q):
  bq H (upd 17#0 P 22#2)/\HR K μ S (upd 17#0 P 22#2):=by
 have stay:∀x o,H x=some o->(∀ps,o≠.tbl ps)->upd 17#0 P 22#2 x=some o:=λx o e n=>by
  rw[bo (qy e hP (n ps)),bo (bf e hc)];exact e
 have kp:bq H (upd 17#0 P 22#2):=⟨λx vs e=>stay x _ e (λ_ z=>nomatch z),λx o u e=>stay x _ e (λ_ z=>nomatch z)⟩;have fr:∀x o u,H x=some (.frz o u)->upd 17#0 P 22#2 x=some (.frz o u):=λx o u e=>stay x _ e λ_ z=>by cases z
 have hcP:c≠P:=(bf hP hc).symm;refine⟨kp,h.len,h.inj,λm d x q1 q2=>(h.cell m d x q1 q2).mono kp 1#6 (λhd=>?_) λo u e=>fr x o u e,RUs.mono kp 1#6 _ _ h.ext.cap,λr hr=>fr _ _ _ (h.ext.cds r hr),λr hr=>?_⟩
 .obtain⟨o,e,_,_,nb⟩:=(h.cell m d x q1 q2).has hd
  rw[stay x o e nb,e]
 .obtain⟨ps',e,tr,al⟩:=h.ext.tab r hr
  by_cases hr':r.1=P
  .rw[hr',hP]at e
   cases e;refine⟨ps ++ #[rawInt a,rawInt b,.ref c],by rw[hr',cz],by rw[JC];exact TriplesOk_snoc _ _ _ _ tr,λpos cv hcv=>?_⟩;rw[JC]at hcv;rcases BS _ tr hcv with z |z
   .obtain⟨d,od,vs,t',e1,e2,e3,e4⟩:=al pos cv z
    exact⟨d,od,vs,t',e1,fr _ _ _ e2,e3,e4⟩
   .exact⟨c,oc,ws,t,z,by rw[bo hcP,cz],hoc,by rw[un r hr hr'];exact hq⟩
  .refine⟨ps',by rw[bo hr',bo (bf e hc)];exact e,tr,λpos cv hcv=>?_⟩
   obtain⟨d,od,vs,t',e1,e2,e3,e4⟩:=al pos cv hcv;exact⟨d,od,vs,t',e1,fr _ _ _ e2,e3,e4⟩
end
section
variable {X:Cx}{pins:List (Addr×Obj)}{G:St}{H:Hp}{s:Shared}
theorem yf{P:Addr}{ps more:Array Value}{ob:Obj}{h':Heap}{tk:Nat}(I:Inv X pins G H s)(hP:H P=some (.tbl ps))(hx:Heap.ExtBut P s.heap h')(hge:s.heap.objs.size<=c)(hc:h'.get? c=some oc)(htb:h'.get? P=some (tabObj (ps++more))):
  Inv X pins G (upd 17#0 P (.tbl (ps++more))) { s with heap:=h'.push ob,toks:=tk }:=by
 have hcn:H c=none:=I.hok.fresh hge;have kp:∀b o,b≠P->s.heap.get? b=some o->(h'.push ob).get? b=some o:=λb o n e=>aw _ (hx b o n e);have nP:∀b,H b=none->b≠P:=λb n z=>by rw[z,hP]at n;cases n
 have stay:∀x o,H x=some o->(∀ps,o≠.tbl ps)->upd 17#0 P (.tbl (ps++more)) x=some o:=λx o e n=>by
  rw[bo (qy e hP (n ps)),bo (bf e hcn)];exact e
 refine I.step (g':=s.gens) (d':=s.drawn) (ch:= []) (λ_ z=>nomatch z) (λb o _ _ _ e n=>kp b o (nP b n) e) (λb o _ _ _ e n=>⟨o.slots,kp b o (nP b n) e⟩)
  (λb o _ e n=>by rw[bo (nP b n),bo (aW (aj (aK e) hge))];exact n) (λb o _ e=>?_) (λb xs e=>stay b _ e λ_ z=>by cases z) (λb o u e=>stay b _ e λ_ z=>by cases z)
  (λb qs e=>?_) (λm hm=>?_) (λb u e=>?_) I.bare
 .by_cases hb:b=P
  .exact⟨_,by rw[hb];exact aw _ htb⟩
  .exact⟨o,kp b o hb e⟩
 .by_cases hb:b=P
  .rw[hb,hP]at e
   cases e;exact⟨more,by rw[hb,cz]⟩
  .exact⟨#[],by rw[bo hb,bo (bf e hcn),e];simp⟩
 .exact(hm.extBut hx (nP _ I.free)).push _
 .by_cases hb:b=P
  .rw[hb,cz]at e
   cases e;rw[hb];exact aw _ htb
  .rw[bo hb]at e
   by_cases hbc:b=c
   .rw[hbc,cz]at e
    cases e;rw[hbc];exact⟨aw _ hc,trivial,⟨_,aw _ hc⟩,λ_ _ _ _=>trivial⟩
   .rw[bo hbc]at e
    refine(I.hok b u e).stay (λd v hd q=>kp d v ?_ q) (λd q=>stay d _ q λ_ z=>by cases z) λd xs q=>stay d _ q λ_ z=>by cases z
    rcases hd with z|z
    .rw[z];exact hb
    .exact qy z hP 20#6
def baseOf(h:Heap)(H:Hp)(fr:List Addr):Heap:=cH (xf h H) fr
variable{h:Heap}{fr:List Addr}{b:Addr}{o:Obj}
theorem fk{H:Hp}(e:h.get? b=some o)(n:H b=none)(hf:b∉fr):(baseOf h H fr).get? b=some o:=fJ _ (rg e n) hf
theorem Ed{H:Hp}(e:(baseOf h H fr).get? b=some o):h.get? b=some o/\H b=none:=DP (lu fr e)
theorem wa(I:Inv X pins G H s):∀b o,X.base.get? b=some o->(baseOf s.heap H 10#8).get? b=some o:=λb o e=>
 fk (I.bs b o e).1 (I.bs b o e).2 λz=>by
  have:=(I.stack.mem z).1;rw[e]at this;cases this
theorem xG(I:Inv X pins G H s):EB X.prog X.w X.K X.mg 11#1 X.A X.stack s H:=by
 have k:=wa I;obtain⟨m1,m2,⟨mb,m3,m4⟩,m5⟩:=I.ok.mod;refine⟨I.ok.frames,⟨m1.keeps k,m2.keeps k,⟨mb,m3.keeps k,m4⟩,m5.keeps k⟩,λb o e=>Ed e,by rw[baseOf,Fx,yn];exact ak _,?_,I.stkFree,I.hok,I.bare⟩;have all:∀l:List Env,(∀b∈frs l,b∈frs X.stack)->s.heap.FunFrames X.base l->s.heap.FunFrames 11#1 l:=by
  intro l
  induction l with
  |nil=>intro _ _;trivial
  | cons env r ih=>
    intro hs hl;obtain⟨hk,⟨L,o,hf,hn,ho,hd⟩,hr⟩:=hl;have hL:L∈frs X.stack:=hs L (by unfold frs;rw[eX,hf];exact a7);exact⟨hk,⟨L,o,hf,gY _ hL,ho,hd⟩,ih (λb hb=>hs b 33#6) hr⟩
 exact all X.stack (λ_ h=>h) I.stack
end
def gh (mg:Str->Option Value) (base:Heap):Prop := ∃ bm ob,mg "__builtins__"=some (.ref bm)/\bm≠builtinsNs/\base.get? bm=some ob/\ob.cls=.type "module"/\ob.dict=some builtinsNs/\ob.data=.plain
theorem gh.keeps{b b':Heap}(h:gh mg b)(k:∀a o,b.get? a=some o->b'.get? a=some o):gh mg b':=
 let ⟨bm,ob,e1,e2,e3,r⟩:=h;⟨bm,ob,e1,e2,k _ _ e3,r⟩
structure Mkr(M:Mo)(c P:Addr)(q:Str):Prop where
 hd:∀h:Heap,M.K.K.In h->CodeHd h c P
 bl:gh M.mg M.base
 gP:mainGlobals≠P
 mem:(P,q)∈M.K.tabs
 un:∀r∈M.K.tabs,r.1=P->r.2=q
def KX.to(K:KX)(caps:List U)(capv:List V)(cds:List 1#9):KX:=⟨K.K,caps,capv,cds,K.tabs⟩
def Mo.to(M:Mo)(caps:List U)(capv:List V)(cds:List 1#9)(base:Heap):Mo:=⟨M.P,M.w,M.K.to caps capv cds,M.mg,base,none⟩
structure FnC(M:Mo)(x:Str)(k:Nat)(ps:List Str)(F:Addr->MF->MF):Prop where
 ex:∃(f:Addr) (fd:FuncData),M.mg x=some (.ref f)/\dq M.K (.ref f)=true/\Binds M.K fd ps [] /\
  ∀(caps:List U) (capv:List V) (cds:List (Addr×Obj)) (base:Heap) (g:Addr) (j:Nat) (lps:List Str) (φ:MF),gh M.mg base->k<=j->Lam (M.to caps capv cds base) g j lps φ ->
   jA M.P M.w M.K M.mg base CX0 (j+1) f fd ps (spM (M.K.to caps capv cds) (F g φ))
def uq:List (List Str) := [["x"],["least"],["walk"],["i","j"],["one","other"],["group","steps"]]
def uj(p:Arguments):Bool:=p.posonlyargs.isEmpty&&(p.vararg.isNone&&(p.kwonlyargs.isEmpty&&(p.kw_defaults.isEmpty&&(p.kwarg.isNone&&p.defaults.isEmpty))))
def uH(p:Arguments):Option (List Str):=if uj p&&uq.contains (p.args.map (·.arg)) then some (p.args.map (·.arg)) else none
variable{p:Arguments}
theorem vh(h:uj p=true):p=⟨[],p.args,none,[],[],none,[]⟩:=by
 obtain⟨a,b,c,d,e,f,g⟩:=p;unfold uj at h;simp only[ar,oE,Option.isNone_iff_eq_none]at h;obtain⟨rfl,rfl,rfl,rfl,rfl,rfl⟩:=h;rfl
theorem AN(h:uH p=some ps):∃as,p=⟨[],as,none,[],[],none,[]⟩/\as.map (·.arg)=ps/\ps∈uq:=by
 unfold uH at h
 split at h
 .rename_i q
  cases h;rw[ar]at q;exact⟨p.args,vh q.1,rfl,List.contains_iff_mem.mp q.2⟩
 .cases h
variable{as:List Arg}
theorem Qz(e:as.map (·.arg)=[x]):∃an ps,as=[⟨x,an,ps⟩]:=by
 obtain⟨a,l,rfl,h1,h2⟩:=JD.mp e;rw[List.map_eq_nil_iff.mp h2];obtain⟨n,an,ps⟩:=a;cases h1;exact⟨an,ps,rfl⟩
theorem UG(e:as.map (·.arg)=[x,y]):∃an ps an2 ps2,as=[⟨x,an,ps⟩,⟨y,an2,ps2⟩]:=by
 obtain⟨a,l,rfl,h1,h2⟩:=JD.mp e;obtain⟨an2,ps2,rfl⟩:=Qz h2;obtain⟨n,an,ps⟩:=a;cases h1;exact⟨an,ps,an2,ps2,rfl⟩
theorem R5{α:Type}{us:List α}(h:us.length=1):∃a,us=[a]:=FK.mp h
theorem UB{α:Type}{us:List α}(h:us.length=2):∃a b,us=[a,b]:=by
 cases us with
 |nil=>cases h
 | cons a us=>
   obtain⟨b,rfl⟩:=R5 (Bh h);exact⟨a,b,rfl⟩
theorem HF(e:as.map (·.arg)=ps)(hk:ps∈uq){fd:FuncData}(hp:fd.params=⟨[],as,none,[],[],none,[]⟩)(hd:fd.defaults=.none)(hl:us.length=ps.length):bindArgs fd ⟨us,[]⟩=pure 12#1:=by
 obtain⟨c1,c2,pr,c4,c5,df,c7,c8,c9,c10,c11,c12,c13⟩:=fd;cases hp;cases hd;simp only[uq,a9,oC,or_false]at hk;rcases hk with rfl|rfl|rfl|rfl|rfl|rfl
 all_goals first
  |(obtain⟨an,q,rfl⟩:=Qz e;obtain⟨a,rfl⟩:=R5 hl;rfl)
  |(obtain⟨an,q,an2,q2,rfl⟩:=UG e;obtain⟨a,b,rfl⟩:=UB hl;rfl)
theorem Ei(h:uH p=some ps)(nd:ps.Nodup){K:ao}{name:Str}{cdv ct:Value}:Binds K (kla_fn name qual p body scope cl pm cdv ct) ps []:=by
 obtain⟨as,rfl,e,hk⟩:=AN h;exact .all λus hl=>HF e hk rfl rfl hl
theorem F6(h:uH p=some ps)(env:Env):defaultsOf p env=([],[]):=by
 obtain⟨as,rfl,_⟩:=AN h;rfl
section
variable {M:Mo}{X:Cx}{k:Nat}{N:List Str}{ns:List (Str×NameKind)}{pins:List (Addr×Obj)}{G:St}{H:Hp}{s:Shared}
theorem vj(S:Sc M X k N ns)(I:Inv X pins G H s)(hy:ns.lookup y=some .cell)(hc:X.env.cells.lookup y=some c):c∉frs X.stack:=λz=>by
 have fn:=(S.cel y hy).2;rcases a9.mp (I.stkSub c z) with e|hb
 .exact I.cne y c hc e
 .obtain⟨_,o,ho,_⟩:=I.ok.funs.mem hb
  exact absurd (aj (aK ho) (I.ok.cab y c fn hc)) (bO _)
theorem yR(S:Sc M X k N ns)(I:Inv X pins G H s){μ:List Addr}{Y:Rho}(er:ER H μ Y G){names:List (Str×NameKind)}:∀{fs:List Str}{is:List Nat}{cs:List U},(∀y∈fs,ns.lookup y=some .cell/\(y,aZ)∈names) ->
  dS 16#7 fs=some is->jB is Y=some cs->∃cv,RUs H μ cs cv/\nI 11#1 (fq X.env.cells names []) fs cv
 |[],is,cs,_,h1,h2=>by cases h1;cases h2;exact⟨[],.nil,trivial⟩
 | y::fs,is,cs,hf,h1,h2=>by
   unfold dS at h1;cases e1:N.findIdx? (· == y) with
   |none=>rw[e1]at h1;cases h1
   | some i=>
     rw[e1]at h1;simp only[ah]at h1;cases e2:dS 16#7 fs with
     |none=>rw[e2]at h1;cases h1
     | some is'=>
       rw[e2]at h1;cases h1;unfold jB dS at h2;cases e3:(Y[i]?).bind id with
       |none=>rw[e3]at h2;cases h2
       | some u=>
         rw[e3]at h2;simp only[ah]at h2;cases e4:dS (λi=>(Y[i]?).bind id) is' with
         |none=>rw[e4]at h2;cases h2
         | some cs'=>
           rw[e4]at h2;cases h2;obtain⟨cv,r1,r2⟩:=yR S I er (λz hz=>hf z (aD _ hz)) e2 (show jB is' Y=some cs' from e4);have X0:Y[i]?=some (some u):=by
            cases q:Y[i]? with
            |none=>rw[q]at e3;cases e3
            | some o=>rw[q]at e3;cases o with
              |none=>cases e3
              |some w=>cases e3;rfl
           obtain⟨v,X3,rv⟩:=er.get i u X0;obtain⟨hi,hy,_⟩:=fv.mp e1;have hN:X.N[i]?=some y:=by rw[S.hN,aF hi,eq_of_beq hy]
           obtain⟨m,hn,hl⟩:=I.loc;have hcl:=(S.cel y (hf y a7).1).1;obtain⟨w,rw',l⟩:=hl i y v hN X3 (.inr (.inl hcl));rcases l with⟨hk,_⟩|⟨_,c,hc,o,ho,hd⟩
           .have hk':X.env.scope.names.lookup y=some .local:=hk
            rw[hcl]at hk';cases hk'
           .refine⟨v::cv,.cons rv r1,⟨c,o,w,E7 (hf y a7).2 hc,?_,hd,rw'⟩,r2⟩
            exact fk ho (I.freeC y c hc) (vj S I (hf y a7).1 hc)
variable{F:Addr->MF->MF}{is:List Nat}
theorem Kv{f0:Addr}{fd0:FuncData}{gps fs:List Str}{k' j:Nat}{ml:ME}{ctv:Value}{c':Addr}{t:Tok}
  {μ:List Addr}{S1 S':Sto}{Y:Rho}{x u:U}{cs:List U}{v1:V}{u1:Value}{Q:VK}
  (S:Sc M X k N ns) (hB:gh M.mg M.base) (hj:k'<=j+1) (hk:j+2<=k) (hbd:Binds M.K fd0 gps [])
  (FF:∀(caps:List U) (capv:List V) (cds:List 1#9) (base:Heap) (g:Addr) (j:Nat) (lps:List Str) (φ:MF),gh M.mg base->k'<=j->Lam 7#2 g j lps φ->jA M.P M.w M.K M.mg base CX0 (j+1) f0 fd0 gps (spM 11#4 (F g φ)))
  (hps:uH params=some ps) (LS:jj ps fs scope) (hfs:∀y∈fs,ns.lookup y=some .cell/\(y,aZ)∈scope.names) (his:dS 16#7 fs=some is)
  (hb:∀(caps:List U) (capv:List V) (cds:List 1#9) (base:Heap),gh M.mg base->∀(X':Cx),Sc 7#2 X' j (ps++fs) scope.names->PE X' body (tM 11#4 ml))
  (I:Inv X pins G H s) (hr:HR M.K μ S1 H) (er:ER H μ Y G) (hcs:jB is Y=some cs) (spec:F f (mZ ps.length ml cs) [x,.obj f] S1=some (u,S')) (rx:RU H μ x v1) (ru:RelV v1 u1) (aft:Aft M.K μ H u S' Q)
  (hf:s.heap.get? f=some (kla_obj "<lambda>" qual params body scope 12#5 pm c' ctv)) (hfn:H f=none) (hff:f∉frs X.stack) (hc:H c'=some (.frz oc fz)) (hoc:oc.data=.fields ws) (hq:ws[1]?=some (.str qual t)) :
  aV 1#2 X.A (call (.ref f0) [u1,.ref f]) 6#8 X.xe s:=by
 obtain⟨cv,rc,C⟩:=yR S I er hfs his hcs;have hB':gh M.mg 11#1:=hB.keeps λa o e=>wa I a o (by rw[S.hb];exact e);have lam:Lam (M.to cs cv 12#9 11#1) f (j+1) ps (mZ ps.length ml cs):=by
  refine⟨_,.inl ⟨_,_,_,fk hf hfn hff⟩,Ei hps (ju.mp LS.nd).1,?_⟩;refine Ib (M:=M.to cs cv 12#9 11#1) rfl (fk hf hfn hff) (aY _ a7) hoc hq LS C (λy c e=>?_) (λy z c e1 e2=>I.ok.inj y z c (iq e1).1 (iq e2).1) (hb _ _ _ _ hB');obtain⟨e1,e2⟩:=iq e;obtain⟨v,o,ho,hd⟩:=I.cell y c e1;exact⟨o,v,fk ho (I.freeC y c e1) (vj S I (hfs y (LS.fre _ e2 rfl)).1 e1),hd⟩
 have FO:=FF _ _ _ _ f (j+1) ps _ hB' hj lam;rw[<-S.hP,<-S.hw,<-S.hK,<-S.hm]at FO
 have hr':HR (M.K.to cs cv 12#9) μ S1 H:=⟨hr.len,hr.inj,hr.cell,rc,λq hq=>by
  rcases be.mp hq with z|z
  .exact hr.ext.cds q z
  .have e:q=(c',oc):=by simpa using z
   rw[e];exact hc,hr.ext.tab⟩
 have hsp:spM (M.K.to cs cv 12#9) (F f (mZ ps.length ml cs)) [v1,.ref f] H Q E0:=by
  refine⟨μ,S1,[x,.obj f],u,S',hr',.cons rx (.cons (by simp only[RU]) .nil),spec,λY4 v H' p' k' hr2 ru2=>?_⟩;refine aft Y4 v H' p' k' ⟨hr2.len,hr2.inj,hr2.cell,RUs.mono k' p' _ _ hr.ext.cap,λq hq=>hr2.ext.cds q (bg _ hq),hr2.ext.tab⟩ ru2
 have hl:([u1,bx f]++[]).length=gps.length:=by have:=FO.len _ _ _ _ hsp;simpa using this
 rw[<-S.hK]at hbd;refine Jp (iL (FO.run X.A X.stack s H ⟨[u1,.ref f],[]⟩ [u1,.ref f] [v1,.ref f] Q E0 13#3 (xG I) (hbd s _ I.kIn hl) (.cons ru (.cons rfl .nil)) hsp) λr s' hq=>?_);cases r with
 |error e=>exact hq.elim
 | ok fl=>
   cases fl with
   |ret u=>exact I.after hq
   |next=>exact bT hq
   |brk=>exact bT hq
   |cont=>exact bT hq
theorem LV{gps fs:List Str}{k' j:Nat}{ml ma:ME}{g q:Str}{P:Addr}{a:Expr}{p1 lp pos:Pos}
  (S:Sc M X k N ns) (FC:FnC M g k' gps F) (hj:k'<=j+1) (hk:j+2<=k) (hmk:M.mkr=some (c,q)) (MK:Mkr M c P (q++"<lambda>"))
  (hg:d7 ns g=true) (hgd:(g==("__debug__":Str))=false) (ha:PE X a 2#9) (hs:starEach [a,.Lambda params body scope lp] X.env=19#2::starEach [.Lambda params body scope lp] X.env)
  (hps:uH params=some ps) (LS:jj ps fs scope) (hfs:∀y∈fs,ns.lookup y=some .cell/\(y,aZ)∈scope.names) (his:dS 16#7 fs=some is)
  (hb:∀(caps:List U) (capv:List V) (cds:List 1#9) (base:Heap),gh M.mg base->∀(X':Cx),Sc 7#2 X' j (ps++fs) scope.names->PE X' body (tM 11#4 ml)):
  PE X (.Call (.Name g p1) [a,.Lambda params body scope lp] [] pos) (tM M.K (kX F ps.length is ml ma)):=by
 intro pins s G H Q I h;obtain⟨μ,S0,Y,u,S',hr,er,qm,aft⟩:=h;unfold kX at qm;obtain⟨x,S1,e1,qm⟩:=ba qm;cases hcs:jB is Y with
 |none=>rw[hcs]at qm;cases qm
 |some cs=>
 rw[hcs]at qm;simp only[ah]at qm
 split at qm
 rotate_left
 .cases qm
 rename_i hx
 have spec:∀f,F f (mZ ps.length ml cs) [x,.obj f] S1=some (u,S'):=λf=>(hx.choose_spec f).trans qm;obtain⟨f0,fd0,hm,hkp,hbd,FF⟩:=FC.ex;rw[<-S.hK]at hkp;refine d4 (kK I 4#3 5#7 ?_ hgd);refine ly (h₀:=X.base) I.ok.mod.kin hkp ?_ hs rfl;rw[hs];show aV _ _ (spliced (19#2::backTo pos (starEach [.Lambda params body scope lp] X.env))) _ _ s;refine eA (thn (ha pins s G H (λv H1=>∃Y0,Pre μ Y0/\bq H H1/\HR M.K Y0 S1 H1/\RU H1 Y0 x v) I ⟨μ,S0,Y,x,S1,hr,er,e1,λY4 v H' p k hr' ru=>⟨Y4,p,k,hr',ru⟩⟩) λu1 s1 ⟨v1,H1,I1,r1,Y0,pr1,kp1,hr1,rx1⟩=>?_);obtain⟨hcode,hqual⟩:=S.cod c q hmk;obtain⟨ps0,hP,tr,al⟩:=hr1.ext.tab _ MK.mem;have hPh:s1.heap.get? P=some (tabObj ps0):=I1.hok P _ hP;have kin:M.K.K.In s1.heap:=by have:=I1.kIn;rwa[S.hK]at this
 have C:CodeHd s1.heap c P:=MK.hd _ kin;have hgl:s1.heap.Ns mainGlobals X.mg:=I1.mod.glob.keeps I1.bk;obtain⟨bm,ob,b1,b2,b5,b6,b7,b8⟩:=MK.bl;have b5':s1.heap.get? bm=some ob:=I1.bk bm ob (by rw[S.hb];exact b5);have b3:bm≠mainGlobals:=λz=>by
  obtain⟨o,es,ep,e,hd,_⟩:=hgl;rw[<-z,b5']at e;cases e;rw[b8]at hd;cases hd
 have b4:bm≠P:=λz=>by
  rw[z,hPh]at b5';cases b5';cases b8
 have BA:s1.heap.BuiltinsAt X.mg P:=⟨bm,ob,by rw[S.hm];exact b1,b2,b3,b4,b5',b6,b7,b8⟩;have hclo:closureFor scope X.env=pure 12#5:=vO λy hy hyf=>I.ok.has y.1 (.inl (S.cel y.1 (hfs y.1 (LS.fre y hy hyf)).1).1);show aV _ _ (spliced [(false,eval (.Lambda params body scope lp) X.env)]) _ _ s1;refine eA (PySem.W.kla_eval (F6 hps _) ?_);have fin:∀(H2:Hp) (s2:Shared) (c' f:Addr) (ctv:Value) (oc:Obj) (ws:Array Value) (t:Tok),Inv X pins G H2 s2->bq H1 H2->HR M.K Y0 S1 H2 ->
   s2.heap.get? f=some (kla_obj "<lambda>" 19#9 params body scope 12#5 19#5 c' ctv)->H2 f=none->s1.heap.objs.size<=f->H2 c'=some (.frz oc fz)->oc.data=.fields ws->ws[1]?=some (.str (q++"<lambda>") t) ->
   aV 1#2 X.A (spliced []) (λvs s₂=>X.K.In s₂.heap/\aV 1#2 X.A (call (.ref f0) ([]++(u1::bx f::vs))) 6#8 X.xe s₂) X.xe s2:=by
  intro H2 s2 c' f ctv oc ws t I2 kp2 hr2 hf hfn hfs' hc hoc hq;have hff:f∉frs X.stack:=λz=>by
   obtain⟨_,o,ho,_⟩:=I1.stack.mem z;exact absurd (aj (aK ho) hfs') (bO _)
  rw[<-hqual]at hq;exact gU ⟨I2.kIn,Kv S MK.bl hj hk hbd FF hps LS hfs his hb I2 hr2 (er.mono (kp1.trans kp2) pr1) hcs (spec f) (RU.mono kp2 1#6 _ _ rx1) r1 (aft.mono pr1 (kp1.trans kp2)) hf hfn hff hc hoc hq⟩
 cases ham:codeAmong lp ps0.toList with
 | none=>
   refine Ba (mg:=X.mg) hclo I1.ok.glob hgl hcode C hPh tr ham MK.gP BA λc' ctv h' tk hx hge hlt hrec htb=>?_;obtain⟨c2,oc,ws,t,e,hoc,hd,hq'⟩:=hrec;cases e;have I2:=yf (ob:=kla_obj "<lambda>" 19#9 params body scope 12#5 19#5 c' ctv) (tk:=tk) I1 hP hx hge hoc htb;rw[hqual]at hq';obtain⟨kp2,hr2⟩:=hr1.table (a:=(lp.line:Int)) (b:=(lp.col:Int)) hP (I1.hok.fresh hge) hd hq' MK.un;have hsz:s1.heap.objs.size<=h'.objs.size:=aC hge (aT hlt);refine fin _ _ c' h'.objs.size ctv oc ws t I2 kp2 hr2 (aL _ rfl) ?_ hsz ?_ hd hq'
   .rw[bo (cN (aK htb)),bo (cN hlt)]
    exact I1.hok.fresh hsz
   .rw[bo (bf hP (I1.hok.fresh hge)).symm,cz]
 | some cv=>
   obtain⟨c',oc,ws,t,rfl,hfr,hd,hq'⟩:=al lp cv ham;refine yp (mg:=X.mg) hclo I1.ok.glob hgl hcode C hPh tr ham BA λctv h' tk hk hsz=>?_;have I2:=I1.kept (t':=tk) (h':=h'.push (kla_obj "<lambda>" 19#9 params body scope 12#5 19#5 c' ctv)) (fun b o e=>aw _ (hk b o e));exact fin H1 _ c' h'.objs.size ctv oc ws t I2 7#8 hr1 (aL _ rfl) (I1.hok.fresh hsz) hsz hfr hd hq'
end
end _G
namespace _G
open PySem PySem.Spec _L
open PyProof.Rows hiding St
def Trc(e T:Addr)(cls:Value)(h:Heap):Prop:= ∃(oe:Obj) (vs:Array Value) (a0:Value) (oT:Obj) (ts:Array Value),h.get? e=some oe/\(oe.cls=cls/\vs[0]?=some a0)/\oe.data=.fields vs/\vs[1]?=some (.ref T)/\T≠e/\h.get? T=some oT/\oT.data=.fields ts/\ts[3]?=some .none
def CX1(P:Program)(w:World):CXT:=λouter H s E ev s'=>∃(e T:Addr) (cls:Value) (H':Hp),ev=.ref e/\s'.os=s.os/\AllBare s'.gens/\Un (frs outer) [] H H' s.heap s'.heap/\HOk P w H' s'.heap/\Trc e T cls s'.heap/\s.heap.get? e=none/\s.heap.get? T=none/\H' e=none/\H' T=none/\E cls none H'
variable{h:Heap}{e:Addr}
theorem Trc.of{base:Heap}{cls a0:Value}(t:h.TracedW base e cls a0):∃T,Trc e T cls h/\base.get? T=none:=by
 obtain⟨oe,vs,T,oT,ts,h1,h2,h3,h4,h5,h6,h7,h8,h9⟩:=t;exact⟨T,⟨oe,vs,a0,oT,ts,h1,h2,h3,h4,h6,h7,h8,h9⟩,h5⟩
variable{T:Addr}
theorem Trc.to{base:Heap}{cls:Value}(t:Trc e T cls h)(hT:base.get? T=none):∃a0,h.TracedW base e cls a0:=by
 obtain⟨oe,vs,a0,oT,ts,h1,h2,h3,h4,h6,h7,h8,h9⟩:=t;exact⟨a0,oe,vs,T,oT,ts,h1,h2,h3,h4,hT,h6,h7,h8,h9⟩
variable{P:Program}{w:World}{H:Hp}{a:Addr}
theorem eI.has{o:HO}(x:eI P w H h a o):∃u,h.get? a=some u:=by
 cases o with
 |lst xs=>obtain⟨_,_,_,_,e⟩:=x;exact⟨_,e⟩
 |tup xs=>obtain⟨_,_,_,_,o,e,_⟩:=x;exact⟨_,e⟩
 |dK kvs=>obtain⟨_,_,_,_,o,_,_,e,_⟩:=x;exact⟨_,e⟩
 |dT kvs=>obtain⟨_,_,_,_,o,_,_,e,_⟩:=x;exact⟨_,e⟩
 |set S n=>obtain⟨o,_,_,_,e,_⟩:=x;exact⟨_,e⟩
 |ins C dx fs=>obtain⟨_,_,_,e,_⟩:=x;exact⟨_,e⟩
 |own y=>obtain⟨_,e⟩:=x;exact⟨_,e⟩
 |xd fs=>obtain⟨_,⟨_,_,_,e,_⟩,_⟩:=x;exact⟨_,e⟩
 |rng lo hi=>obtain⟨_,_,_,e⟩:=x;exact⟨_,e⟩
 |frz ob u=>obtain⟨e,_⟩:=x;exact⟨_,e⟩
 |tbl ps=>exact⟨_,27#5⟩
 |met f y=>exact⟨_,27#5⟩
 |ext φ=>obtain⟨_,e,_⟩:=x;exact e
theorem HOk.none_of(x:HOk P w H h)(e:h.get? a=none):H a=none:=by
 cases q:H a with
 |none=>rfl
 | some o=>
   obtain⟨u,hu⟩:=eI.has (x a o q);rw[e]at hu;cases hu
theorem sJ{h g base:Heap}{S:List Addr}:∀{l:List Env},(∀b∈frs l,b∈S)->h.FunFrames base l->h.FunFrames (cH g S) l
 |[],_,_=>trivial
 | env::r,hs,⟨hk,⟨L,o,hf,hn,ho,hd⟩,hr⟩=>by
   have hL:L∈S:=hs L (by unfold frs;rw[eX,hf];exact a7);exact⟨hk,⟨L,o,hf,gY _ hL,ho,hd⟩,sJ (λb hb=>hs b 33#6) hr⟩
structure Left(fs:List Addr)(e T:Addr)(h h':Heap):Prop where
 keep:∀b o,b∉fs->b≠e->b≠T->h.get? b=some o->h'.get? b=some o
 slot:∀b o,b∈fs->h.get? b=some o->∃sl,h'.get? b=some { o with slots:=sl }
variable{h2:Heap}
theorem Left.un{fs:List Addr}{H':Hp}{h1:Heap}(l:Left fs e T h1 h2)(u:Un fs [] H H' h h1)(he:h.get? e=none)(hT:h.get? T=none):Un fs [] H H' h h2 where
 keep:=λb o q n hb hx=>l.keep b o hb (λz=>by rw[z,he]at q;cases q) (λz=>by rw[z,hT]at q;cases q) (u.keep b o q n hb hx)
 slot:=λb o q n hb hx=>by
  obtain⟨sl,e1⟩:=u.slot b o q n hb hx;obtain⟨sl',e2⟩:=l.slot b _ hb e1;exact⟨sl',e2⟩
 free:=λb o q n hx=>u.free b o q n hx
 there:=λb o q hx=>by
  obtain⟨o',e1⟩:=u.there b o q hx;by_cases hb:b∈fs
  .obtain⟨sl,e2⟩:=l.slot b _ hb e1
   exact⟨_,e2⟩
  .exact⟨o',l.keep b o' hb (λz=>by rw[z,he]at q;cases q) (λz=>by rw[z,hT]at q;cases q) e1⟩
 tups:=u.tups
 frzs:=u.frzs
 tbls:=u.tbls
theorem Left.hok{fs:List Addr}{h':Heap}(l:Left fs e T h h')(x:HOk P w H h)(hf:∀b∈fs,H b=none)(he:H e=none)(hT:H T=none):HOk P w H h':=λa o q=>by
 refine(x a o q).stay (λb u hb e1=>?_) (λ_ z=>z) λ_ _ z=>z;have key:∃o,H b=some o:=by
  rcases hb with rfl|z
  .exact⟨_,q⟩
  .exact⟨_,z⟩
 obtain⟨ob,key⟩:=key;exact l.keep b u (λz=>by rw[hf b z]at key;cases key) (λz=>by rw[z,he]at key;cases key) (λz=>by rw[z,hT]at key;cases key) e1
section
variable {X:Cx}{pins:List (Addr×Obj)}{G:St}{H H':Hp}{s s':Shared}
theorem flying{cls:Value}(I:Inv X pins G H' s')(t:Trc e T cls s'.heap):∃a0,o8 (cH s'.heap 15#6) X.stack e cls a0 s'.heap:=by
 obtain⟨a0,z⟩:=t.to (base:=cH s'.heap 15#6) (gY _ (aD _ a7));exact⟨a0,λb o q=>lu _ q,gY _ a7,sJ (λb hb=>aD _ (aD _ hb)) I.stack,z⟩
theorem yT(I:Inv X pins G H' s')(k:(cH s'.heap 15#6).StaysIn h2)(sl:s'.heap.UpToSlots h2):Left 10#8 e T s'.heap h2:=by
 refine⟨λb o hb he hT q=>k b o (fJ _ q λz=>?_),λb o hb q=>?_⟩
 .rcases a9.mp z with z|z
  .exact he z
  .rcases a9.mp z with z|z
   .exact hT z
   .exact hb z
 .obtain⟨_,o',ho,hd⟩:=I.stack.mem hb
  rw[q]at ho;cases ho;exact sl b o q hd
theorem Kg{T2:Addr}{cls:Value}(I:Inv X pins G H' s')(t2:Trc e T2 cls h2)(hn:(cH s'.heap 15#6).get? T2=none)(sl:s'.heap.UpToSlots h2):T2=T\/s'.heap.get? T2=none:=by
 cases q:s'.heap.get? T2 with
 |none=>exact .inr rfl
 | some o=>
   left;obtain⟨oe,vs,a0,oT,ts,h1,h2',h3,h4,h6,h7,h8,h9⟩:=t2;by_cases hm:T2∈e::T::frs X.stack
   .rcases a9.mp hm with z|z
    .exact absurd z h6
    .rcases a9.mp z with z|z
     .exact z
     .obtain⟨_,o',ho,hd⟩:=I.stack.mem z
      obtain⟨sl',e2⟩:=sl T2 o' ho hd;rw[h7]at e2;cases e2;exact absurd h8 (hd ts)
   .rw[fJ _ q hm]at hn;cases hn
variable{E:XK}
theorem Gv{cls:Value}(hex:X.ex=[])(I:Inv X pins G H s)(os:s'.os=s.os)(hg:AllBare s'.gens)(un:Un 10#8 [] H H' s.heap s'.heap)(hok:HOk X.prog X.w H' s'.heap)(t:Trc e T cls s'.heap)(he:s.heap.get? e=none)(hT:s.heap.get? T=none)(ne:H' e=none)(nT:H' T=none)(q:E cls none H'):
  CX1 X.prog X.w X.outer X.H₀ X.s₀ E (.ref e) s':=by
 have I2:Inv X pins G H' s':=I.call' os un hok hg λb z=>nomatch z
 have old:∀a,s.heap.get? a=none->X.s₀.heap.get? a=none:=λa ha=>by
  cases q:X.s₀.heap.get? a with
  |none=>rfl
  | some o=>
    obtain⟨o',e1⟩:=I.base.there a o q (by rw[hex];simp);rw[ha]at e1;cases e1
 have b:=I2.base;rw[hex]at b;exact⟨e,T,cls,H',rfl,os.trans I.os,hg,b,hok,t,old e he,old T hT,ne,nT,q⟩
structure Lv(X:Cx)(E:XK):Prop where
 stk:X.stack=X.env::X.outer
 fr:X.env.frame=some X.env.locals
 ex:X.ex=[]
 xe:X.xe=λe s'=>aV (model X.prog X.w) X.A (leaving X.env e) (λ_ s''=>CX1 X.prog X.w X.outer X.H₀ X.s₀ E e s'') (λe' s''=>CX1 X.prog X.w X.outer X.H₀ X.s₀ E e' s'') s'
theorem Lv.pass(L:Lv X E):uQ (CX1 X.prog X.w) X E:=by
 rintro pins G H s ev s' I ⟨e,T,cls,H',rfl,os,hg,un,hok,t,he,hT,ne,nT,q⟩;have I1:Inv X pins G H' s':=I.call' os un hok hg λb z=>nomatch z
 rw[L.xe];obtain⟨a0,fl⟩:=flying I1 t;have fl':=fl;rw[show o8 (cH s'.heap 15#6) X.stack e cls a0 s'.heap=o8 (cH s'.heap 15#6) (X.env::X.outer) e cls a0 s'.heap by rw[<-L.stk]]at fl';refine wpAny_leaves_onW (by rw[I.ok.frames,L.stk]) L.fr fl' λh2 fl2 sl=>?_;obtain⟨f1,f2,f3,f4⟩:=fl2;obtain⟨T2,t2,hn2⟩:=Trc.of f4;have lf:=yT I1 f1 sl;have new:=Kg I1 t2 hn2 sl;refine Gv (s':={ s' with heap:=h2 }) L.ex I os hg (lf.un un he hT) (lf.hok hok I1.stkFree ne nT) t2 he ?_ ne ?_ q
 .rcases new with z|z
  .rw[z];exact hT
  .cases q:s.heap.get? T2 with
   |none=>rfl
   | some o=>
     obtain⟨o',e1⟩:=un.there T2 o q 0#8;rw[z]at e1;cases e1
 .rcases new with z|z
  .rw[z];exact nT
  .exact HOk.none_of hok z
theorem Lv.made{C:Addr}{args:List Value}{h1:Heap}(L:Lv X E)(I:Inv X pins G H s)(hx:Heap.MadeExcOf s.heap h1 e 6#6 args)(q:E 6#6 none H):X.xe (.ref e) { s with heap:=h1 }:=by
 rw[L.xe];have fs:s.heap.FunFrames (cH s.heap 10#8) (X.env::X.outer):=by
  have:=sJ (g:=s.heap) (S:=frs X.stack) (λb hb=>hb) I.stack;rwa[show s.heap.FunFrames (cH s.heap 10#8) X.stack=s.heap.FunFrames (cH s.heap 10#8) (X.env::X.outer) by rw[<-L.stk]]at this
 refine wpAny_leaves_madeW (s:={ s with heap:=h1 }) (base:=cH s.heap 10#8) (h:=s.heap) (by rw[I.ok.frames,L.stk]) L.fr (λb o q=>lu _ q) fs hx λh2 t fl2 _ _ sl=>?_;obtain⟨f1,f2,f3,f4⟩:=fl2;obtain⟨T2,t2,hn2⟩:=Trc.of f4;have sl':s.heap.UpToSlots h2:=λb o q nf=>sl b o (hx.keeps b o q) nf;have slt:∀b o,b∈frs X.stack->s.heap.get? b=some o->∃sl,h2.get? b=some { o with slots:=sl }:=λb o hb q=>by
  obtain⟨_,o',ho,hd⟩:=I.stack.mem hb;rw[q]at ho;cases ho;exact sl' b o q hd
 have lf:Left 10#8 e e s.heap h2:=⟨λb o hb _ _ q=>f1 b o (fJ _ q hb),slt⟩;have ne:H e=none:=HOk.none_of I.hok hx.new;have hT:s.heap.get? T2=none:=by
  cases q:s.heap.get? T2 with
  |none=>rfl
  | some o=>
    by_cases hm:T2∈frs X.stack
    .obtain⟨_,o',ho,hd⟩:=I.stack.mem hm
     obtain⟨sl'',e2⟩:=sl' T2 o' ho hd;obtain⟨oe,vs,a0,oT,ts,h1,h2',h3,h4,h6,h7,h8,h9⟩:=t2;rw[h7]at e2;cases e2;exact absurd h8 (hd ts)
    .rw[fJ _ q hm]at hn2;cases hn2
 exact Gv (s':={ s with heap:=h2 }) L.ex I rfl I.bare (lf.un Un.refl hx.new hx.new) (lf.hok I.hok I.stkFree ne ne) t2 hx.new hT ne (HOk.none_of I.hok hT) q
end
end _G
namespace _G
open PySem PySem.Spec _L
open PySem.W (envX kla_fn kla_obj CodeHd tabObj)
open PyProof.Rows hiding St
abbrev MX:=Rho->Sto->Option (Nat×Sto)
abbrev RF:=List U->Sto->Option (Nat×Sto)
def xFn(r:RF)(a:MA):MX:=λY S=>bnd 5#6 λus S1=>r us S1
def xML(o:ME)(r:MX):MX:=λY S=>bnd (o Y S) λp S1=>match p with
 |.ref n=>(getL S1 n).bind λ_=>r Y S1
 |_=>none
def yB(np:Nat)(r:MX)(cs:List U):RF:=λus S=>if us.length=np then r (us.map some++cs.map some) S else none
def kL(b:Nat->Bool)(is:List Nat):Cell:= .lst (is.map λi=>.bl (b i))
def ir(b:Nat->Bool):Sto:= [kL b [0,1,2],kL b [3,4,5],kL b [0,1,2,3,4,5,6]]
def bQ(q:Nat)(j:Nat):Bool:=decide (q=j)||decide (j=7)
def Er(rz:List Nat)(φ:MF)(ψ:RF)(S:Sto):Res U:=match φ [] S with
 |some r=>some (.non,r.2++ir λ_=>false)
 | none=>match ψ [] S with
   |some r=>if r.1∈rz then some (.ref (r.2.length+3),r.2++(ir (bQ r.1)++[.lst [.int r.1]])) else none
   |none=>none
def E3(rz:List Nat)(g:Addr)(φ:MF)(ψ:RF):MF:=λus S=>match us with
 |[.obj a]=>if a=g then Er rz φ ψ S else none
 |_=>none
def kh(rz:List Nat)(is:List Nat)(ml:ME)(rl:MX):ME:=λY S=>(jB is Y).bind λcs=>Er rz (mZ 0 ml cs) (yB 0 rl cs) S
def IL(cl:Nat->Addr)(K:KX)(μ:List Addr)(H:Hp)(C:Nat)(S':Sto)(E:XK):Prop:= ∀Y4 H',Pre μ Y4->bq H H'->HR K Y4 S' H'->E (.ref (cl C)) none H'
def tX(cl:Nat->Addr)(K:KX)(r:MX)(E:XK)(G:St)(H:Hp):Prop:= ∃μ S Y C S',HR K μ S H/\ER H μ Y G/\r Y S=some (C,S')/\IL cl K μ H C S' E
def tXE(cl:Nat->Addr)(K:KX)(r:MX)(E:XK):TE:=λG H _=>tX cl K r E G H
def tXA(cl:Nat->Addr)(K:KX)(r:MX)(E:XK):TA:=λG H _=>tX cl K r E G H
def tXS(cl:Nat->Addr)(K:KX)(r:MX)(E:XK):TS:=λ_ G H=>tX cl K r E G H
def spX(cl:Nat->Addr)(K:KX)(r:RF):Sp:=λvs H _ E=>∃μ S us C S',HR K μ S H/\RUs H μ us vs/\r us S=some (C,S')/\IL cl K μ H C S' E
variable{cl:Nat->Addr}{μ:List Addr}
theorem IL.mono{K:KX}{Y0:List Addr}{H H1:Hp}{C:Nat}{S':Sto}{E:XK}(a:IL cl K μ H C S' E)(p:Pre μ Y0)(k:bq H H1):IL cl K Y0 H1 C S' E:=λY4 H' p' k'=>a Y4 H' (p.trans p') (k.trans k')
abbrev vE:List Value := [.type "ValueError",.type "Exception",.type "BaseException",.type "object"]
structure FnX(M:Mo)(cl:Nat->Addr)(x:Str)(k:Nat)(ps:List Str)(r:RF):Prop where
 ex:∃(f:Addr) (fd:FuncData),M.mg x=some (.ref f)/\dq M.K (.ref f)=true/\Binds M.K fd ps []/\jA M.P M.w M.K M.mg M.base (CX1 M.P M.w) k f fd ps (spX cl M.K r)
variable{X:Cx}
theorem _root_._L.PA.nox{es:List Expr}{t:TA}(h:PA X.nox es t):PA X es t:=λpos pins s G H Q I hw=>
 cj (h pos pins s G H Q (I.wish _) hw) (λus s' ⟨vs,H',J,r,q⟩=>⟨vs,H',J.unwish,r,q⟩) λ_ _ z=>z.elim
theorem _root_._L.PS.nox{st:Stmt}{t:TS}(h:PS X.nox st t):PS X st t:=λpins s G H D I hw=>
 cj (h pins s G H D (I.wish _) hw) (λf s' hs=>SP.unwish hs) λ_ _ z=>z.elim
theorem PE.never{e:Expr}:PE X e λ_ _ _=>False:=λ_ _ _ _ _ _ h=>h.elim
theorem PSs.never{e:List Stmt}:PSs X e λ_ _ _=>False:=λ_ _ _ _ _ _ h=>h.elim
structure Az(M:Mo)(cl:Nat->Addr)(f:Addr)(k:Nat)(ps:List Str)(r:RF):Prop where
 ex:∃fd:FuncData,((∃(oc:Value) (od:Option Addr) (sl:Array (Option Value)),M.base.get? f=some ⟨oc,od,.func fd,sl⟩)\/dq M.K (.ref f)=true)/\Binds M.K fd ps []/\jA M.P M.w M.K M.mg M.base (CX1 M.P M.w) k f fd ps (spX cl M.K r)
variable{qual:Str}{body:Expr}{scope:Scope}{pm:Value}{oc:Obj}{ws:Array Value}
theorem KZ{M:Mo}(h0:M.mkr=none){name:Str}{params:Arguments}{cl':List (Str×Addr)}{ctv:Value}{c f:Addr}{t:Tok}{ps fs:List Str}{k:Nat}{ml:MX}{od:Option Addr}{fc:Value}{fsl:Array (Option Value)}
  (hf:M.base.get? f=some ⟨fc,od,.func (kla_fn name qual params body scope cl' pm (.ref c) ctv),fsl⟩) (hc:(c,oc)∈M.K.cds) (hoc:oc.data=.fields ws) (hq:ws[1]?=some (.str qual t))
  (S:jj ps fs scope) (C:nI M.base cl' fs M.K.capv) (hcl:∀y c,cl'.lookup y=some c->∃o v,M.base.get? c=some o/\o.data=.cell v) (inj:∀x y c,cl'.lookup x=some c->cl'.lookup y=some c->x=y)
  (hb:∀X E,Lv X E->Sc M X.nox k (ps++fs) scope.names->PE X body (tXE cl M.K ml E)):
  jA M.P M.w M.K M.mg M.base (CX1 M.P M.w) (k+1) f (kla_fn name qual params body scope cl' pm (.ref c) ctv) ps (spX cl M.K (yB ps.length ml M.K.caps)):=by
 have len:∀vs H Q E,spX cl M.K (yB ps.length ml M.K.caps) vs H Q E->vs.length=ps.length:=λvs H Q E h=>by
  obtain⟨μ,S',us,u,S'',hr,rs,e,_⟩:=h;unfold yB at e
  split at e
  .rename_i hl;rw[<-rs.len];exact hl
  .cases e
 refine⟨len,λA outer s H args us vs Q E hr e0 hbd r hsp=>?_⟩;have hl:=len _ _ _ _ hsp;obtain⟨μ,S1,zs,u,S2,hR,rs,e,ka⟩:=hsp;have hco:s.heap.get? c=some oc:=(e0.hok c _ (hR.ext.cds _ hc)).1;have lim:s.heap.NoLimit:=e0.mod.nolimit.keeps λb o e=>(e0.bs b o e).1;refine FA hr.depth (e0.bs f _ hf).1 rfl S.co S.gen rfl ⟨c,oc,ws,t,rfl,hco,hoc,hq⟩ (hbd _ _ _ _ ?_);refine Dz S.kind (λx hx=>S.par _ (kS hx).1) λs1 x=>⟨lim.keeps x.toInCall.keep,?_⟩;show o5 _ _ (.expr body 31#7) _ _;have I:=Dy (qual:=qual) (f:=f) (cd:= .ref c) S hr.hd e0 hl r C hcl inj x;have SS:Sc M (Ao M.P M.w M.K M.mg M.base (ps++fs) qual scope f (.ref c) cl' A outer s H) k (ps++fs) scope.names:=
  ⟨rfl,rfl,rfl,rfl,rfl,rfl,S.nd,rfl,λ_ h=>h,λy h=>⟨h,by show 27#0=true;rw[h];rfl⟩,λ_ h=>.inr h,λ_ h=>h,hr.deeper _,mU,λc q h=>by rw[h0]at h;cases h⟩
 unfold yB at e
 split at e
 rotate_left
 .cases e
 have er:ER H μ (zs.map some++M.K.caps.map some) (vs.map some++M.K.capv.map some):=by
  have all:=rs.append hR.ext.cap;refine⟨by simp[rs.len,hR.ext.cap.len],λi w hw=>?_⟩;rw[<-ck,bj]at hw;cases q:(zs++M.K.caps)[i]? with
  |none=>rw[q]at hw;cases hw
  | some w'=>
    rw[q]at hw;cases hw;obtain⟨v,hv,rv⟩:=all.get q;exact⟨v,by rw[<-ck,bj,hv];rfl,rv⟩
 let X1:Cx:=(Ao M.P M.w M.K M.mg M.base (ps++fs) qual scope f (.ref c) cl' A outer s H).wish λe s'=>aV (model M.P M.w) (A.deeper 31#7) (leaving 31#7 e) (λ_ s''=>CX1 M.P M.w outer H s E e s'') (λe' s''=>CX1 M.P M.w outer H s E e' s'') s'
 refine FB (cj (hb X1 E ⟨rfl,rfl,rfl,rfl⟩ SS [] _ _ H 14#4 (I.wish _) ⟨μ,S1,_,u,S2,hR,er,e,ka⟩) (λv s' hs=>?_) λe s' hs=>hs);obtain⟨x,H',J,rv,q⟩:=hs;exact q.elim
structure FnR(M:Mo)(cl:Nat->Addr)(x:Str)(k:Nat)(rz:List Nat):Prop where
 ex :∃ (f:Addr) (fd:FuncData),M.mg x=some (.ref f)/\dq M.K (.ref f)=true/\Binds M.K fd ["call"] [] /\
  ∀(caps:List U) (capv:List V) (cds:List (Addr×Obj)) (base:Heap) (g:Addr) (j:Nat) (φ:MF) (ψ:RF),gh M.mg base->k<=j->Lam (M.to caps capv cds base) g j [] φ->Az (M.to caps capv cds base) cl g j [] ψ ->
   jA M.P M.w M.K M.mg base CX0 (j+1) f fd ["call"] (spM (M.K.to caps capv cds) (E3 rz g φ ψ))
theorem Az.imp{M:Mo}{cl:Nat->Addr}{f:Addr}{k:Nat}{ps:List Str}{r r':RF}(L:Az M cl f k ps r)(h:∀us S q,r' us S=some q->r us S=some q):Az M cl f k ps r':=by
 obtain⟨fd,a,b,F⟩:=L.ex;refine⟨fd,a,b,F.imp λvs H Q E=>?_⟩;rintro ⟨μ,S,us,C,S',h1,h2,h3,h4⟩;exact⟨μ,S,us,C,S',h1,h2,h _ _ _ h3,h4⟩
def Aq:Arguments:=⟨[],[],none,[],[],none,[]⟩
theorem uX{K:ao}{name:Str}{cl:List (Str×Addr)}{cdv ct:Value}:Binds K (kla_fn name qual Aq body scope cl pm cdv ct) [] []:= .all λus hl=>by
 match us,hl with
 |[],_=>rfl
section
variable {M:Mo}{X:Cx}{k:Nat}{N:List Str}{ns:List (Str×NameKind)}{pins:List (Addr×Obj)}{G:St}{H:Hp}{s:Shared}{cl:Nat->Addr}{rz:List Nat}
variable{is:List Nat}{rl:MX}
theorem F3{f0:Addr}{fd0:FuncData}{fs:List Str}{k' j:Nat}{ml:ME}{ctv:Value}{c' f:Addr}{t:Tok}
  {S1 S':Sto}{Y:Rho}{u:U}{cs:List U}{Q:VK}
  (S:Sc M X k N ns) (hB:gh M.mg M.base) (hj:k'<=j+1) (hk:j+2<=k) (hbd:Binds M.K fd0 ["call"] [])
  (FF :∀ (caps:List U) (capv:List V) (cds:List 1#9) (base:Heap) (g:Addr) (j:Nat) (φ:MF) (ψ:RF),gh M.mg base->k'<=j->Lam 7#2 g j [] φ->Az 7#2 cl g j [] ψ->jA M.P M.w M.K M.mg base CX0 (j+1) f0 fd0 ["call"] (spM 11#4 (E3 rz g φ ψ)))
  (LS:jj [] fs scope) (hfs:∀y∈fs,ns.lookup y=some .cell/\(y,aZ)∈scope.names) (his:dS 16#7 fs=some is)
  (hb:∀(caps:List U) (capv:List V) (cds:List 1#9) (base:Heap),gh M.mg base->∀(X':Cx),Sc 7#2 X' j ([]++fs) scope.names->PE X' body (tM 11#4 ml))
  (hx:∀(caps:List U) (capv:List V) (cds:List 1#9) (base:Heap),gh M.mg base->∀(X':Cx) (E:XK),Lv X' E->Sc 7#2 X'.nox j ([]++fs) scope.names->PE X' body (tXE cl 11#4 rl E))
  (I:Inv X pins G H s) (hr:HR M.K μ S1 H) (er:ER H μ Y G) (hcs:jB is Y=some cs) (spec:Er rz (mZ 0 ml cs) (yB 0 rl cs) S1=some (u,S')) (aft:Aft M.K μ H u S' Q)
  (hf:s.heap.get? f=some (kla_obj "<lambda>" qual Aq body scope 12#5 pm c' ctv)) (hfn:H f=none) (hff:f∉frs X.stack) (hc:H c'=some (.frz oc fz)) (hoc:oc.data=.fields ws) (hq:ws[1]?=some (.str qual t)) :
  aV 1#2 X.A (call (.ref f0) [.ref f]) 6#8 X.xe s:=by
 obtain⟨cv,rc,C⟩:=yR S I er hfs his hcs;have hB':gh M.mg 11#1:=hB.keeps λa o e=>wa I a o (by rw[S.hb];exact e);have hcl:∀y c,(fq X.env.cells scope.names []).lookup y=some c->∃o v,(baseOf s.heap H 10#8).get? c=some o/\o.data=.cell v:=λy c e=>by
  obtain⟨e1,e2⟩:=iq e;obtain⟨v,o,ho,hd⟩:=I.cell y c e1;exact⟨o,v,fk ho (I.freeC y c e1) (vj S I (hfs y (LS.fre _ e2 rfl)).1 e1),hd⟩
 have inj:∀y z c,(fq X.env.cells scope.names []).lookup y=some c->(fq X.env.cells scope.names []).lookup z=some c->y=z:=λy z c e1 e2=>I.ok.inj y z c (iq e1).1 (iq e2).1;have lam:Lam (M.to cs cv 12#9 11#1) f (j+1) [] (mZ 0 ml cs):=
  ⟨_,.inl ⟨_,_,_,fk hf hfn hff⟩,uX,Ib (M:=M.to cs cv 12#9 11#1) rfl (fk hf hfn hff) (aY _ a7) hoc hq LS C hcl inj (hb _ _ _ _ hB')⟩
 have lamx:Az (M.to cs cv 12#9 11#1) cl f (j+1) [] (yB 0 rl cs):=
  ⟨_,.inl ⟨_,_,_,fk hf hfn hff⟩,uX,KZ (M:=M.to cs cv 12#9 11#1) rfl (fk hf hfn hff) (aY _ a7) hoc hq LS C hcl inj (hx _ _ _ _ hB')⟩
 have FO:=FF _ _ _ _ f (j+1) _ _ hB' hj lam lamx;rw[<-S.hP,<-S.hw,<-S.hK,<-S.hm]at FO
 have hr':HR (M.K.to cs cv 12#9) μ S1 H:=⟨hr.len,hr.inj,hr.cell,rc,λq hq=>by
  rcases be.mp hq with z|z
  .exact hr.ext.cds q z
  .have e:q=(c',oc):=by simpa using z
   rw[e];exact hc,hr.ext.tab⟩
 have hsp:spM (M.K.to cs cv 12#9) (E3 rz f (mZ 0 ml cs) (yB 0 rl cs)) [.ref f] H Q E0:=by
  refine⟨μ,S1,[.obj f],u,S',hr',.cons (by simp only[RU]) .nil,(if_pos rfl).trans spec,λY4 v H' p' k' hr2 ru2=>?_⟩;exact aft Y4 v H' p' k' ⟨hr2.len,hr2.inj,hr2.cell,RUs.mono k' p' _ _ hr.ext.cap,λq hq=>hr2.ext.cds q (bg _ hq),hr2.ext.tab⟩ ru2
 rw[<-S.hK]at hbd;refine Jp (iL (FO.run X.A X.stack s H ⟨[.ref f],[]⟩ [.ref f] [.ref f] Q E0 13#3 (xG I) (hbd s _ I.kIn rfl) (.cons rfl .nil) hsp) λr s' hq=>?_);cases r with
 |error e=>exact hq.elim
 | ok fl=>
   cases fl with
   |ret u=>exact I.after hq
   |next=>exact bT hq
   |brk=>exact bT hq
   |cont=>exact bT hq
theorem J4{fs:List Str}{k' j:Nat}{ml:ME}{g q:Str}{c P:Addr}{p1 lp pos:Pos}
  (S:Sc M X k N ns) (FC:FnR M cl g k' rz) (hj:k'<=j+1) (hk:j+2<=k) (hmk:M.mkr=some (c,q)) (MK:Mkr M c P (q++"<lambda>"))
  (hg:d7 ns g=true) (hgd:(g==("__debug__":Str))=false)
  (LS:jj [] fs scope) (hfs:∀y∈fs,ns.lookup y=some .cell/\(y,aZ)∈scope.names) (his:dS 16#7 fs=some is)
  (hb:∀(caps:List U) (capv:List V) (cds:List 1#9) (base:Heap),gh M.mg base->∀(X':Cx),Sc 7#2 X' j ([]++fs) scope.names->PE X' body (tM 11#4 ml))
  (hx:∀(caps:List U) (capv:List V) (cds:List 1#9) (base:Heap),gh M.mg base->∀(X':Cx) (E:XK),Lv X' E->Sc 7#2 X'.nox j ([]++fs) scope.names->PE X' body (tXE cl 11#4 rl E)):
  PE X (.Call (.Name g p1) [.Lambda Aq body scope lp] [] pos) (tM M.K (kh rz is ml rl)):=by
 intro pins s G H Q I h;obtain⟨μ,S1,Y,u,S',hr1,er,qm,aft⟩:=h;unfold kh at qm;cases hcs:jB is Y with
 |none=>rw[hcs]at qm;cases qm
 |some cs=>
 rw[hcs]at qm;simp only[ah]at qm;obtain⟨f0,fd0,hm,hkp,hbd,FF⟩:=FC.ex;rw[<-S.hK]at hkp;refine d4 (kK I 4#3 5#7 ?_ hgd);refine ly (h₀:=X.base) I.ok.mod.kin hkp ?_ rfl rfl;obtain⟨hcode,hqual⟩:=S.cod c q hmk;obtain⟨ps0,hP,tr,al⟩:=hr1.ext.tab _ MK.mem;have hPh:s.heap.get? P=some (tabObj ps0):=I.hok P _ hP;have kin:M.K.K.In s.heap:=by have:=I.kIn;rwa[S.hK]at this
 have C:CodeHd s.heap c P:=MK.hd _ kin;have hgl:s.heap.Ns mainGlobals X.mg:=I.mod.glob.keeps I.bk;obtain⟨bm,ob,b1,b2,b5,b6,b7,b8⟩:=MK.bl;have b5':s.heap.get? bm=some ob:=I.bk bm ob (by rw[S.hb];exact b5);have b3:bm≠mainGlobals:=λz=>by
  obtain⟨o,es,ep,e,hd,_⟩:=hgl;rw[<-z,b5']at e;cases e;rw[b8]at hd;cases hd
 have b4:bm≠P:=λz=>by
  rw[z,hPh]at b5';cases b5';cases b8
 have BA:s.heap.BuiltinsAt X.mg P:=⟨bm,ob,by rw[S.hm];exact b1,b2,b3,b4,b5',b6,b7,b8⟩;have hclo:closureFor scope X.env=pure 12#5:=vO λy hy hyf=>I.ok.has y.1 (.inl (S.cel y.1 (hfs y.1 (LS.fre y hy hyf)).1).1);show aV _ _ (spliced [(false,eval (.Lambda Aq body scope lp) X.env)]) _ _ s;refine eA (PySem.W.kla_eval rfl ?_);have fin:∀(H2:Hp) (s2:Shared) (c' f:Addr) (ctv:Value) (oc:Obj) (ws:Array Value) (t:Tok),Inv X pins G H2 s2->bq H H2->HR M.K μ S1 H2 ->
   s2.heap.get? f=some (kla_obj "<lambda>" 19#9 Aq body scope 12#5 19#5 c' ctv)->H2 f=none->s.heap.objs.size<=f->H2 c'=some (.frz oc fz)->oc.data=.fields ws->ws[1]?=some (.str (q++"<lambda>") t) ->
   aV 1#2 X.A (spliced []) (λvs s₂=>X.K.In s₂.heap/\aV 1#2 X.A (call (.ref f0) ([]++(bx f::vs))) 6#8 X.xe s₂) X.xe s2:=by
  intro H2 s2 c' f ctv oc ws t I2 kp2 hr2 hf hfn hfs' hc hoc hq;have hff:f∉frs X.stack:=λz=>by
   obtain⟨_,o,ho,_⟩:=I.stack.mem z;exact absurd (aj (aK ho) hfs') (bO _)
  rw[<-hqual]at hq;exact gU ⟨I2.kIn,F3 S MK.bl hj hk hbd FF LS hfs his hb hx I2 hr2 (er.mono kp2 1#6) hcs qm (aft.mono 1#6 kp2) hf hfn hff hc hoc hq⟩
 cases ham:codeAmong lp ps0.toList with
 | none=>
   refine Ba (mg:=X.mg) hclo I.ok.glob hgl hcode C hPh tr ham MK.gP BA λc' ctv h' tk hx hge hlt hrec htb=>?_;obtain⟨c2,oc,ws,t,e,hoc,hd,hq'⟩:=hrec;cases e;have I2:=yf (ob:=kla_obj "<lambda>" 19#9 Aq body scope 12#5 19#5 c' ctv) (tk:=tk) I hP hx hge hoc htb;rw[hqual]at hq';obtain⟨kp2,hr2⟩:=hr1.table (a:=(lp.line:Int)) (b:=(lp.col:Int)) hP (I.hok.fresh hge) hd hq' MK.un;have hsz:s.heap.objs.size<=h'.objs.size:=aC hge (aT hlt);refine fin _ _ c' h'.objs.size ctv oc ws t I2 kp2 hr2 (aL _ rfl) ?_ hsz ?_ hd hq'
   .rw[bo (cN (aK htb)),bo (cN hlt)]
    exact I.hok.fresh hsz
   .rw[bo (bf hP (I.hok.fresh hge)).symm,cz]
 | some cv=>
   obtain⟨c',oc,ws,t,rfl,hfr,hd,hq'⟩:=al lp cv ham;refine yp (mg:=X.mg) hclo I.ok.glob hgl hcode C hPh tr ham BA λctv h' tk hk hsz=>?_;have I2:=I.kept (t':=tk) (h':=h'.push (kla_obj "<lambda>" 19#9 Aq body scope 12#5 19#5 c' ctv)) (fun b o e=>aw _ (hk b o e));exact fin H _ c' h'.objs.size ctv oc ws t I2 7#8 hr1 (aL _ rfl) (I.hok.fresh hsz) hsz hfr hd hq'
end
end _G
namespace _G
open PySem PySem.Spec _L
open PySem.W (envX fnX fnMade CodeHd tabObj)
open PyProof.Rows hiding St
def sml(i:Int):Prop:= -(2^64)<i/\i<2^64
instance(i:Int):Decidable (sml i):=cp _
section
variable {M:Mo}{X:Cx}{k:Nat}{N:List Str}{ns:List (Str×NameKind)}
end
section
variable {M:Mo}{X:Cx}{k:Nat}{N:List Str}{ns:List (Str×NameKind)}{pins:List (Addr×Obj)}{G:St}{H:Hp}{s:Shared}
end
end _G
namespace _G
open PySem PySem.Spec _L
open PyProof.Rows hiding St
abbrev NS:=List 5#2
structure Zt where
 R:List (Str×RF)
 F:List (Str×List Nat)
 cl:Nat->Addr
 nm:Str
def z0:Zt:=⟨[],[],fun _=>0,"<lambda>"⟩
def Zt.to(z:Zt)(nm:Str):Zt:=⟨z.R,z.F,z.cl,nm⟩
structure Tb where
 D:List (Str×MF)
 C:List (Str×U)
 L:List (Str×Addr×MF)
 H:List (Str×(Addr->MF->MF))
 mkr:Bool
 Z:Zt
def Tb.bare(T:Tb):Tb:=⟨T.D,T.C,[],T.H,false,T.Z⟩
def frees(sc:Scope):List Str:=(sc.names.filter λy=>y.2==.free).map 2#2
def zk(ps:List Str)(sc:Scope)(ns:NS):Bool:=
 sc.kind==.function && !sc.isCoroutine && !sc.isGenerator&&decide ((ps++frees sc).Nodup)&&ps.all (λp=>sc.names.lookup p==some .local||sc.names.lookup p==some .cell)&&sc.names.all (λy=>!(y.2==.cell)||sc.names.lookup y.1==some .cell)&&(frees sc).all λy=>sc.names.lookup y==some .free&&ns.lookup y==some .cell
def notStar:Expr->Bool
 |.Starred _ _=>false
 |_=>true
def je:Expr->Bool
 |.ListComp _ _ _ _=>false
 |.SetComp _ _ _ _=>false
 |.DictComp _ _ _ _ _=>false
 |_=>true
def i3:Expr->Bool
 |.Set _ _ _=>false
 |_=>true
def lI:Expr->Bool
 |.Slice _ _ _ _=>false
 |_=>true
def notTuple:Expr->Bool
 |.Tuple _ _ _=>false
 |_=>true
def uc:List Expr->Bool
 |[.Subscript _ _ _,.Subscript _ _ _]=>true
 |_=>false
def baseOk:Expr->Bool
 |.Call (.Name _ _) [] [] _=>false
 |_=>true
def plainT:Expr->Bool
 |.Name _ _=>true
 |.Call _ _ _ _=>true
 |.Subscript _ _ _=>true
 |.Constant _ _ _=>true
 |_=>false
def dummy(N:List Str):Str:=⟨#[N.length+1]⟩
def B5(N:List Str)(x:Str):List Str:=(N.map λy=>if y==x then dummy N else y)++[x]
def F9(N xs:List Str):List Str:=(N.zipIdx.map λ(y,i)=>if xs.contains y then(⟨#[N.length+1,i]⟩:Str) else y)++xs
def namesOf:List Expr->Option (List Str)
 |[]=>some []
 |.Name x _::r=>(namesOf r).map λxs=>x::xs
 |_=>none
def cx (x:Str):Bool := ! 7#3 && ! 23#2
def slot(N:List Str)(x:Str):Option Nat:=N.findIdx? (· == x)
def O3(g:Str):Option MF:=
 if g==("len":Str) then some bG else if g==("tuple":Str) then some bC
 else if g==("max":Str) then some zI else if g==("min":Str) then some tS else if g==("all":Str) then some r9
 else if g==("sorted":Str) then some dy else if g==("int":Str) then some A1  else if g==("repr":Str) then some oR else none
def jk:List Str := ["len","tuple","list","max","min","range","isinstance","bool","int","str","dict","all","any","sorted","reversed","zip","enumerate","set","sum","repr"]
def Gg(t:Str):Option String:=
 if t==("tuple":Str) then some "tuple" else if t==("list":Str) then some "list" else if t==("int":Str) then some "int"
 else if t==("bool":Str) then some "bool" else if t==("str":Str) then some "str" else if t==("dict":Str) then some "dict" else none
def Nm:Operator->Option F2
 |.Add=>some cK
 |.Sub=>some sQ
 |.Mult=>some gv
 |.FloorDiv=>some oDiv
 |.Mod=>some oMod
 |.Pow=>some zd
 |_=>none
def Ad:CmpOp->Option F2
 |.Lt=>some oLt
 |.LtE=>some oLe
 |.Gt=>some oGt
 |.GtE=>some oGe
 |.Eq=>some oEq
 |.NotEq=>some oNe
 |.In=>some oIn
 |.NotIn=>some fb
 |.IsNot=>some mm
 |_=>none
def sNo:MS:=λ_ _=>none
def QH:MS:=λY S=>some (.bk,Y,S)
def Q9:MS:=λY S=>some (.ct,Y,S)
def GX(name:Str)(ma:ME)(mas:MA):Option ME:=
 if name==("append":Str) then some (mML bF ma mas) else if name==("pop":Str) then some (mML lb ma mas)
 else if name==("index":Str) then some (mMT jO ma mas)
 else if name==("extend":Str) then some (mML gO ma mas) else none
set_option genInjectivity false in
structure Rc where
 e:Tb->List Str->NS->Expr->Option ME
 c:Tb->List Str->NS->Str->List Expr->Option ME
 v:Tb->List Str->NS->Str->List Expr->Option ME
 o:Tb->List Str->NS->Option Expr->Option (Option ME)
 t:Tb->List Str->NS->Expr->Option MT
 l:Tb->List Str->NS->Bool->List Expr->Option MT
 f:Tb->List Str->NS->List Expr->Option MT
 a:Tb->List Str->NS->List Expr->Option MA
 i:Tb->List Str->NS->Expr->Option MI
 g:Tb->List Str->NS->Expr->Option MG
 gs:Tb->List Str->NS->List Expr->Option MGs
 s:Tb->List Str->NS->Stmt->Option MS
 b:Tb->List Str->NS->List Stmt->Option MS
section
variable (R:Rc) (T:Tb) (N:List Str) (ns:NS)
def Tf:Const->Option ME
 |.int i=>some (mC 3#6)
 |.bool b=>some (mC (.bl b))
 |.none=>some (mC .non)
 |.str x=>some (mC (.str x))
 |_=>none
def eUn(a:Expr):UnaryOp->Option ME
 |.USub=>(R.e T N ns a).map (m1 fZ)
 |.Not=>(R.e T N ns a).map (m1 tU)
 |_=>none
def eBo(op:BoolOp)(p:Pos):List Expr->Option ME
 |[]=>none
 |[a]=>R.e T N ns a
 | a::b::r=>(R.e T N ns a).bind λma=>match op with
   |.And=>(R.e T N ns (.BoolOp .And (b::r) p)).map (j7 ma)
   |.Or=>(R.e T N ns (.BoolOp .Or (b::r) p)).map (mOr ma)
def eCm(a:Expr):List CmpOp->List Expr->Option ME
 |[op],[b]=>if i3 b then(R.e T N ns a).bind λma=>(R.e T N ns b).bind λmb=>(Ad op).map λf=>m2 f ma mb else none
 |[op,op'],[b,c]=>if i3 b&&i3 c then(R.e T N ns a).bind λma=>(R.e T N ns b).bind λmb=>(R.e T N ns c).bind λmc=>(Ad op).bind λf=>(Ad op').map λg=>mCh f g ma mb mc else none
 |_,_=>none
def Ki:Expr->Bool
 |.UnaryOp .USub (.Constant (.int i) _ _) _=>i==1
 |_=>false
def eSl(a:Expr)(lo hi:Option Expr):Option Expr->Option ME
 |none=>(R.e T N ns a).bind λma=>(R.o T N ns lo).bind λml=>(R.o T N ns hi).map (mSl ma ml)
 |some s=>if lo.isNone&&hi.isNone&&Ki s then(R.e T N ns a).map (m1 sH) else none
def eSb(a:Expr):Expr->Option ME
 |.Slice lo hi st _=>eSl R T N ns a lo hi st
 |b=>if lI b then(R.e T N ns a).bind λma=>(R.e T N ns b).map (m2 oIx ma) else none
def eDi:List (Option Expr)->List Expr->Option ME
 |[],[]=>some qZ
 |[some a],[b]=>(R.e T N ns a).bind λma=>(R.e T N ns b).map (nA ma)
 |_,_=>none
def P1(x:Str):Expr->Bool
 |.Name g _=>g==x
 |_=>false
def Ii(e:Expr):Option Expr:=match e with
 |.Call g as ks _=>if P1 "enumerate" g&&(ks.isEmpty&&as.length==1) then as.head? else none
 |_=>none
def eIc(e:Expr):Option MI:=match Ii e with
 |some a=>if d7 ns ("enumerate":Str) then (R.a T N ns [a]).map mO else none
 |none=>(R.e T N ns e).map b0
def eLn(elt it:Expr)(ifs:List Expr)(scope:Scope)(x:Str):Option ME:=
 (R.i T N ns it).bind λmi=>(R.f T (B5 N x) scope.names ifs).bind λmt=>(R.e T (B5 N x) scope.names elt).map (bK mi mt)
def eLt(elt it:Expr)(ifs:List Expr)(scope:Scope):Expr->Option ME
 |.Name x _=>if scope.kind==.function&&oh N (B5 N x) ns scope.names x&&i3 it then eLn R T N ns elt it ifs scope x else none
 | .Tuple ts _ _=>(namesOf ts).bind λxs=>
   if scope.kind==.function&&qV N (F9 N xs) ns scope.names xs&&i3 it then
    (eIc R T N ns it).bind λmi=>(R.f T (F9 N xs) scope.names ifs).bind λmt=>(R.e T (F9 N xs) scope.names elt).map (iu xs.length mi mt)
   else none
 |_=>none
def eLc(elt:Expr)(scope:Scope):List Comprehension->Option ME
 |[c]=>if c.is_async=0 then eLt R T N ns elt c.iter c.ifs scope c.target else none
 |_=>none
def AF(fs:List Str)(nms:NS):Expr->Option MX
 |.Call (.Name f _) (a::as) [] _=>if d7 nms f&&cx f then(T.Z.R.lookup f).bind λrf=>(R.a T.bare fs nms (a::as)).map (xFn rf) else none
 |_=>none
def L9(fs:List Str)(nms:NS)(q:Pos)(a:Expr):Expr->Option MX
 |.Attribute o x p=>if x==("append":Str)&&baseOk o&&(p.endLine==q.line)&&notStar a then (R.e T.bare fs nms o).bind fun mo=>(AF R T fs nms a).map (xML mo) else none
 |_=>none
def MN(fs:List Str)(nms:NS):Expr->Option MX
 |.Call g [a] [] q=>(L9 R T fs nms q a g).or (AF R T fs nms (.Call g [a] [] q))
 |e=>AF R T fs nms e
def IA(p:Arguments):Bool:=uj p&&p.args.isEmpty
def HJ(g:Str)(p:Arguments)(b:Expr)(sc:Scope):Option ME:=
 if T.mkr&&T.Z.nm==("<lambda>":Str)&&IA p&&zk [] sc ns then (dS (fun y=>N.findIdx? (· == y)) (frees sc)).bind fun is=>(R.e T.bare ([]++frees sc) sc.names b).bind fun ml=>(MN R T ([]++frees sc) sc.names b).bind fun rl=>(T.Z.F.lookup g).map fun rz=>kh rz is ml rl else none
def eRg(g:Str):List Expr->Option ME
 |[a]=>if g==("list":Str) then (R.a T N ns [a]).map fun m=>gy (iR1 m) else (R.a T N ns [a]).map fun m=>vP (iR1 m)
 |[a,b]=>if g==("list":Str) then (R.a T N ns [a,b]).map fun m=>gy (iR2 m) else none
 |_=>none
def eC1(g:Str):Expr->Option ME
 |.Lambda p b sc _=>HJ R T N ns g p b sc
 |.Call (.Name r q) rs [] rp=>if (g==("list":Str)||g==("tuple":Str))&&r==("range":Str) then (if d7 ns r then eRg R T N ns g rs else none) else R.c T N ns g [.Call (.Name r q) rs [] rp]
 |a=>R.c T N ns g [a]
def eIs(g t:Str)(tp:Pos)(a:Expr):Option ME:=
 if g==("isinstance":Str) then (if d7 ns t&&notStar a then (Gg t).bind fun c=>(R.e T N ns a).map (m1 (iW c)) else none) else R.c T N ns g [a,.Name t tp]
def SE(g:Str)(a:Expr)(p:Arguments)(b:Expr)(sc:Scope):Option ME:=
 if T.mkr&&T.Z.nm==("<lambda>":Str)&&notStar a then (uH p).bind fun ps=>
    if zk ps sc ns then(dS 16#7 (frees sc)).bind λis=>(R.e T N ns a).bind λma=>(R.e T.bare (ps++frees sc) sc.names b).bind λml=>(T.H.lookup g).map λF=>kX F ps.length is ml ma else none
   else none
def eC2(g:Str)(a:Expr):Expr->Option ME
 |.Name t tp=>eIs R T N ns g t tp a
 |.Lambda p b sc _=>SE R T N ns g a p b sc
 |b=>R.c T N ns g [a,b]
def eCf(g:Str):List Expr->Option ME
 |[]=>(T.D.lookup g).map λmf=>mFn mf af
 |[a]=>eC1 R T N ns g a
 |[a,b]=>eC2 R T N ns g a b
 |a::b::c::r=>R.c T N ns g (a::b::c::r)
def eMe(o:Expr)(name:Str)(p q:Pos):List Expr->Option ME
 |[]=>if baseOk o&&(p.endLine==q.line)&&name==("pop":Str) then (R.e T N ns o).map fun mo=>mML nc mo af else none
 |[a]=>if baseOk o&&(p.endLine==q.line)&&notStar a then(R.e T N ns o).bind λmo=>(R.a T N ns [a]).bind (GX name mo) else none
 |_=>none
def eCa(as:List Expr)(q:Pos):Expr->Option ME
 |.Name g _=>if d7 ns g&&cx g then eCf R T N ns g as else R.v T N ns g as
 |.Attribute o name p=>eMe R T N ns o name p q as
 |_=>none
end
def sE(R:Rc)(T:Tb):List Str->NS->Expr->Option ME:=λN ns e=>match e with
  |.Name x _=>if cx x then(if pY ns x then(slot N x).map ae else if d7 ns x then(T.C.lookup x).map mC else none) else none
  |.Constant c _ _=>Tf c
  |.BinOp a op b _=>(R.e T N ns a).bind λma=>(R.e T N ns b).bind λmb=>(Nm op).map λf=>m2 f ma mb
  |.UnaryOp op a _=>eUn R T N ns a op
  |.BoolOp op vs p=>eBo R T N ns op p vs
  |.Compare a ops bs _=>eCm R T N ns a ops bs
  |.IfExp c a b _=>(R.t T N ns c).bind λmc=>(R.e T N ns a).bind λma=>(R.e T N ns b).map (so mc ma)
  |.Subscript a b _=>eSb R T N ns a b
  |.Dict ks vs _=>eDi R T N ns ks vs
  |.Tuple es _ _=>(R.a T N ns es).map de
  |.List es _=>(R.a T N ns es).map bH
  |.ListComp elt gens scope _=>eLc R T N ns elt scope gens
  |.Call f as kws q=>if kws.isEmpty then eCa R T N ns as q f else none
  |_=>none
def sC(R:Rc)(T:Tb):List Str->NS->Str->List Expr->Option ME:=λN ns g as=>(R.a T N ns as).bind λmas=>match O3 g with
  |some mf=>some (mFn mf mas)
  |none=>(T.D.lookup g).map λmf=>mFn mf mas
def sV(R:Rc)(T:Tb):List Str->NS->Str->List Expr->Option ME:=λN ns g as=>match as with
 |[]=>none
 |a::as=>if pY ns g&&cx g then(T.L.lookup g).bind λq=>(slot N g).bind λi=>(R.a T N ns (a::as)).map (wQ i q.1 q.2) else none
def sO(R:Rc)(T:Tb):List Str->NS->Option Expr->Option (Option ME):=λN ns o=>match o with
  |none=>some none
  |some e=>(R.e T N ns e).map some
def sT(R:Rc)(T:Tb):List Str->NS->Expr->Option MT:=λN ns e=>match e with
  |.UnaryOp .Not a _=>(R.t T N ns a).map jL
  |.BoolOp .And vs _=>R.l T N ns true vs
  |.BoolOp .Or vs _=>R.l T N ns false vs
  |.Compare a ops bs _=>(eCm R T N ns a ops bs).map cOf
  |e=>if plainT e then(R.e T N ns e).map cOf else none
def sL(R:Rc)(T:Tb):List Str->NS->Bool->List Expr->Option MT:=λN ns b vs=>match vs with
  |[]=>none
  |[a]=>R.t T N ns a
  |a::r=>(R.t T N ns a).bind λma=>(R.l T N ns b r).map λmr=>if b then wZ ma mr else cOr ma mr
def sF(R:Rc)(T:Tb):List Str->NS->List Expr->Option MT:=λN ns ifs=>match ifs with
  |[]=>some cTT
  |[c]=>R.t T N ns c
  |_=>none
def sA(R:Rc)(T:Tb):List Str->NS->List Expr->Option MA:=λN ns es=>match es with
  |[]=>some af
  |e::r=>if notStar e then(R.e T N ns e).bind λm=>(R.a T N ns r).map (aa m) else none
def sI(R:Rc)(T:Tb):List Str->NS->Expr->Option MI:=λN ns e=>match e with
  | .Call (.Name g q) as [] p=>
    if g==("range":Str) then
     if d7 ns g then match as with
      |[a]=>(R.a T N ns [a]).map iR1
      |[a,b]=>(R.a T N ns [a,b]).map iR2
      |_=>none
     else none
    else(R.e T N ns (.Call (.Name g q) as [] p)).map b0
  |e=>(R.e T N ns e).map b0
def sG(R:Rc)(T:Tb):List Str->NS->Expr->Option MG:=λN ns e=>match e with
  |.Name x _=>if nX ns x then(slot N x).map gN else none
  |.Tuple es _ _=>(R.gs T N ns es).map (gTp es.length)
  |_=>none
def sGs(R:Rc)(T:Tb):List Str->NS->List Expr->Option MGs:=λN ns es=>match es with
  |[]=>some m8
  |e::r=>if notStar e then(R.g T N ns e).bind λg=>(R.gs T N ns r).map (eD g) else none
def eIt(R:Rc)(T:Tb)(N:List Str)(ns:NS)(e:Expr):Option MI:=match e with
  |.Call (.Name g q) [a] [] p=>if g==("enumerate":Str) then (if d7 ns g then (R.a T N ns [a]).map mO else none) else (R.e T N ns (.Call (.Name g q) [a] [] p)).map b0
  |e=>(R.e T N ns e).map b0
def NB(R:Rc)(T:Tb)(N:List Str)(ns:NS)(y:Str)(elt it:Expr)(ifs:List Expr)(scope:Scope):Expr->Option MS
 | .Name x _=>
   if nX ns y&&(scope.kind==.function&&oh N (B5 N x) ns scope.names x&&i3 it) then
    (slot N y).bind λi=>(R.i T N ns it).bind λmi=>(R.f T (B5 N x) scope.names ifs).bind λmt=>(R.e T (B5 N x) scope.names elt).map λme=>bu i (bK mi mt me)
   else none
 |_=>none
def SM(R:Rc)(T:Tb)(N:List Str)(ns:NS)(y:Str)(elt:Expr)(scope:Scope):List Comprehension->Option MS
 |[c]=>if c.is_async=0 then NB R T N ns y elt c.iter c.ifs scope c.target else none
 |_=>none
def Pd(R:Rc)(T:Tb)(N:List Str)(ns:NS)(x:Str):Expr->Option MS
 |.ListComp elt gens scope _=>SM R T N ns x elt scope gens
 |e=>if nX ns x&&je e then(slot N x).bind λi=>(R.e T N ns e).map (bu i) else none
def Qd(R:Rc)(T:Tb)(N:List Str)(ns:NS)(e:Expr):Expr->Option MS
  |.Name x _=>Pd R T N ns x e
  |.Subscript a b _=>if je e&&lI b then(R.e T N ns a).bind λma=>(R.e T N ns b).bind λmb=>(R.e T N ns e).map (eM ma mb) else none
  |.Tuple ts kt pt=>if je e&&(notTuple e||uc ts) then(R.g T N ns 16#0).bind λg=>(R.e T N ns e).map λme=>wM me g else none
  |_=>none
def sAs(R:Rc)(T:Tb)(N:List Str)(ns:NS)(e:Expr):List Expr->Option MS
 |[t]=>Qd R T N ns e t
 |_=>none
def sAu(R:Rc)(T:Tb)(N:List Str)(ns:NS)(x:Str)(e:Expr):Operator->Option MS
  |_=>none
def O8(R:Rc)(T:Tb)(N:List Str)(ns:NS)(op:Operator)(e:Expr):Expr->Option MS
 |.Name x _=>sAu R T N ns x e op
 |_=>none
def sRt(R:Rc)(T:Tb)(N:List Str)(ns:NS):Option Expr->Option MS
 |some e=>(R.e T N ns e).map cb
 |none=>some (cb (mC .non))
def sFo(R:Rc)(T:Tb)(N:List Str)(ns:NS)(it:Expr)(body:List Stmt):Expr->Option MS
  |.Name x _=>if nX ns x&&i3 it then(slot N x).bind λi=>(R.i T N ns it).bind λmi=>(R.b T N ns body).map (ee i mi) else none
  |.Tuple ts kt pt=>if i3 it then(R.g T N ns 16#0).bind λg=>(eIt R T N ns it).bind λmi=>(R.b T N ns body).map (vB g mi) else none
  |_=>none
def Qc(R:Rc)(T:Tb)(N:List Str)(ns:NS)(t it:Expr)(body:List Stmt):List Stmt->Option MS
 |[]=>sFo R T N ns it body t
 |_=>none
def sWh(R:Rc)(T:Tb)(N:List Str)(ns:NS)(c:Expr)(body:List Stmt):List Stmt->Option MS
 |[]=>(R.t T N ns c).bind λmc=>(R.b T N ns body).map (jx mc)
 |_=>none
def sS(R:Rc)(T:Tb):List Str->NS->Stmt->Option MS:=λN ns st=>match st with
  |.Assign ts e _=>sAs R T N ns e ts
  |.AugAssign t op e _=>O8 R T N ns op e t
  |.Expr e _=>if je e then(R.e T N ns e).map du else none
  |.Return o _=>sRt R T N ns o
  |.If c a b _=>(R.t T N ns c).bind λmc=>(R.b T N ns a).bind λma=>(R.b T N ns b).map (sIf mc ma)
  |.For t it body els _=>Qc R T N ns t it body els
  |.While c body els _=>sWh R T N ns c body els
  |.Pass _=>some cW
  |.Break _=>some QH
  |.Raise _ _ _=>some sNo
  |.Continue _=>some Q9
  |_=>none
section
variable (R:Rc) (T:Tb) (N:List Str) (ns:NS)
end
def sB(R:Rc)(T:Tb):List Str->NS->List Stmt->Option MS:=λN ns sts=>match sts with
  |[]=>some cW
  |[s]=>R.s T N ns s
  |s::r=>(R.s T N ns s).bind λms=>(R.b T N ns r).map (aX ms)
def rc:Nat->Rc
 |0=>⟨λ_ _ _ _=>none,λ_ _ _ _ _=>none,λ_ _ _ _ _=>none,λ_ _ _ _=>none,λ_ _ _ _=>none,λ_ _ _ _ _=>none,λ_ _ _ _=>none,λ_ _ _ _=>none,λ_ _ _ _=>none,λ_ _ _ _=>none,λ_ _ _ _=>none,λ_ _ _ _=>none,λ_ _ _ _=>none⟩
 |n+1=>⟨sE 2#1,sC 2#1,sV 2#1,sO 2#1,sT 2#1,sL 2#1,sF 2#1,sA 2#1,sI 2#1,sG 2#1,sGs 2#1,sS 2#1,sB 2#1⟩
abbrev cE(T:Tb)(n:Nat):=(rc n).e T
abbrev cC(T:Tb)(n:Nat):=(rc n).c T
abbrev cV(T:Tb)(n:Nat):=(rc n).v T
abbrev cO(T:Tb)(n:Nat):=(rc n).o T
abbrev cT(T:Tb)(n:Nat):=(rc n).t T
abbrev cL(T:Tb)(n:Nat):=(rc n).l T
abbrev cF(T:Tb)(n:Nat):=(rc n).f T
abbrev cA(T:Tb)(n:Nat):=(rc n).a T
abbrev cI(T:Tb)(n:Nat):=(rc n).i T
abbrev cG(T:Tb)(n:Nat):=(rc n).g T
abbrev cGs(T:Tb)(n:Nat):=(rc n).gs T
abbrev cS(T:Tb)(n:Nat):=(rc n).s T
abbrev cB(T:Tb)(n:Nat):=(rc n).b T
section
variable {env:Env}{e a b o:Expr}{es:List Expr}{pos q:Pos}
theorem dh(h:notStar e=true)(es:List Expr)(env:Env):starEach 1#7 env=(false,eval e env)::starEach es env:=by
 cases e<;>first |rfl |cases h
theorem pR(pos:Pos)(env:Env):∀{es:List Expr},es.all notStar=true->(backTo pos (starEach es env)).any 2#2=false
 |[],_=>rfl
 | e::es,h=>by
   rw[bU,ar]at h;rw[dh h.1];show(false||(backTo pos (starEach es env)).any 2#2)=false;rw[pR pos env h.2];rfl
theorem I0(h:plainT e=true)(env:Env):∀whole,isTrue e env whole=(do let v <- whole;standAt e.pos;holding [v] (truthy v)):=by
 intro whole;cases e<;>first |rfl |cases h
theorem qx(h:i3 e=true)(env:Env):∀x,foldedSetIterable e env x=pure x:=by
 intro x;cases e<;>first |rfl |cases h
theorem y6(h:i3 b=true)(op:CmpOp):behindInMarks op b=false:=by
 cases b<;>first |rfl |cases h
theorem Mp(h:lI b=true):yH b:=by
 intro o i;cases b<;>first |rfl |cases h
theorem oq(h:baseOk o=true)(name:Str)(env:Env):attributeBase o name env (eval o env)=eval o env:=by
 cases o with
 | Call f as ks p=>
   cases f with
   | Name x p=>
     cases as with
     | nil=>cases ks with
       |nil=>cases h
       |cons k ks=>rfl
     |cons a as=>rfl
   |_=>rfl
 |_=>rfl
theorem qp(h:je e=true)(t:Option Expr)(line:Nat)(env:Env):swapsWith e t line env=pure false:=by
 cases e<;>first |rfl |cases h
theorem CJ(h:je e=true)(t:Expr)(line:Nat)(env:Env):swapsWithSole [t] e line env=pure false:=by
 unfold swapsWithSole;exact qp h _ _ _
theorem uO(h:notStar a=true)(q:Pos)(env:Env):((backTo q (starEach [a] env)).all (λx => !x.1)&&(backToKw q (keywordEach [] env)).all (λx=>x.1.isSome)
   && decide ([a].length+([]:List Keyword).length+(if ([]:List Keyword).isEmpty then 0 else 1)<30))=true:=by
 rw[dh h];rfl
theorem Oj(h:lI b=true)(env:Env): ∀v,assign (.Subscript a b pos) env v=(do
   let ov <- holding [v] (eval a env)
   let iv <- holding [v,ov] (eval b env)
   standAt pos
   holding [v,ov,iv] (setItem ov iv v)
   release [v,ov,iv] []):=by
 intro v;cases b<;>first |rfl |cases h
theorem Ac(h:notStar e=true)(es:List Expr)(env:Env):assignEach 1#7 env=(false,assign e env)::assignEach es env:=by
 cases e<;>first |rfl |cases h
theorem DO(env:Env):∀es:List Expr,es.all notStar=true->(assignEach es env).length=es.length/\(assignEach es env).findIdx? 2#2=none
 |[],_=>⟨rfl,rfl⟩
 | e::es,h=>by
   rw[bU,ar]at h;obtain⟨a,b⟩:=DO env es h.2;rw[Ac h.1];exact⟨by simp[a],by rw[uC];simp[b]⟩
theorem zT{ts:List Expr}{kt:Nat}{pt:Pos}(h:(notTuple e||uc ts)=true):swappedStores [.Tuple ts kt pt] e env=pure none:=by
 cases e with
 | Tuple vs k2 p2=>
   have h':uc ts=true:=h;unfold uc at h'
   split at h'
   .exact AU
   .cases h'
 |_=>rfl
theorem Bx:swappedStores [.Subscript a b pos] e env=pure none:=by
 cases e<;>rfl
end
theorem ie{T:Tb}:∀{n:Nat}{N:List Str}{ns:NS}{es:List Expr}{m:MA},cA T n N ns es=some m->es.all notStar=true
 |0,_,_,_,_,h=>by simp[cA,rc]at h
 |n+1,_,_,[],_,h=>rfl
 | n+1,N,ns,e::es,m,h=>by
   simp only[cA,rc,sA]at h
   split at h
   .rename_i hs
    cases e1:(rc n).e T N ns e with
    |none=>rw[e1]at h;cases h
    | some me=>
      rw[e1]at h;simp only[ah]at h;cases e2:(rc n).a T N ns es with
      |none=>rw[e2]at h;cases h
      |some mr=>rw[bU,hs,ie e2];rfl
   .cases h
theorem zJ{T:Tb}:∀{n:Nat}{N:List Str}{ns:NS}{es:List Expr}{m:MGs},cGs T n N ns es=some m->es.all notStar=true
 |0,_,_,_,_,h=>by simp[cGs,rc]at h
 |n+1,_,_,[],_,h=>rfl
 | n+1,N,ns,e::es,m,h=>by
   simp only[cGs,rc,sGs]at h
   split at h
   .rename_i hs
    cases e1:(rc n).g T N ns e with
    |none=>rw[e1]at h;cases h
    | some me=>
      rw[e1]at h;simp only[ah]at h;cases e2:(rc n).gs T N ns es with
      |none=>rw[e2]at h;cases h
      |some mr=>rw[bU,hs,zJ e2];rfl
   .cases h
variable{N:List Str}{x:Str}
theorem slot_get{i:Nat}(h:slot N x=some i):N[i]?=some x:=by
 unfold slot at h;obtain⟨h1,h2,_⟩:=fv.mp h;rw[aF h1,eq_of_beq h2]
theorem di  (h:cx x=true):7#3=false/\23#2=false:=by
 unfold cx at h;rw[ar]at h;simpa using h
theorem bind_eq{α β:Type}{o:Option α}{f:α->Option β}{b:β}(h:o.bind f=some b):∃a,o=some a/\f a=some b:=by
 cases o with
 |none=>cases h
 |some a=>exact⟨a,rfl,h⟩
theorem map_eq{α β:Type}{o:Option α}{f:α->β}{b:β}(h:o.map f=some b):∃a,o=some a/\f a=b:=by
 cases o with
 |none=>cases h
 |some a=>exact⟨a,rfl,b9 h⟩
section
variable {M:Mo}{X:Cx}{k:Nat}{N:List Str}{ns:NS}{a b c e:Expr}{es:List Expr}{ma mb mc:ME}{mt:MT}{mas:MA}{pos p1 p2:Pos}{x:Str}
theorem Rz (S:Sc M X k N ns) (hg:d7 ns "all"=true) (hm:M.mg "all"=none) (ha:PA X 1#7 3#0) (he:starEach 1#7 X.env=20#5::starEach es X.env) (hpl:(backTo pos 10#5).any 2#2=false) :
  PE X (.Call (.Name "all" p1) 1#7 [] pos) (tM M.K (mFn r9 mas)):=
 PE.con (ki (S.hK▸Fc S.calm) 4#3 5#7 PyProof.Rows.boot_all ha 0#1 0#1 he hpl) λ_ _ _ h=>AY Qg h
variable{ts:List Expr}{kt:Nat}
theorem CN {pt:Pos}{a:Expr} (S:Sc M X k N ns) (hg:d7 ns "enumerate"=true) (hm:M.mg "enumerate"=none) (ha:PA X [a] 3#0) (hs:starEach [a] X.env=[19#2]):PI X 16#0 (.Call (.Name "enumerate" p1) [a] [] pos) (vJ M.K 3#0):=
 S.hK▸LR 4#3 5#7 ha hs
theorem HH (S:Sc M X k N ns) (hg:d7 ns "sorted"=true) (hm:M.mg "sorted"=none) (ha:PA X 1#7 3#0) (he:starEach 1#7 X.env=20#5::starEach es X.env) (hpl:(backTo pos 10#5).any 2#2=false) :
  PE X (.Call (.Name "sorted" p1) 1#7 [] pos) (tM M.K (mFn dy mas)):=
 PE.con (ki (S.hK▸z3 S.calm) 4#3 5#7 PyProof.Rows.boot_sorted ha 0#1 0#1 he hpl) λ_ _ _ h=>AY Fi h
theorem OX (S:Sc M X k N ns) (hg:d7 ns "repr"=true) (hm:M.mg "repr"=none) (ha:PA X 1#7 3#0) (he:starEach 1#7 X.env=20#5::starEach es X.env) (hpl:(backTo pos 10#5).any 2#2=false) :
  PE X (.Call (.Name "repr" p1) 1#7 [] pos) (tM M.K (mFn oR mas)):=
 PE.con (ki (S.hK▸Fj S.room.gu S.room.units) 4#3 5#7 PyProof.Rows.boot_repr ha 0#1 0#1 he hpl) λ_ _ _ h=>AY KM h
theorem HW (S:Sc M X k N ns) (ho:PE X b 5#9) (ha:PA X [a] 3#0) (hb:baseOk b=true) (hs:notStar a=true) (hl:(p1.endLine==pos.line)=true):PE X (.Call (.Attribute b "extend" p1) [a] [] pos) (tM M.K (mML gO mb mas)):=by
 exact PE.con (CK fN PySem.F.slot_list_extend PySem.F.type_list_extend Eh ho ha (oq hb _ _) (uO hs _ _) hl (dh hs _ _) rfl) λ_ _ _ h=>S.hK▸OT E9 h
theorem Gw{op:CmpOp}{f:F2}(S:Sc M X k N ns)(h:Ad op=some f):∃r,OpR X (compareOp op) r/\OpU M.K r f:=by
 cases op<;>simp only[Ad,fg,reduceCtorEq]at h<;>subst h
 .exact⟨_,S.hK▸P7 S.room.units,QE⟩
 .exact⟨_,S.hK▸Pe S.room.units,QG⟩
 .exact⟨_,QI,za⟩
 .exact⟨_,RX,za⟩
 .exact⟨_,Tq,za⟩
 .exact⟨_,QP,za⟩
 .exact⟨_,Fe,IG⟩
 .exact⟨_,S.hK▸Pt (by have:=S.room.units;omega),RQ⟩
 .exact⟨_,S.hK▸EU (by have:=S.room.units;omega),G3⟩
theorem SV{j:Nat}{p3 p4:Pos}(S:Sc M X k N ns)(ha:PE X a 2#9):PE X (.Subscript a 28#9 pos) (tM M.K (m1 sH ma)):=by
 refine PE.con (t:=O9 M.K 2#9) ?_ λ_ _ _ h=>Q6 h;rw[<-S.hK];exact OG ha
variable{N':List Str}{scope:Scope}{ifs:List Expr}{wi:TI}{mi:MI}
theorem NR{px py spos:Pos}{iter elt:Expr}{y:Str}(S:Sc M X k N ns)(i:Nat)(hy:N[i]?=some y)(ho:nX ns y=true)(hk:scope.kind=.function)(ok:oh N N' ns scope.names x=true)(hi:PI X (.Name x px) iter wi)
  (ht:∀X',Sc M X' k N' scope.names->PTs X' ifs 5#3) (he:∀X',Sc M X' k N' scope.names->PE X' elt (tM M.K mc)) (hr:∀G H Q,tM M.K (bK mi mt mc) G H Q->sZ wi 5#3 (tM M.K mc) G H Q)
  (hs:∀x,foldedSetIterable iter X.env x=pure x):PS X (.Assign [.Name y py] 16#4 spos) (tMS M.K (bu i (bK mi mt mc))):=by
 have C:=yi S hk ok;have e:∃b,swapsWith 16#4 (some (.Name y py)) spos.line X.env=pure b:=⟨_,rfl⟩;obtain⟨b,e⟩:=e;cases b with
 |true=>exact PS.con (Kp (by rw[S.hN];exact S.nd) (by rw[S.hN];exact hy) (S.lo ho).1 S.calm C hi (λs₂ H₂ fp=>ht _ 20#3) (λs₂ H₂ fp=>he _ 20#3) e hs (S.lo ho).2) λ_ _ _ h=>hr _ _ _ (Mr h)
 |false=>exact Ar S i hy ho (Jc S hk ok hi ht he hr hs) e
theorem PD (S:Sc M X k N ns) (hg:d7 ns "int"=true) (hm:M.mg "int"=none) (ha:PA X 1#7 3#0) (he:starEach 1#7 X.env=20#5::starEach es X.env) (hpl:(backTo pos 10#5).any 2#2=false) :
  PE X (.Call (.Name "int" p1) 1#7 [] pos) (tM M.K (mFn A1 mas)):=
 PE.con (lO Fb 4#3 5#7 PyProof.Rows.boot_int ha 0#1 0#1 he hpl) λ_ _ _ h=>AY OJ h
theorem O6:PE X (.Dict [] [] pos) (tM M.K qZ):=PE.con GW λ_ _ _ h=>P9 h
theorem NK(ha:PE X a 2#9)(hb:PE X b 5#9):PE X (.Dict [some a] [b] pos) (tM M.K (nA ma mb)):=
 PE.con (Kb (GZ ha hb J5) rfl rfl 0#8 0#8) λ_ _ _ h=>On h
theorem zU:∀{ts:List Expr}{xs:List Str},namesOf ts=some xs->gz ts xs
 |[],xs,h=>by cases h;exact .nil
 | t::ts,xs,h=>by
   cases t with
   | Name x p=>
     unfold namesOf at h;cases q:namesOf ts with
     |none=>rw[q]at h;cases h
     |some ys=>rw[q]at h;cases h;exact .cons x p (zU q)
   |_=>cases h
theorem Ks{xs:List Str}{pt:Pos}{iter elt:Expr}(S:Sc M X k N ns)(hk:scope.kind=.function)(ok:qV N N' ns scope.names xs=true)(hn:gz ts xs)(hi:PI X 16#0 iter wi)
  (ht:∀X',Sc M X' k N' scope.names->PTs X' ifs 5#3) (he:∀X',Sc M X' k N' scope.names->PE X' elt (tM M.K mc))
  (hc:∀G H Q,tM M.K (iu xs.length mi mt mc) G H Q->si (gTt M.K xs.length) wi 5#3 (tM M.K mc) G H Q)
  (hs:∀x,foldedSetIterable iter X.env x=pure x):PE X (.ListComp elt [⟨.Tuple ts kt pt,iter,ifs,0⟩] scope pos) (tM M.K (iu xs.length mi mt mc)):=by
 have C:=uL S hk ok;refine PE.con (F5 S.calm C hn hi (λs₂ H₂ fp=>ht _ 20#3) (λs₂ H₂ fp=>he _ 20#3) hs) λ_ _ _ h=>?_;rw[S.hK];exact hc _ _ _ h
variable{as:Expr}{q rp:Pos}
theorem G5  (S:Sc M X k N ns) (hg:d7 ns "list"=true) (hm:M.mg "list"=none) (hg2:d7 ns "range"=true) (hm2:M.mg "range"=none) (ha:PA X [as] 3#0) (hs:notStar as=true) :
  PE X (.Call (.Name "list" p1) [.Call (.Name "range" q) [as] [] rp] [] pos) (tM M.K (gy (iR1 mas))):=
 PE.con (lO (oU S.calm) 4#3 5#7 yq (jI (Cz (S.gl hg2) (by rw[S.hm];exact hm2) ha (by rw[dh hs];rfl)) uN) 0#1 0#1) λ_ _ _ h=>Hj h
theorem Gz {bs:Expr} (S:Sc M X k N ns) (hg:d7 ns "list"=true) (hm:M.mg "list"=none) (hg2:d7 ns "range"=true) (hm2:M.mg "range"=none) (ha:PA X [as,bs] 3#0) (hs:notStar as=true) (hs2:notStar bs=true) :
  PE X (.Call (.Name "list" p1) [.Call (.Name "range" q) [as,bs] [] rp] [] pos) (tM M.K (gy (iR2 mas))):=
 PE.con (lO (oU S.calm) 4#3 5#7 yq (jI (Kn (S.gl hg2) (by rw[S.hm];exact hm2) ha (by rw[dh hs,dh hs2];rfl) (by rw[dh hs2];rfl)) uN) 0#1 0#1) λ_ _ _ h=>Hq h
theorem Lb  (S:Sc M X k N ns) (hg:d7 ns "tuple"=true) (hm:M.mg "tuple"=none) (hg2:d7 ns "range"=true) (hm2:M.mg "range"=none) (ha:PA X [as] 3#0) (hs:notStar as=true) :
  PE X (.Call (.Name "tuple" p1) [.Call (.Name "range" q) [as] [] rp] [] pos) (tM M.K (vP (iR1 mas))):=
 PE.con (lO (vN S.calm) 4#3 5#7 xy (jI (Cz (S.gl hg2) (by rw[S.hm];exact hm2) ha (by rw[dh hs];rfl)) uN) 0#1 0#1) λ_ _ _ h=>J7 h
theorem SG {t:Str}{c:String} (S:Sc M X k N ns) (hg:d7 ns "isinstance"=true) (hm:M.mg "isinstance"=none) (hg2:d7 ns t=true) (hm2:M.mg t=none) (hb:bootBuiltins t=some (.type c)) (hc:c∈mG) (hn:t≠"__name__") (hd:(t==("__debug__":Str))=false)
  (ha:PE X a 2#9) (hs:notStar a=true):PE X (.Call (.Name "isinstance" p1) [a,.Name t p2] [] pos) (tM M.K (m1 (iW c) ma)):=by
 refine PE.con (ki Gc 4#3 5#7 PyProof.Rows.boot_isinstance (jI ha (jI (LX (v:= .ty c) (S.gl hg2) (by rw[S.hm];exact hm2) hb rfl hn hd) uN) (dh hs _ _)) 0#1 0#1 (dh hs _ _) rfl) λ_ _ _ h=>?_;rw[S.hK];exact SU hc h
theorem KR (S:Sc M X k N ns) (ho:PE X b 5#9) (ha:PA X [a] 3#0) (hb:baseOk b=true) (hs:notStar a=true) (hl:(p1.endLine==pos.line)=true):PE X (.Call (.Attribute b "index" p1) [a] [] pos) (tM M.K (mMT jO mb mas)):=by
 refine PE.con (t:=Ol M.K 5#9 3#0) ?_ λ_ _ _ h=>LO h;rw[<-S.hK];exact Ij S.room.units ho ha (oq hb _ _) (uO hs _ _) hl (dh hs _ _) rfl
theorem OL (S:Sc M X k N ns) (ho:PE X b 5#9) (hb:baseOk b=true) (hl:(p1.endLine==pos.line)=true):PE X (.Call (.Attribute b "pop" p1) [] [] pos) (tM M.K (mML nc mb af)):=by
 exact PE.con (OK fN DV DW PC ho (oq hb _ _) hl) λ_ _ _ h=>S.hK▸RZ OA h
section
variable {X:Cx}
end
theorem SO{st:Stmt}:PS X st (tMS M.K sNo):=by
 intro pins s G H D I h;obtain⟨μ,S,Y,r,hr,er,e,kk⟩:=h;cases e
theorem To:PS X (.Break pos) (tMS M.K QH):=PS.con HE λD G H h=>by
 obtain⟨μ,S,Y,r,hr,er,e,kk⟩:=h;cases e;exact kk μ G H 1#6 7#8 hr er
theorem R8:PS X (.Continue pos) (tMS M.K Q9):=PS.con AW λD G H h=>by
 obtain⟨μ,S,Y,r,hr,er,e,kk⟩:=h;cases e;exact kk μ G H 1#6 7#8 hr er
theorem P0:PS X (.Pass pos) (tMS M.K cW):=PS.con JV λD G H h=>FQ h
theorem Pj:PS X (.Return none pos) (tMS M.K (cb (mC .non))):=PS.con Lo λD G H h=>by
 obtain⟨μ,S,Y,r,hr,er,e,kk⟩:=h;cases e;exact kk μ _ H 1#6 7#8 hr su
theorem M7(ha:PE X a 2#9)(hb:PE X (.BoolOp .And (b::es) pos) 5#9):PE X (.BoolOp .And (a::b::es) pos) (tM M.K (j7 ma mb)):=PE.con (NN ha hb) λ_ _ _ h=>P8 h
theorem Tt(ha:PE X a 2#9)(hb:PE X (.BoolOp .Or (b::es) pos) 5#9):PE X (.BoolOp .Or (a::b::es) pos) (tM M.K (mOr ma mb)):=PE.con (Rg ha hb) λ_ _ _ h=>Qo h
theorem Pf(ha:PE X a 2#9):PE X (.UnaryOp .Not a pos) (tM M.K (m1 tU ma)):=PE.con (Nf ha) λ_ _ _ h=>O4 h
end
section
variable {M:Mo}{cl:Nat->Addr}{k n fu:Nat}{N:List Str}{ns:NS}{X:Cx}{E:XK}
theorem x_call{g:Str}{a:Expr}{as:List Expr}{p pos:Pos}{r:RF}{mas:MA}{k':Nat}{ps:List Str}(L:Lv X E)(S:Sc M X.nox k N ns)(F:FnX M cl g k' ps r)(hk:k'<=k)(hg:d7 ns g=true)(hp:cx g=true)(ha:PA X.nox (a::as) 3#0)(hs:(a::as).all notStar=true):
  PE X (.Call (.Name g p) (a::as) [] pos) (tXE cl M.K (xFn r mas) E):=by
 obtain⟨f,fd,hm,hkp,hb,F⟩:=F.ex;have e1:X.prog=M.P:=S.hP;have e2:X.w=M.w:=S.hw;have e3:X.K=M.K:=S.hK;have e4:X.mg=M.mg:=S.hm;have e5:X.base=M.base:=S.hb;rw[<-e1,<-e2,<-e3,<-e4,<-e5]at F;rw[<-e4]at hm;rw[<-e3]at hkp hb;rw[bU,ar]at hs;refine PE.con (zp F 13#3 4#3 hm hkp hb .nil L.pass ha.nox (di hp).1 (dh hs.1 _ _) (pR _ _ hs.2)) λG H Q h=>?_;obtain⟨μ,S0,Y,C,S',hr,er,q,aft⟩:=h;obtain⟨us,S1,e1,q⟩:=ba q;refine⟨μ,S0,Y,us,S1,hr,er,e1,λY0 vs H1 p1 k1 hr1 rs=>?_⟩;show spX cl M.K r (vs++[]) H1 Q E;rw[gK];exact⟨Y0,S1,us,C,S',hr1,rs,q,aft.mono p1 k1⟩
end
structure TOk(M:Mo)(T:Tb)(k:Nat):Prop where
 D:∀x mf,T.D.lookup x=some mf->∃k' ps,k'<=k/\Fn M x k' ps mf
 C:∀x u,T.C.lookup x=some u->∃g v,M.mg x=some g/\RelV v g /\ ∀H μ,RU H μ u v
 B:∀x∈jk,M.mg x=none
 L:∀x q,T.L.lookup x=some q->∃k' ps,k'<=k/\Lam M q.1 k' ps q.2
 mkr:T.mkr=true->∃c q P,M.mkr=some (c,q)/\Mkr M c P (q++T.Z.nm)
 Z:∀x r,T.Z.R.lookup x=some r->∃k' ps,k'<=k/\FnX M T.Z.cl x k' ps r
def GOk(M:Mo)(T:Tb)(k:Nat):Prop:=TOk M T k/\(T.mkr=true->∃j,j+2<=k/\(∀x F,T.H.lookup x=some F->∃k' ps,k'<=j+1/\FnC M x k' ps F)/\(∀x rz,T.Z.F.lookup x=some rz->∃k',k'<=j+1/\FnR M T.Z.cl x k' rz) /\ ∀caps capv cds base,gh M.mg base->TOk 7#2 T.bare j)
def IOk(M:Mo)(X:Cx)(tg it:Expr)(mi:MI):Prop:= ∃wi,PI X tg it wi /\
 (∀i ms D G H,tMS M.K (ee i mi ms) D G H->zh wi (kQ i) 13#6 D G H) /\
 (∀mt mc G H Q,tM M.K (bK mi mt mc) G H Q->sZ wi 5#3 (tM M.K mc) G H Q)
structure Snd(M:Mo)(T:Tb)(k n:Nat):Prop where
 e:∀N ns e m,cE T n N ns e=some m->∀X,Sc M X k N ns->PE X e (tM M.K m)
 c:∀N ns g as m,cC T n N ns g as=some m->d7 ns g=true->cx g=true->∀a r,as=a::r->∀X p1 pos,Sc M X k N ns->PE X (.Call (.Name g p1) as [] pos) (tM M.K m)
 v:∀N ns g as m,cV T n N ns g as=some m->∀a r,as=a::r->∀X p1 pos,Sc M X k N ns->PE X (.Call (.Name g p1) as [] pos) (tM M.K m)
 v0:∀N ns g m,cV T n N ns g []≠some m
 o:∀N ns o m,cO T n N ns o=some m->∀X,Sc M X k N ns->nK M X o m
 t:∀N ns e m,cT T n N ns e=some m->∀X,Sc M X k N ns->PT X e (tMT M.K m)
 l:∀N ns b vs m pos,cL T n N ns b vs=some m->∀X,Sc M X k N ns->PW X (.BoolOp (if b then .And else .Or) vs pos) (tMT M.K m)
 f:∀N ns vs m,cF T n N ns vs=some m->∀X,Sc M X k N ns->PTs X vs (tMT M.K m)
 a:∀N ns es m,cA T n N ns es=some m->∀X,Sc M X k N ns->PA X es (tMA M.K m)
 i:∀N ns tg it m,cI T n N ns it=some m->∀X,Sc M X k N ns->IOk M X tg it m
 g:∀N ns e m,cG T n N ns e=some m->∀X,Sc M X k N ns->PG X e (tG M.K m)
 gs:∀N ns es m,cGs T n N ns es=some m->∀X,Sc M X k N ns->PGs X es (tGs M.K m)
 s:∀N ns st m,cS T n N ns st=some m->∀X,Sc M X k N ns->PS X st (tMS M.K m)
 b:∀N ns sts m,cB T n N ns sts=some m->∀X,Sc M X k N ns->PSs X sts (tMS M.K m)
theorem eV{α:Type}{x:α}{P:Prop}(h:(none:Option α)=some x):P:=by cases h
theorem TX(M:Mo)(T:Tb)(k:Nat):Snd M T k 0:=
 ⟨λ_ _ _ _ h=>eV h,λ_ _ _ _ _ h=>eV h,λ_ _ _ _ _ h=>eV h,λ_ _ _ _ h=>eV h,λ_ _ _ _ h=>eV h,λ_ _ _ _ h=>eV h,λ_ _ _ _ _ _ h=>eV h,λ_ _ _ _ h=>eV h,λ_ _ _ _ h=>eV h,λ_ _ _ _ _ h=>eV h,λ_ _ _ _ h=>eV h,λ_ _ _ _ h=>eV h,λ_ _ _ _ h=>eV h,λ_ _ _ _ h=>eV h⟩
section
variable {M:Mo}{T:Tb}{k n:Nat}
variable{ns:NS}{X:Cx}{a:Expr}{ma mb:ME}{f:F2}{pos:Pos}
theorem Od{b:Expr}{op:Operator}(h:Nm op=some f)(S:Sc M X k N ns)(ha:PE X a 2#9)(hb:PE X b 5#9):PE X (.BinOp a op b pos) (tM M.K (m2 f ma mb)):=by
 cases op<;>simp only[Nm,fg,reduceCtorEq]at h<;>subst h
 .exact MO S ha hb
 .exact So ha hb
 .exact RY S ha hb
 .exact QQ ha hb
 .exact QS ha hb
 .exact Q1 ha hb
variable{op:CmpOp}
theorem O2{b:Expr}(h:Ad op=some f)(S:Sc M X k N ns)(ha:PE X a 2#9)(hb:PE X b 5#9)(hs:i3 b=true):
  PE X (.Compare a [op] [b] pos) (tM M.K (m2 f ma mb))/\PT X (.Compare a [op] [b] pos) (tMT M.K (cOf (m2 f ma mb))):=by
 obtain⟨r,ho,ou⟩:=Gw S h;exact⟨PE.con (Li ho ha hb (y6 hs _)) λ_ _ _ h=>zc ou h,PT.con (Ld ho ha hb (y6 hs _)) λ_ _ _ h=>BI (λ_ q=>zc ou q) h⟩
theorem IP{b c:Expr}{mc:ME}{op':CmpOp}{g:F2}(h:Ad op=some f)(h':Ad op'=some g)(S:Sc M X k N ns)(ha:PE X a 2#9)(hb:PE X b 5#9)(hc:PE X c (tM M.K mc))(hs:i3 c=true):
  PE X 27#3 (tM M.K (mCh f g ma mb mc))/\PT X 27#3 (tMT M.K (cOf (mCh f g ma mb mc))):=by
 obtain⟨r,ho,ou⟩:=Gw S h;obtain⟨r',ho',ou'⟩:=Gw S h';have hm:lastMarks [op,op'] [b,c]=false:=y6 hs _;exact⟨PE.con (F7 ho ho' ha hb hc hm) λ_ _ _ h=>Dm ou ou' h,PT.con (GY ho ho' ha hb hc hm) λ_ _ _ h=>BI (λ_ q=>Dm ou ou' q) h⟩
theorem NJ {t:Str}{c:String} (h:Gg t=some c):bootBuiltins t=some (.type c)/\c∈mG/\t≠"__name__"/\(t==("__debug__":Str))=false/\t∈jk:=by
 unfold Gg at h
 repeat' split at h
 all_goals first
  | cases h
    done
  | (rename_i q
     cases h;rw[eq_of_beq q]
     exact⟨by decide +kernel,by decide,by decide +kernel,by decide +kernel,by decide +kernel⟩)
variable{mas:MA}
theorem Kj{g:Str}{e:Expr}{es:List Expr}{p1:Pos}{mf:MF}(O:TOk M T k)(h:O3 g=some mf)(hg:d7 ns g=true)(S:Sc M X k N ns)(ha:PA X 1#7 3#0)(hs:(e::es).all notStar=true):
  PE X (.Call (.Name g p1) 1#7 [] pos) (tM M.K (mFn mf mas)):=by
 rw[bU,ar]at hs;have he:=dh hs.1 es X.env;have hp:=pR pos X.env hs.2;unfold O3 at h
 repeat' split at h
 all_goals first
  |(cases h;done)
  | (rename_i q
     cases h;rw[eq_of_beq q]at hg ⊢
     first
      |exact Iy S hg (O.B _ (by decide +kernel)) ha he hp
      |exact JK S hg (O.B _ (by decide +kernel)) ha he hp
      |exact TC S hg (O.B _ (by decide +kernel)) ha he hp
      |exact Q8 S hg (O.B _ (by decide +kernel)) ha he hp
      |exact Rz S hg (O.B _ (by decide +kernel)) ha he hp
      |exact HH S hg (O.B _ (by decide +kernel)) ha he hp
      |exact OX S hg (O.B _ (by decide +kernel)) ha he hp
      | exact PD S hg (O.B _ (by decide +kernel)) ha he hp)
theorem KI{name:Str}{o:Expr}{mo m:ME}{p1:Pos}(h:GX name mo mas=some m)(S:Sc M X k N ns)(ho:PE X o (tM M.K mo))(ha:PA X [a] 3#0)(hb:baseOk o=true)(hl:(p1.endLine==pos.line)=true)(hs:notStar a=true):
  PE X (.Call (.Attribute o name p1) [a] [] pos) 7#0:=by
 unfold GX at h
 repeat' split at h
 all_goals first
  |(cases h;done)
  | (rename_i q
     cases h;rw[eq_of_beq q]
     first
      |exact zR S ho ha (oq hb _ _) (uO hs _ _) hl (dh hs _ _) rfl
      |exact KA S ho ha (oq hb _ _) (uO hs _ _) hl (dh hs _ _) rfl
      |exact KR S ho ha hb hs hl
      | exact HW S ho ha hb hs hl)
end
section
variable {M:Mo}{T:Tb}{k n:Nat}
variable{ps:List Str}{ns:NS}
theorem tz{sc:Scope}(h:zk ps sc ns=true):jj ps (frees sc) sc /\ ∀y∈frees sc,ns.lookup y=some .cell/\(y,aZ)∈sc.names:=by
 unfold zk at h;simp only[ar,bI,Bool.not_eq_true',decide_eq_true_eq]at h;obtain⟨⟨⟨⟨⟨⟨h1,h2⟩,h3⟩,h4⟩,h5⟩,h6⟩,h7⟩:=h;have fm:∀y∈frees sc,(y,aZ)∈sc.names:=λy hy=>by
  obtain⟨z,hz,e⟩:=aQ.mp hy;obtain⟨a,b⟩:=eR.mp hz;obtain⟨z1,z2⟩:=z;cases e;have:z2=.free:=eq_of_beq b;rw[this]at a;exact a
 refine⟨⟨eq_of_beq h1,h2,h3,h4,λp hp=>?_,λx hx e=>?_,λy hy e=>aQ.mpr ⟨y,eR.mpr ⟨hy,by rw[e];rfl⟩,rfl⟩,λy hy=>eq_of_beq (h7 y hy).1⟩,λy hy=>⟨eq_of_beq (h7 y hy).2,fm y hy⟩⟩
 .have:=h5 p hp
  rw[kW]at this;exact this.imp eq_of_beq eq_of_beq
 .have:=h6 x hx
  rw[e]at this;simpa using this
theorem GOk.of(O:TOk M T k)(h:T.mkr=false):GOk M T k:=⟨O,λz=>by rw[h]at z;cases z⟩
theorem Td(O:TOk M T k)(R:Snd M T k n):∀N ns g as m,cV T (n+1) N ns g as=some m->∀a r,as=a::r->∀X p1 pos,Sc M X k N ns->PE X (.Call (.Name g p1) as [] pos) 7#0:=by
 intro N ns g as m h a r e X p1 pos S;subst e;simp only[cV,rc,sV]at h
 split at h
 .rename_i hs
  rw[ar]at hs;obtain⟨q,e1,h⟩:=bind_eq h;obtain⟨i,e2,h⟩:=bind_eq h;obtain⟨mas,e3,rfl⟩:=map_eq h;obtain⟨k',ps,hk,F⟩:=O.L _ _ e1;have hst:=ie e3;rw[bU,ar]at hst;obtain⟨n1,n2⟩:=di hs.2;exact Lr S F hk i (slot_get e2) hs.1 (R.a _ _ _ _ e3 X S) n1 n2 (dh hst.1 _ _) (pR _ _ hst.2)
 .cases h
section
variable {N:List Str}{ns:NS}{X:Cx}{m:ME}
variable{pos:Pos}
theorem LP{c:Const}{j}(h:Tf c=some m):PE X (.Constant c j pos) 7#0:=by
 cases c<;>first | (cases h;done) |skip
 all_goals cases h
 all_goals first |exact R1 |exact Uk |exact IS |exact PE.con GN λ_ _ _ q=>r_c (λ_ _=>by simp only[RU]) q
variable{a:Expr}
theorem Pk(R:Snd M T k n){op:UnaryOp}(h:eUn 2#1 T N ns a op=some m)(S:Sc M X k N ns):PE X (.UnaryOp op a pos) 7#0:=by
 cases op<;>first | (cases h;done) |skip
 all_goals obtain⟨ma,e1,rfl⟩:=map_eq h
 all_goals first |exact Re (R.e _ _ _ _ e1 X S) |exact Pf (R.e _ _ _ _ e1 X S)
variable{vs:List Expr}
theorem Oe(R:Snd M T k n){op:BoolOp}{p:Pos}(h:eBo 2#1 T N ns op p vs=some m)(S:Sc M X k N ns):PE X (.BoolOp op vs p) 7#0:=by
 unfold eBo at h
 split at h
 .cases h
 .exact Oa (R.e _ _ _ _ h X S)
 .obtain⟨ma,e1,h⟩:=bind_eq h
  cases op
  .obtain⟨mb,e2,rfl⟩:=map_eq h
   exact M7 5#1 7#9
  .obtain⟨mb,e2,rfl⟩:=map_eq h
   exact Tt 5#1 7#9
theorem Gq(R:Snd M T k n){ops:List CmpOp}{bs:List Expr}(h:eCm 2#1 T N ns a ops bs=some m)(S:Sc M X k N ns):PE X (.Compare a ops bs pos) 7#0/\PT X (.Compare a ops bs pos) (tMT M.K (cOf m)):=by
 unfold eCm at h
 split at h
 .split at h
  .rename_i hs
   obtain⟨ma,e1,h⟩:=bind_eq h;obtain⟨mb,e2,h⟩:=bind_eq h;obtain⟨f,e3,rfl⟩:=map_eq h;exact O2 e3 S 5#1 7#9 hs
  .cases h
 .split at h
  .rename_i hs
   rw[ar]at hs;obtain⟨ma,e1,h⟩:=bind_eq h;obtain⟨mb,e2,h⟩:=bind_eq h;obtain⟨mc,e3,h⟩:=bind_eq h;obtain⟨f,e4,h⟩:=bind_eq h;obtain⟨g,e5,rfl⟩:=map_eq h;exact IP e4 e5 S 5#1 7#9 (R.e _ _ _ _ e3 X S) hs.2
  .cases h
 .cases h
theorem Lw{s:Expr}(h:Ki s=true):∃j p3 p4,s=.UnaryOp .USub (.Constant (.int 1) j p3) p4:=by
 unfold Ki at h
 split at h
 .rename_i i j p3 p4
  rw[eq_of_beq h];exact⟨j,p3,p4,rfl⟩
 .cases h
theorem Ov(R:Snd M T k n){b:Expr}(h:eSb 2#1 T N ns a b=some m)(S:Sc M X k N ns):PE X (.Subscript a b pos) 7#0:=by
 unfold eSb at h
 split at h
 .rename_i lo hi st p
  cases st with
  | none=>
    obtain⟨ma,e1,h⟩:=bind_eq h;obtain⟨ml,e2,h⟩:=bind_eq h;obtain⟨mh,e3,rfl⟩:=map_eq h;exact KL S 5#1 (R.o _ _ _ _ e2 X S) (R.o _ _ _ _ e3 X S)
  | some s=>
    have h:(if lo.isNone&&hi.isNone&&Ki s then((rc n).e T N ns a).map (m1 sH) else none)=some m:=h
    split at h
    .rename_i hs
     rw[ar,ar]at hs;obtain⟨⟨h1,h2⟩,h3⟩:=hs;cases lo with
     |some z=>cases h1
     | none=>
       cases hi with
       |some z=>cases h2
       | none=>
         obtain⟨j,p3,p4,rfl⟩:=Lw h3;obtain⟨ma,e1,rfl⟩:=map_eq h;exact SV S 5#1
    .cases h
 .split at h
  .rename_i hs
   obtain⟨ma,e1,h⟩:=bind_eq h;obtain⟨mb,e2,rfl⟩:=map_eq h;exact Ub S 5#1 7#9 (Mp hs)
  .cases h
theorem Qe(R:Snd M T k n){ks:List (Option Expr)}(h:eDi 2#1 T N ns ks vs=some m)(S:Sc M X k N ns):PE X (.Dict ks vs pos) 7#0:=by
 unfold eDi at h
 split at h
 .cases h;exact O6
 .obtain⟨ma,e1,h⟩:=bind_eq h
  obtain⟨mb,e2,rfl⟩:=map_eq h;exact NK 5#1 7#9
 .cases h
theorem Km{e:Expr}(h:P1 x e=true):∃p,e=.Name x p:=by
 cases e with
 |Name g p=>exact⟨p,by rw[eq_of_beq (show(g==x)=true from h)]⟩
 |_=>cases h
theorem EW {e:Expr} (h:Ii e=some a) :∃ p q,e=.Call (.Name "enumerate" p) [a] [] q:=by
 cases e with
 | Call g as ks p=>
   replace h:(if P1 "enumerate" g&&(ks.isEmpty&&as.length==1) then as.head? else none)=some a:=h
   split at h
   .rename_i q
    obtain⟨q1,q⟩:=dW.mp q;obtain⟨q2,q3⟩:=dW.mp q;obtain⟨p1,rfl⟩:=Km q1;obtain⟨b,rfl⟩:=FK.mp (eq_of_beq q3);cases h;rw[oE.mp q2];exact⟨_,_,rfl⟩
   .cases h
 |_=>cases h
theorem P3(O:TOk M T k)(R:Snd M T k n){it:Expr}{mi:MI}{ts:List Expr}{kt:Nat}{pt:Pos}(h:eIc 2#1 T N ns it=some mi)(S:Sc M X k N ns):
  ∃wi,PI X 16#0 it wi /\ ∀c mt mc G H Q,tM M.K (iu c mi mt mc) G H Q->si (gTt M.K c) wi 5#3 (tM M.K mc) G H Q:=by
 unfold eIc at h
 split at h
 .rename_i a ha
  obtain⟨p,q,rfl⟩:=EW ha
  split at h
  .rename_i hg
   obtain⟨ma,e1,rfl⟩:=map_eq h;have hst:=ie e1;simp only[bU,jv,iJ]at hst;exact⟨_,CN S hg 11#9 11#5 (dh hst _ _),λ_ _ _ _ _ _ q=>QY q⟩
  .cases h
 .obtain⟨ma,e1,rfl⟩:=map_eq h
  exact⟨_,LF S 5#1,λ_ _ _ _ _ _ q=>Rq q⟩
variable{elt:Expr}{scope:Scope}
theorem OR(O:TOk M T k)(R:Snd M T k n){it:Expr}{ifs:List Expr}{px:Pos}(h:eLn 2#1 T N ns elt it ifs scope x=some m)(S:Sc M X k N ns)(hk:scope.kind=.function)(ok:oh N (B5 N x) ns scope.names x=true)(hs:i3 it=true):
  PE X (.ListComp elt [⟨.Name x px,it,ifs,0⟩] scope pos) 7#0:=by
 unfold eLn at h;obtain⟨mi,e1,h⟩:=bind_eq h;obtain⟨mt,e2,h⟩:=bind_eq h;obtain⟨mc,e3,rfl⟩:=map_eq h;obtain⟨wi,h1,_,h3⟩:=R.i _ _ _ _ _ e1 X S;exact Jc S hk ok h1 (λX' S'=>R.f _ _ _ _ e2 X' S') (λX' S'=>R.e _ _ _ _ e3 X' S') (h3 mt mc) (qx hs _)
theorem PN(O:TOk M T k)(R:Snd M T k n){gens:List Comprehension}(h:eLc 2#1 T N ns elt scope gens=some m)(S:Sc M X k N ns):PE X (.ListComp elt gens scope pos) 7#0:=by
 unfold eLc at h
 split at h
 rotate_left
 .cases h
 rename_i c
 obtain⟨tg,it,ifs,ia⟩:=c
 split at h
 rotate_left
 .cases h
 rename_i h0
 have h0':ia=0:=h0;subst h0';have h:eLt 2#1 T N ns elt it ifs scope tg=some m:=h;unfold eLt at h
 split at h
 .split at h
  .rename_i hs
   rw[ar,ar]at hs;exact OR O R h S (eq_of_beq hs.1.1) hs.1.2 hs.2
  .cases h
 .obtain⟨xs,e0,h⟩:=bind_eq h
  split at h
  .rename_i hs
   rw[ar,ar]at hs;obtain⟨mi,e1,h⟩:=bind_eq h;obtain⟨mt,e2,h⟩:=bind_eq h;obtain⟨mc,e3,rfl⟩:=map_eq h;obtain⟨wi,h1,h3⟩:=P3 O R e1 S;exact Ks S (eq_of_beq hs.1.1) hs.1.2 (zU e0) h1 (λX' S'=>R.f _ _ _ _ e2 X' S') (λX' S'=>R.e _ _ _ _ e3 X' S') (λ_ _ _ q=>h3 _ _ _ _ _ _ q) (qx hs.2 _)
  .cases h
 .cases h
variable{g:Str}{p1:Pos}
theorem OU (O:TOk M T k) (R:Snd M T k n) {rs:List Expr}{q rp:Pos} (h:eRg 2#1 T N ns g rs=some m) (S:Sc M X k N ns) (hl:g="list"\/g="tuple") (hg:d7 ns g=true) (hr:d7 ns "range"=true) :
  PE X (.Call (.Name g p1) [.Call (.Name "range" q) rs [] rp] [] pos) 7#0:=by
 unfold eRg at h
 split at h
 .rcases hl with rfl|rfl
  .rw[if_pos 1#0]at h
   obtain⟨ma,e1,rfl⟩:=map_eq h;have hst:=ie e1;simp only[bU,jv,iJ]at hst;exact G5 S hg 11#9 hr 11#9 11#5 hst
  .rw[if_neg 1#0]at h
   obtain⟨ma,e1,rfl⟩:=map_eq h;have hst:=ie e1;simp only[bU,jv,iJ]at hst;exact Lb S hg 11#9 hr 11#9 11#5 hst
 .rcases hl with rfl|rfl
  .rw[if_pos 1#0]at h
   obtain⟨ma,e1,rfl⟩:=map_eq h;have hst:=ie e1;simp only[bU,jv,iJ,ar]at hst;exact Gz S hg 11#9 hr 11#9 11#5 hst.1 hst.2
  .rw[if_neg 1#0]at h
   cases h
 .cases h
theorem FS{cl:Nat->Addr}{E:XK}{X:Cx}{o:Expr}{mo:ME}{r:MX}(S:Sc M X.nox k N ns)(ho:PE X.nox o (tM M.K mo))(ha:PE X a (tXE cl M.K r E))(hb:baseOk o=true)(hs:notStar a=true)(hl:(p1.endLine==pos.line)=true):
  PE X (.Call (.Attribute o "append" p1) [a] [] pos) (tXE cl M.K (xML mo r) E):=by
 have hK:X.K=M.K.K:=S.hK;refine PE.con (CK (r:=λ_ _ _ _=>False) (t:=tXA cl M.K r E) fN A7 A8 (λ_ _ _ _ _ _ _ _ _ _ _ _ z=>z.elim) ho.nox (λpos pins s G H Q I q=>jI (t:=λ_ _ _=>False) ha (λ_ _ _ _ _ _ _ h=>h.elim) (dh hs _ _) pos pins s G H Q I q) (oq hb _ _) (uO hs _ _) hl (dh hs _ _) rfl) λG H Q h=>?_;obtain⟨μ,S0,Y,C,S',hr,er,e,aft⟩:=h;obtain⟨x,S1,e1,e⟩:=ba e
 split at e
 .rename_i n
  cases q:getL S1 n with
  |none=>rw[q]at e;cases e
  | some ws=>
    rw[q]at e;refine⟨μ,S0,Y,_,S1,hr,er,e1,λY0 vx H1 p1 k1 hr1 rx=>?_⟩;obtain⟨p,rfl,hp⟩:=fF rx;obtain⟨p',ys,hp',hs',r'⟩:=hr1.sq q;rw[hp]at hp';cases hp';exact⟨hK ▸ .inl ⟨rfl,ys,hs'⟩,Y0,S1,Y,C,S',hr1,er.mono k1 p1,e,aft.mono p1 k1⟩
 .cases e
theorem OB(Gk:GOk M T k)(RA:∀M T k,GOk M T k->Snd M T k n){p:Arguments}{b:Expr}{sc:Scope}{lp:Pos}(h:HJ 2#1 T N ns g p b sc=some m)(S:Sc M X k N ns)(hg:d7 ns g=true)(hn:cx g=true):
  PE X (.Call (.Name g p1) [.Lambda p b sc lp] [] pos) 7#0:=by
 unfold HJ at h
 split at h
 rotate_left
 .cases h
 rename_i hc
 simp only[ar]at hc;obtain⟨⟨⟨hT,hnm⟩,hp⟩,hl⟩:=hc;have hp':p=Aq:=by
  unfold IA at hp;rw[ar,oE]at hp;rw[vh hp.1,hp.2];rfl
 subst hp';obtain⟨is,e1,h⟩:=bind_eq h;obtain⟨ml,e2,h⟩:=bind_eq h;obtain⟨rl,e3,h⟩:=bind_eq h;obtain⟨rz,e4,rfl⟩:=map_eq h;obtain⟨c,q,P,hmk,MK⟩:=Gk.1.mkr hT;rw[eq_of_beq hnm]at MK;obtain⟨j,hj,hH,hF,hB⟩:=Gk.2 hT;obtain⟨k',hk',FR⟩:=hF _ _ e4;obtain⟨LS,hfs⟩:=tz hl;refine J4 S FR hk' hj hmk MK hg (di hn).1 LS hfs e1 (λcaps capv cds base hbb X' S'=>(RA _ _ _ 34#3).e _ _ _ _ e2 X' S') λcaps capv cds base hbb X' E L S'=>?_;have f8:∀{e:Expr}{rl:MX},AF 2#1 T ([]++frees sc) sc.names e=some rl->PE X' e (tXE T.Z.cl 11#4 rl E):=by
  intro e rl e3;unfold AF at e3
  split at e3
  .split at e3
   .rename_i hs
    rw[ar]at hs;obtain⟨rf,e5,e3⟩:=bind_eq e3;obtain⟨mas,e6,rfl⟩:=map_eq e3;obtain⟨k2,ps,hk2,FX⟩:=(hB caps capv cds base hbb).Z _ _ e5;exact x_call L S' FX hk2 hs.1 hs.2 ((RA _ _ _ 34#3).a _ _ _ _ e6 _ S') (ie e6)
   .cases e3
  .cases e3
 unfold MN at e3
 split at e3
 .rename_i g a q
  rcases Option.or_eq_some_iff.mp e3 with h|⟨_,h⟩
  .unfold L9 at h
   split at h
   .rename_i o x p
    split at h
    .rename_i hs
     simp only[ar]at hs;obtain⟨⟨⟨hx,hb⟩,hl⟩,hst⟩:=hs;obtain⟨mo,e5,h⟩:=bind_eq h;obtain⟨r,e6,rfl⟩:=map_eq h;rw[eq_of_beq hx];exact FS S' ((RA _ _ _ 34#3).e _ _ _ _ e5 _ S') (f8 e6) hb hst hl
    .cases h
   .cases h
  .exact f8 h
 .exact f8 e3
variable{as:List Expr}
theorem Nt(Gk:GOk M T k)(R:Snd M T k n)(RA:∀M T k,GOk M T k->Snd M T k n)(h:eCf 2#1 T N ns g as=some m)(S:Sc M X k N ns)(hg:d7 ns g=true)(hn:cx g=true):
  PE X (.Call (.Name g p1) as [] pos) 7#0:=by
 have O:=Gk.1;unfold eCf at h
 split at h
 .obtain⟨mf,e1,rfl⟩:=map_eq h
  obtain⟨k',ps,hk,F⟩:=O.D _ _ e1;exact La S F hk hg (di hn).1
 .unfold eC1 at h
  split at h
  .exact OB Gk RA h S hg hn
  .split at h
   .rename_i hl
    rw[ar,kW]at hl
    split at h
    .rename_i hr
     rw[eq_of_beq hl.2]at hr ⊢;exact OU O R h S (hl.1.imp eq_of_beq eq_of_beq) hg hr
    .cases h
   .exact R.c _ _ _ _ _ h hg hn _ _ rfl X _ _ S
  .exact R.c _ _ _ _ _ h hg hn _ _ rfl X _ _ S
 .unfold eC2 at h
  split at h
  .unfold eIs at h
   split at h
   .rename_i hl
    split at h
    .rename_i ht
     obtain⟨c,e1,h⟩:=bind_eq h;obtain⟨ma,e2,rfl⟩:=map_eq h;obtain⟨c1,c2,c3,c4,c5⟩:=NJ e1;rw[ar]at ht;rw[eq_of_beq hl]at hg ⊢;exact SG S hg 11#9 ht.1 (O.B _ c5) c1 c2 c3 c4 7#9 ht.2
    .cases h
   .exact R.c _ _ _ _ _ h hg hn _ _ rfl X _ _ S
  .unfold SE at h
   split at h
   .rename_i hs
    rw[ar,ar]at hs;obtain⟨⟨hT,hnm⟩,hst⟩:=hs;obtain⟨ps,e0,h⟩:=bind_eq h
    split at h
    .rename_i hl
     obtain⟨is,e1,h⟩:=bind_eq h;obtain⟨ma,e2,h⟩:=bind_eq h;obtain⟨ml,e3,h⟩:=bind_eq h;obtain⟨F,e4,rfl⟩:=map_eq h;obtain⟨c,q,P,hmk,MK⟩:=O.mkr hT;rw[eq_of_beq hnm]at MK;obtain⟨j,hj,hH,hF,hB⟩:=Gk.2 hT;obtain⟨k',gps,hk',FC⟩:=hH _ _ e4;obtain⟨LS,hfs⟩:=tz hl;exact LV S FC hk' hj hmk MK hg (di hn).1 7#9 (dh hst _ _) e0 LS hfs e1
      λcaps capv cds base hb X' S'=>(RA _ _ _ ⟨hB caps capv cds base hb,λz=>by cases z⟩).e _ _ _ _ e3 X' S'
    .cases h
   .cases h
  .exact R.c _ _ _ _ _ h hg hn _ _ rfl X _ _ S
 .exact R.c _ _ _ _ _ h hg hn _ _ rfl X _ _ S
theorem Ni(R:Snd M T k n){o:Expr}{name:Str}{p q:Pos}(h:eMe 2#1 T N ns o name p q as=some m)(S:Sc M X k N ns):PE X (.Call (.Attribute o name p) as [] q) 7#0:=by
 unfold eMe at h
 split at h
 .split at h
  .rename_i hs
   rw[ar,ar]at hs;obtain⟨mo,e1,rfl⟩:=map_eq h;rw[eq_of_beq hs.2];exact OL S 5#1 hs.1.1 hs.1.2
  .cases h
 .split at h
  .rename_i hs
   rw[ar,ar]at hs;obtain⟨mo,e1,h⟩:=bind_eq h;obtain⟨mas,e2,h⟩:=bind_eq h;exact KI h S 5#1 (R.a _ _ _ _ e2 X S) hs.1.1 hs.1.2 hs.2
  .cases h
 .cases h
end
theorem SW(Gk:GOk M T k)(R:Snd M T k n)(RA:∀M T k,GOk M T k->Snd M T k n):∀N ns e m,cE T (n+1) N ns e=some m->∀X,Sc M X k N ns->PE X e 7#0:=by
 have O:=Gk.1;intro N ns e m h X S;have h:sE 2#1 T N ns e=some m:=h;cases e with
 | Name x p=>
   have h:(if cx x then(if pY ns x then(slot N x).map ae else if d7 ns x then(T.C.lookup x).map mC else none) else none)=some m:=h
   split at h
   .rename_i hn
    obtain⟨n1,n2⟩:=di hn
    split at h
    .rename_i hv
     obtain⟨i,e1,rfl⟩:=map_eq h;exact Mv S i (slot_get e1) hv n1 n2
    .split at h
     .rename_i hg
      obtain⟨u,e1,rfl⟩:=map_eq h;obtain⟨g,v,hm,r,hv⟩:=O.C _ _ e1;exact OE S hg hm r hv n1
     .cases h
   .cases h
 |Constant c j p=>exact LP h
 | BinOp a op b p=>
   obtain⟨ma,e1,h⟩:=bind_eq (show((rc n).e T N ns a).bind _=some m from h);obtain⟨mb,e2,h⟩:=bind_eq h;obtain⟨f,e3,rfl⟩:=map_eq h;exact Od e3 S 5#1 7#9
 |UnaryOp op a p=>exact Pk R h S
 |BoolOp op vs p=>exact Oe R h S
 |Compare a ops bs p=>exact(Gq R h S).1
 | IfExp c a b p=>
   obtain⟨mc,e1,h⟩:=bind_eq (show((rc n).t T N ns c).bind _=some m from h);obtain⟨ma,e2,h⟩:=bind_eq h;obtain⟨mb,e3,rfl⟩:=map_eq h;exact SL 20#7 7#9 (R.e _ _ _ _ e3 X S)
 |Subscript a b p=>exact Ov R h S
 |Dict ks vs p=>exact Qe R h S
 | Tuple es j p=>
   obtain⟨ma,e1,rfl⟩:=map_eq (show((rc n).a T N ns es).map de=some m from h);exact Sy 11#5
 | List es p=>
   obtain⟨ma,e1,rfl⟩:=map_eq (show((rc n).a T N ns es).map bH=some m from h);exact GT 11#5
 |ListComp elt gens scope p=>exact PN Gk.1 R h S
 | Call f as kws q=>
   have h:(if kws.isEmpty then eCa 2#1 T N ns as q f else none)=some m:=h;cases kws with
   |cons w ws=>cases h
   | nil=>
     have h:eCa 2#1 T N ns as q f=some m:=h;unfold eCa at h
     split at h
     .split at h
      .rename_i hs
       rw[ar]at hs;exact Nt Gk R RA h S hs.1 hs.2
      .cases as with
       |nil=>exact absurd h (R.v0 _ _ _ _)
       |cons a r=>exact R.v _ _ _ _ _ h _ _ rfl X _ _ S
     .exact Ni R h S
     .cases h
 |_=>cases h
theorem RE(O:TOk M T k)(R:Snd M T k n):∀N ns g as m,cC T (n+1) N ns g as=some m->d7 ns g=true->cx g=true->∀a r,as=a::r->∀X p1 pos,Sc M X k N ns->PE X (.Call (.Name g p1) as [] pos) 7#0:=by
 intro N ns g as m h hg hn a r e X p1 pos S;subst e;simp only[cC,rc,sC]at h;obtain⟨mas,e1,h⟩:=bind_eq h;have hst:=ie e1
 split at h
 .rename_i mf hb
  cases h;exact Kj O hb hg S 11#5 hst
 .obtain⟨mf,e2,rfl⟩:=map_eq h
  obtain⟨k',ps,hk,F⟩:=O.D _ _ e2;rw[bU,ar]at hst;exact OZ S F hk hg 11#5 (di hn).1 (dh hst.1 _ _) (pR _ _ hst.2)
theorem R4(R:Snd M T k n):∀N ns o m,cO T (n+1) N ns o=some m->∀X,Sc M X k N ns->nK M X o m:=by
 intro N ns o m h X S;simp only[cO,rc,sO]at h
 split at h
 .cases h;exact .none
 .obtain⟨me,e1,rfl⟩:=map_eq h
  exact .some 5#1
theorem Rh(R:Snd M T k n):∀N ns e m,cT T (n+1) N ns e=some m->∀X,Sc M X k N ns->PT X e (tMT M.K m):=by
 intro N ns e m h X S;simp only[cT,rc,sT]at h
 split at h
 .obtain⟨ma,e1,rfl⟩:=map_eq h
  exact Mu 20#7
 .exact PW.pt (R.l _ _ true _ _ _ h X S)
 .exact PW.pt (R.l _ _ false _ _ _ h X S)
 .obtain⟨mc,e1,rfl⟩:=map_eq h
  exact(Gq R e1 S).2
 .split at h
  .rename_i hs
   obtain⟨ma,e1,rfl⟩:=map_eq h;exact Mk 5#1 (I0 hs _)
  .cases h
theorem Ss(R:Snd M T k n):∀N ns b vs m pos,cL T (n+1) N ns b vs=some m->∀X,Sc M X k N ns->PW X (.BoolOp (if b then .And else .Or) vs pos) (tMT M.K m):=by
 intro N ns b vs m pos h X S;simp only[cL,rc,sL]at h
 split at h
 .cases h
 .cases b
  .exact QW (R.t _ _ _ _ h X S)
  .exact NW (R.t _ _ _ _ h X S)
 .rename_i a r hr
  obtain⟨ma,e1,h⟩:=bind_eq h;obtain⟨mr,e2,rfl⟩:=map_eq h;cases r with
  |nil=>exact(hr rfl).elim
  | cons c r=>
    have h2:=R.l _ _ b _ _ pos e2 X S;cases b
    .exact Uc 20#7 h2
    .exact Tv 20#7 h2
theorem R3(R:Snd M T k n):∀N ns vs m,cF T (n+1) N ns vs=some m->∀X,Sc M X k N ns->PTs X vs (tMT M.K m):=by
 intro N ns vs m h X S;simp only[cF,rc,sF]at h
 split at h
 .cases h;exact Ou
 .exact Se (R.t _ _ _ _ h X S)
 .cases h
theorem Rl(R:Snd M T k n):∀N ns es m,cA T (n+1) N ns es=some m->∀X,Sc M X k N ns->PA X es (tMA M.K m):=by
 intro N ns es m h X S;simp only[cA,rc,sA]at h
 split at h
 .cases h;exact Cw
 .split at h
  .rename_i hs
   obtain⟨ma,e1,h⟩:=bind_eq h;obtain⟨mr,e2,rfl⟩:=map_eq h;exact mY 5#1 (R.a _ _ _ _ e2 X S) (dh hs _ _)
  .cases h
variable{X:Cx}{e:Expr}
theorem GK{tg:Expr}{m:ME}(S:Sc M X k N ns)(h:PE X e 7#0):IOk M X tg e (b0 m):=
 ⟨_,LF S h,λ_ _ _ _ _ q=>TV q,λ_ _ _ _ _ q=>Ug q⟩
theorem QA(O:TOk M T k)(R:Snd M T k n):∀N ns tg it m,cI T (n+1) N ns it=some m->∀X,Sc M X k N ns->IOk M X tg it m:=by
 intro N ns tg it m h X S;simp only[cI,rc,sI]at h
 split at h
 .split at h
  .rename_i hr
   split at h
   .rename_i hg
    rw[eq_of_beq hr]at hg ⊢
    split at h
    .obtain⟨ma,e1,rfl⟩:=map_eq h
     have hst:=ie e1;simp only[bU,jv,iJ]at hst;exact⟨_,RN S hg 11#9 11#5 (dh hst _ _),λ_ _ _ _ _ q=>Qp q,λ_ _ _ _ _ q=>Ra q⟩
    .obtain⟨ma,e1,rfl⟩:=map_eq h
     have hst:=ie e1;simp only[bU,jv,iJ,ar]at hst;exact⟨_,Qx S hg 11#9 11#5 (by rw[dh hst.1,dh hst.2];rfl) (by rw[dh hst.2];rfl),λ_ _ _ _ _ q=>SR q,λ_ _ _ _ _ q=>Rm q⟩
    .cases h
   .cases h
  .obtain⟨ma,e1,rfl⟩:=map_eq h
   exact GK S 5#1
 .obtain⟨ma,e1,rfl⟩:=map_eq h
  exact GK S 5#1
theorem Sj(R:Snd M T k n):∀N ns e m,cG T (n+1) N ns e=some m->∀X,Sc M X k N ns->PG X e (tG M.K m):=by
 intro N ns e m h X S;simp only[cG,rc,sG]at h
 split at h
 .split at h
  .rename_i hs
   obtain⟨i,e1,rfl⟩:=map_eq h;exact PG.con (DL (by rw[S.hN];exact S.nd) (by rw[S.hN];exact slot_get e1) (S.lo hs).1 (S.lo hs).2) λ_ _ _ _ q=>Ux q
  .cases h
 .obtain⟨gs,e1,rfl⟩:=map_eq h
  obtain⟨h1,h2⟩:=DO X.env _ (zJ e1);refine PG.con (OV S.calm (R.gs _ _ _ _ e1 X S) h1 h2) λ_ _ _ _ q=>?_;rw[S.hK];exact R7 q
 .cases h
theorem NU(R:Snd M T k n):∀N ns es m,cGs T (n+1) N ns es=some m->∀X,Sc M X k N ns->PGs X es (tGs M.K m):=by
 intro N ns es m h X S;simp only[cGs,rc,sGs]at h
 split at h
 .cases h;exact PGs.con KD λ_ _ _ _ q=>NC q
 .split at h
  .rename_i hs
   obtain⟨g,e1,h⟩:=bind_eq h;obtain⟨gs,e2,rfl⟩:=map_eq h;exact PGs.con (Iw (R.g _ _ _ _ e1 X S) (R.gs _ _ _ _ e2 X S) (by rw[Ac hs];rfl)) λ_ _ _ _ q=>K8 q
  .cases h
variable{it:Expr}
theorem PK(O:TOk M T k)(R:Snd M T k n){mi:MI}{ts:List Expr}{kt:Nat}{pt:Pos}(h:eIt 2#1 T N ns it=some mi)(S:Sc M X k N ns):
  ∃wi,PI X 16#0 it wi /\ ∀g mb D G H,tMS M.K (vB g mi mb) D G H->zh wi (tG M.K g) (tMS M.K mb) D G H:=by
 unfold eIt at h
 split at h
 .split at h
  .rename_i hr
   split at h
   .rename_i hg
    rw[eq_of_beq hr]at hg ⊢;obtain⟨ma,e1,rfl⟩:=map_eq h;have hst:=ie e1;simp only[bU,jv,iJ]at hst;exact⟨_,CN S hg 11#9 11#5 (dh hst _ _),λ_ _ _ _ _ q=>Sk q⟩
   .cases h
  .obtain⟨ma,e1,rfl⟩:=map_eq h
   exact⟨_,LF S 5#1,λ_ _ _ _ _ q=>MD q⟩
 .obtain⟨ma,e1,rfl⟩:=map_eq h
  exact⟨_,LF S 5#1,λ_ _ _ _ _ q=>MD q⟩
variable{m:MS}{p1 p3:Pos}
theorem KH(R:Snd M T k n){y:Str}{elt tg:Expr}{ifs:List Expr}{scope:Scope}{p2:Pos}(h:NB 2#1 T N ns y elt it ifs scope tg=some m)(S:Sc M X k N ns):
  PS X (.Assign [.Name y p1] (.ListComp elt [⟨tg,it,ifs,0⟩] scope p2) p3) (tMS M.K m):=by
 unfold NB at h
 split at h
 .split at h
  .rename_i hs
   rw[ar,ar,ar]at hs;obtain⟨i,e0,h⟩:=bind_eq h;obtain⟨mi,e1,h⟩:=bind_eq h;obtain⟨mt,e2,h⟩:=bind_eq h;obtain⟨mc,e3,rfl⟩:=map_eq h;obtain⟨wi,h1,_,h3⟩:=R.i _ _ _ _ _ e1 X S;exact NR S i (slot_get e0) hs.1 (eq_of_beq hs.2.1.1) hs.2.1.2 h1 (λX' S'=>R.f _ _ _ _ e2 X' S') (λX' S'=>R.e _ _ _ _ e3 X' S') (h3 mt mc) (qx hs.2.2 _)
  .cases h
 .cases h
theorem K5(R:Snd M T k n)(h:Pd 2#1 T N ns x e=some m)(S:Sc M X k N ns):PS X (.Assign [.Name x p1] e p3) (tMS M.K m):=by
 unfold Pd at h
 split at h
 .unfold SM at h
  split at h
  .rename_i c
   obtain⟨tg,it,ifs,ia⟩:=c
   split at h
   .rename_i h0
    have h0':ia=0:=h0;subst h0';exact KH R h S
   .cases h
  .cases h
 .split at h
  .rename_i hs
   rw[ar]at hs;obtain⟨i,e1,h⟩:=bind_eq h;obtain⟨me,e2,rfl⟩:=map_eq h;exact Ar S i (slot_get e1) hs.1 7#9 (qp hs.2 _ _ _)
  .cases h
theorem Lp(R:Snd M T k n){t:Expr}(h:Qd 2#1 T N ns e t=some m)(S:Sc M X k N ns):PS X (.Assign [t] e p3) (tMS M.K m):=by
 unfold Qd at h
 split at h
 .exact K5 R h S
 .split at h
  .rename_i hs
   rw[ar]at hs;obtain⟨ma,e1,h⟩:=bind_eq h;obtain⟨mb,e2,h⟩:=bind_eq h;obtain⟨me,e3,rfl⟩:=map_eq h;exact J0 S 5#1 7#9 (R.e _ _ _ _ e3 X S) (CJ hs.1 _ _ _) Bx rfl (Oj hs.2 _)
  .cases h
 .split at h
  .rename_i hs
   rw[ar]at hs;obtain⟨g,e1,h⟩:=bind_eq h;obtain⟨me,e2,rfl⟩:=map_eq h;exact PS.con (Gi 7#9 (R.g _ _ _ _ e1 X S) (CJ hs.1 _ _ _) (zT hs.2) rfl) λ_ _ _ q=>SF q
  .cases h
 .cases h
theorem NA(R:Snd M T k n){op:Operator}(h:sAu 2#1 T N ns x e op=some m)(S:Sc M X k N ns):PS X (.AugAssign 12#0 op e p3) (tMS M.K m):=by
 unfold sAu at h;cases h
theorem Pr(O:TOk M T k)(R:Snd M T k n){t:Expr}{body:List Stmt}(h:sFo 2#1 T N ns it body t=some m)(S:Sc M X k N ns):PS X (.For t it body [] p3) (tMS M.K m):=by
 unfold sFo at h
 split at h
 .split at h
  .rename_i hs
   rw[ar]at hs;obtain⟨i,e1,h⟩:=bind_eq h;obtain⟨mi,e2,h⟩:=bind_eq h;obtain⟨mb,e3,rfl⟩:=map_eq h;obtain⟨wi,h1,h2,_⟩:=R.i _ _ _ _ _ e2 X S;exact QT S i (slot_get e1) hs.1 h1 (R.b _ _ _ _ e3 X S) (h2 i mb) (qx hs.2 _)
  .cases h
 .rename_i ts kt pt
  split at h
  .rename_i hs
   obtain⟨g,e1,h⟩:=bind_eq h;obtain⟨mi,e2,h⟩:=bind_eq h;obtain⟨mb,e3,rfl⟩:=map_eq h;obtain⟨wi,h1,h2⟩:=PK O R (ts:=ts) (kt:=kt) (pt:=pt) e2 S;exact PS.con (He S.own S.calm h1 (R.g _ _ _ _ e1 X S) (R.b _ _ _ _ e3 X S) (qx hs _)) λ_ _ _ q=>h2 _ _ _ _ _ q
  .cases h
 .cases h
theorem RI(O:TOk M T k)(R:Snd M T k n):∀N ns st m,cS T (n+1) N ns st=some m->∀X,Sc M X k N ns->PS X st (tMS M.K m):=by
 intro N ns st m h X S;have h:sS 2#1 T N ns st=some m:=h;cases st with
 | Assign ts e p=>
   have h:sAs 2#1 T N ns e ts=some m:=h;unfold sAs at h
   split at h
   .exact Lp R h S
   .cases h
 | AugAssign t op e p=>
   have h:O8 2#1 T N ns op e t=some m:=h;unfold O8 at h
   split at h
   .exact NA R h S
   .cases h
 | Expr e p=>
   have h:(if je e then((rc n).e T N ns e).map du else none)=some m:=h
   split at h
   .rename_i hs
    obtain⟨me,e2,rfl⟩:=map_eq h;exact Hg 7#9 (qp hs _ _ _)
   .cases h
 | Return o p=>
   have h:sRt 2#1 T N ns o=some m:=h;unfold sRt at h
   split at h
   .obtain⟨me,e2,rfl⟩:=map_eq h
    exact Mb 7#9
   .cases h;exact Pj
 | If c a b p=>
   obtain⟨mc,e1,h⟩:=bind_eq h;obtain⟨ma,e2,h⟩:=bind_eq h;obtain⟨mb,e3,rfl⟩:=map_eq h;exact Q3 20#7 (R.b _ _ _ _ e2 X S) (R.b _ _ _ _ e3 X S)
 | For t it body els p=>
   have h:Qc 2#1 T N ns t it body els=some m:=h;unfold Qc at h
   split at h
   .exact Pr O R h S
   .cases h
 | While c body els p=>
   have h:sWh 2#1 T N ns c body els=some m:=h;unfold sWh at h
   split at h
   .obtain⟨mc,e1,h⟩:=bind_eq h
    obtain⟨mb,e2,rfl⟩:=map_eq h;exact J3 S 20#7 (R.b _ _ _ _ e2 X S)
   .cases h
 | Pass p=>
   cases h;exact P0
 | Break p=>
   cases h;exact To
 | Raise a b p=>
   cases h;exact SO
 | Continue p=>
   cases h;exact R8
 |_=>cases h
theorem Tr(Gk:GOk M T k)(R:Snd M T k n)(RA:∀M T k,GOk M T k->Snd M T k n):∀N ns sts m,cB T (n+1) N ns sts=some m->∀X,Sc M X k N ns->PSs X sts (tMS M.K m):=by
 intro N ns sts m h X S;simp only[cB,rc,sB]at h
 split at h
 .cases h;exact Mx
 .exact Hz (R.s _ _ _ _ h X S)
 .obtain⟨ma,e1,h⟩:=bind_eq h
  obtain⟨mr,e2,rfl⟩:=map_eq h;exact AQ (R.s _ _ _ _ e1 X S) (R.b _ _ _ _ e2 X S)
theorem snd:∀n M T k,GOk M T k->Snd M T k n
 |0,M,T,k,_=>TX M T k
 | n+1,M,T,k,Gk=>by
   have RA:=snd n;have R:=RA M T k Gk;exact⟨SW Gk R RA,RE Gk.1 R,Td Gk.1 R,λN ns g m h=>(by cases (show(none:Option ME)=some m from h)),R4 R,Rh R,Ss R,R3 R,Rl R,QA Gk.1 R,Sj R,NU R,RI Gk.1 R,Tr Gk R RA⟩
theorem AG{qual:Str}{st:Stmt}{f:Addr}{fd:FuncData}{ms:MS}{fu:Nat}(O:TOk M T k)(h0:M.mkr=none)(h1:T.mkr=false)(F:Fun M.K x qual st f fd)(S:bh N ps (aE st))(hm:M.mg x=some (.ref f))(hb:Binds M.K fd ps [])
  (h:cB T fu N (aE st).names (cq st)=some ms):Fn M x (k+1) ps 19#7:=
 ⟨f,fd,hm,F.2,hb,IR h0 F S λX S'=>(snd fu M T k (.of O h1)).b _ _ _ _ h X S'⟩
end
structure Def(K:ao)(x:Str)(st:Stmt):Prop where
 ex:∃f fd,bE K mainGlobals x=some (some (.ref f))/\Fun K x x st f fd
variable{f:Addr}{st:Stmt}{K:ao}{an:Option Addr}{sl:Array (Option Value)}
theorem Nz{od:Option Addr}{oc kV doc pm cd ct:Value}(a:bE K mainGlobals x=some (some (.ref f)))
  (l:K.lookup f=some ⟨oc,od,.func (dv x x (gf st) (cq st) (aE st) .none kV doc pm an cd ct),sl⟩) (c:gZ K cd x=true) (k:dq K (.ref f)=true):Def K x st:=
 ⟨f,_,a,HM l c k⟩
section
variable {M:Mo}{T:Tb}{k:Nat}{h:Heap}{x:Str}{st:Stmt}{N ps:List Str}{ms:MS}{fu:Nat}
theorem Def.fn(O:TOk M T k)(h0:M.mkr=none)(h1:T.mkr=false)(X:M.K.K.In h)(Gn:h.Ns mainGlobals M.mg)(D:Def M.K x st)(S:bh N ps (aE st))
  (hb:∀(kV doc pm:Value) (an:Option Addr) (cdv ct:Value) (us:List Value),us.length=ps.length->bindArgs 25#1 ⟨us,[]⟩=pure 12#1)
  (hc:cB T fu N (aE st).names (cq st)=some ms):Fn M x (k+1) ps 19#7:=by
 obtain⟨f,fd,a,F⟩:=D.ex;exact AG O h0 h1 F S (dB X Gn a) (F.binds hb) hc
theorem TOk.mono{j:Nat}(O:TOk M T k)(hj:k<=j):TOk M T j where
 Z:=λy r hy=>let ⟨k',ps',hk,F'⟩:=O.Z y r hy;⟨k',ps',aC hk hj,F'⟩
 D:=λy g hy=>let ⟨k',ps',hk,F'⟩:=O.D y g hy;⟨k',ps',aC hk hj,F'⟩
 C:=O.C
 B:=O.B
 L:=λy q hy=>let ⟨k',ps',hk,F'⟩:=O.L y q hy;⟨k',ps',aC hk hj,F'⟩
 mkr:=O.mkr
theorem TOk.cons{j:Nat}{mf:MF}(O:TOk M T k)(F:Fn M x j ps mf)(hj:k<=j):TOk M ⟨(x,mf)::T.D,T.C,T.L,T.H,T.mkr,T.Z⟩ j where
 D:=λy g hy=>by
  rw[a6]at hy;cases e:y==x with
  |true=>rw[e]at hy;cases hy;rw[eq_of_beq e];exact⟨j,ps,ak _,F⟩
  | false=>
    rw[e]at hy;obtain⟨k',ps',hk,F'⟩:=O.D y g hy;exact⟨k',ps',aC hk hj,F'⟩
 C:=O.C
 B:=O.B
 L:=(O.mono hj).L
 mkr:=O.mkr
 Z:=(O.mono hj).Z
theorem TOk.setH{Hs:List (Str×(Addr->MF->MF))}(O:TOk M T k):TOk M ⟨T.D,T.C,T.L,Hs,T.mkr,T.Z⟩ k:=⟨O.D,O.C,O.B,O.L,O.mkr,O.Z⟩
theorem TOk.nil{Fs:List (Str×List Nat)}{cl:Nat->Addr}{nm:Str}(X:M.K.K.In h)(Gn:h.Ns mainGlobals M.mg)(B:∀x∈jk,bE M.K mainGlobals x=some none):TOk M ⟨[],[],[],[],false,⟨[],Fs,cl,nm⟩⟩ 0 where
 D:=λy g hy=>by cases hy
 C:=λy g hy=>by cases hy
 B:=λy hy=>Ju X Gn (B y hy)
 L:=λy g hy=>by cases hy
 mkr:=λh=>by cases h
 Z:=λy g hy=>by cases hy
theorem Def.fnC{y:Str}{msC:Addr->MF->MS}(O:∀caps capv cds base,gh M.mg base->TOk 7#2 T k)(h1:T.mkr=false)(hL:T.L=[])(X:M.K.K.In h)(Gn:h.Ns mainGlobals M.mg)(D:Def M.K x st)(S:bh N ps (aE st))
  (hb:∀(kV doc pm:Value) (an:Option Addr) (cdv ct:Value) (us:List Value),us.length=ps.length->bindArgs 25#1 ⟨us,[]⟩=pure 12#1)
  (hc:∀g φ,cB 33#7 fu N (aE st).names (cq st)=some (msC g φ)):FnC M x k ps λg φ=>run ps.length N.length (msC g φ):=by
 obtain⟨f,fd,a,F⟩:=D.ex;refine⟨f,fd,dB X Gn a,F.2,F.binds hb,λcaps capv cds base g j lps φ hbb hkj lam=>?_⟩;have O':TOk 7#2 33#7 j:=by
  have O1:=(O caps capv cds base hbb).mono hkj;refine⟨O1.D,O1.C,O1.B,λz q hz=>?_,(λhm=>by rw[h1]at hm;cases hm),O1.Z⟩;rw[a6]at hz;cases e:z==y with
  |true=>rw[e]at hz;cases hz;exact⟨j,lps,ak _,lam⟩
  |false=>rw[e]at hz;cases hz
 exact IR (M:=M.to caps capv cds base) rfl F S λX' S'=>(snd fu _ _ _ (.of O' h1)).b _ _ _ _ (hc g φ) X' S'
end
structure k9(K:ao)(x:Str)(st:Stmt)(c P:Addr):Prop where
 ex:∃(f:Addr) (oc:Value) (od:Option Addr) (kV doc pm:Value) (an:Option Addr) (ct:Value) (sl:Array (Option Value)),bE K mainGlobals x=some (some (.ref f)) /\
  K.lookup f=some ⟨oc,od,.func (dv x x (gf st) (cq st) (aE st) .none kV doc pm an (.ref c) ct),sl⟩/\gZ K (.ref c) x=true/\dq K (.ref f)=true
 cd :∃ (vs:Array Value) (od:Option Addr) (sl:Array (Option Value)) (file:Str) (tf:Tok) (flags:Int) (tg:Tok) (inF:Bool) (text:Int) (tt:Tok),K.lookup c=some ⟨.type "code",od,.fields vs,sl⟩/\vs[11]?=some (.ref P)/\vs.getD 11 .none=.ref P/\vs.getD 18 .none=.str file tf /\
  vs.getD 7 .none=.int flags tg/\vs.getD 9 .none=.bool inF/\vs.getD 10 .none=.int text tt/\c≠P
section
variable {M:Mo}{T:Tb}{k:Nat}{h:Heap}{x:Str}{st:Stmt}{N ps:List Str}{ms:MS}{fu:Nat}{c P:Addr}
theorem k9.mkr(D:k9 M.K x st c P)(B:gh M.mg M.base)(X:M.K.K.In h)(Gn:h.Ns mainGlobals M.mg){q:Str}(hm:(P,q)∈M.K.tabs)(nd:(M.K.tabs.map 2#2).Nodup)(hg:mainGlobals≠P):Mkr M c P q where
 hd:=λh' X'=>by
  obtain⟨vs,od,sl,file,tf,flags,tg,inF,text,tt,e,r⟩:=D.cd;obtain⟨r1,r2,r3,r4,r5,r6,r7⟩:=r;exact⟨_,vs,file,tf,flags,tg,inF,text,tt,X' _ _ e,rfl,rfl,r1,r2,r3,r4,r5,r6,r7⟩
 bl:=B
 gP:=hg
 mem:=hm
 un:=λr hr e=>by
  have key:∀(l:List (Addr×Str)),(l.map 2#2).Nodup->r∈l->(P,q)∈l->r.2=q:=by
   intro l
   induction l with
   |nil=>intro _ h;simp at h
   | cons y l ih=>
     intro nd h1 h2;rw[bp,iM]at nd;rcases a9.mp h1 with h1|h1
     .rcases a9.mp h2 with h2|h2
      .rw[h1,<-h2]
      .exact absurd (aQ.mpr ⟨_,h2,rfl⟩) (by rw[<-e,h1]at *;exact nd.1)
     .rcases a9.mp h2 with h2|h2
      .exact absurd (aQ.mpr ⟨r,h1,e⟩) (by rw[<-h2]at nd;exact nd.1)
      .exact ih nd.2 h1 h2
  exact key _ nd hr hm
theorem k9.ok (D:k9 M.K x st c P) (h0:M.mkr=none) (O :∀ caps capv cds base,gh M.mg base->TOk 7#2 T k) (O0:TOk M T k) (hL:T.L=[]) (h1:T.mkr=false) (hH :∀ y F,T.H.lookup y=some F->∃ k' ps,k'<=k+1/\FnC M y k' ps F) (hF :∀ y rz,T.Z.F.lookup y=some rz->∃ k',k'<=k+1/\FnR M T.Z.cl y k' rz) {nm:Str} (MK:Mkr M c P (x++".<locals>."++nm))
  (S:bh N ps (aE st)) (hc:cB 19#1 fu N (aE st).names (cq st)=some ms)
  {oc kV doc pm ct:Value}{od:Option Addr} (lk:M.K.K.lookup f=some ⟨oc,od,.func 29#4,sl⟩) (hcd:gZ M.K.K (.ref c) x=true):
  jA M.P M.w M.K M.mg M.base CX0 (k+3) f 29#4 ps (spM M.K 19#7):=by
 let M1:Mo:=⟨M.P,M.w,M.K,M.mg,M.base,some (c,x++".<locals>.")⟩
 have O1:TOk M1 19#1 (k+2):=by
  have Om:=O0.mono (show k<=k+2 by omega);refine⟨fun y g hy=>?_,Om.C,Om.B,fun y q hy=>?_,fun _=>⟨c,x++".<locals>.",P,rfl,MK.hd,MK.bl,MK.gP,MK.mem,MK.un⟩,fun y r hy=>?_⟩
  .obtain⟨k',ps',hk,F'⟩:=Om.D y g hy
   exact⟨k',ps',hk,⟨F'.ex⟩⟩
  .rw[show(19#1:Tb).L=T.L from rfl,hL]at hy
   cases hy
  .obtain⟨k',ps',hk,F'⟩:=Om.Z y r hy
   exact⟨k',ps',hk,⟨F'.ex⟩⟩
 have G1:GOk M1 19#1 (k+2):=⟨O1,λ_=>⟨k,ak _,λy F hy=>by
  obtain⟨k',ps',hk,FC⟩:=hH y F hy;exact⟨k',ps',hk,⟨FC.ex⟩⟩,λy rz hy=>by
  obtain⟨k',hk,FC⟩:=hF y rz hy;exact⟨k',hk,⟨FC.ex⟩⟩,λcaps capv cds base hbb=>by
   have Ob:=O caps capv cds base hbb
   exact⟨Ob.D,Ob.C,Ob.B,λy q hy=>(by cases hy),λz=>(by cases z),Ob.Z⟩⟩⟩
 have len:∀vs H Q E,spM M.K 19#7 vs H Q E->vs.length=ps.length:=λvs H Q E h=>by
  obtain⟨μ,S',us,u,S'',hr,rs,e,_⟩:=h;unfold run at e
  split at e
  .rename_i hl;rw[<-rs.len];exact hl
  .cases e
 refine _L.AG lk hcd S len λA outer s H vs Q E hr h=>⟨tMS M.K ms,((snd fu M1 _ _ G1).b _ _ _ _ hc _ (Sc.def (M:=M1) S hr λc' q' hq=>by cases hq;exact⟨rfl,rfl⟩)).nox,?_⟩;obtain⟨μ,S1,us,u,S2,hr,rs,e,ka⟩:=h;unfold run at e
 split at e
 .rename_i hl
  have er:=oz (N:=N) rs;rw[hl]at er
  split at e
  .rename_i w Y2 S3 q
   cases e;exact⟨μ,S1,_,_,hr,er,q,ka⟩
  .rename_i Y2 S3 q
   cases e;exact⟨μ,S1,_,_,hr,er,q,λY4 Y3 H' p' k' hr' er'=>ka Y4 _ H' p' k' hr' su⟩
  .cases e
 .cases e
theorem k9.fn (D:k9 M.K x st c P) (h0:M.mkr=none) (O :∀ caps capv cds base,gh M.mg base->TOk 7#2 T k) (O0:TOk M T k) (hL:T.L=[]) (h1:T.mkr=false) (hH :∀ y F,T.H.lookup y=some F->∃ k' ps,k'<=k+1/\FnC M y k' ps F) (hF :∀ y rz,T.Z.F.lookup y=some rz->∃ k',k'<=k+1/\FnR M T.Z.cl y k' rz) {nm:Str} (MK:Mkr M c P (x++".<locals>."++nm))
  (X:M.K.K.In h) (Gn:h.Ns mainGlobals M.mg) (S:bh N ps (aE st))
  (hb:∀(kV doc pm:Value) (an:Option Addr) (cdv ct:Value) (us:List Value),us.length=ps.length->bindArgs 25#1 ⟨us,[]⟩=pure 12#1)
  (hc:cB 19#1 fu N (aE st).names (cq st)=some ms):Fn M x (k+3) ps 19#7:=by
 obtain⟨f,oc,od,kV,doc,pm,an,ct,sl,a,lk,hcd,hkp⟩:=D.ex;exact⟨f,_,dB X Gn a,hkp,.all (hb kV doc pm an (.ref c) ct),D.ok h0 O O0 hL h1 hH hF MK S hc lk hcd⟩
theorem k9.def(D:k9 M.K x st c P):Def M.K x st:=by
 obtain⟨f,oc,od,kV,doc,pm,an,ct,sl,a,lk,hcd,hkp⟩:=D.ex;exact⟨f,_,a,HM lk hcd hkp⟩
end
section
variable {M:Mo}
variable{Hs:List (Str×(Addr->MF->MF))}
theorem qL{j k:Nat}(h:∀y F,Hs.lookup y=some F->∃k' ps,k'<=j/\FnC M y k' ps F)(hj:j<=k):∀y F,Hs.lookup y=some F->∃k' ps,k'<=k/\FnC M y k' ps F:=λy F hy=>
 let ⟨k',ps,a,b⟩:=h y F hy;⟨k',ps,aC a hj,b⟩
theorem KO{i j k:Nat}{F0:Addr->MF->MF}{ps:List Str}(h:∀y F,Hs.lookup y=some F->∃k' ps,k'<=j/\FnC M y k' ps F)(F1:FnC M x i ps F0)(hi:i<=k)(hj:j<=k):∀y F,((x,F0)::Hs).lookup y=some F->∃k' ps,k'<=k/\FnC M y k' ps F:=λy F hy=>by
 rw[a6]at hy;cases e:y==x with
 |true=>rw[e]at hy;cases hy;rw[eq_of_beq e];exact⟨i,ps,hi,F1⟩
 |false=>rw[e]at hy;exact qL h hj y F hy
end
theorem ud{c P:Addr}{od od':Option Addr}{sl':Array (Option Value)}{oc kV doc pm ct:Value}{vs:Array Value}{file:Str}{tf tg tt:Tok}{flags text:Int}{inF:Bool}(a:bE K mainGlobals x=some (some (.ref f)))
  (l:K.lookup f=some ⟨oc,od,.func 29#4,sl⟩) (cc:gZ K (.ref c) x=true) (k:dq K (.ref f)=true)
  (e:K.lookup c=some ⟨.type "code",od',.fields vs,sl'⟩) (r1:vs[11]?=some (.ref P)) (r2:vs.getD 11 .none=.ref P) (r3:vs.getD 18 .none=.str file tf) (r4:vs.getD 7 .none=.int flags tg) (r5:vs.getD 9 .none=.bool inF) (r6:vs.getD 10 .none=.int text tt) (r7:c≠P):k9 K x st c P:=
 ⟨⟨f,oc,od,kV,doc,pm,an,ct,sl,a,l,cc,k⟩,⟨vs,od',sl',file,tf,flags,tg,inF,text,tt,e,r1,r2,r3,r4,r5,r6,r7⟩⟩
theorem Ot {l:oG}{w:World}{h:Heap}{mg:Str->Option Value}{fa:Addr}{ms:MS}{fu k:Nat}{T:Tb} (X:K.In h) (Gn:h.Ns mainGlobals mg) (hfa:mg "law"=some (.ref fa))
  (D:Def K "law" st) (S:bh N ["script"] (aE st))
  (hb :∀ (kV doc pm:Value) (an:Option Addr) (cdv ct:Value) (us:List Value),us.length=["script"].length->bindArgs (dv "law" "law" (gf st) (cq st) (aE st) .none kV doc pm an cdv ct) ⟨us,[]⟩=pure ((["script"]:List Str).zip us))
  {tabs:List (Addr×Str)} (h1:T.mkr=false) (hO:∀base:Heap,gh mg base->TOk ⟨l.prog,w,⟨K,[],[],[],tabs⟩,mg,base,none⟩ T k) (hc:cB T fu N (aE st).names (cq st)=some ms):
  ∃ fd:FuncData,29#2 /\ ∀ base:Heap,K.In base->base.Ns mainGlobals mg->gh mg base->jA l.prog w K mg base CX0 (k+1) fa fd ["script"] (spM ⟨K,[],[],[],tabs⟩ (run 1 N.length ms)):=by
 obtain⟨f,fd,a,F⟩:=D.ex;have e:=hfa.symm.trans (dB X Gn a);cases e;refine⟨fd,λs v=>?_,λbase _ _ hbb=>IR (M:=⟨l.prog,w,⟨K,[],[],[],tabs⟩,mg,base,none⟩) rfl F S λX' S'=>(snd fu _ _ _ (.of (hO base hbb) h1)).b _ _ _ _ hc X' S'⟩;obtain⟨oc,od,kV,doc,pm,an,cdv,ct,osl,rfl,lk,hcd⟩:=F.ex;exact .of_eq (hb kV doc pm an cdv ct [v] rfl)
theorem RT{tabs:List (Addr×Str)}{H:Hp}{a:Addr}{ns:List Int}{m:MF}(hT:∀q∈tabs,Cm H q.1 q.2)(hS:SqL K H a 8#6)(hm:∀S:Sto,S.length=1->getL S 0=some 14#6->∃S',m [.ref 0] S=some (.bl true,S')):
  spM ⟨K,[],[],[],tabs⟩ m [.ref a] H (λv _=>v=.bl true) λ_ _ _=>False:=by
 have key:∃c:Cell,oY ⟨K,[],[],[],tabs⟩ H [a] a c/\getL [c] 0=some 14#6:=by
  rcases hS with (h|⟨o,h⟩)|h
  .exact⟨.lst 14#6,⟨_,h,RUs.ints ns⟩,rfl⟩
  .exact⟨.frz 14#6,⟨_,.inl ⟨o,h⟩,RUs.ints ns⟩,rfl⟩
  .exact⟨.frz 14#6,⟨_,.inr (.inr h),RUs.ints ns⟩,rfl⟩
 obtain⟨c,hc,hg⟩:=key;obtain⟨S',e⟩:=hm [c] rfl hg;refine⟨[a],[c],[.ref 0],.bl true,S',⟨rfl,λn m us ws q1 q2 _ _ _=>?_,λn c' b q1 q2=>?_,⟨.nil,λq hq=>(nomatch hq),hT⟩⟩,.cons (vv rfl) .nil,e,λY4 v H' _ _ _ r=>jF r⟩
 .have h1:=(ag.mp q1).1
  have h2:=(ag.mp q2).1;simp at h1 h2;omega
 .have h1:=(ag.mp q1).1
  simp at h1;subst h1;cases q1;cases q2;exact hc
end _G
namespace _G
open PySem PySem.Spec _L
open PySem.W (CodeHd tabObj tabIn)
open PyProof.Rows hiding St
theorem k9.tab{K:ao}{x:Str}{st:Stmt}{c P:Addr}(D:k9 K x st c P):tabIn K x=some (c,P):=by
 obtain⟨f,oc,od,kV,doc,pm,an,ct,sl,e1,e2,_⟩:=D.ex;obtain⟨vs,od',sl',file,tf,flags,tg,inF,text,tt,e3,e4,_⟩:=D.cd;unfold tabIn;simp only[e1,e2,e3,e4]
def Aj(K:ao)(tabs:List (Addr×Str))(a:Addr)(o:Obj)(xs:List V):Hp:=λb=>
 if b∈tabs.map 2#2 then some (.tbl #[]) else if b=a/\K.lookup a=none then some (.frz o 6#5) else none
section
variable {P:Program}{w:World}{K:ao}{mg mb:Str->Option Value}{k:Nat}{fa a:Addr}{fd:FuncData}{x:Str}{sp:Sp}{s:Shared}{vs:List Value}{ns:List Int}{tabs:List (Addr×Str)}
theorem KB (kx:K.In s.heap) (hns:s.heap.Ns mainGlobals mg) (hb:s.heap.Ns builtinsNs mb) (hbb :∀ x:Str,x≠"__name__"->mb x=bootBuiltins x) (hlim:s.heap.NoLimit) (hbm:gh mg s.heap) (hg:s.gens = #[])
  (ha:s.heap.get? a=some { cls := .type "list",data := .seq vs.toArray }) (hi:IntsAre vs ns) (hl:ns.length<=sizeLine) (hr:lJ k callerA)
  (hT:∀r∈tabs,K.lookup r.1=none /\ ∃c,s.heap.TableAt c r.1 #[])
  (F:∀base:Heap,K.In base->base.Ns mainGlobals mg->gh mg base->jA P w K mg base CX0 k fa fd [x] sp) (hbind:∀(s:Shared) (u:Value),BindsTo s fd ⟨[u],[]⟩ [(x,u)])
  (hsp:∀H:Hp,(∀r∈tabs,Cm H r.1 r.2)->SqL K H a 8#6->sp [.ref a] H (λv _=>v=.bl true) λ_ _ _=>False):
  o5 (model P w) callerA (.call (.ref fa) ⟨[.ref a],[]⟩) (λr s'=>r=.ok (.ret (.bool true))/\OldK s.heap s'.heap/\s'.os=s.os/\AllBare s'.gens) s:=by
 have rv:=se hi;have lenV:=hi.length
 let o:Obj:={ cls := .type "list",data := .seq vs.toArray }
 let H:=Aj K tabs a o 8#6
 have hH:H=Aj K tabs a o 8#6:=rfl;have tab:∀b,b∈tabs.map 2#2->H b=some (.tbl #[])/\K.lookup b=none /\ ∃c,s.heap.TableAt c b #[]:=λb hb=>by
  obtain⟨r,hr,e⟩:=aQ.mp hb;subst e;exact⟨if_pos hb,hT r hr⟩
 have anot:a∉tabs.map 2#2:=λz=>by
  obtain⟨_,_,c,ht⟩:=tab a z;have e:=ht.2;rw[ha]at e;cases e
 have Hof:∀b u,H b=some u->(b∈tabs.map 2#2/\u=.tbl #[])\/(b=a/\K.lookup a=none/\u=.frz o (.lst 8#6)):=λb u e=>by
  rw[hH]at e;unfold Aj at e
  split at e
  .rename_i z;cases e;exact .inl ⟨z,rfl⟩
  .split at e
   .rename_i z;cases e;exact .inr ⟨z.1,z.2,rfl⟩
   .cases e
 have nodic:∀{b:Addr}{o:Obj}{es:Array DictEntry}{ep:Nat},s.heap.get? b=some o->o.data=.dict es ep->H b=none:=λ{b o' es ep} e d=>by
  cases q:H b with
  |none=>rfl
  | some u=>
    rcases Hof b u q with⟨z,_⟩|⟨z,_⟩
    .obtain⟨_,_,c,ht⟩:=tab b z
     have e2:=ht.2;rw[e]at e2;cases e2;cases d
    .subst z
     rw[ha]at e;cases e;cases d
 have nsK:∀{b:Addr}{m:Str->Option Value},s.heap.Ns b m->(xf s.heap H).Ns b m:=λ{b m} ⟨o,es,ep,e,d,r⟩=>⟨o,es,ep,rg e (nodic e d),d,r⟩
 have hKb:K.In (xf s.heap H):=λb o' e=>rg (kx b o' e) (by
  cases q:H b with
  |none=>rfl
  | some u=>
    rcases Hof b u q with⟨z,_⟩|⟨z,z2,_⟩
    .rw[(tab b z).2.1]at e;cases e
    ·rw[z,z2]at e;cases e)
 have hok:HOk P w H s.heap:=λb u e=>by
  rcases Hof b u e with⟨z,rfl⟩|⟨rfl,z2,rfl⟩
  .obtain⟨_,_,c,ht⟩:=tab b z
   exact ht.2
  .exact⟨ha,by rw[ax];exact hl,vs,_,rv,ha⟩
 have hS:SqL K H a 8#6:=by
  cases hk:K.lookup a with
  | some o'=>
    have e:=kx a o' hk;rw[ha]at e;cases e;exact .inr ⟨_,vs.toArray,_,hk,rfl,rfl,rfl,by rw[aH,lenV];exact hl,by simpa using rv⟩
  |none=>exact .inl (.inr ⟨o,by show Aj K tabs a o 8#6 a=_;unfold Aj;rw[if_neg anot,if_pos ⟨rfl,hk⟩]⟩)
 have hM:Mod K mg (xf s.heap H):=⟨hKb,nsK hns,⟨mb,nsK hb,hbb⟩,let ⟨mc,h1,h2⟩:=hlim;⟨mc,nsK h1,h2⟩⟩;have e0:EB P w K mg (xf s.heap H) callerA [] s H:=⟨rfl,hM,λb o e=>DP e,lT (yn _ _),trivial,λb hb=>absurd (show b∈([]:List Addr) from hb) 0#8,hok,.of_eq hg⟩;have hBb:gh mg (xf s.heap H):=by
  obtain⟨bm,ob,e1,e2,e3,e4,e5,e6⟩:=hbm;refine⟨bm,ob,e1,e2,rg e3 ?_,e4,e5,e6⟩;cases q:H bm with
  |none=>rfl
  | some u=>
    rcases Hof bm u q with⟨z,_⟩|⟨z,_⟩
    .obtain⟨_,_,c,ht⟩:=tab bm z
     have e:=ht.2;rw[e3]at e;cases e;cases e6
    .rw[z,ha]at e3;cases e3;cases e6
 have hTR:∀r∈tabs,Cm H r.1 r.2:=λr hr=>⟨#[],(tab r.1 (aQ.mpr ⟨r,hr,rfl⟩)).1,trivial,λpos cv h=>by cases h⟩;refine iL ((F _ hKb (nsK hns) hBb).run callerA [] s H ⟨[.ref a],[]⟩ [.ref a] [.ref a] _ _ hr e0 (hbind s (.ref a)) (.cons rfl .nil) (hsp H hTR hS)) λr s' h=>?_;cases r with
 |error e=>exact h.elim
 | ok fl=>
   cases fl with
   |next=>exact bT h
   |brk=>exact bT h
   |cont=>exact bT h
   | ret u=>
     obtain⟨v,H',os,bare,un,hok',r',q⟩:=h;have q':v=.bl true:=q;subst q';obtain rfl:u=t6 true:=r';refine⟨rfl,⟨λb o' e=>?_,λb o' e=>un.there b o' e 0#8⟩,os,bare⟩;cases q:H b with
     |none=>exact .inl (un.keep b o' e q (by intro z;exact absurd (show b∈([]:List Addr) from z) 0#8) 0#8)
     | some u=>
       rcases Hof b u q with⟨z,rfl⟩|⟨rfl,_,rfl⟩
       .obtain⟨_,_,c,ht⟩:=tab b z
        obtain⟨more,e2⟩:=un.tbls b #[] q;have e3:s'.heap.get? b=some { cls:= .none,data:= .fields (#[]++more) }:=hok' b _ e2;have e4:=ht.2;rw[e]at e4;cases e4;exact .inr (.inl ⟨ht.isCodeTable,rfl,#[],more,rfl,e3⟩)
       .obtain⟨e2,_⟩:=hok' b _ (un.frzs b _ _ q)
        rw[ha]at e;cases e;exact .inl e2
end
theorem FZ{l:oG}{n k:Nat}{q:Program}{loose:List Str}{XP:(Str->Option Value)->Heap->Prop}{YP:World->Heap->Prop}{d:DefRec}{K:Params->ao}{x:Str}
  (hn:l.most=some n) (hn2:n<=sizeLine) (hdf:d.params.defaults=[]) (hr:lJ k callerA) (hY:∀(w:World) (h:Heap),YP w h->(K w.params).In h)
  (F: ∀(w:World) (mg:Str->Option Value) (fa:Addr) (h:Heap),(K w.params).In h->h.Ns mainGlobals mg->mg d.name=some (.ref fa) -> ∃(tabs:List (Addr×Str)) (fd:FuncData) (sp:Sp),
   (∀r∈tabs,(K w.params).lookup r.1=none /\ ∃x d c,(recsOf q).find? (λe=>e.name==x)=some d/\tabIn (K w.params) x=some (c,r.1)) /\
   (∀(s:Shared) (u:Value),BindsTo s fd ⟨[u],[]⟩ [(x,u)])/\(∀base:Heap,(K w.params).In base->base.Ns mainGlobals mg->gh mg base->jA l.prog w (K w.params) mg base CX0 k fa fd [x] sp) /\
   ∀(H:Hp) (a:Addr) (ns:List Int),ns.length<=n->(∀r∈tabs,Cm H r.1 r.2)->SqL (K w.params) H a (ns.map V.int)->sp [.ref a] H (λv _=>v = .bl true) λ_ _ _=>False):
  PySem.W.WalkO q loose XP YP l.row.toRowW d [] (λf vs=>PySem.call f vs):=by
 refine Att.attach_call hn hdf λw s₀ s₁ mg mb fa o pm cd doc a vs ns B' f8 ho hd hcd hmg hobj hints hlen hg=>?_;have kx:=hY w _ f8;obtain⟨tabs,fd,sp,hT,hb,hF,hsp⟩:=F w mg fa _ kx B'.T.g hmg;refine KB (tabs:=tabs) kx B'.T.g B'.T.b B'.T.builtins B'.T.nolimit B'.T.bmain hg hobj hints (aC hlen hn2) hr (λr hr=>?_) hF hb λH h1 h2=>hsp H a ns hlen h1 h2;obtain⟨h1,x',d',c,h2,h3⟩:=hT r hr;obtain⟨h4,h5⟩:=PySem.W.tab_of B'.T kx h2 h3;exact⟨h1,c,h4.tab h5⟩
end _G
namespace _G
open PySem PySem.Spec _L
variable{p:List Value->Prop}
theorem usC{n:Nat}(h:∀a us,us.length=n->p (a::us)):∀us:List Value,us.length=n+1->p us:=λus hl=>by
 cases us with
 |nil=>cases hl
 |cons a us=>exact h a us (Bh hl)
theorem us0(h:p []):∀us:List Value,us.length=0->p us
 |[],_=>h
theorem us1(h:∀a,p [a]):∀us:List Value,us.length=1->p us:=usC λa us hl=>dJ hl▸h a
theorem us2(h:∀a b,p [a,b]):∀us:List Value,us.length=2->p us:=usC λa=>us1 (h a)
theorem us3(h:∀a b c,p [a,b,c]):∀us:List Value,us.length=3->p us:=usC λa=>us2 (h a)
theorem us4(h:∀a b c d,p [a,b,c,d]):∀us:List Value,us.length=4->p us:=usC λa=>us3 (h a)
theorem TOk.nm{M:Mo}{T:Tb}{k:Nat}(h:TOk M T k)(x:Str):TOk M ⟨T.D,T.C,[],T.H,false,T.Z.to x⟩ k:=⟨h.D,h.C,h.B,λ_ _ e=>(by cases e),λz=>(by cases z),h.Z⟩
def Bd(x:Str)(st:Stmt)(ps:List Str):Prop:= ∀(kV doc pm:Value) (an:Option Addr) (cdv ct:Value) (us:List Value),us.length=ps.length->bindArgs 25#1 ⟨us,[]⟩=pure 12#1
structure Ch(P:Program)(w:World)(K:ao)(mg:Str->Option Value)(tabs:List (Addr×Str))(T:Tb)(k:Nat):Prop where
 o:∀(caps:List U) (capv:List V) (cds:List (Addr×Obj)) (base:Heap),gh mg base->TOk ⟨P,w,⟨K,caps,capv,cds,tabs⟩,mg,base,none⟩ T k
 h:∀(caps:List U) (capv:List V) (cds:List (Addr×Obj)) (base:Heap),gh mg base->∀y F,T.H.lookup y=some F->∃k' ps,k'<=k/\FnC ⟨P,w,⟨K,caps,capv,cds,tabs⟩,mg,base,none⟩ y k' ps F
 r:∀(caps:List U) (capv:List V) (cds:List (Addr×Obj)) (base:Heap),gh mg base->∀y rz,T.Z.F.lookup y=some rz->∃k',k'<=k/\FnR ⟨P,w,⟨K,caps,capv,cds,tabs⟩,mg,base,none⟩ T.Z.cl y k' rz
theorem ug{M:Mo}{Fs:List (Str×List Nat)}{cl:Nat->Addr}{j k:Nat}(h:∀y rz,Fs.lookup y=some rz->∃k',k'<=j/\FnR M cl y k' rz)(hj:j<=k):∀y rz,Fs.lookup y=some rz->∃k',k'<=k/\FnR M cl y k' rz:=λy rz hy=>
 let ⟨k',a,b⟩:=h y rz hy;⟨k',aC a hj,b⟩
section
variable {P:Program}{w:World}{K:ao}{mg:Str->Option Value}{tabs:List (Addr×Str)}{T T':Tb}{k j:Nat}{h:Heap}{x:Str}{st:Stmt}{N ps:List Str}{ms:MS}{fu:Nat}
theorem Ch.dfn(c:Ch P w K mg tabs T k)(O:∀(caps:List U) (capv:List V) (cds:List 1#9) (base:Heap),gh mg base->TOk ⟨P,w,⟨K,caps,capv,cds,tabs⟩,mg,base,none⟩ T' k)(h1:T'.mkr=false)(X:K.In h)(Gn:h.Ns mainGlobals mg)(D:Def K x st)(S:bh N ps (aE st))(hb:Bd x st ps)
  (hc:cB T' fu N (aE st).names (cq st)=some ms):Ch P w K mg tabs ⟨(x,run ps.length N.length ms)::T.D,T.C,T.L,T.H,T.mkr,T.Z⟩ (k+1):=
 ⟨λa b d e f=>(c.o a b d e f).cons (D.fn (M:=⟨P,w,⟨K,a,b,d,tabs⟩,mg,e,none⟩) (O a b d e f) rfl h1 X Gn S hb hc) (dc k),λa b d e f=>qL (c.h a b d e f) (dc k),λa b d e f=>ug (c.r a b d e f) (dc k)⟩
theorem Ch.cls{y:Str}{msC:Addr->MF->MS}(c:Ch P w K mg tabs T k)(h1:T.mkr=false)(hL:T.L=[])(X:K.In h)(Gn:h.Ns mainGlobals mg)(D:Def K x st)(S:bh N ps (aE st))(hb:Bd x st ps)
  (hc:∀g φ,cB 33#7 fu N (aE st).names (cq st)=some (msC g φ)):Ch P w K mg tabs ⟨T.D,T.C,T.L,(x,λg φ=>run ps.length N.length (msC g φ))::T.H,T.mkr,T.Z⟩ k:=
 ⟨λa b d e f=>(c.o a b d e f).setH,λa b d e f=>KO (c.h a b d e f) (D.fnC (M:=⟨P,w,⟨K,a,b,d,tabs⟩,mg,e,none⟩) c.o h1 hL X Gn S hb hc) (ak k) (ak k),c.r⟩
theorem Ch.lam_ {a p:Addr}{nm:Str} (c:Ch P w K mg tabs T k) (h1:T.mkr=false) (hL:T.L=[]) (hm:(p,x++".<locals>."++nm)∈tabs) (nd:(tabs.map 2#2).Nodup) (hg:mainGlobals≠p) (X:K.In h) (Gn:h.Ns mainGlobals mg) (D:k9 K x st a p) (S:bh N ps (aE st)) (hb:Bd x st ps)
  (hc:cB 19#1 fu N (aE st).names (cq st)=some ms):Ch P w K mg tabs ⟨(x,run ps.length N.length ms)::T.D,T.C,T.L,T.H,T.mkr,T.Z⟩ (k+3):=
 ⟨λa b d e f=>(c.o a b d e f).cons (D.fn (M:=⟨P,w,⟨K,a,b,d,tabs⟩,mg,e,none⟩) rfl c.o (c.o a b d e f) hL h1 (qL (c.h a b d e f) (dc k)) (ug (c.r a b d e f) (dc k)) (D.mkr (M:=⟨P,w,⟨K,a,b,d,tabs⟩,mg,e,none⟩) f X Gn hm nd hg) X Gn S hb hc) (eF k 3),λa b d e f=>qL (c.h a b d e f) (eF k 3),λa b d e f=>ug (c.r a b d e f) (eF k 3)⟩
end
end _G
namespace _G
open PySem PySem.Spec _L
open PyProof.Rows hiding St
def xNo:MX:=λ_ _=>none
def Rn(m:ME)(r:MX):MX:=λY S=>bnd (m Y S) λ_ S1=>r Y S1
def rZ(C:Nat):MX:=λ_ S=>some (C,S)
def xIf(c:MT)(a b:MX):MX:=λY S=>bnd (c Y S) λk S1=>if k then a Y S1 else b Y S1
def qG(a:MX)(m:MS)(b:MX):MX:=λY S=>match a Y S with
 |some r=>some r
 | none=>match m Y S with
   |some (.nx,Y1,S1)=>b Y1 S1
   |_=>none
def vH(k n:Nat)(r:MX):RF:=λus S=>if us.length=k then r 23#0 S else none
structure Tx where
 R:List (Str×RF)
 Cl:List (Str×Nat)
def Sf:Const->Option Str
 |.str s=>some s
 |_=>none
def Ia:Expr->Option Str
 |.Name y _=>some y
 |_=>none
def CU(T:Tb)(ns:NS):Expr->Bool
 |.Constant c _ _=>(Sf c).isSome
 |_=>false
def oneOf{α:Type}:List α->Option α
 |[a]=>some a
 |_=>none
structure Xc where
 e:Tb->Tx->List Str->NS->Expr->Option MX
 a:Tb->Tx->List Str->NS->List Expr->Option MX
 s:Tb->Tx->List Str->NS->Stmt->Option MX
 b:Tb->Tx->List Str->NS->List Stmt->Option MX
section
variable (f:Nat) (R:Xc) (T:Tb) (Z:Tx) (N:List Str) (ns:NS)
def xC(g:Str)(as:List Expr):Option MX:=match Z.R.lookup g with
 |some r=>(cA T f N ns as).map (xFn r)
 | none=>match T.D.lookup g with
   |some _=>if as.all notStar then R.a T Z N ns as else none
   |none=>none
def xE:Expr->Option MX
 |.Call g as ks _=>(Ia g).bind λx=>if ks.isEmpty&&(!as.isEmpty&&(d7 ns x&&cx x)) then xC f R T Z N ns x as else none
 |.Subscript a b _=>if lI b then R.e T Z N ns a else none
 |_=>none
def xA:List Expr->Option MX
 |[]=>none
 | e::r=>if notStar e then(match R.e T Z N ns e with
   |some re=>some re
   | none=>(cE T f N ns e).bind λme=>(R.a T Z N ns r).map (Rn me)) else none
def xR:Expr->Option MX
 |.Call g as ks _=>(Ia g).bind λx=>(oneOf as).bind λa=>if ks.isEmpty&&d7 ns x&&cx x&&notStar a&&CU T ns a then(Z.Cl.lookup x).map rZ else none
 |_=>none
def xS:Stmt->Option MX
 |.Raise o c _=>if c.isNone then o.bind (xR T Z ns) else none
 |.If c a b _=>(cT T f N ns c).bind λmc=>(R.b T Z N ns a).map λra=>xIf mc ra ((R.b T Z N ns b).getD xNo)
 |.Expr e _=>if je e then R.e T Z N ns e else none
 |.Return o _=>o.bind λe=>R.e T Z N ns e
 |.Assign ts e _=>(oneOf ts).bind λt=>(Ia t).bind λx=>if nX ns x&&je e&&(slot N x).isSome then R.e T Z N ns e else none
 |_=>none
def xB:List Stmt->Option MX
 |[]=>none
 | s::r=>match R.s T Z N ns s with
   |some rs=>some (qG rs ((cS T f N ns s).getD sNo) ((R.b T Z N ns r).getD xNo))
   |none=>(cS T f N ns s).bind λms=>(R.b T Z N ns r).map (qG xNo ms)
end
def xc(f:Nat):Nat->Xc
 |0=>⟨λ_ _ _ _ _=>none,λ_ _ _ _ _=>none,λ_ _ _ _ _=>none,λ_ _ _ _ _=>none⟩
 |n+1=>⟨xE f (xc f n),xA f (xc f n),xS f (xc f n),xB f (xc f n)⟩
def JQ:Data->Option ClassData
 |.cls cd=>some cd
 |_=>none
def exC(K:ao)(C:Addr)(oc:Value)(cd:ClassData)(sl:Array (Option Value)):Bool:=
 oc == .type "type"&&(sl == #[sl.getD 0 none,sl.getD 1 none,sl.getD 2 none,sl.getD 3 none,some (.builtin "ValueError.__new__"),sl.getD 5 none]&&(cd.mro == .ref C::cd.mro.tail&&(!cd.hasDel&&(PySem.W.tailIn K vE cd.mro.tail&&(PySem.W.nsOkIn K cd.ns&&bE K cd.ns "__init__" == some none)))))
def exB(K:ao)(C:Addr):Bool:=match K.lookup C with
 | some o=>(match JQ o.data with
   |some cd=>exC K C o.cls cd o.slots
   | none=>false)
 |none=>false
structure XOk(M:Mo)(cl:Nat->Addr)(T:Tb)(Z:Tx)(k:Nat):Prop where
 g:GOk M T k
 R:∀x r,Z.R.lookup x=some r->∃k' ps,k'<=k/\FnX M cl x k' ps r
 C:∀x c,Z.Cl.lookup x=some c->M.mg x=some (.ref (cl c))/\exB M.K.K (cl c)=true
theorem Nq{d:Data}{cd:ClassData}(h:JQ d=some cd):d=.cls cd:=by
 cases d<;>first | (cases h;rfl) |cases h
theorem NF {K:ao}{h:Heap}{mg:Str->Option Value}{x:Str}{C:Addr} (X:K.In h) (e:mg x=some 6#6) (q:exB K C=true):OwnCls x C vE "ValueError.__new__" mg h:=by
 refine⟨e,?_⟩;unfold exB at q;cases ho:K.lookup C with
 |none=>rw[ho]at q;cases q
 | some o=>
   rw[ho]at q;obtain⟨oc,dd,da,sl⟩:=o
   have qa:(match JQ da with
    |some cd=>exC K C oc cd sl
    | none=>false)=true:=q
   clear q;cases hd:JQ da with
   |none=>rw[hd]at qa;cases qa
   | some cd=>
     rw[hd]at qa;have q:exC K C oc cd sl=true:=qa;clear qa;have hd':=Nq hd;clear hd;subst hd';unfold exC at q;obtain⟨q0,q⟩:=dW.mp q;obtain⟨q1,q⟩:=dW.mp q;obtain⟨q3,q⟩:=dW.mp q;obtain⟨q4,q⟩:=dW.mp q;obtain⟨q5,q⟩:=dW.mp q;obtain⟨q6,q7⟩:=dW.mp q;obtain⟨nm,bs,mro,ns,qn,hd,sn,sub,ab,col,del⟩:=cd;have q3':mro=.ref C::mro.tail:=eq_of_beq q3;have q4':del=false:=by
      cases del with
      |false=>rfl
      |true=>cases q4
     rw[eq_of_beq q0,q3',q4',eq_of_beq q1]at ho;exact⟨mro.tail,ns,nm,qn,bs,hd,sn,sub,ab,col,dd,_,_,_,_,_,_,X _ _ ho,.of_isNs (PySem.W.isNs_of_in X q6),PySem.W.nsMap_none_of_in X q6 (eq_of_beq q7),PySem.W.tail_of_in X q5⟩
section
variable {M:Mo}{cl:Nat->Addr}{T:Tb}{Z:Tx}{k n fu:Nat}{N:List Str}{ns:NS}{X:Cx}{E:XK}
variable{s:Str}
theorem K2{c:Const}(h:Sf c=some s):c=.str s:=by
 cases c<;>cases h;rfl
theorem Ic{e:Expr}(h:Ia e=some s):∃p,e=.Name s p:=by
 unfold Ia at h
 split at h
 .cases h;exact⟨_,rfl⟩
 .cases h
theorem IU{α:Type}{l:List α}{a:α}(h:oneOf l=some a):l=[a]:=by
 match l,h with
 |[_],h=>cases h;rfl
theorem OC(O:TOk M T k)(S:Sc M X.nox k N ns){a:Expr}(h:CU T ns a=true):PE X a λG H Q=>∀x,Q (.str x) H:=by
 unfold CU at h
 split at h
 .obtain⟨s,e⟩:=dM.mp h
  rw[K2 e];exact PE.con GN λ_ _ _ q=>q _
 .cases h
end
theorem Tg{T:Tb}{Z:Tx}{ns:NS}{e:Expr}{r:MX}(h:xR T Z ns e=some r):∃x a p1 p C,e=.Call 12#0 [a] [] p/\Z.Cl.lookup x=some C/\r=rZ C/\d7 ns x=true/\cx x=true/\notStar a=true/\CU T ns a=true:=by
 unfold xR at h
 split at h
 .rename_i g as ks p
  obtain⟨x,e1,hy⟩:=bind_eq h;obtain⟨a,e2,hz⟩:=bind_eq hy;obtain⟨p1,rfl⟩:=Ic e1;cases IU e2
  split at hz
  .rename_i hs
   simp only[ar]at hs;obtain⟨C,e1,rfl⟩:=map_eq hz;have hk:=hs.1.1.1.1;cases ks with
   |nil=>exact⟨x,a,p1,p,C,rfl,e1,rfl,hs.1.1.1.2,hs.1.1.2,hs.1.2,hs.2⟩
   |cons _ _=>cases hk
  .cases hz
 .cases h
section
variable {M:Mo}{cl:Nat->Addr}{T:Tb}{Z:Tx}{k n fu:Nat}{N:List Str}{ns:NS}{X:Cx}{E:XK}
variable{a:Expr}
theorem x_raise{x:Str}{C:Nat}{p1 p2 pos:Pos}(L:Lv X E)(S:Sc M X.nox k N ns)(O:M.mg x=some (.ref (cl C))/\exB M.K.K (cl C)=true)(hg:d7 ns x=true)(hp:cx x=true)(hs:notStar a=true)(ha:PE X a λG H Q=>∀x,Q (.str x) H):
  PS X (.Raise (some (.Call 12#0 [a] [] p2)) none pos) (tXS cl M.K (rZ C) E):=by
 intro pins s G H D I h;obtain⟨μ,S0,Y,C',S',hr,er,q,aft⟩:=h;cases q;have hb:X.base=M.base:=S.hb;have hm:X.mg=M.mg:=S.hm;have hK:X.K=M.K.K:=S.hK;have O:=NF (K:=M.K.K) (h:=X.base) (by rw[<-hK];exact I.ok.mod.kin) O.1 O.2;obtain⟨tl,Nn,nm,q,bs,hdct,sn,sub,ab,col,dd,k0,k1,k2,k3,k5,mN,hC,hN,hni,T'⟩:=O.obj;refine wpAny_Raise_call_subU (C:=cl C) (nm:=nm) (q:=q) (N:=Nn) (bs:=bs) (bm:=tl) (hdct:=hdct) (sn:=sn) (sub:=sub) (ab:=ab) (col:=col) (dd:=dd) (k0:=k0) (k1:=k1) (k2:=k2) (k3:=k3) (k5:=k5)
  zA (bmB:=vE) 1#0 zA (mN:=mN) (T'.hasType PySem.F.excBase_ValueError.hasBase) S.room.hd (pR _ _ (by rw[bU,hs];rfl)) hni (kK I 4#3 (by rw[hm];exact O.bound) ⟨rfl,?_⟩ (di hp).1)
 rw[dh hs];refine kn ?_;refine eA (thn (ha pins s G H (λv H1=>(∃x,v=.str x)/\H1=H) I λx=>⟨⟨x,rfl⟩,rfl⟩) λu s1 ⟨v,H1,I1,r1,_,e1⟩=>?_);subst e1;refine gU ⟨rfl,?_,I1.bk _ _ hC,hN.keeps I1.bk,T'.keeps I1.bk,λh' e hx=>?_⟩
 .show 1<=sizeLine
  rw[sizeLine_eq];decide
 .exact L.made I1 hx (aft μ H1 1#6 7#8 hr)
theorem OF{g:Str}{as:List Expr}{p pos:Pos}{mf:MF}{r:MX}{k':Nat}{ps:List Str}(S:Sc M X.nox k N ns)(F:Fn M g k' ps mf)(hk:k'<=k)(hg:d7 ns g=true)(hp:cx g=true)(ha:PA X (a::as) (tXA cl M.K r E))(hs:(a::as).all notStar=true):
  PE X (.Call (.Name g p) (a::as) [] pos) (tXE cl M.K r E):=by
 obtain⟨f,fd,hm,hkp,hb,F⟩:=F.ex;have e1:X.prog=M.P:=S.hP;have e2:X.w=M.w:=S.hw;have e3:X.K=M.K:=S.hK;have e4:X.mg=M.mg:=S.hm;have e5:X.base=M.base:=S.hb;rw[<-e1,<-e2,<-e3,<-e4,<-e5]at F;rw[<-e4]at hm;rw[<-e3]at hkp hb;rw[bU,ar]at hs;exact PE.con (zp F 13#3 4#3 hm hkp hb .nil yb ha (di hp).1 (dh hs.1 _ _) (pR _ _ hs.2)) λG H Q h=>h
structure Tw(M:Mo)(cl:Nat->Addr)(T:Tb)(Z:Tx)(k fu n:Nat):Prop where
 e:∀N ns e r,(xc fu n).e T Z N ns e=some r->∀X E,Lv X E->Sc M X.nox k N ns->PE X e (tXE cl M.K r E)
 a:∀N ns es r,(xc fu n).a T Z N ns es=some r->∀X E,Lv X E->Sc M X.nox k N ns->PA X es (tXA cl M.K r E)
 s:∀N ns st r,(xc fu n).s T Z N ns st=some r->∀X E,Lv X E->Sc M X.nox k N ns->PS X st (tXS cl M.K r E)
 b:∀N ns sts r,(xc fu n).b T Z N ns sts=some r->∀X E,Lv X E->Sc M X.nox k N ns->PSs X sts (tXS cl M.K r E)
theorem Ry{R:Tw M cl T Z k fu n}{sts:List Stmt}(h:∀r,(xc fu n).b T Z N ns sts=some r->PSs X sts (tXS cl M.K r E)):PSs X sts (tXS cl M.K (((xc fu n).b T Z N ns sts).getD xNo) E):=by
 cases q:(xc fu n).b T Z N ns sts with
 |some r=>exact h r q
 | none=>
   rintro pins s G H D I ⟨μ,S0,Y,C,S',hr,er,q,aft⟩;cases q
theorem RH(O:XOk M cl T Z k):∀n,Tw M cl T Z k fu n
 |0=>⟨λ_ _ _ _ h=>eV h,λ_ _ _ _ h=>eV h,λ_ _ _ _ h=>eV h,λ_ _ _ _ h=>eV h⟩
 | n+1=>by
   have R:=RH O n;have Sn:=snd fu M T k O.g;refine⟨λN ns e r h X E L S=>?_,λN ns es r h X E L S=>?_,λN ns st r h X E L S=>?_,λN ns sts r h X E L S=>?_⟩
   .replace h:xE fu (xc fu n) T Z N ns e=some r:=h
    cases e with
    | Call g as ks p=>
      obtain⟨x,hx,h2⟩:=bind_eq h;clear h;obtain⟨p1,rfl⟩:=Ic hx;have h:(if ks.isEmpty&&(!as.isEmpty&&(d7 ns x&&cx x)) then xC fu (xc fu n) T Z N ns x as else none)=some r:=h2;clear h2
      split at h
      .rename_i hs
       rw[ar,ar,ar,oE]at hs;obtain⟨rfl,ha,hs⟩:=hs;cases as with
       |nil=>cases ha
       |cons a as=>
       unfold xC at h
       split at h
       .rename_i rr hr
        obtain⟨mas,e1,rfl⟩:=map_eq h;obtain⟨k',ps,hk,F⟩:=O.R _ _ hr;exact x_call L S F hk hs.1 hs.2 (Sn.a _ _ _ _ e1 _ S) (ie e1)
       .split at h
        .rename_i mf hd
         split at h
         .rename_i hst
          obtain⟨k',ps,hk,F⟩:=O.g.1.D _ _ hd;exact OF S F hk hs.1 hs.2 (R.a _ _ _ _ h _ _ L S) hst
         .cases h
        .cases h
      .cases h
    | Subscript a b p=>
      have h:(if lI b then(xc fu n).e T Z N ns a else none)=some r:=h
      split at h
      .rename_i hs
       exact PE.con (Mw (r:=λ_ _ _ _=>False) (by unfold IxR;intros;contradiction) (R.e _ _ _ _ h _ _ L S) PE.never (Mp hs)) λ_ _ _ q=>q
      .cases h
    |_=>cases h
   .simp only[xc]at h
    unfold xA at h
    split at h
    .cases h
    .split at h
     .rename_i e es hs
      split at h
      .rename_i re he
       cases h;exact λpos pins s G H Q I q=>jI (t:=λ_ _ _=>False) (R.e _ _ _ _ he _ _ L S) (λ_ _ _ _ _ _ _ h=>h.elim) (dh hs _ _) pos pins s G H Q I q
      .obtain⟨me,e1,h⟩:=bind_eq h
       obtain⟨rr,e2,rfl⟩:=map_eq h;intro pos pins s G H Q I q;refine jI (Sn.e _ _ _ _ e1 _ S).nox (R.a _ _ _ _ e2 _ _ L S) (dh hs _ _) pos pins s G H Q I ?_;obtain⟨μ,S0,Y,C,S',hr,er,q,aft⟩:=q;obtain⟨u,S1,e1,q⟩:=ba q;exact⟨μ,S0,Y,u,S1,hr,er,e1,λY0 v H1 p1 k1 hr1 _=>30#3⟩
     .cases h
   .replace h:xS fu (xc fu n) T Z N ns st=some r:=h
    cases st with
    | Raise o c p=>
      have h:(if c.isNone then o.bind (xR T Z ns) else none)=some r:=h
      split at h
      .rename_i hn
       obtain⟨e,rfl,hx⟩:=bind_eq h;clear h;cases c with
       |some _=>cases hn
       |none=>
       obtain⟨x,a,p1,p2,C,rfl,e1,rfl,h1,h2,h3,h4⟩:=Tg hx;exact x_raise L S (O.C _ _ e1) h1 h2 h3 (OC O.g.1 S h4)
      .cases h
    | If c a b p=>
      obtain⟨mc,e1,h⟩:=bind_eq h;obtain⟨ra,e2,rfl⟩:=map_eq h;refine PS.con (MV (Sn.t _ _ _ _ e1 _ S).nox (R.b _ _ _ _ e2 _ _ L S) (Ry (R:=R) λr q=>R.b _ _ _ _ q _ _ L S)) λD G H q=>?_;obtain⟨μ,S0,Y,C,S',hr,er,q,aft⟩:=q;obtain⟨b,S1,e1,q⟩:=ba q;refine⟨μ,S0,Y,b,S1,hr,er,e1,λY0 H1 p1 k1 hr1=>?_⟩;cases b with
      |true=>exact Uv 30#3
      |false=>exact Uh 30#3
    | Expr e p=>
      have h:(if je e then(xc fu n).e T Z N ns e else none)=some r:=h
      split at h
      .rename_i hs
       exact PS.con (DG (R.e _ _ _ _ h _ _ L S) (qp hs _ _ _)) λ_ _ _ q=>q
      .cases h
    | Return o p=>
      obtain⟨e,rfl,hx⟩:=bind_eq h;exact PS.con (IF (R.e _ _ _ _ hx _ _ L S)) λ_ _ _ q=>q
    | Assign ts e p=>
      obtain⟨t,e1,hx⟩:=bind_eq h;clear h;obtain⟨x,e2,h⟩:=bind_eq hx;clear hx;cases IU e1;obtain⟨p1,rfl⟩:=Ic e2
      split at h
      .rename_i hs
       simp only[ar]at hs;obtain⟨i,hi⟩:=dM.mp hs.2;have hl:=S.lo hs.1.1;exact PS.con (BO (i:=i) (by have:=S.nd;have e:=S.hN;exact e▸this) (by have e:X.N=N:=S.hN;rw[e];exact slot_get hi) hl.1 (R.e _ _ _ _ h _ _ L S) (qp hs.1.2 _ _ _) hl.2) λ_ _ _ q=>q
      .cases h
    |_=>cases h
   .simp only[xc]at h
    unfold xB at h
    split at h
    .cases h
    .rename_i st rest
     have two:∀(rs:MX) (ms:MS) (rr:MX),PS X st (tXS cl M.K rs E)->PS X st 13#6->PSs X rest (tXS cl M.K rr E)->PSs X (st::rest) (tXS cl M.K (qG rs ms rr) E):=by
      rintro rs ms rr h1 h2 h3 pins s G H D I ⟨μ,S0,Y,C,S',hr,er,q,aft⟩;unfold qG at q
      split at q
      .rename_i r e1
       cases q;exact(m9 h1 (PSs.never (e:=rest))) pins s G H D I ⟨μ,S0,Y,C,S',hr,er,e1,aft⟩
      .split at q
       .rename_i Y1 S1 e2
        exact(m9 h2 h3) pins s G H D I ⟨μ,S0,Y,_,hr,er,e2,λY0 Y6 H1 p1 k1 hr1 er1=>⟨Y0,S1,Y1,C,S',hr1,er1,q,aft.mono p1 k1⟩⟩
       .cases q
     split at h
     .rename_i rs e1
      cases h;refine two _ _ _ (R.s _ _ _ _ e1 _ _ L S) ?_ (Ry (R:=R) λr q=>R.b _ _ _ _ q _ _ L S);cases e2:cS T fu N ns st with
      |some ms=>exact(Sn.s _ _ _ _ e2 _ S).nox
      |none=>exact SO
     .obtain⟨ms,e1,h⟩:=bind_eq h
      obtain⟨rr,e2,rfl⟩:=map_eq h;refine two _ _ _ ?_ (Sn.s _ _ _ _ e1 _ S).nox (R.b _ _ _ _ e2 _ _ L S);rintro pins s G H D I ⟨μ,S0,Y,C,S',hr,er,q,aft⟩;cases q
end
section
variable {M:Mo}{cl:Nat->Addr}{T:Tb}{Z:Tx}{k:Nat}{h:Heap}{x:Str}{st:Stmt}{N ps:List Str}{r:MX}{fu n:Nat}
theorem Def.fnX(O:XOk M cl T Z k)(h0:M.mkr=none)(X:M.K.K.In h)(Gn:h.Ns mainGlobals M.mg)(D:Def M.K x st)(S:bh N ps (aE st))
  (hb:Bd x st ps) (hc:(xc fu n).b T Z N (aE st).names (cq st)=some r):FnX M cl x (k+1) ps (vH ps.length N.length r):=by
 obtain⟨f,fd,a,F⟩:=D.ex;refine⟨f,fd,dB X Gn a,F.2,F.binds hb,?_⟩;obtain⟨oc,od,kV,doc,pm,an,cdv,ct,osl,rfl,lk,hcd⟩:=F.ex;have len:∀vs H Q E,spX cl M.K (vH ps.length N.length r) vs H Q E->vs.length=ps.length:=λvs H Q E h=>by
  obtain⟨μ,S',us,u,S'',hr,rs,e,_⟩:=h;unfold vH at e
  split at e
  .rename_i hl;rw[<-rs.len];exact hl
  .cases e
 refine _L.AG lk hcd S len λA outer s H vs Q E hr h=>⟨tXS cl M.K r E,(RH O n).b _ _ _ _ hc _ E ⟨rfl,rfl,rfl,rfl⟩ (Sc.def (M:=M) (E:=E) S hr λc q h=>by rw[h0]at h;cases h),?_⟩;obtain⟨μ,S1,us,C,S2,hR,rs,e,ka⟩:=h;unfold vH at e
 split at e
 .rename_i hl
  have er:=oz (N:=N) rs;rw[hl]at er;exact⟨μ,S1,_,C,S2,hR,er,e,ka⟩
 .cases e
end
end _G
namespace _G
open PySem PySem.Spec PySem.W _L
open PyProof.Rows hiding St
section
variable {prog:Program}{w:World}{A:Around}{E:Value->Shared->Prop}{K:Frag}{h:Heap}{g:Array GenState}{d:Drawn}{t:Nat}{os:OsState}{e C:Addr}{oe:Obj}
theorem Oq {tp:Value}{R:Result->Shared->Prop} (X:K.In h) (he:h.get? e=some oe) (hc:oe.cls=.ref C) (hm:mroIn K C (.type "object")=some true) (q:R (.ok (.ret 6#6)) ⟨h,g,d,t,os⟩) :
  o5 4#1 A (.call (.builtin "getset_descriptor.__get__") ⟨[.builtin "object.__class__",.ref e,tp],[]⟩) R ⟨h,g,d,t,os⟩:=by
 have L1:=looks_mroIn (M:=model prog w) X hm;have ow:=PySem.F.owner_object_class;have T5:(⟨h,g,d,t,os⟩:Shared).TypeIs 19#6 "getset_descriptor":=kA;refine codeAny_call_builtin PySem.F.slot_gs_get.plain PySem.F.entry_gs_get (PySem.F.slot_gs_get.check _ _ _ _ _ _ _ _ T5 (PySem.F.args_gs_get _ _ _) ?_)
 repeat (any_goals (first |assumption | (with_reducible refine kq he ?_;rw[hc]) | (rw[ow];with_reducible refine L1.at ?_) |with_reducible refine L1.at ?_ |wp_step))
 refine⟨Code.quiet_builtin _ 1#0,fQ PySem.F.entry_object_class ?_⟩
 repeat (any_goals (first |assumption | (with_reducible refine kq he ?_;rw[hc]) |wp_step))
theorem Hl {tk:Tok}{Q:Fin->Shared->Prop} (X:K.In h) (he:h.get? e=some oe) (hc:oe.cls=.ref C) (hm:mroIn K C (.type "object")=some true) (hf:findIn K 6#6 "__class__"=some (some 19#6)) (q:Q (.done (.ret 6#6)) ⟨h,g,d,t,os⟩) :
  aV 4#1 A (Builtin.«object.__getattribute__» ⟨[.ref e,.str "__class__" tk],[]⟩) Q E ⟨h,g,d,t,os⟩:=by
 have L1:=looks_findIn (M:=model prog w) X hf;have f5:(⟨h,g,d,t,os⟩:Shared).TypeIs 19#6 "getset_descriptor":=kA;have f4:=kA;have f6:=PySem.F.slot_gs_get.lookup;have f7:=PySem.F.slot_gs_set.lookup
 repeat (any_goals (first |assumption | (with_reducible refine kq he ?_;rw[hc]) |with_reducible refine L1.at ?_ |wp_step))
 refine Oq X he hc hm ?_
 repeat (any_goals (first |assumption |wp_step))
theorem G6 {nameV:Value}{M:Model}{Q:Unit->Shared->Prop} (X:K.In h) (he:h.get? e=some oe) (hc:oe.cls=.ref C) (hb:mroIn K C (.type "BaseException")=some true) (q:Q () ⟨h,g,d,t,os⟩) :
  aV M A (checkBuiltinCall "BaseException.__getattribute__" ⟨[.ref e,nameV],[]⟩) Q E ⟨h,g,d,t,os⟩:=by
 have L1:=looks_mroIn (M:=M) X hb;have k1:builtinKind "BaseException.__getattribute__"=some .slot:=by decide +kernel
 have k2:splitId "BaseException.__getattribute__"=some ("BaseException","__getattribute__"):=by decide +kernel
 have ha:=PySem.F.args_bexc_ga (.ref e) nameV;simp only[checkBuiltinCall,k1,k2];refine av ?_;unfold isInstance
 repeat (first | (with_reducible refine kq he ?_;rw[hc]) |with_reducible refine L1.at ?_ |wp_step)
 exact q
theorem RC {tk:Tok}{Q:Value->Shared->Prop} (X:K.In h) (he:h.get? e=some oe) (hc:oe.cls=.ref C) (hm:mroIn K C (.type "object")=some true) (hb:mroIn K C (.type "BaseException")=some true) (hf:findIn K 6#6 "__class__"=some (some 19#6))
  (hg:findIn K 6#6 "__getattribute__"=some 31#1) (ha:findIn K 6#6 "__getattr__"=some none) (q:Q 6#6 ⟨h,g,d,t,os⟩) :
  aV 4#1 A (getAttrBy (.ref e) (.str "__class__" tk) false) Q E ⟨h,g,d,t,os⟩:=by
 have L1:=looks_findIn (M:=model prog w) X hg;have L2:=looks_findIn (M:=model prog w) X ha;have f3:=PySem.F.excAttr_ValueError.ga.bind (.ref e);have x2:(tH "BaseException.__getattribute__" == tH "object.__getattribute__")=false:=by decide +kernel
 have x1:(onTheHeap (bx C)&&tH "BaseException.__getattribute__" == tH "object.__getattribute__")=false:=by rw [x2];rfl
 repeat (any_goals (first |assumption | (with_reducible refine kq he ?_;rw[hc]) |with_reducible refine L1.at ?_ |with_reducible refine L2.at ?_ |wp_step))
 refine codeAny_call_builtin PySem.F.excAttr_ValueError.ga.plain PySem.F.entry_bexc_ga (G6 X he hc hb (Hl X he hc hm hf ?_))
 repeat (any_goals (first |assumption |wp_step))
theorem JZ {Q:Option Value->Shared->Prop} (X:K.In h) (he:h.get? e=some oe) (hc:oe.cls=.ref C) (hm:mroIn K C (.type "object")=some true) (hb:mroIn K C (.type "BaseException")=some true) (hf:findIn K 6#6 "__class__"=some (some 19#6))
  (hg:findIn K 6#6 "__getattribute__"=some 31#1) (ha:findIn K 6#6 "__getattr__"=some none) (q:Q (some 6#6) ⟨h,g,d,t+1,os⟩) :
  aV 4#1 A (getAttr? (.ref e) "__class__") Q E ⟨h,g,d,t,os⟩:=by
 unfold getAttr? getAttrBy?
 repeat (any_goals (first |assumption |with_reducible apply RC X he hc hm hb hf hg ha |wp_step))
def Hc (K:Frag) (C:Addr):Bool:=(clsIn K C).isSome&&mroIn K C (.type "object")==some true&&mroIn K C (.type "BaseException")==some true&&findIn K 6#6 "__class__" == some (some 19#6) &&
 findIn K 6#6 "__getattribute__" == some 31#1&&findIn K 6#6 "__getattr__" == some none
theorem GC(hB:Hc K C=true):KitX K (.ref e) 6#6 (λh=>∃oe,h.get? e=some oe/\oe.cls=.ref C):=by
 unfold Hc at hB;simp only[ar,beq_iff_eq]at hB;obtain⟨⟨⟨⟨⟨h0,h1⟩,h2⟩,h3⟩,h4⟩,h5⟩:=hB;obtain⟨cd,hcd⟩:=dM.mp h0;unfold clsIn at hcd
 split at hcd
 rotate_left
 .cases hcd
 rename_i c' d' cd' sl' ho
 refine⟨λM h X p=>?_,λM h X p=>?_,λh tp dd its n sl X htp=>?_,λ{prog w A E Q s} X p k=>?_⟩
 .obtain⟨oe,e1,e2⟩:=p
  exact e2▸(Looks.ld e1).andThen .now
 .intro A' Q' E' s' k q
  unfold isType loadHead;exact av (wpAny_loadPart (k _ _ (X _ _ ho)) (aG q))
 .refine Bool.eq_false_iff.mpr λq=>?_
  have z:C=tp:=Value.ref.inj (beq_iff_eq.mp q);subst z;have:=(X _ _ ho).symm.trans htp;cases this
 .obtain⟨oe,e1,e2⟩:=p
  obtain⟨h,g,d,t,os⟩:=s;exact JZ X e1 e2 h1 h2 h3 h4 h5 k
end
end _G
namespace _G
open PySem PySem.Spec _L
open PySem.W (envX kla_fn kla_obj CodeHd tabObj)
open PyProof.Rows hiding St
section
variable {X:Cx}{pins:List (Addr×Obj)}{G:St}{H H':Hp}{s s':Shared}
theorem GG{M:Model}{A:Around}{E:Value->Shared->Prop}{j:Nat}{n:Str}{pos:Pos}{Q:Unit->Shared->Prop}(I:Inv X pins G H s)(hN:X.N.Nodup)(hj:X.N[j]?=some n)(hn:X.env.scope.names.lookup n=some .local)
  (h:∀s',Inv X pins (G.set j none) H s'->Q () s'):aV M A (do bindName X.env n .none;unbindBehindTheSuite X.env n pos) Q E s:=by
 obtain⟨m,hm,hl⟩:=id I.loc;have hcls:(X.env.scope.kind==.class||(X.env.scope.kind==.module&&X.env.locals != X.env.globals))=false:=by rw[I.ok.kind];rfl
 refine wpAny_nameGoes_keeps hn hm hcls λh' v hn' hs=>h _ ?_;obtain⟨oL,_,_,hoL,_⟩:=id hm;have below:∀b o,X.s₀.heap.get? b=some o->b≠X.env.locals:=λb o e=>aW 23#8;refine⟨I.ok,I.os,I.bare,⟨λb o e n hb hx=>(hs.2 b (below b o e)).trans 27#8,λb o e n hb hx=>?_,I.base.free,λb o e hx=>?_,I.base.tups,I.base.frzs,I.base.tbls⟩,⟨_,hn',λi y w e1 e2 e3=>?_⟩,λy c e=>?_,I.free,I.freeC,λp hp=>?_,λb ob e=>?_,by simpa using I.len⟩
 .obtain⟨sl,e1⟩:=I.base.slot b o e n hb hx
  exact⟨sl,(hs.2 b (below b o e)).trans e1⟩
 .obtain⟨o',e1⟩:=I.base.there b o e hx
  exact⟨o',(hs.2 b (below b o e)).trans e1⟩
 .by_cases hi:i=j
  .rw[hi]at e2
   rw[List.getElem?_set]at e2;simp only[if_true]at e2
   split at e2<;>cases e2
  .rw[aB (dZ hi)]at e2
   obtain⟨u',r',q⟩:=hl i y w e1 e2 e3;refine⟨u',r',?_⟩;rcases q with⟨k,e⟩|⟨k,c,e,z⟩
   .refine .inl ⟨k,?_⟩
    have hne:y≠n:=λe=>hi (vK hN e1 (e▸hj));simp[hne,e]
   .exact .inr ⟨k,c,e,z.sameBut hs (I.cne y c e)⟩
 .obtain⟨w',z⟩:=I.cell y c e
  exact⟨w',z.sameBut hs (I.cne y c e)⟩
 .obtain⟨e,n,ne,nf,d⟩:=I.pin p hp
  exact⟨(hs.2 p.1 ne).trans e,n,ne,nf,d⟩
 .refine(I.hok b ob e).stay (λc w' hc q=>(hs.2 c ?_).trans q) (λ_ q=>q) λ_ _ q=>q
  rintro rfl;rcases hc with rfl|hc
  .rw[I.free]at e;cases e
  .rw[I.free]at hc;cases hc
abbrev Cx.mkd(X:Cx)(e:Value):Cx:={ X with A:=X.A.mark (some e),calm:=false,xe:=λ_ _=>False }
variable{e:Value}
theorem Inv.mkd(I:Inv X pins G H s):Inv (Cx.mkd X e) pins G H s:=
 ⟨⟨I.ok.mod,I.ok.kind,I.ok.glob,I.ok.blt,I.ok.above,I.ok.inj,I.ok.has,I.ok.cab,9#7,I.ok.frames,I.ok.stk,I.ok.exf,I.ok.bs,I.ok.bsz,I.ok.noex,I.ok.exfs,I.ok.funs,I.ok.frf⟩,I.os,I.bare,I.base,I.loc,I.cell,I.free,I.freeC,I.pin,I.hok,I.len⟩
theorem Inv.unmkd(I:Inv (Cx.mkd X e) pins G H s)(hd:X.calm=true->X.A.handled=none):Inv X pins G H s:=
 ⟨⟨I.ok.mod,I.ok.kind,I.ok.glob,I.ok.blt,I.ok.above,I.ok.inj,I.ok.has,I.ok.cab,hd,I.ok.frames,I.ok.stk,I.ok.exf,I.ok.bs,I.ok.bsz,I.ok.noex,I.ok.exfs,I.ok.funs,I.ok.frf⟩,I.os,I.bare,I.base,I.loc,I.cell,I.free,I.freeC,I.pin,I.hok,I.len⟩
theorem HOk.frz{P:Program}{w:World}{h:Heap}{a:Addr}{o:Obj}(x:HOk P w H h)(n:H a=none)(e:h.get? a=some o):HOk P w (upd H a (.frz o fz)) h:=λb u q=>by
 by_cases hb:b=a
 .subst hb
  rw[cz]at q;cases q;exact⟨e,trivial,⟨_,e⟩,λ_ _ _ _=>trivial⟩
 .rw[bo hb]at q
  exact(x b u q).stay (λ_ _ _ z=>z) (λc z=>by rw[bo (bf z n)];exact z) λc xs z=>by rw[bo (bf z n)];exact z
theorem Un.frz{fs:List Addr}{h h':Heap}{a:Addr}{o:Obj}(u:Un fs [] H H' h h')(hn:h.get? a=none)(n:H' a=none):Un fs [] H (upd H' a (.frz o fz)) h h' where
 keep:=u.keep
 slot:=u.slot
 free:=λb o q m hx=>by rw[bo (λz=>by rw[z,hn]at q;cases q)];exact u.free b o q m hx
 there:=u.there
 tups:=λb xs q=>by have:=u.tups b xs q;rw[bo (bf this n)];exact this
 frzs:=λb ob xs q=>by have:=u.frzs b ob xs q;rw[bo (bf this n)];exact this
 tbls:=λb ps q=>by obtain⟨m,e⟩:=u.tbls b ps q;exact⟨m,by rw[bo (bf e n)];exact e⟩
end
end _G
namespace _G
open PySem PySem.Spec _L
open PyProof.Rows hiding St
section
variable {X:Cx}{pins:List (Addr×Obj)}{G:St}{H H':Hp}{s s':Shared}
theorem HR.frz{K:KX}{μ:List Addr}{S:Sto}{a:Addr}{o:Obj}(h:HR K μ S H)(n:H a=none):bq H (upd H a (.frz o fz))/\HR K μ S (upd H a (.frz o fz)):=by
 have kp:bq H (upd H a (.frz o fz)):=bq.new n;refine⟨kp,h.len,h.inj,λm c x q1 q2=>(h.cell m c x q1 q2).mono kp 1#6 (λhc=>?_) λo' u e=>by rw[bo (bf e n)];exact e,h.ext.upd kp 1#6 λo' q=>by rw[n]at q;cases q⟩;obtain⟨ob,e,_⟩:=(h.cell m c x q1 q2).has hc;exact bo (bf e n)
theorem Ms{E:Value->Shared->Prop}{Q:Value->Shared->Prop}{i:Nat}{x:Str}{g:Addr}{fd:FuncData}{p1 pos:Pos}(I:Inv X pins G H s)(hN:X.N[i]?=some x)(hv:Vis X.env.scope x)(hp:cx x=true)(X3:G[i]?=some (some (.ref g)))
  (hf:(∃(oc:Value) (od:Option Addr) (sl:Array (Option Value)),X.base.get? g=some ⟨oc,od,.func fd,sl⟩)\/dq X.K (.ref g)=true)
  (h:∀s1,Inv X pins G H s1->aV 1#2 X.A (call (.ref g) []) Q E s1):aV 1#2 X.A (eval (.Call 12#0 [] [] pos) X.env) Q E s:=by
 obtain⟨n1,n2⟩:=di hp;refine d4 (thn (vb (X:=X.wish E) hN hv n1 n2 pins s G H (λv H1=>v=.ref g/\H1=H) (I.wish E) ⟨_,X3,rfl,rfl⟩) λw s1 ⟨v,H1,I1,r1,e1,e2⟩=>?_);subst e1;subst e2;obtain rfl:w=bx g:=r1;have I1:=I1.unwish;rcases hf with⟨oc,od,sl,hf⟩ |hf
 .exact FJ (P:=λh=>h.get? g=some ⟨oc,od,.func fd,sl⟩) rfl (λh q=>⟨.frame,.inl rfl,(rG (part:=none) q).andThen .now⟩) (evalArgs_nil3 ⟨I1.bk g _ hf,h s1 I1⟩)
 .exact FG I1.kIn hf (h s1 I1)
end
def TK(cl:Nat->Addr)(K:KX)(i j l:Nat)(g:Addr)(φ:MF)(ψ:RF):TS:=λD G H=>∃μ S Y,HR K μ S H/\ER H μ Y G/\Y[i]?=some (some (.obj g))/\Y[j]?=some none /\
 ((∃u S1,φ [] S=some (u,S1) /\ ∀Y4 Y3 H',Pre μ Y4->bq H H'->HR K Y4 S1 H'->ER H' Y4 Y Y3->D.nx Y3 H') \/
  ∃q S1,ψ [] S=some (q,S1) /\ ∀e oe Y4 Y3 H',Pre μ Y4->bq H H'->HR K Y4 S1 H'->ER H' Y4 (Y.set l (some (.obj e))) Y3->H' e=some (.frz oe fz)->oe.cls = .ref (cl q)->D.nx Y3 H')
section
variable {M:Mo}{X:Cx}{k:Nat}{N:List Str}{ns:List (Str×NameKind)}{x n y W:Str}{p1 p2 p3 p4 p5 p6 p7 p8 p9:Pos}
theorem OQ{cl:Nat->Addr}{φ:MF}{ψ:RF}{g w:Addr}{k' i j l:Nat}(S:Sc M X k N ns)(stk:X.stack=X.env::X.outer)(fr:X.env.frame=some X.env.locals)(F:Lam M g k' [] φ)(F':Az M cl g k' [] ψ)(hk:k'<=k)
  (hi:N[i]?=some x) (hx:pY ns x=true) (hp:cx x=true) (hj:N[j]?=some n) (hn:ns.lookup n=some .local) (hnp:cx n=true) (hl:N[l]?=some y) (hy:nX ns y=true) (hjl:j≠l) (hW:d7 ns W=true) (hWp:cx W=true) (hw:M.mg W=some (.ref w))
  (hm:∀S q S1,ψ [] S=some (q,S1)->zB M.K (.ref (cl q)) (.ref w)=some true):
  PS X (.Try [.Expr (.Call 12#0 [] [] p2) p3] [.ExceptHandler (some (.Name W p4)) (some n) [.Assign [.Name y p5] (.Name n p6) p7] p8] [] [] p9) (TK cl M.K i j l g φ ψ):=by
 intro pins s G H D I h;obtain⟨μ,S0,Y,hr,er,X0,Z0,h⟩:=h;obtain⟨v,X3,rv⟩:=er.get i _ X0;have hv':v=.ref g:=by simpa only [RU]using rv
 subst hv';have hiN:X.N[i]?=some x:=by rw[S.hN];exact hi
 refine wpAny_Try_except (Cr (wpAny_Expr_any ?_ I.quiet rfl));rcases h with⟨u,S1,hφ,kk⟩|⟨q,S1,hψ,kk⟩
 .obtain⟨fd,hf,hb,F⟩:=F.ex
  rw[<-S.hP,<-S.hw,<-S.hK,<-S.hm,<-S.hb]at F;rw[<-S.hb,<-S.hK]at hf;rw[<-S.hK]at hb;refine Ms I hiN (S.vis hx) hp X3 hf λs1 I1=>?_;refine thn (cj (vk (X:=X.nox) F 13#3 hb .nil yb (I1.wish _) .nil (show spM M.K φ ([]++[]) H (λ_ H'=>D.nx G H') E0 from⟨μ,S0,[],u,S1,hr,.nil,hφ,λY4 v H' p k hr' _=>kk Y4 G H' p k hr' (er.mono k p)⟩)) (λ_ _ z=>z) λ_ _ z=>z.elim) λu s2 ⟨v,H2,I2,r2,q2⟩=>?_;exact jq (jq ⟨G,H2,I2.unwish,q2⟩)
 .obtain⟨fd,hf,hb,F'⟩:=F'.ex
  rw[<-S.hP,<-S.hw,<-S.hK,<-S.hm,<-S.hb]at F';rw[<-S.hb,<-S.hK]at hf;rw[<-S.hK]at hb;have hM:=hm _ _ _ hψ;refine Ms I hiN (S.vis hx) hp X3 hf λs1 I1=>?_;have hsp:spX cl M.K ψ [] H 14#4 (λc _ H'=>c=.ref (cl q) /\ ∃Y4,Pre μ Y4/\bq H H'/\HR M.K Y4 S1 H'):=⟨μ,S0,[],q,S1,hr,.nil,hψ,λY4 H' p k hr'=>⟨rfl,Y4,p,k,hr'⟩⟩;refine Jp (iL (F'.run X.A X.stack s1 H ⟨[],[]⟩ [] [] 14#4 _ 13#3 I1.env0 (hb s1 [] I1.kIn (by have:=F'.len _ _ _ _ hsp;simpa using this)) .nil hsp) λr s2 hq=>?_);cases r with
  | ok fl=>
    cases fl with
    |ret u=>obtain⟨_,_,_,_,_,_,_,z⟩:=hq;exact z.elim
    |next=>exact bT hq
    |brk=>exact bT hq
    |cont=>exact bT hq
  | error ev=>
    obtain⟨e,T,cls,H',rfl,os,hg,un,hok,t,he,hT,ne,nT,rfl,Y4,pr,kp,hr'⟩:=hq;have I2:Inv X pins G H' s2:=I1.call' os un hok hg λb z=>nomatch z
    have fS:X.A.frames=some (X.env::X.outer):=by rw[I.ok.frames,stk]
    obtain⟨a0,fl⟩:=flying I2 t;rw[show o8 (cH s2.heap 15#6) X.stack e (.ref (cl q)) a0 s2.heap=o8 (cH s2.heap 15#6) (X.env::X.outer) e (.ref (cl q)) a0 s2.heap by rw[<-stk]]at fl;refine wpAny_looks_onW fS fr fl λh3 hd3 sl3=>wpAny_landsW hd3 λh4 fl4 sl4=>?_;have sl04:=sl3.trans sl4;have lf4:=yT I2 fl4.1 sl04;have I4:Inv X pins G H' { s2 with heap:=h4 }:=I1.call' (s':={ s2 with heap:=h4 }) os (lf4.un un he hT) (lf4.hok hok I2.stkFree ne nT) hg λb z=>nomatch z
    refine wpAny_handleBy_cons (codeAny_handlers_test (kK (X:=Cx.mkd X (.ref e)) (Inv.mkd I4) (S.gl hW) (by show X.mg W=_;rw[S.hm];exact hw) ?_ (di hWp).1)) 20#6;obtain⟨ob,hob,hobc⟩:=fl4.there;have kin:M.K.K.In h4:=by have:=I4.kIn;rw[S.hK]at this;exact this
    refine(PySem.W.exm_one (M:=model X.prog X.w) kin (hobc▸(rG hob).andThen .now) hM).here ?_;refine codeAny_handlers_suite_as (lands_againW (s:={ s2 with heap:=h4 }) fl4 λh6 fl6 sl6=>?_);have sl06:=sl04.trans sl6;have lf6:=yT I2 fl6.1 sl06;obtain⟨oe,e1,e2⟩:=fl6.there;have I6:Inv X pins G (upd H' e (.frz oe fz)) { s2 with heap:=h6 }:=I1.call' (s':={ s2 with heap:=h6 }) os (Un.frz (lf6.un un he hT) he ne) (HOk.frz (lf6.hok hok I2.stkFree ne nT) ne e1) hg λb z=>nomatch z
    obtain⟨kp6,hr6⟩:=HR.frz (o:=oe) hr' ne;have ndN:X.N.Nodup:=by rw[S.hN];exact S.nd
    have hjN:X.N[j]?=some n:=by rw[S.hN];exact hj
    have hlN:X.N[l]?=some y:=by rw[S.hN];exact hl
    have hnl:=S.loc n hn;refine nO I6 ndN hjN (.inl hnl) (v:= .ref e) rfl (λs7 I7=>?_) (.inr hnl);have hjl':j<G.length:=by rw[I.len];exact(ag.mp hjN).1
    have ps:=CD (BO (X:=Cx.mkd X (.ref e)) (i:=l) (pos:=p7) (pos':=p5) ndN hlN (S.lo hy).1 (vb (X:=Cx.mkd X (.ref e)) (i:=j) (pos:=p6) hjN (.inl hnl) (di hnp).1 (di hnp).2) rfl (S.lo hy).2);refine cj (ps pins s7 _ _ { nx:=λY3 H''=>Y3=(G.set j (some (.ref e))).set l (some (.ref e))/\H''=upd H' e (.frz oe fz),rt:=λ_ _=>False } (Inv.mkd I7) ⟨.ref e,aN hjl',rfl,rfl⟩) (λf s8 hs=>?_) λ_ _ z=>z.elim;cases f with
    |ret u=>obtain⟨_,_,_,_,_,z⟩:=hs;exact z.elim
    |brk=>obtain⟨_,_,_,z⟩:=hs;exact z.elim
    |cont=>obtain⟨_,_,_,z⟩:=hs;exact z.elim
    | next=>
      obtain⟨Y3,H'',I8,rfl,rfl⟩:=hs;have I8':Inv X pins _ _ s8:=Inv.unmkd I8 I.ok.hd;refine GG I8' ndN hjN hnl λs9 I9=>⟨_,_,I9,?_⟩;refine kk e oe Y4 _ _ pr (kp.trans kp6) hr6 ⟨by simp[er.len],λm u hu=>?_⟩ cz e2;have er6:=er.mono (kp.trans kp6) pr;have hll:l<G.length:=by rw[I.len];exact(ag.mp hlN).1
      by_cases hml:m=l
      .subst hml
       rw[aN (by rw[er.len];exact hll)]at hu;cases hu;refine⟨.ref e,?_,by simp only[RU]⟩;rw[aB hjl,aN (by simpa using hll)]
      .rw[aB (dZ hml)]at hu
       have hmj:m≠j:=λz=>by rw[z,Z0]at hu;cases hu
       obtain⟨v,h1,h2⟩:=er6.get m u hu;refine⟨v,?_,h2⟩;rw[aB (dZ hmj),aB (dZ hml),aB (dZ hmj)];exact h1
end
def cn:List Str := ["TooMany","NotLevel","NoLift","NotPlain","NoName","BadNote","NoTwist"]
structure AK(K:ao)(mg:Str->Option Value)(cl:Nat->Addr)(w:Addr)(rz:List Nat):Prop where
 c:∀j t,cn[j]?=some t->mg t=some (.ref (cl j))
 W:mg "WalkError"=some (.ref w)
 V:mg "ValueError"=none
 n :∀ j,j<7->cX K (.type "NoneType") (.ref (cl j))=some false
 nV:cX K (.type "NoneType") (.type "ValueError")=some false
 lt:∀q∈rz,q<7
 x:∀q∈rz,Hc K (cl q)=true
 m:∀q∈rz,zB K (.ref (cl q)) (.ref w)=some true
 k:∀q∈rz,∀j,j<7->cX K (.ref (cl q)) (.ref (cl j))=some (decide (q=j))
 kV :∀ q∈rz,cX K (.ref (cl q)) (.type "ValueError")=some true
def mIs(u:U)(b:Bool):ME:=λY S=>open Classical in if Y[1]?=some (some u) then some (.bl b,S) else none
def PP(L a b c:Nat):Pos:=⟨L+a,b,L+a,c⟩
def isi (L a b:Nat) (t:Str) (n:Nat):Expr := .Call (.Name "isinstance" (PP L a b (b+10))) [.Name "error" (PP L a (b+11) (b+16)),.Name t (PP L a (b+18) (b+18+n))] [] (PP L a b (b+19+n))
def BN (K:KX) (u:U) (t:Value):Prop:=(u=.non/\t=.type "NoneType") \/ ∃ e oe C,u=.obj e/\t=.ref C/\(e,oe)∈K.cds/\oe.cls=.ref C/\Hc K.K C=true
section
variable {M:Mo}{X:Cx}{k:Nat}{N:List Str}{ns:List (Str×NameKind)}
variable{b:Bool}
theorem PX{pins:List (Addr×Obj)}{G:St}{H:Hp}{s:Shared}{E:Value->Shared->Prop}{u:U}{t c:Value}{v:V}{x:Value}{Q:VK}{μ:List Addr}{S:Sto}(I:Inv X pins G H s)(hK:X.K=M.K.K)(hr:HR M.K μ S H)(ok:BN M.K u t)(ru:RU H μ u v)(rv:RelV v x)(e:cX M.K t c=some b)(q:Q (.bl b) H):
  aV 1#2 X.A (call (.builtin "isinstance") [x,c]) 6#8 E s:=by
 have kin:M.K.K.In s.heap:=by rw[<-hK];exact I.kIn
 rcases ok with⟨rfl,rfl⟩|⟨ea,oe,C,rfl,rfl,hm,hc,hB⟩
 .have hv:v=.non:=by simpa only [RU]using ru
  subst hv;obtain rfl:x=jV:=rv;exact dn Jw kin trivial e 20#6 λtk=>⟨.bl b,H,I.tok tk,rfl,q⟩
 .have hv:v=.ref ea:=by simpa only [RU]using ru
  subst hv;obtain rfl:x=bx ea:=rv;exact dn (GC hB) kin ⟨oe,(I.hok ea _ (hr.ext.cds _ hm)).1,hc⟩ e 20#6 λtk=>⟨.bl b,H,I.tok tk,rfl,q⟩
theorem L0 {u:U}{t c:Value}{L a bb n:Nat}{y:Str} (S:Sc M X k N ns) (ok:BN M.K u t) (h1:N[1]?=some ("error":Str)) (hv:pY ns "error"=true) (hg:d7 ns "isinstance"=true) (hm:M.mg "isinstance"=none) (hy:d7 ns y=true) (hp:cx y=true)
  (hc:M.mg y=some c\/(M.mg y=none/\bootBuiltins y=some c/\y≠"__name__")) (e:cX M.K t c=some b):PE X (isi L a bb y n) (tM M.K (mIs u b)):=by
 rintro pins s G H Q I ⟨μ,S0,Y,w,S',hr,er,q,aft⟩;unfold mIs at q
 split at q
 rotate_left
 .cases q
 rename_i X0
 cases q;obtain⟨v,X3,ru⟩:=er.get 1 _ X0;have h1N:X.N[1]?=some ("error":Str):=by rw [S.hN];exact h1
 unfold isi;refine d4 (lh I 4#3 5#7 boot_isinstance ?_ 0#1 0#1);refine callWith_builtin1 ?_ rfl rfl;refine eA (thn (vb (X:=X) h1N (S.vis hv) 1#0 1#0 pins s G H (λv' H1=>v'=v/\H1=H) I ⟨_,X3,rfl,rfl⟩) λx s1 ⟨v',H1,I1,r1,e1,e2⟩=>?_);subst e1;subst e2;have fin:aV 1#2 X.A (call (.builtin "isinstance") [x,c]) 6#8 X.xe s1:=PX I1 S.hK hr ok ru r1 e (aft μ _ H1 1#6 7#8 hr jG);rcases hc with hc|⟨hc,hb,hn⟩
 .exact eA (kK I1 (S.gl hy) (by rw[S.hm];exact hc) (gU fin) (di hp).1)
 .exact eA (lh I1 (S.gl hy) (by rw[S.hm];exact hc) hb (gU fin) hn (di hp).1)
end
def og(L:Nat)(z:Stmt):List Stmt:= [
 .Assign [.Name "error" (PP L 1 4 9)] (.Constant .none 0 (PP L 1 12 16)) (PP L 1 4 16),
 .Try [.Expr (.Call (.Name "call" (PP L 3 8 12)) [] [] (PP L 3 8 14)) (PP L 3 8 14)] [.ExceptHandler (some (.Name "WalkError" (PP L 4 11 20))) (some "e") [.Assign [.Name "error" (PP L 5 8 13)] (.Name "e" (PP L 5 16 17)) (PP L 5 8 17)] ⟨L+4,4,L+5,17⟩] [] [] ⟨L+2,4,L+5,17⟩,
 .Assign [.Name "kinds" (PP L 6 4 9)] (.List [isi L 6 13 "TooMany" 7,isi L 6 41 "NotLevel" 8,isi L 6 70 "NoLift" 6] (PP L 6 12 96)) (PP L 6 4 96),
 .Assign [.Name "kinds" (PP L 7 4 9)] (.BinOp (.Name "kinds" (PP L 7 12 17)) .Add (.List [isi L 7 21 "NotPlain" 8,isi L 7 50 "NoName" 6,isi L 7 77 "BadNote" 7] (PP L 7 20 104)) (PP L 7 12 104)) (PP L 7 4 104),
 .Expr (.Call (.Attribute (.Name "kinds" (PP L 8 4 9)) "append" (PP L 8 4 16)) [isi L 8 17 "NoTwist" 7] [] (PP L 8 4 44)) (PP L 8 4 44),
 .If (.UnaryOp .Not (isi L 9 11 "ValueError" 10) (PP L 9 7 40)) [.Return (some (.Constant .none 0 (PP L 10 15 19))) (PP L 10 8 19)] [] ⟨L+9,4,L+10,19⟩,
 z]
def mzR:MS:=cb (bK (iR1 (aa (mC (.int 7)) af)) (cOf (m2 oIx 0#7 1#3)) 1#3)
def tlR(u:U)(b:Nat->Bool):MS:=
 aX (bu 3 (bH (aa (mIs u (b 0)) (aa (mIs u (b 1)) (aa (mIs u (b 2)) af)))))
 (aX (bu 3 (m2 cK 0#7 (bH 29#8)))
 (aX (du (mML bF 0#7 (aa (mIs u (b 6)) af)))
 (aX (sIf (jL (cOf (mIs u (b 7)))) (cb (mC .non)) cW) mzR)))
def ya (ns:NS):Bool:=nX ns "error"&&nX ns "kinds"&&pY ns "call"&&ns.lookup ("e":Str)==some .local&&d7 ns "isinstance"&&d7 ns "ValueError"&&d7 ns "WalkError"&&cn.all (d7 ns)
def tV:List Str := ["call","error","e","kinds"]
theorem zo{ns:NS}{x:Str}(h:nX ns x=true):pY ns x=true:=by
 unfold nX at h;unfold pY
 split at h<;>rename_i e<;>first | (cases h;done) |rw[e]
section
variable {M:Mo}{X:Cx}{k:Nat}{ns:List (Str×NameKind)}
theorem DH {u:U}{t:Value}{b:Nat->Bool}{c:Nat->Value}{L:Nat}{z:Stmt}{cl:Nat->Addr}{w:Addr}{rz:List Nat} (S:Sc M X k tV ns) (hns:ya ns=true) (B :∀ x∈jk,M.mg x=none) (Rk:AK M.K.K M.mg cl w rz) (ok:BN M.K u t) (hb :∀ j,j<7->cX M.K t (.ref (cl j))=some (b j)) (hV:cX M.K t (.type "ValueError")=some (b 7))
  (hz:PS X z (tMS M.K mzR)):PSs X ((og L z).drop 2) (tMS M.K (tlR u b)):=by
 unfold ya at hns;simp only[ar,bI]at hns;obtain⟨⟨⟨⟨⟨⟨⟨h1,h2⟩,h3⟩,h4⟩,h5⟩,h6⟩,h7⟩,h8⟩:=hns;have hiB:M.mg "isinstance"=none:=B _ 1#0;have is:∀(j a bb n:Nat) (y:Str),cn[j]?=some y->PE X (isi L a bb y n) (tM M.K (mIs u (b j))):=λj a bb n y hj=>by
  have hlt:j<7:=(ag.mp hj).1;have hm:y∈cn:=bP hj;have hp:cx y=true:=by
   have:∀y∈cn,cx y=true:=by decide +kernel
   exact this y hm
  exact L0 S ok rfl (zo h1) h5 hiB (h8 y hm) hp (.inl (Rk.c j y hj)) (hb j hlt)
 have kv :∀ pos,PE X (.Name "kinds" pos) (tM M.K 0#7):=fun pos=>Mv S 3 rfl (zo h2) 1#0 1#0;refine AQ (Ar S 3 rfl h2 (GT (mY (is 0 _ _ _ _ rfl) (mY (is 1 _ _ _ _ rfl) (mY (is 2 _ _ _ _ rfl) Cw))))) ?_;refine AQ (Ar S 3 rfl h2 (MO S (kv _) (GT (mY (is 3 _ _ _ _ rfl) (mY (is 4 _ _ _ _ rfl) (mY (is 5 _ _ _ _ rfl) Cw)))))) ?_;refine AQ (Hg (zR S (kv _) (mY (is 6 _ _ _ _ rfl) Cw) rfl rfl (by show((L+8)==(L+8))=true;simp) rfl rfl)) ?_;refine AQ (Q3 (Mu (Mk (L0 S ok rfl (zo h1) h5 hiB h6 1#0 (.inr ⟨Rk.V,by decide +kernel,by decide +kernel⟩) hV))) (Hz (Mb IS)) Mx) (Hz hz)
end
variable{u:U}{S:Sto}
theorem BP{b:Bool}{Y:Rho}(h:Y[1]?=some (some u)):mIs u b Y S=some (.bl b,S):=by
 unfold mIs;rw[if_pos h]
variable{x y:Option U}{b:Nat->Bool}
theorem Dl:tlR u b [x,some u,y,none] S =
  (aX (sIf (jL (cOf (mIs u (b 7)))) (cb (mC .non)) cW) mzR) 9#4 (S++ir b):=by
 have i0:∀(v:Option U) (c:Bool) (S:Sto),mIs u c [x,some u,y,v] S=some (.bl c,S):=λv c S=>BP rfl;have e1:bu 3 (bH (aa (mIs u (b 0)) (aa (mIs u (b 1)) (aa (mIs u (b 2)) af)))) [x,some u,y,none] S=some (.nx,[x,some u,y,1#1],S++[kL b [0,1,2]]):=by
  simp only[bu,bH,aa,af,i0,az];rw[if_pos (by simp[big])];rfl
 have g1:(S++27#6)[S.length]?=some (kL b [0,1,2]):=by simp
 have g2:(S++27#6)[S.length+1]?=some (kL b [3,4,5]):=by rw[aq 0#2];simp
 have e2:bu 3 (m2 cK 0#7 (bH 29#8)) [x,some u,y,1#1] (S++[kL b [0,1,2]])=some (.nx,9#4,S++18#6):=by
  have a0:bH 29#8 [x,some u,y,1#1] (S++[kL b [0,1,2]])=some (.ref 11#8,S++27#6):=by
   simp only[bH,aa,af,i0,az];rw[if_pos (by simp[big])];simp[kL]
  have v0:∀S',ae 3 [x,some u,y,1#1] S'=some 13#1:=λS'=>rfl;have a1:cK (.ref S.length) 4#4 (S++27#6)=some (.ref (S.length+2),S++18#6):=by
   unfold cK;simp only[g1,g2];simp only[kL];rw[if_pos (by simp[big])];simp
  simp only[bu,m2,v0,az,a0,a1];rfl
 have g3:(S++18#6)[S.length+2]?=some (kL b [0,1,2,3,4,5]):=by rw[aq 0#2];simp
 have e3:du (mML bF 0#7 (aa (mIs u (b 6)) af)) 9#4 (S++18#6)=some (.nx,9#4,S++ir b):=by
  have v0:∀S',ae 3 9#4 S'=some (.ref (S.length+2),S'):=λS'=>rfl;have gl:getL (S++18#6) (S.length+2)=some ([0,1,2,3,4,5].map λi=>.bl (b i)):=by
   unfold getL;rw[g3];rfl
  have a1:bF (S.length+2) [.bl (b 6)] (S++18#6)=some (.non,S++ir b):=by
   unfold bF;simp only[g3];simp only[kL];rw[if_pos (by simp[big])];rw[dP _ _ 0#2];have:S.length+2-S.length=2:=by omega
   rw[this];rfl
  simp only[du,mML,v0,az,gl,ah,aa,af,i0,a1]
 unfold tlR;rw[show ∀(a b:MS) (Y:Rho) (S:Sto),aX a b Y S=30#5 from λ_ _ _ _=>rfl,e1];simp only[];rw[show ∀(a b:MS) (Y:Rho) (S:Sto),aX a b Y S=30#5 from λ_ _ _ _=>rfl,e2];simp only[];rw[show ∀(a b:MS) (Y:Rho) (S:Sto),aX a b Y S=30#5 from λ_ _ _ _=>rfl,e3]
theorem Lx(hb:b 7=false):tlR u b [x,some u,y,none] S=some (.rt .non,9#4,S++ir b):=by
 rw[Dl];simp only[aX,sIf,jL,cOf,BP (show(9#4:Rho)[1]?=some (some u) from rfl),az,hb];rfl
theorem UD:okR 7:=by unfold okR;omega
theorem K7{q:Nat}(hq:q<7):∃Y2,tlR u (bQ q) [x,some u,y,none] S=some (.rt (.ref (S.length+3)),Y2,S++(ir (bQ q)++[.lst [.int q]])):=by
 rw[Dl];have h7:bQ q 7=true:=by unfold bQ;simp
 simp only[aX,sIf,jL,cOf,BP (show(9#4:Rho)[1]?=some (some u) from rfl),az,h7,ko,gq,if_false,cW];refine⟨9#4,?_⟩;unfold mzR cb bK;have hi:iR1 (aa (mC (.int 7)) af) 9#4 (S++ir (bQ q))=some (.imm (br 0 7),S++ir (bQ q)):=by
  simp only[iR1,aa,mC,af,az];rw[if_pos UD];rfl
 have g3:(S++ir (bQ q))[S.length+2]?=some (kL (bQ q) [0,1,2,3,4,5,6]):=by rw[aq 0#2];simp[ir]
 have gi:∀i:Nat,i<7->cOf (m2 oIx 0#7 1#3) 21#7 (S++ir (bQ q))=some (bQ q i,S++ir (bQ q)):=λi hi=>by
  have v3:∀S',ae 3 21#7 S'=some (.ref (S.length+2),S'):=λS'=>rfl;have v4:∀S',ae 4 21#7 S'=some (.int i,S'):=λS'=>rfl;have d0:ft (S++ir (bQ q)) (.ref (S.length+2))=none:=by
   simp only[ft,g3,kL]
  have s0:eC (S++ir (bQ q)) (.ref (S.length+2))=some ([0,1,2,3,4,5,6].map λi=>.bl (bQ q i)):=by
   simp only[eC,getL,g3,kL]
  have a0:_L.atI ([0,1,2,3,4,5,6].map λi=>U.bl (bQ q i)) (i:Int)=some (.bl (bQ q i)):=by
   have:i=0\/i=1\/i=2\/i=3\/i=4\/i=5\/i=6:=by omega
   rcases this with rfl|rfl|rfl|rfl|rfl|rfl|rfl<;>rfl
  simp only[cOf,m2,v3,v4,az,oIx,d0,s0,ah,a0,aI]
 have v4:∀(i:Nat) S',ae 4 21#7 S'=some (.int i,S'):=λi S'=>rfl;have key:∀(is:List Nat) (acc:List U),(∀i∈is,i<7)->gS (cOf (m2 oIx 0#7 1#3)) 1#3 9#4 (is.map λ(i:Nat)=>.int i) acc (S++ir (bQ q))=some (acc++(is.filter (bQ q)).map (λ(i:Nat)=>.int i),S++ir (bQ q)):=by
  intro is
  induction is with
  |nil=>intro acc _;simp[gS]
  | cons i is ih=>
    intro acc h;have hi:=h i a7;have ih':=λacc=>ih acc λj hj=>h j (aD _ hj);rw[bp];unfold gS;rw[show(9#4:Rho)++[some 3#6]=21#7 from rfl,gi i hi];simp only[az];cases hb:bQ q i with
    | true=>
      rw[if_pos rfl,v4];simp only[az];rw[ih'];simp[hb]
    | false=>
      rw[if_neg 0#8,ih'];simp[hb]
 have hr:br 0 7=([0,1,2,3,4,5,6]:List Nat).map λ(i:Nat)=>.int i:=rfl;have hf:([0,1,2,3,4,5,6]:List Nat).filter (bQ q)=[q]:=by
  have:q=0\/q=1\/q=2\/q=3\/q=4\/q=5\/q=6:=by omega
  rcases this with rfl|rfl|rfl|rfl|rfl|rfl|rfl<;>decide
 have hc:wj (cOf (m2 oIx 0#7 1#3)) 1#3 9#4 (.imm (br 0 7)) (S++ir (bQ q))=some ([.int q],S++ir (bQ q)):=by
  unfold wj;simp only[hr,key _ _ (show ∀i∈([0,1,2,3,4,5,6]:List Nat),i<7 by decide),hf];rfl
 simp only[hi,az,hc];rw[if_pos (by simp[big])];simp[ir];rfl
section
variable {M:Mo}{cl:Nat->Addr}{T:Tb}{k fu L:Nat}{h:Heap}{x:Str}{st z:Stmt}{w:Addr}{rz:List Nat}
theorem Def.fnRef (O :∀ caps capv cds base,gh M.mg base->TOk 7#2 T k) (h1:T.mkr=false) (X:M.K.K.In h) (Gn:h.Ns mainGlobals M.mg) (D:Def M.K x st) (S:bh tV ["call"] (aE st)) (hb:Bd x st ["call"])
  (hns:ya (aE st).names=true) (hbody:cq st=og L z) (hz:cS T fu tV (aE st).names z=some mzR) (Rk:AK M.K.K M.mg cl w rz):FnR M cl x k rz:=by
 obtain⟨f,fd,a,F⟩:=D.ex;refine⟨f,fd,dB X Gn a,F.2,F.binds hb,λcaps capv cds base g j φ ψ hbb hkj lam lamx=>?_⟩;have len:∀vs H Q E,spM 11#4 (E3 rz g φ ψ) vs H Q E->vs.length=1:=λvs H Q E hh=>by
  obtain⟨μ,S',us,u,S'',hr,rs,e,_⟩:=hh;unfold E3 at e
  split at e
  .rw[<-rs.len];rfl
  .cases e
 have lx:Az 7#2 cl g j [] λus S=>(ψ us S).filter λr=>decide (r.1∈rz):=lamx.imp λus S q hq=>(lW.mp hq).1;have hns':=hns;unfold ya at hns';simp only[ar]at hns';obtain⟨⟨⟨⟨⟨⟨⟨n1,n2⟩,n3⟩,n4⟩,n5⟩,n6⟩,n7⟩,n8⟩:=hns';refine Fun.ok (K:=M.K.K) F S (λvs H Q E hh=>len vs H Q E hh) λcdv A outer s H vs Q E hr hh=>?_;have S0:∀cds',Sc (M.to caps capv cds' base) (vf CX0 M.P M.w M.K M.mg base tV x (aE st) f cdv A outer s H E).nox j tV (aE st).names:=λcds'=>Sc.def (M:=M.to caps capv cds' base) S hr λc q z=>nomatch z
 have hzz:∀cds',PS (vf CX0 M.P M.w M.K M.mg base tV x (aE st) f cdv A outer s H E).nox z (tMS (M.K.to caps capv cds') mzR):=λcds'=>(snd fu (M.to caps capv cds' base) T j (.of ((O caps capv cds' base hbb).mono hkj) h1)).s _ _ _ _ hz _ (S0 cds');have B:∀y∈jk,M.mg y=none:=λy hy=>(O caps capv cds base hbb).B y hy;have hf :∀ j',j'<7->cX M.K.K (.type "NoneType") (.ref (cl j'))=some ((fun _=>false) j'):=fun j' hj=>Rk.n j' hj;have ptl:=DH (M:=M.to caps capv cds base) (L:=L) (z:=z) (c:=λ_=>.none) (S0 cds) hns B Rk (u:= .non) (.inl ⟨rfl,rfl⟩) hf Rk.nV (hzz cds);have ptx:∀e oe q,q∈rz->oe.cls=.ref (cl q)->PSs (vf CX0 M.P M.w M.K M.mg base tV x (aE st) f cdv A outer s H E).nox ((og L z).drop 2) (tMS (M.K.to caps capv (cds++[(e,oe)])) (tlR (.obj e) (bQ q))):=λe oe q hq hc=>by
  refine DH (M:=M.to caps capv (cds++[(e,oe)]) base) (L:=L) (z:=z) (c:=λ_=>.none) (S0 _) hns B Rk (.inr ⟨e,oe,cl q,rfl,rfl,aY _ a7,hc,Rk.x q hq⟩) (λj' hj=>?_) ?_ (hzz _)
  .rw[show bQ q j'=decide (q=j') by unfold bQ;rw[show decide (j'=7)=false from decide_eq_false 0#2];simp]
   exact Rk.k q hq j' hj
  .rw[show bQ q 7=true by unfold bQ;simp]
   exact Rk.kV q hq
 have pT:=OQ (M:=M.to caps capv cds base) (cl:=cl) (S0 cds) rfl rfl lam lx (ak j) (i:=0) (x:="call") (j:=2) (n:="e") (l:=1) (y:="error") (W:="WalkError") (w:=w) (p1:=PP L 3 8 12) (p2:=PP L 3 8 14) (p3:=PP L 3 8 14) (p4:=PP L 4 11 20) (p5:=PP L 5 8 13) (p6:=PP L 5 16 17) (p7:=PP L 5 8 17) (p8:=⟨L+4,4,L+5,17⟩) (p9:=⟨L+2,4,L+5,17⟩)
  rfl n3 1#0 rfl (eq_of_beq n4) 1#0 rfl n1 0#1 n7 1#0 Rk.W λS q S1 hq=>by
   obtain⟨_,h2⟩:=lW.mp hq;exact Rk.m q (of_decide_eq_true h2)
 have pS:=Ar (M:=M.to caps capv cds base) (p1:=PP L 1 4 9) (pos:=PP L 1 4 16) (S0 cds) 1 rfl n1 (IS (M:=M.to caps capv cds base) (j:=0) (pos:=PP L 1 12 16)) rfl
 let tT:TS:=λD G H=>tMS 11#4 (tlR .non λ_=>false) D G H \/ ∃e oe q,q∈rz/\oe.cls=.ref (cl q)/\tMS (M.K.to caps capv (cds++[(e,oe)])) (tlR (.obj e) (bQ q)) D G H
 have pTl:PSs (vf CX0 M.P M.w M.K M.mg base tV x (aE st) f cdv A outer s H E).nox ((og L z).drop 2) tT:=λpins s G H D I q=>by
  rcases q with q|⟨e,oe,q',hq,hc,q⟩
  .exact ptl pins s G H D I q
  .exact ptx e oe q' hq hc pins s G H D I q
 rw[hbody];refine⟨_,m9 pS (m9 pT pTl),?_⟩;obtain⟨μ,S1,us,u,S2,hR,rs,e,ka⟩:=hh;unfold E3 at e
 split at e
 rotate_left
 .cases e
 rename_i a'
 split at e
 rotate_left
 .cases e
 rename_i ha
 subst ha;have er:=oz (N:=tV) rs;refine⟨μ,S1,_,_,hR,er,rfl,λY0 Y6 H1 p1 k1 hr1 er1=>?_⟩;refine⟨Y0,S1,_,hr1,er1,rfl,rfl,?_⟩;unfold Er at e
 split at e
 .rename_i r hφ
  cases e;refine .inl ⟨r.1,r.2,hφ,λY5 Y7 H2 p2 k2 hr2 er2=>.inl ⟨Y5,r.2,_,_,hr2,er2,Lx rfl,?_⟩⟩;exact ka.mono 8#1 9#0
 .split at e
  rotate_left
  .cases e
  rename_i r hψ
  split at e
  rotate_left
  .cases e
  rename_i hq
  cases e;refine .inr ⟨r.1,r.2,lW.mpr ⟨hψ,decide_eq_true hq⟩,λe oe Y5 Y7 H2 p2 k2 hr2 er2 hfz hcls=>.inr ⟨e,oe,r.1,hq,hcls,?_⟩⟩;obtain⟨Y2,hv⟩:=K7 (x:=some (.obj a')) (y:=none) (S:=r.2) (u:= .obj e) (Rk.lt _ hq);refine⟨Y5,r.2,_,_,⟨hr2.len,hr2.inj,hr2.cell,hr2.ext.cap,λc hc=>?_,hr2.ext.tab⟩,er2,hv,λY' v3 H3 p3 k3 hr3 ru3=>?_⟩
  .rcases be.mp hc with z|z
   .exact hr2.ext.cds c z
   .have e':c=(e,oe):=by simpa using z
    rw[e'];exact hfz
  .exact ka Y' v3 H3 ((p1.trans p2).trans p3) ((k1.trans k2).trans k3) ⟨hr3.len,hr3.inj,hr3.cell,hr3.ext.cap,λc hc=>hr3.ext.cds c (bg _ hc),hr3.ext.tab⟩ ru3
end
end _G
namespace _G
open PySem PySem.Spec _L
section
variable {P:Program}{w:World}{K:ao}{mg:Str->Option Value}{tabs:List (Addr×Str)}{T:Tb}{k j:Nat}{h:Heap}{x:Str}{st z:Stmt}{N ps:List Str}{r:MX}{fu n L:Nat}{wA:Addr}{rz:List Nat}
theorem Ch.raise(c:Ch P w K mg tabs T k)(Cl:List (Str×Nat))(h1:T.mkr=false)(hC:∀y i,Cl.lookup y=some i->mg y=some (.ref (T.Z.cl i))/\exB K (T.Z.cl i)=true)(X:K.In h)(Gn:h.Ns mainGlobals mg)(D:Def K x st)(S:bh N ps (aE st))(hb:Bd x st ps)
  (hc:(xc fu n).b T ⟨T.Z.R,Cl⟩ N (aE st).names (cq st)=some r):Ch P w K mg tabs ⟨T.D,T.C,T.L,T.H,T.mkr,⟨(x,vH ps.length N.length r)::T.Z.R,T.Z.F,T.Z.cl,T.Z.nm⟩⟩ (k+1):=
 ⟨λa b d e f=>by
  have O:=c.o a b d e f;have F:=D.fnX (M:=⟨P,w,⟨K,a,b,d,tabs⟩,mg,e,none⟩) (cl:=T.Z.cl) (T:=T) (Z:=⟨T.Z.R,Cl⟩) ⟨.of O h1,O.Z,hC⟩ rfl X Gn S hb hc;have Om:=O.mono (dc k);refine⟨Om.D,Om.C,Om.B,Om.L,Om.mkr,λy r' hy=>?_⟩;rw[a6]at hy;cases q:y==x with
  |true=>rw[q]at hy;cases hy;rw[eq_of_beq q];exact⟨k+1,ps,ak _,F⟩
  | false=>rw[q]at hy;exact Om.Z y r' hy,λa b d e f=>qL (c.h a b d e f) (dc k),λa b d e f=>ug (c.r a b d e f) (dc k)⟩
theorem Ch.refd (c:Ch P w K mg tabs T k) (h1:T.mkr=false) (X:K.In h) (Gn:h.Ns mainGlobals mg) (D:Def K x st) (S:bh tV ["call"] (aE st)) (hb:Bd x st ["call"]) (hns:ya (aE st).names=true) (hbody:cq st=og L z) (hz:cS T fu tV (aE st).names z=some mzR) (Rk:AK K mg T.Z.cl wA rz) :
  Ch P w K mg tabs ⟨T.D,T.C,T.L,T.H,T.mkr,⟨T.Z.R,(x,rz)::T.Z.F,T.Z.cl,T.Z.nm⟩⟩ k:=
 ⟨λa b d e f=>let O:=c.o a b d e f;⟨O.D,O.C,O.B,O.L,O.mkr,O.Z⟩,c.h,λa b d e f y rz' hy=>by
  rw[a6]at hy;cases q:y==x with
  |true=>rw[q]at hy;cases hy;rw[eq_of_beq q];exact⟨k,ak _,D.fnRef (M:=⟨P,w,⟨K,a,b,d,tabs⟩,mg,e,none⟩) c.o h1 X Gn S hb hns hbody hz Rk⟩
  | false=>rw[q]at hy;exact c.r a b d e f y rz' hy⟩
end
def clR (rz:List Nat):List (Str×Nat):=rz.map fun q=>(cn.getD q (qb ""),q)
def PY(K:ao)(cs:List Addr)(w:Addr)(rz:List Nat):Bool:=
 bE K mainGlobals "ValueError" == some none&&(ay 7).all (fun j=>cX K (.type "NoneType") (.ref (cs.getD j 0))==some false)&&cX K (.type "NoneType") (.type "ValueError")==some false &&
 rz.all λq=>decide (q<7)&&Hc K (cs.getD q 0)&&zB K (.ref (cs.getD q 0)) (.ref w)==some true&&(ay 7).all (λj=>cX K (.ref (cs.getD q 0)) (.ref (cs.getD j 0))==some (decide (q=j))) &&
  cX K (.ref (cs.getD q 0)) (.type "ValueError")==some true&&exB K (cs.getD q 0)
section
variable {K:ao}{h:Heap}{mg:Str->Option Value}{c0 c1 c2 c3 c4 c5 c6 w:Addr}{rz:List Nat}
theorem Ny (X:K.In h) (Gn:h.Ns mainGlobals mg) (n0:bE K mainGlobals "TooMany"=some (some (.ref c0))) (n1:bE K mainGlobals "NotLevel"=some (some (.ref c1))) (n2:bE K mainGlobals "NoLift"=some (some (.ref c2))) (n3:bE K mainGlobals "NotPlain"=some (some (.ref c3)))
  (n4:bE K mainGlobals "NoName"=some (some (.ref c4))) (n5:bE K mainGlobals "BadNote"=some (some (.ref c5))) (n6:bE K mainGlobals "NoTwist"=some (some (.ref c6))) (nw:bE K mainGlobals "WalkError"=some (some (.ref w)))
  (hb:PY K [c0,c1,c2,c3,c4,c5,c6] w rz=true):AK K mg (λj=>[c0,c1,c2,c3,c4,c5,c6].getD j 0) w rz /\ ∀y i,(clR rz).lookup y=some i->mg y=some (.ref ([c0,c1,c2,c3,c4,c5,c6].getD i 0))/\exB K ([c0,c1,c2,c3,c4,c5,c6].getD i 0)=true:=by
 unfold PY at hb;simp only[ar,bI,beq_iff_eq,decide_eq_true_eq,bZ]at hb;obtain⟨⟨⟨b1,b2⟩,b3⟩,b4⟩:=hb;have hc:∀j t,cn[j]?=some t->mg t=some (.ref ([c0,c1,c2,c3,c4,c5,c6].getD j 0)):=λj t hj=>by
  have hl:j<7:=(ag.mp hj).1;have:j=0\/j=1\/j=2\/j=3\/j=4\/j=5\/j=6:=by omega
  rcases this with rfl|rfl|rfl|rfl|rfl|rfl|rfl<;>cases hj
  .exact dB X Gn n0
  .exact dB X Gn n1
  .exact dB X Gn n2
  .exact dB X Gn n3
  .exact dB X Gn n4
  .exact dB X Gn n5
  .exact dB X Gn n6
 refine⟨⟨hc,dB X Gn nw,Ju X Gn b1,b2,b3,λq hq=>(b4 q hq).1.1.1.1.1,λq hq=>(b4 q hq).1.1.1.1.2,λq hq=>(b4 q hq).1.1.1.2,λq hq=>(b4 q hq).1.1.2,λq hq=>(b4 q hq).1.2⟩,λy i hy=>?_⟩;have hm:=mem_of_lookup hy;unfold clR at hm;obtain⟨q,hq,e⟩:=aQ.mp hm;cases e;refine⟨hc i _ ?_,(b4 i hq).2⟩;have hl:i<cn.length:=(b4 i hq).1.1.1.1.1;rw[aU,aF hl];rfl
end
def Tb.dd(T:Tb)(x:Str)(f:MF):Tb:=⟨(x,f)::T.D,T.C,[],T.H,false,T.Z⟩
def Tb.hh(T:Tb)(x:Str)(F:Addr->MF->MF):Tb:=⟨T.D,T.C,[],(x,F)::T.H,false,T.Z⟩
def Tb.xx(T:Tb)(x:Str)(f:MF)(r:RF):Tb:=⟨(x,f)::T.D,T.C,[],T.H,false,⟨(x,r)::T.Z.R,T.Z.F,T.Z.cl,T.Z.nm⟩⟩
def Tb.qq(T:Tb)(x:Str)(rz:List Nat):Tb:=⟨T.D,T.C,[],T.H,false,⟨T.Z.R,(x,rz)::T.Z.F,T.Z.cl,T.Z.nm⟩⟩
abbrev cD(T:Tb)(N:List Str)(st:Stmt):Option MS:=cB T 80 N (aE st).names (cq st)
def fsB(N P:List Str)(sc:Scope):Bool:=sc.kind==.function && !sc.isCoroutine && !sc.isGenerator&&decide N.Nodup&&N.take P.length==P&&P.all (λx=>sc.names.lookup x==some .local||sc.names.lookup x==some .cell)&&sc.names.all λy=>!(y.2==.free)
theorem dE{N P:List Str}{sc:Scope}(h:fsB N P sc=true):bh N P sc:=by
 unfold fsB at h;simp only[ar]at h;obtain⟨⟨⟨⟨⟨⟨h1,h2⟩,h3⟩,h4⟩,h5⟩,h6⟩,h7⟩:=h;refine⟨eq_of_beq h1,by simpa using h2,by simpa using h3,of_decide_eq_true h4,eq_of_beq h5,λx hx=>?_,λy hy z=>?_⟩
 .have:=bI.mp h6 x hx
  rw[kW]at this;exact this.imp eq_of_beq eq_of_beq
 .have:=bI.mp h7 y hy
  rw[z]at this;cases this
def NQ(K:ao):List (Str×Stmt)->Prop
 |[]=>True
 |p::r=>Def K p.1 p.2/\NQ K r
end _G
namespace _W
open PySem PySem.Spec _L _G
def hU:MS:=aX (sIf (cOf (m2 oLt 1#5 6#2)) (cb (m2 oIx 0#6 1#5)) cW) (cb 1#8)
def jb:MF:=run 2 2 hU
def kN:MS:=aX (bu 2 (mFn jb 3#7)) (aX (sIf (cOf (m2 oGe 0#5 34#2)) (cb (bH (aa (m2 sQ 0#5 34#2) (aa 8#0 af)))) cW) (cb (bH (aa (m2 oMod 0#5 (mC (.int 2147483647))) (aa 14#3 af)))))
def kC:MF:=run 2 3 kN
def mq:MS:=aX (sIf (cOf (m2 oIx 0#6 1#4)) (aX (bu 2 (m2 oMod 20#9 1#5)) (aX (eM 0#6 1#8 (m2 oDiv 20#9 1#5)) (cb 0#5))) cW) (aX (eM 0#6 1#8 (m2 oMod (m2 cK (m2 gv 20#9 (mC (.int 48271))) (mC (.int 29))) (mC (.int 2147483647)))) (aX (bu 3 (m2 oMod (m2 cK (m2 cK (m2 gv 20#9 20#9) (m2 gv (mC (.int 39373)) 20#9)) (mC (.int 7))) (mC (.int 2147483629)))) (aX (bu 3 (m2 oMod (m2 cK (m2 gv 0#7 0#7) (m2 gv (mC (.int 16807)) 0#7)) (mC (.int 2147483587)))) (cb (m2 oMod (m2 oDiv 0#7 (mC (.int 8))) 1#5)))))
def aP:MF:=run 2 4 mq
def m7:MS:=cb (mFn bC (aa (bK (iR1 4#0) cTT (mFn bC (aa (bK (iR1 4#0) cTT (m2 oMod (m2 cK 1#5 0#5) 0#6)) af))) af))
def cQ:MF:=run 1 1 m7
def nM:MS:=aX (bu 1 2#7) (aX (ee 2 (iR1 (aa (m2 gv 3#3 0#6) af)) (aX (bu 3 2#7) (aX (ee 4 (iR1 (aa (m2 gv 3#3 0#6) af)) (aX (bu 5 (m2 oMod (m2 cK (m2 oMod 0#5 0#6) (m2 gv (m2 oIx (bH (aa 1#4 (aa 4#9 af))) (m2 oDiv 0#5 0#6)) (m2 oMod 1#3 0#6))) 0#6)) (du (mML bF 0#7 (aa (m2 cK (ae 5) (m2 gv 0#6 (m2 oMod (m2 cK (m2 oDiv 0#5 0#6) (m2 oDiv 1#3 0#6)) 3#3))) af))))) (du (mML bF 1#5 (aa (mFn bC (aa 0#7 af)) af)))))) (cb (mFn bC 6#0)))
def gF:MF:=run 1 6 nM
def ll:MS:=aX (bu 0 (bH (aa (bH (aa 1#8 (aa 1#8 (aa 1#8 8#8)))) (aa (bH (aa 1#8 (aa 1#4 24#0))) (aa (bH (aa 1#8 (aa 1#4 (aa 1#4 8#8)))) (aa (bH (aa 1#8 (aa 1#8 15#3))) af)))))) (aX (bu 1 (bH (aa (bH (aa 1#8 (aa 1#4 (aa 3#3 (aa 9#9 af))))) (aa (bH (aa 1#4 (aa 1#8 (aa 9#9 7#6)))) (aa (bH (aa 3#3 (aa 9#9 24#0))) (aa (bH (aa 9#9 (aa 3#3 (aa 1#4 8#8)))) af)))))) (aX (bu 2 2#7) (aX (ee 3 (iR1 (aa (mC (.int 8)) af)) (aX (bu 4 2#7) (aX (ee 5 (iR1 (aa (mC (.int 8)) af)) (aX (bu 6 (m2 oMod 28#3 3#3)) (du (mML bF 1#3 (aa (m2 cK 28#7 (ae 6)) af))))) (du (mML bF 0#5 (aa (mFn bC 4#5) af)))))) (cb (mFn bC 3#4)))))
def hE:MF:=run 0 7 ll
def pZ:MS:=aX (bu 2 14#8) (aX (bu 3 2#7) (aX (ee 4 (iR1 (aa (m2 gv 6#2 0#5) af)) (aX (bu 5 2#7) (aX (ee 6 (iR1 (aa (m2 gv 6#2 0#5) af)) (aX (bu 7 (m2 oIx (m2 oIx 0#6 (m2 oDiv 1#3 0#5)) (m2 oDiv (ae 6) 0#5))) (du (mML bF (ae 5) (aa (m2 cK (m2 gv (ae 7) 0#5) 29#3) af))))) (du (mML bF 0#7 (aa (mFn bC 10#3) af)))))) (cb (mFn bC (aa 0#7 af)))))
def mw:MF:=run 2 8 pZ
def nD:MS:=cb (mFn bC (aa (bK 4#6 cTT (mFn bC (aa (bK 4#6 cTT (mMT jO 1#5 (aa 22#1 af))) af))) af))
def kR:MF:=run 2 2 nD
def ng:MS:=aX (bu 2 (gy (iR2 (aa 1#4 6#0)))) (cb (m2 cK (de 8#8) (mFn bC (aa (bK (iR1 (aa (m2 sQ 1#5 1#4) af)) cTT (mML lb 0#5 (aa (mFn aP (aa 0#6 (aa (mFn bG 3#4) af))) af))) af))))
def kI:MF:=run 2 3 ng
def nC:MS:=aX (bu 2 (mFn aP (aa 0#6 (aa (mC (.int 8)) af)))) (aX (bu 3 (mFn cQ (aa (m2 cK 1#4 (mFn aP 3#7)) af))) (aX (sIf (cOr (cOf (m2 oEq 0#5 1#4)) (cOf (m2 oEq 0#5 3#3))) (bu 3 (mFn gF (aa (m2 cK 1#4 (mFn aP (aa 0#6 (aa (m2 oDiv 1#5 3#3) af)))) af))) cW) (aX (sIf (wZ (cOf (m2 oEq 0#5 9#9)) (cOf (m2 oGt 1#5 (mC (.int 7))))) (bu 3 (mFn hE af)) cW) (aX (sIf (cOf (m2 oGt 0#5 9#9)) (aX (bu 4 (m2 cK 3#3 14#9)) (aX (bu 5 (m2 oIx 32#2 23#5)) (aX (sIf (cOf (m2 oGt 11#7 1#5)) (bu 5 (mFn cQ 4#5)) cW) (bu 3 (mFn mw (aa (ae 5) (aa (mFn cQ (aa (m2 cK 1#4 (mFn aP (aa 0#6 (aa (m2 oDiv 1#5 11#7) af)))) af)) af))))))) cW) (aX (sIf (cOf (m2 oEq 14#9 1#8)) (bu 3 (mFn kR (aa 0#7 (aa (mFn kI 23#9) af)))) cW) (cb 0#7))))))
def jl:MF:=run 2 6 nC
end _W
namespace _W
structure Grp(m:Nat)(T:Nat->Nat->Nat):Prop where
 pos:0<m
 cl:∀i j,i<m->j<m->T i j<m
 l0:∀i,i<m->T 0 i=i
 r0:∀i,i<m->T i 0=i
 inv:∀i,i<m->∃j,j<m/\T i j=0/\T j i=0
 as:∀i j k,i<m->j<m->k<m->T (T i j) k=T i (T j k)
variable{m:Nat}{T:Nat->Nat->Nat}
theorem Grp.congr{T':Nat->Nat->Nat}(g:Grp m T)(h:∀i j,i<m->j<m->T' i j=T i j):Grp m T' where
 pos:=g.pos
 cl:=λi j hi hj=>by rw[h i j hi hj];exact g.cl i j hi hj
 l0:=λi hi=>by rw[h 0 i g.pos hi];exact g.l0 i hi
 r0:=λi hi=>by rw[h i 0 hi g.pos];exact g.r0 i hi
 inv:=λi hi=>by
  obtain⟨j,hj,a,b⟩:=g.inv i hi;exact⟨j,hj,by rw[h i j hi hj];exact a,by rw[h j i hj hi];exact b⟩
 as:=λi j k hi hj hk=>by
  rw[h i j hi hj,h j k hj hk,h _ k (g.cl i j hi hj) hk,h i _ hi (g.cl j k hj hk)];exact g.as i j k hi hj hk
def bL(n:Nat):Nat->Nat->Nat:=λi j=>(i+j)%n
variable{n:Nat}
theorem jZ(h:0<n):Grp n (bL n) where
 pos:=h
 cl:=λi j _ _=>wB _ h
 l0:=λi hi=>by unfold bL;rw[dR];exact bJ hi
 r0:=λi hi=>by unfold bL;rw[qg];exact bJ hi
 inv:=λi hi=>by
  by_cases h0:i=0
  .subst h0;exact⟨0,h,by simp[bL],by simp[bL]⟩
  .refine⟨n-i,by omega,?_,?_⟩<;>unfold bL
   .rw[show i+(n-i)=n by omega,qh]
   .rw[show n-i+i=n by omega,qh]
 as:=λi j k _ _ _=>by
  unfold bL;rw[qj,Nat.add_mod_mod,fO]
def ix(n:Nat):Nat->Nat->Nat:=λi j=>
 (if i<n then(i%n+j%n)%n else(i%n+(n-j%n))%n)+n*((i/n+j/n)%2)
variable{i:Nat}
theorem half(h:i<2*n):(i<n/\i%n=i/\i/n=0)\/(n<=i/\i%n=i-n/\i/n=1):=by
 by_cases hi:i<n
 .exact .inl ⟨hi,bJ hi,gc hi⟩
 .refine .inr ⟨by omega,?_,?_⟩
  .rw[Nat.mod_eq_sub_mod 0#2,bJ 0#2]
  .exact Nat.div_eq_of_lt_le 0#2 0#2
variable{a b:Nat}
theorem fL(ha:a<n)(hb:b<n):ix n a b=(a+b)%n:=by
 unfold ix;rw[if_pos ha,bJ ha,bJ hb,gc ha,gc hb];simp
theorem Kk(ha:a<n):(n+a)/n=1:=Nat.div_eq_of_lt_le 0#2 0#2
theorem J6(ha:a<n):(n+a)%n=a:=by rw[Nat.add_mod_left];exact bJ ha
theorem jg(ha:a<n)(hb:b<n):ix n a (n+b)=n+(a+b)%n:=by
 unfold ix;rw[if_pos ha,bJ ha,J6 hb,gc ha,Kk hb];simp;omega
theorem i7(ha:a<n)(hb:b<n):ix n (n+a) b=n+(a+(n-b))%n:=by
 unfold ix;rw[if_neg 0#2,J6 ha,bJ hb,gc hb,Kk ha];simp;omega
theorem i8(ha:a<n)(hb:b<n):ix n (n+a) (n+b)=(a+(n-b))%n:=by
 unfold ix;rw[if_neg 0#2,J6 ha,J6 hb,Kk ha,Kk hb];simp
theorem Ul(ha:a<n)(hb:b<n):(a+b)%n=if a+b<n then a+b else a+b-n:=by
 split
 .exact bJ 0#4
 .rw[Nat.mod_eq_sub_mod 0#2,bJ 0#2]
theorem Up(ha:a<n)(hb:b<n):(a+(n-b))%n=if b<=a then a-b else a+n-b:=by
 have e:=Nat.add_sub_assoc (aT hb) a
 split
 .rename_i h
  rw[<-e,oP h,mV,bJ (aA (gI a b) ha)]
 .rename_i h
  rw[bJ (wC (Nat.add_lt_add_right (Nat.lt_of_not_le h) (n-b)) (lD (aT hb))),e]
theorem ni(h:i<2*n):(i<n) \/ ∃a,a<n/\i=n+a:=by
 by_cases hi:i<n
 .exact .inl hi
 .exact .inr ⟨i-n,by omega,by omega⟩
variable{c:Nat}
theorem LL:((a+b)%n+c)%n=(a+(b+c)%n)%n:=by rw[qj,Nat.add_mod_mod,fO]
theorem Qt(hb:b<n)(hc:c<n):((a+(n-b))%n+(n-c))%n=(a+(n-(b+c)%n))%n:=by
 rw[qj,Ul hb hc]
 split
 .rename_i h
  have h1:n-b=n-(b+c)+c:=by rw[Nat.sub_add_eq,mK (Nat.le_sub_of_add_le' (aT h))]
  rw[h1,<-fO,fO _ c,lD (aT hc),mV]
 .rename_i h
  rw[<-mW b (aT hc),mW n (Nat.sub_le_of_le_add (bA h)),oP (aT hb),fO]
theorem QZ(hb:b<n)(hc:c<n):((a+(n-b))%n+c)%n=(a+(n-(b+(n-c))%n))%n:=by
 rw[qj,Up hb hc]
 split
 .rename_i h
  rw[mW n h,oP (aT hb),fO]
 .rename_i h
  have h':=aT (Nat.lt_of_not_le h);rw[jD b n,<-mW n h',Nat.sub_sub_self (aC (gI c b) (aT hc)),<-mV (a+(c-b)) n,fO a (c-b) n,jD (c-b) n,<-Nat.add_sub_assoc h' n,oP (aT hb),fO]
theorem AH(h:0<n):Grp (2*n) (ix n):=by
 have ml:∀x,x%n<n:=λx=>wB _ h;have cl:∀i j,i<2*n->j<2*n->ix n i j<2*n:=λi j hi hj=>by
  rcases ni hi with hi|⟨a,ha,rfl⟩<;>rcases ni hj with hj|⟨b,hb,rfl⟩
  .rw[fL hi hj];have:=ml (i+j);omega
  .rw[jg hi hb];have:=ml (i+b);omega
  .rw[i7 ha hj];have:=ml (a+(n-j));omega
  .rw[i8 ha hb];have:=ml (a+(n-b));omega
 refine⟨by omega,cl,λi hi=>?_,λi hi=>?_,λi hi=>?_,λi j k hi hj hk=>?_⟩
 .rcases ni hi with hi|⟨a,ha,rfl⟩
  .rw[fL h hi,dR,bJ hi]
  .rw[jg h ha,dR,bJ ha]
 .rcases ni hi with hi|⟨a,ha,rfl⟩
  .rw[fL hi h,qg,bJ hi]
  .rw[i7 ha h,Jv,mV,bJ ha]
 .rcases ni hi with hi|⟨a,ha,rfl⟩
  .by_cases h0:i=0
   .subst h0;exact⟨0,by omega,by rw[fL h h];simp,by rw[fL h h];simp⟩
   .have hl:n-i<n:=by omega
    refine⟨n-i,by omega,?_,?_⟩
    .rw[fL hi hl,show i+(n-i)=n by omega,qh]
    .rw[fL hl hi,show n-i+i=n by omega,qh]
  .refine⟨n+a,by omega,?_,?_⟩<;>rw[i8 ha ha,show a+(n-a)=n by omega,qh]
 .rcases ni hi with hi|⟨a,ha,rfl⟩<;>rcases ni hj with hj|⟨b,hb,rfl⟩<;>rcases ni hk with hk|⟨c,hc,rfl⟩
  .rw[fL hi hj,fL hj hk,fL (ml _) hk,fL hi (ml _),LL]
  .rw[fL hi hj,jg hj hc,jg (ml _) hc,jg hi (ml _),LL]
  .rw[jg hi hb,i7 hb hk,i7 (ml _) hk,jg hi (ml _),LL]
  .rw[jg hi hb,i8 hb hc,i8 (ml _) hc,fL hi (ml _),LL]
  .rw[i7 ha hj,fL hj hk,i7 (ml _) hk,i7 ha (ml _),Qt hj hk]
  .rw[i7 ha hj,jg hj hc,i8 (ml _) hc,i8 ha (ml _),Qt hj hc]
  .rw[i8 ha hb,i7 hb hk,fL (ml _) hk,i8 ha (ml _),QZ hb hk]
  .rw[i8 ha hb,i8 hb hc,jg (ml _) hc,i7 ha (ml _),QZ hb hc]
def rE(m:Nat)(A B:Nat->Nat->Nat):Nat->Nat->Nat:=λi j=>A (i/m) (j/m)*m+B (i%m) (j%m)
theorem B2(hb:b<m):(a*m+b)/m=a/\(a*m+b)%m=b:=by
 have hm:0<m:=by omega
 constructor
 .rw[lU,Nat.mul_add_div hm,gc hb];rfl
 .rw[lU,Nat.mul_add_mod,bJ hb]
theorem IE{k:Nat}{A B:Nat->Nat->Nat}(ga:Grp k A)(gb:Grp m B):Grp (k*m) (rE m A B):=by
 have hm:=gb.pos;have dl:∀i,i<k*m->i/m<k:=λi hi=>Nat.div_lt_of_lt_mul (by rw[lU];exact hi);have rl:∀i,i%m<m:=λi=>wB _ hm;have lt:∀a b,a<k->b<m->a*m+b<k*m:=λa b ha hb=>by
  have:(a+1)*m<=k*m:=dX m ha;rw[Nat.add_mul]at this;omega
 refine⟨Nat.mul_pos ga.pos hm,λi j hi hj=>lt _ _ (ga.cl _ _ (dl i hi) (dl j hj)) (gb.cl _ _ (rl i) (rl j)),λi hi=>?_,λi hi=>?_,λi hi=>?_,λi j l hi hj hl=>?_⟩
 .unfold rE;rw[Nat.zero_div,Nat.zero_mod,ga.l0 _ (dl i hi),gb.l0 _ (rl i),lU];exact Nat.div_add_mod i m
 .unfold rE;rw[Nat.zero_div,Nat.zero_mod,ga.r0 _ (dl i hi),gb.r0 _ (rl i),lU];exact Nat.div_add_mod i m
 .obtain⟨a,ha,a1,a2⟩:=ga.inv _ (dl i hi)
  obtain⟨b,hb,b1,b2⟩:=gb.inv _ (rl i);obtain⟨p1,p2⟩:=B2 (a:=a) hb;refine⟨a*m+b,lt a b ha hb,?_,?_⟩<;>unfold rE<;>rw[p1,p2]
  .rw[a1,b1];simp
  .rw[a2,b2];simp
 .unfold rE
  obtain⟨p1,p2⟩:=B2 (a:=A (i/m) (j/m)) (gb.cl _ _ (rl i) (rl j));obtain⟨q1,q2⟩:=B2 (a:=A (j/m) (l/m)) (gb.cl _ _ (rl j) (rl l));rw[p1,p2,q1,q2,ga.as _ _ _ (dl i hi) (dl j hj) (dl l hl),gb.as _ _ _ (rl i) (rl j) (rl l)]
def Qr:List 5#4:= [[0,1,2,3,4,5,6,7],[1,0,3,2,5,4,7,6],[2,3,1,0,6,7,5,4],[3,2,0,1,7,6,4,5],[4,5,7,6,1,0,2,3],[5,4,6,7,0,1,3,2],[6,7,4,5,3,2,1,0],[7,6,5,4,2,3,0,1]]
def gW:Nat->Nat->Nat:=λi j=>(Qr.getD i []).getD j 0
def q1:Bool:=(ay 8).all λi=>(gW 0 i==i)&&(gW i 0==i)&&((ay 8).any λj=>(gW i j==0)&&(gW j i==0))&&(ay 8).all λj=>decide (gW i j<8)&&(ay 8).all λk=>gW (gW i j) k==gW i (gW j k)
theorem Ro:q1=true:=by decide +kernel
theorem EM:Grp 8 gW:=by
 have h:=bI.mp Ro;have g:∀i,i<8->_:=λi hi=>h i (bZ.mpr hi);simp only[ar,bI,fY,bZ,beq_iff_eq,decide_eq_true_eq]at g;refine⟨by decide,λi j hi hj=>((g i hi).2 j hj).1,λi hi=>(g i hi).1.1.1,λi hi=>(g i hi).1.1.2,λi hi=>?_,λi j k hi hj hk=>((g i hi).2 j hj).2 k hk⟩;obtain⟨j,hj,a,b⟩:=(g i hi).1.2;exact⟨j,hj,a,b⟩
structure Ord(m:Nat)(o p:Nat->Nat):Prop where
 ol:∀i,i<m->o i<m
 pl:∀i,i<m->p i<m
 po:∀i,i<m->p (o i)=i
 op:∀i,i<m->o (p i)=i
 o0:o 0=0
def nj(T:Nat->Nat->Nat)(o p:Nat->Nat):Nat->Nat->Nat:=λi j=>p (T (o i) (o j))
theorem Fd{o p:Nat->Nat}(g:Grp m T)(h:Ord m o p):Grp m (nj T o p):=by
 have p0:p 0=0:=by have:=h.po 0 g.pos;rwa[h.o0]at this
 refine⟨g.pos,λi j hi hj=>h.pl _ (g.cl _ _ (h.ol i hi) (h.ol j hj)),λi hi=>?_,λi hi=>?_,λi hi=>?_,λi j k hi hj hk=>?_⟩
 .unfold nj;rw[h.o0,g.l0 _ (h.ol i hi),h.po i hi]
 .unfold nj;rw[h.o0,g.r0 _ (h.ol i hi),h.po i hi]
 .obtain⟨j,hj,a,b⟩:=g.inv _ (h.ol i hi)
  refine⟨p j,h.pl j hj,?_,?_⟩<;>unfold nj<;>rw[h.op j hj]
  .rw[a,p0]
  .rw[b,p0]
 .unfold nj
  rw[h.op _ (g.cl _ _ (h.ol i hi) (h.ol j hj)),h.op _ (g.cl _ _ (h.ol j hj) (h.ol k hk)),g.as _ _ _ (h.ol i hi) (h.ol j hj) (h.ol k hk)]
theorem pL{α:Type}:∀(l:List α) (i:Nat) (h:i<l.length),(l[i]::l.eraseIdx i).Perm l
 |x::l,0,_=>by simp
 | x::l,i+1,h=>by
   have h':i<l.length:=by simpa using h
   have:=pL l i h';simp only[List.getElem_cons_succ,Fy];exact(List.Perm.swap _ _ _).trans (this.cons x)
theorem JU{l:List Nat}(nd:l.Nodup)(h:i<l.length):l.idxOf l[i]=i:=by
 have h1:l.idxOf l[i]<l.length:=mX.mpr (cg h);have h2:=List.getElem_idxOf h1;exact(List.getElem_inj nd).mp h2
structure sh(m:Nat)(l:List Nat):Prop where
 perm:l.Perm (ay m)
 z:l[0]?=some 0
def oF(l:List Nat):Nat->Nat:=λi=>l.getD i 0
def pF(l:List Nat):Nat->Nat:=λx=>l.idxOf x
section
variable {m:Nat}{l:List Nat}
theorem sh.len(h:sh m l):l.length=m:=by have:=h.perm.length_eq;simpa using this
theorem sh.nd(h:sh m l):l.Nodup:=h.perm.nodup_iff.mpr List.nodup_range
theorem sh.mem(h:sh m l){x:Nat}:x∈l↔x<m:=by rw[h.perm.mem_iff,bZ]
theorem sh.get(h:sh m l)(hi:i<m):l[i]?=some (oF l i):=by
 have hl:i<l.length:=by rw[h.len];exact hi
 simp[oF,hl]
theorem sh.ord(h:sh m l):Ord m (oF l) (pF l) where
 ol:=λi hi=>h.mem.mp (bP (h.get hi))
 pl:=λx hx=>by
  have:=mX.mpr (h.mem.mpr hx);rw[h.len]at this;exact this
 po:=λi hi=>by
  have hl:i<l.length:=by rw[h.len];exact hi
  have e:oF l i=l[i]:=by simp[oF,hl]
  unfold pF;rw[e];exact JU h.nd hl
 op:=λx hx=>by
  have h1:=mX.mpr (h.mem.mpr hx);have h2:=List.getElem_idxOf h1;unfold oF pF;rw[aU,aF h1,h2];rfl
 o0:=by
  unfold oF;rw[aU,h.z];rfl
end
theorem Fg{xs:List Nat}(hm:0<m)(h:xs.Perm (bY 1 (m-1))):sh m (0::xs):=by
 refine⟨?_,rfl⟩;have e:ay m=0::bY 1 (m-1):=by
  rw[rL];have:m=(m-1)+1:=by omega
  rw[this,oB];simp
 rw[e];exact h.cons 0
section
variable {m:Nat}{T:Nat->Nat->Nat}
theorem Grp.cancel(g:Grp m T)(ha:a<m)(hb:b<m)(hc:c<m)(h:T a b=T a c):b=c:=by
 obtain⟨i,hi,h1,h2⟩:=g.inv a ha;have e1:T i (T a b)=b:=by rw[<-g.as i a b hi ha hb,h2,g.l0 b hb]
 have e2:T i (T a c)=c:=by rw[<-g.as i a c hi ha hc,h2,g.l0 c hc]
 rw[<-e1,<-e2,h]
theorem Grp.cancelR(g:Grp m T)(ha:a<m)(hb:b<m)(hc:c<m)(h:T b a=T c a):b=c:=by
 obtain⟨i,hi,h1,h2⟩:=g.inv a ha;have e1:T (T b a) i=b:=by rw[g.as b a i hb ha hi,h1,g.r0 b hb]
 have e2:T (T c a) i=c:=by rw[g.as c a i hc ha hi,h1,g.r0 c hc]
 rw[<-e1,<-e2,h]
theorem Grp.inv1(g:Grp m T)(hi:i<m):∃j,j<m/\T i j=0/\T j i=0 /\ ∀k,k<m->T i k=0->k=j:=by
 obtain⟨j,hj,h1,h2⟩:=g.inv i hi;exact⟨j,hj,h1,h2,λk hk h=>g.cancel hi hk hj (h.trans h1.symm)⟩
def pw(T:Nat->Nat->Nat)(x:Nat):Nat->Nat
 |0=>0
 |n+1=>T (pw T x n) x
theorem rB(g:Grp m T){x:Nat}(hx:x<m):∀n,pw T x n<m
 |0=>g.pos
 |n+1=>g.cl _ _ (rB g hx n) hx
theorem G8(g:Grp m T){x:Nat}(hx:x<m)(a:Nat):∀b,pw T x (a+b)=T (pw T x a) (pw T x b)
 |0=>by show pw T x a=T (pw T x a) 0;rw[g.r0 _ (rB g hx a)]
 | b+1=>by
   show T (pw T x (a+b)) x=T (pw T x a) (T (pw T x b) x);rw[G8 g hx a b,g.as _ _ _ (rB g hx a) (rB g hx b) hx]
theorem Kt(g:Grp m T){x:Nat}(hx:x<m)(hab:a<=b)(h:pw T x a=pw T x b):pw T x (b-a)=0:=by
 have e:b=a+(b-a):=by omega
 rw[e,G8 g hx]at h;have e2:T (pw T x a) 0=T (pw T x a) (pw T x (b-a)):=by rw[g.r0 _ (rB g hx a)];exact h
 exact(g.cancel (rB g hx a) g.pos (rB g hx _) e2).symm
end
theorem rW:∀(m:Nat) (l:List Nat),l.Nodup->(∀x∈l,x<m)->l.length<=m
 | 0,l,_,h=>by
   cases l with
   |nil=>simp
   |cons x l=>exact absurd (h x 0#8) 0#2
 | m+1,l,nd,h=>by
   have h1:=rW m (l.erase m) (nd.erase m) λx hx=>by
    have hx2:=(List.Nodup.mem_erase_iff nd).mp hx;have:=h x hx2.2;have:=hx2.1;omega
   have h2:l.length<=(l.erase m).length+1:=by
    rw[List.length_erase]
    split<;>omega
   omega
theorem Nx{f:Nat->Nat}(h:∀i,i<=m->f i<m):∃i j,i<j/\j<=m/\f i=f j:=by
 apply fh;intro no;have inj:∀i j,i<j->j<=m->f i≠f j:=λi j h1 h2 e=>no ⟨i,j,h1,h2,e⟩;have nd:((ay (m+1)).map f).Nodup:=by
  rw[bS,g8];refine kB ?_ (FL (n:=m+1));intro a b ha hb hab;exact inj a b hab (by have:=bZ.mp hb;exact eT 0#4)
 have:=rW m _ nd (λx hx=>by
  obtain⟨i,hi,rfl⟩:=aQ.mp hx
  exact h i (by have:=bZ.mp hi;exact eT (by assumption)))
 simp at this;exact absurd 0#4 (bO _)
theorem least{P:Nat->Prop}:∀n,P n->∃k,k<=n/\P k /\ ∀j,j<k->¬P j:=by
 intro n
 induction n using Nat.strongRecOn with
 | ind n ih=>
   intro h;by_cases hx:∃j,j<n/\P j
   .obtain⟨j,hj,hp⟩:=hx
    obtain⟨k,h1,h2,h3⟩:=ih j hj hp;exact⟨k,by omega,h2,h3⟩
   .exact⟨n,ak _,h,λj hj hp=>hx ⟨j,hj,hp⟩⟩
theorem Grp.ord(g:Grp m T){x:Nat}(hx:x<m):∃n,1<=n/\n<=m/\pw T x n=0 /\ ∀k,1<=k->k<n->pw T x k≠0:=by
 obtain⟨a,b,h1,h2,h3⟩:=Nx (m:=m) (f:=pw T x) λi _=>rB g hx i;have h4:=Kt g hx (aT h1) h3;obtain⟨n,k1,⟨k2,k3⟩,k4⟩:=least (P:=λn=>1<=n/\pw T x n=0) (b-a) ⟨by omega,h4⟩;exact⟨n,k2,by omega,k3,λj j1 j2 j3=>k4 j j2 ⟨j1,j3⟩⟩
theorem idx_map{f:Nat->Nat}{x:Nat}:∀(n s k:Nat),s<=k->k<s+n->f k=x->(∀j,s<=j->j<k->f j≠x)->((bY s n).map f).idxOf x=k-s
 |0,s,k,h1,h2,_,_=>by omega
 | n+1,s,k,h1,h2,hp,hn=>by
   rw[oB,bp,List.idxOf_cons];by_cases hs:s=k
   .subst hs;simp[hp]
   .have hb:(f s==x)=false:=by simpa using hn s 0#9 (by exact i6 0#4 0#4)
    rw[hb];simp only[cond_false];rw[idx_map n (s+1) k (by exact i6 0#4 0#4) 0#2 hp λj h1 h2=>hn j (by exact aT 0#4) h2];omega
end _W
namespace _W
open _L _G
def Ex(S S':Sto):Prop:= ∃t,S'=S++t
theorem Ex.refl(S:Sto):Ex S S:=⟨[],by simp⟩
variable{S S1 S2:Sto}
theorem Ex.trans(a:Ex S S1)(b:Ex S1 S2):Ex S S2:=by
 obtain⟨t,rfl⟩:=a;obtain⟨u,rfl⟩:=b;exact⟨t++u,by simp⟩
theorem Ex.push(S:Sto)(c:Cell):Ex S (S++[c]):=⟨[c],rfl⟩
variable{S':Sto}{n:Nat}
theorem Ex.get(h:Ex S S')(hn:n<S.length):S'[n]?=S[n]? := by
 obtain⟨t,rfl⟩:=h;exact aM hn
variable{c:Cell}
theorem Ex.some(h:Ex S S')(e:S[n]?=some c):S'[n]?=some c:=by
 rw[h.get (ag.mp e).1];exact e
theorem Ex.len(h:Ex S S'):S.length<=S'.length:=by
 obtain⟨t,rfl⟩:=h;simp
def iK(n:Nat)(S:Sto):Prop:= ∃s b,S[n]?=some (.lst [.int s,.bl b])
structure Stp(n:Nat)(S S':Sto):Prop where
 len:S.length<=S'.length
 same:∀m,m<S.length->m≠n->S'[m]?=S[m]?
 st:iK n S'
theorem Stp.refl(h:iK n S):Stp n S S:=⟨ak _,λ_ _ _=>rfl,h⟩
theorem Stp.trans{n:Nat}{S S1 S2:Sto}(a:Stp n S S1)(b:Stp n S1 S2):Stp n S S2:=
 ⟨aC a.len b.len,λm h1 h2=>(b.same m (aj h1 a.len) h2).trans (a.same m h1 h2),b.st⟩
theorem iK.lt(h:iK n S):n<S.length:=by
 obtain⟨s,b,e⟩:=h;exact(ag.mp e).1
theorem iK.ex(h:iK n S)(e:Ex S S'):iK n S':=by
 obtain⟨s,b,q⟩:=h;exact⟨s,b,e.some q⟩
theorem Stp.ex{n:Nat}{S S':Sto}(h:iK n S)(e:Ex S S'):Stp n S S':=⟨e.len,λm h1 _=>e.get h1,h.ex e⟩
variable{m:Nat}
theorem Stp.some(h:Stp n S S')(hm:m≠n)(e:S[m]?=some c):S'[m]?=some c:=by
 rw[h.same m (ag.mp e).1 hm];exact e
theorem CA{many:Int}(h:iK n S)(hm:0<many)(hm2:many<1073741824):
  ∃r S',aP [.ref n,.int many] S=some (.int r,S')/\0<=r/\r<many/\Stp n S S'/\S'.length=S.length:=by
 obtain⟨s,b,e⟩:=h;have hn:=(ag.mp e).1;have hd:vA many:=⟨hm,hm2⟩;have hd8:vA 8:=15#4;cases b with
 | true=>
   refine⟨s%many,S.set n (.lst [.int (s/many),.bl true]),?_,Bb _ 0#2,wD _ hm,⟨by simp,λm h1 h2=>by rw[aB (dZ h2)],⟨s/many,true,by rw[aN hn]⟩⟩,by simp⟩;simp[aP,_G.run,mq,aX,sIf,cOf,m2,ae,mC,bnd,oIx,ft,eC,getL,e,atI,ixN,bu,oMod,oDiv,hm,hd,eM,cb]
 | false=>
   have b1:∀x m:Int,0<m->m<4294967296->kG (x%m) (x%m):=λx m h1 h2=>by
    have h3:=Bb x (show m≠0 by omega);have h4:=wD x h1;exact .inl ⟨by omega,by omega⟩
   have hg:∀c:Cell,(S.set n c)[n]?=Option.some c:=λc=>aN hn;have k1:kG s 48271:= .inr 15#4;have k2:=b1 (s*48271+29) 2147483647 0#1 0#1;generalize hs1:(s*48271+29)%2147483647=s1 at k2;have k3:kG 39373 s1:= .inl 15#4;have k4:=b1 (s1*s1+39373*s1+7) 2147483629 0#1 0#1;generalize hm1:(s1*s1+39373*s1+7)%2147483629=m1 at k4;have k5:kG 16807 m1:= .inl 15#4;refine⟨(m1*m1+16807*m1)%2147483587/8%many,S.set n (.lst [.int s1,.bl false]),?_,Bb _ 0#2,wD _ hm,⟨by simp,λm h1 h2=>by rw[aB (dZ h2)],⟨s1,false,by rw[aN hn]⟩⟩,by simp⟩;simp[aP,_G.run,mq,aX,sIf,cOf,m2,ae,mC,bnd,oIx,ft,eC,getL,e,atI,ixN,bu,oMod,oDiv,cK,gv,hm,hd,eM,cb,cW,hg,k1,k2,k3,k4,k5,hs1,hm1,hd8]
theorem rh{i:Nat}{b:MS}(P:Nat->Rho->Sto->Prop):∀(us:List U) (k:Nat) (Y:Rho) (S:Sto),P k Y S ->
  (∀(j:Nat) (u:U) (Y:Rho) (S:Sto),us[j]?=some u->P (k+j) Y S->∃Y2 S',b 20#8 S=some 5#0/\P (k+j+1) Y2 S') ->
  ∃Y2 S',yU i b us Y S=some 5#0/\P (k+us.length) Y2 S'
 |[],k,Y,S,h,_=>⟨Y,S,rfl,h⟩
 | u::us,k,Y,S,h,st=>by
   obtain⟨Y1,S1,e1,h1⟩:=st 0 u Y S rfl h;obtain⟨Y8,S2,e2,h2⟩:=rh P us (k+1) Y1 S1 h1 λj v Y S hj hp=>by
    have:=st (j+1) v Y S (by simpa using hj) (by rw[show k+(j+1)=k+1+j by omega];exact hp);rw[show k+(j+1)+1=k+1+j+1 by omega]at this;exact this
   refine⟨Y8,S2,?_,by rw[show k+(u::us).length=k+1+us.length by simp;omega];exact h2⟩;show aft (b 20#8 S) (yU i b us)=_;rw[e1];exact e2
theorem j0{e:ME}{Y:Rho}(g:Nat->U)(P:Nat->Sto->Prop):∀(us:List U) (k:Nat) (acc:List U) (S:Sto),P k S ->
  (∀(j:Nat) (u:U) (S:Sto),us[j]?=some u->P (k+j) S->∃S',e 7#7 S=some (g (k+j),S')/\P (k+j+1) S') ->
  ∃S',gS cTT e Y us acc S=some (acc++(ay us.length).map (λj=>g (k+j)),S')/\P (k+us.length) S'
 |[],k,acc,S,h,_=>⟨S,by simp[gS],h⟩
 | u::us,k,acc,S,h,st=>by
   obtain⟨S1,e1,h1⟩:=st 0 u S rfl h;obtain⟨S2,e2,h2⟩:=j0 g P us (k+1) (acc++[g k]) S1 h1 λj v S hj hp=>by
    have:=st (j+1) v S (by simpa using hj) (by rw[show k+(j+1)=k+1+j by omega];exact hp);rw[show k+(j+1)+1=k+1+j+1 by omega,show k+(j+1)=k+1+j by omega]at this;exact this
   refine⟨S2,?_,by rw[show k+(u::us).length=k+1+us.length by simp;omega];exact h2⟩;show bnd (cTT 7#7 S) _=_;simp only[cTT,az,if_true];rw[e1];simp only[az,qg];rw[e2];simp only[aJ,fg,Prod.mk.injEq,and_true];rw[cf,List.range_succ_eq_map,bp,eZ];simp only[List.singleton_append,qg,List.append_cancel_left_eq,List.cons.injEq,true_and];apply bN;intro j _;simp only[Function.comp]
   congr 1;omega
def Fw(n:Nat)(g:Nat->U):U:= .tup ((ay n).map g)
theorem uf(h:n<big):okR (n:Int):=by
 unfold big at h;exact⟨by exact mL _,by omega⟩
variable{Y:Rho}{S0:Sto}{a:ME}{u:U}
theorem oZ(ha:a Y S=some (u,S0)):aa a af Y S=some ([u],S0):=by
 simp only[aa,af,ha,az]
variable{j:Int}
theorem PH{a:MA}(ha:a Y S=some ([.int j],S0))(h:okR j):iR1 a Y S=some (.imm (br 0 j.toNat),S0):=by
 unfold iR1;rw[ha];exact if_pos h
theorem kJ(ha:a Y S=some (.int n,S0))(h:n<big):iR1 2#6 Y S=some (.imm (br 0 n),S0):=by
 rw[PH (oZ ha) (uf h),xt]
variable{e:ME}{us ys:List U}
theorem kH{it:MI}{t:MT}(hi:it Y S=some (.imm us,S0))(h:gS t e Y us [] S0=some (ys,S1))(hz:ys.length<big):bK it t e Y S=some (.ref S1.length,S1++[.lst ys]):=by
 simp only[bK,hi,az,wj,h];exact if_pos hz
theorem eU(h:a Y S=some (.ref S1.length,S1++[.lst ys])):mFn bC 2#6 Y S=some (.tup ys,S1++[.lst ys]):=by
 unfold mFn;rw[oZ h];show(eC (S1++[Cell.lst ys]) (.ref S1.length)).map _=_;have:eC (S1++[Cell.lst ys]) (.ref S1.length)=some ys:=by
  show getL (S1++[Cell.lst ys]) S1.length=_;unfold getL;rw[aq 0#9];simp
 rw[this];rfl
theorem G2{S:Sto}(ha:a Y S=some (.int n,S0))(hn:n<big)(g:Nat->U)(P:Nat->Sto->Prop)(h0:P 0 S0)
  (hs:∀(j:Nat) (S:Sto),j<n->P j S->∃S',e (Y++[some (.int j)]) S=some (g j,S')/\P (j+1) S'):
  ∃S',mFn bC (aa (bK (iR1 2#6) cTT e) af) Y S=some (Fw n g,S'++[.lst ((ay n).map g)])/\P n S':=by
 obtain⟨S1,e1,h1⟩:=j0 (e:=e) (Y:=Y) g P (br 0 n) 0 [] S0 h0 λj u S hj hp=>by
  have hl:j<n:=by have:=(ag.mp hj).1;simpa [br]using this
  have hu:(br 0 n)[j]?=some (.int j):=by simp[br,hl]
  rw[hu]at hj;cases hj;simpa using hs j S hl 17#2
 have hlen:(br 0 n).length=n:=by simp[br]
 simp only[hlen,dR,dg]at e1 h1;exact⟨S1,eU (kH (kJ ha hn) e1 (by rw[ax,bc];exact hn)),h1⟩
theorem Su{S:Sto}(ha:a Y S=some (.tup us,S0))(hn:us.length<big)(g:Nat->U)(P:Nat->Sto->Prop)(h0:P 0 S0)
  (hs:∀(j:Nat) (u:U) (S:Sto),us[j]?=some u->P j S->∃S',e 7#7 S=some (g j,S')/\P (j+1) S'):
  ∃S',mFn bC (aa (bK (b0 a) cTT e) af) Y S=some (Fw us.length g,S'++[.lst ((ay us.length).map g)])/\P us.length S':=by
 obtain⟨S1,e1,h1⟩:=j0 (e:=e) (Y:=Y) g P us 0 [] S0 h0 λj u S hj hp=>by
  simpa using hs j u S hj 17#2
 simp only[dR,dg]at e1 h1;exact⟨S1,eU (kH (it:=b0 a) (us:=us) (by unfold b0;rw[ha];rfl) e1 (by rw[ax,bc];exact hn)),h1⟩
def lM(m:Nat)(T:Nat->Nat->Nat)(i:Nat):U:=Fw m λj=>.int (T i j)
def tab(m:Nat)(T:Nat->Nat->Nat):U:=Fw m (lM m T)
variable{i:Nat}
theorem oi{α:Type}{f:Nat->α}(h:i<m):atI ((ay m).map f) (i:Int)=some (f i):=by
 simp[atI,ixN,h]
theorem lR(h:0<n)(hn:n<big):∃S',cQ [.int n] S=some (tab n (bL n),S')/\Ex S S':=by
 have key:∃S',mFn bC (aa (bK (iR1 4#0) cTT (mFn bC (aa (bK (iR1 4#0) cTT (m2 oMod (m2 cK 1#5 0#5) 0#6)) af))) af) [10#7] S=some (Fw n (lM n (bL n)),S'++[.lst ((ay n).map (lM n (bL n)))])/\Ex S S':=by
  refine G2 (S0:=S) (by simp[ae]) hn _ (λ_ S'=>Ex S S') (Ex.refl S) λi S1 hi hx=>?_;obtain⟨S2,e2,h2⟩:=G2 (Y:= [10#7,some 3#6]) (S:=S1) (S0:=S1) (a:=ae 0) (e:=m2 oMod (m2 cK 1#5 0#5) 0#6) (n:=n) (by simp[ae]) hn (λj=>.int (bL n i j)) (λ_ S'=>S'=S1) rfl λj S' hj hx=>by
   refine⟨S',?_,hx⟩;have h0:(0:Int)<n:=by omega
   simp only[m2,ae,List.cons_append,dg,FD,oH,az,cK,oMod,h0,if_true,bL,oQ,Bc]
  subst h2;exact⟨S2++[_],e2,hx.trans 3#1⟩
 obtain⟨S',e,hx⟩:=key;refine⟨S'++[.lst ((ay n).map (lM n (bL n)))],?_,hx.trans 3#1⟩;simp only[cQ,_G.run,m7,cb,cf,ej,bp,jr,lV,List.replicate_zero,gK,if_true,e,az,tab]
theorem xI(h:0<n)(h2:n<1000):vA (n:Int):=⟨by omega,by omega⟩
theorem uw{i:Int}(h1: -1000000000<=i)(h2:i<=1000000000):kG i j:= .inl ⟨by omega,by omega⟩
theorem yj(h:n<1000000):kG (n:Int) j:=uw (by exact mL _) 0#2
def Agr(L:List Nat)(Y9 Y:Rho):Prop:=Y.length=Y9.length /\ ∀i,i∉L->Y[i]?=Y9[i]?
theorem Agr.refl(L:List Nat)(Y:Rho):Agr L Y Y:=⟨rfl,λ_ _=>rfl⟩
variable{L:List Nat}{Y9:Rho}{v:Option U}
theorem Agr.set(h:Agr L Y9 Y)(hi:i∈L):Agr L Y9 (Y.set i v):=
 ⟨by rw[fH];exact h.1,λj hj=>by rw[aB (by rintro rfl;exact hj hi)];exact h.2 j hj⟩
structure Sm(b:Nat)(S0 S:Sto):Prop where
 len:S0.length<=S.length
 same:∀m,m<b->S[m]?=S0[m]?
theorem Sm.trans{b:Nat}{S0 S1 S2:Sto}(a:Sm b S0 S1)(c:Sm b S1 S2):Sm b S0 S2:=⟨aC a.len c.len,λm h=>(c.same m h).trans (a.same m h)⟩
variable{b:Nat}
theorem Sm.ex(h:Ex S0 S)(hb:b<=S0.length):Sm b S0 S:=⟨h.len,λm hm=>h.get (aj hm hb)⟩
theorem Sm.set(h:Sm b S0 S)(hn:b<=n):Sm b S0 (S.set n c):=
 ⟨by rw[fH];exact h.len,λm hm=>by rw[aB 0#2];exact h.same m hm⟩
structure Wr(r:Nat)(S S':Sto):Prop where
 len:S.length<=S'.length
 same:∀m,m<S.length->m≠r->S'[m]?=S[m]?
theorem Wr.trans{r:Nat}{S S1 S2:Sto}(a:Wr r S S1)(b:Wr r S1 S2):Wr r S S2:=
 ⟨aC a.len b.len,λm h1 h2=>(b.same m (aj h1 a.len) h2).trans (a.same m h1 h2)⟩
theorem Wr.refl(r:Nat)(S:Sto):Wr r S S:=⟨ak _,λ_ _ _=>rfl⟩
variable{r:Nat}
theorem Wr.ex(h:Ex S S'):Wr r S S':=⟨h.len,λm hm _=>h.get hm⟩
theorem Wr.set(r:Nat)(S:Sto)(c:Cell):Wr r S (S.set r c):=⟨by simp,λm _ h=>aB (dZ h)⟩
theorem Wr.sm(h:Wr r S S')(hb:b<=r)(hr:b<=S.length):Sm b S S':=⟨h.len,λm hm=>h.same m (by exact aj 0#4 0#4) 0#2⟩
theorem qz(h:i<Y.length):(Y.set i v)[i]?=some v:=aN h
theorem var_eq(h:Y[i]?=some (some u)):ae i Y S=some (u,S):=by simp only[ae,h]
variable{b:MS}
theorem Jd(ha:a Y S=some (.int n,S))(h:n<big):ee i (iR1 2#6) b Y S=yU i b (br 0 n) Y S:=by
 unfold ee;rw[kJ ha h];rfl
theorem j4{Y:Rho}{S:Sto}(ha:a Y S=some (.int n,S))(h:n<big)(P:Nat->Rho->Sto->Prop)(h0:P 0 Y S)
  (st:∀(j:Nat) (Y:Rho) (S:Sto),j<n->P j Y S->∃Y2 S',b (Y.set i 17#8) S=some 5#0/\P (j+1) Y2 S'):
  ∃Y2 S',ee i (iR1 2#6) b Y S=some 5#0/\P n Y2 S':=by
 rw[Jd ha h];obtain⟨Y2,S',e,q⟩:=rh (i:=i) (b:=b) P (br 0 n) 0 Y S h0 λj u Y S hj hp=>by
  have hl:j<n:=by have:=(ag.mp hj).1;simpa [br]using this
  have hu:(br 0 n)[j]?=some (.int j):=by simp[br,hl]
  rw[hu]at hj;cases hj;simpa using st j Y S hl 17#2
 have hlen:(br 0 n).length=n:=by simp[br]
 rw[hlen,dR]at q;exact⟨Y2,S',e,q⟩
variable{o:ME}{row:List U}
theorem append_eq(ho:o Y S=some 10#1)(ha:a Y S=some (u,S1))(hr:S[r]?=some 13#4)(hr1:S1[r]?=some 13#4)(hl:row.length<big):
  du (mML bF o 2#6) Y S=some (.nx,Y,S1.set r (Cell.lst (row++[u]))):=by
 simp only[du,mML,ho,az,getL,hr,ah,oZ ha,bF,hr1,hl,if_true]
theorem jn(ha:a Y S=some 10#1)(hr:S[r]?=some 13#4):mFn bC 2#6 Y S=some (.tup row,S):=by
 simp only[mFn,oZ ha,az,bC,eC,getL,hr,aI]
variable{T:Nat->Nat->Nat}
theorem build{fs rs is js:Nat}{bIn:MS}(hm:m<big)(h1:rs∈L)(h2:is∈L)(h3:js∈L)(h4:fs∉L)(d1:rs≠is)(d2:js≠is)(d3:js≠rs)
  (l1:rs<Y9.length) (l2:is<Y9.length) (l3:js<Y9.length) (hf:Y9[fs]?=some (some (.ref S0.length)))
  (ha:∀Y S,Agr L Y9 Y->Sm S0.length S0 S->a Y S=some (.int m,S))
  (hb: ∀(i j r:Nat) (Y:Rho) (S:Sto) (row:List U),i<m->j<m->Agr L Y9 Y->Y[is]? = some (some 3#6)->Y[js]? = some 17#8->Y[rs]? = some (some (.ref r))->Sm S0.length S0 S->S0.length<r->S[r]? = some 13#4->row.length<big ->
   ∃Y2 S',bIn Y S=some (.nx,Y2,S')/\Agr L Y9 Y2/\Y2[is]? = some (some (.int i))/\Y2[rs]? = some (some (.ref r))/\Wr r S S'/\S'[r]? = some (Cell.lst (row++[.int (T i j)]))):
  ∃Y2 S',ee is (iR1 2#6) (aX (bu rs 2#7) (aX (ee js (iR1 2#6) bIn) (du (mML bF (ae fs) (aa (mFn bC (aa (ae rs) af)) af))))) Y9 (S0++2#4)=some 5#0 /\
   Agr L Y9 Y2/\Sm S0.length S0 S'/\S'[S0.length]?=some (Cell.lst ((ay m).map (lM m T))):=by
 have s0:Sm S0.length S0 (S0++2#4):=Sm.ex 3#1 0#9;refine j4 (P:=λk Y S=>Agr L Y9 Y/\Sm S0.length S0 S/\S0.length<S.length/\S[S0.length]?=some (Cell.lst ((ay k).map (lM m T)))) (ha _ _ (Agr.refl _ _) s0) hm ⟨Agr.refl _ _,s0,by simp,by rw[aq 0#9];simp⟩ ?_ |>.imp λY2 h=>h.imp λS' h=>⟨h.1,h.2.1,h.2.2.1,h.2.2.2.2⟩
 rintro i Y S hi ⟨g1,g2,g3,g4⟩;have r0:S.length<(S++[Cell.lst ([]:List U)]).length:=by simp
 have e0:bu rs 2#7 (Y.set is (some 3#6)) S=some (.nx,(Y.set is (some 3#6)).set rs 14#0,S++2#4):=by
  have hz:([]:List U).length<=big:=dC _;simp only[bu,bH,af,az,hz,if_true]
 have ga:Agr L Y9 ((Y.set is (some 3#6)).set rs 14#0):=(g1.set h2).set h1;have gs:Sm S0.length S0 (S++[Cell.lst ([]:List U)]):=g2.trans (Sm.ex 3#1 g2.len);obtain⟨Y1,S1,e1,q1,q2,q3,q4,q5⟩:=j4 (b:=bIn) (i:=js) (P:=λk Y1 S1=>Agr L Y9 Y1/\Y1[is]?=some (some 3#6)/\Y1[rs]?=some 14#0/\Wr S.length (S++[Cell.lst ([]:List U)]) S1/\S1[S.length]?=some (Cell.lst ((ay k).map λj=>.int (T i j))))
  (ha _ _ ga gs) hm ⟨ga,by rw[aB d1,qz (by rw[g1.1];exact l2)],by rw[qz (by rw[fH,g1.1];exact l1)],Wr.refl _ _,by rw[aq 0#9];simp⟩ (by
   rintro j Y1 S1 hj ⟨q1,q2,q3,q4,q5⟩;have sm1:Sm S0.length S0 S1:=gs.trans (q4.sm (aT g3) 16#2);obtain⟨Y8,S2,f1,f2,f3,f4,f5,f6⟩:=hb i j S.length (Y1.set js 17#8) S1 _ hi hj (q1.set h3) (by rw[aB d2];exact q2) (qz (by rw[q1.1];exact l3)) (by rw[aB d3];exact q3) sm1 g3 q5 (by rw[ax,bc];exact cP 0#4 0#4)
   exact⟨Y8,S2,f1,f2,f3,f4,q4.trans f5,by rw[f6,eS,ck];rfl⟩)
 have g5:S1[S0.length]?=some (Cell.lst ((ay i).map (lM m T))):=by
  rw[q4.same _ (by simp;exact g9 0#4) (by exact aW 0#4),(Ex.push S _).get g3];exact g4
 have sm1:Sm S0.length S0 S1:=gs.trans (q4.sm (aT g3) 16#2);have hfv:ae fs Y1 S1=some (.ref S0.length,S1):=var_eq (by rw[q1.2 fs h4];exact hf);have e2:=append_eq (o:=ae fs) hfv (jn (a:=ae rs) (var_eq q3) q5) g5 g5 (by rw[ax,bc];exact cP 0#4 0#4);refine⟨Y1,S1.set S0.length (Cell.lst ((ay (i+1)).map (lM m T))),?_,q1,sm1.set 0#9,?_,?_⟩
 .simp only[aX,e0,e1,e2]
  rw[eS,ck];rfl
 .rw[fH];have:=q4.len;simp at this;exact cP 0#4 0#4
 .exact aN (by have:=q4.len;simp at this;exact cP 0#4 0#4)
def um:MS:=aX (bu 5 (m2 oMod (m2 cK (m2 oMod 0#5 0#6) (m2 gv (m2 oIx (bH (aa 1#4 (aa 4#9 af))) (m2 oDiv 0#5 0#6)) (m2 oMod 1#3 0#6))) 0#6)) (du (mML bF 0#7 (aa (m2 cK (ae 5) (m2 gv 0#6 (m2 oMod (m2 cK (m2 oDiv 0#5 0#6) (m2 oDiv 1#3 0#6)) 3#3))) af)))
variable{f:Nat}
theorem Ec{n i c:Int}{x y:Option U}(h0:0<n)(hd:vA n)(hc:atI 20#4 (i/n)=some (.int c))(k1:kG c (j%n))(k2:kG n ((i/n+j/n)%2))
  (hr:(S++[Cell.lst 20#4])[r]?=some 13#4) (hl:row.length<big):
  um ([some (U.int n),some (U.ref f),some (U.int i),some (U.ref r),x,y].set 4 (some (U.int j))) S =
   some (Fl.nx,[some (U.int n),some (U.ref f),some (U.int i),some (U.ref r),some (U.int j),some (U.int ((i%n+c*(j%n))%n))],(S++[Cell.lst 20#4]).set r (Cell.lst (row++[U.int ((i%n+c*(j%n))%n+n*((i/n+j/n)%2))]))):=by
 have hb2:2<=big:=by decide
 simp[um,aX,bu,m2,m1,ae,mC,bH,aa,af,bnd,oMod,cK,gv,oDiv,oIx,ft,fZ,eC,getL,h0,hd,hb2,hc,k1,k2,du,mML,bF,hr,hl]
variable{j:Nat}
theorem Gf{x y:Option U}(hn:0<n)(hn2:n<1000)(hi:i<2*n)(hj:j<2*n)(hr:S[r]?=some 13#4)(hl:row.length<big):
  ∃z,um ([some (U.int n),some (U.ref f),some (U.int i),some (U.ref r),x,y].set 4 (some (U.int j))) S =
   some (Fl.nx,[some (U.int n),some (U.ref f),some (U.int i),some (U.ref r),some (U.int j),z],(S++[Cell.lst 20#4]).set r (Cell.lst (row++[U.int (ix n i j:Nat)]))):=by
 have hd:=xI hn hn2;have h0:(0:Int)<n:=by omega
 have hr2:=(Ex.push S (Cell.lst 20#4)).some hr;have hk:kG (n:Int) (((i:Int)/n+j/n)%2):=yj 16#9;have hc:∃c:Int,atI 20#4 ((i:Int)/n)=some (.int c)/\kG c ((j:Int)%n)/\((i:Int)%n+c*((j:Int)%n))%n+n*(((i:Int)/n+j/n)%2)=(ix n i j:Nat):=by
  rcases half hi with⟨h1,h2,h3⟩|⟨h1,h2,h3⟩
  .refine⟨1,?_,uw 0#1 0#1,?_⟩
   .have:(i:Int)/n=0:=by rw[<-zC,h3];rfl
    rw[this];rfl
   .unfold ix
    rw[if_pos h1,Int.one_mul]
    push_cast
    rfl
  .refine⟨-1,?_,uw 0#1 0#1,?_⟩
   .have:(i:Int)/n=1:=by rw[<-zC,h3];rfl
    rw[this];rfl
   .unfold ix
    have hjm:j%n<n:=wB _ hn;rw[if_neg 0#2];have e1:((i:Int)%n + -1*((j:Int)%n))%n=((i%n+(n-j%n))%n:Nat):=by
     have e2:((n-j%n:Nat):Int)=(n:Int)-(j:Int)%n:=by omega
     rw[oQ,Bc,e2,oQ];rw[show(i:Int)%n+((n:Int)-(j:Int)%n)=((i:Int)%n + -1*((j:Int)%n))+n by omega,Int.add_emod_right]
    rw[e1]
    push_cast
    rfl
 obtain⟨c,c1,c2,c3⟩:=hc;rw[<-c3];exact⟨_,Ec h0 hd c1 c2 hk hr2 hl⟩
variable{Y1:Rho}
theorem aO{a:MS}(h:a Y S=some (.nx,Y1,S1)):aX a b Y S=b Y1 S1:=by simp only[aX,h]
theorem cu(h:e Y S=some (u,S1)):cb e Y S=some (.rt u,Y,S1):=by simp only[cb,h,az]
theorem bz(h:e Y S=some (u,S1)):bu i e Y S=some (.nx,Y.set i (some u),S1):=by simp only[bu,h,az]
theorem fA:bH af Y S=some (.ref S.length,S++2#4):=by
 have hz:([]:List U).length<=big:=dC _;simp only[bH,af,az,hz,if_true]
theorem cw{k:Nat}(hl:us.length=k)(h:b 23#0 S=some (.rt u,Y,S1)):_G.run k n b us S=some (u,S1):=by
 simp only[_G.run,hl,if_true,h]
theorem Sm.toEx(h:Sm S.length S S'):Ex S S':=by
 refine⟨S'.drop S.length,mR λi=>?_⟩;by_cases hi:i<S.length
 .rw[aM hi];exact h.same i hi
 .rw[aq 13#0,List.getElem?_drop];congr 1;omega
theorem Ui(h:Y.length=6):∃a b c d e f,Y=[a,b,c,d,e,f]:=by
 have k:∀{n:Nat}{l:Rho},l.length=n+1->∃a r,l=a::r/\r.length=n:=λ{n l} h=>by
  cases l with
  |nil=>cases h
  |cons a r=>exact⟨a,r,rfl,Bh h⟩
 obtain⟨a,r1,rfl,h1⟩:=k h;obtain⟨b,r2,rfl,h2⟩:=k h1;obtain⟨c,r3,rfl,h3⟩:=k h2;obtain⟨d,r4,rfl,h4⟩:=k h3;obtain⟨e,r5,rfl,h5⟩:=k h4;obtain⟨f,r6,rfl,h6⟩:=k h5;cases dJ h6;exact⟨a,b,c,d,e,f,rfl⟩
theorem AI(hn:0<n)(hn2:n<1000):∃S',gF [.int n] S=some (tab (2*n) (ix n),S')/\Ex S S':=by
 have hbig:2*n<big:=by unfold big;omega
 obtain⟨Y1,S1,e1,q1,q2,q3⟩:=build (fs:=1) (rs:=3) (is:=2) (js:=4) (L:= [2,3,4,5]) (Y9:= [10#7,1#1,none,none,none,none]) (S0:=S) (bIn:=um) (a:=m2 gv 3#3 0#6) (m:=2*n) (T:=ix n)
  hbig 0#1 0#1 0#1 0#1 0#1 0#1 0#1 0#8 0#8 0#8 rfl
  (λY S' g s=>by
   have h0:Y[0]?=some (some (.int n)):=g.2 0 0#1;have hk:kG 2 (n:Int):=uw 0#1 0#1;simp only[m2,mC,az,var_eq h0,gv,hk,if_true]
   rfl)
  (λi j r Y S' row hi hj g gi gj gr s hr he hl=>by
   obtain⟨a,b,c,d,e,f,rfl⟩:=Ui g.1;have h0:some a=some (some (.int n)):=g.2 0 0#1;have h1:some b=some 14#0:=g.2 1 0#1;simp only[fg,FD,oH]at h0 h1 gi gj gr;subst h0 h1 gi gj gr;obtain⟨z,ez⟩:=Gf (f:=S.length) (x:=none) (y:=f) hn hn2 hi hj he hl;refine⟨_,_,ez,⟨rfl,λk hk=>?_⟩,rfl,rfl,(Wr.ex 3#1).trans (Wr.set _ _ _),?_⟩
   .match k with
    |0=>rfl
    |1=>rfl
    |2=>exact absurd 0#1 hk
    |3=>exact absurd 0#1 hk
    |4=>exact absurd 0#1 hk
    |5=>exact absurd 0#1 hk
    |k+6=>rfl
   ·exact aN (by have:=(ag.mp he).1;simp;exact g9 (by assumption)))
 have e2:mFn bC 6#0 Y1 S1=some (tab (2*n) (ix n),S1):=jn (var_eq (by rw[q1.2 1 0#1];rfl)) q3;refine⟨S1,cw (Y:=Y1) rfl ?_,?_⟩
 .show nM [10#7,none,none,none,none,none] S=_
  exact(aO (bz fA)).trans ((aO e1).trans (cu e2))
 .exact q2.toEx
section
variable {Y:Rho}{S S1 S2:Sto}{a b:ME}
theorem op2{f:F2}{x y:U}{r:Res U}(ha:a Y S=some (x,S1))(hb:b Y S1=some (y,S2))(h:f x y S2=r):m2 f a b Y S=r:=by simp only[m2,ha,hb,az,h]
variable{z:Int}
theorem Et(ha:a Y S=some (.tup us,S1))(hb:b Y S1=some (.int z,S2))(h:atI us z=some u):m2 oIx a b Y S=some (u,S2):=op2 ha hb (by simp only[oIx,ft,eC,ah,h,aI])
theorem pX(ha:a Y S=some 12#2)(hb:b Y S1=some (.int z,S2))(hn:S2[n]?=some (Cell.lst us))(h:atI us z=some u):m2 oIx a b Y S=some (u,S2):=op2 ha hb (by simp only[oIx,ft,eC,getL,hn,ah,h,aI])
variable{x y:Int}
theorem Tc(ha:a Y S=some 4#2)(hb:b Y S1=some 6#3):m2 cK a b Y S=some (.int (x+y),S2):=op2 ha hb rfl
theorem Je(ha:a Y S=some 4#2)(hb:b Y S1=some 6#3):m2 sQ a b Y S=some (.int (x-y),S2):=op2 ha hb rfl
theorem Tj(ha:a Y S=some 4#2)(hb:b Y S1=some 6#3)(h:kG x y):m2 gv a b Y S=some (.int (x*y),S2):=op2 ha hb (if_pos h)
theorem QX(ha:a Y S=some 4#2)(hb:b Y S1=some 6#3)(h:vA y):m2 oDiv a b Y S=some (.int (x/y),S2):=op2 ha hb (if_pos h)
theorem MP(ha:a Y S=some 4#2)(hb:b Y S1=some 6#3)(h:0<y):m2 oMod a b Y S=some (.int (x%y),S2):=op2 ha hb (if_pos h)
theorem c_i:mC (.int z) Y S=some (.int z,S):=rfl
theorem xX(ha:a Y S=some (.tup us,S1)):mFn bG 2#6 Y S=some (.int us.length,S1):=by
 simp only[mFn,oZ ha,az,bG,ft,eC,aI]
theorem len_tab(ha:a Y S=some (tab m T,S1)):mFn bG 2#6 Y S=some (.int m,S1):=by
 rw[xX (us:=(ay m).map (lM m T)) ha,ax,bc]
theorem ij(hi:i<m)(ha:a Y S=some (tab m T,S1))(hb:b Y S1=some (.int i,S2)):m2 oIx a b Y S=some (lM m T i,S2):=Et ha hb (oi hi)
theorem ip(hj:j<m)(ha:a Y S=some (lM m T i,S1))(hb:b Y S1=some (.int j,S2)):m2 oIx a b Y S=some (.int (T i j),S2):=Et ha hb (oi hj)
variable{x y:Nat}
theorem uR(ha:a Y S=some 4#2)(hb:b Y S1=some 6#3)(h:0<y)(h2:y<1000):m2 oDiv a b Y S=some (.int (x/y:Nat),S2):=by rw[QX ha hb (xI h h2),zC]
theorem Ja(ha:a Y S=some 4#2)(hb:b Y S1=some 6#3)(h:0<y):m2 oMod a b Y S=some (.int (x%y:Nat),S2):=by rw[MP ha hb 0#2,oQ]
theorem Ik(ha:a Y S=some 4#2)(hb:b Y S1=some 6#3)(h:x<1000000):m2 gv a b Y S=some (.int (x*y:Nat),S2):=by rw[Tj ha hb (yj h),Int.natCast_mul]
theorem add_n(ha:a Y S=some 4#2)(hb:b Y S1=some 6#3):m2 cK a b Y S=some (.int (x+y:Nat),S2):=by rw[Tc ha hb,Bc]
end
theorem Agr.of(h:Agr L Y9 Y)(hi:i∉L)(e:Y9[i]?=some v):Y[i]?=some v:=(h.2 i hi).trans e
def Os:MS:=aX (bu 7 (m2 oIx (m2 oIx 0#6 (m2 oDiv 1#3 0#5)) (m2 oDiv (ae 6) 0#5))) (du (mML bF (ae 5) (aa (m2 cK (m2 gv (ae 7) 0#5) 29#3) af)))
theorem JP{k:Nat}{A B:Nat->Nat->Nat}(hk:0<k)(hk2:k<1000)(hm:0<m)(hm2:m<1000)(ca:∀i j,i<k->j<k->A i j<k):∃S',mw [tab k A,tab m B] S=some (tab (k*m) (rE m A B),S')/\Ex S S':=by
 have hkm:k*m<1000000:=by
  calc k*m<=999*m:=dX m (by exact eT 0#4)
   _<=999*999:=lE 999 (by exact eT 0#4)
   _<1000000:=by decide
 have hbig:k*m<big:=by unfold big;exact aj 0#4 0#1
 have dl:∀i,i<k*m->i/m<k:=λi hi=>Nat.div_lt_of_lt_mul (by rw[lU];exact hi);have rl:∀i,i%m<m:=λi=>wB _ hm;obtain⟨Y1,S1,e1,q1,q2,q3⟩:=build (fs:=3) (rs:=5) (is:=4) (js:=6) (L:= [4,5,6,7]) (Y9:= [some (tab k A),some (tab m B),some (.int m),1#1,none,none,none,none]) (S0:=S) (bIn:=Os) (a:=m2 gv 6#2 0#5) (m:=k*m) (T:=rE m A B)
  hbig 0#1 0#1 0#1 0#1 0#1 0#1 0#1 0#8 0#8 0#8 rfl
  (λY S' g s=>Ik (len_tab (var_eq (g.of 0#1 rfl))) (var_eq (g.of 0#1 rfl)) 16#9)
  (λi j r Y S' row hi hj g gi gj gr s hr he hl=>by
   have v0:∀S',ae 0 Y S'=some (tab k A,S'):=λS'=>var_eq (g.of 0#1 rfl);have v2:∀S',ae 2 Y S'=some (.int m,S'):=λS'=>var_eq (g.of 0#1 rfl);have e7:m2 oIx (m2 oIx 0#6 (m2 oDiv 1#3 0#5)) (m2 oDiv (ae 6) 0#5) Y S'=some (.int (A (i/m) (j/m)),S'):=
    ip (dl j hj) (ij (dl i hi) (v0 _) (uR (var_eq gi) (v2 _) hm hm2)) (uR (var_eq gj) (v2 _) hm hm2)
   have hlen:Y.length=8:=g.1;have g':Agr [4,5,6,7] _ (Y.set 7 15#2):=g.set 0#1;have w2:∀S',ae 2 (Y.set 7 15#2) S'=some (.int m,S'):=λS'=>var_eq (g'.of 0#1 rfl);have w1:∀S',ae 1 (Y.set 7 15#2) S'=some (tab m B,S'):=λS'=>var_eq (g'.of 0#1 rfl);have w7:∀S',ae 7 (Y.set 7 15#2) S'=some (.int (A (i/m) (j/m)),S'):=λS'=>var_eq (qz 0#2);have n4:(Y.set 7 15#2)[4]?=some (some 3#6):=by rw[aB 0#1];exact gi
   have n5:(Y.set 7 15#2)[5]?=some (some (.ref r)):=by rw[aB 0#1];exact gr
   have n6:(Y.set 7 15#2)[6]?=some 17#8:=by rw[aB 0#1];exact gj
   have hA:A (i/m) (j/m)<1000000:=cP (ca _ _ (dl i hi) (dl j hj)) 16#9;have ev:m2 cK (m2 gv (ae 7) 0#5) 29#3 (Y.set 7 15#2) S'=some (.int (rE m A B i j:Nat),S'):=
    add_n (Ik (w7 _) (w2 _) hA) (ip (rl j) (ij (rl i) (w1 _) (Ja (var_eq n4) (w2 _) hm)) (Ja (var_eq n6) (w2 _) hm))
   exact⟨_,_,(aO (bz e7)).trans (append_eq (var_eq n5) ev he he hl),g',n4,n5,Wr.set _ _ _,aN (ag.mp he).1⟩)
 have e2:mFn bC (aa 0#7 af) Y1 S1=some (tab (k*m) (rE m A B),S1):=jn (var_eq (q1.of 0#1 rfl)) q3;refine⟨S1,cw (Y:=Y1) rfl ?_,q2.toEx⟩;show pZ [some (tab k A),some (tab m B),none,none,none,none,none,none] S=_;exact(aO (bz 8#7)).trans ((aO (bz fA)).trans ((aO e1).trans (cu e2)))
def sx:Nat->Nat->Nat:=λa b=>([[0,0,0,0],[0,1,0,1],[0,1,1,0],[0,0,1,1]].getD a []).getD b 0
def Bl:Nat->Nat->Nat:=λa b=>([[0,1,2,3],[1,0,3,2],[2,3,0,1],[3,2,1,0]].getD a []).getD b 0
def zZ(i j:Nat):Nat:=2*Bl (i/2) (j/2)+(i+j+sx (i/2) (j/2))%2
theorem Ha:((ay 8).all λi=>(ay 8).all λj=>zZ i j==gW i j)=true:=by decide +kernel
theorem E1(hi:i<8)(hj:j<8):zZ i j=gW i j:=by
 have h:=bI.mp (bI.mp Ha i (bZ.mpr hi)) j (bZ.mpr hj);exact eq_of_beq h
def LA:MS:=aX (bu 6 (m2 oMod 28#3 3#3)) (du (mML bF 1#3 (aa (m2 cK 28#7 (ae 6)) af)))
def uG(T:Nat->Nat->Nat)(a:Nat):Cell:= .lst ((ay 4).map λb=>.int (T a b))
def Gj(s:Nat):Cell:= .lst ((ay 4).map λa=>.ref (s+a))
def ten(s:Nat):Sto:= [uG sx 0,uG sx 1,uG sx 2,uG sx 3,Gj s,uG Bl 0,uG Bl 1,uG Bl 2,uG Bl 3,Gj (s+5)]
theorem look{k:Nat}(s:Sm (S++ten S.length).length (S++ten S.length) S')(hk:(ten S.length)[k]?=some c)(hn:n=S.length+k):S'[n]?=some c:=by
 have hl:k<(ten S.length).length:=(ag.mp hk).1;rw[s.same n (by rw[a8];omega),aq 0#2,hn];rw[show S.length+k-S.length=k by omega];exact hk
variable{x q:Nat}
theorem AM{S:Sto}{v p y:Nat}(hv:Y[v]?=some (some (.ref x)))(hx:S'[x]?=some (Gj y))(hy:∀a,a<4->S'[y+a]?=some (uG T a))(hi:Y[p]?=some (some 3#6))(hj:Y[q]?=some 17#8)(li:i<8)(lj:j<8):
  m2 oIx (m2 oIx (ae v) (m2 oDiv (ae p) 3#3)) (m2 oDiv (ae q) 3#3) Y S'=some (.int (T (i/2) (j/2)),S'):=
 pX (pX (var_eq hv) (uR (y:=2) (var_eq hi) c_i 0#1 0#1) hx (oi 0#2)) (uR (y:=2) (var_eq hj) c_i 0#1 0#1) (hy _ 0#2) (oi 0#2)
variable{y z:Int}
theorem kO{x w:Int}:bH (aa (mC (.int x)) (aa (mC (.int y)) (aa (mC (.int z)) (aa (mC (.int w)) af)))) Y S=some (.ref S.length,S++[Cell.lst [.int x,.int y,.int z,.int w]]):=by
 have hz:4<=big:=by decide
 simp[bH,aa,mC,af,az,hz]
variable{b:ME}{S3:Sto}
theorem Af{S4:Sto}{c d:ME}{x y z w:U}(ha:a Y S=some (x,S1))(hb:b Y S1=some (y,S2))(hc:c Y S2=some (z,S3))(hd:d Y S3=some (w,S4)):
  bH (aa a (aa b (aa c (aa d af)))) Y S=some (.ref S4.length,S4++[Cell.lst [x,y,z,w]]):=by
 have hz:4<=big:=by decide
 simp only[bH,aa,af,az,ha,hb,hc,hd];simp[hz]
theorem BE:∃S',hE [] S=some (tab 8 gW,S')/\Ex S S':=by
 have e0:=Af (Y:= [none,none,none,none,none,none,none]) (S:=S) (kO (x:=0) (y:=0) (z:=0) (w:=0)) (kO (x:=0) (y:=1) (z:=0) (w:=1)) (kO (x:=0) (y:=1) (z:=1) (w:=0)) (kO (x:=0) (y:=0) (z:=1) (w:=1));have e1:=Af (Y:= [some (.ref (S.length+4)),none,none,none,none,none,none]) (S:=S++(ten S.length).take 5) (kO (x:=0) (y:=1) (z:=2) (w:=3)) (kO (x:=1) (y:=0) (z:=3) (w:=2)) (kO (x:=2) (y:=3) (z:=0) (w:=1)) (kO (x:=3) (y:=2) (z:=1) (w:=0));have e0':=e0.trans (b:=_) (c:=some (U.ref (S.length+4),S++(ten S.length).take 5)) (by simp only[aJ,a8];rfl);have e1':=e1.trans (b:=_) (c:=some (U.ref (S.length+9),S++ten S.length)) (by simp only[aJ,a8];rfl);obtain⟨Y1,S1,f1,q1,q2,q3⟩:=build (fs:=2) (rs:=4) (is:=3) (js:=5) (L:= [3,4,5,6]) (Y9:= [some (.ref (S.length+4)),some (.ref (S.length+9)),some (.ref (S++ten S.length).length),none,none,none,none]) (S0:=S++ten S.length) (bIn:=LA) (a:=mC (.int 8)) (m:=8) (T:=gW)
  0#1 0#1 0#1 0#1 0#1 0#1 0#1 0#1 0#8 0#8 0#8 rfl
  (λY S' g s=>rfl)
  (λi j r Y S' row hi hj g gi gj gr s hr he hl=>by
   have hlen:Y.length=7:=g.1;have hs:∀a,a<4->S'[S.length+a]?=some (uG sx a):=λa ha=>look (k:=a) s (by match a,ha with | 0,_=>rfl | 1,_=>rfl | 2,_=>rfl | 3,_=>rfl) rfl;have hkk:∀a,a<4->S'[S.length+5+a]?=some (uG Bl a):=λa ha=>look (k:=5+a) s (by match a,ha with | 0,_=>rfl | 1,_=>rfl | 2,_=>rfl | 3,_=>rfl) 0#2;have t1:=AM (S:=S) (T:=sx) (v:=0) (g.of 0#1 rfl) (look (k:=4) s rfl rfl) hs gi gj hi hj;have e6:m2 oMod 28#3 3#3 Y S'=some (.int ((i+j+sx (i/2) (j/2))%2:Nat),S'):=
    Ja (y:=2) (add_n (add_n (var_eq gi) (var_eq gj)) t1) c_i 0#1
   have g':Agr [3,4,5,6] _ (Y.set 6 22#0):=g.set 0#1;have n3:(Y.set 6 22#0)[3]?=some (some 3#6):=by rw[aB 0#1];exact gi
   have n4:(Y.set 6 22#0)[4]?=some (some (.ref r)):=by rw[aB 0#1];exact gr
   have n5:(Y.set 6 22#0)[5]?=some 17#8:=by rw[aB 0#1];exact gj
   have t2:=AM (S:=S) (T:=Bl) (v:=1) (g'.of 0#1 rfl) (look (k:=9) s rfl rfl) hkk n3 n5 hi hj;have ev:m2 cK 28#7 (ae 6) (Y.set 6 22#0) S'=some (.int (gW i j:Nat),S'):=by
    rw[<-E1 hi hj];exact add_n (Ik (x:=2) c_i t2 0#1) (var_eq (qz 0#2))
   exact⟨_,_,(aO (bz e6)).trans (append_eq (var_eq n4) ev he he hl),g',n3,n4,Wr.set _ _ _,aN (ag.mp he).1⟩)
 have f2:mFn bC 3#4 Y1 S1=some (tab 8 gW,S1):=jn (var_eq (q1.of 0#1 rfl)) q3;refine⟨S1,cw (Y:=Y1) rfl ?_,Ex.trans ⟨ten S.length,rfl⟩ q2.toEx⟩;show ll [none,none,none,none,none,none,none] S=_;exact(aO (bz e0')).trans ((aO (bz e1')).trans ((aO (bz fA)).trans ((aO f1).trans (cu f2))))
theorem rX{e:ME}{Y:Rho}(P:List U->Sto->Prop):∀(us acc:List U) (S:Sto),P acc S ->
  (∀(k:Nat) (acc':List U) (u:U) (S:Sto),us[k]?=some u->acc'.length=acc.length+k->P acc' S->∃v S',e 7#7 S=some (v,S')/\P (acc'++[v]) S') ->
  ∃ys S',gS cTT e Y us acc S=some 3#2/\P ys S'/\ys.length=acc.length+us.length
 |[],acc,S,h,_=>⟨acc,S,rfl,h,by simp⟩
 | u::us,acc,S,h,st=>by
   obtain⟨v,S1,e1,h1⟩:=st 0 acc u S rfl 0#8 h;obtain⟨ys,S2,e2,h2,h3⟩:=rX P us (acc++[v]) S1 h1 λk acc' w S hk hl hp=>st (k+1) acc' w S (by simpa using hk) (by simp at hl;omega) hp;refine⟨ys,S2,?_,h2,by simp at h3 ⊢;omega⟩;show bnd (cTT 7#7 S) _=_;simp only[cTT,az,if_true];rw[e1];exact e2
theorem xW{S:Sto}(ha:a Y S=some (.int n,S0))(hn:n<big)(P:List U->Sto->Prop)(h0:P [] S0)
  (hs:∀(k:Nat) (acc:List U) (S:Sto),k<n->acc.length=k->P acc S->∃v S',e (Y++[2#8]) S=some (v,S')/\P (acc++[v]) S'):
  ∃ys S',mFn bC (aa (bK (iR1 2#6) cTT e) af) Y S=some (.tup ys,S'++[.lst ys])/\P ys S'/\ys.length=n:=by
 obtain⟨ys,S1,e1,h1,h2⟩:=rX (e:=e) (Y:=Y) P (br 0 n) [] S0 h0 λk acc u S hk hl hp=>by
  have hlt:k<n:=by have:=(ag.mp hk).1;simpa [br]using this
  have hu:(br 0 n)[k]?=some (.int k):=by simp[br,hlt]
  rw[hu]at hk;cases hk;exact hs k acc S hlt (by simpa using hl) hp
 have hlen:(br 0 n).length=n:=by simp[br]
 rw[hlen]at h2;simp only[ej,dR]at h2;exact⟨ys,S1,eU (kH (kJ ha hn) e1 (by rw[h2];exact hn)),h1,h2⟩
theorem Stp.set(h:Stp n S S')(hr:S.length<=r)(hn:r≠n):Stp n S (S'.set r c):=by
 refine⟨by rw[fH];exact h.len,λm h1 h2=>by rw[aB 0#2];exact h.same m h1 h2,?_⟩;obtain⟨s,b,e⟩:=h.st;exact⟨s,b,by rw[aB hn];exact e⟩
theorem Stp.step(a:Stp n S S1)(e:Ex S1 S2):Stp n S S2:=a.trans (Stp.ex a.st e)
theorem cJ{f:MF}{x y:U}{r:Res U}(ha:a Y S=some (x,S1))(hb:b Y S1=some (y,S2))(h:f [x,y] S2=r):mFn f 17#6 Y S=r:=by
 simp only[mFn,aa,af,ha,hb,az,h]
theorem gH{f:MF}{x:U}{r:Res U}(ha:a Y S=some (x,S1))(h:f [x] S1=r):mFn f 2#6 Y S=r:=by
 simp only[mFn,oZ ha,az,h]
theorem tE(ha:a Y S=some 10#1)(hr:S[r]?=some (Cell.lst us)):mFn bG 2#6 Y S=some (.int us.length,S):=
 gH ha (by simp only[bG,ft,eC,getL,hr,aI])
theorem xQ{α β:Type}(f:α->β):∀(l:List α) (j:Nat),(l.map f).eraseIdx j=(l.eraseIdx j).map f
 |[],_=>rfl
 |_::_,0=>rfl
 |x::l,j+1=>by simp[xQ f l j]
def ai(l:List Nat):List U:=l.map λ(x:Nat)=>U.int x
variable{l:List Nat}
theorem z4(ho:o Y S=some 10#1)(ha:a Y S=some (.int j,S1))(hr:S[r]?=some 18#1)(hr1:S1[r]?=some 18#1)(hj:j<l.length)(hl:l.length<big):
  mML lb o 2#6 Y S=some (.int l[j],S1.set r (Cell.lst (ai (l.eraseIdx j)))):=by
 have hok:okR (j:Int):=uf (by exact cP 0#4 0#4);have hx:ixN (ai l).length (j:Int)=some j:=by
  have:(ai l).length=l.length:=by simp[ai]
  rw[this];simp[ixN,hj]
 have hg:(ai l)[j]?=some (.int l[j]):=by simp[ai,hj]
 have he:(ai l).eraseIdx j=ai (l.eraseIdx j):=xQ _ _ _;simp only[mML,ho,az,getL,hr,ah,oZ ha,lb,hr1,hok,if_true,hx,hg,aI,he]
theorem xH{i j:Int}(ha:a Y S=some (.int i,S))(hb:b Y S=some (.int j,S))(h1:okR i)(h2:okR j)(hz:(br i (j-i).toNat).length<=big):gy (iR2 17#6) Y S=some (.ref S.length,S++[Cell.lst (br i (j-i).toNat)]):=by
 have e:iR2 17#6 Y S=some (.imm (br i (j-i).toNat),S):=by
  unfold iR2;simp only[aa,af,ha,hb,az];exact if_pos ⟨h1,h2⟩
 simp only[gy,e,az,hz,if_true]
variable{xs:List U}
theorem cat_t(ha:a Y S=some (.tup xs,S1))(hb:b Y S1=some (.tup ys,S2))(hz:xs.length+ys.length<=big):m2 cK a b Y S=some (.tup (xs++ys),S2):=op2 ha hb (by simp only[cK,hz,if_true])
theorem mx(m:Nat)(hm:0<m):br 1 ((m:Int)-1).toNat=ai (bY 1 (m-1)):=by
 have e:((m:Int)-1).toNat=m-1:=by omega
 rw[e];unfold br ai;rw[List.range'_eq_map_range,eZ];apply bN;intro k _;simp
theorem Ge(h:iK n S)(hm:0<m)(hm2:m<1000):∃l S',kI [.ref n,.int m] S=some (.tup 2#0,S')/\Stp n S S'/\sh m l:=by
 have hn:=h.lt;have hbig:m<big:=by unfold big;exact aj 0#4 0#1
 have e0:gy (iR2 (aa 1#4 6#0)) [2#3,some (.int m),none] S=some (.ref S.length,S++11#2):=by
  rw[xH (i:=1) (j:=m) rfl 0#0 15#4 (uf hbig) (by rw[mx m hm,ai,ax,uE];exact aC (gI m 1) (aT hbig)),mx m hm]
 have st0:Stp n S (S++11#2):=Stp.ex h 3#1;obtain⟨ys,S1,e1,⟨tk,rem,rfl,q1,q2,q3⟩,e2⟩:=xW (Y:= [2#3,some (.int m),1#1]) (S:=S++11#2) (S0:=S++11#2)
  (a:=m2 sQ 1#5 1#4) (e:=mML lb 0#5 (aa (mFn aP (aa 0#6 (aa (mFn bG 3#4) af))) af)) (n:=m-1)
  (by rw[Je 0#0 c_i];congr 3;exact(Int.natCast_sub hm).symm) (aA (gI m 1) hbig)
  (λacc S'=>∃tk rem:List Nat,acc=ai tk/\S'[S.length]?=some (Cell.lst (ai rem))/\(tk++rem).Perm (bY 1 (m-1))/\Stp n S S')
  ⟨[],bY 1 (m-1),rfl,by rw[aq 0#9];simp,by simp,st0⟩
  (by
   rintro k acc S' hk hl ⟨tk,rem,rfl,q1,q2,q3⟩;have htk:tk.length=k:=by simpa [ai]using hl
   have hrem:rem.length=m-1-k:=by
    have:=q2.length_eq;rw[a8,uE,htk]at this;rw[<-this,FM]
   have hr0:0<rem.length:=by rw[hrem];exact Nat.sub_pos_of_lt hk
   have hr1:rem.length<1000:=by rw[hrem];exact aA (aC (gI _ _) (gI _ _)) hm2
   obtain⟨r,S2,t1,t2,t3,t4,t5⟩:=CA (many:=(rem.length:Int)) q3.st (gJ.mpr hr0) 0#2;obtain⟨j,rfl⟩:=FN t2;have hj:j<rem.length:=gJ.mp t3;have ho:∀S',ae 2 32#3 S'=some 13#1:=λS'=>var_eq rfl;have hv:∀S',ae 0 32#3 S'=some (.ref n,S'):=λS'=>var_eq rfl;have hlen:mFn bG 3#4 32#3 S'=some (.int rem.length,S'):=by
    rw[tE (ho _) q1];simp[ai]
   have q1':S2[S.length]?=some (Cell.lst (ai rem)):=t4.some (by exact cN 0#4) q1;refine⟨_,_,z4 (ho _) (cJ (hv _) hlen t1) q1 q1' hj (by unfold big;exact aj hr1 0#1),tk++[rem[j]],rem.eraseIdx j,by simp[ai],?_,?_,?_⟩
   .exact aN (ag.mp q1').1
   .refine JE ?_ q2
    rw[aJ];exact(pL rem j hj).append_left tk
   ·exact(q3.trans t4).set (ak _) (by exact cN (by assumption)))
 have hrem:rem=[]:=by
  have:=q2.length_eq;simp[ai]at this e2;exact dJ 0#2
 subst hrem;rw[gK]at q2;refine⟨0::tk,S1++[Cell.lst (ai tk)],cw (Y:= [2#3,some (.int m),1#1]) rfl ?_,q3.step 3#1,Fg hm q2⟩;show ng [2#3,some (.int m),none] S=_;refine(aO (bz e0)).trans (cu ?_);have ez:de 8#8 [2#3,some (.int m),1#1] (S++11#2)=some (.tup [.int 0],S++11#2):=by
  have hb1:1<=big:=by decide
  simp[de,oZ (show mC (.int 0) _ _=some (U.int 0,S++11#2) from rfl),az,hb1]
 exact cat_t ez e1 (by simp[ai]at e2 ⊢;omega)
theorem Kc{i:Int}:toD S (f+1) 3#6=some 3#6:=rfl
theorem rj{S:Sto}{f:Nat}:∀(l:List Nat),dS (toD S (f+1)) 2#0=some 23#7
 |[]=>rfl
 | x::l=>by
   show(toD S (f+1) (.int x)).bind _=_;rw[Kc];simp only[ah];rw[show JF (λ(x:Nat)=>U.int x) l=ai l from rfl,rj l];rfl
theorem zG(x:Nat):∀(l:List Nat),x∈l->(l.map λ(x:Nat)=>d9 x).findIdx? (λy=>dz y (.int x))=some (l.idxOf x)
 |[],h=>by simp at h
 | y::l,h=>by
   have e:dz (.int y) (.int x)=decide (y=x):=by
    simp[dz];by_cases hxy:y=x
    .subst hxy;simp
    .have: ¬((y:Int)=x):=by omega
     simp[hxy,this]
   rw[bp,uC,e,List.idxOf_cons];by_cases hxy:y=x
   .subst hxy;simp
   .have hm:x∈l:=by
     rcases a9.mp h with z|z
     .exact absurd z.symm hxy
     .exact z
    have hb:(y==x)=false:=by simpa using hxy
    rw[zG x l hm];simp[hxy,hb]
theorem KG(h:x∈l):IT S (.int x) 2#0=some (l.idxOf x):=by
 unfold IT;rw[rj l];simp only[ah];rw[show toD S 40 (.int x)=some (.int x) from rfl];exact zG x l h
theorem GH(ho:o Y S=some (.tup 2#0,S))(ha:a Y S=some 4#2)(h:x∈l):mMT jO o 2#6 Y S=some (.int (l.idxOf x:Nat),S1):=by
 simp only[mMT,ho,az,oZ ha,jO,KG h,aI];rfl
theorem vd(h:(ai l)[j]?=some u):j<l.length/\u=.int (oF l j):=by
 have hl:j<l.length:=by have:=(ag.mp h).1;simpa [ai]using this
 have:(ai l)[j]?=some (.int l[j]):=by simp[ai,hl]
 rw[this]at h;cases h;exact⟨hl,by simp[oF,hl]⟩
theorem bw(l:List Nat):(ai l).length=l.length:=by simp[ai]
theorem Jh(hm:m<big)(g:∀i j,i<m->j<m->T i j<m)(ho:sh m l):∃S',kR [tab m T,.tup 2#0] S=some (tab m (nj T (oF l) (pF l)),S')/\Ex S S':=by
 have hlen:=ho.len;obtain⟨S1,e1,h1⟩:=Su (Y:= [0#3,some (.tup 2#0)]) (S:=S) (S0:=S) (a:=ae 1) (us:=ai l) (e:=mFn bC (aa (bK 4#6 cTT (mMT jO 1#5 (aa 22#1 af))) af))
  0#0 (by rw[bw,hlen];exact hm) (lM m (nj T (oF l) (pF l))) (λ_ S'=>Ex S S') (Ex.refl _) (by
   intro i u S' hu hx;obtain⟨hi,rfl⟩:=vd hu;rw[hlen]at hi;obtain⟨S2,e2,h2⟩:=Su (Y:= [0#3,some (.tup 2#0),some (.int (oF l i))]) (S:=S') (S0:=S') (a:=ae 1) (us:=ai l) (e:=mMT jO 1#5 (aa 22#1 af))
    0#0 (by rw[bw,hlen];exact hm) (λj => .int (nj T (oF l) (pF l) i j)) (λ_ S''=>S''=S') rfl (by
     intro j u S'' hu hx;obtain⟨hj,rfl⟩:=vd hu;rw[hlen]at hj;refine⟨S'',?_,hx⟩
     exact GH (var_eq rfl) (ip (ho.ord.ol j hj) (ij (ho.ord.ol i hi) (var_eq rfl) (var_eq rfl)) (var_eq rfl)) (ho.mem.mpr (g _ _ (ho.ord.ol i hi) (ho.ord.ol j hj))))
   subst h2;rw[bw,hlen]at e2
   exact⟨_,e2,hx.trans (Ex.push _ _)⟩)
 rw[bw,hlen]at e1;exact⟨_,cw (Y:= [0#3,some (.tup 2#0)]) rfl (show nD [0#3,some (.tup 2#0)] S=_ from cu e1),h1.trans 3#1⟩
theorem Ep{x:Int}(ha:a Y S=some 4#2)(hb:b Y S1=some 6#3):m2 oEq a b Y S=some (.bl (x==y),S2):=op2 ha hb rfl
theorem Ih{x:Int}(ha:a Y S=some 4#2)(hb:b Y S1=some 6#3):m2 oGt a b Y S=some (.bl (decide (y<x)),S2):=op2 ha hb rfl
theorem of_eq{b:Bool}(h:a Y S=some (.bl b,S1)):cOf a Y S=some (b,S1):=by simp only[cOf,h,az]
theorem or_eq{a b:MT}{x y:Bool}(ha:a Y S=some (x,S1))(hb:b Y S1=some (y,S2))(e:x=true->S2=S1):cOr a b Y S=some (x||y,S2):=by
 cases x
 .simp[cOr,ha,hb,az]
 .simp[cOr,ha,az,e rfl]
theorem and_eq{a b:MT}{x y:Bool}(ha:a Y S=some (x,S1))(hb:b Y S1=some (y,S2))(e:x=false->S2=S1):wZ a b Y S=some (x&&y,S2):=by
 cases x
 .simp[wZ,ha,az,e rfl]
 .simp[wZ,ha,hb,az]
theorem jP{c:MT}{a b:MS}(h:c Y S=some (true,S1)):sIf c a b Y S=a Y S1:=by simp[sIf,h,az]
theorem iA{c:MT}{a b:MS}(h:c Y S=some (false,S1)):sIf c a b Y S=b Y S1:=by simp[sIf,h,az]
theorem gw(h:iK n S)(hm:0<m)(hm2:m<1000):∃r S',aP [.ref n,.int m] S=some (.int (r:Nat),S')/\r<m/\Stp n S S':=by
 obtain⟨r,S',e,h1,h2,h3,_⟩:=CA (many:=(m:Int)) h 0#2 0#2;obtain⟨r,rfl⟩:=FN h1;exact⟨r,S',e,by omega,h3⟩
def gA:MS:=sIf (cOr (cOf (m2 oEq 0#5 1#4)) (cOf (m2 oEq 0#5 3#3))) (bu 3 (mFn gF (aa (m2 cK 1#4 (mFn aP (aa 0#6 (aa (m2 oDiv 1#5 3#3) af)))) af))) cW
def gB:MS:=sIf (wZ (cOf (m2 oEq 0#5 9#9)) (cOf (m2 oGt 1#5 (mC (.int 7))))) (bu 3 (mFn hE af)) cW
def gC:MS:=sIf (cOf (m2 oGt 0#5 9#9)) (aX (bu 4 (m2 cK 3#3 14#9)) (aX (bu 5 (m2 oIx 32#2 23#5)) (aX (sIf (cOf (m2 oGt 11#7 1#5)) (bu 5 (mFn cQ 4#5)) cW) (bu 3 (mFn mw (aa (ae 5) (aa (mFn cQ (aa (m2 cK 1#4 (mFn aP (aa 0#6 (aa (m2 oDiv 1#5 11#7) af)))) af)) af))))))) cW
def gD:MS:=sIf (cOf (m2 oEq 14#9 1#8)) (bu 3 (mFn kR (aa 0#7 (aa (mFn kI 23#9) af)))) cW
structure Gs(n most way:Nat)(S0:Sto)(Y:Rho)(S:Sto):Prop where
 ex:∃m T x y,Y=[some (.ref n),some (.int most),some (.int way),some (tab m T),x,y]/\Grp m T/\m<=most
 st:Stp n S0 S
section
variable {n most way:Nat}{S0 S:Sto}{Y:Rho}
theorem SI(h6:6<=most)(hm:most<1000)(g:Gs n most way S0 Y S):∃Y2 S',gA Y S=some 5#0/\Gs n most way S0 Y2 S':=by
 obtain⟨⟨m,T,x,y,rfl,gr,hle⟩,st⟩:=g;have hc:=or_eq (of_eq (Ep (Y:= 18#5) (S:=S) (a:=ae 2) (b:=mC (.int 1)) 0#0 c_i)) (of_eq (Ep (a:=ae 2) (b:=mC (.int 2)) 0#0 c_i)) λ_=>rfl;cases hb:(((way:Int)==1)||((way:Int)==2)) with
 | false=>
   rw[hb]at hc;exact⟨_,S,iA hc,⟨m,T,x,y,rfl,gr,hle⟩,st⟩
 | true=>
   rw[hb]at hc;obtain⟨r,S1,e1,w1,s1⟩:=gw (m:=most/2) st.st 0#2 0#2;obtain⟨S2,e2,s2⟩:=AI (n:=1+r) (S:=S1) 9#5 0#2;refine⟨_,S2,(jP hc).trans (bz (gH (x:= .int (1+r:Nat)) (add_n (x:=1) c_i (cJ 0#0 (uR (y:=2) 0#0 c_i 0#1 0#1) e1)) e2)),⟨_,_,x,y,rfl,AH 9#5,by omega⟩,(st.trans s1).step s2⟩
theorem Q7(g:Gs n most way S0 Y S):∃Y2 S',gB Y S=some 5#0/\Gs n most way S0 Y2 S':=by
 obtain⟨⟨m,T,x,y,rfl,gr,hle⟩,st⟩:=g;have hc:=and_eq (of_eq (Ep (Y:= 18#5) (S:=S) (a:=ae 2) (b:=mC (.int 3)) 0#0 c_i)) (of_eq (Ih (a:=ae 1) (b:=mC (.int 7)) 0#0 c_i)) λ_=>rfl;cases hb:(((way:Int)==3)&&decide ((7:Int)<most)) with
 | false=>
   rw[hb]at hc;exact⟨_,S,iA hc,⟨m,T,x,y,rfl,gr,hle⟩,st⟩
 | true=>
   rw[hb]at hc;obtain⟨S2,e2,s2⟩:=BE (S:=S);have h7:(7:Int)<most:=by simp at hb;exact hb.2
   refine⟨_,S2,(jP hc).trans (bz (show mFn hE af _ S=_ from e2)),⟨_,_,x,y,rfl,EM,by omega⟩,st.step s2⟩
theorem DI{Y:Rho}{S:Sto}{x y:U}(ha:a Y S=some (x,S1))(hb:b Y S1=some (y,S2)):bH 17#6 Y S=some (.ref S2.length,S2++[Cell.lst [x,y]]):=by
 have hz:2<=big:=by decide
 simp[bH,aa,af,az,ha,hb,hz]
theorem R6(h6:6<=most)(hm:most<1000)(g:Gs n most way S0 Y S):∃Y2 S',gC Y S=some 5#0/\Gs n most way S0 Y2 S':=by
 obtain⟨⟨m,T,x,y,rfl,gr,hle⟩,st⟩:=g;have hbig:∀x,x<=most->x<big:=λx hx=>by unfold big;exact aA 0#4 (aj 0#4 0#1)
 have hc:=of_eq (Ih (Y:= 18#5) (S:=S) (a:=ae 2) (b:=mC (.int 3)) 0#0 c_i);cases hb:decide ((3:Int)<way) with
 | false=>
   rw[hb]at hc;exact⟨_,S,iA hc,⟨m,T,x,y,rfl,gr,hle⟩,st⟩
 | true=>
   rw[hb]at hc;obtain⟨r,S1,e1,w1,s1⟩:=gw (m:=3) st.st 0#1 0#1;have f1:m2 cK 3#3 14#9 18#5 S=some (.int (2+r:Nat),S1):=
    add_n (x:=2) c_i (cJ 0#0 c_i e1)
   have h24:2+r<=4:=Nat.add_le_add_left (eT w1) 2;have h2m:2+r<=most:=aC h24 (aC 0#1 h6);obtain⟨S2,e2,s2⟩:=lR (n:=2+r) (S:=S1) 9#5 (hbig _ h2m);obtain⟨S3,e3,s3⟩:=AI (n:=2+r) (S:=S2) 9#5 (aA h24 0#1);have st3:Stp n S0 (S3++[Cell.lst 31#5]):=(((st.trans s1).step s2).step s3).step 3#1;obtain⟨q,S4,e4,w4,s4⟩:=gw (m:=2) st3.st 0#1 0#1;have hcell:S4[S3.length]?=some (Cell.lst 31#5):=by
    refine s4.some ?_ (by rw[aq 0#9];simp);have:=(((st.trans s1).step s2).step s3).st.lt;exact cN 0#4
   have one:∃k K,atI 31#5 (q:Int)=some (tab k K)/\Grp k K/\k<=8:=by
    rcases q with _|_|q
    .exact⟨_,_,rfl,jZ 9#5,aC h24 0#1⟩
    .exact⟨_,_,rfl,AH 9#5,lE 2 h24⟩
    .exact absurd (qi (qi w4)) (Nat.not_lt_zero _)
   obtain⟨k,K,hix,gk,hk8⟩:=one;have f5:m2 oIx 32#2 23#5 [2#3,16#1,some (.int way),0#3,some (.int (2+r:Nat)),y] S1=some (tab k K,S4):=
    pX (DI (gH (x:= .int (2+r:Nat)) 0#0 e2) (gH (x:= .int (2+r:Nat)) 0#0 e3)) (cJ 0#0 c_i e4) hcell hix
   have st4:=st3.trans s4;have cut:∃k' K' S5,sIf (cOf (m2 oGt 11#7 1#5)) (bu 5 (mFn cQ 4#5)) cW [2#3,16#1,some (.int way),0#3,some (.int (2+r:Nat)),some (tab k K)] S4 =
     some (.nx,[2#3,16#1,some (.int way),0#3,some (.int (2+r:Nat)),some (tab k' K')],S5)/\Grp k' K'/\k'<=most/\k'<=8/\Stp n S0 S5:=by
    have hc2:=of_eq (Ih (Y:= [2#3,16#1,some (.int way),0#3,some (.int (2+r:Nat)),some (tab k K)]) (S:=S4) (a:=mFn bG 10#3) (b:=ae 1) 8#7 0#0);cases hb2:decide ((most:Int)<k) with
    | false=>
      rw[hb2]at hc2;have: ¬((most:Int)<k):=by simpa using hb2
      exact⟨k,K,S4,iA hc2,gk,bA λz=>this (gJ.mpr z),hk8,st4⟩
    | true=>
      rw[hb2]at hc2;obtain⟨S5,e5,s5⟩:=lR (n:=2+r) (S:=S4) 9#5 (hbig _ h2m);exact⟨_,_,S5,(jP hc2).trans (bz (gH (x:= .int (2+r:Nat)) 0#0 e5)),jZ 9#5,h2m,aC h24 0#1,st4.step s5⟩
   obtain⟨k',K',S5,f6,gk',hkm,hk8',st5⟩:=cut;have kp:=gk'.pos;have hdiv:0<most/k':=Nat.div_pos hkm kp;have hdl:most/k'<=most:=Nat.div_le_self _ _;obtain⟨t,S6,e6,w6,s6⟩:=gw (m:=most/k') st5.st hdiv (by exact aA 0#4 0#4);have h1t:1+t<=most/k':=by rw[jD];exact w6
   obtain⟨S7,e7,s7⟩:=lR (n:=1+t) (S:=S6) 9#5 (hbig _ (aC h1t hdl));obtain⟨S8,e8,s8⟩:=JP (k:=k') (m:=1+t) (A:=K') (B:=bL (1+t)) (S:=S7) kp (by exact aA 0#4 0#1) 9#5 (aA (aC h1t hdl) hm) gk'.cl;have hsz:k'*(1+t)<=most:=aC (lE k' h1t) (Nat.mul_div_le most k');refine⟨_,S8,(jP hc).trans ((aO (bz f1)).trans ((aO (bz f5)).trans ((aO f6).trans (bz (cJ 0#0 (gH (x:= .int (1+t:Nat)) ?_ e7) e8))))),⟨_,_,_,_,rfl,IE gk' (jZ 9#5),hsz⟩,((st5.trans s6).step s7).step s8⟩;exact add_n (x:=1) c_i (cJ 0#0 (uR 0#0 8#7 kp (by exact aA 0#4 0#1)) e6)
theorem Rv(hm:most<1000)(g:Gs n most way S0 Y S):∃Y2 S',gD Y S=some 5#0/\Gs n most way S0 Y2 S':=by
 obtain⟨⟨m,T,x,y,rfl,gr,hle⟩,st⟩:=g;obtain⟨r,S1,e1,w1,s1⟩:=gw (m:=3) st.st 0#1 0#1;have hc:=of_eq (Ep (Y:= 18#5) (S:=S) (a:=mFn aP (aa 0#6 (aa 9#9 af))) (b:=mC (.int 0)) (cJ 0#0 c_i e1) c_i);cases hb:((r:Int)==0) with
 | false=>
   rw[hb]at hc;exact⟨_,S1,iA hc,⟨m,T,x,y,rfl,gr,hle⟩,st.trans s1⟩
 | true=>
   rw[hb]at hc;obtain⟨l,S2,e2,s2,ol⟩:=Ge (m:=m) s1.st gr.pos (by exact aA 0#4 0#4);obtain⟨S3,e3,s3⟩:=Jh (m:=m) (T:=T) (S:=S2) (by unfold big;exact aA 0#4 (aj 0#4 0#1)) gr.cl ol;refine⟨_,S3,(jP hc).trans (bz (cJ 0#0 (cJ 0#0 8#7 e2) e3)),⟨_,_,x,y,rfl,Fd gr ol.ord,hle⟩,((st.trans s1).trans s2).step s3⟩
end
variable{most:Nat}
theorem GJ(h:iK n S)(h6:6<=most)(hm:most<1000):∃m T S',jl [.ref n,.int most] S=some (tab m T,S')/\Grp m T/\m<=most/\Stp n S S':=by
 have hbig:∀x,x<=most->x<big:=λx hx=>by unfold big;exact aA 0#4 (aj 0#4 0#1)
 obtain⟨way,S1,e1,w1,s1⟩:=gw (m:=8) h 0#1 0#1;obtain⟨r2,S2,e2,w2,s2⟩:=gw (m:=most) s1.st (by exact Nat.zero_lt_of_lt 0#4) hm;obtain⟨S3,e3,s3⟩:=lR (n:=1+r2) (S:=S2) 9#5 (hbig _ 0#2);have f1:m2 cK 1#4 (mFn aP 3#7) [2#3,16#1,some (.int way),none,none,none] S1=some (.int (1+r2:Nat),S2):=add_n (x:=1) (y:=r2) c_i (cJ 0#0 0#0 e2);have g0:Gs n most way S [2#3,16#1,some (.int way),some (tab (1+r2) (bL (1+r2))),none,none] S3:=⟨⟨_,_,none,none,rfl,jZ 9#5,by omega⟩,(s1.trans s2).step s3⟩;obtain⟨Z2,S4,e4,g4⟩:=SI h6 hm g0;obtain⟨X9,S5,e5,g5⟩:=Q7 g4;obtain⟨Z6,S6,e6,g6⟩:=R6 h6 hm g5;obtain⟨Z4,S7,e7,g7⟩:=Rv hm g6;obtain⟨⟨m,T,x,y,rfl,gr,hle⟩,st⟩:=g7;refine⟨m,T,S7,cw (Y:= 18#5) rfl ?_,gr,hle,st⟩;show nC [2#3,16#1,none,none,none,none] S=_;exact(aO (bz (cJ 0#0 c_i e1))).trans ((aO (bz (gH f1 e3))).trans ((aO e4).trans ((aO e5).trans ((aO e6).trans ((aO e7).trans (cu 0#0))))))
def Scr(ns:List Int)(S:Sto):Prop:=getL S 0=some 14#6
variable{ns:List Int}
theorem Scr.ex(h:Scr ns S)(e:∀c,S[0]?=some c->S'[0]?=some c):Scr ns S':=by
 unfold Scr getL at h ⊢
 split at h
 .rename_i us q;rw[e _ q];exact h
 .rename_i us q;rw[e _ q];exact h
 all_goals cases h
theorem Scr.lt(h:Scr ns S):0<S.length:=by
 unfold Scr getL at h
 split at h
 .rename_i q;exact(ag.mp q).1
 .rename_i q;exact(ag.mp q).1
 all_goals cases h
theorem bD{α:Type}(S:List α)(c:α):(S++[c])[S.length]?=some c:=by
 rw[aq 0#9];simp
theorem OW{x:Int}(ha:a Y S=some 4#2)(hb:b Y S1=some 6#3):m2 oLt a b Y S=some (.bl (decide (x<y)),S2):=op2 ha hb rfl
theorem TY{x:Int}(ha:a Y S=some 4#2)(hb:b Y S1=some 6#3):m2 oGe a b Y S=some (.bl (decide (y<=x)),S2):=op2 ha hb rfl
theorem Mm(h:getL S r=some us):ft S (.ref r)=none:=by
 unfold getL at h
 show(match S[r]? with
  |some (.dic kvs)=>some kvs
  | _=>none)=none
 split at h<;>rename_i q<;>first | (cases h;done) | (rw[q])
theorem Mj(ha:a Y S=some 10#1)(hr:getL S r=some us):mFn bG 2#6 Y S=some (.int us.length,S):=
 gH ha (by simp only[bG,Mm hr,eC,hr,aI])
theorem Uy(ha:a Y S=some 12#2)(hb:b Y S1=some (.int z,S2))(hn:getL S2 n=some us)(h:atI us z=some u):m2 oIx a b Y S=some (u,S2):=op2 ha hb (by simp only[oIx,Mm hn,eC,hn,ah,h,aI])
theorem jd{α:Type}{us:List α}{k:Nat}{u:α}(h:us[k]?=some u):atI us (k:Int)=some u:=by
 have hk:k<us.length:=(ag.mp h).1;simp[atI,ixN,hk];exact(ag.mp h).2
theorem Lc{k:Nat}(h:Scr ns S):∃z,jb [.ref 0,.int k] S=some (.int z,S):=by
 have hc:=of_eq (OW (Y:= [5#8,2#8]) (S:=S) (a:=ae 1) (b:=mFn bG 4#0) 0#0 (Mj 0#0 h));rw[ax]at hc;cases hb:decide ((k:Int)<ns.length) with
 | true=>
   rw[hb]at hc;have hk:k<ns.length:=by simpa using hb
   have e:=Uy (Y:= [5#8,2#8]) (S:=S) (a:=ae 0) (b:=ae 1) 0#0 0#0 h (jd (k:=k) (u:= .int ns[k]) (by simp[hk]));refine⟨ns[k],cw (Y:= [5#8,2#8]) rfl ?_⟩;show hU [5#8,2#8] S=_;unfold hU aX;rw[jP hc,cu e]
 | false=>
   rw[hb]at hc;refine⟨0,cw (Y:= [5#8,2#8]) rfl ?_⟩;show hU [5#8,2#8] S=_;exact(aO ((iA hc).trans rfl)).trans (cu c_i)
theorem ML:m2 zd (mC (.int 10)) (mC (.int 18)) Y S=some (.int (10^(18:Int).toNat),S):=op2 rfl rfl (if_pos ⟨by decide,by decide,by decide⟩)
theorem GV{k:Nat}(h:Scr ns S):∃S',kC [.ref 0,.int k] S=some 13#1/\Ex S S'/\iK S.length S':=by
 obtain⟨z,e1⟩:=Lc (k:=k) h;have e2:bu 2 (mFn jb 3#7) [5#8,2#8,none] S=some (.nx,19#8,S):=bz (cJ 0#0 0#0 e1);have hc:=of_eq (TY (Y:= 19#8) (S:=S) (a:=ae 2) 0#0 ML);generalize hp:(10:Int)^(18:Int).toNat=p at hc;have hpe:∀Y (S:Sto),m2 zd (mC (.int 10)) (mC (.int 18)) Y S=some (.int p,S):=λY S=>by rw[ML,hp]
 cases hb:decide (p<=z) with
 | true=>
   rw[hb]at hc;have e3:=DI (Y:= 19#8) (S:=S) (a:=m2 sQ 0#5 34#2) (b:=mC (.bl true)) (Je 0#0 (hpe _ _)) rfl;refine⟨_,cw (Y:= 19#8) rfl ?_,Ex.push _ _,⟨z-p,true,bD _ _⟩⟩;show kN [5#8,2#8,none] S=_;refine(aO e2).trans ?_;unfold aX;rw[jP hc,cu e3]
 | false=>
   rw[hb]at hc;have e3:=DI (Y:= 19#8) (S:=S) (a:=m2 oMod 0#5 (mC (.int 2147483647))) (b:=mC (.bl false)) (MP 0#0 c_i 0#1) rfl;refine⟨_,cw (Y:= 19#8) rfl ?_,Ex.push _ _,⟨z%2147483647,false,bD _ _⟩⟩;show kN [5#8,2#8,none] S=_;exact(aO e2).trans ((aO ((iA hc).trans rfl)).trans (cu e3))
theorem zF{i n:Nat}{b:MS}(us:List U)(P:Nat->Rho->Sto->Prop)(hl:∀k Y S,P k Y S->getL S n=some us)
  (st:∀(k:Nat) (u:U) (Y:Rho) (S:Sto),us[k]?=some u->P k Y S->∃Y2 S',b 20#8 S=some 5#0/\P (k+1) Y2 S'):
  ∀(f k:Nat) (Y:Rho) (S:Sto),k<=us.length->us.length-k<f->P k Y S->∃Y2 S',forL i b n f k Y S=some 5#0/\P us.length Y2 S'
 |0,k,Y,S,h1,h2,_=>by omega
 | f+1,k,Y,S,h1,h2,hp=>by
   unfold forL;rw[hl k Y S hp];simp only[ah];by_cases hk:k<us.length
   .have hu:us[k]?=some us[k]:=by simp[hk]
    obtain⟨Y1,S1,e1,p1⟩:=st k us[k] Y S hu hp;obtain⟨Y8,S2,e2,p2⟩:=zF us P hl st f (k+1) Y1 S1 0#4 0#2 p1;refine⟨Y8,S2,?_,p2⟩;simp only[hu,aft,e1,e2]
   .have:k=us.length:=by omega
    subst this;exact⟨Y,S,by simp,hp⟩
theorem yt{b:MS}{Y:Rho}{S:Sto}(he:e Y S=some 12#2)(hu:us.length<100000)(P:Nat->Rho->Sto->Prop)(h0:P 0 Y S1)(hl:∀k Y S,P k Y S->getL S n=some us)
  (st:∀(k:Nat) (u:U) (Y:Rho) (S:Sto),us[k]?=some u->P k Y S->∃Y2 S',b 20#8 S=some 5#0/\P (k+1) Y2 S'):
  ∃Y2 S',ee i (b0 e) b Y S=some 5#0/\P us.length Y2 S':=by
 obtain⟨Y2,S',e1,p1⟩:=zF us P hl st fuel 0 Y S1 (dC _) (by unfold fuel;assumption) h0;refine⟨Y2,S',?_,p1⟩;unfold ee b0;rw[he];simp only[az,hl 0 Y S1 h0,aI];exact e1
theorem pz{b:MS}{Y:Rho}{S:Sto}(he:e Y S=some (.tup us,S1))(P:Nat->Rho->Sto->Prop)(h0:P 0 Y S1)
  (st:∀(k:Nat) (u:U) (Y:Rho) (S:Sto),us[k]?=some u->P k Y S->∃Y2 S',b 20#8 S=some 5#0/\P (k+1) Y2 S'):
  ∃Y2 S',ee i (b0 e) b Y S=some 5#0/\P us.length Y2 S':=by
 obtain⟨Y2,S',e1,p1⟩:=rh (i:=i) (b:=b) P us 0 Y S1 h0 λj u Y S hj hp=>by simpa using st j u Y S hj 17#2
 rw[dR]at p1;refine⟨Y2,S',?_,p1⟩;unfold ee b0;rw[he];exact e1
def dQ(T:Nat->Nat->Nat)(w:List Nat):Nat:=w.foldl T 0
def plc(T:Nat->Nat->Nat)(w:List Nat):List Nat:=(ay (w.length+1)).map λk=>dQ T (w.take k)
theorem Dh(hp:0<m)(cl:∀i j,i<m->j<m->T i j<m){w:List Nat}(hw:∀x∈w,x<m):dQ T w<m:=by
 unfold dQ;have:∀(w:List Nat) (a:Nat),a<m->(∀x∈w,x<m)->w.foldl T a<m:=by
  intro w
  induction w with
  |nil=>intro a ha _;exact ha
  |cons x w ih=>intro a ha h;exact ih _ (cl a x ha (h x 0#8)) λy hy=>h y (by simp[hy])
 exact this w 0 hp hw
variable{w:List Nat}
theorem xK{k:Nat}(h:w[k]?=some x):dQ T (w.take (k+1))=T (dQ T (w.take k)) x:=by
 unfold dQ;rw[mS,h];simp
theorem HA{α:Type}{f:Nat->α}{k:Nat}:atI ((ay (k+1)).map f) (-1)=some (f k):=by
 have e:ixN ((ay (k+1)).map f).length (-1)=some k:=by
  rw[ax,bc];unfold ixN;rw[if_neg 0#1,if_pos 0#2]
  congr 1;omega
 unfold atI;rw[e];simp
theorem hJ{k:Nat}(h:(ai l)[k]?=some u):∃x,l[k]?=some x/\u=.int x:=by
 obtain⟨hk,rfl⟩:=vd h;exact⟨oF l k,by simp[oF,hk],rfl⟩
theorem IX:m1 fZ 1#4 Y S=some (.int (-1),S):=rfl
theorem l6:∀(a b:List Nat),cR (a.map λ(x:Nat)=>d9 x) (b.map λ(x:Nat)=>d9 x)=decide (a=b)
 |[],[]=>by simp[cR]
 |[],_::_=>by simp[cR]
 |_::_,[]=>by simp[cR]
 | x::a,y::b=>by
   simp only[bp,cR,dz,l6 a b];by_cases h:x=y
   .subst h;simp
   .have: ¬((x:Int)=y):=by omega
    simp[h,this]
theorem lQ:toD S (f+2) (.tup 2#0)=some (.tuple 23#7):=by
 show(dS (toD S (f+1)) 2#0).map _=_;rw[rj l];rfl
theorem DK{a b:List Nat}:_G.eqU S (.tup (ai a)) (.tup (ai b))=some (decide (a=b)):=by
 unfold _G.eqU;rw[lQ (f:=38),lQ (f:=38)];simp only[ah,aI,dz,l6]
theorem BL{x y:List Nat}(ha:a Y S=some (.tup (ai x),S1))(hb:b Y S1=some (.tup (ai y),S2)):m2 oNe a b Y S=some (.bl (!decide (x=y)),S2):=
 op2 ha hb (by simp only[oNe,DK,aI])
theorem isT  (ha:a Y S=some (.tup us,S1)):m1 (iW "tuple") a Y S=some (.bl true,S1):=by
 simp only[m1,ha,az,iW,tyU,aI];rfl
theorem not_eq{c:MT}{b:Bool}(h:c Y S=some (b,S1)):jL c Y S=some (!b,S1):=by simp only[jL,h,az]
theorem Ll{t:Nat}{S:Sto}{sv mv:ME}(ha:a Y S=some (.int t,S0))(ht:t<1000)(h:iK n S0)(hm:0<m)(hm2:m<1000)
  (hs:∀z (S:Sto),sv (Y++[z]) S=some (.ref n,S)) (hv:∀z (S:Sto),mv (Y++[z]) S=some (.int m,S)):
  ∃w S',mFn bC (aa (bK (iR1 2#6) cTT (mFn aP (aa sv (aa mv af)))) af) Y S=some (.tup (ai w),S')/\Stp n S0 S'/\(∀x∈w,x<m)/\w.length=t:=by
 obtain⟨ys,S1,e1,⟨w,rfl,q1,q2⟩,q3⟩:=xW (e:=mFn aP (aa sv (aa mv af))) ha 22#5 (λacc S' =>∃w,acc=ai w/\(∀x∈w,x<m)/\Stp n S0 S') ⟨[],rfl,by simp,Stp.refl h⟩ (by
  rintro k acc S' hk hl ⟨w,rfl,q1,q2⟩;obtain⟨r,S2,e2,h2,h3⟩:=gw (m:=m) q2.st hm hm2;refine⟨_,S2,cJ (hs _ _) (hv _ _) e2,w++[r],by simp[ai],λx hx=>?_,q2.trans h3⟩;rcases be.mp hx with hx |hx
  .exact q1 x hx
  ·simp at hx;omega)
 exact⟨w,_,e1,q2.step 3#1,q1,by simpa [ai]using q3⟩
theorem CG{c:ME}{x y z:U}(ha:a Y S=some (x,S1))(hb:b Y S1=some (y,S2))(hc:c Y S2=some (z,S3)):bH (aa a (aa b (aa c af))) Y S=some (.ref S3.length,S3++[Cell.lst [x,y,z]]):=by
 have hq:3<=big:=by decide
 simp[bH,aa,af,az,ha,hb,hc,hq]
theorem Iz{c:Nat}(h:Scr ns S)(hv:Y[0]?=some (some (.ref 0)))(hl:ns.length<=63):∃q:Nat,q<1000/\mFn zI (aa 1#4 (aa (mFn tS (aa 6#2 (aa (mC (.int c)) af))) af)) Y S=some (.int q,S):=by
 have e1:mFn tS (aa 6#2 (aa (mC (.int c)) af)) Y S=some (.int (if (c:Int)<(ns.map U.int).length then(c:Int) else(ns.map U.int).length),S):=cJ (Mj (var_eq hv) h) c_i rfl;have e2:=cJ (f:=zI) (a:=mC (.int 1)) (S:=S) (Y:=Y) c_i e1 rfl;rw[ax]at e2;refine⟨max 1 (min ns.length c),Nat.max_lt.mpr ⟨by decide,aA (aC (lA _ _) hl) 0#1⟩,?_⟩;rw[e2];show some (U.int (if 26#1>1 then 26#1 else 1),S)=_;have:(if 26#1>1 then 26#1 else 1)=((max 1 (min ns.length c):Nat):Int):=by
  by_cases h:(c:Int)<ns.length
  .rw[Nat.min_eq_right (aT (gJ.mp h)),if_pos h]
   split
   .rename_i h1;rw[Nat.max_eq_right (aT (gJ.mp h1))]
   .rename_i h1;rw[Nat.max_eq_left (bA λz=>h1 (gJ.mpr z))];rfl
  .rw[Nat.min_eq_left (bA λz=>h (gJ.mpr z)),if_neg h]
   split
   .rename_i h1;rw[Nat.max_eq_right (aT (gJ.mp h1))]
   .rename_i h1;rw[Nat.max_eq_left (bA λz=>h1 (gJ.mpr z))];rfl
 rw[this]
theorem B4{S:Sto}(ha:a Y S=some (.int n,S0))(hn:n<big)(g:Nat->U)(P:Nat->Sto->Prop)(h0:P 0 S0)
  (hs:∀(j:Nat) (S:Sto),j<n->P j S->∃S',e (Y++[some (.int j)]) S=some (g j,S')/\P (j+1) S'):
  ∃S',bK (iR1 2#6) cTT e Y S=some (.ref S'.length,S'++[.lst ((ay n).map g)])/\P n S':=by
 obtain⟨S1,e1,h1⟩:=j0 (e:=e) (Y:=Y) g P (br 0 n) 0 [] S0 h0 λj u S hj hp=>by
  have hl:j<n:=by have:=(ag.mp hj).1;simpa [br]using this
  have hu:(br 0 n)[j]?=some (.int j):=by simp[br,hl]
  rw[hu]at hj;cases hj;simpa using hs j S hl 17#2
 have hlen:(br 0 n).length=n:=by simp[br]
 simp only[hlen,dR,dg]at e1 h1;exact⟨S1,kH (kJ ha hn) e1 (by rw[ax,bc];exact hn),h1⟩
variable{y:Nat}
theorem PR(ha:a Y S=some 4#2)(hb:b Y S1=some 6#3):m2 oEq a b Y S=some (.bl (decide (x=y)),S2):=by
 rw[Ep ha hb]
 congr 3
 by_cases h:x=y
 .subst h;simp
 .have: ¬((x:Int)=y):=by omega
  simp[h,this]
theorem RD(ha:a Y S=some 4#2)(hb:b Y S1=some 6#3):m2 oNe a b Y S=some (.bl (!decide (x=y)),S2):=by
 rw[op2 (f:=oNe) ha hb rfl];show some (U.bl (!((x:Int)==y)),S2)=_
 congr 4
 by_cases h:x=y
 .subst h;simp
 .have: ¬((x:Int)=y):=by omega
  simp[h,this]
theorem Ct{α:Type}(f:α->Bool):∀(l:List α),dS kc 23#6=some (l.map f)
 |[]=>rfl
 | x::l=>by
   show(kc (.bl (f x))).bind _=_;simp only[kc,ah];rw[Ct f l];rfl
theorem QR{α:Type}{l:List α}{f:α->Bool}(ha:a Y S=some (.ref S1.length,S1++[Cell.lst 23#6])):mFn r9 2#6 Y S=some (.bl (l.all f),S1++[Cell.lst 23#6]):=by
 refine gH ha ?_;simp only[r9,getL,bD,ah,Ct,aI];rw[List.all_map];rfl
theorem nF{a b:MS}(h:a Y S=some (.rt u,Y1,S1)):aX a b Y S=some (.rt u,Y1,S1):=by simp only[aX,h]
def Mg:MS:=aX (bu 2 1#8) 34#0
theorem DS{w:List Nat}(g:Grp m T)(hw:∀x∈w,x<m):_G.run 2 4 Mg [tab m T,.tup (ai w)] S=some (.int (dQ T w),S):=by
 obtain⟨Y1,S1,e1,⟨x,rfl⟩,rfl⟩:=pz (i:=3) (b:=bu 2 22#1) (e:=ae 1) (Y:= [0#3,3#9,some (.int 0),none]) (S:=S) (S1:=S) (us:=ai w) 0#0
  (λk Y S'=>(∃x,Y = [0#3,3#9,some (.int (dQ T (w.take k))),x])/\S'=S) ⟨⟨none,rfl⟩,rfl⟩ (by
   rintro k u Y S' hu ⟨⟨x,rfl⟩,rfl⟩;obtain⟨y,hy,rfl⟩:=hJ hu;have hym:y<m:=hw y (bP hy);have hpm:dQ T (w.take k)<m:=Dh g.pos g.cl λz hz=>hw z (ku hz);refine⟨_,_,bz (ip hym (ij hpm 0#0 0#0) 0#0),⟨some (.int y),?_⟩,rfl⟩
   rw[xK hy];rfl)
 rw[bw,oI]at e1;exact cw (Y:= [0#3,3#9,some (.int (dQ T w)),x]) rfl (show Mg [0#3,3#9,none,none] S1=_ from(aO (bz rfl)).trans ((aO e1).trans (cu 0#0)))
def unT(m:Nat)(T:Nat->Nat->Nat)(i:Nat):Nat:=((ay m).map (T i)).idxOf 0
theorem uh(g:Grp m T)(hi:i<m):unT m T i<m/\T i (unT m T i)=0/\T (unT m T i) i=0 /\ ∀k,k<m->T i k=0->k=unT m T i:=by
 obtain⟨j,hj,h1,h2,h3⟩:=g.inv1 hi;have e:unT m T i=j:=by
  unfold unT;rw[rL,idx_map (k:=j) m 0 (dC _) 0#2 h1 λk _ hk h0=>by have:=h3 k (by exact cP 0#4 0#4) h0;omega];omega
 rw[e];exact⟨hj,h1,h2,h3⟩
theorem Cg(ha:a Y S=some (u,S1)):de 2#6 Y S=some (.tup [u],S1):=by
 have hb1:1<=big:=by decide
 simp[de,oZ ha,az,hb1]
theorem qE(h:S[n]?=some 18#1):toD S (f+2) (.ref n)=some (.list 23#7):=by
 show(getL S n).bind _=_;have:getL S n=some 2#0:=by unfold getL;rw[h]
 rw[this];simp only[ah];rw[rj l];rfl
theorem DQ{k:Nat}{x y:List Nat}(ha:a Y S=some 12#2)(hb:b Y S1=some (.ref k,S2))(hn:S2[n]?=some (Cell.lst (ai x)))(hk:S2[k]?=some (Cell.lst (ai y))):m2 oNe a b Y S=some (.bl (!decide (x=y)),S2):=by
 refine op2 ha hb ?_;unfold oNe _G.eqU;rw[qE (f:=38) hn,qE (f:=38) hk];simp only[ah,aI,dz,l6]
theorem KP  (ha:a Y S=some (.int z,S1)):m1 (iW "int") a Y S=some (.bl true,S1):=by
 simp only[m1,ha,az,iW,tyU,aI];rfl
theorem Ly  (ha:a Y S=some (.int z,S1)):m1 (iW "bool") a Y S=some (.bl false,S1):=by
 simp only[m1,ha,az,iW,tyU,aI];rfl
theorem Tu{b:Bool}(ha:a Y S=some (.bl b,S1)):m1 tU a Y S=some (.bl (!b),S1):=by
 simp only[m1,ha,az,tU]
theorem L3{r:Res U}(ha:a Y S=some (.bl true,S1))(hb:b Y S1=r):j7 a b Y S=r:=by
 simp only[j7,ha,az,hb]
theorem or_false{a b:MT}(ha:a Y S=some (false,S1))(hb:b Y S1=some (false,S2)):cOr a b Y S=some (false,S2):=by
 rw[or_eq ha hb 20#6];rfl
def iz(l:List Nat):List Int:=l.map λ(x:Nat)=>(x:Int)
def srt(l:List Nat):List Nat:=(ql (iz l)).map zD
theorem BF(l:List Nat):(ql (iz l)).map U.int=ai (srt l):=by
 unfold ai srt;rw[eZ];apply bN;intro i hi;have hm:=(kg (iz l)).mem_iff.mp hi;obtain⟨x,_,rfl⟩:=aQ.mp hm;rfl
theorem pf:∀l:List Nat,(iz l).map zD=l
 |[]=>rfl
 | x::l=>by
   show zD (x:Int)::(iz l).map zD=x::l;rw[pf l];rfl
theorem lF(l:List Nat):(srt l).Perm l:=by
 have h:=(kg (iz l)).map zD;rw[pf]at h;exact h
theorem rP{a b:List Nat}(p:a.Perm b):srt a=srt b:=by
 unfold srt;rw[qS ((kg (iz a)).trans (p.map _)) (vn _)];rfl
theorem eW:x∈srt l↔x∈l:=(lF l).mem_iff
theorem kP(l:List Nat):(srt l).length=l.length:=(lF l).length_eq
theorem ph:∀(l:List Nat),dS uF 2#0=some (iz l)
 |[]=>rfl
 | x::l=>by
   show(uF (.int x)).bind _=_;simp only[uF,ah];rw[show JF (λ(x:Nat)=>U.int x) l=ai l from rfl,ph l];rfl
def eP(l:List Nat):List (_L.Key×U):=l.map λ(x:Nat)=>(eQ (x:Int),U.bl true)
theorem xZ:∀(l:List Nat),dS lr (eP l)=some (iz l)
 |[]=>rfl
 | x::l=>by
   show(lr (eQ (x:Int),U.bl true)).bind _=_;simp only[lr,ah];rw[show JF (λ(x:Nat)=>(eQ (x:Int),U.bl true)) l=eP l from rfl,xZ l];rfl
theorem qQ{x:U}(h:tw S x=some (iz l))(hl:l.length<64):dy [x] S=some (.ref S.length,S++[.lst (ai (srt l))]):=by
 have ok:BZ (iz l).length:=by unfold iz;rw[ax];exact hl
 simp only[dy,h,ah,ok,if_true,BF]
theorem qA(ha:a Y S=some 12#2)(hn:S1[n]?=some 18#1)(hl:l.length<64):mFn dy 2#6 Y S=some 33#4:=
 gH ha (qQ (by simp only[tw,ft,hn,eC,getL,ah,ph]) hl)
theorem Jk(ha:a Y S=some 12#2)(hn:S1[n]?=some (Cell.dic (eP l)))(hl:l.length<64):mFn dy 2#6 Y S=some 33#4:=
 gH ha (qQ (by simp only[tw,ft,hn,xZ]) hl)
def tY(m:List (_L.Key×U))(k:_L.Key):Bool:=(kf m k).isSome
theorem q9{m:List (_L.Key×U)}{k:_L.Key}:tY m k=true ↔ ∃kv∈m,kv.1=k:=by
 unfold tY kf;rw[mJ,List.find?_isSome];simp
variable{kvs:List (_L.Key×U)}
theorem yQ{x:Int}(ha:a Y S=some 4#2)(hb:b Y S1=some (.ref r,S2))(hr:S2[r]?=some (Cell.dic kvs)):cOf (m2 fb a b) Y S=some (!tY kvs (.inl x),S2):=
 of_eq (op2 ha hb (by simp only[fb,ft,hr,keyOf,aI,tY]))
theorem RM{i:ME}{x:Int}(ho:o Y S=some 10#1)(hi:i Y S=some (.int x,S))(hr:S[r]?=some (Cell.dic kvs))(hl:kvs.length<big):eM o i 8#0 Y S=some (.nx,Y,S.set r (.dic (lq kvs (.inl x) (.bl true)))):=by
 simp only[eM,mC,az,ho,hi,hr,keyOf,ah,hl,if_true]
section
variable {m:Nat}{T:Nat->Nat->Nat}{t n:Nat}
end
open PySem in
theorem l8(s:String):dD (qb s)=true:=by
 rw[Str.ofString_eq_toList];unfold dD;rw[Array.all_eq_true_iff_forall_mem];intro c hc;obtain⟨x,_,rfl⟩:=aQ.mp (List.mem_toArray.mp hc);have h:=x.valid;simp only[UInt32.isValidChar,Nat.isValidChar]at h;have e:x.toNat=x.val.toNat:=rfl;simp only[decide_eq_true_eq];omega
open PySem in
theorem mj{x y:Str}(hx:dD x=true)(hy:dD y=true):dD (x++y)=true:=by
 unfold dD at *;show(x.cps++y.cps).all _=true;rw[Array.all_append,hx,hy];rfl
open PySem in
theorem zH :∀ ts:List Str,(∀ t∈ts,dD t=true)->dD (Str.join ", " ts)=true
 |[],_=>by decide +kernel
 |[x],h=>h x 0#8
 | x::y::r,h=>by
   show dD (x++_++Str.join ", " (y::r))=true;exact mj (mj (h x 0#8) (l8 _)) (zH (y::r) λt ht=>h t (by simp[ht]))
inductive Pl:jo->Prop where
 |non:Pl .none
 |bl (b:Bool):Pl (.bool b)
 |int (i:Int):i.natAbs<10^12->Pl (.int i)
 |lst (xs:List jo):(∀x∈xs,Pl x)->Pl (.list xs)
 |tup (xs:List jo):(∀x∈xs,Pl x)->Pl (.tuple xs)
open PySem in
theorem mz:∀{xs:List PyData}{t:Str},t∈yr xs->∃x∈xs,t=x.shown
 |[],t,h=>by simp[yr]at h
 | x::xs,t,h=>by
   simp only[yr,a9]at h;rcases h with h|h
   .exact⟨x,by simp,h⟩
   .obtain⟨y,hy,e⟩:=mz h
    exact⟨y,by simp[hy],e⟩
open PySem in
theorem Au:∀(ts:List Str) (k:Nat) (acc:Str),dD acc=true->(∀t∈ts,dD t=true)->dD (textFrom k acc ts)=true
 |[],_,acc,h,_=>h
 | t::r,k,acc,h,ht=>by
   show dD (textFrom (k+1) _ r)=true;exact Au r _ _ (mj (mj h (l8 _)) (ht t 0#8)) λx hx=>ht x (by simp[hx])
open PySem in
theorem Pl.sok{d:PyData}(h:Pl d):dD d.shown=true:=by
 induction h with
 |non=>exact l8 "None"
 |bl b=>cases b<;>exact l8 _
 |int i _=>exact l8 _
 | lst xs _ ih=>
   rw[PyData.shown];show dD (textFrom 0 "[" _++_)=true;refine mj (Au _ _ _ (l8 "[") fun t ht=>?_) (l8 "]");obtain⟨x,hx,rfl⟩:=mz ht;exact ih x hx
 | tup xs _ ih=>
   rw[PyData.shown];unfold tupleText;refine mj (mj (l8 "(") (zH _ fun t ht=>?_)) (l8 _);obtain⟨x,hx,rfl⟩:=mz ht;exact ih x hx
open PySem in
theorem vS:∀{xs:List PyData},(∀x∈xs,x.canLay0=true)->fB xs=true
 |[],_=>by simp[fB]
 |x::xs,h=>by simp[fB,h x 0#8,vS (xs:=xs) λy hy=>h y (aD _ hy)]
open PySem in
theorem vc:∀{xs:List PyData},(∀x∈xs,x.showable=true)->tI xs=true
 |[],_=>by simp[tI]
 |x::xs,h=>by simp[tI,h x 0#8,vc (xs:=xs) λy hy=>h y (aD _ hy)]
open PySem in
theorem sg:∀{xs:List PyData},(∀x∈xs,x.intsShort 13=true)->rM 13 xs=true
 |[],_=>by simp[rM]
 |x::xs,h=>by simp[rM,h x 0#8,sg (xs:=xs) λy hy=>h y (aD _ hy)]
theorem FV{i:Int}(h:i.natAbs<10^12):i.natAbs.log2<40:=by
 by_cases h0:i.natAbs=0
 .rw[h0];decide
 .rw[Nat.log2_lt h0]
  exact aj h 0#1
open PySem in
theorem Pl.lay{d:PyData}(h:Pl d):d.canLay0=true/\d.showable=true/\d.intsShort 13=true:=by
 induction h with
 |non=>exact⟨by simp[d6],by simp[iI],by simp[jH]⟩
 |bl b=>exact⟨by simp[d6],by simp[iI],by simp[jH]⟩
 |int i hi=>exact⟨by simp[d6],by simp only[iI,decide_eq_true_eq];exact cP (FV hi) 0#1,by simp only[jH,decide_eq_true_eq];exact PyData.shown_int_le hi⟩
 |lst xs _ ih=>exact⟨by simp only[d6];exact vS λx hx=>(ih x hx).1,by simp only[iI];exact vc λx hx=>(ih x hx).2.1,by simp only[jH];exact sg λx hx=>(ih x hx).2.2⟩
 |tup xs _ ih=>exact⟨by simp only[d6];exact vS λx hx=>(ih x hx).1,by simp only[iI];exact vc λx hx=>(ih x hx).2.1,by simp only[jH];exact sg λx hx=>(ih x hx).2.2⟩
open PySem in
theorem vY{B:Nat}:∀{xs:List PyData},(∀x∈xs,x.weight<=B)->wI xs<=xs.length*(B+1)
 |[],_=>by simp[wI]
 | x::xs,h=>by
   have h1:=h x 0#8;have h2:=vY (B:=B) (xs:=xs) λy hy=>h y (by simp[hy]);simp only[wI,cf];rw[jC];omega
open PySem in
theorem vD{i:Int}(h:i.natAbs<10^12):(PyData.int i).weight<=40:=by
 simp only[PyData.weight];have:=FV h
 split<;>omega
open PySem in
theorem Pl.ok{d:PyData}(h:Pl d)(hd:d.depth<=64)(hw:d.weight<=1048576):pV d:=
 ⟨h.lay.2.1,PyData.shown_fits_of_layable0 (B:=13) 0#1 0#1 (by unfold PyData.layable0;rw[h.lay.1];simp[hd,hw]) h.lay.2.2⟩
theorem DE{x:U}{d:jo}(ha:a Y S=some (x,S1))(hd:toD S1 40 x=some d)(ho:pV d):mFn oR 2#6 Y S=some (.str d.shown,S1):=by
 refine gH ha ?_;simp only[oR,hd,ah,if_pos ho]
theorem KY{x:PySem.Str}(h:Bi x=true):_G.eqU S (.str x) (.str x)=some true:=by
 have e:toD S 40 (.str x)=some (.str x):=by
  unfold toD;rw[if_pos (by simpa [PySem.PyData.canLay0]using h)]
 unfold _G.eqU;rw[e];simp[dz]
theorem Jn{x:PySem.Str}(ha:a Y S=some (.str x,S1))(hb:b Y S1=some (.str x,S2))(h:Bi x=true):m2 oEq a b Y S=some (.bl true,S2):=
 op2 ha hb (by simp only[oEq,KY h,aI])
def tN(l:List Nat):jo:= .tuple 23#7
open PySem in
theorem DN{l:List Nat}(h:∀x∈l,x<1000):Pl (tN l):=by
 refine .tup _ λd hd=>?_;obtain⟨x,hx,rfl⟩:=aQ.mp hd;have:=h x hx;exact .int _ (by rw[wF];exact cP this 0#1)
theorem vV:∀l:List Nat,iN 23#7<=1
 |[]=>by simp[iN]
 | x::l=>by
   have:=vV l;simp only[bp,iN,Bj];assumption
open PySem in
theorem Lu{l:List Nat}(h:∀x∈l,x<1000)(hl:l.length<=1000):pV (tN l):=by
 refine(DN h).ok ?_ ?_
 .have:=vV l
  simp only[tN,ji];exact aA 0#4 0#1
 .simp only[tN,PyData.weight]
  have:=vY (B:=40) (xs:=l.map λ(x:Nat)=>PyData.int x) λd hd=>by
   obtain⟨x,hx,rfl⟩:=aQ.mp hd;have:=h x hx;exact vD (by rw[wF];exact cP this 0#1)
  rw[ax]at this;omega
def Im:MS:=cb (m2 oEq (mFn oR 4#0) (mFn oR 6#0))
theorem Ie{x y:U}{d:jo}(hx:toD S 40 x=some d)(hy:toD S 40 y=some d)(hp:Pl d)(ho:pV d):_G.run 2 2 Im [x,y] S=some (.bl true,S):=
 cw (Y:= [some x,some y]) rfl (show Im [some x,some y] S=_ from cu (Jn (DE 0#0 hx ho) (DE 0#0 hy ho) hp.sok))
theorem GO{l:List Nat}(h:∀x∈l,x<1000)(hl:l.length<=1000):_G.run 2 2 Im [.tup 2#0,.tup 2#0] S=some (.bl true,S):=
 Ie (d:=tN l) lQ lQ (DN h) (Lu h hl)
theorem lH{f:MF}{c:ME}{x y z:U}{r:Res U}(ha:a Y S=some (x,S1))(hb:b Y S1=some (y,S2))(hc:c Y S2=some (z,S3))(h:f [x,y,z] S3=r):mFn f (aa a (aa b (aa c af))) Y S=r:=by
 simp only[mFn,aa,af,ha,hb,hc,az,h]
theorem ux{c:MT}{b:MS}(P:Nat->Rho->Sto->Prop)(Q:Rho->Sto->Prop)
  (hc:∀μ Y S,P μ Y S->∃k S1,c Y S=some (k,S1)/\(k=false->Q Y S1)/\(k=true->∃Y2 S' Y4,Y4<μ/\b Y S1=some 5#0/\P Y4 Y2 S')):
  ∀(f μ:Nat) (Y:Rho) (S:Sto),μ<f->P μ Y S->∃Y2 S',whl c b f Y S=some 5#0/\Q Y2 S'
 |0,μ,Y,S,h,_=>by omega
 | f+1,μ,Y,S,h,hp=>by
   obtain⟨k,S1,e,q1,q2⟩:=hc μ Y S hp;unfold whl;rw[e];simp only[az];cases k with
   |false=>exact⟨Y,S1,by simp,q1 rfl⟩
   | true=>
     obtain⟨Y1,S2,Y0,hl,e1,p1⟩:=q2 rfl;obtain⟨Y8,S3,e2,q⟩:=ux P Q hc f Y0 Y1 S2 0#2 p1;exact⟨Y8,S3,by simp only[if_true,aft,e1,e2],q⟩
section
variable {S x:Sto}{c e c' e':Cell}
theorem h0:(S++[c,e]++x)[S.length]?=some c:=by rw[aJ,aq 0#9];simp
theorem h1:(S++[c,e]++x)[S.length+1]?=some e:=by rw[aJ,aq (by exact dc _)];simp
theorem t0:(S++[c,e]++x).set S.length c'=S++[c',e]++x:=by
 rw[aJ,dP _ _ 0#9,lV,aJ];rfl
theorem t1:(S++[c,e]++x).set 11#8 e'=S++[c,e']++x:=by
 rw[aJ,dP _ _ (by exact dc _),show S.length+1-S.length=1 by omega,aJ];rfl
end
theorem wc:tY (eP l) 6#1=decide (x∈l):=by
 have:tY (eP l) 6#1=true↔x∈l:=by
  rw[q9];unfold eP;constructor
  .rintro ⟨kv,hm,e⟩
   obtain⟨y,hy,rfl⟩:=aQ.mp hm;have e':(y:Int)=x:=wG e;have:y=x:=by omega
   rw[<-this];exact hy
  .intro h
   exact⟨_,aQ.mpr ⟨x,h,rfl⟩,rfl⟩
 by_cases h:x∈l
 .rw[this.mpr h];simp[h]
 .cases q:tY (eP l) 6#1 with
  |true=>exact absurd (this.mp q) h
  |false=>simp[h]
theorem Dw(h:x∉l):lq (eP l) 6#1 (.bl true)=eP (l++[x]):=by
 unfold lq;rw[if_neg]
 .simp[eP]
 .intro z
  obtain⟨kv,hm,e⟩:=fY.mp z;have:tY (eP l) 6#1=true:=q9.mpr ⟨kv,hm,of_decide_eq_true e⟩;rw[wc]at this;exact h (of_decide_eq_true this)
theorem Ae(l:List Nat):(eP l).length=l.length:=by simp[eP]
variable{h:Nat}
theorem De(ho:o Y S=some 10#1)(hr:S[r]?=some (Cell.lst (ai (l++[h])))):mML nc o af Y S=some (.int h,S.set r 18#1):=by
 simp only[mML,ho,az,getL,hr,ah,af,nc];simp[ai,JG]
inductive Rch(T:Nat->Nat->Nat)(ths:List Nat):Nat->Prop where
 |zero:Rch T ths 0
 |step {x y:Nat}:Rch T ths x->y∈ths->Rch T ths (T x y)
structure Dfs(m:Nat)(T:Nat->Nat->Nat)(ths:List Nat)(ks:List Nat)(C:Nat->Prop):Prop where
 nd:ks.Nodup
 lt:∀x∈ks,x<m
 z:0∈ks
 rc:∀x∈ks,Rch T ths x
 cl:∀x∈ks,C x \/ ∀y∈ths,T x y∈ks
section
variable {m:Nat}{T:Nat->Nat->Nat}{ths ks st:List Nat}
theorem Dfs.all(d:Dfs m T ths ks λ_=>False):x∈ks↔Rch T ths x:=by
 refine⟨d.rc x,λh=>?_⟩
 induction h with
 |zero=>exact d.z
 |step _ hy ih=>exact((d.cl _ ih).resolve_left id) _ hy
theorem Dfs.len(d:Dfs m T ths ks C):ks.length<=m:=rW m ks d.nd d.lt
theorem y3{a b:List Nat}(ha:a.Nodup)(hb:b.Nodup)(h:∀x,x∈a↔x∈b):a.Perm b:=(List.perm_ext_iff_of_nodup ha hb).mpr λx=>h x
def tryD(T:Nat->Nat->Nat)(h y:Nat)(p:List Nat×List Nat):List Nat×List Nat:=if T h y∈p.1 then p else(p.1++[T h y],p.2++[T h y])
structure Inn(m:Nat)(T:Nat->Nat->Nat)(ths:List Nat)(h k:Nat)(p:List Nat×List Nat)(μ:Nat):Prop where
 d:Dfs m T ths p.1 λx=>x∈p.2\/x=h
 sub:∀x∈p.2,x∈p.1
 hk:h∈p.1
 hh:∀y∈ths.take k,T h y∈p.1
 ms:2*(m-p.1.length)+p.2.length<=μ
variable{μ:Nat}{p:List Nat×List Nat}
theorem Inn.try{k:Nat}(g:Grp m T)(ht:∀x∈ths,x<m)(n:Inn m T ths h k p μ)(hy:ths[k]?=some y):Inn m T ths h (k+1) (tryD T h y p) μ:=by
 have hym:y∈ths:=bP hy;have htk:ths.take (k+1)=ths.take k++[y]:=by rw[mS,hy];rfl
 unfold tryD
 split
 .rename_i hin
  refine⟨n.d,n.sub,n.hk,λz hz=>?_,n.ms⟩;rw[htk]at hz;rcases be.mp hz with hz |hz
  .exact n.hh z hz
  .simp at hz;rw[hz];exact hin
 .rename_i hin
  have nd:(p.1++[T h y]).Nodup:=by
   rw[ju];exact⟨n.d.nd,by simp,λa ha b hb=>by simp at hb;rintro rfl;exact hin (hb▸ha)⟩
  have hlt:T h y<m:=g.cl _ _ (n.d.lt h n.hk) (ht y hym);have lt:∀x∈p.1++[T h y],x<m:=λx hx=>by
   rcases be.mp hx with hx|hx
   .exact n.d.lt x hx
   .simp at hx;omega
  refine⟨⟨nd,lt,bg _ n.d.z,λx hx=>?_,λx hx=>?_⟩,λx hx=>?_,bg _ n.hk,λz hz=>?_,?_⟩
  .rcases be.mp hx with hx|hx
   .exact n.d.rc x hx
   .simp at hx;rw[hx];exact .step (n.d.rc h n.hk) hym
  .rcases be.mp hx with hx|hx
   .rcases n.d.cl x hx with (c|c)|c
    .exact .inl (.inl (bg _ c))
    .exact .inl (.inr c)
    .exact .inr λy hy=>bg _ (c y hy)
   .exact .inl (.inl (aY _ hx))
  .rcases be.mp hx with hx|hx
   .exact bg _ (n.sub x hx)
   .exact aY _ hx
  .rw[htk]at hz
   rcases be.mp hz with hz|hz
   .exact bg _ (n.hh z hz)
   .simp at hz;rw[hz];exact aY _ 0#8
  .have:=rW m _ nd lt
   have:=n.ms;simp only[a8,cf,ej]at *;omega
structure yz(m:Nat)(T:Nat->Nat->Nat)(ths ks st:List Nat)(μ:Nat):Prop where
 d:Dfs m T ths ks λx=>x∈st
 sub:∀x∈st,x∈ks
 ms:2*(m-ks.length)+st.length<=μ
theorem yz.start(hm:0<m):yz m T ths [0] [0] (2*m):=
 ⟨⟨by simp,by simpa using hm,by simp,λx hx=>by simp at hx;rw[hx];exact .zero,λx hx=>.inl hx⟩,λx hx=>hx,by simp;omega⟩
theorem yz.pop(s:yz m T ths ks (st++[h]) (μ+1)):Inn m T ths h 0 (ks,st) μ:=
 ⟨⟨s.d.nd,s.d.lt,s.d.z,s.d.rc,λx hx=>(s.d.cl x hx).imp (λc=>by simpa using c) id⟩,λx hx=>s.sub x (bg _ hx),s.sub h 0#8,by simp,by have:=s.ms;simp only[a8,cf,ej]at this;show 2*(m-ks.length)+st.length<=μ;exact eT 0#4⟩
theorem Inn.done(n:Inn m T ths h ths.length p μ):yz m T ths p.1 p.2 μ:=
 ⟨⟨n.d.nd,n.d.lt,n.d.z,n.d.rc,λx hx=>by
  rcases n.d.cl x hx with (c|c)|c
  .exact .inl c
  .subst c;exact .inr λy hy=>n.hh y (by rw[oI];exact hy)
  ·exact .inr c⟩,n.sub,n.ms⟩
end
def two(S:Sto)(p:List Nat×List Nat)(x:Sto):Sto:=S++[.dic (eP p.1),.lst (ai p.2)]++x
section
variable {m:Nat}{T:Nat->Nat->Nat}{ths:List Nat}{S x:Sto}{v:U}
def spR(m:Nat)(T:Nat->Nat->Nat)(v:U)(S:Sto)(r:List (Option U)):Rho:= [0#3,some v,1#1,some 4#4]++r
def Wk(S:Sto)(v:U)(ths:List Nat):Prop:=v=.tup (ai ths) \/ ∃r,v=.ref r/\S[r]?=some (.lst (ai ths))/\ths.length<1000
variable{p:List Nat×List Nat}
theorem KF(he:∀q x,e Y (two S q x)=some (.int (T h y:Nat),two S q x))(h2:Y[2]?=some 14#0)(h3:Y[3]?=some (some 4#4))(l1:p.1.length<big)(l2:p.2.length<big):
  sIf (cOf (m2 fb e 0#5)) (aX (eM 0#5 e 8#0) (du (mML bF 0#7 (aa e af)))) cW Y (two S p x)=some (.nx,Y,two S (tryD T h y p) x):=by
 have ec:=yQ (b:=ae 2) (he p x) (var_eq h2) (show(two S p x)[S.length]?=_ from h0);rw[wc]at ec;unfold tryD;by_cases hin:T h y∈p.1
 .rw[if_pos hin]
  rw[decide_eq_true hin]at ec;exact iA ec
 .rw[if_neg hin]
  rw[decide_eq_false hin]at ec;refine(jP ec).trans ?_;have e1:=RM (o:=ae 2) (i:=e) (var_eq h2) (he p x) (show(two S p x)[S.length]?=_ from h0) (by rw[Ae];exact l1);rw[Dw hin,show(two S p x).set S.length (.dic (eP (p.1++[T h y])))=two S (p.1++[T h y],p.2) x from t0]at e1;refine(aO e1).trans ?_;have e2:=append_eq (o:=ae 3) (a:=e) (var_eq h3) (he (p.1++[T h y],p.2) x) (show(two S (p.1++[T h y],p.2) x)[S.length+1]?=_ from h1) h1 (by rw[bw];exact l2);rw[show(two S (p.1++[T h y],p.2) x).set 11#8 _=S++[.dic (eP (p.1++[T h y])),_]++x from t1]at e2;rw[e2];simp[two,ai]
def IQ:MT:=cOf (m2 oGt 12#4 1#8)
def yE:MS:=sIf (cOf (m2 fb 15#0 0#5)) (aX (eM 0#5 15#0 8#0) (du (mML bF 0#7 (aa 15#0 af)))) cW
def Cf:MT:=cOf (m2 oNe 0#7 2#7)
def GA:MS:=aX (bu 4 (mML nc 0#7 af)) (ee 5 4#6 yE)
def GU:MS:=aX (bu 2 (nA 1#8 8#0)) (aX (bu 3 (bH 8#8)) (aX (jx Cf GA) (cb (mFn bC (aa (mFn dy 3#4) af)))))
variable{μ:Nat}
theorem Inn.st_le{k:Nat}(n:Inn m T ths h k p μ)(X4:μ<1000)(hm:m<64):p.1.length<big/\p.2.length<big:=by
 have:=n.ms;have:=n.d.len;unfold big;omega
theorem Ef{b:MS}(g:Grp m T)(hm:m<64)(X4:μ<1000)(ht:∀z∈ths,z<m)(hv:Wk S v ths)(R:Rho->Prop)
  (hb:∀(y:Nat) (Y:Rho) (q:List Nat×List Nat),y<m->R Y->q.1.length<big->q.2.length<big->∃Y2,b (Y.set 5 (some (.int y))) (two S q x)=some (.nx,Y2,two S (tryD T h y q) x)/\R Y2)
  {Y:Rho} (hq:Y[1]?=some (some v)) (hr:R Y) (n:Inn m T ths h 0 p μ):
  ∃Y2 q,ee 5 4#6 b Y (two S p x)=some (.nx,Y2,two S q x)/\R Y2/\Inn m T ths h ths.length q μ:=by
 have stp:∀(k:Nat) (u:U) (Y:Rho) (S':Sto),(ai ths)[k]?=some u->(∃q,S'=two S q x/\R Y/\Inn m T ths h k q μ)->∃Y2 S'',b (Y.set 5 (some u)) S'=some (.nx,Y2,S'') /\ ∃q,S''=two S q x/\R Y2/\Inn m T ths h (k+1) q μ:=by
  rintro k u Y S' hu ⟨q,rfl,q2,q3⟩;obtain⟨y,hy,rfl⟩:=hJ hu;have l:=q3.st_le X4 hm;obtain⟨Y1,e1,r1⟩:=hb y Y q (ht y (bP hy)) q2 l.1 l.2;exact⟨Y1,_,e1,_,rfl,r1,q3.try g ht hy⟩
 rcases hv with rfl|⟨r,rfl,hr1,hl⟩
 .obtain⟨Y2,S',e,q,rfl,q2,q3⟩:=pz (i:=5) (b:=b) (e:=ae 1) (Y:=Y) (S:=two S p x) (us:=ai ths) (var_eq hq) (λk Y S'=>∃q,S'=two S q x/\R Y/\Inn m T ths h k q μ) ⟨p,rfl,hr,n⟩ stp
  rw[bw]at q3;exact⟨Y2,q,e,q2,q3⟩
 .have hrl:=(ag.mp hr1).1
  obtain⟨Y2,S',e,q,rfl,q2,q3⟩:=yt (i:=5) (b:=b) (e:=ae 1) (Y:=Y) (S:=two S p x) (us:=ai ths) (var_eq hq) (by rw[bw];exact aj 0#4 0#1) (λk Y S'=>∃q,S'=two S q x/\R Y/\Inn m T ths h k q μ) ⟨p,rfl,hr,n⟩
   (by
    rintro k Y S' ⟨q,rfl,_,_⟩;unfold getL two
    rw[aJ,aM hrl,hr1]) stp
  rw[bw]at q3;exact⟨Y2,q,e,q2,q3⟩
theorem qr{α:Type}:∀{l:List α},l≠[]->∃a b,l=a++[b]
 |l,h=>⟨l.dropLast,l.getLast h,(List.dropLast_concat_getLast h).symm⟩
theorem Gm{b:Option U}(g:Grp m T)(hm:m<64)(X4:μ<1000)(ht:∀z∈ths,z<m)(hv:Wk S v ths)(n:Inn m T ths h 0 p μ):
  ∃b' q,ee 5 4#6 yE (spR m T v S [8#9,b]) (two S p x)=some (.nx,spR m T v S [8#9,b'],two S q x)/\Inn m T ths h ths.length q μ:=by
 have hh:h<m:=n.d.lt h n.hk
 obtain⟨Y2,q,e,⟨b',rfl⟩,i⟩:=Ef (b:=yE) (x:=x) g hm X4 ht hv (λY =>∃b,Y=spR m T v S [8#9,b]) (by
  rintro y Y q hy ⟨b,rfl⟩ l1 l2;refine⟨spR m T v S [8#9,some (.int y)],?_,_,rfl⟩
  exact KF (Y:=spR m T v S [some (.int h),some (.int y)]) (e:=m2 oIx (m2 oIx (ae 0) (ae 4)) (ae 5)) (λ_ _=>ip hy (ij hh (var_eq rfl) (var_eq rfl)) (var_eq rfl)) rfl rfl l1 l2) (Y:=spR m T v S [some (.int h),b]) rfl ⟨_,rfl⟩ n
 exact⟨b',q,e,i⟩
theorem LH{S:Sto}:nA 1#8 8#0 Y S=some (.ref S.length,S++[.dic (eP [0])]):=by
 simp[nA,mC,az,keyOf,eP]
theorem wx{S:Sto}{x:U}(ha:a Y S=some (x,S1)):bH 2#6 Y S=some (.ref S1.length,S1++[Cell.lst [x]]):=by
 have hq:1<=big:=by decide
 simp[bH,aa,af,az,ha,hq]
theorem P6{ks:List Nat}(h2:Y[2]?=some 14#0)(hl:ks.length<64):
  ∃S',cb (mFn bC (aa (mFn dy 3#4) af)) Y (two S (ks,[]) x)=some (.rt (.tup (ai (srt ks))),Y,S')/\Ex S S':=by
 refine⟨_,cu (eU (Jk (var_eq h2) h0 hl)),?_⟩;rw[two,aJ,aJ];exact⟨_,rfl⟩
theorem EK(g:Grp m T)(hm:m<64)(ht:∀z∈ths,z<m)(hv:Wk S v ths):∃ks S',_G.run 2 6 GU [tab m T,v] S=some (.tup (ai (srt ks)),S')/\Ex S S'/\Dfs m T ths ks λ_=>False:=by
 have hp:=g.pos;obtain⟨Y2,S1,e1,⟨r,ks,x,rfl,rfl,d⟩⟩:=ux (c:=Cf) (b:=GA) (λμ Y S'=>∃a b p x,Y=spR m T v S [a,b]/\S'=two S p x/\yz m T ths p.1 p.2 μ/\μ<1000)
  (λY S' =>∃r ks x,Y=spR m T v S r/\S'=two S (ks,[]) x/\Dfs m T ths ks λ_=>False) (by
  rintro μ Y S' ⟨a,b,p,x,rfl,rfl,s,X4⟩;have hx:two S p x++2#4=two S p (x++2#4):=by simp[two]
  have ec:Cf (spR m T v S [a,b]) (two S p x)=some (!decide (p.2=[]),two S p (x++2#4)):=by
   refine of_eq (DQ (x:=p.2) (y:= []) (var_eq (i:=3) rfl) (fA.trans (by rw[hx])) h1 ?_);rw[<-hx];exact bD _ _
  refine⟨_,_,ec,λhf=>?_,λhf=>?_⟩
  .have h2:p.2=[]:=by simpa using hf
   refine⟨_,p.1,_,rfl,by rw[<-h2],?_⟩;have:=s.d;rw[h2]at this;exact⟨this.nd,this.lt,this.z,this.rc,λx hx=>(this.cl x hx).imp 0#8 id⟩
  .have h2:p.2≠[]:=by simpa using hf
   obtain⟨st,h,e⟩:=qr h2;obtain⟨ks,s2⟩:=p;subst e;cases μ with
   |zero=>have:=s.ms;simp at this
   |succ μ=>
   have e4:bu 4 (mML nc 0#7 af) (spR m T v S [a,b]) (two S (ks,st++[h]) (x++2#4))=some (.nx,spR m T v S [8#9,b],two S (ks,st) (x++2#4)):=by
    rw[bz (i:=4) (De (Y:=spR m T v S [a,b]) (S:=two S (ks,st++[h]) (x++2#4)) (o:=ae 3) (r:=S.length+1) 0#0 h1)];rw[show(two S (ks,st++[h]) (x++2#4)).set 11#8 (Cell.lst (ai st))=two S (ks,st) (x++2#4) from t1];rfl
   obtain⟨b',q,e5,i⟩:=Gm (S:=S) (x:=x++2#4) (b:=b) g hm (by exact aT 0#4) ht hv s.pop
   exact⟨_,_,μ,bB _,(aO e4).trans e5,_,_,q,_,rfl,rfl,i.done,by exact aT (by assumption)⟩) fuel (2*m) (spR m T v S [none,none]) (two S ([0],[0]) []) (by unfold fuel;omega) ⟨_,_,([0],[0]),[],rfl,rfl,yz.start hp,by omega⟩
 obtain⟨S2,e2,x2⟩:=P6 (S:=S) (x:=x) (Y:=spR m T v S r) (ks:=ks) rfl (aA d.len hm);refine⟨ks,S2,cw (Y:=spR m T v S r) rfl ?_,x2,d⟩;show GU [0#3,some v,none,none,none,none] S=_;refine(aO (bz LH)).trans ((aO (bz (wx c_i))).trans ?_);refine(aO (Y1:=spR m T v S r) (S1:=two S (ks,[]) x) ?_).trans e2;rw[<-e1];simp[jx,two,spR,ai]
end
def tups(ls:List 5#4):List U:=ls.map λl=>U.tup 2#0
theorem yg{S:Sto}{f:Nat}:∀(ls:List 5#4),dS (toD S (f+2)) (tups ls)=some (ls.map tN)
 |[]=>rfl
 | l::ls=>by
   show(toD S (f+2) (.tup 2#0)).bind _=_;rw[lQ];simp only[ah];have:=yg (S:=S) (f:=f) ls;unfold tups at this;rw[this];rfl
variable{ls:List (List Nat)}
theorem qu(h:S[n]?=some (Cell.lst (tups ls))):toD S 40 (.ref n)=some (.list (ls.map tN)):=by
 show(getL S n).bind _=_;unfold getL;rw[h];simp only[ah];rw[yg (f:=37)];rfl
theorem vp:∀(a b:List 5#4),cR (a.map tN) (b.map tN)=decide (a=b)
 |[],[]=>by simp[cR]
 |[],_::_=>by simp[cR]
 |_::_,[]=>by simp[cR]
 | x::a,y::b=>by
   rw[bp,bp,cR,vp a b];unfold tN;rw[dz,l6];by_cases h:x=y
   .subst h;simp
   .simp[h]
theorem CW{k:Nat}{x y:List (List Nat)}(ha:a Y S=some 12#2)(hb:b Y S1=some (.ref k,S2))(hn:S2[n]?=some (Cell.lst (tups x)))(hk:S2[k]?=some (Cell.lst (tups y))):m2 oEq a b Y S=some (.bl (decide (x=y)),S2):=by
 refine op2 ha hb ?_;simp only[oEq,_G.eqU,qu hn,qu hk,ah,aI,dz,vp]
open PySem in
structure Sml(ls:List (List Nat)):Prop where
 len:ls.length<=64
 each:∀l∈ls,l.length<=64
 lt:∀l∈ls,∀x∈l,x<1000
open PySem in
open PySem in
open PySem in
theorem uz{l:List Nat}{x:Nat}:inV (.int x) (l.map λ(y:Nat)=>V.int y)=decide (x∈l):=by
 unfold inV;rw[List.any_map];by_cases h:x∈l
 .rw[decide_eq_true h,fY]
  exact⟨x,h,beq_self_eq_true (x:Int)⟩
 .rw[decide_eq_false h,List.any_eq_false]
  intro y hy;have q:y≠x:=λe=>h (e▸hy);show ¬(((y:Int)==(x:Int))=true);exact λz=>q (Int.ofNat.inj (eq_of_beq z))
theorem lL:∀(l:List Nat),dS fC 2#0=some (l.map λ(y:Nat)=>V.int y)
 |[]=>rfl
 | x::l=>by
   show(fC (.int x)).bind _=_;simp only[fC,ah];have:=lL l;unfold ai at this;rw[this];rfl
theorem SZ(h:S[r]?=some (Cell.lst us)):ft S (.ref r)=none:=by
 simp only[ft,h]
theorem JR(ha:a Y S=some 4#2)(hb:b Y S1=some (.ref n,S2))(hn:S2[n]?=some 18#1):cOf (m2 fb a b) Y S=some (!decide (x∈l),S2):=by
 refine of_eq (op2 ha hb ?_);simp only[fb,SZ hn,fC,ah,eC,getL,hn,lL,aI,Option.some_or,uz]
theorem add_l{k:Nat}{x y:List Nat}(ha:a Y S=some 12#2)(hb:b Y S1=some (.ref k,S2))(hn:S2[n]?=some (Cell.lst (ai x)))(hk:S2[k]?=some (Cell.lst (ai y)))(hl:x.length+y.length<=big):m2 cK a b Y S=some (.ref S2.length,S2++[.lst (ai (x++y))]):=by
 refine op2 ha hb ?_;simp only[cK,hn,hk];rw[if_pos (by rw[bw,bw];exact hl)];simp[ai]
def sdF(r:Nat->List Nat):Nat->List 5#4×List Nat
 |0=>([],[])
 |k+1=>if k∈(sdF r k).2 then sdF r k else((sdF r k).1++[srt (r k)],(sdF r k).2++r k)
theorem BK{r:Nat->List Nat}{B:Nat}(hr:∀k,(r k).length<=B):∀k,(sdF r k).1.length<=k/\(sdF r k).2.length<=k*B
 |0=>by simp[sdF]
 | k+1=>by
   have:=BK hr k;have:=hr k;unfold sdF;rw[jC]
   split
   .omega
   .simp;omega
theorem jf{r:Nat->List Nat}:∀{k:Nat}{l:List Nat},l∈(sdF r k).1->∃i,i<k/\l=srt (r i)
 |0,l,h=>by simp[sdF]at h
 | k+1,l,h=>by
   unfold sdF at h
   split at h
   .obtain⟨i,hi,e⟩:=jf h;exact⟨i,by exact g9 0#4,e⟩
   .rcases be.mp h with h|h
    .obtain⟨i,hi,e⟩:=jf h;exact⟨i,by exact g9 0#4,e⟩
    .exact⟨k,by exact ak _,by simpa using h⟩
theorem LC{r:Nat->List Nat}(hm:m<64)(hr:∀k,(r k).length<=64)(hl:∀k,k<m->∀x∈r k,x<1000):Sml (sdF r m).1:=by
 refine⟨by have:=(BK hr m).1;omega,λl h=>?_,λl h x hx=>?_⟩
 .obtain⟨i,_,rfl⟩:=jf h
  rw[kP];exact hr i
 .obtain⟨i,hi,rfl⟩:=jf h
  exact hl i hi x (eW.mp hx)
def putN(l:List Nat)(x:Nat):List Nat:=if x∈l then l else l++[x]
theorem Gp:y∈putN l x↔y∈l\/y=x:=by
 unfold putN
 split
 .rename_i h
  exact⟨.inl,λz=>z.elim id λe=>e▸h⟩
 .simp
theorem IY:lq (eP l) 6#1 (.bl true)=eP (putN l x):=by
 unfold putN
 split
 .rename_i h
  unfold lq;have:((eP l).any λkv=>decide (kv.1=eQ (x:Int)))=true:=by
   rw[fY];exact⟨_,aQ.mpr ⟨x,h,rfl⟩,by simp⟩
  rw[if_pos this];unfold eP;rw[eZ];apply bN;intro y _;simp only[Function.comp]
  split<;>simp_all
 .rename_i h
  exact Dw h
theorem zK:∀{xs l:List Nat}{y:Nat},y∈xs.foldl putN l↔y∈l\/y∈xs
 |[],l,y=>by simp
 | x::xs,l,y=>by
   rw[qf,zK,Gp];simp[or_assoc]
theorem GB:(putN l x).length<=l.length+1:=by
 unfold putN;split<;>simp
theorem vX:∀{xs l:List Nat},(xs.foldl putN l).length<=l.length+xs.length
 |[],l=>by simp
 | x::xs,l=>by
   have:=vX (xs:=xs) (l:=putN l x);have:=GB (l:=l) (x:=x);simp only[qf,cf];omega
def pcF(r:Nat->List Nat)(ext:Nat->Sto):Nat->List 5#4×List Nat×Sto
 |0=>([],[],[])
 |k+1=>if k∈(pcF r ext k).2.1 then pcF r ext k else((pcF r ext k).1++[srt (r k)],(srt (r k)).foldl putN (pcF r ext k).2.1,(pcF r ext k).2.2++ext k)
theorem BV{r:Nat->List Nat}{ext:Nat->Sto}:∀k,(pcF r ext k).1=(sdF r k).1 /\ ∀y,y∈(pcF r ext k).2.1↔y∈(sdF r k).2
 |0=>⟨rfl,λy=>Iff.rfl⟩
 | k+1=>by
   obtain⟨h1,h2⟩:=BV (r:=r) (ext:=ext) k;unfold pcF sdF;by_cases h:k∈(sdF r k).2
   .rw[if_pos h,if_pos ((h2 k).mpr h)];exact⟨h1,h2⟩
   .rw[if_neg h,if_neg λz=>h ((h2 k).mp z)]
    refine⟨by rw[h1],λy=>?_⟩;rw[zK,h2,eW,be]
theorem GD{r:Nat->List Nat}{ext:Nat->Sto}{B:Nat}(hr:∀k,(r k).length<=B):∀k,(pcF r ext k).1.length<=k/\(pcF r ext k).2.1.length<=k*B
 |0=>by simp[pcF]
 | k+1=>by
   have:=GD (ext:=ext) hr k;have:=hr k;unfold pcF;rw[jC]
   split
   .omega
   .have h:=vX (xs:=srt (r k)) (l:=(pcF r ext k).2.1)
    rw[kP]at h;simp;omega
def ff(S:Sto)(p:List 5#4×List Nat×Sto):Sto:=S++[.lst (tups p.1),.dic (eP p.2.1)]++p.2.2
def zW(g:iO)(φ:MF):MS:=sIf (cOf (m2 fb 1#3 0#7)) (aX (bu 5 (wQ 1 g φ 4#5)) (aX (du (mML bF 0#5 10#3)) (ee 6 (b0 (ae 5)) (eM 0#7 (ae 6) 8#0)))) cW
def uy(g:iO)(φ:MF):MS:=aX (bu 2 2#7) (aX (bu 3 qZ) (aX (ee 4 (b0 0#6) (zW g φ)) (cb 0#5)))
theorem Ey{x:Sto}{xs:List Nat}(h5:Y[5]?=some (some (.tup (ai xs))))(h3:Y[3]?=some (some 4#4))(h7:Y.length=7)(hb:l.length+xs.length<big):
  ∃v,ee 6 (b0 (ae 5)) (eM 0#7 (ae 6) 8#0) Y (S++[c,.dic (eP l)]++x)=some (.nx,Y.set 6 v,S++[c,.dic (eP (xs.foldl putN l))]++x):=by
 obtain⟨Y2,S',e,⟨v,rfl⟩,rfl⟩:=pz (i:=6) (b:=eM 0#7 (ae 6) 8#0) (e:=ae 5) (Y:=Y) (S:=S++[c,.dic (eP l)]++x) (us:=ai xs) (var_eq h5)
  (λk Y2 S'=>(∃v,Y2=Y.set 6 v)/\S'=S++[c,.dic (eP ((xs.take k).foldl putN l))]++x) ⟨⟨Y[6]' 0#2,by simp⟩,by simp⟩ (by
  rintro k u Y2 S' hu ⟨⟨v,rfl⟩,rfl⟩;obtain⟨y,hy,rfl⟩:=hJ hu;rw[List.set_set];have g3:(Y.set 6 (some (.int y)))[3]?=some (some 4#4):=by rw[aB 0#1];exact h3
  have g6:(Y.set 6 (some (.int y)))[6]?=some (some (.int y)):=aN 0#2
  have e:=RM (Y:=Y.set 6 (some (.int y))) (o:=ae 3) (i:=ae 6) (var_eq g3) (var_eq g6) (h1 (S:=S) (x:=x) (c:=c) (e:= .dic (eP ((xs.take k).foldl putN l)))) (by
   rw[Ae];have:=vX (xs:=xs.take k) (l:=l);have:(xs.take k).length<=xs.length:=by rw[j5];omega
   omega)
  rw[t1,IY]at e;refine⟨_,_,e,⟨_,rfl⟩,?_⟩;rw[mS,hy,mT]
  rfl)
 rw[bw,oI]at e;exact⟨v,e⟩
variable{ext:Nat->Sto}{φ:MF}
theorem xD{r:Nat->List Nat}{S:Sto}(hm:m<64)(hr:∀k,(r k).length<=64)(hφ:∀i (S:Sto),i<m->φ [.int (i:Nat)] S=some (.tup (ai (srt (r i))),S++ext i))(g:iO):
  _G.run 2 7 (uy g φ) [.tup (ai (ay m)),.obj g] S=some (.ref S.length,ff S (pcF r ext m)):=by
 obtain⟨Y1,S1,e1,⟨a,b,c,rfl⟩,e1'⟩:=pz (i:=4) (e:=ae 0) (us:=ai (ay m)) (b:=zW g φ) (Y:= [13#8,6#9,1#1,some 4#4,none,none,none]) (S:=ff S (pcF r ext 0)) 0#0
  (λk Y S'=>(∃a b c,Y = [13#8,6#9,1#1,some 4#4,a,b,c])/\S'=ff S (pcF r ext k)) ⟨⟨_,_,_,rfl⟩,rfl⟩ (by
   rintro k u Y S' hu ⟨⟨a,b,c,rfl⟩,rfl⟩;obtain⟨k',hk',rfl⟩:=hJ hu;have hk:k<m:=by have:=(ag.mp hk').1;simpa using this
   rw[lB hk]at hk';cases hk';have bd:=GD (ext:=ext) hr k;have ec:=yQ (Y:= [13#8,6#9,1#1,some 4#4,2#8,b,c]) (a:=ae 4) (b:=ae 3) (x:=k) 0#0 0#0 (show(ff S (pcF r ext k))[S.length+1]?=_ from h1);rw[wc]at ec;by_cases hin:k∈(pcF r ext k).2.1
   .rw[decide_eq_true hin]at ec
    refine⟨_,_,(iA ec).trans rfl,⟨_,_,_,rfl⟩,?_⟩;rw[pcF,if_pos hin]
   .rw[decide_eq_false hin]at ec
    have e5:wQ 1 g φ 4#5 [13#8,6#9,1#1,some 4#4,2#8,b,c] (ff S (pcF r ext k))=some (.tup (ai (srt (r k))),ff S (pcF r ext k)++ext k):=by
     show(if g=g then mFn φ 4#5 _ _ else none)=_;rw[if_pos rfl];exact gH 0#0 (hφ k _ hk)
    have hx:ff S (pcF r ext k)++ext k=S++[.lst (tups (pcF r ext k).1),.dic (eP (pcF r ext k).2.1)]++((pcF r ext k).2.2++ext k):=by simp[ff]
    rw[hx]at e5;have e6:=append_eq (Y:= [13#8,6#9,1#1,some 4#4,2#8,some (.tup (ai (srt (r k)))),c]) (o:=ae 2) (a:=ae 5) (u:= .tup (ai (srt (r k)))) 0#0 0#0 (h0 (S:=S) (x:=(pcF r ext k).2.2++ext k) (c:= .lst (tups (pcF r ext k).1)) (e:= .dic (eP (pcF r ext k).2.1))) h0 (by simp only[tups,ax];unfold big;omega);rw[t0]at e6
    obtain⟨v,e7⟩:=Ey (S:=S) (x:=(pcF r ext k).2.2++ext k) (c:= .lst (tups (pcF r ext k).1++[.tup (ai (srt (r k)))])) (Y:= [13#8,6#9,1#1,some 4#4,2#8,some (.tup (ai (srt (r k)))),c]) (xs:=srt (r k)) (l:=(pcF r ext k).2.1) rfl rfl rfl (by
     rw[kP];have:=hr k;have h3:k*64<=64*64:=dX _ 0#2
     unfold big;omega)
    refine⟨_,_,(jP ec).trans ((aO (bz e5)).trans ((aO e6).trans e7)),⟨_,_,_,rfl⟩,?_⟩;rw[pcF,if_neg hin]
    simp[ff,tups])
 rw[bw,bc]at e1';subst e1';refine cw (Y:= [13#8,6#9,1#1,some 4#4,a,b,c]) rfl ?_;show uy g φ [13#8,6#9,none,none,none,none,none] S=_;have e2:qZ [13#8,6#9,1#1,none,none,none,none] (S++2#4)=some (.ref 11#8,ff S (pcF r ext 0)):=by
  simp[qZ,ff,pcF,tups,eP]
 exact(aO (bz fA)).trans ((aO (bz e2)).trans ((aO e1).trans (cu 0#0)))
variable{f:Nat->Nat}{part:List Nat}
theorem G7{S:Sto}(hi:Y[i]?=some (some (.tup (ai part))))(hl:part.length<64)(he:∀(x:Nat) (S:Sto),x∈part->e 17#1 S=some (.int (f x:Nat),S)):
  mFn bC (aa (mFn dy (aa (bK (b0 (ae i)) cTT e) af)) af) Y S=some (.tup (ai (srt (part.map f))),S++[.lst (ai (part.map f)),.lst (ai (srt (part.map f)))]):=by
 have hz:(part.map f).length<64:=by rw[ax];exact hl
 obtain⟨S1,e1,rfl⟩:=j0 (e:=e) (Y:=Y) (λj => .int (f (oF part j):Nat)) (λ_ S'=>S'=S) (ai part) 0 [] S rfl (by
  rintro j u S' hu rfl;obtain⟨x,hx,rfl⟩:=hJ hu;refine⟨S',?_,rfl⟩;have:oF part (0+j)=x:=by rw[dR];unfold oF;rw[aU,hx];rfl
  rw[this]
  exact he x S' (bP hx))
 have hm:(ay (ai part).length).map (λj=>U.int (f (oF part (0+j)):Nat))=ai (part.map f):=by
  unfold ai;apply mR;intro j;rw[bj,bj,bj];by_cases h:j<part.length
  .rw[lB 14#2,aF h]
   simp[oF,aU,h]
  .rw[cY 14#2,cY 13#0];rfl
 rw[hm,dg]at e1;have e2:=kH (it:=b0 (ae i)) (us:=ai part) (by unfold b0;rw[var_eq hi];rfl) e1 (by rw[bw];unfold big;exact aj 0#4 0#1);have e3:=eU (qA e2 (bD _ _) hz);rw[e3];simp
theorem map_len(h:part.length<64):(part.map f).length<=64:=by rw[ax];exact aT 0#4
def dk(T:Nat->Nat->Nat)(part:List Nat)(left:Bool)(x:Nat):List Nat:=part.map λo=>if left then T x o else T o x
def atM:MS:=cb (vP (iR1 (aa 6#2 af)))
theorem GL(hm:m<1000):_G.run 1 1 atM [tab m T] S=some (.tup (ai (ay m)),S):=by
 refine cw (Y:= [0#3]) rfl (cu ?_);have e1:=kJ (Y:= [0#3]) (S:=S) (a:=mFn bG 4#0) (n:=m) 8#7 22#5;have e2:br 0 m=ai (ay m):=by
  unfold br ai;apply bN;intro k _;simp
 rw[e2]at e1;have hz:(ai (ay m)).length<=big:=by rw[bw,bc];unfold big;omega
 show vP (iR1 (aa 6#2 af)) [0#3] S=_;simp only[vP,e1,az,hz,if_true]
def lsM:MS:=cb (kX (λg φ=>_G.run 2 7 (uy g φ)) 1 [0,1] (mFn bC (aa (mFn dy (aa (bK (b0 0#5) cTT (m2 oIx (m2 oIx 1#5 0#6) 0#7)) af)) af)) (mFn (_G.run 1 1 atM) 4#0))
def rsM:MS:=cb (kX (λg φ=>_G.run 2 7 (uy g φ)) 1 [0,1] (mFn bC (aa (mFn dy (aa (bK (b0 0#5) cTT (m2 oIx (m2 oIx 1#5 0#7) 0#6)) af)) af)) (mFn (_G.run 1 1 atM) 4#0))
def aS(m:Nat)(T:Nat->Nat->Nat)(part:List Nat)(left:Bool):List 5#4:=(sdF 6#7 m).1
section
variable {m:Nat}{T:Nat->Nat->Nat}{part:List Nat}{S:Sto}
theorem rV{left:Bool}(g:Grp m T)(hm:m<64)(hl:part.length<64)(hp:∀x∈part,x<m):Sml (aS m T part left):=
 LC hm (λk=>map_len hl) λk hk x hx=>by
  obtain⟨o,ho,rfl⟩:=aQ.mp hx;have:=hp o ho;cases left
  .have:=g.cl o k this hk;simp;exact cP 0#4 (aj 0#4 0#1)
  .have:=g.cl k o hk this;simp;exact cP 0#4 (aj 0#4 0#1)
theorem ox{left:Bool}:Ex S (ff S (pcF 6#7 ext m))/\(ff S (pcF 6#7 ext m))[S.length]?=some (Cell.lst (tups (aS m T part left))):=by
 refine⟨⟨_,by unfold ff;rw[aJ]⟩,?_⟩;have:=h0 (S:=S) (x:=(pcF 6#7 ext m).2.2) (c:= .lst (tups (pcF 6#7 ext m).1)) (e:= .dic (eP (pcF 6#7 ext m).2.1));rw[(BV m).1]at this;unfold ff;rw[(BV m).1];exact this
theorem LI(g:Grp m T)(hm:m<64)(hl:part.length<64)(hp:∀x∈part,x<m):∃S',_G.run 2 2 lsM 11#3 S=some 13#1/\Ex S S'/\S'[S.length]?=some (Cell.lst (tups 9#6)):=by
 refine⟨ff S (pcF (dk T part true) (λi=>[.lst (ai (dk T part true i)),.lst (ai (srt (dk T part true i)))]) m),cw (Y:= [0#3,3#8]) rfl (show lsM [0#3,3#8] S=_ from cu ?_),ox.1,ox.2⟩;refine uV (cs:= 11#3) (gH (f:=_G.run 1 1 atM) 0#0 (GL 16#9)) rfl λf=>xD hm (λk=>map_len hl) (λi S' hi=>?_) f;exact G7 (Y:= [some (.int (i:Nat)),0#3,3#8]) (f:=λo=>if true then T i o else T o i) rfl hl λx S hx=>ip (T:=T) (i:=i) (j:=x) (hp x hx) (ij hi 0#0 0#0) 0#0
theorem Ho(g:Grp m T)(hm:m<64)(hl:part.length<64)(hp:∀x∈part,x<m):∃S',_G.run 2 2 rsM 11#3 S=some 13#1/\Ex S S'/\S'[S.length]?=some (Cell.lst (tups (aS m T part false))):=by
 refine⟨ff S (pcF (dk T part false) (λi=>[.lst (ai (dk T part false i)),.lst (ai (srt (dk T part false i)))]) m),cw (Y:= [0#3,3#8]) rfl (show rsM [0#3,3#8] S=_ from cu ?_),ox.1,ox.2⟩;refine uV (cs:= 11#3) (gH (f:=_G.run 1 1 atM) 0#0 (GL 16#9)) rfl λf=>xD hm (λk=>map_len hl) (λi S' hi=>?_) f;exact G7 (Y:= [some (.int (i:Nat)),0#3,3#8]) (f:=λo=>if false then T i o else T o i) rfl hl λx S hx=>ip (T:=T) (i:=x) (j:=i) hi (ij (hp x hx) 0#0 0#0) 0#0
end
theorem Hh{t:Nat}{S:Sto}{sv mv:ME}(ha:a Y S=some (.int t,S0))(ht:t<1000)(h:iK n S0)(hm:0<m)(hm2:m<1000)
  (hs:∀z (S:Sto),sv (Y++[z]) S=some (.ref n,S)) (hv:∀z (S:Sto),mv (Y++[z]) S=some (.int m,S)):
  ∃w S',bK (iR1 2#6) cTT (mFn aP (aa sv (aa mv af))) Y S=some (.ref S'.length,S'++[.lst (ai w)])/\Stp n S0 S'/\(∀x∈w,x<m)/\w.length=t:=by
 obtain⟨ys,S1,e1,⟨w,rfl,q1,q2⟩,q3⟩:=rX (e:=mFn aP (aa sv (aa mv af))) (Y:=Y) (λacc S' =>∃w,acc=ai w/\(∀x∈w,x<m)/\Stp n S0 S') (br 0 t) [] S0 ⟨[],rfl,by simp,Stp.refl h⟩ (by
  rintro k acc u S' hk hl ⟨w,rfl,q1,q2⟩;obtain⟨r,S2,e2,h2,h3⟩:=gw (m:=m) q2.st hm hm2;refine⟨_,S2,cJ (hs _ _) (hv _ _) e2,w++[r],by simp[ai],λx hx=>?_,q2.trans h3⟩;rcases be.mp hx with hx |hx
  .exact q1 x hx
  ·simp at hx;omega)
 have hlen:(br 0 t).length=t:=by simp[br]
 have hw:w.length=t:=by rw[bw]at q3;simpa [hlen]using q3
 exact⟨w,S1,kH (kJ ha 22#5) e1 (by rw[bw,hw];unfold big;exact aj 0#4 0#1),q2,q1,hw⟩
theorem pM{t:MT}{e:ME}{Y:Rho}{n:Nat}{S:Sto}{us:List U}{p:U->Bool}{f:U->U}(hu:getL S n=some us)(ht:∀u∈us,t 7#7 S=some (p u,S))(he:∀u∈us,p u=true->e 7#7 S=some (f u,S)):
  ∀(k i:Nat) (acc:List U),i<=us.length->us.length-i<k->iR t e Y n k i acc S=some (acc++((us.drop i).filter p).map f,S)
 |0,i,acc,h1,h2=>by omega
 | k+1,i,acc,h1,h2=>by
   unfold iR;rw[hu];simp only[ah];by_cases hi:i<us.length
   .have hd:us.drop i=us[i]::us.drop (i+1):=iC hi
    have hm:us[i]∈us:=cg hi;rw[aF hi];simp only;rw[ht _ hm];simp only[az];rw[hd];cases hp:p us[i] with
    | true=>
      rw[if_pos rfl,he _ hm hp];simp only[az];rw[pM hu ht he k (i+1) _ 0#4 0#2,oJ hp];simp
    | false=>
      rw[if_neg bM,pM hu ht he k (i+1) _ 0#4 0#2,oK (by rw[hp];decide)]
   .rw[cY 13#0,o9 13#0]
    simp
variable{f:U->U}{p:U->Bool}
theorem Fu{t:MT}{us:List U}(ha:a Y S=some 12#2)(hu:S1[n]?=some (Cell.lst us))(hl:us.length<1000)(ht:∀u∈us,t 7#7 S1=some (p u,S1))(he:∀u∈us,p u=true->e 7#7 S1=some (f u,S1)):
  bK (b0 a) t e Y S=some (.ref S1.length,S1++[.lst ((us.filter p).map f)]):=by
 have hg:getL S1 n=some us:=by unfold getL;rw[hu]
 have hi:b0 a Y S=some (.mut n,S1):=by simp only[b0,ha,az,hg,aI]
 have e1:=pM hg ht he fuel 0 [] (dC _) (by unfold fuel;exact aj 0#4 0#1);rw[rN,dg]at e1;simp only[bK,hi,az,wj,e1];refine if_pos ?_;have:=fo p us;rw[ax];unfold big;exact aA 0#4 (aj 0#4 0#1)
theorem pQ{t:MT}{e:ME}{Y:Rho}{S:Sto}{p:U->Bool}{f:U->U}:∀(us acc:List U),(∀u∈us,t 7#7 S=some (p u,S))->(∀u∈us,p u=true->e 7#7 S=some (f u,S)) ->
  gS t e Y us acc S=some (acc++(us.filter p).map f,S)
 |[],acc,_,_=>by simp[gS]
 | u::us,acc,ht,he=>by
   unfold gS;rw[ht u 0#8];simp only[az];cases hp:p u with
   | true=>
     rw[if_pos rfl,he u 0#8 hp];simp only[az];rw[pQ us _ (λv hv=>ht v (aD _ hv)) (λv hv=>he v (aD _ hv)),oJ hp];simp
   | false=>
     rw[if_neg bM,pQ us _ (λv hv=>ht v (aD _ hv)) (λv hv=>he v (aD _ hv)),oK (by rw[hp];decide)]
theorem EI{t:MT}{us:List U}(ha:a Y S=some (.tup us,S1))(hl:us.length<big)(ht:∀u∈us,t 7#7 S1=some (p u,S1))(he:∀u∈us,p u=true->e 7#7 S1=some (f u,S1)):
  bK (b0 a) t e Y S=some (.ref S1.length,S1++[.lst ((us.filter p).map f)]):=by
 have hi:b0 a Y S=some (.imm us,S1):=by simp only[b0,ha,az]
 have e1:=pQ us [] ht he;rw[dg]at e1;refine kH hi e1 ?_;have:=fo p us;rw[ax];exact aA 0#4 0#4
variable{f:Nat->U}{p:Nat->Bool}
theorem u0{t:MT}{l:List Nat}(ha:a Y S=some (.tup 2#0,S1))(hl:l.length<big)(ht:∀x∈l,t 17#1 S1=some (p x,S1))(he:∀x∈l,p x=true->e 17#1 S1=some (f x,S1)):
  bK (b0 a) t e Y S=some (.ref S1.length,S1++[.lst ((l.filter p).map f)]):=by
 have nat:∀u∈ai l,∃x∈l,u=.int (x:Nat):=λu hu=>by
  obtain⟨x,hx,rfl⟩:=aQ.mp hu;exact⟨x,hx,rfl⟩
 let g:U->Nat:=λu=>match u with | .int i=>i.toNat |_=>0
 have gx:∀x:Nat,g (.int x)=x:=λx=>by simp[g]
 have h:=EI (t:=t) (e:=e) (p:=λu=>p (g u)) (f:=λu=>f (g u)) ha (by rw[bw];exact hl) (λu hu=>by
  obtain⟨x,hx,rfl⟩:=nat u hu
  rw[gx];exact ht x hx) (λu hu hp=>by
  obtain⟨x,hx,rfl⟩:=nat u hu
  rw[gx]at hp ⊢;exact he x hx hp)
 rw[h];have:((ai l).filter λu=>p (g u)).map (λu=>f (g u))=(l.filter p).map f:=by
  unfold ai;rw[List.filter_map,eZ];have e1:(λu=>p (g u))∘(λ(x:Nat)=>U.int x)=p:=by funext x;simp[gx]
  have e2:(λu=>f (g u))∘(λ(x:Nat)=>U.int x)=f:=by funext x;simp[gx]
  rw[e1,e2]
 rw[this]
theorem sP{t:MT}{l:List Nat}(ha:a Y S=some (.tup 2#0,S1))(hl:l.length<1000)(ht:∀x∈l,t 17#1 S1=some (p x,S1))(he:∀x∈l,p x=true->e 17#1 S1=some (f x,S1)):
  bK (b0 a) t e Y S=some (.ref S1.length,S1++[.lst ((l.filter p).map f)]):=
 u0 ha 22#5 ht he
theorem RL(ha:a Y S=some 4#2)(hb:b Y S1=some (.tup 2#0,S2)):cOf (m2 oIn a b) Y S=some (decide (x∈l),S2):=by
 refine of_eq (op2 ha hb ?_);simp only[oIn,ft,fC,ah,eC,lL,aI,uz]
theorem KQ(ha:a Y S=some 4#2)(hb:b Y S1=some (.tup 2#0,S2)):cOf (m2 fb a b) Y S=some (!decide (x∈l),S2):=by
 refine of_eq (op2 ha hb ?_);simp only[fb,ft,fC,ah,eC,lL,aI,Option.some_or,uz]
theorem BD{x y:U}(ha:a Y S=some (x,S1))(hb:b Y S1=some (y,S2)):de 17#6 Y S=some (.tup [x,y],S2):=by
 have hb2:2<=big:=by decide
 simp[de,aa,af,ha,hb,az,hb2]
section
variable {m:Nat}{T:Nat->Nat->Nat}{st left:List Nat}{S:Sto}
def prU(T:Nat->Nat->Nat)(h s:Nat):U:= .tup [.int s,.int (T h s:Nat)]
theorem M4{f:MF}{S S4:Sto}{c d:ME}{x y z v:U}{r:Res U}(ha:a Y S=some (x,S1))(hb:b Y S1=some (y,S2))(hc:c Y S2=some (z,S3))(hd:d Y S3=some (v,S4))(h:f [x,y,z,v] S4=r):mFn f (aa a (aa b (aa c (aa d af)))) Y S=r:=by
 simp only[mFn,aa,af,ha,hb,hc,hd,az,h]
theorem Qb{S:Sto}{x y:List Nat}(ha:a Y S=some (.tup (ai x),S1))(hb:b Y S1=some (.tup (ai y),S2))(hl:x.length+y.length<=big):m2 cK a b Y S=some (.tup (ai (x++y)),S2):=by
 refine op2 ha hb ?_;simp only[cK];rw[if_pos (by rw[bw,bw];exact hl)];simp[ai]
theorem CO{S:Sto}{x y:List Nat}(ha:a Y S=some (.tup (ai x),S1))(hb:b Y S1=some (.tup (ai y),S2))(hl:x.length+y.length<1000):m2 cK a b Y S=some (.tup (ai (x++y)),S2):=
 Qb ha hb (by unfold big;omega)
end
abbrev Nod:=List Nat×List Nat
def lnU(p:Nod):U:= .tup [.tup (ai p.1),.tup (ai p.2)]
def lnD(p:Nod):jo:= .tuple [tN p.1,tN p.2]
theorem O7{f:Nat}(p:Nod):toD S (f+3) (lnU p)=some (lnD p):=by
 show(dS (toD S (f+2)) [.tup (ai p.1),.tup (ai p.2)]).map _=_;simp only[dS,lQ,ah,aI];rfl
theorem Dv{S:Sto}{f:Nat}:∀(ls:List Nod),dS (toD S (f+3)) (ls.map lnU)=some (ls.map lnD)
 |[]=>rfl
 | p::ls=>by
   show(toD S (f+3) (lnU p)).bind _=_;rw[O7];simp only[ah];rw[Dv ls];rfl
theorem Dp{ls:List Nod}(h:S[n]?=some (Cell.lst (ls.map lnU))):toD S 40 (.ref n)=some (.list (ls.map lnD)):=by
 show(getL S n).bind _=_;unfold getL;rw[h];simp only[ah];rw[Dv (f:=36)];rfl
theorem Nl{k:Nat}{x:List Nod}(ha:a Y S=some 12#2)(hb:b Y S1=some (.ref k,S2))(hn:S2[n]?=some (Cell.lst (x.map lnU)))(hk:S2[k]?=some (Cell.lst [])):m2 oNe a b Y S=some (.bl (!decide (x=[])),S2):=by
 refine op2 ha hb ?_;have e2:toD S2 40 (.ref k)=some (.list []):=by
  have:=Dp (S:=S2) (n:=k) (ls:= []) hk;simpa using this
 simp only[oNe,_G.eqU,Dp hn,e2,ah,aI,dz];cases x<;>simp[cR]
def fT(th:List Nat):Nat:=(th.getLast?).getD 0
theorem mB:fT (l++[x])=x:=by simp[fT]
variable{th:List Nat}
theorem zf(h:th≠[]):atI (ai th) (-1)=some (.int (fT th:Nat)):=by
 obtain⟨l,x,rfl⟩:=qr h;rw[mB];have hl:(ai (l++[x])).length=l.length+1:=by simp[ai]
 unfold atI;have:_L.ixN (ai (l++[x])).length (-1)=some l.length:=by
  rw[hl];unfold _L.ixN;rw[if_neg 0#1,if_pos 0#2]
  congr 1;omega
 rw[this];simp[ai]
theorem Aa{th:List Nat}(h:th≠[])(hl:∀x∈th,x<m):fT th<m:=by
 obtain⟨l,x,rfl⟩:=qr h;rw[mB];exact hl x 0#8
def kids(T:Nat->Nat->Nat)(st:List Nat)(p:Nod):List Nod:=(st.filter λs=>!decide (T (fT p.2) s∈p.2)).map λs=>(p.1++[s],p.2++[T (fT p.2) s])
def qJ(T:Nat->Nat->Nat)(st:List Nat)(L:Nod->List 5#4):Nat->Nod->List 5#4
 |0,p=>L p
 |k+1,p=>(kids T st p).flatMap (qJ T st L k)
theorem vZ{e:ME}{Y:Rho}{n c:Nat}{S:Sto}{us:List U}{f:U->U}(hu:getL S n=some us)(he:∀u∈us,∃ws,Ee c u=some ws/\e (Y++ws.map some) S=some (f u,S)):
  ∀(k i:Nat) (acc:List U),i<=us.length->us.length-i<k->iX c cTT e Y n k i acc S=some (acc++(us.drop i).map f,S)
 |0,i,acc,h1,h2=>by omega
 | k+1,i,acc,h1,h2=>by
   unfold iX;rw[hu];simp only[ah];by_cases hi:i<us.length
   .have hd:us.drop i=us[i]::us.drop (i+1):=iC hi
    obtain⟨ws,e1,e2⟩:=he _ (cg hi);rw[aF hi];simp only;rw[e1];simp only[ah,cTT,az,if_true];rw[e2];simp only[az];have ih:=vZ hu he k (i+1) (acc++[f us[i]]) 0#4 0#2;rw[ih,hd,bp,aJ];rfl
   .rw[cY 13#0,o9 13#0]
    simp
def dA(S:Sto)(F:List 5#4)(ln:List Nod)(x:Sto):Sto:=S++[.lst (tups F),.lst (ln.map lnU)]++x
section
variable {m:Nat}{T:Nat->Nat->Nat}{st:List Nat}{S x:Sto}{F:List (List Nat)}{ln:List Nod}{Y:Rho}
theorem fV:dA S F ln x++[c]=dA S F ln (x++[c]):=by simp[dA]
theorem HP{he:ME}{p:Nod}(hh:h<m)(hs:∀s∈st,s<m)(hsl:st.length<1000)(hp1:p.1.length<400)(hp2:p.2.length<400)(hln:ln.length<100000)(hl:fT p.2=h)
  (h0':Y[0]?=some (some (tab m T))) (h1':Y[1]?=some (some (.tup (ai st)))) (h4:Y[4]?=some (some 4#4)) (h5:Y[5]?=some (some (.tup (ai p.1)))) (h6:Y[6]?=some (some (.tup (ai p.2)))) (hn:Y.length=n) (hi:i<n) (hi6:6<i)
  (hhe:∀z (S:Sto),he (Y++z) S=some (.int (h:Nat),S)):
  ∃v x',aX (bu i (bK 4#6 (cOf (m2 fb 27#2 (ae 6))) (de (aa (ae n) (aa 27#2 af))))) (du (mML gO 1#3 (aa (iu 2 (b0 (m1 sH (ae i))) cTT (de 24#5)) af))) Y (dA S F ln x) =
   some (.nx,Y.set i v,dA S F 27#7 x'):=by
 have ap:∀{j:Nat}{v:Option U}{z:Rho},Y[j]?=some v->(Y++z)[j]?=some v:=λ{j v z} e=>by
  have:=(ag.mp e).1;rw[aM this];exact e
 have apn:∀{v:Option U}{z:Rho},(Y++(v::z))[n]?=some v:=λ{v z}=>by rw[aq (by exact lT 0#4),hn];simp
 have ev:∀(s:Nat) (S':Sto),s∈st->m2 oIx (m2 oIx 0#6 he) (ae n) (Y++[some (.int s)]) S'=some (.int (T h s:Nat),S'):=λs S' hs'=>ip (T:=T) (i:=h) (j:=s) (hs s hs') (ij hh (var_eq (ap h0')) (hhe _ _)) (var_eq apn);have e1:=sP (t:=cOf (m2 fb 27#2 (ae 6))) (e:=de (aa (ae n) (aa 27#2 af))) (Y:=Y) (S:=dA S F ln x) (a:=ae 1) (l:=st) (p:=λs=>!decide (T h s∈p.2)) (f:=prU T h) (var_eq h1') hsl (λs hs'=>KQ (ev s _ hs') (var_eq (ap h6))) (λs hs' _=>BD (var_eq apn) (ev s _ hs'));generalize hfr:(st.filter λs=>!decide (T h s∈p.2))=fr at e1;have hfl:fr.length<=st.length:=by rw[<-hfr];exact fo _ _
 have g7:(Y.set i 10#2)[i]?=some 10#2:=aN 0#2;have ne:∀{j:Nat}{v w:Option U},j≠i->Y[j]?=some v->(Y.set i w)[j]?=some v:=λ{j v w} hj e=>by rw[aB 0#2];exact e
 have hlen:(Y.set i 10#2).length=n:=by simp[hn]
 rw[fV]at e1;have c1:(dA S F ln (x++8#4))[(dA S F ln x).length]?=some (Cell.lst (fr.map (prU T h))):=by rw[<-fV];exact bD _ _
 have e2:m1 sH (ae i) (Y.set i 10#2) (dA S F ln (x++8#4))=some (.ref (dA S F ln (x++8#4)).length,dA S F ln (x++8#4++22#3)):=by
  simp only[m1,var_eq g7,az,sH,getL,c1,aI];rw[fV,List.map_reverse]
 have c2:(dA S F ln (x++8#4++22#3))[(dA S F ln (x++8#4)).length]?=some (Cell.lst (fr.reverse.map (prU T h))):=by rw[<-fV];exact bD _ _
 generalize hS2:dA S F ln (x++8#4++22#3)=S2 at e2 c2;generalize hr2:(dA S F ln (x++8#4)).length=r2 at e2 c2;have hg2:getL S2 r2=some (fr.reverse.map (prU T h)):=by unfold getL;rw[c2]
 have e3:=vZ (c:=2) (e:=de 24#5) (Y:=Y.set i 10#2) (f:=λu=>match u with | .tup [.int a,.int b]=>lnU (p.1++[a.toNat],p.2++[b.toNat]) |_ => .non) hg2 (by
  intro u hu;obtain⟨s,_,rfl⟩:=aQ.mp hu;refine⟨[.int s,.int (T h s:Nat)],rfl,?_⟩;have ap2:∀{j:Nat}{v:Option U}{z:Rho},(Y.set i 10#2)[j]?=some v->(Y.set i 10#2++z)[j]?=some v:=λ{j v z} e=>by
   have:=(ag.mp e).1;rw[aM this];exact e
  have q1:(Y.set i 10#2++([.int s,.int (T h s:Nat)]:List U).map some)[n]?=some (some (.int s)):=by rw[aq (by exact lT 0#4),hlen];simp
  have q2:(Y.set i 10#2++([.int s,.int (T h s:Nat)]:List U).map some)[n+1]?=some (some (.int (T h s:Nat))):=by rw[aq 0#2,hlen];simp
  refine(BD (CO (x:=p.1) (y:= [s]) (var_eq (ap2 (ne 0#2 h5))) (Cg (var_eq q1)) (by simp;exact aA 0#4 0#1)) (CO (x:=p.2) (y:= [T h s]) (var_eq (ap2 (ne (by exact aW 0#4) h6))) (Cg (var_eq q2)) (by simp;exact aA 0#4 0#1))).trans ?_
  simp[prU,lnU]) fuel 0 [] (dC _) (by rw[ax,fU];unfold fuel;exact aA (by assumption) (aj (by assumption) (by decide)))
 rw[rN,dg,eZ]at e3;have hk:(fr.reverse.map ((λu=>match u with | .tup [.int a,.int b]=>lnU (p.1++[a.toNat],p.2++[b.toNat]) |_=>.non)∘prU T h))=((kids T st p).reverse).map lnU:=by
  unfold kids;rw[hl,hfr,<-List.map_reverse,eZ];apply bN;intro s _;simp[prU]
 rw[hk]at e3;have hkl:(kids T st p).reverse.length<1000:=by
  rw[fU];unfold kids;rw[ax,hl,hfr];exact aA 0#4 0#4
 have e4:iu 2 (b0 (m1 sH (ae i))) cTT (de 24#5) (Y.set i 10#2) (dA S F ln (x++8#4))=some (.ref S2.length,S2++[.lst 19#3]):=by
  have hi2:b0 (m1 sH (ae i)) (Y.set i 10#2) (dA S F ln (x++8#4))=some (.mut r2,S2):=by simp only[b0,e2,az,hg2,aI]
  simp only[iu,hi2,az,Ci,e3];exact if_pos (by rw[ax];unfold big;exact aj 0#4 0#1)
 have c3:(S2++[Cell.lst 19#3])[S.length+1]?=some (.lst (ln.map lnU)):=by rw[<-hS2,fV];exact h1
 have c4:(S2++[Cell.lst 19#3])[S2.length]?=some (.lst 19#3):=bD _ _;have c5:(dA S F ln (x++8#4))[S.length+1]?=some (.lst (ln.map lnU)):=h1;refine⟨some (.ref (dA S F ln x).length),x++8#4++22#3++[Cell.lst 19#3],(aO (bz e1)).trans ?_⟩;have e5:mML gO 1#3 (aa (iu 2 (b0 (m1 sH (ae i))) cTT (de 24#5)) af) (Y.set i 10#2) (dA S F ln (x++8#4))=some (.non,dA S F 27#7 (x++8#4++22#3++[Cell.lst 19#3])):=by
  simp only[mML,var_eq (ne 0#2 h4),az,getL,c5,ah,aa,af,e4,gO,c3,c4];rw[if_pos (by rw[ax,ax];unfold big;omega)]
  congr 2
  rw[<-hS2,fV];show(S++[_,_]++_).set 11#8 _=_;rw[t1];simp[dA]
 simp only[du,e5,az]
def FW:MT:=wZ (cOf (m2 oNe 1#3 2#7)) (cOf (m2 oLt 12#4 0#5))
theorem K1(h2:Y[2]?=some (some (.int most)))(h3:Y[3]?=some 14#0)(h4:Y[4]?=some (some 4#4)):
  FW Y (dA S F ln x)=some (!decide (ln=[])&&decide (F.length<most),dA S F ln 14#5):=by
 have e1:cOf (m2 oNe 1#3 2#7) Y (dA S F ln x)=some (!decide (ln=[]),dA S F ln 14#5):=by
  refine of_eq (Nl (var_eq h4) (fA.trans (by rw[fV])) h1 ?_);rw[<-fV];exact bD _ _
 have e2:cOf (m2 oLt 12#4 0#5) Y (dA S F ln 14#5)=some (decide (F.length<most),dA S F ln 14#5):=by
  have:=of_eq (OW (Y:=Y) (S:=dA S F ln 14#5) (a:=mFn bG (aa 0#7 af)) (b:=ae 2) (tE (var_eq h3) h0) (var_eq h2));rw[this]
  congr 2
  simp[tups]
 exact and_eq e1 e2 λ_=>rfl
theorem JJ{p:Nod}(h4:Y[4]?=some (some 4#4)):
  wM (mML nc 1#3 af) (gTp 2 (eD (gN 5) (eD (gN 6) m8))) Y (dA S F (ln++[p]) x)=some (.nx,(Y.set 5 (some (.tup (ai p.1)))).set 6 (some (.tup (ai p.2))),dA S F ln x):=by
 have e1:mML nc 1#3 af Y (dA S F (ln++[p]) x)=some (lnU p,dA S F ln x):=by
  have c:(dA S F (ln++[p]) x)[S.length+1]?=some (.lst ((ln++[p]).map lnU)):=h1;simp only[mML,var_eq h4,az,getL,c,ah,af,nc];simp only[ck,bp,jr,a8,cf,ej,JG];rw[aq 0#8];simp only[ax,FM,dR,Nat.add_sub_cancel,lV,oH,aI]
  congr 2
  exact t1
 simp only[wM,e1,az];rfl
end
def iQ(b:Nat):Nat->Nat
 |0=>1
 |k+1=>1+b*iQ b k
def msr(b m:Nat)(ln:List Nod):Nat:=(ln.map λp=>iQ b (m-1-p.1.length)).sum
def rest(T:Nat->Nat->Nat)(st:List Nat)(L:Nod->List 5#4)(m:Nat)(ln:List Nod):List 5#4:=ln.reverse.flatMap λp=>qJ T st L (m-1-p.1.length) p
structure Nd(m:Nat)(p:Nod):Prop where
 le:p.1.length<=m-1
 len:p.2.length=p.1.length+1
 lt:∀x∈p.2,x<m
section
variable {m:Nat}{T:Nat->Nat->Nat}{st:List Nat}{L:Nod->List (List Nat)}{ln:List Nod}{p:Nod}
theorem sy{b k:Nat}:1<=iQ b k:=by cases k<;>simp[iQ]
theorem Dj{b:Nat}{a c:List Nod}:msr b m (a++c)=msr b m a+msr b m c:=by simp[msr]
theorem yA{b:Nat}:∀ln:List Nod,ln.length<=msr b m ln
 |[]=>by simp
 | p::ln=>by
   have:=yA (b:=b) ln;have:=sy (b:=b) (k:=m-1-p.1.length);simp only[msr,bp,DX,cf]at *;omega
theorem yS(g:Grp m T)(hs:∀s∈st,s<m)(n:Nd m p)(h:p.1.length<m-1){q:Nod}(hq:q∈kids T st p):Nd m q/\q.1.length=p.1.length+1:=by
 obtain⟨s,hs1,rfl⟩:=aQ.mp hq;have hsm:=(eR.mp hs1).1;have hne:p.2≠[]:=by intro z;have:=n.len;rw[z]at this;simp at this
 refine⟨⟨by simp;assumption,by simp[n.len],λx hx=>?_⟩,by simp⟩;rcases be.mp hx with hx |hx
 .exact n.lt x hx
 .simp at hx;rw[hx];exact g.cl _ _ (Aa hne n.lt) (hs s hsm)
theorem Ga(g:Grp m T)(hs:∀s∈st,s<m)(n:Nd m p)(h:p.1.length<m-1):msr st.length m (kids T st p).reverse+1<=msr st.length m [p]:=by
 have hk:(kids T st p).length<=st.length:=by unfold kids;rw[ax];exact fo _ _
 have e1:∀q∈(kids T st p).reverse,iQ st.length (m-1-q.1.length)=iQ st.length (m-1-p.1.length-1):=λq hq=>by
  rw[(yS g hs n h (List.mem_reverse.mp hq)).2];congr 1
 have e2:msr st.length m (kids T st p).reverse=(kids T st p).length*iQ st.length (m-1-p.1.length-1):=by
  unfold msr;rw[bN e1,List.map_const',FP,fU]
 obtain⟨k,hk2⟩ :∃k,m-1-p.1.length=k+1:=⟨m-1-p.1.length-1,by omega⟩;rw[e2];simp only[msr,bp,jr,DX,List.sum_nil,qg];rw[hk2,Nat.add_sub_cancel,iQ];have:=dX (iQ st.length k) hk;omega
theorem Ca(h:p.1.length<m-1)(hk:∀q∈kids T st p,q.1.length=p.1.length+1):rest T st L m 27#7=rest T st L m (ln++[p]):=by
 unfold rest;rw[tJ,List.reverse_reverse,tJ,tK,tK]
 congr 1
 obtain⟨k,hk2⟩ :∃k,m-1-p.1.length=k+1:=⟨m-1-p.1.length-1,by omega⟩;simp only[jt,List.reverse_nil,dg,List.flatMap_cons,List.flatMap_nil,gK];rw[hk2,qJ];rw[List.flatMap_def,List.flatMap_def]
 congr 1
 apply bN;intro q hq;rw[hk q hq]
 congr 1
 omega
theorem EX(h:p.1.length=m-1):rest T st L m (ln++[p])=L p++rest T st L m ln:=by
 unfold rest;rw[tJ,tK]
 congr 1
 simp[h,qJ]
end
theorem BU{Y:Rho}{S:Sto}{b:MS}(ha:a Y S=some (.int n,S0))(h:n<big)(P:Nat->Rho->Sto->Prop)(h0:P 0 Y S0)
  (hs:∀(j:Nat) (Y:Rho) (S:Sto),j<n->P j Y S->∃Y2 S',b (Y.set i 17#8) S=some 5#0/\P (j+1) Y2 S'):
  ∃Y2 S',ee i (iR1 2#6) b Y S=some 5#0/\P n Y2 S':=by
 obtain⟨Y2,S',e1,p1⟩:=rh (i:=i) (b:=b) P (br 0 n) 0 Y S0 h0 λj u Y S hj hp=>by
  have hl:j<n:=by have:=(ag.mp hj).1;simpa [br]using this
  have hu:(br 0 n)[j]?=some (.int j):=by simp[br,hl]
  rw[hu]at hj;cases hj;simpa using hs j Y S hl 17#2
 have hlen:(br 0 n).length=n:=by simp[br]
 rw[hlen,dR]at p1;refine⟨Y2,S',?_,p1⟩;unfold ee;rw[kJ ha h];exact e1
theorem Tn(ha:a Y S=some 4#2)(hb:b Y S1=some 6#3):mFn tS 17#6 Y S=some (.int (min x y:Nat),S2):=by
 refine cJ ha hb ?_;show some (U.int (if (y:Int)<x then(y:Int) else x),S2)=_
 congr 3
 split<;>omega
def DC:MS:=du (mML bF 1#3 (aa (mML lb 0#7 (aa (mFn aP 23#9) af)) af))
def HZ:MS:=aX (bu 3 (gy (iR2 (aa 1#4 (aa 14#8 af))))) (aX (bu 4 2#7) (aX (ee 5 (iR1 (aa (mFn tS 30#7) af)) DC) (cb (mFn bC (aa (mFn dy 4#5) af)))))
theorem En(h:iK n S)(g:Grp m T)(hm:m<60)(hmo:0<most)(hmo2:most<60):∃w S',_G.run 3 6 HZ [.ref n,tab m T,.int (most:Nat)] S=some (.tup (ai w),S')/\Stp n S S'/\(∀x∈w,x<m)/\w.length<=most/\w.length<60/\w.Nodup/\(∀x∈w,x≠0)/\(1<m->w≠[])/\srt w=w:=by
 have hp:=g.pos;have hbig:m<big:=by unfold big;exact aj 0#4 0#1
 have hn:=h.lt;have hne1:S.length+1≠n:=cN (eg hn);have hm1:m-1<60:=aA (gI m 1) hm;have e1:gy (iR2 (aa 1#4 (aa 14#8 af))) [2#3,0#3,12#6,none,none,none] S=some (.ref S.length,S++11#2):=by
  rw[xH (i:=1) (j:=m) rfl 8#7 15#4 (uf hbig) (by rw[mx m 0#4,bw,uE];exact aC (gI m 1) (aT hbig)),mx m 0#4]
 have e2:bH af [2#3,0#3,12#6,1#1,none,none] (S++11#2)=some (.ref 11#8,S++11#2++2#4):=fA.trans 0#8;generalize hS2:S++11#2++2#4=S2 at e2;have x2:Ex S S2:=⟨_,by rw[<-hS2,aJ]⟩;have g3:S2[S.length]?=some (Cell.lst (ai (bY 1 (m-1)))):=by rw[<-hS2,aJ,aq 0#9];simp
 have g4:S2[S.length+1]?=some (Cell.lst (ai [])):=by rw[<-hS2,aJ,aq (by exact dc _)];simp[ai]
 have st2:Stp n S S2:=Stp.ex h x2;obtain⟨r,S3,e3,hr,st3⟩:=gw (m:=most) st2.st hmo 16#9;have hlen:(bY 1 (m-1)).length=m-1:=by simp
 have e4:mFn tS 30#7 [2#3,0#3,12#6,1#1,some 4#4,none] S2=some (.int (min (m-1) (1+r):Nat),S3):=by
  refine Tn (x:=m-1) (y:=1+r) ?_ (add_n (x:=1) (y:=r) c_i (cJ 0#0 0#0 e3));have:=tE (Y:= [2#3,0#3,12#6,1#1,some 4#4,none]) (S:=S2) (a:=ae 3) 0#0 g3;rw[this,bw,hlen]
 obtain⟨X9,S5,e5,a5,l5,w5,rfl,q3,q4,q5,q6,q7,q8,st5⟩:=BU (i:=5) (b:=DC) e4 (aA (aC (lA _ _) (gI m 1)) hbig)
  (λk Y S'=>∃a l w,Y=[2#3,0#3,12#6,1#1,some 4#4,a]/\S'[S.length]?=some 18#1/\S'[S.length+1]?=some (Cell.lst (ai w))/\l.length+k=m-1/\w.length=k/\(∀x∈l,x<m)/\(w++l).Perm (bY 1 (m-1))/\Stp n S S')
  ⟨none,bY 1 (m - 1),[],rfl,st3.some (by exact cN 0#4) g3,st3.some hne1 g4,by rw[hlen];rfl,rfl,λx hx=>wC (wJ.mp hx).2 (lD hp),by simp,st2.trans st3⟩ (by
   rintro k Y S' hk ⟨a,l,w,rfl,c3,c4,hl,hw,lt1,lt2,st⟩;have hlp:0<l.length:=Nat.lt_of_add_lt_add_right (by rw[dR,hl];exact aj hk (lA _ _));have hll:l.length<60:=aA (aC (eF _ k) (lT hl)) hm1;have hkk:k<60:=aA (aC (Nat.le_add_left k _) (lT hl)) hm1;obtain⟨q,S6,e6,hq,st6⟩:=gw (m:=l.length) st.st hlp (aj hll 0#1);have c3':=st6.some (by exact cN 0#4) c3;have c4':=st6.some hne1 c4;have el:mFn bG (aa 0#7 af) 26#7 S'=some (.int (l.length:Nat),S'):=by
    have:=tE (Y:= 26#7) (S:=S') (a:=ae 3) 0#0 c3;rw[this,bw]
   have ep:=z4 (Y:= 26#7) (o:=ae 3) (a:=mFn aP 23#9) (r:=S.length) (j:=q) (l:=l) 0#0 (cJ 0#0 el e6) c3 c3' hq (by unfold big;exact aj hll 0#1);have hin:l[q]∈l:=cg hq;generalize hx:l[q]=xv at ep hin;have lS:S.length<S6.length:=(ag.mp c3').1;have c4'':(S6.set S.length (Cell.lst (ai (l.eraseIdx q))))[S.length+1]?=some (Cell.lst (ai w)):=by rw[aB (by exact aW (bB _))];exact c4'
   have ea:=append_eq (Y:= 26#7) (o:=ae 4) (r:=S.length+1) 0#0 ep c4 c4'' (by rw[bw,hw];unfold big;exact aj hkk 0#1);refine⟨_,_,ea,2#8,l.eraseIdx q,w++[xv],rfl,?_,?_,?_,by simp[hw],λz hz=>lt1 z (List.mem_of_mem_eraseIdx hz),?_,?_⟩
   .rw[aB (by exact Nat.succ_ne_self _)]
    exact aN lS
   .rw[aN (ag.mp c4'').1]
    simp[ai]
   .rw[List.length_eraseIdx,if_pos hq,<-hl,<-fO,Nat.add_right_comm,mK hlp]
   .rw[aJ]
    refine JE (List.Perm.append_left w ?_) lt2;show(xv::l.eraseIdx q).Perm l;rw[<-hx];exact pL l q hq
   ·exact((st.trans st6).set (by exact ak _) (by exact cN (by assumption))).set (by exact dc _) hne1)
 have hw:w5.length<60:=by rw[q6];exact aA (lA _ _) hm1
 have e6:=eU (qA (Y:= [2#3,0#3,12#6,1#1,some 4#4,a5]) (S:=S5) (a:=ae 4) 0#0 q4 16#9);refine⟨srt w5,_,cw (Y:= [2#3,0#3,12#6,1#1,some 4#4,a5]) rfl (show HZ [2#3,0#3,12#6,none,none,none] S=_ from(aO (bz e1)).trans ((aO (bz e2)).trans ((aO e5).trans (cu e6)))),st5.step 3#1,λx hx=>?_,?_,?_,?_,λx hx=>?_,λh1 z=>?_,rP (lF w5)⟩
 .exact wC (wJ.mp (q8.mem_iff.mp (bg l5 (eW.mp hx)))).2 (lD hp)
 .rw[kP,q6];exact aC (Nat.min_le_right _ _) (by rw[jD];exact hr)
 .rw[kP];assumption
 .rw[(lF w5).nodup_iff]
  have:=q8.nodup_iff.mpr List.nodup_range';exact(ju.mp this).1
 .have:=wJ.mp (q8.mem_iff.mp (bg l5 (eW.mp hx)));omega
 .have:w5.length=0:=by rw[<-kP,z];rfl
  omega
theorem Gu{α:Type}{xs:List α}{k:Nat}:cut xs none (some (k:Int))=xs.take k:=by
 have h1:HT.sIx xs.length 0 none=0:=rfl;have h2:HT.sIx xs.length xs.length (some (k:Int))=min k xs.length:=HT.sIx_nat _ _ k;unfold cut;rw[h1,h2,rN,Jv];by_cases h:k<=xs.length
 .rw[Nat.min_eq_left h]
 .rw[Nat.min_eq_right 0#2,pb 0#9,pb 0#2]
variable{F:List (List Nat)}
theorem HK{k:Nat}:cut (tups F) none (some (k:Int))=tups (F.take k):=by
 rw[Gu];unfold tups;rw[DY]
section
variable {m:Nat}{T:Nat->Nat->Nat}{st:List Nat}{S:Sto}
def oM(m:Nat)(T:Nat->Nat->Nat)(st:List Nat)(most:Nat)(S:Sto)(r:List (Option U)):Rho:= [0#3,some (.tup (ai st)),16#1,1#1,some 4#4]++r
structure Sv(m:Nat)(T:Nat->Nat->Nat)(st:List Nat)(L:Nod->List (List Nat))(F:List (List Nat))(ln:List Nod)(μ:Nat):Prop where
 nd:∀p∈ln,Nd m p
 tot:F++rest T st L m ln=qJ T st L (m-1) ([],[0])
 ms:msr st.length m ln<=μ
 bd:μ<=30000
theorem Sv.start{L:Nod->List (List Nat)}(hm:0<m)(hz:iQ st.length (m-1)<=30000):Sv m T st L [] [([],[0])] (iQ st.length (m-1)):=
 ⟨λp hp=>by simp at hp;subst hp;exact⟨by simp,rfl,by simpa using hm⟩,by simp[rest],by simp[msr],hz⟩
variable{ln:List Nod}{μ:Nat}
theorem Sv.stop{L:Nod->List (List Nat)}(s:Sv m T st L F ln μ)(h:(!decide (ln=[])&&decide (F.length<most))=false):F.take most=(qJ T st L (m-1) ([],[0])).take most:=by
 rw[<-s.tot];by_cases hl:ln=[]
 .subst hl;simp[rest]
 .have:most<=F.length:=by simpa [hl]using h
  rw[ky this]
theorem Sv.leaf{L:Nod->List (List Nat)}{p:Nod}(s:Sv m T st L F (ln++[p]) (μ+1))(h:p.1.length=m-1):Sv m T st L (F++L p) ln μ:=by
 refine⟨λq hq=>s.nd q (bg _ hq),?_,?_,by have:=s.bd;exact aT 0#4⟩
 .have:=s.tot
  rw[EX h]at this;rw[<-this,aJ]
 .have:=s.ms
  rw[Dj]at this;have h1:=sy (b:=st.length) (k:=m-1-p.1.length);simp only[msr,bp,jr,DX,List.sum_nil]at this ⊢;omega
theorem Sv.inner{L:Nod->List (List Nat)}{p:Nod}(g:Grp m T)(hs:∀s∈st,s<m)(s:Sv m T st L F (ln++[p]) (μ+1))(h:p.1.length<m-1):Sv m T st L F 27#7 μ:=by
 have np:=s.nd p 0#8;refine⟨λq hq=>?_,?_,?_,by have:=s.bd;exact aT 0#4⟩
 .rcases be.mp hq with hq|hq
  .exact s.nd q (bg _ hq)
  .exact(yS g hs np h (List.mem_reverse.mp hq)).1
 .rw[Ca h λq hq=>(yS g hs np h hq).2];exact s.tot
 .have:=s.ms
  have:=Ga g hs np h;rw[Dj]at *;omega
def Dc:MS:=aX (wM (mML nc 1#3 af) (gTp 2 (eD (gN 5) (eD (gN 6) m8)))) (aX (bu 7 (m2 oIx (ae 6) 4#9)) (sIf (cOf (m2 oEq 11#7 (m2 sQ 6#2 1#4))) (du (mML gO 0#7 (aa (bK 4#6 (cOf (m2 oEq 16#6 1#8)) 27#1) af))) (aX (bu 8 (bK 4#6 (cOf (m2 fb 16#6 (ae 6))) (de (aa (ae 9) (aa 16#6 af))))) (du (mML gO 1#3 (aa (iu 2 (b0 (m1 sH (ae 8))) cTT (de (aa 27#1 (aa (m2 cK (ae 6) (de (aa (ae 10) af))) af)))) af))))))
def CP:MS:=aX (bu 3 2#7) (aX (bu 4 (bH 32#9)) (aX (jx FW Dc) (cb (mSl 0#7 none (some 0#5)))))
def pk(T:Nat->Nat->Nat)(st:List Nat)(p:Nod):List 5#4:=(st.filter λs=>decide (T (fT p.2) s=0)).map λs=>p.1++[s]
theorem Uu{p:Nod}(h0':Y[0]?=some (some (tab m T)))(h5:Y[5]?=some (some (.tup (ai p.1))))(hm:0<m):cOf (m2 oEq 11#7 (m2 sQ 6#2 1#4)) Y S'=some (decide (p.1.length=m-1),S'):=by
 have:=of_eq (Ep (Y:=Y) (S:=S') (a:=mFn bG 10#3) (b:=m2 sQ 6#2 1#4) (xX (var_eq h5)) (Je (len_tab (var_eq h0')) c_i));rw[this,bw]
 congr 2
 by_cases h:p.1.length=m-1
 .rw[decide_eq_true h,h];simp;omega
 .rw[decide_eq_false h];simp;omega
theorem Tp(h6:Y[6]?=some (some (.tup (ai th))))(hne:th≠[]):m2 oIx (ae 6) 4#9 Y S'=some (.int (fT th:Nat),S'):=Et (var_eq h6) IX (zf hne)
theorem Hk:bH 32#9 Y S'=some (.ref S'.length,S'++[.lst [lnU ([],[0])]]):=wx (BD (x:= .tup []) rfl (Cg c_i))
theorem ED{S:Sto}{k:Nat}{ws:List U}(ho:o Y S=some 10#1)(ha:a Y S=some (.ref k,S1))(hr:S[r]?=some (Cell.lst us))(hr1:S1[r]?=some (Cell.lst us))(hk:S1[k]?=some (Cell.lst ws))(hl:us.length+ws.length<=big):
  du (mML gO o 2#6) Y S=some (.nx,Y,S1.set r (.lst (us++ws))):=by
 simp only[du,mML,ho,az,getL,hr,ah,aa,af,ha,gO,hr1,hk];rw[if_pos hl];simp only[az]
theorem E2(g:Grp m T)(hm:m<100)(hs:∀s∈st,s<m)(hsl:st.length<1000)(hmo:most<10000000)(hz:iQ st.length (m-1)<=30000):
  ∃r S',_G.run 3 9 CP [tab m T,.tup (ai st),.int (most:Nat)] S=some (.ref r,S')/\Ex S S'/\S'[r]?=some (.lst 30#4):=by
 have hp:=g.pos;obtain⟨Y1,S1,e1,r,F,ln,x,rfl,rfl,hF⟩:=ux (c:=FW) (b:=Dc) (λμ Y S'=>∃a b c d F ln x,Y=oM m T st most S [a,b,c,d]/\S'=dA S F ln x/\Sv m T st (pk T st) F ln μ)
  (λY S' =>∃r F ln x,Y=oM m T st most S r/\S'=dA S F ln x/\F.take most=(qJ T st (pk T st) (m - 1) ([],[0])).take most) (by
  rintro μ Y S' ⟨a,b,c,d,F,ln,x,rfl,rfl,s⟩;refine⟨_,_,K1 (most:=most) rfl rfl rfl,λhf=>⟨_,F,ln,_,rfl,rfl,s.stop hf⟩,λht=>?_⟩;rw[ar]at ht;have hne:ln≠[]:=by simpa using ht.1
  have hFl:F.length<most:=of_decide_eq_true ht.2;obtain⟨ln,p,rfl⟩:=qr hne;have np:=s.nd p 0#8;have hln:ln.length<100000:=by
   have:=yA (m:=m) (b:=st.length) (ln++[p]);have:=s.ms;have:=s.bd;simp only[a8,cf,ej]at *;omega
  have hth:p.2≠[]:=by intro z;have:=np.len;rw[z]at this;simp at this
  cases μ with
  | zero=>
    have:=s.ms;have:=yA (m:=m) (b:=st.length) (ln++[p]);simp at this;omega
  |succ μ=>
  have e1:=JJ (S:=S) (F:=F) (ln:=ln) (x:=x++[.lst []]) (p:=p) (Y:=oM m T st most S [a,b,c,d]) rfl;have e0:bu 7 (m2 oIx (ae 6) 4#9) (oM m T st most S [some (.tup (ai p.1)),some (.tup (ai p.2)),c,d]) (dA S F ln 14#5)=some (.nx,oM m T st most S 21#2,dA S F ln 14#5):=bz (Tp rfl hth);have ec:=Uu (m:=m) (T:=T) (p:=p) (Y:=oM m T st most S 21#2) (S':=dA S F ln 14#5) rfl rfl hp;have hla:=Aa hth np.lt;by_cases hl:p.1.length=m-1
  .rw[decide_eq_true hl]at ec
   have e2:=sP (t:=cOf (m2 oEq 16#6 1#8)) (e:=m2 cK (ae 5) (de (aa (ae 9) af))) (Y:=oM m T st most S 21#2) (S:=dA S F ln 14#5) (a:=ae 1) (l:=st) (p:=λs=>decide (T (fT p.2) s=0)) (f:=λs=>.tup (ai (p.1++[s]))) 0#0 hsl
    (λs hs'=>of_eq (PR (y:=0) (ip (T:=T) (i:=fT p.2) (j:=s) (hs s hs') (ij hla 0#0 0#0) 0#0) c_i)) (λs hs' _=>CO (x:=p.1) (y:= [s]) 0#0 (Cg 0#0) 16#2)
   have hrl:((st.filter λs=>decide (T (fT p.2) s=0)).map λs=>U.tup (ai (p.1++[s])))=tups (pk T st p):=by
    unfold tups pk;rw[eZ];rfl
   rw[hrl,fV]at e2;have hll:(pk T st p).length<=st.length:=by unfold pk;rw[ax];exact fo _ _
   have e3:=ED (Y:=oM m T st most S 21#2) (o:=ae 3) (r:=S.length) 0#0 e2 h0 h0 (by rw[<-fV];exact bD _ _) (by simp only[tups,ax];unfold big;omega);rw[show(dA S F ln (x++2#4++[Cell.lst (tups (pk T st p))])).set S.length (Cell.lst (tups F++tups (pk T st p)))=dA S (F++pk T st p) ln (x++2#4++[Cell.lst (tups (pk T st p))]) from(show(S++[_,_]++_).set S.length _=_ from t0).trans (by simp[dA,tups])]at e3;exact⟨_,_,μ,bB _,(aO e1).trans ((aO e0).trans ((jP ec).trans e3)),_,_,_,_,_,_,_,rfl,rfl,s.leaf hl⟩
  .rw[decide_eq_false hl]at ec
   have hlt:p.1.length<m-1:=by have:=np.le;exact i6 0#4 0#4
   obtain⟨v,x',e2⟩:=HP (S:=S) (F:=F) (ln:=ln) (x:=x++[.lst []]) (i:=8) (n:=9) (h:=fT p.2) (he:=ae 7) (p:=p) (Y:=oM m T st most S 21#2) hla hs hsl 0#2 (by have:=np.len;omega) hln rfl rfl rfl rfl rfl rfl rfl 0#1 0#1 (λz S'=>var_eq rfl)
   exact⟨_,_,μ,bB _,(aO e1).trans ((aO e0).trans ((iA ec).trans e2)),_,_,_,_,_,_,_,rfl,rfl,s.inner g hs hlt⟩) fuel (iQ st.length (m - 1)) (oM m T st most S [none,none,none,none]) (dA S [] [([],[0])] []) (by unfold fuel;exact aA (by assumption) (by decide)) ⟨_,_,_,_,_,_,_,rfl,rfl,Sv.start hp hz⟩
 have e9:mSl 0#7 none (some 0#5) (oM m T st most S r) (dA S F ln x)=some (.ref (dA S F ln x).length,dA S F ln x++[.lst (tups (F.take most))]):=by
  have c:(dA S F ln x)[S.length]?=some (.lst (tups F)):=h0;have v3:ae 3 (oM m T st most S r) (dA S F ln x)=some (.ref S.length,dA S F ln x):=var_eq rfl;have v2:ae 2 (oM m T st most S r) (dA S F ln x)=some (.int (most:Nat),dA S F ln x):=var_eq rfl;simp only[mSl,v3,az,uU,v2,getL,c,aI];rw[HK]
 rw[hF]at e9;refine⟨(dA S F ln x).length,dA S F ln x++[.lst 30#4],cw (Y:=oM m T st most S r) rfl ?_,⟨[.lst (tups F),.lst (ln.map lnU)]++x++[.lst 30#4],by unfold dA;simp⟩,bD _ _⟩;show CP [0#3,some (.tup (ai st)),12#6,none,none,none,none,none,none] S=_;refine(aO (bz fA)).trans ((aO (bz Hk)).trans ?_);refine(aO (Y1:=oM m T st most S r) (S1:=dA S F ln x) ?_).trans (cu e9);rw[<-e1];simp[jx,dA,oM,tups]
end
theorem Ex.set{S S':Sto}{r:Nat}{c:Cell}(h:Ex S S')(hr:S.length<=r):Ex S (S'.set r c):=by
 obtain⟨t,rfl⟩:=h;exact⟨t.set (r-S.length) c,by rw[dP _ _ hr]⟩
section
variable {m:Nat}{T:Nat->Nat->Nat}{st:List Nat}
end
open PySem in
open PySem in
section
variable {m:Nat}{T:Nat->Nat->Nat}{st:List Nat}{S:Sto}
end
abbrev Rds:=List (Nat×List Nat)
def kF(ks:Rds):List Nat:=ks.map Prod.fst
def fG(ks:Rds):List (_L.Key×U):=ks.map λp=>(eQ (p.1:Int),U.tup (ai p.2))
variable{ks:Rds}
theorem Ir:tY (fG ks) 6#1=decide (x∈kF ks):=by
 have:tY (fG ks) 6#1=true↔x∈kF ks:=by
  rw[q9];unfold fG kF;constructor
  .rintro ⟨kv,hm,e⟩
   obtain⟨y,hy,rfl⟩:=aQ.mp hm;have e':(y.1:Int)=x:=wG e;exact aQ.mpr ⟨y,hy,by omega⟩
  .intro h
   obtain⟨y,hy,rfl⟩:=aQ.mp h;exact⟨_,aQ.mpr ⟨y,hy,rfl⟩,rfl⟩
 by_cases h:x∈kF ks
 .rw[this.mpr h];simp[h]
 .cases q:tY (fG ks) 6#1 with
  |true=>exact absurd (this.mp q) h
  |false=>simp[h]
theorem SB(h:x∉kF ks):lq (fG ks) 6#1 8#2=fG (ks++[(x,w)]):=by
 unfold lq;rw[if_neg]
 .simp[fG]
 .intro z
  obtain⟨kv,hm,e⟩:=fY.mp z;have:tY (fG ks) 6#1=true:=q9.mpr ⟨kv,hm,of_decide_eq_true e⟩;rw[Ir]at this;exact h (of_decide_eq_true this)
theorem Eo(ks:Rds):(fG ks).length=ks.length:=by simp[fG]
theorem vF:∀(ks:Rds),dS lr (fG ks)=some (iz (kF ks))
 |[]=>rfl
 | x::l=>by
   show(lr (eQ (x.1:Int),U.tup (ai x.2))).bind _=_;simp only[lr,ah];rw[show JF (λ(p:Nat×List Nat)=>(eQ (p.1:Int),U.tup (ai p.2))) l=fG l from rfl,vF l];rfl
def iT(ks:Rds)(x:Nat):List Nat:=((ks.find? λp=>decide (p.1=x)).map Prod.snd).getD []
theorem LY{x:Nat}:∀{ks:Rds},x∈kF ks->kf (fG ks) 6#1=some (.tup (ai (iT ks x)))
 |[],h=>by simp[kF]at h
 | p::ks,h=>by
   unfold kf iT fG;rw[bp,bV,bV];by_cases e:p.1=x
   .have:(eQ (p.1:Int):_L.Key)=.inl (x:Int):=by rw[e]
    simp[e]
   .have e1: ¬((eQ (p.1:Int):_L.Key)=.inl (x:Int)):=λz=>e (by have:=wG z;omega)
    simp only[decide_eq_false e,decide_eq_false e1];have h':x∈kF ks:=by
     rcases a9.mp (show x∈p.1::kF ks from h) with z|z
     .exact absurd z.symm e
     .exact z
    exact LY (ks:=ks) h'
theorem pA{x:Nat}:∀{ks:Rds},x∈kF ks->(x,iT ks x)∈ks
 |[],h=>by simp[kF]at h
 | p::ks,h=>by
   unfold iT;rw[bV];by_cases e:p.1=x
   .rw[decide_eq_true e]
    show(x,p.2)∈p::ks;rw[<-e];exact a7
   .have h':x∈kF ks:=by
     rcases a9.mp (show x∈p.1::kF ks from h) with z|z
     .exact absurd z.symm e
     .exact z
    rw[decide_eq_false e];exact aD _ (pA (ks:=ks) h')
structure Rd(T:Nat->Nat->Nat)(ths:List Nat)(ks:Rds):Prop where
 go:∀p∈ks,dQ T p.2=p.1
 by':∀p∈ks,∀y∈p.2,y∈ths
 len:∀p∈ks,p.2.length<ks.length
section
variable {m:Nat}{T:Nat->Nat->Nat}{ths:List Nat}{S x:Sto}{v:U}
def gg(S:Sto)(p:Rds×List Nat)(x:Sto):Sto:=S++[.dic (fG p.1),.lst (ai p.2)]++x
def Br(T:Nat->Nat->Nat)(h y:Nat)(p:Rds×List Nat):Rds×List Nat:=if T h y∈kF p.1 then p else(p.1++20#0,p.2++[T h y])
def cvR(p:Rds×List Nat):List Nat×List Nat:=(kF p.1,p.2)
theorem KS{p:Rds×List Nat}:cvR (Br T h y p)=tryD T h y (cvR p):=by
 by_cases e:T h y∈kF p.1
 .rw[Br,if_pos e,tryD,if_pos (show T h y∈(cvR p).1 from e)]
 .rw[Br,if_neg e,tryD,if_neg (show ¬T h y∈(cvR p).1 from e)]
  simp[cvR,kF]
theorem Kr{p:Rds×List Nat}(hr:Rd T ths p.1)(hh:h∈kF p.1)(hy:y∈ths):Rd T ths (Br T h y p).1:=by
 unfold Br
 split
 .exact hr
 .have hm:=pA hh
  refine⟨λq hq=>?_,λq hq=>?_,λq hq=>?_⟩
  .rcases be.mp hq with hq|hq
   .exact hr.go q hq
   .simp at hq;subst hq
    show dQ T (iT p.1 h++[y])=T h y;have:=hr.go _ hm;unfold dQ at this ⊢;rw[mT,this];rfl
  .rcases be.mp hq with hq|hq
   .exact hr.by' q hq
   .simp at hq;subst hq
    intro z hz;rcases be.mp hz with hz|hz
    .exact hr.by' _ hm z hz
    .simp at hz;rw[hz];exact hy
  .rw[a8]
   rcases be.mp hq with hq|hq
   .have:=hr.len q hq;simp;exact g9 0#4
   .simp at hq;subst hq
    have:=hr.len _ hm;simp at this ⊢;assumption
theorem Ph{S:Sto}(ha:a Y S=some (.ref r,S1))(hb:b Y S1=some (.int (y:Nat),S2))(hr:S2[r]?=some (Cell.dic kvs))(h:kf kvs (.inl (y:Int))=some u):m2 oIx a b Y S=some (u,S2):=
 op2 ha hb (by simp only[oIx,ft,hr,keyOf,ah,h,aI])
theorem MQ{S:Sto}{i:ME}(he:e Y S=some (u,S))(ho:o Y S=some 10#1)(hi:i Y S=some (.int z,S))(hr:S[r]?=some (Cell.dic kvs))(hl:kvs.length<big):eM o i e Y S=some (.nx,Y,S.set r (.dic (lq kvs (.inl z) u))):=by
 simp only[eM,he,az,ho,hi,hr,keyOf,ah,hl,if_true]
def sD:MS:=aX (bu 6 15#0) (sIf (cOf (m2 fb (ae 6) 0#5)) (aX (eM 0#5 (ae 6) (m2 cK (m2 oIx 0#5 1#3) (de 10#3))) (du (mML bF 0#7 (aa (ae 6) af)))) cW)
def Ma:MS:=aX (bu 4 (mML nc 0#7 af)) (ee 5 4#6 sD)
def CS:MS:=aX (bu 2 (nA 1#8 (de af))) (aX (bu 3 (bH 8#8)) (aX (jx IQ Ma) (cb 0#5)))
def spM:MS:=cb (mFn bC (aa (mFn dy (aa (mFn (_G.run 2 7 CS) 3#7) af)) af))
theorem EZ{c:Option U}{p:Rds×List Nat}(hh:h<m)(hy:y<m)(hk:h∈kF p.1)(hr:Rd T ths p.1)(l1:p.1.length<1000)(l2:p.2.length<big):
  sD (spR m T v S [8#9,some (.int y),c]) (gg S p x)=some (.nx,spR m T v S 21#5,gg S (Br T h y p) x):=by
 have e6:m2 oIx (m2 oIx 0#6 1#3) (ae 5) (spR m T v S [8#9,some (.int y),c]) (gg S p x)=some (.int (T h y:Nat),gg S p x):=ip hy (ij hh 0#0 0#0) 0#0;refine(aO (bz e6)).trans ?_;show sIf _ _ _ (spR m T v S 21#5) (gg S p x)=_;have ec:=yQ (Y:=spR m T v S 21#5) (a:=ae 6) (b:=ae 2) (x:=T h y) 0#0 0#0 33#5;rw[Ir]at ec;unfold Br;by_cases hin:T h y∈kF p.1
 .rw[if_pos hin]
  rw[decide_eq_true hin]at ec;exact iA ec
 .rw[if_neg hin]
  rw[decide_eq_false hin]at ec;refine(jP ec).trans ?_;have hrl:=hr.len _ (pA hk);have ea:m2 cK (m2 oIx 0#5 1#3) (de 10#3) (spR m T v S 21#5) (gg S p x)=some (.tup (ai (iT p.1 h++[y])),gg S p x):=CO (x:=iT p.1 h) (y:= [y]) (Ph (y:=h) 0#0 0#0 33#5 (LY hk)) (Cg 0#0) (by simp at hrl ⊢;exact aA 0#4 0#4);have e1:=MQ (o:=ae 2) (i:=ae 6) ea 0#0 0#0 33#5 (by rw[Eo];unfold big;exact aj 0#4 0#1);rw[SB hin,show(gg S p x).set S.length (.dic (fG (p.1++20#0)))=gg S (p.1++20#0,p.2) x from t0]at e1;refine(aO e1).trans ?_;have e2:=append_eq (Y:=spR m T v S 21#5) (o:=ae 3) (a:=ae 6) 0#0 0#0 (show(gg S (p.1++20#0,p.2) x)[S.length+1]?=_ from h1) h1 (by rw[bw];exact l2);rw[show(gg S (p.1++20#0,p.2) x).set 11#8 _=S++[.dic (fG (p.1++20#0)),_]++x from t1]at e2;rw[e2];simp[gg,ai]
theorem Lm{a b c:Option U}{μ:Nat}{p:Rds×List Nat}(g:Grp m T)(hm:m<64)(X4:μ<1000)(ht:∀z∈ths,z<m)(hv:Wk S v ths)(n:Inn m T ths h 0 (cvR p) μ)(hr:Rd T ths p.1):
  ∃b' c' q,ee 5 4#6 sD (spR m T v S [8#9,b,c]) (gg S p x)=some (.nx,spR m T v S [8#9,b',c'],gg S q x)/\Inn m T ths h ths.length (cvR q) μ/\Rd T ths q.1:=by
 have hh:h<m:=n.d.lt h n.hk;have stp:∀(k:Nat) (u:U) (Y:Rho) (S':Sto),(ai ths)[k]?=some u->(∃b c q,S'=gg S q x/\Y=spR m T v S [8#9,b,c]/\Inn m T ths h k (cvR q) μ/\Rd T ths q.1)->∃Y2 S'',sD (Y.set 5 (some u)) S'=some (.nx,Y2,S'') /\ ∃b c q,S''=gg S q x/\Y2=spR m T v S [8#9,b,c]/\Inn m T ths h (k+1) (cvR q) μ/\Rd T ths q.1:=by
  rintro k u Y S' hu ⟨b,c,q,rfl,rfl,q3,q4⟩;obtain⟨y,hy,rfl⟩:=hJ hu;have l:=q3.st_le X4 hm;have hym:=bP hy;have l1:q.1.length<1000:=by have:=q3.d.len;simp only[cvR,kF,ax]at this;exact aA 0#4 (aj 0#4 0#1)
  refine⟨_,_,EZ (S:=S) (x:=x) (v:=v) (c:=c) hh (ht y hym) q3.hk q4 l1 l.2,_,_,_,rfl,rfl,?_,Kr q4 q3.hk hym⟩;rw[KS];exact q3.try g ht hy
 rcases hv with rfl|⟨r,rfl,hr1,hl⟩
 .obtain⟨Y2,S',e,b',c',q,rfl,rfl,q3,q4⟩:=pz (i:=5) (b:=sD) (e:=ae 1) (Y:=spR m T (.tup (ai ths)) S [8#9,b,c]) (S:=gg S p x) (us:=ai ths) 0#0 _ ⟨b,c,p,rfl,rfl,n,hr⟩ stp
  rw[bw]at q3;exact⟨b',c',q,e,q3,q4⟩
 .have hrl:=(ag.mp hr1).1
  obtain⟨Y2,S',e,b',c',q,rfl,rfl,q3,q4⟩:=yt (i:=5) (b:=sD) (e:=ae 1) (Y:=spR m T (.ref r) S [8#9,b,c]) (S:=gg S p x) (us:=ai ths) 0#0 (by rw[bw];exact aj 0#4 0#1) _ ⟨b,c,p,rfl,rfl,n,hr⟩
   (by
    rintro k Y S' ⟨b,c,q,rfl,_⟩;unfold getL gg
    rw[aJ,aM hrl,hr1]) stp
  rw[bw]at q3;exact⟨b',c',q,e,q3,q4⟩
theorem G0(g:Grp m T)(hm:m<64)(ht:∀z∈ths,z<m)(hv:Wk S v ths):∃ks S',_G.run 2 7 CS [tab m T,v] S=some 13#1/\Ex S S'/\S'[S.length]?=some (.dic (fG ks))/\Dfs m T ths (kF ks) (λ_=>False)/\Rd T ths ks:=by
 have hp:=g.pos;obtain⟨Y2,S1,e1,⟨r,ks,x,rfl,rfl,d,hr⟩⟩:=ux (c:=IQ) (b:=Ma) (λμ Y S'=>∃a b c p x,Y=spR m T v S [a,b,c]/\S'=gg S p x/\yz m T ths (kF p.1) p.2 μ/\μ<1000/\Rd T ths p.1)
  (λY S' =>∃r ks x,Y=spR m T v S r/\S'=gg S (ks,[]) x/\Dfs m T ths (kF ks) (λ_=>False)/\Rd T ths ks) (by
  rintro μ Y S' ⟨a,b,c,p,x,rfl,rfl,s,X4,hr⟩;have ec:IQ (spR m T v S [a,b,c]) (gg S p x)=some (decide ((0:Int)<(ai p.2).length),gg S p x):=of_eq (Ih (tE 0#0 h1) c_i);refine⟨_,_,ec,λhf=>?_,λhf=>?_⟩
  .have h2:p.2=[]:=by
    have:=of_decide_eq_false hf;rw[bw]at this;exact Fz.mp 0#2
   refine⟨_,p.1,x,rfl,by rw[<-h2],?_,hr⟩;have:=s.d;rw[h2]at this;exact⟨this.nd,this.lt,this.z,this.rc,λx hx=>(this.cl x hx).imp 0#8 id⟩
  .have h2:p.2≠[]:=λe=>by rw[e]at hf;simp[ai]at hf
   obtain⟨st,h,e⟩:=qr h2;obtain⟨ks,s2⟩:=p;subst e;cases μ with
   |zero=>have:=s.ms;simp at this
   |succ μ=>
   have e4:bu 4 (mML nc 0#7 af) (spR m T v S [a,b,c]) (gg S (ks,st++[h]) x)=some (.nx,spR m T v S [8#9,b,c],gg S (ks,st) x):=by
    rw[bz (i:=4) (De (Y:=spR m T v S [a,b,c]) (S:=gg S (ks,st++[h]) x) (o:=ae 3) (r:=S.length+1) 0#0 h1)];rw[show(gg S (ks,st++[h]) x).set 11#8 (Cell.lst (ai st))=gg S (ks,st) x from t1];rfl
   obtain⟨b',c',q,e5,i,hq⟩:=Lm (S:=S) (x:=x) (a:=a) (b:=b) (c:=c) (p:=(ks,st)) g hm (by exact aT 0#4) ht hv s.pop hr
   exact⟨_,_,μ,bB _,(aO e4).trans e5,_,_,_,q,x,rfl,rfl,i.done,by exact aT (by assumption),hq⟩) fuel (2*m) (spR m T v S [none,none,none]) (gg S ([(0,[])],[0]) []) (by unfold fuel;omega) ⟨_,_,_,([(0,[])],[0]),[],rfl,rfl,yz.start hp,by omega,⟨λp hp=>by simp at hp;subst hp;rfl,λp hp=>by simp at hp;subst hp;simp,λp hp=>by simp at hp;subst hp;simp⟩⟩
 refine⟨ks,_,cw (Y:=spR m T v S r) rfl ?_,?_,(show(gg S (ks,[]) x)[S.length]?=_ from h0),d,hr⟩
 .show CS [0#3,some v,none,none,none,none,none] S=_
  have ed:nA 1#8 (de af) [0#3,some v,none,none,none,none,none] S=some (.ref S.length,S++[.dic (fG [(0,[])])]):=by
   simp[nA,mC,de,af,az,keyOf,fG,ai]
  refine(aO (bz ed)).trans ((aO (bz (wx c_i))).trans ?_);refine(aO (Y1:=spR m T v S r) (S1:=gg S (ks,[]) x) ?_).trans (cu 0#0);rw[<-e1];simp[jx,gg,spR,ai]
 .unfold gg;rw[aJ];exact⟨_,rfl⟩
theorem NL(g:Grp m T)(hm:m<64)(ht:∀z∈ths,z<m)(hv:Wk S v ths):∃ks S',_G.run 2 2 spM [tab m T,v] S=some (.tup (ai (srt ks)),S')/\Ex S S'/\Dfs m T ths ks λ_=>False:=by
 obtain⟨ks,S1,e1,x1,q1,d,_⟩:=G0 (v:=v) g hm ht hv;have hl:(kF ks).length<64:=aA d.len hm;have e2:mFn dy (aa (mFn (_G.run 2 7 CS) 3#7) af) [0#3,some v] S=some (.ref S1.length,S1++[.lst (ai (srt (kF ks)))]):=gH (cJ 0#0 0#0 e1) (qQ (by simp only[tw,ft,q1,vF]) hl);exact⟨kF ks,_,cw (Y:= [0#3,some v]) rfl (cu (eU e2)),x1.trans 3#1,d⟩
theorem TF(g:Grp m T)(hm:m<64)(ht:∀z∈ths,z<m):∃ks S',_G.run 2 2 spM [tab m T,.tup (ai ths)] S=some (.tup (ai (srt ks)),S')/\Ex S S'/\Dfs m T ths ks λ_=>False:=NL g hm ht 5#5
end
theorem Rf{α β γ:Sort _}{f:α->β->γ}{a a':α}{b b':β}(h1:a=a')(h2:b=b'):f a b=f a' b':=by rw[h1,h2]
section
variable {m:Nat}{T:Nat->Nat->Nat}
abbrev Lt(m:Nat)(w:List Nat):Prop:= ∀x∈w,x<m
theorem Lt.app{a b:List Nat}(ha:Lt m a)(hb:Lt m b):Lt m (a++b):=λx hx=>(be.mp hx).elim (ha x) (hb x)
theorem Lt.tk{a:List Nat}(ha:Lt m a)(k:Nat):Lt m (a.take k):=λx hx=>ha x (ku hx)
theorem zP(g:Grp m T)(hw:Lt m w):dQ T w<m:=Dh g.pos g.cl hw
theorem xT:dQ T (w++[x])=T (dQ T w) x:=by unfold dQ;rw[mT];rfl
theorem Ht(g:Grp m T)(hx:x<m):unT m T x<m:=(uh g hx).1
theorem QD(g:Grp m T)(hx:x<m):T x (unT m T x)=0:=(uh g hx).2.1
theorem Qk(g:Grp m T)(hx:x<m):T (unT m T x) x=0:=(uh g hx).2.2.1
theorem TJ(g:Grp m T)(hx:x<m)(hy:y<m)(h:T x y=0):y=unT m T x:=(uh g hx).2.2.2 y hy h
theorem SX(g:Grp m T)(hx:x<m):unT m T (unT m T x)=x:=(TJ g (Ht g hx) hx (Qk g hx)).symm
theorem FT:plc T (w++[x])=plc T w++[T (dQ T w) x]:=by
 unfold plc;rw[a8,cf,ej,eS,ck];refine Rf (bN λk hk=>?_) ?_
 .have:=bZ.mp hk
  rw[ky (by exact eT 0#4)]
 .show [dQ T ((w++[x]).take (w.length+1))]=_
  rw[pb 0#8,xT]
theorem JY:(plc T w).length=w.length+1:=by simp[plc]
theorem NY(g:Grp m T)(hw:Lt m w):Lt m (plc T w):=λx hx=>by
 obtain⟨k,_,rfl⟩:=aQ.mp hx;exact zP g (hw.tk k)
def pre(T:Nat->Nat->Nat)(w:List Nat):List Nat:=(ay w.length).map λk=>dQ T (w.take k)
theorem uk:plc T w=pre T w++[dQ T w]:=by
 unfold plc pre;rw[eS,ck];simp
theorem zu:(pre T w).length=w.length:=by simp[pre]
structure All(m:Nat)(l:List Nat):Prop where
 nd:l.Nodup
 lt:Lt m l
 len:l.length=m
theorem All.map{f:Nat->Nat}(h:All m l)(lt:∀x,x<m->f x<m)(inj:∀x y,x<m->y<m->f x=f y->x=y):All m (l.map f):=by
 refine⟨?_,λx hx=>?_,by simp[h.len]⟩
 .rw[bS,g8]
  exact kB (λha hb hab e=>hab (inj _ _ (h.lt _ ha) (h.lt _ hb) e)) (bS.mp h.nd)
 .obtain⟨y,hy,rfl⟩:=aQ.mp hx
  exact lt y (h.lt y hy)
theorem All.left(g:Grp m T){a:Nat}(ha:a<m)(h:All m l):All m (l.map (T a)):=
 h.map (λx hx=>g.cl a x ha hx) λx y hx hy e=>g.cancel ha hx hy e
structure Rnd(m:Nat)(T:Nat->Nat->Nat)(w:List Nat):Prop where
 home:dQ T w=0
 all:All m (pre T w)
structure Gd(T:Nat->Nat->Nat)(st:List Nat)(p:Nod):Prop where
 pl:p.2=plc T p.1
 nd:p.2.Nodup
 by':∀x∈p.1,x∈st
theorem wg:fT (plc T w)=dQ T w:=by rw[uk,mB]
theorem Cv{st:List Nat}{L:Nod->List (List Nat)}:∀(k:Nat) (p:Nod) (w:List Nat),Gd T st p->w∈qJ T st L k p->∃q:Nod,Gd T st q/\q.1.length=p.1.length+k/\w∈L q
 |0,p,w,h,e=>⟨p,h,rfl,e⟩
 | k+1,p,w,h,e=>by
   obtain⟨q,hq,e⟩:=List.mem_flatMap.mp (show w∈(kids T st p).flatMap (qJ T st L k) from e);obtain⟨s,hs,rfl⟩:=aQ.mp hq;obtain⟨hs1,hs2⟩:=eR.mp hs;have hn:T (fT p.2) s∉p.2:=by simpa using hs2
   have hl:fT p.2=dQ T p.1:=by rw[h.pl,wg]
   have gd:Gd T st (p.1++[s],p.2++[T (fT p.2) s]):=by
    refine⟨?_,?_,λx hx=>?_⟩
    .show p.2++[T (fT p.2) s]=plc T (p.1++[s])
     rw[FT,hl,<-h.pl]
    .show(p.2++[T (fT p.2) s]).Nodup
     rw[ju];exact⟨h.nd,by simp,λa ha b hb=>by simp at hb;rintro rfl;exact hn (hb▸ha)⟩
    .rcases be.mp hx with hx|hx
     .exact h.by' x hx
     .simp at hx;rw[hx];exact hs1
   obtain⟨q,g1,g2,g3⟩:=Cv k _ w gd e;exact⟨q,g1,by rw[g2];simp;omega,g3⟩
variable{st:List Nat}
theorem IC:Gd T st ([],[0]):=⟨rfl,by simp,by simp⟩
theorem tj{w:List Nat}(g:Grp m T)(hs:Lt m st)(h:w∈qJ T st (pk T st) (m-1) ([],[0])):Rnd m T w/\(∀x∈w,x∈st)/\w.length=m:=by
 obtain⟨q,g1,g2,g3⟩:=Cv _ _ _ IC h;obtain⟨s,hs1,rfl⟩:=aQ.mp g3;obtain⟨hs1,hs2⟩:=eR.mp hs1;have hl:fT q.2=dQ T q.1:=by rw[g1.pl,wg]
 rw[hl]at hs2;have hs2:=of_decide_eq_true hs2;have hp:=g.pos;have hlen:q.1.length=m-1:=by simpa using g2
 have lt1:Lt m q.1:=λx hx=>hs x (g1.by' x hx);refine⟨⟨by rw[xT];exact hs2,?_⟩,λx hx=>?_,by simp;omega⟩
 .have:pre T (q.1++[s])=plc T q.1:=by
   unfold pre plc;rw[a8,cf,ej];refine bN λk hk=>?_;have:=bZ.mp hk;rw[ky (by exact eT 0#4)]
  rw[this];exact⟨by rw[<-g1.pl];exact g1.nd,NY g lt1,by rw[JY];omega⟩
 .rcases be.mp hx with hx|hx
  .exact g1.by' x hx
  .simp at hx;rw[hx];exact hs1
end
theorem yJ{x y:Bool}(ha:a Y S=some (.bl x,S1))(hb:x=true->b Y S1=some (.bl y,S2))(hf:x=false->S2=S1):j7 a b Y S=some (.bl (x&&y),S2):=by
 cases x with
 |true=>simp only[j7,ha,az,hb rfl,DZ]
 |false=>simp only[j7,ha,az,hf rfl,Bool.false_and]
theorem B1{x y:Bool}(ha:a Y S=some (.bl x,S1))(hb:b Y S1=some (.bl y,S2))(x1:Ex S S1)(x2:Ex S1 S2):∃S',j7 a b Y S=some (.bl (x&&y),S')/\Ex S S':=by
 cases x with
 |true=>exact⟨S2,yJ ha (λ_=>hb) (λz=>by cases z),x1.trans x2⟩
 |false=>exact⟨S1,yJ (y:=y) ha (λz=>by cases z) (λ_=>rfl),x1⟩
theorem z9{α:Type}{f:α->Bool}:∀l:List α,dS kc 23#6=some (l.map f)
 |[]=>rfl
 | x::l=>by
   show(kc (U.bl (f x))).bind _=_;simp only[kc,ah];rw[z9 l];rfl
theorem Nu{α:Type}{f:α->Bool}{l:List α}(ha:a Y S=some (.ref r,S1))(hr:S1[r]?=some (.lst 23#6)):mFn r9 2#6 Y S=some (.bl (l.all f),S1):=by
 refine gH ha ?_;simp only[r9,getL,hr,ah,z9,aI]
 congr 2
 simp[List.all_map,Function.comp_def]
theorem Rx{x y:List Nat}(ha:a Y S=some (.tup (ai x),S1))(hb:b Y S1=some (.tup (ai y),S2)):m2 oEq a b Y S=some (.bl (decide (x=y)),S2):=
 op2 ha hb (by simp only[oEq,DK,aI])
theorem Gx(ha:a Y S=some (.tup 2#0,S1))(hl:l.length<64):mFn dy 2#6 Y S=some 33#4:=
 gH ha (qQ (by simp only[tw,ft,eC,ah,ph]) hl)
theorem x8(m:Nat):srt (ay m)=ay m:=by
 have h:iz (ay m)=ql (iz (ay m)):=qS (List.Perm.refl _) (by
  unfold iz;rw[g8]
  exact(FL (n:=m)).imp λh=>by omega)
 unfold srt;rw[<-h];exact pf _
section
variable {m:Nat}{T:Nat->Nat->Nat}{st w:List Nat}{S:Sto}
def nbM:MS:=cb (j7 (m1 (iW "int") 0#6) (j7 (m1 tU (m1 (iW "bool") 0#6)) (mCh oLe oLt 1#8 0#6 1#5)))
theorem SJ:_G.run 2 2 nbM [.int (x:Nat),.int (n:Nat)] S=some (.bl (decide (x<n)),S):=by
 refine cw (Y:= 18#9) rfl (cu ?_);have h1:m1 (iW "int") 0#6 18#9 S=some (.bl true,S):=rfl;have h2:m1 tU (m1 (iW "bool") 0#6) 18#9 S=some (.bl true,S):=rfl;have h3:mCh oLe oLt 1#8 0#6 1#5 18#9 S=some (.bl (decide (x<n)),S):=by
  have v0:ae 0 18#9 S=some (.int (x:Nat),S):=rfl;have v1:ae 1 18#9 S=some (.int (n:Nat),S):=rfl;have l:oLe (.int 0) 16#3 S=some (.bl true,S):=by
   show some (U.bl (decide ((0:Int)<=(x:Int))),S)=_;rw[decide_eq_true (by exact mL _)]
  have l2:oLt 16#3 (.int (n:Nat)) S=some (.bl (decide (x<n)),S):=by
   show some (U.bl (decide ((x:Int)<(n:Int))),S)=_
   congr 2
   simp
  simp only[mCh,mC,az,v0,l,v1,l2]
 exact yJ h1 (λ_=>yJ h2 (λ_=>h3) (λz=>by cases z)) (λz=>by cases z)
def TL:MS:=cb (j7 (m1 (iW "tuple") 0#6) (mFn r9 (aa (bK (b0 0#6) cTT (mFn (_G.run 2 2 nbM) (aa 0#5 6#0))) af)))
theorem ve{S:Sto}{l:List Nat}(ha:a Y S=some (.tup 2#0,S))(hl:l.length<10000000)(he:∀x∈l,e 17#1 S=some (f x,S)):bK (b0 a) cTT e Y S=some (.ref S.length,S++[.lst (l.map f)]):=by
 have h:=u0 (t:=cTT) (e:=e) (Y:=Y) (S:=S) (a:=a) (l:=l) (p:=λ_=>true) (f:=f) ha 22#5 (λ_ _=>rfl) (λx hx _=>he x hx);rwa[List.filter_eq_self.mpr (λ_ _=>rfl)]at h
theorem ON(hl:w.length<10000000):∃S',_G.run 2 2 TL [.tup (ai w),.int (n:Nat)] S=some (.bl (w.all λx=>decide (x<n)),S')/\Ex S S':=by
 have h1:m1 (iW "tuple") 0#6 [3#9,some (.int (n:Nat))] S=some (.bl true,S):=isT 0#0;have h2:=ve (e:=mFn (_G.run 2 2 nbM) (aa 0#5 6#0)) (Y:= [3#9,some (.int (n:Nat))]) (S:=S) (a:=ae 0) (l:=w) (f:=λx=>.bl (decide (x<n))) 0#0 hl (λx _=>cJ 0#0 0#0 SJ);obtain⟨S',e,x⟩:=B1 h1 (Nu h2 (bD _ _)) (Ex.refl _) 3#1;exact⟨S',cw (Y:= [3#9,some (.int (n:Nat))]) rfl (cu (e.trans (by rw[DZ]))),x⟩
theorem Us{S:Sto}(ha:a Y S=some 4#2)(hb:b Y S1=some (.tup 2#0,S2)):m2 oIn a b Y S=some (.bl (decide (x∈l)),S2):=
 op2 ha hb (by simp only[oIn,ft,fC,ah,eC,lL,aI,uz])
def Ur:MS:=cb (m2 oEq (mFn bC (aa (mFn dy 6#0) af)) (mFn (_G.run 1 1 atM) 4#0))
theorem Qi(hm:m<1000)(hl:l.length<64):∃S',_G.run 2 2 Ur [tab m T,.tup 2#0] S=some (.bl (decide (srt l=ay m)),S')/\Ex S S':=
 ⟨_,cw (Y:= [0#3,some (.tup 2#0)]) rfl (cu (Rx (eU (Gx 0#0 hl)) (gH 0#0 (GL hm)))),Ex.push _ _⟩
theorem Jj(hne:True):atI (ai (plc T w)) (-1)=some (.int (dQ T w:Nat)):=by
 have:=zf (th:=plc T w) (by rw[uk];simp);rw[wg]at this;exact this
theorem z5{α:Type}{xs:List α}{y:α}:cut (xs++[y]) none (some (-1))=xs:=by
 unfold cut;have h1:HT.sIx (xs++[y]).length 0 none=0:=rfl;have h2:HT.sIx (xs++[y]).length (xs++[y]).length (some (-1))=xs.length:=by
  unfold HT.sIx;simp;omega
 rw[h1,h2];simp
theorem LW{S:Sto}(ha:a Y S=some (.tup (ai (l++[x])),S1)):mSl a none (some 4#9) Y S=some (.tup 2#0,S1):=by
 have e:ai (l++[x])=ai l++[.int x]:=by simp[ai]
 rw[e]at ha;have n1:m1 fZ 1#4 Y S1=some (.int (-1),S1):=rfl;simp only[mSl,ha,az,uU,n1,z5]
end
def tabS(S:Sto)(n:Nat)(T:Nat->Nat->Nat)(k:Nat):Sto:=S++[Cell.lst ((ay k).map (lM n T))]++(ay k).map λi=>Cell.lst ((ay n).map λj=>U.int (T i j))
theorem EE{k:Nat}:((tabS S n T k)++[Cell.lst ((ay n).map λj=>U.int (T k j))]).set S.length (Cell.lst ((ay k).map (lM n T)++[lM n T k]))=tabS S n T (k+1):=by
 unfold tabS;rw[aJ,aJ,dP _ _ 0#9,lV];simp[eS]
def tbM(g:iO)(φ:MF):MS:=aX (bu 2 2#7) (aX (ee 3 (iR1 4#0) (du 28#5)) (cb (mFn bC 3#4)))
theorem Dn{k:Nat}:Ex S (tabS S n T k):=⟨_,by unfold tabS;rw[aJ]⟩
section
variable {m:Nat}{T:Nat->Nat->Nat}
theorem Lt.one{s:Nat}(hs:s<m):Lt m [s]:=λx hx=>by rw[bW.mp hx];exact hs
structure Sn(m:Nat)(T:Nat->Nat->Nat)(p:List Nat):Prop where
 lt:Lt m p
 nd:(plc T p).Nodup
 cl:∀x∈plc T p,∀y∈plc T p,T x y∈plc T p
end
section
variable {m:Nat}{T:Nat->Nat->Nat}{S:Sto}
abbrev Pln(m:Nat)(T:Nat->Nat->Nat):Prop:= ∀i j,i<m->j<m->T i j=T j i
end
theorem Ez:Pln n (bL n):=λi j _ _=>by unfold bL;rw[jD]
section
variable {m:Nat}{T:Nat->Nat->Nat}{S:Sto}
end
theorem vt{e:ME}{Y:Rho}{n:Nat}{us:List U}{f:U->U}(P:Sto->Prop)(hP:∀S,P S->getL S n=some us)(he:∀u∈us,∀S,P S->∃S',e 7#7 S=some (f u,S')/\P S'):
  ∀(k i:Nat) (acc:List U) (S:Sto),i<=us.length->us.length-i<k->P S->∃S',iR cTT e Y n k i acc S=some (acc++(us.drop i).map f,S')/\P S'
 |0,i,acc,S,h1,h2,_=>by omega
 | k+1,i,acc,S,h1,h2,h=>by
   unfold iR;rw[hP S h];simp only[ah];by_cases hi:i<us.length
   .have hd:us.drop i=us[i]::us.drop (i+1):=iC hi
    obtain⟨S1,e1,p1⟩:=he _ (cg hi) S h;obtain⟨S2,e2,p2⟩:=vt P hP he k (i+1) (acc++[f us[i]]) S1 0#4 0#2 p1;refine⟨S2,?_,p2⟩;rw[aF hi];simp only[cTT,az,if_true];rw[e1];simp only[az];rw[e2,hd,bp,aJ];rfl
   .rw[cY 13#0,o9 13#0]
    exact⟨S,by simp,h⟩
theorem Hb(nd:w.Nodup):(srt w).Pairwise (· < ·):=by
 have h1:(srt w).Pairwise (· <= ·):=by
  unfold srt;exact g8.mpr ((vn (iz w)).imp λ{a b} hab=>by omega)
 exact(h1.and (bS.mp ((lF w).nodup_iff.mpr nd))).imp λ{a b} hab=>by omega
theorem BM(h:l.Pairwise (· < ·)):srt l=l:=by
 have h1:(iz l).Pairwise (· <= ·):=g8.mpr (h.imp λ{a b} hab=>by omega);have h2:=qS (List.Perm.refl (iz l)) h1;unfold srt;rw[<-h2];unfold iz;rw[eZ]
 conv=>rhs;rw[<-JH l]
 apply bN;intro x _;simp
theorem Me(h:l.Pairwise (· < ·)):l.Nodup:=bS.mpr (h.imp λ{a b} hab=>by exact aW 0#4)
theorem Py{a b:List Nat}(ha:a.Pairwise (· < ·))(hb:b.Pairwise (· < ·))(h:∀x,x∈a↔x∈b):a=b:=by
 rw[<-BM ha,<-BM hb];exact rP (y3 (Me ha) (Me hb) h)
section
variable {m:Nat}{T:Nat->Nat->Nat}{S:Sto}{u:U}{st:List Nat}
theorem ml{r:MA}(h:r Y S=some (xs,S1))(hl:xs.length<1000):bH r Y S=some (.ref S1.length,S1++[.lst xs]):=by
 have:xs.length<=big:=by unfold big;omega
 simp only[bH,h,az,this,if_true]
theorem yk{g:MG}{b:MS}{n:Nat}(us:List U)(P:Nat->Rho->Sto->Prop)(hl:∀k Y S,P k Y S->getL S n=some us)
  (st:∀(k:Nat) (u:U) (Y:Rho) (S:Sto),us[k]?=some u->P k Y S->∃Y1 S1 Y2 S',g (.tup [.int k,u]) Y S=some (Y1,S1)/\b Y1 S1=some 5#0/\P (k+1) Y2 S'):
  ∀(f k:Nat) (Y:Rho) (S:Sto),k<=us.length->us.length-k<f->P k Y S->∃Y2 S',tq g b n f k Y S=some 5#0/\P us.length Y2 S'
 |0,k,Y,S,h1,h2,_=>by omega
 | f+1,k,Y,S,h1,h2,hp=>by
   unfold tq;rw[hl k Y S hp];simp only[ah];by_cases hk:k<us.length
   .have hu:us[k]?=some us[k]:=by simp[hk]
    obtain⟨Y9,S0,Y1,S1,e0,e1,p1⟩:=st k us[k] Y S hu hp;obtain⟨Y8,S2,e2,p2⟩:=yk us P hl st f (k+1) Y1 S1 0#4 0#2 p1;refine⟨Y8,S2,?_,p2⟩;simp only[hu,e0,ah,aft,e1,e2]
   .have:k=us.length:=by omega
    subst this;exact⟨Y,S,by simp,hp⟩
end
section
variable {m:Nat}{f:Nat->Nat}
end
variable{rl:MX}{cs:List U}
theorem ID{rz is:List Nat}{ml:ME}(hc:jB is Y=some cs)(h:ml (cs.map some) S=some (u,S1)):kh rz is ml rl Y S=some (.non,S1++ir λ_=>false):=by
 have e:mZ 0 ml cs [] S=some (u,S1):=h;simp only[kh,hc,ah,Er,e]
theorem Il{rz is:List Nat}{ml:ME}(hc:jB is Y=some cs)(h:ml (cs.map some) S=none)(hx:rl (cs.map some) S=some (q,S1))(hq:q∈rz):kh rz is ml rl Y S=some (.ref (S1.length+3),S1++(ir (bQ q)++[.lst (ai [q])])):=by
 have e:mZ 0 ml cs [] S=none:=h;have e2:yB 0 rl cs [] S=some (q,S1):=hx;simp only[kh,hc,ah,Er,e,e2];rw[if_pos hq];rfl
theorem Pc(S:Sto)(b:Nat->Bool)(l:List Cell):Ex S (S++(ir b++l)):=⟨_,rfl⟩
theorem Kz(S:Sto)(b:Nat->Bool):Ex S (S++ir b):=⟨_,rfl⟩
theorem J9{b:Nat->Bool}:(S++(ir b++[c]))[S.length+3]?=some c:=by
 rw[aq 0#2];simp[ir]
theorem BG{k:Nat}{b:MS}(h:b 23#0 S=none):_G.run k n b us S=none:=by
 unfold _G.run
 split
 .rw[h]
 .rfl
theorem yD{k:Nat}{r:MX}(hl:us.length=k)(h:r 23#0 S=some (q,S1)):vH k n r us S=some (q,S1):=by
 unfold vH;rw[if_pos hl,h]
theorem zL{a b:MX}{s:MS}(h:a Y S=some (q,S1)):qG a s b Y S=some (q,S1):=by simp only[qG,h]
theorem L4{a b:MX}{s:MS}(h:a Y S=none)(h1:s Y S=some (.nx,Y1,S1)):qG a s b Y S=b Y1 S1:=by simp only[qG,h,h1]
theorem MR{c:MT}{a b:MX}(h:c Y S=some (true,S1)):xIf c a b Y S=a Y S1:=by simp[xIf,h,az]
theorem QV{c:MT}{a b:MX}(h:c Y S=some (false,S1)):xIf c a b Y S=b Y S1:=by simp[xIf,h,az]
theorem BW{a b:MS}(h:a Y S=none):aX a b Y S=none:=by simp only[aX,h]
variable{v:Option (Nat×Sto)}
theorem Ts{r:RF}{x y:U}(ha:a Y S=some (x,S1))(hb:b Y S1=some (y,S2))(h:r [x,y] S2=v):xFn r 17#6 Y S=v:=by simp only[xFn,aa,af,ha,hb,az,h]
section
variable {m:Nat}{T:Nat->Nat->Nat}{S:Sto}
end
section
variable {S:Sto}
theorem Rt{S:Sto}(ha:a Y S=some 4#2)(hb:b Y S1=some 6#3):m2 oGt a b Y S=some (.bl (decide (y<x)),S2):=by
 rw[Ih ha hb]
 congr 3
 exact decide_eq_decide.mpr 0#2
end
theorem Eu(hn:n<big)(hφ:∀i j (S':Sto),Ex S S'->i<n->j<n->φ [.int (i:Nat),.int (j:Nat)] S'=some (.int (T i j:Nat),S'))(g:iO):
  _G.run 2 4 (tbM g φ) [.int (n:Nat),.obj g] S=some (tab n T,tabS S n T n):=by
 have cell:∀k,(tabS S n T k)[S.length]?=some (Cell.lst ((ay k).map (lM n T))):=λk=>by
  unfold tabS;rw[aJ,aq 0#9];simp
 obtain⟨Y1,S1,e1,⟨x,rfl⟩,rfl⟩:=j4 (i:=3) (a:=ae 0) (n:=n) (b:=du 28#5)
  (Y:= [10#7,6#9,1#1,none]) (S:=tabS S n T 0) 0#0 hn
  (λk Y S'=>(∃x,Y = [10#7,6#9,1#1,x])/\S'=tabS S n T k) ⟨⟨none,rfl⟩,rfl⟩ (by
   rintro k Y S' hk ⟨⟨x,rfl⟩,rfl⟩
   obtain⟨S2,e2,h2⟩:=G2 (Y:= [10#7,6#9,1#1,2#8]) (S:=tabS S n T k) (S0:=tabS S n T k) (a:=ae 0) (e:=wQ 1 g φ (aa 0#7 4#5)) (n:=n) 0#0 hn (λj => .int (T k j)) (λ_ S''=>S''=tabS S n T k) rfl (by
    rintro j S'' hj rfl;refine⟨_,?_,rfl⟩;show(if g=g then mFn φ (aa 0#7 4#5) _ _ else none)=_;rw[if_pos rfl]
    exact cJ (var_eq rfl) (var_eq rfl) (hφ k j _ Dn hk hj))
   subst h2;have hl:((ay k).map (lM n T)).length<big:=by rw[ax,bc];exact cP hk hn
   have e3:=append_eq (Y:= [10#7,6#9,1#1,2#8]) (o:=ae 2) (r:=S.length) (row:=(ay k).map (lM n T)) 0#0 e2 (cell k) ((Ex.push _ _).some (cell k)) hl;rw[show Fw n (λj=>U.int (T k j))=lM n T k from rfl,EE]at e3
   exact⟨_,_,e3,⟨_,rfl⟩,rfl⟩)
 have e0:bH af [10#7,6#9,none,none] S=some (.ref S.length,tabS S n T 0):=fA.trans (by simp[tabS]);have e2:mFn bC 3#4 [10#7,6#9,1#1,x] (tabS S n T n)=some (tab n T,tabS S n T n):=jn 0#0 (cell n);exact cw (Y:= [10#7,6#9,1#1,x]) rfl (show tbM g φ [10#7,6#9,none,none] S=_ from(aO (bz e0)).trans ((aO e1).trans (cu e2)))
open PySem in
open PySem in
section
variable {S:Sto}
section
variable {n m r:Nat} (hn:0<n) (hn2:n<100) (hm:0<m) (hm2:m<100) (hr:r<100)
include hn hn2 hm hm2 hr
end
end
theorem Uj{r:RF}{c:ME}{x y z:U}(ha:a Y S=some (x,S1))(hb:b Y S1=some (y,S2))(hc:c Y S2=some (z,S3))(h:r [x,y,z] S3=v):xFn r (aa a (aa b (aa c af))) Y S=v:=by simp only[xFn,aa,af,ha,hb,hc,az,h]
section
variable {m:Nat}{T:Nat->Nat->Nat}
def B8(T:Nat->Nat->Nat)(x n:Nat):Prop:=1<=n/\pw T x n=0 /\ ∀k,1<=k->k<n->pw T x k≠0
theorem B8.uniq{a b:Nat}(h:B8 T x a)(q:B8 T x b):a=b:=by
 rcases Nat.lt_trichotomy a b with z|z|z
 .exact absurd h.2.1 (q.2.2 a h.1 z)
 .exact z
 .exact absurd q.2.1 (h.2.2 b q.1 z)
theorem Sl(g:Grp m T)(hx:x<m):∃n,B8 T x n/\n<=m:=by
 obtain⟨n,h1,h2,h3,h4⟩:=g.ord hx;exact⟨n,⟨h1,h3,h4⟩,h2⟩
open Classical in
def od(T:Nat->Nat->Nat)(x:Nat):Nat:=if h:∃n,B8 T x n then choose h else 0
theorem RJ(g:Grp m T)(hx:x<m):B8 T x (od T x)/\od T x<=m:=by
 obtain⟨n,h,hn⟩:=Sl g hx;have hh:∃n,B8 T x n:=⟨n,h⟩;have e:od T x=Classical.choose hh:=dif_pos hh;have q:=Classical.choose_spec hh;rw[<-e]at q;exact⟨q,by rw[q.uniq h];exact hn⟩
end
variable{D:List (_L.Key×U)}
theorem Ku{k j:_L.Key}:kf (lq D k u) j=if k=j then some u else kf D j:=by
 unfold kf lq;by_cases h:(D.any λkv=>decide (kv.1=k))=true
 .rw[if_pos h]
  induction D with
  |nil=>simp at h
  | cons p D ih=>
    rw[bp,bV];by_cases hp:p.1=k
    .rw[if_pos hp]
     by_cases hk:k=j
     .subst hk
      simp[hp]
     .have h1:decide (p.1=j)=false:=decide_eq_false (by rw[hp];exact hk)
      simp only[h1,if_neg hk];rw[bV,h1];simp only;by_cases h2:(D.any λkv=>decide (kv.1=k))=true
      .have:=ih h2
       rw[if_neg hk]at this;exact this
      .have:D.map (λkv=>if kv.1=k then(kv.1,u) else kv)=D:=by
        conv=>rhs;rw[<-JH D]
        apply bN;intro kv hkv;have:kv.1≠k:=λe=>h2 (fY.mpr ⟨kv,hkv,decide_eq_true e⟩);simp[this]
       rw[this]
    .rw[if_neg hp]
     have h2:(D.any λkv=>decide (kv.1=k))=true:=by
      rw[gQ,decide_eq_false hp,Bool.false_or]at h;exact h
     by_cases hj:p.1=j
     .have hk:k≠j:=λe=>hp (hj.trans e.symm)
      rw[if_neg hk,bV];simp[hj]
     .have h1:decide (p.1=j)=false:=decide_eq_false hj
      rw[h1,bV,h1];simp only;exact ih h2
 .rw[if_neg h,List.find?_append]
  by_cases hk:k=j
  .subst hk
   have:D.find? (λkv=>decide (kv.1=k))=none:=by
    rw[List.find?_eq_none];intro kv hkv hd;exact h (fY.mpr ⟨kv,hkv,hd⟩)
   rw[this,if_pos rfl];simp
  .rw[if_neg hk]
   have: [((k,u):_L.Key×U)].find? (λkv=>decide (kv.1=j))=none:=by simp[hk]
   rw[this,Option.or_none]
theorem Hy{k:_L.Key}:(lq D k u).length<=D.length+1:=by
 unfold lq
 split
 .simp
 .simp
def tQ(D:List (_L.Key×U))(xs:List Nat)(v:Nat):List (_L.Key×U):=xs.foldl (λD (x:Nat)=>lq D 6#1 (.int (v:Nat))) D
theorem wo{v:Nat}:∀{xs:List Nat}{D:List (_L.Key×U)},(tQ D xs v).length<=D.length+xs.length
 |[],D=>by simp[tQ]
 | x::xs,D=>by
   have h1:=wo (v:=v) (xs:=xs) (D:=lq D 6#1 (.int (v:Nat)));have h2:=Hy (D:=D) (k:= .inl (x:Int)) (u:= .int (v:Nat));show(tQ (lq D 6#1 (.int (v:Nat))) xs v).length<=_;simp only[cf];omega
theorem z6{v x:Nat}:∀{xs:List Nat}{D:List (_L.Key×U)},kf (tQ D xs v) 6#1=if x∈xs then some (.int (v:Nat)) else kf D 6#1
 |[],D=>by simp[tQ]
 | y::xs,D=>by
   show kf (tQ (lq D (.inl (y:Int)) (.int (v:Nat))) xs v) _=_;rw[z6,Ku];by_cases h:x∈xs
   .simp[h]
   .by_cases e:y=x
    .subst e;simp
    .have:(eQ (y:Int):_L.Key)≠.inl (x:Int):=λz=>e (by injection z with z;omega)
     simp[h,this,dZ e]
structure Sbg(m:Nat)(T:Nat->Nat->Nat)(P:List Nat):Prop where
 z:0∈P
 lt:∀x∈P,x<m
 cl:∀a∈P,∀b∈P,T a b∈P
section
variable {m:Nat}{T:Nat->Nat->Nat}{P:List Nat}
theorem Sbg.inv(h:Sbg m T P)(g:Grp m T){a:Nat}(ha:a∈P):∃b,b∈P/\T b a=0/\T a b=0:=by
 have ham:=h.lt a ha;obtain⟨⟨n1,n2,_⟩,_⟩:=RJ g ham;have pin:∀k,pw T a k∈P:=λk=>by
  induction k with
  |zero=>exact h.z
  |succ k ih=>exact h.cl _ ih _ ha
 have e:T (pw T a (od T a-1)) a=0:=by
  show pw T a (od T a-1+1)=0;rw[mK n1];exact n2
 refine⟨pw T a (od T a-1),pin _,e,?_⟩;obtain⟨j,hj,h1,h2⟩:=g.inv a ham;have:pw T a (od T a-1)=j:=g.cancelR ham (rB g ham _) hj (e.trans h2.symm);rw[this];exact h1
theorem Dfs.sbg{ths ks:List Nat}(g:Grp m T)(ht:∀z∈ths,z<m)(d:Dfs m T ths ks λ_=>False):Sbg m T (srt ks) where
 z:=eW.mpr d.z
 lt:=λx hx=>d.lt x (eW.mp hx)
 cl:=λa ha b hb=>by
  have ha:=eW.mp ha;have ham:=d.lt a ha;refine eW.mpr ?_;have rb:=d.rc b (eW.mp hb);have key:T a b∈ks/\b<m:=by
   clear hb
   induction rb with
   |zero=>rw[g.r0 a ham];exact⟨ha,g.pos⟩
   | step _ hy ih=>
     rename_i x y hr
     obtain⟨h1,hx⟩:=ih;refine⟨?_,g.cl _ _ hx (ht _ hy)⟩;rw[<-g.as a x y ham hx (ht y hy)];exact((d.cl _ h1).resolve_left id) _ hy
  exact key.1
theorem zj(h:Sbg m T P)(g:Grp m T){b:Bool}(hx:x<m):x∈dk T P b x:=by
 refine aQ.mpr ⟨0,h.z,?_⟩;cases b
 .exact g.l0 x hx
 .exact g.r0 x hx
theorem Bt(h:Sbg m T P)(g:Grp m T){b:Bool}(hx:x<m)(hy:y∈dk T P b x):y<m /\ ∀z,z∈dk T P b y↔z∈dk T P b x:=by
 obtain⟨p,hp,rfl⟩:=aQ.mp hy;have hpm:=h.lt p hp;obtain⟨p',hp',i1,i2⟩:=h.inv g hp;have hpm':=h.lt p' hp';cases b with
 | true=>
   refine⟨g.cl _ _ hx hpm,λz=>⟨λhz=>?_,λhz=>?_⟩⟩
   .obtain⟨q,hq,rfl⟩:=aQ.mp hz
    have hqm:=h.lt q hq;exact aQ.mpr ⟨T p q,h.cl p hp q hq,(g.as x p q hx hpm hqm).symm⟩
   .obtain⟨q,hq,rfl⟩:=aQ.mp hz
    have hqm:=h.lt q hq;refine aQ.mpr ⟨T p' q,h.cl p' hp' q hq,?_⟩;show T (T x p) (T p' q)=T x q;rw[g.as x p _ hx hpm (g.cl _ _ hpm' hqm),<-g.as p p' q hpm hpm' hqm,i2,g.l0 q hqm]
 | false=>
   refine⟨g.cl _ _ hpm hx,λz=>⟨λhz=>?_,λhz=>?_⟩⟩
   .obtain⟨q,hq,rfl⟩:=aQ.mp hz
    have hqm:=h.lt q hq;exact aQ.mpr ⟨T q p,h.cl q hq p hp,g.as q p x hqm hpm hx⟩
   .obtain⟨q,hq,rfl⟩:=aQ.mp hz
    have hqm:=h.lt q hq;refine aQ.mpr ⟨T q p',h.cl q hq p' hp',?_⟩;show T (T q p') (T p x)=T q x;rw[g.as q p' _ hqm hpm' (g.cl _ _ hpm hx),<-g.as p' p x hpm' hpm hx,i1,g.l0 x hx]
end
structure Prt(r:Nat->List Nat)(k:Nat):Prop where
 gone:∀y,y∈(sdF r k).2 ↔ ∃i,i<k/\y∈r i
 cov:∀i,i<k->∃s∈(sdF r k).1,∀z,z∈s↔z∈r i
 dis:(sdF r k).1.Pairwise λs t=>∀y,y∈s->y∉t
theorem GS{r:Nat->List Nat}{m:Nat}(self:∀i,i<m->i∈r i)(cos:∀i,i<m->∀y∈r i,y<m /\ ∀z,z∈r y↔z∈r i):∀k,k<=m->Prt r k
 |0,_=>⟨λy=>by simp[sdF],λi hi=>by omega,by simp[sdF]⟩
 | k+1,hk=>by
   have ih:=GS self cos k 0#2;have hkm:k<m:=hk;by_cases hin:k∈(sdF r k).2
   .obtain⟨i,hi,hki⟩:=(ih.gone k).mp hin
    have same:=(cos i 0#2 k hki).2;have e:sdF r (k+1)=sdF r k:=by rw[sdF,if_pos hin]
    refine⟨?_,?_,?_⟩
    .intro y
     rw[e,ih.gone y];constructor
     .rintro ⟨j,hj,h⟩;exact⟨j,by omega,h⟩
     .rintro ⟨j,hj,h⟩
      rcases iP.mp hj with q|q
      .exact⟨j,q,h⟩
      .subst q;exact⟨i,hi,(same y).mp h⟩
    .intro j hj
     rw[e];rcases iP.mp hj with q|q
     .exact ih.cov j q
     .subst q
      obtain⟨s,hs,hz⟩:=ih.cov i hi;exact⟨s,hs,λz=>(hz z).trans (same z).symm⟩
    .rw[e];exact ih.dis
   .have e:sdF r (k+1)=((sdF r k).1++[srt (r k)],(sdF r k).2++r k):=by rw[sdF,if_neg hin]
    refine⟨?_,?_,?_⟩
    .intro y
     rw[e];show y∈(sdF r k).2++r k↔_;rw[be,ih.gone y];constructor
     .rintro (⟨j,hj,h⟩|h)
      .exact⟨j,by omega,h⟩
      .exact⟨k,by omega,h⟩
     .rintro ⟨j,hj,h⟩
      rcases iP.mp hj with q|q
      .exact .inl ⟨j,q,h⟩
      .subst q;exact .inr h
    .intro j hj
     rw[e];rcases iP.mp hj with q|q
     .obtain⟨s,hs,hz⟩:=ih.cov j q
      exact⟨s,bg _ hs,hz⟩
     .subst q
      exact⟨srt (r j),by simp,λz=>eW⟩
    .rw[e]
     show((sdF r k).1++[srt (r k)]).Pairwise _;rw[List.pairwise_append];refine⟨ih.dis,by simp,λs hs t ht y hy hyt=>?_⟩;have:t=srt (r k):=by simpa using ht
     subst this;obtain⟨i,hi,rfl⟩:=jf hs;have h1:=eW.mp hy;have h2:=eW.mp hyt;have c1:=(cos i 0#2 y h1).2;have c2:=(cos k hkm y h2).2;exact hin ((ih.gone k).mpr ⟨i,hi,(c1 k).mp ((c2 k).mpr (self k hkm))⟩)
def nbr(ls:List 5#4)(y:Nat):Nat:=ls.findIdx λs=>decide (y∈s)
theorem IW{p:Nat->Bool}{k:Nat}:∀{n:Nat},k<n->p k=true->(∀j,j<n->p j=true->j=k)->(ay n).filter p=[k]
 |0,h,_,_=>by omega
 | n+1,h,h1,h2=>by
   rw[eS,List.filter_append];by_cases e:k=n
   .subst e
    have:(ay k).filter p=[]:=List.filter_eq_nil_iff.mpr λj hj hp=>by
     have:=h2 j (by have:=bZ.mp hj;omega) hp;have:=bZ.mp hj;omega
    rw[this];simp[h1]
   .rw[IW (n:=n) 0#2 h1 λj hj hp=>h2 j 0#2 hp]
    have:p n=false:=by
     cases q:p n with
     |false=>rfl
     |true=>exact absurd (h2 n 0#2 q).symm e
    simp[this]
structure Sds(m:Nat)(ls:List (List Nat)):Prop where
 cov:∀y,y<m->∃s∈ls,y∈s
 dis:ls.Pairwise λs t=>∀y,y∈s->y∉t
theorem Sds.nb(h:Sds m ls)(hy:y<m):nbr ls y<ls.length/\y∈ls.getD (nbr ls y) []:=by
 obtain⟨s,hs,hys⟩:=h.cov y hy;have hl:nbr ls y<ls.length:=List.findIdx_lt_length_of_exists ⟨s,hs,decide_eq_true hys⟩;refine⟨hl,?_⟩;have:=List.findIdx_getElem (w:=hl);rw[aU,aF hl];exact of_decide_eq_true this
theorem Sds.uniq(h:Sds m ls)(hi:i<ls.length)(hj:j<ls.length)(h1:y∈ls.getD i [])(h2:y∈ls.getD j []):i=j:=by
 rw[aU,aF hi]at h1;rw[aU,aF hj]at h2;rcases Nat.lt_trichotomy i j with q|q|q
 .exact absurd h2 (Cs.mp h.dis i j hi hj q y h1)
 .exact q
 .exact absurd h1 (Cs.mp h.dis j i hj hi q y h2)
theorem Sds.nb_of(h:Sds m ls)(hy:y<m)(hi:i<ls.length)(h1:y∈ls.getD i []):nbr ls y=i:=h.uniq (h.nb hy).1 hi (h.nb hy).2 h1
def dN(ls:List 5#4):Nat->List (_L.Key×U)
 |0=>[]
 |k+1=>tQ (dN ls k) (ls.getD k []) k
theorem B9{m:Nat}{ls:List (List Nat)}(h:Sds m ls){y:Nat}(hy:y<m):∀k,k<=ls.length->kf (dN ls k) (.inl (y:Int))=if nbr ls y<k then some (.int (nbr ls y:Nat)) else none
 |0,_=>rfl
 | k+1,hk=>by
   rw[dN,z6,B9 h hy k 0#2];by_cases q:y∈ls.getD k []
   .rw[if_pos q,h.nb_of hy 0#2 q,if_pos (bB k)]
   .rw[if_neg q]
    have:nbr ls y≠k:=λe=>q (e▸(h.nb hy).2);by_cases z:nbr ls y<k
    .rw[if_pos z,if_pos 0#2]
    .rw[if_neg z,if_neg 0#2]
section
variable {m:Nat}{T:Nat->Nat->Nat}{P:List Nat}
theorem fR(h:Sbg m T P)(g:Grp m T){b:Bool}:Sds m (aS m T P b):=by
 have p:=GS (r:=dk T P b) (λi hi=>zj h g hi) (λi hi y hy=>Bt h g hi hy) m 0#9;exact⟨λy hy=>by obtain⟨s,hs,hz⟩:=p.cov y hy;exact⟨s,hs,(hz y).mpr (zj h g hy)⟩,p.dis⟩
theorem hG(h:Sbg m T P)(g:Grp m T){b:Bool}(hi:i<(aS m T P b).length)(hx:x∈(aS m T P b).getD i []):x<m /\ ∀z,z∈(aS m T P b).getD i []↔z∈dk T P b x:=by
 have e:(aS m T P b).getD i []=(aS m T P b)[i]:=by rw[aU,aF hi];rfl
 rw[e]at hx ⊢;obtain⟨k,hk,q⟩:=jf (cg hi:(aS m T P b)[i]∈aS m T P b);rw[q]at hx ⊢;obtain⟨h1,h2⟩:=Bt h g hk (eW.mp hx);exact⟨h1,λz=>eW.trans (h2 z).symm⟩
theorem AE(h:Sbg m T P)(g:Grp m T)(hlv:aS m T P true=aS m T P false){a b c d:Nat}(hi:i<(aS m T P true).length)(hj:j<(aS m T P true).length)(ha:a∈(aS m T P true).getD i [])(hb:b∈(aS m T P true).getD j [])(hc:c∈(aS m T P true).getD i [])(hd:d∈(aS m T P true).getD j []):
  nbr 4#7 (T a b)=nbr 4#7 (T c d):=by
 have sd:=fR (b:=true) h g;obtain⟨am,as⟩:=hG h g hi ha;obtain⟨bm,bs⟩:=hG h g hj hb;obtain⟨cm,_⟩:=hG h g hi hc;obtain⟨dm,_⟩:=hG h g hj hd;obtain⟨p,hp,e1⟩:=aQ.mp ((as c).mp hc);have e1:T a p=c:=e1;have hpm:=h.lt p hp;have hd':d∈(aS m T P false).getD j []:=hlv▸hd;have hj':j<(aS m T P false).length:=hlv▸hj;obtain⟨_,ds⟩:=hG h g hj' hd';have hpd:T p d∈(aS m T P false).getD j []:=(ds _).mpr (aQ.mpr ⟨p,hp,rfl⟩);rw[<-hlv]at hpd;obtain⟨q,hq,e2⟩:=aQ.mp ((bs _).mp hpd);have e2:T b q=T p d:=e2;have hqm:=h.lt q hq;have hab:=g.cl a b am bm;have e3:T c d=T (T a b) q:=by rw[<-e1,g.as a p d am hpm dm,<-e2,g.as a b q am bm hqm]
 obtain⟨n1,n2⟩:=sd.nb hab;have hcd:T c d∈(aS m T P true).getD (nbr 4#7 (T a b)) []:=by
  rw[(hG h g n1 n2).2,e3];exact aQ.mpr ⟨q,hq,rfl⟩
 exact(sd.nb_of (g.cl c d cm dm) n1 hcd).symm
end
end _W
namespace _W
open PySem PySem.Spec _L _G
def vq:MS:=aX (bu 2 (nA 1#8 8#0)) (aX (bu 3 (bH 8#8)) (aX (jx (cOf (m2 oNe 0#7 2#7)) (aX (bu 4 (mML nc 0#7 af)) (ee 5 4#6 (sIf (cOf (m2 fb 15#0 0#5)) (aX (eM 0#5 15#0 8#0) (du (mML bF 0#7 (aa 15#0 af)))) cW)))) (cb (mFn bC (aa (mFn dy 3#4) af)))))
def iw:MF:=run 2 6 vq
def pO:MS:=cb (mFn iw (aa 1#5 (aa (bK (iR1 (aa (m2 cK 1#4 23#5) af)) cTT 19#0) af)))
def l7:MF:=run 2 2 pO
def nR:MS:=aX (bu 3 2#7) (aX (bu 4 2#7) (aX (ee 5 (iR1 (aa 6#2 af)) (sIf (cOf (m2 fb (ae 5) 1#3)) (aX (bu 6 (bK 4#6 cTT (m2 oIx 28#4 (mFn A1 3#4)))) (aX (du (mML bF 0#7 (aa (mFn bC (aa (mFn dy (aa (ae 6) af)) af)) af))) (bu 4 (m2 cK 1#3 (ae 6))))) cW)) (cb 0#7)))
def dY:MF:=run 3 7 nR
def mn:MS:=cb (m2 oIx (iu 2 (mO 4#0) (cOf (m2 oIn 1#5 0#7)) 0#5) 1#8)
def dG:MF:=run 2 2 mn
def pU:MS:=aX (bu 2 2#7) (aX (ee 3 4#6 (du (mML bF 0#5 (aa (mFn bC (aa (bK 4#6 cTT (mFn dG 24#4)) af)) af)))) (cb (mFn bC 3#4)))
def mH:MF:=run 2 4 pU
def tD:MS:=aX (bu 3 (gy (iR2 (aa 1#4 (aa 14#8 af))))) (aX (bu 4 2#7) (aX (ee 5 (iR1 (aa (mFn tS 30#7) af)) (du (mML bF 1#3 (aa (mML lb 0#7 (aa (mFn aP 23#9) af)) af)))) (cb (mFn bC (aa (mFn dy 4#5) af)))))
def jm:MF:=run 3 6 tD
def pW:MS:=cb (mFn bC (aa (bK (iR1 (aa (mFn aP (aa 0#6 (aa (m2 cK 0#5 1#4) af))) af)) cTT 19#0) af))
def mF:MF:=run 3 3 pW
def qw:MS:=aX (bu 3 2#7) (aX (bu 4 (bH 32#9)) (aX (jx (wZ (cOf (m2 oNe 1#3 2#7)) (cOf (m2 oLt 12#4 0#5))) (aX (wM (mML nc 1#3 af) (gTp 2 (eD (gN 5) (eD (gN 6) m8)))) (aX (bu 7 (m2 oIx (ae 6) 4#9)) (sIf (cOf (m2 oEq 11#7 (m2 sQ 6#2 1#4))) (du (mML gO 0#7 (aa (bK 4#6 (cOf (m2 oEq 16#6 1#8)) 27#1) af))) (aX (bu 8 (bK 4#6 (cOf (m2 fb 16#6 (ae 6))) (de (aa (ae 9) (aa 16#6 af))))) (du (mML gO 1#3 (aa (iu 2 (b0 (m1 sH (ae 8))) cTT (de (aa 27#1 (aa (m2 cK (ae 6) (de (aa (ae 10) af))) af)))) af)))))))) (cb (mSl 0#7 none (some 0#5)))))
def fK:MF:=run 3 9 qw
def ib:MS:=aX (bu 1 (mFn jl (aa 0#6 (aa (m2 oIx (bH 24#9) 14#9) af)))) (aX (bu 2 (mFn l7 3#7)) (aX (bu 3 (mFn dY (aa 1#5 (aa 0#5 (aa 8#0 af))))) (aX (sIf (cOr (cOf (m2 oNe 0#7 (mFn dY (aa 1#5 (aa 0#5 (aa 14#3 af)))))) (cOf (m2 oEq 14#8 1#4))) (cb (de (aa 1#5 (aa 0#5 (aa (mFn mF (aa 0#6 (aa 1#5 (aa 9#9 af)))) af))))) cW) (aX (bu 4 (mFn mH (aa 1#5 (aa 0#7 af)))) (aX (bu 5 (bH (aa (de 8#8) af))) (aX (sIf (cOf (m2 oGt (mFn bG 4#5) 1#4)) (aX (bu 6 (mFn jm (aa 0#6 (aa 1#3 (aa (m2 oIx (bH (aa 9#9 (aa 3#3 7#6))) (m2 oDiv (mFn bG 4#5) (mC (.int 9)))) af))))) (bu 5 (so 26#4 25#4 2#7))) cW) (aX (sIf (cOf (m2 oEq (ae 5) 2#7)) (cb (de (aa 1#5 (aa 0#5 (aa (mFn bC (aa (bK (b0 0#7) cTT 19#0) af)) af))))) cW) (aX (bu 7 2#7) (aX (ee 8 (b0 (m2 oIx (ae 5) (mFn aP (aa 0#6 (aa 11#7 af))))) (aX (bu 9 (bK (b0 (m2 oIx 0#7 (ae 8))) (cOf (m2 oGt (ae 10) 1#8)) (ae 10))) (du (mML bF (ae 7) (aa (m2 oIx (ae 9) 31#2) af))))) (cb (de (aa 1#5 (aa 0#5 (aa (mFn bC (aa (ae 7) af)) af))))))))))))))
def fe:MF:=run 1 10 ib
def tm:MS:=aX (bu 2 1#8) 34#0
def ek:MF:=run 2 4 tm
def gG:MS:=aX (bu 3 (mFn dY (aa 0#6 (aa 1#5 (aa 8#0 af))))) (aX (sIf (cOf (m2 oNe 0#7 (mFn dY (aa 0#6 (aa 1#5 (aa 14#3 af)))))) (cb (bH (aa 1#4 af))) cW) (aX (sIf (cOr (jL (cOf (m1 (iW "tuple") 0#5))) (cOf (m2 oNe (mFn bG 3#4) 12#4))) (cb (bH 7#6)) cW) (aX (sIf (jL (cOf (mFn r9 28#2))) (cb (bH 7#6)) cW) (aX (bu 4 (bK 33#3 cTT (mFn dG 24#7))) (aX (sIf (cOr (cOf (m2 oNe (mFn dy (aa (mSl 1#3 none (some 4#9)) af)) (gy (iR1 (aa 12#4 af))))) (cOf (m2 oNe (m2 oIx 1#3 4#9) 1#8))) (cb (bH 7#6)) cW) (aX (sIf (cOf (m2 oNe (mFn iw (aa 0#6 (aa (bH (aa (mFn ek (aa 0#6 3#4)) af)) af))) 1#5)) (cb (bH 7#6)) cW) (cb (m2 gv 0#5 14#8))))))))
def gE:MF:=run 3 5 gG
def As(g:iO)(φ:MF):MS:=aX (bu 2 2#7) (aX (bu 3 qZ) (aX (ee 4 (b0 0#6) (sIf (cOf (m2 fb 1#3 0#7)) (aX (bu 5 (wQ 1 g φ 4#5)) (aX (du (mML bF 0#5 10#3)) (ee 6 (b0 (ae 5)) (eM 0#7 (ae 6) 8#0)))) cW)) (cb 0#5)))
def vW(g:iO)(φ:MF):MF:=run 2 7 (As g φ)
def rA:MS:=cb (vP (iR1 (aa 6#2 af)))
def jU:MF:=run 1 1 rA
def qN:MS:=cb (kX vW 1 [0,1] (mFn bC (aa (mFn dy (aa (bK (b0 0#5) cTT (m2 oIx (m2 oIx 1#5 0#6) 0#7)) af)) af)) (mFn jU 4#0))
def ei:MF:=run 2 2 qN
def kj:MS:=aX (bu 2 qZ) (aX (vB (gTp 2 (eD (gN 3) (eD (gN 4) m8))) (mO (aa (mFn ei 3#7) af)) (ee 5 (b0 1#3) (eM 0#5 (ae 5) 0#7))) (cb 0#5))
def fE:MF:=run 2 6 kj
def wk(g:iO)(φ:MF):MS:=aX (bu 2 2#7) (aX (ee 3 (iR1 4#0) (du 28#5)) (cb (mFn bC 3#4)))
def vT(g:iO)(φ:MF):MF:=run 2 4 (wk g φ)
def oV:MS:=cb (kX vW 1 [0,1] (mFn bC (aa (mFn dy (aa (bK (b0 0#5) cTT (m2 oIx (m2 oIx 1#5 0#7) 0#6)) af)) af)) (mFn jU 4#0))
def jc:MF:=run 2 2 oV
def pI:MS:=cb (m2 oEq (mFn ei 3#7) (mFn jc 3#7))
def fM:MF:=run 2 2 pI
def jK:MS:=aX (sIf (jL (cOf (mFn fM 3#7))) sNo cW) (aX (bu 2 (bK (b0 (mFn ei 3#7)) cTT (m2 oIx 1#3 1#8))) (aX (bu 3 (mFn fE 3#7)) (cb (kX vT 2 [0,2,3] (m2 oIx 1#3 (m2 oIx (m2 oIx 0#5 (m2 oIx 0#7 0#6)) (m2 oIx 0#7 1#5))) (mFn bG 3#4)))))
def eh:MF:=run 2 4 jK
def jR:MX:=qG (xIf (jL (cOf (mFn fM 3#7))) (qG (rZ 1) sNo xNo) xNo) (sIf (jL (cOf (mFn fM 3#7))) sNo cW) xNo
def gL:RF:=vH 2 4 jR
def wb:MS:=aX (bu 2 (bH 8#8)) (aX (ee 3 4#6 (du (mML bF 0#5 (aa (m2 oIx (m2 oIx 0#6 (m2 oIx 0#5 4#9)) 0#7) af)))) (cb (mFn bC 3#4)))
def qR:MF:=run 2 4 wb
def lK:MS:=cb (m2 oEq (mFn bC (aa (mFn dy 6#0) af)) (mFn jU 4#0))
def fD:MF:=run 2 2 lK
def kZ:MS:=aX (bu 2 (mFn qR 3#7)) (cb (j7 (m2 oEq (m2 oIx 0#5 4#9) 1#8) (mFn fD (aa 0#6 (aa (mSl 0#5 none (some 4#9)) af)))))
def jh:MF:=run 2 3 kZ
def kD:MS:=cb (j7 (m1 (iW "int") 0#6) (j7 (m1 tU (m1 (iW "bool") 0#6)) (mCh oLe oLt 1#8 0#6 1#5)))
def kM:MF:=run 2 2 kD
def jE:MS:=cb (j7 (m1 (iW "tuple") 0#6) (mFn r9 (aa (bK (b0 0#6) cTT (mFn kM (aa 0#5 6#0))) af)))
def eJ:MF:=run 2 2 jE
def DF:MS:=aX (bu 2 (nA 1#8 (de af))) (aX (bu 3 (bH 8#8)) (aX (jx (cOf (m2 oGt 12#4 1#8)) (aX (bu 4 (mML nc 0#7 af)) (ee 5 4#6 (aX (bu 6 15#0) (sIf (cOf (m2 fb (ae 6) 0#5)) (aX (eM 0#5 (ae 6) (m2 cK (m2 oIx 0#5 1#3) (de 10#3))) (du (mML bF 0#7 (aa (ae 6) af)))) cW))))) (cb 0#5)))
def Du:MF:=run 2 7 DF
def HL:MS:=cb (mFn bC (aa (mFn dy (aa (mFn Du 3#7) af)) af))
def y7:MF:=run 2 2 HL
def CB:MS:=aX (bu 2 1#8) 34#0
def uA:MF:=run 2 4 CB
def jQ:MS:=aX (sIf (cOr (jL (cOf (mFn eJ (aa 0#7 (aa 6#2 af))))) (cOf (m2 oIn 1#8 0#7))) (cb 14#3) cW) (aX (bu 4 (mFn fE 3#7)) (cb (j7 (mFn jh (aa 0#5 (aa (bK (b0 0#7) cTT (m2 oIx 1#3 (ae 5))) af))) (m2 oEq (mFn y7 (aa 0#6 (aa (de (aa (mFn uA (aa 0#6 (aa 0#7 af))) af)) af))) 1#5))))
def eN:MF:=run 4 5 jQ
def nY:MS:=aX (bu 3 (mFn eh 3#7)) (aX (sIf 30#6 sNo cW) (cb (m2 gv 0#5 14#8)))
def dU:MF:=run 3 4 nY
def qK:MX:=qG (xFn gL 3#7) (bu 3 (mFn eh 3#7)) (qG (xIf 30#6 (qG (rZ 2) sNo xNo) xNo) (sIf 30#6 sNo cW) xNo)
def j8:RF:=vH 3 4 qK
def uW:MS:=cb (m2 oEq (mFn oR 4#0) (mFn oR 6#0))
def iU:MF:=run 2 2 uW
def l4:MS:=aX (bu 3 2#7) (aX (bu 4 (kh [1,2] [3,0,1,2] (mML bF 0#6 (aa (mFn dU 19#4) af)) (xML 0#6 (xFn j8 19#4)))) (cb (so (cOf (m2 mm 1#3 (mC .non))) 1#3 (m2 oIx 0#7 1#8))))
def eK:MF:=run 3 5 l4
def Mc:MS:=aX (sIf (cOr (cOf (m2 oNe (mFn dU (aa (mFn cQ (aa (mC (.int 6)) af)) (aa (de 33#2) (aa (de 15#3) af)))) (de 32#5))) (cOf (m2 oNe (mFn dU (aa (mFn cQ 7#6) (aa (de 24#0) (aa (de (aa 1#4 af)) af)))) (de 15#3)))) (cb 14#3) cW) (aX (ee 1 (iR1 (aa (mFn zI (aa 1#4 (aa (mFn tS (aa 6#2 (aa (mC (.int 5)) af))) af))) af)) (aX (bu 2 (mFn kC 3#7)) (aX (wM (mFn fe 3#4) 32#0) (aX (bu 6 (mFn gE (aa 0#7 (aa 1#3 10#3)))) (ee 7 (iR1 7#6) (sIf 28#8 (cb 14#3) cW)))))) (cb 8#0))
def Te:MF:=run 1 8 Mc
section
open _L _G
theorem Hi{Y:Rho}{S:Sto}{e:ME}{part:List Nat}{f:Nat->Nat}{i:Nat}(hi:Y[i]?=some (some (.tup (ai part))))(hl:part.length<big)(he:∀(x:Nat) (S:Sto),x∈part->∃S',e 17#1 S=some (.int (f x:Nat),S')/\Ex S S'):
  ∃S',bK (b0 (ae i)) cTT e Y S=some (.ref S'.length,S'++[Cell.lst (ai (part.map f))])/\Ex S S':=by
 obtain⟨S1,e1,x1⟩:=j0 (e:=e) (Y:=Y) (λj => .int (f (oF part j):Nat)) (λ_ S'=>Ex S S') (ai part) 0 [] S (Ex.refl _) (by
  rintro j u S' hu x1;obtain⟨x,hx,rfl⟩:=hJ hu;obtain⟨S2,e2,x2⟩:=he x S' (bP hx);refine⟨S2,?_,x1.trans x2⟩;have:oF part (0+j)=x:=by rw[dR];unfold oF;rw[aU,hx];rfl
  rw[this]
  exact e2)
 have hm:(ay (ai part).length).map (λj=>U.int (f (oF part (0+j)):Nat))=ai (part.map f):=by
  unfold ai;apply mR;intro j;rw[bj,bj,bj];by_cases h:j<part.length
  .rw[lB 14#2,aF h]
   simp[oF,aU,h]
  .rw[cY 14#2,cY 0#2];rfl
 rw[hm,dg]at e1;exact⟨S1,kH (it:=b0 (ae i)) (us:=ai part) (by unfold b0;rw[var_eq hi];rfl) e1 (by rw[bw,ax];exact hl),x1⟩
variable{S x:Sto}{c:Cell}
theorem k0:(S++[c]++x)[S.length]?=some c:=by rw[aJ,aq 0#9];simp
theorem ks0{c':Cell}:(S++[c]++x).set S.length c'=S++[c']++x:=by
 rw[aJ,dP _ _ 0#9,lV,aJ];rfl
variable{g:Nat}
theorem kx(hg:S.length<g):(S++[c]++x)[g]?=x[g-11#8]? := by
 rw[aq 16#2];simp
theorem Q5{c':Cell}(hg:S.length<g):(S++[c]++x)[g]?=(S++[c']++x)[g]? := by rw[kx hg,kx hg]
section
variable {m:Nat}{T:Nat->Nat->Nat}{part:List Nat}{S:Sto}
def TQ:MS:=sIf (cOf (m2 fb (ae 5) 1#3)) (aX (bu 6 (bK 4#6 cTT (m2 oIx 28#4 (mFn A1 3#4)))) (aX (du (mML bF 0#7 (aa (mFn bC (aa (mFn dy (aa (ae 6) af)) af)) af))) (bu 4 (m2 cK 1#3 (ae 6))))) cW
theorem rD{left:Bool}(g:Grp m T)(hm:m<64)(hl:part.length<64)(hp:∀x∈part,x<m):∃S',dY [tab m T,.tup (ai part),.bl left] S=some 13#1/\Ex S S'/\S'[S.length]?=some (Cell.lst (tups (aS m T part left))):=by
 have hr:∀k,(dk T part left k).length<=64:=λk=>map_len hl;obtain⟨Y1,S1,e1,a,b,c,x,rfl,rfl,_⟩:=j4 (i:=5) (a:=mFn bG 4#0) (n:=m) (b:=TQ) (Y:= [0#3,3#8,some (.bl left),1#1,some 4#4,none,none]) (S:=S++2#4++2#4) 8#7 (aj hm 0#1)
  (λk Y S'=>∃a b c x,Y=[0#3,3#8,some (.bl left),1#1,some (.ref a),b,c]/\S'=S++11#0++x/\S.length<a/\S'[a]?=some (.lst (ai (sdF 6#7 k).2)))
  ⟨S.length+1,none,none,2#4,rfl,rfl,bB _,by rw[aJ,aq (dc _)];simp[sdF,ai]⟩ (by
   rintro k Y S' hk ⟨a,b,c,x,rfl,rfl,ha,hg⟩;have bd:=BK hr k;have ec:=JR (Y:= 25#6) (a:=ae 5) (b:=ae 4) (x:=k) 0#0 0#0 hg;by_cases hin:k∈(sdF 6#7 k).2
   .rw[decide_eq_true hin]at ec
    refine⟨_,_,(iA ec).trans rfl,a,_,_,x,rfl,?_,ha,?_⟩
    .rw[sdF,if_pos hin]
    .rw[sdF,if_pos hin];exact hg
   .rw[decide_eq_false hin]at ec
    obtain⟨S2,e2,x2⟩:=Hi (Y:= 25#6) (i:=1) (part:=part) (f:=λo=>if left then T k o else T o k) (S:=S++11#0++x) (e:=m2 oIx 28#4 (mFn A1 3#4)) rfl (aj hl 0#1) (by
     intro y S' hy;have hym:=hp y hy;refine⟨S'++31#9,?_,Ex.push _ _⟩;have f1:=DI (Y:= 25#6++[some (.int y)]) (S:=S') (a:=m2 oIx (m2 oIx 0#6 (ae 7)) (ae 5)) (b:=m2 oIx (m2 oIx 0#6 (ae 5)) (ae 7)) (ip (T:=T) (i:=y) (j:=k) hk (ij hym 0#0 0#0) 0#0) (ip (T:=T) (i:=k) (j:=y) hym (ij hk 0#0 0#0) 0#0);have f2:mFn A1 3#4 (25#6++[some (.int y)]) (S'++31#9)=some (.int (if left then 1 else 0),S'++31#9):=gH 0#0 rfl;refine pX f1 f2 (bD _ _) ?_
     cases left <;> rfl)
    have hw:dk T part left k=part.map λo=>if left then T k o else T o k:=rfl
    rw[<-hw]at e2;obtain⟨t,rfl⟩:=x2;have hs2:∀y:Sto,S++11#0++x++t++y=S++11#0++(x++t++y):=λy=>by simp
    have hr2:S.length<(S++11#0++x++t).length:=by simp
    have g2:(S++11#0++x++t++[Cell.lst (ai 17#3)])[(S++11#0++x++t).length]?=some (.lst (ai 17#3)):=bD _ _;generalize hn:(S++11#0++x++t).length=n at e2 hr2 g2;have e3:=eU (qA (Y:= 30#2) (a:=ae 6) 0#0 g2 (by have:=hr k;rw[hw,ax];exact hl));have g3:∀z:Sto,(S++11#0++x++t++z)[S.length]?=some (.lst (tups (sdF 6#7 k).1)):=λz=>by rw[hs2];exact k0
    have e4:=append_eq (Y:= 30#2) (o:=ae 3) (r:=S.length) 0#0 e3 (g3 _) (by rw[aJ];exact g3 _) (by rw[tups,ax];exact aA bd.1 (cP hk (aj hm 0#1)));have hs3:S++11#0++x++t++[Cell.lst (ai 17#3)]++[Cell.lst (ai (srt 17#3))]=S++11#0++(x++t++24#6):=by simp
    rw[hs3,ks0]at e4;have hga:(S++[Cell.lst (tups (sdF 6#7 k).1++[.tup (ai (srt 17#3))])]++(x++t++24#6))[a]?=some (.lst (ai (sdF 6#7 k).2)):=by
     rw[Q5 (c':= .lst (tups (sdF 6#7 k).1)) ha];have hal:=(ag.mp hg).1;rw[<-hs2,aJ _ t,aM hal,hg]
    have hgn:(S++[Cell.lst (tups (sdF 6#7 k).1++[.tup (ai (srt 17#3))])]++(x++t++24#6))[n]?=some (.lst (ai 17#3)):=by
     rw[Q5 (c':= .lst (tups (sdF 6#7 k).1)) hr2,<-hs2,<-aJ];have hnl:=(ag.mp g2).1;rw[aM hnl,g2]
    have e5:=add_l (Y:= 30#2) (a:=ae 4) (b:=ae 6) 0#0 0#0 hga hgn (by
     have:=hr k;have h3:k*64<=64*64:=dX _ (aT (cP hk hm))
     unfold big;omega)
    refine⟨_,_,(jP ec).trans ((aO (bz e2)).trans ((aO e4).trans (bz e5))),_,_,_,(x++t++24#6++[Cell.lst (ai ((sdF 6#7 k).2++dk T part left k))]),rfl,?_,?_,?_⟩
    .rw[sdF,if_neg hin];simp[tups]
    .simp
    ·rw[sdF,if_neg hin];exact bD _ _)
 refine⟨S++[Cell.lst (tups (sdF 6#7 m).1)]++x,cw (Y:= [0#3,3#8,some (.bl left),1#1,some (.ref a),b,c]) rfl ?_,⟨[Cell.lst (tups (sdF 6#7 m).1)]++x,by rw[aJ]⟩,k0⟩;show nR [0#3,3#8,some (.bl left),none,none,none,none] S=_;have e2:bH af [0#3,3#8,some (.bl left),1#1,none,none,none] (S++2#4)=some (.ref 11#8,S++2#4++2#4):=fA.trans 0#8;exact(aO (bz fA)).trans ((aO (bz e2)).trans ((aO e1).trans (cu 0#0)))
theorem Bn(g:Grp m T)(hm:m<64)(hl:part.length<64)(hp:∀x∈part,x<m):∃S',ei 11#3 S=some 13#1/\Ex S S'/\S'[S.length]?=some (Cell.lst (tups 9#6)):=LI g hm hl hp
theorem Ko(g:Grp m T)(hm:m<64)(hl:part.length<64)(hp:∀x∈part,x<m):∃S',jc 11#3 S=some 13#1/\Ex S S'/\S'[S.length]?=some (Cell.lst (tups (aS m T part false))):=Ho g hm hl hp
theorem yv(g:Grp m T)(hm:m<64)(hl:part.length<64)(hp:∀x∈part,x<m):∃S',fM 11#3 S=some (.bl (decide (aS m T part true=aS m T part false)),S')/\Ex S S':=by
 obtain⟨S1,e1,x1,h1⟩:=Bn (S:=S) g hm hl hp;obtain⟨S2,e2,x2,h2⟩:=Ko (S:=S1) g hm hl hp;exact⟨S2,cw (Y:= [0#3,3#8]) rfl (show pI [0#3,3#8] S=_ from cu (CW (cJ (f:=ei) 0#0 0#0 e1) (cJ (f:=jc) 0#0 0#0 e2) (x2.some h1) h2)),x1.trans x2⟩
variable{ls:List (List Nat)}{i:Nat}
theorem jT(hi:i<ls.length):(tups ls)[i]?=some (.tup (ai (ls.getD i []))):=by
 unfold tups;rw[bj,aF hi,aU,aF hi];rfl
theorem GM{Y:Rho}{r y:Nat}{ls:List (List Nat)}(X0:Y.length=2)(h1:Y[1]?=some (some (.int (y:Nat))))(hr:getL S r=some (tups ls)):∀(f i:Nat) (acc:List U),ls.length-i<f->i<=ls.length->il (cOf (m2 oIn 1#5 0#7)) 0#5 Y r f i acc S=some (acc++ai ((bY i (ls.length-i)).filter λk=>decide (y∈ls.getD k [])),S)
 |0,i,acc,h,_=>absurd h (Nat.not_lt_zero _)
 | f+1,i,acc,h,hi=>by
   unfold il;rw[hr];simp only[ah];by_cases hlt:i<ls.length
   .rw[jT hlt]
    simp only;have v1:(Y++25#7)[1]?=some (some (.int (y:Nat))):=by rw[aM (by rw[X0];decide)];exact h1
    have v2:(Y++25#7)[2]?=some (some (.int (i:Nat))):=by rw[aq (by rw[X0];decide),X0];rfl
    have v3:(Y++25#7)[3]?=some (some (.tup (ai (ls.getD i [])))):=by rw[aq (by rw[X0];decide),X0];rfl
    have ht:=of_eq (Us (S:=S) (a:=ae 1) (b:=ae 3) (var_eq v1) (var_eq v3));have he:ae 2 (Y++25#7) S=some (.int (i:Nat),S):=var_eq v2;have e:ls.length-i=(ls.length-(i+1))+1:=by rw[Nat.sub_add_eq,mK (Nat.sub_pos_of_lt hlt)]
    have hf:ls.length-(i+1)<f:=by rw[e]at h;exact qi h
    rw[ht];simp only[az];rw[e,oB];by_cases q:y∈ls.getD i []
    .rw[decide_eq_true q,if_pos rfl,he]
     simp only[az];rw[GM X0 h1 hr f (i+1) _ hf hlt,oJ (by exact decide_eq_true q)];simp[ai]
    .rw[decide_eq_false q,if_neg bM]
     rw[GM X0 h1 hr f (i+1) _ hf hlt,oK (by simpa using q)]
   .have hq:i=ls.length:=Nat.le_antisymm hi (bA hlt)
    have hn:(tups ls)[i]?=none:=by
     rw[dF];unfold tups;rw[ax];exact bA hlt
    rw[hn,hq,lV];simp[ai]
theorem MJ{r y:Nat}(hr:S[r]?=some 17#7)(sd:Sds m ls)(hy:y<m)(hl:ls.length<1000):∃S',dG [.ref r,.int (y:Nat)] S=some (.int (nbr ls y:Nat),S')/\Ex S S':=by
 have hg:getL S r=some (tups ls):=by unfold getL;rw[hr]
 have e1:=GM (S:=S) (Y:= 23#3) (y:=y) rfl rfl hg fuel 0 [] (by unfold fuel;exact aj hl 0#1) (dC _);have ef:(bY 0 (ls.length-0)).filter (λk=>decide (y∈ls.getD k []))=[nbr ls y]:=by
  rw[Jv,<-rL];exact IW (sd.nb hy).1 (decide_eq_true (sd.nb hy).2) λj hj hp=>(sd.nb_of hy hj (of_decide_eq_true hp)).symm
 rw[ef,dg]at e1;have e2:iu 2 (mO 4#0) (cOf (m2 oIn 1#5 0#7)) 0#5 23#3 S=some (.ref S.length,S++[.lst (ai [nbr ls y])]):=by
  have hi:mO 4#0 23#3 S=some (.enl r,S):=by
   show((getL S r).map λ_=>(Src.enl r,S))=_;rw[hg];rfl
  simp only[iu,hi,az,Ci,if_true,e1];rw[if_pos (by simp[ai,big])]
 exact⟨_,cw (Y:= 23#3) rfl (show mn 23#3 S=_ from cu (pX (z:=0) e2 c_i (bD _ _) rfl)),Ex.push _ _⟩
theorem Hv{ls:List (List Nat)}(h:∀l∈ls,l.length<=64):∀k,k<=ls.length->(dN ls k).length<=k*64
 |0,_=>ak _
 | k+1,hk=>by
   have h1:=Hv h k (Nat.le_of_succ_le hk);have h2:=wo (v:=k) (xs:=ls.getD k []) (D:=dN ls k);have h3:(ls.getD k []).length<=64:=by
    rw[aU,aF hk];exact h _ (cg hk)
   show(tQ (dN ls k) (ls.getD k []) k).length<=_;rw[jC];exact aC h2 (Nat.add_le_add h1 h3)
theorem Eg{D:List (_L.Key×U)}{xs:List Nat}{x v:Nat}:tQ D (xs++[x]) v=lq (tQ D xs v) 6#1 (.int (v:Nat)):=by
 unfold tQ;rw[mT];rfl
theorem HD(g:Grp m T)(hm:m<64)(hl:part.length<64)(hp:∀x∈part,x<m):∃S',fE 11#3 S=some 13#1/\Ex S S'/\S'[S.length]?=some (.dic (dN 9#6 (aS m T part true).length)):=by
 have sl:=rV (left:=true) g hm hl hp;obtain⟨S2,e2,x2,h2⟩:=Bn (S:=S++[.dic []]) g hm hl hp;generalize hls:aS m T part true=ls at h2 sl;have hn2:S.length<(S++[Cell.dic []]).length:=by simp
 generalize hN:(S++[Cell.dic []]).length=n at e2 h2 hn2;have hu:(tups ls).length=ls.length:=by simp[tups]
 have hll:=sl.len;obtain⟨X5,S3,e3,⟨a,b,c,rfl⟩,x3,h3,_⟩:=yk (g:=gTp 2 (eD (gN 3) (eD (gN 4) m8))) (b:=ee 5 (b0 1#3) (eM 0#5 (ae 5) 0#7)) (n:=n) (tups ls)
  (λk Y S'=>(∃a b c,Y=[0#3,3#8,1#1,a,b,c])/\Ex S S'/\S'[S.length]?=some (.dic (dN ls k))/\S'[n]?=some 17#7)
  (λk Y S' h=>by unfold getL;rw[h.2.2.2]) (by
   rintro k u Y S' hk ⟨⟨a,b,c,rfl⟩,x,hd,hs⟩;have hkl:k<ls.length:=by have:=(ag.mp hk).1;rwa[hu]at this
   rw[jT hkl]at hk;cases hk;generalize hw:ls.getD k []=w;have hwl:w.length<=64:=by
    rw[<-hw,aU,aF hkl];exact sl.each _ (cg hkl)
   have hdl:=aC (Hv sl.each k (aT hkl)) (dX 64 (aC (aT hkl) hll));obtain⟨Z2,S4,e4,⟨c',rfl⟩,x4,h4,hs4⟩:=pz (i:=5) (b:=eM 0#5 (ae 5) 0#7) (e:=ae 4) (Y:= 32#6) (S:=S') (us:=ai w) 0#0
    (λj Y S4=>(∃c,Y=32#6)/\Ex S S4/\S4[S.length]?=some (.dic (tQ (dN ls k) (w.take j) k))/\S4[n]?=some 17#7)
    ⟨⟨_,rfl⟩,x,by rw[List.take_zero];exact hd,hs⟩ (by
     rintro j u Y S4 hj ⟨⟨c,rfl⟩,x4,h4,hs4⟩;obtain⟨y,hy,rfl⟩:=hJ hj;have hlen:=wo (v:=k) (xs:=w.take j) (D:=dN ls k);have htl:(w.take j).length<=64:=aC (List.length_take_le' _ _) hwl;have eset:=MQ (Y:= [0#3,3#8,1#1,some (.int (k:Nat)),3#9,some (.int (y:Nat))]) (S:=S4) (o:=ae 2) (i:=ae 5) (e:=ae 3) (r:=S.length) (z:=(y:Int)) (u:= .int (k:Nat)) 0#0 0#0 0#0 h4 (aA (aC hlen (Nat.add_le_add hdl htl)) 0#1);have hin:=(ag.mp h4).1;refine⟨_,_,eset,⟨_,rfl⟩,x4.set 0#9,?_,?_⟩
     .rw[aN hin]
      have:w.take (j+1)=w.take j++[y]:=by
       rw[mS,hy];rfl
      rw[this,Eg]
     ·rw[aB (aW hn2)];exact hs4)
   rw[bw,oI]at h4;refine⟨32#6,S',_,S4,rfl,e4,⟨_,_,_,rfl⟩,x4,?_,hs4⟩
   rw[dN,hw];exact h4) fuel 0 [some (tab m T),some (.tup (ai part)),some (.ref S.length),none,none,none] S2 (dC _) (by rw[hu];unfold fuel;exact aA (aC (gI _ _) hll) (by decide)) ⟨⟨_,_,_,rfl⟩,(Ex.push _ _).trans x2,x2.some (bD _ _),h2⟩
 rw[hu]at h3;have hi:mO (aa (mFn ei 3#7) af) 22#8 (S++[.dic []])=some (.enl n,S2):=by
  have q:mFn ei 3#7 22#8 (S++[Cell.dic []])=some (.ref n,S2):=by
   have v0:ae 0 22#8 (S++[Cell.dic []])=some (tab m T,S++[Cell.dic []]):=rfl;have v1:ae 1 22#8 (S++[Cell.dic []])=some (.tup (ai part),S++[Cell.dic []]):=rfl;exact cJ v0 v1 e2
  simp only[mO,aa,af,q,az,getL,h2,aI]
 have ef:vB (gTp 2 (eD (gN 3) (eD (gN 4) m8))) (mO (aa (mFn ei 3#7) af)) (ee 5 (b0 1#3) (eM 0#5 (ae 5) 0#7)) 22#8 (S++[.dic []])=some (.nx,[0#3,3#8,1#1,a,b,c],S3):=by
  unfold vB;rw[hi];exact e3
 exact⟨S3,cw (Y:= [0#3,3#8,1#1,a,b,c]) rfl (show kj [0#3,3#8,none,none,none,none] S=_ from(aO (bz (show qZ [0#3,3#8,none,none,none,none] S=some (.ref S.length,S++[.dic []]) from rfl))).trans ((aO ef).trans (cu 0#0))),x3,h3⟩
def xj(ls:List 5#4)(i:Nat):Nat:=(ls.getD i []).headD 0
def kz(ls:List 5#4)(i:Nat):Nat:=(ls.getD i []).getLastD 0
theorem uu(sb:Sbg m T part)(g:Grp m T)(hi:i<(aS m T part true).length):(aS m T part true).getD i []≠[]:=by
 have e:(aS m T part true).getD i []=(aS m T part true)[i]:=by rw[aU,aF hi];rfl
 obtain⟨k,hk,q⟩:=jf (cg hi:(aS m T part true)[i]∈aS m T part true);rw[e,q];intro z;have:=(eW (l:=dk T part true k)).mpr (zj sb g hk);rw[z]at this;simp at this
theorem M9(sb:Sbg m T part)(g:Grp m T)(hi:i<(aS m T part true).length):xj 9#6 i∈(aS m T part true).getD i []:=by
 have h:=uu sb g hi;unfold xj;generalize (aS m T part true).getD i []=l at h ⊢;cases l with
 |nil=>exact absurd rfl h
 |cons x l=>simp
theorem B3(sb:Sbg m T part)(g:Grp m T)(hi:i<(aS m T part true).length):kz 9#6 i∈(aS m T part true).getD i []:=by
 have h:=uu sb g hi;unfold kz;generalize (aS m T part true).getD i []=l at h ⊢;rw[iD,gn h];exact List.getLast_mem h
def hdU:U->U
 |.tup (x::_)=>x
 |_=>.non
theorem IK(sb:Sbg m T part)(g:Grp m T)(hm:m<64)(hl:part.length<64)(hlv:aS m T part true=aS m T part false):∃S',eh 11#3 S=some (tab (aS m T part true).length (λi j=>nbr 9#6 (T (xj 9#6 i) (xj 9#6 j))),S')/\Ex S S':=by
 have hp:=sb.lt;have sl:=rV (left:=true) g hm hl hp;have sd:=fR (b:=true) sb g;obtain⟨S1,e1,x1⟩:=yv (S:=S) g hm hl hp;rw[decide_eq_true hlv]at e1;obtain⟨S2,e2,x2,h2⟩:=Bn (S:=S1) g hm hl hp;have hmem:=λi hi=>M9 (i:=i) sb g hi;have hne:=λi hi=>uu (i:=i) sb g hi;have hsm:=λi hi=>(λx hx=>(hG (b:=true) (i:=i) sb g hi (x:=x) hx).1);obtain⟨S4,e4,x4,h4⟩:=HD (S:=S2++[.lst ((tups 9#6).map hdU)]) g hm hl hp;generalize hls:aS m T part true=ls at *
 have e3:=Fu (t:=cTT) (e:=m2 oIx 1#3 1#8) (Y:= 24#1) (S:=S1) (us:=tups ls) (p:=λ_=>true) (f:=hdU) (cJ (f:=ei) (a:=ae 0) (b:=ae 1) 0#0 0#0 e2) h2 (by rw[tups,ax];exact aA sl.len 0#1) (λu _=>rfl) (λu hu _=>by
  obtain⟨k,hk,e⟩:=JI.mp hu;have hk':k<ls.length:=by simpa [tups]using hk
  have:=jT hk';rw[aF hk,e]at this;cases this;have h:=hne k hk';generalize ls.getD k []=l at h;cases l with
  |nil=>exact absurd rfl h
  | cons x l=>exact Et (us:=ai (x::l)) (z:=((0:Nat):Int)) (u:= .int (x:Nat)) (var_eq rfl) rfl (jd rfl))
 rw[List.filter_eq_self.mpr (λ_ _=>rfl)]at e3;have hh:∀i,i<ls.length->((tups ls).map hdU)[i]?=some (.int (xj ls i:Nat)):=λi hi=>by
  rw[bj,jT hi];unfold xj;have h:=hne i hi;generalize ls.getD i []=l at h ⊢;cases l with
  |nil=>exact absurd rfl h
  |cons x l=>rfl
 have h3:(S2++[Cell.lst ((tups ls).map hdU)])[S2.length]?=some (.lst ((tups ls).map hdU)):=bD _ _;have x3:Ex S2 (S2++[Cell.lst ((tups ls).map hdU)]):=Ex.push _ _;generalize S2++[Cell.lst ((tups ls).map hdU)]=S3 at e3 e4 x4 h4 h3 x3;have el:=tE (Y:= [0#3,3#8,some 11#6,some (.ref S3.length)]) (S:=S4) (a:=ae 2) 0#0 (x4.some h3);have hlen:((tups ls).map hdU).length=ls.length:=by simp[tups]
 rw[hlen]at el;refine⟨tabS S4 ls.length (λi j=>nbr ls (T (xj ls i) (xj ls j))) ls.length,cw (Y:= [0#3,3#8,some 11#6,some (.ref S3.length)]) rfl ?_,(((x1.trans x2).trans x3).trans x4).trans Dn⟩;show jK 24#1 S=_;refine(aO ((iA (not_eq (of_eq (cJ (f:=fM) (a:=ae 0) (b:=ae 1) 0#0 0#0 e1)))).trans rfl)).trans ((aO (bz e3)).trans ((aO (bz (Y:= [0#3,3#8,some 11#6,none]) (cJ (f:=fE) (a:=ae 0) (b:=ae 1) 0#0 0#0 e4))).trans (cu ?_)));refine uV (cs:= [tab m T,.ref S2.length,.ref S3.length]) el rfl λf=>Eu (aA sl.len 0#1) (λi j S' x hi hj=>?_) f;have hc3:=(x4.trans x).some h3;have hd4:=x.some h4;have am:=hsm i hi _ (hmem i hi);have bm:=hsm j hj _ (hmem j hj);have hv:=B9 sd (g.cl _ _ am bm) _ 0#9;rw[if_pos (sd.nb (g.cl _ _ am bm)).1]at hv;show m2 oIx 1#3 (m2 oIx (m2 oIx 0#5 (m2 oIx 0#7 0#6)) (m2 oIx 0#7 1#5)) [some (.int (i:Nat)),some (.int (j:Nat)),0#3,some 11#6,some (.ref S3.length)] S'=_;exact Ph 0#0 (ip (T:=T) bm (ij am 0#0 (pX 0#0 0#0 hc3 (jd (hh i hi)))) (pX 0#0 0#0 hc3 (jd (hh j hj)))) hd4 hv
theorem Ky(sb:Sbg m T part)(g:Grp m T)(hm:m<64)(hl:part.length<64)(hlv:aS m T part true≠aS m T part false):eh 11#3 S=none /\ ∃S',gL 11#3 S=some (1,S')/\Ex S S':=by
 obtain⟨S1,e1,x1⟩:=yv (S:=S) g hm hl sb.lt;rw[decide_eq_false hlv]at e1;have c:=not_eq (of_eq (cJ (f:=fM) (Y:= 24#1) (S:=S) (a:=ae 0) (b:=ae 1) 0#0 0#0 e1));exact⟨BG (show jK 24#1 S=none from BW ((jP c).trans rfl)),S1,yD rfl (show jR 24#1 S=_ from zL ((MR c).trans (zL rfl))),x1⟩
def laU:U->Nat
 | .tup us=>(match us.getLastD .non with
   |.int i=>i.toNat
   | _=>0)
 |_=>0
theorem HQ(h:ls.getD i []≠[]):laU (.tup (ai (ls.getD i [])))=kz ls i:=by
 unfold kz;generalize ls.getD i []=l at h ⊢;have e:(ai l).getLastD .non=.int (l.getLastD 0:Nat):=by
  rw[iD,iD,ai,List.getLast?_map,gn h];rfl
 show(match (ai l).getLastD .non with
  |.int i=>i.toNat
  | _=>0)=_
 rw[e];rfl
variable{Y:Rho}
theorem M5{S1:Sto}{a:ME}{l:List Nat}(ha:a Y S=some (.tup 2#0,S1))(h:l≠[]):m2 oIx a 4#9 Y S=some (.int (l.getLastD 0:Nat),S1):=by
 refine Et ha IX ?_;have hl:0<l.length:=tL.mpr h;have e:ixN (ai l).length (-1)=some (l.length-1):=by
  rw[bw];unfold ixN;rw[if_neg 0#1,if_pos 0#2]
  congr 1;omega
 unfold atI;rw[e];simp only[ah];rw[ai,bj,<-List.getLast?_eq_getElem?,gn h,iD,gn h];rfl
theorem LD(sb:Sbg m T part)(g:Grp m T)(hm:m<64)(hl:part.length<64){r:Nat}(hr:S[r]?=some (.lst (tups 9#6))):∃S',mH [tab m T,.ref r] S=some (tab (aS m T part true).length (λi j=>nbr 9#6 (T (kz 9#6 i) (kz 9#6 j))),S')/\Ex S S':=by
 have sl:=rV (left:=true) g hm hl sb.lt;have sd:=fR (b:=true) sb g;have hmem:=λi hi=>B3 (i:=i) sb g hi;have hne:=λi hi=>uu (i:=i) sb g hi;have hsm:=λi hi=>(λx hx=>(hG (b:=true) (i:=i) sb g hi (x:=x) hx).1);generalize hls:aS m T part true=ls at *;have hll:=sl.len;have hrl:=(ag.mp hr).1;have hu:(tups ls).length=ls.length:=by simp[tups]
 obtain⟨Y1,S1,e1,⟨x,rfl⟩,x1,h1,_⟩:=yt (i:=3) (e:=ae 1) (b:=du (mML bF 0#5 (aa (mFn bC (aa (bK 4#6 cTT (mFn dG 24#4)) af)) af))) (Y:= [0#3,7#4,1#1,none]) (S:=S++[.lst []]) (us:=tups ls) 0#0 (by rw[hu];exact aA hll 0#1)
  (λk Y S'=>(∃x,Y=[0#3,7#4,1#1,x])/\Ex S S'/\S'[S.length]?=some (.lst ((ay k).map (lM ls.length λi j=>nbr ls (T (kz ls i) (kz ls j)))))/\S'[r]?=some 17#7) ⟨⟨_,rfl⟩,Ex.push _ _,bD _ _,(Ex.push _ _).some hr⟩
  (λk Y S' h=>by unfold getL;rw[h.2.2.2]) (by
   rintro k u Y S' hk ⟨⟨x,rfl⟩,xx,hf,hs⟩;have hkl:k<ls.length:=by have:=(ag.mp hk).1;rwa[hu]at this
   rw[jT hkl]at hk;cases hk;have am:=hsm k hkl _ (hmem k hkl)
   obtain⟨S2,e2,x2,hs2⟩:=vt (e:=mFn dG 24#4) (Y:= 21#9) (n:=r) (us:=tups ls) (f:=λu => .int (nbr ls (T (kz ls k) (laU u)):Nat)) (λS2=>Ex S' S2/\S2[r]? = some 17#7) (λS2 h=>by unfold getL;rw[h.2]) (by
    rintro u hu' S2 ⟨x2,hs2⟩;obtain⟨j,hj,e⟩:=JI.mp hu';have hj':j<ls.length:=by rwa[hu]at hj
    have:=jT hj';rw[aF hj,e]at this;cases this;have bm:=hsm j hj' _ (hmem j hj');obtain⟨S3,e3,x3⟩:=MJ (S:=S2) (r:=r) (y:=T (kz ls k) (kz ls j)) hs2 sd (g.cl _ _ am bm) (aA hll 0#1);refine⟨S3,?_,x2.trans x3,x3.some hs2⟩;rw[HQ (hne j hj')]
    exact cJ (f:=dG) (a:=ae 1) (var_eq rfl) (ip (T:=T) bm (ij am (var_eq rfl) (M5 (var_eq rfl) (hne k hkl))) (M5 (var_eq rfl) (hne j hj'))) e3) fuel 0 [] S' (dC _) (by rw[hu];unfold fuel;exact aA (aC (gI _ _) hll) (by decide)) ⟨Ex.refl _,hs⟩
   rw[rN,dg]at e2;have hrow:(tups ls).map (λu=>U.int (nbr ls (T (kz ls k) (laU u)):Nat))=(ay ls.length).map λj=>U.int (nbr ls (T (kz ls k) (kz ls j)):Nat):=by
    apply mR;intro j;rw[bj,bj];by_cases hj:j<ls.length
    .rw[jT hj,lB hj,aI,aI,HQ (hne j hj)]
    .rw[cY (by rw[hu];exact bA hj),cY (by rw[bc];exact bA hj)];rfl
   rw[hrow]at e2;have e3:bK 4#6 cTT (mFn dG 24#4) 21#9 S'=some (.ref S2.length,S2++[.lst ((ay ls.length).map λj=>U.int (nbr ls (T (kz ls k) (kz ls j)):Nat))]):=by
    have hi:b0 1#5 21#9 S'=some (.mut r,S'):=by
     have v:ae 1 21#9 S'=some (.ref r,S'):=rfl;simp only[b0,v,az,getL,hs,aI]
    simp only[bK,hi,az,wj,e2];rw[if_pos (by rw[ax,bc];exact aA hll 0#1)]
   have e4:=append_eq (Y:= 21#9) (S:=S') (o:=ae 2) (r:=S.length) 0#0 (eU e3) hf ((x2.trans 3#1).some hf) (by rw[ax,bc];exact aA (aC (aT hkl) hll) 0#1);have hin:S.length<(S2++[Cell.lst ((ay ls.length).map λj=>U.int (nbr ls (T (kz ls k) (kz ls j)):Nat))]).length:=(ag.mp ((x2.trans 3#1).some hf)).1;refine⟨_,_,e4,⟨_,rfl⟩,((xx.trans x2).trans 3#1).set 0#9,?_,?_⟩
   .rw[aN hin,eS,ck]
    rfl
   .rw[aB (cN hrl)]
    exact(Ex.push _ _).some hs2)
 rw[hu]at h1;exact⟨S1,cw (Y:= [0#3,7#4,1#1,x]) rfl (show pU [0#3,7#4,none,none] S=_ from(aO (bz fA)).trans ((aO e1).trans (cu (jn 0#0 h1)))),x1⟩
theorem CT{S S1 S2:Sto}{a b:ME}{n k:Nat}{x y:List (List Nat)}(ha:a Y S=some 12#2)(hb:b Y S1=some (.ref k,S2))(hn:S2[n]?=some (Cell.lst (tups x)))(hk:S2[k]?=some (Cell.lst (tups y))):m2 oNe a b Y S=some (.bl (!decide (x=y)),S2):=by
 refine op2 ha hb ?_;simp only[oNe,_G.eqU,qu hn,qu hk,ah,aI,dz,vp]
end
end
section
open _L _G
section
variable {m:Nat}{T:Nat->Nat->Nat}{P Wd:List Nat}
abbrev Lv(m:Nat)(T:Nat->Nat->Nat)(P:List Nat):Prop:=aS m T P true=aS m T P false
variable{b:Bool}{s:List Nat}
theorem uS(hs:s∈aS m T P b):s.length=P.length:=by
 obtain⟨i,_,rfl⟩:=jf hs;rw[kP];simp[dk]
theorem yM(g:Grp m T)(hlt:∀x∈P,x<m)(nd:P.Nodup){x:Nat}(hx:x<m):(dk T P b x).Nodup:=by
 unfold dk;rw[bS,g8];refine kB (R:=λa b=>a≠b) ?_ (bS.mp nd);intro u v hu hv hne e;cases b with
 |true=>exact hne (g.cancel hx (hlt u hu) (hlt v hv) e)
 |false=>exact hne (g.cancelR hx (hlt u hu) (hlt v hv) e)
theorem Kl(h:Sbg m T P)(g:Grp m T)(nd:P.Nodup)(hs:s∈aS m T P b):s.Nodup:=by
 obtain⟨i,hi,rfl⟩:=jf hs;exact(lF _).nodup_iff.mpr (yM g h.lt nd hi)
variable{x:Nat}
theorem KE(h:Sbg m T P)(g:Grp m T)(hs:s∈aS m T P b)(hx:x∈s):x<m:=by
 obtain⟨i,hi,rfl⟩:=jf hs;exact(Bt h g hi (eW.mp hx)).1
theorem Gb(h:Sbg m T P)(g:Grp m T)(nd:P.Nodup):(aS m T P b).flatten.Perm (ay m):=by
 have sd:=fR (b:=b) h g;refine y3 ?_ List.nodup_range λx=>?_
 .rw[bS,List.pairwise_flatten]
  refine⟨λs hs=>bS.mp (Kl h g nd hs),sd.dis.imp ?_⟩;intro s t hst u hu v hv e;subst e;exact hst u hu hv
 .rw[List.mem_flatten,bZ]
  constructor
  .rintro ⟨s,hs,hx⟩;exact KE h g hs hx
  .intro hx;exact sd.cov x hx
theorem Dr{k:Nat}:∀(ls:List 5#4),(∀s∈ls,s.length=k)->ls.flatten.length=ls.length*k
 |[],_=>by simp
 | s::ls,h=>by
   rw[fI,a8,Dr ls λt ht=>h t (aD _ ht),h s 0#8,cf,jC,jD]
theorem om(h:Sbg m T P)(g:Grp m T)(nd:P.Nodup):(aS m T P b).length*P.length=m:=by
 rw[<-Dr (aS m T P b) λs hs=>uS hs,(Gb h g nd).length_eq,bc]
theorem DM(h:Sbg m T P):0<P.length:=List.length_pos_of_mem h.z
theorem OS(g:Grp m T)(hlt:∀x∈P,x<m):dk T P b 0=P:=by
 unfold dk
 conv=>rhs;rw[<-JH P]
 apply bN;intro x hx;cases b with
 |true=>exact g.l0 x (hlt x hx)
 |false=>exact g.r0 x (hlt x hx)
theorem OH(h:Sbg m T P)(g:Grp m T)(hP:P.Pairwise (· < ·)):(sdF (dk T P b) 1).1=[P]:=by
 show(if 0∈([]:List Nat) then(([]:List 5#4),([]:List Nat)) else([]++[srt (dk T P b 0)],[]++dk T P b 0)).1=_;rw[if_neg 0#8,OS g h.lt,BM hP];rfl
theorem xP{r:Nat->List Nat}{s:List Nat}:∀k,1<=k->(sdF r 1).1=[s]->∃l,(sdF r k).1=s::l
 |0,h,_=>by omega
 |1,_,e=>⟨[],e⟩
 | k+2,_,e=>by
   obtain⟨l,hl⟩:=xP (k+1) 0#2 e;rw[sdF]
   split
   .exact⟨l,hl⟩
   .exact⟨l++[srt (r (k+1))],by rw[hl];rfl⟩
theorem uP(h:Sbg m T P)(g:Grp m T)(hP:P.Pairwise (· < ·)):∃l,aS m T P b=P::l:=xP m g.pos (OH h g hP)
theorem HS(h:Sbg m T P)(g:Grp m T)(hP:P.Pairwise (· < ·))(hx:x<m):nbr (aS m T P b) x=0↔x∈P:=by
 obtain⟨l,hl⟩:=uP (b:=b) h g hP;have sd:=fR (b:=b) h g;have e0:(aS m T P b).getD 0 []=P:=by rw[hl];rfl
 constructor
 .intro e
  have:=(sd.nb hx).2;rw[e,e0]at this;exact this
 .intro hxP
  exact sd.nb_of hx (by rw[hl];simp) (by rw[e0];exact hxP)
def Nrm(m:Nat)(T:Nat->Nat->Nat)(P:List Nat):Prop:= ∀x,x<m->∀o∈P,T (T x o) (unT m T x)∈P
theorem CM(h:Sbg m T P)(g:Grp m T)(n:Nrm m T P)(hx:x<m)(z:Nat):z∈dk T P true x↔z∈dk T P false x:=by
 have hu:=Ht g hx;constructor
 .intro hz
  obtain⟨o,ho,rfl⟩:=aQ.mp hz;refine aQ.mpr ⟨_,n x hx o ho,?_⟩;show T (T (T x o) (unT m T x)) x=T x o;rw[g.as _ _ _ (g.cl _ _ hx (h.lt o ho)) hu hx,Qk g hx,g.r0 _ (g.cl _ _ hx (h.lt o ho))]
 .intro hz
  obtain⟨o,ho,rfl⟩:=aQ.mp hz;have hn:=n (unT m T x) hu o ho;rw[SX g hx]at hn;refine aQ.mpr ⟨_,hn,?_⟩;show T x (T (T (unT m T x) o) x)=T o x;have hom:=h.lt o ho;rw[<-g.as x _ x hx (g.cl _ _ hu hom) hx,<-g.as x _ o hx hu hom,QD g hx,g.l0 o hom]
theorem Oc(h:Sbg m T P)(g:Grp m T)(nd:P.Nodup)(n:Nrm m T P):Lv m T P:=by
 have key:∀k,k<=m->(sdF (dk T P true) k).1=(sdF (dk T P false) k).1 /\ ∀z,z∈(sdF (dk T P true) k).2↔z∈(sdF (dk T P false) k).2:=by
  intro k
  induction k with
  |zero=>intro _;exact⟨rfl,λz=>Iff.rfl⟩
  | succ k ih=>
    intro hk;obtain⟨i1,i2⟩:=ih 0#2;have hk:k<m:=hk;rw[sdF,sdF];by_cases q:k∈(sdF (dk T P true) k).2
    .rw[if_pos q,if_pos ((i2 k).mp q)];exact⟨i1,i2⟩
    .rw[if_neg q,if_neg (λz=>q ((i2 k).mpr z))]
     refine⟨?_,λz=>?_⟩
     .show(sdF (dk T P true) k).1++_=(sdF (dk T P false) k).1++_
      rw[i1,rP (y3 (yM g h.lt nd hk) (yM g h.lt nd hk) (CM h g n hk))]
     .show z∈(sdF (dk T P true) k).2++_↔z∈(sdF (dk T P false) k).2++_
      rw[be,be,i2 z,CM h g n hk z]
 exact(key m 0#9).1
theorem Fh(h:Sbg m T P)(g:Grp m T)(pl:∀i j,i<m->j<m->T i j=T j i):Nrm m T P:=by
 intro x hx o ho;have hom:=h.lt o ho;rw[pl x o hx hom,g.as o x _ hom hx (Ht g hx),QD g hx,g.r0 o hom];exact ho
abbrev ldL(m:Nat)(T:Nat->Nat->Nat)(P:List Nat)(i:Nat):Nat:=((aS m T P true).getD i []).headD 0
def resT(m:Nat)(T:Nat->Nat->Nat)(P:List Nat)(i j:Nat):Nat:=nbr 4#7 (T (ldL m T P i) (ldL m T P j))
variable{i:Nat}
theorem nU(h:Sbg m T P)(hi:i<(aS m T P true).length):ldL m T P i∈(aS m T P true).getD i []:=by
 have e:(aS m T P true).getD i []=(aS m T P true)[i]:=by rw[aU,aF hi];rfl
 have hl:=uS (cg hi:(aS m T P true)[i]∈aS m T P true);have:=DM h;unfold ldL;rw[e];cases q:(aS m T P true)[i] with
 |nil=>rw[q]at hl;simp at hl;omega
 |cons a l=>simp
theorem DJ(h:Sbg m T P)(g:Grp m T)(hi:i<(aS m T P true).length):ldL m T P i<m:=(hG h g hi (nU h hi)).1
theorem SN(h:Sbg m T P)(g:Grp m T)(hi:i<(aS m T P true).length):nbr 4#7 (ldL m T P i)=i:=
 (fR h g).nb_of (DJ h g hi) hi (nU h hi)
theorem jS(h:Sbg m T P)(g:Grp m T)(lv:Lv m T P){y:Nat}(hx:x<m)(hy:y<m):nbr 4#7 (T x y)=resT m T P (nbr 4#7 x) (nbr 4#7 y):=by
 have sd:=fR (b:=true) h g;obtain⟨a1,a2⟩:=sd.nb hx;obtain⟨b1,b2⟩:=sd.nb hy;exact AE h g lv a1 b1 a2 b2 (nU h a1) (nU h b1)
theorem Dd(h:Sbg m T P)(g:Grp m T)(hP:P.Pairwise (· < ·))(lv:Lv m T P):Grp (aS m T P true).length (resT m T P):=by
 have sd:=fR (b:=true) h g;have sur:∀i,i<(aS m T P true).length->∃x,x<m/\nbr 4#7 x=i:=λi hi=>⟨_,DJ h g hi,SN h g hi⟩;have z0:nbr 4#7 0=0:=(HS h g hP g.pos).mpr h.z;refine⟨?_,λi j hi hj=>?_,λi hi=>?_,λi hi=>?_,λi hi=>?_,λi j k hi hj hk=>?_⟩
 .have:=(sd.nb g.pos).1;omega
 .exact(sd.nb (g.cl _ _ (DJ h g hi) (DJ h g hj))).1
 .obtain⟨x,hx,rfl⟩:=sur i hi
  have:=jS h g lv g.pos hx;rw[z0,g.l0 x hx]at this;exact this.symm
 .obtain⟨x,hx,rfl⟩:=sur i hi
  have:=jS h g lv hx g.pos;rw[z0,g.r0 x hx]at this;exact this.symm
 .obtain⟨x,hx,rfl⟩:=sur i hi
  obtain⟨y,hy,e1,e2⟩:=g.inv x hx;refine⟨nbr 4#7 y,(sd.nb hy).1,?_,?_⟩
  .rw[<-jS h g lv hx hy,e1,z0]
  .rw[<-jS h g lv hy hx,e2,z0]
 .obtain⟨x,hx,rfl⟩:=sur i hi
  obtain⟨y,hy,rfl⟩:=sur j hj;obtain⟨z,hz,rfl⟩:=sur k hk;rw[<-jS h g lv hx hy,<-jS h g lv (g.cl _ _ hx hy) hz,<-jS h g lv hy hz,<-jS h g lv hx (g.cl _ _ hy hz),g.as x y z hx hy hz]
end
section
variable {m:Nat}{T:Nat->Nat->Nat}{P:List Nat}{S:Sto}
structure Prl(m:Nat)(T:Nat->Nat->Nat)(P:List Nat):Prop where
 g:Grp m T
 hm:m<=24
 sb:Sbg m T P
 pw:P.Pairwise (· < ·)
theorem Prl.nd(p:Prl m T P):P.Nodup:=bS.mpr (p.pw.imp λh=>aW h)
theorem Prl.len(p:Prl m T P):P.length<=24:=aC (rW m P p.nd p.sb.lt) p.hm
theorem Ow{w:List Nat}(g:Grp m T)(hm:m<=24)(hw:∀x∈w,x<m):∃P S',y7 [tab m T,.tup (ai w)] S=some (.tup (ai P),S')/\Ex S S'/\Prl m T P /\ ∀x,x∈P↔Rch T w x:=by
 obtain⟨ks,S1,e1,x1,d⟩:=TF (S:=S) (ths:=w) g 0#2 hw;exact⟨srt ks,S1,e1,x1,⟨g,hm,d.sbg g hw,Hb d.nd⟩,λx=>by rw[eW,d.all]⟩
end
end
section
open _L _G
section
variable {m:Nat}{T:Nat->Nat->Nat}{P w:List Nat}{S:Sto}
abbrev nbS(m:Nat)(T:Nat->Nat->Nat)(P:List Nat):Nat->Nat:=nbr 4#7
abbrev mnS(m:Nat)(T:Nat->Nat->Nat)(P:List Nat):Nat:=(aS m T P true).length
theorem zV(p:Prl m T P)(lv:Lv m T P):∀(w:List Nat) (x:Nat),x<m->Lt m w->(w.map 10#9).foldl (resT m T P) (nbS m T P x)=nbS m T P (w.foldl T x)
 |[],x,_,_=>rfl
 | y::w,x,hx,hw=>by
   have hy:y<m:=hw y 0#8;show(w.map 10#9).foldl (resT m T P) (resT m T P (nbS m T P x) (nbS m T P y))=_;rw[<-jS p.sb p.g lv hx hy];exact zV p lv w _ (p.g.cl x y hx hy) λz hz=>hw z (aD _ hz)
theorem nb0(p:Prl m T P):nbS m T P 0=0:=(HS p.sb p.g p.pw p.g.pos).mpr p.sb.z
theorem AX(p:Prl m T P)(lv:Lv m T P)(hw:Lt m w):dQ (resT m T P) (w.map 10#9)=nbS m T P (dQ T w):=by
 have:=zV p lv w 0 p.g.pos hw;rwa[nb0 p]at this
theorem Lq(p:Prl m T P)(lv:Lv m T P)(hw:Lt m w):pre (resT m T P) (w.map 10#9)=(pre T w).map 10#9:=by
 unfold pre;rw[ax,eZ];refine bN λk _=>?_;show dQ (resT m T P) ((w.map 10#9).take k)=nbS m T P (dQ T (w.take k));rw[<-DY];exact AX p lv (hw.tk k)
theorem L5(p:Prl m T P){x:Nat}(hx:x<m):nbS m T P x<mnS m T P:=((fR p.sb p.g).nb hx).1
theorem NI(p:Prl m T P)(hw:Lt m w):Lt 9#1 (w.map 10#9):=λx hx=>by
 obtain⟨y,hy,rfl⟩:=aQ.mp hx;exact L5 p (hw y hy)
theorem vM(p:Prl m T P):1<=mnS m T P/\mnS m T P<=m:=by
 have h1:=om (b:=true) p.sb p.g p.nd;have h2:=DM p.sb;have h3:=p.g.pos;refine⟨?_,?_⟩
 .apply fh
  intro z;have:(aS m T P true).length=0:=by unfold mnS at z;omega
  rw[this,Nat.zero_mul]at h1;omega
 .have:mnS m T P*1<=mnS m T P*P.length:=lE _ h2
  unfold mnS at *;omega
def spn(T:Nat->Nat->Nat)(P:List Nat)(c:Nat):Prop:= ∀x,x∈P↔Rch T [c] x
instance(T:Nat->Nat->Nat)(P:List Nat)(c:Nat):Decidable (spn T P c):=cp _
def okL(m:Nat)(T:Nat->Nat->Nat)(P w:List Nat):Bool:= !decide (0∈w)&&((decide (nbS m T P (dQ T w)=0)&&decide (srt 8#5=ay 9#1))&&decide (spn T P (dQ T w)))
theorem y9(h:okL m T P w=true):w.length=mnS m T P/\0∉w:=by
 unfold okL at h;simp only[ar,decide_eq_true_eq,Bool.not_eq_true',decide_eq_false_iff_not]at h;have:=congrArg zx h.2.1.2;rw[kP,ax,zu,bc]at this;exact⟨this,h.1⟩
theorem Av(p:Prl m T P){Q:List Nat}{c:Nat}(q:Prl m T Q)(h:∀x,x∈Q↔Rch T [c] x):decide (Q=P)=decide (spn T P c):=by
 rw[decide_eq_decide];constructor
 .rintro rfl;exact h
 .intro z
  exact Py q.pw p.pw λx=>(h x).trans (z x).symm
variable{r:Nat}{v:List Nat}
theorem Pw(g:Grp m T)(hw:Lt m v)(hl:v.length<1000)(hr:S[r]?=some (.lst (ai v))):∃S',qR [tab m T,.ref r] S=some (.tup (ai (plc T v)),S')/\Ex S S':=by
 have hone:bH 8#8 [0#3,7#4,none,none] S=some (.ref S.length,S++[Cell.lst [.int 0]]):=wx rfl;have hrl:=(ag.mp hr).1;obtain⟨Y1,S1,e1,⟨x,rfl⟩,q1,q2,_⟩:=yt (i:=3) (n:=r) (b:=du (mML bF 0#5 (aa (m2 oIx (m2 oIx 0#6 (m2 oIx 0#5 4#9)) 0#7) af))) (e:=ae 1)
  (Y:= [0#3,7#4,1#1,none]) (S:=S++[Cell.lst [.int 0]]) (S1:=S++[Cell.lst [.int 0]]) (us:=ai v) 0#0 (by rw[bw];omega)
  (λk Y S'=>(∃x,Y=[0#3,7#4,1#1,x])/\Ex S S'/\S'[S.length]?=some (Cell.lst (ai ((ay (k+1)).map λi=>dQ T (v.take i))))/\S'[r]?=some (.lst (ai v)))
  ⟨⟨none,rfl⟩,Ex.push _ _,by rw[bD];simp[ai,dQ],(Ex.push _ _).some hr⟩ (λk Y S' h=>by unfold getL;rw[h.2.2.2])
  (by
   rintro k u Y S' hu ⟨⟨x,rfl⟩,q1,q2,q3⟩;obtain⟨y,hy,rfl⟩:=hJ hu;have hym:y<m:=hw y (bP hy);have hpm:dQ T (v.take k)<m:=zP g (hw.tk k);have hlast:atI (ai ((ay (k+1)).map λi=>dQ T (v.take i))) (-1)=some (.int (dQ T (v.take k))):=by
    unfold ai;rw[eZ];exact HA
   have ev:m2 oIx (m2 oIx 0#6 (m2 oIx 0#5 4#9)) 0#7 [0#3,7#4,1#1,some (.int y)] S'=some (.int (T (dQ T (v.take k)) y),S'):=
    ip hym (ij hpm 0#0 (pX 0#0 IX q2 hlast)) 0#0
   have hkl:k<v.length:=(ag.mp hy).1;refine⟨_,_,append_eq 0#0 ev q2 q2 (by simp[ai];unfold big;omega),⟨_,rfl⟩,q1.set 0#9,?_,?_⟩
   .rw[aN (ag.mp q2).1]
    rw[eS (n:=k+1),ck];simp[ai,xK hy]
   ·rw[aB (by omega)];exact q3)
 rw[bw]at q2;refine⟨S1,cw (Y:= [0#3,7#4,1#1,x]) rfl ?_,q1⟩;show wb [0#3,7#4,none,none] S=_;exact(aO (bz hone)).trans ((aO e1).trans (cu (jn 0#0 q2)))
variable{l:List Nat}
theorem SD(hm:m<1000)(hl:l.length<64):∃S',fD [tab m T,.tup 2#0] S=some (.bl (decide (srt l=ay m)),S')/\Ex S S':=Qi hm hl
theorem Qh(g:Grp m T)(hm:m<1000)(hw:Lt m v)(hl:v.length<63)(hr:S[r]?=some (.lst (ai v))):∃S',jh [tab m T,.ref r] S=some (.bl (decide (dQ T v=0)&&decide (srt (pre T v)=ay m)),S')/\Ex S S':=by
 obtain⟨S1,e1,x1⟩:=Pw (S:=S) g hw 0#2 hr;obtain⟨S2,e2,x2⟩:=SD (T:=T) (S:=S1) (l:=pre T v) hm (by rw[zu];omega);have h1:m2 oEq (m2 oIx 0#5 4#9) 1#8 33#8 S1=some (.bl (decide (dQ T v=0)),S1):=PR (y:=0) (Et 0#0 IX (Jj trivial)) c_i;have h2:mFn fD (aa 0#6 (aa (mSl 0#5 none (some 4#9)) af)) 33#8 S1=some (.bl (decide (srt (pre T v)=ay m)),S2):=cJ (f:=fD) 0#0 (LW (l:=pre T v) (x:=dQ T v) (by rw[<-uk];exact var_eq rfl)) e2;obtain⟨S',e,x⟩:=B1 h1 h2 (Ex.refl _) x2;refine⟨S',cw (Y:= 33#8) rfl ?_,x1.trans x⟩;show kZ [0#3,7#4,none] S=_;exact(aO (bz (cJ (f:=qR) 0#0 0#0 e1))).trans (cu e)
theorem Md{n:Nat}(hl:w.length<10000000):∃S',eJ [.tup (ai w),.int (n:Nat)] S=some (.bl (w.all λx=>decide (x<n)),S')/\Ex S S':=ON hl
theorem Uo(g:Grp m T)(hw:Lt m w):uA [tab m T,.tup (ai w)] S=some (.int (dQ T w),S):=DS g hw
theorem Mq(g:Grp m T)(hw:Lt m w):ek [tab m T,.tup (ai w)] S=some (.int (dQ T w),S):=DS g hw
theorem rest_eq:(λi j=>nbr 4#7 (T (xj 4#7 i) (xj 4#7 j)))=resT m T P:=rfl
theorem QN(hw:Lt m w)(hl:w.length<63)(hz:0∈w){v1 v2:U}:∃S',eN [tab m T,v1,v2,.tup (ai w)] S=some (.bl false,S')/\Ex S S':=by
 obtain⟨S1,e1,x1⟩:=Md (S:=S) (w:=w) (n:=m) 0#2;have hall:(w.all λx=>decide (x<m))=true:=bI.mpr λx hx=>decide_eq_true (hw x hx);rw[hall]at e1;have c1:=not_eq (of_eq (cJ (f:=eJ) (Y:= [0#3,some v1,some v2,3#9,none]) (S:=S) (a:=ae 3) (b:=mFn bG 4#0) 0#0 8#7 e1));have c2:=RL (Y:= [0#3,some v1,some v2,3#9,none]) (S:=S1) (a:=mC (.int 0)) (b:=ae 3) (x:=0) (l:=w) c_i 0#0;rw[decide_eq_true hz]at c2;have c3:=or_eq c1 c2 (λz=>by cases z);exact⟨S1,cw (Y:= [0#3,some v1,some v2,3#9,none]) rfl (show jQ _ _=_ from nF ((jP c3).trans (cu rfl))),x1⟩
theorem MH(p:Prl m T P)(lv:Lv m T P)(hw:Lt m w)(hl:w.length<63):∃S',eN [tab m T,.tup (ai P),tab 9#1 (resT m T P),.tup (ai w)] S=some (.bl (okL m T P w),S')/\Ex S S':=by
 by_cases hz:0∈w
 .have:okL m T P w=false:=by unfold okL;rw[decide_eq_true hz];rfl
  rw[this];exact QN hw hl hz
 have hm:=p.hm;have hlp:=p.len;obtain⟨S1,e1,x1⟩:=Md (S:=S) (w:=w) (n:=m) 0#2;have hall:(w.all λx=>decide (x<m))=true:=bI.mpr λx hx=>decide_eq_true (hw x hx);rw[hall]at e1;have c1:=not_eq (of_eq (cJ (f:=eJ) (Y:= 27#9) (S:=S) (a:=ae 3) (b:=mFn bG 4#0) 0#0 8#7 e1));have c2:=RL (Y:= 27#9) (S:=S1) (a:=mC (.int 0)) (b:=ae 3) (x:=0) (l:=w) c_i 0#0;rw[decide_eq_false hz]at c2;have c3:=_W.or_false c1 c2;obtain⟨S2,e2,x2,h2⟩:=HD (S:=S1) p.g 0#2 0#2 p.sb.lt;have f2:=bz (i:=4) (cJ (f:=fE) (Y:= 27#9) (S:=S1) (a:=ae 0) (b:=ae 1) 0#0 0#0 e2);have sd:=fR (b:=true) p.sb p.g
 have f3:=ve (e:=m2 oIx 1#3 (ae 5)) (Y:= 32#7) (S:=S2) (a:=ae 3) (l:=w) (f:=λx => .int (nbS m T P x:Nat)) 0#0 0#2 (λx hx=>by
  have hv:=B9 sd (hw x hx) _ 0#9;rw[if_pos (sd.nb (hw x hx)).1]at hv
  exact Ph (var_eq rfl) (var_eq rfl) h2 hv)
 rw[show(w.map λx=>U.int (nbS m T P x:Nat))=ai (w.map 10#9) by simp[ai]]at f3;have gr:=Dd p.sb p.g p.pw lv;have hmn:=vM p;obtain⟨S4,e4,x4⟩:=Qh (S:=S2++[.lst (ai (w.map 10#9))]) gr (by have:(aS m T P true).length<=m:=hmn.2;omega) (NI p hw) (by rw[ax];exact hl) (bD _ _);rw[AX p lv hw,Lq p lv hw]at e4;have k1:=cJ (f:=jh) (a:=ae 2) 0#0 f3 e4;have hc:=zP p.g hw;obtain⟨Q,S5,e5,x5,q,hq⟩:=Ow (S:=S4) (w:= [dQ T w]) p.g p.hm (λx hx=>by rw[bW.mp hx];exact hc);have k2:=Rx (Y:= 32#7) (S:=S4) (y:=P) (cJ (f:=y7) (a:=ae 0) 0#0 (Cg (cJ (f:=uA) (a:=ae 0) (b:=ae 3) 0#0 0#0 (Uo p.g hw))) e5) (b:=ae 1) 0#0;rw[Av p q hq]at k2;obtain⟨S6,e6,x6⟩:=B1 k1 k2 ((Ex.push _ _).trans x4) x5;refine⟨S6,cw (Y:= 32#7) rfl ?_,(x1.trans x2).trans x6⟩;show jQ 27#9 S=_;refine(aO ((iA c3).trans rfl)).trans ((aO f2).trans (cu ?_));unfold okL;rw[decide_eq_false hz,lX,DZ];exact e6
def B0(w:List Nat)(k:Nat):List Nat:=(aR k w).flatten
theorem Ut{k:Nat}:(aR k (ai w)).flatten=ai (B0 w k):=by
 unfold B0 ai;rw[List.map_flatten,List.map_replicate]
variable{Y:Rho}{S1:Sto}
theorem Mh{S S2:Sto}{a b:ME}{k:Nat}(ha:a Y S=some (.tup (ai w),S1))(hb:b Y S1=some (.int (k:Nat),S2))(hk:k<1000)(h1:0<w.length)(h2:w.length<1000):m2 gv a b Y S=some (.tup (ai (B0 w k)),S2):=by
 refine op2 ha hb ?_;have h:Cy (ai w).length (k:Int):=⟨by exact mL _,by omega,by rw[bw];exact h1,by rw[bw];exact h2⟩;simp only[gv,if_pos h,xt,Ut]
theorem zr(p:Prl m T P)(lv:Lv m T P)(hw:Lt m w)(hl:w.length<63)(h:okL m T P w=true):∃S',dU 22#6 S=some (.tup (ai (B0 w P.length)),S')/\Ex S S':=by
 have hm:=p.hm;have hlp:=p.len;obtain⟨S1,e1,x1⟩:=IK (S:=S) p.sb p.g 0#2 0#2 lv;rw[rest_eq]at e1;obtain⟨S2,e2,x2⟩:=MH (S:=S1) p lv hw hl;rw[h]at e2;have hmn:=vM p;have hln:=(y9 h).1;have f1:=bz (i:=3) (cJ (f:=eh) (Y:= [0#3,2#5,3#9,none]) (S:=S) (a:=ae 0) (b:=ae 1) 0#0 0#0 e1);have c2:=not_eq (of_eq (M4 (f:=eN) (Y:= [0#3,2#5,3#9,18#2]) (S:=S1) (a:=ae 0) (b:=ae 1) (c:=ae 3) (d:=ae 2) 0#0 0#0 0#0 0#0 e2));have f3:=Mh (Y:= [0#3,2#5,3#9,18#2]) (S:=S2) (a:=ae 2) (b:=mFn bG 6#0) (w:=w) (k:=P.length) 0#0 (by rw[xX 0#0,bw]) 0#2 0#2 0#2;exact⟨S2,cw (Y:= [0#3,2#5,3#9,18#2]) rfl (show nY _ _=_ from(aO f1).trans ((aO ((iA c2).trans rfl)).trans (cu f3))),x1.trans x2⟩
variable{u:U}
theorem Hx(p:Prl m T P)(lv: ¬Lv m T P):dU 12#7 S=none /\ ∃S',j8 12#7 S=some (1,S')/\Ex S S':=by
 have hm:=p.hm;have hlp:=p.len;obtain⟨e0,S1,e1,x1⟩:=Ky (S:=S) p.sb p.g 0#2 0#2 lv;have f0:bu 3 (mFn eh 3#7) 16#8 S=none:=by
  have:=cJ (f:=eh) (Y:= 16#8) (S:=S) (a:=ae 0) (b:=ae 1) 0#0 0#0 e0;simp only[bu,this];rfl
 refine⟨BG (show nY 16#8 S=none from BW f0),S1,yD rfl (show qK 16#8 S=_ from zL (Ts (r:=gL) 0#0 0#0 e1)),x1⟩
theorem RV{v:U}(p:Prl m T P)(lv:Lv m T P):gL [tab m T,.tup (ai P)] S=none:=by
 have hm:=p.hm;have hlp:=p.len;obtain⟨S1,e1,x1⟩:=yv (S:=S) p.g 0#2 0#2 p.sb.lt;rw[decide_eq_true lv]at e1;have c:=not_eq (of_eq (cJ (f:=fM) (Y:= [0#3,2#5,none,none]) (S:=S) (a:=ae 0) (b:=ae 1) 0#0 0#0 e1));have h1:xIf (jL (cOf (mFn fM 3#7))) (qG (rZ 1) sNo xNo) xNo [0#3,2#5,none,none] S=none:=(QV c).trans rfl;show vH 2 4 jR [tab m T,.tup (ai P)] S=none;unfold vH;rw[if_pos (show [tab m T,U.tup (ai P)].length=2 from rfl)];exact(L4 h1 ((iA c).trans rfl)).trans rfl
theorem Iv(p:Prl m T P)(lv:Lv m T P)(h:∀S,∃S',eN [tab m T,.tup (ai P),tab 9#1 (resT m T P),u] S=some (.bl false,S')/\Ex S S'):dU 12#7 S=none /\ ∃S',j8 12#7 S=some (2,S')/\Ex S S':=by
 have hm:=p.hm;have hlp:=p.len;obtain⟨S1,e1,x1⟩:=IK (S:=S) p.sb p.g 0#2 0#2 lv;rw[rest_eq]at e1;obtain⟨S2,e2,x2⟩:=h S1;have f1:=bz (i:=3) (cJ (f:=eh) (Y:= 16#8) (S:=S) (a:=ae 0) (b:=ae 1) 0#0 0#0 e1);have c2:=not_eq (of_eq (M4 (f:=eN) (Y:= [0#3,2#5,some u,18#2]) (S:=S1) (a:=ae 0) (b:=ae 1) (c:=ae 3) (d:=ae 2) 0#0 0#0 0#0 0#0 e2));refine⟨BG (show nY 16#8 S=none from(aO f1).trans (BW ((jP c2).trans rfl))),S2,yD rfl (show qK 16#8 S=_ from(L4 (Ts (r:=gL) 0#0 0#0 (RV (v:=u) p lv)) f1).trans (zL ((MR c2).trans (zL rfl)))),x1.trans x2⟩
def Ans(S:Sto):List Nat ⊕ Nat->U->Prop
 |.inl l,u=>u=.tup 2#0
 |.inr q,u=>∃r,u=.ref r/\S[r]?=some (.lst (ai [q]))
variable{a:List Nat ⊕ Nat}
theorem Ans.ex{S S':Sto}(h:Ans S a u)(x:Ex S S'):Ans S' a u:=by
 cases a with
 |inl l=>exact h
 |inr q=>obtain⟨r,e,hr⟩:=h;exact⟨r,e,x.some hr⟩
def Ri:List Nat ⊕ Nat->Prop
 |.inl l=>(∀x∈l,x<1000)/\l.length<=1000
 |.inr q=>q<1000
theorem Nc{v:U}(hu:Ans S a u)(hv:Ans S a v)(h:Ri a):iU [u,v] S=some (.bl true,S):=by
 cases a with
 | inl l=>
   cases (show u=.tup 2#0 from hu);cases (show v=.tup 2#0 from hv);exact GO h.1 h.2
 | inr q=>
   obtain⟨r,rfl,hr⟩:=hu;obtain⟨r',rfl,hr'⟩:=hv;have hq:q<1000:=h;have hi:(q:Int).natAbs<10^12:=by rw[wF];omega
   have pl:Pl (.list [d9 q]):= .lst _ λd hd=>by
    rw[bW.mp hd];exact .int _ hi
   refine Ie (d:= .list [.int q]) (qE (f:=38) hr) (qE (f:=38) hr') pl (pl.ok ?_ ?_)
   .simp[Bj,iN]
   .have:=vD hi
    simp only[PySem.PyData.weight,PySem.PyData.weightAll]at this ⊢;omega
variable{o:ME}{row:List U}
theorem TH{S:Sto}{a:ME}(ho:o Y S=some 10#1)(ha:a Y S=some (u,S1))(hr:S[r]?=some 13#4)(hr1:S1[r]?=some 13#4)(hl:row.length<big):mML bF o 2#6 Y S=some (.non,S1.set r (.lst (row++[u]))):=by
 simp only[mML,ho,az,getL,hr,ah,aa,af,ha,bF,hr1];rw[if_pos hl]
theorem NZ{S:Sto}{a:ME}(ho:o Y S=some 10#1)(ha:a Y S=none)(hr:S[r]?=some 13#4):mML bF o 2#6 Y S=none:=by
 simp only[mML,ho,az,getL,hr,ah,aa,ha];rfl
theorem M8{S:Sto}{x:MX}(ho:o Y S=some 10#1)(hr:S[r]?=some 13#4):xML o x Y S=x Y S:=by
 simp only[xML,ho,az,getL,hr,ah]
def llM:ME:=mML bF 0#6 (aa (mFn dU 19#4) af)
def llX:MX:=xML 0#6 (xFn j8 19#4)
def llE:ME:=so (cOf (m2 mm 1#3 (mC .non))) 1#3 (m2 oIx 0#7 1#8)
theorem HY{v w:U}{S0:Sto}(e1:kh [1,2] [3,0,1,2] llM llX [0#3,2#5,some u,1#1,none] (S++[.lst []])=some (v,S0))(e2:llE [0#3,2#5,some u,1#1,some v] S0=some (w,S1)):eK 12#7 S=some (w,S1):=
 cw (Y:= [0#3,2#5,some u,1#1,some v]) rfl (show l4 [0#3,2#5,some u,none,none] S=_ from(aO (bz fA)).trans ((aO (bz e1)).trans (cu e2)))
theorem Qm(h:∀S,∃S',dU 12#7 S=some (.tup 2#0,S')/\Ex S S'):∃v S',eK 12#7 S=some (v,S')/\Ex S S'/\Ans S' (.inl l) v:=by
 have q0:(S++2#4)[S.length]?=some (.lst []):=bD _ _;have x0:Ex S (S++2#4):=Ex.push _ _;have fin:=λv w S0 S1=>HY (m:=m) (T:=T) (P:=P) (S:=S) (u:=u) (v:=v) (w:=w) (S0:=S0) (S1:=S1);generalize S++2#4=S0 at q0 x0 fin;obtain⟨S1,e1,x1⟩:=h S0;have q1:=x1.some q0;have e2:llM [1#1,0#3,2#5,some u] S0=some (.non,S1.set S.length (.lst ([]++[.tup 2#0]))):=TH (o:=ae 0) (a:=mFn dU 19#4) (row:= []) 0#0 (lH (f:=dU) 0#0 0#0 0#0 e1) q0 q1 0#1;have hin:=(ag.mp q1).1;have q2:(S1.set S.length (.lst ([]++[.tup 2#0])))[S.length]?=some (.lst [.tup 2#0]):=by
  rw[aN hin];rfl
 have x2:Ex S (S1.set S.length (.lst ([]++[.tup 2#0]))):=(x0.trans x1).set 0#9;generalize S1.set S.length (.lst ([]++[.tup 2#0]))=S2 at e2 q2 x2;have e3:kh [1,2] [3,0,1,2] llM llX [0#3,2#5,some u,1#1,none] S0=some (.non,S2++ir λ_=>false):=ID (cs:= [.ref S.length,tab m T,.tup (ai P),u]) rfl e2;have x3:=Kz S2 λ_=>false;have q3:=x3.some q2;generalize (S2++ir λ_=>false)=S3 at e3 x3 q3;have c4:cOf (m2 mm 1#3 (mC .non)) [0#3,2#5,some u,1#1,some .non] S3=some (false,S3):=of_eq (op2 (f:=mm) 0#0 rfl rfl);have e5:llE [0#3,2#5,some u,1#1,some .non] S3=some (.tup 2#0,S3):=by
  simp only[llE,so,c4,az];exact pX (z:=((0:Nat):Int)) 0#0 rfl q3 (jd rfl)
 exact⟨_,_,fin _ _ _ _ e3 e5,x2.trans x3,rfl⟩
theorem My{q:Nat}(hq:q∈[1,2])(h:∀S,dU 12#7 S=none /\ ∃S',j8 12#7 S=some (q,S')/\Ex S S'):∃v S',eK 12#7 S=some (v,S')/\Ex S S'/\Ans S' (.inr q) v:=by
 have q0:(S++2#4)[S.length]?=some (.lst []):=bD _ _;have x0:Ex S (S++2#4):=Ex.push _ _;have fin:=λv w S0 S1=>HY (m:=m) (T:=T) (P:=P) (S:=S) (u:=u) (v:=v) (w:=w) (S0:=S0) (S1:=S1);generalize S++2#4=S0 at q0 x0 fin;obtain⟨e0,S1,e1,x1⟩:=h S0;have k1:llM [1#1,0#3,2#5,some u] S0=none:=NZ (o:=ae 0) (a:=mFn dU 19#4) (row:= []) 0#0 (lH (f:=dU) 0#0 0#0 0#0 e0) q0;have k2:llX [1#1,0#3,2#5,some u] S0=some (q,S1):=(M8 (o:=ae 0) 0#0 q0).trans (Uj (r:=j8) 0#0 0#0 0#0 e1);have e3:kh [1,2] [3,0,1,2] llM llX [0#3,2#5,some u,1#1,none] S0=some (.ref (S1.length+3),S1++(ir (bQ q)++[.lst (ai [q])])):=Il (cs:= [.ref S.length,tab m T,.tup (ai P),u]) rfl k1 k2 hq;have x3:=Pc S1 (bQ q) [.lst (ai [q])];have q3:(S1++(ir (bQ q)++[Cell.lst (ai [q])]))[S1.length+3]?=some (.lst (ai [q])):=J9;generalize S1++(ir (bQ q)++[Cell.lst (ai [q])])=S3 at e3 x3 q3;have c4:cOf (m2 mm 1#3 (mC .non)) 31#3 S3=some (true,S3):=of_eq (op2 (f:=mm) 0#0 rfl rfl);have e5:llE 31#3 S3=some (.ref (S1.length+3),S3):=by
  simp only[llE,so,c4,az];show ae 4 31#3 S3=_;exact var_eq rfl
 exact⟨_,_,fin _ _ _ _ e3 e5,(x0.trans x1).trans x3,_,rfl,q3⟩
end
end
section
open _L _G
section
variable {m:Nat}{T:Nat->Nat->Nat}{P w:List Nat}{S:Sto}
def qB(m:Nat)(T:Nat->Nat->Nat)(P w:List Nat):List Nat ⊕ Nat:=if Lv m T P then(if okL m T P w=true then .inl (B0 w P.length) else .inr 2) else .inr 1
variable{Y:Rho}{a:ME}{r:Nat}
theorem Cn{S:Sto}{ls:List (List Nat)}(ha:a Y S=some 10#1)(hr:S[r]?=some 17#7):mFn bG 2#6 Y S=some (.int (ls.length:Nat),S):=by
 rw[tE ha hr];simp[tups]
theorem Uz(p:Prl m T P)(hw:Lt m w)(hl:w.length<63):∃v S',eK 22#6 S=some (v,S')/\Ex S S'/\Ans S' (qB m T P w) v:=by
 unfold qB;by_cases lv:Lv m T P
 .rw[if_pos lv]
  by_cases h:okL m T P w=true
  .rw[if_pos h]
   exact Qm λS=>zr p lv hw hl h
  .rw[if_neg h]
   exact My 0#8 λS=>Iv p lv λS=>by
    obtain⟨S',e,x⟩:=MH (S:=S) p lv hw hl;rw[Bool.eq_false_iff.mpr h]at e;exact⟨S',e,x⟩
 .rw[if_neg lv]
  exact My 0#8 λS=>Hx p lv
theorem LZ{ths:List Nat}{v:U}(g:Grp m T)(hm:m<=24)(ht:∀z∈ths,z<m)(hv:Wk S v ths):∃Q S',iw [tab m T,v] S=some (.tup (ai Q),S')/\Ex S S'/\Prl m T Q /\ ∀x,x∈Q↔Rch T ths x:=by
 obtain⟨ks,S1,e1,x1,d⟩:=EK (S:=S) (ths:=ths) g 0#2 ht hv;exact⟨srt ks,S1,e1,x1,⟨g,hm,d.sbg g ht,Hb d.nd⟩,λx=>by rw[eW,d.all]⟩
theorem Of{S S1:Sto}{n:Nat}(ha:a Y S=some (.int n,S1))(hn:n<1000):gy (iR1 2#6) Y S=some (.ref S1.length,S1++[.lst (ai (ay n))]):=by
 have e:=kJ ha (by unfold big;omega);have hz:(br 0 n).length<=big:=by simp only[br,ax,bc];unfold big;omega
 simp only[gy,e,az];rw[if_pos hz]
 congr 4
 simp[br,ai]
theorem Hd{S S1:Sto}{l:List Nat}{x:Nat}(ha:a Y S=some (.ref r,S1))(hr:S1[r]?=some (.lst (ai (l++[x])))):mSl a none (some 4#9) Y S=some (.ref S1.length,S1++[.lst 2#0]):=by
 have e:ai (l++[x])=ai l++[.int x]:=by simp[ai]
 have n1:m1 fZ 1#4 Y S1=some (.int (-1),S1):=rfl;rw[e]at hr;simp only[mSl,ha,az,uU,n1,getL,hr,aI,z5]
def d61:MS:=aX (sIf (jL (cOf (mFn r9 28#2))) (cb (bH 7#6)) cW) (aX (bu 4 (bK 33#3 cTT (mFn dG 24#7))) (aX (sIf (cOr (cOf (m2 oNe (mFn dy (aa (mSl 1#3 none (some 4#9)) af)) (gy (iR1 (aa 12#4 af))))) (cOf (m2 oNe (m2 oIx 1#3 4#9) 1#8))) (cb (bH 7#6)) cW) (aX (sIf (cOf (m2 oNe (mFn iw (aa 0#6 (aa (bH (aa (mFn ek (aa 0#6 3#4)) af)) af))) 1#5)) (cb (bH 7#6)) cW) (cb (m2 gv 0#5 14#8)))))
abbrev r61(m:Nat)(T:Nat->Nat->Nat)(P:List Nat)(u:U)(r:Nat)(x:Option U):Rho:= [0#3,2#5,some u,7#4,x]
theorem zX{q:Nat}:cb (bH (aa (mC (.int (q:Nat))) af)) Y S=some (.rt (.ref S.length),Y,S++[.lst (ai [q])]):=cu (wx rfl)
theorem RB{x y z:Nat}(ha:ae 5 Y S=some (.int (y:Nat),S))(hb:mFn bG 4#0 Y S=some (.int (z:Nat),S)):mCh oLt oLt (mC 16#3) (ae 5) 6#2 Y S=some (.bl (decide (x<y)&&decide (y<z)),S):=by
 have h1:oLt (.int (x:Int)) (.int (y:Int)) S=some (.bl (decide (x<y)),S):=by show some (U.bl (decide ((x:Int)<y)),S)=_;congr 3;simp
 have h2:oLt (.int (y:Int)) (.int (z:Int)) S=some (.bl (decide (y<z)),S):=by show some (U.bl (decide ((y:Int)<z)),S)=_;congr 3;simp
 have h0:mC (.int (x:Int)) Y S=some (.int (x:Int),S):=rfl;simp only[mCh,h0,ha,hb,az,h1];cases decide (x<y)<;>simp[h2]
theorem SY {x:Option U} (hl:w.length<1000):mFn r9 28#2 (r61 m T P 8#2 r x) S=some (.bl (w.all fun y=>decide (0<y)&&decide (y<m)),S ++ [.lst (w.map fun y=>U.bl (decide (0<y)&&decide (y<m)))]):=by
 refine QR (f:=λy=>decide (0<y)&&decide (y<m)) (ve (f:=λy=>.bl (decide (0<y)&&decide (y<m))) 0#0 0#2 λy hy=>?_);exact L3 (KP (z:=(y:Int)) 0#0) (L3 (Tu (Ly (z:=(y:Int)) 0#0)) (RB (x:=0) 0#0 8#7))
theorem Po(p:Prl m T P)(hw:Lt m w)(hl:w.length<63)(hr:S[r]?=some 13#2):∃S',bK 33#3 cTT (mFn dG 24#7) (r61 m T P 8#2 r none) S=some (.ref S'.length,S'++[.lst 22#7])/\Ex S S':=by
 have hm:=p.hm;have sd:=fR (b:=true) p.sb p.g;have hmn:=vM p
 obtain⟨S2,e2,x2,q2⟩:=B4 (Y:=r61 m T P 8#2 r none) (S:=S) (S0:=S) (a:=m2 cK (mFn bG 3#4) 1#4) (e:=mFn dG 24#7) (n:=w.length+1) (add_n (x:=w.length) (y:=1) (by rw[xX 0#0,bw]) c_i) (by unfold big;omega) (λk => .int (nbS m T P (dQ T (w.take k)):Nat)) (λ_ S2=>Ex S S2/\S2[r]? = some 13#2) ⟨Ex.refl _,hr⟩ (by
  rintro k S2 hk ⟨x2,q2⟩;have hsl:mSl 0#5 none (some (ae 5)) (r61 m T P 8#2 r none++[2#8]) S2=some (.tup (ai (w.take k)),S2):=by
   have v2:ae 2 (r61 m T P 8#2 r none++[2#8]) S2=some (.tup (ai w),S2):=rfl;have v5:ae 5 (r61 m T P 8#2 r none++[2#8]) S2=some (.int (k:Nat),S2):=rfl;simp only[mSl,v2,az,uU,v5,Gu];unfold ai;rw[DY]
  have hc:=zP p.g (hw.tk k);obtain⟨S3,e3,x3⟩:=MJ (S:=S2) (r:=r) (y:=dQ T (w.take k)) q2 sd hc (by have:(aS m T P true).length<=m:=hmn.2;omega)
  exact⟨S3,cJ (f:=dG) (a:=ae 3) (var_eq rfl) (cJ (f:=ek) (a:=ae 0) (var_eq rfl) hsl (Mq p.g (hw.tk k))) e3,x2.trans x3,x3.some q2⟩)
 refine⟨S2,?_,x2⟩;rw[e2];simp[ai,plc]
theorem Pn(p:Prl m T P)(lv:Lv m T P)(hw:Lt m w)(hl:w.length<63)(hln:w.length=mnS m T P)(hr:S[r]?=some 13#2):∃v Y2 S',d61 (r61 m T P 8#2 r none) S=some (.rt v,Y2,S')/\Ex S S'/\Ans S' (qB m T P w) v:=by
 have hm:=p.hm;have hlp:=p.len;have hmn:=vM p;have fin2:okL m T P w=false->qB m T P w=.inr 2:=λh=>by unfold qB;rw[if_pos lv,if_neg (by rw[h];simp)]
 have c1:=not_eq (of_eq (SY (m:=m) (T:=T) (P:=P) (w:=w) (r:=r) (x:=none) (S:=S) 0#2));by_cases hz:0∈w
 .have hall:(w.all λy=>decide (0<y)&&decide (y<m))=false:=by
   rw[List.all_eq_false];exact⟨0,hz,by simp⟩
  rw[hall,lX]at c1;rw[fin2 (by unfold okL;rw[decide_eq_true hz];rfl)];exact⟨_,_,_,nF ((jP c1).trans (zX (q:=2))),(Ex.push _ _).trans 3#1,_,rfl,bD _ _⟩
 have hall:(w.all λy=>decide (0<y)&&decide (y<m))=true:=by
  rw[bI];intro y hy;have h0:0<y:=Nat.pos_of_ne_zero λe=>hz (e▸hy);simp[h0,hw y hy]
 rw[hall,ko]at c1;have x1:Ex S (S++[Cell.lst (w.map λy=>U.bl (decide (0<y)&&decide (y<m)))]):=Ex.push _ _;generalize S++[Cell.lst (w.map λy=>U.bl (decide (0<y)&&decide (y<m)))]=S1 at c1 x1;obtain⟨S2,e2,x2⟩:=Po (S:=S1) p hw hl (x1.some hr);have f2:=bz (i:=4) e2;have q2:(S2++[Cell.lst 22#7])[S2.length]?=some (.lst 22#7):=bD _ _;have x2':=x2.trans (Ex.push S2 (Cell.lst 22#7));generalize S2++[Cell.lst 22#7]=S3 at f2 q2 x2';have hpl:(plc T w).map 10#9=(pre T w).map 10#9++[nbS m T P (dQ T w)]:=by rw[uk,ck];rfl
 rw[hpl]at q2;have k1:=Hd (Y:=r61 m T P 8#2 r (some 11#6)) (S:=S3) (a:=ae 4) 0#0 q2;have k2:=qA k1 (bD _ _) (by rw[ax,zu];omega);have x4:Ex S3 (S3++[Cell.lst (ai 8#5)]++[Cell.lst (ai (srt 8#5))]):=(Ex.push _ _).trans 3#1;have q4:(S3++[Cell.lst (ai 8#5)]++[Cell.lst (ai (srt 8#5))])[(S3++[Cell.lst (ai 8#5)]).length]?=some (.lst (ai (srt 8#5))):=bD _ _;generalize S3++[Cell.lst (ai 8#5)]++[Cell.lst (ai (srt 8#5))]=S4 at k2 x4 q4;generalize (S3++[Cell.lst (ai 8#5)]).length=r4 at k2 q4;have hK:(aS m T P true).length<=m:=hmn.2;have hr4:S4[r]?=some 13#2:=((x1.trans x2').trans x4).some hr;have k3:=Of (Y:=r61 m T P 8#2 r (some 11#6)) (S:=S4) (a:=mFn bG (aa 0#7 af)) (n:=mnS m T P) (Cn 0#0 hr4) (by show(aS m T P true).length<1000;omega);have c5:=of_eq (DQ k2 k3 ((Ex.push _ _).some q4) (bD _ _));have x5:Ex S4 (S4++[Cell.lst (ai (ay 9#1))]):=Ex.push _ _;generalize S4++[Cell.lst (ai (ay 9#1))]=S5 at c5 x5;have q5:=(x4.trans x5).some q2;have k6:m2 oIx 1#3 4#9 (r61 m T P 8#2 r (some 11#6)) S5=some (.int (nbS m T P (dQ T w):Nat),S5):=by
  refine pX 0#0 IX q5 ?_;have:=zf (th:=(pre T w).map 10#9++[nbS m T P (dQ T w)]) 0#8;rwa[mB]at this
 have c6:=of_eq (RD (y:=0) k6 (c_i (z:=0)));have c7:=or_eq c5 c6 (λ_=>rfl);by_cases hb:srt 8#5=ay 9#1/\nbS m T P (dQ T w)=0
 rotate_left
 .have hf:(!decide (srt 8#5=ay 9#1) || !decide (nbS m T P (dQ T w)=0))=true:=by
   by_cases h1:srt 8#5=ay 9#1
   .have h2: ¬nbS m T P (dQ T w)=0:=λz=>hb ⟨h1,z⟩
    simp[h2]
   .simp[h1]
  rw[hf]at c7
  rw[fin2 (by
   unfold okL;by_cases h1:srt 8#5=ay 9#1
   .rw[decide_eq_false (show ¬nbS m T P (dQ T w)=0 from λz=>hb ⟨h1,z⟩)];simp
   ·rw[decide_eq_false h1];simp)]
  exact⟨_,_,_,(aO ((iA c1).trans rfl)).trans ((aO f2).trans (nF ((jP c7).trans (zX (q:=2))))),(((x1.trans x2').trans x4).trans x5).trans 3#1,_,rfl,bD _ _⟩
 rw[decide_eq_true hb.1,decide_eq_true hb.2]at c7;have hc:=zP p.g hw;have k8:bH (aa (mFn ek (aa 0#6 3#4)) af) (r61 m T P 8#2 r (some 11#6)) S5=some (.ref S5.length,S5++[.lst (ai [dQ T w])]):=wx (cJ (f:=ek) 0#0 0#0 (Mq p.g hw));obtain⟨Q,S9,e9,x9,q,hq⟩:=LZ (S:=S5++[.lst (ai [dQ T w])]) (ths:= [dQ T w]) (v:= .ref S5.length) p.g p.hm (λz hz=>by rw[bW.mp hz];exact hc) (.inr ⟨_,rfl,bD _ _,by simp⟩);have c9:=of_eq (BL (y:=P) (cJ (f:=iw) (a:=ae 0) 0#0 k8 e9) (b:=ae 1) 0#0);rw[Av p q hq]at c9;have x9':Ex S S9:=(((x1.trans x2').trans x4).trans x5).trans ((Ex.push _ _).trans x9);by_cases hs:spn T P (dQ T w)
 .rw[decide_eq_true hs,ko]at c9
  have ok:okL m T P w=true:=by unfold okL;rw[decide_eq_false hz,decide_eq_true hb.1,decide_eq_true hb.2,decide_eq_true hs];rfl
  have:qB m T P w=.inl (B0 w P.length):=by unfold qB;rw[if_pos lv,if_pos ok]
  rw[this];have k10:=Mh (Y:=r61 m T P 8#2 r (some 11#6)) (S:=S9) (a:=ae 2) (b:=mFn bG 6#0) (w:=w) (k:=P.length) 0#0 (by rw[xX 0#0,bw]) 0#2 0#2 0#2;exact⟨_,_,_,(aO ((iA c1).trans rfl)).trans ((aO f2).trans ((aO ((iA c7).trans rfl)).trans ((aO ((iA c9).trans rfl)).trans (cu k10)))),x9',rfl⟩
 .rw[decide_eq_false hs,lX]at c9
  rw[fin2 (by unfold okL;rw[decide_eq_false hs];simp)];exact⟨_,_,_,(aO ((iA c1).trans rfl)).trans ((aO f2).trans ((aO ((iA c7).trans rfl)).trans (nF ((jP c9).trans (zX (q:=2)))))),x9'.trans 3#1,_,rfl,bD _ _⟩
theorem FU{u:U}(p:Prl m T P):∃r S',dY [tab m T,.tup (ai P),.bl true] S=some (.ref r,S')/\Ex S S'/\S'[r]?=some 13#2 /\ ∃S2,cOf (m2 oNe 0#7 (mFn dY (aa 0#6 (aa 1#5 (aa 14#3 af))))) (r61 m T P u r none) S'=some (!decide (Lv m T P),S2)/\Ex S' S2:=by
 have hm:=p.hm;have hlp:=p.len;obtain⟨S1,e1,x1,q1⟩:=rD (S:=S) (left:=true) p.g 0#2 0#2 p.sb.lt;obtain⟨S2,e2,x2,q2⟩:=rD (S:=S1) (left:=false) p.g 0#2 0#2 p.sb.lt;exact⟨_,S1,e1,x1,q1,S2,of_eq (CT 0#0 (lH (f:=dY) 0#0 0#0 rfl e2) (x2.some q1) q2),x2⟩
theorem TB(p:Prl m T P)(hw:Lt m w)(hl:w.length<63):∃v S',gE 22#6 S=some (v,S')/\Ex S S'/\Ans S' (qB m T P w) v:=by
 obtain⟨r,S1,e1,x1,q1,S2,c2,x2⟩:=FU (S:=S) (u:= .tup (ai w)) p;have f1:=bz (i:=3) (lH (f:=dY) (Y:= 28#0) (S:=S) (a:=ae 0) (b:=ae 1) (c:=mC (.bl true)) 0#0 0#0 rfl e1);by_cases lv:Lv m T P
 rotate_left
 .rw[decide_eq_false lv,lX]at c2
  have:qB m T P w=.inr 1:=by unfold qB;rw[if_neg lv]
  rw[this];exact⟨_,_,cw rfl (show gG 28#0 S=_ from(aO f1).trans (nF ((jP c2).trans (zX (q:=1))))),(x1.trans x2).trans 3#1,_,rfl,bD _ _⟩
 rw[decide_eq_true lv,ko]at c2;have d1:jL (cOf (m1 (iW "tuple") 0#5)) (r61 m T P 8#2 r none) S2=some (false,S2):=not_eq (of_eq (isT (us:=ai w) 0#0));have d2:=of_eq (RD (Y:=r61 m T P 8#2 r none) (S:=S2) (a:=mFn bG 3#4) (b:=mFn bG (aa 0#7 af)) (x:=w.length) (y:=mnS m T P) (by rw[xX 0#0,bw]) (Cn 0#0 (x2.some q1)));by_cases hln:w.length=mnS m T P
 .rw[decide_eq_true hln,ko]at d2
  obtain⟨v,X5,S3,e3,x3,a3⟩:=Pn (S:=S2) p lv hw hl hln (x2.some q1);exact⟨v,S3,cw (Y:=X5) rfl (show gG 28#0 S=_ from(aO f1).trans ((aO ((iA c2).trans rfl)).trans ((aO ((iA (_W.or_false d1 d2)).trans rfl)).trans e3))),(x1.trans x2).trans x3,a3⟩
 .rw[decide_eq_false hln,lX]at d2
  have d3:=or_eq d1 d2 (λz=>by cases z);have:qB m T P w=.inr 2:=by unfold qB;rw[if_pos lv,if_neg (λz=>hln (y9 z).1)]
  rw[this];exact⟨_,_,cw rfl (show gG 28#0 S=_ from(aO f1).trans ((aO ((iA c2).trans rfl)).trans (nF ((jP d3).trans (zX (q:=2)))))),(x1.trans x2).trans 3#1,_,rfl,bD _ _⟩
theorem Es(p:Prl m T P)(hw:Lt m w):Ri (qB m T P w):=by
 have hm:=p.hm;have hlp:=p.len;have hmn:=vM p;unfold qB;by_cases lv:Lv m T P
 .rw[if_pos lv]
  by_cases h:okL m T P w=true
  .rw[if_pos h]
   refine⟨λx hx=>?_,?_⟩
   .obtain⟨l,hl,hx⟩:=List.mem_flatten.mp hx
    rw[List.eq_of_mem_replicate hl]at hx;have:=hw x hx;omega
   .have h1:=(y9 h).1
    unfold B0;rw[List.length_flatten,List.map_replicate,FP];have:P.length*w.length<=24*24:=Nat.mul_le_mul hlp 0#2;omega
  .rw[if_neg h];show 2<1000;decide
 .rw[if_neg lv];show 1<1000;decide
end
end
section
open _L _G
theorem xU{e:ME}{Y:Rho}{n:Nat}{us:List U}(P:List U->Sto->Prop)(hP:∀acc S,P acc S->getL S n=some us)(he:∀u∈us,∀acc S,P acc S->∃y S',e 7#7 S=some (y,S')/\P (acc++[y]) S'):∀(k i:Nat) (acc:List U) (S:Sto),i<=us.length->us.length-i<k->P acc S->∃ys S',iR cTT e Y n k i acc S=some 3#2/\P ys S'/\ys.length=acc.length+(us.length-i)
 |0,i,acc,S,h1,h2,h=>by omega
 | k+1,i,acc,S,h1,h2,h=>by
   unfold iR;rw[hP acc S h];simp only[ah];by_cases hi:i<us.length
   .obtain⟨y,S1,e1,p1⟩:=he us[i] (cg hi) acc S h
    obtain⟨ys,S2,e2,p2,l2⟩:=xU P hP he k (i+1) (acc++[y]) S1 0#2 0#2 p1;refine⟨ys,S2,?_,p2,by rw[l2];simp;omega⟩;rw[aF hi];simp only[cTT,az,if_true,e1];exact e2
   .rw[cY 0#2]
    exact⟨acc,S,rfl,h,by omega⟩
variable{n:Nat}{S:Sto}
theorem Nh{Y:Rho}(h:iK n S)(h2:Y[0]?=some (some (.ref n))):∃m T S',mFn jl (aa 0#6 (aa (m2 oIx (bH 24#9) 14#9) af)) Y S=some (tab m T,S')/\Grp m T/\m<=24/\Stp n S S':=by
 have f3:bH 24#9 Y S=some (.ref S.length,S++[Cell.lst (ai [8,12,24])]):=CG c_i c_i c_i;have st3:Stp n S (S++[Cell.lst (ai [8,12,24])]):=Stp.ex h 3#1;obtain⟨r,S4,f4,hr,st4⟩:=gw (m:=3) st3.st 0#1 0#1;have hne:S.length≠n:=by have:=h.lt;omega
 have g4:S4[S.length]?=some (Cell.lst (ai [8,12,24])):=st4.some hne (bD _ _);obtain⟨most,hmost,hm6,hm8⟩ :∃most:Nat,(ai [8,12,24])[r]?=some (.int most)/\6<=most/\most<=24:=by
  rcases r with _|_|_|r
  .exact⟨8,rfl,by decide,by decide⟩
  .exact⟨12,rfl,by decide,by decide⟩
  .exact⟨24,rfl,by decide,by decide⟩
  .omega
 have f5:m2 oIx (bH 24#9) 14#9 Y S=some (.int most,S4):=pX f3 (cJ (var_eq h2) c_i f4) g4 (jd hmost);obtain⟨m,T,S5,f6,gr,hm,st5⟩:=GJ (most:=most) st4.st hm6 0#2;exact⟨m,T,S5,cJ (f:=jl) (var_eq h2) f5 f6,gr,by omega,(st3.trans st4).trans st5⟩
variable{T:Nat->Nat->Nat}
theorem Ke{m:Nat}(h:iK n S)(g:Grp m T)(hm:m<=24):∃P S',l7 [.ref n,tab m T] S=some (.tup (ai P),S')/\Stp n S S'/\Prl m T P:=by
 obtain⟨r,S1,e1,hr,st1⟩:=gw (m:=2) h 0#2 0#2;have et:m2 cK 1#4 23#5 [2#3,0#3] S=some (.int (1+r:Nat),S1):=add_n (x:=1) c_i (cJ 0#0 c_i e1);obtain⟨w,S2,e2,st2,hw,hwl⟩:=Hh (n:=n) (m:=m) (sv:=ae 0) (mv:=mFn bG 6#0) et 0#2 st1.st g.pos 0#2 (λz S=>var_eq rfl) (λz S=>len_tab 0#0);obtain⟨Q,S3,e3,x3,q,_⟩:=LZ (v:= .ref S2.length) (ths:=w) (S:=S2++[Cell.lst (ai w)]) g hm hw (.inr ⟨_,rfl,bD _ _,by omega⟩);exact⟨Q,S3,cw (Y:= [2#3,0#3]) rfl (show pO _ _=_ from cu (cJ (f:=iw) 0#0 e2 e3)),((st1.trans st2).step 3#1).step x3,q⟩
theorem PF{m c:Nat}(h:iK n S)(g:Grp m T)(hm:m<1000)(hc:c<500):∃w S',mF [.ref n,tab m T,.int c] S=some (.tup (ai w),S')/\Stp n S S'/\(∀x∈w,x<m)/\w.length<=c:=by
 obtain⟨r,S1,e1,hr,st1⟩:=gw (m:=c+1) h 0#2 0#2;have et:mFn aP (aa 0#6 (aa (m2 cK 0#5 1#4) af)) [2#3,0#3,some (.int c)] S=some (.int r,S1):=cJ 0#0 (add_n (x:=c) (y:=1) 0#0 c_i) e1;obtain⟨w,S2,e2,st2,hw,hwl⟩:=Ll (n:=n) (m:=m) (sv:=ae 0) (mv:=mFn bG 6#0) et 0#2 st1.st g.pos hm (λz S=>var_eq rfl) (λz S=>len_tab 0#0);exact⟨w,S2,cw (Y:= [2#3,0#3,some (.int c)]) rfl (show pW _ _=_ from cu e2),st1.trans st2,hw,by omega⟩
section
variable {m:Nat}{T:Nat->Nat->Nat}{P:List Nat}{S:Sto}
theorem JN(p:Prl m T P)(lv:Lv m T P):Grp 9#1 (λi j=>nbr 4#7 (T (kz 4#7 i) (kz 4#7 j))):=by
 refine(Dd p.sb p.g p.pw lv).congr λi j hi hj=>?_;exact AE p.sb p.g lv hi hj (B3 p.sb p.g hi) (B3 p.sb p.g hj) (nU p.sb hi) (nU p.sb hj)
structure Rb(K:Nat)(F:List (List Nat)):Prop where
 len:F.length<=3
 each:∀l∈F,l.length<=K
 lt:∀l∈F,∀x∈l,x<K/\(x=0->K=1)
variable{x:Nat}
theorem Gy(p:Prl m T P)(h1:m≠1)(hx:x<mnS m T P)(h0:x=0->mnS m T P=1):((aS m T P true).getD x []).filter (λy=>decide (0<y))≠[]:=by
 have sd:=fR (b:=true) p.sb p.g;have hp:=p.g.pos;obtain⟨y,hy,hy0⟩ :∃y∈(aS m T P true).getD x [],0<y:=by
  by_cases z:x=0
  .obtain⟨l,hl⟩:=uP (b:=true) p.sb p.g p.pw
   have e0:(aS m T P true).getD x []=P:=by rw[z,hl];rfl
   have hm:=om (b:=true) p.sb p.g p.nd;rw[show(aS m T P true).length=1 from h0 z,Nat.one_mul]at hm;rw[e0];apply fh;intro q;have:P.length<=1:=rW 1 P p.nd λy hy=>by
    apply fh;intro w;exact q ⟨y,hy,by omega⟩
   omega
  .refine⟨ldL m T P x,nU p.sb hx,Nat.pos_of_ne_zero λe=>z ?_⟩
   have h2:=nU p.sb hx;rw[e]at h2;rw[<-sd.nb_of p.g.pos hx h2];exact nb0 p
 intro q;have:y∈((aS m T P true).getD x []).filter (λy=>decide (0<y)):=eR.mpr ⟨hy,decide_eq_true hy0⟩;rw[q]at this;simp at this
variable{K:Nat}
theorem UC{b:Nat}(h:(b<=3/\K<=8)\/(b<=2/\K<=12)):iQ b (K-1)<=30000:=by
 have mono:∀{b c:Nat},b<=c->∀{j k:Nat},j<=k->iQ b j<=iQ c k:=by
  intro b c h j
  induction j with
  |zero=>intro k _;exact sy
  | succ j ih=>
    intro k h2;cases k with
    |zero=>omega
    | succ k=>
      unfold iQ;have:=Nat.mul_le_mul h (ih (k:=k) 0#2);omega
 rcases h with⟨h1,h2⟩|⟨h1,h2⟩
 .exact aC (mono h1 (k:=7) 0#2) 0#1
 .exact aC (mono h1 (k:=11) 0#2) 0#1
variable{R:Nat->Nat->Nat}
theorem QF{n most:Nat}(h:iK n S)(g:Grp K R)(hm:K<60)(hmo:0<most)(hmo2:most<60):∃w S',jm [.ref n,tab K R,.int (most:Nat)] S=some (.tup (ai w),S')/\Stp n S S'/\(∀x∈w,x<K)/\w.length<=most/\w.length<60/\w.Nodup/\(∀x∈w,x≠0)/\(1<K->w≠[])/\srt w=w:=En h g hm hmo hmo2
theorem SK{st:List Nat}(g:Grp K R)(hm:K<100)(hs:∀s∈st,s<K)(hsl:st.length<1000)(hz:iQ st.length (K-1)<=30000):∃r S',fK [tab K R,.tup (ai st),.int (3:Nat)] S=some (.ref r,S')/\Ex S S'/\S'[r]?=some (.lst (tups ((qJ R st (pk R st) (K-1) ([],[0])).take 3))):=E2 g hm hs hsl 0#1 hz
def UE:MS:=sIf (cOf (m2 oGt (mFn bG 4#5) 1#4)) (aX (bu 6 (mFn jm (aa 0#6 (aa 1#3 (aa (m2 oIx (bH (aa 9#9 (aa 3#3 7#6))) (m2 oDiv (mFn bG 4#5) (mC (.int 9)))) af))))) (bu 5 (so 26#4 25#4 2#7))) cW
theorem Ud{Y:Rho}{S S1 S2:Sto}{a b:ME}{y:Nat}(ha:a Y S=some 4#2)(hb:b Y S1=some 6#3):m2 oLt a b Y S=some (.bl (decide (x<y)),S2):=by
 rw[OW ha hb]
 congr 3
 simp
theorem JS{n r5:Nat}{v1 v2 v3 v7 v8 v9:Option U}(h:iK n S)(g:Grp K R)(hK:K<=24)(h5:S[r5]?=some (.lst (tups [[0]]))):∃r F v6 S',UE 21#4 S=some (.nx,[2#3,v1,v2,v3,some (tab K R),7#4,v6,v7,v8,v9],S')/\Stp n S S'/\S'[r]?=some (.lst (tups F))/\Rb K F:=by
 have hp:=g.pos;have c1:=of_eq (Rt (Y:= 21#4) (S:=S) (a:=mFn bG 4#5) (b:=mC (.int 1)) (x:=K) (y:=1) 8#7 c_i);by_cases h1:1<K
 rotate_left
 .rw[decide_eq_false h1]at c1
  have:K=1:=by omega
  subst this;exact⟨r5,[[0]],none,S,(iA c1).trans rfl,Stp.refl h,h5,⟨by decide,by simp,by simp⟩⟩
 rw[decide_eq_true h1]at c1;have fl:bH (aa 9#9 (aa 3#3 7#6)) 21#4 S=some (.ref S.length,S++[Cell.lst (ai [3,2,2])]):=CG c_i c_i c_i;have fd:m2 oDiv (mFn bG 4#5) (mC (.int 9)) 21#4 (S++[Cell.lst (ai [3,2,2])])=some (.int (K/9:Nat),S++[Cell.lst (ai [3,2,2])]):=uR (y:=9) 8#7 c_i 0#1 0#1;obtain⟨most,hmost,hmo,hmz⟩ :∃most:Nat,(ai [3,2,2])[K/9]?=some (.int most)/\0<most/\((most<=3/\K<=8)\/(most<=2/\9<=K)):=by
  by_cases h9:K<9
  .rw[gc h9];exact⟨3,rfl,by decide,.inl ⟨by decide,by omega⟩⟩
  .by_cases h18:K<18
   .rw[show K/9=1 by omega];exact⟨2,rfl,by decide,.inr ⟨by decide,by omega⟩⟩
   .rw[show K/9=2 by omega];exact⟨2,rfl,by decide,.inr ⟨by decide,by omega⟩⟩
 have fi:=pX fl fd (bD _ _) (jd hmost);have st1:Stp n S (S++[Cell.lst (ai [3,2,2])]):=Stp.ex h 3#1;obtain⟨w,S2,f2,st2,hw,hwl,hwl2,hnd,hnz,_,_⟩:=QF st1.st g 0#2 hmo 0#2;have g2:=bz (i:=6) (lH (f:=jm) (Y:= 21#4) (S:=S) (a:=ae 0) (b:=ae 4) 0#0 0#0 fi f2);have c2:=of_eq (Ud (Y:= 29#7) (S:=S2) (a:=mFn bG 4#5) (b:=mC (.int 13)) (x:=K) (y:=13) 8#7 c_i);by_cases h13:K<13
 .rw[decide_eq_true h13]at c2
  obtain⟨r,S3,f3,x3,q3⟩:=SK (S:=S2) (st:=w) g 0#2 hw 0#2 (UC 0#2);have k3:so 26#4 25#4 2#7 29#7 S2=some (.ref r,S3):=by
   simp only[so,c2,az];exact lH (f:=fK) 0#0 0#0 c_i f3
  refine⟨r,_,3#9,S3,(jP c1).trans ((aO g2).trans (bz k3)),(st1.trans st2).step x3,q3,⟨by rw[j5];omega,λl hl=>?_,λl hl x hx=>?_⟩⟩
  .have:=(tj g hw (ku hl)).2.2
   omega
  .have:=(tj g hw (ku hl)).2.1 x hx
   exact⟨hw x this,λz=>absurd z (hnz x this)⟩
 .rw[decide_eq_false h13]at c2
  have k3:so 26#4 25#4 2#7 29#7 S2=some (.ref S2.length,S2++[.lst []]):=by
   simp only[so,c2,az];exact fA
  exact⟨_,[],3#9,_,(jP c1).trans ((aO g2).trans (bz k3)),(st1.trans st2).step 3#1,bD _ _,⟨by decide,by simp,by simp⟩⟩
def Ka:MS:=aX (bu 9 (bK (b0 (m2 oIx 0#7 (ae 8))) (cOf (m2 oGt (ae 10) 1#8)) (ae 10))) (du (mML bF (ae 7) (aa (m2 oIx (ae 9) 31#2) af)))
abbrev r10(n m:Nat)(T:Nat->Nat->Nat)(P:List Nat)(r3:Nat)(v4 v5 v6:Option U)(r7:Nat)(v8 v9:Option U):Rho:= [2#3,0#3,2#5,some (.ref r3),v4,v5,v6,some (.ref r7),v8,v9]
theorem Lh{n r3 r7:Nat}{v:List Nat}{v4 v5 v6 v9:Option U}(p:Prl m T P)(h1:m≠1)(h:iK n S)(q3:S[r3]?=some 13#2)(q7:S[r7]?=some (.lst (ai v)))(n3:r3≠n)(n7:r7≠n)(n37:r3≠r7)(hv:Lt m v)(hvl:v.length<1000)(hx:x<mnS m T P)(h0:x=0->mnS m T P=1):
  ∃u9 y S',Ka (r10 n m T P r3 v4 v5 v6 r7 (some 16#3) v9) S=some (.nx,r10 n m T P r3 v4 v5 v6 r7 (some 16#3) u9,S')/\iK n S'/\S.length<=S'.length/\(∀k,k<S.length->k≠n->k≠r7->S'[k]?=S[k]?)/\S'[r7]?=some (.lst (ai (v++[y])))/\y<m:=by
 have hm:=p.hm;have hne:=Gy p h1 hx h0;have hlt:=λy (hy:y∈(aS m T P true).getD x [])=>(hG p.sb p.g hx hy).1;have hsl:((aS m T P true).getD x []).length<=24:=by
  have e:(aS m T P true).getD x []=(aS m T P true)[x]:=by rw[aU,aF hx];rfl
  rw[e,uS (cg hx)];exact p.len
 have k1:m2 oIx 0#7 (ae 8) (r10 n m T P r3 v4 v5 v6 r7 (some 16#3) v9) S=some (.tup (ai ((aS m T P true).getD x [])),S):=pX 0#0 0#0 q3 (jd (jT hx));have k2:=sP (t:=cOf (m2 oGt (ae 10) 1#8)) (e:=ae 10) (p:=λy=>decide (0<y)) (f:=λy=>.int (y:Nat)) k1 0#2 (λy hy=>of_eq (Rt (y:=0) 0#0 c_i)) (λy hy _=>var_eq rfl);generalize hF:((aS m T P true).getD x []).filter (λy=>decide (0<y))=F at k2 hne;have hFl:F.length<=24:=by rw[<-hF];exact aC (fo _ _) hsl
 have hFm:Lt m F:=λy hy=>by rw[<-hF]at hy;exact hlt y (eR.mp hy).1
 have k3:=bz (i:=9) k2;have qF:(S++[Cell.lst (ai F)])[S.length]?=some (.lst (ai F)):=bD _ _;have st1:Stp n S (S++[Cell.lst (ai F)]):=Stp.ex h 3#1;have q7':(S++[Cell.lst (ai F)])[r7]?=some (.lst (ai v)):=(Ex.push _ _).some q7;obtain⟨r,S2,e2,hr,st2⟩:=gw (m:=F.length) st1.st (tL.mpr hne) 0#2;have hSn:S.length≠n:=by have:=h.lt;omega
 have qF2:=st2.some hSn qF;have k4:m2 oIx (ae 9) 31#2 (r10 n m T P r3 v4 v5 v6 r7 (some 16#3) 14#0) (S++[Cell.lst (ai F)])=some (.int (F[r]:Nat),S2):=pX 0#0 (cJ (f:=aP) 0#0 (by rw[tE 0#0 qF,bw]) e2) qF2 (jd (by simp[ai,hr]));have q72:=st2.some n7 q7';have k5:=append_eq (Y:=r10 n m T P r3 v4 v5 v6 r7 (some 16#3) 14#0) (S:=S++[Cell.lst (ai F)]) (o:=ae 7) (r:=r7) 0#0 k4 q7' q72 (by rw[bw];unfold big;omega);have hin:=(ag.mp q72).1;obtain⟨s,b,hst⟩:=st2.st;refine⟨_,F[r],_,(aO k3).trans k5,⟨s,b,by rw[aB 0#2];exact hst⟩,?_,λk hk h1 h2=>?_,?_,hFm _ (cg hr)⟩
 .rw[fH];exact aC st1.len st2.len
 .rw[aB 0#2,st2.same k (aj hk st1.len) h1,aM hk]
 .rw[aN hin];simp[ai]
end
end
section
open _L _G
section
variable {m:Nat}{T:Nat->Nat->Nat}{P:List Nat}{S:Sto}
structure St2(n r:Nat)(S S':Sto):Prop where
 st:iK n S'
 len:S.length<=S'.length
 same:∀k,k<S.length->k≠n->k≠r->S'[k]?=S[k]?
variable{n r3:Nat}
theorem Nj{r7:Nat}{l:List Nat}{v4 v5 v6 v8 v9:Option U}{e:ME}{S0:Sto}(p:Prl m T P)(h1:m≠1)(he:e (r10 n m T P r3 v4 v5 v6 r7 v8 v9) S0=some (.tup 2#0,S))(h:iK n S)(q3:S[r3]?=some 13#2)(q7:S[r7]?=some (.lst []))(n3:r3≠n)(n7:r7≠n)(n37:r3≠r7)(hl:l.length<=24)(hlt:∀x∈l,x<mnS m T P/\(x=0->mnS m T P=1)):
  ∃v u8 u9 S',ee 8 (b0 e) Ka (r10 n m T P r3 v4 v5 v6 r7 v8 v9) S0=some (.nx,r10 n m T P r3 v4 v5 v6 r7 u8 u9,S')/\St2 n r7 S S'/\S'[r7]?=some (.lst (ai v))/\Lt m v/\v.length=l.length:=by
 have hr3:=(ag.mp q3).1;obtain⟨Y1,S1,e1,⟨u8,u9,rfl⟩,s1,v,q1,hv,hvl⟩:=pz (i:=8) (b:=Ka) (e:=e) (us:=ai l) he
  (λk Y S'=>(∃u8 u9,Y=r10 n m T P r3 v4 v5 v6 r7 u8 u9)/\St2 n r7 S S' /\ ∃v,S'[r7]?=some (.lst (ai v))/\Lt m v/\v.length=k)
  ⟨⟨_,_,rfl⟩,⟨h,ak _,λ_ _ _ _=>rfl⟩,[],q7,λx hx=>by simp at hx,rfl⟩ (by
   rintro k u Y S' hu ⟨⟨u8,u9,rfl⟩,s,v,q,hv,hvl⟩;obtain⟨x,hx,rfl⟩:=hJ hu;obtain⟨hx1,hx2⟩:=hlt x (bP hx);have hk:k<l.length:=(ag.mp hx).1;obtain⟨w9,y,S2,e2,st2,l2,sm2,q2,hy⟩:=Lh (S:=S') (v4:=v4) (v5:=v5) (v6:=v6) (v9:=u9) p h1 s.st (by rw[s.same r3 hr3 n3 n37];exact q3) q n3 n7 n37 hv 0#2 hx1 hx2
   refine⟨_,S2,e2,⟨_,_,rfl⟩,⟨st2,aC s.len l2,λk hk a b=>(sm2 k (aj hk s.len) a b).trans (s.same k hk a b)⟩,v++[y],q2,Lt.app hv (Lt.one hy),by simp[hvl]⟩)
 rw[bw]at hvl;exact⟨v,u8,u9,S1,e1,s1,q1,hv,hvl⟩
theorem K4{v4 v5 v6 v7 v8 v9:Option U}(g:Grp m T)(hm:m<=24)(h:iK n S){ls:List (List Nat)}(q3:S[r3]?=some 17#7)(n3:r3≠n)(hl:ls.length<=24):∃w S',mFn bC (aa (bK (b0 0#7) cTT 19#0) af) 21#8 S=some (.tup (ai w),S')/\Stp n S S'/\Lt m w/\w.length=ls.length:=by
 have hu:(tups ls).length=ls.length:=by simp[tups]
 obtain⟨ys,S1,e1,⟨w,rfl,hw,st⟩,hlen⟩:=xU (e:=mFn aP (aa 0#6 (aa 14#8 af))) (Y:= 21#8) (n:=r3) (us:=tups ls) (λacc S' =>∃w,acc=ai w/\Lt m w/\Stp n S S') (λacc S' ⟨_,_,_,st⟩=>by unfold getL;rw[st.some n3 q3]) (by
  rintro u _ acc S' ⟨w,rfl,hw,st⟩;obtain⟨r,S2,e2,hr,st2⟩:=gw (m:=m) st.st g.pos 0#2
  exact⟨.int (r:Nat),S2,cJ (f:=aP) (var_eq rfl) (len_tab (var_eq rfl)) e2,w++[r],by simp[ai],Lt.app hw (Lt.one hr),st.trans st2⟩) fuel 0 [] S (dC _) (by rw[hu];unfold fuel;omega) ⟨[],rfl,λx hx=>by simp at hx,Stp.refl h⟩
 have hwl:w.length=ls.length:=by rw[bw]at hlen;rw[hlen,hu];simp
 have hi:b0 0#7 21#8 S=some (.mut r3,S):=by
  have v:ae 3 21#8 S=some (.ref r3,S):=rfl;simp only[b0,v,az,getL,q3,aI]
 have e2:bK (b0 0#7) cTT 19#0 21#8 S=some (.ref S1.length,S1++[.lst (ai w)]):=by
  simp only[bK,hi,az,wj,e1];rw[if_pos (by rw[bw,hwl];unfold big;omega)]
 exact⟨w,_,eU e2,st.step 3#1,hw,hwl⟩
theorem NO{Y:Rho}{S1 S2 S3:Sto}{a b c:ME}{x y z:U}(ha:a Y S=some (x,S1))(hb:b Y S1=some (y,S2))(hc:c Y S2=some (z,S3)):de (aa a (aa b (aa c af))) Y S=some (.tup [x,y,z],S3):=by
 have hq:3<=big:=by decide
 simp[de,aa,af,az,ha,hb,hc,hq]
def TZ:MS:=aX (sIf (cOf (m2 oEq (ae 5) 2#7)) (cb (de (aa 1#5 (aa 0#5 (aa (mFn bC (aa (bK (b0 0#7) cTT 19#0) af)) af))))) cW) (aX (bu 7 2#7) (aX (ee 8 (b0 (m2 oIx (ae 5) (mFn aP (aa 0#6 (aa 11#7 af))))) Ka) (cb (de (aa 1#5 (aa 0#5 (aa (mFn bC (aa (ae 7) af)) af)))))))
theorem LJ{r5:Nat}{v4 v6:Option U}{F:List (List Nat)}(p:Prl m T P)(h1:m≠1)(h:iK n S)(q3:S[r3]?=some 13#2)(n3:r3≠n)(q5:S[r5]?=some (.lst (tups F)))(n5:r5≠n)(hF:Rb 9#1 F):
  ∃w Y2 S',TZ 29#1 S=some (.rt (.tup 22#6),Y2,S')/\Stp n S S'/\Lt m w/\w.length<=24:=by
 have hm:=p.hm;have hmn:(aS m T P true).length<=m:=(vM p).2;have hnl:=h.lt;have c1:=of_eq (CW (Y:= 29#1) (S:=S) (a:=ae 5) (b:=bH af) (x:=F) (y:= []) 0#0 fA ((Ex.push _ _).some q5) (bD _ _));have st1:Stp n S (S++2#4):=Stp.ex h 3#1;have q3':(S++2#4)[r3]?=some 13#2:=(Ex.push _ _).some q3;have q5':(S++2#4)[r5]?=some (.lst (tups F)):=(Ex.push _ _).some q5;generalize S++2#4=S1 at c1 st1 q3' q5';by_cases hF0:F=[]
 .rw[decide_eq_true hF0]at c1
  obtain⟨w,S2,e2,st2,hw,hwl⟩:=K4 (P:=P) (S:=S1) (v4:=v4) (v5:=some (.ref r5)) (v6:=v6) (v7:=none) (v8:=none) (v9:=none) p.g hm st1.st q3' n3 0#2;exact⟨w,_,S2,nF ((jP c1).trans (cu (NO 0#0 0#0 e2))),st1.trans st2,hw,by omega⟩
 rw[decide_eq_false hF0]at c1;have f2:bu 7 2#7 29#1 S1=some (.nx,r10 n m T P r3 v4 (some (.ref r5)) v6 S1.length none none,S1++[.lst []]):=bz fA;have st2:Stp n S1 (S1++2#4):=Stp.ex st1.st 3#1;have q7:(S1++2#4)[S1.length]?=some (.lst []):=bD _ _;have q3'':(S1++2#4)[r3]?=some 13#2:=(Ex.push _ _).some q3';have q5'':(S1++2#4)[r5]?=some (.lst (tups F)):=(Ex.push _ _).some q5';have hr3:=(ag.mp q3').1;have hn1:=st1.st.lt;generalize S1++2#4=S2 at f2 st2 q7 q3'' q5'';have hFp:0<F.length:=tL.mpr hF0;obtain⟨r,S3,e3,hr,st3⟩:=gw (m:=F.length) st2.st hFp (by have:=hF.len;omega);have hFr:F.getD r []∈F:=by
  rw[aU,aF hr];exact cg hr
 have k3:m2 oIx (ae 5) (mFn aP (aa 0#6 (aa 11#7 af))) (r10 n m T P r3 v4 (some (.ref r5)) v6 S1.length none none) S2=some (.tup (ai (F.getD r [])),S3):=pX 0#0 (cJ (f:=aP) 0#0 (Cn 0#0 q5'') e3) (st3.some n5 q5'') (jd (jT hr));have hle:=hF.each _ hFr;obtain⟨v,u8,u9,S4,e4,s4,q4,hv,hvl⟩:=Nj (v4:=v4) (v5:=some (.ref r5)) (v6:=v6) p h1 k3 st3.st (st3.some n3 q3'') (st3.some 0#2 q7) n3 0#2 0#2 (by have:mnS m T P<=m:=hmn;omega) (hF.lt _ hFr);have k5:mFn bC (aa (ae 7) af) (r10 n m T P r3 v4 (some (.ref r5)) v6 S1.length u8 u9) S4=some (.tup (ai v),S4):=jn 0#0 q4;refine⟨v,_,S4,(aO ((iA c1).trans rfl)).trans ((aO f2).trans ((aO e4).trans (cu (NO 0#0 0#0 k5)))),⟨?_,λk hk hkn=>?_,s4.st⟩,hv,by have:mnS m T P<=m:=hmn;omega⟩
 .exact aC st1.len (aC st2.len (aC st3.len s4.len))
 .have h1':k<S1.length:=aj hk st1.len
  have h2':k<S2.length:=aj h1' st2.len;have h3':k<S3.length:=aj h2' st3.len;rw[s4.same k h3' hkn 0#2,st3.same k h2' hkn,st2.same k h1' hkn,st1.same k hk hkn]
theorem NX{S:Sto}(h:iK n S):∃m T P w S',fe [.ref n] S=some (.tup 22#6,S')/\Prl m T P/\Lt m w/\w.length<=24/\Stp n S S':=by
 obtain⟨m,T,S1,e1,g,hm,st1⟩:=Nh (Y:= 31#0) h rfl;obtain⟨P,S2,e2,st2,p⟩:=Ke st1.st g hm;have f2:=bz (i:=2) (cJ (f:=l7) (Y:= [2#3,0#3,none,none,none,none,none,none,none,none]) (S:=S1) (a:=ae 0) (b:=ae 1) 0#0 0#0 e2);have hlp:=p.len;obtain⟨S3,e3,x3,q3⟩:=rD (S:=S2) (left:=true) p.g 0#2 0#2 p.sb.lt;have f3:=bz (i:=3) (lH (f:=dY) (Y:= [2#3,0#3,2#5,none,none,none,none,none,none,none]) (S:=S2) (a:=ae 1) (b:=ae 2) (c:=mC (.bl true)) 0#0 0#0 rfl e3);obtain⟨S4,e4,x4,q4⟩:=rD (S:=S3) (left:=false) p.g 0#2 0#2 p.sb.lt;have n3:S2.length≠n:=by have:=st2.st.lt;omega
 have c4:=of_eq (CT (Y:= [2#3,0#3,2#5,some 11#6,none,none,none,none,none,none]) (S:=S3) (a:=ae 3) 0#0 (lH (f:=dY) (a:=ae 1) (b:=ae 2) (c:=mC (.bl false)) 0#0 0#0 rfl e4) (x4.some q3) q4);have c5:=of_eq (PR (Y:= [2#3,0#3,2#5,some 11#6,none,none,none,none,none,none]) (S:=S4) (a:=mFn bG 6#0) (b:=mC (.int 1)) (x:=m) (y:=1) 8#7 c_i);have c6:=or_eq c4 c5 (λ_=>rfl);have st4:Stp n S S4:=(st1.trans st2).step (x3.trans x4);have q34:=x4.some q3;generalize S2.length=r3 at q3 q34 f3 c4 c5 c6 n3;by_cases hb:Lv m T P/\m≠1
 rotate_left
 .have hf:(!decide (aS m T P true=aS m T P false)||decide (m=1))=true:=by
   by_cases h1:Lv m T P
   .have h2:m=1:=fh λz=>hb ⟨h1,z⟩
    simp[h2]
   .have h1': ¬aS m T P true=aS m T P false:=h1
    simp[h1']
  rw[hf]at c6;obtain⟨w,S5,e5,st5,hw,hwl⟩:=PF (c:=3) st4.st g 0#2 0#1;exact⟨m,T,P,w,S5,cw rfl (show ib 31#0 S=_ from(aO (bz e1)).trans ((aO f2).trans ((aO f3).trans (nF ((jP c6).trans (cu (NO 0#0 0#0 (lH (f:=mF) 0#0 0#0 c_i e5)))))))),p,hw,by omega,st4.trans st5⟩
 obtain⟨lv,hm1⟩:=hb;rw[decide_eq_true (show aS m T P true=aS m T P false from lv),decide_eq_false hm1]at c6;obtain⟨S5,e5,x5⟩:=LD (S:=S4) p.sb p.g 0#2 0#2 q34;have gR:=JN p lv;have f5:=bz (i:=4) (cJ (f:=mH) (Y:= [2#3,0#3,2#5,some (.ref r3),none,none,none,none,none,none]) (S:=S4) (a:=ae 1) (b:=ae 3) 0#0 0#0 e5);generalize hR:(λi j=>nbr 4#7 (T (kz 4#7 i) (kz 4#7 j)))=R at f5 gR;have k6:bH (aa (de 8#8) af) [2#3,0#3,2#5,some (.ref r3),some (tab 9#1 R),none,none,none,none,none] S5=some (.ref S5.length,S5++[.lst (tups [[0]])]):=wx (Cg (c_i (z:=0)));have st6:Stp n S4 (S5++[Cell.lst (tups [[0]])]):=Stp.ex st4.st (x5.trans 3#1);have n5:S5.length≠n:=by have:=(st4.step x5).st.lt;omega
 obtain⟨r,F,v6,S7,e7,st7,q7,hF⟩:=JS (S:=S5++[.lst (tups [[0]])]) (n:=n) (r5:=S5.length) (v1:=some (tab m T)) (v2:=some (.tup (ai P))) (v3:=some (.ref r3)) (v7:=none) (v8:=none) (v9:=none) st6.st gR (by have:mnS m T P<=m:=(vM p).2;omega) (bD _ _);have q37:=(st6.trans st7).some n3 q34;have nr:r≠n:=λz=>by
  obtain⟨s,b,e⟩:=st7.st;rw[z,e]at q7;have:=hF.len;cases F with
  |nil=>simp[tups]at q7
  |cons a l=>simp[tups]at q7
 obtain⟨w,Z5,S8,e8,st8,hw,hwl⟩:=LJ (S:=S7) (v4:=some (tab 9#1 R)) (v6:=v6) p hm1 st7.st q37 n3 q7 nr hF;exact⟨m,T,P,w,S8,cw rfl (show ib 31#0 S=_ from(aO (bz e1)).trans ((aO f2).trans ((aO f3).trans ((aO ((iA c6).trans rfl)).trans ((aO f5).trans ((aO (bz k6)).trans ((aO e7).trans e8))))))),p,hw,hwl,((st4.trans st6).trans st7).trans st8⟩
end
end
section
open _L _G
variable{x:Nat}
theorem Rr(h:x∈[0,2,4]):x=0\/x=2\/x=4:=by simpa using h
theorem RR(h:x∈[0,1]):x=0\/x=1:=by simpa using h
theorem p6:Prl 6 (bL 6) [0,2,4]:=
 ⟨jZ 0#1,by decide,⟨by decide,by decide,by decide⟩,by decide⟩
theorem p2:Prl 2 (bL 2) [0,1]:=
 ⟨jZ 0#1,by decide,⟨by decide,by decide,by decide⟩,by decide⟩
theorem lvc{n:Nat}{P:List Nat}(p:Prl n (bL n) P):Lv n (bL n) P:=Oc p.sb p.g p.nd (Fh p.sb p.g Ez)
theorem o6:okL 6 (bL 6) [0,2,4] [1,1]=true:=by
 have h0:Rch (bL 6) [2] 0:= .zero;have h2:Rch (bL 6) [2] 2:=Rch.step (y:=2) h0 0#8;have h4:Rch (bL 6) [2] 4:=Rch.step (y:=2) h2 0#8;have hs:spn (bL 6) [0,2,4] (dQ (bL 6) [1,1]):=λx=>by
  show x∈[0,2,4]↔Rch (bL 6) [2] x;constructor
  .intro h
   rcases Rr h with rfl|rfl|rfl
   .exact h0
   .exact h2
   .exact h4
  .intro r
   induction r with
   |zero=>simp
   | step _ hy ih=>
     rw[bW.mp hy];rcases Rr ih with e|e|e<;>rw[e]<;>decide
 have hK:mnS 6 (bL 6) [0,2,4]=2:=by
  have h:mnS 6 (bL 6) [0,2,4]*3=6:=om (b:=true) p6.sb p6.g p6.nd;omega
 have hc:nbS 6 (bL 6) [0,2,4] (dQ (bL 6) [1,1])=0:=(HS p6.sb p6.g p6.pw 0#1).mpr 0#1;have h1:nbS 6 (bL 6) [0,2,4] 1=1:=by
  have a:=L5 p6 (x:=1) 0#1;have b:nbS 6 (bL 6) [0,2,4] 1≠0:=λz=>absurd ((HS p6.sb p6.g p6.pw 0#1).mp z) 0#1;rw[hK]at a;omega
 have hp:(pre (bL 6) [1,1]).map (nbS 6 (bL 6) [0,2,4])=ay 2:=by
  show [nbS 6 (bL 6) [0,2,4] 0,nbS 6 (bL 6) [0,2,4] 1]=[0,1];rw[nb0 p6,h1]
 unfold okL;rw[decide_eq_true hs,hK,hp,x8,decide_eq_true hc,decide_eq_true rfl]
 decide
theorem o2:okL 2 (bL 2) [0,1] [1]=true:=by
 have h0:Rch (bL 2) [1] 0:= .zero;have h1:Rch (bL 2) [1] 1:=Rch.step (y:=1) h0 0#8;have hs:spn (bL 2) [0,1] (dQ (bL 2) [1]):=λx=>by
  show x∈[0,1]↔Rch (bL 2) [1] x;constructor
  .intro h
   rcases RR h with rfl|rfl
   .exact h0
   .exact h1
  .intro r
   induction r with
   |zero=>simp
   | step _ hy ih=>
     rw[bW.mp hy];rcases RR ih with e|e<;>rw[e]<;>decide
 have hK:mnS 2 (bL 2) [0,1]=1:=by
  have h:mnS 2 (bL 2) [0,1]*2=2:=om (b:=true) p2.sb p2.g p2.nd;omega
 have hc:nbS 2 (bL 2) [0,1] (dQ (bL 2) [1])=0:=(HS p2.sb p2.g p2.pw 0#1).mpr 0#1;have hp:(pre (bL 2) [1]).map (nbS 2 (bL 2) [0,1])=ay 1:=by
  show [nbS 2 (bL 2) [0,1] 0]=[0];rw[nb0 p2]
 unfold okL;rw[decide_eq_true hs,hK,hp,x8,decide_eq_true hc,decide_eq_true rfl]
 decide
theorem H9(ns:List Int)(hl:ns.length<=63)(S:Sto)(h1:S.length=1)(h2:getL S 0=some 14#6):∃S',Te [.ref 0] S=some (.bl true,S'):=by
 obtain⟨Sa,ea,xa⟩:=lR (n:=6) (S:=S) 0#1 0#1;obtain⟨Sb,eb,xb⟩:=zr (S:=Sa) (w:= [1,1]) p6 (lvc p6) 0#1 0#1 o6;obtain⟨Sc,ec,xc⟩:=lR (n:=2) (S:=Sb) 0#1 0#1;obtain⟨Sd,ed,xd⟩:=zr (S:=Sc) (w:= [1]) p2 (lvc p2) 0#1 0#1 o2;have d1:cOf (m2 oNe (mFn dU (aa (mFn cQ (aa (mC (.int 6)) af)) (aa (de 33#2) (aa (de 15#3) af)))) (de 32#5)) 18#8 S=some (false,Sb):=by
  have k:=of_eq (BL (Y:= 18#8) (S:=S) (y:= [1,1,1,1,1,1]) (lH (f:=dU) (b:=de 33#2) (c:=de 15#3) (gH (f:=cQ) c_i ea) rfl rfl eb) (b:=de 32#5) rfl);exact k
 have d2:cOf (m2 oNe (mFn dU (aa (mFn cQ 7#6) (aa (de 24#0) (aa (de (aa 1#4 af)) af)))) (de 15#3)) 18#8 Sb=some (false,Sd):=by
  have k:=of_eq (BL (Y:= 18#8) (S:=Sb) (y:= [1,1]) (lH (f:=dU) (b:=de 24#0) (c:=de (aa 1#4 af)) (gH (f:=cQ) c_i ec) rfl rfl ed) (b:=de 15#3) rfl);exact k
 have hsd:Scr ns Sd:=Scr.ex h2 λc h=>(((xa.trans xb).trans xc).trans xd).some h;obtain⟨q,hq,eq⟩:=Iz (Y:= 18#8) (c:=5) hsd rfl hl;obtain⟨Y1,S1,e1,_,_⟩:=j4 (i:=1) (a:=mFn zI (aa 1#4 (aa (mFn tS (aa 6#2 (aa (mC (.int 5)) af))) af))) (n:=q)
  (b:=aX (bu 2 (mFn kC 3#7)) (aX (wM (mFn fe 3#4) 32#0) (aX (bu 6 (mFn gE (aa 0#7 (aa 1#3 10#3)))) (ee 7 (iR1 7#6) (sIf 28#8 (cb 14#3) cW)))))
  (Y:= 18#8) (S:=Sd) eq (by unfold big;omega)
  (λk Y S'=>(∃a b c d e f g,Y=[5#8,a,b,c,d,e,f,g])/\Scr ns S') ⟨⟨none,none,none,none,none,none,none,rfl⟩,hsd⟩
  (by
   rintro k Y S' hk ⟨⟨u1,u2,u3,u4,u5,u6,u7,rfl⟩,hs⟩;have h0:=hs.lt;obtain⟨S2,f2,x2,st2⟩:=GV (k:=k) hs;obtain⟨m,T,P,w,S3,f3,p,hw,hwl,st3⟩:=NX st2;have a3:wM (mFn fe 3#4) 32#0 [5#8,2#8,some 9#8,u3,u4,u5,u6,u7] S2=some (.nx,[5#8,2#8,some 9#8,0#3,2#5,3#9,u6,u7],S3):=by
    have:=gH (Y:= [5#8,2#8,some 9#8,u3,u4,u5,u6,u7]) (S:=S2) (f:=fe) (a:=ae 2) 0#0 f3;simp only[wM,this,az];rfl
   obtain⟨v,S4,f4,x4,an4⟩:=TB (S:=S3) p hw 0#2;have g4:=bz (i:=6) (lH (f:=gE) (Y:= [5#8,2#8,some 9#8,0#3,2#5,3#9,u6,u7]) (S:=S3) (a:=ae 3) (b:=ae 4) (c:=ae 5) 0#0 0#0 0#0 f4);obtain⟨X9,S5,f5,⟨t,rfl⟩,x5⟩:=j4 (i:=7) (a:=mC (.int 2)) (n:=2) (b:=sIf 28#8 (cb 14#3) cW) (Y:= [5#8,2#8,some 9#8,0#3,2#5,3#9,some v,u7]) (S:=S4) rfl 0#1
    (λ_ Y S5=>(∃t,Y = [5#8,2#8,some 9#8,0#3,2#5,3#9,some v,t])/\Ex S4 S5) ⟨⟨_,rfl⟩,Ex.refl _⟩ (by
     rintro j Y S5 hj ⟨⟨t,rfl⟩,x5⟩;obtain⟨z,S6,f6,x6,an6⟩:=Uz (S:=S5) p hw 0#2;have c6:=not_eq (of_eq (cJ (f:=iU) (Y:= [5#8,2#8,some 9#8,0#3,2#5,3#9,some v,some (.int j)]) (S:=S5) (b:=ae 6) (lH (f:=eK) (a:=ae 3) (b:=ae 4) (c:=ae 5) 0#0 0#0 0#0 f6) 0#0 (Nc an6 (an4.ex (x5.trans x6)) (Es p hw))))
     exact⟨_,S6,(iA c6).trans rfl,⟨_,rfl⟩,x5.trans x6⟩)
   refine⟨_,S5,(aO (bz (cJ 0#0 0#0 f2))).trans ((aO a3).trans ((aO g4).trans f5)),⟨_,_,_,_,_,_,_,rfl⟩,?_⟩
   exact((hs.ex λc h=>x2.some h).ex λc h=>st3.some (by omega) h).ex λc h=>(x4.trans x5).some h)
 exact⟨S1,cw (Y:=Y1) rfl ((aO ((iA (_W.or_false d1 d2)).trans rfl)).trans ((aO e1).trans (cu rfl)))⟩
end
def top(i:Nat):Stmt:=PySem.Challenge.pw_groupwalks_k61_walks_lifted.main.body.getD i (.Pass ⟨0,0,0,0⟩)
abbrev lg:Stmt:=top 32
abbrev nS:Stmt:=top 33
abbrev pq:Stmt:=top 34
abbrev nv:Stmt:=top 35
abbrev nE:Stmt:=top 36
abbrev la:Stmt:=top 38
abbrev pD:Stmt:=top 37
abbrev nH:Stmt:=top 40
abbrev nL:Stmt:=top 39
abbrev nG:Stmt:=top 41
abbrev pN:Stmt:=top 46
abbrev pJ:Stmt:=top 48
abbrev nh:Stmt:=top 49
abbrev l9:Stmt:=top 50
abbrev pP:Stmt:=top 51
abbrev m6:Stmt:=top 43
abbrev pC:Stmt:=top 47
abbrev my:Stmt:=top 44
abbrev jz:Stmt:=top 54
abbrev nq:Stmt:=top 52
abbrev ke:Stmt:=top 53
abbrev qT:Stmt:=top 18
abbrev mD:Stmt:=top 12
abbrev jJ:Stmt:=top 19
abbrev kl:Stmt:=top 22
abbrev lY:Stmt:=top 14
abbrev ja:Stmt:=top 20
abbrev pv:Stmt:=top 21
abbrev gM:Stmt:=top 23
abbrev wq:Stmt:=top 25
abbrev iY:Stmt:=top 26
abbrev kY:Stmt:=top 27
abbrev iF:Stmt:=top 10
abbrev gX:Stmt:=top 11
abbrev yC:Stmt:=top 16
abbrev BQ:Stmt:=top 17
abbrev yZ:Stmt:=top 13
abbrev lZ:Stmt:=top 29
abbrev nz:Stmt:=top 30
abbrev pG:Stmt:=top 45
abbrev fW:Stmt:=top 42
abbrev jN:Stmt:=top 55
abbrev Hw:Stmt:=top 56
abbrev N0:List Str := ["script","k"]
abbrev N1:List Str := ["script","k","cell"]
abbrev N2:List Str := ["state","many","found","mixed"]
abbrev N3:List Str := ["n"]
abbrev N4:List Str := ["n","found","i","row","j","turn"]
abbrev N5:List Str := ["signs","kinds","found","one","row","other","sign"]
abbrev N6:List Str := ["one","other","size","found","i","row","j","ahead"]
abbrev N7:List Str := ["group","order"]
abbrev N8:List Str := ["state","many","left"]
abbrev N9:List Str := ["state","most","way","found","first","one"]
abbrev N10:List Str := ["group","things","found","fresh","here","one"]
abbrev N11:List Str := ["state","group"]
abbrev N12:List Str := ["group","part","left","found","gone","thing","row"]
abbrev N13:List Str := ["parted","thing"]
abbrev N14:List Str := ["group","parted","found","one"]
abbrev N15:List Str := ["state","group","most","left","found","k"]
abbrev N16:List Str := ["state","group","most"]
abbrev N17:List Str := ["group","steps","most","found","line","walk","there","here","fresh"]
abbrev N18:List Str := ["state","group","part","parted","rest","rounds","steps","walk","number","some"]
abbrev N19:List Str := ["group","things","found","one"]
abbrev N20:List Str := ["group","part","walk","parted","numbers"]
abbrev N21:List Str := ["rising","piece_at","found","met","least","piece","one"]
abbrev N22:List Str := ["group"]
abbrev N23:List Str := ["group","part"]
abbrev N24:List Str := ["group","part","numbers","number","side","thing"]
abbrev N25:List Str := ["many","times","rows","i"]
abbrev N26:List Str := ["group","part"]
abbrev N27:List Str := ["group","part"]
abbrev N28:List Str := ["group","part","leasts","numbers"]
abbrev N29:List Str := ["group","walk","come_to","thing"]
abbrev N30:List Str := ["group","come_to"]
abbrev N31:List Str := ["group","walk","come_to"]
abbrev N32:List Str := ["value","many"]
abbrev N33:List Str := ["value","many"]
abbrev N34:List Str := ["group","things","found","waiting","place","thing","onward"]
abbrev N35:List Str := ["group","things"]
abbrev N36:List Str := ["group","things","product","thing"]
abbrev N37:List Str := ["group","part","rest","walk","numbers"]
abbrev N38:List Str := ["group","part","walk","rest"]
abbrev N39:List Str := ["found","due"]
abbrev N40:List Str := ["call","error","e","kinds"]
abbrev N41:List Str := ["group","part","walk","found","refused"]
abbrev N42:List Str := ["script","k","state","group","part","walk","due","turn"]
def T0 (cl:Nat->Addr):Tb:=⟨[],[],[],[],false,⟨[],[],cl,"<lambda>"⟩⟩
def T1 (cl:Nat->Addr):Tb:=(T0 cl).dd "_law_cell_at" jb
def T2 (cl:Nat->Addr):Tb:=(T1 cl).dd "_law_state" kC
def T3 (cl:Nat->Addr):Tb:=(T2 cl).dd "_law_take" aP
def T4 (cl:Nat->Addr):Tb:=(T3 cl).dd "_law_clock" cQ
def T5 (cl:Nat->Addr):Tb:=(T4 cl).dd "_law_flips" gF
def T6 (cl:Nat->Addr):Tb:=(T5 cl).dd "_law_quarter" hE
def T7 (cl:Nat->Addr):Tb:=(T6 cl).dd "_law_both" mw
def T8 (cl:Nat->Addr):Tb:=(T7 cl).dd "_law_named" kR
def T9 (cl:Nat->Addr):Tb:=(T8 cl).dd "_law_order" kI
def T10 (cl:Nat->Addr):Tb:=(T9 cl).dd "_law_group" jl
def T11 (cl:Nat->Addr):Tb:=(T10 cl).dd "_law_span" iw
def T12 (cl:Nat->Addr):Tb:=(T11 cl).dd "_law_part" l7
def T13 (cl:Nat->Addr):Tb:=(T12 cl).dd "_law_sides" dY
def T14 (cl:Nat->Addr):Tb:=(T13 cl).dd "_law_number" dG
def T15 (cl:Nat->Addr):Tb:=(T14 cl).dd "_law_rest" mH
def T16 (cl:Nat->Addr):Tb:=(T15 cl).dd "_law_steps" jm
def T17 (cl:Nat->Addr):Tb:=(T16 cl).dd "_law_some" mF
def T18 (cl:Nat->Addr):Tb:=(T17 cl).dd "_law_rounds" fK
def T19 (cl:Nat->Addr):Tb:=(T18 cl).dd "_law_lift_case" fe
def T20 (cl:Nat->Addr):Tb:=(T19 cl).dd "_law_along" ek
def T21 (cl:Nat->Addr):Tb:=(T20 cl).dd "_law_due_lift" gE
def T22 (cl:Nat->Addr):Tb:=(T21 cl).hh "pieces" vW
def T23 (cl:Nat->Addr):Tb:=(T22 cl).dd "all_things" jU
def T24 (cl:Nat->Addr):Tb:=(T23 cl).dd "left_sides" ei
def T25 (cl:Nat->Addr):Tb:=(T24 cl).dd "side_numbers" fE
def T26 (cl:Nat->Addr):Tb:=(T25 cl).hh "table_of" vT
def T27 (cl:Nat->Addr):Tb:=(T26 cl).dd "right_sides" jc
def T28 (cl:Nat->Addr):Tb:=(T27 cl).dd "is_level" fM
def T29 (cl:Nat->Addr):Tb:=(T28 cl).xx "rest_group" eh gL
def T30 (cl:Nat->Addr):Tb:=(T29 cl).dd "places" qR
def T31 (cl:Nat->Addr):Tb:=(T30 cl).dd "are_all_things" fD
def T32 (cl:Nat->Addr):Tb:=(T31 cl).dd "comes_round" jh
def T33 (cl:Nat->Addr):Tb:=(T32 cl).dd "is_number_below" kM
def T34 (cl:Nat->Addr):Tb:=(T33 cl).dd "are_numbers_below" eJ
def T35 (cl:Nat->Addr):Tb:=(T34 cl).dd "roads" Du
def T36 (cl:Nat->Addr):Tb:=(T35 cl).dd "span" y7
def T37 (cl:Nat->Addr):Tb:=(T36 cl).dd "along" uA
def T38 (cl:Nat->Addr):Tb:=(T37 cl).dd "is_to_lift" eN
def T39 (cl:Nat->Addr):Tb:=(T38 cl).xx "lifted" dU j8
def T40 (cl:Nat->Addr):Tb:=(T39 cl).dd "_law_same" iU
def T41 (cl:Nat->Addr):Tb:=(T40 cl).qq "_law_refused" [1,2]
def T42 (cl:Nat->Addr):Tb:=(T41 cl).dd "_law_lifted" eK
theorem xi:∀(cl:Nat->Addr),cD (T0 cl) N0 lg=some hU:=by intro cl;kernel_rfl
theorem vQ:bh N0 (N0.take 2) (aE lg):=dE 1#0
theorem Aw:∀(cl:Nat->Addr),cD (T1 cl) N1 nS=some kN:=by intro cl;kernel_rfl
theorem zm:bh N1 (N1.take 2) (aE nS):=dE 1#0
theorem BC:∀(cl:Nat->Addr),cD (T2 cl) N2 pq=some mq:=by intro cl;kernel_rfl
theorem AA:bh N2 (N2.take 2) (aE pq):=dE 1#0
theorem Ak:∀(cl:Nat->Addr),cD (T3 cl) N3 nv=some m7:=by intro cl;kernel_rfl
theorem yX:bh N3 (N3.take 1) (aE nv):=dE 1#0
theorem Ai:∀(cl:Nat->Addr),cD (T4 cl) N4 nE=some nM:=by intro cl;kernel_rfl
theorem yw:bh N4 (N4.take 1) (aE nE):=dE 1#0
theorem wW:∀(cl:Nat->Addr),cD (T5 cl) N5 la=some ll:=by intro cl;kernel_rfl
theorem uY:bh N5 (N5.take 0) (aE la):=dE 1#0
theorem Cq:∀(cl:Nat->Addr),cD (T6 cl) N6 pD=some pZ:=by intro cl;kernel_rfl
theorem Al:bh N6 (N6.take 2) (aE pD):=dE 1#0
theorem zE:∀(cl:Nat->Addr),cD (T7 cl) N7 nH=some nD:=by intro cl;kernel_rfl
theorem yO:bh N7 (N7.take 2) (aE nH):=dE 1#0
theorem AO:∀(cl:Nat->Addr),cD (T8 cl) N8 nL=some ng:=by intro cl;kernel_rfl
theorem zt:bh N8 (N8.take 2) (aE nL):=dE 1#0
theorem Am:∀(cl:Nat->Addr),cD (T9 cl) N9 nG=some nC:=by intro cl;kernel_rfl
theorem y4:bh N9 (N9.take 2) (aE nG):=dE 1#0
theorem Ck:∀(cl:Nat->Addr),cD (T10 cl) N10 pN=some vq:=by intro cl;kernel_rfl
theorem z7:bh N10 (N10.take 2) (aE pN):=dE 1#0
theorem Ce:∀(cl:Nat->Addr),cD (T11 cl) N11 pJ=some pO:=by intro cl;kernel_rfl
theorem AL:bh N11 (N11.take 2) (aE pJ):=dE 1#0
theorem AC:∀(cl:Nat->Addr),cD (T12 cl) N12 nh=some nR:=by intro cl;kernel_rfl
theorem yV:bh N12 (N12.take 3) (aE nh):=dE 1#0
theorem yF:∀(cl:Nat->Addr),cD (T13 cl) N13 l9=some mn:=by intro cl;kernel_rfl
theorem wV:bh N13 (N13.take 2) (aE l9):=dE 1#0
theorem Cc:∀(cl:Nat->Addr),cD (T14 cl) N14 pP=some pU:=by intro cl;kernel_rfl
theorem Ah:bh N14 (N14.take 2) (aE pP):=dE 1#0
theorem AB:∀(cl:Nat->Addr),cD (T15 cl) N15 m6=some tD:=by intro cl;kernel_rfl
theorem yu:bh N15 (N15.take 3) (aE m6):=dE 1#0
theorem Cj:∀(cl:Nat->Addr),cD (T16 cl) N16 pC=some pW:=by intro cl;kernel_rfl
theorem AV:bh N16 (N16.take 3) (aE pC):=dE 1#0
theorem yP:∀(cl:Nat->Addr),cD (T17 cl) N17 my=some qw:=by intro cl;kernel_rfl
theorem wX:bh N17 (N17.take 3) (aE my):=dE 1#0
theorem tP:∀(cl:Nat->Addr),cD (T18 cl) N18 jz=some ib:=by intro cl;kernel_rfl
theorem rY:bh N18 (N18.take 1) (aE jz):=dE 1#0
theorem A2:∀(cl:Nat->Addr),cD (T19 cl) N19 nq=some tm:=by intro cl;kernel_rfl
theorem zl:bh N19 (N19.take 2) (aE nq):=dE 1#0
theorem uZ:∀(cl:Nat->Addr),cD (T20 cl) N20 ke=some gG:=by intro cl;kernel_rfl
theorem tR:bh N20 (N20.take 3) (aE ke):=dE 1#0
theorem HN :∀ (cl:Nat->Addr),∀ g φ,cB ⟨(T21 cl).D,(T21 cl).C,[("piece_at",g,φ)],(T21 cl).H,(T21 cl).mkr,(T21 cl).Z⟩ 80 (["rising","piece_at","found","met","least","piece","one"]:List Str) (aE qT).names (cq qT)=some (As g φ):=by intro cl;intro g φ;kernel_rfl
theorem El:bh N21 (N21.take 2) (aE qT):=dE 1#0
theorem yY:∀(cl:Nat->Addr),cD (T22 cl) N22 mD=some rA:=by intro cl;kernel_rfl
theorem xo:bh N22 (N22.take 1) (aE mD):=dE 1#0
theorem ze :∀ (cl:Nat->Addr),cD ⟨(T23 cl).D,(T23 cl).C,(T23 cl).L,(T23 cl).H,true,(T23 cl).Z.to "<lambda>"⟩ N23 jJ=some qN:=by intro cl;kernel_rfl
theorem wO:bh N23 (N23.take 2) (aE jJ):=dE 1#0
theorem wt:∀(cl:Nat->Addr),cD (T24 cl) N24 kl=some kj:=by intro cl;kernel_rfl
theorem tW:bh N24 (N24.take 2) (aE kl):=dE 1#0
theorem Bv :∀ (cl:Nat->Addr),∀ g φ,cB ⟨(T25 cl).D,(T25 cl).C,[("times",g,φ)],(T25 cl).H,(T25 cl).mkr,(T25 cl).Z⟩ 80 (["many","times","rows","i"]:List Str) (aE lY).names (cq lY)=some (wk g φ):=by intro cl;intro g φ;kernel_rfl
theorem z8:bh N25 (N25.take 2) (aE lY):=dE 1#0
theorem xp :∀ (cl:Nat->Addr),cD ⟨(T26 cl).D,(T26 cl).C,(T26 cl).L,(T26 cl).H,true,(T26 cl).Z.to "<lambda>"⟩ N26 ja=some oV:=by intro cl;kernel_rfl
theorem wd:bh N26 (N26.take 2) (aE ja):=dE 1#0
theorem BJ:∀(cl:Nat->Addr),cD (T27 cl) N27 pv=some pI:=by intro cl;kernel_rfl
theorem An:bh N27 (N27.take 2) (aE pv):=dE 1#0
theorem y0 :∀ (cl:Nat->Addr),cD ⟨(T28 cl).D,(T28 cl).C,(T28 cl).L,(T28 cl).H,true,(T28 cl).Z.to "<lambda>"⟩ N28 gM=some jK:=by intro cl;kernel_rfl
theorem wU :∀ (cl:Nat->Addr),(xc 80 80).b ⟨("rest_group",eh)::(T28 cl).D,(T28 cl).C,(T28 cl).L,(T28 cl).H,(T28 cl).mkr,(T28 cl).Z⟩ ⟨(T28 cl).Z.R,clR [1,2]⟩ N28 (aE gM).names (cq gM)=some jR:=by intro cl;kernel_rfl
theorem oW:bh N28 (N28.take 2) (aE gM):=dE 1#0
theorem Jg:∀(cl:Nat->Addr),cD (T29 cl) N29 wq=some wb:=by intro cl;kernel_rfl
theorem Fm:bh N29 (N29.take 2) (aE wq):=dE 1#0
theorem sj:∀(cl:Nat->Addr),cD (T30 cl) N30 iY=some lK:=by intro cl;kernel_rfl
theorem qO:bh N30 (N30.take 2) (aE iY):=dE 1#0
theorem xh:∀(cl:Nat->Addr),cD (T31 cl) N31 kY=some kZ:=by intro cl;kernel_rfl
theorem we:bh N31 (N31.take 2) (aE kY):=dE 1#0
theorem rC:∀(cl:Nat->Addr),cD (T32 cl) N32 iF=some kD:=by intro cl;kernel_rfl
theorem pH:bh N32 (N32.take 2) (aE iF):=dE 1#0
theorem oN:∀(cl:Nat->Addr),cD (T33 cl) N33 gX=some jE:=by intro cl;kernel_rfl
theorem nN:bh N33 (N33.take 2) (aE gX):=dE 1#0
theorem JT:∀(cl:Nat->Addr),cD (T34 cl) N34 yC=some DF:=by intro cl;kernel_rfl
theorem GF:bh N34 (N34.take 2) (aE yC):=dE 1#0
theorem Pq:∀(cl:Nat->Addr),cD (T35 cl) N35 BQ=some HL:=by intro cl;kernel_rfl
theorem Lz:bh N35 (N35.take 2) (aE BQ):=dE 1#0
theorem Lj:∀(cl:Nat->Addr),cD (T36 cl) N36 yZ=some CB:=by intro cl;kernel_rfl
theorem IJ:bh N36 (N36.take 2) (aE yZ):=dE 1#0
theorem yW:∀(cl:Nat->Addr),cD (T37 cl) N37 lZ=some jQ:=by intro cl;kernel_rfl
theorem wK:bh N37 (N37.take 4) (aE lZ):=dE 1#0
theorem Hu:∀(cl:Nat->Addr),cD (T38 cl) N38 nz=some nY:=by intro cl;kernel_rfl
theorem E6 :∀ (cl:Nat->Addr),(xc 80 80).b ⟨("lifted",dU)::(T38 cl).D,(T38 cl).C,(T38 cl).L,(T38 cl).H,(T38 cl).mkr,(T38 cl).Z⟩ ⟨(T38 cl).Z.R,clR [1,2]⟩ N38 (aE nz).names (cq nz)=some qK:=by intro cl;kernel_rfl
theorem yh:bh N38 (N38.take 3) (aE nz):=dE 1#0
theorem Cd:∀(cl:Nat->Addr),cD (T39 cl) N39 pG=some uW:=by intro cl;kernel_rfl
theorem Ax:bh N39 (N39.take 2) (aE pG):=dE 1#0
def o3:Stmt:=(cq fW).getD 6 (.Pass ⟨0,0,0,0⟩)
theorem xl:cq fW=og 171 o3:=by kernel_rfl
theorem Um:∀(cl:Nat->Addr),cS (T40 cl) 80 tV (aE fW).names o3=some mzR:=by intro cl;kernel_rfl
theorem va:ya (aE fW).names=true:=by decide +kernel
theorem vU:bh N40 (N40.take 1) (aE fW):=dE 1#0
theorem yK :∀ (cl:Nat->Addr),cD ⟨(T41 cl).D,(T41 cl).C,(T41 cl).L,(T41 cl).H,true,(T41 cl).Z.to "<lambda>"⟩ N41 jN=some l4:=by intro cl;kernel_rfl
theorem xg:bh N41 (N41.take 3) (aE jN):=dE 1#0
theorem QO:∀(cl:Nat->Addr),cD (T42 cl) N42 Hw=some Mc:=by intro cl;kernel_rfl
theorem NT:bh N42 (N42.take 1) (aE Hw):=dE 1#0
abbrev dL:List (Str×Stmt):=("_law_cell_at",lg)::("_law_state",nS)::("_law_take",pq)::("_law_clock",nv)::("_law_flips",nE)::("_law_quarter",la)::("_law_both",pD)::("_law_named",nH)::("_law_order",nL)::("_law_group",nG)::("_law_span",pN)::("_law_part",pJ)::("_law_sides",nh)::("_law_number",l9)::("_law_rest",pP)::("_law_steps",m6)::("_law_some",pC)::("_law_rounds",my)::("_law_lift_case",jz)::("_law_along",nq)::("_law_due_lift",ke)::("pieces",qT)::("all_things",mD)::("side_numbers",kl)::("table_of",lY)::("is_level",pv)::("places",wq)::("are_all_things",iY)::("comes_round",kY)::("is_number_below",iF)::("are_numbers_below",gX)::("roads",yC)::("span",BQ)::("along",yZ)::("is_to_lift",lZ)::("lifted",nz)::("_law_same",pG)::("_law_refused",fW)::("law",Hw) :: []
variable{w:World}{mg:Str->Option Value}{h:Heap}
theorem chain{P:Program}{K:ao}{k23 p23:Addr}{k26 p26:Addr}{k28 p28:Addr}{k41 p41:Addr}{cl:Nat->Addr}(X:K.In h)(Gn:h.Ns mainGlobals mg)(B:∀x∈jk,bE K mainGlobals x=some none){wA:Addr}(Rk:AK K mg cl wA [1,2])(hC:∀y i,(clR [1,2]).lookup y=some i->mg y=some (.ref (cl i))/\exB K (cl i)=true)(g23:mainGlobals≠p23)(g26:mainGlobals≠p26)(g28:mainGlobals≠p28)(g41:mainGlobals≠p41)(nd:([p23,p26,p28,p41]:List Addr).Nodup)
  (DA:NQ K dL) (D23:k9 K "left_sides" jJ k23 p23) (D26:k9 K "right_sides" ja k26 p26) (D28:k9 K "rest_group" gM k28 p28) (D41:k9 K "_law_lifted" jN k41 p41):Ch P w K mg 21#0 (T42 cl) 49:=by
 obtain⟨D0,D1,D2,D3,D4,D5,D6,D7,D8,D9,D10,D11,D12,D13,D14,D15,D16,D17,D18,D19,D20,D21,D22,D24,D25,D27,D29,D30,D31,D32,D33,D34,D35,D36,D37,D38,D39,D40,D42,_⟩:=DA;have C0:Ch P w K mg 21#0 (T0 cl) 0:=⟨fun _ _ _ _ _=>TOk.nil X Gn B,(fun _ _ _ _ _ _ _ z=>by cases z),(fun _ _ _ _ _ _ _ z=>by cases z)⟩;have nd:((21#0:List (Addr×Str)).map 2#2).Nodup:=by simpa using nd
 have C1:Ch P w K mg _ (T1 cl) 1:=C0.dfn C0.o rfl X Gn D0 vQ 3#5 (xi cl);have C2:Ch P w K mg _ (T2 cl) 2:=C1.dfn C1.o rfl X Gn D1 zm 3#5 (Aw cl);have C3:Ch P w K mg _ (T3 cl) 3:=C2.dfn C2.o rfl X Gn D2 AA 3#5 (BC cl);have C4:Ch P w K mg _ (T4 cl) 4:=C3.dfn C3.o rfl X Gn D3 yX 23#1 (Ak cl);have C5:Ch P w K mg _ (T5 cl) 5:=C4.dfn C4.o rfl X Gn D4 yw 23#1 (Ai cl);have C6:Ch P w K mg _ (T6 cl) 6:=C5.dfn C5.o rfl X Gn D5 uY (λ_ _ _ _ _ _=>us0 rfl) (wW cl);have C7:Ch P w K mg _ (T7 cl) 7:=C6.dfn C6.o rfl X Gn D6 Al 3#5 (Cq cl);have C8:Ch P w K mg _ (T8 cl) 8:=C7.dfn C7.o rfl X Gn D7 yO 3#5 (zE cl);have C9:Ch P w K mg _ (T9 cl) 9:=C8.dfn C8.o rfl X Gn D8 zt 3#5 (AO cl);have C10:Ch P w K mg _ (T10 cl) 10:=C9.dfn C9.o rfl X Gn D9 y4 3#5 (Am cl);have C11:Ch P w K mg _ (T11 cl) 11:=C10.dfn C10.o rfl X Gn D10 z7 3#5 (Ck cl);have C12:Ch P w K mg _ (T12 cl) 12:=C11.dfn C11.o rfl X Gn D11 AL 3#5 (Ce cl);have C13:Ch P w K mg _ (T13 cl) 13:=C12.dfn C12.o rfl X Gn D12 yV 15#1 (AC cl);have C14:Ch P w K mg _ (T14 cl) 14:=C13.dfn C13.o rfl X Gn D13 wV 3#5 (yF cl);have C15:Ch P w K mg _ (T15 cl) 15:=C14.dfn C14.o rfl X Gn D14 Ah 3#5 (Cc cl);have C16:Ch P w K mg _ (T16 cl) 16:=C15.dfn C15.o rfl X Gn D15 yu 15#1 (AB cl);have C17:Ch P w K mg _ (T17 cl) 17:=C16.dfn C16.o rfl X Gn D16 AV 15#1 (Cj cl);have C18:Ch P w K mg _ (T18 cl) 18:=C17.dfn C17.o rfl X Gn D17 wX 15#1 (yP cl);have C19:Ch P w K mg _ (T19 cl) 19:=C18.dfn C18.o rfl X Gn D18 rY 23#1 (tP cl);have C20:Ch P w K mg _ (T20 cl) 20:=C19.dfn C19.o rfl X Gn D19 zl 3#5 (A2 cl);have C21:Ch P w K mg _ (T21 cl) 21:=C20.dfn C20.o rfl X Gn D20 tR 15#1 (uZ cl);have C22:Ch P w K mg _ (T22 cl) 21:=C21.cls rfl rfl X Gn D21 El 3#5 (HN cl);have C23:Ch P w K mg _ (T23 cl) 22:=C22.dfn C22.o rfl X Gn D22 xo 23#1 (yY cl);have C24:Ch P w K mg _ (T24 cl) 25:=C23.lam_ rfl rfl 0#8 nd g23 X Gn D23 wO 3#5 (ze cl);have C25:Ch P w K mg _ (T25 cl) 26:=C24.dfn C24.o rfl X Gn D24 tW 3#5 (wt cl);have C26:Ch P w K mg _ (T26 cl) 26:=C25.cls rfl rfl X Gn D25 z8 3#5 (Bv cl);have C27:Ch P w K mg _ (T27 cl) 29:=C26.lam_ rfl rfl 0#8 nd g26 X Gn D26 wd 3#5 (xp cl);have C28:Ch P w K mg _ (T28 cl) 30:=C27.dfn C27.o rfl X Gn D27 An 3#5 (BJ cl);have A28:=C28.lam_ rfl rfl 0#8 nd g28 X Gn D28 oW 3#5 (y0 cl);have C29:Ch P w K mg _ (T29 cl) 34:=A28.raise (clR [1,2]) rfl hC X Gn (k9.def (M:=⟨P,w,⟨K,[],[],[],[]⟩,mg,h,none⟩) D28) oW 3#5 (wU cl);have C30:Ch P w K mg _ (T30 cl) 35:=C29.dfn C29.o rfl X Gn D29 Fm 3#5 (Jg cl);have C31:Ch P w K mg _ (T31 cl) 36:=C30.dfn C30.o rfl X Gn D30 qO 3#5 (sj cl);have C32:Ch P w K mg _ (T32 cl) 37:=C31.dfn C31.o rfl X Gn D31 we 3#5 (xh cl);have C33:Ch P w K mg _ (T33 cl) 38:=C32.dfn C32.o rfl X Gn D32 pH 3#5 (rC cl);have C34:Ch P w K mg _ (T34 cl) 39:=C33.dfn C33.o rfl X Gn D33 nN 3#5 (oN cl);have C35:Ch P w K mg _ (T35 cl) 40:=C34.dfn C34.o rfl X Gn D34 GF 3#5 (JT cl);have C36:Ch P w K mg _ (T36 cl) 41:=C35.dfn C35.o rfl X Gn D35 Lz 3#5 (Pq cl);have C37:Ch P w K mg _ (T37 cl) 42:=C36.dfn C36.o rfl X Gn D36 IJ 3#5 (Lj cl);have C38:Ch P w K mg _ (T38 cl) 43:=C37.dfn C37.o rfl X Gn D37 wK (λ_ _ _ _ _ _=>us4 λ_ _ _ _=>rfl) (yW cl);have A38:=C38.dfn C38.o rfl X Gn D38 yh 15#1 (Hu cl);have C39:Ch P w K mg _ (T39 cl) 45:=A38.raise (clR [1,2]) rfl hC X Gn D38 yh 15#1 (E6 cl);have C40:Ch P w K mg _ (T40 cl) 46:=C39.dfn C39.o rfl X Gn D39 Ax 3#5 (Cd cl);have C41:Ch P w K mg _ (T41 cl) 46:=C40.refd rfl X Gn D40 vU 23#1 va xl (Um cl) Rk;have C42:Ch P w K mg _ (T42 cl) 49:=C41.lam_ rfl rfl 0#8 nd g41 X Gn D41 xg 15#1 (yK cl);exact C42
variable{q:Program}
theorem all_mk {l:oG}{K:ao}{fa:Addr}{k23 p23:Addr}{k26 p26:Addr}{k28 p28:Addr}{k41 p41:Addr} (X:K.In h) (Gn:h.Ns mainGlobals mg) (hfa:mg "law"=some (.ref fa)) (B :∀ x∈jk,bE K mainGlobals x=some none)  {c0 c1 c2 c3 c4 c5 c6 wA:Addr} (nc0:bE K mainGlobals "TooMany"=some (some (.ref c0))) (nc1:bE K mainGlobals "NotLevel"=some (some (.ref c1))) (nc2:bE K mainGlobals "NoLift"=some (some (.ref c2))) (nc3:bE K mainGlobals "NotPlain"=some (some (.ref c3))) (nc4:bE K mainGlobals "NoName"=some (some (.ref c4))) (nc5:bE K mainGlobals "BadNote"=some (some (.ref c5))) (nc6:bE K mainGlobals "NoTwist"=some (some (.ref c6))) (ncw:bE K mainGlobals "WalkError"=some (some (.ref wA))) (rb:PY K [c0,c1,c2,c3,c4,c5,c6] wA [1,2]=true) (g23:mainGlobals≠p23) (g26:mainGlobals≠p26) (g28:mainGlobals≠p28) (g41:mainGlobals≠p41) (nd:([p23,p26,p28,p41]:List Addr).Nodup)
  (DA:NQ K dL) (D23:k9 K "left_sides" jJ k23 p23) (D26:k9 K "right_sides" ja k26 p26) (D28:k9 K "rest_group" gM k28 p28) (D41:k9 K "_law_lifted" jN k41 p41) {d23:DefRec} (n23:K.lookup p23=none) (r23:(fw q).find? (fun e=>e.name==("left_sides":Str))=some d23) {d26:DefRec} (n26:K.lookup p26=none) (r26:(fw q).find? (fun e=>e.name==("right_sides":Str))=some d26) {d28:DefRec} (n28:K.lookup p28=none) (r28:(fw q).find? (fun e=>e.name==("rest_group":Str))=some d28) {d41:DefRec} (n41:K.lookup p41=none) (r41:(fw q).find? (fun e=>e.name==("_law_lifted":Str))=some d41) :
  ∃ (tabs:List (Addr×Str)) (fd:FuncData) (sp:Sp),(∀ r∈tabs,K.lookup r.1=none /\ ∃ x d c,(fw q).find? (fun e=>e.name==x)=some d/\PySem.W.tabIn K x=some (c,r.1))/\29#2 /\
   (∀ base:Heap,K.In base->base.Ns mainGlobals mg->gh mg base->jA l.prog w K mg base CX0 50 fa fd ["script"] sp) /\ ∀ (H:Hp) (a:Addr) (ns:List Int),ns.length<=63->(∀ r∈tabs,Cm H r.1 r.2)->SqL K H a 8#6->sp [.ref a] H (fun v _=>v=.bl true) fun _ _ _=>False:=by
 have DB:=DA;obtain⟨D0,D1,D2,D3,D4,D5,D6,D7,D8,D9,D10,D11,D12,D13,D14,D15,D16,D17,D18,D19,D20,D21,D22,D24,D25,D27,D29,D30,D31,D32,D33,D34,D35,D36,D37,D38,D39,D40,D42,_⟩:=DA;have DA:=DB;obtain⟨Rk,hC⟩:=Ny (rz:= [1,2]) X Gn nc0 nc1 nc2 nc3 nc4 nc5 nc6 ncw rb;have CH:=chain (P:=l.prog) (w:=w) X Gn B   Rk hC g23 g26 g28 g41 nd DA D23 D26 D28 D41;obtain⟨fd,h1,h2⟩:=Ot (l:=l) (w:=w) (tabs := 21#0) X Gn hfa D42 NT (fun _ _ _ _ _ _=>us1 fun _=>rfl) rfl (fun base hbb=>CH.o [] [] [] base hbb) (QO _);refine⟨21#0,fd,_,?_,h1,h2,fun H a ns hl hT hS=>RT hT hS fun S h1 h2=>H9 ns hl S h1 h2⟩;intro r hr;simp only[a9,oC,_root_.or_false]at hr;rcases hr with rfl |rfl |rfl |rfl
 .exact⟨n23,_,_,_,r23,D23.tab⟩
 .exact⟨n26,_,_,_,r26,D26.tab⟩
 .exact⟨n28,_,_,_,r28,D28.tab⟩
 .exact⟨n41,_,_,_,r41,D41.tab⟩
theorem walk{l:oG}{loose:List Str}{XP:(Str->Option Value)->Heap->Prop}{YP:World->Heap->Prop}{d:DefRec}{K:Params->ao}(hn:l.most=some 63)(hdf:d.params.defaults=[])
  (hY:∀(w:World) (h:Heap),YP w h->(K w.params).In h)
  (F: ∀(w:World) (mg:Str->Option Value) (fa:Addr) (h:Heap),(K w.params).In h->h.Ns mainGlobals mg->mg d.name=some (.ref fa) -> ∃(tabs:List (Addr×Str)) (fd:FuncData) (sp:Sp),
   (∀ r∈tabs,(K w.params).lookup r.1=none /\ ∃ x d c,(fw q).find? (fun e=>e.name==x)=some d/\PySem.W.tabIn (K w.params) x=some (c,r.1))/\29#2 /\
   (∀ base:Heap,(K w.params).In base->base.Ns mainGlobals mg->gh mg base->jA l.prog w (K w.params) mg base CX0 50 fa fd ["script"] sp) /\ ∀ (H:Hp) (a:Addr) (ns:List Int),ns.length<=63->(∀ r∈tabs,Cm H r.1 r.2)->SqL (K w.params) H a (ns.map V.int)->sp [.ref a] H (fun v _=>v = .bl true) fun _ _ _=>False) :
  PySem.W.WalkO q loose XP YP l.row.toRowW d [] (λf vs=>PySem.call f vs):=
 FZ (n:=63) (k:=50) (x:="script") hn 0#1 hdf ⟨rfl,by decide,by decide,rfl⟩ hY F
end _W
open PySem PySem.W PyProof.Rows
namespace PySem.W.Fast
theorem tw1889090494636841246:True:=trivial
theorem tw14748087434331206469:True:=trivial
theorem tw14148669349626284615:True:=trivial
theorem tw17787024811412037949:True:=trivial
theorem tw16421107376318854336:True:=trivial
theorem tw7141732977904989510:True:=trivial
theorem tw14898091049348989773:True:=trivial
theorem tw4097069041901657319:True:=trivial
theorem tw2512496149968385810:True:=trivial
theorem tw2846033474653867626:True:=trivial
theorem tw3145975600858178019:True:=trivial
theorem tw4719855591532193132:True:=trivial
theorem tw16864632538757039796:True:=trivial
theorem tw8194079494979176265:True:=trivial
theorem tw14288556653015359203:True:=trivial
theorem tw2222504198149881668:True:=trivial
theorem tw2578001171641016898:True:=trivial
theorem tw6562061304268362387:True:=trivial
theorem tw3000989726698995440:True:=trivial
theorem tw13152011246817115296:True:=trivial
theorem tw5031469700444211294:True:=trivial
theorem tw6935837074958080776:True:=trivial
theorem tw4278112412109550289:True:=trivial
theorem tw17410246944186722168:True:=trivial
theorem tw9456888957736164004:True:=trivial
theorem tw13808396448272108945:True:=trivial
theorem tw14911101197443674754:True:=trivial
theorem tw8752308333273631111:True:=trivial
theorem tw16943614142370884683:True:=trivial
theorem tw13499295665750103515:True:=trivial
theorem tw16586956119132108667:True:=trivial
theorem tw5376247111299889665:True:=trivial
theorem tw2492205519617286685:True:=trivial
theorem tw18021449551715251828:True:=trivial
theorem tw189209998116694007:True:=trivial
theorem tw316707467777674512:True:=trivial
theorem tw12798015734944191493:True:=trivial
theorem tw6703260796220018435:True:=trivial
theorem tw11898218018279040867:True:=trivial
theorem tw539228414015380341:True:=trivial
theorem tw15042000775315237301:True:=trivial
theorem tw653112583571558654:True:=trivial
theorem tw12493315444249567022:True:=trivial
theorem tw1678266951775729084:True:=trivial
theorem tw9859366130349806807:True:=trivial
theorem tw11304223565454457960:True:=trivial
theorem tw3915321365676499134:True:=trivial
theorem tw1502384587761168324:True:=trivial
theorem tw10748119901215452882:True:=trivial
theorem tw6388068531827725097:True:=trivial
theorem tw15630214003084583228:True:=trivial
theorem tw6524398790303522538:True:=trivial
theorem tw9139247364319533174:True:=trivial
theorem tw14610150331058075488:True:=trivial
theorem tw10805246355763951552:True:=trivial
theorem tw187490108229461785:True:=trivial
theorem tw477554212436018957:True:=trivial
theorem tw10535698444437228227:True:=trivial
theorem tw16076952751594815157:True:=trivial
theorem tw3333144230644456351:True:=trivial
theorem tw8028561041831365004:True:=trivial
theorem tw16529851058594644139:True:=trivial
theorem tw15769121169119084829:True:=trivial
theorem tw9803456153870702731:True:=trivial
theorem tw2606793660433447735:True:=trivial
theorem tw14978256803504912074:True:=trivial
theorem tw17263007873116091731:True:=trivial
theorem tw4059734270786253534:True:=trivial
theorem tw14687409395240024900:True:=trivial
theorem tw11065973110876440094:True:=trivial
theorem tw853142805114973192:True:=trivial
theorem tw11301240210276813744:True:=trivial
theorem tw9305782412326248184:True:=trivial
theorem tw5315333068173930855:True:=trivial
theorem tw3567249316219385241:True:=trivial
theorem tw8755663696920805622:True:=trivial
theorem tw12389604208575179588:True:=trivial
theorem tw17356089356419952961:True:=trivial
theorem tw6427257902184253234:True:=trivial
theorem tw9595548807487785595:True:=trivial
theorem tw15278600781613894986:True:=trivial
theorem tw11578485579790165188:True:=trivial
theorem tw17978607062820291430:True:=trivial
theorem tw4201871526835315671:True:=trivial
theorem tw6779541656305349848:True:=trivial
theorem tw13466657818224929778:True:=trivial
theorem tw16023631496239495013:True:=trivial
theorem tw13751780142330654672:True:=trivial
theorem tw4253240444308292272:True:=trivial
theorem tw1051534824759329438:True:=trivial
theorem tw83333711443173552:True:=trivial
theorem tw14782949481711597371:True:=trivial
theorem tw3130180979959355118:True:=trivial
theorem tw10361930594854545182:True:=trivial
theorem tw3130889474182664866:True:=trivial
theorem tw11861819408477207166:True:=trivial
theorem tw877397135506450121:True:=trivial
theorem tw16042124359889218947:True:=trivial
theorem tw16262175255894405195:True:=trivial
theorem tw14068237729701884465:True:=trivial
theorem tw3813228669468557895:True:=trivial
theorem tw17334301013725179762:True:=trivial
theorem tw10792363247333600289:True:=trivial
theorem tw792720376043555462:True:=trivial
theorem tw15414535197343617957:True:=trivial
theorem tw154426464881759234:True:=trivial
theorem tw17413475482600925333:True:=trivial
theorem tw5445723967808746855:True:=trivial
theorem tw3699085033912113234:True:=trivial
theorem tw14118514785476140484:True:=trivial
theorem tw11841510244869940706:True:=trivial
theorem tw3418743549145905980:True:=trivial
theorem tw17033542013869585800:True:=trivial
theorem tw7339822020134344451:True:=trivial
theorem tw11599924625010710481:True:=trivial
theorem tw8477204063068728602:True:=trivial
theorem tw2729763198330452049:True:=trivial
theorem tw12334759327076065114:True:=trivial
theorem tw8985332398198834584:True:=trivial
theorem tw13897712333948415277:True:=trivial
theorem tw5183806721979604505:True:=trivial
theorem tw13775770434674297819:True:=trivial
theorem tw7805127837915944703:True:=trivial
theorem tw9408780884144264451:True:=trivial
theorem tw15399220679258711977:True:=trivial
theorem tw3631456967215682472:True:=trivial
theorem tw13901173507599179541:True:=trivial
theorem tw8696700716342109778:True:=trivial
theorem tw4031985040267547794:True:=trivial
theorem tw13123685731142293353:True:=trivial
theorem tw3883776646124216706:True:=trivial
theorem tw14807739263364183454:True:=trivial
theorem tw7038647290395889246:True:=trivial
theorem tw10131281823723474005:True:=trivial
theorem tw8099194997540405889:True:=trivial
theorem tw9382970857513221569:True:=trivial
theorem tw8260955523563193296:True:=trivial
theorem tw3817917540592964735:True:=trivial
theorem tw533497850810009344:True:=trivial
end PySem.W.Fast
set_option maxRecDepth 100000 in
set_option maxHeartbeats 0 in
theorem PySem.Challenge.cw_groupwalks_k61_walks_lifted_holds : PySem.Challenge.rw_groupwalks_k61_walks_lifted.Holds := by
 w_on;o_law;k_head;(case hw=>w_witness2)
 k_fill
 refine _W.walk (l:=PySem.Challenge.rw_groupwalks_k61_walks_lifted) rfl rfl (λw h f8=>PySem.W.km_in_of f8) ?F
 case F=>
  intro w mg fa h KX Gh hmg;refine' _W.all_mk KX Gh hmg ?B  ?nc0 ?nc1 ?nc2 ?nc3 ?nc4 ?nc5 ?nc6 ?ncw ?rb ?g23 ?g26 ?g28 ?g41 ?nd ?DA (_G.ud ?a23 ?l23 ?c23 ?k23 ?e23 ?u23 ?v23 ?w23 ?x23 ?y23 ?z23 ?t23) (_G.ud ?a26 ?l26 ?c26 ?k26 ?e26 ?u26 ?v26 ?w26 ?x26 ?y26 ?z26 ?t26) (_G.ud ?a28 ?l28 ?c28 ?k28 ?e28 ?u28 ?v28 ?w28 ?x28 ?y28 ?z28 ?t28) (_G.ud ?a41 ?l41 ?c41 ?k41 ?e41 ?u41 ?v41 ?w41 ?x41 ?y41 ?z41 ?t41) ?n23 ?r23 ?n26 ?r26 ?n28 ?r28 ?n41 ?r41
  (case nc0=>k_is)
  (case nc1=>k_is)
  (case nc2=>k_is)
  (case nc3=>k_is)
  (case nc4=>k_is)
  (case nc5=>k_is)
  (case nc6=>k_is)
  (case ncw=>k_is)
  (case rb=>kernel_rfl)
  case B=>
   intro x hx;simp only[_G.jk,a9,oC,or_false]at hx;rcases hx with rfl|rfl|rfl|rfl|rfl|rfl|rfl|rfl|rfl|rfl|rfl|rfl|rfl|rfl|rfl|rfl|rfl|rfl|rfl|rfl
   all_goals k_is
  case DA=>
   iterate 39 (refine' And.intro (_G.Nz ?a ?l ?c ?k) ?_;(case a=>k_is);(case l=>k_is);(case c=>k_is);(case k=>k_is))
   trivial
  (case a23=>k_is);(case l23=>k_is);(case c23=>k_is);(case k23=>k_is)
  (case e23=>k_is);(case u23=>rfl);(case v23=>rfl);(case w23=>rfl);(case x23=>rfl);(case y23=>rfl);(case z23=>rfl);(case t23=>decide)
  (case a26=>k_is);(case l26=>k_is);(case c26=>k_is);(case k26=>k_is)
  (case e26=>k_is);(case u26=>rfl);(case v26=>rfl);(case w26=>rfl);(case x26=>rfl);(case y26=>rfl);(case z26=>rfl);(case t26=>decide)
  (case a28=>k_is);(case l28=>k_is);(case c28=>k_is);(case k28=>k_is)
  (case e28=>k_is);(case u28=>rfl);(case v28=>rfl);(case w28=>rfl);(case x28=>rfl);(case y28=>rfl);(case z28=>rfl);(case t28=>decide)
  (case a41=>k_is);(case l41=>k_is);(case c41=>k_is);(case k41=>k_is)
  (case e41=>k_is);(case u41=>rfl);(case v41=>rfl);(case w41=>rfl);(case x41=>rfl);(case y41=>rfl);(case z41=>rfl);(case t41=>decide)
  (case g23=>decide)
  (case g26=>decide)
  (case g28=>decide)
  (case g41=>decide)
  (case nd=>decide)
  (case n23=>kernel_rfl);(case r23=>rfl)
  (case n26=>kernel_rfl);(case r26=>rfl)
  (case n28=>kernel_rfl);(case r28=>rfl)
  (case n41=>kernel_rfl);(case r41=>rfl)
