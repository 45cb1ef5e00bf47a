import PyProof.Rows.All
import Wide.All
import OpenK.AllK
import Wide.FinOn
import Lean
import PyProof.EqAt
import PyProof.EqKinds
import PyProof.TupleCall
import KE.KSortTup
import PyProof.EnumStmt
import PyProof.EnumMake
import PyProof.EnumFor
import PyProof.ZipIter
import PyProof.SetKind
import PyProof.Rows.SetFrom
import PyProof.CompFree
import PyProof.CompMap
import PyProof.Cells
import PyProof.ListMulRoad
import PyProof.ConsumeWalk
import PyProof.TupleOfGen
import PyProof.ListRange
import PySem.Challenge.RW_groupwalks_k56_whole_two_steps
set_option bootstrap.genMatcherCode false
set_option Elab.async false
set_option linter.all false
set_option maxRecDepth 100000
set_option maxHeartbeats 0
set_option compiler.postponeCompile true
set_option bootstrap.genMatcherCode false
set_option genSizeOfSpec false
set_option relaxedAutoImplicit false
set_option compiler.extract_closed false
open Option renaming some → a_,none → b_
open Bool renaming true → c_,false → d_
open PySem renaming Addr → e_,Value → f_,Shared → g_
open scoped BitVec
set_option hygiene false
local macro_rules
|`(0#0)=>`(by lia)
|`(0#1)=>`(var_eq rfl)
|`(0#2)=>`(by decide)
|`(0#3)=>`(by simp)
local macro_rules
|`(0#4)=>`(by assumption)
|`(0#5)=>`(ae 0)
|`(0#6)=>`(ae 2)
|`(0#7)=>`(S.length)
local macro_rules
|`(0#8)=>`(ae 3)
|`(0#9)=>`(ae 1)
|`(1#0)=>`(s.heap.objs.size)
|`(1#1)=>`(by decide +kernel)
local macro_rules
|`(1#2)=>`(a_ (tab m T))
|`(1#3)=>`(us.length)
|`(1#4)=>`(xs.length)
|`(1#5)=>`(model X.prog X.w)
local macro_rules
|`(1#6)=>`(au1._auto_1)
|`(1#7)=>`(model prog w)
|`(1#8)=>`(mC (.int 0))
|`(1#9)=>`(mC (.int 1))
local macro_rules
|`(2#0)=>`((e::es))
|`(2#1)=>`(ak _)
|`(2#2)=>`(mC (.int 2))
|`(2#3)=>`(by omega)
local macro_rules
|`(2#4)=>`(vs.length)
|`(2#5)=>`(a_ (.ref S.length))
|`(2#6)=>`(Pre.refl _)
|`(2#7)=>`(e_×Obj)
local macro_rules
|`(2#8)=>`(l.length)
|`(2#9)=>`(a.toList++b.toList)
|`(3#0)=>`(L.length)
|`(3#1)=>`(goF T ch)
local macro_rules
|`(3#2)=>`(tMA M.K ZJ)
|`(3#3)=>`(tM M.K ma)
|`(3#4)=>`(Ex.push _ _)
|`(3#5)=>`(items.size)
local macro_rules
|`(3#6)=>`(List Nat)
|`(3#7)=>`(Rs.flatten.length)
|`(3#8)=>`(tOf m T a b)
|`(3#9)=>`(λ_ _ _ _ _ _=>us2 λ_ _=>rfl)
local macro_rules
|`(4#0)=>`(aa (ae 2) ah)
|`(4#1)=>`(kvs.length)
|`(4#2)=>`(aa a ah)
|`(4#3)=>`(P.length)
local macro_rules
|`(4#4)=>`(es.size)
|`(4#5)=>`(ys.length)
|`(4#6)=>`(w.length)
|`(4#7)=>`(S1.length)
local macro_rules
|`(4#8)=>`((.int i))
|`(4#9)=>`(a_ (.obj g))
|`(5#0)=>`(arrOf Z')
|`(5#1)=>`((.inl rfl))
local macro_rules
|`(5#2)=>`(aa 0#5 (aa (ae 1) ah))
|`(5#3)=>`(aa (ae 4) ah)
|`(5#4)=>`(goF T (dQ m T a b p c))
|`(5#5)=>`(a_ (.int k))
local macro_rules
|`(5#6)=>`(by simp_all)
|`(5#7)=>`(S.gl hg)
|`(5#8)=>`(b9 _ _)
|`(5#9)=>`(a_ (.tup (ax w)))
local macro_rules
|`(6#0)=>`(a_ (.ref n))
|`(6#1)=>`((.ref 1#0))
|`(6#2)=>`((.int x,S1))
|`(6#3)=>`(tMA K a)
local macro_rules
|`(6#4)=>`(a_ (.ref r))
|`(6#5)=>`(aa (ae 5) ah)
|`(6#6)=>`(a_ (.int n))
|`(6#7)=>`((.nx,Y5,S'))
local macro_rules
|`(6#8)=>`(scope.names)
|`(6#9)=>`(ns.length)
|`(7#0)=>`(by rw[S.hm];omega)
|`(7#1)=>`(mC (.int 3))
local macro_rules
|`(7#2)=>`(Str×NameKind)
|`(7#3)=>`(tM M.K mb)
|`(7#4)=>`(Str×e_)
|`(7#5)=>`((· < ·))
local macro_rules
|`(7#6)=>`(xs.size)
|`(7#7)=>`(mFn cp (aa 0#5 ah))
|`(7#8)=>`(a_ (.int most))
|`(7#9)=>`(tMT M.K mt)
local macro_rules
|`(8#0)=>`((.int y,S2))
|`(8#1)=>`(ps.length)
|`(8#2)=>`(mC .non)
|`(8#3)=>`((x == ("__debug__":Str)))
local macro_rules
|`(8#4)=>`(mFn cp (aa 0#8 ah))
|`(8#5)=>`(R.e _ _ _ _ e2 X S)
|`(8#6)=>`(R.e _ _ _ _ e1 X S)
|`(8#7)=>`(s2.heap.objs.size)
local macro_rules
|`(8#8)=>`(by simp;lia)
|`(8#9)=>`(tM M.K m)
|`(9#0)=>`(a_ (.tup (ax (aq m))))
|`(9#1)=>`(⟨.bl _,H,I,rfl,q⟩)
local macro_rules
|`(9#2)=>`(a_ (.tup (ax c)))
|`(9#3)=>`(by exact cj 0#2 _)
|`(9#4)=>`(a_ (.int x))
|`(9#5)=>`(p1.trans p2)
local macro_rules
|`(9#6)=>`(X.env.locals)
|`(9#7)=>`(aa 1#8 ah)
|`(9#8)=>`(O.B _ 1#1)
|`(9#9)=>`(au2._auto_1)
local macro_rules
|`(10#0)=>`(by grind)
|`(10#1)=>`(S2.length)
|`(10#2)=>`((starEach (e::es) X.env=(d_,eval e X.env)::starEach es X.env))
|`(10#3)=>`(a_ (.tup [.int a,.int b]))
local macro_rules
|`(10#4)=>`(wOf m T a b p c)
|`(10#5)=>`(R.a _ _ _ _ e1 X S)
|`(10#6)=>`(by simpa using e)
|`(10#7)=>`(EP X pins σ Q)
local macro_rules
|`(10#8)=>`(er.mono k1 p1)
|`(10#9)=>`(by kernel_rfl)
|`(11#0)=>`(G++[a_ u])
|`(11#1)=>`(ns.map V.int)
local macro_rules
|`(11#2)=>`(k1.trans k2)
|`(11#3)=>`(I.ok.hd hc)
|`(11#4)=>`(bD.refl _)
|`(11#5)=>`(cb (mC (.bl d_)))
local macro_rules
|`(11#6)=>`(by simpa using c2)
|`(11#7)=>`(λz=>nomatch z)
|`(11#8)=>`(len_tab 0#1)
|`(11#9)=>`(k.mono p1 k1)
local macro_rules
|`(12#0)=>`(aa 0#8 5#3)
|`(12#1)=>`(aa 0#5 4#0)
|`(12#2)=>`(mY es ep t)
|`(12#3)=>`(aa 0#5 ah)
local macro_rules
|`(12#4)=>`(L1.length)
|`(12#5)=>`(blk X N' scope ZX ZS fp)
|`(12#6)=>`(by exact ai 2#3 0#2)
|`(12#7)=>`(by exact aI 0#4)
local macro_rules
|`(12#8)=>`(λx y=>r y<r x)
|`(12#9)=>`(λx y=>r x<r y)
|`(13#0)=>`((.ref S'.length))
|`(13#1)=>`(aa 0#9 ah)
local macro_rules
|`(13#2)=>`(h.objs.size)
|`(13#3)=>`(M1.length)
|`(13#4)=>`([.int (a:Nat),.int (b:Nat)])
|`(13#5)=>`(((backTo pos (starEach es X.env)).any (·.1)=d_))
local macro_rules
|`(13#6)=>`(ha _ s σ H _ I h)
|`(13#7)=>`(tups (gJ m T [a,b]))
|`(13#8)=>`(a_ (.ref (0#7+1)))
|`(13#9)=>`(by simpa using c)
local macro_rules
|`(14#0)=>`(ZY.toArray.size)
|`(14#1)=>`(mC (.bl c_))
|`(14#2)=>`((.inl (x:Int)))
|`(14#3)=>`(h'.objs.size)
local macro_rules
|`(14#4)=>`(⟨μ,S,G,x,S1,hr,er,e1,λY0 vx H1 p1 k1 ZZ rx =>?_⟩)
|`(14#5)=>`([Cell.lst (ax (ba 1 (m - 1)))])
|`(14#6)=>`(by simpa using h)
|`(14#7)=>`(a_ (.tup 13#4))
local macro_rules
|`(14#8)=>`(λ_ _ _ _ _ _=>us3 λ_ _ _=>rfl)
|`(14#9)=>`([1#2,a_ (.tup (ax st)),5#9])
|`(15#0)=>`((d_,eval a X.env))
|`(15#1)=>`(⟨by decide,by decide⟩)
local macro_rules
|`(15#2)=>`(M.to caps capv cds base)
|`(15#3)=>`(X1.length+X2.length)
|`(15#4)=>`((d_,eval b X.env))
|`(15#5)=>`(ZX.heap.objs.size)
local macro_rules
|`(15#6)=>`(starEach es X.env)
|`(15#7)=>`(rOf m T a b p c)
|`(15#8)=>`(a.toList.drop i)
|`(15#9)=>`(a_ (.int ((lOf m T a b p).length:Nat)))
local macro_rules
|`(16#0)=>`(vs.toArray.zip vs.toArray)
|`(16#1)=>`(aa 0#5 (aa 0#9 4#0))
|`(16#2)=>`(X.s₀.heap.objs.size)
|`(16#3)=>`(by simpa using hj)
local macro_rules
|`(16#4)=>`(I1.hok.fresh 2#1)
|`(16#5)=>`((.builtin "sorted"))
|`(16#6)=>`(I.hok.fresh 2#1)
|`(16#7)=>`((∃m,W 0 m σ H))
local macro_rules
|`(16#8)=>`(cP 0#1 0#1 e1)
|`(16#9)=>`(b.toList.drop j)
|`(17#0)=>`((.Tuple ts kt pt))
|`(17#1)=>`((.ListComp elt [⟨.Name x px,iter,ifs,0⟩] scope pos))
local macro_rules
|`(17#2)=>`(X.fn x=c_\/X.env.scope.names.lookup x=a_ .local)
|`(17#3)=>`((∀b o',s.heap.get? b=a_ o'->h'.get? b=a_ o'))
|`(17#4)=>`(baseOf s.heap H (frs X.stack))
|`(17#5)=>`(wpS_lift (fg ⟨rfl,?_⟩))
local macro_rules
|`(17#6)=>`([U.int 1,U.int (-1)])
|`(17#7)=>`((d_,eval e X.env))
|`(17#8)=>`(R.t _ _ _ _ e1 X S)
|`(17#9)=>`(s1.heap.objs.size)
local macro_rules
|`(18#0)=>`([(XA,("left_sides":Str)++".<locals>."++"<lambda>"),(XD,("rings":Str)++".<locals>."++"<lambda>"),(XB,("named":Str)++".<locals>."++"<lambda>")])
|`(18#1)=>`(by first | exact .inl (by decide +kernel) | exact .inr (by decide +kernel))
|`(18#2)=>`(thn (ha _ _ s σ H _ I h) λus s1 ⟨vs,H1,I1,r1,q1⟩ =>?_)
|`(18#3)=>`(k==br&&env.scope.kind==.function&&env.kindOf n==a_ .cell)
local macro_rules
|`(18#4)=>`(by rw [typeLookup_type,builtinLookup_eq_fast];kernel_rfl)
|`(18#5)=>`(⟨μ,S,G,_,_,hr,er,e1,λY0 vs H1 p1 k1 ZZ rs =>?_⟩)
|`(18#6)=>`((∀Y3 H',N Y3 H' -> ∃m',m'<m/\W (k+1) m' Y3 H'))
|`(18#7)=>`((∀x,foldedSetIterable iter X.env x=pure x))
local macro_rules
|`(18#8)=>`(a_ (.int ((i+j+xD (i / 2) (j / 2)) % 2)))
|`(18#9)=>`(Cell.lst (ax ((ba 1 (m - 1)).eraseIdx r)))
|`(19#0)=>`([6#0,7#8,a_ (.int way),1#2,x,y])
|`(19#1)=>`(by rw [isSubtype_type];kernel_rfl)
local macro_rules
|`(19#2)=>`([a_ (.ref 0),5#5,a_ (.int z)])
|`(19#3)=>`(!w.params.followText "set-order")
|`(19#4)=>`(mFn bA (aa 0#5 (aa 7#1 ah)))
|`(19#5)=>`(kvs.any λkv=>decide (kv.1=k))
local macro_rules
|`(19#6)=>`(starEach [a] X.env = [15#0])
|`(19#7)=>`((x == ("__classdict__":Str)))
|`(19#8)=>`(run ps.length N.length ms)
|`(19#9)=>`((intKind prog w).hash i)
local macro_rules
|`(20#0)=>`(p1.trans (p2.trans p3))
|`(20#1)=>`(by rw[S.hN];exact S.nd)
|`(20#2)=>`(g.cl a _ ha (hJ g hb))
|`(20#3)=>`(by exact ai 0#4 0#2)
local macro_rules
|`(20#4)=>`(fL (bO (name:=fV "__next__") hT GS.slot_si (bG GS.slot_si hT GS.entry_si ?_ (GS.args_si _))))
|`(20#5)=>`(dA x x (gH st) (dB st) (aG st) .none kV doc pm an cdv ct)
|`(20#6)=>`([1#2,a_ (.int x),a_ (.int (pw T x t)),a_ (.int t)])
|`(20#7)=>`(⟨μ,S,G,x,S1,hr,er,e1,λY0 H1 p1 k1 ZZ =>?_⟩)
local macro_rules
|`(20#8)=>`(⟨_,S1,G,u,S',ZZ,er.mono k1 p1,e,k.mono p1 k1⟩)
|`(20#9)=>`((∀b o,s.heap.get? b=a_ o->h'.get? b=a_ o))
|`(21#0)=>`(ax ((rOf m T a b p c 0).map (dQ m T a b p c)))
|`(21#1)=>`(λw hw=>oj rx fx r fs w (by simpa using hw))
local macro_rules
|`(21#2)=>`(rl6 k n m T a b N u6 6#4 u8 u9 u10 u11 u12)
|`(21#3)=>`(cy m (goF T (dQ m T a b p (aS c.length 0))))
|`(21#4)=>`(λacc x=>if x∈acc then acc else acc++[x])
|`(21#5)=>`((∀x c,X.env.cells.lookup x=a_ c->c≠b))
local macro_rules
|`(21#6)=>`(bJ (aj ⟨plainId_quiet kf _,dE o4 ?_⟩))
|`(21#7)=>`(newExc (.type "StopIteration") [] >>= _)
|`(21#8)=>`(⟨rfl,l,f,rfl,h1,h3,h4,λ_=>by lia⟩)
|`(21#9)=>`(⟨T.D,T.C,T.L,T.H,c_,T.Z.to nm⟩)
local macro_rules
|`(22#0)=>`(⟨.int _,H,I.tok _,⟨_,rfl⟩,q⟩)
|`(22#1)=>`([Cell.lst (tups (walks m T a b p))])
|`(22#2)=>`(k1.trans (k2.trans (k3.trans kw)))
|`(22#3)=>`(a_ (.int (A (i / m) (j / m))))
local macro_rules
|`(22#4)=>`(by rw[size_push'];exact cU ZQ)
|`(22#5)=>`([tab m T,.tup 13#4,.tup (ax c)])
|`(22#6)=>`(a_ (.tup (ax (plc T 10#4))))
|`(22#7)=>`(i8 X.env.cells scope.names [])
local macro_rules
|`(22#8)=>`((.Compare a [op,XX] [b,c] pos))
|`(22#9)=>`(seqObj "tuple" vs.toArray 0)
|`(23#0)=>`(sIf (cOr (cOf (m2 oIs (ae 9) (mC .non))) (cOf (m2 oNe (mFn iK (aa 0#8 (aa (ae 4) (aa (ae 9) ah)))) (ae 8)))) (cb (mC (.bl d_))) dw)
|`(23#1)=>`(mML de 0#6 (aa (mFn bN (aa (bW (iR1 (aa 0#5 ah)) cTT (wq 1 g φ (aa 0#8 5#3))) ah)) ah))
local macro_rules
|`(23#2)=>`(if (k'==br&&env.scope.kind==.function&&env.kindOf n==a_ _)=c_ then(n,eO) else(n,k'))
|`(23#3)=>`(m2 oIx (m2 oIx 0#5 (m2 oIx 0#9 1#8)) (mFn kn (aa 0#5 (aa (m2 oIx 0#9 1#9) ah))))
|`(23#4)=>`(aa (mFn oI (aa 0#5 (aa 0#9 (aa (m2 il (iS (aa 1#8 ah)) (mFn cp 4#0)) ah)))) ah)
|`(23#5)=>`(⟨.ref _,_,I.laid (λb ob q=>af _ q) (ak _) ?_,rfl,q _ (I.hok.fresh (ak _))⟩)
local macro_rules
|`(23#6)=>`((∀c o,c≠z->c≠TO->c≠i1->c≠i2->s.heap.get? c=a_ o->h'.get? c=a_ o))
|`(23#7)=>`(m2 il 2#2 (m2 oIx (m2 oIx 0#9 (m2 oDiv 0#8 2#2)) (m2 oDiv (ae 5) 2#2)))
|`(23#8)=>`(mML de 0#6 (aa (m2 oIx (m2 oIx 0#5 (m2 oIx 0#6 (m1 lM 1#9))) 0#8) ah))
|`(23#9)=>`(gW (T:="StopIteration") (b:=c_) ⟨_,av _ rfl,rfl⟩ isSubtype_stop ?_)
local macro_rules
|`(24#0)=>`(mFn iG (aa (bW (dh (ae 7)) cTT (mFn sU (aa 0#8 (aa (ae 13) ah)))) ah))
|`(24#1)=>`(aa (mFn bT (aa (mFn uN (aa 0#8 (aa (ae 11) ah))) (aa (ae 12) ah))) ah)
|`(24#2)=>`(aa (m2 oIx (m2 oIx 0#6 (m2 oIx 0#8 0#5)) (m2 oIx 0#8 0#9)) ah)
|`(24#3)=>`([1#2,10#3,9#2,a_ (.ref d),a_ (.tup (ax (rOf m T a b p c 0)))])
local macro_rules
|`(24#4)=>`((∀ (s:g_) (v:f_),BindsTo s fd ⟨[v],[]⟩ [("script",v)]))
|`(24#5)=>`(by first | rfl | decide +kernel | (unfold AC;simp +decide [uS]))
|`(24#6)=>`(dA x x (gH st) (dB st) (aG st) .none kV doc pm an (.ref c) ct)
|`(24#7)=>`(dA x qual (gH st) (dB st) (aG st) .none kV doc pm an cdv ct)
local macro_rules
|`(24#8)=>`((J.stop i H /\ ∀D,H D=b_->Q (.ref D) (upd H D (.lst ys))))
|`(24#9)=>`(⟨rfl,I.turned (λb o hb e=>eb b o hb e) f0 f1 f3 f4 f5⟩)
|`(25#0)=>`(⟨μ,S,G,xs,S2,hr,er,e2,λY0 vs H1 p1 k1 ZZ rs =>?_⟩)
|`(25#1)=>`([a_ (.tup (ax [0,1])),a_ (.int N),a_ (.ref r),u3,u4])
local macro_rules
|`(25#2)=>`(rl6 k n m T a b N u6 6#4 u8 u9 (a_ (.ref r2)) u11 u12)
|`(25#3)=>`(mFn bN (aa (bW (dh (ae 4)) cTT (m2 oIx 0#8 (ae 5))) ah))
|`(25#4)=>`(fj 6 (dh (ae 4)) (gf 0#8 (ae 6) (m2 oIx 0#9 (ae 5))))
|`(25#5)=>`((∃ o,h'.get? e=a_ o/\o.cls = .type "StopIteration"))
local macro_rules
|`(25#6)=>`(if f (sw i j x)=j then f (sw i j j) else f (sw i j x))
|`(25#7)=>`((∀Y3 H',N Y3 H' -> ∃m',m'<m/\W (i+1) m' Y3 H'))
|`(25#8)=>`(aa 0#5 (aa (mSl 0#6 b_ (a_ (m1 lM 1#9))) ah))
|`(25#9)=>`(bC 9 (mFn gO (aa 0#8 (aa (ae 4) (aa (ae 8) ah)))))
local macro_rules
|`(26#0)=>`(by first | rfl | (simp only [firstArgMember];rfl))
|`(26#1)=>`((iR (lOf m T a b p).length).map (vC m T a b p))
|`(26#2)=>`([tab (2+r) (gS (2+r)),tab (2*(2+r)) (jj (2+r))])
|`(26#3)=>`(mFn jJ (aa (iS (aa 1#8 (aa 1#9 ah))) 4#0))
local macro_rules
|`(26#4)=>`((∀k,k<lo->(arrOf Z')[k]? = (arrOf st)[k]?))
|`(26#5)=>`(dP (aa (mFn dO 5#3) (aa (mFn gR 5#3) ah)))
|`(26#6)=>`([a_ (U.ref n),a_ (.int m),2#5]++[5#5])
|`(26#7)=>`(dh (mSl (ae 7) b_ (a_ (mC (.int 4)))))
local macro_rules
|`(26#8)=>`(thn 13#6 λv s1 ⟨x,H1,I1,r1,q1⟩ =>?_)
|`(26#9)=>`((.tbl (ps ++ #[rawInt a,rawInt b,.ref c])))
theorem au1(h:0=0:=by rfl):0=0:=h
theorem au2(h:0=0:=by decide):0=0:=h
theorem au3(h:Nat->0=0:=by intro _;rfl):0=0:=h 0
theorem au4(h:0=0\/0=1:=by first |exact .inl rfl |exact .inr rfl |assumption):0=0:=rfl
noncomputable section
open Array renaming length_toList→bR,getElem?_eq_getElem→bX,getElem?_toList→cq,toList_append→cx,toList_push→dD,toList_setIfInBounds→CC,getElem?_eq_none→Hz,toList_reverse→Lc
open Bool renaming and_eq_true→aE,false_ne_true→dq,false_eq_true→eQ,and_true→fZ,not_true→FM
open Classical renaming propDecidable→cm,byContradiction→iu
open False renaming elim→en
open ForInStep renaming yield→fD
open Int renaming toNat_natCast→ck,ofNat_lt→g8,natCast_emod→pB,emod_lt_of_pos→xk,natCast_ediv→Ay,toNat→Az,emod_nonneg→CK,natCast_add→CL,eq_ofNat_of_zero_le→HF
open LT renaming lt→Lg
open List renaming getElem?_eq_some_iff→ag,range→aq,length_map→ar,mem_map→aw,nodup_iff_pairwise_ne→ay,mem_range→aA,mem_cons_of_mem→aB,getElem?_eq_getElem→aC,mem_cons→aH,getElem?_set_ne→aN,getD_eq_getElem?_getD→aP,mem_append→aQ,map_congr_left→aR,replicate→aS,getElem?_append_left→aT,length_append→aU,getElem?_set_self→aV,pairwise_map→aW,length_range→aZ,mem_append_right→a8,getElem?_map→a9,range'→ba,mem_append_left→bf,getElem?_append_right→bo,map_map→bq,mem_filter→bw,mem_singleton→bx,append_assoc→bz,mem_of_getElem?→bK,map_append→bL,size_toArray→bP,getElem_mem→bQ,length_cons→bU,mem_cons_self→bY,append_nil→cf,length_eq_zero_iff→cu,all_cons→cH,take_of_length_le→cR,length_take→c6,all_eq_true→dc,pairwise_iff_getElem→dj,map_cons→dy,lookup_cons→dz,pairwise_append→dM,drop_of_length_le→dR,mem_reverse→dS,nodup_append→d6,eq_nil_of_length_eq_zero→d7,nodup_cons→eh,nil_append→ej,findIdx?_eq_some_iff_getElem→eD,drop_left→eE,pairwise_lt_range→eF,range_succ→eJ,drop_eq_getElem_cons→eN,length→eV,mem_of_mem_take→eW,take_add_one→fk,cons_append→fA,take_left→fC,perm_ext_iff_of_nodup→fE,getElem?_eq_none→fJ,extract_eq_take_drop→fP,mem_of_mem_drop→fS,length_pos_iff→gv,getElem_map→gy,all_nil→gL,foldl_cons→g9,take_append_drop→hU,length_filter_le→hZ,length_drop→iN,not_mem_nil→iO,length_set→jg,find?_cons→jh,pairwise_cons→jk,lookup_append→jl,getElem?_replicate→jv,take_sublist→jN,ext_getElem?→jO,nodup_range→kh,any_eq_true→ki,mem_flatMap→kj,mem_iff_getElem→kM,drop_drop→lW,reverse_perm→m7,flatten_cons→m8,any_cons→nc,idxOf_lt_length_iff→nk,ext_getElem→oZ,filter_cons_of_pos→o6,filter_cons_of_neg→pb,of_mem_zip→qp,pairwise_reverse→qz,length_replicate→qB,drop_zero→rO,range_eq_range'→rQ,map→rR,map_id→rS,filterMap_cons→t8,reverse_append→ua,length_reverse→ub,getElem_of_mem→uc,replicate_succ→ud,getElem?_range→ue,filter_eq_self→uf,getElem?_take→uR,find?_eq_none→uV,drop_sublist→xn,toArray→xo,reverse_cons→xr,mem_range'_1→xt,zipIdx_cons→yX,drop_length→y3,dropLast_concat_getLast→AA,forIn_cons→AD,length_nil→AE,idxOf_cons→AF,foldl→CN,perm_cons→CO,length_eraseIdx_of_lt→CQ,getElem?_eq_none_iff→Et,eraseIdx_cons_succ→Hx,pairwise_mergeSort→HA,range_succ_eq_map→HE,map_id'→HG,set_append_right→Le,dropLast_eq_take→Lh,pairwise_flatMap→Li,perm_cons_erase→Ln,lookup→Lo,getElem_toArray→Lp,map_eq_cons_iff→Lq
open List.Pairwise renaming imp_of_mem→bM,nil→iT
open List.Perm renaming trans→Lm
open Nat renaming lt_of_lt_of_le→ai,le_refl→ak,le_of_lt→aI,ne_of_lt→aJ,le_trans→aK,lt_of_le_of_lt→aM,lt_trans→aY,lt_irrefl→bu,lt_of_le_of_ne→bH,zero_le→bS,lt_succ_self→bV,mod_eq_of_lt→cg,add_pos_left→cj,lt_succ_of_lt→cU,le_succ_of_le→dG,ne_of_gt→dW,le_of_not_lt→d5,le_of_lt_succ→d8,add_sub_cancel_left→eC,pos_of_ne_zero→eS,add_assoc→eU,le_add_right→fB,lt_or_eq_of_le→fI,le_succ→fT,zero_add→fU,mul_le_mul_right→iJ,div_eq_of_lt→iV,mod_lt→jx,lt_of_succ_lt_succ→jY,min_eq_left→ly,mul_comm→lV,sub_add_cancel→mS,lt_trichotomy→ng,add_mod_right→ni,sub_sub_right→nj,lt_succ_iff_lt_or_eq→oA,sub_add_comm→pA,succ_mul→qw,mod_self→qx,sub_le→qy,mod_add_mod→qC,pow_le_pow_right→tF,mul_le_mul_left→uu,add_comm→xW,zero_lt_of_lt→xX,max_eq_right→Aw,le_antisymm→CA,max_eq_left→CB,div_add_mod→CJ,lt_of_add_lt_add_left→FL,exists_eq_add_of_le→HD,lt_or_ge→La,sub_self→Ld
open Ne renaming symm→eI
open Option renaming bind_some→aO,map_eq_some_iff→di,map_some→dr,isSome_iff_exists→iW,isSome_map→uT
open Option.some renaming inj→eR,injEq→lg
open Prod.mk renaming injEq→CD
open PyProof.Rows renaming callWith_type1→cM,slot_tuple_getitem→fH,recsOf→h8,boot_sorted→k9,boot_list→lZ,callWith_builtin1→rM,boot_tuple→xV
open PyProof.Rows.F renaming plain_set_update_loop→hC,entry_set_update_loop→nh
open PyProof.Rows.IsTup renaming new→rN
open PyProof.Rows.SortSt renaming mk'→AB
open PySem renaming wpAny_bind→ab,wpAny_pure→aj,wpAny→aD,wpAny_call_entry→bG,wpAny_newObj_type→bJ,wpAny_callSpecial?_slot→bO,mem_of_lookup→cw,wpAny_setField_rec→cZ,wpAny_field→dg,wpAny_mono→dv,codeAny_builtin→dE,wpAny_holding→dF,wpAny_of_eq→dZ,wpAny_truthy_bool→eK,wpAny_Call_Name_kw→ff,wpAny_rule→fg,wpAny_seqItems→fq,wpAny_loadPart'→fw,wpAny_attempt→fL,wpAny_isInstance→gW,wpAny_passesOwn→iz,Addr→iA,codeAny_mono→je,wpAny_typeOf→jf,wpAny_setEntries_of→jy,wpAny_pyIter_tuple→jX,wpAny_setState_of→kK,wpAny_runValue→kL,wpAny_askSetting→lA,wpAny_updateSeq→mO,wpAny_specialOf→mP,wpAny_setField→oB,wpAny_pyIter_list→pP,codeAny→pQ,wpAny_newList→qr,wpAny_execs_nil→t9,wpAny_updateSeq_pair→xg,wpAny_fieldsOf→xh,wpAny_handled→yY,wpAny_onRaise→yZ,wpAny_load→Au,wpAny_assign_Name→Cz,wpAny_pyIter_slot→CF,wpAny_throw→FN,codeAny_of_tree→Hy,wpAny_newTuple→Lf
open PySem.Around renaming under_plainId→fQ,frames_deeper→HC
open PySem.AutoSeq1 renaming idx_int→Ll
open PySem.Builtin.List renaming listTooLong→iq,listSameRef→ir,listExtendWith→j7
open PySem.Builtin.Range renaming rangeSize→iE,small→oC
open PySem.Builtin.Slice renaming slicePlaces→kJ,sliceAdjust→uQ
open PySem.Builtin.SmallTypes renaming nextOf→eA,newClass→qu
open PySem.Builtin.Tuple renaming tupleItemsOf→uq,tupleTooMany→ur,tupleExact→xj
open PySem.Calls renaming call_function_entry→iQ,spliced_cons→lU,callWith_builtin→pv,evalArgs_plain→rJ,spliced_nil→xf,Name_function_global→Cy
open PySem.Data renaming seq→xq
open PySem.F renaming slot_tuple_iterator_next→iU,plainAttrs_list→jc,plain_list_iadd→kf,entry_proto_collect→kN,args_tuple_add_2→mN,entry_tuple_add→m6,slot_tuple_add→oz,entry_list_iadd→o4,slot_zip_next→rP,args_tuple_mul_2→xU,entry_tuple_mul→Ax,slot_tuple_mul→CH,slot_tuple_index→CI,args_tuple_iterator_next_1→Es,entry_tuple_iterator_next→FP,plain_set_new→FQ,slot_set_iter→FR,slot_list_pop→FS,type_list_pop→FT
open PySem.Heap renaming get?_push_of_some→af,get?_push_size→av,lt_size→az,size_push→bE,get?_update_other→cQ,get?_update_self→cY,SameBut→eT,ExtBut→jw,get?_push_ne→m9,IsTuple→xp
open PySem.Heap.SameBut renaming update→fM
open PySem.IsL renaming update→K9
open PySem.NameKind renaming free→br,cell→eO
open PySem.Obj renaming mapSeq→cN,data_mapFields→gZ,isFreed_of_fields→rK
open PySem.Paired renaming length→CM
open PySem.PassesOwn renaming never→xi
open PySem.PyData renaming eqvAll→dm,eqv→fi,int→fR,canLay0→jI,canLayAll0→mQ,eqv→o3,depthAll→pz,depth→uU
open PySem.SeqAt.EqAt renaming int_str→FJ,str_int→FK
open PySem.SetTable renaming below→bg,grown→hV,has→CP
open PySem.SetTable.below renaming go→iP
open PySem.SetTable.probe renaming go→CG
open PySem.Shared renaming heap→qA,TypeIs→tE
open PySem.Str renaming ofString→fV
open PySem.Value renaming ref→bZ,none→cJ,type→jd,int→rL,isInt_shape→xc
open PySem.W renaming Frag→ao,fnOf→dA,keepIn→dI,kia_one→eg,nsIn→fN,codeIn→ip,cellsFrom_some→ju,mg_of→mR,OpenLaw→o5,callWith_K→tD,instObj→xT,lookIn→Av,hideAll_size→Hv,hideAll_none→Hw,hideAll_get→HB,of_hideAll→K8,kitx_list→Lj,kitx_dict→Lk
open String renaming splitOnAux→uS,splitOn→AC
open Sum renaming inl→jW,inr→K7
open True renaming intro→gK
namespace _L
open PySem PySem.Spec PyProof.Rows
abbrev Key:=Sum Int Str
def u0:Key->f_->Bool
 |.inl k,v=>Value.isInt k v
 |.inr x,v=>Value.isStrOf x v
def WA(w:World):Key->Int
 |.inl k=>hashInt k
 |.inr x=>hashStr w x
theorem fh:∀{k:Key}{v:f_},u0 k v=c_->(∃i t,k=jW i/\v=rL i t)\/(∃x t,k=K7 x/\v=Value.str x t)
 | .inl i,v,h=>by
   obtain⟨t,e⟩:=xc h;exact .inl ⟨i,t,rfl,e⟩
 | .inr x,v,h=>by
   obtain⟨t,e⟩:=Value.isStrOf_shape h;exact .inr ⟨x,t,rfl,e⟩
theorem FV(i:Int)(t:Tok):u0 (.inl i) (.int i t)=c_:=by simp[u0,Value.isInt]
theorem Hk(x:Str)(t:Tok):u0 (.inr x) (.str x t)=c_:=by simp[u0,Value.isStrOf]
theorem PC(a b:Int):decide ((jW a:Key)=jW b)=(a==b):=by
 grind
theorem RB(a b:Str):decide ((K7 a:Key)=K7 b)=decide (a=b):=by
 grind
theorem RS(a:Int)(b:Str):decide ((jW a:Key)=K7 b)=d_:=decide_eq_false (λq=>nomatch q)
theorem Pm(a:Str)(b:Int):decide ((K7 a:Key)=jW b)=d_:=decide_eq_false (λq=>nomatch q)
def fb(prog:Program)(w:World):PySem.KeyKind prog w Key where
 is:=u0
 hash:=WA w
 inj:=λv a b ha hb=>by
  rcases fh ha with⟨i,t,rfl,rfl⟩|⟨x,t,rfl,rfl⟩
  .rcases fh hb with⟨j,u,rfl,e⟩|⟨y,u,rfl,e⟩
   .injection e with e1 _;rw[e1]
   .exact nomatch e
  .rcases fh hb with⟨j,u,rfl,e⟩|⟨y,u,rfl,e⟩
   .exact nomatch e
   .injection e with e1 _;rw[e1]
 byValue:=λk v h=>by
  rcases fh h with⟨i,t,rfl,rfl⟩|⟨x,t,rfl,rfl⟩<;>rfl
 pyHash:=λhv h=>by
  rcases fh hv with⟨i,t,rfl,rfl⟩|⟨x,t,rfl,rfl⟩
  .exact wpAny_pyHash_int h
  .exact wpAny_pyHash_str h
 eqBool:=λhu hv h=>by
  rcases fh hu with⟨i,t,rfl,rfl⟩|⟨x,t,rfl,rfl⟩
  .rcases fh hv with⟨j,u,rfl,rfl⟩|⟨y,u,rfl,rfl⟩
   .rw[PC]at h;exact wpAny_eqBool_int h
   .rw[RS]at h;exact FJ i t y u _ _ _ _ h
  .rcases fh hv with⟨j,u,rfl,rfl⟩|⟨y,u,rfl,rfl⟩
   .rw[Pm]at h;exact FK x t j u _ _ _ _ h
   .rw[RB]at h;exact wpAny_eqBool_str h
 «strs»:=λk x t v h=>by
  rcases fh h with⟨i,u,rfl,e⟩|⟨y,u,rfl,e⟩
  .exact nomatch e
  .injection e with e1 _
   subst e1;cases v<;>rfl
theorem AQ(prog:Program)(w:World)(i:Int)(t:Tok):(fb prog w).is (.inl i) (.int i t)=c_:=FV i t
theorem BY(prog:Program)(w:World)(x:Str)(t:Tok):(fb prog w).is (.inr x) (.str x t)=c_:=Hk x t
inductive V where
 |non |bl (b:Bool) |int (i:Int) |str (x:Str) |byt (b:Array UInt8) |flt (b:UInt64) |ref (a:e_) |ty (n:String)
def RelV:V->f_->Prop
 |.non,u=>u=cJ
 |.bl b,u=>u=Value.bool b
 |.int i,u=>∃t,u=rL i t
 |.str x,u=>∃t,u=Value.str x t
 |.byt b,u=>∃t,u=Value.bytes b t
 |.flt b,u=>∃t,u=Value.float b t
 |.ref a,u=>u=bZ a
 |.ty n,u=>u=jd n
abbrev cX:List V->List f_->Prop:=Paired RelV
variable{xs:List V}{us:List f_}
theorem cX.length(r:cX xs us):1#4=1#3:=CM r
theorem cX.get:∀{xs:List V}{us:List f_}{i:Nat}{x:V},cX xs us->xs[i]?=a_ x->∃u,us[i]?=a_ u/\RelV x u
 |_,_,_,_,.nil,e=>by simp at e
 |_,_,0,_,.cons r _,e=>by simp_all
 | _,_,i+1,x,.cons _ t,e=>by
   obtain⟨u,h1,h2⟩:=cX.get t 10#6
   simp_all
theorem cX.set{x:V}{u:f_}(r:RelV x u):∀{xs:List V}{us:List f_} (i:Nat),cX xs us->cX (xs.set i x) (us.set i u)
 |_,_,_,.nil=>.nil
 |_,_,0,.cons _ t=>.cons r t
 |_,_,i+1,.cons q t=>.cons q (cX.set r i t)
theorem cX.append:∀{xs ys:List V}{us ws:List f_},cX xs us->cX ys ws->cX (xs++ys) (us++ws)
 |_,_,_,_,.nil,s=>s
 |_,_,_,_,.cons r t,s=>.cons r (cX.append t s)
theorem cX.take:∀{xs:List V}{us:List f_} (n:Nat),cX xs us->cX (xs.take n) (us.take n)
 |_,_,0,_=>.nil
 |_,_,_+1,.nil=>.nil
 |_,_,n+1,.cons r t=>.cons r (cX.take n t)
theorem cX.drop:∀{xs:List V}{us:List f_} (n:Nat),cX xs us->cX (xs.drop n) (us.drop n)
 |_,_,0,r=>r
 |_,_,_+1,.nil=>.nil
 |_,_,n+1,.cons _ t=>cX.drop n t
def vc:Option V->Option f_->Prop
 |some v,a_ u=>RelV v u
 |none,b_=>True
 |_,_=>False
def KV{κ:Type}:List (κ×V)->List (κ×f_)->Prop:=Paired λ(p:κ×V) (q:κ×f_)=>p.1=q.1/\RelV p.2 q.2
def kV:Key->V
 |.inl i=>.int i
 |.inr x=>.str x
inductive HO where
 |lst (xs:List V)
 |tup (xs:List V)
 |dK (kvs:List (Key×V)) |dT (kvs:List (List Key×V))
 |set (S:Int->Bool) (n:Nat)
 |ins (C dx:e_) (fs:List (Str×V))
 |own (x:e_)
 |xd (fs:List (Str×V))
 |met (f x:e_)
 |rng (lo hi:Int)
 |frz (o:Obj) (u:HO)
 |tbl (ps:Array f_)
 |ext (φ:Heap->Prop)
abbrev Hp:=e_->Option HO
def upd(H:Hp)(a:e_)(o:HO):Hp:=λb=>if b=a then a_ o else H b
variable{H:Hp}{a:e_}{o:HO}
theorem du:upd H a o a=a_ o:=by unfold upd;rw[if_pos rfl]
variable{b:e_}
theorem bB(h:b≠a):upd H a o b=H b:=by unfold upd;rw[if_neg h]
theorem tN{u:HO}(h:H a=a_ o)(h':H b=a_ u)(d:o≠u):a≠b:=by
 grind
theorem bF(h:H a=a_ o)(h':H b=b_):a≠b:=by
 grind
section
variable (P:Program) (w:World)
def ix(H:Hp)(h:Heap)(a:e_):HO->Prop
 |.lst xs=>1#4<=sizeLine /\ ∃ (ZY:List f_) (n:Nat),cX xs ZY/\h.get? a=a_ { cls := .type "list",data := .seq ZY.toArray n }
 |.tup xs=>1#4<=sizeLine /\ ∃ZY:List f_,cX xs ZY/\IsTup h a ZY.toArray /\ ∃o,h.get? a=a_ o/\o.dict=b_
 |.dK kvs=>4#1<=sizeLine/\(a==sysModules)=d_ /\ ∃vs,KV kvs vs/\h.DictOf (fb P w) a vs
 | .dT kvs=>4#1<=sizeLine/\(a==sysModules)=d_ /\ ∃xs:List (List Key×e_×f_),
   Paired (λ(p:List Key×V) (q:List Key×e_×f_)=>p.1=q.1/\H q.2.1=a_ (.tup (p.1.map kV))/\RelV p.2 q.2.2) kvs xs /\
   ∃o es ep,h.get? a=a_ o/\o.ExactDict/\o.data=.dict es ep/\es.toList=xs.map (entryOfKey (tupleKind (fb P w)))/\(xs.map (·.1)).Nodup
 |.set S n=>h.SetOf (intKind P w) a S n
 | .ins C dx fs=>H dx=a_ (.own a)/\fs.length<=1000/\dx≠a/\h.get? a=a_ (xT C dx) /\
   ∃mA,h.Ns1 dx mA/\(∀f,vc (fs.lookup f) (mA f))/\PySem.Within mA (fs.map (·.1))
 |.own _=>∃o,h.get? a=a_ o
 |.xd fs=>∃mA,h.Ns1 a mA /\ ∀f,vc (fs.lookup f) (mA f)
 |.rng lo hi=>∃ t u v,h.get? a=a_ { cls := .type "range",data := .fields #[.int lo t,.int hi u,.int 1 v] }
 |.frz o u=>h.get? a=a_ o/\ix H h a u
 |.tbl ps=>h.get? a=a_ { cls:= .none,data:= .fields ps }
 |.met f x=>h.get? a=a_ (PySem.W.methodObj (.ref f) (.ref x))
 |.ext φ=>φ h/\(∃o,h.get? a=a_ o) /\ ∀h1 h2:Heap,φ h1->(∀o,h1.get? a=a_ o->h2.get? a=a_ o)->φ h2
def HOk(H:Hp)(h:Heap):Prop:= ∀a o,H a=a_ o->ix P w H h a o
end
section
variable {P:Program}{w:World}{H H':Hp}{h h':Heap}{a:e_}{o:HO}
theorem ix.lt(x:ix P w H h a o):a<13#2:=by
 cases o with
 |lst xs=>obtain⟨_,_,_,_,e⟩:=x;exact az e
 |tup xs=>obtain⟨_,_,_,p⟩:=x;exact p.1.lt
 |dK kvs=>obtain⟨_,_,_,_,o,_,_,e,_⟩:=x;exact az e
 |dT kvs=>obtain⟨_,_,_,_,o,_,_,e,_⟩:=x;exact az e
 |set S n=>obtain⟨o,_,_,_,e,_⟩:=x;exact az e
 |ins C dx fs=>obtain⟨_,_,_,e,_⟩:=x;exact az e
 |own y=>obtain⟨_,e⟩:=x;exact az e
 |xd fs=>obtain⟨_,⟨_,_,_,e,_⟩,_⟩:=x;exact az e
 |rng lo hi=>obtain⟨_,_,_,e⟩:=x;exact az e
 |frz ob u=>obtain⟨e,_⟩:=x;exact az e
 |tbl ps=>exact az (x)
 |met f y=>exact az (x)
 |ext φ=>obtain⟨_,⟨_,e⟩,_⟩:=x;exact az e
theorem Paired.mapP{α β:Type}{F C':α->β->Prop}:∀{l₁:List α}{l₂:List β},Paired F l₁ l₂->(∀a b,F a b->C' a b)->Paired C' l₁ l₂:=by
 intro l m h f
 induction h with
 |nil=>exact .nil
 |cons r t ih=>exact .cons (f _ _ r) ih
theorem ix.stay(x:ix P w H h a o)(k:∀b u,(b=a\/H b=a_ (.own a))->h.get? b=a_ u->h'.get? b=a_ u)
  (ho:∀b,H b=a_ (.own a)->H' b=a_ (.own a)) (ht:∀b xs,H b=a_ (.tup xs)->H' b=a_ (.tup xs)):ix P w H' h' a o:=by
 induction o with
 |lst xs=>obtain⟨z,ZY,n,r,e⟩:=x;exact⟨z,_,n,r,k _ _ 5#1 e⟩
 |tup xs=>obtain⟨z,ZY,r,⟨ob,e,c⟩,o2,e2,c2⟩:=x;exact⟨z,_,r,⟨ob,k _ _ 5#1 e,c⟩,o2,k _ _ 5#1 e2,c2⟩
 |dK kvs=>obtain⟨z,y,vs,r,ob,es,ep,e,c⟩:=x;exact⟨z,y,vs,r,ob,es,ep,k _ _ 5#1 e,c⟩
 | dT kvs=>
   obtain⟨z,y,xs,r,ob,es,ep,e,c⟩:=x;exact⟨z,y,xs,Paired.mapP r λp q z=>⟨z.1,ht _ _ z.2.1,z.2.2⟩,ob,es,ep,k _ _ 5#1 e,c⟩
 |set S n=>obtain⟨ob,es,ep,t,e,c⟩:=x;exact⟨ob,es,ep,t,k _ _ 5#1 e,c⟩
 | ins C dx fs=>
   obtain⟨d,z,ne,e,mA,⟨od,es,ep,e2,c⟩,r⟩:=x;exact⟨ho _ d,z,ne,k _ _ 5#1 e,mA,⟨od,es,ep,k _ _ (.inr d) e2,c⟩,r⟩
 |own y=>obtain⟨ob,e⟩:=x;exact⟨ob,k _ _ 5#1 e⟩
 |xd fs=>obtain⟨mA,⟨od,es,ep,e,c⟩,r⟩:=x;exact⟨mA,⟨od,es,ep,k _ _ 5#1 e,c⟩,r⟩
 |rng lo hi=>obtain⟨t,u,v,e⟩:=x;exact⟨t,u,v,k _ _ 5#1 e⟩
 |frz ob u ih=>obtain⟨e,q⟩:=x;exact⟨k _ _ 5#1 e,ih q⟩
 | tbl ps=>
   have e:=x;exact k a _ 5#1 e
 | met f y=>
   have e:=x;exact k a _ 5#1 e
 |ext φ=>obtain⟨p,⟨o,e⟩,st⟩:=x;exact⟨st _ _ p λo q=>k _ _ 5#1 q,⟨o,k _ _ 5#1 e⟩,st⟩
theorem HOk.lt(x:HOk P w H h)(e:H a=a_ o):a<13#2:=(x a o e).lt
theorem HOk.fresh(x:HOk P w H h)(e:13#2<=a):H a=b_:=by
 cases q:H a with
 |none=>rfl
 |some u=>exact absurd (ai (x.lt q) e) (bu _)
theorem HOk.kept(x:HOk P w H h)(k:∀b u,h.get? b=a_ u->h'.get? b=a_ u):HOk P w H h':=λa o e=>
 (x a o e).stay (λb u _ q=>k b u q) (λ_ q=>q) λ_ _ q=>q
theorem HOk.laid(x:HOk P w H h)(k:∀b u,h.get? b=a_ u->h'.get? b=a_ u)(hp:13#2<=a)(new:ix P w (upd H a o) h' a o):HOk P w (upd H a o) h':=λb u e=>by
 have hn:=x.fresh hp;by_cases hb:b=a
 .subst hb;rw[du]at e;grind
 .rw[bB hb]at e
  exact(x b u e).stay (λc v _ q=>k c v q) (λc q=>by rw[bB (bF q hn)];omega) λc xs q=>by rw[bB (bF q hn)];omega
end
def Rd(H:Hp)(a:e_)(u:HO):Prop:=H a=a_ u \/ ∃o,H a=a_ (.frz o u)
variable{P:Program}{w:World}{h:Heap}
theorem Rd.ok{u:HO}(r:Rd H a u)(x:HOk P w H h):ix P w H h a u:=by
 rcases r with r|⟨o,r⟩
 .exact x a u r
 .obtain⟨_,q⟩:=x a _ r
  omega
def Mut:Option HO->Prop
 |some (.lst _)=>True
 |some (.dK _)=>True
 |some (.dT _)=>True
 |some (.set _ _)=>True
 |some (.ins _ _ _)=>True
 |some (.ext _)=>True
 |_=>False
section
variable {P:Program}{w:World}{H:Hp}{h h':Heap}{x e:e_}{o':HO}
theorem HOk.write(ok:HOk P w H h)(mu:Mut (H x))(he:e=x\/H e=a_ (.own x))(k:∀b u,b≠e->h.get? b=a_ u->h'.get? b=a_ u)(heo:∃u,h'.get? e=a_ u)
  (new:ix P w (upd H x o') h' x o'):HOk P w (upd H x o') h':=λb u q=>by
 have nown:∀c y,H c=a_ (.own y)->c≠x:=λc y r z=>by subst z;rw[r]at mu;exact mu
 by_cases hb:b=x
 .subst hb;rw[du]at q;grind
 .rw[bB hb]at q
  by_cases hbe:b=e
  .have q':H b=a_ (.own x):=by
    grind
   rw[q]at q';cases q';obtain⟨v,hv⟩:=heo;exact⟨v,by rw[hbe];omega⟩
  .refine(ok b u q).stay (λc v hc r=>k c v ?_ r) (λc r=>by rw[bB (nown c b r)];omega) λc xs r=>by rw[bB ((λc xs r z=>by subst z;rw[r]at mu;exact mu) c xs r)];omega
   grind
end
structure Un(fs ex:List e_)(H H':Hp)(h h':Heap):Prop where
 keep:∀b o,h.get? b=a_ o->H b=b_->b∉fs->b∉ex->h'.get? b=a_ o
 slot:∀b o,h.get? b=a_ o->H b=b_->b∈fs->b∉ex->∃sl,h'.get? b=a_ { o with slots:=sl }
 free:∀b o,h.get? b=a_ o->H b=b_->b∉ex->H' b=b_
 there:∀b o,h.get? b=a_ o->b∉ex->∃o',h'.get? b=a_ o'
 tups:∀b xs,H b=a_ (.tup xs)->H' b=a_ (.tup xs)
 frzs:∀b o u,H b=a_ (.frz o u)->H' b=a_ (.frz o u)
 tbls:∀b ps,H b=a_ (.tbl ps)->∃more,H' b=a_ (.tbl (ps++more))
section
variable {fs fs' ex ex':List e_}{H H1 H2:Hp}{h h1 h2 h':Heap}{a x e:e_}{o:HO}
theorem Un.any(u:Un fs ex H H1 h h1){ob:Obj}(q:h.get? b=a_ ob)(n:H b=b_)(hx:b∉ex):∃sl,h1.get? b=a_ { ob with slots:=sl }:=by
 by_cases hb:b∈fs
 .exact u.slot b ob q n hb hx
 .exact⟨_,u.keep b ob q n hb hx⟩
theorem Un.kept(k:∀b u,h.get? b=a_ u->h'.get? b=a_ u):Un fs ex H H h h':=
 ⟨λb ob q _ _ _=>k b ob q,λb ob q _ _ _=>⟨_,k b ob q⟩,λ_ _ _ n _=>n,λb ob q _=>⟨ob,k b ob q⟩,λ_ _ q=>q,λ_ _ _ q=>q,λ_ ps q=>⟨#[],by rw[q];simp⟩⟩
theorem Un.refl:Un fs ex H H h h:=Un.kept λ_ _ q=>q
theorem Un.laid(k:∀b u,h.get? b=a_ u->h'.get? b=a_ u)(hp:13#2<=a)(hn:H a=b_):Un fs ex H (upd H a o) h h' where
 keep:=λb u q _ _ _=>k b u q
 slot:=λb u q _ _ _=>⟨_,k b u q⟩
 free:=λb u q n _=>by rw[bB (aJ (ai (az q) hp))];omega
 there:=λb u q _=>⟨u,k b u q⟩
 tups:=λb xs q=>by rw[bB (bF q hn)];omega
 frzs:=λb u xs q=>by rw[bB (bF q hn)];omega
 tbls:=λb ps q=>⟨#[],by rw[bB (bF q hn),q];simp⟩
theorem Un.write(mu:Mut (H x))(he:e=x\/H e=a_ (.own x))(k:∀b u,b≠e->h.get? b=a_ u->h'.get? b=a_ u)(heo:∃u,h'.get? e=a_ u):Un fs ex H (upd H x o) h h':=by
 have hx:∀b,H b=b_->b≠x:=λb n z=>by subst z;rw[n]at mu;exact mu
 have hb:∀b,H b=b_->b≠e:=λb n z=>by
  grind
 have hm:∀b u,H b=a_ u->¬Mut (a_ u)->b≠x:=λb u q nm z=>by grind
 refine⟨λb u q n _ _=>k b u (hb b n) q,λb u q n _ _=>⟨_,k b u (hb b n) q⟩,λb u q n _=>by rw[bB (hx b n)];omega,λb u q _ =>?_,
  λb xs q=>by rw[bB (hm b _ q λz=>z)];omega,λb u xs q=>by rw[bB (hm b _ q λz=>z)];omega,λb ps q=>⟨#[],by rw[bB (hm b _ q λz=>z),q];simp⟩⟩
 grind
end
def trk(h:Heap)(H:Hp):List e_:=(aq 13#2).filter λa=>(H a).isSome
def AX(h:Heap)(H:Hp):Heap:=PySem.W.hideAll h (trk h H)
theorem yF(h:Heap)(H:Hp):(AX h H).objs.size=13#2:=Hv _ _
variable{o:Obj}
theorem qF(e:h.get? b=a_ o)(n:H b=b_):(AX h H).get? b=a_ o:=
 HB _ e λhm=>by
  have q:=(bw.mp hm).2
  grind
theorem Fb(e:(AX h H).get? b=a_ o):h.get? b=a_ o/\H b=b_:=by
 have e':=K8 _ e;refine⟨e',?_⟩;cases q:H b with
 |none=>rfl
 | some x=>
   have z:(AX h H).get? b=b_:=Hw _ (bw.mpr ⟨aA.mpr (az e'),by simp[q]⟩)
   grind
def Nj(g h:Heap)(L:e_):List 2#7:=(aq 13#2).filterMap λa=>if a=L\/(g.get? a).isSome=c_ then b_ else(h.get? a).map λo=>(a,o)
def rest(g h:Heap)(L d:e_):List 2#7:=(Nj g h L).filter λp=>decide (p.1≠d)
structure Mod(K:ao)(mg:Str->Option f_)(base:Heap):Prop where
 kin:K.In base
 glob:base.Ns mainGlobals mg
 blt :∃ mb,base.Ns builtinsNs mb /\ ∀ x:Str,x≠"__name__"->mb x=bootBuiltins x
 nolimit:base.NoLimit
set_option genInjectivity false in
structure Cx where
 prog:Program
 w:World
 K:ao
 mg:Str->Option f_
 base:Heap
 A:Around
 N:List Str
 s₀:g_
 H₀:Hp
 env:Env
 outer:List Env
 stack:List Env
 ex:List e_
 fn:Str->Bool
 calm:Bool
 pn:List (e_×Obj)
 xe:f_->g_->Prop
def frs(l:List Env):List e_:=l.filterMap (·.frame)
abbrev Cx.fs(X:Cx):List e_:=frs X.outer
def Vis(sc:Scope)(x:Str):Prop:=sc.names.lookup x=a_ .local\/sc.names.lookup x=a_ .cell\/sc.names.lookup x=a_ .free
def Loc(sc:Scope)(x:Str):Prop:=sc.names.lookup x=a_ .local\/sc.names.lookup x=a_ .cell
def Look(env:Env)(h:Heap)(m:Str->Option f_)(x:Str)(u:f_):Prop:=
 (env.kindOf x=a_ .local/\m x=a_ u)\/((env.kindOf x=a_ .cell\/env.kindOf x=a_ .free) /\ ∃c,env.cells.lookup x=a_ c/\h.IsCell c (a_ u))
structure Cx.Ok(X:Cx):Prop where
 mod:Mod X.K X.mg X.base
 kind:X.env.scope.kind=.function
 glob:X.env.globals=mainGlobals
 blt:X.env.builtins=builtinsNs
 above:X.s₀.heap.objs.size<=X.env.locals
 inj:∀x y c,X.env.cells.lookup x=a_ c->X.env.cells.lookup y=a_ c->x=y
 has:∀x,(X.env.kindOf x=a_ .cell\/X.env.kindOf x=a_ .free)->∃c,X.env.cells.lookup x=a_ c
 cab:∀x c,X.fn x=c_->X.env.cells.lookup x=a_ c->X.s₀.heap.objs.size<=c
 hd:X.calm=c_->X.A.handled=b_
 frames:X.A.frames=a_ X.stack
 stk:X.stack=X.outer\/(X.stack=X.env::X.outer/\X.env.frame=a_ X.env.locals)
 exf:∀b∈X.ex,b≠X.env.locals /\ ∀x c,X.env.cells.lookup x=a_ c->c≠b
 bs:∀b o,X.base.get? b=a_ o->X.s₀.heap.get? b=a_ o/\X.H₀ b=b_
 bsz:X.base.objs.size<=X.s₀.heap.objs.size
 noex:∀b o,X.base.get? b=a_ o->b∉X.ex
 exfs:∀b∈X.ex,b∉X.fs
 funs:X.s₀.heap.FunFrames X.base X.outer
 frf:∀b∈X.fs,X.H₀ b=b_
structure Inv(X:Cx)(pins:List (e_×Obj))(σ:List (Option V))(H:Hp)(s:g_):Prop where
 ok:X.Ok
 os:s.os=X.s₀.os
 bare:AllBare s.gens
 base:Un X.fs X.ex X.H₀ H X.s₀.heap s.heap
 loc:∃m,s.heap.Ns X.env.locals m /\ ∀(i:Nat) (x:Str) (v:V),X.N[i]?=a_ x->σ[i]?=a_ (a_ v)->Vis X.env.scope x->∃u,RelV v u/\Look X.env s.heap m x u
 cell:∀x c,X.env.cells.lookup x=a_ c->∃v,s.heap.IsCell c v
 free:H X.env.locals=b_
 freeC:∀x c,X.env.cells.lookup x=a_ c->H c=b_
 pin:∀p∈X.pn++pins,s.heap.get? p.1=a_ p.2/\H p.1=b_/\p.1≠X.env.locals/\p.1∉X.fs /\ ∀v,p.2.data≠.cell v
 hok:HOk X.prog X.w H s.heap
 len:σ.length=X.N.length
section
variable {X:Cx}{pins:List (e_×Obj)}{σ:List (Option V)}{H H':Hp}{s:g_}{h':Heap}
theorem Cx.Ok.nofr(ok:X.Ok)(e:X.base.get? b=a_ o):b∉X.fs:=λhb=>by
 have:=(ok.funs.mem hb).1
 grind
theorem Inv.bs(I:Inv X pins σ H s):∀b o,X.base.get? b=a_ o->s.heap.get? b=a_ o/\H b=b_:=λb o e=>
 ⟨I.base.keep b o (I.ok.bs b o e).1 (I.ok.bs b o e).2 (I.ok.nofr e) (I.ok.noex b o e),I.base.free b o (I.ok.bs b o e).1 (I.ok.bs b o e).2 (I.ok.noex b o e)⟩
theorem Inv.bk(I:Inv X pins σ H s):∀b o,X.base.get? b=a_ o->s.heap.get? b=a_ o:=λb o e=>(I.bs b o e).1
theorem Inv.mod(I:Inv X pins σ H s):Mod X.K X.mg X.base:=I.ok.mod
theorem Inv.kIn(I:Inv X pins σ H s):X.K.In s.heap:=I.ok.mod.kin.keeps I.bk
theorem Inv.lt(I:Inv X pins σ H s):9#6<1#0:=let ⟨_,hn,_⟩:=I.loc;hn.lt
theorem Inv.sz(I:Inv X pins σ H s):16#2<=1#0:=aK I.ok.above (aI I.lt)
theorem Inv.nofs(I:Inv X pins σ H s)(h:1#0<=a):a∉X.fs:=λhb=>by
 obtain⟨_,o,ho,_⟩:=I.ok.funs.mem hb;exact absurd (ai (az ho) (aK I.sz h)) (bu _)
theorem Inv.cne(I:Inv X pins σ H s):∀x c,X.env.cells.lookup x=a_ c->c≠9#6:=λx c e z=>by
 obtain⟨v,o,ho,hd⟩:=I.cell x c e;obtain⟨m,⟨o',es,ep,YX,XS,_⟩,_⟩:=I.loc
 grind
theorem Inv.funs(I:Inv X pins σ H s):s.heap.FunFrames X.base X.outer:=by
 have all:∀(l:List _),(∀b∈frs l,b∈X.fs)->X.s₀.heap.FunFrames X.base l->s.heap.FunFrames X.base l:=by
  intro l
  induction l with
  |nil=>intro _ _;trivial
  | cons env r ih=>
    intro hs hl;obtain⟨hk,⟨L,o,hf,hn,ho,hd⟩,hr⟩:=hl;have hL:=hs L (by unfold frs;simp_all);obtain⟨sl,e⟩:=I.base.slot L o ho (I.ok.frf L hL) hL λz=>I.ok.exfs L z hL;exact⟨hk,⟨L,_,hf,hn,e,hd⟩,ih (λb hb=>hs b (by unfold frs;rw[t8,hf];exact aB _ hb)) hr⟩
 exact all _ (λ_ hb=>hb) I.ok.funs
theorem Inv.stack(I:Inv X pins σ H s):s.heap.FunFrames X.base X.stack:=by
 rcases I.ok.stk with e|⟨e,hf⟩
 .rw[e];exact I.funs
 .rw[e]
  obtain⟨m,hn,_⟩:=I.loc;exact .cons (by rw[I.ok.kind];decide) hf hn (Heap.get?_none_of_le (aK I.ok.bsz I.ok.above)) I.funs
theorem Inv.stkSub(I:Inv X pins σ H s):∀b∈frs X.stack,b∈9#6::X.fs:=λb hb=>by
 rcases I.ok.stk with e|⟨e,hf⟩
 .grind
 .rw[e]at hb
  unfold frs at hb;rw[t8,hf]at hb;exact hb
theorem Inv.stkFree(I:Inv X pins σ H s):∀b∈frs X.stack,H b=b_:=λb hb=>by
 rcases aH.mp (I.stkSub b hb) with e|hb
 .rw[e];exact I.free
 .obtain⟨_,o,ho,_⟩:=I.ok.funs.mem hb
  exact I.base.free b o ho (I.ok.frf b hb) λz=>I.ok.exfs b z hb
variable{g':Array GenState}{t':Nat}{d':Drawn}
theorem Inv.step{ch:List e_}(I:Inv X pins σ H s)
  (Yr:∀b∈ch,(b∈X.ex\/16#2<=b)/\b≠9#6/\21#5 /\ ∀p∈X.pn++pins,p.1≠b)
  (keep:∀b o,b≠9#6->b∉X.fs->b∉ch->s.heap.get? b=a_ o->H b=b_->h'.get? b=a_ o)
  (slot:∀b o,b≠9#6->b∈X.fs->b∉ch->s.heap.get? b=a_ o->H b=b_->∃sl,h'.get? b=a_ { o with slots:=sl }) (free:∀b o,b∉ch->s.heap.get? b=a_ o->H b=b_->H' b=b_)
  (there:∀b o,b∉ch->s.heap.get? b=a_ o->∃o',h'.get? b=a_ o')
  (tups:∀b xs,H b=a_ (.tup xs)->H' b=a_ (.tup xs)) (frzs:∀b o u,H b=a_ (.frz o u)->H' b=a_ (.frz o u)) (tbls:∀b ps,H b=a_ (.tbl ps)->∃more,H' b=a_ (.tbl (ps++more)))
  (ns:∀m,s.heap.Ns X.env.locals m->h'.Ns X.env.locals m) (hok:HOk X.prog X.w H' h') (hg:AllBare g'):
  Inv X pins σ H' { s with heap:=h',gens:=g',drawn:=d',toks:=t' }:=by
 have neL:∀b o,X.s₀.heap.get? b=a_ o->b≠9#6:=λb o e=>aJ (ai (az e) I.ok.above);have neC:∀b o,X.s₀.heap.get? b=a_ o->b∉X.ex->b∉ch:=λb o e hx hb=>by
  rcases (Yr b hb).1 with z|z
  .exact hx z
  .exact absurd (ai (az e) z) (bu _)
 have cellK:∀x c,X.env.cells.lookup x=a_ c->∀v,s.heap.IsCell c v->h'.IsCell c v:=λx c e v ⟨o,ho,hd⟩=>by
  have nch:=λz=>(Yr c z).2.2.1 x c e rfl;by_cases hc:c∈X.fs
  .obtain⟨sl,q⟩:=slot c o (I.cne x c e) hc nch ho (I.freeC x c e)
   exact⟨_,q,hd⟩
  .exact⟨o,keep c o (I.cne x c e) hc nch ho (I.freeC x c e),hd⟩
 refine⟨I.ok,I.os,hg,⟨λb o e n hb hx=>?_,λb o e n hb hx=>?_,λb o e n hx=>?_,λb o e hx=>?_,λb xs e=>tups b xs (I.base.tups b xs e),λb o xs e=>frzs b o xs (I.base.frzs b o xs e),λb ps e=>?_⟩,?_,λx c e=>?_,?_,λx c e=>?_,λp hp=>?_,hok,I.len⟩
 .exact keep b o (neL b o e) hb (neC b o e hx) (I.base.keep b o e n hb hx) (I.base.free b o e n hx)
 .obtain⟨sl,e1⟩:=I.base.slot b o e n hb hx
  obtain⟨sl',e2⟩:=slot b _ (neL b o e) hb (neC b o e hx) e1 (I.base.free b o e n hx);exact⟨_,e2⟩
 .obtain⟨o',e1⟩:=I.base.there b o e hx
  exact free b o' (neC b o e hx) e1 (I.base.free b o e n hx)
 .obtain⟨o',e1⟩:=I.base.there b o e hx
  exact there b o' (neC b o e hx) e1
 .obtain⟨m1,e1⟩:=I.base.tbls b ps e
  grind
 .obtain⟨m,hn,hl⟩:=I.loc
  refine⟨m,ns m hn,λi x v e1 e2 e3=>?_⟩;obtain⟨u,r,l⟩:=hl i x v e1 e2 e3;refine⟨u,r,?_⟩;rcases l with l | ⟨k,c,e,z⟩
  .exact .inl l
  .exact .inr ⟨k,c,e,cellK x c e _ z⟩
 .obtain⟨v,z⟩:=I.cell x c e
  exact⟨v,cellK x c e v z⟩
 .obtain⟨m,⟨o,_,_,ho,_⟩,_⟩:=I.loc
  exact free _ o (λz=>(Yr _ z).2.1 rfl) ho I.free
 .obtain⟨v,o,ho,hd⟩:=I.cell x c e
  exact free c o (λz=>(Yr c z).2.2.1 x c e rfl) ho (I.freeC x c e)
 .obtain⟨e,n,ne,nf,d⟩:=I.pin p hp
  have nch:=λz=>(Yr _ z).2.2.2 p hp rfl;exact⟨keep _ _ ne nf nch e n,free _ _ nch e n,ne,nf,d⟩
theorem Inv.un(I:Inv X pins σ H s)(u:Un X.fs [] H H' s.heap h')(hok:HOk X.prog X.w H' h'):Inv X pins σ H' { s with heap:=h',toks:=t' }:=by
 obtain⟨m,⟨o,es,ep,ho,r⟩,_⟩:=id I.loc;obtain⟨sl,hL⟩:=u.any ho I.free 0#3
 exact I.step (ch:= []) (λ_ z=>nomatch z) (λb o _ hb _ e n=>u.keep b o e n hb 0#3) (λb o _ hb _ e n=>u.slot b o e n hb 0#3) (λb o _ e n=>u.free b o e n 0#3) (λb o _ e=>u.there b o e 0#3) u.tups u.frzs u.tbls (λm' hm=>by
  obtain⟨o',Xw,ep',YX,r'⟩:=hm;rw[ho]at YX;cases YX
  exact⟨_,_,_,hL,r'⟩) hok I.bare
theorem Inv.call{ch:List e_}(I:Inv X pins σ H s)(u:Un (frs X.stack) ch H H' s.heap h')(hok:HOk X.prog X.w H' h')(hg:AllBare g')
  (Yr:∀b∈ch,(b∈X.ex\/16#2<=b)/\b≠9#6/\21#5 /\ ∀p∈X.pn++pins,p.1≠b):
  Inv X pins σ H' { s with heap:=h',gens:=g',drawn:=d',toks:=t' }:=by
 obtain⟨m,⟨o,es,ep,ho,r⟩,_⟩:=id I.loc;obtain⟨sl,hL⟩:=u.any ho I.free λz=>(Yr _ z).2.1 rfl
 exact I.step Yr (λb o hL hb hc e n=>u.keep b o e n (λz=>(aH.mp (I.stkSub b z)).elim hL hb) hc) (λb o _ _ hc e n=>u.any e n hc) (λb o hc e n=>u.free b o e n hc) (λb o hc e=>u.there b o e hc) u.tups u.frzs u.tbls (λm' hm=>by
  obtain⟨o',Xw,ep',YX,r'⟩:=hm;rw[ho]at YX;cases YX
  exact⟨_,_,_,hL,r'⟩) hok hg
theorem Inv.turned{it:e_}(I:Inv X pins σ H s)(k:∀b o,b≠it->s.heap.get? b=a_ o->h'.get? b=a_ o)(hn:H it=b_)(hL:it≠9#6)
  (h1:it∈X.ex\/16#2<=it) (h2:∀x c,X.env.cells.lookup x=a_ c->c≠it) (h3:∀p∈X.pn++pins,p.1≠it):Inv X pins σ H { s with heap:=h',toks:=t' }:=by
 refine I.step (ch:= [it]) (λb hb=>?_) (λb o _ _ hc e _=>k b o (λz=>hc (by simp[z])) e) (λb o _ _ hc e _=>⟨_,k b o (λz=>hc (by simp[z])) e⟩) (λ_ _ _ _ n=>n)
  (λb o hc e=>⟨o,k b o (λz=>hc (by simp[z])) e⟩) (λ_ _ e=>e) (λ_ _ _ e=>e) (λb ps e=>⟨#[],by rw[e];simp⟩) (λm hm=>?_) (λb u e=>?_) I.bare
 .have e:=by simpa using hb
  subst e;exact⟨h1,hL,h2,h3⟩
 .obtain⟨o,es,ep,ho,r⟩:=hm
  exact⟨o,es,ep,k _ o (eI hL) ho,r⟩
 .refine(I.hok b u e).stay (λc v hc q=>k c v ?_ q) (λ_ q=>q) λ_ _ q=>q
  grind
theorem Inv.tok(I:Inv X pins σ H s)(t:Nat):Inv X pins σ H { s with toks:=t }:=I.un Un.refl I.hok
theorem Inv.kept{t':Nat}(I:Inv X pins σ H s)(k:∀b u,s.heap.get? b=a_ u->h'.get? b=a_ u):Inv X pins σ H { s with heap:=h',toks:=t' }:=I.un (Un.kept k) (I.hok.kept k)
theorem Inv.laid{a:e_}{o:HO}{t':Nat}(I:Inv X pins σ H s)(k:∀b u,s.heap.get? b=a_ u->h'.get? b=a_ u)(hp:1#0<=a)(new:ix X.prog X.w (upd H a o) h' a o):
  Inv X pins σ (upd H a o) { s with heap:=h',toks:=t' }:=I.un (Un.laid k hp (I.hok.fresh hp)) (I.hok.laid k hp new)
theorem Inv.write{x e:e_}{o:HO}{t':Nat}(I:Inv X pins σ H s)(mu:Mut (H x))(he:e=x\/H e=a_ (.own x))(k:∀b u,b≠e->s.heap.get? b=a_ u->h'.get? b=a_ u)(heo:∃u,h'.get? e=a_ u)
  (new:ix X.prog X.w (upd H x o) h' x o):Inv X pins σ (upd H x o) { s with heap:=h',toks:=t' }:=I.un (Un.write mu he k heo) (I.hok.write mu he k heo new)
theorem Inv.weak{Y3:List (Option V)}(I:Inv X pins σ H s)(hl:Y3.length=σ.length)(w:∀(i:Nat) v,Y3[i]?=a_ (a_ v)->σ[i]?=a_ (a_ v)):Inv X pins Y3 H s:=
 ⟨I.ok,I.os,I.bare,I.base,let ⟨m,hn,hl'⟩:=I.loc;⟨m,hn,λi x v e1 e2 e3=>hl' i x v e1 (w i v e2) e3⟩,I.cell,I.free,I.freeC,I.pin,I.hok,hl.trans I.len⟩
theorem Inv.pins_of{Xc:List (e_×Obj)}(I:Inv X pins σ H s)(h:∀p∈Xc,s.heap.get? p.1=a_ p.2/\H p.1=b_/\p.1≠9#6/\p.1∉X.fs /\ ∀v,p.2.data≠.cell v):Inv X Xc σ H s:=
 ⟨I.ok,I.os,I.bare,I.base,I.loc,I.cell,I.free,I.freeC,λp hp=>(aQ.mp hp).elim (λz=>I.pin p (bf _ z)) (h p),I.hok,I.len⟩
variable{i:Nat}{x:Str}
theorem Bc{N:List Str}(hN:N.Nodup){j:Nat}(a:N[i]?=a_ x)(b:N[j]?=a_ x):i=j:=by
 obtain⟨h1,e1⟩:=ag.mp a;obtain⟨h2,e2⟩:=ag.mp b;exact(List.getElem_inj hN).mp (e1.trans e2.symm)
variable{M:Model}{A:Around}{E:f_->g_->Prop}{u:f_}{Q:Unit->g_->Prop}
theorem xY{v:V}(I:Inv X pins σ H s)(hN:X.N.Nodup)(hi:X.N[i]?=a_ x)(hx:Loc X.env.scope x)(r:RelV v u)
  (h:∀s',Inv X pins (σ.set i (a_ v)) H s'->(∃a,eT a s.heap s'.heap/\(a=9#6\/X.env.cells.lookup x=a_ a))->Q () s') (hf:autoParam 17#2 au4._auto_1):aD M A (storeName X.env x u) Q E s:=by
 obtain⟨m,hn,hl⟩:=id I.loc;have Z2:i<σ.length:=by rw[I.len];exact(ag.mp hi).1
 have cne:=I.cne;have tracked:∀{a:e_}{h':Heap},(∃o,s.heap.get? a=a_ o/\H a=b_)->eT a _ h'->HOk _ _ H h':=λ{a h'} ha hs b ob e=>by
  obtain⟨_,_,hfree⟩:=ha;refine(I.hok b ob e).stay (λc w' hc q=>(hs.2 c ?_).trans q) (λ_ q=>q) λ_ _ q=>q
  grind
 rcases hx with hk|hk
 .refine wpAny_storeName_local hk hn (λh' hn' hs=>?_) (by rw[I.ok.kind];rfl)
  obtain⟨oL,_,_,YS,_⟩:=id hn;refine h _ ⟨I.ok,I.os,I.bare,⟨λb o e n hb hx=>?_,λb o e n hb hx=>?_,I.base.free,λb o e hx=>?_,I.base.tups,I.base.frzs,I.base.tbls⟩,⟨_,hn',λj y v' e1 e2 e3=>?_⟩,λy c e=>?_,I.free,I.freeC,λp hp=>?_,tracked ⟨oL,YS,I.free⟩ hs,by simpa using I.len⟩ ⟨_,hs,.inl rfl⟩
  .exact(hs.2 b (aJ (ai (az e) I.ok.above))).trans (I.base.keep b o e n hb hx)
  .obtain⟨sl,e1⟩:=I.base.slot b o e n hb hx
   exact⟨sl,(hs.2 b (aJ (ai (az e) I.ok.above))).trans e1⟩
  .obtain⟨o',e1⟩:=I.base.there b o e hx
   exact⟨o',(hs.2 b (aJ (ai (az e) I.ok.above))).trans e1⟩
  .by_cases hj:j=i
   .subst hj
    rw[hi]at e1;cases e1;rw[aV Z2]at e2;cases e2;exact⟨u,r,.inl ⟨hk,by simp⟩⟩
   .rw[aN (eI hj)]at e2
    obtain⟨u',r',q⟩:=hl j y v' e1 e2 e3;refine⟨u',r',?_⟩;rcases q with⟨k,e⟩|⟨k,c,e,z⟩
    .refine .inl ⟨k,?_⟩
     have:y≠x:=λe=>hj (Bc hN e1 (e▸hi))<;>simp_all
    .exact .inr ⟨k,c,e,z.sameBut hs (cne y c e)⟩
  .obtain⟨w',z⟩:=I.cell y c e
   exact⟨w',z.sameBut hs (cne y c e)⟩
  .obtain⟨e,n,ne,nf,d⟩:=I.pin p hp
   exact⟨(hs.2 _ ne).trans e,n,ne,nf,d⟩
 .have Xv:X.fn x=c_:=by
   grind
  obtain⟨c,hc⟩:=I.ok.has x (.inl hk);obtain⟨w',z⟩:=I.cell x c hc;refine wpAny_storeName_cell I.ok.kind hk hc z (λh' W0 hs=>?_);obtain⟨oc,Yh,hocd⟩:=id z;refine h _ ⟨I.ok,I.os,I.bare,⟨λb o e n hb hx=>?_,λb o e n hb hx=>?_,I.base.free,λb o e hx=>?_,I.base.tups,I.base.frzs,I.base.tbls⟩,⟨m,hn.sameBut hs (eI (cne x c hc)),λj y v' e1 e2 e3=>?_⟩,λy c' e=>?_,I.free,I.freeC,λp hp=>?_,tracked ⟨oc,Yh,I.freeC x c hc⟩ hs,by simpa using I.len⟩ ⟨c,hs,.inr hc⟩
  .exact(hs.2 b (aJ (ai (az e) (I.ok.cab x c Xv hc)))).trans (I.base.keep b o e n hb hx)
  .obtain⟨sl,e1⟩:=I.base.slot b o e n hb hx
   exact⟨sl,(hs.2 b (aJ (ai (az e) (I.ok.cab x c Xv hc)))).trans e1⟩
  .obtain⟨o',e1⟩:=I.base.there b o e hx
   exact⟨o',(hs.2 b (aJ (ai (az e) (I.ok.cab x c Xv hc)))).trans e1⟩
  .by_cases hj:j=i
   .subst hj
    rw[hi]at e1;cases e1;rw[aV Z2]at e2;cases e2;exact⟨u,r,.inr ⟨.inl hk,c,hc,W0⟩⟩
   .rw[aN (eI hj)]at e2
    obtain⟨u',r',q⟩:=hl j y v' e1 e2 e3;refine⟨u',r',?_⟩;rcases q with q|⟨k,c',e,z'⟩
    .exact .inl q
    .refine .inr ⟨k,c',e,z'.sameBut hs ?_⟩
     rintro rfl;exact hj (Bc hN e1 (I.ok.inj _ _ _ e hc▸hi))
  .by_cases hcc:c'=c
   .subst hcc;exact⟨_,W0⟩
   .obtain⟨w2,z2⟩:=I.cell y c' e
    exact⟨w2,z2.sameBut hs hcc⟩
  .obtain⟨e,n,ne,nf,d⟩:=I.pin p hp
   refine⟨(hs.2 _ ?_).trans e,n,ne,nf,d⟩;intro q<;>simp_all
theorem rj{v:V}(I:Inv X pins σ H s)(hN:X.N.Nodup)(hi:X.N[i]?=a_ x)(hx:Loc X.env.scope x)(r:RelV v u)
  (h:∀s',Inv X pins (σ.set i (a_ v)) H s'->Q () s') (hf:autoParam 17#2 au4._auto_1):aD M A (storeName X.env x u) Q E s:=
 xY I hN hi hx r (λs' I' _=>h s' I') hf
theorem Inv.call'{s':g_}{ch:List e_}(I:Inv X pins σ H s)(ho:s'.os=s.os)(u:Un (frs X.stack) ch H H' s.heap s'.heap)(hok:HOk X.prog X.w H' s'.heap)(hg:AllBare s'.gens)
  (Yr:∀b∈ch,(b∈X.ex\/16#2<=b)/\b≠9#6/\21#5 /\ ∀p∈X.pn++pins,p.1≠b):Inv X pins σ H' s':=by
 obtain⟨h',g',d',t',o'⟩:=s';subst ho;exact I.call u hok hg Yr
end
abbrev XK:=f_->Option e_->Hp->Prop
abbrev St:=List (Option V)
abbrev VK:=V->Hp->Prop
abbrev TE:=St->Hp->VK->Prop
abbrev TT:=St->Hp->(Bool->Hp->Prop)->Prop
abbrev TA:=St->Hp->(List V->Hp->Prop)->Prop
structure Ends where
 nx:St->Hp->Prop
 rt:VK
 bk:St->Hp->Prop:=λ_ _=>False
 ct:St->Hp->Prop:=λ_ _=>False
abbrev TS:=Ends->St->Hp->Prop
def EP(X:Cx)(pins:List 2#7)(σ:St)(Q:VK)(u:f_)(s':g_):Prop:= ∃v H',Inv X pins σ H' s'/\RelV v u/\Q v H'
def TP(X:Cx)(pins:List 2#7)(σ:St)(Q:Bool->Hp->Prop)(b:Bool)(s':g_):Prop:= ∃H',Inv X pins σ H' s'/\Q b H'
def AP(X:Cx)(pins:List 2#7)(σ:St)(Q:List V->Hp->Prop)(us:List f_)(s':g_):Prop:= ∃vs H',Inv X pins σ H' s'/\cX vs us/\Q vs H'
def SP(X:Cx)(pins:List 2#7)(D:Ends)(f:Flow)(s':g_):Prop:=
 match f with
 |.next=>∃Y3 H',Inv X pins Y3 H' s'/\D.nx Y3 H'
 |.brk=>∃Y3 H',Inv X pins Y3 H' s'/\D.bk Y3 H'
 |.cont=>∃Y3 H',Inv X pins Y3 H' s'/\D.ct Y3 H'
 |.ret u=>∃v Y3 H',Inv X pins Y3 H' s'/\RelV v u/\D.rt v H'
def PE(X:Cx)(e:Expr)(t:TE):Prop:=
 ∀(pins:List 2#7) (s:g_) (σ:St) (H:Hp) (Q:VK),Inv X pins σ H s->t σ H Q->aD 1#5 X.A (eval e X.env) 10#7 X.xe s
def PT(X:Cx)(e:Expr)(t:TT):Prop:=
 ∀(pins:List 2#7) (s:g_) (σ:St) (H:Hp) (Q:Bool->Hp->Prop),Inv X pins σ H s->t σ H Q->aD 1#5 X.A (isTrue e X.env (eval e X.env)) (TP X pins σ Q) X.xe s
def PW(X:Cx)(e:Expr)(t:TT):Prop:=
 ∀(whole:Sem f_) (pins:List 2#7) (s:g_) (σ:St) (H:Hp) (Q:Bool->Hp->Prop),Inv X pins σ H s->t σ H Q->aD 1#5 X.A (isTrue e X.env whole) (TP X pins σ Q) X.xe s
variable{X:Cx}{e:Expr}
theorem PW.pt{t:TT}(h:PW X e t):PT X e t:=h _
def PA(X:Cx)(es:List Expr)(t:TA):Prop:=
 ∀(pos:Pos) (pins:List 2#7) (s:g_) (σ:St) (H:Hp) (Q:List V->Hp->Prop),Inv X pins σ H s->t σ H Q->aD 1#5 X.A (spliced (backTo pos 15#6)) (AP X pins σ Q) X.xe s
def PS(X:Cx)(st:Stmt)(t:TS):Prop:=
 ∀(pins:List 2#7) (s:g_) (σ:St) (H:Hp) (D:Ends),Inv X pins σ H s->t D σ H->aD 1#5 X.A (exec st X.env) (SP X pins D) X.xe s
def PSs(X:Cx)(st:List Stmt)(t:TS):Prop:=
 ∀(pins:List 2#7) (s:g_) (σ:St) (H:Hp) (D:Ends),Inv X pins σ H s->t D σ H->aD 1#5 X.A (execs st X.env) (SP X pins D) X.xe s
variable{M:Model}{A:Around}{E:f_->g_->Prop}
theorem thn{α:Type}{t:Sem α}{Q Q':α->g_->Prop}{s:g_}(h:aD M A t Q E s)(hQ:∀a s,Q a s->Q' a s):aD M A t Q' E s:=dv h hQ λ_ _ x=>x
section
variable {X:Cx}
def Vd(i:Nat):TE:=λσ H Q=>∃v,σ[i]?=a_ (a_ v)/\Q v H
def tC(v:V):TE:=λ_ H Q=>Q v H
variable{x:Str}
theorem HS{i:Nat}{pos:Pos}(hN:X.N[i]?=a_ x)(hv:Vis X.env.scope x)(hd:autoParam (8#3=d_) 9#9)(Z4:autoParam (19#7=d_) 9#9):PE X (.Name x pos) (Vd i):=by
 intro pins s σ H Q I h;obtain⟨v,e,h⟩:=h;obtain⟨m,hn,hl⟩:=I.loc;obtain⟨u,r,l⟩:=hl i x v hN e hv;have fin:EP X _ σ Q u s:=⟨v,H,I,r,h⟩;rcases l with⟨hk,hm⟩|⟨hk,c,hc,Zu⟩
 .exact wpAny_Name (wpAny_loadName_local I.ok.kind hk hn hm fin) hd
 .rcases hk with hk|hk
  .exact wpAny_Name (wpAny_loadName_cell I.ok.kind hk hc Zu fin) hd
  .exact wpAny_Name (wpAny_loadName_free I.ok.kind hk hc Zu fin Z4) hd
theorem RP{i j pos}:PE X (.Constant 4#8 j pos) (tC 4#8):=λ_ _ _ H _ I h=>wpAny_Constant_int ⟨.int i,H,I.tok _,⟨_,rfl⟩,h⟩
theorem Vo{b j pos}:PE X (.Constant (.bool b) j pos) (tC (.bl b)):=λ_ _ _ H _ I h=>Constant_bool ⟨.bl b,H,I,rfl,h⟩
theorem QF{j pos}:PE X (.Constant .none j pos) (tC .non):=λ_ _ _ H _ I h=>Constant_none ⟨.non,H,I,rfl,h⟩
theorem Py{x j pos}:PE X (.Constant (.str x) j pos) (tC (.str x)):=λ_ _ _ H _ I h=>Calls.Constant_str ⟨.str x,H,I.tok _,⟨_,rfl⟩,h⟩
def Gl(X:Cx)(x:Str):Prop:=X.env.kindOf x=a_ .globalImplicit
variable{pins:List (e_×Obj)}{s:g_}{σ:St}{u:f_}{Q:f_->g_->Prop}
theorem uJ{pos:Pos}(I:Inv X pins σ H s)(hg:Gl X x)(hm:X.mg x=a_ u)(h:Q u s)
  (hd:autoParam (8#3=d_) 9#9):aD 1#5 X.A (eval (.Name x pos) X.env) Q E s:=
 Cy I.ok.kind hg (Calls.loadGlobal_global (by rw[I.ok.glob];exact I.mod.glob.keeps I.bk) hm h) hd
theorem ky{pos:Pos}(I:Inv X pins σ H s)(hg:Gl X x)(hm:X.mg x=b_)(hv:bootBuiltins x=a_ u)(h:Q u s)
  (hn:autoParam (x≠"__name__") 9#9) (hd:autoParam (8#3=d_) 9#9):aD 1#5 X.A (eval (.Name x pos) X.env) Q E s:=by
 obtain⟨mb,h1,h2⟩:=I.mod.blt;exact Cy I.ok.kind hg (Calls.loadGlobal_builtin (by rw[I.ok.glob];exact I.mod.glob.keeps I.bk) hm (by rw[I.ok.blt];exact h1.keeps I.bk) ((h2 x hn).trans hv) h) hd
theorem Ng{v:V}{pos:Pos}(hg:Gl X x)(hm:X.mg x=a_ u)(r:RelV v u)(hd:autoParam (8#3=d_) 9#9):PE X (.Name x pos) (tC v):=
 λ_ _ _ H _ I h=>uJ I hg hm ⟨v,H,I,r,h⟩ hd
theorem LJ{v:V}{pos:Pos}(hg:Gl X x)(hm:X.mg x=b_)(hv:bootBuiltins x=a_ u)(r:RelV v u)(hn:autoParam (x≠"__name__") 9#9)(hd:autoParam (8#3=d_) 9#9):PE X (.Name x pos) (tC v):=
 λ_ _ _ H _ I h=>ky I hg hm hv ⟨v,H,I,r,h⟩ hn hd
variable {a b:Expr}{ta tb:TE}{pos:Pos}
def tB(t:TE):TT:=λσ H Q=>t σ H λx H1=>∃c,x=.bl c/\Q c H1
theorem Rg{t:TE}(h:PE X e t)(he:autoParam (∀whole,isTrue e X.env whole=(do let v <- whole;standAt e.pos;holding [v] (truthy v))) au3._auto_1):PT X e (tB t):=by
 intro pins s σ H Q I hw;refine isTrue_plain (thn (h _ s σ H _ I hw) λv s1 ⟨x,H1,I1,r1,q1⟩=>?_) (he _);obtain⟨d,rfl,q⟩:=q1;cases r1;exact eK ⟨H1,I1,q⟩
variable {tA tB':TT}{rest:List Expr}
def Sy(t u:TT):TT:=λσ H Q=>t σ H λc H1=>if c=c_ then u σ H1 Q else Q d_ H1
def tOr(t u:TT):TT:=λσ H Q=>t σ H λc H1=>if c=c_ then Q c_ H1 else u σ H1 Q
def R7(t:TT):TT:=λσ H Q=>t σ H λc H1=>Q (!c) H1
theorem LF(ha:PT X a tA):PW X (.BoolOp .And [a] pos) tA:=by
 intro wh pins s σ H Q I h;refine isTrue_and (thn (ha _ s σ H Q I h) λc s1 e=>?_);cases c with
 |true=>exact isTrue_and_nil e
 |false=>exact e
theorem OY(ha:PT X a tA):PW X (.BoolOp .Or [a] pos) tA:=by
 intro wh pins s σ H Q I h;refine isTrue_or (thn (ha _ s σ H Q I h) λc s1 e=>?_);cases c with
 |false=>exact isTrue_or_nil e
 |true=>exact e
theorem O4(ha:PT X a tA)(hb:PW X (.BoolOp .And (b::rest) pos) tB'):PW X (.BoolOp .And (a::b::rest) pos) (Sy tA tB'):=by
 intro wh pins s σ H Q I h;refine isTrue_and (thn 13#6 λc s1 ⟨H1,I1,q1⟩=>?_);cases c with
 |true=>exact hb wh _ s1 σ H1 Q I1 q1
 |false=>exact⟨H1,I1,q1⟩
theorem Sl(ha:PT X a tA)(hb:PW X (.BoolOp .Or (b::rest) pos) tB'):PW X (.BoolOp .Or (a::b::rest) pos) (tOr tA tB'):=by
 intro wh pins s σ H Q I h;refine isTrue_or (thn 13#6 λc s1 ⟨H1,I1,q1⟩=>?_);cases c with
 |true=>exact⟨H1,I1,q1⟩
 |false=>exact hb wh _ s1 σ H1 Q I1 q1
theorem RV(ha:PT X a tA):PT X (.UnaryOp .Not a pos) (R7 tA):=λpins s σ H Q I h=>isTrue_not 13#6
def OS(ta tb:TE):TE:=λσ H Q=>ta σ H λx H1=>∃c,x=.bl c/\if c=c_ then tb σ H1 Q else Q (.bl d_) H1
def SC(ta tb:TE):TE:=λσ H Q=>ta σ H λx H1=>∃c,x=.bl c/\if c=c_ then Q (.bl c_) H1 else tb σ H1 Q
def OI(ta:TE):TE:=λσ H Q=>ta σ H λx H1=>∃c,x=.bl c/\Q (.bl (!c)) H1
theorem RE{op}{t:TE}(h:PE X a t):PE X (.BoolOp op [a] pos) t:=λpins s σ H Q I hw=>BoolOp_one (h _ s σ H Q I hw)
theorem PY(ha:PE X a ta)(hb:PE X (.BoolOp .And (b::rest) pos) tb):PE X (.BoolOp .And (a::b::rest) pos) (OS ta tb):=by
 intro pins s σ H Q I h;refine BoolOp_and 26#8;obtain⟨c,rfl,q1⟩:=q1;cases r1;refine eK ?_;cases c with
 |true=>exact hb _ s1 σ H1 Q I1 q1
 |false=>exact⟨.bl _,H1,I1,rfl,q1⟩
theorem U3(ha:PE X a ta)(hb:PE X (.BoolOp .Or (b::rest) pos) tb):PE X (.BoolOp .Or (a::b::rest) pos) (SC ta tb):=by
 intro pins s σ H Q I h;refine BoolOp_or 26#8;obtain⟨c,rfl,q1⟩:=q1;cases r1;refine eK ?_;cases c with
 |false=>exact hb _ s1 σ H1 Q I1 q1
 |true=>exact⟨.bl _,H1,I1,rfl,q1⟩
theorem P9(ha:PE X a ta):PE X (.UnaryOp .Not a pos) (OI ta):=by
 intro pins s σ H Q I h;refine UnaryOp_ 26#8;obtain⟨c,rfl,q1⟩:=q1;cases r1;exact not_of (eK ⟨.bl _,H1,I1,rfl,q1⟩)
def tIf(t:TT)(ta tb:TE):TE:=λσ H Q=>t σ H λc H1=>if c=c_ then ta σ H1 Q else tb σ H1 Q
theorem IQ{c:Expr}(hc:PT X c tA)(ha:PE X a ta)(hb:PE X b tb):PE X (.IfExp c a b pos) (tIf tA ta tb):=by
 intro pins s σ H Q I h;refine wpAny_IfExp (thn (hc _ s σ H _ I h) λd s1 ⟨H1,I1,q1⟩=>?_);cases d with
 |true=>exact ha _ s1 σ H1 Q I1 q1
 |false=>exact hb _ s1 σ H1 Q I1 q1
end
def SqL(K:ao)(H:Hp)(a:e_)(xs:List V):Prop:=
 Rd H a (.lst xs) \/
  ∃ (o:Obj) (ZY:Array f_) (n:Nat),K.lookup a=a_ o/\o.cls=.type "list"/\o.dict=b_/\o.data=.seq ZY n/\ZY.size<=sizeLine/\cX xs ZY.toList
def SqT(K:ao)(H:Hp)(a:e_)(xs:List V):Prop:=
 Rd H a (.tup xs) \/
  ∃ (o:Obj) (ZY:Array f_) (n:Nat),K.lookup a=a_ o/\o.cls=.type "tuple"/\o.data=.seq ZY n/\ZY.size<=sizeLine/\cX xs ZY.toList
def V3:f_->Option V
 |.none=>a_ .non
 |.bool b=>a_ (.bl b)
 |.int i _=>a_ 4#8
 |.str x _=>a_ (.str x)
 |.bytes b _=>a_ (.byt b)
 |.float b _=>a_ (.flt b)
 |.ref a=>a_ (.ref a)
 |.type n=>a_ (.ty n)
 |_=>b_
variable{u:f_}{x:V}
theorem RelV.abs(r:RelV x u):V3 u=a_ x:=by
 cases x with
 |non=>cases r;rfl
 |bl _=>cases r;rfl
 |int _=>obtain⟨t,rfl⟩:=r;rfl
 |str _=>obtain⟨t,rfl⟩:=r;rfl
 |byt _=>obtain⟨t,rfl⟩:=r;rfl
 |flt _=>obtain⟨t,rfl⟩:=r;rfl
 |ref _=>cases r;rfl
 |ty _=>cases r;rfl
theorem RelV.inj{y:V}(r:RelV x u)(q:RelV y u):x=y:=eR (r.abs.symm.trans q.abs)
theorem cX.inj:∀{xs ys:List V}{us:List f_},cX xs us->cX ys us->xs=ys:=by
 intro xs ys us h
 induction h generalizing ys with
 |nil=>intro q;cases q;rfl
 |cons r t ih=>intro q;cases q with |cons r' t'=>rw[r.inj r',ih t']
section
variable {X:Cx}{pins:List (e_×Obj)}{σ:St}{H:Hp}{s:g_}{a:e_}{xs ys:List V}
theorem SqL.of{K:ao}(h:H a=a_ (.lst xs)):SqL K H a xs:= .inl (.inl h)
theorem SqT.of{K:ao}(h:H a=a_ (.tup xs)):SqT K H a xs:= .inl (.inl h)
theorem Inv.list(I:Inv X pins σ H s)(h:SqL X.K H a xs):∃ZY:List f_,cX xs ZY/\PlainL s.heap a ZY.toArray/\1#4<=sizeLine:=by
 rcases h with h|⟨o,ZY,n,hk,hc,hd,hs,hz,r⟩
 .obtain⟨z,ZY,n,r,e⟩:=h.ok I.hok
  exact⟨_,r,⟨_,n,e,rfl,rfl,rfl⟩,z⟩
 .refine⟨_,r,⟨o,n,I.kIn a o hk,hc,hd,by omega⟩,?_⟩
  have e:=r.length
  grind
theorem Inv.tuple(I:Inv X pins σ H s)(h:SqT X.K H a xs):∃ZY:List f_,cX xs ZY/\IsTup s.heap a ZY.toArray/\1#4<=sizeLine:=by
 rcases h with h|⟨o,ZY,n,hk,hc,hs,hz,r⟩
 .obtain⟨z,ZY,r,p⟩:=h.ok I.hok
  exact⟨_,r,p.1,z⟩
 .refine⟨_,r,⟨o,I.kIn a o hk,hc,n,by omega⟩,?_⟩
  have e:=r.length
  simp_all
theorem Inv.list_inj(I:Inv X pins σ H s)(h:SqL X.K H a xs)(h':SqL X.K H a ys):xs=ys:=by
 obtain⟨ZY,r,⟨o,n,e,_,_,d⟩,_⟩:=I.list h;obtain⟨Zg,r',⟨o',n',e',_,_,d'⟩,_⟩:=I.list h';have:ZY=Zg:=by grind
 subst this;exact r.inj r'
theorem Inv.tuple_inj(I:Inv X pins σ H s)(h:SqT X.K H a xs)(h':SqT X.K H a ys):xs=ys:=by
 obtain⟨ZY,r,⟨o,e,_,n,d⟩,_⟩:=I.tuple h;obtain⟨Zg,r',⟨o',e',_,n',d'⟩,_⟩:=I.tuple h';have:ZY=Zg:=by grind
 subst this;exact r.inj r'
end
abbrev Cx.wish(X:Cx)(E:f_->g_->Prop):Cx:={ X with xe:=E }
abbrev Cx.nox(X:Cx):Cx:=X.wish λ_ _=>False
theorem Cx.Ok.wish(ok:X.Ok)(E:f_->g_->Prop):(X.wish E).Ok:=
 ⟨ok.mod,ok.kind,ok.glob,ok.blt,ok.above,ok.inj,ok.has,ok.cab,ok.hd,ok.frames,ok.stk,ok.exf,ok.bs,ok.bsz,ok.noex,ok.exfs,ok.funs,ok.frf⟩
theorem Cx.Ok.unwish(ok:(X.wish E).Ok):X.Ok:=
 ⟨ok.mod,ok.kind,ok.glob,ok.blt,ok.above,ok.inj,ok.has,ok.cab,ok.hd,ok.frames,ok.stk,ok.exf,ok.bs,ok.bsz,ok.noex,ok.exfs,ok.funs,ok.frf⟩
section
variable {X:Cx}{pins:List (e_×Obj)}{σ:St}{H:Hp}{s:g_}{E:f_->g_->Prop}
theorem Inv.wish(I:Inv X pins σ H s)(E:f_->g_->Prop):Inv (X.wish E) pins σ H s:=⟨I.ok.wish E,I.os,I.bare,I.base,I.loc,I.cell,I.free,I.freeC,I.pin,I.hok,I.len⟩
theorem Inv.unwish(I:Inv (X.wish E) pins σ H s):Inv X pins σ H s:=⟨I.ok.unwish,I.os,I.bare,I.base,I.loc,I.cell,I.free,I.freeC,I.pin,I.hok,I.len⟩
theorem SP.unwish{D:Ends}{f:Flow}{s':g_}(h:SP (X.wish E) pins D f s'):SP X pins D f s':=by
 cases f with
 |next=>obtain⟨Y3,H',I,q⟩:=h;exact⟨_,H',I.unwish,q⟩
 |brk=>obtain⟨Y3,H',I,q⟩:=h;exact⟨_,H',I.unwish,q⟩
 |cont=>obtain⟨Y3,H',I,q⟩:=h;exact⟨_,H',I.unwish,q⟩
 |ret u=>obtain⟨v,Y3,H',I,r,q⟩:=h;exact⟨v,_,H',I.unwish,r,q⟩
theorem PSs.nox{st:List Stmt}{t:TS}(h:PSs X.nox st t):PSs X st t:=λpins s σ H D I hw=>
 dv (h _ s σ H D (I.wish _) hw) (λ_ _ q=>q.unwish) λ_ _ z=>en z
end
section
variable {X:Cx}{st:Stmt}{rest:List Stmt}{t u:TS}{e:Expr}{te:TE}{pos:Pos}
def KS:TS:=λD σ H=>D.nx σ H
def Sj(t u:TS):TS:=λD σ H=>t { D with nx:=u D } σ H
theorem Mt:PSs X [] KS:=λ_ _ σ H _ I h=>t9 ⟨σ,H,I,h⟩
theorem Ik(h1:PS X st t)(h2:PSs X rest u):PSs X (st::rest) (Sj t u):=by
 intro pins s σ H D I h;refine wpAny_execs_cons (thn (h1 _ s σ H _ I h) λf s1 q=>?_);cases f with
 | next=>
   obtain⟨Y3,H',I',q⟩:=q;exact h2 _ s1 _ H' D I' q
 |ret v=>exact q
 |brk=>exact q
 |cont=>exact q
theorem Ml(h1:PS X st t):PSs X [st] t:=by
 intro pins s σ H D I h;refine wpAny_execs_cons (thn (h1 _ s σ H D I h) λf s1 q=>?_);cases f with
 |next=>exact t9 q
 |ret v=>omega
 |brk=>omega
 |cont=>omega
def Pg:TS:=λD σ H=>D.bk σ H
def U5:TS:=λD σ H=>D.ct σ H
theorem Mw:PS X (.Pass pos) KS:=λ_ _ σ H _ I h=>wpAny_Pass ⟨σ,H,I,h⟩
theorem Jf:PS X (.Break pos) Pg:=λ_ _ σ H _ I h=>wpAny_Break ⟨σ,H,I,h⟩
theorem AH:PS X (.Continue pos) U5:=λ_ _ σ H _ I h=>wpAny_Continue ⟨σ,H,I,h⟩
theorem Inv.quiet{pins:List (e_×Obj)}{σ:St}{s:g_}(I:Inv X pins σ H s):interactive X.env=d_:=by simp[interactive,I.ok.kind]
def OA(te:TE):TS:=λD σ H=>te σ H λ_ H1=>D.nx σ H1
theorem NU(he:PE X e te)(hs:autoParam (swapsWith e b_ pos.line X.env=pure d_) 1#6):PS X (.Expr e pos) (OA te):=λpins s σ H D I h=>wpAny_Expr_any (thn (he _ s σ H _ I h) λv s1 ⟨x,H1,I1,r1,q1⟩=>⟨σ,H1,I1,q1⟩) I.quiet hs
def Sg(te:TE):TS:=λD σ H=>te σ H D.rt
theorem Qh(he:PE X e te):PS X (.Return (a_ e) pos) (Sg te):=λpins s σ H D I h=>wpAny_Return_some (thn (he _ s σ H _ I h) λv s1 ⟨x,H1,I1,r1,q1⟩=>⟨x,σ,H1,I1,r1,q1⟩)
def Su:TS:=λD _ H=>D.rt .non H
theorem LD:PS X (.Return b_ pos) Su:=λ_ _ σ H _ I h=>wpAny_Return_none ⟨.non,σ,H,I,rfl,h⟩
def UL(c:TT)(t u:TS):TS:=λD σ H=>c σ H λb H1=>if b=c_ then t D σ H1 else u D σ H1
theorem Tn{c:Expr}{a b:List Stmt}{tc:TT}(hc:PT X c tc)(ha:PSs X a t)(hb:PSs X b u):PS X (.If c a b pos) (UL tc t u):=by
 intro pins s σ H D I h;refine wpAny_If (thn (hc _ s σ H _ I h) λd s1 ⟨H1,I1,q1⟩=>?_);cases d with
 |true=>exact ha _ s1 σ H1 D I1 q1
 |false=>exact hb _ s1 σ H1 D I1 q1
end
abbrev TG:=V->St->Hp->(St->Hp->Prop)->Prop
abbrev TGs:=List V->St->Hp->(St->Hp->Prop)->Prop
def PG(X:Cx)(target:Expr)(t:TG):Prop:=
 ∀(pins:List 2#7) (s:g_) (σ:St) (H:Hp) (v:V) (u:f_) (Q:St->Hp->Prop),Inv X pins σ H s->RelV v u->t v σ H Q ->
  aD 1#5 X.A (assign target X.env u) (λ_ s'=>∃Y3 H',Inv X pins Y3 H' s'/\Q Y3 H') X.xe s
def PGs(X:Cx)(ts:List Expr)(t:TGs):Prop:=
 ∀(pins:List 2#7) (s:g_) (σ:St) (H:Hp) (vs:List V) (us:List f_) (Q:St->Hp->Prop),Inv X pins σ H s->cX vs us->t vs σ H Q ->
  aD 1#5 X.A (assignInOrder ((assignEach ts X.env).map (·.2)) us) (λ_ s'=>∃Y3 H',Inv X pins Y3 H' s'/\Q Y3 H') X.xe s
abbrev Ij:=V->V->V->Hp->(Hp->Prop)->Prop
def Ph(X:Cx)(t:Ij):Prop:=
 ∀(pins:List 2#7) (s:g_) (σ:St) (H:Hp) (o i v:V) (ov iv u:f_) (Q:Hp->Prop),Inv X pins σ H s->RelV o ov->RelV i iv->RelV v u->t o i v H Q ->
  aD 1#5 X.A (setItem ov iv u) (λ_ s'=>∃H',Inv X pins σ H' s'/\Q H') X.xe s
abbrev TIp:=V->V->Hp->VK->Prop
def PIp(X:Cx)(op:Operator)(t:TIp):Prop:=
 ∀(pins:List 2#7) (s:g_) (σ:St) (H:Hp) (x y:V) (v u:f_) (Q:VK),Inv X pins σ H s->RelV x v->RelV y u->t x y H Q ->
  aD 1#5 X.A (inplaceOp op v u) 10#7 X.xe s
section
variable {X:Cx}{pos:Pos}
def j6(i:Nat):TG:=λv σ H Q=>Q (σ.set i (a_ v)) H
variable{i:Nat}
theorem Fm{x:Str}(hN:X.N.Nodup)(hi:X.N[i]?=a_ x)(hx:Loc X.env.scope x)(hf:autoParam 17#2 au4._auto_1):PG X (.Name x pos) (j6 i):=λpins s σ H v u Q I r h=>Cz (rj I hN hi hx r (λs' I'=>⟨_,H,I',h⟩) hf)
def Th:TGs:=λvs σ H Q=>vs=[]/\Q σ H
def OQ(t:TG)(u:TGs):TGs:=λvs σ H Q=>∃v r,vs=v::r/\t v σ H λY3 H'=>u r Y3 H' Q
theorem Md:PGs X [] Th:=by
 intro pins s σ H vs us Q I r h;obtain⟨e,h⟩:=h;exact assignInOrder_nil ⟨σ,H,I,h⟩
variable{es:List Expr}
theorem Ja{t:TG}{u:TGs}(h1:PG X e t)(h2:PGs X es u)
  (hs:autoParam ((assignEach 2#0 X.env).map (·.2)=assign e X.env::(assignEach es X.env).map (·.2)) 1#6):PGs X 2#0 (OQ t u):=by
 intro pins s σ H vs us Q I r h;obtain⟨v,vr,e1,h⟩:=h;subst e1;cases r with
 | cons r rr=>
   rw[hs];exact assignInOrder_cons (thn (h1 _ s σ H _ _ _ I r h) λ_ s1 ⟨_,H1,I1,q1⟩=>(h2 _ s1 _ H1 _ _ Q I1 rr q1))
def Uq(K:ao)(n:Nat)(t:TGs):TG:=λv σ H Q=>∃a xs,v=.ref a/\SqT K H a xs/\1#4=n/\t xs σ H Q
theorem Pj{k:Nat}{t:TGs}{n:Nat}(hc:X.calm=c_)(h:PGs X es t)
  (hn:autoParam ((assignEach es X.env).length=n) 1#6) (ZW:autoParam ((assignEach es X.env).findIdx? (·.1)=b_) 1#6):PG X (.Tuple es k pos) (Uq X.K n t):=by
 intro pins s σ H v u Q I r hw;obtain⟨a,xs,e1,hq,hl,hw⟩:=hw;subst e1;cases r;obtain⟨ZY,rv,ht,hz⟩:=I.tuple hq;exact assign_Tuple_tuple 11#3 ht (by simp[hn,<-hl,rv.length]) ZW λh' hx=>(h _ _ σ H xs _ Q (I.kept (t':=s.toks) λb o e=>hx b o (aJ (az e)) e) 2#3 hw)
def Se(to ti:TE)(t:Ij):TG:=λv σ H Q=>to σ H λo H1=>ti σ H1 λi H2=>t o i v H2 λH3=>Q σ H3
theorem Q5{o i:Expr}{to ti:TE}{t:Ij}(ho:PE X o to)(hi:PE X i ti)(hs:Ph X t)
  (ha:autoParam (∀v,assign (.Subscript o i pos) X.env v=(do
   let ov <- holding [v] (eval o X.env)
   let iv <- holding [v,ov] (eval i X.env)
   standAt pos
   holding [v,ov,iv] (setItem ov iv v)
   release [v,ov,iv] [])) au3._auto_1):PG X (.Subscript o i pos) (Se to ti t):=by
 intro pins s σ H v u Q I r h;rw[ha];exact ab (dF (thn (ho _ s σ H _ I h) λov s1 ⟨x,H1,I1,r1,q1⟩=>(ab (dF (thn (hi _ s1 σ H1 _ I1 q1) λiv s2 ⟨y,H2,I2,r2,q2⟩=>(ab (wpAny_standAt (ab (dF (thn (hs _ s2 σ H2 x y v ov iv u _ I2 r1 r2 r q2) λ_ s3 ⟨H3,I3,q3⟩=>(wpAny_release ⟨σ,H3,I3,q3⟩)))))))))))
def F7(te:TE)(g:TG):TS:=λD σ H=>te σ H λx H1=>g x σ H1 D.nx
variable{te:TE}
theorem K6{tg:Expr}{g:TG}(he:PE X e te)(hg:PG X tg g)(hs:autoParam (swapsWithSole [tg] e pos.line X.env=pure d_) 1#6)(hw:autoParam (swappedStores [tg] e X.env=pure b_) 1#6)
  (h1:autoParam ((assignEach [tg] X.env).map (·.2)=[assign tg X.env]) 1#6):PS X (.Assign [tg] e pos) (F7 te g):=by
 intro pins s σ H D I h;refine wpAny_Assign_stores (thn (he _ s σ H _ I h) λv s1 ⟨x,H1,I1,r1,q1⟩=>?_) hs hw;rw[h1];exact thn (hg _ s1 σ H1 x v _ I1 r1 q1) λ_ s2 q=>q
variable{pos':Pos}
theorem Rk{x:Str}(hN:X.N.Nodup)(hi:X.N[i]?=a_ x)(hx:Loc X.env.scope x)(he:PE X e te)(hs:autoParam (swapsWith e (a_ (.Name x pos')) pos.line X.env=pure d_) 1#6)(hf:autoParam 17#2 au4._auto_1):
  PS X (.Assign [.Name x pos'] e pos) (F7 te (j6 i)):=λpins s σ H D I h=>wpAny_Assign_Name (thn (he _ s σ H _ I h) λv s1 ⟨y,H1,I1,r1,q1⟩=>(rj I1 hN hi hx r1 (λs2 I2=>⟨_,H1,I2,q1⟩) hf)) hs
def Vh(i:Nat)(te:TE)(ti:TIp):TS:=λD σ H=>∃x,σ[i]?=a_ (a_ x)/\te σ H λy H1=>ti x y H1 λz H2=>D.nx (σ.set i (a_ z)) H2
theorem Pk{x:Str}{op:Operator}{ti:TIp}(hN:X.N.Nodup)(hi:X.N[i]?=a_ x)(hx:Loc X.env.scope x)(he:PE X e te)(ho:PIp X op ti)(hf:autoParam 17#2 au4._auto_1):
  PS X (.AugAssign (.Name x pos') op e pos) (Vh i te ti):=by
 intro pins s σ H D I h;obtain⟨v,e1,h⟩:=h;obtain⟨m,hn,hl⟩:=I.loc;obtain⟨u,r,l⟩:=hl i x v hi e1 (by rcases hx with k |k;exact .inl k;exact .inr (.inl k));refine wpAny_AugAssign_Name ?_;have go:aD 1#5 X.A (eval e X.env) (λw ZX=>aD 1#5 X.A (inplaceOp op u w) (λr YJ=>aD 1#5 X.A (storeName X.env x r) (λ_=>SP X pins D .next) X.xe YJ) X.xe ZX) X.xe s:=thn (he pins s σ H _ I h) λw s1 ⟨y,H1,I1,r1,q1⟩=>(thn (ho pins s1 σ H1 v y u w _ I1 r r1 q1) λz s2 ⟨zv,H2,I2,r2,q2⟩=>(rj I2 hN hi hx r2 (λs3 I3=>⟨_,H2,I3,q2⟩) hf));rcases l with⟨hk,hm⟩ | ⟨hk,c,hc,Zu⟩
 .exact wpAny_loadName_local I.ok.kind hk hn hm go
 .rcases hk with hk|hk
  .exact wpAny_loadName_cell I.ok.kind hk hc Zu go
  .rcases hx with k|k
   .have:X.env.scope.names.lookup x=a_ .free:=hk
    rw[k]at this;cases this
   .have:X.env.scope.names.lookup x=a_ .free:=hk
    rw[k]at this;cases this
def ipI(f:Int->Int->Int):TIp:=λx y H Q=>∃i j,x=.int i/\y=.int j/\Q (.int (f i j)) H
theorem OW:PIp X .Add (ipI λi j=>i+j):=by
 intro pins s σ H x y v u Q I r1 r2 h;obtain⟨i,j,e1,e2,q⟩:=h;subst e1;subst e2;obtain⟨t,rfl⟩:=r1;obtain⟨t',rfl⟩:=r2;exact iadd_int 22#0
end
section
variable {X:Cx}{pos:Pos}
def Iz(c:TT)(tb:TS):TS:=λD σ H=>∃W:Nat->St->Hp->Prop,(∃m,W m σ H) /\ ∀m σ H,W m σ H ->
 c σ H λb H1=>if b=c_ then ∃N:St->Hp->Prop,(∀Y3 H',N Y3 H'->∃m',m'<m/\W m' Y3 H')/\tb { D with nx:=N,ct:=N,bk:=D.nx } σ H1 else D.nx σ H1
theorem J6{c:Expr}{body:List Stmt}{tc:TT}{tb:TS}(hp:PassesOwn 1#5 X.A X.env X.xe)(hc:PT X c tc)(hb:PSs X body tb):PS X (.While c body [] pos) (Iz tc tb):=by
 intro pins s σ H D I h;obtain⟨W,⟨m0,w0⟩,turn⟩:=h;refine wpAny_While (codeAny_whileLoop (λn s'=>∃Y3 H',Inv X _ Y3 H' s'/\W n Y3 H') ?_ m0 ⟨σ,H,I,w0⟩);rintro n s1 ⟨Y8,H1,I1,w1⟩;refine iz hp (thn (hc _ s1 _ H1 _ I1 (turn n _ H1 w1)) λb s2 ⟨H2,I2,q2⟩=>?_);cases b with
 | true=>
   obtain⟨N,hN,q2⟩:=q2;refine iz hp (thn (hb _ s2 _ H2 _ I2 q2) λf s3 q3=>?_);cases f with
   | next=>
     obtain⟨X8,H3,I3,n3⟩:=q3;obtain⟨m',hm,w3⟩:=hN _ H3 n3;exact⟨m',hm,_,H3,I3,w3⟩
   | cont=>
     obtain⟨X8,H3,I3,n3⟩:=q3;obtain⟨m',hm,w3⟩:=hN _ H3 n3;exact⟨m',hm,_,H3,I3,w3⟩
   |brk=>exact q3
   |ret v=>exact q3
 | false=>
   exact t9 ⟨_,H2,I2,q2⟩
end
structure It where
 go:Nat->Hp->Prop
 yld:Nat->Hp->V->Hp->Prop
 stop:Nat->Hp->Prop
def vI(X:Cx)(pins:List 2#7)(H:Hp)(b:e_):Prop:=
 H b=b_/\b≠9#6/\b∉X.fs/\(b∈X.ex\/16#2<=b)/\21#5 /\ ∀p∈X.pn++pins,p.1≠b
variable{pins:List (e_×Obj)}{s:g_}{σ:St}
theorem Inv.fpOk{H':Hp}(I:Inv X pins σ H s)(hb:1#0<=b)(hn:H' b=b_):vI X pins H' b:=by
 refine⟨hn,dW (ai I.lt hb),I.nofs hb,.inr (aK I.sz hb),λx c e z=>?_,λp hp z=>?_⟩
 .obtain⟨v,q⟩:=I.cell x c e
  exact absurd (ai q.lt (by rw[z];omega)) (bu _)
 .exact absurd (ai (az (I.pin p hp).1) (by rw[z];omega)) (bu _)
structure Turn(P:Program)(w:World)(K:ao)(tg:Expr)(J:It)(fp:List e_)(it:e_)(tn:Nat->Heap->Prop):Prop where
 mem:it∈fp
 obj:∀i h,tn i h->∀b∈fp,∃o,h.get? b=a_ o /\ ∀v,o.data≠.cell v
 keep:∀i h h',tn i h->(∀b∈fp,∀o,h.get? b=a_ o->h'.get? b=a_ o)->tn i h'
 item:∀(X:Cx),X.prog=P->X.w=w->X.K=K->X.calm=c_->∀(i:Nat) (pins:List (e_×Obj)) (s:g_) (σ:St) (H:Hp) (E:f_->g_->Prop),Inv X pins σ H s->(∀b∈fp,vI X pins H b)->tn i s.heap->J.go i H ->
  aD (model P w) X.A (pyNext (.ref it)) (λr s1 =>∃u,r=a_ u /\
   aD (model P w) X.A (letOwnedTupleGo tg (.ref it) u) (λ_ s2 =>∃x H',Inv X pins σ H' s2/\RelV x u/\J.yld i H x H'/\tn (i+1) s2.heap /\ ∀b∈fp,H' b=b_) E s1) E s
 done:∀(X:Cx),X.prog=P->X.w=w->X.K=K->X.calm=c_->∀(i:Nat) (pins:List (e_×Obj)) (s:g_) (σ:St) (H:Hp) (E:f_->g_->Prop),Inv X pins σ H s->(∀b∈fp,vI X pins H b)->tn i s.heap->J.stop i H ->
  aD (model P w) X.A (pyNext (.ref it)) (λr s1=>r=b_/\Inv X pins σ H s1) E s
 self:∀(A:Around) (i:Nat) (s:g_) (Q:f_->g_->Prop) (E:f_->g_->Prop),tn i s.heap->Q (.ref it) s->aD (model P w) A (pyIter (.ref it)) Q E s
abbrev TI:=St->Hp->(It->Hp->Prop)->Prop
def PIE(X:Cx)(pins:List 2#7)(σ:St)(tg:Expr)(R:It->Hp->Prop)(itv:f_)(s2:g_):Prop:=
 ∃(it:e_) (fp:List e_) (tn:Nat->Heap->Prop) (J:It) (H':Hp),itv=.ref it/\Inv X pins σ H' s2/\Turn X.prog X.w X.K tg J fp it tn/\tn 0 s2.heap/\(∀b∈fp,vI X pins H' b)/\R J H'
def PI(X:Cx)(tg iter:Expr)(wi:TI):Prop:=
 ∀(pins:List 2#7) (s:g_) (σ:St) (H:Hp) (R:It->Hp->Prop),Inv X pins σ H s->wi σ H R ->
  aD 1#5 X.A (eval iter X.env) (λv s1=>aD 1#5 X.A (pyIter v) (PIE X pins σ tg R) X.xe s1) X.xe s
variable{tg:Expr}
theorem FG{it:e_}{n:String}{vs:Array f_}{Q:Unit->g_->Prop}(ho:s.heap.get? it=a_ o)(hc:o.cls=.type n)(hd:o.data=.fields vs)
  (hn : ["enumerate","zip","dict_itemiterator","dict_reverseitemiterator","odict_iterator","itertools.zip_longest","itertools.pairwise"].contains n=d_) (hQ:Q () s):aD M A (letOwnedTupleGo tg (.ref it) u) Q E s:=by
 cases tg<;>first
  |exact aj hQ
  | (cases u <;> first
    |exact aj hQ
    | (refine ab (Au ho ?_)
       rw[hc,hd];show aD M A (if (["enumerate","zip","dict_itemiterator","dict_reverseitemiterator","odict_iterator","itertools.zip_longest","itertools.pairwise"].contains n&&vs[0]? == a_ _)=c_ then _ else _) Q E s;rw[if_neg 10#0]
       exact aj hQ))
def Itl(K:ao)(a:e_):It:=
 ⟨λi H=>∃xs x,SqL K H a xs/\xs[i]?=a_ x,λi H x H'=>H'=H /\ ∀xs,SqL K H a xs->xs[i]?=a_ x,λi H=>∃xs,SqL K H a xs/\1#4<=i⟩
def Itt(K:ao)(a:e_):It:=
 ⟨λi H=>∃xs x,SqT K H a xs/\xs[i]?=a_ x,λi H x H'=>H'=H /\ ∀xs,SqT K H a xs->xs[i]?=a_ x,λi H=>∃xs,SqT K H a xs/\1#4<=i⟩
def Itr(lo:Int)(n:Nat):It:=⟨λi _=>i<n,λi H x H'=>H'=H/\x=.int (lo+i),λi _=>n<=i⟩
variable{K:ao}
theorem Gq(a it:e_):Turn P w K tg (Itl K a) [it] it (λi h=>h.IsListIter it a i) where
 mem:=by simp
 obj:=λi h st b hb=>by
  have e:=by simpa using hb
  obtain⟨o,e,c,d⟩:=st
  simp_all
 keep:=λi h h' st k=>st.at λo e=>k it 0#3 o e
 item:=by
  intro X hP hw hK hc i pins s σ H E I hf st hg;subst hP hw hK;obtain⟨xs,x,hq,hx⟩:=hg;obtain⟨ZY,rv,p,hz⟩:=I.list hq;obtain⟨u,hu,ru⟩:=rv.get hx;obtain⟨f0,f1,f2,f3,f4,f5⟩:=hf it 0#3;refine wpAny_pyNext_list_item st p.isList (by simpa using hu) λh' Z' sb=>?_;obtain⟨o,e,c,d⟩:=id Z';exact⟨u,rfl,FG e c d 0#2 ⟨x,H,(I.turned (t':=s.toks) (λb o hb e=>(sb.2 b hb).trans e) f0 f1 f3 f4 f5),ru,⟨rfl,λys hy=>by rw[I.list_inj hy hq];lia⟩,Z',λb hb=>(hf b hb).1⟩⟩
 done:=by
  intro X hP hw hK hc i pins s σ H E I hf st hg;subst hP hw hK;obtain⟨xs,hq,hx⟩:=hg;obtain⟨ZY,rv,p,hz⟩:=I.list hq;obtain⟨f0,f1,f2,f3,f4,f5⟩:=hf it 0#3;have hl:=rv.length;exact wpAny_pyNext_list_end 11#3 st p.isList 8#8 λh' eb=>24#9
 self:=λ_ _ _ _ _ st h=>wpAny_pyIter_listiter st h
theorem Ds(a it:e_):Turn P w K tg (Itt K a) [it] it (λi h=>h.IsTupleIter it a i) where
 mem:=by simp
 obj:=λi h st b hb=>by
  have e:=by simpa using hb
  obtain⟨o,e,c,d⟩:=st
  simp_all
 keep:=λi h h' st k=>st.at λo e=>k it 0#3 o e
 item:=by
  intro X hP hw hK hc i pins s σ H E I hf st hg;subst hP hw hK;obtain⟨xs,x,hq,hx⟩:=hg;obtain⟨ZY,rv,p,hz⟩:=I.tuple hq;obtain⟨u,hu,ru⟩:=rv.get hx;obtain⟨f0,f1,f2,f3,f4,f5⟩:=hf it 0#3;refine wpAny_pyNext_tuple_item st (p) (by simpa using hu) λh' Z' sb=>?_;obtain⟨o,e,c,d⟩:=id Z';exact⟨u,rfl,FG e c d 0#2 ⟨x,H,(I.turned (t':=s.toks) (λb o hb e=>(sb.2 b hb).trans e) f0 f1 f3 f4 f5),ru,⟨rfl,λys hy=>by rw[I.tuple_inj hy hq];lia⟩,Z',λb hb=>(hf b hb).1⟩⟩
 done:=by
  intro X hP hw hK hc i pins s σ H E I hf st hg;subst hP hw hK;obtain⟨xs,hq,hx⟩:=hg;obtain⟨ZY,rv,p,hz⟩:=I.tuple hq;obtain⟨f0,f1,f2,f3,f4,f5⟩:=hf it 0#3;have hl:=rv.length;exact wpAny_pyNext_tuple_end 11#3 st (p) 8#8 λh' eb=>24#9
 self:=λ_ _ _ _ _ st h=>wpAny_pyIter_tupleiter st h
theorem DK(it:e_)(lo:Int)(n:Nat):Turn P w K tg (Itr lo n) [it] it (λi h=>IsRangeIter h it (lo+(i:Nat)*1) ((n:Int)-(i:Nat)) 1) where
 mem:=by simp
 obj:=λi h st b hb=>by
  simp_all
 keep:=λi h h' st k=>k it 0#3 _ st
 item:=by
  intro X hP hw hK hc i pins s σ H E I hf st hg;subst hP hw hK;obtain⟨f0,f1,f2,f3,f4,f5⟩:=hf it 0#3;refine(Walks.range (prog:=X.prog) (w:=X.w) 11#3 it lo 1 n).item i s _ _ hg st λv h' tk hv Z' kk=>?_;obtain⟨t,rfl⟩:=hv;refine⟨_,rfl,FG Z' rfl rfl 0#2 ⟨.int _,H,(I.turned (λb o hb e=>kk b o (by simpa using hb) e) f0 f1 f3 f4 f5),⟨t,?_⟩,⟨rfl,rfl⟩,Z',λb hb=>(hf b hb).1⟩⟩<;>simp_all
 done:=by
  intro X hP hw hK hc i pins s σ H E I hf st hg;obtain⟨f0,f1,f2,f3,f4,f5⟩:=hf it 0#3;exact wpAny_pyNext_range_end 11#3 st (by have:n<=i:=hg;lia) λh' eb=>24#9
 self:=λ_ _ _ _ _ st h=>wpAny_pyIter_rangeiter st h
section
variable {X:Cx}{tg:Expr}
def Cs(K:ao)(tl:TE):TI:=λσ H R=>tl σ H λx H1=>∃a,x=.ref a/\(∃xs,SqL K H1 a xs)/\R (Itl K a) H1
def Iw(K:ao)(tl:TE):TI:=λσ H R=>tl σ H λx H1=>∃a,x=.ref a/\(∃xs,SqT K H1 a xs)/\R (Itt K a) H1
variable{l:Expr}{tl:TE}
theorem Nh(hl:PE X l tl):PI X tg l (Cs X.K tl):=by
 intro pins s σ H R I h;refine thn (hl _ s σ H _ I h) λv s1 ⟨x,H1,I1,r1,q1⟩=>?_;obtain⟨a,e,⟨xs,hq⟩,q⟩:=q1;subst e;cases r1;obtain⟨ZY,rv,p,hz⟩:=I1.list hq;refine pP p.isList ?_;refine⟨_,_,_,_,H1,rfl,I1.kept λb o e=>af _ e,Gq a _,⟨_,av _ rfl,rfl,rfl⟩,λb hb=>?_,q⟩;have e:=by simpa using hb
 subst e;exact I1.fpOk 2#1 16#4
theorem Q7(hl:PE X l tl):PI X tg l (Iw X.K tl):=by
 intro pins s σ H R I h;refine thn (hl _ s σ H _ I h) λv s1 ⟨x,H1,I1,r1,q1⟩=>?_;obtain⟨a,e,⟨xs,hq⟩,q⟩:=q1;subst e;cases r1;obtain⟨ZY,rv,p,hz⟩:=I1.tuple hq;refine jX (p) ?_;refine⟨_,_,_,_,H1,rfl,I1.kept λb o e=>af _ e,Ds a _,⟨_,av _ rfl,rfl,rfl⟩,λb hb=>?_,q⟩;have e:=by simpa using hb
 subst e;exact I1.fpOk 2#1 16#4
theorem Cu{R:It->Hp->Prop}{lo hi:Int}{t u v:Tok}{tk:Nat}(I:Inv X pins σ H s)(h1: -(2^62)<=lo)(h2:lo<2^62)(h3: -(2^62)<=hi)(h4:hi<2^62)
  (q:R (Itr lo (hi-lo).toNat) H):aD 1#5 X.A (pyIter 6#1) (PIE X pins σ tg R) E { s with heap:=s.heap.push { cls := .type "range",data := .fields #[.int lo t,.int hi u,.int 1 v] },toks:=tk }:=by
 refine wpAny_pyIter_range (IsRange.new ..) (small_one h1 h2 h3 h4) ?_;have I1:Inv X _ σ H { s with heap:=s.heap.push { cls := .type "range",data := .fields #[.int lo t,.int hi u,.int 1 v] },toks:=tk }:=I.kept fun b o e=>af _ e
 refine⟨_,_,_,_,H,rfl,
  I1.kept λb o e=>af _ e,DK _ lo _,?_,λb hb =>?_,q⟩
 .have e1:lo+((0:Nat))*1=lo:=by simp
  have e2:(((hi-lo).toNat))-((0:Nat))=iE lo hi 1:=by rw[rangeSize_one];grind
  rw[e1,e2];exact av _ rfl
 .have e:b=(s.heap.push { cls := .type "range",data := .fields #[.int lo t,.int hi u,.int 1 v] }).objs.size:=by simpa using hb
  subst e;exact I1.fpOk 2#1 16#4
def Bf(ta:TA):TI:=λσ H R=>ta σ H λvs H1=>∃j:Int,vs=[.int j] /\ -(2^62)<=j/\j<2^62/\R (Itr 0 j.toNat) H1
def Ba(ta:TA):TI:=λσ H R=>ta σ H λvs H1=>∃i j:Int,vs=[.int i,.int j]/\(-(2^62)<=i/\i<2^62 /\ -(2^62)<=j/\j<2^62)/\R (Itr i (j-i).toNat) H1
variable{ta:TA}{pos:Pos}
theorem Gg{a:Expr}{p:Pos}(hg:Gl X "range")(hm:X.mg "range"=b_)(ha:PA X [a] ta)(hs:autoParam 19#6 1#6):PI X tg (.Call (.Name "range" p) [a] [] pos) (Bf ta):=by
 intro pins s σ H R I h;refine Call_ (ky I hg hm boot_range (cM 18#2 hs rfl));obtain⟨j,e,q1,q2,q⟩:=q1;subst e;cases r1 with
 | cons r rr=>
   cases rr;obtain⟨t,rfl⟩:=r;exact call_range_1 (Cu I1 0#2 0#2 q1 q2 (by simpa using q))
theorem G2{a b:Expr}{p:Pos}(hg:Gl X "range")(hm:X.mg "range"=b_)(ha:PA X [a,b] ta)(hs:autoParam (starEach [a,b] X.env=[15#0,15#4]) 1#6)(Zv:autoParam (starEach [b] X.env=[15#4]) 1#6) :
  PI X tg (.Call (.Name "range" p) [a,b] [] pos) (Ba ta):=by
 intro pins s σ H R I h;refine Call_ (ky I hg hm boot_range (cM 18#2 (by rw[hs,Zv]) (by rw[Zv];rfl)));obtain⟨i,j,e,⟨q1,q2,q3,q4⟩,q⟩:=q1;subst e;cases r1 with
 | cons r rr=>
   cases rr with
   | cons r' rr=>
     cases rr;obtain⟨t,rfl⟩:=r;obtain⟨t',rfl⟩:=r';exact call_range_2 (Cu I1 q1 q2 q3 q4 q)
def xB(wi:TI)(g:TG)(tb:TS):TS:=λD σ H=>wi σ H λJ H1=>∃W:Nat->Nat->St->Hp->Prop,(∃m,W 0 m σ H1) /\ ∀i m σ H,W i m σ H ->
 (J.stop i H/\D.nx σ H)\/(J.go i H /\ ∃N:St->Hp->Prop,25#7 /\ ∀x H',J.yld i H x H'->g x σ H' λY9 H2=>tb { D with nx:=N,ct:=N,bk:=D.nx } Y9 H2)
def zU(fp:List e_)(h:Heap):List 2#7:=fp.filterMap λb=>(h.get? b).map λo=>(b,o)
variable{fp:List e_}
theorem mm(hb:b∈fp)(e:h.get? b=a_ o):(b,o)∈zU fp h:=List.mem_filterMap.mpr ⟨b,hb,by rw[e];rfl⟩
theorem GG{p:e_×Obj}(hp:p∈zU fp h):p.1∈fp/\h.get? p.1=a_ p.2:=by
 obtain⟨b,hb,e⟩:=List.mem_filterMap.mp hp;cases q:h.get? b<;>grind
theorem Inv.pinned{fp:List e_}(I:Inv X pins σ H s)(hf:∀b∈fp,vI X pins H b)(ho:∀b∈fp,∃o,s.heap.get? b=a_ o /\ ∀v,o.data≠.cell v):Inv X (pins++zU fp s.heap) σ H s:=
 I.pins_of λp hp=>(aQ.mp hp).elim (λz=>I.pin p (a8 _ z)) λz=>by
  obtain⟨hb,e⟩:=GG z;obtain⟨f0,f1,f2,_⟩:=hf _ hb
  grind
theorem Inv.unpinned{pl:List (e_×Obj)}(I:Inv X (pins++pl) σ H s):Inv X pins σ H s:=I.pins_of λp hp=>I.pin p (a8 _ (bf _ hp))
theorem Jm{iter:Expr}{body:List Stmt}{wi:TI}{g:TG}{tb:TS}(hp:PassesOwn 1#5 X.A X.env X.xe)(hc:X.calm=c_)(hi:PI X tg iter wi)(hg:PG X tg g)(hb:PSs X body tb)
  (hs:autoParam 18#7 au3._auto_1):PS X (.For tg iter body [] pos) (xB wi g tb):=by
 intro pins s σ H D I h;refine wpAny_For (thn (hi _ s σ H _ I h) λv s1 h1=>thn h1 λitv s2 h2=>?_) hs;obtain⟨it,fp,tn,J,H2,e,I2,T,Zf,f2,W,⟨m0,w0⟩,turn⟩:=h2;subst e;have stat:∀{H':Hp},(∀b∈fp,H' b=b_)->∀b∈fp,vI X _ H' b:=λhn b hb=>⟨hn b hb,(f2 b hb).2⟩;refine codeAny_forLoop_any (λn s'=>∃i Y3 H',Inv X _ Y3 H' s'/\tn i s'.heap/\(∀b∈fp,H' b=b_)/\W i n Y3 H') ?_ m0 ⟨0,σ,H2,I2,Zf,λb hb=>(f2 b hb).1,w0⟩;rintro n s3 ⟨i,X8,H3,I3,ZE,fr3,w3⟩;rcases turn i n _ H3 w3 with⟨stop,qn⟩ | ⟨go,N,hN,step⟩
 .refine iz hp (thn (T.done X rfl rfl rfl hc i _ s3 _ H3 _ I3 (stat fr3) ZE stop) λr s4 ⟨hr,I4⟩=>?_)
  subst hr;exact t9 ⟨_,H3,I4,qn⟩
 .refine iz hp (thn (T.item X rfl rfl rfl hc i _ s3 _ H3 _ I3 (stat fr3) ZE go) λr s4 ⟨u,hr,h4⟩=>?_)
  subst hr;refine iz hp (thn h4 λ_ s5 ⟨x,H5,I5,r5,y5,Zj,fr5⟩=>?_);refine iz hp (thn (hg _ s5 _ H5 x u _ (I5.pinned (stat fr5) (T.obj _ _ Zj)) r5 (step x H5 y5)) λ_ s6 ⟨Z9,H6,I6,q6⟩=>?_);refine iz hp (thn (hb _ s6 _ H6 _ I6 q6) λf s7 q7=>?_);have again:∀{X5:St}{H7:Hp},Inv X _ _ H7 s7->N _ H7->∃m,m<n /\ ∃i Y3 H',Inv X pins Y3 H' s7/\tn i _/\(∀b∈fp,H' b=b_)/\W i m Y3 H':=λ{X5 H7} I7 n7=>by
   obtain⟨m',hm,w7⟩:=hN _ H7 n7;refine⟨m',hm,_,X5,H7,I7.unpinned,T.keep _ _ _ Zj λb hb o e=>(I7.pin _ (a8 _ (a8 _ (mm hb e)))).1,λb hb=>?_,w7⟩;obtain⟨o,e,d⟩:=T.obj _ _ Zj b hb;exact(I7.pin _ (a8 _ (a8 _ (mm hb e)))).2.1
  cases f with
  |next=>obtain⟨X5,H7,I7,n7⟩:=q7;exact again I7 n7
  |cont=>obtain⟨X5,H7,I7,n7⟩:=q7;exact again I7 n7
  |brk=>obtain⟨X5,H7,I7,q7⟩:=q7;exact⟨_,H7,I7.unpinned,q7⟩
  |ret v=>obtain⟨x7,X5,H7,I7,r7,q7⟩:=q7;exact⟨x7,_,H7,I7.unpinned,r7,q7⟩
end
variable{tb:TS}{D:Ends}
theorem Np{g:TG}{σ:St}{H:Hp}(Pv:Nat->St->Hp->Prop)(h0:Pv 0 σ H)(hl:∀i σ H,i<=1#4->Pv i σ H->SqT K H a xs)
  (hs:∀i x σ H,xs[i]?=a_ x->Pv i σ H->g x σ H λY9 H2=>tb { D with nx:=Pv (i+1),ct:=Pv (i+1),bk:=D.nx } Y9 H2) (hd:∀σ H,Pv xs.length σ H->D.nx σ H):
  ∃W:Nat->Nat->St->Hp->Prop,16#7 /\ ∀i m σ H,W i m σ H ->
   ((Itt K a).stop i H/\D.nx σ H)\/((Itt K a).go i H /\ ∃N:St->Hp->Prop,25#7 /\ ∀x H',(Itt K a).yld i H x H'->g x σ H' λY9 H2=>tb { D with nx:=N,ct:=N,bk:=D.nx } Y9 H2):=by
 refine⟨λi m σ H=>m=1#4-i/\i<=1#4/\Pv i σ H,⟨1#4,by simp,bS _,h0⟩,?_⟩;rintro i m σ H ⟨rfl,hi,p⟩;have q:=hl i σ H hi p;by_cases ZQ:i<1#4
 .refine .inr ⟨⟨xs,xs[i],q,by simp⟩,_,λY3 H' p'=>⟨_,by lia,rfl,ZQ,p'⟩,λx H' y=>?_⟩
  obtain⟨e,y⟩:=y;subst e;exact hs i x σ _ (y xs q) p
 .have e:i=1#4:=by lia
  subst e;exact .inl ⟨⟨xs,q,ak _⟩,hd σ H p⟩
variable{n:Nat}
theorem GA{lo:Int}{g:TG}{σ:St}{H:Hp}(Pv:Nat->St->Hp->Prop)(h0:Pv 0 σ H)
  (hs:∀i σ H,i<n->Pv i σ H->g (.int (lo+i)) σ H λY9 H2=>tb { D with nx:=Pv (i+1),ct:=Pv (i+1),bk:=D.nx } Y9 H2) (hd:∀σ H,Pv n σ H->D.nx σ H):
  ∃W:Nat->Nat->St->Hp->Prop,16#7 /\ ∀i m σ H,W i m σ H ->
   ((Itr lo n).stop i H/\D.nx σ H)\/((Itr lo n).go i H /\ ∃N:St->Hp->Prop,25#7 /\ ∀x H',(Itr lo n).yld i H x H'->g x σ H' λY9 H2=>tb { D with nx:=N,ct:=N,bk:=D.nx } Y9 H2):=by
 refine⟨λi m σ H=>m=n-i/\i<=n/\Pv i σ H,⟨n,by simp,bS _,h0⟩,?_⟩;rintro i m σ H ⟨rfl,hi,p⟩;by_cases ZQ:i<n
 .refine .inr ⟨ZQ,_,λY3 H' p'=>⟨_,by lia,rfl,ZQ,p'⟩,λx H' y=>?_⟩
  obtain⟨e,y⟩:=y
  simp_all
 .have e:i=n:=by lia
  subst e;exact .inl ⟨ak _,hd σ H p⟩
abbrev R2:=V->V->Hp->VK->Prop
def OpR(X:Cx)(f:f_->f_->Sem f_)(r:R2):Prop:=
 ∀(pins:List 2#7) (s:g_) (σ:St) (H:Hp) (x y:V) (v u:f_) (Q:VK),Inv X pins σ H s->RelV x v->RelV y u->r x y H Q ->
  aD 1#5 X.A (f v u) 10#7 X.xe s
def UnR(X:Cx)(f:f_->Sem f_)(r:V->Hp->VK->Prop):Prop:=
 ∀(pins:List 2#7) (s:g_) (σ:St) (H:Hp) (x:V) (v:f_) (Q:VK),Inv X pins σ H s->RelV x v->r x H Q ->
  aD 1#5 X.A (f v) 10#7 X.xe s
def iM(X:Cx)(f:f_)(r:List V->Hp->VK->Prop):Prop:=
 ∀(pins:List 2#7) (s:g_) (σ:St) (H:Hp) (xs:List V) (us:List f_) (Q:VK),Inv X pins σ H s->cX xs us->r xs H Q ->
  aD 1#5 X.A (call f us) 10#7 X.xe s
def tOp(r:R2)(ta tb:TE):TE:=λσ H Q=>ta σ H λx H1=>tb σ H1 λy H2=>r x y H2 Q
def tUn(r:V->Hp->VK->Prop)(ta:TE):TE:=λσ H Q=>ta σ H λx H1=>r x H1 Q
def rI(C:Int->Int->Prop)(g:Int->Int->V):R2:=λx y H Q=>∃i j,x=.int i/\y=.int j/\C i j/\Q (g i j) H
def rI0(g:Int->Int->V):R2:=λx y H Q=>∃i j,x=.int i/\y=.int j/\Q (g i j) H
def rU(g:Int->V):V->Hp->VK->Prop:=λx H Q=>∃i,x=.int i/\Q (g i) H
section
variable {X:Cx}{a b c:Expr}{ta tb tc:TE}{pos:Pos}
variable{f:f_->f_->Sem f_}
theorem PK(ha:PE X a ta)(hb:PE X b tb){R:V->V->Hp->Prop}(I:Inv X pins σ H s)
  (h:ta σ H λx H1=>tb σ H1 λy H2=>R x y H2) {Q:f_->g_->Prop}
  (hf:∀v u s2 x y H2,Inv X pins σ H2 s2->RelV x v->RelV y u->R x y H2->aD 1#5 X.A (f v u) Q X.xe s2):
  aD 1#5 X.A (eval a X.env) (λv ZV=>aD 1#5 X.A (eval b X.env) (λu ZX=>aD 1#5 X.A (f v u) Q X.xe ZX) X.xe ZV) X.xe s:=thn 13#6 λv s1 ⟨x,H1,I1,r1,q1⟩=>(thn (hb _ s1 σ H1 _ I1 q1) λu s2 ⟨y,H2,I2,r2,q2⟩=>(hf v u s2 x y H2 I2 r1 r2 q2))
theorem yO{op:Operator}{r:R2}(ho:OpR X (binaryOp op) r)(ha:PE X a ta)(hb:PE X b tb):PE X (.BinOp a op b pos) (tOp r ta tb):=λpins s σ H Q I h=>wpAny_BinOp (PK ha hb I h λv u s2 x y H2 I2 rx ry q=>ho _ s2 σ H2 x y v u Q I2 rx ry q)
theorem SE{op:UnaryOp}{r:V->Hp->VK->Prop}(ho:UnR X (unaryOp op) r)(ha:PE X a ta):PE X (.UnaryOp op a pos) (tUn r ta):=λpins s σ H Q I h=>UnaryOp_ (thn 13#6 λv s1 ⟨x,H1,I1,r1,q1⟩=>ho _ s1 σ H1 x v Q I1 r1 q1)
variable{g:Int->Int->Int}
theorem opI{C:Int->Int->Prop}
  (rule:∀(i j:Int) (t u:Tok) (s:g_) (Q:f_->g_->Prop) (E:f_->g_->Prop),C i j->Q (.int (g i j) s.toks) { s with toks:=s.toks+1 }->aD 1#5 X.A (f (.int i t) (.int j u)) Q E s):
  OpR X f (rI C λi j=>.int (g i j)):=by
 intro pins s σ H x y v u Q I rx ry h;obtain⟨i,j,rfl,rfl,hc,q⟩:=h;obtain⟨t,rfl⟩:=rx;obtain⟨t',rfl⟩:=ry;exact rule i j t t' s _ _ hc 22#0
theorem SO
  (rule:∀(i j:Int) (t u:Tok) (s:g_) (Q:f_->g_->Prop) (E:f_->g_->Prop),Q (.int (g i j) s.toks) { s with toks:=s.toks+1 }->aD 1#5 X.A (f (.int i t) (.int j u)) Q E s):
  OpR X f (rI0 λi j=>.int (g i j)):=by
 intro pins s σ H x y v u Q I rx ry h;obtain⟨i,j,rfl,rfl,q⟩:=h;obtain⟨t,rfl⟩:=rx;obtain⟨t',rfl⟩:=ry;exact rule i j t t' s _ _ 22#0
theorem L8{g:Int->Int->Bool}
  (rule:∀(i j:Int) (t u:Tok) (s:g_) (Q:f_->g_->Prop) (E:f_->g_->Prop),Q (.bool (g i j)) s->aD 1#5 X.A (f (.int i t) (.int j u)) Q E s):
  OpR X f (rI0 λi j=>.bl (g i j)):=by
 intro pins s σ H x y v u Q I rx ry h;obtain⟨i,j,rfl,rfl,q⟩:=h;obtain⟨t,rfl⟩:=rx;obtain⟨t',rfl⟩:=ry;exact rule i j t t' s _ _ 9#1
def Sd(i j:Int):Prop:=0<j/\j<1073741824
def U0(i j:Int):Prop:=0<=j/\j<=1000000/\i.natAbs<2^64
def LM(i j:Int):Prop:=(-(2^64)<i/\i<2^64)\/(-(2^64)<j/\j<2^64)
theorem LM.ok{i j:Int}(h:LM i j):IntMulOk i j:=by
 rcases h with⟨h1,h2⟩|⟨h1,h2⟩
 .exact .of_left (intBits_le_64 h1 h2)
 .exact .of_right (intBits_le_64 h1 h2)
theorem Q6:OpR X (binaryOp .Add) (rI0 λi j=>.int (i+j)):=SO λ_ _ _ _ _ _ _ q=>add_int q
theorem RW:OpR X (binaryOp .Sub) (rI0 λi j=>.int (i-j)):=SO λ_ _ _ _ _ _ _ q=>sub_int q
theorem Q0:OpR X (binaryOp .Mult) (rI LM λi j=>.int (i*j)):=opI λ_ _ _ _ _ _ _ hc q=>mul_int q hc.ok
theorem MY:OpR X (binaryOp .FloorDiv) (rI Sd λi j=>.int (i/j)):=opI λi j _ _ _ _ _ hc q=>by
 have h1:=hc.1;have h2:=hc.2;exact floordiv_int 0#0 (by rw[Int.fdiv_eq_ediv_of_nonneg i 0#0];lia) (.inl (PyProof.noPylong_small 0#0))
theorem Rj:OpR X (binaryOp .Mod) (rI (λ_ j=>0<j) λi j=>.int (i%j)):=opI λi j _ _ _ _ _ hc q=>mod_int' 0#0 (by rw[Int.fmod_eq_emod_of_nonneg i 0#0];lia)
theorem QZ:OpR X (binaryOp .Pow) (rI U0 λi j=>.int (i^j.toNat)):=opI λ_ _ _ _ _ _ _ hc q=>pow_int_small hc.1 hc.2.1 hc.2.2 q
theorem unI{f:f_->Sem f_}{g:Int->Int}
  (rule:∀(i:Int) (t:Tok) (s:g_) (Q:f_->g_->Prop) (E:f_->g_->Prop),Q (.int (g i) s.toks) { s with toks:=s.toks+1 }->aD 1#5 X.A (f (.int i t)) Q E s):
  UnR X f (rU λi=>.int (g i)):=by
 intro pins s σ H x v Q I rx h;obtain⟨i,rfl,q⟩:=h;obtain⟨t,rfl⟩:=rx;exact rule i t s _ _ 22#0
theorem Rz:UnR X (unaryOp .USub) (rU λi=>.int (-i)):=unI λ_ _ _ _ _ q=>neg_int q
end
section
variable {X:Cx}{a b c:Expr}{ta tb tc:TE}{pos:Pos}
theorem Uu:OpR X (compareOp .Lt) (rI0 λi j=>.bl (decide (i<j))):=L8 λ_ _ _ _ _ _ _ q=>lt_int q
theorem UO:OpR X (compareOp .LtE) (rI0 λi j=>.bl (decide (i<=j))):=L8 λ_ _ _ _ _ _ _ q=>le_int q
theorem Tg:OpR X (compareOp .Gt) (rI0 λi j=>.bl (decide (j<i))):=L8 λ_ _ _ _ _ _ _ q=>gt_int q
theorem Sz:OpR X (compareOp .GtE) (rI0 λi j=>.bl (decide (j<=i))):=L8 λ_ _ _ _ _ _ _ q=>ge_int q
variable{r r':R2}
theorem OpR.or{f:f_->f_->Sem f_}(h:OpR X f r)(h':OpR X f r'):OpR X f (λx y H Q=>r x y H Q\/r' x y H Q):=by
 intro pins s σ H x y v u Q I rx ry q;rcases q with q|q
 .exact h _ s σ H x y v u Q I rx ry q
 .exact h' _ s σ H x y v u Q I rx ry q
variable{op:CmpOp}
theorem Mn(ho:OpR X (compareOp op) r)(ha:PE X a ta)(hb:PE X b tb)(hm:behindInMarks op b=d_):PE X (.Compare a [op] [b] pos) (tOp r ta tb):=λpins s σ H Q I h=>wpAny_Compare1 (PK ha hb I h λv u s2 x y H2 I2 rx ry q=>ho _ s2 σ H2 x y v u Q I2 rx ry q) hm
def Jk(t:TE):TT:=λσ H Q=>t σ H λx H'=>∃k,x=.bl k/\Q k H'
theorem NM(ho:OpR X (compareOp op) r)(ha:PE X a ta)(hb:PE X b tb)(hm:behindInMarks op b=d_):PT X (.Compare a [op] [b] pos) (Jk (tOp r ta tb)):=by
 intro pins s σ H Q I h
 refine wpAny_isTrue_Compare1 (thn 13#6 λv s1 ⟨x,H1,I1,r1,q1⟩=>thn (hb _ s1 σ H1 _ I1 q1) λu s2 ⟨y,H2,I2,r2,q2⟩=>
  thn (ho _ s2 σ H2 x y v u _ I2 r1 r2 q2) λc s3 ⟨z,H3,I3,r3,k,e,q3⟩ =>?_) hm
 subst e;cases r3;exact eK ⟨H3,I3,q3⟩
def DL(r r':R2)(ta tb tc:TE):TE:=λσ H Q=>ta σ H λx H1=>tb σ H1 λy H2=>r x y H2 λz H3=>∃k,z=.bl k /\
 (if k=c_ then tc σ H3 λw' H4=>r' y w' H4 Q else Q (.bl d_) H3)
theorem JI{XX:CmpOp}(ho:OpR X (compareOp op) r)(YX:OpR X (compareOp XX) r')(ha:PE X a ta)(hb:PE X b tb)(hc:PE X c tc)
  (hm:lastMarks [op,XX] [b,c]=d_:=by with_unfolding_all rfl):PE X 22#8 (DL r r' ta tb tc):=by
 intro pins s σ H Q I h
 refine Compare_chain (thn 13#6 λv s1 ⟨x,H1,I1,r1,q1⟩=>chain_link (thn (hb _ s1 σ H1 _ I1 q1) λu s2 ⟨y,H2,I2,r2,q2⟩=>
  thn (ho _ s2 σ H2 x y v u _ I2 r1 r2 q2) λd s3 ⟨z,H3,I3,r3,k,e,q3⟩ =>?_)) hm
 subst e;cases r3;refine eK ?_;cases k with
 |false=>exact ite_ff ⟨.bl _,H3,I3,rfl,q3⟩
 |true=>exact ite_tt (chain_last (thn (hc _ s3 σ H3 _ I3 q3) λw' s4 ⟨z',H4,I4,r4,q4⟩=>YX _ s4 σ H4 y z' u w' Q I4 r2 r4 q4))
theorem Iv{XX:CmpOp}(ho:OpR X (compareOp op) r)(YX:OpR X (compareOp XX) r')(ha:PE X a ta)(hb:PE X b tb)(hc:PE X c tc)
  (hm:lastMarks [op,XX] [b,c]=d_:=by with_unfolding_all rfl):PT X 22#8 (Jk (DL r r' ta tb tc)):=by
 intro pins s σ H Q I h
 refine isTrue_chain (thn 13#6 λv s1 ⟨x,H1,I1,r1,q1⟩=>test_link (thn (hb _ s1 σ H1 _ I1 q1) λu s2 ⟨y,H2,I2,r2,q2⟩=>
  thn (ho _ s2 σ H2 x y v u _ I2 r1 r2 q2) λd s3 ⟨z,H3,I3,r3,k,e,q3⟩ =>?_)) hm
 subst e;cases r3;refine eK ?_;cases k with
 | false=>
   obtain⟨k',e',q'⟩:=q3;cases e';exact ite_ff ⟨H3,I3,q'⟩
 | true=>
   refine ite_tt (test_last (thn (hc _ s3 σ H3 _ I3 q3) λw' s4 ⟨z',H4,I4,r4,q4⟩=>thn (YX _ s4 σ H4 y z' u w' _ I4 r2 r4 q4) λd' s5 ⟨z2,H5,I5,r5,k2,e2,q5⟩=>?_));subst e2;cases r5;exact eK ⟨H5,I5,q5⟩
theorem qh:(sizeLine:Nat)<2^63:=by decide
theorem vals1(r:cX [x] us):∃u,us=[u]/\RelV x u:=by
 cases r with
 |cons r1 r2=>cases r2;exact⟨_,rfl,r1⟩
theorem vals2{y:V}(r:cX [x,y] us):∃u w',us=[u,w']/\RelV x u/\RelV y w':=by
 cases r with
 | cons r1 r2=>
   cases r2 with
   |cons r3 r4=>cases r4;exact⟨_,_,rfl,r1,r3⟩
theorem Ga(hc:X.calm=c_):iM X (.builtin "max") (fun xs H Q=>∃ i j,xs=[.int i,.int j]/\Q (.int (if j>i then j else i)) H):=by
 intro pins s σ H xs us Q I r h;obtain⟨i,j,rfl,q⟩:=h;obtain⟨u,w',rfl,⟨t,rfl⟩,⟨t',rfl⟩⟩:=vals2 r;refine max_two_ints 11#3 λh' tk k=>⟨_,H,I.kept k,?_,q⟩;by_cases hj:j>i
 .rw[if_pos hj,if_pos hj];exact⟨_,rfl⟩
 .rw[if_neg hj,if_neg hj];exact⟨_,rfl⟩
theorem Ht(hc:X.calm=c_):iM X (.builtin "min") (fun xs H Q=>∃ i j,xs=[.int i,.int j]/\Q (.int (if j<i then j else i)) H):=by
 intro pins s σ H xs us Q I r h;obtain⟨i,j,rfl,q⟩:=h;obtain⟨u,w',rfl,⟨t,rfl⟩,⟨t',rfl⟩⟩:=vals2 r;refine min_two_ints 11#3 λh' tk k=>⟨_,H,I.kept k,?_,q⟩;by_cases hj:j<i
 .rw[if_pos hj,if_pos hj];exact⟨_,rfl⟩
 .rw[if_neg hj,if_neg hj];exact⟨_,rfl⟩
end
structure Rx(h:Heap)(x dx C:e_)(mA:Str->Option f_):Prop where
 obj:h.get? x=a_ (xT C dx)
 ns:h.Ns1 dx mA
 ne:dx≠x
variable{mA:Str->Option f_}
theorem Hg{dx:e_}(n:h.Ns1 dx mA):∃od,h.get? dx=a_ od /\ ∀name,Av name od=a_ (mA name):=by
 obtain⟨o,es,ep,ho,hd,hk,_,hm⟩:=n;refine⟨o,ho,λname=>?_⟩;have e:=hm name;unfold nsFind findBy at e;rw[<-Array.find?_toList]at e;unfold Av;rw[hd];dsimp only
 split
 .grind
 .have a:es.toList.any (·.refKey)=d_:=by
   rw[List.any_eq_false];intro y hy;obtain⟨z,t,XM⟩:=hk y (Array.mem_toList_iff.mp hy);simp[DictEntry.refKey,XM]
  grind
theorem Rx.look{x dx C:e_}(I:Rx h x dx C mA):∃od,PySem.W.InstAt h x (xT C dx) C (a_ od) /\ ∀name,Av name od=a_ (mA name):=
 let ⟨od,ho,hl⟩:=Hg I.ns
 ⟨od,⟨I.obj,rfl,rfl,ho⟩,hl⟩
section
variable {prog:Program}{w:World}{A:Around}{E:f_->g_->Prop}{s:g_}{K:ao}{x dx C f:e_}{mA:Str->Option f_}{name:Str}{v:f_}
end
theorem vc.some_of{v:V}{o:Option f_}(r:vc (a_ v) o):∃u,o=a_ u/\RelV v u:=by
 cases o with
 |none=>exact(r).elim
 |some u=>exact⟨u,rfl,r⟩
section
variable {P:Program}{w:World}{H H':Hp}{h h':Heap}{a C dx:e_}{fs fs':List (Str×V)}
theorem M5(hok:HOk P w H h)(e:H a=a_ (.ins C dx fs)):∃mA,Rx h a dx C mA/\(∀f,vc (fs.lookup f) (mA f))/\PySem.Within mA (fs.map (·.1))/\fs.length<=1000/\H dx=a_ (.own a):=by
 obtain⟨d,z,ne,ob,mA,n,r,q⟩:=(hok a _ e);exact⟨mA,⟨ob,n,ne⟩,r,q,z,d⟩
end
structure Cls(K:ao)(C:e_):Prop where
 pg:PySem.W.plainGet K C Str.empty=c_
 hd:PySem.W.hasDictIn K C=c_
 po:PySem.W.plainOver K C=c_
 sa:PySem.W.findIn K (.ref C) "__setattr__"=a_ (a_ (.builtin "object.__setattr__"))
theorem Cls.get{C:e_}(c:Cls K C)(f:Str):PySem.W.plainGet K C f=c_:=c.pg
section
variable {X:Cx}{pins:List (e_×Obj)}{σ:St}{H:Hp}{s:g_}{a C dx:e_}{fs:List (Str×V)}{f:Str}{v:V}{A:Around}{E:f_->g_->Prop}
end
section
variable {X:Cx}{o e value:Expr}{f:Str}{pos pos' tpos:Pos}{ta tv:TE}
end
section
variable {X:Cx}{pins:List (e_×Obj)}{σ:St}{H:Hp}{s:g_}{A:Around}{E:f_->g_->Prop}{Q:f_->g_->Prop}{c:f_}{b:Bool}
inductive qf(K:ao)(H:Hp):V->f_->Prop where
 |non:qf K H .non (.type "NoneType")
 |bl (x:Bool):qf K H (.bl x) (.type "bool")
 |int (i:Int):qf K H (.int i) (.type "int")
 |str (x:Str):qf K H (.str x) (.type "str")
 |flt (x:UInt64):qf K H (.flt x) (.type "float")
 |lst {a:e_}{xs:List V} (e:H a=a_ (.lst xs)):qf K H (.ref a) (.type "list")
 |frz {a:e_}{o:Obj}{xs:List V} (e:H a=a_ (.frz o (.lst xs))):qf K H (.ref a) (.type "list")
 |tup {a:e_}{xs:List V} (e:H a=a_ (.tup xs)):qf K H (.ref a) (.type "tuple")
 |dK {a:e_}{kvs:List (Key×V)} (e:H a=a_ (.dK kvs)):qf K H (.ref a) (.type "dict")
 |dT {a:e_}{kvs:List (List Key×V)} (e:H a=a_ (.dT kvs)):qf K H (.ref a) (.type "dict")
 | ins {a C dx:e_}{fs:List (Str×V)} (e:H a=a_ (.ins C dx fs)) (cl:Cls K C) (ha:PySem.W.findIn K (.ref C) "__class__"=a_ (a_ (.builtin "object.__class__")))
   (hn:PySem.W.specialIn K (.builtin "object.__class__") "__get__"=a_ (a_ (.builtin "getset_descriptor.__get__"))) (htk:PySem.W.takesIn K (.builtin "object.__class__")=a_ c_)
   (hm:PySem.W.mroIn K C (.type "object")=a_ c_):qf K H (.ref a) (.ref C)
theorem FW{t:f_}(I:Inv X pins σ H s)(rx:RelV x u)(ty:qf X.K H x t)(e:PySem.W.kitOne X.K t c=a_ b)(h:∀tk,Q (.bool b) { s with toks:=tk }):
  aD 1#5 A (call (.builtin "isinstance") [u,c]) Q E s:=by
 cases ty with
 |non=>cases (rx);exact eg PySem.W.kitx_none I.kIn gK e 11#7 h
 |bl y=>cases (rx);exact eg PySem.W.kitx_bool I.kIn gK e 11#7 h
 |int i=>obtain⟨t,q⟩:=(rx);cases q;exact eg PySem.W.kitx_int I.kIn gK e 11#7 h
 |str y=>obtain⟨t,q⟩:=(rx);cases q;exact eg PySem.W.kitx_str I.kIn gK e 11#7 h
 |flt y=>obtain⟨t,q⟩:=(rx);cases q;exact eg PySem.W.kitx_float I.kIn gK e 11#7 h
 | @lst a xs ea=>
   cases (rx);obtain⟨_,_,n,_,h1⟩:=(I.hok a _ ea);exact eg Lj I.kIn ⟨_,h1,rfl⟩ e 11#7 h
 | @frz a ob xs ea=>
   cases (rx);obtain⟨_,_,_,n,_,h1⟩:=(I.hok a _ ea);exact eg Lj I.kIn ⟨_,h1,rfl⟩ e 11#7 h
 | @tup a xs ea=>
   cases (rx);obtain⟨_,_,_,p⟩:=(I.hok a _ ea);obtain⟨o,h1,h2,_⟩:=p.1;exact eg PySem.W.kitx_tuple I.kIn ⟨o,h1,h2⟩ e 11#7 h
 | @dK a kvs ea=>
   cases (rx);obtain⟨_,_,vs,_,p⟩:=(I.hok a _ ea);obtain⟨o,es,ep,h1,h2,_⟩:=p;exact eg Lk I.kIn ⟨o,h1,h2.1⟩ e 11#7 h
 | @dT a kvs ea=>
   cases (rx);obtain⟨_,_,xs,_,o,es,ep,h1,h2,_⟩:=(I.hok a _ ea);exact eg Lk I.kIn ⟨o,h1,h2.1⟩ e 11#7 h
 | @ins a C dx fs ea cl ha hn htk hm=>
   cases (rx);obtain⟨mA,O,_⟩:=M5 I.hok ea;obtain⟨od,J,_⟩:=O.look;exact eg (PySem.W.kitx_own (cl.get _) cl.hd ha hn htk hm) I.kIn J e 11#7 h
end
structure lF(k:Nat)(A:Around):Prop where
 hd:A.handled=b_
 dp:A.depth+3*k+5<recursionLimit
 un:A.units+16*k+200<cLine
 gu:A.guards=a_ []
theorem lF.mono{j k:Nat}(r:lF k A)(h:j<=k):lF j A:=⟨r.hd,by have:=r.dp;lia,by have:=r.un;lia,r.gu⟩
theorem lF.deeper{k:Nat}(r:lF (k+1) A)(env:Env):lF k (A.deeper env):=
 ⟨r.hd,by have:=r.dp;show A.depth+1+3*k+5<_;lia,by have:=r.un;show A.units+3+16*k+200<_;lia,r.gu⟩
theorem lF.depth{k:Nat}(r:lF k A):A.depth<recursionLimit:=by have:=r.dp;lia
theorem lF.units{k:Nat}(r:lF k A):A.units+64<cLine:=by have:=r.un;lia
def De:TA:=λ_ H Q=>Q [] H
def vE(ta:TE)(tr:TA):TA:=λσ H Q=>ta σ H λx H1=>tr σ H1 λxs H2=>Q (x::xs) H2
section
variable {X:Cx}{e:Expr}{es:List Expr}{te:TE}{t:TA}{pos:Pos}
theorem vD:PA X [] De:=λ_ _ _ _ H Q I h=>xf ⟨[],H,I,.nil,h⟩
theorem oV(ha:PE X e te)(hr:PA X es t)(hs:autoParam 10#2 1#6):PA X 2#0 (vE te t):=by
 intro pos pins s σ H Q I h;rw[hs];exact lU (thn 13#6 λu s1 ⟨x,H1,I1,r1,q1⟩=>(thn (hr _ _ s1 σ H1 _ I1 q1) λus s2 ⟨xs,H2,I2,r2,q2⟩=>⟨_,H2,I2,.cons r1 r2,q2⟩))
def Tc(t:TA):TE:=λσ H Q=>t σ H λxs H1=>1#4<=sizeLine /\ ∀p,H1 p=b_->Q (.ref p) (upd H1 p (.tup xs))
def TK(t:TA):TE:=λσ H Q=>t σ H λxs H1=>1#4<=sizeLine /\ ∀p,H1 p=b_->Q (.ref p) (upd H1 p (.lst xs))
theorem O8{x1}(h:PA X es t):PE X (.Tuple es x1 pos) (Tc t):=by
 intro pins s σ H Q I hq;refine wpAny_Tuple_spliced (thn (h _ _ s σ H _ I hq) λus s1 ⟨xs,H1,I1,r,z,q⟩=>⟨by rw[<-r.length];omega,?_⟩);refine⟨.ref _,_,I1.laid (λb u e=>af _ e) 2#1 ?_,rfl,q _ 16#4⟩;exact⟨z,us,r,⟨_,av _ rfl,rfl,_,rfl⟩,_,av _ rfl,rfl⟩
theorem PF(h:PA X es t):PE X (.List es pos) (TK t):=by
 intro pins s σ H Q I hq;refine wpAny_List_spliced (thn (h _ _ s σ H _ I hq) λus s1 ⟨xs,H1,I1,r,z,q⟩=>⟨by rw[<-r.length];omega,?_⟩);refine⟨.ref _,_,I1.laid (λb u e=>af _ e) 2#1 ?_,rfl,q _ 16#4⟩;exact⟨z,us,0,r,av _ rfl⟩
end
abbrev Sp:=List V->Hp->VK->XK->Prop
abbrev CXT:=List Env->Hp->g_->XK->f_->g_->Prop
structure Hm(P:Program)(w:World)(K:ao)(mg:Str->Option f_)(base:Heap)(A:Around)(outer:List Env)(s:g_)(H:Hp):Prop where
 frames:A.frames=a_ outer
 mod:Mod K mg base
 bs:∀b o,base.get? b=a_ o->s.heap.get? b=a_ o/\H b=b_
 bsz:base.objs.size<=s.heap.objs.size
 funs:s.heap.FunFrames base outer
 frf:∀b∈frs outer,H b=b_
 hok:HOk P w H s.heap
 bare:AllBare s.gens
def CE(outer:List Env)(P:Program)(w:World)(H:Hp)(s:g_)(Q:VK)(u:f_)(s':g_):Prop:=
 ∃v H',s'.os=s.os/\AllBare s'.gens/\Un (frs outer) [] H H' s.heap s'.heap/\HOk P w H' s'.heap/\RelV v u/\Q v H'
def CR(CX:CXT)(outer:List Env)(P:Program)(w:World)(H:Hp)(s:g_)(Q:VK)(E:XK)(r:Result)(s':g_):Prop:=
 match r with
 |.ok (.ret u)=>CE outer P w H s Q u s'
 |.ok _=>False
 |.error e=>CX outer H s E e s'
structure lD(P:Program)(w:World)(K:ao)(mg:Str->Option f_)(base:Heap)(CX:CXT)(k:Nat)(f:e_)(fd:FuncData)(ps:List Str)(sp:Sp):Prop where
 len:∀vs H Q E,sp vs H Q E->vs.length=ps.length
 run:∀(A:Around) (outer:List Env) (s:g_) (H:Hp) (args:Args) (us:List f_) (vs:List V) (Q:VK) (E:XK),lF k A->Hm P w K mg base A outer s H->BindsTo s fd args (ps.zip us)->cX vs us->sp vs H Q E ->
  pQ (model P w) A (.call (.ref f) args) (CR CX outer P w H s Q E) s
section
variable {X:Cx}{pins:List (e_×Obj)}{σ:St}{H:Hp}{s s':g_}
theorem Inv.env0(I:Inv X pins σ H s):Hm X.prog X.w X.K X.mg X.base X.A X.stack s H:=
 ⟨I.ok.frames,I.ok.mod,I.bs,aK I.ok.bsz I.sz,I.stack,I.stkFree,I.hok,I.bare⟩
theorem Inv.after{Q:VK}(I:Inv X pins σ H s)(h:CE X.stack X.prog X.w H s Q u s'):EP X pins σ Q u s':=by
 obtain⟨v,H',os,bare,un,hok,r,q⟩:=h;obtain⟨hh,g,d,t,os'⟩:=s';obtain rfl:os'=s.os:=os;exact⟨v,H',I.call un hok bare (λb z=>absurd z 0#3),r,q⟩
end
def EK(sp:Sp)(Xe:List V)(E:XK)(t:TA):TE:=λσ H Q=>t σ H λvs H1=>sp (vs++Xe) H1 Q E
def Binds(K:ao)(fd:FuncData)(ps:List Str)(ds:List f_):Prop:=
 ∀(s:g_) (us:List f_),K.In s.heap->(us++ds).length=8#1->BindsTo s fd ⟨us,[]⟩ (ps.zip (us++ds))
variable{ps:List Str}
theorem Binds.all{fd:FuncData}(h:∀us:List f_,1#3=8#1->bindArgs fd ⟨us,[]⟩=pure (ps.zip us)):Binds K fd ps []:=λs us _ hl=>by
 rw[cf]at hl ⊢;exact .of_eq (h us hl)
def zc(CX:CXT)(X:Cx)(E:XK):Prop:= ∀(pins:List 2#7) (σ:St) (H:Hp) (s:g_) (e:f_) (s':g_),Inv X pins σ H s->CX X.stack H s E e s'->X.xe e s'
section
variable {X:Cx}{CX:CXT}{k:Nat}{f C:e_}{fd:FuncData}{ps:List Str}{sp:Sp}{Xe:List V}{ds:List f_}{E:XK}{x m:Str}{p pos apos:Pos}{e o:Expr}{es:List Expr}{ta:TE}{t:TA}
theorem zL{Q:VK}{vs:List V}(F:lD X.prog X.w X.K X.mg X.base CX k f fd ps sp)(hr:lF k X.A)(hb:Binds X.K fd ps ds)(hd:cX Xe ds)(hx:zc CX X E)
  (I:Inv X pins σ H s) (r:cX vs us) (h:sp (vs++Xe) H Q E):aD 1#5 X.A (call (.ref f) us) 10#7 X.xe s:=by
 have r2:=r.append hd;refine wpAny_call (je (F.run _ _ s H _ _ _ Q E hr I.env0 (hb s us I.kIn (by rw[<-r2.length];exact F.len _ _ _ _ h)) r2 h) λr s' hq=>?_);cases r with
 |error e=>exact hx _ σ H s e s' I hq
 | ok fl=>
   cases fl with
   |ret u=>exact I.after hq
   |next=>exact en hq
   |brk=>exact en hq
   |cont=>exact en hq
theorem LK(F:lD X.prog X.w X.K X.mg X.base CX k f fd ps sp)(hr:lF k X.A)(hg:Gl X x)(hm:X.mg x=a_ (.ref f))(hk:dI X.K (.ref f)=c_)(hb:Binds X.K fd ps ds)(hd:cX Xe ds)(hx:zc CX X E)
  (ha:PA X 2#0 t) (WU:autoParam (8#3=d_) 9#9) (he:autoParam 10#2 1#6) (ZL:autoParam 13#5 1#6) :
  PE X (.Call (.Name x p) 2#0 [] pos) (EK sp Xe E t):=λpins s σ H Q I h=>ff (uJ I hg hm (tD I.ok.mod.kin hk (thn (ha _ _ s σ H _ I h) λus s1 ⟨vs,H1,I1,r,q⟩=>⟨I1.kIn,(zL F hr hb hd hx I1 r q)⟩) he ZL) WU)
theorem JY(F:lD X.prog X.w X.K X.mg X.base CX k f fd ps sp)(hr:lF k X.A)(hg:Gl X x)(hm:X.mg x=a_ (.ref f))(hk:dI X.K (.ref f)=c_)(hb:Binds X.K fd ps ds)(hd:cX Xe ds)(hx:zc CX X E)
  (WU:autoParam (8#3=d_) 9#9):PE X (.Call (.Name x p) [] [] pos) (EK sp Xe E De):=fun pins s σ H Q I h=>ff (uJ I hg hm (PySem.W.callWith_K0 I.kIn hk (zL F hr hb hd hx I .nil h)) WU)
end
section
variable {X:Cx}{CX:CXT}{k:Nat}{f C:e_}{fd:FuncData}{ps ks:List Str}{sp:Sp}{E:XK}{x m:Str}{p pos apos kpos:Pos}{e o:Expr}{es:List Expr}{kws:List Keyword}{te ta:TE}{t tk:TA}{nm:Option Str}
variable {g:List f_->List f_->List f_}{gV:List V->List V->List V}
end
structure bh(N P:List Str)(sc:Scope):Prop where
 kind:sc.kind=.function
 co:sc.isCoroutine=d_
 gen:sc.isGenerator=d_
 nd:N.Nodup
 pre:N.take P.length=P
 par:∀x∈P,sc.names.lookup x=a_ .local\/sc.names.lookup x=a_ .cell
 nofree:∀y∈sc.names,y.2≠.free
theorem yG{kindOf:Str->Option NameKind}{x:Str}:∀{binds:List (Str×f_)}{m:Str->Option f_},(∀v,(x,v)∉binds)->bindL kindOf binds m x=m x
 |[],_,_=>rfl
 | (n,v)::r,m,h=>by
   unfold bindL;rw[yG λw hw=>h w (aB _ hw)]
   split<;>grind
theorem yU{kindOf:Str->Option NameKind}{x:Str}:∀{binds:List (Str×f_)}{m:Str->Option f_},(∀v,(x,v)∉binds)->bindC kindOf binds m x=m x
 |[],_,_=>rfl
 | (n,v)::r,m,h=>by
   unfold bindC;rw[yU λw hw=>h w (aB _ hw)]
   split<;>grind
theorem rT{kindOf:Str->Option NameKind}{x:Str}{v:f_}:∀{P:List Str}{vs:List f_}{i:Nat}{m:Str->Option f_},P.Nodup->P[i]?=a_ x->vs[i]?=a_ v->kindOf x=a_ .local ->
  bindL kindOf (P.zip vs) m x=a_ v
 |[],_,_,_,_,h,_,_=>by simp at h
 |_::_,[],_,_,_,_,h,_=>by simp at h
 | p::P,w::vs,0,m,nd,h1,h2,hk=>by
   simp at h1 h2;subst h1;subst h2;show bindL _ ((p,w)::P.zip vs) m p=_;unfold bindL;rw[yG λv hv=>(eh.mp nd).1 (qp hv).1,if_pos hk];simp
 | p::P,w::vs,i+1,m,nd,h1,h2,hk=>by
   unfold bindL;exact rT (eh.mp nd).2 (by simpa using h1) (by simpa using h2) hk
theorem tj{kindOf:Str->Option NameKind}{x:Str}{v:f_}:∀{P:List Str}{vs:List f_}{i:Nat}{m:Str->Option f_},P.Nodup->P[i]?=a_ x->vs[i]?=a_ v->kindOf x≠a_ .local ->
  bindC kindOf (P.zip vs) m x=a_ v
 |[],_,_,_,_,h,_,_=>by simp at h
 |_::_,[],_,_,_,_,h,_=>by simp at h
 | p::P,w::vs,0,m,nd,h1,h2,hk=>by
   simp at h1 h2;subst h1;subst h2;show bindC _ ((p,w)::P.zip vs) m p=_;unfold bindC;rw[yU λv hv=>(eh.mp nd).1 (qp hv).1,if_neg hk];simp
 | p::P,w::vs,i+1,m,nd,h1,h2,hk=>by
   unfold bindC;exact tj (eh.mp nd).2 (by simpa using h1) (by simpa using h2) hk
def start(N:List Str)(vs:List V):St:=vs.map a_++aS (N.length-2#4) b_
def Gc(CX:CXT)(P:Program)(w:World)(K:ao)(mg:Str->Option f_)(base:Heap)(N:List Str)(qual:Str)(scope:Scope)(f:e_)(cd:f_)(A:Around)(outer:List Env)(s:g_)(H:Hp)(E:XK):Cx where
 prog:=P
 w:=w
 K:=K
 mg:=mg
 base:=base
 A:=A.deeper (envOfC qual scope s.heap.objs.size f cd)
 N:=N
 s₀:=s
 H₀:=H
 env:=envOfC qual scope s.heap.objs.size f cd
 outer:=outer
 stack:=envOfC qual scope s.heap.objs.size f cd::outer
 ex:= []
 calm:=c_
 fn:=λ_=>c_
 pn:= []
 xe:=λe s'=>aD (model P w) (A.deeper (envOfC qual scope s.heap.objs.size f cd)) (leaving (envOfC qual scope s.heap.objs.size f cd) e) (λ_ s''=>CX outer H s E e s'') (λe' s''=>CX outer H s E e' s'') s'
theorem kz{sc:Scope}{x:Str}(h:sc.names.lookup x=a_ .cell):∃c,(cellsFrom n sc.names []).lookup x=a_ c:=iW.mp (ju _ n [] (.inl h))
variable{f:e_}{CX:CXT}{mg:Str->Option f_}{base:Heap}{qual:Str}{scope:Scope}
theorem G0{N:List Str}{cd:f_}{outer:List Env}{s1:g_}{E:XK}{vs:List V}
  (S:bh N ps scope) (hd:A.handled=b_) (e0:Hm P w K mg base A outer s H) (hl:2#4=8#1) (r:cX vs us)
  (x:InCallC s s.heap.objs.size (bindL (envOfC qual scope s.heap.objs.size f cd).kindOf (ps.zip us) λ_=>b_) (cellsFrom (1#0+1) scope.names []) (bindC (envOfC qual scope s.heap.objs.size f cd).kindOf (ps.zip us) λ_=>b_) s1):
  Inv (Gc CX P w K mg base N qual scope f cd A outer s H E) [] (start N vs) H s1:=by
 have ZL:8#1<=N.length:=by have:=congrArg eV S.pre;grind
 obtain⟨h1,tk,rfl,hk⟩:=x.done;have noA:∀b,b∉(Gc CX P w K mg base N qual scope f cd A outer s H E).ex:=λb z=>absurd (show b∈[] from z) 0#3
 refine⟨⟨e0.mod,S.kind,rfl,rfl,ak _,λy z c h1 h2 =>?_,λy hy =>?_,λy c _ h =>?_,λ_=>hd,HC e0.frames,.inr ⟨rfl,rfl⟩,λb z=>absurd z (noA b),e0.bs,e0.bsz,λb _ _=>noA b,λb z=>absurd z (noA b),e0.funs,e0.frf⟩,
  rfl,e0.bare,Un.kept hk,⟨_,x.toInCall.ns,λi y v h1 h2 h3 =>?_⟩,λy c h=>⟨_,x.cell y c h⟩,e0.hok.fresh (ak _),λy c h =>?_,λp hp=>absurd (show p∈[] from hp) (by simp),e0.hok.kept hk,?_⟩
 .exact name_of_addr x.apart (cw h1) (cw h2)
 .rcases hy with hy|hy
  .exact kz hy
  .exact absurd rfl (S.nofree _ (cw hy))
 .exact aI (x.above y c (cw h))
 .have hi:i<2#4:=by
   unfold start at h2;by_cases hi:i<2#4
   .omega
   .rw[bo (by simpa using hi)]at h2
    rw[jv]at h2<;>simp_all
  have ha:vs[i]?=a_ v:=by
   unfold start at h2;rw[aT _]at h2<;>simp_all
  obtain⟨u,hu,rv⟩:=r.get ha;have hp:ps[i]?=a_ y:=by
   rw[<-S.pre,List.getElem?_take_of_lt 0#0];exact h1
  have ndP:ps.Nodup:=by rw[<-S.pre];exact S.nd.sublist (jN _ _)
  refine⟨u,rv,?_⟩;rcases S.par y (bK hp) with k|k
  .exact .inl ⟨k,rT ndP hp hu k⟩
  .obtain⟨c,e⟩:=kz k
   refine .inr ⟨.inl k,c,e,?_⟩;have q:=x.cell y c e;rw[tj ndP hp hu (by show scope.names.lookup y≠_;rw[k];decide)]at q;omega
 .exact e0.hok.fresh (aI (x.above y c (cw h)))
 .unfold start
  show _=N.length
  grind
theorem Fy{k:Nat}{name:Str}{params:Arguments}{body:List Stmt}{dV kV doc pm cdv ct oc:f_}{an od:Option e_}
  {osl:Array (Option f_)}{N:List Str}{sp:Sp} (lk:K.lookup f=a_ ⟨oc,od,.func (dA name qual params body scope dV kV doc pm an cdv ct),osl⟩) (Z4:ip K cdv qual=c_) (S:bh N ps scope)
  (len:∀vs H Q E,sp vs H Q E->2#4=8#1)
  (XZ: ∀(A:Around) (outer:List Env) (s:g_) (H:Hp) (vs:List V) (Q:VK) (E:XK),lF k (A.deeper (envOfC qual scope s.heap.objs.size f cdv))->sp vs H Q E ->
   ∃t,PSs (Gc CX P w K mg base N qual scope f cdv A outer s H E) body t/\t { nx:=λ_ H'=>Q .non H',rt:=Q } (start N vs) H):
  lD P w K mg base CX (k+1) f (dA name qual params body scope dV kV doc pm an cdv ct) ps sp:=by
 refine⟨len,λA outer s H args us vs Q E hr e0 hb r YD=>?_⟩;have KX:=e0.mod.kin.keeps λb o e=>(e0.bs b o e).1;have hkind:∀y∈ps.zip us,scope.names.lookup y.1=a_ _\/(scope.names.lookup y.1=a_ _/\((cellsFrom (1#0+1) _ []).lookup y.1).isSome=c_):=fun⟨n,v⟩ hy=>by
  rcases S.par n (qp hy).1 with q|q
  .exact .inl q
  .exact .inr ⟨q,ju _ _ _ (.inl q)⟩
 refine codeAny_call_function hr.depth (KX _ _ lk) rfl S.co S.gen rfl (PySem.W.codeRec_of KX Z4) (hb _ _ _ _ ?_);refine wpAny_newFunctionEnv_cells S.kind hkind λenv he s1 x=>?_;subst he;refine⟨(e0.mod.nolimit.keeps λb o e=>(e0.bs b o e).1).keeps x.toInCall.keep,codeAny_func ?_⟩;obtain⟨t,ht,hq⟩:=XZ A _ s H vs Q E (hr.deeper _) YD;refine dv (ht [] s1 _ H _ (G0 S hr.hd e0 (len _ _ _ _ YD) r x) hq) (λfl s' hs=>?_) λe s' hs=>hs;have fin:∀{Y3:St}{H':Hp}{v:V}{u:f_},Inv (Gc CX P w K mg base N qual scope f cdv A _ s H E) [] Y3 H' s'->RelV v u->Q v H'->CE outer P w H s Q u s':=
  λ{Y3 H' v u} J rv q=>⟨v,H',J.os,J.bare,J.base,J.hok,rv,q⟩
 cases fl with
 | ret u=>
   obtain⟨v,Y3,H',J,rv,q⟩:=hs;exact fin J rv q
 | next=>
   obtain⟨Y3,H',J,q⟩:=hs;exact fin (v:=V.non) J rfl q
 | brk=>
   obtain⟨_,_,_,q⟩:=hs<;>simp_all
 | cont=>
   obtain⟨_,_,_,q⟩:=hs<;>simp_all
section
variable {X:Cx}{x:Str}{p pos:Pos}{e:Expr}{es:List Expr}{t:TA}{id T:String}{r:List V->Hp->VK->Prop}
def tCB(r:List V->Hp->VK->Prop)(t:TA):TE:=λσ H Q=>t σ H λvs H1=>r vs H1 Q
theorem ko(hc:iM X (.builtin id) r)(hg:Gl X x)(hm:X.mg x=b_)(hv:bootBuiltins x=a_ (.builtin id))(ha:PA X 2#0 t)(hn:autoParam (x≠"__name__") 9#9)(WU:autoParam (8#3=d_) 9#9)
  (he:autoParam 10#2 1#6) (ZL:autoParam 13#5 1#6):PE X (.Call (.Name x p) 2#0 [] pos) (tCB r t):=λpins s σ H Q I h=>ff (ky I hg hm hv (rM (thn (ha _ _ s σ H _ I h) λus s1 ⟨vs,H1,I1,r1,q1⟩=>hc _ s1 σ H1 vs us Q I1 r1 q1) he ZL) hn WU)
theorem lE(hc:iM X (.type T) r)(hg:Gl X x)(hm:X.mg x=b_)(hv:bootBuiltins x=a_ (.type T))(ha:PA X 2#0 t)(hn:autoParam (x≠"__name__") 9#9)(WU:autoParam (8#3=d_) 9#9)
  (he:autoParam 10#2 1#6) (ZL:autoParam 13#5 1#6):PE X (.Call (.Name x p) 2#0 [] pos) (tCB r t):=λpins s σ H Q I h=>ff (ky I hg hm hv (cM (thn (ha _ _ s σ H _ I h) λus s1 ⟨vs,H1,I1,r1,q1⟩=>hc _ s1 σ H1 vs us Q I1 r1 q1) he ZL) hn WU)
end
end _L
namespace HT
open PySem PyProof.Rows
def lexLt:List Int->List Int->Bool
 |[],[]=>d_
 |[],_::_=>c_
 |_::_,[]=>d_
 |x::xs,y::ys=>if x=y then lexLt xs ys else decide (x<y)
theorem lexLt_cons(x y:Int)(xs ys:List Int):lexLt (x::xs) (y::ys)=if x=y then lexLt xs ys else decide (x<y):=rfl
section
open PySem.SeqAt
open PySem.AutoSeq1 (wpAny_loadPart')
open PySem.MeetsSeq PySem.MeetsSeq2 PySem.MeetsSeq3
end
section
variable {prog:Program}{w:World}{A:Around}{E:f_->g_->Prop}{s:g_}
variable{Q:f_->g_->Prop}
theorem cat_tup{t b:e_}{vs ws:List f_}(ht:IsTup s.heap t vs.toArray)(hb:IsTup s.heap b ws.toArray)(hv:vs≠[])
  (h1:ws=[]->Q (.ref t) s) (h2:ws ≠ []->Q 6#1 { s with heap:=s.heap.push { cls := .type "tuple",data := .seq (vs++ws).toArray } })
  (ZF:2#4+ws.length<=sizeLine):aD 1#7 A (binaryOp .Add (.ref t) (.ref b)) Q E s:=by
 obtain⟨⟨cls,dd,data,sl⟩,ho,hc,n,hd⟩:=id ht;obtain⟨⟨cls2,dd2,data2,sl2⟩,Yv,XT,n2,hd2⟩:=id hb;subst hc hd XT hd2;have e:vs.toArray++ws.toArray=(vs++ws).toArray:=by simp
 by_cases hw:ws=[]
 .exact concat_meets ⟨_,ho,rfl⟩ ⟨_,Yv,rfl⟩ noFill_tuple_add seq_tuple_add oz m6 (mN _ _)
   (tuple_addW1 t b _ _ n n2 dd _ sl _ (by simpa using hv) (by simp[hw])) ⟨ho,Yv,h1 hw⟩
 .refine concat_meets ⟨_,ho,rfl⟩ ⟨_,Yv,rfl⟩ noFill_tuple_add seq_tuple_add oz m6 (mN _ _)
   (tuple_addW2 t b _ _ n n2 dd _ sl _ (by simpa using hv) (by simpa using hw) 2#3) ⟨ho,Yv,?_⟩
  rw[e];exact h2 hw
def sIx(n d:Nat):Option Int->Nat
 |none=>d
 |some v=>if v<0 then(v+(n:Int)).toNat else min v.toNat n
theorem Wf(n d:Nat)(hd:d<=n)(o:Option Int):sIx n d o<=n:=by
 cases o with
 |none=>exact hd
 | some v=>
   show(if v<0 then(v+n).toNat else min _ n)<=n
   grind
theorem FI(v:Int)(n d:Nat):(if v<0 then max (v+(n:Int)) 0 else min v (n:Int))=((sIx n d (a_ v):Nat):Int):=by
 show(if v<0 then max _ 0 else min v _)=(((if v<0 then(v+n).toNat else min _ n)))
 grind
theorem DY(lo hi:Option Int)(n:Nat):uQ lo hi 1 (n:Int)=(((sIx n 0 lo:Nat):Int),((sIx n n hi:Nat):Int)):=by
 refine Prod.ext ?_ ?_
 .cases lo with
  |none=>rfl
  |some v=>exact FI v n 0
 .cases hi with
  |none=>rfl
  |some v=>exact FI v n n
theorem Du(i j:Nat):kJ (i:Int) (j:Int) 1=j-i:=by
 unfold kJ
 grind
theorem wm{v:f_}{o:Option Int}{Q:Option Int->g_->Prop}(p:IsPart v o)(h:Q o s):aD 1#7 A (Builtin.Slice.slicePartIndex v) Q E s:=by
 cases p with
 |none=>exact slicePart_none h
 |int i t=>exact slicePart_int h
theorem lK{sl:e_}{vl vu:f_}{lo hi:Option Int}{n:Nat}{Q:Int×Int×Nat->g_->Prop}(hs:s.heap.IsSliceOf sl vl vu .none)(pl:IsPart vl lo)(pu:IsPart vu hi)
  (h:Q (((sIx n 0 lo:Nat):Int),1,sIx n n hi-sIx n 0 lo) s):aD 1#7 A (Builtin.Slice.sliceApplied (.ref sl) (pure (n:Int))) Q E s:=by
 obtain⟨os,Yw,XW,hds⟩:=id hs;refine ab (ab (dg Yw hds (x:=vl) rfl (ab (dg Yw hds (x:=vu) rfl (ab (dg Yw hds rfl (aj ?_)))))));refine ab (slicePart_none ?_);refine ab (wm pl (ab (wm pu (ab (aj ?_)))));show aD _ _ (match uQ lo hi 1 _ with | (lo,hi)=>pure (lo,(1:Int),kJ lo hi 1)) _ _ s;rw[DY lo hi n];show aD _ _ (pure _) _ _ s;rw[Du];exact aj h
theorem KJ(xs:Array f_)(i k:Nat):((aq k).filterMap λ(m:Nat)=>xs[((i:Int)+(m:Int)*1).toNat]?).toArray=((xs.toList.drop i).take k).toArray:=by
 have e:(λ(m:Nat)=>xs[(i+(m:Int)*1).toNat]?)=λm=>xs[i+m]? := by
  grind
 have:=pick_run xs i k;have e2:((λx=>xs[x]?)∘λx=>i+x)=λm=>xs[i+m]? := rfl
 simp_all
theorem getItem_tuple_cut{t sl:e_}{items:Array f_}{vl vu:f_}{lo hi:Option Int}(ht:IsTup s.heap t items)(hs:s.heap.IsSliceOf sl vl vu .none)(pl:IsPart vl lo)(pu:IsPart vu hi)
  (hw: ¬(sIx items.size 0 lo=0/\sIx items.size items.size hi=3#5))
  (h:Q 6#1 { s with heap:=s.heap.push { cls := .type "tuple",data := .seq ((items.toList.drop (sIx items.size 0 lo)).take (sIx items.size items.size hi-sIx items.size 0 lo)).toArray } })
  (ZF:3#5<=sizeLine):aD 1#7 A (getItem (.ref t) (.ref sl)) Q E s:=by
 have htake:=by
  show((items.toList.drop (sIx items.size 0 lo)).take (sIx items.size items.size hi-sIx items.size 0 lo)).toArray.size<=sizeLine;rw[bP,c6,iN,bR];omega
 obtain⟨os,Yw,XW,hds⟩:=id hs;unfold getItem
 try with_reducible refine dF ?_
 refine ab (wpAny_sequenceKey ht.typeIs 0#2 ?_)
 refine ab (bO ht.typeIs fH
  (bG fH ht.typeIs entry_tuple_getitem ?_ (args_tuple_getitem _ _)))
 show aD _ _ (uq _ >>= _) _ _ s;refine ab (tupleItemsOf_ ht ?_);refine ab (jf ⟨os,Yw,XW⟩ ?_);refine ab (lK hs pl pu ?_);have hno: ¬((((sIx items.size 0 lo):Int)==0&&(1:Int)==1&&(sIx items.size items.size hi-sIx items.size 0 lo)==3#5)=c_):=by
  grind
 show aD _ _ (if (((sIx _ 0 lo):Int)==0&&1==1&&(sIx _ _ hi-sIx _ 0 lo)==3#5)=c_ then _ else _) _ _ s;rw[if_neg hno,KJ]
 first
  |exact ab (bJ (aj ⟨_,rfl,aj h⟩) htake)
  |grind
  |grind
  |grind
end
end HT
namespace _L
open PySem PySem.Spec PyProof.Rows
abbrev TO:=St->Hp->(Option Int->Hp->Prop)->Prop
def PO(X:Cx)(e:Option Expr)(t:TO):Prop:=
 ∀(pins:List 2#7) (s:g_) (σ:St) (H:Hp) (Q:Option Int->Hp->Prop),Inv X pins σ H s->t σ H Q ->
  aD 1#5 X.A (evalPart e X.env) (λu s'=>∃o H',Inv X pins σ H' s'/\IsPart u o/\Q o H') X.xe s
def Ez:TO:=λ_ H Q=>Q b_ H
def NW(t:TE):TO:=λσ H Q=>t σ H λx H1=>∃i,x=.int i/\Q (a_ i) H1
section
variable {X:Cx}{e:Expr}{te:TE}{lo hi:Option Expr}{tl th:TO}{pos p2:Pos}
theorem M7:PO X b_ Ez:=λpins s σ H Q I h=>aj ⟨_,H,I,.none,h⟩
theorem Mz(h:PE X e te):PO X (a_ e) (NW te):=by
 intro pins s σ H Q I hw;refine thn (h _ s σ H _ I hw) λu s1 ⟨x,H1,I1,r1,q1⟩=>?_;obtain⟨i,rfl,q⟩:=q1;obtain⟨t,rfl⟩:=r1;exact⟨_,H1,I1,.int i t,q⟩
def SlR(X:Cx)(r:V->Option Int->Option Int->Hp->VK->Prop):Prop:=
 ∀(pins:List 2#7) (s:g_) (σ:St) (H:Hp) (x:V) (v vl vu:f_) (lo hi:Option Int) (sl:e_) (Q:VK),Inv X pins σ H s->RelV x v->s.heap.IsSliceOf sl vl vu .none->IsPart vl lo->IsPart vu hi->r x lo hi H Q ->
  ∃ T id,typeLookup (.type T) "__getitem__"=pure (a_ (.builtin id))/\s.TypeIs v T/\aD 1#5 X.A (getItem v (.ref sl)) 10#7 X.xe s
variable{r:V->Option Int->Option Int->Hp->VK->Prop}
theorem SlR.or{r':V->Option Int->Option Int->Hp->VK->Prop}(h:SlR X r)(h':SlR X r'):SlR X (λx lo hi H Q=>r x lo hi H Q\/r' x lo hi H Q):=by
 intro pins s σ H x v vl vu lo hi sl Q I rx hs pl pu q;rcases q with q|q
 .exact h _ s σ H x v vl vu lo hi sl Q I rx hs pl pu q
 .exact h' _ s σ H x v vl vu lo hi sl Q I rx hs pl pu q
def tSl(r:V->Option Int->Option Int->Hp->VK->Prop)(te:TE)(tl th:TO):TE:=λσ H Q=>te σ H λx H1=>tl σ H1 λl H2=>th σ H2 λu H3=>r x l u H3 Q
theorem IY(hr:SlR X r)(he:PE X e te)(hl:PO X lo tl)(hu:PO X hi th):PE X (.Subscript e (.Slice lo hi b_ p2) pos) (tSl r te tl th):=by
 intro pins s σ H Q I h;refine Subscript_ (thn (he _ s σ H _ I h) λv s1 ⟨x,H1,I1,r1,q1⟩=>?_);refine wpAny_Slice (thn (hl _ s1 σ H1 _ I1 q1) λvl s2 ⟨l,H2,I2,pl,q2⟩=>thn (hu _ s2 σ H2 _ I2 q2) λvu s3 ⟨u,H3,I3,pu,q3⟩=>?_);refine aj ?_;obtain⟨T,id,hT,ht,hg⟩:=hr _ _ σ H3 x v vl vu l u _ Q (I3.kept λb ob q=>af _ q) r1 (Heap.IsSliceOf.new ..) pl pu q3;exact tail_any ht hT hg (by with_unfolding_all rfl)
def Gb(xs:List V)(lo hi:Option Int):List V:=(xs.drop (HT.sIx xs.length 0 lo)).take (HT.sIx xs.length xs.length hi-HT.sIx xs.length 0 lo)
theorem tU(xs:List V)(lo hi:Option Int):(Gb xs lo hi).length<=1#4:=by
 unfold Gb;rw[c6,iN]
 lia
def U2(K:ao):V->Option Int->Option Int->Hp->VK->Prop:=λx lo hi H Q=>∃a xs,x=.ref a/\SqT K H a xs /\
 ¬(HT.sIx xs.length 0 lo=0/\HT.sIx xs.length xs.length hi=1#4) /\ ∀p,H p=b_->Q (.ref p) (upd H p (.tup (Gb xs lo hi)))
theorem Qx:SlR X (U2 X.K):=by
 intro pins s σ H x v vl vu lo hi sl Q I rx hs pl pu h;obtain⟨a,xs,rfl,hx,hw,q⟩:=h;cases rx;obtain⟨ZY,r,ht,hz⟩:=I.tuple hx;have hlen:14#0=1#4:=r.length.symm;refine⟨_,_,PyProof.Rows.slot_tuple_getitem.lookup,ht.typeIs,?_⟩;refine HT.getItem_tuple_cut ht hs pl pu (by rw[hlen];omega) ?_ (by rw[hlen];omega);rw[hlen];refine 23#5;exact⟨aK (tU xs lo hi) hz,_,(r.drop _).take _,rN _ _,_,av _ rfl,rfl⟩
def OR(K:ao):R2:=λx y H Q=>∃a b xs ys,x=.ref a/\y=.ref b/\SqT K H a xs/\SqT K H b ys/\xs≠[]/\1#4+4#5<=sizeLine /\
 (ys=[]->Q (.ref a) H)/\(ys≠[]->∀p,H p=b_->Q (.ref p) (upd H p (.tup (xs++ys))))
theorem cX.nil_iff{xs:List V}{us:List f_}(r:cX xs us):us=[]↔xs=[]:=by
 cases r<;>simp_all
theorem Lu:OpR X (binaryOp .Add) (OR X.K):=by
 intro pins s σ H x y v u Q I rx ry h;obtain⟨a,b,xs,ys,rfl,rfl,ha,hb,hx,hz,q1,q2⟩:=h;cases rx;cases ry;obtain⟨ZY,r1,p1,_⟩:=I.tuple ha;obtain⟨ZC,r2,p2,_⟩:=I.tuple hb;refine HT.cat_tup p1 p2 (λz=>hx (r1.nil_iff.mp z)) (λz=>⟨.ref a,H,I,rfl,q1 (r2.nil_iff.mp z)⟩) (λz=>?_) (by rw[<-r1.length,<-r2.length];omega);refine⟨.ref _,_,I.laid (λb ob q=>af _ q) 2#1 ?_,rfl,q2 (λw=>z (r2.nil_iff.mpr w)) _ 16#6⟩;exact⟨by simp_all,_,r1.append r2,rN _ _,_,av _ rfl,rfl⟩
end
def ixN(n:Nat)(i:Int):Option Nat:=if 0<=i then(if i<n then a_ i.toNat else b_) else if -(n:Int)<=i then a_ (i+n).toNat else b_
def atI{α:Type}(xs:List α)(i:Int):Option α:=(ixN xs.length i).bind λj=>xs[j]?
variable{n:Nat}{i:Int}
theorem FD{j:Nat}(h:ixN n i=a_ j):seqIndex? i n=a_ j/\j<n /\ -(n:Int)<=i/\i<n:=by
 unfold ixN at h;by_cases h0:0<=i
 .rw[if_pos h0]at h
  by_cases h1:i<n
  .rw[if_pos h1]at h
   have e:=eR h;exact⟨by rw[seqIndex_of h0 h1,e],by lia,by lia,h1⟩
  simp_all
 .rw[if_neg h0]at h
  by_cases h1: -n<=i
  .rw[if_pos h1]at h
   have e:=eR h;exact⟨by rw[seqIndex_neg 0#0 h1,e],by lia,h1,by lia⟩
  simp_all
theorem y4{α:Type}{xs:List α}{v:α}(h:atI xs i=a_ v):∃j,seqIndex? i 1#4=a_ j/\xs[j]?=a_ v/\j<1#4 /\ -(1#4:Int)<=i/\i<1#4:=by
 unfold atI at h;cases e:ixN _ i with
 |none=>rw[e]at h;cases h
 | some j=>
   rw[e]at h;obtain⟨h1,h2,h3,h4⟩:=FD e;exact⟨j,h1,h,h2,h3,h4⟩
def zh(b:Expr):Prop:= ∀o i,subscripted b d_ o i=operate [o,i] (getItem o i)
def IxR(X:Cx)(r:R2):Prop:=
 ∀(value slice:Expr) (pins:List 2#7) (s:g_) (σ:St) (H:Hp) (x y:V) (v u:f_) (Q:VK),Inv X pins σ H s->RelV x v->RelV y u->r x y H Q ->
  subscripted slice d_ v u=operate [v,u] (getItem v u)->aD 1#5 X.A (subscriptTail value slice v u) 10#7 X.xe s
def MtR(X:Cx)(id:String)(r:V->List V->Hp->VK->Prop):Prop:=
 ∀(pins:List 2#7) (s:g_) (σ:St) (H:Hp) (x:V) (xs:List V) (v:f_) (us:List f_) (Q:VK),Inv X pins σ H s->RelV x v->cX xs us->r x xs H Q ->
  aD 1#5 X.A (call (.builtin id) (v::us)) 10#7 X.xe s
section
variable {X:Cx}{a b:Expr}{ta tb:TE}{pos:Pos}
theorem IxR.or{r r':R2}(h:IxR X r)(h':IxR X r'):IxR X (λx y H Q=>r x y H Q\/r' x y H Q):=by
 intro value slice pins s σ H x y v u Q I rx ry q hs;rcases q with q|q
 .exact h _ _ _ s σ H x y v u Q I rx ry q hs
 .exact h' _ _ _ s σ H x y v u Q I rx ry q hs
theorem SL{r:R2}(hr:IxR X r)(ha:PE X a ta)(hb:PE X b tb)(hs:zh b):PE X (.Subscript a b pos) (tOp r ta tb):=λpins s σ H Q I h=>Subscript_ (PK ha hb I h λv u s2 x y H2 I2 rx ry q=>hr a b _ s2 σ H2 x y v u Q I2 rx ry q (hs _ _))
def UK(K:ao):R2:=λx y H Q=>∃p xs i v,x=.ref p/\y=.int i/\SqL K H p xs/\atI xs i=a_ v/\Q v H
def SQ(K:ao):R2:=λx y H Q=>∃p xs i v,x=.ref p/\y=.int i/\SqT K H p xs/\atI xs i=a_ v/\Q v H
def UI:R2:=λx y H Q=>∃z i c,x=.str z/\y=.int i/\z.length<=sizeLine/\atI z.cps.toList i=a_ c/\Q (.str ⟨#[c]⟩) H
theorem Mg:IxR X (UK X.K):=by
 intro value slice pins s σ H x y v u Q I rx ry h hs;obtain⟨p,xs,i,z,rfl,rfl,hq,he,q⟩:=h;cases rx;obtain⟨t,rfl⟩:=ry;obtain⟨ZY,r,pl,hz⟩:=I.list hq;obtain⟨j,h1,h2,h3,h4,h5⟩:=y4 he;obtain⟨w,ew,Zd⟩:=r.get h2;have hl:=r.length;have hn:=qh;have fin:EP X _ σ Q w s:=⟨z,H,I,Zd,q⟩;by_cases h0:0<=i
 .have hj:=by
   rw[seqIndex_of h0 h5]at h1;exact eR h1
  exact item_listR pl.isList h0 0#0 (by rw[hj];simpa using ew) fin hs
 .have hj:(i+14#0).toNat=j:=by
   rw[seqIndex_neg 0#0 h4]at h1<;>simp_all
  exact subscriptTail_builtinR pl.isList.typeIs slot_list_getitem.lookup
   (wpAny_getItem_list_neg pl.isList 0#0 5#6 0#0 (by rw[hj];simpa using ew) ⟨rfl,fin⟩) hs
theorem QY:IxR X (SQ X.K):=by
 intro value slice pins s σ H x y v u Q I rx ry h hs;obtain⟨p,xs,i,z,rfl,rfl,hq,he,q⟩:=h;cases rx;obtain⟨t,rfl⟩:=ry;obtain⟨ZY,r,pl,hz⟩:=I.tuple hq;obtain⟨j,h1,h2,h3,h4,h5⟩:=y4 he;obtain⟨w,ew,Zd⟩:=r.get h2;have hl:=r.length;have hn:=qh;exact subscriptTail_builtinR pl.typeIs slot_tuple_getitem.lookup
  (getItem_tuple (j:=j) pl 0#0 0#0 5#6 (by simpa using ew) ⟨rfl,⟨z,H,I,Zd,q⟩⟩) hs
theorem Ql:IxR X UI:=by
 intro value slice pins s σ H x y v u Q I rx ry h hs;obtain⟨z,i,c,rfl,rfl,hz,he,q⟩:=h;obtain⟨t,rfl⟩:=rx;obtain⟨t',rfl⟩:=ry;obtain⟨j,h1,h2,h3,h4,h5⟩:=y4 he;have hl:z.cps.toList.length=z.length:=by simp[Str.length]
 rw[hl]at h1 h4 h5;have hn:=qh
 exact tail_any (typeIs_str s z t) slot_str_getitem.lookup (getItem_str (by
  grind) (by rw[h1];simpa using h2) ⟨.str _,H,I.tok _,⟨_,rfl⟩,q⟩) hs
def rIx(K:ao):R2:=λx y H Q=>UK K x y H Q\/SQ K x y H Q\/UI x y H Q
theorem Rb:IxR X (rIx X.K):=Mg.or (QY.or Ql)
theorem DG(ZY:List f_)(n j:Nat)(u:f_):cN (·.setIfInBounds j u) { cls := .type "list",data := .seq ZY.toArray n }={ cls := .type "list",data := .seq (ZY.set j u).toArray n }:=by
 simp[cN]
theorem Inv.lst{pins:List (e_×Obj)}{σ:St}{H:Hp}{s:g_}{p:e_}{xs:List V}(I:Inv X pins σ H s)(h:H p=a_ (.lst xs)):
  ∃ (ZY:List f_) (n:Nat),cX xs ZY/\s.heap.get? p=a_ { cls := .type "list",data := .seq ZY.toArray n }/\1#4<=sizeLine:=by
 obtain⟨z,ZY,n,r,e⟩:=I.hok p _ h;exact⟨_,n,r,e,z⟩
variable{pins:List (e_×Obj)}{σ:St}{s:g_}
theorem Inv.lstUpd{H:Hp}{p:e_}{xs ys:List V}{ZY Zg:List f_}{n':Nat}{f:Obj->Obj}(I:Inv X pins σ H s)(h:H p=a_ (.lst xs))
  (ho:s.heap.get? p=a_ { cls := .type "list",data := .seq ZY.toArray n }) (hf:f { cls := .type "list",data := .seq ZY.toArray n }={ cls := .type "list",data := .seq Zg.toArray n' }) (r:cX ys Zg) (hz:4#5<=sizeLine) (t:Nat) :
  Inv X pins σ (upd H p (.lst ys)) { s with heap:=s.heap.update p f,toks:=t }:=by
 have e:(s.heap.update p f).get? p=a_ { cls := .type "list",data := .seq Zg.toArray n' }:=by
  rw[cY f ho (by rw[hf]<;>rfl),hf]
 refine I.write (by rw[h];trivial) 5#1 (λb u hb q=>(cQ _ _ (eI hb)).trans q) ⟨_,e⟩ ?_;exact⟨hz,_,n',r,e⟩
def On:V->V->V->Hp->(Hp->Prop)->Prop:=λo i v H Q=>∃p xs k j,o=.ref p/\i=.int k/\H p=a_ (.lst xs)/\ixN xs.length k=a_ j/\Q (upd H p (.lst (xs.set j v)))
theorem set_list:Ph X On:=by
 intro pins s σ H o i v ov iv u Q I ro ri rv h;obtain⟨p,xs,k,j,rfl,rfl,hp,hj,q⟩:=h;cases ro;obtain⟨t,rfl⟩:=ri;obtain⟨ZY,n,r,ho,hz⟩:=I.lst hp;obtain⟨h1,h2,h3,h4⟩:=FD hj;have hl:=r.length;have hn:=qh;have I':=
  I.lstUpd hp ho (DG _ n j u) (r.set rv j) 5#6 s.toks
 by_cases h0:0<=k
 .have hk:=by
   rw[seqIndex_of h0 h4]at h1;exact eR h1
  exact PySem.W.ki_setAt ho h0 0#0 5#6 (by rw[hk];exact⟨_,I',q⟩)
 .have hk:(k+14#0).toNat=j:=by
   rw[seqIndex_neg _ h3]at h1<;>simp_all
  exact PySem.W.ki_setBack ho 0#0 5#6 0#0 (by rw[hk];exact⟨_,I',q⟩)
theorem Af(lo hi:Option Int)(n:Nat):(sliceBounds lo hi b_ n).1=((HT.sIx n 0 lo:Nat):Int)/\(sliceBounds lo hi b_ n).2.1=((HT.sIx n n hi:Nat):Int)/\(sliceBounds lo hi b_ n).2.2=1:=by
 refine⟨?_,?_,rfl⟩
 .cases lo with
  |none=>simp[sliceBounds,HT.sIx]
  | some i=>
    simp[sliceBounds,HT.sIx,Option.getD_none,show(1:Int)>0 by decide,if_true];by_cases h:i<0
    .simp only[h,if_true]<;>lia
    .simp[h,if_false]<;>lia
 .cases hi with
  |none=>simp[sliceBounds,HT.sIx]
  | some i=>
    simp[sliceBounds,HT.sIx,Option.getD_none,show(1:Int)>0 by decide,if_true];by_cases h:i<0
    .simp only[h,if_true]<;>lia
    .simp[h,if_false]<;>lia
theorem xH(ZY:List f_)(lo hi:Option Int):slicePick ZY.toArray lo hi b_=((ZY.drop (HT.sIx ZY.length 0 lo)).take (HT.sIx ZY.length ZY.length hi-HT.sIx ZY.length 0 lo)).toArray:=by
 obtain⟨h1,h2,h3⟩:=Af lo hi _;unfold slicePick;rw[h1,h2,h3];simp only[sliceRange_one,pick_run]<;>rfl
def VD(K:ao):V->Option Int->Option Int->Hp->VK->Prop:=λx lo hi H Q=>∃a xs,x=.ref a/\SqL K H a xs /\ ∀p,H p=b_->Q (.ref p) (upd H p (.lst (Gb xs lo hi)))
theorem M6:SlR X (VD X.K):=by
 intro pins s σ H x v vl vu lo hi sl Q I rx hs pl pu h;obtain⟨a,xs,rfl,hx,q⟩:=h;cases rx;obtain⟨ZY,r,ht,hz⟩:=I.list hx;have hlen:=r.length;refine⟨_,_,slot_list_getitem.lookup,ht.isList.typeIs,?_⟩;refine wpAny_getItem_list_slice ht.isList hs pl pu .none 0#3 ?_ 10#0;rw[xH,<-hlen];refine 23#5;exact⟨aK (tU xs lo hi) hz,_,0,(r.drop _).take _,av _ rfl⟩
def pG:V->Bool
 |.non=>c_
 |.bl _=>c_
 |.int _=>c_
 |.str _=>c_
 |_=>d_
def eqV:V->V->Bool
 |.non,.non=>c_
 |.bl a,.bl b=>a==b
 |.bl a,.int b=>(if a then 1 else 0)==b
 |.int a,.bl b=>a==(if b then 1 else 0)
 |.int a,.int b=>a==b
 |.str a,.str b=>a==b
 |_,_=>d_
variable{x:V}
theorem Rw{A:Around}{y:V}{u v:f_}(ry:RelV y u)(rx:RelV x v)(fy:pG y=c_)(fx:pG x=c_):SeqAt.EqAt A s u v (eqV y x):=by
 cases y with
 | non=>
   cases ry;cases x with
   |non=>cases rx;exact SeqAt.EqAt.same _
   |bl b=>cases rx;exact SeqAt.EqAt.none_bool b
   |int b=>obtain⟨t,rfl⟩:=rx;exact SeqAt.EqAt.none_int b t
   |str b=>obtain⟨t,rfl⟩:=rx;exact SeqAt.EqAt.none_str b t
   |_=>exact absurd (fx) dq
 | bl a=>
   cases ry;cases x with
   |non=>cases rx;exact SeqAt.EqAt.bool_none a
   |bl b=>cases rx;exact SeqAt.EqAt.bool_bool a b
   |int b=>obtain⟨t,rfl⟩:=rx;exact SeqAt.EqAt.bool_int a b t
   |str b=>obtain⟨t,rfl⟩:=rx;exact SeqAt.EqAt.bool_str a b t
   |_=>exact absurd (fx) dq
 | int a=>
   obtain⟨t',rfl⟩:=ry;cases x with
   |non=>cases rx;exact SeqAt.EqAt.int_none a t'
   |bl b=>cases rx;exact SeqAt.EqAt.int_bool a t' b
   |int b=>obtain⟨t,rfl⟩:=rx;exact SeqAt.EqAt.int_int a t' b t
   |str b=>obtain⟨t,rfl⟩:=rx;exact FJ a t' b t
   |_=>exact absurd (fx) dq
 | str a=>
   obtain⟨t',rfl⟩:=ry;cases x with
   |non=>cases rx;exact SeqAt.EqAt.str_none a t'
   |bl b=>cases rx;exact SeqAt.EqAt.str_bool a t' b
   |int b=>obtain⟨t,rfl⟩:=rx;exact FK a t' b t
   |str b=>obtain⟨t,rfl⟩:=rx;exact SeqAt.EqAt.str_str a t' b t
   |_=>exact absurd (fx) dq
 |_=>exact absurd (fy) dq
def eqU(x:V)(u:f_):Bool:=match u with
 |.none=>eqV .non x
 |.bool b=>eqV (.bl b) x
 |.int i _=>eqV 4#8 x
 |.str z _=>eqV (.str z) x
 |_=>d_
theorem IE{y:V}{u:f_}(r:RelV y u)(f:pG y=c_):eqU x u=eqV y x:=by
 cases y with
 |non=>cases r;rfl
 |bl b=>cases r;rfl
 |int i=>obtain⟨t,rfl⟩:=r;rfl
 |str z=>obtain⟨t,rfl⟩:=r;rfl
 |_=>exact absurd (f) dq
theorem qU{x:V}:∀{xs:List V}{us:List f_},cX xs us->xs.all pG=c_->us.any (eqU x)=xs.any λy=>eqV y x
 |_,_,.nil,_=>rfl
 | y::xs,u::us,.cons r t,f=>by
   rw[cH,aE]at f;rw[nc,nc,IE r f.1,qU t f.2]
theorem oj{A:Around}{s:g_}{x:V}{v:f_}(rx:RelV x v)(fx:pG x=c_):∀{xs:List V}{us:List f_},cX xs us->xs.all pG=c_->∀u∈us,SeqAt.EqAt A s u v (eqU x u)
 |_,_,.nil,_=>λu hu=>by cases hu
 | y::xs,u::us,.cons r t,f=>λu' hu=>by
   rw[cH,aE]at f;rcases aH.mp hu with rfl|hu
   .rw[IE r f.1];exact Rw r rx f.1 fx
   .exact oj rx fx t f.2 u' hu
def inV(x:V)(xs:List V):Bool:=xs.any λy=>eqV y x
def rIn(K:ao)(neg:Bool):R2:=λx y H Q=>∃p xs,y=.ref p/\(SqL K H p xs\/SqT K H p xs)/\pG x=c_/\xs.all pG=c_/\Q (.bl (if neg then !inV x xs else inV x xs)) H
theorem Ge:OpR X (compareOp .In) (rIn X.K d_):=by
 intro pins s σ H x y v u Q I rx ry h;obtain⟨p,xs,rfl,hq,fx,fs,q⟩:=h;cases ry;rcases hq with hq|hq
 .obtain⟨ZY,r,pl,hz⟩:=I.list hq
  refine SeqAt.in_listAt _ pl.isList 21#1 ⟨.bl _,H,I,rfl,?_⟩;rw[show ZY.toArray.any _=ZY.any (eqU x) by simp,qU r fs];exact q
 .obtain⟨ZY,r,pl,hz⟩:=I.tuple hq
  refine SeqAt.in_tupleAt _ pl 21#1 ⟨.bl _,H,I,rfl,?_⟩;rw[show ZY.toArray.any _=ZY.any (eqU x) by simp,qU r fs];exact q
theorem zJ:OpR X (compareOp .NotIn) (rIn X.K c_):=by
 intro pins s σ H x y v u Q I rx ry h;obtain⟨p,xs,rfl,hq,fx,fs,q⟩:=h;cases ry;rcases hq with hq|hq
 .obtain⟨ZY,r,pl,hz⟩:=I.list hq
  refine SeqAt.notIn_listAt _ pl.isList 21#1 ⟨.bl _,H,I,rfl,?_⟩;rw[show ZY.toArray.any _=ZY.any (eqU x) by simp,qU r fs];exact q
 .obtain⟨ZY,r,pl,hz⟩:=I.tuple hq
  refine SeqAt.notIn_tupleAt _ pl 21#1 ⟨.bl _,H,I,rfl,?_⟩;rw[show ZY.toArray.any _=ZY.any (eqU x) by simp,qU r fs];exact q
theorem zY:iM X (.builtin "len") (fun xs H Q=>∃ p ys,xs=[.ref p]/\(SqL X.K H p ys\/SqT X.K H p ys)/\Q (.int 4#5) H):=by
 intro pins s σ H xs us Q I r h;obtain⟨p,ys,rfl,hq,q⟩:=h;obtain⟨u,rfl,rx⟩:=vals1 r;cases rx;have hn:=qh;rcases hq with hq|hq
 .obtain⟨ZY,r',pl,hz⟩:=I.list hq
  have hlen:=r'.length;exact Calls.call_len_list pl.isList (by simp only[bP]<;>lia) ⟨.int _,H,I.tok _,⟨_,by rw[bP,hlen]⟩,q⟩
 .obtain⟨ZY,r',pl,hz⟩:=I.tuple hq
  have hlen:=r'.length;exact len_tuple pl (by simp only[bP]<;>lia) ⟨.int _,H,I.tok _,⟨_,by rw[bP,hlen]⟩,q⟩
theorem iM.or{f:f_}{r r':List V->Hp->VK->Prop}(h:iM X f r)(h':iM X f r'):iM X f (λxs H Q=>r xs H Q\/r' xs H Q):=by
 intro pins s σ H xs us Q I rs q;rcases q with q|q
 .exact h _ s σ H xs us Q I rs q
 .exact h' _ s σ H xs us Q I rs q
theorem zE:iM X (.type "list") (fun xs H Q=>∃ p ys,xs=[.ref p]/\(SqL X.K H p ys\/SqT X.K H p ys) /\ ∀ l,H l=b_->Q (.ref l) (upd H l (.lst ys))):=by
 intro pins s σ H xs us Q I r h;obtain⟨p,ys,rfl,hq,q⟩:=h;obtain⟨u,rfl,rx⟩:=vals1 r;cases rx;have fin:∀(ZY:List _),cX ys _->4#5<=sizeLine->∀(h':Heap) (c':Nat),17#3 ->
   h'.get? _=a_ _->EP X _ σ Q _ _:=λZY r' hz h' c' kp e=>
  ⟨.ref _,_,I.laid (t':=s.toks) kp 2#1 (show ix _ _ _ h' _ (.lst ys) from⟨hz,ZY,c',r',e⟩),rfl,q _ 16#6⟩
 rcases hq with hq|hq
 .obtain⟨ZY,r',pl,hz⟩:=I.list hq
  have hlen:=r'.length;obtain⟨o,ho,hc,n,hd⟩:=pl.isList;exact call_list_seq p 5#1 ho hc hd (λh' c' kp e=>fin _ r' hz h' c' kp e) (by simp<;>lia)
 .obtain⟨ZY,r',pl,hz⟩:=I.tuple hq
  have hlen:=r'.length;obtain⟨o,ho,hc,n,hd⟩:=pl;exact call_list_seq p (.inr rfl) ho hc hd (λh' c' kp e=>fin _ r' hz h' c' kp e) (by simp<;>lia)
theorem xw:iM X (.type "tuple") (fun xs H Q=>∃ p ys,xs=[.ref p]/\((SqL X.K H p ys /\ ∀ l,H l=b_->Q (.ref l) (upd H l (.tup ys)))\/(SqT X.K H p ys/\Q (.ref p) H))):=by
 intro pins s σ H xs us Q I r h;obtain⟨p,ys,rfl,h⟩:=h;obtain⟨u,rfl,rx⟩:=vals1 r;cases rx;rcases h with⟨hq,q⟩|⟨hq,q⟩
 .obtain⟨ZY,r',pl,hz⟩:=I.list hq
  have hlen:=r'.length;refine call_tuple_list pl.isList (λh' kp=>?_) (by simp<;>lia);have I1:=I.kept (t':=s.toks) kp;have I2:=
   I1.laid (t':=s.toks) (λb o e=>af _ e) 2#1 (show ix _ _ _ _ _ (.tup ys) from⟨hz,_,r',rN _ _,_,av _ rfl,rfl⟩)
  exact⟨.ref _,_,I2,rfl,q _ 16#4⟩
 .obtain⟨ZY,r',pl,hz⟩:=I.tuple hq
  exact call_tuple_same pl ⟨.ref p,H,I,rfl,q⟩
def tyV(K:ao)(T:String)(x:V)(H:Hp):Prop:=match x with
 |.str _=>T="str"
 |.int _=>T="int"
 | .ref p=>(T="list" /\ ∃ xs,SqL K H p xs)\/(T="tuple" /\ ∃ o,K.lookup p=a_ o/\o.cls=.type "tuple"/\o.dict=b_) \/
   (T="dict"/\((∃ kvs,H p=a_ (.dK kvs)) \/ ∃ kvs,H p=a_ (.dT kvs)))\/(T="set" /\ ∃ S n,H p=a_ (.set S n))
 |_=>False
theorem Kv{H:Hp}{T:String}{v:f_}(I:Inv X pins σ H s)(r:RelV x v)(ty:tyV X.K T x H):
  s.TypeIs v T /\ ∀a,v=.ref a->∃ob,s.heap.get? a=a_ ob/\ob.dict=b_:=by
 cases x with
 | str z=>
   obtain⟨t,rfl⟩:=r;cases (ty);exact⟨typeIs_str s z t,λ_ e=>nomatch e⟩
 | int i=>
   obtain⟨t,rfl⟩:=r;cases (ty);exact⟨typeIs_int s i t,λ_ e=>nomatch e⟩
 | ref p=>
   cases r;rcases ty with⟨rfl,xs,hq⟩|⟨rfl,o,hk,hc,hd⟩|⟨rfl,hk⟩|⟨rfl,S,n,hk⟩
   .obtain⟨ZY,_,pl,_⟩:=I.list hq
    refine⟨pl.isList.typeIs,λa e=>?_⟩;obtain⟨o,n,e,c,hd,_⟩:=pl<;>simp_all
   .refine⟨⟨o,I.kIn p o hk,hc⟩,λa e=>?_⟩
    cases e;exact⟨o,I.kIn _ o hk,hd⟩
   .have z:∃o,s.heap.get? p=a_ o/\o.ExactDict:=by
     rcases hk with⟨kvs,hk⟩|⟨kvs,hk⟩
     .obtain⟨_,_,_,_,o,_,_,e,ex,_⟩:=I.hok p _ hk<;>simp_all
     .obtain⟨_,_,_,_,o,_,_,e,ex,_⟩:=I.hok p _ hk<;>simp_all
    obtain⟨o,e,ex⟩:=z;refine⟨⟨o,e,ex.1⟩,λa e2=>?_⟩;cases e2;exact⟨o,e,ex.2.1⟩
   .obtain⟨o,_,_,_,e,ex,_⟩:=I.hok p _ hk
    refine⟨⟨o,e,ex.1⟩,λa e2=>?_⟩;cases e2;exact⟨o,e,ex.2.1⟩
 |_=>exact en ty
def U8(K:ao)(T:String)(r:V->List V->Hp->VK->Prop)(to:TE):TE:=λσ H Q=>to σ H λx H1=>tyV K T x H1/\r x [] H1 Q
def tBM(K:ao)(T:String)(r:V->List V->Hp->VK->Prop)(to:TE)(t:TA):TE:=λσ H Q=>to σ H λx H1=>tyV K T x H1/\t σ H1 λxs H2=>r x xs H2 Q
variable {o e:Expr}{es:List Expr}{to:TE}{t:TA}{name:Str}{apos cpos:Pos}{T id:String}{r:V->List V->Hp->VK->Prop}
theorem Pq(pa:PlainAttrs T)(slot:Slot T name id)(hty:typeOf (.builtin id)=pure (.type "method_descriptor"))(hm:MtR X id r)(ho:PE X o to)
  (Zx:autoParam (attributeBase o name X.env (eval o X.env)=eval o X.env) 1#6) (Zw:autoParam ((apos.endLine==cpos.line)=c_) 1#6):PE X (.Call (.Attribute o name apos) [] [] cpos) (U8 X.K T r to):=by
 intro pins s σ H Q I h;refine wpAny_Call_method0_late Zx Zw (thn (ho _ s σ H _ I h) λv s1 ⟨x,H1,I1,r1,ty,q1⟩=>?_);obtain⟨h1,h2⟩:=Kv I1 r1 ty;exact⟨T,id,pa,slot,hty,h1,h2,pv rfl (PySem.evalArgs_none (hm _ s1 σ H1 x [] v [] Q I1 r1 .nil q1))⟩
theorem HV(pa:PlainAttrs T)(slot:Slot T name id)(hty:typeOf (.builtin id)=pure (.type "method_descriptor"))(hm:MtR X id r)(ho:PE X o to)(ha:PA X 2#0 t)
  (Zx:autoParam (attributeBase o name X.env (eval o X.env)=eval o X.env) 1#6)
  (YL:autoParam (((backTo cpos (starEach 2#0 X.env)).all (λx => !x.1)&&(backToKw cpos (keywordEach [] X.env)).all (λx=>x.1.isSome)
   && decide ((e::es).length+([]:List Keyword).length+(if ([]:List Keyword).isEmpty then 0 else 1)<30))=c_) au1._auto_1)
  (Zw:autoParam ((apos.endLine==cpos.line)=c_) 1#6) (hs:autoParam 10#2 1#6) (YG:autoParam ((backTo cpos 15#6).any (·.1)=d_) 1#6):
  PE X (.Call (.Attribute o name apos) 2#0 [] cpos) (tBM X.K T r to t):=by
 intro pins s σ H Q I h;refine wpAny_Call_method_late Zx YL Zw rfl (thn (ho _ s σ H _ I h) λv s1 ⟨x,H1,I1,r1,ty,q1⟩=>?_);obtain⟨h1,h2⟩:=Kv I1 r1 ty;refine⟨T,id,pa,slot,hty,h1,h2,?_⟩;have hA:=ha cpos _ s1 σ H1 _ I1 q1;rw[hs]at hA ⊢;exact pv (by show(d_||(backTo _ _).any _)=d_;rw[YG]<;>rfl) (rJ (thn hA λus s2 ⟨vs,H2,I2,r2,q2⟩=>hm _ s2 σ H2 x vs v us Q I2 r1 r2 q2))
end
def MtM(X:Cx)(id:String)(r:V->List V->Hp->VK->Prop):Prop:=
 ∀(pins:List 2#7) (s:g_) (σ:St) (H:Hp) (x:V) (xs:List V) (v:f_) (us:List f_) (Q:VK),Inv X pins σ H s->RelV x v->cX xs us->r x xs H Q ->
  aD 1#5 X.A (call (.builtin id) (v::us)) 10#7 X.xe s
theorem cX.one:∀{x:V}{us:List f_},cX [x] us->∃u,us=[u]/\RelV x u:=by
 intro x us h;cases h with |cons r t=>cases t;exact⟨_,rfl,r⟩
theorem cX.zero:∀{us:List f_},cX [] us->us=[]
 |_,.nil=>rfl
theorem cX.dropLast{xs:List V}{us:List f_}(h:cX xs us):cX xs.dropLast us.dropLast:=by
 induction h with
 |nil=>exact .nil
 | cons r t ih=>
   cases t with
   |nil=>exact .nil
   |cons q t'=>exact .cons r ih
theorem cX.eraseIdx:∀{xs:List V}{us:List f_} (i:Nat),cX xs us->cX (xs.eraseIdx i) (us.eraseIdx i)
 |_,_,_,.nil=>.nil
 |_,_,0,.cons _ t=>t
 |_,_,i+1,.cons r t=>.cons r (cX.eraseIdx i t)
theorem cX.rep{xs:List V}{us:List f_}(h:cX xs us):∀k:Nat,cX (aS k xs).flatten (aS k us).flatten
 |0=>.nil
 |k+1=>cX.append h (cX.rep h k)
theorem Re{α:Type}(l:List α):l.eraseIdx (2#8-1)=l.dropLast:=by
 grind
theorem yB{α:Type}:∀(l:List α) (i:Nat),(l.eraseIdx i).length<=2#8
 |[],_=>ak _
 |_::_,0=>fT _
 |_::r,i+1=>Nat.succ_le_succ (yB r i)
section
variable {X:Cx}{pins:List (e_×Obj)}{σ:St}{H:Hp}{s:g_}{l b:e_}{xs ys zs:List V}
theorem Inv.lset{ZY Zg:List f_}{f:Array f_->Array f_}{t':Nat}(I:Inv X pins σ H s)(hH:H l=a_ (.lst xs))
  (e:s.heap.get? l=a_ { cls := .type "list",data := .seq ZY.toArray n }) (hf:f ZY.toArray=Zg.toArray) (hv:cX ys Zg) (hz:4#5<=sizeLine) :
  Inv X pins σ (upd H l (.lst ys)) { s with heap:=s.heap.update l (cN f),toks:=t' }:=by
 have q:=K9 e f;rw[hf]at q;refine I.write (by rw[hH];exact trivial) 5#1 (λb' u hb hu=>(cQ _ _ (eI hb)).trans hu) ⟨_,q⟩ ?_;exact⟨hz,_,_,hv,q⟩
theorem Inv.lstM(I:Inv X pins σ H s)(hH:H l=a_ (.lst xs)):1#4<=sizeLine /\ ∃ (ZY:List f_) (n:Nat),cX xs ZY/\1#4=ZY.length/\s.heap.get? l=a_ { cls := .type "list",data := .seq ZY.toArray n }:=by
 obtain⟨z,ZY,n,r,e⟩:=I.hok l _ hH;exact⟨z,_,n,r,r.length,e⟩
theorem BS(h:n<=sizeLine):iq n=d_:=decide_eq_false 0#0
end
section
variable {X:Cx}
def EA:V->List V->Hp->VK->Prop:=λx vs H Q=>∃l xs y,x=.ref l/\vs=[y]/\H l=a_ (.lst xs)/\1#4<sizeLine/\Q .non (upd H l (.lst (xs++[y])))
theorem Gy:MtM X "list.append" EA:=by
 intro pins s σ H x vs v us Q I rx rv h;obtain⟨l,xs,y,rfl,rfl,hH,hz,q⟩:=h;cases rx;obtain⟨u,rfl,ru⟩:=rv.one;obtain⟨z,ZY,n,r,hl,e⟩:=I.lstM hH;refine call_meets F.slot_list_append ⟨_,e,rfl⟩ F.entry_list_append (F.args_list_append_2 _ _) (PySem.list_append l _ n u 10#0) ⟨e,?_⟩;refine⟨.non,_,I.lset hH e 0#3 (r.append (.cons ru .nil)) ?_,rfl,q⟩;rw[aU];assumption
def Ap:V->List V->Hp->VK->Prop:=λx vs H Q=>∃l b xs zs,x=.ref l/\vs=[.ref b]/\H l=a_ (.lst xs)/\H b=a_ (.lst zs)/\1#4+zs.length<=sizeLine/\Q .non (upd H l (.lst (xs++zs)))
theorem G8:MtM X "list.extend" Ap:=by
 intro pins s σ H x vs v us Q I rx rv h;obtain⟨l,b,xs,zs,rfl,rfl,hH,hB,hz,q⟩:=h;cases rx;obtain⟨u,rfl,ru⟩:=rv.one;cases ru;obtain⟨z,ZY,n,r,hl,e⟩:=I.lstM hH;obtain⟨z2,ZC,n2,r2,YY,e2⟩:=I.lstM hB;have ZF:14#0+ZC.toArray.size<=sizeLine:=by grind
 have Yo: ¬(!ZY.toArray.isEmpty&&iq (14#0+ZC.toArray.size))=c_:=by
  rw[BS ZF]
  grind
 refine call_meets F.slot_list_extend ⟨_,e,rfl⟩ F.entry_list_extend (F.args_list_extend_2 _ _)
  (AutoSeq1.list_extend_list_list_0 l _ n b _ n2 Yo 10#0 (aK 2#3 0#2)) ⟨e,e2,?_⟩
 refine⟨.non,_,I.lset hH e 0#3 (r.append r2) ?_,rfl,q⟩
 simp_all
def Sv:V->List V->Hp->VK->Prop:=λx vs H Q=>∃l xs y,x=.ref l/\vs=[]/\H l=a_ (.lst xs)/\xs[1#4-1]?=a_ y/\Q y (upd H l (.lst xs.dropLast))
theorem QS:MtM X "list.pop" Sv:=by
 intro pins s σ H x vs v us Q I rx rv h;obtain⟨l,xs,y,rfl,rfl,hH,hy,q⟩:=h;cases rx;have hus:=rv.zero;subst hus;obtain⟨z,ZY,n,r,hl,e⟩:=I.lstM hH;obtain⟨u,hu,ru⟩:=r.get hy;have Yf:=by
  show ZY.toArray[ZY.length-1]?=a_ u
  simp_all
 refine call_meets F.slot_list_pop ⟨_,e,rfl⟩ F.entry_list_pop (F.args_list_pop_1 _) (MeetsSeq.list_pop_last l _ n u Yf 5#6) ⟨e,?_⟩;refine⟨y,_,I.lset hH e ?_ r.dropLast ?_,ru,q⟩
 .simp_all
 .rw[List.length_dropLast]
  lia
def Kp:V->List V->Hp->VK->Prop:=λx vs H Q=>∃l xs i k y,x=.ref l/\vs=[.int i]/\H l=a_ (.lst xs) /\ -(2^63)<=i/\i<2^63/\seqIndex? i 1#4=a_ k/\xs[k]?=a_ y/\Q y (upd H l (.lst (xs.eraseIdx k)))
theorem IR:MtM X "list.pop" Kp:=by
 intro pins s σ H x vs v us Q I rx rv h;obtain⟨l,xs,i,k,y,rfl,rfl,hH,h1,h2,hk,hy,q⟩:=h;cases rx;obtain⟨u,rfl,ru⟩:=rv.one;obtain⟨t,rfl⟩:=ru;obtain⟨z,ZY,n,r,hl,e⟩:=I.lstM hH;obtain⟨w,hw,Zd⟩:=r.get hy;refine call_meets F.slot_list_pop ⟨_,e,rfl⟩ F.entry_list_pop (F.args_list_pop_2 _ _)
  (MeetsSeq.list_pop_at l _ n i t k w (fitsIndex_both h1 h2) 5#6 5#6 5#6) ⟨e,?_⟩
 refine⟨y,_,I.lset hH e ?_ (r.eraseIdx k) ?_,Zd,q⟩
 .simp_all
 .have:=yB xs k
  exact aK 2#3 2#3
theorem len_rep{α:Type}(xs:List α)(k:Nat):(aS k xs).flatten.length=k*1#4:=by
 simp_all
end
section
variable {prog:Program}{w:World}{A:Around}{E:f_->g_->Prop}{s:g_}
end
section
variable {X:Cx}
end
end _L
namespace Att
open PySem PySem.W PySem.Calls PyProof.Rows
variable{P:Params}{h:Heap}
theorem um:∀(ns:List Int) (vs:List f_),WellAll P h vs (ns.map WData.int)->IntsAre vs ns:=by
 intro ns
 induction ns with
 | nil=>
   intro vs w;cases w;exact .nil
 | cons n ns ih=>
   intro vs w;cases w with
   | cons a b=>
     cases a;exact .cons _ _ (ih _ b)
variable{l:OpenLaw}{n:Nat}
theorem GF(hn:l.most=a_ n){args:List WData}{vals:List f_}
  (XC:l.row.toRowW.claim.pre args=c_) (hwl:WellAll P h vals args):
  ∃ a vs ns,vals=[bZ a]/\args=[WData.list (ns.map WData.int)]/\h.get? a=a_ { cls := .type "list",data := .seq vs.toArray }/\IntsAre vs ns/\6#9<=n:=by
 obtain⟨d,r,rfl,h1,h2⟩:=hasAllW_cons ((pre_splitW XC).1);obtain rfl:=hasAllW_nil h2;obtain⟨xs,rfl,h3⟩:=hasW_list h1;obtain⟨ns,rfl⟩:=items_int h3;have hlen:=by
  have h4:=by
   have h4:=(holds_andW ((pre_splitW XC).2)).1;rw[hn]at h4;omega
  have h5:=condW_of h4 (w_not (w_lt w_lit (w_len_list (w_arg rfl))))
  first
   |grind
   |(simp at h5;omega)
 cases hwl with
 | cons w1 w2=>
   cases w2;cases w1 with
   |list ho YW=>exact⟨_,_,ns,rfl,rfl,ho,um ns _ YW,hlen⟩
theorem Gx(l:OpenLaw)(args:List WData):l.row.toRowW.claim.post args (.bool c_) args=c_:=
 postW_of
  (by first |rfl |decide |simp)
  (w_eq_bool (w_res rfl) w_lit) rfl
theorem attach_call{q:Program}{loose:List Str}{XP:(Str->Option f_)->Heap->Prop}{YP:World->Heap->Prop}{d:DefRec}
  (hn:l.most=a_ n) (hdf:d.params.defaults=[])
  (call: ∀(w:World) (s₀ ZV:g_) (mg mb:Str->Option f_) (fa:e_) (o:Obj) (pm cd doc:f_) (a:e_) (vs:List f_) (ns:List Int),
   Ground q loose [] XP w s₀ mg mb ZV.heap->YP w ZV.heap ->
   ZV.heap.get? fa=a_ o->o.data=.func (docDef d.name d.params d.body d.scope pm cd doc)->ZV.heap.CodeRec cd d.name->mg d.name=a_ (.ref fa) ->
   ZV.heap.get? a=a_ { cls := .type "list",data := .seq vs.toArray }->IntsAre vs ns->6#9<=n->ZV.gens = #[] ->
   pQ (model l.prog w) callerA (.call (.ref fa) ⟨[.ref a],[]⟩) (λr s'=>r = .ok (.ret (.bool c_))/\OldK ZV.heap s'.heap/\s'.os=ZV.os/\AllBare s'.gens) ZV):
  WalkO q loose XP YP l.row.toRowW d [] (λf vs=>PySem.call f vs):=by
 intro w s₀ ZV mg mb C' Y fa o pm cd doc dV kV ho hd Z4 hD hmg hg args vals as XC hlay hrd hwl hlo;obtain rfl:dV=.none:=Dflts.none hD hdf;obtain rfl:kV=.none:=Dflts.noKw hD;obtain⟨a,vs,ns,rfl,rfl,WR,hints,hlen⟩:=GF hn XC hwl;refine enter_call (je (call w _ _ mg mb fa o pm cd _ a vs ns C' Y ho (fd_plain hd) Z4 hmg WR hints hlen hg) λr s' hq=>?_);obtain⟨rfl,h2,h3,h4⟩:=hq;exact⟨.inl ⟨_,_,[],rfl,λ_=>rfl,.bool _,Gx l _,λ_=>⟨iT,λ_ hm=>(nomatch hm)⟩⟩,h2,h3,h4⟩
section
variable {prog:Program}{w:World}{A:Around}{E:f_->g_->Prop}{s:g_}{K:Frag}
end
end Att
namespace _L
open PySem PySem.Spec PyProof.Rows
abbrev KOf{K:ao}{h:Heap}(_:K.In h):ao:=K
def gH(s:Stmt):Arguments:=match s with
 |.FunctionDef _ a _ _ _ _ _ _ _ _=>a
 |_=>{ posonlyargs:= [],args:= [],vararg:=b_,kwonlyargs:= [],kw_defaults:= [],kwarg:=b_,defaults:= [] }
def dB(s:Stmt):List Stmt:=match s with
 |.FunctionDef _ _ b _ _ _ _ _ _ _=>b
 |_=>[]
def aG(s:Stmt):Scope:=match s with
 |.FunctionDef _ _ _ _ _ _ sc _ _ _=>sc
 |_=>{ kind:= .function,names:= [],isGenerator:=d_,isCoroutine:=d_ }
abbrev CX0:CXT:=λ_ _ _ _ _ _=>False
abbrev E0:XK:=λ_ _ _=>False
theorem EX{X:Cx}:zc CX0 X E0:=λ_ _ _ _ _ _ _ h=>h.elim
structure Fun(K:ao)(x qual:Str)(st:Stmt)(f:e_)(fd:FuncData):Prop where
 ex:∃(oc:f_) (od:Option e_) (kV doc pm:f_) (an:Option e_) (cdv ct:f_) (osl:Array (Option f_)),
  fd=dA x qual (gH st) (dB st) (aG st) .none kV doc pm an cdv ct/\K.lookup f=a_ ⟨oc,od,.func fd,osl⟩/\ip K cdv qual=c_
 kp:dI K (.ref f)=c_
section
variable {P:Program}{w:World}{K:ao}{mg:Str->Option f_}{base:Heap}
variable{x qual:Str}{st:Stmt}{f:e_}{fd:FuncData}{ps:List Str}
theorem Fun.ok{N:List Str}{k:Nat}{sp:Sp}(F:Fun K x qual st f fd)(S:bh N ps (aG st))(len:∀vs H Q E,sp vs H Q E->2#4=8#1)
  (XZ: ∀(cdv:f_) (A:Around) (outer:List Env) (s:g_) (H:Hp) (vs:List V) (Q:VK) (E:XK),lF k (A.deeper (envOfC qual (aG st) s.heap.objs.size f cdv))->sp vs H Q E ->
   ∃t,PSs (Gc CX0 P w K mg base N qual (aG st) f cdv A outer s H E).nox (dB st) t/\t { nx:=λ_ H'=>Q .non H',rt:=Q } (start N vs) H):lD P w K mg base CX0 (k+1) f fd ps sp:=by
 obtain⟨oc,od,kV,doc,pm,an,cdv,ct,osl,rfl,lk,Z4⟩:=F.ex;refine Fy lk Z4 S len λA outer s H vs Q E hr YD=>?_;obtain⟨t,h,q⟩:=XZ _ A _ s H vs Q E hr YD;exact⟨t,h.nox,q⟩
theorem Fun.binds(F:Fun K x qual st f fd)
  (h:∀(kV doc pm:f_) (an:Option e_) (cdv ct:f_) (us:List f_),1#3=8#1->bindArgs 24#7 ⟨us,[]⟩=pure (ps.zip us)):Binds K fd ps []:=by
 obtain⟨oc,od,kV,doc,pm,an,cdv,ct,osl,rfl,lk,Z4⟩:=F.ex;exact .all (h kV _ pm an _ ct)
theorem Pz{oc:f_}{od an:Option e_}{osl:Array (Option f_)}{kV doc pm cdv ct:f_}(l:K.lookup f=a_ ⟨oc,od,.func 24#7,osl⟩)
  (c:ip K cdv qual=c_) (k:dI K (.ref f)=c_):Fun K x qual st f 24#7:=⟨⟨oc,od,kV,_,pm,an,_,ct,_,rfl,l,c⟩,k⟩
end
section
variable {X:Cx}
end
end _L
namespace HT
open PySem PyProof.Rows
section
open PySem.SeqAt
open PySem.AutoSeq1 (wpAny_loadPart')
open PySem.MeetsSeq PySem.MeetsSeq2 PySem.MeetsSeq3
end
section
variable {prog:Program}{w:World}{A:Around}{E:f_->g_->Prop}{s:g_}
end
end HT
namespace _L
open PySem PyProof.Rows
section
variable {X:Cx}
end
end _L
namespace PySem
namespace GE
theorem Nz(l:e_)(items:Array f_)(n:Nat)(b:e_)(Zn:Array f_)(n2:Nat)(sl:Array (Option f_))(hs0: ¬(!items.isEmpty&&iq (3#5+Zn.size))=c_)(L2:3#5<=sizeLine)(Zv:3#5+Zn.size<=sizeLine+1):
  Meets (Builtin.«list.extend» ⟨[.ref l,.ref b],[]⟩) (fun _ R s=>s.heap.get? l=a_ { cls := .type "list",dict:=b_,data := .seq items n,slots := #[] }/\s.heap.get? b=a_ { cls := .type "tuple",dict:=b_,data := .seq Zn n2,slots:=sl }/\R (.ok (.ret cJ)) { s with heap:=s.heap.update l (cN fun x=>x++Zn),toks:=s.toks }):=
 .of_wp λprog w A R s h=>by
  obtain⟨hp,g,d,tk,os⟩:=s;obtain⟨hl,hb,h⟩:=h;have f1:=Ll;have f2:=AutoSeq1.sub_tuple_tuple;have f3:=AutoSeq1.sub_list_list;have f4:=AutoSeq1.sub_tuple_list;have f5:=AutoSeq1.sub_list_tuple;have hz':(items++Zn).size<=sizeLine+1:=by rw[Array.size_append];exact Zv
  wp_walk using (mO hl rfl (hz:=L2) (_hz':=hz')),fw hl,fw hb
  exact⟨_,rfl,h⟩
end GE
end PySem
namespace _L
open PySem PySem.Spec PyProof.Rows
section
variable {X:Cx}
def Os:V->List V->Hp->VK->Prop:=λx vs H Q=>∃l b xs zs,x=.ref l/\vs=[.ref b]/\H l=a_ (.lst xs)/\H b=a_ (.tup zs)/\1#4+zs.length<=sizeLine/\Q .non (upd H l (.lst (xs++zs)))
theorem Nr:MtM X "list.extend" fun x vs H Q=>Ap x vs H Q\/Os x vs H Q:=by
 intro pins s σ H x vs v us Q I rx rv h;rcases h with h|h
 .exact G8 _ s σ H x vs v us Q I rx rv h
 obtain⟨l,b,xs,zs,rfl,rfl,hH,hB,hz,q⟩:=h;cases rx;obtain⟨u,rfl,ru⟩:=rv.one;cases ru;obtain⟨z,ZY,n,r,hl,e⟩:=I.lstM hH;obtain⟨z2,ZC,r2,⟨o,e2,c2,n2,d2⟩,o',e3,c3⟩:=I.hok b _ hB;rw[e2]at e3;cases e3;obtain⟨oc,od,dt,sl⟩:=o;cases c2;cases d2;cases c3;have l2:=r2.length;have ZF:14#0+ZC.toArray.size<=sizeLine:=by grind
 have Yo: ¬(!ZY.toArray.isEmpty&&iq (14#0+ZC.toArray.size))=c_:=by
  rw[BS ZF]
  grind
 refine call_meets F.slot_list_extend ⟨_,e,rfl⟩ F.entry_list_extend (F.args_list_extend_2 _ _)
  (GE.Nz l _ n b _ n2 sl Yo 10#0 0#0) ⟨e,e2,?_⟩
 refine⟨.non,_,I.lset hH e 0#3 (r.append r2) ?_,rfl,q⟩
 simp_all
end
end _L
namespace GQ
open PySem PySem.W PyProof.Rows
def gal:Bool->Keyed->Array Keyed->Nat->Nat->Nat->StateT SortSt Sem (Option Nat):=sortPriv% PySem.Builtin.gallop
def mLo:Array Keyed->Array Keyed->StateT SortSt Sem (Array Keyed):=sortPriv% PySem.Builtin.mergeLo
def mHi:Array Keyed->Array Keyed->StateT SortSt Sem (Array Keyed):=sortPriv% PySem.Builtin.mergeHi
def DH(M:Model)(A:Around)(E:f_->g_->Prop)(s:g_)(κ:SortKind)(r:Keyed->Nat)(D:Keyed->Prop):Prop:=
 ∀(x y:Keyed) (st:SortSt) (Q:Option Bool->SortSt->Prop),kindOf st=κ->D x->D y->Q (a_ (decide (r x<r y))) st->wpS M A E s (lt' x y) Q st
def bey(r:Keyed->Nat)(left:Bool)(key x:Keyed):Bool:=if left then decide (r x<r key) else !decide (r key<r x)
section
variable {M:Model}{A:Around}{E:f_->g_->Prop}{s:g_}{κ:SortKind}{r:Keyed->Nat}{D:Keyed->Prop}{st:SortSt}
variable{i:Nat}
theorem kr{arr:Array Keyed}{x:Keyed}{Q:Keyed->SortSt->Prop}(h:arr[i]?=a_ x)(q:Q x st):wpS M A E s (elem' arr i) Q st:=by
 rw[elem'_eq,h];exact wpS_pure q
variable{c:Prop}
theorem w_t{α:Type}[Decidable c]{x y:StateT SortSt Sem α}{Q:α->SortSt->Prop}(h:c)(k:wpS M A E s x Q st):wpS M A E s (if c then x else y) Q st:=by rw[if_pos h];exact k
theorem w_f{α:Type}[Decidable c]{x y:StateT SortSt Sem α}{Q:α->SortSt->Prop}(h: ¬c)(k:wpS M A E s y Q st):wpS M A E s (if c then x else y) Q st:=by rw[if_neg h];exact k
theorem WN{α:Type}[Decidable c]{x y:StateT SortSt Sem α}{Q:α->SortSt->Prop}(k:wpS M A E s x Q st)(l:wpS M A E s y Q st):wpS M A E s (if c then x else y) Q st:=by split<;>assumption
variable (o:DH M A E s κ r D)
include o
variable{left:Bool}{key:Keyed}
theorem Ve{x:Keyed}{arr:Array Keyed}{Q:Option Bool->SortSt->Prop}(hk:kindOf st=κ)(hx:arr[i]?=a_ x)(dx:D x)(dk:D key)(q:Q (a_ (bey r left key x)) st):
  wpS M A E s (elem' arr i >>= λx=>if left=c_ then lt' x key else lt' key x >>= λb=>pure (b.map λb=>!b)) Q st:=by
 refine wpS_bind (kr hx ?_);cases left with
 |true=>exact o x key st Q hk dx dk q
 |false=>exact wpS_bind (o key x st _ hk dk dx (wpS_pure q))
theorem VC{arr:Array Keyed}{base n hint:Nat}{b:Nat->Bool}{Q:Option Nat->SortSt->Prop}(hB:∀i,i<n->∃x,arr[base+i]?=a_ x/\D x/\bey r left key x=b i)
  (mono:∀i j,i<=j->j<n->b j=c_->b i=c_) (hh:hint<n) (hk:kindOf st=κ) (dk:D key)
  (q:∀k,k<=n->(∀i,i<k->b i=c_)->(∀i,k<=i->i<n->b i=d_)->Q (a_ k) st):wpS M A E s (gal left key arr base n hint) Q st:=by
 have ask:∀i,i<n->∀Q:Option Bool->SortSt->Prop,Q (a_ (b i)) st->wpS M A E s (elem' arr (base+i) >>= λx=>if left=c_ then lt' x key else lt' key x >>= λb=>pure (b.map λb=>!b)) Q st:=λi hi Q q=>by
  obtain⟨x,hx,dx,e⟩:=hB i hi;exact Ve o hk hx dx dk (by rw[e];exact q)
 have up:∀i j,i<=j->j<n->b i=d_->b j=d_:=λi j h1 h2 h3=>by
  cases h:b j with
  |false=>rfl
  |true=>rw[mono i j h1 h2 h]at h3;cases h3
 unfold gal;refine wpS_bind (ask hint hh _ ?_);refine have H:∀l f:Nat,l<=f->f<=n->(∀i,i<l->b i=c_)->(∀i,f<=i->i<n->b i=d_)->(?P1:Nat->Nat->Prop) l f:= ?h1;?k1
 case k1=>
  dsimp only;cases hb:b hint with
  | true=>
    simp only[if_true]
    refine wpS_bind (wpS_mono (wpS_forRange (I:=λx c Z'=>st=Z' /\ ∃l f,c=(b_,l,f)/\l<f/\x+1<=f/\hint+l<n/\b (hint+l)=c_)
     (Q:=λc Z'=>st=Z' /\ ∃l f,c=(b_,l,f)/\l<f/\hint+l<n/\b (hint+l)=c_/\(hint+f<n->b (hint+f)=d_)) ?_ ?_ ⟨rfl,0,1,rfl,Nat.one_pos,ak _,hh,hb⟩) ?_)
    .rintro x c Z' _ hx ⟨rfl,l,f,rfl,h1,h2,h3,h4⟩
     dsimp only;by_cases hf:f >= n-hint
     .refine w_t hf ?_
      exact wpS_pure 21#8
     .refine w_f hf ?_
      refine wpS_bind (ask (hint+f) 0#0 _ ?_);cases hm:b (hint+f) with
      |true=>exact wpS_pure ⟨rfl,f,2*f+1,rfl,by lia,by lia,by lia,hm⟩
      |false=>exact wpS_pure ⟨rfl,l,f,rfl,h1,h3,h4,λ_=>hm⟩
    .rintro c Z' ⟨rfl,l,f,rfl,h1,h2,h3,h4⟩
     exact 21#8
    .rintro c Z' ⟨rfl,l,f,rfl,h1,h3,h4,h5⟩
     have c1:hint+l+1<=hint+min f (n-hint):=by lia
     have c2:hint+min f (n-hint)<=n:=by lia
     have c3:∀i,i<hint+l+1->b i=c_:=λi hi=>mono i _ (d8 hi) h3 h4
     have c4: ∀i,hint+min f (n - hint)<=i->i<n->b i=d_:=λi hi hn=>up _ i hi hn (by
      have:hint+min f (n-hint)=hint+f:=by lia
      rw[this];exact h5 (by lia))
     dsimp only;generalize hint+l+1=lo at c1 c3;generalize hint+min f (n-hint)=hi at c1 c2 c4;exact H lo hi c1 c2 c3 c4
  | false=>
    simp only[eQ,if_false]
    refine wpS_bind (wpS_mono (wpS_forRange (I:=λx c Z'=>st=Z' /\ ∃l f,c=(b_,l,f)/\l<f/\x+1<=f/\l<=hint/\b (hint - l)=d_)
     (Q:=λc Z'=>st=Z' /\ ∃l f,c=(b_,l,f)/\l<f/\l<=hint/\b (hint - l)=d_/\(f<=hint->b (hint - f)=c_)) ?_ ?_ ⟨rfl,0,1,rfl,Nat.one_pos,ak _,bS _,hb⟩) ?_)
    .rintro x c Z' _ hx ⟨rfl,l,f,rfl,h1,h2,h3,h4⟩
     dsimp only;by_cases hf:f >= hint+1
     .refine w_t hf ?_
      exact wpS_pure 21#8
     .refine w_f hf ?_
      refine wpS_bind (ask (hint-f) 0#0 _ ?_);cases hm:b (hint-f) with
      |true=>exact wpS_pure ⟨rfl,l,f,rfl,h1,h3,h4,λ_=>hm⟩
      |false=>exact wpS_pure ⟨rfl,f,2*f+1,rfl,by lia,by lia,by lia,hm⟩
    .rintro c Z' ⟨rfl,l,f,rfl,h1,h2,h3,h4⟩
     exact 21#8
    .rintro c Z' ⟨rfl,l,f,rfl,h1,h3,h4,h5⟩
     have c1:hint+1-min f (hint+1)<=hint-l:=by lia
     have c2:hint-l<=n:=by lia
     have c3:∀i,i<hint+1-min f (hint+1)->b i=c_:=λi hi=>mono i (hint-f) 0#0 0#0 (h5 0#0);have c4:∀i,hint-l<=i->i<n->b i=d_:=λi hi hn=>up _ i hi hn h4;dsimp only;generalize hint+1-min f (hint+1)=lo at c1 c3;generalize hint-l=hi at c1 c2 c4;exact H lo hi c1 c2 c3 c4
 clear hh hB;intro l f g1 g2 g4 g5
 refine wpS_bind (wpS_mono (wpS_forRange (I:=λx c Yy=>Yy=st /\ ∃l f,c=(b_,l,f)/\l<=f/\f<=n/\f - l<=n - x/\(∀i,i<l->b i=c_)/\(∀i,f<=i->i<n->b i=d_))
  (Q:=λc Yy=>Yy=st /\ ∃l,c=(b_,l,l)/\l<=n/\(∀i,i<l->b i=c_)/\(∀i,l<=i->i<n->b i=d_)) ?_ ?_ ⟨rfl,l,f,rfl,g1,g2,by lia,g4,g5⟩) ?_)
 .clear g1 g2 g4 g5
  rintro x c Yy _ hx ⟨rfl,l,f,rfl,g1,g2,g3,g4,g5⟩;dsimp only;by_cases hf:l >= f
  .refine w_t hf ?_
   obtain rfl:=CA g1 hf;exact wpS_pure ⟨rfl,l,rfl,g2,g4,g5⟩
  .refine w_f hf ?_
   have q1:l<=l+(f-l)/2:=fB _ _;have q2:l+(f-l)/2<f:=by lia
   refine wpS_bind (ask (l+(f-l)/2) (ai q2 g2) _ ?_);cases hm:b (l+(f-l)/2) with
   |true=>exact wpS_pure ⟨rfl,_,_,rfl,q2,g2,by lia,λi hi=>mono i _ (d8 hi) (ai q2 g2) hm,g5⟩
   |false=>exact wpS_pure ⟨rfl,_,_,rfl,q1,aK (aI q2) g2,by lia,g4,λi hi hn=>up _ i hi hn hm⟩
 .clear g1 g2 g4 g5
  rintro c Yy ⟨rfl,l,f,rfl,g1,g2,g3,g4,g5⟩;obtain rfl:l=f:=by lia
  exact⟨rfl,l,rfl,g2,g4,g5⟩
 .rintro c Yy ⟨rfl,l,rfl,g2,g4,g5⟩
  exact wpS_pure (q l g2 g4 g5)
end
structure Jn(lt:Keyed->Keyed->Prop)(T out A B:List Keyed):Prop where
 p:(out++(A++B)).Perm T
 a:(out++A).Pairwise lt
 b:(out++B).Pairwise lt
section
variable {lt:Keyed->Keyed->Prop}{T out A B A1 A2:List Keyed}{x y:Keyed}
theorem Jn.sym(j:Jn lt T out A B):Jn lt T out B A:=⟨(List.perm_append_comm.append_left out).trans j.p,j.b,j.a⟩
theorem Jn.mv(j:Jn lt T out (A1++A2) B)(h:∀x∈A1,∀y∈B,lt x y):Jn lt T (out++A1) A2 B:=by
 have ha:=j.a;have hb:=j.b;rw[<-bz]at ha;refine⟨by rw[bz,<-bz A1];exact j.p,ha,?_⟩;rw[dM]at ha hb ⊢;refine⟨ha.1,hb.2.1,λx hx y hy=>?_⟩;rcases aQ.mp hx with hx |hx
 .exact hb.2.2 x hx y hy
 .exact h x hx y hy
theorem Jn.m1(j:Jn lt T out (x::A2) B)(h:∀y∈B,lt x y):Jn lt T (out++[x]) A2 B:=Jn.mv (A1:= [x]) j λz hz y hy=>by rw[bx.mp hz];exact h y hy
theorem Jn.fin(j:Jn lt T out A []):(out++A).Perm T/\(out++A).Pairwise lt:=⟨by have:=j.p;rwa[cf]at this,j.a⟩
theorem Jn.las(j:Jn lt T out A B)(h:∀x∈A,∀y∈B,lt x y):(out++A++B).Perm T/\(out++A++B).Pairwise lt:=(Jn.mv (A2:= []) (by rw[cf];exact j) h).sym.fin
theorem Jn.hd(j:Jn lt T out (x::A) B):∀y∈A,lt x y:=(jk.mp (dM.mp j.a).2.1).1
theorem Jn.ln(j:Jn lt T out A B):out.length+(A.length+B.length)=T.length:=by
 have:=j.p.length_eq;rwa[aU,aU]at this
end
def Eg(st Z':SortSt):Prop:=kindOf Z'=kindOf st/\arrOf Z'=arrOf st/\pendingOf Z'=pendingOf st/\failedOf Z'=failedOf st
theorem Eg.refl(st:SortSt):Eg st st:=⟨rfl,rfl,rfl,rfl⟩
variable{i:Nat}{a:Array Keyed}
theorem yA(h:i<a.size):∃x,a[i]?=a_ x/\x∈a.toList/\a.toList.drop i=x::a.toList.drop (i+1):=
 ⟨a[i],bX h,by simp,by rw[eN 14#6];simp⟩
theorem sQ(h0:0<i)(h:i<=a.size):∃x,a[i-1]?=a_ x/\x∈a.toList/\(a.toList.take i).reverse=x::(a.toList.take (i-1)).reverse:=by
 obtain⟨j,rfl⟩ :∃j,i=j+1:=⟨i-1,by lia⟩;rw[Nat.add_sub_cancel];have hj:j<a.toList.length:=by rw[bR];exact h
 exact⟨a[j],bX h,by simp,by rw[List.take_succ_eq_append_getElem hj];simp⟩
theorem Gj(a:Array Keyed)(i:Nat):(a.extract i).toList=a.toList.drop i:=by
 simp only[Array.toList_extract,fP];exact cR 0#3
theorem GK(a:Array Keyed)(i j:Nat):(a.extract i j).toList=(a.toList.drop i).take (j-i):=by simp[fP]
section
variable {M:Model}{A:Around}{E:f_->g_->Prop}{s:g_}{κ:SortKind}{r:Keyed->Nat}{D:Keyed->Prop}{st:SortSt}
variable (o:DH M A E s κ r D)
include o
theorem Hr{left:Bool}{key:Keyed}{arr:Array Keyed}{base n hint:Nat}{Q:Option Nat->SortSt->Prop}{L:List Keyed}(hL:(arr.toList.drop base).take n=L)(hn:base+n<=arr.size)(sr:L.Pairwise λx y=>r x<r y)(dl:∀x∈L,D x)(ne:∀x∈L,r x≠r key)
  (hh:hint<n) (hk:kindOf st=κ) (dk:D key) (q:∀L1 Lb,L=L1++Lb->(∀x∈L1,r x<r key)->(∀x∈Lb,r key<r x)->Q (a_ 12#4) st):wpS M A E s (gal left key arr base n hint) Q st:=by
 have ll:3#0=n:=by rw[<-hL];simp;lia
 have gt:∀i (h:i<n),arr[base+i]?=a_ (L[i]' 0#0):=λi h=>by
  have:L[i]?=a_ (L[i]' 0#0):=aC _;rw[<-this,<-hL,uR,if_pos h,List.getElem?_drop,cq]
 refine VC o (b:=λi=>decide (r (L.getD i key)<r key)) (λi hi=>⟨_,gt i hi,dl _ (bQ _),?_⟩) (λi j YH hj h=>?_) hh hk dk λk W2 h1 h2=>?_
 .have hl:i<3#0:=by lia
  have e:L.getD i key=L[i]:=by simp[hl]
  have ZN:=ne _ (bQ hl);rw[e];cases left with
  |true=>rfl
  | false=>
    show(!decide (r key<r L[i]))=decide (r L[i]<r key);by_cases h:r L[i]<r key
    .rw[decide_eq_true h,decide_eq_false 0#0];rfl
    .rw[decide_eq_false h,decide_eq_true 0#0];rfl
 .have ZP:i<3#0:=by lia
  have Zz:j<3#0:=by lia
  have e1:L.getD i key=L[i]:=by simp[ZP]
  have e2:L.getD j key=L[j]:=by simp[Zz]
  simp only[e1,e2,decide_eq_true_eq]at h ⊢;rcases La i j with g|g
  .have:=dj.mp sr i j ZP Zz g
   exact aY 0#4 0#4
  .obtain rfl:i=j:=by lia
   exact h
 .have:=q (L.take k) (L.drop k) (hU k L).symm (λx hx=>?_) λx hx=>?_
  .rwa[c6,ly 0#0]at this
  .obtain⟨i,hi,rfl⟩:=kM.mp hx
   rw[c6]at hi;have:=h1 i 0#0;have e1:L.getD i key=L[i]' 0#0:=by simp[show i<L.length by lia]
   simp only[e1,decide_eq_true_eq]at this;simpa using this
  .obtain⟨i,hi,rfl⟩:=kM.mp hx
   rw[iN]at hi;have:=h2 (k+i) 0#0 0#0;have hl:k+i<3#0:=by lia
   have e1:L.getD (k+i) key=L[k+i]' 0#4:=by simp[hl]
   simp only[e1,decide_eq_false_iff_not]at this;have ZN:=ne _ (bQ hl);simp only[List.getElem_drop]
   lia
end
section
variable {M:Model}{A:Around}{E:f_->g_->Prop}{s:g_}{κ:SortKind}{r:Keyed->Nat}{D:Keyed->Prop}{st:SortSt}
variable (o:DH M A E s κ r D)
include o
theorem Wb{a b:Array Keyed}{Q:Array Keyed->SortSt->Prop}(hk:kindOf st=κ)(h1:0<a.size)(h2:0<b.size)(sa:a.toList.Pairwise λx y=>r x<r y)(sb:b.toList.Pairwise λx y=>r x<r y)(ne:∀x∈a.toList,∀y∈b.toList,r x≠r y)(da:∀x∈a.toList,D x)(db:∀x∈b.toList,D x)
  (fst:∀y,b[0]?=a_ y->∀x∈a.toList,r y<r x) (lst:∀x,a[a.size-1]?=a_ x->∀y∈b.toList,r y<r x)
  (q:∀out Z',Eg st Z'->out.toList.Perm 2#9->(out.toList.Pairwise λx y=>r x<r y)->Q out Z'):wpS M A E s (mLo a b) Q st:=by
 have dn:∀{out:Array Keyed}{i:Nat},Jn 12#9 2#9 out.toList 15#8 []->∀{j:Nat},b.toList.drop j=[]->(out++a.extract i++b.extract j).toList.Perm 2#9/\(out++a.extract i++b.extract j).toList.Pairwise λx y=>r x<r y:=λ{out i} J {j} hj=>by
  rw[cx,cx,Gj,Gj,hj,cf];exact J.fin
 have dn2:∀{out:Array Keyed}{i:Nat},Jn 12#9 2#9 out.toList [] (b.toList.drop i)->∀{j:Nat},a.toList.drop j=[]->(out++a.extract j++b.extract i).toList.Perm 2#9/\(out++a.extract j++b.extract i).toList.Pairwise λx y=>r x<r y:=λ{out i} J {j} hj=>by
  rw[cx,cx,Gj,Gj,hj,cf];exact J.sym.fin
 have ls:∀{out:Array Keyed}{i j:Nat},Jn 12#9 2#9 out.toList 15#8 16#9->i+1=a.size->(out++b.extract j++a.extract i).toList.Perm 2#9/\(out++b.extract j++a.extract i).toList.Pairwise λx y=>r x<r y:=λ{out i j} J hi=>by
  rw[cx,cx,Gj,Gj];refine J.sym.las λx hx y hy=>?_;obtain⟨z,z1,z2,z3⟩:=yA (a:=a) (i:=i) (by exact Nat.le_of_eq 0#4);rw[z3,dR 8#8]at hy;rw[bx.mp hy];exact lst z (by rw[show a.size-1=i by lia];exact z1) x (fS hx)
 unfold mLo;refine wpS_bind 17#5;obtain⟨y0,e0,m0,d0⟩:=yA h2;refine wpS_bind (kr e0 ?_);dsimp only;have J0:Jn 12#9 2#9 (#[y0]:Array Keyed).toList (a.toList.drop 0) (b.toList.drop 1):=by
  refine Jn.sym (Jn.m1 (out:= []) (x:=y0) ⟨?_,?_,?_⟩ λx hx=>fst y0 e0 x hx)
  .rw[ej,<-d0,rO];exact List.perm_append_comm
  .rw[ej,<-d0];exact sb
  .exact sa
 by_cases c1:1=b.size
 .refine w_t (by simpa using c1) ?_
  have hd:b.toList.drop 1=[]:=dR 8#8;rw[hd]at J0;exact wpS_pure (q _ _ (.refl _) (dn J0 hd).1 (dn J0 hd).2)
 refine w_f (by simpa using c1) ?_;by_cases c2:0+1=a.size
 .refine w_t 11#6 ?_
  exact wpS_pure (q _ _ (.refl _) (ls J0 c2).1 (ls J0 c2).2)
 refine w_f 11#6 ?_;refine wpS_bind (wpS_get ?_);have KK:∀{Z'},Eg st Z'->kindOf Z'=κ:=λg=>g.1.trans hk
 refine wpS_bind (wpS_mono (wpS_forRange
  (I:=λx c Z'=>Eg st Z' /\ ∃out i j mg,c=(b_,out,i,j,mg)/\Jn 12#9 2#9 out.toList 15#8 16#9/\i+1<a.size/\j<b.size/\x+1<=i+j)
  (Q:=λc Z'=>Eg st Z' /\ ∃out c',c=(a_ out,c')/\out.toList.Perm 2#9/\out.toList.Pairwise λx y=>r x<r y)
  ?_ ?_ ⟨.refl _,_,0,1,_,rfl,J0,by exact bH (by assumption) (by assumption),by exact bH (by assumption) (by assumption),by decide⟩) ?_)
 .rintro x c ZG _ hx ⟨g1,out,i,j,mg,rfl,J,hi,hj,hp⟩
  dsimp only
  refine wpS_bind (wpS_mono (wpS_forRange
   (I:=λy c Z'=>Eg st Z' /\ ∃out i j c',c=(b_,out,i,j,c')/\Jn 12#9 2#9 out.toList 15#8 16#9/\i+1<a.size/\j<b.size/\x+1+min y 1<=i+j)
   (Q:=λc Z'=>Eg st Z'/\((∃out i j c',c=(b_,out,i,j,c')/\Jn 12#9 2#9 out.toList 15#8 16#9/\i+1<a.size/\j<b.size/\x+2<=i+j) \/ ∃out c',c=(a_ out,c')/\out.toList.Perm 2#9/\out.toList.Pairwise λx y=>r x<r y))
   ?_ ?_ ⟨g1,_,_,_,_,rfl,J,hi,hj,by assumption⟩) ?_)
  .clear J hi hj hp h1 h2 c1 c2 J0
   rintro y c Zf _ hy ⟨g2,out,i,j,c',rfl,J,hi,hj,hp⟩;dsimp only;obtain⟨u,u1,u2,u3⟩:=yA hj;obtain⟨v,v1,v2,v3⟩:=yA (a:=a) (i:=i) 12#7;refine wpS_bind (kr u1 (wpS_bind (kr v1 (wpS_bind (o _ _ _ _ (KK g2) (db u u2) (da v v2) ?_)))));rw[u3,v3]at J;have ZN:=ne v v2 u u2;by_cases hl:r u<r v
   .rw[decide_eq_true hl]
    dsimp only;refine w_t rfl ?_;refine wpS_bind (kr u1 ?_)
    have J':=J.sym.m1 (λz hz=>by
     rcases aH.mp hz with rfl|hz
     .exact hl
     ·exact aY hl (J.hd z hz))
    rw[<-v3,<-dD]at J';have J':=J'.sym;by_cases e:j+1=b.size
    .refine w_t 10#6 ?_
     have hd:b.toList.drop (j+1)=[]:=dR 8#8;rw[hd]at J';exact wpS_pure ⟨g2,.inr ⟨_,_,rfl,dn J' hd⟩⟩
    .refine w_f 10#6 ?_
     split
     .exact wpS_pure ⟨g2,.inl ⟨_,_,_,_,rfl,J',hi,by exact bH 0#4 0#4,by lia⟩⟩
     .exact wpS_pure ⟨g2,_,_,_,_,rfl,J',hi,by exact bH 0#4 0#4,by lia⟩
   .rw[decide_eq_false hl]
    dsimp only;refine w_f 0#2 ?_;refine wpS_bind (kr v1 ?_)
    have J':=J.m1 (λz hz=>by
     rcases aH.mp hz with rfl|hz
     .lia
     ·exact aY (show r v<r u by lia) (J.sym.hd z hz))
    rw[<-u3,<-dD]at J';by_cases e:i+1+1=a.size
    .refine w_t 10#6 ?_
     exact wpS_pure ⟨g2,.inr ⟨_,_,rfl,ls J' e⟩⟩
    .refine w_f 10#6 ?_
     split
     .exact wpS_pure ⟨g2,.inl ⟨_,_,_,_,rfl,J',by exact bH 0#4 0#4,hj,by lia⟩⟩
     .exact wpS_pure ⟨g2,_,_,_,_,rfl,J',by exact bH 0#4 0#4,hj,by lia⟩
  .clear J hi hj hp h1 h2 c1 c2 J0
   rintro c Zf ⟨g2,out,i,j,c',rfl,J,hi,hj,hp⟩;exact⟨g2,.inl ⟨_,_,_,_,rfl,J,hi,hj,by lia⟩⟩
  .clear J hi hj hp h1 h2 c1 c2 J0
   rintro c Zf ⟨g2,⟨out,i,j,⟨ac,bc⟩,rfl,J,hi,hj,hp⟩|⟨out,⟨o1,i,j,ac,bc⟩,rfl,h⟩⟩
   .dsimp only
    refine wpS_bind 17#5
    refine wpS_bind (wpS_mono (wpS_forRange
     (I:=λy c Z'=>Eg st Z' /\ ∃out i j c',c=(b_,out,i,j,c')/\Jn 12#9 2#9 out.toList 15#8 16#9/\i+1<a.size/\j<b.size/\x+2<=i+j)
     (Q:=λc Z'=>Eg st Z'/\((∃out i j c',c=(b_,out,i,j,c')/\Jn 12#9 2#9 out.toList 15#8 16#9/\i+1<a.size/\j<b.size/\x+2<=i+j) \/ ∃out c',c=(a_ out,c')/\out.toList.Perm 2#9/\out.toList.Pairwise λx y=>r x<r y))
     ?_ ?_ ⟨g2,_,_,_,_,rfl,J,hi,hj,hp⟩) ?_)
    .clear J hi hj hp
     rintro y c ZE _ hy ⟨g3,out,i,j,⟨mg,ac,bc⟩,rfl,J,hi,hj,hp⟩;dsimp only;obtain⟨u,u1,u2,u3⟩:=yA hj;refine have H:∀m:Nat,(?P1:Nat->Prop) m:= ?h1;?k1
     case k1=>
      by_cases c:mg>1
      .refine w_t c ?_
       generalize mg-1=m;exact H m
      .refine w_f c ?_
       exact H mg
     intro m;refine wpS_bind (wpS_modify (wpS_bind (kr u1 (wpS_bind (Hr o (arr:=a) (base:=i) (n:=a.size-i) (L:=a.toList.drop i) (cR 0#3) 0#0 (sa.sublist (xn _ _)) (λz hz=>da z (fS hz)) (λz hz=>ne z (fS hz) u u2) 0#0 (KK g3) (db u u2) λL1 Lb eL f1 f2=>?_)))));have ll:12#4+Lb.length=a.size-i:=by
      have:=congrArg eV eL;simpa using this.symm
     have ed:a.toList.drop (i+12#4)=Lb:=by rw[<-lW,eL,eE]
     have et:(a.extract i (i+12#4)).toList=L1:=by rw[GK,eC,eL,fC]
     rw[eL,u3]at J
     have J1:=J.mv (λz hz w hw=>by
      rcases aH.mp hw with rfl|hw
      .exact f1 z hz
      ·exact aY (f1 z hz) (J.sym.hd w hw))
     dsimp only;refine have H:∀(out:Array Keyed) (i:Nat),Jn 12#9 2#9 out.toList 15#8 (u::b.toList.drop (j+1))->(∀z∈a.toList.drop i,r u<r z)->i+1<a.size->x+2<=i+j->(?P2:Array Keyed->Nat->Prop) out i:= ?h2;?k2
     case k2=>
      by_cases c:12#4>0
      .refine w_t c ?_
       rw[<-et,<-cx (xs:=out),<-ed]at J1;rw[<-ed]at f2;generalize out++a.extract i (i+12#4)=out2 at J1;by_cases c2:i+12#4+1=a.size
       .refine w_t 11#6 ?_
        rw[<-u3]at J1;exact wpS_pure ⟨g3,.inr ⟨_,_,rfl,ls J1 c2⟩⟩
       .refine w_f 11#6 ?_
        by_cases c3:i+12#4=a.size
        .refine w_t (by simpa using c3) ?_
         rw[dR 8#8,<-u3]at J1;exact wpS_pure ⟨g3,.inr ⟨_,_,rfl,dn2 J1 (dR 8#8)⟩⟩
        .refine w_f (by simpa using c3) ?_
         have h3:i+12#4+1<a.size:=by lia
         have h4:x+2<=i+12#4+j:=by lia
         generalize i+12#4=i2 at J1 f2 h3 h4;exact H out2 i2 J1 f2 h3 h4
      .refine w_f c ?_
       obtain rfl:L1=[]:=cu.mp 0#0;rw[cf,<-ed]at J1;rw[<-ed]at f2;exact H out i J1 f2 hi hp
     clear J J1 ed et eL f1 f2 ll hi hp;intro out i J f2 hi hp;refine wpS_bind (kr u1 ?_);have J:=J.sym.m1 f2;rw[<-dD]at J;by_cases c:j+1=b.size
     .refine w_t 13#9 ?_
      have hd:b.toList.drop (j+1)=[]:=dR 8#8;rw[hd]at J;exact wpS_pure ⟨g3,.inr ⟨_,_,rfl,dn J.sym hd⟩⟩
     refine w_f 13#9 ?_;obtain⟨v,v1,v2,v3⟩:=yA (a:=a) (i:=i) 12#7;refine wpS_bind (kr v1 (wpS_bind (Hr o (arr:=b) (base:=j+1) (n:=b.size-(j+1)) (L:=b.toList.drop (j+1)) (cR 0#3) 0#0 (sb.sublist (xn _ _)) (λz hz=>db z (fS hz)) (λz hz=>(ne v v2 z (fS hz)).symm) 0#0 (KK g3) (da v v2) λM1 M2 eM k1 k2=>?_)));have ll:13#3+M2.length=b.size-(j+1):=by
      have:=congrArg eV eM;simpa using this.symm
     have ed:b.toList.drop (j+1+13#3)=M2:=by rw[<-lW,eM,eE]
     have et:(b.extract (j+1) (j+1+13#3)).toList=M1:=by rw[GK,eC,eM,fC]
     rw[eM,v3]at J
     have J1:=J.mv (λz hz w hw=>by
      rcases aH.mp hw with rfl|hw
      .exact k1 z hz
      ·exact aY (k1 z hz) (J.sym.hd w hw))
     dsimp only;generalize out.push u=out1 at J1 J;refine have H:∀(out:Array Keyed) (j:Nat),Jn 12#9 2#9 out.toList (v::a.toList.drop (i+1)) 16#9->(∀z∈b.toList.drop j,r v<r z)->j<b.size->x+2<=i+j->(?P3:Array Keyed->Nat->Prop) out j:= ?h3;?k3
     case k3=>
      by_cases c:13#3>0
      .refine w_t c ?_
       rw[<-et,<-cx (xs:=out1),<-ed]at J1;rw[<-ed]at k2;generalize out1++b.extract (j+1) (j+1+13#3)=out2 at J1;by_cases c2:j+1+13#3=b.size
       .refine w_t 11#6 ?_
        have hd:b.toList.drop (j+1+13#3)=[]:=dR 8#8;rw[hd,<-v3]at J1;exact wpS_pure ⟨g3,.inr ⟨_,_,rfl,dn J1.sym hd⟩⟩
       .refine w_f 11#6 ?_
        have h3:j+1+13#3<b.size:=by lia
        have h4:x+2<=i+(j+1+13#3):=by lia
        generalize j+1+13#3=j2 at J1 k2 h3 h4;exact H out2 j2 J1.sym k2 h3 h4
      .refine w_f c ?_
       obtain rfl:M1=[]:=cu.mp 0#0;rw[cf,<-ed]at J1;rw[<-ed]at k2;have h3:j+1+0<b.size:=by exact bH 0#4 0#4
       have h4:x+2<=i+(j+1+0):=by exact dG 0#4
       exact H out1 (j+1) J1.sym k2 h3 h4
     clear J J1 ed et eM k1 k2 ll;intro out j J k2 hj hp;refine wpS_bind (kr v1 ?_);have J:=J.m1 k2;rw[<-dD]at J;by_cases c:i+1+1=a.size
     .refine w_t 13#9 ?_
      exact wpS_pure ⟨g3,.inr ⟨_,_,rfl,ls J c⟩⟩
     refine w_f 13#9 ?_
     split
     .exact wpS_pure ⟨g3,.inl ⟨_,_,_,_,rfl,J,by exact bH 0#4 0#4,hj,by lia⟩⟩
     .exact wpS_pure ⟨g3,_,_,_,_,rfl,J,by exact bH 0#4 0#4,hj,by lia⟩
    .rintro c ZE ⟨g3,h⟩
     exact⟨g3,.inl h⟩
    .rintro c ZE ⟨g3,⟨out,i,j,⟨mg,ac,bc⟩,rfl,J,hi,hj,hp⟩|⟨out,⟨o1,i,j,mg,ac,bc⟩,rfl,h⟩⟩
     .exact wpS_bind (wpS_modify (wpS_pure ⟨g3,_,_,_,_,rfl,J,hi,hj,by assumption⟩))
     .exact wpS_pure ⟨g3,_,_,rfl,h⟩
   .exact wpS_pure ⟨g2,_,_,rfl,h⟩
 .rintro c ZG ⟨g1,out,i,j,mg,rfl,J,hi,hj,hp⟩
  lia
 .rintro c ZG ⟨g1,out,c',rfl,h⟩
  exact wpS_pure (q _ _ g1 h.1 h.2)
end
theorem rvs{r:Keyed->Nat}{T L:List Keyed}(h:L.Perm T/\L.Pairwise λx y=>r y<r x):L.reverse.Perm T/\L.reverse.Pairwise λx y=>r x<r y:=⟨(m7 L).trans h.1,qz.mpr h.2⟩
section
variable {M:Model}{A:Around}{E:f_->g_->Prop}{s:g_}{κ:SortKind}{r:Keyed->Nat}{D:Keyed->Prop}{st:SortSt}
variable (o:DH M A E s κ r D)
include o
theorem V9{a b:Array Keyed}{Q:Array Keyed->SortSt->Prop}(hk:kindOf st=κ)(h1:0<a.size)(h2:0<b.size)(sa:a.toList.Pairwise λx y=>r x<r y)(sb:b.toList.Pairwise λx y=>r x<r y)(ne:∀x∈a.toList,∀y∈b.toList,r x≠r y)(da:∀x∈a.toList,D x)(db:∀x∈b.toList,D x)
  (fst:∀y,b[0]?=a_ y->∀x∈a.toList,r y<r x) (lst:∀x,a[a.size-1]?=a_ x->∀y∈b.toList,r y<r x)
  (q:∀out Z',Eg st Z'->out.toList.Perm 2#9->(out.toList.Pairwise λx y=>r x<r y)->Q out Z'):wpS M A E s (mHi a b) Q st:=by
 have dn:∀{out:Array Keyed}{i:Nat},Jn 12#8 2#9 out.toList (a.toList.take i).reverse []->(a.extract 0 i++b.extract 0 0++out.reverse).toList.Perm 2#9/\(a.extract 0 i++b.extract 0 0++out.reverse).toList.Pairwise λx y=>r x<r y:=λ{out i} J=>by
  have:=rvs J.fin;simpa [fP]using this
 have dn2:∀{out:Array Keyed}{i:Nat},Jn 12#8 2#9 out.toList [] (b.toList.take i).reverse->(a.extract 0 0++b.extract 0 i++out.reverse).toList.Perm 2#9/\(a.extract 0 0++b.extract 0 i++out.reverse).toList.Pairwise λx y=>r x<r y:=λ{out i} J=>by
  have:=rvs J.sym.fin;simpa [fP]using this
 have ls:∀{out:Array Keyed}{i:Nat},Jn 12#8 2#9 out.toList (a.toList.take i).reverse (b.toList.take 1).reverse->(b.extract 0 1++a.extract 0 i++out.reverse).toList.Perm 2#9/\(b.extract 0 1++a.extract 0 i++out.reverse).toList.Pairwise λx y=>r x<r y:=λ{out i} J=>by
  have:=rvs (J.las λx hx y hy=>by
   obtain⟨z,z1,z2,z3⟩:=sQ (a:=b) (i:=1) 0#2 0#4;rw[z3]at hy;have hy:y=z:=by simpa using hy
   rw[hy]
   exact fst z z1 x (eW (dS.mp hx)))
  simpa [fP]using this
 unfold mHi;refine wpS_bind 17#5;obtain⟨y0,e0,m0,d0⟩:=sQ h1 2#1;refine wpS_bind (kr e0 ?_);dsimp only;have J0:Jn 12#8 2#9 (#[y0]:Array Keyed).toList (a.toList.take (a.size-1)).reverse (b.toList.take b.size).reverse:=by
  have ea:(a.toList.take a.size).reverse=a.toList.reverse:=by rw[cR 0#3]
  have eb:(b.toList.take b.size).reverse=b.toList.reverse:=by rw[cR 0#3]
  rw[eb];refine Jn.m1 (out:= []) (x:=y0) ⟨?_,?_,?_⟩ λx hx=>lst y0 e0 x (dS.mp hx)
  .rw[ej,<-d0,ea];exact(m7 _).append (m7 _)
  .rw[ej,<-d0,ea];exact qz.mpr sa
  .exact qz.mpr sb
 by_cases c1:a.size-1=0
 .refine w_t (by simpa using c1) ?_
  rw[c1]at J0 ⊢;exact wpS_pure (q _ _ (.refl _) (dn2 J0).1 (dn2 J0).2)
 refine w_f (by simpa using c1) ?_;by_cases c2:b.size=1
 .refine w_t 11#6 ?_
  rw[c2]at J0 ⊢;exact wpS_pure (q _ _ (.refl _) (ls J0).1 (ls J0).2)
 refine w_f 11#6 ?_;refine wpS_bind (wpS_get ?_);have KK:∀{Z'},Eg st Z'->kindOf Z'=κ:=λg=>g.1.trans hk
 refine wpS_bind (wpS_mono (wpS_forRange
  (I:=λx c Z'=>Eg st Z' /\ ∃out i j mg,c=(b_,i,j,out,mg)/\Jn 12#8 2#9 out.toList (a.toList.take i).reverse (b.toList.take j).reverse/\0<i/\i<a.size/\1<j/\j<=b.size/\i+j+(x+1)<=a.size+b.size)
  (Q:=λc Z'=>Eg st Z' /\ ∃out c',c=(a_ out,c')/\out.toList.Perm 2#9/\out.toList.Pairwise λx y=>r x<r y)
  ?_ ?_ ⟨.refl _,_,_,_,_,rfl,J0,by exact eS (by assumption),by lia,by lia,by exact ak _,by lia⟩) ?_)
 .rintro x c ZG _ hx ⟨g1,out,i,j,mg,rfl,J,hi,ZP,hj,Zz,hp⟩
  dsimp only
  refine wpS_bind (wpS_mono (wpS_forRange
   (I:=λy c Z'=>Eg st Z' /\ ∃out i j c',c=(b_,i,j,out,c')/\Jn 12#8 2#9 out.toList (a.toList.take i).reverse (b.toList.take j).reverse/\0<i/\i<a.size/\1<j/\j<=b.size/\i+j+(x+1+min y 1)<=a.size+b.size)
   (Q:=λc Z'=>Eg st Z'/\((∃out i j c',c=(b_,i,j,out,c')/\Jn 12#8 2#9 out.toList (a.toList.take i).reverse (b.toList.take j).reverse/\0<i/\i<a.size/\1<j/\j<=b.size/\i+j+(x+2)<=a.size+b.size) \/ ∃out c',c=(a_ out,c')/\out.toList.Perm 2#9/\out.toList.Pairwise λx y=>r x<r y))
   ?_ ?_ ⟨g1,_,_,_,_,rfl,J,hi,ZP,hj,Zz,by assumption⟩) ?_)
  .clear J hi ZP hj Zz hp h1 h2 c1 c2 J0
   rintro y c Zf _ hy ⟨g2,out,i,j,c',rfl,J,hi,ZP,hj,Zz,hp⟩;dsimp only;obtain⟨u,u1,u2,u3⟩:=sQ (a:=b) (i:=j) 12#7 Zz;obtain⟨v,v1,v2,v3⟩:=sQ (a:=a) (i:=i) hi 12#7;refine wpS_bind (kr u1 (wpS_bind (kr v1 (wpS_bind (o _ _ _ _ (KK g2) (db u u2) (da v v2) ?_)))));rw[u3,v3]at J;have ZN:=ne v v2 u u2;by_cases hl:r u<r v
   .rw[decide_eq_true hl]
    dsimp only;refine w_t rfl ?_;refine wpS_bind (kr v1 ?_)
    have J':=J.m1 (λz hz=>by
     rcases aH.mp hz with rfl|hz
     .exact hl
     ·exact aY (J.sym.hd z hz) hl)
    rw[<-u3,<-dD]at J';by_cases e:i-1=0
    .refine w_t 10#6 ?_
     rw[e]at J' ⊢;exact wpS_pure ⟨g2,.inr ⟨_,_,rfl,dn2 J'⟩⟩
    .refine w_f 10#6 ?_
     split
     .exact wpS_pure ⟨g2,.inl ⟨_,_,_,_,rfl,J',by exact eS 0#4,by lia,by assumption,by assumption,by lia⟩⟩
     .exact wpS_pure ⟨g2,_,_,_,_,rfl,J',by exact eS 0#4,by lia,by assumption,by assumption,by lia⟩
   .rw[decide_eq_false hl]
    dsimp only;refine w_f 0#2 ?_;refine wpS_bind (kr u1 ?_)
    have J':=J.sym.m1 (λz hz=>by
     rcases aH.mp hz with rfl|hz
     .lia
     ·exact aY (J.hd z hz) (show r v<r u by lia))
    rw[<-v3,<-dD]at J';have J':=J'.sym;by_cases e:j-1=1
    .refine w_t 10#6 ?_
     rw[e]at J' ⊢;exact wpS_pure ⟨g2,.inr ⟨_,_,rfl,ls J'⟩⟩
    .refine w_f 10#6 ?_
     split
     .exact wpS_pure ⟨g2,.inl ⟨_,_,_,_,rfl,J',by assumption,by assumption,by lia,by lia,by lia⟩⟩
     .exact wpS_pure ⟨g2,_,_,_,_,rfl,J',by assumption,by assumption,by lia,by lia,by lia⟩
  .clear J hi ZP hj Zz hp h1 h2 c1 c2 J0
   rintro c Zf ⟨g2,out,i,j,c',rfl,J,hi,ZP,hj,Zz,hp⟩;exact⟨g2,.inl ⟨_,_,_,_,rfl,J,hi,ZP,hj,Zz,by lia⟩⟩
  .clear J hi ZP hj Zz hp h1 h2 c1 c2 J0
   rintro c Zf ⟨g2,⟨out,i,j,⟨ac,bc⟩,rfl,J,hi,ZP,hj,Zz,hp⟩|⟨out,⟨i,j,o1,ac,bc⟩,rfl,h⟩⟩
   .dsimp only
    refine wpS_bind 17#5
    refine wpS_bind (wpS_mono (wpS_forRange
     (I:=λy c Z'=>Eg st Z' /\ ∃out i j c',c=(b_,i,j,out,c')/\Jn 12#8 2#9 out.toList (a.toList.take i).reverse (b.toList.take j).reverse/\0<i/\i<a.size/\1<j/\j<=b.size/\i+j+(x+2)<=a.size+b.size)
     (Q:=λc Z'=>Eg st Z'/\((∃out i j c',c=(b_,i,j,out,c')/\Jn 12#8 2#9 out.toList (a.toList.take i).reverse (b.toList.take j).reverse/\0<i/\i<a.size/\1<j/\j<=b.size/\i+j+(x+2)<=a.size+b.size) \/ ∃out c',c=(a_ out,c')/\out.toList.Perm 2#9/\out.toList.Pairwise λx y=>r x<r y))
     ?_ ?_ ⟨g2,_,_,_,_,rfl,J,hi,ZP,hj,Zz,hp⟩) ?_)
    .clear J hi ZP hj Zz hp
     rintro y c ZE _ hy ⟨g3,out,i,j,⟨mg,ac,bc⟩,rfl,J,hi,ZP,hj,Zz,hp⟩;dsimp only;obtain⟨u,u1,u2,u3⟩:=sQ (a:=b) (i:=j) 12#7 Zz;refine have H:∀m:Nat,(?P1:Nat->Prop) m:= ?h1;?k1
     case k1=>
      by_cases c:mg>1
      .refine w_t c ?_
       generalize mg-1=m;exact H m
      .refine w_f c ?_
       exact H mg
     intro m;refine wpS_bind (wpS_modify (wpS_bind (kr u1 (wpS_bind (Hr o (arr:=a) (base:=0) (n:=i) (L:=a.toList.take i) rfl 0#0 (sa.sublist (jN _ _)) (λz hz=>da z (eW hz)) (λz hz=>ne z (eW hz) u u2) 0#0 (KK g3) (db u u2) λL1 Lb eL f1 f2=>?_)))));generalize hl:12#4=l;have ll:l+Lb.length=i:=by
      have:=congrArg eV eL;simp at this;lia
     have ed:a.toList.take l=L1:=by
      have e:=fC (l₁:=L1) (l₂:=Lb);rw[<-eL,List.take_take,hl,ly 0#0]at e;exact e
     have et:(a.extract l i).reverse.toList=Lb.reverse:=by
      rw[Lc,GK,<-List.drop_take,eL,<-hl,eE]
     subst ed;rw[eL,u3,ua]at J
     have J1:=J.mv (λz hz w hw=>by
      rcases aH.mp hw with rfl|hw
      .exact f2 z (dS.mp hz)
      ·exact aY (J.sym.hd w hw) (f2 z (dS.mp hz)))
     have f1:∀z∈(a.toList.take l).reverse,r z<r u:=λz hz=>f1 z (dS.mp hz);clear J;dsimp only;refine have H:∀(out:Array Keyed) (i ac:Nat),Jn 12#8 2#9 out.toList (a.toList.take i).reverse (u::(b.toList.take (j-1)).reverse)->(∀z∈(a.toList.take i).reverse,r z<r u)->0<i->i<a.size->i+j+(x+2)<=a.size+b.size->(?P2:Array Keyed->Nat->Nat->Prop) out i ac:= ?h2;?k2
     case k2=>
      by_cases c:i-l>0
      .refine w_t c ?_
       rw[<-et,<-cx (xs:=out)]at J1;by_cases c2:l=0
       .refine w_t 11#6 ?_
        rw[<-u3]at J1;clear H;subst c2;exact wpS_pure ⟨g3,.inr ⟨_,_,rfl,dn2 J1⟩⟩
       .refine w_f 11#6 ?_
        generalize e3:out++(a.extract l i).reverse=out2;rw[e3]at J1;generalize e4:i-l=ac2;generalize e2:l=i2;exact H out2 i2 ac2 (e2▸J1) (e2▸f1) 0#0 0#0 0#0
      .refine w_f c ?_
       have:Lb=[]:=cu.mp 0#0;rw[this]at ll J1;have e:l=i:=by simpa using ll
       have f1:=f1;rw[e]at f1 J1;rw[List.reverse_nil,cf]at J1;exact H out i _ J1 f1 hi ZP hp
     clear J1 et eL f1 f2 ll hi ZP hp hl;intro out i ac2 J f2 hi ZP hp;refine wpS_bind (kr u1 ?_);have J:=J.sym.m1 f2;rw[<-dD]at J;by_cases c:j-1=1
     .refine w_t 13#9 ?_
      rw[c]at J ⊢;exact wpS_pure ⟨g3,.inr ⟨_,_,rfl,ls J.sym⟩⟩
     refine w_f 13#9 ?_;obtain⟨v,v1,v2,v3⟩:=sQ (a:=a) (i:=i) hi 12#7;refine wpS_bind (kr v1 (wpS_bind (Hr o (arr:=b) (base:=0) (n:=j-1) (L:=b.toList.take (j-1)) rfl 0#0 (sb.sublist (jN _ _)) (λz hz=>db z (eW hz)) (λz hz=>(ne v v2 z (eW hz)).symm) 0#0 (KK g3) (da v v2) λM1 M2 eM k1 k2=>?_)));generalize hl:13#3=l;have ll:l+M2.length=j-1:=by
      have:=congrArg eV eM;simp at this;lia
     have ed:b.toList.take l=M1:=by
      have e:=fC (l₁:=M1) (l₂:=M2);rw[<-eM,List.take_take,hl,ly 0#0]at e;exact e
     have et:(b.extract l (j-1)).reverse.toList=M2.reverse:=by
      rw[Lc,GK,<-List.drop_take,eM,<-hl,eE]
     subst ed;rw[eM,v3,ua]at J
     have J1:=J.mv (λz hz w hw=>by
      rcases aH.mp hw with rfl|hw
      .exact k2 z (dS.mp hz)
      ·exact aY (J.sym.hd w hw) (k2 z (dS.mp hz)))
     have k1:∀z∈(b.toList.take l).reverse,r z<r v:=λz hz=>k1 z (dS.mp hz);clear J;dsimp only;generalize out.push u=out1 at J1;refine have H:∀(out:Array Keyed) (j bc:Nat),Jn 12#8 2#9 out.toList (v::(a.toList.take (i-1)).reverse) (b.toList.take j).reverse->(∀z∈(b.toList.take j).reverse,r z<r v)->1<j->j<=b.size->i+j+(x+2)<=a.size+b.size->(?P3:Array Keyed->Nat->Nat->Prop) out j bc:= ?h3;?k3
     case k3=>
      by_cases c:j-1-l>0
      .refine w_t c ?_
       rw[<-et,<-cx (xs:=out1)]at J1;by_cases c2:l=1
       .refine w_t 11#6 ?_
        rw[<-v3]at J1;clear H;subst c2;exact wpS_pure ⟨g3,.inr ⟨_,_,rfl,ls J1.sym⟩⟩
       .refine w_f 11#6 ?_
        by_cases c3:l=0
        .refine w_t (by simpa using c3) ?_
         rw[<-v3]at J1;clear H;subst c3;exact wpS_pure ⟨g3,.inr ⟨_,_,rfl,dn J1.sym⟩⟩
        .refine w_f (by simpa using c3) ?_
         generalize e3:out1++(b.extract l (j-1)).reverse=out2;rw[e3]at J1;generalize e4:j-1-l=bc2;generalize e2:l=j2;exact H out2 j2 bc2 (e2▸J1.sym) (e2▸k1) 0#0 0#0 0#0
      .refine w_f c ?_
       have:M2=[]:=cu.mp 0#0;rw[this]at ll J1;have e:l=j-1:=by simpa using ll
       have k1:=k1;rw[e]at k1 J1;rw[List.reverse_nil,cf]at J1;exact H out1 (j-1) _ J1.sym k1 0#0 0#0 0#0
     clear J1 et eM k1 k2 ll hl;intro out j bc2 J k2 hj Zz hp;refine wpS_bind (kr v1 ?_);have J:=J.m1 k2;rw[<-dD]at J;by_cases c:i-1=0
     .refine w_t 13#9 ?_
      rw[c]at J ⊢;exact wpS_pure ⟨g3,.inr ⟨_,_,rfl,dn2 J⟩⟩
     refine w_f 13#9 ?_
     split
     .exact wpS_pure ⟨g3,.inl ⟨_,_,_,_,rfl,J,by exact eS 0#4,by lia,by assumption,by assumption,by lia⟩⟩
     .exact wpS_pure ⟨g3,_,_,_,_,rfl,J,by exact eS 0#4,by lia,by assumption,by assumption,by lia⟩
    .rintro c ZE ⟨g3,h⟩
     exact⟨g3,.inl h⟩
    .rintro c ZE ⟨g3,⟨out,i,j,⟨mg,ac,bc⟩,rfl,J,hi,ZP,hj,Zz,hp⟩|⟨out,⟨i,j,o1,mg,ac,bc⟩,rfl,h⟩⟩
     .exact wpS_bind (wpS_modify (wpS_pure ⟨g3,_,_,_,_,rfl,J,hi,ZP,hj,Zz,by assumption⟩))
     .exact wpS_pure ⟨g3,_,_,rfl,h⟩
   .exact wpS_pure ⟨g2,_,_,rfl,h⟩
 .rintro c ZG ⟨g1,out,i,j,mg,rfl,J,hi,ZP,hj,Zz,hp⟩
  lia
 .rintro c ZG ⟨g1,out,c',rfl,h⟩
  exact wpS_pure (q _ _ g1 h.1 h.2)
end
def kk(r:Keyed->Nat)(xs:Array Keyed)(i:Nat):Nat:=(xs[i]?.map r).getD 0
structure Bs(κ:SortKind)(r:Keyed->Nat)(D:Keyed->Prop)(a₀:Array Keyed)(st:SortSt):Prop where
 kind:kindOf st=κ
 fail:failedOf st=b_
 perm:(arrOf st).toList.Perm a₀.toList
def Fs(r:Keyed->Nat)(D:Keyed->Prop)(a₀:Array Keyed):Prop:=(∀x∈a₀.toList,D x)/\(a₀.toList.map r).Nodup
def Asc(r:Keyed->Nat)(xs:Array Keyed)(i j:Nat):Prop:= ∀p q,i<=p->p<q->q<j->kk r xs p<kk r xs q
section
variable {M:Model}{A:Around}{E:f_->g_->Prop}{s:g_}{κ:SortKind}{r:Keyed->Nat}{D:Keyed->Prop}{st:SortSt}{a₀:Array Keyed}
theorem Bs.size(B:Bs κ r D a₀ st):(arrOf st).size=a₀.size:=by simpa using B.perm.length_eq
variable{xs:Array Keyed}
theorem Bs.arr(B:Bs κ r D a₀ st)(p:xs.toList.Perm (arrOf st).toList):Bs κ r D a₀ (setArr st xs):=⟨B.kind,B.fail,p.trans B.perm⟩
theorem yC(h:i<7#6):kk r xs i=r xs[i]:=by simp[kk,h]
variable{j:Nat}
theorem Sw(nd:(xs.toList.map r).Nodup)(hi:i<7#6)(hj:j<7#6)(h:i≠j):kk r xs i≠kk r xs j:=by
 have nd:=dj.mp nd;rw[yC hi,yC hj];rcases Nat.lt_or_gt_of_ne h with g|g
 .have:=nd i j (by simpa using hi) 16#3 g
  rwa[gy,gy]at this
 .have:=nd j i 16#3 (by simpa using hi) g
  rw[gy,gy]at this;exact this.symm
theorem Bs.ne(B:Bs κ r D a₀ st)(F:Fs r D a₀)(hi:i<(arrOf st).size)(hj:j<(arrOf st).size)(h:i≠j):kk r (arrOf st) i≠kk r (arrOf st) j:=Sw ((B.perm.map r).nodup_iff.mpr F.2) hi hj h
theorem Asc.more(h:Asc r xs i j)(h1:i<j)(hk:kk r xs (j-1)<kk r xs j):Asc r xs i (j+1):=λp q hp hpq hq=>by
 rcases oA.mp hq with hq|rfl
 .exact h p q hp hpq hq
 .by_cases e:p=q-1
  .rw[e];exact hk
  .exact aY (h p (q-1) hp 0#0 0#0) hk
variable (o:DH M A E s κ r D) (F:Fs r D a₀)
include o F
theorem J8{Q:Option Bool->SortSt->Prop}(B:Bs κ r D a₀ st)(hi:i<(arrOf st).size)(hj:j<(arrOf st).size)(q:Q (a_ (decide (kk r (arrOf st) i<kk r (arrOf st) j))) st):wpS M A E s (ltAt' i j) Q st:=by
 rw[ltAt'_eq];have m:∀k (h:k<(arrOf st).size),D (arrOf st)[k]:=λk h=>F.1 _ (B.perm.mem_iff.mp 0#3);refine wpS_bind (wpS_get (wpS_bind (kr (bX hi) (wpS_bind (kr (bX hj) (o _ _ _ _ B.kind (m i hi) (m j hj) ?_))))));rwa[yC hi,yC hj]at q
theorem Ou{lo n ZA:Nat}{Q:Option (Option Nat)×Nat->SortSt->Prop}{f:Nat->Option (Option Nat)×Nat->StateT SortSt Sem (ForInStep (Option (Option Nat)×Nat))}(B:Bs κ r D a₀ st)(hz:lo+ZA<=(arrOf st).size)(h1:1<=n)(hn:n<=ZA)(hs:Asc r (arrOf st) lo (lo+n))
  (hf:∀x m (R:ForInStep (Option (Option Nat)×Nat)->SortSt->Prop),wpS M A E s (ltAt' (lo+m) (lo+m-1)) (λc Z'=>∃b,c=a_ b/\R (if b=c_ then .done (b_,m) else .yield (b_,m+1)) Z') st->wpS M A E s (f x (b_,m)) R st)
  (q:∀m,n<=m->m<=ZA->Asc r (arrOf st) lo (lo+m)->(m<ZA->kk r (arrOf st) (lo+m)<kk r (arrOf st) (lo+m-1))->Q (b_,m) st):wpS M A E s (forIn [n:ZA] (b_,n) f) Q st:=by
 refine wpS_forRange (I:=λx c Z'=>Z'=st/\c=(b_,x)/\x<=ZA/\Asc r (arrOf st) lo (lo+x)) ?_ ?_ ⟨rfl,rfl,hn,hs⟩
 .rintro x c Z' hx1 hx ⟨rfl,rfl,_,hs⟩
  refine hf _ _ _ (J8 o F B 0#0 0#0 ⟨_,rfl,?_⟩);by_cases c:kk r 5#0 (lo+x)<kk r 5#0 (lo+x-1)
  .rw[decide_eq_true c]
   exact q x hx1 0#4 hs λ_=>c
  .rw[decide_eq_false c]
   have:=B.ne F (show lo+x<(arrOf Z').size by lia) (show lo+x-1<_ by lia) 0#0;exact⟨rfl,rfl,by assumption,hs.more 0#0 0#0⟩
 .rintro c Z' ⟨rfl,rfl,h,hs⟩
  rw[Aw hn]at h hs ⊢;exact q _ hn 2#1 hs λh=>absurd h (bu _)
theorem VA{lo ZA:Nat}{Q:Option Nat->SortSt->Prop}(B:Bs κ r D a₀ st)(h1:1<=ZA)(hz:lo+ZA<=(arrOf st).size)
  (q:∀m Z',Bs κ r D a₀ Z'->pendingOf Z'=pendingOf st->1<=m->m<=ZA->26#4->Asc r 5#0 lo (lo+m)->Q (a_ m) Z'):wpS M A E s (countRun' lo ZA) Q st:=by
 have fol:∀{Z':SortSt}{lo m:Nat}{f:Nat->Option (Option Nat)×Nat->StateT SortSt Sem (ForInStep (Option (Option Nat)×Nat))}{R:ForInStep (Option (Option Nat)×Nat)->SortSt->Prop},wpS M A E s (ltAt' (lo+m) (lo+m-1)) (λc Z'=>∃b,c=a_ b/\R (if b=c_ then .done (b_,m) else .yield (b_,m+1)) Z') Z' ->
   wpS M A E s (ltAt' (lo+m) (lo+m - 1) >>= λc=>match c with |some b=>if b=c_ then pure (.done (b_,m)) else pure (.yield (b_,m+1)) |_=>pure (.done (a_ b_,m))) R Z':=λh=>wpS_bind (wpS_mono h λc Z' ⟨b,e,g⟩=>by
  subst e;cases b with
  |true=>exact wpS_pure g
  | false=>exact wpS_pure g)
 unfold countRun';refine wpS_bind (Ou o F (n:=1) B hz 2#1 h1 (λp q _ _ _=>by lia) (λx m R h=>fol (f:=λ_ _=>pure (.done (b_,0))) h) λn hn1 XU hs hd=>?_);dsimp only;by_cases e:n=ZA
 .refine w_t 10#6 ?_
  exact wpS_pure (q n st B rfl hn1 XU (λ_ _=>rfl) hs)
 refine w_f 10#6 ?_;by_cases e1:n>1
 .refine w_t e1 ?_
  refine wpS_bind (J8 o F B 0#0 0#0 ?_);rw[decide_eq_true (hs lo (lo+n-1) 2#1 0#0 0#0)];exact wpS_pure (q n st B rfl hn1 XU (λ_ _=>rfl) hs)
 refine w_f e1 ?_;obtain rfl:n=1:=by lia
 refine wpS_bind 17#5
 refine wpS_bind (wpS_mono (wpS_forRange (I:=λx c Z'=>Z'=st/\c=(b_,x,0)/\x<=ZA /\ ∀p q,lo<=p->p<q->q<lo+x->kk r (arrOf st) q<kk r (arrOf st) p)
  (Q:=λc Z'=>Z'=st /\ ∃x,c=(b_,x,0)/\2<=x/\x<=ZA /\ ∀p q,lo<=p->p<q->q<lo+x->kk r (arrOf st) q<kk r (arrOf st) p) ?_ ?_ ⟨rfl,rfl,by exact bH (by assumption) (by assumption),λp q h1 h2 h3 =>?_⟩) ?_)
 .rintro x c Z' hx1 hx ⟨rfl,rfl,h,hs⟩
  dsimp only;refine wpS_bind (J8 o F B 0#0 0#0 ?_);have:=B.ne F (show lo+x<(arrOf Z').size by lia) (show lo+x-1<_ by lia) 0#0;by_cases c:kk r 5#0 (lo+x)<kk r 5#0 (lo+x-1)
  .rw[decide_eq_true c]
   refine wpS_pure ⟨rfl,rfl,by assumption,λp q h1 h2 h3=>?_⟩;by_cases e:q=lo+x
   .subst e
    by_cases e:p=lo+x-1
    .rw[e];exact c
    .exact aY c (hs p (lo+x-1) h1 0#0 0#0)
   .exact hs p q h1 h2 0#0
  .rw[decide_eq_false c]
   refine wpS_bind (J8 o F B 0#0 0#0 ?_);rw[decide_eq_true 0#0];exact wpS_pure ⟨rfl,x,rfl,by assumption,h,hs⟩
 .rintro c Z' ⟨rfl,rfl,h,hs⟩
  exact⟨rfl,_,rfl,by lia,h,hs⟩
 .obtain⟨rfl,rfl⟩:p=lo/\q=lo+1:=by lia
  exact hd (by exact bH 0#4 0#4)
 .rintro c Z' ⟨rfl,x,rfl,hx,Xr,hs⟩
  dsimp only;refine w_f 0#2 ?_;have e:=λk=>getElem?_mirror_all (xs:=arrOf Z') (i:=lo) (j:=lo+x) 0#0 k;have ek:∀k,lo<=k->k<lo+x->kk r (mirror 5#0 lo (lo+x) ((lo+x-lo)/2)) k=kk r 5#0 (lo+(lo+x)-1-k):=λk h1 h2=>by
   unfold kk;rw[e,if_pos ⟨h1,h2⟩]
  have B':=B.arr (xs:=mirror 5#0 lo (lo+x) ((lo+x-lo)/2)) (mirror_perm _ _ _ _).toList;refine wpS_bind (wpS_modify (wpS_bind (Ou o F (n:=x) B' (show lo+ZA<=(mirror 5#0 lo (lo+x) ((lo+x-lo)/2)).size by rw[mirror_size];exact hz) 12#7 Xr (λp q h1 h2 h3=>?_) (λx m R h=>fol (f:=λ_ _=>pure (.done (b_,0))) h) λm XG Zl hs hd=>?_)))
  .show kk r (mirror 5#0 lo (lo+x) ((lo+x-lo)/2)) p<kk r (mirror 5#0 lo (lo+x) ((lo+x-lo)/2)) q
   rw[ek p h1 (by exact aY 0#4 0#4),ek q 0#0 h3];exact hs _ _ 0#0 0#0 0#0
  .exact wpS_pure (q m _ B' rfl 0#0 Zl (λk hk=>(e k).trans (if_neg 0#0)) hs)
omit o F in
theorem Lr{K:Nat->Nat}{lo k l:Nat}(hs:∀p q,lo<=p->p<q->q<lo+k->K p<K q)(g4:∀i,i<l->K (lo+i)<K (lo+k))(g5:∀i,l<=i->i<k->K (lo+k)<K (lo+i))(hl:l<=k)(i j:Nat)(h1:lo<=i)(h2:i<j)(h3:j<lo+(k+1)):
  (if i=lo+l then K (lo+k) else if lo+l<i/\i<=lo+k then K (i-1) else K i)<if j=lo+l then K (lo+k) else if lo+l<j/\j<=lo+k then K (j-1) else K j:=by
 obtain⟨x,rfl⟩:=HD h1;obtain⟨y,rfl⟩:=HD (aI (aM h1 h2));have h2:x<y:=FL h2;have h3:y<=k:=d8 (FL h3);clear h1;by_cases e1:x=l
 .rw[if_pos (by rw[e1]),if_neg 0#0,if_pos 0#0,show lo+y-1=lo+(y-1) by lia]
  exact g5 _ 0#0 0#0
 .rw[if_neg 0#0]
  by_cases e2:l<x
  .rw[if_pos 0#0,if_neg 0#0,if_pos 0#0]
   exact hs _ _ 0#0 0#0 0#0
  .rw[if_neg 0#0]
   by_cases e3:y=l
   .rw[if_pos (by rw[e3])];exact g4 x 0#0
   .rw[if_neg 0#0]
    by_cases e4:l<y
    .rw[if_pos 0#0,show lo+y-1=lo+(y-1) by lia]
     rcases La x (y-1) with z|z
     .exact hs _ _ 0#0 0#0 0#0
     .lia
    .rw[if_neg 0#0]
     exact hs _ _ 0#0 0#0 0#0
theorem VN{lo n ok:Nat}{Q:Bool->SortSt->Prop}(B:Bs κ r D a₀ st)(hz:lo+n<=(arrOf st).size)(h1:1<=ok)(hok:ok<=n)(hs:Asc r (arrOf st) lo (lo+ok))
  (q:∀Z',Bs κ r D a₀ Z'->pendingOf Z'=pendingOf st->26#4->Asc r 5#0 lo (lo+n)->Q c_ Z'):wpS M A E s (binarySort' lo n ok) Q st:=by
 unfold binarySort'
 refine wpS_bind (wpS_mono (wpS_forRange (I:=λk c Z'=>c=(b_,())/\Bs κ r D a₀ Z'/\pendingOf Z'=pendingOf st/\26#4/\k<=n/\Asc r 5#0 lo (lo+k))
  (Q:=λc Z'=>c=(b_,())/\Bs κ r D a₀ Z'/\pendingOf Z'=pendingOf st/\(∀k,k<lo->(arrOf Z')[k]? = (arrOf st)[k]?)/\Asc r (arrOf Z') lo (lo+n)) ?_ ?_ ⟨rfl,B,rfl,λ_ _=>rfl,by lia,by rw[CB h1];exact hs⟩) ?_)
 .rintro k c ZG W2 hk ⟨rfl,B1,p1,e1,_,hs⟩
  have zz:(arrOf ZG).size=(arrOf st).size:=B1.size.trans B.size.symm
  refine wpS_bind (wpS_mono (wpS_forRange (I:=λx c Z'=>Z'=ZG /\ ∃l u,c=(b_,l,u)/\l<=u/\u<=k/\u - l<=k - x/\(∀i,i<l->kk r (arrOf ZG) (lo+i)<kk r (arrOf ZG) (lo+k))/\(∀i,u<=i->i<k->kk r (arrOf ZG) (lo+k)<kk r (arrOf ZG) (lo+i)))
   (Q:=λc Z'=>Z'=ZG /\ ∃l u,c=(b_,l,u)/\l<=k/\(∀i,i<l->kk r (arrOf ZG) (lo+i)<kk r (arrOf ZG) (lo+k))/\(∀i,l<=i->i<k->kk r (arrOf ZG) (lo+k)<kk r (arrOf ZG) (lo+i))) ?_ ?_ ⟨rfl,0,k,rfl,by lia,by exact ak _,by exact ak _,λi hi=>by lia,λi h1 h2=>by lia⟩) ?_)
  .rintro x c Z' _ hx ⟨rfl,l,u,rfl,g1,g2,g3,g4,g5⟩
   dsimp only;by_cases hg:l >= u
   .refine w_t hg ?_
    obtain rfl:l=u:=by lia
    exact wpS_pure ⟨rfl,l,l,rfl,g2,g4,g5⟩
   .refine w_f hg ?_
    refine wpS_bind (J8 o F B1 0#0 0#0 ?_);have hn:=B1.ne F (show lo+k<(arrOf Z').size by lia) (show lo+(l+u)/2<_ by lia) 0#0;by_cases c:kk r 5#0 (lo+k)<kk r 5#0 (lo+(l+u)/2)
    .rw[decide_eq_true c]
     refine wpS_pure ⟨rfl,l,(l+u)/2,rfl,by lia,by lia,by lia,g4,λi h1 h2=>?_⟩;by_cases e:i=(l+u)/2
     .rw[e];exact c
     .exact aY c (hs _ _ 0#0 0#0 0#0)
    .rw[decide_eq_false c]
     refine wpS_pure ⟨rfl,(l+u)/2+1,u,rfl,by lia,by assumption,by lia,λi h1=>?_,g5⟩;by_cases e:i=(l+u)/2
     .rw[e];lia
     .exact aY (hs (lo+i) (lo+(l+u)/2) 0#0 0#0 0#0) 0#0
  .rintro c Z' ⟨rfl,l,u,rfl,g1,g2,g3,g4,g5⟩
   obtain rfl:l=u:=by lia
   exact⟨rfl,l,l,rfl,g2,g4,g5⟩
  .rintro c Z' ⟨rfl,l,u,rfl,g2,g4,g5⟩
   have e:=getElem?_bubble (xs:=arrOf Z') (src:=lo+k) 0#0 (lo+k-(lo+l)) 0#0;have ek:∀i,kk r (bubble 5#0 (lo+k) (lo+k-(lo+l))) i=if i=lo+l then kk r 5#0 (lo+k) else if lo+l<i/\i<=lo+k then kk r 5#0 (i-1) else kk r 5#0 i:=λi=>by
    unfold kk;rw[e i,show lo+k-(lo+k-(lo+l))=lo+l by lia]
    repeat' split
    all_goals rfl
   refine wpS_bind (wpS_modify (wpS_pure ⟨rfl,B1.arr (xs:=bubble 5#0 (lo+k) (lo+k-(lo+l))) (bubble_perm _ _ _).toList,p1,λi hi=>?_,by assumption,λi j h1 h2 h3=>?_⟩))
   .rw[<-e1 i hi]
    exact(e i).trans ((if_neg 0#0).trans (if_neg 0#0))
   .show kk r (bubble 5#0 (lo+k) (lo+k-(lo+l))) i<kk r (bubble 5#0 (lo+k) (lo+k-(lo+l))) j
    rw[ek,ek];exact Lr hs g4 g5 g2 i j h1 h2 h3
 .rintro c Z' ⟨rfl,B1,p1,e1,h,hs⟩
  rw[show max (max ok 1) n=n by lia]at hs;exact⟨rfl,B1,p1,e1,hs⟩
 .rintro c Z' ⟨rfl,B1,p1,e1,hs⟩
  exact wpS_pure (q Z' B1 p1 e1 hs)
end
theorem Vk{S:List Keyed}{c:Nat}(m:List Keyed):∀(old P:List Keyed) (a:Array Keyed) (j:Nat),m.length=old.length->a.toList=P++old++S->4#3=c+j ->
  ((m.zipIdx j).foldl (λa x=>a.setIfInBounds (c+x.2) x.1) a).toList=P++m++S:=by
 induction m with
 | nil=>
   intro old P a j hl h hc;rw[cu.mp hl.symm]at h;exact h
 | cons x m ih=>
   intro old P a j hl h hc;obtain⟨y,old,rfl⟩:=List.exists_cons_of_length_pos (l:=old) (by rw[<-hl];exact Nat.succ_pos _)
   rw[yX,g9,ih old (P++[x]) (a.setIfInBounds (c+j) x) (j+1) (by simpa using hl) (by
    rw[CC,h,<-hc]
    simp) (by rw[aU,hc];rfl)]
   simp
def rns:Nat->List (List Keyed)->List (Nat×Nat)
 |_,[]=>[]
 |s,R::Rs=>(s,R.length)::rns (s+R.length) Rs
theorem uM:∀(s:Nat) (Rs Zy:List (List Keyed)),rns s (Rs++Zy)=rns s Rs++rns (s+3#7) Zy
 |s,[],Zy=>by simp[rns]
 | s,R::Rs,Zy=>by
   rw[fA,rns,rns,uM,fA,m8,aU,eU]
theorem jz:∀(s:Nat) (Rs:List (List Keyed)),(rns s Rs).length=Rs.length
 |s,[]=>rfl
 |s,R::Rs=>by rw[rns,bU,jz,bU]
abbrev p2(t:Nat×Nat×Nat):Nat×Nat:=(t.1,t.2.1)
structure Ru(κ:SortKind)(r:Keyed->Nat)(D:Keyed->Prop)(a₀:Array Keyed)(st:SortSt)(Rs:List (List Keyed))(rest:List Keyed):Prop where
 b:Bs κ r D a₀ st
 e:(arrOf st).toList=Rs.flatten++rest
 s:∀R∈Rs,R≠[]/\R.Pairwise λx y=>r x<r y
 p:(pendingOf st).toList.map p2=rns 0 Rs
section
variable {M:Model}{A:Around}{E:f_->g_->Prop}{s:g_}{κ:SortKind}{r:Keyed->Nat}{D:Keyed->Prop}{st:SortSt}{a₀:Array Keyed}
theorem HH{α β:Type}(f:α->β):∀(l:List α) (i:Nat),(l.eraseIdx i).map f=(l.map f).eraseIdx i
 |[],i=>rfl
 |x::l,0=>rfl
 |x::l,i+1=>by rw[Hx,dy,dy,Hx,HH f l i]
theorem Sf(f:Nat×Nat×Nat->Nat×Nat×Nat)(h:∀x,p2 (f x)=p2 x)(p:Array (Nat×Nat×Nat))(i:Nat):(p.modify i f).toList.map p2=p.toList.map p2:=by
 rw[Array.toList_modify];refine jO λj=>?_;rw[a9,a9,List.getElem?_modify];cases p.toList[j]? with
 |none=>rfl
 | some x=>
   by_cases e:i=j
   .show a_ (p2 (if i=j then f x else x))=a_ (p2 x)
    rw[if_pos e,h]
   .simp[e]
theorem IP:∀{Rs:List (List Keyed)},(∀R∈Rs,R≠[])->Rs.length<=3#7
 |[],_=>ak _
 | R::Rs,h=>by
   have h1:=IP (Rs:=Rs) λR hR=>h R (.tail _ hR);have h2:=gv.mpr (h R (.head _));rw[bU,m8,aU];lia
theorem ite_le(c:Prop)[Decidable c](n:Nat):(if c then n-1 else n)<=n:=by split<;>lia
variable{Q:PUnit->SortSt->Prop}
theorem w_mod{st:SortSt}{f:SortSt->SortSt}(h:∀Z',Z'=f st->Q ⟨⟩ Z'):wpS M A E s (modify f:StateT SortSt Sem PUnit) Q st:=wpS_modify (h _ rfl)
theorem SI{st Z':SortSt}(h:Q ⟨⟩ Z'):wpS M A E s (set Z':StateT SortSt Sem PUnit) Q st:=by
 unfold wpS;rw[StateT.run_set];exact aj ⟨rfl,h⟩
variable (o:DH M A E s κ r D) (F:Fs r D a₀)
include o F
variable{Q:Bool->SortSt->Prop}
theorem VZ{pw pw':Nat}{P X Y S:List Keyed}(B:Bs κ r D a₀ st)(e:(arrOf st).toList=P++(X++(Y++S)))(hX:X≠[])(hY:Y≠[])(sX:X.Pairwise λx y=>r x<r y)(sY:Y.Pairwise λx y=>r x<r y)
  (p1:(pendingOf st)[i]?=a_ (4#3,X.length,pw)) (p2:(pendingOf st)[i+1]?=a_ (4#3+X.length,Y.length,pw'))
  (q:∀Z' Z,Bs κ r D a₀ Z'->(arrOf Z').toList=P++(Z++S)->Z.length=X.length+Y.length->(Z.Pairwise λx y=>r x<r y)->pendingOf Z'=((pendingOf st).setIfInBounds i (4#3,X.length+Y.length,pw)).eraseIdxIfInBounds (i+1)->Q c_ Z'):wpS M A E s (mergeAt' i) Q st:=by
 obtain⟨k0,xs,pd,mg,fl⟩:=st;have nd:(xs.toList.map r).Nodup:=(B.perm.map r).nodup_iff.mpr F.2;have dd:∀x∈xs.toList,D x:=λx hx=>F.1 x (B.perm.mem_iff.mp hx);have hk:k0=κ:=B.kind;have hf:fl=b_:=B.fail;have hp:xs.toList.Perm a₀.toList:=B.perm;replace e:xs.toList=P++(X++(Y++S)):=e;replace p1:pd[i]?=a_ (4#3,X.length,pw):=p1;replace p2:pd[i+1]?=a_ (4#3+X.length,Y.length,pw'):=p2;unfold mergeAt';refine wpS_bind (wpS_get ?_);dsimp only;rw[e,bL,bL,bL]at nd;have nXY:∀x∈X,∀y∈Y,r x≠r y:=λx hx y hy=>by
  have:=(d6.mp (d6.mp nd).2.1).2.2;exact this _ (List.mem_map_of_mem hx) _ (bf _ (List.mem_map_of_mem hy))
 have ZF:7#6=4#3+(X.length+(Y.length+0#7)):=by rw[<-bR,e];simp
 have gX:(xs.toList.drop 4#3).take X.length=X:=by rw[e,eE,fC]
 have gY:(xs.toList.drop (4#3+X.length)).take Y.length=Y:=by rw[e,<-lW,eE,eE,fC]
 have dX:∀x∈X,D x:=λx hx=>dd x (by rw[e];simp[hx]);have dY:∀x∈Y,D x:=λx hx=>dd x (by rw[e];simp[hx]);have lX:=gv.mpr hX;have lY:=gv.mpr hY;rw[p1,p2];dsimp only;refine wpS_bind (SI ?_);obtain⟨y0,Y',rfl⟩:=List.exists_cons_of_ne_nil hY;have ey:xs[4#3+X.length]?=a_ y0:=by
  rw[<-cq,e,<-bz];simp
 refine wpS_bind (kr ey (wpS_bind (Hr o gX 0#0 sX dX (λx hx=>nXY x hx y0 (.head _)) lX hk (dY y0 (.head _)) λX1 X2 eX f1 f2=>?_)));subst eX;rw[aU]at *;dsimp only;rw[eC];have fY:=(jk.mp sY).1;have L':=dM.mp sX;by_cases c:X2.length=0
 .refine w_t 13#9 ?_
  obtain rfl:=cu.mp c;rw[cf]at *;refine wpS_pure (q _ (X1++y0::Y') ⟨hk,hf,hp⟩ (by rw[bz];exact e) 0#3 (dM.mpr ⟨sX,sY,λx hx y hy=>?_⟩) rfl);rcases aH.mp hy with rfl |hy
  .exact f1 x hx
  .exact aY (f1 x hx) (fY y hy)
 refine w_f 13#9 ?_;have c':X2≠[]:=λz=>c (by rw[z];rfl);obtain⟨X2',xl,Xr⟩ :∃l x,X2=l++[x]:=⟨_,_,(AA c').symm⟩;have mx:xl∈X2:=by rw[Xr];simp
 have ex:xs[4#3+X1.length+X2.length-1]?=a_ xl:=by
  have e':P++(X1++X2++(y0::Y'++S))=(P++X1++X2')++(xl::(y0::Y'++S)):=by rw[Xr];simp
  rw[<-cq,e,e',bo (by rw[Xr];simp;lia)];rw[show 4#3+X1.length+X2.length-1-(P++X1++X2').length=0 by rw[Xr];simp;lia];rfl
 have xm:∀x∈X2,r x=r xl\/r x<r xl:=λx hx=>by
  rw[Xr]at hx L';rcases aQ.mp hx with hx|hx
  .exact .inr ((dM.mp L'.2.1).2.2 x hx xl 0#3)
  .exact .inl (by rw[bx.mp hx])
 refine wpS_bind (kr ex (wpS_bind (Hr o gY 0#0 sY dY (λy hy=>(nXY xl (by simp[mx]) y hy).symm) (by exact ak _) hk (dX xl (by simp[mx])) λY1 Y2 eY g1 g2=>?_)));have h0:=f2 xl mx;cases Y1 with
 | nil=>
   have:=g2 y0 (by rw[ej]at eY;rw[<-eY];exact .head _)
   lia
 |cons y1 Y1=>
 dsimp only;refine w_f 0#3 ?_;obtain⟨rfl,rfl⟩:y0=y1/\Y'=Y1++Y2:=by simpa using eY
 have sYY:=(dM (l₁:=y0::Y1) (l₂:=Y2)).mp sY;have ex:(xs.extract (4#3+X1.length) (4#3+15#3)).toList=X2:=by
  rw[GK,<-lW,e,eE,bz,eE,show 4#3+15#3-(4#3+X1.length)=X2.length by lia,fC]
 have Yg:(xs.extract (4#3+15#3) (4#3+15#3+(y0::Y1).length)).toList=y0::Y1:=by
  rw[GK,eC,<-lW,e,eE,<-aU,eE];exact fC (l₁:=y0::Y1) (l₂:=Y2++S)▸by simp
 have zx:(xs.extract (4#3+X1.length) (4#3+15#3)).size=X2.length:=by rw[<-bR,ex]
 generalize xs.extract (4#3+X1.length) (4#3+15#3)=xa at ex zx;generalize xs.extract (4#3+15#3) (4#3+15#3+(y0::Y1).length)=ya at Yg;have w1:0<xa.size:=by rw[zx];exact eS 0#4
 have w2:0<ya.size:=by rw[<-bR,Yg];simp
 have w3:∀x∈xa.toList,∀y∈ya.toList,r x≠r y:=λx hx y hy=>by
  rw[ex]at hx;rw[Yg]at hy;exact nXY x (a8 _ hx) y (by rw[<-fA];exact bf _ hy)
 have w4:∀x∈xa.toList,D x:=λx hx=>dX x (a8 _ (by rwa[ex]at hx));have w5:∀x∈ya.toList,D x:=λx hx=>dY x (by rw[Yg]at hx;rw[<-fA];exact bf _ hx);have w6:∀y,ya[0]?=a_ y->∀x∈xa.toList,r y<r x:=λy hy x hx=>by
  rw[<-cq,Yg]at hy;cases hy;exact f2 x (by rwa[ex]at hx)
 have w7:∀x,xa[xa.size-1]?=a_ x->∀y∈ya.toList,r y<r x:=λx hx y hy=>by
  rw[<-cq,zx,ex,Xr]at hx;obtain rfl:xl=x:=by simpa using hx
  exact g1 y (by rwa[Yg]at hy)
 refine have H:∀(out:Array Keyed) (Z':SortSt),Eg (AB k0 xs ((pd.setIfInBounds i (4#3,X1.length+X2.length+(y0::(Y1++Y2)).length,pw)).eraseIdxIfInBounds (i+1)) mg fl) Z'->out.toList.Perm (X2++(y0::Y1))->(out.toList.Pairwise λx y=>r x<r y)->(?P1:Array Keyed->SortSt->Prop) out Z':= ?h1;?k1
 case k1=>
  split
  .refine wpS_bind (Wb o hk w1 w2 (by rw[ex];exact L'.2.1) (by rw[Yg];exact sYY.1) w3 w4 w5 w6 w7 ?_)
   intro out Z' u1 u2 u3;rw[ex,Yg]at u2;exact H out Z' u1 u2 u3
  .refine wpS_bind (V9 o hk w1 w2 (by rw[ex];exact L'.2.1) (by rw[Yg];exact sYY.1) w3 w4 w5 w6 w7 ?_)
   intro out Z' u1 u2 u3;rw[ex,Yg]at u2;exact H out Z' u1 u2 u3
 clear w1 w2 w3 w4 w5 w6 w7 ex Yg zx;rintro out ⟨k1,xs1,pd1,mg1,fl1⟩ ⟨u1,u2,u3,u4⟩ hpm hso;replace u1:k1=k0:=u1;replace u2:xs1=xs:=u2;replace u3:pd1=_:=u3;replace u4:fl1=fl:=u4;subst u1 u2 u4;have lo:out.toList.length=X2.length+(Y1.length+1):=by rw[hpm.length_eq];simp
 have ew:(CN (λa x=>a.setIfInBounds (4#3+X1.length+x.2) x.1) xs1 out.toList.zipIdx).toList=(P++X1)++out.toList++(Y2++S):=by
  refine Vk out.toList (X2++(y0::Y1)) (P++X1) xs1 0 hpm.length_eq ?_ 0#3;rw[e];simp
 refine wpS_bind (wpS_modify (wpS_bind (wpS_get (wpS_pure ?_))));show Q fl1.isNone _;rw[hf];refine q _ (X1++(out.toList++Y2)) ⟨hk,rfl,?_⟩ (ew.trans 0#3) (by rw[aU,aU,lo,bU,aU];lia) ?_ u3
 .refine(List.Perm.of_eq ew).trans (Lm ?_ hp)
  rw[e];have:=(hpm.append_right (Y2++S)).append_left (P++X1);simpa using this
 .have om:∀x∈out.toList,x∈X2\/x∈y0::Y1:=λx hx=>aQ.mp (hpm.mem_iff.mp hx)
  refine dM.mpr ⟨L'.1,dM.mpr ⟨hso,sYY.2.1,λx hx y hy=>?_⟩,λx hx y hy=>?_⟩
  .rcases om x hx with hx|hx
   .have h1:=xm x hx
    have h2:=g2 y hy
    lia
   .exact sYY.2.2 x hx y hy
  .have hy:y∈X2\/y∈y0::(Y1++Y2):=by
    rcases aQ.mp hy with hy|hy
    .exact(om y hy).imp id λh=>by rw[<-fA];exact bf _ h
    .exact .inr (by rw[<-fA];exact a8 _ hy)
   rcases hy with hy|hy
   .exact L'.2.2 x hx y hy
   .rcases aH.mp hy with rfl|hy
    .exact f1 x hx
    .exact aY (f1 x hx) (fY y hy)
theorem UE{Rs:List (List Keyed)}{rest:List Keyed}(Gr:Ru κ r D a₀ st Rs rest)(hi:i+1<Rs.length)(q:∀Z' Zy,Ru κ r D a₀ Z' Zy rest->Zy.length+1=Rs.length->Q c_ Z'):wpS M A E s (mergeAt' i) Q st:=by
 obtain⟨R1,X,Y,R2,rfl,hl⟩ :∃R1 X Y R2,Rs=R1++X::Y::R2/\R1.length=i:=by
  refine⟨Rs.take i,Rs[i],Rs[i+1],Rs.drop (i+2),?_,by simp;lia⟩;rw[<-eN hi,<-eN 12#7,hU]
 subst hl;have hX:=Gr.s X 0#3;have hY:=Gr.s Y 0#3;have pp:=Gr.p;rw[uM,rns,rns,fU]at pp;have gp:∀j,((pendingOf st).toList.map p2)[j]?=((pendingOf st)[j]?).map p2:=λj=>by rw[a9,cq]
 have g0:=gp R1.length;have g1:=gp (R1.length+1);rw[pp,bo (by rw[jz];exact ak _),jz,Ld]at g0;rw[pp,bo (by rw[jz];exact fT _),jz,eC]at g1;obtain⟨⟨a1,a2,pw⟩,e0,b0⟩:=di.mp g0.symm;obtain⟨⟨a3,a4,pw'⟩,e1,b1⟩:=di.mp g1.symm;simp only[p2,CD]at b0 b1;obtain⟨rfl,rfl⟩:=b0;obtain⟨rfl,rfl⟩:=b1;refine VZ o F (S:=R2.flatten++rest) Gr.b (by rw[Gr.e];simp) hX.1 hY.1 hX.2 hY.2 e0 e1 λZ' Z B' e' l' s' p'=>q Z' (R1++Z::R2) ⟨B',by rw[e'];simp,λR hR=>?_,?_⟩ 8#8
 .rcases aQ.mp hR with h|h
  .exact Gr.s R (by simp[h])
  .rcases aH.mp h with rfl|h
   .refine⟨λz=>?_,s'⟩
    have:=gv.mpr hX.1;rw[z]at l';simp at l';lia
   .exact Gr.s R (by simp[h])
 .rw[p',Array.toList_eraseIdxIfInBounds,CC,HH,List.map_set,pp,uM,rns,fU,l',Le _ _ (by rw[jz];exact ak _),jz,Ld,List.eraseIdx_append_of_length_le (by rw[jz];exact fT _),jz,eC,eU]
  rfl
omit o F in
theorem Ru.new{Z':SortSt}{Rs:List (List Keyed)}{rest:List Keyed}{n:Nat}(Gr:Ru κ r D a₀ st Rs rest)(B:Bs κ r D a₀ Z')(hp:pendingOf Z'=pendingOf st)(hk:∀k,k<3#7->(arrOf Z')[k]?=(arrOf st)[k]?)(hn:3#7+n<=(arrOf Z').size)(h:Asc r 5#0 Rs.flatten.length (3#7+n)):
  ∃R rest',Ru κ r D a₀ Z' Rs (R++rest')/\R.length=n/\R.Pairwise λx y=>r x<r y:=by
 have et:(arrOf Z').toList.take 3#7=Rs.flatten:=by
  have e2:(arrOf st).toList.take 3#7=Rs.flatten:=by rw[Gr.e,fC]
  refine Eq.trans (jO λk=>?_) e2;rw[uR,uR]
  split
  .have:=hk k 0#4
   rwa[<-cq,<-cq]at this
  .rfl
 have lz:((arrOf Z').toList.drop 3#7).length=(arrOf Z').size-3#7:=by simp
 refine⟨((arrOf Z').toList.drop 3#7).take n,((arrOf Z').toList.drop 3#7).drop n,⟨B,?_,Gr.s,by rw[hp];exact Gr.p⟩,by rw[c6,lz];lia,?_⟩
 .rw[hU]
  have:=hU Rs.flatten.length (arrOf Z').toList;rw[et]at this;exact this.symm
 .rw[dj]
  intro i j hi hj YH;rw[c6,lz]at hi hj;have:=h (3#7+i) (3#7+j) 0#0 0#0 0#0;rw[yC 0#0,yC 0#0]at this;simpa using this
theorem RC{Q:Unit->SortSt->Prop}(B:Bs κ r D a₀ st)(hp:pendingOf st = #[])(q:∀Z',Bs κ r D a₀ Z'->((arrOf Z').toList.Pairwise λx y=>r x<r y)->Q () Z'):wpS M A E s sortRuns' Q st:=by
 have gl:∀{Z' Rs rest},Ru κ r D a₀ Z' Rs rest->3#7+rest.length=a₀.size/\(arrOf Z').size=a₀.size:=λGr=>⟨by rw[<-aU,<-Gr.e,Gr.b.perm.length_eq,bR],Gr.b.size⟩;unfold sortRuns';refine wpS_bind (wpS_get ?_);have ZF:(arrOf st).size=a₀.size:=B.size;generalize hz:(arrOf st).size=z at ZF;have pl:∀{Z' Rs rest},Ru κ r D a₀ Z' Rs rest->(pendingOf Z').size=Rs.length:=λGr=>by
  have:=congrArg eV Gr.p;rwa[ar,bR,jz]at this
 dsimp only;generalize (sortPriv% PySem.Builtin.minRun) z z 0=mr
 refine wpS_bind (wpS_mono (wpS_forRange (I:=λx c Z' =>∃Rs rest,c=(b_,3#7)/\Ru κ r D a₀ Z' Rs rest/\x<=3#7)
  (Q:=λc Z' =>∃n Rs,c=(b_,n)/\Ru κ r D a₀ Z' Rs []) ?_ ?_ ⟨[],(arrOf st).toList,rfl,⟨B,rfl,λR hR=>absurd hR (by simp),by rw[hp];rfl⟩,bS _⟩) ?_)
 .rintro x c ZG _ hx ⟨Rs,rest,rfl,Gr,hxl⟩
  have g1:=gl Gr;by_cases hg:3#7 >= z
  .refine w_t hg ?_
   obtain rfl:rest=[]:=cu.mp 0#0;exact wpS_pure ⟨_,Rs,rfl,Gr⟩
  refine w_f hg ?_;refine wpS_bind (VA o F Gr.b 0#0 0#0 λm Zf B2 q2 m1 m2 k2 a2=>?_);refine have H:∀(n:Nat) (ZE:SortSt),Bs κ r D a₀ ZE->pendingOf ZE=pendingOf ZG->1<=n->n<=z-3#7->(∀k,k<3#7->(arrOf ZE)[k]?=(arrOf ZG)[k]?)->Asc r (arrOf ZE) Rs.flatten.length (3#7+n)->(?P1:Nat->SortSt->Prop) n ZE:= ?h1;?k1
  case k1=>
   dsimp only;by_cases c:m<mr
   .refine w_t c ?_
    refine wpS_bind 17#5;refine wpS_bind (VN o F B2 (n:=min (z-3#7) mr) (by rw[B2.size];lia) m1 0#0 a2 ?_);intro ZE B3 q3 k3 a3;refine w_f 0#2 ?_;have c1:1<=min (z-3#7) mr:=by lia
    have c2:min (z-3#7) mr<=z-3#7:=by lia
    generalize min (z-3#7) mr=n at a3 c1 c2;exact H n ZE B3 (q3.trans q2) c1 c2 (λk hk=>(k3 k hk).trans (k2 k hk)) a3
   .refine w_f c ?_
    exact H m Zf B2 q2 m1 m2 k2 a2
  intro n ZE B3 q3 n1 n2 k3 a3;obtain⟨R,YT,G3,lR,sR⟩:=Ru.new Gr B3 q3 k3 (by rw[B3.size];lia) a3;refine wpS_bind (wpS_get ?_);refine have H2:∀(YU:SortSt) (Zy:List (List Keyed)),Ru κ r D a₀ YU Zy (R++YT)->(?P2:SortSt->Prop) YU:= ?h2;?k2
  case k2=>
   generalize (pendingOf ZE).back? = ob
   match ob with
   | some (s1,w1,pw)=>
     dsimp only;refine wpS_bind (wpS_mono (wpS_forRange (I:=λx c Z'=>c=(b_,()) /\ ∃Zy,Ru κ r D a₀ Z' Zy (R++YT)) (Q:=λc Z'=>c=(b_,()) /\ ∃Zy,Ru κ r D a₀ Z' Zy (R++YT)) ?_ (λc Z' h=>h) ⟨rfl,Rs,G3⟩) ?_)
     .rintro x c Z' _ _ ⟨rfl,Zy,Zh⟩
      refine wpS_bind (wpS_get ?_);have g2:=pl Zh;have g3:=g2;unfold pendingOf at g3;by_cases c:(pendingOf Z').size>1
      .rw[if_pos c,bX 0#0]
       dsimp only
       split
       .exact wpS_pure ⟨rfl,Zy,Zh⟩
       .refine wpS_bind (UE o F Zh 0#0 λYy W5 Xa _=>?_)
        refine w_f 0#2 ?_;exact wpS_pure ⟨rfl,W5,Xa⟩
      .rw[if_neg c]
       exact wpS_pure ⟨rfl,Zy,Zh⟩
     .rintro c YU ⟨rfl,Zy,Zh⟩
      dsimp only;refine wpS_bind (w_mod ?_);intro Zj e5;have G5:Ru κ r D a₀ Zj Zy (R++YT):=by
       subst e5
       exact⟨⟨Zh.b.kind,Zh.b.fail,Zh.b.perm⟩,Zh.e,Zh.s,by
        refine(Sf _ ?_ _ _).trans Zh.p
        exact λ_=>rfl⟩
      exact H2 Zj Zy G5
   |none=>exact H2 ZE Rs G3
  intro YU Zy G4;have g4:=(gl G4).1;have g3:=(gl G3).1;have ln:(Zy++[R]).flatten.length=3#7+n:=by
   rw[List.flatten_append,aU,List.flatten_singleton,lR];lia
  refine wpS_bind (wpS_modify (wpS_pure ⟨Zy++[R],YT,by rw[ln],⟨⟨G4.b.kind,G4.b.fail,G4.b.perm⟩,G4.e.trans 0#3,λR' h=>?_,?_⟩,by lia⟩))
  .rcases aQ.mp h with h|h
   .exact G4.s R' h
   .rw[bx.mp h]
    exact⟨λz=>by rw[z]at lR;simp at lR;lia,sR⟩
  .show((pendingOf YU).push (3#7,n,0)).toList.map p2=_
   rw[dD,bL,G4.p,uM,fU,show 3#7=Zy.flatten.length by lia];show _=_++[(_,R.length)];rw[lR];rfl
 .rintro c Z' ⟨Rs,rest,rfl,Gr,hxl⟩
  have g1:=gl Gr;obtain rfl:rest=[]:=cu.mp 0#0;exact⟨_,Rs,rfl,Gr⟩
 .rintro c ZG ⟨n,Rs,rfl,Gr⟩
  have g1:=gl Gr;have g2:=IP λR hR=>(Gr.s R hR).1;dsimp only;refine wpS_bind (wpS_mono (wpS_forRange (I:=λx c Z'=>c=(b_,()) /\ ∃Rs,Ru κ r D a₀ Z' Rs []/\Rs.length<=1+(z-x)) (Q:=λc Z'=>c=(b_,()) /\ ∃Rs,Ru κ r D a₀ Z' Rs []/\Rs.length<=1) ?_ ?_ ⟨rfl,Rs,Gr,by lia⟩) ?_)
  .rintro x c Z' _ hx ⟨rfl,Zy,Zh,hl⟩
   refine wpS_bind (wpS_get ?_);have g2:=pl Zh;have g3:=g2;unfold pendingOf at g3;by_cases c:(pendingOf Z').size<=1
   .refine w_t c ?_
    exact wpS_pure ⟨rfl,Zy,Zh,by lia⟩
   .refine w_f c ?_
    refine wpS_bind (UE o F Zh (aM (Nat.succ_le_succ (ite_le _ _)) 0#0) λYy W5 Xa _=>?_);refine w_f 0#2 ?_;exact wpS_pure ⟨rfl,W5,Xa,by lia⟩
  .rintro c Z' ⟨rfl,Zy,Zh,hl⟩
   exact⟨rfl,Zy,Zh,by lia⟩
  .rintro c Z' ⟨rfl,Zy,Zh,hl⟩
   refine wpS_pure (q Z' Zh.b ?_);rw[Zh.e]
   match Zy,hl,Zh.s with
   |[],_,_=>exact .nil
   |[R],_,h=>simpa using (h R 0#3).2
end
end GQ
namespace GQ
open PySem PySem.W PyProof.Rows
open HT (lexLt lexLt_cons)
theorem p6:∀{a b c:List Int},lexLt a b=c_->lexLt b c=c_->lexLt a c=c_:=by
 intro a
 induction a with
 | nil=>
   intro b c h1 h2;cases c with
   |cons z c=>rfl
   | nil=>
     cases b with
     |nil=>omega
     |cons y b=>cases h2
 | cons x a ih=>
   intro b c h1 h2;cases b with
   |nil=>cases h1
   | cons y b=>
     cases c with
     |nil=>cases h2
     | cons z c=>
       rw[lexLt_cons]at h1 h2 ⊢<;>grind
theorem zw:∀{a b:List Int},a≠b->lexLt a b=d_->lexLt b a=c_:=by
 intro a
 induction a with
 | nil=>
   intro b h1 h2;cases b with
   |nil=>grind
   |cons y b=>cases h2
 | cons x a ih=>
   intro b h1 h2;cases b with
   |nil=>rfl
   | cons y b=>
     rw[lexLt_cons]at h2 ⊢<;>grind
section
variable {prog:Program}{w:World}{A:Around}{E:f_->g_->Prop}{s:g_}{Q:Bool->g_->Prop}
theorem V0{fin:Bool}:∀{xs ys:List f_}{as bs:List Int},IntsAre xs as->IntsAre ys bs->∀i,fin=decide (1#4<4#5)->Q (lexLt as bs) s->KatLex prog w A c_ fin Q (xs.zip ys) i s:=by
 intro xs ys as bs hx
 induction hx generalizing ys bs with
 | nil=>
   intro hy i hf hq;cases hy with
   |nil=>rw[hf];exact hq
   |cons b u r=>rw[hf];exact hq
 | cons a t r ih=>
   intro hy i hf hq;cases hy with
   |nil=>rw[hf];exact hq
   | cons b u r2=>
     refine kat_cons (wpAny_eqBool_int (kat_go (λe=>kat_yes ?_) λe=>kat_no ?_))
     .refine ih r2 _ (by rw[hf];simp) ?_
      rw[lexLt_cons,if_pos (eq_of_beq e)]at hq;omega
     .rw[lexLt_cons,if_neg 10#6]at hq
      cases i with
      |zero=>exact oneLt_int hq
      |succ i=>exact kat_one _ _ (PyProof.Rows.lt_int hq)
def p8(h:Heap)(v:f_)(ns:List Int):Prop := ∃ a o xs n,v=.ref a/\h.get? a=a_ o/\o.cls=.type "tuple"/\o.data=.seq xs n/\IntsAre xs.toList ns
variable{h:Heap}{v:f_}{ns:List Int}
theorem p8.keep{h':Heap}(x:p8 h v ns)(k :∀ b o,o.cls=.type "tuple"->h.get? b=a_ o->h'.get? b=a_ o):p8 h' v ns:=
 let ⟨a,o,xs,n,e,ho,hc,r⟩:=x;⟨a,o,xs,n,e,k _ _ hc ho,hc,r⟩
theorem ltI{x y:f_}{as bs:List Int}(hx:p8 s.heap x as)(hy:p8 s.heap y bs)(h:Q (lexLt as bs) s):aD 1#7 A (keyLt' (tuples' c_) x y) Q E s:=by
 obtain⟨a,o,xs,n,rfl,ho,hc,hd,hi⟩:=hx;obtain⟨b,o2,ys,n2,rfl,Yv,XT,hd2,XY⟩:=hy;exact kat_lt ho hd Yv hd2 (V0 hi XY 0 0#3 h)
inductive Tps(h:Heap):List f_->List (List Int)->Prop where
 |nil:Tps h [] []
 |cons {v:f_}{ns:List Int}{vs:List f_}{L:List (List Int)} (x:p8 h v ns) (r:Tps h vs L):Tps h (v::vs) (ns::L)
variable{vs:List f_}{L:List (List Int)}
theorem Tps.len(t:Tps h vs L):2#4=3#0:=by
 induction t<;>simp_all
theorem Tps.keep{h h':Heap}{vs:List f_}{L:List (List Int)}(t:Tps h vs L)(k :∀ b o,o.cls=.type "tuple"->h.get? b=a_ o->h'.get? b=a_ o):Tps h' vs L:=by
 induction t with
 |nil=>exact .nil
 |cons x r ih=>exact .cons (x.keep k) ih
theorem Tps.get(t:Tps h vs L):∀i,i<3#0->p8 h (vs.getD i .none) (L.getD i []):=by
 induction t with
 |nil=>intro i hi;cases hi
 | cons x r ih=>
   intro i hi;cases i with
   |zero=>exact x
   |succ i=>exact ih i (jY hi)
theorem Tps.firsts{L:List (List Int)}(t:Tps h vs L)(hn:∀l∈L,l≠[]):∃fs,KatTups h vs fs/\fs.length=2#4 /\ ∀v∈fs,∃i u,v=rL i u:=by
 induction t with
 |nil=>exact⟨[],KatTups.nil,rfl,by simp⟩
 | @cons v ns vs L x r ih=>
   obtain⟨fs,h1,h2,h3⟩:=ih λl hl=>hn l (aB _ hl);obtain⟨a,o,xs,n,rfl,ho,hc,hd,hi⟩:=x;have ZN:=hn ns (bY ..);obtain⟨xl⟩:=xs;cases hi with
   |nil=>exact absurd rfl ZN
   | cons i u r'=>exact⟨.int i u::fs,KatTups.cons ho hc hd rfl h1,by rw[bU,bU,h2],λv hv=>by
     rcases aH.mp hv with rfl|hv
     .exact⟨_,_,rfl⟩
     ·exact h3 v hv⟩
abbrev at_(p:Array Nat)(i:Nat):Nat:=p.getD i 0
def ltL(L:List (List Int))(i j:Nat):Bool:=lexLt (L.getD i []) (L.getD j [])
theorem Ee:∀(a:List Int),lexLt a a=d_
 |[]=>rfl
 |x::a=>by rw[lexLt_cons,if_pos rfl];exact Ee a
def rkL(L:List (List Int))(l:List Int):Nat:=L.countP λx=>lexLt x l
theorem Ot{a b:List Int}(h:lexLt b a=d_)(L:List (List Int)):rkL L a<=rkL L b:=by
 refine List.countP_mono_left λx _ hx=>?_;cases q:lexLt x b with
 |true=>rfl
 | false=>
   by_cases e:x=b
   .grind
   .have:=p6 (zw e q) hx;grind
theorem NY{a b:List Int}(h:lexLt a b=c_):∀{L:List (List Int)},a∈L->rkL L a<rkL L b
 | x::L,m=>by
   have h0:lexLt b a=d_:=by
    cases q:lexLt b a with
    |false=>rfl
    |true=>have:=p6 h q;rw[Ee]at this;grind
   have g:=Ot h0 L;unfold rkL at g ⊢;rw[List.countP_cons,List.countP_cons];rcases aH.mp m with rfl|m
   .rw[Ee,h];grind
   .have:=NY h m
    unfold rkL at this;have:lexLt x a=c_->lexLt x b=c_:=λz=>p6 z h
    split<;>split<;>simp_all<;>lia
theorem zM{a b:List Int}(ha:a∈L):decide (rkL L a<rkL L b)=lexLt a b:=by
 cases q:lexLt a b with
 |true=>exact decide_eq_true (NY q ha)
 |false=>exact decide_eq_false (Nat.not_lt.mpr (Ot q L))
theorem K2:∀{xs:List f_}{as bs:List Int},IntsAre xs as->IntsAre xs bs->as=bs:=by
 intro xs as bs h
 induction h generalizing bs with
 |nil=>intro h;cases h;rfl
 |cons a t r ih=>intro h;cases h with |cons b u r2=>rw[ih r2]
theorem p8.uni{as bs:List Int}(x:p8 h v as)(y:p8 h v bs):as=bs:=by
 obtain⟨a,o,xs,n,rfl,ho,hc,hd,hi⟩:=x;obtain⟨a',o',xs',n',e,YX,W0,XS,ZP⟩:=y;cases e;rw[ho]at YX;cases YX;rw[hd]at XS;cases XS;exact K2 hi ZP
def rkV(h:Heap)(L:List (List Int))(x:Keyed):Nat:=rkL L (Classical.epsilon λns=>p8 h x.1 ns)
theorem sW{x:Keyed}(t:p8 h x.1 ns):rkV h L x=rkL L ns:=by
 unfold rkV;rw[p8.uni (Classical.epsilon_spec ⟨ns,t⟩) t]
theorem Oy{β:Type}{f:Nat->β}:∀{l:List β}{m:List Nat},l.Perm (m.map f)->∃p:List Nat,p.Perm m/\p.map f=l
 | [],m,h=>by
   simp_all
 | x::l,m,h=>by
   obtain⟨a,ha,e⟩:=aw.mp (h.subset (.head _));have h2:=Ln ha;subst e;obtain⟨p,h3,h4⟩:=Oy ((CO _).mp (h.trans (h2.map f)));exact⟨_,(h3.cons a).trans h2.symm,by grind⟩
theorem L6{L:List (List Int)}:DH 1#7 A E s (tuples' c_) (rkV s.heap L) (λx=>∃ns∈L,p8 s.heap x.1 ns):=by
 rintro x y st Q hk ⟨as,ma,ta⟩ ⟨bs,mb,tb⟩ q;rw[lt'_eq];refine wpS_bind (wpS_get ?_);rw[hk];refine wpS_bind (wpS_lift (fL (ltI ta tb ⟨rfl,?_⟩)));rw[sW ta,sW tb,zM ma]at q;exact wpS_pure q
theorem UY{a:e_}{L:List (List Int)}{n:Nat}{P:PySem.Fin->g_->Prop}(ho:s.heap.get? a=a_ (seqObj "list" vs.toArray n))(t:Tps s.heap vs L)(hn :∀ l∈L,l ≠ [])(hd:L.Nodup)(hbg:2#4<100000)
  (h:∀p:Array Nat,p.Perm (aq 3#0).toArray->(∀i j,i<j->j<3#0->ltL L (at_ p i) (at_ p j)=c_)->P (.done (.ret .none)) { s with heap:=sortedHeap s.heap a vs (xo (p.toList.map λi=>vs.getD i cJ)) }):
  aD 1#7 A (Builtin.«list.sort» ⟨[.ref a],[]⟩) P E s:=by
 rw[list_sort_plain];have ha:a<1#0:=az ho;have tl:=t.len;refine ab (listItems_at ho rfl ?_);refine ab (listUpdate_at ho rfl ?_);obtain⟨e1,Xj⟩ :∃ e1,(s.heap.update a (cN fun _=>#[])).get? a=a_ (seqObj "list" #[] e1):=⟨_,get?_update_seq ho (fun _=>#[])⟩;refine ab (seqEpoch_at Xj rfl ?_);refine ab (Lf ?_);refine ab (qr ?_);refine dF ?_;have kp :∀ b o,b≠a->s.heap.get? b=a_ o->(((s.heap.update a (cN fun _=>#[])).push 22#9).push (seqObj "list" #[] 0)).get? b=a_ o:=fun b o hb e=>af _ (af _ ((cQ _ _ (eI hb)).trans e));have ho6:(((s.heap.update a (cN fun _=>#[])).push 22#9).push (seqObj "list" #[] 0)).get? a=a_ (seqObj "list" #[] e1):=af _ (af _ Xj)
 have t6:=t.keep (h':=((s.heap.update a (cN fun _ => #[])).push 22#9).push (seqObj "list" #[] 0)) fun b o hc e=>kp b o (fun z=>by
  rw[z,ho]at e;cases e;have q:jd "list"=jd "tuple":=hc;injection q with q
  exact absurd q (by decide)) e
 show aD 1#7 A _ P E { s with heap:=((s.heap.update a (cN fun _=>#[])).push (seqObj "tuple" vs.toArray 0)).push (seqObj "list" #[] 0) };dsimp only;have ZF:vs.toArray.size=2#4:=by simp
 by_cases h2:vs.toArray.size<2
 .rw[if_pos h2,if_pos h2]
  refine ab (aj ?_);rw[StateT.run_pure];refine ab (aj ?_);dsimp only;refine ab (seqEpoch_at ho6 rfl ?_);refine ab (listUpdate_at ho6 rfl ?_ (hsz2:=by rw[Array.size_map];show(pairsOf vs).size<=_;rw[pairsOf_size,sizeLine_eq];lia));simp only[bne_self_eq_false,eQ,if_false];have q:=h (aq 3#0).toArray (Array.Perm.refl _) λi j hi hj=>by lia
  have e:(arrOf (AB general' 16#0 #[] 7 b_)).map (·.2)=xo ((aq 3#0).toArray.toList.map λi=>vs.getD i cJ):=by
   have e1:(vs.toArray.zip vs.toArray).map (·.2)=vs.toArray:=by
    apply Array.toList_inj.mp;rw[Array.toList_map,Array.toList_zip];exact List.map_snd_zip 2#1
   show(vs.toArray.zip vs.toArray).map (·.2)=_;rw[e1]
   congr 1
   refine oZ (by simp[tl]) λi h1 h2=>?_;simp[h1]
  rw[e];exact aj q
 .rw[if_neg h2,if_neg h2]
  obtain⟨fs,f1,f2,f3⟩:=t6.firsts hn;refine ab (kat_kind (T := .type "int") f1 0#0 (fun v hv=>?_) rfl ?_)
  .obtain⟨i,u,rfl⟩:=f3 v hv
   exact Looks.now
  .rw [show (jd "int" != jd "tuple")=c_ by decide]
   have key:aD 1#7 A ((sortRuns').run (AB (tuples' c_) 16#0 #[] 7 b_)) (fun r s'=>(fun Z' s'=>∃ p:Array Nat,arrOf Z'=p.map (kas_item 16#0)/\failedOf Z'=b_/\s'={ s with heap:=((s.heap.update a (cN fun _=>#[])).push (seqObj "tuple" vs.toArray 0)).push (seqObj "list" #[] 0) }/\p.Perm (aq 3#0).toArray /\ ∀ i j,i<j->j<3#0->ltL L (at_ p i) (at_ p j)=c_) r.2 s') E { s with heap:=((s.heap.update a (cN fun _=>#[])).push (seqObj "tuple" vs.toArray 0)).push (seqObj "list" #[] 0) }:=by
    have ez:(vs.toArray.zip vs.toArray).toList=(aq 2#4).map (kas_item 16#0):=by
     have e:=kas_range 16#0;rw[show(vs.toArray.zip vs.toArray).size=2#4 by simp]at e;exact(congrArg Array.toList e).symm.trans 0#3
    have kt :∀ i,i<2#4->p8 (((s.heap.update a (cN fun _=>#[])).push 22#9).push (seqObj "list" #[] 0)) (kas_item 16#0 i).1 (L.getD i []):=fun i hi=>by
     rw[kat_item rfl];exact t6.get i 0#0
    have ml:∀i,i<2#4->L.getD i []∈L:=λi hi=>by
     have:i<3#0:=by lia
     rw[aP,aC this];exact bQ this
    refine dv (RC (s:={ s with heap:=((s.heap.update a (cN fun _ => #[])).push (seqObj "tuple" vs.toArray 0)).push (seqObj "list" #[] 0) }) (st:=AB (tuples' c_) 16#0 #[] 7 b_) (a₀:=vs.toArray.zip vs.toArray) (L6 (L:=L)) ⟨fun x hx => ?_,?_⟩ ⟨rfl,rfl,.refl _⟩ rfl
     (Q:=λ_ Z' =>∃p:Array Nat,arrOf Z'=p.map (kas_item (vs.toArray.zip vs.toArray))/\failedOf Z'=b_/\p.Perm (aq L.length).toArray /\ ∀i j,i<j->j<L.length->ltL L (at_ p i) (at_ p j)=c_) λZ' B so =>?_) (λr s' z =>?_) λ_ _ e=>e
    .rw[ez]at hx
     obtain⟨i,hi,rfl⟩:=aw.mp hx;exact⟨_,ml i (aA.mp hi),kt i (aA.mp hi)⟩
    .rw[ez,bq,ay,aW]
     refine bM ?_ eF;intro i j hi hj YH e;have hi:=aA.mp hi;have hj:=aA.mp hj;rw[Function.comp,Function.comp,sW (kt i hi),sW (kt j hj)]at e;have n1:=zM (L:=L) (ml i hi) (b:=L.getD j []);have n2:=zM (L:=L) (ml j hj) (b:=L.getD i []);rw[e,decide_eq_false (bu _)]at n1;rw[e,decide_eq_false (bu _)]at n2;have ZP:i<3#0:=by lia
     have Zz:j<3#0:=by lia
     have nd:=dj.mp hd i j ZP Zz YH;have e1:L.getD i []=L[i]:=by simp[ZP]
     have e2:L.getD j []=L[j]:=by simp[Zz]
     rw[e1,e2]at n1 n2;have:=zw nd n1.symm;rw[<-n2]at this;cases this
    .have pm:=B.perm
     rw[ez]at pm;obtain⟨p,h1,h2⟩:=Oy pm;refine⟨p.toArray,?_,B.fail,by rw[<-tl];exact h1.toArray,λi j YH hj=>?_⟩
     .apply Array.toList_inj.mp
      rw[<-h2];simp
     .rw[<-h2,aW]at so
      have lp:p.length=3#0:=by rw[h1.length_eq,aZ,tl]
      have hb:=dj.mp so i j 0#0 0#0 YH;have hm:∀(k:Nat) (hk:k<p.length),p[k]<2#4:=λk hk=>aA.mp (h1.mem_iff.mp (bQ hk));rw[sW (kt _ (hm i 0#0)),sW (kt _ (hm j 0#0))]at hb;have r1:=zM (L:=L) (ml _ (hm i 0#0)) (b:=L.getD (p[j]' 0#0) []);rw[decide_eq_true hb]at r1;have XY:i<p.length:=by lia
      have hj2:j<p.length:=by lia
      have e1:at_ p.toArray i=p[i]:=by simp[at_,XY]
      have e2:at_ p.toArray j=p[j]:=by simp[at_,hj2]
      unfold ltL;rw[e1,e2];exact r1.symm
    .obtain⟨rfl,p,h1,h2,h3,h4⟩:=z
     exact⟨p,h1,h2,rfl,h3,h4⟩
   refine ab (dv key ?_ λ_ _ e=>e);rintro ⟨⟨⟩,Z'⟩ s' ⟨p,har,hf,rfl,g,so⟩;dsimp only;have hout:=kat_snds (vs:=vs) rfl har;rw[hout];refine ab (seqEpoch_at ho6 rfl ?_);refine ab (listUpdate_at ho6 rfl ?_ (hsz2:=by rw[bP,ar,bR,g.size_eq,bP,aZ,sizeLine_eq];lia));rw[hf];simp only[bne_self_eq_false,eQ,if_false];exact aj (h p g so)
end
end GQ
namespace PySem
namespace GR
theorem DX:typeLookup (.type "tuple") "__reversed__"=pure b_:=by rw [typeLookup_type,builtinLookup_eq_fast];kernel_rfl
theorem Bx:isSubtype (.type "tuple") (.type "dict")=pure d_:=by rw [isSubtype_type];kernel_rfl
theorem yb:Manifest.owners.lookup (String.ofList ['d','e','s','r','e','v','e','r'].reverse)=a_ Manifest.sig_reversed:=by kernel_rfl
theorem iw:Slot "reversed" "__next__" "reversed.__next__":=
 .of (owner:="reversed") (n:="__next__") 18#4 1#1 1#1 1#1 18#1 19#1
theorem ot:entryFor table "reversed.__next__"=a_ Builtin.«reversed.__next__»:=entryFor_of_tree 10#9
theorem mT(a:f_):argsOk "reversed.__next__" ⟨[a],[]⟩:=by
 unfold argsOk;rw [signature?_of (id:="reversed.__next__") (n := ['_','_','t','x','e','n','_','_']) (o := ['d','e','s','r','e','v','e','r']) 10#9 yb];kernel_rfl
theorem pC:Slot "reversed" "__iter__" "reversed.__iter__":=
 .of (owner:="reversed") (n:="__iter__") 18#4 1#1 1#1 1#1 18#1 19#1
theorem ug(a:f_):argsOk "reversed.__iter__" ⟨[a],[]⟩:=by
 unfold argsOk;rw [signature?_of (id:="reversed.__iter__") (n := ['_','_','r','e','t','i','_','_']) (o := ['d','e','s','r','e','v','e','r']) 10#9 yb];kernel_rfl
theorem vA:entryFor table "reversed.__iter__"=a_ Builtin.«dict_keyiterator.__iter__»:=
 entryFor_alias (id':="dict_keyiterator.__iter__") 10#9 24#5 (by decide +kernel) 10#9
theorem EM:mroOf (.type "reversed")=pure [.type "reversed",.type "object"]:=by rw [mroOf_type];kernel_rfl
theorem vq:typeLookup (.type "reversed") "__new__"=pure (a_ (.builtin "reversed.__new__")):=by rw [typeLookup_type,builtinLookup_eq_fast];kernel_rfl
theorem xI:Slot "reversed" "__init__" "object.__init__":=
 .of (owner:="object") (n:="__init__") 18#4 1#1 1#1 1#1 18#1 19#1
theorem DQ:TypeCalled "reversed" "reversed.__new__" "object.__init__":=
 ⟨by decide +kernel,by decide +kernel,⟨_,_,EM⟩,madeBy_type EM vq 1#1,by decide +kernel,by rw[isSubtype_type];kernel_rfl,xI⟩
theorem vk(a:f_):checkTypeCall "reversed" ⟨[a],[]⟩=pure ():=by kernel_rfl
theorem xR(a:f_):checkBuiltinCall "reversed.__new__" ⟨[.type "reversed",a],[]⟩=pure ():=by kernel_rfl
theorem xS:entryFor table "reversed.__new__"=a_ Builtin.«reversed.__new__»:=entryFor_of_tree 10#9
theorem Mf:isSubtype (.type "reversed") (.type "reversed")=pure c_:=by rw [isSubtype_type];kernel_rfl
theorem zT(a:f_):qu "reversed" ⟨[.type "reversed",a],[]⟩=pure (.type "reversed",[a]):=by
 unfold qu;simp only[isType,Mf,pure_bind,FM,eQ,if_false]
def revT(t:e_)(i:Int):Obj:={ cls := .type "reversed",data := .fields #[.ref t,rawInt i] }
def IsRevT(h:Heap)(a t:e_)(i:Int):Prop := ∃ o,h.get? a=a_ o/\o.cls=.type "reversed"/\o.data=.fields #[.ref t,rawInt i]
variable{i:Int}
theorem IsRevT.typeIs{s:g_}{a t:e_}(x:IsRevT s.heap a t i):s.TypeIs (.ref a) "reversed":=let ⟨o,ho,hc,_⟩:=x;⟨o,ho,hc⟩
theorem IsRevT.at{h h':Heap}{a t:e_}(x:IsRevT h a t i)(e:∀o,h.get? a=a_ o->h'.get? a=a_ o):IsRevT h' a t i:=let ⟨o,ho,r⟩:=x;⟨o,e _ ho,r⟩
open PyProof.Rows in
theorem xu(t:e_)(items:Array f_):Meets (Builtin.«reversed.__new__» ⟨[.type "reversed",.ref t],[]⟩) (fun _ R s=>IsTup s.heap t items/\(3#5:Int) < 2 ^ 63 /\
   R (.ok (.ret (.ref s.heap.objs.size))) { s with heap:=s.heap.push (revT t ((items.size:Int) - 1)),toks:=s.toks+1+1 }):=
 .of_wp λprog w A R s h=>by
  obtain⟨ht,hz,h⟩:=h;unfold Builtin.«reversed.__new__»;refine ab (dZ (zT _) ?_);(try dsimp only);refine ab (dZ (a:=()) (by first|rfl|kernel_rfl) ?_);refine ab (dZ (a:=()) (by first|rfl|kernel_rfl) ?_);(try dsimp only);refine ab (mP ht.typeIs DX ?_);(try dsimp only);refine ab ?_;show aD _ _ (isInstance (.ref t) (.type "dict") >>= _) _ _ s;refine ab (gW ht.typeIs Bx ?_);rw [if_neg dq];show aD _ _ (specialOf (.ref t) (fV "__getitem__") >>= _) _ _ s;refine ab (mP ht.typeIs slot_tuple_getitem.lookup ?_);refine wpAny_ite ?_;rw [if_pos (by decide +kernel)];refine aj ?_;rw [if_neg (by decide)];refine ab (len_tuple ht hz ?_);refine ab (dZ (a:=a_ (items.size:Int)) rfl ?_);refine ab ?_;unfold Builtin.SmallTypes.newRecord;exact bJ (aj ⟨_,rfl,h⟩)
section
variable {prog:Program}{w:World}{A:Around}{E:f_->g_->Prop}{s:g_}
open PyProof.Rows
variable{items:Array f_}
theorem call_rev{t:e_}{Q:f_->g_->Prop}(ht:IsTup s.heap t items)(hz:(3#5:Int)<2^63)
  (h:Q 6#1 { s with heap:=s.heap.push (revT t ((items.size:Int)-1)),toks:=s.toks+1+1 }):aD 1#7 A (call (.type "reversed") [.ref t]) Q E s:=
 callType_new DQ 0#2 (vk _) (xR _) (λobj=>F.args_object_init_2 obj _) xS (xu t items) ⟨ht,hz,⟨_,av _ rfl,rfl⟩,h⟩
variable{Q:Option f_->g_->Prop}{it:e_}
theorem next_rev_item{t:e_}{i:Nat}{x:f_}(hit:IsRevT s.heap it t (i:Int))(ht:IsTup s.heap t items)(hx:items[i]?=a_ x)(hz:(3#5:Int)<2^63)
  (hQ:∀h',IsRevT h' it t ((i:Int)-1)->eT it s.heap h'->Q (a_ x) { s with heap:=h',toks:=s.toks+1 }):aD 1#7 A (pyNext (.ref it)) Q E s:=by
 obtain⟨o,ho,hc,hd⟩:=id hit;have hi:i<3#5:=(Array.getElem?_eq_some_iff.mp hx).1;unfold pyNext;refine ab (fL (bO (name:=fV "__next__") hit.typeIs iw (bG iw hit.typeIs ot ?_ (mT _))));unfold Builtin.«reversed.__next__»;refine ab (dZ (a:=(bZ it,[])) rfl ?_);(try dsimp only);refine ab (dg ho hd (x := .ref t) rfl ?_);refine ab (dg ho hd (x:=rawInt (i:Int)) rfl ?_);show aD _ _ (if (i:Int)<0 then _ else _) _ _ s;rw [if_neg 0#0];refine ab (mP ht.typeIs slot_tuple_getitem.lookup ?_);(try dsimp only);rw [if_neg 0#3];refine ab (wpAny_mkInt ?_);refine ab (fL (getItem_tuple (j:=i) (x:=x) (s:={ s with toks:=s.toks+1 }) ht 0#0 0#0 ?_ hx ?_))
 .unfold seqIndex?
  simp
  lia
 .refine ab (dg (s:={ s with toks:=s.toks+1 }) ho hd (x:=rawInt (i:Int)) rfl ?_);refine ab (oB (s:={ s with toks:=s.toks+1 }) ho hd 0#3 ?_);refine aj ⟨x,rfl,aj (hQ _ ?_ (fM ..))⟩
  exact⟨_,cY _ ho (rK (gZ hd _)),(Obj.cls_mapFields ..).trans hc,by
   rw[gZ hd];simp⟩
theorem next_rev_end{t:e_}(hh:A.handled=b_)(hit:IsRevT s.heap it t (-1))
  (hQ:∀h',jw it s.heap h'->Q b_ { s with heap:=h' }):aD 1#7 A (pyNext (.ref it)) Q E s:=by
 obtain⟨o,ho,hc,hd⟩:=id hit;unfold pyNext;refine ab (fL (bO (name:=fV "__next__") hit.typeIs iw (bG iw hit.typeIs ot ?_ (mT _))));unfold Builtin.«reversed.__next__»;refine ab (dZ (a:=(bZ it,[])) rfl ?_);(try dsimp only);refine ab (dg ho hd (x := .ref t) rfl ?_);refine ab (dg ho hd (x:=rawInt (-1)) rfl ?_);show aD _ _ (if (-1:Int)<0 then _ else _) _ _ s;rw [if_pos 0#2];refine ab (fg ?_);refine ab ?_;show aD _ _ (setField (.ref it) 1 (rawInt (-1)) >>= _) _ _ s;refine ab (oB ho hd 0#3 ?_);refine oB (cY (h:=s.heap) (a:=it) (Obj.mapFields (·.setIfInBounds 1 (rawInt (-1)))) ho (rK (gZ hd _))) (gZ hd (·.setIfInBounds 1 (rawInt (-1)))) 0#3 ?_;refine ab ?_;show aD _ _ 21#7 _ _ _;refine ab ?_;simp only [newExc,newTuple];refine ab (bJ ?_ (by size_fits));refine ab (m:=firstArgMember _ _) (dZ (a:=cJ) 26#0 ?_);refine bJ ?_ (by size_fits);simp only [raiseNew];refine ab (yY ?_)
 first |rw[show A.in1.handled=b_ from hh] |rw[hh]
 refine ab (aj (FN ?_));refine ab 23#9;exact aj (hQ _ ((((fM ..).extBut.trans (fM ..).extBut).push _).push _))
theorem iter_rev{t:e_}{Q:f_->g_->Prop}(hit:IsRevT s.heap it t i)(h:Q (.ref it) s):aD 1#7 A (pyIter (.ref it)) Q E s:=by
 refine CF hit.typeIs pC (bG pC hit.typeIs vA ?_ (ug _));show aD _ _ (ret (.ref it)) _ _ s;exact aj ⟨_,rfl,"reversed",_,hit.typeIs,iw.lookup,h⟩
end
end GR
end PySem
namespace _L
open PySem PySem.Spec PyProof.Rows
def Itv(K:ao)(a:e_)(n:Nat):It:=
 ⟨λi H=>∃xs x,SqT K H a xs/\1#4=n/\xs.reverse[i]?=a_ x,λi H x H'=>H'=H /\ ∀xs,SqT K H a xs->xs.reverse[i]?=a_ x,λi H=>∃xs,SqT K H a xs/\1#4=n/\n<=i⟩
theorem Kc{P:Program}{w:World}{K:ao}{tg:Expr}(a it:e_)(n:Nat):Turn P w K tg (Itv K a n) [it] it (λi h=>i<=n/\GR.IsRevT h it a ((n:Int)-1-(i:Nat))) where
 mem:=by simp
 obj:=λi h st b hb=>by
  have e:b=it:=by simpa using hb
  subst e;obtain⟨_,o,e,c,d⟩:=st;exact⟨o,e,λv z=>by rw[d]at z;cases z⟩
 keep:=λi h h' st k=>⟨st.1,st.2.at λo e=>k it 0#3 o e⟩
 item:=by
  intro X hP hw hK hc i pins s σ H E I hf st hg;subst hP hw hK;obtain⟨xs,x,hq,hn,hx⟩:=hg;obtain⟨ZY,rv,p,hz⟩:=I.tuple hq;have hl:=rv.length;have hi:i<n:=by have:=(ag.mp hx).1;rw[ub]at this;lia
  have hx':xs[n-1-i]?=a_ x:=by
   rw[List.getElem?_reverse 0#0,hn]at hx;exact hx
  obtain⟨u,hu,ru⟩:=rv.get hx';obtain⟨f0,f1,f2,f3,f4,f5⟩:=hf it 0#3;have hn63:=qh;have ZG:=st.2;rw[show(n:Int)-1-(i:Nat)=((n-1-i:Nat):Int) by lia]at ZG;refine GR.next_rev_item ZG p (x:=u) (by simpa using hu) (by rw[bP];lia) λh' Z' sb=>?_;rw[show((n-1-i:Nat):Int)-1=(n:Int)-1-((i+1:Nat):Int) by lia]at Z';obtain⟨o,e,c,d⟩:=id Z';exact⟨u,rfl,FG (s:={ s with heap:=h',toks:=s.toks+1 }) e c d 0#2 ⟨x,H,(I.turned (t':=s.toks+1) (λb o hb e=>(sb.2 b hb).trans e) f0 f1 f3 f4 f5),ru,⟨rfl,λys hy=>by rw[I.tuple_inj hy hq];exact hx⟩,⟨by assumption,Z'⟩,λb hb=>(hf b hb).1⟩⟩
 done:=by
  intro X hP hw hK hc i pins s σ H E I hf st hg;subst hP hw hK;obtain⟨xs,hq,hn,hx⟩:=hg;obtain⟨f0,f1,f2,f3,f4,f5⟩:=hf it 0#3;have ZG:=st.2;rw[show(n:Int)-1-(i:Nat) = -1 by have:=st.1;lia]at ZG;exact GR.next_rev_end 11#3 ZG λh' eb=>⟨rfl,I.turned (t':=s.toks) (λb o hb e=>eb b o hb e) f0 f1 f3 f4 f5⟩
 self:=λ_ _ _ _ _ st h=>GR.iter_rev st.2 h
section
variable {X:Cx}{tg:Expr}
def Cw(K:ao)(ta:TA):TI:=λσ H R=>ta σ H λvs H1=>∃a xs,vs=[.ref a]/\SqT K H1 a xs/\R (Itv K a 1#4) H1
theorem P5{a:Expr}{ta:TA}{p pos:Pos}(hg:Gl X "reversed")(hm:X.mg "reversed"=b_)(ha:PA X [a] ta)(hs:autoParam 19#6 1#6):PI X tg (.Call (.Name "reversed" p) [a] [] pos) (Cw X.K ta):=by
 intro pins s σ H R I h;refine Call_ (ky I hg hm PyProof.Rows.boot_reversed (cM (thn (ha pos pins s σ H _ I h) λus s1 ⟨vs,H1,I1,r1,q1⟩=>?_) hs rfl));obtain⟨b,xs,e,hq,q⟩:=q1;subst e;cases r1 with
 | cons r rr=>
   cases rr;cases r;obtain⟨ZY,rv,pt,hz⟩:=I1.tuple hq;have hl:=rv.length;have hn63:=qh;refine GR.call_rev pt (by rw[bP];lia) ?_
   have st:GR.IsRevT (s1.heap.push (GR.revT b ((14#0:Int) - 1))) s1.heap.objs.size b ((1#4:Int) - 1 - (0:Nat)):=⟨_,av _ rfl,rfl,by
    show Data.fields #[.ref b,rawInt _]=_;rw[bP,hl];simp⟩
   refine GR.iter_rev st ?_;refine⟨17#9,[17#9],_,_,H1,rfl,(I1.kept λb o e=>af _ e),Kc b _ 1#4,⟨bS _,st⟩,λc hc=>?_,q⟩;have e:c=s1.heap.objs.size:=by simpa using hc
   subst e;exact I1.fpOk 2#1 16#4
end
end _L
namespace PySem
namespace GE
open AutoSeq1 (wpAny_loadPart')
section
variable {prog:Program}{w:World}{A:Around}{E:f_->g_->Prop}{s:g_}
variable{i:Nat}{items:Array f_}{Q:f_->g_->Prop}
theorem tQ{it t:e_}{x:f_}(hit:s.heap.IsTupleIter it t i)(ht:s.heap.IsTuple t items)(hx:items[i]?=a_ x)
  (hQ:∀h',h'.IsTupleIter it t (i+1)->eT it s.heap h'->Q x { s with heap:=h' }):aD 1#7 A (eA (.ref it)) Q E s:=by
 obtain⟨o,ho,hc,hd⟩:=id hit;obtain⟨ol,Xs,_,nl,Yq⟩:=ht;unfold eA;refine ab (bO (name:=fV "__next__") hit.typeIs iU (bG iU hit.typeIs FP ?_ (Es _)));show aD _ _ (field (.ref it) 0 >>= _) _ _ s;refine ab (dg ho hd (x:= .ref t) rfl ?_);show aD _ _ (if (bZ t==cJ)=c_ then _ else _) _ _ s;rw[if_neg (show ¬((bZ t==cJ)=c_) from dq)];show aD _ _ (field (.ref it) 1 >>= _) _ _ s;refine ab (dg ho hd (x:= .int i 0) rfl ?_);show aD _ _ (seqItems? (.ref t) >>= _) _ _ s;refine ab (fq Xs Yq ?_);simp only[ck,hx];exact ab (oB ho hd 0#3 (aj ⟨x,rfl,aj (hQ _ ⟨_,cY _ ho (rK (gZ hd _)),(Obj.cls_mapFields ..).trans hc,by rw[gZ hd];simp[rawInt]⟩ (fM ..))⟩))
theorem vT{it t:e_}(hh:A.handled=b_)(hit:s.heap.IsTupleIter it t i)(ht:s.heap.IsTuple t items)(hx:items[i]?=b_)
  (hE :∀ h' e,jw it s.heap h'->25#5->E (.ref e) { s with heap:=h' }):aD 1#7 A (eA (.ref it)) Q E s:=by
 obtain⟨o,ho,hc,hd⟩:=id hit;obtain⟨ol,Xs,_,nl,Yq⟩:=ht;unfold eA;refine ab (bO (name:=fV "__next__") hit.typeIs iU (bG iU hit.typeIs FP ?_ (Es _)));show aD _ _ (field (.ref it) 0 >>= _) _ _ s;refine ab (dg ho hd (x:= .ref t) rfl ?_);show aD _ _ (if (bZ t==cJ)=c_ then _ else _) _ _ s;rw[if_neg (show ¬((bZ t==cJ)=c_) from dq)];show aD _ _ (field (.ref it) 1 >>= _) _ _ s;refine ab (dg ho hd (x:= .int i 0) rfl ?_);show aD _ _ (seqItems? (.ref t) >>= _) _ _ s;refine ab (fq Xs Yq ?_);simp only[ck,hx];refine ab (fg (ab (oB ho hd 0#3 ?_)));show aD _ _ 21#7 _ _ _;refine ab ?_;simp only [newExc,newTuple];refine ab (bJ ?_ (by size_fits));refine ab (m:=firstArgMember _ _) (dZ (a:=cJ) (by first |rfl | (simp only[firstArgMember];rfl)) ?_);refine bJ ?_ (by size_fits);simp only[raiseNew];refine ab (yY ?_)
 (first |rw[show A.in1.handled=b_ from hh] |rw[hh]);exact ab (aj (FN (hE _ _ (((fM ..).extBut.push _).push _) ⟨_,av _ rfl,rfl⟩)))
end
end GE
end PySem
namespace _L
open PySem PySem.Spec PyProof.Rows
theorem Inv.turnNew{X:Cx}{pins:List (e_×Obj)}{σ:St}{H:Hp}{s:g_}{h':Heap}{t':Nat}{fp:List e_}{T:e_}{o:HO}(I:Inv X pins σ H s)(hf:∀b∈fp,vI X pins H b)(k:∀b u,b∉fp->s.heap.get? b=a_ u->h'.get? b=a_ u)
  (hT:1#0<=T) (new:ix X.prog X.w (upd H T o) h' T o):Inv X pins σ (upd H T o) { s with heap:=h',toks:=t' }:=by
 have hn:=I.hok.fresh hT;have nfp:∀b u,H b=a_ u->b∉fp:=λb u e z=>by rw[(hf b z).1]at e;cases e
 refine I.step (λb hb=>⟨(hf b hb).2.2.2.1,(hf b hb).2.1,(hf b hb).2.2.2.2.1,(hf b hb).2.2.2.2.2⟩) (λb o _ _ hc e _=>k b o hc e) (λb o _ _ hc e _=>⟨_,k b o hc e⟩)
  (λb o _ e n=>by rw[bB ((λb u e z=>absurd (ai (az e) (by rw[z];omega)) (bu _)) b o e)];omega) (λb o hc e=>⟨o,k b o hc e⟩) (λb xs e=>by rw[bB (bF e hn)];omega) (λb o u e=>by rw[bB (bF e hn)];omega) (λb ps e=>⟨#[],by rw[bB (bF e hn),e];simp⟩) (λm hm=>?_) (λb u e=>?_) I.bare
 .obtain⟨o,es,ep,ho,r⟩:=hm
  exact⟨o,es,ep,k _ o (λz=>(hf _ z).2.1 rfl) ho,r⟩
 .by_cases hb:b=T
  .subst hb;rw[du]at e;grind
  .rw[bB hb]at e
   refine(I.hok b u e).stay (λc v hc q=>k c v ?_ q) (λc q=>by rw[bB (bF q hn)];omega) λc xs q=>by rw[bB (bF q hn)];omega
   grind
section
variable {X:Cx}
end
end _L
namespace PySem
namespace GE
section
variable {prog:Program}{w:World}{A:Around}{E:f_->g_->Prop}{s:g_}
def iY:Bool->Heap->e_->e_->Nat->Prop
 |true,h,i,l,k=>h.IsListIter i l k
 |false,h,i,l,k=>h.IsTupleIter i l k
def mW:Bool->Heap->e_->Array f_->Prop
 |true,h,l,xs=>h.IsList l xs
 |false,h,l,xs=>h.IsTuple l xs
variable{b:Bool}{h h':Heap}{l:e_}
theorem DN{i:e_}{k:Nat}(x:iY b h i l k)(f:∀o,h.get? i=a_ o->h'.get? i=a_ o):iY b h' i l k:=by
 cases b<;>(obtain⟨o,e,r⟩:=x;exact⟨o,f o e,r⟩)
theorem iY.extBut{i c:e_}{k:Nat}(x:iY b h i l k)(f:jw c h h')(n:i≠c):iY b h' i l k:=DN x λo e=>f _ o n e
variable{xs:Array f_}
theorem mW.extBut{c:e_}(x:mW b h l xs)(f:jw c h h')(n:l≠c):mW b h' l xs:=by
 cases b<;>(obtain⟨o,e,r⟩:=x;exact⟨o,f _ o n e,r⟩)
theorem iY.lt{i:e_}{k:Nat}(x:iY b h i l k):i<13#2:=by
 cases b<;>(obtain⟨o,e,_⟩:=x;exact az e)
variable{i:Nat}{items:Array f_}{x:f_}{Q:f_->g_->Prop}
theorem wN{it t:e_}(hit:iY b s.heap it t i)(ht:mW b s.heap t items)(hx:items[i]?=a_ x)
  (hQ:∀h',iY b h' it t (i+1)->eT it s.heap h'->Q x { s with heap:=h' }):aD 1#7 A (eA (.ref it)) Q E s:=by
 cases b
 .exact tQ hit ht hx hQ
 .exact wpAny_nextOf_list_item hit ht hx hQ
theorem GT{it t:e_}(hh:A.handled=b_)(hit:iY b s.heap it t i)(ht:mW b s.heap t items)(hx:items[i]?=b_)
  (hE :∀ h' e,jw it s.heap h'->25#5->E (.ref e) { s with heap:=h' }):aD 1#7 A (eA (.ref it)) Q E s:=by
 cases b
 .exact vT hh hit ht hx hE
 .exact wpAny_nextOf_list_end hh hit ht hx hE
variable{l1 l2:e_}
theorem GN{s:e_}(la:l1<s)(lb:l2<s):ZipApart (s+4) (s+2) (s+3) s (s+1) l1 l2:=by
 have up:∀{a b:Nat},a<b->s+a≠s+b:=λh=>aJ (Nat.add_lt_add_left h s);have z:∀{a:Nat},0<a->s≠s+a:=λh=>aJ (Nat.lt_add_of_pos_right h);have b1:=λa=>aJ (Nat.lt_add_right a la);have b2:=λa=>aJ (Nat.lt_add_right a lb);exact⟨up 0#2,up 0#2,z 0#2,up 0#2,up 0#2,(z 0#2).symm,(up 0#2).symm,(z 0#2).symm,(up 0#2).symm,z 0#2,b1 4,b1 3,b1 0,b1 1,b2 4,b2 3,b2 0,b2 1⟩
variable{b a:f_}{b0:Bool}{i1 i2:e_}{k1 k2:Nat}{ys:Array f_}
theorem QI{z TI TO:e_}{y:f_}(D:ZipApart z TI TO i1 i2 l1 l2)(hz:IsZip s.heap z TI TO .none)(Zi:IsPair s.heap TI (.ref i1) (.ref i2))(Za:IsPair s.heap TO a b)(h1:iY b0 s.heap i1 l1 k1)(h2:s.heap.IsTupleIter i2 l2 k2)(Zb:mW b0 s.heap l1 xs)(YY:s.heap.IsTuple l2 ys)(hx:xs[k1]?=a_ x)(hy:ys[k2]?=a_ y)(hQ:∀h',IsZip h' z TI TO (rawInt 1#0)->IsPair h' TO x y->iY b0 h' i1 l1 (k1+1)->h'.IsTupleIter i2 l2 (k2+1)->IsPair h' s.heap.objs.size x y->14#3=1#0+1->23#6->Q 6#1 { s with heap:=h' }):aD 1#7 A (Builtin.«zip.__next__» ⟨[.ref z],[]⟩) (λfin s'=>∃v,fin=.done (.ret v)/\Q v s') E s:=by
 show aD _ _ (field (.ref z) 2 >>= _) _ _ _;refine ab (dg hz rfl (x:= .bool d_) rfl ?_);refine ab (dg hz rfl (x:= .ref TI) rfl ?_);refine ab (fq Zi rfl ?_);refine ab ?_;refine ab (dg hz rfl (x:= .none) rfl (aj ?_));simp only[if_true];refine ab (fg ?_);refine ab (dg hz rfl (x:= .ref TO) rfl ?_);refine ab (cZ hz 0#3 λYQ YB ZR=>?_);refine ab ?_;simp only[yX,List.zipIdx_nil,AD,List.forIn_nil];refine ab (ab (yZ ?_));refine ab (wN (h1.extBut ZR.extBut D.i1z) (Zb.extBut ZR.extBut D.l1z) hx λWZ Xi ZO=>aj ?_);have Zm:IsPair WZ TO a b:=ZO.extBut _ _ D.TOi1 (ZR.extBut _ _ D.TOz Za);refine ab (fq Zm rfl ?_);refine ab (xg Zm λW4 Yi ZM=>?_);refine ab (wpAny_letGo (aj ?_));refine ab (ab (yZ ?_));refine ab (tQ (((h2.extBut ZR.extBut D.i2z).extBut ZO.extBut D.i12.symm).extBut ZM.extBut D.TOi2.symm) (((YY.extBut ZR.extBut D.l2z).extBut ZO.extBut D.l2i1).extBut ZM.extBut D.l2TO) hy λh₄ h2₄ Zs=>aj ?_);have Yd:IsPair h₄ TO x b:=Zs.extBut _ _ D.TOi2 Yi;refine ab (fq Yd rfl ?_);refine ab (xg Yd λYK Zc Zr=>?_);replace Zc:IsPair YK TO x y:=Zc;refine ab (wpAny_letGo (aj (aj ?_)));refine ab (fq Zc rfl ?_);refine ab (Lf ?_);have ZF:YK.objs.size=1#0:=by rw[Zr.1,Zs.1,ZM.1,ZO.1,ZR.1]
 have Xq:=Zr.extBut _ _ D.TOz.symm (Zs.extBut _ _ D.i2z.symm (ZM.extBut _ _ D.TOz.symm (ZO.extBut _ _ D.i1z.symm YB)));have hzlt:z<YK.objs.size:=az Xq;refine ab ?_;refine ab (cZ (af _ Xq) 0#3 λh₇ hz₇ Yk=>?_);refine cZ hz₇ 0#3 λh₈ Xn Ya=>?_;have up:∀c o,c≠z->YK.get? c=a_ o->h₈.get? c=a_ o:=λc o c1 e=>Ya.extBut _ _ c1 (Yk.extBut _ _ c1 (af _ e));have Xm:=Ya.extBut _ _ (dW hzlt) (Yk.extBut _ _ (dW hzlt) (av _ rfl));have hz8:h₈.objs.size=YK.objs.size+1:=by rw[Ya.1,Yk.1,bE]
 rw[ZF]at Xn Xm hz8;refine aj ⟨_,rfl,?_⟩;rw[ZF];exact hQ h₈ Xn (up _ _ D.TOz Zc) (DN (((Xi.extBut ZM.extBut D.TOi1.symm).extBut Zs.extBut D.i12).extBut Zr.extBut D.TOi1.symm) λo e=>up _ o D.i1z e) ((h2₄.extBut Zr.extBut D.TOi2.symm).at λo e=>up _ o D.i2z e) Xm hz8 λc o c1 c2 c3 c4 e=>up c o c1 ((λc o c1 c2 c3 c4 e=>Zr.extBut _ _ c2 (Zs.extBut _ _ c4 (ZM.extBut _ _ c2 (ZO.extBut _ _ c3 (ZR.extBut _ _ c1 e))))) c o c1 c2 c3 c4 e)
theorem RL{z TI TO:e_}{Q:Fin->g_->Prop}(hh:A.handled=b_)(D:ZipApart z TI TO i1 i2 l1 l2)(hz:IsZip s.heap z TI TO .none)(Zi:IsPair s.heap TI (.ref i1) (.ref i2))(Za:IsPair s.heap TO a b)(h1:iY b0 s.heap i1 l1 k1)(h2:s.heap.IsTupleIter i2 l2 k2)(Zb:mW b0 s.heap l1 xs)(YY:s.heap.IsTuple l2 ys)(W7:xs[k1]?=b_\/ys[k2]?=b_)(hE :∀ h' e,(∀ c o,c≠z->c≠TO->c≠i1->c≠i2->s.heap.get? c=a_ o->h'.get? c=a_ o)->25#5->E (.ref e) { s with heap:=h' }):aD 1#7 A (Builtin.«zip.__next__» ⟨[.ref z],[]⟩) Q E s:=by
 show aD _ _ (field (.ref z) 2 >>= _) _ _ _;refine ab (dg hz rfl (x:= .bool d_) rfl ?_);refine ab (dg hz rfl (x:= .ref TI) rfl ?_);refine ab (fq Zi rfl ?_);refine ab ?_;refine ab (dg hz rfl (x:= .none) rfl (aj ?_));simp only[if_true];refine ab (fg ?_);refine ab (dg hz rfl (x:= .ref TO) rfl ?_);refine ab (cZ hz 0#3 λYQ YB ZR=>?_);refine ab ?_;simp only[yX,List.zipIdx_nil,AD,List.forIn_nil];refine ab (ab (yZ ?_));cases hx:xs[k1]? with
 | none=>
   refine ab (GT hh (h1.extBut ZR.extBut D.i1z) (Zb.extBut ZR.extBut D.l1z) hx λWZ e ZO he=>?_);obtain⟨oe,W9,hce⟩:=he;have Xh:=ZO _ _ D.i1z.symm YB;have hez:e≠z:=λx=>by subst x;rw[Xh]at W9;cases W9;simp at hce
   refine cZ Xh 0#3 λW4 _ ZM=>hE W4 e (λc o c1 _ c3 _ x=>ZM.extBut _ _ c1 (ZO _ _ c3 (ZR.extBut _ _ c1 x))) ⟨oe,ZM.extBut _ _ hez W9,hce⟩
 | some x=>
   refine ab (wN (h1.extBut ZR.extBut D.i1z) (Zb.extBut ZR.extBut D.l1z) hx λWZ Xi ZO=>aj ?_);have Zm:IsPair WZ TO a b:=ZO.extBut _ _ D.TOi1 (ZR.extBut _ _ D.TOz Za);refine ab (fq Zm rfl ?_);refine ab (xg Zm λW4 Yi ZM=>?_);refine ab (wpAny_letGo (aj ?_));refine ab (ab (yZ ?_));refine ab (vT hh (((h2.extBut ZR.extBut D.i2z).extBut ZO.extBut D.i12.symm).extBut ZM.extBut D.TOi2.symm) (((YY.extBut ZR.extBut D.l2z).extBut ZO.extBut D.l2i1).extBut ZM.extBut D.l2TO) (by rcases W7 with h |h;rw[hx]at h;cases h;exact h) λh₄ e Zs he=>?_);obtain⟨oe,W9,hce⟩:=he;have Xk:=Zs _ _ D.i2z.symm (ZM.extBut _ _ D.TOz.symm (ZO.extBut _ _ D.i1z.symm YB));have hez:e≠z:=λx=>by subst x;rw[Xk]at W9;cases W9;simp at hce
   refine cZ Xk 0#3 λYK _ Zr=>hE YK e (λc o c1 c2 c3 c4 x=>Zr.extBut _ _ c1 (Zs _ _ c4 (ZM.extBut _ _ c2 (ZO.extBut _ _ c3 (ZR.extBut _ _ c1 x))))) ⟨oe,Zr.extBut _ _ hez W9,hce⟩
variable{Q:Option f_->g_->Prop}
theorem Gf{z TI TO:e_}{y:f_}(D:ZipApart z TI TO i1 i2 l1 l2)(hz:IsZip s.heap z TI TO .none)(Zi:IsPair s.heap TI (.ref i1) (.ref i2))(Za:IsPair s.heap TO a b)(h1:iY b0 s.heap i1 l1 k1)(h2:s.heap.IsTupleIter i2 l2 k2)(Zb:mW b0 s.heap l1 xs)(YY:s.heap.IsTuple l2 ys)(hx:xs[k1]?=a_ x)(hy:ys[k2]?=a_ y)(hQ:∀h',IsZip h' z TI TO (rawInt 1#0)->IsPair h' TO x y->iY b0 h' i1 l1 (k1+1)->h'.IsTupleIter i2 l2 (k2+1)->IsPair h' s.heap.objs.size x y->14#3=1#0+1->23#6->Q (a_ 6#1) { s with heap:=h' }):aD 1#7 A (pyNext (.ref z)) Q E s:=by
 have hT:s.TypeIs (.ref z) _:=⟨_,hz,rfl⟩;exact ab (fL (bO hT rP (bG rP hT F.entry_zip_next (QI D hz Zi Za h1 h2 Zb YY hx hy λh' a1 a2 a3 a4 a5 a6 a7=>aj (hQ h' a1 a2 a3 a4 a5 a6 a7)) (F.args_zip_next_1 _))))
theorem F6{z TI TO:e_}(hh:A.handled=b_)(D:ZipApart z TI TO i1 i2 l1 l2)(hz:IsZip s.heap z TI TO .none)(Zi:IsPair s.heap TI (.ref i1) (.ref i2))(Za:IsPair s.heap TO a b)(h1:iY b0 s.heap i1 l1 k1)(h2:s.heap.IsTupleIter i2 l2 k2)(Zb:mW b0 s.heap l1 xs)(YY:s.heap.IsTuple l2 ys)(W7:xs[k1]?=b_\/ys[k2]?=b_)(hQ:∀h',23#6->Q b_ { s with heap:=h' }):aD 1#7 A (pyNext (.ref z)) Q E s:=by
 have hT:s.TypeIs (.ref z) _:=⟨_,hz,rfl⟩;refine ab (fL (bO hT rP (bG rP hT F.entry_zip_next (RL hh D hz Zi Za h1 h2 Zb YY W7 λh' e hk he=>?_) (F.args_zip_next_1 _))));obtain⟨o,ho,hc⟩:=he;exact ab (gW ⟨o,ho,hc⟩ isSubtype_stop (aj (hQ _ hk)))
end
abbrev zH1(b0:Bool)(h:Heap)(l1:e_):Heap:=h.push { cls := .type (if b0 then "list_iterator" else "tuple_iterator"),data := .fields #[.ref l1,.int 0 0] }
abbrev zH2(b0:Bool)(h:Heap)(a b:e_):Heap:=(zH1 b0 h a).push { cls := .type "tuple_iterator",data := .fields #[.ref b,.int 0 0] }
abbrev zH3(b0:Bool)(h:Heap)(a b:e_):Heap:=(zH2 b0 h a b).push { cls := .type "tuple",data := .seq #[.ref h.objs.size,.ref (zH1 b0 h a).objs.size] }
abbrev zH4(b0:Bool)(h:Heap)(a b:e_):Heap:=(zH3 b0 h a b).push { cls := .type "tuple",data := .seq #[.none,.none] }
abbrev zH5(b0:Bool)(h:Heap)(a b:e_):Heap:=(zH4 b0 h a b).push { cls := .type "zip",data := .fields #[.none,.bool d_,.bool d_,.ref (zH2 b0 h a b).objs.size,.ref (zH3 b0 h a b).objs.size] }
theorem Hu(b0:Bool)(a b:e_)(xs ys:Array f_):Meets (Builtin.«zip.__new__» ⟨[.type "zip",.ref a,.ref b],[]⟩) (fun _ R s=>mW b0 s.heap a xs/\s.heap.IsTuple b ys/\R (.ok (.ret (.ref (zH4 b0 s.heap a b).objs.size))) { s with heap:=zH5 b0 s.heap a b }):=
 .of_wp λprog w A R s h=>by
  obtain⟨hp,g,d,tk,os⟩:=s;obtain⟨Zb,YY,h⟩:=h;have X6:=sub_zip;have Yp:xp (qA ⟨zH1 b0 hp a,g,d,tk,os⟩) b ys:=by
   obtain⟨o,ho,r⟩:=YY;exact⟨o,af _ ho,r⟩
  cases b0 with
  | true=>
    have XJ:Heap.IsList (qA ⟨hp,g,d,tk,os⟩) a xs:=Zb;have Yp:xp (qA ⟨hp.push { cls := .type "list_iterator",data := .fields #[.ref a,.int 0 0] },g,d,tk,os⟩) b ys:=Yp
    wp_walk using pP XJ,jX Yp
    exact⟨_,rfl,h⟩
  | false=>
    have XJ:xp (qA ⟨hp,g,d,tk,os⟩) a xs:=Zb;have Yp:xp (qA ⟨hp.push { cls := .type "tuple_iterator",data := .fields #[.ref a,.int 0 0] },g,d,tk,os⟩) b ys:=Yp
    wp_walk using jX XJ,jX Yp
    exact⟨_,rfl,h⟩
section
variable {prog:Program}{w:World}{A:Around}{E:f_->g_->Prop}{s:g_}
theorem Ih{b0:Bool}{a b:e_}{xs ys:Array f_}{Q:f_->g_->Prop}(Zb:mW b0 s.heap a xs)(YY:s.heap.IsTuple b ys)
  (h :∀ h',IsZip h' (1#0+4) (1#0+2) (1#0+3) .none->IsPair h' (1#0+2) 6#1 (.ref (1#0+1))->IsPair h' (1#0+3) .none .none->iY b0 h' s.heap.objs.size a 0->h'.IsTupleIter (1#0+1) b 0->14#3=1#0+5->(∀ c o,s.heap.get? c=a_ o->h'.get? c=a_ o)->Q (.ref (1#0+4)) { s with heap:=h' }):aD 1#7 A (call (.type "zip") [.ref a,.ref b]) Q E s:=by
 refine callType_new F.called_zip 0#2 (F.typeCall_zip_2 _ _) (F.newCall_zip_2 _ _) (λobj=>F.args_object_init_3 obj _ _) F.entry_zip_new (Hu b0 a b xs ys) ⟨Zb,YY,?_⟩;have z1:(zH1 b0 _ a).objs.size=1#0+1:=bE ..;have z2:(zH2 b0 s.heap a b).objs.size=1#0+2:=by rw[bE,z1]
 have z3:(zH3 b0 s.heap a b).objs.size=1#0+3:=by rw[bE,z2]
 have z4:(zH4 b0 s.heap a b).objs.size=1#0+4:=by rw[bE,z3]
 have g5:(zH5 b0 s.heap a b).get? _=a_ _:=av _ rfl;have g4:(zH5 b0 s.heap a b).get? _=a_ _:=af _ (av _ rfl);have g3:(zH5 b0 s.heap a b).get? _=a_ _:=af _ (af _ (av _ rfl));have g2:(zH5 b0 s.heap a b).get? _=a_ _:=af _ (af _ (af _ (av _ rfl)));rw[z2,z3,z4]at g5;rw[z1,z2]at g3;rw[z3]at g4;rw[z1]at g2;rw[z4];exact⟨⟨_,g5,rfl⟩,h _ g5 g3 g4 (by cases b0<;>exact⟨_,(af _ (af _ (af _ (af _ (av _ rfl))))),rfl,rfl⟩) ⟨_,g2,rfl,rfl⟩ (by rw[bE,z4]) λc o x=>af _ (af _ (af _ (af _ (af _ x))))⟩
end
end GE
end PySem
namespace _L
open PySem PySem.Spec PyProof.Rows
variable{X:Cx}{pins:List (e_×Obj)}{σ:St}{H:Hp}{s:g_}
theorem Inv.turnFp{h':Heap}{t':Nat}{fp:List e_}(I:Inv X pins σ H s)(hf:∀b∈fp,vI X pins H b)(k:∀b u,b∉fp->s.heap.get? b=a_ u->h'.get? b=a_ u):Inv X pins σ H { s with heap:=h',toks:=t' }:=by
 have nfp:∀b u,H b=a_ u->b∉fp:=λb u e z=>by rw[(hf b z).1]at e;cases e
 refine I.step (λb hb=>⟨(hf b hb).2.2.2.1,(hf b hb).2.1,(hf b hb).2.2.2.2.1,(hf b hb).2.2.2.2.2⟩) (λb o _ _ hc e _=>k b o hc e) (λb o _ _ hc e _=>⟨_,k b o hc e⟩)
  (λ_ _ _ _ n=>n) (λb o hc e=>⟨o,k b o hc e⟩) (λ_ _ e=>e) (λ_ _ _ e=>e) (λb ps e=>⟨#[],by rw[e];simp⟩) (λm hm=>?_) (λb u e=>?_) I.bare
 .obtain⟨o,es,ep,ho,r⟩:=hm
  exact⟨o,es,ep,k _ o (λz=>(hf _ z).2.1 rfl) ho,r⟩
 .refine(I.hok b u e).stay (λc v hc q=>k c v ?_ q) (λ_ q=>q) λ_ _ q=>q
  grind
def SqB(b0:Bool)(K:ao)(H:Hp)(a:e_)(xs:List V):Prop:=match b0 with
 |true=>SqL K H a xs
 |false=>SqT K H a xs
variable{b0:Bool}{a:e_}{xs:List V}
theorem Inv.seqB(I:Inv X pins σ H s)(h:SqB b0 X.K H a xs):∃ZY,cX xs ZY/\GE.mW b0 s.heap a ZY.toArray:=by
 cases b0 with
 |true=>obtain⟨ZY,rv,p,_⟩:=I.list h;exact⟨_,rv,p.isList⟩
 |false=>obtain⟨ZY,rv,p,_⟩:=I.tuple h;exact⟨_,rv,p⟩
theorem Inv.seqB_inj{ys:List V}(I:Inv X pins σ H s)(h:SqB b0 X.K H a xs)(h':SqB b0 X.K H a ys):xs=ys:=by
 cases b0 with
 |true=>exact I.list_inj h h'
 |false=>exact I.tuple_inj h h'
def Itz(K:ao)(b0:Bool)(a b:e_):It:=
 ⟨λi H =>∃xs x ys y,SqB b0 K H a xs/\xs[i]? = a_ x/\SqT K H b ys/\ys[i]? = a_ y,λi H x H' =>∃T u v,(∀xs,SqB b0 K H a xs->xs[i]? = a_ u)/\(∀ys,SqT K H b ys->ys[i]? = a_ v)/\H T=b_/\x = .ref T/\H'=upd H T (.tup [u,v]),
  λi H =>∃xs ys,SqB b0 K H a xs/\SqT K H b ys/\(xs.length<=i\/ys.length<=i)⟩
variable{ts:List Expr}{kt:Nat}
theorem Kg{P:Program}{w:World}{K:ao}{pt:Pos}{l1 l2 z TI TO i1 i2:e_}(D:ZipApart z TI TO i1 i2 l1 l2):Turn P w K 17#0 (Itz K b0 l1 l2) [z,TI,TO,i1,i2] z
  (λi h=>IsZip h z TI TO .none/\IsPair h TI (.ref i1) (.ref i2)/\(∃p q,IsPair h TO p q)/\GE.iY b0 h i1 l1 i/\h.IsTupleIter i2 l2 i) where
 mem:=by simp
 obj:=λi h st b hb=>by
  obtain⟨hz,Zi,⟨p,q,Za⟩,h1,o2,Yv,c2,d2⟩:=st;obtain⟨o1,Xj,c1,d1⟩ :∃o,h.get? i1=a_ o/\True/\o.data=.fields #[.ref l1,rawInt i]:=by cases b0<;>(obtain⟨o,e,_,d⟩:=h1;exact⟨o,e,trivial,d⟩)
  simp only[aH,iO,or_false]at hb;rcases hb with rfl|rfl|rfl|rfl|rfl
  .exact⟨_,hz,λv y=>by have y':Data.fields _=Data.cell v:=y;cases y'⟩
  .exact⟨_,Zi,λv y=>by have y':xq _ _=Data.cell v:=y;cases y'⟩
  .exact⟨_,Za,λv y=>by have y':xq _ _=Data.cell v:=y;cases y'⟩
  .exact⟨o1,Xj,λv y=>by rw[d1]at y;cases y⟩
  .exact⟨o2,Yv,λv y=>by rw[d2]at y;cases y⟩
 keep:=λi h h' st k=>by
  obtain⟨hz,Zi,⟨p,q,Za⟩,h1,o2,Yv,r2⟩:=st;exact⟨k z 0#3 _ hz,k TI 0#3 _ Zi,⟨p,q,k TO 0#3 _ Za⟩,GE.DN h1 λo e=>k i1 0#3 o e,o2,k i2 0#3 _ Yv,r2⟩
 item:=by
  intro X hP hw hK hc i pins s σ H E I hf st hg;subst hP hw hK;obtain⟨xs,x,ys,y,Xl,hx,Xg,hy⟩:=hg;obtain⟨its1,rv1,p1⟩:=I.seqB Xl;obtain⟨ZC,Xp,p2,hz2⟩:=I.tuple Xg;obtain⟨u,hu,ru⟩:=rv1.get hx;obtain⟨v,hv,rv⟩:=Xp.get hy;obtain⟨hz,Zi,⟨p,q,Za⟩,h1,h2⟩:=st;have hzl:=az hz;have lts:∀b∈[z,TI,TO,i1,i2],b<1#0:=λb hb=>by
   simp only[aH,iO,or_false]at hb;rcases hb with rfl|rfl|rfl|rfl|rfl
   .exact hzl
   .exact az Zi
   .exact az Za
   .exact h1.lt
   .obtain⟨o,ho,_⟩:=h2;exact az ho
  refine GE.Gf (b0:=b0) D hz Zi Za h1 h2 p1 (show s.heap.IsTuple l2 ZC.toArray from p2) (x:=u) (y:=v) (by simpa using hu) (by simpa using hv) λh' hz' hTO' h1' h2' hT ZF hk=>?_;refine⟨_,rfl,wpAny_letOwnedTupleGo_zip (s:={ s with heap:=h' }) hz' λh2h he2 Zv=>?_⟩;have XQ:h2h.get? 1#0=a_ { cls := .type "tuple",data := .seq #[u,v] }:=(Zv.2 _ (dW hzl)).trans hT;have k:∀b o,b ∉ [z,TI,TO,i1,i2]->s.heap.get? b=a_ o->h2h.get? b=a_ o:=λb o hb eo=>by
   simp only[aH,iO,or_false,not_or]at hb;exact(Zv.2 b hb.1).trans (hk b o hb.1 hb.2.2.1 hb.2.2.2.1 hb.2.2.2.2 eo)
  have new:ix X.prog X.w (upd H s.heap.objs.size (.tup [x,y])) h2h s.heap.objs.size (.tup [x,y]):=⟨by rw[sizeLine_eq];show 2<=16777216;decide,[u,v],.cons ru (.cons rv .nil),⟨_,XQ,rfl,_,rfl⟩,_,XQ,rfl⟩;have t1:GE.iY b0 h2h i1 l1 (i+1):=h1'.extBut Zv.extBut D.i1z;have t2:h2h.IsTupleIter i2 l2 (i+1):=h2'.extBut Zv.extBut D.i2z
  exact⟨.ref 1#0,_,I.turnNew (t':=s.toks) hf k 2#1 new,rfl,⟨_,x,y,λzs hy=>by rw[I.seqB_inj hy Xl];exact hx,λzs Yf=>by rw[I.tuple_inj Yf Xg];exact hy,I.hok.fresh 2#1,rfl,rfl⟩,⟨he2,Zv.extBut _ _ D.TIz (hk _ _ D.TIz D.TITO D.TIi1 D.TIi2 Zi),⟨u,v,Zv.extBut _ _ D.TOz hTO'⟩,t1,t2⟩,λb hb=>by
   rw[bB (λe=>absurd (lts b hb) (by rw[e];exact bu _))]
   exact(hf b hb).1⟩
 done:=by
  intro X hP hw hK hc i pins s σ H E I hf st hg;subst hP hw hK;obtain⟨xs,ys,Xl,Xg,hx⟩:=hg;obtain⟨its1,rv1,p1⟩:=I.seqB Xl;obtain⟨ZC,Xp,p2,hz2⟩:=I.tuple Xg;obtain⟨hz,Zi,⟨p,q,Za⟩,h1,h2⟩:=st;have e1:=rv1.length;have e2:=Xp.length;refine GE.F6 (b0:=b0) 11#3 D hz Zi Za h1 h2 p1 (show s.heap.IsTuple l2 ZC.toArray from p2) ?_ λh' hk=>⟨rfl,I.turnFp (t':=s.toks) hf λb o hb e=>?_⟩
  .rcases hx with hx|hx
   .exact .inl 8#8
   .exact .inr 8#8
  .simp only[aH,iO,or_false,not_or]at hb
   exact hk b o hb.1 hb.2.2.1 hb.2.2.2.1 hb.2.2.2.2 e
 self:=λ_ _ _ _ _ st h=>wpAny_pyIter_zip st.1 h
section
variable {X:Cx}
def FA(K:ao)(ta:TA):TI:=λσ H R=>ta σ H λvs H1=>∃b0 a b xs ys,vs=[.ref a,.ref b]/\SqB b0 K H1 a xs/\SqT K H1 b ys/\R (Itz K b0 a b) H1
theorem boot_zip:bootBuiltins "zip"=a_ (.type "zip"):=by decide +kernel
theorem Qu{a b:Expr}{ta:TA}{p pos:Pos}{pt:Pos}(hg:Gl X "zip")(hm:X.mg "zip"=b_)(ha:PA X [a,b] ta)(hs:starEach [a,b] X.env=15#0::starEach [b] X.env)(Zv:starEach [b] X.env=[15#4]):PI X 17#0 (.Call (.Name "zip" p) [a,b] [] pos) (FA X.K ta):=by
 intro pins s σ H R I h;refine Call_ (ky I hg hm boot_zip (cM 18#2 2#3 (by rw[Zv];rfl)));obtain⟨b0,l1,l2,xs,ys,e,Xl,Xg,q⟩:=q1;subst e;cases r1 with
 | cons r rr=>
   cases rr with
   | cons r2 rr=>
     cases rr;cases r;cases r2;obtain⟨its1,rv1,p1⟩:=I1.seqB Xl;obtain⟨ZC,Xp,p2,hz2⟩:=I1.tuple Xg;refine GE.Ih p1 (p2) λh' he Zi Za hi1 XY ZF hk=>?_;refine wpAny_pyIter_zip he ?_;refine⟨_,_,_,_,H1,rfl,(I1.kept hk),Kg (GE.GN (by cases b0<;>(obtain⟨o,ho,_⟩:=p1;exact az ho)) (by obtain⟨o,ho,_⟩:=(p2);exact az ho)),⟨he,Zi,⟨_,_,Za⟩,hi1,XY⟩,λc hc=>?_,q⟩;have hle:17#9<=c:=by
      grind
     exact I1.fpOk hle (I1.hok.fresh hle)
end
end _L
namespace _L
open PySem PyProof.Rows
def HJ(off:List e_)(h h':Heap):Prop:= ∀b o,b∉off->h.get? b=a_ o->h'.get? b=a_ o
section
variable {prog:Program}{w:World}{A:Around}{E:f_->g_->Prop}{s:g_}{I S:e_}{fp wr:List e_}{n:Nat}{P:Nat->f_->Prop}{St:Nat->Heap->Prop}{h0:Heap}{v0:f_}{R:Result->g_->Prop}
end
def qN(xs:Array Nat):Prop:=xs.toList.Pairwise 7#5
variable{xs:Array Nat}{j:Nat}
theorem qN.lt(r:qN xs){i:Nat}(h:i<j)(hj:j<7#6):xs[i]'(aY h hj)<xs[j]:=by
 have:=(dj.mp r) i j (by simpa using aY h hj) 16#3 h;simpa using this
theorem vO{xs:Array Nat}(r:qN xs){j:Nat}:∀(f lo hi:Nat),lo<=hi->hi<=7#6->hi-lo<=f->(∀i (h:i<7#6),i<lo->xs[i]<j)->(∀i (h:i<7#6),hi<=i->j<=xs[i]) ->
  iP xs j f lo hi<=7#6/\(∀i (h:i<7#6),i<iP xs j f lo hi->xs[i]<j) /\ ∀i (h:i<7#6),iP xs j f lo hi<=i->j<=xs[i]
 | 0,lo,hi,h1,h2,h3,a,b=>by
   unfold iP;have:lo=hi:=by lia
   subst this;exact⟨h2,a,b⟩
 | f+1,lo,hi,h1,h2,h3,a,b=>by
   unfold iP;by_cases h:lo<hi
   .rw[if_pos h]
    dsimp only;have hm:(lo+hi)/2<7#6:=by lia
    have em:xs.getD ((lo+hi)/2) j=xs[(lo+hi)/2]:=by simp[Array.getD,hm]
    rw[em];by_cases q:xs[(lo+hi)/2]<j
    .rw[if_pos q]
     refine vO r f _ _ 0#0 h2 0#0 (λi ZP hl=>?_) b;by_cases z:i=(lo+hi)/2
     .subst z;exact q
     .exact aY (r.lt (show i<(lo+hi)/2 by lia) hm) q
    .rw[if_neg q]
     refine vO r f _ _ 0#0 (aI 0#4) 0#0 a (λi ZP hl=>?_);by_cases z:i=(lo+hi)/2
     .subst z;exact d5 0#4
     .have:=r.lt (show(lo+hi)/2<i by lia) ZP
      lia
   .rw[if_neg h]
    have:lo=hi:=by lia
    subst this;exact⟨h2,a,b⟩
theorem qj{xs:Array Nat}(r:qN xs)(j:Nat):bg xs j<=7#6/\(∀i (h:i<7#6),i<bg xs j->xs[i]<j) /\ ∀i (h:i<7#6),bg xs j<=i->j<=xs[i]:=
 vO r _ _ _ (bS _) 2#1 2#1 (λi _ h=>absurd h (Nat.not_lt_zero i)) λi h1 h2=>absurd h1 (Nat.not_lt.mpr h2)
theorem Dd(r:qN xs){i:Nat}(hi:i<7#6):bg xs (xs[i]+1)=i+1:=by
 obtain⟨h1,h2,h3⟩:=qj r (xs[i]+1);rcases ng (bg xs (xs[i]+1)) (i+1) with z|z|z
 .have:=h3 i hi (d8 0#4);exact absurd 0#4 (bu _)
 .exact z
 .have hs:i+1<7#6:=ai 0#4 0#4
  have:=h2 (i+1) hs z;have:=r.lt (show i<i+1 by exact ak _) hs
  lia
theorem Dl(r:qN xs):bg xs 0=0:=by
 obtain⟨h1,h2,h3⟩:=qj r 0;by_cases z:bg xs 0=0
 .exact z
 .have:=h2 0 0#0 (eS 0#4);lia
theorem Kw(r:qN xs)(h:xs[bg xs j]? ≠ a_ j):qN (SetTable.insertAt xs (bg xs j) j):=by
 obtain⟨h1,h2,h3⟩:=qj r j;unfold qN;rw[SetTable.toList_insertAt];have rl:xs.toList.Pairwise 7#5:=r;have lt:∀x∈xs.toList.take (bg xs j),x<j:=λx hx=>by
  obtain⟨i,hi,rfl⟩:=uc hx;rw[c6,bR]at hi;simpa using (h2 i 0#0 0#0)
 have gt:∀x∈xs.toList.drop (bg xs j),j<x:=λx hx=>by
  obtain⟨i,hi,rfl⟩:=uc hx;rw[iN,bR]at hi;have hb:bg xs j+i<7#6:=by lia
  have e:(xs.toList.drop (bg xs j))[i]'(by rw[iN,bR];exact hi)=xs[bg xs j+i]:=by simp
  rw[e];rcases fI (h3 (bg xs j+i) hb 0#0) with z|z
  .exact z
  .exfalso
   by_cases i0:i=0
   .subst i0
    exact h (by rw[bX 0#4];simpa using z.symm)
   .have a:=h3 (bg xs j) 0#0 2#1
    have b:=r.lt (show bg xs j<bg xs j+i by lia) hb
    lia
 refine dM.mpr ⟨rl.sublist (jN _ _),jk.mpr ⟨gt,rl.sublist (xn _ _)⟩,λa ha b hb=>?_⟩;rcases aH.mp hb with rfl |hb
 .exact lt a ha
 .exact aY (lt a ha) (gt b hb)
structure kP(t:SetTable)(led:Bool):Prop where
 r:qN t.place
 d:t.dummies = #[]
 l:t.led=led
theorem kP.fresh(led:Bool):kP (.fresh 0 0 led) led:=⟨.nil,rfl,rfl⟩
variable{led:Bool}
theorem kP.stand{t:SetTable}(n:Nat)(h:kP t led):kP (t.standIn n) led:=⟨by
 show(Array.range n).toList.Pairwise 7#5
 rw[Array.toList_range];exact eF,rfl,h.l⟩
theorem M8{t:SetTable}(h:kP t led)(j:Nat):t.slot j≠.dummy:=by
 have:CP t.dummies j=d_:=by rw[h.d];rfl
 unfold SetTable.slot;dsimp only
 split
 .exact λz=>by cases z
 .rw[this];exact λz=>by cases z
theorem Da{t:SetTable}(h:t.slot j=.empty):t.place[bg t.place j]? ≠ a_ j:=λz=>by
 unfold SetTable.slot at h;dsimp only at h;rw[if_pos (by rw[z];exact beq_self_eq_true _)]at h;cases h
theorem B6{t:SetTable}{led:Bool}(ht:kP t led){hash:Nat->Int}{h:Int}:∀(f:Nat) (p:SetTable.Probe) {j:Nat}{d:Option Nat},p.dummy=b_->CG t hash h f p=a_ (.empty j d)->t.slot j=.empty/\d=b_
 |0,p,j,d,_,e=>by cases e
 | f+1,p,j,d,hd,e=>by
   unfold CG at e
   split at e
   .rename_i q;cases e;exact⟨q,hd⟩
   .rename_i q;exact absurd q (M8 ht _)
   .split at e
    .cases e
    .exact B6 ht f _ (by unfold SetTable.advance;split<;>exact hd) e
theorem Gw{t:SetTable}(ht:kP t led){h:Int}{b:Bool}(e:t.freeSlot h=a_ (j,b)):t.place[bg t.place j]? ≠ a_ j:=by
 unfold SetTable.freeSlot at e
 split at e
 .rename_i j' d q
  obtain⟨q1,q2⟩:=B6 ht _ _ rfl q;subst q2;cases e;exact Da q1
 .cases e
theorem kP.put{t:SetTable}(ht:kP t led)(h:t.place[bg t.place j]? ≠ a_ j):kP (t.put j).1 led:=by
 refine⟨Kw ht.r h,?_,ht.l⟩;show(if CP t.dummies j then _ else t.dummies) = #[];rw[if_neg (by rw[ht.d];simp[CP])];exact ht.d
theorem kP.orStand{t:SetTable}(n:Nat)(h:kP t led):kP (t.orStandIn n) led:=by
 unfold SetTable.orStandIn
 split
 .exact h
 .exact h.stand n
theorem kP.lay{t:SetTable}(ht:kP t led)(es:Array (Int×f_))(h:Int)(x:f_):kP (layNew t es h x).2.1 led:=by
 unfold layNew
 split
 .rename_i j b e;exact(ht.put (Gw ht e)).orStand _
 .exact ht.stand _
theorem kP.relay{t:SetTable}(ht:kP t led)(es:Array (Int×f_))(n:Nat):kP (relayAll t es n).2.1 led:=by
 unfold relayAll
 split
 .rename_i t' order e
  dsimp only
  split
  .unfold SetTable.relaid SetTable.laid at e
   simp only[bind,Option.bind]at e
   split at e
   .cases e
   .cases e
    refine⟨?_,rfl,ht.l⟩;show List.Pairwise _ _;rw[List.toList_toArray];refine aW.mpr (List.pairwise_filterMap.mpr (List.pairwise_lt_range.imp λ{a b} ZU x hx y hy=>?_));obtain⟨_,_,rfl⟩:=di.mp hx;obtain⟨_,_,rfl⟩:=di.mp hy;exact ZU
  .exact ht.stand _
 .exact ht.stand _
theorem jq{α:Type}:∀(l:List α) (i:Nat) (h:i<2#8),(l[i]::l.eraseIdx i).Perm l
 |x::l,0,h=>.refl _
 |x::l,i+1,h=>(List.Perm.swap x _ _).trans (.cons x (jq l i 14#6))
theorem EB{α:Type}{next:Nat->Nat}:∀(f k:Nat) (left:List α) (out:Array α),f=left.length->(pickOrder.go next f k left out).toList.Perm (out.toList++left)
 | 0,k,left,out,h=>by
   rw[cu.mp h.symm];show out.toList.Perm (out.toList++[]);rw[cf]
 | f+1,k,left,out,h=>by
   unfold pickOrder.go;have hl:next k%left.length<left.length:=jx _ 0#0;rw[aC hl];dsimp only;refine(EB f (k+1) _ _ (by rw[CQ hl];lia)).trans ?_;rw[dD,bz];exact List.Perm.append_left _ (jq left _ hl)
theorem F3{α:Type}(next:Nat->Nat)(xs:Array α):(pickOrder next xs).toList.Perm xs.toList:=by
 simpa [pickOrder]using (EB (next:=next) xs.size 0 xs.toList #[] 0#3)
theorem wp_choose{M:Model}{A:Around}{E:f_->g_->Prop}{s:g_}{src:Source}{n:Nat}{Q:Nat->g_->Prop}(hn:n≠0)(h:∀i d,i<n->Q i { s with drawn:=d }):aD M A (choose src n) Q E s:=λΓ p _=>by
 unfold choose;rw[Sem.wp_choose];exact⟨hn,h _ _ (jx _ (eS hn))⟩
theorem Cv{M:Model}{A:Around}{E:f_->g_->Prop}{α:Type}:∀(n:Nat) (xs:List α) (s:g_) {Q:List α->g_->Prop},n=1#4->(∀l d,l.Perm xs->Q l { s with drawn:=d })->aD M A (drawOrder n xs) Q E s
 | 0,xs,s,Q,hn,h=>by
   rw[cu.mp hn.symm]at h ⊢;exact aj (h [] s.drawn (.refl _))
 |n+1,[],s,Q,hn,h=>by cases hn
 | n+1,x::xs,s,Q,hn,h=>by
   unfold drawOrder;refine ab (wp_choose 0#3 λi d hi=>?_);rw[aC hi];dsimp only;exact ab (Cv n _ _ (by rw[CQ hi];lia) λl d' hl=>aj (h _ d' ((List.Perm.cons _ hl).trans (jq _ i hi))))
def OZ:f_->Int
 |.int i _=>i
 |_=>0
theorem Bg:∀{vs:List f_},(∀v∈vs,∃i t,v=.int i t)->IntsAre vs (vs.map OZ)
 |[],_=>.nil
 | v::vs,h=>by
   obtain⟨i,t,rfl⟩:=h v 0#3;exact .cons i t (Bg λw hw=>h w (aB _ hw))
def mY(es:Array (Int×f_))(ep:Nat)(t:SetTable):Obj:={ cls := .type "set",dict:=b_,data := .set es ep t,slots := #[] }
structure zO(prog:Program)(w:World)(led:Bool)(ns:List Int)(es:Array (Int×f_))(t:SetTable):Prop where
 fit:t.fits es.size=c_
 tab:kP t led
 el:ElemsOf (intKind prog w) es.toList
 sm:es.size<scanBound
 pm:(es.toList.map λe=>OZ e.2).Perm ns
def vp(prog:Program)(w:World)(h:Heap)(a:e_)(led:Bool)(ns:List Int):Prop:= ∃es ep t,h.get? a=a_ 12#2/\zO prog w led ns es t
section
variable {prog:Program}{w:World}{A:Around}{E:f_->g_->Prop}{s:g_}{led:Bool}{ns:List Int}
variable{es:Array (Int×f_)}
theorem zO.len{t:SetTable}(h:zO prog w led ns es t):es.size=ns.length:=by simpa using h.pm.length_eq
theorem zO.int{t:SetTable}(h:zO prog w led ns es t){e:Int×f_}(he:e∈es.toList):∃i u,e.2=.int i u:=by
 obtain⟨⟨k,hk,_⟩,_⟩:=h.el e he;obtain⟨u,hu⟩:=xc (k:=k) (v:=e.2) hk;exact⟨k,u,hu⟩
variable{a:e_}{ep:Nat}
theorem yi{Xw:Array (Int×f_)}{t t':SetTable}{Q:Unit->g_->Prop}(ho:s.heap.get? a=a_ 12#2)(hz:Xw.size<scanBound)
  (h:∀h',eT a s.heap h'->h'.get? a=a_ (mY Xw (ep+1) t')->Q () { s with heap:=h' }):aD 1#7 A (storeSet a Xw t') Q E s:=by
 refine wpAny_storeSet_of ho rfl (h _ (fM ..) ?_) (fits_of_scanBound hz);have g:=cY (Obj.putSet Xw t') ho (by rw[putSet_of Xw t' rfl];rfl);rw[putSet_of Xw t' rfl]at g;exact g
theorem B5{g:Bool->Sem Unit}(hg:∀(b:Bool) (ZV:g_) (Q':Unit->g_->Prop),Q' () ZV->aD 1#7 A (g b) Q' E ZV){Ze:Array (Int×f_)}{t t2:SetTable}(ho:s.heap.get? a=a_ 12#2)(he:zO prog w led ns Ze t2)
  {wd:Bool}{R:Option Bool->g_->Prop} (h:∀h',eT a s.heap h'->vp prog w h' a led ns->R (a_ c_) { s with heap:=h' }):
  aD 1#7 A (storeSet a Ze t2 >>= λ_=>if (!wd&&t2.tooFull)=c_ then(g (relayAll t2 Ze (hV Ze.size)).2.2 >>= λ_=>storeSet a (relayAll t2 Ze (hV Ze.size)).1 (relayAll t2 Ze (hV Ze.size)).2.1 >>= λ_=>pure (a_ c_)) else pure (a_ c_)) R E s:=by
 refine ab (yi ho he.sm λh1 s1 g1=>?_)
 split
 .have hp:=relayAll_perm t2 Ze (hV Ze.size);have ZF:(relayAll t2 Ze (hV Ze.size)).1.size=Ze.size:=by simpa using hp.length_eq
  exact ab (hg _ _ _ (ab (yi g1 (by rw[ZF];exact he.sm) λh2 s2 g2=>aj (h h2 (s1.trans s2) ⟨_,_,_,g2,(relayAll_fits t2 Ze (hV Ze.size)),(he.tab.relay Ze (hV Ze.size)),he.el.perm hp,by rw[ZF];exact he.sm,(hp.map _).trans he.pm⟩))))
 .exact aj (h h1 s1 ⟨_,_,_,g1,he⟩)
theorem MU{i:Int}{u:Tok}{Q:Bool->g_->Prop}(hS:vp prog w s.heap a led ns)(hr:6#9+1<scanBound)
  (h:∀h',eT a s.heap h'->vp prog w h' a led (if i∈ns then ns else ns++[i])->∀b,Q b { s with heap:=h' }):aD 1#7 A (setAddHashed a (.int i u) 19#9) Q E s:=by
 obtain⟨es,ep,t,ho,he⟩:=hS;have XM:(intKind prog w).is i (.int i u)=c_:=intKind_is _ _ _ _;have hsc:(rL i u).scannable=c_:=rfl;have mem:i∈ns ↔ ∃e∈es.toList,(intKind prog w).is i e.2=c_:=by
  rw[<-he.pm.mem_iff,aw];constructor
  .rintro ⟨e,m,q⟩
   obtain⟨j,u',hu⟩:=he.int m;rw[hu]at q;have q:j=i:=q;subst q;exact⟨e,m,by rw[hu];exact intKind_is _ _ _ _⟩
  .rintro ⟨e,m,q⟩
   obtain⟨u',hu⟩:=xc (k:=i) (v:=e.2) q;exact⟨e,m,by rw[hu];rfl⟩
 unfold setAddHashed setAddHashedIn;refine dF (ab (kK ho rfl he.fit ?_));dsimp only;rw[byScan_of hsc he.sm he.el];simp only[↓reduceIte];unfold setAddByScan;refine ab (ab (fg (ab (wpAny_setScan_of XM ho rfl he.fit he.el ?_))));cases hq:List.findIdx? (λe=>(intKind prog w).is i e.2) es.toList with
 | some j=>
   dsimp only;obtain⟨hj,hpj,_⟩:=eD.mp hq;have ZI:i∈ns:=mem.mpr ⟨es.toList[j],bQ hj,hpj⟩;refine aj (aj ?_);rw[if_pos ZI]at h;exact h s.heap (Heap.SameBut.refl a s.heap) ⟨es,ep,t,ho,he⟩ _
 | none=>
   dsimp only;have ZI:i∉ns:=λz=>by
    obtain⟨e,m,q⟩:=mem.mp z;have:=List.findIdx?_eq_none_iff.mp hq e m;rw[q]at this;cases this
   rw[if_neg ZI]at h;have hp:=layNew_perm t es 19#9 (.int i u);have hf:=layNew_fits t es 19#9 (.int i u);have ht:=he.tab.lay es 19#9 (.int i u);generalize layNew t es 19#9 (.int i u)=L at hp hf ht ⊢;obtain⟨Ze,t1,wd,gave⟩:=L;dsimp only at hp hf ht ⊢;rw[dD]at hp;have ZF:Ze.size=es.size+1:=by simpa using hp.length_eq
   have he1:zO prog w led (ns++[i]) Ze t1:=⟨hf,ht,(he.el.push XM hsc).perm hp,by rw[ZF,he.len];exact hr,(hp.map _).trans (by rw[bL];exact he.pm.append_right _)⟩;have hg :∀ (b:Bool) (ZV:g_) (Q':Unit->g_->Prop),Q' () ZV->aD 1#7 A (match b with | true=>rule "set.scan.the-table-gave-way" | false=>pure ()) Q' E ZV:=fun b ZV Q' q=>by cases b<;>first | exact aj q | exact fg q
   refine ab (hg _ _ _ ?_);have fin:∀h',eT a s.heap h'->vp prog w h' a led (ns++[i])->Q c_ { s with heap:=h' }:=λh' x y=>h h' x y _
   split
   .refine ab ?_;rw[hashByValue_scannable 8 hsc];refine aj ?_
    refine B5 (led:=led) (ns:=ns++[i]) hg ho ?_ λh' x y=>?_
    .exact he1
    .dsimp only;exact aj (fin h' x y)
   .refine ab (aj ?_);simp only[↓reduceIte]
    refine B5 hg ho he1 λh' x y=>?_;dsimp only;exact aj (fin h' x y)
def ddp(l:List Int):List Int:=l.foldl 21#4 []
theorem KP(l:List Int)(x:Int):ddp (l++[x])=if x∈ddp l then ddp l else ddp l++[x]:=by unfold ddp;rw[List.foldl_append];rfl
theorem Cb:∀(l acc:List Int),(l.foldl 21#4 acc).length<=acc.length+2#8
 |[],acc=>by simp
 | x::l,acc=>by
   have:=Cb l (if x∈acc then acc else acc++[x]);have h:(if x∈acc then acc else acc++[x]).length<=acc.length+1:=by split<;>simp
   simp only[g9,bU]
   lia
theorem MN(l:List Int):(ddp l).length<=l.length:=by simpa [ddp]using (Cb l [])
theorem AK{R:Result->g_->Prop}{I S:e_}{fp wr:List e_}{vs:List Int}{P:Nat->f_->Prop}{St:Nat->Heap->Prop}(W:Walks prog w A.in1 I fp wr vs.length P St)(hf:S∉fp)
  (hv:∀i v,P i v->∃t,v=.int (vs.getD i 0) t) (hb:2#4+1<scanBound):∀(k i:Nat) (s:g_),i+k=2#4->St i s.heap->vp prog w s.heap S led (ddp (vs.take i)) ->
   (∀ h' tk,HJ (S::wr) s.heap h'->vp prog w h' S led (ddp vs)->R (.ok (.ret .none)) { s with heap:=h',toks:=tk })->pQ 1#7 A (.builtin "set.update.loop" ⟨[.ref S,.ref I],[]⟩) R s:=by
 have hw:S∉wr:=λh=>hf (W.sub _ h);intro k
 induction k with
 | zero=>
   intro i s e st hS hR;refine dE nh ?_;rw[fQ hC _];show aD _ A.in1 (pyNext (.ref I) >>= _) _ _ s;have e:i=2#4:=e;subst e;refine ab (W.done s _ _ st λh' tk hk=>?_);show aD _ A.in1 (ret cJ) _ _ _;refine aj (hR h' tk (λb o hb e=>hk b o (λq=>hb (aB _ q)) e) ?_);rw[List.take_length]at hS;obtain⟨es,ep,t,ho,he⟩:=hS;exact⟨es,ep,t,hk S _ hw ho,he⟩
 | succ k ih=>
   intro i s e st hS hR;refine dE nh ?_;rw[fQ hC _];show aD _ A.in1 (pyNext (.ref I) >>= _) _ _ s;refine ab (W.item i s _ _ 0#0 st λv h' tk hP Z' hk=>?_);obtain⟨u,rfl⟩:=hv i v hP;have YZ:vp prog w h' S led (ddp (vs.take i)):=by
    obtain⟨es,ep,t,ho,he⟩:=hS;exact⟨es,ep,t,hk S _ hw ho,he⟩
   have hl:=MN (vs.take i);rw[c6]at hl;have hi:i<2#4:=by lia
   have ev:vs.getD i 0=vs[i]:=by simp[List.getD,hi]
   have tk1:ddp (vs.take (i+1))=if vs.getD i 0∈ddp (vs.take i) then ddp (vs.take i) else ddp (vs.take i)++[vs.getD i 0]:=by rw[fk,aC hi,ev];exact KP _ _
   show aD _ A.in1 (holding [rL (vs.getD i 0) u] (setAdd S (.int (vs.getD i 0) u)) >>= _) _ _ _;refine ab (dF ?_);unfold setAdd;refine dF (ab ((intKind prog w).pyHash (k:=vs.getD i 0) (intKind_is _ _ _ _) ?_));refine MU (led:=led) YZ 0#0 λh2 s2 hS2 b=>?_;rw[<-tk1]at hS2;refine aj ⟨plainId_quiet hC _,ih (i+1) _ 0#0 (W.frame _ _ _ Z' λb hb o e=>?_) hS2 λh3 tk3 hd hS3=>hR h3 tk3 (λb o hb e=>hd b o hb ?_) hS3⟩
   .rw[s2.2 b (λq:b=S=>hf (by rw[<-q];exact hb))];exact e
   .rw[s2.2 b (λq:b=S=>hb (by rw[q];exact bY))];exact hk b o (λq=>hb (aB _ q)) e
theorem Nn(a:f_){Q₁:f_->g_->Prop}(h:Q₁ 6#1 { s with heap:=s.heap.push (mY #[] 0 (.fresh 0 0 (!w.params.followText "set-order"))) }):pQ 1#7 A (.call (.builtin "set.__new__") ⟨[.type "set",a],[]⟩) (wants Q₁ E) s:=by
 refine Hy ?_;show aD _ A.in1 (do checkBuiltinCall "set.__new__" ⟨[.type "set",a],[]⟩;again (.builtin "set.__new__" ⟨[.type "set",a],[]⟩)) _ _ s;refine ab (dZ (PySem.F.newCall_set_1 a) (aj ⟨plainId_quiet FQ _,dE PySem.F.entry_set_new ?_⟩));rw[fQ FQ _];unfold Builtin.«set.__new__» Builtin.Frozenset.newClass;have X6:=sub_set_self;obtain⟨hp,g,d,tk,os⟩:=s;dsimp only;wp_walk;refine lA (aj ?_);dsimp only;simp only[newObj];exact ab (wpAny_alloc (aj (aj h)))
set_option maxHeartbeats 8000000 in
theorem JT{l:e_}{T:String}{items:Array f_}{nl:Nat}{vs:List Int}{Q:f_->g_->Prop}(hT:T="list"\/T="tuple")(hh:A.handled=b_){od:Option e_}{osl:Array (Option f_)}(Xs:s.heap.get? l=a_ { cls := .type T,dict:=od,data := .seq items nl,slots:=osl })(hi:IntsAre items.toList vs)(hb:2#4+1<scanBound)
  (h :∀ (h':Heap) (tk:Nat),vp prog w h' s.heap.objs.size 19#3 (ddp vs)->HJ [] s.heap h'->Q 6#1 { s with heap:=h',toks:=tk }):aD 1#7 A (call (.type "set") [.ref l]) Q E s:=by
 obtain⟨c,tl,hmro⟩:=PySem.F.called_set.mro;have hmade:=PySem.F.called_set.made;have X6:=PySem.F.called_set.sub;have hvl:items.size=vs.length:=by have:=hi.length;simpa using this
 refine wpAny_call (Hy ?_);show aD _ _ (callAny (.type "set") _) _ _ _;refine aj ⟨Code.quiet_builtin _ 1#1,dE PySem.F.entry_type_call ?_⟩;rw [Around.under_plain (weight_type_call_type "set" [.ref l] []) rfl];have h1:=PySem.F.called_set.notType;have h2:=PySem.F.called_set.canCreate;have hct:=PySem.F.typeCall_set_1 (.ref l)
 repeat (any_goals (first |assumption |wp_step))
 generalize hled:19#3=led at h;refine je (Nn (.ref l) (E:=E) (Q₁:=λobj ZV=>obj=.ref 1#0/\ZV={ s with heap:=s.heap.push (mY #[] 0 (.fresh 0 0 led)) }) (by rw[hled];exact⟨rfl,rfl⟩)) λr ZV hr=>?_;cases r with
 |error e=>exact hr
 | ok fl=>
   cases fl with
   | ret obj=>
     obtain⟨rfl,rfl⟩:=hr;generalize hg:s.heap.push (mY #[] 0 (.fresh 0 0 led))=g;have gz:g.objs.size=1#0+1:=by rw[<-hg];exact bE ..
     have hS:g.get? 1#0=a_ (mY #[] 0 (.fresh 0 0 led)):=by rw[<-hg];exact av _ rfl
     have hk:∀b o,s.heap.get? b=a_ o->g.get? b=a_ o:=λb o e=>by rw[<-hg];exact af _ e
     have hTS:tE { s with heap:=g } 6#1 "set":=⟨_,hS,rfl⟩;have hli:=PySem.F.called_set.init.lookup;have hbi:=PySem.F.called_set.init.bind 6#1
     repeat (any_goals (first |assumption |wp_step))
     refine je (codeAny_call_builtin (R:=wants (λr ZX=>r=.none /\ ∃h' tk,ZX={ s with heap:=h',toks:=tk }/\vp prog w h' s.heap.objs.size led (ddp vs)/\HJ [] s.heap h') E) PySem.F.called_set.init.plain PySem.F.entry_set_init (check_set_init_1 hTS ?_)) λr₂ ZX Yj=>?_
     .have hol':=hk _ _ Xs
      have hls:isSubtype (.type T) (.type "set")=pure d_:=by rcases hT with rfl|rfl<;>first|exact PySem.F.sub_list_set|exact sub_tup_set
      have hlf:isSubtype (.type T) (.type "frozenset")=pure d_:=by rcases hT with rfl|rfl<;>first|exact PySem.F.sub_list_frozenset|exact sub_tup_frz
      have ZN:(jd T==jd "dict")=d_:=by rcases hT with rfl|rfl<;>decide
      unfold Builtin.«set.__init__» noKeywords Builtin.Frozenset.updateFrom;generalize hPI:pyIter=PI;unfold mY at hS
      wp_walk
      subst hPI;have lS: @Lg Nat _ l 1#0:=az Xs;have lI:l≠g.objs.size:=λq=>by have q': @Eq Nat l g.objs.size:=q;lia
      have hf:1#0 ∉ [g.objs.size,l]:=λq=>by
       rcases aH.mp q with q|q
       .have q': @Eq Nat s.heap.objs.size g.objs.size:=q;lia
       .have q': @Eq Nat s.heap.objs.size l:=bx.mp q;lia
      have hv:∀(i:Nat) (v:f_),items[i]?=a_ v->∃t,v=.int (vs.getD i 0) t:=λi v hv=>PyProof.Rows.IntsAre.int_at hi i v (by rw[cq];exact hv);have hh3:A.in1.in1.in1.handled=b_:=by simp[hh]
      have fr:zO prog w led (ddp []) #[] (.fresh 0 0 led):=⟨rfl,kP.fresh led,λe he=>by simp at he,by decide,by exact .refl _⟩;have fin:∀(io:Obj) (h':Heap),HJ [1#0,g.objs.size] (g.push io) h'->HJ [] s.heap h':=λio h' hd b o _ e=>by
       have lb: @Lg Nat _ b 1#0:=az e;refine hd b o (λq=>?_) (af _ (hk b o e));rcases aH.mp q with q |q
       .have q': @Eq Nat b 1#0:=q;lia
       .have q': @Eq Nat b g.objs.size:=bx.mp q;lia
      rcases hT with rfl|rfl
      .have Zb:g.IsList l items:=⟨_,hol',rfl,nl,rfl⟩
       refine pP Zb (ab (kL ?_));have W:=Walks.list (prog:=prog) (w:=w) (A:=A.in1.in1.in1) hh3 g.objs.size l lI items;rw[hvl]at W;exact AK (led:=led) W hf hv hb vs.length 0 _ 0#0 ⟨⟨_,av _ rfl,rfl,rfl⟩,Zb.push _⟩ ⟨_,_,_,af _ hS,fr⟩ λh' tk hd YZ=>aj (aj ⟨rfl,h',tk,rfl,YZ,fin _ h' hd⟩)
      .have Zb:g.IsTuple l items:=⟨_,hol',rfl,nl,rfl⟩
       refine jX Zb (ab (kL ?_));have W:=Walks.tuple (prog:=prog) (w:=w) (A:=A.in1.in1.in1) hh3 g.objs.size l lI items;rw[hvl]at W;exact AK (led:=led) W hf hv hb vs.length 0 _ 0#0 ⟨⟨_,av _ rfl,rfl,rfl⟩,Zb.push _⟩ ⟨_,_,_,af _ hS,fr⟩ λh' tk hd YZ=>aj (aj ⟨rfl,h',tk,rfl,YZ,fin _ h' hd⟩)
     .cases r₂ with
      |error e=>exact Yj
      | ok fl₂=>
        cases fl₂ with
        | ret r=>
          obtain⟨rfl,h',tk,rfl,YZ,hd⟩:=Yj
          repeat (any_goals (first |assumption |wp_step))
          exact h _ _ YZ hd
        |_=>exact Yj.elim
   |_=>exact hr.elim
end
end _L
namespace PySem
namespace GS
theorem BX:Manifest.owners.lookup (String.ofList ['r','o','t','a','r','e','t','i','_','t','e','s'].reverse)=a_ Manifest.sig_set_iterator:=by kernel_rfl
theorem slot_si:Slot "set_iterator" "__next__" "set_iterator.__next__":=
 .of (owner:="set_iterator") (n:="__next__") 18#4 1#1 1#1 1#1 18#1 19#1
theorem entry_si:entryFor table "set_iterator.__next__"=a_ Builtin.«set_iterator.__next__»:=entryFor_of_tree 10#9
theorem args_si(a:f_):argsOk "set_iterator.__next__" ⟨[a],[]⟩:=by
 unfold argsOk;rw [signature?_of (id:="set_iterator.__next__") (n := ['_','_','t','x','e','n','_','_']) (o := ['r','o','t','a','r','e','t','i','_','t','e','s']) 10#9 BX];kernel_rfl
theorem slot_sii:Slot "set_iterator" "__iter__" "set_iterator.__iter__":=
 .of (owner:="set_iterator") (n:="__iter__") 18#4 1#1 1#1 1#1 18#1 19#1
theorem args_sii(a:f_):argsOk "set_iterator.__iter__" ⟨[a],[]⟩:=by
 unfold argsOk;rw [signature?_of (id:="set_iterator.__iter__") (n := ['_','_','r','e','t','i','_','_']) (o := ['r','o','t','a','r','e','t','i','_','t','e','s']) 10#9 BX];kernel_rfl
theorem entry_sii:entryFor table "set_iterator.__iter__"=a_ Builtin.«dict_keyiterator.__iter__»:=
 entryFor_alias (id':="dict_keyiterator.__iter__") 10#9 24#5 (by decide +kernel) 10#9
theorem entry_seti:entryFor table "set.__iter__"=a_ Builtin.«frozenset.__iter__»:=
 entryFor_alias (id':="frozenset.__iter__") 10#9 24#5 (by decide +kernel) 10#9
end GS
end PySem
namespace _L
open PySem PyProof.Rows
def ui(first:f_)(i:Nat)(a:e_)(n ep:Nat):Obj:={ cls := .type "set_iterator",data := .fields #[first,rawInt i,.ref a,rawInt n,rawInt ep] }
section
variable {prog:Program}{w:World}{A:Around}{E:f_->g_->Prop}{s:g_}{I a:e_}{es:Array (Int×f_)}{ep:Nat}{t:SetTable}
variable{i:Nat}
theorem A9{first:f_}{n:Nat}{Q:f_->g_->Prop}(h:s.heap.get? I=a_ (ui first i a n ep))(q:Q (.ref I) s):aD (model prog w) A (pyIter (.ref I)) Q E s:=by
 have hT:s.TypeIs (.ref I) "set_iterator":=⟨_,h,rfl⟩;refine CF hT GS.slot_sii (bG GS.slot_sii hT GS.entry_sii ?_ (GS.args_sii _));show aD _ _ (ret (.ref I)) _ _ s;exact aj ⟨_,rfl,"set_iterator",_,hT,GS.slot_si.lookup,q⟩
def ve(w:World)(a:e_)(ep:Nat)(es:Array (Int×f_)):List (Int×f_):=if w.params.followText "set-order"=c_ then (pickOrder (w.params.setOrder a ep) es).toList else es.toList
theorem oJ:(ve w a ep es).Perm es.toList:=by
 unfold ve
 split
 .exact F3 _ _
 .exact .refl _
theorem Ey{slot i:Nat}{Q:Option (f_×Nat)->g_->Prop}(ho:s.heap.get? a=a_ 12#2)(hf:t.fits 4#4=c_)(hr:qN t.place)(hl:w.params.followText "set-order"=d_->t.led=c_/\(t.plain=c_\/4#4<=1)/\bg t.place slot=i)
  (hq :∀ j,(w.params.followText "set-order"=d_->∀ h:i<t.place.size,j=t.place[i]+1)->Q (((ve w a ep es)[i]?).map fun e=>(e.2,j)) s):aD 1#7 A (setNext a slot i ep) Q E s:=by
 have hz:t.place.size=4#4:=by simp only[SetTable.fits,aE,beq_iff_eq]at hf;exact hf.1
 unfold setNext;refine ab (kK ho rfl hf ?_);dsimp only;unfold setsByText;refine ab (ab (lA (aj ?_)));cases hb:w.params.followText "set-order" with
 | true=>
   have hb':(model prog w).w.params.followText "set-order"=c_:=hb;simp only[hb',if_true,bne_self_eq_false,eQ,if_false];unfold setWalk;refine ab (ab (kK ho rfl hf ?_));(try dsimp only);unfold setsByText;refine ab (ab (lA (aj ?_)));simp only[hb',if_true];refine ab (lA (aj (aj ?_)));have:=hq slot (λz=>by rw[hb]at z;cases z);unfold ve at this;rw[if_pos hb,cq]at this;exact this
 | false=>
   have hb':(model prog w).w.params.followText "set-order"=d_:=hb;obtain⟨h1,h2,h3⟩:=hl hb;simp only[hb',eQ,if_false];refine wpAny_ite_split (λz=>?_) (λ_=>?_)
   .have z':(!t.plain&&decide (4#4>1))=c_:=z
    rw[aE]at z';rcases h2 with h2|h2
    .rw[h2]at z';exact absurd z'.1 0#2
    .have:=of_decide_eq_true z'.2;lia
   .refine ab ?_;show aD _ _ (if (!t.led && !es.isEmpty)=c_ then unsupported "set:maker-not-led" else pure ()) _ _ s;rw [h1,if_neg 0#3];refine aj ?_;(try dsimp only);rw [h3]
    have YX:(ve w a ep es)[i]?=es[i]? := by unfold ve;rw[if_neg (by rw[hb];decide),cq]
    rw[YX]at hq;by_cases hi:i<4#4
    .rw[bX hi,bX 0#0]
     have:=hq (t.place[i]+1) (λ_ _=>rfl);rw[bX hi]at this;exact aj this
    .rw[Hz 0#0]
     have:=hq 0 (λ_ h=>by lia);rw[Hz 0#0]at this;exact aj this
variable{Q:Option f_->g_->Prop}
theorem DR{slot:Nat}{v:f_}(hI:s.heap.get? I=a_ (ui (rawInt slot) i a es.size ep))(ho:s.heap.get? a=a_ 12#2)(hf:t.fits 4#4=c_)(hr:qN t.place)
  (hl:w.params.followText "set-order"=d_->t.led=c_/\(t.plain=c_\/4#4<=1)/\bg t.place slot=i) (hv:((ve w a ep es)[i]?).map (·.2)=a_ v)
  (hQ :∀ (h':Heap) (YF:Nat),h'.get? I=a_ (ui (rawInt YF) (i+1) a es.size ep)->(w.params.followText "set-order"=d_->bg t.place YF=i+1)->eT I s.heap h'->Q (a_ v) { s with heap:=h' }):aD 1#7 A (pyNext (.ref I)) Q E s:=by
 have hT:s.TypeIs (.ref I) "set_iterator":=⟨_,hI,rfl⟩;have hz:t.place.size=4#4:=by simp only[SetTable.fits,aE,beq_iff_eq]at hf;exact hf.1
 unfold pyNext;refine ab 20#4;unfold Builtin.«set_iterator.__next__»;refine ab (dZ (a:=(bZ I,[])) rfl ?_);(try dsimp only);refine ab (xh hI rfl ?_);show aD _ _ (setEntries a >>= _) _ _ s;refine ab (jy ho rfl hf ?_);rw[if_neg 0#3];show aD _ _ (setNext a ((slot:Int)).toNat ((i:Int)).toNat ((ep:Int)).toNat >>= _) _ _ s;rw[ck,ck,ck];refine ab (Ey ho hf hr hl λj hj=>?_);obtain⟨e,he,rfl⟩:=di.mp hv;rw[he];have hi:i<es.size:=by have:=(ag.mp he).1;rw[(oJ (w:=w) (a:=a) (ep:=ep) (es:=es)).length_eq]at this;simpa using this
 show aD _ _ (setField (.ref I) 0 (rawInt j) >>= _) _ _ s;refine ab (cZ hI 0#3 λh1 g1 s1=>?_);refine ab (cZ g1 0#3 λh2 g2 s2=>?_);refine aj ⟨_,rfl,aj (hQ h2 j ?_ (λhb=>?_) (s1.trans s2))⟩
 .exact g2
 .rw[hj hb 0#0];exact Dd hr _
theorem GC{slot:Nat}(hh:A.handled=b_)(hI:s.heap.get? I=a_ (ui (rawInt slot) es.size a es.size ep))(ho:s.heap.get? a=a_ 12#2)(hf:t.fits 4#4=c_)(hr:qN t.place)
  (hl:w.params.followText "set-order"=d_->t.led=c_/\(t.plain=c_\/4#4<=1)/\bg t.place slot=4#4) (hQ :∀ h',jw I s.heap h'->Q b_ { s with heap:=h' }):aD 1#7 A (pyNext (.ref I)) Q E s:=by
 have hT:s.TypeIs (.ref I) "set_iterator":=⟨_,hI,rfl⟩;unfold pyNext;refine ab 20#4;unfold Builtin.«set_iterator.__next__»;refine ab (dZ (a:=(bZ I,[])) rfl ?_);(try dsimp only);refine ab (xh hI rfl ?_);show aD _ _ (setEntries a >>= _) _ _ s;refine ab (jy ho rfl hf ?_);rw[if_neg 0#3];show aD _ _ (setNext a ((slot:Int)).toNat ((4#4:Int)).toNat ((ep:Int)).toNat >>= _) _ _ s;rw[ck,ck,ck];refine ab (Ey ho hf hr hl λj hj=>?_);rw[fJ (by rw[(oJ (w:=w) (a:=a) (ep:=ep) (es:=es)).length_eq];simp)];show aD _ _ (setField (.ref I) 2 .none >>= _) _ _ s;refine ab (cZ hI 0#3 λh1 g1 s1=>?_);show aD _ _ 21#7 _ _ _;refine ab ?_;simp only [newExc,newTuple];refine ab (bJ ?_ (by size_fits));refine ab (m:=firstArgMember _ _) (dZ (a:=cJ) 26#0 ?_);refine bJ ?_ (by size_fits);simp only [raiseNew];refine ab (yY ?_)
 first |rw[show A.in1.handled=b_ from hh] |rw[hh]
 refine ab (aj (FN ?_));refine ab 23#9;exact aj (hQ _ ((s1.extBut.push _).push _))
def tupI(idx:List Nat):Obj:={ cls := .type "tuple",data := .seq (idx.map fun (k:Nat)=>rawInt k).toArray }
variable{F:e_}{idx:List Nat}
theorem Dr{k:Nat}{e:Int×f_}(hI:s.heap.get? I=a_ (ui (.ref F) i a es.size ep))(ho:s.heap.get? a=a_ 12#2)(hF:s.heap.get? F=a_ (tupI idx))(hf:t.fits 4#4=c_)(hk:idx[i]?=a_ k)(he:es[k]?=a_ e)
  (hQ:∀h',h'.get? I=a_ (ui (.ref F) (i+1) a es.size ep)->eT I s.heap h'->Q (a_ e.2) { s with heap:=h' }):aD 1#7 A (pyNext (.ref I)) Q E s:=by
 have hT:s.TypeIs (.ref I) "set_iterator":=⟨_,hI,rfl⟩;unfold pyNext;refine ab 20#4;unfold Builtin.«set_iterator.__next__»;refine ab (dZ (a:=(bZ I,[])) rfl ?_);(try dsimp only);refine ab (xh hI rfl ?_);show aD _ _ (setEntries a >>= _) _ _ s;refine ab (jy ho rfl hf ?_);rw[if_neg 0#3];show aD _ _ (seqItems? (.ref F) >>= _) _ _ s;refine ab (fq hF rfl ?_);(try dsimp only);rw[ck];have h1:((idx.map λ(k:Nat)=>rawInt k).toArray)[i]?=a_ (rawInt k):=by simp[hk]
 rw[h1];show aD _ _ (setNextDrawn a ((k:Int)).toNat ((ep:Int)).toNat >>= _) _ _ s;rw[ck,ck];unfold setNextDrawn;refine ab (ab (kK ho rfl hf ?_));dsimp only;rw[if_neg 0#3,he];exact aj (ab (cZ hI 0#3 λh2 g2 s2=>(aj ⟨_,rfl,aj (hQ h2 g2 s2)⟩)))
theorem Gp(hh:A.handled=b_)(hI:s.heap.get? I=a_ (ui (.ref F) idx.length a es.size ep))(ho:s.heap.get? a=a_ 12#2)(hF:s.heap.get? F=a_ (tupI idx))(hf:t.fits 4#4=c_)
  (hQ:∀h',jw I s.heap h'->Q b_ { s with heap:=h' }):aD 1#7 A (pyNext (.ref I)) Q E s:=by
 have hT:s.TypeIs (.ref I) "set_iterator":=⟨_,hI,rfl⟩;unfold pyNext;refine ab 20#4;unfold Builtin.«set_iterator.__next__»;refine ab (dZ (a:=(bZ I,[])) rfl ?_);(try dsimp only);refine ab (xh hI rfl ?_);show aD _ _ (setEntries a >>= _) _ _ s;refine ab (jy ho rfl hf ?_);rw[if_neg 0#3];show aD _ _ (seqItems? (.ref F) >>= _) _ _ s;refine ab (fq hF rfl ?_);(try dsimp only);rw[ck];have h1:((idx.map λ(k:Nat)=>rawInt k).toArray)[idx.length]?=b_:=by simp
 rw[h1];show aD _ _ (setField (.ref I) 0 (rawInt 0) >>= _) _ _ s;refine ab (cZ hI 0#3 λh2 g2 s2=>?_);refine ab (cZ g2 0#3 λh3 g3 s3=>?_);show aD _ _ 21#7 _ _ _;refine ab ?_;simp only [newExc,newTuple];refine ab (bJ ?_ (by size_fits));refine ab (m:=firstArgMember _ _) (dZ (a:=cJ) 26#0 ?_);refine bJ ?_ (by size_fits);simp only [raiseNew];refine ab (yY ?_)
 first |rw[show A.in1.handled=b_ from hh] |rw[hh]
 refine ab (aj (FN ?_));refine ab 23#9;exact aj (hQ _ (((s2.extBut.trans s3.extBut).push _).push _))
end
section
variable {prog:Program}{w:World}{A:Around}{E:f_->g_->Prop}{s:g_}{I a:e_}{es:Array (Int×f_)}{ep:Nat}{t:SetTable}
theorem UC(hh:A.handled=b_)(ZN:a≠I)(hf:t.fits 4#4=c_)(hr:qN t.place)(hl:w.params.followText "set-order"=d_->t.led=c_/\(t.plain=c_\/4#4<=1)) :
  Walks prog w A I [I,a] [I] es.size (fun i v=>((ve w a ep es).map (·.2))[i]?=a_ v) (fun i h=>∃ slot:Nat,h.get? I=a_ (ui (rawInt slot) i a es.size ep)/\h.get? a=a_ 12#2/\(w.params.followText "set-order"=d_->bg t.place slot=i)) where
 sub:=λb hb=>by simp at hb;simp[hb]
 frame:=λ_ _ _ ⟨slot,g1,g2,g3⟩ hk=>⟨slot,hk I 0#3 _ g1,hk a 0#3 _ g2,g3⟩
 item:=λi s Q E hi ⟨slot,g1,g2,g3⟩ hQ=>by
  have YY:i<(ve w a ep es).length:=by rw[oJ.length_eq];simpa using hi
  refine DR (v:=(ve w a ep es)[i].2) g1 g2 hf hr (λhb=>⟨(hl hb).1,(hl hb).2,g3 hb⟩) (by rw[aC YY];rfl) λh' YF q1 q2 q3=>?_;exact hQ _ h' s.toks (by rw[a9,aC YY];rfl) ⟨YF,q1,(q3.2 a ZN).trans g2,q2⟩ λb o hb e=>(q3.2 b (λz=>hb (by simp[z]))).trans e
 done:=λs Q E ⟨slot,g1,g2,g3⟩ hQ=>GC hh g1 g2 hf hr (λhb=>⟨(hl hb).1,(hl hb).2,g3 hb⟩) λh' he'=>hQ h' s.toks λb o hb e=>he' b o (λz=>hb (by simp[z])) e
 self:=λ_ _ _ _ ⟨_,g1,_,_⟩ hQ=>A9 g1 hQ
theorem zP:∀(l:List Nat),(∀k∈l,k<4#4)->(l.filterMap λk=>(es[k]?).map (·.2))=l.map λk=>(es[k]?.getD default).2
 |[],_=>rfl
 | k::l,h=>by
   rw[List.filterMap_cons_some (b:=(es[k]?.getD default).2) (by simp[(h k 0#3)]),dy,zP l λj hj=>h j (aB _ hj)]
variable{idx:List Nat}
theorem Ib{n:Nat}(hp:idx.Perm (aq n)):idx.length=n:=by simpa using hp.length_eq
theorem Vp{F:e_}(hh:A.handled=b_)(ZN:a≠I)(hnF:F≠I)(hf:t.fits 4#4=c_)(hp:idx.Perm (aq 4#4)):
  Walks prog w A I [I,a,F] [I] es.size (λi v=>(idx.filterMap λk=>(es[k]?).map (·.2))[i]?=a_ v) (λi h=>h.get? I=a_ (ui (.ref F) i a es.size ep)/\h.get? a=a_ 12#2/\h.get? F=a_ (tupI idx)) where
 sub:=λb hb=>by simp at hb;simp[hb]
 frame:=λ_ _ _ st hk=>⟨hk I 0#3 _ st.1,hk a 0#3 _ st.2.1,hk F 0#3 _ st.2.2⟩
 item:=λi s Q E hi st hQ=>by
  have hl:idx.length=es.size:=by simpa using hp.length_eq
  have XY:i<idx.length:=by lia
  have hk:idx[i]<4#4:=aA.mp (hp.mem_iff.mp (bQ XY));refine Dr (k:=idx[i]) (e:=es[idx[i]]) st.1 st.2.1 st.2.2 hf (aC XY) (bX hk) λh' q1 q3=>?_;refine hQ _ h' s.toks ?_ ⟨q1,(q3.2 a ZN).trans st.2.1,(q3.2 F hnF).trans st.2.2⟩ λb o hb e=>(q3.2 b (λz=>hb (by simp[z]))).trans e;have e:(idx.filterMap λk=>(es[k]?).map (·.2))=idx.map λk=>(es[k]?.getD default).2:=zP idx λk YM=>aA.mp (hp.mem_iff.mp YM);rw[e,a9,aC XY];simp[hk]
 done:=λs Q E st hQ=>Gp hh ((Ib hp).symm▸st.1) st.2.1 st.2.2 hf λh' he'=>hQ h' s.toks λb o hb e=>he' b o (λz=>hb (by simp[z])) e
 self:=λ_ _ _ _ st hQ=>A9 st.1 hQ
theorem KU{ns:List Int}{Q:f_->g_->Prop}(ho:s.heap.get? a=a_ 12#2)(he:zO prog w 19#3 ns es t)(hz:4#4<=sizeLine)
  (hQ:∀(I:e_) (fp:List e_) (St:Nat->Heap->Prop) (L:List f_) h' d,(∀A':Around,A'.handled=b_->Walks prog w A' I fp [I] es.size (λi v=>L[i]?=a_ v) St)->St 0 h'->(∀b∈fp,b<14#3)->L.Perm (es.toList.map (·.2))->20#9->1#0<=I->(∀b∈fp,b=a\/1#0<=b)->Q (.ref I) { s with heap:=h',drawn:=d }):
  aD 1#7 A (pyIter (.ref a)) Q E s:=by
 have hT:s.TypeIs (.ref a) "set":=⟨_,ho,rfl⟩;have la: @Lg Nat _ a 1#0:=az ho;refine CF hT FR (bG FR hT GS.entry_seti ?_ (PySem.F.args_set_iter_1 _));unfold Builtin.«frozenset.__iter__»;refine ab (dZ (a:=a) rfl ?_);unfold Builtin.Frozenset.sizeOf;refine ab (ab (jy ho rfl he.fit (aj ?_)));unfold setDrawn;refine ab (ab (kK ho rfl he.fit ?_));dsimp only;unfold setsByText;refine ab (ab (lA (aj (aj ?_))));have fin:∀(first:f_) (h1:Heap) d (fp:List e_) (St:Nat->Heap->Prop) (L:List f_),(∀b o,s.heap.get? b=a_ o->h1.get? b=a_ o) -> @LE.le Nat _ s.heap.objs.size h1.objs.size->(∀A':Around,A'.handled=b_->Walks prog w A' h1.objs.size fp [h1.objs.size] es.size (λi v=>L[i]?=a_ v) St)->St 0 (h1.push (ui first 0 a es.size ep)) ->
   (∀ b∈fp,b=h1.objs.size\/(@Lg Nat _ b h1.objs.size/\(b=a \/ @LE.le Nat _ s.heap.objs.size b)))->L.Perm (es.toList.map (·.2))->aD 1#7 A.in1 (setEpoch a >>= fun e=>newFields "set_iterator" [first,rawInt 0,.ref a,rawInt 4#4,rawInt e] >>= fun v=>ret v) (fun f s'=>∃ v,f=.done (.ret v) /\ ∃ T' r,s'.TypeIs v T'/\typeLookup (.type T') (fV "__next__")=pure (a_ r)/\Q v s') E { s with heap:=h1,drawn:=d }:=by
  intro first h1 d fp St L hk hle W st XR hL
  refine ab (wpAny_setEpoch_of (s:={ s with heap:=h1,drawn:=d }) (hk _ _ ho) rfl he.fit ?_);unfold newFields;refine ab (bJ ?_ (by size_fits));have sz:(h1.push (ui first 0 a es.size ep)).objs.size=h1.objs.size+1:=bE ..;refine aj ⟨_,rfl,"set_iterator",_,⟨_,av _ rfl,rfl⟩,GS.slot_si.lookup,hQ h1.objs.size fp St L _ d W st (fun b hb=>?_) hL (fun b o e=>af _ (hk b o e)) hle fun b hb=>?_⟩
  .show @Lg Nat _ b (h1.push (ui first 0 a es.size ep)).objs.size
   rw[sz];rcases XR b hb with z|z
   .rw[z];exact bV _
   .exact cU z.1
  .rcases XR b hb with z|z
   .rw[z];exact .inr hle
   .exact z.2
 refine wpAny_ite_split (λz=>?_) (λz=>?_)
 .have z':(!w.params.followText "set-order"&&(!t.plain&&decide (4#4>1)))=c_:=z
  refine ab (Cv _ _ _ 0#3 λidx d hp=>?_);have hl:idx.length=es.size:=by simpa using hp.length_eq
  refine ab (Lf ?_ (by rw[ar,hl];exact hz));have sz:(s.heap.push (tupI idx)).objs.size=1#0+1:=bE ..;refine fin 6#1 (s.heap.push (tupI idx)) d [(s.heap.push (tupI idx)).objs.size,a,1#0] _ (idx.filterMap λk=>(es[k]?).map (·.2)) (λb o e=>af _ e) (by rw[sz];exact fT _) (λA' hh=>Vp (ep:=ep) (t:=t) hh (aJ (by rw[sz];exact cU la)) (aJ (by rw[sz];exact bV _)) he.fit hp) ⟨av _ rfl,af _ (af _ ho),af _ (av _ rfl)⟩ (λb hb=>?_) ?_
  .rcases aH.mp hb with q|hb
   .exact .inl q
   .rcases aH.mp hb with q|hb
    .exact .inr ⟨by rw[q,sz];exact cU la,.inl q⟩
    .have q:=bx.mp hb
     exact .inr ⟨by rw[q,sz];exact bV _,.inr (by rw[q];exact ak _)⟩
  .rw[zP idx λk hk=>aA.mp (hp.mem_iff.mp hk)]
   refine(hp.map _).trans ?_;rw[<-zP (aq 4#4) λk hk=>aA.mp hk,<-List.map_filterMap,filterMap_getElem?_range]
 .have z' : ¬ (!w.params.followText "set-order"&&(!t.plain&&decide (4#4>1)))=c_:=z
  refine ab (aj ?_);refine fin (rawInt (0:Nat)) s.heap s.drawn [1#0,a] _ ((ve w a ep es).map (·.2)) (λb o e=>e) 2#1 (λA' hh=>UC (ep:=ep) hh (aJ la) he.fit he.tab.r λhb=>?_) ⟨0,av _ rfl,af _ ho,λ_=>Dl he.tab.r⟩ (λb hb=>?_) (oJ.map _)
  .refine⟨by rw[he.tab.l,hb];rfl,?_⟩
   rw[hb]at z';by_cases p:t.plain=c_
   .exact .inl p
   .right
    rw[Bool.not_eq_true]at p;rw[p]at z';simpa using z'
  .rcases aH.mp hb with q|hb
   .exact .inl q
   .have q:=bx.mp hb
    exact .inr ⟨by rw[q];exact la,.inl q⟩
end
end _L
namespace _L
open PySem PySem.Spec PyProof.Rows
section
variable {κ:Type} [DecidableEq κ]
def n8(kvs:List (κ×V))(k:κ):Option V:=(kvs.find? λkv=>decide (kv.1=k)).map (·.2)
def putK(kvs:List (κ×V))(k:κ)(v:V):List (κ×V):=
 if 19#5=c_ then kvs.map (λkv=>if kv.1=k then(kv.1,v) else kv) else kvs++[(k,v)]
theorem nW{p:κ×V}{r:List (κ×V)}{k:κ}(e:p.1=k):n8 (p::r) k=a_ p.2:=by simp[n8,e]
theorem oo{p:κ×V}{r:List (κ×V)}{k:κ}(e: ¬p.1=k):n8 (p::r) k=n8 r k:=by simp[n8,e]
theorem Cj(k:κ):∀kvs:List (κ×V),19#5=(n8 kvs k).isSome
 |[]=>rfl
 | p::r=>by
   rw[nc];by_cases e:p.1=k
   .simp[nW e,decide_eq_true e]
   .rw[oo e,decide_eq_false e];exact Cj k r
theorem nv(kvs:List (κ×V))(k:κ)(v:V):(putK kvs k v).length<=4#1+1:=by
 unfold putK
 split<;>simp_all
theorem vc.isSome_eq{o:Option V}{u:Option f_}(r:vc o u):o.isSome=u.isSome:=by
 cases o with
 | none=>cases u with
   |none=>rfl
   |some _=>exact(r).elim
 | some _=>cases u with
   |none=>exact(r).elim
   |some _=>rfl
theorem KV.val{kvs:List (κ×V)}{vs:List (κ×f_)}(r:KV kvs vs)(k:κ):vc (n8 kvs k) (valueAt vs k):=by
 induction r with
 |nil=>exact gK
 | @cons p q ps qs h t ih=>
   obtain⟨h1,h2⟩:=h;by_cases e:p.1=k
   .have e':=h1.symm.trans e
    have b:valueAt (q::qs) k=a_ q.2:=by simp[valueAt,e']
    rw[nW e,b];exact h2
   .have e': ¬q.1=k:=λz=>e (h1.trans z)
    have b:valueAt (q::qs) k=valueAt qs k:=by simp[valueAt,e']
    rw[oo e,b];omega
theorem KV.any{kvs:List (κ×V)}{vs:List (κ×f_)}(r:KV kvs vs)(k:κ):19#5=vs.any λkv=>decide (kv.1=k):=by
 induction r<;>simp_all
variable{u:f_}
theorem KV.repl{kvs:List (κ×V)}{vs:List (κ×f_)}(r:KV kvs vs)(k:κ){y:V}(ry:RelV y u):
  KV (kvs.map λkv=>if kv.1=k then(kv.1,y) else kv) (vs.map λkv=>if kv.1=k then(kv.1,u) else kv):=by
 induction r with
 |nil=>exact .nil
 | @cons p q ps qs h t ih=>
   refine .cons ?_ ih
   grind
theorem KV.put{kvs:List (κ×V)}{vs:List (κ×f_)}(r:KV kvs vs)(k:κ){y:V}(ry:RelV y u):KV (putK kvs k y) (stored vs k u):=by
 unfold putK stored;rw[r.any k];by_cases e:(vs.any λkv=>decide (kv.1=k))=c_
 .rw[if_pos e,if_pos e];exact r.repl k ry
 .rw[if_neg e,if_neg e];exact Paired.snoc r ⟨rfl,ry⟩
theorem KV.length{kvs:List (κ×V)}{vs:List (κ×f_)}(r:KV kvs vs):4#1=2#4:=CM r
end
variable{u:f_}{P:Program}{w:World}
theorem yg{k:Key}(r:RelV (kV k) u):(fb P w).is k u=c_:=by
 cases k with
 |inl i=>obtain⟨t,e⟩:=(r);subst e;exact AQ P w i t
 |inr x=>obtain⟨t,e⟩:=(r);subst e;exact BY P w x t
theorem yM{P:Program}{w:World}:∀{ks:List Key}{us:List f_},cX (ks.map kV) us->ItemsAre (fb P w) ks us
 |[],_,r=>by cases r;exact .nil
 | k::ks,_,r=>by
   cases r with
   |cons h t=>exact .cons (yg h) (yM t)
abbrev KT(H:Hp):List (List Key×V)->List (List Key×e_×f_)->Prop:=Paired λp q=>p.1=q.1/\H q.2.1=a_ (.tup (p.1.map kV))/\RelV p.2 q.2.2
variable{H:Hp}{kvs:List (List Key×V)}{xs:List (List Key×e_×f_)}
theorem KT.val(r:KT H kvs xs)(k:List Key):vc (n8 kvs k) ((atKey xs k).map (·.2)):=by
 induction r with
 |nil=>exact gK
 | @cons p q ps qs h t ih=>
   obtain⟨h1,_,h2⟩:=h;by_cases e:p.1=k
   .have e':=h1.symm.trans e
    have b:atKey (q::qs) k=a_ q.2:=by simp[atKey,e']
    rw[nW e,b];exact h2
   .have e': ¬q.1=k:=λz=>e (h1.trans z)
    have b:atKey (q::qs) k=atKey qs k:=by simp[atKey,e']
    rw[oo e,b];omega
variable{y:V}
theorem KT.repl(r:KT H kvs xs)(k:List Key)(ry:RelV y u):
  KT H (kvs.map λkv=>if kv.1=k then(kv.1,y) else kv) (xs.map (putAt k u)):=by
 induction r with
 |nil=>exact .nil
 | @cons p q ps qs h t ih=>
   refine .cons ?_ ih;unfold putAt;by_cases e:p.1=k<;>simp_all
variable{b:e_}
theorem KT.put(r:KT H kvs xs)(k:List Key)(hb:H b=a_ (.tup (k.map kV)))(ry:RelV y u):
  KT H (putK kvs k y) (storedH xs k b u):=by
 have e:19#5=(atKey xs k).isSome:=by
  rw[Cj,(r.val k).isSome_eq,uT]
 unfold putK storedH;rw[e];by_cases q:(atKey xs k).isSome=c_
 .rw[if_pos q,if_pos q];exact r.repl k ry
 .rw[if_neg q,if_neg q];exact Paired.snoc r ⟨rfl,hb,ry⟩
variable{H':Hp}
theorem KT.keeps(r:KT H kvs xs)(ht:∀b ys,H b=a_ (.tup ys)->H' b=a_ (.tup ys)):KT H' kvs xs:=
 Paired.mapP r λ_ _ z=>⟨z.1,ht _ _ z.2.1,z.2.2⟩
section
variable {P:Program}{w:World}{H:Hp}{h:Heap}{a:e_}
theorem OE{u:HO}(ok:HOk P w H h)(e:Rd H a u):ix P w H h a u:=e.ok ok
theorem yk{kvs:List (Key×V)}(ok:HOk P w H h)(e:Rd H a (.dK kvs)):4#1<=sizeLine/\(a==sysModules)=d_ /\ ∃vs,KV kvs vs/\h.DictOf (fb P w) a vs:=
 OE ok e
theorem Ox{kvs:List (Key×V)}(ok:HOk P w H h)(e:H a=a_ (.dK kvs)):4#1<=sizeLine/\(a==sysModules)=d_ /\ ∃vs,KV kvs vs/\h.DictOf (fb P w) a vs:=yk ok (.inl e)
theorem vt{ks:List Key}(ok:HOk P w H h)(e:H a=a_ (.tup (ks.map kV))):(tupleKind (fb P w)).is h ks a:=by
 obtain⟨_,ZY,r,⟨o,h1,h2,n,h3⟩,_⟩:=(ok a _ e);exact⟨o,_,n,h1,h2,h3,by simpa using yM r⟩
theorem Ce(ok:HOk P w H h)(e:Rd H a (.dT kvs)):4#1<=sizeLine/\(a==sysModules)=d_ /\
  ∃xs,KT H kvs xs/\h.DictOfH (tupleKind (fb P w)) a xs:=by
 obtain⟨z,y,xs,r,o,es,ep,h1,h2,h3,h4,h5⟩:=(OE ok e);refine⟨z,y,xs,r,o,es,ep,h1,h2,h3,h4,λx hx=>?_,h5⟩;have all:∀{l:List _}{m:List _},KT H l m->∀x∈m,(tupleKind (fb P w)).is h x.1 x.2.1:=by
  intro l m q
  induction q with
  |nil=>grind
  | @cons p q ps qs hq t ih=>
    intro x hx;rcases aH.mp hx with e|hx
    .exact vt ok 5#6
    .exact ih x hx
 exact all r x hx
theorem Tr(ok:HOk P w H h)(e:H a=a_ (.dT kvs)):4#1<=sizeLine/\(a==sysModules)=d_ /\
  ∃xs,KT H kvs xs/\h.DictOfH (tupleKind (fb P w)) a xs:=Ce ok (.inl e)
end
def xO(H:Hp)(a:e_)(y:V)(r:Option V):Prop:=
 (∃kvs k,Rd H a (.dK kvs)/\y=kV k/\r=n8 kvs k) \/ ∃kvs k b,Rd H a (.dT kvs)/\y=.ref b/\H b=a_ (.tup (k.map kV))/\r=n8 kvs k
def GZ(H:Hp)(a:e_)(y v:V)(H':Hp):Prop:=
 (∃kvs k,H a=a_ (.dK kvs)/\y=kV k/\4#1<sizeLine/\H'=upd H a (.dK (putK kvs k v))) \/
 ∃kvs k b,H a=a_ (.dT kvs)/\y=.ref b/\H b=a_ (.tup (k.map kV))/\4#1<sizeLine/\H'=upd H a (.dT (putK kvs k v))
theorem xO.k{H:Hp}{a:e_}{kvs:List (Key×V)}{k:Key}(e:H a=a_ (.dK kvs)):xO H a (kV k) (n8 kvs k):= .inl ⟨kvs,k,.inl e,rfl,rfl⟩
variable{a:e_}
theorem xO.t{k:List Key}(e:H a=a_ (.dT kvs))(eb:H b=a_ (.tup (k.map kV))):xO H a (.ref b) (n8 kvs k):= .inr ⟨kvs,k,b,.inl e,rfl,eb,rfl⟩
theorem GZ.k{H:Hp}{a:e_}{kvs:List (Key×V)}{k:Key}{v:V}(e:H a=a_ (.dK kvs))(hl:4#1<sizeLine):GZ H a (kV k) v (upd H a (.dK (putK kvs k v))):= .inl ⟨kvs,k,e,rfl,hl,rfl⟩
theorem GZ.t{k:List Key}{v:V}(e:H a=a_ (.dT kvs))(eb:H b=a_ (.tup (k.map kV)))(hl:4#1<sizeLine):
  GZ H a (.ref b) v (upd H a (.dT (putK kvs k v))):= .inr ⟨kvs,k,b,e,rfl,eb,hl,rfl⟩
section
variable {X:Cx}{pins:List (e_×Obj)}{σ:St}{H:Hp}{s:g_}{a:e_}{y v:V}{u r:f_}{o:Option V}{A:Around}{E:f_->g_->Prop}
theorem Inv.big(I:Inv X pins σ H s):sysModules<1#0:=aY 0#2 ((I.mod.glob.keeps I.bk).lt)
variable{Q:f_->g_->Prop}
theorem GV(hu:A.units+1<cLine)(I:Inv X pins σ H s)(g:xO H a y (a_ v))(ry:RelV y u)(h:∀w' s',Inv X pins σ H s'->RelV v w'->Q w' s'):
  aD 1#5 A (getItem (.ref a) u) Q E s:=by
 rcases g with⟨kvs,k,e,ey,l⟩|⟨kvs,k,b,e,ey,eb,l⟩
 .subst ey
  obtain⟨z,hd,vs,rel,dd⟩:=yk I.hok e;obtain⟨w',hw,Zd⟩:=vc.some_of (by rw[l];exact rel.val k);exact wpAny_getItem_of (yg ry) dd.mapOf hw (h w' _ (I.tok _) Zd)
 .subst ey
  cases (ry);obtain⟨z,hd,xs,rel,dd⟩:=Ce I.hok e;obtain⟨w',hw,Zd⟩:=vc.some_of (by rw[l];exact rel.val k);obtain⟨p,hp,WW⟩:=di.mp hw;refine wpAny_getItem_heap (tupleKind_room_in1 hu) (vt I.hok eb) dd hp ?_;rw[WW];exact h w' _ (I.tok _) Zd
theorem Wv(hu:A.units+1<cLine)(I:Inv X pins σ H s)(g:xO H a y o)(ry:RelV y u)(h:∀s',Inv X pins σ H s'->Q (.bool o.isSome) s'):
  aD 1#5 A (compareOp .In u (.ref a)) Q E s:=by
 rcases g with⟨kvs,k,e,ey,l⟩|⟨kvs,k,b,e,ey,eb,l⟩
 .subst ey
  obtain⟨z,hd,vs,rel,dd⟩:=yk I.hok e;refine wpAny_in_of (yg ry) hd dd.mapOf ?_;rw[<-(rel.val k).isSome_eq,<-l];exact h _ (I.tok _)
 .subst ey
  cases (ry);obtain⟨z,hd,xs,rel,dd⟩:=Ce I.hok e;refine wpAny_in_heap (tupleKind_room_in1 hu) (vt I.hok eb) hd dd ?_;have q:=(rel.val k).isSome_eq;rw[uT]at q;rw[<-q,<-l];exact h _ (I.tok _)
theorem Nx(hu:A.units+1<cLine)(I:Inv X pins σ H s)(g:xO H a y o)(ry:RelV y u)(h:∀s',Inv X pins σ H s'->Q (.bool (!o.isSome)) s'):
  aD 1#5 A (compareOp .NotIn u (.ref a)) Q E s:=by
 rcases g with⟨kvs,k,e,ey,l⟩|⟨kvs,k,b,e,ey,eb,l⟩
 .subst ey
  obtain⟨z,hd,vs,rel,dd⟩:=yk I.hok e;refine wpAny_notIn_of (yg ry) hd dd.mapOf ?_;rw[<-(rel.val k).isSome_eq,<-l];exact h _ (I.tok _)
 .subst ey
  cases (ry);obtain⟨z,hd,xs,rel,dd⟩:=Ce I.hok e;refine wpAny_notIn_heap (tupleKind_room_in1 hu) (vt I.hok eb) hd dd ?_;have q:=(rel.val k).isSome_eq;rw[uT]at q;rw[<-q,<-l];exact h _ (I.tok _)
variable{h':Heap}
theorem Al{t':Nat}{ob:HO}(I:Inv X pins σ H s)(mu:Mut (H a))(hs:eT a s.heap h')(he:∃q,h'.get? a=a_ q)(new:ix X.prog X.w (upd H a ob) h' a ob):
  Inv X pins σ (upd H a ob) { s with heap:=h',toks:=t' }:=
 I.write mu 5#1 (λb q hb z=>(hs.2 b hb).trans z) he new
theorem Kq{kvs:List (Key×V)}{vs:List (Key×f_)}(z:4#1<=sizeLine)(hd:(a==sysModules)=d_)(rel:KV kvs vs)(dd:h'.DictOf (fb P w) a vs):
  ix P w H' h' a (.dK kvs):=⟨z,hd,vs,rel,dd⟩
theorem GW{Q:Unit->g_->Prop}(hu:A.units+1<cLine)(I:Inv X pins σ H s)(g:GZ H a y v H')(ry:RelV y u)(rv:RelV v r)(h:∀s',Inv X pins σ H' s'->Q () s'):
  aD 1#5 A (setItem (.ref a) u r) Q E s:=by
 rcases g with⟨kvs,k,e,ey,l,eH⟩|⟨kvs,k,b,e,ey,eb,l,eH⟩
 .subst ey eH
  obtain⟨z,hd,vs,rel,dd⟩:=Ox I.hok e;have hz:2#4<=sizeLine:=by rw[<-rel.length];omega
  exact wpAny_setItem_pairs (yg ry) dd λh' W' hs=>h _ (Al I (by rw[e];exact gK) hs (let ⟨q,_,_,hq,_⟩:=W';⟨q,hq⟩) (Kq (by have:=nv kvs k v;exact aK 2#3 0#4) hd (rel.put k rv) W'))
 .subst ey eH
  cases (ry);obtain⟨z,hd,xs,rel,dd⟩:=Tr I.hok e;have hz:1#4<=sizeLine:=by rw[<-CM rel];omega
  refine wpAny_setItem_heap (tupleKind_room_in1 hu) (vt I.hok eb) dd λh' W' hs=>h _ ?_;obtain⟨q,es,ep,hq,h2,h3,h4,_,h5⟩:=W';refine Al I (by rw[e];exact gK) hs ⟨q,hq⟩ ⟨(by have:=nv kvs k v;exact aK 2#3 0#4),hd,_,(rel.put k eb rv).keeps λc ys ec=>?_,q,es,ep,hq,h2,h3,h4,h5⟩;rw[bB (tN ec e 11#7)];omega
end
section
variable {X:Cx}{pins:List (e_×Obj)}{σ:St}{H:Hp}{s:g_}{a:e_}{kvs:List (Key×V)}{k:Key}{u:f_}{A:Around}{E:f_->g_->Prop}
theorem J4{Q:f_->g_->Prop}(I:Inv X pins σ H s)(e:Rd H a (.dK kvs))(h :∀ t s',Inv X pins σ H s'->Q (.int kvs.length t) s'):aD 1#5 A (call (.builtin "len") [.ref a]) Q E s:=by
 obtain⟨z,hd,vs,rel,dd⟩:=yk I.hok e;refine call_len_dict hd dd (by rw[<-rel.length];rw[sizeLine_eq]at z;lia) ?_;rw[<-rel.length];exact h _ _ (I.tok _)
end
variable{X:Cx}
theorem B0{pins:List (e_×Obj)}{σ:St}{s:g_}{o:Option V}(I:Inv X pins σ H s)(g:xO H a y o):s.TypeIs (.ref a) "dict":=by
 rcases g with⟨kvs,k,e,_,_⟩|⟨kvs,k,b,e,_,_,_⟩
 .obtain⟨_,_,vs,_,dd⟩:=yk I.hok e
  exact dd.typeIs
 .obtain⟨_,_,xs,_,dd⟩:=Ce I.hok e
  exact dd.typeIs
section
variable {X:Cx}{o i e value:Expr}{pos pos' tpos:Pos}{td ty tv:TE}
end
theorem Cr (h:Heap)(hb:sysModules<13#2):ix P w H (h.push { cls := .type "dict",data := .dict #[] }) h.objs.size (.dK []):=
 ⟨bS _,beq_eq_false_iff_ne.mpr (eI (aJ hb)),[],.nil,Heap.DictOf.new h⟩
def II:TE:=λ_ H Q=>∀p,H p=b_->Q (.ref p) (upd H p (.dK []))
section
variable {X:Cx}{pos:Pos}
theorem IA:PE X (.Dict [] [] pos) II:=λpins s σ H Q I h=>
 wpAny_Dict_empty ⟨.ref _,_,I.laid (λ_ _ q=>af _ q) 2#1 (Cr _ I.big),rfl,h _ 16#6⟩
end
def DW:List (TE×TE)->St->Hp->(List (V×V)->Hp->Prop)->Prop
 |[],_,H,Q=>Q [] H
 |(tk,tv)::r,σ,H,Q=>tk σ H λx H1=>tv σ H1 λy H2=>DW r σ H2 λps H3=>Q ((x,y)::ps) H3
abbrev VV:List (V×V)->List (f_×f_)->Prop:=Paired λp q=>RelV p.1 q.1/\RelV p.2 q.2
def PPs(X:Cx)(pos:Pos)(keys:List (Option Expr))(values:List Expr)(Xo:List (TE×TE)):Prop:=
 ∀(pins:List 2#7) (s:g_) (σ:St) (H:Hp) (Q:List (V×V)->Hp->Prop),Inv X pins σ H s->DW Xo σ H Q ->
  aD 1#5 X.A (evalPairs (pairTrees keys values X.env pos)) (λvs s'=>∃ps H',Inv X pins σ H' s'/\VV ps vs/\Q ps H') X.xe s
variable{pos:Pos}
theorem LZ:PPs X pos [] [] []:=λpins s σ H Q I h=>pairTrees_nil_walk ⟨[],H,I,.nil,h⟩
variable{Xo:List (TE×TE)}
theorem KQ{k v:Expr}{ks:List (Option Expr)}{vs:List Expr}{tk tv:TE}(hk:PE X k tk)(hv:PE X v tv)(hr:PPs X pos ks vs Xo):
  PPs X pos (a_ k::ks) (v::vs) ((tk,tv)::Xo):=λpins s σ H Q I h=>
 pairTrees_cons_walk (thn (hk _ s σ H _ I h) λu s1 ⟨x,H1,I1,rx,q1⟩=>thn (hv _ s1 σ H1 _ I1 q1) λw2 s2 ⟨y,H2,I2,ry,q2⟩=>
  thn (hr _ s2 σ H2 _ I2 q2) λws s3 ⟨ps,H3,I3,rel,q3⟩=>⟨_,H3,I3,.cons ⟨rx,ry⟩ rel,q3⟩)
def tz(kvs more:List (Key×V)):List (Key×V):=more.foldl (λacc kv=>putK acc kv.1 kv.2) kvs
theorem KV.merge:∀{more:List (Key×V)}{rs:List (Key×f_)}{kvs:List (Key×V)}{vs:List (Key×f_)},KV more rs->KV kvs vs->KV (tz kvs more) (merged vs rs):=by
 intro more rs kvs vs r
 induction r generalizing kvs vs with
 |nil=>intro q;exact q
 | @cons p q ps qs h t ih=>
   intro r0;have e:KV (putK kvs p.1 p.2) (stored vs q.1 q.2):=by
    have:=r0.put p.1 h.2<;>simp_all
   exact ih e
theorem pI:∀(more kvs:List (Key×V)),(tz kvs more).length<=4#1+more.length
 |[],kvs=>ak _
 | p::r,kvs=>by
   have h1:=pI r (putK kvs p.1 p.2);have h2:=nv kvs p.1 p.2;show(tz _ r).length<=_
   grind
theorem wK{P:Program}{w:World}:∀{kvs:List (Key×V)}{ws:List (f_×f_)},VV (kvs.map λkv=>(kV kv.1,kv.2)) ws->∃rs,Carries (fb P w) ws rs/\KV kvs rs
 |[],_,r=>by cases r;exact⟨[],gK,.nil⟩
 | p::kvs,_,r=>by
   cases r with
   | @cons a b as bs h t=>
     obtain⟨rs,c,q⟩:=wK t;obtain⟨b1,b2⟩:=b;exact⟨(p.1,b2)::rs,⟨yg h.1,rfl,c⟩,.cons ⟨rfl,h.2⟩ q⟩
def OT(Xo:List (TE×TE)):TE:=λσ H Q=>∀p,H p=b_->DW Xo σ (upd H p (.dK [])) λps H2=>H2 p=a_ (.dK []) /\ ∃kvs:List (Key×V),ps=kvs.map (λkv=>(kV kv.1,kv.2))/\4#1<=15/\Q (.ref p) (upd H2 p (.dK (tz [] kvs)))
theorem Nf{keys:List (Option Expr)}{values:List Expr}(h:PPs X pos keys values Xo)(YW:keys.all (·.isSome)=c_)(hl:keys.length=values.length)(h0:keys≠[])
  (h15:keys.length<=15):PE X (.Dict keys values pos) (OT Xo):=by
 intro pins s σ H Q I q;refine wpAny_Dict_walk (knd:=fb _ _) YW hl h0 h15 (thn (h _ _ σ _ _ (I.laid (t':=s.toks) (λ_ _ q=>af _ q) 2#1 (Cr _ I.big)) (q _ 16#6)) λws s2 ⟨ps,H2,I2,rel,e,kvs,ep,lk,q2⟩=>?_);subst ep;obtain⟨rs,c,rk⟩:=wK rel;obtain⟨z,hd,vs0,r0,dd⟩:=Ox I2.hok e;cases r0;refine⟨rs,c,dd,λh' W' hs=>⟨.ref _,_,?_,rfl,q2⟩⟩;have hz:(tz [] kvs).length<=sizeLine:=by
  have h1:=pI kvs [];rw[AE]at h1;rw[sizeLine_eq];lia
 exact Al I2 (by rw[e];exact gK) hs (let ⟨q,_,_,hq,_⟩:=W';⟨q,hq⟩) (Kq hz hd (rk.merge .nil) W')
structure M1(X:Cx)(o:Expr)(m:Str)(apos:Pos)(e:Expr)(cpos:Pos):Prop where
 base:attributeBase o m X.env (eval o X.env)=eval o X.env
 few:((backTo cpos (starEach [e] X.env)).all (λx => !x.1)&&(backToKw cpos (keywordEach [] X.env)).all (λx=>x.1.isSome)
  && decide (([e]:List Expr).length+([]:List Keyword).length+(if ([]:List Keyword).isEmpty then 0 else 1)<30))=c_
 line:(apos.endLine==cpos.line)=c_
 trees:backTo cpos (starEach [e] X.env)=[(d_,eval e X.env)]
structure M2(X:Cx)(o:Expr)(m:Str)(apos:Pos)(e f:Expr)(cpos:Pos):Prop where
 base:attributeBase o m X.env (eval o X.env)=eval o X.env
 few:((backTo cpos (starEach [e,f] X.env)).all (λx => !x.1)&&(backToKw cpos (keywordEach [] X.env)).all (λx=>x.1.isSome)
  && decide (([e,f]:List Expr).length+([]:List Keyword).length+(if ([]:List Keyword).isEmpty then 0 else 1)<30))=c_
 line:(apos.endLine==cpos.line)=c_
 trees:backTo cpos (starEach [e,f] X.env)=[(d_,eval e X.env),(d_,eval f X.env)]
section
variable {X:Cx}{pins:List (e_×Obj)}{σ:St}{H:Hp}{s:g_}{a:e_}{y d:V}{u r:f_}{o:Option V}{A:Around}{E:f_->g_->Prop}
end
section
variable {X:Cx}{o e f:Expr}{apos cpos:Pos}{td ty tx:TE}
end
section
variable {X:Cx}{pins:List (e_×Obj)}{σ:St}{H:Hp}{s:g_}{a:e_}{kvs:List (Key×V)}{A:Around}{E:f_->g_->Prop}
end
section
variable {X:Cx}{pins:List (e_×Obj)}{σ:St}{H:Hp}{s:g_}{a:e_}{y:V}{u:f_}{A:Around}{E:f_->g_->Prop}
end
section
variable {X:Cx}
theorem GO:iM X (.builtin "len") (fun xs H Q=>∃ a kvs,xs=[V.ref a]/\H a=a_ (.dK kvs)/\Q (.int 4#1) H):=by
 intro pins s σ H xs us Q I r h;obtain⟨a,kvs,rfl,ha,q⟩:=h;obtain⟨u,rfl,ru⟩:=vals1 r;cases ru;exact J4 I (.inl ha) λt s' I'=>⟨.int _,H,I',⟨t,rfl⟩,q⟩
end
section
variable {κ:Type} [DecidableEq κ]
end
end _L
namespace PySem
open Sem (wp)
def nB(env:Env):List 7#2->List 7#4->List 7#4
 |[],acc=>acc
 |(n,k)::r,acc=>if k==.free then nB env r ((n,(env.cells.lookup n).getD 0)::acc) else nB env r acc
variable{env:Env}
theorem mV{scope:Scope}(h:∀y∈6#8,y.2=.free->∃c,env.cells.lookup y.1=a_ c):closureFor scope env=pure (nB env scope.names []):=by
 have go:∀(names:List _) (acc:List _),(∀y∈names,y.2=.free->∃c,env.cells.lookup y.1=a_ c) ->
   (forIn names acc λx r=>if (x.2==br)=c_ then cellOf env x.1 >>= λa=>pure (fD ((x.1,a)::r)) else pure (fD r))=pure (nB env names acc):=by
  intro names
  induction names with
  |nil=>intro acc _;rfl
  | cons y r ih=>
    intro acc hy;obtain⟨n,k⟩:=y;by_cases hk:k=.free
    .subst hk
     obtain⟨c,hc⟩:=hy _ bY rfl;have e1:cellOf env n=pure c:=by unfold cellOf;rw[hc]
     have e2:nB env ((n,br)::r) acc=nB env r ((n,c)::acc):=by
      show(if (br==br)=c_ then _ else _)=_<;>simp_all
     simp_all
    .have e2:nB env ((n,k)::r) acc=nB env r acc:=by
      show(if (k==br)=c_ then _ else _)=_<;>simp_all
     simp_all
 exact(congrArg (λz=>z >>= pure) (go _ [] h)).trans rfl
theorem rA{env:Env}:∀(names:List 7#2) (acc:List 7#4),(∀y∈names,y.2=.free->∃c,env.cells.lookup y.1=a_ c)->∀x c,(nB env names acc).lookup x=a_ c->env.cells.lookup x=a_ c\/acc.lookup x=a_ c
 |[],_,_,_,_,h=>.inr h
 | (n,k)::r,acc,hy,x,c,h=>by
   unfold nB at h
   split at h
   .rename_i hk
    have YM:=by simpa using hk
    subst YM;obtain⟨d,hd⟩:=hy _ bY rfl;rcases rA r _ (λz hz=>hy z (aB _ hz)) x c h with e |e<;>grind
   .exact rA r _ (λz hz=>hy z (aB _ hz)) x c h
theorem rD{env:Env}{x:Str}:∀(names:List 7#2) (acc:List 7#4),(names.lookup x=a_ .free\/(acc.lookup x).isSome=c_)->((nB env names acc).lookup x).isSome=c_
 |[],_,h=>h.elim (λe=>by cases e) id
 | (y,k)::r,acc,h=>by
   unfold nB;by_cases hk:(k==.free)=c_
   .rw[if_pos hk]
    refine rD r _ ?_<;>grind
   .rw[if_neg hk]
    refine rD r _ ?_<;>grind
theorem gw:∀(names:List 7#2) (n:Nat) (acc:List 7#4),cellsFrom n names acc=cellsFrom n names []++acc
 |[],_,_=>rfl
 | (y,k)::r,n,acc=>by
   unfold cellsFrom
   split
   .rw[gw r _ _,gw r _ [(y,n)],bz];rfl
   .exact gw r n _
theorem lx{x:Str}:∀(names:List 7#2) (n:Nat) (acc:List 7#4) (c:e_),(cellsFrom n names acc).lookup x=a_ c->(∃k∈names,k.1=x/\k.2=.cell)\/acc.lookup x=a_ c
 |[],_,_,_,h=>.inr h
 | (y,k)::r,n,acc,c,h=>by
   unfold cellsFrom at h
   split at h
   .rcases lx r _ _ c h with⟨z,hz,e⟩|e
    .exact .inl ⟨z,aB _ hz,e⟩
    .rw[dz]at e
     cases hb:x==y<;>simp_all
   .rcases lx r _ _ c h with⟨z,hz,e⟩|e
    .exact .inl ⟨z,aB _ hz,e⟩
    .exact .inr e
section
variable {M:Model}{A:Around}{E:f_->g_->Prop}{s:g_}
theorem qT{scope:Scope}{globals:e_}{cl:List (Str×e_)}{qual:Str}{Q:Env->g_->Prop}
  (hQ:Q { scope:=scope,locals:=s.heap.objs.size,globals:=globals,cells:=cellsFrom (s.heap.objs.size+1) scope.names cl,qual:=qual,func:=b_,code:=env.code,frame:=env.frame,builtins:=env.builtins }
   { s with heap:=pushCells (s.heap.push { cls := .type "dict",data := .dict #[] }) scope.names }) :
  aD M A (newFunctionEnv scope globals cl [] qual b_ .none (a_ env)) Q E s:=by
 refine ab (wpAny_alloc ?_);refine ab (wpAny_layCells _ (λname kind cells=>by grind) _ _ _ _ ?_);rw[bE ..];exact aj hQ
end
section
variable {prog:Program}{w:World}{A:Around}{R:Result->g_->Prop}{s:g_}
theorem ny{elt target iter:Expr}{ifs:List Expr}{scope:Scope}{pos:Pos}{it acc:f_}(I:Nat->g_->Prop)
  (turn: ∀n s,I n s->aD 1#7 A (pyNext it) (λr ZV=>match r with
   |none=>R (.ok .next) ZV
   | some v=>aD 1#7 A (letOwnedTupleGo target it v) (λ_ ZV=>aD 1#7 A (assign target env v) (λ_ ZX=>
     aD 1#7 A (forIn ifs c_ λc r=>if r=c_ then do let ok <- isTrue c env (eval c env);pure (fD ok) else pure (fD r)) (λok YJ=>
      if ok=c_ then aD 1#7 A (eval elt env) (λx XN=>
       aD (model prog w) A (call (.builtin "list.append") [acc,x]) (fun _ s₅ => ∃ m,m < n/\I m s₅) (fun _ _=>False) XN) (fun _ _=>False) YJ
      else ∃m,m<n/\I m YJ) (λ_ _=>False) ZX) (λ_ _=>False) ZV) (λ_ _=>False) ZV) (λ_ _=>False) s)
  (n:Nat) (h:I n s):
  pQ 1#7 A (.compLoop (.ListComp elt [⟨target,iter,ifs,0⟩] scope pos) 0 it acc env) R s:=by
 refine codeAny_loop rfl I (λn s hI=>?_) n h;refine wpAny_noted ?_;rw[compTurn_list];refine ab (wpAny_standAt (ab (dv (turn n s hI) (λr ZV YQ=>?_) λ_ _ h'=>h'.elim)));cases r with
 |none=>exact aj YQ
 | some v=>
   refine ab (dv YQ (λ_ ZV YQ=>?_) λ_ _ h'=>h'.elim);refine ab (dv YQ (λ_ ZX WZ=>ab (dv WZ (λok YJ W4=>?_) λ_ _ h'=>h'.elim)) λ_ _ h'=>h'.elim);cases ok with
   |false=>exact aj ⟨rfl,W4⟩
   | true=>
     exact ab (ab (dv W4 (λx XN h₄=>ab (dv h₄ (λ_ s₅ YK=>aj (aj ⟨rfl,YK⟩)) λ_ _ h'=>h'.elim)) λ_ _ h'=>h'.elim))
end
end PySem
namespace _G
open PySem
inductive U where
 |non |bl (b:Bool) |int (i:Int) |str (x:Str) |tup (us:List U) |ref (n:Nat) |obj (a:e_)
 deriving Inhabited
inductive Cell where
 |lst (us:List U)
 |frz (us:List U)
 |dic (kvs:List (_L.Key×U))
 |dit (f:Bool) (kvs:List (List _L.Key×U))
 deriving Inhabited
abbrev Sto:=List Cell
abbrev Rho:=List (Option U)
abbrev Res(α:Type):=Option (α×Sto)
abbrev ME:=Rho->Sto->Res U
abbrev MT:=Rho->Sto->Res Bool
abbrev MA:=Rho->Sto->Res (List U)
abbrev MF:=List U->Sto->Res U
def bnd{α β:Type}(r:Option (α×Sto))(k:α->Sto->Option β):Option β:=match r with
 |none=>b_
 |some p=>k p.1 p.2
theorem aF{α β:Type}{a:α}{S:Sto}{k:α->Sto->Option β}:bnd (a_ (a,S)) k=k a S:=rfl
theorem be{α β:Type}{r:Option (α×Sto)}{k:α->Sto->Option β}{b:β}(h:bnd r k=a_ b):∃a S,r=a_ (a,S)/\k a S=a_ b:=by
 cases r with
 |none=>cases h
 |some p=>exact⟨_,_,rfl,h⟩
def big:Nat:=16777216
def getL(S:Sto)(n:Nat):Option (List U):=match S[n]? with
 |some (.lst us)=>a_ us
 |some (.frz us)=>a_ us
 |some (.dic _)=>b_
 |some (.dit _ _)=>b_
 |none=>b_
def cut{α:Type}(xs:List α)(lo hi:Option Int):List α:=(xs.drop (HT.sIx xs.length 0 lo)).take (HT.sIx xs.length xs.length hi-HT.sIx xs.length 0 lo)
abbrev F2:=U->U->Sto->Res U
def eP:F2:=λx y S=>match x,y with
 |.int i,.int j=>a_ (.int (i+j),S)
 |.tup xs,.tup ys=>if 1#4+4#5<=big then a_ (.tup (xs++ys),S) else b_
 |_,_=>b_
def vY:F2:=λx y S=>match x,y with
 |.int i,.int j=>a_ (.int (i-j),S)
 |_,_=>b_
def kY(i j:Int):Prop:=(-(2^64)<i/\i<2^64)\/(-(2^64)<j/\j<2^64)
instance(i j:Int):Decidable (kY i j):=cm _
def Ft(n:Nat)(k:Int):Prop:=0<=k/\k<1000/\0<n/\n<1000
instance(n:Nat)(k:Int):Decidable (Ft n k):=cm _
def il:F2:=λx y S=>match x,y with
 |.int i,.int j=>if kY i j then a_ (.int (i*j),S) else b_
 |.tup xs,.int k=>if Ft xs.length k then a_ (.tup (aS k.toNat xs).flatten,S) else b_
 |_,_=>b_
def vR(j:Int):Prop:=0<j/\j<1073741824
instance(j:Int):Decidable (vR j):=cm _
def oDiv:F2:=λx y S=>match x,y with
 |.int i,.int j=>if vR j then a_ (.int (i/j),S) else b_
 |_,_=>b_
def oMod:F2:=λx y S=>match x,y with
 |.int i,.int j=>if 0<j then a_ (.int (i%j),S) else b_
 |_,_=>b_
def Of(i j:Int):Prop:=0<=j/\j<=1000000/\i.natAbs<2^64
instance(i j:Int):Decidable (Of i j):=cm _
def DJ:F2:=λx y S=>match x,y with
 |.int i,.int j=>if Of i j then a_ (.int (i^j.toNat),S) else b_
 |_,_=>b_
def F5(p:Int->Int->Bool):F2:=λx y S=>match x,y with
 |.int i,.int j=>a_ (.bl (p i j),S)
 |_,_=>b_
abbrev oLt:F2:=F5 λi j=>decide (i<j)
abbrev oLe:F2:=F5 λi j=>decide (i<=j)
abbrev oGt:F2:=F5 λi j=>decide (j<i)
abbrev oGe:F2:=F5 λi j=>decide (j<=i)
def eB(S:Sto):U->Option (List U)
 |.tup us=>a_ us
 |.ref n=>getL S n
 |_=>b_
def dJ{α β:Type}(f:α->Option β):List α->Option (List β)
 |[]=>a_ []
 |x::xs=>(f x).bind λy=>(dJ f xs).map λys=>y::ys
def toD(S:Sto):Nat->U->Option PyData
 |0,_=>b_
 |_+1,.non=>a_ .none
 |_+1,.bl b=>a_ (.bool b)
 |_+1,.int i=>a_ 4#8
 |_+1,.str x=>if jI (.str x)=c_ then a_ (.str x) else b_
 |f+1,.tup us=>(dJ (toD S f) us).map .tuple
 |f+1,.ref n=>(getL S n).bind λus=>(dJ (toD S f) us).map .list
 |_+1,.obj _=>b_
def eqU(S:Sto)(x y:U):Option Bool:=(toD S 40 x).bind λa=>(toD S 40 y).map λb=>o3 a b
def oEq:F2:=λx y S=>(eqU S x y).map λb=>(.bl b,S)
def oNe:F2:=λx y S=>(eqU S x y).map λb=>(.bl (!b),S)
def keyOf:U->Option _L.Key
 |.int i=>a_ (.inl i)
 |.str x=>a_ (.inr x)
 |_=>b_
def kc{κ:Type}[DecidableEq κ](kvs:List (κ×U))(k:κ):Option U:=(kvs.find? λkv=>decide (kv.1=k)).map (·.2)
def mZ{κ:Type}[DecidableEq κ](kvs:List (κ×U))(k:κ)(u:U):List (κ×U):=
 if 19#5=c_ then kvs.map (λkv=>if kv.1=k then(kv.1,u) else kv) else kvs++[(k,u)]
def gM(S:Sto):U->Option (List (_L.Key×U))
 | .ref n=>match S[n]? with
   |some (.dic kvs)=>a_ kvs
   |_=>b_
 |_=>b_
def oIx:F2:=λx y S=>match gM S x with
 |some kvs=>(keyOf y).bind λk=>(kc kvs k).map λu=>(u,S)
 | none=>match y with
   |.int i=>((eB S x).bind λus=>_L.atI us i).map λu=>(u,S)
   |_=>b_
def ae(i:Nat):ME:=λG S=>match G[i]? with
 |some (a_ u)=>a_ (u,S)
 |_=>b_
def mC(u:U):ME:=λ_ S=>a_ (u,S)
def m1(f:U->Sto->Res U)(a:ME):ME:=λG S=>bnd (a G S) λx S1=>f x S1
def m2(f:F2)(a b:ME):ME:=λG S=>bnd (a G S) λx S1=>bnd (b G S1) λy S2=>f x y S2
def ah:MA:=λ_ S=>a_ ([],S)
def aa(a:ME)(r:MA):MA:=λG S=>bnd (a G S) λx S1=>bnd (r G S1) λxs S2=>a_ (x::xs,S2)
def iS(a:MA):ME:=λG S=>bnd (a G S) λxs S1=>if 1#4<=big then a_ (.tup xs,S1) else b_
def dP(a:MA):ME:=λG S=>bnd (a G S) λxs S1=>if 1#4<=big then a_ (.ref 4#7,S1++[.lst xs]) else b_
def mFn(f:MF)(a:MA):ME:=λG S=>bnd (a G S) λxs S1=>f xs S1
def lM:U->Sto->Res U:=λx S=>match x with
 |.int i=>a_ (.int (-i),S)
 |_=>b_
def Bp(c:MT)(a b:ME):ME:=λG S=>bnd (c G S) λk S1=>if k then a G S1 else b G S1
def Co:Option ME->Rho->Sto->Res (Option Int)
 |none=>λ_ S=>a_ (b_,S)
 | some a=>λG S=>bnd (a G S) λx S1=>match x with
   |.int i=>a_ (a_ i,S1)
   |_=>b_
def mSl(a:ME)(lo hi:Option ME):ME:=λG S=>bnd (a G S) λx S1=>bnd (Co lo G S1) λl S2=>bnd (Co hi G S2) λh S3=>match x with
 |.tup us=>a_ (.tup (cut us l h),S3)
 |.ref n=>(getL S3 n).map λus=>(.ref S3.length,S3++[.lst (cut us l h)])
 |_=>b_
def cOf(a:ME):MT:=λG S=>bnd (a G S) λx S1=>match x with
 |.bl b=>a_ (b,S1)
 |_=>b_
def nu(a b:MT):MT:=λG S=>bnd (a G S) λk S1=>if k then b G S1 else a_ (d_,S1)
def cOr(a b:MT):MT:=λG S=>bnd (a G S) λk S1=>if k then a_ (c_,S1) else b G S1
def Dn(a:MT):MT:=λG S=>bnd (a G S) λk S1=>a_ (!k,S1)
def cTT:MT:=λ_ S=>a_ (c_,S)
inductive Src where
 |imm (us:List U)
 |mut (n:Nat)
 |enl (n:Nat)
 |zlt (n:Nat) (us:List U)
 |zpt (us vs:List U)
abbrev MI:=Rho->Sto->Option (Src×Sto)
def okR(i:Int):Prop:= -(2^62)<=i/\i<2^62
instance(i:Int):Decidable (okR i):=cm _
def bI(i:Int)(n:Nat):List U:=(aq n).map λ(k:Nat)=>.int (i+k)
def iR1(a:MA):MI:=λG S=>bnd (a G S) λxs S1=>match xs with
 |[.int j]=>if okR j then a_ (.imm (bI 0 j.toNat),S1) else b_
 |_=>b_
def iR2(a:MA):MI:=λG S=>bnd (a G S) λxs S1=>match xs with
 |[.int i,.int j]=>if okR i/\okR j then a_ (.imm (bI i (j-i).toNat),S1) else b_
 |_=>b_
def dh(a:ME):MI:=λG S=>bnd (a G S) λx S1=>match x with
 |.tup us=>a_ (.imm us,S1)
 |.ref n=>(getL S1 n).map λ_=>(.mut n,S1)
 |_=>b_
def Bl(a:MA):MI:=λG S=>bnd (a G S) λxs S1=>match xs with
 |[.tup us]=>a_ (.imm us.reverse,S1)
 |_=>b_
def Cm(a:MA):MI:=λG S=>bnd (a G S) λxs S1=>match xs with
 |[.ref n,.tup us]=>(getL S1 n).map λ_=>(.zlt n us,S1)
 |[.tup us,.tup vs]=>a_ (.zpt us vs,S1)
 |_=>b_
def ji(t:MT)(e:ME)(G:Rho):List U->List U->Sto->Res (List U)
 |[],acc,S=>a_ (acc,S)
 |x::xs,acc,S=>bnd (t (G++[a_ x]) S) λk S1=>if k then bnd (e (G++[a_ x]) S1) λy S2=>ji t e G xs (acc++[y]) S2 else ji t e G xs acc S1
def kW(t:MT)(e:ME)(G:Rho)(n:Nat):Nat->Nat->List U->Sto->Res (List U)
 |0,_,_,_=>b_
 | f+1,i,acc,S=>(getL S n).bind λus=>match us[i]? with
   |none=>a_ (acc,S)
   |some x=>bnd (t (G++[a_ x]) S) λk S1=>if k then bnd (e (G++[a_ x]) S1) λy S2=>kW t e G n f (i+1) (acc++[y]) S2 else kW t e G n f (i+1) acc S1
def fuel:Nat:=100000
def A4(t:MT)(e:ME)(G:Rho):Src->Sto->Res (List U)
 |.imm us,S=>ji t e G us [] S
 |.mut n,S=>kW t e G n fuel 0 [] S
 |_,_=>b_
def bW(it:MI)(t:MT)(e:ME):ME:=λG S=>bnd (it G S) λsrc S1=>bnd (A4 t e G src S1) λys S2=>if 4#5<big then a_ (.ref 10#1,S2++[.lst ys]) else b_
inductive Fl where
 |nx |rt (u:U) |bk |ct
abbrev MS:=Rho->Sto->Option (Fl×Rho×Sto)
def dw:MS:=λG S=>a_ (.nx,G,S)
def aX(a b:MS):MS:=λG S=>match a G S with
 |some (.nx,Y4,S1)=>b Y4 S1
 |r=>r
def bC(i:Nat)(e:ME):MS:=λG S=>bnd (e G S) λx S1=>a_ (.nx,G.set i (a_ x),S1)
def gf(o i e:ME):MS:=λG S=>bnd (e G S) λx S1=>bnd (o G S1) λp S2=>bnd (i G S2) λj S3=>match p with
 | .ref n=>match S3[n]? with
   | some (.lst us)=>(match j with
     |.int k=>(_L.ixN us.length k).map λm=>(.nx,G,S3.set n (.lst (us.set m x)))
     | _=>b_)
   |some (.dic kvs)=>(keyOf j).bind λk=>if 4#1<big then a_ (.nx,G,S3.set n (.dic (mZ kvs k x))) else b_
   |_=>b_
 |_=>b_
def eG(e:ME):MS:=λG S=>bnd (e G S) λ_ S1=>a_ (.nx,G,S1)
def cb(e:ME):MS:=λG S=>bnd (e G S) λx S1=>a_ (.rt x,G,S1)
def sIf(c:MT)(a b:MS):MS:=λG S=>bnd (c G S) λk S1=>if k then a G S1 else b G S1
def aft(r:Option (Fl×Rho×Sto))(k:MS):Option (Fl×Rho×Sto):=match r with
 |some (.nx,Y4,S1)=>k Y4 S1
 |some (.ct,Y4,S1)=>k Y4 S1
 |some (.bk,Y4,S1)=>a_ (.nx,Y4,S1)
 |r=>r
def vJ(i:Nat)(b:MS):List U->MS
 |[],G,S=>a_ (.nx,G,S)
 |x::xs,G,S=>aft (b (G.set i (a_ x)) S) (vJ i b xs)
def forL(i:Nat)(b:MS)(n:Nat):Nat->Nat->MS
 |0,_,_,_=>b_
 | f+1,k,G,S=>(getL S n).bind λus=>match us[k]? with
   |none=>a_ (.nx,G,S)
   |some x=>aft (b (G.set i (a_ x)) S) (forL i b n f (k+1))
def WE(i:Nat)(b:MS):Src->MS
 |.imm us=>vJ i b us
 |.mut n=>forL i b n fuel 0
 |_=>λ_ _=>b_
def fj(i:Nat)(it:MI)(b:MS):MS:=λG S=>bnd (it G S) λsrc S1=>WE i b src G S1
def whl(c:MT)(b:MS):Nat->MS
 |0,_,_=>b_
 |f+1,G,S=>bnd (c G S) λk S1=>if k then aft (b G S1) (whl c b f) else a_ (.nx,G,S1)
def mj(c:MT)(b:MS):MS:=whl c b fuel
def run(k n:Nat)(b:MS):MF:=λus S=>if 1#3=k then match b (us.map a_++aS (n-k) b_) S with
  |some (.rt u,_,S1)=>a_ (u,S1)
  |some (.nx,_,S1)=>a_ (.non,S1)
  |_=>b_
 else b_
def cp:MF:=λus S=>match us with
 | [x]=>(match gM S x with
   |some kvs=>a_ (.int 4#1,S)
   | none=>(eB S x).map λxs=>(.int xs.length,S))
 |_=>b_
def bN:MF:=λus S=>match us with
 |[x]=>(eB S x).map λxs=>(.tup xs,S)
 |_=>b_
def vg:MF:=λus S=>match us with
 |[x]=>(eB S x).map λxs=>(.ref 0#7,S++[.lst xs])
 |_=>b_
def Ah:MF:=λus S=>match us with
 |[.int i,.int j]=>a_ (.int (if j>i then j else i),S)
 |_=>b_
def Bt:U->Option Int
 |.int i=>a_ i
 |_=>b_
def pN:U->Option (List Int)
 |.tup us=>dJ Bt us
 |_=>b_
def y9:MF:=λus S=>match us with
 |[.int i,.int j]=>a_ (.int (if j<i then j else i),S)
 |_=>b_
def iF(it:MI):ME:=λG S=>bnd (it G S) λsrc S1=>match src with
 |.imm us=>if 1#3<=big then a_ (.ref 4#7,S1++[.lst us]) else b_
 |_=>b_
def yV(it:MI):ME:=λG S=>bnd (it G S) λsrc S1=>match src with
 |.imm us=>if 1#3<=big then a_ (.tup us,S1) else b_
 |_=>b_
def tyU(S:Sto):U->Option String
 |.non=>a_ "NoneType"
 |.bl _=>a_ "bool"
 |.int _=>a_ "int"
 |.str _=>a_ "str"
 |.tup _=>a_ "tuple"
 | .ref n=>match S[n]? with
   |some (.lst _)=>a_ "list"
   |some (.dic _)=>a_ "dict"
   |_=>b_
 |.obj _=>b_
def PU(d:PyData):Prop:=d.showable=c_/\d.shown.length<=sizeLine
instance(d:PyData):Decidable (PU d):=cm _
def Lv(t T:String):Bool:=t==T||(t == "bool"&&T == "int")
def sH(T:String):U->Sto->Res U:=λx S=>(tyU S x).map λt=>(.bl (Lv t T),S)
def mML(f:Nat->List U->Sto->Res U)(o:ME)(a:MA):ME:=λG S=>bnd (o G S) λp S1=>match p with
 |.ref n=>(getL S1 n).bind λ_=>bnd (a G S1) λxs S2=>f n xs S2
 |_=>b_
def de:Nat->List U->Sto->Res U:=λn xs S=>match xs with
 | [x]=>match S[n]? with
   |some (.lst us)=>if 1#3<big then a_ (.non,S.set n (.lst (us++[x]))) else b_
   |_=>b_
 |_=>b_
def nU:Nat->List U->Sto->Res U:=λn xs S=>match xs with
 | [.int i]=>match S[n]? with
   |some (.lst us)=>if okR i then(_L.ixN us.length i).bind λj=>us[j]?.map λy=>(y,S.set n (.lst (us.eraseIdx j))) else b_
   |_=>b_
 |_=>b_
def Ar:Nat->List U->Sto->Res U:=λn xs S=>match xs with
 | []=>match S[n]? with
   |some (.lst us)=>us[1#3-1]?.map λy=>(y,S.set n (.lst us.dropLast))
   |_=>b_
 |_=>b_
def mMT(f:List U->List U->Sto->Res U)(o:ME)(a:MA):ME:=λG S=>bnd (o G S) λp S1=>match p with
 |.tup us=>bnd (a G S1) λxs S2=>f us xs S2
 |_=>b_
end _G
namespace _L
open PySem PySem.Spec PyProof.Rows
def blk(X:Cx)(N':List Str)(scope:Scope)(ZX:g_)(ZS:Hp)(fp:List e_):Cx:=
 { X with
  N:=N'
  s₀:=ZX
  H₀:=ZS
  env:={ scope:=relabel scope X.env,locals:=ZX.heap.objs.size+1,globals:=X.env.globals,cells:=cellsFrom (ZX.heap.objs.size+2) scope.names (nB X.env scope.names []),qual:=X.env.qual,func:=b_,code:=X.env.code,frame:=X.env.frame,builtins:=X.env.builtins }
  outer:=X.stack
  ex:=fp
  fn:=λx=>scope.names.lookup x==a_ .cell
  pn:= []
  xe:=λ_ _=>False }
structure jR(X:Cx)(N':List Str)(scope:Scope)(xs:List Str):Prop where
 kind:scope.kind=.function
 nd:(scope.names.map (·.1)).Nodup
 free:∀y∈scope.names,y.2=.free->X.env.kindOf y.1=a_ .cell\/X.env.kindOf y.1=a_ .free
 own:∀x∈xs,scope.names.lookup x=a_ .local\/scope.names.lookup x=a_ .cell
 ndN:N'.Nodup
 len:N'.length=X.N.length+xs.length
 last:∀(j:Nat) (x:Str),xs[j]?=a_ x->N'[X.N.length+j]?=a_ x
 vis:∀(i:Nat) (y:Str),i<X.N.length->N'[i]?=a_ y->(scope.names.lookup y=a_ .local\/scope.names.lookup y=a_ .cell\/scope.names.lookup y=a_ .free)->X.N[i]?=a_ y/\scope.names.lookup y=a_ .free
theorem iZ{env:Env}:∀{names:List (Str×NameKind)}{x:Str}{k:NameKind},
  (names.map λ(n,k)=>if 18#3 then(n,eO) else(n,k)).lookup x=a_ k ->
  names.lookup x=a_ k\/(names.lookup x=a_ .free/\k=.cell)
 |[],_,_,h=>by simp at h
 | (n,k')::r,x,k,h=>by
   have ih:= @iZ env r x k;have h':Lo x (23#2::(r.map _))=a_ k:=h;by_cases hc:(k'==br&&env.scope.kind==.function&&env.kindOf n==a_ .cell)=c_
   .rw[if_pos hc]at h'
    rw[dz]at h' ⊢;cases hx:x==n<;>simp_all
   .rw[if_neg hc]at h'
    rw[dz]at h' ⊢;cases hx:x==n<;>simp_all
theorem mD{env:Env}:∀{names:List (Str×NameKind)}{x:Str},names.lookup x=a_ .cell ->
  (names.map λ(n,k)=>if 18#3 then(n,eO) else(n,k)).lookup x=a_ .cell
 |[],_,h=>by simp at h
 | (n,k')::r,x,h=>by
   have ih:= @mD env r x
   grind
theorem mq{env:Env}:∀{names:List (Str×NameKind)}{x:Str},names.lookup x=a_ .free ->
  (names.map λ(n,k)=>if 18#3 then(n,eO) else(n,k)).lookup x=a_ .cell \/
  (names.map λ(n,k)=>if 18#3 then(n,eO) else(n,k)).lookup x=a_ .free
 |[],_,h=>by simp at h
 | (n,k')::r,x,h=>by
   have ih:= @mq env r x;show Lo x (23#2::_)=_\/Lo x (23#2::_)=_;rw[dz]at h;by_cases hc:(k'==br&&env.scope.kind==.function&&env.kindOf n==a_ .cell)=c_
   .rw[if_pos hc]
    cases hx:x==n with
    |true=>exact .inl (by simp[dz,hx])
    | false=>
      rw[hx]at h;simp only[dz,hx];exact ih h
   .rw[if_neg hc]<;>grind
theorem qK{env:Env}:∀{names:List (Str×NameKind)}{x:Str},names.lookup x=a_ .globalImplicit ->
  (names.map λ(n,k)=>if 18#3 then(n,eO) else(n,k)).lookup x=a_ .globalImplicit
 |[],_,h=>by simp at h
 | (n,k')::r,x,h=>by
   have ih:= @qK env r x
   grind
theorem oS:∀{names:List (Str×NameKind)}{x:Str}{k:NameKind},(names.map (·.1)).Nodup->(x,k)∈names->names.lookup x=a_ k
 |[],_,_,_,h=>by simp at h
 | (n,k')::r,x,k,nd,h=>by
   rw[dy,eh]at nd;rw[dz];rcases aH.mp h with e|h2
   .cases e;simp
   .have ZN:x≠n:=by
     grind
    rw[(beq_eq_false_iff_ne.mpr ZN)];exact oS nd.2 h2
variable{X:Cx}{n:Nat}
theorem lN{scope:Scope}(hf:∀y∈6#8,y.2=.free->∃c,X.env.cells.lookup y.1=a_ c){x:Str}{c:e_}
  (h:(cellsFrom n scope.names (nB X.env scope.names [])).lookup x=a_ c):(cellsFrom n scope.names []).lookup x=a_ c\/X.env.cells.lookup x=a_ c:=by
 rw[gw,jl]at h;cases q:(cellsFrom n _ []).lookup x with
 |some d=>simp_all
 | none=>
   rw[q]at h;rcases rA _ [] hf x c h with e|e<;>simp_all
section
variable {X:Cx}{pins:List (e_×Obj)}{σ:St}{ZS:Hp}{ZX:g_}{N':List Str}{scope:Scope}{xs:List Str}{fp:List e_}
theorem jR.frees(C:jR X N' scope xs)(ok:X.Ok):∀y∈6#8,y.2=.free->∃c,X.env.cells.lookup y.1=a_ c:=λy hy e=>ok.has _ (C.free y hy e)
theorem NL(C:jR X N' scope xs){y:Str}(h:scope.names.lookup y=a_ .cell\/scope.names.lookup y=a_ .free):∃c,(cellsFrom n scope.names (nB X.env scope.names [])).lookup y=a_ c:=by
 refine iW.mp (ju _ n _ ?_);rcases h with h|h
 .exact .inl h
 .exact .inr (rD _ [] (.inl h))
theorem DZ(I:Inv X pins σ ZS ZX)(C:jR X N' scope xs)(XR:∀b∈fp,vI X pins ZS b)(ZQ:∀b∈fp,b<15#5):(blk X N' scope ZX ZS fp).Ok:=by
 have own:=λy c h=>by
  have ok:=cellsFrom_ok scope.names ((ZX.heap.push default).push default) _ [] ⟨λ_ _ hm=>(nomatch hm),iT⟩ 2#1;rw[bE,bE]at ok;exact(ok.empty y c (cw h)).2
 have apart:=by
  have ok:=cellsFrom_ok scope.names ((ZX.heap.push default).push default) _ [] ⟨λ_ _ hm=>(nomatch hm),iT⟩ 2#1;rw[bE,bE]at ok;exact ok.apart
 have old:∀y c,X.env.cells.lookup y=a_ c->c<15#5:=λy c h=>by obtain⟨v,z⟩:=I.cell y c h;exact z.lt
 refine⟨I.ok.mod,C.kind,I.ok.glob,I.ok.blt,fT _,λy z c h1 h2=>?_,λy hy=>?_,λy c hy h=>?_,I.ok.hd,I.ok.frames,.inl rfl,λb hb=>⟨?_,λy c h z=>?_⟩,I.bs,aK I.ok.bsz I.sz,λb o e hb=>?_,λb hb z=>?_,I.stack,I.stkFree⟩
 .rcases lN (C.frees I.ok) h1 with a|a<;>rcases lN (C.frees I.ok) h2 with b|b
  .exact name_of_addr apart (cw a) (cw b)
  .exact absurd (ai (old z c b) (aK (fB _ 2) (own y c a))) (bu _)
  .exact absurd (ai (old y c a) (aK (fB _ 2) (own z c b))) (bu _)
  .exact I.ok.inj y z c a b
 .refine NL C ?_
  rcases hy with hy|hy
  .rcases iZ hy with e|⟨e,_⟩<;>simp_all
  .rcases iZ hy with e|⟨e,_⟩<;>simp_all
 .have h':(cellsFrom _ _ _).lookup y=a_ c:=h
  rw[gw,jl]at h';obtain⟨d,hd⟩:=(iW.mp (ju _ (ZX.heap.objs.size+2) [] (.inl (by simpa [blk]using hy))));rw[hd]at h';have e:=eR h';subst e;have:=own y d hd;show 15#5<=d
  lia
 .exact aJ (cU (ZQ b hb))
 .rcases lN (C.frees I.ok) h with a|a
  .exact absurd (ai (ZQ b hb) (aK (fB _ 2) (z▸own y c a))) (bu _)
  .exact(XR b hb).2.2.2.2.1 y c a z
 .have z:=(XR b hb).2.2.2.1
  rcases z with z|z
  .exact I.ok.noex b o e z
  .exact absurd (ai (az e) (aK I.ok.bsz z)) (bu _)
 .rcases aH.mp (I.stkSub b z) with e|e
  .exact(XR b hb).2.1 e
  .exact(XR b hb).2.2.1 e
theorem Hf(I:Inv X pins σ ZS ZX)(C:jR X N' scope xs)(XR:∀b∈fp,vI X pins ZS b)(ZQ:∀b∈fp,b<15#5){lo do':Obj}(hdo:do'.data=.dict #[])(hdo2:do'.isFreed=d_)(hlo:lo.isFreed=d_):
  Inv 12#5 [] (σ++aS xs.length b_) ZS { ZX with heap:=pushCells ((ZX.heap.push lo).push do') scope.names }:=by
 have sz:((ZX.heap.push lo).push do').objs.size=15#5+2:=by simp_all
 have okc:=cellsFrom_ok scope.names _ _ [] ⟨λ_ _ hm=>(nomatch hm),iT⟩ (by rw[sz];exact ak _);rw[sz]at okc;have kp:∀b o,ZX.heap.get? b=a_ o->(pushCells ((ZX.heap.push lo).push do') 6#8).get? b=a_ o:=λb o e=>pushCells_keeps _ _ b o (af _ (af _ e))
 have hL:(pushCells _ 6#8).get? (15#5+1)=a_ _:=pushCells_keeps _ _ _ _ (by
  have e:15#5+1=(ZX.heap.push lo).objs.size:=by rw[bE]
  rw[e];exact av _ hdo2)
 refine⟨DZ I C XR ZQ,rfl,I.bare,Un.kept kp,⟨_,⟨_,_,_,hL,hdo,λe he=>by simp at he,λ_=>rfl⟩,λi y v h1 h2 h3=>?_⟩,λy c h=>?_,I.hok.fresh (fT _),λy c h=>?_,λp hp=>absurd (show p∈[] from hp) 0#3,I.hok.kept kp,?_⟩
 .have hi:i<X.N.length:=by
   by_cases hi:i<X.N.length
   .omega
   .rw[bo (by rw[I.len];simp_all),jv]at h2<;>simp_all
  rw[aT (by rw[I.len];omega)]at h2;have hv:scope.names.lookup y=a_ .local\/scope.names.lookup y=a_ .cell\/scope.names.lookup y=a_ .free:=by
   rcases h3 with h3|h3|h3<;>rcases iZ h3 with e|⟨e,e'⟩<;>grind
  obtain⟨hN,P'⟩:=C.vis i y hi h1 hv;have hk:=C.free _ (cw P') rfl;obtain⟨m,hn,hl⟩:=I.loc;obtain⟨u,r,l⟩:=hl i y v hN h2 (.inr hk);refine⟨u,r,.inr ⟨mq P',?_⟩⟩;rcases l with⟨YM,_⟩|⟨_,c,hc,Zu⟩
  .simp_all
  .have nown:(cellsFrom (15#5+2) scope.names []).lookup y=b_:=by
    cases q:(cellsFrom _ _ []).lookup y with
    |none=>rfl
    | some d=>
      rcases lx _ _ _ d q with⟨z,hz,e1,e2⟩|e
      .obtain⟨z1,z2⟩:=z
       simp at e1 e2;subst e1;subst e2;exact absurd (oS C.nd hz) (by rw[P'];simp)
      .cases e
   obtain⟨d,hd⟩:=iW.mp (rD _ [] (.inl P'));have XS:X.env.cells.lookup y=a_ d:=by
    rcases rA _ [] (C.frees I.ok) y d hd with e|e<;>simp_all
   rw[hc]at XS;cases XS;refine⟨c,?_,Zu.keeps kp⟩;show(cellsFrom _ _ _).lookup y=a_ c;rw[gw,jl,nown];exact hd
 .rcases lN (C.frees I.ok) h with a|a
  .exact⟨_,(okc.empty y c (cw a)).1⟩
  .obtain⟨v,z⟩:=I.cell y c a
   exact⟨v,z.keeps kp⟩
 .rcases lN (C.frees I.ok) h with a|a
  .exact I.hok.fresh (aK (fB _ 2) (okc.empty y c (cw a)).2)
  .exact I.freeC y c a
 .show(σ++aS _ _).length=N'.length
  rw[aU,qB,I.len,C.len]
end
def PTs(X:Cx)(ifs:List Expr)(t:TT):Prop:=
 ∀(pins:List 2#7) (s:g_) (σ:St) (H:Hp) (Q:Bool->Hp->Prop),Inv X pins σ H s->t σ H Q ->
  aD 1#5 X.A (forIn ifs c_ λc r=>if r=c_ then do let ok <- isTrue c X.env (eval c X.env);pure (fD ok) else pure (fD r)) (TP X pins σ Q) X.xe s
theorem Mj:PTs X [] (λ_ H Q=>Q c_ H):=λpins s σ H Q I h=>aj ⟨H,I,h⟩
theorem LQ{c:Expr}{t:TT}(h:PT X c t):PTs X [c] t:=λpins s σ H Q I q=>ab (ab (thn (h _ s σ H Q I q) λb s1 e=>aj (aj e)))
def qI(wi:TI)(tt:TT)(te:TE):TE:=λσ H Q=>wi σ H λJ H1=>∃W:Nat->Nat->List V->Hp->Prop,(∃m,W 0 m [] H1) /\ ∀i m ys H,W i m ys H->4#5<sizeLine /\
 (24#8 \/
  (J.go i H /\ ∀x H',J.yld i H x H'->tt (σ++[a_ x]) H' λb H3=>if b=c_ then te (σ++[a_ x]) H3 λy H4 =>∃m',m'<m/\W (i+1) m' (ys++[y]) H4 else ∃m',m'<m/\W (i+1) m' ys H3))
variable{P:Program}{w:World}{a:e_}
theorem HOk.track{H:Hp}{h:Heap}{o:HO}(x:HOk P w H h)(hn:H a=b_)(new:ix P w (upd H a o) h a o):HOk P w (upd H a o) h:=λb u e=>by
 by_cases hb:b=a
 .subst hb;rw[du]at e;grind
 .rw[bB hb]at e
  exact(x b u e).stay (λc v _ q=>q) (λc q=>by rw[bB (bF q hn)];omega) λc xs q=>by rw[bB (bF q hn)];omega
theorem HOk.but{H:Hp}{h h':Heap}(x:HOk P w H h)(hn:H a=b_)(k:∀b o,b≠a->h.get? b=a_ o->h'.get? b=a_ o):HOk P w H h':=λb u e=>by
 refine(x b u e).stay (λc v hc q=>k c v ?_ q) (λ_ q=>q) λ_ _ q=>q
 grind
def Rq(gT:V->Hp->(St->Hp->Prop)->Prop)(wi:TI)(tt:TT)(te:TE):TE:=λσ H Q=>wi σ H λJ H1=>∃W:Nat->Nat->List V->Hp->Prop,(∃m,W 0 m [] H1) /\ ∀i m ys H,W i m ys H->4#5<sizeLine /\
 (24#8 \/
  (J.go i H /\ ∀x H',J.yld i H x H'->gT x H' λτ H2=>tt (σ++τ) H2 λb H3=>if b=c_ then te (σ++τ) H3 λy H4 =>∃m',m'<m/\W (i+1) m' (ys++[y]) H4 else ∃m',m'<m/\W (i+1) m' ys H3))
def gT1:V->Hp->(St->Hp->Prop)->Prop:=λv H Q=>Q [a_ v] H
section
variable {X:Cx}{N':List Str}{scope:Scope}{x:Str}{xs:List Str}{tg:Expr}{gT:V->Hp->(St->Hp->Prop)->Prop}{px pos:Pos}{elt iter:Expr}{ifs:List Expr}{wi:TI}{tt:TT}{te:TE}
variable{σ:St}
theorem yN{use:Option (f_->Sem Unit)}{Qf:f_->g_->Prop}(hc:X.calm=c_)(C:jR X N' scope xs)(hi:PI X tg iter wi)
  (ht:∀ZX ZS fp,PTs 12#5 ifs tt) (he:∀ZX ZS fp,PE 12#5 elt te) {pins:List (e_×Obj)}{s:g_}{H:Hp}{Q:VK} (I:Inv X pins σ H s) (h:Rq gT wi tt te σ H Q)
  (htg: ∀(ZX:g_) (ZS:Hp) (fp:List e_) (pl:List 2#7) (s:g_) (H:Hp) (v:V) (u:f_) (Q:St->Hp->Prop),Inv 12#5 pl (σ++aS xs.length b_) H s->RelV v u->gT v H Q ->
   aD (model X.prog X.w) X.A (assign tg (blk X N' scope ZX ZS fp).env u) (λ_ s' =>∃τ H',τ.length=xs.length/\Inv (blk X N' scope ZX ZS fp) pl (σ++τ) H' s'/\Q τ H') (λ_ _=>False) s)
  (hfin: ∀(s':g_) (L D:e_) (H':Hp) (ml:Str->Option f_),s'.heap.Ns L ml->Inv X pins σ H' s'->H' L=b_->L≠9#6->16#2<=L->(∀y c,X.env.cells.lookup y=a_ c->c≠L)->(∀p∈X.pn++pins,p.1≠L) ->
   Q (.ref D) H'->compPost (model X.prog X.w) X.A X.xe use Qf (.ref D) L (.ok .next) s'):
  aD 1#5 X.A (eval iter X.env) (λxv ZV=>aD 1#5 X.A (pyIter xv) (λit ZX=>aD 1#5 X.A (newList []) (λacc YJ=>
   aD 1#5 X.A (newFunctionEnv scope X.env.globals (nB X.env scope.names []) [] X.env.qual b_ .none (a_ X.env)) (λcenv XN=>
    pQ (model X.prog X.w) X.A (.compStart (.ListComp elt [⟨tg,iter,ifs,0⟩] scope pos) 0 it acc { cenv with scope:=relabel scope X.env }) (compPost (model X.prog X.w) X.A X.xe use Qf acc cenv.locals) XN) X.xe YJ) X.xe ZX) X.xe ZV) X.xe s:=by
 refine thn (hi pins s σ H _ I h) λv s1 h1=>thn h1 λitv s2 h2=>?_;obtain⟨it,fp,tn,J,H2,e,I2,T,Zf,f2,W,⟨m0,w0⟩,turn⟩:=h2;subst e;have ZQ:∀b∈fp,b<8#7:=λb hb=>by obtain⟨o,ho,_⟩:=T.obj _ _ Zf b hb;exact az ho
 refine bJ (qT ?_);have I4:Inv _ [] _ H2 { s2 with heap:=pushCells ((s2.heap.push { cls := .type "list",dict:=b_,data := .seq [].toArray }).push { cls := .type "dict",data := .dict #[] }) _ }:=
  Hf I2 C f2 ZQ rfl rfl rfl
 generalize hXb:blk X N' scope s2 H2 fp=Xb at I4;have hD4:(pushCells ((s2.heap.push _).push { cls := .type "dict",data := .dict #[] }) 6#8).get? _=a_ { cls := .type "list",data := .seq [].toArray }:=
  pushCells_keeps _ _ _ _ (af _ (av _ rfl))
 have YU:tn 0 (pushCells ((s2.heap.push { cls := .type "list",dict:=b_,data := .seq [].toArray }).push { cls := .type "dict",data := .dict #[] }) 6#8):=
  T.keep _ _ _ Zf λb hb o e=>pushCells_keeps _ _ b o (af _ (af _ e))
 have henv:({ scope:=relabel scope X.env,locals:=(s2.heap.push { cls := .type "list",dict:=b_,data := .seq [].toArray }).objs.size,globals:=X.env.globals,cells:=cellsFrom ((s2.heap.push { cls := .type "list",dict:=b_,data := .seq [].toArray }).objs.size+1) scope.names (nB X.env scope.names []),qual:=X.env.qual,func:=b_,code:=X.env.code,frame:=X.env.frame,builtins:=X.env.builtins }:Env)=Xb.env:=by
  rw[<-hXb,bE];rfl
 generalize hs4:({ s2 with heap:=pushCells _ _ }:g_)=s4 at I4;have hD4':s4.heap.get? 8#7=a_ { cls := .type "list",data := .seq [].toArray }:=by rw [<-hs4];exact hD4
 have st4':tn 0 s4.heap:=by rw[<-hs4];exact YU
 have hL:Xb.env.locals=8#7+1:=by rw[<-hXb];rfl
 have hex:Xb.ex=fp:=by rw[<-hXb];rfl
 have hs0:Xb.s₀=s2:=by rw[<-hXb];rfl
 have hH0:Xb.H₀=H2:=by rw[<-hXb];rfl
 have XO:Xb.fs=frs X.stack:=by rw[<-hXb];rfl
 have hpn:Xb.pn=[]:=by rw[<-hXb];rfl
 have hK:Xb.K=X.K:=by rw[<-hXb];rfl
 have hP:Xb.prog=X.prog:=by rw[<-hXb];rfl
 have hw:Xb.w=X.w:=by rw[<-hXb];rfl
 have hA:Xb.A=X.A:=by rw[<-hXb];rfl
 have hxe:Xb.xe=λ_ _=>False:=by rw[<-hXb];rfl
 have hcb:Xb.calm=c_:=by rw[<-hXb];exact hc
 have WS:PTs Xb ifs tt:=by rw[<-hXb];exact ht _ _ _
 have heb:PE Xb elt te:=by rw[<-hXb];exact he _ _ _
 have hgb:∀(pl:List _) (s:g_) (H:Hp) (v:V) (u:f_) (Q:St->Hp->Prop),Inv Xb pl (σ++aS xs.length b_) H s->RelV v u->gT v H Q ->
   aD 1#5 X.A (assign tg Xb.env u) (λ_ s'=>∃τ H',τ.length=1#4/\Inv Xb pl (σ++τ) H' s'/\Q τ H') (λ_ _=>False) s:=by
  rw[<-hXb];exact htg _ _ _
 have WV:∀y c,Xb.env.cells.lookup y=a_ c->c≠8#7:=λy c e z=>by
  obtain⟨v,o,ho,hd⟩:=I4.cell y c e;rw[z,hD4']at ho;cases ho;cases hd
 have stat:∀{H':Hp}{pl:List _},(∀b∈fp,H' b=b_)->(∀p∈pl,p.1=8#7)->∀b∈fp,vI Xb pl H' b:=λ{H' pl} hn ZL b hb=>by
  refine⟨hn b hb,?_,?_,.inl (by rw[hex];exact hb),λy c e z=>?_,λp hp z=>?_⟩
  .rw[hL];exact aJ (cU (ZQ b hb))
  .exact I4.ok.exfs b (by rw[hex];exact hb)
  .exact(I4.ok.exf b (by rw[hex];exact hb)).2 y c e z
  .rw[hpn]at hp
   exact absurd (ZQ b hb) (by rw[<-z,(ZL p (by simpa using hp))];exact bu _)
 have Dfs:8#7∉Xb.fs:=by
  rw[XO];intro z;rcases aH.mp (I2.stkSub _ z) with e|e
  .exact absurd I2.lt (by rw[<-e];exact bu _)
  .exact I2.nofs 2#1 e
 have fin :∀ (s':g_) (i m:Nat) (ys:List V) (ZY:List f_) (n:Nat) (H':Hp) (Y3:St),Inv Xb [] Y3 H' s'->H' 8#7=b_->s'.heap.get? 8#7=a_ { cls := .type "list",data := .seq ZY.toArray n }->cX ys ZY->4#5<sizeLine ->
   (∀D,H' D=b_->Q (.ref D) (upd H' D (.lst ys)))->compPost 1#5 X.A X.xe use Qf (.ref 8#7) Xb.env.locals (.ok .next) s':=by
  intro s' i m ys ZY n H' Y3 I' hDn hDo rv hz q;obtain⟨ml,hml,_⟩:=I'.loc;have kb:∀b o,b≠Xb.env.locals->s'.heap.get? b=a_ o->s'.heap.get? b=a_ o:=λb o _ e=>e;have hDL:8#7≠Xb.env.locals:=by rw[hL];exact aJ (bV _)
  have hok1:=by
   have:=I'.hok.but I'.free kb;rw[hP,hw]at this;exact this
  have base:=I'.base;rw[hs0,hH0,hex,XO]at base;have un:Un (frs X.stack) fp H2 (upd H' s2.heap.objs.size (.lst ys)) s2.heap s'.heap:=by
   have ltL:∀b o,s2.heap.get? b=a_ o->b≠Xb.env.locals:=λb o e=>by rw[hL];exact aJ (cU (az e))
   refine⟨λb o e n hb hx=>kb b o (ltL b o e) (base.keep b o e n hb hx),λb o e n hb hx=>?_,λb o e n hx=>?_,λb o e hx=>?_,λb xs e=>?_,λb o u e=>?_,λb ps e=>?_⟩
   .obtain⟨sl,q⟩:=base.slot b o e n hb hx
    exact⟨sl,kb b _ (ltL b o e) q⟩
   .rw[bB ((λb o e=>aJ (az e)) b o e)];exact base.free b o e n hx
   .obtain⟨o',q⟩:=base.there b o e hx
    exact⟨o',kb b _ (ltL b o e) q⟩
   .have q:=base.tups b xs e
    rw[bB (bF q hDn)];exact q
   .have q:=base.frzs b o u e
    rw[bB (bF q hDn)];exact q
   .obtain⟨more,q⟩:=base.tbls b ps e
    exact⟨more,by rw[bB (bF q hDn)];exact q⟩
  refine hfin s' _ _ _ ml hml (I2.call' (by rw[I'.os,hs0]) un (hok1.track hDn ⟨aI hz,ZY,n,rv,kb _ _ hDL hDo⟩) I'.bare λb hb=>⟨(f2 b hb).2.2.2.1,(f2 b hb).2.1,(f2 b hb).2.2.2.2.1,(f2 b hb).2.2.2.2.2⟩) ?_ ?_ ?_ ?_ ?_ (q _ hDn)
  .rw[bB (eI hDL)];exact I'.free
  .rw[hL];exact dW (cU I2.lt)
  .rw[hL];exact dG I2.sz
  .intro y c e z
   obtain⟨v,o,ho,_⟩:=I2.cell y c e;have:=az ho;rw[z,hL]at this;exact absurd (Nat.lt_of_succ_lt this) (bu _)
  .intro p hp z
   have:=az (I2.pin p hp).1;rw[z,hL]at this;exact absurd (Nat.lt_of_succ_lt this) (bu _)
 have loop:∀it':e_,it'=it->pQ 1#5 X.A (.compLoop (.ListComp elt [⟨tg,iter,ifs,0⟩] scope pos) 0 (.ref it') (.ref 8#7) Xb.env) (compPost 1#5 X.A X.xe use Qf (.ref 8#7) Xb.env.locals) s4:=by
  rintro it' rfl
  refine ny (λn s' =>∃(i:Nat) (ys:List V) (ZY:List f_) (nn:Nat) (H':Hp),Inv Xb [] _ H' s'/\tn i s'.heap/\(∀b∈fp,H' b=b_)/\H' _=b_ /\
   s'.heap.get? _=a_ { cls := .type "list",data := .seq ZY.toArray nn }/\cX ys ZY/\W i n ys H') ?_ m0 ⟨0,[],[],_,H2,I4,st4',fun b hb=>(f2 b hb).1,I2.hok.fresh (ak _),hD4',.nil,w0⟩
  rintro n s3 ⟨i,ys,ZY,nn,H3,I3,ZE,fr3,hD3,hDo3,f',w3⟩;obtain⟨hz,turn⟩:=turn i n ys H3 w3;have pinD:∀{s':g_}{H':Hp}{Y3:St}{oD:Obj},Inv Xb [] Y3 H' s'->H' _=b_->s'.heap.get? _=a_ oD->(∀v,oD.data≠.cell v)->Inv Xb [(8#7,oD)] Y3 H' s':=λ{s' H' Y3 oD} I' hn ho hd=>
   I'.pins_of λp hp=>by
    have e:=by simpa using hp
    subst e;exact⟨ho,hn,by rw[hL];exact aJ (bV _),Dfs,hd⟩
  have I3p:=pinD I3 hD3 hDo3 (λv z=>by cases z);have ZL :∀ p ∈ [(8#7,({ cls := .type "list",data := .seq ZY.toArray nn }:Obj))],p.1=8#7:=fun p hp=>by
   have e:=bx.mp hp;rw[e]
  rcases turn with⟨stop,qn⟩|⟨go,step⟩
  .have q:=T.done Xb hP hw hK hcb i _ s3 _ H3 (λ_ _=>False) I3p (stat fr3 ZL) ZE stop
   rw[hA]at q;refine dv q (λr s5 ⟨hr,I5⟩=>?_) λ_ _ z=>en z;subst hr;exact fin s5 i n ys ZY nn H3 _ (I5.pins_of λp hp=>absurd hp 0#3) hD3 (I5.pin _ (a8 _ (bx.mpr rfl))).1 f' hz qn
  .have q:=T.item Xb hP hw hK hcb i _ s3 _ H3 (λ_ _=>False) I3p (stat fr3 ZL) ZE go
   rw[hA]at q;refine dv q (λr s45 ⟨u,hr,h5⟩=>?_) λ_ _ z=>en z;subst hr;refine dv h5 (λ_ s5 ⟨y5,H5,I5,r5,yl5,Zj,fr5⟩=>?_) λ_ _ z=>en z;refine dv (hgb _ s5 H5 y5 _ _ (I5.pinned (stat fr5 ZL) (T.obj _ _ Zj)) r5 (step y5 H5 yl5)) (λ_ s6 ⟨τ,H6,hτ,I6,q6⟩=>?_) λ_ _ z=>en z;have qt:=WS _ s6 _ H6 _ I6 q6;rw[hP,hw,hA,hxe]at qt;refine dv qt (λb s7 ⟨H7,I7,q7⟩=>?_) λ_ _ z=>en z;have again :∀ {s8:g_}{H8:Hp}{Z0:St},Inv Xb ([(8#7,({ cls := .type "list",data := .seq ZY.toArray nn }:Obj))]++zU fp s5.heap) Z0 H8 s8->tn (i+1) s8.heap/\(∀ b∈fp,H8 b=b_)/\H8 _=b_/\s8.heap.get? _=a_ _:=fun {s8 H8 Z0} I8=>by
    refine⟨T.keep _ _ _ Zj λb hb o e=>(I8.pin (b,o) (a8 _ (a8 _ (mm hb e)))).1,λb hb=>?_,?_,?_⟩
    .obtain⟨o,e,d⟩:=T.obj _ _ Zj b hb
     exact(I8.pin (b,o) (a8 _ (a8 _ (mm hb e)))).2.1
    .exact(I8.pin _ (a8 _ (bf _ (bx.mpr rfl)))).2.1
    .exact(I8.pin _ (a8 _ (bf _ (bx.mpr rfl)))).1
   have forget:∀{s8:g_}{H8:Hp}{pl:List _},Inv Xb pl (σ++τ) H8 s8->Inv Xb [] (σ++aS xs.length b_) H8 s8:=λ{s8 H8 pl} I8=>
    (I8.pins_of λp hp=>absurd hp 0#3).weak (by simp[hτ]) λj v hj=>by
     by_cases hjs:j<σ.length
     .rw[aT hjs]at hj ⊢;exact hj
     .rw[bo (d5 0#4),jv]at hj
      split at hj<;>simp at hj
   cases b with
   | false=>
     obtain⟨m',hm,w7⟩:=q7;obtain⟨a1,a2,a3,a4⟩:=again I7;exact⟨m',hm,i+1,ys,ZY,nn,H7,forget I7,a1,a2,a3,a4,f',w7⟩
   | true=>
     have qe:=heb _ s7 _ H7 _ I7 q7;rw[hP,hw,hA,hxe]at qe;refine dv qe (λuv s8 ⟨y8,H8,I8,r8,m',hm,w8⟩=>?_) λ_ _ z=>en z;obtain⟨a1,a2,a3,a4⟩:=again I8;have hl3:=f'.length;refine call_meets F.slot_list_append ⟨_,a4,rfl⟩ F.entry_list_append (F.args_list_append_2 _ _) (PySem.list_append _ _ nn uv (by rw[bP];lia)) ⟨a4,?_⟩;have hup:=K9 a4 (·.push uv);have e1:(ZY.toArray.push uv)=(ZY++[uv]).toArray:=by simp
     rw[e1]at hup;have I10:=
      (forget I8).turned (t':=s8.toks) (λb' u hb hu=>(cQ s8.heap (cN (·.push uv)) (eI hb)).trans hu) a3 (by rw[hL];exact aJ (bV _)) (.inr (by rw[hs0];exact ak _)) WV (λp hp=>by rw[hpn]at hp;exact absurd hp 0#3)
     exact⟨m',hm,i+1,ys++[y8],_,_,H8,I10,T.keep _ _ _ a1 λb hb o e=>((cQ s8.heap _ (by first |exact dW (ZQ b hb) |exact aJ (ZQ b hb))).trans e),a2,a3,hup,f'.append (.cons r8 .nil),w8⟩
 rw[henv];have eL:(s2.heap.push { cls := .type "list",dict:=b_,data := .seq [].toArray }).objs.size=Xb.env.locals:=by rw [bE,hL]
 rw[eL];exact(codeAny_compStart_list (loop it rfl) (T.self X.A 0 s4 _ _ st4' (loop it rfl)))
theorem E5(C:jR X N' scope [x])(ZX:g_)(ZS:Hp)(fp:List e_)(pl:List 2#7)(s:g_)(H:Hp)(v:V)(u:f_)(Q:St->Hp->Prop)(I:Inv 12#5 pl (σ++aS [x].length b_) H s)(r:RelV v u)(q:gT1 v H Q):
  aD 1#5 X.A (assign (.Name x px) (blk X N' scope ZX ZS fp).env u) (λ_ s'=>∃τ H',τ.length=[x].length/\Inv 12#5 pl (σ++τ) H' s'/\Q τ H') (λ_ _=>False) s:=by
 have hl:σ.length=X.N.length:=by
  have:=I.len;rw[show(blk X N' _ _ _ fp).N=N' from rfl,C.len,aU,qB]at this
  lia
 have hlocx:Loc (blk X N' scope ZX ZS fp).env.scope x:=by
  rcases C.own x 0#3 with e|e
  .exact .inl (lookup_relabel_local e)
  .exact .inr (mD e)
 have hfx:(blk X N' scope ZX ZS fp).fn x=c_\/(blk X N' scope ZX ZS fp).env.scope.names.lookup x=a_ .local:=by
  rcases C.own x 0#3 with e|e
  .right;exact lookup_relabel_local e
  .left;show(scope.names.lookup x==a_ _)=c_;rw[e];rfl
 refine Cz (rj I C.ndN (i:=X.N.length) (C.last 0 x rfl) hlocx r (λs6 I6=>?_) hfx);have Xy:(σ++aS [x].length b_).set X.N.length (a_ v)=σ++[a_ v]:=by
  rw[<-hl];simp
 rw[Xy]at I6;exact⟨_,H,rfl,I6,q⟩
theorem Lx(hc:X.calm=c_)(C:jR X N' scope [x])(hi:PI X (.Name x px) iter wi)
  (ht:∀ZX ZS fp,PTs 12#5 ifs tt) (he:∀ZX ZS fp,PE 12#5 elt te)
  (hs:autoParam 18#7 au3._auto_1):
  PE X 17#1 (qI wi tt te):=λpins s σ H Q I h=>wpAny_comprehension_free rfl hs (mV (C.frees I.ok)) C.kind (λy hy e=>oS C.nd (by rw[<-e];omega)) (yN (gT:=gT1) hc C hi ht he I h (E5 C) λs' L D H' ml hml I' hn h1 h2 h3 h4 q=>(⟨ml,hml,λh' hsb=>⟨.ref D,H',I'.turned (λb o hb e=>(hsb.2 b hb).trans e) hn h1 (.inr h2) h3 h4,rfl,q⟩⟩))
theorem Ly{i:Nat}{y:Str}{py Ym:Pos}(hN:X.N.Nodup)(ZP:X.N[i]?=a_ y)(hy:Loc X.env.scope y)(hc:X.calm=c_)(C:jR X N' scope [x])(hi:PI X (.Name x px) iter wi)
  (ht:∀ZX ZS fp,PTs 12#5 ifs tt) (he:∀ZX ZS fp,PE 12#5 elt te)
  (hsw:swapsWith 17#1 (a_ (.Name y py)) Ym.line X.env=pure c_)
  (hs:autoParam 18#7 au3._auto_1) (hf:autoParam (X.fn y=c_\/X.env.scope.names.lookup y=a_ .local) au4._auto_1):
  PS X (.Assign [.Name y py] 17#1 Ym) (F7 (qI wi tt te) (j6 i)):=by
 intro pins s σ H D I h;rw[exec_Assign_Name_used _ _ _ _ hsw];refine ab (wpAny_standAt (ab ?_))
 refine ab (dv (wpAny_comprehension_free rfl hs (mV (C.frees I.ok)) C.kind (λy hy e=>oS C.nd (by rw[<- e];omega))
  (yN (gT:=gT1) (Q:=λv H1=>j6 i v σ H1 _) hc C hi ht he I h (E5 C) λs' L D' H' ml hml I' hn h1 h2 h3 h4 q =>?_)) (λ_ s' hq=>aj (aj hq)) λ_ _ e=>e)
 refine Cz (xY (v:= .ref D') I' hN ZP hy rfl (λs6 I6 hsb=>?_) hf);obtain⟨a,hsb,ha⟩:=hsb;have haL:L≠a:=by
  rcases ha with e|e
  .rw[e];omega
  .exact eI (h3 _ _ e)
 exact⟨ml,hml.sameBut hsb haL,λh' hsb'=>⟨_,H',I6.turned (λb o hb e=>(hsb'.2 b hb).trans e) hn h1 (.inr h2) h3 h4,q⟩⟩
end
end _L
namespace HT
open PySem PyProof.Rows
open PySem.SeqAt
open PySem.AutoSeq1 (wpAny_loadPart')
open PySem.MeetsSeq PySem.MeetsSeq2 PySem.MeetsSeq3
section
variable {prog:Program}{w:World}{A:Around}{E:f_->g_->Prop}{s:g_}
variable{Q:f_->g_->Prop}
theorem getItem_tuple_whole{t sl:e_}{items:Array f_}{vl vu:f_}{lo hi:Option Int}(ht:IsTup s.heap t items)(hs:s.heap.IsSliceOf sl vl vu .none)(pl:IsPart vl lo)(pu:IsPart vu hi)
  (hw:sIx items.size 0 lo=0/\sIx items.size items.size hi=3#5)
  (h:Q (.ref t) s):aD 1#7 A (getItem (.ref t) (.ref sl)) Q E s:=by
 obtain⟨os,Yw,XW,hds⟩:=id hs;unfold getItem
 try with_reducible refine dF ?_
 refine ab (wpAny_sequenceKey ht.typeIs 0#2 ?_)
 refine ab (bO ht.typeIs fH
  (bG fH ht.typeIs entry_tuple_getitem ?_ (args_tuple_getitem _ _)))
 show aD _ _ (uq _ >>= _) _ _ s;refine ab (tupleItemsOf_ ht ?_);refine ab (jf ⟨os,Yw,XW⟩ ?_);refine ab (lK hs pl pu ?_);rw[hw.1,hw.2];show aD _ _ (if (0==0&&1==1&&(3#5-0)==3#5)=c_ then _ else _) _ _ s;rw[if_pos 0#3];obtain⟨o,ho,hc,n,hd⟩:=id ht;refine ab ?_;refine ab (jf ⟨o,ho,hc⟩ (aj ?_));refine ab (fg ?_)
 first
  |exact aj ⟨_,rfl,aj h⟩
  |grind
theorem cat_tup0{t b:e_}{ws:List f_}(ht:IsTup s.heap t ([]:List f_).toArray)(hb:IsTup s.heap b ws.toArray)(h:Q (.ref b) s):aD 1#7 A (binaryOp .Add (.ref t) (.ref b)) Q E s:=by
 obtain⟨⟨cls,dd,data,sl⟩,ho,hc,n,hd⟩:=id ht;obtain⟨⟨cls2,dd2,data2,sl2⟩,Yv,XT,n2,hd2⟩:=id hb;subst hc hd XT hd2;exact concat_meets ⟨_,ho,rfl⟩ ⟨_,Yv,rfl⟩ noFill_tuple_add seq_tuple_add oz m6 (mN _ _)
   (tuple_addW0 t b _ _ n n2 dd _ sl _ 0#3) ⟨ho,Yv,h⟩
end
end HT
namespace _G
open PySem PySem.SeqAt
open PySem.AutoSeq1 (wpAny_loadPart')
open PySem.MeetsSeq PySem.MeetsSeq2 PySem.MeetsSeq3
theorem xE(l:e_)(items:Array f_)(n:Nat)(dd:Option e_)(sl:Array (Option f_))(x:f_)(e:f_->Bool)(j:Nat)(hj:j<3#5)
  (hit:e items[j]=c_) (hno:∀m (hm:m<3#5),m<j->e items[m]=d_):
  Meets (Builtin.«tuple.index» ⟨[.ref l,x],[]⟩)
   (fun A R s=>s.heap.get? l=a_ { cls := .type "tuple",dict:=dd,data := .seq items n,slots:=sl }/\(∀ y,y∈items->EqAt A.in1 s y x (e y))/\R (.ok (.ret (.int j s.toks))) { s with toks:=s.toks+1 }):=
 .of_wp λprog w A R s h=>by
  obtain⟨hp,g,d,tk,os⟩:=s;obtain⟨hl,he,h⟩:=h;simp only[Builtin.«tuple.index»,Std.Legacy.Range.forIn_eq_forIn_range']
  wp_walk using fw hl,wpAny_forIn_list _ (λrest b s'=>b.1=b_/\s'=⟨hp,g,d,tk,os⟩ /\ ∃i,i<=j/\rest=ba i (items.size-i)) _
  case turn=>
   rintro y rest b s' ⟨hb,rfl,i,YH,YA⟩;have ZQ:i<3#5:=by
    rcases La i 3#5 with q|q
    .exact q
    .exact aM 0#4 0#4
   obtain⟨k,hk⟩ :∃k,3#5-i=k+1:=⟨3#5-i-1,by lia⟩;rw[hk]at YA;injection YA with h1 h2
   subst h1;have hg:items[y]?=a_ items[y]:=by simp[ZQ]
   rw[hg];refine ab (he _ (Array.getElem_mem ZQ) prog w _ _ ?_);by_cases hyj:y=j
   .subst hyj
    wp_walk
    exact⟨_,rfl,h⟩
   .rw[hno y ZQ (bH 0#4 0#4)]
    wp_walk
    exact⟨rfl,rfl,y+1,bH 0#4 0#4,by rw[h2];congr 1;lia⟩
  case fin=>
   rintro ⟨b1,b2⟩ s' ⟨hb,rfl,i,YH,YA⟩;exfalso;have h3:=congrArg eV YA;simp at h3
   lia
  case h=>
   exact⟨rfl,rfl,0,bS _,by simp⟩
theorem sj:fillsNumberSlot (.type "tuple") "mul"=pure d_:=
 fillsNumberSlot_seq F.slot_tuple_mul.lookup 1#1 F.slot_tuple_rmul.lookup 1#1
theorem zq:seqRepeat? (.type "tuple")=pure (a_ (.builtin "tuple.__mul__")):=rfl
theorem vd(a:Int)(t:Tok)(l:e_)(items:Array f_)(n:Nat)(dd:Option e_)(sl:Array (Option f_)):
  Meets (Builtin.«int.__rmul__» ⟨[.int a t,.ref l],[]⟩) (fun _ R s=>s.heap.get? l=a_ { cls := .type "tuple",dict:=dd,data := .seq items n,slots:=sl }/\R (.ok (.ret Value.notImplemented)) s):=
 .of_wp λprog w A R s h=>by obtain⟨hl,h⟩:=h;wp_walk;simp_all
theorem xA(l:e_)(items:Array f_)(n:Nat)(dd:Option e_)(sl:Array (Option f_))(t:Tok):
  Meets (Builtin.«tuple.__mul__» ⟨[.ref l,.int 1 t],[]⟩) (fun _ R s=>s.heap.get? l=a_ { cls := .type "tuple",dict:=dd,data := .seq items n,slots:=sl }/\R (.ok (.ret (bZ l))) { s with toks:=s.toks }):=
 .of_wp λprog w A R s h=>by
  obtain⟨hl,h⟩:=h
  wp_walk using fw hl
  exact⟨_,rfl,h⟩
theorem Er(l:e_)(items:Array f_)(n:Nat)(dd:Option e_)(sl:Array (Option f_))(t:Tok)(he:items.isEmpty=d_):
  Meets (Builtin.«tuple.__mul__» ⟨[.ref l,.int 0 t],[]⟩) (fun _ R s=>s.heap.get? l=a_ { cls := .type "tuple",dict:=dd,data := .seq items n,slots:=sl }/\R (.ok (.ret (bZ 1#0))) { s with heap:=s.heap.push { cls:=jd "tuple",data:=xq #[] },toks:=s.toks }):=
 .of_wp λprog w A R s h=>by
  obtain⟨hl,h⟩:=h
  wp_walk using fw hl
  exact⟨_,rfl,h⟩
theorem Ec(l:e_)(items:Array f_)(n:Nat)(dd:Option e_)(sl:Array (Option f_))(k:Int)(t:Tok)(h1: ¬(items.isEmpty||k==1)=c_)(h0:0<k)(hk:k<1000)(hz:3#5<1000):
  Meets (Builtin.«tuple.__mul__» ⟨[.ref l,.int k t],[]⟩) (fun _ R s=>s.heap.get? l=a_ { cls := .type "tuple",dict:=dd,data := .seq items n,slots:=sl } /\
   R (.ok (.ret (bZ s.heap.objs.size))) { s with heap:=s.heap.push { cls:=jd "tuple",data:=xq ((aS k.toNat items).foldl (· ++ ·) #[]) },toks:=s.toks }):=
 .of_wp λprog w A R s h=>by
  obtain⟨hp,g,d,tk,os⟩:=s;obtain⟨hl,h⟩:=h;have f1:=Ll;have hno: ¬((decide (k < -2^63)||decide (k >= 2^63))=c_):=by
   rw[Bool.or_eq_true,decide_eq_true_eq,decide_eq_true_eq];lia
  have he:items.isEmpty=d_:=by
   cases q:items.isEmpty with
   |false=>rfl
   |true=>rw[q]at h1;simp at h1
  have hno2: ¬((decide (k<=0)||items.isEmpty)=c_):=by
   rw[he,Bool.or_false,decide_eq_true_eq];lia
  have hp1:(3#5:Int)*k<=1000000:=by
   have a1:(3#5:Int)*k<=1000*k:=Int.mul_le_mul_of_nonneg_right 0#0 0#0
   lia
  have XG: ¬((3#5:Int)*k>(2^63-1)/8):=by lia
  have Zl: ¬(ur ((3#5:Int)*k)=c_):=by
   unfold ur;simp only[sizeLine_eq,decide_eq_true_eq,gt_iff_lt]
   lia
  have ZF:(CN (λx1 x2=>x1++x2) #[] (aS k.toNat items)).size<=sizeLine:=by
   have e:∀(m:Nat) (a:Array f_),(CN (λx1 x2=>x1++x2) a (aS m items)).size=a.size+m*3#5:=by
    intro m
    induction m with
    |zero=>intro a;simp
    |succ m ih=>intro a;rw[ud,g9,ih];simp;rw[qw];lia
   rw[e];have a2:k.toNat*3#5<=1000*3#5:=iJ _ 0#0;rw[sizeLine_eq];simp;lia
  wp_walk using fw hl
  rw[if_neg hno]
  wp_walk using fw hl
  rw[if_neg h1]
  wp_walk using fw hl
  rw[if_neg XG]
  wp_walk using fw hl
  all_goals first |exact⟨_,rfl,h⟩ |skip
end _G
namespace _G
open PySem PySem.Spec _L
open PyProof.Rows hiding St
mutual
def RU(H:Hp)(μ:List e_):U->V->Prop
 |.non,v=>v=.non
 |.bl b,v=>v=.bl b
 |.int i,v=>v=.int i
 |.str x,v=>v=.str x
 |.tup us,v=>∃a vs,v=.ref a/\H a=a_ (.tup vs)/\RUs H μ us vs
 |.ref n,v=>∃a,v=.ref a/\μ[n]?=a_ a
 |.obj a,v=>v=.ref a
def RUs(H:Hp)(μ:List e_):List U->List V->Prop
 |[],vs=>vs=[]
 |u::us,vs=>∃v r,vs=v::r/\RU H μ u v/\RUs H μ us r
end
structure bD(H H':Hp):Prop where
 t:∀a vs,H a=a_ (.tup vs)->H' a=a_ (.tup vs)
 f:∀a o u,H a=a_ (.frz o u)->H' a=a_ (.frz o u)
instance{H H':Hp}:CoeFun (bD H H') λ_=>∀a vs,H a=a_ (.tup vs)->H' a=a_ (.tup vs):=⟨bD.t⟩
def Pre(μ Y6:List e_):Prop:= ∃t,Y6=μ++t
theorem bD.refl(H:Hp):bD H H:=⟨λ_ _ h=>h,λ_ _ _ h=>h⟩
variable{H H1:Hp}
theorem bD.trans{H2:Hp}(a:bD H H1)(b:bD H1 H2):bD H H2:=⟨λc vs h=>b c vs (a c vs h),λc o u h=>b.f c o u (a.f c o u h)⟩
theorem Pre.refl(μ:List e_):Pre μ μ:=⟨[],by simp⟩
variable{μ Y0:List e_}
theorem Pre.trans{Y7:List e_}(a:Pre μ Y0)(b:Pre Y0 Y7):Pre μ Y7:=by
 obtain⟨t,rfl⟩:=a;obtain⟨u,rfl⟩:=b;exact⟨t++u,by simp⟩
variable{n:Nat}{a:e_}
theorem Pre.get{Y6:List e_}(p:Pre μ Y6)(h:μ[n]?=a_ a):Y6[n]?=a_ a:=by
 obtain⟨t,rfl⟩:=p;rw[aT ((ag.mp h).1)];omega
variable{p:e_}
theorem bD.new{o:HO}(h:H p=b_):bD H (upd H p o):=⟨λa vs e=>by rw[bB (bF e h)];omega,λa _ _ e=>by rw[bB (bF e h)];omega⟩
theorem bD.wr{xs ys:List V}(h:H p=a_ (.lst xs)):bD H (upd H p (.lst ys)):=⟨λa vs e=>by
 rw[bB (tN e h 10#0)];omega,λa _ _ e=>by
 rw[bB (tN e h (by grind))];omega⟩
mutual
theorem RU.mono{H H':Hp}{μ Y6:List e_}(k:bD H H')(p:Pre μ Y6):∀(u:U) (v:V),RU H μ u v->RU H' Y6 u v
 |.non,_,h=>by simpa [RU]using h
 |.bl _,_,h=>by simpa [RU]using h
 |.int _,_,h=>by simpa [RU]using h
 |.str _,_,h=>by simpa [RU]using h
 |.obj _,_,h=>by simpa [RU]using h
 | .ref n,v,h=>by
   simp only[RU]at h ⊢;obtain⟨a,e,q⟩:=h;exact⟨a,e,p.get q⟩
 | .tup us,v,h=>by
   simp only[RU]at h ⊢;obtain⟨a,vs,e,q,r⟩:=h;exact⟨a,vs,e,k a vs q,RUs.mono k p us vs r⟩
theorem RUs.mono{H H':Hp}{μ Y6:List e_}(k:bD H H')(p:Pre μ Y6):∀(us:List U) (vs:List V),RUs H μ us vs->RUs H' Y6 us vs
 |[],_,h=>by simpa [RUs]using h
 | u::us,vs,h=>by
   simp only[RUs]at h ⊢;obtain⟨v,r,e,a,b⟩:=h;exact⟨v,r,e,RU.mono k p u v a,RUs.mono k p us r b⟩
end
section
variable {H:Hp}{μ:List e_}
theorem RUs.nil:RUs H μ [] []:=by simp[RUs]
theorem RUs.cons{u:U}{us:List U}{v:V}{vs:List V}(a:RU H μ u v)(b:RUs H μ us vs):RUs H μ (u::us) (v::vs):=⟨v,vs,rfl,a,b⟩
variable{us:List U}{vs:List V}
theorem RUs.inv{u:U}(h:RUs H μ (u::us) vs):∃v r,vs=v::r/\RU H μ u v/\RUs H μ us r:=by simpa only [RUs]using h
theorem RUs.nil_inv(h:RUs H μ [] vs):vs=[]:=by simpa only [RUs]using h
theorem RUs.len:∀{us:List U}{vs:List V},RUs H μ us vs->1#3=2#4
 |[],vs,h=>by rw[h.nil_inv];rfl
 | u::us,vs,h=>by
   obtain⟨v,r,rfl,_,b⟩:=h.inv;simp[b.len]
theorem RUs.get:∀{us:List U}{vs:List V}{i:Nat}{u:U},RUs H μ us vs->us[i]?=a_ u->∃v,vs[i]?=a_ v/\RU H μ u v
 |[],vs,i,u,h,e=>by simp at e
 | x::us,vs,0,u,h,e=>by
   obtain⟨v,r,rfl,a,b⟩:=h.inv
   simp_all
 | x::us,vs,i+1,u,h,e=>by
   obtain⟨v,r,rfl,a,b⟩:=h.inv;obtain⟨w,h1,h2⟩:=RUs.get b 10#6
   simp_all
theorem RUs.append:∀{us ws:List U}{vs xs:List V},RUs H μ us vs->RUs H μ ws xs->RUs H μ (us++ws) (vs++xs)
 |[],ws,vs,xs,h,g=>by rw[h.nil_inv];exact g
 | u::us,ws,vs,xs,h,g=>by
   obtain⟨v,r,rfl,a,b⟩:=h.inv;exact .cons a (b.append g)
theorem RUs.set{u:U}{v:V}(q:RU H μ u v):∀{us:List U}{vs:List V} (i:Nat),RUs H μ us vs->RUs H μ (us.set i u) (vs.set i v)
 |[],vs,i,h=>by rw[h.nil_inv];simpa using RUs.nil
 | x::us,vs,0,h=>by
   obtain⟨w,r,rfl,a,b⟩:=h.inv;exact .cons q b
 | x::us,vs,i+1,h=>by
   obtain⟨w,r,rfl,a,b⟩:=h.inv;exact .cons a (RUs.set q i b)
theorem RUs.eraseIdx:∀{us:List U}{vs:List V} (i:Nat),RUs H μ us vs->RUs H μ (us.eraseIdx i) (vs.eraseIdx i)
 |[],vs,i,h=>by rw[h.nil_inv];simpa using RUs.nil
 | x::us,vs,0,h=>by
   obtain⟨w,r,rfl,a,b⟩:=h.inv;exact b
 | x::us,vs,i+1,h=>by
   obtain⟨w,r,rfl,a,b⟩:=h.inv;exact .cons a (RUs.eraseIdx i b)
theorem RUs.drop:∀{us:List U}{vs:List V} (i:Nat),RUs H μ us vs->RUs H μ (us.drop i) (vs.drop i)
 |us,vs,0,h=>h
 |[],vs,i+1,h=>by rw[h.nil_inv];simpa using RUs.nil
 | x::us,vs,i+1,h=>by
   obtain⟨w,r,rfl,a,b⟩:=h.inv;exact RUs.drop i b
theorem RUs.take:∀{us:List U}{vs:List V} (i:Nat),RUs H μ us vs->RUs H μ (us.take i) (vs.take i)
 |us,vs,0,h=>by simpa using RUs.nil
 |[],vs,i+1,h=>by rw[h.nil_inv];simpa using RUs.nil
 | x::us,vs,i+1,h=>by
   obtain⟨w,r,rfl,a,b⟩:=h.inv;exact .cons a (RUs.take i b)
theorem RUs.dropLast(h:RUs H μ us vs):RUs H μ us.dropLast vs.dropLast:=by
 rw[Lh,Lh,h.len];exact h.take _
theorem RUs.ints:∀(ns:List Int),RUs H μ (ns.map U.int) 11#1
 |[]=>.nil
 |n::ns=>.cons (by simp[RU]) (RUs.ints ns)
end
structure KX where
 K:ao
 caps:List U
 capv:List V
 cds:List (e_×Obj)
 tabs:List (e_×Str)
instance:Coe KX ao:=⟨KX.K⟩
def fz:HO:= .ext λ_=>True
def Do(H:Hp)(P:e_)(q:Str):Prop:= ∃ps:Array f_,H P=a_ (.tbl ps)/\TriplesOk ps.toList /\
 ∀pos cv,codeAmong pos ps.toList=a_ cv->∃c oc vs t,cv=.ref c/\H c=a_ (.frz oc fz)/\oc.data=.fields vs/\vs[1]?=a_ (.str q t)
structure HX(K:KX)(μ:List e_)(H:Hp):Prop where
 cap:RUs H μ K.caps K.capv
 cds:∀q∈K.cds,H q.1=a_ (.frz q.2 fz)
 tab:∀q∈K.tabs,Do H q.1 q.2
theorem HX.upd{K:KX}{μ Y6:List e_}{H:Hp}{p:e_}{o':HO}(h:HX K μ H)(kp:bD H (upd H p o'))(pre:Pre μ Y6)(nf:∀o,H p=a_ o->(∀o' u,o≠.frz o' u) /\ ∀ps,o≠.tbl ps):HX K Y6 (upd H p o'):=by
 have f:∀a o u,H a=a_ _->_L.upd H p o' a=a_ (.frz o u):=λa o u e=>by
  rw[bB]
  .omega
  .rintro rfl
   exact(nf _ e).1 o u rfl
 refine⟨RUs.mono kp pre _ _ h.cap,λq hq=>f _ _ _ (h.cds q hq),λq hq=>?_⟩;obtain⟨ps,e,tr,al⟩:=h.tab q hq;refine⟨ps,?_,tr,λpos cv hc=>?_⟩
 .rw[bB]
  .omega
  .intro z
   rw[z]at e;exact(nf _ e).2 ps rfl
 .obtain⟨c,oc,vs,t,e1,e2,e3,e4⟩:=al _ cv hc
  exact⟨c,oc,vs,t,e1,f _ _ _ e2,e3,e4⟩
def dV{κ:Type}(kvs:List (κ×U))(vs:List V):List (κ×V):=(kvs.map (·.1)).zip vs
def pE(K:KX)(H:Hp)(μ:List e_)(a:e_):Cell->Prop
 |.lst us=>∃vs,H a=a_ (.lst vs)/\RUs H μ us vs
 |.frz us=>∃vs,((∃o,H a=a_ (.frz o (.lst vs)))\/SqL K (λ_=>b_) a vs)/\RUs H μ us vs
 |.dic kvs=>∃vs,H a=a_ (.dK (dV kvs vs))/\RUs H μ (kvs.map (·.2)) vs
 |.dit d_ kvs=>∃vs,H a=a_ (.dT (dV kvs vs))/\RUs H μ (kvs.map (·.2)) vs
 |.dit c_ kvs=>∃vs,(∃o,H a=a_ (.frz o (.dT (dV kvs vs))))/\RUs H μ (kvs.map (·.2)) vs
def Cell.own:Cell->Bool
 |.frz _=>d_
 |.dit f _=>!f
 |_=>c_
structure HR(K:KX)(μ:List e_)(S:Sto)(H:Hp):Prop where
 len:μ.length=S.length
 inj:∀(n m:Nat) (c d:Cell),S[n]?=a_ c->S[m]?=a_ d->c.own=c_->d.own=c_->μ[n]?=μ[m]? -> n=m
 cell:∀(n:Nat) (c:Cell) (a:e_),S[n]?=a_ c->μ[n]?=a_ a->pE K H μ a c
 ext:HX K μ H
structure ER(H:Hp)(μ:List e_)(G:Rho)(σ:St):Prop where
 len:G.length=σ.length
 get:∀(i:Nat) (u:U),G[i]?=a_ (a_ u)->∃v,σ[i]?=a_ (a_ v)/\RU H μ u v
theorem ER.mono{H H':Hp}{μ Y6:List e_}{G:Rho}{σ:St}(e:ER H μ G σ)(k:bD H H')(p:Pre μ Y6):ER H' Y6 G σ:=
 ⟨e.len,λi u h=>let ⟨v,a,b⟩:=e.get i u h;⟨v,a,RU.mono k p u v b⟩⟩
variable{u:U}{G:Rho}{σ:St}{v:V}
theorem ER.set(e:ER H μ G σ)(r:RU H μ u v)(i:Nat):ER H μ (G.set i (a_ u)) (σ.set i (a_ v)):=by
 refine⟨by simpa using e.len,λj w h=>?_⟩;by_cases hj:i=j
 .subst hj
  rw[List.getElem?_set]at h;simp only[if_true]at h
  split at h
  .cases h
   refine⟨v,?_,r⟩;rw[aV (by rw[<-e.len];omega)]
  .cases h
 .rw[aN hj]at h
  obtain⟨x,a,b⟩:=e.get j w h
  simp_all
theorem ER.push(e:ER H μ G σ)(r:RU H μ u v):ER H μ 11#0 (σ++[a_ v]):=by
 refine⟨by simp[e.len],λj w h=>?_⟩;by_cases hj:j<G.length
 .rw[aT hj]at h
  obtain⟨x,a,b⟩:=e.get j w h;exact⟨x,by rw[aT (by rw[<-e.len];lia)];lia,b⟩
 .have Zz:j=G.length:=by
   have:=(ag.mp h).1;simp at this;lia
  subst Zz;simp at h;subst h;refine⟨v,?_,r⟩;rw[e.len];simp
section
variable {K:KX}{H:Hp}{μ:List e_}{S:Sto}
theorem pE.mono{H':Hp}{Y6:List e_}{a:e_}{c:Cell}(h:pE K H μ a c)(k:bD H H')(p:Pre μ Y6)(l:c.own=c_->H' a=H a)(f:∀o u,H a=a_ (.frz o u)->H' a=a_ (.frz o u)):pE K H' Y6 a c:=by
 cases c with
 | lst us=>
   obtain⟨vs,e,r⟩:=h;exact⟨vs,(l rfl).trans e,RUs.mono k p us vs r⟩
 | dic kvs=>
   obtain⟨vs,e,r⟩:=h;exact⟨vs,(l rfl).trans e,RUs.mono k p _ vs r⟩
 | dit b kvs=>
   cases b with
   | false=>
     obtain⟨vs,e,r⟩:=h;exact⟨vs,(l rfl).trans e,RUs.mono k p _ vs r⟩
   | true=>
     obtain⟨vs,⟨o,e⟩,r⟩:=h;exact⟨vs,⟨o,f o _ e⟩,RUs.mono k p _ vs r⟩
 | frz us=>
   obtain⟨vs,e,r⟩:=h;refine⟨vs,?_,RUs.mono k p us vs r⟩
   grind
variable{c:Cell}
theorem pE.has(h:pE K H μ a c)(ho:c.own=c_):∃o,H a=a_ o/\(∀vs,o≠.tup vs)/\(∀o' u,o≠.frz o' u) /\ ∀ps,o≠.tbl ps:=by
 cases c with
 |lst us=>obtain⟨vs,e,r⟩:=h;simp_all
 |dic kvs=>obtain⟨vs,e,r⟩:=h;simp_all
 | dit b kvs=>
   cases b with
   |false=>obtain⟨vs,e,r⟩:=h;simp_all
   |true=>cases ho
 |frz us=>cases ho
variable{o':HO}
theorem bD.wrG{H:Hp}{o:HO}(h:H p=a_ o)(ht: ∀vs,o≠.tup vs)(hf: ∀ob u,o≠.frz ob u):bD H (upd H p o'):=⟨λa vs e=>by
 rw[bB (tN e h (eI (ht vs)))];omega,λa ob u e=>by
 rw[bB (tN e h (eI (hf ob u)))];omega⟩
theorem HR.get(h:HR K μ S H)(e:S[n]?=a_ c):∃a,μ[n]?=a_ a/\pE K H μ a c:=by
 have hn:n<μ.length:=by rw[h.len];exact(ag.mp e).1
 exact⟨μ[n],by simp,h.cell n c _ e 0#3⟩
theorem HR.wrC(h:HR K μ S H){d:Cell}(e:S[n]?=a_ c)(ea:μ[n]?=a_ a)(hc:c.own=c_)(r:pE K (upd H a o') μ a d):HR K μ (S.set n d) (upd H a o'):=by
 obtain⟨o,e0,nt,nf,nb⟩:=(h.cell n _ a e ea).has hc;have kp:bD H (upd H a o'):=bD.wrG e0 nt nf;have hn:=(ag.mp e).1;have pick:∀(m:Nat) (c':Cell),(S.set n d)[m]?=a_ c'->c'.own=c_->∃c'',S[m]?=a_ c''/\c''.own=c_:=λm c' q hq=>by
  by_cases hm:n=m<;>simp_all
 refine⟨by rw[jg];exact h.len,λi j u1 u2 q1 q2 o1 o2 q3=>?_,λm c' b q1 q2=>?_,h.ext.upd kp 2#6 λo1 q=>by simp_all⟩
 .obtain⟨w1,z1,y1⟩:=pick i u1 q1 o1
  obtain⟨w2,z2,y2⟩:=pick j u2 q2 o2;exact h.inj i j w1 w2 z1 z2 y1 y2 q3
 .by_cases hm:n=m
  .simp_all
  .rw[aN hm]at q1
   refine(h.cell m c' b q1 q2).mono kp 2#6 (λW0=>?_) λo u hf=>?_
   .refine bB ?_
    rintro rfl;exact hm (h.inj n m c c' e q1 hc W0 (ea.trans q2.symm))
   .rw[bB (tN hf e0 (eI (nf o u)))];omega
theorem HR.wr(h:HR K μ S H){n:Nat}{us ws:List U}{vs:List V}{a:e_}(e:S[n]?=a_ (.lst us))(ea:μ[n]?=a_ a)(r:RUs H μ ws vs):HR K μ (S.set n (.lst ws)) (upd H a (.lst vs)):=by
 obtain⟨vs0,e0,r0⟩:=h.cell n _ a e ea;exact h.wrC e ea rfl ⟨vs,du,RUs.mono (bD.wr e0) 2#6 ws vs r⟩
theorem HR.newC(h:HR K μ S H){d:Cell}(hp:H p=b_)(hd:d.own=c_)(r:pE K (upd H p o') (μ++[p]) p d):HR K (μ++[p]) (S++[d]) (upd H p o'):=by
 have kp:bD H (upd H p o'):=bD.new hp;have pre:Pre μ _:=⟨[p],rfl⟩;have old:∀(n:Nat) (c:Cell),n<0#7->(S++[d])[n]?=a_ c->S[n]?=a_ c:=λn c hn q=>by rwa[aT hn]at q
 have last:∀(n:Nat) (c:Cell),¬n<0#7->(S++[d])[n]?=a_ c->n=0#7:=λn c hn q=>by
  have:=(ag.mp q).1;simp at this;lia
 have fresh:∀(n:Nat) (c:Cell),S[n]?=a_ c->c.own=c_->∀a,μ[n]?=a_ a->a≠p:=λn c q hc a qa=>by
  obtain⟨o,e,_⟩:=(h.cell n _ a q qa).has hc;exact bF e hp
 have YI:(μ++[p])[0#7]?=a_ p:=by rw[<-h.len];simp
 have YR:∀(n:Nat),n<0#7->(μ++[p])[n]?=μ[n]? := λn hn=>aT (by rw[h.len];exact hn);refine⟨by simp[h.len],λi j u1 u2 q1 q2 o1 o2 q3=>?_,λm c b q1 q2=>?_,h.ext.upd kp pre λo1 q=>by rw[hp]at q;cases q⟩
 .by_cases hi:i<0#7
  .by_cases hj:j<0#7
   .rw[YR i hi,YR j hj]at q3
    exact h.inj i j u1 u2 (old i _ hi q1) (old j _ hj q2) o1 o2 q3
   .have e:=last j _ hj q2
    subst e;obtain⟨a,ha,_⟩:=h.get (old i _ hi q1);rw[YR i hi,YI,ha]at q3;exact absurd (eR q3) (fresh i u1 (old i _ hi q1) o1 a ha)
  .have e:=last i _ hi q1
   subst e;by_cases hj:j<0#7
   .obtain⟨a,ha,_⟩:=h.get (old j _ hj q2)
    rw[YR j hj,YI,ha]at q3;exact absurd (eR q3).symm (fresh j u2 (old j _ hj q2) o2 a ha)
   .exact(last j _ hj q2).symm
 .by_cases hm:m<0#7
  .rw[YR m hm]at q2
   refine(h.cell m c b (old m c hm q1) q2).mono kp pre (λhc=>?_) λo u hf=>?_
   .exact bB (fresh m c (old m _ hm q1) hc b q2)
   .rw[bB (bF hf hp)];exact hf
  .have e:=last m c hm q1
   subst e;rw[YI]at q2;cases q2;simp at q1;subst q1;exact r
theorem HR.new(h:HR K μ S H){us:List U}{vs:List V}{p:e_}(hp:H p=b_)(r:RUs H μ us vs):HR K (μ++[p]) (S++[.lst us]) (upd H p (.lst vs)):=
 h.newC hp rfl ⟨vs,du,RUs.mono (bD.new hp) ⟨_,rfl⟩ us vs r⟩
theorem HR.tup(h:HR K μ S H){vs:List V}{p:e_}(hp:H p=b_):HR K μ S (upd H p (.tup vs)):=by
 have kp:bD H (upd H p (.tup vs)):=bD.new hp;refine⟨h.len,h.inj,λm c b q1 q2=>(h.cell m c b q1 q2).mono kp 2#6 (λhc=>?_) λo u hf=>?_,h.ext.upd kp 2#6 λo1 q=>by grind⟩
 .obtain⟨o,e,_⟩:=(h.cell m _ b q1 q2).has hc
  exact bB (bF e hp)
 .rw[bB (bF hf hp)];omega
theorem HR.sq(h:HR K μ S H){us:List U}(e:getL S n=a_ us):∃a vs,μ[n]?=a_ a/\SqL K H a vs/\RUs H μ us vs:=by
 unfold getL at e
 split at e
 .rename_i ws q
  cases e;obtain⟨a,ha,vs,e1,r⟩:=h.get q;exact⟨a,vs,ha,SqL.of e1,r⟩
 .rename_i ws q
  cases e;obtain⟨a,ha,vs,e1,r⟩:=h.get q;refine⟨a,vs,ha,?_,r⟩;rcases e1 with⟨o,e1⟩|e1
  .exact .inl (.inr ⟨o,e1⟩)
  .rcases e1 with (e1|⟨o,e1⟩)|e1
   .cases e1
   .cases e1
   .exact .inr e1
 .cases e
 .cases e
 .cases e
end
def Aft(K:KX)(μ:List e_)(H:Hp)(u:U)(S':Sto)(Q:VK):Prop:= ∀Y6 v H',Pre μ Y6->bD H H'->HR K Y6 S' H'->RU H' Y6 u v->Q v H'
def tM(K:KX)(m:ME):TE:=λσ H Q=>∃μ S G u S',HR K μ S H/\ER H μ G σ/\m G S=a_ (u,S')/\Aft K μ H u S' Q
def tMT(K:KX)(m:MT):TT:=λσ H Q=>∃μ S G b S',HR K μ S H/\ER H μ G σ/\m G S=a_ (b,S') /\ ∀Y6 H',Pre μ Y6->bD H H'->HR K Y6 S' H'->Q b H'
def tMA(K:KX)(m:MA):TA:=λσ H Q=>∃μ S G us S',HR K μ S H/\ER H μ G σ/\m G S=a_ (us,S') /\ ∀Y6 vs H',Pre μ Y6->bD H H'->HR K Y6 S' H'->RUs H' Y6 us vs->Q vs H'
def FlP(K:KX)(μ:List e_)(H:Hp)(D:Ends):Fl×Rho×Sto->Prop
 |(.nx,Y5,S')=>∀Y6 Y3 H',Pre μ Y6->bD H H'->HR K Y6 S' H'->ER H' Y6 Y5 Y3->D.nx Y3 H'
 |(.bk,Y5,S')=>∀Y6 Y3 H',Pre μ Y6->bD H H'->HR K Y6 S' H'->ER H' Y6 Y5 Y3->D.bk Y3 H'
 |(.ct,Y5,S')=>∀Y6 Y3 H',Pre μ Y6->bD H H'->HR K Y6 S' H'->ER H' Y6 Y5 Y3->D.ct Y3 H'
 |(.rt u,_,S')=>Aft K μ H u S' D.rt
def tMS(K:KX)(m:MS):TS:=λD σ H=>∃μ S G r,HR K μ S H/\ER H μ G σ/\m G S=a_ r/\FlP K μ H D r
variable{K:KX}{S':Sto}{Q:VK}
theorem Aft.mono(a:Aft K μ H u S' Q)(p:Pre μ Y0)(k:bD H H1):Aft K Y0 H1 u S' Q:=
 λY6 v H' p' k'=>a _ v H' (p.trans p') (k.trans k')
theorem FlP.mono{K:KX}{μ Y0:List e_}{H H1:Hp}{D:Ends}{r:Fl×Rho×Sto}(a:FlP K μ H D r)(p:Pre μ Y0)(k:bD H H1):FlP K Y0 H1 D r:=by
 obtain⟨f,Y5,S'⟩:=r;cases f with
 |nx=>exact λY6 Y3 H' p' k'=>a _ _ H' (p.trans p') (k.trans k')
 |bk=>exact λY6 Y3 H' p' k'=>a _ _ H' (p.trans p') (k.trans k')
 |ct=>exact λY6 Y3 H' p' k'=>a _ _ H' (p.trans p') (k.trans k')
 |rt u=>exact Aft.mono a p k
section
variable {K:KX}{σ:St}{H:Hp}{Q:VK}
theorem vW{A B:Prop}(h:A):if c_=c_ then A else B:=by grind
theorem wH{A B:Prop}(h:B):if d_=c_ then A else B:=by grind
theorem TM{i:Nat}(h:tM K (ae i) σ H Q):Vd i σ H Q:=by
 obtain⟨μ,S,G,u,S',hr,er,e,k⟩:=h;unfold ae at e
 split at e
 .rename_i w q
  cases e;obtain⟨v,hv,ru⟩:=er.get i _ q;exact⟨v,hv,k μ v H 2#6 11#4 hr ru⟩
 .cases e
theorem r_c(hv:∀H μ,RU H μ u v)(h:tM K (mC u) σ H Q):tC v σ H Q:=by
 obtain⟨μ,S,G,u',S',hr,er,e,k⟩:=h;cases e;exact k μ v H 2#6 11#4 hr (hv _ _)
def OpU(K:KX)(r:R2)(f:F2):Prop:= ∀(μ:List e_) (S:Sto) (H:Hp) (x y:U) (vx vy:V) (u:U) (S':Sto) (Q:VK),HR K μ S H->RU H μ x vx->RU H μ y vy->f x y S=a_ (u,S')->Aft K μ H u S' Q->r vx vy H Q
variable{f:F2}
theorem za{r:R2}{a b:ME}(o:OpU K r f)(h:tM K (m2 f a b) σ H Q):tOp r (tM K a) (tM K b) σ H Q:=by
 obtain⟨μ,S,G,u,S',hr,er,e,k⟩:=h;obtain⟨x,S1,e1,e⟩:=be e;obtain⟨y,S2,e2,e⟩:=be e;exact⟨μ,S,G,x,S1,hr,er,e1,λY0 vx H1 p1 k1 ZZ rx=>⟨_,S1,G,y,S2,ZZ,er.mono k1 p1,e2,λY7 vy H2 p2 k2 ZT ry=>(o _ S2 H2 x y vx vy u S' Q ZT (RU.mono k2 p2 x vx rx) ry e (k.mono 9#5 11#2))⟩⟩
def UnU(K:KX)(r:V->Hp->VK->Prop)(f:U->Sto->Res U):Prop:= ∀(μ:List e_) (S:Sto) (H:Hp) (x:U) (vx:V) (u:U) (S':Sto) (Q:VK),HR K μ S H->RU H μ x vx->f x S=a_ (u,S')->Aft K μ H u S' Q->r vx H Q
theorem WI{r:V->Hp->VK->Prop}{f:U->Sto->Res U}{a:ME}(o:UnU K r f)(h:tM K (m1 f a) σ H Q):tUn r (tM K a) σ H Q:=by
 obtain⟨μ,S,G,u,S',hr,er,e,k⟩:=h;obtain⟨x,S1,e1,e⟩:=be e;exact⟨μ,S,G,x,S1,hr,er,e1,λY0 vx H1 p1 k1 ZZ rx=>(o _ S1 H1 x vx u S' Q ZZ rx e 11#9)⟩
variable{S:Sto}
theorem Aft.now(k:Aft K μ H u S Q)(hr:HR K μ S H)(r:RU H μ u v):Q v H:=k μ v H 2#6 11#4 hr r
variable{i:Int}
theorem gm:RU H μ 4#8 4#8:=by simp[RU]
variable{b:Bool}
theorem j5:RU H μ (.bl b) (.bl b):=by simp[RU]
theorem ql:RU H μ .non .non:=by simp[RU]
variable{us:List U}{vs:List V}
theorem jP(e:H a=a_ (.tup vs))(r:RUs H μ us vs):RU H μ (.tup us) (.ref a):=⟨a,vs,rfl,e,r⟩
theorem zy(e:μ[n]?=a_ a):RU H μ (.ref n) (.ref a):=⟨a,rfl,e⟩
theorem dN(h:RU H μ 4#8 v):v=.int i:=by simpa only [RU]using h
theorem kC(h:RU H μ (.bl b) v):v=.bl b:=by simpa only [RU]using h
theorem gE(h:RU H μ (.tup us) v):∃a vs,v=.ref a/\H a=a_ (.tup vs)/\RUs H μ us vs:=by simpa only [RU]using h
theorem gQ(h:RU H μ (.ref n) v):∃a,v=.ref a/\μ[n]?=a_ a:=by simpa only [RU]using h
variable{g:Int->Int->V}
theorem EW{k:Int->Int->U}(hf:∀x y S u S',f x y S=a_ (u,S')->∃i j,x=.int i/\y=.int j/\u=k i j/\S'=S)(hg:∀H μ i j,RU H μ (k i j) (g i j)):OpU K (rI0 g) f:=by
 intro μ S H x y vx vy u S' Q hr rx ry e a;obtain⟨i,j,rfl,rfl,rfl,rfl⟩:=hf x y S u S' e;exact⟨i,j,dN rx,dN ry,a.now hr (hg _ _ _ _)⟩
theorem Ed{C:Int->Int->Prop}{k:Int->Int->U}(hf:∀x y S u S',f x y S=a_ (u,S')->∃i j,x=.int i/\y=.int j/\C i j/\u=k i j/\S'=S)(hg:∀H μ i j,RU H μ (k i j) (g i j)):OpU K (rI C g) f:=by
 intro μ S H x y vx vy u S' Q hr rx ry e a;obtain⟨i,j,rfl,rfl,c,rfl,rfl⟩:=hf x y S u S' e;exact⟨i,j,dN rx,dN ry,c,a.now hr (hg _ _ _ _)⟩
theorem Ry:OpU K (rI0 λi j => .int (i - j)) vY:=EW (λx y S u S' h=>by
 unfold vY at h;split at h <;> simp at h;simp_all) λ_ _ _ _=>gm
def NV(K:ao):R2:=λx y H Q=>∃l k xs,x=.ref l/\y=.int k/\H l=a_ (.tup xs)/\Ft xs.length k/\(k=1->Q (.ref l) H)/\(k≠1->∀p,H p=b_->Q (.ref p) (upd H p (.tup (aS k.toNat xs).flatten)))
theorem wA(ZY:List f_):∀(m:Nat) (a:List f_),CN (λx1 x2=>x1++x2) a.toArray (aS m ZY.toArray)=(a++(aS m ZY).flatten).toArray
 |0,a=>by simp
 | m+1,a=>by
   rw[ud,g9,List.append_toArray,wA _ m _,ud,m8,bz]
theorem RUs.rep{H:Hp}{μ:List e_}{us:List U}{vs:List V}(r:RUs H μ us vs):∀(m:Nat),RUs H μ (aS m us).flatten (aS m vs).flatten
 |0=>by simpa using RUs.nil
 |m+1=>r.append (RUs.rep r m)
variable{X:Cx}
theorem Nc:OpR X (binaryOp .Mult) (NV X.K):=by
 intro pins s σ H x y v u Q I rx ry h;obtain⟨l,k,xs,rfl,rfl,hH,⟨h1,h2,h3,h4⟩,q1,q2⟩:=h;cases (rx);obtain⟨t,rfl⟩:=ry;obtain⟨z,ZY,r,⟨⟨cls,dd,data,sl⟩,e,c,n,d⟩,_⟩:=I.hok l _ hH;subst c d;have hl:=r.length.symm;refine wpAny_binaryOp_repeat_ref 0#2 ⟨_,e,rfl⟩ (λs'=>typeIs_int s' k t) sj F.fills_int_mul F.slot_int_rmul zq F.slot_int_index.lookup
  (call_meets F.slot_int_rmul (typeIs_int s k t) F.entry_int_rmul (F.args_int_rmul_2 _ _) (vd k t l _ n dd sl) ⟨e,rfl,⟨_,e,rfl⟩,?_⟩)
 by_cases hk:k=1
 .subst hk
  exact call_meets CH ⟨_,e,rfl⟩ Ax (xU _ _) (xA l _ n dd sl t) ⟨e,⟨.ref l,H,I,rfl,q1 rfl⟩⟩
 .by_cases hk0:k=0
  .subst hk0
   refine call_meets CH ⟨_,e,rfl⟩ Ax (xU _ _) (Er l _ n dd sl t ?_) ⟨e,?_⟩
   .grind
   .exact⟨.ref _,_,I.laid (o:= .tup []) (λb ob q=>af _ q) 2#1 ⟨bS _,[],.nil,rN _ _,_,av _ rfl,rfl⟩,rfl,by simpa using q2 hk _ 16#6⟩
  refine call_meets CH ⟨_,e,rfl⟩ Ax (xU _ _) (Ec l _ n dd sl k t ?_ 0#0 h2 10#0) ⟨e,?_⟩
  .grind
  .rw[wA _ _ []]
   refine⟨.ref _,_,I.laid (λb ob q=>af _ q) 2#1 ?_,rfl,q2 hk _ 16#6⟩;refine⟨?_,_,r.rep _,rN _ _,_,av _ rfl,rfl⟩;rw[len_rep,sizeLine_eq];have:k.toNat*1#4<=1000*1#4:=iJ _ 0#0
   lia
theorem QU:OpU K (λx y H Q=>rI LM (λi j=>.int (i*j)) x y H Q\/NV K x y H Q) il:=by
 intro μ S H x y vx vy u S' Q hr rx ry e a;unfold il at e
 split at e
 .split at e
  .rename_i hc
   simp at e;obtain⟨rfl,rfl⟩:=e;exact .inl ⟨_,_,dN rx,dN ry,hc,a.now hr gm⟩
  .cases e
 .rename_i xs k
  split at e
  .rename_i hc
   simp at e;obtain⟨rfl,rfl⟩:=e;obtain⟨p,vs,rfl,hp,r1⟩:=gE rx;refine .inr ⟨p,k,vs,rfl,dN ry,hp,by rw[<-r1.len];exact hc,λhk=>?_,λhk t ht=>?_⟩
   .subst hk
    have e1:(aS (1:Int).toNat xs).flatten=xs:=by simp
    rw[e1]at a;exact a.now hr (jP hp r1)
   .exact a μ _ _ 2#6 (bD.new ht) (hr.tup ht) (jP du (RUs.mono (bD.new ht) 2#6 _ _ (r1.rep _)))
  .cases e
 .cases e
theorem Pl:OpU K (rI Sd λi j => .int (i / j)) oDiv:=Ed (k:=λi j => .int (i / j)) (λx y S u S' h=>by
 unfold oDiv at h;split at h
 .split at h
  .rename_i hc;simp at h;obtain⟨rfl,rfl⟩:=h;exact⟨_,_,rfl,rfl,hc,rfl,rfl⟩
  .cases h
 ·cases h) λ_ _ _ _=>gm
theorem Qg:OpU K (rI (λ_ j=>0<j) λi j => .int (i % j)) oMod:=Ed (λx y S u S' h=>by
 unfold oMod at h;split at h <;> simp_all) λ_ _ _ _=>gm
theorem RT:OpU K (rI U0 λi j => .int (i ^ j.toNat)) DJ:=Ed (k:=λi j => .int (i ^ j.toNat)) (λx y S u S' h=>by
 unfold DJ at h;split at h
 .split at h
  .rename_i hc;simp at h;obtain⟨rfl,rfl⟩:=h;exact⟨_,_,rfl,rfl,hc,rfl,rfl⟩
  .cases h
 ·cases h) λ_ _ _ _=>gm
theorem zj{p:Int->Int->Bool}:OpU K (rI0 λi j => .bl (p i j)) (F5 p):=EW (λx y S u S' h=>by
 unfold F5 at h;split at h <;> simp at h;simp_all) λ_ _ _ _=>j5
def Ow(K:ao):R2:=λx y H Q=>∃a b ys,x=.ref a/\y=.ref b/\SqT K H a []/\SqT K H b ys/\Q (.ref b) H
theorem Ma:OpR X (binaryOp .Add) (Ow X.K):=by
 intro pins s σ H x y v u Q I rx ry h;obtain⟨a,b,ys,rfl,rfl,h1,h2,q⟩:=h;cases (rx);cases (ry);obtain⟨ZY,r1,p1,_⟩:=I.tuple h1;obtain⟨ZC,r2,p2,_⟩:=I.tuple h2;cases r1;exact HT.cat_tup0 p1 p2 ⟨.ref b,H,I,rfl,q⟩
theorem Pc:OpU K (λx y H Q=>rI0 (λi j=>.int (i+j)) x y H Q\/OR K x y H Q\/Ow K x y H Q) eP:=by
 intro μ S H x y vx vy u S' Q hr rx ry e a;unfold eP at e
 split at e
 .simp at e;obtain⟨rfl,rfl⟩:=e
  exact .inl ⟨_,_,dN rx,dN ry,a.now hr gm⟩
 .rename_i xs ys
  split at e
  .rename_i hc
   simp at e;obtain⟨rfl,rfl⟩:=e;obtain⟨p,vs,rfl,hp,r1⟩:=gE rx;obtain⟨q,ws,rfl,hq,r2⟩:=gE ry;by_cases hx:xs=[]
   .subst hx
    have hv:vs=[]:=by have:=r1.len;exact d7 (by simpa using this.symm)
    subst hv;exact .inr (.inr ⟨p,q,ws,rfl,rfl,.inl (.inl hp),.inl (.inl hq),a.now hr (jP hq r2)⟩)
   refine .inr (.inl ⟨p,q,vs,ws,rfl,rfl,.inl (.inl hp),.inl (.inl hq),?_,?_,λz=>?_,λz t ht=>?_⟩)
   .intro z;subst z;have:=r1.len;exact hx (d7 (by simpa using this))
   .have h1:=r1.len;have h2:=r2.len;unfold big at hc;rw[sizeLine_eq];lia
   .subst z
    have:ys=[]:=by have:=r2.len;exact d7 (by simpa using this)
    subst this;rw[cf]at a;exact a.now hr (jP hp r1)
   .refine a μ _ _ 2#6 (bD.new ht) (hr.tup ht) ?_
    have kp:bD H (upd H t (.tup (vs++ws))):=bD.new ht;exact jP du ((RUs.mono kp 2#6 _ _ r1).append (RUs.mono kp 2#6 _ _ r2))
  .cases e
 .cases e
theorem HR.seq{x:U}(hr:HR K μ S H)(r:RU H μ x v)(e:eB S x=a_ us):∃a vs,v=.ref a/\(SqL K H a vs\/SqT K H a vs)/\RUs H μ us vs:=by
 unfold eB at e
 split at e
 .cases e
  obtain⟨a,vs,rfl,h,q⟩:=gE r;exact⟨a,vs,rfl,.inr (.inl (.inl h)),q⟩
 .obtain⟨a,rfl,ha⟩:=gQ r
  obtain⟨a',vs,YO,hs,q⟩:=hr.sq e;rw[ha]at YO;cases YO;exact⟨a,vs,rfl,.inl hs,q⟩
 .cases e
theorem MP(r:RUs H μ us vs)(e:atI us i=a_ u):∃v,atI vs i=a_ v/\RU H μ u v:=by
 unfold atI at e ⊢;rw[<-r.len];cases q:ixN _ i with
 |none=>rw[q]at e;cases e
 | some j=>
   rw[q]at e;exact r.get e
theorem qS{y:U}{k:Key}(r:RU H μ y v)(e:keyOf y=a_ k):v=kV k:=by
 cases y<;>simp[keyOf]at e<;>subst e<;>(exact r)
theorem EC{κ:Type}[DecidableEq κ]{μ:List e_}{k:κ}{u:U}:∀{kvs:List (κ×U)}{vs:List V},RUs H μ (kvs.map (·.2)) vs->kc kvs k=a_ u->∃v,n8 (dV kvs vs) k=a_ v/\RU H μ u v
 |[],vs,r,e=>by cases e
 | (j,x)::kvs,vs,r,e=>by
   obtain⟨v,r',rfl,a,b⟩:=r.inv;show ∃w,n8 ((j,v)::dV _ r') k=a_ w/\_;by_cases h:j=k
   .rw[nW h]
    simp[kc,h]at e<;>simp_all
   .rw[oo h]
    refine EC b ?_;simpa [kc,jh,h]using e
theorem vQ{κ:Type}[DecidableEq κ]{k:κ}:∀{kvs:List (κ×U)}{vs:List V},4#1=2#4->(n8 (dV kvs vs) k).isSome=(kc kvs k).isSome
 |[],vs,_=>by simp[dV,n8,kc]
 |(j,x)::kvs,[],h=>by simp at h
 | (j,x)::kvs,v::vs,h=>by
   show(n8 ((j,v)::dV _ vs) k).isSome=_;by_cases hj:j=k
   .rw[nW hj];simp[kc,hj]
   .rw[oo hj,vQ 14#6];simp[kc,hj]
theorem I0{κ:Type}[DecidableEq κ]{k:κ}:∀{kvs:List (κ×U)}{vs:List V},4#1=2#4->((dV kvs vs).any λkv=>decide (kv.1=k))=kvs.any λkv=>decide (kv.1=k)
 |[],vs,_=>by simp[dV]
 |(j,x)::kvs,[],h=>by simp at h
 | (j,x)::kvs,v::vs,h=>by
   show(((j,v)::dV _ vs).any _)=_;rw[nc,nc,I0 14#6]
theorem JO{κ:Type}{kvs:List (κ×U)}(h:4#1=2#4):(dV kvs vs).length=4#1:=by
 simp[dV,h]
theorem E4{κ:Type}[DecidableEq κ]{μ:List e_}{k:κ}{u:U}{v:V}(ru:RU H μ u v):∀{kvs:List (κ×U)}{vs:List V},RUs H μ (kvs.map (·.2)) vs ->
  ∃ws,dV (kvs.map λkv=>if kv.1=k then(kv.1,u) else kv) ws=(dV kvs vs).map (λkv=>if kv.1=k then(kv.1,v) else kv)/\RUs H μ ((kvs.map λkv=>if kv.1=k then(kv.1,u) else kv).map (·.2)) ws
 |[],vs,r=>⟨[],by simp[dV],.nil⟩
 | (j,x)::kvs,vs,r=>by
   obtain⟨w,r',rfl,a,b⟩:=r.inv;obtain⟨ws,e,q⟩:=E4 ru b;show ∃ws',dV ((if j=k then(j,u) else(j,x))::kvs.map _) _=(if j=k then(j,v) else(j,w))::(dV _ r').map _/\RUs H μ (((if j=k then(j,u) else(j,x))::kvs.map _).map _) _;by_cases h:j=k
   .rw[if_pos h,if_pos h]
    exact⟨_,by rw[<-e];rfl,.cons ru q⟩
   .rw[if_neg h,if_neg h]
    exact⟨_,by rw[<-e];rfl,.cons a q⟩
theorem Ni{κ:Type}[DecidableEq κ]{k:κ}{kvs:List (κ×U)}(ru:RU H μ u v)(r:RUs H μ (kvs.map (·.2)) vs):∃ws,dV (mZ kvs k u) ws=putK (dV kvs vs) k v/\RUs H μ ((mZ kvs k u).map (·.2)) ws:=by
 have hl:=by have:=r.len;rwa[ar]at this
 unfold mZ putK;rw[I0 hl]
 split
 .exact E4 ru r
 .refine⟨_,?_,by rw[bL];exact r.append (.cons ru .nil)⟩
  unfold dV;rw[bL,List.zip_append (by simpa using hl)];rfl
theorem HR.dic{x:U}{kvs:List (Key×U)}(hr:HR K μ S H)(r:RU H μ x v)(e:gM S x=a_ kvs):∃a vs,v=.ref a/\H a=a_ (.dK (dV kvs vs))/\RUs H μ (kvs.map (·.2)) vs:=by
 unfold gM at e
 split at e
 .split at e
  .rename_i q
   cases e;obtain⟨a,rfl,ha⟩:=gQ r;obtain⟨vs,e1,r1⟩:=hr.cell _ _ a q ha;exact⟨a,vs,rfl,e1,r1⟩
  .cases e
 .cases e
def Ta:R2:=λx y H Q=>∃a v,x=.ref a/\xO H a y (a_ v)/\Q v H
def VW(K:ao):R2:=λx y H Q=>rIx K x y H Q\/Ta x y H Q
theorem R0(hu:X.A.units+1<cLine):IxR X Ta:=by
 intro value slice pins s σ H x y v u Q I rx ry h hs;obtain⟨a,w,rfl,g,q⟩:=h;obtain rfl:v=bZ a:=rx;exact tail_any (B0 I g) PySem.F.slot_dict_getitem.lookup (GV hu I g ry λw' s3 I3 Zd=>⟨w,H,I3,Zd,q⟩) hs
theorem VG:OpU K (VW K) oIx:=by
 intro μ S H x y vx vy u S' Q hr rx ry e a;unfold oIx at e
 split at e
 .rename_i kvs qd
  cases qk:keyOf y with
  |none=>simp_all
  | some kk=>
    rw[qk]at e;simp only[aO]at e;cases qv:kc _ kk with
    |none=>rw[qv]at e;cases e
    | some w=>
      rw[qv]at e;simp at e;obtain⟨rfl,rfl⟩:=e;obtain⟨p,vs,rfl,hp,r⟩:=hr.dic rx qd;obtain⟨v,hv,rv⟩:=EC r qv;rw[qS ry qk];exact .inr ⟨p,v,rfl,.inl ⟨_,kk,.inl hp,rfl,hv.symm⟩,a.now hr rv⟩
 split at e
 .rename_i i
  refine .inl ?_;cases q:eB S x with
  |none=>rw[q]at e;cases e
  | some us=>
    rw[q]at e;simp only[aO]at e;cases z:atI us i with
    |none=>rw[z]at e;cases e
    | some w=>
      rw[z]at e;simp at e;obtain⟨rfl,rfl⟩:=e;obtain⟨p,vs,rfl,hs,r⟩:=hr.seq rx q;obtain⟨v,hv,rv⟩:=MP r z;rcases hs with hs|hs
      .exact .inl ⟨p,vs,i,v,rfl,dN ry,hs,hv,a.now hr rv⟩
      .exact .inr (.inl ⟨p,vs,i,v,rfl,dN ry,hs,hv,a.now hr rv⟩)
 .cases e
theorem QP:UnU K (rU λi=>.int (-i)) lM:=by
 intro μ S H x vx u S' Q hr rx e a;unfold lM at e
 split at e
 .cases e
  exact⟨_,dN rx,a.now hr gm⟩
 .cases e
theorem UA{Q:List V->Hp->Prop}(h:tMA K ah σ H Q):De σ H Q:=by
 obtain⟨μ,S,G,us,S',hr,er,e,k⟩:=h;cases e;exact k μ [] H 2#6 11#4 hr .nil
theorem Pb{a:ME}{r:MA}{Q:List V->Hp->Prop}(h:tMA K (aa a r) σ H Q):vE (tM K a) (tMA K r) σ H Q:=by
 obtain⟨μ,S,G,us,S',hr,er,e,k⟩:=h;obtain⟨x,S1,e1,e⟩:=be e;obtain⟨xs,S2,e2,e⟩:=be e;cases e;exact⟨μ,S,G,x,S1,hr,er,e1,λY0 vx H1 p1 k1 ZZ rx=>⟨_,S1,G,xs,_,ZZ,er.mono k1 p1,e2,λY7 vs H2 p2 k2 ZT rs=>(k _ _ H2 9#5 11#2 ZT (.cons (RU.mono k2 p2 x vx rx) rs))⟩⟩
theorem Vw{a:MA}(h:tM K (iS a) σ H Q):Tc 6#3 σ H Q:=by
 obtain⟨μ,S,G,u,S',hr,er,e,k⟩:=h;obtain⟨xs,S1,e1,e⟩:=be e
 split at e
 .rename_i hc
  cases e;refine⟨μ,S,G,xs,_,hr,er,e1,λY0 vs H1 p1 k1 ZZ rs=>⟨?_,λp hp=>?_⟩⟩
  .have:=rs.len;unfold big at hc;rw[sizeLine_eq];lia
  .exact k _ _ _ p1 (k1.trans (bD.new hp)) (ZZ.tup hp) (jP du (RUs.mono (bD.new hp) 2#6 _ _ rs))
 .cases e
theorem jG(k:Aft K μ H (.ref 0#7) (S++[.lst us]) Q)(hr:HR K μ S H)(rs:RUs H μ us vs)(hp:H p=b_):Q (.ref p) (upd H p (.lst vs)):=by
 refine k _ _ _ ⟨_,rfl⟩ (bD.new hp) (hr.new hp rs) (zy ?_);rw[<-hr.len];simp
theorem Ux{a:MA}(h:tM K (dP a) σ H Q):TK 6#3 σ H Q:=by
 obtain⟨μ,S,G,u,S',hr,er,e,k⟩:=h;obtain⟨xs,S1,e1,e⟩:=be e
 split at e
 .rename_i hc
  cases e;refine⟨μ,S,G,xs,S1,hr,er,e1,λY0 vs H1 p1 k1 ZZ rs=>⟨?_,λp hp=>?_⟩⟩
  .have:=rs.len;unfold big at hc;rw[sizeLine_eq];lia
  .exact jG 11#9 ZZ rs hp
 .cases e
def oh(K:KX)(r:List V->Hp->VK->Prop)(f:MF):Prop:= ∀(μ:List e_) (S:Sto) (H:Hp) (us:List U) (vs:List V) (u:U) (S':Sto) (Q:VK),HR K μ S H->RUs H μ us vs->f us S=a_ (u,S')->Aft K μ H u S' Q->r vs H Q
theorem zb{r:List V->Hp->VK->Prop}{f:MF}{a:MA}(o:oh K r f)(h:tM K (mFn f a) σ H Q):tCB r 6#3 σ H Q:=by
 obtain⟨μ,S,G,u,S',hr,er,e,k⟩:=h;obtain⟨xs,S1,e1,e⟩:=be e;exact⟨μ,S,G,xs,S1,hr,er,e1,λY0 vs H1 p1 k1 ZZ rs=>(o _ S1 H1 xs vs u S' Q ZZ rs e 11#9)⟩
def spM(K:KX)(m:MF):Sp:=λvs H Q _=>∃μ S us u S',HR K μ S H/\RUs H μ us vs/\m us S=a_ (u,S')/\Aft K μ H u S' Q
theorem Jy{f:MF}{a:MA}{E:XK}(h:tM K (mFn f a) σ H Q):EK (spM K f) [] E 6#3 σ H Q:=by
 obtain⟨μ,S,G,u,S',hr,er,e,k⟩:=h;obtain⟨xs,S1,e1,e⟩:=be e;refine⟨μ,S,G,xs,S1,hr,er,e1,λY0 vs H1 p1 k1 ZZ rs=>?_⟩;show spM K f _ H1 Q E;rw[cf];exact⟨_,S1,xs,u,S',ZZ,rs,e,k.mono p1 k1⟩
theorem Qo:oh K (λxs H Q=>(∃p ys,xs=[.ref p]/\(SqL K H p ys\/SqT K H p ys)/\Q (.int 4#5) H) \/ ∃a kvs,xs=[V.ref a]/\H a=a_ (.dK kvs)/\Q (.int 4#1) H) cp:=by
 intro μ S H us vs u S' Q hr rs e a;unfold cp at e
 split at e
 .rename_i x
  obtain⟨v,r,rfl,rx,rn⟩:=rs.inv;rw[rn.nil_inv]
  split at e
  .rename_i kvs qd
   cases e;obtain⟨p,ws,rfl,hp,r'⟩:=hr.dic rx qd;refine .inr ⟨p,_,rfl,hp,?_⟩;rw[JO (by have:=r'.len;rwa[ar]at this)];exact a.now hr gm
  cases q:eB S x with
  |none=>rw[q]at e;cases e
  | some ws=>
    rw[q]at e;cases e;obtain⟨p,ys,rfl,hs,r'⟩:=hr.seq rx q;refine .inl ⟨p,ys,rfl,hs,?_⟩;rw[<-r'.len];exact a.now hr gm
 .cases e
theorem HK:oh K (λxs H Q=>∃p ys,xs=[.ref p]/\((SqL K H p ys /\ ∀l,H l=b_->Q (.ref l) (upd H l (.tup ys)))\/(SqT K H p ys/\Q (.ref p) H))) bN:=by
 intro μ S H us vs u S' Q hr rs e a;unfold bN at e
 split at e
 .obtain⟨v,r,rfl,rx,rn⟩:=rs.inv
  rw[rn.nil_inv];unfold eB at e
  split at e
  .cases e
   obtain⟨p,ys,rfl,hp,r'⟩:=gE rx;exact⟨p,ys,rfl,.inr ⟨.inl (.inl hp),a.now hr (jP hp r')⟩⟩
  .rename_i n
   cases q:getL S n with
   |none=>rw[q]at e;cases e
   | some ws=>
     rw[q]at e;cases e;obtain⟨p,rfl,hp⟩:=gQ rx;obtain⟨p',ys,Zk,hs,r'⟩:=hr.sq q;rw[hp]at Zk;cases Zk;exact⟨p,ys,rfl,.inl ⟨hs,λl hl=>(a μ _ _ 2#6 (bD.new hl) (hr.tup hl) (jP du (RUs.mono (bD.new hl) 2#6 _ _ r')))⟩⟩
  .cases e
 .cases e
theorem MM:oh K (λxs H Q=>∃p ys,xs=[.ref p]/\(SqL K H p ys\/SqT K H p ys) /\ ∀l,H l=b_->Q (.ref l) (upd H l (.lst ys))) vg:=by
 intro μ S H us vs u S' Q hr rs e a;unfold vg at e
 split at e
 .rename_i x
  obtain⟨v,r,rfl,rx,rn⟩:=rs.inv;rw[rn.nil_inv];cases q:eB S x with
  |none=>rw[q]at e;cases e
  | some ws=>
    rw[q]at e;cases e;obtain⟨p,ys,rfl,hs,r'⟩:=hr.seq rx q;exact⟨p,ys,rfl,hs,λl hl=>jG a hr r' hl⟩
 .cases e
theorem P8:oh K (λxs H Q=>∃i j,xs=[.int i,.int j]/\Q (.int (if j>i then j else i)) H) Ah:=by
 intro μ S H us vs u S' Q hr rs e a;unfold Ah at e
 split at e
 .cases e
  obtain⟨v,r,rfl,rx,rs⟩:=rs.inv;obtain⟨w,r,rfl,ry,rn⟩:=rs.inv;rw[rn.nil_inv,dN rx,dN ry];exact⟨_,_,rfl,a.now hr gm⟩
 .cases e
def Vl(K:ao):List V->Hp->VK->Prop:=λxs H Q=>((∃i j,xs=[.int i,.int j]/\Q (.int (if j<i then j else i)) H))
theorem GI (hc:X.calm=c_)(hu:X.A.units+64<cLine):iM X (.builtin "min") (Vl X.K):=by
 intro pins s σ H xs us Q I rs h;exact Ht hc pins s σ H xs us Q I rs h
theorem O9:oh K (Vl K) y9:=by
 intro μ S H us vs u S' Q hr rs e a;unfold y9 at e
 split at e
 .cases e
  obtain⟨v,r,rfl,rx,rs⟩:=rs.inv;obtain⟨w,r,rfl,ry,rn⟩:=rs.inv;rw[rn.nil_inv,dN rx,dN ry];exact⟨_,_,rfl,a.now hr gm⟩
 .cases e
def MtU(K:KX)(r:V->List V->Hp->VK->Prop)(f:Nat->List U->Sto->Res U):Prop:= ∀(μ:List e_) (S:Sto) (H:Hp) (n:Nat) (p:e_) (us:List U) (vs:List V) (u:U) (S':Sto) (Q:VK),HR K μ S H->μ[n]?=a_ p->RUs H μ us vs->f n us S=a_ (u,S')->Aft K μ H u S' Q->r (.ref p) vs H Q
variable{r:V->List V->Hp->VK->Prop}{f:Nat->List U->Sto->Res U}
theorem O2{o:ME}{a:MA}(m:MtU K r f)(h:tM K (mML f o a) σ H Q):tBM K "list" r (tM K o) 6#3 σ H Q:=by
 obtain⟨μ,S,G,u,S',hr,er,e,k⟩:=h;obtain⟨x,S1,e1,e⟩:=be e
 split at e
 .rename_i n
  cases q:getL S1 n with
  |none=>rw[q]at e;cases e
  | some ws=>
    rw[q]at e;obtain⟨xs,S2,e2,e⟩:=be e;refine⟨μ,S,G,_,S1,hr,er,e1,λY0 vx H1 p1 k1 ZZ rx=>?_⟩;obtain⟨p,rfl,hp⟩:=gQ rx;obtain⟨p',ys,Zk,hs,r'⟩:=ZZ.sq q;rw[hp]at Zk;cases Zk;exact⟨.inl ⟨rfl,ys,hs⟩,_,S1,G,xs,S2,ZZ,er.mono k1 p1,e2,λY7 vs H2 p2 k2 ZT rs=>(m _ S2 H2 n p xs vs u S' Q ZT (p2.get hp) rs e (k.mono 9#5 11#2))⟩
 .cases e
theorem Td{o:ME}(m:MtU K r f)(h:tM K (mML f o ah) σ H Q):U8 K "list" r (tM K o) σ H Q:=by
 obtain⟨μ,S,G,u,S',hr,er,e,k⟩:=h;obtain⟨x,S1,e1,e⟩:=be e
 split at e
 .rename_i n
  cases q:getL S1 n with
  |none=>rw[q]at e;cases e
  | some ws=>
    rw[q]at e;refine⟨μ,S,G,_,S1,hr,er,e1,λY0 vx H1 p1 k1 ZZ rx=>?_⟩;obtain⟨p,rfl,hp⟩:=gQ rx;obtain⟨p',ys,Zk,hs,r'⟩:=ZZ.sq q;rw[hp]at Zk;cases Zk;exact⟨.inl ⟨rfl,ys,hs⟩,m _ S1 H1 n p [] [] u S' Q ZZ hp .nil e 11#9⟩
 .cases e
theorem wU{ws:List U}(k:Aft K μ H u (S.set n (.lst ws)) Q)(hr:HR K μ S H)(e:S[n]?=a_ (.lst us))(hp:μ[n]?=a_ p)(rs:RUs H μ ws vs)(ru:RU H μ u v):
  Q v (upd H p (.lst vs)):=by
 obtain⟨vs0,e0,_⟩:=hr.cell n _ p e hp;exact k μ _ _ 2#6 (bD.wr e0) (hr.wr e hp rs) (RU.mono (bD.wr e0) 2#6 _ _ ru)
theorem F8:MtU K EA de:=by
 intro μ S H n p us vs u S' Q hr hp rs e a;unfold de at e
 split at e
 .split at e
  .rename_i ws q
   split at e
   .rename_i hc
    cases e;obtain⟨v,r,rfl,rx,rn⟩:=rs.inv;rw[rn.nil_inv];obtain⟨xs,e0,r0⟩:=hr.cell n _ p q hp;refine⟨p,xs,v,rfl,rfl,e0,?_,wU a hr q hp (r0.append (.cons rx .nil)) ql⟩;have:=r0.len;unfold big at hc;rw[sizeLine_eq];lia
   .cases e
  .cases e
 .cases e
variable{j:Nat}
theorem Wm(h:ixN n i=a_ j):j<n /\ -(n:Int)<=i/\i<n:=by
 unfold ixN at h
 grind
theorem LL(h:ixN n i=a_ j):seqIndex? i n=a_ j:=by
 unfold ixN at h;unfold seqIndex?
 grind
theorem P6:MtU K Sv Ar:=by
 intro μ S H n p us vs u S' Q hr hp rs e a;unfold Ar at e
 split at e
 .split at e
  .rename_i ws q
   cases z:ws[ws.length-1]? with
   |none=>rw[z]at e;cases e
   | some y=>
     rw[z]at e;cases e;rw[rs.nil_inv];obtain⟨xs,e0,r0⟩:=hr.cell n _ p q hp;obtain⟨v,hv,rv⟩:=r0.get z;exact⟨p,xs,v,rfl,rfl,e0,by rw[<-r0.len];omega,wU a hr q hp r0.dropLast rv⟩
  .cases e
 .cases e
theorem JV:MtU K Kp nU:=by
 intro μ S H n p us vs u S' Q hr hp rs e a;unfold nU at e
 split at e
 .rename_i i
  split at e
  .rename_i ws q
   split at e
   rotate_left
   .cases e
   rename_i hR
   cases z:ixN _ i with
   |none=>rw[z]at e;cases e
   | some j=>
     rw[z]at e;simp only[aO]at e;cases z2:ws[j]? with
     |none=>simp_all
     | some y=>
       rw[z2]at e;cases e;obtain⟨v,r,rfl,rx,rn⟩:=rs.inv;rw[rn.nil_inv,dN rx];obtain⟨xs,e0,r0⟩:=hr.cell n _ p q hp;obtain⟨w,hw,Zd⟩:=r0.get z2;refine⟨p,xs,i,j,w,rfl,rfl,e0,?_,?_,?_,hw,wU a hr q hp (r0.eraseIdx j) Zd⟩
       .have:=hR.1;lia
       .have:=hR.2;lia
       .rw[<-r0.len];exact LL z
  .cases e
 .cases e
theorem DS{t:TE}{m:ME}{Q:Bool->Hp->Prop}(ht:∀Q,tM K m σ H Q->t σ H Q)(h:tMT K (cOf m) σ H Q):Jk t σ H Q:=by
 obtain⟨μ,S,G,b,S',hr,er,e,k⟩:=h;obtain⟨x,S1,e1,e⟩:=be e
 split at e
 .cases e
  exact ht _ ⟨μ,S,G,_,_,hr,er,e1,λY0 vx H1 p1 k1 ZZ rx=>⟨_,kC rx,k _ H1 p1 k1 ZZ⟩⟩
 .cases e
theorem WH{t:TE}{m:ME}{Q:Bool->Hp->Prop}(ht:∀Q,tM K m σ H Q->t σ H Q)(h:tMT K (cOf m) σ H Q):tB t σ H Q:=DS ht h
theorem TY{a b:MT}{Q:Bool->Hp->Prop}(h:tMT K (nu a b) σ H Q):_L.Sy (tMT K a) (tMT K b) σ H Q:=by
 obtain⟨μ,S,G,c,S',hr,er,e,k⟩:=h;obtain⟨x,S1,e1,e⟩:=be e;refine 20#7;cases x with
 |true=>exact vW ⟨_,S1,G,c,S',ZZ,er.mono k1 p1,e,λY7 H2 p2 k2=>k _ H2 9#5 11#2⟩
 | false=>
   grind
theorem WK{a b:MT}{Q:Bool->Hp->Prop}(h:tMT K (cOr a b) σ H Q):_L.tOr (tMT K a) (tMT K b) σ H Q:=by
 obtain⟨μ,S,G,c,S',hr,er,e,k⟩:=h;obtain⟨x,S1,e1,e⟩:=be e;refine 20#7;cases x with
 | true=>
   grind
 |false=>exact wH ⟨_,S1,G,c,S',ZZ,er.mono k1 p1,e,λY7 H2 p2 k2=>k _ H2 9#5 11#2⟩
theorem Uy{a:MT}{Q:Bool->Hp->Prop}(h:tMT K (Dn a) σ H Q):_L.R7 (tMT K a) σ H Q:=by
 obtain⟨μ,S,G,c,S',hr,er,e,k⟩:=h;obtain⟨x,S1,e1,e⟩:=be e;cases e;exact⟨μ,S,G,x,_,hr,er,e1,λY0 H1 p1 k1 ZZ=>k _ H1 p1 k1 ZZ⟩
theorem TR{c:MT}{a b:ME}(h:tM K (Bp c a b) σ H Q):tIf (tMT K c) (tM K a) (tM K b) σ H Q:=by
 obtain⟨μ,S,G,u,S',hr,er,e,k⟩:=h;obtain⟨x,S1,e1,e⟩:=be e;refine 20#7;cases x with
 |true=>exact vW 20#8
 |false=>exact wH 20#8
section
variable {D:Ends}
theorem Jc(h:tMS K dw D σ H):KS D σ H:=by
 obtain⟨μ,S,G,r,hr,er,e,k⟩:=h;cases e;exact k μ σ H 2#6 11#4 hr er
variable{b:MS}
theorem SJ{a:MS}(h:tMS K (aX a b) D σ H):Sj (tMS K a) (tMS K b) D σ H:=by
 obtain⟨μ,S,G,r,hr,er,e,k⟩:=h;unfold aX at e
 split at e
 .rename_i Y4 S1 q
  exact⟨μ,S,G,_,hr,er,q,λY0 Y8 H1 p1 k1 ZZ ZH=>⟨_,S1,_,r,ZZ,ZH,e,k.mono p1 k1⟩⟩
 .rename_i q
  refine⟨μ,S,G,r,hr,er,e,?_⟩;obtain⟨f,Y5,S'⟩:=r;cases f with
  |nx=>exact absurd e (q _ S')
  |bk=>exact k
  |ct=>exact k
  |rt u=>exact k
variable{i:Nat}{m:ME}
theorem OV(h:tMS K (bC i m) D σ H):F7 (tM K m) (j6 i) D σ H:=by
 obtain⟨μ,S,G,r,hr,er,e,k⟩:=h;obtain⟨x,S1,e1,e⟩:=be e;cases e;exact⟨μ,S,G,x,S1,hr,er,e1,λY0 vx H1 p1 k1 ZZ rx=>k _ _ H1 p1 k1 ZZ ((er.mono k1 p1).set rx i)⟩
def VE:Ij:=λo i v H Q=>∃a H',o=.ref a/\GZ H a i v H'/\Q H'
def Od:Ij:=λo i v H Q=>On o i v H Q\/VE o i v H Q
theorem NC{X:Cx}(hu:X.A.units+1<cLine):Ph X Od:=by
 intro pins s σ H o i v ov iv u Q I ro ri rv h;rcases h with h|⟨a,H',rfl,g,q⟩
 .exact set_list _ s σ H o i v ov iv u Q I ro ri rv h
 .obtain rfl:ov=bZ a:=ro
  exact GW hu I g ri rv λs4 I4=>⟨H',I4,q⟩
theorem NP{o i:ME}(h:tMS K (gf o i m) D σ H):F7 (tM K m) (Se (tM K o) (tM K i) Od) D σ H:=by
 obtain⟨μ,S,G,r,hr,er,e,k⟩:=h;obtain⟨x,S1,e1,e⟩:=be e;obtain⟨p,S2,e2,e⟩:=be e;obtain⟨j,S3,e3,e⟩:=be e;cases p with
 | ref n=>
   simp at e
   split at e
   .rename_i us q
    split at e
    rotate_left
    .cases e
    rename_i kk
    cases z:ixN _ kk with
    |none=>rw[z]at e;cases e
    | some m'=>
      rw[z]at e;cases e;refine 14#4;refine⟨_,S1,G,_,S2,ZZ,er.mono k1 p1,e2,λY7 vo H2 p2 k2 ZT ro=>?_⟩;refine⟨_,S2,G,_,S3,ZT,er.mono 11#2 9#5,e3,λX6 vi H3 p3 k3 YV ri=>?_⟩;obtain⟨a,rfl,ha⟩:=gQ ro;have ha3:=p3.get ha;obtain⟨vs,e0,r0⟩:=YV.cell n _ a q ha3;refine .inl ⟨a,vs,kk,m',rfl,dN ri,e0,by rw[<-r0.len];omega,?_⟩;have kw:bD H3 (upd H3 a (.lst (vs.set m' vx))):=bD.wr e0;exact k _ _ _ 20#0 22#2 (YV.wr q ha3 (r0.set (RU.mono (k2.trans k3) (p2.trans p3) _ _ rx) m')) (er.mono 22#2 20#0)
   .rename_i kvs q
    cases qk:keyOf j with
    |none=>simp_all
    | some kk=>
      rw[qk]at e
      split at e
      .rename_i hz
       cases e;refine 14#4;refine⟨_,S1,G,_,S2,ZZ,er.mono k1 p1,e2,λY7 vo H2 p2 k2 ZT ro=>?_⟩;refine⟨_,S2,G,_,S3,ZT,er.mono 11#2 9#5,e3,λX6 vi H3 p3 k3 YV ri=>?_⟩;obtain⟨a,rfl,ha⟩:=gQ ro;have ha3:=p3.get ha;obtain⟨vs,e0,r0⟩:=YV.cell n _ a q ha3;obtain⟨ws,ew,Zd⟩:=Ni (RU.mono (k2.trans k3) (p2.trans p3) _ _ rx) r0;have kw:bD H3 (upd H3 a (.dK (putK (dV kvs vs) kk vx))):=bD.wrG e0 (λ_ z=>by cases z) λ_ _ z=>by cases z
       exact .inr ⟨a,_,rfl,.inl ⟨_,kk,e0,qS ri qk,by rw[JO (by have:=r0.len;rwa[ar]at this)];exact hz,rfl⟩,(k _ _ _ 20#0 22#2 (YV.wrC q ha3 rfl ⟨ws,by rw[ew];exact du,RUs.mono kw 2#6 _ _ Zd⟩) (er.mono 22#2 20#0))⟩
      .cases e
   .cases e
 |_=>cases e
theorem QM(h:tMS K (eG m) D σ H):OA (tM K m) D σ H:=by
 obtain⟨μ,S,G,r,hr,er,e,k⟩:=h;obtain⟨x,S1,e1,e⟩:=be e;cases e;exact⟨μ,S,G,x,S1,hr,er,e1,λY0 vx H1 p1 k1 ZZ rx=>k _ σ H1 p1 k1 ZZ 10#8⟩
theorem TX(h:tMS K (cb m) D σ H):Sg (tM K m) D σ H:=by
 obtain⟨μ,S,G,r,hr,er,e,k⟩:=h;obtain⟨x,S1,e1,e⟩:=be e;cases e;exact⟨μ,S,G,x,S1,hr,er,e1,k⟩
theorem WC{c:MT}{a:MS}(h:tMS K (sIf c a b) D σ H):UL (tMT K c) (tMS K a) (tMS K b) D σ H:=by
 obtain⟨μ,S,G,r,hr,er,e,k⟩:=h;obtain⟨x,S1,e1,e⟩:=be e;refine 20#7;cases x with
 |true=>exact vW ⟨_,S1,G,r,ZZ,er.mono k1 p1,e,k.mono p1 k1⟩
 |false=>exact wH ⟨_,S1,G,r,ZZ,er.mono k1 p1,e,k.mono p1 k1⟩
variable{S:Sto}{r:Fl×Rho×Sto}
theorem oE{X4:List e_}{H0:Hp}{k:MS}{N:St->Hp->Prop}(hr:HR K μ S H)(er:ER H μ G σ)(e:aft (b G S) k=a_ r)(p:Pre X4 μ)(kp:bD H0 H)(fl:FlP K X4 H0 D r)
  (hN:∀Y0 Y8 H1 Y4 S1,Pre X4 Y0->bD H0 H1->HR K Y0 S1 H1->ER H1 Y0 Y4 Y8->k Y4 S1=a_ r->N Y8 H1):tMS K b { D with nx:=N,ct:=N,bk:=D.nx } σ H:=by
 unfold aft at e
 split at e
 .rename_i Y4 S1 q
  exact⟨μ,S,G,_,hr,er,q,λY0 Y8 H1 p1 k1 ZZ ZH=>hN _ _ H1 _ S1 (p.trans p1) (kp.trans k1) ZZ ZH e⟩
 .rename_i Y4 S1 q
  exact⟨μ,S,G,_,hr,er,q,λY0 Y8 H1 p1 k1 ZZ ZH=>hN _ _ H1 _ S1 (p.trans p1) (kp.trans k1) ZZ ZH e⟩
 .rename_i Y4 S1 q
  cases e;exact⟨μ,S,G,_,hr,er,q,λY0 Y8 H1 p1 k1 ZZ ZH=>fl _ _ H1 (p.trans p1) (kp.trans k1) ZZ ZH⟩
 .rename_i q1 q2 q3
  refine⟨μ,S,G,r,hr,er,e,?_⟩;obtain⟨f,Y5,S'⟩:=r;cases f with
  |nx=>exact absurd e (q1 _ S')
  |ct=>exact absurd e (q2 _ S')
  |bk=>exact absurd e (q3 _ S')
  |rt u=>exact Aft.mono fl p kp
theorem drop_cons{α:Type}{l:List α}{x:α}(h:l[i]?=a_ x):l.drop i=x::l.drop (i+1):=by
 obtain⟨hi,e⟩:=ag.mp h;rw[eN hi,e]
theorem Qs{us:List U}{vs:List V}(hr:HR K μ S H)(er:ER H μ G σ)(e:vJ i b us G S=a_ r)(fl:FlP K μ H D r)(ha:H a=a_ (.tup vs))(ru:RUs H μ us vs):
  ∃W:Nat->Nat->St->Hp->Prop,16#7 /\ ∀k m σ H,W k m σ H ->
   ((Itt K a).stop k H/\D.nx σ H)\/((Itt K a).go k H /\ ∃N:St->Hp->Prop,18#6 /\ ∀x H',(Itt K a).yld k H x H'->j6 i x σ H' λY9 H2=>tMS K b { D with nx:=N,ct:=N,bk:=D.nx } Y9 H2):=by
 refine Np (xs:=vs) (λk Y8 H1=>∃Y0 S1 Y4,Pre μ Y0/\bD H H1/\HR K Y0 S1 H1/\ER H1 Y0 Y4 Y8/\vJ i b (us.drop k) Y4 S1=a_ r) ⟨μ,S,G,Pre.refl _,bD.refl _,hr,er,e⟩ ?_ ?_ ?_
 .rintro k Y8 H1 _ ⟨Y0,S1,Y4,p1,k1,_⟩
  exact .inl (.inl (k1 a vs ha))
 .rintro k x Y8 H1 hx ⟨Y0,S1,Y4,p1,k1,ZZ,ZH,e1⟩
  have hk:k<1#3:=by rw[ru.len];exact(ag.mp hx).1
  have hu:us[k]?=a_ us[k]:=by simp
  obtain⟨v,hv,rv⟩:=ru.get hu;rw[hx]at hv;cases hv;rw[drop_cons hu]at e1;exact oE ZZ (ZH.set (RU.mono k1 p1 _ _ rv) i) e1 p1 k1 fl λY7 Y9 H2 X0 S2 p2 k2 ZT Yn e2=>⟨_,S2,_,p2,k2,ZT,Yn,e2⟩
 .rintro Y8 H1 ⟨Y0,S1,Y4,p1,k1,ZZ,ZH,e1⟩
  rw[<-ru.len,y3]at e1;cases e1;exact fl _ _ H1 p1 k1 ZZ ZH
theorem KL{lo:Int}(hr:HR K μ S H)(er:ER H μ G σ)(e:vJ i b (bI lo n) G S=a_ r)(fl:FlP K μ H D r):
  ∃W:Nat->Nat->St->Hp->Prop,16#7 /\ ∀k m σ H,W k m σ H ->
   ((Itr lo n).stop k H/\D.nx σ H)\/((Itr lo n).go k H /\ ∃N:St->Hp->Prop,18#6 /\ ∀x H',(Itr lo n).yld k H x H'->j6 i x σ H' λY9 H2=>tMS K b { D with nx:=N,ct:=N,bk:=D.nx } Y9 H2):=by
 refine GA (λk Y8 H1=>∃Y0 S1 Y4,Pre μ Y0/\bD H H1/\HR K Y0 S1 H1/\ER H1 Y0 Y4 Y8/\vJ i b ((bI lo n).drop k) Y4 S1=a_ r) ⟨μ,S,G,Pre.refl _,bD.refl _,hr,er,e⟩ ?_ ?_
 .rintro k Y8 H1 hk ⟨Y0,S1,Y4,p1,k1,ZZ,ZH,e1⟩
  have hu:(bI lo n)[k]?=a_ (.int (lo+k)):=by simp[bI,hk]
  rw[drop_cons hu]at e1;exact oE ZZ (ZH.set gm i) e1 p1 k1 fl λY7 Y9 H2 X0 S2 p2 k2 ZT Yn e2=>⟨_,S2,_,p2,k2,ZT,Yn,e2⟩
 .rintro Y8 H1 ⟨Y0,S1,Y4,p1,k1,ZZ,ZH,e1⟩
  have hl:(bI lo n).length=n:=by simp[bI]
  rw[List.drop_eq_nil_of_le 5#6]at e1;cases e1;exact fl _ _ H1 p1 k1 ZZ ZH
theorem PZ{f:Nat}(hr:HR K μ S H)(er:ER H μ G σ)(e:forL i b n f 0 G S=a_ r)(fl:FlP K μ H D r)(ha:μ[n]?=a_ a):
  ∃W:Nat->Nat->St->Hp->Prop,16#7 /\ ∀k m σ H,W k m σ H ->
   ((Itl K a).stop k H/\D.nx σ H)\/((Itl K a).go k H /\ ∃N:St->Hp->Prop,18#6 /\ ∀x H',(Itl K a).yld k H x H'->j6 i x σ H' λY9 H2=>tMS K b { D with nx:=N,ct:=N,bk:=D.nx } Y9 H2):=by
 refine⟨λk m Y8 H1=>∃Y0 S1 Y4,Pre μ Y0/\bD H H1/\HR K Y0 S1 H1/\ER H1 Y0 Y4 Y8/\forL i b n m k Y4 S1=a_ r,⟨f,μ,S,G,Pre.refl _,bD.refl _,hr,er,e⟩,?_⟩;rintro k m Y8 H1 ⟨Y0,S1,Y4,p1,k1,ZZ,ZH,e1⟩;cases m with
 |zero=>cases e1
 | succ m=>
   unfold forL at e1;cases q:getL S1 n with
   |none=>simp_all
   | some us=>
     rw[q]at e1;simp at e1;obtain⟨a',vs,YO,hs,rs⟩:=ZZ.sq q;rw[p1.get ha]at YO;cases YO;cases z:us[k]? with
     | none=>
       rw[z]at e1;cases e1;refine .inl ⟨⟨vs,hs,?_⟩,fl _ _ H1 p1 k1 ZZ ZH⟩;rw[<-rs.len];simp_all
     | some u=>
       rw[z]at e1;obtain⟨v,hv,rv⟩:=rs.get z;refine .inr ⟨⟨vs,v,hs,hv⟩,_,λY3 H' w=>⟨m,bV _,w⟩,λx H' y=>?_⟩;obtain⟨e',y⟩:=y;subst e';have hx:=y vs hs;rw[hv]at hx;cases hx;exact oE ZZ (ZH.set rv i) e1 p1 k1 fl λY7 Y9 H2 X0 S2 p2 k2 ZT Yn e2=>⟨_,S2,_,p2,k2,ZT,Yn,e2⟩
theorem Lw{c:MT}(h:tMS K (mj c b) D σ H):Iz (tMT K c) (tMS K b) D σ H:=by
 obtain⟨μ,S,G,r,hr,er,e,fl⟩:=h;refine⟨λm Y8 H1=>∃Y0 S1 Y4,Pre μ Y0/\bD H H1/\HR K Y0 S1 H1/\ER H1 Y0 Y4 Y8/\whl c b m Y4 S1=a_ r,⟨_,μ,S,G,Pre.refl _,bD.refl _,hr,er,e⟩,?_⟩;rintro m Y8 H1 ⟨Y0,S1,Y4,p1,k1,ZZ,ZH,e1⟩;cases m with
 |zero=>cases e1
 | succ m=>
   obtain⟨x,S2,e2,e1⟩:=be e1;refine⟨_,S1,_,x,S2,ZZ,ZH,e2,λY7 H2 p2 k2 ZT=>?_⟩;cases x with
   | true=>
     exact vW ⟨_,λY3 H' w=>⟨m,bV _,w⟩,(oE ZT (ZH.mono k2 p2) e1 9#5 11#2 fl λX6 X8 H3 X7 S3 p3 k3 YV er3 e3=>⟨_,S3,_,p3,k3,YV,er3,e3⟩)⟩
   | false=>
     cases e1;exact wH (fl _ _ H2 9#5 11#2 ZT (ZH.mono k2 p2))
end
end
section
variable {K:KX}{σ:St}{H:Hp}{Q:VK}{D:Ends}
variable{R:It->Hp->Prop}{S S1:Sto}{src:Src}
theorem ON{a:MA}(hr:HR K μ S H)(er:ER H μ G σ)(e:iR1 a G S=a_ (src,S1))
  (hR:∀Y0 H1 n,Pre μ Y0->bD H H1->HR K Y0 S1 H1->src=.imm (bI 0 n)->R (Itr 0 n) H1):Bf 6#3 σ H R:=by
 obtain⟨xs,S2,e1,e⟩:=be e
 split at e
 .rename_i j
  split at e
  .rename_i hj
   cases e;refine 18#5;obtain⟨v,r,rfl,rx,rn⟩:=rs.inv;rw[rn.nil_inv,dN rx];exact⟨j,rfl,hj.1,hj.2,hR _ H1 _ p1 k1 ZZ rfl⟩
  .cases e
 .cases e
theorem Oo{a:MA}(hr:HR K μ S H)(er:ER H μ G σ)(e:iR2 a G S=a_ (src,S1))
  (hR:∀Y0 H1 lo n,Pre μ Y0->bD H H1->HR K Y0 S1 H1->src=.imm (bI lo n)->R (Itr lo n) H1):Ba 6#3 σ H R:=by
 obtain⟨xs,S2,e1,e⟩:=be e
 split at e
 .rename_i i j
  split at e
  .rename_i hj
   cases e;refine 18#5;obtain⟨v,r,rfl,rx,rs⟩:=rs.inv;obtain⟨w,r,rfl,ry,rn⟩:=rs.inv;rw[rn.nil_inv,dN rx,dN ry];exact⟨i,j,rfl,⟨hj.1.1,hj.1.2,hj.2.1,hj.2.2⟩,hR _ H1 _ _ p1 k1 ZZ rfl⟩
  .cases e
 .cases e
theorem IS{a:ME}(hr:HR K μ S H)(er:ER H μ G σ)(e:dh a G S=a_ (src,S1))
  (hT:∀Y0 H1 us p vs,Pre μ Y0->bD H H1->HR K Y0 S1 H1->src=.imm us->H1 p=a_ (.tup vs)->RUs H1 Y0 us vs->R (Itt K p) H1)
  (hL:∀Y0 H1 n p,Pre μ Y0->bD H H1->HR K Y0 S1 H1->src=.mut n->Y0[n]?=a_ p->R (Itl K p) H1):Cs K (tM K a) σ H R\/Iw K (tM K a) σ H R:=by
 obtain⟨x,S2,e1,e⟩:=be e
 split at e
 .cases e
  refine .inr ⟨μ,S,G,_,_,hr,er,e1,λY0 vx H1 p1 k1 ZZ rx=>?_⟩;obtain⟨p,vs,rfl,hp,r⟩:=gE rx;exact⟨p,rfl,⟨vs,.inl (.inl hp)⟩,hT _ H1 _ p vs p1 k1 ZZ rfl hp r⟩
 .rename_i n
  cases q:getL S2 n with
  |none=>rw[q]at e;cases e
  | some ws=>
    rw[q]at e;cases e;refine .inl ⟨μ,S,G,_,_,hr,er,e1,λY0 vx H1 p1 k1 ZZ rx=>?_⟩;obtain⟨p,rfl,hp⟩:=gQ rx;obtain⟨p',ys,Zk,hs,r'⟩:=ZZ.sq q;rw[hp]at Zk;cases Zk;exact⟨p,rfl,⟨ys,hs⟩,hL _ H1 n p p1 k1 ZZ rfl hp⟩
 .cases e
variable{i:Nat}{b:MS}
theorem Ui{a:MA}(h:tMS K (fj i (iR1 a) b) D σ H):xB (Bf 6#3) (j6 i) (tMS K b) D σ H:=by
 obtain⟨μ,S,G,r,hr,er,e,fl⟩:=h;obtain⟨src,S1,e1,e⟩:=be e;refine ON hr er e1 λY0 H1 n p1 k1 ZZ hs=>?_;subst hs;exact KL ZZ 10#8 e (fl.mono p1 k1)
theorem R6{a:MA}(h:tMS K (fj i (iR2 a) b) D σ H):xB (Ba 6#3) (j6 i) (tMS K b) D σ H:=by
 obtain⟨μ,S,G,r,hr,er,e,fl⟩:=h;obtain⟨src,S1,e1,e⟩:=be e;refine Oo hr er e1 λY0 H1 lo n p1 k1 ZZ hs=>?_;subst hs;exact KL ZZ 10#8 e (fl.mono p1 k1)
theorem WL{a:ME}(h:tMS K (fj i (dh a) b) D σ H):xB (λσ H R=>Cs K (tM K a) σ H R\/Iw K (tM K a) σ H R) (j6 i) (tMS K b) D σ H:=by
 obtain⟨μ,S,G,r,hr,er,e,fl⟩:=h;obtain⟨src,S1,e1,e⟩:=be e;refine IS hr er e1 (λY0 H1 us p vs p1 k1 ZZ hs hp rs=>?_) λY0 H1 n p p1 k1 ZZ hs hp=>?_
 .subst hs
  exact Qs ZZ 10#8 e (fl.mono p1 k1) hp rs
 .subst hs
  exact PZ ZZ 10#8 e (fl.mono p1 k1) hp
theorem sh{t:MT}{e:ME}{G:Rho}:∀{us acc ys:List U}{S S':Sto},ji t e G us acc S=a_ (ys,S')->acc.length<=4#5
 |[],acc,ys,S,S',h=>by cases h<;>simp_all
 | x::us,acc,ys,S,S',h=>by
   obtain⟨k,S1,e1,h⟩:=be h;cases k with
   | true=>
     obtain⟨y,S2,e2,h⟩:=be (show bnd _ (λy S2=>ji t e G us (acc++[y]) S2)=a_ _ from h);have:=sh h;simp at this;exact aI 0#4
   |false=>exact sh (h)
theorem sP{t:MT}{e:ME}{G:Rho}{n:Nat}:∀{f i:Nat}{acc ys:List U}{S S':Sto},kW t e G n f i acc S=a_ (ys,S')->acc.length<=4#5
 |0,i,acc,ys,S,S',h=>by cases h
 | f+1,i,acc,ys,S,S',h=>by
   unfold kW at h;cases q:getL S n with
   |none=>rw[q]at h;cases h
   | some us=>
     rw[q]at h;simp at h;cases z:us[i]? with
     |none=>simp_all
     | some x=>
       rw[z]at h;obtain⟨k,S1,e1,h⟩:=be h;cases k with
       | true=>
         obtain⟨y,S2,e2,h⟩:=be (show bnd _ (λy S2=>kW t e G n f _ (acc++[y]) S2)=a_ _ from h);have:=sP h;simp at this;exact aI 0#4
       |false=>exact sP (h)
def AJ(J:It)(σ:St)(tt:TT)(te:TE)(H1:Hp)(Q:VK):Prop:= ∃W:Nat->Nat->List V->Hp->Prop,(∃m,W 0 m [] H1) /\ ∀i m ys H,W i m ys H->4#5<sizeLine /\
 (24#8 \/
  (J.go i H /\ ∀x H',J.yld i H x H'->tt (σ++[a_ x]) H' λb H3=>if b=c_ then te (σ++[a_ x]) H3 λy H4 =>∃m',m'<m/\W (i+1) m' (ys++[y]) H4 else ∃m',m'<m/\W (i+1) m' ys H3))
variable{e:ME}{ys:List U}
theorem yT{t:MT}{Y5:Rho}{Y3:St}{au:List U}{acc:List V}{next:List U->Sto->Res (List U)}(W:List V->Hp->Prop)(ZZ:HR K Y0 S1 H1)(ZH:ER H1 Y0 Y5 Y3)(ra:RUs H1 Y0 au acc)
  (e1:bnd (t Y5 S1) (λk S2=>if k then bnd (e Y5 S2) λy S3=>next (au++[y]) S3 else next au S2)=a_ (ys,S'))
  (hW:∀Y7 S2 au2 XI H2,Pre Y0 Y7->bD H1 H2->HR K Y7 S2 H2->RUs H2 Y7 au2 XI->next au2 S2=a_ (ys,S')->W XI H2):
  tMT K t Y3 H1 λb H3=>if b=c_ then tM K e Y3 H3 λy H4=>W (acc++[y]) H4 else W acc H3:=by
 obtain⟨b,S2,e2,e1⟩:=be e1;refine⟨_,S1,_,b,S2,ZZ,ZH,e2,λY7 H2 p2 k2 ZT=>?_⟩;have M':=RUs.mono k2 p2 _ _ ra;cases b with
 | true=>
   obtain⟨y',S3,e3,e1⟩:=be (show bnd _ (λy S2=>next (au++[y]) S2)=a_ _ from e1);exact vW ⟨_,S2,_,y',S3,ZT,ZH.mono k2 p2,e3,λX6 v3 H3 p3 k3 YV f'=>hW _ S3 _ _ H3 (p2.trans p3) (k2.trans k3) YV ((RUs.mono k3 p3 _ _ M').append (.cons f' .nil)) e1⟩
 |false=>exact wH (hW _ S2 _ _ H2 p2 k2 ZT M' e1)
variable{us:List U}
theorem wC{J:It}{t:MT}(hr:HR K μ S H)(er:ER H μ G σ)(h:ji t e G us [] S=a_ (ys,S'))(hz:4#5<big)(k:Aft K μ H 13#0 (S'++[.lst ys]) Q)
  (hstop:∀H',bD H H'->J.stop us.length H') (hgo:∀(i:Nat) H',i<1#3->bD H H'->J.go i H')
  (hy:∀(i:Nat) H' x H'' (u:U),us[i]?=a_ u->bD H H'->J.yld i H' x H''->H''=H'/\RU H μ u x):AJ J σ (tMT K t) (tM K e) H Q:=by
 have hz':4#5<sizeLine:=hz;refine⟨λi m acc H1=>m=1#3-i/\i<=1#3 /\ ∃Y0 S1 au,Pre μ Y0/\bD H H1/\HR K Y0 S1 H1/\RUs H1 Y0 au acc/\ji t e G (us.drop i) au S1=a_ _,⟨_,rfl,bS _,μ,S,[],Pre.refl _,bD.refl _,hr,.nil,h⟩,?_⟩;rintro i m acc H1 ⟨rfl,hi,Y0,S1,au,p1,k1,ZZ,ra,e1⟩;have hl:=sh e1;have YY:=ra.len;refine⟨by lia,?_⟩;by_cases ZQ:i<1#3
 .have hu:us[i]?=a_ us[i]:=by simp
  rw[drop_cons hu]at e1;refine .inr ⟨hgo i H1 ZQ k1,λx H' y=>?_⟩;obtain⟨rfl,rx⟩:=hy i H1 x H' _ hu k1 y;exact yT (λacc H1=>∃m',m'<1#3-i/\m'=1#3-(i+1)/\i+1<=1#3 /\ ∃Y0 S1 au,Pre μ Y0/\bD H H1/\HR K Y0 S1 H1/\RUs H1 Y0 au _/\ji t e G _ au S1=a_ _) ZZ ((er.mono k1 p1).push (RU.mono k1 p1 _ _ rx)) ra e1 λY7 S2 au2 XI H2 p2 k2 ZT M' q=>⟨_,by lia,rfl,ZQ,_,S2,_,p1.trans p2,k1.trans k2,ZT,M',q⟩
 .have e:i=1#3:=by lia
  subst e;rw[y3]at e1;cases e1;exact .inl ⟨hstop H1 k1,λD hD=>jG 11#9 ZZ ra hD⟩
theorem IV{t:MT}{f:Nat}(hr:HR K μ S H)(er:ER H μ G σ)(h:kW t e G n f 0 [] S=a_ (ys,S'))(hz:4#5<big)(k:Aft K μ H 13#0 (S'++[.lst ys]) Q)
  (hp:μ[n]?=a_ p):AJ (Itl K p) σ (tMT K t) (tM K e) H Q:=by
 have hz':4#5<sizeLine:=hz;refine⟨λi m acc H1=>∃Y0 S1 au,Pre μ Y0/\bD H H1/\HR K Y0 S1 H1/\RUs H1 Y0 au acc/\kW t e G n m i au S1=a_ _,⟨f,μ,S,[],Pre.refl _,bD.refl _,hr,.nil,h⟩,?_⟩;rintro i m acc H1 ⟨Y0,S1,au,p1,k1,ZZ,ra,e1⟩;have hl:=sP e1;have YY:=ra.len;refine⟨by lia,?_⟩;cases m with
 |zero=>cases e1
 | succ m=>
   unfold kW at e1;cases q:getL S1 n with
   |none=>simp_all
   | some us=>
     rw[q]at e1;simp at e1;obtain⟨a',vs,YO,hs,rs⟩:=ZZ.sq q;rw[p1.get hp]at YO;cases YO;cases z:us[i]? with
     | none=>
       rw[z]at e1;cases e1;exact .inl ⟨⟨vs,hs,by rw[<-rs.len];simp_all⟩,λD hD=>jG 11#9 ZZ ra hD⟩
     | some u=>
       rw[z]at e1;obtain⟨v,hv,rv⟩:=rs.get z;refine .inr ⟨⟨vs,v,hs,hv⟩,λx H' y=>?_⟩;obtain⟨e',y⟩:=y;subst e';have hx:=y vs hs;rw[hv]at hx;cases hx;exact yT (λacc H1=>∃m',m'<m+1 /\ ∃Y0 S1 au,Pre μ Y0/\bD H H1/\HR K Y0 S1 H1/\RUs H1 Y0 au _/\kW t e G n m' _ au S1=a_ _) ZZ ((er.mono k1 p1).push rv) ra e1 λY7 S2 au2 XI H2 p2 k2 ZT M' q=>⟨m,bV _,_,S2,_,p1.trans p2,k1.trans k2,ZT,M',q⟩
theorem BG{lo:Int}{t:MT}(hr:HR K μ S H)(er:ER H μ G σ)(h:ji t e G (bI lo n) [] S=a_ (ys,S'))(hz:4#5<big)(k:Aft K μ H 13#0 (S'++[.lst ys]) Q):
  AJ (Itr lo n) σ (tMT K t) (tM K e) H Q:=by
 have hl:(bI lo n).length=n:=by simp[bI]
 refine wC hr er h hz k (λH' _=>by rw[hl];exact ak _) (λi H' hi _=>by rw[hl]at hi;exact hi) λi H' x H'' u hu _ y=>?_;obtain⟨rfl,rfl⟩:=y;have hi:i<n:=by rw[<-hl];exact(ag.mp hu).1
 have e2:(bI lo n)[i]?=a_ (.int (lo+i)):=by simp[bI,hi]
 rw[e2]at hu;cases hu;exact⟨rfl,gm⟩
theorem HI{vs:List V}{t:MT}(hr:HR K μ S H)(er:ER H μ G σ)(h:ji t e G us [] S=a_ (ys,S'))(hz:4#5<big)(k:Aft K μ H 13#0 (S'++[.lst ys]) Q)
  (hp:H p=a_ (.tup vs)) (rs:RUs H μ us vs):AJ (Itt K p) σ (tMT K t) (tM K e) H Q:=by
 refine wC hr er h hz k (λH' kp=>⟨vs,.inl (.inl (kp p vs hp)),by rw[rs.len]<;>simp_all⟩) (λi H' hi kp=>?_) λi H' x H'' u hu kp y=>?_
 .have ZP:i<2#4:=by rw[<-rs.len];omega
  exact⟨vs,vs[i],.inl (.inl (kp p vs hp)),by simp⟩
 .obtain⟨rfl,y⟩:=y
  obtain⟨v,hv,rv⟩:=rs.get hu;have:=y vs (.inl (.inl (kp p vs hp)))
  grind
theorem Vn{a:MA}{t:MT}(h:tM K (bW (iR1 a) t e) σ H Q):qI (Bf 6#3) (tMT K t) (tM K e) σ H Q:=by
 obtain⟨μ,S,G,u,S',hr,er,e0,k⟩:=h;obtain⟨src,S1,e1,e0⟩:=be e0;obtain⟨ys,S2,e2,e0⟩:=be e0
 split at e0
 .rename_i hz
  cases e0;refine ON hr er e1 λY0 H1 n p1 k1 ZZ hs=>?_;subst hs;exact BG ZZ 10#8 e2 hz 11#9
 .cases e0
theorem VB{a:MA}{t:MT}(h:tM K (bW (iR2 a) t e) σ H Q):qI (Ba 6#3) (tMT K t) (tM K e) σ H Q:=by
 obtain⟨μ,S,G,u,S',hr,er,e0,k⟩:=h;obtain⟨src,S1,e1,e0⟩:=be e0;obtain⟨ys,S2,e2,e0⟩:=be e0
 split at e0
 .rename_i hz
  cases e0;refine Oo hr er e1 λY0 H1 lo n p1 k1 ZZ hs=>?_;subst hs;exact BG ZZ 10#8 e2 hz 11#9
 .cases e0
theorem VY{a:ME}{t:MT}(h:tM K (bW (dh a) t e) σ H Q):qI (λσ H R=>Cs K (tM K a) σ H R\/Iw K (tM K a) σ H R) (tMT K t) (tM K e) σ H Q:=by
 obtain⟨μ,S,G,u,S',hr,er,e0,k⟩:=h;obtain⟨src,S1,e1,e0⟩:=be e0;obtain⟨ys,S2,e2,e0⟩:=be e0
 split at e0
 .rename_i hz
  cases e0;refine IS hr er e1 (λY0 H1 us p vs p1 k1 ZZ hs hp rs=>?_) λY0 H1 n p p1 k1 ZZ hs hp=>?_
  .subst hs
   exact HI ZZ 10#8 e2 hz 11#9 hp rs
  .subst hs
   exact IV ZZ 10#8 e2 hz 11#9 hp
 .cases e0
end
section
variable {K:KX}{σ:St}{H:Hp}{Q:VK}{D:Ends}
theorem RUs.revs{H:Hp}{μ:List e_}:∀{us:List U}{vs:List V},RUs H μ us vs->RUs H μ us.reverse vs.reverse
 |[],vs,r=>by rw[r.nil_inv];exact .nil
 | u::us,vs,r=>by
   obtain⟨v,vs,rfl,a,b⟩:=r.inv;rw[xr,xr];exact(RUs.revs b).append (.cons a .nil)
variable{S:Sto}
theorem HL{a:MA}{R:It->Hp->Prop}{S1:Sto}{src:Src}(hr:HR K μ S H)(er:ER H μ G σ)(e:Bl a G S=a_ (src,S1))
  (hR:∀Y0 H1 us p vs,Pre μ Y0->bD H H1->HR K Y0 S1 H1->src=.imm us.reverse->H1 p=a_ (.tup vs)->RUs H1 Y0 us vs->R (Itv K p 2#4) H1):Cw K 6#3 σ H R:=by
 obtain⟨xs,S2,e1,e⟩:=be e
 split at e
 .rename_i us
  cases e;refine 18#5;obtain⟨v,r,rfl,rx,rn⟩:=rs.inv;rw[rn.nil_inv];obtain⟨p,vs,rfl,hp,r⟩:=gE rx;exact⟨p,vs,rfl,.inl (.inl hp),hR Y0 H1 _ p vs p1 k1 ZZ rfl hp r⟩
 .cases e
variable{us:List U}{vs:List V}
theorem K0{t:MT}{e:ME}{ys:List U}(hr:HR K μ S H)(er:ER H μ G σ)(h:ji t e G us.reverse [] S=a_ (ys,S'))(hz:4#5<big)(k:Aft K μ H 13#0 (S'++[.lst ys]) Q)
  (hp:H p=a_ (.tup vs)) (rs:RUs H μ us vs):AJ (Itv K p 2#4) σ (tMT K t) (tM K e) H Q:=by
 have rr:=rs.revs;have hl:=rr.len;refine wC hr er h hz k (λH' kp=>⟨vs,.inl (.inl (kp p vs hp)),rfl,by rw[hl,ub];exact ak _⟩) (λi H' hi kp=>?_) λi H' x H'' u hu kp y=>?_
 .have ZP:i<vs.reverse.length:=by rw[<-hl];exact hi
  exact⟨vs,vs.reverse[i],.inl (.inl (kp p vs hp)),rfl,aC ZP⟩
 .obtain⟨rfl,y⟩:=y
  obtain⟨v,hv,rv⟩:=rr.get hu;have:=y vs (.inl (.inl (kp p vs hp)));rw[hv]at this;cases this;exact⟨rfl,rv⟩
theorem Pi{a:MA}{t:MT}{e:ME}(h:tM K (bW (Bl a) t e) σ H Q):qI (Cw K 6#3) (tMT K t) (tM K e) σ H Q:=by
 obtain⟨μ,S,G,u,S',hr,er,e0,k⟩:=h;obtain⟨src,S1,e1,e0⟩:=be e0;obtain⟨ys,S2,e2,e0⟩:=be e0
 split at e0
 .rename_i hz
  cases e0;refine HL hr er e1 λY0 H1 us p vs p1 k1 ZZ hs hp rs=>?_;subst hs;exact K0 ZZ 10#8 e2 hz 11#9 hp rs
 .cases e0
variable{i:Nat}
theorem ID{b:MS}{r:Fl×Rho×Sto}(hr:HR K μ S H)(er:ER H μ G σ)(e:vJ i b us.reverse G S=a_ r)(fl:FlP K μ H D r)(ha:H a=a_ (.tup vs))(ru:RUs H μ us vs):
  ∃W:Nat->Nat->St->Hp->Prop,16#7 /\ ∀k m σ H,W k m σ H ->
   ((Itv K a 2#4).stop k H/\D.nx σ H)\/((Itv K a 2#4).go k H /\ ∃N:St->Hp->Prop,18#6 /\ ∀x H',(Itv K a 2#4).yld k H x H'->j6 i x σ H' λY9 H2=>tMS K b { D with nx:=N,ct:=N,bk:=D.nx } Y9 H2):=by
 have rr:=ru.revs;refine⟨λk m Y8 H1=>m+k=us.reverse.length /\ ∃Y0 S1 Y4,Pre μ Y0/\bD H H1/\HR K Y0 S1 H1/\ER H1 Y0 Y4 Y8/\vJ i b (us.reverse.drop k) Y4 S1=a_ r,⟨us.reverse.length,rfl,μ,S,G,Pre.refl _,bD.refl _,hr,er,e⟩,?_⟩;rintro k m Y8 H1 ⟨hm,Y0,S1,Y4,p1,k1,ZZ,ZH,e1⟩;have hq:SqT K H1 a vs:= .inl (.inl (k1 a vs ha));cases m with
 | zero=>
   have hk:k=us.reverse.length:=by lia
   subst hk;rw[y3]at e1;cases e1;exact .inl ⟨⟨vs,hq,rfl,by rw[rr.len,ub];exact ak _⟩,fl Y0 Y8 H1 p1 k1 ZZ ZH⟩
 | succ m=>
   have hk:k<us.reverse.length:=by lia
   have hu:us.reverse[k]?=a_ us.reverse[k]:=aC hk;obtain⟨v,hv,rv⟩:=rr.get hu;rw[drop_cons hu]at e1;refine .inr ⟨⟨vs,v,hq,rfl,hv⟩,λY9 H2=>∃Y7 S2 X0,Pre μ Y7/\bD H H2/\HR K Y7 S2 H2/\ER H2 Y7 X0 Y9/\vJ i b (us.reverse.drop (k+1)) X0 S2=a_ r,λY3 H' w=>⟨m,bV _,by lia,w⟩,λx H' y=>?_⟩;obtain⟨e',y⟩:=y;subst e';have hx:=y vs hq;rw[hv]at hx;cases hx;exact oE ZZ (ZH.set (RU.mono k1 p1 _ _ rv) i) e1 p1 k1 fl λY7 Y9 H2 X0 S2 p2 k2 ZT Yn e2=>⟨Y7,S2,X0,p2,k2,ZT,Yn,e2⟩
theorem Pe{a:MA}{b:MS}(h:tMS K (fj i (Bl a) b) D σ H):xB (Cw K 6#3) (j6 i) (tMS K b) D σ H:=by
 obtain⟨μ,S,G,r,hr,er,e,fl⟩:=h;obtain⟨src,S1,e1,e⟩:=be e;refine HL hr er e1 λY0 H1 us p vs p1 k1 ZZ hs hp rs=>?_;subst hs;exact ID ZZ 10#8 e (fl.mono p1 k1) hp rs
end
variable{X:Cx}{e:Expr}
theorem PE.con{t t':TE}(h:PE X e t)(hm:∀σ H Q,t' σ H Q->t σ H Q):PE X e t':=λpins s σ H Q I q=>h _ s σ H Q I (hm σ H Q q)
variable{t':TT}
theorem PT.con{t:TT}(h:PT X e t)(hm:∀σ H Q,t' σ H Q->t σ H Q):PT X e t':=λpins s σ H Q I q=>h _ s σ H Q I (hm σ H Q q)
theorem PW.con{t:TT}(h:PW X e t)(hm:∀σ H Q,t' σ H Q->t σ H Q):PW X e t':=λwh pins s σ H Q I q=>h wh _ s σ H Q I (hm σ H Q q)
variable{e:List Expr}
theorem PA.con{t t':TA}(h:PA X e t)(hm:∀σ H Q,t' σ H Q->t σ H Q):PA X e t':=λpos pins s σ H Q I q=>h _ _ s σ H Q I (hm σ H Q q)
theorem PS.con{e:Stmt}{t t':TS}(h:PS X e t)(hm:∀D σ H,t' D σ H->t D σ H):PS X e t':=λpins s σ H D I q=>h _ s σ H D I (hm D σ H q)
theorem PSs.con{e:List Stmt}{t t':TS}(h:PSs X e t)(hm:∀D σ H,t' D σ H->t D σ H):PSs X e t':=λpins s σ H D I q=>h _ s σ H D I (hm D σ H q)
theorem PTs.con{t:TT}(h:PTs X e t)(hm:∀σ H Q,t' σ H Q->t σ H Q):PTs X e t':=λpins s σ H Q I q=>h _ s σ H Q I (hm σ H Q q)
variable{tg:Expr}
theorem PI.or{it:Expr}{w1 w2:TI}(h1:PI X tg it w1)(h2:PI X tg it w2):PI X tg it (λσ H R=>w1 σ H R\/w2 σ H R):=λpins s σ H R I q=>by
 rcases q with q|q
 .exact h1 _ s σ H R I q
 .exact h2 _ s σ H R I q
structure Mo where
 P:Program
 w:World
 K:KX
 mg:Str->Option f_
 base:Heap
 mkr:Option (e_×Str)
def xy(ns:List 7#2)(x:Str):Bool:=match ns.lookup x with
 |some .local=>c_
 |some .cell=>c_
 |some .free=>c_
 |_=>d_
def r9(ns:List 7#2)(x:Str):Bool:=match ns.lookup x with
 |some .local=>c_
 |some .cell=>c_
 |_=>d_
def fG(ns:List 7#2)(x:Str):Bool:=match ns.lookup x with
 |some .globalImplicit=>c_
 |_=>d_
structure Sc(M:Mo)(X:Cx)(k:Nat)(N:List Str)(ns:List (Str×NameKind)):Prop where
 hP:X.prog=M.P
 hw:X.w=M.w
 hK:X.K=M.K
 hm:X.mg=M.mg
 hb:X.base=M.base
 hN:X.N=N
 nd:N.Nodup
 calm:X.calm=c_
 loc:∀y,ns.lookup y=a_ .local->X.env.scope.names.lookup y=a_ .local
 cel:∀y,ns.lookup y=a_ .cell->X.env.scope.names.lookup y=a_ .cell/\X.fn y=c_
 fre:∀y,ns.lookup y=a_ .free->X.env.scope.names.lookup y=a_ .cell\/X.env.scope.names.lookup y=a_ .free
 glo:∀y,ns.lookup y=a_ .globalImplicit->X.env.scope.names.lookup y=a_ .globalImplicit
 room:lF k X.A
 own:PassesOwn (model X.prog X.w) X.A X.env X.xe
 cod:∀c q,M.mkr=a_ (c,q)->X.env.code=.ref c/\X.env.qual=q
section
variable {M:Mo}{X:Cx}{k:Nat}{N:List Str}{ns:List (Str×NameKind)}
theorem Sc.vis(S:Sc M X k N ns){x:Str}(h:xy ns x=c_):Vis X.env.scope x:=by
 unfold xy at h
 split at h
 .rename_i e;exact .inl (S.loc x e)
 .rename_i e;exact .inr (.inl (S.cel x e).1)
 .rename_i e;exact .inr (S.fre x e)
 grind
theorem Sc.lo(S:Sc M X k N ns){x:Str}(h:r9 ns x=c_):Loc X.env.scope x/\17#2:=by
 unfold r9 at h
 split at h
 .rename_i e;exact⟨.inl (S.loc x e),.inr (S.loc x e)⟩
 .rename_i e;exact⟨.inr (S.cel x e).1,.inl (S.cel x e).2⟩
 grind
theorem Sc.gl(S:Sc M X k N ns){x:Str}(h:fG ns x=c_):Gl X x:=by
 unfold fG at h
 split at h
 .rename_i e;exact S.glo x e
 grind
variable {a b c e:Expr}{es:List Expr}{ma mb mc:ME}{mt:MT}{ZJ:MA}{pos p1 p2:Pos}{x:Str}
theorem TN(S:Sc M X k N ns)(i:Nat)(hi:N[i]?=a_ x)(hv:xy ns x=c_)(hd:8#3=d_)(Z4:19#7=d_):PE X (.Name x pos) (tM M.K (ae i)):=
 PE.con (HS (by rw[S.hN];omega) (S.vis hv) hd Z4) λ_ _ _ h=>TM h
theorem Up{i:Int}{j}:PE X (.Constant 4#8 j pos) (tM M.K (mC 4#8)):=PE.con RP λ_ _ _ h=>r_c (λ_ _=>gm) h
theorem VU{i:Bool}{j}:PE X (.Constant (.bool i) j pos) (tM M.K (mC (.bl i))):=PE.con Vo λ_ _ _ h=>r_c (λ_ _=>j5) h
theorem Ug{j}:PE X (.Constant .none j pos) (tM M.K 8#2):=PE.con QF λ_ _ _ h=>r_c (λ_ _=>ql) h
theorem PV{g:f_}(S:Sc M X k N ns)(hg:fG ns x=c_)(hm:M.mg x=a_ g)(r:RelV v g)(hv :∀ H μ,RU H μ u v)(hd:8#3=d_):PE X (.Name x pos) (tM M.K (mC u)):=
 PE.con (Ng 5#7 7#0 r hd) λ_ _ _ h=>r_c hv h
theorem UD(S:Sc M X k N ns)(ha:PE X a 3#3)(hb:PE X b 7#3):PE X (.BinOp a .Add b pos) (tM M.K (m2 eP ma mb)):=
 PE.con (yO (Q6.or (OpR.or (S.hK▸Lu) (S.hK▸Ma))) ha hb) λ_ _ _ h=>za Pc h
theorem UG(ha:PE X a 3#3)(hb:PE X b 7#3):PE X (.BinOp a .Sub b pos) (tM M.K (m2 vY ma mb)):=PE.con (yO RW ha hb) λ_ _ _ h=>za Ry h
theorem Tt(S:Sc M X k N ns)(ha:PE X a 3#3)(hb:PE X b 7#3):PE X (.BinOp a .Mult b pos) (tM M.K (m2 il ma mb)):=PE.con (yO (Q0.or (S.hK▸Nc)) ha hb) λ_ _ _ h=>za QU h
theorem Vj(ha:PE X a 3#3)(hb:PE X b 7#3):PE X (.BinOp a .FloorDiv b pos) (tM M.K (m2 oDiv ma mb)):=PE.con (yO MY ha hb) λ_ _ _ h=>za Pl h
theorem Uj(ha:PE X a 3#3)(hb:PE X b 7#3):PE X (.BinOp a .Mod b pos) (tM M.K (m2 oMod ma mb)):=PE.con (yO Rj ha hb) λ_ _ _ h=>za Qg h
theorem UQ(ha:PE X a 3#3)(hb:PE X b 7#3):PE X (.BinOp a .Pow b pos) (tM M.K (m2 DJ ma mb)):=PE.con (yO QZ ha hb) λ_ _ _ h=>za RT h
theorem UJ(ha:PE X a 3#3):PE X (.UnaryOp .USub a pos) (tM M.K (m1 lM ma)):=PE.con (SE Rz ha) λ_ _ _ h=>WI QP h
theorem Wx(S:Sc M X k N ns)(ha:PE X a 3#3)(hb:PE X b 7#3)(hs:zh b):PE X (.Subscript a b pos) (tM M.K (m2 oIx ma mb)):=
 PE.con (SL (IxR.or (S.hK▸Rb) (R0 (by have:=S.room.units;lia))) ha hb hs) λ_ _ _ h=>za VG h
theorem US(hc:PT X c 7#9)(ha:PE X a 3#3)(hb:PE X b 7#3):PE X (.IfExp c a b pos) (tM M.K (Bp mt ma mb)):=PE.con (IQ hc ha hb) λ_ _ _ h=>TR h
theorem SG:PA X [] (tMA M.K ah):=PA.con vD λ_ _ _ h=>UA h
theorem PM(ha:PE X a 3#3)(hr:PA X es 3#2)(hs:autoParam (starEach (a::es) X.env=15#0::starEach es X.env) 1#6):PA X (a::es) (tMA M.K (aa ma ZJ)):=
 PA.con (oV ha hr hs) λ_ _ _ h=>Pb h
theorem U9{x1}(h:PA X es 3#2):PE X (.Tuple es x1 pos) (tM M.K (iS ZJ)):=PE.con (O8 h) λ_ _ _ h=>Vw h
theorem SH(h:PA X es 3#2):PE X (.List es pos) (tM M.K (dP ZJ)):=PE.con (PF h) λ_ _ _ h=>Ux h
variable{mt':MT}
theorem Uc(ha:PT X a 7#9)(hb:PW X (.BoolOp .And (b::es) pos) (tMT M.K mt')):PW X (.BoolOp .And (a::b::es) pos) (tMT M.K (nu mt mt')):=PW.con (O4 ha hb) λ_ _ _ h=>TY h
theorem VQ(ha:PT X a 7#9)(hb:PW X (.BoolOp .Or (b::es) pos) (tMT M.K mt')):PW X (.BoolOp .Or (a::b::es) pos) (tMT M.K (cOr mt mt')):=PW.con (Sl ha hb) λ_ _ _ h=>WK h
theorem QO(ha:PT X a 7#9):PW X (.BoolOp .And [a] pos) 7#9:=LF ha
theorem SK(ha:PT X a 7#9):PW X (.BoolOp .Or [a] pos) 7#9:=OY ha
theorem UX(ha:PT X a 7#9):PT X (.UnaryOp .Not a pos) (tMT M.K (Dn mt)):=PT.con (RV ha) λ_ _ _ h=>Uy h
theorem Ud(ha:PE X a 3#3)(he:autoParam (∀whole,isTrue a X.env whole=(do let v <- whole;standAt a.pos;holding [v] (truthy v))) au3._auto_1):PT X a (tMT M.K (cOf ma)):=PT.con (Rg ha he) λ_ _ _ h=>WH (λ_ q=>q) h
theorem J4(S:Sc M X k N ns)(hg:fG ns "len"=c_)(hm:M.mg "len"=b_)(ha:PA X 2#0 3#2)(he:autoParam 10#2 1#6)(ZL:autoParam 13#5 1#6) :
  PE X (.Call (.Name "len" p1) 2#0 [] pos) (tM M.K (mFn cp ZJ)):=
 PE.con (ko (iM.or (S.hK▸zY) GO) 5#7 7#0 PySem.boot_len ha 0#2 0#2 he ZL) λ_ _ _ h=>zb Qo h
theorem Mi(S:Sc M X k N ns)(hg:fG ns "tuple"=c_)(hm:M.mg "tuple"=b_)(ha:PA X 2#0 3#2)(he:autoParam 10#2 1#6)(ZL:autoParam 13#5 1#6) :
  PE X (.Call (.Name "tuple" p1) 2#0 [] pos) (tM M.K (mFn bN ZJ)):=
 PE.con (lE (S.hK▸xw) 5#7 7#0 xV ha 0#2 0#2 he ZL) λ_ _ _ h=>zb HK h
theorem Um(S:Sc M X k N ns)(hg:fG ns "max"=c_)(hm:M.mg "max"=b_)(ha:PA X 2#0 3#2)(he:autoParam 10#2 1#6)(ZL:autoParam 13#5 1#6) :
  PE X (.Call (.Name "max" p1) 2#0 [] pos) (tM M.K (mFn Ah ZJ)):=
 PE.con (ko (Ga S.calm) 5#7 7#0 PyProof.Rows.boot_max ha 0#2 0#2 he ZL) λ_ _ _ h=>zb P8 h
theorem Uh(S:Sc M X k N ns)(hg:fG ns "min"=c_)(hm:M.mg "min"=b_)(ha:PA X 2#0 3#2)(he:autoParam 10#2 1#6)(ZL:autoParam 13#5 1#6) :
  PE X (.Call (.Name "min" p1) 2#0 [] pos) (tM M.K (mFn y9 ZJ)):=
 PE.con (ko (S.hK▸GI S.calm (by have:=S.room.units;omega)) 5#7 7#0 PyProof.Rows.boot_min ha 0#2 0#2 he ZL) λ_ _ _ h=>zb O9 h
structure Fn(M:Mo)(x:Str)(k:Nat)(ps:List Str)(m:MF):Prop where
 ex:∃(f:e_) (fd:FuncData),M.mg x=a_ (.ref f)/\dI M.K (.ref f)=c_/\Binds M.K fd ps []/\lD M.P M.w M.K M.mg M.base CX0 k f fd ps (spM M.K m)
variable{mf:MF}{ps:List Str}{k':Nat}
theorem RH (S:Sc M X k N ns)(F:Fn M x k' ps mf)(hk:k'<=k)(hg:fG ns x=c_)(ha:PA X 2#0 3#2)(hd:8#3=d_)(he:autoParam 10#2 1#6)(ZL:autoParam 13#5 1#6) :
  PE X (.Call (.Name x p1) 2#0 [] pos) (tM M.K (mFn mf ZJ)):=by
 obtain⟨f,fd,hm,Yu,hb,F⟩:=F.ex;rw[<-S.hP,<-S.hw,<-S.hK,<-S.hm,<-S.hb]at F;rw[<-S.hm]at hm;rw[<-S.hK]at Yu hb;exact PE.con (LK F (S.room.mono hk) 5#7 hm Yu hb .nil EX ha hd he ZL) λ_ _ _ h=>Jy h
theorem Nm (S:Sc M X k N ns)(F:Fn M x k' ps mf)(hk:k'<=k)(hg:fG ns x=c_)(hd:8#3=d_) :
  PE X (.Call (.Name x p1) [] [] pos) (tM M.K (mFn mf ah)):=by
 obtain⟨f,fd,hm,Yu,hb,F⟩:=F.ex;rw[<-S.hP,<-S.hw,<-S.hK,<-S.hm,<-S.hb]at F;rw[<-S.hm]at hm;rw[<-S.hK]at Yu hb;refine PE.con (JY F (S.room.mono hk) 5#7 hm Yu hb .nil EX hd) λσ H Q h=>?_;obtain⟨μ,S,G,u,S',hr,er,e,kk⟩:=h;exact⟨μ,S,[],u,S',hr,.nil,e,kk⟩
theorem Kt(S:Sc M X k N ns)(ho:PE X a 3#3)(ha:PA X 2#0 3#2)(Zx:autoParam (attributeBase a "append" X.env (eval a X.env)=eval a X.env) 1#6)
  (YL:autoParam (((backTo pos (starEach 2#0 X.env)).all (λx => !x.1)&&(backToKw pos (keywordEach [] X.env)).all (λx=>x.1.isSome)
   && decide ((e::es).length+([]:List Keyword).length+(if ([]:List Keyword).isEmpty then 0 else 1)<30))=c_) au1._auto_1)
  (Zw:autoParam ((p1.endLine==pos.line)=c_) 1#6) (hs:autoParam 10#2 1#6) (ZL:autoParam 13#5 1#6):
  PE X (.Call (.Attribute a "append" p1) 2#0 [] pos) (tM M.K (mML de ma ZJ)):=PE.con (HV jc PySem.F.slot_list_append PySem.F.type_list_append Gy ho ha Zx YL Zw hs ZL) fun _ _ _ h=>S.hK▸O2 F8 h
theorem Ny(S:Sc M X k N ns)(ho:PE X a 3#3)(ha:PA X 2#0 3#2)(Zx:autoParam (attributeBase a "pop" X.env (eval a X.env)=eval a X.env) 1#6)
  (YL:autoParam (((backTo pos (starEach 2#0 X.env)).all (λx => !x.1)&&(backToKw pos (keywordEach [] X.env)).all (λx=>x.1.isSome)
   && decide ((e::es).length+([]:List Keyword).length+(if ([]:List Keyword).isEmpty then 0 else 1)<30))=c_) au1._auto_1)
  (Zw:autoParam ((p1.endLine==pos.line)=c_) 1#6) (hs:autoParam 10#2 1#6) (ZL:autoParam 13#5 1#6):
  PE X (.Call (.Attribute a "pop" p1) 2#0 [] pos) (tM M.K (mML nU ma ZJ)):=PE.con (HV jc FS FT IR ho ha Zx YL Zw hs ZL) fun _ _ _ h=>S.hK▸O2 JV h
theorem Tp (S:Sc M X k N ns)(hg:fG ns "range"=c_)(hm:M.mg "range"=b_)(ha:PA X [a] 3#2)(hs:autoParam 19#6 1#6):PI X tg (.Call (.Name "range" p1) [a] [] pos) (Bf 3#2):=
 Gg 5#7 7#0 ha hs
theorem UR (S:Sc M X k N ns)(hg:fG ns "range"=c_)(hm:M.mg "range"=b_)(ha:PA X [a,b] 3#2)(hs:autoParam (starEach [a,b] X.env=[15#0,15#4]) 1#6)(Zv:autoParam (starEach [b] X.env=[15#4]) 1#6):PI X tg (.Call (.Name "range" p1) [a,b] [] pos) (Ba 3#2):=
 G2 5#7 7#0 ha hs Zv
theorem Qd (S:Sc M X k N ns)(hg:fG ns "reversed"=c_)(hm:M.mg "reversed"=b_)(ha:PA X [a] 3#2)(hs:autoParam 19#6 1#6):PI X tg (.Call (.Name "reversed" p1) [a] [] pos) (Cw M.K 3#2):=
 S.hK▸P5 5#7 (by rw[S.hm];exact hm) ha hs
theorem Wh(S:Sc M X k N ns)(ha:PE X a 3#3):PI X tg a (λσ H R=>Cs M.K 3#3 σ H R\/Iw M.K 3#3 σ H R):=by
 have h:=PI.or (Nh (tg:=tg) ha) (Q7 ha);rw[S.hK]at h;omega
def zV(N N':List Str)(ns names:List 7#2)(xs:List Str):Bool:=
 decide ((names.map (·.1)).Nodup)&&names.all (λy=>if y.2==.free then(match ns.lookup y.1 with |some .cell=>c_ |some .free=>c_ |_=>d_) else c_)&&xs.all (r9 names)&&decide N'.Nodup &&
 (N'.length==N.length+1#4)&&((aq 1#4).all λj=>N'[N.length+j]? == xs[j]?)&&(aq N.length).all λi=>match N'[i]? with
  |none=>c_
  |some y=>if xy names y then N[i]? == a_ y&&names.lookup y==a_ .free else c_
def oU(N N':List Str)(ns names:List 7#2)(x:Str):Bool:=zV N N' ns names [x]
variable{N' xs:List Str}{scope:Scope}
theorem Ek(S:Sc M X k N ns)(hk:scope.kind=.function)(h:zV N N' ns scope.names xs=c_):jR X N' scope xs:=by
 unfold zV at h;simp only[aE]at h;obtain⟨⟨⟨⟨⟨⟨h1,h2⟩,h3⟩,h4⟩,h5⟩,h6⟩,h7⟩:=h;refine⟨hk,of_decide_eq_true h1,λy hy e=>?_,λx hx=>?_,of_decide_eq_true h4,?_,λj x hj=>?_,λi y hi e hv=>?_⟩
 .have:=dc.mp h2 y hy
  rw[if_pos (by rw[e];rfl)]at this
  split at this
  .rename_i q;exact .inl (S.cel _ q).1
  .rename_i q;exact S.fre _ q
  grind
 .have h3:=dc.mp h3 x hx
  unfold r9 at h3
  split at h3<;>grind
 .rw[S.hN];exact eq_of_beq h5
 .have:=dc.mp h6 j (aA.mpr ((ag.mp hj).1))
  rw[S.hN,eq_of_beq this];omega
 .rw[S.hN]at hi ⊢
  have:=dc.mp h7 i (aA.mpr hi);rw[e]at this;have hvb:xy scope.names y=c_:=by
   unfold xy;rcases hv with q|q|q<;>rw[q]
  grind
theorem ym(S:Sc M X k N ns)(hk:scope.kind=.function)(h:oU N N' ns scope.names x=c_):jR X N' scope [x]:=Ek S hk h
theorem z8(S:Sc M X k N ns)(C:jR X N' scope xs)(ZX:g_)(ZS:Hp)(fp:List e_):Sc M 12#5 k N' scope.names where
 hP:=S.hP
 hw:=S.hw
 hK:=S.hK
 hm:=S.hm
 hb:=S.hb
 hN:=rfl
 nd:=C.ndN
 calm:=S.calm
 loc:=λy h=>lookup_relabel_local h
 cel:=λy h=>⟨mD h,by show(scope.names.lookup y==a_ _)=c_;rw[h];rfl⟩
 fre:=λy h=>mq h
 glo:=λy h=>qK h
 room:=S.room
 own:=xi
 cod:=S.cod
variable{iter:Expr}{wi:TI}{mi:MI}
theorem JQ{px:Pos}{elt:Expr}{ifs:List Expr}(S:Sc M X k N ns)(hk:scope.kind=.function)(ok:oU N N' ns scope.names x=c_)(hi:PI X (.Name x px) iter wi)
  (ht:∀X',Sc M X' k N' 6#8->PTs X' ifs 7#9) (he:∀X',Sc M X' k N' 6#8->PE X' elt (tM M.K mc)) (hr:∀σ H Q,tM M.K (bW mi mt mc) σ H Q->qI wi 7#9 (tM M.K mc) σ H Q)
  (hs:autoParam 18#7 au3._auto_1):PE X 17#1 (tM M.K (bW mi mt mc)):=by
 have C:=ym S hk ok;exact PE.con (Lx S.calm C hi (λZX ZS fp=>ht _ (z8 S C _ _ fp)) (λZX ZS fp=>he _ (z8 S C _ _ fp)) hs) hr
theorem Q9:PTs X [] (tMT M.K cTT):=PTs.con Mj λσ H Q h=>by
 obtain⟨μ,S,G,b,S',hr,er,e,kk⟩:=h;cases e;exact kk μ H 2#6 11#4 hr
theorem Tw(h:PT X c 7#9):PTs X [c] 7#9:=LQ h
variable {st:Stmt}{sts:List Stmt}{ms ms':MS}
theorem SA:PSs X [] (tMS M.K dw):=PSs.con Mt λ_ _ _ h=>Jc h
theorem TB(h1:PS X st (tMS M.K ms))(h2:PSs X sts (tMS M.K ms')):PSs X (st::sts) (tMS M.K (aX ms ms')):=PSs.con (Ik h1 h2) λ_ _ _ h=>SJ h
theorem SX(h1:PS X st (tMS M.K ms)):PSs X [st] (tMS M.K ms):=Ml h1
theorem OL(S:Sc M X k N ns)(i:Nat)(hi:N[i]?=a_ x)(ho:r9 ns x=c_)(he:PE X e 3#3)(hs:autoParam (swapsWith e (a_ (.Name x p1)) pos.line X.env=pure d_) 1#6):PS X (.Assign [.Name x p1] e pos) (tMS M.K (bC i ma)):=
 PS.con (Rk 20#1 (by rw[S.hN];omega) (S.lo ho).1 he hs (S.lo ho).2) λ_ _ _ h=>OV h
theorem Mk(S:Sc M X k N ns)(ho:PE X a 3#3)(hi:PE X b 7#3)(he:PE X e (tM M.K mc))(hs:autoParam (swapsWithSole [.Subscript a b p1] e pos.line X.env=pure d_) 1#6)(hw:autoParam (swappedStores [.Subscript a b p1] e X.env=pure b_) 1#6)
  (h1:autoParam ((assignEach [.Subscript a b p1] X.env).map (·.2)=[assign (.Subscript a b p1) X.env]) 1#6)
  (hasn:autoParam (∀v,assign (.Subscript a b p1) X.env v=(do
   let ov <- holding [v] (eval a X.env)
   let iv <- holding [v,ov] (eval b X.env)
   standAt p1
   holding [v,ov,iv] (setItem ov iv v)
   release [v,ov,iv] [])) au3._auto_1):PS X (.Assign [.Subscript a b p1] e pos) (tMS M.K (gf ma mb mc)):=
 PS.con (K6 he (Q5 ho hi (NC (by have:=S.room.units;lia)) hasn) hs hw h1) λ_ _ _ h=>NP h
theorem RM(he:PE X e 3#3)(hs:autoParam (swapsWith e b_ pos.line X.env=pure d_) 1#6):PS X (.Expr e pos) (tMS M.K (eG ma)):=PS.con (NU he hs) λ_ _ _ h=>QM h
theorem Tz(he:PE X e 3#3):PS X (.Return (a_ e) pos) (tMS M.K (cb ma)):=PS.con (Qh he) λ_ _ _ h=>TX h
theorem WB{sts':List Stmt}(hc:PT X c 7#9)(ha:PSs X sts (tMS M.K ms))(hb:PSs X sts' (tMS M.K ms')):PS X (.If c sts sts' pos) (tMS M.K (sIf mt ms ms')):=PS.con (Tn hc ha hb) λ_ _ _ h=>WC h
theorem UW(S:Sc M X k N ns)(i:Nat)(hi:N[i]?=a_ x)(ho:r9 ns x=c_)(hit:PI X (.Name x p1) iter wi)(hb:PSs X sts (tMS M.K ms))(hr:∀D σ H,tMS M.K (fj i mi ms) D σ H->xB wi (j6 i) (tMS M.K ms) D σ H)
  (hs:autoParam 18#7 au3._auto_1):PS X (.For (.Name x p1) iter sts [] pos) (tMS M.K (fj i mi ms)):=
 PS.con (Jm S.own S.calm hit (Fm 20#1 (by rw[S.hN];omega) (S.lo ho).1 (S.lo ho).2) hb hs) hr
theorem NJ(S:Sc M X k N ns)(hc:PT X c 7#9)(hb:PSs X sts (tMS M.K ms)):PS X (.While c sts [] pos) (tMS M.K (mj mt ms)):=PS.con (J6 S.own hc hb) λ_ _ _ h=>Lw h
end
variable{A:Around}{f:e_}{N:List Str}{qual:Str}{s:g_}
theorem Sc.def{M:Mo}{ps:List Str}{scope:Scope}{cdv:f_}{outer:List Env}{E:XK}{k:Nat}(S:bh N ps scope)(hr:lF k (A.deeper (envOfC qual scope s.heap.objs.size f cdv)))(h0 :∀ c q,M.mkr=a_ (c,q)->cdv=.ref c/\qual++".<locals>."=q) :
  Sc M (Gc CX0 M.P M.w M.K M.mg M.base N qual scope f cdv A outer s H E).nox k N 6#8:=
 ⟨rfl,rfl,rfl,rfl,rfl,rfl,S.nd,rfl,λ_ h=>h,λ_ h=>⟨h,rfl⟩,λ_ h=>.inr h,λ_ h=>h,hr,xi,h0⟩
variable{us:List U}{vs:List V}
theorem yu(r:RUs H μ us vs):ER H μ (us.map a_++aS (N.length-1#3) b_) (_L.start N vs):=by
 unfold _L.start;refine⟨by simp[r.len],λi u h=>?_⟩;by_cases hi:i<1#3
 .rw[aT (by simpa using hi),a9]at h
  cases e:us[i]? with
  |none=>rw[e]at h;cases h
  | some w=>
    rw[e]at h;cases h;obtain⟨v,hv,rv⟩:=r.get e;refine⟨v,?_,rv⟩;rw[aT (by simpa [<-r.len]using hi),a9,hv];rfl
 .rw[bo (by simpa using hi)]at h
  rw[jv]at h
  simp_all
theorem Kk{M:Mo}(h0:M.mkr=b_){x:Str}{st:Stmt}{fd:FuncData}{ps:List Str}{k:Nat}{ms:MS}(F:Fun M.K x qual st f fd)(S:bh N ps (aG st))
  (hb:∀X,Sc M X k N (aG st).names->PSs X (dB st) (tMS M.K ms)):lD M.P M.w M.K M.mg M.base CX0 (k+1) f fd ps (spM M.K 19#8):=by
 refine F.ok S (λvs H Q E h=>?_) λcdv A outer s H vs Q E hr h=>⟨_,hb _ (Sc.def S hr λc q h=>by grind),?_⟩
 .obtain⟨μ,S',us,u,Yl,hr,rs,e,_⟩:=h
  unfold run at e
  split at e
  .rw[<-rs.len];omega
  .cases e
 .obtain⟨μ,S1,us,u,S2,hr,rs,e,ka⟩:=h
  unfold run at e
  split at e
  .rename_i hl
   have er:=yu (N:=N) rs;rw[hl]at er
   split at e
   .rename_i w Y5 S3 q
    cases e;exact⟨μ,S1,_,_,hr,er,q,ka⟩
   .rename_i Y5 S3 q
    cases e;exact⟨μ,S1,_,_,hr,er,q,λY6 Y3 H' p' k' Yt er'=>ka _ _ H' p' k' Yt ql⟩
   .cases e
  .cases e
mutual
inductive sM(K:ao)(H:Hp):V->PyData->Prop where
 |non:sM K H .non .none
 |bl (b:Bool):sM K H (.bl b) (.bool b)
 |int (i:Int):sM K H (.int i) (.int i)
 |str (x:Str):sM K H (.str x) (.str x)
 |tup {a:e_}{vs:List V}{ds:List PyData}:SqT K H a vs->mU K H vs ds->sM K H (.ref a) (.tuple ds)
 |lst {a:e_}{vs:List V}{ds:List PyData}:SqL K H a vs->mU K H vs ds->sM K H (.ref a) (.list ds)
inductive mU(K:ao)(H:Hp):List V->List PyData->Prop where
 |nil:mU K H [] []
 |cons {v:V}{vs:List V}{d:PyData}{ds:List PyData}:sM K H v d->mU K H vs ds->mU K H (v::vs) (d::ds)
end
section
variable {X:Cx}{pins:List (e_×Obj)}{σ:St}{H:Hp}{s:g_}
mutual
theorem sM.reads(I:Inv X pins σ H s):∀{v:V}{d:PyData}{w:f_},sM X.K H v d->RelV v w->∃as,Reads s.heap w d as
 |_,_,_,.non,r=>⟨[],by cases (show _=cJ from r);exact .none⟩
 |_,_,_,.bl b,r=>⟨[],by cases (show _=Value.bool b from r);exact .bool b⟩
 | _,_,_,.int i,r=>by
   obtain⟨t,e⟩:=(show ∃t,_=rL i t from r);subst e;exact⟨[],.int i t⟩
 | _,_,_,.str x,r=>by
   obtain⟨t,e⟩:=(show ∃t,_=Value.str x t from r);subst e;exact⟨[],.str x t⟩
 | _,_,_,.tup (a:=a) h rs,r=>by
   cases (show _=bZ a from r);obtain⟨ZY,rv,⟨o,e,c,n,dt⟩,_⟩:=I.tuple h;obtain⟨as,q⟩:=mU.reads I rs rv;exact⟨as,.tuple e c dt q⟩
 | _,_,_,.lst (a:=a) h rs,r=>by
   cases (show _=bZ a from r);obtain⟨ZY,rv,⟨o,n,e,c,dd,dt⟩,_⟩:=I.list h;obtain⟨as,q⟩:=mU.reads I rs rv;exact⟨a::as,.list e c dt q⟩
theorem mU.reads(I:Inv X pins σ H s):∀{vs:List V}{ds:List PyData}{ws:List f_},mU X.K H vs ds->cX vs ws->∃as,ReadsAll s.heap ws ds as
 |_,_,_,.nil,r=>by cases r;exact⟨[],.nil⟩
 | _,_,_,.cons h rs,r=>by
   cases r with
   | cons r1 r2=>
     obtain⟨as,q⟩:=sM.reads I h r1;obtain⟨bs,q'⟩:=mU.reads I rs r2;exact⟨as++bs,.cons q q'⟩
end
end
theorem qM{α β:Type}{f:α->Option β}{P:α->β->Prop}(hf:∀x y,f x=a_ y->P x y):∀{xs:List α}{ys:List β},dJ f xs=a_ ys->Paired P xs ys
 |[],ys,h=>by cases h;exact .nil
 | x::xs,ys,h=>by
   unfold dJ at h;cases e:f x with
   |none=>grind
   | some y=>
     rw[e]at h;cases e2:dJ f xs with
     |none=>simp_all
     | some zs=>
       rw[e2]at h;cases h;exact .cons (hf x y e) (qM hf e2)
theorem uC{f:Nat}:∀{us:List U}{ds:List PyData},Paired (λ(_:U) (d:PyData)=>d.canLay0=c_/\d.depth<=f) us ds->mQ ds=c_/\pz ds<=f
 |_,_,.nil=>⟨by simp[mQ],by simp[pz]⟩
 | _,_,.cons h t=>by
   obtain⟨a,b⟩:=uC t;exact⟨by simp[mQ,h.1,a],Nat.max_le.mpr ⟨h.2,b⟩⟩
section
variable {K:KX}{H:Hp}{μ:List e_}{S:Sto}
theorem ux{f:Nat}(hr:HR K μ S H)(ih:∀(u:U) (d:PyData),toD S f u=a_ d->∀v,RU H μ u v->sM K H v d):∀{us:List U}{ds:List PyData},dJ (toD S f) us=a_ ds->∀{vs:List V},RUs H μ us vs->mU K H vs ds
 |[],ds,h,vs,r=>by cases h;rw[r.nil_inv];exact .nil
 | u::us,ds,h,vs,r=>by
   unfold dJ at h;cases e:toD S f u with
   |none=>grind
   | some y=>
     rw[e]at h;cases e2:dJ _ us with
     |none=>rw[e2]at h;cases h
     | some zs=>
       rw[e2]at h;cases h;obtain⟨v,r',rfl,a,b⟩:=r.inv;exact .cons (ih u y e v a) (ux hr ih e2 b)
theorem uI(hr:HR K μ S H):∀(f:Nat) (u:U) (d:PyData),toD S f u=a_ d->∀v,RU H μ u v->sM K H v d
 |0,u,d,h,v,r=>by cases u<;>cases h
 |f+1,.non,d,h,v,r=>by cases h;rw[show v=.non by simpa only [RU]using r];exact .non
 |f+1,.bl b,d,h,v,r=>by cases h;rw[kC r];exact .bl b
 |f+1,.int i,d,h,v,r=>by cases h;rw[dN r];exact .int i
 | f+1,.str x,d,h,v,r=>by
   unfold toD at h
   split at h
   .cases h;rw[show v=.str x by simpa only [RU]using r];exact .str x
   grind
 | f+1,.tup us,d,h,v,r=>by
   unfold toD at h;cases e:dJ _ us with
   |none=>rw[e]at h;cases h
   | some ds=>
     rw[e]at h;cases h;obtain⟨a,vs,rfl,ha,rs⟩:=gE r;exact .tup (.inl (.inl ha)) (ux hr (uI hr f) e rs)
 | f+1,.ref n,d,h,v,r=>by
   unfold toD at h;cases e0:getL S n with
   |none=>grind
   | some us=>
     rw[e0]at h;simp only[aO]at h;cases e:dJ _ us with
     |none=>rw[e]at h;cases h
     | some ds=>
       rw[e]at h;cases h;obtain⟨a,rfl,ha⟩:=gQ r;obtain⟨a',vs,YO,hs,rs⟩:=hr.sq e0;rw[ha]at YO;cases YO;exact .lst hs (ux hr (uI hr f) e rs)
 |f+1,.obj a,d,h,v,r=>by cases h
end
theorem uP(S:Sto):∀(f:Nat) (u:U) (d:PyData),toD S f u=a_ d->d.canLay0=c_/\d.depth<=f
 |0,u,d,h=>by cases u<;>cases h
 |f+1,.non,d,h=>by cases h;exact⟨by simp[jI],by simp[uU]⟩
 |f+1,.bl b,d,h=>by cases h;exact⟨by simp[jI],by simp[uU]⟩
 |f+1,.int i,d,h=>by cases h;exact⟨by simp[jI],by simp[uU]⟩
 | f+1,.str x,d,h=>by
   unfold toD at h
   split at h
   .rename_i q;cases h;exact⟨q,by simp[uU]⟩
   grind
 | f+1,.tup us,d,h=>by
   unfold toD at h;cases e:dJ _ us with
   |none=>rw[e]at h;cases h
   | some ds=>
     rw[e]at h;cases h;obtain⟨a,b⟩:=uC (qM (λx y q=>uP S f x y q) e);exact⟨by simpa [jI]using a,Nat.lt_succ_of_le 2#3⟩
 | f+1,.ref n,d,h=>by
   unfold toD at h;cases e0:getL S n with
   |none=>simp_all
   | some us=>
     rw[e0]at h;simp only[aO]at h;cases e:dJ _ us with
     |none=>rw[e]at h;cases h
     | some ds=>
       rw[e]at h;cases h;obtain⟨a,b⟩:=uC (qM (λx y q=>uP S f x y q) e);exact⟨by simpa [jI]using a,Nat.lt_succ_of_le 2#3⟩
 |f+1,.obj a,d,h=>by cases h
def wJ(K:ao)(H:Hp)(v:V)(d:PyData):Prop:=sM K H v d/\d.canLay0=c_/\d.depth<=40
def Ts(K:ao):R2:=λx y H Q=>∃a b,wJ K H x a/\wJ K H y b/\Q (.bl (o3 a b)) H
def Tx(K:ao):R2:=λx y H Q=>∃a b,wJ K H x a/\wJ K H y b/\Q (.bl (!o3 a b)) H
variable{d:PyData}
theorem oG{K:ao}(h:wJ K H v d):SeqAt.shaped d=c_:=by
 unfold SeqAt.shaped;rw[h.2.1,decide_eq_true (aK h.2.2 0#2)];rfl
section
variable {X:Cx}
theorem QV(hu:X.A.units+64<cLine):OpR X (compareOp .Eq) (Ts X.K):=by
 intro pins s σ H x y v u Q I rx ry h;obtain⟨a,b,ha,hb,q⟩:=h;obtain⟨as,r1⟩:=ha.1.reads I rx;obtain⟨bs,r2⟩:=hb.1.reads I ry;exact SeqAt.compareEq_shaped r1 r2 (oG ha) (oG hb) hu 9#1
theorem Pf(hu:X.A.units+64<cLine):OpR X (compareOp .NotEq) (Tx X.K):=by
 intro pins s σ H x y v u Q I rx ry h;obtain⟨a,b,ha,hb,q⟩:=h;obtain⟨as,r1⟩:=ha.1.reads I rx;obtain⟨bs,r2⟩:=hb.1.reads I ry;exact SeqAt.compareNe_shaped r1 r2 (oG ha) (oG hb) hu 9#1
end
section
variable {K:KX}{μ:List e_}{S:Sto}{H:Hp}
theorem A6(hr:HR K μ S H)(r:RU H μ u v)(h:toD S 40 u=a_ d):wJ K H v d:=⟨uI hr 40 u d h v r,uP S 40 u d h⟩
theorem Fv{x y:U}{b:Bool}(h:eqU S x y=a_ b):∃a c,toD S 40 x=a_ a/\toD S 40 y=a_ c/\b=o3 a c:=by
 unfold eqU at h;cases e1:toD S 40 x with
 |none=>simp_all
 | some a=>
   cases e2:toD S 40 y<;>grind
theorem VI:OpU K (Ts K) oEq:=by
 intro μ S H x y vx vy u S' Q hr rx ry e a;unfold oEq at e;cases q:eqU S x y with
 |none=>rw[q]at e;cases e
 | some b=>
   rw[q]at e;cases e;obtain⟨d1,d2,e1,e2,rfl⟩:=Fv q;exact⟨d1,d2,A6 hr rx e1,A6 hr ry e2,a.now hr j5⟩
theorem Vm:OpU K (Tx K) oNe:=by
 intro μ S H x y vx vy u S' Q hr rx ry e a;unfold oNe at e;cases q:eqU S x y with
 |none=>rw[q]at e;cases e
 | some b=>
   rw[q]at e;cases e;obtain⟨d1,d2,e1,e2,rfl⟩:=Fv q;exact⟨d1,d2,A6 hr rx e1,A6 hr ry e2,a.now hr j5⟩
end
def Ul(K:ao):V->Option Int->Option Int->Hp->VK->Prop:=λx lo hi H Q=>∃a xs,x=.ref a/\SqT K H a xs /\
 (HT.sIx xs.length 0 lo=0/\HT.sIx xs.length xs.length hi=1#4)/\Q (.ref a) H
theorem HU:SlR X (Ul X.K):=by
 intro pins s σ H x v vl vu lo hi sl Q I rx hs pl pu h;obtain⟨a,xs,rfl,hx,hw,q⟩:=h;cases rx;obtain⟨ZY,r,ht,hz⟩:=I.tuple hx;have hlen:14#0=1#4:=r.length.symm;exact⟨_,_,PyProof.Rows.slot_tuple_getitem.lookup,ht.typeIs,(HT.getItem_tuple_whole ht hs pl pu (by rw[hlen];omega) ⟨.ref a,H,I,rfl,q⟩)⟩
def rSl(K:ao):V->Option Int->Option Int->Hp->VK->Prop:=λx lo hi H Q=>U2 K x lo hi H Q\/(Ul K x lo hi H Q\/VD K x lo hi H Q)
theorem Pw:SlR X (rSl X.K):=SlR.or Qx (SlR.or HU M6)
def tO(K:KX):Option ME->TO
 |none=>Ez
 |some m=>NW (tM K m)
theorem EL(r:RUs H μ us vs)(lo hi:Option Int):RUs H μ (cut us lo hi) (Gb vs lo hi):=by
 unfold cut Gb;rw[r.len];exact(r.drop _).take _
section
variable {K:KX}{σ:St}{H:Hp}{Q:VK}
theorem Je{a:Option ME}{S S1:Sto}{o:Option Int}{Q:Option Int->Hp->Prop}(hr:HR K μ S H)(er:ER H μ G σ)(e:Co a G S=a_ (o,S1))
  (k:∀Y0 H1,Pre μ Y0->bD H H1->HR K Y0 S1 H1->Q o H1):tO K a σ H Q:=by
 cases a with
 |none=>cases e;exact k μ H 2#6 11#4 hr
 | some m=>
   obtain⟨x,S2,e1,e⟩:=be (show bnd (m G S) (λx S1=>match x with
    |.int i=>a_ (a_ i,S1)
    | _=>b_)=a_ _ from e)
   split at e
   .cases e
    exact⟨μ,S,G,_,_,hr,er,e1,λY0 v H1 p1 k1 ZZ rx=>⟨_,dN rx,k _ H1 p1 k1 ZZ⟩⟩
   .cases e
theorem MQ{a:ME}{lo hi:Option ME}(h:tM K (mSl a lo hi) σ H Q):tSl (rSl K) (tM K a) (tO K lo) (tO K hi) σ H Q:=by
 obtain⟨μ,S,G,u,S',hr,er,e,k⟩:=h;obtain⟨x,S1,e1,e⟩:=be e;obtain⟨l,S2,e2,e⟩:=be e;obtain⟨r,S3,e3,e⟩:=be e;refine 14#4;refine Je ZZ 10#8 e2 λY7 H2 p2 k2 ZT=>?_;refine Je ZT (er.mono 11#2 9#5) e3 λX6 H3 p3 k3 YV=>?_;have k':=k.mono 20#0 (k1.trans (k2.trans k3));have rx3:=RU.mono (k2.trans k3) (p2.trans p3) _ _ rx;cases x with
 | tup us=>
   cases e;obtain⟨p,vs,rfl,hp,rs⟩:=gE rx3;by_cases hw:HT.sIx vs.length 0 l=0/\HT.sIx vs.length vs.length r=2#4
   .refine .inr (.inl ⟨p,vs,rfl,.inl (.inl hp),hw,k'.now YV ?_⟩)
    have e4:cut us l r=us:=by
     unfold cut;rw[rs.len,hw.1,hw.2];simp[<-rs.len]
    grind
   .refine .inl ⟨p,vs,rfl,.inl (.inl hp),hw,λt ht=>?_⟩
    refine k' _ _ _ 2#6 (bD.new ht) (YV.tup ht) (jP du (RUs.mono (bD.new ht) 2#6 _ _ (EL rs l r)))
 | ref n=>
   simp only at e;cases q:getL S3 n with
   |none=>rw[q]at e;cases e
   | some us=>
     rw[q]at e;cases e;obtain⟨p,rfl,hp⟩:=gQ rx3;obtain⟨p',vs,Zk,hs,rs⟩:=YV.sq q;rw[hp]at Zk;cases Zk;exact .inr (.inr ⟨p,vs,rfl,hs,λt ht=>jG k' YV (EL rs l r) ht⟩)
 |_=>cases e
end
section
variable {M:Mo}{X:Cx}{k:Nat}{N:List Str}{ns:List (Str×NameKind)}{a b c e:Expr}{es:List Expr}{ma mb mc:ME}{mt:MT}{ZJ:MA}{pos p1 p2:Pos}{x:Str}
inductive nq(M:Mo)(X:Cx):Option Expr->Option ME->Prop where
 |none:nq M X .none .none
 |some {e:Expr}{m:ME}:PE X e (tM M.K m)->nq M X (.some e) (.some m)
theorem nq.po{lo:Option Expr}{m:Option ME}(h:nq M X lo m):PO X lo (tO M.K m):=by
 cases h with
 |none=>exact M7
 |some h=>exact Mz h
theorem My{lo hi:Option Expr}{ml mh:Option ME}(S:Sc M X k N ns)(ha:PE X a 3#3)(hl:nq M X lo ml)(hh:nq M X hi mh):PE X (.Subscript a (.Slice lo hi b_ p2) pos) (tM M.K (mSl ma ml mh)):=
 PE.con (IY (S.hK▸Pw) ha hl.po hh.po) λ_ _ _ h=>MQ h
end
def jS(a b:ME):ME:=λG S=>bnd (a G S) λx S1=>match x with
 |.bl c_=>b G S1
 |.bl d_=>a_ (.bl d_,S1)
 |_=>b_
def mOr(a b:ME):ME:=λG S=>bnd (a G S) λx S1=>match x with
 |.bl c_=>a_ (.bl c_,S1)
 |.bl d_=>b G S1
 |_=>b_
def uh:U->Sto->Res U:=λx S=>match x with
 |.bl b=>a_ (.bl (!b),S)
 |_=>b_
section
variable {K:KX}{σ:St}{H:Hp}{Q:VK}
theorem RG{a b:ME}(h:tM K (jS a b) σ H Q):OS (tM K a) (tM K b) σ H Q:=by
 obtain⟨μ,S,G,u,S',hr,er,e,k⟩:=h;obtain⟨x,S1,e1,e⟩:=be e;refine 14#4
 split at e
 .exact⟨_,kC rx,vW 20#8⟩
 .cases e
  exact⟨_,kC rx,wH (k _ _ H1 p1 k1 ZZ j5)⟩
 .cases e
theorem Vr{a b:ME}(h:tM K (mOr a b) σ H Q):SC (tM K a) (tM K b) σ H Q:=by
 obtain⟨μ,S,G,u,S',hr,er,e,k⟩:=h;obtain⟨x,S1,e1,e⟩:=be e;refine 14#4
 split at e
 .cases e
  exact⟨_,kC rx,vW (k _ _ H1 p1 k1 ZZ j5)⟩
 .exact⟨_,kC rx,wH 20#8⟩
 .cases e
theorem RZ{a:ME}(h:tM K (m1 uh a) σ H Q):OI (tM K a) σ H Q:=by
 obtain⟨μ,S,G,u,S',hr,er,e,k⟩:=h;obtain⟨x,S1,e1,e⟩:=be e;refine 14#4;unfold uh at e
 split at e
 .cases e
  exact⟨_,kC rx,k _ _ H1 p1 k1 ZZ j5⟩
 .cases e
end
section
variable {X:Cx}{a b:Expr}{ta:TA}{p pos:Pos}
def Jg(ta:TA):TE:=λσ H Q=>ta σ H λvs H1=>∃j:Int,vs=[.int j] /\ -(2^62)<=j/\j<2^62 /\ ∀r,H1 r=b_->Q (.ref r) (upd H1 r (.rng 0 j))
def NZ(ta:TA):TE:=λσ H Q=>ta σ H λvs H1=>∃i j:Int,vs=[.int i,.int j]/\(-(2^62)<=i/\i<2^62 /\ -(2^62)<=j/\j<2^62) /\ ∀r,H1 r=b_->Q (.ref r) (upd H1 r (.rng i j))
theorem BZ{pins:List (e_×Obj)}{lo hi:Int}{t u v:Tok}{tk:Nat}(I:Inv X pins σ H s)(q:∀r,H r=b_->Q (.ref r) (upd H r (.rng lo hi))):
  EP X pins σ Q 6#1 { s with heap:=s.heap.push { cls := .type "range",data := .fields #[.int lo t,.int hi u,.int 1 v] },toks:=tk }:=by
 refine 23#5;exact⟨t,u,v,av _ rfl⟩
theorem Fw(hg:Gl X "range")(hm:X.mg "range"=b_)(ha:PA X [a] ta)(hs:autoParam 19#6 1#6):PE X (.Call (.Name "range" p) [a] [] pos) (Jg ta):=by
 intro pins s σ H Q I h;refine Call_ (ky I hg hm boot_range (cM 18#2 (by rw[hs];rfl) rfl));obtain⟨j,e,q1,q2,q⟩:=q1;subst e;cases r1 with
 | cons r rr=>
   cases rr;obtain⟨t,rfl⟩:=r;exact call_range_1 (BZ I1 q)
theorem LI(hg:Gl X "range")(hm:X.mg "range"=b_)(ha:PA X [a,b] ta)(hs:autoParam (starEach [a,b] X.env=[15#0,15#4]) 1#6)(Zv:autoParam (starEach [b] X.env=[15#4]) 1#6) :
  PE X (.Call (.Name "range" p) [a,b] [] pos) (NZ ta):=by
 intro pins s σ H Q I h;refine Call_ (ky I hg hm boot_range (cM 18#2 (by rw[hs,Zv]) (by rw[Zv];rfl)));obtain⟨i,j,e,⟨q1,q2,q3,q4⟩,q⟩:=q1;subst e;cases r1 with
 | cons r rr=>
   cases rr with
   | cons r' rr=>
     cases rr;obtain⟨t,rfl⟩:=r;obtain⟨t',rfl⟩:=r';exact call_range_2 (BZ I1 q)
theorem zd:∀{xs:List V}{us:List f_},1#4=1#3->(∀(i:Nat) (x:V) (u:f_),xs[i]?=a_ x->us[i]?=a_ u->RelV x u)->cX xs us
 |[],[],_,_=>.nil
 |[],_::_,h,_=>by simp at h
 |_::_,[],h,_=>by simp at h
 |x::xs,u::us,h,k=>.cons (k 0 x u rfl rfl) (zd 14#6 λi y w h1 h2=>k (i+1) y w (by simpa using h1) (by simpa using h2))
def ph(i:Int)(n:Nat):List V:=(aq n).map λ(k:Nat)=>.int (i+k)
theorem pJ(hc:X.calm=c_):iM X (.type "list") (fun xs H Q=>∃ r lo hi,xs=[.ref r]/\H r=a_ (.rng lo hi)/\(-(2^62)<=lo/\lo<2^62 /\ -(2^62)<=hi/\hi<2^62)/\(hi-lo).toNat<=sizeLine /\ ∀ l,H l=b_->Q (.ref l) (upd H l (.lst (ph lo (hi-lo).toNat)))):=by
 intro pins s σ H xs us Q I rs h;obtain⟨r,lo,hi,rfl,hr,⟨h1,h2,h3,h4⟩,hz,q⟩:=h;cases rs with
 | cons r1 rr=>
   cases rr;cases (r1);obtain⟨t,u,v,e⟩:=I.hok r _ hr;refine call_list_range 11#3 e (small_one h1 h2 h3 h4) (by rw[rangeSize_one];grind) (hz) λh' tk acc c' hk hl ZK=>?_;obtain⟨ZF,hit⟩:=ZK;refine⟨.ref _,_,I.laid hk 2#1 ?_,rfl,q _ 16#6⟩;refine⟨by rw[ph,ar,aZ];omega,_,c',?_,by omega⟩;refine zd (by rw[ph,ar,aZ,bR,ZF]) λi x w h5 h6=>?_;have ZQ:=by
    have:=(ag.mp h5).1;rwa[ph,ar,aZ]at this
   have hx:(ph lo (hi-lo).toNat)[i]?=a_ (.int (lo+i)):=by simp[ph,ZQ]
   rw[hx]at h5;cases h5;obtain⟨t',e'⟩:=hit i w (by simpa using h6);exact⟨t',by rw[e'];simp⟩
end
theorem EJ(i:Int)(n:Nat):RUs H μ (bI i n) (ph i n):=by
 unfold bI ph
 induction n with
 |zero=>simpa using RUs.nil
 |succ n ih=>rw[eJ,bL,bL];exact ih.append (.cons gm .nil)
section
variable {K:KX}{σ:St}{H:Hp}{Q:VK}
def rLR:List V->Hp->VK->Prop:=λxs H Q=>∃r lo hi,xs=[.ref r]/\H r=a_ (.rng lo hi)/\(-(2^62)<=lo/\lo<2^62 /\ -(2^62)<=hi/\hi<2^62)/\(hi-lo).toNat<=sizeLine /\ ∀l,H l=b_->Q (.ref l) (upd H l (.lst (ph lo (hi-lo).toNat)))
theorem HR.rng{μ:List e_}{S:Sto}{p:e_}{i j:Int}(h:HR K μ S H)(hp:H p=b_):HR K μ S (upd H p (.rng i j)):=by
 have kp:bD H (upd H p (.rng i j)):=bD.new hp;refine⟨h.len,h.inj,λm c b q1 q2=>(h.cell m c b q1 q2).mono kp 2#6 (λhc=>?_) λo u hf=>?_,h.ext.upd kp 2#6 λo1 q=>by grind⟩
 .obtain⟨o,e,_⟩:=(h.cell m _ b q1 q2).has hc
  exact bB (bF e hp)
 .rw[bB (bF hf hp)];omega
theorem ET{S1:Sto}{i j:Int}{r:e_}(ZZ:HR K μ S1 H)(ho:okR i/\okR j)(hz:(bI i (j-i).toNat).length<=big)(k:Aft K μ H (.ref 4#7) (S1++[.lst (bI i (j-i).toNat)]) Q)(Yc:H r=b_):rLR [.ref r] (upd H r (.rng i j)) Q:=by
 refine⟨r,i,j,rfl,du,⟨ho.1.1,ho.1.2,ho.2.1,ho.2.2⟩,?_,λl hl=>?_⟩
 .unfold bI big at hz;rw[ar,aZ]at hz;exact hz
 .exact jG (k.mono 2#6 (bD.new Yc)) (ZZ.rng Yc) (EJ _ _) hl
theorem Kn{a:MA}(h:tM K (iF (iR1 a)) σ H Q):tCB rLR (vE (Jg 6#3) De) σ H Q:=by
 obtain⟨μ,S,G,u,S',hr,er,e,k⟩:=h;obtain⟨src,S1,e1,e⟩:=be e;obtain⟨xs,S2,e2,e1⟩:=be e1;refine 25#0
 split at e1
 .rename_i j
  split at e1
  .rename_i hj
   cases e1;simp only at e
   split at e
   .cases e
    obtain⟨v,r,rfl,rx,rn⟩:=rs.inv;rw[rn.nil_inv,dN rx];refine⟨j,rfl,hj.1,hj.2,λr Yc=>?_⟩;have ez:(j-0).toNat=j.toNat:=by simp
    exact ET ZZ ⟨15#1,hj⟩ (by rw[ez];omega) (by rw[ez];exact k.mono p1 k1) Yc
   .cases e
  .cases e1
 .cases e1
theorem Kf{a:MA}(h:tM K (iF (iR2 a)) σ H Q):tCB rLR (vE (NZ 6#3) De) σ H Q:=by
 obtain⟨μ,S,G,u,S',hr,er,e,k⟩:=h;obtain⟨src,S1,e1,e⟩:=be e;obtain⟨xs,S2,e2,e1⟩:=be e1;refine 25#0
 split at e1
 .rename_i i j
  split at e1
  .rename_i hj
   cases e1;simp only at e
   split at e
   .rename_i hz
    cases e;obtain⟨v,r,rfl,rx,rs⟩:=rs.inv;obtain⟨w,r,rfl,ry,rn⟩:=rs.inv;rw[rn.nil_inv,dN rx,dN ry];exact⟨i,j,rfl,⟨hj.1.1,hj.1.2,hj.2.1,hj.2.2⟩,λr Yc=>ET ZZ hj hz 11#9 Yc⟩
   .cases e
  .cases e1
 .cases e1
end
def qG:List String := ["NoneType","bool","int","str","list","tuple","dict"]
def mz:List String := ["bool","int","str","list","tuple","dict"]
variable{T:String}
theorem RO(K:ao){t:String}(ht:t∈qG)(hT:T∈mz):PySem.W.kitOne K (.type t) (.type T)=a_ (Lv t T):=by
 simp[qG,mz]at ht hT;rcases ht with rfl|rfl|rfl|rfl|rfl|rfl|rfl<;>rcases hT with rfl|rfl|rfl|rfl|rfl|rfl<;>first|rfl|grind
theorem Ku :iM X (.builtin "isinstance") (fun xs H Q=>∃ x t T,xs=[x,.ty T]/\qf X.K H x (.type t)/\t∈qG/\T∈mz/\Q (.bl (Lv t T)) H):=by
 intro pins s σ H xs us Q I rs h;obtain⟨x,t,T,rfl,ty,ht,hT,q⟩:=h;cases rs with
 | cons r1 rr=>
   cases rr with
   | cons r2 rr=>
     cases rr;cases (r2);exact FW I r1 ty (RO _ ht hT) λtk=>⟨.bl _,H,I.tok _,rfl,q⟩
theorem Te{S:Sto}{x:U}{t:String}(hr:HR K μ S H)(r:RU H μ x v)(e:tyU S x=a_ t):qf K H v (.type t)/\t∈qG:=by
 unfold tyU at e
 split at e
 .cases e;rw[show v=.non by simpa only [RU]using r];exact⟨.non,by decide⟩
 .cases e;rw[kC r];exact⟨.bl _,by decide⟩
 .cases e;rw[dN r];exact⟨.int _,by decide⟩
 .cases e;rw[show v=.str _ by simpa only [RU]using r];exact⟨.str _,by decide⟩
 .cases e;obtain⟨a,vs,rfl,ha,_⟩:=gE r;exact⟨.tup ha,by decide⟩
 .split at e
  .rename_i q
   cases e;obtain⟨a,rfl,ha⟩:=gQ r;obtain⟨vs,e1,_⟩:=hr.cell _ _ a q ha;exact⟨.lst e1,by decide⟩
  .rename_i q
   cases e;obtain⟨a,rfl,ha⟩:=gQ r;obtain⟨vs,e1,_⟩:=hr.cell _ _ a q ha;exact⟨.dK e1,by decide⟩
  .cases e
 .cases e
theorem Ue{H:Hp}{Q:VK}{a:ME}{T:String}(hT:T∈mz)(h:tM K (m1 (sH T) a) σ H Q):
  tCB (λxs H Q=>∃x t T,xs=[x,.ty T]/\qf K H x (.type t)/\t∈qG/\T∈mz/\Q (.bl (Lv t T)) H) (vE (tM K a) (vE (tC (.ty T)) De)) σ H Q:=by
 obtain⟨μ,S,G,u,S',hr,er,e,k⟩:=h;obtain⟨x,S1,e1,e⟩:=be e;refine 14#4;unfold sH at e;cases q:tyU S1 x with
 |none=>rw[q]at e;cases e
 | some t=>
   rw[q]at e;cases e;obtain⟨ty,ht⟩:=Te ZZ rx q;exact⟨vx,t,T,rfl,ty,ht,hT,k _ _ H1 p1 k1 ZZ j5⟩
def Kh(S:Sto)(x:U)(us:List U):Option Nat:=(dJ (toD S 39) us).bind λds=>(toD S 40 x).bind λd=>ds.findIdx? λy=>o3 y d
def eZ:List U->List U->Sto->Res U:=λus xs S=>match xs with
 |[x]=>(Kh S x us).map λk=>(.int k,S)
 |_=>b_
def Tu(K:ao)(to:TE)(t:TA):TE:=λσ H Q=>to σ H λx H1=>(∃p ys,x=.ref p/\H1 p=a_ (.tup ys))/\t σ H1 λxs H2=>∃p ys v ds d j,x=.ref p/\xs=[v]/\H2 p=a_ (.tup ys) /\
 mU K H2 ys ds/\mQ ds=c_/\pz ds<=40/\wJ K H2 v d/\ds.findIdx? (λy=>o3 y d)=a_ j/\Q (.int j) H2
theorem JR{o e:Expr}{es:List Expr}{to:TE}{t:TA}{apos cpos:Pos}(hu:X.A.units+64<cLine)(ho:PE X o to)(ha:PA X 2#0 t)
  (Zx:autoParam (attributeBase o "index" X.env (eval o X.env)=eval o X.env) 1#6)
  (YL:autoParam (((backTo cpos (starEach 2#0 X.env)).all (λx => !x.1)&&(backToKw cpos (keywordEach [] X.env)).all (λx=>x.1.isSome)
   && decide ((e::es).length+([]:List Keyword).length+(if ([]:List Keyword).isEmpty then 0 else 1)<30))=c_) au1._auto_1)
  (Zw:autoParam ((apos.endLine==cpos.line)=c_) 1#6) (hs:autoParam 10#2 1#6) (YG:autoParam ((backTo cpos 15#6).any (·.1)=d_) 1#6):
  PE X (.Call (.Attribute o "index" apos) 2#0 [] cpos) (Tu X.K to t):=by
 intro pins s σ H Q I h;refine wpAny_Call_method_late Zx YL Zw rfl (thn (ho pins s σ H _ I h) λv s1 ⟨x,H1,I1,r1,⟨p,ys,hx,hp⟩,q1⟩=>?_);subst hx;cases (r1);obtain⟨_,ZY,rv,⟨o1,e1,c1,n1,d1⟩,o2,e2,c2⟩:=I1.hok p _ hp;refine⟨"tuple",_,PySem.F.plainAttrs_tuple,CI,PySem.F.type_tuple_index,⟨o1,e1,c1⟩,fun a ea=>by cases ea;exact⟨o2,e2,c2⟩,?_⟩;have hA:=ha cpos pins s1 σ H1 _ I1 q1;rw[hs]at hA ⊢;refine pv (by show(d_||(backTo cpos _).any (·.1))=d_;rw[YG]<;>rfl) (rJ ?_);refine thn hA λus s2 ⟨vs,H2,I2,r2,q2⟩=>?_;obtain⟨p',ys',v',ds,d,j,hx,hxs,Zk,rd,hl,hdp,hd,hj,q⟩:=q2;cases hx;subst hxs;cases r2 with
 | cons ra rr=>
   cases rr;obtain⟨_,ZC,Xp,⟨⟨cls,dd,data,sl⟩,e3,c3,n3,d3⟩,_⟩:=I2.hok p _ Zk;subst c3 d3;obtain⟨as,rds⟩:=rd.reads I2 Xp;obtain⟨bs,rdv⟩:=hd.1.reads I2 ra;have hlen:=SeqAt.ReadsAll.length _ _ _ rds;have hjl:j<ds.length:=by
    obtain⟨h1,_⟩:=eD.mp hj;exact h1
   have hget:∀(m:Nat) (h1:m<ZC.length) (h2:m<ds.length),SeqAt.readOf s2.heap ZC[m]=ds[m]:=λm h1 h2=>by
    have:=congrArg (λl=>l[m]?) (SeqAt.readsAll_map ds _ _ hl rds);simp[h1,h2]at this;exact this
   obtain⟨h1,h2,h3⟩:=eD.mp hj;refine call_meets CI ⟨_,e3,rfl⟩ PySem.F.entry_tuple_index (PySem.F.args_tuple_index_2 _ _)
    (xE p _ n3 dd sl _ _ j (by rw[bP];lia) ?_ ?_) ⟨e3,(SeqAt.items_eqAt (A:=X.A) (by simpa using rds) rdv hl hd.2.1 (by have:=Nat.min_le_left (pz ds) d.depth;lia)),?_⟩
   .simp only[Lp,(hget j 0#0 hjl)];exact h2
   .intro m hm hmj
    simp only[Lp,(hget m hm (aY 0#4 0#4))];simpa using h3 m hmj
   .exact⟨.int j,H2,I2.tok _,⟨_,rfl⟩,q⟩
theorem L4{o:ME}{a:MA}(h:tM K (mMT eZ o a) σ H Q):Tu K (tM K o) 6#3 σ H Q:=by
 obtain⟨μ,S,G,u,S',hr,er,e,k⟩:=h;obtain⟨x,S1,e1,e⟩:=be e;refine 14#4;cases x with
 | tup us=>
   obtain⟨xs,S2,e2,e⟩:=be e;obtain⟨p,vs,rfl,hp,rs⟩:=gE rx;refine⟨⟨p,vs,rfl,hp⟩,_,S1,G,xs,S2,ZZ,er.mono k1 p1,e2,λY7 ws H2 p2 k2 ZT rws=>?_⟩;unfold eZ at e
   split at e
   .rename_i x
    obtain⟨v,r,rfl,rx',rn⟩:=rws.inv;rw[rn.nil_inv];cases q:Kh S2 x us with
    |none=>rw[q]at e;cases e
    | some j=>
      rw[q]at e;cases e;unfold Kh at q;cases q1:dJ _ us with
      |none=>rw[q1]at q;cases q
      | some ds=>
        rw[q1]at q;cases q2:toD S' 40 x with
        |none=>simp_all
        | some d=>
          rw[q2]at q;obtain⟨l1,l2⟩:=uC (qM (λx y z=>uP S' 39 x y z) q1);exact⟨p,vs,v,ds,d,j,rfl,rfl,k2 p vs hp,ux ZT (uI ZT 39) q1 (RUs.mono k2 p2 _ _ rs),l1,aK 2#3 0#2,A6 ZT rx' q2,q,k _ _ H2 9#5 11#2 ZT gm⟩
   .cases e
 |_=>cases e
variable{o:Obj}
theorem Mu{h h':Heap}(hk:∀b x,b ∉ [13#2]->(h.push o).get? b=a_ x->h'.get? b=a_ x):∀b x,h.get? b=a_ x->h'.get? b=a_ x:=
 λb x e=>hk b x (λhm=>by rw[bx.mp hm]at e;exact bu _ (az e)) (af _ e)
theorem DP(bs:List Bool):((aq bs.length).all λi=>(bs[i]?).getD c_)=bs.all id:=by
 rw[Bool.eq_iff_iff,dc,dc];constructor
 .intro h b hb
  obtain⟨i,hi,rfl⟩:=uc hb
  simp_all
 .intro h i hi
  simp[aC (aA.mp hi)];exact h _ (bQ _)
theorem He{bs:List Bool}:∀{us:List f_}{i:Nat}{v:f_},cX (bs.map V.bl) us->us[i]?=a_ v->∃b,bs[i]?=a_ b/\v=.bool b:=λ{us i v} r h=>by
 have hl:=r.length;rw[ar]at hl;have hi:i<bs.length:=by rw[hl];exact(ag.mp h).1
 obtain⟨u,hu,ru⟩:=r.get (i:=i) (x:= .bl bs[i]) 0#3;rw[h]at hu;cases hu;exact⟨_,by simp,ru⟩
section
variable {X:Cx}
theorem GJ(hc:X.calm=c_):iM X (.builtin "all") (fun xs H Q=>∃ (p:e_) (bs:List Bool),xs=[.ref p]/\SqL X.K H p (bs.map V.bl)/\Q (.bl (bs.all id)) H):=by
 intro pins s σ H xs us Q I rs h;obtain⟨p,bs,rfl,hS,q⟩:=h;cases rs with
 | cons r1 rr=>
   cases rr;cases (r1);obtain⟨ZY,rv,pl,_⟩:=I.list hS;have hl:=pl.isList;refine call_all_walk (pP hl ?_)
   refine⟨_,_,_,_,_,_,λi=>(bs[i]?).getD c_,rfl,Walks.list (A:=X.A.in1) 11#3 _ p (aJ (by obtain⟨_,e,_⟩:=hl;exact az e)) _,
    ⟨⟨_,av _ rfl,rfl,rfl⟩,hl.push _⟩,λi v s' Q' E' hP hQ =>?_,λh' tk hk =>?_⟩
   .obtain⟨b,e,rfl⟩:=He rv (by simpa using hP)
    simp[e]at hQ;exact eK hQ
   .have e:((aq 14#0).all λi=>(bs[i]?).getD c_)=bs.all id:=by
     rw[bP,<-rv.length,ar];exact DP bs
    rw[e];exact⟨.bl _,H,I.kept (Mu hk),rfl,q⟩
end
def zf:U->Option Bool
 |.bl b=>a_ b
 |_=>b_
def xN:MF:=λus S=>match us with
 |[.ref n]=>(getL S n).bind λxs=>(dJ zf xs).map λbs=>(.bl (bs.all id),S)
 |_=>b_
theorem A3{H:Hp}{μ:List e_}:∀{us:List U}{vs:List V}{bs:List Bool},RUs H μ us vs->dJ zf us=a_ bs->vs=bs.map V.bl
 |[],vs,bs,r,e=>by cases e;rw[r.nil_inv];rfl
 | u::us,vs,bs,r,e=>by
   obtain⟨v,r',rfl,a,b⟩:=r.inv;unfold dJ at e;cases u with
   | bl x=>
     cases q:dJ _ us with
     |none=>rw[q]at e;cases e
     | some cs=>
       rw[q]at e;cases e;rw[kC a,A3 b q];rfl
   |_=>cases e
section
variable {K:KX}
theorem Pd:oh K (λxs H Q=>∃(p:e_) (bs:List Bool),xs=[.ref p]/\SqL K H p (bs.map V.bl)/\Q (.bl (bs.all id)) H) xN:=by
 intro μ S H us vs u S' Q hr rs e a;unfold xN at e
 split at e
 .rename_i n
  obtain⟨v,r,rfl,rx,rn⟩:=rs.inv;rw[rn.nil_inv];cases q:getL S n with
  |none=>rw[q]at e;cases e
  | some xs=>
    rw[q]at e;simp only[aO]at e;cases q2:dJ _ xs with
    |none=>rw[q2]at e;cases e
    | some bs=>
      rw[q2]at e;cases e;obtain⟨p,rfl,hp⟩:=gQ rx;obtain⟨p',ys,Zk,hs,r'⟩:=hr.sq q;rw[hp]at Zk;cases Zk;rw[A3 r' q2]at hs;exact⟨p,bs,rfl,hs,a.now hr j5⟩
 .cases e
end
def iI:U->Option V
 |.non=>a_ .non
 |.bl b=>a_ (.bl b)
 |.int i=>a_ 4#8
 |.str x=>a_ (.str x)
 |_=>b_
def oIn:F2:=λx y S=>match gM S y with
 |some kvs=>(keyOf x).map λk=>(.bl (kc kvs k).isSome,S)
 |none=>(iI x).bind λvx=>(eB S y).bind λys=>(dJ iI ys).map λvs=>(.bl (inV vx vs),S)
def mB:F2:=λx y S=>match gM S y with
 |some kvs=>(keyOf x).map λk=>(.bl (!(kc kvs k).isSome),S)
 |none=>(iI x).bind λvx=>(eB S y).bind λys=>(dJ iI ys).map λvs=>(.bl (!inV vx vs),S)
theorem Ai{w:V}(e:iI u=a_ v)(r:RU H μ u w):w=v/\pG v=c_:=by
 cases u<;>simp[iI]at e<;>subst e<;>exact⟨by simpa only [RU]using r,rfl⟩
theorem uW{H:Hp}{μ:List e_}:∀{us:List U}{vs ws:List V},dJ iI us=a_ vs->RUs H μ us ws->ws=vs/\vs.all pG=c_
 |[],vs,ws,e,r=>by cases e;rw[r.nil_inv]<;>simp_all
 | u::us,vs,ws,e,r=>by
   obtain⟨v,r',rfl,a,b⟩:=r.inv;unfold dJ at e;cases q1:iI u with
   |none=>grind
   | some x=>
     cases q2:dJ _ us with
     |none=>rw[q1,q2]at e;cases e
     | some xs=>
       rw[q2]at e;obtain⟨e1,f1⟩:=Ai q1 a;obtain⟨e2,f2⟩:=uW q2 b<;>grind
section
variable {K:KX}
def MB(K:ao)(neg:Bool):R2:=λy x H Q=>rIn K neg y x H Q \/ ∃a o,x=.ref a/\xO H a y o/\Q (.bl (if neg then !o.isSome else o.isSome)) H
theorem QR(hu:X.A.units+1<cLine):OpR X (compareOp .In) (MB X.K d_):=by
 intro pins s σ H x y v u Q I rx ry h;rcases h with h|⟨a,o,rfl,g,q⟩
 .exact Ge _ s σ H x y v u Q I rx ry h
 .obtain rfl:u=bZ a:=ry
  exact Wv hu I g rx λs3 I3=>⟨.bl _,H,I3,rfl,q⟩
theorem G6(hu:X.A.units+1<cLine):OpR X (compareOp .NotIn) (MB X.K c_):=by
 intro pins s σ H x y v u Q I rx ry h;rcases h with h|⟨a,o,rfl,g,q⟩
 .exact zJ _ s σ H x y v u Q I rx ry h
 .obtain rfl:u=bZ a:=ry
  exact Nx hu I g rx λs3 I3=>⟨.bl _,H,I3,rfl,q⟩
theorem Sx:OpU K (MB K d_) oIn:=by
 intro μ S H x y vx vy u S' Q hr rx ry e a;unfold oIn at e
 split at e
 .rename_i kvs qd
  cases qk:keyOf x with
  |none=>simp_all
  | some kk=>
    rw[qk]at e;cases e;obtain⟨p,vs,rfl,hp,r⟩:=hr.dic ry qd;refine .inr ⟨p,_,rfl,.inl ⟨_,kk,.inl hp,qS rx qk,rfl⟩,?_⟩;rw[vQ (by have:=r.len;rwa[ar]at this)];exact a.now hr j5
 refine .inl ?_;cases q1:iI x with
 |none=>simp_all
 | some fx=>
   cases q2:eB S y with
   |none=>simp_all
   | some ys=>
     cases q3:dJ iI ys with
     |none=>simp_all
     | some vs=>
       rw[q1,q2]at e;simp only[aO,q3]at e;cases e;obtain⟨rfl,f1⟩:=Ai q1 rx;obtain⟨p,zs,rfl,hs,r'⟩:=hr.seq ry q2;obtain⟨rfl,f2⟩:=uW q3 r';exact⟨p,zs,rfl,hs,f1,f2,a.now hr j5⟩
theorem Ig:OpU K (MB K c_) mB:=by
 intro μ S H x y vx vy u S' Q hr rx ry e a;unfold mB at e
 split at e
 .rename_i kvs qd
  cases qk:keyOf x with
  |none=>rw[qk]at e;cases e
  | some kk=>
    rw[qk]at e;cases e;obtain⟨p,vs,rfl,hp,r⟩:=hr.dic ry qd;have hl:4#1=2#4:=by have:=r.len;rwa[ar]at this
    refine .inr ⟨p,_,rfl,.inl ⟨_,kk,.inl hp,qS rx qk,rfl⟩,?_⟩;simp only[if_true];rw[vQ hl];exact a.now hr j5
 refine .inl ?_;cases q1:iI x with
 |none=>rw[q1]at e;cases e
 | some fx=>
   cases q2:eB S y with
   |none=>rw[q1,q2]at e;cases e
   | some ys=>
     cases q3:dJ iI ys with
     |none=>rw[q1,q2]at e;simp only[aO,q3]at e;cases e
     | some vs=>
       rw[q1,q2]at e;simp only[aO,q3]at e;cases e;obtain⟨rfl,f1⟩:=Ai q1 rx;obtain⟨p,zs,rfl,hs,r'⟩:=hr.seq ry q2;obtain⟨rfl,f2⟩:=uW q3 r';exact⟨p,zs,rfl,hs,f1,f2,a.now hr j5⟩
def isU(x:U):U->Option Bool
 | .non=>(match x with
   |.non=>a_ c_
   |.bl _=>a_ d_
   |.tup _=>a_ d_
   |.ref _=>a_ d_
   |.int _=>a_ d_
   | _=>b_)
 | .bl j=>(match x with
   |.bl i=>a_ (i==j)
   |.non=>a_ d_
   | _=>b_)
 |_=>b_
def oIs:F2:=λx y S=>(isU x y).map λb=>(.bl b,S)
def kA:F2:=λx y S=>(isU x y).map λb=>(.bl (!b),S)
def rIs(neg:Bool):R2:=λx y H Q=>(∃i j,x=.bl i/\y=.bl j/\Q (.bl (if neg then i != j else i==j)) H)\/(∃i,x=.bl i/\y=.non/\Q (.bl neg) H) \/
 (∃j,x=.non/\y=.bl j/\Q (.bl neg) H)\/(x=.non/\y=.non/\Q (.bl (!neg)) H) \/
 (∃p,x=.ref p/\y=.non/\Q (.bl neg) H)\/(∃i,x=.int i/\y=.non/\Q (.bl neg) H)
theorem QG:OpR X (compareOp .Is) (rIs d_):=by
 intro pins s σ H x y v u Q I rx ry h;rcases h with⟨i,j,rfl,rfl,q⟩|⟨i,rfl,rfl,q⟩|⟨j,rfl,rfl,q⟩|⟨rfl,rfl,q⟩|⟨p,rfl,rfl,q⟩|⟨i,rfl,rfl,q⟩
 .cases rx;cases ry
  exact is_bool 9#1
 .cases rx;cases ry
  exact is_bool_none 9#1
 .cases rx;cases ry
  exact aj 9#1
 .cases rx;cases ry
  exact is_none_none 9#1
 .cases rx;cases ry
  exact aj 9#1
 .obtain⟨t,rfl⟩:=rx;cases ry
  exact aj 9#1
theorem GM:OpR X (compareOp .IsNot) (rIs c_):=by
 intro pins s σ H x y v u Q I rx ry h;rcases h with⟨i,j,rfl,rfl,q⟩|⟨i,rfl,rfl,q⟩|⟨j,rfl,rfl,q⟩|⟨rfl,rfl,q⟩|⟨p,rfl,rfl,q⟩|⟨i,rfl,rfl,q⟩
 .cases rx;cases ry
  exact isnot_bool 9#1
 .cases rx;cases ry
  exact isnot_bool_none 9#1
 .cases rx;cases ry
  exact aj 9#1
 .cases rx;cases ry
  exact isnot_none_none 9#1
 .cases rx;cases ry
  exact aj 9#1
 .obtain⟨t,rfl⟩:=rx;cases ry
  exact aj 9#1
theorem Ef(h:RU H μ .non v):v=.non:=by simpa only [RU]using h
theorem KH{neg:Bool}{x y:U}{vx vy:V}{b:Bool}(rx:RU H μ x vx)(ry:RU H μ y vy)(e:isU x y=a_ b)(a:Q (.bl (if neg then !b else b)) H):rIs neg vx vy H Q:=by
 have hf:(if neg then !d_ else d_)=neg:=by cases neg<;>rfl
 have ht:(if neg then !c_ else c_) = !neg:=by cases neg<;>rfl
 cases y with
 | non=>
   have hy:=Ef ry;subst hy;cases x with
   |non=>cases e;rw[ht]at a;exact .inr (.inr (.inr (.inl ⟨Ef rx,rfl,a⟩)))
   |bl i=>cases e;rw[hf]at a;exact .inr (.inl ⟨_,kC rx,rfl,a⟩)
   |tup us=>cases e;rw[hf]at a;obtain⟨p,_,rfl,_⟩:=gE rx;exact .inr (.inr (.inr (.inr (.inl ⟨_,rfl,rfl,a⟩))))
   |ref n=>cases e;rw[hf]at a;obtain⟨p,rfl,_⟩:=gQ rx;exact .inr (.inr (.inr (.inr (.inl ⟨_,rfl,rfl,a⟩))))
   |int i=>cases e;rw[hf]at a;exact .inr (.inr (.inr (.inr (.inr ⟨_,dN rx,rfl,a⟩))))
   |_=>cases e
 | bl j=>
   have hy:=kC ry;subst hy;cases x with
   |bl i=>cases e;exact .inl ⟨_,_,kC rx,rfl,a⟩
   |non=>cases e;rw[hf]at a;exact .inr (.inr (.inl ⟨_,Ef rx,rfl,a⟩))
   |_=>cases e
 |_=>cases e
theorem Uv:OpU K (rIs d_) oIs:=by
 intro μ S H x y vx vy u S' Q hr rx ry e a;unfold oIs at e;cases q:isU x y with
 |none=>rw[q]at e;cases e
 |some b=>rw[q]at e;cases e;exact KH rx ry q (a.now hr j5)
theorem Kl:OpU K (rIs c_) kA:=by
 intro μ S H x y vx vy u S' Q hr rx ry e a;unfold kA at e;cases q:isU x y with
 |none=>rw[q]at e;cases e
 |some b=>rw[q]at e;cases e;exact KH rx ry q (a.now hr j5)
def mCh(f g:F2)(a b c:ME):ME:=λG S=>bnd (a G S) λx S1=>bnd (b G S1) λy S2=>bnd (f x y S2) λz S3=>match z with
 |.bl c_=>bnd (c G S3) λw S4=>g y w S4
 |.bl d_=>a_ (.bl d_,S3)
 |_=>b_
theorem E1{r r':R2}{f g:F2}{a b c:ME}(o:OpU K r f)(o':OpU K r' g)(h:tM K (mCh f g a b c) σ H Q):DL r r' (tM K a) (tM K b) (tM K c) σ H Q:=by
 obtain⟨μ,S,G,u,S',hr,er,e,k⟩:=h;obtain⟨x,S1,e1,e⟩:=be e;obtain⟨y,S2,e2,e⟩:=be e;obtain⟨z,S3,e3,e⟩:=be e;refine 14#4;refine⟨_,S1,G,y,S2,ZZ,er.mono k1 p1,e2,λY7 vy H2 p2 k2 ZT ry=>?_⟩;refine o _ S2 H2 x y vx vy z S3 _ ZT (RU.mono k2 p2 x vx rx) ry e3 λX6 vz H3 p3 k3 YV rz=>?_
 split at e
 .refine⟨_,kC rz,?_⟩
  obtain⟨w,S4,e4,e⟩:=be e;exact⟨_,S3,G,w,S4,YV,er.mono ((k1.trans k2).trans k3) ((p1.trans p2).trans p3),e4,λZ4 vw H4 p4 k4 hr4 Zd=>(o' _ S4 H4 y w vy vw u S' Q hr4 (RU.mono (k3.trans k4) (p3.trans p4) y vy ry) Zd e (k.mono (((p1.trans p2).trans p3).trans p4) (((k1.trans k2).trans k3).trans k4)))⟩
 .cases e
  exact⟨_,kC rz,(k _ _ H3 ((p1.trans p2).trans p3) ((k1.trans k2).trans k3) YV j5)⟩
 .cases e
def jA:Nat->List U->Sto->Res U:=λn xs S=>match xs with
 | [.ref m]=>match S[n]?,S[m]? with
   |some (.lst us),a_ (.lst ws)=>if 1#3+ws.length<=big then a_ (.non,S.set n (.lst (us++ws))) else b_
   |_,_=>b_
 | [.tup ws]=>match S[n]? with
   |some (.lst us)=>if 1#3+ws.length<=big then a_ (.non,S.set n (.lst (us++ws))) else b_
   |_=>b_
 |_=>b_
theorem G7:MtU K (λx vs H Q=>Ap x vs H Q\/Os x vs H Q) jA:=by
 intro μ S H n p us vs u S' Q hr hp rs e a;unfold jA at e
 split at e
 .rename_i m
  split at e
  .rename_i xs ws q q2
   split at e
   .rename_i hc
    cases e;obtain⟨v,r,rfl,rx,rn⟩:=rs.inv;rw[rn.nil_inv];obtain⟨b,rfl,hb⟩:=gQ rx;obtain⟨ys,e0,r0⟩:=hr.cell n _ p q hp;obtain⟨zs,e1,r1⟩:=hr.cell m _ b q2 hb;refine .inl ⟨p,b,ys,zs,rfl,rfl,e0,e1,?_,wU a hr q hp (r0.append r1) ql⟩;have:=r0.len;have:=r1.len;unfold big at hc;rw[sizeLine_eq];lia
   .cases e
  .cases e
 .rename_i ws
  split at e
  .rename_i xs q
   split at e
   .rename_i hc
    cases e;obtain⟨v,r,rfl,rx,rn⟩:=rs.inv;rw[rn.nil_inv];obtain⟨b,zs,rfl,hb,r1⟩:=gE rx;obtain⟨ys,e0,r0⟩:=hr.cell n _ p q hp;refine .inr ⟨p,b,ys,zs,rfl,rfl,e0,hb,?_,wU a hr q hp (r0.append r1) ql⟩;have:=r0.len;have:=r1.len;unfold big at hc;rw[sizeLine_eq];lia
   .cases e
  .cases e
 .cases e
end
def nS(ns:List Int):List Int:=ns.mergeSort λi j=>decide (i<=j)
def yf:U->Option Int
 |.int i=>a_ i
 |_=>b_
def Dx(n:Nat):Prop:=n<64
instance(n:Nat):Decidable (Dx n):=cm _
def zX:_L.Key×U->Option Int
 |(.inl i,_)=>a_ i
 |_=>b_
def vm(S:Sto)(x:U):Option (List Int):=match gM S x with
 |some kvs=>dJ zX kvs
 |none=>(eB S x).bind λxs=>dJ yf xs
def fe:MF:=λus S=>match us with
 |[x]=>(vm S x).bind λns=>if Dx 6#9 then a_ (.ref 0#7,S++[.lst ((nS ns).map U.int)]) else b_
 |_=>b_
theorem jo(ns:List Int):(nS ns).Perm ns:=List.mergeSort_perm _ _
theorem wL(ns:List Int):(nS ns).Pairwise (· <= ·):=by
 have h:=HA (le:=λ(i j)=>decide (i<=j)) (λa b c h1 h2=>by grind) (λa b=>by grind) ns;exact h.imp λh=>by simpa using h
theorem tP:∀{as bs:List Int},as.Perm bs->as.Pairwise (· <= ·)->bs.Pairwise (· <= ·)->as=bs
 |[],bs,p,_,_=>by simp_all
 |a::as,[],p,_,_=>by simp_all
 | a::as,b::bs,p,h1,h2=>by
   rw[jk]at h1 h2;have e:a=b:=by
    have m1:a∈b::bs:=p.subset 0#3;have m2:b∈a::as:=p.symm.subset 0#3<;>grind
   subst e;rw[tP (CO _ |>.mp p) h1.2 h2.2]
variable{ns:List Int}
theorem nH{ms:List Int}(p:ms.Perm ns)(h:ms.Pairwise (· <= ·)):ms=nS ns:=tP (p.trans (jo ns).symm) h (wL ns)
theorem Ak{H:Hp}{μ:List e_}:∀{us:List U}{vs:List V}{ns:List Int},RUs H μ us vs->dJ yf us=a_ ns->vs=ns.map V.int
 |[],vs,ns,r,e=>by cases e;rw[r.nil_inv];rfl
 | u::us,vs,ns,r,e=>by
   obtain⟨v,r',rfl,a,b⟩:=r.inv;unfold dJ at e;cases u with
   | int x=>
     cases q:dJ _ us with
     |none=>rw[q]at e;cases e
     | some cs=>
       rw[q]at e;cases e;rw[dN a,Ak b q];rfl
   |_=>cases e
theorem intsAre_of:∀{ns:List Int}{us:List f_},cX 11#1 us->IntsAre us ns
 |[],us,r=>by cases r;exact .nil
 | n::ns,us,r=>by
   cases r with
   | cons a b=>
     obtain⟨t,rfl⟩:=a;exact .cons n t (intsAre_of b)
theorem oM:∀{ns:List Int}{us:List f_},IntsAre us ns->cX 11#1 us
 |_,_,.nil=>.nil
 |_,_,.cons n t r=>.cons ⟨t,rfl⟩ (oM r)
theorem jL:∀{ns:List Int}{us:List f_},IntsAre us ns->1#3=6#9
 |_,_,.nil=>rfl
 |_,_,.cons n t r=>by simp[jL r]
variable{Q:List f_->g_->Prop}{E:f_->g_->Prop}{w:World}{prog:Program}
theorem wb (it:e_){items:Array f_}(hT:T="list"\/T="tuple")
  (ho:s.heap.get? it=a_ o) (hc:o.cls=.type T) (hd:o.data=.seq items n) (ZF:3#5<=sizeLine)
  (hQ:∀h',17#3->1#0<=14#3->Q items.toList { s with heap:=h' }):
  aD 1#7 A (collect (.ref it)) Q E s:=by
 refine ab (kL (dE kN ?_));refine ab 21#6;have hS:(s.heap.push _).get? _=a_ { cls := .type "list",data := .seq #[] 0 }:=av _ rfl
 refine dv (wpAny_extend_seq (R:=λr s'=>r = .ok _/\s'={ s with heap:=(s.heap.push _).update _ _ })
  _ it _ 0 hT hS (af _ ho) hc hd ⟨rfl,rfl⟩) (λfin s' h =>?_) (λe s' h=>absurd h.1 (by simp))
 have WO:aD 1#7 A (match bZ 1#0 with
   | bZ a=>do
     match (<- load a).data with
      |xq xs _=>pure xs.toList
      |_=>unsupported "internal:collect"
   | _=>unsupported "internal:collect") Q E { s with heap:=(s.heap.push { cls := .type "list",data := .seq [].toArray }).update s.heap.objs.size (cN (· ++ items)) }:=by
  refine ab (Au (cY (cN (· ++ items)) hS rfl) (aj ?_));rw[show((#[]:Array f_)++items).toList=items.toList by simp];exact hQ _ (λb o' hb=>(cQ _ _ (dW (az hb))).trans (af _ hb)) 5#6
 cases fin with
 | done f=>
   obtain⟨e,rfl⟩:=h;cases e;omega
 |again c'=>exact⟨h.1,je h.2 λr s'' hr=>by obtain⟨rfl,rfl⟩:=hr;omega⟩
theorem vG{l:e_}{vs:List f_}{Q:f_->g_->Prop}(hT:T="list"\/T="tuple")
  (ho:s.heap.get? l=a_ o) (hc:o.cls=.type T) (hd:o.data=.seq vs.toArray n) (hI:IntsAre vs ns) (Xz:2#4<64)
  (h: ∀(out:Array f_) (Zp:List Int) (a:e_) (e:Nat) (h':Heap),IntsAre out.toList Zp->Zp.Perm ns->Zp.Pairwise (· <= ·)->1#0<=a->17#3 ->
   h'.get? a=a_ (seqObj "list" out e)->Q (.ref a) { s with heap:=h' }) :
  aD 1#7 A (call 16#5 [.ref l]) Q E s:=by
 refine iQ kind_sorted plain_sorted entry_sorted (args_sorted1 _) ?_;refine ab (aj ?_);refine ab (wb l hT ho hc hd (by rw[bP,sizeLine_eq];lia) λh1 hk hle=>?_);refine ab (qr ?_);have YS:(h1.push _).get? _=a_ (seqObj "list" vs.toArray 0):=av _ rfl;refine ab (dF (bG slot_list_sort ⟨_,YS,rfl⟩ entry_list_sort (list_sort_tree YS hI Xz λout Zp a1 a2 a3=>⟨_,rfl,?_⟩) (args_list_sort _)));obtain⟨e,he⟩:=sortedHeap_at YS
 exact aj ⟨_,rfl,h _ _ _ e _ a1 a2 a3 hle (λb o' hb=>by
  have Yx:=hk b o' hb;have ZQ:=az Yx;rw[sortedHeap_old (aJ ZQ) 22#4,m9 _ _ _ (aJ ZQ)]
  lia) he⟩
variable{vs:List (Key×f_)}{d:e_}
theorem Aq{ep:Nat}(hh:A.handled=b_)(hS:(d==sysModules)=d_)(hm:s.heap.DictAt (fb prog w) d vs ep)(hn:2#4<=sizeLine)
  (hQ:∀s' acc,(∀b o,s.heap.get? b=a_ o->s'.heap.get? b=a_ o)->s'.gens=s.gens->s'.drawn=s.drawn->s'.os=s.os->ItemsOf (λi v=>∃k x,vs[i]?=a_ (k,x)/\(fb prog w).is k v=c_) acc 2#4->1#0<=s'.heap.objs.size->Q acc.toList s'):aD 1#7 A (collect (.ref d)) Q E s:=by
 have Yq:d<1#0:=hm.lt_size
 let lo:Obj:={ cls := .type "list",data := .seq ([]:List f_).toArray }
 let io:Obj:={ cls := .type "dict_keyiterator",data := .fields #[.ref d,.int 0 0,.int vs.length 0,.int ep 0] }
 have XG:=hm.push lo;unfold collect;refine ab (kL (dE kN ?_));refine ab 21#6;show aD _ A.in1 (j7 6#1 (.ref d) 6#1) _ _ _;refine ab (jf XG.dictOf.typeIs ?_);have ZN:ir 6#1 (.ref d)=d_:=by simp[ir];exact dW Yq
 rw[if_neg (by rw[ZN];decide)];refine ab (wpAny_pyIter_dict hS XG ?_);refine ab (dF ?_);have XQ:tE { s with heap:=(s.heap.push lo).push io } (.ref d) "dict":=(XG.push io).dictOf.typeIs;refine ab (mP XQ PySem.F.slot_dict_len.lookup ?_);generalize hid:("dict.__len__":String)=id0
 wp_delta
 subst hid;refine ab (gW (b:=c_) XQ (by rw[isSubtype_type];kernel_rfl) ?_);simp only[FM,eQ,if_false];refine ab (jf XQ (aj ?_));refine ab (fg (ab ?_));have XJ:((s.heap.push lo).push io).get? 1#0=a_ lo:=af _ (av _ rfl);refine ab (mO XJ rfl ?_);have Yp:=cY (cN (·.push cJ)) XJ rfl;refine mO Yp rfl ?_;have hL3:=cY (cN (·.pop)) Yp rfl;have oth:∀b o,b≠1#0->((s.heap.push lo).push io).get? b=a_ o->((((s.heap.push lo).push io).update s.heap.objs.size (cN (·.push cJ))).update s.heap.objs.size (cN (·.pop))).get? b=a_ o:=
  λb o hb e=>(cQ _ _ (eI hb)).trans ((cQ _ _ (eI hb)).trans e)
 have hI:(s.heap.push lo).objs.size=1#0+1:=bE ..;have hSf:1#0 ∉ [(s.heap.push lo).objs.size,d]:=by
  rw[hI];intro z;rcases aH.mp z with z|z
  .lia
  .rw[bx]at z;exact absurd z (dW Yq)
 have it0:((s.heap.push lo).push io).IsKeyIter (s.heap.push lo).objs.size d 0 vs.length ep:=⟨io,av _ rfl,rfl,rfl⟩;refine aj ⟨plainId_quiet F.plain_extend_loop _,codeAny_extend_loopS ((Walks.dictKeys (prog:=prog) (w:=w) (A:=A.in1) (knd:=fb prog w) hh (s.heap.push lo).objs.size d (by rw[hI];exact aJ (cU Yq)) vs ep).toS) hn s.heap.objs.size hSf _ vs.length 0 _ _ _ rfl (bS _) ?_ hL3 (ItemsOf.nil _) λs' Zo c' Xu YZ ZK=>?_⟩
 .exact⟨it0.at λo e=>oth _ o (eI (by rw[bE];exact aJ (bV _))) e,(XG.push io).at' λo e=>oth _ o (aJ Yq) e⟩
 .refine ab (Au YZ (aj (hQ s' Zo (λb o e=>?_) Xu.gens Xu.drawn Xu.os ZK (aI (az YZ)))))
  have hb:b<1#0:=az e;refine Xu.heap b o ?_ (oth b o (aJ hb) (af _ (af _ e)));rw[hI];intro z;rcases aH.mp z with z|z
  .exact absurd z (aJ hb)
  .rw[bx]at z;exact absurd z (aJ (cU hb))
theorem yD:∀{l:List f_}{ns:List Int},2#8=6#9->(∀(j:Nat) (v:f_),l[j]?=a_ v->∃i t,ns[j]?=a_ i/\v=.int i t)->IntsAre l ns
 |[],[],_,_=>.nil
 |[],_::_,h,_=>by simp at h
 |_::_,[],h,_=>by simp at h
 | v::l,n::ns,h,k=>by
   obtain⟨i,t,e,rfl⟩:=k 0 v rfl;simp at e;subst e;exact .cons n t (yD 14#6 λj w hj=>by simpa using k (j+1) w 16#3)
theorem Bm{Q:f_->g_->Prop}(hh:A.handled=b_)(hS:(d==sysModules)=d_)(hm:s.heap.DictOf (fb prog w) d vs)(hk:vs.map (·.1)=ns.map jW)(Xz:6#9<64)
  (h: ∀(out:Array f_) (Zp:List Int) (a:e_) (e:Nat) (h':Heap) (tk:Nat),IntsAre out.toList Zp->Zp.Perm ns->Zp.Pairwise (· <= ·)->1#0<=a->17#3 ->
   h'.get? a=a_ (seqObj "list" out e)->Q (.ref a) { s with heap:=h',toks:=tk }) :
  aD 1#7 A (call 16#5 [.ref d]) Q E s:=by
 obtain⟨ep,hm⟩:=hm.dictAt;have hlen:=by simpa using (congrArg eV hk)
 refine iQ kind_sorted plain_sorted entry_sorted (args_sorted1 _) ?_;refine ab (aj (ab (Aq hh hS hm (by rw[sizeLine_eq];lia) λs1 acc W2 hg hdr Yw ZK hle=>?_)));have hI:IntsAre acc.toList ns:=yD (by rw[<-hlen,<-ZK.1];simp) λj v hj=>by
  obtain⟨k,x,e,ik⟩:=ZK.2 j v 16#3;have e2:(vs.map (·.1))[j]?=a_ k:=by rw[a9,e];rfl
  rw[hk,a9]at e2;cases q:ns[j]? with
  |none=>simp_all
  | some i=>
    rw[q]at e2;have e3:=eR e2;subst e3;rcases fh (show u0 (jW i) v=c_ from ik) with⟨i',t,e4,e5⟩|⟨y,t,e4,_⟩<;>simp_all
 refine ab (qr ?_);have YS:(s1.heap.push (seqObj "list" acc 0)).get? _=a_ _:=av _ rfl;refine ab (dF (bG slot_list_sort ⟨_,YS,rfl⟩ entry_list_sort (list_sort_tree YS hI (by rw[jL hI];omega) λout Zp a1 a2 a3=>⟨_,rfl,?_⟩) (args_list_sort _)));obtain⟨e,he⟩:=sortedHeap_at YS
 have hq:=h _ _ _ e _ s1.toks a1 a2 a3 hle (λb o' hb=>by
  have Yx:=W2 b o' hb;have ZQ:=az Yx;rw[sortedHeap_old (aJ ZQ) 22#4,m9 _ _ _ (aJ ZQ)]
  omega) he
 rw[<-hg,<-hdr,<-Yw]at hq;exact aj ⟨_,rfl,hq⟩
section
variable {X:Cx}
def Ao(K:ao):List V->Hp->VK->Prop:=λxs H Q=>∃(p:e_) (ns:List Int),xs=[.ref p]/\((SqL K H p 11#1\/SqT K H p 11#1) \/ ∃kvs,H p=a_ (.dK kvs)/\kvs.map (·.1)=ns.map jW)/\6#9<64 /\ ∀l,H l=b_->Q (.ref l) (upd H l (.lst ((nS ns).map V.int)))
theorem LC{kvs:List (Key×V)}(h:KV kvs vs):vs.map (·.1)=kvs.map (·.1):=by
 induction h<;>simp_all
theorem tI(hc:X.calm=c_):iM X 16#5 (Ao X.K):=by
 intro pins s σ H xs us Q I rs h;obtain⟨p,ns,rfl,hS,Xz,q⟩:=h;cases rs with
 | cons r1 rr=>
   cases rr;cases (r1);have fin:∀(out:Array _) (Zp:List _) (a:e_) (e:Nat) (h':Heap) (tk:Nat),IntsAre out.toList Zp->Zp.Perm ns->Zp.Pairwise (· <= ·)->1#0<=a->17#3 ->
    h'.get? a=a_ (seqObj "list" out e)->EP X pins σ Q (.ref a) { s with heap:=h',toks:=tk }:=by
    intro out Zp a e h' tk a1 a2 a3 hle hk he;have e':=nH a2 a3;subst e';refine⟨.ref a,_,I.laid hk hle ?_,rfl,q _ (I.hok.fresh hle)⟩;refine⟨by rw[ar,(jo ns).length_eq,sizeLine_eq];lia,_,e,oM a1,?_⟩;omega
   rcases hS with (hS|hS)|⟨kvs,hp,hks⟩
   .obtain⟨ZY,rv,pl,_⟩:=I.list hS
    obtain⟨o,ho,hc,n,hd⟩:=pl.isList;have hI:=intsAre_of rv;exact vG 5#1 ho hc hd hI (by rw[jL hI];omega) λout Zp a e h'=>fin _ _ a e h' _
   .obtain⟨ZY,rv,pl,_⟩:=I.tuple hS
    obtain⟨o,ho,hc,n,hd⟩:=pl;have hI:=intsAre_of rv;exact vG (.inr rfl) ho hc hd hI (by rw[jL hI];omega) λout Zp a e h'=>fin _ _ a e h' _
   .obtain⟨_,YE,vs,rel,dd⟩:=(I.hok p _ hp)
    exact Bm 11#3 YE dd (by rw[LC rel];omega) Xz fin
end
section
variable {K:KX}
theorem nF{H:Hp}{μ:List e_}:∀ns:List Int,RUs H μ (ns.map U.int) 11#1
 |[]=>.nil
 |n::ns=>.cons gm (nF ns)
theorem EY:∀{kvs:List (Key×U)}{vs:List V},4#1=2#4->(dV kvs vs).map (·.1)=kvs.map (·.1)
 |[],_,_=>rfl
 |_::_,[],h=>by simp at h
 | kv::kvs,v::vs,h=>by
   show kv.1::(dV _ vs).map _=kv.1::kvs.map _;rw[EY 14#6]
theorem yx:∀{kvs:List (Key×U)}{ns:List Int},dJ zX kvs=a_ ns->kvs.map (·.1)=ns.map jW
 |[],ns,h=>by cases h;rfl
 | (k,u)::kvs,ns,h=>by
   unfold dJ at h;cases k with
   |inr x=>cases h
   | inl i=>
     cases q:dJ _ _ with
     |none=>rw[q]at h;cases h
     | some ms=>
       rw[q]at h;cases h;rw[dy,yx q];rfl
theorem yQ:oh K (Ao K) fe:=by
 intro μ S H us vs u S' Q hr rs e a;unfold fe at e
 split at e
 .rename_i x
  obtain⟨v,r,rfl,rx,rn⟩:=rs.inv;rw[rn.nil_inv];cases q:vm S x with
  |none=>rw[q]at e;cases e
  | some ns=>
    rw[q]at e;simp only[aO]at e
    split at e
    rotate_left
    .cases e
    rename_i hc
    cases e;unfold vm at q
    split at q
    .rename_i kvs qd
     obtain⟨p,ws,rfl,hp,r'⟩:=hr.dic rx qd;have hl:=by have:=r'.len;rwa[ar]at this
     exact⟨p,ns,rfl,.inr ⟨_,hp,by rw[EY hl];exact yx q⟩,hc,λl hl=>jG a hr (nF _) hl⟩
    .cases q1:eB S x with
     |none=>simp_all
     | some ws=>
       rw[q1]at q;obtain⟨p,ys,rfl,hs,r'⟩:=hr.seq rx q1;rw[Ak r' q]at hs;exact⟨p,ns,rfl,.inl hs,hc,λl hl=>jG a hr (nF _) hl⟩
 .cases e
end
section
variable {X:Cx}
end
section
variable {K:KX}
end
end _G
namespace _G
open PySem PySem.Spec _L GQ
open PyProof.Rows hiding St
def okT(L:List (List Int)):Prop:=3#0<100000/\L.Nodup /\ ∀l∈L,l≠[]
instance(L:List (List Int)):Decidable (okT L):=cm _
def qE(L:List (List Int)):List (List Int):=L.mergeSort λa b=>!HT.lexLt b a
def tupI(l:List Int):U:= .tup (l.map U.int)
def F9:MF:=λus S=>match us with
 |[.ref n]=>(getL S n).bind λxs=>(dJ pN xs).bind λL=>if okT L then a_ (.ref 0#7,S++[.lst ((qE L).map tupI)]) else b_
 |_=>b_
def iG:MF:=λus S=>(F9 us S).or (fe us S)
theorem mJ:∀(a:List Int),HT.lexLt a a=d_
 |[]=>rfl
 |x::a=>by rw[HT.lexLt_cons,if_pos rfl];exact mJ a
theorem CS{a b:List Int}(ZN:a≠b)(h:(!HT.lexLt b a)=c_):HT.lexLt a b=c_:=by
 rw[Bool.not_eq_true']at h;exact zw (eI ZN) h
theorem pV(L:List (List Int)):(qE L).Perm L:=List.mergeSort_perm _ _
theorem IH(L:List (List Int)):(qE L).Pairwise λa b=>(!HT.lexLt b a)=c_:=by
 refine HA (le:=λa b=>!HT.lexLt b a) (λa b c h1 h2=>?_) (λa b=>?_) L
 .by_cases e1:a=b
  .subst e1;exact h2
  .by_cases e2:b=c
   .subst e2;exact h1
   .have h3:=p6 (CS e1 h1) (CS e2 h2)
    cases q:HT.lexLt c a with
    |false=>rfl
    |true=>have:=p6 h3 q;rw[mJ]at this;cases this
 .cases q:HT.lexLt b a with
  |false=>rfl
  | true=>
    cases q2:HT.lexLt a b with
    |false=>rfl
    |true=>have:=p6 q q2;rw[mJ]at this;cases this
variable{L:List (List Int)}
theorem Ia(nd:L.Nodup):(qE L).Pairwise λa b=>HT.lexLt a b=c_:=by
 have h2:(qE L).Nodup:=(pV L).nodup_iff.mpr nd;exact((IH L).and h2).imp λh=>CS h.2 h.1
theorem Be:∀{as bs:List (List Int)},as.Perm bs->(as.Pairwise λa b=>HT.lexLt a b=c_)->(bs.Pairwise λa b=>HT.lexLt a b=c_)->as=bs
 |[],bs,p,_,_=>by rw[List.nil_perm.mp p]
 |a::as,[],p,_,_=>by cases List.perm_nil.mp p
 | a::as,b::bs,p,h1,h2=>by
   rw[jk]at h1 h2;have e:a=b:=by
    rcases aH.mp (p.subset (bY ..)) with e|m1
    .exact e
    .rcases aH.mp (p.symm.subset (bY ..)) with e|m2
     .exact e.symm
     .have:=p6 (h1.1 b m2) (h2.1 a m1)
      rw[mJ]at this;cases this
   subst e;rw[Be (CO _ |>.mp p) h1.2 h2.2]
theorem wI{M:List (List Int)}(nd:L.Nodup)(p:M.Perm L)(h:M.Pairwise λa b=>HT.lexLt a b=c_):M=qE L:=Be (p.trans (pV L).symm) h (Ia nd)
theorem El{prog:Program}{w:World}{A:Around}{E:f_->g_->Prop}{s:g_}{l:e_}{T:String}{o:Obj}{n:Nat}{vs:List f_}{L:List (List Int)}{Q:f_->g_->Prop}(hT:T="list"\/T="tuple")
  (ho:s.heap.get? l=a_ o) (hc:o.cls=.type T) (hd:o.data=.seq vs.toArray n) (t:Tps s.heap vs L) (hn:∀l∈L,l≠[]) (nd:L.Nodup) (hbg:2#4<100000)
  (h: ∀(p:Array Nat) (a:e_) (e:Nat) (h':Heap),p.Perm (aq 3#0).toArray->(∀i j,i<j->j<3#0->ltL L (at_ p i) (at_ p j)=c_)->1#0<=a->17#3 ->
   h'.get? a=a_ (seqObj "list" (xo (p.toList.map fun i=>vs.getD i cJ)) e)->Q (.ref a) { s with heap:=h' }) :
  aD 1#7 A (call 16#5 [.ref l]) Q E s:=by
 refine iQ kind_sorted plain_sorted entry_sorted (args_sorted1 _) ?_;unfold Builtin.«sorted»;refine ab (m:=checkCount "sorted" 1 1 _) (aj ?_);refine ab (wb l hT ho hc hd (by rw[bP,sizeLine_eq];lia) λh1 hk hle=>?_);refine ab (qr ?_);have YS:(h1.push (seqObj "list" vs.toArray 0)).get? h1.objs.size=a_ (seqObj "list" vs.toArray 0):=av _ rfl;show aD _ _ _ _ _ { s with heap:=h1.push (seqObj "list" vs.toArray 0) };have t1:Tps (h1.push (seqObj "list" vs.toArray 0)) vs L:=t.keep fun b o' _ e=>af _ (hk b o' e);refine ab (dF (bG slot_list_sort ⟨_,YS,rfl⟩ entry_list_sort (UY (s:={ s with heap:=h1.push (seqObj "list" vs.toArray 0) }) YS t1 hn nd hbg fun p a1 a2=>⟨_,rfl,?_⟩) (args_list_sort _)));obtain⟨e,he⟩:=sortedHeap_at (out:=xo (p.toList.map λi=>vs.getD i cJ)) YS
 exact aj ⟨_,rfl,h p _ e _ a1 a2 hle (λb o' hb=>by
  have Yx:=hk b o' hb;have ZQ:=az Yx;rw[sortedHeap_old (aJ ZQ) 22#4,m9 _ _ _ (aJ ZQ)]
  exact Yx) he⟩
inductive TV(H:Hp):List V->List (List Int)->Prop where
 |nil:TV H [] []
 |cons {a:e_}{ns:List Int}{vs:List V}{L:List (List Int)} (h:H a=a_ (.tup (ns.map V.int))) (r:TV H vs L):TV H (.ref a::vs) (ns::L)
variable{vs:List V}{H:Hp}
theorem TV.len(t:TV H vs L):2#4=3#0:=by
 induction t with
 |nil=>rfl
 |cons h r ih=>rw[bU,bU,ih]
theorem TV.get(t:TV H vs L):∀i,i<3#0->∃a,vs.getD i .non=.ref a/\H a=a_ (.tup ((L.getD i []).map V.int)):=by
 induction t with
 |nil=>intro i hi;cases hi
 | @cons a ns vs L h r ih=>
   intro i hi;cases i with
   |zero=>exact⟨a,rfl,h⟩
   |succ i=>exact ih i (jY hi)
theorem TV.perm{H:Hp}{vs:List V}{L:List (List Int)}(t:TV H vs L):∀(is:List Nat),(∀i∈is,i<3#0)->TV H (is.map λi=>vs.getD i .non) (is.map λi=>L.getD i [])
 |[],_=>.nil
 | i::is,h=>by
   obtain⟨a,e,ha⟩:=t.get i (h i (bY ..));show TV H (vs.getD i .non::_) (L.getD i []::_);rw[e];exact .cons ha (t.perm is λj hj=>h j (aB _ hj))
theorem yW{vs:List V}{us:List f_}(r:cX vs us):∀(is:List Nat),(∀i∈is,i<2#4)->cX (is.map λi=>vs.getD i .non) (is.map λi=>us.getD i cJ)
 |[],_=>.nil
 | i::is,h=>by
   have hi:=h i (bY ..);obtain⟨u,hu,ru⟩:=r.get (aC hi);have e1:vs.getD i .non=vs[i]:=by simp[hi]
   have e2:us.getD i cJ=u:=by simp[hu]
   refine .cons ?_ (yW r is λj hj=>h j (aB _ hj));show RelV (vs.getD i .non) (us.getD i cJ);rw[e1,e2];exact ru
section
variable {X:Cx}{pins:List (e_×Obj)}{σ:St}{H:Hp}{s:g_}
theorem Qy(I:Inv X pins σ H s)(t:TV H vs L):∀{us:List f_},cX vs us->Tps s.heap us L:=by
 induction t with
 |nil=>intro us r;cases r;exact .nil
 | @cons a ns vs L h r ih=>
   intro us rv;cases rv with
   | cons r1 r2=>
     cases (show _=bZ a from r1);obtain⟨ZY,rt,pl,_⟩:=I.tuple (SqT.of (K:=X.K) h);obtain⟨o,ho,hc,n,hd⟩:=pl;exact .cons ⟨a,o,ZY.toArray,n,rfl,ho,hc,hd,intsAre_of rt⟩ (ih r2)
def Dg(K:ao):List V->Hp->VK->Prop:=λxs H Q=>∃(p:e_) (vs:List V) (L:List (List Int)),xs=[.ref p]/\SqL K H p vs/\TV H vs L/\okT L /\ ∀D ws,H D=b_->TV H ws (qE L)->Q (.ref D) (upd H D (.lst ws))
theorem Eo:iM X 16#5 (Dg X.K):=by
 intro pins s σ H xs us Q I rs h;obtain⟨p,vs,L,rfl,hS,tv,⟨Xz,nd,ZN⟩,q⟩:=h;cases rs with
 | cons r1 rr=>
   cases rr;cases (show _=bZ p from r1);obtain⟨ZY,rv,pl,hz⟩:=I.list hS;obtain⟨o,ho,hc,n,hd⟩:=pl.isList;have tp:=Qy I tv rv;refine El 5#1 ho hc hd tp ZN nd (by rw[tp.len];exact Xz) λp a e h' hp so hle hk he=>?_;have hbg:3#0<100000:=Xz;have ZL:p.toList.Perm (aq 3#0):=hp.toList;have ZQ:∀i∈p.toList,i<3#0:=λi hi=>aA.mp (ZL.mem_iff.mp hi);have el:p.toList.map (λi=>L.getD i [])=qE L:=by
    refine wI nd ((ZL.map _).trans ?_) ?_
    .rw[show(aq 3#0).map (λi=>L.getD i [])=L from oZ 0#3 λi h1 h2=>by simp[h2]]
    .rw[aW,dj]
     intro i j hi hj YH;have hs:p.toList.length=3#0:=by rw[ZL.length_eq,aZ]
     have:=so i j YH 0#0;have ZP:i<p.size:=by simpa using hi
     have Zz:j<p.size:=by simpa using hj
     have e1:at_ p i=p.toList[i]:=by simp[at_,ZP]
     have e2:at_ p j=p.toList[j]:=by simp[at_,Zz]
     rw[e1,e2]at this;exact this
   have tw:=tv.perm p.toList ZQ;rw[el]at tw;refine⟨.ref a,_,I.laid (t':=s.toks) (o:= .lst (p.toList.map λi=>vs.getD i .non)) hk hle ?_,rfl,q _ _ (I.hok.fresh hle) tw⟩;refine⟨?_,p.toList.map λi=>ZY.getD i cJ,e,yW rv p.toList (λi hi=>by rw[tv.len];exact ZQ i hi),?_⟩
   .rw[ar,ZL.length_eq,aZ,sizeLine_eq];lia
   .rw[he]
end
section
variable {K:KX}
theorem FU{x:U}{ns:List Int}(h:pN x=a_ ns):∃us,x=.tup us/\dJ Bt us=a_ ns:=by
 cases x with
 |tup us=>exact⟨us,rfl,h⟩
 |_=>cases h
theorem ye{H:Hp}{μ:List e_}:∀{us:List U}{vs:List V}{ns:List Int},RUs H μ us vs->dJ Bt us=a_ ns->vs=ns.map V.int
 |[],vs,ns,r,e=>by cases e;rw[r.nil_inv];rfl
 | u::us,vs,ns,r,e=>by
   obtain⟨v,r',rfl,a,b⟩:=r.inv;unfold dJ at e;cases u with
   | int x=>
     simp only[Bt,aO]at e;cases q:dJ Bt us with
     |none=>rw[q]at e;cases e
     | some cs=>
       rw[q]at e;cases e;rw[dN a,ye b q];rfl
   |_=>cases e
theorem OK{H:Hp}{μ:List e_}:∀{us:List U}{vs:List V}{L:List (List Int)},RUs H μ us vs->dJ pN us=a_ L->TV H vs L
 |[],vs,L,r,e=>by cases e;rw[r.nil_inv];exact .nil
 | u::us,vs,L,r,e=>by
   obtain⟨v,r',rfl,a,b⟩:=r.inv;unfold dJ at e;cases q1:pN u with
   |none=>rw[q1]at e;cases e
   | some ns=>
     rw[q1]at e;simp only[aO]at e;cases q:dJ pN us with
     |none=>rw[q]at e;cases e
     | some cs=>
       rw[q]at e;cases e;obtain⟨ws,rfl,q2⟩:=FU q1;obtain⟨p,ys,rfl,hp,r2⟩:=gE a;rw[ye r2 q2]at hp;exact .cons hp (OK b q)
theorem Rl{μ:List e_}{ws:List V}(t:TV H ws L):RUs H μ (L.map tupI) ws:=by
 induction t with
 |nil=>exact .nil
 |cons h r ih=>exact .cons (jP h (nF _)) ih
theorem QB:oh K (Dg K) F9:=by
 intro μ S H us vs u S' Q hr rs e a;unfold F9 at e
 split at e
 .rename_i n
  obtain⟨v,r,rfl,rx,rn⟩:=rs.inv;rw[rn.nil_inv];cases q:getL S n with
  |none=>rw[q]at e;cases e
  | some xs=>
    rw[q]at e;simp only[aO]at e;cases q2:dJ pN xs with
    |none=>rw[q2]at e;cases e
    | some L=>
      rw[q2]at e;simp only[aO]at e
      split at e
      .rename_i hok
       cases e;obtain⟨p,rfl,hp⟩:=gQ rx;obtain⟨p',ys,Zk,hs,r'⟩:=hr.sq q;rw[hp]at Zk;cases Zk;exact⟨p,ys,L,rfl,hs,OK r' q2,hok,λD ws hD tw=>jG a hr (Rl tw) hD⟩
      .cases e
 .cases e
theorem JX:oh K (λxs H Q=>Dg K xs H Q\/Ao K xs H Q) iG:=λμ S H us vs u S' Q hr rs e a=>by
 rcases Option.or_eq_some_iff.mp e with e|⟨_,e⟩
 .exact .inl (QB μ S H us vs u S' Q hr rs e a)
 .exact .inr (yQ μ S H us vs u S' Q hr rs e a)
end
end _G
namespace _G
open PySem PySem.Spec _L
open PyProof.Rows hiding St
variable{prog:Program}{w:World}{A:Around}{E:f_->g_->Prop}{s:g_}{ns:List Int}{Q:List f_->g_->Prop}
theorem BV{a:e_}(hh:A.handled=b_)(hS:vp prog w s.heap a 19#3 ns)
  (hQ:∀s' acc,(∀b o,s.heap.get? b=a_ o->b≠a->s'.heap.get? b=a_ o)->s'.gens=s.gens->s'.os=s.os->(∃ms,IntsAre acc ms/\ms.Perm ns)->1#0<=s'.heap.objs.size->Q acc s'):aD 1#7 A (collect (.ref a)) Q E s:=by
 obtain⟨es,ep,t,ho,he⟩:=hS;have la: @Lg Nat _ a 1#0:=az ho
 let lo:Obj:={ cls := .type "list",data := .seq ([]:List f_).toArray }
 have hle:4#4<=sizeLine:=fits_of_scanBound he.sm;have Xj:(s.heap.push lo).get? a=a_ 12#2:=af _ ho;have hT1:tE { s with heap:=s.heap.push lo } (.ref a) "set":=⟨_,Xj,rfl⟩;unfold collect;refine ab (kL (dE kN ?_));rw [fQ F.plain_proto_collect _];show aD _ A.in1 (newList [] >>= fun l=>again (.builtin "list.__iadd__" ⟨[l,.ref a],[]⟩)) _ _ s;refine ab 21#6;rw[fQ kf _];show aD _ A.in1 (j7 6#1 (.ref a) 6#1) _ _ _;unfold j7;refine ab (jf hT1 ?_);have ZN:ir 6#1 (.ref a)=d_:=by simp[ir];exact dW la
 rw[if_neg (by rw[ZN];decide)];have sz:(s.heap.push lo).objs.size=1#0+1:=bE ..;refine ab (KU (s:={ s with heap:=s.heap.push lo }) Xj he hle λI fp St L h' d W st XR hL hk hI hfa=>?_);have hI: @LE.le Nat _ (s.heap.push lo).objs.size I:=hI;refine ab (dF ?_);unfold Builtin.List.listLengthHint;have XQ:tE { s with heap:=h',drawn:=d } (.ref a) "set":=⟨_,hk _ _ Xj,rfl⟩;refine ab (mP XQ PySem.F.slot_set_len.lookup ?_);generalize hid:("set.__len__":String)=id0
 wp_delta
 rw [show splitId id0=a_ ("set","__len__") from by subst hid;decide +kernel];subst hid;refine ab (gW (b:=c_) XQ (by rw[isSubtype_type];kernel_rfl) ?_);simp only[FM,eQ,if_false];rw[if_pos 1#1];refine ab (jf XQ (aj ?_));rw[if_pos 1#1];refine ab (fg (ab ?_));have XJ:h'.get? 1#0=a_ lo:=hk _ _ (av _ rfl);show aD _ A.in1 (updateSeq s.heap.objs.size (·.push .none) >>= λ_=>updateSeq s.heap.objs.size (·.pop)) _ _ _;refine ab (mO XJ rfl ?_);have Yp:=cY (cN (·.push cJ)) XJ rfl;refine mO Yp rfl ?_;have hL3:=cY (cN (·.pop)) Yp rfl;have oth:∀b o,b≠1#0->h'.get? b=a_ o->((h'.update s.heap.objs.size (cN (·.push cJ))).update s.heap.objs.size (cN (·.pop))).get? b=a_ o:=λb o hb e=>(cQ _ _ (eI hb)).trans ((cQ _ _ (eI hb)).trans e);have hSf:1#0∉fp:=λz=>by
  rcases hfa _ z with q|q
  .have q': @Eq Nat s.heap.objs.size a:=q;lia
  .have q': @LE.le Nat _ (s.heap.push lo).objs.size 1#0:=q;lia
 have hlen:L.length=es.size:=by have:=hL.length_eq;simpa using this
 refine aj ⟨plainId_quiet F.plain_extend_loop _,codeAny_extend_loopS (W A.in1 hh).toS hle s.heap.objs.size hSf _ es.size 0 _ _ _ rfl (bS _) ?_ hL3 (ItemsOf.nil _) λs' Zo c' Xu YZ ZK=>?_⟩
 .exact(W A.in1 hh).frame _ _ _ st λb hb o e=>oth b o (λq=>hSf (q▸hb)) e
 .show aD _ A (load 1#0 >>= _) _ _ s'
  refine ab (Au YZ (aj (hQ s' Zo.toList (λb o e hba=>?_) Xu.gens Xu.os ?_ (aI (az YZ)))))
  .have hb: @Lg Nat _ b 1#0:=az e
   refine Xu.heap b o (λz=>?_) (oth b o (aJ hb) (hk b o (af _ e)));rcases aH.mp z with q |q
   .have q': @Eq Nat b 1#0:=q;lia
   .have q': @Eq Nat b I:=bx.mp q;lia
  .have eL:Zo.toList=L:=by
    apply jO;intro j;by_cases hj:j<4#4
    .have h1:j<Zo.size:=by rw[ZK.1];exact hj
     have:=ZK.2 j Zo[j] (by simp[h1]);rw[this];simp[h1]
    .rw[fJ (by rw[bR,ZK.1];exact d5 0#4),fJ 0#0]
   rw[eL];refine⟨L.map OZ,Bg λv hv=>?_,(hL.map _).trans (by rw[bq];exact he.pm)⟩;obtain⟨e,hm,rfl⟩:=aw.mp (hL.mem_iff.mp hv);exact he.int hm
theorem Ep{d:e_}{Q:f_->g_->Prop}(hh:A.handled=b_)(hS:vp prog w s.heap d 19#3 ns)(Xz:6#9<64)
  (h: ∀(out:Array f_) (Zp:List Int) (a:e_) (e:Nat) (s':g_),IntsAre out.toList Zp->Zp.Perm ns->Zp.Pairwise (· <= ·)->1#0<=a->(∀b o',s.heap.get? b=a_ o'->b≠d->s'.heap.get? b=a_ o')->s'.gens=s.gens->s'.os=s.os ->
   s'.heap.get? a=a_ (seqObj "list" out e)->Q (.ref a) s') :
  aD 1#7 A (call 16#5 [.ref d]) Q E s:=by
 refine iQ kind_sorted plain_sorted entry_sorted (args_sorted1 _) ?_;unfold Builtin.«sorted»;refine ab (m:=checkCount "sorted" 1 1 _) (aj (ab (BV (A:=A.in1) hh hS fun s1 acc W2 hg Yw ⟨ms,hI,hp⟩ hle=>?_)));have hal:acc.length<64:=by rw[jL hI,hp.length_eq];exact Xz
 refine ab (qr ?_);have YS:(s1.heap.push (seqObj "list" acc.toArray 0)).get? 17#9=a_ (seqObj "list" acc.toArray 0):=av _ rfl;show aD _ _ _ _ _ { s1 with heap:=s1.heap.push (seqObj "list" acc.toArray 0) };refine ab (dF (bG slot_list_sort ⟨_,YS,rfl⟩ entry_list_sort (list_sort_tree YS hI hal λout Zp a1 a2 a3=>⟨_,rfl,?_⟩) (args_list_sort _)));obtain⟨e,he⟩:=sortedHeap_at (out:=out) YS
 exact aj ⟨_,rfl,h out Zp _ e _ a1 (a2.trans hp) a3 hle (λb o' hb Xt=>by
  have Yx:=W2 b o' hb Xt;have ZQ:=az Yx;show(Heap.get? _ b)=_;rw[sortedHeap_old (aJ ZQ) 22#4,m9 _ _ _ (aJ ZQ)]
  exact Yx) hg Yw he⟩
def Nu(n m:Nat):Prop:=n<4000/\m<64
instance(n m:Nat):Decidable (Nu n m):=cm _
def bSS:MF:=λus S=>match us with
 |[x]=>((eB S x).bind λxs=>dJ yf xs).bind λns=>if Nu ns.length (ddp ns).length then a_ (.ref 0#7,S++[.lst ((nS (ddp ns)).map U.int)]) else b_
 |_=>b_
def rSS(K:ao):List V->Hp->VK->Prop:=λxs H Q=>∃(p:e_) (ns:List Int),xs=[.ref p]/\(SqL K H p 11#1\/SqT K H p 11#1)/\Nu ns.length (ddp ns).length /\ ∀l,H l=b_->Q (.ref l) (upd H l (.lst ((nS (ddp ns)).map V.int)))
theorem Va{K:KX}:oh K (rSS K) bSS:=by
 intro μ S H us vs u S' Q hr rs e a;unfold bSS at e
 split at e
 .rename_i x
  obtain⟨v,r,rfl,rx,rn⟩:=rs.inv;rw[rn.nil_inv];cases q1:eB S x with
  |none=>rw[q1]at e;cases e
  | some ws=>
    rw[q1]at e;simp only[aO]at e;cases q:dJ yf ws with
    |none=>rw[q]at e;cases e
    | some ns=>
      rw[q]at e;simp only[aO]at e
      split at e
      rotate_left
      .cases e
      rename_i hc
      cases e;obtain⟨p,ys,rfl,hs,r'⟩:=hr.seq rx q1;rw[Ak r' q]at hs;exact⟨p,ns,rfl,hs,hc,λl hl=>jG a hr (nF _) hl⟩
 .cases e
variable{X:Cx}
theorem Inv.drawn{pins:List (e_×Obj)}{σ:_L.St}{H:Hp}{s':g_}(I:Inv X pins σ H s)(h1:s'.heap=s.heap)(h2:s'.gens=s.gens)(h3:s'.os=s.os):Inv X pins σ H s':=by
 obtain⟨a,b,c,d,e⟩:=s';simp only at h1 h2 h3;subst h1 h2 h3;exact⟨I.ok,I.os,I.bare,I.base,I.loc,I.cell,I.free,I.freeC,I.pin,I.hok,I.len⟩
theorem Sh{e:Expr}{t:TA}{p q rp pos:Pos}(hc:X.calm=c_)(hg:Gl X "sorted")(hm:X.mg "sorted"=b_)(Yb:Gl X "set")(Zl:X.mg "set"=b_)(ha:PA X [e] t)(he:starEach [e] X.env=17#7::starEach [] X.env):PE X (.Call (.Name "sorted" p) [.Call (.Name "set" q) [e] [] rp] [] pos) (tCB (rSS X.K) t):=by
 intro pins s σ H Q I h;refine ff (ky I hg hm k9 ?_ 0#2 0#2);refine rM ?_ rfl rfl;show aD _ _ (spliced ((d_,eval (.Call (.Name "set" q) [e] [] rp) X.env)::backTo pos (starEach [] X.env))) _ _ s;refine lU (ff (ky I Yb Zl PyProof.Rows.boot_set ?_ 0#2 0#2));refine cM (thn (ha rp pins s σ H _ I h) λus s1 ⟨vs,H1,I1,r1,q1⟩=>?_) he rfl;obtain⟨a,ns,rfl,hS,⟨W2,W1⟩,qq⟩:=q1;cases r1 with
 | cons r1 rr=>
   cases rr;cases (show _=bZ a from r1);have hh:=I1.ok.hd hc;have fin :∀ (T:String) (items:Array f_) (nl:Nat) (od:Option e_) (osl:Array (Option f_)),T="list"\/T="tuple"->s1.heap.get? a=a_ { cls := .type T,dict:=od,data := .seq items nl,slots:=osl }->IntsAre items.toList ns ->
     aD 1#5 X.A (call (.type "set") [.ref a]) (fun u s2=>aD 1#5 X.A (spliced (backTo pos (starEach [] X.env))) (fun us s3=>aD 1#5 X.A (call 16#5 (u::us)) 10#7 X.xe s3) X.xe s2) X.xe s1:=by
    intro T items nl od osl hT Xs hi;refine JT hT hh Xs hi (by unfold scanBound;exact aM 0#4 0#2) λh2 tk Xy hold=>xf ?_;refine Ep (s:={ s1 with heap:=h2,toks:=tk }) hh Xy W1 λout Zp l ee s3 a1 a2 a3 hle Yu hgn Yw hl=>?_;have e':=nH a2 a3;subst e';have la:∀b o,s1.heap.get? b=a_ o->s3.heap.get? b=a_ o:=λb o e=>Yu b o (hold b o 0#3 e) (aJ (az e));have lz:17#9<=l:=by
     obtain⟨es,ep,t,g,_⟩:=Xy;have: @Lg Nat _ s1.heap.objs.size h2.objs.size:=az g;have z: @LE.le Nat _ h2.objs.size l:=hle;exact aI (ai this z)
    have I3:=I1.laid (t':=s3.toks) (o:= .lst ((nS (ddp ns)).map V.int)) (h':=s3.heap) (a:=l) la lz ⟨by rw[ar,(jo _).length_eq,sizeLine_eq];lia,out.toList,ee,oM a1,by rw[hl]⟩;exact⟨.ref l,_,Inv.drawn I3 rfl hgn Yw,rfl,qq _ (I1.hok.fresh lz)⟩
   rcases hS with hS|hS
   .obtain⟨ZY,rv,pl,_⟩:=I1.list hS
    obtain⟨⟨oc,od,odt,osl⟩,ho,YN,n,hd⟩:=pl.isList;simp only at YN hd;subst YN hd;exact fin "list" _ n _ _ 5#1 ho (intsAre_of rv)
   .obtain⟨ZY,rv,pl,_⟩:=I1.tuple hS
    obtain⟨⟨oc,od,odt,osl⟩,ho,YN,n,hd⟩:=pl;simp only at YN hd;subst YN hd;exact fin "tuple" _ n _ _ (.inr rfl) ho (intsAre_of rv)
section
variable {prog:Program}{w:World}{A:Around}{E:f_->g_->Prop}{s:g_}
end
section
variable {X:Cx}{e:Expr}{te:TE}{pos p2 p3 p4:Pos}{j:Nat}
end
section
variable {K:KX}{σ:St}{H:Hp}{Q:VK}
end
def nN:ME:=λ_ S=>a_ (.ref 0#7,S++[.dic []])
def uX(k v:ME):ME:=λG S=>bnd (k G (S++[.dic []])) λx S1=>bnd (v G S1) λy S2=>(keyOf x).bind λkk=>match S2[0#7]? with
 |some (.dic [])=>a_ (.ref 0#7,S2.set S.length (.dic [(kk,y)]))
 |_=>b_
section
variable {K:KX}{σ:St}{H:Hp}{Q:VK}
variable{μ:List e_}{S:Sto}{p:e_}
theorem Fk(hr:HR K μ S H)(hp:H p=b_):HR K (μ++[p]) (S++[.dic []]) (upd H p (.dK [])):=
 hr.newC hp rfl ⟨[],du,.nil⟩
theorem E7(hr:HR K μ S H):(μ++[p])[0#7]?=a_ p:=by
 rw[<-hr.len];simp
theorem Po(h:tM K nN σ H Q):II σ H Q:=by
 obtain⟨μ,S,G,u,S',hr,er,e,k⟩:=h;cases e;intro p hp;exact k _ _ _ ⟨_,rfl⟩ (bD.new hp) (Fk hr hp) (zy (E7 hr))
theorem Ro{a b:ME}(h:tM K (uX a b) σ H Q):OT [(tM K a,tM K b)] σ H Q:=by
 obtain⟨μ,S,G,u,S',hr,er,e,k⟩:=h;intro p hp;obtain⟨x,S1,e1,e⟩:=be e;obtain⟨y,S2,e2,e⟩:=be e;have pre:Pre μ _:=⟨[p],rfl⟩;refine⟨_,_,G,x,S1,Fk hr hp,er.mono (bD.new hp) pre,e1,λY0 vx H1 p1 k1 ZZ rx=>?_⟩;refine⟨_,S1,G,y,S2,ZZ,er.mono ((bD.new hp).trans k1) (pre.trans p1),e2,λY7 vy H2 p2 k2 ZT ry=>?_⟩;cases qk:keyOf x with
 |none=>simp_all
 | some kk=>
   rw[qk]at e
   split at e
   .rename_i q
    cases e;have hm:=p2.get (p1.get (E7 hr));obtain⟨vs,e0,r0⟩:=ZT.cell _ _ p q hm;have kw:bD H2 (upd H2 p (.dK (tz [] [(kk,vy)]))):=bD.wrG e0 (λ_ z=>by cases z) λ_ _ z=>by cases z
    refine⟨e0,[(kk,vy)],?_,by simp,?_⟩
    .rw[qS (RU.mono k2 p2 _ _ rx) qk];rfl
    .refine k _ _ _ (pre.trans 9#5) ((bD.new hp).trans (k1.trans (k2.trans kw))) (ZT.wrC q hm rfl ⟨_,by rw[du];rfl,.cons (RU.mono kw 2#6 _ _ ry) .nil⟩) (zy hm)
   .cases e
def WM(i:Int):Prop:=i.natAbs.log2<1920
end
abbrev MG:=U->Rho->Sto->Option (Rho×Sto)
abbrev MGs:=List U->Rho->Sto->Option (Rho×Sto)
def gN(i:Nat):MG:=λu G S=>a_ (G.set i (a_ u),S)
def tY:MGs:=λus G S=>match us with
 |[]=>a_ (G,S)
 |_=>b_
def h9(g:MG)(r:MGs):MGs:=λus G S=>match us with
 |[]=>b_
 |u::us=>(g u G S).bind λp=>r us p.1 p.2
def gTp(n:Nat)(gs:MGs):MG:=λu G S=>match u with
 |.tup us=>if 1#3=n then gs us G S else b_
 |_=>b_
def Io(e:ME)(g:MG):MS:=λG S=>bnd (e G S) λx S1=>(g x G S1).map λp=>(.nx,p.1,p.2)
def tG(K:KX)(g:MG):TG:=λv σ H Q=>∃μ S G u r,HR K μ S H/\ER H μ G σ/\RU H μ u v/\g u G S=a_ r /\ ∀Y6 Y3 H',Pre μ Y6->bD H H'->HR K Y6 r.2 H'->ER H' Y6 r.1 Y3->Q Y3 H'
def tGs(K:KX)(g:MGs):TGs:=λvs σ H Q=>∃μ S G us r,HR K μ S H/\ER H μ G σ/\RUs H μ us vs/\g us G S=a_ r /\ ∀Y6 Y3 H',Pre μ Y6->bD H H'->HR K Y6 r.2 H'->ER H' Y6 r.1 Y3->Q Y3 H'
theorem PG.con{tg:Expr}{t u:TG}(h:PG X tg t)(k:∀v σ H Q,u v σ H Q->t v σ H Q):PG X tg u:=λpins s σ H v w Q I r q=>h _ s σ H v w Q I r (k _ _ _ _ q)
theorem PGs.con{tg:List Expr}{t u:TGs}(h:PGs X tg t)(k:∀v σ H Q,u v σ H Q->t v σ H Q):PGs X tg u:=λpins s σ H v w Q I r q=>h _ s σ H v w Q I r (k _ _ _ _ q)
section
variable {K:KX}{σ:St}{H:Hp}{Q:St->Hp->Prop}{v:V}{D:Ends}
theorem V7{i:Nat}(h:tG K (gN i) v σ H Q):j6 i v σ H Q:=by
 obtain⟨μ,S,G,u,r,hr,er,ru,e,k⟩:=h;cases e;exact k μ _ H 2#6 11#4 hr (er.set ru i)
variable{vs:List V}
theorem Ri(h:tGs K tY vs σ H Q):Th vs σ H Q:=by
 obtain⟨μ,S,G,us,r,hr,er,rs,e,k⟩:=h;cases us with
 |nil=>cases e;exact⟨rs.nil_inv,k μ _ H 2#6 11#4 hr er⟩
 |cons u us=>cases e
variable{gs:MGs}
theorem M0{g:MG}(h:tGs K (h9 g gs) vs σ H Q):OQ (tG K g) (tGs K gs) vs σ H Q:=by
 obtain⟨μ,S,G,us,r,hr,er,rs,e,k⟩:=h;cases us with
 |nil=>cases e
 | cons u us=>
   obtain⟨v,vr,rfl,ra,rb⟩:=rs.inv;cases q:g u G S with
   |none=>rw[show h9 g gs _ G S=(g u G S).bind _ from rfl,q]at e;cases e
   | some p=>
     rw[show h9 g gs _ G S=(g u G S).bind _ from rfl,q]at e;exact⟨v,vr,rfl,μ,S,G,u,p,hr,er,ra,q,λY0 Y8 H1 p1 k1 ZZ ZH=>⟨_,_,_,us,r,ZZ,ZH,RUs.mono k1 p1 _ _ rb,e,λY7 Y9 H2 p2 k2=>k _ _ H2 9#5 11#2⟩⟩
theorem Sb{n:Nat}(h:tG K (gTp n gs) v σ H Q):Uq K n (tGs K gs) v σ H Q:=by
 obtain⟨μ,S,G,u,r,hr,er,ru,e,k⟩:=h;unfold gTp at e
 split at e
 .rename_i us
  split at e
  .obtain⟨a,vs,rfl,ha,rs⟩:=gE ru
   exact⟨a,vs,rfl,.inl (.inl ha),by rw[<-rs.len];omega,μ,S,G,us,r,hr,er,rs,e,k⟩
  .cases e
 .cases e
theorem U1{m:ME}{g:MG}(h:tMS K (Io m g) D σ H):F7 (tM K m) (tG K g) D σ H:=by
 obtain⟨μ,S,G,r,hr,er,e,k⟩:=h;obtain⟨x,S1,e1,e⟩:=be e;cases q:g x G S1 with
 |none=>rw[q]at e;cases e
 | some p=>
   rw[q]at e;cases e;exact⟨μ,S,G,x,S1,hr,er,e1,λY0 vx H1 p1 k1 ZZ rx=>⟨_,S1,G,x,p,ZZ,er.mono k1 p1,rx,q,λY7 Y9 H2 p2 k2 ZT Yn=>k _ _ H2 9#5 11#2 ZT Yn⟩⟩
end
theorem Cp{a b c d:Expr}{p1 p2 p p3:Pos}{k k2:Nat}{vs:List Expr}{env:Env}:swappedStores [.Tuple [.Subscript a b p1,.Subscript c d p2] k p] (.Tuple vs k2 p3) env=pure b_:=by
 unfold swappedStores
 simp_all
def tJ(g:MG)(b:MS)(n:Nat)(us:List U):Nat->Nat->MS
 |0,_,_,_=>b_
 | f+1,k,G,S=>(getL S n).bind λxs=>match xs[k]? with
   |none=>a_ (.nx,G,S)
   | some x=>match us[k]? with
     |none=>a_ (.nx,G,S)
     |some y=>(g (.tup [x,y]) G S).bind λp=>aft (b p.1 p.2) (tJ g b n us f (k+1))
def Vu(g:MG)(b:MS):Src->MS
 |.zlt n us=>tJ g b n us fuel 0
 |_=>λ_ _=>b_
def tX(g:MG)(it:MI)(b:MS):MS:=λG S=>bnd (it G S) λsrc S1=>Vu g b src G S1
section
variable {K:KX}{σ:St}{H:Hp}{Q:VK}{D:Ends}
variable{g:MG}{b:MS}{G:Rho}{S:Sto}{μ:List e_}{r:Fl×Rho×Sto}
theorem Il{x:U}{v:V}{X4:List e_}{H0:Hp}{k:MS}{N:St->Hp->Prop}(hr:HR K μ S H)(er:ER H μ G σ)(rx:RU H μ x v)(e:((g x G S).bind λp=>aft (b p.1 p.2) k)=a_ r)(p:Pre X4 μ)(kp:bD H0 H)(fl:FlP K X4 H0 D r)
  (hN:∀Y0 Y8 H1 Y4 S1,Pre X4 Y0->bD H0 H1->HR K Y0 S1 H1->ER H1 Y0 Y4 Y8->k Y4 S1=a_ r->N Y8 H1):tG K g v σ H λY9 H2=>tMS K b { D with nx:=N,ct:=N,bk:=D.nx } Y9 H2:=by
 cases q:g x G S with
 |none=>rw[q]at e;cases e
 | some y=>
   rw[q]at e;exact⟨μ,S,G,x,y,hr,er,rx,q,λY0 Y8 H1 p1 k1 ZZ ZH=>oE ZZ ZH e (p.trans p1) (kp.trans k1) fl hN⟩
theorem Rm{a:MA}{R:It->Hp->Prop}{S1:Sto}{src:Src}(hr:HR K μ S H)(er:ER H μ G σ)(e:Cm a G S=a_ (src,S1))
  (hR:∀Y0 H1 n us p q vs,Pre μ Y0->bD H H1->HR K Y0 S1 H1->src=.zlt n us->Y0[n]?=a_ p->H1 q=a_ (.tup vs)->RUs H1 Y0 us vs->R (Itz K c_ p q) H1)
  (hT:∀Y0 H1 us ws p q xs ys,Pre μ Y0->bD H H1->HR K Y0 S1 H1->src=.zpt us ws->H1 p=a_ (.tup xs)->RUs H1 Y0 us xs->H1 q=a_ (.tup ys)->RUs H1 Y0 ws ys->R (Itz K d_ p q) H1):FA K 6#3 σ H R:=by
 obtain⟨xs,S2,e1,e⟩:=be e
 split at e
 .rename_i n us
  cases q:getL S2 n with
  |none=>rw[q]at e;cases e
  | some ws=>
    rw[q]at e;simp only[dr,lg,CD]at e;obtain⟨e2,e3⟩:=e;subst e3;refine 18#5;obtain⟨v,r,rfl,rx,rn⟩:=rs.inv;obtain⟨v2,r2,rfl,ry,rn2⟩:=rn.inv;rw[rn2.nil_inv];obtain⟨p,rfl,hp⟩:=gQ rx;obtain⟨p2,vs,rfl,WW,r⟩:=gE ry;obtain⟨a',zs,YO,hs,_⟩:=ZZ.sq q;rw[hp]at YO;cases YO;exact⟨c_,p,p2,zs,vs,rfl,hs,.inl (.inl WW),hR Y0 H1 n us p p2 vs p1 k1 ZZ e2.symm hp WW r⟩
 .cases e
  refine 18#5;obtain⟨v,r,rfl,rx,rn⟩:=rs.inv;obtain⟨v2,r2,rfl,ry,rn2⟩:=rn.inv;rw[rn2.nil_inv];obtain⟨p,xs,rfl,hp,r⟩:=gE rx;obtain⟨p2,ys,rfl,WW,r2⟩:=gE ry;exact⟨d_,p,p2,xs,ys,rfl,.inl (.inl hp),.inl (.inl WW),hT Y0 H1 _ _ p p2 xs ys p1 k1 ZZ rfl hp r WW r2⟩
 .cases e
theorem Mm{n f:Nat}{us:List U}{vs:List V}{a c:e_}(hr:HR K μ S H)(er:ER H μ G σ)(e:tJ g b n us f 0 G S=a_ r)(fl:FlP K μ H D r)(ha:μ[n]?=a_ a)(hc:H c=a_ (.tup vs))(ru:RUs H μ us vs):
  ∃W:Nat->Nat->St->Hp->Prop,16#7 /\ ∀k m σ H,W k m σ H ->
   ((Itz K c_ a c).stop k H/\D.nx σ H)\/((Itz K c_ a c).go k H /\ ∃N:St->Hp->Prop,18#6 /\ ∀x H',(Itz K c_ a c).yld k H x H'->tG K g x σ H' λY9 H2=>tMS K b { D with nx:=N,ct:=N,bk:=D.nx } Y9 H2):=by
 refine⟨λk m Y8 H1=>∃Y0 S1 Y4,Pre μ Y0/\bD H H1/\HR K Y0 S1 H1/\ER H1 Y0 Y4 Y8/\tJ g b n us m k Y4 S1=a_ r,⟨f,μ,S,G,Pre.refl _,bD.refl _,hr,er,e⟩,?_⟩;rintro k m Y8 H1 ⟨Y0,S1,Y4,p1,k1,ZZ,ZH,e1⟩;have hq:SqT K H1 c vs:= .inl (.inl (k1 c vs hc));cases m with
 |zero=>cases e1
 | succ m=>
   unfold tJ at e1;cases q:getL S1 n with
   |none=>rw[q]at e1;cases e1
   | some xs=>
     rw[q]at e1;simp only[aO]at e1;obtain⟨a',ws,YO,hs,rs⟩:=ZZ.sq q;rw[p1.get ha]at YO;cases YO;cases z:xs[k]? with
     | none=>
       rw[z]at e1;cases e1;refine .inl ⟨⟨ws,vs,hs,hq,.inl ?_⟩,fl Y0 Y8 H1 p1 k1 ZZ ZH⟩;rw[<-rs.len];exact Et.mp z
     | some u=>
       rw[z]at e1;obtain⟨v,hv,rv⟩:=rs.get z;cases z2:us[k]? with
       | none=>
         simp only[z2]at e1;cases e1;refine .inl ⟨⟨ws,vs,hs,hq,.inr ?_⟩,fl Y0 Y8 H1 p1 k1 ZZ ZH⟩;rw[<-ru.len];exact Et.mp z2
       | some y=>
         simp only[z2]at e1;obtain⟨v2,hv2,Xp⟩:=ru.get z2;refine .inr ⟨⟨ws,v,vs,v2,hs,hv,hq,hv2⟩,λY9 H2=>∃Y7 S2 X0,Pre μ Y7/\bD H H2/\HR K Y7 S2 H2/\ER H2 Y7 X0 Y9/\tJ g b n us m (k+1) X0 S2=a_ r,λY3 H' w=>⟨m,bV _,w⟩,λx H' yl=>?_⟩;obtain⟨T,w1,w2,hy1,hy2,hT,rfl,rfl⟩:=yl;have hyk:=hy1 ws hs;rw[hv]at hyk;cases hyk;have hyk2:=hy2 vs hq;rw[hv2]at hyk2;cases hyk2;have kp:bD H1 (upd H1 T (.tup [v,v2])):=bD.new hT;exact Il (ZZ.tup hT) (ZH.mono kp 2#6) (jP du (.cons (RU.mono kp 2#6 _ _ rv) (.cons (RU.mono (k1.trans kp) p1 _ _ Xp) .nil))) e1 p1 (k1.trans kp) fl λY7 Y9 H2 X0 S2 p2 k2 ZT Yn e2=>⟨Y7,S2,X0,p2,k2,ZT,Yn,e2⟩
theorem Ut{a:MA}(h:tMS K (tX g (Cm a) b) D σ H):xB (FA K 6#3) (tG K g) (tMS K b) D σ H:=by
 obtain⟨μ,S,G,r,hr,er,e,fl⟩:=h;obtain⟨src,S1,e1,e⟩:=be e;refine Rm hr er e1 (λY0 H1 n us p q vs p1 k1 ZZ hs hp hq rs=>?_) λY0 H1 us ws p q xs ys p1 k1 ZZ hs _ _ _ _=>?_
 .subst hs
  exact Mm ZZ 10#8 e (fl.mono p1 k1) hp hq rs
 .subst hs
  cases (show b_=a_ r from e)
end
section
variable {K:KX}{σ:St}{H:Hp}{Q:VK}
end
section
variable {prog:Program}{w:World}{A:Around}{E:f_->g_->Prop}{s:g_}
variable{r:e_}{n:Nat}
theorem xJ{a b c:Int}{t u v:Tok}(hh:A.handled=b_)(hr:IsRange s.heap r a b c t u v)(Zq:oC a b c=c_)
  (hn:iE a b c=n) (hlen:n<=2^24)
  (hQ:∀(h':Heap) (tk:Nat) (acc:Array f_),20#9->1#0<=14#3->ItemsOf (λi v=>∃t,v=.int (a+i*c) t) acc n->Q acc.toList { s with heap:=h',toks:=tk }):
  aD 1#7 A (collect (.ref r)) Q E s:=by
 refine ab (kL (dE kN ?_));refine ab 21#6
 refine dv (wpAny_extend_range (R:=λx s' =>∃h' tk acc c',x = .ok _/\s'={ s with heap:=h',toks:=tk }/\20#9 /\
   h'.get? _=a_ { cls:= .type _,dict:=b_,data:= .seq acc c',slots:= #[] }/\ItemsOf _ acc n)
  hh (af _ hr) Zq hn hlen _ _ 0 (av _ rfl)
  λh' tk acc c' hk YZ ZK=>⟨h',tk,_,c',rfl,rfl,λb o e=>hk b o ((λb o e=>aJ (az e)) b o e) (af _ e),YZ,ZK⟩) (λfin s' h =>?_) (λe s' h=>by simp_all)
 have WO: ∀x s',(∃h' tk acc c',x=(.ok (.ret 6#1):Result)/\s'={ s with heap:=h',toks:=tk }/\20#9 /\
   h'.get? s.heap.objs.size=a_ { cls := .type "list",dict:=b_,data := .seq acc c',slots := #[] }/\ItemsOf (fun i v=>∃ t,v=.int (a+i*c) t) acc n)->x=.ok (.ret (.ref s.heap.objs.size))/\aD (model prog w) A (match bZ s.heap.objs.size with
   | bZ a=>do
     match (<- load a).data with
      |xq xs _=>pure xs.toList
      |_=>unsupported "internal:collect"
   | _=>unsupported "internal:collect") Q E s':=by
  rintro x s' ⟨h',tk,acc,c',rfl,rfl,hk,YZ,ZK⟩;exact⟨rfl,(ab (Au YZ (aj (hQ h' tk _ hk (aI (az YZ)) ZK))))⟩
 cases fin with
 | done f=>
   obtain⟨e,q⟩:=WO _ _ h;cases e;omega
 | again c'=>exact⟨h.1,je h.2 λr s'' hr=>by
   obtain⟨e,q⟩:=WO _ _ hr;subst e
   omega⟩
theorem nZ{Q₁:f_->g_->Prop}{a b c:Int}{t u v:Tok}(hh:A.handled=b_)(hr:IsRange s.heap r a b c t u v)(Zq:oC a b c=c_)
  (hn:iE a b c=n) (hlen:n<=2^24)
  (h :∀ (h':Heap) (tk:Nat) (acc:Array f_),(∀ b o,s.heap.get? b=a_ o->h'.get? b=a_ o)->1#0<=14#3->ItemsOf (fun i v=>∃ t,v=.int (a+i*c) t) acc n->Q₁ (.ref 14#3) { s with heap:=h'.push { cls := .type "tuple",data := .seq acc },toks:=tk }) :
  pQ 1#7 A (.call (.builtin "tuple.__new__") ⟨[.type "tuple",.ref r],[]⟩) (wants Q₁ E) s:=by
 refine Hy ?_;show aD _ A.in1 (do checkBuiltinCall "tuple.__new__" ⟨[.type "tuple",.ref r],[]⟩;again (.builtin "tuple.__new__" ⟨[.type "tuple",.ref r],[]⟩)) _ _ s;refine ab (dZ (F.newCall_tuple_1 _) (aj ⟨plainId_quiet F.plain_tuple_new _,dE F.entry_tuple_new ?_⟩));rw[fQ F.plain_tuple_new _];have X6:=sub_tuple_self;have hinit:=init_tuple_lookup;have hmh:=madeHere_tuple;have Zi:s.TypeIs (.ref r) "range":=⟨_,hr,rfl⟩;have hh1:A.in1.handled=b_:=hh
 wp_walk using jf Zi,xJ hh1 hr Zq hn hlen
 intro h' tk acc hk hle ZK;show aD _ _ (xj acc.toList.toArray >>= λv=>ret v) _ _ _;unfold xj;refine ab (bJ ?_ (by show acc.toList.toArray.size<=sizeLine;simp only[Array.toArray_toList];rw[ZK.1,sizeLine_eq];exact hlen));refine aj ?_;have e:acc.toList.toArray=acc:=by simp
 rw[e];exact h h' tk acc hk hle ZK
theorem tu{Q:f_->g_->Prop}{a b c:Int}{t u v:Tok}(hh:A.handled=b_)(hr:IsRange s.heap r a b c t u v)(Zq:oC a b c=c_)
  (hn:iE a b c=n) (hlen:n<=2^24)
  (h :∀ (h':Heap) (tk:Nat) (acc:Array f_),(∀ b o,s.heap.get? b=a_ o->h'.get? b=a_ o)->1#0<=14#3->ItemsOf (fun i v=>∃ t,v=.int (a+i*c) t) acc n->Q (.ref 14#3) { s with heap:=h'.push { cls := .type "tuple",data := .seq acc },toks:=tk }) :
  aD 1#7 A (call (.type "tuple") [.ref r]) Q E s:=by
 refine callType_codes (Q₁:=λobj ZV=>ZV.TypeIs obj _/\Q obj ZV) F.called_tuple (F.typeCall_tuple_1 _) F.entry_object_init
  (nZ hh hr Zq hn hlen λh' tk acc hk hle ZK=>⟨⟨_,av _ rfl,rfl⟩,h h' tk _ hk hle ZK⟩) λobj ZV YQ=>?_
 exact⟨YQ.1,F.args_object_init_2 _ _,object_init_meets F.called_tuple.init.lookup F.called_tuple.made 0#2 _ w _ _ _ ⟨YQ.1,rfl,YQ.2⟩⟩
end
theorem xb (hc:X.calm=c_):iM X (.type "tuple") (fun xs H Q=>∃ r lo hi,xs=[.ref r]/\H r=a_ (.rng lo hi)/\(-(2^62)<=lo/\lo<2^62 /\ -(2^62)<=hi/\hi<2^62)/\(hi-lo).toNat<=sizeLine /\ ∀ l,H l=b_->Q (.ref l) (upd H l (.tup (ph lo (hi-lo).toNat)))):=by
 intro pins s σ H xs us Q I rs h;obtain⟨r,lo,hi,rfl,hr,⟨h1,h2,h3,h4⟩,hz,q⟩:=h;cases rs with
 | cons r1 rr=>
   cases rr;cases (r1);obtain⟨t,u,v,e⟩:=I.hok r _ hr;refine tu 11#3 e (small_one h1 h2 h3 h4) (by rw[rangeSize_one];grind) (hz) λh' tk acc hk hle ZK=>?_;obtain⟨ZF,hit⟩:=ZK;refine⟨.ref _,_,I.laid (λb o e=>af _ (hk b o e)) hle ?_,rfl,q _ (I.hok.fresh hle)⟩;refine⟨by rw[ph,ar,aZ];omega,_,?_,rN _ _,_,av _ rfl,rfl⟩;refine zd (by rw[ph,ar,aZ,bR,ZF]) λi x w h5 h6=>?_;have ZQ:=by
    have:=(ag.mp h5).1;rwa[ph,ar,aZ]at this
   have hx:(ph lo (hi-lo).toNat)[i]?=a_ (.int (lo+i)):=by simp[ph,ZQ]
   rw[hx]at h5;cases h5;obtain⟨t',e'⟩:=hit i w (by simpa using h6);exact⟨t',by rw[e'];simp⟩
section
variable {K:KX}{σ:St}{H:Hp}{Q:VK}
def rTR:List V->Hp->VK->Prop:=λxs H Q=>∃r lo hi,xs=[.ref r]/\H r=a_ (.rng lo hi)/\(-(2^62)<=lo/\lo<2^62 /\ -(2^62)<=hi/\hi<2^62)/\(hi-lo).toNat<=sizeLine /\ ∀l,H l=b_->Q (.ref l) (upd H l (.tup (ph lo (hi-lo).toNat)))
theorem Ka{μ:List e_}{S1:Sto}{i j:Int}{r:e_}(ZZ:HR K μ S1 H)(ho:okR i/\okR j)(hz:(bI i (j-i).toNat).length<=big)(k:Aft K μ H (.tup (bI i (j-i).toNat)) S1 Q)(Yc:H r=b_):rTR [.ref r] (upd H r (.rng i j)) Q:=by
 refine⟨r,i,j,rfl,du,⟨ho.1.1,ho.1.2,ho.2.1,ho.2.2⟩,?_,λl hl=>?_⟩
 .unfold bI big at hz;rw[ar,aZ]at hz;exact hz
 .exact(k.mono 2#6 (bD.new Yc (o:= .rng i j))) μ _ _ 2#6 (bD.new hl) ((ZZ.rng Yc).tup hl) (jP du (RUs.mono (bD.new hl) 2#6 _ _ (EJ _ _)))
theorem LB{a:MA}(h:tM K (yV (iR1 a)) σ H Q):tCB rTR (vE (Jg 6#3) De) σ H Q:=by
 obtain⟨μ,S,G,u,S',hr,er,e,k⟩:=h;obtain⟨src,S1,e1,e⟩:=be e;obtain⟨xs,S2,e2,e1⟩:=be e1;refine 25#0
 split at e1
 .rename_i j
  split at e1
  .rename_i hj
   cases e1;simp only at e
   split at e
   .cases e
    obtain⟨v,r,rfl,rx,rn⟩:=rs.inv;rw[rn.nil_inv,dN rx];refine⟨j,rfl,hj.1,hj.2,λr Yc=>?_⟩;have ez:(j-0).toNat=j.toNat:=by simp
    exact Ka ZZ ⟨15#1,hj⟩ (by rw[ez];omega) (by rw[ez];exact k.mono p1 k1) Yc
   .cases e
  .cases e1
 .cases e1
end
def wq(i:Nat)(f:e_)(φ:MF)(a:MA):ME:=λG S=>match G[i]? with
 |some (a_ (.obj g))=>if g=f then mFn φ a G S else b_
 |_=>b_
def su(is:List Nat)(G:Rho):Option (List U):=dJ (λi=>(G[i]?).bind id) is
def zN(np:Nat)(ml:ME)(cs:List U):MF:=λus S=>if 1#3=np then ml (us.map a_++cs.map a_) S else b_
def l4(F:e_->MF->MF)(np:Nat)(is:List Nat)(ml:ME)(ma:ME):ME:=λG S=>bnd (ma G S) λx S1=>(su is G).bind λcs=>
 open Classical in
 if h:∃r,∀f,F f (zN np ml cs) [x,.obj f] S1=a_ r then a_ h.choose else b_
theorem vN{F:e_->MF->MF}{np:Nat}{is:List Nat}{ml ma:ME}{G:Rho}{S S1:Sto}{x:U}{cs:List U}{r:U×Sto}(ha:ma G S=a_ (x,S1))(hc:su is G=a_ cs)(h:∀f,F f (zN np ml cs) [x,.obj f] S1=a_ r):
  l4 F np is ml ma G S=a_ r:=by
 have hx:∃r,∀f,F f _ [x,.obj f] S1=a_ r:=⟨r,h⟩;unfold l4;rw[ha];simp only[aF,hc,aO];rw[dif_pos hx];have e:=(hx.choose_spec 0).symm.trans (h 0);omega
structure Lam(M:Mo)(f:e_)(k:Nat)(ps:List Str)(φ:MF):Prop where
 ex:∃fd:FuncData,((∃(oc:f_) (od:Option e_) (sl:Array (Option f_)),M.base.get? f=a_ ⟨oc,od,.func fd,sl⟩)\/dI M.K (.ref f)=c_)/\Binds M.K fd ps []/\lD M.P M.w M.K M.mg M.base CX0 k f fd ps (spM M.K φ)
section
variable {M:Mo}{X:Cx}{k:Nat}{N:List Str}{ns:List (Str×NameKind)}{e:Expr}{es:List Expr}{ZJ:MA}{x:Str}{p1 pos:Pos}
theorem Mr{f:e_}{φ:MF}{ps:List Str}{k':Nat}(S:Sc M X k N ns)(F:Lam M f k' ps φ)(hk:k'<=k)(i:Nat)(hi:N[i]?=a_ x)(hv:xy ns x=c_)(ha:PA X 2#0 3#2)
  (hd:8#3=d_) (Z4:19#7=d_)
  (he:starEach 2#0 X.env=17#7::starEach es X.env) (ZL:(backTo pos 15#6).any (·.1)=d_):
  PE X (.Call (.Name x p1) 2#0 [] pos) (tM M.K (wq i f φ ZJ)):=by
 obtain⟨fd,hf,hb,F⟩:=F.ex;rw[<-S.hP,<-S.hw,<-S.hK,<-S.hm,<-S.hb]at F;rw[<-S.hb,<-S.hK]at hf;rw[<-S.hK]at hb;intro pins s σ H Q I h;obtain⟨μ,S0,G,u,S',hr,er,q,aft⟩:=h;unfold wq at q
 split at q
 rotate_left
 .cases q
 rename_i g hg
 split at q
 rotate_left
 .cases q
 rename_i hgf
 subst hgf;obtain⟨v,X3,rv⟩:=er.get i _ hg;subst 2#3;refine ff (thn (HS (by rw[S.hN];omega) (S.vis hv) hd Z4 _ s σ H (λv H1=>v=.ref g/\H1=H) I ⟨_,X3,rfl,rfl⟩) λw s1 ⟨v,H1,I1,r1,e1,e2⟩=>?_);subst e1;subst e2;obtain rfl:w=bZ g:=r1;have hc:EK _ [] E0 _ σ H1 Q:=Jy ⟨μ,S0,G,u,S',hr,er,q,aft⟩;have hA:=ha pos _ s1 σ H1 _ I1 hc;rcases hf with⟨oc,od,sl,hf⟩ |hf
 rotate_left
 .exact tD I1.ok.mod.kin hf (thn hA λus s2 ⟨vs,H2,I2,r2,q2⟩=>⟨I2.kIn,zL F (S.room.mono hk) hb .nil EX I2 r2 q2⟩) he ZL
 rw[he];refine PySem.W.callWith_of (P:=λh=>h.get? g=a_ ⟨oc,od,.func fd,sl⟩) (by show((d_||(backTo _ _).any _)||false)=d_;rw[ZL];rfl)
  (λh q=>⟨_,.inl rfl,(PySem.W.Looks.ld q).andThen .now⟩) (rJ ?_)
 rw[he]at hA;exact thn hA λus s2 ⟨vs,H2,I2,r2,q2⟩=>⟨I2.bk g _ hf,(zL F (S.room.mono hk) hb .nil EX I2 r2 q2)⟩
end
end _G
namespace _G
open PySem PySem.Spec _L
open PySem.W (envX kla_fn kla_obj CodeHd tabObj)
open PyProof.Rows hiding St
structure nG(ps fs:List Str)(scope:Scope):Prop where
 kind:scope.kind=.function
 co:scope.isCoroutine=d_
 gen:scope.isGenerator=d_
 nd:(ps++fs).Nodup
 par:∀p∈ps,scope.names.lookup p=a_ .local\/scope.names.lookup p=a_ .cell
 cel:∀x∈scope.names,x.2=.cell->scope.names.lookup x.1=a_ .cell
 fre:∀y∈scope.names,y.2=.free->y.1∈fs
 free:∀y∈fs,scope.names.lookup y=a_ .free
theorem qo:∀(names:List 7#2) (n:Nat) (a b:List 7#4),cellsFrom n names (a++b)=cellsFrom n names a++b
 |[],_,_,_=>rfl
 | (x,k)::r,n,a,b=>by
   unfold cellsFrom;cases k==eO with
   |true=>exact qo r _ ((x,n)::a) b
   |false=>exact qo r n a b
theorem Hn(names:List 7#2)(n:Nat)(b:List 7#4):cellsFrom n names b=cellsFrom n names []++b:=qo _ n [] b
theorem rY:∀(names:List 7#2) (n:Nat) (a:List 7#4) {x:Str}{c:e_},(x,c)∈cellsFrom n names a->(x,eO)∈names\/(x,c)∈a
 |[],_,_,_,_,h=>.inr h
 | (y,k)::r,n,a,x,c,h=>by
   unfold cellsFrom at h
   split at h
   .rcases rY r _ _ h with h|h<;>grind
   .exact(rY r n a h).imp (aB _) id
variable{x:Str}
theorem iB{α:Type}{c:α}:∀{a b:List (Str×α)},a.lookup x=a_ c->(a++b).lookup x=a_ c
 |a,b,h=>by rw[jl,h];rfl
theorem jV{α:Type}:∀{a b:List (Str×α)},a.lookup x=b_->(a++b).lookup x=b.lookup x
 |a,b,h=>by rw[jl,h];rfl
theorem jt{α:Type}{c:α}{a b:List (Str×α)}(h:(a++b).lookup x=a_ c):a.lookup x=a_ c\/(a.lookup x=b_/\b.lookup x=a_ c):=by
 cases q:a.lookup x with
 |some d=>rw[iB q]at h;exact .inl h
 |none=>rw[jV q]at h;exact .inr ⟨rfl,h⟩
theorem wQ{f g:Str×f_->PUnit->Sem (ForInStep PUnit)}:∀{l:List (Str×f_)},(∀x∈l,∀u,f x u=g x u)->forIn l PUnit.unit f=forIn l PUnit.unit g
 |[],_=>rfl
 | x::l,h=>by
   have ih:=wQ λy hy=>h y (aB _ hy)
   simp_all
variable{env:Env}
theorem DU{cs:List (Str×e_)}{v:f_}(h:env.kindOf x=a_ .local\/env.cells.lookup x=cs.lookup x):storeName env x v=storeName { env with cells:=cs } x v:=by
 rcases h with h|h
 .have h':Env.kindOf { env with cells:=cs } x=a_ _:=h
  unfold storeName;rw[h,h'];rfl
 .have e:cellOf env x=cellOf { env with cells:=cs } x:=by unfold cellOf;rw[h]
  unfold storeName;rw[e];rfl
variable{A:Around}{scope:Scope}{cl:List (Str×e_)}{qual:Str}
theorem Mv{M:Model}{E:f_->g_->Prop}{s:g_}{g:e_}{binds:List (Str×f_)}{func:Option e_}{code:f_}{bt:e_}{Q:Env->g_->Prop}(hk:scope.kind=.function)
  (hb:∀x∈binds,scope.names.lookup x.1=a_ .local\/scope.names.lookup x.1=a_ .cell)
  (hQ: ∀s',InCallC s s.heap.objs.size (bindL (λx=>scope.names.lookup x) binds λ_=>b_) (cellsFrom (1#0+1) scope.names []) (bindC (λx=>scope.names.lookup x) binds λ_=>b_) s' ->
   Q (newEnv scope s.heap.objs.size g (cellsFrom (s.heap.objs.size+1) scope.names []++cl) qual func code b_ bt) s'):
  aD M A (newFunctionEnv scope g cl binds qual func code b_ bt) Q E s:=by
 have ok:CellsOk (pushCells (s.heap.push { cls := .type "frame",data := .dict #[] }) _) _ _:=
  cellsFrom_ok scope.names _ _ [] ⟨λ_ _ z=>(nomatch z),iT⟩ 2#1
 rw[bE]at ok;have inC:InCallC s _ _ _ _ _:=
  ⟨⟨⟨_,s.toks,rfl⟩,(Heap.Ns.new _ _).keeps λb o e=>pushCells_keeps _ _ b o e,λb o e=>pushCells_keeps _ _ b o (af _ e),ak _⟩,
   λn c hc=>(ok.empty n c (mem_of_lookup hc)).1,ok.apart,λn c hm=>Nat.lt_of_succ_le (ok.empty n c hm).2⟩
 refine ab (wpAny_alloc (ab (wpAny_layCells _ (λnm kd cs=>by cases q:kd==eO<;>simp[q]) _ _ _ _ ?_)));rw[bE ..,Hn];refine ab ?_;have same:∀x∈binds,∀v,storeName (newEnv _ s.heap.objs.size g (cellsFrom (1#0+1) _ []++cl) _ _ _ b_ bt) _ v=storeName (newEnv _ _ g _ qual func code b_ bt) _ v:=λx hx v=>by
  refine DU ?_;rcases hb x hx with h|h
  .exact .inl h
  .obtain⟨c,hc⟩:=kz h
   exact .inr (by rw[hc];exact iB hc)
 show aD M A (forIn binds _ λx _=>(do storeName (newEnv _ _ g _ _ _ _ b_ bt) x.1 _;pure _)) _ E _;rw[wQ λx hx u=>by rw[same x hx]];refine wpAny_bindParams _ (λ_ _ _=>rfl) hk _ _ _ _ _ inC (λx hx=>?_) λs' x=>aj (hQ s' x);rcases hb x hx with h |h
 .exact .inl h
 .obtain⟨c,hc⟩:=kz h
  exact .inr ⟨h,by show((cellsFrom _ _ []).lookup _).isSome=c_;rw[hc];rfl⟩
def pM(base:Heap)(cl:List 7#4):List Str->List V->Prop
 |[],[]=>True
 |y::fs,v::vs=>(∃c o u,cl.lookup y=a_ c/\base.get? c=a_ o/\o.data=.cell (a_ u)/\RelV v u)/\pM base cl fs vs
 |_,_=>False
theorem pM.len{base:Heap}{cl:List (Str×e_)}:∀{fs:List Str}{vs:List V},pM base cl fs vs->fs.length=2#4
 |[],[],_=>rfl
 |_::_,_::_,h=>by simp[pM.len h.2]
 |[],_::_,h=>h.elim
 |_::_,[],h=>h.elim
theorem pM.get{base:Heap}{cl:List (Str×e_)}:∀{fs:List Str}{vs:List V}{i:Nat}{y:Str}{v:V},pM base cl fs vs->fs[i]?=a_ y->vs[i]?=a_ v->∃c o u,cl.lookup y=a_ c/\base.get? c=a_ o/\o.data=.cell (a_ u)/\RelV v u
 |[],_,i,y,v,_,h1,_=>by simp at h1
 |_::_,[],i,y,v,h,_,_=>h.elim
 | _::_,_::_,0,y,v,h,h1,h2=>by
   simp at h1 h2;subst h1;subst h2;exact h.1
 |_::_,_::_,i+1,y,v,h,h1,h2=>pM.get h.2 (by simpa using h1) (by simpa using h2)
def As(qual:Str)(scope:Scope)(L f:e_)(cd:f_)(cl:List 7#4):Env:=envX qual scope L f cd (cellsFrom (L+1) scope.names []++cl)
def KD(P:Program)(w:World)(K:ao)(mg:Str->Option f_)(base:Heap)(N:List Str)(qual:Str)(scope:Scope)(f:e_)(cd:f_)(cl:List 7#4)(A:Around)(outer:List Env)(s:g_)(H:Hp):Cx where
 prog:=P
 w:=w
 K:=K
 mg:=mg
 base:=base
 A:=A.deeper (As qual scope s.heap.objs.size f cd cl)
 N:=N
 s₀:=s
 H₀:=H
 env:=As qual scope s.heap.objs.size f cd cl
 outer:=outer
 stack:=As qual scope s.heap.objs.size f cd cl::outer
 ex:= []
 calm:=c_
 fn:=λx=>scope.names.lookup x==a_ .cell
 pn:= []
 xe:=λ_ _=>False
variable{mg:Str->Option f_}{ps:List Str}{f:e_}{us:List f_}{cv:List V}
theorem LP{P:Program}{w:World}{K:ao}{base:Heap}{fs:List Str}{cd:f_}{outer:List Env}{s s1:g_}{H:Hp}{vs:List V}
  (S:nG ps fs scope) (hd:A.handled=b_) (e0:Hm P w K mg base A outer s H) (hl:2#4=8#1) (r:cX vs us) (C:pM base cl fs cv)
  (YN:∀y c,cl.lookup y=a_ c->∃o v,base.get? c=a_ o/\o.data=.cell v) (inj:∀x y c,cl.lookup x=a_ c->cl.lookup y=a_ c->x=y)
  (x:InCallC s s.heap.objs.size (bindL (λy=>scope.names.lookup y) (ps.zip us) λ_=>b_) (cellsFrom (1#0+1) scope.names []) (bindC (λy=>scope.names.lookup y) (ps.zip us) λ_=>b_) s1):
  Inv (KD P w K mg base (ps++fs) qual scope f cd cl A outer s H) [] (vs.map a_++cv.map a_) H s1:=by
 obtain⟨h1,tk,rfl,hk⟩:=x.done;have ndP:=(d6.mp S.nd).1;have newc:∀y c,(cellsFrom _ _ []).lookup y=a_ c->scope.names.lookup y=a_ _/\1#0<c:=λy c e=>by
  have m:=mem_of_lookup e;rcases rY _ _ _ m with z|z
  .exact⟨S.cel _ z rfl,x.above y c m⟩
  .simp at z
 have oldc:∀y c,cl.lookup y=a_ c->c<1#0/\(∃v,h1.IsCell c v)/\H c=b_:=λy c e=>by
  obtain⟨o,v,e1,e2⟩:=YN y c e;exact⟨az (e0.bs c o e1).1,⟨v,o,hk _ _ (e0.bs c o e1).1,e2⟩,(e0.bs c o e1).2⟩
 have frc:∀y∈fs,(cellsFrom _ _ []).lookup y=b_:=λy hy=>by
  cases q:(cellsFrom _ _ []).lookup y with
  |none=>rfl
  | some c=>
    have:=(newc y c q).1;rw[S.free y hy]at this;grind
 have noA:∀b,b∉(KD P w K mg base (ps++fs) qual scope f cd cl A outer s H).ex:=λb z=>absurd (show b∈[] from z) 0#3
 refine⟨⟨e0.mod,S.kind,rfl,rfl,ak _,λy z c e1 e2 =>?_,λy hy =>?_,λy c hy e =>?_,λ_=>hd,HC e0.frames,.inr ⟨rfl,rfl⟩,λb z=>absurd z (noA b),e0.bs,e0.bsz,λb _ _=>noA b,λb z=>absurd z (noA b),e0.funs,e0.frf⟩,
  rfl,e0.bare,Un.kept hk,⟨_,x.toInCall.ns,λi y v h2 h3 h4 =>?_⟩,λy c h =>?_,e0.hok.fresh (ak _),λy c h =>?_,λp hp=>absurd (show p∈[] from hp) (by simp),e0.hok.kept hk,?_⟩
 .rcases jt e1 with e1|⟨_,e1⟩
  .rcases jt e2 with e2|⟨_,e2⟩
   .exact name_of_addr x.apart (mem_of_lookup e1) (mem_of_lookup e2)
   .exact absurd (aY (newc y c e1).2 (oldc z c e2).1) (bu _)
  .rcases jt e2 with e2|⟨_,e2⟩
   .exact absurd (aY (newc z c e2).2 (oldc y c e1).1) (bu _)
   .exact inj y z c e1 e2
 .rcases hy with hy|hy
  .obtain⟨c,hc⟩:=kz hy
   exact⟨c,iB hc⟩
  .have hf:=S.fre _ (mem_of_lookup hy) rfl
   obtain⟨i,hi⟩:=List.getElem?_of_mem hf;have XY:i<cv.length:=by rw[<-C.len];exact(ag.mp hi).1
   obtain⟨c,o,u,e,_⟩:=C.get hi (aC XY);exact⟨c,(jV (frc y hf)).trans e⟩
 .rcases jt e with e|⟨_,e⟩
  .exact aI (newc y c e).2
  .obtain⟨c',W0⟩:=kz (eq_of_beq hy)
   rename_i z
   rw[W0]at z;cases z
 .have hN:(ps++fs)[i]?=a_ y:=h2
  by_cases hi:i<8#1
  .rw[aT hi]at hN
   rw[aT (by simpa [hl]using hi),a9]at h3;cases e:vs[i]? with
   |none=>rw[e]at h3;cases h3
   | some a=>
     rw[e]at h3;cases h3;obtain⟨u,hu,rv⟩:=r.get e;refine⟨u,rv,?_⟩;rcases S.par y (bK hN) with kd|kd
     .exact .inl ⟨kd,rT ndP hN hu kd⟩
     .obtain⟨c,hc⟩:=kz kd
      refine .inr ⟨.inl kd,c,iB hc,?_⟩;have z:=x.cell y c hc;rw[tj ndP hN hu (by rw[kd];decide)]at z
      lia
  .rw[bo 5#6]at hN
   rw[bo 8#8,a9]at h3;simp only[ar,hl]at h3;cases e:cv[i-8#1]? with
   |none=>simp_all
   | some a=>
     rw[e]at h3;cases h3;have hf:=bK hN;obtain⟨c,o,u,e1,e2,e3,e4⟩:=C.get hN e;exact⟨u,e4,.inr ⟨.inr (S.free y hf),c,(jV (frc y hf)).trans e1,o,hk _ _ (e0.bs c o e2).1,e3⟩⟩
 .rcases jt h with e|⟨_,e⟩
  .exact⟨_,x.cell y c e⟩
  .exact(oldc y c e).2.1
 .rcases jt h with e|⟨_,e⟩
  .exact e0.hok.fresh (aI (newc y c e).2)
  .exact(oldc y c e).2.2
 .show(vs.map _++cv.map _).length=(ps++fs).length
  simp[hl,C.len]
variable{cs:List U}{params:Arguments}{body:Expr}{pm:f_}{oc:Obj}{ws:Array f_}
theorem QJ{M:Mo}(h0:M.mkr=b_){name:Str}{Ye:f_}{c:e_}{t:Tok}{fs:List Str}{k:Nat}{ml:ME}{od:Option e_}{fc:f_}{fsl:Array (Option f_)}(hcap:∀μ S H,HR M.K μ S H->RUs H μ cs cv)
  (hf:M.base.get? f=a_ ⟨fc,od,.func (kla_fn name qual params body scope cl pm (.ref c) Ye),fsl⟩) (hc:(c,oc)∈M.K.cds) (Yh:oc.data=.fields ws) (hq:ws[1]?=a_ (.str qual t))
  (S:nG ps fs scope) (C:pM M.base cl fs cv) (YN:∀y c,cl.lookup y=a_ c->∃o v,M.base.get? c=a_ o/\o.data=.cell v) (inj:∀x y c,cl.lookup x=a_ c->cl.lookup y=a_ c->x=y)
  (hb:∀X,Sc M X k (ps++fs) 6#8->PE X body (tM M.K ml)):
  lD M.P M.w M.K M.mg M.base CX0 (k+1) f (kla_fn name qual params body scope cl pm (.ref c) Ye) ps (spM M.K (zN ps.length ml cs)):=by
 have len:∀vs H Q E,spM M.K (zN ps.length ml cs) vs H Q E->2#4=8#1:=λvs H Q E h=>by
  obtain⟨μ,S',us,u,Yl,hr,rs,e,_⟩:=h;unfold zN at e
  split at e
  .rename_i hl;rw[<-rs.len];exact hl
  .cases e
 refine⟨len,λA outer s H args us vs Q E hr e0 Xt r YD=>?_⟩;have hl:=len _ _ _ _ YD;obtain⟨μ,S1,zs,u,S2,hR,rs,e,ka⟩:=YD;refine PySem.W.kla_callFunE hr.depth (e0.bs f _ hf).1 rfl S.co S.gen rfl ⟨c,oc,ws,t,rfl,((e0.hok c _ (hR.ext.cds _ hc)).1),Yh,hq⟩ (Xt _ _ _ _ ?_);refine Mv S.kind (λx hx=>S.par _ (qp hx).1) λs1 x=>⟨(e0.mod.nolimit.keeps λb o e=>(e0.bs b o e).1).keeps x.toInCall.keep,?_⟩;show pQ _ _ (.expr body (As qual scope s.heap.objs.size f (.ref c) cl)) _ _;have SS:Sc M (KD M.P M.w M.K M.mg M.base (ps++fs) qual scope f (.ref c) cl A outer s H) k (ps++fs) 6#8:=
  ⟨rfl,rfl,rfl,rfl,rfl,rfl,S.nd,rfl,λ_ h=>h,λy h=>⟨h,by show(scope.names.lookup y==a_ .cell)=c_;rw[h];rfl⟩,λ_ h=>.inr h,λ_ h=>h,hr.deeper _,xi,λc q h=>by rw[h0]at h;cases h⟩
 unfold zN at e
 split at e
 rotate_left
 .cases e
 have er:ER H μ (zs.map a_++cs.map a_) (vs.map a_++cv.map a_):=by
  have rc:=hcap _ _ _ hR;refine⟨by simp[rs.len,rc.len],λi w hw=>?_⟩;rw[<-bL,a9]at hw;cases q:(zs++cs)[i]? with
  |none=>rw[q]at hw;cases hw
  | some w'=>
    rw[q]at hw;cases hw;obtain⟨v,hv,rv⟩:=(rs.append rc).get q;exact⟨v,by rw[<-bL,a9,hv];rfl,rv⟩
 refine PySem.W.kla_codeExpr (dv (hb _ SS [] _ _ H Q (LP (qual:=qual) (f:=f) (cd:= .ref c) S hr.hd e0 hl r C YN inj x) ⟨μ,S1,_,u,S2,hR,er,e,ka⟩) (λv s' hs=>?_) λe s' hs=>hs.elim);obtain⟨x,H',J,rv,q⟩:=hs;exact⟨x,H',J.os,J.bare,J.base,J.hok,rv,q⟩
def i8(cells:List 7#4):List 7#2->List 7#4->List 7#4
 |[],acc=>acc
 | (y,k)::r,acc=>if k==.free then(match cells.lookup y with
   |some c=>i8 cells r ((y,c)::acc)
   | none=>i8 cells r acc) else i8 cells r acc
theorem Ei{scope:Scope}(h:∀y∈6#8,y.2=.free->∃c,env.cells.lookup y.1=a_ c):closureFor scope env=pure (i8 env.cells scope.names []):=by
 unfold closureFor;have key:∀(l:List _) (acc:List _),(∀y∈l,y.2=.free->∃c,env.cells.lookup y.1=a_ c) ->
   (forIn l acc λx r=>if (x.2==br)=c_ then(do let a <- cellOf env x.1;pure (fD ((x.1,a)::r))) else pure (fD r):Sem _)=pure (i8 env.cells l acc):=by
  intro l
  induction l with
  |nil=>intro acc _;rfl
  | cons y l ih=>
    intro acc hh;rw[AD];unfold i8;cases q:y.2==br with
    | true=>
      obtain⟨c,hc⟩:=hh y bY (eq_of_beq q);have e:cellOf env y.1=pure c:=by unfold cellOf;rw[hc]
      simp only[e,hc];exact ih _ λz hz=>hh z (aB _ hz)
    | false=>
      exact ih _ λz hz=>hh z (aB _ hz)
 have e:=key _ [] h;rw[bind_pure];omega
theorem oO{cells:List (Str×e_)}:∀(l:List 7#2) (acc:List 7#4) {y:Str}{c:e_},(y,c)∈i8 cells l acc->(y,c)∈acc\/(cells.lookup y=a_ c/\(y,br)∈l)
 |[],acc,y,c,h=>.inl h
 | (z,k)::l,acc,y,c,h=>by
   unfold i8 at h
   split at h
   .split at h
    .rcases oO l _ h with h|h<;>grind
    .exact(oO l _ h).imp id λh=>⟨h.1,aB _ h.2⟩
   .exact(oO l _ h).imp id λh=>⟨h.1,aB _ h.2⟩
theorem oW{cells:List (Str×e_)}:∀(l:List 7#2) (acc:List 7#4) {y:Str}{c:e_},(y,c)∈acc->(y,c)∈i8 cells l acc
 |[],acc,y,c,h=>h
 | (z,k)::l,acc,y,c,h=>by
   unfold i8
   split
   .split
    .exact oW l _ (aB _ h)
    .exact oW l _ h
   .exact oW l _ h
theorem oP{cells:List (Str×e_)}:∀(l:List 7#2) (acc:List 7#4) {y:Str}{c:e_},(y,br)∈l->cells.lookup y=a_ c->(y,c)∈i8 cells l acc
 |[],acc,y,c,h,_=>by simp at h
 | (z,k)::l,acc,y,c,h,hc=>by
   unfold i8;rcases aH.mp h with e|h
   .cases e
    simp[hc];exact oW l _ bY
   .split
    .split
     .exact oP l _ h hc
     .exact oP l _ h hc
    .exact oP l _ h hc
theorem lookup_mem{α:Type}:∀{l:List (Str×α)}{y:Str}{c:α},(y,c)∈l->∃d,l.lookup y=a_ d
 |[],y,c,h=>by simp at h
 | (z,d)::l,y,c,h=>by
   rw[dz];cases q:y==z with
   |true=>exact⟨d,rfl⟩
   | false=>
     rcases aH.mp h with e|h
     .grind
     .exact lookup_mem h
variable{cells:List (Str×e_)}{l:List (Str×NameKind)}{y:Str}{c:e_}
theorem l5(h:(i8 cells l []).lookup y=a_ c):cells.lookup y=a_ c/\(y,br)∈l:=by
 rcases oO l [] (cw h) with h|h<;>simp_all
theorem Ha(h:(y,br)∈l)(hc:cells.lookup y=a_ c):(i8 cells l []).lookup y=a_ c:=by
 obtain⟨d,hd⟩:=lookup_mem (oP l [] h hc);have:=(l5 hd).1
 grind
theorem DM{pos:Pos}{a b:Int}{c cv:f_}(l:List f_)(h:TriplesOk l)(hc:codeAmong pos (l++[rawInt a,rawInt b,c])=a_ cv):codeAmong pos l=a_ cv\/cv=c:=by
 fun_induction TriplesOk l with
 | case1=>
   simp[rawInt,codeAmong]at hc
   grind
 | case2 x t y u z rest ih=>
   simp only[fA,codeAmong]at hc ⊢
   split at hc
   .rename_i q;rw[if_pos q];exact .inl hc
   .rename_i q;rw[if_neg q];exact ih h hc
 |case3 l h1 h2=>exact h.elim
section
variable {K:KX}{H:Hp}{μ:List e_}{S:Sto}
theorem HR.table{P:e_}{ps:Array f_}{t:Tok}{a b:Int}{q:Str}(h:HR K μ S H)(hP:H P=a_ (.tbl ps))(hc:H c=b_)(Yh:oc.data=.fields ws)(hq:ws[1]?=a_ (.str q t))(un:∀r∈K.tabs,r.1=P->r.2=q):
  bD H (upd (upd H c (.frz oc fz)) P 26#9)/\HR K μ S (upd (upd H c (.frz oc fz)) P 26#9):=by
 have stay:∀x o,H x=a_ o->(∀ps,o≠.tbl ps)->upd (upd H c (.frz oc fz)) P 26#9 x=a_ o:=λx o e n=>by
  rw[bB (tN e hP (n ps)),bB (bF e hc)];omega
 have kp:bD H _:=⟨λx vs e=>stay x _ e (λ_ z=>nomatch z),λx o u e=>stay x _ e (λ_ z=>nomatch z)⟩;have fr:∀x o u,H x=a_ _->upd _ P _ x=a_ (.frz o u):=λx o u e=>stay x _ e λ_ z=>by cases z
 refine⟨kp,h.len,h.inj,λm d x q1 q2=>(h.cell m d x q1 q2).mono kp 2#6 (λhd=>?_) λo u e=>fr x o u e,RUs.mono kp 2#6 _ _ h.ext.cap,λr hr=>fr _ _ _ (h.ext.cds r hr),λr hr=>?_⟩
 .obtain⟨o,e,_,_,nb⟩:=(h.cell m d x q1 q2).has hd
  rw[stay x o e nb,e]
 .obtain⟨ps',e,tr,al⟩:=h.ext.tab r hr
  by_cases Yt:r.1=P
  .rw[Yt,hP]at e
   cases e;refine⟨_,by rw[Yt,du],by rw[cx];exact TriplesOk_snoc _ _ _ _ tr,λpos cv hcv=>?_⟩;rw[cx]at hcv;rcases DM _ tr hcv with z |z
   .obtain⟨d,od,vs,t',e1,e2,e3,e4⟩:=al _ cv z
    exact⟨d,od,vs,t',e1,fr _ _ _ e2,e3,e4⟩
   .exact⟨c,oc,ws,t,z,by rw[bB ((bF hP hc).symm),du],Yh,by rw[un r hr Yt];omega⟩
  .refine⟨_,by rw[bB Yt,bB (bF e hc)];omega,tr,λpos cv hcv=>?_⟩
   obtain⟨d,od,vs,t',e1,e2,e3,e4⟩:=al _ cv hcv;exact⟨d,od,vs,t',e1,fr _ _ _ e2,e3,e4⟩
end
section
variable {X:Cx}{pins:List (e_×Obj)}{σ:St}{H:Hp}{s:g_}
theorem GB{P:e_}{ps more:Array f_}{ob:Obj}{h':Heap}{tk:Nat}(I:Inv X pins σ H s)(hP:H P=a_ (.tbl ps))(hx:jw P s.heap h')(WY:1#0<=c)(hc:h'.get? c=a_ oc)(WS:h'.get? P=a_ (tabObj (ps++more))):
  Inv X pins σ (upd (upd H c (.frz oc fz)) P (.tbl (ps++more))) { s with heap:=h'.push ob,toks:=tk }:=by
 have hcn:=I.hok.fresh WY;have kp:∀b o,b≠P->s.heap.get? b=a_ o->(h'.push ob).get? b=a_ o:=λb o n e=>af _ (hx b o n e);have nP:∀b,H b=b_->b≠P:=λb n z=>by grind
 have stay:∀x o,H x=a_ o->(∀ps,o≠.tbl ps)->upd (upd H c (.frz oc fz)) P (.tbl (ps++more)) x=a_ o:=λx o e n=>by
  rw[bB (tN e hP (n ps)),bB (bF e hcn)];omega
 refine I.step (ch:= []) (λ_ z=>nomatch z) (λb o _ _ _ e n=>kp b o (nP b n) e) (λb o _ _ _ e n=>⟨_,kp b o (nP b n) e⟩)
  (λb o _ e n=>by rw[bB (nP b n),bB (aJ (ai (az e) WY))];omega) (λb o _ e=>?_) (λb xs e=>stay b _ e λ_ z=>by cases z) (λb o u e=>stay b _ e λ_ z=>by cases z)
  (λb qs e=>?_) (λm hm=>?_) (λb u e=>?_) I.bare
 .by_cases hb:b=P
  .exact⟨_,by rw[hb];exact af _ WS⟩
  .exact⟨o,kp b o hb e⟩
 .by_cases hb:b=P
  .rw[hb,hP]at e
   cases e;exact⟨_,by rw[hb,du]⟩
  .exact⟨#[],by rw[bB hb,bB (bF e hcn),e];simp⟩
 .exact(hm.extBut hx (nP _ I.free)).push _
 .by_cases hb:b=P
  .rw[hb,du]at e
   cases e;rw[hb];exact af _ WS
  .rw[bB hb]at e
   by_cases hbc:b=c
   .rw[hbc,du]at e
    cases e;rw[hbc];exact⟨af _ hc,trivial,⟨_,af _ hc⟩,λ_ _ _ _=>trivial⟩
   .rw[bB hbc]at e
    refine(I.hok b u e).stay (λd v hd q=>kp d v ?_ q) (λd q=>stay d _ q λ_ z=>by cases z) λd xs q=>stay d _ q λ_ z=>by cases z
    grind
def baseOf(h:Heap)(H:Hp)(fr:List e_):Heap:=PySem.W.hideAll (AX h H) fr
variable{h:Heap}{fr:List e_}{b:e_}{o:Obj}
theorem kG{H:Hp}(e:h.get? b=a_ o)(n:H b=b_)(hf:b∉fr):(baseOf h H fr).get? b=a_ o:=HB _ (qF e n) hf
theorem Hd{H:Hp}(e:(baseOf h H fr).get? b=a_ o):h.get? b=a_ o/\H b=b_:=Fb (K8 fr e)
theorem AR(I:Inv X pins σ H s):∀b o,X.base.get? b=a_ o->(baseOf s.heap H (frs X.stack)).get? b=a_ o:=λb o e=>
 kG (I.bs b o e).1 (I.bs b o e).2 λz=>by
  have:=(I.stack.mem z).1
  grind
theorem Gz(I:Inv X pins σ H s):Hm X.prog X.w X.K X.mg 17#4 X.A X.stack s H:=by
 have k:=AR I;obtain⟨m1,m2,⟨mb,m3,m4⟩,m5⟩:=I.ok.mod;refine⟨I.ok.frames,⟨m1.keeps k,m2.keeps k,⟨mb,m3.keeps k,m4⟩,m5.keeps k⟩,λb o e=>Hd e,by rw[baseOf,Hv,yF]<;>simp_all,?_,I.stkFree,I.hok,I.bare⟩;have all:∀l,(∀b∈frs l,b∈frs X.stack)->s.heap.FunFrames X.base l->s.heap.FunFrames 17#4 l:=by
  intro l
  induction l with
  |nil=>intro _ _;trivial
  | cons env r ih=>
    intro hs hl;obtain⟨hk,⟨L,o,hf,hn,ho,hd⟩,hr⟩:=hl;exact⟨hk,⟨L,o,hf,Hw _ (hs L (by unfold frs;simp_all)),ho,hd⟩,ih (λb hb=>hs b (by unfold frs;rw[t8,hf];exact aB _ hb)) hr⟩
 exact all _ (λ_ h=>h) I.stack
end
def iX(mg:Str->Option f_)(base:Heap):Prop := ∃ bm ob,mg "__builtins__"=a_ (.ref bm)/\bm≠builtinsNs/\base.get? bm=a_ ob/\ob.cls=.type "module"/\ob.dict=a_ builtinsNs/\ob.data=.plain
theorem iX.keeps{b b':Heap}(h:iX mg b)(k:∀a o,b.get? a=a_ o->b'.get? a=a_ o):iX mg b':=
 let ⟨bm,ob,e1,e2,e3,r⟩:=h;⟨bm,ob,e1,e2,k _ _ e3,r⟩
structure Mkr(M:Mo)(c P:e_)(q:Str):Prop where
 hd:∀h:Heap,M.K.K.In h->CodeHd h c P
 bl:iX M.mg M.base
 gP:mainGlobals≠P
 mem:(P,q)∈M.K.tabs
 un:∀r∈M.K.tabs,r.1=P->r.2=q
def KX.to(K:KX)(caps:List U)(capv:List V)(cds:List 2#7):KX:=⟨K.K,caps,capv,cds,K.tabs⟩
def Mo.to(M:Mo)(caps:List U)(capv:List V)(cds:List 2#7)(base:Heap):Mo:=⟨M.P,M.w,M.K.to caps capv cds,M.mg,base,b_⟩
structure FnC(M:Mo)(x:Str)(k:Nat)(ps:List Str)(F:e_->MF->MF):Prop where
 ex:∃(f:e_) (fd:FuncData),M.mg x=a_ (.ref f)/\dI M.K (.ref f)=c_/\Binds M.K fd ps [] /\
  ∀(caps:List U) (capv:List V) (cds:List (e_×Obj)) (base:Heap) (g:e_) (j:Nat) (lps:List Str) (φ:MF),iX M.mg base->k<=j->Lam (M.to caps capv cds base) g j lps φ ->
   lD M.P M.w M.K M.mg base CX0 (j+1) f fd ps (spM (M.K.to caps capv cds) (F g φ))
def uO:List (List Str) := [["x"],["least"],["walk"],["i","j"],["one","other"],["group","steps"]]
def zA(p:Arguments):Bool:=p.posonlyargs.isEmpty&&(p.vararg.isNone&&(p.kwonlyargs.isEmpty&&(p.kw_defaults.isEmpty&&(p.kwarg.isNone&&p.defaults.isEmpty))))
def wY(p:Arguments):Option (List Str):=if zA p&&uO.contains (p.args.map (·.arg)) then a_ (p.args.map (·.arg)) else b_
variable{p:Arguments}
theorem Em(h:zA p=c_):p=⟨[],p.args,b_,[],[],b_,[]⟩:=by
 obtain⟨a,b,c,d,e,f,g⟩:=p;unfold zA at h
 simp_all
theorem Bu(h:wY p=a_ ps):∃as,p=⟨[],as,b_,[],[],b_,[]⟩/\as.map (·.arg)=ps/\ps∈uO:=by
 unfold wY at h
 split at h
 .rename_i q
  cases h;rw[aE]at q;exact⟨_,Em q.1,rfl,List.contains_iff_mem.mp q.2⟩
 .cases h
variable{as:List Arg}
theorem Vq(e:as.map (·.arg)=[x]):∃an ps,as=[⟨x,an,ps⟩]:=by
 obtain⟨a,l,rfl,h1,h2⟩:=Lq.mp e;rw[List.map_eq_nil_iff.mp h2];obtain⟨n,an,ps⟩:=a
 grind
theorem V5(e:as.map (·.arg)=[x,y]):∃an ps an2 ps2,as=[⟨x,an,ps⟩,⟨y,an2,ps2⟩]:=by
 obtain⟨a,l,rfl,h1,h2⟩:=Lq.mp e;obtain⟨an2,ps2,rfl⟩:=Vq h2;obtain⟨n,an,ps⟩:=a
 grind
theorem UU{α:Type}{us:List α}(h:1#3=1):∃a,us=[a]:=List.length_eq_one_iff.mp h
theorem Wi{α:Type}{us:List α}(h:1#3=2):∃a b,us=[a,b]:=by
 cases us with
 |nil=>cases h
 | cons a us=>
   obtain⟨b,rfl⟩:=UU (Nat.succ.inj h);exact⟨a,b,rfl⟩
theorem Ke(e:as.map (·.arg)=ps)(hk:ps∈uO){fd:FuncData}(hp:fd.params=⟨[],as,b_,[],[],b_,[]⟩)(hd:fd.defaults=.none)(hl:1#3=8#1):bindArgs fd ⟨us,[]⟩=pure (ps.zip us):=by
 obtain⟨c1,c2,pr,c4,c5,df,c7,c8,c9,c10,c11,c12,c13⟩:=fd;cases hp;cases hd;simp[uO,or_false]at hk;rcases hk with rfl|rfl|rfl|rfl|rfl|rfl
 all_goals first
  |(obtain⟨an,q,rfl⟩:=Vq e;obtain⟨a,rfl⟩:=UU hl;rfl)
  |(obtain⟨an,q,an2,q2,rfl⟩:=V5 e;obtain⟨a,b,rfl⟩:=Wi hl;rfl)
theorem Gi(h:wY p=a_ ps)(nd:ps.Nodup){K:ao}{name:Str}{cdv ct:f_}:Binds K (kla_fn name qual p body scope cl pm cdv ct) ps []:=by
 obtain⟨as,rfl,e,hk⟩:=Bu h;exact .all λus hl=>Ke e hk rfl rfl hl
theorem KZ(h:wY p=a_ ps)(env:Env):defaultsOf p env=([],[]):=by
 obtain⟨as,rfl,_⟩:=Bu h;rfl
section
variable {M:Mo}{X:Cx}{k:Nat}{N:List Str}{ns:List (Str×NameKind)}{pins:List (e_×Obj)}{σ:St}{H:Hp}{s:g_}
theorem Bw(S:Sc M X k N ns)(I:Inv X pins σ H s)(hy:ns.lookup y=a_ .cell)(hc:X.env.cells.lookup y=a_ c):c∉frs X.stack:=λz=>by
 rcases aH.mp (I.stkSub c z) with e|hb
 .exact I.cne y c hc e
 .obtain⟨_,o,ho,_⟩:=I.ok.funs.mem hb
  exact absurd (ai (az ho) (I.ok.cab y c ((S.cel y hy).2) hc)) (bu _)
theorem Ff(S:Sc M X k N ns)(I:Inv X pins σ H s){μ:List e_}{G:Rho}(er:ER H μ G σ){names:List (Str×NameKind)}:∀{fs:List Str}{is:List Nat}{cs:List U},(∀y∈fs,ns.lookup y=a_ .cell/\(y,br)∈names) ->
  dJ (λy=>N.findIdx? (· == y)) fs=a_ is->su is G=a_ cs->∃cv,RUs H μ cs cv/\pM 17#4 (i8 X.env.cells names []) fs cv
 |[],is,cs,_,h1,h2=>by cases h1;cases h2;exact⟨[],.nil,trivial⟩
 | y::fs,is,cs,hf,h1,h2=>by
   unfold dJ at h1;cases e1:N.findIdx? _ with
   |none=>rw[e1]at h1;cases h1
   | some i=>
     rw[e1]at h1;cases e2:dJ _ fs with
     |none=>rw[e2]at h1;cases h1
     | some is'=>
       rw[e2]at h1;cases h1;unfold su dJ at h2;cases e3:(G[i]?).bind id with
       |none=>simp_all
       | some u=>
         rw[e3]at h2;cases e4:dJ _ _ with
         |none=>rw[e4]at h2;cases h2
         | some cs'=>
           rw[e4]at h2;cases h2;obtain⟨cv,r1,r2⟩:=Ff S I er (λz hz=>hf z (aB _ hz)) e2 (e4);have Z3:G[i]?=a_ (a_ u):=by
            grind
           obtain⟨v,X3,rv⟩:=er.get i u Z3;obtain⟨hi,hy,_⟩:=eD.mp e1;obtain⟨m,hn,hl⟩:=I.loc;have YN:=(S.cel y (hf y bY).1).1;obtain⟨w,Zd,l⟩:=hl i y v (by rw[S.hN,aC hi,eq_of_beq hy]) X3 (.inr (.inl YN));rcases l with⟨hk,_⟩|⟨_,c,hc,o,ho,hd⟩
           .have YM:X.env.scope.names.lookup y=a_ _:=hk<;>grind
           .exact⟨_,.cons rv r1,⟨c,o,w,Ha (hf y bY).2 hc,(kG ho (I.freeC y c hc) (Bw S I (hf y bY).1 hc)),hd,Zd⟩,r2⟩
variable{F:e_->MF->MF}{is:List Nat}
theorem Ls{f0:e_}{fd0:FuncData}{gps fs:List Str}{k' j:Nat}{ml:ME}{Ye:f_}{c':e_}{t:Tok}
  {μ:List e_}{S1 S':Sto}{G:Rho}{x u:U}{v1:V}{u1:f_}{Q:VK}
  (S:Sc M X k N ns) (hB:iX M.mg M.base) (hj:k'<=j+1) (hk:j+2<=k) (Xt:Binds M.K fd0 gps [])
  (FF:∀(caps:List U) (capv:List V) (cds:List 2#7) (base:Heap) (g:e_) (j:Nat) (lps:List Str) (φ:MF),iX M.mg base->k'<=j->Lam 15#2 g j lps φ->lD M.P M.w M.K M.mg base CX0 (j+1) f0 fd0 gps (spM (M.K.to caps capv cds) (F g φ)))
  (hps:wY params=a_ ps) (LS:nG ps fs scope) (XO:∀y∈fs,ns.lookup y=a_ .cell/\(y,br)∈6#8) (his:dJ (λy=>N.findIdx? (· == y)) fs=a_ is)
  (hb:∀(caps:List U) (capv:List V) (cds:List 2#7) (base:Heap),iX M.mg base->∀(X':Cx),Sc 15#2 X' j (ps++fs) 6#8->PE X' body (tM (M.K.to caps capv cds) ml))
  (I:Inv X pins σ H s) (hr:HR M.K μ S1 H) (er:ER H μ G σ) (XW:su is G=a_ cs) (spec:F f (zN ps.length ml cs) [x,.obj f] S1=a_ (u,S')) (rx:RU H μ x v1) (ru:RelV v1 u1) (aft:Aft M.K μ H u S' Q)
  (hf:s.heap.get? f=a_ (kla_obj "<lambda>" qual params body scope 22#7 pm c' Ye)) (Xv:H f=b_) (hff:f∉frs X.stack) (hc:H c'=a_ (.frz oc fz)) (Yh:oc.data=.fields ws) (hq:ws[1]?=a_ (.str qual t)) :
  aD 1#5 X.A (call (.ref f0) [u1,.ref f]) 10#7 X.xe s:=by
 obtain⟨cv,rc,C⟩:=Ff S I er XO his XW;have hB':iX M.mg 17#4:=hB.keeps λa o e=>AR I a o (by rw[S.hb];exact e);have lam:Lam (M.to cs cv (M.K.cds++[(c',oc)]) 17#4) f (j+1) ps (zN ps.length ml cs):=by
  refine⟨_,.inl ⟨_,_,_,kG hf Xv hff⟩,Gi hps (d6.mp LS.nd).1,?_⟩;refine QJ (M:=M.to cs cv (M.K.cds++[(c',oc)]) 17#4) rfl (λ_ _ _ h=>h.ext.cap) (kG hf Xv hff) (a8 _ bY) Yh hq LS C (λy c e=>?_) (λy z c e1 e2=>I.ok.inj y z c (l5 e1).1 (l5 e2).1) (hb _ _ _ _ hB');obtain⟨e1,e2⟩:=l5 e;obtain⟨v,o,ho,hd⟩:=I.cell y c e1;exact⟨o,v,kG ho (I.freeC y c e1) (Bw S I (XO y (LS.fre _ e2 rfl)).1 e1),hd⟩
 have FO:=FF _ _ _ _ f (j+1) ps _ hB' hj lam;rw[<-S.hP,<-S.hw,<-S.hK,<-S.hm]at FO
 have Yt:HR (M.K.to cs cv (M.K.cds++[(c',oc)])) μ S1 H:=⟨hr.len,hr.inj,hr.cell,rc,λq hq=>by
  rcases aQ.mp hq with z|z
  .exact hr.ext.cds q z
  .have e:q=(c',oc):=by simpa using z
   rw[e];exact hc,hr.ext.tab⟩
 have YD:spM (M.K.to cs cv (M.K.cds++[(c',oc)])) (F f (zN ps.length ml cs)) [v1,.ref f] H Q E0:=by
  refine⟨μ,S1,[x,.obj f],u,S',Yt,.cons rx (.cons (by simp only[RU]) .nil),spec,λY6 v H' p' k' ZT ru2=>?_⟩;refine aft Y6 v H' p' k' ⟨ZT.len,ZT.inj,ZT.cell,RUs.mono k' p' _ _ hr.ext.cap,λq hq=>ZT.ext.cds q (bf _ hq),ZT.ext.tab⟩ ru2
 rw[<-S.hK]at Xt;refine wpAny_call (je (FO.run X.A X.stack s H ⟨[u1,.ref f],[]⟩ [u1,.ref f] [v1,.ref f] Q E0 (S.room.mono hk) (Gz I) (Xt s _ I.kIn (by simpa using (FO.len _ _ _ _ YD))) (.cons ru (.cons rfl .nil)) YD) λr s' hq=>?_);cases r with
 |error e=>exact hq.elim
 | ok fl=>
   cases fl with
   |ret u=>exact I.after hq
   |next=>exact en hq
   |brk=>exact en hq
   |cont=>exact en hq
theorem NK{gps fs:List Str}{k' j:Nat}{ml ma:ME}{g q:Str}{P:e_}{a:Expr}{p1 lp pos:Pos}
  (S:Sc M X k N ns) (FC:FnC M g k' gps F) (hj:k'<=j+1) (hk:j+2<=k) (hmk:M.mkr=a_ (c,q)) (MK:Mkr M c P (q++"<lambda>"))
  (hg:fG ns g=c_) (hgd:(g==("__debug__":Str))=d_) (ha:PE X a 3#3) (hs:starEach [a,.Lambda params body scope lp] X.env=15#0::starEach [.Lambda params body scope lp] X.env)
  (hps:wY params=a_ ps) (LS:nG ps fs scope) (XO:∀y∈fs,ns.lookup y=a_ .cell/\(y,br)∈6#8) (his:dJ (λy=>N.findIdx? (· == y)) fs=a_ is)
  (hb:∀(caps:List U) (capv:List V) (cds:List 2#7) (base:Heap),iX M.mg base->∀(X':Cx),Sc 15#2 X' j (ps++fs) 6#8->PE X' body (tM (M.K.to caps capv cds) ml)):
  PE X (.Call (.Name g p1) [a,.Lambda params body scope lp] [] pos) (tM M.K (l4 F ps.length is ml ma)):=by
 intro pins s σ H Q I h;obtain⟨μ,S0,G,u,S',hr,er,qm,aft⟩:=h;obtain⟨x,S1,e1,qm⟩:=be qm;cases XW:su is G with
 |none=>rw[XW]at qm;cases qm
 |some cs=>
 rw[XW]at qm;simp only[aO]at qm
 split at qm
 rotate_left
 .cases qm
 rename_i hx
 have spec:=λf=>(hx.choose_spec f).trans qm;obtain⟨f0,fd0,hm,Yu,Xt,FF⟩:=FC.ex;rw[<-S.hK]at Yu;refine ff (uJ I 5#7 (by rw[S.hm];exact hm) ?_ hgd);refine tD I.ok.mod.kin Yu ?_ hs rfl;rw[hs];refine lU (thn (ha _ s σ H (λv H1=>∃Y0,Pre μ _/\bD H H1/\HR _ _ S1 H1/\RU H1 _ x v) I ⟨μ,S0,G,x,S1,hr,er,e1,λY6 v H' p k Yt ru=>⟨Y6,p,k,Yt,ru⟩⟩) λu1 s1 ⟨v1,H1,I1,r1,Y0,pr1,kp1,ZZ,rx1⟩=>?_);obtain⟨Xf,Xd⟩:=S.cod c q hmk;obtain⟨ps0,hP,tr,al⟩:=ZZ.ext.tab _ MK.mem;have hPh:=I1.hok P _ hP;have C:=MK.hd _ (by have:=I1.kIn;rwa[S.hK]at this);have hgl:=I1.mod.glob.keeps I1.bk;obtain⟨bm,ob,b1,b2,b5,b6,b7,b8⟩:=MK.bl;have b5':=I1.bk bm ob (by rw[S.hb];exact b5);have b3:bm≠mainGlobals:=λz=>by
  obtain⟨o,es,ep,e,hd,_⟩:=hgl;rw[<-z,b5']at e;cases e;rw[b8]at hd;cases hd
 have b4:bm≠P:=λz=>by
  rw[z,hPh]at b5';cases b5';cases b8
 have BA:s1.heap.BuiltinsAt X.mg P:=⟨bm,ob,by rw[S.hm];exact b1,b2,b3,b4,b5',b6,b7,b8⟩;have hclo:=Ei λy hy hyf=>I.ok.has _ (.inl (S.cel _ (XO _ (LS.fre y hy hyf)).1).1);refine lU (PySem.W.kla_eval (KZ hps _) ?_);have fin:∀(H2:Hp) (s2:g_) (c' f:e_) (Ye:f_) (oc:Obj) (ws:Array _) (t:Tok),Inv X pins σ H2 s2->bD H1 H2->HR M.K Y0 S1 H2 ->
   s2.heap.get? f=a_ (kla_obj "<lambda>" (X.env.qual++"<lambda>") params body scope 22#7 ((X.mg "__name__").getD .none) c' Ye)->H2 f=b_->17#9<=f->H2 c'=a_ (.frz oc fz)->oc.data=.fields ws->ws[1]?=a_ (.str (q++"<lambda>") t) ->
   aD 1#5 X.A (spliced []) (λvs ZX=>X.K.In ZX.heap/\aD 1#5 X.A (call (.ref f0) ([]++(u1::bZ f::vs))) 10#7 X.xe ZX) X.xe s2:=by
  intro H2 s2 c' f Ye oc ws t I2 kp2 ZT hf Xv hfs' hc Yh hq;have hff:f∉frs _:=λz=>by
   obtain⟨_,o,ho,_⟩:=I1.stack.mem z;exact absurd (ai (az ho) hfs') (bu _)
  rw[<-Xd]at hq;exact xf ⟨I2.kIn,Ls S MK.bl hj hk Xt FF hps LS XO his hb I2 ZT (er.mono (kp1.trans kp2) pr1) XW (spec f) (RU.mono kp2 2#6 _ _ rx1) r1 (aft.mono pr1 (kp1.trans kp2)) hf Xv hff hc Yh hq⟩
 cases ham:codeAmong lp _ with
 | none=>
   refine PySem.W.kla_makeFunction hclo I1.ok.glob hgl Xf C hPh tr ham MK.gP BA λc' Ye h' tk hx WY ZQ hrec WS=>?_;obtain⟨c2,oc,ws,t,e,Yh,hd,hq'⟩:=hrec;cases e;rw[Xd]at hq';obtain⟨kp2,ZT⟩:=ZZ.table hP (I1.hok.fresh WY) hd hq' MK.un;have ZF:=aK WY (aI ZQ);refine fin _ _ c' _ _ oc ws t (GB (ob:=kla_obj "<lambda>" (X.env.qual++"<lambda>") params body scope 22#7 ((X.mg "__name__").getD .none) c' Ye) (tk:=tk) I1 hP hx WY Yh WS) kp2 ZT (av _ rfl) ?_ ZF ?_ hd hq'
   .rw[bB (dW (az WS)),bB (dW ZQ)]
    exact I1.hok.fresh ZF
   .rw[bB (bF hP (I1.hok.fresh WY)).symm,du]
 | some cv=>
   obtain⟨c',oc,ws,t,rfl,P',hd,hq'⟩:=al lp cv ham;exact PySem.W.kla_makeFunctionHit hclo I1.ok.glob hgl Xf C hPh tr ham BA fun Ye h' tk hk ZF=>(fin H1 _ c' _ _ oc ws t (I1.kept (t':=tk) (h':=h'.push (kla_obj "<lambda>" (X.env.qual++"<lambda>") params body scope 22#7 ((X.mg "__name__").getD .none) c' Ye)) (fun b o e=>af _ (hk b o e))) 11#4 ZZ (av _ rfl) (I1.hok.fresh ZF) ZF P' hd hq')
end
end _G
namespace _G
open PySem PySem.Spec _L
open PyProof.Rows hiding St
def Trc(e T:e_)(cls:f_)(h:Heap):Prop:= ∃(oe:Obj) (vs:Array f_) (a0:f_) (oT:Obj) (ts:Array f_),h.get? e=a_ oe/\(oe.cls=cls/\vs[0]?=a_ a0)/\oe.data=.fields vs/\vs[1]?=a_ (.ref T)/\T≠e/\h.get? T=a_ oT/\oT.data=.fields ts/\ts[3]?=a_ .none
def CX1(P:Program)(w:World):CXT:=λouter H s E ev s'=>∃(e T:e_) (cls:f_) (H':Hp),ev=.ref e/\s'.os=s.os/\AllBare s'.gens/\Un (frs outer) [] H H' s.heap s'.heap/\HOk P w H' s'.heap/\Trc e T cls s'.heap/\s.heap.get? e=b_/\s.heap.get? T=b_/\H' e=b_/\H' T=b_/\E cls b_ H'
structure Left(fs:List e_)(e T:e_)(h h':Heap):Prop where
 keep:∀b o,b∉fs->b≠e->b≠T->h.get? b=a_ o->h'.get? b=a_ o
 slot:∀b o,b∈fs->h.get? b=a_ o->∃sl,h'.get? b=a_ { o with slots:=sl }
theorem Left.hok{P:Program}{w:World}{fs:List e_}{e T:e_}{H:Hp}{h h':Heap}(l:Left fs e T h h')(x:HOk P w H h)(hf:∀b∈fs,H b=b_)(he:H e=b_)(hT:H T=b_):HOk P w H h':=λa o q=>by
 refine(x a o q).stay (λb u hb e1=>?_) (λ_ z=>z) λ_ _ z=>z;have key:∃o,H b=a_ o:=by
  grind
 obtain⟨ob,key⟩:=key;exact l.keep b u (λz=>by grind) (λz=>by grind) (λz=>by grind) e1
section
variable {X:Cx}{pins:List (e_×Obj)}{σ:St}{H H':Hp}{s s':g_}
end
end _G
namespace _G
open PySem PySem.Spec _L
open PySem.W (envX kla_fn kla_obj CodeHd tabObj)
open PyProof.Rows hiding St
abbrev RF:=List U->Sto->Option (Nat×Sto)
abbrev VF:=MF->RF->Sto->Res U
def VX(vf:VF)(g:e_)(φ:MF)(ψ:RF):MF:=λus S=>match us with
 |[.obj a]=>if a=g then vf φ ψ S else b_
 |_=>b_
def Wp(cl:Nat->e_)(K:KX)(μ:List e_)(H:Hp)(C:Nat)(S':Sto)(E:XK):Prop:= ∀Y6 H',Pre μ Y6->bD H H'->HR K Y6 S' H'->E (.ref (cl C)) b_ H'
def spX(cl:Nat->e_)(K:KX)(r:RF):Sp:=λvs H _ E=>∃μ S us C S',HR K μ S H/\RUs H μ us vs/\r us S=a_ (C,S')/\Wp cl K μ H C S' E
structure FnX(M:Mo)(cl:Nat->e_)(x:Str)(k:Nat)(ps:List Str)(r:RF):Prop where
 ex:∃(f:e_) (fd:FuncData),M.mg x=a_ (.ref f)/\dI M.K (.ref f)=c_/\Binds M.K fd ps []/\lD M.P M.w M.K M.mg M.base (CX1 M.P M.w) k f fd ps (spX cl M.K r)
structure Wj(M:Mo)(cl:Nat->e_)(f:e_)(k:Nat)(ps:List Str)(r:RF):Prop where
 ex:∃fd:FuncData,((∃(oc:f_) (od:Option e_) (sl:Array (Option f_)),M.base.get? f=a_ ⟨oc,od,.func fd,sl⟩)\/dI M.K (.ref f)=c_)/\Binds M.K fd ps []/\lD M.P M.w M.K M.mg M.base (CX1 M.P M.w) k f fd ps (spX cl M.K r)
structure FnR(M:Mo)(cl:Nat->e_)(x:Str)(k d:Nat)(vf:VF):Prop where
 ex :∃ (f:e_) (fd:FuncData),M.mg x=a_ (.ref f)/\dI M.K (.ref f)=c_/\Binds M.K fd ["call"] [] /\
  ∀(caps:List U) (capv:List V) (cds:List (e_×Obj)) (base:Heap) (g:e_) (j:Nat) (φ:MF) (ψ:RF),iX M.mg base->k<=j->Lam (M.to caps capv cds base) g j [] φ->Wj (M.to caps capv cds base) cl g j [] ψ ->
   lD M.P M.w M.K M.mg base CX0 (j+d) f fd ["call"] (spM (M.K.to caps capv cds) (VX vf g φ ψ))
section
variable {M:Mo}{X:Cx}{k:Nat}{N:List Str}{ns:List (Str×NameKind)}{pins:List (e_×Obj)}{σ:St}{H:Hp}{s:g_}{cl:Nat->e_}{vf:VF}{d:Nat}
end
end _G
namespace _G
open PySem PySem.Spec _L
open PySem.W (envX fnX fnMade CodeHd tabObj)
open PyProof.Rows hiding St
def sml(i:Int):Prop:= -(2^64)<i/\i<2^64
instance(i:Int):Decidable (sml i):=cm _
section
variable {M:Mo}{X:Cx}{k:Nat}{N:List Str}{ns:List (Str×NameKind)}
end
section
variable {M:Mo}{X:Cx}{k:Nat}{N:List Str}{ns:List (Str×NameKind)}{pins:List (e_×Obj)}{σ:St}{H:Hp}{s:g_}
end
end _G
namespace _G
open PySem PySem.Spec _L
open PyProof.Rows hiding St
abbrev NS:=List 7#2
structure Zt where
 R:List (Str×RF)
 F:List (Str×VF)
 cl:Nat->e_
 nm:Str
def z0:Zt:=⟨[],[],fun _=>0,"<lambda>"⟩
def Zt.to(z:Zt)(nm:Str):Zt:=⟨z.R,z.F,z.cl,nm⟩
structure Tb where
 D:List (Str×MF)
 C:List (Str×U)
 L:List (Str×e_×MF)
 H:List (Str×(e_->MF->MF))
 mkr:Bool
 Z:Zt
def Tb.bare(T:Tb):Tb:=⟨T.D,T.C,[],T.H,d_,T.Z⟩
def frees(sc:Scope):List Str:=(sc.names.filter λy=>y.2==.free).map (·.1)
def CW(ps:List Str)(sc:Scope)(ns:NS):Bool:=
 sc.kind==.function && !sc.isCoroutine && !sc.isGenerator&&decide ((ps++frees sc).Nodup)&&ps.all (λp=>sc.names.lookup p==a_ .local||sc.names.lookup p==a_ .cell)&&sc.names.all (λy=>!(y.2==.cell)||sc.names.lookup y.1==a_ .cell)&&(frees sc).all λy=>sc.names.lookup y==a_ .free&&ns.lookup y==a_ .cell
def notStar:Expr->Bool
 |.Starred _ _=>d_
 |_=>c_
def mn:Expr->Bool
 |.ListComp _ _ _ _=>d_
 |.SetComp _ _ _ _=>d_
 |.DictComp _ _ _ _ _=>d_
 |_=>c_
def jU:Expr->Bool
 |.Set _ _ _=>d_
 |_=>c_
def rF:Expr->Bool
 |.Slice _ _ _ _=>d_
 |_=>c_
def notTuple:Expr->Bool
 |.Tuple _ _ _=>d_
 |_=>c_
def z7:List Expr->Bool
 |[.Subscript _ _ _,.Subscript _ _ _]=>c_
 |_=>d_
def baseOk:Expr->Bool
 |.Call (.Name _ _) [] [] _=>d_
 |_=>c_
def plainT:Expr->Bool
 |.Name _ _=>c_
 |.Call _ _ _ _=>c_
 |.Subscript _ _ _=>c_
 |.Constant _ _ _=>c_
 |_=>d_
def dummy(N:List Str):Str:=⟨#[N.length+1]⟩
def Dh(N:List Str)(x:Str):List Str:=(N.map λy=>if y==x then dummy N else y)++[x]
def hG(x:Str):Bool := ! 8#3 && ! 19#7
def slot(N:List Str)(x:Str):Option Nat:=N.findIdx? (· == x)
def QQ(g:Str):Option MF:=
 if g==("len":Str) then a_ cp else if g==("tuple":Str) then a_ bN else if g==("list":Str) then a_ vg
 else if g==("max":Str) then a_ Ah else if g==("min":Str) then a_ y9 else if g==("all":Str) then a_ xN
 else if g==("sorted":Str) then a_ fe    else b_
def lG:List Str := ["len","tuple","list","max","min","range","isinstance","bool","int","str","dict","all","any","sorted","reversed","zip","enumerate","set","sum","repr"]
def Jq(t:Str):Option String:=
 if t==("tuple":Str) then a_ "tuple" else if t==("list":Str) then a_ "list" else if t==("int":Str) then a_ "int"
 else if t==("bool":Str) then a_ "bool" else if t==("str":Str) then a_ "str" else if t==("dict":Str) then a_ "dict" else b_
def RD:Operator->Option F2
 |.Add=>a_ eP
 |.Sub=>a_ vY
 |.Mult=>a_ il
 |.FloorDiv=>a_ oDiv
 |.Mod=>a_ oMod
 |.Pow=>a_ DJ
 |_=>b_
def AV:CmpOp->Option F2
 |.Lt=>a_ oLt
 |.LtE=>a_ oLe
 |.Gt=>a_ oGt
 |.GtE=>a_ oGe
 |.Eq=>a_ oEq
 |.NotEq=>a_ oNe
 |.In=>a_ oIn
 |.NotIn=>a_ mB
 |.Is=>a_ oIs
 |.IsNot=>a_ kA
def AO(i:Nat)(e:ME):MS:=λG S=>match G[i]? with
 | some (a_ (.int x))=>bnd (e G S) λy S1=>match y with
   |.int y=>a_ (.nx,G.set i (a_ (.int (x+y))),S1)
   |_=>b_
 |_=>b_
def sNo:MS:=λ_ _=>b_
def Vb:MS:=λG S=>a_ (.bk,G,S)
def SB:MS:=λG S=>a_ (.ct,G,S)
def Jd(name:Str)(ma:ME)(ZJ:MA):Option ME:=
 if name==("append":Str) then a_ (mML de ma ZJ) else if name==("pop":Str) then a_ (mML nU ma ZJ)
 else if name==("index":Str) then a_ (mMT eZ ma ZJ)
 else if name==("extend":Str) then a_ (mML jA ma ZJ) else b_
set_option genInjectivity false in
structure Rc where
 e:Tb->List Str->NS->Expr->Option ME
 c:Tb->List Str->NS->Str->List Expr->Option ME
 v:Tb->List Str->NS->Str->List Expr->Option ME
 o:Tb->List Str->NS->Option Expr->Option (Option ME)
 t:Tb->List Str->NS->Expr->Option MT
 l:Tb->List Str->NS->Bool->List Expr->Option MT
 f:Tb->List Str->NS->List Expr->Option MT
 a:Tb->List Str->NS->List Expr->Option MA
 i:Tb->List Str->NS->Expr->Option MI
 g:Tb->List Str->NS->Expr->Option MG
 gs:Tb->List Str->NS->List Expr->Option MGs
 s:Tb->List Str->NS->Stmt->Option MS
 b:Tb->List Str->NS->List Stmt->Option MS
section
variable (R:Rc) (T:Tb) (N:List Str) (ns:NS)
def Tv:Const->Option ME
 |.int i=>a_ (mC 4#8)
 |.bool b=>a_ (mC (.bl b))
 |.none=>a_ 8#2
 |.str x=>a_ (mC (.str x))
 |_=>b_
def eUn(a:Expr):UnaryOp->Option ME
 |.USub=>(R.e T N ns a).map (m1 lM)
 |.Not=>(R.e T N ns a).map (m1 uh)
 |_=>b_
def eBo(op:BoolOp)(p:Pos):List Expr->Option ME
 |[]=>b_
 |[a]=>R.e T N ns a
 | a::b::r=>(R.e T N ns a).bind λma=>match op with
   |.And=>(R.e T N ns (.BoolOp .And (b::r) p)).map (jS ma)
   |.Or=>(R.e T N ns (.BoolOp .Or (b::r) p)).map (mOr ma)
def eCm(a:Expr):List CmpOp->List Expr->Option ME
 |[op],[b]=>if jU b then(R.e T N ns a).bind λma=>(R.e T N ns b).bind λmb=>(AV op).map λf=>m2 f ma mb else b_
 |[op,XX],[b,c]=>if jU b&&jU c then(R.e T N ns a).bind λma=>(R.e T N ns b).bind λmb=>(R.e T N ns c).bind λmc=>(AV op).bind λf=>(AV XX).map λg=>mCh f g ma mb mc else b_
 |_,_=>b_
def eSl(a:Expr)(lo hi:Option Expr):Option Expr->Option ME
 |none=>(R.e T N ns a).bind λma=>(R.o T N ns lo).bind λml=>(R.o T N ns hi).map (mSl ma ml)
 |some _=>b_
def eSb(a:Expr):Expr->Option ME
 |.Slice lo hi st _=>eSl R T N ns a lo hi st
 |b=>if rF b then(R.e T N ns a).bind λma=>(R.e T N ns b).map (m2 oIx ma) else b_
def eDi:List (Option Expr)->List Expr->Option ME
 |[],[]=>a_ nN
 |[a_ a],[b]=>(R.e T N ns a).bind λma=>(R.e T N ns b).map (uX ma)
 |_,_=>b_
def eLn(elt it:Expr)(ifs:List Expr)(scope:Scope)(x:Str):Option ME:=
 (R.i T N ns it).bind λmi=>(R.f T (Dh N x) scope.names ifs).bind λmt=>(R.e T (Dh N x) scope.names elt).map (bW mi mt)
def eLt(elt it:Expr)(ifs:List Expr)(scope:Scope):Expr->Option ME
 |.Name x _=>if scope.kind==.function&&oU N (Dh N x) ns scope.names x&&jU it then eLn R T N ns elt it ifs scope x else b_
 |_=>b_
def eLc(elt:Expr)(scope:Scope):List Comprehension->Option ME
 |[c]=>if c.is_async=0 then eLt R T N ns elt c.iter c.ifs scope c.target else b_
 |_=>b_
def eRg(g:Str):List Expr->Option ME
 |[a]=>if g==("list":Str) then (R.a T N ns [a]).map fun m=>iF (iR1 m) else (R.a T N ns [a]).map fun m=>yV (iR1 m)
 |[a,b]=>if g==("list":Str) then (R.a T N ns [a,b]).map fun m=>iF (iR2 m) else b_
 |_=>b_
def eSS:List Expr->Option ME
 |[a]=>(R.a T N ns [a]).map (mFn bSS)
 |_=>b_
def WJ(T:Tb)(g:Str):Bool:=g==("sorted":Str)&&T.Z.nm==("sorted":Str)
def eC1(g:Str):Expr->Option ME
 |.Call (.Name r q) rs [] rp=>if (g==("list":Str)||g==("tuple":Str))&&r==("range":Str) then (if fG ns r then eRg R T N ns g rs else b_) else if g==("sorted":Str)&&r==("set":Str) then (if fG ns r then eSS R T N ns rs else b_) else R.c T N ns g [.Call (.Name r q) rs [] rp]
 |a=>if WJ T g then(R.a T N ns [a]).map (mFn iG) else R.c T N ns g [a]
def eIs(g t:Str)(tp:Pos)(a:Expr):Option ME:=
 if g==("isinstance":Str) then (if fG ns t&&notStar a then (Jq t).bind fun c=>(R.e T N ns a).map (m1 (sH c)) else b_) else R.c T N ns g [a,.Name t tp]
def R8(g:Str)(a:Expr)(p:Arguments)(b:Expr)(sc:Scope):Option ME:=
 if T.mkr&&T.Z.nm==("<lambda>":Str)&&notStar a then (wY p).bind fun ps=>
    if CW ps sc ns then(dJ (λy=>N.findIdx? (· == y)) (frees sc)).bind λis=>(R.e T N ns a).bind λma=>(R.e T.bare (ps++frees sc) sc.names b).bind λml=>(T.H.lookup g).map λF=>l4 F ps.length is ml ma else b_
   else b_
def eC2(g:Str)(a:Expr):Expr->Option ME
 |.Name t tp=>eIs R T N ns g t tp a
 |.Lambda p b sc _=>R8 R T N ns g a p b sc
 |b=>R.c T N ns g [a,b]
def eCf(g:Str):List Expr->Option ME
 |[]=>(T.D.lookup g).map λmf=>mFn mf ah
 |[a]=>eC1 R T N ns g a
 |[a,b]=>eC2 R T N ns g a b
 |a::b::c::r=>R.c T N ns g (a::b::c::r)
def eMe(o:Expr)(name:Str)(p q:Pos):List Expr->Option ME
 |[]=>if baseOk o&&(p.endLine==q.line)&&name==("pop":Str) then (R.e T N ns o).map fun mo=>mML Ar mo ah else b_
 |[a]=>if baseOk o&&(p.endLine==q.line)&&notStar a then(R.e T N ns o).bind λmo=>(R.a T N ns [a]).bind (Jd name mo) else b_
 |_=>b_
def eCa(as:List Expr)(q:Pos):Expr->Option ME
 |.Name g _=>if fG ns g&&hG g then eCf R T N ns g as else R.v T N ns g as
 |.Attribute o name p=>eMe R T N ns o name p q as
 |_=>b_
end
def sE(R:Rc)(T:Tb):List Str->NS->Expr->Option ME:=λN ns e=>match e with
  |.Name x _=>if hG x then(if xy ns x then(slot N x).map ae else if fG ns x then(T.C.lookup x).map mC else b_) else b_
  |.Constant c _ _=>Tv c
  |.BinOp a op b _=>(R.e T N ns a).bind λma=>(R.e T N ns b).bind λmb=>(RD op).map λf=>m2 f ma mb
  |.UnaryOp op a _=>eUn R T N ns a op
  |.BoolOp op vs p=>eBo R T N ns op p vs
  |.Compare a ops bs _=>eCm R T N ns a ops bs
  |.IfExp c a b _=>(R.t T N ns c).bind λmc=>(R.e T N ns a).bind λma=>(R.e T N ns b).map (Bp mc ma)
  |.Subscript a b _=>eSb R T N ns a b
  |.Dict ks vs _=>eDi R T N ns ks vs
  |.Tuple es _ _=>(R.a T N ns es).map iS
  |.List es _=>(R.a T N ns es).map dP
  |.ListComp elt gens scope _=>eLc R T N ns elt scope gens
  |.Call f as kws q=>if kws.isEmpty then eCa R T N ns as q f else b_
  |_=>b_
def sC(R:Rc)(T:Tb):List Str->NS->Str->List Expr->Option ME:=λN ns g as=>(R.a T N ns as).bind λZJ=>match QQ g with
  |some mf=>a_ (mFn mf ZJ)
  |none=>(T.D.lookup g).map λmf=>mFn mf ZJ
def sV(R:Rc)(T:Tb):List Str->NS->Str->List Expr->Option ME:=λN ns g as=>match as with
 |[]=>b_
 |a::as=>if xy ns g&&hG g then(T.L.lookup g).bind λq=>(slot N g).bind λi=>(R.a T N ns (a::as)).map (wq i q.1 q.2) else b_
def sO(R:Rc)(T:Tb):List Str->NS->Option Expr->Option (Option ME):=λN ns o=>match o with
  |none=>a_ b_
  |some e=>(R.e T N ns e).map a_
def sT(R:Rc)(T:Tb):List Str->NS->Expr->Option MT:=λN ns e=>match e with
  |.UnaryOp .Not a _=>(R.t T N ns a).map Dn
  |.BoolOp .And vs _=>R.l T N ns c_ vs
  |.BoolOp .Or vs _=>R.l T N ns d_ vs
  |.Compare a ops bs _=>(eCm R T N ns a ops bs).map cOf
  |e=>if plainT e then(R.e T N ns e).map cOf else b_
def sL(R:Rc)(T:Tb):List Str->NS->Bool->List Expr->Option MT:=λN ns b vs=>match vs with
  |[]=>b_
  |[a]=>R.t T N ns a
  |a::r=>(R.t T N ns a).bind λma=>(R.l T N ns b r).map λmr=>if b then nu ma mr else cOr ma mr
def sF(R:Rc)(T:Tb):List Str->NS->List Expr->Option MT:=λN ns ifs=>match ifs with
  |[]=>a_ cTT
  |[c]=>R.t T N ns c
  |_=>b_
def sA(R:Rc)(T:Tb):List Str->NS->List Expr->Option MA:=λN ns es=>match es with
  |[]=>a_ ah
  |e::r=>if notStar e then(R.e T N ns e).bind λm=>(R.a T N ns r).map (aa m) else b_
def sI(R:Rc)(T:Tb):List Str->NS->Expr->Option MI:=λN ns e=>match e with
  | .Call (.Name g q) as [] p=>
    if g==("range":Str) then
     if fG ns g then match as with
      |[a]=>(R.a T N ns [a]).map iR1
      |[a,b]=>(R.a T N ns [a,b]).map iR2
      |_=>b_
     else b_
    else if g==("reversed":Str) then
     if fG ns g then match as with
      |[a]=>(R.a T N ns [a]).map Bl
      |_=>b_
     else b_
    else(R.e T N ns (.Call (.Name g q) as [] p)).map dh
  |e=>(R.e T N ns e).map dh
def sG(R:Rc)(T:Tb):List Str->NS->Expr->Option MG:=λN ns e=>match e with
  |.Name x _=>if r9 ns x then(slot N x).map gN else b_
  |.Tuple es _ _=>(R.gs T N ns es).map (gTp es.length)
  |_=>b_
def sGs(R:Rc)(T:Tb):List Str->NS->List Expr->Option MGs:=λN ns es=>match es with
  |[]=>a_ tY
  |e::r=>if notStar e then(R.g T N ns e).bind λg=>(R.gs T N ns r).map (h9 g) else b_
def O7(R:Rc)(T:Tb)(N:List Str)(ns:NS)(e:Expr):Option MI:=match e with
  |.Call (.Name g q) [a,b] [] p=>if g==("zip":Str) then (if fG ns g then (R.a T N ns [a,b]).map Cm else b_) else b_
  |_=>b_
def eIt(R:Rc)(T:Tb)(N:List Str)(ns:NS)(e:Expr):Option MI:=match e with
  |e=>O7 R T N ns e
def PX(R:Rc)(T:Tb)(N:List Str)(ns:NS)(y:Str)(elt it:Expr)(ifs:List Expr)(scope:Scope):Expr->Option MS
 | .Name x _=>
   if r9 ns y&&(scope.kind==.function&&oU N (Dh N x) ns scope.names x&&jU it) then
    (slot N y).bind λi=>(R.i T N ns it).bind λmi=>(R.f T (Dh N x) scope.names ifs).bind λmt=>(R.e T (Dh N x) scope.names elt).map λme=>bC i (bW mi mt me)
   else b_
 |_=>b_
def Ua(R:Rc)(T:Tb)(N:List Str)(ns:NS)(y:Str)(elt:Expr)(scope:Scope):List Comprehension->Option MS
 |[c]=>if c.is_async=0 then PX R T N ns y elt c.iter c.ifs scope c.target else b_
 |_=>b_
def P4(R:Rc)(T:Tb)(N:List Str)(ns:NS)(x:Str):Expr->Option MS
 |.ListComp elt gens scope _=>Ua R T N ns x elt scope gens
 |e=>if r9 ns x&&mn e then(slot N x).bind λi=>(R.e T N ns e).map (bC i) else b_
def QE(R:Rc)(T:Tb)(N:List Str)(ns:NS)(e:Expr):Expr->Option MS
  |.Name x _=>P4 R T N ns x e
  |.Subscript a b _=>if mn e&&rF b then(R.e T N ns a).bind λma=>(R.e T N ns b).bind λmb=>(R.e T N ns e).map (gf ma mb) else b_
  |.Tuple ts kt pt=>if mn e&&(notTuple e||z7 ts) then(R.g T N ns 17#0).bind λg=>(R.e T N ns e).map λme=>Io me g else b_
  |_=>b_
def sAs(R:Rc)(T:Tb)(N:List Str)(ns:NS)(e:Expr):List Expr->Option MS
 |[t]=>QE R T N ns e t
 |_=>b_
def sAu(R:Rc)(T:Tb)(N:List Str)(ns:NS)(x:Str)(e:Expr):Operator->Option MS
  |.Add=>if r9 ns x then(slot N x).bind λi=>(R.e T N ns e).map (AO i) else b_
  |_=>b_
def Rr(R:Rc)(T:Tb)(N:List Str)(ns:NS)(op:Operator)(e:Expr):Expr->Option MS
 |.Name x _=>sAu R T N ns x e op
 |_=>b_
def sRt(R:Rc)(T:Tb)(N:List Str)(ns:NS):Option Expr->Option MS
 |some e=>(R.e T N ns e).map cb
 |none=>a_ (cb 8#2)
def sFo(R:Rc)(T:Tb)(N:List Str)(ns:NS)(it:Expr)(body:List Stmt):Expr->Option MS
  |.Name x _=>if r9 ns x&&jU it then(slot N x).bind λi=>(R.i T N ns it).bind λmi=>(R.b T N ns body).map (fj i mi) else b_
  |.Tuple ts kt pt=>if jU it then(R.g T N ns 17#0).bind λg=>(eIt R T N ns it).bind λmi=>(R.b T N ns body).map (tX g mi) else b_
  |_=>b_
def Q1(R:Rc)(T:Tb)(N:List Str)(ns:NS)(t it:Expr)(body:List Stmt):List Stmt->Option MS
 |[]=>sFo R T N ns it body t
 |_=>b_
def sWh(R:Rc)(T:Tb)(N:List Str)(ns:NS)(c:Expr)(body:List Stmt):List Stmt->Option MS
 |[]=>(R.t T N ns c).bind λmc=>(R.b T N ns body).map (mj mc)
 |_=>b_
def sS(R:Rc)(T:Tb):List Str->NS->Stmt->Option MS:=λN ns st=>match st with
  |.Assign ts e _=>sAs R T N ns e ts
  |.AugAssign t op e _=>Rr R T N ns op e t
  |.Expr e _=>if mn e then(R.e T N ns e).map eG else b_
  |.Return o _=>sRt R T N ns o
  |.If c a b _=>(R.t T N ns c).bind λmc=>(R.b T N ns a).bind λma=>(R.b T N ns b).map (sIf mc ma)
  |.For t it body els _=>Q1 R T N ns t it body els
  |.While c body els _=>sWh R T N ns c body els
  |.Pass _=>a_ dw
  |.Break _=>a_ Vb
  |.Raise _ _ _=>a_ sNo
  |.Continue _=>a_ SB
  |_=>b_
section
variable (R:Rc) (T:Tb) (N:List Str) (ns:NS)
end
def sB(R:Rc)(T:Tb):List Str->NS->List Stmt->Option MS:=λN ns sts=>match sts with
  |[]=>a_ dw
  |[s]=>R.s T N ns s
  |s::r=>(R.s T N ns s).bind λms=>(R.b T N ns r).map (aX ms)
def rc:Nat->Rc
 |0=>⟨λ_ _ _ _=>b_,λ_ _ _ _ _=>b_,λ_ _ _ _ _=>b_,λ_ _ _ _=>b_,λ_ _ _ _=>b_,λ_ _ _ _ _=>b_,λ_ _ _ _=>b_,λ_ _ _ _=>b_,λ_ _ _ _=>b_,λ_ _ _ _=>b_,λ_ _ _ _=>b_,λ_ _ _ _=>b_,λ_ _ _ _=>b_⟩
 |n+1=>⟨sE (rc n),sC (rc n),sV (rc n),sO (rc n),sT (rc n),sL (rc n),sF (rc n),sA (rc n),sI (rc n),sG (rc n),sGs (rc n),sS (rc n),sB (rc n)⟩
abbrev cE(T:Tb)(n:Nat):=(rc n).e T
abbrev cC(T:Tb)(n:Nat):=(rc n).c T
abbrev cV(T:Tb)(n:Nat):=(rc n).v T
abbrev cO(T:Tb)(n:Nat):=(rc n).o T
abbrev cT(T:Tb)(n:Nat):=(rc n).t T
abbrev cL(T:Tb)(n:Nat):=(rc n).l T
abbrev cF(T:Tb)(n:Nat):=(rc n).f T
abbrev cA(T:Tb)(n:Nat):=(rc n).a T
abbrev cI(T:Tb)(n:Nat):=(rc n).i T
abbrev cG(T:Tb)(n:Nat):=(rc n).g T
abbrev cGs(T:Tb)(n:Nat):=(rc n).gs T
abbrev cS(T:Tb)(n:Nat):=(rc n).s T
abbrev cB(T:Tb)(n:Nat):=(rc n).b T
section
variable {env:Env}{e a b o:Expr}{es:List Expr}{pos q:Pos}
theorem dH(h:notStar e=c_)(es:List Expr)(env:Env):starEach 2#0 env=(d_,eval e env)::starEach es env:=by
 cases e<;>first |rfl |cases h
theorem Ag(pos:Pos)(env:Env):∀{es:List Expr},es.all notStar=c_->(backTo pos (starEach es env)).any (·.1)=d_
 |[],_=>rfl
 | e::es,h=>by
   rw[cH,aE]at h;rw[dH h.1];show(d_||(backTo _ _).any _)=d_;rw[Ag _ _ h.2];rfl
theorem IC(h:plainT e=c_)(env:Env):∀whole,isTrue e env whole=(do let v <- whole;standAt e.pos;holding [v] (truthy v)):=by
 intro whole;cases e<;>first |rfl |cases h
theorem uw(h:jU e=c_)(env:Env):∀x,foldedSetIterable e env x=pure x:=by
 intro x;cases e<;>first |rfl |cases h
theorem zZ(h:jU b=c_)(op:CmpOp):behindInMarks op b=d_:=by
 cases b<;>first |rfl |cases h
theorem U4(h:rF b=c_):zh b:=by
 intro o i;cases b<;>first |rfl |cases h
theorem qZ(h:baseOk o=c_)(name:Str)(env:Env):attributeBase o name env (eval o env)=eval o env:=by
 cases o with
 | Call f as ks p=>
   cases f with
   | Name x p=>
     cases as with
     | nil=>cases ks with
       |nil=>cases h
       |cons k ks=>rfl
     |cons a as=>rfl
   |_=>rfl
 |_=>rfl
theorem zp(h:mn e=c_)(t:Option Expr)(line:Nat)(env:Env):swapsWith e t line env=pure d_:=by
 cases e<;>first |rfl |cases h
theorem EZ(h:mn e=c_)(t:Expr)(line:Nat)(env:Env):swapsWithSole [t] e line env=pure d_:=zp h _ _ _
theorem zg(h:notStar a=c_)(q:Pos)(env:Env):((backTo q (starEach [a] env)).all (λx => !x.1)&&(backToKw q (keywordEach [] env)).all (λx=>x.1.isSome)
   && decide ([a].length+([]:List Keyword).length+(if ([]:List Keyword).isEmpty then 0 else 1)<30))=c_:=by
 rw[dH h];rfl
theorem Rp(h:rF b=c_)(env:Env): ∀v,assign (.Subscript a b pos) env v=(do
   let ov <- holding [v] (eval a env)
   let iv <- holding [v,ov] (eval b env)
   standAt pos
   holding [v,ov,iv] (setItem ov iv v)
   release [v,ov,iv] []):=by
 intro v;cases b<;>first |rfl |cases h
theorem Bz(h:notStar e=c_)(es:List Expr)(env:Env):assignEach 2#0 env=(d_,assign e env)::assignEach es env:=by
 cases e<;>first |rfl |cases h
theorem EI(env:Env):∀es:List Expr,es.all notStar=c_->(assignEach es env).length=es.length/\(assignEach es env).findIdx? (·.1)=b_
 |[],_=>⟨rfl,rfl⟩
 | e::es,h=>by
   rw[cH,aE]at h;obtain⟨a,b⟩:=EI env es h.2;rw[Bz h.1];exact⟨by simp[a],by rw[List.findIdx?_cons];simp[b]⟩
theorem AI{ts:List Expr}{kt:Nat}{pt:Pos}(h:(notTuple e||z7 ts)=c_):swappedStores [.Tuple ts kt pt] e env=pure b_:=by
 cases e with
 | Tuple vs k2 p2=>
   have h':=h;unfold z7 at h'
   split at h'
   .exact Cp
   .cases h'
 |_=>rfl
theorem En:swappedStores [.Subscript a b pos] e env=pure b_:=by
 cases e<;>rfl
end
theorem iC{T:Tb}:∀{n:Nat}{N:List Str}{ns:NS}{es:List Expr}{m:MA},cA T n N ns es=a_ m->es.all notStar=c_
 |0,_,_,_,_,h=>by simp[cA,rc]at h
 |n+1,_,_,[],_,h=>rfl
 | n+1,N,ns,e::es,m,h=>by
   simp only[cA,rc,sA]at h
   split at h
   .rename_i hs
    cases e1:(rc n).e T N ns e with
    |none=>simp_all
    | some me=>
      cases e2:(rc n).a T N ns es with
      |none=>grind
      |some mr=>rw[cH,hs,iC e2];rfl
   grind
theorem Bh{T:Tb}:∀{n:Nat}{N:List Str}{ns:NS}{es:List Expr}{m:MGs},cGs T n N ns es=a_ m->es.all notStar=c_
 |0,_,_,_,_,h=>by simp[cGs,rc]at h
 |n+1,_,_,[],_,h=>rfl
 | n+1,N,ns,e::es,m,h=>by
   simp only[cGs,rc,sGs]at h
   split at h
   .rename_i hs
    cases e1:(rc n).g T N ns e with
    |none=>simp_all
    | some me=>
      cases e2:(rc n).gs T N ns es with
      |none=>grind
      |some mr=>rw[cH,hs,Bh e2];rfl
   grind
variable{N:List Str}{x:Str}{i:Nat}
theorem slot_get(h:slot N x=a_ i):N[i]?=a_ x:=by
 obtain⟨h1,h2,_⟩:=eD.mp h
 simp_all
theorem i7 (h:hG x=c_):8#3=d_/\19#7=d_:=by
 unfold hG at h
 simp_all
theorem bind_eq{α β:Type}{o:Option α}{f:α->Option β}{b:β}(h:o.bind f=a_ b):∃a,o=a_ a/\f a=a_ b:=by
 cases o<;>simp_all
theorem map_eq{α β:Type}{o:Option α}{f:α->β}{b:β}(h:o.map f=a_ b):∃a,o=a_ a/\f a=b:=by
 simp_all
section
variable {M:Mo}{X:Cx}{k:Nat}{N:List Str}{ns:NS}{a b c e:Expr}{es:List Expr}{ma mb mc:ME}{mt:MT}{ZJ:MA}{pos p1 p2:Pos}{x:Str}
theorem RY(S:Sc M X k N ns)(hg:fG ns "list"=c_)(hm:M.mg "list"=b_)(ha:PA X 2#0 3#2)(he:starEach 2#0 X.env=17#7::starEach es X.env)(ZL:(backTo pos 15#6).any (·.1)=d_) :
  PE X (.Call (.Name "list" p1) 2#0 [] pos) (tM M.K (mFn vg ZJ)):=
 PE.con (lE (S.hK▸zE) 5#7 7#0 lZ ha 0#2 0#2 he ZL) λ_ _ _ h=>zb MM h
theorem UP(S:Sc M X k N ns)(hg:fG ns "all"=c_)(hm:M.mg "all"=b_)(ha:PA X 2#0 3#2)(he:starEach 2#0 X.env=17#7::starEach es X.env)(ZL:(backTo pos 15#6).any (·.1)=d_) :
  PE X (.Call (.Name "all" p1) 2#0 [] pos) (tM M.K (mFn xN ZJ)):=
 PE.con (ko (S.hK▸GJ S.calm) 5#7 7#0 PyProof.Rows.boot_all ha 0#2 0#2 he ZL) λ_ _ _ h=>zb Pd h
theorem RN{ts:List Expr}{kt:Nat}{pt:Pos}{a b:Expr}(S:Sc M X k N ns)(hg:fG ns "zip"=c_)(hm:M.mg "zip"=b_)(ha:PA X [a,b] 3#2)(hs:starEach [a,b] X.env=15#0::starEach [b] X.env)(Zv:starEach [b] X.env=[15#4]):PI X 17#0 (.Call (.Name "zip" p1) [a,b] [] pos) (FA M.K 3#2):=
 S.hK▸Qu 5#7 (by rw[S.hm];exact hm) ha hs Zv
theorem Jj(S:Sc M X k N ns)(hg:fG ns "sorted"=c_)(hm:M.mg "sorted"=b_)(ha:PA X 2#0 3#2)(he:starEach 2#0 X.env=17#7::starEach es X.env)(ZL:(backTo pos 15#6).any (·.1)=d_) :
  PE X (.Call (.Name "sorted" p1) 2#0 [] pos) (tM M.K (mFn fe ZJ)):=
 PE.con (ko (S.hK▸tI S.calm) 5#7 7#0 k9 ha 0#2 0#2 he ZL) λ_ _ _ h=>zb yQ h
theorem M3(S:Sc M X k N ns)(hg:fG ns "sorted"=c_)(hm:M.mg "sorted"=b_)(ha:PA X 2#0 3#2)(he:starEach 2#0 X.env=17#7::starEach es X.env)(ZL:(backTo pos 15#6).any (·.1)=d_) :
  PE X (.Call (.Name "sorted" p1) 2#0 [] pos) (tM M.K (mFn iG ZJ)):=
 PE.con (ko (S.hK▸λpins s σ H xs us Q I rs h=>h.elim (Eo pins s σ H xs us Q I rs) (tI S.calm pins s σ H xs us Q I rs)) 5#7 (by rw[S.hm];exact hm) k9 ha 0#2 0#2 he ZL) λ_ _ _ h=>zb JX h
variable{as:Expr}{q rp:Pos}
theorem Wy (S:Sc M X k N ns)(hg:fG ns "sorted"=c_)(hm:M.mg "sorted"=b_)(Yb:fG ns "set"=c_)(Zl:M.mg "set"=b_)(ha:PA X [as] 3#2)(hs:notStar as=c_) :
  PE X (.Call (.Name "sorted" p1) [.Call (.Name "set" q) [as] [] rp] [] pos) (tM M.K (mFn bSS ZJ)):=
 PE.con (S.hK▸Sh S.calm 5#7 (by rw[S.hm];exact hm) (S.gl Yb) (by rw[S.hm];exact Zl) ha (by rw[dH hs])) λ_ _ _ h=>zb Va h
theorem J9(S:Sc M X k N ns)(ho:PE X b 7#3)(ha:PA X [a] 3#2)(hb:baseOk b=c_)(hs:notStar a=c_)(hl:(p1.endLine==pos.line)=c_):PE X (.Call (.Attribute b "extend" p1) [a] [] pos) (tM M.K (mML jA mb ZJ)):=PE.con (HV jc PySem.F.slot_list_extend PySem.F.type_list_extend Nr ho ha (qZ hb _ _) (zg hs _ _) hl (dH hs _ _) rfl) fun _ _ _ h=>S.hK▸O2 G7 h
theorem Kj{op:CmpOp}{f:F2}(S:Sc M X k N ns)(h:AV op=a_ f):∃r,OpR X (compareOp op) r/\OpU M.K r f:=by
 cases op<;>simp only[AV,lg,reduceCtorEq]at h<;>subst h
 .exact⟨_,S.hK▸QV S.room.units,VI⟩
 .exact⟨_,S.hK▸Pf S.room.units,Vm⟩
 .exact⟨_,Uu,zj⟩
 .exact⟨_,UO,zj⟩
 .exact⟨_,Tg,zj⟩
 .exact⟨_,Sz,zj⟩
 .exact⟨_,QG,Uv⟩
 .exact⟨_,GM,Kl⟩
 .exact⟨_,S.hK▸QR (by have:=S.room.units;lia),Sx⟩
 .exact⟨_,S.hK▸G6 (by have:=S.room.units;lia),Ig⟩
theorem O5{N':List Str}{scope:Scope}{px py Ym:Pos}{iter elt:Expr}{ifs:List Expr}{wi:TI}{mi:MI}{y:Str}(S:Sc M X k N ns)(i:Nat)(hy:N[i]?=a_ y)(ho:r9 ns y=c_)(hk:scope.kind=.function)(ok:oU N N' ns scope.names x=c_)(hi:PI X (.Name x px) iter wi)
  (ht:∀X',Sc M X' k N' 6#8->PTs X' ifs 7#9) (he:∀X',Sc M X' k N' 6#8->PE X' elt (tM M.K mc)) (hr:∀σ H Q,tM M.K (bW mi mt mc) σ H Q->qI wi 7#9 (tM M.K mc) σ H Q)
  (hs:∀x,foldedSetIterable iter X.env x=pure x):PS X (.Assign [.Name y py] 17#1 Ym) (tMS M.K (bC i (bW mi mt mc))):=by
 have C:=ym S hk ok;have e:∃b,swapsWith 17#1 (a_ (.Name y py)) Ym.line X.env=pure b:=⟨_,rfl⟩;obtain⟨b,e⟩:=e;cases b with
 |true=>exact PS.con (Ly 20#1 (by rw[S.hN];omega) (S.lo ho).1 S.calm C hi (λZX ZS fp=>ht _ (z8 S C _ _ fp)) (λZX ZS fp=>he _ (z8 S C _ _ fp)) e hs (S.lo ho).2) λ_ _ _ h=>hr _ _ _ (OV h)
 |false=>exact OL S i hy ho (JQ S hk ok hi ht he hr hs) e
theorem QL:PE X (.Dict [] [] pos) (tM M.K nN):=PE.con IA λ_ _ _ h=>Po h
theorem QD(ha:PE X a 3#3)(hb:PE X b 7#3):PE X (.Dict [a_ a] [b] pos) (tM M.K (uX ma mb)):=
 PE.con (Nf (KQ ha hb LZ) rfl rfl 0#3 0#3) λ_ _ _ h=>Ro h
theorem Jl (S:Sc M X k N ns)(hg:fG ns "list"=c_)(hm:M.mg "list"=b_)(Yb:fG ns "range"=c_)(Zl:M.mg "range"=b_)(ha:PA X [as] 3#2)(hs:notStar as=c_) :
  PE X (.Call (.Name "list" p1) [.Call (.Name "range" q) [as] [] rp] [] pos) (tM M.K (iF (iR1 ZJ))):=
 PE.con (lE (pJ S.calm) 5#7 7#0 lZ (oV (Fw (S.gl Yb) 7#0 ha (by rw[dH hs];rfl)) vD) 0#2 0#2) λ_ _ _ h=>Kn h
theorem Ii{bs:Expr}(S:Sc M X k N ns)(hg:fG ns "list"=c_)(hm:M.mg "list"=b_)(Yb:fG ns "range"=c_)(Zl:M.mg "range"=b_)(ha:PA X [as,bs] 3#2)(hs:notStar as=c_)(Zv:notStar bs=c_) :
  PE X (.Call (.Name "list" p1) [.Call (.Name "range" q) [as,bs] [] rp] [] pos) (tM M.K (iF (iR2 ZJ))):=
 PE.con (lE (pJ S.calm) 5#7 7#0 lZ (oV (LI (S.gl Yb) 7#0 ha (by rw[dH hs,dH Zv];rfl) (by rw[dH Zv];rfl)) vD) 0#2 0#2) λ_ _ _ h=>Kf h
theorem MD (S:Sc M X k N ns)(hg:fG ns "tuple"=c_)(hm:M.mg "tuple"=b_)(Yb:fG ns "range"=c_)(Zl:M.mg "range"=b_)(ha:PA X [as] 3#2)(hs:notStar as=c_) :
  PE X (.Call (.Name "tuple" p1) [.Call (.Name "range" q) [as] [] rp] [] pos) (tM M.K (yV (iR1 ZJ))):=
 PE.con (lE (xb S.calm) 5#7 7#0 xV (oV (Fw (S.gl Yb) 7#0 ha (by rw[dH hs];rfl)) vD) 0#2 0#2) λ_ _ _ h=>LB h
theorem SM{t:Str}{c:String}(S:Sc M X k N ns)(hg:fG ns "isinstance"=c_)(hm:M.mg "isinstance"=b_)(Yb:fG ns t=c_)(Zl:M.mg t=b_)(hb:bootBuiltins t=a_ (.type c))(hc:c∈mz)(hn:t≠"__name__")(hd:(t==("__debug__":Str))=d_)
  (ha:PE X a 3#3) (hs:notStar a=c_):PE X (.Call (.Name "isinstance" p1) [a,.Name t p2] [] pos) (tM M.K (m1 (sH c) ma)):=by
 refine PE.con (ko Ku 5#7 7#0 PyProof.Rows.boot_isinstance (oV ha (oV (LJ (v:= .ty c) (S.gl Yb) 7#0 hb rfl hn hd) vD) (dH hs _ _)) 0#2 0#2 (dH hs _ _) rfl) λ_ _ _ h=>?_;rw[S.hK];exact Ue hc h
theorem NQ(S:Sc M X k N ns)(ho:PE X b 7#3)(ha:PA X [a] 3#2)(hb:baseOk b=c_)(hs:notStar a=c_)(hl:(p1.endLine==pos.line)=c_):PE X (.Call (.Attribute b "index" p1) [a] [] pos) (tM M.K (mMT eZ mb ZJ)):=by
 refine PE.con ?_ λ_ _ _ h=>L4 h;rw[<-S.hK];exact JR S.room.units ho ha (qZ hb _ _) (zg hs _ _) hl (dH hs _ _) rfl
theorem O3(S:Sc M X k N ns)(ho:PE X b 7#3)(hb:baseOk b=c_)(hl:(p1.endLine==pos.line)=c_):PE X (.Call (.Attribute b "pop" p1) [] [] pos) (tM M.K (mML Ar mb ah)):=PE.con (Pq jc FS FT QS ho (qZ hb _ _) hl) fun _ _ _ h=>S.hK▸Td P6 h
section
variable {X:Cx}
end
theorem Wg{st:Stmt}:PS X st (tMS M.K sNo):=by
 intro pins s σ H D I h;obtain⟨μ,S,G,r,hr,er,e,kk⟩:=h;cases e
theorem TL{K:KX}{D:Ends}{σ:St}{H:Hp}{m:ME}(h:tMS K (AO i m) D σ H):Vh i (tM K m) (ipI λi j=>i+j) D σ H:=by
 obtain⟨μ,S,G,r,hr,er,e,kk⟩:=h;unfold AO at e
 split at e
 .rename_i x q
  obtain⟨y,S1,e1,e⟩:=be e;obtain⟨v,hv,rv⟩:=er.get i _ q;refine⟨v,hv,μ,S,G,y,S1,hr,er,e1,λY0 vy H1 p1 k1 ZZ ry=>?_⟩
  split at e
  .rename_i z
   cases e;exact⟨x,z,dN rv,dN ry,kk Y0 _ H1 p1 k1 ZZ ((er.mono k1 p1).set gm i)⟩
  .cases e
 .cases e
theorem Ur(S:Sc M X k N ns)(i:Nat)(hi:N[i]?=a_ x)(ho:r9 ns x=c_)(he:PE X e 3#3):PS X (.AugAssign (.Name x p1) .Add e pos) (tMS M.K (AO i ma)):=
 PS.con (Pk 20#1 (by rw[S.hN];exact hi) (S.lo ho).1 he OW (S.lo ho).2) λ_ _ _ h=>TL h
theorem VM:PS X (.Break pos) (tMS M.K Vb):=PS.con Jf λD σ H h=>by
 obtain⟨μ,S,G,r,hr,er,e,kk⟩:=h;cases e;exact kk μ σ H 2#6 11#4 hr er
theorem U6:PS X (.Continue pos) (tMS M.K SB):=PS.con AH λD σ H h=>by
 obtain⟨μ,S,G,r,hr,er,e,kk⟩:=h;cases e;exact kk μ σ H 2#6 11#4 hr er
theorem Qb:PS X (.Pass pos) (tMS M.K dw):=PS.con Mw λD σ H h=>Jc h
theorem Qw:PS X (.Return b_ pos) (tMS M.K (cb 8#2)):=PS.con LD λD σ H h=>by
 obtain⟨μ,S,G,r,hr,er,e,kk⟩:=h;cases e;exact kk μ _ H 2#6 11#4 hr ql
theorem PN(ha:PE X a 3#3)(hb:PE X (.BoolOp .And (b::es) pos) 7#3):PE X (.BoolOp .And (a::b::es) pos) (tM M.K (jS ma mb)):=PE.con (PY ha hb) λ_ _ _ h=>RG h
theorem So(ha:PE X a 3#3)(hb:PE X (.BoolOp .Or (b::es) pos) 7#3):PE X (.BoolOp .Or (a::b::es) pos) (tM M.K (mOr ma mb)):=PE.con (U3 ha hb) λ_ _ _ h=>Vr h
theorem Qv(ha:PE X a 3#3):PE X (.UnaryOp .Not a pos) (tM M.K (m1 uh ma)):=PE.con (P9 ha) λ_ _ _ h=>RZ h
end
section
variable {M:Mo}{cl:Nat->e_}{k n fu:Nat}{N:List Str}{ns:NS}{X:Cx}{E:XK}
end
structure TOk(M:Mo)(T:Tb)(k:Nat):Prop where
 D:∀x mf,T.D.lookup x=a_ mf->∃k' ps,k'<=k/\Fn M x k' ps mf
 C:∀x u,T.C.lookup x=a_ u->∃g v,M.mg x=a_ g/\RelV v g /\ ∀H μ,RU H μ u v
 B:∀x∈lG,M.mg x=b_
 L:∀x q,T.L.lookup x=a_ q->∃k' ps,k'<=k/\Lam M q.1 k' ps q.2
 mkr:T.mkr=c_->∃c q P,M.mkr=a_ (c,q)/\Mkr M c P (q++T.Z.nm)
 Z:∀x r,T.Z.R.lookup x=a_ r->∃k' ps,k'<=k/\FnX M T.Z.cl x k' ps r
def GOk(M:Mo)(T:Tb)(k:Nat):Prop:=TOk M T k/\(T.mkr=c_->∃j,j+4<=k/\(∀x F,T.H.lookup x=a_ F->∃k' ps,k'<=j+1/\FnC M x k' ps F)/\(∀x vf,T.Z.F.lookup x=a_ vf->∃k' d,d<=3/\k'<=j+1/\FnR M T.Z.cl x k' d vf) /\ ∀caps capv cds base,iX M.mg base->TOk 15#2 T.bare j)
def IOk(M:Mo)(X:Cx)(tg it:Expr)(mi:MI):Prop:= ∃wi,PI X tg it wi /\
 (∀i ms D σ H,tMS M.K (fj i mi ms) D σ H->xB wi (j6 i) (tMS M.K ms) D σ H) /\
 (∀mt mc σ H Q,tM M.K (bW mi mt mc) σ H Q->qI wi 7#9 (tM M.K mc) σ H Q)
structure Snd(M:Mo)(T:Tb)(k n:Nat):Prop where
 e:∀N ns e m,cE T n N ns e=a_ m->∀X,Sc M X k N ns->PE X e (tM M.K m)
 c:∀N ns g as m,cC T n N ns g as=a_ m->fG ns g=c_->hG g=c_->∀a r,as=a::r->∀X p1 pos,Sc M X k N ns->PE X (.Call (.Name g p1) as [] pos) (tM M.K m)
 v:∀N ns g as m,cV T n N ns g as=a_ m->∀a r,as=a::r->∀X p1 pos,Sc M X k N ns->PE X (.Call (.Name g p1) as [] pos) (tM M.K m)
 v0:∀N ns g m,cV T n N ns g []≠a_ m
 o:∀N ns o m,cO T n N ns o=a_ m->∀X,Sc M X k N ns->nq M X o m
 t:∀N ns e m,cT T n N ns e=a_ m->∀X,Sc M X k N ns->PT X e (tMT M.K m)
 l:∀N ns b vs m pos,cL T n N ns b vs=a_ m->∀X,Sc M X k N ns->PW X (.BoolOp (if b then .And else .Or) vs pos) (tMT M.K m)
 f:∀N ns vs m,cF T n N ns vs=a_ m->∀X,Sc M X k N ns->PTs X vs (tMT M.K m)
 a:∀N ns es m,cA T n N ns es=a_ m->∀X,Sc M X k N ns->PA X es (tMA M.K m)
 i:∀N ns tg it m,cI T n N ns it=a_ m->∀X,Sc M X k N ns->IOk M X tg it m
 g:∀N ns e m,cG T n N ns e=a_ m->∀X,Sc M X k N ns->PG X e (tG M.K m)
 gs:∀N ns es m,cGs T n N ns es=a_ m->∀X,Sc M X k N ns->PGs X es (tGs M.K m)
 s:∀N ns st m,cS T n N ns st=a_ m->∀X,Sc M X k N ns->PS X st (tMS M.K m)
 b:∀N ns sts m,cB T n N ns sts=a_ m->∀X,Sc M X k N ns->PSs X sts (tMS M.K m)
theorem gG{α:Type}{x:α}{P:Prop}(h:(b_:Option α)=a_ x):P:=by cases h
theorem V1(M:Mo)(T:Tb)(k:Nat):Snd M T k 0:=
 ⟨λ_ _ _ _ h=>gG h,λ_ _ _ _ _ h=>gG h,λ_ _ _ _ _ h=>gG h,λ_ _ _ _ h=>gG h,λ_ _ _ _ h=>gG h,λ_ _ _ _ h=>gG h,λ_ _ _ _ _ _ h=>gG h,λ_ _ _ _ h=>gG h,λ_ _ _ _ h=>gG h,λ_ _ _ _ _ h=>gG h,λ_ _ _ _ h=>gG h,λ_ _ _ _ h=>gG h,λ_ _ _ _ h=>gG h,λ_ _ _ _ h=>gG h⟩
section
variable {M:Mo}{T:Tb}{k n:Nat}
variable{ns:NS}{X:Cx}{a:Expr}{ma mb:ME}{f:F2}{pos:Pos}
theorem R4{b:Expr}{op:Operator}(h:RD op=a_ f)(S:Sc M X k N ns)(ha:PE X a 3#3)(hb:PE X b 7#3):PE X (.BinOp a op b pos) (tM M.K (m2 f ma mb)):=by
 cases op<;>simp only[RD,lg,reduceCtorEq]at h<;>subst h
 .exact UD S ha hb
 .exact UG ha hb
 .exact Tt S ha hb
 .exact Uj ha hb
 .exact UQ ha hb
 .exact Vj ha hb
variable{op:CmpOp}
theorem Qc{b:Expr}(h:AV op=a_ f)(S:Sc M X k N ns)(ha:PE X a 3#3)(hb:PE X b 7#3)(hs:jU b=c_):
  PE X (.Compare a [op] [b] pos) (tM M.K (m2 f ma mb))/\PT X (.Compare a [op] [b] pos) (tMT M.K (cOf (m2 f ma mb))):=by
 obtain⟨r,ho,ou⟩:=Kj S h;exact⟨PE.con (Mn ho ha hb (zZ hs _)) λ_ _ _ h=>za ou h,PT.con (NM ho ha hb (zZ hs _)) λ_ _ _ h=>DS (λ_ q=>za ou q) h⟩
theorem Ji{b c:Expr}{mc:ME}{XX:CmpOp}{g:F2}(h:AV op=a_ f)(h':AV XX=a_ g)(S:Sc M X k N ns)(ha:PE X a 3#3)(hb:PE X b 7#3)(hc:PE X c (tM M.K mc))(hs:jU c=c_):
  PE X 22#8 (tM M.K (mCh f g ma mb mc))/\PT X 22#8 (tMT M.K (cOf (mCh f g ma mb mc))):=by
 obtain⟨r,ho,ou⟩:=Kj S h;obtain⟨r',YX,ou'⟩:=Kj S h';have hm:lastMarks [op,XX] [b,c]=d_:=zZ hs _;exact⟨PE.con (JI ho YX ha hb hc hm) λ_ _ _ h=>E1 ou ou' h,PT.con (Iv ho YX ha hb hc hm) λ_ _ _ h=>DS (λ_ q=>E1 ou ou' q) h⟩
theorem OX{t:Str}{c:String}(h:Jq t=a_ c):bootBuiltins t=a_ (.type c)/\c∈mz/\t≠"__name__"/\(t==("__debug__":Str))=d_/\t∈lG:=by
 unfold Jq at h
 repeat' split at h
 all_goals first
  | cases h
    done
  | (rename_i q
     cases h;rw[eq_of_beq q]
     exact⟨by decide +kernel,by decide,by decide +kernel,by decide +kernel,by decide +kernel⟩)
variable{ZJ:MA}
theorem LG{g:Str}{e:Expr}{es:List Expr}{p1:Pos}{mf:MF}(O:TOk M T k)(h:QQ g=a_ mf)(hg:fG ns g=c_)(S:Sc M X k N ns)(ha:PA X 2#0 3#2)(hs:(e::es).all notStar=c_):
  PE X (.Call (.Name g p1) 2#0 [] pos) (tM M.K (mFn mf ZJ)):=by
 rw[cH,aE]at hs;have he:=dH hs.1 es X.env;have hp:=Ag pos X.env hs.2;unfold QQ at h
 repeat' split at h
 all_goals first
  |(cases h;done)
  | (rename_i q
     cases h;rw[eq_of_beq q]at hg ⊢
     first
      |exact J4 S hg (O.B _ (by decide +kernel)) ha he hp
      |exact Mi S hg (O.B _ (by decide +kernel)) ha he hp
      |exact RY S hg (O.B _ (by decide +kernel)) ha he hp
      |exact Um S hg (O.B _ (by decide +kernel)) ha he hp
      |exact Uh S hg (O.B _ (by decide +kernel)) ha he hp
      |exact UP S hg (O.B _ (by decide +kernel)) ha he hp
      | exact Jj S hg (O.B _ (by decide +kernel)) ha he hp)
theorem Mx{name:Str}{o:Expr}{mo m:ME}{p1:Pos}(h:Jd name mo ZJ=a_ m)(S:Sc M X k N ns)(ho:PE X o (tM M.K mo))(ha:PA X [a] 3#2)(hb:baseOk o=c_)(hl:(p1.endLine==pos.line)=c_)(hs:notStar a=c_):
  PE X (.Call (.Attribute o name p1) [a] [] pos) 8#9:=by
 unfold Jd at h
 repeat' split at h
 all_goals first
  |(cases h;done)
  | (rename_i q
     cases h;rw[eq_of_beq q]
     first
      |exact Kt S ho ha (qZ hb _ _) (zg hs _ _) hl (dH hs _ _) rfl
      |exact Ny S ho ha (qZ hb _ _) (zg hs _ _) hl (dH hs _ _) rfl
      |exact NQ S ho ha hb hs hl
      | exact J9 S ho ha hb hs hl)
end
section
variable {M:Mo}{T:Tb}{k n:Nat}
variable{ps:List Str}{ns:NS}
theorem BQ{sc:Scope}(h:CW ps sc ns=c_):nG ps (frees sc) sc /\ ∀y∈frees sc,ns.lookup y=a_ .cell/\(y,br)∈sc.names:=by
 unfold CW at h;simp only[aE,dc,Bool.not_eq_true',decide_eq_true_eq]at h;obtain⟨⟨⟨⟨⟨⟨h1,h2⟩,h3⟩,h4⟩,h5⟩,h6⟩,h7⟩:=h;have fm:∀y∈frees sc,(y,br)∈sc.names:=λy hy=>by
  obtain⟨z,hz,e⟩:=aw.mp hy
  grind
 refine⟨⟨eq_of_beq h1,h2,h3,h4,λp hp=>?_,λx hx e=>?_,λy hy e=>aw.mpr ⟨y,bw.mpr ⟨hy,by rw[e];rfl⟩,rfl⟩,λy hy=>eq_of_beq (h7 y hy).1⟩,λy hy=>⟨eq_of_beq (h7 y hy).2,fm y hy⟩⟩
 .grind
 .have:=h6 x hx
  simp_all
theorem GOk.of(O:TOk M T k)(h:T.mkr=d_):GOk M T k:=⟨O,λz=>by grind⟩
theorem UT(O:TOk M T k)(R:Snd M T k n):∀N ns g as m,cV T (n+1) N ns g as=a_ m->∀a r,as=a::r->∀X p1 pos,Sc M X k N ns->PE X (.Call (.Name g p1) as [] pos) 8#9:=by
 intro N ns g as m h a r e X p1 pos S;subst e;simp only[cV,rc,sV]at h
 split at h
 .rename_i hs
  rw[aE]at hs;obtain⟨q,e1,h⟩:=bind_eq h;obtain⟨i,e2,h⟩:=bind_eq h;obtain⟨ZJ,e3,rfl⟩:=map_eq h;obtain⟨k',ps,hk,F⟩:=O.L _ _ e1;have ZW:=iC e3;rw[cH,aE]at ZW;obtain⟨n1,n2⟩:=i7 hs.2;exact Mr S F hk i (slot_get e2) hs.1 (R.a _ _ _ _ e3 X S) n1 n2 (dH ZW.1 _ _) (Ag _ _ ZW.2)
 grind
section
variable {N:List Str}{ns:NS}{X:Cx}{m:ME}
variable{pos:Pos}
theorem Ms{c:Const}{j}(h:Tv c=a_ m):PE X (.Constant c j pos) 8#9:=by
 cases c<;>first |grind |skip
 all_goals cases h
 all_goals first |exact Up |exact VU |exact Ug |exact PE.con Py λ_ _ _ q=>r_c (λ_ _=>by simp[RU]) q
variable{a:Expr}
theorem RR(R:Snd M T k n){op:UnaryOp}(h:eUn (rc n) T N ns a op=a_ m)(S:Sc M X k N ns):PE X (.UnaryOp op a pos) 8#9:=by
 cases op<;>first | (cases h) |skip
 all_goals obtain⟨ma,e1,rfl⟩:=map_eq h
 all_goals first |exact UJ (R.e _ _ _ _ e1 X S) |exact Qv (R.e _ _ _ _ e1 X S)
variable{vs:List Expr}
theorem P0(R:Snd M T k n){op:BoolOp}{p:Pos}(h:eBo (rc n) T N ns op p vs=a_ m)(S:Sc M X k N ns):PE X (.BoolOp op vs p) 8#9:=by
 unfold eBo at h
 split at h
 .cases h
 .exact RE (R.e _ _ _ _ h X S)
 .obtain⟨ma,e1,h⟩:=bind_eq h
  cases op
  .obtain⟨mb,e2,rfl⟩:=map_eq h
   exact PN 8#6 8#5
  .obtain⟨mb,e2,rfl⟩:=map_eq h
   exact So 8#6 8#5
theorem JU(R:Snd M T k n){ops:List CmpOp}{bs:List Expr}(h:eCm (rc n) T N ns a ops bs=a_ m)(S:Sc M X k N ns):PE X (.Compare a ops bs pos) 8#9/\PT X (.Compare a ops bs pos) (tMT M.K (cOf m)):=by
 unfold eCm at h
 split at h
 .split at h
  .rename_i hs
   obtain⟨ma,e1,h⟩:=bind_eq h;obtain⟨mb,e2,h⟩:=bind_eq h;obtain⟨f,e3,rfl⟩:=map_eq h;exact Qc e3 S 8#6 8#5 hs
  .cases h
 .split at h
  .rename_i hs
   rw[aE]at hs;obtain⟨ma,e1,h⟩:=bind_eq h;obtain⟨mb,e2,h⟩:=bind_eq h;obtain⟨mc,e3,h⟩:=bind_eq h;obtain⟨f,e4,h⟩:=bind_eq h;obtain⟨g,e5,rfl⟩:=map_eq h;exact Ji e4 e5 S 8#6 8#5 (R.e _ _ _ _ e3 X S) hs.2
  .cases h
 .cases h
theorem Pn(R:Snd M T k n){b:Expr}(h:eSb (rc n) T N ns a b=a_ m)(S:Sc M X k N ns):PE X (.Subscript a b pos) 8#9:=by
 unfold eSb at h
 split at h
 .rename_i lo hi st p
  cases st with
  | none=>
    obtain⟨ma,e1,h⟩:=bind_eq h;obtain⟨ml,e2,h⟩:=bind_eq h;obtain⟨mh,e3,rfl⟩:=map_eq h;exact My S 8#6 (R.o _ _ _ _ e2 X S) (R.o _ _ _ _ e3 X S)
  | some s=>
    cases h
 .split at h
  .rename_i hs
   obtain⟨ma,e1,h⟩:=bind_eq h;obtain⟨mb,e2,rfl⟩:=map_eq h;exact Wx S 8#6 8#5 (U4 hs)
  .cases h
theorem Qp(R:Snd M T k n){ks:List (Option Expr)}(h:eDi (rc n) T N ns ks vs=a_ m)(S:Sc M X k N ns):PE X (.Dict ks vs pos) 8#9:=by
 unfold eDi at h
 split at h
 .cases h;exact QL
 .obtain⟨ma,e1,h⟩:=bind_eq h
  obtain⟨mb,e2,rfl⟩:=map_eq h;exact QD 8#6 8#5
 .cases h
variable{elt:Expr}{scope:Scope}
theorem PP(O:TOk M T k)(R:Snd M T k n){it:Expr}{ifs:List Expr}{px:Pos}(h:eLn (rc n) T N ns elt it ifs scope x=a_ m)(S:Sc M X k N ns)(hk:scope.kind=.function)(ok:oU N (Dh N x) ns scope.names x=c_)(hs:jU it=c_):
  PE X (.ListComp elt [⟨.Name x px,it,ifs,0⟩] scope pos) 8#9:=by
 unfold eLn at h;obtain⟨mi,e1,h⟩:=bind_eq h;obtain⟨mt,e2,h⟩:=bind_eq h;obtain⟨mc,e3,rfl⟩:=map_eq h;obtain⟨wi,h1,_,h3⟩:=R.i _ _ _ _ _ e1 X S;exact JQ S hk ok h1 (λX' S'=>R.f _ _ _ _ e2 X' S') (λX' S'=>R.e _ _ _ _ e3 X' S') (h3 mt mc) (uw hs _)
theorem Qt(O:TOk M T k)(R:Snd M T k n){gens:List Comprehension}(h:eLc (rc n) T N ns elt scope gens=a_ m)(S:Sc M X k N ns):PE X (.ListComp elt gens scope pos) 8#9:=by
 unfold eLc at h
 split at h
 rotate_left
 .cases h
 rename_i c
 obtain⟨tg,it,ifs,ia⟩:=c
 split at h
 rotate_left
 .cases h
 rename_i h0
 have h0':ia=0:=h0;subst h0';have h:eLt (rc n) T N ns elt it ifs scope tg=a_ m:=h;unfold eLt at h
 split at h
 .split at h
  .rename_i hs
   rw[aE,aE]at hs;exact PP O R h S (eq_of_beq hs.1.1) hs.1.2 hs.2
  .cases h
 .cases h
variable{g:Str}
theorem PB(O:TOk M T k)(R:Snd M T k n){rs:List Expr}{p1 q rp:Pos}(h:eRg (rc n) T N ns g rs=a_ m)(S:Sc M X k N ns)(hl:g="list"\/g="tuple")(hg:fG ns g=c_)(hr:fG ns "range"=c_) :
  PE X (.Call (.Name g p1) [.Call (.Name "range" q) rs [] rp] [] pos) 8#9:=by
 unfold eRg at h
 split at h
 .rcases hl with rfl|rfl
  .rw[if_pos 1#1]at h
   obtain⟨ma,e1,rfl⟩:=map_eq h;have ZW:=iC e1;simp only[cH,gL,fZ]at ZW;exact Jl S hg 9#8 hr 9#8 10#5 ZW
  .rw[if_neg 1#1]at h
   obtain⟨ma,e1,rfl⟩:=map_eq h;have ZW:=iC e1;simp only[cH,gL,fZ]at ZW;exact MD S hg 9#8 hr 9#8 10#5 ZW
 .rcases hl with rfl|rfl
  .rw[if_pos 1#1]at h
   obtain⟨ma,e1,rfl⟩:=map_eq h;have ZW:=iC e1;simp only[cH,gL,fZ,aE]at ZW;exact Ii S hg 9#8 hr 9#8 10#5 ZW.1 ZW.2
  .rw[if_neg 1#1]at h
   cases h
 .cases h
variable{as:List Expr}
theorem Rt(Gk:GOk M T k)(R:Snd M T k n)(RA:∀M T k,GOk M T k->Snd M T k n){p1:Pos}(h:eCf (rc n) T N ns g as=a_ m)(S:Sc M X k N ns)(hg:fG ns g=c_)(hn:hG g=c_):
  PE X (.Call (.Name g p1) as [] pos) 8#9:=by
 have O:=Gk.1;unfold eCf at h
 split at h
 .obtain⟨mf,e1,rfl⟩:=map_eq h
  obtain⟨k',ps,hk,F⟩:=O.D _ _ e1;exact Nm S F hk hg (i7 hn).1
 .unfold eC1 at h
  split at h
  .split at h
   .rename_i hl
    rw[aE,Bool.or_eq_true]at hl
    split at h
    .rename_i hr
     rw[eq_of_beq hl.2]at hr ⊢;exact PB O R h S (hl.1.imp eq_of_beq eq_of_beq) hg hr
    .cases h
   .split at h
    .rename_i hl
     rw[aE]at hl
     split at h
     .rename_i hr
      rw[eq_of_beq hl.2]at hr ⊢;rw[eq_of_beq hl.1]at hg ⊢;unfold eSS at h
      split at h
      .obtain⟨ma,e1,rfl⟩:=map_eq h
       have ZW:=iC e1;simp only[cH,gL,fZ]at ZW;exact Wy S hg 9#8 hr 9#8 10#5 ZW
      .cases h
     .cases h
    .exact R.c _ _ _ _ _ h hg hn _ _ rfl X _ _ S
  .split at h
   .rename_i hs
    obtain⟨h1,_⟩:=Bool.and_eq_true_iff.mp hs;rw[eq_of_beq h1]at hg ⊢;obtain⟨ma,e1,rfl⟩:=map_eq h;have ZW:=iC e1;simp only[cH,gL,fZ]at ZW;exact M3 S hg 9#8 10#5 (dH ZW _ _) rfl
   .exact R.c _ _ _ _ _ h hg hn _ _ rfl X _ _ S
 .unfold eC2 at h
  split at h
  .unfold eIs at h
   split at h
   .rename_i hl
    split at h
    .rename_i ht
     obtain⟨c,e1,h⟩:=bind_eq h;obtain⟨ma,e2,rfl⟩:=map_eq h;obtain⟨c1,c2,c3,c4,c5⟩:=OX e1;rw[aE]at ht;rw[eq_of_beq hl]at hg ⊢;exact SM S hg 9#8 ht.1 (O.B _ c5) c1 c2 c3 c4 8#5 ht.2
    .cases h
   .exact R.c _ _ _ _ _ h hg hn _ _ rfl X _ _ S
  .unfold R8 at h
   split at h
   .rename_i hs
    rw[aE,aE]at hs;obtain⟨⟨hT,hnm⟩,ZW⟩:=hs;obtain⟨ps,e0,h⟩:=bind_eq h
    split at h
    .rename_i hl
     obtain⟨is,e1,h⟩:=bind_eq h;obtain⟨ma,e2,h⟩:=bind_eq h;obtain⟨ml,e3,h⟩:=bind_eq h;obtain⟨F,e4,rfl⟩:=map_eq h;obtain⟨c,q,P,hmk,MK⟩:=O.mkr hT;rw[eq_of_beq hnm]at MK;obtain⟨j,hj,hH,hF,hB⟩:=Gk.2 hT;obtain⟨k',gps,YM,FC⟩:=hH _ _ e4;obtain⟨LS,XO⟩:=BQ hl;exact NK S FC YM 0#0 hmk MK hg (i7 hn).1 8#5 (dH ZW _ _) e0 LS XO e1
      λcaps capv cds base hb X' S'=>(RA _ _ _ ⟨hB caps capv cds base hb,λz=>by cases z⟩).e _ _ _ _ e3 X' S'
    .cases h
   .cases h
  .exact R.c _ _ _ _ _ h hg hn _ _ rfl X _ _ S
 .exact R.c _ _ _ _ _ h hg hn _ _ rfl X _ _ S
theorem Q2(R:Snd M T k n){o:Expr}{name:Str}{p q:Pos}(h:eMe (rc n) T N ns o name p q as=a_ m)(S:Sc M X k N ns):PE X (.Call (.Attribute o name p) as [] q) 8#9:=by
 unfold eMe at h
 split at h
 .split at h
  .rename_i hs
   rw[aE,aE]at hs;obtain⟨mo,e1,rfl⟩:=map_eq h;rw[eq_of_beq hs.2];exact O3 S 8#6 hs.1.1 hs.1.2
  .cases h
 .split at h
  .rename_i hs
   rw[aE,aE]at hs;obtain⟨mo,e1,h⟩:=bind_eq h;obtain⟨ZJ,e2,h⟩:=bind_eq h;exact Mx h S 8#6 (R.a _ _ _ _ e2 X S) hs.1.1 hs.1.2 hs.2
  .cases h
 .cases h
end
theorem Ti(Gk:GOk M T k)(R:Snd M T k n)(RA:∀M T k,GOk M T k->Snd M T k n):∀N ns e m,cE T (n+1) N ns e=a_ m->∀X,Sc M X k N ns->PE X e 8#9:=by
 have O:=Gk.1;intro N ns e m h X S;cases e with
 | Name x p=>
   have h:(if hG x then(if xy ns x then(slot N x).map _ else if fG ns x then(T.C.lookup x).map mC else b_) else b_)=a_ m:=h
   split at h
   .rename_i hn
    obtain⟨n1,n2⟩:=i7 hn
    split at h
    .rename_i hv
     obtain⟨i,e1,rfl⟩:=map_eq h;exact TN S i (slot_get e1) hv n1 n2
    .split at h
     .rename_i hg
      obtain⟨u,e1,rfl⟩:=map_eq h;obtain⟨g,v,hm,r,hv⟩:=O.C _ _ e1;exact PV S hg hm r hv n1
     .cases h
   .cases h
 |Constant c j p=>exact Ms h
 | BinOp a op b p=>
   obtain⟨ma,e1,h⟩:=bind_eq (h);obtain⟨mb,e2,h⟩:=bind_eq h;obtain⟨f,e3,rfl⟩:=map_eq h;exact R4 e3 S 8#6 8#5
 |UnaryOp op a p=>exact RR R h S
 |BoolOp op vs p=>exact P0 R h S
 |Compare a ops bs p=>exact(JU R h S).1
 | IfExp c a b p=>
   obtain⟨mc,e1,h⟩:=bind_eq (h);obtain⟨ma,e2,h⟩:=bind_eq h;obtain⟨mb,e3,rfl⟩:=map_eq h;exact US 17#8 8#5 (R.e _ _ _ _ e3 X S)
 |Subscript a b p=>exact Pn R h S
 |Dict ks vs p=>exact Qp R h S
 | Tuple es j p=>
   obtain⟨ma,e1,rfl⟩:=map_eq (h);exact U9 10#5
 | List es p=>
   obtain⟨ma,e1,rfl⟩:=map_eq (h);exact SH 10#5
 |ListComp elt gens scope p=>exact Qt Gk.1 R h S
 | Call f as kws q=>
   cases kws with
   |cons w ws=>cases h
   | nil=>
     have h:eCa _ T N ns as q f=a_ m:=h;unfold eCa at h
     split at h
     .split at h
      .rename_i hs
       rw[aE]at hs;exact Rt Gk R RA h S hs.1 hs.2
      .cases as with
       |nil=>exact absurd h (R.v0 _ _ _ _)
       |cons a r=>exact R.v _ _ _ _ _ h _ _ rfl X _ _ S
     .exact Q2 R h S
     .cases h
 |_=>cases h
theorem TZ(O:TOk M T k)(R:Snd M T k n):∀N ns g as m,cC T (n+1) N ns g as=a_ m->fG ns g=c_->hG g=c_->∀a r,as=a::r->∀X p1 pos,Sc M X k N ns->PE X (.Call (.Name g p1) as [] pos) 8#9:=by
 intro N ns g as m h hg hn a r e X p1 pos S;subst e;obtain⟨ZJ,e1,h⟩:=bind_eq h;have ZW:=iC e1
 split at h
 .rename_i mf hb
  cases h;exact LG O hb hg S 10#5 ZW
 .obtain⟨mf,e2,rfl⟩:=map_eq h
  obtain⟨k',ps,hk,F⟩:=O.D _ _ e2;rw[cH,aE]at ZW;exact RH S F hk hg 10#5 (i7 hn).1 (dH ZW.1 _ _) (Ag _ _ ZW.2)
theorem Sa(R:Snd M T k n):∀N ns o m,cO T (n+1) N ns o=a_ m->∀X,Sc M X k N ns->nq M X o m:=by
 intro N ns o m h X S;simp[cO,rc,sO]at h
 split at h
 .cases h;exact .none
 .obtain⟨me,e1,rfl⟩:=map_eq h
  exact .some 8#6
theorem VH(R:Snd M T k n):∀N ns e m,cT T (n+1) N ns e=a_ m->∀X,Sc M X k N ns->PT X e (tMT M.K m):=by
 intro N ns e m h X S;simp[cT,rc,sT]at h
 split at h
 .obtain⟨ma,e1,rfl⟩:=map_eq h
  exact UX 17#8
 .exact PW.pt (R.l _ _ _ _ _ _ h X S)
 .exact PW.pt (R.l _ _ _ _ _ _ h X S)
 .obtain⟨mc,e1,rfl⟩:=map_eq h
  exact(JU R e1 S).2
 .split at h
  .rename_i hs
   obtain⟨ma,e1,rfl⟩:=map_eq h;exact Ud 8#6 (IC hs _)
  grind
theorem SN(R:Snd M T k n):∀N ns b vs m pos,cL T (n+1) N ns b vs=a_ m->∀X,Sc M X k N ns->PW X (.BoolOp (if b then .And else .Or) vs pos) (tMT M.K m):=by
 intro N ns b vs m pos h X S;simp[cL,rc,sL]at h
 split at h
 .cases h
 .cases b
  .exact SK (R.t _ _ _ _ h X S)
  .exact QO (R.t _ _ _ _ h X S)
 .rename_i a r hr
  obtain⟨ma,e1,h⟩:=bind_eq h;obtain⟨mr,e2,rfl⟩:=map_eq h;cases r with
  |nil=>exact(hr rfl).elim
  | cons c r=>
    have h2:=R.l _ _ b _ _ pos e2 X S;cases b
    .exact VQ 17#8 h2
    .exact Uc 17#8 h2
theorem Vc(R:Snd M T k n):∀N ns vs m,cF T (n+1) N ns vs=a_ m->∀X,Sc M X k N ns->PTs X vs (tMT M.K m):=by
 intro N ns vs m h X S;simp[cF,rc,sF]at h
 split at h
 .cases h;exact Q9
 .exact Tw (R.t _ _ _ _ h X S)
 .cases h
theorem SR(R:Snd M T k n):∀N ns es m,cA T (n+1) N ns es=a_ m->∀X,Sc M X k N ns->PA X es (tMA M.K m):=by
 intro N ns es m h X S;simp[cA,rc,sA]at h
 split at h
 .cases h;exact SG
 .split at h
  .rename_i hs
   obtain⟨ma,e1,h⟩:=bind_eq h;obtain⟨mr,e2,rfl⟩:=map_eq h;exact PM 8#6 (R.a _ _ _ _ e2 X S) (dH hs _ _)
  grind
variable{X:Cx}{e:Expr}
theorem JF{tg:Expr}{m:ME}(S:Sc M X k N ns)(h:PE X e 8#9):IOk M X tg e (dh m):=
 ⟨_,Wh S h,λ_ _ _ _ _ q=>WL q,λ_ _ _ _ _ q=>VY q⟩
theorem SZ(O:TOk M T k)(R:Snd M T k n):∀N ns tg it m,cI T (n+1) N ns it=a_ m->∀X,Sc M X k N ns->IOk M X tg it m:=by
 intro N ns tg it m h X S;simp only[cI,rc,sI]at h
 split at h
 .split at h
  .rename_i hr
   split at h
   .rename_i hg
    rw[eq_of_beq hr]at hg ⊢
    split at h
    .obtain⟨ma,e1,rfl⟩:=map_eq h
     have ZW:=iC e1;simp only[cH,gL,fZ]at ZW;exact⟨_,Tp S hg 9#8 10#5 (dH ZW _ _),λ_ _ _ _ _ q=>Ui q,λ_ _ _ _ _ q=>Vn q⟩
    .obtain⟨ma,e1,rfl⟩:=map_eq h
     have ZW:=iC e1;simp only[cH,gL,fZ,aE]at ZW;exact⟨_,UR S hg 9#8 10#5 (by rw[dH ZW.1,dH ZW.2];rfl) (by rw[dH ZW.2];rfl),λ_ _ _ _ _ q=>R6 q,λ_ _ _ _ _ q=>VB q⟩
    .cases h
   .cases h
  .split at h
   .rename_i hr
    split at h
    .rename_i hg
     rw[eq_of_beq hr]at hg ⊢
     split at h
     .obtain⟨ma,e1,rfl⟩:=map_eq h
      have ZW:=iC e1;simp only[cH,gL,fZ]at ZW;exact⟨_,Qd S hg 9#8 10#5 (dH ZW _ _),λ_ _ _ _ _ q=>Pe q,λ_ _ _ _ _ q=>Pi q⟩
     .cases h
    .cases h
   .obtain⟨ma,e1,rfl⟩:=map_eq h
    exact JF S 8#6
 .obtain⟨ma,e1,rfl⟩:=map_eq h
  exact JF S 8#6
theorem Vi(R:Snd M T k n):∀N ns e m,cG T (n+1) N ns e=a_ m->∀X,Sc M X k N ns->PG X e (tG M.K m):=by
 intro N ns e m h X S;simp only[cG,rc,sG]at h
 split at h
 .split at h
  .rename_i hs
   obtain⟨i,e1,rfl⟩:=map_eq h;exact PG.con (Fm 20#1 (by rw[S.hN];exact slot_get e1) (S.lo hs).1 (S.lo hs).2) λ_ _ _ _ q=>V7 q
  .cases h
 .obtain⟨gs,e1,rfl⟩:=map_eq h
  obtain⟨h1,h2⟩:=EI X.env _ (Bh e1);refine PG.con (Pj S.calm (R.gs _ _ _ _ e1 X S) h1 h2) λ_ _ _ _ q=>?_;rw[S.hK];exact Sb q
 .cases h
theorem QC(R:Snd M T k n):∀N ns es m,cGs T (n+1) N ns es=a_ m->∀X,Sc M X k N ns->PGs X es (tGs M.K m):=by
 intro N ns es m h X S;simp[cGs,rc,sGs]at h
 split at h
 .cases h;exact PGs.con Md λ_ _ _ _ q=>Ri q
 .split at h
  .rename_i hs
   obtain⟨g,e1,h⟩:=bind_eq h;obtain⟨gs,e2,rfl⟩:=map_eq h;exact PGs.con (Ja (R.g _ _ _ _ e1 X S) (R.gs _ _ _ _ e2 X S) (by rw[Bz hs];rfl)) λ_ _ _ _ q=>M0 q
  grind
variable{it:Expr}{mi:MI}{ts:List Expr}{kt:Nat}
theorem LH(O:TOk M T k)(R:Snd M T k n){pt:Pos}(h:O7 (rc n) T N ns it=a_ mi)(S:Sc M X k N ns):
  ∃wi,PI X 17#0 it wi /\ ∀g mb D σ H,tMS M.K (tX g mi mb) D σ H->xB wi (tG M.K g) (tMS M.K mb) D σ H:=by
 unfold O7 at h
 split at h
 .split at h
  .rename_i hr
   split at h
   .rename_i hg
    rw[eq_of_beq hr]at hg ⊢;obtain⟨ma,e1,rfl⟩:=map_eq h;have ZW:=iC e1;simp only[cH,gL,fZ,aE]at ZW;exact⟨_,RN S hg 9#8 10#5 (dH ZW.1 _ _) (dH ZW.2 _ _),λ_ _ _ _ _ q=>Ut q⟩
   .cases h
  .cases h
 .cases h
theorem PL(O:TOk M T k)(R:Snd M T k n){pt:Pos}(h:eIt (rc n) T N ns it=a_ mi)(S:Sc M X k N ns):
  ∃wi,PI X 17#0 it wi /\ ∀g mb D σ H,tMS M.K (tX g mi mb) D σ H->xB wi (tG M.K g) (tMS M.K mb) D σ H:=by
 unfold eIt at h
 .exact LH O R h S
variable{m:MS}{p1 p3:Pos}
theorem NB(R:Snd M T k n){y:Str}{elt tg:Expr}{ifs:List Expr}{scope:Scope}{p2:Pos}(h:PX (rc n) T N ns y elt it ifs scope tg=a_ m)(S:Sc M X k N ns):
  PS X (.Assign [.Name y p1] (.ListComp elt [⟨tg,it,ifs,0⟩] scope p2) p3) (tMS M.K m):=by
 unfold PX at h
 split at h
 .split at h
  .rename_i hs
   rw[aE,aE,aE]at hs;obtain⟨i,e0,h⟩:=bind_eq h;obtain⟨mi,e1,h⟩:=bind_eq h;obtain⟨mt,e2,h⟩:=bind_eq h;obtain⟨mc,e3,rfl⟩:=map_eq h;obtain⟨wi,h1,_,h3⟩:=R.i _ _ _ _ _ e1 X S;exact O5 S i (slot_get e0) hs.1 (eq_of_beq hs.2.1.1) hs.2.1.2 h1 (λX' S'=>R.f _ _ _ _ e2 X' S') (λX' S'=>R.e _ _ _ _ e3 X' S') (h3 mt mc) (uw hs.2.2 _)
  .cases h
 .cases h
theorem MR(R:Snd M T k n)(h:P4 (rc n) T N ns x e=a_ m)(S:Sc M X k N ns):PS X (.Assign [.Name x p1] e p3) (tMS M.K m):=by
 unfold P4 at h
 split at h
 .unfold Ua at h
  split at h
  .rename_i c
   obtain⟨tg,it,ifs,ia⟩:=c
   split at h
   .rename_i h0
    have h0':=h0;subst h0';exact NB R h S
   .cases h
  .cases h
 .split at h
  .rename_i hs
   rw[aE]at hs;obtain⟨i,e1,h⟩:=bind_eq h;obtain⟨me,e2,rfl⟩:=map_eq h;exact OL S i (slot_get e1) hs.1 8#5 (zp hs.2 _ _ _)
  grind
theorem NO(R:Snd M T k n){t:Expr}(h:QE (rc n) T N ns e t=a_ m)(S:Sc M X k N ns):PS X (.Assign [t] e p3) (tMS M.K m):=by
 unfold QE at h
 split at h
 .exact MR R h S
 .split at h
  .rename_i hs
   rw[aE]at hs;obtain⟨ma,e1,h⟩:=bind_eq h;obtain⟨mb,e2,h⟩:=bind_eq h;obtain⟨me,e3,rfl⟩:=map_eq h;exact Mk S 8#6 8#5 (R.e _ _ _ _ e3 X S) (EZ hs.1 _ _ _) En rfl (Rp hs.2 _)
  .cases h
 .split at h
  .rename_i hs
   rw[aE]at hs;obtain⟨g,e1,h⟩:=bind_eq h;obtain⟨me,e2,rfl⟩:=map_eq h;exact PS.con (K6 8#5 (R.g _ _ _ _ e1 X S) (EZ hs.1 _ _ _) (AI hs.2) rfl) λ_ _ _ q=>U1 q
  .cases h
 .cases h
theorem Ra(R:Snd M T k n){op:Operator}(h:sAu (rc n) T N ns x e op=a_ m)(S:Sc M X k N ns):PS X (.AugAssign (.Name x p1) op e p3) (tMS M.K m):=by
 unfold sAu at h
 split at h
 .split at h
  .rename_i hs
   obtain⟨i,e1,h⟩:=bind_eq h;obtain⟨me,e2,rfl⟩:=map_eq h;exact Ur S i (slot_get e1) hs 8#5
  .cases h
 .cases h
theorem Qq(O:TOk M T k)(R:Snd M T k n){t:Expr}{body:List Stmt}(h:sFo (rc n) T N ns it body t=a_ m)(S:Sc M X k N ns):PS X (.For t it body [] p3) (tMS M.K m):=by
 unfold sFo at h
 split at h
 .split at h
  .rename_i hs
   rw[aE]at hs;obtain⟨i,e1,h⟩:=bind_eq h;obtain⟨mi,e2,h⟩:=bind_eq h;obtain⟨mb,e3,rfl⟩:=map_eq h;obtain⟨wi,h1,h2,_⟩:=R.i _ _ _ _ _ e2 X S;exact UW S i (slot_get e1) hs.1 h1 (R.b _ _ _ _ e3 X S) (h2 i mb) (uw hs.2 _)
  .cases h
 .rename_i ts kt pt
  split at h
  .rename_i hs
   obtain⟨g,e1,h⟩:=bind_eq h;obtain⟨mi,e2,h⟩:=bind_eq h;obtain⟨mb,e3,rfl⟩:=map_eq h;obtain⟨wi,h1,h2⟩:=PL O R e2 S;exact PS.con (Jm S.own S.calm h1 (R.g _ _ _ _ e1 X S) (R.b _ _ _ _ e3 X S) (uw hs _)) λ_ _ _ q=>h2 _ _ _ _ _ q
  .cases h
 .cases h
theorem SV(O:TOk M T k)(R:Snd M T k n):∀N ns st m,cS T (n+1) N ns st=a_ m->∀X,Sc M X k N ns->PS X st (tMS M.K m):=by
 intro N ns st m h X S;cases st with
 | Assign ts e p=>
   have h:sAs _ T N ns e ts=a_ m:=h;unfold sAs at h
   split at h
   .exact NO R h S
   .cases h
 | AugAssign t op e p=>
   have h:Rr _ T N ns op e t=a_ m:=h;unfold Rr at h
   split at h
   .exact Ra R h S
   .cases h
 | Expr e p=>
   have h:(if mn e then((rc n).e T N ns e).map _ else b_)=a_ m:=h
   split at h
   .rename_i hs
    obtain⟨me,e2,rfl⟩:=map_eq h;exact RM 8#5 (zp hs _ _ _)
   .cases h
 | Return o p=>
   have h:sRt _ T N ns o=a_ m:=h;unfold sRt at h
   split at h
   .obtain⟨me,e2,rfl⟩:=map_eq h
    exact Tz 8#5
   .cases h;exact Qw
 | If c a b p=>
   obtain⟨mc,e1,h⟩:=bind_eq h;obtain⟨ma,e2,h⟩:=bind_eq h;obtain⟨mb,e3,rfl⟩:=map_eq h;exact WB 17#8 (R.b _ _ _ _ e2 X S) (R.b _ _ _ _ e3 X S)
 | For t it body els p=>
   have h:Q1 _ T N ns t it _ _=a_ m:=h;unfold Q1 at h
   split at h
   .exact Qq O R h S
   .cases h
 | While c body els p=>
   have h:sWh _ T N ns c _ _=a_ m:=h;unfold sWh at h
   split at h
   .obtain⟨mc,e1,h⟩:=bind_eq h
    obtain⟨mb,e2,rfl⟩:=map_eq h;exact NJ S 17#8 (R.b _ _ _ _ e2 X S)
   .cases h
 | Pass p=>
   cases h;exact Qb
 | Break p=>
   cases h;exact VM
 | Raise a b p=>
   cases h;exact Wg
 | Continue p=>
   cases h;exact U6
 |_=>cases h
theorem Vs(Gk:GOk M T k)(R:Snd M T k n)(RA:∀M T k,GOk M T k->Snd M T k n):∀N ns sts m,cB T (n+1) N ns sts=a_ m->∀X,Sc M X k N ns->PSs X sts (tMS M.K m):=by
 intro N ns sts m h X S;simp only[cB,rc,sB]at h
 split at h
 .cases h;exact SA
 .exact SX (R.s _ _ _ _ h X S)
 .obtain⟨ma,e1,h⟩:=bind_eq h
  obtain⟨mr,e2,rfl⟩:=map_eq h;exact TB (R.s _ _ _ _ e1 X S) (R.b _ _ _ _ e2 X S)
theorem snd:∀n M T k,GOk M T k->Snd M T k n
 |0,M,T,k,_=>V1 M T k
 | n+1,M,T,k,Gk=>by
   have RA:=snd n;have R:=RA M T k Gk;exact⟨Ti Gk R RA,TZ Gk.1 R,UT Gk.1 R,λN ns g m h=>(by cases (h)),Sa R,VH R,SN R,Vc R,SR R,SZ Gk.1 R,Vi R,QC R,SV Gk.1 R,Vs Gk R RA⟩
theorem Fy{qual:Str}{st:Stmt}{f:e_}{fd:FuncData}{ms:MS}{fu:Nat}(O:TOk M T k)(h0:M.mkr=b_)(h1:T.mkr=d_)(F:Fun M.K x qual st f fd)(S:bh N ps (aG st))(hm:M.mg x=a_ (.ref f))(hb:Binds M.K fd ps [])
  (h:cB T fu N (aG st).names (dB st)=a_ ms):Fn M x (k+1) ps 19#8:=
 ⟨f,fd,hm,F.2,hb,Kk h0 F S λX S'=>(snd fu M T k (.of O h1)).b _ _ _ _ h X S'⟩
end
structure Def(K:ao)(x:Str)(st:Stmt):Prop where
 ex:∃f fd,fN K mainGlobals x=a_ (a_ (.ref f))/\Fun K x x st f fd
variable{f:e_}{st:Stmt}{K:ao}{od an:Option e_}{sl:Array (Option f_)}
theorem Qr{oc kV doc pm cd ct:f_}(a:fN K mainGlobals x=a_ (a_ (.ref f)))
  (l:K.lookup f=a_ ⟨oc,od,.func (dA x x (gH st) (dB st) (aG st) .none kV doc pm an cd ct),sl⟩) (c:ip K cd x=c_) (k:dI K (.ref f)=c_):Def K x st:=
 ⟨f,_,a,Pz l c k⟩
section
variable {M:Mo}{T:Tb}{k:Nat}{h:Heap}{x:Str}{st:Stmt}{N ps:List Str}{ms:MS}{fu:Nat}
theorem Def.fn(O:TOk M T k)(h0:M.mkr=b_)(h1:T.mkr=d_)(X:M.K.K.In h)(Gn:h.Ns mainGlobals M.mg)(D:Def M.K x st)(S:bh N ps (aG st))
  (hb:∀(kV doc pm:f_) (an:Option e_) (cdv ct:f_) (us:List f_),1#3=8#1->bindArgs 20#5 ⟨us,[]⟩=pure (ps.zip us))
  (hc:cB T fu N (aG st).names (dB st)=a_ ms):Fn M x (k+1) ps 19#8:=by
 obtain⟨f,fd,a,F⟩:=D.ex;exact Fy O h0 h1 F S (mR X Gn a) (F.binds hb) hc
theorem TOk.mono{j:Nat}(O:TOk M T k)(hj:k<=j):TOk M T j where
 Z:=λy r hy=>let ⟨k',_,hk,F'⟩:=O.Z y r hy;⟨k',_,aK hk hj,F'⟩
 D:=λy g hy=>let ⟨k',_,hk,F'⟩:=O.D y g hy;⟨k',_,aK hk hj,F'⟩
 C:=O.C
 B:=O.B
 L:=λy q hy=>let ⟨k',_,hk,F'⟩:=O.L y q hy;⟨k',_,aK hk hj,F'⟩
 mkr:=O.mkr
theorem TOk.cons{j:Nat}{mf:MF}(O:TOk M T k)(F:Fn M x j ps mf)(hj:k<=j):TOk M ⟨(x,mf)::T.D,T.C,T.L,T.H,T.mkr,T.Z⟩ j where
 D:=λy g hy=>by
  rw[dz]at hy;cases e:y==x with
  |true=>rw[e]at hy;cases hy;rw[eq_of_beq e];exact⟨j,ps,ak _,F⟩
  | false=>
    rw[e]at hy;obtain⟨k',ps',hk,F'⟩:=O.D y g hy;exact⟨k',_,aK hk hj,F'⟩
 C:=O.C
 B:=O.B
 L:=(O.mono hj).L
 mkr:=O.mkr
 Z:=(O.mono hj).Z
theorem TOk.setH{Hs:List (Str×(e_->MF->MF))}(O:TOk M T k):TOk M ⟨T.D,T.C,T.L,Hs,T.mkr,T.Z⟩ k:=⟨O.D,O.C,O.B,O.L,O.mkr,O.Z⟩
theorem TOk.con{i:Int}(O:TOk M T k)(X:M.K.K.In h)(Gn:h.Ns mainGlobals M.mg)(a:∃t,fN M.K mainGlobals x=a_ (a_ (.int i t))):TOk M ⟨T.D,(x,.int i)::T.C,T.L,T.H,T.mkr,T.Z⟩ k where
 D:=O.D
 C:=λy u hy=>by
  rw[dz]at hy;cases e:y==x with
  | true=>
    rw[e]at hy;cases hy;rw[eq_of_beq e];obtain⟨t,a⟩:=a;exact⟨_,.int i,mR X Gn a,⟨t,rfl⟩,λ_ _=>gm⟩
  |false=>rw[e]at hy;exact O.C y u hy
 B:=O.B
 L:=O.L
 mkr:=O.mkr
 Z:=O.Z
theorem TOk.nil{Fs:List (Str×VF)}{cl:Nat->e_}{nm:Str}(X:M.K.K.In h)(Gn:h.Ns mainGlobals M.mg)(B:∀x∈lG,fN M.K mainGlobals x=a_ b_):TOk M ⟨[],[],[],[],d_,⟨[],Fs,cl,nm⟩⟩ 0 where
 D:=λy g hy=>by cases hy
 C:=λy g hy=>by cases hy
 B:=λy hy=>PySem.W.mg_none_of X Gn (B y hy)
 L:=λy g hy=>by cases hy
 mkr:=λh=>by cases h
 Z:=λy g hy=>by cases hy
theorem Def.fnC{y:Str}{msC:e_->MF->MS}(O:∀caps capv cds base,iX M.mg base->TOk 15#2 T k)(h1:T.mkr=d_)(hL:T.L=[])(X:M.K.K.In h)(Gn:h.Ns mainGlobals M.mg)(D:Def M.K x st)(S:bh N ps (aG st))
  (hb:∀(kV doc pm:f_) (an:Option e_) (cdv ct:f_) (us:List f_),1#3=8#1->bindArgs 20#5 ⟨us,[]⟩=pure (ps.zip us))
  (hc:∀g φ,cB ⟨T.D,T.C,[(y,g,φ)],T.H,T.mkr,T.Z⟩ fu N (aG st).names (dB st)=a_ (msC g φ)):FnC M x k ps λg φ=>run ps.length N.length (msC g φ):=by
 obtain⟨f,fd,a,F⟩:=D.ex;refine⟨f,fd,mR X Gn a,F.2,F.binds hb,λcaps capv cds base g j lps φ Yz hkj lam=>?_⟩;have O':TOk 15#2 ⟨T.D,T.C,[(y,g,φ)],T.H,T.mkr,T.Z⟩ j:=by
  have O1:=(O caps capv cds _ Yz).mono hkj;refine⟨O1.D,O1.C,O1.B,λz q hz=>?_,(λhm=>by grind),O1.Z⟩;rw[dz]at hz;cases e:z==y with
  |true=>rw[e]at hz;cases hz;exact⟨j,_,ak _,lam⟩
  |false=>simp_all
 exact Kk (M:=M.to _ _ cds _) rfl F S λX' S'=>(snd fu _ _ _ (.of O' h1)).b _ _ _ _ (hc g φ) X' S'
end
structure pj(K:ao)(x:Str)(st:Stmt)(c P:e_):Prop where
 ex:∃(f:e_) (oc:f_) (od:Option e_) (kV doc pm:f_) (an:Option e_) (ct:f_) (sl:Array (Option f_)),fN K mainGlobals x=a_ (a_ (.ref f)) /\
  K.lookup f=a_ ⟨oc,od,.func (dA x x (gH st) (dB st) (aG st) .none kV doc pm an (.ref c) ct),sl⟩/\ip K (.ref c) x=c_/\dI K (.ref f)=c_
 cd :∃ (vs:Array f_) (od:Option e_) (sl:Array (Option f_)) (file:Str) (tf:Tok) (flags:Int) (tg:Tok) (inF:Bool) (text:Int) (tt:Tok),K.lookup c=a_ ⟨.type "code",od,.fields vs,sl⟩/\vs[11]?=a_ (.ref P)/\vs.getD 11 .none=.ref P/\vs.getD 18 .none=.str file tf /\
  vs.getD 7 .none=.int flags tg/\vs.getD 9 .none=.bool inF/\vs.getD 10 .none=.int text tt/\c≠P
section
variable {M:Mo}{T:Tb}{k:Nat}{h:Heap}{x:Str}{st:Stmt}{N ps:List Str}{ms:MS}{fu:Nat}{c P:e_}
theorem pj.mkr(D:pj M.K x st c P)(B:iX M.mg M.base)(X:M.K.K.In h)(Gn:h.Ns mainGlobals M.mg){q:Str}(hm:(P,q)∈M.K.tabs)(nd:(M.K.tabs.map (·.1)).Nodup)(hg:mainGlobals≠P):Mkr M c P q where
 hd:=λh' X'=>by
  obtain⟨vs,od,sl,file,tf,flags,tg,inF,text,tt,e,r⟩:=D.cd;obtain⟨r1,r2,r3,r4,r5,r6,r7⟩:=r;exact⟨_,vs,_,tf,_,tg,_,_,tt,X' _ _ e,rfl,rfl,r1,r2,r3,r4,r5,r6,r7⟩
 bl:=B
 gP:=hg
 mem:=hm
 un:=λr hr e=>by
  have key:∀(l:List _),(l.map (·.1)).Nodup->r∈l->(P,q)∈l->r.2=q:=by
   intro l
   induction l<;>grind
  exact key _ nd hr hm
theorem pj.ok(D:pj M.K x st c P)(h0:M.mkr=b_)(O :∀ caps capv cds base,iX M.mg base->TOk 15#2 T k)(O0:TOk M T k)(hL:T.L=[])(h1:T.mkr=d_)(hH :∀ y F,T.H.lookup y=a_ F->∃ k' ps,k'<=k+1/\FnC M y k' ps F)(hF :∀ y vf,T.Z.F.lookup y=a_ vf->∃ k' d,d<=3/\k'<=k+1/\FnR M T.Z.cl y k' d vf){nm:Str}(MK:Mkr M c P (x++".<locals>."++nm))
  (S:bh N ps (aG st)) (hc:cB 21#9 fu N (aG st).names (dB st)=a_ ms)
  {oc kV doc pm ct:f_} (lk:M.K.K.lookup f=a_ ⟨oc,od,.func 24#6,sl⟩) (Z4:ip M.K.K (.ref c) x=c_):
  lD M.P M.w M.K M.mg M.base CX0 (k+5) f 24#6 ps (spM M.K 19#8):=by
 let M1:Mo:=⟨M.P,M.w,M.K,M.mg,M.base,a_ (c,x++".<locals>.")⟩
 have O1:TOk M1 21#9 (k+4):=by
  have Om:=O0.mono (show k<=k+4 by lia);refine⟨λy g hy=>?_,Om.C,Om.B,λy q hy=>?_,λ_=>⟨c,_,P,rfl,MK.hd,MK.bl,MK.gP,MK.mem,MK.un⟩,λy r hy=>?_⟩
  .obtain⟨k',ps',hk,F'⟩:=Om.D y g hy
   exact⟨k',_,hk,⟨F'.ex⟩⟩
  .rw[hL]at hy
   cases hy
  .obtain⟨k',ps',hk,F'⟩:=Om.Z y r hy
   exact⟨k',_,hk,⟨F'.ex⟩⟩
 have G1:GOk M1 _ _:=⟨O1,λ_=>⟨k,ak _,λy F hy=>by
  obtain⟨k',ps',hk,FC⟩:=hH y F hy;exact⟨k',_,hk,⟨FC.ex⟩⟩,λy rz hy=>by
  obtain⟨k',d,hd,hk,FC⟩:=hF y rz hy;exact⟨k',d,hd,hk,⟨FC.ex⟩⟩,λcaps capv cds base Yz=>by
   have Ob:=O caps capv cds _ Yz
   exact⟨Ob.D,Ob.C,Ob.B,λy q hy=>(by cases hy),λz=>(by cases z),Ob.Z⟩⟩⟩
 have len:∀vs H Q E,spM M.K (run _ N.length ms) vs H Q E->2#4=8#1:=λvs H Q E h=>by
  obtain⟨μ,S',us,u,Yl,hr,rs,e,_⟩:=h;unfold run at e
  split at e
  .rename_i hl;rw[<-rs.len];exact hl
  .cases e
 refine _L.Fy lk Z4 S len λA outer s H vs Q E hr h=>⟨_,((snd fu M1 _ _ G1).b _ _ _ _ hc _ (Sc.def S hr λc' q' hq=>by cases hq;exact⟨rfl,rfl⟩)).nox,?_⟩;obtain⟨μ,S1,us,u,S2,hr,rs,e,ka⟩:=h;unfold run at e
 split at e
 .rename_i hl
  have er:=yu (N:=N) rs;rw[hl]at er
  split at e
  .rename_i w Y5 S3 q
   cases e;exact⟨μ,S1,_,_,hr,er,q,ka⟩
  .rename_i Y5 S3 q
   cases e;exact⟨μ,S1,_,_,hr,er,q,λY6 Y3 H' p' k' Yt er'=>ka _ _ H' p' k' Yt ql⟩
  .cases e
 .cases e
theorem pj.fn(D:pj M.K x st c P)(h0:M.mkr=b_)(O :∀ caps capv cds base,iX M.mg base->TOk 15#2 T k)(O0:TOk M T k)(hL:T.L=[])(h1:T.mkr=d_)(hH :∀ y F,T.H.lookup y=a_ F->∃ k' ps,k'<=k+1/\FnC M y k' ps F)(hF :∀ y vf,T.Z.F.lookup y=a_ vf->∃ k' d,d<=3/\k'<=k+1/\FnR M T.Z.cl y k' d vf){nm:Str}(MK:Mkr M c P (x++".<locals>."++nm))
  (X:M.K.K.In h) (Gn:h.Ns mainGlobals M.mg) (S:bh N ps (aG st))
  (hb:∀(kV doc pm:f_) (an:Option e_) (cdv ct:f_) (us:List f_),1#3=8#1->bindArgs 20#5 ⟨us,[]⟩=pure (ps.zip us))
  (hc:cB 21#9 fu N (aG st).names (dB st)=a_ ms):Fn M x (k+5) ps 19#8:=by
 obtain⟨f,oc,od,kV,doc,pm,an,ct,sl,a,lk,Z4,Yu⟩:=D.ex;exact⟨f,_,mR X Gn a,Yu,.all (hb kV _ pm an _ ct),D.ok h0 O O0 hL h1 hH hF MK S hc lk Z4⟩
end
section
variable {M:Mo}
variable{Hs:List (Str×(e_->MF->MF))}
theorem uE{j k:Nat}(h:∀y F,Hs.lookup y=a_ F->∃k' ps,k'<=j/\FnC M y k' ps F)(hj:j<=k):∀y F,Hs.lookup y=a_ F->∃k' ps,k'<=k/\FnC M y k' ps F:=λy F hy=>
 let ⟨k',ps,a,b⟩:=h y F hy;⟨k',ps,aK a hj,b⟩
theorem NI{j k:Nat}{F0:e_->MF->MF}{ps:List Str}(h:∀y F,Hs.lookup y=a_ F->∃k' ps,k'<=j/\FnC M y k' ps F)(F1:FnC M x i ps F0)(hi:i<=k)(hj:j<=k):∀y F,((x,F0)::Hs).lookup y=a_ F->∃k' ps,k'<=k/\FnC M y k' ps F:=λy F hy=>by
 rw[dz]at hy;cases e:y==x with
 |true=>rw[e]at hy;cases hy;rw[eq_of_beq e];exact⟨i,ps,hi,F1⟩
 |false=>rw[e]at hy;exact uE h hj y F hy
end
theorem zr{c P:e_}{od':Option e_}{sl':Array (Option f_)}{oc kV doc pm ct:f_}{vs:Array f_}{file:Str}{tf tg tt:Tok}{flags text:Int}{inF:Bool}(a:fN K mainGlobals x=a_ (a_ (.ref f)))
  (l:K.lookup f=a_ ⟨oc,od,.func 24#6,sl⟩) (cc:ip K (.ref c) x=c_) (k:dI K (.ref f)=c_)
  (e:K.lookup c=a_ ⟨.type "code",od',.fields vs,sl'⟩) (r1:vs[11]?=a_ (.ref P)) (r2:vs.getD 11 .none=.ref P) (r3:vs.getD 18 .none=.str file tf) (r4:vs.getD 7 .none=.int flags tg) (r5:vs.getD 9 .none=.bool inF) (r6:vs.getD 10 .none=.int text tt) (r7:c≠P):pj K x st c P:=
 ⟨⟨f,oc,od,kV,_,pm,an,ct,sl,a,l,cc,k⟩,⟨vs,_,_,_,tf,_,tg,_,_,tt,e,r1,r2,r3,r4,r5,r6,r7⟩⟩
theorem Qz{l:o5}{w:World}{h:Heap}{mg:Str->Option f_}{fa:e_}{ms:MS}{fu k:Nat}{T:Tb}(X:K.In h)(Gn:h.Ns mainGlobals mg)(hfa:mg "law"=a_ (.ref fa))
  (D:Def K "law" st) (S:bh N ["script"] (aG st))
  (hb :∀ (kV doc pm:f_) (an:Option e_) (cdv ct:f_) (us:List f_),1#3=["script"].length->bindArgs (dA "law" "law" (gH st) (dB st) (aG st) .none kV doc pm an cdv ct) ⟨us,[]⟩=pure ((["script"]:List Str).zip us))
  {tabs:List (e_×Str)} (h1:T.mkr=d_) (hO:∀base:Heap,iX mg base->TOk ⟨l.prog,w,⟨K,[],[],[],tabs⟩,mg,base,b_⟩ T k) (hc:cB T fu N (aG st).names (dB st)=a_ ms):
  ∃ fd:FuncData,24#4 /\ ∀ base:Heap,K.In base->base.Ns mainGlobals mg->iX mg base->lD l.prog w K mg base CX0 (k+1) fa fd ["script"] (spM ⟨K,[],[],[],tabs⟩ (run 1 N.length ms)):=by
 obtain⟨f,fd,a,F⟩:=D.ex;have e:=hfa.symm.trans (mR X Gn a);cases e;refine⟨fd,λs v=>?_,λbase _ _ Yz=>Kk rfl F S λX' S'=>(snd fu _ _ _ (.of (hO _ Yz) h1)).b _ _ _ _ hc X' S'⟩;obtain⟨oc,od,kV,doc,pm,an,cdv,ct,osl,rfl,lk,Z4⟩:=F.ex;exact .of_eq (hb kV _ pm an _ ct _ rfl)
theorem Si{tabs:List (e_×Str)}{H:Hp}{a:e_}{ns:List Int}{m:MF}(hT:∀q∈tabs,Do H q.1 q.2)(hS:SqL K H a 11#1)(hm:∀S:Sto,0#7=1->getL S 0=a_ (ns.map U.int)->∃S',m [.ref 0] S=a_ (.bl c_,S')):
  spM ⟨K,[],[],[],tabs⟩ m [.ref a] H (λv _=>v=.bl c_) λ_ _ _=>False:=by
 have key:∃c:Cell,pE ⟨K,[],[],[],tabs⟩ H [a] a c/\getL [c] 0=a_ (ns.map U.int):=by
  rcases hS with (h|⟨o,h⟩)|h
  .exact⟨.lst _,⟨_,h,RUs.ints ns⟩,rfl⟩
  .exact⟨.frz _,⟨_,.inl ⟨o,h⟩,RUs.ints ns⟩,rfl⟩
  .exact⟨.frz _,⟨_,.inr (.inr h),RUs.ints ns⟩,rfl⟩
 obtain⟨c,hc,hg⟩:=key;obtain⟨S',e⟩:=hm _ rfl hg;refine⟨[a],_,_,_,S',⟨rfl,λn m us ws q1 q2 _ _ _=>?_,λn c' b q1 q2=>?_,⟨.nil,λq hq=>(nomatch hq),hT⟩⟩,.cons (zy rfl) .nil,e,λY6 v H' _ _ _ r=>kC r⟩
 .have h1:=(ag.mp q1).1
  have h2:=(ag.mp q2).1<;>simp_all
 .have h1:=(ag.mp q1).1
  simp_all
end _G
namespace _G
open PySem PySem.Spec _L
open PySem.W (CodeHd tabObj tabIn)
open PyProof.Rows hiding St
theorem pj.tab{K:ao}{x:Str}{st:Stmt}{c P:e_}(D:pj K x st c P):tabIn K x=a_ (c,P):=by
 obtain⟨f,oc,od,kV,doc,pm,an,ct,sl,e1,e2,_⟩:=D.ex;obtain⟨vs,od',sl',file,tf,flags,tg,inF,text,tt,e3,e4,_⟩:=D.cd;unfold tabIn
 simp_all
def BU(K:ao)(tabs:List (e_×Str))(a:e_)(o:Obj)(xs:List V):Hp:=λb=>
 if b∈tabs.map (·.1) then a_ (.tbl #[]) else if b=a/\K.lookup a=b_ then a_ (.frz o (.lst xs)) else b_
section
variable {P:Program}{w:World}{K:ao}{mg mb:Str->Option f_}{k:Nat}{fa a:e_}{fd:FuncData}{x:Str}{sp:Sp}{s:g_}{vs:List f_}{ns:List Int}{tabs:List (e_×Str)}
theorem Lz(kx:K.In s.heap)(hns:s.heap.Ns mainGlobals mg)(hb:s.heap.Ns builtinsNs mb)(Yz :∀ x:Str,x≠"__name__"->mb x=bootBuiltins x)(hlim:s.heap.NoLimit)(hbm:iX mg s.heap)(hg:s.gens = #[])
  (ha:s.heap.get? a=a_ { cls := .type "list",data := .seq vs.toArray }) (hi:IntsAre vs ns) (hl:6#9<=sizeLine) (hr:lF k callerA)
  (hT:∀r∈tabs,K.lookup r.1=b_ /\ ∃c,s.heap.TableAt c r.1 #[])
  (F:∀base:Heap,K.In base->base.Ns mainGlobals mg->iX mg base->lD P w K mg base CX0 k fa fd [x] sp) (hbind:∀(s:g_) (u:f_),BindsTo s fd ⟨[u],[]⟩ [(x,u)])
  (YD:∀H:Hp,(∀r∈tabs,Do H r.1 r.2)->SqL K H a 11#1->sp [.ref a] H (λv _=>v=.bl c_) λ_ _ _=>False):
  pQ (model P w) callerA (.call (.ref fa) ⟨[.ref a],[]⟩) (λr s'=>r=.ok (.ret (.bool c_))/\OldK s.heap s'.heap/\s'.os=s.os/\AllBare s'.gens) s:=by
 have rv:=oM hi;have lenV:=hi.length
 let o:Obj:={ cls := .type "list",data := .seq vs.toArray }
 let H:=BU K tabs a o 11#1
 have hH:H=BU K _ a o _:=rfl;have tab:∀b,b∈tabs.map (·.1)->H b=a_ _/\K.lookup b=b_ /\ ∃c,s.heap.TableAt c b _:=λb hb=>by
  obtain⟨r,hr,e⟩:=aw.mp hb;subst e;exact⟨if_pos hb,hT r hr⟩
 have anot:a∉tabs.map _:=λz=>by
  obtain⟨_,_,c,ht⟩:=tab a z;have e:=ht.2;rw[ha]at e;cases e
 have Hof:∀b u,H b=a_ u->(b∈tabs.map _/\u=.tbl _)\/(b=a/\K.lookup a=b_/\u=.frz o _):=λb u e=>by
  rw[hH]at e;unfold BU at e
  split at e
  .rename_i z;cases e;exact .inl ⟨z,rfl⟩
  .split at e
   .rename_i z;cases e;exact .inr ⟨z.1,z.2,rfl⟩
   .cases e
 have nodic:∀{b:e_}{o:Obj}{es:Array _}{ep:Nat},s.heap.get? b=a_ o->o.data=.dict es ep->H b=b_:=λ{b o' es ep} e d=>by
  cases q:H b with
  |none=>rfl
  | some u=>
    rcases Hof b u q with⟨z,_⟩|⟨z,_⟩
    .obtain⟨_,_,c,ht⟩:=tab b z
     have e2:=ht.2;rw[e]at e2;cases e2;cases d
    .subst z
     rw[ha]at e;cases e;cases d
 have nsK:∀{b:e_}{m:Str->Option _},s.heap.Ns b m->(AX _ H).Ns b m:=λ{b m} ⟨o,es,ep,e,d,r⟩=>⟨o,es,ep,qF e (nodic e d),d,r⟩
 have hKb:K.In (AX _ H):=λb o' e=>qF (kx b o' e) (by
  cases q:H b <;> grind)
 have hok:HOk P w H s.heap:=λb u e=>by
  rcases Hof b u e with⟨z,rfl⟩|⟨rfl,z2,rfl⟩
  .obtain⟨_,_,c,ht⟩:=tab b z
   exact ht.2
  .exact⟨ha,by rw[ar];exact hl,vs,_,rv,ha⟩
 have hS:SqL K H a 11#1:=by
  cases hk:K.lookup a with
  | some o'=>
    have e:=kx a o' hk;rw[ha]at e;cases e;exact .inr ⟨_,_,_,hk,rfl,rfl,rfl,by rw[bP,lenV];exact hl,by simpa using rv⟩
  |none=>exact .inl (.inr ⟨o,by show BU K _ a o _ a=_;unfold BU;rw[if_neg anot,if_pos ⟨rfl,hk⟩]⟩)
 have hM:Mod K mg _:=⟨hKb,nsK hns,⟨mb,nsK hb,Yz⟩,let ⟨mc,h1,h2⟩:=hlim;⟨mc,nsK h1,h2⟩⟩;have e0:Hm P w K mg _ callerA [] s H:=⟨rfl,hM,λb o e=>Fb e,Nat.le_of_eq (yF _ _),trivial,λb hb=>absurd (show b∈[] from hb) 0#3,hok,.of_eq hg⟩;have hBb:iX mg (AX s.heap H):=by
  obtain⟨bm,ob,e1,e2,e3,e4,e5,e6⟩:=hbm;refine⟨bm,ob,e1,e2,qF e3 ?_,e4,e5,e6⟩;cases q:H bm with
  |none=>rfl
  | some u=>
    rcases Hof bm u q with⟨z,_⟩|⟨z,_⟩
    .obtain⟨_,_,c,ht⟩:=tab bm z
     have e:=ht.2;rw[e3]at e;cases e;cases e6
    .rw[z,ha]at e3;cases e3;cases e6
 have hTR:∀r∈tabs,Do H _ r.2:=λr hr=>⟨_,(tab _ (aw.mpr ⟨r,hr,rfl⟩)).1,trivial,λpos cv h=>by cases h⟩;refine je ((F _ hKb (nsK hns) hBb).run _ [] s H _ [.ref a] [.ref a] _ _ hr e0 (hbind s _) (.cons rfl .nil) (YD H hTR hS)) λr s' h=>?_;cases r with
 |error e=>exact h.elim
 | ok fl=>
   cases fl with
   |next=>exact en h
   |brk=>exact en h
   |cont=>exact en h
   | ret u=>
     obtain⟨v,H',os,bare,un,hok',r',q⟩:=h;have q':=q;subst q';obtain rfl:u=Value.bool _:=r';refine⟨rfl,⟨λb o' e=>?_,λb o' e=>un.there b o' e 0#3⟩,os,bare⟩;cases q:H b with
     |none=>exact .inl (un.keep b o' e q (by intro z;exact absurd (show b∈[] from z) 0#3) 0#3)
     | some u=>
       rcases Hof b u q with⟨z,rfl⟩|⟨rfl,_,rfl⟩
       .obtain⟨_,_,c,ht⟩:=tab b z
        obtain⟨more,e2⟩:=un.tbls b _ q;have e3:=hok' b _ e2;have e4:=ht.2;rw[e]at e4;cases e4;exact .inr (.inl ⟨ht.isCodeTable,rfl,_,_,rfl,e3⟩)
       .obtain⟨e2,_⟩:=hok' b _ (un.frzs b _ _ q)
        rw[ha]at e;cases e;exact .inl e2
end
theorem IF{l:o5}{n k:Nat}{q:Program}{loose:List Str}{XP:(Str->Option f_)->Heap->Prop}{YP:World->Heap->Prop}{d:DefRec}{K:Params->ao}{x:Str}
  (hn:l.most=a_ n) (XU:n<=sizeLine) (hdf:d.params.defaults=[]) (hr:lF k callerA) (hY:∀(w:World) (h:Heap),YP w h->(K w.params).In h)
  (F: ∀(w:World) (mg:Str->Option f_) (fa:e_) (h:Heap),(K w.params).In h->h.Ns mainGlobals mg->mg d.name=a_ (.ref fa) -> ∃(tabs:List (e_×Str)) (fd:FuncData) (sp:Sp),
   (∀r∈tabs,(K w.params).lookup r.1=b_ /\ ∃x d c,(recsOf q).find? (λe=>e.name==x)=a_ d/\tabIn (K w.params) x=a_ (c,r.1)) /\
   (∀(s:g_) (u:f_),BindsTo s fd ⟨[u],[]⟩ [(x,u)])/\(∀base:Heap,(K w.params).In base->base.Ns mainGlobals mg->iX mg base->lD l.prog w (K w.params) mg base CX0 k fa fd [x] sp) /\
   ∀(H:Hp) (a:e_) (ns:List Int),ns.length<=n->(∀r∈tabs,Do H r.1 r.2)->SqL (K w.params) H a (ns.map V.int)->sp [.ref a] H (λv _=>v = .bl c_) λ_ _ _=>False):
  PySem.W.WalkO q loose XP YP l.row.toRowW d [] (λf vs=>PySem.call f vs):=by
 refine Att.attach_call hn hdf λw s₀ ZV mg mb fa o pm cd doc a vs ns C' Y ho hd Z4 hmg WR hints hlen hg=>?_;have kx:=hY w _ Y;obtain⟨tabs,fd,sp,hT,hb,hF,YD⟩:=F w mg fa _ kx C'.T.g hmg;refine Lz kx C'.T.g C'.T.b C'.T.builtins C'.T.nolimit C'.T.bmain hg WR hints (aK hlen XU) hr (λr hr=>?_) hF hb λH h1 h2=>YD H a ns hlen h1 h2;obtain⟨h1,x',d',c,h2,h3⟩:=hT r hr;obtain⟨h4,h5⟩:=PySem.W.tab_of C'.T kx h2 h3;exact⟨h1,c,h4.tab h5⟩
end _G
namespace _G
open PySem PySem.Spec _L
variable{p:List f_->Prop}
theorem usC{n:Nat}(h:∀a us,1#3=n->p (a::us)):∀us:List f_,1#3=n+1->p us:=λus hl=>by
 cases us<;>simp_all
theorem us0(h:p []):∀us:List f_,1#3=0->p us
 |[],_=>h
theorem us1(h:∀a,p [a]):∀us:List f_,1#3=1->p us:=usC λa us hl=>d7 hl▸h a
theorem us2(h:∀a b,p [a,b]):∀us:List f_,1#3=2->p us:=usC λa=>us1 (h a)
theorem us3(h:∀a b c,p [a,b,c]):∀us:List f_,1#3=3->p us:=usC λa=>us2 (h a)
theorem TOk.nm{M:Mo}{T:Tb}{k:Nat}(h:TOk M T k)(x:Str):TOk M ⟨T.D,T.C,[],T.H,d_,T.Z.to x⟩ k:=⟨h.D,h.C,h.B,λ_ _ e=>(by cases e),λz=>(by cases z),h.Z⟩
def Bd(x:Str)(st:Stmt)(ps:List Str):Prop:= ∀(kV doc pm:f_) (an:Option e_) (cdv ct:f_) (us:List f_),1#3=8#1->bindArgs 20#5 ⟨us,[]⟩=pure (ps.zip us)
structure Ch(P:Program)(w:World)(K:ao)(mg:Str->Option f_)(tabs:List (e_×Str))(T:Tb)(k:Nat):Prop where
 o:∀(caps:List U) (capv:List V) (cds:List (e_×Obj)) (base:Heap),iX mg base->TOk ⟨P,w,⟨K,caps,capv,cds,tabs⟩,mg,base,b_⟩ T k
 h:∀(caps:List U) (capv:List V) (cds:List (e_×Obj)) (base:Heap),iX mg base->∀y F,T.H.lookup y=a_ F->∃k' ps,k'<=k/\FnC ⟨P,w,⟨K,caps,capv,cds,tabs⟩,mg,base,b_⟩ y k' ps F
 r:∀(caps:List U) (capv:List V) (cds:List (e_×Obj)) (base:Heap),iX mg base->∀y vf,T.Z.F.lookup y=a_ vf->∃k' d,d<=3/\k'<=k/\FnR ⟨P,w,⟨K,caps,capv,cds,tabs⟩,mg,base,b_⟩ T.Z.cl y k' d vf
theorem zC{M:Mo}{Fs:List (Str×VF)}{cl:Nat->e_}{j k:Nat}(h:∀y vf,Fs.lookup y=a_ vf->∃k' d,d<=3/\k'<=j/\FnR M cl y k' d vf)(hj:j<=k):∀y vf,Fs.lookup y=a_ vf->∃k' d,d<=3/\k'<=k/\FnR M cl y k' d vf:=λy vf hy=>
 let ⟨k',d,hd,a,b⟩:=h y vf hy;⟨k',d,hd,aK a hj,b⟩
section
variable {P:Program}{w:World}{K:ao}{mg:Str->Option f_}{tabs:List (e_×Str)}{T T':Tb}{k j:Nat}{h:Heap}{x:Str}{st:Stmt}{N ps:List Str}{ms:MS}{fu:Nat}
theorem Ch.dfn(c:Ch P w K mg tabs T k)(O:∀(caps:List U) (capv:List V) (cds:List 2#7) (base:Heap),iX mg base->TOk ⟨P,w,⟨K,caps,capv,cds,tabs⟩,mg,base,b_⟩ T' k)(h1:T'.mkr=d_)(X:K.In h)(Gn:h.Ns mainGlobals mg)(D:Def K x st)(S:bh N ps (aG st))(hb:Bd x st ps)
  (hc:cB T' fu N (aG st).names (dB st)=a_ ms):Ch P w K mg tabs ⟨(x,run ps.length N.length ms)::T.D,T.C,T.L,T.H,T.mkr,T.Z⟩ (k+1):=
 ⟨λa b d e f=>(c.o a b d e f).cons (D.fn (O a b d e f) rfl h1 X Gn S hb hc) (fT k),λa b d e f=>uE (c.h a b d e f) (fT k),λa b d e f=>zC (c.r a b d e f) (fT k)⟩
theorem Ch.cls{y:Str}{msC:e_->MF->MS}(c:Ch P w K mg tabs T k)(h1:T.mkr=d_)(hL:T.L=[])(X:K.In h)(Gn:h.Ns mainGlobals mg)(D:Def K x st)(S:bh N ps (aG st))(hb:Bd x st ps)
  (hc:∀g φ,cB ⟨T.D,T.C,[(y,g,φ)],T.H,T.mkr,T.Z⟩ fu N (aG st).names (dB st)=a_ (msC g φ)):Ch P w K mg tabs ⟨T.D,T.C,T.L,(x,λg φ=>run ps.length N.length (msC g φ))::T.H,T.mkr,T.Z⟩ k:=
 ⟨λa b d e f=>(c.o a b d e f).setH,λa b d e f=>NI (c.h a b d e f) (D.fnC c.o h1 hL X Gn S hb hc) (ak k) (ak k),c.r⟩
theorem Ch.lam_{a p:e_}{nm:Str}(c:Ch P w K mg tabs T k)(h1:T.mkr=d_)(hL:T.L=[])(hm:(p,x++".<locals>."++nm)∈tabs)(nd:(tabs.map (·.1)).Nodup)(hg:mainGlobals≠p)(X:K.In h)(Gn:h.Ns mainGlobals mg)(D:pj K x st a p)(S:bh N ps (aG st))(hb:Bd x st ps)
  (hc:cB 21#9 fu N (aG st).names (dB st)=a_ ms):Ch P w K mg tabs ⟨(x,run ps.length N.length ms)::T.D,T.C,T.L,T.H,T.mkr,T.Z⟩ (k+5):=
 ⟨λa b d e f=>(c.o a b d e f).cons (D.fn rfl c.o (c.o a b d e f) hL h1 (uE (c.h a b d e f) (fT k)) (zC (c.r a b d e f) (fT k)) (D.mkr f X Gn hm nd hg) X Gn S hb hc) (fB k 5),λa b d e f=>uE (c.h a b d e f) (fB k 5),λa b d e f=>zC (c.r a b d e f) (fB k 5)⟩
end
def Tb.dd(T:Tb)(x:Str)(f:MF):Tb:=⟨(x,f)::T.D,T.C,[],T.H,d_,T.Z⟩
def Tb.hh(T:Tb)(x:Str)(F:e_->MF->MF):Tb:=⟨T.D,T.C,[],(x,F)::T.H,d_,T.Z⟩
def Tb.xx(T:Tb)(x:Str)(f:MF)(r:RF):Tb:=⟨(x,f)::T.D,T.C,[],T.H,d_,⟨(x,r)::T.Z.R,T.Z.F,T.Z.cl,T.Z.nm⟩⟩
def Tb.qq(T:Tb)(x:Str)(vf:VF):Tb:=⟨T.D,T.C,[],T.H,d_,⟨T.Z.R,(x,vf)::T.Z.F,T.Z.cl,T.Z.nm⟩⟩
abbrev cD(T:Tb)(N:List Str)(st:Stmt):Option MS:=cB T 80 N (aG st).names (dB st)
def fsB(N P:List Str)(sc:Scope):Bool:=sc.kind==.function && !sc.isCoroutine && !sc.isGenerator&&decide N.Nodup&&N.take 4#3==P&&P.all (λx=>sc.names.lookup x==a_ .local||sc.names.lookup x==a_ .cell)&&sc.names.all λy=>!(y.2==.free)
theorem d9{N P:List Str}{sc:Scope}(h:fsB N P sc=c_):bh N P sc:=by
 unfold fsB at h;simp only[aE]at h;obtain⟨⟨⟨⟨⟨⟨h1,h2⟩,h3⟩,h4⟩,h5⟩,h6⟩,h7⟩:=h;refine⟨eq_of_beq h1,by simpa using h2,by simpa using h3,of_decide_eq_true h4,eq_of_beq h5,λx hx=>?_,λy hy z=>?_⟩<;>grind
def RK(K:ao):List (Str×Stmt)->Prop
 |[]=>True
 |p::r=>Def K p.1 p.2/\RK K r
end _G
namespace _W
open PySem PySem.Spec _L _G
def jF:MS:=aX (sIf (cOf (m2 oLt 0#9 7#7)) (cb (m2 oIx 0#5 0#9)) dw) (cb 1#8)
def lh:MF:=run 2 2 jF
def tS:MS:=aX (bC 2 (mFn lh 5#2)) (aX (sIf (cOf (m2 oGe 0#6 (m2 DJ (mC (.int 10)) (mC (.int 18))))) (cb (dP (aa (m2 vY 0#6 (m2 DJ (mC (.int 10)) (mC (.int 18)))) (aa 14#1 ah)))) dw) (cb (dP (aa (m2 oMod 0#6 (mC (.int 2147483647))) (aa (mC (.bl d_)) ah)))))
def nK:MF:=run 2 3 tS
def mI:MS:=aX (sIf (cOf (m2 oIx 0#5 1#9)) (aX (bC 2 (m2 oMod (m2 oIx 0#5 1#8) 0#9)) (aX (gf 0#5 1#8 (m2 oDiv (m2 oIx 0#5 1#8) 0#9)) (cb 0#6))) dw) (aX (gf 0#5 1#8 (m2 oMod (m2 eP (m2 il (m2 oIx 0#5 1#8) (mC (.int 48271))) (mC (.int 29))) (mC (.int 2147483647)))) (aX (bC 3 (m2 oMod (m2 eP (m2 eP (m2 il (m2 oIx 0#5 1#8) (m2 oIx 0#5 1#8)) (m2 il (mC (.int 39373)) (m2 oIx 0#5 1#8))) (mC (.int 7))) (mC (.int 2147483629)))) (aX (bC 3 (m2 oMod (m2 eP (m2 il 0#8 0#8) (m2 il (mC (.int 16807)) 0#8)) (mC (.int 2147483587)))) (cb (m2 oMod (m2 oDiv 0#8 (mC (.int 8))) 0#9)))))
def bA:MF:=run 2 4 mI
def nz:MS:=cb (mFn bN (aa (bW (iR1 12#3) cTT (mFn bN (aa (bW (iR1 12#3) cTT (m2 oMod (m2 eP 0#9 0#6) 0#5)) ah))) ah))
def dO:MF:=run 1 1 nz
def tZ:MS:=aX (bC 1 (dP ah)) (aX (fj 2 (iR1 (aa (m2 il 2#2 0#5) ah)) (aX (bC 3 (dP ah)) (aX (fj 4 (iR1 (aa (m2 il 2#2 0#5) ah)) (aX (bC 5 (m2 oMod (m2 eP (m2 oMod 0#6 0#5) (m2 il (m2 oIx (dP (aa 1#9 (aa (m1 lM 1#9) ah))) (m2 oDiv 0#6 0#5)) (m2 oMod (ae 4) 0#5))) 0#5)) (eG (mML de 0#8 (aa (m2 eP (ae 5) (m2 il 0#5 (m2 oMod (m2 eP (m2 oDiv 0#6 0#5) (m2 oDiv (ae 4) 0#5)) 2#2))) ah))))) (eG (mML de 0#9 (aa (mFn bN (aa 0#8 ah)) ah)))))) (cb (mFn bN 13#1)))
def gR:MF:=run 1 6 tZ
def pO:MS:=aX (bC 0 (dP (aa (dP (aa 1#8 (aa 1#8 (aa 1#8 9#7)))) (aa (dP (aa 1#8 (aa 1#9 (aa 1#8 (aa 1#9 ah))))) (aa (dP (aa 1#8 (aa 1#9 (aa 1#9 9#7)))) (aa (dP (aa 1#8 (aa 1#8 (aa 1#9 (aa 1#9 ah))))) ah)))))) (aX (bC 1 (dP (aa (dP (aa 1#8 (aa 1#9 (aa 2#2 (aa 7#1 ah))))) (aa (dP (aa 1#9 (aa 1#8 (aa 7#1 (aa 2#2 ah))))) (aa (dP (aa 2#2 (aa 7#1 (aa 1#8 (aa 1#9 ah))))) (aa (dP (aa 7#1 (aa 2#2 (aa 1#9 9#7)))) ah)))))) (aX (bC 2 (dP ah)) (aX (fj 3 (iR1 (aa (mC (.int 8)) ah)) (aX (bC 4 (dP ah)) (aX (fj 5 (iR1 (aa (mC (.int 8)) ah)) (aX (bC 6 (m2 oMod (m2 eP (m2 eP 0#8 (ae 5)) (m2 oIx (m2 oIx 0#5 (m2 oDiv 0#8 2#2)) (m2 oDiv (ae 5) 2#2))) 2#2)) (eG (mML de (ae 4) (aa (m2 eP 23#7 (ae 6)) ah))))) (eG (mML de 0#6 (aa (mFn bN 5#3) ah)))))) (cb (mFn bN 4#0)))))
def jE:MF:=run 0 7 pO
def vM:MS:=aX (bC 2 (mFn cp 13#1)) (aX (bC 3 (dP ah)) (aX (fj 4 (iR1 (aa (m2 il 7#7 0#6) ah)) (aX (bC 5 (dP ah)) (aX (fj 6 (iR1 (aa (m2 il 7#7 0#6) ah)) (aX (bC 7 (m2 oIx (m2 oIx 0#5 (m2 oDiv (ae 4) 0#6)) (m2 oDiv (ae 6) 0#6))) (eG (mML de (ae 5) (aa (m2 eP (m2 il (ae 7) 0#6) (m2 oIx (m2 oIx 0#9 (m2 oMod (ae 4) 0#6)) (m2 oMod (ae 6) 0#6))) ah))))) (eG (mML de 0#8 (aa (mFn bN 6#5) ah)))))) (cb (mFn bN (aa 0#8 ah)))))
def mG:MF:=run 2 8 vM
def t7:MS:=cb (mFn bN (aa (bW (dh 0#9) cTT (mFn bN (aa (bW (dh 0#9) cTT (mMT eZ 0#9 (aa (m2 oIx (m2 oIx 0#5 0#6) 0#8) ah))) ah))) ah))
def k6:MF:=run 2 2 t7
def tW:MS:=aX (bC 2 (iF (iR2 (aa 1#9 13#1)))) (cb (m2 eP (iS 9#7) (mFn bN (aa (bW (iR1 (aa (m2 vY 0#9 1#9) ah)) cTT (mML nU 0#6 (aa (mFn bA (aa 0#5 (aa (mFn cp 4#0) ah))) ah))) ah))))
def iL:MF:=run 2 3 tW
def nV:MS:=aX (bC 2 (mFn bA (aa 0#5 (aa (mC (.int 8)) ah)))) (aX (bC 3 (mFn dO (aa (m2 eP 1#9 (mFn bA 5#2)) ah))) (aX (sIf (cOr (cOf (m2 oEq 0#6 1#9)) (cOf (m2 oEq 0#6 2#2))) (bC 3 (mFn gR (aa (m2 eP 1#9 (mFn bA (aa 0#5 (aa (m2 oDiv 0#9 2#2) ah)))) ah))) dw) (aX (sIf (nu (cOf (m2 oEq 0#6 7#1)) (cOf (m2 oGt 0#9 (mC (.int 7))))) (bC 3 (mFn jE ah)) dw) (aX (sIf (cOf (m2 oGt 0#6 7#1)) (aX (bC 4 (m2 eP 2#2 19#4)) (aX (bC 5 (m2 oIx 26#5 (mFn bA (aa 0#5 (aa 2#2 ah))))) (aX (sIf (cOf (m2 oGt (mFn cp 6#5) 0#9)) (bC 5 (mFn dO 5#3)) dw) (bC 3 (mFn mG (aa (ae 5) (aa (mFn dO (aa (m2 eP 1#9 (mFn bA (aa 0#5 (aa (m2 oDiv 0#9 (mFn cp 6#5)) ah)))) ah)) ah))))))) dw) (aX (sIf (cOf (m2 oEq 19#4 1#8)) (bC 3 (mFn k6 (aa 0#8 (aa (mFn iL (aa 0#5 (aa 8#4 ah))) ah)))) dw) (cb 0#8))))))
def ox:MF:=run 2 6 nV
end _W
namespace _W
structure Grp(m:Nat)(T:Nat->Nat->Nat):Prop where
 pos:0<m
 cl:∀i j,i<m->j<m->T i j<m
 l0:∀i,i<m->T 0 i=i
 r0:∀i,i<m->T i 0=i
 inv:∀i,i<m->∃j,j<m/\T i j=0/\T j i=0
 as:∀i j k,i<m->j<m->k<m->T (T i j) k=T i (T j k)
def gS(n:Nat):Nat->Nat->Nat:=λi j=>(i+j)%n
variable{n:Nat}
theorem lJ(h:0<n):Grp n (gS n) where
 pos:=h
 cl:=λi j _ _=>jx _ h
 l0:=λi hi=>by unfold gS;rw[fU];exact cg hi
 r0:=λi hi=>by exact cg hi
 inv:=λi hi=>by
  by_cases h0:i=0
  .subst h0;exact⟨0,h,by simp[gS],by simp[gS]⟩
  .refine⟨n-i,by lia,?_,?_⟩<;>unfold gS
   .rw[show i+(n-i)=n by lia,qx]
   .rw[show n-i+i=n by lia,qx]
 as:=λi j k _ _ _=>by
  unfold gS;rw[qC,Nat.add_mod_mod,eU]
def jj(n:Nat):Nat->Nat->Nat:=λi j=>
 (if i<n then(i%n+j%n)%n else(i%n+(n-j%n))%n)+n*((i/n+j/n)%2)
variable{i:Nat}
theorem half(h:i<2*n):(i<n/\i%n=i/\i/n=0)\/(n<=i/\i%n=i-n/\i/n=1):=by
 by_cases hi:i<n
 .exact .inl ⟨hi,cg hi,iV hi⟩
 .refine .inr ⟨by lia,?_,?_⟩
  .rw[Nat.mod_eq_sub_mod 0#0,cg 0#0]
  .exact Nat.div_eq_of_lt_le 0#0 0#0
variable{a b:Nat}
theorem gg(ha:a<n)(hb:b<n):jj n a b=(a+b)%n:=by
 unfold jj;rw[if_pos ha,iV ha,iV hb];simp
theorem L5(ha:a<n):(n+a)/n=1:=Nat.div_eq_of_lt_le 0#0 0#0
theorem Ww(ha:a<n):(n+a)%n=a:=by rw[Nat.add_mod_left];exact cg ha
theorem jH(ha:a<n)(hb:b<n):jj n a (n+b)=n+(a+b)%n:=by
 unfold jj;rw[if_pos ha,iV ha,L5 hb];simp;lia
theorem jB(ha:a<n)(hb:b<n):jj n (n+a) b=n+(a+(n-b))%n:=by
 unfold jj;rw[if_neg 0#0,cg hb,iV hb,L5 ha];simp;lia
theorem jC(ha:a<n)(hb:b<n):jj n (n+a) (n+b)=(a+(n-b))%n:=by
 unfold jj;rw[if_neg 0#0,Ww hb,L5 ha,L5 hb];simp
theorem We(ha:a<n)(hb:b<n):(a+b)%n=if a+b<n then a+b else a+b-n:=by
 split
 .exact cg 2#3
 .rw[Nat.mod_eq_sub_mod 0#0,cg 2#3]
theorem VS(ha:a<n)(hb:b<n):(a+(n-b))%n=if b<=a then a-b else a+n-b:=by
 have e:=Nat.add_sub_assoc (aI hb) a
 split
 .rename_i h
  rw[<-e,pA h,ni,cg (aM (qy a b) ha)]
 .rename_i h
  rw[cg (Nat.lt_of_lt_of_eq (Nat.add_lt_add_right (Nat.lt_of_not_le h) _) (Nat.add_sub_cancel' (aI hb))),e]
theorem oa(h:i<2*n):(i<n) \/ ∃a,a<n/\i=n+a:=by
 by_cases hi:i<n
 .exact .inl hi
 .exact .inr ⟨i-n,by lia,by lia⟩
variable{c:Nat}
theorem NN:((a+b)%n+c)%n=(a+(b+c)%n)%n:=by rw[qC,Nat.add_mod_mod,eU]
theorem Tf(hb:b<n)(hc:c<n):((a+(n-b))%n+(n-c))%n=(a+(n-(b+c)%n))%n:=by
 rw[qC,We hb hc]
 split
 .rename_i h
  have h1:n-b=n-(b+c)+c:=by rw[Nat.sub_add_eq,mS (Nat.le_sub_of_add_le' (aI h))]
  rw[h1,<-eU,eU _ c,Nat.add_sub_cancel' (aI hc),ni]
 .rename_i h
  rw[<-nj b (aI hc),nj n (Nat.sub_le_of_le_add (d5 h)),pA (aI hb),eU]
theorem TJ(hb:b<n)(hc:c<n):((a+(n-b))%n+c)%n=(a+(n-(b+(n-c))%n))%n:=by
 rw[qC,VS hb hc]
 split
 .rename_i h
  rw[nj n h,pA (aI hb),eU]
 .rename_i h
  have h':=aI (Nat.lt_of_not_le h);rw[xW b n,<-nj n h',Nat.sub_sub_self (aK (qy c b) (aI hc)),<-ni (a+(c-b)) n,eU a _ n,xW _ n,<-Nat.add_sub_assoc h' n,pA (aI hb),eU]
theorem Ck(h:0<n):Grp (2*n) (jj n):=by
 have ml:∀x,x%n<n:=λx=>jx _ h;have cl:∀i j,i<2*n->j<2*n->jj n i j<2*n:=λi j hi hj=>by
  rcases oa hi with hi|⟨a,ha,rfl⟩<;>rcases oa hj with hj|⟨b,hb,rfl⟩
  .rw[gg hi hj];have:=ml (i+j);lia
  .rw[jH hi hb];have:=ml (i+b);lia
  .rw[jB ha hj];have:=ml (a+(n-j));lia
  .rw[jC ha hb];have:=ml (a+(n-b));lia
 refine⟨by lia,cl,λi hi=>?_,λi hi=>?_,λi hi=>?_,λi j k hi hj hk=>?_⟩
 .rcases oa hi with hi|⟨a,ha,rfl⟩
  .rw[gg h hi,fU,cg hi]
  .rw[jH h ha,fU,cg ha]
 .rcases oa hi with hi|⟨a,ha,rfl⟩
  .rw[gg hi h,Nat.add_zero,cg hi]
  .rw[jB ha h,Nat.sub_zero,ni,cg ha]
 .rcases oa hi with hi|⟨a,ha,rfl⟩
  .by_cases h0:i=0
   .subst h0;exact⟨0,by omega,by rw[gg h h];simp,by rw[gg h h];simp⟩
   .have hl:n-i<n:=by omega
    refine⟨n-i,by lia,?_,?_⟩
    .rw[gg hi hl,show i+(n-i)=n by omega,qx]
    .rw[gg hl hi,show n-i+i=n by omega,qx]
  .refine⟨_,by omega,?_,?_⟩<;>rw[jC ha ha,show a+(n-a)=n by omega,qx]
 .rcases oa hi with hi|⟨a,ha,rfl⟩<;>rcases oa hj with hj|⟨b,hb,rfl⟩<;>rcases oa hk with hk|⟨c,hc,rfl⟩
  .rw[gg hi hj,gg hj hk,gg (ml _) hk,gg hi (ml _),NN]
  .rw[gg hi hj,jH hj hc,jH (ml _) hc,jH hi (ml _),NN]
  .rw[jH hi hb,jB hb hk,jB (ml _) hk,jH hi (ml _),NN]
  .rw[jH hi hb,jC hb hc,jC (ml _) hc,gg hi (ml _),NN]
  .rw[jB ha hj,gg hj hk,jB (ml _) hk,jB ha (ml _),Tf hj hk]
  .rw[jB ha hj,jH hj hc,jC (ml _) hc,jC ha (ml _),Tf hj hc]
  .rw[jC ha hb,jB hb hk,gg (ml _) hk,jC ha (ml _),TJ hb hk]
  .rw[jC ha hb,jC hb hc,jH (ml _) hc,jB ha (ml _),TJ hb hc]
def vV(m:Nat)(A B:Nat->Nat->Nat):Nat->Nat->Nat:=λi j=>A (i/m) (j/m)*m+B (i%m) (j%m)
variable{m:Nat}
theorem Dy(hb:b<m):(a*m+b)/m=a/\(a*m+b)%m=b:=by
 have hm:0<m:=by lia
 constructor
 .rw[lV,Nat.mul_add_div hm,iV hb];rfl
 .rw[lV,Nat.mul_add_mod,cg hb]
theorem Im{k:Nat}{A B:Nat->Nat->Nat}(ga:Grp k A)(gb:Grp m B):Grp (k*m) (vV m A B):=by
 have hm:=gb.pos;have dl:∀i,i<k*m->i/m<k:=λi hi=>Nat.div_lt_of_lt_mul (by rw[lV];exact hi);have rl:∀i,i%m<m:=λi=>jx _ hm;have lt:∀a b,a<k->b<m->a*m+b<k*m:=λa b ha hb=>by
  have:(a+1)*m<=k*m:=iJ m ha;rw[Nat.add_mul]at this;lia
 refine⟨Nat.mul_pos ga.pos hm,λi j hi hj=>lt _ _ (ga.cl _ _ (dl i hi) (dl j hj)) (gb.cl _ _ (rl i) (rl j)),λi hi=>?_,λi hi=>?_,λi hi=>?_,λi j l hi hj hl=>?_⟩
 .unfold vV;rw[Nat.zero_div,Nat.zero_mod,ga.l0 _ (dl i hi),gb.l0 _ (rl i),lV];exact CJ i m
 .unfold vV;rw[Nat.zero_div,Nat.zero_mod,ga.r0 _ (dl i hi),gb.r0 _ (rl i),lV];exact CJ i m
 .obtain⟨a,ha,a1,a2⟩:=ga.inv _ (dl i hi)
  obtain⟨b,hb,b1,b2⟩:=gb.inv _ (rl i);obtain⟨p1,p2⟩:=Dy hb;refine⟨_,lt a b ha hb,?_,?_⟩<;>unfold vV<;>rw[p1,p2]
  .rw[a1,b1];simp
  .rw[a2,b2];simp
 .unfold vV
  obtain⟨p1,p2⟩:=Dy (gb.cl _ _ (rl i) (rl j));obtain⟨q1,q2⟩:=Dy (gb.cl _ _ (rl j) (rl l));rw[p1,p2,q1,q2,ga.as _ _ _ (dl i hi) (dl j hj) (dl l hl),gb.as _ _ _ (rl i) (rl j) (rl l)]
def Uw:List 3#6:= [[0,1,2,3,4,5,6,7],[1,0,3,2,5,4,7,6],[2,3,1,0,6,7,5,4],[3,2,0,1,7,6,4,5],[4,5,7,6,1,0,2,3],[5,4,6,7,0,1,3,2],[6,7,4,5,3,2,1,0],[7,6,5,4,2,3,0,1]]
def i6:Nat->Nat->Nat:=λi j=>(Uw.getD i []).getD j 0
def q1:Bool:=(aq 8).all λi=>(i6 0 i==i)&&(i6 i 0==i)&&((aq 8).any λj=>(i6 i j==0)&&(i6 j i==0))&&(aq 8).all λj=>decide (i6 i j<8)&&(aq 8).all λk=>i6 (i6 i j) k==i6 i (i6 j k)
theorem R5:q1=c_:=by decide +kernel
theorem F4:Grp 8 i6:=by
 have h:=dc.mp R5;have g:=λi hi=>h i (aA.mpr hi);simp at g;refine⟨by decide,λi j hi hj=>((g i hi).2 j hj).1,λi hi=>(g i hi).1.1.1,λi hi=>(g i hi).1.1.2,λi hi=>?_,λi j k hi hj hk=>((g i hi).2 j hj).2 k hk⟩
 simp_all
structure Ord(m:Nat)(o p:Nat->Nat):Prop where
 ol:∀i,i<m->o i<m
 pl:∀i,i<m->p i<m
 po:∀i,i<m->p (o i)=i
 op:∀i,i<m->o (p i)=i
 o0:o 0=0
def ic(T:Nat->Nat->Nat)(o p:Nat->Nat):Nat->Nat->Nat:=λi j=>p (T (o i) (o j))
variable{T:Nat->Nat->Nat}
theorem sf{o p:Nat->Nat}(g:Grp m T)(h:Ord m o p):Grp m (ic T o p):=by
 have p0:=by have:=h.po 0 g.pos;rwa[h.o0]at this
 refine⟨g.pos,λi j hi hj=>h.pl _ (g.cl _ _ (h.ol i hi) (h.ol j hj)),λi hi=>?_,λi hi=>?_,λi hi=>?_,λi j k hi hj hk=>?_⟩
 .unfold ic;rw[h.o0,g.l0 _ (h.ol i hi),h.po i hi]
 .unfold ic;rw[h.o0,g.r0 _ (h.ol i hi),h.po i hi]
 .obtain⟨j,hj,a,b⟩:=g.inv _ (h.ol i hi)
  refine⟨_,h.pl j hj,?_,?_⟩<;>unfold ic<;>rw[h.op j hj]<;>simp_all
 .unfold ic
  rw[h.op _ (g.cl _ _ (h.ol i hi) (h.ol j hj)),h.op _ (g.cl _ _ (h.ol j hj) (h.ol k hk)),g.as _ _ _ (h.ol i hi) (h.ol j hj) (h.ol k hk)]
theorem jq{α:Type}:∀(l:List α) (i:Nat) (h:i<2#8),(l[i]::l.eraseIdx i).Perm l
 |x::l,0,_=>by simp
 | x::l,i+1,h=>by
   have h':=by simpa using h
   have:=jq l i h';exact(List.Perm.swap _ _ _).trans (this.cons x)
theorem NG{l:List Nat}(nd:l.Nodup)(h:i<2#8):l.idxOf l[i]=i:=by
 grind
structure qQ(m:Nat)(l:List Nat):Prop where
 perm:l.Perm (aq m)
 z:l[0]?=a_ 0
def oF(l:List Nat):Nat->Nat:=λi=>l.getD i 0
def pF(l:List Nat):Nat->Nat:=λx=>l.idxOf x
section
variable {m:Nat}{l:List Nat}
theorem qQ.len(h:qQ m l):l.length=m:=by have:=h.perm.length_eq;simpa using this
theorem qQ.nd(h:qQ m l):l.Nodup:=h.perm.nodup_iff.mpr kh
theorem qQ.mem(h:qQ m l){x:Nat}:x∈l↔x<m:=by rw[h.perm.mem_iff,aA]
theorem qQ.get(h:qQ m l)(hi:i<m):l[i]?=a_ (oF l i):=by
 have hl:i<2#8:=by rw[h.len];omega
 simp[oF,hl]
theorem qQ.ord(h:qQ m l):Ord m (oF l) (pF l) where
 ol:=λi hi=>h.mem.mp (bK (h.get hi))
 pl:=λx hx=>by
  have:=nk.mpr (h.mem.mpr hx);rw[h.len]at this;exact this
 po:=λi hi=>by
  have hl:i<2#8:=by rw[h.len];omega
  have e:oF l i=l[i]:=by simp[oF,hl]
  rw[e];exact NG h.nd hl
 op:=λx hx=>by
  have h1:=nk.mpr (h.mem.mpr hx);unfold oF pF
  simp_all
 o0:=by
  unfold oF;rw[aP,h.z];rfl
end
theorem GU{xs:List Nat}(hm:0<m)(h:xs.Perm (ba 1 (m-1))):qQ m (0::xs):=by
 refine⟨?_,rfl⟩;have e:aq m=0::ba 1 (m-1):=by
  rw[rQ];have:m=(m-1)+1:=by lia
  rw[this,List.range'_succ];simp
 simp_all
section
variable {m:Nat}{T:Nat->Nat->Nat}
theorem Grp.cancel(g:Grp m T)(ha:a<m)(hb:b<m)(hc:c<m)(h:T a b=T a c):b=c:=by
 obtain⟨i,hi,h1,h2⟩:=g.inv a ha;have e1:T i (T a b)=b:=by rw[<-g.as i a b hi ha hb,h2,g.l0 b hb]
 have e2:T i (T a c)=c:=by rw[<-g.as i a c hi ha hc,h2,g.l0 c hc]
 simp_all
theorem Grp.cancelR(g:Grp m T)(ha:a<m)(hb:b<m)(hc:c<m)(h:T b a=T c a):b=c:=by
 obtain⟨i,hi,h1,h2⟩:=g.inv a ha;have e1:T (T b a) i=b:=by rw[g.as b a i hb ha hi,h1,g.r0 b hb]
 have e2:T (T c a) i=c:=by rw[g.as c a i hc ha hi,h1,g.r0 c hc]
 simp_all
theorem Grp.inv1(g:Grp m T)(hi:i<m):∃j,j<m/\T i j=0/\T j i=0 /\ ∀k,k<m->T i k=0->k=j:=by
 obtain⟨j,hj,h1,h2⟩:=g.inv i hi;exact⟨j,hj,h1,h2,λk hk h=>g.cancel hi hk hj (h.trans h1.symm)⟩
def pw(T:Nat->Nat->Nat)(x:Nat):Nat->Nat
 |0=>0
 |n+1=>T (pw T x n) x
theorem gF(g:Grp m T){x:Nat}(hx:x<m):∀n,pw T x n<m
 |0=>g.pos
 |n+1=>g.cl _ _ (gF g hx n) hx
theorem si(g:Grp m T){x:Nat}(hx:x<m)(a:Nat):∀b,pw T x (a+b)=T (pw T x a) (pw T x b)
 |0=>by show pw T x a=T _ 0;rw[g.r0 _ (gF g hx a)]
 | b+1=>by
   show T (pw T x (a+b)) x=T _ (T _ x);rw[si g hx a b,g.as _ _ _ (gF g hx a) (gF g hx b) hx]
theorem E2(g:Grp m T){x:Nat}(hx:x<m)(ZU:a<=b)(h:pw T x a=pw T x b):pw T x (b-a)=0:=by
 have e:b=a+(b-a):=by lia
 rw[e,si g hx]at h;have e2:T (pw T x a) 0=T (pw T x a) (pw T x (b-a)):=by rw[g.r0 _ (gF g hx a)];lia
 exact(g.cancel (gF g hx a) g.pos (gF g hx _) e2).symm
end
theorem se:∀(m:Nat) (l:List Nat),l.Nodup->(∀x∈l,x<m)->2#8<=m
 | 0,l,_,h=>by
   cases l with
   |nil=>simp
   |cons x l=>exact absurd (h x 0#3) 0#0
 | m+1,l,nd,h=>by
   have h1:=se m _ (nd.erase m) λx hx=>by
    grind
   grind
theorem KC{f:Nat->Nat}(h:∀i,i<=m->f i<m):∃i j,i<j/\j<=m/\f i=f j:=by
 apply iu;intro no;have inj:=λi j h1 h2 e=>no ⟨i,j,h1,h2,e⟩;have nd:((aq (m+1)).map f).Nodup:=by
  rw[ay,aW];refine bM ?_ (eF)
  grind
 have:=se m _ nd (λx hx=>by
  obtain⟨i,hi,rfl⟩:=aw.mp hx
  exact h i (by have:=aA.mp hi;exact d8 (by omega)))
 simp at this
 grind
theorem least{P:Nat->Prop}:∀n,P n->∃k,k<=n/\P k /\ ∀j,j<k->¬P j:=by
 intro n
 induction n using Nat.strongRecOn with
 | ind n ih=>
   intro h;by_cases hx:∃j,j<n/\P j
   .obtain⟨j,hj,hp⟩:=hx
    obtain⟨k,h1,h2,h3⟩:=ih j hj hp<;>grind
   .exact⟨n,ak _,h,λj hj hp=>hx ⟨j,hj,hp⟩⟩
theorem Grp.ord(g:Grp m T){x:Nat}(hx:x<m):∃n,1<=n/\n<=m/\pw T x n=0 /\ ∀k,1<=k->k<n->pw T x k≠0:=by
 obtain⟨a,b,h1,h2,h3⟩:=KC λi _=>gF g hx i;have h4:=E2 g hx (aI h1) h3;obtain⟨n,k1,⟨k2,k3⟩,k4⟩:=least (P:=λn=>1<=n/\pw T x n=0) _ ⟨by lia,h4⟩;exact⟨n,k2,by lia,k3,λj j1 j2 j3=>k4 j j2 ⟨j1,j3⟩⟩
theorem idx_map{f:Nat->Nat}{x:Nat}:∀(n s k:Nat),s<=k->k<s+n->f k=x->(∀j,s<=j->j<k->f j≠x)->((ba s n).map f).idxOf x=k-s
 |0,s,k,h1,h2,_,_=>by lia
 | n+1,s,k,h1,h2,hp,hn=>by
   rw[List.range'_succ,dy,AF];by_cases hs:s=k
   .subst hs;simp[hp]
   .have hb:(f s==x)=d_:=by simpa using hn s 2#1 (by exact bH 0#4 0#4)
    rw[hb];simp only[cond_false];rw[idx_map n (s+1) k (by exact bH 0#4 0#4) 0#0 hp λj h1 h2=>hn j 12#7 h2]
    lia
end _W
namespace _W
open _L _G
def Ex(S S':Sto):Prop:= ∃t,S'=S++t
theorem Ex.refl(S:Sto):Ex S S:=⟨[],by simp⟩
variable{S S1 S2:Sto}
theorem Ex.trans(a:Ex S S1)(b:Ex S1 S2):Ex S S2:=by
 obtain⟨t,rfl⟩:=a;obtain⟨u,rfl⟩:=b;exact⟨t++u,by simp⟩
theorem Ex.push(S:Sto)(c:Cell):Ex S (S++[c]):=⟨_,rfl⟩
variable{S':Sto}{n:Nat}
theorem Ex.get(h:Ex S S')(hn:n<0#7):S'[n]?=S[n]? := by
 obtain⟨t,rfl⟩:=h;exact aT hn
variable{c:Cell}
theorem Ex.some(h:Ex S S')(e:S[n]?=a_ c):S'[n]?=a_ c:=by
 rw[h.get (ag.mp e).1];omega
theorem Ex.len(h:Ex S S'):0#7<=S'.length:=by
 obtain⟨t,rfl⟩:=h;simp
def pq(n:Nat)(S:Sto):Prop:= ∃s b,S[n]?=a_ (.lst [.int s,.bl b])
structure Stp(n:Nat)(S S':Sto):Prop where
 len:S.length<=S'.length
 same:∀m,m<S.length->m≠n->S'[m]?=S[m]?
 st:pq n S'
theorem Stp.refl(h:pq n S):Stp n S S:=⟨ak _,λ_ _ _=>rfl,h⟩
theorem Stp.trans{n:Nat}{S S1 S2:Sto}(a:Stp n S S1)(b:Stp n S1 S2):Stp n S S2:=
 ⟨aK a.len b.len,λm h1 h2=>(b.same m (ai h1 a.len) h2).trans (a.same m h1 h2),b.st⟩
theorem pq.lt(h:pq n S):n<0#7:=by
 obtain⟨s,b,e⟩:=h;exact(ag.mp e).1
theorem pq.ex(h:pq n S)(e:Ex S S'):pq n S':=by
 obtain⟨s,b,q⟩:=h;exact⟨s,b,e.some q⟩
theorem Stp.ex{n:Nat}{S S':Sto}(h:pq n S)(e:Ex S S'):Stp n S S':=⟨e.len,λm h1 _=>e.get h1,h.ex e⟩
variable{m:Nat}
theorem Stp.some(h:Stp n S S')(hm:m≠n)(e:S[m]?=a_ c):S'[m]?=a_ c:=by
 rw[h.same m (ag.mp e).1 hm];omega
theorem EN{many:Int}(h:pq n S)(hm:0<many)(Zl:many<1073741824):
  ∃r S',bA [.ref n,.int many] S=a_ (.int r,S')/\0<=r/\r<many/\Stp n S S'/\S'.length=0#7:=by
 obtain⟨s,b,e⟩:=h;have hn:=(ag.mp e).1;have hd:vR many:=⟨hm,Zl⟩;have hd8:vR 8:=15#1;cases b with
 | true=>
   refine⟨s%many,S.set n (.lst _),?_,CK _ 0#0,xk _ hm,⟨by simp,λm h1 h2=>by rw[aN (eI h2)],⟨s/many,c_,by rw[aV hn]⟩⟩,by simp⟩;simp[bA,_G.run,mI,aX,sIf,cOf,m2,ae,mC,bnd,oIx,gM,eB,getL,e,atI,ixN,bC,oMod,oDiv,hm,hd,gf,cb]
 | false=>
   have b1:∀x m,0<m->m<4294967296->kY (x%m) (x%m):=λx m h1 h2=>by
    have h3:=CK x (show m≠0 by lia);have h4:=xk x h1;exact .inl ⟨by lia,by lia⟩
   have hg:∀c,(S.set n c)[n]?=Option.some c:=λc=>aV hn;have k1:kY s 48271:= .inr 15#1;have k2:=b1 (s*48271+29) 2147483647 0#2 0#2;generalize L2:(s*48271+29)%2147483647=s1 at k2;have k3:kY 39373 s1:= .inl 15#1;have k4:=b1 (s1*s1+39373*s1+7) 2147483629 0#2 0#2;generalize XG:(s1*s1+39373*s1+7)%2147483629=m1 at k4;have k5:kY 16807 m1:= .inl 15#1;refine⟨(m1*m1+16807*m1)%2147483587/8%many,S.set n (.lst _),?_,CK _ 0#0,xk _ hm,⟨by simp,λm h1 h2=>by rw[aN (eI h2)],⟨s1,d_,by rw[aV hn]⟩⟩,by simp⟩;simp[bA,_G.run,mI,aX,sIf,cOf,m2,ae,mC,bnd,oIx,gM,eB,getL,e,atI,ixN,bC,oMod,oDiv,eP,il,hm,hd,gf,cb,dw,hg,k1,k2,k3,k4,k5,L2,XG,hd8]
theorem vK{i:Nat}{b:MS}(P:Nat->Rho->Sto->Prop):∀(us:List U) (k:Nat) (G:Rho) (S:Sto),P k G S ->
  (∀(j:Nat) (u:U) (G:Rho) (S:Sto),us[j]?=a_ u->P (k+j) G S->∃Y5 S',b (G.set i (a_ u)) S=a_ 6#7/\P (k+j+1) Y5 S') ->
  ∃Y5 S',vJ i b us G S=a_ 6#7/\P (k+1#3) Y5 S'
 |[],k,G,S,h,_=>⟨G,S,rfl,h⟩
 | u::us,k,G,S,h,st=>by
   obtain⟨Y4,S1,e1,h1⟩:=st 0 u G S rfl h;obtain⟨X0,S2,e2,h2⟩:=vK P us _ _ S1 h1 λj v G S hj hp=>by
    have:=st (j+1) v G S 16#3 10#0;rw[show k+(j+1)+1=k+1+j+1 by lia]at this;omega
   refine⟨_,S2,?_,by rw[show k+(u::us).length=k+1+1#3 by grind];omega⟩;show aft _ _=_;rw[e1];exact e2
theorem oH{e:ME}{G:Rho}(g:Nat->U)(P:Nat->Sto->Prop):∀(us:List U) (k:Nat) (acc:List U) (S:Sto),P k S ->
  (∀(j:Nat) (u:U) (S:Sto),us[j]?=a_ u->P (k+j) S->∃S',e 11#0 S=a_ (g (k+j),S')/\P (k+j+1) S') ->
  ∃S',ji cTT e G us acc S=a_ (acc++(aq 1#3).map (λj=>g (k+j)),S')/\P (k+1#3) S'
 |[],k,acc,S,h,_=>⟨S,by simp[ji],h⟩
 | u::us,k,acc,S,h,st=>by
   obtain⟨S1,e1,h1⟩:=st 0 u S rfl h;obtain⟨S2,e2,h2⟩:=oH g P us (k+1) _ S1 h1 λj v S hj hp=>by
    have:=st (j+1) v S 16#3 (by rw[show k+(j+1)=k+1+j by omega];omega);rw[show k+(j+1)=k+1+j by omega]at this;omega
   refine⟨S2,?_,by rw[show k+(u::us).length=k+1+1#3 by simp;lia];omega⟩;show bnd _ _=_;simp only[cTT,aF,if_true];rw[e1];simp only[aF];rw[e2];simp only[bz,lg,CD,and_true];rw[bU,HE,dy,bq];simp only[List.singleton_append,List.append_cancel_left_eq,List.cons.injEq,true_and];apply aR
   grind
def Dj(n:Nat)(g:Nat->U):U:= .tup ((aq n).map g)
theorem uG(h:n<big):okR (n:Int):=by
 unfold big at h;exact⟨by simp_all,by lia⟩
variable{G:Rho}{S0:Sto}{a:ME}{u:U}
theorem pK(ha:a G S=a_ (u,S0)):aa a ah G S=a_ ([u],S0):=by
 simp[aa,ah,ha,aF]
variable{j:Int}
theorem Q8{a:MA}(ha:a G S=a_ ([.int j],S0))(h:okR j):iR1 a G S=a_ (.imm (bI 0 j.toNat),S0):=by
 unfold iR1;rw[ha];exact if_pos h
theorem oQ(ha:a G S=a_ (.int n,S0))(h:n<big):iR1 4#2 G S=a_ (.imm (bI 0 n),S0):=by
 rw[Q8 (pK ha) (uG h),ck]
variable{e:ME}{us ys:List U}
theorem mF{it:MI}{t:MT}(hi:it G S=a_ (.imm us,S0))(h:ji t e G us [] S0=a_ (ys,S1))(hz:4#5<big):bW it t e G S=a_ (.ref 4#7,S1++[.lst ys]):=by
 simp only[bW,hi,aF,A4,h];exact if_pos hz
theorem fo(h:a G S=a_ (.ref 4#7,S1++[.lst ys])):mFn bN 4#2 G S=a_ (.tup ys,S1++[.lst ys]):=by
 unfold mFn;rw[pK h];show(eB _ _).map _=_;have:eB (S1++[Cell.lst ys]) (.ref 4#7)=a_ ys:=by
  show getL _ _=_;unfold getL;simp
 rw[this];rfl
theorem Iq{S:Sto}(ha:a G S=a_ (.int n,S0))(hn:n<big)(g:Nat->U)(P:Nat->Sto->Prop)(h0:P 0 S0)
  (hs:∀(j:Nat) (S:Sto),j<n->P j S->∃S',e (G++[a_ (.int j)]) S=a_ (g j,S')/\P (j+1) S'):
  ∃S',mFn bN (aa (bW (iR1 4#2) cTT e) ah) G S=a_ (Dj n g,S'++[.lst ((aq n).map g)])/\P n S':=by
 obtain⟨S1,e1,h1⟩:=oH g P (bI 0 n) 0 [] S0 h0 λj u S hj hp=>by
  have hl:=by have:=(ag.mp hj).1;simpa [bI]using this
  have hu:(bI 0 n)[j]?=a_ (.int j):=by simp[bI,hl]
  rw[hu]at hj;cases hj;simpa using hs j S hl (by simpa using hp)
 have hlen:(bI 0 n).length=n:=by simp[bI]
 simp[hlen]at e1 h1;exact⟨S1,fo (mF (oQ ha hn) e1 5#6),h1⟩
theorem TC{S:Sto}(ha:a G S=a_ (.tup us,S0))(hn:1#3<big)(g:Nat->U)(P:Nat->Sto->Prop)(h0:P 0 S0)
  (hs:∀(j:Nat) (u:U) (S:Sto),us[j]?=a_ u->P j S->∃S',e 11#0 S=a_ (g j,S')/\P (j+1) S'):
  ∃S',mFn bN (aa (bW (dh a) cTT e) ah) G S=a_ (Dj us.length g,S'++[.lst ((aq 1#3).map g)])/\P us.length S':=by
 obtain⟨S1,e1,h1⟩:=oH g P us 0 [] S0 h0 λj u S hj hp=>by
  simpa using hs j u S hj (by simpa using hp)
 simp at e1 h1;exact⟨S1,fo (mF (by unfold dh;rw[ha];rfl) e1 5#6),h1⟩
def mX(m:Nat)(T:Nat->Nat->Nat)(i:Nat):U:=Dj m λj=>.int (T i j)
def tab(m:Nat)(T:Nat->Nat->Nat):U:=Dj m (mX m T)
variable{i:Nat}
theorem oX{α:Type}{f:Nat->α}(h:i<m):atI ((aq m).map f) (i:Int)=a_ (f i):=by
 simp[atI,ixN,h]
theorem nX(h:0<n)(hn:n<big):∃S',dO [.int n] S=a_ (tab n (gS n),S')/\Ex S S':=by
 have key:∃S',mFn bN (aa (bW (iR1 12#3) cTT (mFn bN (aa (bW (iR1 12#3) cTT (m2 oMod (m2 eP 0#9 0#6) 0#5)) ah))) ah) [6#6] S=a_ (Dj n (mX n (gS n)),S'++[.lst ((aq n).map (mX n (gS n)))])/\Ex S S':=by
  refine Iq (by simp[ae]) hn _ (λ_ S'=>Ex S S') (Ex.refl S) λi S1 hi hx=>?_;obtain⟨S2,e2,h2⟩:=Iq (G:= [6#6,a_ 4#8]) (S:=S1) (a:=ae 0) (e:=m2 oMod (m2 eP 0#9 0#6) 0#5) (by simp[ae]) hn (λj=>.int (gS n i j)) (λ_ S'=>S'=S1) rfl λj S' hj hx=>by
   refine⟨S',?_,hx⟩;have h0:(0:Int)<n:=by lia
   simp only[m2,ae,fA,ej,List.getElem?_cons_succ,List.getElem?_cons_zero,aF,eP,oMod,h0,if_true,gS,pB,CL]
  subst h2;exact⟨_,e2,hx.trans 3#4⟩
 obtain⟨S',e,hx⟩:=key;refine⟨S'++[.lst ((aq n).map (mX n (gS n)))],?_,hx.trans 3#4⟩;simp[dO,_G.run,nz,cb,bU,AE,dy,List.map_nil,Ld,List.replicate_zero,cf,if_true,e,aF,tab]
theorem yK(h:0<n)(h2:n<1000):vR (n:Int):=⟨by lia,by lia⟩
theorem uF{i:Int}(h1: -1000000000<=i)(h2:i<=1000000000):kY i j:= .inl ⟨by lia,by lia⟩
theorem yz(h:n<1000000):kY (n:Int) j:=uF 5#6 0#0
def Agr(L:List Nat)(G' G:Rho):Prop:=G.length=G'.length /\ ∀i,i∉L->G[i]?=G'[i]?
theorem Agr.refl(L:List Nat)(G:Rho):Agr L G G:=⟨rfl,λ_ _=>rfl⟩
variable{L:List Nat}{G':Rho}{v:Option U}
theorem Agr.set(h:Agr L G' G)(hi:i∈L):Agr L G' (G.set i v):=
 ⟨by rw[jg];exact h.1,λj hj=>by rw[aN 10#0];exact h.2 j hj⟩
structure Sm(b:Nat)(S0 S:Sto):Prop where
 len:S0.length<=S.length
 same:∀m,m<b->S[m]?=S0[m]?
theorem Sm.trans{b:Nat}{S0 S1 S2:Sto}(a:Sm b S0 S1)(c:Sm b S1 S2):Sm b S0 S2:=⟨aK a.len c.len,λm h=>(c.same m h).trans (a.same m h)⟩
variable{b:Nat}
theorem Sm.ex(h:Ex S0 S)(hb:b<=S0.length):Sm b S0 S:=⟨h.len,λm hm=>h.get (ai hm hb)⟩
theorem Sm.set(h:Sm b S0 S)(hn:b<=n):Sm b S0 (S.set n c):=
 ⟨by rw[jg];exact h.len,λm hm=>by rw[aN 0#0];exact h.same m hm⟩
structure Wr(r:Nat)(S S':Sto):Prop where
 len:S.length<=S'.length
 same:∀m,m<S.length->m≠r->S'[m]?=S[m]?
theorem Wr.trans{r:Nat}{S S1 S2:Sto}(a:Wr r S S1)(b:Wr r S1 S2):Wr r S S2:=
 ⟨aK a.len b.len,λm h1 h2=>(b.same m (ai h1 a.len) h2).trans (a.same m h1 h2)⟩
theorem Wr.refl(r:Nat)(S:Sto):Wr r S S:=⟨ak _,λ_ _ _=>rfl⟩
variable{r:Nat}
theorem Wr.ex(h:Ex S S'):Wr r S S':=⟨h.len,λm hm _=>h.get hm⟩
theorem Wr.set(r:Nat)(S:Sto)(c:Cell):Wr r S (S.set r c):=⟨by simp,λm _ h=>aN (eI h)⟩
theorem Wr.sm(h:Wr r S S')(hb:b<=r)(hr:b<=0#7):Sm b S S':=⟨h.len,λm hm=>h.same m (by exact ai 2#3 2#3) 0#0⟩
theorem qD(h:i<G.length):(G.set i v)[i]?=a_ v:=aV h
theorem var_eq(h:G[i]?=a_ (a_ u)):ae i G S=a_ (u,S):=by simp[ae,h]
variable{b:MS}
theorem Ip(ha:a G S=a_ (.int n,S))(h:n<big):fj i (iR1 4#2) b G S=vJ i b (bI 0 n) G S:=by
 unfold fj;rw[oQ ha h];rfl
theorem lC{G:Rho}{S:Sto}(ha:a G S=a_ (.int n,S))(h:n<big)(P:Nat->Rho->Sto->Prop)(h0:P 0 G S)
  (st:∀(j:Nat) (G:Rho) (S:Sto),j<n->P j G S->∃Y5 S',b (G.set i (a_ (.int j))) S=a_ 6#7/\P (j+1) Y5 S'):
  ∃Y5 S',fj i (iR1 4#2) b G S=a_ 6#7/\P n Y5 S':=by
 rw[Ip ha h];obtain⟨Y5,S',e,q⟩:=vK P (bI 0 n) 0 G S h0 λj u G S hj hp=>by
  have hl:=by have:=(ag.mp hj).1;simpa [bI]using this
  have hu:(bI 0 n)[j]?=a_ (.int j):=by simp[bI,hl]
  rw[hu]at hj;cases hj;simpa using st j G S hl (by simpa using hp)
 have hlen:(bI 0 n).length=n:=by simp[bI]
 rw[hlen,fU]at q;exact⟨_,S',e,q⟩
variable{o:ME}{row:List U}
theorem append_eq(ho:o G S=a_ (.ref r,S))(ha:a G S=a_ (u,S1))(hr:S[r]?=a_ (Cell.lst row))(ZZ:S1[r]?=a_ (Cell.lst row))(hl:row.length<big):
  eG (mML de o 4#2) G S=a_ (.nx,G,S1.set r (Cell.lst (row++[u]))):=by
 simp[eG,mML,ho,aF,getL,hr,pK ha,de,ZZ,hl]
theorem kl(ha:a G S=a_ (.ref r,S))(hr:S[r]?=a_ (Cell.lst row)):mFn bN 4#2 G S=a_ (.tup row,S):=by
 simp[mFn,pK ha,aF,bN,eB,getL,hr]
variable{T:Nat->Nat->Nat}
theorem build{fs rs is js:Nat}{bIn:MS}(hm:m<big)(h1:rs∈L)(h2:is∈L)(h3:js∈L)(h4:fs∉L)(d1:rs≠is)(d2:js≠is)(d3:js≠rs)
  (l1:rs<G'.length) (l2:is<G'.length) (l3:js<G'.length) (hf:G'[fs]?=a_ (a_ (.ref S0.length)))
  (ha:∀G S,Agr L G' G->Sm S0.length S0 S->a G S=a_ (.int m,S))
  (hb: ∀(i j r:Nat) (G:Rho) (S:Sto) (row:List U),i<m->j<m->Agr L G' G->G[is]? = a_ (a_ 4#8)->G[js]? = a_ (a_ (.int j))->G[rs]? = a_ 6#4->Sm S0.length S0 S->S0.length<r->S[r]? = a_ (Cell.lst row)->row.length<big ->
   ∃Y5 S',bIn G S=a_ (.nx,Y5,S')/\Agr L G' Y5/\Y5[is]? = a_ (a_ (.int i))/\Y5[rs]? = a_ (a_ (.ref r))/\Wr r S S'/\S'[r]? = a_ (Cell.lst (row++[.int (T i j)]))):
  ∃Y5 S',fj is (iR1 4#2) (aX (bC rs (dP ah)) (aX (fj js (iR1 4#2) bIn) (eG (mML de (ae fs) (aa (mFn bN (aa (ae rs) ah)) ah))))) G' (S0++[Cell.lst []])=a_ 6#7 /\
   Agr L G' Y5/\Sm S0.length S0 S'/\S'[S0.length]?=a_ (Cell.lst ((aq m).map (mX m T))):=by
 have s0:Sm _ S0 (S0++[Cell.lst []]):=Sm.ex 3#4 2#1;refine lC (P:=λk G S=>Agr L _ G/\Sm _ S0 S/\S0.length<0#7/\S[S0.length]?=a_ (Cell.lst ((aq k).map _))) (ha _ _ (Agr.refl _ _) s0) hm ⟨Agr.refl _ _,s0,by simp,by simp⟩ ?_ |>.imp λY5 h=>h.imp λS' h=>⟨h.1,h.2.1,h.2.2.1,h.2.2.2.2⟩
 rintro i G S hi ⟨g1,g2,g3,g4⟩;have e0:bC rs (dP ah) (G.set is (a_ 4#8)) S=a_ (.nx,(G.set is (a_ 4#8)).set rs (a_ (.ref 0#7)),S++[Cell.lst []]):=by
  have hz:([]:List U).length<=big:=bS _;simp[bC,dP,ah,aF,if_true]
 have ga:Agr L _ ((G.set is (a_ 4#8)).set rs (a_ (.ref 0#7))):=(g1.set h2).set h1;have gs:Sm _ S0 (S++[Cell.lst []]):=g2.trans (Sm.ex 3#4 g2.len);obtain⟨Y4,S1,e1,q1,q2,q3,q4,q5⟩:=lC (P:=λk Y4 S1=>Agr L _ Y4/\Y4[is]?=a_ _/\Y4[rs]?=a_ _/\Wr _ _ S1/\S1[0#7]?=a_ (Cell.lst ((aq k).map _)))
  (ha _ _ ga gs) hm ⟨ga,by rw[aN d1,qD (by rw[g1.1];exact l2)],by rw[qD (by rw[jg,g1.1];exact l1)],Wr.refl _ _,by simp⟩ (by
   rintro j Y4 S1 hj ⟨q1,q2,q3,q4,q5⟩;have sm1:=gs.trans (q4.sm (aI g3) 8#8);obtain⟨X0,S2,f1,f2,f3,f4,f5,f6⟩:=hb i j _ _ S1 _ hi hj (q1.set h3) (by rw[aN d2];exact q2) (qD (by rw[q1.1];exact l3)) (by rw[aN d3];exact q3) sm1 g3 q5 (by rw[ar,aZ];exact aY 0#4 0#4)
   exact⟨_,S2,f1,f2,f3,f4,q4.trans f5,by rw[f6,eJ,bL];rfl⟩)
 have g5:S1[S0.length]?=a_ (Cell.lst ((aq i).map (mX m T))):=by
  rw[q4.same _ (by simp;exact dG 0#4) (by exact aJ 0#4),(Ex.push S _).get g3];exact g4
 have sm1:=gs.trans (q4.sm (aI g3) 8#8);have hfv:ae fs _ S1=a_ _:=var_eq (by rw[q1.2 fs h4];exact hf);have e2:=append_eq hfv (kl (var_eq q3) q5) g5 g5 (by rw[ar,aZ];exact aY 0#4 0#4);refine⟨_,S1.set _ (Cell.lst ((aq (i+1)).map (mX m T))),?_,q1,sm1.set 2#1,?_,?_⟩
 .simp only[aX,e0,e1,e2]
  rw[eJ,bL];rfl
 .rw[jg];have:=q4.len;simp at this;exact aY 0#4 0#4
 .exact aV (by have:=q4.len;simp at this;exact aY 0#4 0#4)
def ze:MS:=aX (bC 5 (m2 oMod (m2 eP (m2 oMod 0#6 0#5) (m2 il (m2 oIx (dP (aa 1#9 (aa (m1 lM 1#9) ah))) (m2 oDiv 0#6 0#5)) (m2 oMod (ae 4) 0#5))) 0#5)) (eG (mML de 0#8 (aa (m2 eP (ae 5) (m2 il 0#5 (m2 oMod (m2 eP (m2 oDiv 0#6 0#5) (m2 oDiv (ae 4) 0#5)) 2#2))) ah)))
variable{f:Nat}
theorem Ho{n i c:Int}{x y:Option U}(h0:0<n)(hd:vR n)(hc:atI 17#6 (i/n)=a_ (.int c))(k1:kY c (j%n))(k2:kY n ((i/n+j/n)%2))
  (hr:(S++[Cell.lst 17#6])[r]?=a_ (Cell.lst row)) (hl:row.length<big):
  ze ([a_ (U.int n),a_ (U.ref f),a_ (U.int i),a_ (U.ref r),x,y].set 4 (a_ (U.int j))) S =
   a_ (Fl.nx,[a_ (U.int n),a_ (U.ref f),a_ (U.int i),a_ (U.ref r),a_ (U.int j),a_ (U.int ((i%n+c*(j%n))%n))],(S++[Cell.lst 17#6]).set r (Cell.lst (row++[U.int ((i%n+c*(j%n))%n+n*((i/n+j/n)%2))]))):=by
 have W3:2<=big:=by decide
 simp[ze,aX,bC,m2,m1,ae,mC,dP,aa,ah,bnd,oMod,eP,il,oDiv,oIx,gM,lM,eB,getL,h0,hd,W3,hc,k1,k2,eG,mML,de,hr,hl]
variable{j:Nat}
theorem Jh{x y:Option U}(hn:0<n)(XU:n<1000)(hi:i<2*n)(hj:j<2*n)(hr:S[r]?=a_ (Cell.lst row))(hl:row.length<big):
  ∃z,ze ([a_ (U.int n),a_ (U.ref f),a_ (U.int i),a_ (U.ref r),x,y].set 4 (a_ (U.int j))) S =
   a_ (Fl.nx,[a_ (U.int n),a_ (U.ref f),a_ (U.int i),a_ (U.ref r),a_ (U.int j),z],(S++[Cell.lst 17#6]).set r (Cell.lst (row++[U.int (jj n i j:Nat)]))):=by
 have hd:=yK hn XU;have h0:(0:Int)<n:=by lia
 have ZT:=(Ex.push S (Cell.lst 17#6)).some hr;have hk:kY n ((i/n+j/n)%2):=yz 12#6;have hc:∃c:Int,atI 17#6 (i/n)=a_ (.int c)/\kY c (j%n)/\(i%n+c*(j%n))%n+n*((i/n+j/n)%2)=(jj n i j):=by
  rcases half hi with⟨h1,h2,h3⟩|⟨h1,h2,h3⟩
  .refine⟨1,?_,uF 0#2 0#2,?_⟩
   .have:(i:Int)/n=0:=by rw[<-Ay,h3];rfl
    rw[this];rfl
   .unfold jj<;>simp_all
  .refine⟨-1,?_,uF 0#2 0#2,?_⟩
   .have:(i:Int)/n=1:=by rw[<-Ay,h3];rfl
    rw[this];rfl
   .unfold jj
    have hjm:j%n<n:=jx _ hn;rw[if_neg 0#0];have e1:(i%n + -1*((j:Int)%n))%n=((i%n+(n-j%n))%n:Nat):=by
     have e2:((n-j%n:Nat):Int)=n-j%n:=by lia
     rw[pB,CL,e2,pB];rw[show i%n+(n-j%n)=(i%n + -1*((j:Int)%n))+n by lia,Int.add_emod_right]
    rw[e1];rfl
 obtain⟨c,c1,c2,c3⟩:=hc;rw[<-c3];exact⟨_,Ho h0 hd c1 c2 hk ZT hl⟩
theorem aL{a:MS}{Y4:Rho}(h:a G S=a_ (.nx,Y4,S1)):aX a b G S=b Y4 S1:=by simp[aX,h]
theorem cz(h:e G S=a_ (u,S1)):cb e G S=a_ (.rt u,G,S1):=by simp[cb,h,aF]
theorem bj(h:e G S=a_ (u,S1)):bC i e G S=a_ (.nx,G.set i (a_ u),S1):=by simp[bC,h,aF]
theorem jD:dP ah G S=a_ (.ref 0#7,S++[Cell.lst []]):=by
 simp[dP,ah,aF]
theorem cK{k:Nat}(hl:1#3=k)(h:b (us.map a_++aS (n-k) b_) S=a_ (.rt u,G,S1)):_G.run k n b us S=a_ (u,S1):=by
 simp[_G.run,hl,h]
theorem Sm.toEx(h:Sm S.length S S'):Ex S S':=by
 refine⟨S'.drop 0#7,jO λi=>?_⟩;by_cases hi:i<0#7
 .rw[aT hi];exact h.same i hi
 .rw[bo 5#6,List.getElem?_drop];grind
theorem VT(h:G.length=6):∃a b c d e f,G=[a,b,c,d,e,f]:=by
 have k:∀{n:Nat}{l:Rho},2#8=n+1->∃a r,l=a::r/\r.length=n:=λ{n l} h=>by
  cases l with
  |nil=>cases h
  |cons a r=>exact⟨a,r,rfl,Nat.succ.inj h⟩
 obtain⟨a,r1,rfl,h1⟩:=k h;obtain⟨b,r2,rfl,h2⟩:=k h1;obtain⟨c,r3,rfl,h3⟩:=k h2;obtain⟨d,r4,rfl,h4⟩:=k h3;obtain⟨e,r5,rfl,h5⟩:=k h4;obtain⟨f,r6,rfl,h6⟩:=k h5
 grind
theorem AU(hn:0<n)(XU:n<1000):∃S',gR [.int n] S=a_ (tab (2*n) (jj n),S')/\Ex S S':=by
 have ZD:2*n<big:=by unfold big;lia
 obtain⟨Y4,S1,e1,q1,q2,q3⟩:=build (fs:=1) (rs:=3) (is:=2) (js:=4) (L:= [2,3,4,5]) (G':= [6#6,a_ _,b_,b_,b_,b_]) (a:=m2 il 2#2 0#5)
  ZD 0#2 0#2 0#2 0#2 0#2 0#2 0#2 0#3 0#3 0#3 rfl
  (λG S' g s=>by
   have h0:=g.2 0 0#2;have hk:kY 2 n:=uF 0#2 0#2;simp only[m2,mC,aF,var_eq h0,il,hk]
   rfl)
  (λi j r G S' row hi hj g gi gj gr s hr he hl=>by
   obtain⟨a,b,c,d,e,f,rfl⟩:=VT g.1;have h0:=g.2 0 0#2;have h1:=g.2 1 0#2;simp at h0 h1 gi gj gr;subst h0 h1 gi gj gr;obtain⟨z,ez⟩:=Jh (x:=b_) hn XU hi hj he hl;refine⟨_,_,ez,⟨rfl,λk hk=>?_⟩,rfl,rfl,(Wr.ex 3#4).trans (Wr.set _ _ _),?_⟩
   .match k with
    |0=>rfl
    |1=>rfl
    |2=>exact absurd 0#2 hk
    |3=>exact absurd 0#2 hk
    |4=>exact absurd 0#2 hk
    |5=>exact absurd 0#2 hk
    |k+6=>rfl
   ·exact aV (by have:=(ag.mp he).1;simp;exact dG (by assumption)))
 have e2:=kl (var_eq (by rw[q1.2 1 0#2];rfl)) q3;refine⟨S1,cK (G:=Y4) rfl ?_,?_⟩
 .exact(aL (bj jD)).trans ((aL e1).trans (cz e2))
 .exact q2.toEx
section
variable {G:Rho}{S S1 S2:Sto}{a b:ME}
theorem op2{f:F2}{x y:U}{r:Res U}(ha:a G S=a_ (x,S1))(hb:b G S1=a_ (y,S2))(h:f x y S2=r):m2 f a b G S=r:=by simp[m2,ha,hb,aF,h]
variable{z:Int}
theorem BI(ha:a G S=a_ (.tup us,S1))(hb:b G S1=a_ (.int z,S2))(h:atI us z=a_ u):m2 oIx a b G S=a_ (u,S2):=op2 ha hb (by simp[oIx,gM,eB,h])
theorem BL(ha:a G S=a_ (.ref n,S1))(hb:b G S1=a_ (.int z,S2))(hn:S2[n]?=a_ (Cell.lst us))(h:atI us z=a_ u):m2 oIx a b G S=a_ (u,S2):=op2 ha hb (by simp[oIx,gM,eB,getL,hn,h])
variable{x y:Int}
theorem TQ(ha:a G S=a_ 6#2)(hb:b G S1=a_ 8#0):m2 eP a b G S=a_ (.int (x+y),S2):=op2 ha hb rfl
theorem E6(ha:a G S=a_ 6#2)(hb:b G S1=a_ 8#0):m2 vY a b G S=a_ (.int (x-y),S2):=op2 ha hb rfl
theorem UZ(ha:a G S=a_ 6#2)(hb:b G S1=a_ 8#0)(h:kY x y):m2 il a b G S=a_ (.int (x*y),S2):=op2 ha hb (if_pos h)
theorem SU(ha:a G S=a_ 6#2)(hb:b G S1=a_ 8#0)(h:vR y):m2 oDiv a b G S=a_ (.int (x/y),S2):=op2 ha hb (if_pos h)
theorem JZ(ha:a G S=a_ 6#2)(hb:b G S1=a_ 8#0)(h:0<y):m2 oMod a b G S=a_ (.int (x%y),S2):=op2 ha hb (if_pos h)
theorem c_i:mC (.int z) G S=a_ (.int z,S):=rfl
theorem A8(ha:a G S=a_ (.tup us,S1)):mFn cp 4#2 G S=a_ (.int 1#3,S1):=by
 simp[mFn,pK ha,aF,cp,gM,eB]
theorem len_tab(ha:a G S=a_ (tab m T,S1)):mFn cp 4#2 G S=a_ (.int m,S1):=by
 rw[A8 ha,ar,aZ]
theorem jm(hi:i<m)(ha:a G S=a_ (tab m T,S1))(hb:b G S1=a_ (.int i,S2)):m2 oIx a b G S=a_ (mX m T i,S2):=BI ha hb (oX hi)
theorem kH(hj:j<m)(ha:a G S=a_ (mX m T i,S1))(hb:b G S1=a_ (.int j,S2)):m2 oIx a b G S=a_ (.int (T i j),S2):=BI ha hb (oX hj)
variable{x y:Nat}
theorem vX(ha:a G S=a_ 6#2)(hb:b G S1=a_ 8#0)(h:0<y)(h2:y<1000):m2 oDiv a b G S=a_ (.int (x/y:Nat),S2):=by rw[SU ha hb (yK h h2),Ay]
theorem vU(ha:a G S=a_ 6#2)(hb:b G S1=a_ 8#0)(h:0<y):m2 oMod a b G S=a_ (.int (x%y:Nat),S2):=by rw[JZ ha hb 0#0,pB]
theorem JA(ha:a G S=a_ 6#2)(hb:b G S1=a_ 8#0)(h:x<1000000):m2 il a b G S=a_ (.int (x*y:Nat),S2):=by rw[UZ ha hb (yz h),Int.natCast_mul]
theorem add_n(ha:a G S=a_ 6#2)(hb:b G S1=a_ 8#0):m2 eP a b G S=a_ (.int (x+y:Nat),S2):=by rw[TQ ha hb,CL]
end
theorem Agr.of(h:Agr L G' G)(hi:i∉L)(e:G'[i]?=a_ v):G[i]?=a_ v:=(h.2 i hi).trans e
def Wd:MS:=aX (bC 7 (m2 oIx (m2 oIx 0#5 (m2 oDiv (ae 4) 0#6)) (m2 oDiv (ae 6) 0#6))) (eG (mML de (ae 5) (aa (m2 eP (m2 il (ae 7) 0#6) (m2 oIx (m2 oIx 0#9 (m2 oMod (ae 4) 0#6)) (m2 oMod (ae 6) 0#6))) ah)))
theorem MJ{k:Nat}{A B:Nat->Nat->Nat}(hk:0<k)(W1:k<1000)(hm:0<m)(Zl:m<1000)(ca:∀i j,i<k->j<k->A i j<k):∃S',mG [tab k A,tab m B] S=a_ (tab (k*m) (vV m A B),S')/\Ex S S':=by
 have hkm:=by
  calc k*m<=999*m:=iJ m (by exact d8 0#4)
   _<=999*999:=uu _ (by exact d8 0#4)
   _<1000000:=by decide
 have ZD:k*m<big:=by exact ai 0#4 0#2
 have dl:∀i,i<k*m->i/m<k:=λi hi=>Nat.div_lt_of_lt_mul (by rw[lV];exact hi);have rl:∀i,i%m<m:=λi=>jx _ hm;obtain⟨Y4,S1,e1,q1,q2,q3⟩:=build (fs:=3) (rs:=5) (is:=4) (js:=6) (L:= [4,5,6,7]) (G':= [a_ _,a_ (tab m B),a_ _,a_ _,b_,b_,b_,b_]) (a:=m2 _ (mFn _ (aa 0#5 _)) 0#6) (T:=vV m A B)
  ZD 0#2 0#2 0#2 0#2 0#2 0#2 0#2 0#3 0#3 0#3 rfl
  (λG S' g s=>JA (len_tab (var_eq (g.of 0#2 rfl))) (var_eq (g.of 0#2 rfl)) 20#3)
  (λi j r G S' row hi hj g gi gj gr s hr he hl=>by
   have v0:∀S',ae 0 G S'=a_ _:=λS'=>var_eq (g.of 0#2 rfl);have v2:∀S',ae 2 G S'=a_ _:=λS'=>var_eq (g.of 0#2 rfl);have e7:m2 _ _ _ G S'=a_ _:=
    kH (dl j hj) (jm (dl i hi) (v0 _) (vX (var_eq gi) (v2 _) hm Zl)) (vX (var_eq gj) (v2 _) hm Zl)
   have hlen:G.length=8:=g.1;have g':Agr _ _ (G.set 7 22#3):=g.set 0#2;have w2:∀S',ae 2 _ S'=a_ _:=λS'=>var_eq (g'.of 0#2 rfl);have w1:∀S',ae 1 _ S'=a_ _:=λS'=>var_eq (g'.of 0#2 rfl);have w7:∀S',ae 7 (G.set 7 _) S'=a_ (.int (A (i/m) (j/m)),S'):=λS'=>var_eq (qD 0#0);have n4:(G.set 7 22#3)[4]?=a_ (a_ 4#8):=by rw[aN 0#2];exact gi
   have n5:(G.set 7 22#3)[5]?=a_ 6#4:=by rw[aN 0#2];exact gr
   have n6:(G.set 7 22#3)[6]?=a_ (a_ (.int j)):=by rw[aN 0#2];exact gj
   have hA:A _ _<1000000:=aY (ca _ _ (dl i hi) (dl j hj)) 20#3;have ev:m2 _ _ _ _ S'=a_ _:=
    add_n (JA (w7 _) (w2 _) hA) (kH (rl j) (jm (rl i) (w1 _) (vU (var_eq n4) (w2 _) hm)) (vU (var_eq n6) (w2 _) hm))
   exact⟨_,_,(aL (bj e7)).trans (append_eq (var_eq n5) ev he he hl),g',n4,n5,Wr.set _ _ _,aV (ag.mp he).1⟩)
 have e2:mFn _ (aa 0#8 _) _ S1=a_ _:=kl (var_eq (q1.of 0#2 rfl)) q3;refine⟨S1,cK (G:=Y4) rfl ?_,q2.toEx⟩;exact(aL (bj 11#8)).trans ((aL (bj jD)).trans ((aL e1).trans (cz e2)))
def xD:Nat->Nat->Nat:=λa b=>([[0,0,0,0],[0,1,0,1],[0,1,1,0],[0,0,1,1]].getD a []).getD b 0
def Js:Nat->Nat->Nat:=λa b=>([[0,1,2,3],[1,0,3,2],[2,3,0,1],[3,2,1,0]].getD a []).getD b 0
def Cf(i j:Nat):Nat:=2*Js (i/2) (j/2)+(i+j+xD (i/2) (j/2))%2
theorem JN:((aq 8).all λi=>(aq 8).all λj=>Cf i j==i6 i j)=c_:=by decide +kernel
theorem Hq(hi:i<8)(hj:j<8):Cf i j=i6 i j:=by
 have h:=dc.mp (dc.mp JN i (aA.mpr hi)) j (aA.mpr hj);exact eq_of_beq h
def VO:MS:=aX (bC 6 (m2 oMod (m2 eP (m2 eP 0#8 (ae 5)) (m2 oIx (m2 oIx 0#5 (m2 oDiv 0#8 2#2)) (m2 oDiv (ae 5) 2#2))) 2#2)) (eG (mML de (ae 4) (aa (m2 eP 23#7 (ae 6)) ah)))
def Ae(T:Nat->Nat->Nat)(a:Nat):Cell:= .lst ((aq 4).map λb=>.int (T a b))
def K4(s:Nat):Cell:= .lst ((aq 4).map λa=>.ref (s+a))
def ten(s:Nat):Sto:= [Ae xD 0,Ae xD 1,Ae xD 2,Ae xD 3,K4 s,Ae Js 0,Ae Js 1,Ae Js 2,Ae Js 3,K4 (s+5)]
theorem look{k:Nat}(s:Sm (S++ten 0#7).length (S++ten 0#7) S')(hk:(ten 0#7)[k]?=a_ c)(hn:n=0#7+k):S'[n]?=a_ c:=by
 have hl:=(ag.mp hk).1;rw[s.same n 10#0]
 grind
variable{x:Nat}
theorem Bn{S:Sto}{v p q y:Nat}(hv:G[v]?=a_ (a_ (.ref x)))(hx:S'[x]?=a_ (K4 y))(hy:∀a,a<4->S'[y+a]?=a_ (Ae T a))(hi:G[p]?=a_ (a_ 4#8))(hj:G[q]?=a_ (a_ (.int j)))(li:i<8)(lj:j<8):
  m2 oIx (m2 oIx (ae v) (m2 oDiv (ae p) 2#2)) (m2 oDiv (ae q) 2#2) G S'=a_ (.int (T (i/2) (j/2)),S'):=
 BL (BL (var_eq hv) (vX (y:=2) (var_eq hi) c_i 0#2 0#2) hx (oX 0#0)) (vX (y:=2) (var_eq hj) c_i 0#2 0#2) (hy _ 0#0) (oX 0#0)
variable{y z:Int}
theorem kS{x w:Int}:dP (aa (mC (.int x)) (aa (mC (.int y)) (aa (mC (.int z)) (aa (mC (.int w)) ah)))) G S=a_ (.ref 0#7,S++[Cell.lst [.int x,.int y,.int z,.int w]]):=by
 have hz:4<=big:=by decide
 simp[dP,aa,mC,ah,aF,hz]
variable{b:ME}
theorem By{S3 S4:Sto}{c d:ME}{x y z w:U}(ha:a G S=a_ (x,S1))(hb:b G S1=a_ (y,S2))(hc:c G S2=a_ (z,S3))(hd:d G S3=a_ (w,S4)):
  dP (aa a (aa b (aa c (aa d ah)))) G S=a_ (.ref S4.length,S4++[Cell.lst [x,y,z,w]]):=by
 have hz:4<=big:=by decide
 simp only[dP,aa,ah,aF,ha,hb,hc,hd];simp[hz]
theorem DC:∃S',jE [] S=a_ (tab 8 i6,S')/\Ex S S':=by
 have e0:=By (G:= [b_,b_,b_,b_,b_,b_,b_]) (S:=S) (kS (x:=0) (y:=0) (z:=0) (w:=0)) (kS (x:=0) (y:=1) (z:=0) (w:=1)) (kS (x:=0) (y:=1) (z:=1) (w:=0)) (kS (x:=0) (y:=0) (z:=1) (w:=1));have e1:=By (G:= [a_ (.ref (0#7+4)),b_,b_,b_,b_,b_,b_]) (S:=S++(ten 0#7).take 5) (kS (x:=0) (y:=1) (z:=2) (w:=3)) (kS (x:=1) (y:=0) (z:=3) (w:=2)) (kS (x:=2) (y:=3) (z:=0) (w:=1)) (kS (x:=3) (y:=2) (z:=1) (w:=0));have e0':=e0.trans (by simp;rfl);have W8:=e1.trans (by simp;rfl);obtain⟨Y4,S1,f1,q1,q2,q3⟩:=build (fs:=2) (rs:=4) (is:=3) (js:=5) (L:= [3,4,5,6]) (G':= [a_ _,a_ _,a_ _,b_,b_,b_,b_]) (m:=8)
  0#2 0#2 0#2 0#2 0#2 0#2 0#2 0#2 0#3 0#3 0#3 rfl
  (λG S' g s=>rfl)
  (λi j r G S' row hi hj g gi gj gr s hr he hl=>by
   have hlen:G.length=7:=g.1;have hs:∀a,a<4->S'[0#7+a]?=a_ _:=λa ha=>look s (by match a,ha with | 0,_=>rfl | 1,_=>rfl | 2,_=>rfl | 3,_=>rfl) rfl;have hkk:∀a,a<4->S'[0#7+5+a]?=a_ _:=λa ha=>look (k:=5+a) s (by match a,ha with | 0,_=>rfl | 1,_=>rfl | 2,_=>rfl | 3,_=>rfl) 0#0;have t1:=Bn (S:=S) (v:=0) (g.of 0#2 rfl) (look (k:=4) s rfl rfl) hs gi gj hi hj;have e6:=
    vU (y:=2) (add_n (add_n (var_eq gi) (var_eq gj)) t1) c_i 0#2
   have g':Agr _ _ (G.set 6 18#8):=g.set 0#2;have n3:(G.set 6 18#8)[3]?=a_ (a_ 4#8):=by rw[aN 0#2];exact gi
   have n4:(G.set 6 18#8)[4]?=a_ 6#4:=by rw[aN 0#2];exact gr
   have n5:(G.set 6 18#8)[5]?=a_ (a_ (.int j)):=by rw[aN 0#2];exact gj
   have t2:=Bn (S:=S) (v:=1) (g'.of 0#2 rfl) (look (k:=9) s rfl rfl) hkk n3 n5 hi hj;have ev:m2 eP 23#7 (ae 6) (G.set 6 18#8) S'=a_ (.int (i6 i j),S'):=by
    rw[<-Hq hi hj];exact add_n (JA c_i t2 0#2) (var_eq (qD 0#0))
   exact⟨_,_,(aL (bj e6)).trans (append_eq (var_eq n4) ev he he hl),g',n3,n4,Wr.set _ _ _,aV (ag.mp he).1⟩)
 have f2:mFn _ (aa 0#6 _) Y4 S1=a_ _:=kl (var_eq (q1.of 0#2 rfl)) q3;refine⟨S1,cK (G:=Y4) rfl ?_,Ex.trans ⟨_,rfl⟩ q2.toEx⟩;exact(aL (bj e0')).trans ((aL (bj W8)).trans ((aL (bj jD)).trans ((aL f1).trans (cz f2))))
theorem sD{e:ME}{G:Rho}(P:List U->Sto->Prop):∀(us acc:List U) (S:Sto),P acc S ->
  (∀(k:Nat) (Zo:List U) (u:U) (S:Sto),us[k]?=a_ u->Zo.length=acc.length+k->P Zo S->∃v S',e 11#0 S=a_ (v,S')/\P (Zo++[v]) S') ->
  ∃ys S',ji cTT e G us acc S=a_ (ys,S')/\P ys S'/\4#5=acc.length+1#3
 |[],acc,S,h,_=>⟨_,S,rfl,h,by simp⟩
 | u::us,acc,S,h,st=>by
   obtain⟨v,S1,e1,h1⟩:=st 0 _ u S rfl 0#3 h;obtain⟨ys,S2,e2,h2,h3⟩:=sD P us _ S1 h1 λk Zo w S hk hl hp=>st (k+1) _ w S (by simpa using hk) (by simp at hl;lia) hp;refine⟨ys,S2,?_,h2,by grind⟩;show bnd _ _=_;simp[cTT,aF];rw[e1];exact e2
theorem FY{S:Sto}(ha:a G S=a_ (.int n,S0))(hn:n<big)(P:List U->Sto->Prop)(h0:P [] S0)
  (hs:∀(k:Nat) (acc:List U) (S:Sto),k<n->acc.length=k->P acc S->∃v S',e (G++[5#5]) S=a_ (v,S')/\P (acc++[v]) S'):
  ∃ys S',mFn bN (aa (bW (iR1 4#2) cTT e) ah) G S=a_ (.tup ys,S'++[.lst ys])/\P ys S'/\4#5=n:=by
 obtain⟨ys,S1,e1,h1,h2⟩:=sD P (bI 0 n) [] S0 h0 λk acc u S hk hl hp=>by
  have ZQ:=by have:=(ag.mp hk).1;simpa [bI]using this
  have hu:(bI 0 n)[k]?=a_ (.int k):=by simp[bI,ZQ]
  rw[hu]at hk;cases hk;exact hs k _ S ZQ (by simpa using hl) hp
 have hlen:(bI 0 n).length=n:=by simp[bI]
 rw[hlen]at h2;simp at h2;exact⟨ys,S1,fo (mF (oQ ha hn) e1 (by rw[h2];omega)),h1,h2⟩
theorem Stp.set(h:Stp n S S')(hr:0#7<=r)(hn:r≠n):Stp n S (S'.set r c):=by
 refine⟨by rw[jg];exact h.len,λm h1 h2=>by rw[aN 0#0];exact h.same m h1 h2,?_⟩;obtain⟨s,b,e⟩:=h.st;exact⟨s,b,by simp_all⟩
theorem Stp.step(a:Stp n S S1)(e:Ex S1 S2):Stp n S S2:=a.trans (Stp.ex a.st e)
theorem cP{f:MF}{x y:U}{r:Res U}(ha:a G S=a_ (x,S1))(hb:b G S1=a_ (y,S2))(h:f [x,y] S2=r):mFn f (aa a (aa b ah)) G S=r:=by
 simp[mFn,aa,ah,ha,hb,aF,h]
theorem fK{f:MF}{x:U}{r:Res U}(ha:a G S=a_ (x,S1))(h:f [x] S1=r):mFn f 4#2 G S=r:=by
 simp[mFn,pK ha,aF,h]
theorem tV(ha:a G S=a_ (.ref r,S))(hr:S[r]?=a_ (Cell.lst us)):mFn cp 4#2 G S=a_ (.int 1#3,S):=
 fK ha (by simp[cp,gM,eB,getL,hr])
theorem yy{α β:Type}(f:α->β):∀(l:List α) (j:Nat),(l.map f).eraseIdx j=(l.eraseIdx j).map f
 |[],_=>rfl
 |_::_,0=>rfl
 |x::l,j+1=>by simp[yy f l j]
def ax(l:List Nat):List U:=l.map λ(x:Nat)=>U.int x
variable{l:List Nat}
theorem B8(ho:o G S=a_ (.ref r,S))(ha:a G S=a_ (.int j,S1))(hr:S[r]?=a_ (Cell.lst (ax l)))(ZZ:S1[r]?=a_ (Cell.lst (ax l)))(hj:j<2#8)(hl:2#8<big):
  mML nU o 4#2 G S=a_ (.int l[j],S1.set r (Cell.lst (ax (l.eraseIdx j)))):=by
 have hok:okR j:=uG (by exact aY 2#3 2#3);have hx:ixN (ax l).length j=a_ j:=by
  have:(ax l).length=2#8:=by simp[ax]
  rw[this];simp[ixN,hj]
 have hg:(ax l)[j]?=a_ (.int l[j]):=by simp[ax,hj]
 have he:(ax l).eraseIdx j=ax _:=yy _ _ _;simp[mML,ho,aF,getL,hr,pK ha,nU,ZZ,hok,hx,hg,he]
theorem yP{i j:Int}(ha:a G S=a_ (.int i,S))(hb:b G S=a_ (.int j,S))(h1:okR i)(h2:okR j)(hz:(bI i (j-i).toNat).length<=big):iF (iR2 (aa a (aa b ah))) G S=a_ (.ref 0#7,S++[Cell.lst (bI i (j-i).toNat)]):=by
 have e:iR2 (aa a (aa b ah)) G S=a_ (.imm (bI i (j-i).toNat),S):=by
  unfold iR2;simp only[aa,ah,ha,hb,aF]
  simp_all
 simp[iF,e,aF,hz]
variable{xs:List U}
theorem cat_t(ha:a G S=a_ (.tup xs,S1))(hb:b G S1=a_ (.tup ys,S2))(hz:1#4+4#5<=big):m2 eP a b G S=a_ (.tup (xs++ys),S2):=op2 ha hb (by simp[eP,hz])
theorem md(m:Nat)(hm:0<m):bI 1 ((m:Int)-1).toNat=ax (ba 1 (m-1)):=by
 unfold bI ax;rw[List.range'_eq_map_range]
 simp_all
theorem B4(h:pq n S)(hm:0<m)(Zl:m<1000):∃l S',iL [.ref n,.int m] S=a_ (.tup (ax l),S')/\Stp n S S'/\qQ m l:=by
 have hn:=h.lt;have ZD:m<big:=by exact ai 0#4 0#2
 have e0:iF (iR2 (aa 1#9 13#1)) [6#0,a_ (.int m),b_] S=a_ (.ref 0#7,S++14#5):=by
  rw[yP rfl 0#1 15#1 (uG ZD) (by rw[md m hm,ax,ar,List.length_range'];exact aK (qy m 1) (aI ZD)),md m hm]
 have st0:Stp n S (S++14#5):=Stp.ex h 3#4;obtain⟨ys,S1,e1,⟨tk,rem,rfl,q1,q2,q3⟩,e2⟩:=FY (G:= [a_ _,a_ _,a_ _])
  (a:=m2 _ 0#9 _)
  (by rw[E6 0#1 c_i];congr 3;exact(Int.natCast_sub hm).symm) (aM (qy m 1) ZD)
  (λacc S'=>∃tk rem:List Nat,acc=ax tk/\S'[0#7]?=a_ (Cell.lst (ax rem))/\(tk++rem).Perm (ba 1 (m-1))/\Stp n S S')
  ⟨[],ba 1 (m-1),rfl,by simp,by simp,st0⟩
  (by
   rintro k acc S' hk hl ⟨tk,rem,rfl,q1,q2,q3⟩;have htk:=by simpa [ax]using hl
   have Xx:rem.length=m-1-k:=by
    have:=q2.length_eq;rw[aU,List.length_range',htk]at this;rw[<-this,eC]
   have hr0:0<rem.length:=by rw[Xx];exact Nat.sub_pos_of_lt hk
   have ZZ:rem.length<1000:=by rw[Xx];exact aM (aK (qy _ _) (qy _ _)) Zl
   obtain⟨r,S2,t1,t2,t3,t4,t5⟩:=EN q3.st (g8.mpr hr0) 0#0;obtain⟨j,rfl⟩:=HF t2;have hj:=g8.mp t3;have ho:∀S',ae 2 26#6 S'=a_ _:=λS'=>var_eq rfl;have hv:∀S',ae 0 26#6 S'=a_ _:=λS'=>var_eq rfl;have hlen:mFn cp 4#0 26#6 S'=a_ (.int rem.length,S'):=by
    rw[tV (ho _) q1];simp[ax]
   have q1':=t4.some (by exact dW 0#4) q1;refine⟨_,_,B8 (ho _) (cP (hv _) hlen t1) q1 q1' hj (by exact ai ZZ 0#2),tk++[rem[j]],rem.eraseIdx j,by simp[ax],?_,?_,?_⟩
   .exact aV (ag.mp q1').1
   .refine Lm ?_ q2
    rw[bz];exact(jq rem j hj).append_left tk
   ·exact(q3.trans t4).set (ak _) (by exact dW (by assumption)))
 have Xx:rem=[]:=by
  have:=q2.length_eq;simp[ax]at this e2;exact d7 0#0
 subst Xx;rw[cf]at q2;refine⟨_,S1++[Cell.lst (ax tk)],cK (G:= [6#0,a_ (.int m),2#5]) rfl ?_,q3.step 3#4,GU hm q2⟩;refine(aL (bj e0)).trans (cz ?_);have ez:iS 9#7 [6#0,a_ (.int m),2#5] (S++14#5)=a_ (.tup [.int 0],S++14#5):=by
  have Yx:1<=big:=by decide
  simp[iS,pK (show mC _ _ _=a_ _ from rfl),aF,Yx]
 exact cat_t ez e1 (by simp[ax]at e2 ⊢;lia)
theorem VP{i:Int}:toD S (f+1) 4#8=a_ 4#8:=rfl
theorem qR{S:Sto}{f:Nat}:∀(l:List Nat),dJ (toD S (f+1)) (ax l)=a_ (l.map λ(x:Nat)=>fR x)
 |[]=>rfl
 | x::l=>by
   show(toD S _ _).bind _=_;rw[show rR _ l=ax l from rfl,qR l];rfl
theorem A5(x:Nat):∀(l:List Nat),x∈l->(l.map λ(x:Nat)=>fR x).findIdx? (λy=>fi y (.int x))=a_ (l.idxOf x)
 |[],h=>by simp at h
 | y::l,h=>by
   have e:fi (.int y) (.int x)=decide (y=x):=by
    simp[fi]<;>grind
   rw[dy,List.findIdx?_cons,e,AF];by_cases Ys:y=x
   .subst Ys;simp
   .have hm:x∈l:=by
     grind
    have hb:(y==x)=d_:=by simpa using Ys
    rw[A5 x l hm];simp[Ys,hb]
theorem Nb(h:x∈l):Kh S (.int x) (ax l)=a_ (l.idxOf x):=by
 unfold Kh;rw[qR l];exact A5 x l h
theorem kI(ho:o G S=a_ (.tup (ax l),S))(ha:a G S=a_ 6#2)(h:x∈l):mMT eZ o 4#2 G S=a_ (.int (l.idxOf x:Nat),S1):=by
 simp only[mMT,ho,aF,pK ha,eZ,Nb h];rfl
theorem vB(h:(ax l)[j]?=a_ u):j<2#8/\u=.int (oF l j):=by
 have hl:=by have:=(ag.mp h).1;simpa [ax]using this
 have:(ax l)[j]?=a_ (.int l[j]):=by simp[ax,hl]
 rw[this]at h;cases h;exact⟨hl,by simp[oF,hl]⟩
theorem cn(l:List Nat):(ax l).length=2#8:=by simp[ax]
theorem IK(hm:m<big)(g:∀i j,i<m->j<m->T i j<m)(ho:qQ m l):∃S',k6 [tab m T,.tup (ax l)] S=a_ (tab m (ic T (oF l) (pF l)),S')/\Ex S S':=by
 have hlen:=ho.len;obtain⟨S1,e1,h1⟩:=TC (G:= [a_ _,a_ _]) (a:=ae 1)
  0#1 (by rw[cn,hlen];exact hm) _ (λ_ S'=>Ex S S') (Ex.refl _) (by
   intro i u S' hu hx;obtain⟨hi,rfl⟩:=vB hu;rw[hlen]at hi;obtain⟨S2,e2,h2⟩:=TC (G:= [a_ _,a_ _,a_ _]) (a:=ae 1) (e:=mMT _ 0#9 (aa (m2 _ (m2 _ 0#5 0#6) 0#8) _))
    0#1 (by rw[cn,hlen];exact hm) _ (λ_ Yl=>Yl=S') rfl (by
     intro j u Yl hu hx;obtain⟨hj,rfl⟩:=vB hu;rw[hlen]at hj;refine⟨_,?_,hx⟩
     exact kI (var_eq rfl) (kH (ho.ord.ol j hj) (jm (ho.ord.ol i hi) (var_eq rfl) (var_eq rfl)) (var_eq rfl)) (ho.mem.mpr (g _ _ (ho.ord.ol i hi) (ho.ord.ol j hj))))
   subst h2
   exact⟨_,e2,hx.trans (Ex.push _ _)⟩)
 rw[cn,hlen]at e1;exact⟨_,cK rfl (cz e1),h1.trans 3#4⟩
theorem JS{x:Int}(ha:a G S=a_ 6#2)(hb:b G S1=a_ 8#0):m2 oEq a b G S=a_ (.bl (x==y),S2):=op2 ha hb rfl
theorem FZ{x:Int}(ha:a G S=a_ 6#2)(hb:b G S1=a_ 8#0):m2 oGt a b G S=a_ (.bl (decide (y<x)),S2):=op2 ha hb rfl
theorem of_eq{b:Bool}(h:a G S=a_ (.bl b,S1)):cOf a G S=a_ (b,S1):=by simp[cOf,h,aF]
theorem or_eq{a b:MT}{x y:Bool}(ha:a G S=a_ (x,S1))(hb:b G S1=a_ (y,S2))(e:x=c_->S2=S1):cOr a b G S=a_ (x||y,S2):=by
 cases x
 .simp[cOr,ha,hb,aF]
 .simp[cOr,ha,aF,e _]
theorem and_eq{a b:MT}{x y:Bool}(ha:a G S=a_ (x,S1))(hb:b G S1=a_ (y,S2))(e:x=d_->S2=S1):nu a b G S=a_ (x&&y,S2):=by
 cases x
 .simp[nu,ha,aF,e _]
 .simp[nu,ha,hb,aF]
theorem tm{c:MT}{a b:MS}(h:c G S=a_ (c_,S1)):sIf c a b G S=a G S1:=by simp[sIf,h,aF]
theorem kO{c:MT}{a b:MS}(h:c G S=a_ (d_,S1)):sIf c a b G S=b G S1:=by simp[sIf,h,aF]
theorem jT(h:pq n S)(hm:0<m)(Zl:m<1000):∃r S',bA [.ref n,.int m] S=a_ (.int (r:Nat),S')/\r<m/\Stp n S S':=by
 obtain⟨r,S',e,h1,h2,h3,_⟩:=EN (many:=m) h 0#0 0#0;obtain⟨r,rfl⟩:=HF h1;exact⟨r,S',e,by lia,h3⟩
def gA:MS:=sIf (cOr (cOf (m2 oEq 0#6 1#9)) (cOf (m2 oEq 0#6 2#2))) (bC 3 (mFn gR (aa (m2 eP 1#9 (mFn bA (aa 0#5 (aa (m2 oDiv 0#9 2#2) ah)))) ah))) dw
def gB:MS:=sIf (nu (cOf (m2 oEq 0#6 7#1)) (cOf (m2 oGt 0#9 (mC (.int 7))))) (bC 3 (mFn jE ah)) dw
def gC:MS:=sIf (cOf (m2 oGt 0#6 7#1)) (aX (bC 4 (m2 eP 2#2 19#4)) (aX (bC 5 (m2 oIx 26#5 (mFn bA (aa 0#5 (aa 2#2 ah))))) (aX (sIf (cOf (m2 oGt (mFn cp 6#5) 0#9)) (bC 5 (mFn dO 5#3)) dw) (bC 3 (mFn mG (aa (ae 5) (aa (mFn dO (aa (m2 eP 1#9 (mFn bA (aa 0#5 (aa (m2 oDiv 0#9 (mFn cp 6#5)) ah)))) ah)) ah))))))) dw
def gD:MS:=sIf (cOf (m2 oEq 19#4 1#8)) (bC 3 (mFn k6 (aa 0#8 (aa (mFn iL (aa 0#5 (aa 8#4 ah))) ah)))) dw
structure Gs(n most way:Nat)(S0:Sto)(G:Rho)(S:Sto):Prop where
 ex:∃m T x y,G=[a_ (.ref n),a_ (.int most),a_ (.int way),a_ (tab m T),x,y]/\Grp m T/\m<=most
 st:Stp n S0 S
section
variable {n most way:Nat}{S0 S:Sto}{G:Rho}
theorem Vv(h6:4<=most)(hm:most<1000)(g:Gs n most way S0 G S):∃Y5 S',gA G S=a_ 6#7/\Gs n most way S0 Y5 S':=by
 obtain⟨⟨m,T,x,y,rfl,gr,hle⟩,st⟩:=g;have hc:=or_eq (of_eq (JS (G:= 19#0) (S:=S) (a:=ae 2) (b:=mC (.int 1)) 0#1 c_i)) (of_eq (JS (a:=ae 2) (b:=mC (.int 2)) 0#1 c_i)) λ_=>rfl;cases hb:(((way:Int)==1)||((way:Int)==2)) with
 | false=>
   rw[hb]at hc;exact⟨_,S,kO hc,⟨m,T,x,y,rfl,gr,hle⟩,st⟩
 | true=>
   rw[hb]at hc;obtain⟨r,S1,e1,w1,s1⟩:=jT (m:=most/2) st.st 0#0 0#0;obtain⟨S2,e2,s2⟩:=AU (n:=1+r) (S:=S1) 9#3 0#0;refine⟨_,S2,(tm hc).trans (bj (fK (x:= .int (1+r:Nat)) (add_n (x:=1) c_i (cP 0#1 (vX (y:=2) 0#1 c_i 0#2 0#2) e1)) e2)),⟨_,_,x,y,rfl,Ck 9#3,by lia⟩,(st.trans s1).step s2⟩
theorem Ss(g:Gs n most way S0 G S):∃Y5 S',gB G S=a_ 6#7/\Gs n most way S0 Y5 S':=by
 obtain⟨⟨m,T,x,y,rfl,gr,hle⟩,st⟩:=g;have hc:=and_eq (of_eq (JS (G:= 19#0) (S:=S) (a:=ae 2) (b:=mC (.int 3)) 0#1 c_i)) (of_eq (FZ (a:=ae 1) (b:=mC (.int 7)) 0#1 c_i)) λ_=>rfl;cases hb:(((way:Int)==3)&&decide ((7:Int)<most)) with
 | false=>
   rw[hb]at hc;exact⟨_,S,kO hc,⟨m,T,x,y,rfl,gr,hle⟩,st⟩
 | true=>
   rw[hb]at hc;obtain⟨S2,e2,s2⟩:=DC;have h7:=by simp at hb;exact hb.2
   refine⟨_,S2,(tm hc).trans (bj (e2)),⟨_,_,x,y,rfl,F4,by omega⟩,st.step s2⟩
theorem KI{G:Rho}{S:Sto}{x y:U}(ha:a G S=a_ (x,S1))(hb:b G S1=a_ (y,S2)):dP (aa a (aa b ah)) G S=a_ (.ref 10#1,S2++[Cell.lst [x,y]]):=by
 have hz:2<=big:=by decide
 simp[dP,aa,ah,aF,ha,hb,hz]
theorem SF(h6:4<=most)(hm:most<1000)(g:Gs n most way S0 G S):∃Y5 S',gC G S=a_ 6#7/\Gs n most way S0 Y5 S':=by
 obtain⟨⟨m,T,x,y,rfl,gr,hle⟩,st⟩:=g;have ZD:∀x,x<=most->x<big:=λx hx=>by unfold big;exact aM 0#4 (ai 0#4 0#2)
 have hc:=of_eq (FZ (G:= 19#0) (S:=S) (a:=ae 2) (b:=mC (.int 3)) 0#1 c_i);cases hb:decide ((3:Int)<way) with
 | false=>
   rw[hb]at hc;exact⟨_,S,kO hc,⟨m,T,x,y,rfl,gr,hle⟩,st⟩
 | true=>
   rw[hb]at hc;obtain⟨r,S1,e1,w1,s1⟩:=jT (m:=3) st.st 0#2 0#2;have f1:m2 eP 2#2 19#4 19#0 S=a_ (.int (2+r:Nat),S1):=
    add_n (x:=2) c_i (cP 0#1 c_i e1)
   have h24:2+r<=4:=Nat.add_le_add_left (d8 w1) 2;have h2m:2+r<=most:=aK h24 (aK 0#2 h6);obtain⟨S2,e2,s2⟩:=nX (n:=2+r) (S:=S1) 9#3 (ZD _ h2m);obtain⟨S3,e3,s3⟩:=AU (n:=2+r) (S:=S2) 9#3 (aM h24 0#2);have ZE:Stp n S0 (S3++[Cell.lst 26#2]):=(((st.trans s1).step s2).step s3).step 3#4;obtain⟨q,S4,e4,w4,s4⟩:=jT (m:=2) ZE.st 0#2 0#2;have Zu:S4[S3.length]?=a_ (Cell.lst 26#2):=by
    refine s4.some ?_ (by rw[bo 2#1];simp);have:=(((st.trans s1).step s2).step s3).st.lt;exact dW 0#4
   have one:∃k K,atI 26#2 (q:Int)=a_ (tab k K)/\Grp k K/\k<=8:=by
    rcases q with _|_|q
    .exact⟨_,_,rfl,lJ 9#3,aK h24 0#2⟩
    .exact⟨_,_,rfl,Ck 9#3,uu 2 h24⟩
    .exact absurd (jY (jY w4)) (Nat.not_lt_zero _)
   obtain⟨k,K,hix,gk,hk8⟩:=one;have f5:m2 oIx 26#5 (mFn bA (aa 0#5 (aa 2#2 ah))) [6#0,7#8,a_ (.int way),1#2,a_ (.int (2+r:Nat)),y] S1=a_ (tab k K,S4):=
    BL (KI (fK (x:= .int (2+r:Nat)) 0#1 e2) (fK (x:= .int (2+r:Nat)) 0#1 e3)) (cP 0#1 c_i e4) Zu hix
   have YU:=ZE.trans s4;have cut:∃k' K' S5,sIf (cOf (m2 oGt (mFn cp 6#5) 0#9)) (bC 5 (mFn dO 5#3)) dw [6#0,7#8,a_ (.int way),1#2,a_ (.int (2+r:Nat)),a_ (tab k K)] S4 =
     a_ (.nx,[6#0,7#8,a_ (.int way),1#2,a_ (.int (2+r:Nat)),a_ (tab k' K')],S5)/\Grp k' K'/\k'<=most/\k'<=8/\Stp n S0 S5:=by
    have XT:=of_eq (FZ (G:= [6#0,7#8,a_ (.int way),1#2,a_ (.int (2+r:Nat)),a_ (tab k K)]) (S:=S4) (a:=mFn cp 6#5) (b:=ae 1) 11#8 0#1);cases W3:decide ((most:Int)<k) with
    | false=>
      rw[W3]at XT;have: ¬((most:Int)<k):=by simpa using W3
      exact⟨k,K,S4,kO XT,gk,d5 λz=>this (g8.mpr z),hk8,YU⟩
    | true=>
      rw[W3]at XT;obtain⟨S5,e5,s5⟩:=nX (n:=2+r) (S:=S4) 9#3 (ZD _ h2m);exact⟨_,_,S5,(tm XT).trans (bj (fK (x:= .int (2+r:Nat)) 0#1 e5)),lJ 9#3,h2m,aK h24 0#2,YU.step s5⟩
   obtain⟨k',K',S5,f6,gk',hkm,hk8',Zj⟩:=cut;have kp:=gk'.pos;have hdiv:0<most/k':=Nat.div_pos hkm kp;have Yq:most/k'<=most:=Nat.div_le_self _ _;obtain⟨t,S6,e6,w6,s6⟩:=jT (m:=most/k') Zj.st hdiv (by exact aM 0#4 0#4);have h1t:1+t<=most/k':=by rw[xW];exact w6
   obtain⟨S7,e7,s7⟩:=nX (n:=1+t) (S:=S6) 9#3 (ZD _ (aK h1t Yq));obtain⟨S8,e8,s8⟩:=MJ (k:=k') (m:=1+t) (A:=K') (B:=gS (1+t)) (S:=S7) kp (by exact aM 0#4 0#2) 9#3 (aM (aK h1t Yq) hm) gk'.cl;have ZF:k'*(1+t)<=most:=aK (uu k' h1t) (Nat.mul_div_le most k');refine⟨_,S8,(tm hc).trans ((aL (bj f1)).trans ((aL (bj f5)).trans ((aL f6).trans (bj (cP 0#1 (fK (x:= .int (1+t:Nat)) ?_ e7) e8))))),⟨_,_,_,_,rfl,Im gk' (lJ 9#3),ZF⟩,((Zj.trans s6).step s7).step s8⟩;exact add_n (x:=1) c_i (cP 0#1 (vX 0#1 11#8 kp (by exact aM 0#4 0#2)) e6)
theorem TU(hm:most<1000)(g:Gs n most way S0 G S):∃Y5 S',gD G S=a_ 6#7/\Gs n most way S0 Y5 S':=by
 obtain⟨⟨m,T,x,y,rfl,gr,hle⟩,st⟩:=g;obtain⟨r,S1,e1,w1,s1⟩:=jT (m:=3) st.st 0#2 0#2;have hc:=of_eq (JS (G:= [a_ _,7#8,a_ (.int way),1#2,x,y]) (a:=mFn _ (aa 0#5 _)) (b:=mC (.int 0)) (cP 0#1 c_i e1) c_i);cases hb:((r:Int)==0) with
 | false=>
   rw[hb]at hc;exact⟨_,S1,kO hc,⟨m,T,x,y,rfl,gr,hle⟩,st.trans s1⟩
 | true=>
   rw[hb]at hc;obtain⟨l,S2,e2,s2,ol⟩:=B4 s1.st gr.pos (by exact aM 2#3 2#3);obtain⟨S3,e3,s3⟩:=IK (by exact aM 2#3 (ai 2#3 0#2)) gr.cl ol;refine⟨_,S3,(tm hc).trans (bj (cP 0#1 (cP 0#1 11#8 e2) e3)),⟨_,_,x,y,rfl,sf gr ol.ord,hle⟩,((st.trans s1).trans s2).step s3⟩
end
theorem KA{most:Nat}(h:pq n S)(h6:4<=most)(hm:most<1000):∃m T S',ox [.ref n,.int most] S=a_ (tab m T,S')/\Grp m T/\m<=most/\Stp n S S':=by
 have ZD:∀x,x<=most->x<big:=λx hx=>by unfold big;exact aM 0#4 (ai 0#4 0#2)
 obtain⟨way,S1,e1,w1,s1⟩:=jT (m:=8) h 0#2 0#2;obtain⟨r2,S2,e2,w2,s2⟩:=jT (m:=most) s1.st (by exact xX 0#4) hm;obtain⟨S3,e3,s3⟩:=nX (n:=1+r2) (S:=S2) 9#3 (ZD _ 0#0);have f1:m2 eP 1#9 (mFn bA 5#2) [6#0,7#8,a_ (.int way),b_,b_,b_] S1=a_ (.int (1+r2:Nat),S2):=add_n (x:=1) (y:=r2) c_i (cP 0#1 0#1 e2);have g0:Gs n most way S [6#0,7#8,a_ (.int way),a_ (tab (1+r2) (gS (1+r2))),b_,b_] S3:=⟨⟨_,_,b_,b_,rfl,lJ 9#3,by lia⟩,(s1.trans s2).step s3⟩;obtain⟨Z8,S4,e4,g4⟩:=Vv h6 hm g0;obtain⟨Z6,S5,e5,g5⟩:=Ss g4;obtain⟨Z5,S6,e6,g6⟩:=SF h6 hm g5;obtain⟨Z1,S7,e7,g7⟩:=TU hm g6;obtain⟨⟨m,T,x,y,rfl,gr,hle⟩,st⟩:=g7;refine⟨m,T,S7,cK (G:= 19#0) rfl ?_,gr,hle,st⟩;show nV [6#0,7#8,b_,b_,b_,b_] S=_;exact(aL (bj (cP 0#1 c_i e1))).trans ((aL (bj (fK f1 e3))).trans ((aL e4).trans ((aL e5).trans ((aL e6).trans ((aL e7).trans (cz 0#1))))))
def Scr(ns:List Int)(S:Sto):Prop:=getL S 0=a_ (ns.map U.int)
variable{ns:List Int}
theorem Scr.ex(h:Scr ns S)(e:∀c,S[0]?=a_ c->S'[0]?=a_ c):Scr ns S':=by
 unfold Scr getL at h ⊢
 split at h<;>simp_all
theorem Scr.lt(h:Scr ns S):0<0#7:=by
 unfold Scr getL at h
 split at h
 .rename_i q;exact(ag.mp q).1
 .rename_i q;exact(ag.mp q).1
 all_goals cases h
theorem b9{α:Type}(S:List α)(c:α):(S++[c])[0#7]?=a_ c:=by
 simp
theorem NT{x:Int}(ha:a G S=a_ 6#2)(hb:b G S1=a_ 8#0):m2 oLt a b G S=a_ (.bl (decide (x<y)),S2):=op2 ha hb rfl
theorem SW{x:Int}(ha:a G S=a_ 6#2)(hb:b G S1=a_ 8#0):m2 oGe a b G S=a_ (.bl (decide (y<=x)),S2):=op2 ha hb rfl
theorem Oc(h:getL S r=a_ us):gM S (.ref r)=b_:=by
 unfold getL at h
 show(match S[r]? with
  |some (.dic _)=>a_ _
  | _=>b_)=b_
 split at h<;>rename_i q<;>first | (cases h;done) | (rw[q])
theorem Oh(ha:a G S=a_ (.ref r,S))(hr:getL S r=a_ us):mFn cp 4#2 G S=a_ (.int 1#3,S):=
 fK ha (by simp[cp,Oc hr,eB,hr])
theorem V2(ha:a G S=a_ (.ref n,S1))(hb:b G S1=a_ (.int z,S2))(hn:getL S2 n=a_ us)(h:atI us z=a_ u):m2 oIx a b G S=a_ (u,S2):=op2 ha hb (by simp[oIx,Oc hn,eB,hn,h])
theorem kR{α:Type}{us:List α}{k:Nat}{u:α}(h:us[k]?=a_ u):atI us (k:Int)=a_ u:=by
 have hk:=(ag.mp h).1;simp[atI,ixN,hk]
 simp_all
theorem L7{k:Nat}(h:Scr ns S):∃z,lh [.ref 0,.int k] S=a_ (.int z,S):=by
 have hc:=of_eq (NT (G:= [a_ _,5#5]) (a:=ae 1) (b:=mFn _ (aa 0#5 _)) 0#1 (Oh 0#1 h));rw[ar]at hc;cases hb:decide ((k:Int)<6#9) with
 | true=>
   rw[hb]at hc;have hk:=by simpa using hb
   have e:=V2 (G:= [a_ _,5#5]) (a:=ae 0) (b:=ae 1) 0#1 0#1 h (kR (u:= .int ns[k]) (by simp[hk]));refine⟨ns[k],cK (G:= [a_ (.ref 0),5#5]) rfl ?_⟩;show jF [a_ _,a_ _] S=_;unfold jF aX;rw[tm hc,cz e]
 | false=>
   rw[hb]at hc;refine⟨0,cK (G:= [a_ (.ref 0),5#5]) rfl ?_⟩;exact(aL ((kO hc).trans rfl)).trans (cz c_i)
theorem OO:m2 DJ (mC (.int 10)) (mC (.int 18)) G S=a_ (.int (10^(18:Int).toNat),S):=op2 rfl rfl (if_pos ⟨by decide,by decide,by decide⟩)
theorem H9{k:Nat}(h:Scr ns S):∃S',nK [.ref 0,.int k] S=a_ (.ref 0#7,S')/\Ex S S'/\pq S.length S':=by
 obtain⟨z,e1⟩:=L7 h;have e2:bC 2 (mFn _ (aa 0#5 (aa 0#9 _))) [a_ _,a_ _,b_] S=a_ (.nx,[a_ _,a_ _,a_ _],S):=bj 16#8;have hc:=of_eq (SW (G:= 19#2) (S:=S) (a:=ae 2) 0#1 OO);generalize hp:(10:Int)^(18:Int).toNat=p at hc;have hpe:∀G (S:Sto),m2 _ _ _ G S=a_ _:=λG S=>by rw[OO,hp]
 cases hb:decide (p<=z) with
 | true=>
   rw[hb]at hc;have e3:=KI (G:= 19#2) (S:=S) (a:=m2 _ 0#6 _) (b:=mC (.bl c_)) (E6 0#1 (hpe _ _)) rfl;refine⟨_,cK (G:= 19#2) rfl ?_,Ex.push _ _,⟨z-p,c_,b9 _ _⟩⟩;refine(aL e2).trans ?_;unfold aX;rw[tm hc,cz e3]
 | false=>
   rw[hb]at hc;have e3:=KI (G:= 19#2) (S:=S) (a:=m2 _ 0#6 (mC (.int 2147483647))) (b:=mC (.bl d_)) (JZ 0#1 c_i 0#2) rfl;refine⟨_,cK (G:= 19#2) rfl ?_,Ex.push _ _,⟨z%2147483647,d_,b9 _ _⟩⟩;exact(aL e2).trans ((aL ((kO hc).trans rfl)).trans (cz e3))
theorem BF{i n:Nat}{b:MS}(us:List U)(P:Nat->Rho->Sto->Prop)(hl:∀k G S,P k G S->getL S n=a_ us)
  (st:∀(k:Nat) (u:U) (G:Rho) (S:Sto),us[k]?=a_ u->P k G S->∃Y5 S',b (G.set i (a_ u)) S=a_ 6#7/\P (k+1) Y5 S'):
  ∀(f k:Nat) (G:Rho) (S:Sto),k<=1#3->1#3-k<f->P k G S->∃Y5 S',forL i b n f k G S=a_ 6#7/\P us.length Y5 S'
 |0,k,G,S,h1,h2,_=>by lia
 | f+1,k,G,S,h1,h2,hp=>by
   unfold forL;rw[hl k G S hp];simp;by_cases hk:k<1#3
   .have hu:us[k]?=a_ us[k]:=by simp
    obtain⟨Y4,S1,e1,p1⟩:=st k _ G S hu hp;obtain⟨X0,S2,e2,p2⟩:=BF us P hl st f _ _ S1 0#4 0#0 p1;refine⟨_,S2,?_,p2⟩;simp[hu,aft,e1,e2]
   grind
theorem vS{b:MS}{G:Rho}{S:Sto}(he:e G S=a_ (.ref n,S1))(hu:1#3<100000)(P:Nat->Rho->Sto->Prop)(h0:P 0 G S1)(hl:∀k G S,P k G S->getL S n=a_ us)
  (st:∀(k:Nat) (u:U) (G:Rho) (S:Sto),us[k]?=a_ u->P k G S->∃Y5 S',b (G.set i (a_ u)) S=a_ 6#7/\P (k+1) Y5 S'):
  ∃Y5 S',fj i (dh e) b G S=a_ 6#7/\P us.length Y5 S':=by
 obtain⟨Y5,S',e1,p1⟩:=BF us P hl st _ 0 G S1 (bS _) 2#3 h0;refine⟨_,S',?_,p1⟩;unfold fj dh;rw[he];simp[aF,hl 0 G S1 h0];exact e1
theorem sy{b:MS}{G:Rho}{S:Sto}(he:e G S=a_ (.tup us,S1))(P:Nat->Rho->Sto->Prop)(h0:P 0 G S1)
  (st:∀(k:Nat) (u:U) (G:Rho) (S:Sto),us[k]?=a_ u->P k G S->∃Y5 S',b (G.set i (a_ u)) S=a_ 6#7/\P (k+1) Y5 S'):
  ∃Y5 S',fj i (dh e) b G S=a_ 6#7/\P us.length Y5 S':=by
 obtain⟨Y5,S',e1,p1⟩:=vK (i:=i) (b:=b) P us 0 G S1 h0 λj u G S hj hp=>by simp_all
 rw[fU]at p1;refine⟨_,S',?_,p1⟩;unfold fj dh;rw[he];exact e1
def fv(T:Nat->Nat->Nat)(w:List Nat):Nat:=w.foldl T 0
def plc(T:Nat->Nat->Nat)(w:List Nat):List Nat:=(aq (4#6+1)).map λk=>fv T (w.take k)
theorem ND(hp:0<m)(cl:∀i j,i<m->j<m->T i j<m){w:List Nat}(hw:∀x∈w,x<m):fv T w<m:=by
 unfold fv;have:∀(w:List Nat) (a:Nat),a<m->(∀x∈w,x<m)->w.foldl T a<m:=by
  intro w
  induction w with
  |nil=>intro a ha _;exact ha
  |cons x w ih=>intro a ha h;exact ih _ (cl a x ha (h x 0#3)) λy hy=>h y (by simp[hy])
 exact this w 0 hp hw
variable{w:List Nat}
theorem Hj{k:Nat}(h:w[k]?=a_ x):fv T (w.take (k+1))=T (fv T (w.take k)) x:=by
 unfold fv;rw[fk,h];simp
theorem JD{α:Type}{f:Nat->α}{k:Nat}:atI ((aq (k+1)).map f) (-1)=a_ (f k):=by
 have e:ixN ((aq (k+1)).map f).length (-1)=a_ k:=by
  rw[ar,aZ];unfold ixN
  grind
 unfold atI;rw[e];simp
theorem kD{k:Nat}(h:(ax l)[k]?=a_ u):∃x,l[k]?=a_ x/\u=.int x:=by
 obtain⟨hk,rfl⟩:=vB h;exact⟨_,by simp[oF,hk],rfl⟩
theorem Uk:m1 lM 1#9 G S=a_ (.int (-1),S):=rfl
theorem l6:∀(a b:List Nat),dm (a.map λ(x:Nat)=>fR x) (b.map λ(x:Nat)=>fR x)=decide (a=b)
 |[],[]=>by simp[dm]
 |[],_::_=>by simp[dm]
 |_::_,[]=>by simp[dm]
 | x::a,y::b=>by
   simp[dm,fi,l6 a b]
   grind
theorem vH:toD S (f+2) (.tup (ax l))=a_ (.tuple (l.map λ(x:Nat)=>fR x)):=by
 show(dJ _ _).map _=_;rw[qR l];rfl
theorem Fu{a b:List Nat}:_G.eqU S (.tup (ax a)) (.tup (ax b))=a_ (decide (a=b)):=by
 unfold _G.eqU;rw[vH,vH];simp[fi,l6]
theorem Pp{x y:List Nat}(ha:a G S=a_ (.tup (ax x),S1))(hb:b G S1=a_ (.tup (ax y),S2)):m2 oNe a b G S=a_ (.bl (!decide (x=y)),S2):=
 op2 ha hb (by simp[oNe,Fu])
theorem isT (ha:a G S=a_ (.tup us,S1)):m1 (sH "tuple") a G S=a_ (.bl c_,S1):=by
 simp[m1,ha];rfl
theorem not_eq{c:MT}{b:Bool}(h:c G S=a_ (b,S1)):Dn c G S=a_ (!b,S1):=by simp[Dn,h,aF]
theorem MW{S3:Sto}{c:ME}{x y z:U}(ha:a G S=a_ (x,S1))(hb:b G S1=a_ (y,S2))(hc:c G S2=a_ (z,S3)):dP (aa a (aa b (aa c ah))) G S=a_ (.ref S3.length,S3++[Cell.lst [x,y,z]]):=by
 have hq:3<=big:=by decide
 simp[dP,aa,ah,aF,ha,hb,hc,hq]
theorem HM{c:Nat}(h:Scr ns S)(hv:G[0]?=a_ (a_ (.ref 0)))(hl:6#9<=63):∃q:Nat,q<1000/\mFn Ah (aa 1#9 (aa (mFn y9 (aa 7#7 (aa (mC (.int c)) ah))) ah)) G S=a_ (.int q,S):=by
 have e1:mFn y9 (aa _ (aa (mC (.int c)) _)) G S=a_ _:=cP (Oh (var_eq hv) h) c_i rfl;have e2:=cP (f:=Ah) (a:=mC (.int 1)) c_i e1 rfl;rw[ar]at e2;refine⟨max 1 (min _ c),Nat.max_lt.mpr ⟨by decide,aM (aK (Nat.min_le_left _ _) hl) 0#2⟩,?_⟩;rw[e2];show a_ _=_;have:(if (if (c:Int)<6#9 then(c:Int) else 6#9)>1 then(if (c:Int)<6#9 then(c:Int) else 6#9) else 1)=((max 1 (min ns.length c):Nat)):=by
  by_cases h:(c:Int)<6#9
  .rw[Nat.min_eq_right (aI (g8.mp h)),if_pos h]
   split
   .rename_i h1;rw[Aw (aI (g8.mp h1))]
   .rename_i h1;rw[CB (d5 λz=>h1 (g8.mpr z))];rfl
  .rw[ly (d5 λz=>h (g8.mpr z)),if_neg h]
   split
   .rename_i h1;rw[Aw (aI (g8.mp h1))]
   .rename_i h1;rw[CB (d5 λz=>h1 (g8.mpr z))];rfl
 rw[this]
variable{y:Nat}
theorem Hl(ha:a G S=a_ 6#2)(hb:b G S1=a_ 8#0):m2 oEq a b G S=a_ (.bl (decide (x=y)),S2):=by
 rw[JS ha hb]
 congr 3
 grind
theorem Hb(ha:a G S=a_ 6#2)(hb:b G S1=a_ 8#0):m2 oNe a b G S=a_ (.bl (!decide (x=y)),S2):=by
 rw[op2 ha hb _];show a_ (U.bl (!((x:Int)==y)),S2)=_
 congr 4
 grind
theorem Qj{a b:MS}{Y4:Rho}(h:a G S=a_ (.rt u,Y4,S1)):aX a b G S=a_ (.rt u,Y4,S1):=by simp[aX,h]
theorem Bq:mX m T i=.tup (ax ((aq m).map (T i))):=by
 unfold mX Dj ax;rw[bq];rfl
def unT(m:Nat)(T:Nat->Nat->Nat)(i:Nat):Nat:=((aq m).map (T i)).idxOf 0
theorem j9(g:Grp m T)(hi:i<m):unT m T i<m/\T i (unT m T i)=0/\T (unT m T i) i=0 /\ ∀k,k<m->T i k=0->k=unT m T i:=by
 obtain⟨j,hj,h1,h2,h3⟩:=g.inv1 hi;have e:unT m T i=j:=by
  unfold unT;rw[rQ,idx_map (k:=j) m 0 (bS _) 0#0 h1 λk _ hk h0=>by have:=h3 k (by exact aY 0#4 0#4) h0;lia]
  lia
 rw[e];exact⟨hj,h1,h2,h3⟩
theorem J3(g:Grp m T)(hi:i<m):0∈(aq m).map (T i):=by
 obtain⟨h1,h2,_⟩:=j9 g hi;exact aw.mpr ⟨unT m T i,aA.mpr h1,h2⟩
theorem LX(ha:a G S=a_ (u,S1)):iS 4#2 G S=a_ (.tup [u],S1):=by
 have Yx:1<=big:=by decide
 simp[iS,pK ha,aF,Yx]
theorem BN(h:S[n]?=a_ (Cell.lst (ax l))):toD S (f+2) (.ref n)=a_ (.list (l.map λ(x:Nat)=>fR x)):=by
 show(getL S n).bind _=_;have:getL S n=a_ (ax l):=by unfold getL;rw[h]
 rw[this];simp only[aO];rw[qR l];rfl
theorem Nv{k:Nat}{x y:List Nat}(ha:a G S=a_ (.ref n,S1))(hb:b G S1=a_ (.ref k,S2))(hn:S2[n]?=a_ (Cell.lst (ax x)))(hk:S2[k]?=a_ (Cell.lst (ax y))):m2 oNe a b G S=a_ (.bl (!decide (x=y)),S2):=by
 refine op2 ha hb ?_;unfold oNe _G.eqU;rw[BN hn,BN hk];simp[fi,l6]
theorem Uo{b:Bool}(ha:a G S=a_ (.bl b,S1)):m1 uh a G S=a_ (.bl (!b),S1):=by
 simp[m1,ha,aF,uh]
theorem or_false{a b:MT}(ha:a G S=a_ (d_,S1))(hb:b G S1=a_ (d_,S2)):cOr a b G S=a_ (d_,S2):=by
 rw[or_eq ha hb 10#0];rfl
def dC(l:List Nat):List Int:=l.map λ(x:Nat)=>(x:Int)
def srt(l:List Nat):List Nat:=(nS (dC l)).map Az
theorem wx(l:List Nat):(nS (dC l)).map U.int=ax (srt l):=by
 unfold ax srt;rw[bq];apply aR;intro i hi;have hm:=(jo _).mem_iff.mp hi;obtain⟨x,_,rfl⟩:=aw.mp hm;rfl
theorem pX:∀l:List Nat,(dC l).map Az=l
 |[]=>rfl
 | x::l=>by
   show Az _::(dC l).map _=x::l;rw[pX l];rfl
theorem lB(l:List Nat):(srt l).Perm l:=by
 have h:=(jo (dC l)).map Az;rw[pX]at h;exact h
theorem oR{a b:List Nat}(p:a.Perm b):srt a=srt b:=by
 unfold srt;rw[nH ((jo (dC a)).trans (p.map _)) (wL _)];rfl
theorem fO:x∈srt l↔x∈l:=(lB l).mem_iff
theorem mL(l:List Nat):(srt l).length=2#8:=(lB l).length_eq
theorem mK:∀(l:List Nat),dJ yf (ax l)=a_ (dC l)
 |[]=>rfl
 | x::l=>by
   show(yf _).bind _=_;rw[show rR _ l=ax l from rfl,mK l];rfl
theorem yq:∀(l:List Nat),dJ Bt (ax l)=a_ (dC l)
 |[]=>rfl
 | x::l=>by
   show(Bt (.int x)).bind _=_;simp only[Bt,aO];rw[show rR (λ(x:Nat)=>U.int x) l=ax l from rfl,yq l];rfl
def fW(l:List Nat):List (_L.Key×U):=l.map λ(x:Nat)=>(jW (x:Int),U.bl c_)
theorem wM{x:U}(h:vm S x=a_ (dC l))(hl:2#8<64):fe [x] S=a_ (.ref 0#7,S++[.lst (ax (srt l))]):=by
 have ok:Dx (dC l).length:=by unfold dC;rw[ar];exact hl
 simp[fe,h,ok,wx]
theorem qW(ha:a G S=a_ (.ref n,S1))(hn:S1[n]?=a_ (Cell.lst (ax l)))(hl:2#8<64):mFn fe 4#2 G S=a_ (.ref 4#7,S1++[.lst (ax (srt l))]):=
 fK ha (wM (by simp[vm,gM,hn,eB,getL,mK]) hl)
def BW(m:List (_L.Key×U))(k:_L.Key):Bool:=(kc m k).isSome
theorem qV{m:List (_L.Key×U)}{k:_L.Key}:BW m k=c_ ↔ ∃kv∈m,kv.1=k:=by
 unfold BW kc;simp
variable{kvs:List (_L.Key×U)}
theorem zG{x:Int}(ha:a G S=a_ 6#2)(hb:b G S1=a_ (.ref r,S2))(hr:S2[r]?=a_ (Cell.dic kvs)):cOf (m2 mB a b) G S=a_ (!BW kvs (.inl x),S2):=
 of_eq (op2 ha hb (by simp only[mB,gM,hr,keyOf,dr,BW]))
theorem Wn{i:ME}{x:Int}(ho:o G S=a_ (.ref r,S))(hi:i G S=a_ (.int x,S))(hr:S[r]?=a_ (Cell.dic kvs))(hl:4#1<big):gf o i 14#1 G S=a_ (.nx,G,S.set r (.dic (mZ kvs (.inl x) (.bl c_)))):=by
 simp[gf,mC,aF,ho,hi,hr,keyOf,hl]
section
variable {m:Nat}{T:Nat->Nat->Nat}{t n:Nat}
def orb(T:Nat->Nat->Nat)(t n x:Nat):List Nat:=(aq n).map λi=>T x (pw T t i)
theorem iD:y∈orb T t n x ↔ ∃i,i<n/\y=T x (pw T t i):=by
 unfold orb;rw[aw];constructor
 .rintro ⟨i,hi,rfl⟩;exact⟨i,aA.mp hi,rfl⟩
 .rintro ⟨i,hi,rfl⟩;exact⟨i,aA.mpr hi,rfl⟩
theorem MH:(orb T t n x).length=n:=by simp[orb]
theorem qL(g:Grp m T)(ht:t<m)(hx:x<m)(i:Nat):T (T x (pw T t i)) t=T x (pw T t (i+1)):=by
 rw[show pw T t (i+1)=T (pw T t i) t from rfl,g.as x _ t hx (gF g ht i) ht]
theorem FE(g:Grp m T)(ht:t<m)(h0:pw T t n=0)(i:Nat):pw T t (n+i)=pw T t i:=by
 rw[si g ht n i,h0,g.l0 _ (gF g ht i)]
theorem lL(g:Grp m T)(ht:t<m)(h0:pw T t n=0){z:Nat}(hx:x<m)(h1:y∈orb T t n x)(h2:z∈orb T t n y):z∈orb T t n x:=by
 obtain⟨i,hi,rfl⟩:=iD.mp h1;obtain⟨j,hj,rfl⟩:=iD.mp h2;have e:T (T x (pw T t i)) (pw T t j)=T x (pw T t (i+j)):=by rw[g.as _ _ _ hx (gF g ht i) (gF g ht j),si g ht i j]
 rw[e];by_cases YH:i+j<n
 .exact iD.mpr ⟨i+j,YH,rfl⟩
 .refine iD.mpr ⟨i+j-n,by lia,?_⟩
  rw[<-FE g ht h0 (i+j-n),show n+(i+j-n)=i+j by lia]
theorem KO(g:Grp m T)(hn:0<n)(hx:x<m):x∈orb T t n x:=iD.mpr ⟨0,hn,(g.r0 x hx).symm⟩
theorem jM(g:Grp m T)(ht:t<m)(hn:0<n)(h0:pw T t n=0)(hx:x<m)(h:y∈orb T t n x):x∈orb T t n y:=by
 obtain⟨i,hi,rfl⟩:=iD.mp h;have e:T (T x (pw T t i)) (pw T t (n-i))=x:=by
  rw[g.as _ _ _ hx (gF g ht i) (gF g ht (n-i)),<-si g ht i (n-i),show i+(n-i)=n by lia,h0,g.r0 x hx]
 by_cases hi0:i=0
 .subst hi0
  refine iD.mpr ⟨0,hn,?_⟩;have e1:T x (pw T t 0)=x:=g.r0 x hx;rw[e1,e1]
 .exact iD.mpr ⟨n-i,by lia,e.symm⟩
theorem Pr(g:Grp m T)(ht:t<m)(hx:x<m)(h:y∈orb T t n x):y<m:=by
 obtain⟨i,hi,rfl⟩:=iD.mp h;exact g.cl _ _ hx (gF g ht i)
theorem Pt(g:Grp m T)(ht:t<m)(h1:∀k,1<=k->k<n->pw T t k≠0)(hx:x<m)(hi:1<=i)(ZI:i<n):T x (pw T t i)≠x:=λe=>by
 have:=g.cancel hx (gF g ht i) g.pos (e.trans (g.r0 x hx).symm);exact h1 i hi ZI this
def pL(T:Nat->Nat->Nat)(t n x:Nat):Bool:=(orb T t n x).all λy=>decide (x<=y)
theorem kg{x:Nat}:pL T t n x=c_ ↔ ∀y∈orb T t n x,x<=y:=by
 unfold pL;rw[dc];simp
end
open PySem in
open PySem in
open PySem in
open PySem in
open PySem in
open PySem in
open PySem in
open PySem in
open PySem in
open PySem in
open PySem in
open PySem in
open PySem in
def JP(l:List Nat):PySem.PyData:= .tuple (l.map λ(x:Nat)=>fR x)
open PySem in
open PySem in
theorem kE{f:MF}{G:Rho}{S S1 S2 S3:Sto}{a b c:ME}{x y z:U}{r:Res U}(ha:a G S=a_ (x,S1))(hb:b G S1=a_ (y,S2))(hc:c G S2=a_ (z,S3))(h:f [x,y,z] S3=r):mFn f (aa a (aa b (aa c ah))) G S=r:=by
 simp[mFn,aa,ah,ha,hb,hc,aF,h]
theorem uK{c:MT}{b:MS}(P:Nat->Rho->Sto->Prop)(Q:Rho->Sto->Prop)
  (hc:∀μ G S,P μ G S->∃k S1,c G S=a_ (k,S1)/\(k=d_->Q G S1)/\(k=c_->∃Y5 S' Y6,Y6<μ/\b G S1=a_ 6#7/\P Y6 Y5 S')):
  ∀(f μ:Nat) (G:Rho) (S:Sto),μ<f->P μ G S->∃Y5 S',whl c b f G S=a_ 6#7/\Q Y5 S'
 |0,μ,G,S,h,_=>by lia
 | f+1,μ,G,S,h,hp=>by
   obtain⟨k,S1,e,q1,q2⟩:=hc μ G S hp;unfold whl;rw[e];simp[aF];cases k with
   |false=>exact⟨G,S1,by simp,q1 rfl⟩
   | true=>
     obtain⟨Y4,S2,Y0,hl,e1,p1⟩:=q2 rfl;obtain⟨X0,S3,e2,q⟩:=uK P Q hc f _ _ S2 0#0 p1;exact⟨_,S3,by simp[if_true,aft,e1,e2],q⟩
section
variable {S x:Sto}{c e c' e':Cell}
theorem h0:(S++[c,e]++x)[0#7]?=a_ c:=by simp
theorem h1:(S++[c,e]++x)[0#7+1]?=a_ e:=by simp
theorem t0:(S++[c,e]++x).set S.length c'=S++[c',e]++x:=by
 grind
theorem t1:(S++[c,e]++x).set (0#7+1) e'=S++[c,e']++x:=by
 grind
end
theorem wV:BW (fW l) 14#2=decide (x∈l):=by
 have:BW (fW l) (.inl x)=c_↔x∈l:=by
  rw[qV];unfold fW;constructor
  .grind
  .intro h
   exact⟨_,aw.mpr ⟨x,h,rfl⟩,rfl⟩
 grind
theorem Me(h:x∉l):mZ (fW l) 14#2 (.bl c_)=fW (l++[x]):=by
 unfold mZ;rw[if_neg]
 .simp[fW]
 .intro z
  obtain⟨kv,hm,e⟩:=ki.mp z;have:=qV.mpr ⟨kv,hm,of_decide_eq_true e⟩;rw[wV]at this
  grind
theorem HY(l:List Nat):(fW l).length=2#8:=by simp[fW]
variable{h:Nat}
theorem LY(ho:o G S=a_ (.ref r,S))(hr:S[r]?=a_ (Cell.lst (ax (l++[h])))):mML Ar o ah G S=a_ (.int h,S.set r (Cell.lst (ax l))):=by
 simp only[mML,ho,aF,getL,hr,ah,Ar];simp[ax]
inductive Rch(T:Nat->Nat->Nat)(ths:List Nat):Nat->Prop where
 |zero:Rch T ths 0
 |step {x y:Nat}:Rch T ths x->y∈ths->Rch T ths (T x y)
structure Dfs(m:Nat)(T:Nat->Nat->Nat)(ths:List Nat)(ks:List Nat)(C:Nat->Prop):Prop where
 nd:ks.Nodup
 lt:∀x∈ks,x<m
 z:0∈ks
 rc:∀x∈ks,Rch T ths x
 cl:∀x∈ks,C x \/ ∀y∈ths,T x y∈ks
section
variable {m:Nat}{T:Nat->Nat->Nat}{ths ks st:List Nat}
theorem Dfs.all(d:Dfs m T ths ks λ_=>False):x∈ks↔Rch T ths x:=by
 refine⟨d.rc x,λh=>?_⟩
 induction h with
 |zero=>exact d.z
 |step _ hy ih=>exact((d.cl _ ih).resolve_left id) _ hy
theorem Dfs.len(d:Dfs m T ths ks C):ks.length<=m:=se m ks d.nd d.lt
theorem MX{a b:List Nat}(ha:a.Nodup)(hb:b.Nodup)(h:∀x,x∈a↔x∈b):a.Perm b:=(fE ha hb).mpr λx=>h x
def tryD(T:Nat->Nat->Nat)(h y:Nat)(p:List Nat×List Nat):List Nat×List Nat:=if T h y∈p.1 then p else(p.1++[T h y],p.2++[T h y])
structure Inn(m:Nat)(T:Nat->Nat->Nat)(ths:List Nat)(h k:Nat)(p:List Nat×List Nat)(μ:Nat):Prop where
 d:Dfs m T ths p.1 λx=>x∈p.2\/x=h
 sub:∀x∈p.2,x∈p.1
 hk:h∈p.1
 hh:∀y∈ths.take k,T h y∈p.1
 ms:2*(m-p.1.length)+p.2.length<=μ
variable{μ:Nat}{p:List Nat×List Nat}
theorem Inn.try{k:Nat}(g:Grp m T)(ht:∀x∈ths,x<m)(n:Inn m T ths h k p μ)(hy:ths[k]?=a_ y):Inn m T ths h (k+1) (tryD T h y p) μ:=by
 have YC:=bK hy;have htk:ths.take (k+1)=ths.take k++[y]:=by rw[fk,hy];rfl
 unfold tryD
 split
 .rename_i ZI
  refine⟨n.d,n.sub,n.hk,λz hz=>?_,n.ms⟩;rw[htk]at hz;rcases aQ.mp hz with hz |hz
  .exact n.hh z hz
  .simp at hz;rw[hz];exact ZI
 .rename_i ZI
  have nd:(p.1++[T h y]).Nodup:=by
   rw[d6];exact⟨n.d.nd,by simp,λa ha b hb=>by simp at hb;rintro rfl;exact ZI (hb▸ha)⟩
  have ZQ:=g.cl _ _ (n.d.lt h n.hk) (ht y YC);have lt:∀x∈p.1++[T h y],x<m:=λx hx=>by
   rcases aQ.mp hx with hx|hx
   .exact n.d.lt x hx
   .simp at hx;lia
  refine⟨⟨nd,lt,bf _ n.d.z,λx hx=>?_,λx hx=>?_⟩,λx hx=>?_,bf _ n.hk,λz hz=>?_,?_⟩
  .rcases aQ.mp hx with hx|hx
   .exact n.d.rc x hx
   .simp at hx;rw[hx];exact .step (n.d.rc h n.hk) YC
  .rcases aQ.mp hx with hx|hx
   .rcases n.d.cl x hx with (c|c)|c<;>simp_all
   .exact .inl (.inl (a8 _ hx))
  .rcases aQ.mp hx with hx|hx
   .exact bf _ (n.sub x hx)
   .exact a8 _ hx
  .rw[htk]at hz
   rcases aQ.mp hz with hz|hz
   .exact bf _ (n.hh z hz)
   simp_all
  .have:=se m _ nd lt
   have:=n.ms;simp at *
   lia
structure Eb(m:Nat)(T:Nat->Nat->Nat)(ths ks st:List Nat)(μ:Nat):Prop where
 d:Dfs m T ths ks λx=>x∈st
 sub:∀x∈st,x∈ks
 ms:2*(m-ks.length)+st.length<=μ
theorem Eb.start(hm:0<m):Eb m T ths [0] [0] (2*m):=
 ⟨⟨by simp,by simpa using hm,by simp,λx hx=>by simp at hx;rw[hx];exact .zero,λx hx=>.inl hx⟩,λx hx=>hx,by simp;lia⟩
theorem Eb.pop(s:Eb m T ths ks (st++[h]) (μ+1)):Inn m T ths h 0 (ks,st) μ:=
 ⟨⟨s.d.nd,s.d.lt,s.d.z,s.d.rc,λx hx=>(s.d.cl x hx).imp (λc=>by simpa using c) id⟩,λx hx=>s.sub x (bf _ hx),s.sub h 0#3,by simp,by have:=s.ms;simp at this;exact d8 0#4⟩
theorem Inn.done(n:Inn m T ths h ths.length p μ):Eb m T ths p.1 p.2 μ:=
 ⟨⟨n.d.nd,n.d.lt,n.d.z,n.d.rc,λx hx=>by
  rcases n.d.cl x hx with (c|c)|c
  .exact .inl c
  .subst c;exact .inr λy hy=>n.hh y 10#0
  ·exact .inr c⟩,n.sub,n.ms⟩
end
section
variable {m:Nat}{T:Nat->Nat->Nat}{ths:List Nat}{S x:Sto}{v:U}
def spR(m:Nat)(T:Nat->Nat->Nat)(v:U)(S:Sto)(r:List (Option U)):Rho:= [1#2,a_ v,2#5,13#8]++r
def Wk(S:Sto)(v:U)(ths:List Nat):Prop:=v=.tup (ax ths) \/ ∃r,v=.ref r/\S[r]?=a_ (.lst (ax ths))/\ths.length<1000
def Og:MT:=cOf (m2 oGt 8#4 1#8)
theorem Inn.st_le{k μ:Nat}{p:List Nat×List Nat}(n:Inn m T ths h k p μ)(X9:μ<1000)(hm:m<64):p.1.length<big/\p.2.length<big:=by
 have:=n.ms;have:=n.d.len;unfold big
 lia
theorem q8{α:Type}:∀{l:List α},l≠[]->∃a b,l=a++[b]
 |l,h=>⟨_,_,(AA h).symm⟩
theorem EV{S:Sto}{x:U}(ha:a G S=a_ (x,S1)):dP 4#2 G S=a_ (.ref 4#7,S1++[Cell.lst [x]]):=by
 have hq:1<=big:=by decide
 simp[dP,aa,ah,aF,ha,hq]
end
def tups(ls:List 3#6):List U:=ls.map λl=>U.tup (ax l)
theorem yv{S:Sto}{f:Nat}:∀(ls:List 3#6),dJ (toD S (f+2)) (tups ls)=a_ (ls.map JP)
 |[]=>rfl
 | l::ls=>by
   show(toD S _ _).bind _=_;rw[vH];have:=yv (S:=S) (f:=f) ls;unfold tups at this;rw[this];rfl
theorem Bv{ls:List (List Nat)}(h:S[n]?=a_ (Cell.lst (tups ls))):toD S 40 (.ref n)=a_ (.list (ls.map JP)):=by
 show(getL S n).bind _=_;unfold getL;rw[h];simp only[aO];rw[yv];rfl
theorem BP:∀(a b:List 3#6),dm (a.map JP) (b.map JP)=decide (a=b)
 |[],[]=>by simp[dm]
 |[],_::_=>by simp[dm]
 |_::_,[]=>by simp[dm]
 | x::a,y::b=>by
   rw[dy,dy,dm,BP a b];unfold JP;rw[fi,l6]
   simp_all
open PySem in
open PySem in
open PySem in
open PySem in
theorem LU{l:List Nat}{x:Nat}:inV (.int x) (l.map λ(y:Nat)=>V.int y)=decide (x∈l):=by
 unfold inV;rw[List.any_map];by_cases h:x∈l
 .rw[decide_eq_true h,ki]
  exact⟨x,h,beq_self_eq_true _⟩
 .rw[decide_eq_false h,List.any_eq_false]
  intro y hy;have q:y≠x:=λe=>h (e▸hy);exact λz=>q (Int.ofNat.inj (eq_of_beq z))
theorem yt:∀(l:List Nat),dJ iI (ax l)=a_ (l.map λ(y:Nat)=>V.int y)
 |[]=>rfl
 | x::l=>by
   show(iI _).bind _=_;have:=yt l;unfold ax at this;rw[this];rfl
theorem FH(h:S[r]?=a_ (Cell.lst us)):gM S (.ref r)=b_:=by
 simp[gM,h]
def sdF(r:Nat->List Nat):Nat->List 3#6×List Nat
 |0=>([],[])
 |k+1=>if k∈(sdF r k).2 then sdF r k else((sdF r k).1++[srt (r k)],(sdF r k).2++r k)
def putN(l:List Nat)(x:Nat):List Nat:=if x∈l then l else l++[x]
theorem Iu:y∈putN l x↔y∈l\/y=x:=by
 unfold putN
 split<;>simp_all
theorem JW:mZ (fW l) 14#2 (.bl c_)=fW (putN l x):=by
 unfold putN
 split
 .rename_i h
  unfold mZ;have:((fW l).any λkv=>decide (kv.1=jW (x:Int)))=c_:=by
   rw[ki];exact⟨_,aw.mpr ⟨x,h,rfl⟩,by simp⟩
  rw[if_pos this];unfold fW
  simp_all
 .rename_i h
  exact Me h
theorem wt:∀{xs l:List Nat}{y:Nat},y∈xs.foldl putN l↔y∈l\/y∈xs
 |[],l,y=>by simp
 | x::xs,l,y=>by
   rw[g9,wt,Iu];simp[or_assoc]
theorem JJ:(putN l x).length<=2#8+1:=by
 unfold putN;split<;>simp
theorem qP:∀{xs l:List Nat},(xs.foldl putN l).length<=2#8+1#4
 |[],l=>by simp
 | x::xs,l=>by
   have:=qP (xs:=xs) (l:=putN l x);have:=JJ (l:=l) (x:=x)
   grind
def pcF(r:Nat->List Nat)(ext:Nat->Sto):Nat->List 3#6×List Nat×Sto
 |0=>([],[],[])
 |k+1=>if k∈(pcF r ext k).2.1 then pcF r ext k else((pcF r ext k).1++[srt (r k)],(srt (r k)).foldl putN (pcF r ext k).2.1,(pcF r ext k).2.2++ext k)
theorem CU{r:Nat->List Nat}{ext:Nat->Sto}:∀k,(pcF r ext k).1=(sdF r k).1 /\ ∀y,y∈(pcF r ext k).2.1↔y∈(sdF r k).2
 |0=>⟨rfl,λy=>Iff.rfl⟩
 | k+1=>by
   obtain⟨h1,h2⟩:=CU (r:=r) (ext:=ext) k;unfold pcF sdF;by_cases h:k∈(sdF r k).2
   .simp_all
   .rw[if_neg h,if_neg λz=>h ((h2 k).mp z)]
    refine⟨by rw[h1],λy=>?_⟩;rw[wt,h2,fO,aQ]
theorem JC{r:Nat->List Nat}{ext:Nat->Sto}{B:Nat}(hr:∀k,(r k).length<=B):∀k,(pcF r ext k).1.length<=k/\(pcF r ext k).2.1.length<=k*B
 |0=>by simp[pcF]
 | k+1=>by
   have:=JC (ext:=ext) hr k;have:=hr k;unfold pcF;rw[qw]
   split
   .lia
   .have h:=qP (xs:=srt (r k)) (l:=(pcF r ext k).2.1)
    rw[mL]at h<;>grind
def cW(S:Sto)(p:List 3#6×List Nat×Sto):Sto:=S++[.lst (tups p.1),.dic (fW p.2.1)]++p.2.2
def wk(g:iA)(φ:MF):MS:=sIf (cOf (m2 mB (ae 4) 0#8)) (aX (bC 5 (wq 1 g φ 5#3)) (aX (eG (mML de 0#6 6#5)) (fj 6 (dh (ae 5)) (gf 0#8 (ae 6) 14#1)))) dw
def uL(g:iA)(φ:MF):MS:=aX (bC 2 (dP ah)) (aX (bC 3 nN) (aX (fj 4 (dh 0#5) (wk g φ)) (cb 0#6)))
theorem yE{x:Sto}{xs:List Nat}(h5:G[5]?=a_ (a_ (.tup (ax xs))))(h3:G[3]?=a_ (a_ (.ref (0#7+1))))(h7:G.length=7)(hb:2#8+1#4<big):
  ∃v,fj 6 (dh (ae 5)) (gf 0#8 (ae 6) 14#1) G (S++[c,.dic (fW l)]++x)=a_ (.nx,G.set 6 v,S++[c,.dic (fW (xs.foldl putN l))]++x):=by
 obtain⟨Y5,S',e,⟨v,rfl⟩,rfl⟩:=sy (S:=S++[c,.dic (fW l)]++x) (var_eq h5)
  (λk Y5 S'=>(∃v,Y5=G.set 6 v)/\S'=S++[c,.dic (fW ((xs.take k).foldl putN l))]++x) ⟨⟨G[6]' 0#0,by simp⟩,by simp⟩ (by
  rintro k u Y5 S' hu ⟨⟨v,rfl⟩,rfl⟩;obtain⟨y,hy,rfl⟩:=kD hu;rw[List.set_set];have g3:(G.set 6 (a_ (.int y)))[3]?=a_ (a_ (.ref (0#7+1))):=by rw[aN 0#2];exact h3
  have g6:(G.set 6 _)[6]?=a_ (a_ (.int y)):=aV 0#0
  have e:=Wn (var_eq g3) (var_eq g6) (h1 (x:=x) (c:=c) (e:= .dic (fW ((xs.take k).foldl putN l)))) (by
   rw[HY];have:=qP (xs:=xs.take k) (l:=l);have:(xs.take k).length<=1#4:=by rw[c6];lia
   lia)
  rw[t1,JW]at e;refine⟨_,_,e,⟨_,rfl⟩,?_⟩;rw[fk,hy,List.foldl_append]
  rfl)
 rw[cn,List.take_length]at e;exact⟨v,e⟩
variable{ext:Nat->Sto}{φ:MF}
theorem G9{r:Nat->List Nat}{S:Sto}(hm:m<64)(hr:∀k,(r k).length<=64)(hφ:∀i (S:Sto),i<m->φ [.int (i:Nat)] S=a_ (.tup (ax (srt (r i))),S++ext i))(g:iA):
  _G.run 2 7 (uL g φ) [.tup (ax (aq m)),.obj g] S=a_ (.ref 0#7,cW S (pcF r ext m)):=by
 obtain⟨Y4,S1,e1,⟨a,b,c,rfl⟩,W8⟩:=sy (i:=4) (e:=ae 0) (b:=wk g φ) 0#1
  (λk G S'=>(∃a b c,G = [9#0,4#9,2#5,13#8,a,b,c])/\S'=cW S (pcF r ext k)) ⟨⟨_,_,_,rfl⟩,rfl⟩ (by
   rintro k u G S' hu ⟨⟨a,b,c,rfl⟩,rfl⟩;obtain⟨k',YM,rfl⟩:=kD hu;have hk:=by have:=(ag.mp YM).1;simpa using this
   rw[ue hk]at YM;cases YM;have bd:=JC (ext:=ext) hr k;have ec:=zG (G:= [9#0,4#9,2#5,a_ _,5#5,b,c]) (a:=ae 4) (b:=ae 3) 0#1 0#1 (show(cW S (pcF r ext k))[0#7+1]?=_ from h1);rw[wV]at ec;by_cases ZI:k∈(pcF r ext k).2.1
   .rw[decide_eq_true ZI]at ec
    refine⟨_,_,(kO ec).trans rfl,⟨_,_,_,rfl⟩,?_⟩;rw[pcF,if_pos ZI]
   .rw[decide_eq_false ZI]at ec
    have e5:wq 1 g φ 5#3 [9#0,4#9,2#5,13#8,5#5,b,c] (cW S (pcF r ext k))=a_ (.tup (ax (srt (r k))),cW S (pcF r ext k)++ext k):=by
     show(if g=g then mFn φ _ _ _ else b_)=_;rw[if_pos rfl];exact fK 0#1 (hφ k _ hk)
    have hx:cW S (pcF r ext k)++ext k=S++[.lst (tups (pcF r ext k).1),.dic (fW (pcF r ext k).2.1)]++((pcF r ext k).2.2++ext k):=by simp[cW]
    rw[hx]at e5;have e6:=append_eq (G:= [9#0,4#9,a_ _,a_ (.ref (S.length+1)),5#5,a_ (.tup (ax (srt (r k)))),c]) (o:=ae 2) (a:=ae 5) 0#1 0#1 (h0 (S:=S) (x:=(pcF r ext k).2.2++ext k) (c:= .lst (tups (pcF r ext k).1)) (e:= .dic (fW (pcF r ext k).2.1))) h0 (by simp[tups,ar];unfold big;lia);rw[t0]at e6
    obtain⟨v,e7⟩:=yE (G:= [a_ _,a_ _,a_ _,a_ _,a_ _,a_ _,c]) (xs:=srt (r k)) (l:=(pcF r ext k).2.1) rfl rfl rfl (by
     rw[mL];have:=hr k
     unfold big;lia)
    refine⟨_,_,(tm ec).trans ((aL (bj e5)).trans ((aL e6).trans e7)),⟨_,_,_,rfl⟩,?_⟩;rw[pcF,if_neg ZI]
    simp[cW,tups])
 rw[cn,aZ]at W8;subst W8;refine cK (G:= [9#0,4#9,2#5,13#8,a,b,c]) rfl ?_;have e2:nN [9#0,4#9,2#5,b_,b_,b_,b_] (S++[Cell.lst []])=a_ (.ref (0#7+1),cW S (pcF r ext 0)):=by
  simp[nN,cW,pcF,tups,fW]
 exact(aL (bj jD)).trans ((aL (bj e2)).trans ((aL e1).trans (cz 0#1)))
variable{f:Nat->Nat}{part:List Nat}
theorem Qm{S:Sto}(hi:G[i]?=a_ (a_ (.tup (ax part))))(hl:part.length<64)(he:∀(x:Nat) (S:Sto),x∈part->e (G++[9#4]) S=a_ (.int (f x:Nat),S)):
  mFn bN (aa (mFn fe (aa (bW (dh (ae i)) cTT e) ah)) ah) G S=a_ (.tup (ax (srt (part.map f))),S++[.lst (ax (part.map f)),.lst (ax (srt (part.map f)))]):=by
 have hz:(part.map f).length<64:=by rw[ar];exact hl
 obtain⟨S1,e1,rfl⟩:=oH (λj => .int (f (oF part j))) (λ_ S'=>S'=S) _ 0 [] S rfl (by
  rintro j u S' hu rfl;obtain⟨x,hx,rfl⟩:=kD hu;refine⟨S',?_,rfl⟩;have:oF part (0+j)=x:=by rw[fU];unfold oF;rw[aP,hx];rfl
  rw[this]
  exact he x S' (bK hx))
 have hm:(aq (ax part).length).map (λj=>U.int (f (oF part (0+j))))=ax (part.map f):=by
  unfold ax;apply jO;intro j;rw[a9,a9,a9];by_cases h:j<part.length
  .simp[oF,h]
  .rw[fJ 14#6,fJ (by exact d5 0#4)];rfl
 rw[hm,ej]at e1;have e2:=mF (it:=dh (ae i)) (by unfold dh;rw[var_eq hi];rfl) e1 (by rw[cn];exact ai 0#4 0#2);have e3:=fo (qW e2 5#8 hz);rw[e3];simp
theorem map_len(h:part.length<64):(part.map f).length<=64:=by rw[ar];exact aI 2#3
def Bi(T:Nat->Nat->Nat)(part:List Nat)(left:Bool)(x:Nat):List Nat:=part.map λo=>if left then T x o else T o x
def atM:MS:=cb (yV (iR1 (aa 7#7 ah)))
theorem Jw(hm:m<1000):_G.run 1 1 atM [tab m T] S=a_ (.tup (ax (aq m)),S):=by
 refine cK rfl (cz ?_);have e1:=oQ (G:= [1#2]) (S:=S) (a:=mFn _ (aa 0#5 _)) 11#8 12#6;have e2:bI 0 m=ax (aq m):=by
  apply aR;simp
 rw[e2]at e1;have hz:(ax (aq m)).length<=big:=by rw[cn,aZ];unfold big;lia
 simp[yV,e1,aF,hz]
def lsM:MS:=cb (l4 (λg φ=>_G.run 2 7 (uL g φ)) 1 [0,1] (mFn bN (aa (mFn fe (aa (bW (dh 0#6) cTT (m2 oIx (m2 oIx 0#9 0#5) 0#8)) ah)) ah)) (mFn (_G.run 1 1 atM) 12#3))
def Jt(m:Nat)(T:Nat->Nat->Nat)(part:List Nat)(left:Bool):List 3#6:=(sdF (Bi T part left) m).1
section
variable {m:Nat}{T:Nat->Nat->Nat}{part:List Nat}{S:Sto}
theorem yo{left:Bool}:Ex S (cW S (pcF (Bi T part left) ext m))/\(cW S (pcF (Bi T part left) ext m))[0#7]?=a_ (Cell.lst (tups (Jt m T part left))):=by
 refine⟨⟨_,by unfold cW;rw[bz]⟩,?_⟩;have:=h0 (S:=S) (x:=(pcF (Bi T part left) ext m).2.2) (c:= .lst (tups (pcF (Bi T part left) ext m).1)) (e:= .dic (fW (pcF (Bi T part left) ext m).2.1));rw[(CU m).1]at this;unfold cW;rw[(CU m).1];exact this
theorem L0(g:Grp m T)(hm:m<64)(hl:part.length<64)(hp:∀x∈part,x<m):∃S',_G.run 2 2 lsM [tab m T,.tup (ax part)] S=a_ (.ref 0#7,S')/\Ex S S'/\S'[0#7]?=a_ (Cell.lst (tups (Jt m T part c_))):=by
 refine⟨cW S (pcF _ (λi=>[.lst (ax (Bi T part c_ i)),.lst (ax (srt (Bi T part c_ i)))]) m),cK rfl (cz ?_),yo.1,yo.2⟩;refine vN (fK 0#1 (Jw 12#6)) rfl λf=>G9 hm (λk=>map_len hl) (λi S' hi=>?_) f;exact Qm rfl hl λx S hx=>kH (j:=x) (hp x hx) (jm hi 0#1 0#1) 0#1
end
theorem K5{t:Nat}{S:Sto}{sv mv:ME}(ha:a G S=a_ (.int t,S0))(ht:t<1000)(h:pq n S0)(hm:0<m)(Zl:m<1000)
  (hs:∀z (S:Sto),sv (G++[z]) S=a_ (.ref n,S)) (hv:∀z (S:Sto),mv (G++[z]) S=a_ (.int m,S)):
  ∃w S',bW (iR1 4#2) cTT (mFn bA (aa sv (aa mv ah))) G S=a_ (.ref S'.length,S'++[.lst (ax w)])/\Stp n S0 S'/\(∀x∈w,x<m)/\4#6=t:=by
 obtain⟨ys,S1,e1,⟨w,rfl,q1,q2⟩,q3⟩:=sD (λacc S' =>∃w,acc=ax w/\(∀x∈w,x<m)/\Stp n S0 S') (bI 0 t) [] S0 ⟨[],rfl,by simp,Stp.refl h⟩ (by
  rintro k acc u S' hk hl ⟨w,rfl,q1,q2⟩;obtain⟨r,S2,e2,h2,h3⟩:=jT q2.st hm Zl;refine⟨_,S2,cP (hs _ _) (hv _ _) e2,w++[r],by simp[ax],λx hx=>?_,q2.trans h3⟩
  grind)
 have hlen:(bI 0 t).length=t:=by simp[bI]
 have hw:=by rw[cn]at q3;simpa [hlen]using q3
 exact⟨w,S1,mF (oQ ha 12#6) e1 (by rw[cn,hw];exact ai 2#3 0#2),q2,q1,hw⟩
theorem qc{t:MT}{e:ME}{G:Rho}{n:Nat}{S:Sto}{us:List U}{p:U->Bool}{f:U->U}(hu:getL S n=a_ us)(ht:∀u∈us,t 11#0 S=a_ (p u,S))(he:∀u∈us,p u=c_->e 11#0 S=a_ (f u,S)):
  ∀(k i:Nat) (acc:List U),i<=1#3->1#3-i<k->kW t e G n k i acc S=a_ (acc++((us.drop i).filter p).map f,S)
 |0,i,acc,h1,h2=>by omega
 | k+1,i,acc,h1,h2=>by
   unfold kW;rw[hu];simp;by_cases hi:i<1#3
   .have hd:=eN hi
    have hm:=bQ hi;rw[aC hi];simp;rw[ht _ hm];simp[aF];rw[hd];cases hp:p _ with
    | true=>
      rw[if_pos rfl,he _ hm hp];simp only[aF];rw[qc hu ht he k _ _ 0#4 2#3,o6 hp];simp
    | false=>
      rw[if_neg dq,qc hu ht he k _ _ 0#4 2#3,pb (by rw[hp];decide)]
   .rw[fJ 5#6,dR 5#6]
    simp
theorem mM{t:MT}{e:ME}{G:Rho}{S:Sto}{p:U->Bool}{f:U->U}:∀(us acc:List U),(∀u∈us,t 11#0 S=a_ (p u,S))->(∀u∈us,p u=c_->e 11#0 S=a_ (f u,S)) ->
  ji t e G us acc S=a_ (acc++(us.filter p).map f,S)
 |[],acc,_,_=>by simp[ji]
 | u::us,acc,ht,he=>by
   unfold ji;rw[ht u 0#3];simp[aF];cases hp:p u with
   | true=>
     rw[he u 0#3 hp];simp[aF];rw[mM us _ (λv hv=>ht v (aB _ hv)) (λv hv=>he v (aB _ hv)),o6 hp];simp
   | false=>
     rw[if_neg dq,mM us _ (λv hv=>ht v (aB _ hv)) (λv hv=>he v (aB _ hv)),pb 10#0]
theorem Hc{t:MT}{us:List U}{p:U->Bool}{f:U->U}(ha:a G S=a_ (.tup us,S1))(hl:1#3<big)(ht:∀u∈us,t 11#0 S1=a_ (p u,S1))(he:∀u∈us,p u=c_->e 11#0 S1=a_ (f u,S1)):
  bW (dh a) t e G S=a_ (.ref 4#7,S1++[.lst ((us.filter p).map f)]):=by
 have hi:dh a G S=a_ (.imm us,S1):=by simp[dh,ha,aF]
 have e1:=mM us [] ht he;refine mF hi e1 ?_;have:=hZ p us;rw[ar];exact aM 2#3 2#3
variable{p:Nat->Bool}
theorem wy{t:MT}{l:List Nat}{f:Nat->U}(ha:a G S=a_ (.tup (ax l),S1))(hl:2#8<big)(ht:∀x∈l,t (G++[9#4]) S1=a_ (p x,S1))(he:∀x∈l,p x=c_->e (G++[9#4]) S1=a_ (f x,S1)):
  bW (dh a) t e G S=a_ (.ref 4#7,S1++[.lst ((l.filter p).map f)]):=by
 have nat:∀u∈ax l,∃x∈l,u=.int x:=λu hu=>by
  obtain⟨x,hx,rfl⟩:=aw.mp hu;exact⟨x,hx,rfl⟩
 let g:U->Nat:=λu=>match u with | .int i=>i.toNat |_=>0
 have gx:∀x:Nat,g (.int x)=x:=λx=>by simp[g]
 have h:=Hc (p:=λu=>p (g u)) (f:=λu=>f (g u)) ha (by rw[cn];exact hl) (λu hu=>by
  obtain⟨x,hx,rfl⟩:=nat u hu
  exact ht x hx) (λu hu hp=>by
  obtain⟨x,hx,rfl⟩:=nat u hu
  exact he x hx hp)
 rw[h];have:((ax l).filter λu=>p (g u)).map (λu=>f (g u))=(l.filter p).map f:=by
  unfold ax;rw[List.filter_map,bq];have e1:(λu=>p (g u))∘(λ(x:Nat)=>U.int x)=p:=by funext x;simp[gx]
  have e2:(λu=>f (g u))∘(λ(x:Nat)=>U.int x)=f:=by funext x;simp[gx]
  rw[e1,e2]
 rw[this]
theorem yn{t:MT}{l:List Nat}{f:Nat->U}(ha:a G S=a_ (.tup (ax l),S1))(hl:2#8<1000)(ht:∀x∈l,t (G++[9#4]) S1=a_ (p x,S1))(he:∀x∈l,p x=c_->e (G++[9#4]) S1=a_ (f x,S1)):
  bW (dh a) t e G S=a_ (.ref 4#7,S1++[.lst ((l.filter p).map f)]):=
 wy ha 12#6 ht he
theorem wW(g:Grp m T)(hi:i<m):_G.run 2 2 (cb (mMT eZ (m2 oIx 0#5 0#9) 9#7)) [tab m T,.int i] S=a_ (.int (unT m T i),S):=by
 have h0:=J3 g hi;have e:=jm (G:= [1#2,a_ 4#8]) (S:=S) (a:=ae 0) (b:=ae 1) hi 0#1 0#1;rw[Bq]at e;exact cK (G:= [1#2,a_ 4#8]) rfl (cz (kI (x:=0) e c_i h0))
section
variable {m:Nat}{T:Nat->Nat->Nat}{st left:List Nat}{S:Sto}
def gos(T:Nat->Nat->Nat)(st:List Nat)(h:Nat)(left:List Nat):List Nat:=st.filter λs=>decide (T h s∈left)
theorem Rv{S:Sto}{x y:List Nat}(ha:a G S=a_ (.tup (ax x),S1))(hb:b G S1=a_ (.tup (ax y),S2))(hl:x.length+y.length<=big):m2 eP a b G S=a_ (.tup (ax (x++y)),S2):=by
 refine op2 ha hb ?_;simp only[eP];rw[if_pos (by rw[cn,cn];omega)];simp[ax]
theorem Oe{S:Sto}{x y:List Nat}(ha:a G S=a_ (.tup (ax x),S1))(hb:b G S1=a_ (.tup (ax y),S2))(hl:x.length+y.length<1000):m2 eP a b G S=a_ (.tup (ax (x++y)),S2):=
 Rv ha hb (by unfold big;lia)
end
abbrev Nod:=List Nat×List Nat
def gI(th:List Nat):Nat:=(th.getLast?).getD 0
theorem mE:gI (l++[x])=x:=by simp[gI]
variable{th:List Nat}
theorem MV(h:th≠[]):atI (ax th) (-1)=a_ (.int (gI th:Nat)):=by
 obtain⟨l,x,rfl⟩:=q8 h;rw[mE];have hl:(ax (l++[x])).length=2#8+1:=by simp[ax]
 unfold atI;have:_L.ixN (ax (l++[x])).length (-1)=a_ 2#8:=by
  rw[hl];unfold _L.ixN
  grind
 rw[this];simp[ax]
theorem BJ{th:List Nat}(h:th≠[])(hl:∀x∈th,x<m):gI th<m:=by
 obtain⟨l,x,rfl⟩:=q8 h;rw[mE];exact hl x 0#3
def kids(T:Nat->Nat->Nat)(st:List Nat)(p:Nod):List Nod:=(st.filter λs=>!decide (T (gI p.2) s∈p.2)).map λs=>(p.1++[s],p.2++[T (gI p.2) s])
def Aa(T:Nat->Nat->Nat)(st:List Nat)(L:Nod->List 3#6):Nat->Nod->List 3#6
 |0,p=>L p
 |k+1,p=>(kids T st p).flatMap (Aa T st L k)
section
variable {m:Nat}{T:Nat->Nat->Nat}{st:List Nat}{S x:Sto}{F:List (List Nat)}{ln:List Nod}{G:Rho}
end
def OM(b:Nat):Nat->Nat
 |0=>1
 |k+1=>1+b*OM b k
def msr(b m:Nat)(ln:List Nod):Nat:=(ln.map λp=>OM b (m-1-p.1.length)).sum
def rest(T:Nat->Nat->Nat)(st:List Nat)(L:Nod->List 3#6)(m:Nat)(ln:List Nod):List 3#6:=ln.reverse.flatMap λp=>Aa T st L (m-1-p.1.length) p
section
variable {m:Nat}{T:Nat->Nat->Nat}{st:List Nat}{L:Nod->List (List Nat)}{ln:List Nod}{p:Nod}
end
theorem Vy(ha:a G S=a_ 6#2)(hb:b G S1=a_ 8#0):mFn y9 (aa a (aa b ah)) G S=a_ (.int (min x y:Nat),S2):=by
 refine cP ha hb ?_;show a_ _=_
 grind
section
variable {m:Nat}{T:Nat->Nat->Nat}{st:List Nat}{S:Sto}
def Mh(T:Nat->Nat->Nat)(st:List Nat)(p:Nod):List 3#6:=(st.filter λs=>decide (T (gI p.2) s=0)).map λs=>p.1++[s]
theorem yc{S:Sto}{k:Nat}{ws:List U}(ho:o G S=a_ (.ref r,S))(ha:a G S=a_ (.ref k,S1))(hr:S[r]?=a_ (Cell.lst us))(ZZ:S1[r]?=a_ (Cell.lst us))(hk:S1[k]?=a_ (Cell.lst ws))(hl:1#3+ws.length<=big):
  eG (mML jA o 4#2) G S=a_ (.nx,G,S1.set r (.lst (us++ws))):=by
 simp[eG,mML,ho,aF,getL,hr,aa,ah,ha,jA,ZZ,hk];rw[if_pos hl];simp[aF]
end
theorem Ex.set{S S':Sto}{r:Nat}{c:Cell}(h:Ex S S')(hr:0#7<=r):Ex S (S'.set r c):=by
 obtain⟨t,rfl⟩:=h;exact⟨t.set (r-0#7) c,by rw[Le _ _ hr]⟩
theorem DD{t:MT}{us:List U}{p:U->Bool}{f:U->U}(ha:a G S=a_ (.ref n,S1))(hu:S1[n]?=a_ (Cell.lst us))(hl:1#3<100000)(ht:∀u∈us,t 11#0 S1=a_ (p u,S1))(he:∀u∈us,p u=c_->e 11#0 S1=a_ (f u,S1)):
  bW (dh a) t e G S=a_ (.ref 4#7,S1++[.lst ((us.filter p).map f)]):=by
 have hg:getL S1 n=a_ us:=by unfold getL;rw[hu]
 have hi:dh a G S=a_ (.mut n,S1):=by simp only[dh,ha,aF,hg,dr]
 have e1:=qc hg ht he fuel 0 [] (bS _) (by unfold fuel;assumption);rw[rO,ej]at e1;simp only[bW,hi,aF,A4,e1];refine if_pos ?_;have:=hZ p us;rw[ar];unfold big;exact aM 0#4 (ai 0#4 0#2)
section
variable {m:Nat}{T:Nat->Nat->Nat}{st:List Nat}
def rV(T:Nat->Nat->Nat)(st:List Nat)(last:Nat->Option 3#6):Nat->Nat->List Nat->List 3#6
 |0,h,_=>(last h).toList
 |k+1,h,left=>(gos T st h left).flatMap λs=>(rV T st last k (T h s) (left.filter λy=>!decide (y=T h s))).map λw=>s::w
theorem B7{α β:Type}{f:α->List β}{B:Nat}:∀(l:List α),(∀x∈l,(f x).length<=B)->(l.flatMap f).length<=2#8*B
 |[],_=>by simp
 | x::l,h=>by
   have h1:=h x 0#3;have h2:=B7 l λy hy=>h y (aB _ hy);rw[List.flatMap_cons,aU,bU,qw]
   lia
structure Lft(m:Nat)(th left:List Nat):Prop where
 nd:left.Nodup
 mem:∀y,y∈left↔y<m/\y∉th
theorem Lft.kid{left:List Nat}(l:Lft m th left):Lft m (th++[x]) (left.filter λy=>!decide (y=x)):=
 ⟨l.nd.filter _,λy=>by
  rw[bw,l.mem y];simp;constructor
  .rintro ⟨⟨a,b⟩,c⟩;exact⟨a,b,c⟩
  ·rintro ⟨a,b,c⟩;exact⟨⟨a,b⟩,c⟩⟩
theorem Gu(hm:0<m):Lft m [0] (ba 1 (m-1)):=by
 refine⟨List.nodup_range',λy=>?_⟩;rw[xt];simp
 lia
theorem Bo{L:Nod->List (List Nat)}{last:Nat->Option (List Nat)}(g:Grp m T)(hs:∀s∈st,s<m)(hL:∀p:Nod,p.2≠[]->(∀x∈p.2,x<m)->L p=(last (gI p.2)).toList.map λw=>p.1++w):
  ∀(k:Nat) (p:Nod) (left:List Nat),p.2≠[]->(∀x∈p.2,x<m)->Lft m p.2 left->Aa T st L k p=(rV T st last k (gI p.2) left).map λw=>p.1++w
 |0,p,left,h1,h2,l=>hL p h1 h2
 | k+1,p,left,h1,h2,l=>by
   unfold Aa rV;have hh:=BJ h1 h2;have hg:gos T st (gI p.2) left=st.filter λs=>!decide (T (gI p.2) s∈p.2):=by
    unfold gos;apply List.filter_congr;intro s YE;have:=g.cl _ _ hh (hs s YE);by_cases z:T (gI p.2) s∈p.2
    .have:T (gI p.2) s∉left:=λy=>((l.mem _).mp y).2 z
     simp[z,this]
    .have:T (gI p.2) s∈left:=(l.mem _).mpr ⟨this,z⟩
     simp[z,this]
   rw[hg];unfold kids;rw[List.flatMap_map,List.map_flatMap];rw[List.flatMap_def,List.flatMap_def]
   congr 1
   apply aR;intro s YE;have YE:=(bw.mp YE).1
   have ih:=Bo g hs hL k (p.1++[s],p.2++[T (gI p.2) s]) (left.filter λy => !decide (y=T (gI p.2) s)) 0#3 (λx hx=>by
    rcases aQ.mp hx with hx|hx
    .exact h2 x hx
    ·simp at hx;rw[hx];exact g.cl _ _ hh (hs s YE)) l.kid
   rw[ih];simp only[mE];rw[bq];apply aR;intro w _;simp
def rm(m:Nat)(T:Nat->Nat->Nat)(st:List Nat)(h:Nat):Option 3#6:=if unT m T h∈st then a_ [unT m T h] else b_
theorem AW{p:Nat->Bool}{x:Nat}:∀(l:List Nat),l.Nodup->(∀s∈l,p s=decide (s=x))->l.filter p=if x∈l then [x] else []
 |[],_,_=>by simp
 | y::l,nd,h=>by
   have hy:=h y 0#3;have XH:=eh.mp nd;have ih:=AW l XH.2 λs hs=>h s (aB _ hs);by_cases e:y=x
   .subst e
    rw[o6 (by rw[hy];simp),ih,if_neg XH.1];simp
   .rw[pb (by rw[hy];simpa using e),ih]
    simp[eI e]
def gJ(m:Nat)(T:Nat->Nat->Nat)(st:List Nat):List 3#6:=rV T st (rm m T st) (m-1) 0 (ba 1 (m-1))
theorem LW(g:Grp m T)(hs:∀s∈st,s<m)(nd:st.Nodup):Aa T st (Mh T st) (m-1) ([],[0])=gJ m T st:=by
 rw[Bo g hs (last:=rm m T st) (λp h1 h2=>by
  have hh:=BJ h1 h2;obtain⟨u1,u2,u3,u4⟩:=j9 g hh;unfold Mh rm;rw[AW (x:=unT m T (gI p.2)) st nd λs YE=>?_]
  .split<;>simp
  .by_cases z:s=unT m T (gI p.2)
   .subst z;simp[u2]
   .have:T (gI p.2) s≠0:=λy=>z (u4 s (hs s YE) y)
    simp[z,this]) (m - 1) ([],[0]) _ (by simp) (by simpa using g.pos) (Gu g.pos)]
 show rR (λw=>w) (rV T st (rm m T st) (m-1) 0 (ba 1 (m-1)))=_;rw[HG];rfl
end
open PySem in
open PySem in
section
variable {m:Nat}{T:Nat->Nat->Nat}{st:List Nat}{S:Sto}
def unM:MS:=cb (mMT eZ (m2 oIx 0#5 0#9) 9#7)
end
abbrev Rds:=List (Nat×List Nat)
def kF(ks:Rds):List Nat:=ks.map Prod.fst
def ij(ks:Rds):List (_L.Key×U):=ks.map λp=>(jW (p.1:Int),U.tup (ax p.2))
variable{ks:Rds}
theorem KY:BW (ij ks) 14#2=decide (x∈kF ks):=by
 have:BW (ij ks) (.inl x)=c_↔x∈kF ks:=by
  rw[qV];unfold ij kF;constructor
  .grind
  .intro h
   obtain⟨y,hy,rfl⟩:=aw.mp h;exact⟨_,aw.mpr ⟨y,hy,rfl⟩,rfl⟩
 grind
theorem VL(h:x∉kF ks):mZ (ij ks) 14#2 (.tup (ax w))=ij (ks++[(x,w)]):=by
 unfold mZ;rw[if_neg]
 .simp[ij]
 .intro z
  obtain⟨kv,hm,e⟩:=ki.mp z;have:=qV.mpr ⟨kv,hm,of_decide_eq_true e⟩;rw[KY]at this
  grind
theorem GH(ks:Rds):(ij ks).length=ks.length:=by simp[ij]
theorem wF:∀(ks:Rds),dJ zX (ij ks)=a_ (dC (kF ks))
 |[]=>rfl
 | x::l=>by
   show(zX _).bind _=_;rw[show rR _ l=ij l from rfl,wF l];rfl
def pT(ks:Rds)(x:Nat):List Nat:=((ks.find? λp=>decide (p.1=x)).map Prod.snd).getD []
theorem OB{x:Nat}:∀{ks:Rds},x∈kF ks->kc (ij ks) 14#2=a_ (.tup (ax (pT ks x)))
 |[],h=>by simp[kF]at h
 | p::ks,h=>by
   unfold kc pT ij;rw[dy,jh,jh];by_cases e:p.1=x
   .simp[e]
   .have e1: ¬((jW p.1:_L.Key)=.inl x):=λz=>e 10#0
    simp only[decide_eq_false e,decide_eq_false e1];have h':x∈kF ks:=by
     rcases aH.mp (h) with z|z
     .simp_all
     .exact z
    exact OB h'
theorem p5{x:Nat}:∀{ks:Rds},x∈kF ks->(x,pT ks x)∈ks
 |[],h=>by simp[kF]at h
 | p::ks,h=>by
   unfold pT;rw[jh];by_cases e:p.1=x
   .rw[decide_eq_true e]<;>grind
   .have h':x∈kF ks:=by
     rcases aH.mp (show x∈p.1::kF ks from h) with z|z<;>grind
    rw[decide_eq_false e];exact aB _ (p5 h')
structure Rd(T:Nat->Nat->Nat)(ths:List Nat)(ks:Rds):Prop where
 go:∀p∈ks,fv T p.2=p.1
 by':∀p∈ks,∀y∈p.2,y∈ths
 len:∀p∈ks,p.2.length<ks.length
section
variable {m:Nat}{T:Nat->Nat->Nat}{ths:List Nat}{S x:Sto}{v:U}
def jQ(S:Sto)(p:Rds×List Nat)(x:Sto):Sto:=S++[.dic (ij p.1),.lst (ax p.2)]++x
def Df(T:Nat->Nat->Nat)(h y:Nat)(p:Rds×List Nat):Rds×List Nat:=if T h y∈kF p.1 then p else(p.1++[(T h y,pT p.1 h++[y])],p.2++[T h y])
def cvR(p:Rds×List Nat):List Nat×List Nat:=(kF p.1,p.2)
theorem M4{p:Rds×List Nat}:cvR (Df T h y p)=tryD T h y (cvR p):=by
 by_cases e:T h y∈kF p.1
 .rw[Df,if_pos e,tryD,if_pos (show T h y∈(cvR p).1 from e)]
 .rw[Df,if_neg e,tryD,if_neg (show ¬T h y∈(cvR p).1 from e)]
  simp[cvR,kF]
theorem ML{p:Rds×List Nat}(hr:Rd T ths p.1)(hh:h∈kF p.1)(hy:y∈ths):Rd T ths (Df T h y p).1:=by
 unfold Df
 split
 .omega
 .have hm:=p5 hh
  refine⟨λq hq=>?_,λq hq=>?_,λq hq=>?_⟩
  .rcases aQ.mp hq with hq|hq
   .exact hr.go q hq
   .have:=hr.go _ hm
    unfold fv at this ⊢<;>simp_all
  .rcases aQ.mp hq with hq|hq
   .exact hr.by' q hq
   .simp at hq;subst hq
    intro z hz;rcases aQ.mp hz with hz|hz
    .exact hr.by' _ hm z hz
    simp_all
  .rcases aQ.mp hq with hq|hq
   .have:=hr.len q hq;simp;exact dG 0#4
   .have:=hr.len _ hm<;>simp_all
theorem Qe{S:Sto}(ha:a G S=a_ (.ref r,S1))(hb:b G S1=a_ (.int (y:Nat),S2))(hr:S2[r]?=a_ (Cell.dic kvs))(h:kc kvs (.inl (y:Int))=a_ u):m2 oIx a b G S=a_ (u,S2):=
 op2 ha hb (by simp[oIx,gM,hr,keyOf,h])
theorem OC{S:Sto}{i:ME}(he:e G S=a_ (u,S))(ho:o G S=a_ (.ref r,S))(hi:i G S=a_ (.int z,S))(hr:S[r]?=a_ (Cell.dic kvs))(hl:4#1<big):gf o i e G S=a_ (.nx,G,S.set r (.dic (mZ kvs (.inl z) u))):=by
 simp[gf,he,aF,ho,hi,hr,keyOf,hl]
def zW:MS:=aX (bC 6 (m2 oIx (m2 oIx 0#5 (ae 4)) (ae 5))) (sIf (cOf (m2 mB (ae 6) 0#6)) (aX (gf 0#6 (ae 6) (m2 eP (m2 oIx 0#6 (ae 4)) (iS 6#5))) (eG (mML de 0#8 (aa (ae 6) ah)))) dw)
def Oz:MS:=aX (bC 4 (mML Ar 0#8 ah)) (fj 5 (dh 0#9) zW)
def Ol:MS:=aX (bC 2 (uX 1#8 (iS ah))) (aX (bC 3 (dP 9#7)) (aX (mj Og Oz) (cb 0#6)))
def spM:MS:=cb (mFn bN (aa (mFn fe (aa (mFn (_G.run 2 7 Ol) 5#2) ah)) ah))
theorem GX{c:Option U}{p:Rds×List Nat}(hh:h<m)(hy:y<m)(hk:h∈kF p.1)(hr:Rd T ths p.1)(l1:p.1.length<1000)(l2:p.2.length<big):
  zW (spR m T v S [a_ (.int h),a_ (.int y),c]) (jQ S p x)=a_ (.nx,spR m T v S [a_ (.int h),a_ (.int y),a_ (.int (T h y:Nat))],jQ S (Df T h y p) x):=by
 have e6:m2 _ (m2 _ 0#5 (ae 4)) (ae 5) (spR m T v S [a_ _,a_ _,c]) (jQ S p x)=a_ _:=kH hy (jm hh 0#1 0#1) 0#1;refine(aL (bj e6)).trans ?_;have ec:=zG (G:=spR m T v S [a_ (.int h),a_ (.int y),a_ _]) (a:=ae 6) (b:=ae 2) (x:=T h y) 0#1 0#1 (show(jQ S p x)[0#7]?=_ from h0);rw[KY]at ec;unfold Df;by_cases ZI:T h y∈kF p.1
 .rw[if_pos ZI]
  rw[decide_eq_true ZI]at ec;exact kO ec
 .rw[if_neg ZI]
  rw[decide_eq_false ZI]at ec;refine(tm ec).trans ?_;have hrl:=hr.len _ (p5 hk);have ea:m2 _ (m2 _ 0#6 (ae 4)) (iS (aa (ae 5) _)) (spR m T v S [a_ _,a_ _,a_ (.int (T h y))]) (jQ S p x)=a_ _:=Oe (y:= [y]) (Qe 0#1 0#1 (h0) (OB hk)) (LX 0#1) (by exact aM 0#4 2#3);have e1:=OC (o:=ae 2) (i:=ae 6) ea 0#1 0#1 (h0) (by rw[GH];exact ai 2#3 0#2);rw[VL ZI,show(jQ S p x).set _ _=jQ S (p.1++[(T h y,pT _ h++[y])],p.2) x from t0]at e1;refine(aL e1).trans ?_;have e2:=append_eq (G:=spR m T v S [a_ (.int h),a_ (.int y),a_ (.int (T h y))]) (o:=ae 3) (a:=ae 6) 0#1 0#1 (show(jQ S (p.1++[(T h y,pT p.1 h++[y])],p.2) x)[0#7+1]?=_ from h1) h1 (by rw[cn];omega);rw[e2];simp[jQ,ax]
theorem NA{a b c:Option U}{μ:Nat}{p:Rds×List Nat}(g:Grp m T)(hm:m<64)(X9:μ<1000)(ht:∀z∈ths,z<m)(hv:Wk S v ths)(n:Inn m T ths h 0 (cvR p) μ)(hr:Rd T ths p.1):
  ∃b' c' q,fj 5 (dh 0#9) zW (spR m T v S [a_ (.int h),b,c]) (jQ S p x)=a_ (.nx,spR m T v S [a_ (.int h),b',c'],jQ S q x)/\Inn m T ths h ths.length (cvR q) μ/\Rd T ths q.1:=by
 have hh:=n.d.lt h n.hk;have stp:∀(k:Nat) (u:U) (G:Rho) (S':Sto),(ax ths)[k]?=a_ u->(∃b c q,S'=jQ S q x/\G=spR m T v S [a_ (.int h),b,c]/\Inn m T ths h k (cvR q) μ/\Rd T ths q.1)->∃Y5 Yl,zW (G.set 5 (a_ u)) S'=a_ (.nx,Y5,Yl) /\ ∃b c q,Yl=jQ S q x/\Y5=spR m T v S [a_ (.int h),b,c]/\Inn m T ths h (k+1) (cvR q) μ/\Rd T ths q.1:=by
  rintro k u G S' hu ⟨b,c,q,rfl,rfl,q3,q4⟩;obtain⟨y,hy,rfl⟩:=kD hu;have l:=q3.st_le X9 hm;have YC:=bK hy;have l1:q.1.length<1000:=by have:=q3.d.len;simp[cvR,kF]at this;exact aM 2#3 (ai 2#3 0#2)
  refine⟨_,_,GX hh (ht y YC) q3.hk q4 l1 l.2,_,_,_,rfl,rfl,?_,ML q4 q3.hk YC⟩;rw[M4];exact q3.try g ht hy
 rcases hv with rfl|⟨r,rfl,ZZ,hl⟩
 .obtain⟨Y5,S',e,b',c',q,rfl,rfl,q3,q4⟩:=sy (e:=ae 1) 0#1 _ ⟨b,c,p,rfl,rfl,n,hr⟩ stp
  rw[cn]at q3;exact⟨b',c',q,e,q3,q4⟩
 .have hrl:=(ag.mp ZZ).1
  obtain⟨Y5,S',e,b',c',q,rfl,rfl,q3,q4⟩:=vS (e:=ae 1) 0#1 (by rw[cn];exact ai 2#3 0#2) _ ⟨b,c,p,rfl,rfl,n,hr⟩
   (by
    rintro k G S' ⟨b,c,q,rfl,_⟩;unfold getL jQ
    rw[bz,aT hrl,ZZ]) stp
  rw[cn]at q3;exact⟨b',c',q,e,q3,q4⟩
theorem IG(g:Grp m T)(hm:m<64)(ht:∀z∈ths,z<m)(hv:Wk S v ths):∃ks S',_G.run 2 7 Ol [tab m T,v] S=a_ (.ref 0#7,S')/\Ex S S'/\S'[0#7]?=a_ (.dic (ij ks))/\Dfs m T ths (kF ks) (λ_=>False)/\Rd T ths ks:=by
 have hp:=g.pos;obtain⟨Y5,S1,e1,⟨r,ks,x,rfl,rfl,d,hr⟩⟩:=uK (b:=Oz) (λμ G S'=>∃a b c p x,G=spR m T v S [a,b,c]/\S'=jQ S p x/\Eb m T ths (kF p.1) p.2 μ/\μ<1000/\Rd T ths p.1)
  (λG S' =>∃r ks x,G=spR m T v S r/\S'=jQ S (ks,[]) x/\Dfs m T _ (kF ks) _/\Rd T _ ks) (by
  rintro μ G S' ⟨a,b,c,p,x,rfl,rfl,s,X9,hr⟩;have ec:Og (spR m T v S [a,b,c]) (jQ S p x)=a_ _:=of_eq (FZ (tV 0#1 h1) c_i);refine⟨_,_,ec,λhf=>?_,λhf=>?_⟩
  .have h2:p.2=[]:=by
    have:=of_decide_eq_false hf;rw[cn]at this<;>simp_all
   refine⟨_,_,x,rfl,by rw[<-h2],?_,hr⟩;have:=s.d;rw[h2]at this;exact⟨this.nd,this.lt,this.z,this.rc,λx hx=>(this.cl x hx).imp 0#3 id⟩
  .have h2:p.2≠[]:=λe=>by rw[e]at hf;simp[ax]at hf
   obtain⟨st,h,e⟩:=q8 h2;obtain⟨ks,s2⟩:=p;subst e;cases μ with
   |zero=>have:=s.ms;simp at this
   |succ μ=>
   have e4:bC 4 (mML Ar 0#8 ah) (spR m T v S [a,b,c]) (jQ S (ks,st++[h]) x)=a_ (.nx,spR m T v S [a_ (.int h),b,c],jQ S (ks,st) x):=by
    rw[bj (LY (S:=jQ S _ x) 0#1 h1)];rw[show(jQ S (ks,st++[h]) x).set _ _=jQ S (ks,st) x from t1];rfl
   obtain⟨b',c',q,e5,i,hq⟩:=NA (a:=a) (p:=(ks,st)) g hm 12#7 ht hv s.pop hr
   exact⟨_,_,μ,bV _,(aL e4).trans e5,_,_,_,q,x,rfl,rfl,i.done,by exact aI (by assumption),hq⟩) fuel _ (spR m T v S [b_,b_,b_]) _ (by unfold fuel;lia) ⟨_,_,_,([(0,[])],[0]),[],rfl,rfl,Eb.start hp,by lia,⟨λp hp=>by simp at hp;subst hp;rfl,λp hp=>by simp_all,λp hp=>by simp_all⟩⟩
 refine⟨ks,_,cK (G:=spR m T v S r) rfl ?_,?_,(show(jQ S (ks,[]) x)[0#7]?=_ from h0),d,hr⟩
 .have ed:uX 1#8 (iS ah) [1#2,a_ v,b_,b_,b_,b_,b_] S=a_ (.ref 0#7,S++[.dic (ij [(0,[])])]):=by
   simp[uX,mC,iS,ah,aF,keyOf,ij,ax]
  refine(aL (bj ed)).trans ((aL (bj (EV c_i))).trans ?_);refine(aL ?_).trans (cz 0#1);rw[<-e1];simp[mj,jQ,spR,ax]
 .unfold jQ;rw[bz];exact⟨_,rfl⟩
theorem QN(g:Grp m T)(hm:m<64)(ht:∀z∈ths,z<m)(hv:Wk S v ths):∃ks S',_G.run 2 2 spM [tab m T,v] S=a_ (.tup (ax (srt ks)),S')/\Ex S S'/\Dfs m T ths ks λ_=>False:=by
 obtain⟨ks,S1,e1,x1,q1,d,_⟩:=IG g hm ht hv;have hl:=aM d.len hm;have e2:mFn _ (aa (mFn _ (aa 0#5 (aa 0#9 _))) _) [a_ _,a_ v] S=a_ _:=fK 16#8 (wM (by simp[vm,gM,q1,wF]) hl);exact⟨_,_,cK rfl (cz (fo e2)),x1.trans 3#4,d⟩
theorem TH(g:Grp m T)(hm:m<64)(ht:∀z∈ths,z<m):∃ks S',_G.run 2 2 spM [tab m T,.tup (ax ths)] S=a_ (.tup (ax (srt ks)),S')/\Ex S S'/\Dfs m T ths ks λ_=>False:=QN g hm ht 5#1
end
theorem JM{α β γ:Sort _}{f:α->β->γ}{a a':α}{b b':β}(h1:a=a')(h2:b=b'):f a b=f a' b':=by rw[h1,h2]
section
variable {m:Nat}{T:Nat->Nat->Nat}
abbrev Lt(m:Nat)(w:List Nat):Prop:= ∀x∈w,x<m
theorem Lt.tk{a:List Nat}(ha:Lt m a)(k:Nat):Lt m (a.take k):=λx hx=>ha x (eW hx)
theorem yS(g:Grp m T)(hw:Lt m w):fv T w<m:=ND g.pos g.cl hw
theorem zB(g:Grp m T):∀(w:List Nat) (x:Nat),x<m->Lt m w->w.foldl T x=T x (fv T w)
 |[],x,hx,_=>by show x=T x 0;rw[g.r0 x hx]
 | y::w,x,hx,h=>by
   have hy:y<m:=h y 0#3;have hw:Lt m w:=λz hz=>h z (aB _ hz);show w.foldl T (T x y)=T x (w.foldl T (T 0 y));rw[zB g w _ (g.cl x y hx hy) hw,g.l0 y hy,zB g w y hy hw,g.as x y _ hx hy (yS g hw)]
theorem sZ(g:Grp m T)(hx:x<m)(hw:Lt m w):fv T (x::w)=T x (fv T w):=by
 show w.foldl T (T 0 x)=_;rw[g.l0 x hx];exact zB g w x hx hw
theorem lQ:fv T (w++[x])=T (fv T w) x:=by unfold fv;simp_all
theorem hJ(g:Grp m T)(hx:x<m):unT m T x<m:=(j9 g hx).1
theorem LV(g:Grp m T)(hx:x<m):T x (unT m T x)=0:=(j9 g hx).2.1
theorem Pu(g:Grp m T)(hx:x<m):T (unT m T x) x=0:=(j9 g hx).2.2.1
theorem Ew(g:Grp m T)(hx:x<m)(hy:y<m)(h:T x y=0):y=unT m T x:=(j9 g hx).2.2.2 y hy h
theorem Fj(g:Grp m T)(hx:x<m):unT m T (unT m T x)=x:=(Ew g (hJ g hx) hx (Pu g hx)).symm
theorem HQ(g:Grp m T)(hx:x<m)(hy:y<m):unT m T (T x y)=T (unT m T y) (unT m T x):=by
 have h1:=hJ g hx;have h2:=hJ g hy;refine(Ew g (g.cl _ _ hx hy) (g.cl _ _ h2 h1) ?_).symm;rw[g.as x y _ hx hy (g.cl _ _ h2 h1),<-g.as y _ _ hy h2 h1,LV g hy,g.l0 _ h1,LV g hx]
theorem IW(g:Grp m T):unT m T 0=0:=(Ew g g.pos g.pos (g.l0 0 g.pos)).symm
def bk(m:Nat)(T:Nat->Nat->Nat)(w:List Nat):List Nat:=w.reverse.map (unT m T)
theorem Dc:(bk m T w).length=4#6:=by simp[bk]
theorem To(g:Grp m T)(hw:Lt m w):bk m T (bk m T w)=w:=by
 unfold bk;rw[<-List.map_reverse,List.reverse_reverse,bq];have:w.map (unT m T∘unT m T)=w.map id:=aR λx hx=>Fj g (hw x hx);rw[this,rS]
theorem uH(g:Grp m T):∀{w:List Nat},Lt m w->fv T (bk m T w)=unT m T (fv T w)
 |[],_=>(IW g).symm
 | x::w,h=>by
   have hx:x<m:=h x 0#3;have hw:Lt m w:=λz hz=>h z (aB _ hz);have e:bk m T (x::w)=bk m T w++[unT m T x]:=by simp[bk]
   rw[e,lQ,uH g hw,sZ g hx hw,HQ g hx (yS g hw)]
theorem HN(g:Grp m T)(hx:x<m)(hw:Lt m w):plc T (x::w)=0::(plc T w).map (T x):=by
 unfold plc;rw[bU,HE,dy,bq,bq];refine JM rfl (aR λk _=>?_);show fv T (x::w.take k)=_;exact sZ g hx (hw.tk k)
theorem lT:plc T (w++[x])=plc T w++[T (fv T w) x]:=by
 unfold plc;rw[aU,bU,AE,eJ,bL];refine JM (aR λk hk=>?_) ?_
 .grind
 .show [fv T _]=_
  rw[cR 0#3,lQ]
theorem Mc:(plc T w).length=4#6+1:=by simp[plc]
theorem zu(g:Grp m T)(hw:Lt m w):Lt m (plc T w):=λx hx=>by
 obtain⟨k,_,rfl⟩:=aw.mp hx;exact yS g (hw.tk k)
theorem Ju(g:Grp m T):∀{w:List Nat},Lt m w->plc T (bk m T w)=(plc T w).reverse.map (T (unT m T (fv T w)))
 | [],_=>by
   show [0]=[T (unT m T 0) 0];rw[IW g,g.l0 0 g.pos]
 | x::w,h=>by
   have hx:x<m:=h x 0#3;have hw:Lt m w:=λz hz=>h z (aB _ hz);have e:bk m T (x::w)=bk m T w++[unT m T x]:=by simp[bk]
   have hc:=yS g hw;have hu:=hJ g hc;have hux:=hJ g hx;rw[e,lT,Ju g hw,HN g hx hw,uH g hw,sZ g hx hw,HQ g hx hc,xr,bL,<-List.map_reverse,bq];refine JM (aR λy hy=>?_) ?_
   .have hy:y<m:=zu g hw y (dS.mp hy)
    show _=T (T (unT m T (fv T w)) (unT m T x)) (T x y);rw[g.as _ _ _ hu hux (g.cl _ _ hx hy),<-g.as _ _ _ hux hx hy,Pu g hx,g.l0 y hy]
   .show _=[T (T (unT m T (fv T w)) (unT m T x)) 0]
    rw[g.r0 _ (g.cl _ _ hu hux)]
def pre(T:Nat->Nat->Nat)(w:List Nat):List Nat:=(aq 4#6).map λk=>fv T (w.take k)
theorem kU:plc T w=pre T w++[fv T w]:=by
 unfold plc pre;rw[eJ];simp
theorem Fx:(pre T w).length=4#6:=by simp[pre]
theorem Qi(g:Grp m T)(hw:Lt m w):Lt m (pre T w):=λx hx=>zu g hw x (by rw[kU];exact bf _ hx)
structure All(m:Nat)(l:List Nat):Prop where
 nd:l.Nodup
 lt:Lt m l
 len:l.length=m
theorem All.mem(h:All m l)(hx:x<m):x∈l:=by
 apply iu;intro z;have:=se m (x::l) (eh.mpr ⟨z,h.nd⟩) (λy hy=>(aH.mp hy).elim (λe=>e▸hx) (h.lt y));have:=h.len;simp at *
 lia
theorem All.perm(h:All m l):l.Perm (aq m):=
 (fE h.nd kh).mpr λx=>⟨λhx=>aA.mpr (h.lt x hx),λhx=>h.mem (aA.mp hx)⟩
theorem All.of(h:l.Perm (aq m)):All m l:=
 ⟨h.nodup_iff.mpr kh,λx hx=>aA.mp (h.mem_iff.mp hx),by have:=h.length_eq;simpa using this⟩
theorem All.congr{a b:List Nat}(h:All m a)(p:b.Perm a):All m b:=All.of (p.trans h.perm)
theorem All.map(h:All m l)(lt:∀x,x<m->f x<m)(inj:∀x y,x<m->y<m->f x=f y->x=y):All m (l.map f):=by
 refine⟨?_,λx hx=>?_,by simp[h.len]⟩
 .rw[ay,aW]
  exact bM (λha hb ZU e=>ZU (inj _ _ (h.lt _ ha) (h.lt _ hb) e)) (ay.mp h.nd)
 .obtain⟨y,hy,rfl⟩:=aw.mp hx
  exact lt y (h.lt y hy)
theorem All.unmap(h:All m (l.map f))(lt:Lt m l):All m l:=by
 refine⟨?_,lt,by have:=h.len;simpa using this⟩;have:=h.nd;rw[ay,aW]at this;rw[ay];exact this.imp λhn e=>hn (by rw[e])
structure Rnd(m:Nat)(T:Nat->Nat->Nat)(w:List Nat):Prop where
 home:fv T w=0
 all:All m (pre T w)
theorem Rnd.bk(g:Grp m T){w:List Nat}(hw:Lt m w)(h:Rnd m T w):Rnd m T (bk m T w):=by
 refine⟨by rw[uH g hw,h.home,IW g],?_⟩;have e:=Ju g hw;rw[h.home,IW g]at e;have e2:(plc T w).reverse.map (T 0)=(plc T w).reverse:=by
  have:(plc T w).reverse.map (T 0)=(plc T w).reverse.map id:=aR λx hx=>g.l0 x (zu g hw x (dS.mp hx));rw[this,rS]
 rw[e2,kU,kU,uH g hw,h.home,IW g,ua]at e;have hp:=h.all.perm;cases q:pre T w with
 |nil=>have:=h.all.len;rw[q]at this;have:=g.pos;simp at *;lia
 | cons x l=>
   have hx:x=0:=by
    have hl:0<4#6:=by have:=Fx (T:=T) (w:=w);rw[q]at this;simp at this;lia
    have:(pre T w)[0]?=a_ 0:=by
     unfold pre;rw[a9,ue hl];rfl
    rw[q]at this;simpa using this
   rw[q,hx]at e;have e3:pre T (_W.bk m T w)++[0]=(0::l.reverse)++[0]:=by rw[e];simp
   have e4:pre T (_W.bk m T w)=0::l.reverse:=(List.append_inj_left' e3 rfl);rw[e4];have h2:=h.all;rw[q,hx]at h2;exact h2.congr ((m7 l).cons 0)
theorem PJ{o p:Nat->Nat}(g:Grp m T)(h:Ord m o p)(hx:x<m)(hy:y<m):ic T o p (p x) (p y)=p (T x y):=by unfold ic;rw[h.op x hx,h.op y hy]
theorem MC{o p:Nat->Nat}(g:Grp m T)(h:Ord m o p):p 0=0:=by have:=h.po 0 g.pos;rwa[h.o0]at this
theorem Am{o p:Nat->Nat}(g:Grp m T)(h:Ord m o p):∀(w:List Nat) (x:Nat),x<m->Lt m w->(w.map p).foldl (ic T o p) (p x)=p (w.foldl T x)
 |[],x,_,_=>rfl
 | y::w,x,hx,hw=>by
   have hy:y<m:=hw y 0#3;show(w.map p).foldl (ic T o p) (ic T o p (p x) (p y))=_;rw[PJ g h hx hy];exact Am g h w _ (g.cl x y hx hy) λz hz=>hw z (aB _ hz)
theorem CT{o p:Nat->Nat}(h:Ord m o p)(hx:x<m)(hy:y<m)(e:p x=p y):x=y:=by rw[<-h.op x hx,<-h.op y hy,e]
structure Gd(T:Nat->Nat->Nat)(st:List Nat)(p:Nod):Prop where
 pl:p.2=plc T p.1
 nd:p.2.Nodup
 by':∀x∈p.1,x∈st
theorem lO:gI (plc T w)=fv T w:=by rw[kU,mE]
theorem Fd{st:List Nat}{L:Nod->List (List Nat)}:∀(k:Nat) (p:Nod) (w:List Nat),Gd T st p->w∈Aa T st L k p->∃q:Nod,Gd T st q/\q.1.length=p.1.length+k/\w∈L q
 |0,p,w,h,e=>⟨p,h,rfl,e⟩
 | k+1,p,w,h,e=>by
   obtain⟨q,hq,e⟩:=kj.mp (e);obtain⟨s,hs,rfl⟩:=aw.mp hq;have hl:gI p.2=fv T p.1:=by rw[h.pl,lO]
   have gd:Gd T st (p.1++[s],p.2++[T (gI p.2) s]):=by
    refine⟨?_,?_,λx hx=>?_⟩
    .rw[lT,hl,<-h.pl]
    .rw[d6]
     exact⟨h.nd,by simp,λa ha b hb=>by grind⟩
    .rcases aQ.mp hx with hx|hx
     .exact h.by' x hx
     grind
   obtain⟨q,g1,g2,g3⟩:=Fd k _ w gd e
   grind
variable{st:List Nat}
theorem Ir:Gd T st ([],[0]):=⟨rfl,by simp,by simp⟩
theorem BH{w:List Nat}(g:Grp m T)(hs:Lt m st)(h:w∈Aa T st (Mh T st) (m-1) ([],[0])):Rnd m T w/\(∀x∈w,x∈st)/\4#6=m:=by
 obtain⟨q,g1,g2,g3⟩:=Fd _ _ _ Ir h;obtain⟨s,L2,rfl⟩:=aw.mp g3;obtain⟨L2,Zv⟩:=bw.mp L2;have hl:gI q.2=fv T q.1:=by rw[g1.pl,lO]
 rw[hl]at Zv;have Zv:=of_decide_eq_true Zv;have hp:=g.pos;have hlen:=by simpa using g2
 have lt1:=λx hx=>hs x (g1.by' x hx);refine⟨⟨by rw[lQ];omega,?_⟩,λx hx=>?_,by simp;omega⟩
 .have:pre T (q.1++[s])=plc T q.1:=by
   unfold pre plc;rw[aU];refine aR λk hk=>?_;have:=aA.mp hk;rw[List.take_append_of_le_length (by exact d8 2#3)]
  rw[this];exact⟨by rw[<-g1.pl];exact g1.nd,zu g lt1,by rw[Mc];omega⟩
 .rcases aQ.mp hx with hx|hx
  .exact g1.by' x hx
  grind
end
theorem zm{x y:Bool}(ha:a G S=a_ (.bl x,S1))(hb:x=c_->b G S1=a_ (.bl y,S2))(hf:x=d_->S2=S1):jS a b G S=a_ (.bl (x&&y),S2):=by
 cases x with
 |true=>simp[jS,ha,aF,hb _]
 |false=>simp[jS,ha,aF,hf _]
theorem vn{x y:Bool}(ha:a G S=a_ (.bl x,S1))(hb:b G S1=a_ (.bl y,S2))(x1:Ex S S1)(x2:Ex S1 S2):∃S',jS a b G S=a_ (.bl (x&&y),S')/\Ex S S':=by
 cases x with
 |true=>exact⟨S2,zm ha (λ_=>hb) (λz=>by cases z),x1.trans x2⟩
 |false=>exact⟨S1,zm ha (λz=>by cases z) (λ_=>rfl),x1⟩
theorem Cc{α:Type}{f:α->Bool}:∀l:List α,dJ zf (l.map λx=>U.bl (f x))=a_ (l.map f)
 |[]=>rfl
 | x::l=>by
   show(zf _).bind _=_;rw[Cc l];rfl
theorem Jz{α:Type}{f:α->Bool}{l:List α}(ha:a G S=a_ (.ref r,S1))(hr:S1[r]?=a_ (.lst (l.map λx=>U.bl (f x)))):mFn xN 4#2 G S=a_ (.bl (l.all f),S1):=by
 refine fK ha ?_;simp only[xN,getL,hr,aO,Cc]
 simp_all
theorem WD{x y:List Nat}(ha:a G S=a_ (.tup (ax x),S1))(hb:b G S1=a_ (.tup (ax y),S2)):m2 oEq a b G S=a_ (.bl (decide (x=y)),S2):=
 op2 ha hb (by simp[oEq,Fu])
theorem KR(ha:a G S=a_ (.tup (ax l),S1))(hl:2#8<64):mFn fe 4#2 G S=a_ (.ref 4#7,S1++[.lst (ax (srt l))]):=
 fK ha (wM (by simp[vm,gM,eB,mK]) hl)
theorem yR(m:Nat):srt (aq m)=aq m:=by
 have h:dC (aq m)=nS (dC (aq m)):=nH (List.Perm.refl _) (by
  unfold dC;rw[aW]
  exact(eF (n:=m)).imp λh=>by lia)
 unfold srt;rw[<-h];exact pX _
theorem LA:decide (srt l=aq m)=c_↔All m l:=by
 rw[decide_eq_true_iff];constructor
 .intro h
  exact All.of ((lB l).symm.trans (by rw[h]))
 .intro h
  rw[oR h.perm,yR]
theorem KG:srt (srt l)=srt l:=oR (lB l)
section
variable {m:Nat}{T:Nat->Nat->Nat}{st w:List Nat}{S:Sto}
def nbM:MS:=cb (jS (m1 (sH "int") 0#5) (jS (m1 uh (m1 (sH "bool") 0#5)) (mCh oLe oLt 1#8 0#5 0#9)))
theorem Vx:_G.run 2 2 nbM [.int (x:Nat),.int (n:Nat)] S=a_ (.bl (decide (x<n)),S):=by
 have h1:m1 (sH "int") 0#5 [9#4,6#6] S=a_ _:=rfl;have h2:m1 uh (m1 (sH "bool") 0#5) [9#4,6#6] S=a_ _:=rfl;have h3:mCh oLe oLt 1#8 0#5 0#9 [9#4,6#6] S=a_ (.bl (decide (x<n)),S):=by
  have v0:ae 0 [9#4,6#6] S=a_ _:=rfl;have v1:ae 1 [9#4,6#6] S=a_ _:=rfl;have l:oLe (.int 0) (.int x) S=a_ (.bl c_,S):=by
   show a_ _=_<;>simp_all
  have l2:oLt (.int x) (.int n) S=a_ (.bl (decide (x<n)),S):=by
   show a_ _=_;simp
  simp[mCh,mC,aF,v0,l,v1,l2]
 exact zm h1 (λ_=>zm h2 (λ_=>h3) (λz=>by cases z)) (λz=>by cases z)
def Qn:MS:=cb (jS (m1 (sH "tuple") 0#5) (mFn xN (aa (bW (dh 0#5) cTT (mFn (_G.run 2 2 nbM) (aa 0#6 13#1))) ah)))
theorem nJ{S:Sto}{l:List Nat}{f:Nat->U}(ha:a G S=a_ (.tup (ax l),S))(hl:2#8<10000000)(he:∀x∈l,e (G++[9#4]) S=a_ (f x,S)):bW (dh a) cTT e G S=a_ (.ref 0#7,S++[.lst (l.map f)]):=by
 have h:=wy (t:=cTT) ha 12#6 (λ_ _=>rfl) (λx hx _=>he x hx);rwa[uf.mpr (λ_ _=>rfl)]at h
theorem R3(hl:4#6<10000000):∃S',_G.run 2 2 Qn [.tup (ax w),.int (n:Nat)] S=a_ (.bl (w.all λx=>decide (x<n)),S')/\Ex S S':=by
 have h1:m1 _ 0#5 [5#9,6#6] S=a_ _:=isT 0#1;have h2:=nJ (e:=mFn _ (aa 0#6 (aa 0#9 _))) (G:= [a_ _,6#6]) (S:=S) (a:=ae 0) 0#1 hl (λx _=>cP 0#1 0#1 Vx);obtain⟨S',e,x⟩:=vn h1 (Jz h2 5#8) (Ex.refl _) 3#4;exact⟨S',cK rfl (cz (e.trans (by rw[Bool.true_and]))),x⟩
def wbM:MS:=cb (jS (mFn (_G.run 2 2 Qn) (aa 0#6 (aa 7#7 ah))) (mFn xN (aa (bW (dh 0#6) cTT (m2 oIn 0#8 0#9)) ah)))
theorem WG{S:Sto}(ha:a G S=a_ 6#2)(hb:b G S1=a_ (.tup (ax l),S2)):m2 oIn a b G S=a_ (.bl (decide (x∈l)),S2):=
 op2 ha hb (by simp[oIn,gM,iI,eB,yt,LU])
theorem UV(hl:4#6<10000000)(hw:Lt m w):∃S',_G.run 3 3 wbM [tab m T,.tup (ax st),.tup (ax w)] S=a_ (.bl (w.all λx=>decide (x∈st)),S')/\Ex S S':=by
 obtain⟨S1,e1,x1⟩:=R3 (S:=S) (n:=m) hl;have ht:(w.all λx=>decide (x<m))=c_:=dc.mpr λx hx=>decide_eq_true (hw x hx);rw[ht]at e1;have h1:mFn (_G.run 2 2 Qn) (aa 0#6 (aa 7#7 ah)) 14#9 S=a_ (.bl c_,S1):=cP 0#1 11#8 e1;have h2:=nJ (e:=m2 oIn 0#8 0#9) (G:= 14#9) (S:=S1) (a:=ae 2) (l:=w) (f:=λx=>.bl (decide (x∈st))) 0#1 hl (λx _=>WG 0#1 0#1);obtain⟨S',e,x⟩:=vn h1 (Jz h2 5#8) x1 3#4;exact⟨S',cK (G:= 14#9) rfl (cz (e.trans (by rw[Bool.true_and]))),x⟩
def Qk:MS:=cb (m2 oEq (mFn bN (aa (mFn fe 13#1) ah)) (mFn (_G.run 1 1 atM) 12#3))
theorem QT(hm:m<1000)(hl:2#8<64):∃S',_G.run 2 2 Qk [tab m T,.tup (ax l)] S=a_ (.bl (decide (srt l=aq m)),S')/\Ex S S':=
 ⟨_,cK rfl (cz (WD (fo (KR 0#1 hl)) (fK 0#1 (Jw hm)))),Ex.push _ _⟩
def plM:MS:=aX (bC 2 (dP 9#7)) (aX (fj 3 (dh 0#9) (eG 23#8)) (cb (mFn bN 4#0)))
theorem OJ(g:Grp m T)(hw:Lt m w)(hl:4#6<10000000):∃S',_G.run 2 4 plM [tab m T,.tup (ax w)] S=a_ (.tup (ax (plc T w)),S')/\Ex S S':=by
 have hone:dP 9#7 [1#2,5#9,b_,b_] S=a_ (.ref 0#7,S++[Cell.lst [.int 0]]):=EV rfl;obtain⟨Y4,S1,e1,⟨x,rfl⟩,q1,q2⟩:=sy (i:=3) (b:=eG 23#8) (e:=ae 1)
  (G:= [1#2,5#9,2#5,b_]) (S:=S++[Cell.lst [.int 0]]) (S1:=S++[Cell.lst [.int 0]]) (us:=ax w) 0#1
  (λk G S'=>(∃x,G=[1#2,5#9,2#5,x])/\Ex S S'/\S'[0#7]?=a_ (Cell.lst (ax ((aq (k+1)).map λi=>fv T (w.take i)))))
  ⟨⟨b_,rfl⟩,Ex.push _ _,by rw[b9];simp[ax,fv]⟩
  (by
   rintro k u G S' hu ⟨⟨x,rfl⟩,q1,q2⟩;obtain⟨y,hy,rfl⟩:=kD hu;have YC:y<m:=hw y (bK hy);have hpm:fv T (w.take k)<m:=yS g (hw.tk k);have hlast:atI (ax ((aq (k+1)).map λi=>fv T (w.take i))) (-1)=a_ (.int (fv T (w.take k))):=by
    unfold ax;rw[bq];exact JD
   have ev:m2 oIx (m2 oIx 0#5 (m2 oIx 0#6 (m1 lM 1#9))) 0#8 [1#2,5#9,2#5,a_ (.int y)] S'=a_ (.int (T (fv T (w.take k)) y),S'):=
    kH YC (jm hpm 0#1 (BL 0#1 Uk q2 hlast)) 0#1
   have hkl:k<4#6:=(ag.mp hy).1;refine⟨_,_,append_eq 0#1 ev q2 q2 (by simp[ax];unfold big;exact aM 0#4 (ai 0#4 0#2)),⟨_,rfl⟩,q1.set 2#1,?_⟩;rw[aV (ag.mp q2).1];rw[eJ (n:=k+1),bL]
   simp[ax,Hj hy])
 rw[cn]at q2;refine⟨S1,cK (G:= [1#2,5#9,2#5,x]) rfl ?_,q1⟩;show plM [1#2,5#9,b_,b_] S=_;exact(aL (bj hone)).trans ((aL e1).trans (cz (kl 0#1 q2)))
theorem KW(ZN:True):atI (ax (plc T w)) (-1)=a_ (.int (fv T w:Nat)):=by
 have:=MV (th:=plc T w) (by rw[kU];simp);rw[lO]at this;omega
theorem KE{α:Type}{xs:List α}{y:α}:cut (xs++[y]) b_ (a_ (-1))=xs:=by
 unfold cut;have h1:HT.sIx (xs++[y]).length 0 b_=0:=rfl;have h2:HT.sIx (xs++[y]).length (xs++[y]).length (a_ (-1))=1#4:=by
  unfold HT.sIx;simp
  lia
 rw[h1,h2];simp
theorem Nk{S:Sto}(ha:a G S=a_ (.tup (ax (l++[x])),S1)):mSl a b_ (a_ (m1 lM 1#9)) G S=a_ (.tup (ax l),S1):=by
 have e:ax (l++[x])=ax l++[.int x]:=by simp[ax]
 rw[e]at ha;have n1:m1 lM 1#9 G S1=a_ _:=rfl;simp[mSl,ha,aF,Co,n1,KE]
def crM:MS:=aX (bC 2 (mFn (_G.run 2 4 plM) 5#2)) (cb (jS (m2 oEq (m2 oIx 0#6 (m1 lM 1#9)) 1#8) (mFn (_G.run 2 2 Qk) 25#8)))
theorem UB(g:Grp m T)(hm:m<1000)(hw:Lt m w)(hl:4#6<63):∃S',_G.run 2 3 crM [tab m T,.tup (ax w)] S=a_ (.bl (decide (fv T w=0)&&decide (srt (pre T w)=aq m)),S')/\Ex S S':=by
 obtain⟨S1,e1,x1⟩:=OJ (S:=S) g hw 20#3;obtain⟨S2,e2,x2⟩:=QT (T:=T) (S:=S1) (l:=pre T w) hm (by rw[Fx];exact ai 0#4 0#2);have h1:m2 oEq (m2 oIx 0#6 (m1 lM 1#9)) 1#8 [1#2,5#9,a_ (.tup (ax (plc T w)))] S1=a_ (.bl (decide (fv T w=0)),S1):=Hl (y:=0) (BI 0#1 Uk (KW trivial)) c_i;have h2:mFn (_G.run 2 2 Qk) 25#8 [1#2,5#9,a_ (.tup (ax (plc T w)))] S1=a_ (.bl (decide (srt (pre T w)=aq m)),S2):=cP 0#1 (Nk (l:=pre T w) (x:=fv T w) (by rw[<-kU];exact var_eq rfl)) e2;obtain⟨S',e,x⟩:=vn h1 h2 (Ex.refl _) x2;refine⟨S',cK (G:= [1#2,5#9,a_ (.tup (ax (plc T w)))]) rfl ?_,x1.trans x⟩;show crM [1#2,5#9,b_] S=_;exact(aL (bj 16#8)).trans (cz e)
def irM:MS:=cb (jS (mFn (_G.run 3 3 wbM) 16#1) (jS (m2 oGe (mFn cp 4#0) 2#2) (mFn (_G.run 2 3 crM) 12#1)))
theorem UF(g:Grp m T)(hm:m<1000)(hw:Lt m w)(hl:4#6<63):∃S',_G.run 3 3 irM [tab m T,.tup (ax st),.tup (ax w)] S=a_ (.bl ((w.all λx=>decide (x∈st))&&(decide (2<=4#6)&&(decide (fv T w=0)&&decide (srt (pre T w)=aq m)))),S')/\Ex S S':=by
 obtain⟨S1,e1,x1⟩:=UV (S:=S) (T:=T) (st:=st) 20#3 hw;have h2:m2 oGe (mFn cp 4#0) 2#2 14#9 S1=a_ (.bl (decide (2<=4#6)),S1):=by
  have:=SW (G:= 14#9) (S:=S1) (a:=mFn cp 4#0) (b:=mC (.int 2)) (A8 0#1) c_i;rw[this,cn]
  congr 2
  simp
  lia
 obtain⟨S2,e2,x2⟩:=UB (S:=S1) g hm hw hl;obtain⟨S3,e3,x3⟩:=vn (G:= 14#9) (b:=mFn (_G.run 2 3 crM) 12#1) h2 (cP 0#1 0#1 e2) (Ex.refl _) x2;obtain⟨S',e,x⟩:=vn (G:= 14#9) (a:=mFn (_G.run 3 3 wbM) 16#1) (kE 0#1 0#1 0#1 e1) e3 x1 x3;exact⟨S',cK (G:= 14#9) rfl (cz e),x⟩
theorem Wz(g:Grp m T)(hm:m<1000)(hw:Lt m w)(hl:4#6<63)(h2:2<=4#6)(hs:∀x∈w,x∈st)(h:Rnd m T w):∃S',_G.run 3 3 irM [tab m T,.tup (ax st),.tup (ax w)] S=a_ (.bl c_,S')/\Ex S S':=by
 obtain⟨S',e,x⟩:=UF (S:=S) (st:=st) g hm hw hl;refine⟨S',?_,x⟩;rw[e,LA.mpr h.all,dc.mpr λx hx=>decide_eq_true (hs x hx),decide_eq_true h2,decide_eq_true h.home];rfl
def usM:MS:=cb (mFn bN (aa (mFn fe (aa (bW (dh 0#9) cTT (mFn (_G.run 2 2 unM) 12#1)) ah)) ah))
theorem Tq(g:Grp m T)(hs:Lt m st)(hl:st.length<64):∃S',_G.run 2 2 usM [tab m T,.tup (ax st)] S=a_ (.tup (ax (srt (st.map (unT m T)))),S')/\Ex S S':=by
 have h:=nJ (e:=mFn (_G.run 2 2 unM) 12#1) (G:= [1#2,a_ (.tup (ax st))]) (S:=S) (a:=ae 1) (l:=st) (f:=λx=>.int (unT m T x:Nat)) 0#1 20#3 (λx hx=>cP 0#1 0#1 (wW g (hs x hx)));rw[show(st.map λx=>U.int (unT m T x:Nat))=ax (st.map (unT m T)) by simp[ax]]at h;exact⟨_,cK (G:= [1#2,a_ (.tup (ax st))]) rfl (cz (fo (qW h 5#8 (by rw[ar];exact hl)))),(Ex.push _ _).trans 3#4⟩
def bkM:MS:=cb (mFn bN (aa (bW (Bl 13#1) cTT (mFn (_G.run 2 2 unM) 12#1)) ah))
theorem Vf(g:Grp m T)(hw:Lt m w)(hl:4#6<10000000):∃S',_G.run 2 2 bkM [tab m T,.tup (ax w)] S=a_ (.tup (ax (bk m T w)),S')/\Ex S S':=by
 have hi:Bl 13#1 [1#2,5#9] S=a_ (.imm (ax w.reverse),S):=by
  have v:ae 1 [1#2,5#9] S=a_ (.tup (ax w),S):=rfl;simp only[Bl,aa,ah,v,aF];simp[ax]
 have h1:∀u∈ax w.reverse,mFn (_G.run 2 2 unM) 12#1 ([1#2,5#9]++[a_ u]) S=a_ ((λu=>match u with | .int i=>.int (unT m T i.toNat:Nat) |_=>.non) u,S):=λu hu=>by
  obtain⟨x,hx,rfl⟩:=aw.mp hu;have hx:=hw x (dS.mp hx);have:=cP (f:=_G.run 2 2 unM) (G:= [1#2,5#9,9#4]) (S:=S) (a:=ae 0) (b:=ae 2) 0#1 0#1 (wW g hx);simpa using this
 have h2:=mM (t:=cTT) (e:=mFn (_G.run 2 2 unM) 12#1) (G:= [1#2,5#9]) (S:=S) (p:=λ_=>c_) (f:=λu=>match u with | .int i=>.int (unT m T i.toNat:Nat) |_=>.non) (ax w.reverse) [] (λ_ _=>rfl) (λu hu _=>h1 u hu);rw[uf.mpr (λ_ _=>rfl),ej]at h2;have h3:(ax w.reverse).map (λu=>match u with | .int i=>U.int (unT m T i.toNat:Nat) |_=>.non)=ax (bk m T w):=by
  unfold ax bk;rw[bq,bq];apply aR;intro x _;simp
 rw[h3]at h2;exact⟨_,cK (G:= [1#2,5#9]) rfl (cz (fo (mF hi h2 (by rw[cn,Dc];unfold big;exact ai 0#4 0#2)))),Ex.push _ _⟩
end
def tabS(S:Sto)(n:Nat)(T:Nat->Nat->Nat)(k:Nat):Sto:=S++[Cell.lst ((aq k).map (mX n T))]++(aq k).map λi=>Cell.lst ((aq n).map λj=>U.int (T i j))
theorem GL{k:Nat}:((tabS S n T k)++[Cell.lst ((aq n).map λj=>U.int (T k j))]).set S.length (Cell.lst ((aq k).map (mX n T)++[mX n T k]))=tabS S n T (k+1):=by
 unfold tabS;simp[eJ]
def tbM(g:iA)(φ:MF):MS:=aX (bC 2 (dP ah)) (aX (fj 3 (iR1 12#3) (eG 23#1)) (cb (mFn bN 4#0)))
theorem Ks{S:Sto}(hn:n<big)(hφ:∀i j (S:Sto),i<n->j<n->φ [.int (i:Nat),.int (j:Nat)] S=a_ (.int (T i j:Nat),S))(g:iA):
  _G.run 2 4 (tbM g φ) [.int (n:Nat),.obj g] S=a_ (tab n T,tabS S n T n):=by
 have cell:∀k,(tabS S n T k)[0#7]?=a_ (Cell.lst ((aq k).map (mX n T))):=λk=>by
  unfold tabS;rw[bz,bo 2#1];simp
 obtain⟨Y4,S1,e1,⟨x,rfl⟩,rfl⟩:=lC (i:=3) (a:=ae 0) (n:=n) (b:=eG 23#1)
  (G:= [6#6,4#9,2#5,b_]) (S:=tabS S n T 0) 0#1 hn
  (λk G S'=>(∃x,G = [6#6,4#9,2#5,x])/\S'=tabS S n T k) ⟨⟨b_,rfl⟩,rfl⟩ (by
   rintro k G S' hk ⟨⟨x,rfl⟩,rfl⟩
   obtain⟨S2,e2,h2⟩:=Iq (G:= [6#6,4#9,2#5,5#5]) (S:=tabS S n T k) (S0:=tabS S n T k) (a:=ae 0) (e:=wq 1 g φ 12#0) (n:=n) 0#1 hn (λj => .int (T k j)) (λ_ Yl=>Yl=tabS S n T k) rfl (by
    rintro j Yl hj rfl;refine⟨_,?_,rfl⟩;show(if g=g then mFn φ 12#0 _ _ else b_)=_;rw[if_pos rfl]
    exact cP (var_eq rfl) (var_eq rfl) (hφ k j _ hk hj))
   subst h2;have hl:((aq k).map (mX n T)).length<big:=by rw[ar,aZ];exact aY 0#4 0#4
   have e3:=append_eq (G:= [6#6,4#9,2#5,5#5]) (o:=ae 2) (r:=0#7) (row:=(aq k).map (mX n T)) 0#1 e2 (cell k) ((Ex.push _ _).some (cell k)) hl;rw[show Dj n (λj=>U.int (T k j))=mX n T k from rfl,GL]at e3
   exact⟨_,_,e3,⟨_,rfl⟩,rfl⟩)
 have e0:dP ah [6#6,4#9,b_,b_] S=a_ (.ref 0#7,tabS S n T 0):=jD.trans (by simp[tabS]);have e2:mFn bN 4#0 [6#6,4#9,2#5,x] (tabS S n T n)=a_ (tab n T,tabS S n T n):=kl 0#1 (cell n);exact cK (G:= [6#6,4#9,2#5,x]) rfl (show tbM g φ [6#6,4#9,b_,b_] S=_ from(aL (bj e0)).trans ((aL e1).trans (cz e2)))
theorem Mb{k:Nat}:Ex S (tabS S n T k):=⟨_,by unfold tabS;rw[bz]⟩
def nmM:MS:=cb (l4 (λg φ=>_G.run 2 4 (tbM g φ)) 2 [0,1] (mMT eZ 0#8 24#2) 7#7)
theorem Vz(hm:m<big)(g:∀i j,i<m->j<m->T i j<m)(ho:qQ m l):∃S',_G.run 2 2 nmM [tab m T,.tup (ax l)] S=a_ (tab m (ic T (oF l) (pF l)),S')/\Ex S S':=by
 have hlen:=ho.len;refine⟨tabS S m (ic T (oF l) (pF l)) m,cK (G:= [1#2,a_ (.tup (ax l))]) rfl (show nmM [1#2,a_ (.tup (ax l))] S=_ from cz ?_),Mb⟩;refine vN (cs:= [tab m T,.tup (ax l)]) 11#8 rfl λf=>Ks hm (λi j S' hi hj=>?_) f;have gi:atI (ax l) (i:Int)=a_ (.int (oF l i)):=kR (by unfold ax;rw[a9,ho.get hi];rfl);have gj:atI (ax l) (j:Int)=a_ (.int (oF l j)):=kR (by unfold ax;rw[a9,ho.get hj];rfl);show mMT eZ 0#8 24#2 [a_ (.int (i:Nat)),a_ (.int (j:Nat)),1#2,a_ (.tup (ax l))] S'=_;exact kI 0#1 (kH (ho.ord.ol j hj) (jm (ho.ord.ol i hi) 0#1 (BI 0#1 0#1 gi)) (BI 0#1 0#1 gj)) (ho.mem.mpr (g _ _ (ho.ord.ol i hi) (ho.ord.ol j hj)))
section
variable {m:Nat}{T:Nat->Nat->Nat}
structure Sn(m:Nat)(T:Nat->Nat->Nat)(p:List Nat):Prop where
 lt:Lt m p
 nd:(plc T p).Nodup
 cl:∀x∈plc T p,∀y∈plc T p,T x y∈plc T p
theorem Sn.last{p:List Nat}(h:Sn m T p)(hp:p≠[]):fv T p≠0:=by
 intro z;have h1:=h.nd;rw[kU,d6]at h1;have h0:0∈pre T p:=aw.mpr ⟨0,aA.mpr (gv.mpr hp),rfl⟩;exact h1.2.2 0 h0 (fv T p) 0#3 z.symm
end
section
variable {m:Nat}{T:Nat->Nat->Nat}{S:Sto}
abbrev Pln(m:Nat)(T:Nat->Nat->Nat):Prop:= ∀i j,i<m->j<m->T i j=T j i
theorem UH{S:Sto}{s k:Nat}(ha:a G S=a_ (.tup (ax [s]),S1))(hb:b G S1=a_ (.int (k:Nat),S2))(hk:k<1000):m2 il a b G S=a_ (.tup (ax (aS k s)),S2):=by
 refine op2 ha hb ?_;have h:Ft (ax [s]).length (k:Int):=⟨by exact Int.natCast_nonneg _,by lia,by simp[ax],by simp[ax]⟩;simp only[il,if_pos h,ck]
 congr 2
 simp[ax]
end
section
variable {m:Nat}{T:Nat->Nat->Nat}{S:Sto}
end
theorem yJ:∀(l acc:List Int) (x:Int),x∈l.foldl 21#4 acc↔x∈acc\/x∈l
 |[],acc,x=>by simp
 | y::l,acc,x=>by
   rw[g9,yJ l];by_cases h:y∈acc
   .rw[if_pos h,aH]
    constructor
    .rintro (z|z)
     .exact .inl z
     .exact .inr (.inr z)
    .rintro (z|rfl|z)
     .exact .inl z
     .exact .inl h
     .exact .inr z
   .rw[if_neg h,aQ,bx,aH,or_assoc]
theorem Eu{l:List Int}{x:Int}:x∈ddp l↔x∈l:=by unfold ddp;rw[yJ];simp
theorem yj:∀(l acc:List Int),acc.Nodup->(l.foldl 21#4 acc).Nodup
 |[],acc,h=>h
 | y::l,acc,h=>by
   rw[g9];refine yj l _ ?_;by_cases z:y∈acc
   .rw[if_pos z];exact h
   .rw[if_neg z];exact d6.mpr ⟨h,by simp,λa ha b hb=>by simp at hb;rw[hb];exact λe=>z (e▸ha)⟩
theorem Qa(l:List Int):(ddp l).Nodup:=yj l [] List.nodup_nil
def ddN(l:List Nat):List Nat:=(ddp (dC l)).map Az
theorem oK(l:List Nat):dC (ddN l)=ddp (dC l):=by
 unfold dC ddN;rw[bq]
 conv=>rhs;rw[<-rS (ddp (l.map λ(x:Nat)=>(x:Int)))]
 apply aR;intro x hx;obtain⟨y,_,rfl⟩:=aw.mp (Eu.mp hx);simp
theorem EG:x∈ddN l↔x∈l:=by
 have h:(x:Int)∈dC (ddN l)↔(x:Int)∈dC l:=by rw[oK];exact Eu
 have e:∀k:List Nat,(x:Int)∈dC k↔x∈k:=λk=>by
  unfold dC;rw[aw];constructor
  .rintro ⟨y,hy,e⟩
   have:y=x:=by lia
   rw[<-this];exact hy
  .exact λh=>⟨x,h,rfl⟩
 rw[<-e,<-e];exact h
theorem Rf(l:List Nat):(ddN l).Nodup:=by
 have h:(dC (ddN l)).Nodup:=by rw[oK];exact Qa _
 unfold dC at h;exact(aW.mp h).imp λ{a b} ZU e=>ZU (by rw[e])
theorem Wc(ha:a G S=a_ (.ref n,S1))(hn:S1[n]?=a_ (Cell.lst (ax l)))(h1:2#8<4000)(h2:(ddN l).length<64):mFn bSS 4#2 G S=a_ (.ref 4#7,S1++[.lst (ax (srt (ddN l)))]):=by
 refine fK (f:=bSS) ha ?_;have h3:(ddp (dC l)).length<64:=by rw[<-oK];simpa [dC]using h2
 have ok:Nu (dC l).length (ddp (dC l)).length:=⟨by simpa [dC]using h1,h3⟩;simp only[bSS,eB,getL,hn,aO,mK];rw[if_pos ok,<-oK,wx]
theorem p7{e:ME}{G:Rho}{n:Nat}{us:List U}{f:U->U}(P:Sto->Prop)(hP:∀S,P S->getL S n=a_ us)(he:∀u∈us,∀S,P S->∃S',e 11#0 S=a_ (f u,S')/\P S'):
  ∀(k i:Nat) (acc:List U) (S:Sto),i<=1#3->1#3-i<k->P S->∃S',kW cTT e G n k i acc S=a_ (acc++(us.drop i).map f,S')/\P S'
 |0,i,acc,S,h1,h2,_=>by lia
 | k+1,i,acc,S,h1,h2,h=>by
   unfold kW;rw[hP S h];simp only[aO];by_cases hi:i<1#3
   .have hd:=eN hi
    obtain⟨S1,e1,p1⟩:=he _ (bQ hi) S h;obtain⟨S2,e2,p2⟩:=p7 P hP he k _ _ S1 0#4 0#0 p1;refine⟨S2,?_,p2⟩;rw[aC hi];simp only[cTT,aF];rw[e1];simp only[aF];rw[e2,hd,bz];rfl
   simp_all
theorem PR(h:l.Pairwise 7#5):srt l=l:=by
 have h1:(dC l).Pairwise (· <= ·):=aW.mpr (h.imp λ{a b} ZU=>by omega);have h2:=nH (List.Perm.refl _) h1;unfold srt;rw[<-h2];unfold dC;rw[bq]
 conv=>rhs;rw[<-rS l]
 apply aR;simp
section
variable {m:Nat}{T:Nat->Nat->Nat}{S:Sto}{u:U}{st:List Nat}
theorem mc{r:MA}{x:U}(ha:a G S=a_ (x,S1))(hr:r G S1=a_ (xs,S2)):aa a r G S=a_ (x::xs,S2):=by simp[aa,ha,hr,aF]
theorem ml{r:MA}(h:r G S=a_ (xs,S1))(hl:1#4<1000):dP r G S=a_ (.ref 4#7,S1++[.lst xs]):=by
 have:xs.length<=big:=by unfold big;lia
 simp[dP,h,aF,this]
theorem wO:∀(a b:List Nat),a.Nodup->(∀x∈a,x∈b)->b.length<=a.length->a.Perm b
 | [],b,_,_,h=>by
   have e:b=[]:=d7 14#6;rw[e]
 | x::a,b,h,hs,hl=>by
   have hx:=hs x 0#3;have h2:=List.length_erase_of_mem hx;have h1:=wO a (b.erase x) (eh.mp h).2 (λy hy=>(List.mem_erase_of_ne (λe:y=x=>(eh.mp h).1 (by rw[<-e];exact hy))).mpr (hs y (aB _ hy))) (by simp only[bU]at hl;omega);exact(h1.cons x).trans (Ln hx).symm
end
def itF(f:Nat->Nat):Nat->Nat->Nat
 |0,x=>x
 |k+1,x=>f (itF f k x)
structure Inj(m:Nat)(f:Nat->Nat):Prop where
 lt:∀x,x<m->f x<m
 inj:∀x y,x<m->y<m->f x=f y->x=y
section
variable {m:Nat}{f:Nat->Nat}
theorem jn(h:Inj m f){x:Nat}(hx:x<m):∀k,itF f k x<m
 |0=>hx
 |k+1=>h.lt _ (jn h hx k)
theorem rW{x:Nat}:∀k,itF f (k+1) x=itF f k (f x)
 |0=>rfl
 |k+1=>by show f (itF f (k+1) x)=f (itF f k (f x));rw[rW k]
theorem kX{x:Nat}(j:Nat):∀k,itF f (k+j) x=itF f k (itF f j x)
 |0=>by rw[fU];rfl
 |k+1=>by rw[Nat.add_right_comm];show f (itF f (k+j) x)=f _;rw[kX j k]
theorem uy(h:Inj m f){x y:Nat}(hx:x<m)(hy:y<m):∀k,itF f k x=itF f k y->x=y
 |0,e=>e
 |k+1,e=>uy h hx hy k (h.inj _ _ (jn h hx k) (jn h hy k) e)
def gh(m:Nat)(f:Nat->Nat)(x:Nat):Nat:=((aq m).find? λk=>decide (itF f (k+1) x=x)).getD 0+1
theorem iy(h:Inj m f)(hx:x<m):1<=gh m f x/\gh m f x<=m/\itF f (gh m f x) x=x /\ ∀k,1<=k->k<gh m f x->itF f k x≠x:=by
 obtain⟨i,j,YH,hj,e⟩:=KC (m:=m) (f:=λk=>itF f k x) λi _=>jn h hx i;have e1:itF f (j-i) x=x:=by
  have e:itF f i x=itF f j x:=e;rw[show j=i+(j-i) by lia,kX]at e;exact(uy h hx (jn h hx _) i e).symm
 unfold gh;cases q:(aq m).find? λk=>decide (itF f (k+1) x=x) with
 | none=>
   have:=uV.mp q (j-i-1) (aA.mpr 0#0);rw[show j-i-1+1=j-i by lia]at this;simp[e1]at this
 | some i=>
   obtain⟨i1,i2,i3⟩:=List.find?_range_eq_some.mp q;have i2:=aA.mp i2;refine⟨by simp,by simp;assumption,by simpa using i1,λk k1 k2 z=>?_⟩;simp at k2;have:=i3 (k-1) 0#0;rw[show k-1+1=k by lia]at this;simp[z]at this
def rgK(f:Nat->Nat)(x k:Nat):List Nat:=(aq k).map λi=>itF f i x
def rg(m:Nat)(f:Nat->Nat)(x:Nat):List Nat:=rgK f x (gh m f x)
theorem qJ{k:Nat}:rgK f x (k+1)=rgK f x k++[itF f k x]:=by simp[rgK,eJ]
theorem Fi{k:Nat}:(rgK f x k).length=k:=by simp[rgK]
theorem mw:(rg m f x).length=gh m f x:=Fi
theorem KF(h:Inj m f)(hx:x<m):Lt m (rg m f x):=λy hy=>by
 obtain⟨i,_,rfl⟩:=aw.mp hy;exact jn h hx i
theorem OP(h:Inj m f)(hx:x<m):(rg m f x).Nodup:=by
 obtain⟨p1,p2,p3,p4⟩:=iy h hx;unfold rg rgK;rw[ay,aW];refine bM (R:=λa b=>a<b) ?_ eF;intro a b ha hb ZU e;have hb:=aA.mp hb;rw[show b=a+(b-a) by lia,kX]at e;have:=uy h hx (jn h hx _) a e;exact p4 (b-a) 0#0 0#0 this.symm
theorem LR(h:Inj m f)(hx:x<m):x∈rg m f x:=aw.mpr ⟨0,aA.mpr (iy h hx).1,rfl⟩
theorem DT(h:Inj m f)(hx:x<m):gh m f x<=m:=(iy h hx).2.1
theorem uB(h:Inj m f)(hx:x<m):gh m f x=m ↔ ∀y,y<m->y∈rg m f x:=by
 constructor
 .intro e y hy
  exact(All.mk (OP h hx) (KF h hx) (by rw[mw,e])).mem hy
 .intro hy
  have:=(wO (aq m) (rg m f x) kh (λy q=>hy y (aA.mp q)) (by rw[mw,aZ];exact DT h hx)).length_eq;rw[aZ,mw]at this;exact this.symm
end
def sdG(q:Nat->List Nat):Nat->List 3#6×List Nat
 |0=>([],[])
 |k+1=>if k∈(sdG q k).2 then sdG q k else((sdG q k).1++[q k],(sdG q k).2++q k)
def pcG(q:Nat->List Nat)(ext:Nat->Sto):Nat->List 3#6×List Nat×Sto
 |0=>([],[],[])
 |k+1=>if k∈(pcG q ext k).2.1 then pcG q ext k else((pcG q ext k).1++[q k],(q k).foldl putN (pcG q ext k).2.1,(pcG q ext k).2.2++ext k)
theorem Dm{q:Nat->List Nat}{ext:Nat->Sto}:∀k,(pcG q ext k).1=(sdG q k).1 /\ ∀y,y∈(pcG q ext k).2.1↔y∈(sdG q k).2
 |0=>⟨rfl,λy=>Iff.rfl⟩
 | k+1=>by
   obtain⟨i1,i2⟩:=Dm (q:=q) (ext:=ext) k;by_cases h:k∈(sdG q k).2
   .rw[pcG,sdG,if_pos h,if_pos ((i2 k).mpr h)];exact⟨i1,i2⟩
   .rw[pcG,sdG,if_neg h,if_neg (λz=>h ((i2 k).mp z))]
    refine⟨by show _++_=_++_;rw[i1],λy=>?_⟩;show y∈(q k).foldl putN (pcG q ext k).2.1↔y∈(sdG q k).2++q k;rw[wt,i2,aQ]
theorem EU{q:Nat->List Nat}:∀k,(sdG q k).1.length<=k
 |0=>ak _
 | k+1=>by
   have:=EU (q:=q) k;rw[sdG]
   split
   .exact dG 0#4
   .simp;assumption
theorem IZ{q:Nat->List Nat}{ext:Nat->Sto}{B:Nat}:∀k,(∀i,i<k->(q i).length<=B)->(pcG q ext k).1.length<=k/\(pcG q ext k).2.1.length<=k*B
 |0,_=>⟨ak _,bS _⟩
 | k+1,h=>by
   obtain⟨h1,h3⟩:=IZ (q:=q) (ext:=ext) (B:=B) k λi hi=>h i (by exact dG 0#4);have h2:=h k (bV _);rw[pcG,qw]
   split
   .exact⟨by exact dG 0#4,by lia⟩
   .refine⟨by simp;assumption,?_⟩
    have:=qP (xs:=q k) (l:=(pcG q ext k).2.1);show((q k).foldl putN (pcG q ext k).2.1).length<=_
    lia
variable{q:Nat->List Nat}
theorem Eh(hm:m<64)(hr:∀k,k<m->(q k).length<=64)(hφ:∀i (S':Sto),i<m->Ex S S'->φ [.int (i:Nat)] S'=a_ (.tup (ax (q i)),S'++ext i))(g:iA):
  _G.run 2 7 (uL g φ) [.tup (ax (aq m)),.obj g] S=a_ (.ref 0#7,cW S (pcG q ext m)):=by
 obtain⟨Y4,S1,e1,⟨a,b,c,rfl⟩,W8⟩:=sy (i:=4) (e:=ae 0) (us:=ax (aq m)) (b:=wk g φ) (G:= [9#0,4#9,2#5,13#8,b_,b_,b_]) (S:=cW S (pcG q ext 0)) 0#1
  (λk G S'=>(∃a b c,G = [9#0,4#9,2#5,13#8,a,b,c])/\S'=cW S (pcG q ext k)) ⟨⟨_,_,_,rfl⟩,rfl⟩ (by
   rintro k u G S' hu ⟨⟨a,b,c,rfl⟩,rfl⟩;obtain⟨k',YM,rfl⟩:=kD hu;have hk:k<m:=by have:=(ag.mp YM).1;simpa using this
   rw[ue hk]at YM;cases YM;have bd:=IZ (q:=q) (ext:=ext) (B:=64) k λi hi=>hr i (by exact aY 0#4 0#4);have ec:=zG (G:= [9#0,4#9,2#5,13#8,5#5,b,c]) (a:=ae 4) (b:=ae 3) (x:=k) 0#1 0#1 (show(cW S (pcG q ext k))[0#7+1]?=_ from h1);rw[wV]at ec;by_cases ZI:k∈(pcG q ext k).2.1
   .rw[decide_eq_true ZI]at ec
    refine⟨_,_,(kO ec).trans rfl,⟨_,_,_,rfl⟩,?_⟩;rw[pcG,if_pos ZI]
   .rw[decide_eq_false ZI]at ec
    have hex:Ex S (cW S (pcG q ext k)):=⟨_,by unfold cW;rw[bz]⟩;have e5:wq 1 g φ 5#3 [9#0,4#9,2#5,13#8,5#5,b,c] (cW S (pcG q ext k))=a_ (.tup (ax (q k)),cW S (pcG q ext k)++ext k):=by
     show(if g=g then mFn φ 5#3 _ _ else b_)=_;rw[if_pos rfl];exact fK 0#1 (hφ k _ hk hex)
    have hx:cW S (pcG q ext k)++ext k=S++[.lst (tups (pcG q ext k).1),.dic (fW (pcG q ext k).2.1)]++((pcG q ext k).2.2++ext k):=by simp[cW]
    rw[hx]at e5;have e6:=append_eq (G:= [9#0,4#9,2#5,a_ (.ref (S.length+1)),5#5,a_ (.tup (ax (q k))),c]) (o:=ae 2) (a:=ae 5) (u:= .tup (ax (q k))) 0#1 0#1 (h0 (S:=S) (x:=(pcG q ext k).2.2++ext k) (c:= .lst (tups (pcG q ext k).1)) (e:= .dic (fW (pcG q ext k).2.1))) h0 (by simp only[tups,ar];unfold big;lia);rw[t0]at e6
    obtain⟨v,e7⟩:=yE (S:=S) (x:=(pcG q ext k).2.2++ext k) (c:= .lst (tups (pcG q ext k).1++[.tup (ax (q k))])) (G:= [9#0,4#9,2#5,13#8,5#5,a_ (.tup (ax (q k))),c]) (xs:=q k) (l:=(pcG q ext k).2.1) rfl rfl rfl (by
     have:=hr k hk;have h3:k*64<=64*64:=iJ _ 0#0
     unfold big;lia)
    refine⟨_,_,(tm ec).trans ((aL (bj e5)).trans ((aL e6).trans e7)),⟨_,_,_,rfl⟩,?_⟩;rw[pcG,if_neg ZI]
    simp[cW,tups])
 rw[cn,aZ]at W8;subst W8;refine cK (G:= [9#0,4#9,2#5,13#8,a,b,c]) rfl ?_;show uL g φ [9#0,4#9,b_,b_,b_,b_,b_] S=_;have e2:nN [9#0,4#9,2#5,b_,b_,b_,b_] (S++[Cell.lst []])=a_ (.ref (0#7+1),cW S (pcG q ext 0)):=by
  simp[nN,cW,pcG,tups,fW]
 exact(aL (bj jD)).trans ((aL (bj e2)).trans ((aL e1).trans (cz 0#1)))
theorem tK:Ex S (cW S (pcG q ext m))/\(cW S (pcG q ext m))[0#7]?=a_ (Cell.lst (tups (sdG q m).1)):=by
 refine⟨⟨_,by unfold cW;rw[bz]⟩,?_⟩;have:=h0 (S:=S) (x:=(pcG q ext m).2.2) (c:= .lst (tups (pcG q ext m).1)) (e:= .dic (fW (pcG q ext m).2.1));rw[(Dm m).1]at this;unfold cW;rw[(Dm m).1];exact this
theorem rZ{q:Nat->List Nat}:∀{m:Nat},1<=m->(sdG q m).1[0]?=a_ (q 0)/\(∀y,y∈q 0->y∈(sdG q m).2)
 |0,h=>by exact absurd 0#4 (bu _)
 |1,_=>by simp[sdG]
 | m+2,_=>by
   obtain⟨h1,h2⟩:=rZ (q:=q) (m:=m+1) 0#0;rw[sdG]
   split
   .exact⟨h1,h2⟩
   .refine⟨?_,λy hy=>bf _ (h2 y hy)⟩
    rw[aT]
    .exact h1
    .exact(ag.mp h1).1
theorem Fq{q:Nat->List Nat}:∀{m:Nat},1<=m->((sdG q m).1.length=1 ↔ ∀y,y<m->0<y->y∈q 0)/\((sdG q m).1.length=1->(sdG q m).2=q 0)
 |0,h=>by exact absurd 0#4 (bu _)
 | 1,_=>by
   refine⟨⟨λ_ y h1 h2=>by lia,λ_=>by simp[sdG]⟩,λ_=>by simp[sdG]⟩
 | m+2,_=>by
   obtain⟨h1,h2⟩:=Fq (q:=q) (m:=m+1) 0#0;have h3:=(rZ (q:=q) (m:=m+1) 0#0);have XE:1<=(sdG q (m+1)).1.length:=(ag.mp h3.1).1;rw[sdG];by_cases z:m+1∈(sdG q (m+1)).2
   .rw[if_pos z]
    refine⟨⟨λe y hy hy0=>?_,λYW=>h1.mpr λy hy hy0=>YW y (by exact dG 0#4) hy0⟩,h2⟩;by_cases YC:y=m+1
    .subst YC;rw[h2 e]at z;exact z
    .exact h1.mp e y 0#0 hy0
   .rw[if_neg z]
    refine⟨⟨λe=>?_,λYW=>?_⟩,λe=>?_⟩
    .simp at e;rw[e]at XE;simp at XE
    .exact absurd (h3.2 _ (YW (m+1) (by exact ak _) 0#0)) z
    .simp at e;rw[e]at XE;simp at XE
section
variable {m:Nat}{T:Nat->Nat->Nat}{S:Sto}
end
section
variable {S:Sto}
end
open PySem in
open PySem in
section
variable {S:Sto}
section
variable {n m r:Nat} (hn:0<n) (XU:n<100) (hm:0<m) (Zl:m<100) (hr:r<100)
include hn XU hm Zl hr
end
end
section
variable {m:Nat}{T:Nat->Nat->Nat}
open Classical in
end
variable{D:List (_L.Key×U)}
theorem Nw{k j:_L.Key}:kc (mZ D k u) j=if k=j then a_ u else kc D j:=by
 unfold kc mZ;by_cases h:(D.any λkv=>decide (kv.1=k))=c_
 .rw[if_pos h]
  induction D with
  |nil=>simp at h
  | cons p D ih=>
    rw[dy,jh];by_cases hp:p.1=k
    .rw[if_pos hp]
     by_cases hk:k=j
     .simp_all
     .have h1:decide (p.1=j)=d_:=decide_eq_false (by rw[hp];omega)
      simp only[h1,if_neg hk];rw[jh,h1];by_cases h2:(D.any λkv=>decide (kv.1=k))=c_
      .simp_all
      .have:D.map (λkv=>if kv.1=k then(kv.1,u) else kv)=D:=by
        conv=>rhs;rw[<-rS D]
        apply aR<;>grind
       rw[this]
    .rw[if_neg hp]<;>grind
 .rw[if_neg h,List.find?_append]
  by_cases hk:k=j
  .subst hk
   have:D.find? (λkv=>decide (kv.1=k))=b_:=by
    rw[uV];intro kv hkv hd;exact h (ki.mpr ⟨kv,hkv,hd⟩)
   rw[this];simp
  grind
theorem IT{k:_L.Key}:(mZ D k u).length<=D.length+1:=by
 unfold mZ
 split
 .simp
 .simp
def xP(D:List (_L.Key×U))(xs:List Nat)(v:Nat):List (_L.Key×U):=xs.foldl (λD (x:Nat)=>mZ D 14#2 (.int (v:Nat))) D
theorem wZ{v:Nat}:∀{xs:List Nat}{D:List (_L.Key×U)},(xP D xs v).length<=D.length+1#4
 |[],D=>by simp[xP]
 | x::xs,D=>by
   have h1:=wZ (v:=v) (xs:=xs) (D:=mZ D (.inl x) (.int v));have h2:=IT (D:=D) (k:= .inl x) (u:= .int v);show(xP _ xs v).length<=_
   grind
theorem Cq{v x:Nat}:∀{xs:List Nat}{D:List (_L.Key×U)},kc (xP D xs v) 14#2=if x∈xs then a_ (.int (v:Nat)) else kc D 14#2
 |[],D=>by simp[xP]
 | y::xs,D=>by
   show kc (xP _ xs v) _=_;rw[Cq,Nw]
   grind
section
variable {m:Nat}{T:Nat->Nat->Nat}{P:List Nat}
end
section
variable {m:Nat}{T:Nat->Nat->Nat}{P:List Nat}
end
end _W
namespace _W
open PySem PySem.Spec _L _G
def wj:MS:=aX (bC 2 (mFn ox 5#2)) (aX (sIf (cOf (m2 oLt (mFn cp 4#0) 7#1)) (bC 2 (mFn dO (aa (m2 eP 7#1 (mFn bA (aa 0#5 (aa (m2 vY 0#9 2#2) ah)))) ah))) dw) (aX (bC 3 (iF (iR2 (aa 1#9 (aa (mFn cp 4#0) ah))))) (aX (bC 4 (mML nU 0#8 (aa (mFn bA (aa 0#5 (aa 8#4 ah))) ah))) (aX (bC 5 (m2 oIx 0#8 (mFn bA (aa 0#5 (aa 8#4 ah))))) (cb (iS (aa 0#6 (aa (iS (aa (mFn y9 (aa (ae 4) 6#5)) (aa (mFn Ah (aa (ae 4) 6#5)) ah))) ah))))))))
def l8:MF:=run 2 6 wj
def AN(g:iA)(φ:MF):MS:=aX (bC 2 (dP ah)) (aX (bC 3 nN) (aX (fj 4 (dh 0#5) (sIf (cOf (m2 mB (ae 4) 0#8)) (aX (bC 5 (wq 1 g φ 5#3)) (aX (eG (mML de 0#6 6#5)) (fj 6 (dh (ae 5)) (gf 0#8 (ae 6) 14#1)))) dw)) (cb 0#6)))
def wG(g:iA)(φ:MF):MF:=run 2 7 (AN g φ)
def qY:MS:=cb (yV (iR1 (aa 7#7 ah)))
def j8:MF:=run 1 1 qY
def q9:MS:=cb (l4 wG 1 [0,1] (mFn bN (aa (mFn fe (aa (bW (dh 0#6) cTT (m2 oIx (m2 oIx 0#9 0#5) 0#8)) ah)) ah)) (mFn j8 12#3))
def my:MF:=run 2 2 q9
def EE:MS:=aX (bC 2 (uX 1#8 (iS ah))) (aX (bC 3 (dP 9#7)) (aX (mj (cOf (m2 oGt 8#4 1#8)) (aX (bC 4 (mML Ar 0#8 ah)) (fj 5 (dh 0#9) (aX (bC 6 (m2 oIx (m2 oIx 0#5 (ae 4)) (ae 5))) (sIf (cOf (m2 mB (ae 6) 0#6)) (aX (gf 0#6 (ae 6) (m2 eP (m2 oIx 0#6 (ae 4)) (iS 6#5))) (eG (mML de 0#8 (aa (ae 6) ah)))) dw))))) (cb 0#6)))
def Fg:MF:=run 2 7 EE
def Jb:MS:=cb (mFn bN (aa (mFn fe (aa (mFn Fg 5#2) ah)) ah))
def DV:MF:=run 2 2 Jb
def AG:MS:=cb (mMT eZ (m2 oIx 0#5 0#9) 9#7)
def kn:MF:=run 2 2 AG
def yI:MS:=cb 23#3
def oN:MF:=run 2 2 yI
def EO:MS:=cb (mFn my (aa 0#5 (aa (mFn DV (aa 0#5 (aa (iS (aa (mFn oN 5#2) ah)) ah))) ah)))
def k7:MF:=run 2 2 EO
def og:MS:=aX (bC 3 nN) (aX (tX (gTp 2 (h9 (gN 4) (h9 (gN 5) tY))) (Cm (aa (mFn k7 5#2) 4#0)) 25#4) (cb 0#8))
def i9:MF:=run 3 7 og
def tR:MS:=aX (bC 3 (dP 4#0)) (aX (bC 4 (m2 oIx (m2 oIx 0#5 0#6) (m2 oIx 0#9 0#6))) (aX (mj (cOf (m2 oNe (ae 4) 0#6)) (aX (eG (mML de 0#8 5#3)) (bC 4 (m2 oIx (m2 oIx 0#5 (ae 4)) (m2 oIx 0#9 (ae 4)))))) (cb (mFn bN (aa 0#8 ah)))))
def kZ:MF:=run 3 5 tR
def yH:MS:=aX (bC 3 (mFn i9 16#1)) (aX (bC 4 (mFn kZ (aa 0#5 (aa 0#8 9#7)))) (cb (Bp (cOf (m2 oEq (mFn cp 5#3) 7#7)) 25#3 8#2)))
def iK:MF:=run 3 5 yH
def tL:MS:=aX (bC 2 (dP (aa (iS ah) ah))) (aX (mj (cOf (m2 oLt (mFn cp (aa (m2 oIx 0#6 1#8) ah)) 0#9)) (aX (bC 3 (dP ah)) (aX (fj 4 (dh 0#6) (eG (mML jA 0#8 (aa (bW (dh 0#5) cTT (m2 eP (ae 4) (iS 6#5))) ah)))) (bC 2 0#8)))) (cb 0#6))
def jJ:MF:=run 2 5 tL
def j4:MS:=aX (bC 2 (mFn cp (aa (mFn k7 5#2) ah))) (aX (sIf (cOf (m2 oGt 0#6 (mC (.int 10)))) sNo dw) (aX (bC 3 (bW (dh 26#3) cTT (mFn iK (aa 0#5 (aa 0#9 5#3))))) (cb (mFn iG (aa (bW (dh 0#8) (cOf (m2 kA (ae 4) 8#2)) (ae 4)) ah)))))
def bT:MF:=run 2 4 j4
def ES:MS:=aX (bC 3 (mFn i9 16#1)) (cb (l4 wG 1 [3,0] (mFn kZ (aa 0#6 (aa 0#9 12#3))) (mFn j8 12#3)))
def oI:MF:=run 3 4 ES
def vh:MS:=aX (bC 2 0#9) (aX (bC 3 1#9) (aX (mj (cOf (m2 oNe 0#6 1#8)) (aX (bC 2 (m2 oIx (m2 oIx 0#5 0#6) 0#9)) (AO 3 1#9))) (cb 0#8)))
def fF:MF:=run 2 4 vh
def tH:MS:=cb (jS (m2 oEq (m2 oMod (mFn fF (aa 0#5 (aa (mFn oN 5#2) ah))) 2#2) 1#9) (m2 oEq (m2 oMod (m2 oDiv 7#7 (mFn fF (aa 0#5 (aa (m2 oIx 0#9 1#8) ah)))) 2#2) 1#8))
def fX:MF:=run 2 2 tH
def k8:MS:=cb (jS (m1 (sH "int") 0#5) (jS (m1 uh (m1 (sH "bool") 0#5)) (mCh oLe oLt 1#8 0#5 0#9)))
def kQ:MF:=run 2 2 k8
def jZ:MS:=cb (jS (m1 (sH "tuple") 0#5) (mFn xN (aa (bW (dh 0#5) cTT (mFn kQ (aa 0#6 13#1))) ah)))
def j0:MF:=run 2 2 jZ
def rE:MS:=cb (jS (mFn j0 (aa 0#6 (aa 7#7 ah))) (mFn xN (aa (bW (dh 0#6) cTT (m2 oIn 0#8 0#9)) ah)))
def rh:MF:=run 3 3 rE
def Ci:MS:=aX (bC 2 (dP 9#7)) (aX (fj 3 (dh 0#9) (eG 23#8)) (cb (mFn bN 4#0)))
def wB:MF:=run 2 4 Ci
def lH:MS:=cb (m2 oEq (mFn bN (aa (mFn fe 13#1) ah)) (mFn j8 12#3))
def lP:MF:=run 2 2 lH
def pH:MS:=aX (bC 2 (mFn wB 5#2)) (cb (jS (m2 oEq (m2 oIx 0#6 (m1 lM 1#9)) 1#8) (mFn lP 25#8)))
def pD:MF:=run 2 3 pH
def vL:MS:=cb (jS (mFn rh 16#1) (jS (m2 oGe (mFn cp 4#0) 2#2) (mFn pD 12#1)))
def pR:MF:=run 3 3 vL
def ku:MS:=aX (bC 3 (mFn oI 16#1)) (aX (bC 4 (dP ah)) (aX (fj 5 (dh 0#8) (eG (mML jA (ae 4) (aa (mFn vg 6#5) ah)))) (aX (sIf (cOf (m2 oNe (mFn fe 5#3) (iF (iR1 (aa 7#7 ah))))) 11#5 dw) (aX (bC 6 (mFn iK 16#1)) (aX (sIf (cOr (cOf (m2 oNe (m2 oIs (ae 6) 8#2) (m2 oGt 8#4 1#9))) (nu (cOf (m2 kA (ae 6) 8#2)) (cOf (m2 kA (mFn pR (aa 0#5 (aa 0#9 (aa (ae 6) ah)))) 14#1)))) 11#5 dw) (aX (bC 7 23#3) (aX (sIf (cOf (m2 oEq (m2 oMod (mFn fF (aa 0#5 (aa (ae 7) ah))) 2#2) 1#8)) (cb 14#1) dw) (aX (bC 8 (mFn cp 23#4)) (aX (sIf (cOf (m2 oNe (m2 oMod (m2 vY 8#4 (ae 8)) 2#2) 1#8)) 11#5 dw) (cb (mOr (m1 uh (mFn fX 5#2)) (m2 oEq (m2 oMod 8#4 2#2) 1#8))))))))))))
def gc:MF:=run 3 9 ku
def oy:MS:=aX (bC 3 (mFn wB 12#1)) (aX (bC 4 (dP ah)) (aX (fj 5 (dh (mFn k7 5#2)) (aX (bC 6 (mFn bSS (aa (bW (dh (ae 5)) cTT (m2 oIx 0#6 (mMT eZ 0#8 (aa (ae 7) ah)))) ah))) (aX (sIf (cOf (m2 oNe (mFn cp (aa (ae 6) ah)) 1#9)) (cb 8#2) dw) (eG (mML de (ae 4) (aa (mMT eZ 0#9 (aa (m2 oIx (ae 6) 1#8) ah)) ah)))))) (cb (mFn bN 5#3))))
def gO:MF:=run 3 7 oy
def nA:MS:=cb (mFn bN (aa (mFn fe (aa (bW (dh 0#9) cTT (mFn kn 12#1)) ah)) ah))
def jb:MF:=run 2 2 nA
def JB:MS:=cb (mFn bN (aa (bW (Bl 13#1) cTT (mFn kn 12#1)) ah))
def sU:MF:=run 2 2 JB
def vv(g:iA)(φ:MF):MS:=aX (bC 2 (dP ah)) (aX (fj 3 (iR1 12#3) (eG 23#1)) (cb (mFn bN 4#0)))
def we(g:iA)(φ:MF):MF:=run 2 4 (vv g φ)
def EF:MS:=cb (l4 we 2 [0,1] (mMT eZ 0#8 24#2) 7#7)
def uN:MF:=run 2 2 EF
def NX:MS:=aX (fj 1 (iR1 (aa (mFn Ah (aa 1#9 (aa (mFn y9 (aa 7#7 (aa (mC (.int 4)) ah))) ah))) ah)) (aX (bC 2 (mFn nK 5#2)) (aX (Io (mFn l8 (aa 0#6 (aa (m2 oIx (dP (aa (mC (.int 8)) (aa (mC (.int 12)) (aa (mC (.int 16)) ah)))) (mFn bA (aa 0#6 (aa 7#1 ah)))) ah))) (gTp 2 (h9 (gN 3) (h9 (gN 4) tY)))) (aX (bC 5 (mFn cp (aa (mFn k7 12#0) ah))) (aX (fj 6 (iR1 (aa 7#1 ah)) (sIf (Dn (cOf (mFn gc (aa 0#8 (aa (ae 4) (aa (mFn bN (aa (bW (iR1 6#5) cTT (mFn bA (aa 0#6 (aa 2#2 ah)))) ah)) ah)))))) 11#5 dw)) (sIf (cOf (m2 oLt (ae 5) (mC (.int 9)))) (aX (bC 7 (mFn bT 12#0)) (aX (sIf (nu (cOf (mFn fX 12#0)) (cOf (m2 oNe (ae 7) (dP ah)))) 11#5 dw) (aX (fj 8 26#7 (aX 25#9 23#0)) (aX (bC 10 (mFn bT (aa 0#8 (aa (mFn jb 12#0) ah)))) (aX (sIf (cOf (m2 oNe 24#0 (ae 10))) 11#5 dw) (aX (bC 11 (mFn iL (aa 0#6 (aa 8#4 ah)))) (aX (bC 12 (mFn bN (aa (mFn iG (aa (bW (dh (ae 4)) cTT (mMT eZ (ae 11) (aa (ae 13) ah))) ah)) ah))) (sIf (cOf (m2 oNe (mFn cp 24#1) (mFn cp (aa (ae 7) ah)))) 11#5 dw)))))))) dw)))))) (cb 14#1)
def SY:MF:=run 1 13 NX
section
open _L _G
variable{m i:Nat}{T:Nat->Nat->Nat}{S:Sto}
theorem yd(g:Grp m T)(hi:i<m):kn [tab m T,.int i] S=a_ (.int (unT m T i),S):=by
 have h0:=J3 g hi;have e:=jm (G:= [1#2,a_ _]) (S:=S) (a:=ae 0) (b:=ae 1) hi 0#1 0#1;rw[Bq]at e;exact cK rfl (cz (kI e c_i h0))
variable{G:Rho}{S1:Sto}{a:ME}{x:Nat}
theorem Sk{S2:Sto}{b:ME}{y:Nat}(ha:a G S=a_ 6#2)(hb:b G S1=a_ 8#0):mFn Ah (aa a (aa b ah)) G S=a_ (.int (max x y:Nat),S2):=by
 refine cP ha hb ?_;show a_ _=_
 grind
theorem RX{S2:Sto}{b:ME}{x y:U}(ha:a G S=a_ (x,S1))(hb:b G S1=a_ (y,S2)):iS (aa a (aa b ah)) G S=a_ (.tup [x,y],S2):=by
 have W3:2<=big:=by decide
 simp[iS,aa,ah,ha,hb,aF,W3]
variable{n:Nat}
theorem Nl{most:Nat}(h:pq n S)(h6:6<=most)(h10:most<=24):∃m T a b S',l8 [.ref n,.int (most:Nat)] S=a_ (.tup [tab m T,.tup 13#4],S')/\Grp m T/\3<=m/\m<=most/\a<m/\b<m/\a<b/\Stp n S S':=by
 obtain⟨m0,T0,S1,e1,g0,hm0,ZG⟩:=KA (most:=most) h 0#0 0#0;have key:∃m T S2,sIf (cOf (m2 oLt (mFn cp 4#0) 7#1)) (bC 2 (mFn dO (aa (m2 eP 7#1 (mFn bA (aa 0#5 (aa (m2 vY 0#9 2#2) ah)))) ah))) dw [6#0,7#8,a_ (tab m0 T0),b_,b_,b_] S1=a_ (.nx,[6#0,7#8,1#2,b_,b_,b_],S2)/\Grp m T/\3<=m/\m<=most/\Stp n S S2:=by
  have ec:cOf (m2 oLt (mFn cp 4#0) 7#1) [6#0,7#8,a_ (tab m0 T0),b_,b_,b_] S1=a_ _:=of_eq (NT 11#8 c_i);by_cases ZQ:m0<3
  .obtain⟨r,S2,e2,hr,Zf⟩:=jT (m:=most-2) ZG.st 0#0 0#0
   obtain⟨S3,e3,x3⟩:=nX (n:=3+r) 9#3 (by unfold big;lia);refine⟨3+r,_,S3,?_,lJ 9#3,by lia,by lia,(ZG.trans Zf).step x3⟩;rw[show decide _=c_ by simp;lia]at ec;refine(tm ec).trans (bj (fK (add_n c_i (cP 0#1 (E6 0#1 c_i) ?_)) e3));rw[show((most-2:Nat):Int)=most-2 by lia]at e2;exact e2
  .rw[show decide _=d_ by simp;lia]at ec
   exact⟨m0,T0,S1,(kO ec).trans rfl,g0,by exact d5 0#4,hm0,ZG⟩
 obtain⟨m,T,S2,e2,g,hm3,hm,Zf⟩:=key;have hn:=h.lt;have hm24:m<=24:=by lia
 have ZD:m<big:=by exact aM 0#4 0#2
 have e3:iF (iR2 (aa 1#9 (aa (mFn cp 4#0) ah))) [6#0,7#8,1#2,b_,b_,b_] S2=a_ (.ref 10#1,S2++14#5):=by
  rw[yP rfl 11#8 15#1 (uG ZD) (by rw[md m (by exact xX 0#4)];simp[ax];exact aK 0#4 0#2),md m (by exact xX 0#4)]
 have ZE:Stp n S (S2++14#5):=Zf.step 3#4;have g3:(S2++14#5)[10#1]?=a_ _:=b9 _ _;obtain⟨r,S4,e4,hr,YU⟩:=jT (m:=m-1) ZE.st 0#0 0#0;have ZN:10#1≠n:=by have:=Zf.len;lia
 have g4:=YU.some ZN g3;have hlen:(ba 1 (m-1)).length=m-1:=by simp
 have l1:mFn cp (aa 0#8 ah) [6#0,7#8,1#2,a_ (.ref 10#1),b_,b_] (S2++14#5)=a_ (.int (m-1:Nat),S2++14#5):=by
  rw[tV 0#1 g3];simp[ax]
 have p1:=B8 (o:=ae 3) (a:=mFn _ (aa 0#5 _)) 0#1 (cP 0#1 l1 e4) g3 g4 (by rw[hlen];exact hr) 0#0;have Zj:Stp n S (S4.set _ 18#9):=(ZE.trans YU).set Zf.len ZN;have g5:(S4.set _ _)[10#1]?=a_ 18#9:=aV (ag.mp g4).1;have hle:((ba 1 (m-1)).eraseIdx r).length=m-2:=by rw[List.length_eraseIdx,if_pos (by rw[hlen];exact hr),hlen];lia
 obtain⟨q,S6,e6,hq,st6⟩:=jT (m:=m-2) Zj.st 0#0 0#0;have g6:=st6.some ZN g5;have va:(ba 1 _)[r]'(by rw[hlen];exact hr)<m:=by simp;lia
 have U':q<((ba 1 (m-1)).eraseIdx r).length:=by rw[hle];exact hq
 have vb:((ba 1 _).eraseIdx r)[q]'(U')<m:=by
  have ZI:=List.mem_of_mem_eraseIdx (bQ U');have:=(xt.mp ZI)
  lia
 have vne:(ba 1 _)[r]'(by rw[hlen];exact hr)≠((ba 1 _).eraseIdx r)[q]'(U'):=by
  obtain⟨i,hi,hir,e⟩:=List.mem_eraseIdx_iff_getElem.mp (bQ U');rw[<-e];simp;lia
 generalize hA:(ba 1 _)[r]'(by rw[hlen];exact hr)=A at va p1 vne;generalize hB:((ba 1 _).eraseIdx r)[q]'(U')=B at vb vne;have l2:mFn cp (aa 0#8 ah) [6#0,7#8,1#2,a_ (.ref 10#1),a_ (.int A),b_] (S4.set 10#1 18#9)=a_ (.int (m-2:Nat),S4.set 10#1 18#9):=by
  rw[tV 0#1 g5];simp only[ax,ar,hle]
 have i1:m2 oIx 0#8 (mFn bA (aa 0#5 (aa 8#4 ah))) [6#0,7#8,1#2,a_ (.ref 10#1),a_ (.int A),b_] (S4.set 10#1 18#9)=a_ (.int B,S6):=by
  refine BL 0#1 (cP 0#1 l2 e6) g6 (kR ?_);unfold ax;rw[a9,aC U',hB];rfl
 refine⟨m,T,min A B,max A B,S6,cK (G:= [6#0,7#8,1#2,a_ (.ref 10#1),a_ (.int A),a_ (.int B)]) rfl ?_,g,hm3,hm,by lia,by lia,by lia,Zj.trans st6⟩;exact(aL (bj 16#8)).trans ((aL e2).trans ((aL (bj e3)).trans ((aL (bj p1)).trans ((aL (bj i1)).trans (cz (RX 0#1 (RX (Vy 0#1 0#1) (Sk 0#1 0#1))))))))
theorem JE{x y:U}(ha:a G S=a_ (.tup [x,y],S1)):m2 oIx a 1#8 G S=a_ (x,S1):=BI ha rfl rfl
theorem Oi{x y:U}(ha:a G S=a_ (.tup [x,y],S1)):m2 oIx a 1#9 G S=a_ (y,S1):=BI ha rfl rfl
theorem ED(g:Grp m T){a b:Nat}(ha:a<m)(hb:b<m):oN [tab m T,.tup 13#4] S=a_ (.int (T a (unT m T b)),S):=
 cK rfl (cz (kH (j9 g hb).1 (jm ha 0#1 (JE 0#1)) (cP 0#1 (Oi 0#1) (yd g hb))))
def gU(m:Nat)(T:Nat->Nat->Nat)(t n:Nat):List 3#6:=((aq m).filter (pL T t n)).map λx=>srt (orb T t n x)
abbrev qH(ls:List 3#6):List U:=tups ls
theorem KN{t:Nat}:(gU m T t n).length<=m:=by
 unfold gU;rw[ar];exact aK (hZ _ _) 0#3
theorem yL{t k:Nat}:gU (k+1) T t n=gU k T t n++(if pL T t n k then [srt (orb T t n k)] else []):=by
 unfold gU;rw[eJ,List.filter_append,bL]
 grind
theorem IX{t k:Nat}(g:Grp m T)(ht:t<m)(hn:0<n)(h0:pw T t n=0)(hk:k<m):pL T t n k=c_ ↔ ¬∃x,x<k/\k∈orb T t n x:=by
 rw[kg];constructor
 .rintro h ⟨x,hx,hm⟩
  have:=h x (jM g ht hn h0 (by exact aY 2#3 2#3) hm)
  lia
 .intro h y hy
  refine d5 λZQ=>h ⟨y,ZQ,jM g ht hn h0 hk hy⟩
theorem Fe{T:Nat->Nat->Nat}{m t n:Nat}(g:Grp m T)(ht:t<m)(hn:0<n)(h0:pw T t n=0){r:Nat->List Nat}(hr:∀x,(r x).Perm (orb T t n x)):∀k,k<=m ->
  (∀y:Nat,y∈(sdF r k).2 ↔ ∃x,x<k/\y∈orb T t n x)/\(sdF r k).1=gU k T t n
 | 0,_=>⟨λy=>by
   constructor
   .intro h;simp[sdF]at h
   lia,rfl⟩
 | k+1,hk=>by
   obtain⟨i1,i2⟩:=Fe g ht hn h0 hr k 12#7;have WQ:=IX g ht hn h0 0#4;by_cases q:k∈(sdF r k).2
   .have e:sdF r (k+1)=sdF r k:=by rw[sdF,if_pos q]
    obtain⟨x0,hx0,hm0⟩:=(i1 k).mp q;have hf:pL T t n k=d_:=by
     cases w:pL T t n k<;>simp_all
    rw[e];refine⟨λy=>(i1 y).trans ⟨?_,?_⟩,?_⟩
    .rintro ⟨x,hx,hm⟩;exact⟨x,by exact dG 0#4,hm⟩
    .rintro ⟨x,hx,hm⟩
     by_cases hxk:x=k
     .subst hxk;exact⟨x0,hx0,lL g ht h0 (by exact aY 2#3 0#4) hm0 hm⟩
     grind
    .rw[i2,yL,hf];simp
   .have e:sdF r (k+1)=((sdF r k).1++[srt (r k)],(sdF r k).2++r k):=by rw[sdF,if_neg q]
    have hf:=WQ.mpr λh=>q ((i1 k).mpr h);rw[e];refine⟨λy=>?_,?_⟩
    .grind
    .rw[i2,yL,hf,oR (hr k)];simp
theorem RQ{t:Nat}(h:Rch T [t] x):∃i,x=pw T t i:=by
 induction h with
 |zero=>exact⟨0,rfl⟩
 | step _ hy ih=>
   obtain⟨i,rfl⟩:=ih;simp at hy;subst hy;exact⟨i+1,rfl⟩
theorem IU{T:Nat->Nat->Nat}{t:Nat}:∀i,Rch T [t] (pw T t i)
 |0=>.zero
 |i+1=>.step (IU i) 0#3
def pws(T:Nat->Nat->Nat)(t n:Nat):List Nat:=(aq n).map (pw T t)
theorem Ky{t:Nat}{ks:List Nat}(g:Grp m T)(ht:t<m)(hn0:1<=n)(h1:∀k,1<=k->k<n->pw T t k≠0)(h0:pw T t n=0)(d:Dfs m T [t] ks λ_=>False):ks.Perm (pws T t n):=by
 refine MX d.nd ?_ λx=>?_
 .unfold pws
  rw[ay,aW];refine bM ?_ (eF);intro a b ha hb ZU e;have hb:=aA.mp hb;exact h1 _ 0#0 0#0 (E2 g ht (by exact aI 0#0) e)
 .rw[d.all]
  constructor
  .intro h
   obtain⟨i,rfl⟩:=RQ h;refine aw.mpr ⟨i%n,aA.mpr (jx _ 0#4),?_⟩;have:∀q r,pw T t (n*q+r)=pw T t r:=λq=>by
    induction q with
    |zero=>simp_all
    |succ q ih=>intro r;rw[Nat.mul_succ,eU,ih,FE g ht h0]
   have e:=this (i/n) (i%n);rw[CJ]at e<;>simp_all
  .intro h
   obtain⟨i,_,rfl⟩:=aw.mp h;exact IU i
section
variable {m:Nat}{T:Nat->Nat->Nat}{t n:Nat}
theorem qO{S:Sto}(g:Grp m T)(hm:m<64){a b:Nat}(ha:a<m)(hb:b<m)(he:t=T a (unT m T b))(hn0:1<=n)(hn:n<64)(h1:∀k,1<=k->k<n->pw T t k≠0)(h0:pw T t n=0):
  ∃r S',k7 [tab m T,.tup 13#4] S=a_ (.ref r,S')/\Ex S S'/\0#7<=r/\S'[r]?=a_ (.lst (qH (gU m T t n))):=by
 have ht:t<m:=by rw[he];exact g.cl _ _ ha (j9 g hb).1
 obtain⟨ks,S1,e1,x1,d⟩:=TH (ths:= [t]) g hm (by simpa using ht);have hp:=Ky g ht hn0 h1 h0 d;obtain⟨S2,e2,x2,q2⟩:=L0 g hm (by rw[mL,hp.length_eq];simpa [pws]using hn) (λx hx=>d.lt x (fO.mp hx));have hs:Jt m T (srt ks) c_=gU m T t n:=by
  refine(Fe g ht 0#4 h0 (λx=>?_) m 2#1).2;show(rR _ _).Perm _;have:(rR (λo=>if c_=c_ then T x o else T o x) (srt ks))=(srt ks).map (T x):=by simp
  refine(((lB ks).trans hp).map (T x)).trans ?_;rw[show(pws T t n).map _=orb T t n x by simp[pws,orb,bq]]
 rw[hs]at q2;have et:=ED (S:=S) g ha hb;rw[<-he]at et;have e3:=LX (cP (a:=ae 0) (b:=ae 1) (G:= [a_ _,a_ _]) 0#1 0#1 et);exact⟨_,_,cK rfl (cz (cP (f:=my) (a:=ae 0) 0#1 (cP (f:=DV) (a:=ae 0) 0#1 e3 e1) e2)),x1.trans x2,x1.len,q2⟩
end
section
variable {m:Nat}{T:Nat->Nat->Nat}{t n:Nat}
end
section
variable {m:Nat}{T:Nat->Nat->Nat}{S:Sto}
def stp(a b c:Nat):Nat:=if c=0 then a else b
def dK(a b:Nat)(L:List 3#6)(c:List Nat):Nat->List (_L.Key×U)
 |0=>[]
 |k+1=>xP (dK a b L c k) (L.getD k []) (stp a b (c.getD k 0))
def sK(a b:Nat)(L:List 3#6)(c:List Nat):Nat->Nat->Option Nat
 |0,_=>b_
 |k+1,x=>if x∈L.getD k [] then a_ (stp a b (c.getD k 0)) else sK a b L c k x
theorem Kd{a b x:Nat}{L:List (List Nat)}{c:List Nat}:∀k,kc (dK a b L c k) 14#2=(sK a b L c k x).map λ(v:Nat)=>U.int (v:Nat)
 |0=>rfl
 | k+1=>by
   rw[dK,Cq,sK]
   split
   .rfl
   .exact Kd k
theorem Jr{a b:Nat}{L:List (List Nat)}{c:List Nat}(h:∀s∈L,s.length<=64):∀k,(dK a b L c k).length<=k*64
 |0=>bS _
 | k+1=>by
   have h1:=Jr (a:=a) (b:=b) (c:=c) h k;have h2:=wZ (v:=stp a b (c.getD k 0)) (xs:=L.getD k []) (D:=dK a b L c k);have h3:(L.getD k []).length<=64:=by
    rw[aP];cases q:L[k]? with
    |none=>simp
    |some s=>simpa using h s (bK q)
   rw[dK];lia
theorem wR{a b x y:Nat}{L:List (List Nat)}{c:List Nat}:∀k,sK a b L c k x=a_ y->y=a\/y=b
 |0,h=>by cases h
 | k+1,h=>by
   rw[sK]at h
   split at h
   .injection h with h
    rw[<-h];unfold stp;grind
   .exact wR k h
theorem Fz{a b x:Nat}{L:List (List Nat)}{c:List Nat}:∀k,(∃i,i<k/\x∈L.getD i [])->∃y,sK a b L c k x=a_ y
 |0,⟨i,h,_⟩=>by omega
 | k+1,⟨i,h,hx⟩=>by
   rw[sK];by_cases z:x∈L.getD k []
   .exact⟨_,if_pos z⟩
   .rw[if_neg z]
    refine Fz k ⟨i,?_,hx⟩;rcases oA.mp h with q|q<;>simp_all
theorem wg{a b x y:Nat}{L:List (List Nat)}{c:List Nat}(h:∀s∈L,x∈s↔y∈s):∀k,sK a b L c k x=sK a b L c k y
 |0=>rfl
 | k+1=>by
   have:x∈L.getD k []↔y∈L.getD k []:=by
    rw[aP];cases q:L[k]? with
    |none=>simp
    |some s=>simpa using h s (bK q)
   rw[sK,sK,wg h k]
   grind
def chF(a b:Nat)(L:List 3#6)(c:List Nat)(x:Nat):Nat:=(sK a b L c L.length x).getD 0
def goF(T:Nat->Nat->Nat)(ch:Nat->Nat)(x:Nat):Nat:=T x (ch x)
theorem Fh{t n x:Nat}(g:Grp m T)(ht:t<m)(hn:0<n)(h0:pw T t n=0)(hx:x<m):∃i,i<(gU m T t n).length/\x∈(gU m T t n).getD i []:=by
 have hself:x∈orb T t n x:=aw.mpr ⟨0,aA.mpr hn,g.r0 x hx⟩;obtain⟨y,hy,WQ⟩ :∃y∈orb T t n x,∀z∈orb T t n x,y<=z:=by
  have:∀(l:List Nat),l≠[]->∃y∈l,∀z∈l,y<=z:=by
   intro l hl
   induction l with
   |nil=>exact absurd rfl hl
   | cons w l ih=>
     by_cases YY:l=[]
     .simp_all
     grind
  exact this _ (List.ne_nil_of_mem hself)
 have YC:y<m:=by
  obtain⟨i,_,rfl⟩:=aw.mp hy;exact g.cl _ _ hx (gF g ht i)
 have Ys:=jM g ht hn h0 hx hy;have hmy:=kg.mpr λz hz=>WQ z (lL g ht h0 hx hy hz);have XF:srt _∈gU m T t n:=aw.mpr ⟨y,bw.mpr ⟨aA.mpr YC,hmy⟩,rfl⟩;obtain⟨i,hi,e⟩:=kM.mp XF;refine⟨i,hi,?_⟩;rw[aP,aC hi];rw[e];exact fO.mpr Ys
theorem BC{t n x:Nat}(g:Grp m T)(ht:t<m)(hn:0<n)(h0:pw T t n=0)(hx:x<m):∀s∈gU m T t n,T x t∈s↔x∈s:=by
 intro s hs;obtain⟨y,hy,rfl⟩:=aw.mp hs;have YC:=aA.mp (bw.mp hy).1;have hxt:T x t∈orb T t n x:=by
  by_cases h1:n=1
  .subst h1
   have:=by have:T 0 t=0:=h0;rwa[g.l0 t ht]at this
   subst this;exact aw.mpr ⟨0,by simp,rfl⟩
  .refine aw.mpr ⟨1,aA.mpr 0#0,?_⟩
   show T x (T 0 t)=T x t;rw[g.l0 t ht]
 rw[fO,fO];constructor
 .intro h
  exact lL g ht h0 YC h (jM g ht hn h0 hx hxt)
 .intro h
  exact lL g ht h0 YC h hxt
theorem EH{t n:Nat}(hn:n<=64):∀s∈gU m T t n,s.length<=64:=λs hs=>by
 obtain⟨y,_,rfl⟩:=aw.mp hs;rw[mL];simpa [orb]using hn
theorem PD{t n:Nat}(g:Grp m T)(ht:t<m):∀s∈gU m T t n,Lt m s:=λs hs x hx=>by
 obtain⟨y,hy,rfl⟩:=aw.mp hs;obtain⟨i,_,rfl⟩:=aw.mp (fO.mp hx);exact g.cl _ _ (aA.mp (bw.mp hy).1) (gF g ht i)
variable{c:List Nat}
theorem sJ{a b t n x:Nat}(g:Grp m T)(ht:t<m)(hn:0<n)(h0:pw T t n=0)(hx:x<m):sK a b (gU m T t n) c (gU m T t n).length x=a_ (chF a b (gU m T t n) c x):=by
 obtain⟨y,hy⟩:=Fz _ (Fh g ht hn h0 hx);unfold chF;rw[hy];rfl
theorem go_inj{a b n:Nat}(g:Grp m T)(ha:a<m)(hb:b<m)(hn:0<n)(h0:pw T (T a (unT m T b)) n=0):Inj m (goF T (chF a b (gU m T (T a (unT m T b)) n) c)):=by
 have hu:=hJ g hb;have ht:=g.cl _ _ ha hu;generalize hL:gU m T _ n=L;have val:∀x,x<m->chF a b L c x=a\/chF a b L c x=b:=λx hx=>by
  have:=sJ (a:=a) (b:=b) (c:=c) g ht hn h0 hx;rw[hL]at this;exact wR _ this
 have same:∀x,x<m->chF a b L c _=chF a b L c x:=λx hx=>by
  unfold chF;rw[wg (λs hs=>BC g ht hn h0 hx s (hL▸hs))]
 have lt:∀x,x<m->chF a b L c x<m:=λx hx=>by rcases val x hx with e |e<;>rw[e]<;>assumption
 have key:∀x y,x<m->y<m->T x a=T y b->y=T x _:=λx y hx hy e=>by
  rw[<-g.as x a _ hx ha hu,e,g.as y b _ hy hb hu,LV g hb,g.r0 y hy]
 refine⟨λx hx=>g.cl _ _ hx (lt x hx),λx y hx hy e=>?_⟩;unfold goF at e;by_cases hc:chF a b L c x=chF a b L c y
 .rw[hc]at e
  exact g.cancelR (lt y hy) hx hy e
 .rcases val x hx with e1|e1<;>rcases val y hy with e2|e2
  .grind
  .rw[e1,e2]at e
   have h:=same x hx;rw[<-key x y hx hy e]at h<;>simp_all
  .rw[e1,e2]at e
   have h:=same y hy;rw[<-key y x hy hx e.symm]at h;exact absurd h hc
  grind
theorem yp{g:MG}{b:MS}{n:Nat}{us:List U}(xs:List U)(hlen:1#3=1#4)(P:Nat->Rho->Sto->Prop)(hl:∀k G S,P k G S->getL S n=a_ xs)
  (st:∀(k:Nat) (x y:U) (G:Rho) (S:Sto),xs[k]?=a_ x->us[k]?=a_ y->P k G S->∃Y4 S1 Y5 S',g (.tup [x,y]) G S=a_ (Y4,S1)/\b Y4 S1=a_ 6#7/\P (k+1) Y5 S'):
  ∀(f k:Nat) (G:Rho) (S:Sto),k<=1#4->1#4-k<f->P k G S->∃Y5 S',tJ g b n us f k G S=a_ 6#7/\P xs.length Y5 S'
 |0,k,G,S,h1,h2,_=>by lia
 | f+1,k,G,S,h1,h2,hp=>by
   unfold tJ;rw[hl k G S hp];simp;by_cases hk:k<1#4
   .have hu:xs[k]?=a_ xs[k]:=by simp
    have hv:us[k]?=a_ us[k]:=by simp
    obtain⟨G',S0,Y4,S1,e0,e1,p1⟩:=st k _ _ G S hu hv hp;obtain⟨X0,S2,e2,p2⟩:=yp xs hlen P hl st f _ _ S1 0#4 0#0 p1;refine⟨_,S2,?_,p2⟩;simp[hu,hv,e0,aft,e1,e2]
   grind
def zgM(F:MF):MS:=aX (bC 3 nN) (aX (tX (gTp 2 (h9 (gN 4) (h9 (gN 5) tY))) (Cm (aa (mFn F 5#2) 4#0)) 25#4) (cb 0#8))
theorem QH{F:MF}{a b:Nat}{L:List (List Nat)}{c:List Nat}{tb:U}(hF:∀S,∃r S',F [tb,.tup 13#4] S=a_ (.ref r,S')/\Ex S S'/\S'[r]?=a_ (.lst (qH L)))(hL:∀s∈L,s.length<=64)(hl:3#0<64)(hc:c.length=3#0)(XT:∀x∈c,x<2):
  ∃d S',_G.run 3 7 (zgM F) [tb,.tup 13#4,.tup (ax c)] S=a_ (.ref d,S')/\Ex S S'/\S'[d]?=a_ (.dic (dK a b L c 3#0)):=by
 obtain⟨r,S1,e1,x1,g1⟩:=hF (S++[Cell.dic []]);have d1:=x1.some 5#8;have hrd:r≠0#7:=λz=>by grind
 have hz:(qH L).length=3#0:=by simp[tups]
 obtain⟨X0,S2,e2,⟨u4,u5,u6,rfl⟩,x2,q2,r2⟩:=yp (g:=gTp 2 (h9 (gN 4) (h9 (gN 5) tY))) (qH L) (by rw[cn,hz,hc])
  (λk G S'=>(∃u4 u5 u6,G = [a_ tb,10#3,9#2,2#5,u4,u5,u6])/\Ex S S'/\S'[S.length]? = a_ (.dic (dK a b L c k))/\S'[r]? = a_ _) (λk G S' hp=>by unfold getL;rw[hp.2.2.2]) (by
   rintro k x y G S' hx hy ⟨⟨u4,u5,u6,rfl⟩,xs,qs,rs⟩;have hk:=by have:=(ag.mp hx).1;omega
   have hx':x=.tup (ax (L.getD k [])):=by
    unfold qH tups at hx<;>simp_all
   subst hx';have hkc:k<c.length:=by lia
   have Yf:y=.int (c.getD k 0):=by
    unfold ax at hy<;>simp_all
   subst Yf;have YN:c.getD k 0<2:=by simp_all
   have hsl:(L.getD k []).length<=64:=by simp_all
   have Yq:=Jr (a:=a) (b:=b) (c:=c) hL k;generalize hsd:L.getD k []=sd at *;have hv:∀(z:Option U) (S':Sto),m2 oIx 0#9 (ae 5) [a_ tb,10#3,9#2,2#5,a_ (.tup (ax sd)),a_ (.int (c.getD k 0)),z] S'=a_ (.int (stp a b (c.getD k 0)),S'):=λz S'=>by
    generalize c.getD k 0=cc at YN;rcases oA.mp YN with q|q
    .have:cc=0:=by lia
     subst this;rfl
    .subst q;rfl
   obtain⟨X7,S3,e3,⟨u6',rfl⟩,x3,q3,r3⟩:=sy (i:=6) (e:=ae 4) 0#1
    (λj G S3=>(∃z,G=[a_ tb,10#3,9#2,2#5,a_ (.tup (ax sd)),a_ (.int (c.getD k 0)),z])/\Ex S S3/\S3[0#7]?=a_ (.dic (xP (dK a b L c k) (sd.take j) (stp a b (c.getD k 0))))/\S3[r]?=a_ _)
    ⟨⟨_,rfl⟩,xs,by simpa [xP]using qs,rs⟩ (by
     rintro j u G S3 hu ⟨⟨z,rfl⟩,x3,q3,r3⟩;obtain⟨w,hw,rfl⟩:=kD hu;have ZL:=wZ (v:=stp a b (c.getD k 0)) (xs:=sd.take j) (D:=dK a b L c k);have htl:(sd.take j).length<=64:=by rw[c6];lia
     have:=OC (G:= [a_ tb,a_ _,a_ _,a_ _,a_ _,a_ _,a_ (.int w)]) (o:=ae 3) (i:=ae 6) (hv _ S3) 0#1 0#1 q3 (by
      unfold big;lia)
     refine⟨_,_,this,⟨_,rfl⟩,x3.set 2#1,?_,?_⟩
     .rw[aV (ag.mp q3).1,fk,hw]
      simp[xP]
     ·rw[aN (λz=>hrd z.symm)];omega)
   rw[cn,cR 2#1]at q3;refine⟨_,_,_,S3,rfl,e3,⟨_,_,_,rfl⟩,x3,?_,r3⟩
   rw[dK,hsd];omega) fuel 0 _ S1 (bS _) (by rw[hz];exact ai (by omega) (by decide)) ⟨⟨_,_,_,rfl⟩,(Ex.push _ _).trans x1,d1,g1⟩
 rw[hz]at q2;have hi:Cm (aa (mFn F 5#2) 4#0) [a_ tb,10#3,9#2,2#5,b_,b_,b_] (S++[Cell.dic []])=a_ (.zlt r (ax c),S1):=by
  have h1:=mc (cP (a:=ae 0) (b:=ae 1) (G:= [a_ tb,a_ _,9#2,2#5,b_,b_,b_]) 0#1 0#1 e1) (mc (a:=ae 2) 0#1 (show ah _ _=_ from rfl));have h2:getL S1 r=a_ (qH L):=by unfold getL;rw[g1]
  simp[Cm,h1,aF,h2,dr]
 have ef:tX (gTp 2 (h9 (gN 4) (h9 (gN 5) tY))) (Cm (aa (mFn F 5#2) 4#0)) 25#4 [a_ tb,10#3,9#2,2#5,b_,b_,b_] (S++[Cell.dic []])=a_ (.nx,[a_ tb,10#3,9#2,2#5,u4,u5,u6],S2):=by
  unfold tX;rw[hi];exact e2
 exact⟨_,S2,cK rfl ((aL (bj rfl)).trans ((aL ef).trans (cz 0#1))),x2,q2⟩
end
section
variable {m:Nat}{T:Nat->Nat->Nat}{S:Sto}{D:List (_L.Key×U)}{ch:Nat->Nat}
structure Cho(m:Nat)(T:Nat->Nat->Nat)(D:List (_L.Key×U))(ch:Nat->Nat):Prop where
 val:∀x,x<m->kc D (.inl ((x:Nat):Int))=a_ (.int (ch x:Nat))
 lt:∀x,x<m->ch x<m
 inj:Inj m (goF T ch)
theorem LO{c c':Cell}:(S++[c]).set S.length c'=S++[c']:=by
 grind
theorem OF{G:Rho}{e:ME}{d y:Nat}(C:Cho m T D ch)(h0:ae 0 G S=a_ (tab m T,S))(h1:ae 1 G S=a_ (.ref d,S))(hd:S[d]?=a_ (.dic D))(hy:y<m)(he:e G S=a_ (.int (y:Nat),S)):m2 oIx (m2 oIx 0#5 e) (m2 oIx 0#9 e) G S=a_ (.int (goF T ch y:Nat),S):=
 kH (C.lt y hy) (jm hy h0 he) (Qe h1 he hd (C.val y hy))
def rfB:MS:=aX (eG (mML de 0#8 5#3)) (bC 4 (m2 oIx (m2 oIx 0#5 (ae 4)) (m2 oIx 0#9 (ae 4))))
theorem Ov{d x:Nat}(C:Cho m T D ch)(hm:m<64)(hd:S[d]?=a_ (.dic D))(hx:x<m):kZ [tab m T,.ref d,.int (x:Nat)] S=a_ (.tup (ax (rg m 3#1 x)),S++[.lst (ax (rg m 3#1 x))]):=by
 obtain⟨p1,p2,p3,p4⟩:=iy C.inj hx;unfold rg;generalize hn:gh m 3#1 x=n at p1 p2 p3 p4;obtain⟨Y4,S1,e1,rfl,rfl⟩:=uK (b:=rfB) (λμ G S'=>∃j,1<=j/\j<=n/\μ=n-j/\G=[1#2,a_ (.ref d),a_ (.int (x:Nat)),2#5,a_ (.int (itF 3#1 j x:Nat))]/\S'=S++[.lst (ax (rgK 3#1 x j))])
  (λG S'=>G = [1#2,a_ (.ref d),a_ (.int (x:Nat)),2#5,a_ (.int (itF 3#1 n x:Nat))]/\S'=S++[.lst (ax (rgK 3#1 x n))]) (by
  rintro μ G S' ⟨j,j1,j2,rfl,rfl,rfl⟩;have ec:=of_eq (Hb (G:= [1#2,a_ (.ref d),a_ (.int (x:Nat)),2#5,a_ _]) (S:=S++[.lst (ax (rgK 3#1 x j))]) (a:=ae 4) (b:=ae 2) (x:=itF 3#1 j x) (y:=x) 0#1 0#1);refine⟨_,_,ec,λhf=>?_,λhf=>?_⟩
  .have ZI:=by simpa using hf
   have:j=n:=by
    apply iu;intro z;exact p4 j j1 (by exact bH 0#4 0#4) ZI
   subst this;exact⟨rfl,rfl⟩
  .have ZI:=by simpa using hf
   have hj:j<n:=by
    apply iu;intro z;have:j=n:=by lia
    subst this;exact ZI p3
   have ea:=append_eq (G:= [1#2,a_ (.ref d),a_ (.int (x:Nat)),2#5,a_ (.int (itF 3#1 j x:Nat))]) (S:=S++[.lst (ax (rgK 3#1 x j))]) (o:=ae 3) (a:=ae 4) 0#1 0#1 5#8 5#8 (by rw[cn,Fi];unfold big;lia);have hs:(S++[Cell.lst (ax (rgK 3#1 x j))]).set S.length (.lst (ax (rgK 3#1 x j)++[.int (itF 3#1 j x:Nat)]))=S++[.lst (ax (rgK 3#1 x (j+1)))]:=by
    rw[LO,qJ];simp[ax]
   rw[hs]at ea;have XS:(S++[Cell.lst (ax (rgK 3#1 x (j+1)))])[d]?=a_ (.dic D):=(Ex.push _ _).some hd
   refine⟨_,_,n - (j+1),by lia,(aL ea).trans (bj (OF C rfl rfl XS (jn C.inj hx j) (var_eq rfl))),j+1,by exact dG (by assumption),by assumption,rfl,rfl,rfl⟩) fuel (n - 1) _ (S++[.lst (ax [x])]) (by unfold fuel;lia) ⟨1,ak _,p1,rfl,rfl,rfl⟩
 refine cK (G:= [1#2,a_ (.ref d),a_ (.int (x:Nat)),2#5,a_ (.int (itF 3#1 n x:Nat))]) rfl ?_;have XS:(S++[Cell.lst [U.int (x:Nat)]])[d]?=a_ (.dic D):=(Ex.push _ _).some hd;exact(aL (bj (EV 0#1))).trans ((aL (bj (OF C rfl rfl XS hx 0#1))).trans ((aL e1).trans (cz (kl 0#1 5#8))))
end
section
variable {m:Nat}{T:Nat->Nat->Nat}{S:Sto}{a b p:Nat}{c:List Nat}
abbrev tOf(m:Nat)(T:Nat->Nat->Nat)(a b:Nat):Nat:=T a (unT m T b)
abbrev lOf(m:Nat)(T:Nat->Nat->Nat)(a b p:Nat):List 3#6:=gU m T 3#8 p
abbrev dQ(m:Nat)(T:Nat->Nat->Nat)(a b p:Nat)(c:List Nat):Nat->Nat:=chF a b (lOf m T a b p) c
abbrev rOf(m:Nat)(T:Nat->Nat->Nat)(a b p:Nat)(c:List Nat):Nat->List Nat:=rg m 5#4
abbrev dOf(m:Nat)(T:Nat->Nat->Nat)(a b p:Nat)(c:List Nat):List (_L.Key×U):=dK a b (lOf m T a b p) c (lOf m T a b p).length
structure Two(m:Nat)(T:Nat->Nat->Nat)(a b p:Nat)(c:List Nat):Prop where
 g:Grp m T
 hm:m<60
 ha:a<m
 hb:b<m
 n0:1<=p
 n:p<60
 h1:∀k,1<=k->k<p->pw T (tOf m T a b) k≠0
 h0:pw T (tOf m T a b) p=0
 cl:c.length=(lOf m T a b p).length
 c2:∀x∈c,x<2
theorem Two.cho(w:Two m T a b p c):Cho m T (dOf m T a b p c) (dQ m T a b p c):=by
 have ht:=w.g.cl _ _ w.ha (hJ w.g w.hb);have hv:∀x,x<m->sK a b _ c _ x=a_ (dQ m T a b p c x):=λx hx=>sJ w.g ht w.n0 w.h0 hx;refine⟨λx hx=>?_,λx hx=>?_,go_inj w.g w.ha w.hb w.n0 w.h0⟩
 .rw[Kd,hv x hx];rfl
 .rcases wR _ (hv x hx) with e|e
  .rw[e];exact w.ha
  .rw[e];exact w.hb
theorem Two.len(w:Two m T a b p c):(lOf m T a b p).length<60:=aM KN w.hm
theorem yr(w:Two m T a b p c):∃d S',i9 22#5 S=a_ (.ref d,S')/\Ex S S'/\S'[d]?=a_ (.dic (dOf m T a b p c)):=
 QH (λS=>by
  obtain⟨r,S',e,x,_,q⟩:=qO w.g (by have:=w.hm;exact ai 2#3 0#2) w.ha w.hb rfl w.n0 (by have:=w.n;exact ai 2#3 0#2) w.h1 w.h0
  exact⟨r,S',e,x,q⟩) (EH (by have:=w.n;lia)) (by have:=w.len;exact ai (by omega) (by decide)) w.cl w.c2
theorem I9{G:Rho}{e:ME}{d i j:Nat}{l:List Nat}(w:Two m T a b p c)(he:e G S=a_ (.tup (ax l),S))(hl:Lt m l)(hll:2#8<1000)(hd:S[d]?=a_ (.dic (dOf m T a b p c)))(hi:∀z,(G++[z])[i]?=a_ (a_ (.ref d)))(hj:∀z,(G++[z])[j]?=a_ z):mFn bN (aa (bW (dh e) cTT (m2 oIx (ae i) (ae j))) ah) G S=a_ (.tup (ax (l.map (dQ m T a b p c))),S++[.lst (ax (l.map (dQ m T a b p c)))]):=by
 have h:=nJ he 12#6 (λx hx=>Qe (var_eq (hi _)) (var_eq (hj _)) hd (w.cho.val x (hl x hx)));rw[show(l.map _)=ax (l.map (dQ m T a b p c)) by simp[ax]]at h;exact fo h
theorem zK(w:Two m T a b p c):∃S',iK 22#5 S=a_ (if gh m 5#4 0=m then .tup 21#0 else .non,S')/\Ex S S':=by
 obtain⟨d,S1,e1,x1,g1⟩:=yr w;have C:=w.cho;have hm:=w.hm;have hp:=w.g.pos;have e2:=Ov C 12#6 g1 hp;have g2:(S1++[Cell.lst (ax (rOf m T a b p c 0))])[d]?=a_ _:=(Ex.push _ _).some g1;have x2:Ex S (S1++[Cell.lst (ax (rOf m T a b p c 0))]):=x1.trans 3#4;generalize hS2:S1++[Cell.lst _]=S2 at e2 g2 x2;have hl:=by
  have:=A8 (G:= 24#3) (S:=S2) (a:=ae 4) 0#1;rwa[cn,mw]at this
 have ec:=of_eq (Hl (b:=mFn _ (aa 0#5 _)) hl 11#8);have et:=I9 (G:= [1#2,10#3,9#2,a_ _,a_ _]) (e:=ae 4) (i:=3) (j:=5) w 0#1 (KF C.inj hp) (by rw[mw];have:=DT C.inj hp;exact aM 2#3 (ai 2#3 0#2)) g2 (λ_=>rfl) (λ_=>rfl);by_cases z:gh m 5#4 0=m
 .rw[decide_eq_true z]at ec
  have ei:Bp (cOf (m2 oEq (mFn cp 5#3) 7#7)) 25#3 8#2 24#3 S2=a_ (.tup 21#0,S2++[.lst 21#0]):=by
   simp[Bp,ec];exact et
  rw[if_pos z];exact⟨_,cK rfl ((aL (bj (kE 0#1 0#1 0#1 e1))).trans ((aL (bj (kE 0#1 0#1 (c_i) e2))).trans (cz ei))),x2.trans 3#4⟩
 .rw[decide_eq_false z]at ec
  have ei:Bp (cOf (m2 oEq (mFn cp 5#3) 7#7)) 25#3 8#2 24#3 S2=a_ (.non,S2):=by
   simp[Bp,ec];rfl
  rw[if_neg z];exact⟨_,cK rfl ((aL (bj (kE 0#1 0#1 0#1 e1))).trans ((aL (bj (kE 0#1 0#1 (c_i) e2))).trans (cz ei))),x2⟩
end
variable{j:Nat}
theorem Iy{l:List Nat}(nd:l.Nodup)(hi:i<2#8)(hj:j<2#8)(e:l[i]=l[j]):i=j:=by
 have h:=dj.mp (ay.mp nd);rcases ng i j with q|q|q
 .simp_all
 .omega
 .exact absurd e.symm (h j i hj hi q)
section
variable {m:Nat}{T:Nat->Nat->Nat}{st:List Nat}
theorem OD{f:Nat->Nat}(h:Inj m f)(hp:0<m)(hm:gh m f 0=m){i j:Nat}(YH:i<j)(hj:j<m):itF f i 0≠itF f j 0:=λe=>by
 have q:=(iy h hp).2.2.2;rw[show j=i+(j-i) by lia,kX]at e;exact q _ 0#0 0#0 (uy h hp (jn h hp _) i e).symm
theorem KM(g:Grp m T){ch:Nat->Nat}(h:Inj m 3#1)(hv:∀x,x<m->ch x∈st)(hs:∀s∈st,s<m)(hm:gh m 3#1 0=m):∀(k i:Nat) (left:List Nat),i+k+1=m->(∀y,y∈left ↔ ∃j,i<j/\j<m/\y=itF 3#1 j 0) ->
  (ba i (k+1)).map (λj=>ch (itF 3#1 j 0))∈rV T st (rm m T st) k (itF 3#1 i 0) left
 | 0,i,left,hi,hl=>by
   have hx:=jn h g.pos i;have e:=by
    have:=(iy h g.pos).2.2.1;rw[hm,show m=i+1 by lia]at this;omega
   have hc:=hv _ hx;have e2:=Ew g hx (hs _ hc) e;unfold rV rm
   simp_all
 | k+1,i,left,hi,hl=>by
   have hx:=jn h g.pos i;have hc:=hv _ hx;have ZI:=(hl _).mpr ⟨_,bV _,by lia,rfl⟩;refine kj.mpr ⟨_,bw.mpr ⟨hc,decide_eq_true ZI⟩,?_⟩;refine aw.mpr ⟨(ba (i+1) (k+1)).map (λj=>ch (itF 3#1 j 0)),?_,?_⟩
   .refine KM g h hv hs hm k _ _ 0#0 λy=>?_
    rw[bw,hl y];constructor
    .rintro ⟨⟨j,j1,j2,rfl⟩,ZN⟩
     refine⟨j,?_,j2,rfl⟩;rcases fI j1 with q|q
     .omega
     .rw[<-q]at ZN
      rw[show itF _ _ 0=T _ _ from rfl]at ZN<;>simp_all
    .rintro ⟨j,j1,j2,rfl⟩
     refine⟨⟨j,by lia,j2,rfl⟩,?_⟩;have:=OD h g.pos hm j1 j2;have:itF _ j 0≠T _ _:=λz=>this z.symm<;>simp_all
   .rfl
variable{ch:Nat->Nat}
theorem Fc(g:Grp m T)(h:Inj m 3#1)(hv:∀x,x<m->ch x∈st)(hs:∀s∈st,s<m)(hm:gh m 3#1 0=m):(rg m 3#1 0).map ch∈gJ m T st:=by
 have hp:=g.pos;have:=KM g h hv hs hm (m-1) 0 (ba 1 (m-1)) 0#0 λy=>by
  rw[xt];constructor
  .intro hy
   have:=(uB h hp).mp hm y 0#0;obtain⟨j,hj,rfl⟩:=aw.mp this;rw[hm]at hj;refine⟨j,?_,aA.mp hj,rfl⟩;cases j with
   |zero=>have h0:itF 3#1 0 0=0:=rfl;lia
   |succ j=>exact Nat.succ_pos _
  .rintro ⟨j,j1,j2,rfl⟩
   have h1:=jn h hp j;have h2:=OD h hp hm j1 j2;have h0:itF 3#1 0 0=0:=rfl
   lia
 rw[mS hp,<-rQ]at this;unfold rg rgK;rw[hm,bq];exact this
def trl(T:Nat->Nat->Nat):Nat->List Nat->List Nat
 |h,[]=>[h]
 |h,s::w=>h::trl T (T h s) w
theorem E9:∀(w:List Nat) (h:Nat),(trl T h w).length=4#6+1
 |[],h=>rfl
 |s::w,h=>by simp[trl,E9 w]
variable{w:List Nat}
theorem Oj{h:Nat}:(trl T h w).getD 0 0=h:=by cases w<;>rfl
theorem Cg:∀(w:List Nat) (h i:Nat),i<4#6->(trl T h w).getD (i+1) 0=T ((trl T h w).getD i 0) (w.getD i 0)
 |[],h,i,hi=>by simp at hi
 | s::w,h,0,hi=>by
   show(trl T _ w).getD 0 0=_;rw[Oj];rfl
 | s::w,h,i+1,hi=>by
   have:=Cg w (T h s) i (by simpa using hi);exact this
theorem Kb(g:Grp m T)(hs:∀s∈st,s<m):∀(k h:Nat) (left w:List Nat),h<m->w∈rV T st (rm m T st) k h left->4#6=k+1/\(∀s∈w,s∈st) /\ ∃l:List Nat,trl T h w=h::l++[0]/\l.Nodup/\(∀x∈l,x∈left)
 | 0,h,left,w,hh,e=>by
   unfold rV rm at e;by_cases z:unT m T h∈st
   .rw[if_pos z]at e
    simp at e;subst e;refine⟨rfl,by simpa using z,[],?_,by simp,by simp⟩;simp[trl,LV g hh]
   simp_all
 | k+1,h,left,w,hh,e=>by
   obtain⟨s,YE,e⟩:=kj.mp e;obtain⟨v,hv,rfl⟩:=aw.mp e;obtain⟨s1,s2⟩:=bw.mp YE;obtain⟨i1,i2,l,i3,i4,i5⟩:=Kb g hs k _ _ v (g.cl _ _ hh (hs s s1)) hv;refine⟨by simp[i1],?_,T h s::l,?_,?_,?_⟩
   .grind
   .show h::trl T _ v=_<;>simp_all
   .grind
   grind
structure Rdw(m:Nat)(T:Nat->Nat->Nat)(st w:List Nat)(x:Nat->Nat):Prop where
 len:w.length=m
 st:∀i,i<m->w.getD i 0∈st
 z:x 0=0
 e:x m=0
 step:∀i,i<m->x (i+1)=T (x i) (w.getD i 0)
 inj:∀i j,i<m->j<m->x i=x j->i=j
 sur:∀y,y<m->∃i,i<m/\x i=y
 lt:∀i,i<m->x i<m
theorem Ej(g:Grp m T)(hs:∀s∈st,s<m)(hw:w∈gJ m T st):∃x,Rdw m T st w x:=by
 have hp:=g.pos;obtain⟨h1,h2,l,h3,h4,h5⟩:=Kb g hs _ 0 _ w hp hw;rw[mS hp]at h1;have hl:=by
  have:=congrArg eV h3;rw[E9]at this;simp at this;omega
 have n0:0∉l:=λz=>by grind
 have nd:=eh.mpr ⟨n0,h4⟩;have lt:∀y∈(0::l),y<m:=λy hy=>by
  grind
 have al:All m _:=⟨nd,lt,by simp;omega⟩;have ll:(0::l).length=m:=by simp;omega
 have gx:∀i (hi:i<m),(trl T 0 w).getD i 0=(0::l)[i]'(by rw[ll];omega):=λi hi=>by
  rw[h3,aP,aT (by rw[ll];omega),aC _];rfl
 refine⟨λi=>(trl T 0 w).getD i 0,h1,λi hi=>?_,Oj,?_,λi hi=>Cg w 0 i 0#0,λi j hi hj e=>?_,λy hy=>?_,λi hi=>?_⟩
 .simp_all
 .rw[h3,aP,bo 5#6,ll]
  simp
 .rw[gx i hi,gx j hj]at e
  exact Iy nd _ _ e
 .obtain⟨i,hi,e⟩:=kM.mp (al.mem hy)
  have ZP:=by rw[ll]at hi;exact hi
  exact⟨i,ZP,(gx i ZP).trans e⟩
 .rw[gx i hi]
  exact lt _ (bQ _)
variable{x:Nat->Nat}
theorem Rdw.fn(r:Rdw m T st w x):∃σ:Nat->Nat,∀i,i<m->σ (x i)=w.getD i 0:=by
 refine⟨λy=>w.getD (((aq m).find? λi=>decide (x i=y)).getD 0) 0,λi hi=>?_⟩;show w.getD _ 0=_;cases q:(aq m).find? _ with
 | none=>
   have:=uV.mp q i (aA.mpr hi);simp at this
 | some j=>
   have h1:=List.find?_some q;have h2:=aA.mp (List.mem_of_find?_eq_some q);rw[r.inj j i h2 hi (of_decide_eq_true h1)];rfl
theorem Rdw.same(r:Rdw m T st w x)(hp:0<m)(hc:∀i,i<m->ch (x i)=w.getD i 0):Inj m 3#1/\gh m 3#1 0=m/\(rg m 3#1 0).map ch=w:=by
 have ZG:∀i,i<m->goF T ch _=x _:=λi hi=>by unfold goF;rw[hc i hi,<-r.step i hi]
 have lt1:∀i,i<=m->x i<m:=λi hi=>by
  rcases fI hi with q|q
  .exact r.lt i q
  .rw[q,r.e];exact hp
 have I:Inj m 3#1:=by
  refine⟨λy hy=>?_,λy z hy hz e=>?_⟩
  .obtain⟨i,hi,rfl⟩:=r.sur y hy
   rw[ZG i hi];exact lt1 _ hi
  .obtain⟨i,hi,rfl⟩:=r.sur y hy
   obtain⟨j,hj,rfl⟩:=r.sur z hz;rw[ZG i hi,ZG j hj]at e;rcases fI (show i+1<=m from hi) with q1|q1
   .rcases fI (show j+1<=m from hj) with q2|q2
    .rw[show i=j by have:=r.inj _ _ q1 q2 e;lia]
    .rw[q2,r.e,<-r.z]at e
     have:=r.inj _ _ q1 hp e
     lia
   .rcases fI (hj) with q2|q2
    .rw[q1,r.e,<-r.z]at e
     have:=r.inj _ _ hp q2 e
     lia
    .rw[show i=j by lia]
 have it:∀i,i<=m->itF 3#1 i 0=x i:=by
  intro i
  induction i with
  |zero=>intro _;exact r.z.symm
  | succ i ih=>
    intro hi;show goF T ch _=_;rw[ih 0#0,ZG i hi]
 obtain⟨p1,p2,p3,p4⟩:=iy I hp;have hper:gh m 3#1 0=m:=by
  rcases fI p2 with q|q
  .rw[it _ p2]at p3
   have:=r.inj _ _ q hp (p3.trans r.z.symm)
   lia
  .exact q
 refine⟨I,hper,?_⟩;unfold rg rgK;rw[hper,bq];refine oZ (by simp[r.len]) λi h1 h2=>?_;have hi:=by simpa using h1
 rw[gy,List.getElem_range];show ch (itF _ i 0)=_;rw[it i (aI hi),hc i hi,aP,aC h2];rfl
end
section
variable {m:Nat}{T:Nat->Nat->Nat}{a b n:Nat}
variable{y:Nat}
theorem DE(g:Grp m T)(ha:a<m)(hb:b<m)(hy:y<m):T (T y (T a (unT m T b))) b=T y a:=by
 have hu:=hJ g hb;rw[g.as y _ _ hy (g.cl _ _ ha hu) hb,g.as a _ _ ha hu hb,Pu g hb,g.r0 a ha]
variable{σ:Nat->Nat}
theorem JK(g:Grp m T)(ha:a<m)(hb:b<m)(ZU:a≠b)(I:Inj m (goF T σ))(hv:∀x,x<m->σ x=a\/σ x=b)(hy:y<m)(e:σ y=a):∀i,σ (T y (pw T 3#8 i))=a:=by
 have ht:=g.cl _ _ ha (hJ g hb);have one:∀z,z<m->σ z=a->σ _=a:=λz hz e=>by
  have hz2:=g.cl _ _ hz ht;rcases hv _ hz2 with q|q
  .omega
  .have e2:goF T σ (T z 3#8)=goF T σ z:=by
    unfold goF;rw[q,e];exact DE g ha hb hz
   have e3:=I.inj _ _ hz2 hz e2<;>simp_all
 intro i
 induction i with
 |zero=>show σ (T y 0)=a;rw[g.r0 y hy];omega
 | succ i ih=>
   rw[<-qL g ht hy i];exact one _ (g.cl _ _ hy (gF g ht i)) ih
theorem Mq(g:Grp m T)(ha:a<m)(hb:b<m)(ZU:a≠b)(hn:0<n)(h0:pw T 3#8 n=0)(I:Inj m (goF T σ))(hv:∀x,x<m->σ x=a\/σ x=b){z:Nat}(hy:y<m)(hz:z∈orb T 3#8 n y):σ y=σ z:=by
 have ht:=g.cl _ _ ha (hJ g hb);have hzm:=Pr g ht hy hz;have hs:=jM g ht hn h0 hy hz;obtain⟨i,_,hi⟩:=iD.mp hz;obtain⟨j,_,hj⟩:=iD.mp hs;rcases hv y hy with q1|q1
 .have:=JK g ha hb ZU I hv hy q1 i
  rw[q1,hi,this]
 .rcases hv z hzm with q2|q2
  .have:=JK g ha hb ZU I hv hzm q2 j
   rw[<-hj,q1]at this<;>simp_all
  .rw[q1,q2]
theorem Ab{x y:Nat}{L:List (List Nat)}{c:List Nat}:∀k,sK a b L c k x=a_ y->∃i,i<k/\x∈L.getD i []/\y=stp a b (c.getD i 0)
 |0,h=>by cases h
 | k+1,h=>by
   rw[sK]at h;by_cases z:x∈L.getD k []
   .rw[if_pos z]at h
    injection h with h
    exact⟨k,bV _,z,h.symm⟩
   .rw[if_neg z]at h
    obtain⟨i,h1,h2,h3⟩:=Ab k h<;>grind
abbrev mnL(m:Nat)(T:Nat->Nat->Nat)(t n:Nat):List Nat:=(aq m).filter (pL T t n)
theorem Ko{t:Nat}:(mnL m T t n).Nodup:=List.nodup_range.filter _
theorem rX{t:Nat}:(gU m T t n).length=(mnL m T t n).length:=by unfold gU;grind
variable{i:Nat}
theorem wD{t:Nat}(hi:i<(gU m T t n).length):(gU m T t n).getD i []=srt (orb T t n ((mnL m T t n)[i]'(by rw[<-rX];exact hi))):=by
 rw[aP,aC hi];exact gy _
theorem zF{t:Nat}(hi:i<(mnL m T t n).length):(mnL m T t n)[i]<m/\pL T t n (mnL m T t n)[i]=c_:=by
 obtain⟨h1,h2⟩:=bw.mp (bQ hi)
 simp_all
theorem NH{t:Nat}(g:Grp m T)(ht:t<m)(hn:0<n)(h0:pw T t n=0){j x:Nat}(hi:i<(gU m T t n).length)(hj:j<(gU m T t n).length)(h1:x∈(gU m T t n).getD i [])(h2:x∈(gU m T t n).getD j []):i=j:=by
 have ZP:=hi;have Zz:=hj;rw[rX]at ZP Zz;rw[wD hi,fO]at h1;rw[wD hj,fO]at h2;obtain⟨a1,a2⟩:=zF ZP;obtain⟨b1,b2⟩:=zF Zz;have c1:=lL g ht h0 a1 h1 (jM g ht hn h0 b1 h2);have c2:=jM g ht hn h0 a1 c1;have d1:=kg.mp a2 _ c1;have d2:=kg.mp b2 _ c2;exact Iy Ko _ _ (CA d1 d2)
theorem E3{c:List Nat}(g:Grp m T){t:Nat}(ht:t<m)(hn:0<n)(h0:pw T t n=0){x:Nat}(hx:x<m)(hi:i<(gU m T t n).length)(h1:x∈(gU m T t n).getD i []):chF a b (gU m T t n) c x=stp a b (c.getD i 0):=by
 obtain⟨j,hj,h2,h3⟩:=Ab _ (sJ g ht hn h0 hx);rw[h3,NH g ht hn h0 hi hj h1 h2]
theorem p9(g:Grp m T)(ha:a<m)(hb:b<m)(ZU:a≠b)(hn:0<n)(h0:pw T 3#8 n=0){w:List Nat}(hw:w∈gJ m T [a,b]):
  ∃c:List Nat,c.length=(lOf m T a b n).length/\(∀x∈c,x<2)/\gh m (goF T (dQ m T a b n c)) 0=m/\(rOf m T a b n c 0).map (dQ m T a b n c)=w:=by
 have ht:=g.cl _ _ ha (hJ g hb);have hs:∀s∈[a,b],s<m:=λs hs=>by
  simp at hs;rcases hs with rfl|rfl<;>assumption
 obtain⟨x,r⟩:=Ej g hs hw;obtain⟨σ,X3⟩:=r.fn;obtain⟨I,_,_⟩:=r.same g.pos X3;have hv:∀y,y<m->σ y=a\/σ y=b:=λy hy=>by
  obtain⟨i,hi,rfl⟩:=r.sur y hy;rw[X3 i hi];simpa using r.st i hi
 refine⟨(mnL m T _ n).map λy=>if σ y=a then 0 else 1,by rw[ar,<-rX],λy hy=>?_,?_⟩
 .obtain⟨z,_,rfl⟩:=aw.mp hy
  split<;>decide
 have key:∀y,y<m->dQ m T a b n ((mnL m T _ n).map λy=>if σ y=a then 0 else 1) y=σ y:=λy hy=>by
  obtain⟨i,hi,h1⟩:=Fh g ht hn h0 hy;show chF a b _ _ y=_;rw[E3 g ht hn h0 hy hi h1];have ZP:=hi;rw[rX]at ZP;rw[wD hi,fO]at h1;obtain⟨a1,_⟩:=zF ZP;rw[<-Mq g ha hb ZU hn h0 I hv a1 h1,aP,aC (by rw[ar];omega),gy];generalize (mnL m T _ n)[i]=z at a1;rcases hv z a1 with q|q
  .rw[q,if_pos rfl];rfl
  .rw[q,if_neg (eI ZU)];rfl
 obtain⟨_,h2,h3⟩:=r.same g.pos (ch:=dQ m T a b n _) λi hi=>by rw[key _ (r.lt i hi),X3 i hi]
 exact⟨h2,h3⟩
theorem Di(g:Grp m T)(ha:a<m)(hb:b<m)(ZU:a≠b)(hn:0<n)(h0:pw T 3#8 n=0){c d:List Nat}(hc:c.length=(lOf m T a b n).length)(hd:d.length=(lOf m T a b n).length)(c2:∀x∈c,x<2)(d2:∀x∈d,x<2)
  (pc:gh m (goF T (dQ m T a b n c)) 0=m) (pd:gh m (goF T (dQ m T a b n d)) 0=m) (e:(rOf m T a b n c 0).map (dQ m T a b n c)=(rOf m T a b n d 0).map (dQ m T a b n d)):c=d:=by
 have ht:=g.cl _ _ ha (hJ g hb);have I:=go_inj (c:=c) g ha hb hn h0;have hp:=g.pos;unfold rOf rg rgK at e;rw[pc,pd,bq]at e;have e1:∀i,i<m->dQ m T a b n c _=dQ m T a b n d _:=λi hi=>by
  have:=congrArg (λl=>l[i]?) e;simpa [hi]using this
 have e2:∀i,i<=m->itF (goF T (dQ m T a b n c)) i 0=itF (goF T (dQ m T a b n d)) i 0:=by
  intro i
  induction i with
  |zero=>intro _;rfl
  | succ i ih=>
    intro hi;show T _ _=T _ _;rw[e1 i hi,ih 0#0]
 have e3:∀y,y<m->dQ m T a b n c y=dQ m T a b n d y:=λy hy=>by
  obtain⟨i,hi,rfl⟩:=aw.mp ((uB I hp).mp pc y hy);rw[pc]at hi;have hi:=aA.mp hi;rw[e1 i hi,e2 i (aI hi)]
 refine oZ (hc.trans hd.symm) λi h1 h2=>?_;have hi:i<(lOf m T a b n).length:=by rw[<-hc];exact h1
 have ZP:=hi;rw[rX]at ZP;obtain⟨a1,_⟩:=zF ZP;have hz:(mnL m T _ n)[i]∈(lOf m T a b n).getD i []:=by
  rw[wD hi,fO];exact KO g hn a1
 have e4:=e3 _ a1;unfold dQ lOf at e4;rw[E3 g ht hn h0 a1 hi hz,E3 g ht hn h0 a1 hi hz]at e4;have g1:c.getD i 0=c[i]:=by rw[aP,aC h1];rfl
 have g2:d.getD i 0=d[i]:=by rw[aP,aC h2];rfl
 rw[g1,g2]at e4;have l1:=c2 _ (bQ h1);have l2:=d2 _ (bQ h2);generalize c[i]=u at e4 l1;generalize d[i]=v at e4 l2;unfold stp at e4
 grind
theorem sk(g:Grp m T)(ha:a<m)(hb:b<m)(ZU:a≠b)(hn:0<n)(h0:pw T 3#8 n=0):2*(lOf m T a b n).length<=m:=by
 have ht:=g.cl _ _ ha (hJ g hb);have t0:=λz=>by
  have:=DE g ha hb g.pos;rw[g.l0 a ha,show T a _=0 from z,g.l0 0 g.pos,g.l0 b hb]at this;exact ZU this.symm
 have hm:∀x∈mnL m T _ n,x<m/\pL T 3#8 n x=c_:=λx hx=>by
  obtain⟨h1,h2⟩:=bw.mp hx;exact⟨aA.mp h1,h2⟩
 have ZI:∀x,x<m->T x 3#8∈orb T 3#8 n x:=λx hx=>by
  by_cases h1:n=1
  .subst h1
   have:T 0 _=0:=h0;rw[g.l0 _ ht]at this<;>simp_all
  .refine iD.mpr ⟨1,by lia,?_⟩
   show T x _=T x (T 0 _);rw[g.l0 _ ht]
 have nd:(mnL m T 3#8 n++(mnL m T 3#8 n).map λx=>T x 3#8).Nodup:=by
  rw[d6];refine⟨Ko,?_,λx hx y hy e=>?_⟩
  .rw[ay,aW]
   refine bM ?_ (ay.mp Ko);intro x y hx hy ZN e;exact ZN (g.cancelR ht (hm x hx).1 (hm y hy).1 e)
  .subst e
   obtain⟨y,Yf,rfl⟩:=aw.mp hy;have h1:=ZI y (hm y Yf).1;have h2:=kg.mp (hm y Yf).2 _ h1;have h3:=kg.mp (hm _ hx).2 _ (jM g ht hn h0 (hm y Yf).1 h1);have h4:T y 3#8=T y 0:=by rw[g.r0 y (hm y Yf).1];lia
   exact t0 (g.cancel (hm y Yf).1 ht g.pos h4)
 have:=se m _ nd λx hx=>by
  rcases aQ.mp hx with hx|hx
  .exact(hm x hx).1
  .obtain⟨y,hy,rfl⟩:=aw.mp hx
   exact g.cl _ _ (hm y hy).1 ht
 rw[aU,ar]at this;rw[rX]
 lia
end
def iR:Nat->List 3#6
 |0=>[[]]
 |k+1=>(iR k).flatMap λw=>[w++[0],w++[1]]
theorem ow:∀k,(iR k).length=2^k
 |0=>rfl
 | k+1=>by
   have:∀l:List _,(l.flatMap λw=>[w++[0],w++[1]]).length=2#8*2:=by
    intro l
    induction l with
    |nil=>rfl
    |cons x l ih=>rw[List.flatMap_cons,aU,ih];grind
   rw[iR,this,ow k,Nat.pow_succ]
theorem jK:∀k (w:List Nat),w∈iR k↔4#6=k /\ ∀x∈w,x<2
 | 0,w=>by
   simp[iR]
   simp_all
 | k+1,w=>by
   rw[iR,kj];constructor
   .rintro ⟨v,hv,hw⟩
    obtain⟨h1,h2⟩:=(jK k v).mp hv;simp at hw;rcases hw with rfl|rfl
    .refine⟨by simp[h1],λx hx=>?_⟩
     rcases aQ.mp hx with hx|hx<;>simp_all
    .refine⟨by simp[h1],λx hx=>?_⟩
     rcases aQ.mp hx with hx|hx<;>simp_all
   .rintro ⟨h1,h2⟩
    have ZN:w≠[]:=λz=>by simp_all
    obtain⟨v,s,rfl⟩:=q8 ZN;refine⟨v,(jK k v).mpr ⟨by simpa using h1,λx hx=>h2 x (bf _ hx)⟩,?_⟩;have:=h2 s 0#3<;>grind
theorem E8:∀k,(iR k).Nodup
 |0=>by simp[iR]
 | k+1=>by
   rw[iR,ay,Li];refine⟨λw _=>by simp,List.Pairwise.imp ?_ (ay.mp (E8 k))⟩
   simp_all
section
variable {m:Nat}{T:Nat->Nat->Nat}{st:List Nat}
theorem rC{last:Nat->Option (List Nat)}(ZW:st.Pairwise 7#5):∀(k h:Nat) (left:List Nat),((rV T st last k h left).map dC).Pairwise λa b=>HT.lexLt a b=c_
 | 0,h,left=>by
   unfold rV
   grind
 | k+1,h,left=>by
   unfold rV;rw[aW,Li];refine⟨λs _=>?_,(ZW.filter _).imp λ{s t} ZQ=>?_⟩
   .have:=rC (last:=last) ZW k (T h s) (left.filter λy=>!decide (y=T h s))
    rw[aW]at this ⊢;refine this.imp λ{u v} huv=>?_;show HT.lexLt (s::dC u) (s::dC v)=c_;rw[HT.lexLt_cons,if_pos rfl];omega
   .intro x hx y hy
    obtain⟨u,_,rfl⟩:=aw.mp hx;obtain⟨v,_,rfl⟩:=aw.mp hy;show HT.lexLt (s::dC u) (t::dC v)=c_;rw[HT.lexLt_cons];grind
end
theorem oY{u v:List Nat}(h:dC u=dC v):u=v:=by
 exact List.map_inj_right (λa b e=>by lia) |>.mp h
section
variable {m:Nat}{T:Nat->Nat->Nat}{a b n:Nat}
abbrev wOf(m:Nat)(T:Nat->Nat->Nat)(a b n:Nat)(c:List Nat):List Nat:=(rOf m T a b n c 0).map (dQ m T a b n c)
def gdC(m:Nat)(T:Nat->Nat->Nat)(a b n:Nat)(c:List Nat):Bool:=decide (gh m (goF T (dQ m T a b n c)) 0=m)
def walks(m:Nat)(T:Nat->Nat->Nat)(a b n:Nat):List 3#6:=((iR (lOf m T a b n).length).filter (gdC m T a b n)).map (wOf m T a b n)
theorem vj(g:Grp m T)(ha:a<m)(hb:b<m)(ZU:a≠b)(hn:0<n)(h0:pw T 3#8 n=0):(walks m T a b n).Nodup:=by
 unfold walks;rw[ay,aW];refine bM ?_ (ay.mp ((E8 _).filter _));intro c d hc hd ZN e;obtain⟨c1,c2⟩:=bw.mp hc;obtain⟨d1,d2⟩:=bw.mp hd;obtain⟨c3,c4⟩:=(jK _ _).mp c1;obtain⟨d3,d4⟩:=(jK _ _).mp d1;exact ZN (Di g ha hb ZU hn h0 c3 d3 c4 d4 (of_decide_eq_true c2) (of_decide_eq_true d2) e)
theorem Gv(g:Grp m T)(ha:a<m)(hb:b<m)(ZU:a≠b)(hn:0<n)(h0:pw T 3#8 n=0)(w:List Nat):w∈walks m T a b n↔w∈gJ m T [a,b]:=by
 have ht:=g.cl _ _ ha (hJ g hb);have hs:∀s∈[a,b],s<m:=λs hs=>by
  simp at hs;rcases hs with rfl|rfl<;>assumption
 constructor
 .intro h
  obtain⟨c,hc,rfl⟩:=aw.mp h;obtain⟨c1,c2⟩:=bw.mp hc;refine Fc g (go_inj g ha hb hn h0) (λx hx=>?_) hs (of_decide_eq_true c2);have:=wR _ (sJ (a:=a) (b:=b) (c:=c) g ht hn h0 hx)<;>simp_all
 .intro h
  obtain⟨c,h1,h2,h3,h4⟩:=p9 g ha hb ZU hn h0 h;exact aw.mpr ⟨c,bw.mpr ⟨(jK _ _).mpr ⟨h1,h2⟩,decide_eq_true h3⟩,h4⟩
theorem J5{w:List Nat}(hp:0<m)(h:w∈walks m T a b n):w≠[]:=λz=>by
 obtain⟨c,hc,e⟩:=aw.mp h;have h2:=of_decide_eq_true (bw.mp hc).2;have:=congrArg eV e;rw[ar,mw,h2]at this
 grind
theorem wu(g:Grp m T)(ha:a<m)(hb:b<m)(ZU:a<b)(hn:0<n)(h0:pw T 3#8 n=0):qE ((walks m T a b n).map dC)=(gJ m T [a,b]).map dC:=by
 have ZN:a≠b:=by lia
 have rise:=rC (T:=T) (st:= [a,b]) (last:=rm m T [a,b]) (by simpa using ZU) (m-1) 0 (ba 1 (m-1));have nd1:((walks m T a b n).map dC).Nodup:=by
  rw[ay,aW];exact(ay.mp (vj g ha hb ZN hn h0)).imp λZU e=>ZU (oY e)
 refine(wI nd1 ?_ rise).symm;refine List.Perm.map _ ?_;refine(fE ?_ (vj g ha hb ZN hn h0)).mpr λw=>(Gv g ha hb ZN hn h0 w).symm;rw[aW]at rise;exact ay.mpr (rise.imp λ{u v} h e=>by rw[e,mJ]at h;cases h)
end
def awB:MS:=aX (bC 3 (dP ah)) (aX (fj 4 (dh 0#6) (eG (mML jA 0#8 (aa (bW (dh 0#5) cTT (m2 eP (ae 4) (iS 6#5))) ah)))) (bC 2 0#8))
def awC:MT:=cOf (m2 oLt (mFn cp (aa (m2 oIx 0#6 1#8) ah)) 0#9)
theorem Vg{N:Nat}(hN:N<=10):∃r S',jJ [.tup [.int 0,.int 1],.int (N:Nat)] S=a_ (.ref r,S')/\Ex S S'/\S'[r]?=a_ (.lst (tups (iR N))):=by
 have pw5:∀k,k<=10->(iR k).length<=1024:=λk hk=>by
  rw[ow];exact tF 0#2 hk
 obtain⟨Y4,S1,e1,r,u3,u4,rfl,x1,g1⟩:=uK (b:=awB)
  (λμ G S'=>∃k r u3 u4,k<=N/\μ=N-k/\G=25#1/\Ex S S'/\S'[r]?=a_ (.lst (tups (iR k))))
  (λG S' =>∃r u3 u4,G = 25#1/\Ex S S'/\S'[r]? = a_ (.lst (tups (iR N)))) (by
  rintro μ G S' ⟨k,r,u3,u4,hk,rfl,rfl,x,gr⟩;obtain⟨w0,l0,hw0⟩ :∃w0 l0,iR k=w0::l0:=by
   cases q:iR k with
   | nil=>
     have:=ow k<;>grind
   |cons w0 l0=>exact⟨w0,l0,rfl⟩
  have hwl:=((jK k w0).mp (by rw[hw0];simp)).1;have e5:m2 _ 0#6 _ [a_ (.tup (ax [0,1])),a_ (.int N),a_ _,u3,u4] S'=a_ _:=BL 0#1 c_i gr (kR (k:=0) (by rw[hw0];rfl));have ec:=of_eq (NT (A8 e5) (b:=ae 1) 0#1);rw[cn]at ec;refine⟨_,_,ec,λhf=>?_,λht=>?_⟩
  .grind
  .have hkN:k<N:=by
    grind
   have hrl:=(ag.mp gr).1;have h32:=pw5 k 0#0;obtain⟨X7,S3,e3,⟨z,rfl⟩,x3,r3,q3⟩:=vS (i:=4) (e:=ae 2) (us:=tups (iR k)) 0#1 (by unfold tups;grind)
    (λi G S3=>(∃z,G=[a_ (.tup (ax [0,1])),a_ (.int N),a_ (.ref r),a_ 13#0,z])/\Ex S S3/\S3[r]?=a_ _/\S3[S'.length]?=a_ (.lst (tups (((iR k).take i).flatMap λw=>[w++[0],w++[1]]))))
    ⟨⟨_,rfl⟩,x.trans 3#4,(Ex.push _ _).some gr,b9 _ _⟩ (λi G S3 hp=>by unfold getL;rw[hp.2.2.1]) (by
     rintro i u G S3 hu ⟨⟨z,rfl⟩,x3,r3,q3⟩;obtain⟨w,hw,rfl⟩ :∃w,(iR k)[i]?=a_ w/\U.tup _=u:=by
      unfold tups at hu;rw[a9]at hu;exact di.mp hu
     have wl:=((jK k w).mp (bK hw)).1;have ei:=yn (t:=cTT) (e:=m2 _ (ae 4) (iS (aa (ae 5) _))) (G:= [a_ _,a_ (.int N),a_ (.ref r),a_ 13#0,a_ _]) (S:=S3) (a:=ae 0) (l:= [0,1]) 0#1 0#2 (λ_ _=>rfl) (λs _ _=>Oe (x:=w) (y:= [s]) 0#1 (LX 0#1) 8#8);have hfl:=B7 (f:=λw=>[w++[0],w++[1]]) (B:=2) ((iR k).take i) λ_ _=>ak _;have htl:((iR k).take i).length<=1024:=by rw[c6];lia
     have ee:=yc (o:=ae 3) 0#1 ei q3 ((Ex.push _ _).some q3) 5#8 (by
      unfold tups;rw[ar];have:((([0,1]).filter λ_=>c_).map λs=>U.tup (ax (w++[s]))).length=2:=rfl;rw[this]
      unfold big;lia)
     have hq:S'.length<(S3++[Cell.lst ((([0,1]).filter λ_=>c_).map λs=>U.tup (ax (w++[s])))]).length:=by
      have:=(ag.mp q3).1;simp;lia
     refine⟨_,_,ee,⟨_,rfl⟩,(x3.trans 3#4).set x.len,?_,?_⟩
     .rw[aN 0#0];exact(Ex.push _ _).some r3
     .rw[aV hq,fk,hw]
      simp[tups])
   rw[show(tups _).length=(iR k).length by simp[tups],cR 2#1]at q3
   exact⟨_,_,_,by lia,(aL (bj jD)).trans ((aL e3).trans (bj (var_eq rfl))),_,_,_,_,hkN,rfl,rfl,x3,q3⟩) fuel N _ _ (by unfold fuel;lia) ⟨0,_,_,_,bS _,rfl,rfl,Ex.push _ _,b9 _ _⟩
 refine⟨r,S1,cK (G:= 25#1) rfl ?_,x1,g1⟩;refine(aL (bj (EV rfl))).trans ((aL ?_).trans (cz 0#1));exact e1
def dU:U->List Nat
 | .tup us=>us.map λu=>match u with
   |.int i=>i.toNat
   |_=>0
 |_=>[]
theorem zQ{c:List Nat}:dU (.tup (ax c))=c:=by
 show(ax c).map _=c;unfold ax;rw[bq];exact HG c
def nnU:U->Bool
 |.non=>d_
 |_=>c_
section
variable {m:Nat}{T:Nat->Nat->Nat}{a b p:Nat}{S:Sto}
def vC(m:Nat)(T:Nat->Nat->Nat)(a b p:Nat)(c:List Nat):U:=if gh m 5#4 0=m then .tup (ax 10#4) else .non
variable{c:List Nat}
theorem Us:nnU (vC m T a b p c)=gdC m T a b p c:=by
 unfold vC gdC;by_cases z:gh m 5#4 0=m
 .rw[if_pos z,decide_eq_true z];rfl
 .rw[if_neg z,decide_eq_false z];rfl
theorem U7{G:Rho}{e:ME}{S:Sto}(h:e G S=a_ (vC m T a b p c,S)):cOf (m2 kA e 8#2) G S=a_ (nnU (vC m T a b p c),S):=by
 unfold vC at h ⊢;by_cases z:gh m 5#4 0=m
 .rw[if_pos z]at h ⊢
  exact of_eq (op2 h rfl rfl)
 .rw[if_neg z]at h ⊢
  exact of_eq (op2 h rfl rfl)
theorem RI:(((iR (lOf m T a b p).length).map (vC m T a b p)).filter nnU).map (λu=>u)=tups (walks m T a b p):=by
 rw[HG,List.filter_map];unfold tups walks;rw[bq];have e:(nnU∘vC m T a b p)=gdC m T a b p:=funext λc=>Us;rw[e];apply aR;intro c hc;have:=of_decide_eq_true (bw.mp hc).2;unfold vC
 simp_all
theorem pZ:∀(ls:List 3#6),dJ pN (tups ls)=a_ (ls.map dC)
 |[]=>rfl
 | l::ls=>by
   show(pN _).bind _=_;rw[show pN _=dJ _ _ from rfl,yq];show(dJ _ (tups ls)).map _=_;rw[pZ ls];rfl
theorem xZ{ls:List (List Nat)}:(ls.map dC).map _G.tupI=tups ls:=by
 rw[bq];apply aR;intro l _;show U.tup _=_;unfold dC ax;rw[bq];rfl
theorem QK(g:Grp m T)(hm:m<60)(n10:(lOf m T a b p).length<=10)(ha:a<m)(hb:b<m)(ZU:a<b)(p1:1<=p)(p2:p<=m)(h1:∀k,1<=k->k<p->pw T 3#8 k≠0)(h0:pw T 3#8 p=0):
  ∃r S',bT [tab m T,.tup 13#4] S=a_ (.ref r,S')/\Ex S S'/\S'[r]?=a_ (.lst 13#7):=by
 have ZN:a≠b:=by lia
 have srt1:=wu g ha hb ZU p1 h0;obtain⟨r1,S1,e1,x1,l1,q1⟩:=qO g 0#0 ha hb rfl p1 0#0 h1 h0;have two:∀c,c.length=(lOf m T a b p).length->(∀x∈c,x<2)->Two m T a b p c:=λc h3 h4=>⟨g,by lia,ha,hb,p1,by lia,h1,h0,h3,h4⟩;have e2:mFn cp (aa (mFn k7 5#2) ah) [1#2,10#3,b_,b_] S=a_ (.int ((lOf m T a b p).length:Nat),S1):=by
  refine fK 16#8 ?_;simp only[cp,FH q1,eB,getL,q1,dr];rw[show(qH _).length=(lOf m T a b p).length by simp[qH,tups]]
 have c2:cOf (m2 oGt 0#6 (mC (.int 10))) [1#2,10#3,15#9,b_] S1=a_ (d_,S1):=by
  rw[of_eq (FZ 0#1 c_i),decide_eq_false 0#0]
 obtain⟨r3,S3,e3,x3,q3⟩:=Vg n10;have hl32:(iR (lOf m T a b p).length).length<=1024:=by
  rw[ow];exact tF 0#2 n10
 obtain⟨S4,e4,x4⟩:=p7 (G:= [a_ _,a_ _,15#9,b_]) (f:=λu=>vC m T a b p (dU u)) _ (λS' x=>by unfold getL;rw[x.some q3]) (λu hu S' x=>by
  obtain⟨c,hc,rfl⟩:=aw.mp hu;obtain⟨c1,c2⟩:=(jK _ _).mp hc;obtain⟨S5,e5,x5⟩:=zK (two c c1 c2);refine⟨S5,?_,x.trans x5⟩;rw[zQ]
  exact kE (a:=ae 0) (b:=ae 1) (c:=ae 4) (var_eq rfl) (var_eq rfl) (var_eq rfl) e5) fuel 0 [] S3 (bS _) (by unfold fuel tups;rw[ar];lia) (Ex.refl _)
 rw[rO,ej,show(tups _).map _=(iR _).map (vC m T a b p) by
  unfold tups;rw[bq];apply aR;intro c _;show vC m T a b p _=_
  rw[zQ]]at e4
 have e5:bW (dh 26#3) cTT (mFn iK (aa 0#5 (aa 0#9 5#3))) [1#2,14#7,15#9,b_] S1=a_ (.ref S4.length,S4++[.lst 26#1]):=by
  have h3:mFn _ (aa _ 4#0) [1#2,14#7,a_ _,b_] S1=a_ _:=cP (RX c_i c_i) 0#1 e3;have hg:getL S3 r3=a_ (tups (iR (lOf m T a b p).length)):=by unfold getL;rw[q3]
  have hi:dh 26#3 [1#2,14#7,15#9,b_] S1=a_ (.mut r3,S3):=by
   simp only[dh,h3,aF,hg,dr]
  simp only[bW,hi,aF,A4,e4];exact if_pos (by rw[ar];unfold big;lia)
 have e6:=DD (t:=cOf (m2 kA (ae 4) 8#2)) (e:=ae 4) (a:=ae 3) (G:= [1#2,14#7,15#9,a_ _]) (S:=S4++[.lst 26#1]) 0#1 5#8 (by rw[ar];lia) (λu hu=>by
  obtain⟨c,_,rfl⟩:=aw.mp hu
  exact U7 (var_eq rfl)) (λu _ _=>var_eq rfl)
 rw[RI]at e6;have x5:Ex S (S4++[Cell.lst 26#1]):=((x1.trans x3).trans x4).trans 3#4;generalize S4++[Cell.lst _]=S5 at e5 e6 x5;have e7:mFn iG (aa (bW (dh 0#8) (cOf (m2 kA (ae 4) 8#2)) (ae 4)) ah) [1#2,14#7,15#9,a_ (.ref S4.length)] S5=a_ (.ref (S5++22#1).length,S5++22#1++[.lst 13#7]):=by
  refine fK e6 ?_;have hg:getL (S5++22#1) S5.length=a_ (tups (walks m T a b p)):=by unfold getL;rw[b9]
  simp only[iG,F9,hg,aO,pZ];have ok:okT ((walks m T a b p).map dC):=by
   refine⟨by
    rw[ar];unfold walks;rw[ar]
    exact aM (hZ _ _) (by lia),?_,?_⟩
   .rw[ay,aW]
    exact(ay.mp (vj g ha hb ZN p1 h0)).imp λZU e=>ZU (oY e)
   .intro l hl z
    obtain⟨w,hw,rfl⟩:=aw.mp hl;exact J5 g.pos hw (oY z)
  rw[if_pos ok,srt1,xZ];rfl
 refine⟨(S5++22#1).length,_,cK (G:= [1#2,14#7,15#9,a_ (.ref S4.length)]) rfl ?_,(x5.trans 3#4).trans 3#4,b9 _ _⟩;exact(aL (bj e2)).trans ((aL ((kO c2).trans rfl)).trans ((aL (bj e5)).trans (cz e7)))
end
section
variable {m:Nat}{T:Nat->Nat->Nat}{S:Sto}{a b p:Nat}{c:List Nat}
theorem BK(w:Two m T a b p c):∃r S',oI 22#5 S=a_ (.ref r,S')/\Ex S S'/\0#7<=r/\S'[r]?=a_ (.lst (tups (sdG 15#7 m).1)):=by
 obtain⟨d,S1,e1,x1,g1⟩:=yr w;have C:=w.cho;have hm:=w.hm;refine⟨_,cW S1 (pcG _ (λi=>[.lst (ax (rOf m T a b p c i))]) m),cK (G:= [1#2,10#3,9#2,a_ (.ref d)]) rfl ?_,x1.trans tK.1,x1.len,tK.2⟩;refine(aL (bj (kE 0#1 0#1 0#1 e1))).trans (cz ?_);refine vN (fK 0#1 (Jw 12#6)) rfl λf=>Eh 12#6 (λk hk=>by rw[mw];have:=DT C.inj hk;exact aY 0#4 (ai 2#3 0#2)) (λi S' hi hx=>?_) f;exact kE (G:= [a_ _,a_ _,a_ _]) (a:=ae 2) (b:=ae 1) (c:=ae 0) 0#1 0#1 0#1 (Ov C 12#6 (hx.some g1) hi)
end
theorem tT{m:Nat}{T:Nat->Nat->Nat}{S:Sto}(g:Grp m T){x n:Nat}(hx:x<m)(h1:∀k,1<=k->k<n->pw T x k≠0)(h0:pw T x n=0):
  ∀(d f t:Nat),t+d=n->1<=t->d<f->whl (cOf (m2 oNe 0#6 1#8)) (aX (bC 2 (m2 oIx (m2 oIx 0#5 0#6) 0#9)) (AO 3 1#9)) f 20#6 S=a_ (.nx,[1#2,9#4,a_ (.int (0:Nat)),6#6],S)
 |0,0,t,h2,h3,h4=>by lia
 | 0,f+1,t,h2,h3,h4=>by
   have:t=n:=by lia
   subst this;have ht:cOf (m2 _ 0#6 1#8) 20#6 S=a_ _:=of_eq (Hb 0#1 c_i);unfold whl;rw[h0];rfl
 |d+1,0,t,h2,h3,h4=>by lia
 | d+1,f+1,t,h2,h3,h4=>by
   have ht:cOf (m2 _ 0#6 1#8) 20#6 S=a_ _:=of_eq (Hb 0#1 c_i);unfold whl;rw[ht];have ZN:=h1 t h3 0#0;simp[aF,decide_eq_false ZN,if_true];have eb:aX (bC 2 (m2 oIx (m2 oIx 0#5 0#6) 0#9)) (AO 3 1#9) 20#6 S=a_ (.nx,[1#2,9#4,a_ (.int (pw T x (t+1))),a_ (.int (t+1))],S):=by
    refine(aL (bj (kH hx (jm (gF g hx t) 0#1 0#1) 0#1))).trans ?_;simp[AO,mC,aF,pw]
   rw[eb];exact tT g hx h1 h0 d f _ 0#0 0#0 0#0
theorem kT(g:Grp m T)(hx:x<m)(hn:1<=n)(hm:n<1000)(h1:∀k,1<=k->k<n->pw T x k≠0)(h0:pw T x n=0):fF [tab m T,.int x] S=a_ (.int n,S):=by
 have hp1:pw T x 1=x:=g.l0 x hx;have e:=tT (S:=S) g hx h1 h0 (n-1) fuel 1 0#0 2#1 (by unfold fuel;lia);rw[hp1]at e;exact cK rfl ((aL (bj 0#1)).trans ((aL (bj rfl)).trans ((aL e).trans (cz 0#1))))
theorem Uz{S2:Sto}{b:ME}{x y:Bool}(ha:a G S=a_ (.bl x,S1))(hb:b G S1=a_ (.bl y,S2))(h:S2=S1):jS a b G S=a_ (.bl (x&&y),S1):=by
 subst h;cases x
 .simp[jS,ha,aF]
 .simp[jS,ha,aF,hb]
theorem yh{S:Sto}(g:Grp m T){a b p q:Nat}(ha:a<m)(hb:b<m)(Xl:1<=q)(Xg:q<1000)
  (ep:∀S,fF [tab m T,.int (T a (unT m T b):Nat)] S=a_ (.int (p:Nat),S)) (eq:∀S,fF [tab m T,.int a] S=a_ (.int (q:Nat),S)):
  fX [tab m T,.tup 13#4] S=a_ (.bl (decide (p%2=1)&&decide (m/q%2=0)),S):=by
 have e1:=Hl (G:= [a_ _,a_ _]) (y:=1) (vU (y:=2) (cP (a:=ae 0) (b:=mFn _ (aa 0#5 (aa 0#9 _))) 0#1 (cP 0#1 0#1 (ED g ha hb)) (ep S)) c_i 0#2) c_i;have e2:=Hl (G:= [a_ _,a_ (.tup [.int _,.int b])]) (y:=0) (vU (y:=2) (vX (a:=mFn _ (aa 0#5 _)) 11#8 (cP (a:=ae 0) (b:=m2 _ 0#9 _) 0#1 (JE 0#1) (eq S)) Xl Xg) c_i 0#2) c_i;exact cK rfl (cz (Uz e1 e2 rfl))
theorem sub_len:∀{a b:List (List Nat)},a.Nodup->(∀x∈a,x∈b)->a.length<=b.length
 |[],b,_,_=>bS _
 | x::a,b,nd,h=>by
   have XH:=eh.mp nd;have ih:=sub_len (b:=b.erase x) XH.2 λy hy=>by
    grind
   grind
theorem FB{A B:List (List Nat)}{f:List Nat->List Nat}(nd:A.Nodup)(h:∀w∈A,f w∈B)(inj:∀u∈A,∀v∈A,f u=f v->u=v):A.length<=B.length:=by
 have:=sub_len (b:=B) (by
  rw[ay,aW]
  exact bM (λha hb ZU e=>ZU (inj _ ha _ hb e)) (ay.mp nd)) (λx hx=>by
  grind) <;> simp_all
section
variable {m:Nat}{T:Nat->Nat->Nat}{st:List Nat}
theorem Ac{last:Nat->Option (List Nat)}(ZW:st.Pairwise 7#5)(k h:Nat)(left:List Nat):(rV T st last k h left).Nodup:=by
 have r:=rC (T:=T) (last:=last) ZW k h left;rw[aW]at r;exact ay.mpr (r.imp λ{u v} h e=>by rw[e,mJ]at h;cases h)
theorem QA{a b:List Nat}:(plc T (a++b)).take (a.length+1)=plc T a:=by
 unfold plc;rw[<-List.map_take,List.take_range,ly 0#3];refine aR λk hk=>?_
 grind
theorem Br{L:Nod->List (List Nat)}{z:List Nat}:∀(w p:List Nat),(∀x∈w,x∈st)->(plc T (p++w)).Nodup->z∈L (p++w,plc T (p++w))->z∈Aa T st L w.length (p,plc T p)
 |[],p,_,_,h=>by rw[cf]at h;exact h
 | s::w,p,hs,hn,h=>by
   have e:p++s::w=p++[s]++w:=by simp
   rw[e]at hn h;have ih:=Br w _ (λx hx=>hs x (aB _ hx)) hn h;have hn1:(plc T (p++[s])).Nodup:=by
    have:=QA (T:=T) (a:=p++[s]) (b:=w);rw[<-this];exact List.Pairwise.sublist (jN _ _) hn
   rw[lT]at hn1;refine kj.mpr ⟨_,aw.mpr ⟨s,bw.mpr ⟨hs s 0#3,?_⟩,rfl⟩,?_⟩
   .rw[lO]<;>grind
   .rw[lO,<-lT];omega
variable{w:List Nat}
theorem Ic{x:Nat}:pre T (w++[x])=plc T w:=by
 have h1:=lT (T:=T) (w:=w) (x:=x);rw[kU]at h1
 simp_all
theorem Km{α:Type}{l:List α}(h:0<2#8):∃a b,l=a++[b]:=q8 (gv.mp h)
theorem B9{w:List Nat}(g:Grp m T)(h:Rnd m T w)(hl:4#6=m)(hs:∀x∈w,x∈st):w∈Aa T st (Mh T st) (m-1) ([],[0]):=by
 obtain⟨v,x,rfl⟩:=Km (by rw[hl];exact g.pos);have h1:=by simp at hl;omega
 have h2:=h.home;rw[lQ]at h2;have h3:=h.all.nd;rw[Ic]at h3;rw[<-h1];refine Br v [] (λy hy=>hs y (bf _ hy)) h3 ?_;refine aw.mpr ⟨x,bw.mpr ⟨hs x 0#3,?_⟩,rfl⟩;show decide (T (gI (plc T v)) x=0)=c_;rw[lO,h2];rfl
theorem gq(g:Grp m T)(hs:Lt m st)(nd:st.Nodup){w:List Nat}:w∈gJ m T st↔Rnd m T w/\(∀x∈w,x∈st)/\4#6=m:=by
 rw[<-LW g hs nd];exact⟨BH g hs,fun⟨h1,h2,h3⟩=>B9 g h1 h3 h2⟩
theorem AM(h:st.Pairwise 7#5):st.Nodup:=ay.mpr (h.imp λ{a b} ZU=>by lia)
theorem rH{w:List Nat}(hs:Lt m st)(h:∀x∈w,x∈st):Lt m w:=λx hx=>hs x (h x hx)
theorem O6(h:srt w=w)(nd:w.Nodup):w.Pairwise 7#5:=by
 have h1:(srt w).Pairwise (· <= ·):=by
  exact aW.mpr ((wL _).imp λ{a b} ZU=>by lia)
 rw[h]at h1;exact(h1.and (ay.mp nd)).imp λ{a b} ZU=>by lia
theorem AZ{f:Nat->Nat}(ZW:st.Pairwise 7#5)(hs:Lt m st)(inj:∀x y,x<m->y<m->f x=f y->x=y):(srt (st.map f)).Pairwise 7#5:=by
 refine O6 KG ((lB _).nodup_iff.mpr ?_);rw[ay,aW];exact bM (λha hb ZU e=>by grind) ZW
theorem Q4(g:Grp m T)(x y:Nat)(hx:x<m)(hy:y<m)(e:unT m T x=unT m T y):x=y:=by rw[<-Fj g hx,<-Fj g hy,e]
theorem TF(g:Grp m T)(hs:Lt m st):Lt m (srt (st.map (unT m T))):=λx hx=>by
 obtain⟨y,hy,rfl⟩:=aw.mp (fO.mp hx);exact hJ g (hs y hy)
theorem Mp(g:Grp m T)(hs:Lt m st):∀x∈srt (st.map (unT m T)),unT m T x∈st:=λx hx=>by
 obtain⟨y,hy,rfl⟩:=aw.mp (fO.mp hx);rw[Fj g (hs y hy)];omega
theorem VJ:∀x∈st,unT m T x∈srt (st.map (unT m T)):=λx hx=>fO.mpr (aw.mpr ⟨x,hx,rfl⟩)
variable{o p:Nat->Nat}
theorem HP(g:Grp m T)(h:Ord m o p)(hw:Lt m w):pre (ic T o p) (w.map p)=(pre T w).map p:=by
 unfold pre;rw[ar,bq];refine aR λk _=>?_;rw[<-List.map_take];have:=Am g h _ 0 g.pos (hw.tk k);rwa[MC g h]at this
theorem OH(g:Grp m T)(h:Ord m o p)(hw:Lt m w):fv (ic T o p) (w.map p)=p (fv T w):=by
 have:=Am g h w 0 g.pos hw;rwa[MC g h]at this
theorem Ie(h:Ord m o p)(hw:Lt m w):(w.map p).map o=w:=by
 have:w.map (o∘p)=w.map id:=aR λx hx=>h.op x (hw x hx)
 simp_all
theorem zS(h:Ord m o p)(hw:Lt m w):(w.map o).map p=w:=by
 have:w.map (p∘o)=w.map id:=aR λx hx=>h.po x (hw x hx)
 simp_all
theorem Oq(h:Ord m o p)(hs:Lt m st):Lt m (srt (st.map p)):=λx hx=>by
 obtain⟨y,hy,rfl⟩:=aw.mp (fO.mp hx);exact h.pl y (hs y hy)
theorem Wo(h:Ord m o p)(hw:Lt m w):Lt m (w.map o):=λx hx=>by
 obtain⟨y,hy,rfl⟩:=aw.mp hx;exact h.ol y (hw y hy)
theorem Wa{o:Nat->Nat}(h:Ord m o p)(hs:Lt m st){w:List Nat}(hw:∀x∈w,x∈srt (st.map p)):∀x∈w.map o,x∈st:=λx hx=>by
 obtain⟨y,hy,rfl⟩:=aw.mp hx;obtain⟨z,hz,rfl⟩:=aw.mp (fO.mp (hw y hy));rw[h.op z (hs z hz)];omega
theorem Wu{p:Nat->Nat}{w:List Nat}(hw:∀x∈w,x∈st):∀x∈w.map p,x∈srt (st.map p):=λx hx=>by
 obtain⟨y,hy,rfl⟩:=aw.mp hx;exact fO.mpr (aw.mpr ⟨y,hw y hy,rfl⟩)
theorem Dz(h:Ord m o p)(hs:Lt m st)(ZW:st.Pairwise 7#5):(srt (st.map p)).Pairwise 7#5:=AZ ZW hs λx y hx hy e=>CT h hx hy e
theorem NF(g:Grp m T)(h:Ord m o p)(hs:Lt m st)(ZW:st.Pairwise 7#5):(gJ m (ic T o p) (srt (st.map p))).length=(gJ m T st).length:=by
 have g':=sf g h;have WT:=Oq h hs;have nd:=AM ZW;have XH:=AM (Dz h hs ZW);refine CA (FB (f:=λw=>w.map o) (Ac (Dz h hs ZW) _ _ _) (λw hw=>?_) λu hu v hv e=>?_) (FB (f:=λw=>w.map p) (Ac ZW _ _ _) (λw hw=>?_) λu hu v hv e=>?_)
 .obtain⟨⟨h0,h1⟩,h2,h3⟩:=(gq g' WT XH).mp hw
  have lw:=rH WT h2;have lo:=Wo h lw;rw[<-zS h lw,HP g h lo]at h1;rw[<-zS h lw,OH g h lo]at h0;refine(gq g hs nd).mpr ⟨⟨CT h (yS g lo) g.pos (by rw[h0,MC g h]),h1.unmap (Qi g lo)⟩,Wa h hs h2,by grind⟩
 .have l1:=rH WT ((gq g' WT XH).mp hu).2.1
  have l2:=rH WT ((gq g' WT XH).mp hv).2.1;rw[<-zS h l1,<-zS h l2];exact congrArg _ e
 .obtain⟨⟨h0,h1⟩,h2,h3⟩:=(gq g hs nd).mp hw
  have lw:=rH hs h2;refine(gq g' WT XH).mpr ⟨⟨by rw[OH g h lw,h0,MC g h],?_⟩,Wu h2,by grind⟩;rw[HP g h lw];exact h1.map (λx hx=>h.pl x hx) λx y hx hy e=>CT h hx hy e
 .have l1:=rH hs ((gq g hs nd).mp hu).2.1
  have l2:=rH hs ((gq g hs nd).mp hv).2.1;rw[<-Ie h l1,<-Ie h l2];exact congrArg _ e
end
def del(m:Nat)(f:Nat->Nat)(x:Nat):Nat:=if f x=m then f m else f x
def cy:Nat->(Nat->Nat)->Nat
 |0,_=>0
 |m+1,f=>cy m (del m f)+if f m=m then 1 else 0
theorem gn:∀{m:Nat}{f g:Nat->Nat},(∀x,x<m->f x=g x)->cy m f=cy m g
 |0,_,_,_=>rfl
 | m+1,f,g,h=>by
   unfold cy;rw[h m 0#0,gn (g:=del m g) λx hx=>by unfold del;grind]
variable{f:Nat->Nat}
theorem uz(h:Inj (m+1) f):Inj m (del m f):=by
 refine⟨λx hx=>?_,λx y hx hy e=>?_⟩
 .unfold del
  have h1:=h.lt x 0#0;have h2:=h.lt m 0#0;by_cases c:f x=m
  .rw[if_pos c]
   have:f m≠m:=λz=>by have:=h.inj x m 0#0 0#0 (c.trans z.symm);lia
   lia
  grind
 .unfold del at e
  by_cases c:f x=m
  .rw[if_pos c]at e
   by_cases d:f y=m
   .exact h.inj x y 0#0 0#0 (c.trans d.symm)
   .rw[if_neg d]at e
    have:=h.inj m y 0#0 0#0 e
    lia
  .rw[if_neg c]at e
   by_cases d:f y=m
   .rw[if_pos d]at e
    have:=h.inj x m 0#0 0#0 e
    lia
   .rw[if_neg d]at e
    exact h.inj x y 0#0 0#0 e
def sw(i j x:Nat):Nat:=if x=i then j else if x=j then i else x
theorem Tj(hi:i<m)(hj:j<m)(hx:x<m):sw i j x<m:=by
 unfold sw
 split
 .omega
 .split<;>assumption
theorem Fp:sw i j (sw i j x)=x:=by
 unfold sw
 grind
theorem Inj.onto(h:Inj m f)(y:Nat)(hy:y<m):∃u,u<m/\f u=y:=by
 have p:=wO ((aq m).map f) _ (by
  rw[ay,aW];refine bM ?_ eF;intro a b ha hb ZU e;have:=h.inj a b (aA.mp ha) (aA.mp hb) e
  lia) (λy hy=>by
  obtain⟨x,hx,rfl⟩:=aw.mp hy
  exact aA.mpr (h.lt x (aA.mp hx))) (by simp)
 obtain⟨u,hu,e⟩:=aw.mp (p.mem_iff.mpr (aA.mpr hy));exact⟨u,aA.mp hu,e⟩
theorem L3:sw i j x=sw j i x:=by
 unfold sw
 grind
theorem Inj.comp{g:Nat->Nat}(hf:Inj m f)(hg:Inj m g):Inj m λx=>f (g x):=⟨λx hx=>hf.lt _ (hg.lt x hx),λx y hx hy e=>hg.inj x y hx hy (hf.inj _ _ (hg.lt x hx) (hg.lt y hy) e)⟩
theorem Rn(hi:i<m)(hj:j<m):Inj m (sw i j):=⟨λx hx=>Tj hi hj hx,λx y _ _ e=>by rw[<-Fp (x:=x),e,Fp]⟩
theorem BB:∀{m:Nat}{f:Nat->Nat}{i j:Nat},Inj m f->i<j->j<m->(cy m (λx=>f (sw i j x))+cy m f)%2=1
 |0,f,i,j,_,_,hj=>by lia
 | m+1,f,i,j,h,YH,hj=>by
   by_cases c:j<m
   .have ih:=BB (uz h) YH c
    have e1:cy (m+1) (λx=>f (sw i j x))=cy m (λx=>del m f (sw i j x))+if f m=m then 1 else 0:=by
     show cy m _+(if f (sw i j m)=m then 1 else 0)=_;rw[show sw i j m=m by unfold sw;rw[if_neg 0#0,if_neg 0#0]]
     congr 1
     refine gn λx hx=>?_;show(if f (sw i j x)=m then f (sw i j m) else f (sw i j x))=if f (sw i j x)=m then f m else f (sw i j x)
     rw[show sw i j m=m by unfold sw;rw[if_neg 0#0,if_neg 0#0]]
    rw[e1,show cy (m+1) f=cy m (del m f)+if f m=m then 1 else 0 from rfl]
    lia
   .obtain rfl:j=m:=by lia
    have s1:sw i j j=i:=by unfold sw;rw[if_neg 0#0,if_pos rfl]
    have s2:sw i j i=j:=by unfold sw;rw[if_pos rfl]
    have s3:∀x,x<j->x≠i->sw i j x=x:=λx h1 h2=>by unfold sw;rw[if_neg h2,if_neg 0#0]
    have ne:f i≠f j:=λz=>by have:=h.inj i j 0#0 0#0 z;lia
    show(cy j _+(if f (sw i j j)=j then 1 else 0)+(cy j (del j f)+if f j=j then 1 else 0))%2=1;rw[s1];by_cases d:f j=j
    .have e:cy j (del j _)=cy j (del j f):=gn λx hx=>by
      show 25#6=if f x=j then f j else f x
      rw[s1];by_cases w:x=i
      .rw[w,s2,if_pos d,if_neg 0#0]
      .rw[s3 x hx w]
       by_cases u:f x=j
       .have:=h.inj x j 0#0 0#0 (u.trans d.symm);lia
       .rw[if_neg u,if_neg u]
     rw[e,if_pos d,if_neg 0#0];lia
    .by_cases v:f i=j
     .have e:cy j (del j _)=cy j (del j f):=gn λx hx=>by
       show 25#6=if f x=j then f j else f x
       rw[s1];by_cases w:x=i
       .rw[w,s2,if_neg d,if_pos v]
       .rw[s3 x hx w,v]
        by_cases u:f x=j
        .have:=h.inj x i 0#0 0#0 (u.trans v.symm);lia
        .rw[if_neg u,if_neg u]
      rw[e,if_neg d,if_pos v];lia
     .rw[if_neg d,if_neg v]
      obtain⟨u,hu,eu⟩ :∃u,u<j+1/\f u=j:=h.onto j 0#0;have hu':u<j:=by
       have:u≠j:=λz=>d (by rw[<-z];rw[z]at eu;rw[z];exact eu)
       lia
      have hui:u≠i:=λz=>v (by rw[<-z];exact eu);have e:cy j (del j _)=cy j (λx=>del j f (sw i u x)):=gn λx hx=>by
       show 25#6=if f (sw i u x)=j then f j else f (sw i u x)
       rw[s1];by_cases w:x=i
       .subst w
        rw[s2,show sw x u x=u by unfold sw;rw[if_pos rfl],if_neg d,if_pos eu]
       .rw[s3 x hx w]
        by_cases y:x=u
        .subst y
         rw[if_pos eu,show sw i x x=i by unfold sw;rw[if_neg w,if_pos rfl],if_neg v]
        .rw[show sw i u x=x by unfold sw;rw[if_neg w,if_neg y]]
         have:f x≠j:=λz=>y (h.inj x u 0#0 0#0 (z.trans eu.symm));rw[if_neg this,if_neg this]
      rw[e];rcases Nat.lt_or_gt_of_ne hui with g|g
      .have ih:=BB (uz h) g 0#0
       rw[gn λx _=>by
        rw[L3]]
       lia
      .have ih:=BB (uz h) g hu'
       lia
theorem IJ:∀m,cy m (λx=>x)=m
 |0=>rfl
 | m+1=>by
   show cy m _+(if m=m then 1 else 0)=_;rw[if_pos rfl,gn (f:=del m _) λx hx=>if_neg (aJ hx),IJ m]
theorem tq{m:Nat}:∀(k:Nat) {f g:Nat->Nat},Inj m f->Inj m g->(∀x,k<=x->x<m->g x=x)->(cy m (λx=>f (g x))+cy m f+cy m g+m)%2=0
 | 0,f,g,hf,hg,h=>by
   rw[gn λx hx=>by rw[h x (bS _) hx],gn λx hx=>h x (bS _) hx,IJ]
   lia
 | k+1,f,g,hf,hg,h=>by
   by_cases hk:m<=k
   .exact tq k hf hg λx h1 h2=>by lia
   by_cases e:g k=k
   .exact tq k hf hg λx h1 h2=>by
     grind
   have hu:g k<k:=by
    have h1:=hg.lt k 0#0;rcases ng _ k with z|z|z
    .omega
    .exact absurd z e
    .exact absurd (hg.inj _ k h1 0#0 (h _ z h1)) e
   have hu2:g k<m:=by lia
   have W1:k<m:=by lia
   have is:=Rn hu2 W1;have ig:=is.comp hg;have fx:∀x,k<=x->x<m->sw (g k) k _=x:=λx h1 h2=>by
    by_cases z:x=k
    .rw[z];unfold sw;rw[if_pos rfl]
    .rw[h x 0#0 h2]
     unfold sw<;>grind
   have i1:=tq k (hf.comp is) ig fx;have i2:=tq k is ig fx;have e1:cy m (λx=>f (sw (g k) k _))=cy m λx=>f (g x):=gn λx _=>by rw[Fp]
   have e2:cy m (λx=>sw (g k) k _)=cy m g:=gn λx _=>Fp;rw[e2]at i2;have s1:=BB hf hu W1;have s2:=BB ⟨λx hx=>hx,λx y _ _ e=>e⟩ hu W1;rw[IJ]at s2
   grind
theorem R9{g:Nat->Nat}(hf:Inj m f)(hg:Inj m g):cy m (λx=>f (g (g x)))%2=cy m f%2:=by
 have h1:=tq m (hf.comp hg) hg λx h1 h2=>by lia
 have h2:=tq m hf hg λx h1 h2=>by lia
 lia
section
variable {m:Nat}{f:Nat->Nat}
def Rh(f:Nat->Nat)(x y:Nat):Prop:= ∃k,itF f k x=y
theorem JG(h:Inj m f){x y:Nat}(hx:x<m):y∈rg m f x↔Rh f x y:=by
 obtain⟨p1,_,p3,_⟩:=iy h hx;constructor
 .intro hy
  obtain⟨i,_,rfl⟩:=aw.mp hy;exact⟨i,rfl⟩
 .rintro ⟨k,rfl⟩
  refine aw.mpr ⟨k%gh m f x,aA.mpr (jx _ p1),?_⟩;have:∀q,itF f (gh m f x*q) x=x:=λq=>by
   induction q with
   |zero=>rfl
   |succ q ih=>rw[Nat.mul_succ,kX,p3,ih]
  have e:=Nat.mod_add_div k (gh m f x);have e2:itF f k x=itF f (k%gh m f x) (itF f (gh m f x*(k/gh m f x)) x):=by rw[<-kX,e]
  rw[e2,this]
theorem Rh.trans{x y z:Nat}(h1:Rh f x y)(h2:Rh f y z):Rh f x z:=by
 obtain⟨j,rfl⟩:=h1;obtain⟨k,rfl⟩:=h2;exact⟨_,kX j k⟩
theorem Rh.symm(h:Inj m f){x y:Nat}(hx:x<m)(r:Rh f x y):Rh f y x:=by
 obtain⟨i,hi,rfl⟩:=aw.mp ((JG h hx).mpr r);have hi:=aA.mp hi;exact⟨gh m f x-i,by rw[<-kX,mS 0#0];exact(iy h hx).2.2.1⟩
theorem CV(h:Inj (m+1) f):∀(k:Nat) {x y:Nat},x<m->y<m->itF f k x=y->Rh (del m f) x y
 |0,x,y,_,_,e=>⟨0,e⟩
 |1,x,y,hx,hy,e=>⟨1,by show del m f x=y;unfold del;rw[if_neg (by rw[show f x=y from e];lia)];exact e⟩
 | k+2,x,y,hx,hy,e=>by
   by_cases c:f x=m
   .have e1:del m f x=f m:=if_pos c
    have hl:f m<m:=by
     have h1:=h.lt m 2#3;have:f m≠m:=λz=>by have:=h.inj x m 0#0 2#3 (c.trans z.symm);lia
     lia
    rw[rW,rW,c]at e;obtain⟨j,hj⟩:=CV h k hl hy e;exact⟨_,by rw[rW,e1];omega⟩
   .have e1:del m f x=f x:=if_neg c
    have hl:f x<m:=by have:=h.lt x 0#0;lia
    rw[rW]at e;obtain⟨j,hj⟩:=CV h _ hl hy e;exact⟨_,by rw[rW,e1];omega⟩
theorem KB(h:Inj (m+1) f):∀(k:Nat) {x:Nat},x<m->Rh f x (itF (del m f) k x)
 |0,x,_=>⟨0,rfl⟩
 | k+1,x,hx=>by
   refine(KB h k hx).trans ?_;show Rh f _ (del m f _);unfold del
   split
   .rename_i c
    exact⟨2,congrArg f c⟩
   .exact⟨1,rfl⟩
open Classical in
def cnt(m:Nat)(f:Nat->Nat)(k:Nat):Nat:=((aq k).filter λx=>decide (∀y,y<x->¬Rh f y x)).length
theorem rG{k:Nat}:(¬(∀y,y<k->¬Rh f y k)->cnt m f (k+1)=cnt m f k)/\((∀y,y<k->¬Rh f y k)->cnt m f (k+1)=cnt m f k+1):=by
 unfold cnt;rw[eJ]
 simp_all
theorem HZ:∀{m:Nat}{f:Nat->Nat},Inj m f->cnt m f m=cy m f
 |0,f,_=>rfl
 | m+1,f,h=>by
   have ih:=HZ (uz h);have e:cnt (m+1) f m=cnt m (del m f) m:=by
    unfold cnt
    congr 1
    refine List.filter_congr λx hx=>?_;have hx:=aA.mp hx
    congr 1
    refine propext ⟨λg y hy r=>?_,λg y hy r=>?_⟩
    .obtain⟨k,rfl⟩:=r
     exact g y hy (KB h k 0#0)
    .obtain⟨k,e⟩:=r
     exact g y hy (CV h k 0#0 hx e)
   show _=cy m _+_;rw[<-ih,<-e];by_cases c:f m=m
   .rw[if_pos c]
    refine(rG).2 λy hy r=>?_;obtain⟨k,e⟩:=r.symm h 0#0;have:∀k,itF f k m=m:=λk=>by
     induction k with
     |zero=>rfl
     |succ k ih=>show f _=m;rw[ih,c]
    grind
   .rw[if_neg c]
    refine(rG).1 λg=>?_;obtain⟨u,hu,eu⟩:=h.onto m 0#0;have:u≠m:=λz=>c 5#6;exact g u 0#0 ⟨1,eu⟩
theorem uY(h:Inj m f):∀k,k<=m->(sdG (rg m f) k).1.length=cnt m f k/\(∀z,z∈(sdG (rg m f) k).2 ↔ ∃y,y<k/\Rh f y z)/\(sdG (rg m f) k).2.Nodup/\(sdG (rg m f) k).2=(sdG (rg m f) k).1.flatten
 |0,_=>⟨rfl,λz=>⟨λq=>absurd q (by simp[sdG]),fun⟨y,hy,_⟩=>by lia⟩,.nil,rfl⟩
 | k+1,hk=>by
   obtain⟨i1,i2,i3,i4⟩:=uY h k 0#0;by_cases c:k∈(sdG (rg m f) k).2
   .rw[sdG,if_pos c]
    obtain⟨y,hy,r⟩:=(i2 k).mp c;refine⟨by rw[i1,(rG).1 λg=>g y hy r],λz=>(i2 z).trans ⟨fun⟨y,hy,r⟩=>⟨y,by lia,r⟩,fun⟨w,hw,q⟩=>?_⟩,i3,i4⟩;by_cases e:w=k
    .subst e;exact⟨y,hy,r.trans q⟩
    grind
   .rw[sdG,if_neg c]
    have nr:=λy hy r=>c ((i2 k).mpr ⟨y,hy,r⟩);refine⟨by rw[aU,i1,(rG).2 nr];rfl,λz=>?_,?_,?_⟩
    .rw[aQ,i2,JG h 0#0]<;>grind
    .refine d6.mpr ⟨i3,OP h 0#0,λa ha b hb e=>?_⟩
     subst e;obtain⟨y,hy,r⟩:=(i2 a).mp ha;exact nr y hy (r.trans (Rh.symm h 0#0 ((JG h 0#0).mp hb)))
    grind
theorem rq(h:Inj m f):(sdG (rg m f) m).1.length=cy m f:=by rw[(uY h m 2#1).1,HZ h]
theorem yw(h:Inj m f):(sdG (rg m f) m).1.flatten.Perm (aq m):=by
 obtain⟨_,i2,i3,i4⟩:=uY h m 2#1;rw[<-i4];refine(fE i3 kh).mpr λz=>?_;rw[i2,aA];constructor
 .rintro ⟨y,hy,k,rfl⟩
  exact jn h hy k
 .exact λhz=>⟨z,hz,0,rfl⟩
end
end
section
open _L _G
section
variable {m:Nat}{T:Nat->Nat->Nat}{a b p q:Nat}{c c0:List Nat}
theorem V8(g:Grp m T){t n x:Nat}(ht:t<m)(hn:0<n)(h0:pw T t n=0)(hx:x<m):chF a b (gU m T t n) c (T x t)=chF a b (gU m T t n) c x:=by
 unfold chF;rw[wg (BC g ht hn h0 hx)]
theorem OG(g:Grp m T){t n x:Nat}(ht:t<m)(hn:0<n)(h0:pw T t n=0)(hx:x<m):∀k,chF a b (gU m T t n) c (T x (pw T t k))=chF a b (gU m T t n) c x
 |0=>by show chF _ _ _ _ (T x 0)=_;rw[g.r0 x hx]
 |k+1=>by rw[<-qL g ht hx k,V8 g ht hn h0 (g.cl _ _ hx (gF g ht k)),OG g ht hn h0 hx k]
theorem Two.ht(w:Two m T a b p c):tOf m T a b<m:=w.g.cl _ _ w.ha (hJ w.g w.hb)
theorem Jo(w:Two m T a b p c){x:Nat}(hx:x<m):dQ m T a b p c x=a\/dQ m T a b p c x=b:=wR _ (sJ w.g w.ht w.n0 w.h0 hx)
theorem zk(w:Two m T a b p c)(z:∀x∈c,x=0){x:Nat}(hx:x<m):dQ m T a b p c x=a:=by
 obtain⟨i,_,_,e⟩:=Ab _ (sJ w.g w.ht w.n0 w.h0 hx);have:c.getD i 0=0:=by
  rw[aP];cases q:c[i]? with
  |none=>rfl
  |some v=>exact z v (bK q)
 rw[this]at e;exact e
theorem OU(w:Two m T a b p c)(w0:Two m T a b p c0)(z:∀x∈c0,x=0)(hp:p%2=1)(ZU:a≠b):cy m 5#4%2=cy m (goF T (dQ m T a b p c0))%2:=by
 have g:=w.g;have ht:=w.ht;have hs:=gF g ht ((p-1)/2);have inv:∀x,x<m->dQ m T a b p c (T x (pw T _ ((p-1)/2)))=dQ m T a b p c x:=λx hx=>OG g ht w.n0 w.h0 hx _;have ig:Inj m λx=>if dQ m T a b p c x=b then T x (pw T 3#8 ((p-1)/2)) else x:=by
  refine⟨λx hx=>?_,λx y hx hy e=>?_⟩
  .split
   .exact g.cl _ _ hx hs
   lia
  .by_cases c1:dQ m T a b p c x=b
   .rw[if_pos c1]at e
    by_cases c2:dQ m T a b p c y=b
    .rw[if_pos c2]at e
     exact g.cancelR hs hx hy e
    .rw[if_neg c2]at e
     rw[<-e,inv x hx]at c2<;>simp_all
   .rw[if_neg c1]at e
    by_cases c2:dQ m T a b p c y=b<;>simp_all
 rw[<-R9 w0.cho.inj ig]
 congr 1
 refine gn λx hx=>?_;unfold goF;by_cases c1:dQ m T a b p c x=b
 .rw[if_pos c1,inv x hx,if_pos c1,c1]
  have hy:=g.cl _ _ hx hs;have hy2:=g.cl _ _ hy hs;rw[zk w0 z hy2,g.as _ _ _ hx hs hs,<-si g ht];have hq:=gF g ht ((p-1)/2+(p-1)/2);rw[<-DE g w.ha w.hb (g.cl _ _ hx hq),qL g ht hx,show(p-1)/2+(p-1)/2+1=p by lia,w.h0,g.r0 x hx]
 .rw[if_neg c1,if_neg c1,zk w0 z hx]
  rcases Jo w hx with e|e<;>simp_all
theorem wa(w:Two m T a b p c)(z:∀x∈c,x=0){x:Nat}(hx:x<m):∀k,itF 5#4 k x=T x (pw T a k)
 |0=>(w.g.r0 x hx).symm
 | k+1=>by
   show goF T _ _=_;have hk:=w.g.cl _ _ hx (gF w.g w.ha k);rw[wa w z hx k];unfold goF;rw[zk w z hk,qL w.g w.ha hx]
theorem Hh(w:Two m T a b p c)(z:∀x∈c,x=0)(q1:1<=q)(h0:pw T a q=0)(h1:∀k,1<=k->k<q->pw T a k≠0){x:Nat}(hx:x<m):gh m 5#4 x=q:=by
 obtain⟨s1,s2,s3,s4⟩:=iy w.cho.inj hx;rw[wa w z hx]at s3;rcases ng _ q with e|e|e
 .exact absurd s3 (Pt w.g w.ha h1 hx s1 e)
 .omega
 .have:=s4 q q1 e
  rw[wa w z hx,h0,w.g.r0 x hx]at this
  simp_all
theorem DO{f:Nat->List Nat}:∀k,∀r∈(sdG f k).1,∃x,x<k/\r=f x
 |0,r,h=>by cases h
 | k+1,r,h=>by
   rw[sdG]at h
   split at h
   .obtain⟨x,hx,e⟩:=DO k r h
    exact⟨x,by lia,e⟩
   .rcases aQ.mp h with h|h
    .obtain⟨x,hx,e⟩:=DO k r h
     exact⟨x,by lia,e⟩
    .exact⟨k,by lia,bx.mp h⟩
theorem IM:∀(L:List 3#6),(∀r∈L,r.length=q)->L.flatten.length=3#0*q
 |[],_=>by simp
 | r::L,h=>by
   rw[m8,aU,IM L λr hr=>h r (.tail _ hr),h r (.head _),bU,qw,xW]
theorem M9(w:Two m T a b p c)(z:∀x∈c,x=0)(q1:1<=q)(h0:pw T a q=0)(h1:∀k,1<=k->k<q->pw T a k≠0):cy m 5#4=m/q:=by
 have I:=w.cho.inj;have e:=(yw I).length_eq
 rw[IM _ λr hr=>by
  obtain⟨x,hx,rfl⟩:=DO m r hr
  rw[mw,Hh w z q1 h0 h1 hx],aZ,rq I]at e
 exact(Nat.div_eq_of_eq_mul_left q1 e.symm).symm
theorem Kr(w:Two m T a b p c)(w0:Two m T a b p c0)(z:∀x∈c0,x=0)(ZU:a≠b)(hp:p%2=1)(q1:1<=q)(h0:pw T a q=0)(h1:∀k,1<=k->k<q->pw T a k≠0)(hq:m/q%2=0):cy m 5#4%2=0:=by
 rw[OU w w0 z hp ZU,M9 w0 z q1 h0 h1,hq]
theorem BE(w:Two m T a b p c):(cy m 5#4=1)↔gh m 5#4 0=m:=by
 have I:=w.cho.inj;have h0:=w.g.pos;rw[<-rq I,(Fq h0).1,uB I h0];constructor
 .intro h y hy
  by_cases e:y=0
  .subst e;exact LR I h0
  grind
 simp_all
end
end
section
open _L _G
variable{G:Rho}{S S1:Sto}{a:ME}
theorem Q3{us:List U}(ha:a G S=a_ (.tup us,S1)):mFn vg 4#2 G S=a_ (.ref 4#7,S1++[.lst us]):=fK ha rfl
theorem QX{n:Nat}(ha:a G S=a_ (.int n,S1))(hn:n<1000):iF (iR1 4#2) G S=a_ (.ref 4#7,S1++[.lst (ax (aq n))]):=by
 have e:=oQ ha (by unfold big;lia);have hz:(bI 0 n).length<=big:=by simp[bI,ar];unfold big;lia
 simp only[iF,e,aF];rw[if_pos hz];simp[bI,ax]
theorem UN{b:ME}(ha:a G S=a_ (.bl c_,S1)):mOr a b G S=a_ (.bl c_,S1):=by
 simp[mOr,ha,aF]
theorem Ub{b:ME}{r:Res U}(ha:a G S=a_ (.bl d_,S1))(hb:b G S1=r):mOr a b G S=r:=by
 simp[mOr,ha,aF,hb]
theorem Dv{a b:MT}(ha:a G S=a_ (d_,S1)):nu a b G S=a_ (d_,S1):=by simp[nu,ha,aF]
theorem Jx{a b:MT}{r:Option (Bool×Sto)}(ha:a G S=a_ (c_,S1))(hb:b G S1=r):nu a b G S=r:=by simp[nu,ha,aF,hb]
section
variable {m:Nat}{T:Nat->Nat->Nat}{S:Sto}{a b p q:Nat}{c:List Nat}
def thB:MS:=eG (mML jA (ae 4) (aa (mFn vg 6#5) ah))
variable{r:Nat}
theorem Jp{L:List (List Nat)}{t0 t1 t2 u5 v6 v7 v8:Option U}(hr:S[r]?=a_ (.lst (tups L)))(hL:3#0<1000)(hf:L.flatten.length<1000):
  ∃u S',fj 5 (dh 0#8) thB [t0,t1,t2,a_ (.ref r),2#5,u5,v6,v7,v8] (S++[.lst []])=a_ (.nx,[t0,t1,t2,a_ (.ref r),2#5,u,v6,v7,v8],S')/\Ex S S'/\S'[0#7]?=a_ (.lst (ax L.flatten)):=by
 obtain⟨X7,S3,e3,⟨z,rfl⟩,x3,q3⟩:=vS (i:=5) (e:=ae 3) (us:=tups L) (S:=S++[.lst []]) 0#1 (by unfold tups;rw[ar];lia)
  (λi G S3=>(∃z,G=[t0,t1,t2,a_ (.ref r),2#5,z,v6,v7,v8])/\Ex S S3/\S3[0#7]?=a_ (.lst (ax (L.take i).flatten)))
  ⟨⟨_,rfl⟩,Ex.push _ _,by rw[b9];rfl⟩ (λi G S3 hp=>by unfold getL;rw[hp.2.1.some hr]) (by
   rintro i u G S3 hu ⟨⟨z,rfl⟩,x3,q3⟩;obtain⟨w,hw,rfl⟩ :∃w,L[i]?=a_ w/\U.tup _=u:=by
    unfold tups at hu;rw[a9]at hu;exact di.mp hu
   have ft:(L.take (i+1)).flatten=(L.take i).flatten++w:=by rw[fk,hw];simp
   have fl:(L.take (i+1)).flatten.length<=L.flatten.length:=by
    have e:L.flatten=(L.take (i+1)).flatten++(L.drop (i+1)).flatten:=by rw[<-List.flatten_append,hU]
    simp_all
   rw[ft,aU]at fl;have ei:=Q3 (G:= [t0,t1,t2,a_ (.ref r),2#5,5#9,v6,v7,v8]) (S:=S3) (a:=ae 5) 0#1
   have ee:=yc (o:=ae 4) 0#1 ei q3 ((Ex.push _ _).some q3) 5#8 (by
    rw[cn,cn];unfold big;lia)
   have hq:0#7<(S3++[Cell.lst (ax w)]).length:=by
    have:=(ag.mp q3).1;simp;lia
   refine⟨_,_,ee,⟨_,rfl⟩,(x3.trans 3#4).set 2#1,?_⟩;rw[aV hq,ft]
   simp[ax])
 rw[show(tups L).length=3#0 by simp[tups],cR 2#1]at q3;exact⟨z,S3,e3,x3,q3⟩
theorem Two.zero(w:Two m T a b p c):Two m T a b p (aS c.length 0):=⟨w.g,w.hm,w.ha,w.hb,w.n0,w.n,w.h1,w.h0,by rw[qB];exact w.cl,λx hx=>by simp_all⟩
theorem Fo(w:Two m T a b p c):Lt m 10#4:=λy hy=>by
 obtain⟨x,hx,rfl⟩:=aw.mp hy;exact w.cho.lt x (KF w.cho.inj w.g.pos x hx)
theorem IB(w:Two m T a b p c)(ZU:a≠b)(hp:gh m 5#4 0=m):wOf m T a b p c∈gJ m T [a,b]:=by
 refine Fc w.g w.cho.inj (λx hx=>?_) (λs hs=>?_) hp
 .have:=Jo w hx<;>simp_all
 .simp at hs
  rcases hs with rfl|rfl
  .exact w.ha
  .exact w.hb
abbrev Ws:MT:=cOr (cOf (m2 oNe (m2 oIs (ae 6) 8#2) (m2 oGt 8#4 1#9))) (nu (cOf (m2 kA (ae 6) 8#2)) (cOf (m2 kA (mFn pR (aa 0#5 (aa 0#9 (aa (ae 6) ah)))) 14#1)))
theorem QW{v4 v5 v7 v8:Option U}(w:Two m T a b p c)(ZU:a≠b)(h2:2<=m)(hr:S[r]?=a_ (.lst (tups (sdG 15#7 m).1))):
  ∃S',Ws [1#2,14#7,9#2,a_ (.ref r),v4,v5,a_ (if gh m 5#4 0=m then .tup 21#0 else .non),v7,v8] S=a_ (d_,S')/\Ex S S':=by
 have I:=w.cho.inj;have hn:=rq I;have one:=BE w;have pos:=by
  have:=(rZ (q:=rOf m T a b p c) w.g.pos).1;exact(ag.mp this).1
 have hlen:∀G,G[3]?=a_ _->m2 _ _ _ G S=a_ (.bl (decide (1<(sdG 15#7 m).1.length)),S):=λG h=>by
  have:=FZ (tV (var_eq h) hr) (y:=1) c_i;rw[this]
  congr 3
  rw[show(tups _).length=(sdG 15#7 m).1.length by simp[tups]];rw[decide_eq_decide];lia
 by_cases hp:gh m 5#4 0=m
 .rw[if_pos hp]
  have l1:=hn.trans (one.mpr hp);have e0:=hlen [1#2,10#3,9#2,a_ _,v4,v5,a_ (.tup (ax 10#4)),v7,v8] rfl;rw[l1]at e0;have hw:=IB w ZU hp
  obtain⟨h1,h3,h4⟩:=(gq w.g (λs hs=>by
   simp at hs;rcases hs with rfl|rfl
   .exact w.ha
   ·exact w.hb) (by simpa using ZU)).mp hw
  obtain⟨S2,e2,x2⟩:=Wz w.g (by have:=w.hm;lia) (Fo w) (by have:=w.hm;lia) 0#0 h3 h1;have e3:=kE (G:= [a_ _,a_ _,9#2,a_ (.ref r),v4,v5,a_ _,v7,v8]) (a:=ae 0) (b:=ae 1) (c:=ae 6) 0#1 0#1 0#1 e2;refine⟨S2,_W.or_false (of_eq (op2 (op2 0#1 rfl rfl) e0 rfl)) (Jx (of_eq (op2 0#1 rfl rfl)) (of_eq (op2 e3 rfl rfl))),x2⟩
 .rw[if_neg hp]
  have l1:(sdG 15#7 m).1.length≠1:=λz=>hp (one.mp (hn.symm.trans z));have e0:=hlen [1#2,10#3,9#2,a_ _,v4,v5,a_ .non,v7,v8] rfl;rw[decide_eq_true 0#0]at e0;exact⟨S,_W.or_false (of_eq (op2 (op2 0#1 rfl rfl) e0 rfl)) (Dv (of_eq (op2 0#1 rfl rfl))),Ex.refl _⟩
end
end
section
open _L _G
section
variable {m:Nat}{T:Nat->Nat->Nat}{S:Sto}{a b p q:Nat}{c:List Nat}
abbrev rh6(m:Nat)(T:Nat->Nat->Nat)(a b:Nat)(c:List Nat)(u3 u4 u5 u6 u7 u8:Option U):Rho:= [1#2,14#7,9#2,u3,u4,u5,u6,u7,u8]
abbrev Wq:MS:=aX (bC 7 23#3) (aX (sIf (cOf (m2 oEq (m2 oMod (mFn fF (aa 0#5 (aa (ae 7) ah))) 2#2) 1#8)) (cb 14#1) dw) (aX (bC 8 (mFn cp 23#4)) (aX (sIf (cOf (m2 oNe (m2 oMod (m2 vY 8#4 (ae 8)) 2#2) 1#8)) 11#5 dw) (cb (mOr (m1 uh (mFn fX 5#2)) (m2 oEq (m2 oMod 8#4 2#2) 1#8))))))
theorem NR{r:Nat}{u4 u5 u6 u7 u8:Option U}(w:Two m T a b p c)(ZU:a≠b)(hr:S[r]?=a_ (.lst (tups (sdG 15#7 m).1))):
  ∃Y5 S',Wq (rh6 m T a b c 6#4 u4 u5 u6 u7 u8) S=a_ (.rt (.bl c_),Y5,S')/\Ex S S':=by
 have g:=w.g;have ht:=w.ht;obtain⟨q,q1,q2,q3,q4⟩:=g.ord w.ha;have hm:=w.hm;have e1:m2 _ (m2 _ 0#5 (m2 _ 0#9 _)) (mFn _ (aa 0#5 (aa (m2 _ 0#9 _) _))) (rh6 m T a b c 6#4 u4 u5 u6 u7 u8) S=a_ _:=
  kH (j9 g w.hb).1 (jm w.ha 0#1 (JE 0#1)) (cP 0#1 (Oi 0#1) (yd g w.hb))
 have op:∀S,fF _ S=a_ _:=λS=>kT g ht w.n0 (by have:=w.n;lia) w.h1 w.h0;have oq:∀S,fF _ S=a_ _:=λS=>kT g w.ha q1 0#0 q4 q3;have c2:=of_eq (Hl (G:=rh6 m T a b c 6#4 u4 u5 u6 _ u8) (y:=0) (vU (y:=2) (cP (a:=ae 0) (b:=ae 7) 0#1 0#1 (op S)) c_i 0#2) c_i);by_cases he:p%2=0
 .rw[decide_eq_true he]at c2
  exact⟨_,S,(aL (bj e1)).trans (Qj ((tm c2).trans (cz rfl))),Ex.refl _⟩
 rw[decide_eq_false he]at c2;have hp:p%2=1:=by lia
 have cl:c.length<1000:=by have:=w.cl;have:=w.len;lia
 obtain⟨r5,S5,e5,x5,_,g5⟩:=BK w.zero;have z0:∀x∈aS c.length 0,x=0:=λx hx=>(List.mem_replicate.mp hx).2;have n0:=rq w.zero.cho.inj;have n1:=rq w.cho.inj;have par:=OU w w.zero z0 hp ZU;have e6:mFn cp 23#4 (rh6 m T a b c 6#4 u4 u5 u6 (a_ (.int 3#8)) u8) S=a_ (.int 21#3,S5):=by
  have hl:=A8 (G:=rh6 m T a b c 6#4 u4 u5 u6 (a_ (.int 3#8)) u8) (S:=S) (a:=ae 2) 0#1;rw[cn]at hl;refine fK (kE 0#1 0#1 (UH (LX rfl) hl cl) e5) ?_;simp only[cp,FH g5,eB,getL,g5,dr];rw[show(tups _).length=(sdG (rOf m T a b p (aS c.length 0)) m).1.length by simp[tups],n0]
 have hr5:=x5.some hr;have e7:mFn cp (aa 0#8 ah) (rh6 m T a b c 6#4 u4 u5 u6 (a_ (.int 3#8)) (a_ (.int 21#3))) S5=a_ (.int (cy m 5#4),S5):=by
  rw[tV 0#1 hr5,show(tups _).length=(sdG 15#7 m).1.length by simp[tups],n1]
 have e8:=JZ (y:=2) (E6 e7 (b:=ae 8) 0#1) c_i 0#2;rw[show((cy m _:Nat)-(cy m _:Nat):Int)%2=(0:Int) by lia]at e8;have c8:=of_eq (Hb e8 (y:=0) c_i);have eb:=cP (G:=rh6 m T a b c 6#4 u4 u5 u6 (a_ (.int 3#8)) (a_ (.int 21#3))) (S:=S5) (a:=ae 0) (b:=ae 1) 0#1 0#1 (yh g w.ha w.hb q1 0#0 op oq);have e9:=Uo eb;have fin:mOr (m1 uh (mFn fX 5#2)) (m2 oEq (m2 oMod 8#4 2#2) 1#8) (rh6 m T a b c 6#4 u4 u5 u6 (a_ (.int 3#8)) (a_ (.int 21#3))) S5=a_ (.bl c_,S5):=by
  by_cases hq:m/q%2=0
  .rw[decide_eq_true hp,decide_eq_true hq]at e9
   have:=Kr w w.zero z0 ZU hp q1 q3 q4 hq;have V':=Hl (vU (y:=2) e7 c_i 0#2) (y:=0) c_i;rw[decide_eq_true this]at V';exact Ub e9 V'
  .rw[decide_eq_true hp,decide_eq_false hq]at e9
   exact UN e9
 exact⟨_,S5,(aL (bj e1)).trans ((aL ((kO c2).trans rfl)).trans ((aL (bj e6)).trans ((aL ((kO c8).trans rfl)).trans (cz fin)))),x5⟩
theorem Nd(w:Two m T a b p c)(ZU:a≠b)(h2:2<=m):∃S',gc 22#5 S=a_ (.bl c_,S')/\Ex S S':=by
 obtain⟨r,S1,e1,x1,l1,q1⟩:=BK (S:=S) w;have hm:=w.hm;have YW:=yw w.cho.inj;have hfl:(sdG 15#7 m).1.flatten.length=m:=by rw[YW.length_eq,aZ]
 have hL:=EU (q:=rOf m T a b p c) m;obtain⟨u,S3,e3,x3,q3⟩:=Jp (S:=S1) q1 0#0 0#0;have f4:=Nv (qW (G:=rh6 m T a b c 6#4 _ u b_ b_ b_) (S:=S3) (a:=ae 4) 0#1 q3 0#0) (QX (len_tab (a:=ae 0) (m:=m) (T:=T) 0#1) 0#0) ((Ex.push _ _).some 5#8) 5#8;rw[decide_eq_true (by rw[oR YW,yR])]at f4;generalize hS4:S3++[Cell.lst _]++[Cell.lst _]=S4 at f4;have x4:Ex S3 S4:=by rw[<-hS4];exact(Ex.push _ _).trans 3#4
 obtain⟨S5,e5,x5⟩:=zK (S:=S4) w;have q5:=((x3.trans x4).trans x5).some q1;obtain⟨S6,e6,x6⟩:=QW (S:=S5) (v5:=u) w ZU h2 q5;obtain⟨Z1,S7,e7,x7⟩:=NR (S:=S6) (u5:=u) w ZU (x6.some q5);refine⟨S7,cK (G:=Z1) rfl ?_,((((x1.trans x3).trans x4).trans x5).trans x6).trans x7⟩;exact(aL (bj (kE 0#1 0#1 0#1 e1))).trans ((aL (bj jD)).trans ((aL e3).trans ((aL ((kO (of_eq f4)).trans rfl)).trans ((aL (bj (kE 0#1 0#1 0#1 e5))).trans ((aL ((kO e6).trans rfl)).trans e7)))))
end
end
section
open _L _G
section
variable {m:Nat}{T:Nat->Nat->Nat}{S:Sto}{a b p q:Nat}{c:List Nat}
theorem IL{f:Nat->Nat}{ch:Nat->Nat}(hf:∀x,f x=T x (ch x)):∀k,plc T ((rgK f 0 k).map ch)=rgK f 0 (k+1)/\fv T ((rgK f 0 k).map ch)=itF f k 0
 |0=>⟨rfl,rfl⟩
 | k+1=>by
   obtain⟨h1,h2⟩:=IL hf k;rw[qJ,bL,dy,List.map_nil,lT,lQ,h1,h2,<-hf,qJ (k:=k+1)];exact⟨rfl,rfl⟩
theorem Sq(w:Two m T a b p c)(hp:gh m 5#4 0=m):plc T 10#4=rOf m T a b p c 0++[itF 5#4 m 0]:=by
 unfold wOf rOf rg;rw[hp,(IL (T:=T) (f:=goF T _) (λx=>rfl) m).1,qJ]
theorem V6(w:Two m T a b p c)(hp:gh m 5#4 0=m){x:Nat}(hx:x<m):x∈plc T 10#4/\(ax 10#4)[(plc T 10#4).idxOf x]?=a_ (.int (dQ m T a b p c x:Nat)):=by
 have I:=w.cho.inj;have ZI:=(uB I w.g.pos).mp hp x hx;rw[Sq w hp];rw[List.idxOf_append];have hl:=nk.mpr ZI;unfold ax wOf
 simp_all
theorem PQ{l:List Nat}{v:Nat}(hl:l≠[])(h:∀x∈l,x=v):ddN l=[v]:=by
 have hm:v∈ddN l:=by
  obtain⟨x,hx⟩:=List.exists_mem_of_ne_nil l hl;rw[EG,<-h x hx];omega
 have nd:=Rf l;have ha:=λx hx=>h x (EG.mp hx)
 match q:ddN l with
 |[]=>grind
 |[x]=>simp_all
 | x::y::r=>
   simp_all
def bsB:MS:=aX (bC 6 (mFn bSS (aa (bW (dh (ae 5)) cTT (m2 oIx 0#6 (mMT eZ 0#8 (aa (ae 7) ah)))) ah))) (aX (sIf (cOf (m2 oNe (mFn cp (aa (ae 6) ah)) 1#9)) (cb 8#2) dw) (eG (mML de (ae 4) (aa (mMT eZ 0#9 (aa (m2 oIx (ae 6) 1#8) ah)) ah))))
abbrev rb6(m:Nat)(T:Nat->Nat->Nat)(a b:Nat)(w:List Nat)(u3 u4 u5 u6:Option U):Rho:= [1#2,14#7,5#9,u3,u4,u5,u6]
theorem Px(w:Two m T a b p c)(ZU:a≠b)(hp:gh m 5#4 0=m):∃S',gO [tab m T,.tup 13#4,.tup (ax 10#4)] S=a_ (.tup (ax c),S')/\Ex S S':=by
 have g:=w.g;have hm:=w.hm;have wl:(wOf m T a b p c).length=m:=by rw[ar,mw,hp]
 obtain⟨S1,e1,x1⟩:=OJ g (Fo w) 0#0;have s1:mFn _ 12#1 (rb6 m T a b _ b_ b_ b_ b_) S=a_ _:=cP 0#1 0#1 e1;obtain⟨r2,S2,e2,x2,l2,q2⟩:=qO g 0#0 w.ha w.hb rfl w.n0 (by have:=w.n;lia) w.h1 w.h0;have s2:mFn _ 5#2 (rb6 m T a b 10#4 22#6 (a_ (.ref 4#7)) b_ b_) (S1++[.lst []])=a_ _:=cP 0#1 0#1 e2;have hll:=w.len;obtain⟨X7,S3,e3,⟨z5,z6,rfl⟩,x3,q3⟩:=vS (i:=5) (us:=tups (lOf m T a b p)) (b:=bsB) s2 (by unfold tups;rw[ar];lia)
  (λi G S3=>(∃z5 z6,G=rb6 m T a b _ _ _ z5 z6)/\(Ex S S3/\S3[r2]?=a_ (.lst (tups (lOf m T a b p))))/\S3[4#7]?=a_ (.lst (ax (c.take i))))
  ⟨⟨_,_,rfl⟩,⟨(x1.trans 3#4).trans x2,q2⟩,by rw[x2.some 5#8];rfl⟩ (λi G S3 hp=>by unfold getL;rw[hp.2.1.2]) (by
   rintro i u G S3 hu ⟨⟨z5,z6,rfl⟩,⟨x3,r3⟩,q3⟩;obtain⟨s,hs,rfl⟩ :∃s,(lOf m T a b p)[i]?=a_ s/\U.tup _=u:=by
    unfold tups at hu;rw[a9]at hu;exact di.mp hu
   have hi:=(ag.mp hs).1;have hic:i<c.length:=by rw[w.cl];exact hi
   have sg:(lOf m T a b p).getD i []=s:=by rw[aP,hs];rfl
   have YE:=bK hs;have slt:=PD g w.ht s YE;have sl:=EH (by have:=w.n;lia) s YE;have Yr:∀x∈s,dQ m T a b p c x=stp a b _:=λx hx=>E3 g w.ht w.n0 w.h0 (slt x hx) hi (by rw[sg];exact hx);have sne:s≠[]:=λz=>by
    have e:=congrArg eV (sg.symm.trans (wD hi));rw[mL,MH,z]at e;have:=w.n0;simp at e;lia
   have f5:=yn (t:=cTT) (e:=m2 oIx 0#6 (mMT _ 0#8 (aa (ae 7) ah))) (G:=rb6 m T a b _ _ (a_ (.ref 4#7)) _ z6) (S:=S3) (a:=ae 5) (l:=s) 0#1 0#0 (λ_ _=>rfl) (λx hx _=>by
    obtain⟨a1,a2⟩:=V6 w hp (slt x hx)
    exact BI (var_eq rfl) (kI (var_eq rfl) (var_eq rfl) a1) (kR a2))
   rw[uf.mpr (λ_ _=>rfl),show s.map _=ax _ by unfold ax;rw[bq];rfl]at f5
   have hdd:=PQ (λz=>sne (List.map_eq_nil_iff.mp z)) (λy hy=>by
    obtain⟨x,hx,rfl⟩:=aw.mp hy
    exact Yr x hx)
   have f6:=Wc f5 5#8 (by rw[ar];lia) (by rw[hdd];simp);rw[hdd,PR 0#3]at f6;have x6:Ex S3 (S3++[Cell.lst (ax (s.map (dQ m T a b p c)))]++[Cell.lst (ax [stp a b (c.getD i 0)])]):=(Ex.push _ _).trans 3#4;have q6:(S3++[Cell.lst _]++[Cell.lst (ax [stp a b (c.getD i 0)])])[(S3++[Cell.lst (ax (s.map (dQ m T a b p c)))]).length]?=a_ _:=b9 _ _;generalize (S3++[Cell.lst _]).length=r6 at f6 q6;generalize S3++[Cell.lst _]++[Cell.lst _]=S6 at f6 x6 q6;have c7:=of_eq (Hb (G:=rb6 m T a b 10#4 22#6 (a_ (.ref 4#7)) (a_ (.tup (ax s))) _) (y:=1) (tV (a:=ae 6) 0#1 q6) c_i);have ci2:c.getD i 0<2:=by
    rw[aP,aC hic];exact w.c2 _ (bQ hic)
   have ZW:stp a b (c.getD i 0)∈[a,b] /\ [a,b].idxOf (stp a b (c.getD i 0))=c.getD i 0:=by
    unfold stp;by_cases z:c.getD i 0=0
    .rw[z];simp
    .rw[if_neg z,show c.getD i 0=1 by lia]
     rw[AF,beq_eq_false_iff_ne.mpr ZU];simp
   have f8:=by
    have:=kI (G:=rb6 m T a b 10#4 22#6 (a_ (.ref 4#7)) (a_ (.tup (ax s))) _) (o:=ae 1) (a:=m2 oIx (ae 6) _) 0#1 (BL 0#1 c_i q6 (kR (k:=0) rfl)) ZW.1;rw[ZW.2]at this;exact this
   have q7:=x6.some q3;have f9:=append_eq (o:=ae 4) 0#1 f8 q7 q7 (by rw[cn,c6];unfold big;lia);have hq:=(ag.mp q7).1;have r6':=x6.some r3;refine⟨_,_,(aL (bj f6)).trans ((aL ((kO c7).trans rfl)).trans f9),⟨_,_,rfl⟩,⟨(x3.trans x6).set x1.len,?_⟩,?_⟩
   .rw[aN (by simp at l2;lia)]
    exact r6'
   .rw[aV hq,fk,aC hic]
    have:c.getD i 0=c[i]:=by rw[aP,aC hic];rfl
    rw[this];unfold ax
    rw[bL];rfl)
 rw[show(tups _).length=c.length by simp[tups,w.cl],cR 2#1]at q3;refine⟨S3,cK (G:=rb6 m T a b 10#4 22#6 (a_ (.ref 4#7)) z5 z6) rfl ?_,x3.1⟩;refine(aL (bj s1)).trans ((aL (bj jD)).trans ((aL e3).trans (cz ?_)));exact fK 0#1 (by simp only[bN,eB,getL,q3,dr])
end
end
section
open _L _G
section
variable {m:Nat}{T:Nat->Nat->Nat}{S:Sto}{a b p q:Nat}{c:List Nat}
theorem Ki(g:Grp m T)(hm:m<=16)(ha:a<m)(hb:b<m)(ZU:a<b):∃r S',bT [tab m T,.tup (ax [a,b])] S=a_ (.ref r,S')/\Ex S S'/\S'[r]?=a_ (.lst 13#7):=by
 obtain⟨p,p1,p2,p3,p4⟩:=g.ord 20#2;have h:=sk g ha hb 0#0 p1 p3;exact QK g 0#0 0#0 ha hb ZU p1 p2 p4 p3
theorem Oa(g:Grp m T)(hm:m<=16)(ha:a<m)(hb:b<m)(ZU:a<b):(gJ m T [a,b]).length<=256:=by
 obtain⟨p,p1,p2,p3,p4⟩:=g.ord 20#2;have h:=sk g ha hb 0#0 p1 p3;have h1:=congrArg eV (wu g ha hb ZU p1 p3);rw[(pV _).length_eq,ar,ar]at h1;rw[<-h1];unfold walks;rw[ar];have h2:=hZ (gdC m T a b p) (iR (lOf m T a b p).length);rw[ow]at h2;have h3:2^(lOf m T a b p).length<=2^8:=tF 0#2 0#0
 lia
theorem JH:∀{us:List Nat},1#3=2->us.Pairwise 7#5->Lt m us->∃x y,us=[x,y]/\x<m/\y<m/\x<y
 |[x,y],_,h,l=>⟨x,y,rfl,l x 0#3,l y 0#3,by simpa using h⟩
theorem Pa(g:Grp m T)(hm:m<60)(ha:a<m)(hb:b<m)(ZU:a≠b)(p1:1<=p)(p2:p<=m)(h1:∀k,1<=k->k<p->pw T 3#8 k≠0)(h0:pw T 3#8 p=0)(hp:p%2=1)(q1:1<=q)(q0:pw T a q=0)(q4:∀k,1<=k->k<q->pw T a k≠0)(hq:m/q%2=0):gJ m T [a,b]=[]:=by
 refine List.eq_nil_iff_forall_not_mem.mpr λw hw=>?_;obtain⟨c,c1,c2,c3,_⟩:=p9 g ha hb ZU p1 h0 hw;have tw:Two m T a b p c:=⟨g,hm,ha,hb,p1,by lia,h1,h0,c1,c2⟩;have e:=Kr tw tw.zero (λx hx=>(List.mem_replicate.mp hx).2) ZU hp q1 q0 q4 hq;rw[(BE tw).mpr c3]at e;cases e
theorem GD{us:List Nat}(g:Grp m T)(hs:Lt m [a,b])(ZW: [a,b].Pairwise 7#5)(hu:Lt m us)(W6:us.Pairwise 7#5)(h1:∀x∈[a,b],unT m T x∈us)(h2:∀x∈us,unT m T x∈[a,b]):(gJ m T us).Perm ((gJ m T [a,b]).map (bk m T)):=by
 have key:∀{st us:List _},Lt m st->st.Pairwise _->Lt m us->us.Pairwise _->(∀x∈st,unT m T x∈us)->∀w∈gJ m T st,bk m T w∈gJ m T us/\bk m T _=w:=λ{st us} hs ZW hu W6 h w hw=>by
  obtain⟨h1,h2,h3⟩:=(gq g hs (AM ZW)).mp hw;refine⟨(gq g hu (AM W6)).mpr ⟨h1.bk g (rH hs h2),λx hx=>?_,by rw[Dc];omega⟩,To g (rH hs h2)⟩;obtain⟨y,hy,rfl⟩:=aw.mp hx
  simp_all
 refine(fE (Ac W6 _ _ _) ?_).mpr λw=>⟨λhw=>?_,λhw=>?_⟩
 .rw[ay,aW]
  refine bM (λ{u v} hu' hv ZN e=>ZN ?_) (ay.mp (Ac ZW _ 0 _));rw[<-(key hs ZW hu W6 h1 u hu').2,<-(key hs ZW hu W6 h1 v hv).2,e]
 .obtain⟨k1,k2⟩:=key hu W6 hs ZW h2 w hw
  exact aw.mpr ⟨_,k1,k2⟩
 .obtain⟨v,hv,rfl⟩:=aw.mp hw
  exact(key hs ZW hu W6 h1 v hv).1
variable{G:Rho}{S1:Sto}{r:Nat}
theorem V4{e:ME}{L M:List (List Nat)}(he:e G S=a_ (.ref r,S1))(hr:S1[r]?=a_ (.lst (tups L)))(hl:3#0<100000)(hn:∀w∈L,w≠[])(hp:M.Perm L)(hM:(M.map dC).Pairwise λa b=>HT.lexLt a b=c_):mFn iG (aa e ah) G S=a_ (.ref 4#7,S1++[.lst (tups M)]):=by
 refine fK he ?_;have hg:getL S1 r=a_ (tups L):=by unfold getL;rw[hr]
 have nM:=ay.mpr (hM.imp λ{u v} h e=>by rw[e,mJ]at h;cases h);have nL:=(hp.map _).nodup_iff.mp nM
 have ok:okT _:=⟨by simp_all,nL,λl h z=>by
  obtain⟨w,hw,rfl⟩:=aw.mp h
  exact hn w hw (oY z)⟩
 simp only[iG,F9,hg,aO,pZ];rw[if_pos ok,<-wI nL (hp.map _) hM,xZ];rfl
theorem VR{e:ME}{l:List Nat}(he:e G S=a_ (.ref r,S1))(hr:S1[r]?=a_ (.lst (ax l)))(h0:l≠[])(hl:2#8<64):mFn iG (aa e ah) G S=a_ (.ref 4#7,S1++[.lst (ax (srt l))]):=by
 have e1:=qW he hr hl;have e2:=by
  simp[mFn,aa,ah,he,aF]at e1;omega
 refine fK he ?_;have hg:getL S1 r=a_ (ax l):=by unfold getL;rw[hr]
 have hn:dJ pN (ax l)=b_:=by
  match l,h0 with
  |x::l,_=>rfl
 simp only[iG,F9,hg,aO,hn,e2];rfl
abbrev rl6(k:Int)(n m:Nat)(T:Nat->Nat->Nat)(a b N:Nat)(u6 u7 u8 u9 u10 u11 u12:Option U):Rho:= [a_ (.ref 0),5#5,6#0,1#2,a_ (.tup (ax [a,b])),a_ (.int (N:Nat)),u6,u7,u8,u9,u10,u11,u12]
abbrev Vt:MS:=aX 25#9 23#0
theorem Nq{k:Int}{n N:Nat}{u6 u8 u9 u10 u11 u12:Option U}(g:Grp m T)(hm:m<=16)(ha:a<m)(hb:b<m)(ZU:a<b)(hr:S[r]?=a_ (.lst 13#7)):
  ∃v8 v9 S',fj 8 26#7 Vt 21#2 S=a_ (.nx,rl6 k n m T a b N u6 6#4 v8 v9 u10 u11 u12,S')/\Ex S S':=by
 obtain⟨p,p1,p2,p3,p4⟩:=g.ord 20#2;have hlen:=Oa g hm ha hb ZU;have hg:getL S r=a_ 13#7:=by unfold getL;rw[hr]
 have e1:mSl (ae 7) b_ (a_ (mC (.int 4))) 21#2 S=a_ (.ref 0#7,S++[.lst (cut 13#7 b_ (a_ 4))]):=by
  have v7:ae 7 (rl6 k n m T a b N u6 _ u8 u9 u10 u11 u12) S=a_ (.ref r,S):=var_eq rfl;simp[mSl,v7,aF,Co,mC,hg,dr]
 have hcut:∀u∈cut (tups _) b_ (a_ 4),∃w∈gJ m T [a,b],u=.tup (ax w):=λu hu=>by
  have:=fS (eW hu);obtain⟨w,hw,rfl⟩:=aw.mp this;exact⟨w,hw,rfl⟩
 have YN:(cut 13#7 b_ (a_ 4)).length<100000:=by
  unfold cut;rw[c6,iN];have:(tups (gJ m T [a,b])).length<=256:=by simpa [tups]using hlen
  lia
 obtain⟨X7,S3,e3,⟨v8,v9,rfl⟩,x3⟩:=vS (i:=8) (b:=Vt) e1 YN
  (λ_ G S3=>(∃v8 v9,G=rl6 k n m T a b N u6 _ v8 v9 _ _ _)/\Ex _ S3) ⟨⟨_,_,rfl⟩,Ex.refl _⟩ (λi G S3 hp=>by unfold getL;rw[hp.2.some 5#8]) (by
   rintro i u G S3 hu ⟨⟨v8,v9,rfl⟩,x3⟩;obtain⟨w,hw,rfl⟩:=hcut u (bK hu);obtain⟨c,c1,c2,c3,c4⟩:=p9 g ha hb 0#0 p1 p3 hw;have tw:Two m T a b p c:=⟨g,by lia,ha,hb,p1,by lia,p4,p3,c1,c2⟩;obtain⟨S4,e4,x4⟩:=Px tw 0#0 c3;obtain⟨S5,e5,x5⟩:=zK tw;rw[if_pos c3]at e5;rw[show wOf m T a b p c=w from c4]at e4;rw[c4]at e5;have f4:=kE (G:=rl6 k n m T a b N u6 6#4 _ v9 u10 u11 u12) (a:=ae 3) (b:=ae 4) (c:=ae 8) 0#1 0#1 0#1 e4;have f5:=Pp (y:=w) (kE (G:=rl6 k n m T a b N u6 6#4 _ _ u10 u11 u12) (a:=ae 3) (b:=ae 4) (c:=ae 9) 0#1 0#1 0#1 e5) (b:=ae 8) 0#1;rw[decide_eq_true rfl]at f5
   exact⟨_,S5,(aL (bj f4)).trans ((kO (_W.or_false (of_eq (op2 (var_eq rfl) rfl rfl)) (of_eq f5))).trans rfl),⟨_,_,rfl⟩,(x3.trans x4).trans x5⟩)
 exact⟨v8,v9,S3,e3,(Ex.push _ _).trans x3⟩
end
end
section
open _L _G
section
variable {m:Nat}{T:Nat->Nat->Nat}{S:Sto}{a b p q:Nat}{c:List Nat}
abbrev Wt:MS:=aX (bC 7 (mFn bT 12#0)) (aX (sIf (nu (cOf (mFn fX 12#0)) (cOf (m2 oNe (ae 7) (dP ah)))) 11#5 dw) (aX (fj 8 26#7 (aX 25#9 23#0)) (aX (bC 10 (mFn bT (aa 0#8 (aa (mFn jb 12#0) ah)))) (aX (sIf (cOf (m2 oNe 24#0 (ae 10))) 11#5 dw) (aX (bC 11 (mFn iL (aa 0#6 (aa 8#4 ah)))) (aX (bC 12 (mFn bN (aa (mFn iG (aa (bW (dh (ae 4)) cTT (mMT eZ (ae 11) (aa (ae 13) ah))) ah)) ah))) (sIf (cOf (m2 oNe (mFn cp 24#1) (mFn cp (aa (ae 7) ah)))) 11#5 dw)))))))
variable{n:Nat}
theorem Cd{G:Rho}{S1 S2:Sto}{x y:ME}{k:Nat}{L:List (List Nat)}(ha:x G S=a_ (.ref n,S1))(hb:y G S1=a_ (.ref k,S2))(hn:S2[n]?=a_ (Cell.lst (tups L)))(hk:S2[k]?=a_ (Cell.lst (tups L))):m2 oNe x y G S=a_ (.bl d_,S2):=by
 refine op2 ha hb ?_;simp only[oNe,_G.eqU,Bv hn,Bv hk,aO,dr,fi,BP];simp
theorem Sr{k:Int}{N r:Nat}{u6 u8 u9 u10 u11 u12:Option U}(g:Grp m T)(hm:m<=16)(ha:a<m)(hb:b<m)(ZU:a<b)(hr:S[r]?=a_ (.lst 13#7)):
  ∃S',nu (cOf (mFn fX 12#0)) (cOf (m2 oNe (ae 7) (dP ah))) 21#2 S=a_ (d_,S')/\Ex S S':=by
 obtain⟨p,p1,p2,p3,p4⟩:=g.ord 20#2;obtain⟨q,q1,q2,q3,q4⟩:=g.ord ha;have eb:=of_eq (cP (G:=rl6 k n m T a b N u6 6#4 u8 u9 u10 u11 u12) (S:=S) (a:=ae 3) (b:=ae 4) 0#1 0#1 (yh g ha hb q1 0#0 (λS=>kT g 20#2 p1 0#0 p4 p3) (λS=>kT g ha q1 0#0 q4 q3)));by_cases hp:p%2=1
 .by_cases hq:m/q%2=0
  .rw[decide_eq_true hp,decide_eq_true hq]at eb
   have e0:=Pa g 0#0 ha hb 0#0 p1 p2 p4 p3 hp q1 q3 q4 hq;rw[e0]at hr;exact⟨_,Jx eb (of_eq (Cd 0#1 jD ((Ex.push _ _).some hr) 5#8)),Ex.push _ _⟩
  .rw[decide_eq_false hq,Bool.and_false]at eb
   exact⟨S,Dv eb,Ex.refl _⟩
 .rw[decide_eq_false hp]at eb
  exact⟨S,Dv eb,Ex.refl _⟩
theorem UM{k:Int}{N r:Nat}{u6 u8 u9 u10 u11 u12:Option U}(g:Grp m T)(hm:m<=16)(ha:a<m)(hb:b<m)(ZU:a<b)(hr:S[r]?=a_ (.lst 13#7)):
  ∃r2 S2,(mFn bT (aa 0#8 (aa (mFn jb 12#0) ah)) 21#2 S=a_ (.ref r2,S2)/\Ex S S2) /\
   ∃S3,m2 oNe 24#0 (ae 10) 25#2 S2=a_ (.bl d_,S3)/\Ex S2 S3:=by
 have hs:Lt m [a,b]:=λs hs=>by
  simp at hs;rcases hs with rfl|rfl<;>assumption
 have ZW: [a,b].Pairwise 7#5:=by simpa using ZU
 have hul:=TF g hs;have hur:=AZ ZW hs (Q4 g);obtain⟨x,y,WX,hx,hy,Ys⟩:=JH (by rw[mL];rfl) hur hul;obtain⟨S1,e1,x1⟩:=Tq g hs 0#3;rw[WX]at e1;obtain⟨r2,S2,e2,x2,q2⟩:=Ki g hm hx hy Ys;refine⟨r2,S2,⟨cP 0#1 16#8 e2,x1.trans x2⟩,?_⟩;have ZT:=(x1.trans x2).some hr;have hlen:=Oa g hm ha hb ZU;have XF:∀w∈gJ m T _,Lt m w/\4#6=m:=λw hw=>by
  obtain⟨_,h2,h3⟩:=(gq g hs (AM ZW)).mp hw;exact⟨rH hs h2,h3⟩
 obtain⟨S4,e4,x4⟩:=p7 (G:=rl6 k n m T a b N u6 6#4 u8 u9 (a_ (.ref r2)) u11 u12) (f:=λu => .tup (ax (bk m T (dU u)))) _ (λS' x=>by unfold getL;rw[x.some ZT]) (λu hu S' x=>by
  obtain⟨w,hw,rfl⟩:=aw.mp hu;obtain⟨h1,h2⟩:=XF w hw;obtain⟨S5,e5,x5⟩:=Vf g h1 0#0;refine⟨S5,?_,x.trans x5⟩;rw[zQ]
  exact cP (f:=sU) (a:=ae 3) (b:=ae 13) (var_eq rfl) (var_eq rfl) e5) fuel 0 [] S2 (bS _) (by unfold fuel tups;rw[ar];lia) (Ex.refl _)
 rw[rO,ej,show(tups _).map _=tups _ by
  unfold tups;rw[bq,bq];apply aR;intro c _;show U.tup _=_
  rw[zQ];rfl]at e4
 have e5:bW (dh (ae 7)) cTT (mFn sU (aa 0#8 (aa (ae 13) ah))) 25#2 S2=a_ (.ref S4.length,S4++[.lst (tups ((gJ m T [a,b]).map (bk m T)))]):=by
  have hg:getL S2 r=a_ 13#7:=by unfold getL;rw[ZT]
  have hi:dh (ae 7) 25#2 S2=a_ (.mut r,S2):=by
   have v7:ae 7 (rl6 k n m T a b N u6 _ u8 u9 (a_ (.ref r2)) u11 u12) S2=a_ (.ref r,S2):=var_eq rfl;simp[dh,v7,aF,hg,dr]
  simp only[bW,hi,aF,A4,e4];exact if_pos (by unfold tups;rw[ar,ar];unfold big;lia)
 have bp:=GD g hs ZW (us:= [x,y]) (by rw[<-WX];exact hul) (by rw[<-WX];exact hur) (λz hz=>by rw[<-WX];exact VJ z hz) (λz hz=>Mp g hs z (by rw[WX];exact hz))
 have f6:=V4 e5 5#8 (by rw[ar];lia) (λw hw z=>by
  obtain⟨v,hv,rfl⟩:=aw.mp hw;have:=congrArg eV z;rw[Dc,(XF v hv).2]at this;simp at this
  lia) bp (rC (by simpa using Ys) _ _ _)
 have q6:=((x4.trans (Ex.push _ (Cell.lst (tups ((gJ m T [a,b]).map (bk m T)))))).trans (Ex.push _ (Cell.lst (tups (gJ m T [x,y]))))).some q2;exact⟨_,Cd f6 0#1 5#8 q6,(x4.trans 3#4).trans 3#4⟩
theorem DZ{k:Int}{N:Nat}{u6 o7 o8 o9 o10 o11 o12:Option U}(h:pq n S)(g:Grp m T)(h3:3<=m)(hm:m<=16)(ha:a<m)(hb:b<m)(ZU:a<b):
  ∃u7 u8 u9 u10 u11 u12 S',Wt (rl6 k n m T a b N u6 o7 o8 o9 o10 o11 o12) S=a_ (.nx,rl6 k n m T a b N u6 u7 u8 u9 u10 u11 u12,S')/\Stp n S S':=by
 obtain⟨r1,S1,e1,x1,q1⟩:=Ki g hm ha hb ZU;obtain⟨S2,e2,x2⟩:=Sr (k:=k) (n:=n) (N:=N) (u6:=u6) (u8:=o8) (u9:=o9) (u10:=o10) (u11:=o11) (u12:=o12) g hm ha hb ZU q1;have q2:=x2.some q1;obtain⟨v8,v9,S3,e3,x3⟩:=Nq (k:=k) (n:=n) (N:=N) (u6:=u6) (u8:=o8) (u9:=o9) (u10:=o10) (u11:=o11) (u12:=o12) g hm ha hb ZU q2;have q3:=x3.some q2;obtain⟨r4,S4,⟨e4,x4⟩,S5,e5,x5⟩:=UM (k:=k) (n:=n) (N:=N) (u6:=u6) (u8:=v8) (u9:=v9) (u10:=o10) (u11:=o11) (u12:=o12) g hm ha hb ZU q3;have q5:=(x4.trans x5).some q3;have Zj:=Stp.ex h ((((x1.trans x2).trans x3).trans x4).trans x5);obtain⟨l,S6,e6,st6,ol⟩:=B4 (m:=m) Zj.st 0#0 0#0;have ZZ:r1≠n:=λz=>by
  obtain⟨s,bb,hq⟩:=Zj.st;rw[z]at q5;rw[q5]at hq;have e:tups (gJ m T [a,b])=[.int s,.bl bb]:=by simp_all
  have:=congrArg (λl=>l[1]?) e;unfold tups at this
  simp_all
 have q6:=st6.some ZZ q5;have hs:Lt m [a,b]:=λs hs=>by
  simp at hs;rcases hs with rfl|rfl<;>assumption
 have ZW: [a,b].Pairwise 7#5:=by simpa using ZU
 have f6:=cP (G:=rl6 k n m T a b N u6 (a_ (.ref r1)) v8 v9 (a_ (.ref r4)) o11 o12) (a:=ae 2) (b:=mFn _ (aa 0#8 _)) 0#1 11#8 e6;have f7:=nJ (e:=mMT _ (ae 11) (aa (ae 13) _)) (G:=rl6 k n m T a b N u6 (a_ (.ref r1)) v8 v9 (a_ (.ref r4)) _ o12) (S:=S6) (a:=ae 4) (f:=λx=>.int (pF l x)) 0#1 0#3 (λx hx=>kI 0#1 0#1 (ol.mem.mpr (hs x hx)));rw[show([a,b].map _)=ax ([a,b].map (pF l)) by simp[ax]]at f7;have f8:=fo (VR f7 5#8 0#3 0#3);have x8:Ex S6 (S6++[Cell.lst (ax ([a,b].map (pF l)))]++[Cell.lst (ax (srt ([a,b].map (pF l))))]):=(Ex.push _ _).trans 3#4;generalize S6++[Cell.lst _]++[Cell.lst _]=S8 at f8 x8;have od:=ol.ord;have g':=sf g od;have hnl:=Oq od hs;have hnr:=Dz od hs ZW;have hnm:=NF g od hs ZW;obtain⟨x,y,WX,hx,hy,Ys⟩:=JH (by rw[mL];rfl) hnr hnl;rw[WX]at f8 hnm;obtain⟨S9,e9,x9⟩:=Vz (by unfold big;lia) g.cl ol;obtain⟨r10,S10,V',x10,q10⟩:=Ki g' hm hx hy Ys;have f10:mFn cp 24#1 (rl6 k n m T a b N u6 (a_ (.ref r1)) v8 v9 (a_ (.ref r4)) (a_ (.tup (ax l))) (a_ (.tup (ax [x,y])))) S8=a_ (.int ((gJ m T [a,b]).length),S10):=by
  refine fK (cP (cP 0#1 0#1 e9) 0#1 V') ?_;simp only[cp,FH q10,eB,getL,q10,dr];rw[show(tups _).length=(gJ m T _).length by rw[<-hnm];simp[tups]]
 have q11:=((x8.trans x9).trans x10).some q6;have f11:mFn cp (aa (ae 7) ah) (rl6 k n m T a b N u6 (a_ (.ref r1)) v8 v9 (a_ (.ref r4)) (a_ (.tup (ax l))) (a_ (.tup (ax [x,y])))) S10=a_ (.int ((gJ m T [a,b]).length),S10):=by
  rw[tV 0#1 q11];simp[tups]
 have c12:=of_eq (Hb f10 f11);rw[decide_eq_true rfl]at c12;refine⟨a_ (.ref r1),v8,v9,a_ (.ref r4),a_ (.tup (ax l)),a_ (.tup (ax [x,y])),_,?_,(((Zj.trans st6).step x8).step x9).step x10⟩;exact(aL (bj 16#8)).trans ((aL ((kO e2).trans rfl)).trans ((aL e3).trans ((aL (bj e4)).trans ((aL ((kO (of_eq e5)).trans rfl)).trans ((aL (bj f6)).trans ((aL (bj f8)).trans ((kO c12).trans rfl)))))))
end
end
section
open _L _G
abbrev Wl:MS:=sIf (Dn (cOf (mFn gc (aa 0#8 (aa (ae 4) (aa (mFn bN (aa (bW (iR1 6#5) cTT (mFn bA (aa 0#6 (aa 2#2 ah)))) ah)) ah)))))) 11#5 dw
theorem JL(ns:List Int)(hl:6#9<=63)(S:Sto)(h1:0#7=1)(h2:getL S 0=a_ (ns.map U.int)):∃S',SY [.ref 0] S=a_ (.bl c_,S'):=by
 obtain⟨q,hq,eq⟩:=HM (G:= [a_ _,b_,b_,b_,b_,b_,b_,b_,b_,b_,b_,b_,b_]) h2 rfl hl;obtain⟨Y4,S1,e1,_,_⟩:=lC (i:=1)
  (b:=aX (bC 2 (mFn _ (aa 0#5 (aa 0#9 _)))) (aX _ (aX (bC 5 _) (aX _ (sIf _ _ dw)))))
  eq (by unfold big;lia)
  (λk G S'=>(∃a b c d e f g h i j x y,G=[a_ _,a,b,c,d,e,f,g,h,i,j,x,y])/\Scr ns S') ⟨⟨_,_,_,_,_,_,_,_,_,_,_,_,rfl⟩,h2⟩
  (by
   rintro k G S' hk ⟨⟨u1,u2,u3,u4,u5,u6,u7,u8,u9,u10,u11,u12,rfl⟩,hs⟩;have h0:=hs.lt;obtain⟨S2,f2,x2,Zf⟩:=H9 hs;have f3:dP (aa (mC (.int 8)) (aa (mC (.int 12)) (aa (mC (.int 16)) _))) [a_ (.ref 0),5#5,a_ 13#0,u3,u4,u5,u6,u7,u8,u9,u10,u11,u12] S2=a_ _:=MW c_i c_i c_i;have ZE:Stp _ S2 (S2++[Cell.lst (ax [8,12,16])]):=Stp.ex Zf 3#4;obtain⟨r,S4,f4,hr,YU⟩:=jT (m:=3) ZE.st 0#2 0#2;have ZN:10#1≠S'.length:=by have:=Zf.lt;lia
   have g4:=YU.some ZN 5#8;obtain⟨most,hmost,hm6,hm16⟩ :∃most:Nat,(ax [8,12,16])[r]?=a_ (.int most)/\6<=most/\most<=16:=by
    rcases r with _|_|_|r
    .exact⟨8,rfl,by decide,by decide⟩
    .exact⟨12,rfl,by decide,by decide⟩
    .exact⟨16,rfl,by decide,by decide⟩
    .lia
   have f5:m2 _ _ (mFn _ (aa 0#6 (aa 7#1 _))) _ S2=a_ _:=BL f3 (cP 0#1 c_i f4) g4 (kR hmost);obtain⟨m,T,x,y,S5,f6,gr,hm3,hm,hx,hy,Ys,Zj⟩:=Nl YU.st hm6 0#0;have a3:Io (mFn l8 (aa 0#6 (aa (m2 oIx (dP (aa (mC (.int 8)) (aa (mC (.int 12)) (aa (mC (.int 16)) ah)))) (mFn bA (aa 0#6 (aa 7#1 ah)))) ah))) (gTp 2 (h9 (gN 3) (h9 (gN 4) tY))) [a_ (.ref 0),5#5,a_ 13#0,u3,u4,u5,u6,u7,u8,u9,u10,u11,u12] S2=a_ (.nx,[a_ (.ref 0),5#5,a_ 13#0,1#2,a_ (.tup (ax [x,y])),u5,u6,u7,u8,u9,u10,u11,u12],S5):=by
    have:=cP (a:=ae 2) 0#1 f5 f6;simp[Io,this];rfl
   have ht:=gr.cl x _ hx (hJ gr hy);obtain⟨p,p1,p2,p3,p4⟩:=gr.ord ht;obtain⟨r7,S7,f7,x7,_,q7⟩:=qO gr 0#0 hx hy rfl p1 0#0 p4 p3;have e5:mFn cp (aa (mFn k7 12#0) ah) [a_ (.ref 0),5#5,a_ 13#0,1#2,a_ (.tup (ax [x,y])),u5,u6,u7,u8,u9,u10,u11,u12] S5=a_ (.int ((lOf m T x y p).length),S7):=by
    refine fK (cP 0#1 0#1 f7) ?_;simp only[cp,FH q7,eB,getL,q7,dr];rw[show(qH _).length=(lOf m T x y p).length by simp[tups]]
   have few:=sk gr hx hy 0#0 p1 p3;have st7:=((ZE.trans YU).trans Zj).step x7;obtain⟨Z7,S8,e8,⟨v6,rfl⟩,st8⟩:=lC (i:=6) (a:=mC (.int 3)) (b:=Wl) rfl 0#2
    (λi G S8=>(∃v6,G=rl6 k S'.length m T x y (lOf m T x y p).length v6 u7 u8 u9 u10 u11 u12)/\Stp _ S2 S8) ⟨⟨_,rfl⟩,st7⟩ (by
     rintro i G S8 hi ⟨⟨v6,rfl⟩,st8⟩;obtain⟨w,S9,e9,st9,hw,hwl⟩:=K5 (m:=2) (sv:=ae 2) (G:=rl6 k _ m T x y (lOf m T x y p).length _ u7 u8 u9 _ _ _) (a:=ae 5) 0#1 0#0 st8.st 0#2 0#2 (λz S=>var_eq rfl) (λz S=>c_i);have tw:Two m T x y p w:=⟨gr,by lia,hx,hy,p1,by lia,p4,p3,hwl,hw⟩;obtain⟨S10,V',x10⟩:=Nd tw 0#0 0#0;have c10:=not_eq (of_eq (kE (a:=ae 3) (b:=ae 4) 0#1 0#1 (fo e9) V'))
     exact⟨_,_,(kO c10).trans rfl,⟨_,rfl⟩,((st8.trans st9).step (Ex.push _ _)).step x10⟩)
   have c9:=of_eq (NT (G:=rl6 k S'.length m T x y (lOf m T x y p).length v6 u7 u8 u9 u10 u11 u12) (S:=S8) (a:=ae 5) (y:=9) 0#1 c_i);rw[decide_eq_true 0#0]at c9;obtain⟨w7,w8,w9,w10,w11,w12,S11,e11,st11⟩:=DZ st8.st gr hm3 0#0 hx hy Ys;refine⟨_,_,(aL (bj (cP 0#1 0#1 f2))).trans ((aL a3).trans ((aL (bj e5)).trans ((aL e8).trans ((tm c9).trans e11)))),⟨_,_,_,_,_,_,_,_,_,_,_,_,rfl⟩,?_⟩
   exact(hs.ex λc h=>x2.some h).ex λc h=>(st8.trans st11).some (by lia) h)
 exact⟨S1,cK rfl ((aL e1).trans (cz rfl))⟩
end
def top(i:Nat):Stmt:=PySem.Challenge.pw_groupwalks_k56_whole_two_steps.main.body.getD i (.Pass ⟨0,0,0,0⟩)
abbrev lu:Stmt:=top 36
abbrev oi:Stmt:=top 37
abbrev pU:Stmt:=top 38
abbrev nO:Stmt:=top 39
abbrev n9:Stmt:=top 40
abbrev lr:Stmt:=top 42
abbrev pW:Stmt:=top 41
abbrev nT:Stmt:=top 44
abbrev nR:Stmt:=top 43
abbrev nY:Stmt:=top 45
abbrev pY:Stmt:=top 47
abbrev rB:Stmt:=top 14
abbrev mH:Stmt:=top 6
abbrev ke:Stmt:=top 15
abbrev zI:Stmt:=top 12
abbrev CY:Stmt:=top 13
abbrev vF:Stmt:=top 7
abbrev s9:Stmt:=top 27
abbrev zi:Stmt:=top 28
abbrev km:Stmt:=top 29
abbrev nC:Stmt:=top 30
abbrev sN:Stmt:=top 32
abbrev nI:Stmt:=top 22
abbrev ib:Stmt:=top 33
abbrev uA:Stmt:=top 31
abbrev pS:Stmt:=top 8
abbrev nQ:Stmt:=top 34
abbrev ja:Stmt:=top 4
abbrev ie:Stmt:=top 5
abbrev l9:Stmt:=top 20
abbrev wz:Stmt:=top 17
abbrev jr:Stmt:=top 18
abbrev lq:Stmt:=top 19
abbrev qg:Stmt:=top 21
abbrev iH:Stmt:=top 48
abbrev kB:Stmt:=top 49
abbrev kq:Stmt:=top 24
abbrev Dp:Stmt:=top 23
abbrev l7:Stmt:=top 9
abbrev uD:Stmt:=top 10
abbrev J2:Stmt:=top 50
abbrev N0:List Str := ["script","k"]
abbrev N1:List Str := ["script","k","cell"]
abbrev N2:List Str := ["state","many","found","mixed"]
abbrev N3:List Str := ["n"]
abbrev N4:List Str := ["n","found","i","row","j","turn"]
abbrev N5:List Str := ["signs","kinds","found","one","row","other","sign"]
abbrev N6:List Str := ["one","other","size","found","i","row","j","ahead"]
abbrev N7:List Str := ["group","order"]
abbrev N8:List Str := ["state","many","left"]
abbrev N9:List Str := ["state","most","way","found","first","one"]
abbrev N10:List Str := ["state","most","group","left","one","other"]
abbrev N11:List Str := ["rising","piece_at","found","met","least","piece","one"]
abbrev N12:List Str := ["group"]
abbrev N13:List Str := ["group","part"]
abbrev N14:List Str := ["group","things","found","waiting","place","thing","onward"]
abbrev N15:List Str := ["group","things"]
abbrev N16:List Str := ["group","thing"]
abbrev N17:List Str := ["group","steps"]
abbrev N18:List Str := ["group","steps"]
abbrev N19:List Str := ["group","steps","choice","chosen","side","which","thing"]
abbrev N20:List Str := ["group","chosen","first","ring","onward"]
abbrev N21:List Str := ["group","steps","choice","chosen","ring"]
abbrev N22:List Str := ["steps","many","found","longer","walk"]
abbrev N23:List Str := ["group","steps","many","walks"]
abbrev N24:List Str := ["group","steps","choice","chosen"]
abbrev N25:List Str := ["group","thing","product","taken"]
abbrev N26:List Str := ["group","steps"]
abbrev N27:List Str := ["value","many"]
abbrev N28:List Str := ["value","many"]
abbrev N29:List Str := ["group","steps","thing"]
abbrev N30:List Str := ["group","walk","come_to","thing"]
abbrev N31:List Str := ["group","come_to"]
abbrev N32:List Str := ["group","walk","come_to"]
abbrev N33:List Str := ["group","steps","thing"]
abbrev N34:List Str := ["group","steps","choice","some","there","ring","walk","turn","plain"]
abbrev N35:List Str := ["group","steps","walk","there","found","side","some"]
abbrev N36:List Str := ["group","steps"]
abbrev N37:List Str := ["group","walk"]
abbrev N38:List Str := ["many","times","rows","i"]
abbrev N39:List Str := ["group","order"]
abbrev N40:List Str := ["script","k","state","group","steps","many","turn","some","walk","choice","about","order","numbers"]
def T0:Tb:=⟨[],[("MOST_SIDES",.int 10)],[],[],d_,z0⟩
def T1:Tb:=T0.dd "_law_cell_at" lh
def T2:Tb:=T1.dd "_law_state" nK
def T3:Tb:=T2.dd "_law_take" bA
def T4:Tb:=T3.dd "_law_clock" dO
def T5:Tb:=T4.dd "_law_flips" gR
def T6:Tb:=T5.dd "_law_quarter" jE
def T7:Tb:=T6.dd "_law_both" mG
def T8:Tb:=T7.dd "_law_named" k6
def T9:Tb:=T8.dd "_law_order" iL
def T10:Tb:=T9.dd "_law_group" ox
def T11:Tb:=T10.dd "_law_pair" l8
def T12:Tb:=T11.hh "pieces" wG
def T13:Tb:=T12.dd "all_things" j8
def T14:Tb:=T13.dd "left_sides" my
def T15:Tb:=T14.dd "roads" Fg
def T16:Tb:=T15.dd "span" DV
def T17:Tb:=T16.dd "undone" kn
def T18:Tb:=T17.dd "turn_of" oN
def T19:Tb:=T18.dd "sides" k7
def T20:Tb:=T19.dd "chosen_steps" i9
def T21:Tb:=T20.dd "ring_from" kZ
def T22:Tb:=T21.dd "walk_of" iK
def T23:Tb:=T22.dd "all_walks" jJ
def T24:Tb:=T23.dd "all_rounds_of_two" bT
def T25:Tb:=T24.dd "rings" oI
def T26:Tb:=T25.dd "order_of" fF
def T27:Tb:=T26.dd "is_barred" fX
def T28:Tb:=T27.dd "is_number_below" kQ
def T29:Tb:=T28.dd "are_numbers_below" j0
def T30:Tb:=T29.dd "is_walk_by" rh
def T31:Tb:=T30.dd "places" wB
def T32:Tb:=T31.dd "are_all_things" lP
def T33:Tb:=T32.dd "comes_round" pD
def T34:Tb:=T33.dd "is_round" pR
def T35:Tb:=T34.dd "_law_choice_right" gc
def T36:Tb:=T35.dd "_law_by_sides" gO
def T37:Tb:=T36.dd "undone_steps" jb
def T38:Tb:=T37.dd "back" sU
def T39:Tb:=T38.hh "table_of" we
def T40:Tb:=T39.dd "named" uN
theorem xK:cD T0 N0 lu=a_ jF:=by kernel_rfl
theorem uZ:bh N0 (N0.take 2) (aG lu):=d9 1#1
theorem BO:cD T1 N1 oi=a_ tS:=by kernel_rfl
theorem zD:bh N1 (N1.take 2) (aG oi):=d9 1#1
theorem Dk:cD T2 N2 pU=a_ mI:=by kernel_rfl
theorem Ct:bh N2 (N2.take 2) (aG pU):=d9 1#1
theorem AS:cD T3 N3 nO=a_ nz:=by kernel_rfl
theorem zt:bh N3 (N3.take 1) (aG nO):=d9 1#1
theorem BM:cD T4 N4 n9=a_ tZ:=by kernel_rfl
theorem zo:bh N4 (N4.take 1) (aG n9):=d9 1#1
theorem xM:cD T5 N5 lr=a_ pO:=by kernel_rfl
theorem wo:bh N5 (N5.take 0) (aG lr):=d9 1#1
theorem DI:cD T6 N6 pW=a_ vM:=by kernel_rfl
theorem BD:bh N6 (N6.take 2) (aG pW):=d9 1#1
theorem A7:cD T7 N7 nT=a_ t7:=by kernel_rfl
theorem zR:bh N7 (N7.take 2) (aG nT):=d9 1#1
theorem Bk:cD T8 N8 nR=a_ tW:=by kernel_rfl
theorem y6:bh N8 (N8.take 2) (aG nR):=d9 1#1
theorem Bj:cD T9 N9 nY=a_ nV:=by kernel_rfl
theorem Ad:bh N9 (N9.take 2) (aG nY):=d9 1#1
theorem Dq:cD T10 N10 pY=a_ wj:=by kernel_rfl
theorem BR:bh N10 (N10.take 2) (aG pY):=d9 1#1
theorem Kz :∀ g φ,cB ⟨T11.D,T11.C,[("piece_at",g,φ)],T11.H,T11.mkr,T11.Z⟩ 80 (["rising","piece_at","found","met","least","piece","one"]:List Str) (aG rB).names (dB rB)=a_ (AN g φ):=by intro g φ;kernel_rfl
theorem GY:bh N11 (N11.take 2) (aG rB):=d9 1#1
theorem y7:cD T12 N12 mH=a_ qY:=by kernel_rfl
theorem xG:bh N12 (N12.take 1) (aG mH):=d9 1#1
theorem zl:cD ⟨T13.D,T13.C,T13.L,T13.H,c_,T13.Z.to "<lambda>"⟩ N13 ke=a_ q9:=by kernel_rfl
theorem xC:bh N13 (N13.take 2) (aG ke):=d9 1#1
theorem MZ:cD T14 N14 zI=a_ EE:=by kernel_rfl
theorem Jv:bh N14 (N14.take 2) (aG zI):=d9 1#1
theorem RJ:cD T15 N15 CY=a_ Jb:=by kernel_rfl
theorem LN:bh N15 (N15.take 2) (aG CY):=d9 1#1
theorem J7:cD T16 N16 vF=a_ AG:=by kernel_rfl
theorem FX:bh N16 (N16.take 2) (aG vF):=d9 1#1
theorem GP:cD T17 N17 s9=a_ yI:=by kernel_rfl
theorem CZ:bh N17 (N17.take 2) (aG s9):=d9 1#1
theorem L9:cD T18 N18 zi=a_ EO:=by kernel_rfl
theorem K1:bh N18 (N18.take 2) (aG zi):=d9 1#1
theorem wX:cD T19 N19 km=a_ og:=by kernel_rfl
theorem uk:bh N19 (N19.take 3) (aG km):=d9 1#1
theorem Cn:cD T20 N20 nC=a_ tR:=by kernel_rfl
theorem z9:bh N20 (N20.take 3) (aG nC):=d9 1#1
theorem Gm:cD T21 N21 sN=a_ yH:=by kernel_rfl
theorem Dw:bh N21 (N21.take 3) (aG sN):=d9 1#1
theorem Ca:cD T22 N22 nI=a_ tL:=by kernel_rfl
theorem zH:bh N22 (N22.take 2) (aG nI):=d9 1#1
theorem pk:cD ⟨T23.D,T23.C,[],T23.H,d_,T23.Z.to "sorted"⟩ N23 ib=a_ j4:=by kernel_rfl
theorem nD:bh N23 (N23.take 2) (aG ib):=d9 1#1
theorem MO:cD ⟨T24.D,T24.C,T24.L,T24.H,c_,T24.Z.to "<lambda>"⟩ N24 uA=a_ ES:=by kernel_rfl
theorem HW:bh N24 (N24.take 3) (aG uA):=d9 1#1
theorem Dt:cD T25 N25 pS=a_ vh:=by kernel_rfl
theorem AY:bh N25 (N25.take 2) (aG pS):=d9 1#1
theorem AL:cD T26 N26 nQ=a_ tH:=by kernel_rfl
theorem Aj:bh N26 (N26.take 2) (aG nQ):=d9 1#1
theorem rf:cD T27 N27 ja=a_ k8:=by kernel_rfl
theorem qb:bh N27 (N27.take 2) (aG ja):=d9 1#1
theorem pe:cD T28 N28 ie=a_ jZ:=by kernel_rfl
theorem nE:bh N28 (N28.take 2) (aG ie):=d9 1#1
theorem An:cD T29 N29 l9=a_ rE:=by kernel_rfl
theorem xQ:bh N29 (N29.take 3) (aG l9):=d9 1#1
theorem Kx:cD T30 N30 wz=a_ Ci:=by kernel_rfl
theorem Hi:bh N30 (N30.take 2) (aG wz):=d9 1#1
theorem sx:cD T31 N31 jr=a_ lH:=by kernel_rfl
theorem qX:bh N31 (N31.take 2) (aG jr):=d9 1#1
theorem xF:cD T32 N32 lq=a_ pH:=by kernel_rfl
theorem vZ:bh N32 (N32.take 2) (aG lq):=d9 1#1
theorem DF:cD T33 N33 qg=a_ vL:=by kernel_rfl
theorem A0:bh N33 (N33.take 3) (aG qg):=d9 1#1
theorem qi:cD T34 N34 iH=a_ ku:=by kernel_rfl
theorem pf:bh N34 (N34.take 3) (aG iH):=d9 1#1
theorem wc:cD T35 N35 kB=a_ oy:=by kernel_rfl
theorem uj:bh N35 (N35.take 3) (aG kB):=d9 1#1
theorem vP:cD T36 N36 kq=a_ nA:=by kernel_rfl
theorem uo:bh N36 (N36.take 2) (aG kq):=d9 1#1
theorem P7:cD T37 N37 Dp=a_ JB:=by kernel_rfl
theorem Nt:bh N37 (N37.take 2) (aG Dp):=d9 1#1
theorem Ea :∀ g φ,cB ⟨T38.D,T38.C,[("times",g,φ)],T38.H,T38.mkr,T38.Z⟩ 80 (["many","times","rows","i"]:List Str) (aG l7).names (dB l7)=a_ (vv g φ):=by intro g φ;kernel_rfl
theorem Bb:bh N38 (N38.take 2) (aG l7):=d9 1#1
theorem Na:cD ⟨T39.D,T39.C,T39.L,T39.H,c_,T39.Z.to "<lambda>"⟩ N39 uD=a_ EF:=by kernel_rfl
theorem K3:bh N39 (N39.take 2) (aG uD):=d9 1#1
theorem SD:cD ⟨T40.D,T40.C,[],T40.H,d_,T40.Z.to "sorted"⟩ N40 J2=a_ NX:=by kernel_rfl
theorem PH:bh N40 (N40.take 1) (aG J2):=d9 1#1
abbrev dL:List (Str×Stmt):=("_law_cell_at",lu)::("_law_state",oi)::("_law_take",pU)::("_law_clock",nO)::("_law_flips",n9)::("_law_quarter",lr)::("_law_both",pW)::("_law_named",nT)::("_law_order",nR)::("_law_group",nY)::("_law_pair",pY)::("pieces",rB)::("all_things",mH)::("roads",zI)::("span",CY)::("undone",vF)::("turn_of",s9)::("sides",zi)::("chosen_steps",km)::("ring_from",nC)::("walk_of",sN)::("all_walks",nI)::("all_rounds_of_two",ib)::("order_of",pS)::("is_barred",nQ)::("is_number_below",ja)::("are_numbers_below",ie)::("is_walk_by",l9)::("places",wz)::("are_all_things",jr)::("comes_round",lq)::("is_round",qg)::("_law_choice_right",iH)::("_law_by_sides",kB)::("undone_steps",kq)::("back",Dp)::("table_of",l7)::("law",J2) :: []
variable{w:World}{h:Heap}{mg:Str->Option f_}
theorem chain{P:Program}{K:ao}{k13 XA:e_}{k24 XD:e_}{k39 XB:e_}(X:K.In h)(Gn:h.Ns mainGlobals mg)(B :∀ x∈lG,fN K mainGlobals x=a_ b_)(kc0 :∃ t,fN K mainGlobals "MOST_SIDES"=a_ (a_ (.int 10 t)))(g13:mainGlobals≠XA)(g24:mainGlobals≠XD)(g39:mainGlobals≠XB)(nd:([XA,XD,XB]:List e_).Nodup)
  (DA:RK K dL) (D13:pj K "left_sides" ke k13 XA) (D24:pj K "rings" uA k24 XD) (D39:pj K "named" uD k39 XB) :∀ (caps:List U) (capv:List V) (cds:List 2#7) (base:Heap),iX mg base->TOk ⟨P,w,⟨K,caps,capv,cds,18#0⟩,mg,base,b_⟩ ⟨T40.D,T40.C,[],T40.H,d_,T40.Z.to "sorted"⟩ 50:=by
 obtain⟨D0,D1,D2,D3,D4,D5,D6,D7,D8,D9,D10,D11,D12,D14,D15,D16,D17,D18,D19,D20,D21,D22,D23,D25,D26,D27,D28,D29,D30,D31,D32,D33,D34,D35,D36,D37,D38,D40,_⟩:=DA;have C0:Ch P w K mg 18#0 T0 0:=⟨fun _ _ _ _ _=>TOk.con (TOk.nil X Gn B) X Gn kc0,(fun _ _ _ _ _ _ _ z=>by cases z),(fun _ _ _ _ _ _ _ z=>by cases z)⟩;have nd:((18#0:List (e_×Str)).map (·.1)).Nodup:=by simpa using nd
 have C1:Ch P w K mg _ T1 1:=C0.dfn C0.o rfl X Gn D0 uZ 3#9 xK;have C2:Ch P w K mg _ T2 2:=C1.dfn C1.o rfl X Gn D1 zD 3#9 BO;have C3:Ch P w K mg _ T3 3:=C2.dfn C2.o rfl X Gn D2 Ct 3#9 Dk;have C4:Ch P w K mg _ T4 4:=C3.dfn C3.o rfl X Gn D3 zt (λ_ _ _ _ _ _=>us1 λ_=>rfl) AS;have C5:Ch P w K mg _ T5 5:=C4.dfn C4.o rfl X Gn D4 zo (λ_ _ _ _ _ _=>us1 λ_=>rfl) BM;have C6:Ch P w K mg _ T6 6:=C5.dfn C5.o rfl X Gn D5 wo (λ_ _ _ _ _ _=>us0 rfl) xM;have C7:Ch P w K mg _ T7 7:=C6.dfn C6.o rfl X Gn D6 BD 3#9 DI;have C8:Ch P w K mg _ T8 8:=C7.dfn C7.o rfl X Gn D7 zR 3#9 A7;have C9:Ch P w K mg _ T9 9:=C8.dfn C8.o rfl X Gn D8 y6 3#9 Bk;have C10:Ch P w K mg _ T10 10:=C9.dfn C9.o rfl X Gn D9 Ad 3#9 Bj;have C11:Ch P w K mg _ T11 11:=C10.dfn C10.o rfl X Gn D10 BR 3#9 Dq;have C12:Ch P w K mg _ T12 11:=C11.cls rfl rfl X Gn D11 GY 3#9 Kz;have C13:Ch P w K mg _ T13 12:=C12.dfn C12.o rfl X Gn D12 xG (λ_ _ _ _ _ _=>us1 λ_=>rfl) y7;have C14:Ch P w K mg _ T14 17:=C13.lam_ rfl rfl 0#3 nd g13 X Gn D13 xC 3#9 zl;have C15:Ch P w K mg _ T15 18:=C14.dfn C14.o rfl X Gn D14 Jv 3#9 MZ;have C16:Ch P w K mg _ T16 19:=C15.dfn C15.o rfl X Gn D15 LN 3#9 RJ;have C17:Ch P w K mg _ T17 20:=C16.dfn C16.o rfl X Gn D16 FX 3#9 J7;have C18:Ch P w K mg _ T18 21:=C17.dfn C17.o rfl X Gn D17 CZ 3#9 GP;have C19:Ch P w K mg _ T19 22:=C18.dfn C18.o rfl X Gn D18 K1 3#9 L9;have C20:Ch P w K mg _ T20 23:=C19.dfn C19.o rfl X Gn D19 uk 14#8 wX;have C21:Ch P w K mg _ T21 24:=C20.dfn C20.o rfl X Gn D20 z9 14#8 Cn;have C22:Ch P w K mg _ T22 25:=C21.dfn C21.o rfl X Gn D21 Dw 14#8 Gm;have C23:Ch P w K mg _ T23 26:=C22.dfn C22.o rfl X Gn D22 zH 3#9 Ca;have C24:Ch P w K mg _ T24 27:=C23.dfn (T':=⟨T23.D,T23.C,[],T23.H,d_,T23.Z.to "sorted"⟩) (fun caps capv cds base Yz=>((C23.o caps capv cds base Yz).nm "sorted")) rfl X Gn D23 nD (fun _ _ _ _ _ _=>us2 fun _ _=>rfl) pk;have C25:Ch P w K mg _ T25 32:=C24.lam_ rfl rfl 0#3 nd g24 X Gn D24 HW 14#8 MO;have C26:Ch P w K mg _ T26 33:=C25.dfn C25.o rfl X Gn D25 AY 3#9 Dt;have C27:Ch P w K mg _ T27 34:=C26.dfn C26.o rfl X Gn D26 Aj 3#9 AL;have C28:Ch P w K mg _ T28 35:=C27.dfn C27.o rfl X Gn D27 qb 3#9 rf;have C29:Ch P w K mg _ T29 36:=C28.dfn C28.o rfl X Gn D28 nE 3#9 pe;have C30:Ch P w K mg _ T30 37:=C29.dfn C29.o rfl X Gn D29 xQ 14#8 An;have C31:Ch P w K mg _ T31 38:=C30.dfn C30.o rfl X Gn D30 Hi 3#9 Kx;have C32:Ch P w K mg _ T32 39:=C31.dfn C31.o rfl X Gn D31 qX 3#9 sx;have C33:Ch P w K mg _ T33 40:=C32.dfn C32.o rfl X Gn D32 vZ 3#9 xF;have C34:Ch P w K mg _ T34 41:=C33.dfn C33.o rfl X Gn D33 A0 14#8 DF;have C35:Ch P w K mg _ T35 42:=C34.dfn C34.o rfl X Gn D34 pf 14#8 qi;have C36:Ch P w K mg _ T36 43:=C35.dfn C35.o rfl X Gn D35 uj 14#8 wc;have C37:Ch P w K mg _ T37 44:=C36.dfn C36.o rfl X Gn D36 uo 3#9 vP;have C38:Ch P w K mg _ T38 45:=C37.dfn C37.o rfl X Gn D37 Nt 3#9 P7;have C39:Ch P w K mg _ T39 45:=C38.cls rfl rfl X Gn D38 Bb 3#9 Ea;have C40:Ch P w K mg _ T40 50:=C39.lam_ rfl rfl 0#3 nd g39 X Gn D39 K3 3#9 Na;exact fun caps capv cds base Yz=>((C40.o caps capv cds base Yz).nm "sorted")
variable{q:Program}
theorem all_mk{l:o5}{K:ao}{fa:e_}{k13 XA:e_}{k24 XD:e_}{k39 XB:e_}(X:K.In h)(Gn:h.Ns mainGlobals mg)(hfa:mg "law"=a_ (.ref fa))(B :∀ x∈lG,fN K mainGlobals x=a_ b_)(kc0 :∃ t,fN K mainGlobals "MOST_SIDES"=a_ (a_ (.int 10 t)))(g13:mainGlobals≠XA)(g24:mainGlobals≠XD)(g39:mainGlobals≠XB)(nd:([XA,XD,XB]:List e_).Nodup)
  (DA:RK K dL) (D13:pj K "left_sides" ke k13 XA) (D24:pj K "rings" uA k24 XD) (D39:pj K "named" uD k39 XB) {d13:DefRec} (n13:K.lookup XA=b_) (r13:(h8 q).find? (fun e=>e.name==("left_sides":Str))=a_ d13) {d24:DefRec} (n24:K.lookup XD=b_) (r24:(h8 q).find? (fun e=>e.name==("rings":Str))=a_ d24) {d39:DefRec} (n39:K.lookup XB=b_) (r39:(h8 q).find? (fun e=>e.name==("named":Str))=a_ d39) :
  ∃ (tabs:List (e_×Str)) (fd:FuncData) (sp:Sp),(∀ r∈tabs,K.lookup r.1=b_ /\ ∃ x d c,(h8 q).find? (fun e=>e.name==x)=a_ d/\PySem.W.tabIn K x=a_ (c,r.1))/\24#4 /\
   (∀ base:Heap,K.In base->base.Ns mainGlobals mg->iX mg base->lD l.prog w K mg base CX0 51 fa fd ["script"] sp) /\ ∀ (H:Hp) (a:e_) (ns:List Int),6#9<=63->(∀ r∈tabs,Do H r.1 r.2)->SqL K H a 11#1->sp [.ref a] H (fun v _=>v=.bl c_) fun _ _ _=>False:=by
 have DB:=DA;obtain⟨D0,D1,D2,D3,D4,D5,D6,D7,D8,D9,D10,D11,D12,D14,D15,D16,D17,D18,D19,D20,D21,D22,D23,D25,D26,D27,D28,D29,D30,D31,D32,D33,D34,D35,D36,D37,D38,D40,_⟩:=DA;have DA:=DB;obtain⟨fd,h1,h2⟩:=Qz (l:=l) (w:=w) (tabs := 18#0) X Gn hfa D40 PH (fun _ _ _ _ _ _=>us1 fun _=>rfl) rfl (fun base Yz=>chain X Gn B  kc0 g13 g24 g39 nd DA D13 D24 D39 [] [] [] base Yz) SD;refine⟨18#0,fd,_,?_,h1,h2,fun H a ns hl hT hS=>Si hT hS fun S h1 h2=>JL ns hl S h1 h2⟩;intro r hr;simp only[aH,iO,_root_.or_false]at hr;rcases hr with rfl |rfl |rfl
 .exact⟨n13,_,_,_,r13,D13.tab⟩
 .exact⟨n24,_,_,_,r24,D24.tab⟩
 .exact⟨n39,_,_,_,r39,D39.tab⟩
theorem walk{l:o5}{loose:List Str}{XP:(Str->Option f_)->Heap->Prop}{YP:World->Heap->Prop}{d:DefRec}{K:Params->ao}(hn:l.most=a_ 63)(hdf:d.params.defaults=[])
  (hY:∀(w:World) (h:Heap),YP w h->(K w.params).In h)
  (F: ∀(w:World) (mg:Str->Option f_) (fa:e_) (h:Heap),(K w.params).In h->h.Ns mainGlobals mg->mg d.name=a_ (.ref fa) -> ∃(tabs:List (e_×Str)) (fd:FuncData) (sp:Sp),
   (∀ r∈tabs,(K w.params).lookup r.1=b_ /\ ∃ x d c,(h8 q).find? (fun e=>e.name==x)=a_ d/\PySem.W.tabIn (K w.params) x=a_ (c,r.1))/\24#4 /\
   (∀ base:Heap,(K w.params).In base->base.Ns mainGlobals mg->iX mg base->lD l.prog w (K w.params) mg base CX0 51 fa fd ["script"] sp) /\ ∀ (H:Hp) (a:e_) (ns:List Int),ns.length<=63->(∀ r∈tabs,Do H r.1 r.2)->SqL (K w.params) H a (ns.map V.int)->sp [.ref a] H (fun v _=>v = .bl c_) fun _ _ _=>False) :
  PySem.W.WalkO q loose XP YP l.row.toRowW d [] (λf vs=>PySem.call f vs):=
 IF (n:=63) (k:=51) (x:="script") hn 0#2 hdf ⟨rfl,by decide,by decide,rfl⟩ hY F
end _W
open PySem PySem.W PyProof.Rows
namespace PySem.W.Fast
theorem tw6110860727536204834:True:=trivial
theorem tw12916939977142062976:True:=trivial
theorem tw16571285322043215365:True:=trivial
theorem tw17376029992090380650:True:=trivial
theorem tw6501398593201168625:True:=trivial
theorem tw3730156591222362295:True:=trivial
theorem tw10848904892862381707:True:=trivial
theorem tw3581972388695925328:True:=trivial
theorem tw13973013311092965623:True:=trivial
theorem tw7457126741564615022:True:=trivial
theorem tw8442118702511107526:True:=trivial
theorem tw9658226237779432100:True:=trivial
theorem tw5187961908973021365:True:=trivial
theorem tw13339064041319818744:True:=trivial
theorem tw12458589830721797424:True:=trivial
theorem tw7386642635505942167:True:=trivial
theorem tw5956554069851759866:True:=trivial
theorem tw1340135073283976037:True:=trivial
theorem tw8753456279768023892:True:=trivial
theorem tw9302752571059397996:True:=trivial
theorem tw12171655788360644102:True:=trivial
theorem tw10378116898036670249:True:=trivial
theorem tw18148887224207472508:True:=trivial
theorem tw14789111953962860457:True:=trivial
theorem tw10864108861747605525:True:=trivial
theorem tw3262179476173006556:True:=trivial
theorem tw17887912770533436468:True:=trivial
theorem tw12508909074999623597:True:=trivial
theorem tw640324882102044674:True:=trivial
theorem tw8429914116935067652:True:=trivial
theorem tw1482011576556788166:True:=trivial
theorem tw16235587171533530303:True:=trivial
theorem tw10828994801686701360:True:=trivial
theorem tw59200127333128551:True:=trivial
theorem tw11580907337169756693:True:=trivial
theorem tw12314366109530782574:True:=trivial
theorem tw4844694045872608720:True:=trivial
theorem tw4882093347305409516:True:=trivial
theorem tw940650596413613548:True:=trivial
theorem tw10513455873061840190:True:=trivial
theorem tw16771717663921748436:True:=trivial
theorem tw15701142136512000151:True:=trivial
theorem tw9145805049399386493:True:=trivial
theorem tw1255007564713042549:True:=trivial
theorem tw10593506600722033059:True:=trivial
theorem tw18329697189629191859:True:=trivial
theorem tw16122359810745096132:True:=trivial
theorem tw997313625539488261:True:=trivial
theorem tw6392074396977111797:True:=trivial
theorem tw14035525955011052852:True:=trivial
theorem tw5220874194286312085:True:=trivial
theorem tw3934056378510788873:True:=trivial
theorem tw1574220689189448392:True:=trivial
theorem tw10211623318542636540:True:=trivial
theorem tw7101719868872700131:True:=trivial
theorem tw16588968831163586507:True:=trivial
theorem tw14191537495384992734:True:=trivial
theorem tw16587929586973601735:True:=trivial
theorem tw13275926959500927728:True:=trivial
theorem tw14004105538654201885:True:=trivial
theorem tw9525773901981661950:True:=trivial
theorem tw11624045011188917077:True:=trivial
theorem tw3043041376692373656:True:=trivial
theorem tw2306839163781450775:True:=trivial
theorem tw10451646773141994271:True:=trivial
theorem tw10805166743860894515:True:=trivial
theorem tw14261790499751285328:True:=trivial
theorem tw18020776936366117904:True:=trivial
theorem tw12396041503342130613:True:=trivial
theorem tw18243367086314195050:True:=trivial
theorem tw15412606526475897715:True:=trivial
theorem tw490334597406342944:True:=trivial
theorem tw11514807456147729911:True:=trivial
theorem tw7105527011620571917:True:=trivial
theorem tw376359715582440008:True:=trivial
theorem tw12924711228530831806:True:=trivial
theorem tw8378357537287382863:True:=trivial
theorem tw13636676746235977401:True:=trivial
theorem tw10211149999085908900:True:=trivial
theorem tw3350986103870543593:True:=trivial
theorem tw16350884091554652556:True:=trivial
theorem tw4497967848841833678:True:=trivial
theorem tw10574849175282278715:True:=trivial
theorem tw14178153814980563742:True:=trivial
theorem tw4790590216125528443:True:=trivial
theorem tw17691586945030883122:True:=trivial
theorem tw4628924968012324006:True:=trivial
theorem tw13066649048083149998:True:=trivial
theorem tw13646051112450407202:True:=trivial
theorem tw11765335251786672663:True:=trivial
theorem tw13776600868671375318:True:=trivial
theorem tw3071867452851813175:True:=trivial
theorem tw18051300871428179098:True:=trivial
theorem tw15599757460271398477:True:=trivial
theorem tw9489618207267862941:True:=trivial
theorem tw17450944053278669374:True:=trivial
theorem tw8150473742183687935:True:=trivial
theorem tw4355054914183455810:True:=trivial
theorem tw17357968168885304291:True:=trivial
theorem tw11299711753429403:True:=trivial
theorem tw16469635854266918974:True:=trivial
theorem tw8816815693330133440:True:=trivial
theorem tw8273273100400464253:True:=trivial
theorem tw15459952896883723348:True:=trivial
theorem tw10855390730825163574:True:=trivial
theorem tw7644959411697347228:True:=trivial
theorem tw6013707689644017788:True:=trivial
theorem tw3394203898801546802:True:=trivial
theorem tw2424111103736160291:True:=trivial
theorem tw13594894345619714344:True:=trivial
theorem tw17091644880565933687:True:=trivial
theorem tw1431091773918103642:True:=trivial
theorem tw12524275413965013605:True:=trivial
theorem tw13570573462355046841:True:=trivial
theorem tw7858289633387315411:True:=trivial
theorem tw14066327956319587171:True:=trivial
theorem tw8467161302552501673:True:=trivial
theorem tw1778968712782834240:True:=trivial
theorem tw2141204822614003687:True:=trivial
theorem tw14590742291647202921:True:=trivial
theorem tw15079902942542843215:True:=trivial
theorem tw13104781323664189928:True:=trivial
theorem tw16468322019322836844:True:=trivial
theorem tw9951326436498626501:True:=trivial
theorem tw4084921074759239011:True:=trivial
theorem tw1130747414091214338:True:=trivial
theorem tw14808587398028694667:True:=trivial
theorem tw8440201562714228936:True:=trivial
theorem tw10815982548032424442:True:=trivial
theorem tw11887141259777636876:True:=trivial
theorem tw301749834328844020:True:=trivial
theorem tw17008300173157072273:True:=trivial
theorem tw13459266775406451117:True:=trivial
theorem tw10164973308832839992:True:=trivial
theorem tw9229136753997106091:True:=trivial
theorem tw7775507711683830953:True:=trivial
theorem tw9748402841154239177:True:=trivial
theorem tw9845412307644139744:True:=trivial
theorem tw6107401451841330042:True:=trivial
theorem tw937245401845885237:True:=trivial
theorem tw15224409741555222768:True:=trivial
theorem tw8401960998257598116:True:=trivial
theorem tw16704877815201302940:True:=trivial
theorem tw5054517130959388780:True:=trivial
theorem tw14380059146904107005:True:=trivial
theorem tw8022012956570390628:True:=trivial
theorem tw7351698350026186220:True:=trivial
theorem tw13424513288109120766:True:=trivial
theorem tw1834630347354368066:True:=trivial
theorem tw16587338440110424075:True:=trivial
theorem tw121473506331308683:True:=trivial
theorem tw5570337453051887047:True:=trivial
theorem tw4825530187991206697:True:=trivial
theorem tw4575109400203871472:True:=trivial
theorem tw6296172611381961578:True:=trivial
theorem tw1663524590558004287:True:=trivial
theorem tw2003349666412978189:True:=trivial
theorem tw9276602152247641771:True:=trivial
theorem tw236843059775702713:True:=trivial
theorem tw13734157074814577386:True:=trivial
theorem tw658125983518127344:True:=trivial
theorem tw7100717780169139053:True:=trivial
theorem tw9006923695394864578:True:=trivial
theorem tw9973588097059131639:True:=trivial
theorem tw2800102634084538967:True:=trivial
theorem tw4198037090722256471:True:=trivial
theorem tw5722309360751532207:True:=trivial
theorem tw200584148962739363:True:=trivial
theorem tw12362862036220523591:True:=trivial
theorem tw5867792054454665538:True:=trivial
end PySem.W.Fast
set_option maxRecDepth 100000 in
set_option maxHeartbeats 0 in
theorem PySem.Challenge.cw_groupwalks_k56_whole_two_steps_holds : PySem.Challenge.rw_groupwalks_k56_whole_two_steps.Holds := by
 w_on;o_law;k_head;(case hw=>w_witness2)
 k_fill
 refine _W.walk (l:=PySem.Challenge.rw_groupwalks_k56_whole_two_steps) rfl rfl (λw h Y=>PySem.W.km_in_of Y) ?F
 case F=>
  intro w mg fa h KX Gh hmg;refine' _W.all_mk KX Gh hmg ?B ?con0 ?g13 ?g24 ?g39 ?nd ?DA (_G.zr ?a13 ?l13 ?c13 ?k13 ?e13 ?u13 ?v13 ?w13 ?x13 ?y13 ?z13 ?t13) (_G.zr ?a24 ?l24 ?c24 ?k24 ?e24 ?u24 ?v24 ?w24 ?x24 ?y24 ?z24 ?t24) (_G.zr ?a39 ?l39 ?c39 ?k39 ?e39 ?u39 ?v39 ?w39 ?x39 ?y39 ?z39 ?t39) ?n13 ?r13 ?n24 ?r24 ?n39 ?r39
  (case con0=>exact⟨_,by k_is⟩)
  case B=>
   intro x hx;simp only[_G.lG,aH,iO,or_false]at hx;rcases hx with rfl|rfl|rfl|rfl|rfl|rfl|rfl|rfl|rfl|rfl|rfl|rfl|rfl|rfl|rfl|rfl|rfl|rfl|rfl|rfl
   all_goals k_is
  case DA=>
   iterate 38 (refine' And.intro (_G.Qr ?a ?l ?c ?k) ?_;(case a=>k_is);(case l=>k_is);(case c=>k_is);(case k=>k_is))
   trivial
  (case a13=>k_is);(case l13=>k_is);(case c13=>k_is);(case k13=>k_is)
  (case e13=>k_is);(case u13=>rfl);(case v13=>rfl);(case w13=>rfl);(case x13=>rfl);(case y13=>rfl);(case z13=>rfl);(case t13=>decide)
  (case a24=>k_is);(case l24=>k_is);(case c24=>k_is);(case k24=>k_is)
  (case e24=>k_is);(case u24=>rfl);(case v24=>rfl);(case w24=>rfl);(case x24=>rfl);(case y24=>rfl);(case z24=>rfl);(case t24=>decide)
  (case a39=>k_is);(case l39=>k_is);(case c39=>k_is);(case k39=>k_is)
  (case e39=>k_is);(case u39=>rfl);(case v39=>rfl);(case w39=>rfl);(case x39=>rfl);(case y39=>rfl);(case z39=>rfl);(case t39=>decide)
  (case g13=>decide)
  (case g24=>decide)
  (case g39=>decide)
  (case nd=>decide)
  (case n13=>kernel_rfl);(case r13=>rfl)
  (case n24=>kernel_rfl);(case r24=>rfl)
  (case n39=>kernel_rfl);(case r39=>rfl)
