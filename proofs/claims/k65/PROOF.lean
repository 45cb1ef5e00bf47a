import PyProof.Rows.All
import Wide.All
import OpenK.AllK
import Wide.FinOn
import Lean
import PyProof.EqAt
import PyProof.EqKinds
import PyProof.TupleCall
import PyProof.EnumStmt
import PyProof.EnumMake
import PyProof.EnumFor
import PyProof.ZipIter
import PyProof.SetKind
import PyProof.Rows.SetFrom
import PyProof.CompFree
import PyProof.CompMap
import PyProof.Cells
import PyProof.ListMulRoad
import PyProof.ConsumeWalk
import PyProof.TupleOfGen
import PyProof.ListRange
import PySem.Challenge.RW_groupwalks_k65_rounds_woven
set_option bootstrap.genMatcherCode false
set_option Elab.async false
set_option linter.all false
set_option maxRecDepth 100000
set_option maxHeartbeats 0
set_option compiler.postponeCompile true
set_option bootstrap.genMatcherCode false
set_option genSizeOfSpec false
set_option relaxedAutoImplicit false
set_option compiler.extract_closed false
open scoped BitVec
set_option hygiene false
local macro_rules
|`(0#0)=>`(var_eq rfl)
|`(0#1)=>`(by decide)
|`(0#2)=>`(by omega)
|`(0#3)=>`(ae 0)
local macro_rules
|`(0#4)=>`(by simp)
|`(0#5)=>`(S.length)
|`(0#6)=>`(ae 1)
|`(0#7)=>`(ae 2)
local macro_rules
|`(0#8)=>`(s.heap.objs.size)
|`(0#9)=>`(us.length)
|`(1#0)=>`(by decide +kernel)
|`(1#1)=>`(by assumption)
local macro_rules
|`(1#2)=>`(model X.prog X.w)
|`(1#3)=>`(mC (.int 1))
|`(1#4)=>`(some (tab m T))
|`(1#5)=>`(xs.length)
local macro_rules
|`(1#6)=>`(ae 3)
|`(1#7)=>`(ak l)
|`(1#8)=>`(au1._auto_1)
|`(1#9)=>`(ar _)
local macro_rules
|`(2#0)=>`((e::es))
|`(2#1)=>`(model prog w)
|`(2#2)=>`(Pre.refl _)
|`(2#3)=>`(mC (.int 2))
local macro_rules
|`(2#4)=>`(mC (.int 0))
|`(2#5)=>`(Addr×Obj)
|`(2#6)=>`(l.length)
|`(2#7)=>`(some (.ref 0#5))
local macro_rules
|`(2#8)=>`(vs.length)
|`(2#9)=>`(tMA M.K mas)
|`(3#0)=>`(some (tab m B))
|`(3#1)=>`(ys.length)
local macro_rules
|`(3#2)=>`(some (tab k A))
|`(3#3)=>`(tM M.K ma)
|`(3#4)=>`(aa (ae 1) ai)
|`(3#5)=>`(some (.tup (ak l)))
local macro_rules
|`(3#6)=>`(Ex.push _ _)
|`(3#7)=>`(scope.names)
|`(3#8)=>`(aa (ae 2) ai)
|`(3#9)=>`(some (.ref n))
local macro_rules
|`(4#0)=>`(S.gl hg)
|`(4#1)=>`(mFn bL (aa (ae 0) ai))
|`(4#2)=>`(S++[.lst []])
|`(4#3)=>`(some (.int n))
local macro_rules
|`(4#4)=>`(aa a ai)
|`(4#5)=>`((ak (y::p)))
|`(4#6)=>`(items.size)
|`(4#7)=>`(λ_ _ _ _ _ _=>us2 λ_ _=>rfl)
local macro_rules
|`(4#8)=>`(kvs.length)
|`(4#9)=>`(X.stack)
|`(5#0)=>`(some (.tup (ak w)))
|`(5#1)=>`(some (.int i))
local macro_rules
|`(5#2)=>`(some (.obj 0))
|`(5#3)=>`(by rw[S.hm];omega)
|`(5#4)=>`(len_tab 0#0)
|`(5#5)=>`([Cell.lst []])
local macro_rules
|`(5#6)=>`((.inl rfl))
|`(5#7)=>`(ns.length)
|`(5#8)=>`(tMA K a)
|`(5#9)=>`(aa (ae 4) ai)
local macro_rules
|`(6#0)=>`(tMT M.K mt)
|`(6#1)=>`(aa 0#3 ai)
|`(6#2)=>`(ps.length)
|`(6#3)=>`(S1.length)
local macro_rules
|`(6#4)=>`(M.to caps capv cds base)
|`(6#5)=>`(by simp_all)
|`(6#6)=>`(Str×NameKind)
|`(6#7)=>`(X.env.locals)
local macro_rules
|`(6#8)=>`(Str×Addr)
|`(6#9)=>`(s2.heap.objs.size)
|`(7#0)=>`(some (.ref 0))
|`(7#1)=>`(aa 1#6 ai)
local macro_rules
|`(7#2)=>`((.nx,Y4,S'))
|`(7#3)=>`(tM M.K mb)
|`(7#4)=>`((.ref 0#8))
|`(7#5)=>`((.int x,S1))
local macro_rules
|`(7#6)=>`(tM M.K m)
|`(7#7)=>`((x == ("__debug__":Str)))
|`(7#8)=>`(R.e _ _ _ _ e1 X S)
|`(7#9)=>`(s1.heap.objs.size)
local macro_rules
|`(8#0)=>`(aa 2#4 ai)
|`(8#1)=>`(I.ok.hd hc)
|`(8#2)=>`(aX.refl _)
|`(8#3)=>`((.int y,S2))
local macro_rules
|`(8#4)=>`(blk X N' scope ZY ZU fp)
|`(8#5)=>`(R.e _ _ _ _ e2 X S)
|`(8#6)=>`(some (.int (x:Nat)))
|`(8#7)=>`((l.map (· * m)))
local macro_rules
|`(8#8)=>`(EP X pins σ Q)
|`(8#9)=>`(aa 0#3 3#4)
|`(9#0)=>`(some (.int k))
|`(9#1)=>`(p1.trans p2)
local macro_rules
|`(9#2)=>`(p.length)
|`(9#3)=>`(M.K.to caps capv cds)
|`(9#4)=>`((.ref S'.length))
|`(9#5)=>`(er.mono k1 p1)
local macro_rules
|`(9#6)=>`(k1.trans k2)
|`(9#7)=>`(au2._auto_1)
|`(9#8)=>`(r.length)
|`(9#9)=>`((starEach (e::es) X.env=(false,eval e X.env)::starEach es X.env))
local macro_rules
|`(10#0)=>`(⟨μ,S,G,x,S1,hr,er,e1,λY0 vx H1 p1 k1 Z' rx =>?_⟩)
|`(10#1)=>`([tab k A,u,tab m B,v])
|`(10#2)=>`(by exact cx 0#1 _)
|`(10#3)=>`(some (.int (m:Nat)))
local macro_rules
|`(10#4)=>`(some (.int (j:Nat)))
|`(10#5)=>`(λz=>nomatch z)
|`(10#6)=>`(ns.map V.int)
|`(10#7)=>`(k.mono p1 k1)
local macro_rules
|`(10#8)=>`(some (.obj g))
|`(10#9)=>`(h'.objs.size)
|`(11#0)=>`(aa 1#3 ai)
|`(11#1)=>`((.Name x p1))
local macro_rules
|`(11#2)=>`(aa (ae 2) (aa (ae 3) ai))
|`(11#3)=>`(baseOf s.heap H (frs X.stack))
|`(11#4)=>`((ak ((bk k A l).map (· * m))))
|`(11#5)=>`(R.a _ _ _ _ e1 X S)
local macro_rules
|`(11#6)=>`([Cell.lst [.int 0]])
|`(11#7)=>`(ha _ s σ H _ I h)
|`(11#8)=>`((.Tuple ts kt pt))
|`(11#9)=>`(S.room.mono hk)
local macro_rules
|`(12#0)=>`(O.B _ 1#0)
|`(12#1)=>`(bZ (mC (.bl false)))
|`(12#2)=>`(M.K.cds++[(c',oc)])
|`(12#3)=>`([Cell.lst (ak l)])
local macro_rules
|`(12#4)=>`(ZZ.toArray.size)
|`(12#5)=>`(G++[some u])
|`(12#6)=>`(aa (ae 5) ai)
|`(12#7)=>`(h.objs.size)
local macro_rules
|`(12#8)=>`(((backTo pos (starEach es X.env)).any (·.1)=false))
|`(12#9)=>`([x,some u,y,some (.ref (0#5+2))])
|`(13#0)=>`(by rw[<- hE];rfl)
|`(13#1)=>`(by simp;omega)
local macro_rules
|`(13#2)=>`(aa 0#3 3#8)
|`(13#3)=>`(scope.kind)
|`(13#4)=>`([some (.ref n),some (.tup (ak l)),some (.int (m:Nat)),some (.int (k:Nat)),some od,none])
|`(13#5)=>`(eP X.env.cells scope.names [])
local macro_rules
|`(13#6)=>`((false,eval a X.env))
|`(13#7)=>`(⟨.bl _,H,I,rfl,q⟩)
|`(13#8)=>`(ZY.heap.objs.size)
|`(13#9)=>`(aa 0#3 (aa (ae 3) (aa 0#6 3#8)))
local macro_rules
|`(14#0)=>`(λ_ _ _ _ _ _=>us4 λ_ _ _ _=>rfl)
|`(14#1)=>`(λ_ _ _ _ _ _=>us1 λ_=>rfl)
|`(14#2)=>`(((l.map (· * m)).take j))
|`(14#3)=>`(by unfold big;omega)
local macro_rules
|`(14#4)=>`((false,eval b X.env))
|`(14#5)=>`(starEach es X.env)
|`(14#6)=>`(by simpa using hj)
|`(14#7)=>`(some (.tup (ak p)))
local macro_rules
|`(14#8)=>`((ak (y::p)++ak (thL (bk m B p) p 0 (l.map (· * m)))))
|`(14#9)=>`([3#2,some u,3#0,some v,none,none,none])
|`(15#0)=>`(mSl 0#6 none (some 1#6))
|`(15#1)=>`(X.s₀.heap.objs.size)
local macro_rules
|`(15#2)=>`(G.set i (some u))
|`(15#3)=>`(ZI.objs.size)
|`(15#4)=>`([some (tab k A),some (.tup (ak l)),some (tab m B),some (.tup (ak (y::p))),some (.tup (ak p)),some (.ref S4.length),none])
|`(15#5)=>`(⟨μ,S,G,_,_,hr,er,e1,λY0 vs H1 p1 k1 Z' rs =>?_⟩)
local macro_rules
|`(15#6)=>`((.ListComp elt [⟨.Name x px,iter,ifs,0⟩] scope pos))
|`(15#7)=>`([kL b [0,1,2],kL b [3,4,5],kL b [0,1,2,3,4,5]])
|`(15#8)=>`((∀x,foldedSetIterable iter X.env x=pure x))
|`(15#9)=>`(⟨T.D,T.C,T.L,T.H,true,T.Z.to nm⟩)
local macro_rules
|`(16#0)=>`(us.map some++bx (n - k) none)
|`(16#1)=>`((X.mg "__name__").getD .none)
|`(16#2)=>`(starEach [a] X.env = [13#6])
|`(16#3)=>`((.builtin "object.__class__"))
local macro_rules
|`(16#4)=>`([Cell.dic [(.inl 0,.int 1)]])
|`(16#5)=>`((λy=>N.findIdx? (· == y)))
|`(16#6)=>`(run ps.length N.length ms)
|`(16#7)=>`(⟨by decide,by decide⟩)
local macro_rules
|`(16#8)=>`(show ai _ _=_ from rfl)
|`(16#9)=>`(X.env.qual++"<lambda>")
|`(17#0)=>`([(p1,("_law_woven":Str)++".<locals>."++"<lambda>"),(Xo,("put_together":Str)++".<locals>."++"<lambda>"),(XC,("_law_right":Str)++".<locals>."++"<lambda>")])
|`(17#1)=>`(k==aV&&env.scope.kind==.function&&env.kindOf n==some .cell)
local macro_rules
|`(17#2)=>`((∀Y1 H',N Y1 H' -> ∃m',m'<m/\W (k+1) m' Y1 H'))
|`(17#3)=>`(some (.tup (ak (a++thL (bk m T p) p 0 (l.take j)))))
|`(17#4)=>`((∀b o',s.heap.get? b=some o'->h'.get? b=some o'))
|`(17#5)=>`([3#9,some (.int most),some (.int way),1#4,x,y])
local macro_rules
|`(17#6)=>`(X.fn x=true\/X.env.scope.names.lookup x=some .local)
|`(17#7)=>`(some (.int ((i+j+uW (i / 2) (j / 2)) % 2)))
|`(17#8)=>`([7#0,none,none,none,none,none,none,none])
|`(17#9)=>`(m2 oGt (m2 d7 4#1 0#7) (mC (.int 24)))
local macro_rules
|`(18#0)=>`(mFn be (aa 0#3 (aa (mC (.int 3)) ai)))
|`(18#1)=>`(kvs.any λkv=>decide (kv.1=k))
|`(18#2)=>`((x == ("__classdict__":Str)))
|`(18#3)=>`(⟨k',Xw,hk,⟨F'.ex⟩⟩)
local macro_rules
|`(18#4)=>`(dD (gN 6) (dD (gN 7) jH))
|`(18#5)=>`(cOf (m1 (iw "int") 0#7))
|`(18#6)=>`([3#9,3#5,some (.int (m:Nat)),some (.int (k:Nat)),some od,some (.ref (S3++[Cell.lst (ak l)]).length)])
|`(18#7)=>`(m2 bM (m2 bM (ae 5) (dS (aa (ae 7) ai))) (m2 oIx (ae 4) (m2 oMod (ae 6) 2#3)))
local macro_rules
|`(18#8)=>`(cOr (cOf (m2 oEq (m2 oMod 4#1 2#3) 1#3)) (cOf (m2 oLt (mFn bL 3#8) 2#3)))
|`(18#9)=>`(mML i8 (ae 4) (aa (m2 oIx (cw 11#2) (m2 oMod (ae 5) 2#3)) ai))
|`(19#0)=>`([3#2,some u,3#0,some v,some (tab (k*m) (fU m A B)),none,none])
|`(19#1)=>`(thn (ha _ _ s σ H _ I h) λus s1 ⟨vs,H1,I1,r1,q1⟩ =>?_)
local macro_rules
|`(19#2)=>`((J.stop i H /\ ∀D,H D=none->Q (.ref D) (upd H D (.lst ys))))
|`(19#3)=>`(cU x x (fv st) (bu st) (ax st) .none kV doc pm an cdv ct)
|`(19#4)=>`(⟨μ,S,G,x,S1,hr,er,e1,λY0 H1 p1 k1 Z' =>?_⟩)
|`(19#5)=>`(⟨_,S1,G,u,S',Z',er.mono k1 p1,e,k.mono p1 k1⟩)
local macro_rules
|`(19#6)=>`(λacc x=>if x∈acc then acc else acc++[x])
|`(19#7)=>`((∀x c,X.env.cells.lookup x=some c->c≠b))
|`(19#8)=>`([x,some u,y,some (.ref (0#5+2)),5#1])
|`(19#9)=>`([.Tuple [.Name x px,.Name y py] kt pt])
local macro_rules
|`(20#0)=>`(⟨.str _,_,I.tok _,⟨_,rfl⟩,q⟩)
|`(20#1)=>`(k1.trans (k2.trans (k3.trans kw)))
|`(20#2)=>`([.tup (ak (bk m T p)),.tup (ak p)])
|`(20#3)=>`(some (.int (A (i / m) (j / m))))
local macro_rules
|`(20#4)=>`(cOr (eB (cOf (mFn bH (aa (ae 3) (aa (ae 7) (aa (ae 4) (aa (ae 6) ai))))))) (eB (cOf (mFn bH (aa (ae 4) (aa (ae 6) (aa (ae 3) (aa (ae 7) ai))))))))
|`(20#5)=>`(aY (fA 3 (iR1 (aa 0#3 ai)) (dk (mML cb (ae 2) (aa (mFn bU (aa (cY (iR1 (aa 0#3 ai)) cTT (pq 1 g φ (aa (ae 3) (aa (ae 4) ai)))) ai)) ai)))) (bZ (mFn bU 3#8)))
|`(20#6)=>`(if (k'==aV&&env.scope.kind==.function&&env.kindOf n==some _)=true then(n,dQ) else(n,k'))
|`(20#7)=>`(⟨.ref _,_,I.laid (λb ob q=>ag _ q) (ar _) ?_,rfl,q _ (I.hok.fresh (ar _))⟩)
local macro_rules
|`(20#8)=>`((∀c o,c≠z->c≠TO->c≠i1->c≠i2->s.heap.get? c=some o->h'.get? c=some o))
|`(20#9)=>`(m2 d7 2#3 (m2 oIx (m2 oIx 0#6 (m2 oDiv 1#6 2#3)) (m2 oDiv (ae 5) 2#3)))
|`(21#0)=>`(mML cb 0#7 (aa (m2 oIx (m2 oIx 0#3 (m2 oIx 0#7 (m1 m7 1#3))) 1#6) ai))
|`(21#1)=>`(by first | exact .inl (by decide +kernel) | exact .inr (by decide +kernel))
local macro_rules
|`(21#2)=>`(m2 d7 (m2 oIx (m2 oIx 1#6 (m2 oDiv 0#3 0#7)) (m2 oDiv 0#6 0#7)) 0#7)
|`(21#3)=>`((∀ (s:Shared) (v:Value),BindsTo s fd ⟨[v],[]⟩ [("script",v)]))
|`(21#4)=>`(thn (ha pos pins s σ H _ I h) λus s1 ⟨vs,H1,I1,r1,q1⟩ =>?_)
|`(21#5)=>`(m2 oIx (m2 oIx (ae 4) (m2 oMod 0#3 0#7)) (m2 oMod 0#6 0#7))
local macro_rules
|`(21#6)=>`(cU x x (fv st) (bu st) (ax st) .none kV doc pm an (.ref c) ct)
|`(21#7)=>`(cU x qual (fv st) (bu st) (ax st) .none kV doc pm an cdv ct)
|`(21#8)=>`(⟨rfl,I.turned (λb o hb e=>eb b o hb e) f0 f1 f3 f4 f5⟩)
|`(21#9)=>`(aa (mIs u (b 3)) (aa (mIs u (b 4)) (aa (mIs u (b 5)) ai)))
local macro_rules
|`(22#0)=>`([7#0,5#1,some 9#4,3#2,3#0,5#0,some (.tup (ak z)),u7])
|`(22#1)=>`(by rw [typeLookup_type,builtinLookup_eq_fast];kernel_rfl)
|`(22#2)=>`(⟨μ,S,G,_,_,hr,er,e1,λY0 vx H1 p1 k1 Z' rx =>?_⟩)
|`(22#3)=>`(⟨Y0,S1,G,C,S',Z',er.mono k1 p1,q,aft.mono p1 k1⟩)
local macro_rules
|`(22#4)=>`((∃ o,h'.get? e=some o/\o.cls = .type "StopIteration"))
|`(22#5)=>`(cOr (eB (cOf (mFn dy 8#9))) (eB (cOf (mFn dy 11#2))))
|`(22#6)=>`((∀Y1 H',N Y1 H' -> ∃m',m'<m/\W (i+1) m' Y1 H'))
|`(22#7)=>`(match a G S with |some (.nx,Y3,S1)=>b _ S1 |r=>r)
local macro_rules
|`(22#8)=>`(some (.builtin "BaseException.__getattribute__"))
|`(22#9)=>`(aa (mFn du 11#2) (aa (mFn du (aa 0#7 5#9)) ai))
|`(23#0)=>`((∀ b o,s.heap.get? b=some o->h'.get? b=some o))
|`(23#1)=>`(dk (mML cb (ae 4) (aa (m2 d7 (ae 6) 0#6) ai)))
local macro_rules
|`(23#2)=>`([tab (2+r) (fC (2+r)),tab (2*(2+r)) (il (2+r))])
|`(23#3)=>`((∀b o,s.heap.get? b=some o->h'.get? b=some o))
|`(23#4)=>`(ot qual scope s.heap.objs.size f (.ref c) XD)
theorem au1(h:0=0:=by rfl):0=0:=h
theorem au2(h:0=0:=by decide):0=0:=h
theorem au3(h:Nat->0=0:=by intro _;rfl):0=0:=h 0
theorem au4(h:0=0\/0=1:=by first |exact .inl rfl |exact .inr rfl |assumption):0=0:=rfl
noncomputable section
open Array renaming length_toList→fg,toList_append→G7
open Bool renaming and_eq_true→ao,and_eq_true_iff→eT,and_true→eW,false_ne_true→ip,false_eq_true→iq,not_eq_true'→ls,not_true→B4,true_and→Cb,or_eq_false_iff→Hb
open Classical renaming propDecidable→ck
open False renaming elim→bO
open ForInStep renaming yield→eF
open Int renaming ofNat_lt→fM,toNat_natCast→lu,natCast_emod→ni,emod_lt_of_pos→uC,natCast_ediv→yc,toNat→yd,emod_nonneg→zV,natCast_add→zW,eq_ofNat_of_zero_le→DH
open List renaming getElem?_eq_some_iff→ah,mem_cons_of_mem→ay,range→aB,length_append→aD,length_map→aF,getElem?_set_ne→aG,mem_cons→aJ,getElem?_set_self→aK,mem_cons_self→aL,length_cons→aO,mem_append_right→aU,getElem?_append_left→aW,mem_singleton→a9,size_toArray→bg,length_range→bh,mem_map→bp,getElem?_eq_getElem→bq,replicate→bx,all_cons→bA,lookup_cons→bJ,getElem?_append_right→bP,length_nil→cp,getElem?_map→cy,mem_range→cK,not_mem_nil→cQ,all_eq_true→cR,mem_of_getElem?→dc,map_append→de,mem_append_left→dz,findIdx?_eq_some_iff_getElem→dC,map_congr_left→dH,mem_append→dI,range'→dJ,map_map→dW,reverse_cons→d8,length_reverse→eh,length_take→eu,nodup_cons→eS,eq_nil_of_length_eq_zero→fw,all_nil→fy,append_assoc→gg,length_drop→gH,mem_reverse→gJ,filterMap_cons→gO,map_cons→ic,append_nil→ig,length_set→ij,lookup_append→ir,getElem?_replicate→iD,getElem_mem→jd,drop_length→jf,range_eq_range'→jy,of_mem_zip→jN,range_succ→jO,pairwise_map→lr,take_length→mV,nodup_range→mY,range'_succ→mZ,nil_append→oG,length_replicate→oH,set_append_right→oI,mem_of_mem_take→pL,mem_of_mem_drop→pN,getElem_of_mem→rh,filter_eq_self→rA,findIdx?_cons→rZ,nodup_append→uE,cons_append→v5,length→xX,mem_filter→ye,forIn_cons→yf,foldl_cons→yg,getD_eq_getElem?_getD→z8,perm_ext_iff_of_nodup→Aa,nodup_iff_pairwise_ne→Ab,any_cons→B8,idxOf_lt_length_iff→B9,getElem?_cons_succ→Dz,getElem?_cons_zero→DC,pairwise_lt_range→DF,take_of_length_le→DI,zipWith→DJ,length_filter_le→GW,lookup→G4,getElem_toArray→G5,getElem?_mapIdx→G6,map_eq_cons_iff→G8,map→G9
open List.Pairwise renaming nil→gK
open Nat renaming lt_of_lt_of_le→aq,le_refl→ar,le_trans→aE,ne_of_lt→aH,le_of_lt→aN,lt_of_le_of_lt→aP,lt_trans→bc,mod_eq_of_lt→bj,lt_irrefl→br,ne_of_gt→bF,add_pos_left→cx,lt_succ_self→dA,le_succ→dZ,lt_succ_of_lt→d9,zero_add→ek,zero_le→en,le_add_right→eD,div_eq_of_lt→eE,le_of_not_lt→ft,lt_of_le_of_ne→fL,le_mul_of_pos_left→fN,add_assoc→fX,min_eq_left→j2,mul_comm→kn,mul_lt_mul_of_pos_right→ko,mod_lt→kT,add_mod_right→lA,sub_sub_right→lB,sub_add_comm→nh,mod_self→oC,sub_le→oE,mod_add_mod→oJ,mul_le_mul_right→qL,mul_le_mul_left→rN,le_succ_of_le→vb,le_of_lt_succ→vd,le_mul_of_pos_right→DK,add_comm→GU,lt_of_succ_lt_succ→GV,div_lt_iff_lt_mul→Ha
open Nat.succ renaming inj→z7
open Ne renaming symm→cZ
open Option renaming bind_some→aI,isSome_iff_exists→cM,map_eq_some_iff→iN,filter_eq_some_iff→kq,map_some→vZ
open Option.some renaming inj→dU,injEq→jP
open PyProof.Rows renaming callWith_type1→bB,slot_tuple_getitem→cW,recsOf→fZ,callWith_builtin1→pJ,boot_tuple→vc,boot_list→v8
open PyProof.Rows.F renaming plain_set_update_loop→fP,entry_set_update_loop→ly
open PyProof.Rows.IsTup renaming new→pI
open PySem renaming wpAny_bind→af,wpAny_pure→av,wpAny→aC,wpAny_field→bf,wpAny_callSpecial?_slot→bC,wpAny_mono→bK,mem_of_lookup→bR,wpAny_call_entry→cf,wpAny_newObj_type→cj,wpAny_Call_Name_kw→cN,wpAny_setField_rec→cP,codeAny_builtin→dh,wpAny_holding→dM,wpAny_truthy_bool→dO,wpAny_pyIter_tuple→eQ,codeAny_mono→fj,wpAny_seqItems→fK,wpAny_of_eq→fV,wpAny_passesOwn→gp,wpAny_rule→ib,wpAny_attempt→iS,wpAny_execs_nil→iT,wpAny_loadPart'→iU,wpAny_typeOf→jt,wpAny_loadPart_at→jv,wpAny_isInstance→j1,PyData→j3,codeAny→j4,wpAny_setField→mD,wpAny_runValue→mE,wpAny_assign_Name→nG,wpAny_pyIter_list→nH,wpAny_comprehension_free→oB,wpAny_specialOf→rg,Addr→rO,wpAny_updateSeq_pair→uz,codeAny_call_builtin→uA,wpAny_standAt→vX,wpAny_onRaise→vY,wpAny_call→xW,wpAny_sequenceKey→zP,wpAny_execs_cons→A5,wpAny_letGo→B6,Str→Ca,wpAny_updateSeq→Du,codeAny_of_tree→Dw,wpAny_load→GP
open PySem.Around renaming under_plainId→je,frames_deeper→DE
open PySem.Builtin.List renaming listTooLong→gh,listSameRef→uD
open PySem.Builtin.Range renaming rangeSize→dP,small→mF
open PySem.Builtin.Slice renaming slicePlaces→dB,sliceAdjust→fO,sliceApplied→rL
open PySem.Builtin.SmallTypes renaming nextOf→bo,ownedTupleIsFree→bX,ownedTupleHandOut→dN,newClass→oA
open PySem.Builtin.Tuple renaming tupleItemsOf→jb,tupleExact→uB
open PySem.Calls renaming spliced_cons→dq,spliced_nil→eR,evalArgs_plain→ju,Constant_str→rK,Name_function_global→zO,call_function_entry→z0,callWith_builtin→Dt
open PySem.Data renaming cell→Dv,fields→G0,seq→G3
open PySem.F renaming slot_tuple_iterator_next→gL,plainAttrs_list→ie,slot_enumerate_next→jx,typeOf_object_class→jB,args_tuple_add_2→kR,entry_tuple_add→lq,slot_tuple_add→mB,slot_zip_next→pK,entry_proto_collect→qK,args_object_init_2→rM,plain_list_iadd→xY,entry_list_iadd→xZ,excBase_ValueError→ya,slot_list_append→zR,type_list_append→zS,slot_tuple_index→zT,args_tuple_iterator_next_1→A6,entry_tuple_iterator_next→B5,plain_set_new→B7,args_enumerate_next_1→G2
open PySem.Heap renaming get?_push_of_some→ag,get?_push_size→aw,lt_size→az,size_push→ba,SameBut→cX,get?_update_self→dm,get?_update_other→dE,ExtBut→jw,IsTuple→nI,FlyingW→nJ
open PySem.Heap.IsSliceOf renaming new→mU
open PySem.Heap.SameBut renaming update→eJ
open PySem.IsL renaming update→GQ
open PySem.NameKind renaming free→aV,cell→dQ
open PySem.Obj renaming mapSeq→fI,data_mapFields→fJ,isFreed_of_fields→pG
open PySem.Paired renaming length→zX
open PySem.PassesOwn renaming never→lz
open PySem.PyData renaming int→dF,strOk→dR,canLay0→eA,canLayAll0→eK,eqv→fQ,eqvAll→fY,depthAll→lg,eqv→mW,depthAll→nc,showable→ng,intsShortAll→pM,showableAll→rm,depth→r9,intsShort→uF,weightAll→uG,shownAll→v9,hasDict_of_canLay→z6,strOk→z9
open PySem.SetTable renaming below→bI,grown→fW,has→zY
open PySem.SetTable.below renaming go→gI
open PySem.SetTable.probe renaming go→zQ
open PySem.Shared renaming heap→kS,TypeIs→zZ
open PySem.Str renaming ofString→ej,empty→xV
open PySem.Value renaming ref→cg,none→eC,builtin→rj,isInt_shape→uy,int→u9,type→zN
open PySem.W renaming Frag→aj,nsIn→aZ,kitOne→cm,mg_of→cq,kia_one→cH,keepIn→cJ,fnOf→cU,hideAll_get→eV,hideAll_none→gd,codeIn→gf,hideAll→gM,cellsFrom_some→iC,of_hideAll→jZ,callWith_K→j0,OpenLaw→mX,hideAll_size→oz,instObj→va,kla_makeFunctionHit→v7,lookIn→xU,exmOne→yb,kla_makeFunction→zU,kla_callFunE→Dx,kla_codeExpr→Dy,callWith_K0→DD,callWith_of→DG,mg_none_of→GT,kitx_none→GX,kitx_list→GY,kitx_dict→GZ
open PySem.W.Looks renaming ld→pH
open Sum renaming inl→oy,inr→GO
open True renaming intro→fx
namespace _L
open PySem PySem.Spec PyProof.Rows
abbrev Key:=Sum Int Str
def sR:Key->Value->Bool
 |.inl k,v=>Value.isInt k v
 |.inr x,v=>Value.isStrOf x v
def QC(w:World):Key->Int
 |.inl k=>hashInt k
 |.inr x=>hashStr w x
theorem d4:∀{k:Key}{v:Value},sR k v=true->(∃i t,k=oy i/\v=u9 i t)\/(∃x t,k=GO x/\v=Value.str x t)
 | .inl i,v,h=>by
   obtain⟨t,e⟩:=uy h;exact .inl ⟨i,t,rfl,e⟩
 | .inr x,v,h=>by
   obtain⟨t,e⟩:=Value.isStrOf_shape h;exact .inr ⟨x,t,rfl,e⟩
theorem CP(i:Int)(t:Tok):sR (.inl i) (.int i t)=true:=by simp[sR,Value.isInt]
theorem Cd(x:Str)(t:Tok):sR (.inr x) (.str x t)=true:=by simp[sR,Value.isStrOf]
theorem M5(a b:Int):decide ((oy a:Key)=oy b)=(a==b):=by
 grind
theorem MH(a b:Str):decide ((GO a:Key)=GO b)=decide (a=b):=by
 grind
theorem M4(a:Int)(b:Str):decide ((oy a:Key)=GO b)=false:=decide_eq_false (λq=>nomatch q)
theorem Kt(a:Str)(b:Int):decide ((GO a:Key)=oy b)=false:=decide_eq_false (λq=>nomatch q)
def dX(prog:Program)(w:World):PySem.KeyKind prog w Key where
 is:=sR
 hash:=QC w
 inj:=λv a b ha hb=>by
  rcases d4 ha with⟨i,t,rfl,rfl⟩|⟨x,t,rfl,rfl⟩
  .rcases d4 hb with⟨j,u,rfl,e⟩|⟨y,u,rfl,e⟩
   .injection e with e1 _;rw[e1]
   .exact nomatch e
  .rcases d4 hb with⟨j,u,rfl,e⟩|⟨y,u,rfl,e⟩
   .exact nomatch e
   .injection e with e1 _;rw[e1]
 byValue:=λk v h=>by
  rcases d4 h with⟨i,t,rfl,rfl⟩|⟨x,t,rfl,rfl⟩<;>rfl
 pyHash:=λhv h=>by
  rcases d4 hv with⟨i,t,rfl,rfl⟩|⟨x,t,rfl,rfl⟩
  .exact wpAny_pyHash_int h
  .exact wpAny_pyHash_str h
 eqBool:=λhu hv h=>by
  rcases d4 hu with⟨i,t,rfl,rfl⟩|⟨x,t,rfl,rfl⟩
  .rcases d4 hv with⟨j,u,rfl,rfl⟩|⟨y,u,rfl,rfl⟩
   .rw[M5]at h;exact wpAny_eqBool_int h
   .rw[M4]at h;exact SeqAt.EqAt.int_str i t y u _ _ _ _ h
  .rcases d4 hv with⟨j,u,rfl,rfl⟩|⟨y,u,rfl,rfl⟩
   .rw[Kt]at h;exact SeqAt.EqAt.str_int x t j u _ _ _ _ h
   .rw[MH]at h;exact wpAny_eqBool_str h
 «strs»:=λk x t v h=>by
  rcases d4 h with⟨i,u,rfl,e⟩|⟨y,u,rfl,e⟩
  .exact nomatch e
  .injection e with e1 _
   subst e1;cases v<;>rfl
theorem zB(prog:Program)(w:World)(i:Int)(t:Tok):(dX prog w).is (.inl i) (.int i t)=true:=CP i t
theorem yt(prog:Program)(w:World)(x:Str)(t:Tok):(dX prog w).is (.inr x) (.str x t)=true:=Cd x t
inductive V where
 |non |bl (b:Bool) |int (i:Int) |str (x:Str) |byt (b:Array UInt8) |flt (b:UInt64) |ref (a:Addr) |ty (n:String)
def RelV:V->Value->Prop
 |.non,u=>u=eC
 |.bl b,u=>u=Value.bool b
 |.int i,u=>∃t,u=u9 i t
 |.str x,u=>∃t,u=Value.str x t
 |.byt b,u=>∃t,u=Value.bytes b t
 |.flt b,u=>∃t,u=Value.float b t
 |.ref a,u=>u=cg a
 |.ty n,u=>u=zN n
abbrev cu:List V->List Value->Prop:=Paired RelV
variable{xs:List V}{us:List Value}
theorem cu.length(r:cu xs us):1#5=0#9:=zX r
theorem cu.get:∀{xs:List V}{us:List Value}{i:Nat}{x:V},cu xs us->xs[i]?=some x->∃u,us[i]?=some u/\RelV x u
 |_,_,_,_,.nil,e=>by simp at e
 |_,_,0,_,.cons r _,e=>by simp_all
 | _,_,i+1,x,.cons _ t,e=>by
   obtain⟨u,h1,h2⟩:=cu.get t (by simpa using e)
   simp_all
theorem cu.set{x:V}{u:Value}(r:RelV x u):∀{xs:List V}{us:List Value} (i:Nat),cu xs us->cu (xs.set i x) (us.set i u)
 |_,_,_,.nil=>.nil
 |_,_,0,.cons _ t=>.cons r t
 |_,_,i+1,.cons q t=>.cons q (cu.set r i t)
theorem cu.append:∀{xs ys:List V}{us ws:List Value},cu xs us->cu ys ws->cu (xs++ys) (us++ws)
 |_,_,_,_,.nil,s=>s
 |_,_,_,_,.cons r t,s=>.cons r (cu.append t s)
theorem cu.take:∀{xs:List V}{us:List Value} (n:Nat),cu xs us->cu (xs.take n) (us.take n)
 |_,_,0,_=>.nil
 |_,_,_+1,.nil=>.nil
 |_,_,n+1,.cons r t=>.cons r (cu.take n t)
theorem cu.drop:∀{xs:List V}{us:List Value} (n:Nat),cu xs us->cu (xs.drop n) (us.drop n)
 |_,_,0,r=>r
 |_,_,_+1,.nil=>.nil
 |_,_,n+1,.cons _ t=>cu.drop n t
def tj:Option V->Option Value->Prop
 |some v,some u=>RelV v u
 |none,none=>True
 |_,_=>False
def KV{κ:Type}:List (κ×V)->List (κ×Value)->Prop:=Paired λ(p:κ×V) (q:κ×Value)=>p.1=q.1/\RelV p.2 q.2
def kV:Key->V
 |.inl i=>.int i
 |.inr x=>.str x
inductive HO where
 |lst (xs:List V)
 |tup (xs:List V)
 |dK (kvs:List (Key×V)) |dT (kvs:List (List Key×V))
 |set (S:Int->Bool) (n:Nat)
 |ins (C dx:Addr) (fs:List (Str×V))
 |own (x:Addr)
 |xd (fs:List (Str×V))
 |met (f x:Addr)
 |rng (lo hi:Int)
 |frz (o:Obj) (u:HO)
 |tbl (ps:Array Value)
 |ext (φ:Heap->Prop)
abbrev Hp:=Addr->Option HO
def upd(H:Hp)(a:Addr)(o:HO):Hp:=λb=>if b=a then some o else H b
variable{H:Hp}{a:Addr}{o:HO}
theorem bW:upd H a o a=some o:=by unfold upd;rw[if_pos rfl]
variable{b:Addr}
theorem aR(h:b≠a):upd H a o b=H b:=by unfold upd;rw[if_neg h]
theorem qM{u:HO}(h:H a=some o)(h':H b=some u)(d:o≠u):a≠b:=by
 grind
theorem aT(h:H a=some o)(h':H b=none):a≠b:=by
 grind
section
variable (P:Program) (w:World)
def fi(H:Hp)(h:Heap)(a:Addr):HO->Prop
 |.lst xs=>1#5<=sizeLine /\ ∃ (ZZ:List Value) (n:Nat),cu xs ZZ/\h.get? a=some { cls := .type "list",data := .seq ZZ.toArray n }
 |.tup xs=>1#5<=sizeLine /\ ∃ZZ:List Value,cu xs ZZ/\IsTup h a ZZ.toArray /\ ∃o,h.get? a=some o/\o.dict=none
 |.dK kvs=>4#8<=sizeLine/\(a==sysModules)=false /\ ∃vs,KV kvs vs/\h.DictOf (dX P w) a vs
 | .dT kvs=>4#8<=sizeLine/\(a==sysModules)=false /\ ∃xs:List (List Key×Addr×Value),
   Paired (λ(p:List Key×V) (q:List Key×Addr×Value)=>p.1=q.1/\H q.2.1=some (.tup (p.1.map kV))/\RelV p.2 q.2.2) kvs xs /\
   ∃o es ep,h.get? a=some o/\o.ExactDict/\o.data=.dict es ep/\es.toList=xs.map (entryOfKey (tupleKind (dX P w)))/\(xs.map (·.1)).Nodup
 |.set S n=>h.SetOf (intKind P w) a S n
 | .ins C dx fs=>H dx=some (.own a)/\fs.length<=1000/\dx≠a/\h.get? a=some (va C dx) /\
   ∃mA,h.Ns1 dx mA/\(∀f,tj (fs.lookup f) (mA f))/\PySem.Within mA (fs.map (·.1))
 |.own _=>∃o,h.get? a=some o
 |.xd fs=>∃mA,h.Ns1 a mA /\ ∀f,tj (fs.lookup f) (mA f)
 |.rng lo hi=>∃ t u v,h.get? a=some { cls := .type "range",data := .fields #[.int lo t,.int hi u,.int 1 v] }
 |.frz o u=>h.get? a=some o/\fi H h a u
 |.tbl ps=>h.get? a=some { cls:= .none,data:= .fields ps }
 |.met f x=>h.get? a=some (PySem.W.methodObj (.ref f) (.ref x))
 |.ext φ=>φ h/\(∃o,h.get? a=some o) /\ ∀h1 h2:Heap,φ h1->(∀o,h1.get? a=some o->h2.get? a=some o)->φ h2
def HOk(H:Hp)(h:Heap):Prop:= ∀a o,H a=some o->fi P w H h a o
end
section
variable {P:Program}{w:World}{H H':Hp}{h h':Heap}{a:Addr}{o:HO}
theorem fi.lt(x:fi P w H h a o):a<12#7:=by
 cases o with
 |lst xs=>obtain⟨_,_,_,_,e⟩:=x;exact az e
 |tup xs=>obtain⟨_,_,_,p⟩:=x;exact p.1.lt
 |dK kvs=>obtain⟨_,_,_,_,o,_,_,e,_⟩:=x;exact az e
 |dT kvs=>obtain⟨_,_,_,_,o,_,_,e,_⟩:=x;exact az e
 |set S n=>obtain⟨o,_,_,_,e,_⟩:=x;exact az e
 |ins C dx fs=>obtain⟨_,_,_,e,_⟩:=x;exact az e
 |own y=>obtain⟨_,e⟩:=x;exact az e
 |xd fs=>obtain⟨_,⟨_,_,_,e,_⟩,_⟩:=x;exact az e
 |rng lo hi=>obtain⟨_,_,_,e⟩:=x;exact az e
 |frz ob u=>obtain⟨e,_⟩:=x;exact az e
 |tbl ps=>exact az (x)
 |met f y=>exact az (x)
 |ext φ=>obtain⟨_,⟨_,e⟩,_⟩:=x;exact az e
theorem Paired.mapP{α β:Type}{F v6:α->β->Prop}:∀{VZ:List α}{W2:List β},Paired F VZ W2->(∀a b,F a b->v6 a b)->Paired v6 VZ W2:=by
 intro l m h f
 induction h with
 |nil=>exact .nil
 |cons r t ih=>exact .cons (f _ _ r) ih
theorem fi.stay(x:fi P w H h a o)(k:∀b u,(b=a\/H b=some (.own a))->h.get? b=some u->h'.get? b=some u)
  (ho:∀b,H b=some (.own a)->H' b=some (.own a)) (ht:∀b xs,H b=some (.tup xs)->H' b=some (.tup xs)):fi P w H' h' a o:=by
 induction o with
 |lst xs=>obtain⟨z,ZZ,n,r,e⟩:=x;exact⟨z,_,n,r,k _ _ 5#6 e⟩
 |tup xs=>obtain⟨z,ZZ,r,⟨ob,e,c⟩,o2,e2,c2⟩:=x;exact⟨z,_,r,⟨ob,k _ _ 5#6 e,c⟩,o2,k _ _ 5#6 e2,c2⟩
 |dK kvs=>obtain⟨z,y,vs,r,ob,es,ep,e,c⟩:=x;exact⟨z,y,vs,r,ob,es,ep,k _ _ 5#6 e,c⟩
 | dT kvs=>
   obtain⟨z,y,xs,r,ob,es,ep,e,c⟩:=x;exact⟨z,y,xs,Paired.mapP r λp q z=>⟨z.1,ht _ _ z.2.1,z.2.2⟩,ob,es,ep,k _ _ 5#6 e,c⟩
 |set S n=>obtain⟨ob,es,ep,t,e,c⟩:=x;exact⟨ob,es,ep,t,k _ _ 5#6 e,c⟩
 | ins C dx fs=>
   obtain⟨d,z,ne,e,mA,⟨od,es,ep,e2,c⟩,r⟩:=x;exact⟨ho _ d,z,ne,k _ _ 5#6 e,mA,⟨od,es,ep,k _ _ (.inr d) e2,c⟩,r⟩
 |own y=>obtain⟨ob,e⟩:=x;exact⟨ob,k _ _ 5#6 e⟩
 |xd fs=>obtain⟨mA,⟨od,es,ep,e,c⟩,r⟩:=x;exact⟨mA,⟨od,es,ep,k _ _ 5#6 e,c⟩,r⟩
 |rng lo hi=>obtain⟨t,u,v,e⟩:=x;exact⟨t,u,v,k _ _ 5#6 e⟩
 |frz ob u ih=>obtain⟨e,q⟩:=x;exact⟨k _ _ 5#6 e,ih q⟩
 | tbl ps=>
   have e:=x;exact k a _ 5#6 e
 | met f y=>
   have e:=x;exact k a _ 5#6 e
 |ext φ=>obtain⟨p,⟨o,e⟩,st⟩:=x;exact⟨st _ _ p λo q=>k _ _ 5#6 q,⟨o,k _ _ 5#6 e⟩,st⟩
theorem HOk.lt(x:HOk P w H h)(e:H a=some o):a<12#7:=(x a o e).lt
theorem HOk.fresh(x:HOk P w H h)(e:12#7<=a):H a=none:=by
 cases q:H a with
 |none=>rfl
 |some u=>exact absurd (aq (x.lt q) e) (br _)
theorem HOk.kept(x:HOk P w H h)(k:∀b u,h.get? b=some u->h'.get? b=some u):HOk P w H h':=λa o e=>
 (x a o e).stay (λb u _ q=>k b u q) (λ_ q=>q) λ_ _ q=>q
theorem HOk.laid(x:HOk P w H h)(k:∀b u,h.get? b=some u->h'.get? b=some u)(hp:12#7<=a)(new:fi P w (upd H a o) h' a o):HOk P w (upd H a o) h':=λb u e=>by
 have hn:=x.fresh hp;by_cases hb:b=a
 .subst hb;rw[bW]at e;grind
 .rw[aR hb]at e
  exact(x b u e).stay (λc v _ q=>k c v q) (λc q=>by rw[aR (aT q hn)];omega) λc xs q=>by rw[aR (aT q hn)];omega
end
def Rd(H:Hp)(a:Addr)(u:HO):Prop:=H a=some u \/ ∃o,H a=some (.frz o u)
variable{P:Program}{w:World}{h:Heap}
theorem Rd.ok{u:HO}(r:Rd H a u)(x:HOk P w H h):fi P w H h a u:=by
 rcases r with r|⟨o,r⟩
 .exact x a u r
 .obtain⟨_,q⟩:=x a _ r
  omega
def Mut:Option HO->Prop
 |some (.lst _)=>True
 |some (.dK _)=>True
 |some (.dT _)=>True
 |some (.set _ _)=>True
 |some (.ins _ _ _)=>True
 |some (.ext _)=>True
 |_=>False
section
variable {P:Program}{w:World}{H:Hp}{h h':Heap}{x e:Addr}{o':HO}
theorem HOk.write(ok:HOk P w H h)(mu:Mut (H x))(he:e=x\/H e=some (.own x))(k:∀b u,b≠e->h.get? b=some u->h'.get? b=some u)(Vv:∃u,h'.get? e=some u)
  (new:fi P w (upd H x o') h' x o'):HOk P w (upd H x o') h':=λb u q=>by
 have nown:∀c y,H c=some (.own y)->c≠x:=λc y r z=>by subst z;rw[r]at mu;exact mu
 have ntup:∀c xs,H c=some (.tup xs)->c≠x:=λc xs r z=>by subst z;rw[r]at mu;exact mu
 by_cases hb:b=x
 .subst hb;rw[bW]at q;grind
 .rw[aR hb]at q
  by_cases Xx:b=e
  .have q':H b=some (.own x):=by
    grind
   rw[q]at q';cases q';obtain⟨v,hv⟩:=Vv;exact⟨v,by rw[Xx];omega⟩
  .refine(ok b u q).stay (λc v hc r=>k c v ?_ r) (λc r=>by rw[aR (nown c b r)];omega) λc xs r=>by rw[aR (ntup c xs r)];omega
   grind
end
structure Un(fs ex:List Addr)(H H':Hp)(h h':Heap):Prop where
 keep:∀b o,h.get? b=some o->H b=none->b∉fs->b∉ex->h'.get? b=some o
 slot:∀b o,h.get? b=some o->H b=none->b∈fs->b∉ex->∃sl,h'.get? b=some { o with slots:=sl }
 free:∀b o,h.get? b=some o->H b=none->b∉ex->H' b=none
 there:∀b o,h.get? b=some o->b∉ex->∃o',h'.get? b=some o'
 tups:∀b xs,H b=some (.tup xs)->H' b=some (.tup xs)
 frzs:∀b o u,H b=some (.frz o u)->H' b=some (.frz o u)
 tbls:∀b ps,H b=some (.tbl ps)->∃more,H' b=some (.tbl (ps++more))
section
variable {fs fs' ex ex':List Addr}{H H1 H2:Hp}{h h1 h2 h':Heap}{a x e:Addr}{o:HO}
theorem Un.any(u:Un fs ex H H1 h h1){ob:Obj}(q:h.get? b=some ob)(n:H b=none)(hx:b∉ex):∃sl,h1.get? b=some { ob with slots:=sl }:=by
 by_cases hb:b∈fs
 .exact u.slot b ob q n hb hx
 .exact⟨_,u.keep b ob q n hb hx⟩
theorem Un.kept(k:∀b u,h.get? b=some u->h'.get? b=some u):Un fs ex H H h h':=
 ⟨λb ob q _ _ _=>k b ob q,λb ob q _ _ _=>⟨_,k b ob q⟩,λ_ _ _ n _=>n,λb ob q _=>⟨ob,k b ob q⟩,λ_ _ q=>q,λ_ _ _ q=>q,λ_ ps q=>⟨#[],by rw[q];simp⟩⟩
theorem Un.refl:Un fs ex H H h h:=Un.kept λ_ _ q=>q
theorem Un.laid(k:∀b u,h.get? b=some u->h'.get? b=some u)(hp:12#7<=a)(hn:H a=none):Un fs ex H (upd H a o) h h' where
 keep:=λb u q _ _ _=>k b u q
 slot:=λb u q _ _ _=>⟨_,k b u q⟩
 free:=λb u q n _=>by rw[aR (aH (aq (az q) hp))];omega
 there:=λb u q _=>⟨u,k b u q⟩
 tups:=λb xs q=>by rw[aR (aT q hn)];omega
 frzs:=λb u xs q=>by rw[aR (aT q hn)];omega
 tbls:=λb ps q=>⟨#[],by rw[aR (aT q hn),q];simp⟩
theorem Un.write(mu:Mut (H x))(he:e=x\/H e=some (.own x))(k:∀b u,b≠e->h.get? b=some u->h'.get? b=some u)(Vv:∃u,h'.get? e=some u):Un fs ex H (upd H x o) h h':=by
 have hx:∀b,H b=none->b≠x:=λb n z=>by subst z;rw[n]at mu;exact mu
 have hb:∀b,H b=none->b≠e:=λb n z=>by
  grind
 have hm:∀b u,H b=some u->¬Mut (some u)->b≠x:=λb u q nm z=>by grind
 refine⟨λb u q n _ _=>k b u (hb b n) q,λb u q n _ _=>⟨_,k b u (hb b n) q⟩,λb u q n _=>by rw[aR (hx b n)];omega,λb u q _ =>?_,
  λb xs q=>by rw[aR (hm b _ q λz=>z)];omega,λb u xs q=>by rw[aR (hm b _ q λz=>z)];omega,λb ps q=>⟨#[],by rw[aR (hm b _ q λz=>z),q];simp⟩⟩
 grind
end
def trk(h:Heap)(H:Hp):List Addr:=(aB 12#7).filter λa=>(H a).isSome
def zL(h:Heap)(H:Hp):Heap:=gM h (trk h H)
theorem qj(h:Heap)(H:Hp):(zL h H).objs.size=12#7:=oz _ _
variable{o:Obj}
theorem oY(e:h.get? b=some o)(n:H b=none):(zL h H).get? b=some o:=
 eV _ e λhm=>by
  have q:=(ye.mp hm).2
  grind
theorem A8(e:(zL h H).get? b=some o):h.get? b=some o/\H b=none:=by
 have e':=jZ _ e;refine⟨e',?_⟩;cases q:H b with
 |none=>rfl
 | some x=>
   have hm:b∈trk h H:=ye.mpr ⟨cK.mpr (az e'),by simp[q]⟩;have z:(zL h H).get? b=none:=gd _ hm
   grind
def IV(g h:Heap)(L:Addr):List 2#5:=(aB 12#7).filterMap λa=>if a=L\/(g.get? a).isSome=true then none else(h.get? a).map λo=>(a,o)
def rest(g h:Heap)(L d:Addr):List 2#5:=(IV g h L).filter λp=>decide (p.1≠d)
structure Mod(K:aj)(mg:Str->Option Value)(base:Heap):Prop where
 kin:K.In base
 glob:base.Ns mainGlobals mg
 blt :∃ mb,base.Ns builtinsNs mb /\ ∀ x:Str,x≠"__name__"->mb x=bootBuiltins x
 nolimit:base.NoLimit
set_option genInjectivity false in
structure Cx where
 prog:Program
 w:World
 K:aj
 mg:Str->Option Value
 base:Heap
 A:Around
 N:List Str
 s₀:Shared
 H₀:Hp
 env:Env
 outer:List Env
 stack:List Env
 ex:List Addr
 fn:Str->Bool
 calm:Bool
 pn:List (Addr×Obj)
 xe:Value->Shared->Prop
def frs(l:List Env):List Addr:=l.filterMap (·.frame)
abbrev Cx.fs(X:Cx):List Addr:=frs X.outer
def Vis(sc:Scope)(x:Str):Prop:=sc.names.lookup x=some .local\/sc.names.lookup x=some .cell\/sc.names.lookup x=some .free
def Loc(sc:Scope)(x:Str):Prop:=sc.names.lookup x=some .local\/sc.names.lookup x=some .cell
def Look(env:Env)(h:Heap)(m:Str->Option Value)(x:Str)(u:Value):Prop:=
 (env.kindOf x=some .local/\m x=some u)\/((env.kindOf x=some .cell\/env.kindOf x=some .free) /\ ∃c,env.cells.lookup x=some c/\h.IsCell c (some u))
structure Cx.Ok(X:Cx):Prop where
 mod:Mod X.K X.mg X.base
 kind:X.env.scope.kind=.function
 glob:X.env.globals=mainGlobals
 blt:X.env.builtins=builtinsNs
 above:X.s₀.heap.objs.size<=X.env.locals
 inj:∀x y c,X.env.cells.lookup x=some c->X.env.cells.lookup y=some c->x=y
 has:∀x,(X.env.kindOf x=some .cell\/X.env.kindOf x=some .free)->∃c,X.env.cells.lookup x=some c
 cab:∀x c,X.fn x=true->X.env.cells.lookup x=some c->X.s₀.heap.objs.size<=c
 hd:X.calm=true->X.A.handled=none
 frames:X.A.frames=some X.stack
 stk:X.stack=X.outer\/(X.stack=X.env::X.outer/\X.env.frame=some X.env.locals)
 exf:∀b∈X.ex,b≠X.env.locals /\ ∀x c,X.env.cells.lookup x=some c->c≠b
 bs:∀b o,X.base.get? b=some o->X.s₀.heap.get? b=some o/\X.H₀ b=none
 bsz:X.base.objs.size<=X.s₀.heap.objs.size
 noex:∀b o,X.base.get? b=some o->b∉X.ex
 exfs:∀b∈X.ex,b∉X.fs
 funs:X.s₀.heap.FunFrames X.base X.outer
 frf:∀b∈X.fs,X.H₀ b=none
structure Inv(X:Cx)(pins:List (Addr×Obj))(σ:List (Option V))(H:Hp)(s:Shared):Prop where
 ok:X.Ok
 os:s.os=X.s₀.os
 bare:AllBare s.gens
 base:Un X.fs X.ex X.H₀ H X.s₀.heap s.heap
 loc:∃m,s.heap.Ns X.env.locals m /\ ∀(i:Nat) (x:Str) (v:V),X.N[i]?=some x->σ[i]?=some (some v)->Vis X.env.scope x->∃u,RelV v u/\Look X.env s.heap m x u
 cell:∀x c,X.env.cells.lookup x=some c->∃v,s.heap.IsCell c v
 free:H X.env.locals=none
 freeC:∀x c,X.env.cells.lookup x=some c->H c=none
 pin:∀p∈X.pn++pins,s.heap.get? p.1=some p.2/\H p.1=none/\p.1≠X.env.locals/\p.1∉X.fs /\ ∀v,p.2.data≠.cell v
 hok:HOk X.prog X.w H s.heap
 len:σ.length=X.N.length
section
variable {X:Cx}{pins:List (Addr×Obj)}{σ:List (Option V)}{H H':Hp}{s:Shared}{h':Heap}
theorem Cx.Ok.nofr(ok:X.Ok)(e:X.base.get? b=some o):b∉X.fs:=λhb=>by
 have:=(ok.funs.mem hb).1
 grind
theorem Inv.bs(I:Inv X pins σ H s):∀b o,X.base.get? b=some o->s.heap.get? b=some o/\H b=none:=λb o e=>
 ⟨I.base.keep b o (I.ok.bs b o e).1 (I.ok.bs b o e).2 (I.ok.nofr e) (I.ok.noex b o e),I.base.free b o (I.ok.bs b o e).1 (I.ok.bs b o e).2 (I.ok.noex b o e)⟩
theorem Inv.bk(I:Inv X pins σ H s):∀b o,X.base.get? b=some o->s.heap.get? b=some o:=λb o e=>(I.bs b o e).1
theorem Inv.mod(I:Inv X pins σ H s):Mod X.K X.mg X.base:=I.ok.mod
theorem Inv.kIn(I:Inv X pins σ H s):X.K.In s.heap:=I.ok.mod.kin.keeps I.bk
theorem Inv.lt(I:Inv X pins σ H s):6#7<0#8:=let ⟨_,hn,_⟩:=I.loc;hn.lt
theorem Inv.sz(I:Inv X pins σ H s):15#1<=0#8:=aE I.ok.above (aN I.lt)
theorem Inv.nofs(I:Inv X pins σ H s)(h:0#8<=a):a∉X.fs:=λhb=>by
 obtain⟨_,o,ho,_⟩:=I.ok.funs.mem hb;exact absurd (aq (az ho) (aE I.sz h)) (br _)
theorem Inv.cne(I:Inv X pins σ H s):∀x c,X.env.cells.lookup x=some c->c≠6#7:=λx c e z=>by
 obtain⟨v,o,ho,hd⟩:=I.cell x c e;obtain⟨m,⟨o',es,ep,Yq,Vm,_⟩,_⟩:=I.loc
 grind
theorem Inv.funs(I:Inv X pins σ H s):s.heap.FunFrames X.base X.outer:=by
 have all:∀(l:List _),(∀b∈frs l,b∈X.fs)->X.s₀.heap.FunFrames X.base l->s.heap.FunFrames X.base l:=by
  intro l
  induction l with
  |nil=>intro _ _;trivial
  | cons env r ih=>
    intro hs hl;obtain⟨hk,⟨L,o,hf,hn,ho,hd⟩,hr⟩:=hl;have hL:=hs L (by unfold frs;simp_all);obtain⟨sl,e⟩:=I.base.slot L o ho (I.ok.frf L hL) hL λz=>I.ok.exfs L z hL;exact⟨hk,⟨L,_,hf,hn,e,hd⟩,ih (λb hb=>hs b (by unfold frs;rw[gO,hf];exact ay _ hb)) hr⟩
 exact all _ (λ_ hb=>hb) I.ok.funs
theorem Inv.stack(I:Inv X pins σ H s):s.heap.FunFrames X.base 4#9:=by
 rcases I.ok.stk with e|⟨e,hf⟩
 .rw[e];exact I.funs
 .rw[e]
  obtain⟨m,hn,_⟩:=I.loc;refine .cons (by rw[I.ok.kind];decide) hf hn ?_ I.funs;exact Heap.get?_none_of_le (aE I.ok.bsz I.ok.above)
theorem Inv.stkSub(I:Inv X pins σ H s):∀b∈frs 4#9,b∈6#7::X.fs:=λb hb=>by
 rcases I.ok.stk with e|⟨e,hf⟩
 .grind
 .rw[e]at hb
  unfold frs at hb;rw[gO,hf]at hb;exact hb
theorem Inv.stkFree(I:Inv X pins σ H s):∀b∈frs 4#9,H b=none:=λb hb=>by
 rcases aJ.mp (I.stkSub b hb) with e|hb
 .rw[e];exact I.free
 .obtain⟨_,o,ho,_⟩:=I.ok.funs.mem hb
  exact I.base.free b o ho (I.ok.frf b hb) λz=>I.ok.exfs b z hb
variable{g':Array GenState}{t':Nat}{d':Drawn}
theorem Inv.step{ch:List Addr}(I:Inv X pins σ H s)
  (XJ:∀b∈ch,(b∈X.ex\/15#1<=b)/\b≠6#7/\19#7 /\ ∀p∈X.pn++pins,p.1≠b)
  (keep:∀b o,b≠6#7->b∉X.fs->b∉ch->s.heap.get? b=some o->H b=none->h'.get? b=some o)
  (slot:∀b o,b≠6#7->b∈X.fs->b∉ch->s.heap.get? b=some o->H b=none->∃sl,h'.get? b=some { o with slots:=sl }) (free:∀b o,b∉ch->s.heap.get? b=some o->H b=none->H' b=none)
  (there:∀b o,b∉ch->s.heap.get? b=some o->∃o',h'.get? b=some o')
  (tups:∀b xs,H b=some (.tup xs)->H' b=some (.tup xs)) (frzs:∀b o u,H b=some (.frz o u)->H' b=some (.frz o u)) (tbls:∀b ps,H b=some (.tbl ps)->∃more,H' b=some (.tbl (ps++more)))
  (ns:∀m,s.heap.Ns X.env.locals m->h'.Ns X.env.locals m) (hok:HOk X.prog X.w H' h') (hg:AllBare g'):
  Inv X pins σ H' { s with heap:=h',gens:=g',drawn:=d',toks:=t' }:=by
 have neL:∀b o,X.s₀.heap.get? b=some o->b≠6#7:=λb o e=>aH (aq (az e) I.ok.above);have neC:∀b o,X.s₀.heap.get? b=some o->b∉X.ex->b∉ch:=λb o e hx hb=>by
  rcases (XJ b hb).1 with z|z
  .exact hx z
  .exact absurd (aq (az e) z) (br _)
 have cellK:∀x c,X.env.cells.lookup x=some c->∀v,s.heap.IsCell c v->h'.IsCell c v:=λx c e v ⟨o,ho,hd⟩=>by
  have Wf:=λz=>(XJ c z).2.2.1 x c e rfl;by_cases hc:c∈X.fs
  .obtain⟨sl,q⟩:=slot c o (I.cne x c e) hc Wf ho (I.freeC x c e)
   exact⟨_,q,hd⟩
  .exact⟨o,keep c o (I.cne x c e) hc Wf ho (I.freeC x c e),hd⟩
 refine⟨I.ok,I.os,hg,⟨λb o e n hb hx=>?_,λb o e n hb hx=>?_,λb o e n hx=>?_,λb o e hx=>?_,λb xs e=>tups b xs (I.base.tups b xs e),λb o xs e=>frzs b o xs (I.base.frzs b o xs e),λb ps e=>?_⟩,?_,λx c e=>?_,?_,λx c e=>?_,λp hp=>?_,hok,I.len⟩
 .exact keep b o (neL b o e) hb (neC b o e hx) (I.base.keep b o e n hb hx) (I.base.free b o e n hx)
 .obtain⟨sl,e1⟩:=I.base.slot b o e n hb hx
  obtain⟨XF,e2⟩:=slot b _ (neL b o e) hb (neC b o e hx) e1 (I.base.free b o e n hx);exact⟨_,e2⟩
 .obtain⟨o',e1⟩:=I.base.there b o e hx
  exact free b o' (neC b o e hx) e1 (I.base.free b o e n hx)
 .obtain⟨o',e1⟩:=I.base.there b o e hx
  exact there b o' (neC b o e hx) e1
 .obtain⟨m1,e1⟩:=I.base.tbls b ps e
  grind
 .obtain⟨m,hn,hl⟩:=I.loc
  refine⟨m,ns m hn,λi x v e1 e2 e3=>?_⟩;obtain⟨u,r,l⟩:=hl i x v e1 e2 e3;refine⟨u,r,?_⟩;rcases l with l | ⟨k,c,e,z⟩
  .exact .inl l
  .exact .inr ⟨k,c,e,cellK x c e _ z⟩
 .obtain⟨v,z⟩:=I.cell x c e
  exact⟨v,cellK x c e v z⟩
 .obtain⟨m,⟨o,_,_,ho,_⟩,_⟩:=I.loc
  exact free _ o (λz=>(XJ _ z).2.1 rfl) ho I.free
 .obtain⟨v,o,ho,hd⟩:=I.cell x c e
  exact free c o (λz=>(XJ c z).2.2.1 x c e rfl) ho (I.freeC x c e)
 .obtain⟨e,n,ne,nf,d⟩:=I.pin p hp
  have Wf:=λz=>(XJ _ z).2.2.2 p hp rfl;exact⟨keep _ _ ne nf Wf e n,free _ _ Wf e n,ne,nf,d⟩
theorem Inv.un(I:Inv X pins σ H s)(u:Un X.fs [] H H' s.heap h')(hok:HOk X.prog X.w H' h'):Inv X pins σ H' { s with heap:=h',toks:=t' }:=by
 obtain⟨m,⟨o,es,ep,ho,r⟩,_⟩:=id I.loc;obtain⟨sl,hL⟩:=u.any ho I.free 0#4
 exact I.step (ch:= []) (λ_ z=>nomatch z) (λb o _ hb _ e n=>u.keep b o e n hb 0#4) (λb o _ hb _ e n=>u.slot b o e n hb 0#4) (λb o _ e n=>u.free b o e n 0#4) (λb o _ e=>u.there b o e 0#4) u.tups u.frzs u.tbls (λm' hm=>by
  obtain⟨o',Xj,ep',Yq,r'⟩:=hm;rw[ho]at Yq;cases Yq
  exact⟨_,_,_,hL,r'⟩) hok I.bare
theorem Inv.call{ch:List Addr}(I:Inv X pins σ H s)(u:Un (frs 4#9) ch H H' s.heap h')(hok:HOk X.prog X.w H' h')(hg:AllBare g')
  (XJ:∀b∈ch,(b∈X.ex\/15#1<=b)/\b≠6#7/\19#7 /\ ∀p∈X.pn++pins,p.1≠b):
  Inv X pins σ H' { s with heap:=h',gens:=g',drawn:=d',toks:=t' }:=by
 obtain⟨m,⟨o,es,ep,ho,r⟩,_⟩:=id I.loc;obtain⟨sl,hL⟩:=u.any ho I.free λz=>(XJ _ z).2.1 rfl
 exact I.step XJ (λb o hL hb hc e n=>u.keep b o e n (λz=>(aJ.mp (I.stkSub b z)).elim hL hb) hc) (λb o _ _ hc e n=>u.any e n hc) (λb o hc e n=>u.free b o e n hc) (λb o hc e=>u.there b o e hc) u.tups u.frzs u.tbls (λm' hm=>by
  obtain⟨o',Xj,ep',Yq,r'⟩:=hm;rw[ho]at Yq;cases Yq
  exact⟨_,_,_,hL,r'⟩) hok hg
theorem Inv.turned{it:Addr}(I:Inv X pins σ H s)(k:∀b o,b≠it->s.heap.get? b=some o->h'.get? b=some o)(hn:H it=none)(hL:it≠6#7)
  (h1:it∈X.ex\/15#1<=it) (h2:∀x c,X.env.cells.lookup x=some c->c≠it) (h3:∀p∈X.pn++pins,p.1≠it):Inv X pins σ H { s with heap:=h',toks:=t' }:=by
 refine I.step (ch:= [it]) (λb hb=>?_) (λb o _ _ hc e _=>k b o (λz=>hc (by simp[z])) e) (λb o _ _ hc e _=>⟨_,k b o (λz=>hc (by simp[z])) e⟩) (λ_ _ _ _ n=>n)
  (λb o hc e=>⟨o,k b o (λz=>hc (by simp[z])) e⟩) (λ_ _ e=>e) (λ_ _ _ e=>e) (λb ps e=>⟨#[],by rw[e];simp⟩) (λm hm=>?_) (λb u e=>?_) I.bare
 .have e:=by simpa using hb
  subst e;exact⟨h1,hL,h2,h3⟩
 .obtain⟨o,es,ep,ho,r⟩:=hm
  exact⟨o,es,ep,k _ o (cZ hL) ho,r⟩
 .refine(I.hok b u e).stay (λc v hc q=>k c v ?_ q) (λ_ q=>q) λ_ _ q=>q
  grind
theorem Inv.tok(I:Inv X pins σ H s)(t:Nat):Inv X pins σ H { s with toks:=t }:=I.un Un.refl I.hok
theorem Inv.kept{t':Nat}(I:Inv X pins σ H s)(k:∀b u,s.heap.get? b=some u->h'.get? b=some u):Inv X pins σ H { s with heap:=h',toks:=t' }:=I.un (Un.kept k) (I.hok.kept k)
theorem Inv.laid{a:Addr}{o:HO}{t':Nat}(I:Inv X pins σ H s)(k:∀b u,s.heap.get? b=some u->h'.get? b=some u)(hp:0#8<=a)(new:fi X.prog X.w (upd H a o) h' a o):
  Inv X pins σ (upd H a o) { s with heap:=h',toks:=t' }:=I.un (Un.laid k hp (I.hok.fresh hp)) (I.hok.laid k hp new)
theorem Inv.write{x e:Addr}{o:HO}{t':Nat}(I:Inv X pins σ H s)(mu:Mut (H x))(he:e=x\/H e=some (.own x))(k:∀b u,b≠e->s.heap.get? b=some u->h'.get? b=some u)(Vv:∃u,h'.get? e=some u)
  (new:fi X.prog X.w (upd H x o) h' x o):Inv X pins σ (upd H x o) { s with heap:=h',toks:=t' }:=I.un (Un.write mu he k Vv) (I.hok.write mu he k Vv new)
theorem Inv.weak{Y1:List (Option V)}(I:Inv X pins σ H s)(hl:Y1.length=σ.length)(w:∀(i:Nat) v,Y1[i]?=some (some v)->σ[i]?=some (some v)):Inv X pins Y1 H s:=
 ⟨I.ok,I.os,I.bare,I.base,let ⟨m,hn,hl'⟩:=I.loc;⟨m,hn,λi x v e1 e2 e3=>hl' i x v e1 (w i v e2) e3⟩,I.cell,I.free,I.freeC,I.pin,I.hok,hl.trans I.len⟩
theorem Inv.pins_of{Xd:List (Addr×Obj)}(I:Inv X pins σ H s)(h:∀p∈Xd,s.heap.get? p.1=some p.2/\H p.1=none/\p.1≠6#7/\p.1∉X.fs /\ ∀v,p.2.data≠.cell v):Inv X Xd σ H s:=
 ⟨I.ok,I.os,I.bare,I.base,I.loc,I.cell,I.free,I.freeC,λp hp=>(dI.mp hp).elim (λz=>I.pin p (dz _ z)) (h p),I.hok,I.len⟩
variable{i:Nat}{x:Str}
theorem sx{N:List Str}(hN:N.Nodup){j:Nat}(a:N[i]?=some x)(b:N[j]?=some x):i=j:=by
 obtain⟨h1,e1⟩:=ah.mp a;obtain⟨h2,e2⟩:=ah.mp b;exact(List.getElem_inj hN).mp (e1.trans e2.symm)
variable{M:Model}{A:Around}{E:Value->Shared->Prop}{u:Value}{Q:Unit->Shared->Prop}
theorem vK{v:V}(I:Inv X pins σ H s)(hN:X.N.Nodup)(hi:X.N[i]?=some x)(hx:Loc X.env.scope x)(r:RelV v u)
  (h:∀s',Inv X pins (σ.set i (some v)) H s'->(∃a,cX a s.heap s'.heap/\(a=6#7\/X.env.cells.lookup x=some a))->Q () s') (hf:autoParam 17#6 au4._auto_1):aC M A (storeName X.env x u) Q E s:=by
 obtain⟨m,hn,hl⟩:=id I.loc;have XW:(X.env.scope.kind==.class||(X.env.scope.kind==.module&&6#7 != X.env.globals))=false:=by rw[I.ok.kind];rfl
 have X5:i<σ.length:=by rw[I.len];exact(ah.mp hi).1
 have cne:=I.cne;have tracked:∀{a:Addr}{h':Heap},(∃o,s.heap.get? a=some o/\H a=none)->cX a _ h'->HOk _ _ H h':=λ{a h'} ha hs b ob e=>by
  obtain⟨_,_,hfree⟩:=ha;refine(I.hok b ob e).stay (λc w' hc q=>(hs.2 c ?_).trans q) (λ_ q=>q) λ_ _ q=>q
  grind
 rcases hx with hk|hk
 .refine wpAny_storeName_local hk hn (λh' Wp hs=>?_) XW
  obtain⟨oL,_,_,Xq,_⟩:=id hn;refine h _ ⟨I.ok,I.os,I.bare,⟨λb o e n hb hx=>?_,λb o e n hb hx=>?_,I.base.free,λb o e hx=>?_,I.base.tups,I.base.frzs,I.base.tbls⟩,⟨_,Wp,λj y v' e1 e2 e3=>?_⟩,λy c e=>?_,I.free,I.freeC,λp hp=>?_,tracked ⟨oL,Xq,I.free⟩ hs,by simpa using I.len⟩ ⟨_,hs,.inl rfl⟩
  .exact(hs.2 b (aH (aq (az e) I.ok.above))).trans (I.base.keep b o e n hb hx)
  .obtain⟨sl,e1⟩:=I.base.slot b o e n hb hx
   exact⟨sl,(hs.2 b (aH (aq (az e) I.ok.above))).trans e1⟩
  .obtain⟨o',e1⟩:=I.base.there b o e hx
   exact⟨o',(hs.2 b (aH (aq (az e) I.ok.above))).trans e1⟩
  .by_cases hj:j=i
   .subst hj
    rw[hi]at e1;cases e1;rw[aK X5]at e2;cases e2;exact⟨u,r,.inl ⟨hk,by simp⟩⟩
   .rw[aG (cZ hj)]at e2
    obtain⟨u',r',q⟩:=hl j y v' e1 e2 e3;refine⟨u',r',?_⟩;rcases q with⟨k,e⟩|⟨k,c,e,z⟩
    .refine .inl ⟨k,?_⟩
     have:y≠x:=λe=>hj (sx hN e1 (e▸hi))<;>simp_all
    .exact .inr ⟨k,c,e,z.sameBut hs (cne y c e)⟩
  .obtain⟨w',z⟩:=I.cell y c e
   exact⟨w',z.sameBut hs (cne y c e)⟩
  .obtain⟨e,n,ne,nf,d⟩:=I.pin p hp
   exact⟨(hs.2 _ ne).trans e,n,ne,nf,d⟩
 .have YD:X.fn x=true:=by
   grind
  obtain⟨c,hc⟩:=I.ok.has x (.inl hk);obtain⟨w',z⟩:=I.cell x c hc;refine wpAny_storeName_cell I.ok.kind hk hc z (λh' VT hs=>?_);obtain⟨oc,Zd,hocd⟩:=id z;refine h _ ⟨I.ok,I.os,I.bare,⟨λb o e n hb hx=>?_,λb o e n hb hx=>?_,I.base.free,λb o e hx=>?_,I.base.tups,I.base.frzs,I.base.tbls⟩,⟨m,hn.sameBut hs (cZ (cne x c hc)),λj y v' e1 e2 e3=>?_⟩,λy c' e=>?_,I.free,I.freeC,λp hp=>?_,tracked ⟨oc,Zd,I.freeC x c hc⟩ hs,by simpa using I.len⟩ ⟨c,hs,.inr hc⟩
  .exact(hs.2 b (aH (aq (az e) (I.ok.cab x c YD hc)))).trans (I.base.keep b o e n hb hx)
  .obtain⟨sl,e1⟩:=I.base.slot b o e n hb hx
   exact⟨sl,(hs.2 b (aH (aq (az e) (I.ok.cab x c YD hc)))).trans e1⟩
  .obtain⟨o',e1⟩:=I.base.there b o e hx
   exact⟨o',(hs.2 b (aH (aq (az e) (I.ok.cab x c YD hc)))).trans e1⟩
  .by_cases hj:j=i
   .subst hj
    rw[hi]at e1;cases e1;rw[aK X5]at e2;cases e2;exact⟨u,r,.inr ⟨.inl hk,c,hc,VT⟩⟩
   .rw[aG (cZ hj)]at e2
    obtain⟨u',r',q⟩:=hl j y v' e1 e2 e3;refine⟨u',r',?_⟩;rcases q with q|⟨k,c',e,z'⟩
    .exact .inl q
    .refine .inr ⟨k,c',e,z'.sameBut hs ?_⟩
     rintro rfl;exact hj (sx hN e1 (I.ok.inj _ _ _ e hc▸hi))
  .by_cases SY:c'=c
   .subst SY;exact⟨_,VT⟩
   .obtain⟨w2,z2⟩:=I.cell y c' e
    exact⟨w2,z2.sameBut hs SY⟩
  .obtain⟨e,n,ne,nf,d⟩:=I.pin p hp
   refine⟨(hs.2 _ ?_).trans e,n,ne,nf,d⟩;intro q<;>simp_all
theorem jj{v:V}(I:Inv X pins σ H s)(hN:X.N.Nodup)(hi:X.N[i]?=some x)(hx:Loc X.env.scope x)(r:RelV v u)
  (h:∀s',Inv X pins (σ.set i (some v)) H s'->Q () s') (hf:autoParam 17#6 au4._auto_1):aC M A (storeName X.env x u) Q E s:=
 vK I hN hi hx r (λs' I' _=>h s' I') hf
theorem Inv.call'{s':Shared}{ch:List Addr}(I:Inv X pins σ H s)(ho:s'.os=s.os)(u:Un (frs 4#9) ch H H' s.heap s'.heap)(hok:HOk X.prog X.w H' s'.heap)(hg:AllBare s'.gens)
  (XJ:∀b∈ch,(b∈X.ex\/15#1<=b)/\b≠6#7/\19#7 /\ ∀p∈X.pn++pins,p.1≠b):Inv X pins σ H' s':=by
 obtain⟨h',g',d',t',o'⟩:=s';have e:=ho;subst e;exact I.call u hok hg XJ
end
abbrev XK:=Value->Option Addr->Hp->Prop
abbrev St:=List (Option V)
abbrev VK:=V->Hp->Prop
abbrev TE:=St->Hp->VK->Prop
abbrev TT:=St->Hp->(Bool->Hp->Prop)->Prop
abbrev TA:=St->Hp->(List V->Hp->Prop)->Prop
structure Ends where
 nx:St->Hp->Prop
 rt:VK
 bk:St->Hp->Prop:=λ_ _=>False
 ct:St->Hp->Prop:=λ_ _=>False
abbrev TS:=Ends->St->Hp->Prop
def EP(X:Cx)(pins:List 2#5)(σ:St)(Q:VK)(u:Value)(s':Shared):Prop:= ∃v H',Inv X pins σ H' s'/\RelV v u/\Q v H'
def TP(X:Cx)(pins:List 2#5)(σ:St)(Q:Bool->Hp->Prop)(b:Bool)(s':Shared):Prop:= ∃H',Inv X pins σ H' s'/\Q b H'
def AP(X:Cx)(pins:List 2#5)(σ:St)(Q:List V->Hp->Prop)(us:List Value)(s':Shared):Prop:= ∃vs H',Inv X pins σ H' s'/\cu vs us/\Q vs H'
def SP(X:Cx)(pins:List 2#5)(D:Ends)(f:Flow)(s':Shared):Prop:=
 match f with
 |.next=>∃Y1 H',Inv X pins Y1 H' s'/\D.nx Y1 H'
 |.brk=>∃Y1 H',Inv X pins Y1 H' s'/\D.bk Y1 H'
 |.cont=>∃Y1 H',Inv X pins Y1 H' s'/\D.ct Y1 H'
 |.ret u=>∃v Y1 H',Inv X pins Y1 H' s'/\RelV v u/\D.rt v H'
def PE(X:Cx)(e:Expr)(t:TE):Prop:=
 ∀(pins:List 2#5) (s:Shared) (σ:St) (H:Hp) (Q:VK),Inv X pins σ H s->t σ H Q->aC 1#2 X.A (eval e X.env) 8#8 X.xe s
def PT(X:Cx)(e:Expr)(t:TT):Prop:=
 ∀(pins:List 2#5) (s:Shared) (σ:St) (H:Hp) (Q:Bool->Hp->Prop),Inv X pins σ H s->t σ H Q->aC 1#2 X.A (isTrue e X.env (eval e X.env)) (TP X pins σ Q) X.xe s
def PW(X:Cx)(e:Expr)(t:TT):Prop:=
 ∀(whole:Sem Value) (pins:List 2#5) (s:Shared) (σ:St) (H:Hp) (Q:Bool->Hp->Prop),Inv X pins σ H s->t σ H Q->aC 1#2 X.A (isTrue e X.env whole) (TP X pins σ Q) X.xe s
variable{X:Cx}{e:Expr}
theorem PW.pt{t:TT}(h:PW X e t):PT X e t:=h _
def PA(X:Cx)(es:List Expr)(t:TA):Prop:=
 ∀(pos:Pos) (pins:List 2#5) (s:Shared) (σ:St) (H:Hp) (Q:List V->Hp->Prop),Inv X pins σ H s->t σ H Q->aC 1#2 X.A (spliced (backTo pos 14#5)) (AP X pins σ Q) X.xe s
def PS(X:Cx)(st:Stmt)(t:TS):Prop:=
 ∀(pins:List 2#5) (s:Shared) (σ:St) (H:Hp) (D:Ends),Inv X pins σ H s->t D σ H->aC 1#2 X.A (exec st X.env) (SP X pins D) X.xe s
def PSs(X:Cx)(st:List Stmt)(t:TS):Prop:=
 ∀(pins:List 2#5) (s:Shared) (σ:St) (H:Hp) (D:Ends),Inv X pins σ H s->t D σ H->aC 1#2 X.A (execs st X.env) (SP X pins D) X.xe s
variable{M:Model}{A:Around}{E:Value->Shared->Prop}
theorem thn{α:Type}{t:Sem α}{Q Q':α->Shared->Prop}{s:Shared}(h:aC M A t Q E s)(hQ:∀a s,Q a s->Q' a s):aC M A t Q' E s:=bK h hQ λ_ _ x=>x
section
variable {X:Cx}
def PV(i:Nat):TE:=λσ H Q=>∃v,σ[i]?=some (some v)/\Q v H
def tC(v:V):TE:=λ_ H Q=>Q v H
variable{x:Str}
theorem sf{i:Nat}{pos:Pos}(hN:X.N[i]?=some x)(hv:Vis X.env.scope x)(hd:autoParam (7#7=false) 9#7)(ZD:autoParam (18#2=false) 9#7):PE X (.Name x pos) (PV i):=by
 intro pins s σ H Q I h;obtain⟨v,e,h⟩:=h;obtain⟨m,hn,hl⟩:=I.loc;obtain⟨u,r,l⟩:=hl i x v hN e hv;have fin:EP X _ σ Q u s:=⟨v,H,I,r,h⟩;rcases l with⟨hk,hm⟩|⟨hk,c,hc,Z9⟩
 .exact wpAny_Name (wpAny_loadName_local I.ok.kind hk hn hm fin) hd
 .rcases hk with hk|hk
  .exact wpAny_Name (wpAny_loadName_cell I.ok.kind hk hc Z9 fin) hd
  .exact wpAny_Name (wpAny_loadName_free I.ok.kind hk hc Z9 fin ZD) hd
theorem DV{i j pos}:PE X (.Constant (.int i) j pos) (tC (.int i)):=λ_ _ _ H _ I h=>wpAny_Constant_int ⟨.int i,H,I.tok _,⟨_,rfl⟩,h⟩
theorem PH{b j pos}:PE X (.Constant (.bool b) j pos) (tC (.bl b)):=λ_ _ _ H _ I h=>Constant_bool ⟨.bl b,H,I,rfl,h⟩
theorem LC{j pos}:PE X (.Constant .none j pos) (tC .non):=λ_ _ _ H _ I h=>Constant_none ⟨.non,H,I,rfl,h⟩
theorem Fb{x j pos}:PE X (.Constant (.str x) j pos) (tC (.str x)):=λ_ _ _ H _ I h=>rK ⟨.str x,H,I.tok _,⟨_,rfl⟩,h⟩
def Gl(X:Cx)(x:Str):Prop:=X.env.kindOf x=some .globalImplicit
variable{pins:List (Addr×Obj)}{s:Shared}{σ:St}{u:Value}{Q:Value->Shared->Prop}
theorem i7{pos:Pos}(I:Inv X pins σ H s)(hg:Gl X x)(hm:X.mg x=some u)(h:Q u s)
  (hd:autoParam (7#7=false) 9#7):aC 1#2 X.A (eval (.Name x pos) X.env) Q E s:=
 zO I.ok.kind hg (Calls.loadGlobal_global (by rw[I.ok.glob];exact I.mod.glob.keeps I.bk) hm h) hd
theorem hU{pos:Pos}(I:Inv X pins σ H s)(hg:Gl X x)(hm:X.mg x=none)(hv:bootBuiltins x=some u)(h:Q u s)
  (hn:autoParam (x≠"__name__") 9#7) (hd:autoParam (7#7=false) 9#7):aC 1#2 X.A (eval (.Name x pos) X.env) Q E s:=by
 obtain⟨mb,h1,h2⟩:=I.mod.blt;exact zO I.ok.kind hg (Calls.loadGlobal_builtin (by rw[I.ok.glob];exact I.mod.glob.keeps I.bk) hm (by rw[I.ok.blt];exact h1.keeps I.bk) ((h2 x hn).trans hv) h) hd
theorem IH{v:V}{pos:Pos}(hg:Gl X x)(hm:X.mg x=some u)(r:RelV v u)(hd:autoParam (7#7=false) 9#7):PE X (.Name x pos) (tC v):=
 λ_ _ _ H _ I h=>i7 I hg hm ⟨v,H,I,r,h⟩ hd
theorem Js{v:V}{pos:Pos}(hg:Gl X x)(hm:X.mg x=none)(hv:bootBuiltins x=some u)(r:RelV v u)(hn:autoParam (x≠"__name__") 9#7)(hd:autoParam (7#7=false) 9#7):PE X (.Name x pos) (tC v):=
 λ_ _ _ H _ I h=>hU I hg hm hv ⟨v,H,I,r,h⟩ hn hd
variable {a b:Expr}{ta tb:TE}{pos:Pos}
def tB(t:TE):TT:=λσ H Q=>t σ H λx H1=>∃c,x=.bl c/\Q c H1
theorem MW{t:TE}(h:PE X e t)(he:autoParam (∀whole,isTrue e X.env whole=(do let v <- whole;standAt e.pos;holding [v] (truthy v))) au3._auto_1):PT X e (tB t):=by
 intro pins s σ H Q I hw;refine isTrue_plain (thn (h _ s σ H _ I hw) λv s1 ⟨x,H1,I1,r1,q1⟩=>?_) (he _);obtain⟨d,rfl,q⟩:=q1;cases r1;exact dO ⟨H1,I1,q⟩
variable {tA Vf:TT}{rest:List Expr}
def Py(t u:TT):TT:=λσ H Q=>t σ H λc H1=>if c=true then u σ H1 Q else Q false H1
def tOr(t u:TT):TT:=λσ H Q=>t σ H λc H1=>if c=true then Q true H1 else u σ H1 Q
def Qo(t:TT):TT:=λσ H Q=>t σ H λc H1=>Q (!c) H1
theorem Jl(ha:PT X a tA):PW X (.BoolOp .And [a] pos) tA:=by
 intro wh pins s σ H Q I h;refine isTrue_and (thn (ha _ s σ H Q I h) λc s1 e=>?_);cases c with
 |true=>exact isTrue_and_nil e
 |false=>exact e
theorem Mp(ha:PT X a tA):PW X (.BoolOp .Or [a] pos) tA:=by
 intro wh pins s σ H Q I h;refine isTrue_or (thn (ha _ s σ H Q I h) λc s1 e=>?_);cases c with
 |false=>exact isTrue_or_nil e
 |true=>exact e
theorem LB(ha:PT X a tA)(hb:PW X (.BoolOp .And (b::rest) pos) Vf):PW X (.BoolOp .And (a::b::rest) pos) (Py tA Vf):=by
 intro wh pins s σ H Q I h;refine isTrue_and (thn 11#7 λc s1 ⟨H1,I1,q1⟩=>?_);cases c with
 |true=>exact hb wh _ s1 σ H1 Q I1 q1
 |false=>exact⟨H1,I1,q1⟩
theorem ND(ha:PT X a tA)(hb:PW X (.BoolOp .Or (b::rest) pos) Vf):PW X (.BoolOp .Or (a::b::rest) pos) (tOr tA Vf):=by
 intro wh pins s σ H Q I h;refine isTrue_or (thn 11#7 λc s1 ⟨H1,I1,q1⟩=>?_);cases c with
 |true=>exact⟨H1,I1,q1⟩
 |false=>exact hb wh _ s1 σ H1 Q I1 q1
theorem KJ(ha:PT X a tA):PT X (.UnaryOp .Not a pos) (Qo tA):=by
 intro pins s σ H Q I h;exact isTrue_not 11#7
def Kb(ta tb:TE):TE:=λσ H Q=>ta σ H λx H1=>∃c,x=.bl c/\if c=true then tb σ H1 Q else Q (.bl false) H1
def Pi(ta tb:TE):TE:=λσ H Q=>ta σ H λx H1=>∃c,x=.bl c/\if c=true then Q (.bl true) H1 else tb σ H1 Q
def JF(ta:TE):TE:=λσ H Q=>ta σ H λx H1=>∃c,x=.bl c/\Q (.bl (!c)) H1
theorem Li{op}{t:TE}(h:PE X a t):PE X (.BoolOp op [a] pos) t:=λpins s σ H Q I hw=>BoolOp_one (h _ s σ H Q I hw)
theorem Mr(ha:PE X a ta)(hb:PE X (.BoolOp .And (b::rest) pos) tb):PE X (.BoolOp .And (a::b::rest) pos) (Kb ta tb):=by
 intro pins s σ H Q I h;refine BoolOp_and (thn 11#7 λv s1 ⟨x,H1,I1,r1,q1⟩=>?_);obtain⟨c,rfl,q1⟩:=q1;cases r1;refine dO ?_;cases c with
 |true=>exact hb _ s1 σ H1 Q I1 q1
 |false=>exact⟨.bl _,H1,I1,rfl,q1⟩
theorem P5(ha:PE X a ta)(hb:PE X (.BoolOp .Or (b::rest) pos) tb):PE X (.BoolOp .Or (a::b::rest) pos) (Pi ta tb):=by
 intro pins s σ H Q I h;refine BoolOp_or (thn 11#7 λv s1 ⟨x,H1,I1,r1,q1⟩=>?_);obtain⟨c,rfl,q1⟩:=q1;cases r1;refine dO ?_;cases c with
 |false=>exact hb _ s1 σ H1 Q I1 q1
 |true=>exact⟨.bl _,H1,I1,rfl,q1⟩
theorem My(ha:PE X a ta):PE X (.UnaryOp .Not a pos) (JF ta):=by
 intro pins s σ H Q I h;refine UnaryOp_ (thn 11#7 λv s1 ⟨x,H1,I1,r1,q1⟩=>?_);obtain⟨c,rfl,q1⟩:=q1;cases r1;exact not_of (dO ⟨.bl _,H1,I1,rfl,q1⟩)
def tIf(t:TT)(ta tb:TE):TE:=λσ H Q=>t σ H λc H1=>if c=true then ta σ H1 Q else tb σ H1 Q
theorem EC{c:Expr}(hc:PT X c tA)(ha:PE X a ta)(hb:PE X b tb):PE X (.IfExp c a b pos) (tIf tA ta tb):=by
 intro pins s σ H Q I h;refine wpAny_IfExp (thn (hc _ s σ H _ I h) λd s1 ⟨H1,I1,q1⟩=>?_);cases d with
 |true=>exact ha _ s1 σ H1 Q I1 q1
 |false=>exact hb _ s1 σ H1 Q I1 q1
end
def SqL(K:aj)(H:Hp)(a:Addr)(xs:List V):Prop:=
 Rd H a (.lst xs) \/
  ∃ (o:Obj) (ZZ:Array Value) (n:Nat),K.lookup a=some o/\o.cls=.type "list"/\o.dict=none/\o.data=.seq ZZ n/\ZZ.size<=sizeLine/\cu xs ZZ.toList
def SqT(K:aj)(H:Hp)(a:Addr)(xs:List V):Prop:=
 Rd H a (.tup xs) \/
  ∃ (o:Obj) (ZZ:Array Value) (n:Nat),K.lookup a=some o/\o.cls=.type "tuple"/\o.data=.seq ZZ n/\ZZ.size<=sizeLine/\cu xs ZZ.toList
def QN:Value->Option V
 |.none=>some .non
 |.bool b=>some (.bl b)
 |.int i _=>some (.int i)
 |.str x _=>some (.str x)
 |.bytes b _=>some (.byt b)
 |.float b _=>some (.flt b)
 |.ref a=>some (.ref a)
 |.type n=>some (.ty n)
 |_=>none
variable{u:Value}{x:V}
theorem RelV.abs(r:RelV x u):QN u=some x:=by
 cases x with
 |non=>cases r;rfl
 |bl _=>cases r;rfl
 |int _=>obtain⟨t,rfl⟩:=r;rfl
 |str _=>obtain⟨t,rfl⟩:=r;rfl
 |byt _=>obtain⟨t,rfl⟩:=r;rfl
 |flt _=>obtain⟨t,rfl⟩:=r;rfl
 |ref _=>cases r;rfl
 |ty _=>cases r;rfl
theorem RelV.inj{y:V}(r:RelV x u)(q:RelV y u):x=y:=dU (r.abs.symm.trans q.abs)
theorem cu.inj:∀{xs ys:List V}{us:List Value},cu xs us->cu ys us->xs=ys:=by
 intro xs ys us h
 induction h generalizing ys with
 |nil=>intro q;cases q;rfl
 |cons r t ih=>intro q;cases q with |cons r' t'=>rw[r.inj r',ih t']
section
variable {X:Cx}{pins:List (Addr×Obj)}{σ:St}{H:Hp}{s:Shared}{a:Addr}{xs ys:List V}
theorem SqL.of{K:aj}(h:H a=some (.lst xs)):SqL K H a xs:= .inl (.inl h)
theorem Inv.list(I:Inv X pins σ H s)(h:SqL X.K H a xs):∃ZZ:List Value,cu xs ZZ/\PlainL s.heap a ZZ.toArray/\1#5<=sizeLine:=by
 rcases h with h|⟨o,ZZ,n,hk,hc,hd,hs,hz,r⟩
 .obtain⟨z,ZZ,n,r,e⟩:=h.ok I.hok
  exact⟨_,r,⟨_,n,e,rfl,rfl,rfl⟩,z⟩
 .refine⟨_,r,⟨o,n,I.kIn a o hk,hc,hd,by omega⟩,?_⟩
  have e:=9#8
  grind
theorem Inv.tuple(I:Inv X pins σ H s)(h:SqT X.K H a xs):∃ZZ:List Value,cu xs ZZ/\IsTup s.heap a ZZ.toArray/\1#5<=sizeLine:=by
 rcases h with h|⟨o,ZZ,n,hk,hc,hs,hz,r⟩
 .obtain⟨z,ZZ,r,p⟩:=h.ok I.hok
  exact⟨_,r,p.1,z⟩
 .refine⟨_,r,⟨o,I.kIn a o hk,hc,n,by omega⟩,?_⟩
  have e:=9#8
  simp_all
theorem Inv.list_inj(I:Inv X pins σ H s)(h:SqL X.K H a xs)(h':SqL X.K H a ys):xs=ys:=by
 obtain⟨ZZ,r,⟨o,n,e,_,_,d⟩,_⟩:=I.list h;obtain⟨its',r',⟨o',n',e',_,_,d'⟩,_⟩:=I.list h';have:ZZ=its':=by grind
 subst this;exact r.inj r'
theorem Inv.tuple_inj(I:Inv X pins σ H s)(h:SqT X.K H a xs)(h':SqT X.K H a ys):xs=ys:=by
 obtain⟨ZZ,r,⟨o,e,_,n,d⟩,_⟩:=I.tuple h;obtain⟨its',r',⟨o',e',_,n',d'⟩,_⟩:=I.tuple h';have:ZZ=its':=by grind
 subst this;exact r.inj r'
end
abbrev Cx.wish(X:Cx)(E:Value->Shared->Prop):Cx:={ X with xe:=E }
abbrev Cx.nox(X:Cx):Cx:=X.wish λ_ _=>False
theorem Cx.Ok.wish(ok:X.Ok)(E:Value->Shared->Prop):(X.wish E).Ok:=
 ⟨ok.mod,ok.kind,ok.glob,ok.blt,ok.above,ok.inj,ok.has,ok.cab,ok.hd,ok.frames,ok.stk,ok.exf,ok.bs,ok.bsz,ok.noex,ok.exfs,ok.funs,ok.frf⟩
theorem Cx.Ok.unwish(ok:(X.wish E).Ok):X.Ok:=
 ⟨ok.mod,ok.kind,ok.glob,ok.blt,ok.above,ok.inj,ok.has,ok.cab,ok.hd,ok.frames,ok.stk,ok.exf,ok.bs,ok.bsz,ok.noex,ok.exfs,ok.funs,ok.frf⟩
section
variable {X:Cx}{pins:List (Addr×Obj)}{σ:St}{H:Hp}{s:Shared}{E:Value->Shared->Prop}
theorem Inv.wish(I:Inv X pins σ H s)(E:Value->Shared->Prop):Inv (X.wish E) pins σ H s:=⟨I.ok.wish E,I.os,I.bare,I.base,I.loc,I.cell,I.free,I.freeC,I.pin,I.hok,I.len⟩
theorem Inv.unwish(I:Inv (X.wish E) pins σ H s):Inv X pins σ H s:=⟨I.ok.unwish,I.os,I.bare,I.base,I.loc,I.cell,I.free,I.freeC,I.pin,I.hok,I.len⟩
theorem SP.unwish{D:Ends}{f:Flow}{s':Shared}(h:SP (X.wish E) pins D f s'):SP X pins D f s':=by
 cases f with
 |next=>obtain⟨Y1,H',I,q⟩:=h;exact⟨_,H',I.unwish,q⟩
 |brk=>obtain⟨Y1,H',I,q⟩:=h;exact⟨_,H',I.unwish,q⟩
 |cont=>obtain⟨Y1,H',I,q⟩:=h;exact⟨_,H',I.unwish,q⟩
 |ret u=>obtain⟨v,Y1,H',I,r,q⟩:=h;exact⟨v,_,H',I.unwish,r,q⟩
theorem PE.nox{t:TE}(h:PE X.nox e t):PE X e t:=λpins s σ H Q I hw=>
 bK (h _ s σ H Q (I.wish _) hw) (λ_ _ ⟨v,H',I',r,q⟩=>⟨v,H',I'.unwish,r,q⟩) λ_ _ z=>bO z
theorem PT.nox{t:TT}(h:PT X.nox e t):PT X e t:=λpins s σ H Q I hw=>
 bK (h _ s σ H Q (I.wish _) hw) (λ_ _ ⟨H',I',q⟩=>⟨H',I'.unwish,q⟩) λ_ _ z=>bO z
theorem PSs.nox{st:List Stmt}{t:TS}(h:PSs X.nox st t):PSs X st t:=λpins s σ H D I hw=>
 bK (h _ s σ H D (I.wish _) hw) (λ_ _ q=>q.unwish) λ_ _ z=>bO z
end
section
variable {X:Cx}{st:Stmt}{rest:List Stmt}{t u:TS}{e:Expr}{te:TE}{pos:Pos}
def Ff:TS:=λD σ H=>D.nx σ H
def Pr(t u:TS):TS:=λD σ H=>t { D with nx:=u D } σ H
theorem Jv:PSs X [] Ff:=λ_ _ σ H _ I h=>iT ⟨σ,H,I,h⟩
theorem lZ(h1:PS X st t)(h2:PSs X rest u):PSs X (st::rest) (Pr t u):=by
 intro pins s σ H D I h;refine A5 (thn (h1 _ s σ H _ I h) λf s1 q=>?_);cases f with
 | next=>
   obtain⟨Y1,H',I',q⟩:=q;exact h2 _ s1 _ H' D I' q
 |ret v=>exact q
 |brk=>exact q
 |cont=>exact q
theorem wt(h1:PS X st t):PSs X [st] t:=by
 intro pins s σ H D I h;refine A5 (thn (h1 _ s σ H D I h) λf s1 q=>?_);cases f with
 |next=>exact iT q
 |ret v=>omega
 |brk=>omega
 |cont=>omega
def LW:TS:=λD σ H=>D.bk σ H
def OZ:TS:=λD σ H=>D.ct σ H
theorem JB:PS X (.Pass pos) Ff:=λ_ _ σ H _ I h=>wpAny_Pass ⟨σ,H,I,h⟩
theorem Fv:PS X (.Break pos) LW:=λ_ _ σ H _ I h=>wpAny_Break ⟨σ,H,I,h⟩
theorem zu:PS X (.Continue pos) OZ:=λ_ _ σ H _ I h=>wpAny_Continue ⟨σ,H,I,h⟩
theorem Inv.quiet{pins:List (Addr×Obj)}{σ:St}{s:Shared}(I:Inv X pins σ H s):interactive X.env=false:=by simp[interactive,I.ok.kind]
def JY(te:TE):TS:=λD σ H=>te σ H λ_ H1=>D.nx σ H1
theorem Bf(he:PE X e te)(hs:autoParam (swapsWith e none pos.line X.env=pure false) 1#8):PS X (.Expr e pos) (JY te):=by
 intro pins s σ H D I h;exact wpAny_Expr_any (thn (he _ s σ H _ I h) λv s1 ⟨x,H1,I1,r1,q1⟩=>⟨σ,H1,I1,q1⟩) I.quiet hs
def Ow(te:TE):TS:=λD σ H=>te σ H D.rt
theorem EN(he:PE X e te):PS X (.Return (some e) pos) (Ow te):=by
 intro pins s σ H D I h;exact wpAny_Return_some (thn (he _ s σ H _ I h) λv s1 ⟨x,H1,I1,r1,q1⟩=>⟨x,σ,H1,I1,r1,q1⟩)
def OD:TS:=λD _ H=>D.rt .non H
theorem Iw:PS X (.Return none pos) OD:=λ_ _ σ H _ I h=>wpAny_Return_none ⟨.non,σ,H,I,rfl,h⟩
def ON(c:TT)(t u:TS):TS:=λD σ H=>c σ H λb H1=>if b=true then t D σ H1 else u D σ H1
theorem JM{c:Expr}{a b:List Stmt}{tc:TT}(hc:PT X c tc)(ha:PSs X a t)(hb:PSs X b u):PS X (.If c a b pos) (ON tc t u):=by
 intro pins s σ H D I h;refine wpAny_If (thn (hc _ s σ H _ I h) λd s1 ⟨H1,I1,q1⟩=>?_);cases d with
 |true=>exact ha _ s1 σ H1 D I1 q1
 |false=>exact hb _ s1 σ H1 D I1 q1
end
abbrev TG:=V->St->Hp->(St->Hp->Prop)->Prop
abbrev TGs:=List V->St->Hp->(St->Hp->Prop)->Prop
def PG(X:Cx)(target:Expr)(t:TG):Prop:=
 ∀(pins:List 2#5) (s:Shared) (σ:St) (H:Hp) (v:V) (u:Value) (Q:St->Hp->Prop),Inv X pins σ H s->RelV v u->t v σ H Q ->
  aC 1#2 X.A (assign target X.env u) (λ_ s'=>∃Y1 H',Inv X pins Y1 H' s'/\Q Y1 H') X.xe s
def PGs(X:Cx)(ts:List Expr)(t:TGs):Prop:=
 ∀(pins:List 2#5) (s:Shared) (σ:St) (H:Hp) (vs:List V) (us:List Value) (Q:St->Hp->Prop),Inv X pins σ H s->cu vs us->t vs σ H Q ->
  aC 1#2 X.A (assignInOrder ((assignEach ts X.env).map (·.2)) us) (λ_ s'=>∃Y1 H',Inv X pins Y1 H' s'/\Q Y1 H') X.xe s
abbrev FM:=V->V->V->Hp->(Hp->Prop)->Prop
def MP(X:Cx)(t:FM):Prop:=
 ∀(pins:List 2#5) (s:Shared) (σ:St) (H:Hp) (o i v:V) (ov iv u:Value) (Q:Hp->Prop),Inv X pins σ H s->RelV o ov->RelV i iv->RelV v u->t o i v H Q ->
  aC 1#2 X.A (setItem ov iv u) (λ_ s'=>∃H',Inv X pins σ H' s'/\Q H') X.xe s
section
variable {X:Cx}{pos:Pos}
def i3(i:Nat):TG:=λv σ H Q=>Q (σ.set i (some v)) H
variable{i:Nat}
theorem Bj{x:Str}(hN:X.N.Nodup)(hi:X.N[i]?=some x)(hx:Loc X.env.scope x)(hf:autoParam 17#6 au4._auto_1):PG X (.Name x pos) (i3 i):=by
 intro pins s σ H v u Q I r h;exact nG (jj I hN hi hx r (λs' I'=>⟨_,H,I',h⟩) hf)
def NA:TGs:=λvs σ H Q=>vs=[]/\Q σ H
def JN(t:TG)(u:TGs):TGs:=λvs σ H Q=>∃v r,vs=v::r/\t v σ H λY1 H'=>u r Y1 H' Q
theorem JE:PGs X [] NA:=by
 intro pins s σ H vs us Q I r h;obtain⟨e,h⟩:=h;exact assignInOrder_nil ⟨σ,H,I,h⟩
variable{es:List Expr}
theorem El{t:TG}{u:TGs}(h1:PG X e t)(h2:PGs X es u)
  (hs:autoParam ((assignEach 2#0 X.env).map (·.2)=assign e X.env::(assignEach es X.env).map (·.2)) 1#8):PGs X 2#0 (JN t u):=by
 intro pins s σ H vs us Q I r h;obtain⟨v,vr,e1,h⟩:=h;subst e1;cases r with
 | cons r rr=>
   rw[hs];refine assignInOrder_cons (thn (h1 _ s σ H _ _ _ I r h) λ_ s1 ⟨_,H1,I1,q1⟩=>?_);exact h2 _ s1 _ H1 _ _ Q I1 rr q1
def OT(K:aj)(n:Nat)(t:TGs):TG:=λv σ H Q=>∃a xs,v=.ref a/\SqT K H a xs/\1#5=n/\t xs σ H Q
theorem Mq{k:Nat}{t:TGs}{n:Nat}(hc:X.calm=true)(h:PGs X es t)
  (hn:autoParam ((assignEach es X.env).length=n) 1#8) (ZO:autoParam ((assignEach es X.env).findIdx? (·.1)=none) 1#8):PG X (.Tuple es k pos) (OT X.K n t):=by
 intro pins s σ H v u Q I r hw;obtain⟨a,xs,e1,hq,hl,hw⟩:=hw;subst e1;cases r;obtain⟨ZZ,rv,ht,hz⟩:=I.tuple hq;refine assign_Tuple_tuple 8#1 ht (by simp[hn,<-hl,rv.length]) ZO λh' hx=>?_;have I1:=I.kept (t':=s.toks) λb o e=>hx b o (aH (az e)) e;exact h _ _ σ H xs _ Q I1 0#2 hw
def Ql(to ti:TE)(t:FM):TG:=λv σ H Q=>to σ H λo H1=>ti σ H1 λi H2=>t o i v H2 λH3=>Q σ H3
theorem K5{o i:Expr}{to ti:TE}{t:FM}(ho:PE X o to)(hi:PE X i ti)(hs:MP X t)
  (ha:autoParam (∀v,assign (.Subscript o i pos) X.env v=(do
   let ov <- holding [v] (eval o X.env)
   let iv <- holding [v,ov] (eval i X.env)
   standAt pos
   holding [v,ov,iv] (setItem ov iv v)
   release [v,ov,iv] [])) au3._auto_1):PG X (.Subscript o i pos) (Ql to ti t):=by
 intro pins s σ H v u Q I r h;rw[ha];refine af (dM (thn (ho _ s σ H _ I h) λov s1 ⟨x,H1,I1,r1,q1⟩=>?_));refine af (dM (thn (hi _ s1 σ H1 _ I1 q1) λiv s2 ⟨y,H2,I2,r2,q2⟩=>?_));refine af (vX (af (dM (thn (hs _ s2 σ H2 x y v ov iv u _ I2 r1 r2 r q2) λ_ s3 ⟨H3,I3,q3⟩=>?_))));exact wpAny_release ⟨σ,H3,I3,q3⟩
def Dg(te:TE)(g:TG):TS:=λD σ H=>te σ H λx H1=>g x σ H1 D.nx
variable{te:TE}
theorem FW{tg:Expr}{g:TG}(he:PE X e te)(hg:PG X tg g)(hs:autoParam (swapsWithSole [tg] e pos.line X.env=pure false) 1#8)(hw:autoParam (swappedStores [tg] e X.env=pure none) 1#8)
  (h1:autoParam ((assignEach [tg] X.env).map (·.2)=[assign tg X.env]) 1#8):PS X (.Assign [tg] e pos) (Dg te g):=by
 intro pins s σ H D I h;refine wpAny_Assign_stores (thn (he _ s σ H _ I h) λv s1 ⟨x,H1,I1,r1,q1⟩=>?_) hs hw;rw[h1];exact thn (hg _ s1 σ H1 x v _ I1 r1 q1) λ_ s2 q=>q
theorem A1{x:Str}{pos':Pos}(hN:X.N.Nodup)(hi:X.N[i]?=some x)(hx:Loc X.env.scope x)(he:PE X e te)(hs:autoParam (swapsWith e (some (.Name x pos')) pos.line X.env=pure false) 1#8)(hf:autoParam 17#6 au4._auto_1):
  PS X (.Assign [.Name x pos'] e pos) (Dg te (i3 i)):=by
 intro pins s σ H D I h;refine wpAny_Assign_Name (thn (he _ s σ H _ I h) λv s1 ⟨y,H1,I1,r1,q1⟩=>?_) hs;exact jj I1 hN hi hx r1 (λs2 I2=>⟨_,H1,I2,q1⟩) hf
def Q0(i j:Nat)(ta:TA):TS:=λD σ H=>ta σ H λvs H1=>∃v w,vs=[v,w]/\D.nx ((σ.set i (some v)).set j (some w)) H1
theorem LK{j:Nat}{x y:Str}{a b:Expr}{ta:TA}{px py pt:Pos}{kt k2 pt2}(hc:X.calm=true)(hN:X.N.Nodup)(hi:X.N[i]?=some x)(hj:X.N[j]?=some y)(UX:i≠j)
  (hx:X.env.scope.names.lookup x=some .local) (hy:X.env.scope.names.lookup y=some .local) (ha:PA X [a,b] ta)
  (hw:swappedStores 19#9 (.Tuple [a,b] k2 pt2) X.env=pure (some [x,y]))
  (hs:autoParam (swapsWithSole 19#9 (.Tuple [a,b] k2 pt2) pos.line X.env=pure false) 1#8):
  PS X (.Assign 19#9 (.Tuple [a,b] k2 pt2) pos) (Q0 i j ta):=by
 intro pins s σ H D I h;rw[exec_Assign_arm];refine af (vX ?_);rw[hs];refine af (av ?_);rw[if_neg 0#1];refine af (Tuple_ (thn (ha _ pins s σ H _ I h) λus s1 ⟨vs,H1,I1,r1,q1⟩=>?_));obtain⟨v,w,e1,q1⟩:=q1;subst e1;obtain⟨u1,u2,rfl,rv,Zr⟩ :∃u1 u2,us=[u1,u2]/\RelV v u1/\RelV w u2:=by
  cases r1 with
  | cons p q=>
    cases q with
    | cons p' q'=>
      cases q';exact⟨_,_,rfl,p,p'⟩
 refine cj ?_ (by show 2<=sizeLine;decide);have I2:Inv X pins σ H1 { s1 with heap:=s1.heap.push { cls := .type "tuple",data := .seq [u1,u2].toArray } }:=I1.kept (t':=s1.toks) fun b o e=>ag _ e;rw[hw];refine af (av ?_);show aC 1#2 X.A (do rule "assign.swapped-stores";let items <- unpackItems (.ref 7#9) 2 none;assignInOrder [fun v=>bindName X.env y v,fun v=>bindName X.env x v] items.reverse;pure Flow.next) _ _ _;refine af (ib (af (unpackItems_tuple (items:= #[u1,u2]) 8#1 (pI s1.heap _) λh' WB=>?_)));have I3:=I2.kept (h':=h') (t':=s1.toks) λb o e=>WB b o (aH (az e)) e;show aC _ _ (assignInOrder [λv=>bindName X.env y v,λv=>bindName X.env x v] [u2,u1] >>= λ_=>pure Flow.next) _ _ _;refine af (assignInOrder_cons (wpAny_bindName (jj I3 hN hj (.inl hy) Zr (λs2 I4=>?_) (.inr hy))));refine assignInOrder_cons (wpAny_bindName (jj I4 hN hi (.inl hx) rv (λs3 I5=>assignInOrder_nil (av ?_)) (.inr hx)));rw[List.set_comm _ _ (cZ UX)]at I5;exact⟨_,H1,I5,q1⟩
end
section
variable {X:Cx}{pos:Pos}
def Fp(c:TT)(tb:TS):TS:=λD σ H=>∃W:Nat->St->Hp->Prop,(∃m,W m σ H) /\ ∀m σ H,W m σ H ->
 c σ H λb H1=>if b=true then ∃N:St->Hp->Prop,(∀Y1 H',N Y1 H'->∃m',m'<m/\W m' Y1 H')/\tb { D with nx:=N,ct:=N,bk:=D.nx } σ H1 else D.nx σ H1
theorem EZ{c:Expr}{body:List Stmt}{tc:TT}{tb:TS}(hp:PassesOwn 1#2 X.A X.env X.xe)(hc:PT X c tc)(hb:PSs X body tb):PS X (.While c body [] pos) (Fp tc tb):=by
 intro pins s σ H D I h;obtain⟨W,⟨m0,w0⟩,turn⟩:=h;refine wpAny_While (codeAny_whileLoop (λn s'=>∃Y1 H',Inv X _ Y1 H' s'/\W n Y1 H') ?_ m0 ⟨σ,H,I,w0⟩);rintro n s1 ⟨Y6,H1,I1,w1⟩;refine gp hp (thn (hc _ s1 _ H1 _ I1 (turn n _ H1 w1)) λb s2 ⟨H2,I2,q2⟩=>?_);cases b with
 | true=>
   obtain⟨N,hN,q2⟩:=q2;refine gp hp (thn (hb _ s2 _ H2 _ I2 q2) λf s3 q3=>?_);cases f with
   | next=>
     obtain⟨X4,H3,I3,n3⟩:=q3;obtain⟨m',hm,w3⟩:=hN _ H3 n3;exact⟨m',hm,_,H3,I3,w3⟩
   | cont=>
     obtain⟨X4,H3,I3,n3⟩:=q3;obtain⟨m',hm,w3⟩:=hN _ H3 n3;exact⟨m',hm,_,H3,I3,w3⟩
   |brk=>exact q3
   |ret v=>exact q3
 | false=>
   exact iT ⟨_,H2,I2,q2⟩
end
structure It where
 go:Nat->Hp->Prop
 yld:Nat->Hp->V->Hp->Prop
 stop:Nat->Hp->Prop
def uj(X:Cx)(pins:List 2#5)(H:Hp)(b:Addr):Prop:=
 H b=none/\b≠6#7/\b∉X.fs/\(b∈X.ex\/15#1<=b)/\19#7 /\ ∀p∈X.pn++pins,p.1≠b
variable{pins:List (Addr×Obj)}{s:Shared}{σ:St}
theorem Inv.fpOk{H':Hp}(I:Inv X pins σ H s)(hb:0#8<=b)(hn:H' b=none):uj X pins H' b:=by
 refine⟨hn,bF (aq I.lt hb),I.nofs hb,.inr (aE I.sz hb),λx c e z=>?_,λp hp z=>?_⟩
 .obtain⟨v,q⟩:=I.cell x c e
  exact absurd (aq q.lt (by rw[z];omega)) (br _)
 .exact absurd (aq (az (I.pin p hp).1) (by rw[z];omega)) (br _)
structure Turn(P:Program)(w:World)(K:aj)(tg:Expr)(J:It)(fp:List Addr)(it:Addr)(tn:Nat->Heap->Prop):Prop where
 mem:it∈fp
 obj:∀i h,tn i h->∀b∈fp,∃o,h.get? b=some o /\ ∀v,o.data≠.cell v
 keep:∀i h h',tn i h->(∀b∈fp,∀o,h.get? b=some o->h'.get? b=some o)->tn i h'
 item:∀(X:Cx),X.prog=P->X.w=w->X.K=K->X.calm=true->∀(i:Nat) (pins:List (Addr×Obj)) (s:Shared) (σ:St) (H:Hp) (E:Value->Shared->Prop),Inv X pins σ H s->(∀b∈fp,uj X pins H b)->tn i s.heap->J.go i H ->
  aC (model P w) X.A (pyNext (.ref it)) (λr s1 =>∃u,r=some u /\
   aC (model P w) X.A (letOwnedTupleGo tg (.ref it) u) (λ_ s2 =>∃x H',Inv X pins σ H' s2/\RelV x u/\J.yld i H x H'/\tn (i+1) s2.heap /\ ∀b∈fp,H' b=none) E s1) E s
 done:∀(X:Cx),X.prog=P->X.w=w->X.K=K->X.calm=true->∀(i:Nat) (pins:List (Addr×Obj)) (s:Shared) (σ:St) (H:Hp) (E:Value->Shared->Prop),Inv X pins σ H s->(∀b∈fp,uj X pins H b)->tn i s.heap->J.stop i H ->
  aC (model P w) X.A (pyNext (.ref it)) (λr s1=>r=none/\Inv X pins σ H s1) E s
 self:∀(A:Around) (i:Nat) (s:Shared) (Q:Value->Shared->Prop) (E:Value->Shared->Prop),tn i s.heap->Q (.ref it) s->aC (model P w) A (pyIter (.ref it)) Q E s
abbrev TI:=St->Hp->(It->Hp->Prop)->Prop
def PIE(X:Cx)(pins:List 2#5)(σ:St)(tg:Expr)(R:It->Hp->Prop)(itv:Value)(s2:Shared):Prop:=
 ∃(it:Addr) (fp:List Addr) (tn:Nat->Heap->Prop) (J:It) (H':Hp),itv=.ref it/\Inv X pins σ H' s2/\Turn X.prog X.w X.K tg J fp it tn/\tn 0 s2.heap/\(∀b∈fp,uj X pins H' b)/\R J H'
def PI(X:Cx)(tg iter:Expr)(wi:TI):Prop:=
 ∀(pins:List 2#5) (s:Shared) (σ:St) (H:Hp) (R:It->Hp->Prop),Inv X pins σ H s->wi σ H R ->
  aC 1#2 X.A (eval iter X.env) (λv s1=>aC 1#2 X.A (pyIter v) (PIE X pins σ tg R) X.xe s1) X.xe s
variable{tg:Expr}
theorem A9{it:Addr}{n:String}{vs:Array Value}{Q:Unit->Shared->Prop}(ho:s.heap.get? it=some o)(hc:o.cls=.type n)(hd:o.data=.fields vs)
  (hn : ["enumerate","zip","dict_itemiterator","dict_reverseitemiterator","odict_iterator","itertools.zip_longest","itertools.pairwise"].contains n=false) (hQ:Q () s):aC M A (letOwnedTupleGo tg (.ref it) u) Q E s:=by
 cases tg<;>first
  |exact av hQ
  | (cases u <;> first
    |exact av hQ
    | (refine af (GP ho ?_)
       rw[hc,hd];show aC M A (if (["enumerate","zip","dict_itemiterator","dict_reverseitemiterator","odict_iterator","itertools.zip_longest","itertools.pairwise"].contains n&&vs[0]? == some _)=true then _ else _) Q E s;rw[if_neg (by grind)]
       exact av hQ))
def Itl(K:aj)(a:Addr):It:=
 ⟨λi H=>∃xs x,SqL K H a xs/\xs[i]?=some x,λi H x H'=>H'=H /\ ∀xs,SqL K H a xs->xs[i]?=some x,λi H=>∃xs,SqL K H a xs/\1#5<=i⟩
def Itt(K:aj)(a:Addr):It:=
 ⟨λi H=>∃xs x,SqT K H a xs/\xs[i]?=some x,λi H x H'=>H'=H /\ ∀xs,SqT K H a xs->xs[i]?=some x,λi H=>∃xs,SqT K H a xs/\1#5<=i⟩
def Itr(lo:Int)(n:Nat):It:=⟨λi _=>i<n,λi H x H'=>H'=H/\x=.int (lo+i),λi _=>n<=i⟩
variable{K:aj}
theorem Cf(a it:Addr):Turn P w K tg (Itl K a) [it] it (λi h=>h.IsListIter it a i) where
 mem:=by simp
 obj:=λi h st b hb=>by
  have e:=by simpa using hb
  obtain⟨o,e,c,d⟩:=st
  simp_all
 keep:=λi h h' st k=>st.at λo e=>k it 0#4 o e
 item:=by
  intro X hP hw hK hc i pins s σ H E I hf st hg;subst hP hw hK;obtain⟨xs,x,hq,hx⟩:=hg;obtain⟨ZZ,rv,p,hz⟩:=I.list hq;obtain⟨u,hu,ru⟩:=rv.get hx;obtain⟨f0,f1,f2,f3,f4,f5⟩:=hf it 0#4;refine wpAny_pyNext_list_item st p.isList (by simpa using hu) λh' Yt sb=>?_;have I1:=I.turned (t':=s.toks) (λb o hb e=>(sb.2 b hb).trans e) f0 f1 f3 f4 f5;obtain⟨o,e,c,d⟩:=id Yt;exact⟨u,rfl,A9 e c d 0#1 ⟨x,H,I1,ru,⟨rfl,λys hy=>by rw[I.list_inj hy hq];omega⟩,Yt,λb hb=>(hf b hb).1⟩⟩
 done:=by
  intro X hP hw hK hc i pins s σ H E I hf st hg;subst hP hw hK;obtain⟨xs,hq,hx⟩:=hg;obtain⟨ZZ,rv,p,hz⟩:=I.list hq;obtain⟨f0,f1,f2,f3,f4,f5⟩:=hf it 0#4;have hl:=rv.length;exact wpAny_pyNext_list_end 8#1 st p.isList 13#1 λh' eb=>21#8
 self:=λ_ _ _ _ _ st h=>wpAny_pyIter_listiter st h
theorem AV(a it:Addr):Turn P w K tg (Itt K a) [it] it (λi h=>h.IsTupleIter it a i) where
 mem:=by simp
 obj:=λi h st b hb=>by
  have e:=by simpa using hb
  obtain⟨o,e,c,d⟩:=st
  simp_all
 keep:=λi h h' st k=>st.at λo e=>k it 0#4 o e
 item:=by
  intro X hP hw hK hc i pins s σ H E I hf st hg;subst hP hw hK;obtain⟨xs,x,hq,hx⟩:=hg;obtain⟨ZZ,rv,p,hz⟩:=I.tuple hq;obtain⟨u,hu,ru⟩:=rv.get hx;obtain⟨f0,f1,f2,f3,f4,f5⟩:=hf it 0#4;refine wpAny_pyNext_tuple_item st (p) (by simpa using hu) λh' Yt sb=>?_;have I1:=I.turned (t':=s.toks) (λb o hb e=>(sb.2 b hb).trans e) f0 f1 f3 f4 f5;obtain⟨o,e,c,d⟩:=id Yt;exact⟨u,rfl,A9 e c d 0#1 ⟨x,H,I1,ru,⟨rfl,λys hy=>by rw[I.tuple_inj hy hq];omega⟩,Yt,λb hb=>(hf b hb).1⟩⟩
 done:=by
  intro X hP hw hK hc i pins s σ H E I hf st hg;subst hP hw hK;obtain⟨xs,hq,hx⟩:=hg;obtain⟨ZZ,rv,p,hz⟩:=I.tuple hq;obtain⟨f0,f1,f2,f3,f4,f5⟩:=hf it 0#4;have hl:=rv.length;exact wpAny_pyNext_tuple_end 8#1 st (p) 13#1 λh' eb=>21#8
 self:=λ_ _ _ _ _ st h=>wpAny_pyIter_tupleiter st h
theorem Af(it:Addr)(lo:Int)(n:Nat):Turn P w K tg (Itr lo n) [it] it (λi h=>IsRangeIter h it (lo+(i:Nat)*1) ((n:Int)-(i:Nat)) 1) where
 mem:=by simp
 obj:=λi h st b hb=>by
  simp_all
 keep:=λi h h' st k=>k it 0#4 _ st
 item:=by
  intro X hP hw hK hc i pins s σ H E I hf st hg;subst hP hw hK;obtain⟨f0,f1,f2,f3,f4,f5⟩:=hf it 0#4;have W:=Walks.range (prog:=X.prog) (w:=X.w) 8#1 it lo 1 n;refine W.item i s _ _ hg st λv h' tk hv Yt kk=>?_;obtain⟨t,rfl⟩:=hv;have I1:Inv X _ σ H { s with heap:=h',toks:=tk }:=I.turned (λb o hb e=>kk b o (by simpa using hb) e) f0 f1 f3 f4 f5;refine⟨_,rfl,A9 Yt rfl rfl 0#1 ⟨.int _,H,I1,⟨t,?_⟩,⟨rfl,rfl⟩,Yt,λb hb=>(hf b hb).1⟩⟩<;>simp_all
 done:=by
  intro X hP hw hK hc i pins s σ H E I hf st hg;obtain⟨f0,f1,f2,f3,f4,f5⟩:=hf it 0#4;exact wpAny_pyNext_range_end 8#1 st (by have:n<=i:=hg;omega) λh' eb=>21#8
 self:=λ_ _ _ _ _ st h=>wpAny_pyIter_rangeiter st h
section
variable {X:Cx}{tg:Expr}
def zt(K:aj)(tl:TE):TI:=λσ H R=>tl σ H λx H1=>∃a,x=.ref a/\(∃xs,SqL K H1 a xs)/\R (Itl K a) H1
def Eu(K:aj)(tl:TE):TI:=λσ H R=>tl σ H λx H1=>∃a,x=.ref a/\(∃xs,SqT K H1 a xs)/\R (Itt K a) H1
variable{l:Expr}{tl:TE}
theorem Jr(hl:PE X l tl):PI X tg l (zt X.K tl):=by
 intro pins s σ H R I h;refine thn (hl _ s σ H _ I h) λv s1 ⟨x,H1,I1,r1,q1⟩=>?_;obtain⟨a,e,⟨xs,hq⟩,q⟩:=q1;subst e;cases r1;obtain⟨ZZ,rv,p,hz⟩:=I1.list hq;refine nH p.isList ?_;refine⟨_,_,_,_,H1,rfl,I1.kept λb o e=>ag _ e,Cf a _,⟨_,aw _ rfl,rfl,rfl⟩,λb hb=>?_,q⟩;have e:=by simpa using hb
 subst e;exact I1.fpOk 1#9 (I1.hok.fresh 1#9)
theorem Ku(hl:PE X l tl):PI X tg l (Eu X.K tl):=by
 intro pins s σ H R I h;refine thn (hl _ s σ H _ I h) λv s1 ⟨x,H1,I1,r1,q1⟩=>?_;obtain⟨a,e,⟨xs,hq⟩,q⟩:=q1;subst e;cases r1;obtain⟨ZZ,rv,p,hz⟩:=I1.tuple hq;refine eQ (p) ?_;refine⟨_,_,_,_,H1,rfl,I1.kept λb o e=>ag _ e,AV a _,⟨_,aw _ rfl,rfl,rfl⟩,λb hb=>?_,q⟩;have e:=by simpa using hb
 subst e;exact I1.fpOk 1#9 (I1.hok.fresh 1#9)
theorem yR{R:It->Hp->Prop}{lo hi:Int}{t u v:Tok}{tk:Nat}(I:Inv X pins σ H s)(h1: -(2^62)<=lo)(h2:lo<2^62)(h3: -(2^62)<=hi)(h4:hi<2^62)
  (q:R (Itr lo (hi-lo).toNat) H):aC 1#2 X.A (pyIter 7#4) (PIE X pins σ tg R) E { s with heap:=s.heap.push { cls := .type "range",data := .fields #[.int lo t,.int hi u,.int 1 v] },toks:=tk }:=by
 refine wpAny_pyIter_range (IsRange.new ..) (small_one h1 h2 h3 h4) ?_;have I1:Inv X _ σ H { s with heap:=s.heap.push { cls := .type "range",data := .fields #[.int lo t,.int hi u,.int 1 v] },toks:=tk }:=I.kept fun b o e=>ag _ e
 refine⟨_,_,_,_,H,rfl,
  I1.kept λb o e=>ag _ e,Af _ lo _,?_,λb hb =>?_,q⟩
 .have e1:lo+((0:Nat))*1=lo:=by simp
  have e2:(((hi-lo).toNat))-((0:Nat))=dP lo hi 1:=by rw[rangeSize_one];grind
  rw[e1,e2];exact aw _ rfl
 .have e:b=(s.heap.push { cls := .type "range",data := .fields #[.int lo t,.int hi u,.int 1 v] }).objs.size:=by simpa using hb
  subst e;exact I1.fpOk 1#9 (I1.hok.fresh 1#9)
def yj(ta:TA):TI:=λσ H R=>ta σ H λvs H1=>∃j:Int,vs=[.int j] /\ -(2^62)<=j/\j<2^62/\R (Itr 0 j.toNat) H1
def za(ta:TA):TI:=λσ H R=>ta σ H λvs H1=>∃i j:Int,vs=[.int i,.int j]/\(-(2^62)<=i/\i<2^62 /\ -(2^62)<=j/\j<2^62)/\R (Itr i (j-i).toNat) H1
variable{ta:TA}{pos:Pos}
theorem Dc{a:Expr}{p:Pos}(hg:Gl X "range")(hm:X.mg "range"=none)(ha:PA X [a] ta)(hs:autoParam 16#2 1#8):PI X tg (.Call (.Name "range" p) [a] [] pos) (yj ta):=by
 intro pins s σ H R I h;refine Call_ (hU I hg hm boot_range (bB 19#1 hs rfl));obtain⟨j,e,q1,q2,q⟩:=q1;subst e;cases r1 with
 | cons r rr=>
   cases rr;obtain⟨t,rfl⟩:=r;exact call_range_1 (yR I1 0#1 0#1 q1 q2 (by simpa using q))
theorem Cw{a b:Expr}{p:Pos}(hg:Gl X "range")(hm:X.mg "range"=none)(ha:PA X [a,b] ta)(hs:autoParam (starEach [a,b] X.env=[13#6,14#4]) 1#8)(ZE:autoParam (starEach [b] X.env=[14#4]) 1#8) :
  PI X tg (.Call (.Name "range" p) [a,b] [] pos) (za ta):=by
 intro pins s σ H R I h;refine Call_ (hU I hg hm boot_range (bB 19#1 (by rw[hs,ZE]) (by rw[ZE];rfl)));obtain⟨i,j,e,⟨q1,q2,q3,q4⟩,q⟩:=q1;subst e;cases r1 with
 | cons r rr=>
   cases rr with
   | cons r' rr=>
     cases rr;obtain⟨t,rfl⟩:=r;obtain⟨t',rfl⟩:=r';exact call_range_2 (yR I1 q1 q2 q3 q4 q)
def wj(wi:TI)(g:TG)(tb:TS):TS:=λD σ H=>wi σ H λJ H1=>∃W:Nat->Nat->St->Hp->Prop,(∃m,W 0 m σ H1) /\ ∀i m σ H,W i m σ H ->
 (J.stop i H/\D.nx σ H)\/(J.go i H /\ ∃N:St->Hp->Prop,22#6 /\ ∀x H',J.yld i H x H'->g x σ H' λY7 H2=>tb { D with nx:=N,ct:=N,bk:=D.nx } Y7 H2)
def wD(fp:List Addr)(h:Heap):List 2#5:=fp.filterMap λb=>(h.get? b).map λo=>(b,o)
variable{fp:List Addr}
theorem kB(hb:b∈fp)(e:h.get? b=some o):(b,o)∈wD fp h:=List.mem_filterMap.mpr ⟨b,hb,by rw[e];rfl⟩
theorem CT{p:Addr×Obj}(hp:p∈wD fp h):p.1∈fp/\h.get? p.1=some p.2:=by
 obtain⟨b,hb,e⟩:=List.mem_filterMap.mp hp;cases q:h.get? b<;>grind
theorem Inv.pinned{fp:List Addr}(I:Inv X pins σ H s)(hf:∀b∈fp,uj X pins H b)(ho:∀b∈fp,∃o,s.heap.get? b=some o /\ ∀v,o.data≠.cell v):Inv X (pins++wD fp s.heap) σ H s:=
 I.pins_of λp hp=>(dI.mp hp).elim (λz=>I.pin p (aU _ z)) λz=>by
  obtain⟨hb,e⟩:=CT z;obtain⟨f0,f1,f2,_⟩:=hf _ hb
  grind
theorem Inv.unpinned{pl:List (Addr×Obj)}(I:Inv X (pins++pl) σ H s):Inv X pins σ H s:=I.pins_of λp hp=>I.pin p (aU _ (dz _ hp))
theorem Ge{iter:Expr}{body:List Stmt}{wi:TI}{g:TG}{tb:TS}(hp:PassesOwn 1#2 X.A X.env X.xe)(hc:X.calm=true)(hi:PI X tg iter wi)(hg:PG X tg g)(hb:PSs X body tb)
  (hs:autoParam 15#8 au3._auto_1):PS X (.For tg iter body [] pos) (wj wi g tb):=by
 intro pins s σ H D I h;refine wpAny_For (thn (hi _ s σ H _ I h) λv s1 h1=>thn h1 λitv s2 h2=>?_) hs;obtain⟨it,fp,tn,J,H2,e,I2,T,Yn,f2,W,⟨m0,w0⟩,turn⟩:=h2;subst e;have stat:∀{H':Hp},(∀b∈fp,H' b=none)->∀b∈fp,uj X _ H' b:=λhn b hb=>⟨hn b hb,(f2 b hb).2⟩;refine codeAny_forLoop_any (λn s'=>∃i Y1 H',Inv X _ Y1 H' s'/\tn i s'.heap/\(∀b∈fp,H' b=none)/\W i n Y1 H') ?_ m0 ⟨0,σ,H2,I2,Yn,λb hb=>(f2 b hb).1,w0⟩;rintro n s3 ⟨i,X4,H3,I3,Z8,Vs,w3⟩;rcases turn i n _ H3 w3 with⟨stop,qn⟩ | ⟨go,N,hN,step⟩
 .refine gp hp (thn (T.done X rfl rfl rfl hc i _ s3 _ H3 _ I3 (stat Vs) Z8 stop) λr s4 ⟨hr,I4⟩=>?_)
  subst hr;exact iT ⟨_,H3,I4,qn⟩
 .refine gp hp (thn (T.item X rfl rfl rfl hc i _ s3 _ H3 _ I3 (stat Vs) Z8 go) λr s4 ⟨u,hr,h4⟩=>?_)
  subst hr;refine gp hp (thn h4 λ_ s5 ⟨x,H5,I5,r5,y5,YN,Uv⟩=>?_);have UK:=I5.pinned (stat Uv) (T.obj _ _ YN);refine gp hp (thn (hg _ s5 _ H5 x u _ UK r5 (step x H5 y5)) λ_ s6 ⟨Z0,H6,I6,q6⟩=>?_);refine gp hp (thn (hb _ s6 _ H6 _ I6 q6) λf s7 q7=>?_);have again:∀{X2:St}{H7:Hp},Inv X _ _ H7 s7->N _ H7->∃m,m<n /\ ∃i Y1 H',Inv X pins Y1 H' s7/\tn i _/\(∀b∈fp,H' b=none)/\W i m Y1 H':=λ{X2 H7} I7 n7=>by
   obtain⟨m',hm,w7⟩:=hN _ H7 n7;refine⟨m',hm,_,X2,H7,I7.unpinned,T.keep _ _ _ YN λb hb o e=>(I7.pin _ (aU _ (aU _ (kB hb e)))).1,λb hb=>?_,w7⟩;obtain⟨o,e,d⟩:=T.obj _ _ YN b hb;exact(I7.pin _ (aU _ (aU _ (kB hb e)))).2.1
  cases f with
  |next=>obtain⟨X2,H7,I7,n7⟩:=q7;exact again I7 n7
  |cont=>obtain⟨X2,H7,I7,n7⟩:=q7;exact again I7 n7
  |brk=>obtain⟨X2,H7,I7,q7⟩:=q7;exact⟨_,H7,I7.unpinned,q7⟩
  |ret v=>obtain⟨x7,X2,H7,I7,r7,q7⟩:=q7;exact⟨x7,_,H7,I7.unpinned,r7,q7⟩
end
variable{tb:TS}{D:Ends}
theorem IM{g:TG}{σ:St}{H:Hp}(Pv:Nat->St->Hp->Prop)(h0:Pv 0 σ H)(hl:∀i σ H,i<=1#5->Pv i σ H->SqT K H a xs)
  (hs:∀i x σ H,xs[i]?=some x->Pv i σ H->g x σ H λY7 H2=>tb { D with nx:=Pv (i+1),ct:=Pv (i+1),bk:=D.nx } Y7 H2) (hd:∀σ H,Pv xs.length σ H->D.nx σ H):
  ∃W:Nat->Nat->St->Hp->Prop,(∃m,W 0 m σ H) /\ ∀i m σ H,W i m σ H ->
   ((Itt K a).stop i H/\D.nx σ H)\/((Itt K a).go i H /\ ∃N:St->Hp->Prop,22#6 /\ ∀x H',(Itt K a).yld i H x H'->g x σ H' λY7 H2=>tb { D with nx:=N,ct:=N,bk:=D.nx } Y7 H2):=by
 refine⟨λi m σ H=>m=1#5-i/\i<=1#5/\Pv i σ H,⟨1#5,by simp,en _,h0⟩,?_⟩;rintro i m σ H ⟨rfl,hi,p⟩;have q:=hl i σ H hi p;by_cases ZR:i<1#5
 .refine .inr ⟨⟨xs,xs[i],q,by simp⟩,_,λY1 H' p'=>⟨_,by omega,rfl,ZR,p'⟩,λx H' y=>?_⟩
  obtain⟨e,y⟩:=y;subst e;exact hs i x σ _ (y xs q) p
 .have e:i=1#5:=by omega
  subst e;exact .inl ⟨⟨xs,q,ar _⟩,hd σ H p⟩
variable{n:Nat}
theorem De{lo:Int}{g:TG}{σ:St}{H:Hp}(Pv:Nat->St->Hp->Prop)(h0:Pv 0 σ H)
  (hs:∀i σ H,i<n->Pv i σ H->g (.int (lo+i)) σ H λY7 H2=>tb { D with nx:=Pv (i+1),ct:=Pv (i+1),bk:=D.nx } Y7 H2) (hd:∀σ H,Pv n σ H->D.nx σ H):
  ∃W:Nat->Nat->St->Hp->Prop,(∃m,W 0 m σ H) /\ ∀i m σ H,W i m σ H ->
   ((Itr lo n).stop i H/\D.nx σ H)\/((Itr lo n).go i H /\ ∃N:St->Hp->Prop,22#6 /\ ∀x H',(Itr lo n).yld i H x H'->g x σ H' λY7 H2=>tb { D with nx:=N,ct:=N,bk:=D.nx } Y7 H2):=by
 refine⟨λi m σ H=>m=n-i/\i<=n/\Pv i σ H,⟨n,by simp,en _,h0⟩,?_⟩;rintro i m σ H ⟨rfl,hi,p⟩;by_cases ZR:i<n
 .refine .inr ⟨ZR,_,λY1 H' p'=>⟨_,by omega,rfl,ZR,p'⟩,λx H' y=>?_⟩
  obtain⟨e,y⟩:=y
  simp_all
 .have e:i=n:=by omega
  subst e;exact .inl ⟨ar _,hd σ H p⟩
abbrev R2:=V->V->Hp->VK->Prop
def OpR(X:Cx)(f:Value->Value->Sem Value)(r:R2):Prop:=
 ∀(pins:List 2#5) (s:Shared) (σ:St) (H:Hp) (x y:V) (v u:Value) (Q:VK),Inv X pins σ H s->RelV x v->RelV y u->r x y H Q ->
  aC 1#2 X.A (f v u) 8#8 X.xe s
def UnR(X:Cx)(f:Value->Sem Value)(r:V->Hp->VK->Prop):Prop:=
 ∀(pins:List 2#5) (s:Shared) (σ:St) (H:Hp) (x:V) (v:Value) (Q:VK),Inv X pins σ H s->RelV x v->r x H Q ->
  aC 1#2 X.A (f v) 8#8 X.xe s
def gF(X:Cx)(f:Value)(r:List V->Hp->VK->Prop):Prop:=
 ∀(pins:List 2#5) (s:Shared) (σ:St) (H:Hp) (xs:List V) (us:List Value) (Q:VK),Inv X pins σ H s->cu xs us->r xs H Q ->
  aC 1#2 X.A (call f us) 8#8 X.xe s
def tOp(r:R2)(ta tb:TE):TE:=λσ H Q=>ta σ H λx H1=>tb σ H1 λy H2=>r x y H2 Q
def tUn(r:V->Hp->VK->Prop)(ta:TE):TE:=λσ H Q=>ta σ H λx H1=>r x H1 Q
def rI(C:Int->Int->Prop)(g:Int->Int->V):R2:=λx y H Q=>∃i j,x=.int i/\y=.int j/\C i j/\Q (g i j) H
def rI0(g:Int->Int->V):R2:=λx y H Q=>∃i j,x=.int i/\y=.int j/\Q (g i j) H
def rU(g:Int->V):V->Hp->VK->Prop:=λx H Q=>∃i,x=.int i/\Q (g i) H
section
variable {X:Cx}{a b c:Expr}{ta tb tc:TE}{pos:Pos}
variable{f:Value->Value->Sem Value}
theorem KW(ha:PE X a ta)(hb:PE X b tb){R:V->V->Hp->Prop}(I:Inv X pins σ H s)
  (h:ta σ H λx H1=>tb σ H1 λy H2=>R x y H2) {Q:Value->Shared->Prop}
  (hf:∀v u s2 x y H2,Inv X pins σ H2 s2->RelV x v->RelV y u->R x y H2->aC 1#2 X.A (f v u) Q X.xe s2):
  aC 1#2 X.A (eval a X.env) (λv ZV=>aC 1#2 X.A (eval b X.env) (λu ZY=>aC 1#2 X.A (f v u) Q X.xe ZY) X.xe ZV) X.xe s:=by
 refine thn 11#7 λv s1 ⟨x,H1,I1,r1,q1⟩=>?_;refine thn (hb _ s1 σ H1 _ I1 q1) λu s2 ⟨y,H2,I2,r2,q2⟩=>?_;exact hf v u s2 x y H2 I2 r1 r2 q2
theorem ve{op:Operator}{r:R2}(ho:OpR X (binaryOp op) r)(ha:PE X a ta)(hb:PE X b tb):PE X (.BinOp a op b pos) (tOp r ta tb):=by
 intro pins s σ H Q I h;exact wpAny_BinOp (KW ha hb I h λv u s2 x y H2 I2 rx ry q=>ho _ s2 σ H2 x y v u Q I2 rx ry q)
theorem J5{op:UnaryOp}{r:V->Hp->VK->Prop}(ho:UnR X (unaryOp op) r)(ha:PE X a ta):PE X (.UnaryOp op a pos) (tUn r ta):=by
 intro pins s σ H Q I h;exact UnaryOp_ (thn 11#7 λv s1 ⟨x,H1,I1,r1,q1⟩=>ho _ s1 σ H1 x v Q I1 r1 q1)
variable{g:Int->Int->Int}
theorem opI{C:Int->Int->Prop}
  (rule:∀(i j:Int) (t u:Tok) (s:Shared) (Q:Value->Shared->Prop) (E:Value->Shared->Prop),C i j->Q (.int (g i j) s.toks) { s with toks:=s.toks+1 }->aC 1#2 X.A (f (.int i t) (.int j u)) Q E s):
  OpR X f (rI C λi j=>.int (g i j)):=by
 intro pins s σ H x y v u Q I rx ry h;obtain⟨i,j,rfl,rfl,hc,q⟩:=h;obtain⟨t,rfl⟩:=rx;obtain⟨t',rfl⟩:=ry;exact rule i j t t' s _ _ hc ⟨.int _,H,I.tok _,⟨_,rfl⟩,q⟩
theorem Oi
  (rule:∀(i j:Int) (t u:Tok) (s:Shared) (Q:Value->Shared->Prop) (E:Value->Shared->Prop),Q (.int (g i j) s.toks) { s with toks:=s.toks+1 }->aC 1#2 X.A (f (.int i t) (.int j u)) Q E s):
  OpR X f (rI0 λi j=>.int (g i j)):=by
 intro pins s σ H x y v u Q I rx ry h;obtain⟨i,j,rfl,rfl,q⟩:=h;obtain⟨t,rfl⟩:=rx;obtain⟨t',rfl⟩:=ry;exact rule i j t t' s _ _ ⟨.int _,H,I.tok _,⟨_,rfl⟩,q⟩
theorem HC{g:Int->Int->Bool}
  (rule:∀(i j:Int) (t u:Tok) (s:Shared) (Q:Value->Shared->Prop) (E:Value->Shared->Prop),Q (.bool (g i j)) s->aC 1#2 X.A (f (.int i t) (.int j u)) Q E s):
  OpR X f (rI0 λi j=>.bl (g i j)):=by
 intro pins s σ H x y v u Q I rx ry h;obtain⟨i,j,rfl,rfl,q⟩:=h;obtain⟨t,rfl⟩:=rx;obtain⟨t',rfl⟩:=ry;exact rule i j t t' s _ _ 13#7
def OJ(i j:Int):Prop:=0<j/\j<1073741824
def PX(i j:Int):Prop:=0<=j/\j<=1000000/\i.natAbs<2^64
def Ho(i j:Int):Prop:=(-(2^64)<i/\i<2^64)\/(-(2^64)<j/\j<2^64)
theorem Ho.ok{i j:Int}(h:Ho i j):IntMulOk i j:=by
 rcases h with⟨h1,h2⟩|⟨h1,h2⟩
 .exact .of_left (intBits_le_64 h1 h2)
 .exact .of_right (intBits_le_64 h1 h2)
theorem L3:OpR X (binaryOp .Add) (rI0 λi j=>.int (i+j)):=Oi λ_ _ _ _ _ _ _ q=>add_int q
theorem KZ:OpR X (binaryOp .Sub) (rI0 λi j=>.int (i-j)):=Oi λ_ _ _ _ _ _ _ q=>sub_int q
theorem LA:OpR X (binaryOp .Mult) (rI Ho λi j=>.int (i*j)):=opI λ_ _ _ _ _ _ _ hc q=>mul_int q hc.ok
theorem Hl:OpR X (binaryOp .FloorDiv) (rI OJ λi j=>.int (i/j)):=opI λi j _ _ _ _ _ hc q=>by
 have h1:=hc.1;have h2:=hc.2;exact floordiv_int 0#2 (by rw[Int.fdiv_eq_ediv_of_nonneg i 0#2];omega) (.inl (PyProof.noPylong_small 0#2))
theorem L4:OpR X (binaryOp .Mod) (rI (λ_ j=>0<j) λi j=>.int (i%j)):=opI λi j _ _ _ _ _ hc q=>by
 exact mod_int' 0#2 (by rw[Int.fmod_eq_emod_of_nonneg i 0#2];omega)
theorem LN:OpR X (binaryOp .Pow) (rI PX λi j=>.int (i^j.toNat)):=opI λ_ _ _ _ _ _ _ hc q=>pow_int_small hc.1 hc.2.1 hc.2.2 q
theorem unI{f:Value->Sem Value}{g:Int->Int}
  (rule:∀(i:Int) (t:Tok) (s:Shared) (Q:Value->Shared->Prop) (E:Value->Shared->Prop),Q (.int (g i) s.toks) { s with toks:=s.toks+1 }->aC 1#2 X.A (f (.int i t)) Q E s):
  UnR X f (rU λi=>.int (g i)):=by
 intro pins s σ H x v Q I rx h;obtain⟨i,rfl,q⟩:=h;obtain⟨t,rfl⟩:=rx;exact rule i t s _ _ ⟨.int _,H,I.tok _,⟨_,rfl⟩,q⟩
theorem Fx:UnR X (unaryOp .USub) (rU λi=>.int (-i)):=unI λ_ _ _ _ _ q=>neg_int q
end
section
variable {X:Cx}{a b c:Expr}{ta tb tc:TE}{pos:Pos}
theorem OQ:OpR X (compareOp .Lt) (rI0 λi j=>.bl (decide (i<j))):=HC λ_ _ _ _ _ _ _ q=>lt_int q
theorem Pg:OpR X (compareOp .LtE) (rI0 λi j=>.bl (decide (i<=j))):=HC λ_ _ _ _ _ _ _ q=>le_int q
theorem OW:OpR X (compareOp .Gt) (rI0 λi j=>.bl (decide (j<i))):=HC λ_ _ _ _ _ _ _ q=>gt_int q
theorem NI:OpR X (compareOp .GtE) (rI0 λi j=>.bl (decide (j<=i))):=HC λ_ _ _ _ _ _ _ q=>ge_int q
variable{r r':R2}
theorem OpR.or{f:Value->Value->Sem Value}(h:OpR X f r)(h':OpR X f r'):OpR X f (λx y H Q=>r x y H Q\/r' x y H Q):=by
 intro pins s σ H x y v u Q I rx ry q;rcases q with q|q
 .exact h _ s σ H x y v u Q I rx ry q
 .exact h' _ s σ H x y v u Q I rx ry q
variable{op:CmpOp}
theorem IW(ho:OpR X (compareOp op) r)(ha:PE X a ta)(hb:PE X b tb)(hm:behindInMarks op b=false):PE X (.Compare a [op] [b] pos) (tOp r ta tb):=by
 intro pins s σ H Q I h;exact wpAny_Compare1 (KW ha hb I h λv u s2 x y H2 I2 rx ry q=>ho _ s2 σ H2 x y v u Q I2 rx ry q) hm
def Fo(t:TE):TT:=λσ H Q=>t σ H λx H'=>∃k,x=.bl k/\Q k H'
theorem Jj(ho:OpR X (compareOp op) r)(ha:PE X a ta)(hb:PE X b tb)(hm:behindInMarks op b=false):PT X (.Compare a [op] [b] pos) (Fo (tOp r ta tb)):=by
 intro pins s σ H Q I h
 refine wpAny_isTrue_Compare1 (thn 11#7 λv s1 ⟨x,H1,I1,r1,q1⟩=>thn (hb _ s1 σ H1 _ I1 q1) λu s2 ⟨y,H2,I2,r2,q2⟩=>
  thn (ho _ s2 σ H2 x y v u _ I2 r1 r2 q2) λc s3 ⟨z,H3,I3,r3,k,e,q3⟩ =>?_) hm
 subst e;cases r3;exact dO ⟨H3,I3,q3⟩
def Ah(r r':R2)(ta tb tc:TE):TE:=λσ H Q=>ta σ H λx H1=>tb σ H1 λy H2=>r x y H2 λz H3=>∃k,z=.bl k /\
 (if k=true then tc σ H3 λw' H4=>r' y w' H4 Q else Q (.bl false) H3)
theorem FV{Yv:CmpOp}(ho:OpR X (compareOp op) r)(Yq:OpR X (compareOp Yv) r')(ha:PE X a ta)(hb:PE X b tb)(hc:PE X c tc)
  (hm:lastMarks [op,Yv] [b,c]=false:=by with_unfolding_all rfl):PE X (.Compare a [op,Yv] [b,c] pos) (Ah r r' ta tb tc):=by
 intro pins s σ H Q I h
 refine Compare_chain (thn 11#7 λv s1 ⟨x,H1,I1,r1,q1⟩=>chain_link (thn (hb _ s1 σ H1 _ I1 q1) λu s2 ⟨y,H2,I2,r2,q2⟩=>
  thn (ho _ s2 σ H2 x y v u _ I2 r1 r2 q2) λd s3 ⟨z,H3,I3,r3,k,e,q3⟩ =>?_)) hm
 subst e;cases r3;refine dO ?_;cases k with
 |false=>exact ite_ff ⟨.bl _,H3,I3,rfl,q3⟩
 |true=>exact ite_tt (chain_last (thn (hc _ s3 σ H3 _ I3 q3) λw' s4 ⟨z',H4,I4,r4,q4⟩=>Yq _ s4 σ H4 y z' u w' Q I4 r2 r4 q4))
theorem Gb{Yv:CmpOp}(ho:OpR X (compareOp op) r)(Yq:OpR X (compareOp Yv) r')(ha:PE X a ta)(hb:PE X b tb)(hc:PE X c tc)
  (hm:lastMarks [op,Yv] [b,c]=false:=by with_unfolding_all rfl):PT X (.Compare a [op,Yv] [b,c] pos) (Fo (Ah r r' ta tb tc)):=by
 intro pins s σ H Q I h
 refine isTrue_chain (thn 11#7 λv s1 ⟨x,H1,I1,r1,q1⟩=>test_link (thn (hb _ s1 σ H1 _ I1 q1) λu s2 ⟨y,H2,I2,r2,q2⟩=>
  thn (ho _ s2 σ H2 x y v u _ I2 r1 r2 q2) λd s3 ⟨z,H3,I3,r3,k,e,q3⟩ =>?_)) hm
 subst e;cases r3;refine dO ?_;cases k with
 | false=>
   obtain⟨k',e',q'⟩:=q3;cases e';exact ite_ff ⟨H3,I3,q'⟩
 | true=>
   refine ite_tt (test_last (thn (hc _ s3 σ H3 _ I3 q3) λw' s4 ⟨z',H4,I4,r4,q4⟩=>thn (Yq _ s4 σ H4 y z' u w' _ I4 r2 r4 q4) λd' s5 ⟨z2,H5,I5,r5,k2,e2,q5⟩=>?_));subst e2;cases r5;exact dO ⟨H5,I5,q5⟩
theorem nM:(sizeLine:Nat)<2^63:=by decide
theorem vals1(r:cu [x] us):∃u,us=[u]/\RelV x u:=by
 cases r with
 |cons r1 r2=>cases r2;exact⟨_,rfl,r1⟩
theorem vals2{y:V}(r:cu [x,y] us):∃u w',us=[u,w']/\RelV x u/\RelV y w':=by
 cases r with
 | cons r1 r2=>
   cases r2 with
   |cons r3 r4=>cases r4;exact⟨_,_,rfl,r1,r3⟩
theorem Cu(hc:X.calm=true):gF X (.builtin "max") (fun xs H Q=>∃ i j,xs=[.int i,.int j]/\Q (.int (if j>i then j else i)) H):=by
 intro pins s σ H xs us Q I r h;obtain⟨i,j,rfl,q⟩:=h;obtain⟨u,w',rfl,⟨t,rfl⟩,⟨t',rfl⟩⟩:=vals2 r;refine max_two_ints 8#1 λh' tk k=>⟨_,H,I.kept k,?_,q⟩;by_cases hj:j>i
 .rw[if_pos hj,if_pos hj];exact⟨_,rfl⟩
 .rw[if_neg hj,if_neg hj];exact⟨_,rfl⟩
theorem Ct(hc:X.calm=true):gF X (.builtin "min") (fun xs H Q=>∃ i j,xs=[.int i,.int j]/\Q (.int (if j<i then j else i)) H):=by
 intro pins s σ H xs us Q I r h;obtain⟨i,j,rfl,q⟩:=h;obtain⟨u,w',rfl,⟨t,rfl⟩,⟨t',rfl⟩⟩:=vals2 r;refine min_two_ints 8#1 λh' tk k=>⟨_,H,I.kept k,?_,q⟩;by_cases hj:j<i
 .rw[if_pos hj,if_pos hj];exact⟨_,rfl⟩
 .rw[if_neg hj,if_neg hj];exact⟨_,rfl⟩
end
structure Mt(h:Heap)(x dx C:Addr)(mA:Str->Option Value):Prop where
 obj:h.get? x=some (va C dx)
 ns:h.Ns1 dx mA
 ne:dx≠x
variable{mA:Str->Option Value}
theorem CB{dx:Addr}(n:h.Ns1 dx mA):∃od,h.get? dx=some od /\ ∀name,xU name od=some (mA name):=by
 obtain⟨o,es,ep,ho,hd,hk,_,hm⟩:=n;refine⟨o,ho,λname=>?_⟩;have e:=hm name;unfold nsFind findBy at e;rw[<-Array.find?_toList]at e;unfold xU;rw[hd];dsimp only
 split
 .grind
 .have a:es.toList.any (·.refKey)=false:=by
   rw[List.any_eq_false];intro y hy;obtain⟨z,t,Xu⟩:=hk y (Array.mem_toList_iff.mp hy);simp[DictEntry.refKey,Xu]
  grind
theorem Mt.look{x dx C:Addr}(I:Mt h x dx C mA):∃od,PySem.W.InstAt h x (va C dx) C (some od) /\ ∀name,xU name od=some (mA name):=
 let ⟨od,ho,hl⟩:=CB I.ns
 ⟨od,⟨I.obj,rfl,rfl,ho⟩,hl⟩
section
variable {prog:Program}{w:World}{A:Around}{E:Value->Shared->Prop}{s:Shared}{K:aj}{x dx C f:Addr}{mA:Str->Option Value}{name:Str}{v:Value}
end
theorem tj.some_of{v:V}{o:Option Value}(r:tj (some v) o):∃u,o=some u/\RelV v u:=by
 cases o with
 |none=>exact(r).elim
 |some u=>exact⟨u,rfl,r⟩
section
variable {P:Program}{w:World}{H H':Hp}{h h':Heap}{a C dx:Addr}{fs fs':List (Str×V)}
theorem Jn(hok:HOk P w H h)(e:H a=some (.ins C dx fs)):∃mA,Mt h a dx C mA/\(∀f,tj (fs.lookup f) (mA f))/\PySem.Within mA (fs.map (·.1))/\fs.length<=1000/\H dx=some (.own a):=by
 obtain⟨d,z,ne,ob,mA,n,r,q⟩:=(hok a _ e);exact⟨mA,⟨ob,n,ne⟩,r,q,z,d⟩
end
structure Cls(K:aj)(C:Addr):Prop where
 pg:PySem.W.plainGet K C xV=true
 hd:PySem.W.hasDictIn K C=true
 po:PySem.W.plainOver K C=true
 sa:PySem.W.findIn K (.ref C) "__setattr__"=some (some (.builtin "object.__setattr__"))
theorem Cls.get{C:Addr}(c:Cls K C)(f:Str):PySem.W.plainGet K C f=true:=c.pg
section
variable {X:Cx}{pins:List (Addr×Obj)}{σ:St}{H:Hp}{s:Shared}{a C dx:Addr}{fs:List (Str×V)}{f:Str}{v:V}{A:Around}{E:Value->Shared->Prop}
end
section
variable {X:Cx}{o e value:Expr}{f:Str}{pos pos' Uw:Pos}{ta tv:TE}
end
section
variable {X:Cx}{pins:List (Addr×Obj)}{σ:St}{H:Hp}{s:Shared}{A:Around}{E:Value->Shared->Prop}{Q:Value->Shared->Prop}{c:Value}{b:Bool}
inductive nZ(K:aj)(H:Hp):V->Value->Prop where
 |non:nZ K H .non (.type "NoneType")
 |bl (x:Bool):nZ K H (.bl x) (.type "bool")
 |int (i:Int):nZ K H (.int i) (.type "int")
 |str (x:Str):nZ K H (.str x) (.type "str")
 |flt (x:UInt64):nZ K H (.flt x) (.type "float")
 |lst {a:Addr}{xs:List V} (e:H a=some (.lst xs)):nZ K H (.ref a) (.type "list")
 |frz {a:Addr}{o:Obj}{xs:List V} (e:H a=some (.frz o (.lst xs))):nZ K H (.ref a) (.type "list")
 |tup {a:Addr}{xs:List V} (e:H a=some (.tup xs)):nZ K H (.ref a) (.type "tuple")
 |dK {a:Addr}{kvs:List (Key×V)} (e:H a=some (.dK kvs)):nZ K H (.ref a) (.type "dict")
 |dT {a:Addr}{kvs:List (List Key×V)} (e:H a=some (.dT kvs)):nZ K H (.ref a) (.type "dict")
 | ins {a C dx:Addr}{fs:List (Str×V)} (e:H a=some (.ins C dx fs)) (cl:Cls K C) (ha:PySem.W.findIn K (.ref C) "__class__"=some (some (.builtin "object.__class__")))
   (hn:PySem.W.specialIn K (.builtin "object.__class__") "__get__"=some (some (.builtin "getset_descriptor.__get__"))) (htk:PySem.W.takesIn K (.builtin "object.__class__")=some true)
   (hm:PySem.W.mroIn K C (.type "object")=some true):nZ K H (.ref a) (.ref C)
theorem Cs{t:Value}(I:Inv X pins σ H s)(rx:RelV x u)(ty:nZ X.K H x t)(e:cm X.K t c=some b)(h:∀tk,Q (.bool b) { s with toks:=tk }):
  aC 1#2 A (call (.builtin "isinstance") [u,c]) Q E s:=by
 cases ty with
 |non=>cases (rx);exact cH GX I.kIn fx e 10#5 h
 |bl y=>cases (rx);exact cH PySem.W.kitx_bool I.kIn fx e 10#5 h
 |int i=>obtain⟨t,q⟩:=(rx);cases q;exact cH PySem.W.kitx_int I.kIn fx e 10#5 h
 |str y=>obtain⟨t,q⟩:=(rx);cases q;exact cH PySem.W.kitx_str I.kIn fx e 10#5 h
 |flt y=>obtain⟨t,q⟩:=(rx);cases q;exact cH PySem.W.kitx_float I.kIn fx e 10#5 h
 | @lst a xs ea=>
   cases (rx);obtain⟨_,_,n,_,h1⟩:=(I.hok a _ ea);exact cH GY I.kIn ⟨_,h1,rfl⟩ e 10#5 h
 | @frz a ob xs ea=>
   cases (rx);obtain⟨_,_,_,n,_,h1⟩:=(I.hok a _ ea);exact cH GY I.kIn ⟨_,h1,rfl⟩ e 10#5 h
 | @tup a xs ea=>
   cases (rx);obtain⟨_,_,_,p⟩:=(I.hok a _ ea);obtain⟨o,h1,h2,_⟩:=p.1;exact cH PySem.W.kitx_tuple I.kIn ⟨o,h1,h2⟩ e 10#5 h
 | @dK a kvs ea=>
   cases (rx);obtain⟨_,_,vs,_,p⟩:=(I.hok a _ ea);obtain⟨o,es,ep,h1,h2,_⟩:=p;exact cH GZ I.kIn ⟨o,h1,h2.1⟩ e 10#5 h
 | @dT a kvs ea=>
   cases (rx);obtain⟨_,_,xs,_,o,es,ep,h1,h2,_⟩:=(I.hok a _ ea);exact cH GZ I.kIn ⟨o,h1,h2.1⟩ e 10#5 h
 | @ins a C dx fs ea cl ha hn htk hm=>
   cases (rx);obtain⟨mA,O,_⟩:=Jn I.hok ea;obtain⟨od,J,_⟩:=O.look;exact cH (PySem.W.kitx_own (cl.get _) cl.hd ha hn htk hm) I.kIn J e 10#5 h
end
structure ke(k:Nat)(A:Around):Prop where
 hd:A.handled=none
 dp:A.depth+3*k+5<recursionLimit
 un:A.units+16*k+200<cLine
 gu:A.guards=some []
theorem ke.mono{j k:Nat}(r:ke k A)(h:j<=k):ke j A:=⟨r.hd,by have:=r.dp;omega,by have:=r.un;omega,r.gu⟩
theorem ke.deeper{k:Nat}(r:ke (k+1) A)(env:Env):ke k (A.deeper env):=
 ⟨r.hd,by have:=r.dp;show A.depth+1+3*k+5<_;omega,by have:=r.un;show A.units+3+16*k+200<_;omega,r.gu⟩
theorem ke.depth{k:Nat}(r:ke k A):A.depth<recursionLimit:=by have:=r.dp;omega
theorem ke.units{k:Nat}(r:ke k A):A.units+64<cLine:=by have:=r.un;omega
def Cc:TA:=λ_ H Q=>Q [] H
def vW(ta:TE)(tr:TA):TA:=λσ H Q=>ta σ H λx H1=>tr σ H1 λxs H2=>Q (x::xs) H2
section
variable {X:Cx}{e:Expr}{es:List Expr}{te:TE}{t:TA}{pos:Pos}
theorem wu:PA X [] Cc:=λ_ _ _ _ H Q I h=>eR ⟨[],H,I,.nil,h⟩
theorem jG(ha:PE X e te)(hr:PA X es t)(hs:autoParam 9#9 1#8):PA X 2#0 (vW te t):=by
 intro pos pins s σ H Q I h;rw[hs];refine dq (thn 11#7 λu s1 ⟨x,H1,I1,r1,q1⟩=>?_);exact thn (hr _ _ s1 σ H1 _ I1 q1) λus s2 ⟨xs,H2,I2,r2,q2⟩=>⟨_,H2,I2,.cons r1 r2,q2⟩
def PN(t:TA):TE:=λσ H Q=>t σ H λxs H1=>1#5<=sizeLine /\ ∀p,H1 p=none->Q (.ref p) (upd H1 p (.tup xs))
def Ny(t:TA):TE:=λσ H Q=>t σ H λxs H1=>1#5<=sizeLine /\ ∀p,H1 p=none->Q (.ref p) (upd H1 p (.lst xs))
theorem LQ{x1}(h:PA X es t):PE X (.Tuple es x1 pos) (PN t):=by
 intro pins s σ H Q I hq;refine wpAny_Tuple_spliced (thn (h _ _ s σ H _ I hq) λus s1 ⟨xs,H1,I1,r,z,q⟩=>⟨by rw[<- 9#8];omega,?_⟩);have hf:=I1.hok.fresh 1#9;refine⟨.ref _,_,I1.laid (λb u e=>ag _ e) 1#9 ?_,rfl,q _ hf⟩;exact⟨z,us,r,⟨_,aw _ rfl,rfl,_,rfl⟩,_,aw _ rfl,rfl⟩
theorem Nb(h:PA X es t):PE X (.List es pos) (Ny t):=by
 intro pins s σ H Q I hq;refine wpAny_List_spliced (thn (h _ _ s σ H _ I hq) λus s1 ⟨xs,H1,I1,r,z,q⟩=>⟨by rw[<- 9#8];omega,?_⟩);have hf:=I1.hok.fresh 1#9;refine⟨.ref _,_,I1.laid (λb u e=>ag _ e) 1#9 ?_,rfl,q _ hf⟩;exact⟨z,us,0,r,aw _ rfl⟩
end
abbrev Sp:=List V->Hp->VK->XK->Prop
abbrev CXT:=List Env->Hp->Shared->XK->Value->Shared->Prop
structure Do(P:Program)(w:World)(K:aj)(mg:Str->Option Value)(base:Heap)(A:Around)(outer:List Env)(s:Shared)(H:Hp):Prop where
 frames:A.frames=some outer
 mod:Mod K mg base
 bs:∀b o,base.get? b=some o->s.heap.get? b=some o/\H b=none
 bsz:base.objs.size<=s.heap.objs.size
 funs:s.heap.FunFrames base outer
 frf:∀b∈frs outer,H b=none
 hok:HOk P w H s.heap
 bare:AllBare s.gens
def CE(outer:List Env)(P:Program)(w:World)(H:Hp)(s:Shared)(Q:VK)(u:Value)(s':Shared):Prop:=
 ∃v H',s'.os=s.os/\AllBare s'.gens/\Un (frs outer) [] H H' s.heap s'.heap/\HOk P w H' s'.heap/\RelV v u/\Q v H'
def CR(CX:CXT)(outer:List Env)(P:Program)(w:World)(H:Hp)(s:Shared)(Q:VK)(E:XK)(r:Result)(s':Shared):Prop:=
 match r with
 |.ok (.ret u)=>CE outer P w H s Q u s'
 |.ok _=>False
 |.error e=>CX outer H s E e s'
structure FnOk(P:Program)(w:World)(K:aj)(mg:Str->Option Value)(base:Heap)(CX:CXT)(k:Nat)(f:Addr)(fd:FuncData)(ps:List Str)(sp:Sp):Prop where
 len:∀vs H Q E,sp vs H Q E->vs.length=ps.length
 run:∀(A:Around) (outer:List Env) (s:Shared) (H:Hp) (args:Args) (us:List Value) (vs:List V) (Q:VK) (E:XK),ke k A->Do P w K mg base A outer s H->BindsTo s fd args (ps.zip us)->cu vs us->sp vs H Q E ->
  j4 (model P w) A (.call (.ref f) args) (CR CX outer P w H s Q E) s
variable{f:Addr}{mg:Str->Option Value}{base:Heap}{CX:CXT}{fd:FuncData}{ps:List Str}
theorem FnOk.imp{k:Nat}{sp SK:Sp}(F:FnOk P w K mg base CX k f fd ps sp)
  (h:∀vs H Q E,SK vs H Q E->sp vs H Q E):FnOk P w K mg base CX k f fd ps SK:=
 ⟨λvs H Q E q=>F.len vs H Q E (h _ _ _ _ q),λA outer s H args us vs Q E hr he hb hv hs=>F.run A _ s H _ us vs Q E hr he hb hv (h _ _ _ _ hs)⟩
section
variable {X:Cx}{pins:List (Addr×Obj)}{σ:St}{H:Hp}{s s':Shared}
theorem Inv.env0(I:Inv X pins σ H s):Do X.prog X.w X.K X.mg X.base X.A X.stack s H:=
 ⟨I.ok.frames,I.ok.mod,I.bs,aE I.ok.bsz I.sz,I.stack,I.stkFree,I.hok,I.bare⟩
theorem Inv.after{Q:VK}(I:Inv X pins σ H s)(h:CE X.stack X.prog X.w H s Q u s'):EP X pins σ Q u s':=by
 obtain⟨v,H',os,bare,un,hok,r,q⟩:=h;obtain⟨hh,g,d,t,os'⟩:=s';obtain rfl:os'=s.os:=os;exact⟨v,H',I.call un hok bare (λb z=>absurd z 0#4),r,q⟩
end
def BJ(sp:Sp)(W':List V)(E:XK)(t:TA):TE:=λσ H Q=>t σ H λvs H1=>sp (vs++W') H1 Q E
def Binds(K:aj)(fd:FuncData)(ps:List Str)(ds:List Value):Prop:=
 ∀(s:Shared) (us:List Value),K.In s.heap->(us++ds).length=6#2->BindsTo s fd ⟨us,[]⟩ (ps.zip (us++ds))
theorem Binds.all(h:∀us:List Value,0#9=6#2->bindArgs fd ⟨us,[]⟩=pure (ps.zip us)):Binds K fd ps []:=λs us _ hl=>by
 rw[ig]at hl ⊢;exact .of_eq (h us hl)
def uf(CX:CXT)(X:Cx)(E:XK):Prop:= ∀(pins:List 2#5) (σ:St) (H:Hp) (s:Shared) (e:Value) (s':Shared),Inv X pins σ H s->CX X.stack H s E e s'->X.xe e s'
section
variable {X:Cx}{CX:CXT}{k:Nat}{f C:Addr}{fd:FuncData}{ps:List Str}{sp:Sp}{W':List V}{ds:List Value}{E:XK}{x m:Str}{p pos apos:Pos}{e o:Expr}{es:List Expr}{ta:TE}{t:TA}
theorem oh{Q:VK}{vs:List V}(F:FnOk X.prog X.w X.K X.mg X.base CX k f fd ps sp)(hr:ke k X.A)(hb:Binds X.K fd ps ds)(hd:cu W' ds)(hx:uf CX X E)
  (I:Inv X pins σ H s) (r:cu vs us) (h:sp (vs++W') H Q E):aC 1#2 X.A (call (.ref f) us) 8#8 X.xe s:=by
 have r2:=r.append hd;have hl:(us++ds).length=6#2:=by rw[<-r2.length];exact F.len _ _ _ _ h
 refine xW (fj (F.run _ _ s H _ _ _ Q E hr I.env0 (hb s us I.kIn hl) r2 h) λr s' hq=>?_);cases r with
 |error e=>exact hx _ σ H s e s' I hq
 | ok fl=>
   cases fl with
   |ret u=>exact I.after hq
   |next=>exact bO hq
   |brk=>exact bO hq
   |cont=>exact bO hq
theorem xD(F:FnOk X.prog X.w X.K X.mg X.base CX k f fd ps sp)(hr:ke k X.A)(hg:Gl X x)(hm:X.mg x=some (.ref f))(hk:cJ X.K (.ref f)=true)(hb:Binds X.K fd ps ds)(hd:cu W' ds)(hx:uf CX X E)
  (ha:PA X 2#0 t) (WG:autoParam (7#7=false) 9#7) (he:autoParam 9#9 1#8) (ZL:autoParam 12#8 1#8) :
  PE X (.Call (.Name x p) 2#0 [] pos) (BJ sp W' E t):=by
 intro pins s σ H Q I h;refine cN (i7 I hg hm ?_ WG);refine j0 I.ok.mod.kin hk (thn (ha _ _ s σ H _ I h) λus s1 ⟨vs,H1,I1,r,q⟩=>⟨I1.kIn,?_⟩) he ZL;exact oh F hr hb hd hx I1 r q
theorem Ei(F:FnOk X.prog X.w X.K X.mg X.base CX k f fd ps sp)(hr:ke k X.A)(hg:Gl X x)(hm:X.mg x=some (.ref f))(hk:cJ X.K (.ref f)=true)(hb:Binds X.K fd ps ds)(hd:cu W' ds)(hx:uf CX X E)
  (WG:autoParam (7#7=false) 9#7):PE X (.Call (.Name x p) [] [] pos) (BJ sp W' E Cc):=by
 intro pins s σ H Q I h;refine cN (i7 I hg hm ?_ WG);exact DD I.kIn hk (oh F hr hb hd hx I .nil h)
end
section
variable {X:Cx}{CX:CXT}{k:Nat}{f C:Addr}{fd:FuncData}{ps ks:List Str}{sp:Sp}{E:XK}{x m:Str}{p pos apos kpos:Pos}{e o:Expr}{es:List Expr}{Vl:List Keyword}{te ta:TE}{t tk:TA}{nm:Option Str}
variable {g:List Value->List Value->List Value}{gV:List V->List V->List V}
end
structure aQ(N P:List Str)(sc:Scope):Prop where
 kind:sc.kind=.function
 co:sc.isCoroutine=false
 gen:sc.isGenerator=false
 nd:N.Nodup
 pre:N.take P.length=P
 par:∀x∈P,sc.names.lookup x=some .local\/sc.names.lookup x=some .cell
 nofree:∀y∈sc.names,y.2≠.free
theorem vM{kindOf:Str->Option NameKind}{x:Str}:∀{binds:List (Str×Value)}{m:Str->Option Value},(∀v,(x,v)∉binds)->bindL kindOf binds m x=m x
 |[],_,_=>rfl
 | (n,v)::r,m,h=>by
   unfold bindL;rw[vM λw hw=>h w (ay _ hw)]
   split<;>grind
theorem vg{kindOf:Str->Option NameKind}{x:Str}:∀{binds:List (Str×Value)}{m:Str->Option Value},(∀v,(x,v)∉binds)->bindC kindOf binds m x=m x
 |[],_,_=>rfl
 | (n,v)::r,m,h=>by
   unfold bindC;rw[vg λw hw=>h w (ay _ hw)]
   split<;>grind
theorem qb{kindOf:Str->Option NameKind}{x:Str}{v:Value}:∀{P:List Str}{vs:List Value}{i:Nat}{m:Str->Option Value},P.Nodup->P[i]?=some x->vs[i]?=some v->kindOf x=some .local ->
  bindL kindOf (P.zip vs) m x=some v
 |[],_,_,_,_,h,_,_=>by simp at h
 |_::_,[],_,_,_,_,h,_=>by simp at h
 | p::P,w::vs,0,m,nd,h1,h2,hk=>by
   simp at h1 h2;subst h1;subst h2;show bindL _ ((p,w)::P.zip vs) m p=_;unfold bindL;rw[vM λv hv=>(eS.mp nd).1 (jN hv).1,if_pos hk];simp
 | p::P,w::vs,i+1,m,nd,h1,h2,hk=>by
   unfold bindL;exact qb (eS.mp nd).2 (by simpa using h1) (by simpa using h2) hk
theorem pO{kindOf:Str->Option NameKind}{x:Str}{v:Value}:∀{P:List Str}{vs:List Value}{i:Nat}{m:Str->Option Value},P.Nodup->P[i]?=some x->vs[i]?=some v->kindOf x≠some .local ->
  bindC kindOf (P.zip vs) m x=some v
 |[],_,_,_,_,h,_,_=>by simp at h
 |_::_,[],_,_,_,_,h,_=>by simp at h
 | p::P,w::vs,0,m,nd,h1,h2,hk=>by
   simp at h1 h2;subst h1;subst h2;show bindC _ ((p,w)::P.zip vs) m p=_;unfold bindC;rw[vg λv hv=>(eS.mp nd).1 (jN hv).1,if_neg hk];simp
 | p::P,w::vs,i+1,m,nd,h1,h2,hk=>by
   unfold bindC;exact pO (eS.mp nd).2 (by simpa using h1) (by simpa using h2) hk
def start(N:List Str)(vs:List V):St:=vs.map some++bx (N.length-2#8) none
def qo(CX:CXT)(P:Program)(w:World)(K:aj)(mg:Str->Option Value)(base:Heap)(N:List Str)(qual:Str)(scope:Scope)(f:Addr)(cd:Value)(A:Around)(outer:List Env)(s:Shared)(H:Hp)(E:XK):Cx where
 prog:=P
 w:=w
 K:=K
 mg:=mg
 base:=base
 A:=A.deeper (envOfC qual scope s.heap.objs.size f cd)
 N:=N
 s₀:=s
 H₀:=H
 env:=envOfC qual scope s.heap.objs.size f cd
 outer:=outer
 stack:=envOfC qual scope s.heap.objs.size f cd::outer
 ex:= []
 calm:=true
 fn:=λ_=>true
 pn:= []
 xe:=λe s'=>aC (model P w) (A.deeper (envOfC qual scope s.heap.objs.size f cd)) (leaving (envOfC qual scope s.heap.objs.size f cd) e) (λ_ s''=>CX outer H s E e s'') (λe' s''=>CX outer H s E e' s'') s'
theorem jr{sc:Scope}{x:Str}(h:sc.names.lookup x=some .cell):∃c,(cellsFrom n sc.names []).lookup x=some c:=by
 have q:=iC _ n [] (.inl h);exact cM.mp q
variable{qual:Str}{scope:Scope}
theorem Cq{N:List Str}{cd:Value}{outer:List Env}{s1:Shared}{E:XK}{vs:List V}
  (S:aQ N ps scope) (hd:A.handled=none) (e0:Do P w K mg base A outer s H) (hl:2#8=6#2) (r:cu vs us)
  (x:InCallC s s.heap.objs.size (bindL (envOfC qual scope s.heap.objs.size f cd).kindOf (ps.zip us) λ_=>none) (cellsFrom (0#8+1) scope.names []) (bindC (envOfC qual scope s.heap.objs.size f cd).kindOf (ps.zip us) λ_=>none) s1):
  Inv (qo CX P w K mg base N qual scope f cd A outer s H E) [] (start N vs) H s1:=by
 have ZL:6#2<=N.length:=by have:=congrArg xX S.pre;grind
 obtain⟨h1,tk,rfl,hk⟩:=x.done;have noA:∀b,b∉(qo CX P w K mg base N qual scope f cd A outer s H E).ex:=λb z=>absurd (show b∈[] from z) 0#4
 refine⟨⟨e0.mod,S.kind,rfl,rfl,ar _,λy z c h1 h2 =>?_,λy hy =>?_,λy c _ h =>?_,λ_=>hd,DE e0.frames,.inr ⟨rfl,rfl⟩,λb z=>absurd z (noA b),e0.bs,e0.bsz,λb _ _=>noA b,λb z=>absurd z (noA b),e0.funs,e0.frf⟩,
  rfl,e0.bare,Un.kept hk,⟨_,x.toInCall.ns,λi y v h1 h2 h3 =>?_⟩,λy c h=>⟨_,x.cell y c h⟩,e0.hok.fresh (ar _),λy c h =>?_,λp hp=>absurd (show p∈[] from hp) (by simp),e0.hok.kept hk,?_⟩
 .exact name_of_addr x.apart (bR h1) (bR h2)
 .rcases hy with hy|hy
  .exact jr hy
  .exact absurd rfl (S.nofree _ (bR hy))
 .exact aN (x.above y c (bR h))
 .have hi:i<2#8:=by
   unfold start at h2;by_cases hi:i<2#8
   .omega
   .rw[bP (by simpa using hi)]at h2
    rw[iD]at h2<;>simp_all
  have ha:vs[i]?=some v:=by
   unfold start at h2;rw[aW _]at h2<;>simp_all
  obtain⟨u,hu,rv⟩:=r.get ha;have hp:ps[i]?=some y:=by
   rw[<-S.pre,List.getElem?_take_of_lt 0#2];exact h1
  have Vp:ps.Nodup:=by rw[<-S.pre];exact S.nd.sublist (List.take_sublist _ _)
  refine⟨u,rv,?_⟩;rcases S.par y (dc hp) with k|k
  .exact .inl ⟨k,qb Vp hp hu k⟩
  .obtain⟨c,e⟩:=jr k
   refine .inr ⟨.inl k,c,e,?_⟩;have q:=x.cell y c e;rw[pO Vp hp hu (by show scope.names.lookup y≠_;rw[k];decide)]at q;omega
 .exact e0.hok.fresh (aN (x.above y c (bR h)))
 .unfold start
  show _=N.length
  grind
theorem vt{k:Nat}{name:Str}{params:Arguments}{body:List Stmt}{dV kV doc pm cdv ct oc:Value}{an od:Option Addr}
  {osl:Array (Option Value)}{N:List Str}{sp:Sp} (lk:K.lookup f=some ⟨oc,od,.func (cU name qual params body scope dV kV doc pm an cdv ct),osl⟩) (ZD:gf K cdv qual=true) (S:aQ N ps scope)
  (len:∀vs H Q E,sp vs H Q E->2#8=6#2)
  (ZM: ∀(A:Around) (outer:List Env) (s:Shared) (H:Hp) (vs:List V) (Q:VK) (E:XK),ke k (A.deeper (envOfC qual scope s.heap.objs.size f cdv))->sp vs H Q E ->
   ∃t,PSs (qo CX P w K mg base N qual scope f cdv A outer s H E) body t/\t { nx:=λ_ H'=>Q .non H',rt:=Q } (start N vs) H):
  FnOk P w K mg base CX (k+1) f (cU name qual params body scope dV kV doc pm an cdv ct) ps sp:=by
 refine⟨len,λA outer s H args us vs Q E hr e0 hb r Zh=>?_⟩;have hl:=len _ _ _ _ Zh;have KX:=e0.mod.kin.keeps λb o e=>(e0.bs b o e).1;have lim:=e0.mod.nolimit.keeps λb o e=>(e0.bs b o e).1;have Vx:∀y∈ps.zip us,scope.names.lookup y.1=some _\/(scope.names.lookup y.1=some _/\((cellsFrom (0#8+1) _ []).lookup y.1).isSome=true):=fun⟨n,v⟩ hy=>by
  rcases S.par n (jN hy).1 with q|q
  .exact .inl q
  .exact .inr ⟨q,iC _ _ _ (.inl q)⟩
 refine codeAny_call_function hr.depth (KX _ _ lk) rfl S.co S.gen rfl (PySem.W.codeRec_of KX ZD) (hb _ _ _ _ ?_);refine wpAny_newFunctionEnv_cells S.kind Vx λenv he s1 x=>?_;subst he;refine⟨lim.keeps x.toInCall.keep,codeAny_func ?_⟩;obtain⟨t,ht,hq⟩:=ZM A _ s H vs Q E (hr.deeper _) Zh;have I:Inv (qo CX P w K mg _ N _ _ f _ A _ s H E) [] _ H s1:=Cq S hr.hd e0 hl r x;refine bK (ht [] s1 _ H _ I hq) (λfl s' hs=>?_) λe s' hs=>hs;have fin:∀{Y1:St}{H':Hp}{v:V}{u:Value},Inv (qo CX P w K mg base N qual scope f cdv A _ s H E) [] Y1 H' s'->RelV v u->Q v H'->CE outer P w H s Q u s':=
  λ{Y1 H' v u} J rv q=>⟨v,H',J.os,J.bare,J.base,J.hok,rv,q⟩
 cases fl with
 | ret u=>
   obtain⟨v,Y1,H',J,rv,q⟩:=hs;exact fin J rv q
 | next=>
   obtain⟨Y1,H',J,q⟩:=hs;exact fin (v:=V.non) J rfl q
 | brk=>
   obtain⟨_,_,_,q⟩:=hs<;>simp_all
 | cont=>
   obtain⟨_,_,_,q⟩:=hs<;>simp_all
section
variable {X:Cx}{x:Str}{p pos:Pos}{e:Expr}{es:List Expr}{t:TA}{id T:String}{r:List V->Hp->VK->Prop}
def tCB(r:List V->Hp->VK->Prop)(t:TA):TE:=λσ H Q=>t σ H λvs H1=>r vs H1 Q
theorem jo(hc:gF X (.builtin id) r)(hg:Gl X x)(hm:X.mg x=none)(hv:bootBuiltins x=some (.builtin id))(ha:PA X 2#0 t)(hn:autoParam (x≠"__name__") 9#7)(WG:autoParam (7#7=false) 9#7)
  (he:autoParam 9#9 1#8) (ZL:autoParam 12#8 1#8):PE X (.Call (.Name x p) 2#0 [] pos) (tCB r t):=by
 intro pins s σ H Q I h;refine cN (hU I hg hm hv ?_ hn WG);exact pJ (thn (ha _ _ s σ H _ I h) λus s1 ⟨vs,H1,I1,r1,q1⟩=>hc _ s1 σ H1 vs us Q I1 r1 q1) he ZL
theorem mL(hc:gF X (.type T) r)(hg:Gl X x)(hm:X.mg x=none)(hv:bootBuiltins x=some (.type T))(ha:PA X 2#0 t)(hn:autoParam (x≠"__name__") 9#7)(WG:autoParam (7#7=false) 9#7)
  (he:autoParam 9#9 1#8) (ZL:autoParam 12#8 1#8):PE X (.Call (.Name x p) 2#0 [] pos) (tCB r t):=by
 intro pins s σ H Q I h;refine cN (hU I hg hm hv ?_ hn WG);exact bB (thn (ha _ _ s σ H _ I h) λus s1 ⟨vs,H1,I1,r1,q1⟩=>hc _ s1 σ H1 vs us Q I1 r1 q1) he ZL
end
end _L
namespace HT
open PySem PyProof.Rows
section
open PySem.SeqAt
open PySem.AutoSeq1 (wpAny_loadPart')
open PySem.MeetsSeq PySem.MeetsSeq2 PySem.MeetsSeq3
end
section
variable {prog:Program}{w:World}{A:Around}{E:Value->Shared->Prop}{s:Shared}
variable{Q:Value->Shared->Prop}
theorem cat_tup{t b:Addr}{vs ws:List Value}(ht:IsTup s.heap t vs.toArray)(hb:IsTup s.heap b ws.toArray)(hv:vs≠[])
  (h1:ws=[]->Q (.ref t) s) (h2:ws ≠ []->Q 7#4 { s with heap:=s.heap.push { cls := .type "tuple",data := .seq (vs++ws).toArray } })
  (ZN:2#8+ws.length<=sizeLine):aC 2#1 A (binaryOp .Add (.ref t) (.ref b)) Q E s:=by
 obtain⟨⟨cls,dd,data,sl⟩,ho,hc,n,hd⟩:=id ht;obtain⟨⟨Ug,dd2,data2,sl2⟩,XZ,Xm,n2,hd2⟩:=id hb;subst hc hd Xm hd2;have e:vs.toArray++ws.toArray=(vs++ws).toArray:=by simp
 by_cases hw:ws=[]
 .exact concat_meets ⟨_,ho,rfl⟩ ⟨_,XZ,rfl⟩ noFill_tuple_add seq_tuple_add mB lq (kR _ _)
   (tuple_addW1 t b _ _ n n2 dd _ sl _ (by simpa using hv) (by simp[hw])) ⟨ho,XZ,h1 hw⟩
 .refine concat_meets ⟨_,ho,rfl⟩ ⟨_,XZ,rfl⟩ noFill_tuple_add seq_tuple_add mB lq (kR _ _)
   (tuple_addW2 t b _ _ n n2 dd _ sl _ (by simpa using hv) (by simpa using hw) 0#2) ⟨ho,XZ,?_⟩
  rw[e];exact h2 hw
def sIx(n d:Nat):Option Int->Nat
 |none=>d
 |some v=>if v<0 then(v+(n:Int)).toNat else min v.toNat n
theorem sIx_nat(n d k:Nat):sIx n d (some (k:Int))=min k n:=by
 show(if k<0 then(k+(n:Int)).toNat else min _ n)=min k n
 simp_all
theorem Q1(n d:Nat)(hd:d<=n)(o:Option Int):sIx n d o<=n:=by
 cases o with
 |none=>exact hd
 | some v=>
   show(if v<0 then(v+n).toNat else min _ n)<=n
   grind
theorem BF(v:Int)(n d:Nat):(if v<0 then max (v+(n:Int)) 0 else min v (n:Int))=((sIx n d (some v):Nat):Int):=by
 show(if v<0 then max _ 0 else min v _)=(((if v<0 then(v+n).toNat else min _ n)))
 grind
theorem AZ(lo hi:Option Int)(n:Nat):fO lo hi 1 (n:Int)=(((sIx n 0 lo:Nat):Int),((sIx n n hi:Nat):Int)):=by
 refine Prod.ext ?_ ?_
 .cases lo with
  |none=>rfl
  |some v=>exact BF v n 0
 .cases hi with
  |none=>rfl
  |some v=>exact BF v n n
theorem Au(i j:Nat):dB (i:Int) (j:Int) 1=j-i:=by
 unfold dB
 grind
theorem tL{v:Value}{o:Option Int}{Q:Option Int->Shared->Prop}(p:IsPart v o)(h:Q o s):aC 2#1 A (Builtin.Slice.slicePartIndex v) Q E s:=by
 cases p with
 |none=>exact slicePart_none h
 |int i t=>exact slicePart_int h
theorem ki{sl:Addr}{vl vu:Value}{lo hi:Option Int}{n:Nat}{Q:Int×Int×Nat->Shared->Prop}(hs:s.heap.IsSliceOf sl vl vu .none)(pl:IsPart vl lo)(pu:IsPart vu hi)
  (h:Q (((sIx n 0 lo:Nat):Int),1,sIx n n hi-sIx n 0 lo) s):aC 2#1 A (rL (.ref sl) (pure (n:Int))) Q E s:=by
 obtain⟨os,YH,YW,XO⟩:=id hs;refine af (af (bf YH XO (x:=vl) rfl (af (bf YH XO (x:=vu) rfl (af (bf YH XO rfl (av ?_)))))));refine af (slicePart_none ?_);refine af (tL pl (af (tL pu (af (av ?_)))));show aC _ _ (match fO lo hi 1 _ with | (lo,hi)=>pure (lo,(1:Int),dB lo hi 1)) _ _ s;rw[AZ lo hi n];show aC _ _ (pure _) _ _ s;rw[Au];exact av h
theorem DZ(xs:Array Value)(i k:Nat):((aB k).filterMap λ(m:Nat)=>xs[((i:Int)+(m:Int)*1).toNat]?).toArray=((xs.toList.drop i).take k).toArray:=by
 have e:(λ(m:Nat)=>xs[(i+(m:Int)*1).toNat]?)=λm=>xs[i+m]? := by
  grind
 have:=pick_run xs i k;have e2:((λx=>xs[x]?)∘λx=>i+x)=λm=>xs[i+m]? := rfl
 simp_all
theorem getItem_tuple_cut{t sl:Addr}{items:Array Value}{vl vu:Value}{lo hi:Option Int}(ht:IsTup s.heap t items)(hs:s.heap.IsSliceOf sl vl vu .none)(pl:IsPart vl lo)(pu:IsPart vu hi)
  (hw: ¬(sIx items.size 0 lo=0/\sIx items.size items.size hi=4#6))
  (h:Q 7#4 { s with heap:=s.heap.push { cls := .type "tuple",data := .seq ((items.toList.drop (sIx items.size 0 lo)).take (sIx items.size items.size hi-sIx items.size 0 lo)).toArray } })
  (ZN:4#6<=sizeLine):aC 2#1 A (getItem (.ref t) (.ref sl)) Q E s:=by
 have Yk:=by
  show((items.toList.drop (sIx items.size 0 lo)).take (sIx items.size items.size hi-sIx items.size 0 lo)).toArray.size<=sizeLine;rw[bg,eu,gH,fg];omega
 obtain⟨os,YH,YW,XO⟩:=id hs;have W1:s.TypeIs (.ref sl) _:=⟨os,YH,YW⟩;unfold getItem
 try with_reducible refine dM ?_
 refine af (zP ht.typeIs 0#1 ?_)
 refine af (bC ht.typeIs cW
  (cf cW ht.typeIs entry_tuple_getitem ?_ (args_tuple_getitem _ _)))
 show aC _ _ (jb _ >>= _) _ _ s;refine af (tupleItemsOf_ ht ?_);refine af (jt W1 ?_);refine af (ki hs pl pu ?_);have Ua: ¬((((sIx items.size 0 lo):Int)==0&&(1:Int)==1&&(sIx items.size items.size hi-sIx items.size 0 lo)==4#6)=true):=by
  grind
 show aC _ _ (if (((sIx _ 0 lo):Int)==0&&1==1&&(sIx _ _ hi-sIx _ 0 lo)==4#6)=true then _ else _) _ _ s;rw[if_neg Ua,DZ]
 first
  |exact af (cj (av ⟨_,rfl,av h⟩) Yk)
  |grind
  |grind
  |grind
end
end HT
namespace _L
open PySem PySem.Spec PyProof.Rows
abbrev TO:=St->Hp->(Option Int->Hp->Prop)->Prop
def PO(X:Cx)(e:Option Expr)(t:TO):Prop:=
 ∀(pins:List 2#5) (s:Shared) (σ:St) (H:Hp) (Q:Option Int->Hp->Prop),Inv X pins σ H s->t σ H Q ->
  aC 1#2 X.A (evalPart e X.env) (λu s'=>∃o H',Inv X pins σ H' s'/\IsPart u o/\Q o H') X.xe s
def B2:TO:=λ_ H Q=>Q none H
def J3(t:TE):TO:=λσ H Q=>t σ H λx H1=>∃i,x=.int i/\Q (some i) H1
section
variable {X:Cx}{e:Expr}{te:TE}{lo hi:Option Expr}{tl th:TO}{pos p2:Pos}
theorem Hq:PO X none B2:=by
 intro pins s σ H Q I h;exact av ⟨_,H,I,.none,h⟩
theorem Jf(h:PE X e te):PO X (some e) (J3 te):=by
 intro pins s σ H Q I hw;refine thn (h _ s σ H _ I hw) λu s1 ⟨x,H1,I1,r1,q1⟩=>?_;obtain⟨i,rfl,q⟩:=q1;obtain⟨t,rfl⟩:=r1;exact⟨_,H1,I1,.int i t,q⟩
def SlR(X:Cx)(r:V->Option Int->Option Int->Hp->VK->Prop):Prop:=
 ∀(pins:List 2#5) (s:Shared) (σ:St) (H:Hp) (x:V) (v vl vu:Value) (lo hi:Option Int) (sl:Addr) (Q:VK),Inv X pins σ H s->RelV x v->s.heap.IsSliceOf sl vl vu .none->IsPart vl lo->IsPart vu hi->r x lo hi H Q ->
  ∃ T id,typeLookup (.type T) "__getitem__"=pure (some (.builtin id))/\s.TypeIs v T/\aC 1#2 X.A (getItem v (.ref sl)) 8#8 X.xe s
variable{r:V->Option Int->Option Int->Hp->VK->Prop}
theorem SlR.or{r':V->Option Int->Option Int->Hp->VK->Prop}(h:SlR X r)(h':SlR X r'):SlR X (λx lo hi H Q=>r x lo hi H Q\/r' x lo hi H Q):=by
 intro pins s σ H x v vl vu lo hi sl Q I rx hs pl pu q;rcases q with q|q
 .exact h _ s σ H x v vl vu lo hi sl Q I rx hs pl pu q
 .exact h' _ s σ H x v vl vu lo hi sl Q I rx hs pl pu q
def tSl(r:V->Option Int->Option Int->Hp->VK->Prop)(te:TE)(tl th:TO):TE:=λσ H Q=>te σ H λx H1=>tl σ H1 λl H2=>th σ H2 λu H3=>r x l u H3 Q
theorem Et(hr:SlR X r)(he:PE X e te)(hl:PO X lo tl)(hu:PO X hi th):PE X (.Subscript e (.Slice lo hi none p2) pos) (tSl r te tl th):=by
 intro pins s σ H Q I h;refine Subscript_ (thn (he _ s σ H _ I h) λv s1 ⟨x,H1,I1,r1,q1⟩=>?_);refine wpAny_Slice (thn (hl _ s1 σ H1 _ I1 q1) λvl s2 ⟨l,H2,I2,pl,q2⟩=>thn (hu _ s2 σ H2 _ I2 q2) λvu s3 ⟨u,H3,I3,pu,q3⟩=>?_);refine av ?_;have I4:Inv X _ σ H3 { s3 with heap:=s3.heap.push { cls := .type "slice",data := .fields #[vl,vu,.none] } }:=I3.kept fun b ob q=>ag _ q;obtain⟨T,id,hT,ht,hg⟩:=hr _ _ σ H3 x v vl vu l u _ Q I4 r1 (mU ..) pl pu q3;exact tail_any ht hT hg (by with_unfolding_all rfl)
def Cy(xs:List V)(lo hi:Option Int):List V:=(xs.drop (HT.sIx xs.length 0 lo)).take (HT.sIx xs.length xs.length hi-HT.sIx xs.length 0 lo)
theorem qQ(xs:List V)(lo hi:Option Int):(Cy xs lo hi).length<=1#5:=by
 unfold Cy;rw[eu,gH];omega
def Qd(K:aj):V->Option Int->Option Int->Hp->VK->Prop:=λx lo hi H Q=>∃a xs,x=.ref a/\SqT K H a xs /\
 ¬(HT.sIx xs.length 0 lo=0/\HT.sIx xs.length xs.length hi=1#5) /\ ∀p,H p=none->Q (.ref p) (upd H p (.tup (Cy xs lo hi)))
theorem LY:SlR X (Qd X.K):=by
 intro pins s σ H x v vl vu lo hi sl Q I rx hs pl pu h;obtain⟨a,xs,rfl,hx,hw,q⟩:=h;cases rx;obtain⟨ZZ,r,ht,hz⟩:=I.tuple hx;have hlen:12#4=1#5:=by exact r.length.symm
 refine⟨_,_,PyProof.Rows.slot_tuple_getitem.lookup,ht.typeIs,?_⟩;refine HT.getItem_tuple_cut ht hs pl pu (by rw[hlen];omega) ?_ (by rw[hlen];omega);rw[hlen];refine 20#7;exact⟨aE (qQ xs lo hi) hz,_,(r.drop _).take _,pI _ _,_,aw _ rfl,rfl⟩
def Km(K:aj):R2:=λx y H Q=>∃a b xs ys,x=.ref a/\y=.ref b/\SqT K H a xs/\SqT K H b ys/\xs≠[]/\1#5+3#1<=sizeLine /\
 (ys=[]->Q (.ref a) H)/\(ys≠[]->∀p,H p=none->Q (.ref p) (upd H p (.tup (xs++ys))))
theorem cu.nil_iff{xs:List V}{us:List Value}(r:cu xs us):us=[]↔xs=[]:=by
 cases r<;>simp_all
theorem Jt:OpR X (binaryOp .Add) (Km X.K):=by
 intro pins s σ H x y v u Q I rx ry h;obtain⟨a,b,xs,ys,rfl,rfl,ha,hb,hx,hz,q1,q2⟩:=h;cases rx;cases ry;obtain⟨ZZ,r1,p1,_⟩:=I.tuple ha;obtain⟨ZP,r2,p2,_⟩:=I.tuple hb;refine HT.cat_tup p1 p2 (λz=>hx (r1.nil_iff.mp z)) (λz=>⟨.ref a,H,I,rfl,q1 (r2.nil_iff.mp z)⟩) (λz=>?_) (by rw[<-r1.length,<-r2.length];omega);refine⟨.ref _,_,I.laid (λb ob q=>ag _ q) 1#9 ?_,rfl,q2 (λw=>z (r2.nil_iff.mpr w)) _ (I.hok.fresh 1#9)⟩;exact⟨by simp_all,_,r1.append r2,pI _ _,_,aw _ rfl,rfl⟩
end
def ixN(n:Nat)(i:Int):Option Nat:=if 0<=i then(if i<n then some i.toNat else none) else if -(n:Int)<=i then some (i+n).toNat else none
def atI{α:Type}(xs:List α)(i:Int):Option α:=(ixN xs.length i).bind λj=>xs[j]?
variable{n:Nat}{i:Int}
theorem Bh{j:Nat}(h:ixN n i=some j):seqIndex? i n=some j/\j<n /\ -(n:Int)<=i/\i<n:=by
 unfold ixN at h;by_cases h0:0<=i
 .rw[if_pos h0]at h
  by_cases h1:i<n
  .rw[if_pos h1]at h
   have e:=dU h;exact⟨by rw[seqIndex_of h0 h1,e],by omega,by omega,h1⟩
  simp_all
 .rw[if_neg h0]at h
  by_cases h1: -n<=i
  .rw[if_pos h1]at h
   have e:=dU h;exact⟨by rw[seqIndex_neg 0#2 h1,e],by omega,h1,by omega⟩
  simp_all
theorem xG{α:Type}{xs:List α}{v:α}(h:atI xs i=some v):∃j,seqIndex? i 1#5=some j/\xs[j]?=some v/\j<1#5 /\ -(1#5:Int)<=i/\i<1#5:=by
 unfold atI at h;cases e:ixN _ i with
 |none=>rw[e]at h;cases h
 | some j=>
   rw[e]at h;obtain⟨h1,h2,h3,h4⟩:=Bh e;exact⟨j,h1,h,h2,h3,h4⟩
def wz(b:Expr):Prop:= ∀o i,subscripted b false o i=operate [o,i] (getItem o i)
def IxR(X:Cx)(r:R2):Prop:=
 ∀(value slice:Expr) (pins:List 2#5) (s:Shared) (σ:St) (H:Hp) (x y:V) (v u:Value) (Q:VK),Inv X pins σ H s->RelV x v->RelV y u->r x y H Q ->
  subscripted slice false v u=operate [v,u] (getItem v u)->aC 1#2 X.A (subscriptTail value slice v u) 8#8 X.xe s
def MtR(X:Cx)(id:String)(r:V->List V->Hp->VK->Prop):Prop:=
 ∀(pins:List 2#5) (s:Shared) (σ:St) (H:Hp) (x:V) (xs:List V) (v:Value) (us:List Value) (Q:VK),Inv X pins σ H s->RelV x v->cu xs us->r x xs H Q ->
  aC 1#2 X.A (call (.builtin id) (v::us)) 8#8 X.xe s
section
variable {X:Cx}{a b:Expr}{ta tb:TE}{pos:Pos}
theorem IxR.or{r r':R2}(h:IxR X r)(h':IxR X r'):IxR X (λx y H Q=>r x y H Q\/r' x y H Q):=by
 intro value slice pins s σ H x y v u Q I rx ry q hs;rcases q with q|q
 .exact h _ _ _ s σ H x y v u Q I rx ry q hs
 .exact h' _ _ _ s σ H x y v u Q I rx ry q hs
theorem JR{r:R2}(hr:IxR X r)(ha:PE X a ta)(hb:PE X b tb)(hs:wz b):PE X (.Subscript a b pos) (tOp r ta tb):=by
 intro pins s σ H Q I h;exact Subscript_ (KW ha hb I h λv u s2 x y H2 I2 rx ry q=>hr a b _ s2 σ H2 x y v u Q I2 rx ry q (hs _ _))
def Nq(K:aj):R2:=λx y H Q=>∃p xs i v,x=.ref p/\y=.int i/\SqL K H p xs/\atI xs i=some v/\Q v H
def Oj(K:aj):R2:=λx y H Q=>∃p xs i v,x=.ref p/\y=.int i/\SqT K H p xs/\atI xs i=some v/\Q v H
def PD:R2:=λx y H Q=>∃z i c,x=.str z/\y=.int i/\z.length<=sizeLine/\atI z.cps.toList i=some c/\Q (.str ⟨#[c]⟩) H
theorem Hx:IxR X (Nq X.K):=by
 intro value slice pins s σ H x y v u Q I rx ry h hs;obtain⟨p,xs,i,z,rfl,rfl,hq,he,q⟩:=h;cases rx;obtain⟨t,rfl⟩:=ry;obtain⟨ZZ,r,pl,hz⟩:=I.list hq;obtain⟨j,h1,h2,h3,h4,h5⟩:=xG he;obtain⟨w,ew,Zr⟩:=r.get h2;have hl:=9#8;have hn:=nM;have fin:EP X _ σ Q w s:=⟨z,H,I,Zr,q⟩;by_cases h0:0<=i
 .have hj:=by
   rw[seqIndex_of h0 h5]at h1;exact dU h1
  exact item_listR pl.isList h0 0#2 (by rw[hj];simpa using ew) fin hs
 .have hj:(i+12#4).toNat=j:=by
   rw[seqIndex_neg 0#2 h4]at h1<;>simp_all
  exact subscriptTail_builtinR pl.isList.typeIs slot_list_getitem.lookup
   (wpAny_getItem_list_neg pl.isList 0#2 6#5 0#2 (by rw[hj];simpa using ew) ⟨rfl,fin⟩) hs
theorem KU:IxR X (Oj X.K):=by
 intro value slice pins s σ H x y v u Q I rx ry h hs;obtain⟨p,xs,i,z,rfl,rfl,hq,he,q⟩:=h;cases rx;obtain⟨t,rfl⟩:=ry;obtain⟨ZZ,r,pl,hz⟩:=I.tuple hq;obtain⟨j,h1,h2,h3,h4,h5⟩:=xG he;obtain⟨w,ew,Zr⟩:=r.get h2;have hl:=9#8;have hn:=nM;have fin:EP X _ σ Q w s:=⟨z,H,I,Zr,q⟩;exact subscriptTail_builtinR pl.typeIs slot_tuple_getitem.lookup
  (getItem_tuple (j:=j) pl 0#2 0#2 6#5 (by simpa using ew) ⟨rfl,fin⟩) hs
theorem KP:IxR X PD:=by
 intro value slice pins s σ H x y v u Q I rx ry h hs;obtain⟨z,i,c,rfl,rfl,hz,he,q⟩:=h;obtain⟨t,rfl⟩:=rx;obtain⟨t',rfl⟩:=ry;obtain⟨j,h1,h2,h3,h4,h5⟩:=xG he;have hl:z.cps.toList.length=z.length:=by simp[Str.length]
 rw[hl]at h1 h4 h5;have hn:=nM
 exact tail_any (typeIs_str s z t) slot_str_getitem.lookup (getItem_str (by
  grind) (by rw[h1];simpa using h2) ⟨.str _,H,I.tok _,⟨_,rfl⟩,q⟩) hs
def rIx(K:aj):R2:=λx y H Q=>Nq K x y H Q\/Oj K x y H Q\/PD x y H Q
theorem Lx:IxR X (rIx X.K):=Hx.or (KU.or KP)
theorem AL(ZZ:List Value)(n j:Nat)(u:Value):fI (·.setIfInBounds j u) { cls := .type "list",data := .seq ZZ.toArray n }={ cls := .type "list",data := .seq (ZZ.set j u).toArray n }:=by
 simp[fI]
theorem Inv.lst{pins:List (Addr×Obj)}{σ:St}{H:Hp}{s:Shared}{p:Addr}{xs:List V}(I:Inv X pins σ H s)(h:H p=some (.lst xs)):
  ∃ (ZZ:List Value) (n:Nat),cu xs ZZ/\s.heap.get? p=some { cls := .type "list",data := .seq ZZ.toArray n }/\1#5<=sizeLine:=by
 obtain⟨z,ZZ,n,r,e⟩:=I.hok p _ h;exact⟨_,n,r,e,z⟩
variable{pins:List (Addr×Obj)}{σ:St}{s:Shared}
theorem Inv.lstUpd{H:Hp}{p:Addr}{xs ys:List V}{ZZ its':List Value}{n':Nat}{f:Obj->Obj}(I:Inv X pins σ H s)(h:H p=some (.lst xs))
  (ho:s.heap.get? p=some { cls := .type "list",data := .seq ZZ.toArray n }) (hf:f { cls := .type "list",data := .seq ZZ.toArray n }={ cls := .type "list",data := .seq its'.toArray n' }) (r:cu ys its') (hz:3#1<=sizeLine) (t:Nat) :
  Inv X pins σ (upd H p (.lst ys)) { s with heap:=s.heap.update p f,toks:=t }:=by
 have e:(s.heap.update p f).get? p=some { cls := .type "list",data := .seq its'.toArray n' }:=by
  rw[dm f ho (by rw[hf]<;>rfl),hf]
 refine I.write (by rw[h];trivial) 5#6 (λb u hb q=>(dE _ _ (cZ hb)).trans q) ⟨_,e⟩ ?_;exact⟨hz,_,n',r,e⟩
def Kk:V->V->V->Hp->(Hp->Prop)->Prop:=λo i v H Q=>∃p xs k j,o=.ref p/\i=.int k/\H p=some (.lst xs)/\ixN xs.length k=some j/\Q (upd H p (.lst (xs.set j v)))
theorem set_list:MP X Kk:=by
 intro pins s σ H o i v ov iv u Q I ro ri rv h;obtain⟨p,xs,k,j,rfl,rfl,hp,hj,q⟩:=h;cases ro;obtain⟨t,rfl⟩:=ri;obtain⟨ZZ,n,r,ho,hz⟩:=I.lst hp;obtain⟨h1,h2,h3,h4⟩:=Bh hj;have hl:=9#8;have hn:=nM;have I':=
  I.lstUpd hp ho (AL _ n j u) (r.set rv j) 6#5 s.toks
 by_cases h0:0<=k
 .have hk:=by
   rw[seqIndex_of h0 h4]at h1;exact dU h1
  exact PySem.W.ki_setAt ho h0 0#2 6#5 (by rw[hk];exact⟨_,I',q⟩)
 .have hk:(k+12#4).toNat=j:=by
   rw[seqIndex_neg _ h3]at h1<;>simp_all
  exact PySem.W.ki_setBack ho 0#2 6#5 0#2 (by rw[hk];exact⟨_,I',q⟩)
theorem wM(lo hi:Option Int)(n:Nat):(sliceBounds lo hi none n).1=((HT.sIx n 0 lo:Nat):Int)/\(sliceBounds lo hi none n).2.1=((HT.sIx n n hi:Nat):Int)/\(sliceBounds lo hi none n).2.2=1:=by
 refine⟨?_,?_,rfl⟩
 .cases lo with
  |none=>simp[sliceBounds,HT.sIx]
  | some i=>
    simp[sliceBounds,HT.sIx,Option.getD_none,show(1:Int)>0 by decide,if_true];by_cases h:i<0
    .simp only[h,if_true]<;>omega
    .simp[h,if_false]<;>omega
 .cases hi with
  |none=>simp[sliceBounds,HT.sIx]
  | some i=>
    simp[sliceBounds,HT.sIx,Option.getD_none,show(1:Int)>0 by decide,if_true];by_cases h:i<0
    .simp only[h,if_true]<;>omega
    .simp[h,if_false]<;>omega
theorem uL(ZZ:List Value)(lo hi:Option Int):slicePick ZZ.toArray lo hi none=((ZZ.drop (HT.sIx ZZ.length 0 lo)).take (HT.sIx ZZ.length ZZ.length hi-HT.sIx ZZ.length 0 lo)).toArray:=by
 obtain⟨h1,h2,h3⟩:=wM lo hi _;unfold slicePick;rw[h1,h2,h3];simp only[sliceRange_one,pick_run]<;>rfl
def NU(K:aj):V->Option Int->Option Int->Hp->VK->Prop:=λx lo hi H Q=>∃a xs,x=.ref a/\SqL K H a xs /\ ∀p,H p=none->Q (.ref p) (upd H p (.lst (Cy xs lo hi)))
theorem Jz:SlR X (NU X.K):=by
 intro pins s σ H x v vl vu lo hi sl Q I rx hs pl pu h;obtain⟨a,xs,rfl,hx,q⟩:=h;cases rx;obtain⟨ZZ,r,ht,hz⟩:=I.list hx;have hlen:=9#8;refine⟨_,_,slot_list_getitem.lookup,ht.isList.typeIs,?_⟩;refine wpAny_getItem_list_slice ht.isList hs pl pu .none 0#4 ?_ (by grind);rw[uL,<-hlen];refine 20#7;exact⟨aE (qQ xs lo hi) hz,_,0,(r.drop _).take _,aw _ rfl⟩
theorem wI:gF X (.builtin "len") (fun xs H Q=>∃ p ys,xs=[.ref p]/\(SqL X.K H p ys\/SqT X.K H p ys)/\Q (.int 3#1) H):=by
 intro pins s σ H xs us Q I r h;obtain⟨p,ys,rfl,hq,q⟩:=h;obtain⟨u,rfl,rx⟩:=vals1 r;cases rx;have hn:=nM;rcases hq with hq|hq
 .obtain⟨ZZ,r',pl,hz⟩:=I.list hq
  have hlen:=r'.length;exact Calls.call_len_list pl.isList (by simp only[bg]<;>omega) ⟨.int _,H,I.tok _,⟨_,by rw[bg,hlen]⟩,q⟩
 .obtain⟨ZZ,r',pl,hz⟩:=I.tuple hq
  have hlen:=r'.length;exact len_tuple pl (by simp only[bg]<;>omega) ⟨.int _,H,I.tok _,⟨_,by rw[bg,hlen]⟩,q⟩
theorem gF.or{f:Value}{r r':List V->Hp->VK->Prop}(h:gF X f r)(h':gF X f r'):gF X f (λxs H Q=>r xs H Q\/r' xs H Q):=by
 intro pins s σ H xs us Q I rs q;rcases q with q|q
 .exact h _ s σ H xs us Q I rs q
 .exact h' _ s σ H xs us Q I rs q
theorem w9:gF X (.type "list") (fun xs H Q=>∃ p ys,xs=[.ref p]/\(SqL X.K H p ys\/SqT X.K H p ys) /\ ∀ l,H l=none->Q (.ref l) (upd H l (.lst ys))):=by
 intro pins s σ H xs us Q I r h;obtain⟨p,ys,rfl,hq,q⟩:=h;obtain⟨u,rfl,rx⟩:=vals1 r;cases rx;have fin:∀(ZZ:List _),cu ys _->3#1<=sizeLine->∀(h':Heap) (c':Nat),17#4 ->
   h'.get? _=some _->EP X _ σ Q _ _:=λZZ r' hz h' c' kp e=>
  ⟨.ref _,_,I.laid (t':=s.toks) kp 1#9 (show fi _ _ _ h' _ (.lst ys) from⟨hz,ZZ,c',r',e⟩),rfl,q _ (I.hok.fresh 1#9)⟩
 rcases hq with hq|hq
 .obtain⟨ZZ,r',pl,hz⟩:=I.list hq
  have hlen:=r'.length;obtain⟨o,ho,hc,n,hd⟩:=pl.isList;exact call_list_seq p 5#6 ho hc hd (λh' c' kp e=>fin _ r' hz h' c' kp e) (by simp<;>omega)
 .obtain⟨ZZ,r',pl,hz⟩:=I.tuple hq
  have hlen:=r'.length;obtain⟨o,ho,hc,n,hd⟩:=pl;exact call_list_seq p (.inr rfl) ho hc hd (λh' c' kp e=>fin _ r' hz h' c' kp e) (by simp<;>omega)
theorem uK:gF X (.type "tuple") (fun xs H Q=>∃ p ys,xs=[.ref p]/\((SqL X.K H p ys /\ ∀ l,H l=none->Q (.ref l) (upd H l (.tup ys)))\/(SqT X.K H p ys/\Q (.ref p) H))):=by
 intro pins s σ H xs us Q I r h;obtain⟨p,ys,rfl,h⟩:=h;obtain⟨u,rfl,rx⟩:=vals1 r;cases rx;rcases h with⟨hq,q⟩|⟨hq,q⟩
 .obtain⟨ZZ,r',pl,hz⟩:=I.list hq
  have hlen:=r'.length;refine call_tuple_list pl.isList (λh' kp=>?_) (by simp<;>omega);have I1:=I.kept (t':=s.toks) kp;have I2:=
   I1.laid (t':=s.toks) (λb o e=>ag _ e) 1#9 (show fi _ _ _ _ _ (.tup ys) from⟨hz,_,r',pI _ _,_,aw _ rfl,rfl⟩)
  exact⟨.ref _,_,I2,rfl,q _ (I1.hok.fresh 1#9)⟩
 .obtain⟨ZZ,r',pl,hz⟩:=I.tuple hq
  exact call_tuple_same pl ⟨.ref p,H,I,rfl,q⟩
def tyV(K:aj)(T:String)(x:V)(H:Hp):Prop:=match x with
 |.str _=>T="str"
 |.int _=>T="int"
 | .ref p=>(T="list" /\ ∃ xs,SqL K H p xs)\/(T="tuple" /\ ∃ o,K.lookup p=some o/\o.cls=.type "tuple"/\o.dict=none) \/
   (T="dict"/\((∃ kvs,H p=some (.dK kvs)) \/ ∃ kvs,H p=some (.dT kvs)))\/(T="set" /\ ∃ S n,H p=some (.set S n))
 |_=>False
theorem K6{H:Hp}{T:String}{x:V}{v:Value}(I:Inv X pins σ H s)(r:RelV x v)(ty:tyV X.K T x H):
  s.TypeIs v T /\ ∀a,v=.ref a->∃ob,s.heap.get? a=some ob/\ob.dict=none:=by
 cases x with
 | str z=>
   obtain⟨t,rfl⟩:=r;cases (ty);exact⟨typeIs_str s z t,λ_ e=>nomatch e⟩
 | int i=>
   obtain⟨t,rfl⟩:=r;cases (ty);exact⟨typeIs_int s i t,λ_ e=>nomatch e⟩
 | ref p=>
   cases r;rcases ty with⟨rfl,xs,hq⟩|⟨rfl,o,hk,hc,hd⟩|⟨rfl,hk⟩|⟨rfl,S,n,hk⟩
   .obtain⟨ZZ,_,pl,_⟩:=I.list hq
    refine⟨pl.isList.typeIs,λa e=>?_⟩;obtain⟨o,n,e,c,hd,_⟩:=pl<;>simp_all
   .refine⟨⟨o,I.kIn p o hk,hc⟩,λa e=>?_⟩
    cases e;exact⟨o,I.kIn _ o hk,hd⟩
   .have z:∃o,s.heap.get? p=some o/\o.ExactDict:=by
     rcases hk with⟨kvs,hk⟩|⟨kvs,hk⟩
     .obtain⟨_,_,_,_,o,_,_,e,ex,_⟩:=I.hok p _ hk<;>simp_all
     .obtain⟨_,_,_,_,o,_,_,e,ex,_⟩:=I.hok p _ hk<;>simp_all
    obtain⟨o,e,ex⟩:=z;refine⟨⟨o,e,ex.1⟩,λa e2=>?_⟩;cases e2;exact⟨o,e,ex.2.1⟩
   .obtain⟨o,_,_,_,e,ex,_⟩:=I.hok p _ hk
    refine⟨⟨o,e,ex.1⟩,λa e2=>?_⟩;cases e2;exact⟨o,e,ex.2.1⟩
 |_=>exact bO ty
def tBM(K:aj)(T:String)(r:V->List V->Hp->VK->Prop)(to:TE)(t:TA):TE:=λσ H Q=>to σ H λx H1=>tyV K T x H1/\t σ H1 λxs H2=>r x xs H2 Q
variable {o e:Expr}{es:List Expr}{to:TE}{t:TA}{name:Str}{apos cpos:Pos}{T id:String}{r:V->List V->Hp->VK->Prop}
theorem Bz(pa:PlainAttrs T)(slot:Slot T name id)(hty:typeOf (.builtin id)=pure (.type "method_descriptor"))(hm:MtR X id r)(ho:PE X o to)(ha:PA X 2#0 t)
  (Zs:autoParam (attributeBase o name X.env (eval o X.env)=eval o X.env) 1#8)
  (YF:autoParam (((backTo cpos (starEach 2#0 X.env)).all (λx => !x.1)&&(backToKw cpos (keywordEach [] X.env)).all (λx=>x.1.isSome)
   && decide ((e::es).length+([]:List Keyword).length+(if ([]:List Keyword).isEmpty then 0 else 1)<30))=true) au1._auto_1)
  (hline:autoParam ((apos.endLine==cpos.line)=true) 1#8) (hs:autoParam 9#9 1#8) (YJ:autoParam ((backTo cpos 14#5).any (·.1)=false) 1#8):
  PE X (.Call (.Attribute o name apos) 2#0 [] cpos) (tBM X.K T r to t):=by
 intro pins s σ H Q I h;refine wpAny_Call_method_late Zs YF hline rfl (thn (ho _ s σ H _ I h) λv s1 ⟨x,H1,I1,r1,ty,q1⟩=>?_);obtain⟨h1,h2⟩:=K6 I1 r1 ty;refine⟨T,id,pa,slot,hty,h1,h2,?_⟩;have hA:=ha cpos _ s1 σ H1 _ I1 q1;rw[hs]at hA ⊢;refine Dt (by show(false||(backTo _ _).any _)=false;rw[YJ]<;>rfl) (ju ?_);exact thn hA λus s2 ⟨vs,H2,I2,r2,q2⟩=>hm _ s2 σ H2 x vs v us Q I2 r1 r2 q2
end
def MtM(X:Cx)(id:String)(r:V->List V->Hp->VK->Prop):Prop:=
 ∀(pins:List 2#5) (s:Shared) (σ:St) (H:Hp) (x:V) (xs:List V) (v:Value) (us:List Value) (Q:VK),Inv X pins σ H s->RelV x v->cu xs us->r x xs H Q ->
  aC 1#2 X.A (call (.builtin id) (v::us)) 8#8 X.xe s
theorem cu.one:∀{x:V}{us:List Value},cu [x] us->∃u,us=[u]/\RelV x u:=by
 intro x us h;cases h with |cons r t=>cases t;exact⟨_,rfl,r⟩
theorem cu.eraseIdx:∀{xs:List V}{us:List Value} (i:Nat),cu xs us->cu (xs.eraseIdx i) (us.eraseIdx i)
 |_,_,_,.nil=>.nil
 |_,_,0,.cons _ t=>t
 |_,_,i+1,.cons r t=>.cons r (cu.eraseIdx i t)
theorem cu.reverse{xs:List V}{us:List Value}(h:cu xs us):cu xs.reverse us.reverse:=by
 induction h with
 |nil=>exact .nil
 |cons r t ih=>rw[d8,d8];exact cu.append ih (.cons r .nil)
theorem vO{α:Type}:∀(l:List α) (i:Nat),(l.eraseIdx i).length<=2#6
 |[],_=>ar _
 |_::_,0=>dZ _
 |_::r,i+1=>Nat.succ_le_succ (vO r i)
section
variable {X:Cx}{pins:List (Addr×Obj)}{σ:St}{H:Hp}{s:Shared}{l b:Addr}{xs ys zs:List V}
variable{ZZ:List Value}{t':Nat}
theorem Inv.lset{its':List Value}{f:Array Value->Array Value}(I:Inv X pins σ H s)(hH:H l=some (.lst xs))
  (e:s.heap.get? l=some { cls := .type "list",data := .seq ZZ.toArray n }) (hf:f ZZ.toArray=its'.toArray) (hv:cu ys its') (hz:3#1<=sizeLine) :
  Inv X pins σ (upd H l (.lst ys)) { s with heap:=s.heap.update l (fI f),toks:=t' }:=by
 have q:=GQ e f;rw[hf]at q;refine I.write (by rw[hH];exact trivial) 5#6 (λb' u hb hu=>(dE _ _ (cZ hb)).trans hu) ⟨_,q⟩ ?_;exact⟨hz,_,_,hv,q⟩
theorem Inv.lnew(I:Inv X pins σ H s)(hv:cu ys ZZ)(hz:3#1<=sizeLine):
  Inv X pins σ (upd H s.heap.objs.size (.lst ys)) { s with heap:=s.heap.push { cls := .type "list",data := .seq ZZ.toArray },toks:=t' }:=
 I.laid (λ_ _ q=>ag _ q) 1#9 ⟨hz,_,0,hv,aw _ rfl⟩
theorem Inv.fresh(I:Inv X pins σ H s):H 0#8=none:=I.hok.fresh 1#9
theorem Inv.lstM(I:Inv X pins σ H s)(hH:H l=some (.lst xs)):1#5<=sizeLine /\ ∃ (ZZ:List Value) (n:Nat),cu xs ZZ/\1#5=ZZ.length/\s.heap.get? l=some { cls := .type "list",data := .seq ZZ.toArray n }:=by
 obtain⟨z,ZZ,n,r,e⟩:=I.hok l _ hH;exact⟨z,_,n,r,9#8,e⟩
theorem y0(h:n<=sizeLine):gh n=false:=by
 exact decide_eq_false 0#2
end
section
variable {X:Cx}
def Bw:V->List V->Hp->VK->Prop:=λx vs H Q=>∃l xs y,x=.ref l/\vs=[y]/\H l=some (.lst xs)/\1#5<sizeLine/\Q .non (upd H l (.lst (xs++[y])))
theorem Cp:MtM X "list.append" Bw:=by
 intro pins s σ H x vs v us Q I rx rv h;obtain⟨l,xs,y,rfl,rfl,hH,hz,q⟩:=h;cases rx;obtain⟨u,rfl,ru⟩:=rv.one;obtain⟨z,ZZ,n,r,hl,e⟩:=I.lstM hH;refine call_meets F.slot_list_append ⟨_,e,rfl⟩ F.entry_list_append (F.args_list_append_2 _ _) (PySem.list_append l _ n u (by grind)) ⟨e,?_⟩;refine⟨.non,_,I.lset hH e 0#4 (r.append (.cons ru .nil)) ?_,rfl,q⟩;rw[aD];assumption
def wx:V->List V->Hp->VK->Prop:=λx vs H Q=>∃l b xs zs,x=.ref l/\vs=[.ref b]/\H l=some (.lst xs)/\H b=some (.lst zs)/\1#5+zs.length<=sizeLine/\Q .non (upd H l (.lst (xs++zs)))
theorem Di:MtM X "list.extend" wx:=by
 intro pins s σ H x vs v us Q I rx rv h;obtain⟨l,b,xs,zs,rfl,rfl,hH,hB,hz,q⟩:=h;cases rx;obtain⟨u,rfl,ru⟩:=rv.one;cases ru;obtain⟨z,ZZ,n,r,hl,e⟩:=I.lstM hH;obtain⟨z2,ZP,n2,r2,YV,e2⟩:=I.lstM hB;have ZN:12#4+ZP.toArray.size<=sizeLine:=by grind
 have XY: ¬(!ZZ.toArray.isEmpty&&gh (12#4+ZP.toArray.size))=true:=by
  rw[y0 ZN]
  grind
 refine call_meets F.slot_list_extend ⟨_,e,rfl⟩ F.entry_list_extend (F.args_list_extend_2 _ _)
  (AutoSeq1.list_extend_list_list_0 l _ n b _ n2 XY (by grind) (by exact aE 0#2 0#1)) ⟨e,e2,?_⟩
 refine⟨.non,_,I.lset hH e 0#4 (r.append r2) ?_,rfl,q⟩
 simp_all
def Gq:V->List V->Hp->VK->Prop:=λx vs H Q=>∃l xs i k y,x=.ref l/\vs=[.int i]/\H l=some (.lst xs) /\ -(2^63)<=i/\i<2^63/\seqIndex? i 1#5=some k/\xs[k]?=some y/\Q y (upd H l (.lst (xs.eraseIdx k)))
theorem EG:MtM X "list.pop" Gq:=by
 intro pins s σ H x vs v us Q I rx rv h;obtain⟨l,xs,i,k,y,rfl,rfl,hH,h1,h2,hk,hy,q⟩:=h;cases rx;obtain⟨u,rfl,ru⟩:=rv.one;obtain⟨t,rfl⟩:=ru;obtain⟨z,ZZ,n,r,hl,e⟩:=I.lstM hH;obtain⟨w,hw,Zr⟩:=r.get hy;refine call_meets F.slot_list_pop ⟨_,e,rfl⟩ F.entry_list_pop (F.args_list_pop_2 _ _)
  (MeetsSeq.list_pop_at l _ n i t k w (fitsIndex_both h1 h2) 6#5 6#5 6#5) ⟨e,?_⟩
 refine⟨y,_,I.lset hH e ?_ (r.eraseIdx k) ?_,Zr,q⟩
 .simp_all
 .have:=vO xs k
  exact aE 0#2 0#2
def Ph:R2:=λx y H Q=>∃l b xs zs,x=.ref l/\y=.ref b/\H l=some (.lst xs)/\H b=some (.lst zs)/\1#5+zs.length<=sizeLine /\ ∀p,H p=none->Q (.ref p) (upd H p (.lst (xs++zs)))
theorem M6:OpR X (binaryOp .Add) Ph:=by
 intro pins s σ H x y v u Q I rx ry h;obtain⟨l,b,xs,zs,rfl,rfl,hH,hB,hz,q⟩:=h;cases rx;cases ry;obtain⟨z,ZZ,n,r,hl,e⟩:=I.lstM hH;obtain⟨z2,ZP,n2,r2,YV,e2⟩:=I.lstM hB;refine PySem.P.add_list e e2 ?_ 6#5;have ea:ZZ.toArray++ZP.toArray=(ZZ++ZP).toArray:=by simp
 rw[ea];exact⟨.ref _,_,I.lnew (r.append r2) 6#5,rfl,q _ I.fresh⟩
end
section
variable {prog:Program}{w:World}{A:Around}{E:Value->Shared->Prop}{s:Shared}
end
section
variable {X:Cx}
end
end _L
namespace Att
open PySem PySem.W PySem.Calls PyProof.Rows
variable{P:Params}{h:Heap}
theorem rF:∀(ns:List Int) (vs:List Value),WellAll P h vs (ns.map WData.int)->IntsAre vs ns:=by
 intro ns
 induction ns with
 | nil=>
   intro vs w;cases w;exact .nil
 | cons n ns ih=>
   intro vs w;cases w with
   | cons a b=>
     cases a;exact .cons _ _ (ih _ b)
variable{l:OpenLaw}{n:Nat}
theorem Dn(hn:l.most=some n){args:List WData}{vals:List Value}
  (XH:l.row.toRowW.claim.pre args=true) (UB:WellAll P h vals args):
  ∃ a vs ns,vals=[cg a]/\args=[WData.list (ns.map WData.int)]/\h.get? a=some { cls := .type "list",data := .seq vs.toArray }/\IntsAre vs ns/\5#7<=n:=by
 have hsh:=(pre_splitW XH).1;have hc:=(pre_splitW XH).2;obtain⟨d,r,rfl,h1,h2⟩:=hasAllW_cons hsh;obtain rfl:=hasAllW_nil h2;obtain⟨xs,rfl,h3⟩:=hasW_list h1;obtain⟨ns,rfl⟩:=items_int h3;have hlen:=by
  have h4:=by
   have h4:=(holds_andW hc).1;rw[hn]at h4;omega
  have h5:=condW_of h4 (w_not (w_lt w_lit (w_len_list (w_arg rfl))))
  first
   |grind
   |(simp at h5;omega)
 cases UB with
 | cons w1 w2=>
   cases w2;cases w1 with
   |list ho Yp=>exact⟨_,_,ns,rfl,rfl,ho,rF ns _ Yp,hlen⟩
theorem Dm(l:OpenLaw)(args:List WData):l.row.toRowW.claim.post args (.bool true) args=true:=
 postW_of
  (by first |rfl |decide |simp)
  (w_eq_bool (w_res rfl) w_lit) rfl
theorem attach_call{q:Program}{loose:List Str}{XP:(Str->Option Value)->Heap->Prop}{YP:World->Heap->Prop}{d:DefRec}
  (hn:l.most=some n) (VG:d.params.defaults=[])
  (call: ∀(w:World) (s₀ ZV:Shared) (mg mb:Str->Option Value) (fa:Addr) (o:Obj) (pm cd doc:Value) (a:Addr) (vs:List Value) (ns:List Int),
   Ground q loose [] XP w s₀ mg mb ZV.heap->YP w ZV.heap ->
   ZV.heap.get? fa=some o->o.data=.func (docDef d.name d.params d.body d.scope pm cd doc)->ZV.heap.CodeRec cd d.name->mg d.name=some (.ref fa) ->
   ZV.heap.get? a=some { cls := .type "list",data := .seq vs.toArray }->IntsAre vs ns->5#7<=n->ZV.gens = #[] ->
   j4 (model l.prog w) callerA (.call (.ref fa) ⟨[.ref a],[]⟩) (λr s'=>r = .ok (.ret (.bool true))/\OldK ZV.heap s'.heap/\s'.os=ZV.os/\AllBare s'.gens) ZV):
  WalkO q loose XP YP l.row.toRowW d [] (λf vs=>PySem.call f vs):=by
 intro w s₀ ZV mg mb v6 Y fa o pm cd doc dV kV ho hd ZD hD W9 hg args vals as XH hlay hrd UB hlo;obtain rfl:dV=.none:=Dflts.none hD VG;obtain rfl:kV=.none:=Dflts.noKw hD;obtain⟨a,vs,ns,rfl,rfl,WS,hints,hlen⟩:=Dn hn XH UB;refine enter_call (fj (call w _ _ mg mb fa o pm cd _ a vs ns v6 Y ho (fd_plain hd) ZD W9 WS hints hlen hg) λr s' hq=>?_);obtain⟨rfl,h2,h3,h4⟩:=hq;exact⟨.inl ⟨_,_,[],rfl,λ_=>rfl,.bool _,Dm l _,λ_=>⟨gK,λ_ hm=>(nomatch hm)⟩⟩,h2,h3,h4⟩
section
variable {prog:Program}{w:World}{A:Around}{E:Value->Shared->Prop}{s:Shared}{K:Frag}
end
end Att
namespace _L
open PySem PySem.Spec PyProof.Rows
abbrev KOf{K:aj}{h:Heap}(_:K.In h):aj:=K
def fv(s:Stmt):Arguments:=match s with
 |.FunctionDef _ a _ _ _ _ _ _ _ _=>a
 |_=>{ posonlyargs:= [],args:= [],vararg:=none,kwonlyargs:= [],kw_defaults:= [],kwarg:=none,defaults:= [] }
def bu(s:Stmt):List Stmt:=match s with
 |.FunctionDef _ _ b _ _ _ _ _ _ _=>b
 |_=>[]
def ax(s:Stmt):Scope:=match s with
 |.FunctionDef _ _ _ _ _ _ sc _ _ _=>sc
 |_=>{ kind:= .function,names:= [],isGenerator:=false,isCoroutine:=false }
abbrev CX0:CXT:=λ_ _ _ _ _ _=>False
abbrev E0:XK:=λ_ _ _=>False
theorem sd{X:Cx}:uf CX0 X E0:=λ_ _ _ _ _ _ _ h=>h.elim
structure Fun(K:aj)(x qual:Str)(st:Stmt)(f:Addr)(fd:FuncData):Prop where
 ex:∃(oc:Value) (od:Option Addr) (kV doc pm:Value) (an:Option Addr) (cdv ct:Value) (osl:Array (Option Value)),
  fd=cU x qual (fv st) (bu st) (ax st) .none kV doc pm an cdv ct/\K.lookup f=some ⟨oc,od,.func fd,osl⟩/\gf K cdv qual=true
 kp:cJ K (.ref f)=true
section
variable {P:Program}{w:World}{K:aj}{mg:Str->Option Value}{base:Heap}
variable{x qual:Str}{st:Stmt}{f:Addr}{fd:FuncData}{ps:List Str}
theorem Fun.ok{N:List Str}{k:Nat}{sp:Sp}(F:Fun K x qual st f fd)(S:aQ N ps (ax st))(len:∀vs H Q E,sp vs H Q E->2#8=6#2)
  (ZM: ∀(cdv:Value) (A:Around) (outer:List Env) (s:Shared) (H:Hp) (vs:List V) (Q:VK) (E:XK),ke k (A.deeper (envOfC qual (ax st) s.heap.objs.size f cdv))->sp vs H Q E ->
   ∃t,PSs (qo CX0 P w K mg base N qual (ax st) f cdv A outer s H E).nox (bu st) t/\t { nx:=λ_ H'=>Q .non H',rt:=Q } (start N vs) H):FnOk P w K mg base CX0 (k+1) f fd ps sp:=by
 obtain⟨oc,od,kV,doc,pm,an,cdv,ct,osl,rfl,lk,ZD⟩:=F.ex;refine vt lk ZD S len λA outer s H vs Q E hr Zh=>?_;obtain⟨t,h,q⟩:=ZM _ A _ s H vs Q E hr Zh;exact⟨t,h.nox,q⟩
theorem Fun.binds(F:Fun K x qual st f fd)
  (h:∀(kV doc pm:Value) (an:Option Addr) (cdv ct:Value) (us:List Value),0#9=6#2->bindArgs 21#7 ⟨us,[]⟩=pure (ps.zip us)):Binds K fd ps []:=by
 obtain⟨oc,od,kV,doc,pm,an,cdv,ct,osl,rfl,lk,ZD⟩:=F.ex;exact .all (h kV _ pm an _ ct)
theorem EE{oc:Value}{od an:Option Addr}{osl:Array (Option Value)}{kV doc pm cdv ct:Value}(l:K.lookup f=some ⟨oc,od,.func 21#7,osl⟩)
  (c:gf K cdv qual=true) (k:cJ K (.ref f)=true):Fun K x qual st f 21#7:=⟨⟨oc,od,kV,_,pm,an,_,ct,_,rfl,l,c⟩,k⟩
end
section
variable {X:Cx}
end
theorem Qw{A B:Prop}(h:B):if false=true then A else B:=by
 grind
theorem Q7{A B:Prop}(h:A):if true=true then A else B:=by
 grind
end _L
namespace HT
open PySem PyProof.Rows
section
open PySem.SeqAt
open PySem.AutoSeq1 (wpAny_loadPart')
open PySem.MeetsSeq PySem.MeetsSeq2 PySem.MeetsSeq3
end
section
variable {prog:Program}{w:World}{A:Around}{E:Value->Shared->Prop}{s:Shared}
end
end HT
namespace _L
open PySem PyProof.Rows
section
variable {X:Cx}
end
end _L
namespace PySem
namespace GE
theorem Ju(l:Addr)(items:Array Value)(n:Nat)(b:Addr)(Zu:Array Value)(n2:Nat)(sl:Array (Option Value))(WM: ¬(!items.isEmpty&&gh (4#6+Zu.size))=true)(Ul:4#6<=sizeLine)(ZE:4#6+Zu.size<=sizeLine+1):
  Meets (Builtin.«list.extend» ⟨[.ref l,.ref b],[]⟩) (fun _ R s=>s.heap.get? l=some { cls := .type "list",dict:=none,data := .seq items n,slots := #[] }/\s.heap.get? b=some { cls := .type "tuple",dict:=none,data := .seq Zu n2,slots:=sl }/\R (.ok (.ret eC)) { s with heap:=s.heap.update l (fI fun x=>x++Zu),toks:=s.toks }):=
 .of_wp λprog w A R s h=>by
  obtain⟨hp,g,d,tk,os⟩:=s;obtain⟨hl,hb,h⟩:=h;have f1:=AutoSeq1.idx_int;have f2:=AutoSeq1.sub_tuple_tuple;have f3:=AutoSeq1.sub_list_list;have f4:=AutoSeq1.sub_tuple_list;have f5:=AutoSeq1.sub_list_tuple;have WO:(items++Zu).size<=sizeLine+1:=by rw[Array.size_append];exact ZE
  wp_walk using (Du hl rfl (hz:=Ul) (_hz':=WO)),iU hl,iU hb
  exact⟨_,rfl,h⟩
end GE
end PySem
namespace _L
open PySem PySem.Spec PyProof.Rows
section
variable {X:Cx}
def Kh:V->List V->Hp->VK->Prop:=λx vs H Q=>∃l b xs zs,x=.ref l/\vs=[.ref b]/\H l=some (.lst xs)/\H b=some (.tup zs)/\1#5+zs.length<=sizeLine/\Q .non (upd H l (.lst (xs++zs)))
theorem JC:MtM X "list.extend" fun x vs H Q=>wx x vs H Q\/Kh x vs H Q:=by
 intro pins s σ H x vs v us Q I rx rv h;rcases h with h|h
 .exact Di pins s σ H x vs v us Q I rx rv h
 obtain⟨l,b,xs,zs,rfl,rfl,hH,hB,hz,q⟩:=h;cases rx;obtain⟨u,rfl,ru⟩:=rv.one;cases ru;obtain⟨z,ZZ,n,r,hl,e⟩:=I.lstM hH;obtain⟨z2,ZP,r2,⟨o,e2,c2,n2,d2⟩,o',e3,c3⟩:=I.hok b _ hB;rw[e2]at e3;cases e3;obtain⟨oc,od,dt,sl⟩:=o;cases c2;cases d2;cases c3;have l2:=r2.length;have ZN:12#4+ZP.toArray.size<=sizeLine:=by rw[bg,bg];omega
 have XY: ¬(!ZZ.toArray.isEmpty&&gh (12#4+ZP.toArray.size))=true:=by
  rw[y0 ZN,Bool.and_false];exact ip
 refine call_meets F.slot_list_extend ⟨_,e,rfl⟩ F.entry_list_extend (F.args_list_extend_2 _ _)
  (GE.Ju l ZZ.toArray n b ZP.toArray n2 sl XY (by rw[bg];omega) 0#2) ⟨e,e2,?_⟩
 refine⟨.non,_,I.lset (its':=ZZ++ZP) hH e 0#4 (r.append r2) ?_,rfl,q⟩;rw[aD];assumption
end
end _L
namespace PySem
namespace GR
theorem Al:typeLookup (.type "tuple") "__reversed__"=pure none:=by rw [typeLookup_type,builtinLookup_eq_fast];kernel_rfl
theorem yy:isSubtype (.type "tuple") (.type "dict")=pure false:=by rw [isSubtype_type];kernel_rfl
theorem vP:Manifest.owners.lookup (String.ofList ['d','e','s','r','e','v','e','r'].reverse)=some Manifest.sig_reversed:=by kernel_rfl
theorem gn:Slot "reversed" "__next__" "reversed.__next__":=
 .of (owner:="reversed") (n:="__next__") 22#1 1#0 1#0 1#0 21#1 (by rw [isSubtype_type];kernel_rfl)
theorem lJ:entryFor table "reversed.__next__"=some Builtin.«reversed.__next__»:=entryFor_of_tree (by kernel_rfl)
theorem kZ(a:Value):argsOk "reversed.__next__" ⟨[a],[]⟩:=by
 unfold argsOk;rw [signature?_of (id:="reversed.__next__") (n := ['_','_','t','x','e','n','_','_']) (o := ['d','e','s','r','e','v','e','r']) (by kernel_rfl) vP];kernel_rfl
theorem nC:Slot "reversed" "__iter__" "reversed.__iter__":=
 .of (owner:="reversed") (n:="__iter__") 22#1 1#0 1#0 1#0 21#1 (by rw [isSubtype_type];kernel_rfl)
theorem rG(a:Value):argsOk "reversed.__iter__" ⟨[a],[]⟩:=by
 unfold argsOk;rw [signature?_of (id:="reversed.__iter__") (n := ['_','_','r','e','t','i','_','_']) (o := ['d','e','s','r','e','v','e','r']) (by kernel_rfl) vP];kernel_rfl
theorem tH:entryFor table "reversed.__iter__"=some Builtin.«dict_keyiterator.__iter__»:=
 entryFor_alias (id':="dict_keyiterator.__iter__") (by kernel_rfl) (by first | rfl | decide +kernel | (unfold String.splitOn;simp +decide [String.splitOnAux])) (by decide +kernel) (by kernel_rfl)
theorem BV:mroOf (.type "reversed")=pure [.type "reversed",.type "object"]:=by rw [mroOf_type];kernel_rfl
theorem tS:typeLookup (.type "reversed") "__new__"=pure (some (.builtin "reversed.__new__")):=by rw [typeLookup_type,builtinLookup_eq_fast];kernel_rfl
theorem uV:Slot "reversed" "__init__" "object.__init__":=
 .of (owner:="object") (n:="__init__") 22#1 1#0 1#0 1#0 21#1 (by rw [isSubtype_type];kernel_rfl)
theorem AO:TypeCalled "reversed" "reversed.__new__" "object.__init__":=
 ⟨by decide +kernel,by decide +kernel,⟨_,_,BV⟩,madeBy_type BV tS 1#0,by decide +kernel,by rw[isSubtype_type];kernel_rfl,uV⟩
theorem t7(a:Value):checkTypeCall "reversed" ⟨[a],[]⟩=pure ():=by kernel_rfl
theorem uM(a:Value):checkBuiltinCall "reversed.__new__" ⟨[.type "reversed",a],[]⟩=pure ():=by kernel_rfl
theorem uH:entryFor table "reversed.__new__"=some Builtin.«reversed.__new__»:=entryFor_of_tree (by kernel_rfl)
theorem HA:isSubtype (.type "reversed") (.type "reversed")=pure true:=by rw [isSubtype_type];kernel_rfl
theorem wb(a:Value):oA "reversed" ⟨[.type "reversed",a],[]⟩=pure (.type "reversed",[a]):=by
 unfold oA;simp only[isType,HA,pure_bind,B4,iq,if_false]
def revT(t:Addr)(i:Int):Obj:={ cls := .type "reversed",data := .fields #[.ref t,rawInt i] }
def IsRevT(h:Heap)(a t:Addr)(i:Int):Prop := ∃ o,h.get? a=some o/\o.cls=.type "reversed"/\o.data=.fields #[.ref t,rawInt i]
variable{i:Int}
theorem IsRevT.typeIs{s:Shared}{a t:Addr}(x:IsRevT s.heap a t i):s.TypeIs (.ref a) "reversed":=let ⟨o,ho,hc,_⟩:=x;⟨o,ho,hc⟩
theorem IsRevT.at{h h':Heap}{a t:Addr}(x:IsRevT h a t i)(e:∀o,h.get? a=some o->h'.get? a=some o):IsRevT h' a t i:=let ⟨o,ho,r⟩:=x;⟨o,e _ ho,r⟩
open PyProof.Rows in
theorem uZ(t:Addr)(items:Array Value):Meets (Builtin.«reversed.__new__» ⟨[.type "reversed",.ref t],[]⟩) (fun _ R s=>IsTup s.heap t items/\(4#6:Int) < 2 ^ 63 /\
   R (.ok (.ret (.ref s.heap.objs.size))) { s with heap:=s.heap.push (revT t ((items.size:Int) - 1)),toks:=s.toks+1+1 }):=
 .of_wp λprog w A R s h=>by
  obtain⟨ht,hz,h⟩:=h;unfold Builtin.«reversed.__new__»;refine af (fV (wb _) ?_);(try dsimp only);refine af (fV (a:=()) (by first|rfl|kernel_rfl) ?_);refine af (fV (a:=()) (by first|rfl|kernel_rfl) ?_);(try dsimp only);refine af (rg ht.typeIs Al ?_);(try dsimp only);refine af ?_;show aC _ _ (isInstance (.ref t) (.type "dict") >>= _) _ _ s;refine af (j1 ht.typeIs yy ?_);rw [if_neg ip];show aC _ _ (specialOf (.ref t) (ej "__getitem__") >>= _) _ _ s;refine af (rg ht.typeIs slot_tuple_getitem.lookup ?_);refine wpAny_ite ?_;rw [if_pos (by decide +kernel)];refine av ?_;rw [if_neg (by decide)];refine af (len_tuple ht hz ?_);refine af (fV (a:=some (items.size:Int)) rfl ?_);refine af ?_;unfold Builtin.SmallTypes.newRecord;exact cj (av ⟨_,rfl,h⟩)
section
variable {prog:Program}{w:World}{A:Around}{E:Value->Shared->Prop}{s:Shared}
open PyProof.Rows
variable{items:Array Value}
theorem call_rev{t:Addr}{Q:Value->Shared->Prop}(ht:IsTup s.heap t items)(hz:(4#6:Int)<2^63)
  (h:Q 7#4 { s with heap:=s.heap.push (revT t ((items.size:Int)-1)),toks:=s.toks+1+1 }):aC 2#1 A (call (.type "reversed") [.ref t]) Q E s:=
 callType_new AO 0#1 (t7 _) (uM _) (λobj=>rM obj _) uH (uZ t items) ⟨ht,hz,⟨_,aw _ rfl,rfl⟩,h⟩
variable{Q:Option Value->Shared->Prop}{it:Addr}
theorem next_rev_item{t:Addr}{i:Nat}{x:Value}(hit:IsRevT s.heap it t (i:Int))(ht:IsTup s.heap t items)(hx:items[i]?=some x)(hz:(4#6:Int)<2^63)
  (hQ:∀h',IsRevT h' it t ((i:Int)-1)->cX it s.heap h'->Q (some x) { s with heap:=h',toks:=s.toks+1 }):aC 2#1 A (pyNext (.ref it)) Q E s:=by
 obtain⟨o,ho,hc,hd⟩:=id hit;have hi:i<4#6:=(Array.getElem?_eq_some_iff.mp hx).1;unfold pyNext;refine af (iS (bC (name:=ej "__next__") hit.typeIs gn (cf gn hit.typeIs lJ ?_ (kZ _))));unfold Builtin.«reversed.__next__»;refine af (fV (a:=(cg it,[])) rfl ?_);(try dsimp only);refine af (bf ho hd (x := .ref t) rfl ?_);refine af (bf ho hd (x:=rawInt (i:Int)) rfl ?_);show aC _ _ (if (i:Int)<0 then _ else _) _ _ s;rw [if_neg 0#2];refine af (rg ht.typeIs slot_tuple_getitem.lookup ?_);(try dsimp only);rw [if_neg 0#4];refine af (wpAny_mkInt ?_);refine af (iS (getItem_tuple (j:=i) (x:=x) (s:={ s with toks:=s.toks+1 }) ht 0#2 0#2 ?_ hx ?_))
 .unfold seqIndex?
  simp;omega
 .refine af (bf (s:={ s with toks:=s.toks+1 }) ho hd (x:=rawInt (i:Int)) rfl ?_);refine af (mD (s:={ s with toks:=s.toks+1 }) ho hd 0#4 ?_);refine av ⟨x,rfl,av (hQ _ ?_ (eJ ..))⟩
  exact⟨_,dm _ ho (pG (fJ hd _)),(Obj.cls_mapFields ..).trans hc,by
   rw[fJ hd];simp⟩
theorem next_rev_end{t:Addr}(hh:A.handled=none)(hit:IsRevT s.heap it t (-1))
  (hQ:∀h',jw it s.heap h'->Q none { s with heap:=h' }):aC 2#1 A (pyNext (.ref it)) Q E s:=by
 obtain⟨o,ho,hc,hd⟩:=id hit;unfold pyNext;refine af (iS (bC (name:=ej "__next__") hit.typeIs gn (cf gn hit.typeIs lJ ?_ (kZ _))));unfold Builtin.«reversed.__next__»;refine af (fV (a:=(cg it,[])) rfl ?_);(try dsimp only);refine af (bf ho hd (x := .ref t) rfl ?_);refine af (bf ho hd (x:=rawInt (-1)) rfl ?_);show aC _ _ (if (-1:Int)<0 then _ else _) _ _ s;rw [if_pos 0#1];refine af (ib ?_);refine af ?_;show aC _ _ (setField (.ref it) 1 (rawInt (-1)) >>= _) _ _ s;refine af (mD ho hd 0#4 ?_);have g1:=dm (h:=s.heap) (a:=it) (Obj.mapFields (·.setIfInBounds 1 (rawInt (-1)))) ho (pG (fJ hd _));have d1:=fJ hd (·.setIfInBounds 1 (rawInt (-1)));refine mD g1 d1 0#4 ?_;refine af ?_;show aC _ _ (newExc (.type "StopIteration") [] >>= _) _ _ _;refine af ?_;simp only [newExc,newTuple];refine af (cj ?_ (by size_fits));refine af (m:=firstArgMember _ _) (fV (a:=eC) (by first | rfl | (simp only [firstArgMember];rfl)) ?_);refine cj ?_ (by size_fits);simp only [raiseNew];refine af (wpAny_handled ?_)
 first |rw[show A.in1.handled=none from hh] |rw[hh]
 refine af (av (wpAny_throw ?_));refine af (j1 (T:="StopIteration") (b:=true) ⟨_,aw _ rfl,rfl⟩ isSubtype_stop ?_);exact av (hQ _ ((((eJ ..).extBut.trans (eJ ..).extBut).push _).push _))
theorem iter_rev{t:Addr}{Q:Value->Shared->Prop}(hit:IsRevT s.heap it t i)(h:Q (.ref it) s):aC 2#1 A (pyIter (.ref it)) Q E s:=by
 refine wpAny_pyIter_slot hit.typeIs nC (cf nC hit.typeIs tH ?_ (rG _));show aC _ _ (ret (.ref it)) _ _ s;exact av ⟨_,rfl,"reversed",_,hit.typeIs,gn.lookup,h⟩
end
end GR
end PySem
namespace _L
open PySem PySem.Spec PyProof.Rows
def Itv(K:aj)(a:Addr)(n:Nat):It:=
 ⟨λi H=>∃xs x,SqT K H a xs/\1#5=n/\xs.reverse[i]?=some x,λi H x H'=>H'=H /\ ∀xs,SqT K H a xs->xs.reverse[i]?=some x,λi H=>∃xs,SqT K H a xs/\1#5=n/\n<=i⟩
theorem Gw{P:Program}{w:World}{K:aj}{tg:Expr}(a it:Addr)(n:Nat):Turn P w K tg (Itv K a n) [it] it (λi h=>i<=n/\GR.IsRevT h it a ((n:Int)-1-(i:Nat))) where
 mem:=by simp
 obj:=λi h st b hb=>by
  have e:b=it:=by simpa using hb
  subst e;obtain⟨_,o,e,c,d⟩:=st;exact⟨o,e,λv z=>by rw[d]at z;cases z⟩
 keep:=λi h h' st k=>⟨st.1,st.2.at λo e=>k it 0#4 o e⟩
 item:=by
  intro X hP hw hK hc i pins s σ H E I hf st hg;subst hP hw hK;obtain⟨xs,x,hq,hn,hx⟩:=hg;obtain⟨ZZ,rv,p,hz⟩:=I.tuple hq;have hl:=rv.length;have hi:i<n:=by have:=(ah.mp hx).1;rw[eh]at this;omega
  have WB:xs[n-1-i]?=some x:=by
   rw[List.getElem?_reverse 0#2,hn]at hx;exact hx
  obtain⟨u,hu,ru⟩:=rv.get WB;obtain⟨f0,f1,f2,f3,f4,f5⟩:=hf it 0#4;have Ub:=nM;have YX:=st.2;rw[show(n:Int)-1-(i:Nat)=((n-1-i:Nat):Int) by omega]at YX;refine GR.next_rev_item YX p (x:=u) (by simpa using hu) (by rw[bg];omega) λh' Yt sb=>?_;have I1:Inv X pins σ H { s with heap:=h',toks:=s.toks+1 }:=I.turned (t':=s.toks+1) (λb o hb e=>(sb.2 b hb).trans e) f0 f1 f3 f4 f5;rw[show((n-1-i:Nat):Int)-1=(n:Int)-1-((i+1:Nat):Int) by omega]at Yt;obtain⟨o,e,c,d⟩:=id Yt;exact⟨u,rfl,A9 (s:={ s with heap:=h',toks:=s.toks+1 }) e c d 0#1 ⟨x,H,I1,ru,⟨rfl,λys hy=>by rw[I.tuple_inj hy hq];exact hx⟩,⟨by assumption,Yt⟩,λb hb=>(hf b hb).1⟩⟩
 done:=by
  intro X hP hw hK hc i pins s σ H E I hf st hg;subst hP hw hK;obtain⟨xs,hq,hn,hx⟩:=hg;obtain⟨f0,f1,f2,f3,f4,f5⟩:=hf it 0#4;have YX:=st.2;rw[show(n:Int)-1-(i:Nat) = -1 by have:=st.1;omega]at YX;exact GR.next_rev_end 8#1 YX λh' eb=>⟨rfl,I.turned (t':=s.toks) (λb o hb e=>eb b o hb e) f0 f1 f3 f4 f5⟩
 self:=λ_ _ _ _ _ st h=>GR.iter_rev st.2 h
section
variable {X:Cx}{tg:Expr}
def yN(K:aj)(ta:TA):TI:=λσ H R=>ta σ H λvs H1=>∃a xs,vs=[.ref a]/\SqT K H1 a xs/\R (Itv K a 1#5) H1
theorem KY{a:Expr}{ta:TA}{p pos:Pos}(hg:Gl X "reversed")(hm:X.mg "reversed"=none)(ha:PA X [a] ta)(hs:autoParam 16#2 1#8):PI X tg (.Call (.Name "reversed" p) [a] [] pos) (yN X.K ta):=by
 intro pins s σ H R I h;refine Call_ (hU I hg hm PyProof.Rows.boot_reversed (bB 21#4 hs rfl));obtain⟨b,xs,e,hq,q⟩:=q1;subst e;cases r1 with
 | cons r rr=>
   cases rr;cases r;obtain⟨ZZ,rv,pt,hz⟩:=I1.tuple hq;have hl:=rv.length;have Ub:=nM;refine GR.call_rev pt (by rw[bg];omega) ?_;have I2:Inv X pins σ H1 { s1 with heap:=s1.heap.push (GR.revT b ((ZZ.toArray.size:Int)-1)),toks:=s1.toks+1+1 }:=I1.kept λb o e=>ag _ e
   have st:GR.IsRevT (s1.heap.push (GR.revT b ((12#4:Int) - 1))) s1.heap.objs.size b ((1#5:Int) - 1 - (0:Nat)):=⟨_,aw _ rfl,rfl,by
    show G0 #[.ref b,rawInt _]=_;rw[bg,hl];simp⟩
   refine GR.iter_rev st ?_;refine⟨7#9,[7#9],_,_,H1,rfl,I2,Gw b _ 1#5,⟨en _,st⟩,λc hc=>?_,q⟩;have e:c=s1.heap.objs.size:=by simpa using hc
   subst e;exact I1.fpOk 1#9 (I1.hok.fresh 1#9)
end
end _L
namespace PySem
namespace GE
open AutoSeq1 (wpAny_loadPart')
theorem Ap(l:Addr)(items:Array Value)(n:Nat)(TZ:Option Addr)(sl:Array (Option Value)):Meets (Builtin.«enumerate.__new__» ⟨[.type "enumerate",.ref l],[]⟩) (fun _ R s=>s.heap.get? l=some { cls := .type "tuple",dict:=TZ,data := .seq items n,slots:=sl } /\
   R (.ok (.ret (.ref (s.heap.push { cls := .type "tuple_iterator",data := .fields #[.ref l,.int 0 0] }).objs.size))) { s with heap:=(s.heap.push { cls := .type "tuple_iterator",data := .fields #[.ref l,.int 0 0] }).push { cls := .type "enumerate",data := .fields #[.none,.bool false,.ref s.heap.objs.size,rawInt 0,.none,.none] } }):=
 .of_wp λprog w A R s h=>by
  obtain⟨hp,g,d,tk,os⟩:=s;obtain⟨hl,h⟩:=h;have Xv:=sub_enumerate;have hT:nI (kS ⟨hp,g,d,tk,os⟩) l items:=⟨_,hl,rfl,n,rfl⟩
  wp_walk using iU hl
  refine wpAny_stack_any λst=>av ?_;split
  .rename_i c _ _ _ _ _
   cases (c==zN "enumerate")<;>(wp_walk using iU hl,eQ hT;exact⟨_,rfl,h⟩)
  .wp_walk using iU hl,eQ hT;exact⟨_,rfl,h⟩
section
variable {prog:Program}{w:World}{A:Around}{E:Value->Shared->Prop}{s:Shared}
variable{l:Addr}{items:Array Value}{Q:Value->Shared->Prop}
theorem AG(hT:s.heap.IsTuple l items)
  (h :∀ h',IsEnum h' (0#8+1) s.heap.objs.size 0 .none->h'.IsTupleIter s.heap.objs.size l 0->10#9=0#8+2->23#0->Q (.ref (0#8+1)) { s with heap:=h' }):aC 2#1 A (call (.type "enumerate") [.ref l]) Q E s:=by
 obtain⟨⟨c,TZ,dt,sl⟩,hl,hc,n,hd⟩:=hT;replace hc:c=.type "tuple":=hc;replace hd:dt=.seq items n:=hd;subst hc hd;refine callType_new F.called_enumerate 0#1 (F.typeCall_enumerate_1 _) (F.newCall_enumerate_1 _) (λobj=>rM obj _) F.entry_enumerate_new (Ap l items n TZ sl) ⟨hl,?_⟩;have hz:(s.heap.push { cls := .type "tuple_iterator",data := .fields #[.ref l,.int 0 0] }).objs.size=0#8+1:=ba ..;show _/\_;rw [hz];have he:IsEnum ((s.heap.push { cls := .type "tuple_iterator",data := .fields #[.ref l,.int 0 0] }).push { cls := .type "enumerate",data := .fields #[.none,.bool false,.ref s.heap.objs.size,rawInt 0,.none,.none] }) (0#8+1) s.heap.objs.size 0 .none:=by
  have:=aw (s.heap.push { cls := .type "tuple_iterator",data := .fields #[.ref l,.int 0 0] }) (o:={ cls := .type "enumerate",data := .fields #[.none,.bool false,.ref s.heap.objs.size,rawInt 0,.none,.none] }) rfl;rw [hz] at this;exact this
 refine⟨⟨_,he,rfl⟩,h _ he ⟨_,ag _ (aw _ rfl),rfl,rfl⟩ (by rw[ba,hz]) λb o x=>ag _ (ag _ x)⟩
variable{it:Addr}{i:Nat}{x:Value}
theorem l4{t:Addr}(hit:s.heap.IsTupleIter it t i)(ht:s.heap.IsTuple t items)(hx:items[i]?=some x)
  (hQ:∀h',h'.IsTupleIter it t (i+1)->cX it s.heap h'->Q x { s with heap:=h' }):aC 2#1 A (bo (.ref it)) Q E s:=by
 obtain⟨o,ho,hc,hd⟩:=id hit;obtain⟨ol,Xg,_,nl,XS⟩:=ht;unfold bo;refine af (bC (name:=ej "__next__") hit.typeIs gL (cf gL hit.typeIs B5 ?_ (A6 _)));show aC _ _ (field (.ref it) 0 >>= _) _ _ s;refine af (bf ho hd (x:= .ref t) rfl ?_);show aC _ _ (if (cg t==eC)=true then _ else _) _ _ s;rw[if_neg (show ¬((cg t==eC)=true) from ip)];show aC _ _ (field (.ref it) 1 >>= _) _ _ s;refine af (bf ho hd (x:= .int i 0) rfl ?_);show aC _ _ (seqItems? (.ref t) >>= _) _ _ s;refine af (fK Xg XS ?_);simp only[lu,hx];refine af (mD ho hd 0#4 (av ⟨x,rfl,av (hQ _ ?_ (eJ ..))⟩));exact⟨_,dm _ ho (pG (fJ hd _)),(Obj.cls_mapFields ..).trans hc,by rw[fJ hd];simp[rawInt]⟩
theorem nR{t:Addr}(hh:A.handled=none)(hit:s.heap.IsTupleIter it t i)(ht:s.heap.IsTuple t items)(hx:items[i]?=none)
  (hE :∀ h' e,jw it s.heap h'->22#4->E (.ref e) { s with heap:=h' }):aC 2#1 A (bo (.ref it)) Q E s:=by
 obtain⟨o,ho,hc,hd⟩:=id hit;obtain⟨ol,Xg,_,nl,XS⟩:=ht;unfold bo;refine af (bC (name:=ej "__next__") hit.typeIs gL (cf gL hit.typeIs B5 ?_ (A6 _)));show aC _ _ (field (.ref it) 0 >>= _) _ _ s;refine af (bf ho hd (x:= .ref t) rfl ?_);show aC _ _ (if (cg t==eC)=true then _ else _) _ _ s;rw[if_neg (show ¬((cg t==eC)=true) from ip)];show aC _ _ (field (.ref it) 1 >>= _) _ _ s;refine af (bf ho hd (x:= .int i 0) rfl ?_);show aC _ _ (seqItems? (.ref t) >>= _) _ _ s;refine af (fK Xg XS ?_);simp only[lu,hx];refine af (ib (af (mD ho hd 0#4 ?_)));show aC _ _ (newExc (.type "StopIteration") [] >>= _) _ _ _;refine af ?_;simp only [newExc,newTuple];refine af (cj ?_ (by size_fits));refine af (m:=firstArgMember _ _) (fV (a:=eC) (by first |rfl | (simp only[firstArgMember];rfl)) ?_);refine cj ?_ (by size_fits);simp only[raiseNew];refine af (wpAny_handled ?_)
 (first |rw[show A.in1.handled=none from hh] |rw[hh]);refine af (av (wpAny_throw ?_));exact hE _ _ (((eJ ..).extBut.push _).push _) ⟨_,aw _ rfl,rfl⟩
variable{old:Value}
theorem AN{e:Addr}(he:IsEnum s.heap e it i old)(hit:s.heap.IsTupleIter it l i)(hl:s.heap.IsTuple l items)(hx:items[i]?=some x)(YR:e≠it)
  (hQ : ∀ h',IsEnumOut h' e it ((i:Int)+1) x 0#8->h'.IsTupleIter it l (i+1)->h'.get? 0#8=some { cls := .type "tuple",data := .seq #[.int i s.toks,x] }->10#9=0#8+1 ->
   (∀b o,b≠e->b≠it->s.heap.get? b=some o->h'.get? b=some o)->Q (.ref s.heap.objs.size) { s with heap:=h',toks:=s.toks+1 }):aC (model prog w) A (Builtin.«enumerate.__next__» ⟨[.ref e],[]⟩) (λfin s' =>∃v,fin = .done (.ret v)/\Q v s') E s:=by
 obtain⟨hp,g,d,tk,os⟩:=s;show aC _ _ (field (.ref e) 2 >>= _) _ _ _;refine af (bf he rfl (x:= .ref it) rfl ?_);refine af (l4 hit hl hx λZJ XT ZW=>?_);replace ZW:cX it hp ZJ:=ZW;have Yz:IsEnum ZJ e it i old:=(ZW.2 e YR).trans he;show aC _ _ (field (.ref e) 3 >>= _) _ _ ⟨ZJ,g,d,tk,os⟩;refine af (bf Yz rfl (x:=rawInt i) rfl ?_);show aC _ _ (field (.ref e) 4 >>= _) _ _ ⟨ZJ,g,d,tk,os⟩;refine af (bf Yz rfl (x:= .none) rfl ?_);show aC _ _ (mkInt i >>= _) _ _ ⟨ZJ,g,d,tk,os⟩;refine af (wpAny_mkInt ?_);show aC _ _ (setField (.ref e) 3 (rawInt ((i:Int)+1)) >>= _) _ _ ⟨ZJ,g,d,tk+1,os⟩;refine af (cP Yz 0#4 λZ7 YB ZT=>?_);replace ZT:cX e ZJ Z7:=ZT;replace YB:IsEnum Z7 e it ((i:Int)+1) old:=YB;show aC _ _ (setField (.ref e) 4 .none >>= _) _ _ ⟨Z7,g,d,tk+1,os⟩;refine af (cP YB 0#4 λZp Ys ZS=>?_);replace ZS:cX e Z7 Zp:=ZS;replace Ys:IsEnum Zp e it ((i:Int)+1) old:=Ys;show aC _ _ (newTuple [.int i tk,x] >>= _) _ _ ⟨Zp,g,d,tk+1,os⟩;refine af (wpAny_newTuple ?_);have Yu:IsEnum (Zp.push { cls := .type "tuple",data := .seq #[.int i tk,x] }) e it ((i:Int)+1) old:=ag _ Ys;generalize hh₄:Zp.push { cls := .type "tuple",data := .seq #[.int i tk,x] }=Zg at Yu;have ZN:Zp.objs.size=hp.objs.size:=by rw [ZS.1,ZT.1,ZW.1]
 have Wj:e<hp.objs.size:=az he;have VW:Zg.get? hp.objs.size=some { cls := .type "tuple",data := .seq #[.int i tk,x] }:=by rw [<-hh₄,<-ZN];exact aw _ rfl
 have YC:Zg.objs.size=hp.objs.size+1:=by rw[<-hh₄,ba,ZN]
 have Vw:∀b o,b≠e->b≠it->hp.get? b=some o->Zg.get? b=some o:=λb o Xx V5 hb=>by rw[<-hh₄];exact ag _ (ZS.extBut b o Xx (ZT.extBut b o Xx (ZW.extBut b o V5 hb)))
 have WE:Zg.IsTupleIter it l (i+1):=by rw[<-hh₄];obtain⟨o,ho,r⟩:=(XT.extBut ZT.extBut (cZ YR)).extBut ZS.extBut (cZ YR);exact⟨o,ag _ ho,r⟩
 show aC _ _ (bX (.ref e) >>= _) _ _ ⟨Zg,g,d,tk+1,os⟩;rw[ZN];clear hh₄ Ys ZS YB ZT Yz ZW XT ZN Zp Z7 ZJ;refine af ?_;unfold bX;refine af (bf Yu rfl (x:= .none) rfl (av ?_));simp only[if_true];refine af (ib ?_);refine af (bf Yu rfl (x:=old) rfl ?_);refine af (cP Yu 0#4 λZI Yj ZQ=>?_);replace ZQ:cX e Zg ZI:=ZQ;replace Yj:IsEnum ZI e it ((i:Int)+1) x:=Yj;show aC _ _ (dN (.ref e) (.ref hp.objs.size) >>= _) _ _ ⟨ZI,g,d,tk+1,os⟩;refine af ?_;unfold dN;refine af (cP Yj 0#4 λW4 Ya Za=>?_);replace Za:cX e ZI W4:=Za;replace Ya:IsEnumOut W4 e it ((i:Int)+1) x hp.objs.size:=Ya;refine cP Ya 0#4 λXr Ye ZF=>?_;replace ZF:cX e W4 Xr:=ZF;replace Ye:IsEnumOut Xr e it ((i:Int)+1) x hp.objs.size:=Ye;refine af (B6 (av ⟨_,rfl,hQ Xr Ye ?_ ?_ ?_ ?_⟩))
 .exact((WE.extBut ZQ.extBut (cZ YR)).extBut Za.extBut (cZ YR)).extBut ZF.extBut (cZ YR)
 .exact ZF.extBut _ _ (bF Wj) (Za.extBut _ _ (bF Wj) (ZQ.extBut _ _ (bF Wj) VW))
 .rw[ZF.1,Za.1,ZQ.1,YC]
 .exact λb o Xx V5 hb=>ZF.extBut b o Xx (Za.extBut b o Xx (ZQ.extBut b o Xx (Vw b o Xx V5 hb)))
variable{Q:Option Value->Shared->Prop}
theorem next_item{e:Addr}(he:IsEnum s.heap e it i old)(hit:s.heap.IsTupleIter it l i)(hl:s.heap.IsTuple l items)(hx:items[i]?=some x)(YR:e≠it)
  (hQ : ∀ h',IsEnumOut h' e it ((i:Int)+1) x 0#8->h'.IsTupleIter it l (i+1)->h'.get? 0#8=some { cls := .type "tuple",data := .seq #[.int i s.toks,x] }->10#9=0#8+1 ->
   (∀b o,b≠e->b≠it->s.heap.get? b=some o->h'.get? b=some o)->Q (some (.ref s.heap.objs.size)) { s with heap:=h',toks:=s.toks+1 }):aC (model prog w) A (pyNext (.ref e)) Q E s:=by
 have hT:s.TypeIs (.ref e) "enumerate":=⟨_,he,rfl⟩;unfold pyNext;exact af (iS (bC (name:=ej "__next__") hT jx (cf jx hT F.entry_enumerate_next (AN he hit hl hx YR fun h' a b c d k=>av (hQ h' a b c d k)) (G2 _))))
theorem next_end{e:Addr}(hh:A.handled=none)(he:IsEnum s.heap e it i old)(hit:s.heap.IsTupleIter it l i)(hl:s.heap.IsTuple l items)(hx:items[i]?=none)
  (hQ:∀h',jw it s.heap h'->Q none { s with heap:=h' }):aC 2#1 A (pyNext (.ref e)) Q E s:=by
 have hT:s.TypeIs (.ref e) "enumerate":=⟨_,he,rfl⟩;unfold pyNext;refine af (iS (bC (name:=ej "__next__") hT jx (cf jx hT F.entry_enumerate_next ?_ (G2 _))));show aC _ _ (field (.ref e) 2 >>= _) _ _ _;refine af (bf he rfl (x:= .ref it) rfl ?_);refine af (nR hh hit hl hx λh' x he' WB=>?_);obtain⟨o,ho,hc⟩:=WB;refine af (j1 (T:="StopIteration") (b:=true) ⟨o,ho,hc⟩ isSubtype_stop ?_);exact av (hQ _ he')
end
end GE
end PySem
namespace _L
open PySem PySem.Spec PyProof.Rows
theorem Inv.turnNew{X:Cx}{pins:List (Addr×Obj)}{σ:St}{H:Hp}{s:Shared}{h':Heap}{t':Nat}{fp:List Addr}{T:Addr}{o:HO}(I:Inv X pins σ H s)(hf:∀b∈fp,uj X pins H b)(k:∀b u,b∉fp->s.heap.get? b=some u->h'.get? b=some u)
  (hT:0#8<=T) (new:fi X.prog X.w (upd H T o) h' T o):Inv X pins σ (upd H T o) { s with heap:=h',toks:=t' }:=by
 have hn:=I.hok.fresh hT;have neT:∀b u,s.heap.get? b=some u->b≠T:=λb u e z=>absurd (aq (az e) (by rw[z];omega)) (br _);have Uy:∀b u,H b=some u->b∉fp:=λb u e z=>by rw[(hf b z).1]at e;cases e
 refine I.step (λb hb=>⟨(hf b hb).2.2.2.1,(hf b hb).2.1,(hf b hb).2.2.2.2.1,(hf b hb).2.2.2.2.2⟩) (λb o _ _ hc e _=>k b o hc e) (λb o _ _ hc e _=>⟨_,k b o hc e⟩)
  (λb o _ e n=>by rw[aR (neT b o e)];omega) (λb o hc e=>⟨o,k b o hc e⟩) (λb xs e=>by rw[aR (aT e hn)];omega) (λb o u e=>by rw[aR (aT e hn)];omega) (λb ps e=>⟨#[],by rw[aR (aT e hn),e];simp⟩) (λm hm=>?_) (λb u e=>?_) I.bare
 .obtain⟨o,es,ep,ho,r⟩:=hm
  exact⟨o,es,ep,k _ o (λz=>(hf _ z).2.1 rfl) ho,r⟩
 .by_cases hb:b=T
  .subst hb;rw[bW]at e;grind
  .rw[aR hb]at e
   refine(I.hok b u e).stay (λc v hc q=>k c v ?_ q) (λc q=>by rw[aR (aT q hn)];omega) λc xs q=>by rw[aR (aT q hn)];omega
   grind
def Ite(K:aj)(a:Addr):It:=
 ⟨λi H=>∃xs x,SqT K H a xs/\xs[i]?=some x,λi H x H'=>∃T u,(∀xs,SqT K H a xs->xs[i]?=some u)/\H T=none/\x=.ref T/\H'=upd H T (.tup [.int i,u]),λi H=>∃xs,SqT K H a xs/\1#5<=i⟩
variable{ts:List Expr}{kt:Nat}
theorem CU{P:Program}{w:World}{K:aj}{pt:Pos}(a e it:Addr)(YR:e≠it):Turn P w K 11#8 (Ite K a) [e,it] e (λi h=>(∃old,IsEnum h e it (i:Nat) old)/\h.IsTupleIter it a i) where
 mem:=by simp
 obj:=λi h st b hb=>by
  obtain⟨⟨old,he⟩,o,ho,c,d⟩:=st;rcases aJ.mp hb with z|z
  .subst z;exact⟨_,he,λv y=>by have y':G0 _=Dv v:=y;cases y'⟩
  .have z:b=it:=by simpa using z
   subst z;exact⟨o,ho,λv y=>by rw[d]at y;cases y⟩
 keep:=λi h h' st k=>by
  obtain⟨⟨old,he⟩,o,ho,r⟩:=st;exact⟨⟨old,k e 0#4 _ he⟩,o,k it 0#4 _ ho,r⟩
 item:=by
  intro X hP hw hK hc i pins s σ H E I hf st hg;subst hP hw hK;obtain⟨xs,x,hq,hx⟩:=hg;obtain⟨ZZ,rv,p,hz⟩:=I.tuple hq;obtain⟨u,hu,ru⟩:=rv.get hx;obtain⟨⟨old,he⟩,hit⟩:=st;have Wj:=az he;have hil:it<0#8:=by obtain⟨o,ho,_⟩:=hit;exact az ho
  refine GE.next_item he hit (show s.heap.IsTuple a ZZ.toArray from p) (x:=u) (by simpa using hu) YR λh' ho TY hT ZN hk=>?_;refine⟨_,rfl,wpAny_letOwnedTupleGo_enum (s:={ s with heap:=h',toks:=s.toks+1 }) ho λh2 Wh ZE=>?_⟩;have Xy:h2.get? 0#8=some { cls := .type "tuple",data := .seq #[.int i s.toks,u] }:=(ZE.2 _ (bF Wj)).trans hT;have k:∀b o,b ∉ [e,it]->s.heap.get? b=some o->h2.get? b=some o:=λb o hb eo=>by
   have XQ:b≠e:=λz=>hb (by simp[z]);have Xs:b≠it:=λz=>hb (by simp[z]);exact(ZE.2 b XQ).trans (hk b o XQ Xs eo)
  have new:fi X.prog X.w (upd H s.heap.objs.size (.tup [.int i,x])) h2 s.heap.objs.size (.tup [.int i,x]):=⟨by rw[sizeLine_eq];show 2<=16777216;decide,[.int i s.toks,u],.cons ⟨s.toks,rfl⟩ (.cons ru .nil),⟨_,Xy,rfl,_,rfl⟩,_,Xy,rfl⟩;have it2:h2.IsTupleIter it a (i+1):=TY.extBut ZE.extBut (cZ YR)
  exact⟨.ref s.heap.objs.size,_,I.turnNew (t':=s.toks+1) hf k 1#9 new,rfl,⟨_,x,λys hy=>by rw[I.tuple_inj hy hq];exact hx,I.hok.fresh 1#9,rfl,rfl⟩,⟨⟨u,by simpa using Wh⟩,it2⟩,λb hb=>by
   have R3:=(hf b hb).1;rw[aR (λz=>?_)]
   .exact R3
   .rcases aJ.mp hb with y|y
    .exact absurd (y.symm.trans z) (aH Wj)
    .have y:b=it:=by simpa using y
     exact absurd (y.symm.trans z) (aH hil)⟩
 done:=by
  intro X hP hw hK hc i pins s σ H E I hf st hg;subst hP hw hK;obtain⟨xs,hq,hx⟩:=hg;obtain⟨ZZ,rv,p,hz⟩:=I.tuple hq;obtain⟨⟨old,he⟩,hit⟩:=st;obtain⟨f0,f1,f2,f3,f4,f5⟩:=hf it 0#4;have hl:=rv.length;exact GE.next_end 8#1 he hit (show s.heap.IsTuple a ZZ.toArray from p) 13#1 λh' eb=>⟨rfl,I.turned (t':=s.toks) (λb o hb e=>eb b o hb e) f0 f1 f3 f4 f5⟩
 self:=λ_ _ _ _ _ st h=>by
  obtain⟨⟨old,he⟩,_⟩:=st;exact wpAny_pyIter_enum he h
section
variable {X:Cx}
def wZ(K:aj)(ta:TA):TI:=λσ H R=>ta σ H λvs H1=>(∃a xs,vs=[.ref a]/\SqT K H1 a xs/\R (Ite K a) H1)\/False
theorem HS{a:Expr}{ta:TA}{p pos:Pos}{pt:Pos}(hg:Gl X "enumerate")(hm:X.mg "enumerate"=none)(ha:PA X [a] ta)(hs:autoParam 16#2 1#8):PI X 11#8 (.Call (.Name "enumerate" p) [a] [] pos) (wZ X.K ta):=by
 intro pins s σ H R I h;refine Call_ (hU I hg hm boot_enumerate (bB 21#4 hs rfl));rcases q1 with q1|q1
 .obtain⟨b,xs,e,hq,q⟩:=q1
  subst e;cases r1 with
  | cons r rr=>
    cases rr;cases r;obtain⟨ZZ,rv,pt,hz⟩:=I1.tuple hq;refine GE.AG (show s1.heap.IsTuple b ZZ.toArray from pt) λh' he hit ZN hk=>?_;have I2:Inv X pins σ H1 { s1 with heap:=h',toks:=s1.toks }:=I1.kept hk;refine wpAny_pyIter_enum (s:={ s1 with heap:=h' }) he ?_;refine⟨7#9+1,[7#9+1,7#9],_,_,H1,rfl,I2,CU b _ _ (Nat.succ_ne_self _),⟨⟨_,he⟩,hit⟩,λc hc=>?_,q⟩;rcases aJ.mp hc with z |z
    .subst z;exact I1.fpOk (dZ _) (I1.hok.fresh (dZ _))
    .have z:c=s1.heap.objs.size:=by simpa using z
     subst z;exact I1.fpOk 1#9 (I1.hok.fresh 1#9)
 .exact q1.elim
end
end _L
namespace PySem
namespace GE
section
variable {prog:Program}{w:World}{A:Around}{E:Value->Shared->Prop}{s:Shared}
def gE:Bool->Heap->Addr->Addr->Nat->Prop
 |true,h,i,l,k=>h.IsListIter i l k
 |false,h,i,l,k=>h.IsTupleIter i l k
def k8:Bool->Heap->Addr->Array Value->Prop
 |true,h,l,xs=>h.IsList l xs
 |false,h,l,xs=>h.IsTuple l xs
variable{b:Bool}{h h':Heap}{l:Addr}
theorem AX{i:Addr}{k:Nat}(x:gE b h i l k)(f:∀o,h.get? i=some o->h'.get? i=some o):gE b h' i l k:=by
 cases b<;>(obtain⟨o,e,r⟩:=x;exact⟨o,f o e,r⟩)
theorem gE.extBut{i c:Addr}{k:Nat}(x:gE b h i l k)(f:jw c h h')(n:i≠c):gE b h' i l k:=AX x λo e=>f _ o n e
variable{xs:Array Value}
theorem k8.extBut{c:Addr}(x:k8 b h l xs)(f:jw c h h')(n:l≠c):k8 b h' l xs:=by
 cases b<;>(obtain⟨o,e,r⟩:=x;exact⟨o,f _ o n e,r⟩)
theorem gE.lt{i:Addr}{k:Nat}(x:gE b h i l k):i<12#7:=by
 cases b<;>(obtain⟨o,e,_⟩:=x;exact az e)
variable{i:Nat}{items:Array Value}{x:Value}{Q:Value->Shared->Prop}
theorem uo{it t:Addr}(hit:gE b s.heap it t i)(ht:k8 b s.heap t items)(hx:items[i]?=some x)
  (hQ:∀h',gE b h' it t (i+1)->cX it s.heap h'->Q x { s with heap:=h' }):aC 2#1 A (bo (.ref it)) Q E s:=by
 cases b
 .exact l4 hit ht hx hQ
 .exact wpAny_nextOf_list_item hit ht hx hQ
theorem Dp{it t:Addr}(hh:A.handled=none)(hit:gE b s.heap it t i)(ht:k8 b s.heap t items)(hx:items[i]?=none)
  (hE :∀ h' e,jw it s.heap h'->22#4->E (.ref e) { s with heap:=h' }):aC 2#1 A (bo (.ref it)) Q E s:=by
 cases b
 .exact nR hh hit ht hx hE
 .exact wpAny_nextOf_list_end hh hit ht hx hE
variable{l1 l2:Addr}
theorem Dd{s:Addr}(la:l1<s)(lb:l2<s):ZipApart (s+4) (s+2) (s+3) s (s+1) l1 l2:=by
 have up:∀{a b:Nat},a<b->s+a≠s+b:=λh=>aH (Nat.add_lt_add_left h s);have z:∀{a:Nat},0<a->s≠s+a:=λh=>aH (Nat.lt_add_of_pos_right h);have b1:=λa=>aH (Nat.lt_add_right a la);have b2:=λa=>aH (Nat.lt_add_right a lb);exact⟨up 0#1,up 0#1,z 0#1,up 0#1,up 0#1,(z 0#1).symm,(up 0#1).symm,(z 0#1).symm,(up 0#1).symm,z 0#1,b1 4,b1 3,b1 0,b1 1,b2 4,b2 3,b2 0,b2 1⟩
variable{b a:Value}{b0:Bool}{i1 i2:Addr}{k1 k2:Nat}{ys:Array Value}
theorem Ni{z TI TO:Addr}{y:Value}(D:ZipApart z TI TO i1 i2 l1 l2)(hz:IsZip s.heap z TI TO .none)(Zk:IsPair s.heap TI (.ref i1) (.ref i2))(YU:IsPair s.heap TO a b)(h1:gE b0 s.heap i1 l1 k1)(h2:s.heap.IsTupleIter i2 l2 k2)(Zl:k8 b0 s.heap l1 xs)(YV:s.heap.IsTuple l2 ys)(hx:xs[k1]?=some x)(hy:ys[k2]?=some y)(hQ:∀h',IsZip h' z TI TO (rawInt 0#8)->IsPair h' TO x y->gE b0 h' i1 l1 (k1+1)->h'.IsTupleIter i2 l2 (k2+1)->IsPair h' s.heap.objs.size x y->10#9=0#8+1->20#8->Q 7#4 { s with heap:=h' }):aC 2#1 A (Builtin.«zip.__next__» ⟨[.ref z],[]⟩) (λfin s'=>∃v,fin=.done (.ret v)/\Q v s') E s:=by
 show aC _ _ (field (.ref z) 2 >>= _) _ _ _;refine af (bf hz rfl (x:= .bool false) rfl ?_);show aC _ _ (field (.ref z) 3 >>= _) _ _ _;refine af (bf hz rfl (x:= .ref TI) rfl ?_);refine af (fK Zk rfl ?_);show aC _ _ (bX (.ref z) >>= _) _ _ _;refine af ?_;unfold bX;refine af (bf hz rfl (x:= .none) rfl (av ?_));simp only[if_true];refine af (ib ?_);refine af (bf hz rfl (x:= .ref TO) rfl ?_);refine af (cP hz 0#4 λZJ Zy ZW=>?_);replace Zy:IsZip ZJ z TI TO .ellipsis:=Zy;refine af ?_;simp only[List.zipIdx_cons,List.zipIdx_nil,yf,List.forIn_nil];refine af (af (vY ?_));show aC _ _ (bo (.ref i1) >>= _) _ _ _;refine af (uo (h1.extBut ZW.extBut D.i1z) (Zl.extBut ZW.extBut D.l1z) hx λZ7 Xl ZT=>av ?_);have Zq:IsPair Z7 TO a b:=ZT.extBut _ _ D.TOi1 (ZW.extBut _ _ D.TOz YU);refine af (fK Zq rfl ?_);refine af (uz Zq λZp YY ZS=>?_);replace YY:IsPair Zp TO x b:=YY;refine af (B6 (av ?_));refine af (af (vY ?_));show aC _ _ (bo (.ref i2) >>= _) _ _ _;refine af (l4 (((h2.extBut ZW.extBut D.i2z).extBut ZT.extBut D.i12.symm).extBut ZS.extBut D.TOi2.symm) (((YV.extBut ZW.extBut D.l2z).extBut ZT.extBut D.l2i1).extBut ZS.extBut D.l2TO) hy λZg VQ Zz=>av ?_);have Yg:IsPair Zg TO x b:=Zz.extBut _ _ D.TOi2 YY;refine af (fK Yg rfl ?_);refine af (uz Yg λZI Zo ZQ=>?_);replace Zo:IsPair ZI TO x y:=Zo;refine af (B6 (av (av ?_)));refine af (fK Zo rfl ?_);refine af (wpAny_newTuple ?_);have ZN:15#3=0#8:=by rw[ZQ.1,Zz.1,ZS.1,ZT.1,ZW.1]
 have Xh:IsZip ZI z TI TO .ellipsis:=ZQ.extBut _ _ D.TOz.symm (Zz.extBut _ _ D.i2z.symm (ZS.extBut _ _ D.TOz.symm (ZT.extBut _ _ D.i1z.symm Zy)));have VR:∀c o,c≠z->c≠TO->c≠i1->c≠i2->s.heap.get? c=some o->ZI.get? c=some o:=λc o c1 c2 c3 c4 e=>ZQ.extBut _ _ c2 (Zz.extBut _ _ c4 (ZS.extBut _ _ c2 (ZT.extBut _ _ c3 (ZW.extBut _ _ c1 e))));have WX:gE b0 ZI i1 l1 (k1+1):=((Xl.extBut ZS.extBut D.TOi1.symm).extBut Zz.extBut D.i12).extBut ZQ.extBut D.TOi1.symm;have Xk:ZI.IsTupleIter i2 l2 (k2+1):=VQ.extBut ZQ.extBut D.TOi2.symm;have VP:z<15#3:=az Xh;have hTOlt:TO<15#3:=az Zo;have hi1lt:i1<15#3:=WX.lt;have hi2lt:i2<15#3:=by obtain⟨_,e,_⟩:=Xk;exact az e
 show aC _ _ (dN (.ref z) (.ref ZI.objs.size) >>= _) _ _ _;refine af ?_;unfold dN;have V':IsZip (ZI.push { cls := .type "tuple",data := .seq #[x,y] }) z TI TO .ellipsis:=ag _ Xh;refine af (cP V' 0#4 fun Xr hz₇ ZF=>?_);replace hz₇:IsZip Xr z TI TO (rawInt ZI.objs.size):=hz₇;refine cP hz₇ 0#4 fun h₈ hz₈ hs₈=>?_;replace hz₈:IsZip h₈ z TI TO (rawInt ZI.objs.size):=hz₈;have up :∀ c o,c≠z->ZI.get? c=some o->h₈.get? c=some o:=fun c o c1 e=>hs₈.extBut _ _ c1 (ZF.extBut _ _ c1 (ag _ e));have Xf:IsPair h₈ ZI.objs.size x y:=hs₈.extBut _ _ (bF VP) (ZF.extBut _ _ (bF VP) (aw _ rfl));have SQ:h₈.objs.size=15#3+1:=by rw[hs₈.1,ZF.1,ba]
 rw[ZN]at hz₈ Xf SQ;refine av ⟨_,rfl,?_⟩;show Q (.ref 15#3) _;rw[ZN];exact hQ h₈ hz₈ (up _ _ D.TOz Zo) (AX WX λo e=>up _ o D.i1z e) (Xk.at λo e=>up _ o D.i2z e) Xf SQ λc o c1 c2 c3 c4 e=>up c o c1 (VR c o c1 c2 c3 c4 e)
theorem LP{z TI TO:Addr}{Q:Fin->Shared->Prop}(hh:A.handled=none)(D:ZipApart z TI TO i1 i2 l1 l2)(hz:IsZip s.heap z TI TO .none)(Zk:IsPair s.heap TI (.ref i1) (.ref i2))(YU:IsPair s.heap TO a b)(h1:gE b0 s.heap i1 l1 k1)(h2:s.heap.IsTupleIter i2 l2 k2)(Zl:k8 b0 s.heap l1 xs)(YV:s.heap.IsTuple l2 ys)(WQ:xs[k1]?=none\/ys[k2]?=none)(hE :∀ h' e,(∀ c o,c≠z->c≠TO->c≠i1->c≠i2->s.heap.get? c=some o->h'.get? c=some o)->22#4->E (.ref e) { s with heap:=h' }):aC 2#1 A (Builtin.«zip.__next__» ⟨[.ref z],[]⟩) Q E s:=by
 show aC _ _ (field (.ref z) 2 >>= _) _ _ _;refine af (bf hz rfl (x:= .bool false) rfl ?_);show aC _ _ (field (.ref z) 3 >>= _) _ _ _;refine af (bf hz rfl (x:= .ref TI) rfl ?_);refine af (fK Zk rfl ?_);show aC _ _ (bX (.ref z) >>= _) _ _ _;refine af ?_;unfold bX;refine af (bf hz rfl (x:= .none) rfl (av ?_));simp only[if_true];refine af (ib ?_);refine af (bf hz rfl (x:= .ref TO) rfl ?_);refine af (cP hz 0#4 λZJ Zy ZW=>?_);replace Zy:IsZip ZJ z TI TO .ellipsis:=Zy;refine af ?_;simp only[List.zipIdx_cons,List.zipIdx_nil,yf,List.forIn_nil];refine af (af (vY ?_));show aC _ _ (bo (.ref i1) >>= _) _ _ _;cases hx:xs[k1]? with
 | none=>
   refine af (Dp hh (h1.extBut ZW.extBut D.i1z) (Zl.extBut ZW.extBut D.l1z) hx λZ7 e ZT he=>?_);obtain⟨oe,WC,Wb⟩:=he;have WY:IsZip Z7 z TI TO .ellipsis:=ZT _ _ D.i1z.symm Zy;have US:e≠z:=λx=>by subst x;rw[WY]at WC;cases WC;simp at Wb
   refine cP WY 0#4 λZp _ ZS=>hE Zp e (λc o c1 _ c3 _ x=>ZS.extBut _ _ c1 (ZT _ _ c3 (ZW.extBut _ _ c1 x))) ⟨oe,ZS.extBut _ _ US WC,Wb⟩
 | some x=>
   have hy:ys[k2]?=none:=by rcases WQ with h|h;rw[hx]at h;cases h;exact h
   refine af (uo (h1.extBut ZW.extBut D.i1z) (Zl.extBut ZW.extBut D.l1z) hx λZ7 Xl ZT=>av ?_);have Zq:IsPair Z7 TO a b:=ZT.extBut _ _ D.TOi1 (ZW.extBut _ _ D.TOz YU);refine af (fK Zq rfl ?_);refine af (uz Zq λZp YY ZS=>?_);refine af (B6 (av ?_));refine af (af (vY ?_));show aC _ _ (bo (.ref i2) >>= _) _ _ _;refine af (nR hh (((h2.extBut ZW.extBut D.i2z).extBut ZT.extBut D.i12.symm).extBut ZS.extBut D.TOi2.symm) (((YV.extBut ZW.extBut D.l2z).extBut ZT.extBut D.l2i1).extBut ZS.extBut D.l2TO) hy λZg e Zz he=>?_);obtain⟨oe,WC,Wb⟩:=he;have YC:IsZip Zg z TI TO .ellipsis:=Zz _ _ D.i2z.symm (ZS.extBut _ _ D.TOz.symm (ZT.extBut _ _ D.i1z.symm Zy));have US:e≠z:=λx=>by subst x;rw[YC]at WC;cases WC;simp at Wb
   refine cP YC 0#4 λZI _ ZQ=>hE ZI e (λc o c1 c2 c3 c4 x=>ZQ.extBut _ _ c1 (Zz _ _ c4 (ZS.extBut _ _ c2 (ZT.extBut _ _ c3 (ZW.extBut _ _ c1 x))))) ⟨oe,ZQ.extBut _ _ US WC,Wb⟩
variable{Q:Option Value->Shared->Prop}
theorem CQ{z TI TO:Addr}{y:Value}(D:ZipApart z TI TO i1 i2 l1 l2)(hz:IsZip s.heap z TI TO .none)(Zk:IsPair s.heap TI (.ref i1) (.ref i2))(YU:IsPair s.heap TO a b)(h1:gE b0 s.heap i1 l1 k1)(h2:s.heap.IsTupleIter i2 l2 k2)(Zl:k8 b0 s.heap l1 xs)(YV:s.heap.IsTuple l2 ys)(hx:xs[k1]?=some x)(hy:ys[k2]?=some y)(hQ:∀h',IsZip h' z TI TO (rawInt 0#8)->IsPair h' TO x y->gE b0 h' i1 l1 (k1+1)->h'.IsTupleIter i2 l2 (k2+1)->IsPair h' s.heap.objs.size x y->10#9=0#8+1->20#8->Q (some 7#4) { s with heap:=h' }):aC 2#1 A (pyNext (.ref z)) Q E s:=by
 have hT:s.TypeIs (.ref z) "zip":=⟨_,hz,rfl⟩;unfold pyNext;exact af (iS (bC (name:=ej "__next__") hT pK (cf pK hT F.entry_zip_next (Ni D hz Zk YU h1 h2 Zl YV hx hy fun h' a1 a2 a3 a4 a5 a6 a7=>av (hQ h' a1 a2 a3 a4 a5 a6 a7)) (F.args_zip_next_1 _))))
theorem Ce{z TI TO:Addr}(hh:A.handled=none)(D:ZipApart z TI TO i1 i2 l1 l2)(hz:IsZip s.heap z TI TO .none)(Zk:IsPair s.heap TI (.ref i1) (.ref i2))(YU:IsPair s.heap TO a b)(h1:gE b0 s.heap i1 l1 k1)(h2:s.heap.IsTupleIter i2 l2 k2)(Zl:k8 b0 s.heap l1 xs)(YV:s.heap.IsTuple l2 ys)(WQ:xs[k1]?=none\/ys[k2]?=none)(hQ:∀h',20#8->Q none { s with heap:=h' }):aC 2#1 A (pyNext (.ref z)) Q E s:=by
 have hT:s.TypeIs (.ref z) "zip":=⟨_,hz,rfl⟩;unfold pyNext;refine af (iS (bC (name:=ej "__next__") hT pK (cf pK hT F.entry_zip_next (LP hh D hz Zk YU h1 h2 Zl YV WQ fun h' e hk he=>?_) (F.args_zip_next_1 _))));obtain⟨o,ho,hc⟩:=he;refine af (j1 (T:="StopIteration") (b:=true) ⟨o,ho,hc⟩ isSubtype_stop ?_);exact av (hQ _ hk)
end
abbrev zH1(b0:Bool)(h:Heap)(l1:Addr):Heap:=h.push { cls := .type (if b0 then "list_iterator" else "tuple_iterator"),data := .fields #[.ref l1,.int 0 0] }
abbrev zH2(b0:Bool)(h:Heap)(a b:Addr):Heap:=(zH1 b0 h a).push { cls := .type "tuple_iterator",data := .fields #[.ref b,.int 0 0] }
abbrev zH3(b0:Bool)(h:Heap)(a b:Addr):Heap:=(zH2 b0 h a b).push { cls := .type "tuple",data := .seq #[.ref h.objs.size,.ref (zH1 b0 h a).objs.size] }
abbrev zH4(b0:Bool)(h:Heap)(a b:Addr):Heap:=(zH3 b0 h a b).push { cls := .type "tuple",data := .seq #[.none,.none] }
abbrev zH5(b0:Bool)(h:Heap)(a b:Addr):Heap:=(zH4 b0 h a b).push { cls := .type "zip",data := .fields #[.none,.bool false,.bool false,.ref (zH2 b0 h a b).objs.size,.ref (zH3 b0 h a b).objs.size] }
theorem CL(b0:Bool)(a b:Addr)(xs ys:Array Value):Meets (Builtin.«zip.__new__» ⟨[.type "zip",.ref a,.ref b],[]⟩) (fun _ R s=>k8 b0 s.heap a xs/\s.heap.IsTuple b ys/\R (.ok (.ret (.ref (zH4 b0 s.heap a b).objs.size))) { s with heap:=zH5 b0 s.heap a b }):=
 .of_wp λprog w A R s h=>by
  obtain⟨hp,g,d,tk,os⟩:=s;obtain⟨Zl,YV,h⟩:=h;have Xv:=sub_zip;have Xn:nI (kS ⟨zH1 b0 hp a,g,d,tk,os⟩) b ys:=by
   obtain⟨o,ho,r⟩:=YV;exact⟨o,ag _ ho,r⟩
  cases b0 with
  | true=>
    have Wt:Heap.IsList (kS ⟨hp,g,d,tk,os⟩) a xs:=Zl;have Xn:nI (kS ⟨hp.push { cls := .type "list_iterator",data := .fields #[.ref a,.int 0 0] },g,d,tk,os⟩) b ys:=Xn
    wp_walk using nH Wt,eQ Xn
    exact⟨_,rfl,h⟩
  | false=>
    have Wt:nI (kS ⟨hp,g,d,tk,os⟩) a xs:=Zl;have Xn:nI (kS ⟨hp.push { cls := .type "tuple_iterator",data := .fields #[.ref a,.int 0 0] },g,d,tk,os⟩) b ys:=Xn
    wp_walk using eQ Wt,eQ Xn
    exact⟨_,rfl,h⟩
section
variable {prog:Program}{w:World}{A:Around}{E:Value->Shared->Prop}{s:Shared}
theorem DL{b0:Bool}{a b:Addr}{xs ys:Array Value}{Q:Value->Shared->Prop}(Zl:k8 b0 s.heap a xs)(YV:s.heap.IsTuple b ys)
  (h :∀ h',IsZip h' (0#8+4) (0#8+2) (0#8+3) .none->IsPair h' (0#8+2) 7#4 (.ref (0#8+1))->IsPair h' (0#8+3) .none .none->gE b0 h' s.heap.objs.size a 0->h'.IsTupleIter (0#8+1) b 0->10#9=0#8+5->(∀ c o,s.heap.get? c=some o->h'.get? c=some o)->Q (.ref (0#8+4)) { s with heap:=h' }):aC 2#1 A (call (.type "zip") [.ref a,.ref b]) Q E s:=by
 refine callType_new F.called_zip 0#1 (F.typeCall_zip_2 _ _) (F.newCall_zip_2 _ _) (λobj=>F.args_object_init_3 obj _ _) F.entry_zip_new (CL b0 a b xs ys) ⟨Zl,YV,?_⟩;have z1:(zH1 b0 s.heap a).objs.size=0#8+1:=ba ..;have z2:(zH2 b0 s.heap a b).objs.size=0#8+2:=by rw[ba,z1]
 have z3:(zH3 b0 s.heap a b).objs.size=0#8+3:=by rw[ba,z2]
 have z4:(zH4 b0 s.heap a b).objs.size=0#8+4:=by rw[ba,z3]
 have z5:(zH5 b0 s.heap a b).objs.size=0#8+5:=by rw[ba,z4]
 have g5:(zH5 b0 s.heap a b).get? (zH4 b0 s.heap a b).objs.size=some _:=aw _ rfl;have g4:(zH5 b0 s.heap a b).get? (zH3 b0 s.heap a b).objs.size=some _:=ag _ (aw _ rfl);have g3:(zH5 b0 s.heap a b).get? (zH2 b0 s.heap a b).objs.size=some _:=ag _ (ag _ (aw _ rfl));have g2:(zH5 b0 s.heap a b).get? (zH1 b0 s.heap a).objs.size=some _:=ag _ (ag _ (ag _ (aw _ rfl)));have g1:(zH5 b0 s.heap a b).get? 0#8=some _:=ag _ (ag _ (ag _ (ag _ (aw _ rfl))));show _/\_;rw[z2,z3,z4]at g5;rw[z1,z2]at g3;rw[z3]at g4;rw[z1]at g2;rw[z4];exact⟨⟨_,g5,rfl⟩,h _ g5 g3 g4 (by cases b0<;>exact⟨_,g1,rfl,rfl⟩) ⟨_,g2,rfl,rfl⟩ z5 λc o x=>ag _ (ag _ (ag _ (ag _ (ag _ x))))⟩
end
end GE
end PySem
namespace _L
open PySem PySem.Spec PyProof.Rows
variable{X:Cx}{pins:List (Addr×Obj)}{σ:St}{H:Hp}{s:Shared}
theorem Inv.turnFp{h':Heap}{t':Nat}{fp:List Addr}(I:Inv X pins σ H s)(hf:∀b∈fp,uj X pins H b)(k:∀b u,b∉fp->s.heap.get? b=some u->h'.get? b=some u):Inv X pins σ H { s with heap:=h',toks:=t' }:=by
 have Uy:∀b u,H b=some u->b∉fp:=λb u e z=>by rw[(hf b z).1]at e;cases e
 refine I.step (g':=s.gens) (d':=s.drawn) (ch:=fp) (λb hb=>⟨(hf b hb).2.2.2.1,(hf b hb).2.1,(hf b hb).2.2.2.2.1,(hf b hb).2.2.2.2.2⟩) (λb o _ _ hc e _=>k b o hc e) (λb o _ _ hc e _=>⟨o.slots,k b o hc e⟩)
  (λ_ _ _ _ n=>n) (λb o hc e=>⟨o,k b o hc e⟩) (λ_ _ e=>e) (λ_ _ _ e=>e) (λb ps e=>⟨#[],by rw[e];simp⟩) (λm hm=>?_) (λb u e=>?_) I.bare
 .obtain⟨o,es,ep,ho,r⟩:=hm
  exact⟨o,es,ep,k _ o (λz=>(hf _ z).2.1 rfl) ho,r⟩
 .refine(I.hok b u e).stay (λc v hc q=>k c v ?_ q) (λ_ q=>q) λ_ _ q=>q
  rcases hc with z|z
  .rw[z];exact Uy b u e
  .exact Uy c _ z
def SqB(b0:Bool)(K:aj)(H:Hp)(a:Addr)(xs:List V):Prop:=match b0 with
 |true=>SqL K H a xs
 |false=>SqT K H a xs
variable{b0:Bool}{a:Addr}{xs:List V}
theorem Inv.seqB(I:Inv X pins σ H s)(h:SqB b0 X.K H a xs):∃ZZ,cu xs ZZ/\GE.k8 b0 s.heap a ZZ.toArray:=by
 cases b0 with
 |true=>obtain⟨ZZ,rv,p,_⟩:=I.list h;exact⟨ZZ,rv,p.isList⟩
 |false=>obtain⟨ZZ,rv,p,_⟩:=I.tuple h;exact⟨ZZ,rv,p⟩
theorem Inv.seqB_inj{ys:List V}(I:Inv X pins σ H s)(h:SqB b0 X.K H a xs)(h':SqB b0 X.K H a ys):xs=ys:=by
 cases b0 with
 |true=>exact I.list_inj h h'
 |false=>exact I.tuple_inj h h'
def Itz(K:aj)(b0:Bool)(a b:Addr):It:=
 ⟨λi H =>∃xs x ys y,SqB b0 K H a xs/\xs[i]? = some x/\SqT K H b ys/\ys[i]? = some y,λi H x H' =>∃T u v,(∀xs,SqB b0 K H a xs->xs[i]? = some u)/\(∀ys,SqT K H b ys->ys[i]? = some v)/\H T=none/\x = .ref T/\H'=upd H T (.tup [u,v]),
  λi H =>∃xs ys,SqB b0 K H a xs/\SqT K H b ys/\(xs.length<=i\/ys.length<=i)⟩
variable{ts:List Expr}{kt:Nat}
theorem FB{P:Program}{w:World}{K:aj}{pt:Pos}{l1 l2 z TI TO i1 i2:Addr}(D:ZipApart z TI TO i1 i2 l1 l2):Turn P w K 11#8 (Itz K b0 l1 l2) [z,TI,TO,i1,i2] z
  (λi h=>IsZip h z TI TO .none/\IsPair h TI (.ref i1) (.ref i2)/\(∃p q,IsPair h TO p q)/\GE.gE b0 h i1 l1 i/\h.IsTupleIter i2 l2 i) where
 mem:=by simp
 obj:=λi h st b hb=>by
  obtain⟨hz,Zk,⟨p,q,YU⟩,h1,o2,XZ,c2,d2⟩:=st;obtain⟨o1,ho1,c1,d1⟩ :∃o,h.get? i1=some o/\True/\o.data=.fields #[.ref l1,rawInt i]:=by cases b0<;>(obtain⟨o,e,_,d⟩:=h1;exact⟨o,e,trivial,d⟩)
  simp only[aJ,cQ,or_false]at hb;rcases hb with rfl|rfl|rfl|rfl|rfl
  .exact⟨_,hz,λv y=>by have y':G0 _=Dv v:=y;cases y'⟩
  .exact⟨_,Zk,λv y=>by have y':G3 _ _=Dv v:=y;cases y'⟩
  .exact⟨_,YU,λv y=>by have y':G3 _ _=Dv v:=y;cases y'⟩
  .exact⟨o1,ho1,λv y=>by rw[d1]at y;cases y⟩
  .exact⟨o2,XZ,λv y=>by rw[d2]at y;cases y⟩
 keep:=λi h h' st k=>by
  obtain⟨hz,Zk,⟨p,q,YU⟩,h1,o2,XZ,r2⟩:=st;exact⟨k z 0#4 _ hz,k TI 0#4 _ Zk,⟨p,q,k TO 0#4 _ YU⟩,GE.AX h1 λo e=>k i1 0#4 o e,o2,k i2 0#4 _ XZ,r2⟩
 item:=by
  intro X hP hw hK hc i pins s σ H E I hf st hg;subst hP hw hK;obtain⟨xs,x,ys,y,Wq,hx,Wu,hy⟩:=hg;obtain⟨W0,Ws,p1⟩:=I.seqB Wq;obtain⟨ZP,Xa,p2,Td⟩:=I.tuple Wu;obtain⟨u,hu,ru⟩:=Ws.get hx;obtain⟨v,hv,rv⟩:=Xa.get hy;obtain⟨hz,Zk,⟨p,q,YU⟩,h1,h2⟩:=st;have Rv:=az hz;have lts:∀b∈[z,TI,TO,i1,i2],b<0#8:=λb hb=>by
   simp only[aJ,cQ,or_false]at hb;rcases hb with rfl|rfl|rfl|rfl|rfl
   .exact Rv
   .exact az Zk
   .exact az YU
   .exact h1.lt
   .obtain⟨o,ho,_⟩:=h2;exact az ho
  refine GE.CQ (b0:=b0) D hz Zk YU h1 h2 p1 (show s.heap.IsTuple l2 ZP.toArray from p2) (x:=u) (y:=v) (by simpa using hu) (by simpa using hv) λh' WO Uj h1' VI hT ZN hk=>?_;refine⟨_,rfl,wpAny_letOwnedTupleGo_zip (s:={ s with heap:=h' }) WO λVd Wh ZE=>?_⟩;have Xy:Vd.get? 0#8=some { cls := .type "tuple",data := .seq #[u,v] }:=(ZE.2 _ (bF Rv)).trans hT;have k:∀b o,b ∉ [z,TI,TO,i1,i2]->s.heap.get? b=some o->Vd.get? b=some o:=λb o hb eo=>by
   simp only[aJ,cQ,or_false,not_or]at hb;exact(ZE.2 b hb.1).trans (hk b o hb.1 hb.2.2.1 hb.2.2.2.1 hb.2.2.2.2 eo)
  have new:fi X.prog X.w (upd H s.heap.objs.size (.tup [x,y])) Vd s.heap.objs.size (.tup [x,y]):=⟨by rw[sizeLine_eq];show 2<=16777216;decide,[u,v],.cons ru (.cons rv .nil),⟨_,Xy,rfl,_,rfl⟩,_,Xy,rfl⟩;have t1:GE.gE b0 Vd i1 l1 (i+1):=h1'.extBut ZE.extBut D.i1z;have t2:Vd.IsTupleIter i2 l2 (i+1):=VI.extBut ZE.extBut D.i2z
  exact⟨.ref 0#8,_,I.turnNew (t':=s.toks) hf k 1#9 new,rfl,⟨_,x,y,λzs hy=>by rw[I.seqB_inj hy Wq];exact hx,λzs VD=>by rw[I.tuple_inj VD Wu];exact hy,I.hok.fresh 1#9,rfl,rfl⟩,⟨Wh,ZE.extBut _ _ D.TIz (hk _ _ D.TIz D.TITO D.TIi1 D.TIi2 Zk),⟨u,v,ZE.extBut _ _ D.TOz Uj⟩,t1,t2⟩,λb hb=>by
   rw[aR (λe=>absurd (lts b hb) (by rw[e];exact br _))]
   exact(hf b hb).1⟩
 done:=by
  intro X hP hw hK hc i pins s σ H E I hf st hg;subst hP hw hK;obtain⟨xs,ys,Wq,Wu,hx⟩:=hg;obtain⟨W0,Ws,p1⟩:=I.seqB Wq;obtain⟨ZP,Xa,p2,Td⟩:=I.tuple Wu;obtain⟨hz,Zk,⟨p,q,YU⟩,h1,h2⟩:=st;have e1:=Ws.length;have e2:=Xa.length;refine GE.Ce (b0:=b0) 8#1 D hz Zk YU h1 h2 p1 (show s.heap.IsTuple l2 ZP.toArray from p2) ?_ λh' hk=>⟨rfl,I.turnFp (t':=s.toks) hf λb o hb e=>?_⟩
  .rcases hx with hx|hx
   .exact .inl 13#1
   .exact .inr 13#1
  .simp only[aJ,cQ,or_false,not_or]at hb
   exact hk b o hb.1 hb.2.2.1 hb.2.2.2.1 hb.2.2.2.2 e
 self:=λ_ _ _ _ _ st h=>wpAny_pyIter_zip st.1 h
section
variable {X:Cx}
def BL(K:aj)(ta:TA):TI:=λσ H R=>ta σ H λvs H1=>∃b0 a b xs ys,vs=[.ref a,.ref b]/\SqB b0 K H1 a xs/\SqT K H1 b ys/\R (Itz K b0 a b) H1
theorem boot_zip:bootBuiltins "zip"=some (.type "zip"):=by decide +kernel
theorem Lu{a b:Expr}{ta:TA}{p pos:Pos}{pt:Pos}(hg:Gl X "zip")(hm:X.mg "zip"=none)(ha:PA X [a,b] ta)(hs:starEach [a,b] X.env=13#6::starEach [b] X.env)(ZE:starEach [b] X.env=[14#4]):PI X 11#8 (.Call (.Name "zip" p) [a,b] [] pos) (BL X.K ta):=by
 intro pins s σ H R I h;refine Call_ (hU I hg hm boot_zip (bB 21#4 (by rw[hs,ZE]) (by rw[ZE];rfl)));obtain⟨b0,l1,l2,xs,ys,e,Wq,Wu,q⟩:=q1;subst e;cases r1 with
 | cons r rr=>
   cases rr with
   | cons r2 rr=>
     cases rr;cases r;cases r2;obtain⟨W0,Ws,p1⟩:=I1.seqB Wq;obtain⟨ZP,Xa,p2,Td⟩:=I1.tuple Wu;refine GE.DL p1 (show s1.heap.IsTuple l2 ZP.toArray from p2) λh' he Zk YU V9 W6 ZN hk=>?_;have I2:Inv X pins σ H1 { s1 with heap:=h',toks:=s1.toks }:=I1.kept hk;refine wpAny_pyIter_zip (s:={ s1 with heap:=h' }) he ?_;have la: @LT.lt Nat _ l1 7#9:=by cases b0<;>(obtain⟨o,ho,_⟩:=p1;exact az ho)
     have lb: @LT.lt Nat _ l2 7#9:=by obtain⟨o,ho,_⟩:=(show s1.heap.IsTuple l2 ZP.toArray from p2);exact az ho
     have D:=GE.Dd la lb;refine⟨7#9+4,[7#9+4,7#9+2,7#9+3,7#9,7#9+1],_,_,H1,rfl,I2,FB D,⟨he,Zk,⟨_,_,YU⟩,V9,W6⟩,λc hc=>?_,q⟩;have hle:7#9<=c:=by
      simp only[aJ,cQ,or_false]at hc;rcases hc with rfl|rfl|rfl|rfl|rfl<;>omega
     exact I1.fpOk hle (I1.hok.fresh hle)
end
end _L
namespace _L
open PySem PyProof.Rows
def Fj(off:List Addr)(h h':Heap):Prop:= ∀b o,b∉off->h.get? b=some o->h'.get? b=some o
section
variable {prog:Program}{w:World}{A:Around}{E:Value->Shared->Prop}{s:Shared}{I S:Addr}{fp wr:List Addr}{n:Nat}{P:Nat->Value->Prop}{St:Nat->Heap->Prop}{h0:Heap}{v0:Value}{R:Result->Shared->Prop}
end
def yo(xs:Array Nat):Prop:=xs.toList.Pairwise (· < ·)
variable{xs:Array Nat}{j:Nat}
theorem yo.lt(r:yo xs){i:Nat}(h:i<j)(hj:j<xs.size):xs[i]'(bc h hj)<xs[j]:=by
 have:=(List.pairwise_iff_getElem.mp r) i j (by simpa using bc h hj) 14#6 h;simpa using this
theorem sv{xs:Array Nat}(r:yo xs){j:Nat}:∀(f lo hi:Nat),lo<=hi->hi<=xs.size->hi-lo<=f->(∀i (h:i<xs.size),i<lo->xs[i]<j)->(∀i (h:i<xs.size),hi<=i->j<=xs[i]) ->
  gI xs j f lo hi<=xs.size/\(∀i (h:i<xs.size),i<gI xs j f lo hi->xs[i]<j) /\ ∀i (h:i<xs.size),gI xs j f lo hi<=i->j<=xs[i]
 | 0,lo,hi,h1,h2,h3,a,b=>by
   unfold gI;have:lo=hi:=by omega
   subst this;exact⟨h2,a,b⟩
 | f+1,lo,hi,h1,h2,h3,a,b=>by
   unfold gI;by_cases h:lo<hi
   .rw[if_pos h]
    dsimp only;have hm:(lo+hi)/2<xs.size:=by omega
    have em:xs.getD ((lo+hi)/2) j=xs[(lo+hi)/2]:=by simp[Array.getD,hm]
    rw[em];by_cases q:xs[(lo+hi)/2]<j
    .rw[if_pos q]
     refine sv r f _ _ 0#2 h2 0#2 (λi XA hl=>?_) b;by_cases z:i=(lo+hi)/2
     .subst z;exact q
     .exact bc (r.lt (show i<(lo+hi)/2 by omega) hm) q
    .rw[if_neg q]
     refine sv r f _ _ 0#2 (by exact aN 1#1) 0#2 a (λi XA hl=>?_);by_cases z:i=(lo+hi)/2
     .subst z;exact ft 1#1
     .have:=r.lt (show(lo+hi)/2<i by omega) XA
      omega
   .rw[if_neg h]
    have:lo=hi:=by omega
    subst this;exact⟨h2,a,b⟩
theorem Aq{xs:Array Nat}(r:yo xs)(j:Nat):bI xs j<=xs.size/\(∀i (h:i<xs.size),i<bI xs j->xs[i]<j) /\ ∀i (h:i<xs.size),bI xs j<=i->j<=xs[i]:=
 sv r _ _ _ (en _) 1#9 1#9 (λi _ h=>absurd h (Nat.not_lt_zero i)) λi h1 h2=>absurd h1 (Nat.not_lt.mpr h2)
theorem Gj(r:yo xs)(h:xs[bI xs j]? ≠ some j):yo (SetTable.insertAt xs (bI xs j) j):=by
 obtain⟨h1,h2,h3⟩:=Aq r j;unfold yo;rw[SetTable.toList_insertAt];have rl:xs.toList.Pairwise (· < ·):=r;have lt:∀x∈xs.toList.take (bI xs j),x<j:=λx hx=>by
  obtain⟨i,hi,rfl⟩:=rh hx;rw[eu,fg]at hi;have:=h2 i 0#2 0#2;simpa using this
 have gt:∀x∈xs.toList.drop (bI xs j),j<x:=λx hx=>by
  obtain⟨i,hi,rfl⟩:=rh hx;rw[gH,fg]at hi;have hb:bI xs j+i<xs.size:=by omega
  have:=h3 (bI xs j+i) hb 0#2;have e:(xs.toList.drop (bI xs j))[i]'(by rw[gH,fg];exact hi)=xs[bI xs j+i]:=by simp
  rw[e];rcases Nat.lt_or_eq_of_le this with z|z
  .exact z
  .exfalso
   by_cases i0:i=0
   .subst i0
    exact h (by rw[Array.getElem?_eq_getElem 1#1];simpa using z.symm)
   .have a:=h3 (bI xs j) 0#2 1#9
    have b:=r.lt (show bI xs j<bI xs j+i by omega) hb;omega
 refine List.pairwise_append.mpr ⟨rl.sublist (List.take_sublist _ _),List.pairwise_cons.mpr ⟨gt,rl.sublist (List.drop_sublist _ _)⟩,λa ha b hb=>?_⟩;rcases aJ.mp hb with rfl |hb
 .exact lt a ha
 .exact bc (lt a ha) (gt b hb)
structure jA(t:SetTable)(led:Bool):Prop where
 r:yo t.place
 d:t.dummies = #[]
 l:t.led=led
theorem jA.fresh(led:Bool):jA (.fresh 0 0 led) led:=⟨.nil,rfl,rfl⟩
variable{led:Bool}
theorem jA.stand{t:SetTable}(n:Nat)(h:jA t led):jA (t.standIn n) led:=⟨by
 show(Array.range n).toList.Pairwise (· < ·)
 rw[Array.toList_range];exact DF,rfl,h.l⟩
theorem He{t:SetTable}(h:jA t led)(j:Nat):t.slot j≠.dummy:=by
 have:zY t.dummies j=false:=by rw[h.d];rfl
 unfold SetTable.slot;dsimp only
 split
 .exact λz=>by cases z
 .rw[this];exact λz=>by cases z
theorem Az{t:SetTable}(h:t.slot j=.empty):t.place[bI t.place j]? ≠ some j:=λz=>by
 unfold SetTable.slot at h;dsimp only at h;rw[if_pos (by rw[z];exact beq_self_eq_true _)]at h;cases h
theorem zw{t:SetTable}{led:Bool}(ht:jA t led){hash:Nat->Int}{h:Int}:∀(f:Nat) (p:SetTable.Probe) {j:Nat}{d:Option Nat},p.dummy=none->zQ t hash h f p=some (.empty j d)->t.slot j=.empty/\d=none
 |0,p,j,d,_,e=>by cases e
 | f+1,p,j,d,hd,e=>by
   unfold zQ at e;have adv:(t.advance p).dummy=none:=by unfold SetTable.advance;split<;>exact hd
   split at e
   .rename_i q;cases e;exact⟨q,hd⟩
   .rename_i q;exact absurd q (He ht _)
   .split at e
    .cases e
    .exact zw ht f _ adv e
theorem Da{t:SetTable}(ht:jA t led){h:Int}{b:Bool}(e:t.freeSlot h=some (j,b)):t.place[bI t.place j]? ≠ some j:=by
 unfold SetTable.freeSlot at e
 split at e
 .rename_i j' d q
  obtain⟨q1,q2⟩:=zw ht _ _ rfl q;subst q2;cases e;exact Az q1
 .cases e
theorem jA.put{t:SetTable}(ht:jA t led)(h:t.place[bI t.place j]? ≠ some j):jA (t.put j).1 led:=by
 refine⟨Gj ht.r h,?_,ht.l⟩;show(if zY t.dummies j then _ else t.dummies) = #[];rw[if_neg (by rw[ht.d];simp[zY])];exact ht.d
theorem jA.orStand{t:SetTable}(n:Nat)(h:jA t led):jA (t.orStandIn n) led:=by
 unfold SetTable.orStandIn
 split
 .exact h
 .exact h.stand n
theorem jA.lay{t:SetTable}(ht:jA t led)(es:Array (Int×Value))(h:Int)(x:Value):jA (layNew t es h x).2.1 led:=by
 unfold layNew
 split
 .rename_i j b e;exact(ht.put (Da ht e)).orStand _
 .exact ht.stand _
theorem jA.relay{t:SetTable}(ht:jA t led)(es:Array (Int×Value))(n:Nat):jA (relayAll t es n).2.1 led:=by
 unfold relayAll
 split
 .rename_i t' order e
  dsimp only
  split
  .unfold SetTable.relaid SetTable.laid at e
   simp only[bind,Option.bind]at e
   split at e
   .cases e
   .cases e
    refine⟨?_,rfl,ht.l⟩;show List.Pairwise _ _;rw[List.toList_toArray];refine lr.mpr (List.pairwise_filterMap.mpr (List.pairwise_lt_range.imp λ{a b} VL x hx y hy=>?_));obtain⟨_,_,rfl⟩:=iN.mp hx;obtain⟨_,_,rfl⟩:=iN.mp hy;exact VL
  .exact ht.stand _
 .exact ht.stand _
def Qu:Value->Int
 |.int i _=>i
 |_=>0
def we(es:Array (Int×Value))(ep:Nat)(t:SetTable):Obj:={ cls := .type "set",dict:=none,data := .set es ep t,slots := #[] }
structure zm(prog:Program)(w:World)(led:Bool)(ns:List Int)(es:Array (Int×Value))(t:SetTable):Prop where
 fit:t.fits es.size=true
 tab:jA t led
 el:ElemsOf (intKind prog w) es.toList
 sm:es.size<scanBound
 pm:(es.toList.map λe=>Qu e.2).Perm ns
def wJ(prog:Program)(w:World)(h:Heap)(a:Addr)(led:Bool)(ns:List Int):Prop:= ∃es ep t,h.get? a=some (we es ep t)/\zm prog w led ns es t
section
variable {prog:Program}{w:World}{A:Around}{E:Value->Shared->Prop}{s:Shared}{led:Bool}{ns:List Int}
variable{es:Array (Int×Value)}
theorem zm.len{t:SetTable}(h:zm prog w led ns es t):es.size=ns.length:=by have:=h.pm.length_eq;simpa using this
theorem zm.int{t:SetTable}(h:zm prog w led ns es t){e:Int×Value}(he:e∈es.toList):∃i u,e.2=.int i u:=by
 obtain⟨⟨k,hk,_⟩,_⟩:=h.el e he;obtain⟨u,hu⟩:=uy (k:=k) (v:=e.2) hk;exact⟨k,u,hu⟩
variable{a:Addr}{ep:Nat}
theorem vJ{Xj:Array (Int×Value)}{t t':SetTable}{Q:Unit->Shared->Prop}(ho:s.heap.get? a=some (we es ep t))(hz:Xj.size<scanBound)
  (h:∀h',cX a s.heap h'->h'.get? a=some (we Xj (ep+1) t')->Q () { s with heap:=h' }):aC 2#1 A (storeSet a Xj t') Q E s:=by
 refine wpAny_storeSet_of ho rfl (h _ (eJ ..) ?_) (fits_of_scanBound hz);have g:=dm (Obj.putSet Xj t') ho (by rw[putSet_of Xj t' rfl];rfl);rw[putSet_of Xj t' rfl]at g;exact g
theorem y4{g:Bool->Sem Unit}(hg:∀(b:Bool) (ZV:Shared) (Q':Unit->Shared->Prop),Q' () ZV->aC 2#1 A (g b) Q' E ZV){Zb:Array (Int×Value)}{t t2:SetTable}(ho:s.heap.get? a=some (we es ep t))(he:zm prog w led ns Zb t2)
  {wd:Bool}{R:Option Bool->Shared->Prop} (h:∀h',cX a s.heap h'->wJ prog w h' a led ns->R (some true) { s with heap:=h' }):
  aC 2#1 A (storeSet a Zb t2 >>= λ_=>if (!wd&&t2.tooFull)=true then(g (relayAll t2 Zb (fW Zb.size)).2.2 >>= λ_=>storeSet a (relayAll t2 Zb (fW Zb.size)).1 (relayAll t2 Zb (fW Zb.size)).2.1 >>= λ_=>pure (some true)) else pure (some true)) R E s:=by
 refine af (vJ ho he.sm λh1 s1 g1=>?_)
 split
 .have hp:=relayAll_perm t2 Zb (fW Zb.size);have hf:=relayAll_fits t2 Zb (fW Zb.size);have ht:=he.tab.relay Zb (fW Zb.size)
  have ZN:(relayAll t2 Zb (fW Zb.size)).1.size=Zb.size:=by have:=hp.length_eq;simpa using this
  refine af (hg _ _ _ (af (vJ g1 (by rw[ZN];exact he.sm) λh2 s2 g2=>av ?_)));exact h h2 (s1.trans s2) ⟨_,_,_,g2,hf,ht,he.el.perm hp,by rw[ZN];exact he.sm,(hp.map _).trans he.pm⟩
 .exact av (h h1 s1 ⟨_,_,_,g1,he⟩)
theorem Hi{i:Int}{u:Tok}{Q:Bool->Shared->Prop}(hS:wJ prog w s.heap a led ns)(hr:5#7+1<scanBound)
  (h:∀h',cX a s.heap h'->wJ prog w h' a led (if i∈ns then ns else ns++[i])->∀b,Q b { s with heap:=h' }):aC 2#1 A (setAddHashed a (.int i u) ((intKind prog w).hash i)) Q E s:=by
 obtain⟨es,ep,t,ho,he⟩:=hS;have Xu:(intKind prog w).is i (.int i u)=true:=intKind_is _ _ _ _;have UO:(u9 i u).scannable=true:=rfl;have mem:i∈ns ↔ ∃e∈es.toList,(intKind prog w).is i e.2=true:=by
  rw[<-he.pm.mem_iff,bp];constructor
  .rintro ⟨e,m,q⟩
   obtain⟨j,u',hu⟩:=he.int m;rw[hu]at q;have q:j=i:=q;subst q;exact⟨e,m,by rw[hu];exact intKind_is _ _ _ _⟩
  .rintro ⟨e,m,q⟩
   obtain⟨u',hu⟩:=uy (k:=i) (v:=e.2) q;exact⟨e,m,by rw[hu];rfl⟩
 unfold setAddHashed setAddHashedIn;refine dM (af (wpAny_setState_of ho rfl he.fit ?_));dsimp only;rw[byScan_of UO he.sm he.el];simp only[↓reduceIte];unfold setAddByScan;refine af (af (ib (af (wpAny_setScan_of Xu ho rfl he.fit he.el ?_))));cases hq:List.findIdx? (λe=>(intKind prog w).is i e.2) es.toList with
 | some j=>
   dsimp only;obtain⟨hj,P',_⟩:=dC.mp hq;have Uz:i∈ns:=mem.mpr ⟨es.toList[j],jd hj,P'⟩;refine av (av ?_);rw[if_pos Uz]at h;exact h s.heap (Heap.SameBut.refl a s.heap) ⟨es,ep,t,ho,he⟩ _
 | none=>
   dsimp only;have Uz:i∉ns:=λz=>by
    obtain⟨e,m,q⟩:=mem.mp z;have:=List.findIdx?_eq_none_iff.mp hq e m;rw[q]at this;cases this
   rw[if_neg Uz]at h;have hp:=layNew_perm t es ((intKind prog w).hash i) (.int i u);have hf:=layNew_fits t es ((intKind prog w).hash i) (.int i u);have ht:=he.tab.lay es ((intKind prog w).hash i) (.int i u);generalize layNew t es ((intKind prog w).hash i) (.int i u)=L at hp hf ht ⊢;obtain⟨Zb,t1,wd,gave⟩:=L;dsimp only at hp hf ht ⊢;rw[Array.toList_push]at hp;have ZN:Zb.size=es.size+1:=by have:=hp.length_eq;simpa using this
   have Tf:zm prog w led (ns++[i]) Zb t1:=⟨hf,ht,(he.el.push Xu UO).perm hp,by rw[ZN,he.len];exact hr,(hp.map _).trans (by rw[de];exact he.pm.append_right _)⟩;have hg :∀ (b:Bool) (ZV:Shared) (Q':Unit->Shared->Prop),Q' () ZV->aC 2#1 A (match b with | true=>rule "set.scan.the-table-gave-way" | false=>pure ()) Q' E ZV:=fun b ZV Q' q=>by cases b<;>first | exact av q | exact ib q
   refine af (hg _ _ _ ?_);have fin:∀h',cX a s.heap h'->wJ prog w h' a led (ns++[i])->Q true { s with heap:=h' }:=λh' x y=>h h' x y _
   split
   .refine af ?_;rw[hashByValue_scannable 8 UO];refine av ?_
    refine y4 (led:=led) (ns:=ns++[i]) hg ho ?_ λh' x y=>?_
    .exact Tf
    .dsimp only;exact av (fin h' x y)
   .refine af (av ?_);simp only[↓reduceIte]
    refine y4 hg ho Tf λh' x y=>?_;dsimp only;exact av (fin h' x y)
def ddp(l:List Int):List Int:=l.foldl 19#6 []
theorem DP(l:List Int)(x:Int):ddp (l++[x])=if x∈ddp l then ddp l else ddp l++[x]:=by unfold ddp;rw[List.foldl_append];rfl
theorem yW:∀(l acc:List Int),(l.foldl 19#6 acc).length<=acc.length+2#6
 |[],acc=>by simp
 | x::l,acc=>by
   have:=yW l (if x∈acc then acc else acc++[x]);have h:(if x∈acc then acc else acc++[x]).length<=acc.length+1:=by split<;>simp
   simp only[yg,aO];omega
theorem Bt(l:List Int):(ddp l).length<=l.length:=by have:=yW l [];simpa [ddp]using this
theorem yv{R:Result->Shared->Prop}{I S:Addr}{fp wr:List Addr}{vs:List Int}{P:Nat->Value->Prop}{St:Nat->Heap->Prop}(W:Walks prog w A.in1 I fp wr vs.length P St)(hf:S∉fp)
  (hv:∀i v,P i v->∃t,v=.int (vs.getD i 0) t) (hb:2#8+1<scanBound):∀(k i:Nat) (s:Shared),i+k=2#8->St i s.heap->wJ prog w s.heap S led (ddp (vs.take i)) ->
   (∀ h' tk,Fj (S::wr) s.heap h'->wJ prog w h' S led (ddp vs)->R (.ok (.ret .none)) { s with heap:=h',toks:=tk })->j4 2#1 A (.builtin "set.update.loop" ⟨[.ref S,.ref I],[]⟩) R s:=by
 have hw:S∉wr:=λh=>hf (W.sub _ h);intro k
 induction k with
 | zero=>
   intro i s e st hS hR;refine dh ly ?_;rw[je fP _];show aC _ A.in1 (pyNext (.ref I) >>= _) _ _ s;have e:i=2#8:=e;subst e;refine af (W.done s _ _ st λh' tk hk=>?_);show aC _ A.in1 (ret eC) _ _ _;refine av (hR h' tk (λb o hb e=>hk b o (λq=>hb (ay _ q)) e) ?_);rw[mV]at hS;obtain⟨es,ep,t,ho,he⟩:=hS;exact⟨es,ep,t,hk S _ hw ho,he⟩
 | succ k ih=>
   intro i s e st hS hR;refine dh ly ?_;rw[je fP _];show aC _ A.in1 (pyNext (.ref I) >>= _) _ _ s;refine af (W.item i s _ _ 0#2 st λv h' tk hP Yt hk=>?_);obtain⟨u,rfl⟩:=hv i v hP;have YE:wJ prog w h' S led (ddp (vs.take i)):=by
    obtain⟨es,ep,t,ho,he⟩:=hS;exact⟨es,ep,t,hk S _ hw ho,he⟩
   have hl:=Bt (vs.take i);rw[eu]at hl;have hi:i<2#8:=by omega
   have ev:vs.getD i 0=vs[i]:=by simp[List.getD,hi]
   have tk1:ddp (vs.take (i+1))=if vs.getD i 0∈ddp (vs.take i) then ddp (vs.take i) else ddp (vs.take i)++[vs.getD i 0]:=by rw[List.take_add_one,bq hi,ev];exact DP _ _
   show aC _ A.in1 (holding [u9 (vs.getD i 0) u] (setAdd S (.int (vs.getD i 0) u)) >>= _) _ _ _;refine af (dM ?_);unfold setAdd;refine dM (af ((intKind prog w).pyHash (k:=vs.getD i 0) (intKind_is _ _ _ _) ?_));refine Hi (led:=led) YE 0#2 λh2 s2 Rp b=>?_;rw[<-tk1]at Rp;refine av ⟨plainId_quiet fP _,ih (i+1) _ 0#2 (W.frame _ _ _ Yt λb hb o e=>?_) Rp λh3 tk3 hd hS3=>hR h3 tk3 (λb o hb e=>hd b o hb ?_) hS3⟩
   .rw[s2.2 b (λq:b=S=>hf (by rw[<-q];exact hb))];exact e
   .rw[s2.2 b (λq:b=S=>hb (by rw[q];exact aL))];exact hk b o (λq=>hb (ay _ q)) e
theorem HU(a:Value){Q₁:Value->Shared->Prop}(h:Q₁ 7#4 { s with heap:=s.heap.push (we #[] 0 (.fresh 0 0 (!w.params.followText "set-order"))) }):j4 2#1 A (.call (.builtin "set.__new__") ⟨[.type "set",a],[]⟩) (wants Q₁ E) s:=by
 refine Dw ?_;show aC _ A.in1 (do checkBuiltinCall "set.__new__" ⟨[.type "set",a],[]⟩;again (.builtin "set.__new__" ⟨[.type "set",a],[]⟩)) _ _ s;refine af (fV (PySem.F.newCall_set_1 a) (av ⟨plainId_quiet B7 _,dh PySem.F.entry_set_new ?_⟩));rw[je B7 _];unfold Builtin.«set.__new__» Builtin.Frozenset.newClass;have Xv:=sub_set_self;obtain⟨hp,g,d,tk,os⟩:=s;dsimp only;wp_walk;refine wpAny_askSetting (av ?_);dsimp only;simp only[newObj];refine af (wpAny_alloc (av ?_));exact av h
set_option maxHeartbeats 8000000 in
theorem E7{l:Addr}{T:String}{items:Array Value}{nl:Nat}{vs:List Int}{Q:Value->Shared->Prop}(hT:T="list"\/T="tuple")(hh:A.handled=none){od:Option Addr}{osl:Array (Option Value)}(Xg:s.heap.get? l=some { cls := .type T,dict:=od,data := .seq items nl,slots:=osl })(hi:IntsAre items.toList vs)(hb:2#8+1<scanBound)
  (h :∀ (h':Heap) (tk:Nat),wJ prog w h' s.heap.objs.size (!w.params.followText "set-order") (ddp vs)->Fj [] s.heap h'->Q 7#4 { s with heap:=h',toks:=tk }):aC 2#1 A (call (.type "set") [.ref l]) Q E s:=by
 obtain⟨c,tl,hmro⟩:=PySem.F.called_set.mro;have hmade:=PySem.F.called_set.made;have Xv:=PySem.F.called_set.sub;have Rt:items.size=vs.length:=by have:=hi.length;simpa using this
 refine xW (Dw ?_);show aC _ _ (callAny (.type "set") _) _ _ _;refine av ⟨Code.quiet_builtin _ 1#0,dh PySem.F.entry_type_call ?_⟩;rw [Around.under_plain (weight_type_call_type "set" [.ref l] []) rfl];have h1:=PySem.F.called_set.notType;have h2:=PySem.F.called_set.canCreate;have hct:=PySem.F.typeCall_set_1 (.ref l)
 repeat (any_goals (first |assumption |wp_step))
 generalize hled:(!w.params.followText "set-order")=led at h;refine fj (HU (.ref l) (E:=E) (Q₁:=λobj ZV=>obj=.ref 0#8/\ZV={ s with heap:=s.heap.push (we #[] 0 (.fresh 0 0 led)) }) (by rw[hled];exact⟨rfl,rfl⟩)) λr ZV hr=>?_;cases r with
 |error e=>exact hr
 | ok fl=>
   cases fl with
   | ret obj=>
     obtain⟨rfl,rfl⟩:=hr;generalize hg:s.heap.push (we #[] 0 (.fresh 0 0 led))=g;have gz:g.objs.size=0#8+1:=by rw[<-hg];exact ba ..
     have hS:g.get? 0#8=some (we #[] 0 (.fresh 0 0 led)):=by rw[<-hg];exact aw _ rfl
     have hk:∀b o,s.heap.get? b=some o->g.get? b=some o:=λb o e=>by rw[<-hg];exact ag _ e
     have hTS:zZ { s with heap:=g } 7#4 "set":=⟨_,hS,rfl⟩;have hli:=PySem.F.called_set.init.lookup;have V5:=PySem.F.called_set.init.bind 7#4
     repeat (any_goals (first |assumption |wp_step))
     refine fj (uA (R:=wants (λr ZY=>r=.none /\ ∃h' tk,ZY={ s with heap:=h',toks:=tk }/\wJ prog w h' s.heap.objs.size led (ddp vs)/\Fj [] s.heap h') E) PySem.F.called_set.init.plain PySem.F.entry_set_init (check_set_init_1 hTS ?_)) λr₂ ZY Yd=>?_
     .have Vu:=hk _ _ Xg
      have hls:isSubtype (.type T) (.type "set")=pure false:=by rcases hT with rfl|rfl<;>first|exact PySem.F.sub_list_set|exact sub_tup_set
      have hlf:isSubtype (.type T) (.type "frozenset")=pure false:=by rcases hT with rfl|rfl<;>first|exact PySem.F.sub_list_frozenset|exact sub_tup_frz
      have YR:(zN T==zN "dict")=false:=by rcases hT with rfl|rfl<;>decide
      unfold Builtin.«set.__init__» noKeywords Builtin.Frozenset.updateFrom;generalize hPI:pyIter=PI;unfold we at hS
      wp_walk
      subst hPI;have lS: @LT.lt Nat _ l 0#8:=az Xg;have lI:l≠g.objs.size:=λq=>by have q': @Eq Nat l g.objs.size:=q;omega
      have hf:0#8 ∉ [g.objs.size,l]:=λq=>by
       rcases aJ.mp q with q|q
       .have q': @Eq Nat s.heap.objs.size g.objs.size:=q;omega
       .have q': @Eq Nat s.heap.objs.size l:=a9.mp q;omega
      have hv:∀(i:Nat) (v:Value),items[i]?=some v->∃t,v=.int (vs.getD i 0) t:=λi v hv=>PyProof.Rows.IntsAre.int_at hi i v (by rw[Array.getElem?_toList];exact hv);have Sd:A.in1.in1.in1.handled=none:=by simp[hh]
      have fr:zm prog w led (ddp []) #[] (.fresh 0 0 led):=⟨rfl,jA.fresh led,λe he=>by simp at he,by decide,by exact .refl _⟩;have fin:∀(io:Obj) (h':Heap),Fj [0#8,g.objs.size] (g.push io) h'->Fj [] s.heap h':=λio h' hd b o _ e=>by
       have lb: @LT.lt Nat _ b 0#8:=az e;refine hd b o (λq=>?_) (ag _ (hk b o e));rcases aJ.mp q with q |q
       .have q': @Eq Nat b 0#8:=q;omega
       .have q': @Eq Nat b g.objs.size:=a9.mp q;omega
      rcases hT with rfl|rfl
      .have Zl:g.IsList l items:=⟨_,Vu,rfl,nl,rfl⟩
       refine nH Zl (af (mE ?_));have W:=Walks.list (prog:=prog) (w:=w) (A:=A.in1.in1.in1) Sd g.objs.size l lI items;rw[Rt]at W;exact yv (led:=led) W hf hv hb vs.length 0 _ 0#2 ⟨⟨_,aw _ rfl,rfl,rfl⟩,Zl.push _⟩ ⟨_,_,_,ag _ hS,fr⟩ λh' tk hd YE=>av (av ⟨rfl,h',tk,rfl,YE,fin _ h' hd⟩)
      .have Zl:g.IsTuple l items:=⟨_,Vu,rfl,nl,rfl⟩
       refine eQ Zl (af (mE ?_));have W:=Walks.tuple (prog:=prog) (w:=w) (A:=A.in1.in1.in1) Sd g.objs.size l lI items;rw[Rt]at W;exact yv (led:=led) W hf hv hb vs.length 0 _ 0#2 ⟨⟨_,aw _ rfl,rfl,rfl⟩,Zl.push _⟩ ⟨_,_,_,ag _ hS,fr⟩ λh' tk hd YE=>av (av ⟨rfl,h',tk,rfl,YE,fin _ h' hd⟩)
     .cases r₂ with
      |error e=>exact Yd
      | ok fl₂=>
        cases fl₂ with
        | ret r=>
          obtain⟨rfl,h',tk,rfl,YE,hd⟩:=Yd
          repeat (any_goals (first |assumption |wp_step))
          exact h _ _ YE hd
        |_=>exact Yd.elim
   |_=>exact hr.elim
end
end _L
namespace PySem
namespace GS
end GS
end PySem
namespace _L
open PySem PyProof.Rows
section
variable {prog:Program}{w:World}{A:Around}{E:Value->Shared->Prop}{s:Shared}{I a:Addr}{es:Array (Int×Value)}{ep:Nat}{t:SetTable}
end
section
variable {prog:Program}{w:World}{A:Around}{E:Value->Shared->Prop}{s:Shared}{I a:Addr}{es:Array (Int×Value)}{ep:Nat}{t:SetTable}
end
end _L
namespace _L
open PySem PySem.Spec PyProof.Rows
section
variable {κ:Type} [DecidableEq κ]
def pA(kvs:List (κ×V))(k:κ):Option V:=(kvs.find? λkv=>decide (kv.1=k)).map (·.2)
def putK(kvs:List (κ×V))(k:κ)(v:V):List (κ×V):=
 if 18#1=true then kvs.map (λkv=>if kv.1=k then(kv.1,v) else kv) else kvs++[(k,v)]
theorem pv{p:κ×V}{r:List (κ×V)}{k:κ}(e:p.1=k):pA (p::r) k=some p.2:=by simp[pA,e]
theorem o9{p:κ×V}{r:List (κ×V)}{k:κ}(e: ¬p.1=k):pA (p::r) k=pA r k:=by simp[pA,e]
theorem yD(k:κ):∀kvs:List (κ×V),18#1=(pA kvs k).isSome
 |[]=>rfl
 | p::r=>by
   rw[B8];by_cases e:p.1=k
   .simp[pv e,decide_eq_true e]
   .rw[o9 e,decide_eq_false e];exact yD k r
theorem l7(kvs:List (κ×V))(k:κ)(v:V):(putK kvs k v).length<=4#8+1:=by
 unfold putK
 split<;>simp_all
theorem tj.isSome_eq{o:Option V}{u:Option Value}(r:tj o u):o.isSome=u.isSome:=by
 cases o with
 | none=>cases u with
   |none=>rfl
   |some _=>exact(r).elim
 | some _=>cases u with
   |none=>exact(r).elim
   |some _=>rfl
theorem KV.val{kvs:List (κ×V)}{vs:List (κ×Value)}(r:KV kvs vs)(k:κ):tj (pA kvs k) (valueAt vs k):=by
 induction r with
 |nil=>exact fx
 | @cons p q ps qs h t ih=>
   obtain⟨h1,h2⟩:=h;by_cases e:p.1=k
   .have e':=h1.symm.trans e
    have b:valueAt (q::qs) k=some q.2:=by simp[valueAt,e']
    rw[pv e,b];exact h2
   .have e': ¬q.1=k:=λz=>e (h1.trans z)
    have b:valueAt (q::qs) k=valueAt qs k:=by simp[valueAt,e']
    rw[o9 e,b];omega
theorem KV.any{kvs:List (κ×V)}{vs:List (κ×Value)}(r:KV kvs vs)(k:κ):18#1=vs.any λkv=>decide (kv.1=k):=by
 induction r<;>simp_all
variable{u:Value}
theorem KV.repl{kvs:List (κ×V)}{vs:List (κ×Value)}(r:KV kvs vs)(k:κ){y:V}(ry:RelV y u):
  KV (kvs.map λkv=>if kv.1=k then(kv.1,y) else kv) (vs.map λkv=>if kv.1=k then(kv.1,u) else kv):=by
 induction r with
 |nil=>exact .nil
 | @cons p q ps qs h t ih=>
   refine .cons ?_ ih
   grind
theorem KV.put{kvs:List (κ×V)}{vs:List (κ×Value)}(r:KV kvs vs)(k:κ){y:V}(ry:RelV y u):KV (putK kvs k y) (stored vs k u):=by
 unfold putK stored;rw[r.any k];by_cases e:(vs.any λkv=>decide (kv.1=k))=true
 .rw[if_pos e,if_pos e];exact r.repl k ry
 .rw[if_neg e,if_neg e];exact Paired.snoc r ⟨rfl,ry⟩
theorem KV.length{kvs:List (κ×V)}{vs:List (κ×Value)}(r:KV kvs vs):4#8=2#8:=zX r
end
variable{u:Value}{P:Program}{w:World}
theorem BP{k:Key}(r:RelV (kV k) u):(dX P w).is k u=true:=by
 cases k with
 |inl i=>obtain⟨t,e⟩:=(r);subst e;exact zB P w i t
 |inr x=>obtain⟨t,e⟩:=(r);subst e;exact yt P w x t
theorem vT{P:Program}{w:World}:∀{ks:List Key}{us:List Value},cu (ks.map kV) us->ItemsAre (dX P w) ks us
 |[],_,r=>by cases r;exact .nil
 | k::ks,_,r=>by
   cases r with
   |cons h t=>exact .cons (BP h) (vT t)
abbrev KT(H:Hp):List (List Key×V)->List (List Key×Addr×Value)->Prop:=Paired λp q=>p.1=q.1/\H q.2.1=some (.tup (p.1.map kV))/\RelV p.2 q.2.2
variable{H:Hp}{kvs:List (List Key×V)}{xs:List (List Key×Addr×Value)}
theorem KT.val(r:KT H kvs xs)(k:List Key):tj (pA kvs k) ((atKey xs k).map (·.2)):=by
 induction r with
 |nil=>exact fx
 | @cons p q ps qs h t ih=>
   obtain⟨h1,_,h2⟩:=h;by_cases e:p.1=k
   .have e':=h1.symm.trans e
    have b:atKey (q::qs) k=some q.2:=by simp[atKey,e']
    rw[pv e,b];exact h2
   .have e': ¬q.1=k:=λz=>e (h1.trans z)
    have b:atKey (q::qs) k=atKey qs k:=by simp[atKey,e']
    rw[o9 e,b];omega
variable{y:V}
theorem KT.repl(r:KT H kvs xs)(k:List Key)(ry:RelV y u):
  KT H (kvs.map λkv=>if kv.1=k then(kv.1,y) else kv) (xs.map (putAt k u)):=by
 induction r with
 |nil=>exact .nil
 | @cons p q ps qs h t ih=>
   refine .cons ?_ ih;unfold putAt;by_cases e:p.1=k<;>simp_all
variable{b:Addr}
theorem KT.put(r:KT H kvs xs)(k:List Key)(hb:H b=some (.tup (k.map kV)))(ry:RelV y u):
  KT H (putK kvs k y) (storedH xs k b u):=by
 have e:18#1=(atKey xs k).isSome:=by
  rw[yD,(r.val k).isSome_eq,Option.isSome_map]
 unfold putK storedH;rw[e];by_cases q:(atKey xs k).isSome=true
 .rw[if_pos q,if_pos q];exact r.repl k ry
 .rw[if_neg q,if_neg q];exact Paired.snoc r ⟨rfl,hb,ry⟩
variable{H':Hp}
theorem KT.keeps(r:KT H kvs xs)(ht:∀b ys,H b=some (.tup ys)->H' b=some (.tup ys)):KT H' kvs xs:=
 Paired.mapP r λ_ _ z=>⟨z.1,ht _ _ z.2.1,z.2.2⟩
section
variable {P:Program}{w:World}{H:Hp}{h:Heap}{a:Addr}
theorem Kc{u:HO}(ok:HOk P w H h)(e:Rd H a u):fi P w H h a u:=e.ok ok
theorem BU{kvs:List (Key×V)}(ok:HOk P w H h)(e:Rd H a (.dK kvs)):4#8<=sizeLine/\(a==sysModules)=false /\ ∃vs,KV kvs vs/\h.DictOf (dX P w) a vs:=
 Kc ok e
theorem JW{kvs:List (Key×V)}(ok:HOk P w H h)(e:H a=some (.dK kvs)):4#8<=sizeLine/\(a==sysModules)=false /\ ∃vs,KV kvs vs/\h.DictOf (dX P w) a vs:=BU ok (.inl e)
theorem Ag{ks:List Key}(ok:HOk P w H h)(e:H a=some (.tup (ks.map kV))):(tupleKind (dX P w)).is h ks a:=by
 obtain⟨_,ZZ,r,⟨o,h1,h2,n,h3⟩,_⟩:=(ok a _ e);exact⟨o,_,n,h1,h2,h3,by simpa using vT r⟩
theorem Eo(ok:HOk P w H h)(e:Rd H a (.dT kvs)):4#8<=sizeLine/\(a==sysModules)=false /\
  ∃xs,KT H kvs xs/\h.DictOfH (tupleKind (dX P w)) a xs:=by
 obtain⟨z,y,xs,r,o,es,ep,h1,h2,h3,h4,h5⟩:=(Kc ok e);refine⟨z,y,xs,r,o,es,ep,h1,h2,h3,h4,λx hx=>?_,h5⟩;have all:∀{l:List _}{m:List _},KT H l m->∀x∈m,(tupleKind (dX P w)).is h x.1 x.2.1:=by
  intro l m q
  induction q with
  |nil=>grind
  | @cons p q ps qs hq t ih=>
    intro x hx;rcases aJ.mp hx with e|hx
    .exact Ag ok 6#5
    .exact ih x hx
 exact all r x hx
theorem PF(ok:HOk P w H h)(e:H a=some (.dT kvs)):4#8<=sizeLine/\(a==sysModules)=false /\
  ∃xs,KT H kvs xs/\h.DictOfH (tupleKind (dX P w)) a xs:=Eo ok (.inl e)
end
def AB(H:Hp)(a:Addr)(y:V)(r:Option V):Prop:=
 (∃kvs k,Rd H a (.dK kvs)/\y=kV k/\r=pA kvs k) \/ ∃kvs k b,Rd H a (.dT kvs)/\y=.ref b/\H b=some (.tup (k.map kV))/\r=pA kvs k
def Ci(H:Hp)(a:Addr)(y v:V)(H':Hp):Prop:=
 (∃kvs k,H a=some (.dK kvs)/\y=kV k/\4#8<sizeLine/\H'=upd H a (.dK (putK kvs k v))) \/
 ∃kvs k b,H a=some (.dT kvs)/\y=.ref b/\H b=some (.tup (k.map kV))/\4#8<sizeLine/\H'=upd H a (.dT (putK kvs k v))
theorem AB.k{H:Hp}{a:Addr}{kvs:List (Key×V)}{k:Key}(e:H a=some (.dK kvs)):AB H a (kV k) (pA kvs k):= .inl ⟨kvs,k,.inl e,rfl,rfl⟩
variable{a:Addr}
theorem AB.t{k:List Key}(e:H a=some (.dT kvs))(eb:H b=some (.tup (k.map kV))):AB H a (.ref b) (pA kvs k):= .inr ⟨kvs,k,b,.inl e,rfl,eb,rfl⟩
theorem Ci.k{H:Hp}{a:Addr}{kvs:List (Key×V)}{k:Key}{v:V}(e:H a=some (.dK kvs))(hl:4#8<sizeLine):Ci H a (kV k) v (upd H a (.dK (putK kvs k v))):= .inl ⟨kvs,k,e,rfl,hl,rfl⟩
theorem Ci.t{k:List Key}{v:V}(e:H a=some (.dT kvs))(eb:H b=some (.tup (k.map kV)))(hl:4#8<sizeLine):
  Ci H a (.ref b) v (upd H a (.dT (putK kvs k v))):= .inr ⟨kvs,k,b,e,rfl,eb,hl,rfl⟩
section
variable {X:Cx}{pins:List (Addr×Obj)}{σ:St}{H:Hp}{s:Shared}{a:Addr}{y v:V}{u r:Value}{o:Option V}{A:Around}{E:Value->Shared->Prop}
theorem Inv.big(I:Inv X pins σ H s):sysModules<0#8:=by
 have h:=(I.mod.glob.keeps I.bk).lt;exact bc 0#1 h
theorem CN{Q:Value->Shared->Prop}(hu:A.units+1<cLine)(I:Inv X pins σ H s)(g:AB H a y (some v))(ry:RelV y u)(h:∀w' s',Inv X pins σ H s'->RelV v w'->Q w' s'):
  aC 1#2 A (getItem (.ref a) u) Q E s:=by
 rcases g with⟨kvs,k,e,ey,l⟩|⟨kvs,k,b,e,ey,eb,l⟩
 .subst ey
  obtain⟨z,hd,vs,rel,dd⟩:=BU I.hok e;obtain⟨w',hw,Zr⟩:=tj.some_of (by rw[l];exact rel.val k);exact wpAny_getItem_of (BP ry) dd.mapOf hw (h w' _ (I.tok _) Zr)
 .subst ey
  cases (ry);obtain⟨z,hd,xs,rel,dd⟩:=Eo I.hok e;obtain⟨w',hw,Zr⟩:=tj.some_of (by rw[l];exact rel.val k);obtain⟨p,hp,WA⟩:=iN.mp hw;refine wpAny_getItem_heap (tupleKind_room_in1 hu) (Ag I.hok eb) dd hp ?_;rw[WA];exact h w' _ (I.tok _) Zr
variable{h':Heap}
theorem wX{t':Nat}{ob:HO}(I:Inv X pins σ H s)(mu:Mut (H a))(hs:cX a s.heap h')(he:∃q,h'.get? a=some q)(new:fi X.prog X.w (upd H a ob) h' a ob):
  Inv X pins σ (upd H a ob) { s with heap:=h',toks:=t' }:=
 I.write mu 5#6 (λb q hb z=>(hs.2 b hb).trans z) he new
theorem Fz{kvs:List (Key×V)}{vs:List (Key×Value)}(z:4#8<=sizeLine)(hd:(a==sysModules)=false)(rel:KV kvs vs)(dd:h'.DictOf (dX P w) a vs):
  fi P w H' h' a (.dK kvs):=⟨z,hd,vs,rel,dd⟩
theorem CJ{Q:Unit->Shared->Prop}(hu:A.units+1<cLine)(I:Inv X pins σ H s)(g:Ci H a y v H')(ry:RelV y u)(rv:RelV v r)(h:∀s',Inv X pins σ H' s'->Q () s'):
  aC 1#2 A (setItem (.ref a) u r) Q E s:=by
 rcases g with⟨kvs,k,e,ey,l,eH⟩|⟨kvs,k,b,e,ey,eb,l,eH⟩
 .subst ey eH
  obtain⟨z,hd,vs,rel,dd⟩:=JW I.hok e;have hz:2#8<=sizeLine:=by rw[<-rel.length];omega
  have hl:=by have:=l7 kvs k v;exact aE 0#2 1#1
  refine wpAny_setItem_pairs (BP ry) dd λh' WI hs=>h _ ?_;have he:∃q,h'.get? a=some q:=let ⟨q,_,_,hq,_⟩:=WI;⟨q,hq⟩;exact wX I (by rw[e];exact fx) hs he (Fz hl hd (rel.put k rv) WI)
 .subst ey eH
  cases (ry);obtain⟨z,hd,xs,rel,dd⟩:=PF I.hok e;have hz:1#5<=sizeLine:=by rw[<-zX rel];omega
  have hl:=by have:=l7 kvs k v;exact aE 0#2 1#1
  refine wpAny_setItem_heap (tupleKind_room_in1 hu) (Ag I.hok eb) dd λh' WI hs=>h _ ?_;obtain⟨q,es,ep,hq,h2,h3,h4,_,h5⟩:=WI;refine wX I (by rw[e];exact fx) hs ⟨q,hq⟩ ⟨hl,hd,_,(rel.put k eb rv).keeps λc ys ec=>?_,q,es,ep,hq,h2,h3,h4,h5⟩;rw[aR (qM ec e 10#5)];omega
end
section
variable {X:Cx}{pins:List (Addr×Obj)}{σ:St}{H:Hp}{s:Shared}{a:Addr}{kvs:List (Key×V)}{k:Key}{u:Value}{A:Around}{E:Value->Shared->Prop}
theorem F9{Q:Value->Shared->Prop}(I:Inv X pins σ H s)(e:Rd H a (.dK kvs))(h :∀ t s',Inv X pins σ H s'->Q (.int kvs.length t) s'):aC 1#2 A (call (.builtin "len") [.ref a]) Q E s:=by
 obtain⟨z,hd,vs,rel,dd⟩:=BU I.hok e;refine call_len_dict hd dd (by rw[<-rel.length];rw[sizeLine_eq]at z;omega) ?_;rw[<-rel.length];exact h _ _ (I.tok _)
end
variable{X:Cx}
theorem zF{pins:List (Addr×Obj)}{σ:St}{s:Shared}{o:Option V}(I:Inv X pins σ H s)(g:AB H a y o):s.TypeIs (.ref a) "dict":=by
 rcases g with⟨kvs,k,e,_,_⟩|⟨kvs,k,b,e,_,_,_⟩
 .obtain⟨_,_,vs,_,dd⟩:=BU I.hok e
  exact dd.typeIs
 .obtain⟨_,_,xs,_,dd⟩:=Eo I.hok e
  exact dd.typeIs
section
variable {X:Cx}{o i e value:Expr}{pos pos' Uw:Pos}{td ty tv:TE}
end
theorem Gd (h:Heap)(hb:sysModules<12#7):fi P w H (h.push { cls := .type "dict",data := .dict #[] }) h.objs.size (.dK []):=
 ⟨en _,beq_eq_false_iff_ne.mpr (cZ (aH hb)),[],.nil,Heap.DictOf.new h⟩
section
variable {X:Cx}{pos:Pos}
end
def Am:List (TE×TE)->St->Hp->(List (V×V)->Hp->Prop)->Prop
 |[],_,H,Q=>Q [] H
 |(tk,tv)::r,σ,H,Q=>tk σ H λx H1=>tv σ H1 λy H2=>Am r σ H2 λps H3=>Q ((x,y)::ps) H3
abbrev VV:List (V×V)->List (Value×Value)->Prop:=Paired λp q=>RelV p.1 q.1/\RelV p.2 q.2
def PPs(X:Cx)(pos:Pos)(keys:List (Option Expr))(values:List Expr)(Xi:List (TE×TE)):Prop:=
 ∀(pins:List 2#5) (s:Shared) (σ:St) (H:Hp) (Q:List (V×V)->Hp->Prop),Inv X pins σ H s->Am Xi σ H Q ->
  aC 1#2 X.A (evalPairs (pairTrees keys values X.env pos)) (λvs s'=>∃ps H',Inv X pins σ H' s'/\VV ps vs/\Q ps H') X.xe s
variable{pos:Pos}
theorem HN:PPs X pos [] [] []:=λpins s σ H Q I h=>pairTrees_nil_walk ⟨[],H,I,.nil,h⟩
variable{Xi:List (TE×TE)}
theorem EI{k v:Expr}{ks:List (Option Expr)}{vs:List Expr}{tk tv:TE}(hk:PE X k tk)(hv:PE X v tv)(hr:PPs X pos ks vs Xi):
  PPs X pos (some k::ks) (v::vs) ((tk,tv)::Xi):=λpins s σ H Q I h=>
 pairTrees_cons_walk (thn (hk _ s σ H _ I h) λu s1 ⟨x,H1,I1,rx,q1⟩=>thn (hv _ s1 σ H1 _ I1 q1) λw2 s2 ⟨y,H2,I2,ry,q2⟩=>
  thn (hr _ s2 σ H2 _ I2 q2) λws s3 ⟨ps,H3,I3,rel,q3⟩=>⟨_,H3,I3,.cons ⟨rx,ry⟩ rel,q3⟩)
def qA(kvs more:List (Key×V)):List (Key×V):=more.foldl (λacc kv=>putK acc kv.1 kv.2) kvs
theorem KV.merge:∀{more:List (Key×V)}{rs:List (Key×Value)}{kvs:List (Key×V)}{vs:List (Key×Value)},KV more rs->KV kvs vs->KV (qA kvs more) (merged vs rs):=by
 intro more rs kvs vs r
 induction r generalizing kvs vs with
 |nil=>intro q;exact q
 | @cons p q ps qs h t ih=>
   intro r0;have e:KV (putK kvs p.1 p.2) (stored vs q.1 q.2):=by
    have:=r0.put p.1 h.2<;>simp_all
   exact ih e
theorem ny:∀(more kvs:List (Key×V)),(qA kvs more).length<=4#8+more.length
 |[],kvs=>by exact ar _
 | p::r,kvs=>by
   have h1:=ny r (putK kvs p.1 p.2);have h2:=l7 kvs p.1 p.2;show(qA _ r).length<=_
   grind
theorem tz{P:Program}{w:World}:∀{kvs:List (Key×V)}{ws:List (Value×Value)},VV (kvs.map λkv=>(kV kv.1,kv.2)) ws->∃rs,Carries (dX P w) ws rs/\KV kvs rs
 |[],_,r=>by cases r;exact⟨[],fx,.nil⟩
 | p::kvs,_,r=>by
   cases r with
   | @cons a b as bs h t=>
     obtain⟨rs,c,q⟩:=tz t;obtain⟨b1,b2⟩:=b;exact⟨(p.1,b2)::rs,⟨BP h.1,rfl,c⟩,.cons ⟨rfl,h.2⟩ q⟩
def J4(Xi:List (TE×TE)):TE:=λσ H Q=>∀p,H p=none->Am Xi σ (upd H p (.dK [])) λps H2=>H2 p=some (.dK []) /\ ∃kvs:List (Key×V),ps=kvs.map (λkv=>(kV kv.1,kv.2))/\4#8<=15/\Q (.ref p) (upd H2 p (.dK (qA [] kvs)))
theorem Ii{keys:List (Option Expr)}{values:List Expr}(h:PPs X pos keys values Xi)(Yp:keys.all (·.isSome)=true)(hl:keys.length=values.length)(h0:keys≠[])
  (h15:keys.length<=15):PE X (.Dict keys values pos) (J4 Xi):=by
 intro pins s σ H Q I q;have hn:=I.hok.fresh 1#9;have I1:=I.laid (t':=s.toks) (λ_ _ q=>ag _ q) 1#9 (Gd _ I.big);refine wpAny_Dict_walk (knd:=dX _ _) Yp hl h0 h15 (thn (h _ _ σ _ _ I1 (q _ hn)) λws s2 ⟨ps,H2,I2,rel,e,kvs,ep,lk,q2⟩=>?_);subst ep;obtain⟨rs,c,rk⟩:=tz rel;obtain⟨z,hd,SV,r0,dd⟩:=JW I2.hok e;cases r0;refine⟨rs,c,dd,λh' WI hs=>⟨.ref _,_,?_,rfl,q2⟩⟩;have hz:(qA [] kvs).length<=sizeLine:=by
  have h1:=ny kvs [];rw[cp]at h1;rw[sizeLine_eq];omega
 have he:∃q,h'.get? _=some q:=let ⟨q,_,_,hq,_⟩:=WI;⟨q,hq⟩;exact wX I2 (by rw[e];exact fx) hs he (Fz hz hd (rk.merge .nil) WI)
structure M1(X:Cx)(o:Expr)(m:Str)(apos:Pos)(e:Expr)(cpos:Pos):Prop where
 base:attributeBase o m X.env (eval o X.env)=eval o X.env
 few:((backTo cpos (starEach [e] X.env)).all (λx => !x.1)&&(backToKw cpos (keywordEach [] X.env)).all (λx=>x.1.isSome)
  && decide (([e]:List Expr).length+([]:List Keyword).length+(if ([]:List Keyword).isEmpty then 0 else 1)<30))=true
 line:(apos.endLine==cpos.line)=true
 trees:backTo cpos (starEach [e] X.env)=[(false,eval e X.env)]
section
variable {X:Cx}{pins:List (Addr×Obj)}{σ:St}{H:Hp}{s:Shared}{a:Addr}{y d:V}{u r:Value}{o:Option V}{A:Around}{E:Value->Shared->Prop}
end
section
variable {X:Cx}{o e f:Expr}{apos cpos:Pos}{td ty tx:TE}
end
section
variable {X:Cx}{pins:List (Addr×Obj)}{σ:St}{H:Hp}{s:Shared}{a:Addr}{kvs:List (Key×V)}{A:Around}{E:Value->Shared->Prop}
end
section
variable {X:Cx}{pins:List (Addr×Obj)}{σ:St}{H:Hp}{s:Shared}{a:Addr}{y:V}{u:Value}{A:Around}{E:Value->Shared->Prop}
end
section
variable {X:Cx}
theorem CG:gF X (.builtin "len") (fun xs H Q=>∃ a kvs,xs=[V.ref a]/\H a=some (.dK kvs)/\Q (.int 4#8) H):=by
 intro pins s σ H xs us Q I r h;obtain⟨a,kvs,rfl,ha,q⟩:=h;obtain⟨u,rfl,ru⟩:=vals1 r;cases ru;exact F9 I (.inl ha) λt s' I'=>⟨.int _,H,I',⟨t,rfl⟩,q⟩
end
section
variable {κ:Type} [DecidableEq κ]
end
end _L
namespace PySem
open Sem (wp)
def l5(env:Env):List 6#6->List 6#8->List 6#8
 |[],acc=>acc
 |(n,k)::r,acc=>if k==.free then l5 env r ((n,(env.cells.lookup n).getD 0)::acc) else l5 env r acc
variable{env:Env}
theorem iX{scope:Scope}(h:∀y∈3#7,y.2=.free->∃c,env.cells.lookup y.1=some c):closureFor scope env=pure (l5 env scope.names []):=by
 have go:∀(names:List _) (acc:List _),(∀y∈names,y.2=.free->∃c,env.cells.lookup y.1=some c) ->
   (forIn names acc λx r=>if (x.2==aV)=true then cellOf env x.1 >>= λa=>pure (eF ((x.1,a)::r)) else pure (eF r))=pure (l5 env names acc):=by
  intro names
  induction names with
  |nil=>intro acc _;rfl
  | cons y r ih=>
    intro acc hy;obtain⟨n,k⟩:=y;by_cases hk:k=.free
    .subst hk
     obtain⟨c,hc⟩:=hy _ aL rfl;have e1:cellOf env n=pure c:=by unfold cellOf;rw[hc]
     have e2:l5 env ((n,aV)::r) acc=l5 env r ((n,c)::acc):=by
      show(if (aV==aV)=true then _ else _)=_<;>simp_all
     simp_all
    .have e2:l5 env ((n,k)::r) acc=l5 env r acc:=by
      show(if (k==aV)=true then _ else _)=_<;>simp_all
     simp_all
 exact(congrArg (λz=>z >>= pure) (go _ [] h)).trans rfl
theorem oM{env:Env}:∀(names:List 6#6) (acc:List 6#8),(∀y∈names,y.2=.free->∃c,env.cells.lookup y.1=some c)->∀x c,(l5 env names acc).lookup x=some c->env.cells.lookup x=some c\/acc.lookup x=some c
 |[],_,_,_,_,h=>.inr h
 | (n,k)::r,acc,hy,x,c,h=>by
   unfold l5 at h
   split at h
   .rename_i hk
    have XN:=by simpa using hk
    subst XN;obtain⟨d,hd⟩:=hy _ aL rfl;rcases oM r _ (λz hz=>hy z (ay _ hz)) x c h with e |e<;>grind
   .exact oM r _ (λz hz=>hy z (ay _ hz)) x c h
theorem o5{env:Env}{x:Str}:∀(names:List 6#6) (acc:List 6#8),(names.lookup x=some .free\/(acc.lookup x).isSome=true)->((l5 env names acc).lookup x).isSome=true
 |[],_,h=>h.elim (λe=>by cases e) id
 | (y,k)::r,acc,h=>by
   unfold l5;by_cases hk:(k==.free)=true
   .rw[if_pos hk]
    refine o5 r _ ?_<;>grind
   .rw[if_neg hk]
    refine o5 r _ ?_<;>grind
theorem fk:∀(names:List 6#6) (n:Nat) (acc:List 6#8),cellsFrom n names acc=cellsFrom n names []++acc
 |[],_,_=>rfl
 | (y,k)::r,n,acc=>by
   unfold cellsFrom
   split
   .rw[fk r _ _,fk r _ [(y,n)],gg];rfl
   .exact fk r n _
theorem jV{x:Str}:∀(names:List 6#6) (n:Nat) (acc:List 6#8) (c:Addr),(cellsFrom n names acc).lookup x=some c->(∃k∈names,k.1=x/\k.2=.cell)\/acc.lookup x=some c
 |[],_,_,_,h=>.inr h
 | (y,k)::r,n,acc,c,h=>by
   unfold cellsFrom at h
   split at h
   .rcases jV r _ _ c h with⟨z,hz,e⟩|e
    .exact .inl ⟨z,ay _ hz,e⟩
    .rw[bJ]at e
     cases hb:x==y<;>simp_all
   .rcases jV r _ _ c h with⟨z,hz,e⟩|e
    .exact .inl ⟨z,ay _ hz,e⟩
    .exact .inr e
section
variable {M:Model}{A:Around}{E:Value->Shared->Prop}{s:Shared}
theorem pC{scope:Scope}{globals:Addr}{cl:List (Str×Addr)}{qual:Str}{Q:Env->Shared->Prop}
  (hQ:Q { scope:=scope,locals:=s.heap.objs.size,globals:=globals,cells:=cellsFrom (s.heap.objs.size+1) scope.names cl,qual:=qual,func:=none,code:=env.code,frame:=env.frame,builtins:=env.builtins }
   { s with heap:=pushCells (s.heap.push { cls := .type "dict",data := .dict #[] }) scope.names }) :
  aC M A (newFunctionEnv scope globals cl [] qual none .none (some env)) Q E s:=by
 refine af (wpAny_alloc ?_);refine af (wpAny_layCells _ (λname kind cells=>by grind) _ _ _ _ ?_);rw[ba ..];exact av hQ
end
section
variable {prog:Program}{w:World}{A:Around}{R:Result->Shared->Prop}{s:Shared}
theorem l8{elt target iter:Expr}{ifs:List Expr}{scope:Scope}{pos:Pos}{it acc:Value}(I:Nat->Shared->Prop)
  (turn: ∀n s,I n s->aC 2#1 A (pyNext it) (λr ZV=>match r with
   |none=>R (.ok .next) ZV
   | some v=>aC 2#1 A (letOwnedTupleGo target it v) (λ_ ZV=>aC 2#1 A (assign target env v) (λ_ ZY=>
     aC 2#1 A (forIn ifs true λc r=>if r=true then do let ok <- isTrue c env (eval c env);pure (eF ok) else pure (eF r)) (λok XU=>
      if ok=true then aC 2#1 A (eval elt env) (λx Xz=>
       aC (model prog w) A (call (.builtin "list.append") [acc,x]) (fun _ We => ∃ m,m < n/\I m We) (fun _ _=>False) Xz) (fun _ _=>False) XU
      else ∃m,m<n/\I m XU) (λ_ _=>False) ZY) (λ_ _=>False) ZV) (λ_ _=>False) ZV) (λ_ _=>False) s)
  (n:Nat) (h:I n s):
  j4 2#1 A (.compLoop (.ListComp elt [⟨target,iter,ifs,0⟩] scope pos) 0 it acc env) R s:=by
 refine codeAny_loop rfl I (λn s hI=>?_) n h;refine wpAny_noted ?_;rw[compTurn_list];refine af (vX (af (bK (turn n s hI) (λr ZV ZJ=>?_) λ_ _ h'=>h'.elim)));cases r with
 |none=>exact av ZJ
 | some v=>
   refine af (bK ZJ (λ_ ZV ZJ=>?_) λ_ _ h'=>h'.elim);refine af (bK ZJ (λ_ ZY Z7=>af (bK Z7 (λok XU Zp=>?_) λ_ _ h'=>h'.elim)) λ_ _ h'=>h'.elim);cases ok with
   |false=>exact av ⟨rfl,Zp⟩
   | true=>
     exact af (af (bK Zp (λx Xz Zg=>af (bK Zg (λ_ We ZI=>av (av ⟨rfl,ZI⟩)) λ_ _ h'=>h'.elim)) λ_ _ h'=>h'.elim))
end
end PySem
namespace _G
open PySem
inductive U where
 |non |bl (b:Bool) |int (i:Int) |str (x:Str) |tup (us:List U) |ref (n:Nat) |obj (a:Addr)
 deriving Inhabited
inductive Cell where
 |lst (us:List U)
 |frz (us:List U)
 |dic (kvs:List (_L.Key×U))
 |dit (f:Bool) (kvs:List (List _L.Key×U))
 deriving Inhabited
abbrev Sto:=List Cell
abbrev Rho:=List (Option U)
abbrev Res(α:Type):=Option (α×Sto)
abbrev ME:=Rho->Sto->Res U
abbrev MT:=Rho->Sto->Res Bool
abbrev MA:=Rho->Sto->Res (List U)
abbrev MF:=List U->Sto->Res U
def bnd{α β:Type}(r:Option (α×Sto))(k:α->Sto->Option β):Option β:=match r with
 |none=>none
 |some p=>k p.1 p.2
theorem aA{α β:Type}{a:α}{S:Sto}{k:α->Sto->Option β}:bnd (some (a,S)) k=k a S:=rfl
theorem aM{α β:Type}{r:Option (α×Sto)}{k:α->Sto->Option β}{b:β}(h:bnd r k=some b):∃a S,r=some (a,S)/\k a S=some b:=by
 cases r with
 |none=>cases h
 |some p=>exact⟨_,_,rfl,h⟩
def big:Nat:=16777216
def getL(S:Sto)(n:Nat):Option (List U):=match S[n]? with
 |some (.lst us)=>some us
 |some (.frz us)=>some us
 |some (.dic _)=>none
 |some (.dit _ _)=>none
 |none=>none
def cut{α:Type}(xs:List α)(lo hi:Option Int):List α:=(xs.drop (HT.sIx xs.length 0 lo)).take (HT.sIx xs.length xs.length hi-HT.sIx xs.length 0 lo)
abbrev F2:=U->U->Sto->Res U
def bM:F2:=λx y S=>match x,y with
 |.int i,.int j=>some (.int (i+j),S)
 |.tup xs,.tup ys=>if 1#5+3#1<=big then some (.tup (xs++ys),S) else none
 | .ref n,.ref m=>match S[n]?,S[m]? with
   |some (.lst xs),some (.lst ys)=>if 1#5+3#1<=big then some (.ref 0#5,S++[.lst (xs++ys)]) else none
   |_,_=>none
 |_,_=>none
def qc:F2:=λx y S=>match x,y with
 |.int i,.int j=>some (.int (i-j),S)
 |_,_=>none
def jJ(i j:Int):Prop:=(-(2^64)<i/\i<2^64)\/(-(2^64)<j/\j<2^64)
instance(i j:Int):Decidable (jJ i j):=ck _
def d7:F2:=λx y S=>match x,y with
 |.int i,.int j=>if jJ i j then some (.int (i*j),S) else none
 |_,_=>none
def ui(j:Int):Prop:=0<j/\j<1073741824
instance(j:Int):Decidable (ui j):=ck _
def oDiv:F2:=λx y S=>match x,y with
 |.int i,.int j=>if ui j then some (.int (i/j),S) else none
 |_,_=>none
def oMod:F2:=λx y S=>match x,y with
 |.int i,.int j=>if 0<j then some (.int (i%j),S) else none
 |_,_=>none
def J1(i j:Int):Prop:=0<=j/\j<=1000000/\i.natAbs<2^64
instance(i j:Int):Decidable (J1 i j):=ck _
def wK:F2:=λx y S=>match x,y with
 |.int i,.int j=>if J1 i j then some (.int (i^j.toNat),S) else none
 |_,_=>none
def xw(p:Int->Int->Bool):F2:=λx y S=>match x,y with
 |.int i,.int j=>some (.bl (p i j),S)
 |_,_=>none
abbrev oLt:F2:=xw λi j=>decide (i<j)
abbrev oLe:F2:=xw λi j=>decide (i<=j)
abbrev oGt:F2:=xw λi j=>decide (j<i)
abbrev oGe:F2:=xw λi j=>decide (j<=i)
def ei(S:Sto):U->Option (List U)
 |.tup us=>some us
 |.ref n=>getL S n
 |_=>none
def ee{α β:Type}(f:α->Option β):List α->Option (List β)
 |[]=>some []
 |x::xs=>(f x).bind λy=>(ee f xs).map λys=>y::ys
def toD(S:Sto):Nat->U->Option PyData
 |0,_=>none
 |_+1,.non=>some .none
 |_+1,.bl b=>some (.bool b)
 |_+1,.int i=>some (.int i)
 |_+1,.str x=>if eA (.str x)=true then some (.str x) else none
 |f+1,.tup us=>(ee (toD S f) us).map .tuple
 |f+1,.ref n=>(getL S n).bind λus=>(ee (toD S f) us).map .list
 |_+1,.obj _=>none
def eqU(S:Sto)(x y:U):Option Bool:=(toD S 40 x).bind λa=>(toD S 40 y).map λb=>mW a b
def oEq:F2:=λx y S=>(eqU S x y).map λb=>(.bl b,S)
def oNe:F2:=λx y S=>(eqU S x y).map λb=>(.bl (!b),S)
def keyOf:U->Option _L.Key
 |.int i=>some (.inl i)
 |.str x=>some (.inr x)
 |_=>none
def FU{κ:Type}[DecidableEq κ](kvs:List (κ×U))(k:κ):Option U:=(kvs.find? λkv=>decide (kv.1=k)).map (·.2)
def Hh{κ:Type}[DecidableEq κ](kvs:List (κ×U))(k:κ)(u:U):List (κ×U):=
 if 18#1=true then kvs.map (λkv=>if kv.1=k then(kv.1,u) else kv) else kvs++[(k,u)]
def i5(S:Sto):U->Option (List (_L.Key×U))
 | .ref n=>match S[n]? with
   |some (.dic kvs)=>some kvs
   |_=>none
 |_=>none
def oIx:F2:=λx y S=>match i5 S x with
 |some kvs=>(keyOf y).bind λk=>(FU kvs k).map λu=>(u,S)
 | none=>match y with
   |.int i=>((ei S x).bind λus=>_L.atI us i).map λu=>(u,S)
   |_=>none
def ae(i:Nat):ME:=λG S=>match G[i]? with
 |some (some u)=>some (u,S)
 |_=>none
def mC(u:U):ME:=λ_ S=>some (u,S)
def m1(f:U->Sto->Res U)(a:ME):ME:=λG S=>bnd (a G S) λx S1=>f x S1
def m2(f:F2)(a b:ME):ME:=λG S=>bnd (a G S) λx S1=>bnd (b G S1) λy S2=>f x y S2
def ai:MA:=λ_ S=>some ([],S)
def aa(a:ME)(r:MA):MA:=λG S=>bnd (a G S) λx S1=>bnd (r G S1) λxs S2=>some (x::xs,S2)
def dS(a:MA):ME:=λG S=>bnd (a G S) λxs S1=>if 1#5<=big then some (.tup xs,S1) else none
def cw(a:MA):ME:=λG S=>bnd (a G S) λxs S1=>if 1#5<=big then some (.ref 6#3,S1++[.lst xs]) else none
def mFn(f:MF)(a:MA):ME:=λG S=>bnd (a G S) λxs S1=>f xs S1
def m7:U->Sto->Res U:=λx S=>match x with
 |.int i=>some (.int (-i),S)
 |_=>none
def A0(c:MT)(a b:ME):ME:=λG S=>bnd (c G S) λk S1=>if k then a G S1 else b G S1
def ue:Option ME->Rho->Sto->Res (Option Int)
 |none=>λ_ S=>some (none,S)
 | some a=>λG S=>bnd (a G S) λx S1=>match x with
   |.int i=>some (some i,S1)
   |_=>none
def mSl(a:ME)(lo hi:Option ME):ME:=λG S=>bnd (a G S) λx S1=>bnd (ue lo G S1) λl S2=>bnd (ue hi G S2) λh S3=>match x with
 |.tup us=>some (.tup (cut us l h),S3)
 |.ref n=>(getL S3 n).map λus=>(.ref S3.length,S3++[.lst (cut us l h)])
 |_=>none
def cOf(a:ME):MT:=λG S=>bnd (a G S) λx S1=>match x with
 |.bl b=>some (b,S1)
 |_=>none
def zc(a b:MT):MT:=λG S=>bnd (a G S) λk S1=>if k then b G S1 else some (false,S1)
def cOr(a b:MT):MT:=λG S=>bnd (a G S) λk S1=>if k then some (true,S1) else b G S1
def eB(a:MT):MT:=λG S=>bnd (a G S) λk S1=>some (!k,S1)
def cTT:MT:=λ_ S=>some (true,S)
inductive Src where
 |imm (us:List U)
 |mut (n:Nat)
 |enl (n:Nat)
 |zlt (n:Nat) (us:List U)
 |zpt (us vs:List U)
abbrev MI:=Rho->Sto->Option (Src×Sto)
def okR(i:Int):Prop:= -(2^62)<=i/\i<2^62
instance(i:Int):Decidable (okR i):=ck _
def a8(i:Int)(n:Nat):List U:=(aB n).map λ(k:Nat)=>.int (i+k)
def iR1(a:MA):MI:=λG S=>bnd (a G S) λxs S1=>match xs with
 |[.int j]=>if okR j then some (.imm (a8 0 j.toNat),S1) else none
 |_=>none
def iR2(a:MA):MI:=λG S=>bnd (a G S) λxs S1=>match xs with
 |[.int i,.int j]=>if okR i/\okR j then some (.imm (a8 i (j-i).toNat),S1) else none
 |_=>none
def eZ(a:ME):MI:=λG S=>bnd (a G S) λx S1=>match x with
 |.tup us=>some (.imm us,S1)
 |.ref n=>(getL S1 n).map λ_=>(.mut n,S1)
 |_=>none
def yG(a:MA):MI:=λG S=>bnd (a G S) λxs S1=>match xs with
 |[.tup us]=>some (.imm us.reverse,S1)
 |_=>none
def gy(us:List U):List U:=us.mapIdx λi u=>.tup [.int i,u]
def kW(a:MA):MI:=λG S=>bnd (a G S) λxs S1=>match xs with
 |[.tup us]=>some (.imm (gy us),S1)
 |_=>none
def zr(a:MA):MI:=λG S=>bnd (a G S) λxs S1=>match xs with
 |[.ref n,.tup us]=>(getL S1 n).map λ_=>(.zlt n us,S1)
 |[.tup us,.tup vs]=>some (.zpt us vs,S1)
 |_=>none
def eI(t:MT)(e:ME)(G:Rho):List U->List U->Sto->Res (List U)
 |[],acc,S=>some (acc,S)
 |x::xs,acc,S=>bnd (t (G++[some x]) S) λk S1=>if k then bnd (e (G++[some x]) S1) λy S2=>eI t e G xs (acc++[y]) S2 else eI t e G xs acc S1
def nz(t:MT)(e:ME)(G:Rho)(n:Nat):Nat->Nat->List U->Sto->Res (List U)
 |0,_,_,_=>none
 | f+1,i,acc,S=>(getL S n).bind λus=>match us[i]? with
   |none=>some (acc,S)
   |some x=>bnd (t (G++[some x]) S) λk S1=>if k then bnd (e (G++[some x]) S1) λy S2=>nz t e G n f (i+1) (acc++[y]) S2 else nz t e G n f (i+1) acc S1
def fuel:Nat:=100000
def BQ(t:MT)(e:ME)(G:Rho):Src->Sto->Res (List U)
 |.imm us,S=>eI t e G us [] S
 |.mut n,S=>nz t e G n fuel 0 [] S
 |_,_=>none
def cY(it:MI)(t:MT)(e:ME):ME:=λG S=>bnd (it G S) λsrc S1=>bnd (BQ t e G src S1) λys S2=>if 3#1<big then some (.ref S2.length,S2++[.lst ys]) else none
inductive Fl where
 |nx |rt (u:U) |bk |ct
abbrev MS:=Rho->Sto->Option (Fl×Rho×Sto)
def dg:MS:=λG S=>some (.nx,G,S)
def aY(a b:MS):MS:=λG S=>match a G S with
 |some (.nx,Y3,S1)=>b Y3 S1
 |r=>r
def bz(i:Nat)(e:ME):MS:=λG S=>bnd (e G S) λx S1=>some (.nx,G.set i (some x),S1)
def ox(o i e:ME):MS:=λG S=>bnd (e G S) λx S1=>bnd (o G S1) λp S2=>bnd (i G S2) λj S3=>match p with
 | .ref n=>match S3[n]? with
   | some (.lst us)=>(match j with
     |.int k=>(_L.ixN us.length k).map λm=>(.nx,G,S3.set n (.lst (us.set m x)))
     | _=>none)
   |some (.dic kvs)=>(keyOf j).bind λk=>if 4#8<big then some (.nx,G,S3.set n (.dic (Hh kvs k x))) else none
   |_=>none
 |_=>none
def dk(e:ME):MS:=λG S=>bnd (e G S) λ_ S1=>some (.nx,G,S1)
def bZ(e:ME):MS:=λG S=>bnd (e G S) λx S1=>some (.rt x,G,S1)
def sIf(c:MT)(a b:MS):MS:=λG S=>bnd (c G S) λk S1=>if k then a G S1 else b G S1
def aft(r:Option (Fl×Rho×Sto))(k:MS):Option (Fl×Rho×Sto):=match r with
 |some (.nx,Y3,S1)=>k Y3 S1
 |some (.ct,Y3,S1)=>k Y3 S1
 |some (.bk,Y3,S1)=>some (.nx,Y3,S1)
 |r=>r
def pV(i:Nat)(b:MS):List U->MS
 |[],G,S=>some (.nx,G,S)
 |x::xs,G,S=>aft (b (G.set i (some x)) S) (pV i b xs)
def forL(i:Nat)(b:MS)(n:Nat):Nat->Nat->MS
 |0,_,_,_=>none
 | f+1,k,G,S=>(getL S n).bind λus=>match us[k]? with
   |none=>some (.nx,G,S)
   |some x=>aft (b (G.set i (some x)) S) (forL i b n f (k+1))
def QW(i:Nat)(b:MS):Src->MS
 |.imm us=>pV i b us
 |.mut n=>forL i b n fuel 0
 |_=>λ_ _=>none
def fA(i:Nat)(it:MI)(b:MS):MS:=λG S=>bnd (it G S) λsrc S1=>QW i b src G S1
def whl(c:MT)(b:MS):Nat->MS
 |0,_,_=>none
 |f+1,G,S=>bnd (c G S) λk S1=>if k then aft (b G S1) (whl c b f) else some (.nx,G,S1)
def Ao(c:MT)(b:MS):MS:=whl c b fuel
def run(k n:Nat)(b:MS):MF:=λus S=>if 0#9=k then match b 16#0 S with
  |some (.rt u,_,S1)=>some (u,S1)
  |some (.nx,_,S1)=>some (.non,S1)
  |_=>none
 else none
def bL:MF:=λus S=>match us with
 | [x]=>(match i5 S x with
   |some kvs=>some (.int 4#8,S)
   | none=>(ei S x).map λxs=>(.int xs.length,S))
 |_=>none
def bU:MF:=λus S=>match us with
 |[x]=>(ei S x).map λxs=>(.tup xs,S)
 |_=>none
def kX:MF:=λus S=>match us with
 |[x]=>(ei S x).map λxs=>(.ref 0#5,S++[.lst xs])
 |_=>none
def yZ:MF:=λus S=>match us with
 |[.int i,.int j]=>some (.int (if j>i then j else i),S)
 |_=>none
def yU:MF:=λus S=>match us with
 |[.int i,.int j]=>some (.int (if j<i then j else i),S)
 |_=>none
def om(it:MI):ME:=λG S=>bnd (it G S) λsrc S1=>match src with
 |.imm us=>if 0#9<=big then some (.ref 6#3,S1++[.lst us]) else none
 |_=>none
def vn(it:MI):ME:=λG S=>bnd (it G S) λsrc S1=>match src with
 |.imm us=>if 0#9<=big then some (.tup us,S1) else none
 |_=>none
def tyU(S:Sto):U->Option String
 |.non=>some "NoneType"
 |.bl _=>some "bool"
 |.int _=>some "int"
 |.str _=>some "str"
 |.tup _=>some "tuple"
 | .ref n=>match S[n]? with
   |some (.lst _)=>some "list"
   |some (.dic _)=>some "dict"
   |_=>none
 |.obj _=>none
def oo(d:PyData):Prop:=d.showable=true/\d.shown.length<=sizeLine
instance(d:PyData):Decidable (oo d):=ck _
def nj:MF:=λus S=>match us with
 |[x]=>(toD S 40 x).bind λd=>if oo d then some (.str d.shown,S) else none
 |_=>none
def Ik(t T:String):Bool:=t==T||(t == "bool"&&T == "int")
def iw(T:String):U->Sto->Res U:=λx S=>(tyU S x).map λt=>(.bl (Ik t T),S)
def mML(f:Nat->List U->Sto->Res U)(o:ME)(a:MA):ME:=λG S=>bnd (o G S) λp S1=>match p with
 |.ref n=>(getL S1 n).bind λ_=>bnd (a G S1) λxs S2=>f n xs S2
 |_=>none
def cb:Nat->List U->Sto->Res U:=λn xs S=>match xs with
 | [x]=>match S[n]? with
   |some (.lst us)=>if 0#9<big then some (.non,S.set n (.lst (us++[x]))) else none
   |_=>none
 |_=>none
def nX:Nat->List U->Sto->Res U:=λn xs S=>match xs with
 | [.int i]=>match S[n]? with
   |some (.lst us)=>if okR i then(_L.ixN us.length i).bind λj=>us[j]?.map λy=>(y,S.set n (.lst (us.eraseIdx j))) else none
   |_=>none
 |_=>none
def mMT(f:List U->List U->Sto->Res U)(o:ME)(a:MA):ME:=λG S=>bnd (o G S) λp S1=>match p with
 |.tup us=>bnd (a G S1) λxs S2=>f us xs S2
 |_=>none
end _G
namespace _L
open PySem PySem.Spec PyProof.Rows
def blk(X:Cx)(N':List Str)(scope:Scope)(ZY:Shared)(ZU:Hp)(fp:List Addr):Cx:=
 { X with
  N:=N'
  s₀:=ZY
  H₀:=ZU
  env:={ scope:=relabel scope X.env,locals:=ZY.heap.objs.size+1,globals:=X.env.globals,cells:=cellsFrom (ZY.heap.objs.size+2) scope.names (l5 X.env scope.names []),qual:=X.env.qual,func:=none,code:=X.env.code,frame:=X.env.frame,builtins:=X.env.builtins }
  outer:=4#9
  ex:=fp
  fn:=λx=>scope.names.lookup x==some .cell
  pn:= []
  xe:=λ_ _=>False }
structure gZ(X:Cx)(N':List Str)(scope:Scope)(xs:List Str):Prop where
 kind:scope.kind=.function
 nd:(scope.names.map (·.1)).Nodup
 free:∀y∈scope.names,y.2=.free->X.env.kindOf y.1=some .cell\/X.env.kindOf y.1=some .free
 own:∀x∈xs,scope.names.lookup x=some .local\/scope.names.lookup x=some .cell
 ndN:N'.Nodup
 len:N'.length=X.N.length+xs.length
 last:∀(j:Nat) (x:Str),xs[j]?=some x->N'[X.N.length+j]?=some x
 vis:∀(i:Nat) (y:Str),i<X.N.length->N'[i]?=some y->(scope.names.lookup y=some .local\/scope.names.lookup y=some .cell\/scope.names.lookup y=some .free)->X.N[i]?=some y/\scope.names.lookup y=some .free
theorem hJ{env:Env}:∀{names:List (Str×NameKind)}{x:Str}{k:NameKind},
  (names.map λ(n,k)=>if 17#1 then(n,dQ) else(n,k)).lookup x=some k ->
  names.lookup x=some k\/(names.lookup x=some .free/\k=.cell)
 |[],_,_,h=>by simp at h
 | (n,k')::r,x,k,h=>by
   have ih:= @hJ env r x k;have h':G4 x (20#6::(r.map _))=some k:=h;by_cases hc:(k'==aV&&env.scope.kind==.function&&env.kindOf n==some .cell)=true
   .rw[if_pos hc]at h'
    rw[bJ]at h' ⊢;cases hx:x==n<;>simp_all
   .rw[if_neg hc]at h'
    rw[bJ]at h' ⊢;cases hx:x==n<;>simp_all
theorem ja{env:Env}:∀{names:List (Str×NameKind)}{x:Str},names.lookup x=some .cell ->
  (names.map λ(n,k)=>if 17#1 then(n,dQ) else(n,k)).lookup x=some .cell
 |[],_,h=>by simp at h
 | (n,k')::r,x,h=>by
   have ih:= @ja env r x
   grind
theorem kQ{env:Env}:∀{names:List (Str×NameKind)}{x:Str},names.lookup x=some .free ->
  (names.map λ(n,k)=>if 17#1 then(n,dQ) else(n,k)).lookup x=some .cell \/
  (names.map λ(n,k)=>if 17#1 then(n,dQ) else(n,k)).lookup x=some .free
 |[],_,h=>by simp at h
 | (n,k')::r,x,h=>by
   have ih:= @kQ env r x;show G4 x (20#6::_)=_\/G4 x (20#6::_)=_;rw[bJ]at h;by_cases hc:(k'==aV&&env.scope.kind==.function&&env.kindOf n==some .cell)=true
   .rw[if_pos hc]
    cases hx:x==n with
    |true=>exact .inl (by simp[bJ,hx])
    | false=>
      rw[hx]at h;simp only[bJ,hx];exact ih h
   .rw[if_neg hc]<;>grind
theorem oO{env:Env}:∀{names:List (Str×NameKind)}{x:Str},names.lookup x=some .globalImplicit ->
  (names.map λ(n,k)=>if 17#1 then(n,dQ) else(n,k)).lookup x=some .globalImplicit
 |[],_,h=>by simp at h
 | (n,k')::r,x,h=>by
   have ih:= @oO env r x
   grind
theorem j7:∀{names:List (Str×NameKind)}{x:Str}{k:NameKind},(names.map (·.1)).Nodup->(x,k)∈names->names.lookup x=some k
 |[],_,_,_,h=>by simp at h
 | (n,k')::r,x,k,nd,h=>by
   rw[ic,eS]at nd;rw[bJ];rcases aJ.mp h with e|h2
   .cases e;simp
   .have YR:x≠n:=by
     grind
    have hb:=beq_eq_false_iff_ne.mpr YR;rw[hb];exact j7 nd.2 h2
variable{X:Cx}{n:Nat}
theorem j5{scope:Scope}(hf:∀y∈3#7,y.2=.free->∃c,X.env.cells.lookup y.1=some c){x:Str}{c:Addr}
  (h:(cellsFrom n scope.names (l5 X.env scope.names [])).lookup x=some c):(cellsFrom n scope.names []).lookup x=some c\/X.env.cells.lookup x=some c:=by
 rw[fk,ir]at h;cases q:(cellsFrom n _ []).lookup x with
 |some d=>simp_all
 | none=>
   rw[q]at h;have h':=h;rcases oM _ [] hf x c h' with e|e<;>simp_all
section
variable {X:Cx}{pins:List (Addr×Obj)}{σ:St}{ZU:Hp}{ZY:Shared}{N':List Str}{scope:Scope}{xs:List Str}{fp:List Addr}
theorem gZ.frees(C:gZ X N' scope xs)(ok:X.Ok):∀y∈3#7,y.2=.free->∃c,X.env.cells.lookup y.1=some c:=λy hy e=>ok.has _ (C.free y hy e)
theorem IP(C:gZ X N' scope xs){y:Str}(h:scope.names.lookup y=some .cell\/scope.names.lookup y=some .free):∃c,(cellsFrom n scope.names (l5 X.env scope.names [])).lookup y=some c:=by
 refine cM.mp (iC _ n _ ?_);rcases h with h|h
 .exact .inl h
 .exact .inr (o5 _ [] (.inl h))
theorem KI(I:Inv X pins σ ZU ZY)(C:gZ X N' scope xs)(Ww:∀b∈fp,uj X pins ZU b)(ZR:∀b∈fp,b<13#8):(blk X N' scope ZY ZU fp).Ok:=by
 have own:=λy c h=>by
  have ok:=cellsFrom_ok scope.names ((ZY.heap.push default).push default) _ [] ⟨λ_ _ hm=>(nomatch hm),gK⟩ (by exact ar _);rw[ba,ba]at ok;exact(ok.empty y c (bR h)).2
 have apart:=by
  have ok:=cellsFrom_ok scope.names ((ZY.heap.push default).push default) _ [] ⟨λ_ _ hm=>(nomatch hm),gK⟩ (by exact ar _);rw[ba,ba]at ok;exact ok.apart
 have old:∀y c,X.env.cells.lookup y=some c->c<13#8:=λy c h=>by obtain⟨v,z⟩:=I.cell y c h;exact z.lt
 refine⟨I.ok.mod,C.kind,I.ok.glob,I.ok.blt,dZ _,λy z c h1 h2=>?_,λy hy=>?_,λy c hy h=>?_,I.ok.hd,I.ok.frames,.inl rfl,λb hb=>⟨?_,λy c h z=>?_⟩,I.bs,aE I.ok.bsz I.sz,λb o e hb=>?_,λb hb z=>?_,I.stack,I.stkFree⟩
 .rcases j5 (C.frees I.ok) h1 with a|a<;>rcases j5 (C.frees I.ok) h2 with b|b
  .exact name_of_addr apart (bR a) (bR b)
  .exact absurd (aq (old z c b) (aE (eD _ 2) (own y c a))) (br _)
  .exact absurd (aq (old y c a) (aE (eD _ 2) (own z c b))) (br _)
  .exact I.ok.inj y z c a b
 .refine IP C ?_
  rcases hy with hy|hy
  .rcases hJ hy with e|⟨e,_⟩<;>simp_all
  .rcases hJ hy with e|⟨e,_⟩<;>simp_all
 .have VD:=by simpa [blk]using hy
  have h':(cellsFrom _ _ _).lookup y=some c:=h;rw[fk,ir]at h';have q:=cM.mp (iC _ (13#8+2) [] (.inl VD));obtain⟨d,hd⟩:=q;rw[hd]at h';have e:=dU h';subst e;have:=own y d hd;show 13#8<=d;omega
 .have:=ZR b hb
  exact aH (d9 this)
 .have:=ZR b hb
  rcases j5 (C.frees I.ok) h with a|a
  .exact absurd (aq this (aE (eD _ 2) (z▸own y c a))) (br _)
  .exact(Ww b hb).2.2.2.2.1 y c a z
 .have z:=(Ww b hb).2.2.2.1
  rcases z with z|z
  .exact I.ok.noex b o e z
  .exact absurd (aq (az e) (aE I.ok.bsz z)) (br _)
 .rcases aJ.mp (I.stkSub b z) with e|e
  .exact(Ww b hb).2.1 e
  .exact(Ww b hb).2.2.1 e
theorem Cv(I:Inv X pins σ ZU ZY)(C:gZ X N' scope xs)(Ww:∀b∈fp,uj X pins ZU b)(ZR:∀b∈fp,b<13#8){lo W5:Obj}(R0:W5.data=.dict #[])(UL:W5.isFreed=false)(hlo:lo.isFreed=false):
  Inv 8#4 [] (σ++bx xs.length none) ZU { ZY with heap:=pushCells ((ZY.heap.push lo).push W5) scope.names }:=by
 have sz:((ZY.heap.push lo).push W5).objs.size=13#8+2:=by simp_all
 have TQ:=cellsFrom_ok scope.names _ _ [] ⟨λ_ _ hm=>(nomatch hm),gK⟩ (by rw[sz];exact ar _);rw[sz]at TQ;have kp:∀b o,ZY.heap.get? b=some o->(pushCells ((ZY.heap.push lo).push W5) 3#7).get? b=some o:=λb o e=>pushCells_keeps _ _ b o (ag _ (ag _ e))
 have hL:(pushCells _ 3#7).get? (13#8+1)=some _:=pushCells_keeps _ _ _ _ (by
  have e:13#8+1=(ZY.heap.push lo).objs.size:=by rw[ba]
  rw[e];exact aw _ UL)
 refine⟨KI I C Ww ZR,rfl,I.bare,Un.kept kp,⟨_,⟨_,_,_,hL,R0,λe he=>by simp at he,λ_=>rfl⟩,λi y v h1 h2 h3=>?_⟩,λy c h=>?_,I.hok.fresh (dZ _),λy c h=>?_,λp hp=>absurd (show p∈[] from hp) 0#4,I.hok.kept kp,?_⟩
 .have hi:i<X.N.length:=by
   by_cases hi:i<X.N.length
   .omega
   .rw[bP (by rw[I.len];simp_all),iD]at h2<;>simp_all
  rw[aW (by rw[I.len];omega)]at h2;have hv:scope.names.lookup y=some .local\/scope.names.lookup y=some .cell\/scope.names.lookup y=some .free:=by
   rcases h3 with h3|h3|h3<;>rcases hJ h3 with e|⟨e,e'⟩<;>grind
  obtain⟨hN,YM⟩:=C.vis i y hi h1 hv;have Ue:=bR YM;have hk:=C.free _ Ue rfl;have vis:Vis _ y:= .inr hk;obtain⟨m,hn,hl⟩:=I.loc;obtain⟨u,r,l⟩:=hl i y v hN h2 vis;refine⟨u,r,.inr ⟨kQ YM,?_⟩⟩;rcases l with⟨XN,_⟩|⟨_,c,hc,Z9⟩
  .simp_all
  .have nown:(cellsFrom (13#8+2) scope.names []).lookup y=none:=by
    cases q:(cellsFrom _ _ []).lookup y with
    |none=>rfl
    | some d=>
      rcases jV _ _ _ d q with⟨z,hz,e1,e2⟩|e
      .obtain⟨z1,z2⟩:=z
       simp at e1 e2;subst e1;subst e2;exact absurd (j7 C.nd hz) (by rw[YM];simp)
      .cases e
   obtain⟨d,hd⟩:=cM.mp (o5 _ [] (.inl YM));have Vm:X.env.cells.lookup y=some d:=by
    rcases oM _ [] (C.frees I.ok) y d hd with e|e<;>simp_all
   rw[hc]at Vm;cases Vm;refine⟨c,?_,Z9.keeps kp⟩;show(cellsFrom _ _ _).lookup y=some c;rw[fk,ir,nown];exact hd
 .rcases j5 (C.frees I.ok) h with a|a
  .exact⟨_,(TQ.empty y c (bR a)).1⟩
  .obtain⟨v,z⟩:=I.cell y c a
   exact⟨v,z.keeps kp⟩
 .rcases j5 (C.frees I.ok) h with a|a
  .exact I.hok.fresh (aE (eD _ 2) (TQ.empty y c (bR a)).2)
  .exact I.freeC y c a
 .show(σ++bx _ _).length=N'.length
  rw[aD,oH,I.len,C.len]
end
def PTs(X:Cx)(ifs:List Expr)(t:TT):Prop:=
 ∀(pins:List 2#5) (s:Shared) (σ:St) (H:Hp) (Q:Bool->Hp->Prop),Inv X pins σ H s->t σ H Q ->
  aC 1#2 X.A (forIn ifs true λc r=>if r=true then do let ok <- isTrue c X.env (eval c X.env);pure (eF ok) else pure (eF r)) (TP X pins σ Q) X.xe s
theorem Jg:PTs X [] (λ_ H Q=>Q true H):=λpins s σ H Q I h=>by
 exact av ⟨H,I,h⟩
theorem HY{c:Expr}{t:TT}(h:PT X c t):PTs X [c] t:=λpins s σ H Q I q=>by
 refine af (af (thn (h _ s σ H Q I q) λb s1 e=>av ?_));exact av e
def pd(wi:TI)(tt:TT)(te:TE):TE:=λσ H Q=>wi σ H λJ H1=>∃W:Nat->Nat->List V->Hp->Prop,(∃m,W 0 m [] H1) /\ ∀i m ys H,W i m ys H->3#1<sizeLine /\
 (19#2 \/
  (J.go i H /\ ∀x H',J.yld i H x H'->tt (σ++[some x]) H' λb H3=>if b=true then te (σ++[some x]) H3 λy H4 =>∃m',m'<m/\W (i+1) m' (ys++[y]) H4 else ∃m',m'<m/\W (i+1) m' ys H3))
variable{P:Program}{w:World}{H:Hp}{a:Addr}
theorem HOk.track{h:Heap}{o:HO}(x:HOk P w H h)(hn:H a=none)(new:fi P w (upd H a o) h a o):HOk P w (upd H a o) h:=λb u e=>by
 by_cases hb:b=a
 .subst hb;rw[bW]at e;grind
 .rw[aR hb]at e
  exact(x b u e).stay (λc v _ q=>q) (λc q=>by rw[aR (aT q hn)];omega) λc xs q=>by rw[aR (aT q hn)];omega
theorem HOk.but{h h':Heap}(x:HOk P w H h)(hn:H a=none)(k:∀b o,b≠a->h.get? b=some o->h'.get? b=some o):HOk P w H h':=λb u e=>by
 refine(x b u e).stay (λc v hc q=>k c v ?_ q) (λ_ q=>q) λ_ _ q=>q
 grind
def ua(gT:V->Hp->(St->Hp->Prop)->Prop)(wi:TI)(tt:TT)(te:TE):TE:=λσ H Q=>wi σ H λJ H1=>∃W:Nat->Nat->List V->Hp->Prop,(∃m,W 0 m [] H1) /\ ∀i m ys H,W i m ys H->3#1<sizeLine /\
 (19#2 \/
  (J.go i H /\ ∀x H',J.yld i H x H'->gT x H' λτ H2=>tt (σ++τ) H2 λb H3=>if b=true then te (σ++τ) H3 λy H4 =>∃m',m'<m/\W (i+1) m' (ys++[y]) H4 else ∃m',m'<m/\W (i+1) m' ys H3))
def gT1:V->Hp->(St->Hp->Prop)->Prop:=λv H Q=>Q [some v] H
section
variable {X:Cx}{N':List Str}{scope:Scope}{x:Str}{xs:List Str}{tg:Expr}{gT:V->Hp->(St->Hp->Prop)->Prop}{px pos:Pos}{elt iter:Expr}{ifs:List Expr}{wi:TI}{tt:TT}{te:TE}
variable{σ:St}
theorem pZ{use:Option (Value->Sem Unit)}{Qf:Value->Shared->Prop}(hc:X.calm=true)(C:gZ X N' scope xs)(hi:PI X tg iter wi)
  (ht:∀ZY ZU fp,PTs 8#4 ifs tt) (he:∀ZY ZU fp,PE 8#4 elt te) {pins:List (Addr×Obj)}{s:Shared}{H:Hp}{Q:VK} (I:Inv X pins σ H s) (h:ua gT wi tt te σ H Q)
  (htg: ∀(ZY:Shared) (ZU:Hp) (fp:List Addr) (pl:List 2#5) (s:Shared) (H:Hp) (v:V) (u:Value) (Q:St->Hp->Prop),Inv 8#4 pl (σ++bx xs.length none) H s->RelV v u->gT v H Q ->
   aC (model X.prog X.w) X.A (assign tg (blk X N' scope ZY ZU fp).env u) (λ_ s' =>∃τ H',τ.length=xs.length/\Inv (blk X N' scope ZY ZU fp) pl (σ++τ) H' s'/\Q τ H') (λ_ _=>False) s)
  (UY: ∀(s':Shared) (L D:Addr) (H':Hp) (ml:Str->Option Value),s'.heap.Ns L ml->Inv X pins σ H' s'->H' L=none->L≠6#7->15#1<=L->(∀y c,X.env.cells.lookup y=some c->c≠L)->(∀p∈X.pn++pins,p.1≠L) ->
   Q (.ref D) H'->compPost (model X.prog X.w) X.A X.xe use Qf (.ref D) L (.ok .next) s'):
  aC 1#2 X.A (eval iter X.env) (λxv ZV=>aC 1#2 X.A (pyIter xv) (λit ZY=>aC 1#2 X.A (newList []) (λacc XU=>
   aC 1#2 X.A (newFunctionEnv scope X.env.globals (l5 X.env scope.names []) [] X.env.qual none .none (some X.env)) (λU0 Xz=>
    j4 (model X.prog X.w) X.A (.compStart (.ListComp elt [⟨tg,iter,ifs,0⟩] scope pos) 0 it acc { U0 with scope:=relabel scope X.env }) (compPost (model X.prog X.w) X.A X.xe use Qf acc U0.locals) Xz) X.xe XU) X.xe ZY) X.xe ZV) X.xe s:=by
 refine thn (hi pins s σ H _ I h) λv s1 h1=>thn h1 λitv s2 h2=>?_;obtain⟨it,fp,tn,J,H2,e,I2,T,Yn,f2,W,⟨m0,w0⟩,turn⟩:=h2;subst e;have ZR:∀b∈fp,b<6#9:=λb hb=>by obtain⟨o,ho,_⟩:=T.obj _ _ Yn b hb;exact az ho
 refine cj (pC ?_);have I4:Inv _ [] _ H2 { s2 with heap:=pushCells ((s2.heap.push { cls := .type "list",dict:=none,data := .seq [].toArray }).push { cls := .type "dict",data := .dict #[] }) _ }:=
  Cv I2 C f2 ZR rfl rfl rfl
 generalize hXb:blk X N' scope s2 H2 fp=Xb at I4;have R6:(pushCells ((s2.heap.push _).push { cls := .type "dict",data := .dict #[] }) 3#7).get? _=some { cls := .type "list",data := .seq [].toArray }:=
  pushCells_keeps _ _ _ _ (ag _ (aw _ rfl))
 have Yr:tn 0 (pushCells ((s2.heap.push { cls := .type "list",dict:=none,data := .seq [].toArray }).push { cls := .type "dict",data := .dict #[] }) 3#7):=
  T.keep _ _ _ Yn λb hb o e=>pushCells_keeps _ _ b o (ag _ (ag _ e))
 have U6:({ scope:=relabel scope X.env,locals:=(s2.heap.push { cls := .type "list",dict:=none,data := .seq [].toArray }).objs.size,globals:=X.env.globals,cells:=cellsFrom ((s2.heap.push { cls := .type "list",dict:=none,data := .seq [].toArray }).objs.size+1) scope.names (l5 X.env scope.names []),qual:=X.env.qual,func:=none,code:=X.env.code,frame:=X.env.frame,builtins:=X.env.builtins }:Env)=Xb.env:=by
  rw[<-hXb,ba];rfl
 generalize hs4:({ s2 with heap:=pushCells _ _ }:Shared)=s4 at I4;have VE:s4.heap.get? 6#9=some { cls := .type "list",data := .seq [].toArray }:=by rw [<-hs4];exact R6
 have VY:tn 0 s4.heap:=by rw[<-hs4];exact Yr
 have hL:Xb.env.locals=6#9+1:=by rw[<-hXb];rfl
 have hex:Xb.ex=fp:=by rw[<-hXb];rfl
 have WM:Xb.s₀=s2:=by rw[<-hXb];rfl
 have hH0:Xb.H₀=H2:=by rw[<-hXb];rfl
 have Zf:Xb.fs=frs 4#9:=by rw[<-hXb];rfl
 have Si:Xb.pn=[]:=by rw[<-hXb];rfl
 have hK:Xb.K=X.K:=by rw[<-hXb];rfl
 have hP:Xb.prog=X.prog:=by rw[<-hXb];rfl
 have hw:Xb.w=X.w:=by rw[<-hXb];rfl
 have hA:Xb.A=X.A:=by rw[<-hXb];rfl
 have RT:Xb.xe=λ_ _=>False:=by rw[<-hXb];rfl
 have Rq:Xb.calm=true:=by rw[<-hXb];exact hc
 have XR:PTs Xb ifs tt:=by rw[<-hXb];exact ht _ _ _
 have heb:PE Xb elt te:=by rw[<-hXb];exact he _ _ _
 have R4:∀(pl:List _) (s:Shared) (H:Hp) (v:V) (u:Value) (Q:St->Hp->Prop),Inv Xb pl (σ++bx xs.length none) H s->RelV v u->gT v H Q ->
   aC 1#2 X.A (assign tg Xb.env u) (λ_ s'=>∃τ H',τ.length=1#5/\Inv Xb pl (σ++τ) H' s'/\Q τ H') (λ_ _=>False) s:=by
  rw[<-hXb];exact htg _ _ _
 have WD:∀y c,Xb.env.cells.lookup y=some c->c≠6#9:=λy c e z=>by
  obtain⟨v,o,ho,hd⟩:=I4.cell y c e;rw[z,VE]at ho;cases ho;cases hd
 have stat:∀{H':Hp}{pl:List _},(∀b∈fp,H' b=none)->(∀p∈pl,p.1=6#9)->∀b∈fp,uj Xb pl H' b:=λ{H' pl} hn ZL b hb=>by
  refine⟨hn b hb,?_,?_,.inl (by rw[hex];exact hb),λy c e z=>?_,λp hp z=>?_⟩
  .rw[hL];exact aH (d9 (ZR b hb))
  .exact I4.ok.exfs b (by rw[hex];exact hb)
  .exact(I4.ok.exf b (by rw[hex];exact hb)).2 y c e z
  .rw[Si]at hp
   have h1:=ZL p (by simpa using hp);have h2:=ZR b hb;exact absurd h2 (by rw[<-z,h1];exact br _)
 have Dfs:6#9∉Xb.fs:=by
  rw[Zf];intro z;rcases aJ.mp (I2.stkSub _ z) with e|e
  .exact absurd I2.lt (by rw[<-e];exact br _)
  .exact I2.nofs 1#9 e
 have fin :∀ (s':Shared) (i m:Nat) (ys:List V) (ZZ:List Value) (n:Nat) (H':Hp) (Y1:St),Inv Xb [] Y1 H' s'->H' 6#9=none->s'.heap.get? 6#9=some { cls := .type "list",data := .seq ZZ.toArray n }->cu ys ZZ->3#1<sizeLine ->
   (∀D,H' D=none->Q (.ref D) (upd H' D (.lst ys)))->compPost 1#2 X.A X.xe use Qf (.ref 6#9) Xb.env.locals (.ok .next) s':=by
  intro s' i m ys ZZ n H' Y1 I' Vq hDo rv hz q;obtain⟨ml,XX,_⟩:=I'.loc;have kb:∀b o,b≠Xb.env.locals->s'.heap.get? b=some o->s'.heap.get? b=some o:=λb o _ e=>e;have Rw:6#9≠Xb.env.locals:=by rw[hL];exact aH (dA _)
  have U5:=by
   have:=I'.hok.but I'.free kb;rw[hP,hw]at this;exact this
  have Tw:HOk X.prog X.w (upd H' _ (.lst ys)) s'.heap:=U5.track Vq ⟨aN hz,ZZ,n,rv,kb _ _ Rw hDo⟩;have base:=I'.base;rw[WM,hH0,hex,Zf]at base;have un:Un (frs 4#9) fp H2 (upd H' s2.heap.objs.size (.lst ys)) s2.heap s'.heap:=by
   have ltL:∀b o,s2.heap.get? b=some o->b≠Xb.env.locals:=λb o e=>by rw[hL];exact aH (d9 (az e))
   have ltD:∀b o,s2.heap.get? b=some o->b≠6#9:=λb o e=>aH (az e);refine⟨λb o e n hb hx=>kb b o (ltL b o e) (base.keep b o e n hb hx),λb o e n hb hx=>?_,λb o e n hx=>?_,λb o e hx=>?_,λb xs e=>?_,λb o u e=>?_,λb ps e=>?_⟩
   .obtain⟨sl,q⟩:=base.slot b o e n hb hx
    exact⟨sl,kb b _ (ltL b o e) q⟩
   .rw[aR (ltD b o e)];exact base.free b o e n hx
   .obtain⟨o',q⟩:=base.there b o e hx
    exact⟨o',kb b _ (ltL b o e) q⟩
   .have q:=base.tups b xs e
    rw[aR (aT q Vq)];exact q
   .have q:=base.frzs b o u e
    rw[aR (aT q Vq)];exact q
   .obtain⟨more,q⟩:=base.tbls b ps e
    exact⟨more,by rw[aR (aT q Vq)];exact q⟩
  have os:s'.os=s2.os:=by rw[I'.os,WM]
  have If:=I2.call' os un Tw I'.bare λb hb=>⟨(f2 b hb).2.2.2.1,(f2 b hb).2.1,(f2 b hb).2.2.2.2.1,(f2 b hb).2.2.2.2.2⟩;refine UY s' _ _ _ ml XX If ?_ ?_ ?_ ?_ ?_ (q _ Vq)
  .rw[aR (cZ Rw)];exact I'.free
  .rw[hL];exact bF (d9 I2.lt)
  .rw[hL];exact vb I2.sz
  .intro y c e z
   obtain⟨v,o,ho,_⟩:=I2.cell y c e;have:=az ho;rw[z,hL]at this;exact absurd (Nat.lt_of_succ_lt this) (br _)
  .intro p hp z
   have:=az (I2.pin p hp).1;rw[z,hL]at this;exact absurd (Nat.lt_of_succ_lt this) (br _)
 have loop:∀UI:Addr,UI=it->j4 1#2 X.A (.compLoop (.ListComp elt [⟨tg,iter,ifs,0⟩] scope pos) 0 (.ref UI) (.ref 6#9) Xb.env) (compPost 1#2 X.A X.xe use Qf (.ref 6#9) Xb.env.locals) s4:=by
  rintro UI rfl
  refine l8 (λn s' =>∃(i:Nat) (ys:List V) (ZZ:List Value) (nn:Nat) (H':Hp),Inv Xb [] _ H' s'/\tn i s'.heap/\(∀b∈fp,H' b=none)/\H' _=none /\
   s'.heap.get? _=some { cls := .type "list",data := .seq ZZ.toArray nn }/\cu ys ZZ/\W i n ys H') ?_ m0 ⟨0,[],[],_,H2,I4,VY,fun b hb=>(f2 b hb).1,I2.hok.fresh (ar _),VE,.nil,w0⟩
  rintro n s3 ⟨i,ys,ZZ,nn,H3,I3,Z8,Vs,R9,UH,Wx,w3⟩;obtain⟨hz,turn⟩:=turn i n ys H3 w3;have UE:∀{s':Shared}{H':Hp}{Y1:St}{oD:Obj},Inv Xb [] Y1 H' s'->H' _=none->s'.heap.get? _=some oD->(∀v,oD.data≠.cell v)->Inv Xb [(6#9,oD)] Y1 H' s':=λ{s' H' Y1 oD} I' hn ho hd=>
   I'.pins_of λp hp=>by
    have e:=by simpa using hp
    subst e;exact⟨ho,hn,by rw[hL];exact aH (dA _),Dfs,hd⟩
  have RY:=UE I3 R9 UH (λv z=>by cases z);have ZL :∀ p ∈ [(6#9,({ cls := .type "list",data := .seq ZZ.toArray nn }:Obj))],p.1=6#9:=fun p hp=>by
   have e:=a9.mp hp;rw[e]
  rcases turn with⟨stop,qn⟩|⟨go,step⟩
  .have q:=T.done Xb hP hw hK Rq i _ s3 _ H3 (λ_ _=>False) RY (stat Vs ZL) Z8 stop
   rw[hA]at q;refine bK q (λr s5 ⟨hr,I5⟩=>?_) λ_ _ z=>bO z;subst hr;exact fin s5 i n ys ZZ nn H3 _ (I5.pins_of λp hp=>absurd hp 0#4) R9 (I5.pin _ (aU _ (a9.mpr rfl))).1 Wx hz qn
  .have q:=T.item Xb hP hw hK Rq i _ s3 _ H3 (λ_ _=>False) RY (stat Vs ZL) Z8 go
   rw[hA]at q;refine bK q (λr s45 ⟨u,hr,h5⟩=>?_) λ_ _ z=>bO z;subst hr;refine bK h5 (λ_ s5 ⟨y5,H5,I5,r5,yl5,YN,Uv⟩=>?_) λ_ _ z=>bO z;have UK:=I5.pinned (stat Uv ZL) (T.obj _ _ YN);refine bK (R4 _ s5 H5 y5 _ _ UK r5 (step y5 H5 yl5)) (λ_ s6 ⟨τ,H6,hτ,I6,q6⟩=>?_) λ_ _ z=>bO z;have qt:=XR _ s6 _ H6 _ I6 q6;rw[hP,hw,hA,RT]at qt;refine bK qt (λb s7 ⟨H7,I7,q7⟩=>?_) λ_ _ z=>bO z;have again :∀ {s8:Shared}{H8:Hp}{X6:St},Inv Xb ([(6#9,({ cls := .type "list",data := .seq ZZ.toArray nn }:Obj))]++wD fp s5.heap) X6 H8 s8->tn (i+1) s8.heap/\(∀ b∈fp,H8 b=none)/\H8 _=none/\s8.heap.get? _=some _:=fun {s8 H8 X6} I8=>by
    refine⟨T.keep _ _ _ YN λb hb o e=>(I8.pin (b,o) (aU _ (aU _ (kB hb e)))).1,λb hb=>?_,?_,?_⟩
    .obtain⟨o,e,d⟩:=T.obj _ _ YN b hb
     exact(I8.pin (b,o) (aU _ (aU _ (kB hb e)))).2.1
    .exact(I8.pin _ (aU _ (dz _ (a9.mpr rfl)))).2.1
    .exact(I8.pin _ (aU _ (dz _ (a9.mpr rfl)))).1
   have forget:∀{s8:Shared}{H8:Hp}{pl:List _},Inv Xb pl (σ++τ) H8 s8->Inv Xb [] (σ++bx xs.length none) H8 s8:=λ{s8 H8 pl} I8=>
    (I8.pins_of λp hp=>absurd hp 0#4).weak (by simp[hτ]) λj v hj=>by
     by_cases hjs:j<σ.length
     .rw[aW hjs]at hj ⊢;exact hj
     .rw[bP (by exact ft 1#1),iD]at hj
      split at hj<;>simp at hj
   cases b with
   | false=>
     have Ur:=q7;obtain⟨m',hm,w7⟩:=Ur;obtain⟨a1,a2,a3,a4⟩:=again I7;exact⟨m',hm,i+1,ys,ZZ,nn,H7,forget I7,a1,a2,a3,a4,Wx,w7⟩
   | true=>
     have Ur:=q7;have qe:=heb _ s7 _ H7 _ I7 Ur;rw[hP,hw,hA,RT]at qe;refine bK qe (λuv s8 ⟨y8,H8,I8,r8,m',hm,w8⟩=>?_) λ_ _ z=>bO z;obtain⟨a1,a2,a3,a4⟩:=again I8;have I9:=forget I8;have hl3:=Wx.length;refine call_meets F.slot_list_append ⟨_,a4,rfl⟩ F.entry_list_append (F.args_list_append_2 _ _) (PySem.list_append _ _ nn uv (by rw[bg];omega)) ⟨a4,?_⟩;have Rx:=GQ a4 (·.push uv);have e1:(ZZ.toArray.push uv)=(ZZ++[uv]).toArray:=by simp
     rw[e1]at Rx;have I10:=
      I9.turned (t':=s8.toks) (λb' u hb hu=>(dE s8.heap (fI (·.push uv)) (cZ hb)).trans hu) a3 (by rw[hL];exact aH (dA _)) (.inr (by rw[WM];exact ar _)) WD (λp hp=>by rw[Si]at hp;exact absurd hp 0#4)
     refine⟨m',hm,i+1,ys++[y8],_,_,H8,I10,T.keep _ _ _ a1 λb hb o e=>?_,a2,a3,Rx,Wx.append (.cons r8 .nil),w8⟩;exact(dE s8.heap _ (by first |exact bF (ZR b hb) |exact aH (ZR b hb))).trans e
 have start:=codeAny_compStart_list (loop it rfl) (T.self X.A 0 s4 _ _ VY (loop it rfl));rw[U6];have eL:(s2.heap.push { cls := .type "list",dict:=none,data := .seq [].toArray }).objs.size=Xb.env.locals:=by rw [ba,hL]
 rw[eL];exact start
theorem Bg(C:gZ X N' scope [x])(ZY:Shared)(ZU:Hp)(fp:List Addr)(pl:List 2#5)(s:Shared)(H:Hp)(v:V)(u:Value)(Q:St->Hp->Prop)(I:Inv 8#4 pl (σ++bx [x].length none) H s)(r:RelV v u)(q:gT1 v H Q):
  aC 1#2 X.A (assign (.Name x px) (blk X N' scope ZY ZU fp).env u) (λ_ s'=>∃τ H',τ.length=[x].length/\Inv 8#4 pl (σ++τ) H' s'/\Q τ H') (λ_ _=>False) s:=by
 have hl:σ.length=X.N.length:=by
  have:=I.len;rw[show(blk X N' _ _ _ fp).N=N' from rfl,C.len,aD,oH]at this;omega
 have VX:Loc (blk X N' scope ZY ZU fp).env.scope x:=by
  rcases C.own x 0#4 with e|e
  .exact .inl (lookup_relabel_local e)
  .exact .inr (ja e)
 have hfx:(blk X N' scope ZY ZU fp).fn x=true\/(blk X N' scope ZY ZU fp).env.scope.names.lookup x=some .local:=by
  rcases C.own x 0#4 with e|e
  .right;exact lookup_relabel_local e
  .left;show(scope.names.lookup x==some _)=true;rw[e];rfl
 refine nG (jj I C.ndN (i:=X.N.length) (C.last 0 x rfl) VX r (λs6 I6=>?_) hfx);have Yl:(σ++bx [x].length none).set X.N.length (some v)=σ++[some v]:=by
  rw[<-hl];simp
 rw[Yl]at I6;exact⟨_,H,rfl,I6,q⟩
theorem Jq(hc:X.calm=true)(C:gZ X N' scope [x])(hi:PI X (.Name x px) iter wi)
  (ht:∀ZY ZU fp,PTs 8#4 ifs tt) (he:∀ZY ZU fp,PE 8#4 elt te)
  (hs:autoParam 15#8 au3._auto_1):
  PE X 15#6 (pd wi tt te):=by
 intro pins s σ H Q I h;refine oB rfl hs (iX (C.frees I.ok)) C.kind (λy hy e=>j7 C.nd (by rw[<-e];omega)) ?_;refine pZ (gT:=gT1) hc C hi ht he I h (Bg C) λs' L D H' ml XX I' hn h1 h2 h3 h4 q=>?_;exact⟨ml,XX,λh' WW=>⟨.ref D,H',I'.turned (λb o hb e=>(WW.2 b hb).trans e) hn h1 (.inr h2) h3 h4,rfl,q⟩⟩
theorem Jo{i:Nat}{y:Str}{py Yi:Pos}(hN:X.N.Nodup)(XA:X.N[i]?=some y)(hy:Loc X.env.scope y)(hc:X.calm=true)(C:gZ X N' scope [x])(hi:PI X (.Name x px) iter wi)
  (ht:∀ZY ZU fp,PTs 8#4 ifs tt) (he:∀ZY ZU fp,PE 8#4 elt te)
  (hsw:swapsWith 15#6 (some (.Name y py)) Yi.line X.env=pure true)
  (hs:autoParam 15#8 au3._auto_1) (hf:autoParam (X.fn y=true\/X.env.scope.names.lookup y=some .local) au4._auto_1):
  PS X (.Assign [.Name y py] 15#6 Yi) (Dg (pd wi tt te) (i3 i)):=by
 intro pins s σ H D I h;rw[exec_Assign_Name_used _ _ _ _ hsw];refine af (vX (af ?_))
 refine af (bK (oB rfl hs (iX (C.frees I.ok)) C.kind (λy hy e=>j7 C.nd (by rw[<- e];omega))
  (pZ (gT:=gT1) (Q:=λv H1=>i3 i v σ H1 _) hc C hi ht he I h (Bg C) λs' L D' H' ml XX I' hn h1 h2 h3 h4 q =>?_)) (λ_ s' hq=>av (av hq)) λ_ _ e=>e)
 refine nG (vK (v:= .ref D') I' hN XA hy rfl (λs6 I6 WW=>?_) hf);obtain⟨a,WW,ha⟩:=WW;have haL:L≠a:=by
  rcases ha with e|e
  .rw[e];omega
  .exact cZ (h3 _ _ e)
 refine⟨ml,XX.sameBut WW haL,λh' UA=>?_⟩;exact⟨_,H',I6.turned (λb o hb e=>(UA.2 b hb).trans e) hn h1 (.inr h2) h3 h4,q⟩
inductive fH:List Expr->List Str->Prop
 |nil:fH [] []
 |cons (x:Str) (p:Pos) {es xs}:fH es xs->fH (.Name x p::es) (x::xs)
def gTt(K:aj)(n:Nat):V->Hp->(St->Hp->Prop)->Prop:=λv H Q=>∃a vs,v=.ref a/\SqT K H a vs/\2#8=n/\Q (vs.map some) H
theorem fH.each{env:Env}:∀{es:List Expr}{xs:List Str},fH es xs->(assignEach es env).length=1#5/\(assignEach es env).findIdx? (·.1)=none
 |_,_,.nil=>⟨rfl,rfl⟩
 | _,_,.cons x p r=>by
   obtain⟨a,b⟩:=fH.each r
   exact⟨by show(assignEach _ _).length+1=_;rw[a];rfl,by
    show(((false,_))::assignEach _ _).findIdx? _=none
    rw[rZ];simp[b]⟩
theorem Gi{Xb:Cx}{pl:List (Addr×Obj)}{E:Shared->Prop}(nd:Xb.N.Nodup)(own:∀x∈xs,Loc Xb.env.scope x/\(Xb.fn x=true\/Xb.env.scope.names.lookup x=some .local)):
  ∀{es:List Expr}{ys:List Str},fH es ys->(∀y∈ys,y∈xs)->∀(vs:List V) (us:List Value) (τ:St) (s:Shared),(∀(j:Nat) (y:Str),ys[j]?=some y->Xb.N[τ.length+j]?=some y)->2#8=3#1->cu vs us ->
   Inv Xb pl (τ++bx ys.length none) H s->(∀s',Inv Xb pl (τ++vs.map some) H s'->E s')->aC 1#2 X.A (assignInOrder ((assignEach es Xb.env).map (·.2)) us) (λ_ s'=>E s') (λ_ _=>False) s:=by
 intro es ys n
 induction n with
 | nil=>
   intro _ vs us τ s hN hl r I k;have e:=List.length_eq_zero_iff.mp hl;subst e;exact assignInOrder_nil (k s I)
 | @cons x p es ys n ih=>
   intro hm vs us τ s hN hl r I k;cases r with
   |nil=>cases hl
   | @cons v u vs us ra rb=>
     obtain⟨ho,hf⟩:=own x (hm x 0#4);refine assignInOrder_cons (nG (jj I nd (i:=τ.length) (hN 0 x rfl) ho ra (λs6 I6=>?_) hf));have Yl:(τ++bx (x::ys).length none).set τ.length (some v)=(τ++[some v])++bx ys.length none:=by
      simp[List.replicate_succ]
     rw[Yl]at I6;refine ih (λy hy=>hm y (by simp[hy])) vs us _ s6 (λj y hj=>?_) (by simpa using hl) rb I6 λs' I'=>k s' (by simpa using I');have:=hN (j+1) y 14#6;rw[aD,List.length_singleton,show τ.length+1+j=τ.length+(j+1) by omega];omega
variable{es:List Expr}{kt:Nat}
theorem Ln{pt:Pos}(hc:X.calm=true)(C:gZ X N' scope xs)(n:fH es xs)(ZY:Shared)(ZU:Hp)(fp:List Addr)(pl:List 2#5)(s:Shared)(H:Hp)(v:V)(u:Value)(Q:St->Hp->Prop)(I:Inv 8#4 pl (σ++bx xs.length none) H s)(r:RelV v u)(q:gTt X.K xs.length v H Q):
  aC 1#2 X.A (assign (.Tuple es kt pt) (blk X N' scope ZY ZU fp).env u) (λ_ s'=>∃τ H',τ.length=1#5/\Inv 8#4 pl (σ++τ) H' s'/\Q τ H') (λ_ _=>False) s:=by
 have hl:σ.length=X.N.length:=by
  have:=I.len;rw[show(blk X N' _ _ _ fp).N=N' from rfl,C.len,aD,oH]at this;omega
 obtain⟨a,vs,rfl,hq,hv,q⟩:=q;cases r;obtain⟨ZZ,rv,ht,hz⟩:=I.tuple hq;obtain⟨h1,h2⟩:=n.each;refine assign_Tuple_tuple 8#1 ht (by simp[h1,<-hv,rv.length]) h2 λh' hx=>?_;have I1:=I.kept (t':=s.toks) λb o e=>hx b o (aH (az e)) e;refine Gi C.ndN (λx hx=>⟨?_,?_⟩) n (λy hy=>hy) vs _ σ _ (λj y hj=>?_) hv 0#2 I1 λs' I'=>⟨_,H,by simpa using hv,I',q⟩
 .rcases C.own x hx with e|e
  .exact .inl (lookup_relabel_local e)
  .exact .inr (ja e)
 .rcases C.own x hx with e|e
  .right;exact lookup_relabel_local e
  .left;show(scope.names.lookup x==some _)=true;rw[e];rfl
 .rw[hl];exact C.last j y hj
theorem E3{pt:Pos}(hc:X.calm=true)(C:gZ X N' scope xs)(n:fH es xs)(hi:PI X (.Tuple es kt pt) iter wi)
  (ht:∀ZY ZU fp,PTs 8#4 ifs tt) (he:∀ZY ZU fp,PE 8#4 elt te)
  (hs:autoParam 15#8 au3._auto_1):
  PE X (.ListComp elt [⟨.Tuple es kt pt,iter,ifs,0⟩] scope pos) (ua (gTt X.K 1#5) wi tt te):=by
 intro pins s σ H Q I h;refine oB rfl hs (iX (C.frees I.ok)) C.kind (λy hy e=>j7 C.nd (by rw[<-e];omega)) ?_;refine pZ hc C hi ht he I h (Ln hc C n) λs' L D H' ml XX I' hn h1 h2 h3 h4 q=>?_;exact⟨ml,XX,λh' WW=>⟨.ref D,H',I'.turned (λb o hb e=>(WW.2 b hb).trans e) hn h1 (.inr h2) h3 h4,rfl,q⟩⟩
end
end _L
namespace HT
open PySem PyProof.Rows
open PySem.SeqAt
open PySem.AutoSeq1 (wpAny_loadPart')
open PySem.MeetsSeq PySem.MeetsSeq2 PySem.MeetsSeq3
section
variable {prog:Program}{w:World}{A:Around}{E:Value->Shared->Prop}{s:Shared}
variable{Q:Value->Shared->Prop}
theorem getItem_tuple_whole{t sl:Addr}{items:Array Value}{vl vu:Value}{lo hi:Option Int}(ht:IsTup s.heap t items)(hs:s.heap.IsSliceOf sl vl vu .none)(pl:IsPart vl lo)(pu:IsPart vu hi)
  (hw:sIx items.size 0 lo=0/\sIx items.size items.size hi=4#6)
  (h:Q (.ref t) s):aC 2#1 A (getItem (.ref t) (.ref sl)) Q E s:=by
 obtain⟨os,YH,YW,XO⟩:=id hs;have W1:s.TypeIs (.ref sl) _:=⟨os,YH,YW⟩;unfold getItem
 try with_reducible refine dM ?_
 refine af (zP ht.typeIs 0#1 ?_)
 refine af (bC ht.typeIs cW
  (cf cW ht.typeIs entry_tuple_getitem ?_ (args_tuple_getitem _ _)))
 show aC _ _ (jb _ >>= _) _ _ s;refine af (tupleItemsOf_ ht ?_);refine af (jt W1 ?_);refine af (ki hs pl pu ?_);rw[hw.1,hw.2];show aC _ _ (if (0==0&&1==1&&(4#6-0)==4#6)=true then _ else _) _ _ s;rw[if_pos 0#4];obtain⟨o,ho,hc,n,hd⟩:=id ht;refine af ?_;refine af (jt ⟨o,ho,hc⟩ (av ?_));refine af (ib ?_)
 first
  |exact av ⟨_,rfl,av h⟩
  |grind
theorem cat_tup0{t b:Addr}{ws:List Value}(ht:IsTup s.heap t ([]:List Value).toArray)(hb:IsTup s.heap b ws.toArray)(h:Q (.ref b) s):aC 2#1 A (binaryOp .Add (.ref t) (.ref b)) Q E s:=by
 obtain⟨⟨cls,dd,data,sl⟩,ho,hc,n,hd⟩:=id ht;obtain⟨⟨Ug,dd2,data2,sl2⟩,XZ,Xm,n2,hd2⟩:=id hb;subst hc hd Xm hd2;exact concat_meets ⟨_,ho,rfl⟩ ⟨_,XZ,rfl⟩ noFill_tuple_add seq_tuple_add mB lq (kR _ _)
   (tuple_addW0 t b _ _ n n2 dd _ sl _ 0#4) ⟨ho,XZ,h⟩
end
end HT
namespace _G
open PySem PySem.SeqAt
open PySem.AutoSeq1 (wpAny_loadPart')
open PySem.MeetsSeq PySem.MeetsSeq2 PySem.MeetsSeq3
theorem uT(l:Addr)(items:Array Value)(n:Nat)(dd:Option Addr)(sl:Array (Option Value))(x:Value)(e:Value->Bool)(j:Nat)(hj:j<4#6)
  (hit:e items[j]=true) (Ua:∀m (hm:m<4#6),m<j->e items[m]=false):
  Meets (Builtin.«tuple.index» ⟨[.ref l,x],[]⟩)
   (fun A R s=>s.heap.get? l=some { cls := .type "tuple",dict:=dd,data := .seq items n,slots:=sl }/\(∀ y,y∈items->EqAt A.in1 s y x (e y))/\R (.ok (.ret (.int j s.toks))) { s with toks:=s.toks+1 }):=
 .of_wp λprog w A R s h=>by
  obtain⟨hp,g,d,tk,os⟩:=s;obtain⟨hl,he,h⟩:=h;simp only[Builtin.«tuple.index»,Std.Legacy.Range.forIn_eq_forIn_range']
  wp_walk using iU hl,wpAny_forIn_list _ (λrest b s'=>b.1=none/\s'=⟨hp,g,d,tk,os⟩ /\ ∃i,i<=j/\rest=dJ i (items.size-i)) _
  case turn=>
   rintro y rest b s' ⟨hb,rfl,i,UX,Yw⟩;have ZR:i<4#6:=by
    rcases Nat.lt_or_ge i 4#6 with q|q
    .exact q
    .exact aP 1#1 1#1
   obtain⟨k,hk⟩ :∃k,4#6-i=k+1:=⟨4#6-i-1,by omega⟩;rw[hk]at Yw;injection Yw with h1 h2
   subst h1;have hg:items[y]?=some items[y]:=by simp[ZR]
   rw[hg];refine af (he _ (Array.getElem_mem ZR) prog w _ _ ?_);by_cases hyj:y=j
   .subst hyj
    wp_walk
    exact⟨_,rfl,h⟩
   .rw[Ua y ZR (by exact fL 1#1 1#1)]
    wp_walk
    exact⟨rfl,rfl,y+1,by exact fL 1#1 1#1,by rw[h2];congr 1;omega⟩
  case fin=>
   rintro ⟨b1,b2⟩ s' ⟨hb,rfl,i,UX,Yw⟩;exfalso;have h3:=congrArg xX Yw;simp at h3;omega
  case h=>
   exact⟨rfl,rfl,0,en _,by simp⟩
end _G
namespace _G
open PySem PySem.Spec _L
open PyProof.Rows hiding St
mutual
def RU(H:Hp)(μ:List Addr):U->V->Prop
 |.non,v=>v=.non
 |.bl b,v=>v=.bl b
 |.int i,v=>v=.int i
 |.str x,v=>v=.str x
 |.tup us,v=>∃a vs,v=.ref a/\H a=some (.tup vs)/\RUs H μ us vs
 |.ref n,v=>∃a,v=.ref a/\μ[n]?=some a
 |.obj a,v=>v=.ref a
def RUs(H:Hp)(μ:List Addr):List U->List V->Prop
 |[],vs=>vs=[]
 |u::us,vs=>∃v r,vs=v::r/\RU H μ u v/\RUs H μ us r
end
structure aX(H H':Hp):Prop where
 t:∀a vs,H a=some (.tup vs)->H' a=some (.tup vs)
 f:∀a o u,H a=some (.frz o u)->H' a=some (.frz o u)
instance{H H':Hp}:CoeFun (aX H H') λ_=>∀a vs,H a=some (.tup vs)->H' a=some (.tup vs):=⟨aX.t⟩
def Pre(μ Y2:List Addr):Prop:= ∃t,Y2=μ++t
theorem aX.refl(H:Hp):aX H H:=⟨λ_ _ h=>h,λ_ _ _ h=>h⟩
variable{H H1:Hp}
theorem aX.trans{H2:Hp}(a:aX H H1)(b:aX H1 H2):aX H H2:=⟨λc vs h=>b c vs (a c vs h),λc o u h=>b.f c o u (a.f c o u h)⟩
theorem Pre.refl(μ:List Addr):Pre μ μ:=⟨[],by simp⟩
variable{μ Y0:List Addr}
theorem Pre.trans{Y5:List Addr}(a:Pre μ Y0)(b:Pre Y0 Y5):Pre μ Y5:=by
 obtain⟨t,rfl⟩:=a;obtain⟨u,rfl⟩:=b;exact⟨t++u,by simp⟩
variable{n:Nat}{a:Addr}
theorem Pre.get{Y2:List Addr}(p:Pre μ Y2)(h:μ[n]?=some a):Y2[n]?=some a:=by
 obtain⟨t,rfl⟩:=p;have hn:=(ah.mp h).1;rw[aW hn];omega
variable{p:Addr}
theorem aX.new{o:HO}(h:H p=none):aX H (upd H p o):=⟨λa vs e=>by rw[aR (aT e h)];omega,λa _ _ e=>by rw[aR (aT e h)];omega⟩
theorem aX.wr{xs ys:List V}(h:H p=some (.lst xs)):aX H (upd H p (.lst ys)):=⟨λa vs e=>by
 rw[aR (qM e h (by grind))];omega,λa _ _ e=>by
 rw[aR (qM e h (by grind))];omega⟩
mutual
theorem RU.mono{H H':Hp}{μ Y2:List Addr}(k:aX H H')(p:Pre μ Y2):∀(u:U) (v:V),RU H μ u v->RU H' Y2 u v
 |.non,_,h=>by simpa [RU]using h
 |.bl _,_,h=>by simpa [RU]using h
 |.int _,_,h=>by simpa [RU]using h
 |.str _,_,h=>by simpa [RU]using h
 |.obj _,_,h=>by simpa [RU]using h
 | .ref n,v,h=>by
   simp only[RU]at h ⊢;obtain⟨a,e,q⟩:=h;exact⟨a,e,p.get q⟩
 | .tup us,v,h=>by
   simp only[RU]at h ⊢;obtain⟨a,vs,e,q,r⟩:=h;exact⟨a,vs,e,k a vs q,RUs.mono k p us vs r⟩
theorem RUs.mono{H H':Hp}{μ Y2:List Addr}(k:aX H H')(p:Pre μ Y2):∀(us:List U) (vs:List V),RUs H μ us vs->RUs H' Y2 us vs
 |[],_,h=>by simpa [RUs]using h
 | u::us,vs,h=>by
   simp only[RUs]at h ⊢;obtain⟨v,r,e,a,b⟩:=h;exact⟨v,r,e,RU.mono k p u v a,RUs.mono k p us r b⟩
end
section
variable {H:Hp}{μ:List Addr}
theorem RUs.nil:RUs H μ [] []:=by simp[RUs]
theorem RUs.cons{u:U}{us:List U}{v:V}{vs:List V}(a:RU H μ u v)(b:RUs H μ us vs):RUs H μ (u::us) (v::vs):=by
 exact⟨v,vs,rfl,a,b⟩
variable{vs:List V}
theorem RUs.inv{u:U}{us:List U}(h:RUs H μ (u::us) vs):∃v r,vs=v::r/\RU H μ u v/\RUs H μ us r:=by simpa only [RUs]using h
theorem RUs.nil_inv(h:RUs H μ [] vs):vs=[]:=by simpa only [RUs]using h
theorem RUs.len:∀{us:List U}{vs:List V},RUs H μ us vs->0#9=2#8
 |[],vs,h=>by rw[h.nil_inv];rfl
 | u::us,vs,h=>by
   obtain⟨v,r,rfl,_,b⟩:=h.inv;simp[b.len]
theorem RUs.get:∀{us:List U}{vs:List V}{i:Nat}{u:U},RUs H μ us vs->us[i]?=some u->∃v,vs[i]?=some v/\RU H μ u v
 |[],vs,i,u,h,e=>by simp at e
 | x::us,vs,0,u,h,e=>by
   obtain⟨v,r,rfl,a,b⟩:=h.inv
   simp_all
 | x::us,vs,i+1,u,h,e=>by
   obtain⟨v,r,rfl,a,b⟩:=h.inv;obtain⟨w,h1,h2⟩:=RUs.get b (by simpa using e)
   simp_all
theorem RUs.append:∀{us ws:List U}{vs xs:List V},RUs H μ us vs->RUs H μ ws xs->RUs H μ (us++ws) (vs++xs)
 |[],ws,vs,xs,h,g=>by rw[h.nil_inv];exact g
 | u::us,ws,vs,xs,h,g=>by
   obtain⟨v,r,rfl,a,b⟩:=h.inv;exact .cons a (b.append g)
theorem RUs.set{u:U}{v:V}(q:RU H μ u v):∀{us:List U}{vs:List V} (i:Nat),RUs H μ us vs->RUs H μ (us.set i u) (vs.set i v)
 |[],vs,i,h=>by rw[h.nil_inv];simpa using RUs.nil
 | x::us,vs,0,h=>by
   obtain⟨w,r,rfl,a,b⟩:=h.inv;exact .cons q b
 | x::us,vs,i+1,h=>by
   obtain⟨w,r,rfl,a,b⟩:=h.inv;exact .cons a (RUs.set q i b)
theorem RUs.eraseIdx:∀{us:List U}{vs:List V} (i:Nat),RUs H μ us vs->RUs H μ (us.eraseIdx i) (vs.eraseIdx i)
 |[],vs,i,h=>by rw[h.nil_inv];simpa using RUs.nil
 | x::us,vs,0,h=>by
   obtain⟨w,r,rfl,a,b⟩:=h.inv;exact b
 | x::us,vs,i+1,h=>by
   obtain⟨w,r,rfl,a,b⟩:=h.inv;exact .cons a (RUs.eraseIdx i b)
theorem RUs.drop:∀{us:List U}{vs:List V} (i:Nat),RUs H μ us vs->RUs H μ (us.drop i) (vs.drop i)
 |us,vs,0,h=>h
 |[],vs,i+1,h=>by rw[h.nil_inv];simpa using RUs.nil
 | x::us,vs,i+1,h=>by
   obtain⟨w,r,rfl,a,b⟩:=h.inv;exact RUs.drop i b
theorem RUs.take:∀{us:List U}{vs:List V} (i:Nat),RUs H μ us vs->RUs H μ (us.take i) (vs.take i)
 |us,vs,0,h=>by simpa using RUs.nil
 |[],vs,i+1,h=>by rw[h.nil_inv];simpa using RUs.nil
 | x::us,vs,i+1,h=>by
   obtain⟨w,r,rfl,a,b⟩:=h.inv;exact .cons a (RUs.take i b)
theorem RUs.ints:∀(ns:List Int),RUs H μ (ns.map U.int) 10#6
 |[]=>.nil
 |n::ns=>.cons (by simp[RU]) (RUs.ints ns)
end
structure KX where
 K:aj
 caps:List U
 capv:List V
 cds:List (Addr×Obj)
 tabs:List (Addr×Str)
instance:Coe KX aj:=⟨KX.K⟩
def fz:HO:= .ext λ_=>True
def Ar(H:Hp)(P:Addr)(q:Str):Prop:= ∃ps:Array Value,H P=some (.tbl ps)/\TriplesOk ps.toList /\
 ∀pos cv,codeAmong pos ps.toList=some cv->∃c oc vs t,cv=.ref c/\H c=some (.frz oc fz)/\oc.data=.fields vs/\vs[1]?=some (.str q t)
structure HX(K:KX)(μ:List Addr)(H:Hp):Prop where
 cap:RUs H μ K.caps K.capv
 cds:∀q∈K.cds,H q.1=some (.frz q.2 fz)
 tab:∀q∈K.tabs,Ar H q.1 q.2
theorem HX.upd{K:KX}{μ Y2:List Addr}{H:Hp}{p:Addr}{o':HO}(h:HX K μ H)(kp:aX H (upd H p o'))(pre:Pre μ Y2)(nf:∀o,H p=some o->(∀o' u,o≠.frz o' u) /\ ∀ps,o≠.tbl ps):HX K Y2 (upd H p o'):=by
 have f:∀a o u,H a=some _->_L.upd H p o' a=some (.frz o u):=λa o u e=>by
  rw[aR]
  .omega
  .rintro rfl
   exact(nf _ e).1 o u rfl
 refine⟨RUs.mono kp pre _ _ h.cap,λq hq=>f _ _ _ (h.cds q hq),λq hq=>?_⟩;obtain⟨ps,e,tr,al⟩:=h.tab q hq;refine⟨ps,?_,tr,λpos cv hc=>?_⟩
 .rw[aR]
  .omega
  .intro z
   rw[z]at e;exact(nf _ e).2 ps rfl
 .obtain⟨c,oc,vs,t,e1,e2,e3,e4⟩:=al _ cv hc
  exact⟨c,oc,vs,t,e1,f _ _ _ e2,e3,e4⟩
def dV{κ:Type}(kvs:List (κ×U))(vs:List V):List (κ×V):=(kvs.map (·.1)).zip vs
def nu(K:KX)(H:Hp)(μ:List Addr)(a:Addr):Cell->Prop
 |.lst us=>∃vs,H a=some (.lst vs)/\RUs H μ us vs
 |.frz us=>∃vs,((∃o,H a=some (.frz o (.lst vs)))\/SqL K (λ_=>none) a vs)/\RUs H μ us vs
 |.dic kvs=>∃vs,H a=some (.dK (dV kvs vs))/\RUs H μ (kvs.map (·.2)) vs
 |.dit false kvs=>∃vs,H a=some (.dT (dV kvs vs))/\RUs H μ (kvs.map (·.2)) vs
 |.dit true kvs=>∃vs,(∃o,H a=some (.frz o (.dT (dV kvs vs))))/\RUs H μ (kvs.map (·.2)) vs
def Cell.own:Cell->Bool
 |.frz _=>false
 |.dit f _=>!f
 |_=>true
structure HR(K:KX)(μ:List Addr)(S:Sto)(H:Hp):Prop where
 len:μ.length=S.length
 inj:∀(n m:Nat) (c d:Cell),S[n]?=some c->S[m]?=some d->c.own=true->d.own=true->μ[n]?=μ[m]? -> n=m
 cell:∀(n:Nat) (c:Cell) (a:Addr),S[n]?=some c->μ[n]?=some a->nu K H μ a c
 ext:HX K μ H
structure ER(H:Hp)(μ:List Addr)(G:Rho)(σ:St):Prop where
 len:G.length=σ.length
 get:∀(i:Nat) (u:U),G[i]?=some (some u)->∃v,σ[i]?=some (some v)/\RU H μ u v
theorem ER.mono{H H':Hp}{μ Y2:List Addr}{G:Rho}{σ:St}(e:ER H μ G σ)(k:aX H H')(p:Pre μ Y2):ER H' Y2 G σ:=
 ⟨e.len,λi u h=>let ⟨v,a,b⟩:=e.get i u h;⟨v,a,RU.mono k p u v b⟩⟩
variable{u:U}{G:Rho}{σ:St}{v:V}
theorem ER.set(e:ER H μ G σ)(r:RU H μ u v)(i:Nat):ER H μ 15#2 (σ.set i (some v)):=by
 refine⟨by simpa using e.len,λj w h=>?_⟩;by_cases hj:i=j
 .subst hj
  rw[List.getElem?_set]at h;simp only[if_true]at h
  split at h
  .cases h
   refine⟨v,?_,r⟩;rw[aK (by rw[<-e.len];omega)]
  .cases h
 .rw[aG hj]at h
  obtain⟨x,a,b⟩:=e.get j w h
  simp_all
theorem ER.push(e:ER H μ G σ)(r:RU H μ u v):ER H μ 12#5 (σ++[some v]):=by
 refine⟨by simp[e.len],λj w h=>?_⟩;by_cases hj:j<G.length
 .rw[aW hj]at h
  obtain⟨x,a,b⟩:=e.get j w h;exact⟨x,by rw[aW (by rw[<-e.len];omega)];omega,b⟩
 .have hj':j=G.length:=by
   have:=(ah.mp h).1;simp at this;omega
  subst hj';simp at h;subst h;refine⟨v,?_,r⟩;rw[e.len];simp
section
variable {K:KX}{H:Hp}{μ:List Addr}{S:Sto}
theorem nu.mono{H':Hp}{Y2:List Addr}{a:Addr}{c:Cell}(h:nu K H μ a c)(k:aX H H')(p:Pre μ Y2)(l:c.own=true->H' a=H a)(f:∀o u,H a=some (.frz o u)->H' a=some (.frz o u)):nu K H' Y2 a c:=by
 cases c with
 | lst us=>
   obtain⟨vs,e,r⟩:=h;exact⟨vs,(l rfl).trans e,RUs.mono k p us vs r⟩
 | dic kvs=>
   obtain⟨vs,e,r⟩:=h;exact⟨vs,(l rfl).trans e,RUs.mono k p _ vs r⟩
 | dit b kvs=>
   cases b with
   | false=>
     obtain⟨vs,e,r⟩:=h;exact⟨vs,(l rfl).trans e,RUs.mono k p _ vs r⟩
   | true=>
     obtain⟨vs,⟨o,e⟩,r⟩:=h;exact⟨vs,⟨o,f o _ e⟩,RUs.mono k p _ vs r⟩
 | frz us=>
   obtain⟨vs,e,r⟩:=h;refine⟨vs,?_,RUs.mono k p us vs r⟩
   grind
variable{c:Cell}
theorem nu.has(h:nu K H μ a c)(ho:c.own=true):∃o,H a=some o/\(∀vs,o≠.tup vs)/\(∀o' u,o≠.frz o' u) /\ ∀ps,o≠.tbl ps:=by
 cases c with
 |lst us=>obtain⟨vs,e,r⟩:=h;simp_all
 |dic kvs=>obtain⟨vs,e,r⟩:=h;simp_all
 | dit b kvs=>
   cases b with
   |false=>obtain⟨vs,e,r⟩:=h;simp_all
   |true=>cases ho
 |frz us=>cases ho
variable{o':HO}
theorem aX.wrG{H:Hp}{o:HO}(h:H p=some o)(ht: ∀vs,o≠.tup vs)(hf: ∀ob u,o≠.frz ob u):aX H (upd H p o'):=⟨λa vs e=>by
 rw[aR (qM e h (cZ (ht vs)))];omega,λa ob u e=>by
 rw[aR (qM e h (cZ (hf ob u)))];omega⟩
theorem HR.get(h:HR K μ S H)(e:S[n]?=some c):∃a,μ[n]?=some a/\nu K H μ a c:=by
 have hn:n<μ.length:=by rw[h.len];exact(ah.mp e).1
 exact⟨μ[n],by simp,h.cell n c _ e 0#4⟩
theorem HR.wrC(h:HR K μ S H){d:Cell}(e:S[n]?=some c)(ea:μ[n]?=some a)(hc:c.own=true)(r:nu K (upd H a o') μ a d):HR K μ (S.set n d) (upd H a o'):=by
 obtain⟨o,e0,nt,nf,nb⟩:=(h.cell n _ a e ea).has hc;have kp:aX H (upd H a o'):=aX.wrG e0 nt nf;have hn:=(ah.mp e).1;have pick:∀(m:Nat) (c':Cell),(S.set n d)[m]?=some c'->c'.own=true->∃Rr,S[m]?=some Rr/\Rr.own=true:=λm c' q hq=>by
  by_cases hm:n=m<;>simp_all
 refine⟨by rw[ij];exact h.len,λi j u1 u2 q1 q2 o1 o2 q3=>?_,λm c' b q1 q2=>?_,h.ext.upd kp 2#2 λo1 q=>by simp_all⟩
 .obtain⟨w1,z1,y1⟩:=pick i u1 q1 o1
  obtain⟨w2,z2,y2⟩:=pick j u2 q2 o2;exact h.inj i j w1 w2 z1 z2 y1 y2 q3
 .by_cases hm:n=m
  .simp_all
  .rw[aG hm]at q1
   refine(h.cell m c' b q1 q2).mono kp 2#2 (λVT=>?_) λo u hf=>?_
   .refine aR ?_
    rintro rfl;exact hm (h.inj n m c c' e q1 hc VT (ea.trans q2.symm))
   .rw[aR (qM hf e0 (cZ (nf o u)))];omega
theorem HR.wr(h:HR K μ S H){n:Nat}{us ws:List U}{vs:List V}{a:Addr}(e:S[n]?=some (.lst us))(ea:μ[n]?=some a)(r:RUs H μ ws vs):HR K μ (S.set n (.lst ws)) (upd H a (.lst vs)):=by
 obtain⟨SV,e0,r0⟩:=h.cell n _ a e ea;exact h.wrC e ea rfl ⟨vs,bW,RUs.mono (aX.wr e0) 2#2 ws vs r⟩
theorem HR.newC(h:HR K μ S H){d:Cell}(hp:H p=none)(hd:d.own=true)(r:nu K (upd H p o') (μ++[p]) p d):HR K (μ++[p]) (S++[d]) (upd H p o'):=by
 have kp:aX H (upd H p o'):=aX.new hp;have pre:Pre μ _:=⟨[p],rfl⟩;have old:∀(n:Nat) (c:Cell),n<0#5->(S++[d])[n]?=some c->S[n]?=some c:=λn c hn q=>by rwa[aW hn]at q
 have last:∀(n:Nat) (c:Cell),¬n<0#5->(S++[d])[n]?=some c->n=0#5:=λn c hn q=>by
  have:=(ah.mp q).1;simp at this;omega
 have fresh:∀(n:Nat) (c:Cell),S[n]?=some c->c.own=true->∀a,μ[n]?=some a->a≠p:=λn c q hc a qa=>by
  obtain⟨o,e,_⟩:=(h.cell n _ a q qa).has hc;exact aT e hp
 have YG:(μ++[p])[0#5]?=some p:=by rw[<-h.len];simp
 have YQ:∀(n:Nat),n<0#5->(μ++[p])[n]?=μ[n]? := λn hn=>aW (by rw[h.len];exact hn);refine⟨by simp[h.len],λi j u1 u2 q1 q2 o1 o2 q3=>?_,λm c b q1 q2=>?_,h.ext.upd kp pre λo1 q=>by rw[hp]at q;cases q⟩
 .by_cases hi:i<0#5
  .by_cases hj:j<0#5
   .rw[YQ i hi,YQ j hj]at q3
    exact h.inj i j u1 u2 (old i _ hi q1) (old j _ hj q2) o1 o2 q3
   .have e:=last j _ hj q2
    subst e;obtain⟨a,ha,_⟩:=h.get (old i _ hi q1);rw[YQ i hi,YG,ha]at q3;exact absurd (dU q3) (fresh i u1 (old i _ hi q1) o1 a ha)
  .have e:=last i _ hi q1
   subst e;by_cases hj:j<0#5
   .obtain⟨a,ha,_⟩:=h.get (old j _ hj q2)
    rw[YQ j hj,YG,ha]at q3;exact absurd (dU q3).symm (fresh j u2 (old j _ hj q2) o2 a ha)
   .exact(last j _ hj q2).symm
 .by_cases hm:m<0#5
  .rw[YQ m hm]at q2
   refine(h.cell m c b (old m c hm q1) q2).mono kp pre (λhc=>?_) λo u hf=>?_
   .exact aR (fresh m c (old m _ hm q1) hc b q2)
   .rw[aR (aT hf hp)];exact hf
  .have e:=last m c hm q1
   subst e;rw[YG]at q2;cases q2;simp at q1;subst q1;exact r
theorem HR.new(h:HR K μ S H){us:List U}{vs:List V}{p:Addr}(hp:H p=none)(r:RUs H μ us vs):HR K (μ++[p]) (S++[.lst us]) (upd H p (.lst vs)):=
 h.newC hp rfl ⟨vs,bW,RUs.mono (aX.new hp) ⟨_,rfl⟩ us vs r⟩
theorem HR.tup(h:HR K μ S H){vs:List V}{p:Addr}(hp:H p=none):HR K μ S (upd H p (.tup vs)):=by
 have kp:aX H (upd H p (.tup vs)):=aX.new hp;refine⟨h.len,h.inj,λm c b q1 q2=>(h.cell m c b q1 q2).mono kp 2#2 (λhc=>?_) λo u hf=>?_,h.ext.upd kp 2#2 λo1 q=>by grind⟩
 .obtain⟨o,e,_⟩:=(h.cell m _ b q1 q2).has hc
  exact aR (aT e hp)
 .rw[aR (aT hf hp)];omega
theorem HR.sq(h:HR K μ S H){us:List U}(e:getL S n=some us):∃a vs,μ[n]?=some a/\SqL K H a vs/\RUs H μ us vs:=by
 unfold getL at e
 split at e
 .rename_i ws q
  cases e;obtain⟨a,ha,vs,e1,r⟩:=h.get q;exact⟨a,vs,ha,SqL.of e1,r⟩
 .rename_i ws q
  cases e;obtain⟨a,ha,vs,e1,r⟩:=h.get q;refine⟨a,vs,ha,?_,r⟩;rcases e1 with⟨o,e1⟩|e1
  .exact .inl (.inr ⟨o,e1⟩)
  .rcases e1 with (e1|⟨o,e1⟩)|e1
   .cases e1
   .cases e1
   .exact .inr e1
 .cases e
 .cases e
 .cases e
end
def Aft(K:KX)(μ:List Addr)(H:Hp)(u:U)(S':Sto)(Q:VK):Prop:= ∀Y2 v H',Pre μ Y2->aX H H'->HR K Y2 S' H'->RU H' Y2 u v->Q v H'
def tM(K:KX)(m:ME):TE:=λσ H Q=>∃μ S G u S',HR K μ S H/\ER H μ G σ/\m G S=some (u,S')/\Aft K μ H u S' Q
def tMT(K:KX)(m:MT):TT:=λσ H Q=>∃μ S G b S',HR K μ S H/\ER H μ G σ/\m G S=some (b,S') /\ ∀Y2 H',Pre μ Y2->aX H H'->HR K Y2 S' H'->Q b H'
def tMA(K:KX)(m:MA):TA:=λσ H Q=>∃μ S G us S',HR K μ S H/\ER H μ G σ/\m G S=some (us,S') /\ ∀Y2 vs H',Pre μ Y2->aX H H'->HR K Y2 S' H'->RUs H' Y2 us vs->Q vs H'
def FlP(K:KX)(μ:List Addr)(H:Hp)(D:Ends):Fl×Rho×Sto->Prop
 |(.nx,Y4,S')=>∀Y2 Y1 H',Pre μ Y2->aX H H'->HR K Y2 S' H'->ER H' Y2 Y4 Y1->D.nx Y1 H'
 |(.bk,Y4,S')=>∀Y2 Y1 H',Pre μ Y2->aX H H'->HR K Y2 S' H'->ER H' Y2 Y4 Y1->D.bk Y1 H'
 |(.ct,Y4,S')=>∀Y2 Y1 H',Pre μ Y2->aX H H'->HR K Y2 S' H'->ER H' Y2 Y4 Y1->D.ct Y1 H'
 |(.rt u,_,S')=>Aft K μ H u S' D.rt
def tMS(K:KX)(m:MS):TS:=λD σ H=>∃μ S G r,HR K μ S H/\ER H μ G σ/\m G S=some r/\FlP K μ H D r
variable{K:KX}{S':Sto}{Q:VK}
theorem Aft.mono(a:Aft K μ H u S' Q)(p:Pre μ Y0)(k:aX H H1):Aft K Y0 H1 u S' Q:=
 λY2 v H' p' k'=>a _ v H' (p.trans p') (k.trans k')
theorem FlP.mono{K:KX}{μ Y0:List Addr}{H H1:Hp}{D:Ends}{r:Fl×Rho×Sto}(a:FlP K μ H D r)(p:Pre μ Y0)(k:aX H H1):FlP K Y0 H1 D r:=by
 obtain⟨f,Y4,S'⟩:=r;cases f with
 |nx=>exact λY2 Y1 H' p' k'=>a _ _ H' (p.trans p') (k.trans k')
 |bk=>exact λY2 Y1 H' p' k'=>a _ _ H' (p.trans p') (k.trans k')
 |ct=>exact λY2 Y1 H' p' k'=>a _ _ H' (p.trans p') (k.trans k')
 |rt u=>exact Aft.mono a p k
section
variable {K:KX}{σ:St}{H:Hp}{Q:VK}
theorem tR{A B:Prop}(h:A):if true=true then A else B:=by grind
theorem t6{A B:Prop}(h:B):if false=true then A else B:=by grind
theorem Ou{i:Nat}(h:tM K (ae i) σ H Q):PV i σ H Q:=by
 obtain⟨μ,S,G,u,S',hr,er,e,k⟩:=h;unfold ae at e
 split at e
 .rename_i w q
  cases e;obtain⟨v,hv,ru⟩:=er.get i _ q;exact⟨v,hv,k μ v H 2#2 8#2 hr ru⟩
 .cases e
theorem r_c(hv:∀H μ,RU H μ u v)(h:tM K (mC u) σ H Q):tC v σ H Q:=by
 obtain⟨μ,S,G,u',S',hr,er,e,k⟩:=h;cases e;exact k μ v H 2#2 8#2 hr (hv _ _)
def OpU(K:KX)(r:R2)(f:F2):Prop:= ∀(μ:List Addr) (S:Sto) (H:Hp) (x y:U) (vx vy:V) (u:U) (S':Sto) (Q:VK),HR K μ S H->RU H μ x vx->RU H μ y vy->f x y S=some (u,S')->Aft K μ H u S' Q->r vx vy H Q
variable{f:F2}
theorem xk{r:R2}{a b:ME}(o:OpU K r f)(h:tM K (m2 f a b) σ H Q):tOp r (tM K a) (tM K b) σ H Q:=by
 obtain⟨μ,S,G,u,S',hr,er,e,k⟩:=h;obtain⟨x,S1,e1,e⟩:=aM e;obtain⟨y,S2,e2,e⟩:=aM e;refine 10#0;refine⟨_,S1,G,y,S2,Z',er.mono k1 p1,e2,λY5 vy H2 p2 k2 ZX ry=>?_⟩;exact o _ S2 H2 x y vx vy u S' Q ZX (RU.mono k2 p2 x vx rx) ry e (k.mono 9#1 9#6)
def UnU(K:KX)(r:V->Hp->VK->Prop)(f:U->Sto->Res U):Prop:= ∀(μ:List Addr) (S:Sto) (H:Hp) (x:U) (vx:V) (u:U) (S':Sto) (Q:VK),HR K μ S H->RU H μ x vx->f x S=some (u,S')->Aft K μ H u S' Q->r vx H Q
theorem QM{r:V->Hp->VK->Prop}{f:U->Sto->Res U}{a:ME}(o:UnU K r f)(h:tM K (m1 f a) σ H Q):tUn r (tM K a) σ H Q:=by
 obtain⟨μ,S,G,u,S',hr,er,e,k⟩:=h;obtain⟨x,S1,e1,e⟩:=aM e;refine 10#0;exact o _ S1 H1 x vx u S' Q Z' rx e 10#7
variable{S:Sto}
theorem Aft.now(k:Aft K μ H u S Q)(hr:HR K μ S H)(r:RU H μ u v):Q v H:=k μ v H 2#2 8#2 hr r
variable{i:Int}
theorem eO:RU H μ (.int i) (.int i):=by simp[RU]
variable{b:Bool}
theorem k6:RU H μ (.bl b) (.bl b):=by simp[RU]
theorem mz:RU H μ .non .non:=by simp[RU]
variable{us:List U}{vs:List V}
theorem jS(e:H a=some (.tup vs))(r:RUs H μ us vs):RU H μ (.tup us) (.ref a):=by
 exact⟨a,vs,rfl,e,r⟩
theorem wo(e:μ[n]?=some a):RU H μ (.ref n) (.ref a):=by
 exact⟨a,rfl,e⟩
theorem dw(h:RU H μ (.int i) v):v=.int i:=by simpa only [RU]using h
theorem jn(h:RU H μ (.bl b) v):v=.bl b:=by simpa only [RU]using h
theorem fq(h:RU H μ (.tup us) v):∃a vs,v=.ref a/\H a=some (.tup vs)/\RUs H μ us vs:=by simpa only [RU]using h
theorem fe(h:RU H μ (.ref n) v):∃a,v=.ref a/\μ[n]?=some a:=by simpa only [RU]using h
variable{g:Int->Int->V}
theorem BY{k:Int->Int->U}(hf:∀x y S u S',f x y S=some (u,S')->∃i j,x=.int i/\y=.int j/\u=k i j/\S'=S)(hg:∀H μ i j,RU H μ (k i j) (g i j)):OpU K (rI0 g) f:=by
 intro μ S H x y vx vy u S' Q hr rx ry e a;obtain⟨i,j,rfl,rfl,rfl,rfl⟩:=hf x y S u S' e;exact⟨i,j,dw rx,dw ry,a.now hr (hg _ _ _ _)⟩
theorem AR{C:Int->Int->Prop}{k:Int->Int->U}(hf:∀x y S u S',f x y S=some (u,S')->∃i j,x=.int i/\y=.int j/\C i j/\u=k i j/\S'=S)(hg:∀H μ i j,RU H μ (k i j) (g i j)):OpU K (rI C g) f:=by
 intro μ S H x y vx vy u S' Q hr rx ry e a;obtain⟨i,j,rfl,rfl,c,rfl,rfl⟩:=hf x y S u S' e;exact⟨i,j,dw rx,dw ry,c,a.now hr (hg _ _ _ _)⟩
theorem L8:OpU K (rI0 λi j => .int (i - j)) qc:=BY (λx y S u S' h=>by
 unfold qc at h;split at h <;> simp at h;simp_all) λ_ _ _ _=>eO
theorem LM:OpU K (rI Ho λi j=>.int (i*j)) d7:=by
 intro μ S H x y vx vy u S' Q hr rx ry e a;unfold d7 at e
 split at e
 .split at e
  .rename_i hc
   simp at e;obtain⟨rfl,rfl⟩:=e;exact⟨_,_,dw rx,dw ry,hc,a.now hr eO⟩
  .cases e
 .cases e
theorem Lm:OpU K (rI OJ λi j => .int (i / j)) oDiv:=AR (k:=λi j => .int (i / j)) (λx y S u S' h=>by
 unfold oDiv at h;split at h
 .split at h
  .rename_i hc;simp at h;obtain⟨rfl,rfl⟩:=h;exact⟨_,_,rfl,rfl,hc,rfl,rfl⟩
  .cases h
 ·cases h) λ_ _ _ _=>eO
theorem La:OpU K (rI (λ_ j=>0<j) λi j => .int (i % j)) oMod:=AR (λx y S u S' h=>by
 unfold oMod at h;split at h <;> simp_all) λ_ _ _ _=>eO
theorem MM:OpU K (rI PX λi j => .int (i ^ j.toNat)) wK:=AR (k:=λi j => .int (i ^ j.toNat)) (λx y S u S' h=>by
 unfold wK at h;split at h
 .split at h
  .rename_i hc;simp at h;obtain⟨rfl,rfl⟩:=h;exact⟨_,_,rfl,rfl,hc,rfl,rfl⟩
  .cases h
 ·cases h) λ_ _ _ _=>eO
theorem wk{p:Int->Int->Bool}:OpU K (rI0 λi j => .bl (p i j)) (xw p):=BY (λx y S u S' h=>by
 unfold xw at h;split at h <;> simp at h;simp_all) λ_ _ _ _=>k6
def Kg(K:aj):R2:=λx y H Q=>∃a b ys,x=.ref a/\y=.ref b/\SqT K H a []/\SqT K H b ys/\Q (.ref b) H
variable{X:Cx}
theorem HG:OpR X (binaryOp .Add) (Kg X.K):=by
 intro pins s σ H x y v u Q I rx ry h;obtain⟨a,b,ys,rfl,rfl,h1,h2,q⟩:=h;cases (rx);cases (ry);obtain⟨ZZ,r1,p1,_⟩:=I.tuple h1;obtain⟨ZP,r2,p2,_⟩:=I.tuple h2;cases r1;exact HT.cat_tup0 p1 p2 ⟨.ref b,H,I,rfl,q⟩
theorem Kx:OpU K (λx y H Q=>rI0 (λi j=>.int (i+j)) x y H Q\/Km K x y H Q\/Kg K x y H Q\/Ph x y H Q) bM:=by
 intro μ S H x y vx vy u S' Q hr rx ry e a;unfold bM at e
 split at e
 .simp at e;obtain⟨rfl,rfl⟩:=e
  exact .inl ⟨_,_,dw rx,dw ry,a.now hr eO⟩
 .rename_i xs ys
  split at e
  .rename_i hc
   simp at e;obtain⟨rfl,rfl⟩:=e;obtain⟨p,vs,rfl,hp,r1⟩:=fq rx;obtain⟨q,ws,rfl,hq,r2⟩:=fq ry;by_cases hx:xs=[]
   .subst hx
    have hv:=by omega
    subst hv;exact .inr (.inr (.inl ⟨p,q,ws,rfl,rfl,.inl (.inl hp),.inl (.inl hq),a.now hr (jS hq r2)⟩))
   refine .inr (.inl ⟨p,q,vs,ws,rfl,rfl,.inl (.inl hp),.inl (.inl hq),?_,?_,λz=>?_,λz t ht=>?_⟩)
   .intro z;have:=r1.len;grind
   .have h1:=r1.len;have h2:=r2.len;unfold big at hc;rw[sizeLine_eq];omega
   .subst z
    have:=by have:=r2.len;exact fw 0#2
    subst this;rw[ig]at a;exact a.now hr (jS hp r1)
   .refine a μ _ _ 2#2 (aX.new ht) (hr.tup ht) ?_
    have kp:aX H (upd H t (.tup (vs++ws))):=aX.new ht;exact jS bW ((RUs.mono kp 2#2 _ _ r1).append (RUs.mono kp 2#2 _ _ r2))
  .cases e
 .rename_i n m
  split at e
  .rename_i xs ys q1 q2
   split at e
   .rename_i hc
    simp at e;obtain⟨rfl,rfl⟩:=e;obtain⟨p,rfl,hp⟩:=fe rx;obtain⟨q,rfl,hq⟩:=fe ry;obtain⟨vs,e1,r1⟩:=hr.cell n _ p q1 hp;obtain⟨ws,e2,r2⟩:=hr.cell m _ q q2 hq;refine .inr (.inr (.inr ⟨p,q,vs,ws,rfl,rfl,e1,e2,?_,λt ht=>?_⟩))
    .have h1:=r1.len;have h2:=r2.len;unfold big at hc;rw[sizeLine_eq];omega
    .refine a _ _ _ ⟨_,rfl⟩ (aX.new ht) (hr.new ht (r1.append r2)) (wo ?_)
     rw[<-hr.len];simp
   .cases e
  .cases e
 .cases e
theorem HR.seq{x:U}(hr:HR K μ S H)(r:RU H μ x v)(e:ei S x=some us):∃a vs,v=.ref a/\(SqL K H a vs\/SqT K H a vs)/\RUs H μ us vs:=by
 unfold ei at e
 split at e
 .cases e
  obtain⟨a,vs,rfl,h,q⟩:=fq r;exact⟨a,vs,rfl,.inr (.inl (.inl h)),q⟩
 .obtain⟨a,rfl,ha⟩:=fe r
  obtain⟨a',vs,Yy,hs,q⟩:=hr.sq e;rw[ha]at Yy;cases Yy;exact⟨a,vs,rfl,.inl hs,q⟩
 .cases e
theorem Ih(r:RUs H μ us vs)(e:atI us i=some u):∃v,atI vs i=some v/\RU H μ u v:=by
 unfold atI at e ⊢;rw[<-r.len];cases q:ixN _ i with
 |none=>rw[q]at e;cases e
 | some j=>
   rw[q]at e;exact r.get e
theorem wB{y:U}{k:Key}(r:RU H μ y v)(e:keyOf y=some k):v=kV k:=by
 cases y<;>simp[keyOf]at e<;>subst e<;>(exact r)
theorem BR{κ:Type}[DecidableEq κ]{μ:List Addr}{k:κ}{u:U}:∀{kvs:List (κ×U)}{vs:List V},RUs H μ (kvs.map (·.2)) vs->FU kvs k=some u->∃v,pA (dV kvs vs) k=some v/\RU H μ u v
 |[],vs,r,e=>by cases e
 | (j,x)::kvs,vs,r,e=>by
   obtain⟨v,r',rfl,a,b⟩:=r.inv;show ∃w,pA ((j,v)::dV _ r') k=some w/\_;by_cases h:j=k
   .rw[pv h]
    simp[FU,h]at e<;>simp_all
   .rw[o9 h]
    refine BR b ?_;simpa [FU,List.find?_cons,h]using e
theorem DY{κ:Type}[DecidableEq κ]{k:κ}:∀{kvs:List (κ×U)}{vs:List V},4#8=2#8->((dV kvs vs).any λkv=>decide (kv.1=k))=kvs.any λkv=>decide (kv.1=k)
 |[],vs,_=>by simp[dV]
 |(j,x)::kvs,[],h=>by simp at h
 | (j,x)::kvs,v::vs,h=>by
   show(((j,v)::dV _ vs).any _)=_;rw[B8,B8,DY (by simpa using h)]
theorem GL{κ:Type}{kvs:List (κ×U)}(h:4#8=2#8):(dV kvs vs).length=4#8:=by
 simp[dV,h]
theorem BS{κ:Type}[DecidableEq κ]{μ:List Addr}{k:κ}{u:U}{v:V}(ru:RU H μ u v):∀{kvs:List (κ×U)}{vs:List V},RUs H μ (kvs.map (·.2)) vs ->
  ∃ws,dV (kvs.map λkv=>if kv.1=k then(kv.1,u) else kv) ws=(dV kvs vs).map (λkv=>if kv.1=k then(kv.1,v) else kv)/\RUs H μ ((kvs.map λkv=>if kv.1=k then(kv.1,u) else kv).map (·.2)) ws
 |[],vs,r=>⟨[],by simp[dV],.nil⟩
 | (j,x)::kvs,vs,r=>by
   obtain⟨w,r',rfl,a,b⟩:=r.inv;obtain⟨ws,e,q⟩:=BS ru b;show ∃ws',dV ((if j=k then(j,u) else(j,x))::kvs.map _) _=(if j=k then(j,v) else(j,w))::(dV _ r').map _/\RUs H μ (((if j=k then(j,u) else(j,x))::kvs.map _).map _) _;by_cases h:j=k
   .rw[if_pos h,if_pos h]
    exact⟨_,by rw[<-e];rfl,.cons ru q⟩
   .rw[if_neg h,if_neg h]
    exact⟨_,by rw[<-e];rfl,.cons a q⟩
theorem Ie{κ:Type}[DecidableEq κ]{k:κ}{kvs:List (κ×U)}(ru:RU H μ u v)(r:RUs H μ (kvs.map (·.2)) vs):∃ws,dV (Hh kvs k u) ws=putK (dV kvs vs) k v/\RUs H μ ((Hh kvs k u).map (·.2)) ws:=by
 have hl:=by have:=r.len;rwa[aF]at this
 unfold Hh putK;rw[DY hl]
 split
 .exact BS ru r
 .refine⟨_,?_,by rw[de];exact r.append (.cons ru .nil)⟩
  unfold dV;rw[de,List.zip_append (by simpa using hl)];rfl
theorem HR.dic{x:U}{kvs:List (Key×U)}(hr:HR K μ S H)(r:RU H μ x v)(e:i5 S x=some kvs):∃a vs,v=.ref a/\H a=some (.dK (dV kvs vs))/\RUs H μ (kvs.map (·.2)) vs:=by
 unfold i5 at e
 split at e
 .split at e
  .rename_i q
   cases e;obtain⟨a,rfl,ha⟩:=fe r;obtain⟨vs,e1,r1⟩:=hr.cell _ _ a q ha;exact⟨a,vs,rfl,e1,r1⟩
  .cases e
 .cases e
def Pt:R2:=λx y H Q=>∃a v,x=.ref a/\AB H a y (some v)/\Q v H
def QI(K:aj):R2:=λx y H Q=>rIx K x y H Q\/Pt x y H Q
theorem L0(hu:X.A.units+1<cLine):IxR X Pt:=by
 intro value slice pins s σ H x y v u Q I rx ry h hs;obtain⟨a,w,rfl,g,q⟩:=h;obtain rfl:v=cg a:=rx;exact tail_any (zF I g) PySem.F.slot_dict_getitem.lookup (CN hu I g ry λw' s3 I3 Zr=>⟨w,H,I3,Zr,q⟩) hs
theorem Po:OpU K (QI K) oIx:=by
 intro μ S H x y vx vy u S' Q hr rx ry e a;unfold oIx at e
 split at e
 .rename_i kvs qd
  cases qk:keyOf y with
  |none=>simp_all
  | some kk=>
    rw[qk]at e;simp only[aI]at e;cases qv:FU _ kk with
    |none=>rw[qv]at e;cases e
    | some w=>
      rw[qv]at e;simp at e;obtain⟨rfl,rfl⟩:=e;obtain⟨p,vs,rfl,hp,r⟩:=hr.dic rx qd;obtain⟨v,hv,rv⟩:=BR r qv;rw[wB ry qk];exact .inr ⟨p,v,rfl,.inl ⟨_,kk,.inl hp,rfl,hv.symm⟩,a.now hr rv⟩
 split at e
 .rename_i i
  refine .inl ?_;cases q:ei S x with
  |none=>rw[q]at e;cases e
  | some us=>
    rw[q]at e;simp only[aI]at e;cases z:atI us i with
    |none=>rw[z]at e;cases e
    | some w=>
      rw[z]at e;simp at e;obtain⟨rfl,rfl⟩:=e;obtain⟨p,vs,rfl,hs,r⟩:=hr.seq rx q;obtain⟨v,hv,rv⟩:=Ih r z;rcases hs with hs|hs
      .exact .inl ⟨p,vs,i,v,rfl,dw ry,hs,hv,a.now hr rv⟩
      .exact .inr (.inl ⟨p,vs,i,v,rfl,dw ry,hs,hv,a.now hr rv⟩)
 .cases e
theorem Ky:UnU K (rU λi=>.int (-i)) m7:=by
 intro μ S H x vx u S' Q hr rx e a;unfold m7 at e
 split at e
 .cases e
  exact⟨_,dw rx,a.now hr eO⟩
 .cases e
theorem Pb{Q:List V->Hp->Prop}(h:tMA K ai σ H Q):Cc σ H Q:=by
 obtain⟨μ,S,G,us,S',hr,er,e,k⟩:=h;cases e;exact k μ [] H 2#2 8#2 hr .nil
theorem KM{a:ME}{r:MA}{Q:List V->Hp->Prop}(h:tMA K (aa a r) σ H Q):vW (tM K a) (tMA K r) σ H Q:=by
 obtain⟨μ,S,G,us,S',hr,er,e,k⟩:=h;obtain⟨x,S1,e1,e⟩:=aM e;obtain⟨xs,S2,e2,e⟩:=aM e;cases e;refine 10#0;refine⟨_,S1,G,xs,_,Z',er.mono k1 p1,e2,λY5 vs H2 p2 k2 ZX rs=>?_⟩;exact k _ _ H2 9#1 9#6 ZX (.cons (RU.mono k2 p2 x vx rx) rs)
theorem O3{a:MA}(h:tM K (dS a) σ H Q):PN 5#8 σ H Q:=by
 obtain⟨μ,S,G,u,S',hr,er,e,k⟩:=h;obtain⟨xs,S1,e1,e⟩:=aM e
 split at e
 .rename_i hc
  cases e;refine⟨μ,S,G,xs,_,hr,er,e1,λY0 vs H1 p1 k1 Z' rs=>⟨?_,λp hp=>?_⟩⟩
  .have:=rs.len;unfold big at hc;rw[sizeLine_eq];omega
  .exact k _ _ _ p1 (k1.trans (aX.new hp)) (Z'.tup hp) (jS bW (RUs.mono (aX.new hp) 2#2 _ _ rs))
 .cases e
theorem iF(k:Aft K μ H (.ref 0#5) (S++[.lst us]) Q)(hr:HR K μ S H)(rs:RUs H μ us vs)(hp:H p=none):Q (.ref p) (upd H p (.lst vs)):=by
 refine k _ _ _ ⟨_,rfl⟩ (aX.new hp) (hr.new hp rs) (wo ?_);rw[<-hr.len];simp
theorem NZ{a:MA}(h:tM K (cw a) σ H Q):Ny 5#8 σ H Q:=by
 obtain⟨μ,S,G,u,S',hr,er,e,k⟩:=h;obtain⟨xs,S1,e1,e⟩:=aM e
 split at e
 .rename_i hc
  cases e;refine⟨μ,S,G,xs,S1,hr,er,e1,λY0 vs H1 p1 k1 Z' rs=>⟨?_,λp hp=>?_⟩⟩
  .have:=rs.len;unfold big at hc;rw[sizeLine_eq];omega
  .exact iF 10#7 Z' rs hp
 .cases e
def nr(K:KX)(r:List V->Hp->VK->Prop)(f:MF):Prop:= ∀(μ:List Addr) (S:Sto) (H:Hp) (us:List U) (vs:List V) (u:U) (S':Sto) (Q:VK),HR K μ S H->RUs H μ us vs->f us S=some (u,S')->Aft K μ H u S' Q->r vs H Q
theorem xJ{r:List V->Hp->VK->Prop}{f:MF}{a:MA}(o:nr K r f)(h:tM K (mFn f a) σ H Q):tCB r 5#8 σ H Q:=by
 obtain⟨μ,S,G,u,S',hr,er,e,k⟩:=h;obtain⟨xs,S1,e1,e⟩:=aM e;refine⟨μ,S,G,xs,S1,hr,er,e1,λY0 vs H1 p1 k1 Z' rs=>?_⟩;exact o _ S1 H1 xs vs u S' Q Z' rs e 10#7
def spM(K:KX)(m:MF):Sp:=λvs H Q _=>∃μ S us u S',HR K μ S H/\RUs H μ us vs/\m us S=some (u,S')/\Aft K μ H u S' Q
theorem DU{f:MF}{a:MA}{E:XK}(h:tM K (mFn f a) σ H Q):BJ (spM K f) [] E 5#8 σ H Q:=by
 obtain⟨μ,S,G,u,S',hr,er,e,k⟩:=h;obtain⟨xs,S1,e1,e⟩:=aM e;refine⟨μ,S,G,xs,S1,hr,er,e1,λY0 vs H1 p1 k1 Z' rs=>?_⟩;show spM K f _ H1 Q E;rw[ig];exact⟨_,S1,xs,u,S',Z',rs,e,k.mono p1 k1⟩
theorem K4:nr K (λxs H Q=>(∃p ys,xs=[.ref p]/\(SqL K H p ys\/SqT K H p ys)/\Q (.int 3#1) H) \/ ∃a kvs,xs=[V.ref a]/\H a=some (.dK kvs)/\Q (.int 4#8) H) bL:=by
 intro μ S H us vs u S' Q hr rs e a;unfold bL at e
 split at e
 .rename_i x
  obtain⟨v,r,rfl,rx,rn⟩:=rs.inv;rw[rn.nil_inv]
  split at e
  .rename_i kvs qd
   cases e;obtain⟨p,ws,rfl,hp,r'⟩:=hr.dic rx qd;refine .inr ⟨p,_,rfl,hp,?_⟩;have hl:=by have:=r'.len;rwa[aF]at this
   rw[GL hl];exact a.now hr eO
  cases q:ei S x with
  |none=>rw[q]at e;cases e
  | some ws=>
    rw[q]at e;cases e;obtain⟨p,ys,rfl,hs,r'⟩:=hr.seq rx q;refine .inl ⟨p,ys,rfl,hs,?_⟩;rw[<-r'.len];exact a.now hr eO
 .cases e
theorem DN:nr K (λxs H Q=>∃p ys,xs=[.ref p]/\((SqL K H p ys /\ ∀l,H l=none->Q (.ref l) (upd H l (.tup ys)))\/(SqT K H p ys/\Q (.ref p) H))) bU:=by
 intro μ S H us vs u S' Q hr rs e a;unfold bU at e
 split at e
 .obtain⟨v,r,rfl,rx,rn⟩:=rs.inv
  rw[rn.nil_inv];unfold ei at e
  split at e
  .cases e
   obtain⟨p,ys,rfl,hp,r'⟩:=fq rx;exact⟨p,ys,rfl,.inr ⟨.inl (.inl hp),a.now hr (jS hp r')⟩⟩
  .rename_i n
   cases q:getL S n with
   |none=>rw[q]at e;cases e
   | some ws=>
     rw[q]at e;cases e;obtain⟨p,rfl,hp⟩:=fe rx;obtain⟨p',ys,ZG,hs,r'⟩:=hr.sq q;rw[hp]at ZG;cases ZG;refine⟨p,ys,rfl,.inl ⟨hs,λl hl=>?_⟩⟩;exact a μ _ _ 2#2 (aX.new hl) (hr.tup hl) (jS bW (RUs.mono (aX.new hl) 2#2 _ _ r'))
  .cases e
 .cases e
theorem IG:nr K (λxs H Q=>∃p ys,xs=[.ref p]/\(SqL K H p ys\/SqT K H p ys) /\ ∀l,H l=none->Q (.ref l) (upd H l (.lst ys))) kX:=by
 intro μ S H us vs u S' Q hr rs e a;unfold kX at e
 split at e
 .rename_i x
  obtain⟨v,r,rfl,rx,rn⟩:=rs.inv;rw[rn.nil_inv];cases q:ei S x with
  |none=>rw[q]at e;cases e
  | some ws=>
    rw[q]at e;cases e;obtain⟨p,ys,rfl,hs,r'⟩:=hr.seq rx q;exact⟨p,ys,rfl,hs,λl hl=>iF a hr r' hl⟩
 .cases e
theorem MV:nr K (λxs H Q=>∃i j,xs=[.int i,.int j]/\Q (.int (if j>i then j else i)) H) yZ:=by
 intro μ S H us vs u S' Q hr rs e a;unfold yZ at e
 split at e
 .cases e
  obtain⟨v,r,rfl,rx,rs⟩:=rs.inv;obtain⟨w,r,rfl,ry,rn⟩:=rs.inv;rw[rn.nil_inv,dw rx,dw ry];exact⟨_,_,rfl,a.now hr eO⟩
 .cases e
def Pj(K:aj):List V->Hp->VK->Prop:=λxs H Q=>((∃i j,xs=[.int i,.int j]/\Q (.int (if j<i then j else i)) H))
theorem Cr (hc:X.calm=true)(hu:X.A.units+64<cLine):gF X (.builtin "min") (Pj X.K):=by
 intro pins s σ H xs us Q I rs h;exact Ct hc pins s σ H xs us Q I rs h
theorem Lp:nr K (Pj K) yU:=by
 intro μ S H us vs u S' Q hr rs e a;unfold yU at e
 split at e
 .cases e
  obtain⟨v,r,rfl,rx,rs⟩:=rs.inv;obtain⟨w,r,rfl,ry,rn⟩:=rs.inv;rw[rn.nil_inv,dw rx,dw ry];exact⟨_,_,rfl,a.now hr eO⟩
 .cases e
def MtU(K:KX)(r:V->List V->Hp->VK->Prop)(f:Nat->List U->Sto->Res U):Prop:= ∀(μ:List Addr) (S:Sto) (H:Hp) (n:Nat) (p:Addr) (us:List U) (vs:List V) (u:U) (S':Sto) (Q:VK),HR K μ S H->μ[n]?=some p->RUs H μ us vs->f n us S=some (u,S')->Aft K μ H u S' Q->r (.ref p) vs H Q
theorem KR{r:V->List V->Hp->VK->Prop}{f:Nat->List U->Sto->Res U}{o:ME}{a:MA}(m:MtU K r f)(h:tM K (mML f o a) σ H Q):tBM K "list" r (tM K o) 5#8 σ H Q:=by
 obtain⟨μ,S,G,u,S',hr,er,e,k⟩:=h;obtain⟨x,S1,e1,e⟩:=aM e
 split at e
 .rename_i n
  cases q:getL S1 n with
  |none=>rw[q]at e;cases e
  | some ws=>
    rw[q]at e;obtain⟨xs,S2,e2,e⟩:=aM e;refine⟨μ,S,G,_,S1,hr,er,e1,λY0 vx H1 p1 k1 Z' rx=>?_⟩;obtain⟨p,rfl,hp⟩:=fe rx;obtain⟨p',ys,ZG,hs,r'⟩:=Z'.sq q;rw[hp]at ZG;cases ZG;refine⟨.inl ⟨rfl,ys,hs⟩,_,S1,G,xs,S2,Z',er.mono k1 p1,e2,λY5 vs H2 p2 k2 ZX rs=>?_⟩;exact m _ S2 H2 n p xs vs u S' Q ZX (p2.get hp) rs e (k.mono 9#1 9#6)
 .cases e
theorem xQ{ws:List U}(k:Aft K μ H u (S.set n (.lst ws)) Q)(hr:HR K μ S H)(e:S[n]?=some (.lst us))(hp:μ[n]?=some p)(rs:RUs H μ ws vs)(ru:RU H μ u v):
  Q v (upd H p (.lst vs)):=by
 obtain⟨SV,e0,_⟩:=hr.cell n _ p e hp;exact k μ _ _ 2#2 (aX.wr e0) (hr.wr e hp rs) (RU.mono (aX.wr e0) 2#2 _ _ ru)
theorem CA:MtU K Bw cb:=by
 intro μ S H n p us vs u S' Q hr hp rs e a;unfold cb at e
 split at e
 .split at e
  .rename_i ws q
   split at e
   .rename_i hc
    cases e;obtain⟨v,r,rfl,rx,rn⟩:=rs.inv;rw[rn.nil_inv];obtain⟨xs,e0,r0⟩:=hr.cell n _ p q hp;refine⟨p,xs,v,rfl,rfl,e0,?_,xQ a hr q hp (r0.append (.cons rx .nil)) mz⟩;have:=r0.len;unfold big at hc;rw[sizeLine_eq];omega
   .cases e
  .cases e
 .cases e
variable{j:Nat}
theorem Q6(h:ixN n i=some j):j<n /\ -(n:Int)<=i/\i<n:=by
 unfold ixN at h
 grind
theorem Iy(h:ixN n i=some j):seqIndex? i n=some j:=by
 unfold ixN at h;unfold seqIndex?
 grind
theorem ED:MtU K Gq nX:=by
 intro μ S H n p us vs u S' Q hr hp rs e a;unfold nX at e
 split at e
 .rename_i i
  split at e
  .rename_i ws q
   split at e
   rotate_left
   .cases e
   rename_i hR
   cases z:ixN _ i with
   |none=>rw[z]at e;cases e
   | some j=>
     rw[z]at e;simp only[aI]at e;cases z2:ws[j]? with
     |none=>simp_all
     | some y=>
       rw[z2]at e;cases e;obtain⟨v,r,rfl,rx,rn⟩:=rs.inv;rw[rn.nil_inv,dw rx];obtain⟨xs,e0,r0⟩:=hr.cell n _ p q hp;obtain⟨w,hw,Zr⟩:=r0.get z2;have hlen:=r0.len;refine⟨p,xs,i,j,w,rfl,rfl,e0,?_,?_,?_,hw,xQ a hr q hp (r0.eraseIdx j) Zr⟩
       .have:=hR.1;omega
       .have:=hR.2;omega
       .rw[<-hlen];exact Iy z
  .cases e
 .cases e
theorem AF{t:TE}{m:ME}{Q:Bool->Hp->Prop}(ht:∀Q,tM K m σ H Q->t σ H Q)(h:tMT K (cOf m) σ H Q):Fo t σ H Q:=by
 obtain⟨μ,S,G,b,S',hr,er,e,k⟩:=h;obtain⟨x,S1,e1,e⟩:=aM e
 split at e
 .cases e
  refine ht _ 22#2;exact⟨_,jn rx,k _ H1 p1 k1 Z'⟩
 .cases e
theorem QB{t:TE}{m:ME}{Q:Bool->Hp->Prop}(ht:∀Q,tM K m σ H Q->t σ H Q)(h:tMT K (cOf m) σ H Q):tB t σ H Q:=AF ht h
theorem Nx{a b:MT}{Q:Bool->Hp->Prop}(h:tMT K (zc a b) σ H Q):_L.Py (tMT K a) (tMT K b) σ H Q:=by
 obtain⟨μ,S,G,c,S',hr,er,e,k⟩:=h;obtain⟨x,S1,e1,e⟩:=aM e;refine 19#4;cases x with
 |true=>exact tR ⟨_,S1,G,c,S',Z',er.mono k1 p1,e,λY5 H2 p2 k2=>k _ H2 9#1 9#6⟩
 | false=>
   grind
theorem QK{a b:MT}{Q:Bool->Hp->Prop}(h:tMT K (cOr a b) σ H Q):_L.tOr (tMT K a) (tMT K b) σ H Q:=by
 obtain⟨μ,S,G,c,S',hr,er,e,k⟩:=h;obtain⟨x,S1,e1,e⟩:=aM e;refine 19#4;cases x with
 | true=>
   grind
 |false=>exact t6 ⟨_,S1,G,c,S',Z',er.mono k1 p1,e,λY5 H2 p2 k2=>k _ H2 9#1 9#6⟩
theorem OE{a:MT}{Q:Bool->Hp->Prop}(h:tMT K (eB a) σ H Q):_L.Qo (tMT K a) σ H Q:=by
 obtain⟨μ,S,G,c,S',hr,er,e,k⟩:=h;obtain⟨x,S1,e1,e⟩:=aM e;cases e;exact⟨μ,S,G,x,_,hr,er,e1,λY0 H1 p1 k1 Z'=>k _ H1 p1 k1 Z'⟩
theorem Oo{c:MT}{a b:ME}(h:tM K (A0 c a b) σ H Q):tIf (tMT K c) (tM K a) (tM K b) σ H Q:=by
 obtain⟨μ,S,G,u,S',hr,er,e,k⟩:=h;obtain⟨x,S1,e1,e⟩:=aM e;refine 19#4;cases x with
 |true=>exact tR 19#5
 |false=>exact t6 19#5
section
variable {D:Ends}
theorem EF(h:tMS K dg D σ H):Ff D σ H:=by
 obtain⟨μ,S,G,r,hr,er,e,k⟩:=h;cases e;exact k μ σ H 2#2 8#2 hr er
variable{b:MS}
theorem Og{a:MS}(h:tMS K (aY a b) D σ H):Pr (tMS K a) (tMS K b) D σ H:=by
 obtain⟨μ,S,G,r,hr,er,e,k⟩:=h;unfold aY at e
 split at e
 .rename_i Y3 S1 q
  refine⟨μ,S,G,_,hr,er,q,λY0 Y6 H1 p1 k1 Z' ZK=>?_⟩;exact⟨_,S1,_,r,Z',ZK,e,k.mono p1 k1⟩
 .rename_i q
  refine⟨μ,S,G,r,hr,er,e,?_⟩;obtain⟨f,Y4,S'⟩:=r;cases f with
  |nx=>exact absurd e (q _ S')
  |bk=>exact k
  |ct=>exact k
  |rt u=>exact k
variable{i:Nat}{m:ME}
theorem JZ(h:tMS K (bz i m) D σ H):Dg (tM K m) (i3 i) D σ H:=by
 obtain⟨μ,S,G,r,hr,er,e,k⟩:=h;obtain⟨x,S1,e1,e⟩:=aM e;cases e;exact⟨μ,S,G,x,S1,hr,er,e1,λY0 vx H1 p1 k1 Z' rx=>k _ _ H1 p1 k1 Z' ((er.mono k1 p1).set rx i)⟩
def OX:FM:=λo i v H Q=>∃a H',o=.ref a/\Ci H a i v H'/\Q H'
def JU:FM:=λo i v H Q=>Kk o i v H Q\/OX o i v H Q
theorem Hk{X:Cx}(hu:X.A.units+1<cLine):MP X JU:=by
 intro pins s σ H o i v ov iv u Q I ro ri rv h;rcases h with h|⟨a,H',rfl,g,q⟩
 .exact set_list _ s σ H o i v ov iv u Q I ro ri rv h
 .obtain rfl:ov=cg a:=ro
  exact CJ hu I g ri rv λs4 I4=>⟨H',I4,q⟩
theorem Ht{o i:ME}(h:tMS K (ox o i m) D σ H):Dg (tM K m) (Ql (tM K o) (tM K i) JU) D σ H:=by
 obtain⟨μ,S,G,r,hr,er,e,k⟩:=h;obtain⟨x,S1,e1,e⟩:=aM e;obtain⟨p,S2,e2,e⟩:=aM e;obtain⟨j,S3,e3,e⟩:=aM e;cases p with
 | ref n=>
   simp at e
   split at e
   .rename_i us q
    split at e
    rotate_left
    .cases e
    rename_i kk
    cases z:ixN _ kk with
    |none=>rw[z]at e;cases e
    | some m'=>
      rw[z]at e;cases e;refine 10#0;refine⟨_,S1,G,_,S2,Z',er.mono k1 p1,e2,λY5 vo H2 p2 k2 ZX ro=>?_⟩;refine⟨_,S2,G,_,S3,ZX,er.mono 9#6 9#1,e3,λG' vi H3 p3 k3 Zx ri=>?_⟩;obtain⟨a,rfl,ha⟩:=fe ro;have Vz:=p3.get ha;obtain⟨vs,e0,r0⟩:=Zx.cell n _ a q Vz;have Wk:=RU.mono (k2.trans k3) (p2.trans p3) _ _ rx;refine .inl ⟨a,vs,kk,m',rfl,dw ri,e0,by rw[<-r0.len];omega,?_⟩;have kw:aX H3 (upd H3 a (.lst (vs.set m' vx))):=aX.wr e0;exact k _ _ _ (p1.trans (p2.trans p3)) 20#1 (Zx.wr q Vz (r0.set Wk m')) (er.mono 20#1 (p1.trans (p2.trans p3)))
   .rename_i kvs q
    cases qk:keyOf j with
    |none=>simp_all
    | some kk=>
      rw[qk]at e
      split at e
      .rename_i hz
       cases e;refine 10#0;refine⟨_,S1,G,_,S2,Z',er.mono k1 p1,e2,λY5 vo H2 p2 k2 ZX ro=>?_⟩;refine⟨_,S2,G,_,S3,ZX,er.mono 9#6 9#1,e3,λG' vi H3 p3 k3 Zx ri=>?_⟩;obtain⟨a,rfl,ha⟩:=fe ro;have Vz:=p3.get ha;obtain⟨vs,e0,r0⟩:=Zx.cell n _ a q Vz;have Wk:=RU.mono (k2.trans k3) (p2.trans p3) _ _ rx;have hl:=by have:=r0.len;rwa[aF]at this
       obtain⟨ws,ew,Zr⟩:=Ie Wk r0;have kw:aX H3 (upd H3 a (.dK (putK (dV kvs vs) kk vx))):=aX.wrG e0 (λ_ z=>by cases z) λ_ _ z=>by cases z
       refine .inr ⟨a,_,rfl,.inl ⟨_,kk,e0,wB ri qk,by rw[GL hl];exact hz,rfl⟩,?_⟩;exact k _ _ _ (p1.trans (p2.trans p3)) 20#1 (Zx.wrC q Vz rfl ⟨ws,by rw[ew];exact bW,RUs.mono kw 2#2 _ _ Zr⟩) (er.mono 20#1 (p1.trans (p2.trans p3)))
      .cases e
   .cases e
 |_=>cases e
theorem Md(h:tMS K (dk m) D σ H):JY (tM K m) D σ H:=by
 obtain⟨μ,S,G,r,hr,er,e,k⟩:=h;obtain⟨x,S1,e1,e⟩:=aM e;cases e;exact⟨μ,S,G,x,S1,hr,er,e1,λY0 vx H1 p1 k1 Z' rx=>k _ σ H1 p1 k1 Z' 9#5⟩
theorem NF(h:tMS K (bZ m) D σ H):Ow (tM K m) D σ H:=by
 obtain⟨μ,S,G,r,hr,er,e,k⟩:=h;obtain⟨x,S1,e1,e⟩:=aM e;cases e;exact⟨μ,S,G,x,S1,hr,er,e1,k⟩
theorem QH{c:MT}{a:MS}(h:tMS K (sIf c a b) D σ H):ON (tMT K c) (tMS K a) (tMS K b) D σ H:=by
 obtain⟨μ,S,G,r,hr,er,e,k⟩:=h;obtain⟨x,S1,e1,e⟩:=aM e;refine 19#4;cases x with
 |true=>exact tR ⟨_,S1,G,r,Z',er.mono k1 p1,e,k.mono p1 k1⟩
 |false=>exact t6 ⟨_,S1,G,r,Z',er.mono k1 p1,e,k.mono p1 k1⟩
variable{S:Sto}{r:Fl×Rho×Sto}
theorem mT{X0:List Addr}{H0:Hp}{k:MS}{N:St->Hp->Prop}(hr:HR K μ S H)(er:ER H μ G σ)(e:aft (b G S) k=some r)(p:Pre X0 μ)(kp:aX H0 H)(fl:FlP K X0 H0 D r)
  (hN:∀Y0 Y6 H1 Y3 S1,Pre X0 Y0->aX H0 H1->HR K Y0 S1 H1->ER H1 Y0 Y3 Y6->k Y3 S1=some r->N Y6 H1):tMS K b { D with nx:=N,ct:=N,bk:=D.nx } σ H:=by
 unfold aft at e
 split at e
 .rename_i Y3 S1 q
  exact⟨μ,S,G,_,hr,er,q,λY0 Y6 H1 p1 k1 Z' ZK=>hN _ _ H1 _ S1 (p.trans p1) (kp.trans k1) Z' ZK e⟩
 .rename_i Y3 S1 q
  exact⟨μ,S,G,_,hr,er,q,λY0 Y6 H1 p1 k1 Z' ZK=>hN _ _ H1 _ S1 (p.trans p1) (kp.trans k1) Z' ZK e⟩
 .rename_i Y3 S1 q
  cases e;exact⟨μ,S,G,_,hr,er,q,λY0 Y6 H1 p1 k1 Z' ZK=>fl _ _ H1 (p.trans p1) (kp.trans k1) Z' ZK⟩
 .rename_i q1 q2 q3
  refine⟨μ,S,G,r,hr,er,e,?_⟩;obtain⟨f,Y4,S'⟩:=r;cases f with
  |nx=>exact absurd e (q1 _ S')
  |ct=>exact absurd e (q2 _ S')
  |bk=>exact absurd e (q3 _ S')
  |rt u=>exact Aft.mono fl p kp
theorem drop_cons{α:Type}{l:List α}{x:α}(h:l[i]?=some x):l.drop i=x::l.drop (i+1):=by
 obtain⟨hi,e⟩:=ah.mp h;rw[List.drop_eq_getElem_cons hi,e]
theorem Ma{us:List U}{vs:List V}(hr:HR K μ S H)(er:ER H μ G σ)(e:pV i b us G S=some r)(fl:FlP K μ H D r)(ha:H a=some (.tup vs))(ru:RUs H μ us vs):
  ∃W:Nat->Nat->St->Hp->Prop,(∃m,W 0 m σ H) /\ ∀k m σ H,W k m σ H ->
   ((Itt K a).stop k H/\D.nx σ H)\/((Itt K a).go k H /\ ∃N:St->Hp->Prop,17#2 /\ ∀x H',(Itt K a).yld k H x H'->i3 i x σ H' λY7 H2=>tMS K b { D with nx:=N,ct:=N,bk:=D.nx } Y7 H2):=by
 refine IM (xs:=vs) (λk Y6 H1=>∃Y0 S1 Y3,Pre μ Y0/\aX H H1/\HR K Y0 S1 H1/\ER H1 Y0 Y3 Y6/\pV i b (us.drop k) Y3 S1=some r) ⟨μ,S,G,Pre.refl _,aX.refl _,hr,er,e⟩ ?_ ?_ ?_
 .rintro k Y6 H1 _ ⟨Y0,S1,Y3,p1,k1,_⟩
  exact .inl (.inl (k1 a vs ha))
 .rintro k x Y6 H1 hx ⟨Y0,S1,Y3,p1,k1,Z',ZK,e1⟩
  have hk:k<0#9:=by rw[ru.len];exact(ah.mp hx).1
  have hu:us[k]?=some us[k]:=by simp
  obtain⟨v,hv,rv⟩:=ru.get hu;rw[hx]at hv;cases hv;rw[drop_cons hu]at e1;have Ws:=RU.mono k1 p1 _ _ rv;exact mT Z' (ZK.set Ws i) e1 p1 k1 fl λY5 Y7 H2 Y8 S2 p2 k2 ZX YK e2=>⟨_,S2,_,p2,k2,ZX,YK,e2⟩
 .rintro Y6 H1 ⟨Y0,S1,Y3,p1,k1,Z',ZK,e1⟩
  rw[<-ru.len,jf]at e1;cases e1;exact fl _ _ H1 p1 k1 Z' ZK
theorem Fk{lo:Int}(hr:HR K μ S H)(er:ER H μ G σ)(e:pV i b (a8 lo n) G S=some r)(fl:FlP K μ H D r):
  ∃W:Nat->Nat->St->Hp->Prop,(∃m,W 0 m σ H) /\ ∀k m σ H,W k m σ H ->
   ((Itr lo n).stop k H/\D.nx σ H)\/((Itr lo n).go k H /\ ∃N:St->Hp->Prop,17#2 /\ ∀x H',(Itr lo n).yld k H x H'->i3 i x σ H' λY7 H2=>tMS K b { D with nx:=N,ct:=N,bk:=D.nx } Y7 H2):=by
 refine De (λk Y6 H1=>∃Y0 S1 Y3,Pre μ Y0/\aX H H1/\HR K Y0 S1 H1/\ER H1 Y0 Y3 Y6/\pV i b ((a8 lo n).drop k) Y3 S1=some r) ⟨μ,S,G,Pre.refl _,aX.refl _,hr,er,e⟩ ?_ ?_
 .rintro k Y6 H1 hk ⟨Y0,S1,Y3,p1,k1,Z',ZK,e1⟩
  have hu:(a8 lo n)[k]?=some (.int (lo+k)):=by simp[a8,hk]
  rw[drop_cons hu]at e1;exact mT Z' (ZK.set eO i) e1 p1 k1 fl λY5 Y7 H2 Y8 S2 p2 k2 ZX YK e2=>⟨_,S2,_,p2,k2,ZX,YK,e2⟩
 .rintro Y6 H1 ⟨Y0,S1,Y3,p1,k1,Z',ZK,e1⟩
  have hl:(a8 lo n).length=n:=by simp[a8]
  rw[List.drop_eq_nil_of_le 6#5]at e1;cases e1;exact fl _ _ H1 p1 k1 Z' ZK
theorem Mh{f:Nat}(hr:HR K μ S H)(er:ER H μ G σ)(e:forL i b n f 0 G S=some r)(fl:FlP K μ H D r)(ha:μ[n]?=some a):
  ∃W:Nat->Nat->St->Hp->Prop,(∃m,W 0 m σ H) /\ ∀k m σ H,W k m σ H ->
   ((Itl K a).stop k H/\D.nx σ H)\/((Itl K a).go k H /\ ∃N:St->Hp->Prop,17#2 /\ ∀x H',(Itl K a).yld k H x H'->i3 i x σ H' λY7 H2=>tMS K b { D with nx:=N,ct:=N,bk:=D.nx } Y7 H2):=by
 refine⟨λk m Y6 H1=>∃Y0 S1 Y3,Pre μ Y0/\aX H H1/\HR K Y0 S1 H1/\ER H1 Y0 Y3 Y6/\forL i b n m k Y3 S1=some r,⟨f,μ,S,G,Pre.refl _,aX.refl _,hr,er,e⟩,?_⟩;rintro k m Y6 H1 ⟨Y0,S1,Y3,p1,k1,Z',ZK,e1⟩;cases m with
 |zero=>cases e1
 | succ m=>
   unfold forL at e1;cases q:getL S1 n with
   |none=>simp_all
   | some us=>
     rw[q]at e1;simp at e1;obtain⟨a',vs,Yy,hs,rs⟩:=Z'.sq q;rw[p1.get ha]at Yy;cases Yy;cases z:us[k]? with
     | none=>
       rw[z]at e1;cases e1;refine .inl ⟨⟨vs,hs,?_⟩,fl _ _ H1 p1 k1 Z' ZK⟩;rw[<-rs.len];simp_all
     | some u=>
       rw[z]at e1;obtain⟨v,hv,rv⟩:=rs.get z;refine .inr ⟨⟨vs,v,hs,hv⟩,_,λY1 H' w=>⟨m,dA _,w⟩,λx H' y=>?_⟩;obtain⟨e',y⟩:=y;subst e';have hx:=y vs hs;rw[hv]at hx;cases hx;exact mT Z' (ZK.set rv i) e1 p1 k1 fl λY5 Y7 H2 Y8 S2 p2 k2 ZX YK e2=>⟨_,S2,_,p2,k2,ZX,YK,e2⟩
theorem Hf{c:MT}(h:tMS K (Ao c b) D σ H):Fp (tMT K c) (tMS K b) D σ H:=by
 obtain⟨μ,S,G,r,hr,er,e,fl⟩:=h;refine⟨λm Y6 H1=>∃Y0 S1 Y3,Pre μ Y0/\aX H H1/\HR K Y0 S1 H1/\ER H1 Y0 Y3 Y6/\whl c b m Y3 S1=some r,⟨_,μ,S,G,Pre.refl _,aX.refl _,hr,er,e⟩,?_⟩;rintro m Y6 H1 ⟨Y0,S1,Y3,p1,k1,Z',ZK,e1⟩;cases m with
 |zero=>cases e1
 | succ m=>
   obtain⟨x,S2,e2,e1⟩:=aM e1;refine⟨_,S1,_,x,S2,Z',ZK,e2,λY5 H2 p2 k2 ZX=>?_⟩;cases x with
   | true=>
     refine tR ⟨_,λY1 H' w=>⟨m,dA _,w⟩,?_⟩;exact mT ZX (ZK.mono k2 p2) e1 9#1 9#6 fl λG' X4 H3 Z1 S3 p3 k3 Zx R5 e3=>⟨_,S3,_,p3,k3,Zx,R5,e3⟩
   | false=>
     have e':=e1;cases e';exact t6 (fl _ _ H2 9#1 9#6 ZX (ZK.mono k2 p2))
end
end
section
variable {K:KX}{σ:St}{H:Hp}{Q:VK}{D:Ends}
variable{R:It->Hp->Prop}{S S1:Sto}{src:Src}
theorem Kl{a:MA}(hr:HR K μ S H)(er:ER H μ G σ)(e:iR1 a G S=some (src,S1))
  (hR:∀Y0 H1 n,Pre μ Y0->aX H H1->HR K Y0 S1 H1->src=.imm (a8 0 n)->R (Itr 0 n) H1):yj 5#8 σ H R:=by
 obtain⟨xs,S2,e1,e⟩:=aM e
 split at e
 .rename_i j
  split at e
  .rename_i hj
   cases e;refine 15#5;obtain⟨v,r,rfl,rx,rn⟩:=rs.inv;rw[rn.nil_inv,dw rx];exact⟨j,rfl,hj.1,hj.2,hR _ H1 _ p1 k1 Z' rfl⟩
  .cases e
 .cases e
theorem Ka{a:MA}(hr:HR K μ S H)(er:ER H μ G σ)(e:iR2 a G S=some (src,S1))
  (hR:∀Y0 H1 lo n,Pre μ Y0->aX H H1->HR K Y0 S1 H1->src=.imm (a8 lo n)->R (Itr lo n) H1):za 5#8 σ H R:=by
 obtain⟨xs,S2,e1,e⟩:=aM e
 split at e
 .rename_i i j
  split at e
  .rename_i hj
   cases e;refine 15#5;obtain⟨v,r,rfl,rx,rs⟩:=rs.inv;obtain⟨w,r,rfl,ry,rn⟩:=rs.inv;rw[rn.nil_inv,dw rx,dw ry];exact⟨i,j,rfl,⟨hj.1.1,hj.1.2,hj.2.1,hj.2.2⟩,hR _ H1 _ _ p1 k1 Z' rfl⟩
  .cases e
 .cases e
theorem Gp{a:ME}(hr:HR K μ S H)(er:ER H μ G σ)(e:eZ a G S=some (src,S1))
  (hT:∀Y0 H1 us p vs,Pre μ Y0->aX H H1->HR K Y0 S1 H1->src=.imm us->H1 p=some (.tup vs)->RUs H1 Y0 us vs->R (Itt K p) H1)
  (hL:∀Y0 H1 n p,Pre μ Y0->aX H H1->HR K Y0 S1 H1->src=.mut n->Y0[n]?=some p->R (Itl K p) H1):zt K (tM K a) σ H R\/Eu K (tM K a) σ H R:=by
 obtain⟨x,S2,e1,e⟩:=aM e
 split at e
 .cases e
  refine .inr 22#2;obtain⟨p,vs,rfl,hp,r⟩:=fq rx;exact⟨p,rfl,⟨vs,.inl (.inl hp)⟩,hT _ H1 _ p vs p1 k1 Z' rfl hp r⟩
 .rename_i n
  cases q:getL S2 n with
  |none=>rw[q]at e;cases e
  | some ws=>
    rw[q]at e;cases e;refine .inl 22#2;obtain⟨p,rfl,hp⟩:=fe rx;obtain⟨p',ys,ZG,hs,r'⟩:=Z'.sq q;rw[hp]at ZG;cases ZG;exact⟨p,rfl,⟨ys,hs⟩,hL _ H1 n p p1 k1 Z' rfl hp⟩
 .cases e
variable{i:Nat}{b:MS}
theorem NM{a:MA}(h:tMS K (fA i (iR1 a) b) D σ H):wj (yj 5#8) (i3 i) (tMS K b) D σ H:=by
 obtain⟨μ,S,G,r,hr,er,e,fl⟩:=h;obtain⟨src,S1,e1,e⟩:=aM e;refine Kl hr er e1 λY0 H1 n p1 k1 Z' hs=>?_;subst hs;exact Fk Z' 9#5 e (fl.mono p1 k1)
theorem Pc{a:MA}(h:tMS K (fA i (iR2 a) b) D σ H):wj (za 5#8) (i3 i) (tMS K b) D σ H:=by
 obtain⟨μ,S,G,r,hr,er,e,fl⟩:=h;obtain⟨src,S1,e1,e⟩:=aM e;refine Ka hr er e1 λY0 H1 lo n p1 k1 Z' hs=>?_;subst hs;exact Fk Z' 9#5 e (fl.mono p1 k1)
theorem QR{a:ME}(h:tMS K (fA i (eZ a) b) D σ H):wj (λσ H R=>zt K (tM K a) σ H R\/Eu K (tM K a) σ H R) (i3 i) (tMS K b) D σ H:=by
 obtain⟨μ,S,G,r,hr,er,e,fl⟩:=h;obtain⟨src,S1,e1,e⟩:=aM e;refine Gp hr er e1 (λY0 H1 us p vs p1 k1 Z' hs hp rs=>?_) λY0 H1 n p p1 k1 Z' hs hp=>?_
 .subst hs
  exact Ma Z' 9#5 e (fl.mono p1 k1) hp rs
 .subst hs
  exact Mh Z' 9#5 e (fl.mono p1 k1) hp
theorem qf{t:MT}{e:ME}{G:Rho}:∀{us acc ys:List U}{S S':Sto},eI t e G us acc S=some (ys,S')->acc.length<=3#1
 |[],acc,ys,S,S',h=>by cases h<;>simp_all
 | x::us,acc,ys,S,S',h=>by
   obtain⟨k,S1,e1,h⟩:=aM h;cases k with
   | true=>
     obtain⟨y,S2,e2,h⟩:=aM (show bnd _ (λy S2=>eI t e G us (acc++[y]) S2)=some _ from h);have:=qf h;simp at this;exact aN 1#1
   |false=>exact qf (h)
theorem qJ{t:MT}{e:ME}{G:Rho}{n:Nat}:∀{f i:Nat}{acc ys:List U}{S S':Sto},nz t e G n f i acc S=some (ys,S')->acc.length<=3#1
 |0,i,acc,ys,S,S',h=>by cases h
 | f+1,i,acc,ys,S,S',h=>by
   unfold nz at h;cases q:getL S n with
   |none=>rw[q]at h;cases h
   | some us=>
     rw[q]at h;simp at h;cases z:us[i]? with
     |none=>simp_all
     | some x=>
       rw[z]at h;obtain⟨k,S1,e1,h⟩:=aM h;cases k with
       | true=>
         obtain⟨y,S2,e2,h⟩:=aM (show bnd _ (λy S2=>nz t e G n f _ (acc++[y]) S2)=some _ from h);have:=qJ h;simp at this;exact aN 1#1
       |false=>exact qJ (h)
def zb(J:It)(σ:St)(tt:TT)(te:TE)(H1:Hp)(Q:VK):Prop:= ∃W:Nat->Nat->List V->Hp->Prop,(∃m,W 0 m [] H1) /\ ∀i m ys H,W i m ys H->3#1<sizeLine /\
 (19#2 \/
  (J.go i H /\ ∀x H',J.yld i H x H'->tt (σ++[some x]) H' λb H3=>if b=true then te (σ++[some x]) H3 λy H4 =>∃m',m'<m/\W (i+1) m' (ys++[y]) H4 else ∃m',m'<m/\W (i+1) m' ys H3))
variable{e:ME}{ys:List U}
theorem qp{t:MT}{Y4:Rho}{Y1:St}{au:List U}{acc:List V}{next:List U->Sto->Res (List U)}(W:List V->Hp->Prop)(Z':HR K Y0 S1 H1)(ZK:ER H1 Y0 Y4 Y1)(ra:RUs H1 Y0 au acc)
  (e1:bnd (t Y4 S1) (λk S2=>if k then bnd (e Y4 S2) λy S3=>next (au++[y]) S3 else next au S2)=some (ys,S'))
  (hW:∀Y5 S2 au2 Yb H2,Pre Y0 Y5->aX H1 H2->HR K Y5 S2 H2->RUs H2 Y5 au2 Yb->next au2 S2=some (ys,S')->W Yb H2):
  tMT K t Y1 H1 λb H3=>if b=true then tM K e Y1 H3 λy H4=>W (acc++[y]) H4 else W acc H3:=by
 obtain⟨b,S2,e2,e1⟩:=aM e1;refine⟨_,S1,_,b,S2,Z',ZK,e2,λY5 H2 p2 k2 ZX=>?_⟩;have WZ:=RUs.mono k2 p2 _ _ ra;cases b with
 | true=>
   obtain⟨y',S3,e3,e1⟩:=aM (show bnd _ (λy S2=>next (au++[y]) S2)=some _ from e1);exact tR ⟨_,S2,_,y',S3,ZX,ZK.mono k2 p2,e3,λG' v3 H3 p3 k3 Zx Wx=>hW _ S3 _ _ H3 (p2.trans p3) (k2.trans k3) Zx ((RUs.mono k3 p3 _ _ WZ).append (.cons Wx .nil)) e1⟩
 |false=>exact t6 (hW _ S2 _ _ H2 p2 k2 ZX WZ e1)
variable{us:List U}
theorem tF{J:It}{t:MT}(hr:HR K μ S H)(er:ER H μ G σ)(h:eI t e G us [] S=some (ys,S'))(hz:3#1<big)(k:Aft K μ H 9#4 (S'++[.lst ys]) Q)
  (W8:∀H',aX H H'->J.stop us.length H') (B':∀(i:Nat) H',i<0#9->aX H H'->J.go i H')
  (hy:∀(i:Nat) H' x Xe (u:U),us[i]?=some u->aX H H'->J.yld i H' x Xe->Xe=H'/\RU H μ u x):zb J σ (tMT K t) (tM K e) H Q:=by
 have WO:3#1<sizeLine:=by exact hz
 refine⟨λi m acc H1=>m=0#9-i/\i<=0#9 /\ ∃Y0 S1 au,Pre μ Y0/\aX H H1/\HR K Y0 S1 H1/\RUs H1 Y0 au acc/\eI t e G (us.drop i) au S1=some _,⟨_,rfl,en _,μ,S,[],Pre.refl _,aX.refl _,hr,.nil,h⟩,?_⟩;rintro i m acc H1 ⟨rfl,hi,Y0,S1,au,p1,k1,Z',ra,e1⟩;have hl:=qf e1;have YV:=ra.len;refine⟨by omega,?_⟩;by_cases ZR:i<0#9
 .have hu:us[i]?=some us[i]:=by simp
  rw[drop_cons hu]at e1;refine .inr ⟨B' i H1 ZR k1,λx H' y=>?_⟩;obtain⟨rfl,rx⟩:=hy i H1 x H' _ hu k1 y;have ZK:=(er.mono k1 p1).push (RU.mono k1 p1 _ _ rx);exact qp (λacc H1=>∃m',m'<0#9-i/\m'=0#9-(i+1)/\i+1<=0#9 /\ ∃Y0 S1 au,Pre μ Y0/\aX H H1/\HR K Y0 S1 H1/\RUs H1 Y0 au _/\eI t e G _ au S1=some _) Z' ZK ra e1 λY5 S2 au2 Yb H2 p2 k2 ZX WZ q=>⟨_,by omega,rfl,ZR,_,S2,_,p1.trans p2,k1.trans k2,ZX,WZ,q⟩
 .have e:i=0#9:=by omega
  subst e;rw[jf]at e1;cases e1;exact .inl ⟨W8 H1 k1,λD hD=>iF 10#7 Z' ra hD⟩
theorem Gr{t:MT}{f:Nat}(hr:HR K μ S H)(er:ER H μ G σ)(h:nz t e G n f 0 [] S=some (ys,S'))(hz:3#1<big)(k:Aft K μ H 9#4 (S'++[.lst ys]) Q)
  (hp:μ[n]?=some p):zb (Itl K p) σ (tMT K t) (tM K e) H Q:=by
 have WO:3#1<sizeLine:=by exact hz
 refine⟨λi m acc H1=>∃Y0 S1 au,Pre μ Y0/\aX H H1/\HR K Y0 S1 H1/\RUs H1 Y0 au acc/\nz t e G n m i au S1=some _,⟨f,μ,S,[],Pre.refl _,aX.refl _,hr,.nil,h⟩,?_⟩;rintro i m acc H1 ⟨Y0,S1,au,p1,k1,Z',ra,e1⟩;have hl:=qJ e1;have YV:=ra.len;refine⟨by omega,?_⟩;cases m with
 |zero=>cases e1
 | succ m=>
   unfold nz at e1;cases q:getL S1 n with
   |none=>simp_all
   | some us=>
     rw[q]at e1;simp at e1;obtain⟨a',vs,Yy,hs,rs⟩:=Z'.sq q;rw[p1.get hp]at Yy;cases Yy;cases z:us[i]? with
     | none=>
       rw[z]at e1;cases e1;exact .inl ⟨⟨vs,hs,by rw[<-rs.len];simp_all⟩,λD hD=>iF 10#7 Z' ra hD⟩
     | some u=>
       rw[z]at e1;obtain⟨v,hv,rv⟩:=rs.get z;refine .inr ⟨⟨vs,v,hs,hv⟩,λx H' y=>?_⟩;obtain⟨e',y⟩:=y;subst e';have hx:=y vs hs;rw[hv]at hx;cases hx;exact qp (λacc H1=>∃m',m'<m+1 /\ ∃Y0 S1 au,Pre μ Y0/\aX H H1/\HR K Y0 S1 H1/\RUs H1 Y0 au _/\nz t e G n m' _ au S1=some _) Z' ((er.mono k1 p1).push rv) ra e1 λY5 S2 au2 Yb H2 p2 k2 ZX WZ q=>⟨m,dA _,_,S2,_,p1.trans p2,k1.trans k2,ZX,WZ,q⟩
theorem ze{lo:Int}{t:MT}(hr:HR K μ S H)(er:ER H μ G σ)(h:eI t e G (a8 lo n) [] S=some (ys,S'))(hz:3#1<big)(k:Aft K μ H 9#4 (S'++[.lst ys]) Q):
  zb (Itr lo n) σ (tMT K t) (tM K e) H Q:=by
 have hl:(a8 lo n).length=n:=by simp[a8]
 refine tF hr er h hz k (λH' _=>by rw[hl];exact ar _) (λi H' hi _=>by rw[hl]at hi;exact hi) λi H' x Xe u hu _ y=>?_;obtain⟨rfl,rfl⟩:=y;have hi:i<n:=by rw[<-hl];exact(ah.mp hu).1
 have e2:(a8 lo n)[i]?=some (.int (lo+i)):=by simp[a8,hi]
 rw[e2]at hu;cases hu;exact⟨rfl,eO⟩
theorem GI{vs:List V}{t:MT}(hr:HR K μ S H)(er:ER H μ G σ)(h:eI t e G us [] S=some (ys,S'))(hz:3#1<big)(k:Aft K μ H 9#4 (S'++[.lst ys]) Q)
  (hp:H p=some (.tup vs)) (rs:RUs H μ us vs):zb (Itt K p) σ (tMT K t) (tM K e) H Q:=by
 refine tF hr er h hz k (λH' kp=>⟨vs,.inl (.inl (kp p vs hp)),by rw[rs.len]<;>simp_all⟩) (λi H' hi kp=>?_) λi H' x Xe u hu kp y=>?_
 .have XA:i<2#8:=by rw[<-rs.len];omega
  exact⟨vs,vs[i],.inl (.inl (kp p vs hp)),by simp⟩
 .obtain⟨rfl,y⟩:=y
  obtain⟨v,hv,rv⟩:=rs.get hu;have:=y vs (.inl (.inl (kp p vs hp)))
  grind
theorem NC{a:MA}{t:MT}(h:tM K (cY (iR1 a) t e) σ H Q):pd (yj 5#8) (tMT K t) (tM K e) σ H Q:=by
 obtain⟨μ,S,G,u,S',hr,er,e0,k⟩:=h;obtain⟨src,S1,e1,e0⟩:=aM e0;obtain⟨ys,S2,e2,e0⟩:=aM e0
 split at e0
 .rename_i hz
  cases e0;refine Kl hr er e1 λY0 H1 n p1 k1 Z' hs=>?_;subst hs;exact ze Z' 9#5 e2 hz 10#7
 .cases e0
theorem Qc{a:MA}{t:MT}(h:tM K (cY (iR2 a) t e) σ H Q):pd (za 5#8) (tMT K t) (tM K e) σ H Q:=by
 obtain⟨μ,S,G,u,S',hr,er,e0,k⟩:=h;obtain⟨src,S1,e1,e0⟩:=aM e0;obtain⟨ys,S2,e2,e0⟩:=aM e0
 split at e0
 .rename_i hz
  cases e0;refine Ka hr er e1 λY0 H1 lo n p1 k1 Z' hs=>?_;subst hs;exact ze Z' 9#5 e2 hz 10#7
 .cases e0
theorem QF{a:ME}{t:MT}(h:tM K (cY (eZ a) t e) σ H Q):pd (λσ H R=>zt K (tM K a) σ H R\/Eu K (tM K a) σ H R) (tMT K t) (tM K e) σ H Q:=by
 obtain⟨μ,S,G,u,S',hr,er,e0,k⟩:=h;obtain⟨src,S1,e1,e0⟩:=aM e0;obtain⟨ys,S2,e2,e0⟩:=aM e0
 split at e0
 .rename_i hz
  cases e0;refine Gp hr er e1 (λY0 H1 us p vs p1 k1 Z' hs hp rs=>?_) λY0 H1 n p p1 k1 Z' hs hp=>?_
  .subst hs
   exact GI Z' 9#5 e2 hz 10#7 hp rs
  .subst hs
   exact Gr Z' 9#5 e2 hz 10#7 hp
 .cases e0
end
section
variable {K:KX}{σ:St}{H:Hp}{Q:VK}{D:Ends}
theorem RUs.revs{H:Hp}{μ:List Addr}:∀{us:List U}{vs:List V},RUs H μ us vs->RUs H μ us.reverse vs.reverse
 |[],vs,r=>by rw[r.nil_inv];exact .nil
 | u::us,vs,r=>by
   obtain⟨v,vs,rfl,a,b⟩:=r.inv;rw[d8,d8];exact(RUs.revs b).append (.cons a .nil)
variable{S:Sto}
theorem GM{a:MA}{R:It->Hp->Prop}{S1:Sto}{src:Src}(hr:HR K μ S H)(er:ER H μ G σ)(e:yG a G S=some (src,S1))
  (hR:∀Y0 H1 us p vs,Pre μ Y0->aX H H1->HR K Y0 S1 H1->src=.imm us.reverse->H1 p=some (.tup vs)->RUs H1 Y0 us vs->R (Itv K p 2#8) H1):yN K 5#8 σ H R:=by
 obtain⟨xs,S2,e1,e⟩:=aM e
 split at e
 .rename_i us
  cases e;refine 15#5;obtain⟨v,r,rfl,rx,rn⟩:=rs.inv;rw[rn.nil_inv];obtain⟨p,vs,rfl,hp,r⟩:=fq rx;exact⟨p,vs,rfl,.inl (.inl hp),hR Y0 H1 _ p vs p1 k1 Z' rfl hp r⟩
 .cases e
variable{us:List U}{vs:List V}
theorem Gu{t:MT}{e:ME}{ys:List U}(hr:HR K μ S H)(er:ER H μ G σ)(h:eI t e G us.reverse [] S=some (ys,S'))(hz:3#1<big)(k:Aft K μ H 9#4 (S'++[.lst ys]) Q)
  (hp:H p=some (.tup vs)) (rs:RUs H μ us vs):zb (Itv K p 2#8) σ (tMT K t) (tM K e) H Q:=by
 have rr:=rs.revs;have hl:=rr.len;refine tF hr er h hz k (λH' kp=>⟨vs,.inl (.inl (kp p vs hp)),rfl,by rw[hl,eh];exact ar _⟩) (λi H' hi kp=>?_) λi H' x Xe u hu kp y=>?_
 .have XA:i<vs.reverse.length:=by rw[<-hl];exact hi
  exact⟨vs,vs.reverse[i],.inl (.inl (kp p vs hp)),rfl,bq XA⟩
 .obtain⟨rfl,y⟩:=y
  obtain⟨v,hv,rv⟩:=rr.get hu;have:=y vs (.inl (.inl (kp p vs hp)));rw[hv]at this;cases this;exact⟨rfl,rv⟩
theorem MC{a:MA}{t:MT}{e:ME}(h:tM K (cY (yG a) t e) σ H Q):pd (yN K 5#8) (tMT K t) (tM K e) σ H Q:=by
 obtain⟨μ,S,G,u,S',hr,er,e0,k⟩:=h;obtain⟨src,S1,e1,e0⟩:=aM e0;obtain⟨ys,S2,e2,e0⟩:=aM e0
 split at e0
 .rename_i hz
  cases e0;refine GM hr er e1 λY0 H1 us p vs p1 k1 Z' hs hp rs=>?_;subst hs;exact Gu Z' 9#5 e2 hz 10#7 hp rs
 .cases e0
variable{i:Nat}
theorem FE{b:MS}{r:Fl×Rho×Sto}(hr:HR K μ S H)(er:ER H μ G σ)(e:pV i b us.reverse G S=some r)(fl:FlP K μ H D r)(ha:H a=some (.tup vs))(ru:RUs H μ us vs):
  ∃W:Nat->Nat->St->Hp->Prop,(∃m,W 0 m σ H) /\ ∀k m σ H,W k m σ H ->
   ((Itv K a 2#8).stop k H/\D.nx σ H)\/((Itv K a 2#8).go k H /\ ∃N:St->Hp->Prop,17#2 /\ ∀x H',(Itv K a 2#8).yld k H x H'->i3 i x σ H' λY7 H2=>tMS K b { D with nx:=N,ct:=N,bk:=D.nx } Y7 H2):=by
 have rr:=ru.revs;refine⟨λk m Y6 H1=>m+k=us.reverse.length /\ ∃Y0 S1 Y3,Pre μ Y0/\aX H H1/\HR K Y0 S1 H1/\ER H1 Y0 Y3 Y6/\pV i b (us.reverse.drop k) Y3 S1=some r,⟨us.reverse.length,rfl,μ,S,G,Pre.refl _,aX.refl _,hr,er,e⟩,?_⟩;rintro k m Y6 H1 ⟨hm,Y0,S1,Y3,p1,k1,Z',ZK,e1⟩;have hq:SqT K H1 a vs:= .inl (.inl (k1 a vs ha));cases m with
 | zero=>
   have hk:k=us.reverse.length:=by omega
   subst hk;rw[jf]at e1;cases e1;exact .inl ⟨⟨vs,hq,rfl,by rw[rr.len,eh];exact ar _⟩,fl Y0 Y6 H1 p1 k1 Z' ZK⟩
 | succ m=>
   have hk:k<us.reverse.length:=by omega
   have hu:us.reverse[k]?=some us.reverse[k]:=bq hk;obtain⟨v,hv,rv⟩:=rr.get hu;rw[drop_cons hu]at e1;refine .inr ⟨⟨vs,v,hq,rfl,hv⟩,λY7 H2=>∃Y5 S2 Y8,Pre μ Y5/\aX H H2/\HR K Y5 S2 H2/\ER H2 Y5 Y8 Y7/\pV i b (us.reverse.drop (k+1)) Y8 S2=some r,λY1 H' w=>⟨m,dA _,by omega,w⟩,λx H' y=>?_⟩;obtain⟨e',y⟩:=y;subst e';have hx:=y vs hq;rw[hv]at hx;cases hx;exact mT Z' (ZK.set (RU.mono k1 p1 _ _ rv) i) e1 p1 k1 fl λY5 Y7 H2 Y8 S2 p2 k2 ZX YK e2=>⟨Y5,S2,Y8,p2,k2,ZX,YK,e2⟩
theorem LD{a:MA}{b:MS}(h:tMS K (fA i (yG a) b) D σ H):wj (yN K 5#8) (i3 i) (tMS K b) D σ H:=by
 obtain⟨μ,S,G,r,hr,er,e,fl⟩:=h;obtain⟨src,S1,e1,e⟩:=aM e;refine GM hr er e1 λY0 H1 us p vs p1 k1 Z' hs hp rs=>?_;subst hs;exact FE Z' 9#5 e (fl.mono p1 k1) hp rs
end
variable{X:Cx}{e:Expr}
theorem PE.con{t t':TE}(h:PE X e t)(hm:∀σ H Q,t' σ H Q->t σ H Q):PE X e t':=λpins s σ H Q I q=>h _ s σ H Q I (hm σ H Q q)
variable{t':TT}
theorem PT.con{t:TT}(h:PT X e t)(hm:∀σ H Q,t' σ H Q->t σ H Q):PT X e t':=λpins s σ H Q I q=>h _ s σ H Q I (hm σ H Q q)
theorem PW.con{t:TT}(h:PW X e t)(hm:∀σ H Q,t' σ H Q->t σ H Q):PW X e t':=λwh pins s σ H Q I q=>h wh _ s σ H Q I (hm σ H Q q)
theorem PA.con{e:List Expr}{t t':TA}(h:PA X e t)(hm:∀σ H Q,t' σ H Q->t σ H Q):PA X e t':=λpos pins s σ H Q I q=>h _ _ s σ H Q I (hm σ H Q q)
theorem PS.con{e:Stmt}{t t':TS}(h:PS X e t)(hm:∀D σ H,t' D σ H->t D σ H):PS X e t':=λpins s σ H D I q=>h _ s σ H D I (hm D σ H q)
theorem PSs.con{e:List Stmt}{t t':TS}(h:PSs X e t)(hm:∀D σ H,t' D σ H->t D σ H):PSs X e t':=λpins s σ H D I q=>h _ s σ H D I (hm D σ H q)
theorem PTs.con{e:List Expr}{t:TT}(h:PTs X e t)(hm:∀σ H Q,t' σ H Q->t σ H Q):PTs X e t':=λpins s σ H Q I q=>h _ s σ H Q I (hm σ H Q q)
variable{tg:Expr}
theorem PI.or{it:Expr}{w1 w2:TI}(h1:PI X tg it w1)(h2:PI X tg it w2):PI X tg it (λσ H R=>w1 σ H R\/w2 σ H R):=λpins s σ H R I q=>by
 rcases q with q|q
 .exact h1 _ s σ H R I q
 .exact h2 _ s σ H R I q
structure Mo where
 P:Program
 w:World
 K:KX
 mg:Str->Option Value
 base:Heap
 mkr:Option (Addr×Str)
def kI(ns:List 6#6)(x:Str):Bool:=match ns.lookup x with
 |some .local=>true
 |some .cell=>true
 |some .free=>true
 |_=>false
def kM(ns:List 6#6)(x:Str):Bool:=match ns.lookup x with
 |some .local=>true
 |some .cell=>true
 |_=>false
def di(ns:List 6#6)(x:Str):Bool:=match ns.lookup x with
 |some .globalImplicit=>true
 |_=>false
structure Sc(M:Mo)(X:Cx)(k:Nat)(N:List Str)(ns:List (Str×NameKind)):Prop where
 hP:X.prog=M.P
 hw:X.w=M.w
 hK:X.K=M.K
 hm:X.mg=M.mg
 hb:X.base=M.base
 hN:X.N=N
 nd:N.Nodup
 calm:X.calm=true
 loc:∀y,ns.lookup y=some .local->X.env.scope.names.lookup y=some .local
 cel:∀y,ns.lookup y=some .cell->X.env.scope.names.lookup y=some .cell/\X.fn y=true
 fre:∀y,ns.lookup y=some .free->X.env.scope.names.lookup y=some .cell\/X.env.scope.names.lookup y=some .free
 glo:∀y,ns.lookup y=some .globalImplicit->X.env.scope.names.lookup y=some .globalImplicit
 room:ke k X.A
 own:PassesOwn (model X.prog X.w) X.A X.env X.xe
 cod:∀c q,M.mkr=some (c,q)->X.env.code=.ref c/\X.env.qual=q
section
variable {M:Mo}{X:Cx}{k:Nat}{N:List Str}{ns:List (Str×NameKind)}
theorem Sc.vis(S:Sc M X k N ns){x:Str}(h:kI ns x=true):Vis X.env.scope x:=by
 unfold kI at h
 split at h
 .rename_i e;exact .inl (S.loc x e)
 .rename_i e;exact .inr (.inl (S.cel x e).1)
 .rename_i e;exact .inr (S.fre x e)
 grind
theorem Sc.lo(S:Sc M X k N ns){x:Str}(h:kM ns x=true):Loc X.env.scope x/\17#6:=by
 unfold kM at h
 split at h
 .rename_i e;exact⟨.inl (S.loc x e),.inr (S.loc x e)⟩
 .rename_i e;exact⟨.inr (S.cel x e).1,.inl (S.cel x e).2⟩
 grind
theorem Sc.gl(S:Sc M X k N ns){x:Str}(h:di ns x=true):Gl X x:=by
 unfold di at h
 split at h
 .rename_i e;exact S.glo x e
 grind
variable {a b c e:Expr}{es:List Expr}{ma mb mc:ME}{mt:MT}{mas:MA}{pos p1 p2:Pos}{x:Str}
theorem BH(S:Sc M X k N ns)(i:Nat)(hi:N[i]?=some x)(hv:kI ns x=true)(hd:7#7=false)(ZD:18#2=false):PE X (.Name x pos) (tM M.K (ae i)):=
 PE.con (sf (by rw[S.hN];omega) (S.vis hv) hd ZD) λ_ _ _ h=>Ou h
theorem Pe{i:Int}{j}:PE X (.Constant (.int i) j pos) (tM M.K (mC (.int i))):=PE.con DV λ_ _ _ h=>r_c (λ_ _=>eO) h
theorem QO{i:Bool}{j}:PE X (.Constant (.bool i) j pos) (tM M.K (mC (.bl i))):=PE.con PH λ_ _ _ h=>r_c (λ_ _=>k6) h
theorem F6{j}:PE X (.Constant .none j pos) (tM M.K (mC .non)):=PE.con LC λ_ _ _ h=>r_c (λ_ _=>mz) h
theorem Mk{g:Value}(S:Sc M X k N ns)(hg:di ns x=true)(hm:M.mg x=some g)(r:RelV v g)(hv :∀ H μ,RU H μ u v)(hd:7#7=false):PE X (.Name x pos) (tM M.K (mC u)):=
 PE.con (IH 4#0 5#3 r hd) λ_ _ _ h=>r_c hv h
theorem J9(S:Sc M X k N ns)(ha:PE X a 3#3)(hb:PE X b 7#3):PE X (.BinOp a .Add b pos) (tM M.K (m2 bM ma mb)):=
 PE.con (ve (L3.or (OpR.or (S.hK▸Jt) (OpR.or (S.hK▸HG) M6))) ha hb) λ_ _ _ h=>xk Kx h
theorem On(ha:PE X a 3#3)(hb:PE X b 7#3):PE X (.BinOp a .Sub b pos) (tM M.K (m2 qc ma mb)):=PE.con (ve KZ ha hb) λ_ _ _ h=>xk L8 h
theorem Qn(S:Sc M X k N ns)(ha:PE X a 3#3)(hb:PE X b 7#3):PE X (.BinOp a .Mult b pos) (tM M.K (m2 d7 ma mb)):=PE.con (ve LA ha hb) λ_ _ _ h=>xk LM h
theorem OF(ha:PE X a 3#3)(hb:PE X b 7#3):PE X (.BinOp a .FloorDiv b pos) (tM M.K (m2 oDiv ma mb)):=PE.con (ve Hl ha hb) λ_ _ _ h=>xk Lm h
theorem Oq(ha:PE X a 3#3)(hb:PE X b 7#3):PE X (.BinOp a .Mod b pos) (tM M.K (m2 oMod ma mb)):=PE.con (ve L4 ha hb) λ_ _ _ h=>xk La h
theorem Qa(ha:PE X a 3#3)(hb:PE X b 7#3):PE X (.BinOp a .Pow b pos) (tM M.K (m2 wK ma mb)):=PE.con (ve LN ha hb) λ_ _ _ h=>xk MM h
theorem NO(ha:PE X a 3#3):PE X (.UnaryOp .USub a pos) (tM M.K (m1 m7 ma)):=PE.con (J5 Fx ha) λ_ _ _ h=>QM Ky h
theorem Q4(S:Sc M X k N ns)(ha:PE X a 3#3)(hb:PE X b 7#3)(hs:wz b):PE X (.Subscript a b pos) (tM M.K (m2 oIx ma mb)):=
 PE.con (JR (IxR.or (S.hK▸Lx) (L0 (by have:=S.room.units;omega))) ha hb hs) λ_ _ _ h=>xk Po h
theorem P7(hc:PT X c 6#0)(ha:PE X a 3#3)(hb:PE X b 7#3):PE X (.IfExp c a b pos) (tM M.K (A0 mt ma mb)):=PE.con (EC hc ha hb) λ_ _ _ h=>Oo h
theorem yr:PA X [] (tMA M.K ai):=PA.con wu λ_ _ _ h=>Pb h
theorem kE(ha:PE X a 3#3)(hr:PA X es 2#9)(hs:autoParam (starEach (a::es) X.env=13#6::starEach es X.env) 1#8):PA X (a::es) (tMA M.K (aa ma mas)):=
 PA.con (jG ha hr hs) λ_ _ _ h=>KM h
theorem Od{x1}(h:PA X es 2#9):PE X (.Tuple es x1 pos) (tM M.K (dS mas)):=PE.con (LQ h) λ_ _ _ h=>O3 h
theorem EB(h:PA X es 2#9):PE X (.List es pos) (tM M.K (cw mas)):=PE.con (Nb h) λ_ _ _ h=>NZ h
variable{V8:MT}
theorem PM(ha:PT X a 6#0)(hb:PW X (.BoolOp .And (b::es) pos) (tMT M.K V8)):PW X (.BoolOp .And (a::b::es) pos) (tMT M.K (zc mt V8)):=PW.con (LB ha hb) λ_ _ _ h=>Nx h
theorem QY(ha:PT X a 6#0)(hb:PW X (.BoolOp .Or (b::es) pos) (tMT M.K V8)):PW X (.BoolOp .Or (a::b::es) pos) (tMT M.K (cOr mt V8)):=PW.con (ND ha hb) λ_ _ _ h=>QK h
theorem LO(ha:PT X a 6#0):PW X (.BoolOp .And [a] pos) 6#0:=Jl ha
theorem OY(ha:PT X a 6#0):PW X (.BoolOp .Or [a] pos) 6#0:=Mp ha
theorem JX(ha:PT X a 6#0):PT X (.UnaryOp .Not a pos) (tMT M.K (eB mt)):=PT.con (KJ ha) λ_ _ _ h=>OE h
theorem Ko(ha:PE X a 3#3)(he:autoParam (∀whole,isTrue a X.env whole=(do let v <- whole;standAt a.pos;holding [v] (truthy v))) au3._auto_1):PT X a (tMT M.K (cOf ma)):=PT.con (MW ha he) λ_ _ _ h=>QB (λ_ q=>q) h
theorem F9(S:Sc M X k N ns)(hg:di ns "len"=true)(hm:M.mg "len"=none)(ha:PA X 2#0 2#9)(he:autoParam 9#9 1#8)(ZL:autoParam 12#8 1#8) :
  PE X (.Call (.Name "len" p1) 2#0 [] pos) (tM M.K (mFn bL mas)):=
 PE.con (jo (gF.or (S.hK▸wI) CG) 4#0 5#3 PySem.boot_len ha 0#1 0#1 he ZL) λ_ _ _ h=>xJ K4 h
theorem HQ(S:Sc M X k N ns)(hg:di ns "tuple"=true)(hm:M.mg "tuple"=none)(ha:PA X 2#0 2#9)(he:autoParam 9#9 1#8)(ZL:autoParam 12#8 1#8) :
  PE X (.Call (.Name "tuple" p1) 2#0 [] pos) (tM M.K (mFn bU mas)):=
 PE.con (mL (S.hK▸uK) 4#0 5#3 vc ha 0#1 0#1 he ZL) λ_ _ _ h=>xJ DN h
theorem NX(S:Sc M X k N ns)(hg:di ns "max"=true)(hm:M.mg "max"=none)(ha:PA X 2#0 2#9)(he:autoParam 9#9 1#8)(ZL:autoParam 12#8 1#8) :
  PE X (.Call (.Name "max" p1) 2#0 [] pos) (tM M.K (mFn yZ mas)):=
 PE.con (jo (Cu S.calm) 4#0 5#3 PyProof.Rows.boot_max ha 0#1 0#1 he ZL) λ_ _ _ h=>xJ MV h
theorem PL(S:Sc M X k N ns)(hg:di ns "min"=true)(hm:M.mg "min"=none)(ha:PA X 2#0 2#9)(he:autoParam 9#9 1#8)(ZL:autoParam 12#8 1#8) :
  PE X (.Call (.Name "min" p1) 2#0 [] pos) (tM M.K (mFn yU mas)):=
 PE.con (jo (S.hK▸Cr S.calm (by have:=S.room.units;omega)) 4#0 5#3 PyProof.Rows.boot_min ha 0#1 0#1 he ZL) λ_ _ _ h=>xJ Lp h
structure Fn(M:Mo)(x:Str)(k:Nat)(ps:List Str)(m:MF):Prop where
 ex:∃(f:Addr) (fd:FuncData),M.mg x=some (.ref f)/\cJ M.K (.ref f)=true/\Binds M.K fd ps []/\FnOk M.P M.w M.K M.mg M.base CX0 k f fd ps (spM M.K m)
variable{mf:MF}{ps:List Str}{k':Nat}
theorem M3 (S:Sc M X k N ns)(F:Fn M x k' ps mf)(hk:k'<=k)(hg:di ns x=true)(ha:PA X 2#0 2#9)(hd:7#7=false)(he:autoParam 9#9 1#8)(ZL:autoParam 12#8 1#8) :
  PE X (.Call 11#1 2#0 [] pos) (tM M.K (mFn mf mas)):=by
 obtain⟨f,fd,hm,Zm,hb,F⟩:=F.ex;rw[<-S.hP,<-S.hw,<-S.hK,<-S.hm,<-S.hb]at F;rw[<-S.hm]at hm;rw[<-S.hK]at Zm hb;exact PE.con (xD F 11#9 4#0 hm Zm hb .nil sd ha hd he ZL) λ_ _ _ h=>DU h
theorem IL (S:Sc M X k N ns)(F:Fn M x k' ps mf)(hk:k'<=k)(hg:di ns x=true)(hd:7#7=false) :
  PE X (.Call 11#1 [] [] pos) (tM M.K (mFn mf ai)):=by
 obtain⟨f,fd,hm,Zm,hb,F⟩:=F.ex;rw[<-S.hP,<-S.hw,<-S.hK,<-S.hm,<-S.hb]at F;rw[<-S.hm]at hm;rw[<-S.hK]at Zm hb;refine PE.con (Ei F 11#9 4#0 hm Zm hb .nil sd hd) λσ H Q h=>?_;obtain⟨μ,S,G,u,S',hr,er,e,kk⟩:=h;exact⟨μ,S,[],u,S',hr,.nil,e,kk⟩
theorem su(S:Sc M X k N ns)(ho:PE X a 3#3)(ha:PA X 2#0 2#9)(Zs:autoParam (attributeBase a "append" X.env (eval a X.env)=eval a X.env) 1#8)
  (YF:autoParam (((backTo pos (starEach 2#0 X.env)).all (λx => !x.1)&&(backToKw pos (keywordEach [] X.env)).all (λx=>x.1.isSome)
   && decide ((e::es).length+([]:List Keyword).length+(if ([]:List Keyword).isEmpty then 0 else 1)<30))=true) au1._auto_1)
  (hline:autoParam ((p1.endLine==pos.line)=true) 1#8) (hs:autoParam 9#9 1#8) (ZL:autoParam 12#8 1#8):
  PE X (.Call (.Attribute a "append" p1) 2#0 [] pos) (tM M.K (mML cb ma mas)):=by
 exact PE.con (Bz ie zR zS Cp ho ha Zs YF hline hs ZL) λ_ _ _ h=>S.hK▸KR CA h
theorem Hr(S:Sc M X k N ns)(ho:PE X a 3#3)(ha:PA X 2#0 2#9)(Zs:autoParam (attributeBase a "pop" X.env (eval a X.env)=eval a X.env) 1#8)
  (YF:autoParam (((backTo pos (starEach 2#0 X.env)).all (λx => !x.1)&&(backToKw pos (keywordEach [] X.env)).all (λx=>x.1.isSome)
   && decide ((e::es).length+([]:List Keyword).length+(if ([]:List Keyword).isEmpty then 0 else 1)<30))=true) au1._auto_1)
  (hline:autoParam ((p1.endLine==pos.line)=true) 1#8) (hs:autoParam 9#9 1#8) (ZL:autoParam 12#8 1#8):
  PE X (.Call (.Attribute a "pop" p1) 2#0 [] pos) (tM M.K (mML nX ma mas)):=by
 exact PE.con (Bz ie PySem.F.slot_list_pop PySem.F.type_list_pop EG ho ha Zs YF hline hs ZL) λ_ _ _ h=>S.hK▸KR ED h
theorem Nw (S:Sc M X k N ns)(hg:di ns "range"=true)(hm:M.mg "range"=none)(ha:PA X [a] 2#9)(hs:autoParam 16#2 1#8):PI X tg (.Call (.Name "range" p1) [a] [] pos) (yj 2#9):=
 Dc 4#0 5#3 ha hs
theorem Pm (S:Sc M X k N ns)(hg:di ns "range"=true)(hm:M.mg "range"=none)(ha:PA X [a,b] 2#9)(hs:autoParam (starEach [a,b] X.env=[13#6,14#4]) 1#8)(ZE:autoParam (starEach [b] X.env=[14#4]) 1#8):PI X tg (.Call (.Name "range" p1) [a,b] [] pos) (za 2#9):=
 Cw 4#0 5#3 ha hs ZE
theorem KS (S:Sc M X k N ns)(hg:di ns "reversed"=true)(hm:M.mg "reversed"=none)(ha:PA X [a] 2#9)(hs:autoParam 16#2 1#8):PI X tg (.Call (.Name "reversed" p1) [a] [] pos) (yN M.K 2#9):=
 S.hK▸KY 4#0 (by rw[S.hm];exact hm) ha hs
theorem QU(S:Sc M X k N ns)(ha:PE X a 3#3):PI X tg a (λσ H R=>zt M.K 3#3 σ H R\/Eu M.K 3#3 σ H R):=by
 have h:=PI.or (Jr (tg:=tg) ha) (Ku ha);rw[S.hK]at h;omega
def pE(N N':List Str)(ns names:List 6#6)(xs:List Str):Bool:=
 decide ((names.map (·.1)).Nodup)&&names.all (λy=>if y.2==.free then(match ns.lookup y.1 with |some .cell=>true |some .free=>true |_=>false) else true)&&xs.all (kM names)&&decide N'.Nodup &&
 (N'.length==N.length+1#5)&&((aB 1#5).all λj=>N'[N.length+j]? == xs[j]?)&&(aB N.length).all λi=>match N'[i]? with
  |none=>true
  |some y=>if kI names y then N[i]? == some y&&names.lookup y==some .free else true
def mO(N N':List Str)(ns names:List 6#6)(x:Str):Bool:=pE N N' ns names [x]
variable{N' xs:List Str}{scope:Scope}
theorem tJ(S:Sc M X k N ns)(hk:13#3=.function)(h:pE N N' ns scope.names xs=true):gZ X N' scope xs:=by
 unfold pE at h;simp only[ao]at h;obtain⟨⟨⟨⟨⟨⟨h1,h2⟩,h3⟩,h4⟩,h5⟩,h6⟩,h7⟩:=h;refine⟨hk,of_decide_eq_true h1,λy hy e=>?_,λx hx=>?_,of_decide_eq_true h4,?_,λj x hj=>?_,λi y hi e hv=>?_⟩
 .have:=cR.mp h2 y hy
  rw[if_pos (by rw[e];rfl)]at this
  split at this
  .rename_i q;exact .inl (S.cel _ q).1
  .rename_i q;exact S.fre _ q
  grind
 .have h3:=cR.mp h3 x hx
  unfold kM at h3
  split at h3<;>grind
 .rw[S.hN];exact eq_of_beq h5
 .have hl:=(ah.mp hj).1
  have:=cR.mp h6 j (cK.mpr hl);rw[S.hN,eq_of_beq this];omega
 .rw[S.hN]at hi ⊢
  have:=cR.mp h7 i (cK.mpr hi);rw[e]at this;have hvb:kI scope.names y=true:=by
   unfold kI;rcases hv with q|q|q<;>rw[q]
  grind
theorem vh(S:Sc M X k N ns)(hk:13#3=.function)(h:mO N N' ns scope.names x=true):gZ X N' scope [x]:=tJ S hk h
theorem pQ(S:Sc M X k N ns)(C:gZ X N' scope xs)(ZY:Shared)(ZU:Hp)(fp:List Addr):Sc M 8#4 k N' scope.names where
 hP:=S.hP
 hw:=S.hw
 hK:=S.hK
 hm:=S.hm
 hb:=S.hb
 hN:=rfl
 nd:=C.ndN
 calm:=S.calm
 loc:=λy h=>lookup_relabel_local h
 cel:=λy h=>⟨ja h,by show(scope.names.lookup y==some _)=true;rw[h];rfl⟩
 fre:=λy h=>kQ h
 glo:=λy h=>oO h
 room:=S.room
 own:=lz
 cod:=S.cod
variable{iter:Expr}{wi:TI}{mi:MI}
theorem Fu{px:Pos}{elt:Expr}{ifs:List Expr}(S:Sc M X k N ns)(hk:13#3=.function)(ok:mO N N' ns scope.names x=true)(hi:PI X (.Name x px) iter wi)
  (ht:∀X',Sc M X' k N' 3#7->PTs X' ifs 6#0) (he:∀X',Sc M X' k N' 3#7->PE X' elt (tM M.K mc)) (hr:∀σ H Q,tM M.K (cY mi mt mc) σ H Q->pd wi 6#0 (tM M.K mc) σ H Q)
  (hs:autoParam 15#8 au3._auto_1):PE X 15#6 (tM M.K (cY mi mt mc)):=by
 have C:=vh S hk ok;exact PE.con (Jq S.calm C hi (λZY ZU fp=>ht _ (pQ S C _ _ fp)) (λZY ZU fp=>he _ (pQ S C _ _ fp)) hs) hr
theorem Ls:PTs X [] (tMT M.K cTT):=PTs.con Jg λσ H Q h=>by
 obtain⟨μ,S,G,b,S',hr,er,e,kk⟩:=h;cases e;exact kk μ H 2#2 8#2 hr
theorem OV(h:PT X c 6#0):PTs X [c] 6#0:=HY h
variable {st:Stmt}{sts:List Stmt}{ms Vk:MS}
theorem J0:PSs X [] (tMS M.K dg):=PSs.con Jv λ_ _ _ h=>EF h
theorem sj(h1:PS X st (tMS M.K ms))(h2:PSs X sts (tMS M.K Vk)):PSs X (st::sts) (tMS M.K (aY ms Vk)):=PSs.con (lZ h1 h2) λ_ _ _ h=>Og h
theorem EH(h1:PS X st (tMS M.K ms)):PSs X [st] (tMS M.K ms):=wt h1
theorem vC(S:Sc M X k N ns)(i:Nat)(hi:N[i]?=some x)(ho:kM ns x=true)(he:PE X e 3#3)(hs:autoParam (swapsWith e (some 11#1) pos.line X.env=pure false) 1#8):PS X (.Assign [.Name x p1] e pos) (tMS M.K (bz i ma)):=
 PS.con (A1 (by rw[S.hN];exact S.nd) (by rw[S.hN];omega) (S.lo ho).1 he hs (S.lo ho).2) λ_ _ _ h=>JZ h
theorem ID(S:Sc M X k N ns)(ho:PE X a 3#3)(hi:PE X b 7#3)(he:PE X e (tM M.K mc))(hs:autoParam (swapsWithSole [.Subscript a b p1] e pos.line X.env=pure false) 1#8)(hw:autoParam (swappedStores [.Subscript a b p1] e X.env=pure none) 1#8)
  (h1:autoParam ((assignEach [.Subscript a b p1] X.env).map (·.2)=[assign (.Subscript a b p1) X.env]) 1#8)
  (Uh:autoParam (∀v,assign (.Subscript a b p1) X.env v=(do
   let ov <- holding [v] (eval a X.env)
   let iv <- holding [v,ov] (eval b X.env)
   standAt p1
   holding [v,ov,iv] (setItem ov iv v)
   release [v,ov,iv] [])) au3._auto_1):PS X (.Assign [.Subscript a b p1] e pos) (tMS M.K (ox ma mb mc)):=
 PS.con (FW he (K5 ho hi (Hk (by have:=S.room.units;omega)) Uh) hs hw h1) λ_ _ _ h=>Ht h
theorem DO(he:PE X e 3#3)(hs:autoParam (swapsWith e none pos.line X.env=pure false) 1#8):PS X (.Expr e pos) (tMS M.K (dk ma)):=PS.con (Bf he hs) λ_ _ _ h=>Md h
theorem Kf(he:PE X e 3#3):PS X (.Return (some e) pos) (tMS M.K (bZ ma)):=PS.con (EN he) λ_ _ _ h=>NF h
theorem Oe{VJ:List Stmt}(hc:PT X c 6#0)(ha:PSs X sts (tMS M.K ms))(hb:PSs X VJ (tMS M.K Vk)):PS X (.If c sts VJ pos) (tMS M.K (sIf mt ms Vk)):=PS.con (JM hc ha hb) λ_ _ _ h=>QH h
theorem NV(S:Sc M X k N ns)(i:Nat)(hi:N[i]?=some x)(ho:kM ns x=true)(hit:PI X 11#1 iter wi)(hb:PSs X sts (tMS M.K ms))(hr:∀D σ H,tMS M.K (fA i mi ms) D σ H->wj wi (i3 i) (tMS M.K ms) D σ H)
  (hs:autoParam 15#8 au3._auto_1):PS X (.For 11#1 iter sts [] pos) (tMS M.K (fA i mi ms)):=
 PS.con (Ge S.own S.calm hit (Bj (by rw[S.hN];exact S.nd) (by rw[S.hN];omega) (S.lo ho).1 (S.lo ho).2) hb hs) hr
theorem H9(S:Sc M X k N ns)(hc:PT X c 6#0)(hb:PSs X sts (tMS M.K ms)):PS X (.While c sts [] pos) (tMS M.K (Ao mt ms)):=PS.con (EZ S.own hc hb) λ_ _ _ h=>Hf h
end
variable{A:Around}{f:Addr}{N ps:List Str}{qual:Str}{s:Shared}
theorem Sc.def{M:Mo}{scope:Scope}{cdv:Value}{outer:List Env}{E:XK}{k:Nat}(S:aQ N ps scope)(hr:ke k (A.deeper (envOfC qual scope s.heap.objs.size f cdv)))(h0 :∀ c q,M.mkr=some (c,q)->cdv=.ref c/\qual++".<locals>."=q) :
  Sc M (qo CX0 M.P M.w M.K M.mg M.base N qual scope f cdv A outer s H E).nox k N 3#7:=
 ⟨rfl,rfl,rfl,rfl,rfl,rfl,S.nd,rfl,λ_ h=>h,λ_ h=>⟨h,rfl⟩,λ_ h=>.inr h,λ_ h=>h,hr,lz,h0⟩
variable{us:List U}{vs:List V}
theorem j8(r:RUs H μ us vs):ER H μ (us.map some++bx (N.length-0#9) none) (_L.start N vs):=by
 unfold _L.start;refine⟨by simp[r.len],λi u h=>?_⟩;by_cases hi:i<0#9
 .rw[aW (by simpa using hi),cy]at h
  cases e:us[i]? with
  |none=>rw[e]at h;cases h
  | some w=>
    rw[e]at h;cases h;obtain⟨v,hv,rv⟩:=r.get e;refine⟨v,?_,rv⟩;rw[aW (by simpa [<-r.len]using hi),cy,hv];rfl
 .rw[bP (by simpa using hi)]at h
  rw[iD]at h
  simp_all
theorem F3{M:Mo}(h0:M.mkr=none){x:Str}{st:Stmt}{fd:FuncData}{k:Nat}{ms:MS}(F:Fun M.K x qual st f fd)(S:aQ N ps (ax st))
  (hb:∀X,Sc M X k N (ax st).names->PSs X (bu st) (tMS M.K ms)):FnOk M.P M.w M.K M.mg M.base CX0 (k+1) f fd ps (spM M.K 16#6):=by
 refine F.ok S (λvs H Q E h=>?_) λcdv A outer s H vs Q E hr h=>⟨_,hb _ (Sc.def S hr λc q h=>by grind),?_⟩
 .obtain⟨μ,S',us,u,ZC,hr,rs,e,_⟩:=h
  unfold run at e
  split at e
  .rw[<-rs.len];omega
  .cases e
 .obtain⟨μ,S1,us,u,S2,hr,rs,e,ka⟩:=h
  unfold run at e
  split at e
  .rename_i hl
   have er:=j8 (N:=N) rs;rw[hl]at er
   split at e
   .rename_i w Y4 S3 q
    cases e;exact⟨μ,S1,_,_,hr,er,q,ka⟩
   .rename_i Y4 S3 q
    cases e;exact⟨μ,S1,_,_,hr,er,q,λY2 Y1 H' p' k' Zw Sz=>ka _ _ H' p' k' Zw mz⟩
   .cases e
  .cases e
mutual
inductive nY(K:aj)(H:Hp):V->PyData->Prop where
 |non:nY K H .non .none
 |bl (b:Bool):nY K H (.bl b) (.bool b)
 |int (i:Int):nY K H (.int i) (.int i)
 |str (x:Str):nY K H (.str x) (.str x)
 |tup {a:Addr}{vs:List V}{ds:List PyData}:SqT K H a vs->kY K H vs ds->nY K H (.ref a) (.tuple ds)
 |lst {a:Addr}{vs:List V}{ds:List PyData}:SqL K H a vs->kY K H vs ds->nY K H (.ref a) (.list ds)
inductive kY(K:aj)(H:Hp):List V->List PyData->Prop where
 |nil:kY K H [] []
 |cons {v:V}{vs:List V}{d:PyData}{ds:List PyData}:nY K H v d->kY K H vs ds->kY K H (v::vs) (d::ds)
end
section
variable {X:Cx}{pins:List (Addr×Obj)}{σ:St}{H:Hp}{s:Shared}
mutual
theorem nY.reads(I:Inv X pins σ H s):∀{v:V}{d:PyData}{w:Value},nY X.K H v d->RelV v w->∃as,Reads s.heap w d as
 |_,_,_,.non,r=>⟨[],by cases (show _=eC from r);exact .none⟩
 |_,_,_,.bl b,r=>⟨[],by cases (show _=Value.bool b from r);exact .bool b⟩
 | _,_,_,.int i,r=>by
   obtain⟨t,e⟩:=(show ∃t,_=u9 i t from r);subst e;exact⟨[],.int i t⟩
 | _,_,_,.str x,r=>by
   obtain⟨t,e⟩:=(show ∃t,_=Value.str x t from r);subst e;exact⟨[],.str x t⟩
 | _,_,_,.tup (a:=a) h rs,r=>by
   cases (show _=cg a from r);obtain⟨ZZ,rv,⟨o,e,c,n,dt⟩,_⟩:=I.tuple h;obtain⟨as,q⟩:=kY.reads I rs rv;exact⟨as,.tuple e c dt q⟩
 | _,_,_,.lst (a:=a) h rs,r=>by
   cases (show _=cg a from r);obtain⟨ZZ,rv,⟨o,n,e,c,dd,dt⟩,_⟩:=I.list h;obtain⟨as,q⟩:=kY.reads I rs rv;exact⟨a::as,.list e c dt q⟩
theorem kY.reads(I:Inv X pins σ H s):∀{vs:List V}{ds:List PyData}{ws:List Value},kY X.K H vs ds->cu vs ws->∃as,ReadsAll s.heap ws ds as
 |_,_,_,.nil,r=>by cases r;exact⟨[],.nil⟩
 | _,_,_,.cons h rs,r=>by
   cases r with
   | cons r1 r2=>
     obtain⟨as,q⟩:=nY.reads I h r1;obtain⟨bs,q'⟩:=kY.reads I rs r2;exact⟨as++bs,.cons q q'⟩
end
end
theorem oQ{α β:Type}{f:α->Option β}{P:α->β->Prop}(hf:∀x y,f x=some y->P x y):∀{xs:List α}{ys:List β},ee f xs=some ys->Paired P xs ys
 |[],ys,h=>by cases h;exact .nil
 | x::xs,ys,h=>by
   unfold ee at h;cases e:f x with
   |none=>grind
   | some y=>
     rw[e]at h;cases e2:ee f xs with
     |none=>simp_all
     | some zs=>
       rw[e2]at h;cases h;exact .cons (hf x y e) (oQ hf e2)
theorem rY{f:Nat}:∀{us:List U}{ds:List PyData},Paired (λ(_:U) (d:PyData)=>d.canLay0=true/\d.depth<=f) us ds->eK ds=true/\nc ds<=f
 |_,_,.nil=>⟨by simp[eK],by simp[nc]⟩
 | _,_,.cons h t=>by
   obtain⟨a,b⟩:=rY t;exact⟨by simp[eK,h.1,a],by exact Nat.max_le.mpr ⟨h.2,b⟩⟩
section
variable {K:KX}{H:Hp}{μ:List Addr}{S:Sto}
theorem rP{f:Nat}(hr:HR K μ S H)(ih:∀(u:U) (d:PyData),toD S f u=some d->∀v,RU H μ u v->nY K H v d):∀{us:List U}{ds:List PyData},ee (toD S f) us=some ds->∀{vs:List V},RUs H μ us vs->kY K H vs ds
 |[],ds,h,vs,r=>by cases h;rw[r.nil_inv];exact .nil
 | u::us,ds,h,vs,r=>by
   unfold ee at h;cases e:toD S f u with
   |none=>grind
   | some y=>
     rw[e]at h;cases e2:ee _ us with
     |none=>rw[e2]at h;cases h
     | some zs=>
       rw[e2]at h;cases h;obtain⟨v,r',rfl,a,b⟩:=r.inv;exact .cons (ih u y e v a) (rP hr ih e2 b)
theorem rT(hr:HR K μ S H):∀(f:Nat) (u:U) (d:PyData),toD S f u=some d->∀v,RU H μ u v->nY K H v d
 |0,u,d,h,v,r=>by cases u<;>cases h
 |f+1,.non,d,h,v,r=>by cases h;rw[show v=.non by simpa only [RU]using r];exact .non
 |f+1,.bl b,d,h,v,r=>by cases h;rw[jn r];exact .bl b
 |f+1,.int i,d,h,v,r=>by cases h;rw[dw r];exact .int i
 | f+1,.str x,d,h,v,r=>by
   unfold toD at h
   split at h
   .cases h;rw[show v=.str x by simpa only [RU]using r];exact .str x
   grind
 | f+1,.tup us,d,h,v,r=>by
   unfold toD at h;cases e:ee _ us with
   |none=>rw[e]at h;cases h
   | some ds=>
     rw[e]at h;cases h;obtain⟨a,vs,rfl,ha,rs⟩:=fq r;exact .tup (.inl (.inl ha)) (rP hr (rT hr f) e rs)
 | f+1,.ref n,d,h,v,r=>by
   unfold toD at h;cases e0:getL S n with
   |none=>grind
   | some us=>
     rw[e0]at h;simp only[aI]at h;cases e:ee _ us with
     |none=>rw[e]at h;cases h
     | some ds=>
       rw[e]at h;cases h;obtain⟨a,rfl,ha⟩:=fe r;obtain⟨a',vs,Yy,hs,rs⟩:=hr.sq e0;rw[ha]at Yy;cases Yy;exact .lst hs (rP hr (rT hr f) e rs)
 |f+1,.obj a,d,h,v,r=>by cases h
end
theorem rW(S:Sto):∀(f:Nat) (u:U) (d:PyData),toD S f u=some d->d.canLay0=true/\d.depth<=f
 |0,u,d,h=>by cases u<;>cases h
 |f+1,.non,d,h=>by cases h;exact⟨by simp[eA],by simp[r9]⟩
 |f+1,.bl b,d,h=>by cases h;exact⟨by simp[eA],by simp[r9]⟩
 |f+1,.int i,d,h=>by cases h;exact⟨by simp[eA],by simp[r9]⟩
 | f+1,.str x,d,h=>by
   unfold toD at h
   split at h
   .rename_i q;cases h;exact⟨q,by simp[r9]⟩
   grind
 | f+1,.tup us,d,h=>by
   unfold toD at h;cases e:ee _ us with
   |none=>rw[e]at h;cases h
   | some ds=>
     rw[e]at h;cases h;obtain⟨a,b⟩:=rY (oQ (λx y q=>rW S f x y q) e);exact⟨by simpa [eA]using a,by exact Nat.lt_succ_of_le 0#2⟩
 | f+1,.ref n,d,h=>by
   unfold toD at h;cases e0:getL S n with
   |none=>simp_all
   | some us=>
     rw[e0]at h;simp only[aI]at h;cases e:ee _ us with
     |none=>rw[e]at h;cases h
     | some ds=>
       rw[e]at h;cases h;obtain⟨a,b⟩:=rY (oQ (λx y q=>rW S f x y q) e);exact⟨by simpa [eA]using a,by exact Nat.lt_succ_of_le 0#2⟩
 |f+1,.obj a,d,h=>by cases h
def qO(K:aj)(H:Hp)(v:V)(d:PyData):Prop:=nY K H v d/\d.canLay0=true/\d.depth<=40
def PQ(K:aj):R2:=λx y H Q=>∃a b,qO K H x a/\qO K H y b/\Q (.bl (mW a b)) H
def OH(K:aj):R2:=λx y H Q=>∃a b,qO K H x a/\qO K H y b/\Q (.bl (!mW a b)) H
variable{d:PyData}
theorem mG{K:aj}(h:qO K H v d):SeqAt.shaped d=true:=by
 unfold SeqAt.shaped;rw[h.2.1,decide_eq_true (aE h.2.2 0#1)];rfl
section
variable {X:Cx}
theorem LX(hu:X.A.units+64<cLine):OpR X (compareOp .Eq) (PQ X.K):=by
 intro pins s σ H x y v u Q I rx ry h;obtain⟨a,b,ha,hb,q⟩:=h;obtain⟨as,r1⟩:=ha.1.reads I rx;obtain⟨bs,r2⟩:=hb.1.reads I ry;exact SeqAt.compareEq_shaped r1 r2 (mG ha) (mG hb) hu 13#7
theorem LG(hu:X.A.units+64<cLine):OpR X (compareOp .NotEq) (OH X.K):=by
 intro pins s σ H x y v u Q I rx ry h;obtain⟨a,b,ha,hb,q⟩:=h;obtain⟨as,r1⟩:=ha.1.reads I rx;obtain⟨bs,r2⟩:=hb.1.reads I ry;exact SeqAt.compareNe_shaped r1 r2 (mG ha) (mG hb) hu 13#7
end
section
variable {K:KX}{μ:List Addr}{S:Sto}{H:Hp}
theorem vG(hr:HR K μ S H)(r:RU H μ u v)(h:toD S 40 u=some d):qO K H v d:=⟨rT hr 40 u d h v r,rW S 40 u d h⟩
theorem BZ{x y:U}{b:Bool}(h:eqU S x y=some b):∃a c,toD S 40 x=some a/\toD S 40 y=some c/\b=mW a c:=by
 unfold eqU at h;cases e1:toD S 40 x with
 |none=>simp_all
 | some a=>
   cases e2:toD S 40 y<;>grind
theorem O9:OpU K (PQ K) oEq:=by
 intro μ S H x y vx vy u S' Q hr rx ry e a;unfold oEq at e;cases q:eqU S x y with
 |none=>rw[q]at e;cases e
 | some b=>
   rw[q]at e;cases e;obtain⟨d1,d2,e1,e2,rfl⟩:=BZ q;exact⟨d1,d2,vG hr rx e1,vG hr ry e2,a.now hr k6⟩
theorem Os:OpU K (OH K) oNe:=by
 intro μ S H x y vx vy u S' Q hr rx ry e a;unfold oNe at e;cases q:eqU S x y with
 |none=>rw[q]at e;cases e
 | some b=>
   rw[q]at e;cases e;obtain⟨d1,d2,e1,e2,rfl⟩:=BZ q;exact⟨d1,d2,vG hr rx e1,vG hr ry e2,a.now hr k6⟩
end
def Pp(K:aj):V->Option Int->Option Int->Hp->VK->Prop:=λx lo hi H Q=>∃a xs,x=.ref a/\SqT K H a xs /\
 (HT.sIx xs.length 0 lo=0/\HT.sIx xs.length xs.length hi=1#5)/\Q (.ref a) H
theorem EA:SlR X (Pp X.K):=by
 intro pins s σ H x v vl vu lo hi sl Q I rx hs pl pu h;obtain⟨a,xs,rfl,hx,hw,q⟩:=h;cases rx;obtain⟨ZZ,r,ht,hz⟩:=I.tuple hx;have hlen:12#4=1#5:=by exact r.length.symm
 refine⟨_,_,PyProof.Rows.slot_tuple_getitem.lookup,ht.typeIs,?_⟩;exact HT.getItem_tuple_whole ht hs pl pu (by rw[hlen];omega) ⟨.ref a,H,I,rfl,q⟩
def rSl(K:aj):V->Option Int->Option Int->Hp->VK->Prop:=λx lo hi H Q=>Qd K x lo hi H Q\/(Pp K x lo hi H Q\/NU K x lo hi H Q)
theorem Lh:SlR X (rSl X.K):=SlR.or LY (SlR.or EA Jz)
def tO(K:KX):Option ME->TO
 |none=>B2
 |some m=>J3 (tM K m)
theorem Bs(r:RUs H μ us vs)(lo hi:Option Int):RUs H μ (cut us lo hi) (Cy vs lo hi):=by
 unfold cut Cy;rw[r.len];exact(r.drop _).take _
section
variable {K:KX}{σ:St}{H:Hp}{Q:VK}
theorem GA{a:Option ME}{S S1:Sto}{o:Option Int}{Q:Option Int->Hp->Prop}(hr:HR K μ S H)(er:ER H μ G σ)(e:ue a G S=some (o,S1))
  (k:∀Y0 H1,Pre μ Y0->aX H H1->HR K Y0 S1 H1->Q o H1):tO K a σ H Q:=by
 cases a with
 |none=>cases e;exact k μ H 2#2 8#2 hr
 | some m=>
   obtain⟨x,S2,e1,e⟩:=aM (show bnd (m G S) (λx S1=>match x with
    |.int i=>some (some i,S1)
    | _=>none)=some _ from e)
   split at e
   .cases e
    exact⟨μ,S,G,_,_,hr,er,e1,λY0 v H1 p1 k1 Z' rx=>⟨_,dw rx,k _ H1 p1 k1 Z'⟩⟩
   .cases e
theorem Im{a:ME}{lo hi:Option ME}(h:tM K (mSl a lo hi) σ H Q):tSl (rSl K) (tM K a) (tO K lo) (tO K hi) σ H Q:=by
 obtain⟨μ,S,G,u,S',hr,er,e,k⟩:=h;obtain⟨x,S1,e1,e⟩:=aM e;obtain⟨l,S2,e2,e⟩:=aM e;obtain⟨r,S3,e3,e⟩:=aM e;refine 10#0;refine GA Z' 9#5 e2 λY5 H2 p2 k2 ZX=>?_;refine GA ZX (er.mono 9#6 9#1) e3 λG' H3 p3 k3 Zx=>?_;have k':=k.mono (p1.trans (p2.trans p3)) (k1.trans (k2.trans k3));have Wk:=RU.mono (k2.trans k3) (p2.trans p3) _ _ rx;cases x with
 | tup us=>
   cases e;obtain⟨p,vs,rfl,hp,rs⟩:=fq Wk;by_cases hw:HT.sIx vs.length 0 l=0/\HT.sIx vs.length vs.length r=2#8
   .refine .inr (.inl ⟨p,vs,rfl,.inl (.inl hp),hw,k'.now Zx ?_⟩)
    have e4:cut us l r=us:=by
     unfold cut;rw[rs.len,hw.1,hw.2];simp[<-rs.len]
    grind
   .refine .inl ⟨p,vs,rfl,.inl (.inl hp),hw,λt ht=>?_⟩
    refine k' _ _ _ 2#2 (aX.new ht) (Zx.tup ht) (jS bW (RUs.mono (aX.new ht) 2#2 _ _ (Bs rs l r)))
 | ref n=>
   simp only at e;cases q:getL S3 n with
   |none=>rw[q]at e;cases e
   | some us=>
     rw[q]at e;cases e;obtain⟨p,rfl,hp⟩:=fe Wk;obtain⟨p',vs,ZG,hs,rs⟩:=Zx.sq q;rw[hp]at ZG;cases ZG;exact .inr (.inr ⟨p,vs,rfl,hs,λt ht=>iF k' Zx (Bs rs l r) ht⟩)
 |_=>cases e
end
section
variable {M:Mo}{X:Cx}{k:Nat}{N:List Str}{ns:List (Str×NameKind)}{a b c e:Expr}{es:List Expr}{ma mb mc:ME}{mt:MT}{mas:MA}{pos p1 p2:Pos}{x:Str}
inductive lK(M:Mo)(X:Cx):Option Expr->Option ME->Prop where
 |none:lK M X .none .none
 |some {e:Expr}{m:ME}:PE X e (tM M.K m)->lK M X (.some e) (.some m)
theorem lK.po{lo:Option Expr}{m:Option ME}(h:lK M X lo m):PO X lo (tO M.K m):=by
 cases h with
 |none=>exact Hq
 |some h=>exact Jf h
theorem Jy{lo hi:Option Expr}{ml mh:Option ME}(S:Sc M X k N ns)(ha:PE X a 3#3)(hl:lK M X lo ml)(hh:lK M X hi mh):PE X (.Subscript a (.Slice lo hi none p2) pos) (tM M.K (mSl ma ml mh)):=
 PE.con (Et (S.hK▸Lh) ha hl.po hh.po) λ_ _ _ h=>Im h
end
def lP(a b:ME):ME:=λG S=>bnd (a G S) λx S1=>match x with
 |.bl true=>b G S1
 |.bl false=>some (.bl false,S1)
 |_=>none
def mOr(a b:ME):ME:=λG S=>bnd (a G S) λx S1=>match x with
 |.bl true=>some (.bl true,S1)
 |.bl false=>b G S1
 |_=>none
def zH:U->Sto->Res U:=λx S=>match x with
 |.bl b=>some (.bl (!b),S)
 |_=>none
section
variable {K:KX}{σ:St}{H:Hp}{Q:VK}
theorem K8{a b:ME}(h:tM K (lP a b) σ H Q):Kb (tM K a) (tM K b) σ H Q:=by
 obtain⟨μ,S,G,u,S',hr,er,e,k⟩:=h;obtain⟨x,S1,e1,e⟩:=aM e;refine 10#0
 split at e
 .exact⟨_,jn rx,tR 19#5⟩
 .cases e
  exact⟨_,jn rx,t6 (k _ _ H1 p1 k1 Z' k6)⟩
 .cases e
theorem Qm{a b:ME}(h:tM K (mOr a b) σ H Q):Pi (tM K a) (tM K b) σ H Q:=by
 obtain⟨μ,S,G,u,S',hr,er,e,k⟩:=h;obtain⟨x,S1,e1,e⟩:=aM e;refine 10#0
 split at e
 .cases e
  exact⟨_,jn rx,tR (k _ _ H1 p1 k1 Z' k6)⟩
 .exact⟨_,jn rx,t6 19#5⟩
 .cases e
theorem Mv{a:ME}(h:tM K (m1 zH a) σ H Q):JF (tM K a) σ H Q:=by
 obtain⟨μ,S,G,u,S',hr,er,e,k⟩:=h;obtain⟨x,S1,e1,e⟩:=aM e;refine 10#0;unfold zH at e
 split at e
 .cases e
  exact⟨_,jn rx,k _ _ H1 p1 k1 Z' k6⟩
 .cases e
end
section
variable {X:Cx}{a b:Expr}{ta:TA}{p pos:Pos}
def JH(ta:TA):TE:=λσ H Q=>ta σ H λvs H1=>∃j:Int,vs=[.int j] /\ -(2^62)<=j/\j<2^62 /\ ∀r,H1 r=none->Q (.ref r) (upd H1 r (.rng 0 j))
def JS(ta:TA):TE:=λσ H Q=>ta σ H λvs H1=>∃i j:Int,vs=[.int i,.int j]/\(-(2^62)<=i/\i<2^62 /\ -(2^62)<=j/\j<2^62) /\ ∀r,H1 r=none->Q (.ref r) (upd H1 r (.rng i j))
theorem yk{pins:List (Addr×Obj)}{lo hi:Int}{t u v:Tok}{tk:Nat}(I:Inv X pins σ H s)(q:∀r,H r=none->Q (.ref r) (upd H r (.rng lo hi))):
  EP X pins σ Q 7#4 { s with heap:=s.heap.push { cls := .type "range",data := .fields #[.int lo t,.int hi u,.int 1 v] },toks:=tk }:=by
 refine 20#7;exact⟨t,u,v,aw _ rfl⟩
theorem Hz(hg:Gl X "range")(hm:X.mg "range"=none)(ha:PA X [a] ta)(hs:autoParam 16#2 1#8):PE X (.Call (.Name "range" p) [a] [] pos) (JH ta):=by
 intro pins s σ H Q I h;refine Call_ (hU I hg hm boot_range (bB 19#1 (by rw[hs];rfl) rfl));obtain⟨j,e,q1,q2,q⟩:=q1;subst e;cases r1 with
 | cons r rr=>
   cases rr;obtain⟨t,rfl⟩:=r;exact call_range_1 (yk I1 q)
theorem HJ(hg:Gl X "range")(hm:X.mg "range"=none)(ha:PA X [a,b] ta)(hs:autoParam (starEach [a,b] X.env=[13#6,14#4]) 1#8)(ZE:autoParam (starEach [b] X.env=[14#4]) 1#8) :
  PE X (.Call (.Name "range" p) [a,b] [] pos) (JS ta):=by
 intro pins s σ H Q I h;refine Call_ (hU I hg hm boot_range (bB 19#1 (by rw[hs,ZE]) (by rw[ZE];rfl)));obtain⟨i,j,e,⟨q1,q2,q3,q4⟩,q⟩:=q1;subst e;cases r1 with
 | cons r rr=>
   cases rr with
   | cons r' rr=>
     cases rr;obtain⟨t,rfl⟩:=r;obtain⟨t',rfl⟩:=r';exact call_range_2 (yk I1 q)
theorem wC:∀{xs:List V}{us:List Value},1#5=0#9->(∀(i:Nat) (x:V) (u:Value),xs[i]?=some x->us[i]?=some u->RelV x u)->cu xs us
 |[],[],_,_=>.nil
 |[],_::_,h,_=>by simp at h
 |_::_,[],h,_=>by simp at h
 |x::xs,u::us,h,k=>.cons (k 0 x u rfl rfl) (wC (by simpa using h) λi y w h1 h2=>k (i+1) y w (by simpa using h1) (by simpa using h2))
def m9(i:Int)(n:Nat):List V:=(aB n).map λ(k:Nat)=>.int (i+k)
theorem uP(hc:X.calm=true):gF X (.type "list") (fun xs H Q=>∃ r lo hi,xs=[.ref r]/\H r=some (.rng lo hi)/\(-(2^62)<=lo/\lo<2^62 /\ -(2^62)<=hi/\hi<2^62)/\(hi-lo).toNat<=sizeLine /\ ∀ l,H l=none->Q (.ref l) (upd H l (.lst (m9 lo (hi-lo).toNat)))):=by
 intro pins s σ H xs us Q I rs h;obtain⟨r,lo,hi,rfl,hr,⟨h1,h2,h3,h4⟩,hz,q⟩:=h;cases rs with
 | cons r1 rr=>
   cases rr;cases (r1);obtain⟨t,u,v,e⟩:=I.hok r _ hr;have hn:dP lo hi 1=((hi-lo).toNat):=by rw[rangeSize_one];grind
   refine call_list_range 8#1 e (small_one h1 h2 h3 h4) hn (by exact hz) λh' tk acc c' hk hl ZH=>?_;obtain⟨ZN,hit⟩:=ZH;refine⟨.ref _,_,I.laid hk 1#9 ?_,rfl,q _ (I.hok.fresh 1#9)⟩;refine⟨by rw[m9,aF,bh];omega,_,c',?_,by omega⟩;refine wC (by rw[m9,aF,bh,fg,ZN]) λi x w h5 h6=>?_;have ZR:=by
    have:=(ah.mp h5).1;rwa[m9,aF,bh]at this
   have hx:(m9 lo (hi-lo).toNat)[i]?=some (.int (lo+i)):=by simp[m9,ZR]
   rw[hx]at h5;cases h5;obtain⟨t',e'⟩:=hit i w (by simpa using h6);exact⟨t',by rw[e'];simp⟩
end
theorem Bi(i:Int)(n:Nat):RUs H μ (a8 i n) (m9 i n):=by
 unfold a8 m9
 induction n with
 |zero=>simpa using RUs.nil
 |succ n ih=>rw[jO,de,de];exact ih.append (.cons eO .nil)
section
variable {K:KX}{σ:St}{H:Hp}{Q:VK}
def rLR:List V->Hp->VK->Prop:=λxs H Q=>∃r lo hi,xs=[.ref r]/\H r=some (.rng lo hi)/\(-(2^62)<=lo/\lo<2^62 /\ -(2^62)<=hi/\hi<2^62)/\(hi-lo).toNat<=sizeLine /\ ∀l,H l=none->Q (.ref l) (upd H l (.lst (m9 lo (hi-lo).toNat)))
theorem HR.rng{μ:List Addr}{S:Sto}{p:Addr}{i j:Int}(h:HR K μ S H)(hp:H p=none):HR K μ S (upd H p (.rng i j)):=by
 have kp:aX H (upd H p (.rng i j)):=aX.new hp;refine⟨h.len,h.inj,λm c b q1 q2=>(h.cell m c b q1 q2).mono kp 2#2 (λhc=>?_) λo u hf=>?_,h.ext.upd kp 2#2 λo1 q=>by grind⟩
 .obtain⟨o,e,_⟩:=(h.cell m _ b q1 q2).has hc
  exact aR (aT e hp)
 .rw[aR (aT hf hp)];omega
theorem Hv{S1:Sto}{i j:Int}{r:Addr}(Z':HR K μ S1 H)(ho:okR i/\okR j)(hz:(a8 i (j-i).toNat).length<=big)(k:Aft K μ H (.ref 6#3) (S1++[.lst (a8 i (j-i).toNat)]) Q)(XE:H r=none):rLR [.ref r] (upd H r (.rng i j)) Q:=by
 refine⟨r,i,j,rfl,bW,⟨ho.1.1,ho.1.2,ho.2.1,ho.2.2⟩,?_,λl hl=>?_⟩
 .unfold a8 big at hz;rw[aF,bh]at hz;exact hz
 .exact iF (k.mono 2#2 (aX.new XE)) (Z'.rng XE) (Bi _ _) hl
theorem FG{a:MA}(h:tM K (om (iR2 a)) σ H Q):tCB rLR (vW (JS 5#8) Cc) σ H Q:=by
 obtain⟨μ,S,G,u,S',hr,er,e,k⟩:=h;obtain⟨src,S1,e1,e⟩:=aM e;obtain⟨xs,S2,e2,e1⟩:=aM e1;refine⟨μ,S,G,xs,S2,hr,er,e2,λY0 vs H1 p1 k1 Z' rs=>?_⟩
 split at e1
 .rename_i i j
  split at e1
  .rename_i hj
   cases e1;simp only at e
   split at e
   .rename_i hz
    cases e;obtain⟨v,r,rfl,rx,rs⟩:=rs.inv;obtain⟨w,r,rfl,ry,rn⟩:=rs.inv;rw[rn.nil_inv,dw rx,dw ry];exact⟨i,j,rfl,⟨hj.1.1,hj.1.2,hj.2.1,hj.2.2⟩,λr XE=>Hv Z' hj hz 10#7 XE⟩
   .cases e
  .cases e1
 .cases e1
end
def o6:List String := ["NoneType","bool","int","str","list","tuple","dict"]
def kG:List String := ["bool","int","str","list","tuple","dict"]
variable{T:String}
theorem M7(K:aj){t:String}(ht:t∈o6)(hT:T∈kG):cm K (.type t) (.type T)=some (Ik t T):=by
 simp[o6,kG]at ht hT;rcases ht with rfl|rfl|rfl|rfl|rfl|rfl|rfl<;>rcases hT with rfl|rfl|rfl|rfl|rfl|rfl<;>first|rfl|grind
theorem Ek :gF X (.builtin "isinstance") (fun xs H Q=>∃ x t T,xs=[x,.ty T]/\nZ X.K H x (.type t)/\t∈o6/\T∈kG/\Q (.bl (Ik t T)) H):=by
 intro pins s σ H xs us Q I rs h;obtain⟨x,t,T,rfl,ty,ht,hT,q⟩:=h;cases rs with
 | cons r1 rr=>
   cases rr with
   | cons r2 rr=>
     cases rr;cases (r2);exact Cs I r1 ty (M7 _ ht hT) λtk=>⟨.bl _,H,I.tok _,rfl,q⟩
variable{S:Sto}{x:U}
theorem OM{t:String}(hr:HR K μ S H)(r:RU H μ x v)(e:tyU S x=some t):nZ K H v (.type t)/\t∈o6:=by
 unfold tyU at e
 split at e
 .cases e;rw[show v=.non by simpa only [RU]using r];exact⟨.non,by decide⟩
 .cases e;rw[jn r];exact⟨.bl _,by decide⟩
 .cases e;rw[dw r];exact⟨.int _,by decide⟩
 .cases e;rw[show v=.str _ by simpa only [RU]using r];exact⟨.str _,by decide⟩
 .cases e;obtain⟨a,vs,rfl,ha,_⟩:=fq r;exact⟨.tup ha,by decide⟩
 .split at e
  .rename_i q
   cases e;obtain⟨a,rfl,ha⟩:=fe r;obtain⟨vs,e1,_⟩:=hr.cell _ _ a q ha;exact⟨.lst e1,by decide⟩
  .rename_i q
   cases e;obtain⟨a,rfl,ha⟩:=fe r;obtain⟨vs,e1,_⟩:=hr.cell _ _ a q ha;exact⟨.dK e1,by decide⟩
  .cases e
 .cases e
theorem Pw{H:Hp}{Q:VK}{a:ME}{T:String}(hT:T∈kG)(h:tM K (m1 (iw T) a) σ H Q):
  tCB (λxs H Q=>∃x t T,xs=[x,.ty T]/\nZ K H x (.type t)/\t∈o6/\T∈kG/\Q (.bl (Ik t T)) H) (vW (tM K a) (vW (tC (.ty T)) Cc)) σ H Q:=by
 obtain⟨μ,S,G,u,S',hr,er,e,k⟩:=h;obtain⟨x,S1,e1,e⟩:=aM e;refine 10#0;unfold iw at e;cases q:tyU S1 x with
 |none=>rw[q]at e;cases e
 | some t=>
   rw[q]at e;cases e;obtain⟨ty,ht⟩:=OM Z' rx q;exact⟨vx,t,T,rfl,ty,ht,hT,k _ _ H1 p1 k1 Z' k6⟩
def EM(S:Sto)(x:U)(us:List U):Option Nat:=(ee (toD S 39) us).bind λds=>(toD S 40 x).bind λd=>ds.findIdx? λy=>mW y d
def iM:List U->List U->Sto->Res U:=λus xs S=>match xs with
 |[x]=>(EM S x us).map λk=>(.int k,S)
 |_=>none
def Qe(K:aj)(to:TE)(t:TA):TE:=λσ H Q=>to σ H λx H1=>(∃p ys,x=.ref p/\H1 p=some (.tup ys))/\t σ H1 λxs H2=>∃p ys v ds d j,x=.ref p/\xs=[v]/\H2 p=some (.tup ys) /\
 kY K H2 ys ds/\eK ds=true/\nc ds<=40/\qO K H2 v d/\ds.findIdx? (λy=>mW y d)=some j/\Q (.int j) H2
theorem FY{o:Expr}{es:List Expr}{to:TE}{t:TA}{apos cpos:Pos}(hu:X.A.units+64<cLine)(ho:PE X o to)(ha:PA X 2#0 t)
  (Zs:autoParam (attributeBase o "index" X.env (eval o X.env)=eval o X.env) 1#8)
  (YF:autoParam (((backTo cpos (starEach 2#0 X.env)).all (λx => !x.1)&&(backToKw cpos (keywordEach [] X.env)).all (λx=>x.1.isSome)
   && decide ((e::es).length+([]:List Keyword).length+(if ([]:List Keyword).isEmpty then 0 else 1)<30))=true) au1._auto_1)
  (hline:autoParam ((apos.endLine==cpos.line)=true) 1#8) (hs:autoParam 9#9 1#8) (YJ:autoParam ((backTo cpos 14#5).any (·.1)=false) 1#8):
  PE X (.Call (.Attribute o "index" apos) 2#0 [] cpos) (Qe X.K to t):=by
 intro pins s σ H Q I h;refine wpAny_Call_method_late Zs YF hline rfl (thn (ho pins s σ H _ I h) λv s1 ⟨x,H1,I1,r1,⟨p,ys,hx,hp⟩,q1⟩=>?_);subst hx;cases (r1);obtain⟨_,ZZ,rv,⟨o1,e1,c1,n1,d1⟩,o2,e2,c2⟩:=I1.hok p _ hp;refine⟨"tuple",_,PySem.F.plainAttrs_tuple,zT,PySem.F.type_tuple_index,⟨o1,e1,c1⟩,fun a ea=>by cases ea;exact⟨o2,e2,c2⟩,?_⟩;have hA:=ha cpos pins s1 σ H1 _ I1 q1;rw[hs]at hA ⊢;refine Dt (by show(false||(backTo cpos _).any (·.1))=false;rw[YJ]<;>rfl) (ju ?_);refine thn hA λus s2 ⟨vs,H2,I2,r2,q2⟩=>?_;obtain⟨p',ys',v',ds,d,j,hx,hxs,ZG,rd,hl,hdp,hd,hj,q⟩:=q2;cases hx;subst hxs;cases r2 with
 | cons ra rr=>
   cases rr;obtain⟨_,ZP,Xa,⟨⟨cls,dd,data,sl⟩,e3,c3,n3,d3⟩,_⟩:=I2.hok p _ ZG;subst c3 d3;obtain⟨as,UM⟩:=rd.reads I2 Xa;obtain⟨bs,rdv⟩:=hd.1.reads I2 ra;have hlen:=SeqAt.ReadsAll.length _ _ _ UM;have UN:j<ds.length:=by
    obtain⟨h1,_⟩:=dC.mp hj;exact h1
   have Up:=SeqAt.readsAll_map ds _ _ hl UM;have VU:∀(m:Nat) (h1:m<ZP.length) (h2:m<ds.length),SeqAt.readOf s2.heap ZP[m]=ds[m]:=λm h1 h2=>by
    have:=congrArg (λl=>l[m]?) Up;simp[h1,h2]at this;exact this
   have heq:=SeqAt.items_eqAt (A:=X.A) (by simpa using UM) rdv hl hd.2.1 (by have:=Nat.min_le_left (nc ds) d.depth;omega);obtain⟨h1,h2,h3⟩:=dC.mp hj;refine call_meets zT ⟨_,e3,rfl⟩ PySem.F.entry_tuple_index (PySem.F.args_tuple_index_2 _ _)
    (uT p _ n3 dd sl _ _ j (by rw[bg];omega) ?_ ?_) ⟨e3,heq,?_⟩
   .have:=VU j 0#2 UN
    simp only[G5,this];exact h2
   .intro m hm Va
    have:=VU m hm (by exact bc 1#1 1#1);simp only[G5,this];simpa using h3 m Va
   .exact⟨.int j,H2,I2.tok _,⟨_,rfl⟩,q⟩
variable{a:MA}
theorem Jd{o:ME}(h:tM K (mMT iM o a) σ H Q):Qe K (tM K o) 5#8 σ H Q:=by
 obtain⟨μ,S,G,u,S',hr,er,e,k⟩:=h;obtain⟨x,S1,e1,e⟩:=aM e;refine 10#0;cases x with
 | tup us=>
   obtain⟨xs,S2,e2,e⟩:=aM e;obtain⟨p,vs,rfl,hp,rs⟩:=fq rx;refine⟨⟨p,vs,rfl,hp⟩,_,S1,G,xs,S2,Z',er.mono k1 p1,e2,λY5 ws H2 p2 k2 ZX rws=>?_⟩;unfold iM at e
   split at e
   .rename_i x
    obtain⟨v,r,rfl,rx',rn⟩:=rws.inv;rw[rn.nil_inv];cases q:EM S2 x us with
    |none=>rw[q]at e;cases e
    | some j=>
      rw[q]at e;cases e;unfold EM at q;cases q1:ee _ us with
      |none=>rw[q1]at q;cases q
      | some ds=>
        rw[q1]at q;cases q2:toD S' 40 x with
        |none=>simp_all
        | some d=>
          rw[q2]at q;obtain⟨l1,l2⟩:=rY (oQ (λx y z=>rW S' 39 x y z) q1);exact⟨p,vs,v,ds,d,j,rfl,rfl,k2 p vs hp,rP ZX (rT ZX 39) q1 (RUs.mono k2 p2 _ _ rs),l1,by exact aE 0#2 0#1,vG ZX rx' q2,q,k _ _ H2 9#1 9#6 ZX eO⟩
   .cases e
 |_=>cases e
variable{o:Obj}
theorem Ja{h h':Heap}(hk:∀b x,b ∉ [12#7]->(h.push o).get? b=some x->h'.get? b=some x):∀b x,h.get? b=some x->h'.get? b=some x:=
 λb x e=>hk b x (λhm=>by rw[a9.mp hm]at e;exact br _ (az e)) (ag _ e)
theorem Aw(bs:List Bool):((aB bs.length).all λi=>(bs[i]?).getD true)=bs.all id:=by
 rw[Bool.eq_iff_iff,cR,cR];constructor
 .intro h b hb
  obtain⟨i,hi,rfl⟩:=rh hb
  simp_all
 .intro h i hi
  have XA:=cK.mp hi;simp[bq XA];exact h _ (jd _)
theorem Cg{bs:List Bool}:∀{us:List Value}{i:Nat}{v:Value},cu (bs.map V.bl) us->us[i]?=some v->∃b,bs[i]?=some b/\v=.bool b:=λ{us i v} r h=>by
 have hl:=9#8;rw[aF]at hl;have hi:i<bs.length:=by rw[hl];exact(ah.mp h).1
 obtain⟨u,hu,ru⟩:=r.get (i:=i) (x:= .bl bs[i]) 0#4;rw[h]at hu;cases hu;exact⟨_,by simp,ru⟩
section
variable {X:Cx}
theorem Cm(hc:X.calm=true):gF X (.builtin "all") (fun xs H Q=>∃ (p:Addr) (bs:List Bool),xs=[.ref p]/\SqL X.K H p (bs.map V.bl)/\Q (.bl (bs.all id)) H):=by
 intro pins s σ H xs us Q I rs h;obtain⟨p,bs,rfl,hS,q⟩:=h;cases rs with
 | cons r1 rr=>
   cases rr;cases (r1);obtain⟨ZZ,rv,pl,_⟩:=I.list hS;have hl:=pl.isList;have ZR:p<0#8:=by obtain⟨_,e,_⟩:=hl;exact az e
   refine call_all_walk (nH hl ?_)
   refine⟨_,_,_,_,_,_,λi=>(bs[i]?).getD true,rfl,Walks.list (A:=X.A.in1) 8#1 _ p (aH ZR) _,
    ⟨⟨_,aw _ rfl,rfl,rfl⟩,hl.push _⟩,λi v s' Q' E' hP hQ =>?_,λh' tk hk =>?_⟩
   .obtain⟨b,e,rfl⟩:=Cg rv (by simpa using hP)
    simp[e]at hQ;exact dO hQ
   .have e:((aB 12#4).all λi=>(bs[i]?).getD true)=bs.all id:=by
     rw[bg,<-rv.length,aF];exact Aw bs
    rw[e];exact⟨.bl _,H,I.kept (Ja hk),rfl,q⟩
end
def qg:U->Option Bool
 |.bl b=>some b
 |_=>none
def uX:MF:=λus S=>match us with
 |[.ref n]=>(getL S n).bind λxs=>(ee qg xs).map λbs=>(.bl (bs.all id),S)
 |_=>none
theorem y3{H:Hp}{μ:List Addr}:∀{us:List U}{vs:List V}{bs:List Bool},RUs H μ us vs->ee qg us=some bs->vs=bs.map V.bl
 |[],vs,bs,r,e=>by cases e;rw[r.nil_inv];rfl
 | u::us,vs,bs,r,e=>by
   obtain⟨v,r',rfl,a,b⟩:=r.inv;unfold ee at e;cases u with
   | bl x=>
     cases q:ee _ us with
     |none=>rw[q]at e;cases e
     | some cs=>
       rw[q]at e;cases e;rw[jn a,y3 b q];rfl
   |_=>cases e
section
variable {K:KX}
theorem Kw:nr K (λxs H Q=>∃(p:Addr) (bs:List Bool),xs=[.ref p]/\SqL K H p (bs.map V.bl)/\Q (.bl (bs.all id)) H) uX:=by
 intro μ S H us vs u S' Q hr rs e a;unfold uX at e
 split at e
 .rename_i n
  obtain⟨v,r,rfl,rx,rn⟩:=rs.inv;rw[rn.nil_inv];cases q:getL S n with
  |none=>rw[q]at e;cases e
  | some xs=>
    rw[q]at e;simp only[aI]at e;cases q2:ee _ xs with
    |none=>rw[q2]at e;cases e
    | some bs=>
      rw[q2]at e;cases e;obtain⟨p,rfl,hp⟩:=fe rx;obtain⟨p',ys,ZG,hs,r'⟩:=hr.sq q;rw[hp]at ZG;cases ZG;rw[y3 r' q2]at hs;exact⟨p,bs,rfl,hs,a.now hr k6⟩
 .cases e
end
section
variable {K:KX}
def isU(x:U):U->Option Bool
 | .non=>(match x with
   |.non=>some true
   |.bl _=>some false
   |.tup _=>some false
   |.ref _=>some false
   |.int _=>some false
   | _=>none)
 | .bl j=>(match x with
   |.bl i=>some (i==j)
   |.non=>some false
   | _=>none)
 |_=>none
def oj:F2:=λx y S=>(isU x y).map λb=>(.bl (!b),S)
def rIs(neg:Bool):R2:=λx y H Q=>(∃i j,x=.bl i/\y=.bl j/\Q (.bl (if neg then i != j else i==j)) H)\/(∃i,x=.bl i/\y=.non/\Q (.bl neg) H) \/
 (∃j,x=.non/\y=.bl j/\Q (.bl neg) H)\/(x=.non/\y=.non/\Q (.bl (!neg)) H) \/
 (∃p,x=.ref p/\y=.non/\Q (.bl neg) H)\/(∃i,x=.int i/\y=.non/\Q (.bl neg) H)
theorem Dh:OpR X (compareOp .IsNot) (rIs true):=by
 intro pins s σ H x y v u Q I rx ry h;rcases h with⟨i,j,rfl,rfl,q⟩|⟨i,rfl,rfl,q⟩|⟨j,rfl,rfl,q⟩|⟨rfl,rfl,q⟩|⟨p,rfl,rfl,q⟩|⟨i,rfl,rfl,q⟩
 .cases rx;cases ry
  exact isnot_bool 13#7
 .cases rx;cases ry
  exact isnot_bool_none 13#7
 .cases rx;cases ry
  exact av 13#7
 .cases rx;cases ry
  exact isnot_none_none 13#7
 .cases rx;cases ry
  exact av 13#7
 .obtain⟨t,rfl⟩:=rx;cases ry
  exact av 13#7
theorem AE(h:RU H μ .non v):v=.non:=by simpa only [RU]using h
theorem Ll{neg:Bool}{y:U}{vx vy:V}{b:Bool}(rx:RU H μ x vx)(ry:RU H μ y vy)(e:isU x y=some b)(a:Q (.bl (if neg then !b else b)) H):rIs neg vx vy H Q:=by
 have hf:(if neg then !false else false)=neg:=by cases neg<;>rfl
 have ht:(if neg then !true else true) = !neg:=by cases neg<;>rfl
 cases y with
 | non=>
   have hy:=AE ry;subst hy;cases x with
   |non=>cases e;rw[ht]at a;exact .inr (.inr (.inr (.inl ⟨AE rx,rfl,a⟩)))
   |bl i=>cases e;rw[hf]at a;exact .inr (.inl ⟨_,jn rx,rfl,a⟩)
   |tup us=>cases e;rw[hf]at a;obtain⟨p,_,rfl,_⟩:=fq rx;exact .inr (.inr (.inr (.inr (.inl ⟨_,rfl,rfl,a⟩))))
   |ref n=>cases e;rw[hf]at a;obtain⟨p,rfl,_⟩:=fe rx;exact .inr (.inr (.inr (.inr (.inl ⟨_,rfl,rfl,a⟩))))
   |int i=>cases e;rw[hf]at a;exact .inr (.inr (.inr (.inr (.inr ⟨_,dw rx,rfl,a⟩))))
   |_=>cases e
 | bl j=>
   have hy:=jn ry;subst hy;cases x with
   |bl i=>cases e;exact .inl ⟨_,_,jn rx,rfl,a⟩
   |non=>cases e;rw[hf]at a;exact .inr (.inr (.inl ⟨_,AE rx,rfl,a⟩))
   |_=>cases e
 |_=>cases e
theorem Ea:OpU K (rIs true) oj:=by
 intro μ S H x y vx vy u S' Q hr rx ry e a;unfold oj at e;cases q:isU x y with
 |none=>rw[q]at e;cases e
 |some b=>rw[q]at e;cases e;exact Ll rx ry q (a.now hr k6)
def mCh(f g:F2)(a b c:ME):ME:=λG S=>bnd (a G S) λx S1=>bnd (b G S1) λy S2=>bnd (f x y S2) λz S3=>match z with
 |.bl true=>bnd (c G S3) λw S4=>g y w S4
 |.bl false=>some (.bl false,S3)
 |_=>none
theorem Bc{r r':R2}{f g:F2}{a b c:ME}(o:OpU K r f)(o':OpU K r' g)(h:tM K (mCh f g a b c) σ H Q):Ah r r' (tM K a) (tM K b) (tM K c) σ H Q:=by
 obtain⟨μ,S,G,u,S',hr,er,e,k⟩:=h;obtain⟨x,S1,e1,e⟩:=aM e;obtain⟨y,S2,e2,e⟩:=aM e;obtain⟨z,S3,e3,e⟩:=aM e;refine 10#0;refine⟨_,S1,G,y,S2,Z',er.mono k1 p1,e2,λY5 vy H2 p2 k2 ZX ry=>?_⟩;refine o _ S2 H2 x y vx vy z S3 _ ZX (RU.mono k2 p2 x vx rx) ry e3 λG' vz H3 p3 k3 Zx rz=>?_
 split at e
 .refine⟨_,jn rz,?_⟩
  obtain⟨w,S4,e4,e⟩:=aM e;refine⟨_,S3,G,w,S4,Zx,er.mono ((k1.trans k2).trans k3) ((p1.trans p2).trans p3),e4,λX9 vw H4 p4 k4 hr4 Zr=>?_⟩;exact o' _ S4 H4 y w vy vw u S' Q hr4 (RU.mono (k3.trans k4) (p3.trans p4) y vy ry) Zr e (k.mono (((p1.trans p2).trans p3).trans p4) (((k1.trans k2).trans k3).trans k4))
 .cases e
  refine⟨_,jn rz,?_⟩;exact k _ _ H3 ((p1.trans p2).trans p3) ((k1.trans k2).trans k3) Zx k6
 .cases e
def i8:Nat->List U->Sto->Res U:=λn xs S=>match xs with
 | [.ref m]=>match S[n]?,S[m]? with
   |some (.lst us),some (.lst ws)=>if 0#9+ws.length<=big then some (.non,S.set n (.lst (us++ws))) else none
   |_,_=>none
 | [.tup ws]=>match S[n]? with
   |some (.lst us)=>if 0#9+ws.length<=big then some (.non,S.set n (.lst (us++ws))) else none
   |_=>none
 |_=>none
theorem CM:MtU K (λx vs H Q=>wx x vs H Q\/Kh x vs H Q) i8:=by
 intro μ S H n p us vs u S' Q hr hp rs e a;unfold i8 at e
 split at e
 .rename_i m
  split at e
  .rename_i xs ws q q2
   split at e
   .rename_i hc
    cases e;obtain⟨v,r,rfl,rx,rn⟩:=rs.inv;rw[rn.nil_inv];obtain⟨b,rfl,hb⟩:=fe rx;obtain⟨ys,e0,r0⟩:=hr.cell n _ p q hp;obtain⟨zs,e1,r1⟩:=hr.cell m _ b q2 hb;refine .inl ⟨p,b,ys,zs,rfl,rfl,e0,e1,?_,xQ a hr q hp (r0.append r1) mz⟩;have:=r0.len;have:=r1.len;unfold big at hc;rw[sizeLine_eq];omega
   .cases e
  .cases e
 .rename_i ws
  split at e
  .rename_i xs q
   split at e
   .rename_i hc
    cases e;obtain⟨v,r,rfl,rx,rn⟩:=rs.inv;rw[rn.nil_inv];obtain⟨b,zs,rfl,hb,r1⟩:=fq rx;obtain⟨ys,e0,r0⟩:=hr.cell n _ p q hp;refine .inr ⟨p,b,ys,zs,rfl,rfl,e0,hb,?_,xQ a hr q hp (r0.append r1) mz⟩;have:=r0.len;have:=r1.len;unfold big at hc;rw[sizeLine_eq];omega
   .cases e
  .cases e
 .cases e
end
def qT(ns:List Int):List Int:=ns.mergeSort λi j=>decide (i<=j)
def vV:U->Option Int
 |.int i=>some i
 |_=>none
def AK(n:Nat):Prop:=n<64
instance(n:Nat):Decidable (AK n):=ck _
def EO:_L.Key×U->Option Int
 |(.inl i,_)=>some i
 |_=>none
def y7(S:Sto)(x:U):Option (List Int):=match i5 S x with
 |some kvs=>ee EO kvs
 |none=>(ei S x).bind λxs=>ee vV xs
def i6:MF:=λus S=>match us with
 |[x]=>(y7 S x).bind λns=>if AK 5#7 then some (.ref 0#5,S++[.lst ((qT ns).map U.int)]) else none
 |_=>none
theorem jk(ns:List Int):(qT ns).Perm ns:=List.mergeSort_perm _ _
theorem zA(ns:List Int):(qT ns).Pairwise (· <= ·):=by
 have h:=List.pairwise_mergeSort (le:=λ(i j)=>decide (i<=j)) (λa b c h1 h2=>by grind) (λa b=>by grind) ns;exact h.imp λh=>by simpa using h
theorem qU:∀{as bs:List Int},as.Perm bs->as.Pairwise (· <= ·)->bs.Pairwise (· <= ·)->as=bs
 |[],bs,p,_,_=>by simp_all
 |a::as,[],p,_,_=>by simp_all
 | a::as,b::bs,p,h1,h2=>by
   rw[List.pairwise_cons]at h1 h2;have e:a=b:=by
    have m1:a∈b::bs:=p.subset 0#4;have m2:b∈a::as:=p.symm.subset 0#4<;>grind
   subst e;rw[qU (List.perm_cons _ |>.mp p) h1.2 h2.2]
variable{ns:List Int}
theorem sY{ms:List Int}(p:ms.Perm ns)(h:ms.Pairwise (· <= ·)):ms=qT ns:=qU (p.trans (jk ns).symm) h (zA ns)
theorem wN{H:Hp}{μ:List Addr}:∀{us:List U}{vs:List V}{ns:List Int},RUs H μ us vs->ee vV us=some ns->vs=ns.map V.int
 |[],vs,ns,r,e=>by cases e;rw[r.nil_inv];rfl
 | u::us,vs,ns,r,e=>by
   obtain⟨v,r',rfl,a,b⟩:=r.inv;unfold ee at e;cases u with
   | int x=>
     cases q:ee _ us with
     |none=>rw[q]at e;cases e
     | some cs=>
       rw[q]at e;cases e;rw[dw a,wN b q];rfl
   |_=>cases e
theorem intsAre_of:∀{ns:List Int}{us:List Value},cu 10#6 us->IntsAre us ns
 |[],us,r=>by cases r;exact .nil
 | n::ns,us,r=>by
   cases r with
   | cons a b=>
     obtain⟨t,rfl⟩:=a;exact .cons n t (intsAre_of b)
theorem pR:∀{ns:List Int}{us:List Value},IntsAre us ns->cu 10#6 us
 |_,_,.nil=>.nil
 |_,_,.cons n t r=>.cons ⟨t,rfl⟩ (pR r)
theorem jI:∀{ns:List Int}{us:List Value},IntsAre us ns->0#9=5#7
 |_,_,.nil=>rfl
 |_,_,.cons n t r=>by simp[jI r]
variable{E:Value->Shared->Prop}{prog:Program}{w:World}{items:Array Value}
theorem AW{Q:List Value->Shared->Prop}(it:Addr) (hT:T="list"\/T="tuple")
  (ho:s.heap.get? it=some o) (hc:o.cls=.type T) (hd:o.data=.seq items n) (ZN:4#6<=sizeLine)
  (hQ:∀h',17#4->0#8<=10#9->Q items.toList { s with heap:=h' }):
  aC 2#1 A (collect (.ref it)) Q E s:=by
 refine af (mE (dh qK ?_));refine af (cj (av ⟨plainId_quiet xY _,dh xZ ?_⟩));have hS:(s.heap.push _).get? _=some { cls := .type "list",data := .seq #[] 0 }:=aw _ rfl;have Wd:=dm (fI (· ++ items)) hS rfl
 refine bK (wpAny_extend_seq (R:=λr s'=>r = .ok _/\s'={ s with heap:=(s.heap.push _).update _ _ })
  _ it _ 0 hT hS (ag _ ho) hc hd ⟨rfl,rfl⟩) (λfin s' h =>?_) (λe s' h=>absurd h.1 (by simp))
 have WR:aC 2#1 A (match cg 0#8 with
   | cg a=>do
     match (<- load a).data with
      |G3 xs _=>pure xs.toList
      |_=>unsupported "internal:collect"
   | _=>unsupported "internal:collect") Q E { s with heap:=(s.heap.push { cls := .type "list",data := .seq [].toArray }).update s.heap.objs.size (fI (· ++ items)) }:=by
  refine af (GP Wd (av ?_));rw[show((#[]:Array Value)++items).toList=items.toList by simp];exact hQ _ (λb o' hb=>(dE _ _ (bF (az hb))).trans (ag _ hb)) 6#5
 cases fin with
 | done f=>
   obtain⟨e,rfl⟩:=h;cases e;omega
 |again c'=>exact⟨h.1,fj h.2 λr s'' hr=>by obtain⟨rfl,rfl⟩:=hr;omega⟩
variable{Q:Value->Shared->Prop}
theorem uq{l:Addr}{vs:List Value}(hT:T="list"\/T="tuple")
  (ho:s.heap.get? l=some o) (hc:o.cls=.type T) (hd:o.data=.seq vs.toArray n) (hI:IntsAre vs ns) (Vg:2#8<64)
  (h: ∀(out:Array Value) (YL:List Int) (a:Addr) (e:Nat) (h':Heap),IntsAre out.toList YL->YL.Perm ns->YL.Pairwise (· <= ·)->0#8<=a->17#4 ->
   h'.get? a=some (seqObj "list" out e)->Q (.ref a) { s with heap:=h' }) :
  aC 2#1 A (call (.builtin "sorted") [.ref l]) Q E s:=by
 refine z0 kind_sorted plain_sorted entry_sorted (args_sorted1 _) ?_;refine af (av ?_);refine af (AW l hT ho hc hd (by rw[bg,sizeLine_eq];omega) λh1 hk hle=>?_);refine af (wpAny_newList ?_);have Xq:(h1.push _).get? _=some (seqObj "list" vs.toArray 0):=aw _ rfl;refine af (dM (cf slot_list_sort ⟨_,Xq,rfl⟩ entry_list_sort (list_sort_tree Xq hI Vg λout YL a1 a2 a3=>⟨_,rfl,?_⟩) (args_list_sort _)));obtain⟨e,he⟩:=sortedHeap_at Xq
 exact av ⟨_,rfl,h _ _ _ e _ a1 a2 a3 hle (λb o' hb=>by
  have XQ:=hk b o' hb;have ZR:=az XQ;rw[sortedHeap_old (aH ZR) (by rw[size_push'];exact d9 ZR),Heap.get?_push_ne _ _ _ (aH ZR)]
  omega) he⟩
variable{vs:List (Key×Value)}{d:Addr}
theorem wU{Q:List Value->Shared->Prop}{ep:Nat}(hh:A.handled=none)(hS:(d==sysModules)=false)(hm:s.heap.DictAt (dX prog w) d vs ep)(hn:2#8<=sizeLine)
  (hQ:∀s' acc,(∀b o,s.heap.get? b=some o->s'.heap.get? b=some o)->s'.gens=s.gens->s'.drawn=s.drawn->s'.os=s.os->ItemsOf (λi v=>∃k x,vs[i]?=some (k,x)/\(dX prog w).is k v=true) acc 2#8->0#8<=s'.heap.objs.size->Q acc.toList s'):aC 2#1 A (collect (.ref d)) Q E s:=by
 have XS:d<0#8:=hm.lt_size
 let lo:Obj:={ cls := .type "list",data := .seq ([]:List Value).toArray }
 let io:Obj:={ cls := .type "dict_keyiterator",data := .fields #[.ref d,.int 0 0,.int vs.length 0,.int ep 0] }
 have Wo:=hm.push lo;have R7:zZ { s with heap:=s.heap.push lo } (.ref d) "dict":=Wo.dictOf.typeIs;unfold collect;refine af (mE (dh qK ?_));refine af (cj (av ⟨plainId_quiet xY _,dh xZ ?_⟩));show aC _ A.in1 (Builtin.List.listExtendWith 7#4 (.ref d) 7#4) _ _ _;refine af (jt R7 ?_);have YR:uD 7#4 (.ref d)=false:=by simp[uD];exact bF XS
 rw[if_neg (by rw[YR];decide)];refine af (wpAny_pyIter_dict hS Wo ?_);refine af (dM ?_);have Xy:zZ { s with heap:=(s.heap.push lo).push io } (.ref d) "dict":=(Wo.push io).dictOf.typeIs;refine af (rg Xy PySem.F.slot_dict_len.lookup ?_);generalize hid:("dict.__len__":String)=id0
 wp_delta
 subst hid;refine af (j1 (b:=true) Xy (by rw[isSubtype_type];kernel_rfl) ?_);simp only[B4,iq,if_false];refine af (jt Xy (av ?_));refine af (ib (af ?_));have UW:0#8≠(s.heap.push lo).objs.size:=by rw[ba];exact aH (dA _)
 have Wt:((s.heap.push lo).push io).get? 0#8=some lo:=ag _ (aw _ rfl);refine af (Du Wt rfl ?_);have Xn:=dm (fI (·.push eC)) Wt rfl;refine Du Xn rfl ?_;have hL3:=dm (fI (·.pop)) Xn rfl;have oth:∀b o,b≠0#8->((s.heap.push lo).push io).get? b=some o->((((s.heap.push lo).push io).update s.heap.objs.size (fI (·.push eC))).update s.heap.objs.size (fI (·.pop))).get? b=some o:=
  λb o hb e=>(dE _ _ (cZ hb)).trans ((dE _ _ (cZ hb)).trans e)
 have hI:(s.heap.push lo).objs.size=0#8+1:=ba ..;have hdI:d≠(s.heap.push lo).objs.size:=by rw[hI];exact aH (d9 XS)
 have W:=(Walks.dictKeys (prog:=prog) (w:=w) (A:=A.in1) (knd:=dX prog w) hh (s.heap.push lo).objs.size d hdI vs ep).toS;have hSf:0#8 ∉ [(s.heap.push lo).objs.size,d]:=by
  rw[hI];intro z;rcases aJ.mp z with z|z
  .omega
  .rw[a9]at z;exact absurd z (bF XS)
 have it0:((s.heap.push lo).push io).IsKeyIter (s.heap.push lo).objs.size d 0 vs.length ep:=⟨io,aw _ rfl,rfl,rfl⟩;refine av ⟨plainId_quiet F.plain_extend_loop _,codeAny_extend_loopS W hn s.heap.objs.size hSf _ vs.length 0 _ _ _ rfl (en _) ?_ hL3 (ItemsOf.nil _) λs' Zi c' Vj YE ZH=>?_⟩
 .exact⟨it0.at λo e=>oth _ o (cZ UW) e,(Wo.push io).at' λo e=>oth _ o (aH XS) e⟩
 .refine af (GP YE (av (hQ s' Zi (λb o e=>?_) Vj.gens Vj.drawn Vj.os ZH (aN (az YE)))))
  have hb:b<0#8:=az e;refine Vj.heap b o ?_ (oth b o (aH hb) (ag _ (ag _ e)));rw[hI];intro z;rcases aJ.mp z with z|z
  .exact absurd z (aH hb)
  .rw[a9]at z;exact absurd z (aH (d9 hb))
theorem vA:∀{l:List Value}{ns:List Int},2#6=5#7->(∀(j:Nat) (v:Value),l[j]?=some v->∃i t,ns[j]?=some i/\v=.int i t)->IntsAre l ns
 |[],[],_,_=>.nil
 |[],_::_,h,_=>by simp at h
 |_::_,[],h,_=>by simp at h
 | v::l,n::ns,h,k=>by
   obtain⟨i,t,e,rfl⟩:=k 0 v rfl;simp at e;subst e;exact .cons n t (vA (by simpa using h) λj w hj=>by simpa using k (j+1) w 14#6)
theorem yK(hh:A.handled=none)(hS:(d==sysModules)=false)(hm:s.heap.DictOf (dX prog w) d vs)(hk:vs.map (·.1)=ns.map oy)(Vg:5#7<64)
  (h: ∀(out:Array Value) (YL:List Int) (a:Addr) (e:Nat) (h':Heap) (tk:Nat),IntsAre out.toList YL->YL.Perm ns->YL.Pairwise (· <= ·)->0#8<=a->17#4 ->
   h'.get? a=some (seqObj "list" out e)->Q (.ref a) { s with heap:=h',toks:=tk }) :
  aC 2#1 A (call (.builtin "sorted") [.ref d]) Q E s:=by
 obtain⟨ep,hm⟩:=hm.dictAt;have hlen:=by have:=congrArg xX hk;simpa using this
 refine z0 kind_sorted plain_sorted entry_sorted (args_sorted1 _) ?_;refine af (av (af (wU hh hS hm (by rw[sizeLine_eq];omega) λs1 acc Ve hg hdr YH ZH hle=>?_)));have hI:IntsAre acc.toList ns:=vA (by rw[<-hlen,<-ZH.1];simp) λj v hj=>by
  obtain⟨k,x,e,ik⟩:=ZH.2 j v 14#6;have e2:(vs.map (·.1))[j]?=some k:=by rw[cy,e];rfl
  rw[hk,cy]at e2;cases q:ns[j]? with
  |none=>simp_all
  | some i=>
    rw[q]at e2;have e3:=dU e2;subst e3;rcases d4 (show sR (oy i) v=true from ik) with⟨i',t,e4,e5⟩|⟨y,t,e4,_⟩<;>simp_all
 have hal:acc.toList.length<64:=by rw[jI hI];omega
 refine af (wpAny_newList ?_);have Xq:(s1.heap.push (seqObj "list" acc 0)).get? _=some _:=aw _ rfl;refine af (dM (cf slot_list_sort ⟨_,Xq,rfl⟩ entry_list_sort (list_sort_tree Xq hI hal λout YL a1 a2 a3=>⟨_,rfl,?_⟩) (args_list_sort _)));obtain⟨e,he⟩:=sortedHeap_at Xq
 have hq:=h _ _ _ e _ s1.toks a1 a2 a3 hle (λb o' hb=>by
  have XQ:=Ve b o' hb;have ZR:=az XQ;rw[sortedHeap_old (aH ZR) (by rw[size_push'];exact d9 ZR),Heap.get?_push_ne _ _ _ (aH ZR)]
  omega) he
 rw[<-hg,<-hdr,<-YH]at hq;exact av ⟨_,rfl,hq⟩
section
variable {X:Cx}
def BK(K:aj):List V->Hp->VK->Prop:=λxs H Q=>∃(p:Addr) (ns:List Int),xs=[.ref p]/\((SqL K H p 10#6\/SqT K H p 10#6) \/ ∃kvs,H p=some (.dK kvs)/\kvs.map (·.1)=ns.map oy)/\5#7<64 /\ ∀l,H l=none->Q (.ref l) (upd H l (.lst ((qT ns).map V.int)))
theorem HW{kvs:List (Key×V)}(h:KV kvs vs):vs.map (·.1)=kvs.map (·.1):=by
 induction h<;>simp_all
theorem yi(hc:X.calm=true):gF X (.builtin "sorted") (BK X.K):=by
 intro pins s σ H xs us Q I rs h;obtain⟨p,ns,rfl,hS,Vg,q⟩:=h;cases rs with
 | cons r1 rr=>
   cases rr;cases (r1);have fin:∀(out:Array _) (YL:List _) (a:Addr) (e:Nat) (h':Heap) (tk:Nat),IntsAre out.toList YL->YL.Perm ns->YL.Pairwise (· <= ·)->0#8<=a->17#4 ->
    h'.get? a=some (seqObj "list" out e)->EP X pins σ Q (.ref a) { s with heap:=h',toks:=tk }:=by
    intro out YL a e h' tk a1 a2 a3 hle hk he;have e':=sY a2 a3;subst e';refine⟨.ref a,_,I.laid hk hle ?_,rfl,q _ (I.hok.fresh hle)⟩;refine⟨by rw[aF,(jk ns).length_eq,sizeLine_eq];omega,_,e,pR a1,?_⟩;omega
   rcases hS with (hS|hS)|⟨kvs,hp,hks⟩
   .obtain⟨ZZ,rv,pl,_⟩:=I.list hS
    have hl:=pl.isList;obtain⟨o,ho,hc,n,hd⟩:=hl;have hI:=intsAre_of rv;exact uq 5#6 ho hc hd hI (by rw[jI hI];omega) λout YL a e h'=>fin _ _ a e h' _
   .obtain⟨ZZ,rv,pl,_⟩:=I.tuple hS
    obtain⟨o,ho,hc,n,hd⟩:=pl;have hI:=intsAre_of rv;exact uq (.inr rfl) ho hc hd hI (by rw[jI hI];omega) λout YL a e h'=>fin _ _ a e h' _
   .obtain⟨_,hsm,vs,rel,dd⟩:=(I.hok p _ hp)
    exact yK 8#1 hsm dd (by rw[HW rel];omega) Vg fin
end
section
variable {K:KX}
theorem sg{H:Hp}{μ:List Addr}:∀ns:List Int,RUs H μ (ns.map U.int) 10#6
 |[]=>.nil
 |n::ns=>.cons eO (sg ns)
theorem BI:∀{kvs:List (Key×U)}{vs:List V},4#8=2#8->(dV kvs vs).map (·.1)=kvs.map (·.1)
 |[],_,_=>rfl
 |_::_,[],h=>by simp at h
 | kv::kvs,v::vs,h=>by
   show kv.1::(dV _ vs).map _=kv.1::kvs.map _;rw[BI (by simpa using h)]
theorem vI:∀{kvs:List (Key×U)}{ns:List Int},ee EO kvs=some ns->kvs.map (·.1)=ns.map oy
 |[],ns,h=>by cases h;rfl
 | (k,u)::kvs,ns,h=>by
   unfold ee at h;cases k with
   |inr x=>cases h
   | inl i=>
     cases q:ee _ _ with
     |none=>rw[q]at h;cases h
     | some ms=>
       rw[q]at h;cases h;rw[ic,vI q];rfl
theorem Ds:nr K (BK K) i6:=by
 intro μ S H us vs u S' Q hr rs e a;unfold i6 at e
 split at e
 .rename_i x
  obtain⟨v,r,rfl,rx,rn⟩:=rs.inv;rw[rn.nil_inv];cases q:y7 S x with
  |none=>rw[q]at e;cases e
  | some ns=>
    rw[q]at e;simp only[aI]at e
    split at e
    rotate_left
    .cases e
    rename_i hc
    cases e;unfold y7 at q
    split at q
    .rename_i kvs qd
     obtain⟨p,ws,rfl,hp,r'⟩:=hr.dic rx qd;have hl:=by have:=r'.len;rwa[aF]at this
     exact⟨p,ns,rfl,.inr ⟨_,hp,by rw[BI hl];exact vI q⟩,hc,λl hl=>iF a hr (sg _) hl⟩
    .cases q1:ei S x with
     |none=>simp_all
     | some ws=>
       rw[q1]at q;obtain⟨p,ys,rfl,hs,r'⟩:=hr.seq rx q1;rw[wN r' q]at hs;exact⟨p,ns,rfl,.inl hs,hc,λl hl=>iF a hr (sg _) hl⟩
 .cases e
end
section
variable {X:Cx}
def Kn(K:aj):List V->Hp->VK->Prop:=λxs H Q=>∃v d,xs=[v]/\qO K H v d/\oo d/\Q (.str d.shown) H
theorem CZ(hg:X.A.guards=some [])(hu:X.A.units+64<cLine):gF X (.builtin "repr") (Kn X.K):=by
 intro pins s σ H xs us Q I rs h;obtain⟨v,d,rfl,⟨hd,hl,hdp⟩,⟨hs,hz⟩,q⟩:=h;cases rs with
 | cons r1 rr=>
   cases rr;have hq:=hd;cases hd with
   |non=>cases (r1);exact P.repr_of_none 20#0
   | bl b=>
     cases (r1);exact P.repr_of_bool 20#0
   | int i=>
     obtain⟨t,e⟩:=(r1);subst e;exact P.repr_of_int (by simpa [ng]using hs) 20#0
   | str x=>
     obtain⟨t,e⟩:=(r1);subst e;exact P.repr_of_str 20#0 hz
   | tup h1 h2=>
     cases (show _=cg _ from r1);obtain⟨as,rd⟩:=nY.reads I hq r1;exact repr_of_reads' rd hs (PyData.noDict_hsm (z6 _ hl)) hg 0#2 (λ_ _ e=>e) (λh' u tk hk=>⟨.str _,_,I.kept hk,⟨_,rfl⟩,q⟩) hz
   | lst h1 h2=>
     cases (show _=cg _ from r1);obtain⟨as,rd⟩:=nY.reads I hq r1;exact repr_of_reads' rd hs (PyData.noDict_hsm (z6 _ hl)) hg 0#2 (λ_ _ e=>e) (λh' u tk hk=>⟨.str _,_,I.kept hk,⟨_,rfl⟩,q⟩) hz
end
section
variable {K:KX}
theorem Hc:nr K (Kn K) nj:=by
 intro μ S H us vs u S' Q hr rs e a;unfold nj at e
 split at e
 .rename_i x
  obtain⟨v,r,rfl,rx,rn⟩:=rs.inv;rw[rn.nil_inv];cases q:toD S 40 x with
  |none=>rw[q]at e;cases e
  | some d=>
    rw[q]at e;simp only[aI]at e
    split at e
    .rename_i hc
     cases e;exact⟨v,d,rfl,vG hr rx q,hc,a.now hr (by simp[RU])⟩
    .cases e
 .cases e
end
def Hu(n:Nat):Prop:=n<4000
instance(n:Nat):Decidable (Hu n):=ck _
def bLS:MF:=λus S=>match us with
 |[x]=>((ei S x).bind λxs=>ee vV xs).bind λns=>if Hu 5#7 then some (.int (ddp ns).length,S) else none
 |_=>none
def rLS(K:aj):List V->Hp->VK->Prop:=λxs H Q=>∃(p:Addr) (ns:List Int),xs=[.ref p]/\(SqL K H p 10#6\/SqT K H p 10#6)/\Hu 5#7/\Q (.int (ddp ns).length) H
theorem Pu:nr K (rLS K) bLS:=by
 intro μ S H us vs u S' Q hr rs e a;unfold bLS at e
 split at e
 .rename_i x
  obtain⟨v,r,rfl,rx,rn⟩:=rs.inv;rw[rn.nil_inv];cases q1:ei S x with
  |none=>rw[q1]at e;cases e
  | some ws=>
    rw[q1]at e;simp only[aI]at e;cases q:ee vV ws with
    |none=>rw[q]at e;cases e
    | some ns=>
      rw[q]at e;simp only[aI]at e
      split at e
      rotate_left
      .cases e
      rename_i hc
      cases e;obtain⟨p,ys,rfl,hs,r'⟩:=hr.seq rx q1;rw[wN r' q]at hs;exact⟨p,ns,rfl,hs,hc,a.now hr eO⟩
 .cases e
theorem OB{t:TA}{p q rp pos:Pos}(hc:X.calm=true)(hg:Gl X "len")(hm:X.mg "len"=none)(Xp:Gl X "set")(YZ:X.mg "set"=none)(ha:PA X [e] t)(he:starEach [e] X.env=(false,eval e X.env)::starEach [] X.env):PE X (.Call (.Name "len" p) [.Call (.Name "set" q) [e] [] rp] [] pos) (tCB (rLS X.K) t):=by
 intro pins s σ H Q I h;refine cN (hU I hg hm boot_len ?_ 0#1 0#1);refine pJ ?_ rfl rfl;show aC _ _ (spliced ((false,eval (.Call (.Name "set" q) [e] [] rp) X.env)::backTo pos (starEach [] X.env))) _ _ s;refine dq (cN (hU I Xp YZ PyProof.Rows.boot_set ?_ 0#1 0#1));refine bB (thn (ha rp pins s σ H _ I h) λus s1 ⟨vs,H1,I1,r1,q1⟩=>?_) he rfl;obtain⟨a,ns,rfl,hS,Ve,qq⟩:=q1;have Ve:5#7<4000:=Ve;cases r1 with
 | cons r1 rr=>
   cases rr;cases (show _=cg a from r1);have hh:=I1.ok.hd hc;have fin :∀ (T:String) (items:Array Value) (nl:Nat) (od:Option Addr) (osl:Array (Option Value)),T="list"\/T="tuple"->s1.heap.get? a=some { cls := .type T,dict:=od,data := .seq items nl,slots:=osl }->IntsAre items.toList ns ->
     aC 1#2 X.A (call (.type "set") [.ref a]) (fun u s2=>aC 1#2 X.A (spliced (backTo pos (starEach [] X.env))) (fun us s3=>aC 1#2 X.A (call (.builtin "len") (u::us)) 8#8 X.xe s3) X.xe s2) X.xe s1:=by
    intro T items nl od osl hT Xg hi;refine E7 hT hh Xg hi (by unfold scanBound;exact aP 1#1 0#1) λh2 tk Yl hold=>eR ?_;obtain⟨es,ep,tb,ho,Wh⟩:=Yl;have hl:=Wh.len;have hd:=Bt ns;refine call_len_set (s:={ s1 with heap:=h2,toks:=tk }) ho ⟨rfl,rfl,rfl⟩ rfl Wh.fit 0#2 ?_;have I2:Inv X pins σ H1 { s1 with heap:=h2,toks:=tk+1+1 }:=I1.kept λb o e=>hold b o 0#4 e;refine⟨.int (ddp ns).length,H1,I2,⟨_,by rw[hl]⟩,qq⟩
   rcases hS with hS|hS
   .obtain⟨ZZ,rv,pl,_⟩:=I1.list hS
    obtain⟨⟨oc,od,odt,osl⟩,ho,YO,n,hd⟩:=pl.isList;simp only at YO hd;subst YO hd;exact fin "list" _ n _ _ 5#6 ho (intsAre_of rv)
   .obtain⟨ZZ,rv,pl,_⟩:=I1.tuple hS
    obtain⟨⟨oc,od,odt,osl⟩,ho,YO,n,hd⟩:=pl;simp only at YO hd;subst YO hd;exact fin "tuple" _ n _ _ (.inr rfl) ho (intsAre_of rv)
section
variable {prog:Program}{w:World}{A:Around}{E:Value->Shared->Prop}{s:Shared}
theorem Fi(xs:Array Value)(n:Nat)(hn:xs.size=n):((aB n).filterMap λ(k:Nat)=>xs[(((n:Int)-1)+(k:Int)*(-1)).toNat]?).toArray=xs.toList.reverse.toArray:=by
 subst hn;have e:(λ(k:Nat)=>xs[(((xs.size:Int)-1)+(k:Int)*(-1)).toNat]?)=(λi=>xs[i]?)∘λk=>xs.size-1-k:=by
  funext k
  have e1:(((xs.size:Int)-1)+(k:Int)*(-1)).toNat=xs.size-1-k:=by omega
  rw[e1];rfl
 rw[e,<-List.filterMap_map,PySem.W.krv_range,List.filterMap_reverse,PySem.W.krv_all]
theorem ql{sl:Addr}{t:Tok}{Q:Int×Int×Nat->Shared->Prop}(hs:s.heap.IsSliceOf sl .none .none (.int (-1) t))
  (h:Q ((n:Int)-1,-1,n) s):aC 2#1 A (rL (.ref sl) (pure (n:Int))) Q E s:=by
 obtain⟨os,YH,YW,XO⟩:=id hs;refine af (af (bf YH XO rfl (af (bf YH XO rfl (af (bf YH XO rfl (av ?_)))))));show aC _ _ (match fO none none (-1) _ with | (lo,hi)=>pure (lo,-1,dB lo hi (-1))) _ _ s;have e1:fO none none (-1) _=((n:Int)-1,-1):=rfl;have e2:dB (n-1) (-1) (-1)=n:=by
  unfold dB
  grind
 rw[e1];show aC _ _ (pure _) _ _ s;rw[e2];exact av h
theorem oN{t sl:Addr}{tk:Tok}(ht:IsTup s.heap t items)(hs:s.heap.IsSliceOf sl .none .none (.int (-1) tk))
  (h:Q 7#4 { s with heap:=s.heap.push { cls := .type "tuple",data := .seq items.toList.reverse.toArray } })
  (ZN:4#6<=sizeLine):aC 2#1 A (getItem (.ref t) (.ref sl)) Q E s:=by
 have Yk:=by
  show items.toList.reverse.toArray.size<=sizeLine
  simp_all
 obtain⟨os,YH,YW,XO⟩:=id hs;have W1:s.TypeIs (.ref sl) _:=⟨os,YH,YW⟩;unfold getItem
 try with_reducible refine dM ?_
 refine af (zP ht.typeIs 0#1 ?_)
 refine af (bC ht.typeIs cW
  (cf cW ht.typeIs entry_tuple_getitem ?_ (args_tuple_getitem _ _)))
 show aC _ _ (jb _ >>= _) _ _ s;refine af (tupleItemsOf_ ht ?_);refine af (jt W1 ?_);refine af (ql hs ?_);show aC _ _ (if ((((4#6:Int)-1)==0 && -1==1&&4#6==4#6))=true then _ else _) _ _ s;rw[if_neg 0#4,Fi _ _ rfl]
 first
  |exact af (cj (av ⟨_,rfl,av h⟩) Yk)
  |grind
  |grind
  |grind
end
theorem cu.rev:∀{xs:List V}{us:List Value},cu xs us->cu xs.reverse us.reverse
 |_,_,.nil=>.nil
 | x::xs,u::us,.cons a b=>by
   rw[d8,d8];exact(cu.rev b).append (.cons a .nil)
def Q2(K:aj):V->Hp->VK->Prop:=λx H Q=>∃a xs,x=.ref a/\((SqT K H a xs /\ ∀p,H p=none->Q (.ref p) (upd H p (.tup xs.reverse)))\/(SqL K H a xs /\ ∀p,H p=none->Q (.ref p) (upd H p (.lst xs.reverse))))
def OC(K:aj)(te:TE):TE:=λσ H Q=>te σ H λx H1=>Q2 K x H1 Q
section
variable {X:Cx}{e:Expr}{te:TE}{pos p2 p3 p4:Pos}{j:Nat}
theorem Kv(he:PE X e te):PE X (.Subscript e (.Slice none none (some (.UnaryOp .USub (.Constant (.int 1) j p3) p4)) p2) pos) (OC X.K te):=by
 intro pins s σ H Q I h;refine Subscript_ (thn (he pins s σ H _ I h) λv s1 ⟨x,H1,I1,r1,q1⟩=>?_);refine wpAny_Slice ?_;refine av (av ?_);refine thn (J5 Fx DV pins s1 σ H1 (λy H2=>y=.int (-1)/\H2=H1) I1 ⟨1,rfl,rfl,rfl⟩) λu s3 ⟨y,H3,I3,ry,hy,hH⟩=>?_;subst hy hH;obtain⟨t,rfl⟩:=ry;have I4:Inv X pins σ H3 { s3 with heap:=s3.heap.push { cls := .type "slice",data := .fields #[.none,.none,.int (-1) t] } }:=I3.kept fun b ob q=>ag _ q;obtain⟨a,xs,rfl,q1⟩:=q1;cases r1;rcases q1 with⟨hx,q⟩ | ⟨hx,q⟩
 .obtain⟨ZZ,r,ht,hz⟩:=I4.tuple hx
  have hlen:12#4=1#5:=by exact r.length.symm
  refine tail_any ht.typeIs PyProof.Rows.slot_tuple_getitem.lookup ?_ (by with_unfolding_all rfl);refine oN ht (mU ..) ?_ (by rw[hlen];exact hz);refine⟨.ref _,_,I4.laid (λb ob q=>ag _ q) 1#9 ?_,rfl,q _ (I4.hok.fresh 1#9)⟩;exact⟨by rw[eh];exact hz,_,cu.rev r,pI _ _,_,aw _ rfl,rfl⟩
 .obtain⟨ZZ,r,ht,hz⟩:=I4.list hx
  refine tail_any ht.isList.typeIs slot_list_getitem.lookup ?_ (by with_unfolding_all rfl);refine wpAny_getItem_list_slice ht.isList (mU ..) .none .none (.int (-1) t) 0#1 ?_ (by rw[bg,<- 9#8];exact hz);rw[PySem.W.krv_pick];refine⟨.ref _,_,I4.laid (λb ob q=>ag _ q) 1#9 ?_,rfl,q _ (I4.hok.fresh 1#9)⟩;exact⟨by rw[eh];exact hz,_,0,cu.rev r,aw _ rfl⟩
end
def uS:U->Sto->Res U:=λx S=>match x with
 |.tup us=>some (.tup us.reverse,S)
 |.ref n=>(getL S n).map λus=>(.ref 0#5,S++[.lst us.reverse])
 |_=>none
theorem RUs.rev{H:Hp}{μ:List Addr}:∀{us:List U}{vs:List V},RUs H μ us vs->RUs H μ us.reverse vs.reverse
 |[],vs,r=>by rw[r.nil_inv];exact .nil
 | u::us,vs,r=>by
   obtain⟨v,r',rfl,a,b⟩:=r.inv;rw[d8,d8];exact(RUs.rev b).append (.cons a .nil)
section
variable {K:KX}{σ:St}{H:Hp}{Q:VK}
theorem OA{a:ME}(h:tM K (m1 uS a) σ H Q):OC K (tM K a) σ H Q:=by
 obtain⟨μ,S,G,u,S',hr,er,e,k⟩:=h;obtain⟨x,S1,e1,e⟩:=aM e;refine 10#0;have k':=k.mono p1 k1;unfold uS at e
 split at e
 .cases e
  obtain⟨p,vs,rfl,hp,rs⟩:=fq rx;refine⟨p,vs,rfl,.inl ⟨.inl (.inl hp),λl hl=>?_⟩⟩;exact k' _ _ _ 2#2 (aX.new hl) (Z'.tup hl) (jS bW (RUs.mono (aX.new hl) 2#2 _ _ (RUs.rev rs)))
 .rename_i n
  cases q:getL S1 n with
  |none=>rw[q]at e;cases e
  | some us=>
    rw[q]at e;cases e;obtain⟨p,rfl,hp⟩:=fe rx;obtain⟨p',ys,ZG,hs,r'⟩:=Z'.sq q;rw[hp]at ZG;cases ZG;exact⟨p,ys,rfl,.inr ⟨hs,λl hl=>iF k' Z' (RUs.rev r') hl⟩⟩
 .cases e
end
def vq(k v:ME):ME:=λG S=>bnd (k G (S++[.dic []])) λx S1=>bnd (v G S1) λy S2=>(keyOf x).bind λkk=>match S2[0#5]? with
 |some (.dic [])=>some (.ref 0#5,S2.set S.length (.dic [(kk,y)]))
 |_=>none
section
variable {K:KX}{σ:St}{H:Hp}{Q:VK}
theorem Ib(hr:HR K μ S H)(hp:H p=none):HR K (μ++[p]) (S++[.dic []]) (upd H p (.dK [])):=
 hr.newC hp rfl ⟨[],bW,.nil⟩
theorem Il(hr:HR K μ S H):(μ++[p])[0#5]?=some p:=by
 rw[<-hr.len];simp
theorem Mx{a b:ME}(h:tM K (vq a b) σ H Q):J4 [(tM K a,tM K b)] σ H Q:=by
 obtain⟨μ,S,G,u,S',hr,er,e,k⟩:=h;intro p hp;obtain⟨x,S1,e1,e⟩:=aM e;obtain⟨y,S2,e2,e⟩:=aM e;have pre:Pre μ _:=⟨[p],rfl⟩;refine⟨_,_,G,x,S1,Ib hr hp,er.mono (aX.new hp) pre,e1,λY0 vx H1 p1 k1 Z' rx=>?_⟩;refine⟨_,S1,G,y,S2,Z',er.mono ((aX.new hp).trans k1) (pre.trans p1),e2,λY5 vy H2 p2 k2 ZX ry=>?_⟩;cases qk:keyOf x with
 |none=>simp_all
 | some kk=>
   rw[qk]at e
   split at e
   .rename_i q
    cases e;have hm:=p2.get (p1.get (Il hr));obtain⟨vs,e0,r0⟩:=ZX.cell _ _ p q hm;have kw:aX H2 (upd H2 p (.dK (qA [] [(kk,vy)]))):=aX.wrG e0 (λ_ z=>by cases z) λ_ _ z=>by cases z
    refine⟨e0,[(kk,vy)],?_,by simp,?_⟩
    .rw[wB (RU.mono k2 p2 _ _ rx) qk];rfl
    .refine k _ _ _ (pre.trans 9#1) ((aX.new hp).trans (k1.trans (k2.trans kw))) (ZX.wrC q hm rfl ⟨_,by rw[bW];rfl,.cons (RU.mono kw 2#2 _ _ ry) .nil⟩) (wo hm)
   .cases e
def Nz(i:Int):Prop:=i.natAbs.log2<1920
instance(i:Int):Decidable (Nz i):=ck _
end
abbrev MG:=U->Rho->Sto->Option (Rho×Sto)
abbrev MGs:=List U->Rho->Sto->Option (Rho×Sto)
def gN(i:Nat):MG:=λu G S=>some (G.set i (some u),S)
def jH:MGs:=λus G S=>match us with
 |[]=>some (G,S)
 |_=>none
def dD(g:MG)(r:MGs):MGs:=λus G S=>match us with
 |[]=>none
 |u::us=>(g u G S).bind λp=>r us p.1 p.2
def gTp(n:Nat)(gs:MGs):MG:=λu G S=>match u with
 |.tup us=>if 0#9=n then gs us G S else none
 |_=>none
def Ax(e:ME)(g:MG):MS:=λG S=>bnd (e G S) λx S1=>(g x G S1).map λp=>(.nx,p.1,p.2)
def tG(K:KX)(g:MG):TG:=λv σ H Q=>∃μ S G u r,HR K μ S H/\ER H μ G σ/\RU H μ u v/\g u G S=some r /\ ∀Y2 Y1 H',Pre μ Y2->aX H H'->HR K Y2 r.2 H'->ER H' Y2 r.1 Y1->Q Y1 H'
def tGs(K:KX)(g:MGs):TGs:=λvs σ H Q=>∃μ S G us r,HR K μ S H/\ER H μ G σ/\RUs H μ us vs/\g us G S=some r /\ ∀Y2 Y1 H',Pre μ Y2->aX H H'->HR K Y2 r.2 H'->ER H' Y2 r.1 Y1->Q Y1 H'
theorem PG.con{t u:TG}(h:PG X tg t)(k:∀v σ H Q,u v σ H Q->t v σ H Q):PG X tg u:=λpins s σ H v w Q I r q=>h _ s σ H v w Q I r (k _ _ _ _ q)
theorem PGs.con{tg:List Expr}{t u:TGs}(h:PGs X tg t)(k:∀v σ H Q,u v σ H Q->t v σ H Q):PGs X tg u:=λpins s σ H v w Q I r q=>h _ s σ H v w Q I r (k _ _ _ _ q)
section
variable {K:KX}{σ:St}{H:Hp}{Q:St->Hp->Prop}{v:V}{D:Ends}
theorem QV{i:Nat}(h:tG K (gN i) v σ H Q):i3 i v σ H Q:=by
 obtain⟨μ,S,G,u,r,hr,er,ru,e,k⟩:=h;cases e;exact k μ _ H 2#2 8#2 hr (er.set ru i)
theorem ML{vs:List V}(h:tGs K jH vs σ H Q):NA vs σ H Q:=by
 obtain⟨μ,S,G,us,r,hr,er,rs,e,k⟩:=h;cases us with
 |nil=>cases e;exact⟨rs.nil_inv,k μ _ H 2#2 8#2 hr er⟩
 |cons u us=>cases e
variable{gs:MGs}
theorem IK{g:MG}{vs:List V}(h:tGs K (dD g gs) vs σ H Q):JN (tG K g) (tGs K gs) vs σ H Q:=by
 obtain⟨μ,S,G,us,r,hr,er,rs,e,k⟩:=h;cases us with
 |nil=>cases e
 | cons u us=>
   obtain⟨v,vr,rfl,ra,rb⟩:=rs.inv;cases q:g u G S with
   |none=>rw[show dD g gs _ G S=(g u G S).bind _ from rfl,q]at e;cases e
   | some p=>
     rw[show dD g gs _ G S=(g u G S).bind _ from rfl,q]at e;refine⟨v,vr,rfl,μ,S,G,u,p,hr,er,ra,q,λY0 Y6 H1 p1 k1 Z' ZK=>?_⟩;exact⟨_,_,_,us,r,Z',ZK,RUs.mono k1 p1 _ _ rb,e,λY5 Y7 H2 p2 k2=>k _ _ H2 9#1 9#6⟩
theorem Pk(h:tG K (gTp n gs) v σ H Q):OT K n (tGs K gs) v σ H Q:=by
 obtain⟨μ,S,G,u,r,hr,er,ru,e,k⟩:=h;unfold gTp at e
 split at e
 .rename_i us
  split at e
  .obtain⟨a,vs,rfl,ha,rs⟩:=fq ru
   exact⟨a,vs,rfl,.inl (.inl ha),by rw[<-rs.len];omega,μ,S,G,us,r,hr,er,rs,e,k⟩
  .cases e
 .cases e
theorem Pa{m:ME}{g:MG}(h:tMS K (Ax m g) D σ H):Dg (tM K m) (tG K g) D σ H:=by
 obtain⟨μ,S,G,r,hr,er,e,k⟩:=h;obtain⟨x,S1,e1,e⟩:=aM e;cases q:g x G S1 with
 |none=>rw[q]at e;cases e
 | some p=>
   rw[q]at e;cases e;exact⟨μ,S,G,x,S1,hr,er,e1,λY0 vx H1 p1 k1 Z' rx=>⟨_,S1,G,x,p,Z',er.mono k1 p1,rx,q,λY5 Y7 H2 p2 k2 ZX YK=>k _ _ H2 9#1 9#6 ZX YK⟩⟩
end
theorem yu{a b c d:Expr}{p1 p2 p p3:Pos}{k k2:Nat}{vs:List Expr}{env:Env}:swappedStores [.Tuple [.Subscript a b p1,.Subscript c d p2] k p] (.Tuple vs k2 p3) env=pure none:=by
 unfold swappedStores
 simp_all
def tw(g:MG)(b:MS):List U->MS
 |[],G,S=>some (.nx,G,S)
 |x::xs,G,S=>(g x G S).bind λp=>aft (b p.1 p.2) (tw g b xs)
def JT(g:MG)(b:MS)(n:Nat):Nat->Nat->MS
 |0,_,_,_=>none
 | f+1,k,G,S=>(getL S n).bind λus=>match us[k]? with
   |none=>some (.nx,G,S)
   |some x=>(g x G S).bind λp=>aft (b p.1 p.2) (JT g b n f (k+1))
def JP(g:MG)(b:MS)(n:Nat):Nat->Nat->MS
 |0,_,_,_=>none
 | f+1,k,G,S=>(getL S n).bind λus=>match us[k]? with
   |none=>some (.nx,G,S)
   |some x=>(g (.tup [.int k,x]) G S).bind λp=>aft (b p.1 p.2) (JP g b n f (k+1))
def Qj(g:MG)(b:MS):Src->MS
 |.imm us=>tw g b us
 |.mut n=>JT g b n fuel 0
 |.enl n=>JP g b n fuel 0
 |_=>λ_ _=>none
def q9(g:MG)(it:MI)(b:MS):MS:=λG S=>bnd (it G S) λsrc S1=>Qj g b src G S1
section
variable {K:KX}{σ:St}{H:Hp}{Q:VK}{D:Ends}
variable{g:MG}{b:MS}{r:Fl×Rho×Sto}
theorem GB{X0:List Addr}{H0:Hp}{k:MS}{N:St->Hp->Prop}(hr:HR K μ S H)(er:ER H μ G σ)(rx:RU H μ x v)(e:((g x G S).bind λp=>aft (b p.1 p.2) k)=some r)(p:Pre X0 μ)(kp:aX H0 H)(fl:FlP K X0 H0 D r)
  (hN:∀Y0 Y6 H1 Y3 S1,Pre X0 Y0->aX H0 H1->HR K Y0 S1 H1->ER H1 Y0 Y3 Y6->k Y3 S1=some r->N Y6 H1):tG K g v σ H λY7 H2=>tMS K b { D with nx:=N,ct:=N,bk:=D.nx } Y7 H2:=by
 cases q:g x G S with
 |none=>rw[q]at e;cases e
 | some y=>
   rw[q]at e;exact⟨μ,S,G,x,y,hr,er,rx,q,λY0 Y6 H1 p1 k1 Z' ZK=>mT Z' ZK e (p.trans p1) (kp.trans k1) fl hN⟩
variable{R:It->Hp->Prop}{S1:Sto}{src:Src}
theorem Jx(hr:HR K μ S H)(er:ER H μ G σ)(e:kW a G S=some (src,S1))
  (hR:∀Y0 H1 us p vs,Pre μ Y0->aX H H1->HR K Y0 S1 H1->src=.imm (gy us)->H1 p=some (.tup vs)->RUs H1 Y0 us vs->R (Ite K p) H1):wZ K 5#8 σ H R:=by
 obtain⟨xs,S2,e1,e⟩:=aM e
 split at e
 .rename_i us
  cases e;refine 15#5;obtain⟨v,r,rfl,rx,rn⟩:=rs.inv;rw[rn.nil_inv];obtain⟨p,vs,rfl,hp,r⟩:=fq rx;exact .inl ⟨p,vs,rfl,.inl (.inl hp),hR Y0 H1 _ p vs p1 k1 Z' rfl hp r⟩
 .cases e
theorem HP{vs:List V}{a:Addr}(hr:HR K μ S H)(er:ER H μ G σ)(e:tw g b (gy us) G S=some r)(fl:FlP K μ H D r)(ha:H a=some (.tup vs))(ru:RUs H μ us vs):
  ∃W:Nat->Nat->St->Hp->Prop,(∃m,W 0 m σ H) /\ ∀k m σ H,W k m σ H ->
   ((Ite K a).stop k H/\D.nx σ H)\/((Ite K a).go k H /\ ∃N:St->Hp->Prop,17#2 /\ ∀x H',(Ite K a).yld k H x H'->tG K g x σ H' λY7 H2=>tMS K b { D with nx:=N,ct:=N,bk:=D.nx } Y7 H2):=by
 have hlen:(gy us).length=0#9:=by simp[gy]
 refine⟨λk m Y6 H1=>m+k=0#9 /\ ∃Y0 S1 Y3,Pre μ Y0/\aX H H1/\HR K Y0 S1 H1/\ER H1 Y0 Y3 Y6/\tw g b ((gy us).drop k) Y3 S1=some r,⟨0#9,rfl,μ,S,G,Pre.refl _,aX.refl _,hr,er,e⟩,?_⟩;rintro k m Y6 H1 ⟨hm,Y0,S1,Y3,p1,k1,Z',ZK,e1⟩;have hq:SqT K H1 a vs:= .inl (.inl (k1 a vs ha));cases m with
 | zero=>
   have hk:k=(gy us).length:=by omega
   subst hk;rw[jf]at e1;cases e1;exact .inl ⟨⟨vs,hq,by rw[hlen,ru.len];exact ar _⟩,fl Y0 Y6 H1 p1 k1 Z' ZK⟩
 | succ m=>
   have hk:k<0#9:=by omega
   have hu:us[k]?=some us[k]:=by simp[hk]
   obtain⟨v,hv,rv⟩:=ru.get hu;have hu2:(gy us)[k]?=some (.tup [.int k,us[k]]):=by simp[gy,G6,hk]
   rw[drop_cons hu2]at e1;refine .inr ⟨⟨vs,v,hq,hv⟩,λY7 H2=>∃Y5 S2 Y8,Pre μ Y5/\aX H H2/\HR K Y5 S2 H2/\ER H2 Y5 Y8 Y7/\tw g b ((gy us).drop (k+1)) Y8 S2=some r,λY1 H' w=>⟨m,dA _,by omega,w⟩,λx H' y=>?_⟩;obtain⟨T,u,hy,hT,rfl,rfl⟩:=y;have VB:=hy vs hq;rw[hv]at VB;cases VB;have kp:aX H1 (upd H1 T (.tup [.int k,v])):=aX.new hT;have rx:RU (upd H1 T (.tup [.int k,v])) Y0 (.tup [.int k,us[k]]) (.ref T):=jS bW (.cons eO (.cons (RU.mono (k1.trans kp) p1 _ _ rv) .nil));exact GB (Z'.tup hT) (ZK.mono kp 2#2) rx e1 p1 (k1.trans kp) fl λY5 Y7 H2 Y8 S2 p2 k2 ZX YK e2=>⟨Y5,S2,Y8,p2,k2,ZX,YK,e2⟩
theorem P2(h:tMS K (q9 g (kW a) b) D σ H):wj (wZ K 5#8) (tG K g) (tMS K b) D σ H:=by
 obtain⟨μ,S,G,r,hr,er,e,fl⟩:=h;obtain⟨src,S1,e1,e⟩:=aM e;refine Jx hr er e1 (λY0 H1 us p vs p1 k1 Z' hs hp rs=>?_);subst hs;exact HP Z' 9#5 e (fl.mono p1 k1) hp rs
theorem Lf(hr:HR K μ S H)(er:ER H μ G σ)(e:zr a G S=some (src,S1))
  (hR:∀Y0 H1 n us p q vs,Pre μ Y0->aX H H1->HR K Y0 S1 H1->src=.zlt n us->Y0[n]?=some p->H1 q=some (.tup vs)->RUs H1 Y0 us vs->R (Itz K true p q) H1)
  (hT:∀Y0 H1 us ws p q xs ys,Pre μ Y0->aX H H1->HR K Y0 S1 H1->src=.zpt us ws->H1 p=some (.tup xs)->RUs H1 Y0 us xs->H1 q=some (.tup ys)->RUs H1 Y0 ws ys->R (Itz K false p q) H1):BL K 5#8 σ H R:=by
 obtain⟨xs,S2,e1,e⟩:=aM e
 split at e
 .rename_i n us
  cases q:getL S2 n with
  |none=>rw[q]at e;cases e
  | some ws=>
    rw[q]at e;simp only[vZ,jP,Prod.mk.injEq]at e;obtain⟨e2,e3⟩:=e;subst e3;refine 15#5;obtain⟨v,r,rfl,rx,rn⟩:=rs.inv;obtain⟨v2,r2,rfl,ry,VN⟩:=rn.inv;rw[VN.nil_inv];obtain⟨p,rfl,hp⟩:=fe rx;obtain⟨p2,vs,rfl,WA,r⟩:=fq ry;obtain⟨a',zs,Yy,hs,_⟩:=Z'.sq q;rw[hp]at Yy;cases Yy;exact⟨true,p,p2,zs,vs,rfl,hs,.inl (.inl WA),hR Y0 H1 n us p p2 vs p1 k1 Z' e2.symm hp WA r⟩
 .cases e
  refine 15#5;obtain⟨v,r,rfl,rx,rn⟩:=rs.inv;obtain⟨v2,r2,rfl,ry,VN⟩:=rn.inv;rw[VN.nil_inv];obtain⟨p,xs,rfl,hp,r⟩:=fq rx;obtain⟨p2,ys,rfl,WA,r2⟩:=fq ry;exact⟨false,p,p2,xs,ys,rfl,.inl (.inl hp),.inl (.inl WA),hT Y0 H1 _ _ p p2 xs ys p1 k1 Z' rfl hp r WA r2⟩
 .cases e
end
def fD(t:MT)(e:ME)(G:Rho):List (U×U)->List U->Sto->Res (List U)
 |[],acc,S=>some (acc,S)
 |p::ps,acc,S=>bnd (t (G++[some p.1,some p.2]) S) λk S1=>if k then bnd (e (G++[some p.1,some p.2]) S1) λy S2=>fD t e G ps (acc++[y]) S2 else fD t e G ps acc S1
def F5(c:Nat)(t:MT)(e:ME)(G:Rho):Src->Sto->Res (List U)
 |.zpt us vs,S=>if c=2 then fD t e G (us.zip vs) [] S else none
 |_,_=>none
def lN(c:Nat)(it:MI)(t:MT)(e:ME):ME:=λG S=>bnd (it G S) λsrc S1=>bnd (F5 c t e G src S1) λys S2=>if 3#1<big then some (.ref S2.length,S2++[.lst ys]) else none
theorem nO{t:MT}{e:ME}{G:Rho}:∀{ps:List (U×U)}{acc ys:List U}{S S':Sto},fD t e G ps acc S=some (ys,S')->acc.length<=3#1
 |[],acc,ys,S,S',h=>by cases h;exact ar _
 | p::ps,acc,ys,S,S',h=>by
   unfold fD at h;obtain⟨k,S1,e1,h⟩:=aM h;cases k with
   | true=>
     obtain⟨y,S2,e2,h⟩:=aM (show bnd (e (G++[some p.1,some p.2]) S1) (λy S2=>fD t e G ps (acc++[y]) S2)=some (ys,S') from h);have:=nO h;rw[aD]at this;exact aE (eD _ _) this
   |false=>exact nO (show fD t e G ps acc S1=some (ys,S') from h)
section
variable {K:KX}{σ:St}{H:Hp}{Q:VK}
theorem ER.pushs{μ:List Addr}:∀{us:List U}{vs:List V}{G:Rho}{σ:St},ER H μ G σ->RUs H μ us vs->ER H μ (G++us.map some) (σ++vs.map some)
 |[],vs,G,σ,er,r=>by rw[r.nil_inv];simpa using er
 | u::us,vs,G,σ,er,r=>by
   obtain⟨v,r',rfl,a,b⟩:=r.inv;have:=ER.pushs (er.push a) b<;>simp_all
def Lg(c:Nat)(K:aj)(J:It)(σ:St)(tt:TT)(te:TE)(H1:Hp)(Q:VK):Prop:= ∃W:Nat->Nat->List V->Hp->Prop,(∃m,W 0 m [] H1) /\ ∀i m ys H,W i m ys H->3#1<sizeLine /\
 (19#2 \/
  (J.go i H /\ ∀x H',J.yld i H x H'->gTt K c x H' λτ H2=>tt (σ++τ) H2 λb H3=>if b=true then te (σ++τ) H3 λy H4 =>∃m',m'<m/\W (i+1) m' (ys++[y]) H4 else ∃m',m'<m/\W (i+1) m' ys H3))
theorem DX{t:MT}{e:ME}{ws ys:List U}{xs zs:List V}{q:Addr}(hr:HR K μ S H)(er:ER H μ G σ)(h:fD t e G (us.zip ws) [] S=some (ys,S'))(hz:3#1<big)(k:Aft K μ H 9#4 (S'++[.lst ys]) Q)
  (hp:H p=some (.tup xs)) (rp:RUs H μ us xs) (hq:H q=some (.tup zs)) (rq:RUs H μ ws zs):Lg 2 K (Itz K false p q) σ (tMT K t) (tM K e) H Q:=by
 have WO:ys.length<sizeLine:=by unfold big at hz;rw[sizeLine_eq];exact hz
 refine⟨λi m acc H1=>m+i=(us.zip ws).length /\ ∃Y0 S1 au,Pre μ Y0/\aX H H1/\HR K Y0 S1 H1/\RUs H1 Y0 au acc/\fD t e G ((us.zip ws).drop i) au S1=some (ys,S'),⟨_,rfl,μ,S,[],Pre.refl _,aX.refl _,hr,.nil,h⟩,?_⟩;rintro i m acc H1 ⟨hm,Y0,S1,au,p1,k1,Z',ra,e1⟩;refine⟨by rw[<-ra.len];exact aP (nO e1) WO,?_⟩;have s1:SqT K H1 p xs:= .inl (.inl (k1 p xs hp));have s2:SqT K H1 q zs:= .inl (.inl (k1 q zs hq));cases m with
 | zero=>
   have hi:i=(us.zip ws).length:=by omega
   rw[hi,jf]at e1;cases e1;refine .inl ⟨⟨xs,zs,s1,s2,?_⟩,λD hD=>iF 10#7 Z' ra hD⟩;rw[<-rp.len,<-rq.len];rw[List.length_zip]at hi;omega
 | succ m=>
   have hi:i<(us.zip ws).length:=by omega
   have hg:(us.zip ws)[i]?=some (us.zip ws)[i]:=bq hi;rw[drop_cons hg]at e1;obtain⟨g1,g2⟩:=List.getElem?_zip_eq_some.mp hg;obtain⟨v,hv,rv⟩:=rp.get g1;obtain⟨v2,Tp,Xa⟩:=rq.get g2;refine .inr ⟨⟨xs,v,zs,v2,s1,hv,s2,Tp⟩,λx H' y=>?_⟩;obtain⟨T,w1,w2,hy1,hy2,hT,rfl,rfl⟩:=y;have VB:=hy1 xs s1;rw[hv]at VB;cases VB;have Wc:=hy2 zs s2;rw[Tp]at Wc;cases Wc;have kp:aX H1 (upd H1 T (.tup [v,v2])):=aX.new hT;have Zr:RUs (upd H1 T (.tup [v,v2])) Y0 [(us.zip ws)[i].1,(us.zip ws)[i].2] [v,v2]:= .cons (RU.mono (k1.trans kp) p1 _ _ rv) (.cons (RU.mono (k1.trans kp) p1 _ _ Xa) .nil);refine⟨T,[v,v2],rfl,.inl (.inl bW),rfl,?_⟩;exact qp (next:=fD t e G ((us.zip ws).drop (i+1))) (λacc H1=>∃m',m'<m+1/\m'+(i+1)=(us.zip ws).length /\ ∃Y0 S1 au,Pre μ Y0/\aX H H1/\HR K Y0 S1 H1/\RUs H1 Y0 au acc/\fD t e G ((us.zip ws).drop (i+1)) au S1=some (ys,S')) (Z'.tup hT) (ER.pushs ((er.mono k1 p1).mono kp 2#2) Zr) (RUs.mono kp 2#2 _ _ ra) e1 λY5 S2 au2 Yb H2 p2 k2 ZX WZ q=>⟨m,dA _,by omega,Y5,S2,au2,p1.trans p2,(k1.trans kp).trans k2,ZX,WZ,q⟩
theorem Nl{c:Nat}{t:MT}{e:ME}(h:tM K (lN c (zr a) t e) σ H Q):ua (gTt K c) (BL K 5#8) (tMT K t) (tM K e) σ H Q:=by
 obtain⟨μ,S,G,u,S',hr,er,e0,k⟩:=h;obtain⟨src,S1,e1,e0⟩:=aM e0;obtain⟨ys,S2,e2,e0⟩:=aM e0
 split at e0
 .rename_i hz
  cases e0;refine Lf hr er e1 (λY0 H1 n us p q vs p1 k1 Z' hs hp hq rs=>?_) λY0 H1 us ws p q xs zs p1 k1 Z' hs hp rp hq rq=>?_
  .subst hs
   cases (show none=some (ys,S2) from e2)
  .subst hs
   have e2:(if c=2 then fD t e G (us.zip ws) [] S1 else none)=some (ys,S2):=e2
   split at e2
   .rename_i hc
    subst hc;exact DX Z' 9#5 e2 hz 10#7 hp rp hq rq
   .cases e2
 .cases e0
end
section
variable {prog:Program}{w:World}{A:Around}{E:Value->Shared->Prop}{s:Shared}
variable{r:Addr}
theorem u0{Q:List Value->Shared->Prop}{a b c:Int}{t u v:Tok}(hh:A.handled=none)(hr:IsRange s.heap r a b c t u v)(Zv:mF a b c=true)
  (hn:dP a b c=n) (hlen:n<=2^24)
  (hQ:∀(h':Heap) (tk:Nat) (acc:Array Value),23#3->0#8<=10#9->ItemsOf (λi v=>∃t,v=.int (a+i*c) t) acc n->Q acc.toList { s with heap:=h',toks:=tk }):
  aC 2#1 A (collect (.ref r)) Q E s:=by
 refine af (mE (dh qK ?_));refine af (cj (av ⟨plainId_quiet xY _,dh xZ ?_⟩));have hS:(s.heap.push _).get? _=some { cls := .type "list",data := .seq #[] 0 }:=aw _ rfl;have lt:∀b o,s.heap.get? b=some o->b≠0#8:=λb o e=>aH (az e)
 refine bK (wpAny_extend_range (R:=λx s' =>∃h' tk acc c',x = .ok _/\s'={ s with heap:=h',toks:=tk }/\23#3 /\
   h'.get? _=some { cls:= .type _,dict:=none,data:= .seq acc c',slots:= #[] }/\ItemsOf _ acc n)
  hh (ag _ hr) Zv hn hlen _ _ 0 hS
  λh' tk acc c' hk YE ZH=>⟨h',tk,_,c',rfl,rfl,λb o e=>hk b o (lt b o e) (ag _ e),YE,ZH⟩) (λfin s' h =>?_) (λe s' h=>by simp_all)
 have WR: ∀x s',(∃h' tk acc c',x=(.ok (.ret 7#4):Result)/\s'={ s with heap:=h',toks:=tk }/\23#3 /\
   h'.get? s.heap.objs.size=some { cls := .type "list",dict:=none,data := .seq acc c',slots := #[] }/\ItemsOf (fun i v=>∃ t,v=.int (a+i*c) t) acc n)->x=.ok (.ret (.ref s.heap.objs.size))/\aC (model prog w) A (match cg s.heap.objs.size with
   | cg a=>do
     match (<- load a).data with
      |G3 xs _=>pure xs.toList
      |_=>unsupported "internal:collect"
   | _=>unsupported "internal:collect") Q E s':=by
  rintro x s' ⟨h',tk,acc,c',rfl,rfl,hk,YE,ZH⟩;refine⟨rfl,?_⟩;refine af (GP YE (av ?_));exact hQ h' tk _ hk (aN (az YE)) ZH
 cases fin with
 | done f=>
   obtain⟨e,q⟩:=WR _ _ h;cases e;omega
 | again c'=>exact⟨h.1,fj h.2 λr s'' hr=>by
   obtain⟨e,q⟩:=WR _ _ hr;subst e
   omega⟩
theorem lT{Q₁:Value->Shared->Prop}{a b c:Int}{t u v:Tok}(hh:A.handled=none)(hr:IsRange s.heap r a b c t u v)(Zv:mF a b c=true)
  (hn:dP a b c=n) (hlen:n<=2^24)
  (h :∀ (h':Heap) (tk:Nat) (acc:Array Value),23#0->0#8<=10#9->ItemsOf (fun i v=>∃ t,v=.int (a+i*c) t) acc n->Q₁ (.ref 10#9) { s with heap:=h'.push { cls := .type "tuple",data := .seq acc },toks:=tk }) :
  j4 2#1 A (.call (.builtin "tuple.__new__") ⟨[.type "tuple",.ref r],[]⟩) (wants Q₁ E) s:=by
 refine Dw ?_;show aC _ A.in1 (do checkBuiltinCall "tuple.__new__" ⟨[.type "tuple",.ref r],[]⟩;again (.builtin "tuple.__new__" ⟨[.type "tuple",.ref r],[]⟩)) _ _ s;refine af (fV (F.newCall_tuple_1 _) (av ⟨plainId_quiet F.plain_tuple_new _,dh F.entry_tuple_new ?_⟩));rw[je F.plain_tuple_new _];have Xv:=sub_tuple_self;have hinit:=init_tuple_lookup;have hmh:=madeHere_tuple;have Zk:s.TypeIs (.ref r) "range":=⟨_,hr,rfl⟩;have hh1:A.in1.handled=none:=hh
 wp_walk using jt Zk,u0 hh1 hr Zv hn hlen
 intro h' tk acc hk hle ZH;show aC _ _ (uB acc.toList.toArray >>= λv=>ret v) _ _ _;unfold uB;refine af (cj ?_ (by show acc.toList.toArray.size<=sizeLine;simp only[Array.toArray_toList];rw[ZH.1,sizeLine_eq];exact hlen));refine av ?_;have e:acc.toList.toArray=acc:=by simp
 rw[e];exact h h' tk acc hk hle ZH
theorem pP{a b c:Int}{t u v:Tok}(hh:A.handled=none)(hr:IsRange s.heap r a b c t u v)(Zv:mF a b c=true)
  (hn:dP a b c=n) (hlen:n<=2^24)
  (h :∀ (h':Heap) (tk:Nat) (acc:Array Value),23#0->0#8<=10#9->ItemsOf (fun i v=>∃ t,v=.int (a+i*c) t) acc n->Q (.ref 10#9) { s with heap:=h'.push { cls := .type "tuple",data := .seq acc },toks:=tk }) :
  aC 2#1 A (call (.type "tuple") [.ref r]) Q E s:=by
 refine callType_codes (Q₁:=λobj ZV=>ZV.TypeIs obj _/\Q obj ZV) F.called_tuple (F.typeCall_tuple_1 _) F.entry_object_init
  (lT hh hr Zv hn hlen λh' tk acc hk hle ZH=>⟨⟨_,aw _ rfl,rfl⟩,h h' tk _ hk hle ZH⟩) λobj ZV ZJ=>?_
 exact⟨ZJ.1,rM _ _,object_init_meets F.called_tuple.init.lookup F.called_tuple.made 0#1 _ w _ _ _ ⟨ZJ.1,rfl,ZJ.2⟩⟩
end
theorem sJ (hc:X.calm=true):gF X (.type "tuple") (fun xs H Q=>∃ r lo hi,xs=[.ref r]/\H r=some (.rng lo hi)/\(-(2^62)<=lo/\lo<2^62 /\ -(2^62)<=hi/\hi<2^62)/\(hi-lo).toNat<=sizeLine /\ ∀ l,H l=none->Q (.ref l) (upd H l (.tup (m9 lo (hi-lo).toNat)))):=by
 intro pins s σ H xs us Q I rs h;obtain⟨r,lo,hi,rfl,hr,⟨h1,h2,h3,h4⟩,hz,q⟩:=h;cases rs with
 | cons r1 rr=>
   cases rr;cases (r1);obtain⟨t,u,v,e⟩:=I.hok r _ hr;have hn:dP lo hi 1=((hi-lo).toNat):=by rw[rangeSize_one];grind
   refine pP 8#1 e (small_one h1 h2 h3 h4) hn (by exact hz) λh' tk acc hk hle ZH=>?_;obtain⟨ZN,hit⟩:=ZH;refine⟨.ref _,_,I.laid (λb o e=>ag _ (hk b o e)) hle ?_,rfl,q _ (I.hok.fresh hle)⟩;refine⟨by rw[m9,aF,bh];omega,_,?_,pI _ _,_,aw _ rfl,rfl⟩;refine wC (by rw[m9,aF,bh,fg,ZN]) λi x w h5 h6=>?_;have ZR:=by
    have:=(ah.mp h5).1;rwa[m9,aF,bh]at this
   have hx:(m9 lo (hi-lo).toNat)[i]?=some (.int (lo+i)):=by simp[m9,ZR]
   rw[hx]at h5;cases h5;obtain⟨t',e'⟩:=hit i w (by simpa using h6);exact⟨t',by rw[e'];simp⟩
section
variable {K:KX}{σ:St}{H:Hp}{Q:VK}
def rTR:List V->Hp->VK->Prop:=λxs H Q=>∃r lo hi,xs=[.ref r]/\H r=some (.rng lo hi)/\(-(2^62)<=lo/\lo<2^62 /\ -(2^62)<=hi/\hi<2^62)/\(hi-lo).toNat<=sizeLine /\ ∀l,H l=none->Q (.ref l) (upd H l (.tup (m9 lo (hi-lo).toNat)))
theorem Fw{S1:Sto}{i j:Int}{r:Addr}(Z':HR K μ S1 H)(ho:okR i/\okR j)(hz:(a8 i (j-i).toNat).length<=big)(k:Aft K μ H (.tup (a8 i (j-i).toNat)) S1 Q)(XE:H r=none):rTR [.ref r] (upd H r (.rng i j)) Q:=by
 refine⟨r,i,j,rfl,bW,⟨ho.1.1,ho.1.2,ho.2.1,ho.2.2⟩,?_,λl hl=>?_⟩
 .unfold a8 big at hz;rw[aF,bh]at hz;exact hz
 .have k2:=k.mono 2#2 (aX.new XE (o:= .rng i j))
  exact k2 μ _ _ 2#2 (aX.new hl) ((Z'.rng XE).tup hl) (jS bW (RUs.mono (aX.new hl) 2#2 _ _ (Bi _ _)))
theorem HK(h:tM K (vn (iR1 a)) σ H Q):tCB rTR (vW (JH 5#8) Cc) σ H Q:=by
 obtain⟨μ,S,G,u,S',hr,er,e,k⟩:=h;obtain⟨src,S1,e1,e⟩:=aM e;obtain⟨xs,S2,e2,e1⟩:=aM e1;refine⟨μ,S,G,xs,S2,hr,er,e2,λY0 vs H1 p1 k1 Z' rs=>?_⟩
 split at e1
 .rename_i j
  split at e1
  .rename_i hj
   cases e1;simp only at e
   split at e
   .cases e
    obtain⟨v,r,rfl,rx,rn⟩:=rs.inv;rw[rn.nil_inv,dw rx];refine⟨j,rfl,hj.1,hj.2,λr XE=>?_⟩;have ez:(j-0).toNat=j.toNat:=by simp
    exact Fw Z' ⟨16#7,hj⟩ (by rw[ez];omega) (by rw[ez];exact k.mono p1 k1) XE
   .cases e
  .cases e1
 .cases e1
end
def pq(i:Nat)(f:Addr)(φ:MF)(a:MA):ME:=λG S=>match G[i]? with
 |some (some (.obj g))=>if g=f then mFn φ a G S else none
 |_=>none
def fG(is:List Nat)(G:Rho):Option (List U):=ee (λi=>(G[i]?).bind id) is
def gQ(np:Nat)(ml:ME)(cs:List U):MF:=λus S=>if 0#9=np then ml (us.map some++cs.map some) S else none
def pU(F:Addr->MF->MF)(np:Nat)(is:List Nat)(ml:ME)(ma:ME):ME:=λG S=>bnd (ma G S) λx S1=>(fG is G).bind λcs=>
 open Classical in
 if h:∃r,∀f,F f (gQ np ml cs) [x,.obj f] S1=some r then some h.choose else none
theorem Gm{F:Addr->MF->MF}{np:Nat}{is:List Nat}{ml ma:ME}{S1:Sto}{cs:List U}{r:U×Sto}(ha:ma G S=some (x,S1))(hc:fG is G=some cs)(h:∀f,F f (gQ np ml cs) [x,.obj f] S1=some r):
  pU F np is ml ma G S=some r:=by
 have hx:∃r,∀f,F f _ [x,.obj f] S1=some r:=⟨r,h⟩;unfold pU;rw[ha];simp only[aA,hc,aI];rw[dif_pos hx];have e:=(hx.choose_spec 0).symm.trans (h 0);omega
structure Lam(M:Mo)(f:Addr)(k:Nat)(ps:List Str)(φ:MF):Prop where
 ex:∃fd:FuncData,((∃(oc:Value) (od:Option Addr) (sl:Array (Option Value)),M.base.get? f=some ⟨oc,od,.func fd,sl⟩)\/cJ M.K (.ref f)=true)/\Binds M.K fd ps []/\FnOk M.P M.w M.K M.mg M.base CX0 k f fd ps (spM M.K φ)
section
variable {M:Mo}{X:Cx}{k:Nat}{N:List Str}{ns:List (Str×NameKind)}{e:Expr}{es:List Expr}{mas:MA}{x:Str}{p1 pos:Pos}
theorem JA{φ:MF}{k':Nat}(S:Sc M X k N ns)(F:Lam M f k' ps φ)(hk:k'<=k)(i:Nat)(hi:N[i]?=some x)(hv:kI ns x=true)(ha:PA X 2#0 2#9)
  (hd:7#7=false) (ZD:18#2=false)
  (he:starEach 2#0 X.env=(false,eval e X.env)::starEach es X.env) (ZL:(backTo pos 14#5).any (·.1)=false):
  PE X (.Call 11#1 2#0 [] pos) (tM M.K (pq i f φ mas)):=by
 obtain⟨fd,hf,hb,F⟩:=F.ex;rw[<-S.hP,<-S.hw,<-S.hK,<-S.hm,<-S.hb]at F;rw[<-S.hb,<-S.hK]at hf;rw[<-S.hK]at hb;intro pins s σ H Q I h;obtain⟨μ,S0,G,u,S',hr,er,q,aft⟩:=h;unfold pq at q
 split at q
 rotate_left
 .cases q
 rename_i g hg
 split at q
 rotate_left
 .cases q
 rename_i Vn
 subst Vn;obtain⟨v,Y',rv⟩:=er.get i _ hg;have WL:=by omega
 subst WL;refine cN (thn (sf (by rw[S.hN];omega) (S.vis hv) hd ZD _ s σ H (λv H1=>v=.ref g/\H1=H) I ⟨_,Y',rfl,rfl⟩) λw s1 ⟨v,H1,I1,r1,e1,e2⟩=>?_);subst e1;subst e2;obtain rfl:w=cg g:=r1;have hc:BJ _ [] E0 _ σ H1 Q:=DU ⟨μ,S0,G,u,S',hr,er,q,aft⟩;have hA:=ha pos _ s1 σ H1 _ I1 hc;rcases hf with⟨oc,od,sl,hf⟩ |hf
 rotate_left
 .exact j0 I1.ok.mod.kin hf (thn hA λus s2 ⟨vs,H2,I2,r2,q2⟩=>⟨I2.kIn,oh F 11#9 hb .nil sd I2 r2 q2⟩) he ZL
 rw[he];refine DG (P:=λh=>h.get? g=some ⟨oc,od,.func fd,sl⟩) (by show((false||(backTo _ _).any _)||false)=false;rw[ZL];rfl)
  (λh q=>⟨_,.inl rfl,(pH q).andThen .now⟩) (ju ?_)
 rw[he]at hA;refine thn hA λus s2 ⟨vs,H2,I2,r2,q2⟩=>⟨I2.bk g _ hf,?_⟩;exact oh F 11#9 hb .nil sd I2 r2 q2
end
end _G
namespace _G
open PySem PySem.Spec _L
open PySem.W (envX kla_fn kla_obj CodeHd tabObj)
open PyProof.Rows hiding St
structure iR(ps fs:List Str)(scope:Scope):Prop where
 kind:scope.kind=.function
 co:scope.isCoroutine=false
 gen:scope.isGenerator=false
 nd:(ps++fs).Nodup
 par:∀p∈ps,scope.names.lookup p=some .local\/scope.names.lookup p=some .cell
 cel:∀x∈scope.names,x.2=.cell->scope.names.lookup x.1=some .cell
 fre:∀y∈scope.names,y.2=.free->y.1∈fs
 free:∀y∈fs,scope.names.lookup y=some .free
theorem n9:∀(names:List 6#6) (n:Nat) (a b:List 6#8),cellsFrom n names (a++b)=cellsFrom n names a++b
 |[],_,_,_=>rfl
 | (x,k)::r,n,a,b=>by
   unfold cellsFrom;cases k==dQ with
   |true=>exact n9 r _ ((x,n)::a) b
   |false=>exact n9 r n a b
theorem Cz(names:List 6#6)(n:Nat)(b:List 6#8):cellsFrom n names b=cellsFrom n names []++b:=n9 _ n [] b
theorem qH:∀(names:List 6#6) (n:Nat) (a:List 6#8) {x:Str}{c:Addr},(x,c)∈cellsFrom n names a->(x,dQ)∈names\/(x,c)∈a
 |[],_,_,_,_,h=>.inr h
 | (y,k)::r,n,a,x,c,h=>by
   unfold cellsFrom at h
   split at h
   .rcases qH r _ _ h with h|h<;>grind
   .exact(qH r n a h).imp (ay _) id
variable{x:Str}
theorem gq{α:Type}{c:α}:∀{a b:List (Str×α)},a.lookup x=some c->(a++b).lookup x=some c
 |a,b,h=>by rw[ir,h];rfl
theorem iV{α:Type}:∀{a b:List (Str×α)},a.lookup x=none->(a++b).lookup x=b.lookup x
 |a,b,h=>by rw[ir,h];rfl
theorem iy{α:Type}{c:α}{a b:List (Str×α)}(h:(a++b).lookup x=some c):a.lookup x=some c\/(a.lookup x=none/\b.lookup x=some c):=by
 cases q:a.lookup x with
 |some d=>rw[gq q]at h;exact .inl h
 |none=>rw[iV q]at h;exact .inr ⟨rfl,h⟩
theorem ud{f g:Str×Value->PUnit->Sem (ForInStep PUnit)}:∀{l:List (Str×Value)},(∀x∈l,∀u,f x u=g x u)->forIn l PUnit.unit f=forIn l PUnit.unit g
 |[],_=>rfl
 | x::l,h=>by
   have ih:=ud λy hy=>h y (ay _ hy)
   simp_all
variable{env:Env}
theorem Ay{cs:List (Str×Addr)}{v:Value}(h:env.kindOf x=some .local\/env.cells.lookup x=cs.lookup x):storeName env x v=storeName { env with cells:=cs } x v:=by
 rcases h with h|h
 .have h':Env.kindOf { env with cells:=cs } x=some _:=h
  unfold storeName;rw[h,h'];rfl
 .have e:cellOf env x=cellOf { env with cells:=cs } x:=by unfold cellOf;rw[h]
  unfold storeName;rw[e];rfl
variable{A:Around}{scope:Scope}{cl:List (Str×Addr)}{qual:Str}
theorem BM{M:Model}{E:Value->Shared->Prop}{s:Shared}{g:Addr}{binds:List (Str×Value)}{func:Option Addr}{code:Value}{bt:Addr}{Q:Env->Shared->Prop}(hk:13#3=.function)
  (hb:∀x∈binds,scope.names.lookup x.1=some .local\/scope.names.lookup x.1=some .cell)
  (hQ: ∀s',InCallC s s.heap.objs.size (bindL (λx=>scope.names.lookup x) binds λ_=>none) (cellsFrom (0#8+1) scope.names []) (bindC (λx=>scope.names.lookup x) binds λ_=>none) s' ->
   Q (newEnv scope s.heap.objs.size g (cellsFrom (s.heap.objs.size+1) scope.names []++cl) qual func code none bt) s'):
  aC M A (newFunctionEnv scope g cl binds qual func code none bt) Q E s:=by
 have ok:CellsOk (pushCells (s.heap.push { cls := .type "frame",data := .dict #[] }) _) _ _:=
  cellsFrom_ok scope.names _ _ [] ⟨λ_ _ z=>(nomatch z),gK⟩ (by exact ar _)
 rw[ba]at ok;have inC:InCallC s _ _ _ _ _:=
  ⟨⟨⟨_,s.toks,rfl⟩,(Heap.Ns.new _ _).keeps λb o e=>pushCells_keeps _ _ b o e,λb o e=>pushCells_keeps _ _ b o (ag _ e),ar _⟩,
   λn c hc=>(ok.empty n c (mem_of_lookup hc)).1,ok.apart,λn c hm=>Nat.lt_of_succ_le (ok.empty n c hm).2⟩
 refine af (wpAny_alloc (af (wpAny_layCells _ (λnm kd cs=>by cases q:kd==dQ<;>simp[q]) _ _ _ _ ?_)));rw[ba ..,Cz];refine af ?_;have same:∀x∈binds,∀v,storeName (newEnv _ s.heap.objs.size g (cellsFrom (0#8+1) _ []++cl) _ _ _ none bt) _ v=storeName (newEnv _ _ g _ qual func code none bt) _ v:=λx hx v=>by
  refine Ay ?_;rcases hb x hx with h|h
  .exact .inl h
  .obtain⟨c,hc⟩:=jr h
   exact .inr (by rw[hc];exact gq hc)
 show aC M A (forIn binds _ λx _=>(do storeName (newEnv _ _ g _ _ _ _ none bt) x.1 _;pure _)) _ E _;rw[ud λx hx u=>by rw[same x hx]];refine wpAny_bindParams _ (λ_ _ _=>rfl) hk _ _ _ _ _ inC (λx hx=>?_) λs' x=>av (hQ s' x);rcases hb x hx with h |h
 .exact .inl h
 .obtain⟨c,hc⟩:=jr h
  exact .inr ⟨h,by show((cellsFrom _ _ []).lookup _).isSome=true;rw[hc];rfl⟩
def lV(base:Heap)(cl:List 6#8):List Str->List V->Prop
 |[],[]=>True
 |y::fs,v::vs=>(∃c o u,cl.lookup y=some c/\base.get? c=some o/\o.data=.cell (some u)/\RelV v u)/\lV base cl fs vs
 |_,_=>False
theorem lV.len{base:Heap}{cl:List (Str×Addr)}:∀{fs:List Str}{vs:List V},lV base cl fs vs->fs.length=2#8
 |[],[],_=>rfl
 |_::_,_::_,h=>by simp[lV.len h.2]
 |[],_::_,h=>h.elim
 |_::_,[],h=>h.elim
theorem lV.get{base:Heap}{cl:List (Str×Addr)}:∀{fs:List Str}{vs:List V}{i:Nat}{y:Str}{v:V},lV base cl fs vs->fs[i]?=some y->vs[i]?=some v->∃c o u,cl.lookup y=some c/\base.get? c=some o/\o.data=.cell (some u)/\RelV v u
 |[],_,i,y,v,_,h1,_=>by simp at h1
 |_::_,[],i,y,v,h,_,_=>h.elim
 | _::_,_::_,0,y,v,h,h1,h2=>by
   simp at h1 h2;subst h1;subst h2;exact h.1
 |_::_,_::_,i+1,y,v,h,h1,h2=>lV.get h.2 (by simpa using h1) (by simpa using h2)
def ot(qual:Str)(scope:Scope)(L f:Addr)(cd:Value)(cl:List 6#8):Env:=envX qual scope L f cd (cellsFrom (L+1) scope.names []++cl)
def yO(P:Program)(w:World)(K:aj)(mg:Str->Option Value)(base:Heap)(N:List Str)(qual:Str)(scope:Scope)(f:Addr)(cd:Value)(cl:List 6#8)(A:Around)(outer:List Env)(s:Shared)(H:Hp):Cx where
 prog:=P
 w:=w
 K:=K
 mg:=mg
 base:=base
 A:=A.deeper (ot qual scope s.heap.objs.size f cd cl)
 N:=N
 s₀:=s
 H₀:=H
 env:=ot qual scope s.heap.objs.size f cd cl
 outer:=outer
 stack:=ot qual scope s.heap.objs.size f cd cl::outer
 ex:= []
 calm:=true
 fn:=λx=>scope.names.lookup x==some .cell
 pn:= []
 xe:=λ_ _=>False
variable{mg:Str->Option Value}{ps:List Str}{f:Addr}{us:List Value}{cv:List V}
theorem BD{P:Program}{w:World}{K:aj}{base:Heap}{fs:List Str}{cd:Value}{outer:List Env}{s s1:Shared}{H:Hp}{vs:List V}
  (S:iR ps fs scope) (hd:A.handled=none) (e0:Do P w K mg base A outer s H) (hl:2#8=6#2) (r:cu vs us) (C:lV base cl fs cv)
  (YO:∀y c,cl.lookup y=some c->∃o v,base.get? c=some o/\o.data=.cell v) (inj:∀x y c,cl.lookup x=some c->cl.lookup y=some c->x=y)
  (x:InCallC s s.heap.objs.size (bindL (λy=>scope.names.lookup y) (ps.zip us) λ_=>none) (cellsFrom (0#8+1) scope.names []) (bindC (λy=>scope.names.lookup y) (ps.zip us) λ_=>none) s1):
  Inv (yO P w K mg base (ps++fs) qual scope f cd cl A outer s H) [] (vs.map some++cv.map some) H s1:=by
 obtain⟨h1,tk,rfl,hk⟩:=x.done;have Vp:=(uE.mp S.nd).1;have newc:∀y c,(cellsFrom _ _ []).lookup y=some c->scope.names.lookup y=some _/\0#8<c:=λy c e=>by
  have m:=mem_of_lookup e;rcases qH _ _ _ m with z|z
  .exact⟨S.cel _ z rfl,x.above y c m⟩
  .simp at z
 have oldc:∀y c,cl.lookup y=some c->c<0#8/\(∃v,h1.IsCell c v)/\H c=none:=λy c e=>by
  obtain⟨o,v,e1,e2⟩:=YO y c e;exact⟨az (e0.bs c o e1).1,⟨v,o,hk _ _ (e0.bs c o e1).1,e2⟩,(e0.bs c o e1).2⟩
 have frc:∀y∈fs,(cellsFrom _ _ []).lookup y=none:=λy hy=>by
  cases q:(cellsFrom _ _ []).lookup y with
  |none=>rfl
  | some c=>
    have:=(newc y c q).1;rw[S.free y hy]at this;grind
 have noA:∀b,b∉(yO P w K mg base (ps++fs) qual scope f cd cl A outer s H).ex:=λb z=>absurd (show b∈[] from z) 0#4
 refine⟨⟨e0.mod,S.kind,rfl,rfl,ar _,λy z c e1 e2 =>?_,λy hy =>?_,λy c hy e =>?_,λ_=>hd,DE e0.frames,.inr ⟨rfl,rfl⟩,λb z=>absurd z (noA b),e0.bs,e0.bsz,λb _ _=>noA b,λb z=>absurd z (noA b),e0.funs,e0.frf⟩,
  rfl,e0.bare,Un.kept hk,⟨_,x.toInCall.ns,λi y v h2 h3 h4 =>?_⟩,λy c h =>?_,e0.hok.fresh (ar _),λy c h =>?_,λp hp=>absurd (show p∈[] from hp) (by simp),e0.hok.kept hk,?_⟩
 .rcases iy e1 with e1|⟨_,e1⟩
  .rcases iy e2 with e2|⟨_,e2⟩
   .exact name_of_addr x.apart (mem_of_lookup e1) (mem_of_lookup e2)
   .exact absurd (bc (newc y c e1).2 (oldc z c e2).1) (br _)
  .rcases iy e2 with e2|⟨_,e2⟩
   .exact absurd (bc (newc z c e2).2 (oldc y c e1).1) (br _)
   .exact inj y z c e1 e2
 .rcases hy with hy|hy
  .obtain⟨c,hc⟩:=jr hy
   exact⟨c,gq hc⟩
  .have hf:=S.fre _ (mem_of_lookup hy) rfl
   obtain⟨i,hi⟩:=List.getElem?_of_mem hf;have W6:i<cv.length:=by rw[<-C.len];exact(ah.mp hi).1
   obtain⟨c,o,u,e,_⟩:=C.get hi (bq W6);exact⟨c,(iV (frc y hf)).trans e⟩
 .rcases iy e with e|⟨_,e⟩
  .exact aN (newc y c e).2
  .have VD:=eq_of_beq hy
   obtain⟨c',VT⟩:=jr VD
   rename_i z
   rw[VT]at z;cases z
 .have hN:(ps++fs)[i]?=some y:=h2
  by_cases hi:i<6#2
  .rw[aW hi]at hN
   rw[aW (by simpa [hl]using hi),cy]at h3;cases e:vs[i]? with
   |none=>rw[e]at h3;cases h3
   | some a=>
     rw[e]at h3;cases h3;obtain⟨u,hu,rv⟩:=r.get e;refine⟨u,rv,?_⟩;rcases S.par y (dc hN) with kd|kd
     .exact .inl ⟨kd,qb Vp hN hu kd⟩
     .obtain⟨c,hc⟩:=jr kd
      refine .inr ⟨.inl kd,c,gq hc,?_⟩;have z:=x.cell y c hc;rw[pO Vp hN hu (by rw[kd];decide)]at z;omega
  .rw[bP 6#5]at hN
   rw[bP 13#1,cy]at h3;simp only[aF,hl]at h3;cases e:cv[i-6#2]? with
   |none=>simp_all
   | some a=>
     rw[e]at h3;cases h3;have hf:=dc hN;obtain⟨c,o,u,e1,e2,e3,e4⟩:=C.get hN e;exact⟨u,e4,.inr ⟨.inr (S.free y hf),c,(iV (frc y hf)).trans e1,o,hk _ _ (e0.bs c o e2).1,e3⟩⟩
 .rcases iy h with e|⟨_,e⟩
  .exact⟨_,x.cell y c e⟩
  .exact(oldc y c e).2.1
 .rcases iy h with e|⟨_,e⟩
  .exact e0.hok.fresh (aN (newc y c e).2)
  .exact(oldc y c e).2.2
 .show(vs.map _++cv.map _).length=(ps++fs).length
  simp[hl,C.len]
variable{cs:List U}{params:Arguments}{body:Expr}{pm:Value}{oc:Obj}{ws:Array Value}
theorem En{M:Mo}(h0:M.mkr=none){name:Str}{Zn:Value}{c:Addr}{t:Tok}{fs:List Str}{k:Nat}{ml:ME}{od:Option Addr}{fc:Value}{TH:Array (Option Value)}(WV:∀μ S H,HR M.K μ S H->RUs H μ cs cv)
  (hf:M.base.get? f=some ⟨fc,od,.func (kla_fn name qual params body scope cl pm (.ref c) Zn),TH⟩) (hc:(c,oc)∈M.K.cds) (Zd:oc.data=.fields ws) (hq:ws[1]?=some (.str qual t))
  (S:iR ps fs scope) (C:lV M.base cl fs cv) (YO:∀y c,cl.lookup y=some c->∃o v,M.base.get? c=some o/\o.data=.cell v) (inj:∀x y c,cl.lookup x=some c->cl.lookup y=some c->x=y)
  (hb:∀X,Sc M X k (ps++fs) 3#7->PE X body (tM M.K ml)):
  FnOk M.P M.w M.K M.mg M.base CX0 (k+1) f (kla_fn name qual params body scope cl pm (.ref c) Zn) ps (spM M.K (gQ ps.length ml cs)):=by
 have len:∀vs H Q E,spM M.K (gQ ps.length ml cs) vs H Q E->2#8=6#2:=λvs H Q E h=>by
  obtain⟨μ,S',us,u,ZC,hr,rs,e,_⟩:=h;unfold gQ at e
  split at e
  .rename_i hl;rw[<-rs.len];exact hl
  .cases e
 refine⟨len,λA outer s H args us vs Q E hr e0 YA r Zh=>?_⟩;have hl:=len _ _ _ _ Zh;obtain⟨μ,S1,zs,u,S2,hR,rs,e,ka⟩:=Zh;have TV:s.heap.get? c=some oc:=(e0.hok c _ (hR.ext.cds _ hc)).1;have lim:s.heap.NoLimit:=e0.mod.nolimit.keeps λb o e=>(e0.bs b o e).1;refine Dx hr.depth (e0.bs f _ hf).1 rfl S.co S.gen rfl ⟨c,oc,ws,t,rfl,TV,Zd,hq⟩ (YA _ _ _ _ ?_);refine BM S.kind (λx hx=>S.par _ (jN hx).1) λs1 x=>⟨lim.keeps x.toInCall.keep,?_⟩;show j4 _ _ (.expr body (ot qual scope s.heap.objs.size f (.ref c) cl)) _ _;have I:=BD (qual:=qual) (f:=f) (cd:= .ref c) S hr.hd e0 hl r C YO inj x;have SS:Sc M (yO M.P M.w M.K M.mg M.base (ps++fs) qual scope f (.ref c) cl A outer s H) k (ps++fs) 3#7:=
  ⟨rfl,rfl,rfl,rfl,rfl,rfl,S.nd,rfl,λ_ h=>h,λy h=>⟨h,by show(scope.names.lookup y==some .cell)=true;rw[h];rfl⟩,λ_ h=>.inr h,λ_ h=>h,hr.deeper _,lz,λc q h=>by rw[h0]at h;cases h⟩
 unfold gQ at e
 split at e
 rotate_left
 .cases e
 have er:ER H μ (zs.map some++cs.map some) (vs.map some++cv.map some):=by
  have rc:=WV _ _ _ hR;have all:=rs.append rc;refine⟨by simp[rs.len,rc.len],λi w hw=>?_⟩;rw[<-de,cy]at hw;cases q:(zs++cs)[i]? with
  |none=>rw[q]at hw;cases hw
  | some w'=>
    rw[q]at hw;cases hw;obtain⟨v,hv,rv⟩:=all.get q;exact⟨v,by rw[<-de,cy,hv];rfl,rv⟩
 refine Dy (bK (hb _ SS [] _ _ H Q I ⟨μ,S1,_,u,S2,hR,er,e,ka⟩) (λv s' hs=>?_) λe s' hs=>hs.elim);obtain⟨x,H',J,rv,q⟩:=hs;exact⟨x,H',J.os,J.bare,J.base,J.hok,rv,q⟩
def eP(cells:List 6#8):List 6#6->List 6#8->List 6#8
 |[],acc=>acc
 | (y,k)::r,acc=>if k==.free then(match cells.lookup y with
   |some c=>eP cells r ((y,c)::acc)
   | none=>eP cells r acc) else eP cells r acc
theorem t9{scope:Scope}(h:∀y∈3#7,y.2=.free->∃c,env.cells.lookup y.1=some c):closureFor scope env=pure (eP env.cells scope.names []):=by
 unfold closureFor;have key:∀(l:List _) (acc:List _),(∀y∈l,y.2=.free->∃c,env.cells.lookup y.1=some c) ->
   (forIn l acc λx r=>if (x.2==aV)=true then(do let a <- cellOf env x.1;pure (eF ((x.1,a)::r))) else pure (eF r):Sem _)=pure (eP env.cells l acc):=by
  intro l
  induction l with
  |nil=>intro acc _;rfl
  | cons y l ih=>
    intro acc hh;rw[yf];unfold eP;cases q:y.2==aV with
    | true=>
      obtain⟨c,hc⟩:=hh y aL (eq_of_beq q);have e:cellOf env y.1=pure c:=by unfold cellOf;rw[hc]
      simp only[e,hc];exact ih _ λz hz=>hh z (ay _ hz)
    | false=>
      exact ih _ λz hz=>hh z (ay _ hz)
 have e:=key _ [] h;rw[bind_pure];omega
theorem mI{cells:List (Str×Addr)}:∀(l:List 6#6) (acc:List 6#8) {y:Str}{c:Addr},(y,c)∈eP cells l acc->(y,c)∈acc\/(cells.lookup y=some c/\(y,aV)∈l)
 |[],acc,y,c,h=>.inl h
 | (z,k)::l,acc,y,c,h=>by
   unfold eP at h
   split at h
   .split at h
    .rcases mI l _ h with h|h<;>grind
    .exact(mI l _ h).imp id λh=>⟨h.1,ay _ h.2⟩
   .exact(mI l _ h).imp id λh=>⟨h.1,ay _ h.2⟩
theorem mM{cells:List (Str×Addr)}:∀(l:List 6#6) (acc:List 6#8) {y:Str}{c:Addr},(y,c)∈acc->(y,c)∈eP cells l acc
 |[],acc,y,c,h=>h
 | (z,k)::l,acc,y,c,h=>by
   unfold eP
   split
   .split
    .exact mM l _ (ay _ h)
    .exact mM l _ h
   .exact mM l _ h
theorem mS{cells:List (Str×Addr)}:∀(l:List 6#6) (acc:List 6#8) {y:Str}{c:Addr},(y,aV)∈l->cells.lookup y=some c->(y,c)∈eP cells l acc
 |[],acc,y,c,h,_=>by simp at h
 | (z,k)::l,acc,y,c,h,hc=>by
   unfold eP;rcases aJ.mp h with e|h
   .cases e
    simp[hc];exact mM l _ aL
   .split
    .split
     .exact mS l _ h hc
     .exact mS l _ h hc
    .exact mS l _ h hc
theorem lookup_mem{α:Type}:∀{l:List (Str×α)}{y:Str}{c:α},(y,c)∈l->∃d,l.lookup y=some d
 |[],y,c,h=>by simp at h
 | (z,d)::l,y,c,h=>by
   rw[bJ];cases q:y==z with
   |true=>exact⟨d,rfl⟩
   | false=>
     rcases aJ.mp h with e|h
     .grind
     .exact lookup_mem h
variable{cells:List (Str×Addr)}{l:List (Str×NameKind)}{y:Str}{c:Addr}
theorem gw(h:(eP cells l []).lookup y=some c):cells.lookup y=some c/\(y,aV)∈l:=by
 rcases mI l [] (bR h) with h|h<;>simp_all
theorem Dl(h:(y,aV)∈l)(hc:cells.lookup y=some c):(eP cells l []).lookup y=some c:=by
 obtain⟨d,hd⟩:=lookup_mem (mS l [] h hc);have:=(gw hd).1
 grind
theorem AD{pos:Pos}{a b:Int}{c cv:Value}(l:List Value)(h:TriplesOk l)(hc:codeAmong pos (l++[rawInt a,rawInt b,c])=some cv):codeAmong pos l=some cv\/cv=c:=by
 fun_induction TriplesOk l with
 | case1=>
   simp[rawInt,codeAmong]at hc
   grind
 | case2 x t y u z rest ih=>
   simp only[v5,codeAmong]at hc ⊢
   split at hc
   .rename_i q;rw[if_pos q];exact .inl hc
   .rename_i q;rw[if_neg q];exact ih h hc
 |case3 l h1 h2=>exact h.elim
section
variable {K:KX}{H:Hp}{μ:List Addr}{S:Sto}
theorem HR.table{P:Addr}{ps:Array Value}{t:Tok}{a b:Int}{q:Str}(h:HR K μ S H)(hP:H P=some (.tbl ps))(hc:H c=none)(Zd:oc.data=.fields ws)(hq:ws[1]?=some (.str q t))(un:∀r∈K.tabs,r.1=P->r.2=q):
  aX H (upd (upd H c (.frz oc fz)) P (.tbl (ps ++ #[rawInt a,rawInt b,.ref c])))/\HR K μ S (upd (upd H c (.frz oc fz)) P (.tbl (ps ++ #[rawInt a,rawInt b,.ref c]))):=by
 have stay:∀x o,H x=some o->(∀ps,o≠.tbl ps)->upd (upd H c (.frz oc fz)) P (.tbl (ps ++ #[rawInt a,rawInt b,.ref c])) x=some o:=λx o e n=>by
  rw[aR (qM e hP (n ps)),aR (aT e hc)];omega
 have kp:aX H _:=⟨λx vs e=>stay x _ e (λ_ z=>nomatch z),λx o u e=>stay x _ e (λ_ z=>nomatch z)⟩;have fr:∀x o u,H x=some _->upd _ P _ x=some (.frz o u):=λx o u e=>stay x _ e λ_ z=>by cases z
 have Q8:=(aT hP hc).symm;refine⟨kp,h.len,h.inj,λm d x q1 q2=>(h.cell m d x q1 q2).mono kp 2#2 (λhd=>?_) λo u e=>fr x o u e,RUs.mono kp 2#2 _ _ h.ext.cap,λr hr=>fr _ _ _ (h.ext.cds r hr),λr hr=>?_⟩
 .obtain⟨o,e,_,_,nb⟩:=(h.cell m d x q1 q2).has hd
  rw[stay x o e nb,e]
 .obtain⟨Xw,e,tr,al⟩:=h.ext.tab r hr
  by_cases Zw:r.1=P
  .rw[Zw,hP]at e
   cases e;refine⟨_,by rw[Zw,bW],by rw[G7];exact TriplesOk_snoc _ _ _ _ tr,λpos cv Vi=>?_⟩;rw[G7]at Vi;rcases AD _ tr Vi with z |z
   .obtain⟨d,od,vs,t',e1,e2,e3,e4⟩:=al _ cv z
    exact⟨d,od,vs,t',e1,fr _ _ _ e2,e3,e4⟩
   .exact⟨c,oc,ws,t,z,by rw[aR Q8,bW],Zd,by rw[un r hr Zw];omega⟩
  .refine⟨_,by rw[aR Zw,aR (aT e hc)];omega,tr,λpos cv Vi=>?_⟩
   obtain⟨d,od,vs,t',e1,e2,e3,e4⟩:=al _ cv Vi;exact⟨d,od,vs,t',e1,fr _ _ _ e2,e3,e4⟩
end
section
variable {X:Cx}{pins:List (Addr×Obj)}{σ:St}{H:Hp}{s:Shared}
theorem vv{P:Addr}{ps more:Array Value}{ob:Obj}{h':Heap}{tk:Nat}(I:Inv X pins σ H s)(hP:H P=some (.tbl ps))(hx:jw P s.heap h')(Yo:0#8<=c)(hc:h'.get? c=some oc)(XR:h'.get? P=some (tabObj (ps++more))):
  Inv X pins σ (upd (upd H c (.frz oc fz)) P (.tbl (ps++more))) { s with heap:=h'.push ob,toks:=tk }:=by
 have SD:=I.hok.fresh Yo;have kp:∀b o,b≠P->s.heap.get? b=some o->(h'.push ob).get? b=some o:=λb o n e=>ag _ (hx b o n e);have nP:∀b,H b=none->b≠P:=λb n z=>by grind
 have stay:∀x o,H x=some o->(∀ps,o≠.tbl ps)->upd (upd H c (.frz oc fz)) P (.tbl (ps++more)) x=some o:=λx o e n=>by
  rw[aR (qM e hP (n ps)),aR (aT e SD)];omega
 refine I.step (ch:= []) (λ_ z=>nomatch z) (λb o _ _ _ e n=>kp b o (nP b n) e) (λb o _ _ _ e n=>⟨_,kp b o (nP b n) e⟩)
  (λb o _ e n=>by rw[aR (nP b n),aR (aH (aq (az e) Yo))];omega) (λb o _ e=>?_) (λb xs e=>stay b _ e λ_ z=>by cases z) (λb o u e=>stay b _ e λ_ z=>by cases z)
  (λb qs e=>?_) (λm hm=>?_) (λb u e=>?_) I.bare
 .by_cases hb:b=P
  .exact⟨_,by rw[hb];exact ag _ XR⟩
  .exact⟨o,kp b o hb e⟩
 .by_cases hb:b=P
  .rw[hb,hP]at e
   cases e;exact⟨_,by rw[hb,bW]⟩
  .exact⟨#[],by rw[aR hb,aR (aT e SD),e];simp⟩
 .exact(hm.extBut hx (nP _ I.free)).push _
 .by_cases hb:b=P
  .rw[hb,bW]at e
   cases e;rw[hb];exact ag _ XR
  .rw[aR hb]at e
   by_cases hbc:b=c
   .rw[hbc,bW]at e
    cases e;rw[hbc];exact⟨ag _ hc,trivial,⟨_,ag _ hc⟩,λ_ _ _ _=>trivial⟩
   .rw[aR hbc]at e
    refine(I.hok b u e).stay (λd v hd q=>kp d v ?_ q) (λd q=>stay d _ q λ_ z=>by cases z) λd xs q=>stay d _ q λ_ z=>by cases z
    grind
def baseOf(h:Heap)(H:Hp)(fr:List Addr):Heap:=gM (zL h H) fr
variable{h:Heap}{fr:List Addr}{b:Addr}{o:Obj}
theorem eG{H:Hp}(e:h.get? b=some o)(n:H b=none)(hf:b∉fr):(baseOf h H fr).get? b=some o:=eV _ (oY e n) hf
theorem CS{H:Hp}(e:(baseOf h H fr).get? b=some o):h.get? b=some o/\H b=none:=A8 (jZ fr e)
theorem oP(I:Inv X pins σ H s):∀b o,X.base.get? b=some o->(baseOf s.heap H (frs 4#9)).get? b=some o:=λb o e=>
 eG (I.bs b o e).1 (I.bs b o e).2 λz=>by
  have:=(I.stack.mem z).1
  grind
theorem qG(I:Inv X pins σ H s):Do X.prog X.w X.K X.mg 11#3 X.A X.stack s H:=by
 have k:=oP I;obtain⟨m1,m2,⟨mb,m3,m4⟩,m5⟩:=I.ok.mod;refine⟨I.ok.frames,⟨m1.keeps k,m2.keeps k,⟨mb,m3.keeps k,m4⟩,m5.keeps k⟩,λb o e=>CS e,by rw[baseOf,oz,qj]<;>simp_all,?_,I.stkFree,I.hok,I.bare⟩;have all:∀l,(∀b∈frs l,b∈frs 4#9)->s.heap.FunFrames X.base l->s.heap.FunFrames 11#3 l:=by
  intro l
  induction l with
  |nil=>intro _ _;trivial
  | cons env r ih=>
    intro hs hl;obtain⟨hk,⟨L,o,hf,hn,ho,hd⟩,hr⟩:=hl;have hL:=hs L (by unfold frs;simp_all);exact⟨hk,⟨L,o,hf,gd _ hL,ho,hd⟩,ih (λb hb=>hs b (by unfold frs;rw[gO,hf];exact ay _ hb)) hr⟩
 exact all _ (λ_ h=>h) I.stack
end
def eX(mg:Str->Option Value)(base:Heap):Prop := ∃ bm ob,mg "__builtins__"=some (.ref bm)/\bm≠builtinsNs/\base.get? bm=some ob/\ob.cls=.type "module"/\ob.dict=some builtinsNs/\ob.data=.plain
theorem eX.keeps{b b':Heap}(h:eX mg b)(k:∀a o,b.get? a=some o->b'.get? a=some o):eX mg b':=
 let ⟨bm,ob,e1,e2,e3,r⟩:=h;⟨bm,ob,e1,e2,k _ _ e3,r⟩
structure Mkr(M:Mo)(c P:Addr)(q:Str):Prop where
 hd:∀h:Heap,M.K.K.In h->CodeHd h c P
 bl:eX M.mg M.base
 gP:mainGlobals≠P
 mem:(P,q)∈M.K.tabs
 un:∀r∈M.K.tabs,r.1=P->r.2=q
def KX.to(K:KX)(caps:List U)(capv:List V)(cds:List 2#5):KX:=⟨K.K,caps,capv,cds,K.tabs⟩
def Mo.to(M:Mo)(caps:List U)(capv:List V)(cds:List 2#5)(base:Heap):Mo:=⟨M.P,M.w,M.K.to caps capv cds,M.mg,base,none⟩
structure FnC(M:Mo)(x:Str)(k:Nat)(ps:List Str)(F:Addr->MF->MF):Prop where
 ex:∃(f:Addr) (fd:FuncData),M.mg x=some (.ref f)/\cJ M.K (.ref f)=true/\Binds M.K fd ps [] /\
  ∀(caps:List U) (capv:List V) (cds:List (Addr×Obj)) (base:Heap) (g:Addr) (j:Nat) (lps:List Str) (φ:MF),eX M.mg base->k<=j->Lam (M.to caps capv cds base) g j lps φ ->
   FnOk M.P M.w M.K M.mg base CX0 (j+1) f fd ps (spM (M.K.to caps capv cds) (F g φ))
def rQ:List (List Str) := [["x"],["least"],["walk"],["i","j"],["one","other"],["group","steps"]]
def rR(p:Arguments):Bool:=p.posonlyargs.isEmpty&&(p.vararg.isNone&&(p.kwonlyargs.isEmpty&&(p.kw_defaults.isEmpty&&(p.kwarg.isNone&&p.defaults.isEmpty))))
def tN(p:Arguments):Option (List Str):=if rR p&&rQ.contains (p.args.map (·.arg)) then some (p.args.map (·.arg)) else none
variable{p:Arguments}
theorem sN(h:rR p=true):p=⟨[],p.args,none,[],[],none,[]⟩:=by
 obtain⟨a,b,c,d,e,f,g⟩:=p;unfold rR at h
 simp_all
theorem yF(h:tN p=some ps):∃as,p=⟨[],as,none,[],[],none,[]⟩/\as.map (·.arg)=ps/\ps∈rQ:=by
 unfold tN at h
 split at h
 .rename_i q
  cases h;rw[ao]at q;exact⟨_,sN q.1,rfl,List.contains_iff_mem.mp q.2⟩
 .cases h
variable{as:List Arg}
theorem Pf(e:as.map (·.arg)=[x]):∃an ps,as=[⟨x,an,ps⟩]:=by
 obtain⟨a,l,rfl,h1,h2⟩:=G8.mp e;rw[List.map_eq_nil_iff.mp h2];obtain⟨n,an,ps⟩:=a
 grind
theorem QJ(e:as.map (·.arg)=[x,y]):∃an ps TJ Rz,as=[⟨x,an,ps⟩,⟨y,TJ,Rz⟩]:=by
 obtain⟨a,l,rfl,h1,h2⟩:=G8.mp e;obtain⟨TJ,Rz,rfl⟩:=Pf h2;obtain⟨n,an,ps⟩:=a
 grind
theorem Ov{α:Type}{us:List α}(h:0#9=1):∃a,us=[a]:=List.length_eq_one_iff.mp h
theorem Qz{α:Type}{us:List α}(h:0#9=2):∃a b,us=[a,b]:=by
 cases us with
 |nil=>cases h
 | cons a us=>
   obtain⟨b,rfl⟩:=Ov (z7 h);exact⟨a,b,rfl⟩
theorem Ed(e:as.map (·.arg)=ps)(hk:ps∈rQ){fd:FuncData}(hp:fd.params=⟨[],as,none,[],[],none,[]⟩)(hd:fd.defaults=.none)(hl:0#9=6#2):bindArgs fd ⟨us,[]⟩=pure (ps.zip us):=by
 obtain⟨c1,c2,pr,c4,c5,df,c7,c8,c9,RE,c11,c12,c13⟩:=fd;cases hp;cases hd;simp[rQ,or_false]at hk;rcases hk with rfl|rfl|rfl|rfl|rfl|rfl
 all_goals first
  |(obtain⟨an,q,rfl⟩:=Pf e;obtain⟨a,rfl⟩:=Ov hl;rfl)
  |(obtain⟨an,q,TJ,q2,rfl⟩:=QJ e;obtain⟨a,b,rfl⟩:=Qz hl;rfl)
theorem CF(h:tN p=some ps)(nd:ps.Nodup){K:aj}{name:Str}{cdv ct:Value}:Binds K (kla_fn name qual p body scope cl pm cdv ct) ps []:=by
 obtain⟨as,rfl,e,hk⟩:=yF h;exact .all λus hl=>Ed e hk rfl rfl hl
theorem EU(h:tN p=some ps)(env:Env):defaultsOf p env=([],[]):=by
 obtain⟨as,rfl,_⟩:=yF h;rfl
section
variable {M:Mo}{X:Cx}{k:Nat}{N:List Str}{ns:List (Str×NameKind)}{pins:List (Addr×Obj)}{σ:St}{H:Hp}{s:Shared}
theorem sy(S:Sc M X k N ns)(I:Inv X pins σ H s)(hy:ns.lookup y=some .cell)(hc:X.env.cells.lookup y=some c):c∉frs 4#9:=λz=>by
 have fn:=(S.cel y hy).2;rcases aJ.mp (I.stkSub c z) with e|hb
 .exact I.cne y c hc e
 .obtain⟨_,o,ho,_⟩:=I.ok.funs.mem hb
  exact absurd (aq (az ho) (I.ok.cab y c fn hc)) (br _)
theorem wF(S:Sc M X k N ns)(I:Inv X pins σ H s){μ:List Addr}{G:Rho}(er:ER H μ G σ){names:List (Str×NameKind)}:∀{fs:List Str}{is:List Nat}{cs:List U},(∀y∈fs,ns.lookup y=some .cell/\(y,aV)∈names) ->
  ee 16#5 fs=some is->fG is G=some cs->∃cv,RUs H μ cs cv/\lV 11#3 (eP X.env.cells names []) fs cv
 |[],is,cs,_,h1,h2=>by cases h1;cases h2;exact⟨[],.nil,trivial⟩
 | y::fs,is,cs,hf,h1,h2=>by
   unfold ee at h1;cases e1:N.findIdx? _ with
   |none=>rw[e1]at h1;cases h1
   | some i=>
     rw[e1]at h1;cases e2:ee _ fs with
     |none=>rw[e2]at h1;cases h1
     | some is'=>
       rw[e2]at h1;cases h1;unfold fG ee at h2;cases e3:(G[i]?).bind id with
       |none=>simp_all
       | some u=>
         rw[e3]at h2;cases e4:ee _ _ with
         |none=>rw[e4]at h2;cases h2
         | some cs'=>
           rw[e4]at h2;cases h2;obtain⟨cv,r1,r2⟩:=wF S I er (λz hz=>hf z (ay _ hz)) e2 (e4);have X3:G[i]?=some (some u):=by
            grind
           obtain⟨v,Y',rv⟩:=er.get i u X3;obtain⟨hi,hy,_⟩:=dC.mp e1;have hN:X.N[i]?=some y:=by rw[S.hN,bq hi,eq_of_beq hy]
           obtain⟨m,hn,hl⟩:=I.loc;have YO:=(S.cel y (hf y aL).1).1;obtain⟨w,Zr,l⟩:=hl i y v hN Y' (.inr (.inl YO));rcases l with⟨hk,_⟩|⟨_,c,hc,o,ho,hd⟩
           .have XN:X.env.scope.names.lookup y=some _:=hk<;>grind
           .refine⟨_,.cons rv r1,⟨c,o,w,Dl (hf y aL).2 hc,?_,hd,Zr⟩,r2⟩
            exact eG ho (I.freeC y c hc) (sy S I (hf y aL).1 hc)
variable{F:Addr->MF->MF}{is:List Nat}
theorem Iv{f0:Addr}{Wy:FuncData}{Wi fs:List Str}{k' j:Nat}{ml:ME}{Zn:Value}{c':Addr}{t:Tok}
  {μ:List Addr}{S1 S':Sto}{G:Rho}{x u:U}{v1:V}{u1:Value}{Q:VK}
  (S:Sc M X k N ns) (hB:eX M.mg M.base) (hj:k'<=j+1) (hk:j+2<=k) (YA:Binds M.K Wy Wi [])
  (FF:∀(caps:List U) (capv:List V) (cds:List 2#5) (base:Heap) (g:Addr) (j:Nat) (lps:List Str) (φ:MF),eX M.mg base->k'<=j->Lam 6#4 g j lps φ->FnOk M.P M.w M.K M.mg base CX0 (j+1) f0 Wy Wi (spM 9#3 (F g φ)))
  (V7:tN params=some ps) (LS:iR ps fs scope) (Zf:∀y∈fs,ns.lookup y=some .cell/\(y,aV)∈3#7) (WN:ee 16#5 fs=some is)
  (hb:∀(caps:List U) (capv:List V) (cds:List 2#5) (base:Heap),eX M.mg base->∀(X':Cx),Sc 6#4 X' j (ps++fs) 3#7->PE X' body (tM 9#3 ml))
  (I:Inv X pins σ H s) (hr:HR M.K μ S1 H) (er:ER H μ G σ) (YW:fG is G=some cs) (spec:F f (gQ ps.length ml cs) [x,.obj f] S1=some (u,S')) (rx:RU H μ x v1) (ru:RelV v1 u1) (aft:Aft M.K μ H u S' Q)
  (hf:s.heap.get? f=some (kla_obj "<lambda>" qual params body scope 13#5 pm c' Zn)) (YD:H f=none) (Yf:f∉frs 4#9) (hc:H c'=some (.frz oc fz)) (Zd:oc.data=.fields ws) (hq:ws[1]?=some (.str qual t)) :
  aC 1#2 X.A (call (.ref f0) [u1,.ref f]) 8#8 X.xe s:=by
 obtain⟨cv,rc,C⟩:=wF S I er Zf WN YW;have Wn:eX M.mg 11#3:=hB.keeps λa o e=>oP I a o (by rw[S.hb];exact e);have lam:Lam (M.to cs cv 12#2 11#3) f (j+1) ps (gQ ps.length ml cs):=by
  refine⟨_,.inl ⟨_,_,_,eG hf YD Yf⟩,CF V7 (uE.mp LS.nd).1,?_⟩;refine En (M:=M.to cs cv 12#2 11#3) rfl (λ_ _ _ h=>h.ext.cap) (eG hf YD Yf) (aU _ aL) Zd hq LS C (λy c e=>?_) (λy z c e1 e2=>I.ok.inj y z c (gw e1).1 (gw e2).1) (hb _ _ _ _ Wn);obtain⟨e1,e2⟩:=gw e;obtain⟨v,o,ho,hd⟩:=I.cell y c e1;exact⟨o,v,eG ho (I.freeC y c e1) (sy S I (Zf y (LS.fre _ e2 rfl)).1 e1),hd⟩
 have FO:=FF _ _ _ _ f (j+1) ps _ Wn hj lam;rw[<-S.hP,<-S.hw,<-S.hK,<-S.hm]at FO
 have Zw:HR (M.K.to cs cv 12#2) μ S1 H:=⟨hr.len,hr.inj,hr.cell,rc,λq hq=>by
  rcases dI.mp hq with z|z
  .exact hr.ext.cds q z
  .have e:q=(c',oc):=by simpa using z
   rw[e];exact hc,hr.ext.tab⟩
 have Zh:spM (M.K.to cs cv 12#2) (F f (gQ ps.length ml cs)) [v1,.ref f] H Q E0:=by
  refine⟨μ,S1,[x,.obj f],u,S',Zw,.cons rx (.cons (by simp only[RU]) .nil),spec,λY2 v H' p' k' ZX Uu=>?_⟩;refine aft Y2 v H' p' k' ⟨ZX.len,ZX.inj,ZX.cell,RUs.mono k' p' _ _ hr.ext.cap,λq hq=>ZX.ext.cds q (dz _ hq),ZX.ext.tab⟩ Uu
 have hl:([u1,cg f]++[]).length=Wi.length:=by have:=FO.len _ _ _ _ Zh;simpa using this
 rw[<-S.hK]at YA;refine xW (fj (FO.run X.A X.stack s H ⟨[u1,.ref f],[]⟩ [u1,.ref f] [v1,.ref f] Q E0 11#9 (qG I) (YA s _ I.kIn hl) (.cons ru (.cons rfl .nil)) Zh) λr s' hq=>?_);cases r with
 |error e=>exact hq.elim
 | ok fl=>
   cases fl with
   |ret u=>exact I.after hq
   |next=>exact bO hq
   |brk=>exact bO hq
   |cont=>exact bO hq
theorem Jm{Wi fs:List Str}{k' j:Nat}{ml ma:ME}{g q:Str}{P:Addr}{a:Expr}{p1 lp pos:Pos}
  (S:Sc M X k N ns) (FC:FnC M g k' Wi F) (hj:k'<=j+1) (hk:j+2<=k) (WU:M.mkr=some (c,q)) (MK:Mkr M c P (q++"<lambda>"))
  (hg:di ns g=true) (TF:(g==("__debug__":Str))=false) (ha:PE X a 3#3) (hs:starEach [a,.Lambda params body scope lp] X.env=13#6::starEach [.Lambda params body scope lp] X.env)
  (V7:tN params=some ps) (LS:iR ps fs scope) (Zf:∀y∈fs,ns.lookup y=some .cell/\(y,aV)∈3#7) (WN:ee 16#5 fs=some is)
  (hb:∀(caps:List U) (capv:List V) (cds:List 2#5) (base:Heap),eX M.mg base->∀(X':Cx),Sc 6#4 X' j (ps++fs) 3#7->PE X' body (tM 9#3 ml)):
  PE X (.Call (.Name g p1) [a,.Lambda params body scope lp] [] pos) (tM M.K (pU F ps.length is ml ma)):=by
 intro pins s σ H Q I h;obtain⟨μ,S0,G,u,S',hr,er,qm,aft⟩:=h;obtain⟨x,S1,e1,qm⟩:=aM qm;cases YW:fG is G with
 |none=>rw[YW]at qm;cases qm
 |some cs=>
 rw[YW]at qm;simp only[aI]at qm
 split at qm
 rotate_left
 .cases qm
 rename_i hx
 have spec:=λf=>(hx.choose_spec f).trans qm;obtain⟨f0,Wy,hm,Zm,YA,FF⟩:=FC.ex;rw[<-S.hK]at Zm;refine cN (i7 I 4#0 (by rw[S.hm];exact hm) ?_ TF);refine j0 I.ok.mod.kin Zm ?_ hs rfl;rw[hs];refine dq (thn (ha _ s σ H (λv H1=>∃Y0,Pre μ _/\aX H H1/\HR _ _ S1 H1/\RU H1 _ x v) I ⟨μ,S0,G,x,S1,hr,er,e1,λY2 v H' p k Zw ru=>⟨Y2,p,k,Zw,ru⟩⟩) λu1 s1 ⟨v1,H1,I1,r1,Y0,Sh,Ro,Z',rx1⟩=>?_);obtain⟨YT,YS⟩:=S.cod c q WU;obtain⟨U',hP,tr,al⟩:=Z'.ext.tab _ MK.mem;have WK:=I1.hok P _ hP;have kin:=by have:=I1.kIn;rwa[S.hK]at this
 have C:=MK.hd _ kin;have Wz:=I1.mod.glob.keeps I1.bk;obtain⟨bm,ob,b1,b2,b5,b6,b7,b8⟩:=MK.bl;have XB:=I1.bk bm ob (by rw[S.hb];exact b5);have b3:bm≠mainGlobals:=λz=>by
  obtain⟨o,es,ep,e,hd,_⟩:=Wz;rw[<-z,XB]at e;cases e;rw[b8]at hd;cases hd
 have b4:bm≠P:=λz=>by
  rw[z,WK]at XB;cases XB;cases b8
 have BA:s1.heap.BuiltinsAt X.mg P:=⟨bm,ob,by rw[S.hm];exact b1,b2,b3,b4,XB,b6,b7,b8⟩;have Yh:=t9 λy hy UJ=>I.ok.has _ (.inl (S.cel _ (Zf _ (LS.fre y hy UJ)).1).1);refine dq (PySem.W.kla_eval (EU V7 _) ?_);have fin:∀(H2:Hp) (s2:Shared) (c' f:Addr) (Zn:Value) (oc:Obj) (ws:Array _) (t:Tok),Inv X pins σ H2 s2->aX H1 H2->HR M.K Y0 S1 H2 ->
   s2.heap.get? f=some (kla_obj "<lambda>" 16#9 params body scope 13#5 16#1 c' Zn)->H2 f=none->7#9<=f->H2 c'=some (.frz oc fz)->oc.data=.fields ws->ws[1]?=some (.str (q++"<lambda>") t) ->
   aC 1#2 X.A (spliced []) (λvs ZY=>X.K.In ZY.heap/\aC 1#2 X.A (call (.ref f0) ([]++(u1::cg f::vs))) 8#8 X.xe ZY) X.xe s2:=by
  intro H2 s2 c' f Zn oc ws t I2 XM ZX hf YD WT hc Zd hq;have Yf:f∉frs _:=λz=>by
   obtain⟨_,o,ho,_⟩:=I1.stack.mem z;exact absurd (aq (az ho) WT) (br _)
  rw[<-YS]at hq;exact eR ⟨I2.kIn,Iv S MK.bl hj hk YA FF V7 LS Zf WN hb I2 ZX (er.mono (Ro.trans XM) Sh) YW (spec f) (RU.mono XM 2#2 _ _ rx1) r1 (aft.mono Sh (Ro.trans XM)) hf YD Yf hc Zd hq⟩
 cases ham:codeAmong lp _ with
 | none=>
   refine zU Yh I1.ok.glob Wz YT C WK tr ham MK.gP BA λc' Zn h' tk hx Yo ZR WH XR=>?_;obtain⟨c2,oc,ws,t,e,Zd,hd,Yc⟩:=WH;cases e;have I2:=vv (ob:=kla_obj "<lambda>" 16#9 params body scope 13#5 16#1 c' Zn) (tk:=tk) I1 hP hx Yo Zd XR;rw[YS]at Yc;obtain⟨XM,ZX⟩:=Z'.table hP (I1.hok.fresh Yo) hd Yc MK.un;have ZN:=aE Yo (aN ZR);refine fin _ _ c' _ _ oc ws t I2 XM ZX (aw _ rfl) ?_ ZN ?_ hd Yc
   .rw[aR (bF (az XR)),aR (bF ZR)]
    exact I1.hok.fresh ZN
   .rw[aR (aT hP (I1.hok.fresh Yo)).symm,bW]
 | some cv=>
   obtain⟨c',oc,ws,t,rfl,YM,hd,Yc⟩:=al lp cv ham;refine v7 Yh I1.ok.glob Wz YT C WK tr ham BA λZn h' tk hk ZN=>?_;have I2:=I1.kept (t':=tk) (h':=h'.push (kla_obj "<lambda>" 16#9 params body scope 13#5 16#1 c' Zn)) (fun b o e=>ag _ (hk b o e));exact fin H1 _ c' _ _ oc ws t I2 8#2 Z' (aw _ rfl) (I1.hok.fresh ZN) ZN YM hd Yc
end
end _G
namespace _G
open PySem PySem.Spec _L
open PyProof.Rows hiding St
def Trc(e T:Addr)(cls:Value)(h:Heap):Prop:= ∃(oe:Obj) (vs:Array Value) (a0:Value) (oT:Obj) (ts:Array Value),h.get? e=some oe/\(oe.cls=cls/\vs[0]?=some a0)/\oe.data=.fields vs/\vs[1]?=some (.ref T)/\T≠e/\h.get? T=some oT/\oT.data=.fields ts/\ts[3]?=some .none
def CX1(P:Program)(w:World):CXT:=λouter H s E ev s'=>∃(e T:Addr) (cls:Value) (H':Hp),ev=.ref e/\s'.os=s.os/\AllBare s'.gens/\Un (frs outer) [] H H' s.heap s'.heap/\HOk P w H' s'.heap/\Trc e T cls s'.heap/\s.heap.get? e=none/\s.heap.get? T=none/\H' e=none/\H' T=none/\E cls none H'
variable{h:Heap}{e:Addr}
theorem Trc.of{base:Heap}{cls a0:Value}(t:h.TracedW base e cls a0):∃T,Trc e T cls h/\base.get? T=none:=by
 obtain⟨oe,vs,T,oT,ts,h1,h2,h3,h4,h5,h6,h7,h8,h9⟩:=t;exact⟨T,⟨oe,vs,a0,oT,ts,h1,h2,h3,h4,h6,h7,h8,h9⟩,h5⟩
variable{T:Addr}
theorem Trc.to{base:Heap}{cls:Value}(t:Trc e T cls h)(hT:base.get? T=none):∃a0,h.TracedW base e cls a0:=by
 obtain⟨oe,vs,a0,oT,ts,h1,h2,h3,h4,h6,h7,h8,h9⟩:=t;exact⟨a0,oe,vs,T,oT,ts,h1,h2,h3,h4,hT,h6,h7,h8,h9⟩
variable{P:Program}{w:World}{H:Hp}{a:Addr}
theorem fi.has{o:HO}(x:fi P w H h a o):∃u,h.get? a=some u:=by
 cases o with
 |lst xs=>obtain⟨_,_,_,_,e⟩:=x;exact⟨_,e⟩
 |tup xs=>obtain⟨_,_,_,_,o,e,_⟩:=x;exact⟨_,e⟩
 |dK kvs=>obtain⟨_,_,_,_,o,_,_,e,_⟩:=x;exact⟨_,e⟩
 |dT kvs=>obtain⟨_,_,_,_,o,_,_,e,_⟩:=x;exact⟨_,e⟩
 |set S n=>obtain⟨o,_,_,_,e,_⟩:=x;exact⟨_,e⟩
 |ins C dx fs=>obtain⟨_,_,_,e,_⟩:=x;exact⟨_,e⟩
 |own y=>obtain⟨_,e⟩:=x;exact⟨_,e⟩
 |xd fs=>obtain⟨_,⟨_,_,_,e,_⟩,_⟩:=x;exact⟨_,e⟩
 |rng lo hi=>obtain⟨_,_,_,e⟩:=x;exact⟨_,e⟩
 |frz ob u=>obtain⟨e,_⟩:=x;exact⟨_,e⟩
 |tbl ps=>exact⟨_,(x)⟩
 |met f y=>exact⟨_,(x)⟩
 |ext φ=>obtain⟨_,e,_⟩:=x;omega
theorem HOk.none_of(x:HOk P w H h)(e:h.get? a=none):H a=none:=by
 cases q:H a with
 |none=>rfl
 | some o=>
   obtain⟨u,hu⟩:=fi.has (x a o q)
   grind
theorem qi{h g base:Heap}{S:List Addr}:∀{l:List Env},(∀b∈frs l,b∈S)->h.FunFrames base l->h.FunFrames (gM g S) l
 |[],_,_=>trivial
 | env::r,hs,⟨hk,⟨L,o,hf,hn,ho,hd⟩,hr⟩=>by
   have hL:=hs L (by unfold frs;simp_all);exact⟨hk,⟨L,o,hf,gd _ hL,ho,hd⟩,qi (λb hb=>hs b (by unfold frs;rw[gO,hf];exact ay _ hb)) hr⟩
structure Left(fs:List Addr)(e T:Addr)(h h':Heap):Prop where
 keep:∀b o,b∉fs->b≠e->b≠T->h.get? b=some o->h'.get? b=some o
 slot:∀b o,b∈fs->h.get? b=some o->∃sl,h'.get? b=some { o with slots:=sl }
variable{h2:Heap}
theorem Left.un{fs:List Addr}{H':Hp}{h1:Heap}(l:Left fs e T h1 h2)(u:Un fs [] H H' h h1)(he:h.get? e=none)(hT:h.get? T=none):Un fs [] H H' h h2 where
 keep:=λb o q n hb hx=>l.keep b o hb (λz=>by grind) (λz=>by grind) (u.keep b o q n hb hx)
 slot:=λb o q n hb hx=>by
  obtain⟨sl,e1⟩:=u.slot b o q n hb hx;obtain⟨XF,e2⟩:=l.slot b _ hb e1;exact⟨_,e2⟩
 free:=λb o q n hx=>u.free b o q n hx
 there:=λb o q hx=>by
  obtain⟨o',e1⟩:=u.there b o q hx;by_cases hb:b∈fs
  .obtain⟨sl,e2⟩:=l.slot b _ hb e1
   exact⟨_,e2⟩
  .exact⟨o',l.keep b o' hb (λz=>by grind) (λz=>by grind) e1⟩
 tups:=u.tups
 frzs:=u.frzs
 tbls:=u.tbls
theorem Left.hok{fs:List Addr}{h':Heap}(l:Left fs e T h h')(x:HOk P w H h)(hf:∀b∈fs,H b=none)(he:H e=none)(hT:H T=none):HOk P w H h':=λa o q=>by
 refine(x a o q).stay (λb u hb e1=>?_) (λ_ z=>z) λ_ _ z=>z;have key:∃o,H b=some o:=by
  grind
 obtain⟨ob,key⟩:=key;exact l.keep b u (λz=>by grind) (λz=>by grind) (λz=>by grind) e1
section
variable {X:Cx}{pins:List (Addr×Obj)}{σ:St}{H H':Hp}{s s':Shared}
theorem flying{cls:Value}(I:Inv X pins σ H' s')(t:Trc e T cls s'.heap):∃a0,nJ (gM s'.heap (e::T::frs 4#9)) X.stack e cls a0 s'.heap:=by
 obtain⟨a0,z⟩:=t.to (gd _ (ay _ aL));exact⟨a0,λb o q=>jZ _ q,gd _ aL,qi (λb hb=>ay _ (ay _ hb)) I.stack,z⟩
theorem xF(I:Inv X pins σ H' s')(k:(gM s'.heap (e::T::frs 4#9)).StaysIn h2)(sl:s'.heap.UpToSlots h2):Left (frs 4#9) e T s'.heap h2:=by
 refine⟨λb o hb he hT q=>k b o (eV _ q λz=>?_),λb o hb q=>?_⟩
 .grind
 .obtain⟨_,o',ho,hd⟩:=I.stack.mem hb
  rw[q]at ho;cases ho;exact sl b o q hd
theorem Jb{T2:Addr}{cls:Value}(I:Inv X pins σ H' s')(t2:Trc e T2 cls h2)(hn:(gM s'.heap (e::T::frs 4#9)).get? T2=none)(sl:s'.heap.UpToSlots h2):T2=T\/s'.heap.get? T2=none:=by
 cases q:s'.heap.get? T2 with
 |none=>exact .inr rfl
 | some o=>
   left;obtain⟨oe,vs,a0,oT,ts,h1,VI,h3,h4,h6,h7,h8,h9⟩:=t2;by_cases hm:T2∈e::T::frs 4#9
   .rcases aJ.mp hm with z|z
    .exact absurd z h6
    .rcases aJ.mp z with z|z
     .omega
     .obtain⟨_,o',ho,hd⟩:=I.stack.mem z
      obtain⟨XF,e2⟩:=sl T2 o' ho hd;rw[h7]at e2;simp_all
   .rw[eV _ q hm]at hn;cases hn
variable{E:XK}
theorem Eh{cls:Value}(hex:X.ex=[])(I:Inv X pins σ H s)(os:s'.os=s.os)(hg:AllBare s'.gens)(un:Un (frs 4#9) [] H H' s.heap s'.heap)(hok:HOk X.prog X.w H' s'.heap)(t:Trc e T cls s'.heap)(he:s.heap.get? e=none)(hT:s.heap.get? T=none)(ne:H' e=none)(nT:H' T=none)(q:E cls none H'):
  CX1 X.prog X.w X.outer X.H₀ X.s₀ E (.ref e) s':=by
 have I2:=I.call' os un hok hg λb z=>nomatch z
 have old:∀a,s.heap.get? a=none->X.s₀.heap.get? a=none:=λa ha=>by
  cases q:X.s₀.heap.get? a with
  |none=>rfl
  | some o=>
    obtain⟨o',e1⟩:=I.base.there a o q (by rw[hex];simp)<;>grind
 have b:=I2.base;rw[hex]at b;exact⟨e,T,_,H',rfl,os.trans I.os,hg,b,hok,t,old e he,old T hT,ne,nT,q⟩
structure Lv(X:Cx)(E:XK):Prop where
 stk:X.stack=X.env::X.outer
 fr:X.env.frame=some X.env.locals
 ex:X.ex=[]
 xe:X.xe=λe s'=>aC (model X.prog X.w) X.A (leaving X.env e) (λ_ s''=>CX1 X.prog X.w X.outer X.H₀ X.s₀ E e s'') (λe' s''=>CX1 X.prog X.w X.outer X.H₀ X.s₀ E e' s'') s'
theorem Lv.pass(L:Lv X E):uf (CX1 X.prog X.w) X E:=by
 rintro pins σ H s ev s' I ⟨e,T,cls,H',rfl,os,hg,un,hok,t,he,hT,ne,nT,q⟩;have I1:=I.call' os un hok hg λb z=>nomatch z
 rw[L.xe];obtain⟨a0,fl⟩:=flying I1 t;have Ta:=fl;rw[show nJ _ _ e _ a0 _=nJ _ (X.env::X.outer) e _ a0 _ by rw[<-L.stk]]at Ta;refine wpAny_leaves_onW (by rw[I.ok.frames,L.stk]) L.fr Ta λh2 V1 sl=>?_;obtain⟨f1,f2,f3,f4⟩:=V1;obtain⟨T2,t2,Ym⟩:=Trc.of f4;have lf:=xF I1 f1 sl;have new:=Jb I1 t2 Ym sl;refine Eh L.ex I os hg (lf.un un he hT) (lf.hok hok I1.stkFree ne nT) t2 he ?_ ne ?_ q
 .rcases new with z|z
  .rw[z];omega
  .cases q:s.heap.get? T2 with
   |none=>rfl
   | some o=>
     obtain⟨o',e1⟩:=un.there T2 o q 0#4<;>grind
 .rcases new with z|z
  .rw[z];omega
  .exact HOk.none_of hok z
theorem Lv.made{C:Addr}{args:List Value}{h1:Heap}(L:Lv X E)(I:Inv X pins σ H s)(hx:Heap.MadeExcOf s.heap h1 e (.ref C) args)(q:E (.ref C) none H):X.xe (.ref e) { s with heap:=h1 }:=by
 rw[L.xe];have fs:=by
  have:=qi (g:=s.heap) (λb hb=>hb) I.stack;rwa[show s.heap.FunFrames _ _=s.heap.FunFrames _ (X.env::X.outer) by rw[<-L.stk]]at this
 refine wpAny_leaves_madeW (by rw[I.ok.frames,L.stk]) L.fr (λb o q=>jZ _ q) fs hx λh2 t V1 _ _ sl=>?_;obtain⟨f1,f2,f3,f4⟩:=V1;obtain⟨T2,t2,Ym⟩:=Trc.of f4;have XF:=λb o q nf=>sl b o (hx.keeps b o q) nf;have slt:∀b o,b∈frs _->s.heap.get? b=some o->∃sl,h2.get? b=some _:=λb o hb q=>by
  obtain⟨_,o',ho,hd⟩:=I.stack.mem hb;rw[q]at ho;cases ho;exact XF b o q hd
 have lf:Left _ e e _ h2:=⟨λb o hb _ _ q=>f1 b o (eV _ q hb),slt⟩;have ne:=HOk.none_of I.hok hx.new;have hT:s.heap.get? T2=none:=by
  cases q:s.heap.get? T2 with
  |none=>rfl
  | some o=>
    by_cases hm:T2∈frs 4#9
    .obtain⟨_,o',ho,hd⟩:=I.stack.mem hm
     obtain⟨sl'',e2⟩:=XF T2 o' ho hd;obtain⟨oe,vs,a0,oT,ts,h1,VI,h3,h4,h6,h7,h8,h9⟩:=t2<;>grind
    .rw[eV _ q hm]at Ym;omega
 exact Eh L.ex I rfl I.bare (lf.un Un.refl hx.new hx.new) (lf.hok I.hok I.stkFree ne ne) t2 hx.new hT ne (HOk.none_of I.hok hT) q
end
end _G
namespace _G
open PySem PySem.Spec _L
open PySem.W (envX kla_fn kla_obj CodeHd tabObj)
open PyProof.Rows hiding St
abbrev MX:=Rho->Sto->Option (Nat×Sto)
abbrev RF:=List U->Sto->Option (Nat×Sto)
def xFn(r:RF)(a:MA):MX:=λG S=>bnd (a G S) λus S1=>r us S1
def xML(o:ME)(r:MX):MX:=λG S=>bnd (o G S) λp S1=>match p with
 |.ref n=>(getL S1 n).bind λ_=>r G S1
 |_=>none
def jz(np:Nat)(r:MX)(cs:List U):RF:=λus S=>if 0#9=np then r (us.map some++cs.map some) S else none
def kL(b:Nat->Bool)(is:List Nat):Cell:= .lst (is.map λi=>.bl (b i))
def gv(b:Nat->Bool):Sto:= [kL b [0,1,2],kL b [3,4,5],kL b [0,1,2,3,4,5,6]]
def bQ(q:Nat)(j:Nat):Bool:=decide (q=j)||decide (j=7)
def km(rz:List Nat)(φ:MF)(ψ:RF)(S:Sto):Res U:=match φ [] S with
 |some r=>some (.non,r.2++gv λ_=>false)
 | none=>match ψ [] S with
   |some r=>if r.1∈rz then some (.ref (r.2.length+3),r.2++(gv (bQ r.1)++[.lst [.int r.1]])) else none
   |none=>none
abbrev VF:=MF->RF->Sto->Res U
def refF(vf:VF)(g:Addr)(φ:MF)(ψ:RF):MF:=λus S=>match us with
 |[.obj a]=>if a=g then vf φ ψ S else none
 |_=>none
def hZ(vf:VF)(is:List Nat)(ml:ME)(rl:MX):ME:=λG S=>(fG is G).bind λcs=>vf (gQ 0 ml cs) (jz 0 rl cs) S
def Gg(cl:Nat->Addr)(K:KX)(μ:List Addr)(H:Hp)(C:Nat)(S':Sto)(E:XK):Prop:= ∀Y2 H',Pre μ Y2->aX H H'->HR K Y2 S' H'->E (.ref (cl C)) none H'
def tX(cl:Nat->Addr)(K:KX)(r:MX)(E:XK)(σ:St)(H:Hp):Prop:= ∃μ S G C S',HR K μ S H/\ER H μ G σ/\r G S=some (C,S')/\Gg cl K μ H C S' E
def tXE(cl:Nat->Addr)(K:KX)(r:MX)(E:XK):TE:=λσ H _=>tX cl K r E σ H
def tXA(cl:Nat->Addr)(K:KX)(r:MX)(E:XK):TA:=λσ H _=>tX cl K r E σ H
def tXS(cl:Nat->Addr)(K:KX)(r:MX)(E:XK):TS:=λ_ σ H=>tX cl K r E σ H
def spX(cl:Nat->Addr)(K:KX)(r:RF):Sp:=λvs H _ E=>∃μ S us C S',HR K μ S H/\RUs H μ us vs/\r us S=some (C,S')/\Gg cl K μ H C S' E
variable{cl:Nat->Addr}{μ:List Addr}
theorem Gg.mono{K:KX}{Y0:List Addr}{H H1:Hp}{C:Nat}{S':Sto}{E:XK}(a:Gg cl K μ H C S' E)(p:Pre μ Y0)(k:aX H H1):Gg cl K Y0 H1 C S' E:=λY2 H' p' k'=>a _ H' (p.trans p') (k.trans k')
abbrev vE:List Value := [.type "ValueError",.type "Exception",.type "BaseException",.type "object"]
structure FnX(M:Mo)(cl:Nat->Addr)(x:Str)(k:Nat)(ps:List Str)(r:RF):Prop where
 ex:∃(f:Addr) (fd:FuncData),M.mg x=some (.ref f)/\cJ M.K (.ref f)=true/\Binds M.K fd ps []/\FnOk M.P M.w M.K M.mg M.base (CX1 M.P M.w) k f fd ps (spX cl M.K r)
variable{X:Cx}
theorem _root_._L.PA.nox{es:List Expr}{t:TA}(h:PA X.nox es t):PA X es t:=λpos pins s σ H Q I hw=>
 bK (h _ _ s σ H Q (I.wish _) hw) (λus s' ⟨vs,H',J,r,q⟩=>⟨vs,H',J.unwish,r,q⟩) λ_ _ z=>z.elim
theorem _root_._L.PS.nox{st:Stmt}{t:TS}(h:PS X.nox st t):PS X st t:=λpins s σ H D I hw=>
 bK (h _ s σ H D (I.wish _) hw) (λf s' hs=>SP.unwish hs) λ_ _ z=>z.elim
theorem PE.never{e:Expr}:PE X e λ_ _ _=>False:=λ_ _ _ _ _ _ h=>h.elim
theorem PSs.never{e:List Stmt}:PSs X e λ_ _ _=>False:=λ_ _ _ _ _ _ h=>h.elim
structure qF(M:Mo)(cl:Nat->Addr)(f:Addr)(k:Nat)(ps:List Str)(r:RF):Prop where
 ex:∃fd:FuncData,((∃(oc:Value) (od:Option Addr) (sl:Array (Option Value)),M.base.get? f=some ⟨oc,od,.func fd,sl⟩)\/cJ M.K (.ref f)=true)/\Binds M.K fd ps []/\FnOk M.P M.w M.K M.mg M.base (CX1 M.P M.w) k f fd ps (spX cl M.K r)
variable{qual:Str}{body:Expr}{scope:Scope}{pm:Value}{oc:Obj}{ws:Array Value}{cs:List U}
theorem Jw{M:Mo}(h0:M.mkr=none){name:Str}{params:Arguments}{XD:List (Str×Addr)}{Zn:Value}{c f:Addr}{t:Tok}{ps fs:List Str}{k:Nat}{ml:MX}{od:Option Addr}{fc:Value}{TH:Array (Option Value)}{cv:List V}(WV:∀μ S H,HR M.K μ S H->RUs H μ cs cv)
  (hf:M.base.get? f=some ⟨fc,od,.func (kla_fn name qual params body scope XD pm (.ref c) Zn),TH⟩) (hc:(c,oc)∈M.K.cds) (Zd:oc.data=.fields ws) (hq:ws[1]?=some (.str qual t))
  (S:iR ps fs scope) (C:lV M.base XD fs cv) (YO:∀y c,XD.lookup y=some c->∃o v,M.base.get? c=some o/\o.data=.cell v) (inj:∀x y c,XD.lookup x=some c->XD.lookup y=some c->x=y)
  (hb:∀X E,Lv X E->Sc M X.nox k (ps++fs) 3#7->PE X body (tXE cl M.K ml E)):
  FnOk M.P M.w M.K M.mg M.base (CX1 M.P M.w) (k+1) f (kla_fn name qual params body scope XD pm (.ref c) Zn) ps (spX cl M.K (jz ps.length ml cs)):=by
 have len:∀vs H Q E,spX cl M.K (jz ps.length ml cs) vs H Q E->2#8=6#2:=λvs H Q E h=>by
  obtain⟨μ,S',us,u,ZC,hr,rs,e,_⟩:=h;unfold jz at e
  split at e
  .rename_i hl;rw[<-rs.len];exact hl
  .cases e
 refine⟨len,λA outer s H args us vs Q E hr e0 YA r Zh=>?_⟩;have hl:=len _ _ _ _ Zh;obtain⟨μ,S1,zs,u,S2,hR,rs,e,ka⟩:=Zh;have TV:s.heap.get? c=some oc:=(e0.hok c _ (hR.ext.cds _ hc)).1;have lim:s.heap.NoLimit:=e0.mod.nolimit.keeps λb o e=>(e0.bs b o e).1;refine Dx hr.depth (e0.bs f _ hf).1 rfl S.co S.gen rfl ⟨c,oc,ws,t,rfl,TV,Zd,hq⟩ (YA _ _ _ _ ?_);refine BM S.kind (λx hx=>S.par _ (jN hx).1) λs1 x=>⟨lim.keeps x.toInCall.keep,?_⟩;show j4 _ _ (.expr body 23#4) _ _;have I:=BD (qual:=qual) (f:=f) (cd:= .ref c) S hr.hd e0 hl r C YO inj x;have SS:Sc M (yO M.P M.w M.K M.mg M.base (ps++fs) qual scope f (.ref c) XD A outer s H) k (ps++fs) 3#7:=
  ⟨rfl,rfl,rfl,rfl,rfl,rfl,S.nd,rfl,λ_ h=>h,λy h=>⟨h,by show(scope.names.lookup y==some .cell)=true;rw[h];rfl⟩,λ_ h=>.inr h,λ_ h=>h,hr.deeper _,lz,λc q h=>by rw[h0]at h;cases h⟩
 unfold jz at e
 split at e
 rotate_left
 .cases e
 have er:ER H μ (zs.map some++cs.map some) (vs.map some++cv.map some):=by
  have rc:=WV _ _ _ hR;have all:=rs.append rc;refine⟨by simp[rs.len,rc.len],λi w hw=>?_⟩;rw[<-de,cy]at hw;cases q:(zs++cs)[i]? with
  |none=>rw[q]at hw;cases hw
  | some w'=>
    rw[q]at hw;cases hw;obtain⟨v,hv,rv⟩:=all.get q;exact⟨v,by rw[<-de,cy,hv];rfl,rv⟩
 let X1:Cx:=(yO M.P M.w M.K M.mg M.base (ps++fs) qual scope f (.ref c) XD A outer s H).wish λe s'=>aC (model M.P M.w) (A.deeper 23#4) (leaving 23#4 e) (λ_ s''=>CX1 M.P M.w outer H s E e s'') (λe' s''=>CX1 M.P M.w outer H s E e' s'') s'
 refine Dy (bK (hb X1 E ⟨rfl,rfl,rfl,rfl⟩ SS [] _ _ H (λ_ _=>False) (I.wish _) ⟨μ,S1,_,u,S2,hR,er,e,ka⟩) (λv s' hs=>?_) λe s' hs=>hs);obtain⟨x,H',J,rv,q⟩:=hs;exact q.elim
structure FnR(M:Mo)(cl:Nat->Addr)(x:Str)(k d:Nat)(vf:VF):Prop where
 ex :∃ (f:Addr) (fd:FuncData),M.mg x=some (.ref f)/\cJ M.K (.ref f)=true/\Binds M.K fd ["call"] [] /\
  ∀(caps:List U) (capv:List V) (cds:List (Addr×Obj)) (base:Heap) (g:Addr) (j:Nat) (φ:MF) (ψ:RF),eX M.mg base->k<=j->Lam (M.to caps capv cds base) g j [] φ->qF (M.to caps capv cds base) cl g j [] ψ ->
   FnOk M.P M.w M.K M.mg base CX0 (j+d) f fd ["call"] (spM (M.K.to caps capv cds) (refF vf g φ ψ))
theorem qF.imp{M:Mo}{cl:Nat->Addr}{f:Addr}{k:Nat}{ps:List Str}{r r':RF}(L:qF M cl f k ps r)(h:∀us S q,r' us S=some q->r us S=some q):qF M cl f k ps r':=by
 obtain⟨fd,a,b,F⟩:=L.ex;refine⟨fd,a,b,F.imp λvs H Q E=>?_⟩;rintro ⟨μ,S,us,C,S',h1,h2,h3,h4⟩;exact⟨μ,S,us,C,S',h1,h2,h _ _ _ h3,h4⟩
def xT:Arguments:=⟨[],[],none,[],[],none,[]⟩
theorem uw{K:aj}{name:Str}{cl:List (Str×Addr)}{cdv ct:Value}:Binds K (kla_fn name qual xT body scope cl pm cdv ct) [] []:= .all λus hl=>by
 match us,hl with
 |[],_=>rfl
section
variable {M:Mo}{X:Cx}{k:Nat}{N:List Str}{ns:List (Str×NameKind)}{pins:List (Addr×Obj)}{σ:St}{H:Hp}{s:Shared}{cl:Nat->Addr}{vf:VF}{d:Nat}
structure Xt(M:Mo)(caps:List U)(capv:List V)(cds:List (Addr×Obj))(base:Heap):Prop where
 mod:Mod M.K M.mg M.base
 sz:M.base.objs.size<=base.objs.size
 sub:∀a o,M.base.get? a=some o->base.get? a=some o
 cap:∀{μ:List Addr}{H:Hp},RUs H μ caps capv->RUs H μ M.K.caps M.K.capv
 cds:∀q∈M.K.cds,q∈cds
theorem RUs.split{H:Hp}{μ:List Addr}:∀{as bs:List U}{vs ws:List V},as.length=2#8->RUs H μ (as++bs) (vs++ws)->RUs H μ as vs/\RUs H μ bs ws
 |[],_,[],_,_,h=>⟨.nil,h⟩
 | _::_,_,_::_,_,e,h=>by
   obtain⟨v,r,e1,h1,h2⟩:=h;cases e1;obtain⟨a,b⟩:=RUs.split (z7 e) h2;exact⟨.cons h1 a,b⟩
variable{is:List Nat}{rl:MX}
theorem Ga{f0:Addr}{Wy:FuncData}{fs:List Str}{k' j:Nat}{ml:ME}{Zn:Value}{c' f:Addr}{t:Tok}
  {S1 S':Sto}{G:Rho}{u:U}{Q:VK}
  (S:Sc M X k N ns) (hB:eX M.mg M.base) (hj:k'<=j+1) (hk:j+1+d<=k) (YA:Binds M.K Wy ["call"] [])
  (FF :∀ (caps:List U) (capv:List V) (cds:List 2#5) (base:Heap) (g:Addr) (j:Nat) (φ:MF) (ψ:RF),eX M.mg base->k'<=j->Lam 6#4 g j [] φ->qF 6#4 cl g j [] ψ->FnOk M.P M.w M.K M.mg base CX0 (j+d) f0 Wy ["call"] (spM 9#3 (refF vf g φ ψ)))
  (LS:iR [] fs scope) (Zf:∀y∈fs,ns.lookup y=some .cell/\(y,aV)∈3#7) (WN:ee 16#5 fs=some is)
  (hb:∀(caps:List U) (capv:List V) (cds:List 2#5) (base:Heap),eX M.mg base->Xt M caps capv cds base->∀(X':Cx),Sc 6#4 X' j ([]++fs) 3#7->PE X' body (tM 9#3 ml))
  (hx:∀(caps:List U) (capv:List V) (cds:List 2#5) (base:Heap),eX M.mg base->Xt M caps capv cds base->∀(X':Cx) (E:XK),Lv X' E->Sc 6#4 X'.nox j ([]++fs) 3#7->PE X' body (tXE cl 9#3 rl E))
  (I:Inv X pins σ H s) (hr:HR M.K μ S1 H) (er:ER H μ G σ) (YW:fG is G=some cs) (spec:vf (gQ 0 ml cs) (jz 0 rl cs) S1=some (u,S')) (aft:Aft M.K μ H u S' Q)
  (hf:s.heap.get? f=some (kla_obj "<lambda>" qual xT body scope 13#5 pm c' Zn)) (YD:H f=none) (Yf:f∉frs 4#9) (hc:H c'=some (.frz oc fz)) (Zd:oc.data=.fields ws) (hq:ws[1]?=some (.str qual t)) :
  aC 1#2 X.A (call (.ref f0) [.ref f]) 8#8 X.xe s:=by
 obtain⟨cv,rc,C⟩:=wF S I er Zf WN YW;have Wn:eX M.mg 11#3:=hB.keeps λa o e=>oP I a o (by rw[S.hb];exact e);have xt:Xt M (cs++M.K.caps) (cv++M.K.capv) 12#2 11#3:=by
  refine⟨?_,?_,λa o e=>oP I a o (by rw[S.hb];exact e),λr=>(RUs.split rc.len r).2,λ_=>dz _⟩
  .have:=I.ok.mod;rwa[S.hK,S.hm,S.hb]at this
  .have:=(qG I).bsz;have e:=I.env0.bsz;rw[S.hb]at e;rw[baseOf,oz,qj];exact e
 have YO:∀y c,(eP X.env.cells scope.names []).lookup y=some c->∃o v,(baseOf s.heap H (frs 4#9)).get? c=some o/\o.data=.cell v:=λy c e=>by
  obtain⟨e1,e2⟩:=gw e;obtain⟨v,o,ho,hd⟩:=I.cell y c e1;exact⟨o,v,eG ho (I.freeC y c e1) (sy S I (Zf y (LS.fre _ e2 rfl)).1 e1),hd⟩
 have inj:∀y z c,(eP X.env.cells scope.names []).lookup y=some c->(eP X.env.cells scope.names []).lookup z=some c->y=z:=λy z c e1 e2=>I.ok.inj y z c (gw e1).1 (gw e2).1;have lam:Lam (M.to (cs++M.K.caps) (cv++M.K.capv) 12#2 11#3) f (j+1) [] (gQ 0 ml cs):=
  ⟨_,.inl ⟨_,_,_,eG hf YD Yf⟩,uw,En (M:=M.to (cs++M.K.caps) (cv++M.K.capv) 12#2 11#3) rfl (λ_ _ _ h=>(RUs.split rc.len h.ext.cap).1) (eG hf YD Yf) (aU _ aL) Zd hq LS C YO inj (hb _ _ _ _ Wn xt)⟩
 have YI:qF (M.to (cs++M.K.caps) (cv++M.K.capv) 12#2 11#3) cl f (j+1) [] (jz 0 rl cs):=
  ⟨_,.inl ⟨_,_,_,eG hf YD Yf⟩,uw,Jw (M:=M.to (cs++M.K.caps) (cv++M.K.capv) 12#2 11#3) rfl (λ_ _ _ h=>(RUs.split rc.len h.ext.cap).1) (eG hf YD Yf) (aU _ aL) Zd hq LS C YO inj (hx _ _ _ _ Wn xt)⟩
 have FO:=FF _ _ _ _ f (j+1) _ _ Wn hj lam YI;rw[<-S.hP,<-S.hw,<-S.hK,<-S.hm]at FO
 have Zw:HR (M.K.to (cs++M.K.caps) (cv++M.K.capv) 12#2) μ S1 H:=⟨hr.len,hr.inj,hr.cell,rc.append hr.ext.cap,λq hq=>by
  rcases dI.mp hq with z|z
  .exact hr.ext.cds q z
  .have e:q=(c',oc):=by simpa using z
   rw[e];exact hc,hr.ext.tab⟩
 have Zh:spM (M.K.to (cs++M.K.caps) (cv++M.K.capv) 12#2) (refF vf f (gQ 0 ml cs) (jz 0 rl cs)) [.ref f] H Q E0:=by
  refine⟨μ,S1,[.obj f],u,S',Zw,.cons (by simp only[RU]) .nil,(if_pos rfl).trans spec,λY2 v H' p' k' ZX Uu=>?_⟩;exact aft Y2 v H' p' k' ⟨ZX.len,ZX.inj,ZX.cell,RUs.mono k' p' _ _ hr.ext.cap,λq hq=>ZX.ext.cds q (dz _ hq),ZX.ext.tab⟩ Uu
 rw[<-S.hK]at YA;refine xW (fj (FO.run X.A X.stack s H ⟨[.ref f],[]⟩ [.ref f] [.ref f] Q E0 11#9 (qG I) (YA s _ I.kIn rfl) (.cons rfl .nil) Zh) λr s' hq=>?_);cases r with
 |error e=>exact hq.elim
 | ok fl=>
   cases fl with
   |ret u=>exact I.after hq
   |next=>exact bO hq
   |brk=>exact bO hq
   |cont=>exact bO hq
theorem A7{fs:List Str}{k' j:Nat}{ml:ME}{g q:Str}{c P:Addr}{p1 lp pos:Pos}
  (S:Sc M X k N ns) (FC:FnR M cl g k' d vf) (hj:k'<=j+1) (hk:j+1+d<=k) (WU:M.mkr=some (c,q)) (MK:Mkr M c P (q++"<lambda>"))
  (hg:di ns g=true) (TF:(g==("__debug__":Str))=false)
  (LS:iR [] fs scope) (Zf:∀y∈fs,ns.lookup y=some .cell/\(y,aV)∈3#7) (WN:ee 16#5 fs=some is)
  (hb:∀(caps:List U) (capv:List V) (cds:List 2#5) (base:Heap),eX M.mg base->Xt M caps capv cds base->∀(X':Cx),Sc 6#4 X' j ([]++fs) 3#7->PE X' body (tM 9#3 ml))
  (hx:∀(caps:List U) (capv:List V) (cds:List 2#5) (base:Heap),eX M.mg base->Xt M caps capv cds base->∀(X':Cx) (E:XK),Lv X' E->Sc 6#4 X'.nox j ([]++fs) 3#7->PE X' body (tXE cl 9#3 rl E)):
  PE X (.Call (.Name g p1) [.Lambda xT body scope lp] [] pos) (tM M.K (hZ vf is ml rl)):=by
 intro pins s σ H Q I h;obtain⟨μ,S1,G,u,S',Z',er,qm,aft⟩:=h;unfold hZ at qm;cases YW:fG is G with
 |none=>rw[YW]at qm;cases qm
 |some cs=>
 rw[YW]at qm;simp only[aI]at qm;obtain⟨f0,Wy,hm,Zm,YA,FF⟩:=FC.ex;rw[<-S.hK]at Zm;refine cN (i7 I 4#0 (by rw[S.hm];exact hm) ?_ TF);refine j0 (h₀:=X.base) I.ok.mod.kin Zm ?_ rfl rfl;obtain⟨YT,YS⟩:=S.cod c q WU;obtain⟨U',hP,tr,al⟩:=Z'.ext.tab _ MK.mem;have WK:s.heap.get? P=some (tabObj U'):=I.hok P _ hP;have kin:M.K.K.In s.heap:=by have:=I.kIn;rwa[S.hK]at this
 have C:CodeHd s.heap c P:=MK.hd _ kin;have Wz:s.heap.Ns mainGlobals X.mg:=I.mod.glob.keeps I.bk;obtain⟨bm,ob,b1,b2,b5,b6,b7,b8⟩:=MK.bl;have XB:s.heap.get? bm=some ob:=I.bk bm ob (by rw[S.hb];exact b5);have b3:bm≠mainGlobals:=λz=>by
  obtain⟨o,es,ep,e,hd,_⟩:=Wz;rw[<-z,XB]at e;cases e;rw[b8]at hd;cases hd
 have b4:bm≠P:=λz=>by
  rw[z,WK]at XB;cases XB;cases b8
 have BA:s.heap.BuiltinsAt X.mg P:=⟨bm,ob,by rw[S.hm];exact b1,b2,b3,b4,XB,b6,b7,b8⟩;have Yh:closureFor scope X.env=pure 13#5:=t9 λy hy UJ=>I.ok.has y.1 (.inl (S.cel y.1 (Zf y.1 (LS.fre y hy UJ)).1).1);show aC _ _ (spliced [(false,eval (.Lambda xT body scope lp) X.env)]) _ _ s;refine dq (PySem.W.kla_eval rfl ?_);have fin:∀(H2:Hp) (s2:Shared) (c' f:Addr) (Zn:Value) (oc:Obj) (ws:Array Value) (t:Tok),Inv X pins σ H2 s2->aX H H2->HR M.K μ S1 H2 ->
   s2.heap.get? f=some (kla_obj "<lambda>" 16#9 xT body scope 13#5 16#1 c' Zn)->H2 f=none->0#8<=f->H2 c'=some (.frz oc fz)->oc.data=.fields ws->ws[1]?=some (.str (q++"<lambda>") t) ->
   aC 1#2 X.A (spliced []) (λvs ZY=>X.K.In ZY.heap/\aC 1#2 X.A (call (.ref f0) ([]++(cg f::vs))) 8#8 X.xe ZY) X.xe s2:=by
  intro H2 s2 c' f Zn oc ws t I2 XM ZX hf YD WT hc Zd hq;have Yf:f∉frs 4#9:=λz=>by
   obtain⟨_,o,ho,_⟩:=I.stack.mem z;exact absurd (aq (az ho) WT) (br _)
  rw[<-YS]at hq;exact eR ⟨I2.kIn,Ga S MK.bl hj hk YA FF LS Zf WN hb hx I2 ZX (er.mono XM 2#2) YW qm (aft.mono 2#2 XM) hf YD Yf hc Zd hq⟩
 cases ham:codeAmong lp U'.toList with
 | none=>
   refine zU (mg:=X.mg) Yh I.ok.glob Wz YT C WK tr ham MK.gP BA λc' Zn h' tk hx Yo ZR WH XR=>?_;obtain⟨c2,oc,ws,t,e,Zd,hd,Yc⟩:=WH;cases e;have I2:=vv (ob:=kla_obj "<lambda>" 16#9 xT body scope 13#5 16#1 c' Zn) (tk:=tk) I hP hx Yo Zd XR;rw[YS]at Yc;obtain⟨XM,ZX⟩:=Z'.table (a:=(lp.line:Int)) (b:=(lp.col:Int)) hP (I.hok.fresh Yo) hd Yc MK.un;have ZN:0#8<=10#9:=aE Yo (aN ZR);refine fin _ _ c' h'.objs.size Zn oc ws t I2 XM ZX (aw _ rfl) ?_ ZN ?_ hd Yc
   .rw[aR (bF (az XR)),aR (bF ZR)]
    exact I.hok.fresh ZN
   .rw[aR (aT hP (I.hok.fresh Yo)).symm,bW]
 | some cv=>
   obtain⟨c',oc,ws,t,rfl,YM,hd,Yc⟩:=al lp cv ham;refine v7 (mg:=X.mg) Yh I.ok.glob Wz YT C WK tr ham BA λZn h' tk hk ZN=>?_;have I2:=I.kept (t':=tk) (h':=h'.push (kla_obj "<lambda>" 16#9 xT body scope 13#5 16#1 c' Zn)) (fun b o e=>ag _ (hk b o e));exact fin H _ c' h'.objs.size Zn oc ws t I2 8#2 Z' (aw _ rfl) (I.hok.fresh ZN) ZN YM hd Yc
end
end _G
namespace _G
open PySem PySem.Spec _L
open PySem.W (envX fnX fnMade CodeHd tabObj)
open PyProof.Rows hiding St
def sml(i:Int):Prop:= -(2^64)<i/\i<2^64
instance(i:Int):Decidable (sml i):=ck _
section
variable {M:Mo}{X:Cx}{k:Nat}{N:List Str}{ns:List (Str×NameKind)}
end
section
variable {M:Mo}{X:Cx}{k:Nat}{N:List Str}{ns:List (Str×NameKind)}{pins:List (Addr×Obj)}{σ:St}{H:Hp}{s:Shared}
end
end _G
namespace _G
open PySem PySem.Spec _L
open PyProof.Rows hiding St
abbrev NS:=List 6#6
structure Zt where
 R:List (Str×RF)
 F:List (Str×VF)
 cl:Nat->Addr
 nm:Str
def Zt.to(z:Zt)(nm:Str):Zt:=⟨z.R,z.F,z.cl,nm⟩
structure Tb where
 D:List (Str×MF)
 C:List (Str×U)
 L:List (Str×Addr×MF)
 H:List (Str×(Addr->MF->MF))
 mkr:Bool
 Z:Zt
def Tb.bare(T:Tb):Tb:=⟨T.D,T.C,[],T.H,false,T.Z⟩
def frees(sc:Scope):List Str:=(sc.names.filter λy=>y.2==.free).map (·.1)
def qw(ps:List Str)(sc:Scope)(ns:NS):Bool:=
 sc.kind==.function && !sc.isCoroutine && !sc.isGenerator&&decide ((ps++frees sc).Nodup)&&ps.all (λp=>sc.names.lookup p==some .local||sc.names.lookup p==some .cell)&&sc.names.all (λy=>!(y.2==.cell)||sc.names.lookup y.1==some .cell)&&(frees sc).all λy=>sc.names.lookup y==some .free&&ns.lookup y==some .cell
def notStar:Expr->Bool
 |.Starred _ _=>false
 |_=>true
def g9:Expr->Bool
 |.ListComp _ _ _ _=>false
 |.SetComp _ _ _ _=>false
 |.DictComp _ _ _ _ _=>false
 |_=>true
def iA:Expr->Bool
 |.Set _ _ _=>false
 |_=>true
def j9:Expr->Bool
 |.Slice _ _ _ _=>false
 |_=>true
def notTuple:Expr->Bool
 |.Tuple _ _ _=>false
 |_=>true
def rS:List Expr->Bool
 |[.Subscript _ _ _,.Subscript _ _ _]=>true
 |_=>false
def baseOk:Expr->Bool
 |.Call (.Name _ _) [] [] _=>false
 |_=>true
def plainT:Expr->Bool
 |.Name _ _=>true
 |.Call _ _ _ _=>true
 |.Subscript _ _ _=>true
 |.Constant _ _ _=>true
 |_=>false
def dummy(N:List Str):Str:=⟨#[N.length+1]⟩
def AC(N:List Str)(x:Str):List Str:=(N.map λy=>if y==x then dummy N else y)++[x]
def Fh(N xs:List Str):List Str:=(N.zipIdx.map λ(y,i)=>if xs.contains y then(⟨#[N.length+1,i]⟩:Str) else y)++xs
def namesOf:List Expr->Option (List Str)
 |[]=>some []
 |.Name x _::r=>(namesOf r).map λxs=>x::xs
 |_=>none
def bw(x:Str):Bool := ! 7#7 && ! 18#2
def slot(N:List Str)(x:Str):Option Nat:=N.findIdx? (· == x)
def LJ(g:Str):Option MF:=
 if g==("len":Str) then some bL else if g==("tuple":Str) then some bU else if g==("list":Str) then some kX
 else if g==("max":Str) then some yZ else if g==("min":Str) then some yU else if g==("all":Str) then some uX
 else if g==("sorted":Str) then some i6   else if g==("repr":Str) then some nj else none
def iQ:List Str := ["len","tuple","list","max","min","range","isinstance","bool","int","str","dict","all","any","sorted","reversed","zip","enumerate","set","sum","repr"]
def Fm(t:Str):Option String:=
 if t==("tuple":Str) then some "tuple" else if t==("list":Str) then some "list" else if t==("int":Str) then some "int"
 else if t==("bool":Str) then some "bool" else if t==("str":Str) then some "str" else if t==("dict":Str) then some "dict" else none
def Le:Operator->Option F2
 |.Add=>some bM
 |.Sub=>some qc
 |.Mult=>some d7
 |.FloorDiv=>some oDiv
 |.Mod=>some oMod
 |.Pow=>some wK
 |_=>none
def zi:CmpOp->Option F2
 |.Lt=>some oLt
 |.LtE=>some oLe
 |.Gt=>some oGt
 |.GtE=>some oGe
 |.Eq=>some oEq
 |.NotEq=>some oNe
 |.IsNot=>some oj
 |_=>none
def sNo:MS:=λ_ _=>none
def NJ:MS:=λG S=>some (.bk,G,S)
def NT:MS:=λG S=>some (.ct,G,S)
def Fy(name:Str)(ma:ME)(mas:MA):Option ME:=
 if name==("append":Str) then some (mML cb ma mas) else if name==("pop":Str) then some (mML nX ma mas)
 else if name==("index":Str) then some (mMT iM ma mas)
 else if name==("extend":Str) then some (mML i8 ma mas) else none
set_option genInjectivity false in
structure Rc where
 e:Tb->List Str->NS->Expr->Option ME
 c:Tb->List Str->NS->Str->List Expr->Option ME
 v:Tb->List Str->NS->Str->List Expr->Option ME
 o:Tb->List Str->NS->Option Expr->Option (Option ME)
 t:Tb->List Str->NS->Expr->Option MT
 l:Tb->List Str->NS->Bool->List Expr->Option MT
 f:Tb->List Str->NS->List Expr->Option MT
 a:Tb->List Str->NS->List Expr->Option MA
 i:Tb->List Str->NS->Expr->Option MI
 g:Tb->List Str->NS->Expr->Option MG
 gs:Tb->List Str->NS->List Expr->Option MGs
 s:Tb->List Str->NS->Stmt->Option MS
 b:Tb->List Str->NS->List Stmt->Option MS
section
variable (R:Rc) (T:Tb) (N:List Str) (ns:NS)
def OS:Const->Option ME
 |.int i=>some (mC (.int i))
 |.bool b=>some (mC (.bl b))
 |.none=>some (mC .non)
 |.str x=>some (mC (.str x))
 |_=>none
def eUn(a:Expr):UnaryOp->Option ME
 |.USub=>(R.e T N ns a).map (m1 m7)
 |.Not=>(R.e T N ns a).map (m1 zH)
 |_=>none
def eBo(op:BoolOp)(p:Pos):List Expr->Option ME
 |[]=>none
 |[a]=>R.e T N ns a
 | a::b::r=>(R.e T N ns a).bind λma=>match op with
   |.And=>(R.e T N ns (.BoolOp .And (b::r) p)).map (lP ma)
   |.Or=>(R.e T N ns (.BoolOp .Or (b::r) p)).map (mOr ma)
def eCm(a:Expr):List CmpOp->List Expr->Option ME
 |[op],[b]=>if iA b then(R.e T N ns a).bind λma=>(R.e T N ns b).bind λmb=>(zi op).map λf=>m2 f ma mb else none
 |[op,Yv],[b,c]=>if iA b&&iA c then(R.e T N ns a).bind λma=>(R.e T N ns b).bind λmb=>(R.e T N ns c).bind λmc=>(zi op).bind λf=>(zi Yv).map λg=>mCh f g ma mb mc else none
 |_,_=>none
def HH:Expr->Bool
 |.UnaryOp .USub (.Constant (.int i) _ _) _=>i==1
 |_=>false
def eSl(a:Expr)(lo hi:Option Expr):Option Expr->Option ME
 |none=>(R.e T N ns a).bind λma=>(R.o T N ns lo).bind λml=>(R.o T N ns hi).map (mSl ma ml)
 |some s=>if lo.isNone&&hi.isNone&&HH s then(R.e T N ns a).map (m1 uS) else none
def eSb(a:Expr):Expr->Option ME
 |.Slice lo hi st _=>eSl R T N ns a lo hi st
 |b=>if j9 b then(R.e T N ns a).bind λma=>(R.e T N ns b).map (m2 oIx ma) else none
def eDi:List (Option Expr)->List Expr->Option ME
 |[some a],[b]=>(R.e T N ns a).bind λma=>(R.e T N ns b).map (vq ma)
 |_,_=>none
def BG(e:Expr):Option (Expr×Expr):=match e with
 |.Call (.Name g _) [a,b] [] _=>if g==("zip":Str) then some (a,b) else none
 |_=>none
def eIc(e:Expr):Option MI:=match BG e with
 |some (a,b)=>if di ns ("zip":Str) then (R.a T N ns [a,b]).map zr else none
 |none=>none
def eLn(elt it:Expr)(ifs:List Expr)(scope:Scope)(x:Str):Option ME:=
 (R.i T N ns it).bind λmi=>(R.f T (AC N x) scope.names ifs).bind λmt=>(R.e T (AC N x) scope.names elt).map (cY mi mt)
def eLt(elt it:Expr)(ifs:List Expr)(scope:Scope):Expr->Option ME
 |.Name x _=>if 13#3==.function&&mO N (AC N x) ns scope.names x&&iA it then eLn R T N ns elt it ifs scope x else none
 | .Tuple ts _ _=>(namesOf ts).bind λxs=>
   if 13#3==.function&&pE N (Fh N xs) ns scope.names xs&&iA it then
    (eIc R T N ns it).bind λmi=>(R.f T (Fh N xs) scope.names ifs).bind λmt=>(R.e T (Fh N xs) scope.names elt).map (lN xs.length mi mt)
   else none
 |_=>none
def eLc(elt:Expr)(scope:Scope):List Comprehension->Option ME
 |[c]=>if c.is_async=0 then eLt R T N ns elt c.iter c.ifs scope c.target else none
 |_=>none
def zj(fs:List Str)(XI:NS):Expr->Option MX
 |.Call (.Name f _) (a::as) [] _=>if di XI f&&bw f then(T.Z.R.lookup f).bind λrf=>(R.a T.bare fs XI (a::as)).map (xFn rf) else none
 |_=>none
def J2(fs:List Str)(XI:NS)(q:Pos)(a:Expr):Expr->Option MX
 |.Attribute o x p=>if x==("append":Str)&&baseOk o&&(p.endLine==q.line)&&notStar a then (R.e T.bare fs XI o).bind fun mo=>(zj R T fs XI a).map (xML mo) else none
 |_=>none
def JK(fs:List Str)(XI:NS):Expr->Option MX
 |.Call g [a] [] q=>(J2 R T fs XI q a g).or (zj R T fs XI (.Call g [a] [] q))
 |e=>zj R T fs XI e
def FA(p:Arguments):Bool:=rR p&&p.args.isEmpty
def E2(g:Str)(p:Arguments)(b:Expr)(sc:Scope):Option ME:=
 if T.mkr&&T.Z.nm==("<lambda>":Str)&&FA p&&qw [] sc ns then (ee (fun y=>N.findIdx? (· == y)) (frees sc)).bind fun is=>(R.e T.bare ([]++frees sc) sc.names b).bind fun ml=>(JK R T ([]++frees sc) sc.names b).bind fun rl=>(T.Z.F.lookup g).map fun rz=>hZ rz is ml rl else none
def eRg(g:Str):List Expr->Option ME
 |[a]=>if g==("list":Str) then none else (R.a T N ns [a]).map fun m=>vn (iR1 m)
 |[a,b]=>if g==("list":Str) then (R.a T N ns [a,b]).map fun m=>om (iR2 m) else none
 |_=>none
def eLS:List Expr->Option ME
 |[a]=>(R.a T N ns [a]).map (mFn bLS)
 |_=>none
def eC1(g:Str):Expr->Option ME
 |.Lambda p b sc _=>E2 R T N ns g p b sc
 |.Call (.Name r q) rs [] rp=>if (g==("list":Str)||g==("tuple":Str))&&r==("range":Str) then (if di ns r then eRg R T N ns g rs else none) else if g==("len":Str)&&r==("set":Str) then (if di ns r then eLS R T N ns rs else none) else R.c T N ns g [.Call (.Name r q) rs [] rp]
 |a=>R.c T N ns g [a]
def eIs(g t:Str)(tp:Pos)(a:Expr):Option ME:=
 if g==("isinstance":Str) then (if di ns t&&notStar a then (Fm t).bind fun c=>(R.e T N ns a).map (m1 (iw c)) else none) else R.c T N ns g [a,.Name t tp]
def Qb(g:Str)(a:Expr)(p:Arguments)(b:Expr)(sc:Scope):Option ME:=
 if T.mkr&&T.Z.nm==("<lambda>":Str)&&notStar a then (tN p).bind fun ps=>
    if qw ps sc ns then(ee 16#5 (frees sc)).bind λis=>(R.e T N ns a).bind λma=>(R.e T.bare (ps++frees sc) sc.names b).bind λml=>(T.H.lookup g).map λF=>pU F ps.length is ml ma else none
   else none
def eC2(g:Str)(a:Expr):Expr->Option ME
 |.Name t tp=>eIs R T N ns g t tp a
 |.Lambda p b sc _=>Qb R T N ns g a p b sc
 |b=>R.c T N ns g [a,b]
def eCf(g:Str):List Expr->Option ME
 |[]=>(T.D.lookup g).map λmf=>mFn mf ai
 |[a]=>eC1 R T N ns g a
 |[a,b]=>eC2 R T N ns g a b
 |a::b::c::r=>R.c T N ns g (a::b::c::r)
def eMe(o:Expr)(name:Str)(p q:Pos):List Expr->Option ME
 |[]=>none
 |[a]=>if baseOk o&&(p.endLine==q.line)&&notStar a then(R.e T N ns o).bind λmo=>(R.a T N ns [a]).bind (Fy name mo) else none
 |_=>none
def eCa(as:List Expr)(q:Pos):Expr->Option ME
 |.Name g _=>if di ns g&&bw g then eCf R T N ns g as else R.v T N ns g as
 |.Attribute o name p=>eMe R T N ns o name p q as
 |_=>none
end
def sE(R:Rc)(T:Tb):List Str->NS->Expr->Option ME:=λN ns e=>match e with
  |.Name x _=>if bw x then(if kI ns x then(slot N x).map ae else if di ns x then(T.C.lookup x).map mC else none) else none
  |.Constant c _ _=>OS c
  |.BinOp a op b _=>(R.e T N ns a).bind λma=>(R.e T N ns b).bind λmb=>(Le op).map λf=>m2 f ma mb
  |.UnaryOp op a _=>eUn R T N ns a op
  |.BoolOp op vs p=>eBo R T N ns op p vs
  |.Compare a ops bs _=>eCm R T N ns a ops bs
  |.IfExp c a b _=>(R.t T N ns c).bind λmc=>(R.e T N ns a).bind λma=>(R.e T N ns b).map (A0 mc ma)
  |.Subscript a b _=>eSb R T N ns a b
  |.Dict ks vs _=>eDi R T N ns ks vs
  |.Tuple es _ _=>(R.a T N ns es).map dS
  |.List es _=>(R.a T N ns es).map cw
  |.ListComp elt gens scope _=>eLc R T N ns elt scope gens
  |.Call f as Vl q=>if Vl.isEmpty then eCa R T N ns as q f else none
  |_=>none
def sC(R:Rc)(T:Tb):List Str->NS->Str->List Expr->Option ME:=λN ns g as=>(R.a T N ns as).bind λmas=>match LJ g with
  |some mf=>some (mFn mf mas)
  |none=>(T.D.lookup g).map λmf=>mFn mf mas
def sV(R:Rc)(T:Tb):List Str->NS->Str->List Expr->Option ME:=λN ns g as=>match as with
 |[]=>none
 |a::as=>if kI ns g&&bw g then(T.L.lookup g).bind λq=>(slot N g).bind λi=>(R.a T N ns (a::as)).map (pq i q.1 q.2) else none
def sO(R:Rc)(T:Tb):List Str->NS->Option Expr->Option (Option ME):=λN ns o=>match o with
  |none=>some none
  |some e=>(R.e T N ns e).map some
def sT(R:Rc)(T:Tb):List Str->NS->Expr->Option MT:=λN ns e=>match e with
  |.UnaryOp .Not a _=>(R.t T N ns a).map eB
  |.BoolOp .And vs _=>R.l T N ns true vs
  |.BoolOp .Or vs _=>R.l T N ns false vs
  |.Compare a ops bs _=>(eCm R T N ns a ops bs).map cOf
  |e=>if plainT e then(R.e T N ns e).map cOf else none
def sL(R:Rc)(T:Tb):List Str->NS->Bool->List Expr->Option MT:=λN ns b vs=>match vs with
  |[]=>none
  |[a]=>R.t T N ns a
  |a::r=>(R.t T N ns a).bind λma=>(R.l T N ns b r).map λmr=>if b then zc ma mr else cOr ma mr
def sF(R:Rc)(T:Tb):List Str->NS->List Expr->Option MT:=λN ns ifs=>match ifs with
  |[]=>some cTT
  |[c]=>R.t T N ns c
  |_=>none
def sA(R:Rc)(T:Tb):List Str->NS->List Expr->Option MA:=λN ns es=>match es with
  |[]=>some ai
  |e::r=>if notStar e then(R.e T N ns e).bind λm=>(R.a T N ns r).map (aa m) else none
def sI(R:Rc)(T:Tb):List Str->NS->Expr->Option MI:=λN ns e=>match e with
  | .Call (.Name g q) as [] p=>
    if g==("range":Str) then
     if di ns g then match as with
      |[a]=>(R.a T N ns [a]).map iR1
      |[a,b]=>(R.a T N ns [a,b]).map iR2
      |_=>none
     else none
    else if g==("reversed":Str) then
     if di ns g then match as with
      |[a]=>(R.a T N ns [a]).map yG
      |_=>none
     else none
    else(R.e T N ns (.Call (.Name g q) as [] p)).map eZ
  |e=>(R.e T N ns e).map eZ
def sG(R:Rc)(T:Tb):List Str->NS->Expr->Option MG:=λN ns e=>match e with
  |.Name x _=>if kM ns x then(slot N x).map gN else none
  |.Tuple es _ _=>(R.gs T N ns es).map (gTp es.length)
  |_=>none
def sGs(R:Rc)(T:Tb):List Str->NS->List Expr->Option MGs:=λN ns es=>match es with
  |[]=>some jH
  |e::r=>if notStar e then(R.g T N ns e).bind λg=>(R.gs T N ns r).map (dD g) else none
def eIt(R:Rc)(T:Tb)(N:List Str)(ns:NS)(e:Expr):Option MI:=match e with
  |.Call (.Name g q) [a] [] p=>if g==("enumerate":Str) then (if di ns g then (R.a T N ns [a]).map kW else none) else none
  |_=>none
def Nc(R:Rc)(T:Tb)(N:List Str)(ns:NS)(y:Str)(elt it:Expr)(ifs:List Expr)(scope:Scope):Expr->Option MS
 | .Name x _=>
   if kM ns y&&(13#3==.function&&mO N (AC N x) ns scope.names x&&iA it) then
    (slot N y).bind λi=>(R.i T N ns it).bind λmi=>(R.f T (AC N x) scope.names ifs).bind λmt=>(R.e T (AC N x) scope.names elt).map λme=>bz i (cY mi mt me)
   else none
 |_=>none
def Nk(R:Rc)(T:Tb)(N:List Str)(ns:NS)(y:Str)(elt:Expr)(scope:Scope):List Comprehension->Option MS
 |[c]=>if c.is_async=0 then Nc R T N ns y elt c.iter c.ifs scope c.target else none
 |_=>none
def M8(R:Rc)(T:Tb)(N:List Str)(ns:NS)(x:Str):Expr->Option MS
 |.ListComp elt gens scope _=>Nk R T N ns x elt scope gens
 |e=>if kM ns x&&g9 e then(slot N x).bind λi=>(R.e T N ns e).map (bz i) else none
def A3(i j:Nat)(mas:MA):MS:=λG S=>bnd (mas G S) λvs S1=>match vs with
 |[v,w]=>some (.nx,(G.set i (some v)).set j (some w),S1)
 |_=>none
def IE(px py:Pos)(x y:Str)(a b:Expr):Bool:=px.line==py.line && !(x==y)&&notStar a&&notStar b && !(foldedForSure 8 a&&foldedForSure 8 b) && !(constantsAlone 8 a&&constantsAlone 8 b)
def BB(ts:List Expr)(e:Expr):Option (Str×Str×List Expr):=match ts,e with
 |[.Name x px,.Name y py],.Tuple [a,b] _ _=>if IE px py x y a b then some (x,y,[a,b]) else none
 |_,_=>none
def Oy(R:Rc)(T:Tb)(N:List Str)(ns:NS)(e:Expr)(ts:List Expr)(kt:Nat)(pt:Pos):Option MS:=match BB ts e with
 |some (x,y,as)=>if ns.lookup x==some .local&&ns.lookup y==some .local then(slot N x).bind λi=>(slot N y).bind λj=>(R.a T N ns as).map (A3 i j) else none
 |none=>if g9 e&&(notTuple e||rS ts) then(R.g T N ns 11#8).bind λg=>(R.e T N ns e).map λme=>Ax me g else none
def Mi(R:Rc)(T:Tb)(N:List Str)(ns:NS)(e:Expr):Expr->Option MS
  |.Name x _=>M8 R T N ns x e
  |.Subscript a b _=>if g9 e&&j9 b then(R.e T N ns a).bind λma=>(R.e T N ns b).bind λmb=>(R.e T N ns e).map (ox ma mb) else none
  |.Tuple ts kt pt=>Oy R T N ns e ts kt pt
  |_=>none
def sAs(R:Rc)(T:Tb)(N:List Str)(ns:NS)(e:Expr):List Expr->Option MS
 |[t]=>Mi R T N ns e t
 |_=>none
def sAu(R:Rc)(T:Tb)(N:List Str)(ns:NS)(x:Str)(e:Expr):Operator->Option MS
  |_=>none
def Lk(R:Rc)(T:Tb)(N:List Str)(ns:NS)(op:Operator)(e:Expr):Expr->Option MS
 |.Name x _=>sAu R T N ns x e op
 |_=>none
def sRt(R:Rc)(T:Tb)(N:List Str)(ns:NS):Option Expr->Option MS
 |some e=>(R.e T N ns e).map bZ
 |none=>some (bZ (mC .non))
def sFo(R:Rc)(T:Tb)(N:List Str)(ns:NS)(it:Expr)(body:List Stmt):Expr->Option MS
  |.Name x _=>if kM ns x&&iA it then(slot N x).bind λi=>(R.i T N ns it).bind λmi=>(R.b T N ns body).map (fA i mi) else none
  |.Tuple ts kt pt=>if iA it then(R.g T N ns 11#8).bind λg=>(eIt R T N ns it).bind λmi=>(R.b T N ns body).map (q9 g mi) else none
  |_=>none
def Mf(R:Rc)(T:Tb)(N:List Str)(ns:NS)(t it:Expr)(body:List Stmt):List Stmt->Option MS
 |[]=>sFo R T N ns it body t
 |_=>none
def sWh(R:Rc)(T:Tb)(N:List Str)(ns:NS)(c:Expr)(body:List Stmt):List Stmt->Option MS
 |[]=>(R.t T N ns c).bind λmc=>(R.b T N ns body).map (Ao mc)
 |_=>none
def sS(R:Rc)(T:Tb):List Str->NS->Stmt->Option MS:=λN ns st=>match st with
  |.Assign ts e _=>sAs R T N ns e ts
  |.AugAssign t op e _=>Lk R T N ns op e t
  |.Expr e _=>if g9 e then(R.e T N ns e).map dk else none
  |.Return o _=>sRt R T N ns o
  |.If c a b _=>(R.t T N ns c).bind λmc=>(R.b T N ns a).bind λma=>(R.b T N ns b).map (sIf mc ma)
  |.For t it body els _=>Mf R T N ns t it body els
  |.While c body els _=>sWh R T N ns c body els
  |.Pass _=>some dg
  |.Break _=>some NJ
  |.Raise _ _ _=>some sNo
  |.Continue _=>some NT
  |_=>none
section
variable (R:Rc) (T:Tb) (N:List Str) (ns:NS)
end
def sB(R:Rc)(T:Tb):List Str->NS->List Stmt->Option MS:=λN ns sts=>match sts with
  |[]=>some dg
  |[s]=>R.s T N ns s
  |s::r=>(R.s T N ns s).bind λms=>(R.b T N ns r).map (aY ms)
def rc:Nat->Rc
 |0=>⟨λ_ _ _ _=>none,λ_ _ _ _ _=>none,λ_ _ _ _ _=>none,λ_ _ _ _=>none,λ_ _ _ _=>none,λ_ _ _ _ _=>none,λ_ _ _ _=>none,λ_ _ _ _=>none,λ_ _ _ _=>none,λ_ _ _ _=>none,λ_ _ _ _=>none,λ_ _ _ _=>none,λ_ _ _ _=>none⟩
 |n+1=>⟨sE (rc n),sC (rc n),sV (rc n),sO (rc n),sT (rc n),sL (rc n),sF (rc n),sA (rc n),sI (rc n),sG (rc n),sGs (rc n),sS (rc n),sB (rc n)⟩
abbrev cE(T:Tb)(n:Nat):=(rc n).e T
abbrev cC(T:Tb)(n:Nat):=(rc n).c T
abbrev cV(T:Tb)(n:Nat):=(rc n).v T
abbrev cO(T:Tb)(n:Nat):=(rc n).o T
abbrev cT(T:Tb)(n:Nat):=(rc n).t T
abbrev cL(T:Tb)(n:Nat):=(rc n).l T
abbrev cF(T:Tb)(n:Nat):=(rc n).f T
abbrev cA(T:Tb)(n:Nat):=(rc n).a T
abbrev cI(T:Tb)(n:Nat):=(rc n).i T
abbrev cG(T:Tb)(n:Nat):=(rc n).g T
abbrev cGs(T:Tb)(n:Nat):=(rc n).gs T
abbrev cS(T:Tb)(n:Nat):=(rc n).s T
abbrev cB(T:Tb)(n:Nat):=(rc n).b T
section
variable {env:Env}{e a b o:Expr}{es:List Expr}{pos q:Pos}
theorem bY(h:notStar e=true)(es:List Expr)(env:Env):starEach 2#0 env=(false,eval e env)::starEach es env:=by
 cases e<;>first |rfl |cases h
theorem nW(pos:Pos)(env:Env):∀{es:List Expr},es.all notStar=true->(backTo pos (starEach es env)).any (·.1)=false
 |[],_=>rfl
 | e::es,h=>by
   rw[bA,ao]at h;rw[bY h.1];show(false||(backTo _ _).any _)=false;rw[nW _ _ h.2];rfl
theorem Fd(h:plainT e=true)(env:Env):∀whole,isTrue e env whole=(do let v <- whole;standAt e.pos;holding [v] (truthy v)):=by
 intro whole;cases e<;>first |rfl |cases h
theorem oU(h:iA e=true)(env:Env):∀x,foldedSetIterable e env x=pure x:=by
 intro x;cases e<;>first |rfl |cases h
theorem xo(h:iA b=true)(op:CmpOp):behindInMarks op b=false:=by
 cases b<;>first |rfl |cases h
theorem JG(h:j9 b=true):wz b:=by
 intro o i;cases b<;>first |rfl |cases h
theorem pB(h:baseOk o=true)(name:Str)(env:Env):attributeBase o name env (eval o env)=eval o env:=by
 cases o with
 | Call f as ks p=>
   cases f with
   | Name x p=>
     cases as with
     | nil=>cases ks with
       |nil=>cases h
       |cons k ks=>rfl
     |cons a as=>rfl
   |_=>rfl
 |_=>rfl
theorem pe(h:g9 e=true)(t:Option Expr)(line:Nat)(env:Env):swapsWith e t line env=pure false:=by
 cases e<;>first |rfl |cases h
theorem By(h:g9 e=true)(t:Expr)(line:Nat)(env:Env):swapsWithSole [t] e line env=pure false:=by
 exact pe h _ _ _
theorem sH(h:notStar a=true)(q:Pos)(env:Env):((backTo q (starEach [a] env)).all (λx => !x.1)&&(backToKw q (keywordEach [] env)).all (λx=>x.1.isSome)
   && decide ([a].length+([]:List Keyword).length+(if ([]:List Keyword).isEmpty then 0 else 1)<30))=true:=by
 rw[bY h];rfl
theorem L5(h:j9 b=true)(env:Env): ∀v,assign (.Subscript a b pos) env v=(do
   let ov <- holding [v] (eval a env)
   let iv <- holding [v,ov] (eval b env)
   standAt pos
   holding [v,ov,iv] (setItem ov iv v)
   release [v,ov,iv] []):=by
 intro v;cases b<;>first |rfl |cases h
theorem zv(h:notStar e=true)(es:List Expr)(env:Env):assignEach 2#0 env=(false,assign e env)::assignEach es env:=by
 cases e<;>first |rfl |cases h
theorem B3(env:Env):∀es:List Expr,es.all notStar=true->(assignEach es env).length=es.length/\(assignEach es env).findIdx? (·.1)=none
 |[],_=>⟨rfl,rfl⟩
 | e::es,h=>by
   rw[bA,ao]at h;obtain⟨a,b⟩:=B3 env es h.2;rw[zv h.1];exact⟨by simp[a],by rw[rZ];simp[b]⟩
theorem zG{ts:List Expr}{kt:Nat}{pt:Pos}(h:(notTuple e||rS ts)=true):swappedStores [.Tuple ts kt pt] e env=pure none:=by
 cases e with
 | Tuple vs k2 p2=>
   have h':=h;unfold rS at h'
   split at h'
   .exact yu
   .cases h'
 |_=>rfl
theorem AS:swappedStores [.Subscript a b pos] e env=pure none:=by
 cases e<;>rfl
end
theorem fR{T:Tb}:∀{n:Nat}{N:List Str}{ns:NS}{es:List Expr}{m:MA},cA T n N ns es=some m->es.all notStar=true
 |0,_,_,_,_,h=>by simp[cA,rc]at h
 |n+1,_,_,[],_,h=>rfl
 | n+1,N,ns,e::es,m,h=>by
   simp only[cA,rc,sA]at h
   split at h
   .rename_i hs
    cases e1:(rc n).e T N ns e with
    |none=>simp_all
    | some me=>
      cases e2:(rc n).a T N ns es with
      |none=>grind
      |some mr=>rw[bA,hs,fR e2];rfl
   grind
theorem yn{T:Tb}:∀{n:Nat}{N:List Str}{ns:NS}{es:List Expr}{m:MGs},cGs T n N ns es=some m->es.all notStar=true
 |0,_,_,_,_,h=>by simp[cGs,rc]at h
 |n+1,_,_,[],_,h=>rfl
 | n+1,N,ns,e::es,m,h=>by
   simp only[cGs,rc,sGs]at h
   split at h
   .rename_i hs
    cases e1:(rc n).g T N ns e with
    |none=>simp_all
    | some me=>
      cases e2:(rc n).gs T N ns es with
      |none=>grind
      |some mr=>rw[bA,hs,yn e2];rfl
   grind
variable{N:List Str}{x:Str}{i:Nat}
theorem slot_get(h:slot N x=some i):N[i]?=some x:=by
 obtain⟨h1,h2,_⟩:=dC.mp h
 simp_all
theorem bS (h:bw x=true):7#7=false/\18#2=false:=by
 unfold bw at h
 simp_all
theorem bind_eq{α β:Type}{o:Option α}{f:α->Option β}{b:β}(h:o.bind f=some b):∃a,o=some a/\f a=some b:=by
 cases o<;>simp_all
theorem map_eq{α β:Type}{o:Option α}{f:α->β}{b:β}(h:o.map f=some b):∃a,o=some a/\f a=b:=by
 simp_all
section
variable {M:Mo}{X:Cx}{k:Nat}{N:List Str}{ns:NS}{a b c e:Expr}{es:List Expr}{ma mb mc:ME}{mt:MT}{mas:MA}{pos p1 p2:Pos}{x:Str}
theorem Kz(S:Sc M X k N ns)(hg:di ns "list"=true)(hm:M.mg "list"=none)(ha:PA X 2#0 2#9)(he:starEach 2#0 X.env=(false,eval e X.env)::starEach es X.env)(ZL:(backTo pos 14#5).any (·.1)=false) :
  PE X (.Call (.Name "list" p1) 2#0 [] pos) (tM M.K (mFn kX mas)):=
 PE.con (mL (S.hK▸w9) 4#0 5#3 v8 ha 0#1 0#1 he ZL) λ_ _ _ h=>xJ IG h
theorem Nm(S:Sc M X k N ns)(hg:di ns "all"=true)(hm:M.mg "all"=none)(ha:PA X 2#0 2#9)(he:starEach 2#0 X.env=(false,eval e X.env)::starEach es X.env)(ZL:(backTo pos 14#5).any (·.1)=false) :
  PE X (.Call (.Name "all" p1) 2#0 [] pos) (tM M.K (mFn uX mas)):=
 PE.con (jo (S.hK▸Cm S.calm) 4#0 5#3 PyProof.Rows.boot_all ha 0#1 0#1 he ZL) λ_ _ _ h=>xJ Kw h
variable{ts:List Expr}{kt:Nat}
theorem Ld{pt:Pos}{a b:Expr}(S:Sc M X k N ns)(hg:di ns "zip"=true)(hm:M.mg "zip"=none)(ha:PA X [a,b] 2#9)(hs:starEach [a,b] X.env=13#6::starEach [b] X.env)(ZE:starEach [b] X.env=[14#4]):PI X 11#8 (.Call (.Name "zip" p1) [a,b] [] pos) (BL M.K 2#9):=
 S.hK▸Lu 4#0 (by rw[S.hm];exact hm) ha hs ZE
theorem Ic{pt:Pos}{a:Expr}(S:Sc M X k N ns)(hg:di ns "enumerate"=true)(hm:M.mg "enumerate"=none)(ha:PA X [a] 2#9)(hs:starEach [a] X.env=[13#6]):PI X 11#8 (.Call (.Name "enumerate" p1) [a] [] pos) (wZ M.K 2#9):=
 S.hK▸HS 4#0 5#3 ha hs
theorem GN(S:Sc M X k N ns)(hg:di ns "sorted"=true)(hm:M.mg "sorted"=none)(ha:PA X 2#0 2#9)(he:starEach 2#0 X.env=(false,eval e X.env)::starEach es X.env)(ZL:(backTo pos 14#5).any (·.1)=false) :
  PE X (.Call (.Name "sorted" p1) 2#0 [] pos) (tM M.K (mFn i6 mas)):=
 PE.con (jo (S.hK▸yi S.calm) 4#0 5#3 PyProof.Rows.boot_sorted ha 0#1 0#1 he ZL) λ_ _ _ h=>xJ Ds h
variable{as:Expr}{q rp:Pos}
theorem QA (S:Sc M X k N ns)(hg:di ns "len"=true)(hm:M.mg "len"=none)(Xp:di ns "set"=true)(YZ:M.mg "set"=none)(ha:PA X [as] 2#9)(hs:notStar as=true) :
  PE X (.Call (.Name "len" p1) [.Call (.Name "set" q) [as] [] rp] [] pos) (tM M.K (mFn bLS mas)):=
 PE.con (S.hK▸OB S.calm 4#0 (by rw[S.hm];exact hm) (S.gl Xp) (by rw[S.hm];exact YZ) ha (by rw[bY hs])) λ_ _ _ h=>xJ Pu h
theorem KB(S:Sc M X k N ns)(hg:di ns "repr"=true)(hm:M.mg "repr"=none)(ha:PA X 2#0 2#9)(he:starEach 2#0 X.env=(false,eval e X.env)::starEach es X.env)(ZL:(backTo pos 14#5).any (·.1)=false) :
  PE X (.Call (.Name "repr" p1) 2#0 [] pos) (tM M.K (mFn nj mas)):=
 PE.con (jo (S.hK▸CZ S.room.gu S.room.units) 4#0 5#3 PyProof.Rows.boot_repr ha 0#1 0#1 he ZL) λ_ _ _ h=>xJ Hc h
theorem E8(S:Sc M X k N ns)(ho:PE X b 7#3)(ha:PA X [a] 2#9)(hb:baseOk b=true)(hs:notStar a=true)(hl:(p1.endLine==pos.line)=true):PE X (.Call (.Attribute b "extend" p1) [a] [] pos) (tM M.K (mML i8 mb mas)):=by
 exact PE.con (Bz ie PySem.F.slot_list_extend PySem.F.type_list_extend JC ho ha (pB hb _ _) (sH hs _ _) hl (bY hs _ _) rfl) λ_ _ _ h=>S.hK▸KR CM h
theorem F4{op:CmpOp}{f:F2}(S:Sc M X k N ns)(h:zi op=some f):∃r,OpR X (compareOp op) r/\OpU M.K r f:=by
 cases op<;>simp only[zi,jP,reduceCtorEq]at h<;>subst h
 .exact⟨_,S.hK▸LX S.room.units,O9⟩
 .exact⟨_,S.hK▸LG S.room.units,Os⟩
 .exact⟨_,OQ,wk⟩
 .exact⟨_,Pg,wk⟩
 .exact⟨_,OW,wk⟩
 .exact⟨_,NI,wk⟩
 .exact⟨_,Dh,Ea⟩
theorem Of{j:Nat}{p3 p4:Pos}(S:Sc M X k N ns)(ha:PE X a 3#3):PE X (.Subscript a (.Slice none none (some (.UnaryOp .USub (.Constant (.int 1) j p3) p4)) p2) pos) (tM M.K (m1 uS ma)):=by
 refine PE.con ?_ λ_ _ _ h=>OA h;rw[<-S.hK];exact Kv ha
variable{N':List Str}{scope:Scope}{ifs:List Expr}{wi:TI}{mi:MI}
theorem MQ{px py Yi:Pos}{iter elt:Expr}{y:Str}(S:Sc M X k N ns)(i:Nat)(hy:N[i]?=some y)(ho:kM ns y=true)(hk:13#3=.function)(ok:mO N N' ns scope.names x=true)(hi:PI X (.Name x px) iter wi)
  (ht:∀X',Sc M X' k N' 3#7->PTs X' ifs 6#0) (he:∀X',Sc M X' k N' 3#7->PE X' elt (tM M.K mc)) (hr:∀σ H Q,tM M.K (cY mi mt mc) σ H Q->pd wi 6#0 (tM M.K mc) σ H Q)
  (hs:∀x,foldedSetIterable iter X.env x=pure x):PS X (.Assign [.Name y py] 15#6 Yi) (tMS M.K (bz i (cY mi mt mc))):=by
 have C:=vh S hk ok;have e:∃b,swapsWith 15#6 (some (.Name y py)) Yi.line X.env=pure b:=⟨_,rfl⟩;obtain⟨b,e⟩:=e;cases b with
 |true=>exact PS.con (Jo (by rw[S.hN];exact S.nd) (by rw[S.hN];omega) (S.lo ho).1 S.calm C hi (λZY ZU fp=>ht _ (pQ S C _ _ fp)) (λZY ZU fp=>he _ (pQ S C _ _ fp)) e hs (S.lo ho).2) λ_ _ _ h=>hr _ _ _ (JZ h)
 |false=>exact vC S i hy ho (Fu S hk ok hi ht he hr hs) e
theorem Lc(ha:PE X a 3#3)(hb:PE X b 7#3):PE X (.Dict [some a] [b] pos) (tM M.K (vq ma mb)):=
 PE.con (Ii (EI ha hb HN) rfl rfl 0#4 0#4) λ_ _ _ h=>Mx h
theorem y6:∀{ts:List Expr}{xs:List Str},namesOf ts=some xs->fH ts xs
 |[],xs,h=>by cases h;exact .nil
 | t::ts,xs,h=>by
   cases t with
   | Name x p=>
     unfold namesOf at h;cases q:namesOf ts with
     |none=>grind
     |some ys=>rw[q]at h;cases h;exact .cons x p (y6 q)
   |_=>cases h
theorem HV{xs:List Str}{pt:Pos}{iter elt:Expr}(S:Sc M X k N ns)(hk:13#3=.function)(ok:pE N N' ns scope.names xs=true)(hn:fH ts xs)(hi:PI X 11#8 iter wi)
  (ht:∀X',Sc M X' k N' 3#7->PTs X' ifs 6#0) (he:∀X',Sc M X' k N' 3#7->PE X' elt (tM M.K mc))
  (hc:∀σ H Q,tM M.K (lN xs.length mi mt mc) σ H Q->ua (gTt M.K 1#5) wi 6#0 (tM M.K mc) σ H Q)
  (hs:∀x,foldedSetIterable iter X.env x=pure x):PE X (.ListComp elt [⟨.Tuple ts kt pt,iter,ifs,0⟩] scope pos) (tM M.K (lN xs.length mi mt mc)):=by
 have C:=tJ S hk ok;refine PE.con (E3 S.calm C hn hi (λZY ZU fp=>ht _ (pQ S C _ _ fp)) (λZY ZU fp=>he _ (pQ S C _ _ fp)) hs) λ_ _ _ h=>?_;rw[S.hK];exact hc _ _ _ h
theorem EX{bs:Expr}(S:Sc M X k N ns)(hg:di ns "list"=true)(hm:M.mg "list"=none)(Xp:di ns "range"=true)(YZ:M.mg "range"=none)(ha:PA X [as,bs] 2#9)(hs:notStar as=true)(ZE:notStar bs=true) :
  PE X (.Call (.Name "list" p1) [.Call (.Name "range" q) [as,bs] [] rp] [] pos) (tM M.K (om (iR2 mas))):=
 PE.con (mL (uP S.calm) 4#0 5#3 v8 (jG (HJ (S.gl Xp) 5#3 ha (by rw[bY hs,bY ZE];rfl) (by rw[bY ZE];rfl)) wu) 0#1 0#1) λ_ _ _ h=>FG h
theorem Ir (S:Sc M X k N ns)(hg:di ns "tuple"=true)(hm:M.mg "tuple"=none)(Xp:di ns "range"=true)(YZ:M.mg "range"=none)(ha:PA X [as] 2#9)(hs:notStar as=true) :
  PE X (.Call (.Name "tuple" p1) [.Call (.Name "range" q) [as] [] rp] [] pos) (tM M.K (vn (iR1 mas))):=
 PE.con (mL (sJ S.calm) 4#0 5#3 vc (jG (Hz (S.gl Xp) 5#3 ha (by rw[bY hs];rfl)) wu) 0#1 0#1) λ_ _ _ h=>HK h
theorem Px{t:Str}{c:String}(S:Sc M X k N ns)(hg:di ns "isinstance"=true)(hm:M.mg "isinstance"=none)(Xp:di ns t=true)(YZ:M.mg t=none)(hb:bootBuiltins t=some (.type c))(hc:c∈kG)(hn:t≠"__name__")(hd:(t==("__debug__":Str))=false)
  (ha:PE X a 3#3) (hs:notStar a=true):PE X (.Call (.Name "isinstance" p1) [a,.Name t p2] [] pos) (tM M.K (m1 (iw c) ma)):=by
 refine PE.con (jo Ek 4#0 5#3 PyProof.Rows.boot_isinstance (jG ha (jG (Js (v:= .ty c) (S.gl Xp) 5#3 hb rfl hn hd) wu) (bY hs _ _)) 0#1 0#1 (bY hs _ _) rfl) λ_ _ _ h=>?_;rw[S.hK];exact Pw hc h
theorem IC(S:Sc M X k N ns)(ho:PE X b 7#3)(ha:PA X [a] 2#9)(hb:baseOk b=true)(hs:notStar a=true)(hl:(p1.endLine==pos.line)=true):PE X (.Call (.Attribute b "index" p1) [a] [] pos) (tM M.K (mMT iM mb mas)):=by
 refine PE.con ?_ λ_ _ _ h=>Jd h;rw[<-S.hK];exact FY S.room.units ho ha (pB hb _ _) (sH hs _ _) hl (bY hs _ _) rfl
section
variable {X:Cx}
end
theorem Qh{st:Stmt}:PS X st (tMS M.K sNo):=by
 intro pins s σ H D I h;obtain⟨μ,S,G,r,hr,er,e,kk⟩:=h;cases e
theorem OI:PS X (.Break pos) (tMS M.K NJ):=PS.con Fv λD σ H h=>by
 obtain⟨μ,S,G,r,hr,er,e,kk⟩:=h;cases e;exact kk μ σ H 2#2 8#2 hr er
theorem PB:PS X (.Continue pos) (tMS M.K NT):=PS.con zu λD σ H h=>by
 obtain⟨μ,S,G,r,hr,er,e,kk⟩:=h;cases e;exact kk μ σ H 2#2 8#2 hr er
theorem Mn:PS X (.Pass pos) (tMS M.K dg):=PS.con JB λD σ H h=>EF h
theorem K9:PS X (.Return none pos) (tMS M.K (bZ (mC .non))):=PS.con Iw λD σ H h=>by
 obtain⟨μ,S,G,r,hr,er,e,kk⟩:=h;cases e;exact kk μ _ H 2#2 8#2 hr mz
theorem KG(ha:PE X a 3#3)(hb:PE X (.BoolOp .And (b::es) pos) 7#3):PE X (.BoolOp .And (a::b::es) pos) (tM M.K (lP ma mb)):=PE.con (Mr ha hb) λ_ _ _ h=>K8 h
theorem NL(ha:PE X a 3#3)(hb:PE X (.BoolOp .Or (b::es) pos) 7#3):PE X (.BoolOp .Or (a::b::es) pos) (tM M.K (mOr ma mb)):=PE.con (P5 ha hb) λ_ _ _ h=>Qm h
theorem K7(ha:PE X a 3#3):PE X (.UnaryOp .Not a pos) (tM M.K (m1 zH ma)):=PE.con (My ha) λ_ _ _ h=>Mv h
end
section
variable {M:Mo}{cl:Nat->Addr}{k n fu:Nat}{N:List Str}{ns:NS}{X:Cx}{E:XK}
theorem x_call{g:Str}{a:Expr}{as:List Expr}{p pos:Pos}{r:RF}{mas:MA}{k':Nat}{ps:List Str}(L:Lv X E)(S:Sc M X.nox k N ns)(F:FnX M cl g k' ps r)(hk:k'<=k)(hg:di ns g=true)(hp:bw g=true)(ha:PA X.nox (a::as) 2#9)(hs:(a::as).all notStar=true):
  PE X (.Call (.Name g p) (a::as) [] pos) (tXE cl M.K (xFn r mas) E):=by
 obtain⟨f,fd,hm,Zm,hb,F⟩:=F.ex;have e1:=S.hP;have e2:=S.hw;have e3:=S.hK;have e4:=S.hm;have e5:=S.hb;rw[<-e1,<-e2,<-e3,<-e4,<-e5]at F;rw[<-e4]at hm;rw[<-e3]at Zm hb;rw[bA,ao]at hs;refine PE.con (xD F 11#9 4#0 hm Zm hb .nil L.pass ha.nox (bS hp).1 (bY hs.1 _ _) (nW _ _ hs.2)) λσ H Q h=>?_;obtain⟨μ,S0,G,C,S',hr,er,q,aft⟩:=h;obtain⟨us,S1,e1,q⟩:=aM q;refine⟨μ,S0,G,us,S1,hr,er,e1,λY0 vs H1 p1 k1 Z' rs=>?_⟩;show spX cl _ r _ H1 Q E;rw[ig];exact⟨_,S1,us,C,S',Z',rs,q,aft.mono p1 k1⟩
end
structure TOk(M:Mo)(T:Tb)(k:Nat):Prop where
 D:∀x mf,T.D.lookup x=some mf->∃k' ps,k'<=k/\Fn M x k' ps mf
 C:∀x u,T.C.lookup x=some u->∃g v,M.mg x=some g/\RelV v g /\ ∀H μ,RU H μ u v
 B:∀x∈iQ,M.mg x=none
 L:∀x q,T.L.lookup x=some q->∃k' ps,k'<=k/\Lam M q.1 k' ps q.2
 mkr:T.mkr=true->∃c q P,M.mkr=some (c,q)/\Mkr M c P (q++T.Z.nm)
 Z:∀x r,T.Z.R.lookup x=some r->∃k' ps,k'<=k/\FnX M T.Z.cl x k' ps r
def GOk(M:Mo)(T:Tb)(k:Nat):Prop:=TOk M T k/\(T.mkr=true->∃j,j+4<=k/\(∀x F,T.H.lookup x=some F->∃k' ps,k'<=j+1/\FnC M x k' ps F)/\(∀x vf,T.Z.F.lookup x=some vf->∃k' d,d<=3/\k'<=j+1/\FnR M T.Z.cl x k' d vf) /\ ∀caps capv cds base,eX M.mg base->TOk 6#4 T.bare j)
def IOk(M:Mo)(X:Cx)(tg it:Expr)(mi:MI):Prop:= ∃wi,PI X tg it wi /\
 (∀i ms D σ H,tMS M.K (fA i mi ms) D σ H->wj wi (i3 i) (tMS M.K ms) D σ H) /\
 (∀mt mc σ H Q,tM M.K (cY mi mt mc) σ H Q->pd wi 6#0 (tM M.K mc) σ H Q)
structure Snd(M:Mo)(T:Tb)(k n:Nat):Prop where
 e:∀N ns e m,cE T n N ns e=some m->∀X,Sc M X k N ns->PE X e (tM M.K m)
 c:∀N ns g as m,cC T n N ns g as=some m->di ns g=true->bw g=true->∀a r,as=a::r->∀X p1 pos,Sc M X k N ns->PE X (.Call (.Name g p1) as [] pos) (tM M.K m)
 v:∀N ns g as m,cV T n N ns g as=some m->∀a r,as=a::r->∀X p1 pos,Sc M X k N ns->PE X (.Call (.Name g p1) as [] pos) (tM M.K m)
 v0:∀N ns g m,cV T n N ns g []≠some m
 o:∀N ns o m,cO T n N ns o=some m->∀X,Sc M X k N ns->lK M X o m
 t:∀N ns e m,cT T n N ns e=some m->∀X,Sc M X k N ns->PT X e (tMT M.K m)
 l:∀N ns b vs m pos,cL T n N ns b vs=some m->∀X,Sc M X k N ns->PW X (.BoolOp (if b then .And else .Or) vs pos) (tMT M.K m)
 f:∀N ns vs m,cF T n N ns vs=some m->∀X,Sc M X k N ns->PTs X vs (tMT M.K m)
 a:∀N ns es m,cA T n N ns es=some m->∀X,Sc M X k N ns->PA X es (tMA M.K m)
 i:∀N ns tg it m,cI T n N ns it=some m->∀X,Sc M X k N ns->IOk M X tg it m
 g:∀N ns e m,cG T n N ns e=some m->∀X,Sc M X k N ns->PG X e (tG M.K m)
 gs:∀N ns es m,cGs T n N ns es=some m->∀X,Sc M X k N ns->PGs X es (tGs M.K m)
 s:∀N ns st m,cS T n N ns st=some m->∀X,Sc M X k N ns->PS X st (tMS M.K m)
 b:∀N ns sts m,cB T n N ns sts=some m->∀X,Sc M X k N ns->PSs X sts (tMS M.K m)
theorem eg{α:Type}{x:α}{P:Prop}(h:(none:Option α)=some x):P:=by cases h
theorem QG(M:Mo)(T:Tb)(k:Nat):Snd M T k 0:=
 ⟨λ_ _ _ _ h=>eg h,λ_ _ _ _ _ h=>eg h,λ_ _ _ _ _ h=>eg h,λ_ _ _ _ h=>eg h,λ_ _ _ _ h=>eg h,λ_ _ _ _ h=>eg h,λ_ _ _ _ _ _ h=>eg h,λ_ _ _ _ h=>eg h,λ_ _ _ _ h=>eg h,λ_ _ _ _ _ h=>eg h,λ_ _ _ _ h=>eg h,λ_ _ _ _ h=>eg h,λ_ _ _ _ h=>eg h,λ_ _ _ _ h=>eg h⟩
section
variable {M:Mo}{T:Tb}{k n:Nat}
variable{ns:NS}{X:Cx}{a:Expr}{ma mb:ME}{f:F2}{pos:Pos}
theorem M0{b:Expr}{op:Operator}(h:Le op=some f)(S:Sc M X k N ns)(ha:PE X a 3#3)(hb:PE X b 7#3):PE X (.BinOp a op b pos) (tM M.K (m2 f ma mb)):=by
 cases op<;>simp only[Le,jP,reduceCtorEq]at h<;>subst h
 .exact J9 S ha hb
 .exact On ha hb
 .exact Qn S ha hb
 .exact Oq ha hb
 .exact Qa ha hb
 .exact OF ha hb
variable{op:CmpOp}
theorem KQ{b:Expr}(h:zi op=some f)(S:Sc M X k N ns)(ha:PE X a 3#3)(hb:PE X b 7#3)(hs:iA b=true):
  PE X (.Compare a [op] [b] pos) (tM M.K (m2 f ma mb))/\PT X (.Compare a [op] [b] pos) (tMT M.K (cOf (m2 f ma mb))):=by
 obtain⟨r,ho,ou⟩:=F4 S h;exact⟨PE.con (IW ho ha hb (xo hs _)) λ_ _ _ h=>xk ou h,PT.con (Jj ho ha hb (xo hs _)) λ_ _ _ h=>AF (λ_ q=>xk ou q) h⟩
theorem FQ{b c:Expr}{mc:ME}{Yv:CmpOp}{g:F2}(h:zi op=some f)(h':zi Yv=some g)(S:Sc M X k N ns)(ha:PE X a 3#3)(hb:PE X b 7#3)(hc:PE X c (tM M.K mc))(hs:iA c=true):
  PE X (.Compare a [op,Yv] [b,c] pos) (tM M.K (mCh f g ma mb mc))/\PT X (.Compare a [op,Yv] [b,c] pos) (tMT M.K (cOf (mCh f g ma mb mc))):=by
 obtain⟨r,ho,ou⟩:=F4 S h;obtain⟨r',Yq,SW⟩:=F4 S h';have hm:lastMarks [op,Yv] [b,c]=false:=xo hs _;exact⟨PE.con (FV ho Yq ha hb hc hm) λ_ _ _ h=>Bc ou SW h,PT.con (Gb ho Yq ha hb hc hm) λ_ _ _ h=>AF (λ_ q=>Bc ou SW q) h⟩
theorem Ks{t:Str}{c:String}(h:Fm t=some c):bootBuiltins t=some (.type c)/\c∈kG/\t≠"__name__"/\(t==("__debug__":Str))=false/\t∈iQ:=by
 unfold Fm at h
 repeat' split at h
 all_goals first
  | cases h
    done
  | (rename_i q
     cases h;rw[eq_of_beq q]
     exact⟨by decide +kernel,by decide,by decide +kernel,by decide +kernel,by decide +kernel⟩)
variable{mas:MA}
theorem Hm{g:Str}{e:Expr}{es:List Expr}{p1:Pos}{mf:MF}(O:TOk M T k)(h:LJ g=some mf)(hg:di ns g=true)(S:Sc M X k N ns)(ha:PA X 2#0 2#9)(hs:(e::es).all notStar=true):
  PE X (.Call (.Name g p1) 2#0 [] pos) (tM M.K (mFn mf mas)):=by
 rw[bA,ao]at hs;have he:=bY hs.1 es X.env;have hp:=nW pos X.env hs.2;unfold LJ at h
 repeat' split at h
 all_goals first
  |(cases h;done)
  | (rename_i q
     cases h;rw[eq_of_beq q]at hg ⊢
     first
      |exact F9 S hg (O.B _ (by decide +kernel)) ha he hp
      |exact HQ S hg (O.B _ (by decide +kernel)) ha he hp
      |exact Kz S hg (O.B _ (by decide +kernel)) ha he hp
      |exact NX S hg (O.B _ (by decide +kernel)) ha he hp
      |exact PL S hg (O.B _ (by decide +kernel)) ha he hp
      |exact Nm S hg (O.B _ (by decide +kernel)) ha he hp
      |exact GN S hg (O.B _ (by decide +kernel)) ha he hp
      | exact KB S hg (O.B _ (by decide +kernel)) ha he hp)
theorem Jp{name:Str}{o:Expr}{mo m:ME}{p1:Pos}(h:Fy name mo mas=some m)(S:Sc M X k N ns)(ho:PE X o (tM M.K mo))(ha:PA X [a] 2#9)(hb:baseOk o=true)(hl:(p1.endLine==pos.line)=true)(hs:notStar a=true):
  PE X (.Call (.Attribute o name p1) [a] [] pos) 7#6:=by
 unfold Fy at h
 repeat' split at h
 all_goals first
  |(cases h;done)
  | (rename_i q
     cases h;rw[eq_of_beq q]
     first
      |exact su S ho ha (pB hb _ _) (sH hs _ _) hl (bY hs _ _) rfl
      |exact Hr S ho ha (pB hb _ _) (sH hs _ _) hl (bY hs _ _) rfl
      |exact IC S ho ha hb hs hl
      | exact E8 S ho ha hb hs hl)
end
section
variable {M:Mo}{T:Tb}{k n:Nat}
variable{ps:List Str}{ns:NS}
theorem lG{sc:Scope}(h:qw ps sc ns=true):iR ps (frees sc) sc /\ ∀y∈frees sc,ns.lookup y=some .cell/\(y,aV)∈sc.names:=by
 unfold qw at h;simp only[ao,cR,ls,decide_eq_true_eq]at h;obtain⟨⟨⟨⟨⟨⟨h1,h2⟩,h3⟩,h4⟩,h5⟩,h6⟩,h7⟩:=h;have fm:∀y∈frees sc,(y,aV)∈sc.names:=λy hy=>by
  obtain⟨z,hz,e⟩:=bp.mp hy
  grind
 refine⟨⟨eq_of_beq h1,h2,h3,h4,λp hp=>?_,λx hx e=>?_,λy hy e=>bp.mpr ⟨y,ye.mpr ⟨hy,by rw[e];rfl⟩,rfl⟩,λy hy=>eq_of_beq (h7 y hy).1⟩,λy hy=>⟨eq_of_beq (h7 y hy).2,fm y hy⟩⟩
 .grind
 .have:=h6 x hx
  simp_all
theorem GOk.of(O:TOk M T k)(h:T.mkr=false):GOk M T k:=⟨O,λz=>by grind⟩
theorem Qg(O:TOk M T k)(R:Snd M T k n):∀N ns g as m,cV T (n+1) N ns g as=some m->∀a r,as=a::r->∀X p1 pos,Sc M X k N ns->PE X (.Call (.Name g p1) as [] pos) 7#6:=by
 intro N ns g as m h a r e X p1 pos S;subst e;simp only[cV,rc,sV]at h
 split at h
 .rename_i hs
  rw[ao]at hs;obtain⟨q,e1,h⟩:=bind_eq h;obtain⟨i,e2,h⟩:=bind_eq h;obtain⟨mas,e3,rfl⟩:=map_eq h;obtain⟨k',ps,hk,F⟩:=O.L _ _ e1;have ZO:=fR e3;rw[bA,ao]at ZO;obtain⟨n1,n2⟩:=bS hs.2;exact JA S F hk i (slot_get e2) hs.1 (R.a _ _ _ _ e3 X S) n1 n2 (bY ZO.1 _ _) (nW _ _ ZO.2)
 grind
section
variable {N:List Str}{ns:NS}{X:Cx}{m:ME}
variable{pos:Pos}
theorem Hy{c:Const}{j}(h:OS c=some m):PE X (.Constant c j pos) 7#6:=by
 cases c<;>first |grind |skip
 all_goals cases h
 all_goals first |exact Pe |exact QO |exact F6 |exact PE.con Fb λ_ _ _ q=>r_c (λ_ _=>by simp[RU]) q
variable{a:Expr}
theorem KH(R:Snd M T k n){op:UnaryOp}(h:eUn (rc n) T N ns a op=some m)(S:Sc M X k N ns):PE X (.UnaryOp op a pos) 7#6:=by
 cases op<;>first | (cases h) |skip
 all_goals obtain⟨ma,e1,rfl⟩:=map_eq h
 all_goals first |exact NO (R.e _ _ _ _ e1 X S) |exact K7 (R.e _ _ _ _ e1 X S)
variable{vs:List Expr}
theorem KO(R:Snd M T k n){op:BoolOp}{p:Pos}(h:eBo (rc n) T N ns op p vs=some m)(S:Sc M X k N ns):PE X (.BoolOp op vs p) 7#6:=by
 unfold eBo at h
 split at h
 .cases h
 .exact Li (R.e _ _ _ _ h X S)
 .obtain⟨ma,e1,h⟩:=bind_eq h
  cases op
  .obtain⟨mb,e2,rfl⟩:=map_eq h
   exact KG 7#8 8#5
  .obtain⟨mb,e2,rfl⟩:=map_eq h
   exact NL 7#8 8#5
theorem FL(R:Snd M T k n){ops:List CmpOp}{bs:List Expr}(h:eCm (rc n) T N ns a ops bs=some m)(S:Sc M X k N ns):PE X (.Compare a ops bs pos) 7#6/\PT X (.Compare a ops bs pos) (tMT M.K (cOf m)):=by
 unfold eCm at h
 split at h
 .split at h
  .rename_i hs
   obtain⟨ma,e1,h⟩:=bind_eq h;obtain⟨mb,e2,h⟩:=bind_eq h;obtain⟨f,e3,rfl⟩:=map_eq h;exact KQ e3 S 7#8 8#5 hs
  .cases h
 .split at h
  .rename_i hs
   rw[ao]at hs;obtain⟨ma,e1,h⟩:=bind_eq h;obtain⟨mb,e2,h⟩:=bind_eq h;obtain⟨mc,e3,h⟩:=bind_eq h;obtain⟨f,e4,h⟩:=bind_eq h;obtain⟨g,e5,rfl⟩:=map_eq h;exact FQ e4 e5 S 7#8 8#5 (R.e _ _ _ _ e3 X S) hs.2
  .cases h
 .cases h
theorem Hn{s:Expr}(h:HH s=true):∃j p3 p4,s=.UnaryOp .USub (.Constant (.int 1) j p3) p4:=by
 unfold HH at h
 split at h<;>simp_all
variable{b:Expr}
theorem Mg(R:Snd M T k n)(h:eSb (rc n) T N ns a b=some m)(S:Sc M X k N ns):PE X (.Subscript a b pos) 7#6:=by
 unfold eSb at h
 split at h
 .rename_i lo hi st p
  cases st with
  | none=>
    obtain⟨ma,e1,h⟩:=bind_eq h;obtain⟨ml,e2,h⟩:=bind_eq h;obtain⟨mh,e3,rfl⟩:=map_eq h;exact Jy S 7#8 (R.o _ _ _ _ e2 X S) (R.o _ _ _ _ e3 X S)
  | some s=>
    have h:(if lo.isNone&&hi.isNone&&HH s then((rc n).e T N ns a).map (m1 uS) else none)=some m:=h
    split at h
    .rename_i hs
     rw[ao,ao]at hs;obtain⟨⟨h1,h2⟩,h3⟩:=hs;cases lo with
     |some z=>cases h1
     | none=>
       cases hi with
       |some z=>cases h2
       | none=>
         obtain⟨j,p3,p4,rfl⟩:=Hn h3;obtain⟨ma,e1,rfl⟩:=map_eq h;exact Of S 7#8
    .cases h
 .split at h
  .rename_i hs
   obtain⟨ma,e1,h⟩:=bind_eq h;obtain⟨mb,e2,rfl⟩:=map_eq h;exact Q4 S 7#8 8#5 (JG hs)
  .cases h
theorem Mj(R:Snd M T k n){ks:List (Option Expr)}(h:eDi (rc n) T N ns ks vs=some m)(S:Sc M X k N ns):PE X (.Dict ks vs pos) 7#6:=by
 unfold eDi at h
 split at h
 .obtain⟨ma,e1,h⟩:=bind_eq h
  obtain⟨mb,e2,rfl⟩:=map_eq h;exact Lc 7#8 8#5
 .cases h
theorem FK{e:Expr}(h:BG e=some (a,b)) :∃ p pos,e=.Call (.Name "zip" p) [a,b] [] pos:=by
 unfold BG at h
 split at h
 .split at h
  .rename_i g
   cases h;rw[eq_of_beq g];exact⟨_,_,rfl⟩
  .cases h
 .cases h
theorem Lw(O:TOk M T k)(R:Snd M T k n){it:Expr}{mi:MI}{ts:List Expr}{kt:Nat}{pt:Pos}(h:eIc (rc n) T N ns it=some mi)(S:Sc M X k N ns):
  ∃wi,PI X 11#8 it wi /\ ∀c mt mc σ H Q,tM M.K (lN c mi mt mc) σ H Q->ua (gTt M.K c) wi 6#0 (tM M.K mc) σ H Q:=by
 unfold eIc at h;cases qz:BG it with
 |none=>rw[qz]at h;cases h
 | some ab=>
   obtain⟨a,b⟩:=ab;rw[qz]at h;obtain⟨p,q,rfl⟩:=FK qz;replace h:(if di ns ("zip":Str) then ((rc n).a T N ns [a,b]).map zr else none)=some mi:=h
   split at h
   .rename_i hg
    obtain⟨ma,e1,rfl⟩:=map_eq h;have ZO:=fR e1;simp only[bA,fy,eW,ao]at ZO;exact⟨_,Ld S hg 12#0 11#5 (bY ZO.1 _ _) (bY ZO.2 _ _),λ_ _ _ _ _ _ q=>Nl q⟩
   .cases h
variable{elt:Expr}{scope:Scope}
theorem Na(O:TOk M T k)(R:Snd M T k n){it:Expr}{ifs:List Expr}{px:Pos}(h:eLn (rc n) T N ns elt it ifs scope x=some m)(S:Sc M X k N ns)(hk:13#3=.function)(ok:mO N (AC N x) ns scope.names x=true)(hs:iA it=true):
  PE X (.ListComp elt [⟨.Name x px,it,ifs,0⟩] scope pos) 7#6:=by
 unfold eLn at h;obtain⟨mi,e1,h⟩:=bind_eq h;obtain⟨mt,e2,h⟩:=bind_eq h;obtain⟨mc,e3,rfl⟩:=map_eq h;obtain⟨wi,h1,_,h3⟩:=R.i _ _ _ _ _ e1 X S;exact Fu S hk ok h1 (λX' S'=>R.f _ _ _ _ e2 X' S') (λX' S'=>R.e _ _ _ _ e3 X' S') (h3 mt mc) (oU hs _)
theorem Lb(O:TOk M T k)(R:Snd M T k n){gens:List Comprehension}(h:eLc (rc n) T N ns elt scope gens=some m)(S:Sc M X k N ns):PE X (.ListComp elt gens scope pos) 7#6:=by
 unfold eLc at h
 split at h
 rotate_left
 .cases h
 rename_i c
 obtain⟨tg,it,ifs,ia⟩:=c
 split at h
 rotate_left
 .cases h
 rename_i h0
 have Ui:=h0;subst Ui;have h:eLt _ T N ns _ it ifs _ tg=some m:=h;unfold eLt at h
 split at h
 .split at h
  .rename_i hs
   rw[ao,ao]at hs;exact Na O R h S (eq_of_beq hs.1.1) hs.1.2 hs.2
  .cases h
 .obtain⟨xs,e0,h⟩:=bind_eq h
  split at h
  .rename_i hs
   rw[ao,ao]at hs;obtain⟨mi,e1,h⟩:=bind_eq h;obtain⟨mt,e2,h⟩:=bind_eq h;obtain⟨mc,e3,rfl⟩:=map_eq h;obtain⟨wi,h1,h3⟩:=Lw O R e1 S;exact HV S (eq_of_beq hs.1.1) hs.1.2 (y6 e0) h1 (λX' S'=>R.f _ _ _ _ e2 X' S') (λX' S'=>R.e _ _ _ _ e3 X' S') (λ_ _ _ q=>h3 _ _ _ _ _ _ q) (oU hs.2 _)
  grind
 .cases h
variable{g:Str}{p1:Pos}
theorem LH(O:TOk M T k)(R:Snd M T k n){rs:List Expr}{q rp:Pos}(h:eRg (rc n) T N ns g rs=some m)(S:Sc M X k N ns)(hl:g="list"\/g="tuple")(hg:di ns g=true)(hr:di ns "range"=true) :
  PE X (.Call (.Name g p1) [.Call (.Name "range" q) rs [] rp] [] pos) 7#6:=by
 unfold eRg at h
 split at h
 .rcases hl with rfl|rfl
  .rw[if_pos 1#0]at h
   cases h
  .rw[if_neg 1#0]at h
   obtain⟨ma,e1,rfl⟩:=map_eq h;have ZO:=fR e1;simp only[bA,fy,eW]at ZO;exact Ir S hg 12#0 hr 12#0 11#5 ZO
 .rcases hl with rfl|rfl
  .rw[if_pos 1#0]at h
   obtain⟨ma,e1,rfl⟩:=map_eq h;have ZO:=fR e1;simp only[bA,fy,eW,ao]at ZO;exact EX S hg 12#0 hr 12#0 11#5 ZO.1 ZO.2
  .rw[if_neg 1#0]at h
   cases h
 .cases h
theorem yT{cl:Nat->Addr}{E:XK}{X:Cx}{o:Expr}{mo:ME}{r:MX}(S:Sc M X.nox k N ns)(ho:PE X.nox o (tM M.K mo))(ha:PE X a (tXE cl M.K r E))(hb:baseOk o=true)(hs:notStar a=true)(hl:(p1.endLine==pos.line)=true):
  PE X (.Call (.Attribute o "append" p1) [a] [] pos) (tXE cl M.K (xML mo r) E):=by
 have hK:=S.hK;refine PE.con (Bz (r:=λ_ _ _ _=>False) ie zR zS (λ_ _ _ _ _ _ _ _ _ _ _ _ z=>z.elim) ho.nox (λpos pins s σ H Q I q=>jG (t:=λ_ _ _=>False) ha (λ_ _ _ _ _ _ _ h=>h.elim) (bY hs _ _) _ _ s σ H Q I q) (pB hb _ _) (sH hs _ _) hl (bY hs _ _) rfl) λσ H Q h=>?_;obtain⟨μ,S0,G,C,S',hr,er,e,aft⟩:=h;obtain⟨x,S1,e1,e⟩:=aM e
 split at e
 .rename_i n
  cases q:getL S1 n with
  |none=>rw[q]at e;cases e
  | some ws=>
    rw[q]at e;refine⟨μ,S0,G,_,S1,hr,er,e1,λY0 vx H1 p1 k1 Z' rx=>?_⟩;obtain⟨p,rfl,hp⟩:=fe rx;obtain⟨p',ys,ZG,J',r'⟩:=Z'.sq q;rw[hp]at ZG;cases ZG;exact⟨hK ▸ .inl ⟨rfl,ys,J'⟩,_,S1,G,C,S',Z',er.mono k1 p1,e,aft.mono p1 k1⟩
 .cases e
theorem LV(Gk:GOk M T k)(RA:∀M T k,GOk M T k->Snd M T k n){p:Arguments}{sc:Scope}{lp:Pos}(h:E2 (rc n) T N ns g p b sc=some m)(S:Sc M X k N ns)(hg:di ns g=true)(hn:bw g=true):
  PE X (.Call (.Name g p1) [.Lambda p b sc lp] [] pos) 7#6:=by
 unfold E2 at h
 split at h
 rotate_left
 .cases h
 rename_i hc
 simp only[ao]at hc;obtain⟨⟨⟨hT,TX⟩,hp⟩,hl⟩:=hc;have ZG:p=xT:=by
  unfold FA at hp;rw[ao,List.isEmpty_iff]at hp;rw[sN hp.1,hp.2];rfl
 subst ZG;obtain⟨is,e1,h⟩:=bind_eq h;obtain⟨ml,e2,h⟩:=bind_eq h;obtain⟨rl,e3,h⟩:=bind_eq h;obtain⟨rz,e4,rfl⟩:=map_eq h;obtain⟨c,q,P,WU,MK⟩:=Gk.1.mkr hT;rw[eq_of_beq TX]at MK;obtain⟨j,hj,hH,hF,hB⟩:=Gk.2 hT;obtain⟨k',d,hd,XN,FR⟩:=hF _ _ e4;obtain⟨LS,Zf⟩:=lG hl;refine A7 S FR XN 0#2 WU MK hg (bS hn).1 LS Zf e1 (λcaps capv cds base Zj _ X' S'=>(RA _ _ _ (.of (hB caps capv cds base Zj) rfl)).e _ _ _ _ e2 X' S') λcaps capv cds base Zj _ X' E L S'=>?_;have Y:∀{e:Expr}{rl:MX},zj (rc n) T ([]++frees sc) sc.names e=some rl->PE X' e (tXE T.Z.cl 9#3 rl E):=by
  intro e rl e3;unfold zj at e3
  split at e3
  .split at e3
   .rename_i hs
    rw[ao]at hs;obtain⟨rf,e5,e3⟩:=bind_eq e3;obtain⟨mas,e6,rfl⟩:=map_eq e3;obtain⟨k2,ps,SA,FX⟩:=(hB caps capv cds base Zj).Z _ _ e5;exact x_call L S' FX SA hs.1 hs.2 ((RA _ _ _ (.of (hB caps capv cds base Zj) rfl)).a _ _ _ _ e6 _ S') (fR e6)
   .cases e3
  .cases e3
 unfold JK at e3
 split at e3
 .rename_i g a q
  rcases Option.or_eq_some_iff.mp e3 with h|⟨_,h⟩
  .unfold J2 at h
   split at h
   .rename_i o x p
    split at h
    .rename_i hs
     simp only[ao]at hs;obtain⟨⟨⟨hx,hb⟩,hl⟩,ZO⟩:=hs;obtain⟨mo,e5,h⟩:=bind_eq h;obtain⟨r,e6,rfl⟩:=map_eq h;rw[eq_of_beq hx];exact yT S' ((RA _ _ _ (.of (hB caps capv cds base Zj) rfl)).e _ _ _ _ e5 _ S') (Y e6) hb ZO hl
    .cases h
   .cases h
  .exact Y h
 .exact Y e3
variable{as:List Expr}
theorem Nj(Gk:GOk M T k)(R:Snd M T k n)(RA:∀M T k,GOk M T k->Snd M T k n)(h:eCf (rc n) T N ns g as=some m)(S:Sc M X k N ns)(hg:di ns g=true)(hn:bw g=true):
  PE X (.Call (.Name g p1) as [] pos) 7#6:=by
 have O:=Gk.1;unfold eCf at h
 split at h
 .obtain⟨mf,e1,rfl⟩:=map_eq h
  obtain⟨k',ps,hk,F⟩:=O.D _ _ e1;exact IL S F hk hg (bS hn).1
 .unfold eC1 at h
  split at h
  .exact LV Gk RA h S hg hn
  .split at h
   .rename_i hl
    rw[ao,Bool.or_eq_true]at hl
    split at h
    .rename_i hr
     rw[eq_of_beq hl.2]at hr ⊢;exact LH O R h S (hl.1.imp eq_of_beq eq_of_beq) hg hr
    .cases h
   .split at h
    .rename_i hl
     rw[ao]at hl
     split at h
     .rename_i hr
      rw[eq_of_beq hl.2]at hr ⊢;rw[eq_of_beq hl.1]at hg ⊢;unfold eLS at h
      split at h
      .obtain⟨ma,e1,rfl⟩:=map_eq h
       have ZO:=fR e1;simp only[bA,fy,eW]at ZO;exact QA S hg 12#0 hr 12#0 11#5 ZO
      .cases h
     .cases h
    .exact R.c _ _ _ _ _ h hg hn _ _ rfl X _ _ S
  .exact R.c _ _ _ _ _ h hg hn _ _ rfl X _ _ S
 .unfold eC2 at h
  split at h
  .unfold eIs at h
   split at h
   .rename_i hl
    split at h
    .rename_i ht
     obtain⟨c,e1,h⟩:=bind_eq h;obtain⟨ma,e2,rfl⟩:=map_eq h;obtain⟨c1,c2,c3,c4,c5⟩:=Ks e1;rw[ao]at ht;rw[eq_of_beq hl]at hg ⊢;exact Px S hg 12#0 ht.1 (O.B _ c5) c1 c2 c3 c4 8#5 ht.2
    .cases h
   .exact R.c _ _ _ _ _ h hg hn _ _ rfl X _ _ S
  .unfold Qb at h
   split at h
   .rename_i hs
    rw[ao,ao]at hs;obtain⟨⟨hT,TX⟩,ZO⟩:=hs;obtain⟨ps,e0,h⟩:=bind_eq h
    split at h
    .rename_i hl
     obtain⟨is,e1,h⟩:=bind_eq h;obtain⟨ma,e2,h⟩:=bind_eq h;obtain⟨ml,e3,h⟩:=bind_eq h;obtain⟨F,e4,rfl⟩:=map_eq h;obtain⟨c,q,P,WU,MK⟩:=O.mkr hT;rw[eq_of_beq TX]at MK;obtain⟨j,hj,hH,hF,hB⟩:=Gk.2 hT;obtain⟨k',Wi,XN,FC⟩:=hH _ _ e4;obtain⟨LS,Zf⟩:=lG hl;exact Jm S FC XN 0#2 WU MK hg (bS hn).1 8#5 (bY ZO _ _) e0 LS Zf e1
      λcaps capv cds base hb X' S'=>(RA _ _ _ ⟨hB caps capv cds base hb,λz=>by cases z⟩).e _ _ _ _ e3 X' S'
    .cases h
   .cases h
  .exact R.c _ _ _ _ _ h hg hn _ _ rfl X _ _ S
 .exact R.c _ _ _ _ _ h hg hn _ _ rfl X _ _ S
theorem K0(R:Snd M T k n){o:Expr}{name:Str}{p q:Pos}(h:eMe (rc n) T N ns o name p q as=some m)(S:Sc M X k N ns):PE X (.Call (.Attribute o name p) as [] q) 7#6:=by
 unfold eMe at h
 split at h
 .cases h
 .split at h
  .rename_i hs
   rw[ao,ao]at hs;obtain⟨mo,e1,h⟩:=bind_eq h;obtain⟨mas,e2,h⟩:=bind_eq h;exact Jp h S 7#8 (R.a _ _ _ _ e2 X S) hs.1.1 hs.1.2 hs.2
  .cases h
 .cases h
end
theorem Qp(Gk:GOk M T k)(R:Snd M T k n)(RA:∀M T k,GOk M T k->Snd M T k n):∀N ns e m,cE T (n+1) N ns e=some m->∀X,Sc M X k N ns->PE X e 7#6:=by
 have O:=Gk.1;intro N ns e m h X S;cases e with
 | Name x p=>
   have h:(if bw x then(if kI ns x then(slot N x).map _ else if di ns x then(T.C.lookup x).map mC else none) else none)=some m:=h
   split at h
   .rename_i hn
    obtain⟨n1,n2⟩:=bS hn
    split at h
    .rename_i hv
     obtain⟨i,e1,rfl⟩:=map_eq h;exact BH S i (slot_get e1) hv n1 n2
    .split at h
     .rename_i hg
      obtain⟨u,e1,rfl⟩:=map_eq h;obtain⟨g,v,hm,r,hv⟩:=O.C _ _ e1;exact Mk S hg hm r hv n1
     .cases h
   .cases h
 |Constant c j p=>exact Hy h
 | BinOp a op b p=>
   obtain⟨ma,e1,h⟩:=bind_eq (h);obtain⟨mb,e2,h⟩:=bind_eq h;obtain⟨f,e3,rfl⟩:=map_eq h;exact M0 e3 S 7#8 8#5
 |UnaryOp op a p=>exact KH R h S
 |BoolOp op vs p=>exact KO R h S
 |Compare a ops bs p=>exact(FL R h S).1
 | IfExp c a b p=>
   obtain⟨mc,e1,h⟩:=bind_eq (h);obtain⟨ma,e2,h⟩:=bind_eq h;obtain⟨mb,e3,rfl⟩:=map_eq h;exact P7 (R.t _ _ _ _ e1 X S) 8#5 (R.e _ _ _ _ e3 X S)
 |Subscript a b p=>exact Mg R h S
 |Dict ks vs p=>exact Mj R h S
 | Tuple es j p=>
   obtain⟨ma,e1,rfl⟩:=map_eq (h);exact Od 11#5
 | List es p=>
   obtain⟨ma,e1,rfl⟩:=map_eq (h);exact EB 11#5
 |ListComp elt gens scope p=>exact Lb Gk.1 R h S
 | Call f as Vl q=>
   cases Vl with
   |cons w ws=>cases h
   | nil=>
     have h:eCa _ T N ns as q f=some m:=h;unfold eCa at h
     split at h
     .split at h
      .rename_i hs
       rw[ao]at hs;exact Nj Gk R RA h S hs.1 hs.2
      .cases as with
       |nil=>exact absurd h (R.v0 _ _ _ _)
       |cons a r=>exact R.v _ _ _ _ _ h _ _ rfl X _ _ S
     .exact K0 R h S
     .cases h
 |_=>cases h
theorem Nv(O:TOk M T k)(R:Snd M T k n):∀N ns g as m,cC T (n+1) N ns g as=some m->di ns g=true->bw g=true->∀a r,as=a::r->∀X p1 pos,Sc M X k N ns->PE X (.Call (.Name g p1) as [] pos) 7#6:=by
 intro N ns g as m h hg hn a r e X p1 pos S;subst e;obtain⟨mas,e1,h⟩:=bind_eq h;have ZO:=fR e1
 split at h
 .rename_i mf hb
  cases h;exact Hm O hb hg S 11#5 ZO
 .obtain⟨mf,e2,rfl⟩:=map_eq h
  obtain⟨k',ps,hk,F⟩:=O.D _ _ e2;rw[bA,ao]at ZO;exact M3 S F hk hg 11#5 (bS hn).1 (bY ZO.1 _ _) (nW _ _ ZO.2)
theorem P4(R:Snd M T k n):∀N ns o m,cO T (n+1) N ns o=some m->∀X,Sc M X k N ns->lK M X o m:=by
 intro N ns o m h X S;simp[cO,rc,sO]at h
 split at h
 .cases h;exact .none
 .obtain⟨me,e1,rfl⟩:=map_eq h
  exact .some 7#8
theorem OG(R:Snd M T k n):∀N ns e m,cT T (n+1) N ns e=some m->∀X,Sc M X k N ns->PT X e (tMT M.K m):=by
 intro N ns e m h X S;simp[cT,rc,sT]at h
 split at h
 .obtain⟨ma,e1,rfl⟩:=map_eq h
  exact JX (R.t _ _ _ _ e1 X S)
 .exact PW.pt (R.l _ _ _ _ _ _ h X S)
 .exact PW.pt (R.l _ _ _ _ _ _ h X S)
 .obtain⟨mc,e1,rfl⟩:=map_eq h
  exact(FL R e1 S).2
 .split at h
  .rename_i hs
   obtain⟨ma,e1,rfl⟩:=map_eq h;exact Ko 7#8 (Fd hs _)
  grind
theorem Nt(R:Snd M T k n):∀N ns b vs m pos,cL T (n+1) N ns b vs=some m->∀X,Sc M X k N ns->PW X (.BoolOp (if b then .And else .Or) vs pos) (tMT M.K m):=by
 intro N ns b vs m pos h X S;simp[cL,rc,sL]at h
 split at h
 .cases h
 .cases b
  .exact OY (R.t _ _ _ _ h X S)
  .exact LO (R.t _ _ _ _ h X S)
 .rename_i a r hr
  obtain⟨ma,e1,h⟩:=bind_eq h;obtain⟨mr,e2,rfl⟩:=map_eq h;cases r with
  |nil=>exact(hr rfl).elim
  | cons c r=>
    have h2:=R.l _ _ b _ _ pos e2 X S;cases b
    .exact QY (R.t _ _ _ _ e1 X S) h2
    .exact PM (R.t _ _ _ _ e1 X S) h2
theorem Pz(R:Snd M T k n):∀N ns vs m,cF T (n+1) N ns vs=some m->∀X,Sc M X k N ns->PTs X vs (tMT M.K m):=by
 intro N ns vs m h X S;simp[cF,rc,sF]at h
 split at h
 .cases h;exact Ls
 .exact OV (R.t _ _ _ _ h X S)
 .cases h
theorem O5(R:Snd M T k n):∀N ns es m,cA T (n+1) N ns es=some m->∀X,Sc M X k N ns->PA X es (tMA M.K m):=by
 intro N ns es m h X S;simp[cA,rc,sA]at h
 split at h
 .cases h;exact yr
 .split at h
  .rename_i hs
   obtain⟨ma,e1,h⟩:=bind_eq h;obtain⟨mr,e2,rfl⟩:=map_eq h;exact kE 7#8 (R.a _ _ _ _ e2 X S) (bY hs _ _)
  grind
variable{X:Cx}{e:Expr}
theorem Ej{tg:Expr}{m:ME}(S:Sc M X k N ns)(h:PE X e 7#6):IOk M X tg e (eZ m):=
 ⟨_,QU S h,λ_ _ _ _ _ q=>QR q,λ_ _ _ _ _ q=>QF q⟩
theorem OL(O:TOk M T k)(R:Snd M T k n):∀N ns tg it m,cI T (n+1) N ns it=some m->∀X,Sc M X k N ns->IOk M X tg it m:=by
 intro N ns tg it m h X S;simp only[cI,rc,sI]at h
 split at h
 .split at h
  .rename_i hr
   split at h
   .rename_i hg
    rw[eq_of_beq hr]at hg ⊢
    split at h
    .obtain⟨ma,e1,rfl⟩:=map_eq h
     have ZO:=fR e1;simp only[bA,fy,eW]at ZO;exact⟨_,Nw S hg 12#0 11#5 (bY ZO _ _),λ_ _ _ _ _ q=>NM q,λ_ _ _ _ _ q=>NC q⟩
    .obtain⟨ma,e1,rfl⟩:=map_eq h
     have ZO:=fR e1;simp only[bA,fy,eW,ao]at ZO;exact⟨_,Pm S hg 12#0 11#5 (by rw[bY ZO.1,bY ZO.2];rfl) (by rw[bY ZO.2];rfl),λ_ _ _ _ _ q=>Pc q,λ_ _ _ _ _ q=>Qc q⟩
    .cases h
   .cases h
  .split at h
   .rename_i hr
    split at h
    .rename_i hg
     rw[eq_of_beq hr]at hg ⊢
     split at h
     .obtain⟨ma,e1,rfl⟩:=map_eq h
      have ZO:=fR e1;simp only[bA,fy,eW]at ZO;exact⟨_,KS S hg 12#0 11#5 (bY ZO _ _),λ_ _ _ _ _ q=>LD q,λ_ _ _ _ _ q=>MC q⟩
     .cases h
    .cases h
   .obtain⟨ma,e1,rfl⟩:=map_eq h
    exact Ej S 7#8
 .obtain⟨ma,e1,rfl⟩:=map_eq h
  exact Ej S 7#8
theorem Nu(R:Snd M T k n):∀N ns e m,cG T (n+1) N ns e=some m->∀X,Sc M X k N ns->PG X e (tG M.K m):=by
 intro N ns e m h X S;simp only[cG,rc,sG]at h
 split at h
 .split at h
  .rename_i hs
   obtain⟨i,e1,rfl⟩:=map_eq h;exact PG.con (Bj (by rw[S.hN];exact S.nd) (by rw[S.hN];exact slot_get e1) (S.lo hs).1 (S.lo hs).2) λ_ _ _ _ q=>QV q
  .cases h
 .obtain⟨gs,e1,rfl⟩:=map_eq h
  obtain⟨h1,h2⟩:=B3 X.env _ (yn e1);refine PG.con (Mq S.calm (R.gs _ _ _ _ e1 X S) h1 h2) λ_ _ _ _ q=>?_;rw[S.hK];exact Pk q
 .cases h
theorem L6(R:Snd M T k n):∀N ns es m,cGs T (n+1) N ns es=some m->∀X,Sc M X k N ns->PGs X es (tGs M.K m):=by
 intro N ns es m h X S;simp[cGs,rc,sGs]at h
 split at h
 .cases h;exact PGs.con JE λ_ _ _ _ q=>ML q
 .split at h
  .rename_i hs
   obtain⟨g,e1,h⟩:=bind_eq h;obtain⟨gs,e2,rfl⟩:=map_eq h;exact PGs.con (El (R.g _ _ _ _ e1 X S) (R.gs _ _ _ _ e2 X S) (by rw[zv hs];rfl)) λ_ _ _ _ q=>IK q
  grind
variable{it:Expr}{ts:List Expr}
theorem Mc(O:TOk M T k)(R:Snd M T k n){mi:MI}{kt:Nat}{pt:Pos}(h:eIt (rc n) T N ns it=some mi)(S:Sc M X k N ns):
  ∃wi,PI X 11#8 it wi /\ ∀g mb D σ H,tMS M.K (q9 g mi mb) D σ H->wj wi (tG M.K g) (tMS M.K mb) D σ H:=by
 unfold eIt at h
 split at h
 .split at h
  .rename_i hr
   split at h
   .rename_i hg
    rw[eq_of_beq hr]at hg ⊢;obtain⟨ma,e1,rfl⟩:=map_eq h;have ZO:=fR e1;simp only[bA,fy,eW]at ZO;exact⟨_,Ic S hg 12#0 11#5 (bY ZO _ _),λ_ _ _ _ _ q=>P2 q⟩
   .cases h
  .cases h
 .cases h
variable{m:MS}{y:Str}{p1 p3:Pos}
theorem Jk(R:Snd M T k n){elt tg:Expr}{ifs:List Expr}{scope:Scope}{p2:Pos}(h:Nc (rc n) T N ns y elt it ifs scope tg=some m)(S:Sc M X k N ns):
  PS X (.Assign [.Name y p1] (.ListComp elt [⟨tg,it,ifs,0⟩] scope p2) p3) (tMS M.K m):=by
 unfold Nc at h
 split at h
 .split at h
  .rename_i hs
   rw[ao,ao,ao]at hs;obtain⟨i,e0,h⟩:=bind_eq h;obtain⟨mi,e1,h⟩:=bind_eq h;obtain⟨mt,e2,h⟩:=bind_eq h;obtain⟨mc,e3,rfl⟩:=map_eq h;obtain⟨wi,h1,_,h3⟩:=R.i _ _ _ _ _ e1 X S;exact MQ S i (slot_get e0) hs.1 (eq_of_beq hs.2.1.1) hs.2.1.2 h1 (λX' S'=>R.f _ _ _ _ e2 X' S') (λX' S'=>R.e _ _ _ _ e3 X' S') (h3 mt mc) (oU hs.2.2 _)
  .cases h
 .cases h
theorem IA(R:Snd M T k n)(h:M8 (rc n) T N ns x e=some m)(S:Sc M X k N ns):PS X (.Assign [.Name x p1] e p3) (tMS M.K m):=by
 unfold M8 at h
 split at h
 .unfold Nk at h
  split at h
  .rename_i c
   obtain⟨tg,it,ifs,ia⟩:=c
   split at h
   .rename_i h0
    have Ui:=h0;subst Ui;exact Jk R h S
   .cases h
  .cases h
 .split at h
  .rename_i hs
   rw[ao]at hs;obtain⟨i,e1,h⟩:=bind_eq h;obtain⟨me,e2,rfl⟩:=map_eq h;exact vC S i (slot_get e1) hs.1 8#5 (pe hs.2 _ _ _)
  grind
theorem F7{as:List Expr}(h:BB ts e=some (x,y,as)):∃px py a b k2 p2,ts=[.Name x px,.Name y py]/\e=.Tuple [a,b] k2 p2/\as=[a,b]/\IE px py x y a b=true:=by
 unfold BB at h
 split at h
 .split at h
  .rename_i q
   cases h;exact⟨_,_,_,_,_,_,rfl,rfl,rfl,q⟩
  .cases h
 .cases h
theorem Oz{j:Nat}{a b:Expr}{mas:MA}{px py pt p2:Pos}{kt k2:Nat}(S:Sc M X k N ns)(hp:IE px py x y a b=true)(hi:N[i]?=some x)(hj:N[j]?=some y)(hx:ns.lookup x=some .local)(hy:ns.lookup y=some .local)(ha:PA X [a,b] 2#9):
  PS X (.Assign 19#9 (.Tuple [a,b] k2 p2) p3) (tMS M.K (A3 i j mas)):=by
 intro pins s σ H D I h;simp only[IE,ao,ls]at hp;obtain⟨⟨⟨⟨⟨h1,h2⟩,h3⟩,h4⟩,h5⟩,h6⟩:=hp;have Wv:x≠y:=λz=>by rw[z]at h2;simp at h2
 refine LK S.calm (by rw[S.hN];exact S.nd) (by rw[S.hN];exact hi) (by rw[S.hN];exact hj) (λz=>Wv ?_) (S.loc x hx) (S.loc y hy) ha ?_ rfl pins s σ H D I ?_
 .subst z;rw[hi]at hj;cases hj;rfl
 .have kx:X.env.kindOf x=some .local:=S.loc x hx
  have ky:X.env.kindOf y=some .local:=S.loc y hy;have bk:X.env.blockKind=.function:=by unfold Env.blockKind;rw[I.ok.kind];rfl
  have l1:(py.line==px.line)=true:=by rw[beq_iff_eq]at h1 ⊢;exact h1.symm
  have dd:([x,y]:List Str).eraseDups.length=2:=by
   have: ¬y=x:=λz=>Wv z.symm;simp[List.eraseDups_cons,this]
  simp only[swappedStores,bk,aO,cp,gO,List.filterMap_nil,kx,ky,List.head?_cons,vZ,Option.getD_some,Expr.pos,l1,bA,fy,eW,h5,h6];simp[Expr.pos];rw[if_neg,if_pos dd];rintro (z|z)
  .cases a<;>first | (cases z;done) | (cases h3;done)
  .cases b<;>first | (cases z;done) | (cases h4;done)
 .obtain⟨μ,S0,G,r,hr,er,e,kk⟩:=h
  obtain⟨vs,S1,e1,e⟩:=aM e
  split at e
  .cases e
   refine⟨μ,S0,G,_,S1,hr,er,e1,λY0 ws H1 p1 k1 Z' rs=>?_⟩;obtain⟨v,r,rfl,rx,rn⟩:=rs.inv;obtain⟨v2,r2,rfl,ry,VN⟩:=rn.inv;rw[VN.nil_inv];exact⟨v,v2,rfl,kk Y0 _ H1 p1 k1 Z' (((er.mono k1 p1).set rx i).set ry j)⟩
  .cases e
theorem Hg(R:Snd M T k n){t:Expr}(h:Mi (rc n) T N ns e t=some m)(S:Sc M X k N ns):PS X (.Assign [t] e p3) (tMS M.K m):=by
 unfold Mi at h
 split at h
 .exact IA R h S
 .split at h
  .rename_i hs
   rw[ao]at hs;obtain⟨ma,e1,h⟩:=bind_eq h;obtain⟨mb,e2,h⟩:=bind_eq h;obtain⟨me,e3,rfl⟩:=map_eq h;exact ID S 7#8 8#5 (R.e _ _ _ _ e3 X S) (By hs.1 _ _ _) AS rfl (L5 hs.2 _)
  .cases h
 .rename_i ts kt pt
  unfold Oy at h;cases q:BB ts e with
  | none=>
    rw[q]at h;replace h:(if g9 e&&(notTuple e||rS ts) then((rc n).g T N ns 11#8).bind λg=>((rc n).e T N ns e).map λme=>Ax me g else none)=some m:=h
    split at h
    .rename_i hs
     rw[ao]at hs;obtain⟨g,e1,h⟩:=bind_eq h;obtain⟨me,e2,rfl⟩:=map_eq h;exact PS.con (FW 8#5 (R.g _ _ _ _ e1 X S) (By hs.1 _ _ _) (zG hs.2) rfl) λ_ _ _ q=>Pa q
    .cases h
  | some xy=>
    obtain⟨x,y,as⟩:=xy;rw[q]at h;obtain⟨px,py,a,b,k2,p2,rfl,rfl,rfl,hp⟩:=F7 q;replace h:(if ns.lookup x==some .local&&ns.lookup y==some .local then(slot N x).bind λi=>(slot N y).bind λj=>((rc n).a T N ns [a,b]).map (A3 i j) else none)=some m:=h
    split at h
    .rename_i hs
     rw[ao]at hs;obtain⟨i,e1,h⟩:=bind_eq h;obtain⟨j,e2,h⟩:=bind_eq h;obtain⟨mas,e3,rfl⟩:=map_eq h;exact Oz S hp (slot_get e1) (slot_get e2) (eq_of_beq hs.1) (eq_of_beq hs.2) (R.a _ _ _ _ e3 X S)
    .cases h
 .cases h
theorem Nf(R:Snd M T k n){op:Operator}(h:sAu (rc n) T N ns x e op=some m)(S:Sc M X k N ns):PS X (.AugAssign 11#1 op e p3) (tMS M.K m):=by
 unfold sAu at h;cases h
theorem LI(O:TOk M T k)(R:Snd M T k n){t:Expr}{body:List Stmt}(h:sFo (rc n) T N ns it body t=some m)(S:Sc M X k N ns):PS X (.For t it body [] p3) (tMS M.K m):=by
 unfold sFo at h
 split at h
 .split at h
  .rename_i hs
   rw[ao]at hs;obtain⟨i,e1,h⟩:=bind_eq h;obtain⟨mi,e2,h⟩:=bind_eq h;obtain⟨mb,e3,rfl⟩:=map_eq h;obtain⟨wi,h1,h2,_⟩:=R.i _ _ _ _ _ e2 X S;exact NV S i (slot_get e1) hs.1 h1 (R.b _ _ _ _ e3 X S) (h2 i mb) (oU hs.2 _)
  .cases h
 .rename_i ts kt pt
  split at h
  .rename_i hs
   obtain⟨g,e1,h⟩:=bind_eq h;obtain⟨mi,e2,h⟩:=bind_eq h;obtain⟨mb,e3,rfl⟩:=map_eq h;obtain⟨wi,h1,h2⟩:=Mc O R e2 S;exact PS.con (Ge S.own S.calm h1 (R.g _ _ _ _ e1 X S) (R.b _ _ _ _ e3 X S) (oU hs _)) λ_ _ _ q=>h2 _ _ _ _ _ q
  .cases h
 .cases h
theorem Pd(O:TOk M T k)(R:Snd M T k n):∀N ns st m,cS T (n+1) N ns st=some m->∀X,Sc M X k N ns->PS X st (tMS M.K m):=by
 intro N ns st m h X S;cases st with
 | Assign ts e p=>
   have h:sAs _ T N ns e ts=some m:=h;unfold sAs at h
   split at h
   .exact Hg R h S
   .cases h
 | AugAssign t op e p=>
   have h:Lk _ T N ns op e t=some m:=h;unfold Lk at h
   split at h
   .exact Nf R h S
   .cases h
 | Expr e p=>
   have h:(if g9 e then((rc n).e T N ns e).map _ else none)=some m:=h
   split at h
   .rename_i hs
    obtain⟨me,e2,rfl⟩:=map_eq h;exact DO 8#5 (pe hs _ _ _)
   .cases h
 | Return o p=>
   have h:sRt _ T N ns o=some m:=h;unfold sRt at h
   split at h
   .obtain⟨me,e2,rfl⟩:=map_eq h
    exact Kf 8#5
   .cases h;exact K9
 | If c a b p=>
   obtain⟨mc,e1,h⟩:=bind_eq h;obtain⟨ma,e2,h⟩:=bind_eq h;obtain⟨mb,e3,rfl⟩:=map_eq h;exact Oe (R.t _ _ _ _ e1 X S) (R.b _ _ _ _ e2 X S) (R.b _ _ _ _ e3 X S)
 | For t it body els p=>
   have h:Mf _ T N ns t it _ _=some m:=h;unfold Mf at h
   split at h
   .exact LI O R h S
   .cases h
 | While c body els p=>
   have h:sWh _ T N ns c _ _=some m:=h;unfold sWh at h
   split at h
   .obtain⟨mc,e1,h⟩:=bind_eq h
    obtain⟨mb,e2,rfl⟩:=map_eq h;exact H9 S (R.t _ _ _ _ e1 X S) (R.b _ _ _ _ e2 X S)
   .cases h
 | Pass p=>
   cases h;exact Mn
 | Break p=>
   cases h;exact OI
 | Raise a b p=>
   cases h;exact Qh
 | Continue p=>
   cases h;exact PB
 |_=>cases h
theorem P3(Gk:GOk M T k)(R:Snd M T k n)(RA:∀M T k,GOk M T k->Snd M T k n):∀N ns sts m,cB T (n+1) N ns sts=some m->∀X,Sc M X k N ns->PSs X sts (tMS M.K m):=by
 intro N ns sts m h X S;simp only[cB,rc,sB]at h
 split at h
 .cases h;exact J0
 .exact EH (R.s _ _ _ _ h X S)
 .obtain⟨ma,e1,h⟩:=bind_eq h
  obtain⟨mr,e2,rfl⟩:=map_eq h;exact sj (R.s _ _ _ _ e1 X S) (R.b _ _ _ _ e2 X S)
theorem snd:∀n M T k,GOk M T k->Snd M T k n
 |0,M,T,k,_=>QG M T k
 | n+1,M,T,k,Gk=>by
   have RA:=snd n;have R:=RA M T k Gk;exact⟨Qp Gk R RA,Nv Gk.1 R,Qg Gk.1 R,λN ns g m h=>(by cases (h)),P4 R,OG R,Nt R,Pz R,O5 R,OL Gk.1 R,Nu R,L6 R,Pd Gk.1 R,P3 Gk R RA⟩
theorem vt{qual:Str}{st:Stmt}{f:Addr}{fd:FuncData}{ms:MS}{fu:Nat}(O:TOk M T k)(h0:M.mkr=none)(h1:T.mkr=false)(F:Fun M.K x qual st f fd)(S:aQ N ps (ax st))(hm:M.mg x=some (.ref f))(hb:Binds M.K fd ps [])
  (h:cB T fu N (ax st).names (bu st)=some ms):Fn M x (k+1) ps 16#6:=
 ⟨f,fd,hm,F.2,hb,F3 h0 F S λX S'=>(snd fu M T k (.of O h1)).b _ _ _ _ h X S'⟩
end
structure Def(K:aj)(x:Str)(st:Stmt):Prop where
 ex:∃f fd,aZ K mainGlobals x=some (some (.ref f))/\Fun K x x st f fd
variable{f:Addr}{st:Stmt}{K:aj}{od an:Option Addr}{sl:Array (Option Value)}
theorem MB{oc kV doc pm cd ct:Value}(a:aZ K mainGlobals x=some (some (.ref f)))
  (l:K.lookup f=some ⟨oc,od,.func (cU x x (fv st) (bu st) (ax st) .none kV doc pm an cd ct),sl⟩) (c:gf K cd x=true) (k:cJ K (.ref f)=true):Def K x st:=
 ⟨f,_,a,EE l c k⟩
section
variable {M:Mo}{T:Tb}{k:Nat}{h:Heap}{x:Str}{st:Stmt}{N ps:List Str}{ms:MS}{fu:Nat}
theorem Def.fn(O:TOk M T k)(h0:M.mkr=none)(h1:T.mkr=false)(X:M.K.K.In h)(Gn:h.Ns mainGlobals M.mg)(D:Def M.K x st)(S:aQ N ps (ax st))
  (hb:∀(kV doc pm:Value) (an:Option Addr) (cdv ct:Value) (us:List Value),0#9=6#2->bindArgs 19#3 ⟨us,[]⟩=pure (ps.zip us))
  (hc:cB T fu N (ax st).names (bu st)=some ms):Fn M x (k+1) ps 16#6:=by
 obtain⟨f,fd,a,F⟩:=D.ex;exact vt O h0 h1 F S (cq X Gn a) (F.binds hb) hc
theorem TOk.mono{j:Nat}(O:TOk M T k)(hj:k<=j):TOk M T j where
 Z:=λy r hy=>let ⟨k',_,hk,F'⟩:=O.Z y r hy;⟨k',_,aE hk hj,F'⟩
 D:=λy g hy=>let ⟨k',_,hk,F'⟩:=O.D y g hy;⟨k',_,aE hk hj,F'⟩
 C:=O.C
 B:=O.B
 L:=λy q hy=>let ⟨k',_,hk,F'⟩:=O.L y q hy;⟨k',_,aE hk hj,F'⟩
 mkr:=O.mkr
theorem TOk.cons{j:Nat}{mf:MF}(O:TOk M T k)(F:Fn M x j ps mf)(hj:k<=j):TOk M ⟨(x,mf)::T.D,T.C,T.L,T.H,T.mkr,T.Z⟩ j where
 D:=λy g hy=>by
  rw[bJ]at hy;cases e:y==x with
  |true=>rw[e]at hy;cases hy;rw[eq_of_beq e];exact⟨j,ps,ar _,F⟩
  | false=>
    rw[e]at hy;obtain⟨k',Xw,hk,F'⟩:=O.D y g hy;exact⟨k',_,aE hk hj,F'⟩
 C:=O.C
 B:=O.B
 L:=(O.mono hj).L
 mkr:=O.mkr
 Z:=(O.mono hj).Z
theorem TOk.setH{Hs:List (Str×(Addr->MF->MF))}(O:TOk M T k):TOk M ⟨T.D,T.C,T.L,Hs,T.mkr,T.Z⟩ k:=⟨O.D,O.C,O.B,O.L,O.mkr,O.Z⟩
theorem TOk.con{i:Int}(O:TOk M T k)(X:M.K.K.In h)(Gn:h.Ns mainGlobals M.mg)(a:∃t,aZ M.K mainGlobals x=some (some (.int i t))):TOk M ⟨T.D,(x,.int i)::T.C,T.L,T.H,T.mkr,T.Z⟩ k where
 D:=O.D
 C:=λy u hy=>by
  rw[bJ]at hy;cases e:y==x with
  | true=>
    rw[e]at hy;cases hy;rw[eq_of_beq e];obtain⟨t,a⟩:=a;exact⟨_,.int i,cq X Gn a,⟨t,rfl⟩,λ_ _=>eO⟩
  |false=>rw[e]at hy;exact O.C y u hy
 B:=O.B
 L:=O.L
 mkr:=O.mkr
 Z:=O.Z
theorem TOk.nil{Fs:List (Str×VF)}{cl:Nat->Addr}{nm:Str}(X:M.K.K.In h)(Gn:h.Ns mainGlobals M.mg)(B:∀x∈iQ,aZ M.K mainGlobals x=some none):TOk M ⟨[],[],[],[],false,⟨[],Fs,cl,nm⟩⟩ 0 where
 D:=λy g hy=>by cases hy
 C:=λy g hy=>by cases hy
 B:=λy hy=>GT X Gn (B y hy)
 L:=λy g hy=>by cases hy
 mkr:=λh=>by cases h
 Z:=λy g hy=>by cases hy
theorem Def.fnC{y:Str}{msC:Addr->MF->MS}(O:∀caps capv cds base,eX M.mg base->TOk 6#4 T k)(h1:T.mkr=false)(hL:T.L=[])(X:M.K.K.In h)(Gn:h.Ns mainGlobals M.mg)(D:Def M.K x st)(S:aQ N ps (ax st))
  (hb:∀(kV doc pm:Value) (an:Option Addr) (cdv ct:Value) (us:List Value),0#9=6#2->bindArgs 19#3 ⟨us,[]⟩=pure (ps.zip us))
  (hc:∀g φ,cB ⟨T.D,T.C,[(y,g,φ)],T.H,T.mkr,T.Z⟩ fu N (ax st).names (bu st)=some (msC g φ)):FnC M x k ps λg φ=>run ps.length N.length (msC g φ):=by
 obtain⟨f,fd,a,F⟩:=D.ex;refine⟨f,fd,cq X Gn a,F.2,F.binds hb,λcaps capv cds base g j lps φ Zj V4 lam=>?_⟩;have O':TOk 6#4 ⟨T.D,T.C,[(y,g,φ)],T.H,T.mkr,T.Z⟩ j:=by
  have O1:=(O caps capv cds _ Zj).mono V4;refine⟨O1.D,O1.C,O1.B,λz q hz=>?_,(λhm=>by grind),O1.Z⟩;rw[bJ]at hz;cases e:z==y with
  |true=>rw[e]at hz;cases hz;exact⟨j,_,ar _,lam⟩
  |false=>simp_all
 exact F3 (M:=M.to _ _ cds _) rfl F S λX' S'=>(snd fu _ _ _ (.of O' h1)).b _ _ _ _ (hc g φ) X' S'
end
structure jl(K:aj)(x:Str)(st:Stmt)(c P:Addr):Prop where
 ex:∃(f:Addr) (oc:Value) (od:Option Addr) (kV doc pm:Value) (an:Option Addr) (ct:Value) (sl:Array (Option Value)),aZ K mainGlobals x=some (some (.ref f)) /\
  K.lookup f=some ⟨oc,od,.func (cU x x (fv st) (bu st) (ax st) .none kV doc pm an (.ref c) ct),sl⟩/\gf K (.ref c) x=true/\cJ K (.ref f)=true
 cd :∃ (vs:Array Value) (od:Option Addr) (sl:Array (Option Value)) (file:Str) (tf:Tok) (flags:Int) (tg:Tok) (inF:Bool) (text:Int) (tt:Tok),K.lookup c=some ⟨.type "code",od,.fields vs,sl⟩/\vs[11]?=some (.ref P)/\vs.getD 11 .none=.ref P/\vs.getD 18 .none=.str file tf /\
  vs.getD 7 .none=.int flags tg/\vs.getD 9 .none=.bool inF/\vs.getD 10 .none=.int text tt/\c≠P
section
variable {M:Mo}{T:Tb}{k:Nat}{h:Heap}{x:Str}{st:Stmt}{N ps:List Str}{ms:MS}{fu:Nat}{c P:Addr}
theorem jl.mkr(D:jl M.K x st c P)(B:eX M.mg M.base)(X:M.K.K.In h)(Gn:h.Ns mainGlobals M.mg){q:Str}(hm:(P,q)∈M.K.tabs)(nd:(M.K.tabs.map (·.1)).Nodup)(hg:mainGlobals≠P):Mkr M c P q where
 hd:=λh' X'=>by
  obtain⟨vs,od,sl,file,tf,flags,tg,inF,text,tt,e,r⟩:=D.cd;obtain⟨r1,r2,r3,r4,r5,r6,r7⟩:=r;exact⟨_,vs,_,tf,_,tg,_,_,tt,X' _ _ e,rfl,rfl,r1,r2,r3,r4,r5,r6,r7⟩
 bl:=B
 gP:=hg
 mem:=hm
 un:=λr hr e=>by
  have key:∀(l:List _),(l.map (·.1)).Nodup->r∈l->(P,q)∈l->r.2=q:=by
   intro l
   induction l<;>grind
  exact key _ nd hr hm
theorem jl.ok(D:jl M.K x st c P)(h0:M.mkr=none)(O :∀ caps capv cds base,eX M.mg base->TOk 6#4 T k)(O0:TOk M T k)(hL:T.L=[])(h1:T.mkr=false)(hH :∀ y F,T.H.lookup y=some F->∃ k' ps,k'<=k+1/\FnC M y k' ps F)(hF :∀ y vf,T.Z.F.lookup y=some vf->∃ k' d,d<=3/\k'<=k+1/\FnR M T.Z.cl y k' d vf){nm:Str}(MK:Mkr M c P (x++".<locals>."++nm))
  (S:aQ N ps (ax st)) (hc:cB 15#9 fu N (ax st).names (bu st)=some ms)
  {oc kV doc pm ct:Value} (lk:M.K.K.lookup f=some ⟨oc,od,.func 21#6,sl⟩) (ZD:gf M.K.K (.ref c) x=true):
  FnOk M.P M.w M.K M.mg M.base CX0 (k+5) f 21#6 ps (spM M.K 16#6):=by
 let M1:Mo:=⟨M.P,M.w,M.K,M.mg,M.base,some (c,x++".<locals>.")⟩
 have O1:TOk M1 15#9 (k+4):=by
  have Om:=O0.mono (show k<=k+4 by omega);refine⟨fun y g hy=>?_,Om.C,Om.B,fun y q hy=>?_,fun _=>⟨c,x++".<locals>.",P,rfl,MK.hd,MK.bl,MK.gP,MK.mem,MK.un⟩,fun y r hy=>?_⟩
  .obtain⟨k',Xw,hk,F'⟩:=Om.D y g hy
   exact 18#3
  .rw[show(15#9:Tb).L=T.L from rfl,hL]at hy
   cases hy
  .obtain⟨k',Xw,hk,F'⟩:=Om.Z y r hy
   exact 18#3
 have G1:GOk M1 15#9 (k+4):=⟨O1,λ_=>⟨k,ar _,λy F hy=>by
  obtain⟨k',Xw,hk,FC⟩:=hH y F hy;exact⟨k',Xw,hk,⟨FC.ex⟩⟩,λy rz hy=>by
  obtain⟨k',d,hd,hk,FC⟩:=hF y rz hy;exact⟨k',d,hd,hk,⟨FC.ex⟩⟩,λcaps capv cds base Zj=>by
   have Ob:=O caps capv cds base Zj
   exact⟨Ob.D,Ob.C,Ob.B,λy q hy=>(by cases hy),λz=>(by cases z),Ob.Z⟩⟩⟩
 have len:∀vs H Q E,spM M.K 16#6 vs H Q E->2#8=6#2:=λvs H Q E h=>by
  obtain⟨μ,S',us,u,ZC,hr,rs,e,_⟩:=h;unfold run at e
  split at e
  .rename_i hl;rw[<-rs.len];exact hl
  .cases e
 refine _L.vt lk ZD S len λA outer s H vs Q E hr h=>⟨tMS M.K ms,((snd fu M1 _ _ G1).b _ _ _ _ hc _ (Sc.def (M:=M1) S hr λc' q' hq=>by cases hq;exact⟨rfl,rfl⟩)).nox,?_⟩;obtain⟨μ,S1,us,u,S2,hr,rs,e,ka⟩:=h;unfold run at e
 split at e
 .rename_i hl
  have er:=j8 (N:=N) rs;rw[hl]at er
  split at e
  .rename_i w Y4 S3 q
   cases e;exact⟨μ,S1,_,_,hr,er,q,ka⟩
  .rename_i Y4 S3 q
   cases e;exact⟨μ,S1,_,_,hr,er,q,λY2 Y1 H' p' k' Zw Sz=>ka Y2 _ H' p' k' Zw mz⟩
  .cases e
 .cases e
theorem jl.fn(D:jl M.K x st c P)(h0:M.mkr=none)(O :∀ caps capv cds base,eX M.mg base->TOk 6#4 T k)(O0:TOk M T k)(hL:T.L=[])(h1:T.mkr=false)(hH :∀ y F,T.H.lookup y=some F->∃ k' ps,k'<=k+1/\FnC M y k' ps F)(hF :∀ y vf,T.Z.F.lookup y=some vf->∃ k' d,d<=3/\k'<=k+1/\FnR M T.Z.cl y k' d vf){nm:Str}(MK:Mkr M c P (x++".<locals>."++nm))
  (X:M.K.K.In h) (Gn:h.Ns mainGlobals M.mg) (S:aQ N ps (ax st))
  (hb:∀(kV doc pm:Value) (an:Option Addr) (cdv ct:Value) (us:List Value),0#9=6#2->bindArgs 19#3 ⟨us,[]⟩=pure (ps.zip us))
  (hc:cB 15#9 fu N (ax st).names (bu st)=some ms):Fn M x (k+5) ps 16#6:=by
 obtain⟨f,oc,od,kV,doc,pm,an,ct,sl,a,lk,ZD,Zm⟩:=D.ex;exact⟨f,_,cq X Gn a,Zm,.all (hb kV doc pm an (.ref c) ct),D.ok h0 O O0 hL h1 hH hF MK S hc lk ZD⟩
theorem jl.def(D:jl M.K x st c P):Def M.K x st:=by
 obtain⟨f,oc,od,kV,doc,pm,an,ct,sl,a,lk,ZD,Zm⟩:=D.ex;exact⟨f,_,a,EE lk ZD Zm⟩
end
section
variable {M:Mo}
variable{Hs:List (Str×(Addr->MF->MF))}
theorem o4{j k:Nat}(h:∀y F,Hs.lookup y=some F->∃k' ps,k'<=j/\FnC M y k' ps F)(hj:j<=k):∀y F,Hs.lookup y=some F->∃k' ps,k'<=k/\FnC M y k' ps F:=λy F hy=>
 let ⟨k',ps,a,b⟩:=h y F hy;⟨k',ps,aE a hj,b⟩
theorem HI{j k:Nat}{F0:Addr->MF->MF}{ps:List Str}(h:∀y F,Hs.lookup y=some F->∃k' ps,k'<=j/\FnC M y k' ps F)(F1:FnC M x i ps F0)(hi:i<=k)(hj:j<=k):∀y F,((x,F0)::Hs).lookup y=some F->∃k' ps,k'<=k/\FnC M y k' ps F:=λy F hy=>by
 rw[bJ]at hy;cases e:y==x with
 |true=>rw[e]at hy;cases hy;rw[eq_of_beq e];exact⟨i,ps,hi,F1⟩
 |false=>rw[e]at hy;exact o4 h hj y F hy
end
theorem wc{c P:Addr}{RW:Option Addr}{XF:Array (Option Value)}{oc kV doc pm ct:Value}{vs:Array Value}{file:Str}{tf tg tt:Tok}{flags text:Int}{inF:Bool}(a:aZ K mainGlobals x=some (some (.ref f)))
  (l:K.lookup f=some ⟨oc,od,.func 21#6,sl⟩) (cc:gf K (.ref c) x=true) (k:cJ K (.ref f)=true)
  (e:K.lookup c=some ⟨.type "code",RW,.fields vs,XF⟩) (r1:vs[11]?=some (.ref P)) (r2:vs.getD 11 .none=.ref P) (r3:vs.getD 18 .none=.str file tf) (r4:vs.getD 7 .none=.int flags tg) (r5:vs.getD 9 .none=.bool inF) (r6:vs.getD 10 .none=.int text tt) (r7:c≠P):jl K x st c P:=
 ⟨⟨f,oc,od,kV,_,pm,an,ct,sl,a,l,cc,k⟩,⟨vs,_,_,_,tf,_,tg,_,_,tt,e,r1,r2,r3,r4,r5,r6,r7⟩⟩
theorem MJ{l:mX}{w:World}{h:Heap}{mg:Str->Option Value}{fa:Addr}{ms:MS}{fu k:Nat}{T:Tb}(X:K.In h)(Gn:h.Ns mainGlobals mg)(U2:mg "law"=some (.ref fa))
  (D:Def K "law" st) (S:aQ N ["script"] (ax st))
  (hb :∀ (kV doc pm:Value) (an:Option Addr) (cdv ct:Value) (us:List Value),0#9=["script"].length->bindArgs (cU "law" "law" (fv st) (bu st) (ax st) .none kV doc pm an cdv ct) ⟨us,[]⟩=pure ((["script"]:List Str).zip us))
  {tabs:List (Addr×Str)} (h1:T.mkr=false) (hO:∀base:Heap,eX mg base->TOk ⟨l.prog,w,⟨K,[],[],[],tabs⟩,mg,base,none⟩ T k) (hc:cB T fu N (ax st).names (bu st)=some ms):
  ∃ fd:FuncData,21#3 /\ ∀ base:Heap,K.In base->base.Ns mainGlobals mg->eX mg base->FnOk l.prog w K mg base CX0 (k+1) fa fd ["script"] (spM ⟨K,[],[],[],tabs⟩ (run 1 N.length ms)):=by
 obtain⟨f,fd,a,F⟩:=D.ex;have e:=U2.symm.trans (cq X Gn a);cases e;refine⟨fd,λs v=>?_,λbase _ _ Zj=>F3 rfl F S λX' S'=>(snd fu _ _ _ (.of (hO _ Zj) h1)).b _ _ _ _ hc X' S'⟩;obtain⟨oc,od,kV,doc,pm,an,cdv,ct,osl,rfl,lk,ZD⟩:=F.ex;exact .of_eq (hb kV _ pm an _ ct _ rfl)
theorem NG{tabs:List (Addr×Str)}{H:Hp}{a:Addr}{ns:List Int}{m:MF}(hT:∀q∈tabs,Ar H q.1 q.2)(hS:SqL K H a 10#6)(hm:∀S:Sto,0#5=1->getL S 0=some (ns.map U.int)->∃S',m [.ref 0] S=some (.bl true,S')):
  spM ⟨K,[],[],[],tabs⟩ m [.ref a] H (λv _=>v=.bl true) λ_ _ _=>False:=by
 have key:∃c:Cell,nu ⟨K,[],[],[],tabs⟩ H [a] a c/\getL [c] 0=some (ns.map U.int):=by
  rcases hS with (h|⟨o,h⟩)|h
  .exact⟨.lst _,⟨_,h,RUs.ints ns⟩,rfl⟩
  .exact⟨.frz _,⟨_,.inl ⟨o,h⟩,RUs.ints ns⟩,rfl⟩
  .exact⟨.frz _,⟨_,.inr (.inr h),RUs.ints ns⟩,rfl⟩
 obtain⟨c,hc,hg⟩:=key;obtain⟨S',e⟩:=hm _ rfl hg;refine⟨[a],_,_,_,S',⟨rfl,λn m us ws q1 q2 _ _ _=>?_,λn c' b q1 q2=>?_,⟨.nil,λq hq=>(nomatch hq),hT⟩⟩,.cons (wo rfl) .nil,e,λY2 v H' _ _ _ r=>jn r⟩
 .have h1:=(ah.mp q1).1
  have h2:=(ah.mp q2).1<;>simp_all
 .have h1:=(ah.mp q1).1
  simp_all
end _G
namespace _G
open PySem PySem.Spec _L
open PySem.W (CodeHd tabObj tabIn)
open PyProof.Rows hiding St
theorem jl.tab{K:aj}{x:Str}{st:Stmt}{c P:Addr}(D:jl K x st c P):tabIn K x=some (c,P):=by
 obtain⟨f,oc,od,kV,doc,pm,an,ct,sl,e1,e2,_⟩:=D.ex;obtain⟨vs,RW,XF,file,tf,flags,tg,inF,text,tt,e3,e4,_⟩:=D.cd;unfold tabIn
 simp_all
def yh(K:aj)(tabs:List (Addr×Str))(a:Addr)(o:Obj)(xs:List V):Hp:=λb=>
 if b∈tabs.map (·.1) then some (.tbl #[]) else if b=a/\K.lookup a=none then some (.frz o (.lst xs)) else none
section
variable {P:Program}{w:World}{K:aj}{mg mb:Str->Option Value}{k:Nat}{fa a:Addr}{fd:FuncData}{x:Str}{sp:Sp}{s:Shared}{vs:List Value}{ns:List Int}{tabs:List (Addr×Str)}
theorem IR(kx:K.In s.heap)(Yx:s.heap.Ns mainGlobals mg)(hb:s.heap.Ns builtinsNs mb)(Zj :∀ x:Str,x≠"__name__"->mb x=bootBuiltins x)(Ux:s.heap.NoLimit)(R1:eX mg s.heap)(hg:s.gens = #[])
  (ha:s.heap.get? a=some { cls := .type "list",data := .seq vs.toArray }) (hi:IntsAre vs ns) (hl:5#7<=sizeLine) (hr:ke k callerA)
  (hT:∀r∈tabs,K.lookup r.1=none /\ ∃c,s.heap.TableAt c r.1 #[])
  (F:∀base:Heap,K.In base->base.Ns mainGlobals mg->eX mg base->FnOk P w K mg base CX0 k fa fd [x] sp) (Vt:∀(s:Shared) (u:Value),BindsTo s fd ⟨[u],[]⟩ [(x,u)])
  (Zh:∀H:Hp,(∀r∈tabs,Ar H r.1 r.2)->SqL K H a 10#6->sp [.ref a] H (λv _=>v=.bl true) λ_ _ _=>False):
  j4 (model P w) callerA (.call (.ref fa) ⟨[.ref a],[]⟩) (λr s'=>r=.ok (.ret (.bool true))/\OldK s.heap s'.heap/\s'.os=s.os/\AllBare s'.gens) s:=by
 have rv:=pR hi;have UG:=hi.length
 let o:Obj:={ cls := .type "list",data := .seq vs.toArray }
 let H:=yh K tabs a o 10#6
 have hH:H=yh K _ a o _:=rfl;have tab:∀b,b∈tabs.map (·.1)->H b=some _/\K.lookup b=none /\ ∃c,s.heap.TableAt c b _:=λb hb=>by
  obtain⟨r,hr,e⟩:=bp.mp hb;subst e;exact⟨if_pos hb,hT r hr⟩
 have Tv:a∉tabs.map _:=λz=>by
  obtain⟨_,_,c,ht⟩:=tab a z;have e:=ht.2;rw[ha]at e;cases e
 have Vb:∀b u,H b=some u->(b∈tabs.map _/\u=.tbl _)\/(b=a/\K.lookup a=none/\u=.frz o _):=λb u e=>by
  rw[hH]at e;unfold yh at e
  split at e
  .rename_i z;cases e;exact .inl ⟨z,rfl⟩
  .split at e
   .rename_i z;cases e;exact .inr ⟨z.1,z.2,rfl⟩
   .cases e
 have nodic:∀{b:Addr}{o:Obj}{es:Array _}{ep:Nat},s.heap.get? b=some o->o.data=.dict es ep->H b=none:=λ{b o' es ep} e d=>by
  cases q:H b with
  |none=>rfl
  | some u=>
    rcases Vb b u q with⟨z,_⟩|⟨z,_⟩
    .obtain⟨_,_,c,ht⟩:=tab b z
     have e2:=ht.2;rw[e]at e2;cases e2;cases d
    .subst z
     rw[ha]at e;cases e;cases d
 have nsK:∀{b:Addr}{m:Str->Option _},s.heap.Ns b m->(zL _ H).Ns b m:=λ{b m} ⟨o,es,ep,e,d,r⟩=>⟨o,es,ep,oY e (nodic e d),d,r⟩
 have RG:K.In (zL _ H):=λb o' e=>oY (kx b o' e) (by
  cases q:H b <;> grind)
 have hok:HOk P w H s.heap:=λb u e=>by
  rcases Vb b u e with⟨z,rfl⟩|⟨rfl,z2,rfl⟩
  .obtain⟨_,_,c,ht⟩:=tab b z
   exact ht.2
  .exact⟨ha,by rw[aF];exact hl,vs,_,rv,ha⟩
 have hS:SqL K H a 10#6:=by
  cases hk:K.lookup a with
  | some o'=>
    have e:=kx a o' hk;rw[ha]at e;cases e;exact .inr ⟨_,_,_,hk,rfl,rfl,rfl,by rw[bg,UG];exact hl,by simpa using rv⟩
  |none=>exact .inl (.inr ⟨o,by show yh K _ a o _ a=_;unfold yh;rw[if_neg Tv,if_pos ⟨rfl,hk⟩]⟩)
 have hM:Mod K mg _:=⟨RG,nsK Yx,⟨mb,nsK hb,Zj⟩,let ⟨mc,h1,h2⟩:=Ux;⟨mc,nsK h1,h2⟩⟩;have e0:Do P w K mg _ callerA [] s H:=⟨rfl,hM,λb o e=>A8 e,Nat.le_of_eq (qj _ _),trivial,λb hb=>absurd (show b∈[] from hb) 0#4,hok,.of_eq hg⟩;have hBb:eX mg (zL s.heap H):=by
  obtain⟨bm,ob,e1,e2,e3,e4,e5,e6⟩:=R1;refine⟨bm,ob,e1,e2,oY e3 ?_,e4,e5,e6⟩;cases q:H bm with
  |none=>rfl
  | some u=>
    rcases Vb bm u q with⟨z,_⟩|⟨z,_⟩
    .obtain⟨_,_,c,ht⟩:=tab bm z
     have e:=ht.2;rw[e3]at e;cases e;cases e6
    .rw[z,ha]at e3;cases e3;cases e6
 have hTR:∀r∈tabs,Ar H _ r.2:=λr hr=>⟨_,(tab _ (bp.mpr ⟨r,hr,rfl⟩)).1,trivial,λpos cv h=>by cases h⟩;refine fj ((F _ RG (nsK Yx) hBb).run _ [] s H _ [.ref a] [.ref a] _ _ hr e0 (Vt s _) (.cons rfl .nil) (Zh H hTR hS)) λr s' h=>?_;cases r with
 |error e=>exact h.elim
 | ok fl=>
   cases fl with
   |next=>exact bO h
   |brk=>exact bO h
   |cont=>exact bO h
   | ret u=>
     obtain⟨v,H',os,bare,un,Vr,r',q⟩:=h;have q':=q;subst q';obtain rfl:u=Value.bool _:=r';refine⟨rfl,⟨λb o' e=>?_,λb o' e=>un.there b o' e 0#4⟩,os,bare⟩;cases q:H b with
     |none=>exact .inl (un.keep b o' e q (by intro z;exact absurd (show b∈[] from z) 0#4) 0#4)
     | some u=>
       rcases Vb b u q with⟨z,rfl⟩|⟨rfl,_,rfl⟩
       .obtain⟨_,_,c,ht⟩:=tab b z
        obtain⟨more,e2⟩:=un.tbls b _ q;have e3:=Vr b _ e2;have e4:=ht.2;rw[e]at e4;cases e4;exact .inr (.inl ⟨ht.isCodeTable,rfl,_,_,rfl,e3⟩)
       .obtain⟨e2,_⟩:=Vr b _ (un.frzs b _ _ q)
        rw[ha]at e;cases e;exact .inl e2
end
theorem Eb{l:mX}{n k:Nat}{q:Program}{loose:List Str}{XP:(Str->Option Value)->Heap->Prop}{YP:World->Heap->Prop}{d:DefRec}{K:Params->aj}{x:Str}
  (hn:l.most=some n) (Ym:n<=sizeLine) (VG:d.params.defaults=[]) (hr:ke k callerA) (hY:∀(w:World) (h:Heap),YP w h->(K w.params).In h)
  (F: ∀(w:World) (mg:Str->Option Value) (fa:Addr) (h:Heap),(K w.params).In h->h.Ns mainGlobals mg->mg d.name=some (.ref fa) -> ∃(tabs:List (Addr×Str)) (fd:FuncData) (sp:Sp),
   (∀r∈tabs,(K w.params).lookup r.1=none /\ ∃x d c,(recsOf q).find? (λe=>e.name==x)=some d/\tabIn (K w.params) x=some (c,r.1)) /\
   (∀(s:Shared) (u:Value),BindsTo s fd ⟨[u],[]⟩ [(x,u)])/\(∀base:Heap,(K w.params).In base->base.Ns mainGlobals mg->eX mg base->FnOk l.prog w (K w.params) mg base CX0 k fa fd [x] sp) /\
   ∀(H:Hp) (a:Addr) (ns:List Int),ns.length<=n->(∀r∈tabs,Ar H r.1 r.2)->SqL (K w.params) H a (ns.map V.int)->sp [.ref a] H (λv _=>v = .bl true) λ_ _ _=>False):
  PySem.W.WalkO q loose XP YP l.row.toRowW d [] (λf vs=>PySem.call f vs):=by
 refine Att.attach_call hn VG λw s₀ ZV mg mb fa o pm cd doc a vs ns v6 Y ho hd ZD W9 WS hints hlen hg=>?_;have kx:=hY w _ Y;obtain⟨tabs,fd,sp,hT,hb,hF,Zh⟩:=F w mg fa _ kx v6.T.g W9;refine IR kx v6.T.g v6.T.b v6.T.builtins v6.T.nolimit v6.T.bmain hg WS hints (aE hlen Ym) hr (λr hr=>?_) hF hb λH h1 h2=>Zh H a ns hlen h1 h2;obtain⟨h1,x',d',c,h2,h3⟩:=hT r hr;obtain⟨h4,h5⟩:=PySem.W.tab_of v6.T kx h2 h3;exact⟨h1,c,h4.tab h5⟩
end _G
namespace _G
open PySem PySem.Spec _L
variable{p:List Value->Prop}
theorem usC{n:Nat}(h:∀a us,0#9=n->p (a::us)):∀us:List Value,0#9=n+1->p us:=λus hl=>by
 cases us<;>simp_all
theorem us0(h:p []):∀us:List Value,0#9=0->p us
 |[],_=>h
theorem us1(h:∀a,p [a]):∀us:List Value,0#9=1->p us:=usC λa us hl=>fw hl▸h a
theorem us2(h:∀a b,p [a,b]):∀us:List Value,0#9=2->p us:=usC λa=>us1 (h a)
theorem us3(h:∀a b c,p [a,b,c]):∀us:List Value,0#9=3->p us:=usC λa=>us2 (h a)
theorem us4(h:∀a b c d,p [a,b,c,d]):∀us:List Value,0#9=4->p us:=usC λa=>us3 (h a)
theorem TOk.nm{M:Mo}{T:Tb}{k:Nat}(h:TOk M T k)(x:Str):TOk M ⟨T.D,T.C,[],T.H,false,T.Z.to x⟩ k:=⟨h.D,h.C,h.B,λ_ _ e=>(by cases e),λz=>(by cases z),h.Z⟩
def Bd(x:Str)(st:Stmt)(ps:List Str):Prop:= ∀(kV doc pm:Value) (an:Option Addr) (cdv ct:Value) (us:List Value),0#9=6#2->bindArgs 19#3 ⟨us,[]⟩=pure (ps.zip us)
structure Ch(P:Program)(w:World)(K:aj)(mg:Str->Option Value)(tabs:List (Addr×Str))(T:Tb)(k:Nat):Prop where
 o:∀(caps:List U) (capv:List V) (cds:List (Addr×Obj)) (base:Heap),eX mg base->TOk ⟨P,w,⟨K,caps,capv,cds,tabs⟩,mg,base,none⟩ T k
 h:∀(caps:List U) (capv:List V) (cds:List (Addr×Obj)) (base:Heap),eX mg base->∀y F,T.H.lookup y=some F->∃k' ps,k'<=k/\FnC ⟨P,w,⟨K,caps,capv,cds,tabs⟩,mg,base,none⟩ y k' ps F
 r:∀(caps:List U) (capv:List V) (cds:List (Addr×Obj)) (base:Heap),eX mg base->∀y vf,T.Z.F.lookup y=some vf->∃k' d,d<=3/\k'<=k/\FnR ⟨P,w,⟨K,caps,capv,cds,tabs⟩,mg,base,none⟩ T.Z.cl y k' d vf
theorem rX{M:Mo}{Fs:List (Str×VF)}{cl:Nat->Addr}{j k:Nat}(h:∀y vf,Fs.lookup y=some vf->∃k' d,d<=3/\k'<=j/\FnR M cl y k' d vf)(hj:j<=k):∀y vf,Fs.lookup y=some vf->∃k' d,d<=3/\k'<=k/\FnR M cl y k' d vf:=λy vf hy=>
 let ⟨k',d,hd,a,b⟩:=h y vf hy;⟨k',d,hd,aE a hj,b⟩
section
variable {P:Program}{w:World}{K:aj}{mg:Str->Option Value}{tabs:List (Addr×Str)}{T T':Tb}{k j:Nat}{h:Heap}{x:Str}{st:Stmt}{N ps:List Str}{ms:MS}{fu:Nat}
theorem Ch.dfn(c:Ch P w K mg tabs T k)(O:∀(caps:List U) (capv:List V) (cds:List 2#5) (base:Heap),eX mg base->TOk ⟨P,w,⟨K,caps,capv,cds,tabs⟩,mg,base,none⟩ T' k)(h1:T'.mkr=false)(X:K.In h)(Gn:h.Ns mainGlobals mg)(D:Def K x st)(S:aQ N ps (ax st))(hb:Bd x st ps)
  (hc:cB T' fu N (ax st).names (bu st)=some ms):Ch P w K mg tabs ⟨(x,run ps.length N.length ms)::T.D,T.C,T.L,T.H,T.mkr,T.Z⟩ (k+1):=
 ⟨λa b d e f=>(c.o a b d e f).cons (D.fn (O a b d e f) rfl h1 X Gn S hb hc) (dZ k),λa b d e f=>o4 (c.h a b d e f) (dZ k),λa b d e f=>rX (c.r a b d e f) (dZ k)⟩
theorem Ch.cls{y:Str}{msC:Addr->MF->MS}(c:Ch P w K mg tabs T k)(h1:T.mkr=false)(hL:T.L=[])(X:K.In h)(Gn:h.Ns mainGlobals mg)(D:Def K x st)(S:aQ N ps (ax st))(hb:Bd x st ps)
  (hc:∀g φ,cB ⟨T.D,T.C,[(y,g,φ)],T.H,T.mkr,T.Z⟩ fu N (ax st).names (bu st)=some (msC g φ)):Ch P w K mg tabs ⟨T.D,T.C,T.L,(x,λg φ=>run ps.length N.length (msC g φ))::T.H,T.mkr,T.Z⟩ k:=
 ⟨λa b d e f=>(c.o a b d e f).setH,λa b d e f=>HI (c.h a b d e f) (D.fnC c.o h1 hL X Gn S hb hc) (ar k) (ar k),c.r⟩
theorem Ch.lam_{a p:Addr}{nm:Str}(c:Ch P w K mg tabs T k)(h1:T.mkr=false)(hL:T.L=[])(hm:(p,x++".<locals>."++nm)∈tabs)(nd:(tabs.map (·.1)).Nodup)(hg:mainGlobals≠p)(X:K.In h)(Gn:h.Ns mainGlobals mg)(D:jl K x st a p)(S:aQ N ps (ax st))(hb:Bd x st ps)
  (hc:cB 15#9 fu N (ax st).names (bu st)=some ms):Ch P w K mg tabs ⟨(x,run ps.length N.length ms)::T.D,T.C,T.L,T.H,T.mkr,T.Z⟩ (k+5):=
 ⟨λa b d e f=>(c.o a b d e f).cons (D.fn (M:=⟨P,w,⟨K,a,b,d,tabs⟩,mg,e,none⟩) rfl c.o (c.o a b d e f) hL h1 (o4 (c.h a b d e f) (dZ k)) (rX (c.r a b d e f) (dZ k)) (D.mkr (M:=⟨P,w,⟨K,a,b,d,tabs⟩,mg,e,none⟩) f X Gn hm nd hg) X Gn S hb hc) (eD k 5),λa b d e f=>o4 (c.h a b d e f) (eD k 5),λa b d e f=>rX (c.r a b d e f) (eD k 5)⟩
end
end _G
namespace _G
open PySem PySem.Spec _L
open PyProof.Rows hiding St
def xNo:MX:=λ_ _=>none
def Pq(m:ME)(r:MX):MX:=λG S=>bnd (m G S) λ_ S1=>r G S1
def qI(C:Nat):MX:=λ_ S=>some (C,S)
def xIf(c:MT)(a b:MX):MX:=λG S=>bnd (c G S) λk S1=>if k then a G S1 else b G S1
def lU(a:MX)(m:MS)(b:MX):MX:=λG S=>match a G S with
 |some r=>some r
 | none=>match m G S with
   |some (.nx,Y3,S1)=>b Y3 S1
   |_=>none
def oS(k n:Nat)(r:MX):RF:=λus S=>if 0#9=k then r 16#0 S else none
structure Tx where
 R:List (Str×RF)
 Cl:List (Str×Nat)
def Mm:Const->Option Str
 |.str s=>some s
 |_=>none
def HB:Expr->Option Str
 |.Constant c _ _=>Mm c
 |_=>none
def Dk:Expr->Option Str
 |.Name y _=>some y
 |_=>none
def Mb:Expr->Option (Str×Int)
 |.FormattedValue e c o _=>if o.isNone then(Dk e).map λy=>(y,c) else none
 |_=>none
def Qq(a b:Str):U->Bool
 |.int i=>decide (i.natAbs.log2<1920)&&decide (a.length<=1000)&&decide ((toString i:Str).length<=1000)&&decide (b.length<=1000)
 |_=>false
def QP(T:Tb)(ns:NS):List Expr->Option U
 |[x,y,z]=>(HB x).bind λa=>(Mb y).bind λq=>(HB z).bind λb=>(T.C.lookup q.1).bind λu=>if q.2 == -1&&di ns q.1&&bw q.1&&Qq a b u then some u else none
 |_=>none
def Bb(T:Tb)(ns:NS):Expr->Bool
 |.Constant c _ _=>(Mm c).isSome
 |.JoinedStr es _=>(QP T ns es).isSome
 |_=>false
def oneOf{α:Type}:List α->Option α
 |[a]=>some a
 |_=>none
structure Xc where
 e:Tb->Tx->List Str->NS->Expr->Option MX
 a:Tb->Tx->List Str->NS->List Expr->Option MX
 s:Tb->Tx->List Str->NS->Stmt->Option MX
 b:Tb->Tx->List Str->NS->List Stmt->Option MX
section
variable (f:Nat) (R:Xc) (T:Tb) (Z:Tx) (N:List Str) (ns:NS)
def xC(g:Str)(as:List Expr):Option MX:=match Z.R.lookup g with
 |some r=>(cA T f N ns as).map (xFn r)
 | none=>match T.D.lookup g with
   |some _=>if as.all notStar then R.a T Z N ns as else none
   |none=>none
def xE:Expr->Option MX
 |.Call g as ks _=>(Dk g).bind λx=>if ks.isEmpty&&(!as.isEmpty&&(di ns x&&bw x)) then xC f R T Z N ns x as else none
 |.Subscript a b _=>if j9 b then R.e T Z N ns a else none
 |_=>none
def xA:List Expr->Option MX
 |[]=>none
 | e::r=>if notStar e then(match R.e T Z N ns e with
   |some re=>some re
   | none=>(cE T f N ns e).bind λme=>(R.a T Z N ns r).map (Pq me)) else none
def xR:Expr->Option MX
 |.Call g as ks _=>(Dk g).bind λx=>(oneOf as).bind λa=>if ks.isEmpty&&di ns x&&bw x&&notStar a&&Bb T ns a then(Z.Cl.lookup x).map qI else none
 |_=>none
def xS:Stmt->Option MX
 |.Raise o c _=>if c.isNone then o.bind (xR T Z ns) else none
 |.If c a b _=>(cT T f N ns c).bind λmc=>(R.b T Z N ns a).map λra=>xIf mc ra ((R.b T Z N ns b).getD xNo)
 |.Expr e _=>if g9 e then R.e T Z N ns e else none
 |.Return o _=>o.bind λe=>R.e T Z N ns e
 |.Assign ts e _=>(oneOf ts).bind λt=>(Dk t).bind λx=>if kM ns x&&g9 e&&(slot N x).isSome then R.e T Z N ns e else none
 |_=>none
def xB:List Stmt->Option MX
 |[]=>none
 | s::r=>match R.s T Z N ns s with
   |some rs=>some (lU rs ((cS T f N ns s).getD sNo) ((R.b T Z N ns r).getD xNo))
   |none=>(cS T f N ns s).bind λms=>(R.b T Z N ns r).map (lU xNo ms)
end
def xc(f:Nat):Nat->Xc
 |0=>⟨λ_ _ _ _ _=>none,λ_ _ _ _ _=>none,λ_ _ _ _ _=>none,λ_ _ _ _ _=>none⟩
 |n+1=>⟨xE f (xc f n),xA f (xc f n),xS f (xc f n),xB f (xc f n)⟩
def Ij:Data->Option ClassData
 |.cls cd=>some cd
 |_=>none
def exC(K:aj)(C:Addr)(oc:Value)(cd:ClassData)(sl:Array (Option Value)):Bool:=
 oc == .type "type"&&(sl == #[sl.getD 0 none,sl.getD 1 none,sl.getD 2 none,sl.getD 3 none,some (.builtin "ValueError.__new__"),sl.getD 5 none]&&(cd.mro == .ref C::cd.mro.tail&&(!cd.hasDel&&(PySem.W.tailIn K vE cd.mro.tail&&(PySem.W.nsOkIn K cd.ns&&aZ K cd.ns "__init__" == some none)))))
def exB(K:aj)(C:Addr):Bool:=match K.lookup C with
 | some o=>(match Ij o.data with
   |some cd=>exC K C o.cls cd o.slots
   | none=>false)
 |none=>false
structure XOk(M:Mo)(cl:Nat->Addr)(T:Tb)(Z:Tx)(k:Nat):Prop where
 g:GOk M T k
 R:∀x r,Z.R.lookup x=some r->∃k' ps,k'<=k/\FnX M cl x k' ps r
 C:∀x c,Z.Cl.lookup x=some c->M.mg x=some (.ref (cl c))/\exB M.K.K (cl c)=true
theorem MD{d:Data}{cd:ClassData}(h:Ij d=some cd):d=.cls cd:=by
 cases d<;>first | (cases h;rfl) |cases h
theorem KA{K:aj}{h:Heap}{mg:Str->Option Value}{x:Str}{C:Addr}(X:K.In h)(e:mg x=some (.ref C))(q:exB K C=true):OwnCls x C vE "ValueError.__new__" mg h:=by
 refine⟨e,?_⟩;unfold exB at q;cases ho:K.lookup C with
 |none=>simp_all
 | some o=>
   rw[ho]at q;obtain⟨oc,dd,da,sl⟩:=o
   have qa:(match Ij da with
    |some cd=>exC K C oc cd sl
    | none=>false)=true:=q
   clear q;cases hd:Ij da with
   |none=>simp_all
   | some cd=>
     have q:=qa;clear qa;have Vm:=MD hd;clear hd;subst Vm;obtain⟨q0,q⟩:=eT.mp q;obtain⟨q1,q⟩:=eT.mp q;obtain⟨q3,q⟩:=eT.mp q;obtain⟨q4,q⟩:=eT.mp q;obtain⟨q5,q⟩:=eT.mp q;obtain⟨q6,q7⟩:=eT.mp q;obtain⟨nm,bs,mro,ns,qn,hd,sn,sub,ab,col,del⟩:=cd;have q3':mro=.ref C::mro.tail:=eq_of_beq q3;have q4':del=false:=by
      cases del with
      |false=>rfl
      |true=>cases q4
     rw[eq_of_beq q0,q3',q4',eq_of_beq q1]at ho;exact⟨_,ns,nm,qn,bs,hd,sn,_,ab,_,dd,_,_,_,_,_,_,X _ _ ho,.of_isNs (PySem.W.isNs_of_in X q6),PySem.W.nsMap_none_of_in X q6 (eq_of_beq q7),PySem.W.tail_of_in X q5⟩
section
variable {M:Mo}{cl:Nat->Addr}{T:Tb}{Z:Tx}{k n fu:Nat}{N:List Str}{ns:NS}{X:Cx}{E:XK}
variable{s:Str}
theorem Bu{c:Const}(h:Mm c=some s):c=.str s:=by
 cases c<;>cases h;rfl
variable{e:Expr}
theorem Bk(h:HB e=some s):∃k p,e=.Constant (.str s) k p:=by
 unfold HB at h
 split at h
 .exact⟨_,_,by rw[Bu h]⟩
 .cases h
theorem BN(h:Dk e=some s):∃p,e=.Name s p:=by
 unfold Dk at h
 split at h<;>simp_all
theorem Ip{q:Str×Int}(h:Mb e=some q):∃p p',e=.FormattedValue (.Name q.1 p) q.2 none p':=by
 unfold Mb at h
 split at h
 .rename_i e c o p
  split at h
  .rename_i ho
   obtain⟨y,e1,rfl⟩:=map_eq h;obtain⟨p1,rfl⟩:=BN e1;cases o with
   |none=>exact⟨p1,p,rfl⟩
   |some _=>cases ho
  .cases h
 .cases h
theorem Gy{α:Type}{l:List α}{a:α}(h:oneOf l=some a):l=[a]:=by
 match l,h with
 |[_],h=>cases h;rfl
theorem Mw(O:TOk M T k)(S:Sc M X.nox k N ns){a:Expr}(h:Bb T ns a=true):PE X a λσ H Q=>∀x,Q (.str x) H:=by
 unfold Bb at h
 split at h
 .obtain⟨s,e⟩:=cM.mp h
  rw[Bu e];exact PE.con Fb λ_ _ _ q=>q _
 .rename_i es p
  obtain⟨u,h⟩:=cM.mp h
  match es,h with
  | [x,y,z],h=>
    obtain⟨a,e1,h⟩:=bind_eq (h);obtain⟨⟨n,c⟩,e2,h⟩:=bind_eq h;obtain⟨b,e3,h⟩:=bind_eq h;obtain⟨u',hi,h⟩:=bind_eq h
    split at h
    rotate_left
    .cases h
    rename_i hs
    simp only[ao]at hs;obtain⟨⟨⟨hc,hg⟩,hp⟩,hI⟩:=hs;obtain⟨k1,p1,rfl⟩:=Bk e1;obtain⟨p2,p3,rfl⟩:=Ip e2;obtain⟨k3,p4,rfl⟩:=Bk e3;obtain⟨i,rfl,hI⟩ :∃i,u'=.int i/\Qq a b (.int i)=true:=by
     cases u' with
     |int i=>exact⟨i,rfl,hI⟩
     |_=>cases hI
    have h:(decide _&&decide _&&decide _&&decide _)=true:=hI;simp only[ao,decide_eq_true_eq]at h;obtain⟨⟨⟨h1,h2⟩,h3⟩,h4⟩:=h;obtain⟨g,v,hm,rv,hu⟩:=O.C _ _ hi;have hv:=dw (hu (λ_=>none) []);subst hv;obtain⟨t,rfl⟩ :∃t,g=.int i t:=rv;cases eq_of_beq hc;intro pins s σ H Q I q;have big:3000<=sizeLine:=by decide
    refine JoinedStr_many (joinParts_cons (rK ⟨?_,?_⟩))
    .rw[strLen_append]
     have:(xV).length=0:=rfl;omega
    refine joinParts_cons (FormattedValue_plain (i7 (I.tok _) 4#0 (by have:=S.hm;exact(congrFun this _).trans hm) ?_ (bS hp).1));refine formatField_int_small h1 ⟨?_,?_⟩
    .rw[strLen_append,strLen_append]
     have:(xV).length=0:=rfl;omega
    refine joinParts_cons (rK ⟨?_,?_⟩)
    .rw[strLen_append,strLen_append,strLen_append]
     have:(xV).length=0:=rfl;omega
    refine joinParts_nil ⟨.str _,H,?_,⟨_,rfl⟩,q _⟩ ?_
    .exact I.tok _
    .rw[strLen_append,strLen_append,strLen_append]
     have:(xV).length=0:=rfl;omega
 .cases h
end
theorem OO{T:Tb}{Z:Tx}{ns:NS}{e:Expr}{r:MX}(h:xR T Z ns e=some r):∃x a p1 p C,e=.Call 11#1 [a] [] p/\Z.Cl.lookup x=some C/\r=qI C/\di ns x=true/\bw x=true/\notStar a=true/\Bb T ns a=true:=by
 unfold xR at h
 split at h
 .rename_i g as ks p
  obtain⟨x,e1,hy⟩:=bind_eq h;obtain⟨a,e2,hz⟩:=bind_eq hy;obtain⟨p1,rfl⟩:=BN e1;cases Gy e2
  split at hz
  .rename_i hs
   simp at hs;obtain⟨C,e1,rfl⟩:=map_eq hz;have hk:=hs.1.1.1.1;cases ks with
   |nil=>exact⟨x,a,p1,p,C,rfl,e1,rfl,hs.1.1.1.2,hs.1.1.2,hs.1.2,hs.2⟩
   |cons _ _=>cases hk
  .cases hz
 .cases h
section
variable {M:Mo}{cl:Nat->Addr}{T:Tb}{Z:Tx}{k n fu:Nat}{N:List Str}{ns:NS}{X:Cx}{E:XK}
variable{a:Expr}
theorem x_raise{x:Str}{C:Nat}{p1 p2 pos:Pos}(L:Lv X E)(S:Sc M X.nox k N ns)(O:M.mg x=some (.ref (cl C))/\exB M.K.K (cl C)=true)(hg:di ns x=true)(hp:bw x=true)(hs:notStar a=true)(ha:PE X a λσ H Q=>∀x,Q (.str x) H):
  PS X (.Raise (some (.Call 11#1 [a] [] p2)) none pos) (tXS cl M.K (qI C) E):=by
 intro pins s σ H D I h;obtain⟨μ,S0,G,C',S',hr,er,q,aft⟩:=h;cases q;have hb:X.base=M.base:=S.hb;have hm:X.mg=M.mg:=S.hm;have hK:X.K=M.K.K:=S.hK;have O:=KA (K:=M.K.K) (h:=X.base) (by rw[<-hK];exact I.ok.mod.kin) O.1 O.2;obtain⟨tl,Nn,nm,q,bs,hdct,sn,sub,ab,col,dd,k0,k1,k2,k3,k5,mN,hC,hN,hni,T'⟩:=O.obj;refine wpAny_Raise_call_subU (C:=cl C) (nm:=nm) (q:=q) (N:=Nn) (bs:=bs) (bm:=tl) (hdct:=hdct) (sn:=sn) (sub:=sub) (ab:=ab) (col:=col) (dd:=dd) (k0:=k0) (k1:=k1) (k2:=k2) (k3:=k3) (k5:=k5)
  ya (bmB:=vE) 1#0 ya (mN:=mN) (T'.hasType PySem.F.excBase_ValueError.hasBase) S.room.hd (nW _ _ (by rw[bA,hs];rfl)) hni (i7 I 4#0 (by rw[hm];exact O.bound) ⟨rfl,?_⟩ (bS hp).1)
 rw[bY hs];refine ju ?_;refine dq (thn (ha pins s σ H (λv H1=>(∃x,v=.str x)/\H1=H) I λx=>⟨⟨x,rfl⟩,rfl⟩) λu s1 ⟨v,H1,I1,r1,_,e1⟩=>?_);subst e1;refine eR ⟨rfl,?_,I1.bk _ _ hC,hN.keeps I1.bk,T'.keeps I1.bk,λh' e hx=>?_⟩
 .show 1<=sizeLine
  rw[sizeLine_eq];decide
 .exact L.made I1 hx (aft μ H1 2#2 8#2 hr)
theorem Lr{g:Str}{as:List Expr}{p pos:Pos}{mf:MF}{r:MX}{k':Nat}{ps:List Str}(S:Sc M X.nox k N ns)(F:Fn M g k' ps mf)(hk:k'<=k)(hg:di ns g=true)(hp:bw g=true)(ha:PA X (a::as) (tXA cl M.K r E))(hs:(a::as).all notStar=true):
  PE X (.Call (.Name g p) (a::as) [] pos) (tXE cl M.K r E):=by
 obtain⟨f,fd,hm,Zm,hb,F⟩:=F.ex;have e1:=S.hP;have e2:=S.hw;have e3:=S.hK;have e4:=S.hm;have e5:=S.hb;rw[<-e1,<-e2,<-e3,<-e4,<-e5]at F;rw[<-e4]at hm;rw[<-e3]at Zm hb;rw[bA,ao]at hs;exact PE.con (xD F 11#9 4#0 hm Zm hb .nil sd ha (bS hp).1 (bY hs.1 _ _) (nW _ _ hs.2)) λσ H Q h=>h
structure Qk(M:Mo)(cl:Nat->Addr)(T:Tb)(Z:Tx)(k fu n:Nat):Prop where
 e:∀N ns e r,(xc fu n).e T Z N ns e=some r->∀X E,Lv X E->Sc M X.nox k N ns->PE X e (tXE cl M.K r E)
 a:∀N ns es r,(xc fu n).a T Z N ns es=some r->∀X E,Lv X E->Sc M X.nox k N ns->PA X es (tXA cl M.K r E)
 s:∀N ns st r,(xc fu n).s T Z N ns st=some r->∀X E,Lv X E->Sc M X.nox k N ns->PS X st (tXS cl M.K r E)
 b:∀N ns sts r,(xc fu n).b T Z N ns sts=some r->∀X E,Lv X E->Sc M X.nox k N ns->PSs X sts (tXS cl M.K r E)
theorem NR{R:Qk M cl T Z k fu n}{sts:List Stmt}(h:∀r,(xc fu n).b T Z N ns sts=some r->PSs X sts (tXS cl M.K r E)):PSs X sts (tXS cl M.K (((xc fu n).b T Z N ns sts).getD xNo) E):=by
 cases q:(xc fu n).b T Z N ns _ with
 |some r=>exact h r q
 | none=>
   rintro pins s σ H D I ⟨μ,S0,G,C,S',hr,er,q,aft⟩;cases q
theorem PU(O:XOk M cl T Z k):∀n,Qk M cl T Z k fu n
 |0=>⟨λ_ _ _ _ h=>eg h,λ_ _ _ _ h=>eg h,λ_ _ _ _ h=>eg h,λ_ _ _ _ h=>eg h⟩
 | n+1=>by
   have R:=PU O n;have Sn:=snd fu M T k O.g;refine⟨λN ns e r h X E L S=>?_,λN ns es r h X E L S=>?_,λN ns st r h X E L S=>?_,λN ns sts r h X E L S=>?_⟩
   .replace h:xE fu (xc fu n) T Z N ns e=some r:=h
    cases e with
    | Call g as ks p=>
      obtain⟨x,hx,h2⟩:=bind_eq h;clear h;obtain⟨p1,rfl⟩:=BN hx;have h:(if ks.isEmpty&&(!as.isEmpty&&(di ns x&&bw x)) then xC fu (xc fu n) T Z N ns x as else none)=some r:=h2;clear h2
      split at h
      .rename_i hs
       rw[ao,ao,ao,List.isEmpty_iff]at hs;obtain⟨rfl,ha,hs⟩:=hs;cases as with
       |nil=>cases ha
       |cons a as=>
       unfold xC at h
       split at h
       .rename_i rr hr
        obtain⟨mas,e1,rfl⟩:=map_eq h;obtain⟨k',ps,hk,F⟩:=O.R _ _ hr;exact x_call L S F hk hs.1 hs.2 (Sn.a _ _ _ _ e1 _ S) (fR e1)
       .split at h
        .rename_i mf hd
         split at h
         .rename_i ZO
          obtain⟨k',ps,hk,F⟩:=O.g.1.D _ _ hd;exact Lr S F hk hs.1 hs.2 (R.a _ _ _ _ h _ _ L S) ZO
         .cases h
        .cases h
      .cases h
    | Subscript a b p=>
      have h:(if j9 b then(xc fu n).e T Z N ns a else none)=some r:=h
      split at h
      .rename_i hs
       exact PE.con (JR (r:=λ_ _ _ _=>False) (by unfold IxR;intros;contradiction) (R.e _ _ _ _ h _ _ L S) PE.never (JG hs)) λ_ _ _ q=>q
      .cases h
    |_=>cases h
   .simp only[xc]at h
    unfold xA at h
    split at h
    .cases h
    .split at h
     .rename_i e es hs
      split at h
      .rename_i re he
       cases h;exact λpos pins s σ H Q I q=>jG (t:=λ_ _ _=>False) (R.e _ _ _ _ he _ _ L S) (λ_ _ _ _ _ _ _ h=>h.elim) (bY hs _ _) pos pins s σ H Q I q
      .obtain⟨me,e1,h⟩:=bind_eq h
       obtain⟨rr,e2,rfl⟩:=map_eq h;intro pos pins s σ H Q I q;refine jG (Sn.e _ _ _ _ e1 _ S).nox (R.a _ _ _ _ e2 _ _ L S) (bY hs _ _) pos pins s σ H Q I ?_;obtain⟨μ,S0,G,C,S',hr,er,q,aft⟩:=q;obtain⟨u,S1,e1,q⟩:=aM q;exact⟨μ,S0,G,u,S1,hr,er,e1,λY0 v H1 p1 k1 Z' _=>22#3⟩
     .cases h
   .replace h:xS fu (xc fu n) T Z N ns st=some r:=h
    cases st with
    | Raise o c p=>
      have h:(if c.isNone then o.bind (xR T Z ns) else none)=some r:=h
      split at h
      .rename_i hn
       obtain⟨e,rfl,hx⟩:=bind_eq h;clear h;cases c with
       |some _=>cases hn
       |none=>
       obtain⟨x,a,p1,p2,C,rfl,e1,rfl,h1,h2,h3,h4⟩:=OO hx;exact x_raise L S (O.C _ _ e1) h1 h2 h3 (Mw O.g.1 S h4)
      .cases h
    | If c a b p=>
      obtain⟨mc,e1,h⟩:=bind_eq h;obtain⟨ra,e2,rfl⟩:=map_eq h;refine PS.con (JM (Sn.t _ _ _ _ e1 _ S).nox (R.b _ _ _ _ e2 _ _ L S) (NR (R:=R) λr q=>R.b _ _ _ _ q _ _ L S)) λD σ H q=>?_;obtain⟨μ,S0,G,C,S',hr,er,q,aft⟩:=q;obtain⟨b,S1,e1,q⟩:=aM q;refine⟨μ,S0,G,b,S1,hr,er,e1,λY0 H1 p1 k1 Z'=>?_⟩;cases b with
      |true=>exact Q7 22#3
      |false=>exact Qw 22#3
    | Expr e p=>
      have h:(if g9 e then(xc fu n).e T Z N ns e else none)=some r:=h
      split at h
      .rename_i hs
       exact PS.con (Bf (R.e _ _ _ _ h _ _ L S) (pe hs _ _ _)) λ_ _ _ q=>q
      .cases h
    | Return o p=>
      obtain⟨e,rfl,hx⟩:=bind_eq h;exact PS.con (EN (R.e _ _ _ _ hx _ _ L S)) λ_ _ _ q=>q
    | Assign ts e p=>
      obtain⟨t,e1,hx⟩:=bind_eq h;clear h;obtain⟨x,e2,h⟩:=bind_eq hx;clear hx;cases Gy e1;obtain⟨p1,rfl⟩:=BN e2
      split at h
      .rename_i hs
       simp only[ao]at hs;obtain⟨i,hi⟩:=cM.mp hs.2;have hl:=S.lo hs.1.1;exact PS.con (A1 (i:=i) (by have:=S.nd;have e:=S.hN;exact e▸this) (by have e:X.N=N:=S.hN;rw[e];exact slot_get hi) hl.1 (R.e _ _ _ _ h _ _ L S) (pe hs.1.2 _ _ _) hl.2) λ_ _ _ q=>q
      .cases h
    |_=>cases h
   .simp only[xc]at h
    unfold xB at h
    split at h
    .cases h
    .rename_i st rest
     have two:∀(rs:MX) (ms:MS) (rr:MX),PS X st (tXS cl M.K rs E)->PS X st (tMS M.K ms)->PSs X rest (tXS cl M.K rr E)->PSs X (st::rest) (tXS cl M.K (lU rs ms rr) E):=by
      rintro rs ms rr h1 h2 h3 pins s σ H D I ⟨μ,S0,G,C,S',hr,er,q,aft⟩;unfold lU at q
      split at q
      .rename_i r e1
       cases q;exact(lZ h1 (PSs.never (e:=rest))) pins s σ H D I ⟨μ,S0,G,C,S',hr,er,e1,aft⟩
      .split at q
       .rename_i Y3 S1 e2
        exact(lZ h2 h3) pins s σ H D I ⟨μ,S0,G,_,hr,er,e2,λY0 Y6 H1 p1 k1 Z' ZK=>⟨Y0,S1,Y3,C,S',Z',ZK,q,aft.mono p1 k1⟩⟩
       .cases q
     split at h
     .rename_i rs e1
      cases h;refine two _ _ _ (R.s _ _ _ _ e1 _ _ L S) ?_ (NR (R:=R) λr q=>R.b _ _ _ _ q _ _ L S);cases e2:cS T fu N ns st with
      |some ms=>exact(Sn.s _ _ _ _ e2 _ S).nox
      |none=>exact Qh
     .obtain⟨ms,e1,h⟩:=bind_eq h
      obtain⟨rr,e2,rfl⟩:=map_eq h;refine two _ _ _ ?_ (Sn.s _ _ _ _ e1 _ S).nox (R.b _ _ _ _ e2 _ _ L S);rintro pins s σ H D I ⟨μ,S0,G,C,S',hr,er,q,aft⟩;cases q
end
section
variable {M:Mo}{cl:Nat->Addr}{T:Tb}{Z:Tx}{k:Nat}{h:Heap}{x:Str}{st:Stmt}{N ps:List Str}{r:MX}{fu n:Nat}
theorem Def.fnX(O:XOk M cl T Z k)(h0:M.mkr=none)(X:M.K.K.In h)(Gn:h.Ns mainGlobals M.mg)(D:Def M.K x st)(S:aQ N ps (ax st))
  (hb:Bd x st ps) (hc:(xc fu n).b T Z N (ax st).names (bu st)=some r):FnX M cl x (k+1) ps (oS ps.length N.length r):=by
 obtain⟨f,fd,a,F⟩:=D.ex;refine⟨f,fd,cq X Gn a,F.2,F.binds hb,?_⟩;obtain⟨oc,od,kV,doc,pm,an,cdv,ct,osl,rfl,lk,ZD⟩:=F.ex;have len:∀vs H Q E,spX cl M.K (oS _ N.length r) vs H Q E->2#8=6#2:=λvs H Q E h=>by
  obtain⟨μ,S',us,u,ZC,hr,rs,e,_⟩:=h;unfold oS at e
  split at e
  .rw[<-rs.len];omega
  .cases e
 refine _L.vt lk ZD S len λA outer s H vs Q E hr h=>⟨_,(PU O n).b _ _ _ _ hc _ E ⟨rfl,rfl,rfl,rfl⟩ (Sc.def (E:=E) S hr λc q h=>by grind),?_⟩;obtain⟨μ,S1,us,C,S2,hR,rs,e,ka⟩:=h;unfold oS at e
 split at e
 .rename_i hl
  have er:=j8 (N:=N) rs;rw[hl]at er;exact⟨μ,S1,_,C,S2,hR,er,e,ka⟩
 .cases e
end
end _G
namespace _G
open PySem PySem.Spec PySem.W _L
open PyProof.Rows hiding St
section
variable {prog:Program}{w:World}{A:Around}{E:Value->Shared->Prop}{K:Frag}{h:Heap}{g:Array GenState}{d:Drawn}{t:Nat}{os:OsState}{e C:Addr}{oe:Obj}
theorem Mz{tp:Value}{R:Result->Shared->Prop}(X:K.In h)(he:h.get? e=some oe)(hc:oe.cls=.ref C)(hm:mroIn K C (.type "object")=some true)(q:R (.ok (.ret (.ref C))) ⟨h,g,d,t,os⟩) :
  j4 2#1 A (.call (.builtin "getset_descriptor.__get__") ⟨[.builtin "object.__class__",.ref e,tp],[]⟩) R ⟨h,g,d,t,os⟩:=by
 have L1:=looks_mroIn (M:=model prog w) X hm;have ow:=PySem.F.owner_object_class;have T5:(⟨h,g,d,t,os⟩:Shared).TypeIs 16#3 "getset_descriptor":=jB;refine uA PySem.F.slot_gs_get.plain PySem.F.entry_gs_get (PySem.F.slot_gs_get.check _ _ _ _ _ _ _ _ T5 (PySem.F.args_gs_get _ _ _) ?_)
 repeat (any_goals (first |assumption | (with_reducible refine jv he ?_;rw[hc]) | (rw[ow];with_reducible refine L1.at ?_) |with_reducible refine L1.at ?_ |wp_step))
 refine⟨Code.quiet_builtin _ 1#0,dh PySem.F.entry_object_class ?_⟩
 repeat (any_goals (first |assumption | (with_reducible refine jv he ?_;rw[hc]) |wp_step))
theorem DS{tk:Tok}{Q:Fin->Shared->Prop}(X:K.In h)(he:h.get? e=some oe)(hc:oe.cls=.ref C)(hm:mroIn K C (.type "object")=some true)(hf:findIn K (.ref C) "__class__"=some (some 16#3))(q:Q (.done (.ret (.ref C))) ⟨h,g,d,t,os⟩) :
  aC 2#1 A (Builtin.«object.__getattribute__» ⟨[.ref e,.str "__class__" tk],[]⟩) Q E ⟨h,g,d,t,os⟩:=by
 have L1:=looks_findIn (M:=model prog w) X hf;have f5:(⟨h,g,d,t,os⟩:Shared).TypeIs 16#3 "getset_descriptor":=jB;have f4:=jB;have f6:=PySem.F.slot_gs_get.lookup;have f7:=PySem.F.slot_gs_set.lookup
 repeat (any_goals (first |assumption | (with_reducible refine jv he ?_;rw[hc]) |with_reducible refine L1.at ?_ |wp_step))
 refine Mz X he hc hm ?_
 repeat (any_goals (first |assumption |wp_step))
theorem Ew{X9:Value}{M:Model}{Q:Unit->Shared->Prop}(X:K.In h)(he:h.get? e=some oe)(hc:oe.cls=.ref C)(hb:mroIn K C (.type "BaseException")=some true)(q:Q () ⟨h,g,d,t,os⟩) :
  aC M A (checkBuiltinCall "BaseException.__getattribute__" ⟨[.ref e,X9],[]⟩) Q E ⟨h,g,d,t,os⟩:=by
 have L1:=looks_mroIn (M:=M) X hb;have k1:builtinKind "BaseException.__getattribute__"=some .slot:=by decide +kernel
 have k2:splitId "BaseException.__getattribute__"=some ("BaseException","__getattribute__"):=by decide +kernel
 have ha:=PySem.F.args_bexc_ga (.ref e) X9;simp only[checkBuiltinCall,k1,k2];refine af ?_;unfold isInstance
 repeat (first | (with_reducible refine jv he ?_;rw[hc]) |with_reducible refine L1.at ?_ |wp_step)
 exact q
theorem NQ{tk:Tok}{Q:Value->Shared->Prop}(X:K.In h)(he:h.get? e=some oe)(hc:oe.cls=.ref C)(hm:mroIn K C (.type "object")=some true)(hb:mroIn K C (.type "BaseException")=some true)(hf:findIn K (.ref C) "__class__"=some (some 16#3))
  (hg:findIn K (.ref C) "__getattribute__"=some 22#8) (ha:findIn K (.ref C) "__getattr__"=some none) (q:Q (.ref C) ⟨h,g,d,t,os⟩) :
  aC 2#1 A (getAttrBy (.ref e) (.str "__class__" tk) false) Q E ⟨h,g,d,t,os⟩:=by
 have L1:=looks_findIn (M:=model prog w) X hg;have L2:=looks_findIn (M:=model prog w) X ha;have f3:=PySem.F.excAttr_ValueError.ga.bind (.ref e);have x2:(rj "BaseException.__getattribute__" == rj "object.__getattribute__")=false:=by decide +kernel
 have x1:(onTheHeap (cg C)&&rj "BaseException.__getattribute__" == rj "object.__getattribute__")=false:=by rw [x2];rfl
 repeat (any_goals (first |assumption | (with_reducible refine jv he ?_;rw[hc]) |with_reducible refine L1.at ?_ |with_reducible refine L2.at ?_ |wp_step))
 refine uA PySem.F.excAttr_ValueError.ga.plain PySem.F.entry_bexc_ga (Ew X he hc hb (DS X he hc hm hf ?_))
 repeat (any_goals (first |assumption |wp_step))
theorem HD{Q:Option Value->Shared->Prop}(X:K.In h)(he:h.get? e=some oe)(hc:oe.cls=.ref C)(hm:mroIn K C (.type "object")=some true)(hb:mroIn K C (.type "BaseException")=some true)(hf:findIn K (.ref C) "__class__"=some (some 16#3))
  (hg:findIn K (.ref C) "__getattribute__"=some 22#8) (ha:findIn K (.ref C) "__getattr__"=some none) (q:Q (some (.ref C)) ⟨h,g,d,t+1,os⟩) :
  aC 2#1 A (getAttr? (.ref e) "__class__") Q E ⟨h,g,d,t,os⟩:=by
 unfold getAttr? getAttrBy?
 repeat (any_goals (first |assumption |with_reducible apply NQ X he hc hm hb hf hg ha |wp_step))
def F8(K:Frag)(C:Addr):Bool:=(clsIn K C).isSome&&mroIn K C (.type "object")==some true&&mroIn K C (.type "BaseException")==some true&&findIn K (.ref C) "__class__" == some (some 16#3) &&
 findIn K (.ref C) "__getattribute__" == some 22#8&&findIn K (.ref C) "__getattr__" == some none
theorem Ey(hB:F8 K C=true):KitX K (.ref e) (.ref C) (λh=>∃oe,h.get? e=some oe/\oe.cls=.ref C):=by
 unfold F8 at hB;simp only[ao,beq_iff_eq]at hB;obtain⟨⟨⟨⟨⟨h0,h1⟩,h2⟩,h3⟩,h4⟩,h5⟩:=hB;obtain⟨cd,ZD⟩:=cM.mp h0;unfold clsIn at ZD
 split at ZD
 rotate_left
 .cases ZD
 rename_i c' d' cd' XF ho
 refine⟨λM h X p=>?_,λM h X p=>?_,λh tp dd ZZ n sl X htp=>?_,λ{prog w A E Q s} X p k=>?_⟩
 .obtain⟨oe,e1,e2⟩:=p
  exact e2▸(Looks.ld e1).andThen .now
 .intro A' Q' E' s' k q
  unfold isType loadHead;exact af (wpAny_loadPart (k _ _ (X _ _ ho)) (av q))
 .refine Bool.eq_false_iff.mpr λq=>?_
  have z:C=tp:=Value.ref.inj (beq_iff_eq.mp q);subst z;have:=(X _ _ ho).symm.trans htp;cases this
 .obtain⟨oe,e1,e2⟩:=p
  obtain⟨h,g,d,t,os⟩:=s;exact HD X e1 e2 h1 h2 h3 h4 h5 k
end
end _G
namespace _G
open PySem PySem.Spec _L
open PySem.W (envX kla_fn kla_obj CodeHd tabObj)
open PyProof.Rows hiding St
section
variable {X:Cx}{pins:List (Addr×Obj)}{σ:St}{H H':Hp}{s s':Shared}
theorem Ef{M:Model}{A:Around}{E:Value->Shared->Prop}{j:Nat}{n:Str}{pos:Pos}{Q:Unit->Shared->Prop}(I:Inv X pins σ H s)(hN:X.N.Nodup)(hj:X.N[j]?=some n)(hn:X.env.scope.names.lookup n=some .local)
  (h:∀s',Inv X pins (σ.set j none) H s'->Q () s'):aC M A (do bindName X.env n .none;unbindBehindTheSuite X.env n pos) Q E s:=by
 obtain⟨m,hm,hl⟩:=id I.loc;have XW:(X.env.scope.kind==.class||(X.env.scope.kind==.module&&6#7 != X.env.globals))=false:=by rw[I.ok.kind];rfl
 refine wpAny_nameGoes_keeps hn hm XW λh' v Wp hs=>h _ ?_;have below:∀b o,X.s₀.heap.get? b=some o->b≠6#7:=λb o e=>aH (aq (az e) I.ok.above);refine⟨I.ok,I.os,I.bare,⟨λb o e n hb hx=>(hs.2 b (below b o e)).trans (I.base.keep b o e n hb hx),λb o e n hb hx=>?_,I.base.free,λb o e hx=>?_,I.base.tups,I.base.frzs,I.base.tbls⟩,⟨_,Wp,λi y w e1 e2 e3=>?_⟩,λy c e=>?_,I.free,I.freeC,λp hp=>?_,λb ob e=>?_,by simpa using I.len⟩
 .obtain⟨sl,e1⟩:=I.base.slot b o e n hb hx
  exact⟨sl,(hs.2 b (below b o e)).trans e1⟩
 .obtain⟨o',e1⟩:=I.base.there b o e hx
  exact⟨o',(hs.2 b (below b o e)).trans e1⟩
 .by_cases hi:i=j
  .rw[List.getElem?_set]at e2<;>simp_all
  .rw[aG (cZ hi)]at e2
   obtain⟨u',r',q⟩:=hl i y w e1 e2 e3;refine⟨u',r',?_⟩;rcases q with⟨k,e⟩|⟨k,c,e,z⟩
   .refine .inl ⟨k,?_⟩
    have YR:y≠n:=λe=>hi (sx hN e1 (e▸hj))<;>simp_all
   .exact .inr ⟨k,c,e,z.sameBut hs (I.cne y c e)⟩
 .obtain⟨w',z⟩:=I.cell y c e
  exact⟨w',z.sameBut hs (I.cne y c e)⟩
 .obtain⟨e,n,ne,nf,d⟩:=I.pin p hp
  exact⟨(hs.2 _ ne).trans e,n,ne,nf,d⟩
 .refine(I.hok b ob e).stay (λc w' hc q=>(hs.2 c ?_).trans q) (λ_ q=>q) λ_ _ q=>q
  rintro rfl;rcases hc with rfl|hc
  .rw[I.free]at e;cases e
  .rw[I.free]at hc;cases hc
abbrev Cx.mkd(X:Cx)(e:Value):Cx:={ X with A:=X.A.mark (some e),calm:=false,xe:=λ_ _=>False }
variable{e:Value}
theorem Inv.mkd(I:Inv X pins σ H s):Inv (Cx.mkd X e) pins σ H s:=
 ⟨⟨I.ok.mod,I.ok.kind,I.ok.glob,I.ok.blt,I.ok.above,I.ok.inj,I.ok.has,I.ok.cab,10#5,I.ok.frames,I.ok.stk,I.ok.exf,I.ok.bs,I.ok.bsz,I.ok.noex,I.ok.exfs,I.ok.funs,I.ok.frf⟩,I.os,I.bare,I.base,I.loc,I.cell,I.free,I.freeC,I.pin,I.hok,I.len⟩
theorem Inv.unmkd(I:Inv (Cx.mkd X e) pins σ H s)(hd:X.calm=true->X.A.handled=none):Inv X pins σ H s:=
 ⟨⟨I.ok.mod,I.ok.kind,I.ok.glob,I.ok.blt,I.ok.above,I.ok.inj,I.ok.has,I.ok.cab,hd,I.ok.frames,I.ok.stk,I.ok.exf,I.ok.bs,I.ok.bsz,I.ok.noex,I.ok.exfs,I.ok.funs,I.ok.frf⟩,I.os,I.bare,I.base,I.loc,I.cell,I.free,I.freeC,I.pin,I.hok,I.len⟩
theorem HOk.frz{P:Program}{w:World}{h:Heap}{a:Addr}{o:Obj}(x:HOk P w H h)(n:H a=none)(e:h.get? a=some o):HOk P w (upd H a (.frz o fz)) h:=λb u q=>by
 by_cases hb:b=a
 .subst hb
  rw[bW]at q;cases q;exact⟨e,trivial,⟨_,e⟩,λ_ _ _ _=>trivial⟩
 .rw[aR hb]at q
  exact(x b u q).stay (λ_ _ _ z=>z) (λc z=>by rw[aR (aT z n)];omega) λc xs z=>by rw[aR (aT z n)];omega
theorem Un.frz{fs:List Addr}{h h':Heap}{a:Addr}{o:Obj}(u:Un fs [] H H' h h')(hn:h.get? a=none)(n:H' a=none):Un fs [] H (upd H' a (.frz o fz)) h h' where
 keep:=u.keep
 slot:=u.slot
 free:=λb o q m hx=>by rw[aR (λz=>by grind)];exact u.free b o q m hx
 there:=u.there
 tups:=λb xs q=>by have:=u.tups b xs q;rw[aR (aT this n)];omega
 frzs:=λb ob xs q=>by have:=u.frzs b ob xs q;rw[aR (aT this n)];omega
 tbls:=λb ps q=>by obtain⟨m,e⟩:=u.tbls b ps q;exact⟨m,by rw[aR (aT e n)];omega⟩
end
end _G
namespace _G
open PySem PySem.Spec _L
open PyProof.Rows hiding St
section
variable {X:Cx}{pins:List (Addr×Obj)}{σ:St}{H H':Hp}{s s':Shared}
theorem HR.frz{K:KX}{μ:List Addr}{S:Sto}{a:Addr}{o:Obj}(h:HR K μ S H)(n:H a=none):aX H (upd H a (.frz o fz))/\HR K μ S (upd H a (.frz o fz)):=by
 have kp:aX H (upd H a (.frz o fz)):=aX.new n;refine⟨kp,h.len,h.inj,λm c x q1 q2=>(h.cell m c x q1 q2).mono kp 2#2 (λhc=>?_) λo' u e=>by rw[aR (aT e n)];omega,h.ext.upd kp 2#2 λo' q=>by grind⟩;obtain⟨ob,e,_⟩:=(h.cell m c x q1 q2).has hc;exact aR (aT e n)
theorem Bn{E:Value->Shared->Prop}{Q:Value->Shared->Prop}{i:Nat}{x:Str}{g:Addr}{fd:FuncData}{p1 pos:Pos}(I:Inv X pins σ H s)(hN:X.N[i]?=some x)(hv:Vis X.env.scope x)(hp:bw x=true)(Y':σ[i]?=some (some (.ref g)))
  (hf:(∃(oc:Value) (od:Option Addr) (sl:Array (Option Value)),X.base.get? g=some ⟨oc,od,.func fd,sl⟩)\/cJ X.K (.ref g)=true)
  (h:∀s1,Inv X pins σ H s1->aC 1#2 X.A (call (.ref g) []) Q E s1):aC 1#2 X.A (eval (.Call 11#1 [] [] pos) X.env) Q E s:=by
 obtain⟨n1,n2⟩:=bS hp;refine cN (thn (sf (X:=X.wish E) hN hv n1 n2 _ s σ H (λv H1=>v=.ref g/\H1=H) (I.wish E) ⟨_,Y',rfl,rfl⟩) λw s1 ⟨v,H1,I1,r1,e1,e2⟩=>?_);subst e1;subst e2;obtain rfl:w=cg g:=r1;have I1:=I1.unwish;rcases hf with⟨oc,od,sl,hf⟩ |hf
 .exact DG rfl (λh q=>⟨_,.inl rfl,(pH q).andThen .now⟩) (evalArgs_nil3 ⟨I1.bk g _ hf,h s1 I1⟩)
 .exact DD I1.kIn hf (h s1 I1)
end
def QL(cl:Nat->Addr)(K:KX)(i j l:Nat)(g:Addr)(φ:MF)(ψ:RF):TS:=λD σ H=>∃μ S G,HR K μ S H/\ER H μ G σ/\G[i]?=some (some (.obj g))/\G[j]?=some none /\
 ((∃u S1,φ [] S=some (u,S1) /\ ∀Y2 Y1 H',Pre μ Y2->aX H H'->HR K Y2 S1 H'->ER H' Y2 G Y1->D.nx Y1 H') \/
  ∃q S1,ψ [] S=some (q,S1) /\ ∀e oe Y2 Y1 H',Pre μ Y2->aX H H'->HR K Y2 S1 H'->ER H' Y2 (G.set l (some (.obj e))) Y1->H' e=some (.frz oe fz)->oe.cls = .ref (cl q)->D.nx Y1 H')
section
variable {M:Mo}{X:Cx}{k:Nat}{N:List Str}{ns:List (Str×NameKind)}{x n y W:Str}{p1 p2 p3 p4 p5 p6 p7 p8 p9:Pos}
theorem K2{cl:Nat->Addr}{φ:MF}{ψ:RF}{g w:Addr}{k' i j l:Nat}(S:Sc M X k N ns)(stk:4#9=X.env::X.outer)(fr:X.env.frame=some 6#7)(F:Lam M g k' [] φ)(F':qF M cl g k' [] ψ)(hk:k'<=k)
  (hi:N[i]?=some x) (hx:kI ns x=true) (hp:bw x=true) (hj:N[j]?=some n) (hn:ns.lookup n=some .local) (SJ:bw n=true) (hl:N[l]?=some y) (hy:kM ns y=true) (UN:j≠l) (hW:di ns W=true) (hWp:bw W=true) (hw:M.mg W=some (.ref w))
  (hm:∀S q S1,ψ [] S=some (q,S1)->yb M.K (.ref (cl q)) (.ref w)=some true):
  PS X (.Try [.Expr (.Call 11#1 [] [] p2) p3] [.ExceptHandler (some (.Name W p4)) (some n) [.Assign [.Name y p5] (.Name n p6) p7] p8] [] [] p9) (QL cl M.K i j l g φ ψ):=by
 intro pins s σ H D I h;obtain⟨μ,S0,G,hr,er,X3,X7,h⟩:=h;obtain⟨v,Y',rv⟩:=er.get i _ X3;have WL:=by simpa only [RU]using rv
 subst WL;have RQ:X.N[i]?=some x:=by rw[S.hN];exact hi
 refine wpAny_Try_except (A5 (wpAny_Expr_any ?_ I.quiet rfl));rcases h with⟨u,S1,Vy,kk⟩|⟨q,S1,V6,kk⟩
 .obtain⟨fd,hf,hb,F⟩:=F.ex
  rw[<-S.hP,<-S.hw,<-S.hK,<-S.hm,<-S.hb]at F;rw[<-S.hb,<-S.hK]at hf;rw[<-S.hK]at hb;refine Bn I RQ (S.vis hx) hp Y' hf λs1 I1=>?_;refine thn (bK (oh (X:=X.nox) F 11#9 hb .nil sd (I1.wish _) .nil (⟨μ,S0,[],u,S1,hr,.nil,Vy,λY2 v H' p k Zw _=>kk Y2 σ H' p k Zw (er.mono k p)⟩)) (λ_ _ z=>z) λ_ _ z=>z.elim) λu s2 ⟨v,H2,I2,r2,q2⟩=>?_;exact iT (iT ⟨σ,H2,I2.unwish,q2⟩)
 .obtain⟨fd,hf,hb,F'⟩:=F'.ex
  rw[<-S.hP,<-S.hw,<-S.hK,<-S.hm,<-S.hb]at F';rw[<-S.hb,<-S.hK]at hf;rw[<-S.hK]at hb;have hM:=hm _ _ _ V6;refine Bn I RQ (S.vis hx) hp Y' hf λs1 I1=>?_;have Zh:spX cl _ ψ [] H (λ_ _=>False) (λc _ H'=>c=.ref _ /\ ∃Y2,Pre μ Y2/\aX H H'/\HR _ Y2 S1 H'):=⟨μ,S0,[],q,S1,hr,.nil,V6,λY2 H' p k Zw=>⟨rfl,_,p,k,Zw⟩⟩;refine xW (fj (F'.run _ _ s1 H _ [] [] _ _ 11#9 I1.env0 (hb s1 [] I1.kIn (by simpa using this)) .nil Zh) λr s2 hq=>?_);cases r with
  | ok fl=>
    cases fl with
    |ret u=>obtain⟨_,_,_,_,_,_,_,z⟩:=hq;exact z.elim
    |next=>exact bO hq
    |brk=>exact bO hq
    |cont=>exact bO hq
  | error ev=>
    obtain⟨e,T,cls,H',rfl,os,hg,un,hok,t,he,hT,ne,nT,rfl,Y2,pr,kp,Zw⟩:=hq;have I2:=I1.call' os un hok hg λb z=>nomatch z
    have fS:X.A.frames=some (X.env::X.outer):=by rw[I.ok.frames,stk]
    obtain⟨a0,fl⟩:=flying I2 t;rw[show nJ _ _ e _ a0 _=nJ _ (X.env::X.outer) e _ a0 _ by rw[<-stk]]at fl;refine wpAny_looks_onW fS fr fl λh3 hd3 s9=>wpAny_landsW hd3 λh4 UD sl4=>?_;have VA:=s9.trans sl4;have Ri:=xF I2 UD.1 VA;have I4:=I1.call' (s':={ s2 with heap:=h4 }) os (Ri.un un he hT) (Ri.hok hok I2.stkFree ne nT) hg λb z=>nomatch z
    refine wpAny_handleBy_cons (codeAny_handlers_test (i7 (Inv.mkd I4) (S.gl hW) (by rw[S.hm];exact hw) ?_ (bS hWp).1)) (by intro z;cases z);obtain⟨ob,hob,UC⟩:=UD.there;have kin:=by have:=I4.kIn;rw[S.hK]at this;exact this
    refine(PySem.W.exm_one kin (UC▸(pH hob).andThen .now) hM).here ?_;refine codeAny_handlers_suite_as (lands_againW UD λh6 RZ sl6=>?_);have U7:=VA.trans sl6;have RM:=xF I2 RZ.1 U7;obtain⟨oe,e1,e2⟩:=RZ.there;have I6:=I1.call' (s':={ s2 with heap:=h6 }) os (Un.frz (RM.un un he hT) he ne) (HOk.frz (RM.hok hok I2.stkFree ne nT) ne e1) hg λb z=>nomatch z
    obtain⟨Rh,hr6⟩:=HR.frz Zw ne;have ndN:X.N.Nodup:=by rw[S.hN];exact S.nd
    have Vh:X.N[j]?=some n:=by rw[S.hN];exact hj
    have RK:X.N[l]?=some y:=by rw[S.hN];exact hl
    have VM:=S.loc n hn;refine jj I6 ndN Vh (.inl VM) (v:= .ref e) rfl (λs7 I7=>?_) (.inr VM);have TK:j<σ.length:=by rw[I.len];exact(ah.mp Vh).1
    have ps:=wt (A1 (X:=Cx.mkd X (.ref e)) (pos:=p7) (pos':=p5) ndN RK (S.lo hy).1 (sf (pos:=p6) Vh (.inl VM) (bS SJ).1 (bS SJ).2) rfl (S.lo hy).2);refine bK (ps _ s7 _ _ { nx:=λY1 Xe=>Y1=(σ.set j _).set l _/\Xe=upd H' e _,rt:=λ_ _=>False } (Inv.mkd I7) ⟨_,aK TK,rfl,rfl⟩) (λf s8 hs=>?_) λ_ _ z=>z.elim;cases f with
    |ret u=>obtain⟨_,_,_,_,_,z⟩:=hs;exact z.elim
    |brk=>obtain⟨_,_,_,z⟩:=hs;exact z.elim
    |cont=>obtain⟨_,_,_,z⟩:=hs;exact z.elim
    | next=>
      obtain⟨Y1,Xe,I8,rfl,rfl⟩:=hs;have I8':=Inv.unmkd I8 I.ok.hd;refine Ef I8' ndN Vh VM λs9 I9=>⟨_,_,I9,?_⟩;refine kk e oe _ _ _ pr (kp.trans Rh) hr6 ⟨by simp[er.len],λm u hu=>?_⟩ bW e2;have er6:=er.mono (kp.trans Rh) pr;have Sj:l<σ.length:=by rw[I.len];exact(ah.mp RK).1
      by_cases XX:m=l
      .subst XX
       rw[aK (by rw[er.len];exact Sj)]at hu;cases hu;refine⟨.ref e,?_,by simp[RU]⟩;rw[aG UN,aK (by simpa using Sj)]
      .rw[aG (cZ XX)]at hu
       have Va:m≠j:=λz=>by rw[z,X7]at hu;cases hu
       obtain⟨v,h1,h2⟩:=er6.get m u hu;refine⟨v,?_,h2⟩;rw[aG (cZ Va),aG (cZ XX),aG (cZ Va)];exact h1
end
def cn:List Str := ["TooMany","NotLevel","NoLift","NotPlain","NoName","BadNote","NoTwist"]
structure vm(K:aj)(mg:Str->Option Value)(cl:Nat->Addr)(w:Addr)(rz:List Nat):Prop where
 c:∀j t,cn[j]?=some t->mg t=some (.ref (cl j))
 W:mg "WalkError"=some (.ref w)
 V:mg "ValueError"=none
 n :∀ j,j<7->cm K (.type "NoneType") (.ref (cl j))=some false
 nV:cm K (.type "NoneType") (.type "ValueError")=some false
 lt:∀q∈rz,q<7
 x:∀q∈rz,F8 K (cl q)=true
 m:∀q∈rz,yb K (.ref (cl q)) (.ref w)=some true
 k:∀q∈rz,∀j,j<7->cm K (.ref (cl q)) (.ref (cl j))=some (decide (q=j))
 kV :∀ q∈rz,cm K (.ref (cl q)) (.type "ValueError")=some true
def mIs(u:U)(b:Bool):ME:=λG S=>open Classical in if G[1]?=some (some u) then some (.bl b,S) else none
def PP(L a b c:Nat):Pos:=⟨L+a,b,L+a,c⟩
def isi(L a b:Nat)(t:Str)(n:Nat):Expr := .Call (.Name "isinstance" (PP L a b (b+10))) [.Name "error" (PP L a (b+11) (b+16)),.Name t (PP L a (b+18) (b+18+n))] [] (PP L a b (b+19+n))
def AQ(K:KX)(u:U)(t:Value):Prop:=(u=.non/\t=.type "NoneType") \/ ∃ e oe C,u=.obj e/\t=.ref C/\(e,oe)∈K.cds/\oe.cls=.ref C/\F8 K.K C=true
section
variable {M:Mo}{X:Cx}{k:Nat}{N:List Str}{ns:List (Str×NameKind)}
variable{b:Bool}
theorem M9{pins:List (Addr×Obj)}{σ:St}{H:Hp}{s:Shared}{E:Value->Shared->Prop}{u:U}{t c:Value}{v:V}{x:Value}{Q:VK}{μ:List Addr}{S:Sto}(I:Inv X pins σ H s)(hK:X.K=M.K.K)(hr:HR M.K μ S H)(ok:AQ M.K u t)(ru:RU H μ u v)(rv:RelV v x)(e:cm M.K t c=some b)(q:Q (.bl b) H):
  aC 1#2 X.A (call (.builtin "isinstance") [x,c]) 8#8 E s:=by
 have kin:M.K.K.In s.heap:=by rw[<-hK];exact I.kIn
 rcases ok with⟨rfl,rfl⟩|⟨ea,oe,C,rfl,rfl,hm,hc,hB⟩
 .have hv:=by simpa only [RU]using ru
  subst hv;obtain rfl:x=eC:=rv;exact cH GX kin trivial e (by grind) λtk=>⟨.bl b,H,I.tok tk,rfl,q⟩
 .have hv:=by simpa only [RU]using ru
  subst hv;obtain rfl:x=cg ea:=rv;exact cH (Ey hB) kin ⟨oe,(I.hok ea _ (hr.ext.cds _ hm)).1,hc⟩ e (by grind) λtk=>⟨.bl b,H,I.tok tk,rfl,q⟩
theorem Kp{u:U}{t c:Value}{L a bb n:Nat}{y:Str}(S:Sc M X k N ns)(ok:AQ M.K u t)(h1:N[1]?=some ("error":Str))(hv:kI ns "error"=true)(hg:di ns "isinstance"=true)(hm:M.mg "isinstance"=none)(hy:di ns y=true)(hp:bw y=true)
  (hc:M.mg y=some c\/(M.mg y=none/\bootBuiltins y=some c/\y≠"__name__")) (e:cm M.K t c=some b):PE X (isi L a bb y n) (tM M.K (mIs u b)):=by
 rintro pins s σ H Q I ⟨μ,S0,G,w,S',hr,er,q,aft⟩;unfold mIs at q
 split at q
 rotate_left
 .cases q
 rename_i X3
 cases q;obtain⟨v,Y',ru⟩:=er.get 1 _ X3;have l':X.N[1]?=some ("error":Str):=by rw [S.hN];omega
 refine cN (hU I 4#0 5#3 boot_isinstance ?_ 0#1 0#1);refine callWith_builtin1 ?_ rfl rfl;refine dq (thn (sf l' (S.vis hv) 1#0 1#0 _ s σ H (λv' H1=>v'=v/\H1=H) I ⟨_,Y',rfl,rfl⟩) λx s1 ⟨v',H1,I1,r1,e1,e2⟩=>?_);subst e1;subst e2;have fin:aC _ _ _ _ X.xe s1:=M9 I1 S.hK hr ok ru r1 e (aft μ _ H1 2#2 8#2 hr k6);rcases hc with hc | ⟨hc,hb,hn⟩
 .exact dq (i7 I1 (S.gl hy) 5#3 (eR fin) (bS hp).1)
 .exact dq (hU I1 (S.gl hy) 5#3 hb (eR fin) hn (bS hp).1)
end
def kC(L:Nat)(z:Stmt):List Stmt:= [
 .Assign [.Name "error" (PP L 1 4 9)] (.Constant .none 0 (PP L 1 12 16)) (PP L 1 4 16),
 .Try [.Expr (.Call (.Name "call" (PP L 3 8 12)) [] [] (PP L 3 8 14)) (PP L 3 8 14)] [.ExceptHandler (some (.Name "WalkError" (PP L 4 11 20))) (some "e") [.Assign [.Name "error" (PP L 5 8 13)] (.Name "e" (PP L 5 16 17)) (PP L 5 8 17)] ⟨L+4,4,L+5,17⟩] [] [] ⟨L+2,4,L+5,17⟩,
 .Assign [.Name "kinds" (PP L 6 4 9)] (.List [isi L 6 13 "TooMany" 7,isi L 6 41 "NotLevel" 8,isi L 6 70 "NoLift" 6] (PP L 6 12 96)) (PP L 6 4 96),
 .Assign [.Name "kinds" (PP L 7 4 9)] (.BinOp (.Name "kinds" (PP L 7 12 17)) .Add (.List [isi L 7 21 "NotPlain" 8,isi L 7 50 "NoName" 6,isi L 7 77 "BadNote" 7] (PP L 7 20 104)) (PP L 7 12 104)) (PP L 7 4 104),
 .Expr (.Call (.Attribute (.Name "kinds" (PP L 8 4 9)) "append" (PP L 8 4 16)) [isi L 8 17 "NoTwist" 7] [] (PP L 8 4 44)) (PP L 8 4 44),
 .If (.UnaryOp .Not (isi L 9 11 "ValueError" 10) (PP L 9 7 40)) [.Return (some (.Constant .none 0 (PP L 10 15 19))) (PP L 10 8 19)] [] ⟨L+9,4,L+10,19⟩,
 z]
def mzR:MS:=bZ (cY (iR1 (aa (mC (.int 7)) ai)) (cOf (m2 oIx 1#6 (ae 4))) (ae 4))
def tlR(u:U)(b:Nat->Bool):MS:=
 aY (bz 3 (cw (aa (mIs u (b 0)) (aa (mIs u (b 1)) (aa (mIs u (b 2)) ai)))))
 (aY (bz 3 (m2 bM 1#6 (cw 21#9)))
 (aY (dk (mML cb 1#6 (aa (mIs u (b 6)) ai)))
 (aY (sIf (eB (cOf (mIs u (b 7)))) (bZ (mC .non)) dg) mzR)))
def tK(ns:NS):Bool:=kM ns "error"&&kM ns "kinds"&&kI ns "call"&&ns.lookup ("e":Str)==some .local&&di ns "isinstance"&&di ns "ValueError"&&di ns "WalkError"&&cn.all (di ns)
def o8:List Str := ["call","error","e","kinds"]
theorem wQ{ns:NS}{x:Str}(h:kM ns x=true):kI ns x=true:=by
 unfold kM at h;unfold kI
 split at h<;>rename_i e<;>first | (cases h;done) |rw[e]
section
variable {M:Mo}{X:Cx}{k:Nat}{ns:List (Str×NameKind)}
theorem Bq{u:U}{t:Value}{b:Nat->Bool}{c:Nat->Value}{L:Nat}{z:Stmt}{cl:Nat->Addr}{w:Addr}{rz:List Nat}(S:Sc M X k o8 ns)(Yx:tK ns=true)(B :∀ x∈iQ,M.mg x=none)(Rk:vm M.K.K M.mg cl w rz)(ok:AQ M.K u t)(hb :∀ j,j<7->cm M.K t (.ref (cl j))=some (b j))(hV:cm M.K t (.type "ValueError")=some (b 7))
  (hz:PS X z (tMS M.K mzR)):PSs X ((kC L z).drop 2) (tMS M.K (tlR u b)):=by
 unfold tK at Yx;simp at Yx;obtain⟨⟨⟨⟨⟨⟨⟨h1,h2⟩,h3⟩,h4⟩,h5⟩,h6⟩,h7⟩,h8⟩:=Yx;have Ra:M.mg "isinstance"=none:=B _ 1#0;have is:∀(j a bb n:Nat) (y:Str),cn[j]?=some y->PE X (isi L a bb y n) _:=λj a bb n y hj=>by
  have ZR:=(ah.mp hj).1;have hm:=dc hj;have hp:=by
   have:∀y∈cn,bw y=true:=by decide +kernel
   exact this y hm
  exact Kp S ok rfl (wQ h1) h5 Ra (h8 y hm) hp (.inl (Rk.c j y hj)) (hb j ZR)
 have kv:∀pos,PE X (.Name _ pos) _:=λpos=>BH S 3 rfl (wQ h2) 1#0 1#0;refine sj (vC S 3 rfl h2 (EB (kE (is 0 _ _ _ _ rfl) (kE (is 1 _ _ _ _ rfl) (kE (is 2 _ _ _ _ rfl) yr))))) ?_;refine sj (vC S 3 rfl h2 (J9 S (kv _) (EB (kE (is 3 _ _ _ _ rfl) (kE (is 4 _ _ _ _ rfl) (kE (is 5 _ _ _ _ rfl) yr)))))) ?_;refine sj (DO (su S (kv _) (kE (is 6 _ _ _ _ rfl) yr) rfl rfl (by show((L+8)==(L+8))=true;simp) rfl rfl)) ?_;refine sj (Oe (JX (Ko (Kp S ok rfl (wQ h1) h5 Ra h6 1#0 (.inr ⟨Rk.V,by decide +kernel,by decide +kernel⟩) hV))) (EH (Kf F6)) J0) (EH hz)
end
variable{u:U}{S:Sto}
theorem AH{b:Bool}{G:Rho}(h:G[1]?=some (some u)):mIs u b G S=some (.bl b,S):=by
 unfold mIs;rw[if_pos h]
variable{x y:Option U}{b:Nat->Bool}
theorem Ba:tlR u b [x,some u,y,none] S =
  (aY (sIf (eB (cOf (mIs u (b 7)))) (bZ (mC .non)) dg) mzR) 12#9 (S++gv b):=by
 have i0:∀(v:Option U) (c:Bool) (S:Sto),mIs u c [x,some u,y,v] S=some _:=λv c S=>AH rfl;have e1:bz 3 (cw (aa (mIs u (b 0)) (aa (mIs u (b 1)) (aa (mIs u (b 2)) ai)))) [x,some u,y,none] S=some (.nx,[x,some u,y,2#7],S++[kL b [0,1,2]]):=by
  simp[bz,cw,aa,i0];rfl
 have g1:(S++[kL b [0,1,2],kL b [3,4,5]])[0#5]?=some (kL b [0,1,2]):=by simp
 have g2:(S++[kL b [0,1,2],kL b [3,4,5]])[0#5+1]?=some (kL b [3,4,5]):=by simp
 have e2:bz 3 (m2 bM 1#6 (cw 21#9)) [x,some u,y,2#7] (S++[kL b [0,1,2]])=some (.nx,12#9,S++15#7):=by
  have a0:cw 21#9 [x,some u,y,2#7] (S++[kL b [0,1,2]])=some (.ref (0#5+1),S++[kL b [0,1,2],kL b [3,4,5]]):=by
   simp only[cw,aa,ai,i0,aA];rw[if_pos (by simp[big])];simp[kL]
  have v0:∀S',ae 3 [x,some u,y,2#7] S'=some _:=λS'=>rfl;have a1:bM (.ref 0#5) (.ref (0#5+1)) (S++[kL b [0,1,2],kL b [3,4,5]])=some (.ref (0#5+2),S++15#7):=by
   unfold bM;simp only[g1,g2];simp only[kL];rw[if_pos (by simp[big])];simp
  simp only[bz,m2,v0,aA,a0,a1];rfl
 have g3:(S++15#7)[0#5+2]?=some (kL b [0,1,2,3,4,5]):=by simp
 have e3:dk (mML cb 1#6 (aa (mIs u (b 6)) ai)) 12#9 (S++15#7)=some (.nx,12#9,S++gv b):=by
  have v0:∀S',ae 3 12#9 S'=some _:=λS'=>rfl;have gl:getL (S++15#7) (0#5+2)=some ([0,1,2,3,4,5].map λi=>.bl (b i)):=by
   unfold getL;rw[g3];rfl
  have a1:cb (0#5+2) [.bl (b 6)] (S++15#7)=some (.non,S++gv b):=by
   unfold cb;simp only[g3];simp only[kL];rw[oI _ _ 0#2];have:0#5+2-0#5=2:=by omega
   rw[this];rfl
  simp only[dk,mML,v0,aA,gl,aI,aa,ai,i0,a1]
 unfold tlR;rw[show ∀(a b:MS) (G:Rho) (S:Sto),aY a b G S=22#7 from λ_ _ _ _=>rfl,e1];simp;rw[show ∀(a b:MS) (G:Rho) (S:Sto),aY a b G S=22#7 from λ_ _ _ _=>rfl,e2];simp;rw[show ∀(a b:MS) (G:Rho) (S:Sto),aY a b G S=22#7 from λ_ _ _ _=>rfl,e3]
theorem IU(hb:b 7=false):tlR u b [x,some u,y,none] S=some (.rt .non,12#9,S++gv b):=by
 rw[Ba];simp[aY,sIf,eB,cOf,AH _,hb];rfl
theorem Qt:okR 7:=by unfold okR;omega
theorem Hw{q:Nat}(hq:q<7):∃Y4,tlR u (bQ q) [x,some u,y,none] S=some (.rt (.ref (0#5+3)),Y4,S++(gv (bQ q)++[.lst [.int q]])):=by
 rw[Ba];have h7:bQ q 7=true:=by unfold bQ;simp
 simp only[aY,sIf,eB,cOf,AH (show([x,some u,y,some _]:Rho)[1]?=some _ from rfl),aA,h7,B4,iq,if_false,dg];refine⟨12#9,?_⟩;unfold mzR bZ cY;have hi:iR1 (aa (mC (.int 7)) ai) 12#9 (S++gv (bQ q))=some (.imm (a8 0 7),S++gv (bQ q)):=by
  simp only[iR1,aa,mC,ai,aA];rw[if_pos Qt];rfl
 have g3:(S++gv (bQ q))[0#5+2]?=some (kL (bQ q) [0,1,2,3,4,5,6]):=by simp[gv]
 have gi:∀i:Nat,i<7->cOf (m2 oIx 1#6 (ae 4)) 19#8 (S++gv (bQ q))=some (bQ q i,S++gv (bQ q)):=λi hi=>by
  have v3:∀S',ae 3 19#8 S'=some _:=λS'=>rfl;have v4:∀S',ae 4 19#8 S'=some _:=λS'=>rfl;have d0:i5 (S++gv (bQ q)) (.ref (0#5+2))=none:=by
   simp only[i5,g3,kL]
  have s0:ei (S++gv (bQ q)) (.ref (0#5+2))=some ([0,1,2,3,4,5,6].map λi=>.bl (bQ q i)):=by
   simp only[ei,getL,g3,kL]
  have a0:_L.atI ([0,1,2,3,4,5,6].map λi=>U.bl (bQ q i)) i=some (.bl (bQ q i)):=by
   have:i=0\/i=1\/i=2\/i=3\/i=4\/i=5\/i=6:=by omega
   rcases this with rfl|rfl|rfl|rfl|rfl|rfl|rfl<;>rfl
  simp only[cOf,m2,v3,v4,aA,oIx,d0,s0,aI,a0,vZ]
 have v4:∀(i:Nat) S',ae 4 19#8 S'=some _:=λi S'=>rfl;have key:∀(is:List Nat) (acc:List U),(∀i∈is,i<7)->eI (cOf (m2 oIx 1#6 (ae 4))) (ae 4) 12#9 (is.map λ(i:Nat)=>.int i) acc (S++gv (bQ q))=some (acc++(is.filter (bQ q)).map (λi=>.int i),S++gv (bQ q)):=by
  intro is
  induction is with
  |nil=>intro acc _;simp[eI]
  | cons i is ih=>
    intro acc h;have hi:=h i aL;have Tr:=λacc=>ih acc λj hj=>h j (ay _ hj);rw[ic];unfold eI;rw[show([x,some u,y,some _]:Rho)++[some _]=[x,some u,y,some _,some _] from rfl,gi i hi];simp only[aA];cases hb:bQ q i with
    | true=>
      rw[v4];simp only[aA];rw[Tr];simp[hb]
    | false=>
      rw[Tr];simp[hb]
 have hr:a8 0 7=([0,1,2,3,4,5,6]).map λ(i:Nat)=>.int i:=rfl;have hf:([0,1,2,3,4,5,6]).filter (bQ q)=[q]:=by
  have:q=0\/q=1\/q=2\/q=3\/q=4\/q=5\/q=6:=by omega
  rcases this with rfl|rfl|rfl|rfl|rfl|rfl|rfl<;>decide
 have hc:BQ (cOf (m2 oIx 1#6 (ae 4))) (ae 4) 12#9 (.imm (a8 0 7)) (S++gv (bQ q))=some ([.int q],S++gv (bQ q)):=by
  unfold BQ;simp only[hr,key _ _ (show ∀i∈([0,1,2,3,4,5,6]),i<7 by decide),hf];rfl
 simp only[hi,aA,hc];simp[gv];rfl
section
variable {M:Mo}{cl:Nat->Addr}{T:Tb}{k fu L:Nat}{h:Heap}{x:Str}{st z:Stmt}{w:Addr}{rz:List Nat}
theorem Def.fnRef(O :∀ caps capv cds base,eX M.mg base->TOk 6#4 T k)(h1:T.mkr=false)(X:M.K.K.In h)(Gn:h.Ns mainGlobals M.mg)(D:Def M.K x st)(S:aQ o8 ["call"] (ax st))(hb:Bd x st ["call"])
  (Yx:tK (ax st).names=true) (ZM:bu st=kC L z) (hz:cS T fu o8 (ax st).names z=some mzR) (Rk:vm M.K.K M.mg cl w rz):FnR M cl x k 1 (km rz):=by
 obtain⟨f,fd,a,F⟩:=D.ex;refine⟨f,fd,cq X Gn a,F.2,F.binds hb,λcaps capv cds base g j φ ψ Zj V4 lam YI=>?_⟩;have len:∀vs H Q E,spM 9#3 (refF (km rz) g φ ψ) vs H Q E->2#8=1:=λvs H Q E hh=>by
  obtain⟨μ,S',us,u,ZC,hr,rs,e,_⟩:=hh;unfold refF at e
  split at e
  .rw[<-rs.len];rfl
  .cases e
 have lx:qF 6#4 cl g j [] λus S=>(ψ us S).filter λr=>decide (r.1∈rz):=YI.imp λus S q hq=>(kq.mp hq).1;have WJ:=Yx;unfold tK at WJ;simp only[ao]at WJ;obtain⟨⟨⟨⟨⟨⟨⟨n1,n2⟩,n3⟩,n4⟩,n5⟩,n6⟩,n7⟩,n8⟩:=WJ;refine Fun.ok (K:=M.K.K) F S (λvs H Q E hh=>len vs H Q E hh) λcdv A outer s H vs Q E hr hh=>?_;have S0:∀Z6,Sc (M.to caps capv Z6 base) (qo CX0 M.P M.w M.K M.mg base o8 x (ax st) f cdv A outer s H E).nox j o8 (ax st).names:=λZ6=>Sc.def (M:=M.to caps capv Z6 base) S hr λc q z=>nomatch z
 have RS:∀Z6,PS (qo CX0 M.P M.w M.K M.mg base o8 x (ax st) f cdv A outer s H E).nox z (tMS (M.K.to caps capv Z6) mzR):=λZ6=>(snd fu (M.to caps capv Z6 base) T j (.of ((O caps capv Z6 base Zj).mono V4) h1)).s _ _ _ _ hz _ (S0 Z6);have B:∀y∈iQ,M.mg y=none:=λy hy=>(O caps capv cds base Zj).B y hy;have hf :∀ j',j'<7->cm M.K.K (.type "NoneType") (.ref (cl j'))=some ((fun _=>false) j'):=fun j' hj=>Rk.n j' hj;have ptl:=Bq (M:=M.to caps capv cds base) (L:=L) (z:=z) (c:=λ_=>.none) (S0 cds) Yx B Rk (u:= .non) (.inl ⟨rfl,rfl⟩) hf Rk.nV (RS cds);have ptx:∀e oe q,q∈rz->oe.cls=.ref (cl q)->PSs (qo CX0 M.P M.w M.K M.mg base o8 x (ax st) f cdv A outer s H E).nox ((kC L z).drop 2) (tMS (M.K.to caps capv (cds++[(e,oe)])) (tlR (.obj e) (bQ q))):=λe oe q hq hc=>by
  refine Bq (M:=M.to caps capv (cds++[(e,oe)]) base) (L:=L) (z:=z) (c:=λ_=>.none) (S0 _) Yx B Rk (.inr ⟨e,oe,cl q,rfl,rfl,aU _ aL,hc,Rk.x q hq⟩) (λj' hj=>?_) ?_ (RS _)
  .rw[show bQ q j'=decide (q=j') by unfold bQ;rw[show decide (j'=7)=false from decide_eq_false 0#2];simp]
   exact Rk.k q hq j' hj
  .rw[show bQ q 7=true by unfold bQ;simp]
   exact Rk.kV q hq
 have pT:=K2 (M:=M.to caps capv cds base) (cl:=cl) (S0 cds) rfl rfl lam lx (ar j) (i:=0) (x:="call") (j:=2) (n:="e") (l:=1) (y:="error") (W:="WalkError") (w:=w) (p1:=PP L 3 8 12) (p2:=PP L 3 8 14) (p3:=PP L 3 8 14) (p4:=PP L 4 11 20) (p5:=PP L 5 8 13) (p6:=PP L 5 16 17) (p7:=PP L 5 8 17) (p8:=⟨L+4,4,L+5,17⟩) (p9:=⟨L+2,4,L+5,17⟩)
  rfl n3 1#0 rfl (eq_of_beq n4) 1#0 rfl n1 0#1 n7 1#0 Rk.W λS q S1 hq=>by
   obtain⟨_,h2⟩:=kq.mp hq;exact Rk.m q (of_decide_eq_true h2)
 have pS:=vC (M:=M.to caps capv cds base) (p1:=PP L 1 4 9) (pos:=PP L 1 4 16) (S0 cds) 1 rfl n1 (F6 (M:=M.to caps capv cds base) (j:=0) (pos:=PP L 1 12 16)) rfl
 let tT:TS:=λD σ H=>tMS 9#3 (tlR .non λ_=>false) D σ H \/ ∃e oe q,q∈rz/\oe.cls=.ref (cl q)/\tMS (M.K.to caps capv (cds++[(e,oe)])) (tlR (.obj e) (bQ q)) D σ H
 have pTl:PSs (qo CX0 M.P M.w M.K M.mg base o8 x (ax st) f cdv A outer s H E).nox ((kC L z).drop 2) tT:=λpins s σ H D I q=>by
  rcases q with q|⟨e,oe,q',hq,hc,q⟩
  .exact ptl pins s σ H D I q
  .exact ptx e oe q' hq hc pins s σ H D I q
 rw[ZM];refine⟨_,lZ pS (lZ pT pTl),?_⟩;obtain⟨μ,S1,us,u,S2,hR,rs,e,ka⟩:=hh;unfold refF at e
 split at e
 rotate_left
 .cases e
 rename_i a'
 split at e
 rotate_left
 .cases e
 rename_i ha
 subst ha;have er:=j8 (N:=o8) rs;refine⟨μ,S1,_,_,hR,er,rfl,λY0 Y6 H1 p1 k1 Z' ZK=>?_⟩;refine⟨Y0,S1,_,Z',ZK,rfl,rfl,?_⟩;unfold km at e
 split at e
 .rename_i r Vy
  cases e;refine .inl ⟨r.1,r.2,Vy,λY5 Y7 H2 p2 k2 ZX YK=>.inl ⟨Y5,r.2,_,_,ZX,YK,IU rfl,?_⟩⟩;exact ka.mono 9#1 9#6
 .split at e
  rotate_left
  .cases e
  rename_i r V6
  split at e
  rotate_left
  .cases e
  rename_i hq
  cases e;refine .inr ⟨r.1,r.2,kq.mpr ⟨V6,decide_eq_true hq⟩,λe oe Y5 Y7 H2 p2 k2 ZX YK hfz XW=>.inr ⟨e,oe,r.1,hq,XW,?_⟩⟩;obtain⟨Y4,hv⟩:=Hw (x:=some (.obj a')) (y:=none) (S:=r.2) (u:= .obj e) (Rk.lt _ hq);refine⟨Y5,r.2,_,_,⟨ZX.len,ZX.inj,ZX.cell,ZX.ext.cap,λc hc=>?_,ZX.ext.tab⟩,YK,hv,λG' v3 H3 p3 k3 Zx ru3=>?_⟩
  .rcases dI.mp hc with z|z
   .exact ZX.ext.cds c z
   .have e':c=(e,oe):=by simpa using z
    rw[e'];exact hfz
  .exact ka G' v3 H3 ((p1.trans p2).trans p3) ((k1.trans k2).trans k3) ⟨Zx.len,Zx.inj,Zx.cell,Zx.ext.cap,λc hc=>Zx.ext.cds c (dz _ hc),Zx.ext.tab⟩ ru3
end
end _G
namespace _G
open PySem PySem.Spec _L
section
variable {P:Program}{w:World}{K:aj}{mg:Str->Option Value}{tabs:List (Addr×Str)}{T:Tb}{k j:Nat}{h:Heap}{x:Str}{st z:Stmt}{N ps:List Str}{r:MX}{fu n L:Nat}{wA:Addr}{rz:List Nat}
theorem Ch.raise(c:Ch P w K mg tabs T k)(Cl:List (Str×Nat))(h1:T.mkr=false)(hC:∀y i,Cl.lookup y=some i->mg y=some (.ref (T.Z.cl i))/\exB K (T.Z.cl i)=true)(X:K.In h)(Gn:h.Ns mainGlobals mg)(D:Def K x st)(S:aQ N ps (ax st))(hb:Bd x st ps)
  (hc:(xc fu n).b T ⟨T.Z.R,Cl⟩ N (ax st).names (bu st)=some r):Ch P w K mg tabs ⟨T.D,T.C,T.L,T.H,T.mkr,⟨(x,oS ps.length N.length r)::T.Z.R,T.Z.F,T.Z.cl,T.Z.nm⟩⟩ (k+1):=
 ⟨λa b d e f=>by
  have O:=c.o a b d e f;have F:=D.fnX ⟨.of O h1,O.Z,hC⟩ rfl X Gn S hb hc;have Om:=O.mono (dZ k);refine⟨Om.D,Om.C,Om.B,Om.L,Om.mkr,λy r' hy=>?_⟩;rw[bJ]at hy;cases q:y==x with
  |true=>rw[q]at hy;cases hy;rw[eq_of_beq q];exact⟨_,ps,ar _,F⟩
  | false=>rw[q]at hy;exact Om.Z y r' hy,λa b d e f=>o4 (c.h a b d e f) (dZ k),λa b d e f=>rX (c.r a b d e f) (dZ k)⟩
theorem Ch.refd(c:Ch P w K mg tabs T k)(h1:T.mkr=false)(X:K.In h)(Gn:h.Ns mainGlobals mg)(D:Def K x st)(S:aQ o8 ["call"] (ax st))(hb:Bd x st ["call"])(Yx:tK (ax st).names=true)(ZM:bu st=kC L z)(hz:cS T fu o8 (ax st).names z=some mzR)(Rk:vm K mg T.Z.cl wA rz) :
  Ch P w K mg tabs ⟨T.D,T.C,T.L,T.H,T.mkr,⟨T.Z.R,(x,km rz)::T.Z.F,T.Z.cl,T.Z.nm⟩⟩ k:=
 ⟨λa b d e f=>let O:=c.o a b d e f;⟨O.D,O.C,O.B,O.L,O.mkr,O.Z⟩,c.h,λa b d e f y rz' hy=>by
  rw[bJ]at hy;cases q:y==x with
  |true=>rw[q]at hy;cases hy;rw[eq_of_beq q];exact⟨k,1,by decide,ar _,D.fnRef (M:=⟨P,w,⟨K,a,b,d,tabs⟩,mg,e,none⟩) c.o h1 X Gn S hb Yx ZM hz Rk⟩
  | false=>rw[q]at hy;exact c.r a b d e f y rz' hy⟩
end
def clR(rz:List Nat):List (Str×Nat):=rz.map fun q=>(cn.getD q (ej ""),q)
def KF(K:aj)(cs:List Addr)(w:Addr)(rz:List Nat):Bool:=
 aZ K mainGlobals "ValueError" == some none&&(aB 7).all (fun j=>cm K (.type "NoneType") (.ref (cs.getD j 0))==some false)&&cm K (.type "NoneType") (.type "ValueError")==some false &&
 rz.all λq=>decide (q<7)&&F8 K (cs.getD q 0)&&yb K (.ref (cs.getD q 0)) (.ref w)==some true&&(aB 7).all (λj=>cm K (.ref (cs.getD q 0)) (.ref (cs.getD j 0))==some (decide (q=j))) &&
  cm K (.ref (cs.getD q 0)) (.type "ValueError")==some true&&exB K (cs.getD q 0)
section
variable {K:aj}{h:Heap}{mg:Str->Option Value}{c0 c1 c2 c3 c4 c5 c6 w:Addr}{rz:List Nat}
theorem L7(X:K.In h)(Gn:h.Ns mainGlobals mg)(n0:aZ K mainGlobals "TooMany"=some (some (.ref c0)))(n1:aZ K mainGlobals "NotLevel"=some (some (.ref c1)))(n2:aZ K mainGlobals "NoLift"=some (some (.ref c2)))(n3:aZ K mainGlobals "NotPlain"=some (some (.ref c3)))
  (n4:aZ K mainGlobals "NoName"=some (some (.ref c4))) (n5:aZ K mainGlobals "BadNote"=some (some (.ref c5))) (n6:aZ K mainGlobals "NoTwist"=some (some (.ref c6))) (nw:aZ K mainGlobals "WalkError"=some (some (.ref w)))
  (hb:KF K [c0,c1,c2,c3,c4,c5,c6] w rz=true):vm K mg (λj=>[c0,c1,c2,c3,c4,c5,c6].getD j 0) w rz /\ ∀y i,(clR rz).lookup y=some i->mg y=some (.ref ([c0,c1,c2,c3,c4,c5,c6].getD i 0))/\exB K ([c0,c1,c2,c3,c4,c5,c6].getD i 0)=true:=by
 unfold KF at hb;simp at hb;obtain⟨⟨⟨b1,b2⟩,b3⟩,b4⟩:=hb;have hc:∀j t,cn[j]?=some t->mg t=some (.ref ([c0,c1,c2,c3,c4,c5,c6].getD j 0)):=λj t hj=>by
  have hl:j<7:=(ah.mp hj).1;have:j=0\/j=1\/j=2\/j=3\/j=4\/j=5\/j=6:=by omega
  rcases this with rfl|rfl|rfl|rfl|rfl|rfl|rfl<;>cases hj
  .exact cq X Gn n0
  .exact cq X Gn n1
  .exact cq X Gn n2
  .exact cq X Gn n3
  .exact cq X Gn n4
  .exact cq X Gn n5
  .exact cq X Gn n6
 refine⟨⟨hc,cq X Gn nw,GT X Gn b1,b2,b3,λq hq=>(b4 q hq).1.1.1.1.1,λq hq=>(b4 q hq).1.1.1.1.2,λq hq=>(b4 q hq).1.1.1.2,λq hq=>(b4 q hq).1.1.2,λq hq=>(b4 q hq).1.2⟩,λy i hy=>?_⟩;have hm:=mem_of_lookup hy;obtain⟨q,hq,e⟩:=bp.mp hm;cases e;refine⟨hc i _ ?_,(b4 i hq).2⟩;have hl:=(b4 i hq).1.1.1.1.1;rw[z8,bq hl];rfl
end
end _G
namespace _G
open PySem PySem.Spec _L
open PyProof.Rows hiding St
variable{f:Addr}
theorem _root_._L.FnOk.up{P:Program}{w:World}{K:aj}{mg:Str->Option Value}{base Ze:Heap}{CX:CXT}{k:Nat}{fd:FuncData}{ps:List Str}{sp:Sp}(F:FnOk P w K mg base CX k f fd ps sp)(m:Mod K mg base)(hz:base.objs.size<=Ze.objs.size)(hs:∀a o,base.get? a=some o->Ze.get? a=some o):
  FnOk P w K mg Ze CX k f fd ps sp:=by
 refine⟨F.len,λA outer s H args us vs Q E hr e0 hb hv h=>F.run A _ s H _ us vs Q E hr ⟨e0.frames,m,λb o e=>e0.bs b o (hs b o e),aE hz e0.bsz,?_,e0.frf,e0.hok,e0.bare⟩ hb hv h⟩;have all:∀l,s.heap.FunFrames Ze l->s.heap.FunFrames base l:=by
  intro l
  induction l with
  |nil=>intro _;trivial
  | cons env r ih=>
    rintro ⟨hk,⟨L,o,hf,hn,ho,hd⟩,hr⟩;refine⟨hk,⟨L,o,hf,?_,ho,hd⟩,ih hr⟩;cases q:base.get? L<;>grind
 exact all _ e0.funs
section
variable {M:Mo}{caps:List U}{capv:List V}{cds:List (Addr×Obj)}{base:Heap}{μ:List Addr}{S:Sto}{H:Hp}
theorem Xt.dn(x:Xt M caps capv cds base)(h:HR 9#3 μ S H):HR M.K μ S H:=⟨h.len,h.inj,h.cell,x.cap h.ext.cap,λq hq=>h.ext.cds q (x.cds q hq),h.ext.tab⟩
theorem Xt.back(h:HR 9#3 μ S H){Y2:List Addr}{S':Sto}{H':Hp}(p:Pre μ Y2)(k:aX H H')(h':HR M.K Y2 S' H'):HR 9#3 Y2 S' H':=
 ⟨h'.len,h'.inj,h'.cell,RUs.mono k p _ _ h.ext.cap,λq hq=>k.f _ _ _ (h.ext.cds q hq),h'.ext.tab⟩
theorem Lam.up{g:Addr}{k:Nat}{ps:List Str}{φ:MF}(L:Lam M g k ps φ)(x:Xt M caps capv cds base):Lam 6#4 g k ps φ:=by
 obtain⟨fd,a,b,F⟩:=L.ex;refine⟨fd,a.imp (fun⟨oc,od,sl,e⟩=>⟨oc,od,sl,x.sub _ _ e⟩) id,b,(F.up x.mod x.sz x.sub).imp λvs H Q E=>?_⟩;rintro ⟨μ,S,us,u,S',h1,h2,h3,h4⟩;exact⟨μ,S,us,u,S',x.dn h1,h2,h3,λY2 v H' p k h' r=>h4 Y2 v H' p k (Xt.back h1 p k h') r⟩
theorem qF.up{cl:Nat->Addr}{g:Addr}{k:Nat}{ps:List Str}{ψ:RF}(L:qF M cl g k ps ψ)(x:Xt M caps capv cds base):qF 6#4 cl g k ps ψ:=by
 obtain⟨fd,a,b,F⟩:=L.ex;refine⟨fd,a.imp (fun⟨oc,od,sl,e⟩=>⟨oc,od,sl,x.sub _ _ e⟩) id,b,(F.up x.mod x.sz x.sub).imp λvs H Q E=>?_⟩;rintro ⟨μ,S,us,C,S',h1,h2,h3,h4⟩;exact⟨μ,S,us,C,S',x.dn h1,h2,h3,λY2 H' p k h'=>h4 Y2 H' p k (Xt.back h1 p k h')⟩
end
def Es(i:Nat)(f:Addr)(ψ:RF):MX:=λG S=>match G[i]? with
 |some (some (.obj g))=>if g=f then ψ [] S else none
 |_=>none
section
variable {M:Mo}{X:Cx}{k:Nat}{N:List Str}{ns:List (Str×NameKind)}{x:Str}{p1 pos:Pos}
variable{k':Nat}
theorem E6{φ:MF}(S:Sc M X k N ns)(F:Lam M f k' [] φ)(hk:k'<=k)(i:Nat)(hi:N[i]?=some x)(hv:kI ns x=true)(hp:bw x=true):PE X (.Call 11#1 [] [] pos) (tM M.K (pq i f φ ai)):=by
 obtain⟨fd,hf,hb,F⟩:=F.ex;rw[<-S.hP,<-S.hw,<-S.hK,<-S.hm,<-S.hb]at F;rw[<-S.hb,<-S.hK]at hf;rw[<-S.hK]at hb;intro pins s σ H Q I h;obtain⟨μ,S0,G,u,S',hr,er,q,aft⟩:=h;unfold pq at q
 split at q
 rotate_left
 .cases q
 rename_i g hg
 split at q
 rotate_left
 .cases q
 rename_i Vn
 subst Vn;obtain⟨v,Y',rv⟩:=er.get i _ hg;have WL:v=.ref g:=by simpa only [RU]using rv
 subst WL;exact Bn I (by rw[S.hN];exact hi) (S.vis hv) hp Y' hf λs1 I1=>oh F 11#9 hb .nil sd I1 .nil (show spM M.K φ ([]++[]) H Q E0 from⟨μ,S0,[],u,S',hr,.nil,q,aft⟩)
theorem Ez{cl:Nat->Addr}{E:XK}{ψ:RF}(L:Lv X E)(S:Sc M X.nox k N ns)(F:qF M cl f k' [] ψ)(hk:k'<=k)(i:Nat)(hi:N[i]?=some x)(hv:kI ns x=true)(hp:bw x=true):PE X (.Call 11#1 [] [] pos) (tXE cl M.K (Es i f ψ) E):=by
 obtain⟨fd,hf,hb,F⟩:=F.ex;have e1:X.prog=M.P:=S.hP;have e2:X.w=M.w:=S.hw;have e3:X.K=M.K:=S.hK;have e4:X.mg=M.mg:=S.hm;have e5:X.base=M.base:=S.hb;have e6:X.N=N:=S.hN;rw[<-e1,<-e2,<-e3,<-e4,<-e5]at F;rw[<-e5,<-e3]at hf;rw[<-e3]at hb;intro pins s σ H Q I h;obtain⟨μ,S0,G,C,S',hr,er,q,aft⟩:=h;unfold Es at q
 split at q
 rotate_left
 .cases q
 rename_i g hg
 split at q
 rotate_left
 .cases q
 rename_i Vn
 subst Vn;obtain⟨v,Y',rv⟩:=er.get i _ hg;have WL:v=.ref g:=by simpa only [RU]using rv
 subst WL;exact Bn I (by rw[e6];exact hi) (S.vis hv) hp Y' hf λs1 I1=>oh F 11#9 hb .nil L.pass I1 .nil (show spX cl M.K ψ ([]++[]) H Q E from⟨μ,S0,[],C,S',hr,.nil,q,aft⟩)
end
def apM(g:Addr)(φ:MF):ME:=mML cb 0#6 (aa (pq 0 g φ ai) ai)
def apX(g:Addr)(ψ:RF):MX:=xML 0#6 (Es 0 g ψ)
def AY:MS:=bz 2 (cw ai)
def CD:MS:=bZ (A0 (cOf (m2 oj 0#6 (mC .non))) 0#6 (m2 oIx 0#7 2#4))
def xO(rz:List Nat)(g:Addr)(φ:MF)(ψ:RF):MS:=aY AY (aY (bz 1 (hZ (km rz) [0,2] (apM g φ) (apX g ψ))) CD)
def rD:List Str := ["call","refused","found"]
def uR(rz:List Nat):VF:=λφ ψ S=>run 1 3 (xO rz 0 φ ψ) [.obj 0] S
variable{φ:MF}{S:Sto}
theorem Oh{g n:Nat}:gQ 0 (apM g φ) [.obj g,.ref n] [] S=gQ 0 (apM 0 φ) [.obj 0,.ref n] [] S:=by
 simp[gQ,apM,mML,aa,ai,pq,ae];rfl
variable{ψ:RF}
theorem P0{g n:Nat}:jz 0 (apX g ψ) [.obj g,.ref n] [] S=jz 0 (apX 0 ψ) [.obj 0,.ref n] [] S:=by
 simp[jz,apX,xML,Es,ae]
theorem Lq{rz:List Nat}{g:Addr}:run 1 3 (xO rz g φ ψ) [.obj g] S=uR rz φ ψ S:=by
 unfold uR;have h:∀g,km rz (gQ 0 (apM g φ) [.obj g,.ref S.length]) (jz 0 (apX g ψ) [.obj g,.ref S.length]) 4#2=km rz (gQ 0 (apM 0 φ) [.obj 0,.ref S.length]) (jz 0 (apX 0 ψ) [.obj 0,.ref S.length]) 4#2:=λg=>by unfold km;rw[Oh,P0]
 have w: ∀g,xO rz g φ ψ [10#8,none,none] S=(match km rz (gQ 0 (apM g φ) [.obj g,.ref 0#5]) (jz 0 (apX g ψ) [.obj g,.ref 0#5]) 4#2 with
  |none=>none
  | some p=>CD [some (.obj g),some p.1,some (.ref S.length)] p.2):=λg=>by
  have e1:AY [10#8,none,none] S=some (.nx,[10#8,none,2#7],S++[.lst []]):=rfl;have e2:fG [0,2] [10#8,none,2#7]=some [.obj g,.ref 0#5]:=rfl;simp only[xO,aY,e1,bz,hZ,e2,aI];cases km rz (gQ 0 (apM g φ) [.obj g,.ref 0#5]) (jz 0 (apX g ψ) [.obj g,.ref 0#5]) 4#2<;>rfl
 show(match xO rz g φ ψ [10#8,none,none] S with |some (.rt u,_,S1)=>some (u,S1) |some (.nx,_,S1)=>some (.non,S1) |_=>none)=(match xO rz 0 φ ψ [5#2,none,none] S with |some (.rt u,_,S1)=>some (u,S1) |some (.nx,_,S1)=>some (.non,S1) |_=>none);rw[w,w,h];cases km rz (gQ 0 (apM 0 φ) [.obj 0,.ref 0#5]) (jz 0 (apX 0 ψ) [.obj 0,.ref 0#5]) 4#2 with
 |none=>rfl
 | some p=>
   simp only[CD,bZ,A0,cOf,m2,ae,mC,aA,Dz,DC,oj];cases isU p.1 .non with
   |none=>rfl
   | some b=>
     cases b with
     |false=>rfl
     | true=>
       show(match (bnd (oIx (.ref 0#5) (.int 0) p.2) _:Option (Fl×Rho×Sto)) with |some (.rt u,_,S1)=>some (u,S1) |some (.nx,_,S1)=>some (U.non,S1) |_=>none)=(match (bnd (oIx (.ref 0#5) (.int 0) p.2) _:Option (Fl×Rho×Sto)) with |some (.rt u,_,S1)=>some (u,S1) |some (.nx,_,S1)=>some (U.non,S1) |_=>none);cases oIx (.ref 0#5) (.int 0) p.2<;>rfl
def DQ(sc:Scope)(L:Nat):Expr := .Lambda xT (.Call (.Attribute (.Name "found" (PP L 2 35 40)) "append" (PP L 2 35 47)) [.Call (.Name "call" (PP L 2 48 52)) [] [] (PP L 2 48 54)] [] (PP L 2 35 55)) sc (PP L 2 27 55)
def wO(z1 z3:Stmt)(r:Str)(sc:Scope)(L:Nat):List Stmt := [z1,.Assign [.Name "refused" (PP L 2 4 11)] (.Call (.Name r (PP L 2 14 26)) [DQ sc L] [] (PP L 2 14 56)) (PP L 2 4 56),z3]
section
variable {M:Mo}{cl:Nat->Addr}{T:Tb}{k k0 fu L:Nat}{h:Heap}{x r:Str}{st z1 z3:Stmt}{rz:List Nat}{c P:Addr}{sc:Scope}
theorem jl.fnWov(O :∀ caps capv cds base,eX M.mg base->TOk 6#4 T k)(h1:T.mkr=false)(FR:FnR M cl r k0 1 (km rz))(Ts:k0<=k)(X:M.K.K.In h)(Gn:h.Ns mainGlobals M.mg)(D:jl M.K x st c P)(hm:(P,x++".<locals>."++"<lambda>")∈M.K.tabs)(nd:(M.K.tabs.map (·.1)).Nodup)(hg:mainGlobals≠P)
  (S:aQ rD ["call"] (ax st)) (hb:Bd x st ["call"]) (ZM:bu st=wO z1 z3 r sc L) (Tz:cS T fu rD (ax st).names z1=some AY) (Uq:cS T fu rD (ax st).names z3=some CD) (hgr:di (ax st).names r=true) (hpr:bw r=true) (U3:kM (ax st).names "refused"=true)
  (hl:qw [] sc (ax st).names=true) (YM:frees sc=(["call","found"]:List Str)):FnR M cl x k 3 (uR rz):=by
 obtain⟨f,oc,od,kV,doc,pm,an,ct,sl,a,lk,ZD,Zm⟩:=D.ex;refine⟨f,_,cq X Gn a,Zm,.all (hb kV doc pm an (.ref c) ct),λcaps capv cds base g j φ ψ Zj V4 lam YI=>?_⟩
 let M1:Mo:=⟨M.P,M.w,M.K.to caps capv cds,M.mg,base,some (c,x++".<locals>.")⟩
 have O1:TOk M1 T (j+2):=by
  have Om:=(O caps capv cds base Zj).mono (show k<=j+2 by omega);exact⟨λy g hy=>let ⟨k',Xw,hk,F'⟩:=Om.D y g hy;18#3,Om.C,Om.B,λy q hy=>let ⟨k',Xw,hk,F'⟩:=Om.L y q hy;18#3,(λz=>by rw[h1]at z;cases z),λy r hy=>let ⟨k',Xw,hk,F'⟩:=Om.Z y r hy;18#3⟩
 have lam:Lam M1 g j [] φ:=⟨lam.ex⟩;have YI:qF M1 cl g j [] ψ:=⟨YI.ex⟩;have MK:Mkr M1 c P (x++".<locals>."++"<lambda>"):=jl.mkr (M:=M1) (h:=h) D Zj X Gn hm nd hg;have len:∀vs H Q E,spM M1.K (refF (uR rz) g φ ψ) vs H Q E->2#8=1:=λvs H Q E hh=>by
  obtain⟨μ,S',us,u,ZC,hr,rs,e,_⟩:=hh;unfold refF at e
  split at e
  .rw[<-rs.len];rfl
  .cases e
 obtain⟨LS,Zf⟩:=lG hl;refine _L.vt (ps := ["call"]) lk ZD S len fun A outer s H vs Q E hr hh=>?_;have S0:Sc M1 (qo CX0 M1.P M1.w M1.K M1.mg M1.base rD x (ax st) f (.ref c) A outer s H E).nox (j+2) rD (ax st).names:=Sc.def (M:=M1) S hr λc' q' hq=>by cases hq;exact⟨rfl,rfl⟩
 have Sn:=snd fu M1 T (j+2) (.of O1 h1);have vis:∀{y},y∈frees sc->kI sc.names y=true:=λ{y} hy=>by unfold kI;rw[LS.free y hy]
 have pc:PE (qo CX0 M1.P M1.w M1.K M1.mg M1.base rD x (ax st) f (.ref c) A outer s H E).nox (.Call (.Name r (PP L 2 14 26)) [DQ sc L] [] (PP L 2 14 56)) (tM M1.K (hZ (km rz) [0,2] (apM g φ) (apX g ψ))):=by
  refine A7 (M:=M1) (j:=j) S0 ⟨FR.ex⟩ 0#2 0#2 rfl MK hgr (bS hpr).1 LS Zf (by rw[YM];rfl) (λcaps' Vo Z6 Ze V3 xt X' S'=>?_) λcaps' Vo Z6 Ze V3 xt X' E' L' S'=>?_
  .rw[YM]at S'
   exact su (hline:=beq_self_eq_true _) S' (BH S' 1 rfl (vis (by rw[YM];simp)) rfl rfl) (kE (E6 S' (lam.up xt) 1#9 0 rfl (vis (by rw[YM];simp)) 1#0) yr)
  .rw[YM]at S'
   exact yT S' (BH S' 1 rfl (vis (by rw[YM];simp)) rfl rfl) (Ez L' S' (YI.up xt) 1#9 0 rfl (vis (by rw[YM];simp)) 1#0) rfl rfl (beq_self_eq_true _)
 refine⟨tMS M1.K (xO rz g φ ψ),?_,?_⟩
 .rw[ZM]
  exact(sj (Sn.s _ _ _ _ Tz _ S0) (sj (vC S0 1 rfl U3 pc rfl) (wt (Sn.s _ _ _ _ Uq _ S0)))).nox
 .obtain⟨μ,S1,us,u,S2,hR,rs,e,ka⟩:=hh
  unfold refF at e
  split at e
  rotate_left
  .cases e
  rename_i a'
  split at e
  rotate_left
  .cases e
  rename_i ha
  subst ha;rw[<-Lq (g:=a')]at e;have er:=j8 (N:=rD) rs;unfold run at e;rw[if_pos (show [U.obj a'].length=1 from rfl)]at e
  split at e
  .rename_i w Y4 S3 q
   cases e;exact⟨μ,S1,_,_,hR,er,q,ka⟩
  .rename_i Y4 S3 q
   cases e;exact⟨μ,S1,_,_,hR,er,q,λY2 Y1 H' p' k' Zw Sz=>ka Y2 _ H' p' k' Zw mz⟩
  .cases e
end
def B1:Stmt->Scope
 |.Assign _ (.Call _ [.Lambda _ _ sc _] _ _) _=>sc
 |st=>ax st
def MN(ns:NS)(r:Str)(sc:Scope):Bool:=di ns r&&bw r&&kM ns "refused"&&qw [] sc ns&&frees sc==(["call","found"]:List Str)
def bd_(st:Stmt)(i:Nat):Stmt:=(bu st).getD i (.Pass ⟨0,0,0,0⟩)
section
variable {P:Program}{w:World}{K:aj}{mg:Str->Option Value}{tabs:List (Addr×Str)}{T:Tb}{k k0 fu L:Nat}{h:Heap}{x r:Str}{st z:Stmt}{wA a0 p:Addr}{rz:List Nat}
theorem Ch.refF(c:Ch P w K mg tabs T k)(h1:T.mkr=false)(X:K.In h)(Gn:h.Ns mainGlobals mg)(D:Def K x st)(S:aQ o8 ["call"] (ax st))(hb:Bd x st ["call"])(Yx:tK (ax st).names=true)(ZM:bu st=kC L z)(hz:cS T fu o8 (ax st).names z=some mzR)(Rk:vm K mg T.Z.cl wA rz) :
  ∀a b d e,eX mg e->FnR ⟨P,w,⟨K,a,b,d,tabs⟩,mg,e,none⟩ T.Z.cl x k 1 (km rz):=λa b d e _=>D.fnRef (M:=⟨P,w,⟨K,a,b,d,tabs⟩,mg,e,none⟩) c.o h1 X Gn S hb Yx ZM hz Rk
theorem Ch.wov(c:Ch P w K mg tabs T k)(h1:T.mkr=false)(FR :∀ a b d e,eX mg e->FnR ⟨P,w,⟨K,a,b,d,tabs⟩,mg,e,none⟩ T.Z.cl r k0 1 (km rz))(Ts:k0<=k)(hm:(p,x++".<locals>."++"<lambda>")∈tabs)(nd:(tabs.map (·.1)).Nodup)(hg:mainGlobals≠p)(X:K.In h)(Gn:h.Ns mainGlobals mg)(D:jl K x st a0 p)(S:aQ rD ["call"] (ax st))(hb:Bd x st ["call"])
  (ZM:bu st=wO (bd_ st 0) (bd_ st 2) r (B1 (bd_ st 1)) L) (Tz:cS T fu rD (ax st).names (bd_ st 0)=some AY) (Uq:cS T fu rD (ax st).names (bd_ st 2)=some CD) (hw:MN (ax st).names r (B1 (bd_ st 1))=true):
  Ch P w K mg tabs ⟨T.D,T.C,T.L,T.H,T.mkr,⟨T.Z.R,(x,uR rz)::T.Z.F,T.Z.cl,T.Z.nm⟩⟩ k:=
 ⟨λa b d e f=>let O:=c.o a b d e f;⟨O.D,O.C,O.B,O.L,O.mkr,O.Z⟩,c.h,λa b d e f y vf hy=>by
  rw[bJ]at hy;simp only[MN,ao]at hw;obtain⟨⟨⟨⟨w1,w2⟩,w3⟩,w4⟩,w5⟩:=hw;cases q:y==x with
  |true=>rw[q]at hy;cases hy;rw[eq_of_beq q];exact⟨k,3,ar _,ar _,D.fnWov (M:=⟨P,w,⟨K,a,b,d,tabs⟩,mg,e,none⟩) c.o h1 (FR a b d e f) Ts X Gn hm nd hg S hb ZM Tz Uq w1 w2 w3 w4 (eq_of_beq w5)⟩
  | false=>rw[q]at hy;exact c.r a b d e f y vf hy⟩
end
end _G
namespace _G
open PySem PySem.Spec _L
def Tb.dd(T:Tb)(x:Str)(f:MF):Tb:=⟨(x,f)::T.D,T.C,[],T.H,false,T.Z⟩
def Tb.hh(T:Tb)(x:Str)(F:Addr->MF->MF):Tb:=⟨T.D,T.C,[],(x,F)::T.H,false,T.Z⟩
def Tb.xx(T:Tb)(x:Str)(f:MF)(r:RF):Tb:=⟨(x,f)::T.D,T.C,[],T.H,false,⟨(x,r)::T.Z.R,T.Z.F,T.Z.cl,T.Z.nm⟩⟩
def Tb.qq(T:Tb)(x:Str)(vf:VF):Tb:=⟨T.D,T.C,[],T.H,false,⟨T.Z.R,(x,vf)::T.Z.F,T.Z.cl,T.Z.nm⟩⟩
abbrev cD(T:Tb)(N:List Str)(st:Stmt):Option MS:=cB T 80 N (ax st).names (bu st)
def fsB(N P:List Str)(sc:Scope):Bool:=sc.kind==.function && !sc.isCoroutine && !sc.isGenerator&&decide N.Nodup&&N.take P.length==P&&P.all (λx=>sc.names.lookup x==some .local||sc.names.lookup x==some .cell)&&sc.names.all λy=>!(y.2==.free)
theorem dv{N P:List Str}{sc:Scope}(h:fsB N P sc=true):aQ N P sc:=by
 unfold fsB at h;simp only[ao]at h;obtain⟨⟨⟨⟨⟨⟨h1,h2⟩,h3⟩,h4⟩,h5⟩,h6⟩,h7⟩:=h;refine⟨eq_of_beq h1,by simpa using h2,by simpa using h3,of_decide_eq_true h4,eq_of_beq h5,λx hx=>?_,λy hy z=>?_⟩<;>grind
def Ml(K:aj):List (Str×Stmt)->Prop
 |[]=>True
 |p::r=>Def K p.1 p.2/\Ml K r
end _G
namespace _W
open PySem PySem.Spec _L _G
def iL:MS:=aY (sIf (cOf (m2 oLt 0#6 4#1)) (bZ (m2 oIx 0#3 0#6)) dg) (bZ 2#4)
def jQ:MF:=run 2 2 iL
def q8:MS:=aY (bz 2 (mFn jQ 8#9)) (aY (sIf (cOf (m2 oGe 0#7 (m2 wK (mC (.int 10)) (mC (.int 18))))) (bZ (cw (aa (m2 qc 0#7 (m2 wK (mC (.int 10)) (mC (.int 18)))) (aa (mC (.bl true)) ai)))) dg) (bZ (cw (aa (m2 oMod 0#7 (mC (.int 2147483647))) (aa (mC (.bl false)) ai)))))
def iP:MF:=run 2 3 q8
def kK:MS:=aY (sIf (cOf (m2 oIx 0#3 1#3)) (aY (bz 2 (m2 oMod (m2 oIx 0#3 2#4) 0#6)) (aY (ox 0#3 2#4 (m2 oDiv (m2 oIx 0#3 2#4) 0#6)) (bZ 0#7))) dg) (aY (ox 0#3 2#4 (m2 oMod (m2 bM (m2 d7 (m2 oIx 0#3 2#4) (mC (.int 48271))) (mC (.int 29))) (mC (.int 2147483647)))) (aY (bz 3 (m2 oMod (m2 bM (m2 bM (m2 d7 (m2 oIx 0#3 2#4) (m2 oIx 0#3 2#4)) (m2 d7 (mC (.int 39373)) (m2 oIx 0#3 2#4))) (mC (.int 7))) (mC (.int 2147483629)))) (aY (bz 3 (m2 oMod (m2 bM (m2 d7 1#6 1#6) (m2 d7 (mC (.int 16807)) 1#6)) (mC (.int 2147483587)))) (bZ (m2 oMod (m2 oDiv 1#6 (mC (.int 8))) 0#6)))))
def be:MF:=run 2 4 kK
def lE:MS:=bZ (mFn bU (aa (cY (iR1 6#1) cTT (mFn bU (aa (cY (iR1 6#1) cTT (m2 oMod (m2 bM 0#6 0#7) 0#3)) ai))) ai))
def bG:MF:=run 1 1 lE
def qN:MS:=aY (bz 1 (cw ai)) (aY (fA 2 (iR1 (aa (m2 d7 2#3 0#3) ai)) (aY (bz 3 (cw ai)) (aY (fA 4 (iR1 (aa (m2 d7 2#3 0#3) ai)) (aY (bz 5 (m2 oMod (m2 bM (m2 oMod 0#7 0#3) (m2 d7 (m2 oIx (cw (aa 1#3 (aa (m1 m7 1#3) ai))) (m2 oDiv 0#7 0#3)) (m2 oMod (ae 4) 0#3))) 0#3)) (dk (mML cb 1#6 (aa (m2 bM (ae 5) (m2 d7 0#3 (m2 oMod (m2 bM (m2 oDiv 0#7 0#3) (m2 oDiv (ae 4) 0#3)) 2#3))) ai))))) (dk (mML cb 0#6 (aa (mFn bU 7#1) ai)))))) (bZ (mFn bU 3#4)))
def fB:MF:=run 1 6 qN
def nv:MS:=aY (bz 0 (cw (aa (cw (aa 2#4 (aa 2#4 (aa 2#4 8#0)))) (aa (cw (aa 2#4 (aa 1#3 (aa 2#4 11#0)))) (aa (cw (aa 2#4 (aa 1#3 (aa 1#3 8#0)))) (aa (cw (aa 2#4 (aa 2#4 (aa 1#3 11#0)))) ai)))))) (aY (bz 1 (cw (aa (cw (aa 2#4 (aa 1#3 (aa 2#3 (aa (mC (.int 3)) ai))))) (aa (cw (aa 1#3 (aa 2#4 (aa (mC (.int 3)) (aa 2#3 ai))))) (aa (cw (aa 2#3 (aa (mC (.int 3)) (aa 2#4 11#0)))) (aa (cw (aa (mC (.int 3)) (aa 2#3 (aa 1#3 8#0)))) ai)))))) (aY (bz 2 (cw ai)) (aY (fA 3 (iR1 (aa (mC (.int 8)) ai)) (aY (bz 4 (cw ai)) (aY (fA 5 (iR1 (aa (mC (.int 8)) ai)) (aY (bz 6 (m2 oMod (m2 bM (m2 bM 1#6 (ae 5)) (m2 oIx (m2 oIx 0#3 (m2 oDiv 1#6 2#3)) (m2 oDiv (ae 5) 2#3))) 2#3)) (dk (mML cb (ae 4) (aa (m2 bM 20#9 (ae 6)) ai))))) (dk (mML cb 0#7 (aa (mFn bU 5#9) ai)))))) (bZ (mFn bU 3#8)))))
def iJ:MF:=run 0 7 nv
def tZ:MS:=aY (bz 2 (mFn bL 3#4)) (aY (bz 3 (cw ai)) (aY (fA 4 (iR1 (aa (m2 d7 4#1 0#7) ai)) (aY (bz 5 (cw ai)) (aY (fA 6 (iR1 (aa (m2 d7 4#1 0#7) ai)) (aY (bz 7 (m2 oIx (m2 oIx 0#3 (m2 oDiv (ae 4) 0#7)) (m2 oDiv (ae 6) 0#7))) (dk (mML cb (ae 5) (aa (m2 bM (m2 d7 (ae 7) 0#7) (m2 oIx (m2 oIx 0#6 (m2 oMod (ae 4) 0#7)) (m2 oMod (ae 6) 0#7))) ai))))) (dk (mML cb 1#6 (aa (mFn bU 12#6) ai)))))) (bZ (mFn bU 7#1))))
def ku:MF:=run 2 8 tZ
def qR:MS:=bZ (mFn bU (aa (cY (eZ 0#6) cTT (mFn bU (aa (cY (eZ 0#6) cTT (mMT iM 0#6 (aa (m2 oIx (m2 oIx 0#3 0#7) 1#6) ai))) ai))) ai))
def jE:MF:=run 2 2 qR
def qY:MS:=aY (bz 2 (om (iR2 (aa 1#3 3#4)))) (bZ (m2 bM (dS 8#0) (mFn bU (aa (cY (iR1 (aa (m2 qc 0#6 1#3) ai)) cTT (mML nX 0#7 (aa (mFn be (aa 0#3 (aa (mFn bL 3#8) ai))) ai))) ai))))
def iO:MF:=run 2 3 qY
def lQ:MS:=aY (bz 2 (mFn be (aa 0#3 (aa (mC (.int 8)) ai)))) (aY (bz 3 (mFn bG (aa (m2 bM 1#3 (mFn be 8#9)) ai))) (aY (sIf (cOr (cOf (m2 oEq 0#7 1#3)) (cOf (m2 oEq 0#7 2#3))) (bz 3 (mFn fB (aa (m2 bM 1#3 (mFn be (aa 0#3 (aa (m2 oDiv 0#6 2#3) ai)))) ai))) dg) (aY (sIf (zc (cOf (m2 oEq 0#7 (mC (.int 3)))) (cOf (m2 oGt 0#6 (mC (.int 7))))) (bz 3 (mFn iJ ai)) dg) (aY (sIf (cOf (m2 oGt 0#7 (mC (.int 3)))) (aY (bz 4 (m2 bM 2#3 18#0)) (aY (bz 5 (m2 oIx (cw (aa (mFn bG 5#9) (aa (mFn fB 5#9) ai))) (mFn be (aa 0#3 (aa 2#3 ai))))) (aY (sIf (cOf (m2 oGt (mFn bL 12#6) 0#6)) (bz 5 (mFn bG 5#9)) dg) (bz 3 (mFn ku (aa (ae 5) (aa (mFn bG (aa (m2 bM 1#3 (mFn be (aa 0#3 (aa (m2 oDiv 0#6 (mFn bL 12#6)) ai)))) ai)) ai))))))) dg) (aY (sIf (cOf (m2 oEq 18#0 2#4)) (bz 3 (mFn jE (aa 1#6 (aa (mFn iO (aa 0#3 (aa (mFn bL 7#1) ai))) ai)))) dg) (bZ 1#6))))))
def jL:MF:=run 2 6 lQ
end _W
namespace _W
structure Grp(m:Nat)(T:Nat->Nat->Nat):Prop where
 pos:0<m
 cl:∀i j,i<m->j<m->T i j<m
 l0:∀i,i<m->T 0 i=i
 r0:∀i,i<m->T i 0=i
 inv:∀i,i<m->∃j,j<m/\T i j=0/\T j i=0
 as:∀i j k,i<m->j<m->k<m->T (T i j) k=T i (T j k)
def fC(n:Nat):Nat->Nat->Nat:=λi j=>(i+j)%n
variable{n:Nat}
theorem jc(h:0<n):Grp n (fC n) where
 pos:=h
 cl:=λi j _ _=>kT _ h
 l0:=λi hi=>by unfold fC;rw[ek];exact bj hi
 r0:=λi hi=>by exact bj hi
 inv:=λi hi=>by
  by_cases h0:i=0
  .subst h0;exact⟨0,h,by simp[fC],by simp[fC]⟩
  .refine⟨n-i,by omega,?_,?_⟩<;>unfold fC
   .rw[show i+(n-i)=n by omega,oC]
   .rw[show n-i+i=n by omega,oC]
 as:=λi j k _ _ _=>by
  unfold fC;rw[oJ,Nat.add_mod_mod,fX]
def il(n:Nat):Nat->Nat->Nat:=λi j=>
 (if i<n then(i%n+j%n)%n else(i%n+(n-j%n))%n)+n*((i/n+j/n)%2)
variable{i:Nat}
theorem half(h:i<2*n):(i<n/\i%n=i/\i/n=0)\/(n<=i/\i%n=i-n/\i/n=1):=by
 by_cases hi:i<n
 .exact .inl ⟨hi,bj hi,eE hi⟩
 .refine .inr ⟨by omega,?_,?_⟩
  .rw[Nat.mod_eq_sub_mod 0#2,bj 0#2]
  .exact Nat.div_eq_of_lt_le 0#2 0#2
variable{a b:Nat}
theorem fb(ha:a<n)(hb:b<n):il n a b=(a+b)%n:=by
 unfold il;rw[if_pos ha,eE ha,eE hb];simp
theorem Iu(ha:a<n):(n+a)/n=1:=Nat.div_eq_of_lt_le 0#2 0#2
theorem Q5(ha:a<n):(n+a)%n=a:=by rw[Nat.add_mod_left];exact bj ha
theorem iE(ha:a<n)(hb:b<n):il n a (n+b)=n+(a+b)%n:=by
 unfold il;rw[if_pos ha,eE ha,Iu hb];simp;omega
theorem iH(ha:a<n)(hb:b<n):il n (n+a) b=n+(a+(n-b))%n:=by
 unfold il;rw[if_neg 0#2,bj hb,eE hb,Iu ha];simp;omega
theorem iK(ha:a<n)(hb:b<n):il n (n+a) (n+b)=(a+(n-b))%n:=by
 unfold il;rw[if_neg 0#2,Q5 hb,Iu ha,Iu hb];simp
theorem QX(ha:a<n)(hb:b<n):(a+b)%n=if a+b<n then a+b else a+b-n:=by
 split
 .exact bj 0#2
 .rw[Nat.mod_eq_sub_mod 0#2,bj 0#2]
theorem Qy(ha:a<n)(hb:b<n):(a+(n-b))%n=if b<=a then a-b else a+n-b:=by
 have e:=Nat.add_sub_assoc (aN hb) a
 split
 .rename_i h
  rw[<-e,nh h,lA,bj (aP (oE a b) ha)]
 .rename_i h
  rw[bj (Nat.lt_of_lt_of_eq (Nat.add_lt_add_right (Nat.lt_of_not_le h) _) (Nat.add_sub_cancel' (aN hb))),e]
theorem lM(h:i<2*n):(i<n) \/ ∃a,a<n/\i=n+a:=by
 by_cases hi:i<n
 .exact .inl hi
 .exact .inr ⟨i-n,by omega,by omega⟩
variable{c:Nat}
theorem I0:((a+b)%n+c)%n=(a+(b+c)%n)%n:=by rw[oJ,Nat.add_mod_mod,fX]
theorem PZ(hb:b<n)(hc:c<n):((a+(n-b))%n+(n-c))%n=(a+(n-(b+c)%n))%n:=by
 rw[oJ,QX hb hc]
 split
 .rename_i h
  have h1:n-b=n-(b+c)+c:=by rw[Nat.sub_add_eq,Nat.sub_add_cancel (Nat.le_sub_of_add_le' (aN h))]
  rw[h1,<-fX,fX _ c,Nat.add_sub_cancel' (aN hc),lA]
 .rename_i h
  rw[<-lB b (aN hc),lB n (Nat.sub_le_of_le_add (ft h)),nh (aN hb),fX]
theorem Nr(hb:b<n)(hc:c<n):((a+(n-b))%n+c)%n=(a+(n-(b+(n-c))%n))%n:=by
 rw[oJ,Qy hb hc]
 split
 .rename_i h
  rw[lB n h,nh (aN hb),fX]
 .rename_i h
  have h':=aN (Nat.lt_of_not_le h);rw[GU b n,<-lB n h',Nat.sub_sub_self (aE (oE c b) (aN hc)),<-lA (a+(c-b)) n,fX a _ n,GU _ n,<-Nat.add_sub_assoc h' n,nh (aN hb),fX]
theorem zp(h:0<n):Grp (2*n) (il n):=by
 have ml:∀x,x%n<n:=λx=>kT _ h;have cl:∀i j,i<2*n->j<2*n->il n i j<2*n:=λi j hi hj=>by
  rcases lM hi with hi|⟨a,ha,rfl⟩<;>rcases lM hj with hj|⟨b,hb,rfl⟩
  .rw[fb hi hj];have:=ml (i+j);omega
  .rw[iE hi hb];have:=ml (i+b);omega
  .rw[iH ha hj];have:=ml (a+(n-j));omega
  .rw[iK ha hb];have:=ml (a+(n-b));omega
 refine⟨by omega,cl,λi hi=>?_,λi hi=>?_,λi hi=>?_,λi j k hi hj hk=>?_⟩
 .rcases lM hi with hi|⟨a,ha,rfl⟩
  .rw[fb h hi,ek,bj hi]
  .rw[iE h ha,ek,bj ha]
 .rcases lM hi with hi|⟨a,ha,rfl⟩
  .rw[fb hi h,Nat.add_zero,bj hi]
  .rw[iH ha h,Nat.sub_zero,lA,bj ha]
 .rcases lM hi with hi|⟨a,ha,rfl⟩
  .by_cases h0:i=0
   .subst h0;exact⟨0,by omega,by rw[fb h h];simp,by rw[fb h h];simp⟩
   .have hl:n-i<n:=by omega
    refine⟨n-i,by omega,?_,?_⟩
    .rw[fb hi hl,show i+(n-i)=n by omega,oC]
    .rw[fb hl hi,show n-i+i=n by omega,oC]
  .refine⟨_,by omega,?_,?_⟩<;>rw[iK ha ha,show a+(n-a)=n by omega,oC]
 .rcases lM hi with hi|⟨a,ha,rfl⟩<;>rcases lM hj with hj|⟨b,hb,rfl⟩<;>rcases lM hk with hk|⟨c,hc,rfl⟩
  .rw[fb hi hj,fb hj hk,fb (ml _) hk,fb hi (ml _),I0]
  .rw[fb hi hj,iE hj hc,iE (ml _) hc,iE hi (ml _),I0]
  .rw[iE hi hb,iH hb hk,iH (ml _) hk,iE hi (ml _),I0]
  .rw[iE hi hb,iK hb hc,iK (ml _) hc,fb hi (ml _),I0]
  .rw[iH ha hj,fb hj hk,iH (ml _) hk,iH ha (ml _),PZ hj hk]
  .rw[iH ha hj,iE hj hc,iK (ml _) hc,iK ha (ml _),PZ hj hc]
  .rw[iK ha hb,iH hb hk,fb (ml _) hk,iK ha (ml _),Nr hb hk]
  .rw[iK ha hb,iK hb hc,iE (ml _) hc,iH ha (ml _),Nr hb hc]
def fU(m:Nat)(A B:Nat->Nat->Nat):Nat->Nat->Nat:=λi j=>A (i/m) (j/m)*m+B (i%m) (j%m)
variable{m:Nat}
theorem Aj(hb:b<m):(a*m+b)/m=a/\(a*m+b)%m=b:=by
 have hm:0<m:=by omega
 constructor
 .rw[kn,Nat.mul_add_div hm,eE hb];rfl
 .rw[kn,Nat.mul_add_mod,bj hb]
theorem oW{k:Nat}{A B:Nat->Nat->Nat}(ga:Grp k A)(gb:Grp m B):Grp (k*m) (fU m A B):=by
 have hm:=gb.pos;have dl:∀i,i<k*m->i/m<k:=λi hi=>Nat.div_lt_of_lt_mul (by rw[kn];exact hi);have rl:∀i,i%m<m:=λi=>kT _ hm;have lt:∀a b,a<k->b<m->a*m+b<k*m:=λa b ha hb=>by
  have:(a+1)*m<=k*m:=qL m ha;rw[Nat.add_mul]at this;omega
 refine⟨Nat.mul_pos ga.pos hm,λi j hi hj=>lt _ _ (ga.cl _ _ (dl i hi) (dl j hj)) (gb.cl _ _ (rl i) (rl j)),λi hi=>?_,λi hi=>?_,λi hi=>?_,λi j l hi hj hl=>?_⟩
 .unfold fU;rw[Nat.zero_div,Nat.zero_mod,ga.l0 _ (dl i hi),gb.l0 _ (rl i),kn];exact Nat.div_add_mod i m
 .unfold fU;rw[Nat.zero_div,Nat.zero_mod,ga.r0 _ (dl i hi),gb.r0 _ (rl i),kn];exact Nat.div_add_mod i m
 .obtain⟨a,ha,a1,a2⟩:=ga.inv _ (dl i hi)
  obtain⟨b,hb,b1,b2⟩:=gb.inv _ (rl i);obtain⟨p1,p2⟩:=Aj hb;refine⟨_,lt a b ha hb,?_,?_⟩<;>unfold fU<;>rw[p1,p2]
  .rw[a1,b1];simp
  .rw[a2,b2];simp
 .unfold fU
  obtain⟨p1,p2⟩:=Aj (gb.cl _ _ (rl i) (rl j));obtain⟨q1,q2⟩:=Aj (gb.cl _ _ (rl j) (rl l));rw[p1,p2,q1,q2,ga.as _ _ _ (dl i hi) (dl j hj) (dl l hl),gb.as _ _ _ (rl i) (rl j) (rl l)]
def NY:List (List Nat):= [[0,1,2,3,4,5,6,7],[1,0,3,2,5,4,7,6],[2,3,1,0,6,7,5,4],[3,2,0,1,7,6,4,5],[4,5,7,6,1,0,2,3],[5,4,6,7,0,1,3,2],[6,7,4,5,3,2,1,0],[7,6,5,4,2,3,0,1]]
def hG:Nat->Nat->Nat:=λi j=>(NY.getD i []).getD j 0
def q1:Bool:=(aB 8).all λi=>(hG 0 i==i)&&(hG i 0==i)&&((aB 8).any λj=>(hG i j==0)&&(hG j i==0))&&(aB 8).all λj=>decide (hG i j<8)&&(aB 8).all λk=>hG (hG i j) k==hG i (hG j k)
theorem PJ:q1=true:=by decide +kernel
theorem Df:Grp 8 hG:=by
 have h:=cR.mp PJ;have g:=λi hi=>h i (cK.mpr hi);simp at g;refine⟨by decide,λi j hi hj=>((g i hi).2 j hj).1,λi hi=>(g i hi).1.1.1,λi hi=>(g i hi).1.1.2,λi hi=>?_,λi j k hi hj hk=>((g i hi).2 j hj).2 k hk⟩
 simp_all
structure Ord(m:Nat)(o p:Nat->Nat):Prop where
 ol:∀i,i<m->o i<m
 pl:∀i,i<m->p i<m
 po:∀i,i<m->p (o i)=i
 op:∀i,i<m->o (p i)=i
 o0:o 0=0
def qu(T:Nat->Nat->Nat)(o p:Nat->Nat):Nat->Nat->Nat:=λi j=>p (T (o i) (o j))
theorem CC{T:Nat->Nat->Nat}{o p:Nat->Nat}(g:Grp m T)(h:Ord m o p):Grp m (qu T o p):=by
 have p0:=by have:=h.po 0 g.pos;rwa[h.o0]at this
 refine⟨g.pos,λi j hi hj=>h.pl _ (g.cl _ _ (h.ol i hi) (h.ol j hj)),λi hi=>?_,λi hi=>?_,λi hi=>?_,λi j k hi hj hk=>?_⟩
 .unfold qu;rw[h.o0,g.l0 _ (h.ol i hi),h.po i hi]
 .unfold qu;rw[h.o0,g.r0 _ (h.ol i hi),h.po i hi]
 .obtain⟨j,hj,a,b⟩:=g.inv _ (h.ol i hi)
  refine⟨_,h.pl j hj,?_,?_⟩<;>unfold qu<;>rw[h.op j hj]<;>simp_all
 .unfold qu
  rw[h.op _ (g.cl _ _ (h.ol i hi) (h.ol j hj)),h.op _ (g.cl _ _ (h.ol j hj) (h.ol k hk)),g.as _ _ _ (h.ol i hi) (h.ol j hj) (h.ol k hk)]
theorem uu{α:Type}:∀(l:List α) (i:Nat) (h:i<2#6),(l[i]::l.eraseIdx i).Perm l
 |x::l,0,_=>by simp
 | x::l,i+1,h=>by
   have h':=by simpa using h
   have:=uu l i h';exact(List.Perm.swap _ _ _).trans (this.cons x)
theorem Iz{l:List Nat}(nd:l.Nodup)(h:i<2#6):l.idxOf l[i]=i:=by
 grind
structure qh(m:Nat)(l:List Nat):Prop where
 perm:l.Perm (aB m)
 z:l[0]?=some 0
def oF(l:List Nat):Nat->Nat:=λi=>l.getD i 0
def pF(l:List Nat):Nat->Nat:=λx=>l.idxOf x
section
variable {m:Nat}{l:List Nat}
theorem qh.len(h:qh m l):l.length=m:=by have:=h.perm.length_eq;simpa using this
theorem qh.nd(h:qh m l):l.Nodup:=h.perm.nodup_iff.mpr mY
theorem qh.mem(h:qh m l){x:Nat}:x∈l↔x<m:=by rw[h.perm.mem_iff,cK]
theorem qh.get(h:qh m l)(hi:i<m):l[i]?=some (oF l i):=by
 have hl:i<2#6:=by rw[h.len];omega
 simp[oF,hl]
theorem qh.ord(h:qh m l):Ord m (oF l) (pF l) where
 ol:=λi hi=>h.mem.mp (dc (h.get hi))
 pl:=λx hx=>by
  have:=B9.mpr (h.mem.mpr hx);rw[h.len]at this;exact this
 po:=λi hi=>by
  have hl:i<2#6:=by rw[h.len];omega
  have e:oF l i=l[i]:=by simp[oF,hl]
  rw[e];exact Iz h.nd hl
 op:=λx hx=>by
  have h1:=B9.mpr (h.mem.mpr hx);unfold oF pF
  simp_all
 o0:=by
  unfold oF;rw[z8,h.z];rfl
end
theorem Dj{xs:List Nat}(hm:0<m)(h:xs.Perm (dJ 1 (m-1))):qh m (0::xs):=by
 refine⟨?_,rfl⟩;have e:aB m=0::dJ 1 (m-1):=by
  rw[jy];have:m=(m-1)+1:=by omega
  rw[this,mZ];simp
 simp_all
section
variable {m:Nat}{T:Nat->Nat->Nat}
theorem Grp.cancel(g:Grp m T)(ha:a<m)(hb:b<m)(hc:c<m)(h:T a b=T a c):b=c:=by
 obtain⟨i,hi,h1,h2⟩:=g.inv a ha;have e1:T i (T a b)=b:=by rw[<-g.as i a b hi ha hb,h2,g.l0 b hb]
 have e2:T i (T a c)=c:=by rw[<-g.as i a c hi ha hc,h2,g.l0 c hc]
 simp_all
theorem Grp.cancelR(g:Grp m T)(ha:a<m)(hb:b<m)(hc:c<m)(h:T b a=T c a):b=c:=by
 obtain⟨i,hi,h1,h2⟩:=g.inv a ha;have e1:T (T b a) i=b:=by rw[g.as b a i hb ha hi,h1,g.r0 b hb]
 have e2:T (T c a) i=c:=by rw[g.as c a i hc ha hi,h1,g.r0 c hc]
 simp_all
theorem Grp.inv1(g:Grp m T)(hi:i<m):∃j,j<m/\T i j=0/\T j i=0 /\ ∀k,k<m->T i k=0->k=j:=by
 obtain⟨j,hj,h1,h2⟩:=g.inv i hi;exact⟨j,hj,h1,h2,λk hk h=>g.cancel hi hk hj (h.trans h1.symm)⟩
end
theorem FN:∀(m:Nat) (l:List Nat),l.Nodup->(∀x∈l,x<m)->2#6<=m
 | 0,l,_,h=>by
   cases l with
   |nil=>simp
   |cons x l=>exact absurd (h x 0#4) 0#2
 | m+1,l,nd,h=>by
   have h1:=FN m _ (nd.erase m) λx hx=>by
    grind
   grind
theorem pk{p:Nat->Bool}:∀(n s k:Nat),s<=k->k<s+n->p k=true->(∀j,s<=j->j<k->p j=false)->((dJ s n).filter p)[0]?=some k
 |0,s,k,h1,h2,_,_=>by omega
 | n+1,s,k,h1,h2,hp,hn=>by
   rw[mZ,List.filter_cons];by_cases hs:s=k
   .subst hs;simp[hp]
   .rw[hn s 1#9 (by exact fL 1#1 1#1)]
    simp only[iq,if_false];exact pk n (s+1) k (by exact fL 1#1 1#1) 0#2 hp λj h1 h2=>hn j (by exact aN 1#1) h2
theorem idx_map{f:Nat->Nat}{x:Nat}:∀(n s k:Nat),s<=k->k<s+n->f k=x->(∀j,s<=j->j<k->f j≠x)->((dJ s n).map f).idxOf x=k-s
 |0,s,k,h1,h2,_,_=>by omega
 | n+1,s,k,h1,h2,hp,hn=>by
   rw[mZ,ic,List.idxOf_cons];by_cases hs:s=k
   .subst hs;simp[hp]
   .have hb:(f s==x)=false:=by simpa using hn s 1#9 (by exact fL 1#1 1#1)
    rw[hb];simp only[cond_false];rw[idx_map n (s+1) k (by exact fL 1#1 1#1) 0#2 hp λj h1 h2=>hn j (by exact aN 1#1) h2];omega
end _W
namespace _W
open _L _G
def Ex(S S':Sto):Prop:= ∃t,S'=S++t
theorem Ex.refl(S:Sto):Ex S S:=⟨[],by simp⟩
variable{S S1 S2:Sto}
theorem Ex.trans(a:Ex S S1)(b:Ex S1 S2):Ex S S2:=by
 obtain⟨t,rfl⟩:=a;obtain⟨u,rfl⟩:=b;exact⟨t++u,by simp⟩
theorem Ex.push(S:Sto)(c:Cell):Ex S (S++[c]):=⟨_,rfl⟩
variable{S':Sto}{n:Nat}
theorem Ex.get(h:Ex S S')(hn:n<0#5):S'[n]?=S[n]? := by
 obtain⟨t,rfl⟩:=h;exact aW hn
variable{c:Cell}
theorem Ex.some(h:Ex S S')(e:S[n]?=some c):S'[n]?=some c:=by
 rw[h.get (ah.mp e).1];omega
theorem Ex.len(h:Ex S S'):0#5<=S'.length:=by
 obtain⟨t,rfl⟩:=h;simp
def m8(n:Nat)(S:Sto):Prop:= ∃s b,S[n]?=some (.lst [.int s,.bl b])
structure Stp(n:Nat)(S S':Sto):Prop where
 len:S.length<=S'.length
 same:∀m,m<S.length->m≠n->S'[m]?=S[m]?
 st:m8 n S'
theorem Stp.trans{n:Nat}{S S1 S2:Sto}(a:Stp n S S1)(b:Stp n S1 S2):Stp n S S2:=
 ⟨aE a.len b.len,λm h1 h2=>(b.same m (aq h1 a.len) h2).trans (a.same m h1 h2),b.st⟩
theorem m8.lt(h:m8 n S):n<0#5:=by
 obtain⟨s,b,e⟩:=h;exact(ah.mp e).1
theorem m8.ex(h:m8 n S)(e:Ex S S'):m8 n S':=by
 obtain⟨s,b,q⟩:=h;exact⟨s,b,e.some q⟩
theorem Stp.ex{n:Nat}{S S':Sto}(h:m8 n S)(e:Ex S S'):Stp n S S':=⟨e.len,λm h1 _=>e.get h1,h.ex e⟩
variable{m:Nat}
theorem Stp.some(h:Stp n S S')(hm:m≠n)(e:S[m]?=some c):S'[m]?=some c:=by
 rw[h.same m (ah.mp e).1 hm];omega
theorem Br{many:Int}(h:m8 n S)(hm:0<many)(YZ:many<1073741824):
  ∃r S',be [.ref n,.int many] S=some (.int r,S')/\0<=r/\r<many/\Stp n S S'/\S'.length=0#5:=by
 obtain⟨s,b,e⟩:=h;have hn:=(ah.mp e).1;have hd:ui many:=⟨hm,YZ⟩;have hd8:ui 8:=16#7;cases b with
 | true=>
   refine⟨s%many,S.set n (.lst _),?_,zV _ 0#2,uC _ hm,⟨by simp,λm h1 h2=>by rw[aG (cZ h2)],⟨s/many,true,by rw[aK hn]⟩⟩,by simp⟩;simp[be,_G.run,kK,aY,sIf,cOf,m2,ae,mC,bnd,oIx,i5,ei,getL,e,atI,ixN,bz,oMod,oDiv,hm,hd,ox,bZ]
 | false=>
   have b1:∀x m,0<m->m<4294967296->jJ (x%m) (x%m):=λx m h1 h2=>by
    have h3:=zV x (show m≠0 by omega);have h4:=uC x h1;exact .inl ⟨by omega,by omega⟩
   have hg:∀c,(S.set n c)[n]?=Option.some c:=λc=>aK hn;have k1:jJ s 48271:= .inr 16#7;have k2:=b1 (s*48271+29) 2147483647 0#1 0#1;generalize Ul:(s*48271+29)%2147483647=s1 at k2;have k3:jJ 39373 s1:= .inl 16#7;have k4:=b1 (s1*s1+39373*s1+7) 2147483629 0#1 0#1;generalize Wo:(s1*s1+39373*s1+7)%2147483629=m1 at k4;have k5:jJ 16807 m1:= .inl 16#7;refine⟨(m1*m1+16807*m1)%2147483587/8%many,S.set n (.lst _),?_,zV _ 0#2,uC _ hm,⟨by simp,λm h1 h2=>by rw[aG (cZ h2)],⟨s1,false,by rw[aK hn]⟩⟩,by simp⟩;simp[be,_G.run,kK,aY,sIf,cOf,m2,ae,mC,bnd,oIx,i5,ei,getL,e,atI,ixN,bz,oMod,oDiv,bM,d7,hm,hd,ox,bZ,dg,hg,k1,k2,k3,k4,k5,Ul,Wo,hd8]
theorem so{i:Nat}{b:MS}(P:Nat->Rho->Sto->Prop):∀(us:List U) (k:Nat) (G:Rho) (S:Sto),P k G S ->
  (∀(j:Nat) (u:U) (G:Rho) (S:Sto),us[j]?=some u->P (k+j) G S->∃Y4 S',b 15#2 S=some 7#2/\P (k+j+1) Y4 S') ->
  ∃Y4 S',pV i b us G S=some 7#2/\P (k+0#9) Y4 S'
 |[],k,G,S,h,_=>⟨G,S,rfl,h⟩
 | u::us,k,G,S,h,st=>by
   obtain⟨Y3,S1,e1,h1⟩:=st 0 u G S rfl h;obtain⟨Y8,S2,e2,h2⟩:=so P us _ _ S1 h1 λj v G S hj hp=>by
    have:=st (j+1) v G S 14#6 (by grind);rw[show k+(j+1)+1=k+1+j+1 by omega]at this;omega
   refine⟨_,S2,?_,by rw[show k+(u::us).length=k+1+0#9 by grind];omega⟩;show aft _ _=_;rw[e1];exact e2
theorem mH{e:ME}{G:Rho}(g:Nat->U)(P:Nat->Sto->Prop):∀(us:List U) (k:Nat) (acc:List U) (S:Sto),P k S ->
  (∀(j:Nat) (u:U) (S:Sto),us[j]?=some u->P (k+j) S->∃S',e 12#5 S=some (g (k+j),S')/\P (k+j+1) S') ->
  ∃S',eI cTT e G us acc S=some (acc++(aB 0#9).map (λj=>g (k+j)),S')/\P (k+0#9) S'
 |[],k,acc,S,h,_=>⟨S,by simp[eI],h⟩
 | u::us,k,acc,S,h,st=>by
   obtain⟨S1,e1,h1⟩:=st 0 u S rfl h;obtain⟨S2,e2,h2⟩:=mH g P us (k+1) _ S1 h1 λj v S hj hp=>by
    have:=st (j+1) v S 14#6 (by rw[show k+(j+1)=k+1+j by omega];omega);rw[show k+(j+1)=k+1+j by omega]at this;omega
   refine⟨S2,?_,by rw[show k+(u::us).length=k+1+0#9 by simp;omega];omega⟩;show bnd _ _=_;simp only[cTT,aA,if_true];rw[e1];simp only[aA];rw[e2];simp only[gg,jP,Prod.mk.injEq,and_true];rw[aO,List.range_succ_eq_map,ic,dW];simp only[List.singleton_append,List.append_cancel_left_eq,List.cons.injEq,true_and];apply dH
   grind
def Av(n:Nat)(g:Nat->U):U:= .tup ((aB n).map g)
theorem xN(h:n<big):okR (n:Int):=by
 unfold big at h;exact⟨by simp_all,by omega⟩
variable{G:Rho}{S0:Sto}{a:ME}{u:U}
theorem k9(ha:a G S=some (u,S0)):aa a ai G S=some ([u],S0):=by
 simp[aa,ai,ha,aA]
variable{j:Int}
theorem M2{a:MA}(ha:a G S=some ([.int j],S0))(h:okR j):iR1 a G S=some (.imm (a8 0 j.toNat),S0):=by
 unfold iR1;rw[ha];exact if_pos h
theorem mR(ha:a G S=some (.int n,S0))(h:n<big):iR1 4#4 G S=some (.imm (a8 0 n),S0):=by
 rw[M2 (k9 ha) (xN h),lu]
variable{e:ME}{us ys:List U}
theorem jK{it:MI}{t:MT}(hi:it G S=some (.imm us,S0))(h:eI t e G us [] S0=some (ys,S1))(hz:3#1<big):cY it t e G S=some (.ref 6#3,S1++[.lst ys]):=by
 simp only[cY,hi,aA,BQ,h];exact if_pos hz
theorem eY(h:a G S=some (.ref 6#3,S1++[.lst ys])):mFn bU 4#4 G S=some (.tup ys,S1++[.lst ys]):=by
 unfold mFn;rw[k9 h];show(ei _ _).map _=_;have:ei (S1++[Cell.lst ys]) (.ref 6#3)=some ys:=by
  show getL _ _=_;unfold getL;simp
 rw[this];rfl
theorem E4{S:Sto}(ha:a G S=some (.int n,S0))(hn:n<big)(g:Nat->U)(P:Nat->Sto->Prop)(h0:P 0 S0)
  (hs:∀(j:Nat) (S:Sto),j<n->P j S->∃S',e (G++[some (.int j)]) S=some (g j,S')/\P (j+1) S'):
  ∃S',mFn bU (aa (cY (iR1 4#4) cTT e) ai) G S=some (Av n g,S'++[.lst ((aB n).map g)])/\P n S':=by
 obtain⟨S1,e1,h1⟩:=mH g P (a8 0 n) 0 [] S0 h0 λj u S hj hp=>by
  have hl:=by have:=(ah.mp hj).1;simpa [a8]using this
  have hu:(a8 0 n)[j]?=some (.int j):=by simp[a8,hl]
  rw[hu]at hj;cases hj;simpa using hs j S hl (by simpa using hp)
 have hlen:(a8 0 n).length=n:=by simp[a8]
 simp[hlen]at e1 h1;exact⟨S1,eY (jK (mR ha hn) e1 6#5),h1⟩
theorem PR{S:Sto}(ha:a G S=some (.tup us,S0))(hn:0#9<big)(g:Nat->U)(P:Nat->Sto->Prop)(h0:P 0 S0)
  (hs:∀(j:Nat) (u:U) (S:Sto),us[j]?=some u->P j S->∃S',e 12#5 S=some (g j,S')/\P (j+1) S'):
  ∃S',mFn bU (aa (cY (eZ a) cTT e) ai) G S=some (Av us.length g,S'++[.lst ((aB 0#9).map g)])/\P us.length S':=by
 obtain⟨S1,e1,h1⟩:=mH g P us 0 [] S0 h0 λj u S hj hp=>by
  simpa using hs j u S hj (by simpa using hp)
 simp at e1 h1;exact⟨S1,eY (jK (by unfold eZ;rw[ha];rfl) e1 6#5),h1⟩
def lh(m:Nat)(T:Nat->Nat->Nat)(i:Nat):U:=Av m λj=>.int (T i j)
def tab(m:Nat)(T:Nat->Nat->Nat):U:=Av m (lh m T)
variable{i:Nat}
theorem mK{α:Type}{f:Nat->α}(h:i<m):atI ((aB m).map f) (i:Int)=some (f i):=by
 simp[atI,ixN,h]
theorem j6(h:0<n)(hn:n<big):∃S',bG [.int n] S=some (tab n (fC n),S')/\Ex S S':=by
 have key:∃S',mFn bU (aa (cY (iR1 6#1) cTT (mFn bU (aa (cY (iR1 6#1) cTT (m2 oMod (m2 bM 0#6 0#7) 0#3)) ai))) ai) [4#3] S=some (Av n (lh n (fC n)),S'++[.lst ((aB n).map (lh n (fC n)))])/\Ex S S':=by
  refine E4 (by simp[ae]) hn _ (λ_ S'=>Ex S S') (Ex.refl S) λi S1 hi hx=>?_;obtain⟨S2,e2,h2⟩:=E4 (G:= [4#3,5#1]) (S:=S1) (a:=ae 0) (e:=m2 oMod (m2 bM 0#6 0#7) 0#3) (by simp[ae]) hn (λj=>.int (fC n i j)) (λ_ S'=>S'=S1) rfl λj S' hj hx=>by
   refine⟨S',?_,hx⟩;have h0:(0:Int)<n:=by omega
   simp only[m2,ae,v5,oG,Dz,DC,aA,bM,oMod,h0,if_true,fC,ni,zW]
  subst h2;exact⟨_,e2,hx.trans 3#6⟩
 obtain⟨S',e,hx⟩:=key;refine⟨S'++[.lst ((aB n).map (lh n (fC n)))],?_,hx.trans 3#6⟩;simp[bG,_G.run,lE,bZ,aO,cp,ic,List.map_nil,Nat.sub_self,List.replicate_zero,ig,if_true,e,aA,tab]
theorem vF(h:0<n)(h2:n<1000):ui (n:Int):=⟨by omega,by omega⟩
theorem rV{i:Int}(h1: -1000000000<=i)(h2:i<=1000000000):jJ i j:= .inl ⟨by omega,by omega⟩
theorem vU(h:n<1000000):jJ (n:Int) j:=rV 6#5 0#2
def Agr(L:List Nat)(Y9 G:Rho):Prop:=G.length=Y9.length /\ ∀i,i∉L->G[i]?=Y9[i]?
theorem Agr.refl(L:List Nat)(G:Rho):Agr L G G:=⟨rfl,λ_ _=>rfl⟩
variable{L:List Nat}{Y9:Rho}{v:Option U}
theorem Agr.set(h:Agr L Y9 G)(hi:i∈L):Agr L Y9 (G.set i v):=
 ⟨by rw[ij];exact h.1,λj hj=>by rw[aG (by grind)];exact h.2 j hj⟩
structure Sm(b:Nat)(S0 S:Sto):Prop where
 len:S0.length<=S.length
 same:∀m,m<b->S[m]?=S0[m]?
theorem Sm.trans{b:Nat}{S0 S1 S2:Sto}(a:Sm b S0 S1)(c:Sm b S1 S2):Sm b S0 S2:=⟨aE a.len c.len,λm h=>(c.same m h).trans (a.same m h)⟩
variable{b:Nat}
theorem Sm.ex(h:Ex S0 S)(hb:b<=S0.length):Sm b S0 S:=⟨h.len,λm hm=>h.get (aq hm hb)⟩
theorem Sm.set(h:Sm b S0 S)(hn:b<=n):Sm b S0 (S.set n c):=
 ⟨by rw[ij];exact h.len,λm hm=>by rw[aG 0#2];exact h.same m hm⟩
structure Wr(r:Nat)(S S':Sto):Prop where
 len:S.length<=S'.length
 same:∀m,m<S.length->m≠r->S'[m]?=S[m]?
theorem Wr.trans{r:Nat}{S S1 S2:Sto}(a:Wr r S S1)(b:Wr r S1 S2):Wr r S S2:=
 ⟨aE a.len b.len,λm h1 h2=>(b.same m (aq h1 a.len) h2).trans (a.same m h1 h2)⟩
theorem Wr.refl(r:Nat)(S:Sto):Wr r S S:=⟨ar _,λ_ _ _=>rfl⟩
variable{r:Nat}
theorem Wr.ex(h:Ex S S'):Wr r S S':=⟨h.len,λm hm _=>h.get hm⟩
theorem Wr.set(r:Nat)(S:Sto)(c:Cell):Wr r S (S.set r c):=⟨by simp,λm _ h=>aG (cZ h)⟩
theorem Wr.sm(h:Wr r S S')(hb:b<=r)(hr:b<=0#5):Sm b S S':=⟨h.len,λm hm=>h.same m (by exact aq 0#2 0#2) 0#2⟩
theorem oX(h:i<G.length):(G.set i v)[i]?=some v:=aK h
theorem var_eq(h:G[i]?=some (some u)):ae i G S=some (u,S):=by simp[ae,h]
variable{b:MS}
theorem Gx(ha:a G S=some (.int n,S))(h:n<big):fA i (iR1 4#4) b G S=pV i b (a8 0 n) G S:=by
 unfold fA;rw[mR ha h];rfl
theorem mJ{G:Rho}{S:Sto}(ha:a G S=some (.int n,S))(h:n<big)(P:Nat->Rho->Sto->Prop)(h0:P 0 G S)
  (st:∀(j:Nat) (G:Rho) (S:Sto),j<n->P j G S->∃Y4 S',b (G.set i (some (.int j))) S=some 7#2/\P (j+1) Y4 S'):
  ∃Y4 S',fA i (iR1 4#4) b G S=some 7#2/\P n Y4 S':=by
 rw[Gx ha h];obtain⟨Y4,S',e,q⟩:=so P (a8 0 n) 0 G S h0 λj u G S hj hp=>by
  have hl:=by have:=(ah.mp hj).1;simpa [a8]using this
  have hu:(a8 0 n)[j]?=some (.int j):=by simp[a8,hl]
  rw[hu]at hj;cases hj;simpa using st j G S hl (by simpa using hp)
 have hlen:(a8 0 n).length=n:=by simp[a8]
 rw[hlen,ek]at q;exact⟨_,S',e,q⟩
variable{row:List U}
theorem append_eq{o:ME}(ho:o G S=some (.ref r,S))(ha:a G S=some (u,S1))(hr:S[r]?=some (Cell.lst row))(Z':S1[r]?=some (Cell.lst row))(hl:row.length<big):
  dk (mML cb o 4#4) G S=some (.nx,G,S1.set r (Cell.lst (row++[u]))):=by
 simp[dk,mML,ho,aA,getL,hr,k9 ha,cb,Z',hl]
theorem kj(ha:a G S=some (.ref r,S))(hr:S[r]?=some (Cell.lst row)):mFn bU 4#4 G S=some (.tup row,S):=by
 simp[mFn,k9 ha,aA,bU,ei,getL,hr]
variable{T:Nat->Nat->Nat}
theorem build{fs rs is js:Nat}{R':MS}(hm:m<big)(h1:rs∈L)(h2:is∈L)(h3:js∈L)(h4:fs∉L)(d1:rs≠is)(d2:js≠is)(d3:js≠rs)
  (l1:rs<Y9.length) (l2:is<Y9.length) (l3:js<Y9.length) (hf:Y9[fs]?=some (some (.ref S0.length)))
  (ha:∀G S,Agr L Y9 G->Sm S0.length S0 S->a G S=some (.int m,S))
  (hb: ∀(i j r:Nat) (G:Rho) (S:Sto) (row:List U),i<m->j<m->Agr L Y9 G->G[is]? = some (some (.int i))->G[js]? = some (some (.int j))->G[rs]? = some (some (.ref r))->Sm S0.length S0 S->S0.length<r->S[r]? = some (Cell.lst row)->row.length<big ->
   ∃Y4 S',R' G S=some (.nx,Y4,S')/\Agr L Y9 Y4/\Y4[is]? = some (some (.int i))/\Y4[rs]? = some (some (.ref r))/\Wr r S S'/\S'[r]? = some (Cell.lst (row++[.int (T i j)]))):
  ∃Y4 S',fA is (iR1 4#4) (aY (bz rs (cw ai)) (aY (fA js (iR1 4#4) R') (dk (mML cb (ae fs) (aa (mFn bU (aa (ae rs) ai)) ai))))) Y9 (S0++5#5)=some 7#2 /\
   Agr L Y9 Y4/\Sm S0.length S0 S'/\S'[S0.length]?=some (Cell.lst ((aB m).map (lh m T))):=by
 have s0:Sm _ S0 (S0++5#5):=Sm.ex 3#6 1#9;refine mJ (P:=λk G S=>Agr L _ G/\Sm _ S0 S/\S0.length<0#5/\S[S0.length]?=some (Cell.lst ((aB k).map _))) (ha _ _ (Agr.refl _ _) s0) hm ⟨Agr.refl _ _,s0,by simp,by simp⟩ ?_ |>.imp λY4 h=>h.imp λS' h=>⟨h.1,h.2.1,h.2.2.1,h.2.2.2.2⟩
 rintro i G S hi ⟨g1,g2,g3,g4⟩;have e0:bz rs (cw ai) (G.set is (some (.int i))) S=some (.nx,(G.set is (some (.int i))).set rs (some (.ref 0#5)),S++5#5):=by
  have hz:([]:List U).length<=big:=en _;simp[bz,cw,ai,aA,if_true]
 have ga:Agr L _ ((G.set is (some (.int i))).set rs (some (.ref 0#5))):=(g1.set h2).set h1;have gs:Sm _ S0 (S++5#5):=g2.trans (Sm.ex 3#6 g2.len);obtain⟨Y3,S1,e1,q1,q2,q3,q4,q5⟩:=mJ (P:=λk Y3 S1=>Agr L _ Y3/\Y3[is]?=some _/\Y3[rs]?=some _/\Wr _ _ S1/\S1[0#5]?=some (Cell.lst ((aB k).map _)))
  (ha _ _ ga gs) hm ⟨ga,by rw[aG d1,oX (by rw[g1.1];exact l2)],by rw[oX (by rw[ij,g1.1];exact l1)],Wr.refl _ _,by simp⟩ (by
   rintro j Y3 S1 hj ⟨q1,q2,q3,q4,q5⟩;have U9:=gs.trans (q4.sm (aN g3) 13#1);obtain⟨Y8,S2,f1,f2,f3,f4,f5,f6⟩:=hb i j _ _ S1 _ hi hj (q1.set h3) (by rw[aG d2];exact q2) (oX (by rw[q1.1];exact l3)) (by rw[aG d3];exact q3) U9 g3 q5 (by rw[aF,bh];exact bc 1#1 1#1)
   exact⟨_,S2,f1,f2,f3,f4,q4.trans f5,by rw[f6,jO,de];rfl⟩)
 have g5:S1[S0.length]?=some (Cell.lst ((aB i).map (lh m T))):=by
  rw[q4.same _ (by simp;exact vb 1#1) (by exact aH 1#1),(Ex.push S _).get g3];exact g4
 have U9:=gs.trans (q4.sm (aN g3) 13#1);have Q9:ae fs _ S1=some _:=var_eq (by rw[q1.2 fs h4];exact hf);have e2:=append_eq Q9 (kj (var_eq q3) q5) g5 g5 (by rw[aF,bh];exact bc 1#1 1#1);refine⟨_,S1.set _ (Cell.lst ((aB (i+1)).map (lh m T))),?_,q1,U9.set 1#9,?_,?_⟩
 .simp only[aY,e0,e1,e2]
  rw[jO,de];rfl
 .rw[ij];have:=q4.len;simp at this;exact bc 1#1 1#1
 .exact aK (by have:=q4.len;simp at this;exact bc 1#1 1#1)
def wV:MS:=aY (bz 5 (m2 oMod (m2 bM (m2 oMod 0#7 0#3) (m2 d7 (m2 oIx (cw (aa 1#3 (aa (m1 m7 1#3) ai))) (m2 oDiv 0#7 0#3)) (m2 oMod (ae 4) 0#3))) 0#3)) (dk (mML cb 1#6 (aa (m2 bM (ae 5) (m2 d7 0#3 (m2 oMod (m2 bM (m2 oDiv 0#7 0#3) (m2 oDiv (ae 4) 0#3)) 2#3))) ai)))
variable{f:Nat}
theorem CI{n i c:Int}{x y:Option U}(h0:0<n)(hd:ui n)(hc:atI [U.int 1,U.int (-1)] (i/n)=some (.int c))(k1:jJ c (j%n))(k2:jJ n ((i/n+j/n)%2))
  (hr:(S++[Cell.lst [U.int 1,U.int (-1)]])[r]?=some (Cell.lst row)) (hl:row.length<big):
  wV ([some (U.int n),some (U.ref f),some (U.int i),some (U.ref r),x,y].set 4 (some (U.int j))) S =
   some (Fl.nx,[some (U.int n),some (U.ref f),some (U.int i),some (U.ref r),some (U.int j),some (U.int ((i%n+c*(j%n))%n))],(S++[Cell.lst [U.int 1,U.int (-1)]]).set r (Cell.lst (row++[U.int ((i%n+c*(j%n))%n+n*((i/n+j/n)%2))]))):=by
 have Xs:2<=big:=by decide
 simp[wV,aY,bz,m2,m1,ae,mC,cw,aa,ai,bnd,oMod,bM,d7,oDiv,oIx,i5,m7,ei,getL,h0,hd,Xs,hc,k1,k2,dk,mML,cb,hr,hl]
variable{j:Nat}
theorem FT{x y:Option U}(hn:0<n)(Ym:n<1000)(hi:i<2*n)(hj:j<2*n)(hr:S[r]?=some (Cell.lst row))(hl:row.length<big):
  ∃z,wV ([some (U.int n),some (U.ref f),some (U.int i),some (U.ref r),x,y].set 4 (some (U.int j))) S =
   some (Fl.nx,[some (U.int n),some (U.ref f),some (U.int i),some (U.ref r),some (U.int j),z],(S++[Cell.lst [U.int 1,U.int (-1)]]).set r (Cell.lst (row++[U.int (il n i j:Nat)]))):=by
 have hd:=vF hn Ym;have h0:(0:Int)<n:=by omega
 have ZX:=(Ex.push S (Cell.lst [U.int 1,U.int (-1)])).some hr;have hk:jJ n ((i/n+j/n)%2):=vU (by exact aq 0#2 0#1);have hc:∃c:Int,atI [U.int 1,U.int (-1)] (i/n)=some (.int c)/\jJ c (j%n)/\(i%n+c*(j%n))%n+n*((i/n+j/n)%2)=(il n i j):=by
  rcases half hi with⟨h1,h2,h3⟩|⟨h1,h2,h3⟩
  .refine⟨1,?_,rV 0#1 0#1,?_⟩
   .have:(i:Int)/n=0:=by rw[<-yc,h3];rfl
    rw[this];rfl
   .unfold il<;>simp_all
  .refine⟨-1,?_,rV 0#1 0#1,?_⟩
   .have:(i:Int)/n=1:=by rw[<-yc,h3];rfl
    rw[this];rfl
   .unfold il
    have hjm:j%n<n:=kT _ hn;rw[if_neg 0#2];have e1:(i%n + -1*((j:Int)%n))%n=((i%n+(n-j%n))%n:Nat):=by
     have e2:((n-j%n:Nat):Int)=n-j%n:=by omega
     rw[ni,zW,e2,ni];rw[show i%n+(n-j%n)=(i%n + -1*((j:Int)%n))+n by omega,Int.add_emod_right]
    rw[e1];rfl
 obtain⟨c,c1,c2,c3⟩:=hc;rw[<-c3];exact⟨_,CI h0 hd c1 c2 hk ZX hl⟩
variable{Y3:Rho}
theorem aS{a:MS}(h:a G S=some (.nx,Y3,S1)):aY a b G S=b Y3 S1:=by simp[aY,h]
theorem bE(h:e G S=some (u,S1)):bZ e G S=some (.rt u,G,S1):=by simp[bZ,h,aA]
theorem bD(h:e G S=some (u,S1)):bz i e G S=some (.nx,G.set i (some u),S1):=by simp[bz,h,aA]
theorem mP:cw ai G S=some (.ref 0#5,S++5#5):=by
 simp[cw,ai,aA]
theorem bT{k:Nat}(hl:0#9=k)(h:b 16#0 S=some (.rt u,G,S1)):_G.run k n b us S=some (u,S1):=by
 simp[_G.run,hl,h]
theorem Sm.toEx(h:Sm S.length S S'):Ex S S':=by
 refine⟨S'.drop 0#5,List.ext_getElem? λi=>?_⟩;by_cases hi:i<0#5
 .rw[aW hi];exact h.same i hi
 .rw[bP 6#5,List.getElem?_drop];grind
theorem Qv(h:G.length=6):∃a b c d e f,G=[a,b,c,d,e,f]:=by
 have k:∀{n:Nat}{l:Rho},2#6=n+1->∃a r,l=a::r/\9#8=n:=λ{n l} h=>by
  cases l with
  |nil=>cases h
  |cons a r=>exact⟨a,r,rfl,z7 h⟩
 obtain⟨a,r1,rfl,h1⟩:=k h;obtain⟨b,r2,rfl,h2⟩:=k h1;obtain⟨c,r3,rfl,h3⟩:=k h2;obtain⟨d,r4,rfl,h4⟩:=k h3;obtain⟨e,r5,rfl,h5⟩:=k h4;obtain⟨f,r6,rfl,h6⟩:=k h5
 grind
theorem zh(hn:0<n)(Ym:n<1000):∃S',fB [.int n] S=some (tab (2*n) (il n),S')/\Ex S S':=by
 have ZA:2*n<big:=by unfold big;omega
 obtain⟨Y3,S1,e1,q1,q2,q3⟩:=build (fs:=1) (rs:=3) (is:=2) (js:=4) (L:= [2,3,4,5]) (Y9:= [4#3,some _,none,none,none,none]) (a:=m2 d7 2#3 0#3)
  ZA 0#1 0#1 0#1 0#1 0#1 0#1 0#1 0#4 0#4 0#4 rfl
  (λG S' g s=>by
   have h0:=g.2 0 0#1;have hk:jJ 2 n:=rV 0#1 0#1;simp only[m2,mC,aA,var_eq h0,d7,hk]
   rfl)
  (λi j r G S' row hi hj g gi gj gr s hr he hl=>by
   obtain⟨a,b,c,d,e,f,rfl⟩:=Qv g.1;have h0:=g.2 0 0#1;have h1:=g.2 1 0#1;simp at h0 h1 gi gj gr;subst h0 h1 gi gj gr;obtain⟨z,ez⟩:=FT (x:=none) hn Ym hi hj he hl;refine⟨_,_,ez,⟨rfl,λk hk=>?_⟩,rfl,rfl,(Wr.ex 3#6).trans (Wr.set _ _ _),?_⟩
   .match k with
    |0=>rfl
    |1=>rfl
    |2=>exact absurd 0#1 hk
    |3=>exact absurd 0#1 hk
    |4=>exact absurd 0#1 hk
    |5=>exact absurd 0#1 hk
    |k+6=>rfl
   ·exact aK (by have:=(ah.mp he).1;simp;exact vb (by assumption)))
 have e2:=kj (var_eq (by rw[q1.2 1 0#1];rfl)) q3;refine⟨S1,bT (G:=Y3) rfl ?_,?_⟩
 .exact(aS (bD mP)).trans ((aS e1).trans (bE e2))
 .exact q2.toEx
section
variable {G:Rho}{S S1 S2:Sto}{a b:ME}
theorem op2{f:F2}{x y:U}{r:Res U}(ha:a G S=some (x,S1))(hb:b G S1=some (y,S2))(h:f x y S2=r):m2 f a b G S=r:=by simp[m2,ha,hb,aA,h]
variable{z:Int}
theorem Em(ha:a G S=some (.tup us,S1))(hb:b G S1=some (.int z,S2))(h:atI us z=some u):m2 oIx a b G S=some (u,S2):=op2 ha hb (by simp[oIx,i5,ei,h])
theorem sZ(ha:a G S=some (.ref n,S1))(hb:b G S1=some (.int z,S2))(hn:S2[n]?=some (Cell.lst us))(h:atI us z=some u):m2 oIx a b G S=some (u,S2):=op2 ha hb (by simp[oIx,i5,ei,getL,hn,h])
variable{x y:Int}
theorem P8(ha:a G S=some 7#5)(hb:b G S1=some 8#3):m2 bM a b G S=some (.int (x+y),S2):=op2 ha hb rfl
theorem FP(ha:a G S=some 7#5)(hb:b G S1=some 8#3):m2 qc a b G S=some (.int (x-y),S2):=op2 ha hb rfl
theorem NW(ha:a G S=some 7#5)(hb:b G S1=some 8#3)(h:jJ x y):m2 d7 a b G S=some (.int (x*y),S2):=op2 ha hb (if_pos h)
theorem Ol(ha:a G S=some 7#5)(hb:b G S1=some 8#3)(h:ui y):m2 oDiv a b G S=some (.int (x/y),S2):=op2 ha hb (if_pos h)
theorem JL(ha:a G S=some 7#5)(hb:b G S1=some 8#3)(h:0<y):m2 oMod a b G S=some (.int (x%y),S2):=op2 ha hb (if_pos h)
theorem c_i:mC (.int z) G S=some (.int z,S):=rfl
theorem FD(ha:a G S=some (.tup us,S1)):mFn bL 4#4 G S=some (.int 0#9,S1):=by
 simp[mFn,k9 ha,aA,bL,i5,ei]
theorem len_tab(ha:a G S=some (tab m T,S1)):mFn bL 4#4 G S=some (.int m,S1):=by
 rw[FD ha,aF,bh]
theorem jY(hi:i<m)(ha:a G S=some (tab m T,S1))(hb:b G S1=some (.int i,S2)):m2 oIx a b G S=some (lh m T i,S2):=Em ha hb (mK hi)
theorem kO(hj:j<m)(ha:a G S=some (lh m T i,S1))(hb:b G S1=some (.int j,S2)):m2 oIx a b G S=some (.int (T i j),S2):=Em ha hb (mK hj)
variable{x y:Nat}
theorem qS(ha:a G S=some 7#5)(hb:b G S1=some 8#3)(h:0<y)(h2:y<1000):m2 oDiv a b G S=some (.int (x/y:Nat),S2):=by rw[Ol ha hb (vF h h2),yc]
theorem qZ(ha:a G S=some 7#5)(hb:b G S1=some 8#3)(h:0<y):m2 oMod a b G S=some (.int (x%y:Nat),S2):=by rw[JL ha hb 0#2,ni]
theorem md(ha:a G S=some 7#5)(hb:b G S1=some 8#3)(h:x<1000000):m2 d7 a b G S=some (.int (x*y:Nat),S2):=by rw[NW ha hb (vU h),Int.natCast_mul]
theorem add_n(ha:a G S=some 7#5)(hb:b G S1=some 8#3):m2 bM a b G S=some (.int (x+y:Nat),S2):=by rw[P8 ha hb,zW]
end
theorem Agr.of(h:Agr L Y9 G)(hi:i∉L)(e:Y9[i]?=some v):G[i]?=some v:=(h.2 i hi).trans e
def QD:MS:=aY (bz 7 (m2 oIx (m2 oIx 0#3 (m2 oDiv (ae 4) 0#7)) (m2 oDiv (ae 6) 0#7))) (dk (mML cb (ae 5) (aa (m2 bM (m2 d7 (ae 7) 0#7) (m2 oIx (m2 oIx 0#6 (m2 oMod (ae 4) 0#7)) (m2 oMod (ae 6) 0#7))) ai)))
variable{A B:Nat->Nat->Nat}
theorem JD{k:Nat}(hk:0<k)(SA:k<1000)(hm:0<m)(YZ:m<1000)(ca:∀i j,i<k->j<k->A i j<k):∃S',ku [tab k A,tab m B] S=some (tab (k*m) (fU m A B),S')/\Ex S S':=by
 have SR:=by
  calc k*m<=999*m:=qL m (by exact vd 1#1)
   _<=999*999:=rN _ (by exact vd 1#1)
   _<1000000:=by decide
 have ZA:k*m<big:=by exact aq 1#1 0#1
 have dl:∀i,i<k*m->i/m<k:=λi hi=>Nat.div_lt_of_lt_mul (by rw[kn];exact hi);have rl:∀i,i%m<m:=λi=>kT _ hm;obtain⟨Y3,S1,e1,q1,q2,q3⟩:=build (fs:=3) (rs:=5) (is:=4) (js:=6) (L:= [4,5,6,7]) (Y9:= [some _,3#0,some _,some _,none,none,none,none]) (a:=m2 _ (mFn _ (aa 0#3 _)) 0#7) (T:=fU m A B)
  ZA 0#1 0#1 0#1 0#1 0#1 0#1 0#1 0#4 0#4 0#4 rfl
  (λG S' g s=>md (len_tab (var_eq (g.of 0#1 rfl))) (var_eq (g.of 0#1 rfl)) (by exact aq 1#1 0#1))
  (λi j r G S' row hi hj g gi gj gr s hr he hl=>by
   have v0:∀S',ae 0 G S'=some _:=λS'=>var_eq (g.of 0#1 rfl);have v2:∀S',ae 2 G S'=some _:=λS'=>var_eq (g.of 0#1 rfl);have e7:m2 _ _ _ G S'=some _:=
    kO (dl j hj) (jY (dl i hi) (v0 _) (qS (var_eq gi) (v2 _) hm YZ)) (qS (var_eq gj) (v2 _) hm YZ)
   have hlen:G.length=8:=g.1;have g':Agr _ _ (G.set 7 20#3):=g.set 0#1;have w2:∀S',ae 2 _ S'=some _:=λS'=>var_eq (g'.of 0#1 rfl);have w1:∀S',ae 1 _ S'=some _:=λS'=>var_eq (g'.of 0#1 rfl);have w7:∀S',ae 7 (G.set 7 _) S'=some (.int (A (i/m) (j/m)),S'):=λS'=>var_eq (oX 0#2);have n4:(G.set 7 20#3)[4]?=some (some (.int i)):=by rw[aG 0#1];exact gi
   have n5:(G.set 7 20#3)[5]?=some (some (.ref r)):=by rw[aG 0#1];exact gr
   have n6:(G.set 7 20#3)[6]?=some (some (.int j)):=by rw[aG 0#1];exact gj
   have hA:A _ _<1000000:=bc (ca _ _ (dl i hi) (dl j hj)) (by exact aq 1#1 0#1);have ev:m2 _ _ _ _ S'=some _:=
    add_n (md (w7 _) (w2 _) hA) (kO (rl j) (jY (rl i) (w1 _) (qZ (var_eq n4) (w2 _) hm)) (qZ (var_eq n6) (w2 _) hm))
   exact⟨_,_,(aS (bD e7)).trans (append_eq (var_eq n5) ev he he hl),g',n4,n5,Wr.set _ _ _,aK (ah.mp he).1⟩)
 have e2:mFn _ (aa 1#6 _) _ S1=some _:=kj (var_eq (q1.of 0#1 rfl)) q3;refine⟨S1,bT (G:=Y3) rfl ?_,q2.toEx⟩;exact(aS (bD 5#4)).trans ((aS (bD mP)).trans ((aS e1).trans (bE e2)))
def uW:Nat->Nat->Nat:=λa b=>([[0,0,0,0],[0,1,0,1],[0,1,1,0],[0,0,1,1]].getD a []).getD b 0
def GK:Nat->Nat->Nat:=λa b=>([[0,1,2,3],[1,0,3,2],[2,3,0,1],[3,2,1,0]].getD a []).getD b 0
def yY(i j:Nat):Nat:=2*GK (i/2) (j/2)+(i+j+uW (i/2) (j/2))%2
theorem EJ:((aB 8).all λi=>(aB 8).all λj=>yY i j==hG i j)=true:=by decide +kernel
theorem Dq(hi:i<8)(hj:j<8):yY i j=hG i j:=by
 have h:=cR.mp (cR.mp EJ i (cK.mpr hi)) j (cK.mpr hj);exact eq_of_beq h
def Qs:MS:=aY (bz 6 (m2 oMod (m2 bM (m2 bM 1#6 (ae 5)) (m2 oIx (m2 oIx 0#3 (m2 oDiv 1#6 2#3)) (m2 oDiv (ae 5) 2#3))) 2#3)) (dk (mML cb (ae 4) (aa (m2 bM 20#9 (ae 6)) ai)))
def xu(T:Nat->Nat->Nat)(a:Nat):Cell:= .lst ((aB 4).map λb=>.int (T a b))
def FZ(s:Nat):Cell:= .lst ((aB 4).map λa=>.ref (s+a))
def ten(s:Nat):Sto:= [xu uW 0,xu uW 1,xu uW 2,xu uW 3,FZ s,xu GK 0,xu GK 1,xu GK 2,xu GK 3,FZ (s+5)]
theorem look{k:Nat}(s:Sm (S++ten 0#5).length (S++ten 0#5) S')(hk:(ten 0#5)[k]?=some c)(hn:n=0#5+k):S'[n]?=some c:=by
 have hl:=(ah.mp hk).1;rw[s.same n (by grind)]
 grind
variable{x q:Nat}
theorem yl{S:Sto}{v p y:Nat}(hv:G[v]?=some (some (.ref x)))(hx:S'[x]?=some (FZ y))(hy:∀a,a<4->S'[y+a]?=some (xu T a))(hi:G[p]?=some (some (.int i)))(hj:G[q]?=some (some (.int j)))(li:i<8)(lj:j<8):
  m2 oIx (m2 oIx (ae v) (m2 oDiv (ae p) 2#3)) (m2 oDiv (ae q) 2#3) G S'=some (.int (T (i/2) (j/2)),S'):=
 sZ (sZ (var_eq hv) (qS (y:=2) (var_eq hi) c_i 0#1 0#1) hx (mK 0#2)) (qS (y:=2) (var_eq hj) c_i 0#1 0#1) (hy _ 0#2) (mK 0#2)
theorem i9{x y z w:Int}:cw (aa (mC (.int x)) (aa (mC (.int y)) (aa (mC (.int z)) (aa (mC (.int w)) ai)))) G S=some (.ref 0#5,S++[Cell.lst [.int x,.int y,.int z,.int w]]):=by
 have hz:4<=big:=by decide
 simp[cw,aa,mC,ai,aA,hz]
variable{b:ME}{y:U}
theorem yQ{S3 S4:Sto}{c d:ME}{x z w:U}(ha:a G S=some (x,S1))(hb:b G S1=some (y,S2))(hc:c G S2=some (z,S3))(hd:d G S3=some (w,S4)):
  cw (aa a (aa b (aa c (aa d ai)))) G S=some (.ref S4.length,S4++[Cell.lst [x,y,z,w]]):=by
 have hz:4<=big:=by decide
 simp only[cw,aa,ai,aA,ha,hb,hc,hd];simp[hz]
theorem AU:∃S',iJ [] S=some (tab 8 hG,S')/\Ex S S':=by
 have e0:=yQ (G:= [none,none,none,none,none,none,none]) (S:=S) (i9 (x:=0) (y:=0) (z:=0) (w:=0)) (i9 (x:=0) (y:=1) (z:=0) (w:=1)) (i9 (x:=0) (y:=1) (z:=1) (w:=0)) (i9 (x:=0) (y:=0) (z:=1) (w:=1));have e1:=yQ (G:= [some (.ref (0#5+4)),none,none,none,none,none,none]) (S:=S++(ten 0#5).take 5) (i9 (x:=0) (y:=1) (z:=2) (w:=3)) (i9 (x:=1) (y:=0) (z:=3) (w:=2)) (i9 (x:=2) (y:=3) (z:=0) (w:=1)) (i9 (x:=3) (y:=2) (z:=1) (w:=0));have e0':=e0.trans (by simp;rfl);have Wg:=e1.trans (by simp;rfl);obtain⟨Y3,S1,f1,q1,q2,q3⟩:=build (fs:=2) (rs:=4) (is:=3) (js:=5) (L:= [3,4,5,6]) (Y9:= [some _,some _,some _,none,none,none,none]) (m:=8)
  0#1 0#1 0#1 0#1 0#1 0#1 0#1 0#1 0#4 0#4 0#4 rfl
  (λG S' g s=>rfl)
  (λi j r G S' row hi hj g gi gj gr s hr he hl=>by
   have hlen:G.length=7:=g.1;have hs:∀a,a<4->S'[0#5+a]?=some _:=λa ha=>look s (by match a,ha with | 0,_=>rfl | 1,_=>rfl | 2,_=>rfl | 3,_=>rfl) rfl;have hkk:∀a,a<4->S'[0#5+5+a]?=some _:=λa ha=>look (k:=5+a) s (by match a,ha with | 0,_=>rfl | 1,_=>rfl | 2,_=>rfl | 3,_=>rfl) 0#2;have t1:=yl (S:=S) (v:=0) (g.of 0#1 rfl) (look (k:=4) s rfl rfl) hs gi gj hi hj;have e6:=
    qZ (y:=2) (add_n (add_n (var_eq gi) (var_eq gj)) t1) c_i 0#1
   have g':Agr _ _ (G.set 6 17#7):=g.set 0#1;have n3:(G.set 6 17#7)[3]?=some (some (.int i)):=by rw[aG 0#1];exact gi
   have n4:(G.set 6 17#7)[4]?=some (some (.ref r)):=by rw[aG 0#1];exact gr
   have n5:(G.set 6 17#7)[5]?=some (some (.int j)):=by rw[aG 0#1];exact gj
   have t2:=yl (S:=S) (v:=1) (g'.of 0#1 rfl) (look (k:=9) s rfl rfl) hkk n3 n5 hi hj;have ev:m2 bM 20#9 (ae 6) (G.set 6 17#7) S'=some (.int (hG i j),S'):=by
    rw[<-Dq hi hj];exact add_n (md c_i t2 0#1) (var_eq (oX 0#2))
   exact⟨_,_,(aS (bD e6)).trans (append_eq (var_eq n4) ev he he hl),g',n3,n4,Wr.set _ _ _,aK (ah.mp he).1⟩)
 have f2:mFn _ (aa 0#7 _) Y3 S1=some _:=kj (var_eq (q1.of 0#1 rfl)) q3;refine⟨S1,bT (G:=Y3) rfl ?_,Ex.trans ⟨_,rfl⟩ q2.toEx⟩;exact(aS (bD e0')).trans ((aS (bD Wg)).trans ((aS (bD mP)).trans ((aS f1).trans (bE f2))))
theorem vL{e:ME}{G:Rho}(P:List U->Sto->Prop):∀(us acc:List U) (S:Sto),P acc S ->
  (∀(k:Nat) (Zi:List U) (u:U) (S:Sto),us[k]?=some u->Zi.length=acc.length+k->P Zi S->∃v S',e 12#5 S=some (v,S')/\P (Zi++[v]) S') ->
  ∃ys S',eI cTT e G us acc S=some (ys,S')/\P ys S'/\3#1=acc.length+0#9
 |[],acc,S,h,_=>⟨_,S,rfl,h,by simp⟩
 | u::us,acc,S,h,st=>by
   obtain⟨v,S1,e1,h1⟩:=st 0 _ u S rfl 0#4 h;obtain⟨ys,S2,e2,h2,h3⟩:=vL P us _ S1 h1 λk Zi w S hk hl hp=>st (k+1) _ w S (by simpa using hk) (by simp at hl;omega) hp;refine⟨ys,S2,?_,h2,by grind⟩;show bnd _ _=_;simp[cTT,aA];rw[e1];exact e2
theorem Dr{S:Sto}(ha:a G S=some (.int n,S0))(hn:n<big)(P:List U->Sto->Prop)(h0:P [] S0)
  (hs:∀(k:Nat) (acc:List U) (S:Sto),k<n->acc.length=k->P acc S->∃v S',e (G++[9#0]) S=some (v,S')/\P (acc++[v]) S'):
  ∃ys S',mFn bU (aa (cY (iR1 4#4) cTT e) ai) G S=some (.tup ys,S'++[.lst ys])/\P ys S'/\3#1=n:=by
 obtain⟨ys,S1,e1,h1,h2⟩:=vL P (a8 0 n) [] S0 h0 λk acc u S hk hl hp=>by
  have ZR:=by have:=(ah.mp hk).1;simpa [a8]using this
  have hu:(a8 0 n)[k]?=some (.int k):=by simp[a8,ZR]
  rw[hu]at hk;cases hk;exact hs k _ S ZR (by simpa using hl) hp
 have hlen:(a8 0 n).length=n:=by simp[a8]
 rw[hlen]at h2;simp at h2;exact⟨ys,S1,eY (jK (mR ha hn) e1 (by rw[h2];omega)),h1,h2⟩
theorem Stp.set(h:Stp n S S')(hr:0#5<=r)(hn:r≠n):Stp n S (S'.set r c):=by
 refine⟨by rw[ij];exact h.len,λm h1 h2=>by rw[aG 0#2];exact h.same m h1 h2,?_⟩;obtain⟨s,b,e⟩:=h.st;exact⟨s,b,by simp_all⟩
theorem Stp.step(a:Stp n S S1)(e:Ex S1 S2):Stp n S S2:=a.trans (Stp.ex a.st e)
theorem cz{f:MF}{x:U}{r:Res U}(ha:a G S=some (x,S1))(hb:b G S1=some (y,S2))(h:f [x,y] S2=r):mFn f (aa a (aa b ai)) G S=r:=by
 simp[mFn,aa,ai,ha,hb,aA,h]
theorem gG{f:MF}{x:U}{r:Res U}(ha:a G S=some (x,S1))(h:f [x] S1=r):mFn f 4#4 G S=r:=by
 simp[mFn,k9 ha,aA,h]
theorem NH(ha:a G S=some (.ref r,S))(hr:S[r]?=some (Cell.lst us)):mFn bL 4#4 G S=some (.int 0#9,S):=
 gG ha (by simp[bL,i5,ei,getL,hr])
theorem vN{α β:Type}(f:α->β):∀(l:List α) (j:Nat),(l.map f).eraseIdx j=(l.eraseIdx j).map f
 |[],_=>rfl
 |_::_,0=>rfl
 |x::l,j+1=>by simp[vN f l j]
def ak(l:List Nat):List U:=l.map λ(x:Nat)=>U.int x
variable{l:List Nat}
theorem EK{o:ME}(ho:o G S=some (.ref r,S))(ha:a G S=some (.int j,S1))(hr:S[r]?=some (Cell.lst 1#7))(Z':S1[r]?=some (Cell.lst 1#7))(hj:j<2#6)(hl:2#6<big):
  mML nX o 4#4 G S=some (.int l[j],S1.set r (Cell.lst (ak (l.eraseIdx j)))):=by
 have hok:okR j:=xN (by exact bc 0#2 0#2);have hx:ixN (ak l).length j=some j:=by
  have:(ak l).length=2#6:=by simp[ak]
  rw[this];simp[ixN,hj]
 have hg:(ak l)[j]?=some (.int l[j]):=by simp[ak,hj]
 have he:(ak l).eraseIdx j=ak _:=vN _ _ _;simp[mML,ho,aA,getL,hr,k9 ha,nX,Z',hok,hx,hg,he]
theorem Co{i j:Int}(ha:a G S=some (.int i,S))(hb:b G S=some (.int j,S))(h1:okR i)(h2:okR j)(hz:(a8 i (j-i).toNat).length<=big):om (iR2 (aa a (aa b ai))) G S=some (.ref 0#5,S++[Cell.lst (a8 i (j-i).toNat)]):=by
 have e:iR2 (aa a (aa b ai)) G S=some (.imm (a8 i (j-i).toNat),S):=by
  unfold iR2;simp only[aa,ai,ha,hb,aA]
  simp_all
 simp[om,e,aA,hz]
variable{xs:List U}
theorem cat_t(ha:a G S=some (.tup xs,S1))(hb:b G S1=some (.tup ys,S2))(hz:1#5+3#1<=big):m2 bM a b G S=some (.tup (xs++ys),S2):=op2 ha hb (by simp[bM,hz])
theorem sP(m:Nat)(hm:0<m):a8 1 ((m:Int)-1).toNat=ak (dJ 1 (m-1)):=by
 unfold a8 ak;rw[List.range'_eq_map_range]
 simp_all
theorem zJ(h:m8 n S)(hm:0<m)(YZ:m<1000):∃l S',iO [.ref n,.int m] S=some (.tup 1#7,S')/\Stp n S S'/\qh m l:=by
 have hn:=h.lt;have ZA:m<big:=by exact aq 1#1 0#1
 have e0:om (iR2 (aa 1#3 3#4)) [3#9,some (.int m),none] S=some (.ref 0#5,S++[Cell.lst (ak (dJ 1 (m-1)))]):=by
  rw[Co rfl 0#0 16#7 (xN ZA) (by rw[sP m hm,ak,aF,List.length_range'];exact aE (oE m 1) (aN ZA)),sP m hm]
 have st0:Stp n S (S++[Cell.lst (ak (dJ 1 (m-1)))]):=Stp.ex h 3#6;obtain⟨ys,S1,e1,⟨tk,rem,rfl,q1,q2,q3⟩,e2⟩:=Dr (G:= [some _,some _,some _])
  (a:=m2 _ 0#6 _)
  (by rw[FP 0#0 c_i];congr 3;exact(Int.natCast_sub hm).symm) (aP (oE m 1) ZA)
  (λacc S'=>∃tk rem:List Nat,acc=ak tk/\S'[0#5]?=some (Cell.lst (ak rem))/\(tk++rem).Perm (dJ 1 (m-1))/\Stp n S S')
  ⟨[],dJ 1 (m-1),rfl,by simp,by simp,st0⟩
  (by
   rintro k acc S' hk hl ⟨tk,rem,rfl,q1,q2,q3⟩;have htk:=by simpa [ak]using hl
   have XG:rem.length=m-1-k:=by
    have:=q2.length_eq;rw[aD,List.length_range',htk]at this;rw[<-this,Nat.add_sub_cancel_left]
   have hr0:0<rem.length:=by rw[XG];exact Nat.sub_pos_of_lt hk
   have Z':rem.length<1000:=by rw[XG];exact aP (aE (oE _ _) (oE _ _)) YZ
   obtain⟨r,S2,t1,t2,t3,t4,t5⟩:=Br q3.st (fM.mpr hr0) 0#2;obtain⟨j,rfl⟩:=DH t2;have hj:=fM.mp t3;have ho:∀S',ae 2 ([some (U.ref n),some (.int m),2#7]++[9#0]) S'=some _:=λS'=>var_eq rfl;have hv:∀S',ae 0 ([some (U.ref n),some (.int m),2#7]++[9#0]) S'=some _:=λS'=>var_eq rfl;have hlen:mFn bL 3#8 ([some (U.ref n),some (.int m),2#7]++[9#0]) S'=some (.int rem.length,S'):=by
    rw[NH (ho _) q1];simp[ak]
   have SG:=t4.some (by exact bF 1#1) q1;refine⟨_,_,EK (ho _) (cz (hv _) hlen t1) q1 SG hj (by exact aq Z' 0#1),tk++[rem[j]],rem.eraseIdx j,by simp[ak],?_,?_,?_⟩
   .exact aK (ah.mp SG).1
   .refine List.Perm.trans ?_ q2
    rw[gg];exact(uu rem j hj).append_left tk
   ·exact(q3.trans t4).set (ar _) (by exact bF (by assumption)))
 have XG:rem=[]:=by
  have:=q2.length_eq;simp[ak]at this e2;exact fw 0#2
 subst XG;rw[ig]at q2;refine⟨_,S1++[Cell.lst (ak tk)],bT (G:= [3#9,some (.int m),2#7]) rfl ?_,q3.step 3#6,Dj hm q2⟩;refine(aS (bD e0)).trans (bE ?_);have ez:dS 8#0 [3#9,some (.int m),2#7] (S++[Cell.lst (ak (dJ 1 (m-1)))])=some (.tup [.int 0],S++[Cell.lst (ak (dJ 1 (m-1)))]):=by
  have XQ:1<=big:=by decide
  simp[dS,k9 (show mC _ _ _=some _ from rfl),aA,XQ]
 exact cat_t ez e1 (by simp[ak]at e2 ⊢;omega)
theorem Qr{i:Int}:toD S (f+1) (.int i)=some (.int i):=rfl
theorem pj{S:Sto}{f:Nat}:∀(l:List Nat),ee (toD S (f+1)) 1#7=some (l.map λ(x:Nat)=>dF x)
 |[]=>rfl
 | x::l=>by
   show(toD S _ _).bind _=_;rw[show G9 _ l=ak l from rfl,pj l];rfl
theorem zy(x:Nat):∀(l:List Nat),x∈l->(l.map λ(x:Nat)=>dF x).findIdx? (λy=>fQ y (.int x))=some (l.idxOf x)
 |[],h=>by simp at h
 | y::l,h=>by
   have e:fQ (.int y) (.int x)=decide (y=x):=by
    simp[fQ]<;>grind
   rw[ic,rZ,e,List.idxOf_cons];by_cases Wv:y=x
   .subst Wv;simp
   .have hm:x∈l:=by
     grind
    have hb:(y==x)=false:=by simpa using Wv
    rw[zy x l hm];simp[Wv,hb]
theorem HZ(h:x∈l):EM S (.int x) 1#7=some (l.idxOf x):=by
 unfold EM;rw[pj l];exact zy x l h
theorem yA{o:ME}(ho:o G S=some (.tup 1#7,S))(ha:a G S=some 7#5)(h:x∈l):mMT iM o 4#4 G S=some (.int (l.idxOf x:Nat),S1):=by
 simp only[mMT,ho,aA,k9 ha,iM,HZ h];rfl
theorem tI(h:(ak l)[j]?=some u):j<2#6/\u=.int (oF l j):=by
 have hl:=by have:=(ah.mp h).1;simpa [ak]using this
 have:(ak l)[j]?=some (.int l[j]):=by simp[ak,hl]
 rw[this]at h;cases h;exact⟨hl,by simp[oF,hl]⟩
theorem bV(l:List Nat):(ak l).length=2#6:=by simp[ak]
theorem ET(hm:m<big)(g:∀i j,i<m->j<m->T i j<m)(ho:qh m l):∃S',jE [tab m T,.tup 1#7] S=some (tab m (qu T (oF l) (pF l)),S')/\Ex S S':=by
 have hlen:=ho.len;obtain⟨S1,e1,h1⟩:=PR (G:= [some _,some _]) (a:=ae 1)
  0#0 (by rw[bV,hlen];exact hm) _ (λ_ S'=>Ex S S') (Ex.refl _) (by
   intro i u S' hu hx;obtain⟨hi,rfl⟩:=tI hu;rw[hlen]at hi;obtain⟨S2,e2,h2⟩:=PR (G:= [some _,some _,some _]) (a:=ae 1) (e:=mMT _ 0#6 (aa (m2 _ (m2 _ 0#3 0#7) 1#6) _))
    0#0 (by rw[bV,hlen];exact hm) _ (λ_ ZC=>ZC=S') rfl (by
     intro j u ZC hu hx;obtain⟨hj,rfl⟩:=tI hu;rw[hlen]at hj;refine⟨_,?_,hx⟩
     exact yA (var_eq rfl) (kO (ho.ord.ol j hj) (jY (ho.ord.ol i hi) (var_eq rfl) (var_eq rfl)) (var_eq rfl)) (ho.mem.mpr (g _ _ (ho.ord.ol i hi) (ho.ord.ol j hj))))
   subst h2
   exact⟨_,e2,hx.trans (Ex.push _ _)⟩)
 rw[bV,hlen]at e1;exact⟨_,bT rfl (bE e1),h1.trans 3#6⟩
theorem E9{x y:Int}(ha:a G S=some 7#5)(hb:b G S1=some 8#3):m2 oEq a b G S=some (.bl (x==y),S2):=op2 ha hb rfl
theorem IB{x y:Int}(ha:a G S=some 7#5)(hb:b G S1=some 8#3):m2 oGt a b G S=some (.bl (decide (y<x)),S2):=op2 ha hb rfl
theorem of_eq{b:Bool}(h:a G S=some (.bl b,S1)):cOf a G S=some (b,S1):=by simp[cOf,h,aA]
theorem or_eq{a b:MT}{x y:Bool}(ha:a G S=some (x,S1))(hb:b G S1=some (y,S2))(e:x=true->S2=S1):cOr a b G S=some (x||y,S2):=by
 cases x
 .simp[cOr,ha,hb,aA]
 .simp[cOr,ha,aA,e _]
theorem and_eq{a b:MT}{x y:Bool}(ha:a G S=some (x,S1))(hb:b G S1=some (y,S2))(e:x=false->S2=S1):zc a b G S=some (x&&y,S2):=by
 cases x
 .simp[zc,ha,aA,e _]
 .simp[zc,ha,hb,aA]
variable{c:MT}
theorem lD{a b:MS}(h:c G S=some (true,S1)):sIf c a b G S=a G S1:=by simp[sIf,h,aA]
theorem jT{a b:MS}(h:c G S=some (false,S1)):sIf c a b G S=b G S1:=by simp[sIf,h,aA]
theorem iY(h:m8 n S)(hm:0<m)(YZ:m<1000):∃r S',be [.ref n,.int m] S=some (.int (r:Nat),S')/\r<m/\Stp n S S':=by
 obtain⟨r,S',e,h1,h2,h3,_⟩:=Br (many:=m) h 0#2 0#2;obtain⟨r,rfl⟩:=DH h1;exact⟨r,S',e,by omega,h3⟩
def gA:MS:=sIf (cOr (cOf (m2 oEq 0#7 1#3)) (cOf (m2 oEq 0#7 2#3))) (bz 3 (mFn fB (aa (m2 bM 1#3 (mFn be (aa 0#3 (aa (m2 oDiv 0#6 2#3) ai)))) ai))) dg
def gB:MS:=sIf (zc (cOf (m2 oEq 0#7 (mC (.int 3)))) (cOf (m2 oGt 0#6 (mC (.int 7))))) (bz 3 (mFn iJ ai)) dg
def gC:MS:=sIf (cOf (m2 oGt 0#7 (mC (.int 3)))) (aY (bz 4 (m2 bM 2#3 18#0)) (aY (bz 5 (m2 oIx (cw (aa (mFn bG 5#9) (aa (mFn fB 5#9) ai))) (mFn be (aa 0#3 (aa 2#3 ai))))) (aY (sIf (cOf (m2 oGt (mFn bL 12#6) 0#6)) (bz 5 (mFn bG 5#9)) dg) (bz 3 (mFn ku (aa (ae 5) (aa (mFn bG (aa (m2 bM 1#3 (mFn be (aa 0#3 (aa (m2 oDiv 0#6 (mFn bL 12#6)) ai)))) ai)) ai))))))) dg
def gD:MS:=sIf (cOf (m2 oEq 18#0 2#4)) (bz 3 (mFn jE (aa 1#6 (aa (mFn iO (aa 0#3 (aa (mFn bL 7#1) ai))) ai)))) dg
structure Gs(n most way:Nat)(S0:Sto)(G:Rho)(S:Sto):Prop where
 ex:∃m T x y,G=[some (.ref n),some (.int most),some (.int way),some (tab m T),x,y]/\Grp m T/\m<=most
 st:Stp n S0 S
section
variable {n most way:Nat}{S0 S:Sto}{G:Rho}
theorem NN(h6:4<=most)(hm:most<1000)(g:Gs n most way S0 G S):∃Y4 S',gA G S=some 7#2/\Gs n most way S0 Y4 S':=by
 obtain⟨⟨m,T,x,y,rfl,gr,hle⟩,st⟩:=g;have hc:=or_eq (of_eq (E9 (G:= 17#5) (S:=S) (a:=ae 2) (b:=mC (.int 1)) 0#0 c_i)) (of_eq (E9 (a:=ae 2) (b:=mC (.int 2)) 0#0 c_i)) λ_=>rfl;cases hb:(((way:Int)==1)||((way:Int)==2)) with
 | false=>
   rw[hb]at hc;exact⟨_,S,jT hc,⟨m,T,x,y,rfl,gr,hle⟩,st⟩
 | true=>
   rw[hb]at hc;obtain⟨r,S1,e1,w1,s1⟩:=iY (m:=most/2) st.st 0#2 0#2;obtain⟨S2,e2,s2⟩:=zh (n:=1+r) (S:=S1) 10#2 0#2;refine⟨_,S2,(lD hc).trans (bD (gG (x:= .int (1+r:Nat)) (add_n (x:=1) c_i (cz 0#0 (qS (y:=2) 0#0 c_i 0#1 0#1) e1)) e2)),⟨_,_,x,y,rfl,zp 10#2,by omega⟩,(st.trans s1).step s2⟩
theorem O4(g:Gs n most way S0 G S):∃Y4 S',gB G S=some 7#2/\Gs n most way S0 Y4 S':=by
 obtain⟨⟨m,T,x,y,rfl,gr,hle⟩,st⟩:=g;have hc:=and_eq (of_eq (E9 (G:= 17#5) (S:=S) (a:=ae 2) (b:=mC (.int 3)) 0#0 c_i)) (of_eq (IB (a:=ae 1) (b:=mC (.int 7)) 0#0 c_i)) λ_=>rfl;cases hb:(((way:Int)==3)&&decide ((7:Int)<most)) with
 | false=>
   rw[hb]at hc;exact⟨_,S,jT hc,⟨m,T,x,y,rfl,gr,hle⟩,st⟩
 | true=>
   rw[hb]at hc;obtain⟨S2,e2,s2⟩:=AU;have h7:=by simp at hb;exact hb.2
   refine⟨_,S2,(lD hc).trans (bD (e2)),⟨_,_,x,y,rfl,Df,by omega⟩,st.step s2⟩
theorem Be{G:Rho}{S:Sto}{x:U}(ha:a G S=some (x,S1))(hb:b G S1=some (y,S2)):cw (aa a (aa b ai)) G S=some (.ref S2.length,S2++[Cell.lst [x,y]]):=by
 have hz:2<=big:=by decide
 simp[cw,aa,ai,aA,ha,hb,hz]
theorem Qi(h6:4<=most)(hm:most<1000)(g:Gs n most way S0 G S):∃Y4 S',gC G S=some 7#2/\Gs n most way S0 Y4 S':=by
 obtain⟨⟨m,T,x,y,rfl,gr,hle⟩,st⟩:=g;have ZA:∀x,x<=most->x<big:=λx hx=>by unfold big;exact aP 1#1 (aq 1#1 0#1)
 have hc:=of_eq (IB (G:= 17#5) (S:=S) (a:=ae 2) (b:=mC (.int 3)) 0#0 c_i);cases hb:decide ((3:Int)<way) with
 | false=>
   rw[hb]at hc;exact⟨_,S,jT hc,⟨m,T,x,y,rfl,gr,hle⟩,st⟩
 | true=>
   rw[hb]at hc;obtain⟨r,S1,e1,w1,s1⟩:=iY (m:=3) st.st 0#1 0#1;have f1:m2 bM 2#3 18#0 17#5 S=some (.int (2+r:Nat),S1):=
    add_n (x:=2) c_i (cz 0#0 c_i e1)
   have Zc:2+r<=4:=Nat.add_le_add_left (vd w1) 2;have TL:2+r<=most:=aE Zc (aE 0#1 h6);obtain⟨S2,e2,s2⟩:=j6 (n:=2+r) (S:=S1) 10#2 (ZA _ TL);obtain⟨S3,e3,s3⟩:=zh (n:=2+r) (S:=S2) 10#2 (aP Zc 0#1);have Z8:Stp n S0 (S3++[Cell.lst 23#2]):=(((st.trans s1).step s2).step s3).step 3#6;obtain⟨q,S4,e4,w4,s4⟩:=iY (m:=2) Z8.st 0#1 0#1;have Z9:S4[S3.length]?=some (Cell.lst 23#2):=by
    refine s4.some ?_ (by rw[bP 1#9];simp);have:=(((st.trans s1).step s2).step s3).st.lt;exact bF 1#1
   have one:∃k K,atI 23#2 (q:Int)=some (tab k K)/\Grp k K/\k<=8:=by
    rcases q with _|_|q
    .exact⟨_,_,rfl,jc 10#2,aE Zc 0#1⟩
    .exact⟨_,_,rfl,zp 10#2,rN 2 Zc⟩
    .exact absurd (GV (GV w4)) (Nat.not_lt_zero _)
   obtain⟨k,K,hix,gk,hk8⟩:=one;have f5:m2 oIx (cw (aa (mFn bG 5#9) (aa (mFn fB 5#9) ai))) (mFn be (aa 0#3 (aa 2#3 ai))) [3#9,some (.int most),some (.int way),1#4,some (.int (2+r:Nat)),y] S1=some (tab k K,S4):=
    sZ (Be (gG (x:= .int (2+r:Nat)) 0#0 e2) (gG (x:= .int (2+r:Nat)) 0#0 e3)) (cz 0#0 c_i e4) Z9 hix
   have Yr:=Z8.trans s4;have cut:∃k' K' S5,sIf (cOf (m2 oGt (mFn bL 12#6) 0#6)) (bz 5 (mFn bG 5#9)) dg [3#9,some (.int most),some (.int way),1#4,some (.int (2+r:Nat)),some (tab k K)] S4 =
     some (.nx,[3#9,some (.int most),some (.int way),1#4,some (.int (2+r:Nat)),some (tab k' K')],S5)/\Grp k' K'/\k'<=most/\k'<=8/\Stp n S0 S5:=by
    have Xm:=of_eq (IB (G:= [3#9,some (.int most),some (.int way),1#4,some (.int (2+r:Nat)),some (tab k K)]) (S:=S4) (a:=mFn bL 12#6) (b:=ae 1) 5#4 0#0);cases Xs:decide ((most:Int)<k) with
    | false=>
      rw[Xs]at Xm;have: ¬((most:Int)<k):=by simpa using Xs
      exact⟨k,K,S4,jT Xm,gk,ft λz=>this (fM.mpr z),hk8,Yr⟩
    | true=>
      rw[Xs]at Xm;obtain⟨S5,e5,s5⟩:=j6 (n:=2+r) (S:=S4) 10#2 (ZA _ TL);exact⟨_,_,S5,(lD Xm).trans (bD (gG (x:= .int (2+r:Nat)) 0#0 e5)),jc 10#2,TL,aE Zc 0#1,Yr.step s5⟩
   obtain⟨k',K',S5,f6,TN,SR,hk8',YN⟩:=cut;have kp:=TN.pos;have hdiv:0<most/k':=Nat.div_pos SR kp;have XS:most/k'<=most:=Nat.div_le_self _ _;obtain⟨t,S6,e6,w6,s6⟩:=iY (m:=most/k') YN.st hdiv (by exact aP 1#1 1#1);have Um:1+t<=most/k':=by rw[GU];exact w6
   obtain⟨S7,e7,s7⟩:=j6 (n:=1+t) (S:=S6) 10#2 (ZA _ (aE Um XS));obtain⟨S8,e8,s8⟩:=JD (k:=k') (m:=1+t) (A:=K') (B:=fC (1+t)) (S:=S7) kp (by exact aP 1#1 0#1) 10#2 (aP (aE Um XS) hm) TN.cl;have ZN:k'*(1+t)<=most:=aE (rN k' Um) (Nat.mul_div_le most k');refine⟨_,S8,(lD hc).trans ((aS (bD f1)).trans ((aS (bD f5)).trans ((aS f6).trans (bD (cz 0#0 (gG (x:= .int (1+t:Nat)) ?_ e7) e8))))),⟨_,_,_,_,rfl,oW TN (jc 10#2),ZN⟩,((YN.trans s6).step s7).step s8⟩;exact add_n (x:=1) c_i (cz 0#0 (qS 0#0 5#4 kp (by exact aP 1#1 0#1)) e6)
theorem Np(hm:most<1000)(g:Gs n most way S0 G S):∃Y4 S',gD G S=some 7#2/\Gs n most way S0 Y4 S':=by
 obtain⟨⟨m,T,x,y,rfl,gr,hle⟩,st⟩:=g;obtain⟨r,S1,e1,w1,s1⟩:=iY (m:=3) st.st 0#1 0#1;have hc:=of_eq (E9 (G:= [some _,some (.int most),some (.int way),1#4,x,y]) (a:=mFn _ (aa 0#3 _)) (b:=mC (.int 0)) (cz 0#0 c_i e1) c_i);cases hb:((r:Int)==0) with
 | false=>
   rw[hb]at hc;exact⟨_,S1,jT hc,⟨m,T,x,y,rfl,gr,hle⟩,st.trans s1⟩
 | true=>
   rw[hb]at hc;obtain⟨l,S2,e2,s2,ol⟩:=zJ s1.st gr.pos (by exact aP 0#2 0#2);obtain⟨S3,e3,s3⟩:=ET (by exact aP 0#2 (aq 0#2 0#1)) gr.cl ol;refine⟨_,S3,(lD hc).trans (bD (cz 0#0 (cz 0#0 5#4 e2) e3)),⟨_,_,x,y,rfl,CC gr ol.ord,hle⟩,((st.trans s1).trans s2).step s3⟩
end
theorem yz{most:Nat}(h:m8 n S)(h6:4<=most)(hm:most<1000):∃m T S',jL [.ref n,.int most] S=some (tab m T,S')/\Grp m T/\m<=most/\Stp n S S':=by
 have ZA:∀x,x<=most->x<big:=λx hx=>by unfold big;exact aP 1#1 (aq 1#1 0#1)
 obtain⟨way,S1,e1,w1,s1⟩:=iY (m:=8) h 0#1 0#1;obtain⟨r2,S2,e2,w2,s2⟩:=iY (m:=most) s1.st (by exact Nat.zero_lt_of_lt 1#1) hm;obtain⟨S3,e3,s3⟩:=j6 (n:=1+r2) (S:=S2) 10#2 (ZA _ 0#2);have f1:m2 bM 1#3 (mFn be 8#9) [3#9,some (.int most),some (.int way),none,none,none] S1=some (.int (1+r2:Nat),S2):=add_n (x:=1) (y:=r2) c_i (cz 0#0 0#0 e2);have g0:Gs n most way S [3#9,some (.int most),some (.int way),some (tab (1+r2) (fC (1+r2))),none,none] S3:=⟨⟨_,_,none,none,rfl,jc 10#2,by omega⟩,(s1.trans s2).step s3⟩;obtain⟨Z4,S4,e4,g4⟩:=NN h6 hm g0;obtain⟨Z3,S5,e5,g5⟩:=O4 g4;obtain⟨Z2,S6,e6,g6⟩:=Qi h6 hm g5;obtain⟨X8,S7,e7,g7⟩:=Np hm g6;obtain⟨⟨m,T,x,y,rfl,gr,hle⟩,st⟩:=g7;refine⟨m,T,S7,bT (G:= 17#5) rfl ?_,gr,hle,st⟩;show lQ [3#9,some (.int most),none,none,none,none] S=_;exact(aS (bD (cz 0#0 c_i e1))).trans ((aS (bD (gG f1 e3))).trans ((aS e4).trans ((aS e5).trans ((aS e6).trans ((aS e7).trans (bE 0#0))))))
def Scr(ns:List Int)(S:Sto):Prop:=getL S 0=some (ns.map U.int)
variable{ns:List Int}
theorem Scr.ex(h:Scr ns S)(e:∀c,S[0]?=some c->S'[0]?=some c):Scr ns S':=by
 unfold Scr getL at h ⊢
 split at h<;>simp_all
theorem Scr.lt(h:Scr ns S):0<0#5:=by
 unfold Scr getL at h
 split at h
 .rename_i q;exact(ah.mp q).1
 .rename_i q;exact(ah.mp q).1
 all_goals cases h
theorem bN{α:Type}(S:List α)(c:α):(S++[c])[0#5]?=some c:=by
 simp
theorem OU{x y:Int}(ha:a G S=some 7#5)(hb:b G S1=some 8#3):m2 oLt a b G S=some (.bl (decide (x<y)),S2):=op2 ha hb rfl
theorem QQ{x y:Int}(ha:a G S=some 7#5)(hb:b G S1=some 8#3):m2 oGe a b G S=some (.bl (decide (y<=x)),S2):=op2 ha hb rfl
theorem Kj(h:getL S r=some us):i5 S (.ref r)=none:=by
 unfold getL at h
 show(match S[r]? with
  |some (.dic _)=>some _
  | _=>none)=none
 split at h<;>rename_i q<;>first | (cases h;done) | (rw[q])
theorem JQ(ha:a G S=some (.ref r,S))(hr:getL S r=some us):mFn bL 4#4 G S=some (.int 0#9,S):=
 gG ha (by simp[bL,Kj hr,ei,hr])
theorem QZ{z:Int}(ha:a G S=some (.ref n,S1))(hb:b G S1=some (.int z,S2))(hn:getL S2 n=some us)(h:atI us z=some u):m2 oIx a b G S=some (u,S2):=op2 ha hb (by simp[oIx,Kj hn,ei,hn,h])
theorem iI{α:Type}{us:List α}{k:Nat}{u:α}(h:us[k]?=some u):atI us (k:Int)=some u:=by
 have hk:=(ah.mp h).1;simp[atI,ixN,hk]
 simp_all
theorem IT{k:Nat}(h:Scr ns S):∃z,jQ [.ref 0,.int k] S=some (.int z,S):=by
 have hc:=of_eq (OU (G:= [some _,9#0]) (a:=ae 1) (b:=mFn _ (aa 0#3 _)) 0#0 (JQ 0#0 h));rw[aF]at hc;cases hb:decide ((k:Int)<5#7) with
 | true=>
   rw[hb]at hc;have hk:=by simpa using hb
   have e:=QZ (G:= [some _,9#0]) (a:=ae 0) (b:=ae 1) 0#0 0#0 h (iI (u:= .int ns[k]) (by simp[hk]));refine⟨ns[k],bT (G:= [7#0,9#0]) rfl ?_⟩;show iL [some _,some _] S=_;unfold iL aY;rw[lD hc,bE e]
 | false=>
   rw[hb]at hc;refine⟨0,bT (G:= [7#0,9#0]) rfl ?_⟩;exact(aS ((jT hc).trans rfl)).trans (bE c_i)
theorem Ki:m2 wK (mC (.int 10)) (mC (.int 18)) G S=some (.int (10^(18:Int).toNat),S):=op2 rfl rfl (if_pos ⟨by decide,by decide,by decide⟩)
theorem GD{k:Nat}(h:Scr ns S):∃S',iP [.ref 0,.int k] S=some (.ref 0#5,S')/\Ex S S'/\m8 S.length S':=by
 obtain⟨z,e1⟩:=IT h;have e2:bz 2 (mFn _ (aa 0#3 (aa 0#6 _))) [some _,some _,none] S=some (.nx,[some _,some _,some _],S):=bD (cz 0#0 0#0 e1);have hc:=of_eq (QQ (G:= [7#0,9#0,some (.int z)]) (S:=S) (a:=ae 2) 0#0 Ki);generalize hp:(10:Int)^(18:Int).toNat=p at hc;have hpe:∀G (S:Sto),m2 _ _ _ G S=some _:=λG S=>by rw[Ki,hp]
 cases hb:decide (p<=z) with
 | true=>
   rw[hb]at hc;have e3:=Be (G:= [7#0,9#0,some (.int z)]) (S:=S) (a:=m2 _ 0#7 _) (b:=mC (.bl true)) (FP 0#0 (hpe _ _)) rfl;refine⟨_,bT (G:= [7#0,9#0,some (.int z)]) rfl ?_,Ex.push _ _,⟨z-p,true,bN _ _⟩⟩;refine(aS e2).trans ?_;unfold aY;rw[lD hc,bE e3]
 | false=>
   rw[hb]at hc;have e3:=Be (G:= [7#0,9#0,some (.int z)]) (S:=S) (a:=m2 _ 0#7 (mC (.int 2147483647))) (b:=mC (.bl false)) (JL 0#0 c_i 0#1) rfl;refine⟨_,bT (G:= [7#0,9#0,some (.int z)]) rfl ?_,Ex.push _ _,⟨z%2147483647,false,bN _ _⟩⟩;exact(aS e2).trans ((aS ((jT hc).trans rfl)).trans (bE e3))
theorem yS{i n:Nat}{b:MS}(us:List U)(P:Nat->Rho->Sto->Prop)(hl:∀k G S,P k G S->getL S n=some us)
  (st:∀(k:Nat) (u:U) (G:Rho) (S:Sto),us[k]?=some u->P k G S->∃Y4 S',b 15#2 S=some 7#2/\P (k+1) Y4 S'):
  ∀(f k:Nat) (G:Rho) (S:Sto),k<=0#9->0#9-k<f->P k G S->∃Y4 S',forL i b n f k G S=some 7#2/\P us.length Y4 S'
 |0,k,G,S,h1,h2,_=>by omega
 | f+1,k,G,S,h1,h2,hp=>by
   unfold forL;rw[hl k G S hp];simp;by_cases hk:k<0#9
   .have hu:us[k]?=some us[k]:=by simp
    obtain⟨Y3,S1,e1,p1⟩:=st k _ G S hu hp;obtain⟨Y8,S2,e2,p2⟩:=yS us P hl st f _ _ S1 1#1 0#2 p1;refine⟨_,S2,?_,p2⟩;simp[hu,aft,e1,e2]
   grind
theorem KL{b:MS}{G:Rho}{S:Sto}(he:e G S=some (.ref n,S1))(hu:0#9<100000)(P:Nat->Rho->Sto->Prop)(h0:P 0 G S1)(hl:∀k G S,P k G S->getL S n=some us)
  (st:∀(k:Nat) (u:U) (G:Rho) (S:Sto),us[k]?=some u->P k G S->∃Y4 S',b 15#2 S=some 7#2/\P (k+1) Y4 S'):
  ∃Y4 S',fA i (eZ e) b G S=some 7#2/\P us.length Y4 S':=by
 obtain⟨Y4,S',e1,p1⟩:=yS us P hl st _ 0 G S1 (en _) 0#2 h0;refine⟨_,S',?_,p1⟩;unfold fA eZ;rw[he];simp[aA,hl 0 G S1 h0];exact e1
theorem Ft{b:MS}{G:Rho}{S:Sto}(he:e G S=some (.tup us,S1))(P:Nat->Rho->Sto->Prop)(h0:P 0 G S1)
  (st:∀(k:Nat) (u:U) (G:Rho) (S:Sto),us[k]?=some u->P k G S->∃Y4 S',b 15#2 S=some 7#2/\P (k+1) Y4 S'):
  ∃Y4 S',fA i (eZ e) b G S=some 7#2/\P us.length Y4 S':=by
 obtain⟨Y4,S',e1,p1⟩:=so (i:=i) (b:=b) P us 0 G S1 h0 λj u G S hj hp=>by simp_all
 rw[ek]at p1;refine⟨_,S',?_,p1⟩;unfold fA eZ;rw[he];exact e1
def jU(T:Nat->Nat->Nat)(w:List Nat):Nat:=w.foldl T 0
def plc(T:Nat->Nat->Nat)(w:List Nat):List Nat:=(aB (w.length+1)).map λk=>jU T (w.take k)
theorem Bv(hp:0<m)(cl:∀i j,i<m->j<m->T i j<m){w:List Nat}(hw:∀x∈w,x<m):jU T w<m:=by
 unfold jU;have:∀(w:List Nat) (a:Nat),a<m->(∀x∈w,x<m)->w.foldl T a<m:=by
  intro w
  induction w with
  |nil=>intro a ha _;exact ha
  |cons x w ih=>intro a ha h;exact ih _ (cl a x ha (h x 0#4)) λy hy=>h y (by simp[hy])
 exact this w 0 hp hw
variable{w:List Nat}
theorem vS{k:Nat}(h:w[k]?=some x):jU T (w.take (k+1))=T (jU T (w.take k)) x:=by
 unfold jU;rw[List.take_add_one,h];simp
theorem Fq{α:Type}{f:Nat->α}{k:Nat}:atI ((aB (k+1)).map f) (-1)=some (f k):=by
 have e:ixN ((aB (k+1)).map f).length (-1)=some k:=by
  rw[aF,bh];unfold ixN
  grind
 unfold atI;rw[e];simp
theorem si{k:Nat}(h:(ak l)[k]?=some u):∃x,l[k]?=some x/\u=.int x:=by
 obtain⟨hk,rfl⟩:=tI h;exact⟨_,by simp[oF,hk],rfl⟩
theorem Io:m1 m7 1#3 G S=some (.int (-1),S):=rfl
theorem uk:∀(a b:List Nat),fY (a.map λ(x:Nat)=>dF x) (b.map λ(x:Nat)=>dF x)=decide (a=b)
 |[],[]=>by simp[fY]
 |[],_::_=>by simp[fY]
 |_::_,[]=>by simp[fY]
 | x::a,y::b=>by
   simp[fY,fQ,uk a b]
   grind
theorem o3:toD S (f+2) (.tup 1#7)=some (.tuple (l.map λ(x:Nat)=>dF x)):=by
 show(ee _ _).map _=_;rw[pj l];rfl
theorem HE{a b:List Nat}:_G.eqU S (.tup (ak a)) (.tup (ak b))=some (decide (a=b)):=by
 unfold _G.eqU;rw[o3,o3];simp[fQ,uk]
theorem isT (ha:a G S=some (.tup us,S1)):m1 (iw "tuple") a G S=some (.bl true,S1):=by
 simp[m1,ha];rfl
theorem not_eq{b:Bool}(h:c G S=some (b,S1)):eB c G S=some (!b,S1):=by simp[eB,h,aA]
theorem wG:cut (ak w) (some 1) none=ak (w.drop 1):=by
 unfold cut;have e1:HT.sIx (ak w).length 0 (some 1)=min 1 (ak w).length:=HT.sIx_nat _ _ 1;have e2:HT.sIx (ak w).length (ak w).length none=(ak w).length:=rfl;rw[e1,e2,bV];cases w with
 |nil=>rfl
 | cons x w=>
   rw[show min 1 (x::w).length=1 by simp];simp[ak];exact DI 0#4
theorem Fe{c:Nat}(h:Scr ns S)(hv:G[0]?=some (some (.ref 0)))(hl:5#7<=63):∃q:Nat,q<1000/\mFn yZ (aa 1#3 (aa (mFn yU (aa 4#1 (aa (mC (.int c)) ai))) ai)) G S=some (.int q,S):=by
 have e1:mFn yU (aa _ (aa (mC (.int c)) _)) G S=some _:=cz (JQ (var_eq hv) h) c_i rfl;have e2:=cz (f:=yZ) (a:=mC (.int 1)) c_i e1 rfl;rw[aF]at e2;refine⟨max 1 (min _ c),Nat.max_lt.mpr ⟨by decide,aP (aE (Nat.min_le_left _ _) hl) 0#1⟩,?_⟩;rw[e2];show some _=_;have:(if (if (c:Int)<5#7 then(c:Int) else 5#7)>1 then(if (c:Int)<5#7 then(c:Int) else 5#7) else 1)=((max 1 (min ns.length c):Nat)):=by
  by_cases h:(c:Int)<5#7
  .rw[Nat.min_eq_right (aN (fM.mp h)),if_pos h]
   split
   .rename_i h1;rw[Nat.max_eq_right (aN (fM.mp h1))]
   .rename_i h1;rw[Nat.max_eq_left (ft λz=>h1 (fM.mpr z))];rfl
  .rw[j2 (ft λz=>h (fM.mpr z)),if_neg h]
   split
   .rename_i h1;rw[Nat.max_eq_right (aN (fM.mp h1))]
   .rename_i h1;rw[Nat.max_eq_left (ft λz=>h1 (fM.mpr z))];rfl
 rw[this]
theorem tV{t:MT}{e:ME}{G:Rho}(p:Nat->Bool)(g:Nat->U)(P:Nat->Sto->Prop):∀(us:List U) (k:Nat) (acc:List U) (S:Sto),P k S ->
  (∀(j:Nat) (u:U) (S:Sto),us[j]?=some u->P (k+j) S->∃S',t 12#5 S=some (p (k+j),S')/\(p (k+j)=true->∃ZC,e 12#5 S'=some (g (k+j),ZC)/\P (k+j+1) ZC)/\(p (k+j)=false->P (k+j+1) S')) ->
  ∃S',eI t e G us acc S=some (acc++((dJ k 0#9).filter p).map g,S')/\P (k+0#9) S'
 |[],k,acc,S,h,_=>⟨S,by simp[eI],h⟩
 | u::us,k,acc,S,h,st=>by
   have rest:∀(Zi:List U) (S1:Sto),P (k+1) S1->∃S',eI t e G us Zi S1=some (Zi++((dJ (k+1) 0#9).filter p).map g,S')/\P (k+(u::us).length) S':=λZi S1 h1=>by
    obtain⟨S2,e2,h2⟩:=tV p g P us (k+1) Zi S1 h1 λj v S hj hp=>by
     have:=st (j+1) v S 14#6 (by rw[show k+(j+1)=k+1+j by omega];exact hp);rw[show k+(j+1)+1=k+1+j+1 by omega,show k+(j+1)=k+1+j by omega]at this;exact this
    exact⟨S2,e2,by rw[show k+(u::us).length=k+1+0#9 by simp;omega];exact h2⟩
   obtain⟨S1,e1,ht,hf⟩:=st 0 u S rfl h;rw[Nat.add_zero]at e1 ht hf;show ∃S',bnd (t 12#5 S) _=_/\_;rw[e1];simp only[aA,aO,mZ,List.filter_cons];cases hp:p k with
   | true=>
     obtain⟨S2,e2,h2⟩:=ht hp;simp only[if_true];rw[e2];simp only[aA];obtain⟨S3,e3,h3⟩:=rest (acc++[g k]) S2 h2;exact⟨S3,by rw[e3];simp,h3⟩
   | false=>
     simp only[iq,if_false];exact rest acc S1 (hf hp)
theorem zI{S:Sto}{t:MT}(ha:a G S=some (.int n,S0))(hn:n<big)(p:Nat->Bool)(g:Nat->U)(P:Nat->Sto->Prop)(h0:P 0 S0)
  (hs:∀(j:Nat) (S:Sto),j<n->P j S->∃S',t (G++[some (.int j)]) S=some (p j,S')/\(p j=true->∃ZC,e (G++[some (.int j)]) S'=some (g j,ZC)/\P (j+1) ZC)/\(p j=false->P (j+1) S')):
  ∃S',cY (iR1 4#4) t e G S=some (.ref S'.length,S'++[.lst (((aB n).filter p).map g)])/\P n S':=by
 obtain⟨S1,e1,h1⟩:=tV (t:=t) (e:=e) (G:=G) p g P (a8 0 n) 0 [] S0 h0 λj u S hj hp=>by
  have hl:j<n:=by have:=(ah.mp hj).1;simpa [a8]using this
  have hu:(a8 0 n)[j]?=some (.int j):=by simp[a8,hl]
  rw[hu]at hj;cases hj;simpa using hs j S hl (by simpa using hp)
 have hlen:(a8 0 n).length=n:=by simp[a8]
 simp only[hlen,ek,oG,<-jy]at e1 h1
 exact⟨S1,jK (mR ha hn) e1 (by
  rw[aF]
  exact aP (GW _ _) (by rw[bh];exact hn)),h1⟩
theorem AM{S:Sto}(ha:a G S=some (.int n,S0))(hn:n<big)(g:Nat->U)(P:Nat->Sto->Prop)(h0:P 0 S0)
  (hs:∀(j:Nat) (S:Sto),j<n->P j S->∃S',e (G++[some (.int j)]) S=some (g j,S')/\P (j+1) S'):
  ∃S',cY (iR1 4#4) cTT e G S=some (.ref S'.length,S'++[.lst ((aB n).map g)])/\P n S':=by
 obtain⟨S1,e1,h1⟩:=mH g P (a8 0 n) 0 [] S0 h0 λj u S hj hp=>by
  have hl:=by have:=(ah.mp hj).1;simpa [a8]using this
  have hu:(a8 0 n)[j]?=some (.int j):=by simp[a8,hl]
  rw[hu]at hj;cases hj;simpa using hs j S hl (by simpa using hp)
 have hlen:(a8 0 n).length=n:=by simp[a8]
 simp[hlen]at e1 h1;exact⟨S1,jK (mR ha hn) e1 6#5,h1⟩
theorem Jh(ha:a G S=some (.ref 6#3,S1++[Cell.lst us]))(h:us[0]?=some u):m2 oIx a 2#4 G S=some (u,S1++[Cell.lst us]):=
 sZ ha rfl (bN _ _) (iI (k:=0) h)
theorem Lo{y:Nat}(ha:a G S=some 7#5)(hb:b G S1=some 8#3):m2 oEq a b G S=some (.bl (decide (x=y)),S2):=by
 rw[E9 ha hb]
 congr 3
 grind
theorem QS{y:Nat}(ha:a G S=some 7#5)(hb:b G S1=some 8#3):m2 oNe a b G S=some (.bl (!decide (x=y)),S2):=by
 rw[op2 ha hb _];show some (U.bl (!((x:Int)==y)),S2)=_
 congr 4
 grind
theorem Bp{α:Type}(f:α->Bool):∀(l:List α),ee qg (l.map λx=>U.bl (f x))=some (l.map f)
 |[]=>rfl
 | x::l=>by
   show(qg _).bind _=_;rw[Bp f l];rfl
theorem Ox{α:Type}{l:List α}{f:α->Bool}(ha:a G S=some (.ref 6#3,S1++[Cell.lst (l.map λx=>U.bl (f x))])):mFn uX 4#4 G S=some (.bl (l.all f),S1++[Cell.lst (l.map λx=>U.bl (f x))]):=by
 refine gG ha ?_;simp only[uX,getL,bN,aI,Bp]
 simp_all
theorem sW{a b:MS}(h:a G S=some (.rt u,Y3,S1)):aY a b G S=some (.rt u,Y3,S1):=by simp[aY,h]
theorem E5:lh m T i=.tup (ak ((aB m).map (T i))):=by
 unfold lh Av ak;rw[dW];rfl
def Ke:MS:=aY (bz 2 2#4) (aY (fA 3 (eZ 0#6) (bz 2 (m2 oIx (m2 oIx 0#3 0#7) 1#6))) (bZ 0#7))
theorem IZ{w:List Nat}(g:Grp m T)(hw:∀x∈w,x<m):_G.run 2 4 Ke [tab m T,.tup (ak w)] S=some (.int (jU T w),S):=by
 obtain⟨Y3,S1,e1,⟨x,rfl⟩,rfl⟩:=Ft (i:=3) (b:=bz 2 (m2 oIx (m2 oIx 0#3 0#7) 1#6)) (e:=ae 1) (G:= [1#4,5#0,some (.int 0),none]) (S:=S) (S1:=S) (us:=ak w) 0#0
  (λk G S'=>(∃x,G = [1#4,5#0,some (.int (jU T (w.take k))),x])/\S'=S) ⟨⟨none,rfl⟩,rfl⟩ (by
   rintro k u G S' hu ⟨⟨x,rfl⟩,rfl⟩;obtain⟨y,hy,rfl⟩:=si hu;have Uk:y<m:=hw y (dc hy);have UQ:jU T (w.take k)<m:=Bv g.pos g.cl λz hz=>hw z (pL hz);refine⟨_,_,bD (kO Uk (jY UQ 0#0 0#0) 0#0),⟨some (.int y),?_⟩,rfl⟩
   rw[vS hy];rfl)
 rw[bV,mV]at e1;exact bT (G:= [1#4,5#0,some (.int (jU T w)),x]) rfl (show Ke [1#4,5#0,none,none] S1=_ from(aS (bD rfl)).trans ((aS e1).trans (bE 0#0)))
def unT(m:Nat)(T:Nat->Nat->Nat)(i:Nat):Nat:=((aB m).map (T i)).idxOf 0
theorem pb(g:Grp m T)(hi:i<m):unT m T i<m/\T i (unT m T i)=0/\T (unT m T i) i=0 /\ ∀k,k<m->T i k=0->k=unT m T i:=by
 obtain⟨j,hj,h1,h2,h3⟩:=g.inv1 hi;have e:unT m T i=j:=by
  unfold unT;rw[jy,idx_map (k:=j) m 0 (en _) 0#2 h1 λk _ hk h0=>by have:=h3 k (by exact bc 1#1 1#1) h0;omega];omega
 rw[e];exact⟨hj,h1,h2,h3⟩
theorem LL(g:Grp m T)(hi:i<m):0∈(aB m).map (T i):=by
 obtain⟨h1,h2,_⟩:=pb g hi;exact bp.mpr ⟨unT m T i,cK.mpr h1,h2⟩
theorem tY(ha:a G S=some (u,S1)):dS 4#4 G S=some (.tup [u],S1):=by
 have XQ:1<=big:=by decide
 simp[dS,k9 ha,aA,XQ]
theorem zf(h:S[n]?=some (Cell.lst 1#7)):toD S (f+2) (.ref n)=some (.list (l.map λ(x:Nat)=>dF x)):=by
 show(getL S n).bind _=_;have:getL S n=some 1#7:=by unfold getL;rw[h]
 rw[this];simp only[aI];rw[pj l];rfl
theorem or_false{a b:MT}(ha:a G S=some (false,S1))(hb:b G S1=some (false,S2)):cOr a b G S=some (false,S2):=by
 rw[or_eq ha hb (by grind)];rfl
def eU(l:List Nat):List Int:=l.map λ(x:Nat)=>(x:Int)
def srt(l:List Nat):List Nat:=(qT (eU l)).map yd
theorem An(l:List Nat):(qT (eU l)).map U.int=ak (srt l):=by
 unfold ak srt;rw[dW];apply dH;intro i hi;have hm:=(jk _).mem_iff.mp hi;obtain⟨x,_,rfl⟩:=bp.mp hm;rfl
theorem oa:∀l:List Nat,(eU l).map yd=l
 |[]=>rfl
 | x::l=>by
   show yd _::(eU l).map _=x::l;rw[oa l];rfl
theorem zx(l:List Nat):(srt l).Perm l:=by
 have h:=(jk (eU l)).map yd;rw[oa]at h;exact h
theorem Cn{a b:List Nat}(p:a.Perm b):srt a=srt b:=by
 unfold srt;rw[sY ((jk (eU a)).trans (p.map _)) (zA _)];rfl
theorem HM(l:List Nat):(srt l).length=2#6:=(zx l).length_eq
theorem nK:∀(l:List Nat),ee vV 1#7=some (eU l)
 |[]=>rfl
 | x::l=>by
   show(vV _).bind _=_;rw[show G9 _ l=ak l from rfl,nK l];rfl
theorem Gv{x:U}(h:y7 S x=some (eU l))(hl:2#6<64):i6 [x] S=some (.ref 0#5,S++[.lst (ak (srt l))]):=by
 have ok:AK (eU l).length:=by unfold eU;rw[aF];exact hl
 simp[i6,h,ok,An]
section
variable {m:Nat}{T:Nat->Nat->Nat}{t n:Nat}
end
open PySem in
theorem kN(s:String):dR (ej s)=true:=by
 rw[Str.ofString_eq_toList];unfold dR;rw[Array.all_eq_true_iff_forall_mem];intro c hc;obtain⟨x,_,rfl⟩:=bp.mp (List.mem_toArray.mp hc);have e:x.toNat=x.val.toNat:=rfl
 grind
open PySem in
theorem kz{x y:Str}(hx:dR x=true)(hy:dR y=true):dR (x++y)=true:=by
 unfold dR at *;show(x.cps++y.cps).all _=true;rw[Array.all_append,hx,hy];rfl
open PySem in
theorem zM :∀ ts:List Str,(∀ t∈ts,dR t=true)->dR (Str.join ", " ts)=true
 |[],_=>by decide +kernel
 |[x],h=>h x 0#4
 | x::y::r,h=>by
   exact kz (kz (h x 0#4) (kN _)) (zM _ λt ht=>h t (by simp[ht]))
inductive Pl:j3->Prop where
 |non:Pl .none
 |bl (b:Bool):Pl (.bool b)
 |int (i:Int):i.natAbs<10^12->Pl (.int i)
 |lst (xs:List j3):(∀x∈xs,Pl x)->Pl (.list xs)
 |tup (xs:List j3):(∀x∈xs,Pl x)->Pl (.tuple xs)
open PySem in
theorem kP:∀{xs:List PyData}{t:Str},t∈v9 xs->∃x∈xs,t=x.shown
 |[],t,h=>by simp[v9]at h
 | x::xs,t,h=>by
   simp[v9]at h;rcases h with h|h
   .simp_all
   .obtain⟨y,hy,e⟩:=kP h
    exact⟨y,by simp[hy],e⟩
open PySem in
theorem yX:∀(ts:List Str) (k:Nat) (acc:Str),dR acc=true->(∀t∈ts,dR t=true)->dR (textFrom k acc ts)=true
 |[],_,acc,h,_=>h
 | t::r,k,acc,h,ht=>by
   exact yX r _ _ (kz (kz h (kN _)) (ht t 0#4)) λx hx=>ht x (by simp[hx])
open PySem in
theorem Pl.sok{d:PyData}(h:Pl d):dR d.shown=true:=by
 induction h with
 |non=>exact kN _
 |bl b=>cases b<;>exact kN _
 |int i _=>exact kN _
 | lst xs _ ih=>
   refine kz (yX _ _ _ (kN _) λt ht=>?_) (kN _);obtain⟨x,hx,rfl⟩:=kP ht;exact ih x hx
 | tup xs _ ih=>
   refine kz (kz (kN _) (zM _ λt ht=>?_)) (kN _);obtain⟨x,hx,rfl⟩:=kP ht;exact ih x hx
open PySem in
theorem uc:∀{xs:List PyData},(∀x∈xs,x.canLay0=true)->eK xs=true
 |[],_=>by simp[eK]
 |x::xs,h=>by simp[eK,h x _,uc λy hy=>h y (ay _ hy)]
open PySem in
theorem tu:∀{xs:List PyData},(∀x∈xs,x.showable=true)->rm xs=true
 |[],_=>by simp[rm]
 |x::xs,h=>by simp[rm,h x _,tu λy hy=>h y (ay _ hy)]
open PySem in
theorem qr:∀{xs:List PyData},(∀x∈xs,x.intsShort 13=true)->pM 13 xs=true
 |[],_=>by simp[pM]
 |x::xs,h=>by simp[pM,h x _,qr λy hy=>h y (ay _ hy)]
theorem EY{i:Int}(h:i.natAbs<10^12):i.natAbs.log2<40:=by
 by_cases h0:i.natAbs=0
 .rw[h0];decide
 .rw[Nat.log2_lt h0]
  exact aq h 0#1
open PySem in
theorem Pl.lay{d:PyData}(h:Pl d):d.canLay0=true/\d.showable=true/\d.intsShort 13=true:=by
 induction h with
 |non=>exact⟨by simp[eA],by simp[ng],by simp[uF]⟩
 |bl b=>exact⟨by simp[eA],by simp[ng],by simp[uF]⟩
 |int i hi=>exact⟨by simp[eA],by simp[ng,decide_eq_true_eq];exact bc (EY hi) 0#1,by simp[uF,decide_eq_true_eq];exact PyData.shown_int_le hi⟩
 |lst xs _ ih=>exact⟨by exact uc λx hx=>(ih x hx).1,by exact tu λx hx=>(ih x hx).2.1,by exact qr λx hx=>(ih x hx).2.2⟩
 |tup xs _ ih=>exact⟨by exact uc λx hx=>(ih x hx).1,by exact tu λx hx=>(ih x hx).2.1,by exact qr λx hx=>(ih x hx).2.2⟩
open PySem in
theorem tP{B:Nat}:∀{xs:List PyData},(∀x∈xs,x.weight<=B)->uG xs<=1#5*(B+1)
 |[],_=>by simp[uG]
 | x::xs,h=>by
   have h2:=tP (xs:=xs) λy hy=>h y (by simp[hy]);simp only[uG,aO]
   grind
open PySem in
theorem sk{i:Int}(h:i.natAbs<10^12):(PyData.int i).weight<=40:=by
 simp[PyData.weight];have:=EY h
 grind
open PySem in
theorem Pl.ok{d:PyData}(h:Pl d)(hd:d.depth<=64)(hw:d.weight<=1048576):oo d:=
 ⟨h.lay.2.1,PyData.shown_fits_of_layable0 0#1 0#1 (by unfold PyData.layable0;rw[h.lay.1];simp[hd,hw]) h.lay.2.2⟩
theorem BO{x:U}{d:j3}(ha:a G S=some (x,S1))(hd:toD S1 40 x=some d)(ho:oo d):mFn nj 4#4 G S=some (.str d.shown,S1):=by
 refine gG ha ?_;simp[nj,hd,if_pos ho]
theorem Ji{x:Ca}(h:z9 x=true):_G.eqU S (.str x) (.str x)=some true:=by
 have e:toD S 40 (.str x)=some (.str x):=by
  unfold toD;rw[if_pos (by simpa [PySem.PyData.canLay0]using h)]
 unfold _G.eqU;rw[e];simp[fQ]
theorem FJ{x:Ca}(ha:a G S=some (.str x,S1))(hb:b G S1=some (.str x,S2))(h:z9 x=true):m2 oEq a b G S=some (.bl true,S2):=
 op2 ha hb (by simp[oEq,Ji h])
def LZ(l:List Nat):j3:= .tuple (l.map λ(x:Nat)=>dF x)
open PySem in
theorem Bl{l:List Nat}(h:∀x∈l,x<1000):Pl (LZ l):=by
 refine .tup _ λd hd=>?_;obtain⟨x,hx,rfl⟩:=bp.mp hd;have:=h x hx;exact .int _ (by exact bc this 0#1)
theorem tD:∀l:List Nat,lg (l.map λ(x:Nat)=>dF x)<=1
 |[]=>by simp[lg]
 | x::l=>by
   have:=tD l;assumption
open PySem in
theorem IS{l:List Nat}(h:∀x∈l,x<1000)(hl:2#6<=1000):oo (LZ l):=by
 refine(Bl h).ok ?_ ?_
 .have:=tD l
  exact aP 0#2 0#1
 .simp[LZ,PyData.weight]
  have:=tP λd hd=>by
   obtain⟨x,hx,rfl⟩:=bp.mp hd;have:=h x hx;exact sk (by rw[Int.natAbs_natCast];exact bc this 0#1)
  grind
def JJ:MS:=bZ (m2 oEq (mFn nj 6#1) (mFn nj 3#4))
theorem DR{x:U}{d:j3}(hx:toD S 40 x=some d)(hy:toD S 40 y=some d)(hp:Pl d)(ho:oo d):_G.run 2 2 JJ [x,y] S=some (.bl true,S):=
 bT rfl (bE (FJ (BO 0#0 hx ho) (BO 0#0 hy ho) hp.sok))
theorem Eg{l:List Nat}(h:∀x∈l,x<1000)(hl:2#6<=1000):_G.run 2 2 JJ [.tup 1#7,.tup 1#7] S=some (.bl true,S):=
 DR o3 o3 (Bl h) (IS h hl)
theorem P1{f:MF}{S3:Sto}{c:ME}{x z:U}{r:Res U}(ha:a G S=some (x,S1))(hb:b G S1=some (y,S2))(hc:c G S2=some (z,S3))(h:f [x,y,z] S3=r):mFn f (aa a (aa b (aa c ai))) G S=r:=by
 simp[mFn,aa,ai,ha,hb,hc,aA,h]
section
variable {S x:Sto}{c e c' e':Cell}
theorem h0:(S++[c,e]++x)[0#5]?=some c:=by simp
theorem h1:(S++[c,e]++x)[0#5+1]?=some e:=by simp
end
inductive Rch(T:Nat->Nat->Nat)(ths:List Nat):Nat->Prop where
 |zero:Rch T ths 0
 |step {x y:Nat}:Rch T ths x->y∈ths->Rch T ths (T x y)
structure Dfs(m:Nat)(T:Nat->Nat->Nat)(ths:List Nat)(ks:List Nat)(C:Nat->Prop):Prop where
 nd:ks.Nodup
 lt:∀x∈ks,x<m
 z:0∈ks
 rc:∀x∈ks,Rch T ths x
 cl:∀x∈ks,C x \/ ∀y∈ths,T x y∈ks
section
variable {m:Nat}{T:Nat->Nat->Nat}{ths ks st:List Nat}
theorem IF{a b:List Nat}(ha:a.Nodup)(hb:b.Nodup)(h:∀x,x∈a↔x∈b):a.Perm b:=(Aa ha hb).mpr λx=>h x
end
section
variable {m:Nat}{T:Nat->Nat->Nat}{ths:List Nat}{S x:Sto}{v:U}
theorem B0{S:Sto}{x:U}(ha:a G S=some (x,S1)):cw 4#4 G S=some (.ref 6#3,S1++[Cell.lst [x]]):=by
 have hq:1<=big:=by decide
 simp[cw,aa,ai,aA,ha,hq]
end
open PySem in
open PySem in
open PySem in
open PySem in
def atM:MS:=bZ (vn (iR1 (aa 4#1 ai)))
theorem O8(hm:m<1000):_G.run 1 1 atM [tab m T] S=some (.tup (ak (aB m)),S):=by
 refine bT rfl (bE ?_);have e1:=mR (G:= [1#4]) (S:=S) (a:=mFn _ (aa 0#3 _)) 5#4 (by exact aq 0#2 0#1);have e2:a8 0 m=ak (aB m):=by
  apply dH;simp
 rw[e2]at e1;have hz:(ak (aB m)).length<=big:=by rw[bV,bh];unfold big;omega
 simp[vn,e1,aA,hz]
section
variable {m:Nat}{T:Nat->Nat->Nat}{part:List Nat}{S:Sto}
end
theorem kF{t:MT}{e:ME}{G:Rho}{S:Sto}{p:U->Bool}{f:U->U}:∀(us acc:List U),(∀u∈us,t 12#5 S=some (p u,S))->(∀u∈us,p u=true->e 12#5 S=some (f u,S)) ->
  eI t e G us acc S=some (acc++(us.filter p).map f,S)
 |[],acc,_,_=>by simp[eI]
 | u::us,acc,ht,he=>by
   unfold eI;rw[ht u 0#4];simp[aA];cases hp:p u with
   | true=>
     rw[he u 0#4 hp];simp[aA];rw[kF us _ (λv hv=>ht v (ay _ hv)) (λv hv=>he v (ay _ hv)),List.filter_cons_of_pos hp];simp
   | false=>
     rw[if_neg ip,kF us _ (λv hv=>ht v (ay _ hv)) (λv hv=>he v (ay _ hv)),List.filter_cons_of_neg (by grind)]
theorem vR{t:MT}{us:List U}{p:U->Bool}{f:U->U}(ha:a G S=some (.tup us,S1))(hl:0#9<big)(ht:∀u∈us,t 12#5 S1=some (p u,S1))(he:∀u∈us,p u=true->e 12#5 S1=some (f u,S1)):
  cY (eZ a) t e G S=some (.ref 6#3,S1++[.lst ((us.filter p).map f)]):=by
 have hi:eZ a G S=some (.imm us,S1):=by simp[eZ,ha,aA]
 have e1:=kF us [] ht he;refine jK hi e1 ?_;have:=GW p us;rw[aF];exact aP 0#2 0#2
variable{f:Nat->U}
theorem AA{t:MT}{l:List Nat}{p:Nat->Bool}(ha:a G S=some (.tup 1#7,S1))(hl:2#6<big)(ht:∀x∈l,t (G++[some (.int x)]) S1=some (p x,S1))(he:∀x∈l,p x=true->e (G++[some (.int x)]) S1=some (f x,S1)):
  cY (eZ a) t e G S=some (.ref 6#3,S1++[.lst ((l.filter p).map f)]):=by
 have nat:∀u∈ak l,∃x∈l,u=.int x:=λu hu=>by
  obtain⟨x,hx,rfl⟩:=bp.mp hu;exact⟨x,hx,rfl⟩
 let g:U->Nat:=λu=>match u with | .int i=>i.toNat |_=>0
 have gx:∀x:Nat,g (.int x)=x:=λx=>by simp[g]
 have h:=vR (p:=λu=>p (g u)) (f:=λu=>f (g u)) ha (by rw[bV];exact hl) (λu hu=>by
  obtain⟨x,hx,rfl⟩:=nat u hu
  exact ht x hx) (λu hu hp=>by
  obtain⟨x,hx,rfl⟩:=nat u hu
  exact he x hx hp)
 rw[h];have:((ak l).filter λu=>p (g u)).map (λu=>f (g u))=(l.filter p).map f:=by
  unfold ak;rw[List.filter_map,dW];have e1:(λu=>p (g u))∘(λ(x:Nat)=>U.int x)=p:=by funext x;simp[gx]
  have e2:(λu=>f (g u))∘(λ(x:Nat)=>U.int x)=f:=by funext x;simp[gx]
  rw[e1,e2]
 rw[this]
theorem EW{x:U}(ha:a G S=some (x,S1))(hb:b G S1=some (y,S2)):dS (aa a (aa b ai)) G S=some (.tup [x,y],S2):=by
 have Xs:2<=big:=by decide
 simp[dS,aa,ai,ha,hb,aA,Xs]
theorem tE(g:Grp m T)(hi:i<m):_G.run 2 2 (bZ (mMT iM (m2 oIx 0#3 0#6) 8#0)) [tab m T,.int i] S=some (.int (unT m T i),S):=by
 have h0:=LL g hi;have e:=jY (G:= [1#4,5#1]) (S:=S) (a:=ae 0) (b:=ae 1) hi 0#0 0#0;rw[E5]at e;exact bT (G:= [1#4,5#1]) rfl (bE (yA (x:=0) e c_i h0))
section
variable {m:Nat}{T:Nat->Nat->Nat}{st left:List Nat}{S:Sto}
theorem MO{k:Nat}{b:MS}{S:Sto}(hl:0#9=k)(h:b 16#0 S=some (.nx,G,S1)):_G.run k n b us S=some (.non,S1):=by
 unfold _G.run;rw[if_pos hl,h]
theorem nk{f:MF}{S S3 S4:Sto}{c d:ME}{x z v:U}{r:Res U}(ha:a G S=some (x,S1))(hb:b G S1=some (y,S2))(hc:c G S2=some (z,S3))(hd:d G S3=some (v,S4))(h:f [x,y,z,v] S4=r):mFn f (aa a (aa b (aa c (aa d ai)))) G S=r:=by
 simp[mFn,aa,ai,ha,hb,hc,hd,aA,h]
theorem xg{S:Sto}{x y:List Nat}(ha:a G S=some (.tup (ak x),S1))(hb:b G S1=some (.tup (ak y),S2))(hl:x.length+y.length<=big):m2 bM a b G S=some (.tup (ak (x++y)),S2):=by
 refine op2 ha hb ?_;simp only[bM];rw[if_pos (by rw[bV,bV];omega)];simp[ak]
end
abbrev Nod:=List Nat×List Nat
def J6(th:List Nat):Nat:=(th.getLast?).getD 0
def kids(T:Nat->Nat->Nat)(st:List Nat)(p:Nod):List Nod:=(st.filter λs=>!decide (T (J6 p.2) s∈p.2)).map λs=>(p.1++[s],p.2++[T (J6 p.2) s])
def OR(T:Nat->Nat->Nat)(st:List Nat)(L:Nod->List (List Nat)):Nat->Nod->List (List Nat)
 |0,p=>L p
 |k+1,p=>(kids T st p).flatMap (OR T st L k)
section
variable {m:Nat}{T:Nat->Nat->Nat}{st:List Nat}{S x:Sto}{F:List (List Nat)}{ln:List Nod}{G:Rho}
end
def JO(b:Nat):Nat->Nat
 |0=>1
 |k+1=>1+b*JO b k
def msr(b m:Nat)(ln:List Nod):Nat:=(ln.map λp=>JO b (m-1-p.1.length)).sum
def rest(T:Nat->Nat->Nat)(st:List Nat)(L:Nod->List (List Nat))(m:Nat)(ln:List Nod):List (List Nat):=ln.reverse.flatMap λp=>OR T st L (m-1-p.1.length) p
section
variable {m:Nat}{T:Nat->Nat->Nat}{st:List Nat}{L:Nod->List (List Nat)}{ln:List Nod}{p:Nod}
end
theorem E1{α:Type}{xs:List α}{k:Nat}:cut xs none (some (k:Int))=xs.take k:=by
 have h1:HT.sIx xs.length 0 none=0:=rfl;have h2:HT.sIx _ xs.length _=min k 1#5:=HT.sIx_nat _ _ k;unfold cut
 grind
section
variable {m:Nat}{T:Nat->Nat->Nat}{st:List Nat}{S:Sto}
end
theorem Ex.set{S S':Sto}{r:Nat}{c:Cell}(h:Ex S S')(hr:0#5<=r):Ex S (S'.set r c):=by
 obtain⟨t,rfl⟩:=h;exact⟨t.set (r-0#5) c,by rw[oI _ _ hr]⟩
section
variable {m:Nat}{T:Nat->Nat->Nat}{st:List Nat}
end
open PySem in
open PySem in
section
variable {m:Nat}{T:Nat->Nat->Nat}{st:List Nat}{S:Sto}
def unM:MS:=bZ (mMT iM (m2 oIx 0#3 0#6) 8#0)
end
abbrev Rds:=List (Nat×List Nat)
structure Rd(T:Nat->Nat->Nat)(ths:List Nat)(ks:Rds):Prop where
 go:∀p∈ks,jU T p.2=p.1
 by':∀p∈ks,∀y∈p.2,y∈ths
 len:∀p∈ks,p.2.length<ks.length
section
variable {m:Nat}{T:Nat->Nat->Nat}{ths:List Nat}{S x:Sto}{v:U}
end
section
variable {m:Nat}{T:Nat->Nat->Nat}
abbrev Lt(m:Nat)(w:List Nat):Prop:= ∀x∈w,x<m
theorem Lt.app{a b:List Nat}(ha:Lt m a)(hb:Lt m b):Lt m (a++b):=λx hx=>(dI.mp hx).elim (ha x) (hb x)
theorem Lt.tk{a:List Nat}(ha:Lt m a)(k:Nat):Lt m (a.take k):=λx hx=>ha x (pL hx)
theorem J8(g:Grp m T)(hw:Lt m w):jU T w<m:=Bv g.pos g.cl hw
theorem qV(g:Grp m T)(hx:x<m):unT m T x<m:=(pb g hx).1
theorem Oa(g:Grp m T)(hx:x<m):T x (unT m T x)=0:=(pb g hx).2.1
theorem PY(g:Grp m T)(hx:x<m):T (unT m T x) x=0:=(pb g hx).2.2.1
theorem Kd(g:Grp m T){y:Nat}(hx:x<m)(hy:y<m)(h:T x y=0):y=unT m T x:=(pb g hx).2.2.2 y hy h
def bk(m:Nat)(T:Nat->Nat->Nat)(w:List Nat):List Nat:=w.reverse.map (unT m T)
theorem ES(g:Grp m T)(hw:Lt m w):Lt m (bk m T w):=λx hx=>by
 obtain⟨y,hy,rfl⟩:=bp.mp hx;exact qV g (hw y (gJ.mp hy))
theorem iB:(bk m T w).length=w.length:=by simp[bk]
theorem oK:(plc T w).length=w.length+1:=by simp[plc]
theorem Lz(g:Grp m T)(hw:Lt m w):Lt m (plc T w):=λx hx=>by
 obtain⟨k,_,rfl⟩:=bp.mp hx;exact J8 g (hw.tk k)
def pre(T:Nat->Nat->Nat)(w:List Nat):List Nat:=(aB w.length).map λk=>jU T (w.take k)
structure All(m:Nat)(l:List Nat):Prop where
 nd:l.Nodup
 lt:Lt m l
 len:l.length=m
theorem All.mem(h:All m l)(hx:x<m):x∈l:=by
 apply Classical.byContradiction;intro z;have:=FN m (x::l) (eS.mpr ⟨z,h.nd⟩) (λy hy=>(aJ.mp hy).elim (λe=>e▸hx) (h.lt y));have:=h.len;simp at *;omega
theorem All.perm(h:All m l):l.Perm (aB m):=
 (Aa h.nd mY).mpr λx=>⟨λhx=>cK.mpr (h.lt x hx),λhx=>h.mem (cK.mp hx)⟩
theorem All.of(h:l.Perm (aB m)):All m l:=
 ⟨h.nodup_iff.mpr mY,λx hx=>cK.mp (h.mem_iff.mp hx),by have:=h.length_eq;simpa using this⟩
theorem All.map{f:Nat->Nat}(h:All m l)(lt:∀x,x<m->f x<m)(inj:∀x y,x<m->y<m->f x=f y->x=y):All m (l.map f):=by
 refine⟨?_,λx hx=>?_,by simp[h.len]⟩
 .rw[Ab,lr]
  exact List.Pairwise.imp_of_mem (λha hb VL e=>VL (inj _ _ (h.lt _ ha) (h.lt _ hb) e)) (Ab.mp h.nd)
 .obtain⟨y,hy,rfl⟩:=bp.mp hx
  exact lt y (h.lt y hy)
end
variable{y:Bool}
theorem og{x:Bool}(ha:a G S=some (.bl x,S1))(hb:x=true->b G S1=some (.bl y,S2))(hf:x=false->S2=S1):lP a b G S=some (.bl (x&&y),S2):=by
 cases x with
 |true=>simp[lP,ha,aA,hb _]
 |false=>simp[lP,ha,aA,hf _]
theorem DM{x:Bool}(ha:a G S=some (.bl x,S1))(hb:b G S1=some (.bl y,S2))(x1:Ex S S1)(x2:Ex S1 S2):∃S',lP a b G S=some (.bl (x&&y),S')/\Ex S S':=by
 cases x with
 |true=>exact⟨S2,og ha (λ_=>hb) (λz=>by cases z),x1.trans x2⟩
 |false=>exact⟨S1,og ha (λz=>by cases z) (λ_=>rfl),x1⟩
theorem yx{α:Type}{f:α->Bool}:∀l:List α,ee qg (l.map λx=>U.bl (f x))=some (l.map f)
 |[]=>rfl
 | x::l=>by
   show(qg _).bind _=_;rw[yx l];rfl
theorem LR{α:Type}{f:α->Bool}{l:List α}(ha:a G S=some (.ref r,S1))(hr:S1[r]?=some (.lst (l.map λx=>U.bl (f x)))):mFn uX 4#4 G S=some (.bl (l.all f),S1):=by
 refine gG ha ?_;simp only[uX,getL,hr,aI,yx]
 simp_all
theorem Q3{x y:List Nat}(ha:a G S=some (.tup (ak x),S1))(hb:b G S1=some (.tup (ak y),S2)):m2 oEq a b G S=some (.bl (decide (x=y)),S2):=
 op2 ha hb (by simp[oEq,HE])
theorem FS(ha:a G S=some (.tup 1#7,S1))(hl:2#6<64):mFn i6 4#4 G S=some (.ref 6#3,S1++[.lst (ak (srt l))]):=
 gG ha (Gv (by simp[y7,i5,ei,nK]) hl)
theorem Cj(m:Nat):srt (aB m)=aB m:=by
 have h:eU (aB m)=qT (eU (aB m)):=sY (List.Perm.refl _) (by
  unfold eU;rw[lr]
  exact(DF (n:=m)).imp λh=>by omega)
 unfold srt;rw[<-h];exact oa _
theorem BE:decide (srt l=aB m)=true↔All m l:=by
 rw[decide_eq_true_iff];constructor
 .intro h
  exact All.of ((zx l).symm.trans (by rw[h]))
 .intro h
  rw[Cn h.perm,Cj]
section
variable {m:Nat}{T:Nat->Nat->Nat}{st w:List Nat}{S:Sto}
def nbM:MS:=bZ (lP (m1 (iw "int") 0#3) (lP (m1 zH (m1 (iw "bool") 0#3)) (mCh oLe oLt 2#4 0#3 0#6)))
theorem O2:_G.run 2 2 nbM [.int (x:Nat),.int (n:Nat)] S=some (.bl (decide (x<n)),S):=by
 have h1:m1 (iw "int") 0#3 [some (.int x),4#3] S=some _:=rfl;have h2:m1 zH (m1 (iw "bool") 0#3) [some (.int x),4#3] S=some _:=rfl;have h3:mCh oLe oLt 2#4 0#3 0#6 [some (.int x),4#3] S=some (.bl (decide (x<n)),S):=by
  have v0:ae 0 [some (.int x),4#3] S=some _:=rfl;have v1:ae 1 [some (.int x),4#3] S=some _:=rfl;have l:oLe (.int 0) (.int x) S=some (.bl true,S):=by
   show some _=_<;>simp_all
  have l2:oLt (.int x) (.int n) S=some (.bl (decide (x<n)),S):=by
   show some _=_;simp
  simp[mCh,mC,aA,v0,l,v1,l2]
 exact og h1 (λ_=>og h2 (λ_=>h3) (λz=>by cases z)) (λz=>by cases z)
def Fc:MS:=bZ (lP (m1 (iw "tuple") 0#3) (mFn uX (aa (cY (eZ 0#3) cTT (mFn (_G.run 2 2 nbM) (aa 0#7 3#4))) ai)))
theorem sh{S:Sto}{l:List Nat}(ha:a G S=some (.tup 1#7,S))(hl:2#6<10000000)(he:∀x∈l,e (G++[some (.int x)]) S=some (f x,S)):cY (eZ a) cTT e G S=some (.ref 0#5,S++[.lst (l.map f)]):=by
 have h:=AA (t:=cTT) ha (by exact aq 0#2 0#1) (λ_ _=>rfl) (λx hx _=>he x hx);rwa[rA.mpr (λ_ _=>rfl)]at h
theorem K1(hl:w.length<10000000):∃S',_G.run 2 2 Fc [.tup (ak w),.int (n:Nat)] S=some (.bl (w.all λx=>decide (x<n)),S')/\Ex S S':=by
 have h1:m1 _ 0#3 [5#0,4#3] S=some _:=isT 0#0;have h2:=sh (e:=mFn _ (aa 0#7 (aa 0#6 _))) (G:= [some _,4#3]) (S:=S) (a:=ae 0) 0#0 hl (λx _=>cz 0#0 0#0 O2);obtain⟨S',e,x⟩:=DM h1 (LR h2 (bN _ _)) (Ex.refl _) 3#6;exact⟨S',bT rfl (bE (e.trans (by rw[Cb]))),x⟩
def Ng:MS:=bZ (m2 oEq (mFn bU (aa (mFn i6 3#4) ai)) (mFn (_G.run 1 1 atM) 6#1))
theorem Ms(hm:m<1000)(hl:2#6<64):∃S',_G.run 2 2 Ng [tab m T,.tup 1#7] S=some (.bl (decide (srt l=aB m)),S')/\Ex S S':=
 ⟨_,bT rfl (bE (Q3 (eY (FS 0#0 hl)) (gG 0#0 (O8 hm)))),Ex.push _ _⟩
def plM:MS:=aY (bz 2 (cw 8#0)) (aY (fA 3 (eZ 0#6) (dk 21#0)) (bZ (mFn bU 3#8)))
theorem Ot(g:Grp m T)(hw:Lt m w)(hl:w.length<10000000):∃S',_G.run 2 4 plM [tab m T,.tup (ak w)] S=some (.tup (ak (plc T w)),S')/\Ex S S':=by
 have U1:cw 8#0 [1#4,5#0,none,none] S=some (.ref 0#5,S++11#6):=B0 rfl;obtain⟨Y3,S1,e1,⟨x,rfl⟩,q1,q2⟩:=Ft (i:=3) (b:=dk 21#0) (e:=ae 1)
  (G:= [1#4,5#0,2#7,none]) (S:=S++11#6) (S1:=S++11#6) (us:=ak w) 0#0
  (λk G S'=>(∃x,G=[1#4,5#0,2#7,x])/\Ex S S'/\S'[0#5]?=some (Cell.lst (ak ((aB (k+1)).map λi=>jU T (w.take i)))))
  ⟨⟨none,rfl⟩,Ex.push _ _,by rw[bN];simp[ak,jU]⟩
  (by
   rintro k u G S' hu ⟨⟨x,rfl⟩,q1,q2⟩;obtain⟨y,hy,rfl⟩:=si hu;have Uk:y<m:=hw y (dc hy);have UQ:jU T (w.take k)<m:=J8 g (hw.tk k);have VS:atI (ak ((aB (k+1)).map λi=>jU T (w.take i))) (-1)=some (.int (jU T (w.take k))):=by
    unfold ak;rw[dW];exact Fq
   have ev:m2 oIx (m2 oIx 0#3 (m2 oIx 0#7 (m1 m7 1#3))) 1#6 [1#4,5#0,2#7,some (.int y)] S'=some (.int (T (jU T (w.take k)) y),S'):=
    kO Uk (jY UQ 0#0 (sZ 0#0 Io q2 VS)) 0#0
   have hkl:k<w.length:=(ah.mp hy).1;refine⟨_,_,append_eq 0#0 ev q2 q2 (by simp[ak];unfold big;exact aP 1#1 (aq 1#1 0#1)),⟨_,rfl⟩,q1.set 1#9,?_⟩;rw[aK (ah.mp q2).1];rw[jO (n:=k+1),de]
   simp[ak,vS hy])
 rw[bV]at q2;refine⟨S1,bT (G:= [1#4,5#0,2#7,x]) rfl ?_,q1⟩;show plM [1#4,5#0,none,none] S=_;exact(aS (bD U1)).trans ((aS e1).trans (bE (kj 0#0 q2)))
def gtM:MS:=bZ (lP (mFn (_G.run 2 2 Fc) (aa 0#6 (aa 4#1 ai))) (mFn (_G.run 2 2 Ng) (aa 0#3 (aa (mFn (_G.run 2 4 plM) 8#9) ai))))
theorem O6(g:Grp m T)(hm:m<1000)(hw:Lt m w)(hl:w.length<63):∃S',_G.run 2 2 gtM [tab m T,.tup (ak w)] S=some (.bl (decide (srt (plc T w)=aB m)),S')/\Ex S S':=by
 obtain⟨S1,e1,x1⟩:=K1 (S:=S) (n:=m) (w:=w) (by exact aq 1#1 0#1);have ht:(w.all λx=>decide (x<m))=true:=cR.mpr λx hx=>decide_eq_true (hw x hx);rw[ht]at e1;obtain⟨S2,e2,x2⟩:=Ot (S:=S1) g hw (by exact aq 1#1 0#1);obtain⟨S3,e3,x3⟩:=Ms (T:=T) (S:=S2) (l:=plc T w) hm (by rw[oK];exact aP 1#1 0#1);obtain⟨S',e,x⟩:=DM (G:= [1#4,5#0]) (a:=mFn (_G.run 2 2 Fc) (aa 0#6 (aa 4#1 ai))) (b:=mFn (_G.run 2 2 Ng) (aa 0#3 (aa (mFn (_G.run 2 4 plM) 8#9) ai))) (cz 0#0 5#4 e1) (cz 0#0 (cz 0#0 0#0 e2) e3) x1 (x2.trans x3);exact⟨S',bT (G:= [1#4,5#0]) rfl (bE (e.trans (by rw[Cb]))),x⟩
def bkM:MS:=bZ (mFn bU (aa (cY (yG 3#4) cTT (mFn (_G.run 2 2 unM) 13#2)) ai))
theorem Kr(g:Grp m T)(hw:Lt m w)(hl:w.length<10000000):∃S',_G.run 2 2 bkM [tab m T,.tup (ak w)] S=some (.tup (ak (bk m T w)),S')/\Ex S S':=by
 have hi:yG 3#4 [1#4,5#0] S=some (.imm (ak w.reverse),S):=by
  have v:ae 1 [1#4,5#0] S=some (.tup (ak w),S):=rfl;simp only[yG,aa,ai,v,aA];simp[ak]
 have h1:∀u∈ak w.reverse,mFn (_G.run 2 2 unM) 13#2 ([1#4,5#0]++[some u]) S=some ((λu=>match u with | .int i=>.int (unT m T i.toNat:Nat) |_=>.non) u,S):=λu hu=>by
  obtain⟨x,hx,rfl⟩:=bp.mp hu;have hx:=hw x (gJ.mp hx);have:=cz (f:=_G.run 2 2 unM) (G:= [1#4,5#0,some (.int x)]) (S:=S) (a:=ae 0) (b:=ae 2) 0#0 0#0 (tE g hx);simpa using this
 have h2:=kF (t:=cTT) (e:=mFn (_G.run 2 2 unM) 13#2) (G:= [1#4,5#0]) (S:=S) (p:=λ_=>true) (f:=λu=>match u with | .int i=>.int (unT m T i.toNat:Nat) |_=>.non) (ak w.reverse) [] (λ_ _=>rfl) (λu hu _=>h1 u hu);rw[rA.mpr (λ_ _=>rfl),oG]at h2;have h3:(ak w.reverse).map (λu=>match u with | .int i=>U.int (unT m T i.toNat:Nat) |_=>.non)=ak (bk m T w):=by
  unfold ak bk;rw[dW,dW];apply dH;intro x _;simp
 rw[h3]at h2;exact⟨_,bT (G:= [1#4,5#0]) rfl (bE (eY (jK hi h2 (by rw[bV,iB];unfold big;exact aq 1#1 0#1)))),Ex.push _ _⟩
end
def tabS(S:Sto)(n:Nat)(T:Nat->Nat->Nat)(k:Nat):Sto:=S++[Cell.lst ((aB k).map (lh n T))]++(aB k).map λi=>Cell.lst ((aB n).map λj=>U.int (T i j))
theorem CO{k:Nat}:((tabS S n T k)++[Cell.lst ((aB n).map λj=>U.int (T k j))]).set S.length (Cell.lst ((aB k).map (lh n T)++[lh n T k]))=tabS S n T (k+1):=by
 unfold tabS;simp[jO]
def tbM(g:rO)(φ:MF):MS:=aY (bz 2 (cw ai)) 20#5
theorem GC{S:Sto}{φ:MF}(hn:n<big)(Vy:∀i j (S:Sto),i<n->j<n->φ [.int (i:Nat),.int (j:Nat)] S=some (.int (T i j:Nat),S))(g:rO):
  _G.run 2 4 (tbM g φ) [.int (n:Nat),.obj g] S=some (tab n T,tabS S n T n):=by
 have cell:∀k,(tabS S n T k)[0#5]?=some (Cell.lst ((aB k).map (lh n T))):=λk=>by
  unfold tabS;rw[gg,bP 1#9];simp
 obtain⟨Y3,S1,e1,⟨x,rfl⟩,rfl⟩:=mJ (i:=3) (a:=ae 0) (n:=n) (b:=dk (mML cb 0#7 (aa (mFn bU (aa (cY (iR1 6#1) cTT (pq 1 g φ (aa 1#6 5#9))) ai)) ai)))
  (G:= [4#3,10#8,2#7,none]) (S:=tabS S n T 0) 0#0 hn
  (λk G S'=>(∃x,G = [4#3,10#8,2#7,x])/\S'=tabS S n T k) ⟨⟨none,rfl⟩,rfl⟩ (by
   rintro k G S' hk ⟨⟨x,rfl⟩,rfl⟩
   obtain⟨S2,e2,h2⟩:=E4 (G:= [4#3,10#8,2#7,9#0]) (S:=tabS S n T k) (S0:=tabS S n T k) (a:=ae 0) (e:=pq 1 g φ (aa 1#6 5#9)) (n:=n) 0#0 hn (λj => .int (T k j)) (λ_ ZC=>ZC=tabS S n T k) rfl (by
    rintro j ZC hj rfl;refine⟨_,?_,rfl⟩;show(if g=g then mFn φ (aa 1#6 5#9) _ _ else none)=_;rw[if_pos rfl]
    exact cz (var_eq rfl) (var_eq rfl) (Vy k j _ hk hj))
   subst h2;have hl:((aB k).map (lh n T)).length<big:=by rw[aF,bh];exact bc 1#1 1#1
   have e3:=append_eq (G:= [4#3,10#8,2#7,9#0]) (o:=ae 2) (r:=0#5) (row:=(aB k).map (lh n T)) 0#0 e2 (cell k) ((Ex.push _ _).some (cell k)) hl;rw[show Av n (λj=>U.int (T k j))=lh n T k from rfl,CO]at e3
   exact⟨_,_,e3,⟨_,rfl⟩,rfl⟩)
 have e0:cw ai [4#3,10#8,none,none] S=some (.ref 0#5,tabS S n T 0):=mP.trans (by simp[tabS]);have e2:mFn bU 3#8 [4#3,10#8,2#7,x] (tabS S n T n)=some (tab n T,tabS S n T n):=kj 0#0 (cell n);exact bT (G:= [4#3,10#8,2#7,x]) rfl (show tbM g φ [4#3,10#8,none,none] S=_ from(aS (bD e0)).trans ((aS e1).trans (bE e2)))
theorem Hj{k:Nat}:Ex S (tabS S n T k):=⟨_,by unfold tabS;rw[gg]⟩
section
variable {m:Nat}{T:Nat->Nat->Nat}
theorem Lt.one{s:Nat}(hs:s<m):Lt m [s]:=λx hx=>by simp_all
structure Sn(m:Nat)(T:Nat->Nat->Nat)(p:List Nat):Prop where
 lt:Lt m p
 nd:(plc T p).Nodup
 cl:∀x∈plc T p,∀y∈plc T p,T x y∈plc T p
end
theorem qD{g:MG}{b:MS}(P:Nat->Rho->Sto->Prop):∀(us:List U) (k:Nat) (G:Rho) (S:Sto),P k G S ->
  (∀(j:Nat) (u:U) (G:Rho) (S:Sto),us[j]?=some u->P (k+j) G S->∃Y3 S1 Y4 S',g u G S=some (Y3,S1)/\b Y3 S1=some 7#2/\P (k+j+1) Y4 S') ->
  ∃Y4 S',tw g b us G S=some 7#2/\P (k+0#9) Y4 S'
 |[],k,G,S,h,_=>⟨G,S,rfl,h⟩
 | u::us,k,G,S,h,st=>by
   obtain⟨Y9,S0,Y3,S1,e0,e1,p1⟩:=st 0 u G S rfl (by simpa using h);obtain⟨Y8,S2,e2,p2⟩:=qD P us (k+1) Y3 S1 (by simpa using p1) λj v G S hj hp=>by
    have:=st (j+1) v G S 14#6 (by rw[show k+(j+1)=k+1+j by omega];exact hp);rw[show k+(j+1)+1=k+1+j+1 by omega]at this;exact this
   refine⟨Y8,S2,?_,?_⟩
   .show((g u G S).bind λp=>aft (b p.1 p.2) (tw g b us))=_
    rw[e0];simp only[aI,aft,e1,e2]
   .rw[aO,show k+(0#9+1)=k+1+0#9 by omega];exact p2
section
variable {m:Nat}{T:Nat->Nat->Nat}{S:Sto}
abbrev Pln(m:Nat)(T:Nat->Nat->Nat):Prop:= ∀i j,i<m->j<m->T i j=T j i
def thM:MS:=aY (bz 4 (dS (aa (mFn (_G.run 2 2 bkM) (aa 0#3 7#1)) 7#1))) (aY (bz 5 0#6) (aY (q9 (gTp 2 18#4) (kW 3#8) (bz 5 18#7)) (bZ (ae 5))))
theorem yI(h:(gy 1#7)[j]?=some u):∃x,l[j]?=some x/\u=.tup [.int j,.int x]:=by
 unfold gy at h;rw[G6]at h;obtain⟨v,hv,rfl⟩:=iN.mp h;obtain⟨x,hx,rfl⟩:=si hv;exact⟨x,hx,rfl⟩
end
section
variable {m:Nat}{T:Nat->Nat->Nat}{S:Sto}
end
theorem vj:∀(l acc:List Int) (x:Int),x∈l.foldl 19#6 acc↔x∈acc\/x∈l
 |[],acc,x=>by simp
 | y::l,acc,x=>by
   rw[yg,vj l];by_cases h:y∈acc
   .rw[if_pos h,aJ]
    constructor
    .rintro (z|z)
     .exact .inl z
     .exact .inr (.inr z)
    .rintro (z|rfl|z)
     .exact .inl z
     .exact .inl h
     .exact .inr z
   .rw[if_neg h,dI,a9,aJ,or_assoc]
theorem BW{l:List Int}{x:Int}:x∈ddp l↔x∈l:=by unfold ddp;rw[vj];simp
theorem vB:∀(l acc:List Int),acc.Nodup->(l.foldl 19#6 acc).Nodup
 |[],acc,h=>h
 | y::l,acc,h=>by
   rw[yg];refine vB l _ ?_;by_cases z:y∈acc
   .rw[if_pos z];exact h
   .rw[if_neg z];exact uE.mpr ⟨h,by simp,λa ha b hb=>by simp at hb;rw[hb];exact λe=>z (e▸ha)⟩
theorem Me(l:List Int):(ddp l).Nodup:=vB l [] List.nodup_nil
def ddN(l:List Nat):List Nat:=(ddp (eU l)).map yd
theorem qx(l:List Nat):eU (ddN l)=ddp (eU l):=by
 unfold eU ddN;rw[dW]
 conv=>rhs;rw[<-List.map_id (ddp (l.map λ(x:Nat)=>(x:Int)))]
 apply dH;intro x hx;obtain⟨y,_,rfl⟩:=bp.mp (BW.mp hx);simp
theorem wL:x∈ddN l↔x∈l:=by
 have h:(x:Int)∈eU (ddN l)↔(x:Int)∈eU l:=by rw[qx];exact BW
 have e:∀k:List Nat,(x:Int)∈eU k↔x∈k:=λk=>by
  unfold eU;rw[bp];constructor
  .rintro ⟨y,hy,e⟩
   have:y=x:=by omega
   rw[<-this];exact hy
  .exact λh=>⟨x,h,rfl⟩
 rw[<-e,<-e];exact h
theorem EV(l:List Nat):(ddN l).Nodup:=by
 have h:(eU (ddN l)).Nodup:=by rw[qx];exact Me _
 unfold eU at h;exact(lr.mp h).imp λ{a b} VL e=>VL (by rw[e])
inductive Smp:U->Prop where
 |non:Smp .non
 |bl (b:Bool):Smp (.bl b)
 |int (i:Int):Smp (.int i)
 |str (x:Ca):Smp (.str x)
 |tup (us:List U):Smp (.tup us)
inductive Thg(S:Sto):U->Prop where
 |non:Thg S .non
 |bl (b:Bool):Thg S (.bl b)
 |int (i:Int):Thg S (.int i)
 |str (x:Ca):Thg S (.str x)
 |tup {us:List U} (h:∀v∈us,Smp v) (hl:us.length<60):Thg S (.tup us)
 |lst {n:Nat}{xs:List U} (h:S[n]?=some (Cell.lst xs)):Thg S (.ref n)
 |dic {n:Nat}{kv:List (_L.Key×U)} (h:S[n]?=some (Cell.dic kv)):Thg S (.ref n)
theorem Thg.ex(h:Thg S u)(x:Ex S S'):Thg S' u:=by
 cases h with
 |non=>exact .non
 |bl b=>exact .bl b
 |int i=>exact .int i
 |str y=>exact .str y
 |tup h hl=>exact .tup h hl
 |lst h=>exact .lst (x.some h)
 |dic h=>exact .dic (x.some h)
theorem Thg.stp(h:Thg S u)(x:Stp n S S')(hn:u≠.ref n):Thg S' u:=by
 cases h with
 |non=>exact .non
 |bl b=>exact .bl b
 |int i=>exact .int i
 |str y=>exact .str y
 |tup h hl=>exact .tup h hl
 |lst h=>exact .lst (x.some (λe=>hn (by rw[e])) h)
 |dic h=>exact .dic (x.some (λe=>hn (by rw[e])) h)
theorem Thg.nat(hl:2#6<60):Thg S (.tup 1#7):= .tup (λv hv=>by obtain⟨x,_,rfl⟩:=bp.mp hv;exact .int _) (by rw[bV];exact hl)
def isTup:U->Bool
 |.tup _=>true
 |_=>false
theorem Bm (ha:a G S=some (u,S1))(h:Thg S1 u):m1 (iw "tuple") a G S=some (.bl (isTup u),S1):=by
 simp only[m1,ha,aA,iw];cases h with
 |lst h=>simp only[tyU,h];rfl
 |dic h=>simp only[tyU,h];rfl
 |_=>rfl
def nbV(n:Nat):U->Bool
 |.int i=>decide (0<=i)&&decide (i<n)
 |_=>false
theorem xm{n:Nat}:∀{us:List U},us.all (nbV n)=true->∃l:List Nat,us=ak l /\ ∀x∈l,x<n
 |[],_=>⟨[],rfl,by simp⟩
 | u::us,h=>by
   rw[bA,ao]at h;obtain⟨l,rfl,hl⟩:=xm h.2;cases u with
   | int i=>
     have h1:=h.1;simp[nbV]at h1;refine⟨i.toNat::l,?_,λx hx=>?_⟩
     .show _=U.int _::ak l
      rw[Int.toNat_of_nonneg h1.1]
     grind
   |_=>exact absurd h.1 (by simp[nbV])
theorem Je{l:List Nat}(h:∀x∈l,x<n):(ak l).all (nbV n)=true:=by
 rw[cR];intro u hu;obtain⟨x,hx,rfl⟩:=bp.mp hu;have:=h x hx;simp only[nbV,ao,decide_eq_true_eq];omega
theorem vp{i:Nat}{b:MS}{v:U}(p:U->Bool)(P:Rho->Sto->Prop):∀(us:List U) (G:Rho) (S:Sto),P G S ->
  (∀(u:U) (G:Rho) (S:Sto),u∈us->P G S->∃Y4 S',b 15#2 S=some (if p u then .nx else .rt v,Y4,S')/\P Y4 S') ->
  ∃Y4 S',pV i b us G S=some (if us.all p then .nx else .rt v,Y4,S')/\P Y4 S'
 |[],G,S,h,_=>⟨G,S,rfl,h⟩
 | u::us,G,S,h,st=>by
   obtain⟨Y3,S1,e1,h1⟩:=st u G S 0#4 h;show ∃Y4 S',aft (b 15#2 S) (pV i b us)=_/\_;rw[e1];cases hp:p u with
   | true=>
     obtain⟨Y8,S2,e2,h2⟩:=vp p P us Y3 S1 h1 λw G S hw hP=>st w G S (ay _ hw) hP;exact⟨Y8,S2,by simpa [aft,hp]using e2,h2⟩
   |false=>exact⟨Y3,S1,by simp[aft,hp],h1⟩
section
variable {m:Nat}{T:Nat->Nat->Nat}{S:Sto}{u:U}{st:List Nat}
theorem JV(ha:a G S=some (.bl false,S1)):lP a b G S=some (.bl false,S1):=by simp[lP,ha,aA]
theorem CK{a b:MT}(ha:a G S=some (true,S1)):cOr a b G S=some (true,S1):=by simp[cOr,ha,aA]
theorem zd{a b:MT}(ha:a G S=some (false,S1))(hb:b G S1=some (y,S2)):cOr a b G S=some (y,S2):=by simp[cOr,ha,aA,hb]
theorem K3{v:U}(h:Smp v):_G.run 2 2 nbM [v,.int (n:Nat)] S=some (.bl (nbV n v),S):=by
 refine bT rfl (bE ?_);cases h with
 | int i=>
   have h1:m1 (iw "int") 0#3 [5#1,4#3] S=some (.bl true,S):=rfl;have h2:m1 zH (m1 (iw "bool") 0#3) [5#1,4#3] S=some (.bl true,S):=rfl;have h3:mCh oLe oLt 2#4 0#3 0#6 [5#1,4#3] S=some (.bl (decide (0<=i)&&decide (i<n)),S):=by
    have v0:ae 0 [5#1,4#3] S=some _:=rfl;have v1:ae 1 [5#1,4#3] S=some _:=rfl;have c0:mC (.int 0) [5#1,4#3] S=some _:=rfl;by_cases z:0<=i
    .simp[mCh,v0,v1,c0,aA,xw,z]
    .simp[mCh,v0,c0,aA,xw,z]
   exact(og h1 (λ_=>og h2 (λ_=>h3) (λz=>by cases z)) (λz=>by cases z)).trans (by simp[nbV])
 |bl b=>rfl
 |non=>rfl
 |str x=>rfl
 |tup us=>rfl
def vQ(n:Nat):U->Bool
 |.tup us=>us.all (nbV n)
 |_=>false
theorem IY(h:Thg S u):∃S',_G.run 2 2 Fc [u,.int (n:Nat)] S=some (.bl (vQ n u),S')/\Ex S S':=by
 have h1:=Bm (G:= [some u,4#3]) (a:=ae 0) 0#0 h;cases ht:isTup u with
 | false=>
   rw[ht]at h1;refine⟨S,bT rfl (bE ((JV h1).trans ?_)),Ex.refl _⟩;cases u with
   |tup us=>cases ht
   |_=>rfl
 | true=>
   cases h with
   | tup h hl=>
     have h2:=vR (t:=cTT) (e:=mFn _ (aa 0#7 (aa 0#6 _))) (G:= [some _,4#3]) (S:=S) (a:=ae 0) 0#0 (by exact aq 0#2 0#1) (λ_ _=>rfl) (λv hv _=>cz 0#0 0#0 (K3 (h v hv)));rw[rA.mpr (λ_ _=>rfl)]at h2;exact⟨_,bT rfl (bE (og h1 (λ_=>Ox h2) (λz=>by cases z))),Ex.push _ _⟩
   |_=>cases ht
theorem mc{r:MA}{x:U}(ha:a G S=some (x,S1))(hr:r G S1=some (xs,S2)):aa a r G S=some (x::xs,S2):=by simp[aa,ha,hr,aA]
theorem ml{r:MA}(h:r G S=some (xs,S1))(hl:1#5<1000):cw r G S=some (.ref 6#3,S1++[.lst xs]):=by
 have:xs.length<=big:=by unfold big;omega
 simp[cw,h,aA,this]
def Tn(n:Nat)(S:Sto)(u:U):Prop:=Thg S u/\u≠.ref n
theorem Tn.ex{n:Nat}{S':Sto}(h:Tn n S u)(x:Ex S S'):Tn n S' u:=⟨h.1.ex x,h.2⟩
theorem Tn.stp{n:Nat}{S':Sto}(h:Tn n S u)(x:Stp n S S'):Tn n S' u:=⟨h.1.stp x h.2,h.2⟩
theorem vH{k:Nat}:cut xs (some (k:Int)) none=xs.drop k:=by
 have h1:HT.sIx _ 0 _=min k 1#5:=HT.sIx_nat _ _ k;have h2:HT.sIx xs.length _ none=1#5:=rfl;unfold cut;rw[h1,h2];rcases Nat.le_total k _ with z|z
 .rw[j2 z,DI 0#4]
 simp_all
theorem tQ(ha:a G S=some (.tup xs,S1))(hb:b G S1=some (.tup ys,S2))(hl:xs.length+ys.length<1000):m2 bM a b G S=some (.tup (xs++ys),S2):=op2 ha hb (if_pos 14#3)
theorem yJ:∀(a b:List Nat),a.Nodup->(∀x∈a,x∈b)->b.length<=a.length->a.Perm b
 | [],b,_,_,h=>by
   have e:b=[]:=fw (by simpa using h);rw[e]
 | x::a,b,h,hs,hl=>by
   have hx:=hs x 0#4;have h2:=List.length_erase_of_mem hx;have h1:=yJ a (b.erase x) (eS.mp h).2 (λy hy=>(List.mem_erase_of_ne (λe:y=x=>(eS.mp h).1 (by rw[<-e];exact hy))).mpr (hs y (ay _ hy))) (by simp only[aO]at hl;omega);exact(h1.cons x).trans (List.perm_cons_erase hx).symm
theorem Hd(hl:Lt m l):All m l↔(∀x,x<m->x∈l)/\2#6=m:=by
 constructor
 .intro h;exact⟨λx hx=>h.mem hx,h.len⟩
 .rintro ⟨h1,h2⟩
  refine All.of ((yJ (aB m) l mY (λx hx=>h1 x (cK.mp hx)) (by simp;exact Nat.le_of_eq 1#1)).symm)
theorem Ai{k:Nat}(ha:a G S=some (.ref n,S1))(hb:b G S1=some (.ref k,S2))(hn:S2[n]?=some (Cell.lst xs))(hk:S2[k]?=some (Cell.lst ys))(hl:1#5+3#1<1000):m2 bM a b G S=some (.ref S2.length,S2++[Cell.lst (xs++ys)]):=
 op2 ha hb (by simp only[bM,hn,hk];exact if_pos 14#3)
end
section
variable {m:Nat}{f:Nat->Nat}
end
variable{rl:MX}{cs:List U}
theorem DW{rz is:List Nat}{ml:ME}(hc:fG is G=some cs)(h:ml (cs.map some) S=some (u,S1)):hZ (km rz) is ml rl G S=some (.non,S1++gv λ_=>false):=by
 have e:gQ 0 ml cs [] S=some (u,S1):=h;simp only[hZ,hc,aI,km,e]
theorem Gz{rz is:List Nat}{ml:ME}(hc:fG is G=some cs)(h:ml (cs.map some) S=none)(hx:rl (cs.map some) S=some (q,S1))(hq:q∈rz):hZ (km rz) is ml rl G S=some (.ref (6#3+3),S1++(gv (bQ q)++[.lst (ak [q])])):=by
 have e:gQ 0 ml cs [] S=none:=h;have e2:jz 0 rl cs [] S=some (q,S1):=hx;simp only[hZ,hc,aI,km,e,e2];rw[if_pos hq];rfl
theorem Ly(S:Sto)(b:Nat->Bool)(l:List Cell):Ex S (S++(gv b++l)):=⟨_,rfl⟩
theorem Bx(S:Sto)(b:Nat->Bool):Ex S (S++gv b):=⟨_,rfl⟩
theorem Iq{b:Nat->Bool}{c:Cell}:(S++(gv b++[c]))[0#5+3]?=some c:=by
 simp[gv]
theorem sD{k:Nat}{b:MS}(h:b 16#0 S=none):_G.run k n b us S=none:=by
 unfold _G.run
 simp_all
theorem pz{k:Nat}{r:MX}(hl:0#9=k)(h:r 16#0 S=some (q,S1)):oS k n r us S=some (q,S1):=by
 unfold oS<;>simp_all
theorem qW{a b:MX}{s:MS}(h:a G S=some (q,S1)):lU a s b G S=some (q,S1):=by simp[lU,h]
theorem tm{a b:MX}{s:MS}(h:a G S=none)(h1:s G S=some (.nx,Y3,S1)):lU a s b G S=b Y3 S1:=by simp[lU,h,h1]
theorem Gc{a b:MX}(h:c G S=some (true,S1)):xIf c a b G S=a G S1:=by simp[xIf,h,aA]
theorem JI{a b:MX}(h:c G S=some (false,S1)):xIf c a b G S=b G S1:=by simp[xIf,h,aA]
theorem xP{a b:MS}(h:a G S=none):aY a b G S=none:=by simp[aY,h]
theorem KN{r:RF}{x y:U}{v:Option (Nat×Sto)}(ha:a G S=some (x,S1))(hb:b G S1=some (y,S2))(h:r [x,y] S2=v):xFn r (aa a (aa b ai)) G S=v:=by simp[xFn,aa,ai,ha,hb,aA,h]
section
variable {m:Nat}{T:Nat->Nat->Nat}{S:Sto}
end
def QT(g:rO)(φ:MF):MS:=aY (bz 2 (cw ai)) 20#5
section
variable {S:Sto}
def ptM:MS:=aY (bz 2 (mFn bL 3#4)) (aY (sIf (cOf 17#9) sNo dg) (bZ (pU (λg φ=>_G.run 2 4 (QT g φ)) 2 [2,0,1] (m2 bM 21#2 21#5) (m2 d7 4#1 0#7))))
theorem IX{S:Sto}{y:Nat}(ha:a G S=some 7#5)(hb:b G S1=some 8#3):m2 oGt a b G S=some (.bl (decide (y<x)),S2):=by
 rw[IB ha hb]
 congr 3
 exact decide_eq_decide.mpr 0#2
theorem PK{k:Nat}(hk:k<1000)(hm:0<m)(YZ:m<1000)(Zc:k*m<=24)(ca:∀i j,i<k->j<k->A i j<k):∃S',_G.run 2 3 ptM [tab k A,tab m B] S=some (tab (k*m) (fU m A B),S')/\Ex S S':=by
 refine⟨tabS S (k*m) (fU m A B) (k*m),bT (G:= [3#2,3#0,10#3]) rfl ?_,Hj⟩;show ptM [3#2,3#0,none] S=_;have e1:=bD (i:=2) (len_tab (G:= [3#2,3#0,none]) (S:=S) (a:=ae 1) 0#0);have e2:=md (G:= [3#2,3#0,10#3]) (S:=S) (a:=mFn bL 6#1) (b:=ae 2) (x:=k) (y:=m) 5#4 0#0 0#2;have e3:=of_eq (IX (b:=mC (.int 24)) (y:=24) e2 c_i);rw[decide_eq_false 0#2]at e3;refine(aS e1).trans ((aS ((jT e3).trans rfl)).trans (bE ?_));refine Gm (cs:= [.int (m:Nat),tab k A,tab m B]) e2 rfl λf=>GC 14#3 (λi j S' hi hj=>?_) f;have V9:i/m<k:=(Ha hm).mpr hi;have Rf:j/m<k:=(Ha hm).mpr hj;have W6:=kT i hm;have f':=kT j hm;have hA:=ca _ _ V9 Rf;show m2 bM 21#2 21#5 [some (.int (i:Nat)),10#4,10#3,3#2,3#0] S'=_;exact add_n (md (kO Rf (jY V9 0#0 (qS 0#0 0#0 hm YZ)) (qS 0#0 0#0 hm YZ)) 0#0 0#2) (kO f' (jY W6 0#0 (qZ 0#0 0#0 hm)) (qZ 0#0 0#0 hm))
theorem P6{k:Nat}(hk:k<1000)(Zc:24<k*m):_G.run 2 3 ptM [tab k A,tab m B] S=none /\ ∀G,G=[3#2,3#0,10#3]->cOf 17#9 G S=some (true,S):=by
 have e1:=bD (i:=2) (len_tab (G:= [3#2,3#0,none]) (S:=S) (a:=ae 1) 0#0);have e2:=md (G:= [3#2,3#0,10#3]) (S:=S) (a:=mFn bL 6#1) (b:=ae 2) (x:=k) (y:=m) 5#4 0#0 0#2;have e3:=of_eq (IX (b:=mC (.int 24)) (y:=24) e2 c_i);rw[decide_eq_true Zc]at e3;refine⟨sD ?_,λG e=>by rw[e];exact e3⟩;show ptM [3#2,3#0,none] S=_;exact(aS e1).trans (xP ((lD e3).trans rfl))
end
open PySem in
open PySem in
section
variable {S:Sto}
section
variable {n m r:Nat} (hn:0<n) (Ym:n<100) (hm:0<m) (YZ:m<100) (hr:r<100)
include hn Ym hm YZ hr
end
end
section
variable {m:Nat}{T:Nat->Nat->Nat}
open Classical in
end
section
variable {m:Nat}{T:Nat->Nat->Nat}{P:List Nat}
end
section
variable {m:Nat}{T:Nat->Nat->Nat}{P:List Nat}
end
end _W
namespace _W
open PySem PySem.Spec _L _G
def ub:MS:=bZ (m2 oEq (mFn nj 6#1) (mFn nj 3#4))
def nQ:MF:=run 2 2 ub
def mv:MS:=aY (bz 4 (cw ai)) (aY (q9 (gTp 2 (dD (gN 5) (dD (gN 6) jH))) (kW 6#1) (aY 23#1 (dk 18#9))) (bZ (ae 4)))
def gS:MF:=run 4 7 mv
def pD:MS:=bZ (m2 oIx (cY (iR1 (aa 4#1 ai)) (cOf (m2 oEq (m2 oIx (m2 oIx 0#3 0#7) 0#6) 2#4)) 0#7) 2#4)
def dY:MF:=run 2 2 pD
def um:MS:=bZ (mFn bU (aa (cY (eZ (m1 uS 0#6)) cTT (mFn dY 13#2)) ai))
def fE:MF:=run 2 2 um
def qX:MS:=aY (bz 2 2#4) (aY (fA 3 (eZ 0#6) (bz 2 (m2 oIx (m2 oIx 0#3 0#7) 1#6))) (bZ 0#7))
def my:MF:=run 2 4 qX
def kJ:MS:=aY (sIf (cOr (eB (cOf (m1 (iw "tuple") 0#6))) (cOf (m2 oNe (mFn bL 3#4) (m2 qc 4#1 1#3)))) 12#1 dg) (aY (fA 2 (eZ 0#6) (sIf (cOr (eB 18#5) (cOr (cOf (m1 (iw "bool") 0#7)) (eB (cOf (mCh oLe oLt 2#4 0#7 4#1))))) 12#1 dg)) (bZ (m2 oEq (mFn bLS (aa (cY (iR1 (aa 4#1 ai)) cTT (mFn my (aa 0#3 (aa 15#0 ai)))) ai)) 4#1)))
def ff:MF:=run 2 3 kJ
def vk:MS:=aY (sIf (cOf (m2 oGt (m2 d7 4#1 (mFn bL 3#8)) (mC (.int 24)))) (bZ (cw 8#0)) dg) (aY (sIf (cOr (eB (cOf (mFn ff 8#9))) (cOr (eB (cOf (mFn ff 11#2))) 18#8)) (bZ (cw (aa 2#3 ai))) dg) (aY (bz 4 (mSl 1#6 (some 1#3) none)) (aY (bz 5 (mFn gS (aa 0#6 (aa (mFn bL 3#8) (aa (mFn fE (aa 0#7 5#9)) 5#9))))) (aY (bz 6 (cY (eZ (mFn fE 8#9)) cTT (m2 d7 (ae 7) (mFn bL 3#8)))) (bZ (mFn bU (aa (m2 bM (m2 bM (m2 bM (mFn kX 7#1) (ae 5)) (cw (aa (mFn dY (aa 0#7 (aa (m2 oIx 1#6 2#4) ai))) ai))) (ae 6)) ai)))))))
def pX:MF:=run 4 7 vk
def tq(g:rO)(φ:MF):MS:=aY (bz 2 (cw ai)) 20#5
def sQ(g:rO)(φ:MF):MF:=run 2 4 (tq g φ)
def lH:MS:=aY (bz 2 (mFn bL 3#4)) (aY (sIf (cOf 17#9) sNo dg) (bZ (pU sQ 2 [2,0,1] (m2 bM 21#2 21#5) (m2 d7 4#1 0#7))))
def fF:MF:=run 2 3 lH
def jm:MX:=lU xNo (bz 2 (mFn bL 3#4)) (lU (xIf (cOf 17#9) (lU (qI 0) sNo xNo) xNo) (sIf (cOf 17#9) sNo dg) xNo)
def gU:RF:=oS 2 3 jm
def jF:MS:=bZ (lP (m1 (iw "int") 0#3) (lP (m1 zH (m1 (iw "bool") 0#3)) (mCh oLe oLt 2#4 0#3 0#6)))
def jC:MF:=run 2 2 jF
def iZ:MS:=bZ (lP (m1 (iw "tuple") 0#3) (mFn uX (aa (cY (eZ 0#3) cTT (mFn jC (aa 0#7 3#4))) ai)))
def i4:MF:=run 2 2 iZ
def o7:MS:=bZ (vn (iR1 (aa 4#1 ai)))
def oR:MF:=run 1 1 o7
def kc:MS:=bZ (m2 oEq (mFn bU (aa (mFn i6 3#4) ai)) (mFn oR 6#1))
def kf:MF:=run 2 2 kc
def yV:MS:=aY (bz 2 (cw 8#0)) (aY (fA 3 (eZ 0#6) (dk 21#0)) (bZ (mFn bU 3#8)))
def yB:MF:=run 2 4 yV
def l9:MS:=bZ (lP (mFn i4 (aa 0#6 (aa 4#1 ai))) (mFn kf (aa 0#3 (aa (mFn yB 8#9) ai))))
def dy:MF:=run 2 2 l9
def kl:MS:=sIf 22#5 sNo dg
def dG:MF:=run 4 4 kl
def iz:MX:=lU (xIf 22#5 (lU (qI 2) sNo xNo) xNo) (sIf 22#5 sNo dg) xNo
def fT:RF:=oS 4 4 iz
def mj:MS:=bZ (mFn bU (aa (cY (eZ 0#3) cTT (m2 d7 0#7 (mFn bL 3#4))) ai))
def ji:MF:=run 2 2 mj
def yq:MS:=bZ (mMT iM (m2 oIx 0#3 0#6) 8#0)
def ph:MF:=run 2 2 yq
def Fg:MS:=bZ (mFn bU (aa (cY (yG 3#4) cTT (mFn ph 13#2)) ai))
def wq:MF:=run 2 2 Fg
def ur:MS:=aY (bz 4 (dS (aa (mFn wq (aa 0#3 7#1)) 7#1))) (aY (bz 5 0#6) (aY (q9 (gTp 2 18#4) (kW 3#8) (bz 5 18#7)) (bZ (ae 5))))
def sX:MF:=run 4 8 ur
def nF:MS:=aY (bz 4 (mFn fF 13#2)) (aY (dk (mFn dG (aa 0#3 (aa 0#6 11#2)))) (aY (sIf 18#8 sNo dg) (aY (bz 5 (mFn ji (aa 0#6 3#8))) (aY (bz 6 (mFn sX (aa (ae 4) (aa 1#6 (aa (ae 5) (aa (mSl 1#6 (some 1#3) none) ai)))))) (bZ (m2 bM (m2 bM (ae 6) (dS (aa (mFn ph (aa (ae 4) (aa (m2 oIx 1#6 2#4) ai))) ai))) (mFn wq (aa (ae 4) 12#6))))))))
def dr:MF:=run 4 7 nF
def nA:MX:=lU (xFn gU 13#2) (bz 4 (mFn fF 13#2)) (lU (xFn fT (aa 0#3 (aa 0#6 11#2))) (dk (mFn dG (aa 0#3 (aa 0#6 11#2)))) (lU (xIf 18#8 (lU (qI 2) sNo xNo) xNo) (sIf 18#8 sNo dg) xNo))
def d5:RF:=oS 4 7 nA
def qP:MS:=aY (bz 4 (hZ (uR [0,2]) [0,2,3,1] (mFn dr 13#9) (xFn d5 13#9))) (bZ (mFn nQ (aa (ae 4) (aa (mFn pX (aa 0#3 (aa 0#6 11#2))) ai))))
def bH:MF:=run 4 5 qP
def kg:MS:=aY (bz 1 (mFn jL (aa 0#3 (aa (mC (.int 6)) ai)))) (bZ (dS (aa 0#6 (aa (mFn jL (aa 0#3 (aa (m2 oIx (cw (aa (mC (.int 4)) (aa (mC (.int 4)) (aa (mC (.int 5)) (aa (mC (.int 6)) ai))))) (mFn be (aa 0#3 (aa (mC (.int 4)) ai)))) ai))) ai))))
def d6:MF:=run 1 2 kg
def nq:MS:=aY (bz 2 (mFn iO (aa 0#3 (aa (mFn bL 3#4) ai)))) (bZ (mFn bU (aa (lN 2 (zr (aa 0#7 (aa (mSl 0#7 (some 1#3) none) ai))) cTT (m2 oIx (m2 oIx 0#6 (mFn dY (aa 0#6 7#1))) (ae 4))) ai)))
def du:MF:=run 2 3 nq
def k7:MS:=aY (bz 3 (mFn be (aa 0#3 (aa (m2 bM (mFn bL 3#4) 1#3) ai)))) (aY (bz 4 (m2 oIx (cw (aa 2#4 (aa 1#3 (aa 0#7 (aa (m1 m7 1#3) (aa (mC (.bl true)) (aa (mC .non) (aa (mC (.str "0")) (aa (dS 8#0) (aa (m2 qc 0#7 1#3) ai)))))))))) (mFn be (aa 0#3 (aa (mC (.int 9)) ai))))) (aY (bz 5 (cw (aa (m2 bM (m2 bM 15#0 (dS 5#9)) (mSl 0#6 (some (m2 bM 1#6 1#3)) none)) (aa (m2 bM 15#0 (mSl 0#6 (some (m2 bM 1#6 1#3)) none)) (aa (m2 bM (m2 bM 15#0 (dS 5#9)) (mSl 0#6 (some 1#6) none)) (aa (mFn kX 3#4) ai)))))) (aY (bz 5 (m2 bM (ae 5) (cw (aa (m1 uS 0#6) (aa (m2 bM (mSl 0#6 (some 1#6) none) 15#0) (aa (m2 bM 0#6 0#6) (aa (mC .non) (aa (dS ai) 3#4)))))))) (bZ (m2 oIx (ae 5) (mFn be (aa 0#3 (aa (mC (.int 10)) ai))))))))
def fh:MF:=run 3 6 k7
def vD:MS:=aY (bz 1 (cw (aa (mC .non) (aa (mC (.bl true)) (aa (mC (.bl false)) (aa (m1 m7 1#3) (aa (mC (.str "")) (aa (mC (.str "0")) (aa (dS ai) (aa (cw ai) (aa (dS (aa (mC (.bl true)) ai)) (aa (cw 8#0) (aa (vq 2#4 1#3) (aa (dS (aa (mC .non) ai)) (aa (dS (aa (m1 m7 1#3) ai)) (aa (dS (aa (mC (.str "a")) ai)) (aa (m2 wK (mC (.int 10)) (mC (.int 30))) (aa (dS (aa (dS 8#0) ai)) ai)))))))))))))))))) (bZ (m2 oIx 0#6 (mFn be (aa 0#3 (aa (mC (.int 16)) ai)))))
def kh:MF:=run 1 2 vD
def J7:MS:=aY (sIf (cOr (eB (cOf (mFn bH (aa (mFn bG 11#0) (aa (dS ai) (aa (mFn bG (aa 2#3 ai)) (aa (dS 11#0) ai))))))) (eB (cOf (mFn bH (aa (mFn bG (aa 2#3 ai)) (aa (dS 11#0) (aa (mFn bG 11#0) (aa (dS ai) ai)))))))) 12#1 dg) (aY (sIf (eB (cOf (mFn bH (aa (mFn bG (aa 2#3 ai)) (aa (dS 11#0) (aa (mFn bG (aa 2#3 ai)) (aa (dS 11#0) ai))))))) 12#1 dg) (aY (fA 1 (iR1 (aa (mFn yZ (aa 1#3 (aa (mFn yU (aa 4#1 (aa (mC (.int 5)) ai))) ai))) ai)) (aY (bz 2 (mFn iP 8#9)) (aY (Ax (mFn d6 3#8) (gTp 2 (dD (gN 3) (dD (gN 4) jH)))) (aY (A3 5 6 22#9) (aY (sIf (cOr (eB (cOf (mFn bH (aa 1#6 (aa (ae 5) (aa (ae 4) (aa (ae 6) ai))))))) (eB (cOf (mFn bH (aa (ae 4) (aa (ae 6) (aa 1#6 12#6))))))) 12#1 dg) (fA 7 (eZ (cw (aa (mFn fh (aa 0#7 (aa (ae 5) (aa (mFn bL 7#1) ai)))) (aa (mFn kh 3#8) (aa (dS ai) ai))))) (sIf 20#4 12#1 dg))))))) (bZ (mC (.bl true)))))
def NP:MF:=run 1 8 J7
section
open _L _G
section
variable {k m:Nat}{A B T:Nat->Nat->Nat}{S:Sto}{l p:List Nat}{u v:U}
def thL(b p:List Nat):Nat->List Nat->List Nat
 |_,[]=>[]
 |i,s::r=>s::((if i%2=0 then b else p)++thL b p (i+1) r)
theorem mQ{b:List Nat}(hb:b.length=9#2):∀(l:List Nat) (i:Nat),(thL b p i l).length=2#6*(9#2+1)
 |[],_=>by simp[thL]
 | s::r,i=>by
   have:=mQ hb r (i+1);have e:(if i%2=0 then b else p).length=9#2:=by split<;>simp[hb]
   simp only[thL,aO,aD,e,this,Nat.succ_mul];omega
theorem Ee{n:Nat}{b:List Nat}(hb:Lt n b)(hp:Lt n p):∀(l:List Nat) (i:Nat),Lt n l->Lt n (thL b p i l)
 |[],_,_=>λx hx=>(cQ hx).elim
 | s::r,i,h=>λx hx=>by
   rcases aJ.mp hx with rfl|hx
   .exact h _ aL
   .rcases dI.mp hx with hx|hx
    .split at hx
     .exact hb x hx
     .exact hp x hx
    .exact Ee hb hp r (i+1) (λy hy=>h y (ay _ hy)) x hx
theorem zC{b:List Nat}{s:Nat}:∀(l:List Nat) (i:Nat),thL b p i (l++[s])=thL b p i l++(s::if (i+2#6)%2=0 then b else p)
 |[],i=>by simp[thL]
 | x::r,i=>by
   have:=zC (b:=b) (s:=s) r (i+1);simp only[v5,thL,this,gg,aO];rw[show i+1+9#8=i+(9#8+1) by omega]
theorem yH{b:List Nat}{s j:Nat}(h:l[j]?=some s):thL b p 0 (l.take (j+1))=thL b p 0 (l.take j)++[s]++(if j%2=0 then b else p):=by
 have hj:=(ah.mp h).1;rw[List.take_succ,h,Option.toList_some,zC,eu,j2 (aN hj),ek];simp
theorem BX(ga:Grp k A)(gb:Grp m B){x:Nat}(hx:x<m):unT (k*m) (fU m A B) x=unT m B x:=by
 have g:=oW ga gb;have hk:∀{y},y<m->y<k*m:=λh=>aq h (fN _ ga.pos);have hy:=qV gb hx;refine(Kd g (hk hx) (hk hy) ?_).symm;unfold fU;rw[eE hx,eE hy,bj hx,bj hy,ga.l0 0 ga.pos,Oa gb hx];simp
theorem II(ga:Grp k A)(gb:Grp m B)(hp:Lt m p):bk (k*m) (fU m A B) p=bk m B p:=
 dH λx hx=>BX ga gb (hp x (gJ.mp hx))
def toN:U->List Nat
 | .tup us=>us.map fun
   |.int i=>i.toNat
   |_=>0
 |_=>[]
theorem iG:toN (.tup 1#7)=l:=by
 show G9 _ (G9 _ l)=l;rw[dW];exact(dH λx _=>lu x).trans (List.map_id l)
def wy(m:Nat)(T:Nat->Nat->Nat)(u:U):Bool:=vQ m u&&decide (srt (plc T (toN u))=aB m)
theorem Ec(h:Lt m l):wy m T (.tup 1#7)=decide (srt (plc T l)=aB m):=by
 unfold wy;rw[iG,show vQ m (.tup 1#7)=true from Je h,Cb]
theorem zE(hu:Thg S u)(h:wy m T u=true):∃l,u=.tup 1#7/\Lt m l/\srt (plc T l)=aB m/\2#6+1=m:=by
 unfold wy at h;rw[ao]at h;cases u with
 | tup us=>
   obtain⟨l,rfl,hl⟩:=xm (show us.all (nbV m)=true from h.1);have e:=of_decide_eq_true h.2;rw[iG]at e;refine⟨l,rfl,hl,e,?_⟩;have:=congrArg xX e;rw[HM,oK,bh]at this;exact this
 |_=>cases h.1
theorem GJ(g:Grp m T)(hm:m<1000)(hu:Thg S u):∃S',_G.run 2 2 gtM [tab m T,u] S=some (.bl (wy m T u),S')/\Ex S S':=by
 obtain⟨S1,e1,x1⟩:=IY (n:=m) hu;have a1:mFn (_G.run 2 2 Fc) (aa 0#6 (aa 4#1 ai)) [1#4,some u] S=some (.bl (vQ m u),S1):=cz 0#0 5#4 e1;cases h:vQ m u with
 | false=>
   rw[h]at a1;exact⟨S1,bT (G:= [1#4,some u]) rfl (show gtM [1#4,some u] S=_ from bE (by rw[JV a1];simp[wy,h])),x1⟩
 | true=>
   cases hu with
   | tup _ hl=>
     obtain⟨l,rfl,hw⟩:=xm (show _=true from h);rw[bV]at hl;obtain⟨S2,e2,x2⟩:=O6 (S:=S) g hm hw 0#2;exact⟨S2,by rw[e2,Ec hw],x2⟩
   |_=>cases h
theorem MY(g:Grp m T)(hw:Lt m l)(hl:2#6+1=m):((ddN (plc T l)).length=m)↔srt (plc T l)=aB m:=by
 have lt:=Lz g hw;have hd:Lt m (ddN (plc T l)):=λx hx=>lt x (wL.mp hx);constructor
 .intro h
  have a:All m (ddN (plc T l)):=⟨EV _,hd,h⟩;have b:All m (plc T l):=(Hd lt).mpr ⟨λx hx=>wL.mp (a.mem hx),by rw[oK];exact hl⟩;exact of_decide_eq_true (BE.mpr b)
 .intro h
  have b:=BE.mp (decide_eq_true h);have:=(IF (EV (plc T l)) b.nd λx=>wL).length_eq;rw[this,oK];exact hl
theorem KE{a:List Nat}(g:Grp m T)(hp:Lt m p)(hb:a.length+2#6*(9#2+1)<=1000)(ZL:9#2<1000):∃S',_G.run 4 8 thM [tab m T,.tup (ak a),.tup 1#7,.tup (ak p)] S=some (.tup (ak (a++thL (bk m T p) p 0 l)),S')/\Ex S S':=by
 obtain⟨S1,e1,x1⟩:=Kr (S:=S) g hp (bc ZL 0#1);generalize hE: [1#4,some (.tup (ak a)),3#5,14#7,some (.tup 20#2)]=E;have hE0:∀(x y z:Option U),(E++[x,y,z])[4]?=some (some (.tup 20#2)):=λx y z=>by rw[<-hE];rfl
 obtain⟨Y8,S2,e2,⟨b,c,rfl⟩,hS⟩:=qD (g:=gTp 2 18#4) (b:=bz 5 18#7)
  (λj G S'=>(∃b c,G=E++[17#3,b,c])/\S'=S1) (gy 1#7) 0 (E++[some (.tup (ak a)),none,none]) S1 ⟨⟨none,none,by simp[thL]⟩,rfl⟩ (by
   rintro j u G S' hu ⟨⟨b,c,rfl⟩,rfl⟩;rw[ek];obtain⟨x,hx,rfl⟩:=yI hu;have hj:=(ah.mp hx).1;have Wm:=mQ (p:=p) (iB (m:=m) (T:=T)) (l.take j) 0;rw[eu,j2 (aN hj)]at Wm;have hmul:(j+1)*(9#2+1)<=2#6*(9#2+1):=qL _ hj;rw[Nat.succ_mul]at hmul;have hq:(if j%2=0 then bk m T p else p).length=9#2:=by split<;>simp[iB]
   have s1:gTp 2 18#4 (.tup [.int (j:Nat),.int (x:Nat)]) (E++[17#3,b,c]) S'=some (E++[17#3,10#4,8#6],S'):=by rw[<-hE];rfl
   have f1:m2 bM (ae 5) (dS (aa (ae 7) ai)) (E++[17#3,10#4,8#6]) S'=some (.tup (ak (a++thL (bk m T p) p 0 (l.take j)++[x])),S'):=
    xg (var_eq 13#0) (tY (var_eq 13#0)) (by unfold big;simp;omega)
   have f2:m2 oIx (ae 4) (m2 oMod (ae 6) 2#3) (E++[17#3,10#4,8#6]) S'=some (.tup (ak (if j%2=0 then bk m T p else p)),S'):=by
    refine Em (us:= 20#2) (var_eq (hE0 _ _ _)) (qZ (x:=j) (y:=2) (var_eq 13#0) c_i 0#1) (iI ?_);by_cases q:j%2=0
    .rw[if_pos q,q];rfl
    .rw[if_neg q,show j%2=1 by omega];rfl
   have f3:=xg f1 f2 (by rw[aD,aD,Wm,hq];unfold big;simp;omega);refine⟨_,S',_,S',s1,bD f3,⟨10#4,8#6,?_⟩,rfl⟩;rw[yH hx,<-hE]
   simp)
 have hlen:(gy 1#7).length=2#6:=by simp[gy,ak]
 rw[hlen,ek,mV]at e2;subst hS;refine⟨S2,bT (G:=E++[some (.tup (ak (a++thL (bk m T p) p 0 l))),b,c]) rfl ?_,x1⟩;have et:dS (aa (mFn (_G.run 2 2 bkM) (aa 0#3 7#1)) 7#1) [1#4,some (.tup (ak a)),3#5,14#7,none,none,none,none] S=some (.tup 20#2,S2):=EW (cz 0#0 0#0 e1) 0#0;have ef:q9 (gTp 2 18#4) (kW 3#8) (bz 5 18#7) (E++[some (.tup (ak a)),none,none]) S2=some (.nx,E++[some (.tup (ak (a++thL (bk m T p) p 0 l))),b,c],S2):=by
  show bnd (kW _ _ _) _=_;rw[show kW 3#8 (E++[some (.tup (ak a)),none,none]) S2=some (.imm (gy 1#7),S2) by rw[<-hE];rfl];exact e2
 refine(aS (bD et)).trans ((aS (bD 0#0)).trans ?_);subst hE;exact(aS ef).trans (bE 0#0)
theorem P9(hl:2#6<1000)(YV:∀x∈l,x<1000):∃S',ji [.tup 1#7,tab m B] S=some (.tup (ak 8#7),S')/\Ex S S':=by
 have e1:=sh (G:= [3#5,3#0]) (S:=S) (a:=ae 0) (e:=m2 d7 0#7 (mFn bL 3#4)) (f:=λx=>.int (x*m:Nat)) 0#0 (bc hl 0#1) λx hx=>md 0#0 5#4 (bc (YV x hx) 0#1);rw[show(l.map λx=>U.int (x*m:Nat))=ak 8#7 by simp[ak]]at e1;exact⟨_,bT (G:= [3#5,3#0]) rfl (bE (eY e1)),Ex.push _ _⟩
variable{e:ME}{G:Rho}
theorem Nh{S:Sto}{i:Nat}(h:e G S=none):bz i e G S=none:=by simp only[bz,h,bnd]
variable{S1:Sto}
theorem Ia{S:Sto}{u:U}(h:e G S=some (u,S1)):dk e G S=some (.nx,G,S1):=by simp only[dk,h,aA]
theorem IQ{S:Sto}(h:e G S=none):dk e G S=none:=by simp only[dk,h,bnd]
theorem Mu{r:RF}{a b c d:ME}{S S2 S3 S4:Sto}{x y z w:U}{v:Option (Nat×Sto)}(ha:a G S=some (x,S1))(hb:b G S1=some (y,S2))(hc:c G S2=some (z,S3))(hd:d G S3=some (w,S4))(h:r [x,y,z,w] S4=v):xFn r (aa a (aa b (aa c (aa d ai)))) G S=v:=by simp only[xFn,aa,ai,ha,hb,hc,hd,aA,h]
theorem L9{S S2:Sto}{a b:ME}{x y:Bool}(ha:a G S=some (.bl x,S1))(x1:Ex S S1)(hb:b G S1=some (.bl y,S2))(x2:Ex S1 S2):∃S',cOr (eB (cOf a)) (eB (cOf b)) G S=some (!(x&&y),S')/\Ex S S':=by
 have h1:=not_eq (of_eq ha);cases x with
 |false=>exact⟨S1,CK h1,x1⟩
 | true=>
   refine⟨S2,?_,x1.trans x2⟩;rw[zd h1 (not_eq (of_eq hb))];rfl
theorem LF(ga:Grp k A)(gb:Grp m B)(hk:k<1000)(hm:m<1000)(hu:Thg S u)(hv:Thg S v):∃S',Ex S S' /\
  (wy k A u=true/\wy m B v=true->dG 10#1 S=some (.non,S')/\fT 10#1 S=none) /\
  (¬(wy k A u=true/\wy m B v=true)->dG 10#1 S=none/\fT 10#1 S=some (2,S')):=by
 obtain⟨S1,e1,x1⟩:=GJ (S:=S) ga hk hu;obtain⟨S2,e2,x2⟩:=GJ (S:=S1) gb hm (hv.ex x1);obtain⟨S3,e3,x3⟩:=L9 (G:= [3#2,some u,3#0,some v]) (a:=mFn dy 8#9) (b:=mFn dy 11#2) (cz 0#0 0#0 e1) x1 (cz 0#0 0#0 e2) x2;refine⟨S3,x3,λh=>?_,λh=>?_⟩
 .rw[h.1,h.2]at e3
  refine⟨MO (G:= [3#2,some u,3#0,some v]) rfl ((jT e3).trans rfl),?_⟩;show oS 4 4 iz _ _=none;unfold oS;rw[if_pos (show [tab k A,u,tab m B,v].length=4 from rfl)];exact(tm ((JI e3).trans rfl) ((jT e3).trans rfl)).trans rfl
 .have z:(wy k A u&&wy m B v)=false:=by rw[<-Bool.not_eq_true,ao];exact h
  rw[z]at e3;exact⟨sD ((lD e3).trans rfl),pz rfl (qW ((Gc e3).trans (qW rfl)))⟩
end
end
section
open _L _G
section
variable {k m:Nat}{A B T:Nat->Nat->Nat}{S:Sto}{l p:List Nat}{u v:U}
theorem zo{e:ME}{G:Rho}{f:Nat->Nat}:∀(l:List Nat) (acc:List U) (S:Sto),(∀x∈l,∀S',∃ZC,e (G++[8#6]) S'=some (.int (f x:Nat),ZC)/\Ex S' ZC)->∃S',eI cTT e G 1#7 acc S=some (acc++ak (l.map f),S')/\Ex S S'
 |[],acc,S,_=>⟨S,by simp[eI,ak],Ex.refl _⟩
 | x::l,acc,S,h=>by
   obtain⟨S1,e1,x1⟩:=h x aL S;obtain⟨S2,e2,x2⟩:=zo l (acc++[.int (f x:Nat)]) S1 λy hy=>h y (ay _ hy);refine⟨S2,?_,x1.trans x2⟩;show eI cTT e G (.int (x:Nat)::ak l) acc S=_;simp only[eI,cTT,aA,if_true,e1,e2];simp[ak]
variable{G:Rho}
theorem HF{a e:ME}{f:Nat->Nat}(ha:a G S=some (.tup 1#7,S))(hl:2#6<10000)(h:∀x∈l,∀S',∃ZC,e (G++[8#6]) S'=some (.int (f x:Nat),ZC)/\Ex S' ZC):∃S',mFn bU (aa (cY (eZ a) cTT e) ai) G S=some (.tup (ak (l.map f)),S')/\Ex S S':=by
 obtain⟨S1,e1,x1⟩:=zo (e:=e) (G:=G) (f:=f) l [] S h;have hi:eZ a G S=some (.imm 1#7,S):=by simp only[eZ,ha,aA]
 exact⟨_,eY (jK hi e1 (by simp[ak];unfold big;omega)),x1.trans 3#6⟩
theorem Gf{x:Nat}(g:Grp m T)(hm:m<100)(hx:x<m):∃S',dY [tab m T,.int (x:Nat)] S=some (.int (unT m T x:Nat),S')/\Ex S S':=by
 obtain⟨S1,e1,h1⟩:=zI (G:= [1#4,8#6]) (S:=S) (S0:=S) (a:=mFn bL 6#1) (t:=cOf (m2 oEq (m2 oIx (m2 oIx 0#3 0#7) 0#6) 2#4)) (e:=ae 2) (n:=m) 5#4 14#3
  (λj=>decide (T j x=0)) (λj => .int j) (λ_ S'=>S'=S) rfl (by
   rintro j S' hj rfl
   exact⟨S',of_eq (Lo (y:=0) (kO hx (jY hj (var_eq rfl) (var_eq rfl)) (var_eq rfl)) c_i),λ_=>⟨S',var_eq rfl,rfl⟩,λ_=>rfl⟩)
 subst h1;have d1:((((aB m).filter λj=>decide (T j x=0)).map λ(j:Nat)=>U.int j)[0]?)=some (.int (unT m T x)):=by
  rw[cy,jy,pk (k:=unT m T x) m 0 (en _) (by have:=qV g hx;omega) (by simpa using PY g hx) λj _ hj=>by
   have:T j x≠0:=λh0=>by have:=g.cancelR hx (bc hj (qV g hx)) (qV g hx) (h0.trans (PY g hx).symm);omega
   simpa using this]
  rfl
 exact⟨_,bT (G:= [1#4,8#6]) rfl (bE (Jh e1 d1)),Ex.push _ _⟩
theorem Kq(g:Grp m T)(hm:m<100)(hp:Lt m p)(hl:9#2<1000):∃S',fE [tab m T,.tup (ak p)] S=some (.tup (ak (bk m T p)),S')/\Ex S S':=by
 have hr:m1 uS 0#6 [1#4,14#7] S=some (.tup (ak p.reverse),S):=by
  show some (U.tup (ak p).reverse,S)=_;rw[show(ak p).reverse=ak p.reverse from(List.map_reverse ..).symm]
 obtain⟨S1,e1,x1⟩:=HF (f:=unT m T) (e:=mFn dY 13#2) hr (by rw[eh];omega) λx hx S'=>by
  obtain⟨S2,e2,x2⟩:=Gf (S:=S') g hm (hp x (gJ.mp hx));exact⟨S2,cz 0#0 0#0 e2,x2⟩
 exact⟨S1,bT (G:= [1#4,14#7]) rfl (bE e1),x1⟩
theorem O7{b:List Nat}(hb:b.length=9#2)(hm:m<1000)(ZR:∀x∈l,x<1000)(hl:2#6<1000)(hp:9#2<1000):∃S',gS [.tup 1#7,.int (m:Nat),.tup (ak b),.tup (ak p)] S=some (.ref 0#5,S')/\Ex S S'/\S'[0#5]?=some (.lst (ak (thL b p 0 8#7))):=by
 generalize hE:([3#5,10#3,some (.tup (ak b)),14#7,2#7]:Rho)=E;obtain⟨Y8,S2,e2,⟨b2,c2,rfl⟩,x2,g2⟩:=qD (g:=gTp 2 (dD (gN 5) (dD (gN 6) jH))) (b:=aY 23#1 (dk 18#9))
  (λj G S'=>(∃b c,G=E++[b,c])/\Ex S S'/\S'[0#5]? = some (.lst (ak (thL b p 0 14#2)))) (gy 1#7) 0 (E++[none,none]) 4#2 ⟨⟨none,none,rfl⟩,Ex.push _ _,by rw[bN];rfl⟩ (by
   rintro j u G S' hu ⟨⟨b',c',rfl⟩,x1,g1⟩;rw[ek]at g1 ⊢;obtain⟨x,hx,rfl⟩:=yI hu;have hj:=(ah.mp hx).1;have WB:(l.map (· * m))[j]?=some (x*m):=by rw[cy,hx];rfl
   have Wm:=mQ hb 14#2 0;rw[eu,aF,j2 (aN hj)]at Wm;have hq:(if j%2=0 then b else p).length=9#2:=by split<;>simp[hb]
   have YA:j*(9#2+1)<=999*1000:=Nat.mul_le_mul 0#2 0#2;have s1:gTp 2 (dD (gN 5) (dD (gN 6) jH)) (.tup [.int (j:Nat),.int (x:Nat)]) (E++[b',c']) S'=some (E++[10#4,8#6],S'):=by rw[<-hE];rfl
   have f1:=append_eq (G:=E++[10#4,8#6]) (S:=S') (o:=ae 4) (a:=m2 d7 (ae 6) 0#6) (r:=S.length) (var_eq 13#0) (md (var_eq 13#0) (var_eq 13#0) (bc (ZR x (dc hx)) 0#1)) g1 g1 (by rw[bV,Wm];unfold big;omega);have x3:Ex S (S'.set S.length (.lst (ak (thL b p 0 14#2)++[.int (x*m:Nat)]))):=x1.set 1#9;have g3:(S'.set S.length (.lst (ak (thL b p 0 14#2)++[.int (x*m:Nat)])))[0#5]?=some (.lst (ak (thL b p 0 14#2++[x*m]))):=by
    rw[aK (ah.mp g1).1];simp[ak]
   generalize S'.set S.length (.lst (ak (thL b p 0 14#2)++[.int (x*m:Nat)]))=S3 at f1 x3 g3;have h3:0#5<S3.length:=(ah.mp g3).1;have f2:m2 oIx (cw 11#2) (m2 oMod (ae 5) 2#3) (E++[10#4,8#6]) S3=some (.tup (ak (if j%2=0 then b else p)),S3++[.lst [.tup (ak b),.tup (ak p)]]):=by
    refine sZ (Be (x:= .tup (ak b)) (y:= .tup (ak p)) (var_eq 13#0) (var_eq 13#0)) (qZ (x:=j) (y:=2) (var_eq 13#0) c_i 0#1) (bN _ _) (iI ?_);by_cases q:j%2=0
    .rw[if_pos q,q];rfl
    .rw[if_neg q,show j%2=1 by omega];rfl
   have g4:(S3++[Cell.lst [.tup (ak b),.tup (ak p)]])[0#5]?=some (.lst (ak (thL b p 0 14#2++[x*m]))):=(Ex.push _ _).some g3;have f3:dk 18#9 (E++[10#4,8#6]) S3=some (.nx,E++[10#4,8#6],(S3++[Cell.lst [.tup (ak b),.tup (ak p)]]).set S.length (.lst (ak (thL b p 0 ((l.map (· * m)).take (j+1)))))):=by
    have v4:ae 4 (E++[10#4,8#6]) S3=some (.ref 0#5,S3):=var_eq 13#0;have gl:getL S3 S.length=some (ak (thL b p 0 14#2++[x*m])):=by unfold getL;rw[g3]
    simp only[dk,mML,v4,aA,gl,aI,k9 f2,i8,g4];rw[if_pos (by rw[bV,bV,aD,Wm,hq];unfold big;simp;omega),yH WB];simp[ak,aA]
   refine⟨_,S',_,_,s1,(aS f1).trans f3,⟨_,_,rfl⟩,(x3.trans 3#6).set 1#9,?_⟩
   rw[aK (aq h3 (by simp))])
 have hlen:(gy 1#7).length=(l.map (· * m)).length:=by simp[gy,ak]
 rw[hlen,ek,mV]at g2;refine⟨S2,bT (G:=E++[b2,c2]) rfl ?_,x2,g2⟩;have ef:q9 (gTp 2 (dD (gN 5) (dD (gN 6) jH))) (kW 6#1) (aY 23#1 (dk 18#9)) (E++[none,none]) 4#2=some (.nx,E++[b2,c2],S2):=by
  show bnd (kW _ _ _) _=_;rw[show kW 6#1 (E++[none,none]) 4#2=some (.imm (gy 1#7),S++[.lst []]) by rw[<-hE];rfl];exact e2
 refine(aS (bD mP)).trans ?_;subst hE;exact(aS ef).trans (bE 0#0)
def wyB:MS:=sIf (cOr (eB 18#5) (cOr (cOf (m1 (iw "bool") 0#7)) (eB (cOf (mCh oLe oLt 2#4 0#7 4#1))))) 12#1 dg
theorem Nd{a:Option U}{v:U}(h:Smp v):wyB [1#4,a,some v] S=some (if nbV m v then .nx else .rt (.bl false),[1#4,a,some v],S):=by
 have no :∀ w:U,eB 18#5 [1#4,a,some w] S=some (true,S)->wyB [1#4,a,some w] S=some (.rt (.bl false),[1#4,a,some w],S):=fun w hw=>(lD (CK hw)).trans (bE rfl);cases h with
 | int i=>
   have hl:mFn bL 6#1 [1#4,a,5#1] S=some (.int (m:Nat),S):=len_tab 0#0;have h3:mCh oLe oLt 2#4 0#7 4#1 [1#4,a,5#1] S=some (.bl (nbV m (.int i)),S):=by
    have v0:ae 2 [1#4,a,5#1] S=some (.int i,S):=rfl;have c0:mC (.int 0) [1#4,a,5#1] S=some (.int 0,S):=rfl;by_cases z:(0:Int)<=i<;>simp[mCh,v0,hl,c0,aA,xw,z,nbV]
   have h4:=zd (a:=eB 18#5) rfl (zd (a:=cOf (m1 (iw "bool") 0#7)) rfl (not_eq (of_eq h3)));cases q:nbV m (.int i) with
   |true=>rw[q]at h4;exact(jT h4).trans rfl
   |false=>rw[q]at h4;exact(lD h4).trans (bE rfl)
 |bl x=>exact (lD (zd (a:=eB 18#5) rfl (CK (a:=cOf (m1 (iw "bool") 0#7)) rfl))).trans (bE rfl)
 |non=>exact no _ rfl
 |str x=>exact no _ rfl
 |tup us=>exact no _ rfl
variable{S1:Sto}{n:Nat}
theorem QE{a:ME}(ha:a G S=some (.ref n,S1))(hn:S1[n]?=some (Cell.lst 1#7))(h1:2#6<4000):mFn bLS 4#4 G S=some (.int ((ddN l).length:Nat),S1):=by
 refine gG ha ?_;have ok:Hu (eU l).length:=by unfold eU;rw[aF];exact h1
 have gl:getL S1 n=some 1#7:=by unfold getL;rw[hn]
 simp only[bLS,ei,gl,aI,nK];rw[if_pos ok,<-qx];simp[eU]
theorem FI(g:Grp m T)(hm:m<60)(hu:Thg S u):∃S',ff [tab m T,u] S=some (.bl (wy m T u),S')/\Ex S S':=by
 have h1:=Bm (G:= [1#4,some u,none]) (S:=S) (a:=ae 1) 0#0 hu;have no:∀{G S'},kJ [1#4,some u,none] S=some (.rt (.bl false),G,S')->wy m T u=false->Ex S S'->∃S',ff [tab m T,u] S=some (.bl (wy m T u),S')/\Ex S S':=λ{G S'} h hw x=>⟨S',by rw[hw];exact bT (G:=G) rfl h,x⟩;cases hu with
 | tup h hl=>
   rename_i us
   have hp:=g.pos;have c0:=QS (G:= [1#4,some (.tup us),none]) (S:=S) (a:=mFn bL 3#4) (b:=m2 qc 4#1 1#3) (x:=0#9) (y:=m-1) (FD 0#0) (by rw[FP 5#4 c_i];congr 3;omega);have c1:=zd (not_eq (of_eq h1)) (of_eq c0);have bad:∀l,U.tup us=.tup 1#7->2#6=0#9:=λl e=>by injection e with e;rw[e,bV]
   by_cases hlen:0#9=m-1
   .rw[decide_eq_true hlen]at c1
    obtain⟨Y3,S1,e1,⟨a3,rfl⟩,rfl⟩:=vp (i:=2) (b:=wyB) (v:= .bl false) (nbV m) (λG S'=>(∃a,G = [1#4,some (.tup us),a])/\S'=S) us [1#4,some (.tup us),none] S ⟨⟨_,rfl⟩,rfl⟩ (by
     rintro v G S' hv ⟨⟨a,rfl⟩,rfl⟩
     exact⟨_,_,Nd (h v hv),⟨_,rfl⟩,rfl⟩)
    have Wg:fA 2 (eZ 0#6) wyB [1#4,some (.tup us),none] S1=_:=e1;cases ha:us.all (nbV m) with
    | false=>
      rw[ha]at Wg;exact no ((aS ((jT c1).trans rfl)).trans (sW Wg)) (by unfold wy;rw[show vQ m (.tup us)=false from ha];rfl) (Ex.refl _)
    | true=>
      rw[ha]at Wg;obtain⟨l,rfl,hw⟩:=xm ha;rw[bV]at hlen;have Zl:2#6+1=m:=by omega
      obtain⟨S2,e2,hS⟩:=AM (G:= [1#4,3#5,a3]) (S:=S1) (S0:=S1) (a:=mFn bL 6#1) (e:=mFn my (aa 0#3 (aa 15#0 ai))) (n:=m) 5#4 14#3 (λj => .int (jU T (l.take j):Nat)) (λ_ S'=>S'=S1) rfl (by
       rintro j S' hj rfl;refine⟨S',cz (y:= .tup (ak (l.take j))) 0#0 ?_ (IZ g (Lt.tk hw j)),rfl⟩;have v1:ae 1 ([1#4,3#5,a3]++[10#4]) S'=some (.tup 1#7,S'):=rfl;have v3:ae 3 ([1#4,3#5,a3]++[10#4]) S'=some (.int (j:Nat),S'):=rfl;simp only[mSl,v1,aA,ue,v3];rw[E1]
       simp[ak,List.map_take])
      subst hS;have ZL:(aB m).map (λj=>U.int (jU T (l.take j):Nat))=ak (plc T l):=by unfold plc ak;rw[dW,Zl];rfl
      rw[ZL]at e2;have e3:=Lo (b:=mFn bL 6#1) (QE e2 (bN _ _) (by rw[oK];omega)) (len_tab (m:=m) (T:=T) 0#0);rw[show decide ((ddN (plc T l)).length=m)=wy m T (.tup 1#7) by rw[Ec hw];exact decide_eq_decide.mpr (MY g hw Zl)]at e3;exact⟨_,bT (G:= [1#4,3#5,a3]) rfl ((aS ((jT c1).trans rfl)).trans ((aS Wg).trans (bE e3))),Ex.push _ _⟩
   .rw[decide_eq_false hlen]at c1
    refine no (sW ((lD c1).trans (bE rfl))) ?_ (Ex.refl _);rw[<-Bool.not_eq_true];intro z;obtain⟨l,e,_,_,YV⟩:=zE (S:=S) (.tup h hl) z;exact hlen (by rw[<-bad l e];omega)
 |_=>exact no (sW ((lD (CK (not_eq (of_eq h1)))).trans (bE rfl))) rfl (Ex.refl _)
def Ans(S:Sto):List Nat ⊕ Nat->U->Prop
 |.inl l,u=>u=.tup 1#7
 |.inr q,u=>∃r,u=.ref r/\S[r]?=some (Cell.lst (ak [q]))
variable{a:List Nat ⊕ Nat}
theorem Ans.ex{S':Sto}(h:Ans S a u)(x:Ex S S'):Ans S' a u:=by
 cases a with
 |inl l=>exact h
 |inr q=>obtain⟨r,e,g⟩:=h;exact⟨r,e,x.some g⟩
def NB:List Nat ⊕ Nat->Prop
 |.inl l=>(∀x∈l,x<1000)/\2#6<=1000
 |.inr q=>q<1000
theorem Lj(hu:Ans S a u)(hv:Ans S a v)(h:NB a):nQ [u,v] S=some (.bl true,S):=by
 cases a with
 | inl l=>
   cases (show u=.tup 1#7 from hu);cases (show v=.tup 1#7 from hv);exact Eg h.1 h.2
 | inr q=>
   obtain⟨r,rfl,hr⟩:=hu;obtain⟨r',rfl,Zw⟩:=hv;have hq:q<1000:=h;have hi:(q:Int).natAbs<10^12:=by rw[Int.natAbs_natCast];omega
   have pl:Pl (.list [dF q]):= .lst _ λd hd=>by
    rw[a9.mp hd];exact .int _ hi
   have hw:=sk hi;refine DR (d:= .list [.int q]) (zf (f:=38) hr) (zf (f:=38) Zw) pl (pl.ok ?_ ?_)
   .simp[PySem.PyData.depth,lg]
   .simp[PySem.PyData.weight,PySem.PyData.weightAll]at hw ⊢
    omega
variable{rl:MX}{cs:List U}
theorem Jc{rz is:List Nat}{ml:ME}(hc:fG is G=some cs)(h:ml (cs.map some) 4#2=some (u,S1))(x:Ex 4#2 S1):∃S',hZ (uR rz) is ml rl G S=some (u,S')/\Ex S S':=by
 have g1:S1[0#5]?=some (.lst []):=x.some (bN _ _);have a1:apM 0 (gQ 0 ml cs) [5#2,2#7] 4#2=some (.non,S1.set S.length (.lst [u])):=by
  have v1:ae 1 [5#2,2#7] 4#2=some (.ref 0#5,S++[.lst []]):=rfl;have f1:pq 0 0 (gQ 0 ml cs) ai [5#2,2#7] 4#2=some (u,S1):=h;have gl:getL 4#2 S.length=some []:=by unfold getL;rw[bN]
  simp only[apM,mML,v1,aA,gl,aI,k9 f1,cb,g1];rfl
 have e2:=DW (rz:=rz) (is:= [0,2]) (rl:=apX 0 (jz 0 rl cs)) (G:= [5#2,none,2#7]) (S:=S++[.lst []]) (cs:= [.obj 0,.ref 0#5]) rfl a1;have x3:Ex S (S1.set S.length (.lst [u])++gv λ_=>false):=((Ex.push _ _).trans x).set 1#9 |>.trans (Bx _ _)
 have g3:(S1.set S.length (.lst [u])++gv λ_=>false)[0#5]?=some (.lst [u]):=(Bx _ _).some (aK (ah.mp g1).1);generalize S1.set S.length (.lst [u])++gv (λ_=>false)=S3 at e2 x3 g3;refine⟨S3,?_,x3⟩;show(fG is G).bind _=_;rw[hc];have e3:m2 oIx 0#7 2#4 [5#2,some .non,2#7] S3=some (u,S3):=sZ 0#0 c_i g3 rfl;have c3:cOf (m2 oj 0#6 (mC .non)) [5#2,some .non,2#7] S3=some (false,S3):=rfl;have e4:A0 (cOf (m2 oj 0#6 (mC .non))) 0#6 (m2 oIx 0#7 2#4) [5#2,some .non,2#7] S3=some (u,S3):=by
  simp only[A0,c3,aA];exact e3
 have w1:AY [5#2,none,none] S=some (.nx,[5#2,none,2#7],S++[.lst []]):=rfl;have r:xO rz 0 (gQ 0 ml cs) (jz 0 rl cs) [5#2,none,none] S=some (.rt u,[5#2,some .non,2#7],S3):=(aS w1).trans ((aS (bD e2)).trans (bE e4));exact bT (k:=1) (n:=3) (us:= [.obj 0]) rfl r
theorem IJ{rz is:List Nat}{ml:ME}{q:Nat}(hc:fG is G=some cs)(h:ml (cs.map some) 4#2=none)(hx:rl (cs.map some) 4#2=some (q,S1))(hq:q∈rz)(x:Ex 4#2 S1):∃r S',hZ (uR rz) is ml rl G S=some (.ref r,S')/\Ex S S'/\S'[r]?=some (.lst (ak [q])):=by
 have v1:ae 1 [5#2,2#7] 4#2=some (.ref 0#5,S++[.lst []]):=rfl;have gl:getL 4#2 S.length=some []:=by unfold getL;rw[bN]
 have f1:pq 0 0 (gQ 0 ml cs) ai [5#2,2#7] 4#2=none:=h;have f2:Es 0 0 (jz 0 rl cs) [5#2,2#7] 4#2=some (q,S1):=hx;have a1:apM 0 (gQ 0 ml cs) [5#2,2#7] 4#2=none:=by
  simp only[apM,mML,v1,aA,gl,aI,aa,f1];rfl
 have a2:apX 0 (jz 0 rl cs) [5#2,2#7] 4#2=some (q,S1):=by
  simp only[apX,xML,v1,aA,gl,aI,f2]
 have e2:=Gz (is:= [0,2]) (G:= [5#2,none,2#7]) (S:=S++[.lst []]) (cs:= [.obj 0,.ref 0#5]) rfl a1 a2 hq;refine⟨6#3+3,S1++(gv (bQ q)++[.lst (ak [q])]),?_,(Ex.push _ _).trans (x.trans (Ly _ _ _)),Iq⟩;show(fG is G).bind _=_;rw[hc];have w1:AY [5#2,none,none] S=some (.nx,[5#2,none,2#7],S++[.lst []]):=rfl;have r:xO rz 0 (gQ 0 ml cs) (jz 0 rl cs) [5#2,none,none] S=some (.rt (.ref (6#3+3)),[5#2,some (.ref (6#3+3)),2#7],S1++(gv (bQ q)++[.lst (ak [q])])):=(aS w1).trans ((aS (bD e2)).trans (bE rfl));exact bT (k:=1) (n:=3) (us:= [.obj 0]) rfl r
theorem yM{e:ME}{G:Rho}{f:Nat->Nat->Nat}:∀(a b:List Nat) (acc:List U) (S:Sto),(∀x∈a,∀y∈b,∀S',∃ZC,e (G++[8#6,some (.int (y:Nat))]) S'=some (.int (f x y:Nat),ZC)/\Ex S' ZC)->∃S',fD cTT e G ((ak a).zip (ak b)) acc S=some (acc++ak (DJ f a b),S')/\Ex S S'
 |[],b,acc,S,_=>⟨S,by simp[fD,ak],Ex.refl _⟩
 |x::a,[],acc,S,_=>⟨S,by simp[fD,ak],Ex.refl _⟩
 | x::a,y::b,acc,S,h=>by
   obtain⟨S1,e1,x1⟩:=h x aL y aL S;obtain⟨S2,e2,x2⟩:=yM a b (acc++[.int (f x y:Nat)]) S1 λz hz w hw=>h z (ay _ hz) w (ay _ hw);refine⟨S2,?_,x1.trans x2⟩;show fD cTT e G ((.int (x:Nat),.int (y:Nat))::(ak a).zip (ak b)) acc S=_;simp only[fD,cTT,aA,if_true,e1,e2];simp[ak]
theorem Er(h:m8 n S)(g:Grp m T)(hm:m<60):∃w S',du [.ref n,tab m T] S=some (.tup (ak w),S')/\Stp n S S'/\w.length<=m:=by
 obtain⟨l,S1,e1,YX,o⟩:=zJ h g.pos 0#2;have hl:∀x∈l,x<m:=λx hx=>cK.mp (o.perm.mem_iff.mp hx);have ll:2#6=m:=by rw[o.perm.length_eq,bh]
 obtain⟨S2,e2,x2⟩:=yM (G:= [3#9,1#4,3#5]) (e:=m2 oIx (m2 oIx 0#6 (mFn dY (aa 0#6 7#1))) (ae 4)) (f:=λx y=>T (unT m T x) y) l (l.drop 1) [] S1 λx hx y hy S'=>by
  obtain⟨S3,e3,x3⟩:=Gf (S:=S') g 0#2 (hl x hx);exact⟨S3,kO (hl y (pN hy)) (jY (qV g (hl x hx)) 0#0 (cz 0#0 0#0 e3)) 0#0,x3⟩
 have hz:zr (aa 0#7 (aa (mSl 0#7 (some 1#3) none) ai)) [3#9,1#4,3#5] S1=some (.zpt 1#7 (ak (l.drop 1)),S1):=by
  have:mSl 0#7 (some 1#3) none [3#9,1#4,3#5] S1=some (.tup (ak (l.drop 1)),S1):=by
   show some (U.tup (cut 1#7 (some 1) none),S1)=_;rw[wG]
  simp only[zr,aa,var_eq (show([3#9,1#4,3#5]:Rho)[2]?=some (some (.tup 1#7)) from rfl),aA,this,ai]
 have hlen:(DJ (λx y=>T (unT m T x) y) l (l.drop 1)).length<=m:=by rw[List.length_zipWith];omega
 have e3:lN 2 (zr (aa 0#7 (aa (mSl 0#7 (some 1#3) none) ai))) cTT (m2 oIx (m2 oIx 0#6 (mFn dY (aa 0#6 7#1))) (ae 4)) [3#9,1#4,3#5] S1=some (.ref S2.length,S2++[.lst (ak (DJ (λx y=>T (unT m T x) y) l (l.drop 1)))]):=by
  simp only[lN,hz,aA,F5,if_true,e2,oG];rw[if_pos (by rw[bV];unfold big;omega)]
 exact⟨_,_,bT (G:= [3#9,1#4,3#5]) rfl ((aS (bD (cz 0#0 5#4 e1))).trans (bE (eY e3))),YX.trans (Stp.ex YX.st (x2.trans 3#6)),hlen⟩
theorem NK(h:m8 n S):∃k A m B S',d6 [.ref n] S=some (.tup [tab k A,tab m B],S')/\Grp k A/\Grp m B/\k<=6/\m<=6/\Stp n S S':=by
 obtain⟨k,A,S1,e1,ga,hk,YX⟩:=yz (most:=6) h 0#1 0#1;have Yn:Stp n S1 (S1++[.lst (ak [4,4,5,6])]):=Stp.ex YX.st 3#6;obtain⟨r,S3,e3,hr,Z8⟩:=iY (m:=4) Yn.st 0#1 0#1;obtain⟨q,hq,h4,h6⟩ :∃q:Nat,(ak [4,4,5,6])[r]?=some (.int (q:Nat))/\4<=q/\q<=6:=by
  have:r=0\/r=1\/r=2\/r=3:=by omega
  rcases this with rfl|rfl|rfl|rfl
  .exact⟨4,rfl,by decide,by decide⟩
  .exact⟨4,rfl,by decide,by decide⟩
  .exact⟨5,rfl,by decide,by decide⟩
  .exact⟨6,rfl,by decide,by decide⟩
 have g3:S3[6#3]?=some (.lst (ak [4,4,5,6])):=Z8.some (bF YX.st.lt) (bN _ _);obtain⟨m,B,S4,e4,gb,hm,Yr⟩:=yz (most:=q) Z8.st h4 0#2;have a3:m2 oIx (cw (aa (mC (.int 4)) (aa (mC (.int 4)) (aa (mC (.int 5)) (aa (mC (.int 6)) ai))))) (mFn be (aa 0#3 (aa (mC (.int 4)) ai))) [3#9,3#2] S1=some (.int (q:Nat),S3):=sZ i9 (cz 0#0 c_i e3) g3 (iI hq);exact⟨k,A,m,B,S4,bT (G:= [3#9,3#2]) rfl ((aS (bD (cz 0#0 c_i e1))).trans (bE (EW 0#0 (cz 0#0 a3 e4)))),ga,gb,hk,by omega,YX.trans (Yn.trans (Z8.trans Yr))⟩
theorem MR(h:m8 n S):∃u S',kh [.ref n] S=some (u,S')/\Stp n S S'/\Tn n S' u:=by
 have hn:=h.lt;have ep:m2 wK _ (mC (.int 30)) [3#9,none] _=some (.int (10^30),S++5#5++11#6++16#4):=op2 c_i c_i (if_pos ⟨by decide,by decide,by decide⟩);have ed:vq 2#4 1#3 [3#9,none] (S++5#5++11#6)=some (.ref (S++5#5++11#6).length,S++5#5++11#6++16#4):=by
  generalize S++5#5++[Cell.lst _]=S0;have g0:(S0++[Cell.dic []])[S0.length]?=some _:=bN _ _;simp only[vq,mC,aA,keyOf,aI,g0];rw[oI _ _ 1#9,Nat.sub_self];rfl
 have e1:=ml (mc (a:=mC .non) rfl (mc (a:=mC (.bl true)) rfl (mc (a:=mC (.bl false)) rfl (mc Io (mc (a:=mC (.str "")) rfl (mc (a:=mC (.str "0")) rfl (mc (show dS ai _ _=_ from rfl) (mc mP (mc (tY (a:=mC (.bl true)) rfl) (mc (B0 (c_i)) (mc ed (mc (tY (a:=mC .non) rfl) (mc (tY Io) (mc (tY (a:=mC (.str "a")) rfl) (mc ep (mc (tY (tY (c_i (z:=0)))) 16#8)))))))))))))))) 0#4;have TM:Ex S (S++5#5++11#6++16#4):=((Ex.push _ _).trans 3#6).trans 3#6;have g1:(S++5#5++11#6++16#4)[0#5]?=some _:=((Ex.push _ _).trans 3#6).some (bN _ _);have g2:(S++5#5++11#6++16#4)[(S++5#5).length]?=some _:=(Ex.push _ _).some (bN _ _);have g3:(S++5#5++[Cell.lst _]++16#4)[(S++5#5++11#6).length]?=some _:=bN _ _;have l1:0#5≠n:=by omega
 have l2:(S++5#5).length≠n:=by simp;omega
 have l3:(S++5#5++11#6).length≠n:=by simp;omega
 generalize S++5#5++[Cell.lst _]++[Cell.dic _]=S1 at e1 TM g1 g2 g3;generalize (S++5#5++[Cell.lst _]).length=r3 at e1 g3 l3;generalize (S++5#5).length=r2 at e1 g2 l2;have all :∀ v∈([.non,.bl true,.bl false,.int (-1),.str "",.str "0",.tup [],.ref 0#5,.tup [.bl true],.ref r2,.ref r3,.tup [.non],.tup [.int (-1)],.tup [.str "a"],.int (10^30),.tup [.tup [.int 0]]]),Tn n S1 v:=by
  intro v hv;simp at hv;rcases hv with rfl|rfl|rfl|rfl|rfl|rfl|rfl|rfl|rfl|rfl|rfl|rfl|rfl|rfl|rfl|rfl
  .exact⟨.non,λz=>by cases z⟩
  .exact⟨.bl _,λz=>by cases z⟩
  .exact⟨.bl _,λz=>by cases z⟩
  .exact⟨.int _,λz=>by cases z⟩
  .exact⟨.str _,λz=>by cases z⟩
  .exact⟨.str _,λz=>by cases z⟩
  .exact⟨.tup 0#4 0#4,λz=>by cases z⟩
  .exact⟨.lst g1,λz=>by injection z with z;exact l1 z⟩
  .exact⟨.tup (λw hw=>by cases a9.mp hw;exact .bl _) 0#4,λz=>by cases z⟩
  .exact⟨.lst g2,λz=>by injection z with z;exact l2 z⟩
  .exact⟨.dic g3,λz=>by injection z with z;exact l3 z⟩
  .exact⟨.tup (λw hw=>by cases a9.mp hw;exact .non) 0#4,λz=>by cases z⟩
  .exact⟨.tup (λw hw=>by cases a9.mp hw;exact .int _) 0#4,λz=>by cases z⟩
  .exact⟨.tup (λw hw=>by cases a9.mp hw;exact .str _) 0#4,λz=>by cases z⟩
  .exact⟨.int _,λz=>by cases z⟩
  .exact⟨.tup (λw hw=>by cases a9.mp hw;exact .tup _) 0#4,λz=>by cases z⟩
 generalize hits:([.non,.bl _,.bl _,.int _,.str "",.str _,.tup [],.ref 0#5,.tup _,.ref r2,.ref r3,.tup _,.tup _,.tup _,.int _,.tup _]:List U)=ZZ at e1 all;have hlen:ZZ.length=16:=by rw[<-hits];rfl
 have YX:Stp n S (S1++[Cell.lst ZZ]):=Stp.ex h (TM.trans 3#6);obtain⟨r,S4,f4,hr,Yr⟩:=iY (m:=16) YX.st 0#1 0#1;have hS1:6#3≠n:=by obtain⟨z,hz⟩:=TM;rw[hz];simp;omega
 have g4:=Yr.some hS1 (bN _ _);have hi:ZZ[r]?=some ZZ[r]:=bq _;have e2:m2 _ 0#6 (mFn _ (aa 0#3 _)) [some _,some _] _=some _:=sZ 0#0 (cz 0#0 c_i f4) g4 (iI hi);exact⟨_,S4,bT rfl ((aS (bD e1)).trans (bE e2)),YX.trans Yr,((all _ (jd _)).ex 3#6).stp Yr⟩
theorem HL{l:List Nat}(h:m8 n S)(hl:2#6<=24)(hm:0<m):∃u S',fh [.ref n,.tup 1#7,.int (m:Nat)] S=some (u,S')/\Stp n S S'/\Tn n S' u:=by
 have hn:=h.lt;have el:m2 bM (mFn bL 3#4) 1#3 [3#9,3#5,10#3,none,none,none] S=some (.int (2#6+1:Nat),S):=by
  have:=add_n (G:= [3#9,3#5,10#3,none,none,none]) (S:=S) (x:=(ak l).length) (y:=1) (a:=mFn bL 3#4) (b:=mC (.int 1)) (FD 0#0) c_i;rwa[bV]at this
 obtain⟨k,S1,f1,hk,YX⟩:=iY (m:=2#6+1) h 0#2 0#2;have h1:=YX.st.lt;have e2:=ml (mc (c_i (z:=0)) (mc (c_i (z:=1)) (mc (a:=ae 2) (G := [3#9,3#5,10#3,some (.int (k:Nat)),none,none]) (S:=S1) (x := .int (m:Nat)) 0#0 (mc Io (mc (a:=mC (.bl true)) rfl (mc (a:=mC .non) rfl (mc (a:=mC (.str "0")) rfl (mc (tY (c_i (z:=0))) (mc (a:=m2 qc 0#7 1#3) (op2 (f:=qc) (var_eq (u := .int (m:Nat)) rfl) (c_i (z:=1)) rfl) 16#8))))))))) 0#4;have all :∀ v∈([.int 0,.int 1,.int (m:Nat),.int (-1),.bl true,.non,.str "0",.tup [.int 0],.int ((m:Nat)-1)]:List U),Smp v:=by
  intro v hv;simp only[aJ,cQ,_root_.or_false]at hv;rcases hv with rfl|rfl|rfl|rfl|rfl|rfl|rfl|rfl|rfl
  .exact .int _
  .exact .int _
  .exact .int _
  .exact .int _
  .exact .bl _
  .exact .non
  .exact .str _
  .exact .tup _
  .exact .int _
 generalize hits:([.int 0,.int 1,.int (m:Nat),.int (-1),.bl true,.non,.str "0",.tup [.int 0],.int ((m:Nat)-1)]:List U)=ZZ at e2 all;have hlen:ZZ.length=9:=by rw[<-hits];rfl
 have Yn:Stp n S1 (S1++[Cell.lst ZZ]):=Stp.ex YX.st 3#6;obtain⟨r,S3,f3,hr,Z8⟩:=iY (m:=9) Yn.st 0#1 0#1;have g3:S3[6#3]?=some (Cell.lst ZZ):=Z8.some 0#2 (bN _ _);have hi:ZZ[r]?=some ZZ[r]:=bq 0#2;have e3:m2 oIx (cw (aa 2#4 (aa 1#3 (aa 0#7 (aa (m1 m7 1#3) (aa (mC (.bl true)) (aa (mC .non) (aa (mC (.str "0")) (aa (dS 8#0) (aa (m2 qc 0#7 1#3) ai)))))))))) (mFn be (aa 0#3 (aa (mC (.int 9)) ai))) [3#9,3#5,10#3,some (.int (k:Nat)),none,none] S1=some (ZZ[r],S3):=sZ e2 (cz 0#0 c_i f3) g3 (iI hi);have SH:Smp ZZ[r]:=all _ (jd 0#2);generalize ZZ[r]=od at e3 SH;have h3:=Z8.st.lt;have s1:∀S',mSl 0#6 none (some 1#6) 13#4 S'=some (.tup ((ak l).take k),S'):=λS'=>by
  have v1:ae 1 13#4 S'=some (.tup 1#7,S'):=rfl;have v3:ae 3 13#4 S'=some (.int (k:Nat),S'):=rfl;simp only[mSl,v1,aA,ue,v3];rw[E1]
 have s2:∀S',mSl 0#6 (some 1#6) none 13#4 S'=some (.tup ((ak l).drop k),S'):=λS'=>by
  have v1:ae 1 13#4 S'=some (.tup 1#7,S'):=rfl;have v3:ae 3 13#4 S'=some (.int (k:Nat),S'):=rfl;simp only[mSl,v1,aA,ue,v3];rw[vH]
 have s3:∀S',mSl 0#6 (some (m2 bM 1#6 1#3)) none 13#4 S'=some (.tup ((ak l).drop (k+1)),S'):=λS'=>by
  have v1:ae 1 13#4 S'=some (.tup 1#7,S'):=rfl;have v3:m2 bM 1#6 1#3 13#4 S'=some (.int ((k+1:Nat):Int),S'):=rfl;simp only[mSl,v1,aA,ue,v3];rw[vH]
 have VM:=bV l;have lt1:((ak l).take k).length<=24:=by rw[eu];omega
 have lt2:((ak l).drop k).length<=24:=by rw[gH];omega
 have lt3:((ak l).drop (k+1)).length<=24:=by rw[gH];omega
 have ss:∀v∈ak l,Smp v:=λv hv=>by obtain⟨x,_,rfl⟩:=bp.mp hv;exact .int _
 have t1:∀v∈(ak l).take k,Smp v:=λv hv=>ss v (pL hv);have t2:∀v∈(ak l).drop k,Smp v:=λv hv=>ss v (pN hv);have t3:∀v∈(ak l).drop (k+1),Smp v:=λv hv=>ss v (pN hv);have o1:∀v∈[od],Smp v:=λv hv=>by cases a9.mp hv;exact SH
 have ap:∀{a b:List U},(∀v∈a,Smp v)->(∀v∈b,Smp v)->∀v∈a++b,Smp v:=λ{a b} ha hb v hv=>(dI.mp hv).elim (ha v) (hb v);have e5:=ml (mc (tQ (tQ (s1 S3) (tY (a:=ae 4) (u:=od) 0#0) 13#1) (s3 S3) (by simp only[aD,aO,cp];omega)) (mc (tQ (s1 S3) (s3 S3) 0#2) (mc (tQ (tQ (s1 S3) (tY (a:=ae 4) (u:=od) 0#0) 13#1) (s2 S3) (by simp only[aD,aO,cp];omega)) (mc (a:=mFn kX 3#4) (gG (f:=kX) (var_eq (u:= .tup 1#7) rfl) (show kX [.tup 1#7] S3=some (.ref S3.length,S3++[.lst 1#7]) from rfl)) 16#8)))) 0#4;generalize hX:([.tup ((ak l).take k++[od]++(ak l).drop (k+1)),.tup ((ak l).take k++(ak l).drop (k+1)),.tup ((ak l).take k++[od]++(ak l).drop k),.ref S3.length]:List U)=X at e5;have hrv:∀S',m1 uS 0#6 18#6 S'=some (.tup (ak l).reverse,S'):=λS'=>rfl;have s1':∀S',mSl 0#6 none (some 1#6) 18#6 S'=some (.tup ((ak l).take k),S'):=λS'=>s1 S';have s2':∀S',mSl 0#6 (some 1#6) none 18#6 S'=some (.tup ((ak l).drop k),S'):=λS'=>s2 S';have e6:=ml (mc (hrv (S3++12#3++[Cell.lst X])) (mc (tQ (s2' _) (s1' _) 0#2) (mc (a:=m2 bM 0#6 0#6) (tQ (xs:=ak l) (ys:=ak l) 0#0 0#0 0#2) (mc (a:=mC .non) rfl (mc (show dS ai _ _=_ from rfl) (mc (a:=ae 1) (x:= .tup 1#7) 0#0 16#8)))))) 0#4;generalize hY:([.tup (ak l).reverse,.tup ((ak l).drop k++(ak l).take k),.tup (ak l++ak l),.non,.tup [],.tup 1#7]:List U)=Y at e6;have lX:X.length=4:=by rw[<-hX];rfl
 have lY:Y.length=6:=by rw[<-hY];rfl
 have gX:(S3++12#3++[Cell.lst X]++[Cell.lst Y])[(S3++12#3).length]?=some (Cell.lst X):=(Ex.push _ _).some (bN _ _);have gY:(S3++12#3++[Cell.lst X]++[Cell.lst Y])[(S3++12#3++[Cell.lst X]).length]?=some (Cell.lst Y):=bN _ _;have gW:(S3++12#3++[Cell.lst X]++[Cell.lst Y])[S3.length]?=some (Cell.lst 1#7):=((Ex.push _ _).trans 3#6).some (bN _ _);have x4:Ex S3 (S3++12#3++[Cell.lst X]++[Cell.lst Y]):=((Ex.push _ _).trans 3#6).trans 3#6;have e7:m2 bM (ae 5) (cw (aa (m1 uS 0#6) (aa (m2 bM (mSl 0#6 (some 1#6) none) 15#0) (aa (m2 bM 0#6 0#6) (aa (mC .non) (aa (dS ai) 3#4)))))) 18#6 (S3++12#3++[Cell.lst X])=some (.ref (S3++12#3++[Cell.lst X]++[Cell.lst Y]).length,S3++12#3++[Cell.lst X]++[Cell.lst Y]++[.lst (X++Y)]):=by
  refine op2 (f:=bM) 0#0 e6 ?_;simp only[bM,gX,gY];exact if_pos (by rw[lX,lY];decide)
 generalize S3++12#3++[Cell.lst X]++[Cell.lst Y]=S4 at e7 gW x4;have tn:∀{us:List U},(∀v∈us,Smp v)->0#9<60->Tn n S4 (.tup us):=λh hl=>⟨.tup h hl,λz=>by cases z⟩;have allT:∀v∈X++Y,Tn n S4 v:=by
  intro v hv;rcases dI.mp hv with hv|hv
  .rw[<-hX]at hv
   simp only[aJ,cQ,_root_.or_false]at hv;rcases hv with rfl|rfl|rfl|rfl
   .exact tn (ap (ap t1 o1) t3) (by simp only[aD,aO,cp];omega)
   .exact tn (ap t1 t3) (by simp only[aD];omega)
   .exact tn (ap (ap t1 o1) t2) (by simp only[aD,aO,cp];omega)
   .exact⟨.lst gW,λz=>by injection z with z;omega⟩
  .rw[<-hY]at hv
   simp only[aJ,cQ,_root_.or_false]at hv;rcases hv with rfl|rfl|rfl|rfl|rfl|rfl
   .exact tn (λv hv=>ss v (gJ.mp hv)) (by rw[eh];omega)
   .exact tn (ap t2 t1) (by simp only[aD];omega)
   .exact tn (ap ss ss) (by simp only[aD];omega)
   .exact⟨.non,λz=>by cases z⟩
   .exact tn 0#4 0#4
   .exact tn ss 0#2
 have hlZ:(X++Y).length=10:=by rw[aD,lX,lY]
 generalize X++Y=Z at e7 allT hlZ;have YN:Stp n S3 (S4++[Cell.lst Z]):=Stp.ex Z8.st (x4.trans 3#6);obtain⟨q,S6,f6,hq,Wl⟩:=iY (m:=10) YN.st 0#1 0#1;have hS4:S4.length≠n:=by obtain⟨z,hz⟩:=x4;rw[hz];simp;omega
 have g6:S6[S4.length]?=some (Cell.lst Z):=Wl.some hS4 (bN _ _);have hi6:Z[q]?=some Z[q]:=bq 0#2;have e8:m2 oIx (ae 5) (mFn be (aa 0#3 (aa (mC (.int 10)) ai))) [3#9,3#5,10#3,some (.int (k:Nat)),some od,some (.ref S4.length)] (S4++[Cell.lst Z])=some (Z[q],S6):=sZ 0#0 (cz 0#0 c_i f6) g6 (iI hi6);refine⟨Z[q],S6,bT (G:= [3#9,3#5,10#3,some (.int (k:Nat)),some od,some (.ref S4.length)]) rfl ?_,(((YX.trans Yn).trans Z8).trans YN).trans Wl,((allT _ (jd 0#2)).ex 3#6).stp Wl⟩;exact(aS (bD (cz 0#0 el f1))).trans ((aS (bD e3)).trans ((aS (bD e5)).trans ((aS (bD e7)).trans (bE e8))))
end
end
section
open _L _G
section
variable {k m:Nat}{A B T:Nat->Nat->Nat}{S:Sto}{l p:List Nat}{u v:U}
theorem GG(ga:Grp k A)(gb:Grp m B){y:Nat}(hy:y<k):unT (k*m) (fU m A B) (y*m)=unT k A y*m:=by
 have g:=oW ga gb;have hm:∀{z},z<k->z*m<k*m:=λh=>ko h gb.pos;have hz:=qV ga hy;refine(Kd g (hm hy) (hm hz) ?_).symm;unfold fU;rw[Nat.mul_div_cancel _ gb.pos,Nat.mul_div_cancel _ gb.pos,Nat.mul_mod_left,Nat.mul_mod_left,Oa ga hy,gb.l0 0 gb.pos];simp
theorem DT(ga:Grp k A)(gb:Grp m B)(hl:Lt k l):bk (k*m) (fU m A B) 8#7=(bk k A l).map (· * m):=by
 unfold bk;rw[<-List.map_reverse,dW,dW];exact dH λx hx=>GG ga gb (hl x (gJ.mp hx))
def wvr(k m:Nat)(A B:Nat->Nat->Nat)(u v:U):List Nat:=toN v++thL (bk m B ((toN v).drop 1)) ((toN v).drop 1) 0 ((toN u).map (· * m))++[unT m B ((toN v).headD 0)]++(bk k A (toN u)).map (· * m)
def okW(k m:Nat)(A B:Nat->Nat->Nat)(u v:U):Bool:=(wy k A u&&wy m B v) && !(decide (k%2=1)||decide (m<2))
variable{x:Nat}
theorem KC(ga:Grp k A)(gb:Grp m B){l p:List Nat}(hl:Lt k l)(hp:Lt m (x::p)):Lt (k*m) (wvr k m A B (.tup 1#7) (.tup (ak (x::p)))):=by
 have hk:∀{y},y<m->y<k*m:=λh=>aq h (fN _ ga.pos);have hs:∀{w:List Nat},Lt k w->Lt (k*m) (w.map (· * m)):=λhw x hx=>by
  obtain⟨y,hy,rfl⟩:=bp.mp hx;exact ko (hw y hy) gb.pos
 have ZG:Lt m p:=λy hy=>hp y (ay _ hy);unfold wvr;rw[iG,iG];exact Lt.app (Lt.app (Lt.app (λx hx=>hk (hp x hx)) (Ee (λx hx=>hk (ES gb ZG x hx)) (λx hx=>hk (ZG x hx)) _ _ (hs hl))) (Lt.one (hk (qV gb (hp x aL))))) (hs (ES ga hl))
theorem xq(hl:2#6+1=k)(hp:9#2+2=m):(wvr k m A B (.tup 1#7) (.tup (ak (x::p)))).length=k*m:=by
 unfold wvr;rw[iG,iG];show(((x::p)++thL (bk m B p) p 0 _++_)++_).length=_;rw[aD,aD,aD,mQ iB,aF,aF,iB,<-hp,<-hl];simp only[aO,cp,Nat.mul_add,Nat.add_mul];omega
variable{G:Rho}
theorem BC{i j:Nat}(hk:k<1000)(h0:G[i]?=some (some (tab k A)))(h2:G[j]?=some (some (tab m B))):cOr (cOf (m2 oEq (m2 oMod (mFn bL (aa (ae i) ai)) 2#3) 1#3)) (cOf (m2 oLt (mFn bL (aa (ae j) ai)) 2#3)) G S=some (decide (k%2=1)||decide (m<2),S):=by
 have a:cOf (m2 oEq (m2 oMod (mFn bL (aa (ae i) ai)) 2#3) 1#3) G S=some (decide (k%2=1),S):=of_eq (Lo (y:=1) (qZ (y:=2) (len_tab (var_eq h0)) c_i 0#1) c_i);have b:cOf (m2 oLt (mFn bL (aa (ae j) ai)) 2#3) G S=some (decide (m<2),S):=by
  rw[of_eq (OU (len_tab (var_eq h2)) c_i)]
  congr 2
  exact decide_eq_decide.mpr 0#2
 exact or_eq a b λ_=>rfl
theorem PC(ga:Grp k A)(gb:Grp m B)(hk:k<1000)(hm:m<1000)(hu:Thg S u)(hv:Thg S v):
  (24<k*m->dr 10#1 S=none /\ ∃S',d5 10#1 S=some (0,S')/\Ex S S') /\
  (k*m<=24->(okW k m A B u v=true -> ∃S',dr 10#1 S=some (.tup (ak (wvr k m A B u v)),S')/\Ex S S') /\
   (okW k m A B u v=false->dr [tab k A,u,tab m B,v] S=none /\ ∃S',d5 [tab k A,u,tab m B,v] S=some (2,S')/\Ex S S')):=by
 refine⟨λh=>?_,λh=>?_⟩
 .obtain⟨n1,n2⟩:=P6 (S:=S) (A:=A) (B:=B) hk h
  have c1:=n2 _ rfl;have xp:gU [tab k A,tab m B] S=some (0,S):=pz rfl ((tm rfl (bD 5#4)).trans (qW ((Gc c1).trans (qW rfl))));refine⟨sD (xP (Nh (cz 0#0 0#0 n1))),S,pz rfl (qW (KN 0#0 0#0 xp)),Ex.refl _⟩
 .obtain⟨S1,e1,x1⟩:=PK (S:=S) (A:=A) (B:=B) hk gb.pos hm h ga.cl
  have cn:=of_eq (IX (b:=mC (.int 24)) (y:=24) (md (G:= [3#2,3#0,10#3]) (S:=S) (a:=mFn bL 6#1) (b:=ae 2) (x:=k) (y:=m) 5#4 0#0 0#2) c_i);rw[decide_eq_false (show ¬24<k*m by omega)]at cn;have xn:gU [tab k A,tab m B] S=none:=by
   show oS 2 3 jm _ _=none;unfold oS;rw[if_pos (show [tab k A,tab m B].length=2 from rfl)];exact(tm rfl (bD 5#4)).trans ((tm ((JI cn).trans rfl) ((jT cn).trans rfl)).trans rfl)
  obtain⟨S2,x2,y1,y2⟩:=LF (S:=S1) ga gb hk hm (hu.ex x1) (hv.ex x1);have a1:bz 4 (mFn fF 13#2) 14#9 S=some (.nx,19#0,S1):=bD (cz 0#0 0#0 e1);have cc:cOr (cOf (m2 oEq (m2 oMod 4#1 2#3) 1#3)) (cOf (m2 oLt (mFn bL 3#8) 2#3)) 19#0 S2=_:=BC hk rfl rfl;have nx:∀hw:wy k A u=true/\wy m B v=true,dk (mFn dG (aa 0#3 (aa 0#6 11#2))) 19#0 S1=some (.nx,19#0,S2):=λhw=>Ia (nk 0#0 0#0 0#0 0#0 (y1 hw).1);refine⟨λhw=>?_,λhw=>?_⟩
  .unfold okW at hw
   rw[ao,ao,ls]at hw;obtain⟨hw,hc⟩:=hw;rw[hc]at cc;rw[Hb,decide_eq_false_iff_not,decide_eq_false_iff_not]at hc;obtain⟨l,rfl,hl,_,ll⟩:=zE hu hw.1;obtain⟨p,rfl,hp,_,lp⟩:=zE hv hw.2;cases p with
   |nil=>simp at lp;omega
   |cons y p=>
   have Tu:m<=24:=aE (fN _ ga.pos) h;have TU:k<=24:=aE (DK _ gb.pos) h;obtain⟨S3,e3,x3⟩:=P9 (S:=S2) (m:=m) (B:=B) (l:=l) 0#2 λx hx=>aq (hl x hx) 0#2;have XN:∀{y},y<m->y<k*m:=λh=>aq h (fN _ ga.pos);have ZG:Lt m p:=λx hx=>hp x (ay _ hx);have hs:Lt (k*m) 8#7:=λx hx=>by
    obtain⟨y,hy,rfl⟩:=bp.mp hx;exact ko (hl y hy) gb.pos
   have g:=oW ga gb;have hlen:=xq (A:=A) (B:=B) (x:=y) (p:=p) ll (by simpa using lp);unfold wvr at hlen ⊢;simp only[iG]at hlen ⊢;rw[aD,aD,aD,aF,iB]at hlen;simp only[List.drop_one,List.tail_cons,aO,cp,List.headD_cons]at hlen ⊢;have So:=mQ (iB (m:=m) (T:=B) (w:=p)) 8#7 0;obtain⟨S4,e4,x4⟩:=KE (S:=S3) (a:=y::p) (l:=l.map (· * m)) (p:=p) g (λx hx=>XN (ZG x hx)) (by rw[<-So];simp only[aO];omega) (by simp only[aO]at lp;omega);rw[II ga gb ZG]at e4;obtain⟨S5,e5,x5⟩:=Kr (S:=S4) g hs (by rw[aF];omega);rw[DT ga gb hl]at e5;have e6:=tE (S:=S4) g (XN (hp y aL));rw[BX ga gb (hp y aL)]at e6;have sl:mSl 1#6 (some 1#3) none [3#2,3#5,3#0,some (.tup 4#5),some (tab (k*m) (fU m A B)),some (.tup (ak 8#7)),none] S3=some (.tup (ak p),S3):=by
    show some (U.tup (cut 4#5 (some 1) none),S3)=_;rw[wG];rfl
   have a7:m2 bM (m2 bM (ae 6) (dS (aa (mFn ph (aa (ae 4) (aa (m2 oIx 1#6 2#4) ai))) ai))) (mFn wq (aa (ae 4) 12#6)) [3#2,3#5,3#0,some (.tup 4#5),some (tab (k*m) (fU m A B)),some (.tup (ak 8#7)),some (.tup (ak (y::p++thL (bk m B p) p 0 8#7)))] S4=some (.tup (ak (y::p++thL (bk m B p) p 0 8#7++[unT m B y]++(bk k A l).map (· * m))),S5):=by
    refine xg (xg (y:= [unT m B y]) 0#0 (tY (cz 0#0 (Em (u:= .int (y:Nat)) 0#0 c_i (show atI 4#5 ((0:Nat):Int)=_ from iI rfl)) e6)) ?_) (cz 0#0 0#0 e5) ?_
    .rw[aD];simp only[aO,cp];unfold big;omega
    .rw[aD,aD,aF,iB];simp only[aO,cp];unfold big;omega
   refine⟨S5,bT (G:= [3#2,3#5,3#0,some (.tup 4#5),some (tab (k*m) (fU m A B)),some (.tup (ak 8#7)),some (.tup (ak (y::p++thL (bk m B p) p 0 8#7)))]) rfl ((aS a1).trans ((aS (nx hw)).trans ((aS ((jT cc).trans rfl)).trans ((aS (bD (cz 0#0 0#0 e3))).trans ((aS (bD (nk 0#0 0#0 0#0 sl e4))).trans (bE a7)))))),x1.trans (x2.trans (x3.trans (x4.trans x5)))⟩
  .by_cases hb:wy k A u=true/\wy m B v=true
   .have hc:(decide (k%2=1)||decide (m<2))=true:=by
     cases hd:(decide (k%2=1)||decide (m<2)) with
     |true=>rfl
     | false=>
       unfold okW at hw;rw[hb.1,hb.2,hd]at hw;cases hw
    rw[hc]at cc;have xr:=(y1 hb).2;exact⟨sD ((aS a1).trans ((aS (nx hb)).trans (xP ((lD cc).trans rfl)))),S2,pz rfl ((tm (KN 0#0 0#0 xn) a1).trans ((tm (Mu 0#0 0#0 0#0 0#0 xr) (nx hb)).trans (qW ((Gc cc).trans (qW rfl))))),x1.trans x2⟩
   .obtain⟨z1,z2⟩:=y2 hb
    exact⟨sD ((aS a1).trans (xP (IQ (nk 0#0 0#0 0#0 0#0 z1)))),S2,pz rfl ((tm (KN 0#0 0#0 xn) a1).trans (qW (Mu 0#0 0#0 0#0 0#0 z2))),x1.trans x2⟩
def nB(k m:Nat)(A B:Nat->Nat->Nat)(u v:U):List Nat ⊕ Nat:=if 24<k*m then .inr 0 else if okW k m A B u v then .inl (wvr k m A B u v) else .inr 2
theorem EL(hu:Thg S u)(hv:Thg S v)(h:okW k m A B u v=true):∃l y p,u=.tup 1#7/\v=.tup 4#5/\Lt k l/\Lt m (y::p)/\2#6+1=k/\9#2+2=m:=by
 unfold okW at h;rw[ao,ao,ls,Hb,decide_eq_false_iff_not,decide_eq_false_iff_not]at h;obtain⟨hw,hc⟩:=h;obtain⟨l,rfl,hl,_,ll⟩:=zE hu hw.1;obtain⟨p,rfl,hp,_,lp⟩:=zE hv hw.2;cases p with
 |nil=>simp at lp;omega
 |cons y p=>exact⟨l,y,p,rfl,rfl,hl,hp,ll,by simpa using lp⟩
theorem Pn(ga:Grp k A)(gb:Grp m B)(hu:Thg S u)(hv:Thg S v):NB (nB k m A B u v):=by
 unfold nB
 split
 .exact(by decide:(0:Nat)<1000)
 .split
  .rename_i Zc hw
   obtain⟨l,y,p,rfl,rfl,hl,hp,ll,lp⟩:=EL hu hv hw;have:=xq (A:=A) (B:=B) (x:=y) ll lp;exact⟨λx hx=>aq (KC ga gb hl hp x hx) 0#2,by omega⟩
  .exact(by decide:(2:Nat)<1000)
theorem Bo{q:Nat}:∃x S',bZ (cw (aa (mC (.int (q:Nat))) ai)) G S=some (.rt x,G,S')/\Ex S S'/\Ans S' (.inr q) x:=⟨_,_,bE (B0 c_i),Ex.push _ _,_,rfl,bN _ _⟩
theorem Qx{S1 S2:Sto}{a b:ME}{c:MT}{x y z:Bool}(ha:a G S=some (.bl x,S1))(x1:Ex S S1)(hb:b G S1=some (.bl y,S2))(x2:Ex S1 S2)(hc:c G S2=some (z,S2)):∃S',cOr (eB (cOf a)) (cOr (eB (cOf b)) c) G S=some (!((x&&y) && !z),S')/\Ex S S':=by
 have h1:=not_eq (of_eq ha);have h2:=not_eq (of_eq hb);cases x with
 |false=>exact⟨S1,CK h1,x1⟩
 | true=>
   cases y with
   |false=>exact⟨S2,zd h1 (CK h2),x1.trans x2⟩
   | true=>
     refine⟨S2,?_,x1.trans x2⟩;rw[zd h1 (zd h2 hc)];simp
theorem KD(ga:Grp k A)(gb:Grp m B)(hk:k<60)(hm:m<60)(hu:Thg S u)(hv:Thg S v):∃x S',pX 10#1 S=some (x,S')/\Ex S S'/\Ans S' (nB k m A B u v) x:=by
 have c1:=of_eq (IX (b:=mC (.int 24)) (y:=24) (md (G:= 14#9) (S:=S) (a:=mFn bL 6#1) (b:=mFn bL 3#8) (x:=k) (y:=m) 5#4 5#4 0#2) c_i);by_cases Zc:24<k*m
 .rw[decide_eq_true Zc]at c1
  obtain⟨x,S1,e1,x1,a1⟩:=Bo (S:=S) (G:= 14#9) (q:=0);exact⟨x,S1,bT (G:= 14#9) rfl (sW ((lD c1).trans e1)),x1,by unfold nB;rw[if_pos Zc];exact a1⟩
 .rw[decide_eq_false Zc]at c1
  obtain⟨S1,e1,x1⟩:=FI (S:=S) ga hk hu;obtain⟨S2,e2,x2⟩:=FI (S:=S1) gb hm (hv.ex x1);obtain⟨S3,e3,x3⟩:=Qx (G:= 14#9) (a:=mFn ff 8#9) (b:=mFn ff 11#2) (cz 0#0 0#0 e1) x1 (cz 0#0 0#0 e2) x2 (BC (i:=0) (j:=2) 0#2 rfl rfl);cases hw:okW k m A B u v with
  | false=>
    rw[show((wy k A u&&wy m B v) && !(decide (k%2=1)||decide (m<2)))=false from hw]at e3;obtain⟨x,S4,e4,x4,a4⟩:=Bo (S:=S3) (G:= 14#9) (q:=2);exact⟨x,S4,bT (G:= 14#9) rfl ((aS ((jT c1).trans rfl)).trans (sW ((lD e3).trans e4))),x3.trans x4,by unfold nB;rw[if_neg Zc,hw];exact a4⟩
  | true=>
    rw[show((wy k A u&&wy m B v) && !(decide (k%2=1)||decide (m<2)))=true from hw]at e3;obtain⟨l,y,p,rfl,rfl,hl,hp,ll,lp⟩:=EL hu hv hw;have ZG:Lt m p:=λx hx=>hp x (ay _ hx);have VH:k*m<=24:=by omega
    have Tu:m<=24:=aE (fN _ ga.pos) VH;have TU:k<=24:=aE (DK _ gb.pos) VH;obtain⟨S4,e4,x4⟩:=Kq (S:=S3) gb 0#2 ZG 0#2;obtain⟨S5,e5,x5,g5⟩:=O7 (S:=S4) (l:=l) (p:=p) (b:=bk m B p) (m:=m) iB 0#2 (λx hx=>bc (hl x hx) 0#2) 0#2 0#2;obtain⟨S6,e6,x6⟩:=Kq (S:=S5) ga 0#2 hl 0#2;have e7:=sh (G:= 15#4) (S:=S6) (a:=mC (.tup (ak (bk k A l)))) (e:=m2 d7 (ae 7) (mFn bL 3#8)) (f:=λx=>.int (x*m:Nat)) rfl (by rw[iB];omega) λx hx=>md 0#0 5#4 (bc (ES ga hl x hx) 0#2);rw[show((bk k A l).map λx=>U.int (x*m:Nat))=ak ((bk k A l).map (· * m)) by simp[ak]]at e7;have a7:cY (eZ (mFn fE 8#9)) cTT (m2 d7 (ae 7) (mFn bL 3#8)) 15#4 S5=some (.ref S6.length,S6++[.lst 11#4]):=by
     have i1:eZ (mFn fE 8#9) 15#4 S5=some (.imm (ak (bk k A l)),S6):=by
      simp only[eZ,cz (G:= 15#4) (S:=S5) (f:=fE) (a:=ae 0) (b:=ae 1) 0#0 0#0 e6,aA]
     have i2:eZ (mC (.tup (ak (bk k A l)))) 15#4 S6=some (.imm (ak (bk k A l)),S6):=rfl;unfold cY at e7 ⊢;rw[i2]at e7;rw[i1];exact e7
    obtain⟨S8,e8,x8⟩:=Gf (S:=S6++[.lst 11#4]++[.lst 4#5]++[.lst 14#8]) gb 0#2 (hp y aL);have hlen:=xq (A:=A) (B:=B) (x:=y) ll lp;have So:=mQ (iB (m:=m) (T:=B) (w:=p)) 8#7 0;unfold wvr at hlen;simp only[iG,List.drop_one,List.tail_cons,List.headD_cons]at hlen;rw[aD,aD,aD,aF,iB]at hlen;simp only[aO,cp]at hlen;have ge:∀{T:Sto},Ex S6 T->T[S4.length]?=some (.lst (ak (thL (bk m B p) p 0 8#7))):=λz=>(x6.trans z).some g5;have b1:m2 bM (mFn kX 7#1) (ae 5) [3#2,3#5,3#0,some (.tup 4#5),14#7,some (.ref S4.length),some (.ref S6.length)] (S6++[Cell.lst 11#4])=some (.ref (S6++[Cell.lst 11#4]++[Cell.lst 4#5]).length,S6++[.lst 11#4]++[.lst 4#5]++[.lst 14#8]):=
     Ai (gG (f:=kX) (var_eq (u:= .tup 4#5) rfl) (show kX [.tup 4#5] _=some (.ref _,_) from rfl)) 0#0 (bN _ _) (ge ((Ex.push _ _).trans 3#6)) (by rw[bV,bV];simp only[aO];omega)
    have g6:∀{T:Sto},Ex (S6++[Cell.lst 11#4]) T->T[S6.length]?=some (.lst 11#4):=λz=>z.some (bN _ _);have x0:Ex S (S6++[Cell.lst 11#4]++[.lst 4#5]++[.lst 14#8]):=x3.trans (x4.trans (x5.trans (x6.trans ((Ex.push _ _).trans ((Ex.push _ _).trans 3#6)))));have g7:(S6++[Cell.lst 11#4]++[.lst 4#5]++[.lst 14#8])[(S6++[Cell.lst 11#4]++[Cell.lst 4#5]).length]?=some (.lst 14#8):=bN _ _;have g8:=g6 ((Ex.push _ (.lst 4#5)).trans (Ex.push _ (.lst 14#8)));generalize (S6++[Cell.lst 11#4]++[Cell.lst 4#5]).length=r7 at b1 g7;generalize S6++[.lst 11#4]++[.lst 4#5]++[.lst 14#8]=S7 at b1 g7 g8 e8 x8 x0;have b2:=Ai b1 (B0 (cz (f:=dY) (a:=ae 2) (b:=m2 oIx 1#6 2#4) 0#0 (Em (u:= .int (y:Nat)) 0#0 c_i (show atI 4#5 ((0:Nat):Int)=_ from iI rfl)) e8)) ((Ex.push _ _).some (x8.some g7)) (bN _ _) (by rw[aD,bV,bV];simp only[aO,cp];omega);have b3:=Ai b2 (b:=ae 6) 0#0 (bN _ _) ((Ex.push _ _).some ((Ex.push _ _).some (x8.some g8))) (by rw[aD,aD,bV,bV,bV,aF,iB];simp only[aO,cp];omega);rw[show ak (y::p)++ak (thL (bk m B p) p 0 8#7)++[U.int (unT m B y:Nat)]++ak ((bk k A l).map (· * m))=ak (wvr k m A B (.tup 1#7) (.tup 4#5)) by unfold wvr;rw[iG,iG];simp[ak]]at b3;have sl:mSl 1#6 (some 1#3) none [3#2,3#5,3#0,some (.tup 4#5),none,none,none] S3=some (.tup (ak p),S3):=by
     show some (U.tup (cut 4#5 (some 1) none),S3)=_;rw[wG];rfl
    have s5:bz 5 (mFn gS (aa 0#6 (aa (mFn bL 3#8) (aa (mFn fE (aa 0#7 5#9)) 5#9)))) [3#2,3#5,3#0,some (.tup 4#5),14#7,none,none] S3=some (.nx,15#4,S5):=bD (nk 0#0 5#4 (cz 0#0 0#0 e4) 0#0 e5);refine⟨.tup (ak (wvr k m A B (.tup 1#7) (.tup 4#5))),_,bT (G:= [3#2,3#5,3#0,some (.tup 4#5),14#7,some (.ref S4.length),some (.ref S6.length)]) rfl ((aS ((jT c1).trans rfl)).trans ((aS ((jT e3).trans rfl)).trans ((aS (bD sl)).trans ((aS s5).trans ((aS (bD a7)).trans (bE (eY b3))))))),x0.trans (x8.trans ((Ex.push _ _).trans ((Ex.push _ _).trans 3#6))),by unfold nB;rw[if_neg Zc,hw];rfl⟩
theorem wm(ga:Grp k A)(gb:Grp m B)(hk:k<60)(hm:m<60)(hu:Thg S u)(hv:Thg S v):∃S',bH 10#1 S=some (.bl true,S')/\Ex S S':=by
 have x0:=Ex.push S (.lst []);obtain⟨w1,w2⟩:=PC (S:=S++[.lst []]) ga gb 0#2 0#2 (hu.ex x0) (hv.ex x0);have hc:fG [0,2,3,1] [3#2,some u,3#0,some v,none]=some [tab k A,tab m B,v,u]:=rfl;have fin:∀{x S1},hZ (uR [0,2]) [0,2,3,1] (mFn dr 13#9) (xFn d5 13#9) [3#2,some u,3#0,some v,none] S=some (x,S1)->Ex S S1->Ans S1 (nB k m A B u v) x->∃S',bH 10#1 S=some (.bl true,S')/\Ex S S':=λ{x S1} e x1 a=>by
  obtain⟨y,S2,e2,x2,a2⟩:=KD (S:=S1) ga gb hk hm (hu.ex x1) (hv.ex x1);exact⟨S2,bT (G:= [3#2,some u,3#0,some v,some x]) rfl ((aS (bD e)).trans (bE (cz 0#0 (nk 0#0 0#0 0#0 0#0 e2) (Lj (a.ex x2) a2 (Pn ga gb hu hv))))),x1.trans x2⟩
 have no:∀{q S1},dr 10#1 4#2=none->d5 10#1 4#2=some (q,S1)->q∈[0,2]->Ex 4#2 S1->nB k m A B u v=.inr q->∃S',bH 10#1 S=some (.bl true,S')/\Ex S S':=λ{q S1} h hx hq x hd=>by
  obtain⟨r,S2,e2,x2,g2⟩:=IJ (rz:= [0,2]) (ml:=mFn dr 13#9) (rl:=xFn d5 13#9) hc (nk 0#0 0#0 0#0 0#0 h) (Mu 0#0 0#0 0#0 0#0 hx) hq x;exact fin e2 x2 (by rw[hd];exact⟨r,rfl,g2⟩)
 by_cases Zc:24<k*m
 .obtain⟨n1,S1,n2,x1⟩:=w1 Zc
  exact no n1 n2 0#1 x1 (if_pos Zc)
 .obtain⟨y1,y2⟩:=w2 0#2
  cases hw:okW k m A B u v with
  | true=>
    obtain⟨S1,e1,x1⟩:=y1 hw;obtain⟨S2,e2,x2⟩:=Jc (rz:= [0,2]) (ml:=mFn dr 13#9) (rl:=xFn d5 13#9) hc (nk 0#0 0#0 0#0 0#0 e1) x1;exact fin e2 x2 (by unfold nB;rw[if_neg Zc,hw];rfl)
  | false=>
    obtain⟨n1,S1,n2,x1⟩:=y2 hw;exact no n1 n2 0#1 x1 (by unfold nB;rw[if_neg Zc,hw];rfl)
theorem OK{i j i' j':Nat}(ga:Grp k A)(gb:Grp m B)(hk:k<60)(hm:m<60)(hu:Thg S u)(hv:Thg S v)(h1:G[i]?=some (some (tab k A)))(h2:G[i']?=some (some u))(h3:G[j]?=some (some (tab m B)))(h4:G[j']?=some (some v)):
  ∃S',sIf (cOr (eB (cOf (mFn bH (aa (ae i) (aa (ae i') (aa (ae j) (aa (ae j') ai))))))) (eB (cOf (mFn bH (aa (ae j) (aa (ae j') (aa (ae i) (aa (ae i') ai)))))))) 12#1 dg G S=some (.nx,G,S')/\Ex S S':=by
 obtain⟨S1,e1,x1⟩:=wm (S:=S) ga gb hk hm hu hv;obtain⟨S2,e2,x2⟩:=wm (S:=S1) gb ga hm hk (hv.ex x1) (hu.ex x1);obtain⟨S3,e3,x3⟩:=L9 (G:=G) (nk (var_eq h1) (var_eq h2) (var_eq h3) (var_eq h4) e1) x1 (nk (var_eq h3) (var_eq h4) (var_eq h1) (var_eq h2) e2) x2;exact⟨S3,(jT e3).trans rfl,x3⟩
theorem MU{n n':Nat}{w w':List Nat}{mw mw':ME}(hn:0<n)(h2:n<60)(Wp:0<n')(VI:n'<60)(hw:w.length<60)(hw':w'.length<60)(hmw:∀S,mw G S=some (.tup (ak w),S))(V0:∀S,mw' G S=some (.tup (ak w'),S)):∃S',mFn bH (aa (mFn bG (aa (mC (.int (n:Nat))) ai)) (aa mw (aa (mFn bG (aa (mC (.int (n':Nat))) ai)) (aa mw' ai)))) G S=some (.bl true,S')/\Ex S S':=by
 obtain⟨S1,e1,x1⟩:=j6 (S:=S) hn 14#3;obtain⟨S2,e2,x2⟩:=j6 (S:=S1) Wp 14#3;obtain⟨S3,e3,x3⟩:=wm (S:=S2) (jc hn) (jc Wp) h2 VI (Thg.nat hw) (Thg.nat hw');exact⟨S3,nk (gG c_i e1) (hmw _) (gG c_i e2) (V0 _) e3,x1.trans (x2.trans x3)⟩
theorem FH(ns:List Int)(hl:5#7<=63)(S:Sto)(h1:0#5=1)(h2:getL S 0=some (ns.map U.int)):∃S',NP [.ref 0] S=some (.bl true,S'):=by
 obtain⟨Sa,ea,xa⟩:=MU (S:=S) (G:= 17#8) (n:=1) (n':=2) (w:= []) (w':= [1]) (mw:=dS ai) (mw':=dS 11#0) 0#1 0#1 0#1 0#1 0#1 0#1 (λ_=>rfl) λ_=>rfl;obtain⟨Sb,eb,xb⟩:=MU (S:=Sa) (G:= 17#8) (n:=2) (n':=1) (w:= [1]) (w':= []) (mw:=dS 11#0) (mw':=dS ai) 0#1 0#1 0#1 0#1 0#1 0#1 (λ_=>rfl) λ_=>rfl;obtain⟨Sc,e0,xc⟩:=L9 ea xa eb xb;obtain⟨S0,ed,xd⟩:=MU (S:=Sc) (G:= 17#8) (n:=2) (n':=2) (w:= [1]) (w':= [1]) (mw:=dS 11#0) (mw':=dS 11#0) 0#1 0#1 0#1 0#1 0#1 0#1 (λ_=>rfl) λ_=>rfl;have ed':=not_eq (of_eq ed);have x0:=xc.trans xd;have WM:Scr ns S0:=Scr.ex h2 λc h=>x0.some h;obtain⟨q,hq,eq⟩:=Fe (G:= 17#8) (c:=5) WM rfl hl;obtain⟨Y3,S1,e1,_,_⟩:=mJ (i:=1) (a:=mFn yZ (aa 1#3 (aa (mFn yU (aa 4#1 (aa (mC (.int 5)) ai))) ai))) (n:=q)
  (b:=aY (bz 2 (mFn iP 8#9)) (aY (Ax (mFn d6 3#8) (gTp 2 (dD (gN 3) (dD (gN 4) jH)))) (aY (A3 5 6 22#9) (aY (sIf (cOr (eB (cOf (mFn bH (aa 1#6 (aa (ae 5) (aa (ae 4) (aa (ae 6) ai))))))) (eB (cOf (mFn bH (aa (ae 4) (aa (ae 6) (aa 1#6 12#6))))))) 12#1 dg) (fA 7 (eZ (cw (aa (mFn fh (aa 0#7 (aa (ae 5) (aa (mFn bL 7#1) ai)))) (aa (mFn kh 3#8) (aa (dS ai) ai))))) (sIf 20#4 12#1 dg))))))
  (G:= 17#8) (S:=S0) eq 14#3
  (λk G S'=>(∃a b c d e f g,G=[7#0,a,b,c,d,e,f,g])/\Scr ns S') ⟨⟨_,_,_,_,_,_,_,rfl⟩,WM⟩
  (by
   rintro i G S' hi ⟨⟨u1,u2,u3,u4,u5,u6,u7,rfl⟩,hs⟩;have h0:=hs.lt;obtain⟨S2,f2,x2,Yn⟩:=GD (k:=i) hs;obtain⟨k,A,m,B,S3,f3,ga,gb,hk,hm,Z8⟩:=NK Yn;have a3:Ax (mFn d6 3#8) (gTp 2 (dD (gN 3) (dD (gN 4) jH))) [7#0,5#1,some 9#4,u3,u4,u5,u6,u7] S2=some (.nx,[7#0,5#1,some 9#4,3#2,3#0,u5,u6,u7],S3):=by
    have:=gG (G:= [7#0,5#1,some 9#4,u3,u4,u5,u6,u7]) (S:=S2) (f:=d6) (a:=ae 2) 0#0 f3;simp only[Ax,this,aA];rfl
   obtain⟨w,S4,f4,Yr,hw⟩:=Er Z8.st ga 0#2;obtain⟨z,S5,f5,YN,hz⟩:=Er Yr.st gb 0#2;have a5:A3 5 6 22#9 [7#0,5#1,some 9#4,3#2,3#0,u5,u6,u7] S3=some (.nx,22#0,S5):=by
    have:=mc (cz (G:= [7#0,5#1,some 9#4,3#2,3#0,u5,u6,u7]) (S:=S3) (f:=du) (a:=ae 2) (b:=ae 3) 0#0 0#0 f4) (mc (cz (f:=du) (a:=ae 2) (b:=ae 4) 0#0 0#0 f5) 16#8);simp only[A3,this,aA];rfl
   obtain⟨S6,f6,x6⟩:=OK (S:=S5) (i:=3) (i':=5) (j:=4) (j':=6) (G:= 22#0) ga gb 0#2 0#2 (Thg.nat (l:=w) 0#2) (Thg.nat (l:=z) 0#2) rfl rfl rfl rfl;have Wl:Stp S'.length S5 S6:=Stp.ex YN.st x6;obtain⟨b7,S7,f7,RL,hb7⟩:=HL (m:=k) (l:=w) Wl.st 0#2 ga.pos;obtain⟨o,S8,f8,Uo,ho⟩:=MR RL.st;have e9:=ml (mc (P1 (G:= 22#0) (S:=S6) (f:=fh) (a:=ae 2) (b:=ae 5) 0#0 0#0 (len_tab (a:=ae 3) 0#0) f7) (mc (gG (f:=kh) (a:=ae 2) 0#0 f8) (mc (show dS ai _ _=_ from rfl) 16#8))) 0#4;have Yp:∀v∈[b7,o,.tup []],Thg S8 v:=by
    intro v hv;simp only[aJ,cQ,_root_.or_false]at hv;rcases hv with rfl|rfl|rfl
    .exact(hb7.stp Uo).1
    .exact ho.1
    .exact .tup 0#4 0#4
   have hZl: [b7,o,U.tup []].length=3:=rfl;generalize [b7,o,U.tup []]=Z at e9 Yp hZl;obtain⟨Z5,S9,f9,⟨b9,rfl⟩,x9⟩:=KL (i:=7) (us:=Z) (b:=sIf 20#4 12#1 dg) e9 0#2
    (λ_ G S9=>(∃b,G = [7#0,5#1,some 9#4,3#2,3#0,5#0,some (.tup (ak z)),b])/\Ex (S8++[.lst Z]) S9) ⟨⟨_,rfl⟩,Ex.refl _⟩ (λ_ G S9 hp=>by unfold getL;rw[hp.2.some (bN _ _)]) (by
     rintro j u G S9 hu ⟨⟨b,rfl⟩,x9⟩;obtain⟨S10,M',U4⟩:=OK (S:=S9) (i:=3) (i':=7) (j:=4) (j':=6) (G:= [7#0,5#1,some 9#4,3#2,3#0,5#0,some (.tup (ak z)),some u]) ga gb 0#2 0#2 ((Yp u (dc hu)).ex ((Ex.push _ _).trans x9)) (Thg.nat (l:=z) 0#2) rfl rfl rfl rfl
     exact⟨_,S10,M',⟨_,rfl⟩,x9.trans U4⟩)
   refine⟨_,S9,(aS (bD (cz (f:=iP) (a:=ae 0) (b:=ae 1) 0#0 0#0 f2))).trans ((aS a3).trans ((aS a5).trans ((aS f6).trans f9))),⟨_,_,_,_,_,_,_,rfl⟩,?_⟩;have st:Stp S'.length S2 (S8++[.lst Z]):=Z8.trans (Yr.trans (YN.trans (Wl.trans (RL.trans (Uo.trans (Stp.ex Uo.st 3#6))))))
   exact Scr.ex hs λc hc=>x9.some (st.some (by omega) (x2.some hc)))
 exact⟨S1,bT (G:=Y3) rfl ((aS ((jT e0).trans rfl)).trans ((aS ((jT ed').trans rfl)).trans ((aS e1).trans (bE rfl))))⟩
end
end
def top(i:Nat):Stmt:=PySem.Challenge.pw_groupwalks_k65_rounds_woven.main.body.getD i (.Pass ⟨0,0,0,0⟩)
abbrev fo:Stmt:=top 38
abbrev dj:Stmt:=top 48
abbrev oi:Stmt:=top 39
abbrev jh:Stmt:=top 49
abbrev kr:Stmt:=top 40
abbrev oq:Stmt:=top 43
abbrev lO:Stmt:=top 41
abbrev kD:Stmt:=top 44
abbrev qC:Stmt:=top 50
abbrev kH:Stmt:=top 15
abbrev eM:Stmt:=top 16
abbrev gR:Stmt:=top 11
abbrev gc:Stmt:=top 12
abbrev kA:Stmt:=top 13
abbrev iu:Stmt:=top 19
abbrev sr:Stmt:=top 18
abbrev jq:Stmt:=top 20
abbrev eN:Stmt:=top 24
abbrev jg:Stmt:=top 25
abbrev ux:Stmt:=top 14
abbrev Ac:Stmt:=top 21
abbrev nS:Stmt:=top 22
abbrev gm:Stmt:=top 26
abbrev jM:Stmt:=top 51
abbrev jW:Stmt:=top 28
abbrev mm:Stmt:=top 29
abbrev nU:Stmt:=top 30
abbrev lR:Stmt:=top 31
abbrev lL:Stmt:=top 32
abbrev jX:Stmt:=top 34
abbrev nL:Stmt:=top 33
abbrev l6:Stmt:=top 36
abbrev lC:Stmt:=top 35
abbrev mn:Stmt:=top 37
abbrev ix:Stmt:=top 45
abbrev jR:Stmt:=top 42
abbrev iW:Stmt:=top 47
abbrev qB:Stmt:=top 46
abbrev GF:Stmt:=top 52
abbrev N0:List Str := ["call","error","e","kinds"]
abbrev N1:List Str := ["call","refused","found"]
abbrev N2:List Str := ["found","due"]
abbrev N3:List Str := ["steps","wide","first","later","found","number","step"]
abbrev N4:List Str := ["group","thing"]
abbrev N5:List Str := ["group","walk"]
abbrev N6:List Str := ["group","things","found","one"]
abbrev N7:List Str := ["group","thing","one"]
abbrev N8:List Str := ["one","way","other","other_way","less","turns","homeward"]
abbrev N9:List Str := ["many","times","rows","i"]
abbrev N10:List Str := ["one","other","m"]
abbrev N11:List Str := ["value","many"]
abbrev N12:List Str := ["value","many"]
abbrev N13:List Str := ["group"]
abbrev N14:List Str := ["group","come_to"]
abbrev N15:List Str := ["group","walk","come_to","thing"]
abbrev N16:List Str := ["group","thing"]
abbrev N17:List Str := ["one","way","other","other_way"]
abbrev N18:List Str := ["way","other"]
abbrev N19:List Str := ["group","thing"]
abbrev N20:List Str := ["group","walk"]
abbrev N21:List Str := ["group","begin","steps","piece","turns","walk","k","step"]
abbrev N22:List Str := ["one","way","other","other_way","both","steps","walk"]
abbrev N23:List Str := ["one","way","other","other_way","found"]
abbrev N24:List Str := ["script","k"]
abbrev N25:List Str := ["script","k","cell"]
abbrev N26:List Str := ["state","many","found","mixed"]
abbrev N27:List Str := ["n"]
abbrev N28:List Str := ["n","found","i","row","j","turn"]
abbrev N29:List Str := ["signs","kinds","found","one","row","other","sign"]
abbrev N30:List Str := ["one","other","size","found","i","row","j","ahead"]
abbrev N31:List Str := ["group","order"]
abbrev N32:List Str := ["state","many","left"]
abbrev N33:List Str := ["state","most","way","found","first","one"]
abbrev N34:List Str := ["state","one"]
abbrev N35:List Str := ["state","group","order"]
abbrev N36:List Str := ["state","walk","many","at","odd","some"]
abbrev N37:List Str := ["state","some"]
abbrev N38:List Str := ["script","k","state","one","other","way","other_way","bad"]
def T0(cl:Nat->Addr):Tb:=⟨[],[("MOST_THINGS",.int 24)],[],[],false,⟨[],[],cl,"<lambda>"⟩⟩
def T1(cl:Nat->Addr):Tb:=(T0 cl).qq "_law_refused" (km [0,2])
def T2(cl:Nat->Addr):Tb:=(T1 cl).qq "_law_woven" (uR [0,2])
def T3(cl:Nat->Addr):Tb:=(T2 cl).dd "_law_same" nQ
def T4(cl:Nat->Addr):Tb:=(T3 cl).dd "_law_by_turns" gS
def T5(cl:Nat->Addr):Tb:=(T4 cl).dd "_law_undone" dY
def T6(cl:Nat->Addr):Tb:=(T5 cl).dd "_law_back" fE
def T7(cl:Nat->Addr):Tb:=(T6 cl).dd "_law_along" my
def T8(cl:Nat->Addr):Tb:=(T7 cl).dd "_law_is_way" ff
def T9(cl:Nat->Addr):Tb:=(T8 cl).dd "_law_due" pX
def T10(cl:Nat->Addr):Tb:=(T9 cl).hh "table_of" sQ
def T11(cl:Nat->Addr):Tb:=(T10 cl).xx "put_together" fF gU
def T12(cl:Nat->Addr):Tb:=(T11 cl).dd "is_number_below" jC
def T13(cl:Nat->Addr):Tb:=(T12 cl).dd "are_numbers_below" i4
def T14(cl:Nat->Addr):Tb:=(T13 cl).dd "all_things" oR
def T15(cl:Nat->Addr):Tb:=(T14 cl).dd "are_all_things" kf
def T16(cl:Nat->Addr):Tb:=(T15 cl).dd "places" yB
def T17(cl:Nat->Addr):Tb:=(T16 cl).dd "goes_through" dy
def T18(cl:Nat->Addr):Tb:=(T17 cl).xx "refuse_no_ways" dG fT
def T19(cl:Nat->Addr):Tb:=(T18 cl).dd "steps_of_one" ji
def T20(cl:Nat->Addr):Tb:=(T19 cl).dd "undone" ph
def T21(cl:Nat->Addr):Tb:=(T20 cl).dd "back" wq
def T22(cl:Nat->Addr):Tb:=(T21 cl).dd "threaded" sX
def T23(cl:Nat->Addr):Tb:=(T22 cl).xx "woven_round" dr d5
def T24(cl:Nat->Addr):Tb:=(T23 cl).dd "_law_right" bH
def T25(cl:Nat->Addr):Tb:=(T24 cl).dd "_law_cell_at" jQ
def T26(cl:Nat->Addr):Tb:=(T25 cl).dd "_law_state" iP
def T27(cl:Nat->Addr):Tb:=(T26 cl).dd "_law_take" be
def T28(cl:Nat->Addr):Tb:=(T27 cl).dd "_law_clock" bG
def T29(cl:Nat->Addr):Tb:=(T28 cl).dd "_law_flips" fB
def T30(cl:Nat->Addr):Tb:=(T29 cl).dd "_law_quarter" iJ
def T31(cl:Nat->Addr):Tb:=(T30 cl).dd "_law_both" ku
def T32(cl:Nat->Addr):Tb:=(T31 cl).dd "_law_named" jE
def T33(cl:Nat->Addr):Tb:=(T32 cl).dd "_law_order" iO
def T34(cl:Nat->Addr):Tb:=(T33 cl).dd "_law_group" jL
def T35(cl:Nat->Addr):Tb:=(T34 cl).dd "_law_two_groups" d6
def T36(cl:Nat->Addr):Tb:=(T35 cl).dd "_law_any_way" du
def T37(cl:Nat->Addr):Tb:=(T36 cl).dd "_law_bent_walk" fh
def T38(cl:Nat->Addr):Tb:=(T37 cl).dd "_law_odd" kh
def nD:Stmt:=(bu fo).getD 6 (.Pass ⟨0,0,0,0⟩)
theorem nE:bu fo=kC 142 nD:=by kernel_rfl
theorem OP:∀(cl:Nat->Addr),cS (T0 cl) 80 o8 (ax fo).names nD=some mzR:=by intro cl;kernel_rfl
theorem mq:tK (ax fo).names=true:=by decide +kernel
theorem lF:aQ N0 (N0.take 1) (ax fo):=dv 1#0
theorem yw:bu dj=wO (bd_ dj 0) (bd_ dj 2) "_law_refused" (B1 (bd_ dj 1)) 187:=by kernel_rfl
theorem wR:∀(cl:Nat->Addr),cS (T1 cl) 80 rD (ax dj).names (bd_ dj 0)=some AY:=by intro cl;kernel_rfl
theorem wa:∀(cl:Nat->Addr),cS (T1 cl) 80 rD (ax dj).names (bd_ dj 2)=some CD:=by intro cl;kernel_rfl
theorem wH:MN (ax dj).names "_law_refused" (B1 (bd_ dj 1))=true:=by decide +kernel
theorem xh:aQ N1 (N1.take 1) (ax dj):=dv 1#0
theorem AI:∀(cl:Nat->Addr),cD (T2 cl) N2 oi=some ub:=by intro cl;kernel_rfl
theorem zz:aQ N2 (N2.take 2) (ax oi):=dv 1#0
theorem uh:∀(cl:Nat->Addr),cD (T3 cl) N3 jh=some mv:=by intro cl;kernel_rfl
theorem rB:aQ N3 (N3.take 4) (ax jh):=dv 1#0
theorem wg:∀(cl:Nat->Addr),cD (T4 cl) N4 kr=some pD:=by intro cl;kernel_rfl
theorem uY:aQ N4 (N4.take 2) (ax kr):=dv 1#0
theorem AJ:∀(cl:Nat->Addr),cD (T5 cl) N5 oq=some um:=by intro cl;kernel_rfl
theorem zq:aQ N5 (N5.take 2) (ax oq):=dv 1#0
theorem zK:∀(cl:Nat->Addr),cD (T6 cl) N6 lO=some qX:=by intro cl;kernel_rfl
theorem xM:aQ N6 (N6.take 2) (ax lO):=dv 1#0
theorem xi:∀(cl:Nat->Addr),cD (T7 cl) N7 kD=some kJ:=by intro cl;kernel_rfl
theorem uO:aQ N7 (N7.take 2) (ax kD):=dv 1#0
theorem CY:∀(cl:Nat->Addr),cD (T8 cl) N8 qC=some vk:=by intro cl;kernel_rfl
theorem A4:aQ N8 (N8.take 4) (ax qC):=dv 1#0
theorem Ak :∀ (cl:Nat->Addr),∀ g φ,cB ⟨(T9 cl).D,(T9 cl).C,[("times",g,φ)],(T9 cl).H,(T9 cl).mkr,(T9 cl).Z⟩ 80 (["many","times","rows","i"]:List Str) (ax kH).names (bu kH)=some (tq g φ):=by intro cl;intro g φ;kernel_rfl
theorem yP:aQ N9 (N9.take 2) (ax kH):=dv 1#0
theorem sM :∀ (cl:Nat->Addr),cD ⟨(T10 cl).D,(T10 cl).C,(T10 cl).L,(T10 cl).H,true,(T10 cl).Z.to "<lambda>"⟩ N10 eM=some lH:=by intro cl;kernel_rfl
theorem rH :∀ (cl:Nat->Addr),(xc 80 80).b ⟨("put_together",fF)::(T10 cl).D,(T10 cl).C,(T10 cl).L,(T10 cl).H,(T10 cl).mkr,(T10 cl).Z⟩ ⟨(T10 cl).Z.R,clR [0,2]⟩ N10 (ax eM).names (bu eM)=some jm:=by intro cl;kernel_rfl
theorem kU:aQ N10 (N10.take 2) (ax eM):=dv 1#0
theorem oZ:∀(cl:Nat->Addr),cD (T11 cl) N11 gR=some jF:=by intro cl;kernel_rfl
theorem nN:aQ N11 (N11.take 2) (ax gR):=dv 1#0
theorem m6:∀(cl:Nat->Addr),cD (T12 cl) N12 gc=some iZ:=by intro cl;kernel_rfl
theorem lW:aQ N12 (N12.take 2) (ax gc):=dv 1#0
theorem xl:∀(cl:Nat->Addr),cD (T13 cl) N13 kA=some o7:=by intro cl;kernel_rfl
theorem uN:aQ N13 (N13.take 1) (ax kA):=dv 1#0
theorem qy:∀(cl:Nat->Addr),cD (T14 cl) N14 iu=some kc:=by intro cl;kernel_rfl
theorem pf:aQ N14 (N14.take 2) (ax iu):=dv 1#0
theorem GH:∀(cl:Nat->Addr),cD (T15 cl) N15 sr=some yV:=by intro cl;kernel_rfl
theorem Ck:aQ N15 (N15.take 2) (ax sr):=dv 1#0
theorem se:∀(cl:Nat->Addr),cD (T16 cl) N16 jq=some l9:=by intro cl;kernel_rfl
theorem rC:aQ N16 (N16.take 2) (ax jq):=dv 1#0
theorem pW:∀(cl:Nat->Addr),cD (T17 cl) N17 eN=some kl:=by intro cl;kernel_rfl
theorem pw :∀ (cl:Nat->Addr),(xc 80 80).b ⟨("refuse_no_ways",dG)::(T17 cl).D,(T17 cl).C,(T17 cl).L,(T17 cl).H,(T17 cl).mkr,(T17 cl).Z⟩ ⟨(T17 cl).Z.R,clR [0,2]⟩ N17 (ax eN).names (bu eN)=some iz:=by intro cl;kernel_rfl
theorem jD:aQ N17 (N17.take 4) (ax eN):=dv 1#0
theorem tW:∀(cl:Nat->Addr),cD (T18 cl) N18 jg=some mj:=by intro cl;kernel_rfl
theorem rJ:aQ N18 (N18.take 2) (ax jg):=dv 1#0
theorem Ep:∀(cl:Nat->Addr),cD (T19 cl) N19 ux=some yq:=by intro cl;kernel_rfl
theorem CW:aQ N19 (N19.take 2) (ax ux):=dv 1#0
theorem LU:∀(cl:Nat->Addr),cD (T20 cl) N20 Ac=some Fg:=by intro cl;kernel_rfl
theorem Ig:aQ N20 (N20.take 2) (ax Ac):=dv 1#0
theorem Ae:∀(cl:Nat->Addr),cD (T21 cl) N21 nS=some ur:=by intro cl;kernel_rfl
theorem zl:aQ N21 (N21.take 4) (ax nS):=dv 1#0
theorem uU:∀(cl:Nat->Addr),cD (T22 cl) N22 gm=some nF:=by intro cl;kernel_rfl
theorem ug :∀ (cl:Nat->Addr),(xc 80 80).b ⟨("woven_round",dr)::(T22 cl).D,(T22 cl).C,(T22 cl).L,(T22 cl).H,(T22 cl).mkr,(T22 cl).Z⟩ ⟨(T22 cl).Z.R,clR [0,2]⟩ N22 (ax gm).names (bu gm)=some nA:=by intro cl;kernel_rfl
theorem mx:aQ N22 (N22.take 4) (ax gm):=dv 1#0
theorem yC :∀ (cl:Nat->Addr),cD ⟨(T23 cl).D,(T23 cl).C,(T23 cl).L,(T23 cl).H,true,(T23 cl).Z.to "<lambda>"⟩ N23 jM=some qP:=by intro cl;kernel_rfl
theorem xI:aQ N23 (N23.take 4) (ax jM):=dv 1#0
theorem uQ:∀(cl:Nat->Addr),cD (T24 cl) N24 jW=some iL:=by intro cl;kernel_rfl
theorem tU:aQ N24 (N24.take 2) (ax jW):=dv 1#0
theorem zD:∀(cl:Nat->Addr),cD (T25 cl) N25 mm=some q8:=by intro cl;kernel_rfl
theorem xj:aQ N25 (N25.take 2) (ax mm):=dv 1#0
theorem Ad:∀(cl:Nat->Addr),cD (T26 cl) N26 nU=some kK:=by intro cl;kernel_rfl
theorem yL:aQ N26 (N26.take 2) (ax nU):=dv 1#0
theorem zg:∀(cl:Nat->Addr),cD (T27 cl) N27 lR=some lE:=by intro cl;kernel_rfl
theorem xH:aQ N27 (N27.take 1) (ax lR):=dv 1#0
theorem yp:∀(cl:Nat->Addr),cD (T28 cl) N28 lL=some qN:=by intro cl;kernel_rfl
theorem wY:aQ N28 (N28.take 1) (ax lL):=dv 1#0
theorem uJ:∀(cl:Nat->Addr),cD (T29 cl) N29 jX=some nv:=by intro cl;kernel_rfl
theorem sU:aQ N29 (N29.take 0) (ax jX):=dv 1#0
theorem As:∀(cl:Nat->Addr),cD (T30 cl) N30 nL=some tZ:=by intro cl;kernel_rfl
theorem ym:aQ N30 (N30.take 2) (ax nL):=dv 1#0
theorem zk:∀(cl:Nat->Addr),cD (T31 cl) N31 l6=some qR:=by intro cl;kernel_rfl
theorem wW:aQ N31 (N31.take 2) (ax l6):=dv 1#0
theorem y9:∀(cl:Nat->Addr),cD (T32 cl) N32 lC=some qY:=by intro cl;kernel_rfl
theorem xK:aQ N32 (N32.take 2) (ax lC):=dv 1#0
theorem yE:∀(cl:Nat->Addr),cD (T33 cl) N33 mn=some lQ:=by intro cl;kernel_rfl
theorem xf:aQ N33 (N33.take 2) (ax mn):=dv 1#0
theorem pY:∀(cl:Nat->Addr),cD (T34 cl) N34 ix=some kg:=by intro cl;kernel_rfl
theorem oV:aQ N34 (N34.take 1) (ax ix):=dv 1#0
theorem uI:∀(cl:Nat->Addr),cD (T35 cl) N35 jR=some nq:=by intro cl;kernel_rfl
theorem t8:aQ N35 (N35.take 2) (ax jR):=dv 1#0
theorem rE:∀(cl:Nat->Addr),cD (T36 cl) N36 iW=some k7:=by intro cl;kernel_rfl
theorem qE:aQ N36 (N36.take 3) (ax iW):=dv 1#0
theorem CV:∀(cl:Nat->Addr),cD (T37 cl) N37 qB=some vD:=by intro cl;kernel_rfl
theorem A2:aQ N37 (N37.take 1) (ax qB):=dv 1#0
theorem Oc:∀(cl:Nat->Addr),cD (T38 cl) N38 GF=some J7:=by intro cl;kernel_rfl
theorem MZ:aQ N38 (N38.take 1) (ax GF):=dv 1#0
abbrev dL:List (Str×Stmt):=("_law_refused",fo)::("_law_same",oi)::("_law_by_turns",jh)::("_law_undone",kr)::("_law_back",oq)::("_law_along",lO)::("_law_is_way",kD)::("_law_due",qC)::("table_of",kH)::("is_number_below",gR)::("are_numbers_below",gc)::("all_things",kA)::("are_all_things",iu)::("places",sr)::("goes_through",jq)::("refuse_no_ways",eN)::("steps_of_one",jg)::("undone",ux)::("back",Ac)::("threaded",nS)::("woven_round",gm)::("_law_cell_at",jW)::("_law_state",mm)::("_law_take",nU)::("_law_clock",lR)::("_law_flips",lL)::("_law_quarter",jX)::("_law_both",nL)::("_law_named",l6)::("_law_order",lC)::("_law_group",mn)::("_law_two_groups",ix)::("_law_any_way",jR)::("_law_bent_walk",iW)::("_law_odd",qB)::("law",GF) :: []
variable{w:World}{mg:Str->Option Value}{h:Heap}
theorem chain{P:Program}{K:aj}{k1 p1:Addr}{W3 Xo:Addr}{VO XC:Addr}{cl:Nat->Addr}(X:K.In h)(Gn:h.Ns mainGlobals mg)(B :∀ x∈iQ,aZ K mainGlobals x=some none)(kc0 :∃ t,aZ K mainGlobals "MOST_THINGS"=some (some (.int 24 t))){wA:Addr}(Rk:vm K mg cl wA [0,2])(hC :∀ y i,(clR [0,2]).lookup y=some i->mg y=some (.ref (cl i))/\exB K (cl i)=true)(g1:mainGlobals≠p1)(Wa:mainGlobals≠Xo)(VC:mainGlobals≠XC)(nd:([p1,Xo,XC]:List Addr).Nodup)
  (DA:Ml K dL) (D1:jl K "_law_woven" dj k1 p1) (W7:jl K "put_together" eM W3 Xo) (Vc:jl K "_law_right" jM VO XC):Ch P w K mg 17#0 (T38 cl) 46:=by
 obtain⟨D0,D2,D3,D4,D5,D6,D7,D8,D9,R8,RN,Su,Rb,Rm,RI,TC,SO,SI,To,Sx,UR,RR,Rg,Ss,Sv,RP,Th,Rl,Rn,Sf,RV,RX,RB,RC,RD,SM,_⟩:=DA;have C0:Ch P w K mg 17#0 (T0 cl) 0:=⟨fun _ _ _ _ _=>TOk.con (TOk.nil X Gn B) X Gn kc0,(fun _ _ _ _ _ _ _ z=>by cases z),(fun _ _ _ _ _ _ _ z=>by cases z)⟩;have nd:((17#0:List (Addr×Str)).map (·.1)).Nodup:=by simpa using nd
 have C1:Ch P w K mg _ (T1 cl) 0:=C0.refd rfl X Gn D0 lF 14#1 mq nE (OP cl) Rk;have RF:=C0.refF rfl X Gn D0 lF 14#1 mq nE (OP cl) Rk;have C2:Ch P w K mg _ (T2 cl) 0:=C1.wov rfl RF 0#1 0#4 nd g1 X Gn D1 xh 14#1 yw (wR cl) (wa cl) wH;have C3:Ch P w K mg _ (T3 cl) 1:=C2.dfn C2.o rfl X Gn D2 zz 4#7 (AI cl);have C4:Ch P w K mg _ (T4 cl) 2:=C3.dfn C3.o rfl X Gn D3 rB 14#0 (uh cl);have C5:Ch P w K mg _ (T5 cl) 3:=C4.dfn C4.o rfl X Gn D4 uY 4#7 (wg cl);have C6:Ch P w K mg _ (T6 cl) 4:=C5.dfn C5.o rfl X Gn D5 zq 4#7 (AJ cl);have C7:Ch P w K mg _ (T7 cl) 5:=C6.dfn C6.o rfl X Gn D6 xM 4#7 (zK cl);have C8:Ch P w K mg _ (T8 cl) 6:=C7.dfn C7.o rfl X Gn D7 uO 4#7 (xi cl);have C9:Ch P w K mg _ (T9 cl) 7:=C8.dfn C8.o rfl X Gn D8 A4 14#0 (CY cl);have C10:Ch P w K mg _ (T10 cl) 7:=C9.cls rfl rfl X Gn D9 yP 4#7 (Ak cl);have A10:=C10.lam_ rfl rfl 0#4 nd Wa X Gn W7 kU 4#7 (sM cl);have Tt:Ch P w K mg _ (T11 cl) 13:=A10.raise (clR [0,2]) rfl hC X Gn (jl.def (M:=⟨P,w,⟨K,[],[],[],[]⟩,mg,h,none⟩) W7) kU 4#7 (rH cl);have Rj:Ch P w K mg _ (T12 cl) 14:=Tt.dfn Tt.o rfl X Gn R8 nN 4#7 (oZ cl);have Sq:Ch P w K mg _ (T13 cl) 15:=Rj.dfn Rj.o rfl X Gn RN lW 4#7 (m6 cl);have SE:Ch P w K mg _ (T14 cl) 16:=Sq.dfn Sq.o rfl X Gn Su uN 14#1 (xl cl);have Sg:Ch P w K mg _ (T15 cl) 17:=SE.dfn SE.o rfl X Gn Rb pf 4#7 (qy cl);have SN:Ch P w K mg _ (T16 cl) 18:=Sg.dfn Sg.o rfl X Gn Rm Ck 4#7 (GH cl);have Sk:Ch P w K mg _ (T17 cl) 19:=SN.dfn SN.o rfl X Gn RI rC 4#7 (se cl);have A17:=Sk.dfn Sk.o rfl X Gn TC jD 14#0 (pW cl);have Tq:Ch P w K mg _ (T18 cl) 21:=A17.raise (clR [0,2]) rfl hC X Gn TC jD 14#0 (pw cl);have Tg:Ch P w K mg _ (T19 cl) 22:=Tq.dfn Tq.o rfl X Gn SO rJ 4#7 (tW cl);have RJ:Ch P w K mg _ (T20 cl) 23:=Tg.dfn Tg.o rfl X Gn SI CW 4#7 (Ep cl);have Tc:Ch P w K mg _ (T21 cl) 24:=RJ.dfn RJ.o rfl X Gn To Ig 4#7 (LU cl);have Tj:Ch P w K mg _ (T22 cl) 25:=Tc.dfn Tc.o rfl X Gn Sx zl 14#0 (Ae cl);have A22:=Tj.dfn Tj.o rfl X Gn UR mx 14#0 (uU cl);have C23:Ch P w K mg _ (T23 cl) 27:=A22.raise (clR [0,2]) rfl hC X Gn UR mx 14#0 (ug cl);have SF:Ch P w K mg _ (T24 cl) 32:=C23.lam_ rfl rfl 0#4 nd VC X Gn Vc xI 14#0 (yC cl);have Ti:Ch P w K mg _ (T25 cl) 33:=SF.dfn SF.o rfl X Gn RR tU 4#7 (uQ cl);have Sr:Ch P w K mg _ (T26 cl) 34:=Ti.dfn Ti.o rfl X Gn Rg xj 4#7 (zD cl);have SX:Ch P w K mg _ (T27 cl) 35:=Sr.dfn Sr.o rfl X Gn Ss yL 4#7 (Ad cl);have Sw:Ch P w K mg _ (T28 cl) 36:=SX.dfn SX.o rfl X Gn Sv xH 14#1 (zg cl);have Te:Ch P w K mg _ (T29 cl) 37:=Sw.dfn Sw.o rfl X Gn RP wY 14#1 (yp cl);have RO:Ch P w K mg _ (T30 cl) 38:=Te.dfn Te.o rfl X Gn Th sU (λ_ _ _ _ _ _=>us0 rfl) (uJ cl);have Ry:Ch P w K mg _ (T31 cl) 39:=RO.dfn RO.o rfl X Gn Rl ym 4#7 (As cl);have RH:Ch P w K mg _ (T32 cl) 40:=Ry.dfn Ry.o rfl X Gn Rn wW 4#7 (zk cl);have Sy:Ch P w K mg _ (T33 cl) 41:=RH.dfn RH.o rfl X Gn Sf xK 4#7 (y9 cl);have Se:Ch P w K mg _ (T34 cl) 42:=Sy.dfn Sy.o rfl X Gn RV xf 4#7 (yE cl);have Sl:Ch P w K mg _ (T35 cl) 43:=Se.dfn Se.o rfl X Gn RX oV 14#1 (pY cl);have Ru:Ch P w K mg _ (T36 cl) 44:=Sl.dfn Sl.o rfl X Gn RB t8 4#7 (uI cl);have SU:Ch P w K mg _ (T37 cl) 45:=Ru.dfn Ru.o rfl X Gn RC qE (λ_ _ _ _ _ _=>us3 λ_ _ _=>rfl) (rE cl);have C38:Ch P w K mg _ (T38 cl) 46:=SU.dfn SU.o rfl X Gn RD A2 14#1 (CV cl);exact C38
variable{q:Program}
theorem all_mk{l:mX}{K:aj}{fa:Addr}{k1 p1:Addr}{W3 Xo:Addr}{VO XC:Addr}(X:K.In h)(Gn:h.Ns mainGlobals mg)(U2:mg "law"=some (.ref fa))(B :∀ x∈iQ,aZ K mainGlobals x=some none)(kc0 :∃ t,aZ K mainGlobals "MOST_THINGS"=some (some (.int 24 t))){c0 c1 c2 c3 c4 c5 c6 wA:Addr}(UP:aZ K mainGlobals "TooMany"=some (some (.ref c0)))(Us:aZ K mainGlobals "NotLevel"=some (some (.ref c1)))(V2:aZ K mainGlobals "NoLift"=some (some (.ref c2)))(U8:aZ K mainGlobals "NotPlain"=some (some (.ref c3)))(UT:aZ K mainGlobals "NoName"=some (some (.ref c4)))(Uc:aZ K mainGlobals "BadNote"=some (some (.ref c5)))(TR:aZ K mainGlobals "NoTwist"=some (some (.ref c6)))(TB:aZ K mainGlobals "WalkError"=some (some (.ref wA)))(rb:KF K [c0,c1,c2,c3,c4,c5,c6] wA [0,2]=true)(g1:mainGlobals≠p1)(Wa:mainGlobals≠Xo)(VC:mainGlobals≠XC)(nd:([p1,Xo,XC]:List Addr).Nodup)
  (DA:Ml K dL) (D1:jl K "_law_woven" dj k1 p1) (W7:jl K "put_together" eM W3 Xo) (Vc:jl K "_law_right" jM VO XC) {d1:DefRec} (n1:K.lookup p1=none) (r1:(fZ q).find? (fun e=>e.name==("_law_woven":Str))=some d1) {d10:DefRec} (UZ:K.lookup Xo=none) (Ud:(fZ q).find? (fun e=>e.name==("put_together":Str))=some d10) {d23:DefRec} (UU:K.lookup XC=none) (Ut:(fZ q).find? (fun e=>e.name==("_law_right":Str))=some d23) :
  ∃ (tabs:List (Addr×Str)) (fd:FuncData) (sp:Sp),(∀ r∈tabs,K.lookup r.1=none /\ ∃ x d c,(fZ q).find? (fun e=>e.name==x)=some d/\PySem.W.tabIn K x=some (c,r.1))/\21#3 /\
   (∀ base:Heap,K.In base->base.Ns mainGlobals mg->eX mg base->FnOk l.prog w K mg base CX0 47 fa fd ["script"] sp) /\ ∀ (H:Hp) (a:Addr) (ns:List Int),5#7<=63->(∀ r∈tabs,Ar H r.1 r.2)->SqL K H a 10#6->sp [.ref a] H (fun v _=>v=.bl true) fun _ _ _=>False:=by
 have DB:=DA;obtain⟨D0,D2,D3,D4,D5,D6,D7,D8,D9,R8,RN,Su,Rb,Rm,RI,TC,SO,SI,To,Sx,UR,RR,Rg,Ss,Sv,RP,Th,Rl,Rn,Sf,RV,RX,RB,RC,RD,SM,_⟩:=DA;have DA:=DB;obtain⟨Rk,hC⟩:=L7 (rz:= [0,2]) X Gn UP Us V2 U8 UT Uc TR TB rb;have CH:=chain (P:=l.prog) (w:=w) X Gn B  kc0 Rk hC g1 Wa VC nd DA D1 W7 Vc;obtain⟨fd,h1,h2⟩:=MJ (l:=l) (w:=w) (tabs := 17#0) X Gn U2 SM MZ (fun _ _ _ _ _ _=>us1 fun _=>rfl) rfl (fun base Zj=>CH.o [] [] [] base Zj) (Oc _);refine⟨17#0,fd,_,?_,h1,h2,fun H a ns hl hT hS=>NG hT hS fun S h1 h2=>FH ns hl S h1 h2⟩;intro r hr;simp only[aJ,cQ,_root_.or_false]at hr;rcases hr with rfl |rfl |rfl
 .exact⟨n1,_,_,_,r1,D1.tab⟩
 .exact⟨UZ,_,_,_,Ud,W7.tab⟩
 .exact⟨UU,_,_,_,Ut,Vc.tab⟩
theorem walk{l:mX}{loose:List Str}{XP:(Str->Option Value)->Heap->Prop}{YP:World->Heap->Prop}{d:DefRec}{K:Params->aj}(hn:l.most=some 63)(VG:d.params.defaults=[])
  (hY:∀(w:World) (h:Heap),YP w h->(K w.params).In h)
  (F: ∀(w:World) (mg:Str->Option Value) (fa:Addr) (h:Heap),(K w.params).In h->h.Ns mainGlobals mg->mg d.name=some (.ref fa) -> ∃(tabs:List (Addr×Str)) (fd:FuncData) (sp:Sp),
   (∀ r∈tabs,(K w.params).lookup r.1=none /\ ∃ x d c,(fZ q).find? (fun e=>e.name==x)=some d/\PySem.W.tabIn (K w.params) x=some (c,r.1))/\21#3 /\
   (∀ base:Heap,(K w.params).In base->base.Ns mainGlobals mg->eX mg base->FnOk l.prog w (K w.params) mg base CX0 47 fa fd ["script"] sp) /\ ∀ (H:Hp) (a:Addr) (ns:List Int),ns.length<=63->(∀ r∈tabs,Ar H r.1 r.2)->SqL (K w.params) H a (ns.map V.int)->sp [.ref a] H (fun v _=>v = .bl true) fun _ _ _=>False) :
  PySem.W.WalkO q loose XP YP l.row.toRowW d [] (λf vs=>PySem.call f vs):=
 Eb (n:=63) (k:=47) (x:="script") hn 0#1 VG ⟨rfl,by decide,by decide,rfl⟩ hY F
end _W
open PySem PySem.W PyProof.Rows
namespace PySem.W.Fast
theorem tw15175629025824985195:True:=trivial
theorem tw5855437754891756595:True:=trivial
theorem tw12255983990193640766:True:=trivial
theorem tw12737632052983082062:True:=trivial
theorem tw4539353834920701683:True:=trivial
theorem tw10834716744848225027:True:=trivial
theorem tw15922224825823721633:True:=trivial
theorem tw13904342674351508388:True:=trivial
theorem tw17749738285303196993:True:=trivial
theorem tw7193560132055493205:True:=trivial
theorem tw12089052490723239986:True:=trivial
theorem tw9177916074113976090:True:=trivial
theorem tw4627176354939304789:True:=trivial
theorem tw72638448029155850:True:=trivial
theorem tw9766961833156747685:True:=trivial
theorem tw2610356257967159536:True:=trivial
theorem tw14816793738129726903:True:=trivial
theorem tw15653615666193281566:True:=trivial
theorem tw8846321836457658730:True:=trivial
theorem tw14393720141232546919:True:=trivial
theorem tw7335871613322212051:True:=trivial
theorem tw5443597939471617231:True:=trivial
theorem tw13520366692650229600:True:=trivial
theorem tw2501932114843638256:True:=trivial
theorem tw15523741008008205450:True:=trivial
theorem tw10604223548468241197:True:=trivial
theorem tw6614317458205219243:True:=trivial
theorem tw6231936306711005685:True:=trivial
theorem tw6672676066327726254:True:=trivial
theorem tw14601605897571667102:True:=trivial
theorem tw3773266892866364365:True:=trivial
theorem tw18195170520555449888:True:=trivial
theorem tw3530784893554628259:True:=trivial
theorem tw9359495228882255345:True:=trivial
theorem tw6766662048297756062:True:=trivial
theorem tw11514161326486516154:True:=trivial
theorem tw17137229504051393768:True:=trivial
theorem tw9835443150653313913:True:=trivial
theorem tw17620265741621088592:True:=trivial
theorem tw5606966405690820791:True:=trivial
theorem tw1414665817657580829:True:=trivial
theorem tw11385905882528743230:True:=trivial
theorem tw15306348788501441012:True:=trivial
theorem tw215737967710479430:True:=trivial
theorem tw11727656408880326232:True:=trivial
theorem tw17980539918202178468:True:=trivial
theorem tw11678779778729383547:True:=trivial
theorem tw16430394405315012743:True:=trivial
theorem tw13852194476529895057:True:=trivial
theorem tw10016384050272918422:True:=trivial
theorem tw9963884192714436279:True:=trivial
theorem tw4486293277273793707:True:=trivial
theorem tw17963421855410196561:True:=trivial
theorem tw2981774570561915447:True:=trivial
theorem tw18102197124364346227:True:=trivial
theorem tw17387938302196819262:True:=trivial
theorem tw13406855557035552804:True:=trivial
theorem tw16581826536316576662:True:=trivial
theorem tw12927857373896264993:True:=trivial
theorem tw16506531955105225183:True:=trivial
theorem tw5862088137315974899:True:=trivial
theorem tw3901930905111173228:True:=trivial
theorem tw14948198215229390595:True:=trivial
theorem tw180397664510276510:True:=trivial
theorem tw10896289979179640714:True:=trivial
theorem tw805303807778850808:True:=trivial
theorem tw2141731281180643397:True:=trivial
theorem tw16344109047431062982:True:=trivial
theorem tw13798870159014278397:True:=trivial
theorem tw3479563758865575196:True:=trivial
theorem tw2853630294708035764:True:=trivial
theorem tw16783134889592140335:True:=trivial
theorem tw13817039881302938032:True:=trivial
theorem tw10810710101315095463:True:=trivial
theorem tw12852053237047172151:True:=trivial
theorem tw14879739330182864912:True:=trivial
theorem tw17948763148648272815:True:=trivial
theorem tw14996351695236672373:True:=trivial
theorem tw8991428620956074179:True:=trivial
theorem tw11196291368974340993:True:=trivial
theorem tw10501723176453038640:True:=trivial
theorem tw15603576134702803838:True:=trivial
theorem tw5827470553595178839:True:=trivial
theorem tw404049617402555914:True:=trivial
theorem tw9565439396486384016:True:=trivial
theorem tw428787662141996463:True:=trivial
theorem tw2023323051492551351:True:=trivial
theorem tw14282957561122123615:True:=trivial
theorem tw3488665759112923948:True:=trivial
theorem tw1904784733774484100:True:=trivial
theorem tw16794919069170467964:True:=trivial
theorem tw17668615869760597606:True:=trivial
theorem tw10552041014478187129:True:=trivial
theorem tw12461923216509825711:True:=trivial
theorem tw4348090542694185752:True:=trivial
theorem tw1690881322435684791:True:=trivial
theorem tw7468788152301044553:True:=trivial
theorem tw13943936555131297804:True:=trivial
theorem tw770423839775011756:True:=trivial
theorem tw6512859093428756618:True:=trivial
theorem tw18007228119895797875:True:=trivial
theorem tw10410687223861437612:True:=trivial
theorem tw14455111684033708596:True:=trivial
theorem tw10658754431428565139:True:=trivial
theorem tw4231610976957981495:True:=trivial
theorem tw10184262879949989918:True:=trivial
theorem tw11037423008731780358:True:=trivial
theorem tw11672619234434328731:True:=trivial
theorem tw964029348688483935:True:=trivial
theorem tw15978103475193921084:True:=trivial
theorem tw145709123289614061:True:=trivial
theorem tw5293473813056462197:True:=trivial
theorem tw16525288632737567375:True:=trivial
theorem tw13215175908946182582:True:=trivial
theorem tw530422281535261987:True:=trivial
theorem tw5186671921220731404:True:=trivial
theorem tw7683254056747627381:True:=trivial
theorem tw9704992166823079190:True:=trivial
theorem tw9990123405767234458:True:=trivial
theorem tw13322379269237326921:True:=trivial
theorem tw1250830904873038151:True:=trivial
theorem tw429406651806077680:True:=trivial
theorem tw4503991644793992711:True:=trivial
theorem tw10989398581913153712:True:=trivial
theorem tw4082435935466549219:True:=trivial
theorem tw14973466749026177854:True:=trivial
theorem tw5795193334049891769:True:=trivial
theorem tw15699580685598038002:True:=trivial
theorem tw11751598402668396688:True:=trivial
end PySem.W.Fast
set_option maxRecDepth 100000 in
set_option maxHeartbeats 0 in
theorem PySem.Challenge.cw_groupwalks_k65_rounds_woven_holds : PySem.Challenge.rw_groupwalks_k65_rounds_woven.Holds := by
 w_on;o_law;k_head;(case hw=>w_witness2)
 k_fill
 refine _W.walk (l:=PySem.Challenge.rw_groupwalks_k65_rounds_woven) rfl rfl (λw h Y=>PySem.W.km_in_of Y) ?F
 case F=>
  intro w mg fa h KX Gh W9;refine' _W.all_mk KX Gh W9 ?B ?con0 ?UP ?Us ?V2 ?U8 ?UT ?Uc ?TR ?TB ?rb ?g1 ?Wa ?VC ?nd ?DA (_G.wc ?a1 ?l1 ?c1 ?k1 ?e1 ?u1 ?v1 ?w1 ?x1 ?y1 ?z1 ?t1) (_G.wc ?a10 ?l10 ?RE ?W3 ?e10 ?u10 ?v10 ?w10 ?U4 ?y10 ?z10 ?t10) (_G.wc ?a23 ?l23 ?c23 ?VO ?e23 ?u23 ?v23 ?w23 ?x23 ?y23 ?z23 ?t23) ?n1 ?r1 ?UZ ?Ud ?UU ?Ut
  (case con0=>exact⟨_,by k_is⟩)
  (case UP=>k_is)
  (case Us=>k_is)
  (case V2=>k_is)
  (case U8=>k_is)
  (case UT=>k_is)
  (case Uc=>k_is)
  (case TR=>k_is)
  (case TB=>k_is)
  (case rb=>kernel_rfl)
  case B=>
   intro x hx;simp only[_G.iQ,aJ,cQ,or_false]at hx;rcases hx with rfl|rfl|rfl|rfl|rfl|rfl|rfl|rfl|rfl|rfl|rfl|rfl|rfl|rfl|rfl|rfl|rfl|rfl|rfl|rfl
   all_goals k_is
  case DA=>
   iterate 36 (refine' And.intro (_G.MB ?a ?l ?c ?k) ?_;(case a=>k_is);(case l=>k_is);(case c=>k_is);(case k=>k_is))
   trivial
  (case a1=>k_is);(case l1=>k_is);(case c1=>k_is);(case k1=>k_is)
  (case e1=>k_is);(case u1=>rfl);(case v1=>rfl);(case w1=>rfl);(case x1=>rfl);(case y1=>rfl);(case z1=>rfl);(case t1=>decide)
  (case a10=>k_is);(case l10=>k_is);(case RE=>k_is);(case W3=>k_is)
  (case e10=>k_is);(case u10=>rfl);(case v10=>rfl);(case w10=>rfl);(case U4=>rfl);(case y10=>rfl);(case z10=>rfl);(case t10=>decide)
  (case a23=>k_is);(case l23=>k_is);(case c23=>k_is);(case VO=>k_is)
  (case e23=>k_is);(case u23=>rfl);(case v23=>rfl);(case w23=>rfl);(case x23=>rfl);(case y23=>rfl);(case z23=>rfl);(case t23=>decide)
  (case g1=>decide)
  (case Wa=>decide)
  (case VC=>decide)
  (case nd=>decide)
  (case n1=>kernel_rfl);(case r1=>rfl)
  (case UZ=>kernel_rfl);(case Ud=>rfl)
  (case UU=>kernel_rfl);(case Ut=>rfl)
