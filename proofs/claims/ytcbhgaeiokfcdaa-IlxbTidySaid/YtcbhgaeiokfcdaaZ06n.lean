import Derived.Test.YtcbhgaeiokfcdaaVxIm
import Derived.Test.YtcbhgaeiokfcdaaVxLk
import Derived.Test.YtcbhgaeiokfcdaaVxLaw
import Derived.Test.YtcbhgaeiokfcdaaZ06m
import Derived.KernelRfl
noncomputable section
namespace Go.Proofs.Ytcbhgaeiokfcdaa.Vx
open Go Go.RowKit
set_option linter.unusedVariables false
set_option linter.unusedSimpArgs false
set_option maxRecDepth 100000
set_option maxHeartbeats 0
@[match_pattern] abbrev TU:Ty:=.int .u64
def m1n (f:OpT):MBox:=mkM 0 [] [(sh 54 [(1,.ptr 0 0),(6,.own 1),(7,.int .i64 0),(23,.int .i64 1),(24,.int .i64 2),(27,.int .i64 3),(28,.int .i64 4)],[laB 5,.arr TU 9])] [] [(.exit 2,sh 54 [(1,.ptr 0 0),(6,.own 1),(7,.int .i64 0),(23,.int .i64 1),(24,.int .i64 2)],[laB 3,.arr TU 7])] f
def h0a (env:LDt):Tree Step:=Lk.stepMC false LK cs_Z 28 9 ls0 (m1n fun _=>none) env
def u0g:OpT:=Classical.choose (opq (a0b h0a FU))
theorem x0x (env:LDt):u0g env=a0b h0a FU env:=Classical.choose_spec (opq (a0b h0a FU)) env
def f2i:MBox:=m1n u0g
theorem l2b:f2i=m1n (a0b h0a FU):=congrArg m1n (funext x0x)
theorem j2u: ∀t s x,(a0l f2i t s).sel=some x→a0r Try.prog 0 (.loop (cAt Try.prog 28 9)) t s x:=by
 rw[l2b]
 exact b0a (st:=h0a) (m:=FU) l1g hmix false (LsOk.none _ _ _) (by kernel_rfl) (fun env y h=>by rw[←stepMC_lk];exact h)
def r0k:LDt→Tree Step
 |[.n n0,.n n1,.n n2,.n n3,.n n4,.l TS l5,.l TPt l6,.l TPt l7,.l TRt l8,.l TU l9]=>
  (.node (decide (n4<n3))
   (let r1:OD:=(w2v [.l TS l5,.l TPt l6,.l TPt l7,.l TRt l8,.n n0,.n n4]);
   (.node (isK 0 [HK.b] r1)
    (.node (gb (dOf r1) 0)
    (.node (inR n0 (List.length l9))
     (.node (inR n4 (List.length (List.set l9 (Int.toNat n0) (ior IntKind.u64 (List.getD l9 (Int.toNat n0) (0:Int)) (ishl IntKind.u64 (1:Int) n4)))))
     (.leaf (Step.go [.k 0,.n n0,.n n1,.n n2,.n n3,.n (IntKind.wrap .i64 (n4+(1:Int))),.l TS l5,.l TPt l6,.l TPt l7,.l TRt l8,.l TU (List.set (List.set l9 (Int.toNat n0) (ior IntKind.u64 (List.getD l9 (Int.toNat n0) (0:Int)) (ishl IntKind.u64 (1:Int) n4))) (Int.toNat n4) (ior IntKind.u64 (List.getD (List.set l9 (Int.toNat n0) (ior IntKind.u64 (List.getD l9 (Int.toNat n0) (0:Int)) (ishl IntKind.u64 (1:Int) n4))) (Int.toNat n4) (0:Int)) (ishl IntKind.u64 (1:Int) n0)))]))
     (.bad 12))
     (.bad 12))
    (.leaf (Step.go [.k 0,.n n0,.n n1,.n n2,.n n3,.n (IntKind.wrap .i64 (n4+(1:Int))),.l TS l5,.l TPt l6,.l TPt l7,.l TRt l8,.l TU l9])))
    (.bad 351)))
   (.leaf (Step.stop 0 [.n n0,.n n1,.n n2,.l TS l5,.l TPt l6,.l TPt l7,.l TRt l8,.l TU l9])))
 |_=>.bad 0
theorem q0p (n0:Int)(n1:Int)(n2:Int)(n3:Int)(n4:Int)(l5:DS)(l6:DP)(l7:DP)(l8:DR)(l9:List (Ty.den TU))(g0:0≤n0)(g1:0≤n4)(g2:n0≤(l9.length:Int))(g3:n3=n0):Imp (r0k [.n n0,.n n1,.n n2,.n n3,.n n4,.l TS l5,.l TPt l6,.l TPt l7,.l TRt l8,.l TU l9]) (h0a [.k 0,.n n0,.n n1,.n n2,.n n3,.n n4,.l TS l5,.l TPt l6,.l TPt l7,.l TRt l8,.l TU l9]):=
(.pa [1]
(.nd (fun h0=>
(.nd (fun h1=>
(.pa [1]
(.nd (fun h2=>
(.nd (fun h3=>
(.pt (c:=(!decide (n4<(0:Int)))) (by kernel_rfl) (by kernel_rfl) (by(simp[*];done))
(.pt (by kernel_rfl) (by kernel_rfl) h3
(.pa [1]
(.nd (fun h4=>
(.pt (c:=(!decide (n0<(0:Int)))) (by kernel_rfl) (by kernel_rfl) (by(simp[*];done))
(.pt (by kernel_rfl) (by kernel_rfl) h4
(.pa [1,1]
.lf)))) (fun h4=>
.none)))))) (fun h3=>
.none))) (fun h2=>
(.pa [1]
.lf))))) (fun h1=>
.none))) (fun h0=>
(.pa [1]
.lf))))
def l1l (f:OpT):MBox:=mkM 0 [] [(sh 54 [(1,.ptr 0 0),(6,.own 1),(23,.int .i64 0),(24,.int .i64 1)],[laB 2,.arr TU 6])] [] [(.exit 0,sh 54 [(6,.own 0)],[.arr TU 0])] f
def h0h (env:LDt):Tree Step:=Lk.stepMC false LK cs_Z 28 6 (lsM [(9,f2i)] 0) (l1l fun _=>none) env
def t0r:OpT:=Classical.choose (opq (a0b h0h FU))
theorem y0h (env:LDt):t0r env=a0b h0h FU env:=Classical.choose_spec (opq (a0b h0h FU)) env
def f2f:MBox:=l1l t0r
theorem m2m:f2f=l1l (a0b h0h FU):=congrArg l1l (funext y0h)
theorem z2a:LsOk Try.prog 0 (lsM [(9,f2i)] 0) (cAt Try.prog 28 6):=LsOk.many fun j B hB hk c hc hi=>by
 simp only[c0f]at hB
 split at hB
 ·rename_i e;have:=Nat.eq_of_beq_eq_true e;subst this;cases hB
  have e1:d1t (cAt Try.prog 28 6) 9=[cAt Try.prog 28 9]:=by kernel_rfl
  have e2:=a0c hc hi
  rw[e1]at e2;cases List.mem_singleton.1 e2;exact j2u
 cases hB
theorem l2n: ∀t s x,(a0l f2f t s).sel=some x→a0r Try.prog 0 (.loop (cAt Try.prog 28 6)) t s x:=by
 rw[m2m]
 exact b0a (st:=h0h) (m:=FU) l1g hmix false (z2a) (by kernel_rfl) (fun env y h=>by rw[←stepMC_lk];exact h)
def r0c:LDt→Tree Step
 |[.n n0,.n n1,.l TS l2,.l TPt l3,.l TPt l4,.l TRt l5,.l TU l6]=>
  (.node (decide (n1<n0))
   (let r1:OD:=(u0g [.k 0,.n n1,.n n0,.n n1,.n n1,.n (0:Int),.l TS l2,.l TPt l3,.l TPt l4,.l TRt l5,.l TU l6]);
   (.node (isK 0 [HK.n,HK.n,HK.n,HK.l Ty.str,HK.l TPt,HK.l TPt,HK.l TRt,HK.l TU] r1)
    (.leaf (Step.go [.k 0,.n (gn (dOf r1) 1),.n (IntKind.wrap .i64 (gn (dOf r1) 2+(1:Int))),.l TS (gl Ty.str (dOf r1) 3),.l TPt (gl TPt (dOf r1) 4),.l TPt (gl TPt (dOf r1) 5),.l TRt (gl TRt (dOf r1) 6),.l TU (gl TU (dOf r1) 7)]))
    (.bad 351)))
   (.leaf (Step.stop 0 [.l TU l6])))
 |_=>.bad 0
theorem q0o (n0:Int)(n1:Int)(l2:DS)(l3:DP)(l4:DP)(l5:DR)(l6:List (Ty.den TU))(g0:0≤n1)(g1:n0=(l5.length:Int))(g2:n0=(l6.length:Int)):Imp (r0c [.n n0,.n n1,.l TS l2,.l TPt l3,.l TPt l4,.l TRt l5,.l TU l6]) (h0h [.k 0,.n n0,.n n1,.l TS l2,.l TPt l3,.l TPt l4,.l TRt l5,.l TU l6]):=
(.pa [1]
(.nd (fun h0=>
(.nd (fun h1=>
(.pa [1]
.lf)) (fun h1=>
.none))) (fun h0=>
(.pa [1]
.lf))))
theorem p2c:LsOk Try.prog (z0) (lsM [(6,f2f)] (z0)) (a0u Try.prog 28):=LsOk.many fun j B hB hk c hc hi=>by
 simp only[c0f]at hB
 split at hB
 ·rename_i e;have:=Nat.eq_of_beq_eq_true e;subst this;cases hB
  rw[b0u (f:=28) (i:=6) (a0e (by kernel_rfl)) (a0c hc hi)];exact l2n
 cases hB
def kc17 (f:OpT):FBox:=mkF [laV 0] [] [] [(.tup [.own 0,.int .i64 0],[.arr TU 1]),(.tup [.nilsl,.int .i64 0],[])] f
def g2b (env:LDt):TD:=Lk.boxC false LK cs_Z 28 (lsM [(6,f2f)] (z0)) (kc17 fun _=>none) env
def c1r:OpT:=Classical.choose (opq (fun env=>(g2b env).sel))
theorem p1s (env:LDt):c1r env=(g2b env).sel:=Classical.choose_spec (opq (fun env=>(g2b env).sel)) env
def Bc17:FBox:=kc17 c1r
theorem q2h:a0x Try.prog 28 (a0i Bc17):=b0c (op:=c1r) l1g hmix false (p2c) (fun env x h=>by rw[p1s]at h;rw[←boxC_lk];exact h)
def e2d:LDt→TD
 |[.l TS l0,.l TPt l1,.l TPt l2,.l TRt l3]=>
  (let r1:OD:=(l2u [.l TS l0,.l TPt l1,.l TPt l2,.l TRt l3]);
   (.node (isK 0 [HK.n,HK.n] r1)
   (.node (gn (dOf r1) 0 !=(0:Int))
    (.leaf ((1,[.n (gn (dOf r1) 0)])))
    (.node (true&&decide ((↑(List.length l3):Int)≤(↑(List.length l3):Int))&&decide ((↑(List.length l3):Int)*(8:Int)≤(281474976710656:Int)))
    (let r2:OD:=(t0r
 [.k 0,.n (↑(List.length l3):Int),.n (0:Int),.l TS l0,.l TPt l1,.l TPt l2,.l TRt l3,
  .l TU
   (repC (α:=Ty.den TU) (Int.toNat (↑(List.length l3):Int)) (0:Int))]);
     (.node (isK 0 [HK.l TU] r2)
     (.leaf ((0,[.n (0:Int),.l TU (gl TU (dOf r2) 0)])))
     (.bad 351)))
    (.bad 50)))
   (.bad 351)))
 |_=>.bad 0
theorem a2t (l0:DS)(l1:DP)(l2:DP)(l3:DR):Imp (e2d [.l TS l0,.l TPt l1,.l TPt l2,.l TRt l3]) (g2b [.l TS l0,.l TPt l1,.l TPt l2,.l TRt l3]):=
(.nd (fun h0=>
(.pa [1]
(.nd (fun h1=>
(.pa [1]
.lf)) (fun h1=>
(.nd (fun h2=>
(.nd (fun h3=>
(.pa [1]
.lf)) (fun h3=>
.none))) (fun h2=>
.none)))))) (fun h0=>
.none))
def i2s:FuncId→Option a0f:=a0k 28 Bc17 cs_Z
theorem b1b:CsOk Try.prog i2s:=a0h l1g q2h
def l1m (f:OpT):MBox:=mkM 0 [] [(sh 18 [(0,.imm TI 0),(1,.int .i64 1),(5,.int .i64 2)],[])] [] [(.exit 0,sh 18 [],[]),(.ret,sh 18 [(4,.bool 0)],[])] f
def g0s (env:LDt):Tree Step:=Lk.stepMC false LK i2s 57 2 ls0 (l1m fun _=>none) env
def v0b:OpT:=Classical.choose (opq (a0b g0s FU))
theorem w0u (env:LDt):v0b env=a0b g0s FU env:=Classical.choose_spec (opq (a0b g0s FU)) env
def f2b:MBox:=l1m v0b
theorem l2g:f2b=l1m (a0b g0s FU):=congrArg l1m (funext w0u)
theorem n2g: ∀t s x,(a0l f2b t s).sel=some x→a0r Try.prog 0 (.loop (cAt Try.prog 57 2)) t s x:=by
 rw[l2g]
 exact b0a (st:=g0s) (m:=FU) b1b hmix false (LsOk.none _ _ _) (by kernel_rfl) (fun env y h=>by rw[←stepMC_lk];exact h)
def k0m:LDt→Tree Step
 |[.l TI l0,.n n1,.n n2]=>
  (.node (decide (n2<(↑(List.length l0):Int)))
   (.node ((List.getD l0 (Int.toNat n2) (0:Int):Int)==n1)
   (.leaf (Step.stop 1 [.b true]))
   (.leaf (Step.go [.k 0,.l TI l0,.n n1,.n (IntKind.wrap .i64 (n2+(1:Int)))])))
   (.leaf (Step.stop 0 [])))
 |_=>.bad 0
theorem i0l (l0:DI)(n1:Int)(n2:Int)(g0:0≤n2):Imp (k0m [.l TI l0,.n n1,.n n2]) (g0s [.k 0,.l TI l0,.n n1,.n n2]):=
(.pa [1]
(.nd (fun h0=>
(.pq (c:=(inR n2 (List.length l0)))
(.nd (fun h1=>
(.pa [1]
.lf)) (fun h1=>
(.pa [1]
.lf))))) (fun h0=>
(.pa [1]
.lf))))
theorem v2b:LsOk Try.prog (z0) (lsM [(2,f2b)] (z0)) (a0u Try.prog 57):=LsOk.many fun j B hB hk c hc hi=>by
 simp only[c0f]at hB
 split at hB
 ·rename_i e;have:=Nat.eq_of_beq_eq_true e;subst this;cases hB
  rw[b0u (f:=57) (i:=2) (a0e (by kernel_rfl)) (a0c hc hi)];exact n2g
 cases hB
def kc77 (f:OpT):FBox:=mkF [.imm TI 0,.int .i64 1] [] [] [(.bool 0,[])] f
def i2v (env:LDt):TD:=Lk.boxC false LK i2s 57 (lsM [(2,f2b)] (z0)) (kc77 fun _=>none) env
def e1q:OpT:=Classical.choose (opq (fun env=>(i2v env).sel))
theorem p1g (env:LDt):e1q env=(i2v env).sel:=Classical.choose_spec (opq (fun env=>(i2v env).sel)) env
def Bc77:FBox:=kc77 e1q
theorem Bc77_ok:a0x Try.prog 57 (a0i Bc77):=b0c (op:=e1q) b1b hmix false (v2b) (fun env x h=>by rw[p1g]at h;rw[←boxC_lk];exact h)
def e2a:LDt→TD
 |[.l TI l0,.n n1]=>
  (let r1:OD:=(v0b [.k 0,.l TI l0,.n n1,.n (0:Int)]);
   (.node (isK 0 [] r1)
   (.leaf ((0,[.b false])))
   (.node (isK 1 [HK.b] r1)
    (.leaf ((0,[.b (gb (dOf r1) 0)])))
    (.bad 351))))
 |_=>.bad 0
theorem v1k (l0:DI)(n1:Int):Imp (e2a [.l TI l0,.n n1]) (i2v [.l TI l0,.n n1]):=
(.nd (fun h0=>
(.pa [1]
.lf)) (fun h0=>
(.nd (fun h1=>
(.pa [1]
.lf)) (fun h1=>
.none))))
def h2s:FuncId→Option a0f:=a0k 57 Bc77 i2s
theorem b1t:CsOk Try.prog h2s:=a0h b1b Bc77_ok
def h1z (f:OpT):MBox:=mkM 0 [] [(sh 36 [(1,.int .i64 0),(5,.own 0),(6,.int .i64 1)],[.arr TNd 2])] [] [(.exit 0,sh 36 [],[]),(.ret,sh 36 [(4,.int .i64 0)],[])] f
def g0t (env:LDt):Tree Step:=Lk.stepMC false LK h2s 58 3 ls0 (h1z fun _=>none) env
def r0z:OpT:=Classical.choose (opq (a0b g0t FU))
theorem x0k (env:LDt):r0z env=a0b g0t FU env:=Classical.choose_spec (opq (a0b g0t FU)) env
def e2p:MBox:=h1z r0z
theorem j2x:e2p=h1z (a0b g0t FU):=congrArg h1z (funext x0k)
theorem o2r: ∀t s x,(a0l e2p t s).sel=some x→a0r Try.prog 0 (.loop (cAt Try.prog 58 3)) t s x:=by
 rw[j2x]
 exact b0a (st:=g0t) (m:=FU) b1t hmix false (LsOk.none _ _ _) (by kernel_rfl) (fun env y h=>by rw[←stepMC_lk];exact h)
def l0v:LDt→Tree Step
 |[.n n0,.n n1,.l TNd l2]=>
  (.node (decide (n1<(↑(List.length l2):Int)))
   (.node (Prod.fst (List.getD l2 (Int.toNat n1) (Ty.dflt TNd))==n0)
   (.node (Prod.snd (List.getD l2 (Int.toNat n1) (Ty.dflt TNd)))
    (.leaf (Step.stop 1 [.n (2:Int)]))
    (.leaf (Step.stop 1 [.n (1:Int)])))
   (.leaf (Step.go [.k 0,.n n0,.n (IntKind.wrap .i64 (n1+(1:Int))),.l TNd l2])))
   (.leaf (Step.stop 0 [])))
 |_=>.bad 0
theorem i0i (n0:Int)(n1:Int)(l2:DD)(g0:0≤n1):Imp (l0v [.n n0,.n n1,.l TNd l2]) (g0t [.k 0,.n n0,.n n1,.l TNd l2]):=
(.pa [1]
(.nd (fun h0=>
(.pq (c:=(inR n1 (List.length l2)))
(.nd (fun h1=>
(.pq (c:=(inR n1 (List.length l2)))
(.nd (fun h2=>
(.pa [1]
.lf)) (fun h2=>
(.pq (c:=(inR n1 (List.length l2)))
(.pt (by kernel_rfl) (by kernel_rfl) h1
(.pa [1]
.lf))))))) (fun h1=>
(.pa [0,0]
(.pq (c:=(inR n1 (List.length l2)))
(.pf (by kernel_rfl) (by kernel_rfl) h1
(.pa [1]
.lf)))))))) (fun h0=>
(.pa [1]
.lf))))
theorem d3q:LsOk Try.prog (z0) (lsM [(3,e2p)] (z0)) (a0u Try.prog 58):=LsOk.many fun j B hB hk c hc hi=>by
 simp only[c0f]at hB
 split at hB
 ·rename_i e;have:=Nat.eq_of_beq_eq_true e;subst this;cases hB
  rw[b0u (f:=58) (i:=3) (a0e (by kernel_rfl)) (a0c hc hi)];exact o2r
 cases hB
def kc78 (f:OpT):FBox:=mkF [rtV 0,.int .i64 6] [] [] [(.int .i64 0,[])] f
def h2g (env:LDt):TD:=Lk.boxC false LK h2s 58 (lsM [(3,e2p)] (z0)) (kc78 fun _=>none) env
def g1z:OpT:=Classical.choose (opq (fun env=>(h2g env).sel))
theorem o1d (env:LDt):g1z env=(h2g env).sel:=Classical.choose_spec (opq (fun env=>(h2g env).sel)) env
def Bc78:FBox:=kc78 g1z
theorem Bc78_ok:a0x Try.prog 58 (a0i Bc78):=b0c (op:=g1z) b1t hmix false (d3q) (fun env x h=>by rw[o1d]at h;rw[←boxC_lk];exact h)
def c2l:LDt→TD
 |[.s s0,.n n1,.l TI l2,.l TNd l3,.l TI l4,.l TNd l5,.n n6]=>
  (let r1:OD:=(y0m [.s s0,.n n1,.l TI l2,.l TNd l3,.l TI l4,.l TNd l5]);
   (.node (isK 0 [HK.l TNd] r1)
   (let r2:OD:=(r0z [.k 0,.n n6,.n (0:Int),.l TNd (gl TNd (dOf r1) 0)]);
    (.node (isK 0 [] r2)
    (.leaf ((0,[.n (0:Int)])))
    (.node (isK 1 [HK.n] r2)
     (.leaf ((0,[.n (gn (dOf r2) 0)])))
     (.bad 351))))
   (.bad 351)))
 |_=>.bad 0
theorem v1g (s0:ByteArray)(n1:Int)(l2:DI)(l3:DD)(l4:DI)(l5:DD)(n6:Int):Imp (c2l [.s s0,.n n1,.l TI l2,.l TNd l3,.l TI l4,.l TNd l5,.n n6]) (h2g [.s s0,.n n1,.l TI l2,.l TNd l3,.l TI l4,.l TNd l5,.n n6]):=
(.nd (fun h0=>
(.pa [1]
(.nd (fun h1=>
(.pa [1]
.lf)) (fun h1=>
(.nd (fun h2=>
(.pa [1]
.lf)) (fun h2=>
.none)))))) (fun h0=>
.none))
def p1i:FuncId→Option a0f:=a0k 58 Bc78 h2s
theorem u0a:CsOk Try.prog p1i:=a0h b1t Bc78_ok
def k1x (f:OpT):MBox:=mkM 0 [] [(sh 83 [(3,.ptr 0 0),(4,.ptr 1 0),(5,.ptr 2 0),(7,.own 3),(8,.own 4),(9,.int .i64 0)],[laB 1,rtB 5,rtB 11,.arr TI 17,.arr TI 18])] [] [(.exit 0,sh 83 [(3,.ptr 0 0),(4,.ptr 1 0),(5,.ptr 2 0),(7,.own 3),(8,.own 4)],[laB 0,rtB 4,rtB 10,.arr TI 16,.arr TI 17]),(.ret,sh 83 [(6,.bool 0)],[])] f
def g0z (env:LDt):Tree Step:=Lk.stepMC false LK p1i 25 5 ls0 (k1x fun _=>none) env
def t0t:OpT:=Classical.choose (opq (a0b g0z FU))
theorem x0m (env:LDt):t0t env=a0b g0z FU env:=Classical.choose_spec (opq (a0b g0z FU)) env
def e2e:MBox:=k1x t0t
theorem m2q:e2e=k1x (a0b g0z FU):=congrArg k1x (funext x0m)
theorem k2u: ∀t s x,(a0l e2e t s).sel=some x→a0r Try.prog 0 (.loop (cAt Try.prog 25 5)) t s x:=by
 rw[m2q]
 exact b0a (st:=g0z) (m:=FU) u0a hmix false (LsOk.none _ _ _) (by kernel_rfl) (fun env y h=>by rw[←stepMC_lk];exact h)
def l0w:LDt→Tree Step
 |[.n n0,.l TS l1,.l TPt l2,.l TPt l3,.l TRt l4,.s s5,.n n6,.l TI l7,.l TNd l8,.l TI l9,.l TNd l10,.s s11,.n n12,.l TI l13,.l TNd l14,.l TI l15,.l TNd l16,.l TI l17,.l TI l18]=>
  (.node (decide (n0<(↑(List.length l17):Int)))
   (let r1:OD:=(e1q [.l TI l18,.n (List.getD l17 (Int.toNat n0) (0:Int))]);
   (.node (isK 0 [HK.b] r1)
    (.node (gb (dOf r1) 0)
    (.leaf (Step.stop 1 [.b true]))
    (.leaf (Step.go [.k 0,.n (IntKind.wrap .i64 (n0+(1:Int))),.l TS l1,.l TPt l2,.l TPt l3,.l TRt l4,.s s5,.n n6,.l TI l7,.l TNd l8,.l TI l9,.l TNd l10,.s s11,.n n12,.l TI l13,.l TNd l14,.l TI l15,.l TNd l16,.l TI l17,.l TI l18])))
    (.bad 351)))
   (.leaf (Step.stop 0 [.l TS l1,.l TPt l2,.l TPt l3,.l TRt l4,.s s5,.n n6,.l TI l7,.l TNd l8,.l TI l9,.l TNd l10,.s s11,.n n12,.l TI l13,.l TNd l14,.l TI l15,.l TNd l16,.l TI l17,.l TI l18])))
 |_=>.bad 0
theorem i0w (n0:Int)(l1:DS)(l2:DP)(l3:DP)(l4:DR)(s5:ByteArray)(n6:Int)(l7:DI)(l8:DD)(l9:DI)(l10:DD)(s11:ByteArray)(n12:Int)(l13:DI)(l14:DD)(l15:DI)(l16:DD)(l17:DI)(l18:DI)(g0:0≤n0):Imp (l0w [.n n0,.l TS l1,.l TPt l2,.l TPt l3,.l TRt l4,.s s5,.n n6,.l TI l7,.l TNd l8,.l TI l9,.l TNd l10,.s s11,.n n12,.l TI l13,.l TNd l14,.l TI l15,.l TNd l16,.l TI l17,.l TI l18]) (g0z [.k 0,.n n0,.l TS l1,.l TPt l2,.l TPt l3,.l TRt l4,.s s5,.n n6,.l TI l7,.l TNd l8,.l TI l9,.l TNd l10,.s s11,.n n12,.l TI l13,.l TNd l14,.l TI l15,.l TNd l16,.l TI l17,.l TI l18]):=
(.pa [1]
(.nd (fun h0=>
(.pq (c:=(inR n0 (List.length l17)))
(.nd (fun h1=>
(.pa [1]
(.nd (fun h2=>
(.pa [1]
.lf)) (fun h2=>
(.pa [1]
.lf))))) (fun h1=>
.none)))) (fun h0=>
(.pa [1]
.lf))))
def z0i (f:OpT):MBox:=mkM 0 [] [(sh 83 [(3,.ptr 0 0),(4,.ptr 1 0),(5,.ptr 2 0),(7,.own 3),(8,.own 4),(10,.int .i64 0)],[laB 1,rtB 5,rtB 11,.arr TI 17,.arr TI 18])] [] [(.exit 2,sh 83 [],[]),(.ret,sh 83 [(6,.bool 0)],[])] f
def e0e (env:LDt):Tree Step:=Lk.stepMC false LK p1i 25 10 ls0 (z0i fun _=>none) env
def p0h:OpT:=Classical.choose (opq (a0b e0e FU))
theorem r0t (env:LDt):p0h env=a0b e0e FU env:=Classical.choose_spec (opq (a0b e0e FU)) env
def m1z:MBox:=z0i p0h
theorem y1b:m1z=z0i (a0b e0e FU):=congrArg z0i (funext r0t)
theorem a2x: ∀t s x,(a0l m1z t s).sel=some x→a0r Try.prog 0 (.loop (cAt Try.prog 25 10)) t s x:=by
 rw[y1b]
 exact b0a (st:=e0e) (m:=FU) u0a hmix false (LsOk.none _ _ _) (by kernel_rfl) (fun env y h=>by rw[←stepMC_lk];exact h)
def n0g:LDt→Tree Step
 |[.n n0,.l TS l1,.l TPt l2,.l TPt l3,.l TRt l4,.s s5,.n n6,.l TI l7,.l TNd l8,.l TI l9,.l TNd l10,.s s11,.n n12,.l TI l13,.l TNd l14,.l TI l15,.l TNd l16,.l TI l17,.l TI l18]=>
  (.node (decide (n0<(↑(List.length l2):Int)))
   (let r1:OD:=(g1z [.s s5,.n n6,.l TI l7,.l TNd l8,.l TI l9,.l TNd l10,.n n0]);
   (.node (isK 0 [HK.n] r1)
    (let r2:OD:=(g1z [.s s11,.n n12,.l TI l13,.l TNd l14,.l TI l15,.l TNd l16,.n n0]);
    (.node (isK 0 [HK.n] r2)
     (.node (gn (dOf r1) 0 !=gn (dOf r2) 0)
     (.node (decide (gn (dOf r1) 0>(0:Int)))
      (.node (decide (gn (dOf r2) 0>(0:Int)))
      (.leaf (Step.stop 1 [.b true]))
      (let r3:OD:=(e1q [.l TI l18,.n (Prod.snd (List.getD l2 (Int.toNat n0) (Ty.dflt TPt)))]);
       (.node (isK 0 [HK.b] r3)
       (.node (gb (dOf r3) 0)
        (.leaf (Step.stop 1 [.b true]))
        (.leaf (Step.go [.k 0,.n (IntKind.wrap .i64 (n0+(1:Int))),.l TS l1,.l TPt l2,.l TPt l3,.l TRt l4,.s s5,.n n6,.l TI l7,.l TNd l8,.l TI l9,.l TNd l10,.s s11,.n n12,.l TI l13,.l TNd l14,.l TI l15,.l TNd l16,.l TI l17,.l TI l18])))
       (.bad 351))))
      (.node (decide (gn (dOf r2) 0>(0:Int)))
      (let r3:OD:=(e1q [.l TI l17,.n (Prod.snd (List.getD l2 (Int.toNat n0) (Ty.dflt TPt)))]);
       (.node (isK 0 [HK.b] r3)
       (.node (gb (dOf r3) 0)
        (.leaf (Step.stop 1 [.b true]))
        (.leaf (Step.go [.k 0,.n (IntKind.wrap .i64 (n0+(1:Int))),.l TS l1,.l TPt l2,.l TPt l3,.l TRt l4,.s s5,.n n6,.l TI l7,.l TNd l8,.l TI l9,.l TNd l10,.s s11,.n n12,.l TI l13,.l TNd l14,.l TI l15,.l TNd l16,.l TI l17,.l TI l18])))
       (.bad 351)))
      (.leaf (Step.go [.k 0,.n (IntKind.wrap .i64 (n0+(1:Int))),.l TS l1,.l TPt l2,.l TPt l3,.l TRt l4,.s s5,.n n6,.l TI l7,.l TNd l8,.l TI l9,.l TNd l10,.s s11,.n n12,.l TI l13,.l TNd l14,.l TI l15,.l TNd l16,.l TI l17,.l TI l18]))))
     (.leaf (Step.go [.k 0,.n (IntKind.wrap .i64 (n0+(1:Int))),.l TS l1,.l TPt l2,.l TPt l3,.l TRt l4,.s s5,.n n6,.l TI l7,.l TNd l8,.l TI l9,.l TNd l10,.s s11,.n n12,.l TI l13,.l TNd l14,.l TI l15,.l TNd l16,.l TI l17,.l TI l18])))
     (.bad 351)))
    (.bad 351)))
   (.leaf (Step.stop 0 [])))
 |_=>.bad 0
theorem n0p (n0:Int)(l1:DS)(l2:DP)(l3:DP)(l4:DR)(s5:ByteArray)(n6:Int)(l7:DI)(l8:DD)(l9:DI)(l10:DD)(s11:ByteArray)(n12:Int)(l13:DI)(l14:DD)(l15:DI)(l16:DD)(l17:DI)(l18:DI)(g0:0≤n0):Imp (n0g [.n n0,.l TS l1,.l TPt l2,.l TPt l3,.l TRt l4,.s s5,.n n6,.l TI l7,.l TNd l8,.l TI l9,.l TNd l10,.s s11,.n n12,.l TI l13,.l TNd l14,.l TI l15,.l TNd l16,.l TI l17,.l TI l18]) (e0e [.k 0,.n n0,.l TS l1,.l TPt l2,.l TPt l3,.l TRt l4,.s s5,.n n6,.l TI l7,.l TNd l8,.l TI l9,.l TNd l10,.s s11,.n n12,.l TI l13,.l TNd l14,.l TI l15,.l TNd l16,.l TI l17,.l TI l18]):=
(.pa [1]
(.nd (fun h0=>
(.nd (fun h1=>
(.pa [1]
(.nd (fun h2=>
(.pa [1,1]
(.pq (c:=(inR n0 (List.length l2)))
(.nd (fun h3=>
(.nd (fun h4=>
(.nd (fun h5=>
(.pa [1,1,1,1,1]
.lf)) (fun h5=>
(.pt (by kernel_rfl) (by kernel_rfl) h4
(.nd (fun h6=>
(.pa [1]
(.nd (fun h7=>
(.pa [1,1,1]
.lf)) (fun h7=>
(.pf (by kernel_rfl) (by kernel_rfl) h5
(.pa [0,0,1]
.lf)))))) (fun h6=>
.none)))))) (fun h4=>
(.pa [0,0]
(.pf (by kernel_rfl) (by kernel_rfl) h4
(.pa [0,0]
(.nd (fun h5=>
(.nd (fun h6=>
(.pa [1]
(.nd (fun h7=>
(.pa [1]
.lf)) (fun h7=>
(.pa [1]
.lf))))) (fun h6=>
.none))) (fun h5=>
(.pa [0,0,1]
.lf))))))))) (fun h3=>
(.pa [0,0,1]
.lf)))))) (fun h2=>
.none)))) (fun h1=>
.none))) (fun h0=>
(.pa [1]
.lf))))
theorem u2l:LsOk Try.prog (z0) (lsM [(5,e2e),(10,m1z)] (z0)) (a0u Try.prog 25):=LsOk.many fun j B hB hk c hc hi=>by
 simp only[c0f]at hB
 split at hB
 ·rename_i e;have:=Nat.eq_of_beq_eq_true e;subst this;cases hB
  rw[b0u (f:=25) (i:=5) (a0e (by kernel_rfl)) (a0c hc hi)];exact k2u
 split at hB
 ·rename_i e;have:=Nat.eq_of_beq_eq_true e;subst this;cases hB
  rw[b0u (f:=25) (i:=10) (a0e (by kernel_rfl)) (a0c hc hi)];exact a2x
 cases hB
def kc46 (f:OpT):FBox:=mkF [laV 0,rtV 4,rtV 10] [] [] [(.bool 0,[])] f
def b2t (env:LDt):TD:=Lk.boxC false LK p1i 25 (lsM [(5,e2e),(10,m1z)] (z0)) (kc46 fun _=>none) env
def y0c:OpT:=Classical.choose (opq (fun env=>(b2t env).sel))
theorem q1n (env:LDt):y0c env=(b2t env).sel:=Classical.choose_spec (opq (fun env=>(b2t env).sel)) env
def Bc46:FBox:=kc46 y0c
theorem w2o:a0x Try.prog 25 (a0i Bc46):=b0c (op:=y0c) u0a hmix false (u2l) (fun env x h=>by rw[q1n]at h;rw[←boxC_lk];exact h)
def b2u:LDt→TD
 |[.l TS l0,.l TPt l1,.l TPt l2,.l TRt l3,.s s4,.n n5,.l TI l6,.l TNd l7,.l TI l8,.l TNd l9,.s s10,.n n11,.l TI l12,.l TNd l13,.l TI l14,.l TNd l15]=>
  (.node (n5==n11)
   (.leaf ((0,[.b true])))
   (let r1:OD:=(g1a [.s s4,.n n5,.l TI l6,.l TNd l7,.l TI l8,.l TNd l9]);
   (.node (isK 0 [HK.l TI] r1)
    (let r2:OD:=(g1a [.s s10,.n n11,.l TI l12,.l TNd l13,.l TI l14,.l TNd l15]);
    (.node (isK 0 [HK.l TI] r2)
     (let r3:OD:=(t0t [.k 0,.n (0:Int),.l TS l0,.l TPt l1,.l TPt l2,.l TRt l3,.s s4,.n n5,.l TI l6,.l TNd l7,.l TI l8,.l TNd l9,.s s10,.n n11,.l TI l12,.l TNd l13,.l TI l14,.l TNd l15,.l TI (gl TI (dOf r1) 0),.l TI (gl TI (dOf r2) 0)]);
     (.node (isK 0 [HK.l Ty.str,HK.l TPt,HK.l TPt,HK.l TRt,HK.s,HK.n,HK.l TI,HK.l TNd,HK.l TI,HK.l TNd,HK.s,HK.n,HK.l TI,HK.l TNd,HK.l TI,HK.l TNd,HK.l TI,HK.l TI] r3)
      (let r4:OD:=(p0h [.k 0,.n (0:Int),.l TS (gl Ty.str (dOf r3) 0),.l TPt (gl TPt (dOf r3) 1),.l TPt (gl TPt (dOf r3) 2),.l TRt (gl TRt (dOf r3) 3),.s (gs (dOf r3) 4),.n (gn (dOf r3) 5),.l TI (gl TI (dOf r3) 6),.l TNd (gl TNd (dOf r3) 7),.l TI (gl TI (dOf r3) 8),.l TNd (gl TNd (dOf r3) 9),.s (gs (dOf r3) 10),.n (gn (dOf r3) 11),.l TI (gl TI (dOf r3) 12),.l TNd (gl TNd (dOf r3) 13),.l TI (gl TI (dOf r3) 14),.l TNd (gl TNd (dOf r3) 15),.l TI (gl TI (dOf r3) 16),.l TI (gl TI (dOf r3) 17)]);
      (.node (isK 0 [] r4)
       (.leaf ((0,[.b false])))
       (.node (isK 1 [HK.b] r4)
       (.leaf ((0,[.b (gb (dOf r4) 0)])))
       (.bad 351))))
      (.node (isK 1 [HK.b] r3)
      (.leaf ((0,[.b (gb (dOf r3) 0)])))
      (.bad 351))))
     (.bad 351)))
    (.bad 351))))
 |_=>.bad 0
theorem y1t (l0:DS)(l1:DP)(l2:DP)(l3:DR)(s4:ByteArray)(n5:Int)(l6:DI)(l7:DD)(l8:DI)(l9:DD)(s10:ByteArray)(n11:Int)(l12:DI)(l13:DD)(l14:DI)(l15:DD):Imp (b2u [.l TS l0,.l TPt l1,.l TPt l2,.l TRt l3,.s s4,.n n5,.l TI l6,.l TNd l7,.l TI l8,.l TNd l9,.s s10,.n n11,.l TI l12,.l TNd l13,.l TI l14,.l TNd l15]) (b2t [.l TS l0,.l TPt l1,.l TPt l2,.l TRt l3,.s s4,.n n5,.l TI l6,.l TNd l7,.l TI l8,.l TNd l9,.s s10,.n n11,.l TI l12,.l TNd l13,.l TI l14,.l TNd l15]):=
(.nd (fun h0=>
(.pa [1]
.lf)) (fun h0=>
(.nd (fun h1=>
(.pa [1]
(.nd (fun h2=>
(.pa [1,1]
(.nd (fun h3=>
(.nd (fun h4=>
(.pa [1]
.lf)) (fun h4=>
(.nd (fun h5=>
(.pa [1]
.lf)) (fun h5=>
.none))))) (fun h3=>
(.nd (fun h4=>
(.pa [1]
.lf)) (fun h4=>
.none)))))) (fun h2=>
.none)))) (fun h1=>
.none))))
def cs_c46:FuncId→Option a0f:=a0k 25 Bc46 p1i
theorem w2e:CsOk Try.prog cs_c46:=a0h u0a w2o
theorem j3u {i:Int}{n:Nat}(h0:0≤i)(h1:i<(n:Int)):inR i n=true:=j1w.2 ⟨h0,h1⟩
theorem rtG_of {b c:LP}{e:Rt}(h:rtOk b c e):rtG b e=true:=by
 obtain⟨_,⟨h1,h2,h3,h4⟩,h5,h6⟩:=h
 unfold rtG
 rw[dt h1,dt h2,dt h3,dt h4]
 simp only[Bool.true_and,List.all_eq_true]
 intro d hd
 rcases List.mem_append.1 (show d∈eQ e++eF e from hd)with hd|hd
 ·exact j1w.2 (h5 d hd)
 ·exact j1w.2 (h6 d hd)
theorem oCl (a:LS)(b c:LP)(r:LR)(i j:Int)(hm:mayL a b c r=true)(hi:0≤i∧i<(r.length:Int))(hj:0≤j∧j<(r.length:Int)):
  w2v [.l TS a,.l TPt b,.l TPt c,.l TRt r,.n i,.n j]=some (0,[.b (clF b r i j)]):=by
 rw[j2d]
 obtain⟨_,_,hr⟩:=e1w hm
 have h1:okC b r i j=true:=by
  unfold okC
  rw[j3u hi.1 hi.2,j3u hj.1 hj.2]
  have g1:rtG b (rAt r i)=true:=rtG_of (hr i.toNat (by omega))
  have g2:rtG b (rAt r j)=true:=rtG_of (hr j.toNat (by omega))
  rw[g1,g2];rfl
 show(match c0m TS TS a,c0m TPt TPt b,c0m TPt TPt c,c0m TRt TRt r with|some a,some b,some c,some r=>bif okC b r i j then some (0,[Dat.b (clF b r i j)])else none|_,_,_,_=>none)=_
 simp only[c0r,h1]
 rfl
theorem p1e {l:LN}(hn:(nd l).Nodup){d:Ty.den TNd}(hd:d∈l):sdF l (f1 d)=some (g2 d):=by
 induction l with
 |nil=>cases hd
 |cons e l ih=>
  have hn':(f1 e::nd l).Nodup:=hn
  rw[List.nodup_cons]at hn'
  unfold sdF
  rw[List.find?_cons]
  rcases List.mem_cons.1 hd with rfl|hd
  ·rw[show(f1 d==f1 d)=true from bt rfl];rfl
  ·have:f1 e≠f1 d:=fun h=>hn'.1 (h▸List.mem_map_of_mem (f:=f1) hd)
   rw[show(f1 e==f1 d)=false from bf this]
   exact ih hn'.2 hd
abbrev B64:=BitVec 64
def pw2 (k:Nat):B64:=1#64<<<k
theorem pw2_bit (k i:Nat):(pw2 k).getLsbD i=(decide (i<64)&&decide (i=k)):=by
 unfold pw2
 rw[BitVec.getLsbD_shiftLeft]
 by_cases h:i=k
 ·subst h;simp
 ·by_cases h2:i<k
  ·simp[h,h2]
  ·have:i-k≠0:=by omega
   simp[h,h2,this]
theorem iandB (X:B64)(k:Nat):(iand IntKind.u64 (ishr IntKind.u64 (N X) (k:Int)) (1:Int)==(1:Int))=X.getLsbD k:=by
 rw[g3w,show(1:Int)=N (1#64)from rfl,a0y,N_beq,Bool.eq_iff_iff,beq_iff_eq]
 constructor
 ·intro h
  have:=congrArg (fun y=>y.getLsbD 0) h
  simp at this
  simpa [BitVec.getLsbD_eq_getElem]using this
 ·intro h
  apply BitVec.eq_of_getLsbD_eq
  intro i hi
  rw[BitVec.getLsbD_and,BitVec.getLsbD_ushiftRight]
  by_cases h0:i=0
  ·subst h0;simp[h]
  ·simp[h0]
theorem ishlB (k:Nat):ishl IntKind.u64 (1:Int) (k:Int)=N (pw2 k):=by
 rw[show(1:Int)=N (1#64)from rfl,m3o];rfl
abbrev LB64:=List B64
def NL (T:LB64):List Int:=T.map N
theorem g2j (T:LB64):(NL T).length=T.length:=List.length_map ..
theorem NL_at (T:LB64)(x:Nat):(NL T).getD x 0=N (T.getD x 0#64):=by
 unfold NL
 rw[List.getD_eq_getElem?_getD,List.getD_eq_getElem?_getD,List.getElem?_map]
 cases T[x]? <;>rfl
theorem NL_set (T:LB64)(x:Nat)(v:B64):(NL T).set x (N v)=NL (T.set x v):=by
 unfold NL;rw[List.map_set]
def bitT (T:LB64)(x y:Nat):Bool:=(T.getD x 0#64).getLsbD y
def orB (T:LB64)(x k:Nat):LB64:=T.set x (T.getD x 0#64|||pw2 k)
theorem z1p (T:LB64)(x k:Nat):(orB T x k).length=T.length:=List.length_set ..
theorem bt_or (T:LB64){x k:Nat}(hx:x<T.length)(x':Nat){y:Nat}(hy:y<64):bitT (orB T x k) x' y=(bitT T x' y||(decide (x'=x)&&decide (y=k))):=by
 unfold bitT orB
 rw[List.getD_eq_getElem?_getD,List.getElem?_set]
 by_cases h:x=x'
 ·subst h
  rw[if_pos rfl,if_pos hx,Option.getD_some,BitVec.getLsbD_or,pw2_bit,dt hy,dt rfl]
 ·rw[if_neg h,df (fun e=>h e.symm),Bool.false_and,Bool.or_false,←List.getD_eq_getElem?_getD]
def orII (T:LB64)(i k:Nat):LB64:=orB (orB T i k) k i
def rowK (cl:Nat→Nat→Bool)(i:Nat):Nat→LB64→LB64
 |0,T=>T
 |k+1,T=>bif cl i k then orII (rowK cl i k T) i k else rowK cl i k T
def tabI (cl:Nat→Nat→Bool)(m:Nat):Nat→LB64
 |0=>List.replicate m 0#64
 |i+1=>rowK cl i i (tabI cl m i)
theorem l3d (T:LB64)(i k:Nat):(orII T i k).length=T.length:=by unfold orII;rw[z1p,z1p]
theorem s0w (cl:Nat→Nat→Bool)(i:Nat)(T:LB64): ∀k,(rowK cl i k T).length=T.length
 |0=>rfl
 |k+1=>by
  unfold rowK
  cases cl i k with
  |true=>rw[cond_true,l3d];exact s0w cl i T k
  |false=>exact s0w cl i T k
theorem o0n (cl:Nat→Nat→Bool)(m:Nat): ∀i,(tabI cl m i).length=m
 |0=>List.length_replicate ..
 |i+1=>by unfold tabI;rw[s0w];exact o0n cl m i
theorem bt_row (cl:Nat→Nat→Bool)(i:Nat)(T:LB64)(hi:i<T.length)(x:Nat){y:Nat}(hy:y<64): ∀k,k≤i→bitT (rowK cl i k T) x y=(bitT T x y||((decide (x=i)&&(decide (y<k)&&cl i y))||(decide (y=i)&&(decide (x<k)&&cl i x))))
 |0,_=>by
  show bitT T x y=_
  rw[df (show¬y<0 by omega),df (show¬x<0 by omega)];simp
 |k+1,hk=>by
  have ih:=bt_row cl i T hi x hy k (by omega)
  have hl:=s0w cl i T k
  unfold rowK
  have e:bitT (bif cl i k then orII (rowK cl i k T) i k else rowK cl i k T) x y=(bitT (rowK cl i k T) x y||(cl i k&&((decide (x=i)&&decide (y=k))||(decide (x=k)&&decide (y=i))))):=by
   cases hc:cl i k with
   |false=>simp
   |true=>
    rw[cond_true]
    unfold orII
    rw[bt_or _ (by rw[z1p,hl];omega) x hy,bt_or _ (by rw[hl];exact hi) x hy]
    simp[Bool.or_assoc]
  rw[e,ih]
  by_cases h1:x=i
  ·by_cases h2:y=k
   ·subst h1 h2
    rw[dt rfl,dt rfl,df (show¬y<y by omega),dt (show y<y+1 by omega),df (show¬y=x by omega),df (show¬x=y by omega)]
    simp
   ·by_cases h3:x=k
    ·omega
    ·subst h1
     rw[dt rfl,df h2,df h3,show decide (y<k+1)=decide (y<k)from decide_eq_decide.2 (by omega),df (show¬x<k by omega),df (show¬x<k+1 by omega)]
     simp
  ·by_cases h3:x=k
   ·by_cases h4:y=i
    ·subst h3 h4
     rw[df h1,dt rfl,dt rfl,df (show¬x<x by omega),dt (show x<x+1 by omega)]
     simp
    ·subst h3
     rw[df h1,df h4];simp
   ·rw[df h1,df h3,show decide (x<k+1)=decide (x<k)from decide_eq_decide.2 (by omega)];simp
theorem bt_tab (cl:Nat→Nat→Bool)(m:Nat)(x:Nat){y:Nat}(hy:y<64): ∀i,i≤m→bitT (tabI cl m i) x y=(decide (x<i)&&decide (y<i)&&((decide (y<x)&&cl x y)||(decide (x<y)&&cl y x)))
 |0,_=>by
  rw[df (show¬x<0 by omega)]
  show bitT (List.replicate m 0#64) x y=_
  unfold bitT
  have:(List.replicate m 0#64).getD x 0#64=0#64:=by
   rw[List.getD_eq_getElem?_getD,List.getElem?_replicate];split<;>rfl
  rw[this];simp
 |i+1,hi=>by
  have ih:=bt_tab cl m x hy i (by omega)
  unfold tabI
  rw[bt_row cl i _ (by rw[o0n];omega) x hy i (Nat.le_refl _),ih]
  by_cases h1:x=i
  ·subst h1
   rw[df (show¬x<x by omega),dt (show x<x+1 by omega),dt rfl]
   by_cases h2:y<x
   ·rw[dt h2,df (show¬y=x by omega),dt (show y<x+1 by omega),df (show¬x<y by omega)];simp
   ·by_cases h3:y=x
    ·subst h3;rw[df h2,dt rfl];simp
    ·rw[df h2,df h3,df (show¬y<x+1 by omega)];simp
  ·by_cases h2:y=i
   ·subst h2
    rw[df h1,dt rfl,df (show¬y<y by omega),dt (show y<y+1 by omega),show decide (x<y+1)=decide (x<y)from decide_eq_decide.2 (by omega)]
    by_cases h3:x<y
    ·rw[dt h3,df (show¬y<x by omega)];simp
    ·rw[df h3];simp
   ·rw[df h1,df h2,show decide (x<i+1)=decide (x<i)from decide_eq_decide.2 (by omega),show decide (y<i+1)=decide (y<i)from decide_eq_decide.2 (by omega)];simp
theorem y0r {l:LN}{p:Int}{z:Bool}(h:sdF l p=some z): ∃d∈l,f1 d=p∧g2 d=z:=by
 unfold sdF at h
 rw[Option.map_eq_some_iff]at h
 obtain⟨d,h1,h2⟩:=h
 have hh:(f1 d==p)=true:=List.find?_some (p:=fun d=>f1 d==p) h1
 exact⟨d,List.mem_of_find?_eq_some h1,qeT hh,h2⟩
theorem f1m (l:LN):(nd (sds l)).Nodup:=by
 unfold sds
 have: ∀(l acc:LN),(nd acc).Nodup→(nd (l.foldl j0o acc)).Nodup:=by
  intro l
  induction l with
  |nil=>intro acc h;exact h
  |cons d l ih=>
   intro acc h
   rw[List.foldl_cons]
   refine ih _ ?_
   unfold j0o
   cases hc:sdF acc (f1 d)with
   |some _=>exact h
   |none=>
    have hm:f1 d∉nd acc:=fun hm=>by
     obtain⟨e,he,h2⟩:=List.mem_map.1 hm
     have:=p1e h he
     rw[h2,hc]at this;cases this
    have e:nd (apN acc d)=nd acc++[f1 d]:=by
     show List.map f1 (acc++[d])=_
     rw[List.map_append];rfl
    show(nd (apN acc d)).Nodup
    rw[e,List.nodup_append]
    refine⟨h,List.nodup_cons.2 ⟨by simp,List.nodup_nil⟩,fun x hx y hy e=> ?_⟩
    rw[List.mem_singleton.1 hy]at e
    exact hm (e▸hx)
 exact this l [] List.nodup_nil
theorem h3w (a b:LI):shF a b=shF b a:=by
 unfold shF
 rw[Bool.eq_iff_iff,List.any_eq_true,List.any_eq_true]
 constructor
 ·rintro⟨x,h1,h2⟩;exact⟨x,of_decide_eq_true h2,dt h1⟩
 ·rintro⟨x,h1,h2⟩;exact⟨x,of_decide_eq_true h2,dt h1⟩
theorem unF_le {a b:LN}(ha:(nd a).Nodup)(h:unF a b=true):unF b a=true:=by
 unfold unF at*
 rw[List.any_eq_true]at*
 obtain⟨d,h1,h2⟩:=h
 unfold unAt at h2
 cases hs:sdF b (f1 d)with
 |none=>rw[hs]at h2;cases h2
 |some z=>
  rw[hs]at h2
  have h2:(z !=g2 d)=true:=h2
  obtain⟨e,e1,e2,e3⟩:=y0r hs
  refine⟨e,e1,?_⟩
  unfold unAt
  rw[e2,p1e ha h1]
  show(g2 d !=g2 e)=true
  rw[e3]
  revert h2
  cases z<;>cases g2 d<;>simp
theorem f3w {a b:LN}(ha:(nd a).Nodup)(hb:(nd b).Nodup):unF a b=unF b a:=by
 rw[Bool.eq_iff_iff];exact⟨unF_le ha,unF_le hb⟩
theorem l3x (b:LP)(x y:Rt):cfE b x y=cfE b y x:=by
 unfold cfE
 rw[h3w,f3w (f1m _) (f1m _),decide_eq_decide.2 (show eN x=eN y↔eN y=eN x from⟨Eq.symm,Eq.symm⟩),Bool.or_comm (wayF b (sds (ndsE x)) (trk y) (sds (ndsE y)))]
theorem k3k (b:LP)(r:LR)(i j:Int):clF b r i j=clF b r j i:=by
 unfold clF
 rw[l3x,decide_eq_decide.2 (show i=j↔j=i from⟨Eq.symm,Eq.symm⟩)]
theorem k3y (b:LP)(r:LR)(i:Int):clF b r i i=false:=by unfold clF;rw[dt rfl];rfl
def clN (b:LP)(r:LR)(i k:Nat):Bool:=clF b r (i:Int) (k:Int)
def tabB (b:LP)(r:LR):LB64:=tabI (clN b r) r.length r.length
theorem tab_bit (b:LP)(r:LR){x y:Nat}(hx:x<r.length)(hr:r.length≤64)(hy:y<64):bitT (tabB b r) x y=(decide (y<r.length)&&clN b r x y):=by
 unfold tabB
 rw[bt_tab _ _ x hy _ (Nat.le_refl _),dt hx,Bool.true_and]
 by_cases h:y<x
 ·rw[dt h,df (show¬x<y by omega)];simp
 ·by_cases h2:x<y
  ·rw[df h,dt h2]
   have:clN b r y x=clN b r x y:=k3k b r _ _
   rw[this];simp
  ·obtain rfl:x=y:=by omega
   have:clN b r x x=false:=k3y b r _
   rw[df h,this];simp
theorem NL_orB (T:LB64)(x k:Nat):(NL T).set x (ior IntKind.u64 ((NL T).getD x 0) (ishl IntKind.u64 (1:Int) (k:Int)))=NL (orB T x k):=by
 rw[NL_at,ishlB,e0z,NL_set];rfl
theorem lp17_9 (a:LS)(b c:LP)(r:LR)(i:Nat)(T:LB64)(hm:mayL a b c r=true)(hi:i<r.length)(hT:T.length=r.length):
  u0g [.k 0,.n (i:Int),.n (r.length:Int),.n (i:Int),.n (i:Int),.n (0:Int),.l TS a,.l TPt b,.l TPt c,.l TRt r,.l TU (NL T)]=some (0,[.n (i:Int),.n (r.length:Int),.n (i:Int),.l TS a,.l TPt b,.l TPt c,.l TRt r,.l TU (NL (rowK (clN b r) i i T))]):=by
 have lr:=(e1w hm).2.1
 rw[x0x]
 have ln: ∀k,(NL (rowK (clN b r) i k T)).length=r.length:=fun k=>by rw[g2j,s0w,hT]
 refine a0j (st:=h0a) (fun k=>[.k 0,.n (i:Int),.n (r.length:Int),.n (i:Int),.n (i:Int),.n (k:Int),.l TS a,.l TPt b,.l TPt c,.l TRt r,.l TU (NL (rowK (clN b r) i k T))]) i (0,[.n (i:Int),.n (r.length:Int),.n (i:Int),.l TS a,.l TPt b,.l TPt c,.l TRt r,.l TU (NL (rowK (clN b r) i i T))]) (fun k hk=> ?_) ?_ FU (by unfold FU;omega)
 ·have h0:=ln k
  refine q0p _ _ _ _ _ _ _ _ _ _ (by omega) (by omega) (show(i:Int)≤((NL (rowK (clN b r) i k T)).length:Int) by omega) rfl _ ?_
  unfold r0k
  refine a0a (dt (show(k:Int)<(i:Int) by omega)) ?_
  have e:=oCl a b c r (i:Int) (k:Int) hm ⟨by omega,by omega⟩ ⟨by omega,by omega⟩
  dsimp only
  erw[e]
  refine a0a rfl ?_
  show _=some (Step.go [.k 0,.n (i:Int),.n (r.length:Int),.n (i:Int),.n (i:Int),.n ((k+1:Nat):Int),.l TS a,.l TPt b,.l TPt c,.l TRt r,.l TU (NL (bif clN b r i k then orII (rowK (clN b r) i k T) i k else rowK (clN b r) i k T))])
  cases hc:clN b r i k with
  |true=>
   refine a0a hc (a0a (j3u (by omega) (show(i:Int)<((NL (rowK (clN b r) i k T)).length:Int) by omega)) (a0a (j3u (by omega) ?_) ?_))
   ·show(k:Int)<(((NL (rowK (clN b r) i k T)).set i (ior IntKind.u64 ((NL (rowK (clN b r) i k T)).getD i 0) (ishl IntKind.u64 (1:Int) (k:Int)))).length:Int)
    rw[List.length_set];omega
   ·rw[w1n k (by omega)]
    have g1:=NL_orB (rowK (clN b r) i k T) i k
    have g2:=NL_orB (orB (rowK (clN b r) i k T) i k) k i
    rw[←g1]at g2
    exact congrArg (fun z:List Int=>some (Step.go [.k 0,.n (i:Int),.n (r.length:Int),.n (i:Int),.n (i:Int),.n ((k+1:Nat):Int),.l TS a,.l TPt b,.l TPt c,.l TRt r,.l TU z])) g2
  |false=>
   refine a0d hc ?_
   rw[w1n k (by omega)];rfl
 ·have h0:=ln i
  refine q0p _ _ _ _ _ _ _ _ _ _ (by omega) (by omega) (show(i:Int)≤((NL (rowK (clN b r) i i T)).length:Int) by omega) rfl _ ?_
  unfold r0k
  exact a0d (df (show¬(i:Int)<(i:Int) by omega)) rfl
theorem lp17_6 (a:LS)(b c:LP)(r:LR)(hm:mayL a b c r=true):t0r [.k 0,.n (r.length:Int),.n (0:Int),.l TS a,.l TPt b,.l TPt c,.l TRt r,.l TU (NL (List.replicate r.length 0#64))]=some (0,[.l TU (NL (tabB b r))]):=by
 have lr:=(e1w hm).2.1
 rw[y0h]
 refine a0j (st:=h0h) (fun i=>[.k 0,.n (r.length:Int),.n (i:Int),.l TS a,.l TPt b,.l TPt c,.l TRt r,.l TU (NL (tabI (clN b r) r.length i))]) r.length (0,[.l TU (NL (tabB b r))]) (fun i hi=> ?_) ?_ FU (by unfold FU;omega)
 ·have h0:(NL (tabI (clN b r) r.length i)).length=r.length:=by rw[g2j,o0n]
  refine q0o _ _ _ _ _ _ _ (by omega) rfl (show(r.length:Int)=((NL (tabI (clN b r) r.length i)).length:Int) by omega) _ ?_
  unfold r0c
  refine a0a (dt (show(i:Int)<(r.length:Int) by omega)) ?_
  have e:=lp17_9 a b c r i (tabI (clN b r) r.length i) hm hi (o0n ..)
  dsimp only
  erw[e]
  refine a0a rfl ?_
  show some (Step.go [.k 0,.n (r.length:Int),.n (IntKind.wrap .i64 ((i:Int)+1)),.l TS a,.l TPt b,.l TPt c,.l TRt r,.l TU (NL (tabI (clN b r) r.length (i+1)))])=_
  rw[w1n i (by omega)]
 ·have h0:(NL (tabI (clN b r) r.length r.length)).length=r.length:=by rw[g2j,o0n]
  refine q0o _ _ _ _ _ _ _ (by omega) rfl (show(r.length:Int)=((NL (tabI (clN b r) r.length r.length)).length:Int) by omega) _ ?_
  unfold r0c
  exact a0d (df (show¬(r.length:Int)<(r.length:Int) by omega)) rfl
theorem o17c (a:LS)(b c:LP)(r:LR)(hs:okS a b c r):c1r [.l TS a,.l TPt b,.l TPt c,.l TRt r]=some (if(ckA a b c r).1=0 then(0,[.n (0:Int),.l TU (NL (tabB b r))])else(1,[.n (ckA a b c r).1])):=by
 rw[p1s]
 refine a2t _ _ _ _ _ ?_
 unfold e2d
 dsimp only
 erw[o18 a b c r hs]
 refine a0a rfl ?_
 by_cases hc:(ckA a b c r).1=0
 ·rw[if_pos hc]
  refine a0d (nbf hc) ?_
  obtain⟨hm,_⟩:=(x2k a b c r).1 hc
  have lr:=(e1w hm).2.1
  refine a0a ?_ ?_
  ·rw[dt (show(r.length:Int)≤(r.length:Int) by omega),dt (show(r.length:Int)*8≤281474976710656 by omega)];rfl
  ·have e:=lp17_6 a b c r hm
   have e0:NL (List.replicate r.length 0#64)=repC (α:=Ty.den TU) (Int.toNat (r.length:Int)) (0:Int):=by
    have g0:NL (List.replicate r.length 0#64)=List.replicate r.length (0:Int):=by unfold NL;rw[List.map_replicate];rfl
    exact g0.trans (d3b (α:=Int) r.length 0).symm
   rw[e0]at e
   erw[e]
   exact a0a rfl rfl
 ·rw[if_neg hc]
  exact a0a (nb hc) rfl
theorem sdF_app (l:LN)(d:Ty.den TNd)(p:Int):sdF (apN l d) p=(sdF l p).or (bif f1 d==p then some (g2 d)else none):=by
 unfold sdF
 show Option.map g2 (List.find? (fun d=>f1 d==p) (l++[d]))=_
 rw[List.find?_append]
 cases List.find? (fun d=>f1 d==p) l with
 |some e=>rfl
 |none=>
  cases h:(f1 d==p)with
  |true=>simp[List.find?,h]
  |false=>simp[List.find?,h]
theorem i2t (p:Int): ∀(l acc:LN),sdF (l.foldl j0o acc) p=(sdF acc p).or (sdF l p)
 |[],acc=>by show sdF acc p=(sdF acc p).or none;exact(Option.or_none).symm
 |d::l,acc=>by
  rw[List.foldl_cons,i2t p l]
  have e:sdF (d::l) p=(bif f1 d==p then some (g2 d)else none).or (sdF l p):=by
   unfold sdF
   rw[List.find?_cons]
   cases h:(f1 d==p)<;>simp
  rw[e,←Option.or_assoc]
  congr 1
  unfold j0o
  cases h:sdF acc (f1 d)with
  |none=>exact sdF_app acc d p
  |some z=>
   show sdF acc p=_
   cases hp:(f1 d==p)with
   |true=>
    have:f1 d=p:=qeT hp
    rw[←this,h];rfl
   |false=>simp
theorem w0q (l:LN)(p:Int):sdF (sds l) p=sdF l p:=by
 unfold sds
 rw[i2t];rfl
theorem x2m {l:LN}{d:Ty.den TNd}(h:d∈sds l):sdF l (f1 d)=some (g2 d):=by
 rw[←w0q];exact p1e (f1m l) h
theorem q2c {l:LN}{p:Int}{z:Bool}(h:sdF l p=some z): ∃d∈sds l,f1 d=p∧g2 d=z:=by
 rw[←w0q]at h;exact y0r h
theorem unF_iff (a b:LN):unF (sds a) (sds b)=true↔ ∃p z z',sdF a p=some z∧sdF b p=some z'∧z≠z':=by
 unfold unF
 rw[List.any_eq_true]
 constructor
 ·rintro⟨d,h1,h2⟩
  unfold unAt at h2
  rw[w0q]at h2
  cases hs:sdF b (f1 d)with
  |none=>rw[hs]at h2;cases h2
  |some z=>
   rw[hs]at h2
   refine⟨f1 d,g2 d,z,x2m h1,hs,?_⟩
   have h2:(z !=g2 d)=true:=h2
   rintro e
   rw[e]at h2;simp at h2
 ·rintro⟨p,z,z',h1,h2,h3⟩
  obtain⟨d,d1,d2,d3⟩:=q2c h1
  refine⟨d,d1,?_⟩
  unfold unAt
  rw[w0q,d2,h2,d3]
  show(z' !=z)=true
  revert h3
  cases z<;>cases z'<;>simp
theorem i2p (pts:LP)(a:LN)(tr:LI)(b:LN):wayF pts (sds a) tr (sds b)=true↔ ∃p z,sdF a p=some z∧ptS pts p∈tr∧sdF b p≠some z:=by
 unfold wayF
 rw[List.any_eq_true]
 constructor
 ·rintro⟨d,h1,h2⟩
  unfold k1f at h2
  rw[w0q,Bool.and_eq_true]at h2
  refine⟨f1 d,g2 d,x2m h1,of_decide_eq_true h2.1,fun e=> ?_⟩
  have h3:=h2.2
  rw[e]at h3
  have h3:(g2 d !=g2 d)=true:=h3
  simp at h3
 ·rintro⟨p,z,h1,h2,h3⟩
  obtain⟨d,d1,d2,d3⟩:=q2c h1
  refine⟨d,d1,?_⟩
  unfold k1f
  rw[w0q,d2,dt h2,Bool.true_and]
  cases hs:sdF b p with
  |none=>rfl
  |some z'=>
   show(z' !=g2 d)=true
   rw[d3]
   rw[hs]at h3
   revert h3
   cases z<;>cases z'<;>simp
def nk (l:LN)(p:Int):Int:=match sdF l p with
 |none=>0
 |some false=>1
 |some true=>2
def hitR (b:LP)(A B:LN)(tx ty:LI)(p:Int):Bool:=(nk A p !=nk B p)&&(bif decide (nk A p>0)then(bif decide (nk B p>0)then true else decide (ptS b p∈ty))else(bif decide (nk B p>0)then decide (ptS b p∈tx)else false))
theorem a1q (b:LP)(A B:LN)(tx ty:LI)(p:Int):hitR b A B tx ty p=true↔(∃z z',sdF A p=some z∧sdF B p=some z'∧z≠z')∨(∃z,sdF A p=some z∧ptS b p∈ty∧sdF B p=none)∨(∃z,sdF B p=some z∧ptS b p∈tx∧sdF A p=none):=by
 unfold hitR nk
 cases hA:sdF A p with
 |none=>
  cases hB:sdF B p with
  |none=>simp
  |some z'=>cases z'<;>simp
 |some z=>
  cases hB:sdF B p with
  |none=>cases z<;>simp
  |some z'=>cases z<;>cases z'<;>simp
theorem hit_all (b:LP)(A B:LN)(tx ty:LI)(hA:f0p b A)(hB:f0p b B):(List.range' 0 b.length).any (fun i=>hitR b A B tx ty (i:Int))=(unF (sds A) (sds B)||(wayF b (sds A) ty (sds B)||wayF b (sds B) tx (sds A))):=by
 rw[Bool.eq_iff_iff,List.any_eq_true,Bool.or_eq_true,Bool.or_eq_true,unF_iff,i2p,i2p]
 constructor
 ·rintro⟨i,_,h⟩
  rcases(a1q ..).1 h with⟨z,z',h1,h2,h3⟩|⟨z,h1,h2,h3⟩|⟨z,h1,h2,h3⟩
  ·exact Or.inl ⟨_,z,z',h1,h2,h3⟩
  ·exact Or.inr (Or.inl ⟨_,z,h1,h2,by rw[h3];simp⟩)
  ·exact Or.inr (Or.inr ⟨_,z,h1,h2,by rw[h3];simp⟩)
 ·have key: ∀p,(∃z,sdF A p=some z)∨(∃z,sdF B p=some z)→ ∃i,i∈List.range' 0 b.length∧(i:Int)=p:=by
   intro p h
   have hp:0≤p∧p<(b.length:Int):=by
    rcases h with⟨z,h⟩|⟨z,h⟩
    ·obtain⟨d,d1,d2,_⟩:=y0r h
     have:=hA d d1;rw[d2]at this;exact this
    ·obtain⟨d,d1,d2,_⟩:=y0r h
     have:=hB d d1;rw[d2]at this;exact this
   exact⟨p.toNat,List.mem_range'_1.2 (by omega),by omega⟩
  rintro(⟨p,z,z',h1,h2,h3⟩|⟨p,z,h1,h2,h3⟩|⟨p,z,h1,h2,h3⟩)
  ·obtain⟨i,hi,rfl⟩:=key p (Or.inl ⟨z,h1⟩)
   exact⟨i,hi,(a1q ..).2 (Or.inl ⟨z,z',h1,h2,h3⟩)⟩
  ·obtain⟨i,hi,rfl⟩:=key p (Or.inl ⟨z,h1⟩)
   refine⟨i,hi,(a1q ..).2 ?_⟩
   cases hs:sdF B (i:Int)with
   |none=>exact Or.inr (Or.inl ⟨z,h1,h2,rfl⟩)
   |some z'=>rw[hs]at h3;exact Or.inl ⟨z,z',h1,rfl,fun e=>h3 (by rw[e])⟩
  ·obtain⟨i,hi,rfl⟩:=key p (Or.inr ⟨z,h1⟩)
   refine⟨i,hi,(a1q ..).2 ?_⟩
   cases hs:sdF A (i:Int)with
   |none=>exact Or.inr (Or.inr ⟨z,h1,h2,rfl⟩)
   |some z'=>rw[hs]at h3;exact Or.inl ⟨z',z,rfl,h1,fun e=>h3 (by rw[e])⟩
theorem o77 (l:LI)(p:Int)(hl:l.length≤100000):e1q [.l TI l,.n p]=some (0,[.b (decide (p∈l))]):=by
 have e:v0b [.k 0,.l TI l,.n p,.n (0:Int)]=some (bif (List.range' 0 l.length).any (fun i=>l.getD i 0==p)then(1,[.b true])else(0,[])):=by
  rw[w0u]
  refine b0q (st:=g0s) (fun i=>[.k 0,.l TI l,.n p,.n (i:Int)]) l.length (fun i=>l.getD i 0==p) (1,[.b true]) (0,[]) (fun i hi h=> ?_) (fun i hi h=> ?_) ?_ FU (by unfold FU;omega)
  ·refine i0l _ _ _ (by omega) _ ?_
   unfold k0m
   refine a0a (dt (show(i:Int)<(l.length:Int) by omega)) (a0d h ?_)
   rw[w1n i (by omega)];rfl
  ·refine i0l _ _ _ (by omega) _ ?_
   unfold k0m
   exact a0a (dt (show(i:Int)<(l.length:Int) by omega)) (a0a h rfl)
  ·refine i0l _ _ _ (by omega) _ ?_
   unfold k0m
   exact a0d (df (show¬(l.length:Int)<(l.length:Int) by omega)) rfl
 have e0:(List.range' 0 l.length).any (fun i=>l.getD i 0==p)=decide (p∈l):=by rw[←c1j,←d0x l 0 (fun y=>y==p)]
 rw[e0]at e
 rw[p1g]
 refine v1k _ _ _ ?_
 unfold e2a
 dsimp only
 erw[e]
 cases decide (p∈l)
 ·exact a0a rfl rfl
 ·exact a0d rfl (a0a rfl rfl)
theorem o78 (s:ByteArray)(n:Int)(p:List (Ty.den TI))(q:LN)(o:List (Ty.den TI))(f:LN)(x:Int)(h1:p.length≤200)(h2:q.length≤200)(h3:o.length≤200)(h4:f.length≤200):g1z [.s s,.n n,.l TI p,.l TNd q,.l TI o,.l TNd f,.n x]=some (0,[.n (nk (List.append q f) x)]):=by
 have hl:(List.append q f).length≤100000:=by show(q++f).length≤100000;rw[List.length_append];omega
 revert hl
 have e0:=o12 s n p q o f h1 h2 h3 h4
 have e0:y0m [.s s,.n n,.l TI p,.l TNd q,.l TI o,.l TNd f]=some (0,[.l TNd (List.append q f)]):=e0
 revert e0
 generalize List.append q f=l
 intro e0 hl
 have e:r0z [.k 0,.n x,.n (0:Int),.l TNd l]=some (match sdF l x with|some z=>(1,[.n (bif z then 2 else 1)])|none=>(0,[])):=by
  have hh:=g2q l (Ty.dflt TNd) (fun d=>f1 d==x)
  unfold sdF
  rw[hh,x0k]
  refine(j0p (st:=g0t) (fun i=>[.k 0,.n x,.n (i:Int),.l TNd l]) l.length (fun i=>f1 (l.getD i (Ty.dflt TNd))==x) (fun k=>(1,[.n (bif g2 (l.getD k (Ty.dflt TNd))then 2 else 1)])) (0,[]) (fun i hi h=> ?_) (fun i hi h=> ?_) ?_ FU (by unfold FU;omega)).trans ?_
  rotate_right
  ·cases b0y (fun i=>f1 (l.getD i (Ty.dflt TNd))==x) l.length<;>rfl
  ·refine i0i _ _ _ (by omega) _ ?_
   unfold l0v
   refine a0a (dt (show(i:Int)<(l.length:Int) by omega)) (a0d h ?_)
   rw[w1n i (by omega)];rfl
  ·refine i0i _ _ _ (by omega) _ ?_
   unfold l0v
   refine a0a (dt (show(i:Int)<(l.length:Int) by omega)) (a0a h ?_)
   cases hg:g2 (l.getD i (Ty.dflt TNd))with
   |true=>exact a0a hg rfl
   |false=>exact a0d hg rfl
  ·refine i0i _ _ _ (by omega) _ ?_
   unfold l0v
   exact a0d (df (show¬(l.length:Int)<(l.length:Int) by omega)) rfl
 rw[o1d]
 refine v1g _ _ _ _ _ _ _ _ ?_
 unfold c2l
 dsimp only
 erw[e0]
 refine a0a rfl ?_
 erw[e]
 unfold nk
 cases sdF l x with
 |none=>exact a0a rfl rfl
 |some z=>cases z<;>exact a0d rfl (a0a rfl rfl)
theorem lp46_5 (a:LS)(b c:LP)(r:LR)(s:ByteArray)(n:Int)(p:List (Ty.den TI))(q:LN)(o:List (Ty.den TI))(f:LN)(s':ByteArray)(n':Int)(p':List (Ty.den TI))(q':LN)(o':List (Ty.den TI))(f':LN)(t u:LI)(ht:t.length≤100000)(hu:u.length≤100000):
  t0t [.k 0,.n (0:Int),.l TS a,.l TPt b,.l TPt c,.l TRt r,.s s,.n n,.l TI p,.l TNd q,.l TI o,.l TNd f,.s s',.n n',.l TI p',.l TNd q',.l TI o',.l TNd f',.l TI t,.l TI u]=some (bif shF t u then(1,[.b true])else(0,[.l TS a,.l TPt b,.l TPt c,.l TRt r,.s s,.n n,.l TI p,.l TNd q,.l TI o,.l TNd f,.s s',.n n',.l TI p',.l TNd q',.l TI o',.l TNd f',.l TI t,.l TI u])):=by
 have e0:(List.range' 0 t.length).any (fun i=>decide (t.getD i 0∈u))=shF t u:=d0x t 0 (fun y=>decide (y∈u))
 rw[x0m,←e0]
 refine b0q (st:=g0z) (fun i=>[.k 0,.n (i:Int),.l TS a,.l TPt b,.l TPt c,.l TRt r,.s s,.n n,.l TI p,.l TNd q,.l TI o,.l TNd f,.s s',.n n',.l TI p',.l TNd q',.l TI o',.l TNd f',.l TI t,.l TI u]) t.length (fun i=>decide (t.getD i 0∈u)) (1,[.b true]) (0,[.l TS a,.l TPt b,.l TPt c,.l TRt r,.s s,.n n,.l TI p,.l TNd q,.l TI o,.l TNd f,.s s',.n n',.l TI p',.l TNd q',.l TI o',.l TNd f',.l TI t,.l TI u]) (fun i hi h=> ?_) (fun i hi h=> ?_) ?_ FU (by unfold FU;omega)
 ·refine i0w _ _ _ _ _ _ _ _ _ _ _ _ _ _ _ _ _ _ _ (by omega) _ ?_
  unfold l0w
  refine a0a (dt (show(i:Int)<(t.length:Int) by omega)) ?_
  have e1:=o77 u (t.getD i 0) hu
  dsimp only
  erw[e1]
  refine a0a rfl (a0d h ?_)
  rw[w1n i (by omega)];rfl
 ·refine i0w _ _ _ _ _ _ _ _ _ _ _ _ _ _ _ _ _ _ _ (by omega) _ ?_
  unfold l0w
  refine a0a (dt (show(i:Int)<(t.length:Int) by omega)) ?_
  have e1:=o77 u (t.getD i 0) hu
  dsimp only
  erw[e1]
  exact a0a rfl (a0a h rfl)
 ·refine i0w _ _ _ _ _ _ _ _ _ _ _ _ _ _ _ _ _ _ _ (by omega) _ ?_
  unfold l0w
  exact a0d (df (show¬(t.length:Int)<(t.length:Int) by omega)) rfl
theorem lp46_10 (a:LS)(b c:LP)(r:LR)(s:ByteArray)(n:Int)(p:List (Ty.den TI))(q:LN)(o:List (Ty.den TI))(f:LN)(s':ByteArray)(n':Int)(p':List (Ty.den TI))(q':LN)(o':List (Ty.den TI))(f':LN)(t u:LI)(h1:p.length≤200)(h2:q.length≤200)(h3:o.length≤200)(h4:f.length≤200)(k1:p'.length≤200)(k2:q'.length≤200)(k3:o'.length≤200)(k4:f'.length≤200)(hb:b.length≤100000)(ht:t.length≤100000)(hu:u.length≤100000):
  p0h [.k 0,.n (0:Int),.l TS a,.l TPt b,.l TPt c,.l TRt r,.s s,.n n,.l TI p,.l TNd q,.l TI o,.l TNd f,.s s',.n n',.l TI p',.l TNd q',.l TI o',.l TNd f',.l TI t,.l TI u]=some (bif (List.range' 0 b.length).any (fun i=>hitR b (List.append q f) (List.append q' f') t u (i:Int))then(1,[.b true])else(0,[])):=by
 have key: ∀i:Nat,i<b.length→(e0e [.k 0,.n (i:Int),.l TS a,.l TPt b,.l TPt c,.l TRt r,.s s,.n n,.l TI p,.l TNd q,.l TI o,.l TNd f,.s s',.n n',.l TI p',.l TNd q',.l TI o',.l TNd f',.l TI t,.l TI u]).sel=some (bif hitR b (List.append q f) (List.append q' f') t u (i:Int)then .stop 1 [.b true]else .go [.k 0,.n ((i+1:Nat):Int),.l TS a,.l TPt b,.l TPt c,.l TRt r,.s s,.n n,.l TI p,.l TNd q,.l TI o,.l TNd f,.s s',.n n',.l TI p',.l TNd q',.l TI o',.l TNd f',.l TI t,.l TI u]):=by
  intro i hi
  refine n0p _ _ _ _ _ _ _ _ _ _ _ _ _ _ _ _ _ _ _ (by omega) _ ?_
  unfold n0g
  refine a0a (dt (show(i:Int)<(b.length:Int) by omega)) ?_
  have e1:=o78 s n p q o f (i:Int) h1 h2 h3 h4
  have e2:=o78 s' n' p' q' o' f' (i:Int) k1 k2 k3 k4
  have e3:=o77 u (ptS b (i:Int)) hu
  have e4:=o77 t (ptS b (i:Int)) ht
  unfold hitR
  revert e1 e2
  generalize nk (List.append q f) (i:Int)=x
  generalize nk (List.append q' f') (i:Int)=y
  intro e1 e2
  dsimp only
  erw[e1];refine a0a rfl ?_
  erw[e2];refine a0a rfl ?_
  cases hxy:(x !=y)with
  |false=>refine a0d hxy ?_;rw[w1n i (by omega)];rfl
  |true=>
   refine a0a hxy ?_
   rw[Bool.true_and]
   cases hx:decide (x>0)with
   |true=>
    refine a0a hx ?_
    cases hy:decide (y>0)with
    |true=>exact a0a hy rfl
    |false=>
     refine a0d hy ?_
     erw[e3];refine a0a rfl ?_
     cases hz:decide (ptS b (i:Int)∈u)with
     |true=>exact a0a rfl rfl
     |false=>refine a0d rfl ?_;rw[w1n i (by omega)];rfl
   |false=>
    refine a0d hx ?_
    cases hy:decide (y>0)with
    |true=>
     refine a0a hy ?_
     erw[e4];refine a0a rfl ?_
     cases hz:decide (ptS b (i:Int)∈t)with
     |true=>exact a0a rfl rfl
     |false=>refine a0d rfl ?_;rw[w1n i (by omega)];rfl
    |false=>refine a0d hy ?_;rw[w1n i (by omega)];rfl
 rw[r0t]
 refine b0q (st:=e0e) (fun i=>[.k 0,.n (i:Int),.l TS a,.l TPt b,.l TPt c,.l TRt r,.s s,.n n,.l TI p,.l TNd q,.l TI o,.l TNd f,.s s',.n n',.l TI p',.l TNd q',.l TI o',.l TNd f',.l TI t,.l TI u]) b.length (fun i=>hitR b (List.append q f) (List.append q' f') t u (i:Int)) (1,[.b true]) (0,[]) (fun i hi h=> ?_) (fun i hi h=> ?_) ?_ FU (by unfold FU;omega)
 ·have:=key i hi
  rw[h]at this;exact this
 ·have:=key i hi
  rw[h]at this;exact this
 ·refine n0p _ _ _ _ _ _ _ _ _ _ _ _ _ _ _ _ _ _ _ (by omega) _ ?_
  unfold n0g
  exact a0d (df (show¬(b.length:Int)<(b.length:Int) by omega)) rfl
theorem o46c (a:LS)(b c:LP)(r:LR)(x y:Rt)(h1:(eP x).length≤200)(h2:(eQ x).length≤200)(h3:(eO x).length≤200)(h4:(eF x).length≤200)(k1:(eP y).length≤200)(k2:(eQ y).length≤200)(k3:(eO y).length≤200)(k4:(eF y).length≤200)
  (hb:b.length≤100000) (ha:f0p b (ndsE x)) (hc:f0p b (ndsE y)):
  y0c [.l TS a,.l TPt b,.l TPt c,.l TRt r,.s (eS x),.n (eN x),.l TI (eP x),.l TNd (eQ x),.l TI (eO x),.l TNd (eF x),.s (eS y),.n (eN y),.l TI (eP y),.l TNd (eQ y),.l TI (eO y),.l TNd (eF y)]=some (0,[.b (cfE b x y)]):=by
 have ht:(trk x).length≤100000:=by show(eP x++eO x).length≤_;rw[List.length_append];omega
 have hu:(trk y).length≤100000:=by show(eP y++eO y).length≤_;rw[List.length_append];omega
 have hit:=hit_all b (ndsE x) (ndsE y) (trk x) (trk y) ha hc
 have e1:=o11 (eS x) (eN x) (eP x) (eQ x) (eO x) (eF x) h1 h2 h3 h4
 have e2:=o11 (eS y) (eN y) (eP y) (eQ y) (eO y) (eF y) k1 k2 k3 k4
 have e3:=lp46_5 a b c r (eS x) (eN x) (eP x) (eQ x) (eO x) (eF x) (eS y) (eN y) (eP y) (eQ y) (eO y) (eF y) (trk x) (trk y) ht hu
 have e4:=lp46_10 a b c r (eS x) (eN x) (eP x) (eQ x) (eO x) (eF x) (eS y) (eN y) (eP y) (eQ y) (eO y) (eF y) (trk x) (trk y) h1 h2 h3 h4 k1 k2 k3 k4 hb ht hu
 have hit':(List.range' 0 b.length).any (fun i=>hitR b (List.append (eQ x) (eF x)) (List.append (eQ y) (eF y)) (trk x) (trk y) (i:Int))=_:=hit
 rw[hit']at e4
 unfold cfE
 revert e4
 generalize (unF (sds (ndsE x)) (sds (ndsE y))||(wayF b (sds (ndsE x)) (trk y) (sds (ndsE y))||wayF b (sds (ndsE y)) (trk x) (sds (ndsE x))))=z
 intro e4
 rw[q1n]
 refine y1t _ _ _ _ _ _ _ _ _ _ _ _ _ _ _ _ _ ?_
 unfold b2u
 by_cases hn:eN x=eN y
 ·rw[dt hn]
  exact a0a (bt hn) rfl
 ·rw[df hn]
  refine a0d (bf hn) ?_
  dsimp only
  erw[e1];refine a0a rfl ?_
  erw[e2];refine a0a rfl ?_
  erw[e3]
  cases shF (trk x) (trk y)with
  |true=>exact a0d rfl (a0a rfl rfl)
  |false=>
   refine a0a rfl ?_
   erw[e4]
   cases z with
   |true=>exact a0d rfl (a0a rfl rfl)
   |false=>exact a0a rfl rfl
end Go.Proofs.Ytcbhgaeiokfcdaa.Vx
end
