import Derived.Test.YtfkcodaiiheniaaVxIm
import Derived.Test.YtfkcodaiiheniaaVxLk
import Derived.Test.YtfkcodaiiheniaaVxLaw
import Derived.Test.YtfkcodaiiheniaaZ06m
import Derived.KernelRfl
import Derived.Test.YtfkcodaiiheniaaVxSize
noncomputable section
namespace Go.Proofs.Ytfkcodaiiheniaa.Vx
open Go Go.RowKit
set_option linter.unusedVariables false
set_option linter.unusedSimpArgs false
set_option maxRecDepth 100000
set_option maxHeartbeats 0
@[match_pattern] abbrev TU:Ty:=.int .u64
def h1w (f:OpT):MBox:=mkM 0 [] [(sh 54 [(1,.ptr 0 0),(6,.own 1),(7,.int .i64 0),(23,.int .i64 1),(24,.int .i64 2),(27,.int .i64 3),(28,.int .i64 4)],[laB 5,.arr TU 9])] [] [(.exit 2,sh 54 [(1,.ptr 0 0),(6,.own 1),(7,.int .i64 0),(23,.int .i64 1),(24,.int .i64 2)],[laB 3,.arr TU 7])] f
def g0u (env:LDt):Tree Step:=Lk.stepMC false LK cs_Z 17 9 ls0 (h1w fun _=>none) env
def u0d:OpT:=Classical.choose (opq (a0b g0u FU))
theorem x0o (env:LDt):u0d env=a0b g0u FU env:=Classical.choose_spec (opq (a0b g0u FU)) env
def y1o:MBox:=h1w u0d
theorem g2c:y1o=h1w (a0b g0u FU):=congrArg h1w (funext x0o)
theorem c2n: ∀t s x,(a0h y1o t s).sel=some x→a0k Try.prog 0 (.loop (cAt Try.prog 17 9)) t s x:=by
 rw[g2c]
 exact a0o (st:=g0u) (m:=FU) j1g hmix false (LsOk.none _ _ _) (by kernel_rfl) (fun env y h=>by rw[←a0f];exact h)
def q0g:LDt→Tree Step
 |[.n n0,.n n1,.n n2,.n n3,.n n4,.l TS l5,.l TPt l6,.l TPt l7,.l TRt l8,.l TU l9]=>
  (.node (decide (n4<n3))
   (let r1:OD:=(g2p [.l TS l5,.l TPt l6,.l TPt l7,.l TRt l8,.n n0,.n n4]);
   (.node (isK 0 [HK.b] r1)
    (.node (gb (dOf r1) 0)
    (.node (inR n0 (List.length l9))
     (.node (inR n4 (List.length (List.set l9 (Int.toNat n0) (ior IntKind.u64 (List.getD l9 (Int.toNat n0) (0:Int)) (ishl IntKind.u64 (1:Int) n4)))))
     (.leaf (Step.go [.k 0,.n n0,.n n1,.n n2,.n n3,.n (IntKind.wrap .i64 (n4+(1:Int))),.l TS l5,.l TPt l6,.l TPt l7,.l TRt l8,.l TU (List.set (List.set l9 (Int.toNat n0) (ior IntKind.u64 (List.getD l9 (Int.toNat n0) (0:Int)) (ishl IntKind.u64 (1:Int) n4))) (Int.toNat n4) (ior IntKind.u64 (List.getD (List.set l9 (Int.toNat n0) (ior IntKind.u64 (List.getD l9 (Int.toNat n0) (0:Int)) (ishl IntKind.u64 (1:Int) n4))) (Int.toNat n4) (0:Int)) (ishl IntKind.u64 (1:Int) n0)))]))
     (.bad 12))
     (.bad 12))
    (.leaf (Step.go [.k 0,.n n0,.n n1,.n n2,.n n3,.n (IntKind.wrap .i64 (n4+(1:Int))),.l TS l5,.l TPt l6,.l TPt l7,.l TRt l8,.l TU l9])))
    (.bad 351)))
   (.leaf (Step.stop 0 [.n n0,.n n1,.n n2,.l TS l5,.l TPt l6,.l TPt l7,.l TRt l8,.l TU l9])))
 |_=>.bad 0
theorem p0m (n0:Int)(n1:Int)(n2:Int)(n3:Int)(n4:Int)(l5:DS)(l6:DP)(l7:DP)(l8:DR)(l9:List (Ty.den TU))(g0:0≤n0)(g1:0≤n4)(g2:n0≤(l9.length:Int))(g3:n3=n0):Imp (q0g [.n n0,.n n1,.n n2,.n n3,.n n4,.l TS l5,.l TPt l6,.l TPt l7,.l TRt l8,.l TU l9]) (g0u [.k 0,.n n0,.n n1,.n n2,.n n3,.n n4,.l TS l5,.l TPt l6,.l TPt l7,.l TRt l8,.l TU l9]):=
(.pa [1]
(.nd (fun h0=>
(.nd (fun h1=>
(.pa [1]
(.nd (fun h2=>
(.nd (fun h3=>
(.pt (c:=(!decide (n4<(0:Int)))) (by kernel_rfl) (by kernel_rfl) (by(simp[*];done))
(.pt (by kernel_rfl) (by kernel_rfl) h3
(.pa [1]
(.nd (fun h4=>
(.pt (c:=(!decide (n0<(0:Int)))) (by kernel_rfl) (by kernel_rfl) (by(simp[*];done))
(.pt (by kernel_rfl) (by kernel_rfl) h4
(.pa [1,1]
.lf)))) (fun h4=>
.none)))))) (fun h3=>
.none))) (fun h2=>
(.pa [1]
.lf))))) (fun h1=>
.none))) (fun h0=>
(.pa [1]
.lf))))
def i1o (f:OpT):MBox:=mkM 0 [] [(sh 54 [(1,.ptr 0 0),(6,.own 1),(23,.int .i64 0),(24,.int .i64 1)],[laB 2,.arr TU 6])] [] [(.exit 0,sh 54 [(6,.own 0)],[.arr TU 0])] f
def g0k (env:LDt):Tree Step:=Lk.stepMC false LK cs_Z 17 6 (lsM [(9,y1o)] 0) (i1o fun _=>none) env
def r0c:OpT:=Classical.choose (opq (a0b g0k FU))
theorem x0q (env:LDt):r0c env=a0b g0k FU env:=Classical.choose_spec (opq (a0b g0k FU)) env
def x1m:MBox:=i1o r0c
theorem c2i:x1m=i1o (a0b g0k FU):=congrArg i1o (funext x0q)
theorem n2r:LsOk Try.prog 0 (lsM [(9,y1o)] 0) (cAt Try.prog 17 6):=LsOk.many fun j B hB hk c hc hi=>by
 simp only[b0d]at hB
 split at hB
 ·rename_i e;have:=Nat.eq_of_beq_eq_true e;subst this;cases hB
  have e1:v0m (cAt Try.prog 17 6) 9=[cAt Try.prog 17 9]:=by kernel_rfl
  have e2:=a0d hc hi
  rw[e1]at e2;cases List.mem_singleton.1 e2;exact c2n
 cases hB
theorem c2z: ∀t s x,(a0h x1m t s).sel=some x→a0k Try.prog 0 (.loop (cAt Try.prog 17 6)) t s x:=by
 rw[c2i]
 exact a0o (st:=g0k) (m:=FU) j1g hmix false (n2r) (by kernel_rfl) (fun env y h=>by rw[←a0f];exact h)
def q0k:LDt→Tree Step
 |[.n n0,.n n1,.l TS l2,.l TPt l3,.l TPt l4,.l TRt l5,.l TU l6]=>
  (.node (decide (n1<n0))
   (let r1:OD:=(u0d [.k 0,.n n1,.n n0,.n n1,.n n1,.n (0:Int),.l TS l2,.l TPt l3,.l TPt l4,.l TRt l5,.l TU l6]);
   (.node (isK 0 [HK.n,HK.n,HK.n,HK.l Ty.str,HK.l TPt,HK.l TPt,HK.l TRt,HK.l TU] r1)
    (.leaf (Step.go [.k 0,.n (gn (dOf r1) 1),.n (IntKind.wrap .i64 (gn (dOf r1) 2+(1:Int))),.l TS (gl Ty.str (dOf r1) 3),.l TPt (gl TPt (dOf r1) 4),.l TPt (gl TPt (dOf r1) 5),.l TRt (gl TRt (dOf r1) 6),.l TU (gl TU (dOf r1) 7)]))
    (.bad 351)))
   (.leaf (Step.stop 0 [.l TU l6])))
 |_=>.bad 0
theorem p0l (n0:Int)(n1:Int)(l2:DS)(l3:DP)(l4:DP)(l5:DR)(l6:List (Ty.den TU))(g0:0≤n1)(g1:n0=(l5.length:Int))(g2:n0=(l6.length:Int)):Imp (q0k [.n n0,.n n1,.l TS l2,.l TPt l3,.l TPt l4,.l TRt l5,.l TU l6]) (g0k [.k 0,.n n0,.n n1,.l TS l2,.l TPt l3,.l TPt l4,.l TRt l5,.l TU l6]):=
(.pa [1]
(.nd (fun h0=>
(.nd (fun h1=>
(.pa [1]
.lf)) (fun h1=>
.none))) (fun h0=>
(.pa [1]
.lf))))
theorem n2p:LsOk Try.prog (z0) (lsM [(6,x1m)] (z0)) (a0r Try.prog 17):=LsOk.many fun j B hB hk c hc hi=>by
 simp only[b0d]at hB
 split at hB
 ·rename_i e;have:=Nat.eq_of_beq_eq_true e;subst this;cases hB
  rw[a0y (f:=17) (i:=6) (a0e (by kernel_rfl)) (a0d hc hi)];exact c2z
 cases hB
def kc17 (f:OpT):FBox:=mkF [laV 0] [] [] [(.tup [.own 0,.int .i64 0],[.arr TU 1]),(.tup [.nilsl,.int .i64 0],[])] f
def a2s (env:LDt):TD:=Lk.boxC false LK cs_Z 17 (lsM [(6,x1m)] (z0)) (kc17 fun _=>none) env
def p1p:OpT:=Classical.choose (opq (fun env=>(a2s env).sel))
theorem m1s (env:LDt):p1p env=(a2s env).sel:=Classical.choose_spec (opq (fun env=>(a2s env).sel)) env
def Bc17:FBox:=kc17 p1p
theorem Bc17_ok:a0v Try.prog 17 (a0j Bc17):=a0p (op:=p1p) j1g hmix false (n2p) (fun env x h=>by rw[m1s]at h;rw[←a0i];exact h)
def y1f:LDt→TD
 |[.l TS l0,.l TPt l1,.l TPt l2,.l TRt l3]=>
  (let r1:OD:=(b2y [.l TS l0,.l TPt l1,.l TPt l2,.l TRt l3]);
   (.node (isK 0 [HK.n,HK.n] r1)
   (.node (gn (dOf r1) 0 !=(0:Int))
    (.leaf ((1,[.n (gn (dOf r1) 0)])))
    (.node (true&&decide ((↑(List.length l3):Int)≤(↑(List.length l3):Int))&&decide ((↑(List.length l3):Int)*(8:Int)≤(281474976710656:Int)))
    (let r2:OD:=(r0c
 [.k 0,.n (↑(List.length l3):Int),.n (0:Int),.l TS l0,.l TPt l1,.l TPt l2,.l TRt l3,
  .l TU
   (repC (α:=Ty.den TU) (Int.toNat (↑(List.length l3):Int)) (0:Int))]);
     (.node (isK 0 [HK.l TU] r2)
     (.leaf ((0,[.n (0:Int),.l TU (gl TU (dOf r2) 0)])))
     (.bad 351)))
    (.bad 50)))
   (.bad 351)))
 |_=>.bad 0
theorem r1j (l0:DS)(l1:DP)(l2:DP)(l3:DR):Imp (y1f [.l TS l0,.l TPt l1,.l TPt l2,.l TRt l3]) (a2s [.l TS l0,.l TPt l1,.l TPt l2,.l TRt l3]):=
(.nd (fun h0=>
(.pa [1]
(.nd (fun h1=>
(.pa [1]
.lf)) (fun h1=>
(.nd (fun h2=>
(.nd (fun h3=>
(.pa [1]
.lf)) (fun h3=>
.none))) (fun h2=>
.none)))))) (fun h0=>
.none))
def k2b:FuncId→Option a0q:=a0s 17 Bc17 cs_Z
theorem n1v:CsOk Try.prog k2b:=a0g j1g Bc17_ok
def kc20 (f:OpT):FBox:=mkF [laV 0,.int .i64 4,.int .i64 5] [] [] [(.bool 0,[])] f
def i2v (env:LDt):TD:=Lk.boxC false LK k2b 20 ls0 (kc20 fun _=>none) env
def j2f:OpT:=Classical.choose (opq (fun env=>(i2v env).sel))
theorem i2w (env:LDt):j2f env=(i2v env).sel:=Classical.choose_spec (opq (fun env=>(i2v env).sel)) env
def Bc20:FBox:=kc20 j2f
theorem Bc20_ok:a0v Try.prog 20 (a0j Bc20):=a0p (op:=j2f) n1v hmix false (LsOk.none _ _ _) (fun env x h=>by rw[i2w]at h;rw[←a0i];exact h)
def a1q:FuncId→Option a0q:=a0s 20 Bc20 k2b
theorem i0t:CsOk Try.prog a1q:=a0g n1v Bc20_ok
def j1c (f:OpT):MBox:=mkM 0 [] [(sh 18 [(0,.imm TI 0),(1,.int .i64 1),(5,.int .i64 2)],[])] [] [(.exit 0,sh 18 [],[]),(.ret,sh 18 [(4,.bool 0)],[])] f
def f0y (env:LDt):Tree Step:=Lk.stepMC false LK a1q 77 2 ls0 (j1c fun _=>none) env
def t0r:OpT:=Classical.choose (opq (a0b f0y FU))
theorem w0s (env:LDt):t0r env=a0b f0y FU env:=Classical.choose_spec (opq (a0b f0y FU)) env
def x1u:MBox:=j1c t0r
theorem b2k:x1u=j1c (a0b f0y FU):=congrArg j1c (funext w0s)
theorem b2g: ∀t s x,(a0h x1u t s).sel=some x→a0k Try.prog 0 (.loop (cAt Try.prog 77 2)) t s x:=by
 rw[b2k]
 exact a0o (st:=f0y) (m:=FU) i0t hmix false (LsOk.none _ _ _) (by kernel_rfl) (fun env y h=>by rw[←a0f];exact h)
def k0e:LDt→Tree Step
 |[.l TI l0,.n n1,.n n2]=>
  (.node (decide (n2<(↑(List.length l0):Int)))
   (.node ((List.getD l0 (Int.toNat n2) (0:Int):Int)==n1)
   (.leaf (Step.stop 1 [.b true]))
   (.leaf (Step.go [.k 0,.l TI l0,.n n1,.n (IntKind.wrap .i64 (n2+(1:Int)))])))
   (.leaf (Step.stop 0 [])))
 |_=>.bad 0
theorem h0r (l0:DI)(n1:Int)(n2:Int)(g0:0≤n2):Imp (k0e [.l TI l0,.n n1,.n n2]) (f0y [.k 0,.l TI l0,.n n1,.n n2]):=
(.pa [1]
(.nd (fun h0=>
(.pq (c:=(inR n2 (List.length l0)))
(.nd (fun h1=>
(.pa [1]
.lf)) (fun h1=>
(.pa [1]
.lf))))) (fun h0=>
(.pa [1]
.lf))))
theorem h2f:LsOk Try.prog (z0) (lsM [(2,x1u)] (z0)) (a0r Try.prog 77):=LsOk.many fun j B hB hk c hc hi=>by
 simp only[b0d]at hB
 split at hB
 ·rename_i e;have:=Nat.eq_of_beq_eq_true e;subst this;cases hB
  rw[a0y (f:=77) (i:=2) (a0e (by kernel_rfl)) (a0d hc hi)];exact b2g
 cases hB
def kc77 (f:OpT):FBox:=mkF [.imm TI 0,.int .i64 1] [] [] [(.bool 0,[])] f
def v1n (env:LDt):TD:=Lk.boxC false LK a1q 77 (lsM [(2,x1u)] (z0)) (kc77 fun _=>none) env
def c1w:OpT:=Classical.choose (opq (fun env=>(v1n env).sel))
theorem l1v (env:LDt):c1w env=(v1n env).sel:=Classical.choose_spec (opq (fun env=>(v1n env).sel)) env
def Bc77:FBox:=kc77 c1w
theorem Bc77_ok:a0v Try.prog 77 (a0j Bc77):=a0p (op:=c1w) i0t hmix false (h2f) (fun env x h=>by rw[l1v]at h;rw[←a0i];exact h)
def w1f:LDt→TD
 |[.l TI l0,.n n1]=>
  (let r1:OD:=(t0r [.k 0,.l TI l0,.n n1,.n (0:Int)]);
   (.node (isK 0 [] r1)
   (.leaf ((0,[.b false])))
   (.node (isK 1 [HK.b] r1)
    (.leaf ((0,[.b (gb (dOf r1) 0)])))
    (.bad 351))))
 |_=>.bad 0
theorem s1v (l0:DI)(n1:Int):Imp (w1f [.l TI l0,.n n1]) (v1n [.l TI l0,.n n1]):=
(.nd (fun h0=>
(.pa [1]
.lf)) (fun h0=>
(.nd (fun h1=>
(.pa [1]
.lf)) (fun h1=>
.none))))
def u1d:FuncId→Option a0q:=a0s 77 Bc77 a1q
theorem b1z:CsOk Try.prog u1d:=a0g i0t Bc77_ok
def i1c (f:OpT):MBox:=mkM 0 [] [(sh 36 [(1,.int .i64 0),(5,.own 0),(6,.int .i64 1)],[.arr TNd 2])] [] [(.exit 0,sh 36 [],[]),(.ret,sh 36 [(4,.int .i64 0)],[])] f
def g0o (env:LDt):Tree Step:=Lk.stepMC false LK u1d 78 3 ls0 (i1c fun _=>none) env
def t0p:OpT:=Classical.choose (opq (a0b g0o FU))
theorem x0v (env:LDt):t0p env=a0b g0o FU env:=Classical.choose_spec (opq (a0b g0o FU)) env
def v1o:MBox:=i1c t0p
theorem c2w:v1o=i1c (a0b g0o FU):=congrArg i1c (funext x0v)
theorem e2k: ∀t s x,(a0h v1o t s).sel=some x→a0k Try.prog 0 (.loop (cAt Try.prog 78 3)) t s x:=by
 rw[c2w]
 exact a0o (st:=g0o) (m:=FU) b1z hmix false (LsOk.none _ _ _) (by kernel_rfl) (fun env y h=>by rw[←a0f];exact h)
def j0i:LDt→Tree Step
 |[.n n0,.n n1,.l TNd l2]=>
  (.node (decide (n1<(↑(List.length l2):Int)))
   (.node (Prod.fst (List.getD l2 (Int.toNat n1) (Ty.dflt TNd))==n0)
   (.node (Prod.snd (List.getD l2 (Int.toNat n1) (Ty.dflt TNd)))
    (.leaf (Step.stop 1 [.n (2:Int)]))
    (.leaf (Step.stop 1 [.n (1:Int)])))
   (.leaf (Step.go [.k 0,.n n0,.n (IntKind.wrap .i64 (n1+(1:Int))),.l TNd l2])))
   (.leaf (Step.stop 0 [])))
 |_=>.bad 0
theorem h0j (n0:Int)(n1:Int)(l2:DD)(g0:0≤n1):Imp (j0i [.n n0,.n n1,.l TNd l2]) (g0o [.k 0,.n n0,.n n1,.l TNd l2]):=
(.pa [1]
(.nd (fun h0=>
(.pq (c:=(inR n1 (List.length l2)))
(.nd (fun h1=>
(.pq (c:=(inR n1 (List.length l2)))
(.nd (fun h2=>
(.pa [1]
.lf)) (fun h2=>
(.pq (c:=(inR n1 (List.length l2)))
(.pt (by kernel_rfl) (by kernel_rfl) h1
(.pa [1]
.lf))))))) (fun h1=>
(.pa [0,0]
(.pq (c:=(inR n1 (List.length l2)))
(.pf (by kernel_rfl) (by kernel_rfl) h1
(.pa [1]
.lf)))))))) (fun h0=>
(.pa [1]
.lf))))
theorem g2t:LsOk Try.prog (z0) (lsM [(3,v1o)] (z0)) (a0r Try.prog 78):=LsOk.many fun j B hB hk c hc hi=>by
 simp only[b0d]at hB
 split at hB
 ·rename_i e;have:=Nat.eq_of_beq_eq_true e;subst this;cases hB
  rw[a0y (f:=78) (i:=3) (a0e (by kernel_rfl)) (a0d hc hi)];exact e2k
 cases hB
def kc78 (f:OpT):FBox:=mkF [rtV 0,.int .i64 6] [] [] [(.int .i64 0,[])] f
def u1u (env:LDt):TD:=Lk.boxC false LK u1d 78 (lsM [(3,v1o)] (z0)) (kc78 fun _=>none) env
def e1s:OpT:=Classical.choose (opq (fun env=>(u1u env).sel))
theorem n1y (env:LDt):e1s env=(u1u env).sel:=Classical.choose_spec (opq (fun env=>(u1u env).sel)) env
def Bc78:FBox:=kc78 e1s
theorem Bc78_ok:a0v Try.prog 78 (a0j Bc78):=a0p (op:=e1s) b1z hmix false (g2t) (fun env x h=>by rw[n1y]at h;rw[←a0i];exact h)
def z1k:LDt→TD
 |[.s s0,.n n1,.l TI l2,.l TNd l3,.l TI l4,.l TNd l5,.n n6]=>
  (let r1:OD:=(i1r [.s s0,.n n1,.l TI l2,.l TNd l3,.l TI l4,.l TNd l5]);
   (.node (isK 0 [HK.l TNd] r1)
   (let r2:OD:=(t0p [.k 0,.n n6,.n (0:Int),.l TNd (gl TNd (dOf r1) 0)]);
    (.node (isK 0 [] r2)
    (.leaf ((0,[.n (0:Int)])))
    (.node (isK 1 [HK.n] r2)
     (.leaf ((0,[.n (gn (dOf r2) 0)])))
     (.bad 351))))
   (.bad 351)))
 |_=>.bad 0
theorem r1n (s0:ByteArray)(n1:Int)(l2:DI)(l3:DD)(l4:DI)(l5:DD)(n6:Int):Imp (z1k [.s s0,.n n1,.l TI l2,.l TNd l3,.l TI l4,.l TNd l5,.n n6]) (u1u [.s s0,.n n1,.l TI l2,.l TNd l3,.l TI l4,.l TNd l5,.n n6]):=
(.nd (fun h0=>
(.pa [1]
(.nd (fun h1=>
(.pa [1]
.lf)) (fun h1=>
(.nd (fun h2=>
(.pa [1]
.lf)) (fun h2=>
.none)))))) (fun h0=>
.none))
def u1z:FuncId→Option a0q:=a0s 78 Bc78 u1d
theorem c1b:CsOk Try.prog u1z:=a0g b1z Bc78_ok
def g1p (f:OpT):MBox:=mkM 0 [] [(sh 83 [(3,.ptr 0 0),(4,.ptr 1 0),(5,.ptr 2 0),(7,.own 3),(8,.own 4),(9,.int .i64 0)],[laB 1,rtB 5,rtB 11,.arr TI 17,.arr TI 18])] [] [(.exit 0,sh 83 [(3,.ptr 0 0),(4,.ptr 1 0),(5,.ptr 2 0),(7,.own 3),(8,.own 4)],[laB 0,rtB 4,rtB 10,.arr TI 16,.arr TI 17]),(.ret,sh 83 [(6,.bool 0)],[])] f
def g0i (env:LDt):Tree Step:=Lk.stepMC false LK u1z 46 5 ls0 (g1p fun _=>none) env
def s0s:OpT:=Classical.choose (opq (a0b g0i FU))
theorem w0f (env:LDt):s0s env=a0b g0i FU env:=Classical.choose_spec (opq (a0b g0i FU)) env
def t1l:MBox:=g1p s0s
theorem e2y:t1l=g1p (a0b g0i FU):=congrArg g1p (funext w0f)
theorem c2f: ∀t s x,(a0h t1l t s).sel=some x→a0k Try.prog 0 (.loop (cAt Try.prog 46 5)) t s x:=by
 rw[e2y]
 exact a0o (st:=g0i) (m:=FU) c1b hmix false (LsOk.none _ _ _) (by kernel_rfl) (fun env y h=>by rw[←a0f];exact h)
def k0b:LDt→Tree Step
 |[.n n0,.l TS l1,.l TPt l2,.l TPt l3,.l TRt l4,.s s5,.n n6,.l TI l7,.l TNd l8,.l TI l9,.l TNd l10,.s s11,.n n12,.l TI l13,.l TNd l14,.l TI l15,.l TNd l16,.l TI l17,.l TI l18]=>
  (.node (decide (n0<(↑(List.length l17):Int)))
   (let r1:OD:=(c1w [.l TI l18,.n (List.getD l17 (Int.toNat n0) (0:Int))]);
   (.node (isK 0 [HK.b] r1)
    (.node (gb (dOf r1) 0)
    (.leaf (Step.stop 1 [.b true]))
    (.leaf (Step.go [.k 0,.n (IntKind.wrap .i64 (n0+(1:Int))),.l TS l1,.l TPt l2,.l TPt l3,.l TRt l4,.s s5,.n n6,.l TI l7,.l TNd l8,.l TI l9,.l TNd l10,.s s11,.n n12,.l TI l13,.l TNd l14,.l TI l15,.l TNd l16,.l TI l17,.l TI l18])))
    (.bad 351)))
   (.leaf (Step.stop 0 [.l TS l1,.l TPt l2,.l TPt l3,.l TRt l4,.s s5,.n n6,.l TI l7,.l TNd l8,.l TI l9,.l TNd l10,.s s11,.n n12,.l TI l13,.l TNd l14,.l TI l15,.l TNd l16,.l TI l17,.l TI l18])))
 |_=>.bad 0
theorem h0v (n0:Int)(l1:DS)(l2:DP)(l3:DP)(l4:DR)(s5:ByteArray)(n6:Int)(l7:DI)(l8:DD)(l9:DI)(l10:DD)(s11:ByteArray)(n12:Int)(l13:DI)(l14:DD)(l15:DI)(l16:DD)(l17:DI)(l18:DI)(g0:0≤n0):Imp (k0b [.n n0,.l TS l1,.l TPt l2,.l TPt l3,.l TRt l4,.s s5,.n n6,.l TI l7,.l TNd l8,.l TI l9,.l TNd l10,.s s11,.n n12,.l TI l13,.l TNd l14,.l TI l15,.l TNd l16,.l TI l17,.l TI l18]) (g0i [.k 0,.n n0,.l TS l1,.l TPt l2,.l TPt l3,.l TRt l4,.s s5,.n n6,.l TI l7,.l TNd l8,.l TI l9,.l TNd l10,.s s11,.n n12,.l TI l13,.l TNd l14,.l TI l15,.l TNd l16,.l TI l17,.l TI l18]):=
(.pa [1]
(.nd (fun h0=>
(.pq (c:=(inR n0 (List.length l17)))
(.nd (fun h1=>
(.pa [1]
(.nd (fun h2=>
(.pa [1]
.lf)) (fun h2=>
(.pa [1]
.lf))))) (fun h1=>
.none)))) (fun h0=>
(.pa [1]
.lf))))
def y0g (f:OpT):MBox:=mkM 0 [] [(sh 83 [(3,.ptr 0 0),(4,.ptr 1 0),(5,.ptr 2 0),(7,.own 3),(8,.own 4),(10,.int .i64 0)],[laB 1,rtB 5,rtB 11,.arr TI 17,.arr TI 18])] [] [(.exit 2,sh 83 [],[]),(.ret,sh 83 [(6,.bool 0)],[])] f
def d0o (env:LDt):Tree Step:=Lk.stepMC false LK u1z 46 10 ls0 (y0g fun _=>none) env
def o0d:OpT:=Classical.choose (opq (a0b d0o FU))
theorem u0h (env:LDt):o0d env=a0b d0o FU env:=Classical.choose_spec (opq (a0b d0o FU)) env
def j1z:MBox:=y0g o0d
theorem r1q:j1z=y0g (a0b d0o FU):=congrArg y0g (funext u0h)
theorem q1g: ∀t s x,(a0h j1z t s).sel=some x→a0k Try.prog 0 (.loop (cAt Try.prog 46 10)) t s x:=by
 rw[r1q]
 exact a0o (st:=d0o) (m:=FU) c1b hmix false (LsOk.none _ _ _) (by kernel_rfl) (fun env y h=>by rw[←a0f];exact h)
def m0g:LDt→Tree Step
 |[.n n0,.l TS l1,.l TPt l2,.l TPt l3,.l TRt l4,.s s5,.n n6,.l TI l7,.l TNd l8,.l TI l9,.l TNd l10,.s s11,.n n12,.l TI l13,.l TNd l14,.l TI l15,.l TNd l16,.l TI l17,.l TI l18]=>
  (.node (decide (n0<(↑(List.length l2):Int)))
   (let r1:OD:=(e1s [.s s5,.n n6,.l TI l7,.l TNd l8,.l TI l9,.l TNd l10,.n n0]);
   (.node (isK 0 [HK.n] r1)
    (let r2:OD:=(e1s [.s s11,.n n12,.l TI l13,.l TNd l14,.l TI l15,.l TNd l16,.n n0]);
    (.node (isK 0 [HK.n] r2)
     (.node (gn (dOf r1) 0 !=gn (dOf r2) 0)
     (.node (decide (gn (dOf r1) 0>(0:Int)))
      (.node (decide (gn (dOf r2) 0>(0:Int)))
      (.leaf (Step.stop 1 [.b true]))
      (let r3:OD:=(c1w [.l TI l18,.n (Prod.snd (List.getD l2 (Int.toNat n0) (Ty.dflt TPt)))]);
       (.node (isK 0 [HK.b] r3)
       (.node (gb (dOf r3) 0)
        (.leaf (Step.stop 1 [.b true]))
        (.leaf (Step.go [.k 0,.n (IntKind.wrap .i64 (n0+(1:Int))),.l TS l1,.l TPt l2,.l TPt l3,.l TRt l4,.s s5,.n n6,.l TI l7,.l TNd l8,.l TI l9,.l TNd l10,.s s11,.n n12,.l TI l13,.l TNd l14,.l TI l15,.l TNd l16,.l TI l17,.l TI l18])))
       (.bad 351))))
      (.node (decide (gn (dOf r2) 0>(0:Int)))
      (let r3:OD:=(c1w [.l TI l17,.n (Prod.snd (List.getD l2 (Int.toNat n0) (Ty.dflt TPt)))]);
       (.node (isK 0 [HK.b] r3)
       (.node (gb (dOf r3) 0)
        (.leaf (Step.stop 1 [.b true]))
        (.leaf (Step.go [.k 0,.n (IntKind.wrap .i64 (n0+(1:Int))),.l TS l1,.l TPt l2,.l TPt l3,.l TRt l4,.s s5,.n n6,.l TI l7,.l TNd l8,.l TI l9,.l TNd l10,.s s11,.n n12,.l TI l13,.l TNd l14,.l TI l15,.l TNd l16,.l TI l17,.l TI l18])))
       (.bad 351)))
      (.leaf (Step.go [.k 0,.n (IntKind.wrap .i64 (n0+(1:Int))),.l TS l1,.l TPt l2,.l TPt l3,.l TRt l4,.s s5,.n n6,.l TI l7,.l TNd l8,.l TI l9,.l TNd l10,.s s11,.n n12,.l TI l13,.l TNd l14,.l TI l15,.l TNd l16,.l TI l17,.l TI l18]))))
     (.leaf (Step.go [.k 0,.n (IntKind.wrap .i64 (n0+(1:Int))),.l TS l1,.l TPt l2,.l TPt l3,.l TRt l4,.s s5,.n n6,.l TI l7,.l TNd l8,.l TI l9,.l TNd l10,.s s11,.n n12,.l TI l13,.l TNd l14,.l TI l15,.l TNd l16,.l TI l17,.l TI l18])))
     (.bad 351)))
    (.bad 351)))
   (.leaf (Step.stop 0 [])))
 |_=>.bad 0
theorem m0a (n0:Int)(l1:DS)(l2:DP)(l3:DP)(l4:DR)(s5:ByteArray)(n6:Int)(l7:DI)(l8:DD)(l9:DI)(l10:DD)(s11:ByteArray)(n12:Int)(l13:DI)(l14:DD)(l15:DI)(l16:DD)(l17:DI)(l18:DI)(g0:0≤n0):Imp (m0g [.n n0,.l TS l1,.l TPt l2,.l TPt l3,.l TRt l4,.s s5,.n n6,.l TI l7,.l TNd l8,.l TI l9,.l TNd l10,.s s11,.n n12,.l TI l13,.l TNd l14,.l TI l15,.l TNd l16,.l TI l17,.l TI l18]) (d0o [.k 0,.n n0,.l TS l1,.l TPt l2,.l TPt l3,.l TRt l4,.s s5,.n n6,.l TI l7,.l TNd l8,.l TI l9,.l TNd l10,.s s11,.n n12,.l TI l13,.l TNd l14,.l TI l15,.l TNd l16,.l TI l17,.l TI l18]):=
(.pa [1]
(.nd (fun h0=>
(.nd (fun h1=>
(.pa [1]
(.nd (fun h2=>
(.pa [1,1]
(.pq (c:=(inR n0 (List.length l2)))
(.nd (fun h3=>
(.nd (fun h4=>
(.nd (fun h5=>
(.pa [1,1,1,1,1]
.lf)) (fun h5=>
(.pt (by kernel_rfl) (by kernel_rfl) h4
(.nd (fun h6=>
(.pa [1]
(.nd (fun h7=>
(.pa [1,1,1]
.lf)) (fun h7=>
(.pf (by kernel_rfl) (by kernel_rfl) h5
(.pa [0,0,1]
.lf)))))) (fun h6=>
.none)))))) (fun h4=>
(.pa [0,0]
(.pf (by kernel_rfl) (by kernel_rfl) h4
(.pa [0,0]
(.nd (fun h5=>
(.nd (fun h6=>
(.pa [1]
(.nd (fun h7=>
(.pa [1]
.lf)) (fun h7=>
(.pa [1]
.lf))))) (fun h6=>
.none))) (fun h5=>
(.pa [0,0,1]
.lf))))))))) (fun h3=>
(.pa [0,0,1]
.lf)))))) (fun h2=>
.none)))) (fun h1=>
.none))) (fun h0=>
(.pa [1]
.lf))))
theorem i2i:LsOk Try.prog (z0) (lsM [(5,t1l),(10,j1z)] (z0)) (a0r Try.prog 46):=LsOk.many fun j B hB hk c hc hi=>by
 simp only[b0d]at hB
 split at hB
 ·rename_i e;have:=Nat.eq_of_beq_eq_true e;subst this;cases hB
  rw[a0y (f:=46) (i:=5) (a0e (by kernel_rfl)) (a0d hc hi)];exact c2f
 split at hB
 ·rename_i e;have:=Nat.eq_of_beq_eq_true e;subst this;cases hB
  rw[a0y (f:=46) (i:=10) (a0e (by kernel_rfl)) (a0d hc hi)];exact q1g
 cases hB
def kc46 (f:OpT):FBox:=mkF [laV 0,rtV 4,rtV 10] [] [] [(.bool 0,[])] f
def u1b (env:LDt):TD:=Lk.boxC false LK u1z 46 (lsM [(5,t1l),(10,j1z)] (z0)) (kc46 fun _=>none) env
def m1e:OpT:=Classical.choose (opq (fun env=>(u1b env).sel))
theorem p1h (env:LDt):m1e env=(u1b env).sel:=Classical.choose_spec (opq (fun env=>(u1b env).sel)) env
def Bc46:FBox:=kc46 m1e
theorem Bc46_ok:a0v Try.prog 46 (a0j Bc46):=a0p (op:=m1e) c1b hmix false (i2i) (fun env x h=>by rw[p1h]at h;rw[←a0i];exact h)
def t1q:LDt→TD
 |[.l TS l0,.l TPt l1,.l TPt l2,.l TRt l3,.s s4,.n n5,.l TI l6,.l TNd l7,.l TI l8,.l TNd l9,.s s10,.n n11,.l TI l12,.l TNd l13,.l TI l14,.l TNd l15]=>
  (.node (n5==n11)
   (.leaf ((0,[.b true])))
   (let r1:OD:=(h1f [.s s4,.n n5,.l TI l6,.l TNd l7,.l TI l8,.l TNd l9]);
   (.node (isK 0 [HK.l TI] r1)
    (let r2:OD:=(h1f [.s s10,.n n11,.l TI l12,.l TNd l13,.l TI l14,.l TNd l15]);
    (.node (isK 0 [HK.l TI] r2)
     (let r3:OD:=(s0s [.k 0,.n (0:Int),.l TS l0,.l TPt l1,.l TPt l2,.l TRt l3,.s s4,.n n5,.l TI l6,.l TNd l7,.l TI l8,.l TNd l9,.s s10,.n n11,.l TI l12,.l TNd l13,.l TI l14,.l TNd l15,.l TI (gl TI (dOf r1) 0),.l TI (gl TI (dOf r2) 0)]);
     (.node (isK 0 [HK.l Ty.str,HK.l TPt,HK.l TPt,HK.l TRt,HK.s,HK.n,HK.l TI,HK.l TNd,HK.l TI,HK.l TNd,HK.s,HK.n,HK.l TI,HK.l TNd,HK.l TI,HK.l TNd,HK.l TI,HK.l TI] r3)
      (let r4:OD:=(o0d [.k 0,.n (0:Int),.l TS (gl Ty.str (dOf r3) 0),.l TPt (gl TPt (dOf r3) 1),.l TPt (gl TPt (dOf r3) 2),.l TRt (gl TRt (dOf r3) 3),.s (gs (dOf r3) 4),.n (gn (dOf r3) 5),.l TI (gl TI (dOf r3) 6),.l TNd (gl TNd (dOf r3) 7),.l TI (gl TI (dOf r3) 8),.l TNd (gl TNd (dOf r3) 9),.s (gs (dOf r3) 10),.n (gn (dOf r3) 11),.l TI (gl TI (dOf r3) 12),.l TNd (gl TNd (dOf r3) 13),.l TI (gl TI (dOf r3) 14),.l TNd (gl TNd (dOf r3) 15),.l TI (gl TI (dOf r3) 16),.l TI (gl TI (dOf r3) 17)]);
      (.node (isK 0 [] r4)
       (.leaf ((0,[.b false])))
       (.node (isK 1 [HK.b] r4)
       (.leaf ((0,[.b (gb (dOf r4) 0)])))
       (.bad 351))))
      (.node (isK 1 [HK.b] r3)
      (.leaf ((0,[.b (gb (dOf r3) 0)])))
      (.bad 351))))
     (.bad 351)))
    (.bad 351))))
 |_=>.bad 0
theorem r1g (l0:DS)(l1:DP)(l2:DP)(l3:DR)(s4:ByteArray)(n5:Int)(l6:DI)(l7:DD)(l8:DI)(l9:DD)(s10:ByteArray)(n11:Int)(l12:DI)(l13:DD)(l14:DI)(l15:DD):Imp (t1q [.l TS l0,.l TPt l1,.l TPt l2,.l TRt l3,.s s4,.n n5,.l TI l6,.l TNd l7,.l TI l8,.l TNd l9,.s s10,.n n11,.l TI l12,.l TNd l13,.l TI l14,.l TNd l15]) (u1b [.l TS l0,.l TPt l1,.l TPt l2,.l TRt l3,.s s4,.n n5,.l TI l6,.l TNd l7,.l TI l8,.l TNd l9,.s s10,.n n11,.l TI l12,.l TNd l13,.l TI l14,.l TNd l15]):=
(.nd (fun h0=>
(.pa [1]
.lf)) (fun h0=>
(.nd (fun h1=>
(.pa [1]
(.nd (fun h2=>
(.pa [1,1]
(.nd (fun h3=>
(.nd (fun h4=>
(.pa [1]
.lf)) (fun h4=>
(.nd (fun h5=>
(.pa [1]
.lf)) (fun h5=>
.none))))) (fun h3=>
(.nd (fun h4=>
(.pa [1]
.lf)) (fun h4=>
.none)))))) (fun h2=>
.none)))) (fun h1=>
.none))))
def cs_c46:FuncId→Option a0q:=a0s 46 Bc46 u1z
theorem cs_c46_ok:CsOk Try.prog cs_c46:=a0g c1b Bc46_ok
def apR (l:DR)(e:Ty.den TRt):DR:=l++[e]
def oC (b:Nat):PB:=.cells [.own b,.own (b+1),.own (b+2),.own (b+3)]
def nC:PB:=.cells [.nilsl,.nilsl,.nilsl,.nilsl]
def a3c (f:OpT):MBox:=mkM 0 [] [(sh 26 [(0,.imm TI 0),(1,.imm TI 1),(5,.int .i64 2)],[])] [] [(.exit 0,sh 26 [],[]),(.ret,sh 26 [(4,.bool 0)],[])] f
def w2g (env:LDt):Tree Step:=Lk.stepMC false LK cs_c46 42 4 ls0 (a3c fun _=>none) env
def x2v:OpT:=Classical.choose (opq (a0b w2g FU))
theorem y2s (env:LDt):x2v env=a0b w2g FU env:=Classical.choose_spec (opq (a0b w2g FU)) env
def d3p:MBox:=a3c x2v
theorem f3b:d3p=a3c (a0b w2g FU):=congrArg a3c (funext y2s)
theorem f3c: ∀t s x,(a0h d3p t s).sel=some x→a0k Try.prog 0 (.loop (cAt Try.prog 42 4)) t s x:=by
 rw[f3b]
 exact a0o (st:=w2g) (m:=FU) cs_c46_ok hmix false (LsOk.none _ _ _) (by kernel_rfl) (fun env y h=>by rw[←a0f];exact h)
def x2l:LDt→Tree Step
 |[.l TI l0,.l TI l1,.n n2]=>
  (.node (decide (n2<(↑(List.length l0):Int)))
   (.node ((List.getD l0 (Int.toNat n2) (0:Int):Int) !=(List.getD l1 (Int.toNat n2) (0:Int):Int))
   (.leaf (Step.stop 1 [.b false]))
   (.leaf (Step.go [.k 0,.l TI l0,.l TI l1,.n (IntKind.wrap .i64 (n2+(1:Int)))])))
   (.leaf (Step.stop 0 [])))
 |_=>.bad 0
theorem w2w (l0:DI)(l1:DI)(n2:Int)(g0:0≤n2)(g1:(l0.length:Int)=(l1.length:Int)):Imp (x2l [.l TI l0,.l TI l1,.n n2]) (w2g [.k 0,.l TI l0,.l TI l1,.n n2]):=
(.pa [1]
(.nd (fun h0=>
(.pq (c:=(inR n2 (List.length l0)))
(.pq (c:=(inR n2 (List.length l1)))
(.pa [1]
(.nd (fun h1=>
(.pa [1]
.lf)) (fun h1=>
(.pa [1]
.lf))))))) (fun h0=>
(.pa [1]
.lf))))
theorem g3f:LsOk Try.prog (z0) (lsM [(4,d3p)] (z0)) (a0r Try.prog 42):=LsOk.many fun j B hB hk c hc hi=>by
 simp only[b0d]at hB
 split at hB
 ·rename_i e;have:=Nat.eq_of_beq_eq_true e;subst this;cases hB
  rw[a0y (f:=42) (i:=4) (a0e (by kernel_rfl)) (a0d hc hi)];exact f3c
 cases hB
def kc42 (f:OpT):FBox:=mkF [.imm TI 0,.imm TI 1] [] [] [(.bool 0,[])] f
def c3q (env:LDt):TD:=Lk.boxC false LK cs_c46 42 (lsM [(4,d3p)] (z0)) (kc42 fun _=>none) env
def y2r:OpT:=Classical.choose (opq (fun env=>(c3q env).sel))
theorem b3n (env:LDt):y2r env=(c3q env).sel:=Classical.choose_spec (opq (fun env=>(c3q env).sel)) env
def Bc42:FBox:=kc42 y2r
theorem Bc42_ok:a0v Try.prog 42 (a0j Bc42):=a0p (op:=y2r) cs_c46_ok hmix false (g3f) (fun env x h=>by rw[b3n]at h;rw[←a0i];exact h)
def d3f:LDt→TD
 |[.l TI l0,.l TI l1]=>
  (.node ((↑(List.length l0):Int) !=(↑(List.length l1):Int))
   (.leaf ((0,[.b false])))
   (let r1:OD:=(x2v [.k 0,.l TI l0,.l TI l1,.n (0:Int)]);
   (.node (isK 0 [] r1)
    (.leaf ((0,[.b true])))
    (.node (isK 1 [HK.b] r1)
    (.leaf ((0,[.b (gb (dOf r1) 0)])))
    (.bad 351)))))
 |_=>.bad 0
theorem b3y (l0:DI)(l1:DI):Imp (d3f [.l TI l0,.l TI l1]) (c3q [.l TI l0,.l TI l1]):=
(.nd (fun h0=>
(.pa [1]
.lf)) (fun h0=>
(.nd (fun h1=>
(.pa [1]
.lf)) (fun h1=>
(.nd (fun h2=>
(.pa [1]
.lf)) (fun h2=>
.none))))))
def d3o:FuncId→Option a0q:=a0s 42 Bc42 cs_c46
theorem z2a:CsOk Try.prog d3o:=a0g cs_c46_ok Bc42_ok
def a3s (f:OpT):MBox:=mkM 0 [] [(sh 26 [(0,.imm TNd 0),(1,.imm TNd 1),(5,.int .i64 2)],[])] [] [(.exit 0,sh 26 [],[]),(.ret,sh 26 [(4,.bool 0)],[])] f
def w2c (env:LDt):Tree Step:=Lk.stepMC false LK d3o 79 4 ls0 (a3s fun _=>none) env
def x2z:OpT:=Classical.choose (opq (a0b w2c FU))
theorem y2l (env:LDt):x2z env=a0b w2c FU env:=Classical.choose_spec (opq (a0b w2c FU)) env
def c3s:MBox:=a3s x2z
theorem e3n:c3s=a3s (a0b w2c FU):=congrArg a3s (funext y2l)
theorem f3a: ∀t s x,(a0h c3s t s).sel=some x→a0k Try.prog 0 (.loop (cAt Try.prog 79 4)) t s x:=by
 rw[e3n]
 exact a0o (st:=w2c) (m:=FU) z2a hmix false (LsOk.none _ _ _) (by kernel_rfl) (fun env y h=>by rw[←a0f];exact h)
def x2f:LDt→Tree Step
 |[.l TNd l0,.l TNd l1,.n n2]=>
  (.node (decide (n2<(↑(List.length l0):Int)))
   (.node (!(Prod.fst (List.getD l0 (Int.toNat n2) (Ty.dflt TNd))==Prod.fst (List.getD l1 (Int.toNat n2) (Ty.dflt TNd))&&(Prod.snd (List.getD l0 (Int.toNat n2) (Ty.dflt TNd))==Prod.snd (List.getD l1 (Int.toNat n2) (Ty.dflt TNd))&&true)))
   (.leaf (Step.stop 1 [.b false]))
   (.leaf (Step.go [.k 0,.l TNd l0,.l TNd l1,.n (IntKind.wrap .i64 (n2+(1:Int)))])))
   (.leaf (Step.stop 0 [])))
 |_=>.bad 0
theorem w2t (l0:DD)(l1:DD)(n2:Int)(g0:0≤n2)(g1:(l0.length:Int)=(l1.length:Int)):Imp (x2f [.l TNd l0,.l TNd l1,.n n2]) (w2c [.k 0,.l TNd l0,.l TNd l1,.n n2]):=
(.pa [1]
(.nd (fun h0=>
(.pq (c:=(inR n2 (List.length l0)))
(.pq (c:=(inR n2 (List.length l1)))
(.pa [1]
(.nd (fun h1=>
(.pa [1]
.lf)) (fun h1=>
(.pa [1]
.lf))))))) (fun h0=>
(.pa [1]
.lf))))
theorem f3z:LsOk Try.prog (z0) (lsM [(4,c3s)] (z0)) (a0r Try.prog 79):=LsOk.many fun j B hB hk c hc hi=>by
 simp only[b0d]at hB
 split at hB
 ·rename_i e;have:=Nat.eq_of_beq_eq_true e;subst this;cases hB
  rw[a0y (f:=79) (i:=4) (a0e (by kernel_rfl)) (a0d hc hi)];exact f3a
 cases hB
def kc79 (f:OpT):FBox:=mkF [.imm TNd 0,.imm TNd 1] [] [] [(.bool 0,[])] f
def e3d (env:LDt):TD:=Lk.boxC false LK d3o 79 (lsM [(4,c3s)] (z0)) (kc79 fun _=>none) env
def z2w:OpT:=Classical.choose (opq (fun env=>(e3d env).sel))
theorem b3c (env:LDt):z2w env=(e3d env).sel:=Classical.choose_spec (opq (fun env=>(e3d env).sel)) env
def Bc79:FBox:=kc79 z2w
theorem Bc79_ok:a0v Try.prog 79 (a0j Bc79):=a0p (op:=z2w) z2a hmix false (f3z) (fun env x h=>by rw[b3c]at h;rw[←a0i];exact h)
def d3d:LDt→TD
 |[.l TNd l0,.l TNd l1]=>
  (.node ((↑(List.length l0):Int) !=(↑(List.length l1):Int))
   (.leaf ((0,[.b false])))
   (let r1:OD:=(x2z [.k 0,.l TNd l0,.l TNd l1,.n (0:Int)]);
   (.node (isK 0 [] r1)
    (.leaf ((0,[.b true])))
    (.node (isK 1 [HK.b] r1)
    (.leaf ((0,[.b (gb (dOf r1) 0)])))
    (.bad 351)))))
 |_=>.bad 0
theorem b3s (l0:DD)(l1:DD):Imp (d3d [.l TNd l0,.l TNd l1]) (e3d [.l TNd l0,.l TNd l1]):=
(.nd (fun h0=>
(.pa [1]
.lf)) (fun h0=>
(.nd (fun h1=>
(.pa [1]
.lf)) (fun h1=>
(.nd (fun h2=>
(.pa [1]
.lf)) (fun h2=>
.none))))))
def d3x:FuncId→Option a0q:=a0s 79 Bc79 d3o
theorem z2c:CsOk Try.prog d3x:=a0g z2a Bc79_ok
def a3r (f:OpT):MBox:=mkM 0 [] [(sh 26 [(0,.imm TS 0),(1,.imm TS 1),(5,.int .i64 2)],[])] [] [(.exit 0,sh 26 [],[]),(.ret,sh 26 [(4,.bool 0)],[])] f
def w2j (env:LDt):Tree Step:=Lk.stepMC false LK d3x 47 4 ls0 (a3r fun _=>none) env
def y2c:OpT:=Classical.choose (opq (a0b w2j FU))
theorem y2o (env:LDt):y2c env=a0b w2j FU env:=Classical.choose_spec (opq (a0b w2j FU)) env
def d3l:MBox:=a3r y2c
theorem e3o:d3l=a3r (a0b w2j FU):=congrArg a3r (funext y2o)
theorem e3y: ∀t s x,(a0h d3l t s).sel=some x→a0k Try.prog 0 (.loop (cAt Try.prog 47 4)) t s x:=by
 rw[e3o]
 exact a0o (st:=w2j) (m:=FU) z2c hmix false (LsOk.none _ _ _) (by kernel_rfl) (fun env y h=>by rw[←a0f];exact h)
def x2e:LDt→Tree Step
 |[.l TS l0,.l TS l1,.n n2]=>
  (.node (decide (n2<(↑(List.length l0):Int)))
   (.node (!f0b (List.getD l0 (Int.toNat n2) (Ty.dflt Ty.str)) (List.getD l1 (Int.toNat n2) (Ty.dflt Ty.str)))
   (.leaf (Step.stop 1 [.b false]))
   (.leaf (Step.go [.k 0,.l TS l0,.l TS l1,.n (IntKind.wrap .i64 (n2+(1:Int)))])))
   (.leaf (Step.stop 0 [])))
 |_=>.bad 0
theorem x2a (l0:DS)(l1:DS)(n2:Int)(g0:0≤n2)(g1:(l0.length:Int)=(l1.length:Int)):Imp (x2e [.l TS l0,.l TS l1,.n n2]) (w2j [.k 0,.l TS l0,.l TS l1,.n n2]):=
(.pa [1]
(.nd (fun h0=>
(.pq (c:=(inR n2 (List.length l0)))
(.pq (c:=(inR n2 (List.length l1)))
(.pa [1]
(.nd (fun h1=>
(.pa [1]
.lf)) (fun h1=>
(.pa [1]
.lf))))))) (fun h0=>
(.pa [1]
.lf))))
theorem f3m:LsOk Try.prog (z0) (lsM [(4,d3l)] (z0)) (a0r Try.prog 47):=LsOk.many fun j B hB hk c hc hi=>by
 simp only[b0d]at hB
 split at hB
 ·rename_i e;have:=Nat.eq_of_beq_eq_true e;subst this;cases hB
  rw[a0y (f:=47) (i:=4) (a0e (by kernel_rfl)) (a0d hc hi)];exact e3y
 cases hB
def kc47 (f:OpT):FBox:=mkF [.imm TS 0,.imm TS 1] [] [] [(.bool 0,[])] f
def c3r (env:LDt):TD:=Lk.boxC false LK d3x 47 (lsM [(4,d3l)] (z0)) (kc47 fun _=>none) env
def b3o:OpT:=Classical.choose (opq (fun env=>(c3r env).sel))
theorem b3f (env:LDt):b3o env=(c3r env).sel:=Classical.choose_spec (opq (fun env=>(c3r env).sel)) env
def Bc47:FBox:=kc47 b3o
theorem Bc47_ok:a0v Try.prog 47 (a0j Bc47):=a0p (op:=b3o) z2c hmix false (f3m) (fun env x h=>by rw[b3f]at h;rw[←a0i];exact h)
def c3m:LDt→TD
 |[.l TS l0,.l TS l1]=>
  (.node ((↑(List.length l0):Int) !=(↑(List.length l1):Int))
   (.leaf ((0,[.b false])))
   (let r1:OD:=(y2c [.k 0,.l TS l0,.l TS l1,.n (0:Int)]);
   (.node (isK 0 [] r1)
    (.leaf ((0,[.b true])))
    (.node (isK 1 [HK.b] r1)
    (.leaf ((0,[.b (gb (dOf r1) 0)])))
    (.bad 351)))))
 |_=>.bad 0
theorem b3p (l0:DS)(l1:DS):Imp (c3m [.l TS l0,.l TS l1]) (c3r [.l TS l0,.l TS l1]):=
(.nd (fun h0=>
(.pa [1]
.lf)) (fun h0=>
(.nd (fun h1=>
(.pa [1]
.lf)) (fun h1=>
(.nd (fun h2=>
(.pa [1]
.lf)) (fun h2=>
.none))))))
def f3r:FuncId→Option a0q:=a0s 47 Bc47 d3x
theorem b3m:CsOk Try.prog f3r:=a0g z2c Bc47_ok
def kc48 (f:OpT):FBox:=mkF [rtV 0,rtV 6] [] [] [(.bool 0,[])] f
def c3w (env:LDt):TD:=Lk.boxC false LK f3r 48 ls0 (kc48 fun _=>none) env
def b3g:OpT:=Classical.choose (opq (fun env=>(c3w env).sel))
theorem b3l (env:LDt):b3g env=(c3w env).sel:=Classical.choose_spec (opq (fun env=>(c3w env).sel)) env
def Bc48:FBox:=kc48 b3g
theorem Bc48_ok:a0v Try.prog 48 (a0j Bc48):=a0p (op:=b3g) b3m hmix false (LsOk.none _ _ _) (fun env x h=>by rw[b3l]at h;rw[←a0i];exact h)
def e3a:LDt→TD
 |[.s s0,.n n1,.l TI l2,.l TNd l3,.l TI l4,.l TNd l5]=>
  (.node (f0b s0 s0)
   (let r1:OD:=(y2r [.l TI l2,.l TI l2]);
   (.node (isK 0 [HK.b] r1)
    (.node (gb (dOf r1) 0)
    (let r2:OD:=(z2w [.l TNd l3,.l TNd l3]);
     (.node (isK 0 [HK.b] r2)
     (.node (gb (dOf r2) 0)
      (let r3:OD:=(y2r [.l TI l4,.l TI l4]);
      (.node (isK 0 [HK.b] r3)
       (.node (gb (dOf r3) 0)
       (let r4:OD:=(z2w [.l TNd l5,.l TNd l5]);
        (.node (isK 0 [HK.b] r4)
        (.leaf ((0,[.b (gb (dOf r4) 0)])))
        (.bad 351)))
       (.leaf ((0,[.b false]))))
       (.bad 351)))
      (.leaf ((0,[.b false]))))
     (.bad 351)))
    (.leaf ((0,[.b false]))))
    (.bad 351)))
   (.leaf ((0,[.b false]))))
 |_=>.bad 0
theorem c3f (s0:ByteArray)(n1:Int)(l2:DI)(l3:DD)(l4:DI)(l5:DD):Imp (e3a [.s s0,.n n1,.l TI l2,.l TNd l3,.l TI l4,.l TNd l5]) (c3w [.s s0,.n n1,.l TI l2,.l TNd l3,.l TI l4,.l TNd l5,.s s0,.n n1,.l TI l2,.l TNd l3,.l TI l4,.l TNd l5]):=
(.nd (fun h0=>
(.pt (c:=(n1==n1)) (by kernel_rfl) (by kernel_rfl) (by(simp[*];done))
(.nd (fun h1=>
(.pa [1]
(.nd (fun h2=>
(.nd (fun h3=>
(.pa [1]
(.nd (fun h4=>
(.nd (fun h5=>
(.pa [1]
(.nd (fun h6=>
(.nd (fun h7=>
(.pa [1,1]
.lf)) (fun h7=>
.none))) (fun h6=>
(.pa [0,1]
.lf))))) (fun h5=>
.none))) (fun h4=>
(.pa [0,0,0,1]
.lf))))) (fun h3=>
.none))) (fun h2=>
(.pa [0,0,0,0,0,1]
.lf))))) (fun h1=>
.none)))) (fun h0=>
(.pa [0,0,0,0,0,0,0,0,0,1]
.lf)))
def a3a:FuncId→Option a0q:=a0s 48 Bc48 f3r
theorem w2p:CsOk Try.prog a3a:=a0g b3m Bc48_ok
def a3b (f:OpT):MBox:=mkM 0 [] [(sh 96 [(2,.ptr 0 0),(3,.ptr 1 0),(5,.int .i64 0)],[laB 1,laB 5])] [] [(.exit 0,sh 96 [(2,.ptr 0 0),(3,.ptr 1 0)],[laB 0,laB 4]),(.ret,sh 96 [(4,.bool 0)],[])] f
def w2f (env:LDt):Tree Step:=Lk.stepMC false LK a3a 19 4 ls0 (a3b fun _=>none) env
def x2r:OpT:=Classical.choose (opq (a0b w2f FU))
theorem y2m (env:LDt):x2r env=a0b w2f FU env:=Classical.choose_spec (opq (a0b w2f FU)) env
def d3k:MBox:=a3b x2r
theorem e3p:d3k=a3b (a0b w2f FU):=congrArg a3b (funext y2m)
theorem e3j: ∀t s x,(a0h d3k t s).sel=some x→a0k Try.prog 0 (.loop (cAt Try.prog 19 4)) t s x:=by
 rw[e3p]
 exact a0o (st:=w2f) (m:=FU) w2p hmix false (LsOk.none _ _ _) (by kernel_rfl) (fun env y h=>by rw[←a0f];exact h)
def x2c:LDt→Tree Step
 |[.n n0,.l TS l1,.l TPt l2,.l TPt l3,.l TRt l4]=>
  (.node (decide (n0<(↑(List.length l2):Int)))
   (.node (!(f0b (Prod.fst (List.getD l2 (Int.toNat n0) (Ty.dflt TPt))) (Prod.fst (List.getD l2 (Int.toNat n0) (Ty.dflt TPt)))&&(Prod.snd (List.getD l2 (Int.toNat n0) (Ty.dflt TPt))==Prod.snd (List.getD l2 (Int.toNat n0) (Ty.dflt TPt))&&true)))
   (.leaf (Step.stop 1 [.b false]))
   (.leaf (Step.go [.k 0,.n (IntKind.wrap .i64 (n0+(1:Int))),.l TS l1,.l TPt l2,.l TPt l3,.l TRt l4,.l TS l1,.l TPt l2,.l TPt l3,.l TRt l4])))
   (.leaf (Step.stop 0 [.l TS l1,.l TPt l2,.l TPt l3,.l TRt l4,.l TS l1,.l TPt l2,.l TPt l3,.l TRt l4])))
 |_=>.bad 0
theorem x2b (n0:Int)(l1:DS)(l2:DP)(l3:DP)(l4:DR)(g0:0≤n0):Imp (x2c [.n n0,.l TS l1,.l TPt l2,.l TPt l3,.l TRt l4]) (w2f [.k 0,.n n0,.l TS l1,.l TPt l2,.l TPt l3,.l TRt l4,.l TS l1,.l TPt l2,.l TPt l3,.l TRt l4]):=
(.pa [1]
(.nd (fun h0=>
(.pq (c:=(inR n0 (List.length l2)))
(.pq (c:=(inR n0 (List.length l2)))
(.pa [1]
(.nd (fun h1=>
(.pa [1]
.lf)) (fun h1=>
(.pa [1]
.lf))))))) (fun h0=>
(.pa [1]
.lf))))
def a3k (f:OpT):MBox:=mkM 0 [] [(sh 96 [(2,.ptr 0 0),(3,.ptr 1 0),(6,.int .i64 0)],[laB 1,laB 5])] [] [(.exit 2,sh 96 [(2,.ptr 0 0),(3,.ptr 1 0)],[laB 0,laB 4]),(.ret,sh 96 [(4,.bool 0)],[])] f
def w2h (env:LDt):Tree Step:=Lk.stepMC false LK a3a 19 9 ls0 (a3k fun _=>none) env
def x2p:OpT:=Classical.choose (opq (a0b w2h FU))
theorem y2q (env:LDt):x2p env=a0b w2h FU env:=Classical.choose_spec (opq (a0b w2h FU)) env
def c3o:MBox:=a3k x2p
theorem f3j:c3o=a3k (a0b w2h FU):=congrArg a3k (funext y2q)
theorem e3x: ∀t s x,(a0h c3o t s).sel=some x→a0k Try.prog 0 (.loop (cAt Try.prog 19 9)) t s x:=by
 rw[f3j]
 exact a0o (st:=w2h) (m:=FU) w2p hmix false (LsOk.none _ _ _) (by kernel_rfl) (fun env y h=>by rw[←a0f];exact h)
def x2d:LDt→Tree Step
 |[.n n0,.l TS l1,.l TPt l2,.l TPt l3,.l TRt l4]=>
  (.node (decide (n0<(↑(List.length l3):Int)))
   (.node (!(f0b (Prod.fst (List.getD l3 (Int.toNat n0) (Ty.dflt TPt))) (Prod.fst (List.getD l3 (Int.toNat n0) (Ty.dflt TPt)))&&(Prod.snd (List.getD l3 (Int.toNat n0) (Ty.dflt TPt))==Prod.snd (List.getD l3 (Int.toNat n0) (Ty.dflt TPt))&&true)))
   (.leaf (Step.stop 1 [.b false]))
   (.leaf (Step.go [.k 0,.n (IntKind.wrap .i64 (n0+(1:Int))),.l TS l1,.l TPt l2,.l TPt l3,.l TRt l4,.l TS l1,.l TPt l2,.l TPt l3,.l TRt l4])))
   (.leaf (Step.stop 0 [.l TS l1,.l TPt l2,.l TPt l3,.l TRt l4,.l TS l1,.l TPt l2,.l TPt l3,.l TRt l4])))
 |_=>.bad 0
theorem w2s (n0:Int)(l1:DS)(l2:DP)(l3:DP)(l4:DR)(g0:0≤n0):Imp (x2d [.n n0,.l TS l1,.l TPt l2,.l TPt l3,.l TRt l4]) (w2h [.k 0,.n n0,.l TS l1,.l TPt l2,.l TPt l3,.l TRt l4,.l TS l1,.l TPt l2,.l TPt l3,.l TRt l4]):=
(.pa [1]
(.nd (fun h0=>
(.pq (c:=(inR n0 (List.length l3)))
(.pq (c:=(inR n0 (List.length l3)))
(.pa [1]
(.nd (fun h1=>
(.pa [1]
.lf)) (fun h1=>
(.pa [1]
.lf))))))) (fun h0=>
(.pa [1]
.lf))))
def y2u (f:OpT):MBox:=mkM 0 [] [(sh 96 [(2,.ptr 0 0),(3,.ptr 1 0),(7,.int .i64 0)],[laB 1,laB 5])] [] [(.exit 4,sh 96 [],[]),(.ret,sh 96 [(4,.bool 0)],[])] f
def w2b (env:LDt):Tree Step:=Lk.stepMC false LK a3a 19 14 ls0 (y2u fun _=>none) env
def w2r:OpT:=Classical.choose (opq (a0b w2b FU))
theorem x2t (env:LDt):w2r env=a0b w2b FU env:=Classical.choose_spec (opq (a0b w2b FU)) env
def a3q:MBox:=y2u w2r
theorem b3t:a3q=y2u (a0b w2b FU):=congrArg y2u (funext x2t)
theorem c3j: ∀t s x,(a0h a3q t s).sel=some x→a0k Try.prog 0 (.loop (cAt Try.prog 19 14)) t s x:=by
 rw[b3t]
 exact a0o (st:=w2b) (m:=FU) w2p hmix false (LsOk.none _ _ _) (by kernel_rfl) (fun env y h=>by rw[←a0f];exact h)
def w2o:LDt→Tree Step
 |[.n n0,.l TS l1,.l TPt l2,.l TPt l3,.l TRt l4]=>
  (.node (decide (n0<(↑(List.length l4):Int)))
   (let r1:OD:=(b3g [.s (Prod.fst (List.getD l4 (Int.toNat n0) (Ty.dflt TRt))),.n (Prod.fst (Prod.snd (List.getD l4 (Int.toNat n0) (Ty.dflt TRt)))),.l TI (Prod.fst (Prod.snd (Prod.snd (List.getD l4 (Int.toNat n0) (Ty.dflt TRt))))),.l TNd (Prod.fst (Prod.snd (Prod.snd (Prod.snd (List.getD l4 (Int.toNat n0) (Ty.dflt TRt)))))),.l TI (Prod.fst (Prod.snd (Prod.snd (Prod.snd (Prod.snd (List.getD l4 (Int.toNat n0) (Ty.dflt TRt))))))),.l TNd (Prod.snd (Prod.snd (Prod.snd (Prod.snd (Prod.snd (List.getD l4 (Int.toNat n0) (Ty.dflt TRt))))))),.s (Prod.fst (List.getD l4 (Int.toNat n0) (Ty.dflt TRt))),.n (Prod.fst (Prod.snd (List.getD l4 (Int.toNat n0) (Ty.dflt TRt)))),.l TI (Prod.fst (Prod.snd (Prod.snd (List.getD l4 (Int.toNat n0) (Ty.dflt TRt))))),.l TNd (Prod.fst (Prod.snd (Prod.snd (Prod.snd (List.getD l4 (Int.toNat n0) (Ty.dflt TRt)))))),.l TI (Prod.fst (Prod.snd (Prod.snd (Prod.snd (Prod.snd (List.getD l4 (Int.toNat n0) (Ty.dflt TRt))))))),.l TNd (Prod.snd (Prod.snd (Prod.snd (Prod.snd (Prod.snd (List.getD l4 (Int.toNat n0) (Ty.dflt TRt)))))))]);
   (.node (isK 0 [HK.b] r1)
    (.node (!gb (dOf r1) 0)
    (.leaf (Step.stop 1 [.b false]))
    (.leaf (Step.go [.k 0,.n (IntKind.wrap .i64 (n0+(1:Int))),.l TS l1,.l TPt l2,.l TPt l3,.l TRt l4,.l TS l1,.l TPt l2,.l TPt l3,.l TRt l4])))
    (.bad 351)))
   (.leaf (Step.stop 0 [])))
 |_=>.bad 0
theorem w2l (n0:Int)(l1:DS)(l2:DP)(l3:DP)(l4:DR)(g0:0≤n0):Imp (w2o [.n n0,.l TS l1,.l TPt l2,.l TPt l3,.l TRt l4]) (w2b [.k 0,.n n0,.l TS l1,.l TPt l2,.l TPt l3,.l TRt l4,.l TS l1,.l TPt l2,.l TPt l3,.l TRt l4]):=
(.pa [1]
(.nd (fun h0=>
(.pq (c:=(inR n0 (List.length l4)))
(.pq (c:=(inR n0 (List.length l4)))
(.nd (fun h1=>
(.pa [1,1]
(.nd (fun h2=>
(.pa [1]
.lf)) (fun h2=>
(.pa [1]
.lf))))) (fun h1=>
.none))))) (fun h0=>
(.pa [1]
.lf))))
theorem g3g:LsOk Try.prog (z0) (lsM [(4,d3k),(9,c3o),(14,a3q)] (z0)) (a0r Try.prog 19):=LsOk.many fun j B hB hk c hc hi=>by
 simp only[b0d]at hB
 split at hB
 ·rename_i e;have:=Nat.eq_of_beq_eq_true e;subst this;cases hB
  rw[a0y (f:=19) (i:=4) (a0e (by kernel_rfl)) (a0d hc hi)];exact e3j
 split at hB
 ·rename_i e;have:=Nat.eq_of_beq_eq_true e;subst this;cases hB
  rw[a0y (f:=19) (i:=9) (a0e (by kernel_rfl)) (a0d hc hi)];exact e3x
 split at hB
 ·rename_i e;have:=Nat.eq_of_beq_eq_true e;subst this;cases hB
  rw[a0y (f:=19) (i:=14) (a0e (by kernel_rfl)) (a0d hc hi)];exact c3j
 cases hB
def kc19 (f:OpT):FBox:=mkF [laV 0,laV 4] [] [] [(.bool 0,[])] f
def e3b (env:LDt):TD:=Lk.boxC false LK a3a 19 (lsM [(4,d3k),(9,c3o),(14,a3q)] (z0)) (kc19 fun _=>none) env
def y2j:OpT:=Classical.choose (opq (fun env=>(e3b env).sel))
theorem b3b (env:LDt):y2j env=(e3b env).sel:=Classical.choose_spec (opq (fun env=>(e3b env).sel)) env
def Bc19:FBox:=kc19 y2j
theorem Bc19_ok:a0v Try.prog 19 (a0j Bc19):=a0p (op:=y2j) w2p hmix false (g3g) (fun env x h=>by rw[b3b]at h;rw[←a0i];exact h)
def d3m:LDt→TD
 |[.l TS l0,.l TPt l1,.l TPt l2,.l TRt l3]=>
  (let r1:OD:=(b3o [.l TS l0,.l TS l0]);
   (.node (isK 0 [HK.b] r1)
   (.node (!gb (dOf r1) 0)
    (.leaf ((0,[.b false])))
    (let r2:OD:=(x2r [.k 0,.n (0:Int),.l TS l0,.l TPt l1,.l TPt l2,.l TRt l3,.l TS l0,.l TPt l1,.l TPt l2,.l TRt l3]);
    (.node (isK 0 [HK.l Ty.str,HK.l TPt,HK.l TPt,HK.l TRt,HK.l Ty.str,HK.l TPt,HK.l TPt,HK.l TRt] r2)
     (let r3:OD:=(x2p [.k 0,.n (0:Int),.l TS (gl Ty.str (dOf r2) 0),.l TPt (gl TPt (dOf r2) 1),.l TPt (gl TPt (dOf r2) 2),.l TRt (gl TRt (dOf r2) 3),.l TS (gl Ty.str (dOf r2) 4),.l TPt (gl TPt (dOf r2) 5),.l TPt (gl TPt (dOf r2) 6),.l TRt (gl TRt (dOf r2) 7)]);
     (.node (isK 0 [HK.l Ty.str,HK.l TPt,HK.l TPt,HK.l TRt,HK.l Ty.str,HK.l TPt,HK.l TPt,HK.l TRt] r3)
      (let r4:OD:=(w2r [.k 0,.n (0:Int),.l TS (gl Ty.str (dOf r3) 0),.l TPt (gl TPt (dOf r3) 1),.l TPt (gl TPt (dOf r3) 2),.l TRt (gl TRt (dOf r3) 3),.l TS (gl Ty.str (dOf r3) 4),.l TPt (gl TPt (dOf r3) 5),.l TPt (gl TPt (dOf r3) 6),.l TRt (gl TRt (dOf r3) 7)]);
      (.node (isK 0 [] r4)
       (.leaf ((0,[.b true])))
       (.node (isK 1 [HK.b] r4)
       (.leaf ((0,[.b (gb (dOf r4) 0)])))
       (.bad 351))))
      (.node (isK 1 [HK.b] r3)
      (.leaf ((0,[.b (gb (dOf r3) 0)])))
      (.bad 351))))
     (.node (isK 1 [HK.b] r2)
     (.leaf ((0,[.b (gb (dOf r2) 0)])))
     (.bad 351)))))
   (.bad 351)))
 |_=>.bad 0
theorem b3q (l0:DS)(l1:DP)(l2:DP)(l3:DR):Imp (d3m [.l TS l0,.l TPt l1,.l TPt l2,.l TRt l3]) (e3b [.l TS l0,.l TPt l1,.l TPt l2,.l TRt l3,.l TS l0,.l TPt l1,.l TPt l2,.l TRt l3]):=
(.nd (fun h0=>
(.pa [1]
(.nd (fun h1=>
(.pa [1,1,1,1,1,1,1]
.lf)) (fun h1=>
(.pf (c:=((↑(List.length l1):Int) !=(↑(List.length l1):Int))) (by kernel_rfl) (by kernel_rfl) (by(simp[*];done))
(.pf (c:=((↑(List.length l2):Int) !=(↑(List.length l2):Int))) (by kernel_rfl) (by kernel_rfl) (by(simp[*];done))
(.pf (c:=((↑(List.length l3):Int) !=(↑(List.length l3):Int))) (by kernel_rfl) (by kernel_rfl) (by(simp[*];done))
(.nd (fun h2=>
(.nd (fun h3=>
(.nd (fun h4=>
(.pa [1]
.lf)) (fun h4=>
(.nd (fun h5=>
(.pa [1]
.lf)) (fun h5=>
.none))))) (fun h3=>
(.nd (fun h4=>
(.pa [1]
.lf)) (fun h4=>
.none))))) (fun h2=>
(.nd (fun h3=>
(.pa [1]
.lf)) (fun h3=>
.none))))))))))) (fun h0=>
.none))
def d3r:FuncId→Option a0q:=a0s 19 Bc19 a3a
theorem z2h:CsOk Try.prog d3r:=a0g w2p Bc19_ok
def a3p (f:OpT):MBox:=mkM (cv:=[(3,[],3,.own TRt)]) 0 [] [(sh 73 [(1,.ptr 0 0),(2,.ptr 1 0),(3,.ptr 2 0),(4,.int .i64 0)],[laB 1,nC,oC 3,.arr TS 5,.arr TPt 6,.arr TPt 7,.arr TRt 8])] [] [(.exit 0,sh 73 [(2,.ptr 0 0),(3,.ptr 1 0)],[nC,oC 2,.arr TS 0,.arr TPt 1,.arr TPt 2,.arr TRt 3])] f
def w2i (env:LDt):Tree Step:=Lk.stepMC false LK d3r 16 6 ls0 (a3p fun _=>none) env
def x2y:OpT:=Classical.choose (opq (a0b w2i FU))
theorem y2k (env:LDt):x2y env=a0b w2i FU env:=Classical.choose_spec (opq (a0b w2i FU)) env
def c3t:MBox:=a3p x2y
theorem f3g:c3t=a3p (a0b w2i FU):=congrArg a3p (funext y2k)
theorem f3i: ∀t s x,(a0h c3t t s).sel=some x→a0k Try.prog 0 (.loop (cAt Try.prog 16 6)) t s x:=by
 rw[f3g]
 exact a0o (st:=w2i) (m:=FU) z2h hmix false (LsOk.none _ _ _) (by kernel_rfl) (fun env y h=>by rw[←a0f];exact h)
def x2m:LDt→Tree Step
 |[.n n0,.l TS l1,.l TPt l2,.l TPt l3,.l TRt l4,.l TS l5,.l TPt l6,.l TPt l7,.l TRt l8]=>
  (.node (decide (n0<(↑(List.length l4):Int)))
   (.node (decide (List.length (Prod.fst (Prod.snd (Prod.snd (List.getD l4 (Int.toNat n0) (Ty.dflt TRt)))))*8≤140737488355328))
   (.node (decide (List.length (Prod.fst (Prod.snd (Prod.snd (Prod.snd (List.getD l4 (Int.toNat n0) (Ty.dflt TRt))))))*16≤140737488355328))
    (.node (decide (List.length (Prod.fst (Prod.snd (Prod.snd (Prod.snd (Prod.snd (List.getD l4 (Int.toNat n0) (Ty.dflt TRt)))))))*8≤140737488355328))
    (.node (decide (List.length (Prod.snd (Prod.snd (Prod.snd (Prod.snd (Prod.snd (List.getD l4 (Int.toNat n0) (Ty.dflt TRt)))))))*16≤140737488355328))
     (.node (decide ((List.length l8+1)*120≤140737488355328))
     (.leaf (Step.go [.k 0,.n (IntKind.wrap .i64 (n0+(1:Int))),.l TS l1,.l TPt l2,.l TPt l3,.l TRt l4,.l TS l5,.l TPt l6,.l TPt l7,.l TRt (apR (l8) (Prod.fst (List.getD l4 (Int.toNat n0) (Ty.dflt TRt)),Prod.fst (Prod.snd (List.getD l4 (Int.toNat n0) (Ty.dflt TRt))),Prod.fst (Prod.snd (Prod.snd (List.getD l4 (Int.toNat n0) (Ty.dflt TRt)))),Prod.fst (Prod.snd (Prod.snd (Prod.snd (List.getD l4 (Int.toNat n0) (Ty.dflt TRt))))),Prod.fst (Prod.snd (Prod.snd (Prod.snd (Prod.snd (List.getD l4 (Int.toNat n0) (Ty.dflt TRt)))))),Prod.snd (Prod.snd (Prod.snd (Prod.snd (Prod.snd (List.getD l4 (Int.toNat n0) (Ty.dflt TRt))))))))]))
     (.bad 62))
     (.bad 60))
    (.bad 60))
    (.bad 60))
   (.bad 60))
   (.leaf (Step.stop 0 [.l TS l5,.l TPt l6,.l TPt l7,.l TRt l8])))
 |_=>.bad 0
theorem w2z (n0:Int)(l1:DS)(l2:DP)(l3:DP)(l4:DR)(l5:DS)(l6:DP)(l7:DP)(l8:DR)(g0:0≤n0):Imp (x2m [.n n0,.l TS l1,.l TPt l2,.l TPt l3,.l TRt l4,.l TS l5,.l TPt l6,.l TPt l7,.l TRt l8]) (w2i [.k 0,.n n0,.l TS l1,.l TPt l2,.l TPt l3,.l TRt l4,.l TS l5,.l TPt l6,.l TPt l7,.l TRt l8]):=
(.pa [1]
(.nd (fun h0=>
(.pq (c:=(inR n0 (List.length l4)))
(.nd (fun h1=>
(.nd (fun h2=>
(.nd (fun h3=>
(.nd (fun h4=>
(.nd (fun h5=>
(.pa [1]
.lf)) (fun h5=>
.none))) (fun h4=>
.none))) (fun h3=>
.none))) (fun h2=>
.none))) (fun h1=>
.none)))) (fun h0=>
(.pa [1]
.lf))))
theorem f3q:LsOk Try.prog (z0) (lsM [(6,c3t)] (z0)) (a0r Try.prog 16):=LsOk.many fun j B hB hk c hc hi=>by
 simp only[b0d]at hB
 split at hB
 ·rename_i e;have:=Nat.eq_of_beq_eq_true e;subst this;cases hB
  rw[a0y (f:=16) (i:=6) (a0e (by kernel_rfl)) (a0d hc hi)];exact f3i
 cases hB
def kc16 (f:OpT):FBox:=mkF [laV 0] [] [] [(.agg [.own 0,.own 1,.own 2,.own 3],[.arr TS 0,.arr TPt 1,.arr TPt 2,.arr TRt 3])] f
def d3y (env:LDt):TD:=Lk.boxC false LK d3r 16 (lsM [(6,c3t)] (z0)) (kc16 fun _=>none) env
def b3k:OpT:=Classical.choose (opq (fun env=>(d3y env).sel))
theorem b3j (env:LDt):b3k env=(d3y env).sel:=Classical.choose_spec (opq (fun env=>(d3y env).sel)) env
def Bc16:FBox:=kc16 b3k
theorem Bc16_ok:a0v Try.prog 16 (a0j Bc16):=a0p (op:=b3k) z2h hmix false (f3q) (fun env x h=>by rw[b3j]at h;rw[←a0i];exact h)
def d3g:LDt→TD
 |[.l TS l0,.l TPt l1,.l TPt l2,.l TRt l3]=>
  (.node (decide (List.length l0*16≤140737488355328))
   (.node (decide (List.length l1*24≤140737488355328))
   (.node (decide (List.length l2*24≤140737488355328))
    (let r1:OD:=(x2y [.k 0,.n (0:Int),.l TS l0,.l TPt l1,.l TPt l2,.l TRt l3,.l TS l0,.l TPt l1,.l TPt l2,.l TRt []]);
    (.node (isK 0 [HK.l Ty.str,HK.l TPt,HK.l TPt,HK.l TRt] r1)
     (.leaf ((0,[.l TS (gl Ty.str (dOf r1) 0),.l TPt (gl TPt (dOf r1) 1),.l TPt (gl TPt (dOf r1) 2),.l TRt (gl TRt (dOf r1) 3)])))
     (.bad 351)))
    (.bad 60))
   (.bad 60))
   (.bad 60))
 |_=>.bad 0
theorem c3c (l0:DS)(l1:DP)(l2:DP)(l3:DR):Imp (d3g [.l TS l0,.l TPt l1,.l TPt l2,.l TRt l3]) (d3y [.l TS l0,.l TPt l1,.l TPt l2,.l TRt l3]):=
(.nd (fun h0=>
(.nd (fun h1=>
(.nd (fun h2=>
(.nd (fun h3=>
(.pa [1]
.lf)) (fun h3=>
.none))) (fun h2=>
.none))) (fun h1=>
.none))) (fun h0=>
.none))
def b3d:FuncId→Option a0q:=e1c 16 [Bc16] d3r
theorem x2w:CsOk Try.prog b3d:=h0a z2h fun B hB=>by
 cases List.mem_singleton.1 hB
 exact Bc16_ok
def y2w (f:OpT):MBox:=mkM 0 [] [(sh 58 [(1,.ptr 0 0),(6,.own 1),(7,.int .i64 0),(8,.int .u64 1),(9,.int .i64 2)],[laB 3,.arr TU 7])] [] [(.exit 2,sh 58 [(1,.ptr 0 0),(6,.own 1),(7,.int .i64 0),(8,.int .u64 1)],[laB 2,.arr TU 6])] f
def w2a (env:LDt):Tree Step:=Lk.stepMC false LK b3d 18 10 ls0 (y2w fun _=>none) env
def w2q:OpT:=Classical.choose (opq (a0b w2a FU))
theorem x2o (env:LDt):w2q env=a0b w2a FU env:=Classical.choose_spec (opq (a0b w2a FU)) env
def a3t:MBox:=y2w w2q
theorem b3v:a3t=y2w (a0b w2a FU):=congrArg y2w (funext x2o)
theorem c3b: ∀t s x,(a0h a3t t s).sel=some x→a0k Try.prog 0 (.loop (cAt Try.prog 18 10)) t s x:=by
 rw[b3v]
 exact a0o (st:=w2a) (m:=FU) x2w hmix false (LsOk.none _ _ _) (by kernel_rfl) (fun env y h=>by rw[←a0f];exact h)
def w2n:LDt→Tree Step
 |[.n n0,.n n1,.n n2,.l TS l3,.l TPt l4,.l TPt l5,.l TRt l6,.l TU l7]=>
  (.node (decide (n2<(↑(List.length l6):Int)))
   (.node (n0 !=n2)
   (let r1:OD:=(m1e [.l TS l3,.l TPt l4,.l TPt l5,.l TRt l6,.s (Prod.fst (List.getD l6 (Int.toNat n0) (Ty.dflt TRt))),.n (Prod.fst (Prod.snd (List.getD l6 (Int.toNat n0) (Ty.dflt TRt)))),.l TI (Prod.fst (Prod.snd (Prod.snd (List.getD l6 (Int.toNat n0) (Ty.dflt TRt))))),.l TNd (Prod.fst (Prod.snd (Prod.snd (Prod.snd (List.getD l6 (Int.toNat n0) (Ty.dflt TRt)))))),.l TI (Prod.fst (Prod.snd (Prod.snd (Prod.snd (Prod.snd (List.getD l6 (Int.toNat n0) (Ty.dflt TRt))))))),.l TNd (Prod.snd (Prod.snd (Prod.snd (Prod.snd (Prod.snd (List.getD l6 (Int.toNat n0) (Ty.dflt TRt))))))),.s (Prod.fst (List.getD l6 (Int.toNat n2) (Ty.dflt TRt))),.n (Prod.fst (Prod.snd (List.getD l6 (Int.toNat n2) (Ty.dflt TRt)))),.l TI (Prod.fst (Prod.snd (Prod.snd (List.getD l6 (Int.toNat n2) (Ty.dflt TRt))))),.l TNd (Prod.fst (Prod.snd (Prod.snd (Prod.snd (List.getD l6 (Int.toNat n2) (Ty.dflt TRt)))))),.l TI (Prod.fst (Prod.snd (Prod.snd (Prod.snd (Prod.snd (List.getD l6 (Int.toNat n2) (Ty.dflt TRt))))))),.l TNd (Prod.snd (Prod.snd (Prod.snd (Prod.snd (Prod.snd (List.getD l6 (Int.toNat n2) (Ty.dflt TRt)))))))]);
    (.node (isK 0 [HK.b] r1)
    (.node (gb (dOf r1) 0)
     (.leaf (Step.go [.k 0,.n n0,.n (ior IntKind.u64 n1 (ishl IntKind.u64 (1:Int) n2)),.n (IntKind.wrap .i64 (n2+(1:Int))),.l TS l3,.l TPt l4,.l TPt l5,.l TRt l6,.l TU l7]))
     (.leaf (Step.go [.k 0,.n n0,.n n1,.n (IntKind.wrap .i64 (n2+(1:Int))),.l TS l3,.l TPt l4,.l TPt l5,.l TRt l6,.l TU l7])))
    (.bad 351)))
   (.leaf (Step.go [.k 0,.n n0,.n n1,.n (IntKind.wrap .i64 (n2+(1:Int))),.l TS l3,.l TPt l4,.l TPt l5,.l TRt l6,.l TU l7])))
   (.leaf (Step.stop 0 [.n n0,.n n1,.l TS l3,.l TPt l4,.l TPt l5,.l TRt l6,.l TU l7])))
 |_=>.bad 0
theorem w2m (n0:Int)(n1:Int)(n2:Int)(l3:DS)(l4:DP)(l5:DP)(l6:DR)(l7:List (Ty.den TU))(g0:0≤n0)(g1:0≤n2)(g2:n0<(l6.length:Int)):Imp (w2n [.n n0,.n n1,.n n2,.l TS l3,.l TPt l4,.l TPt l5,.l TRt l6,.l TU l7]) (w2a [.k 0,.n n0,.n n1,.n n2,.l TS l3,.l TPt l4,.l TPt l5,.l TRt l6,.l TU l7]):=
(.pa [1]
(.nd (fun h0=>
(.nd (fun h1=>
(.pq (c:=(inR n0 (List.length l6)))
(.pq (c:=(inR n2 (List.length l6)))
(.nd (fun h2=>
(.pa [1,1]
(.nd (fun h3=>
(.pt (c:=(!decide (n2<(0:Int)))) (by kernel_rfl) (by kernel_rfl) (by(simp[*];done))
(.pa [1]
.lf))) (fun h3=>
(.pa [1]
.lf))))) (fun h2=>
.none))))) (fun h1=>
(.pa [0,1,0,1]
.lf)))) (fun h0=>
(.pa [1]
.lf))))
def a3i (f:OpT):MBox:=mkM 0 [] [(sh 58 [(1,.ptr 0 0),(6,.own 1),(7,.int .i64 0)],[laB 1,.arr TU 5])] [(6,TU)] [(.exit 0,sh 58 [(6,.own 0)],[.arr TU 0])] f
def w2d (env:LDt):Tree Step:=Lk.stepMC false LK b3d 18 6 (lsM [(10,a3t)] 0) (a3i fun _=>none) env
def x2n:OpT:=Classical.choose (opq (a0b w2d FU))
theorem y2i (env:LDt):x2n env=a0b w2d FU env:=Classical.choose_spec (opq (a0b w2d FU)) env
def d3t:MBox:=a3i x2n
theorem e3r:d3t=a3i (a0b w2d FU):=congrArg a3i (funext y2i)
theorem g3b:LsOk Try.prog 0 (lsM [(10,a3t)] 0) (cAt Try.prog 18 6):=LsOk.many fun j B hB hk c hc hi=>by
 simp only[b0d]at hB
 split at hB
 ·rename_i e;have:=Nat.eq_of_beq_eq_true e;subst this;cases hB
  have e1:v0m (cAt Try.prog 18 6) 10=[cAt Try.prog 18 10]:=by kernel_rfl
  have e2:=a0d hc hi
  rw[e1]at e2;cases List.mem_singleton.1 e2;exact c3b
 cases hB
theorem e3q: ∀t s x,(a0h d3t t s).sel=some x→a0k Try.prog 0 (.loop (cAt Try.prog 18 6)) t s x:=by
 rw[e3r]
 exact a0o (st:=w2d) (m:=FU) x2w hmix false (g3b) (by kernel_rfl) (fun env y h=>by rw[←a0f];exact h)
def x2j:LDt→Tree Step
 |[.n n0,.l TS l1,.l TPt l2,.l TPt l3,.l TRt l4,.l TU l5]=>
  (.node (decide (n0<(↑(List.length l4):Int)))
   (let r1:OD:=(w2q [.k 0,.n n0,.n (0:Int),.n (0:Int),.l TS l1,.l TPt l2,.l TPt l3,.l TRt l4,.l TU l5]);
   (.node (isK 0 [HK.n,HK.n,HK.l Ty.str,HK.l TPt,HK.l TPt,HK.l TRt,HK.l TU] r1)
    (.node (decide ((List.length (gl TU (dOf r1) 6)+1)*8≤140737488355328))
    (.leaf (Step.go [.k 0,.n (IntKind.wrap .i64 (gn (dOf r1) 0+(1:Int))),.l TS (gl Ty.str (dOf r1) 2),.l TPt (gl TPt (dOf r1) 3),.l TPt (gl TPt (dOf r1) 4),.l TRt (gl TRt (dOf r1) 5),.l TU (gl TU (dOf r1) 6++[gn (dOf r1) 1])]))
    (.bad 62))
    (.bad 351)))
   (.leaf (Step.stop 0 [.l TU l5])))
 |_=>.bad 0
theorem w2v (n0:Int)(l1:DS)(l2:DP)(l3:DP)(l4:DR)(l5:List (Ty.den TU))(g0:0≤n0):Imp (x2j [.n n0,.l TS l1,.l TPt l2,.l TPt l3,.l TRt l4,.l TU l5]) (w2d [.k 0,.n n0,.l TS l1,.l TPt l2,.l TPt l3,.l TRt l4,.l TU l5]):=
(.pa [1]
(.nd (fun h0=>
(.nd (fun h1=>
(.nd (fun h2=>
(.pa [1]
.lf)) (fun h2=>
.none))) (fun h1=>
.none))) (fun h0=>
(.pa [1]
.lf))))
theorem f3s:LsOk Try.prog (z0) (lsM [(6,d3t)] (z0)) (a0r Try.prog 18):=LsOk.many fun j B hB hk c hc hi=>by
 simp only[b0d]at hB
 split at hB
 ·rename_i e;have:=Nat.eq_of_beq_eq_true e;subst this;cases hB
  rw[a0y (f:=18) (i:=6) (a0e (by kernel_rfl)) (a0d hc hi)];exact e3q
 cases hB
def kc18 (f:OpT):FBox:=mkF [laV 0] [] [] [(.tup [.own 0,.int .i64 0],[.arr TU 1]),(.tup [.nilsl,.int .i64 0],[])] f
def d3u (env:LDt):TD:=Lk.boxC false LK b3d 18 (lsM [(6,d3t)] (z0)) (kc18 fun _=>none) env
def z2v:OpT:=Classical.choose (opq (fun env=>(d3u env).sel))
theorem b3e (env:LDt):z2v env=(d3u env).sel:=Classical.choose_spec (opq (fun env=>(d3u env).sel)) env
def Bc18:FBox:=kc18 z2v
theorem Bc18_ok:a0v Try.prog 18 (a0j Bc18):=a0p (op:=z2v) x2w hmix false (f3s) (fun env x h=>by rw[b3e]at h;rw[←a0i];exact h)
def c3n:LDt→TD
 |[.l TS l0,.l TPt l1,.l TPt l2,.l TRt l3]=>
  (let r1:OD:=(f2v [.l TS l0,.l TPt l1,.l TPt l2,.l TRt l3]);
   (.node (isK 0 [HK.n,HK.n] r1)
   (.node (gn (dOf r1) 0 !=(0:Int))
    (.leaf ((1,[.n (gn (dOf r1) 0)])))
    (let r2:OD:=(x2n [.k 0,.n (0:Int),.l TS l0,.l TPt l1,.l TPt l2,.l TRt l3,.l TU []]);
    (.node (isK 0 [HK.l TU] r2)
     (.leaf ((0,[.n (0:Int),.l TU (gl TU (dOf r2) 0)])))
     (.bad 351))))
   (.bad 351)))
 |_=>.bad 0
theorem b3w (l0:DS)(l1:DP)(l2:DP)(l3:DR):Imp (c3n [.l TS l0,.l TPt l1,.l TPt l2,.l TRt l3]) (d3u [.l TS l0,.l TPt l1,.l TPt l2,.l TRt l3]):=
(.nd (fun h0=>
(.pa [1]
(.nd (fun h1=>
(.pa [1]
.lf)) (fun h1=>
(.nd (fun h2=>
(.pa [1]
.lf)) (fun h2=>
.none)))))) (fun h0=>
.none))
theorem s2t {i:Int}{n:Nat}(h0:0≤i)(h1:i<(n:Int)):inR i n=true:=g1v.2 ⟨h0,h1⟩
theorem rtG_of {b c:LP}{e:Rt}(h:rtOk b c e):rtG b e=true:=by
 obtain⟨_,⟨h1,h2,h3,h4⟩,h5,h6⟩:=h
 unfold rtG
 rw[dt h1,dt h2,dt h3,dt h4]
 simp only[Bool.true_and,List.all_eq_true]
 intro d hd
 rcases List.mem_append.1 (show d∈eQ e++eF e from hd)with hd|hd
 ·exact g1v.2 (h5 d hd)
 ·exact g1v.2 (h6 d hd)
theorem oCl (a:LS)(b c:LP)(r:LR)(i j:Int)(hm:mayL a b c r=true)(hi:0≤i∧i<(r.length:Int))(hj:0≤j∧j<(r.length:Int)):
  g2p [.l TS a,.l TPt b,.l TPt c,.l TRt r,.n i,.n j]=some (0,[.b (clF b r i j)]):=by
 rw[u1p]
 obtain⟨_,_,hr⟩:=l0q hm
 have h1:okC b r i j=true:=by
  unfold okC
  rw[s2t hi.1 hi.2,s2t hj.1 hj.2]
  have g1:rtG b (rAt r i)=true:=rtG_of (hr i.toNat (by omega))
  have g2:rtG b (rAt r j)=true:=rtG_of (hr j.toNat (by omega))
  rw[g1,g2];rfl
 show(match c0r TS TS a,c0r TPt TPt b,c0r TPt TPt c,c0r TRt TRt r with|some a,some b,some c,some r=>bif okC b r i j then some (0,[Dat.b (clF b r i j)])else none|_,_,_,_=>none)=_
 simp only[d0b,h1]
 rfl
theorem n2x {l:LN}(hn:(nd l).Nodup){d:Ty.den TNd}(hd:d∈l):sdF l (f1 d)=some (g2 d):=by
 induction l with
 |nil=>cases hd
 |cons e l ih=>
  have hn':(f1 e::nd l).Nodup:=hn
  rw[List.nodup_cons]at hn'
  unfold sdF
  rw[List.find?_cons]
  rcases List.mem_cons.1 hd with rfl|hd
  ·rw[show(f1 d==f1 d)=true from bt rfl];rfl
  ·have:f1 e≠f1 d:=fun h=>hn'.1 (h▸List.mem_map_of_mem (f:=f1) hd)
   rw[show(f1 e==f1 d)=false from bf this]
   exact ih hn'.2 hd
theorem g3u {l:LN}{p:Int}(h:p∉nd l):sdF l p=none:=by
 unfold sdF
 rw[Option.map_eq_none_iff,List.find?_eq_none]
 intro d hd hp
 exact h ((qeT hp:f1 d=p)▸List.mem_map_of_mem (f:=f1) hd)
theorem sds_nd {l:LN}(hn:(nd l).Nodup):sds l=l:=by
 unfold sds
 have: ∀(l acc:LN),(nd (List.append acc l)).Nodup→l.foldl j0c acc=List.append acc l:=by
  intro l
  induction l with
  |nil=>intro acc _;exact(List.append_nil acc).symm
  |cons d l ih=>
   intro acc h
   rw[List.foldl_cons]
   have e:List.append acc (d::l)=List.append (List.append acc [d]) l:=by
    show acc++(d::l)=(acc++[d])++l
    rw[List.append_assoc];rfl
   have h1:j0c acc d=List.append acc [d]:=by
    unfold j0c
    have:f1 d∉nd acc:=fun hm=>by
     have h2:(nd acc++nd (d::l)).Nodup:=by
      have:nd (List.append acc (d::l))=nd acc++nd (d::l):=List.map_append
      rw[←this];exact h
     rw[List.nodup_append]at h2
     exact h2.2.2 _ hm _ (List.mem_cons_self) rfl
    rw[g3u this];rfl
   rw[h1,e]
   exact ih _ (e▸h)
 exact(this l [] hn).trans (List.nil_append l)
abbrev B64:=BitVec 64
def pw2 (k:Nat):B64:=1#64<<<k
theorem f3k (k i:Nat):(pw2 k).getLsbD i=(decide (i<64)&&decide (i=k)):=by
 unfold pw2
 rw[BitVec.getLsbD_shiftLeft]
 by_cases h:i=k
 ·subst h;simp
 ·by_cases h2:i<k
  ·simp[h,h2]
  ·have:i-k≠0:=by omega
   simp[h,h2,this]
theorem iandB (X:B64)(k:Nat):(iand IntKind.u64 (ishr IntKind.u64 (N X) (k:Int)) (1:Int)==(1:Int))=X.getLsbD k:=by
 rw[x1k,show(1:Int)=N (1#64)from rfl,u1v,N_beq,Bool.eq_iff_iff,beq_iff_eq]
 constructor
 ·intro h
  have:=congrArg (fun y=>y.getLsbD 0) h
  simp at this
  simpa [BitVec.getLsbD_eq_getElem]using this
 ·intro h
  apply BitVec.eq_of_getLsbD_eq
  intro i hi
  rw[BitVec.getLsbD_and,BitVec.getLsbD_ushiftRight]
  by_cases h0:i=0
  ·subst h0;simp[h]
  ·simp[h0]
theorem ishlB (k:Nat):ishl IntKind.u64 (1:Int) (k:Int)=N (pw2 k):=by
 rw[show(1:Int)=N (1#64)from rfl,u2u];rfl
abbrev LB64:=List B64
def NL (T:LB64):List Int:=T.map N
theorem u1l (T:LB64):(NL T).length=T.length:=List.length_map ..
theorem NL_at (T:LB64)(x:Nat):(NL T).getD x 0=N (T.getD x 0#64):=by
 unfold NL
 rw[List.getD_eq_getElem?_getD,List.getD_eq_getElem?_getD,List.getElem?_map]
 cases T[x]? <;>rfl
theorem NL_set (T:LB64)(x:Nat)(v:B64):(NL T).set x (N v)=NL (T.set x v):=by
 unfold NL;rw[List.map_set]
def bitT (T:LB64)(x y:Nat):Bool:=(T.getD x 0#64).getLsbD y
def orB (T:LB64)(x k:Nat):LB64:=T.set x (T.getD x 0#64|||pw2 k)
theorem t1k (T:LB64)(x k:Nat):(orB T x k).length=T.length:=List.length_set ..
theorem bt_or (T:LB64){x k:Nat}(hx:x<T.length)(x':Nat){y:Nat}(hy:y<64):bitT (orB T x k) x' y=(bitT T x' y||(decide (x'=x)&&decide (y=k))):=by
 unfold bitT orB
 rw[List.getD_eq_getElem?_getD,List.getElem?_set]
 by_cases h:x=x'
 ·subst h
  rw[if_pos rfl,if_pos hx,Option.getD_some,BitVec.getLsbD_or,f3k,dt hy,dt rfl]
 ·rw[if_neg h,df (fun e=>h e.symm),Bool.false_and,Bool.or_false,←List.getD_eq_getElem?_getD]
def orII (T:LB64)(i k:Nat):LB64:=orB (orB T i k) k i
def rowK (cl:Nat→Nat→Bool)(i:Nat):Nat→LB64→LB64
 |0,T=>T
 |k+1,T=>bif cl i k then orII (rowK cl i k T) i k else rowK cl i k T
def tabI (cl:Nat→Nat→Bool)(m:Nat):Nat→LB64
 |0=>List.replicate m 0#64
 |i+1=>rowK cl i i (tabI cl m i)
theorem q2m (T:LB64)(i k:Nat):(orII T i k).length=T.length:=by unfold orII;rw[t1k,t1k]
theorem r0r (cl:Nat→Nat→Bool)(i:Nat)(T:LB64): ∀k,(rowK cl i k T).length=T.length
 |0=>rfl
 |k+1=>by
  unfold rowK
  cases cl i k with
  |true=>rw[cond_true,q2m];exact r0r cl i T k
  |false=>exact r0r cl i T k
theorem o0n (cl:Nat→Nat→Bool)(m:Nat): ∀i,(tabI cl m i).length=m
 |0=>List.length_replicate ..
 |i+1=>by unfold tabI;rw[r0r];exact o0n cl m i
theorem bt_row (cl:Nat→Nat→Bool)(i:Nat)(T:LB64)(hi:i<T.length)(x:Nat){y:Nat}(hy:y<64): ∀k,k≤i→bitT (rowK cl i k T) x y=(bitT T x y||((decide (x=i)&&(decide (y<k)&&cl i y))||(decide (y=i)&&(decide (x<k)&&cl i x))))
 |0,_=>by
  show bitT T x y=_
  rw[df (show¬y<0 by omega),df (show¬x<0 by omega)];simp
 |k+1,hk=>by
  have ih:=bt_row cl i T hi x hy k (by omega)
  have hl:=r0r cl i T k
  unfold rowK
  have e:bitT (bif cl i k then orII (rowK cl i k T) i k else rowK cl i k T) x y=(bitT (rowK cl i k T) x y||(cl i k&&((decide (x=i)&&decide (y=k))||(decide (x=k)&&decide (y=i))))):=by
   cases hc:cl i k with
   |false=>simp
   |true=>
    rw[cond_true]
    unfold orII
    rw[bt_or _ (by rw[t1k,hl];omega) x hy,bt_or _ (by rw[hl];exact hi) x hy]
    simp[Bool.or_assoc]
  rw[e,ih]
  by_cases h1:x=i
  ·by_cases h2:y=k
   ·subst h1 h2
    rw[dt rfl,dt rfl,df (show¬y<y by omega),dt (show y<y+1 by omega),df (show¬y=x by omega),df (show¬x=y by omega)]
    simp
   ·by_cases h3:x=k
    ·omega
    ·subst h1
     rw[dt rfl,df h2,df h3,show decide (y<k+1)=decide (y<k)from decide_eq_decide.2 (by omega),df (show¬x<k by omega),df (show¬x<k+1 by omega)]
     simp
  ·by_cases h3:x=k
   ·by_cases h4:y=i
    ·subst h3 h4
     rw[df h1,dt rfl,dt rfl,df (show¬x<x by omega),dt (show x<x+1 by omega)]
     simp
    ·subst h3
     rw[df h1,df h4];simp
   ·rw[df h1,df h3,show decide (x<k+1)=decide (x<k)from decide_eq_decide.2 (by omega)];simp
theorem bt_tab (cl:Nat→Nat→Bool)(m:Nat)(x:Nat){y:Nat}(hy:y<64): ∀i,i≤m→bitT (tabI cl m i) x y=(decide (x<i)&&decide (y<i)&&((decide (y<x)&&cl x y)||(decide (x<y)&&cl y x)))
 |0,_=>by
  rw[df (show¬x<0 by omega)]
  show bitT (List.replicate m 0#64) x y=_
  unfold bitT
  have:(List.replicate m 0#64).getD x 0#64=0#64:=by
   rw[List.getD_eq_getElem?_getD,List.getElem?_replicate];split<;>rfl
  rw[this];simp
 |i+1,hi=>by
  have ih:=bt_tab cl m x hy i (by omega)
  unfold tabI
  rw[bt_row cl i _ (by rw[o0n];omega) x hy i (Nat.le_refl _),ih]
  by_cases h1:x=i
  ·subst h1
   rw[df (show¬x<x by omega),dt (show x<x+1 by omega),dt rfl]
   by_cases h2:y<x
   ·rw[dt h2,df (show¬y=x by omega),dt (show y<x+1 by omega),df (show¬x<y by omega)];simp
   ·by_cases h3:y=x
    ·subst h3;rw[df h2,dt rfl];simp
    ·rw[df h2,df h3,df (show¬y<x+1 by omega)];simp
  ·by_cases h2:y=i
   ·subst h2
    rw[df h1,dt rfl,df (show¬y<y by omega),dt (show y<y+1 by omega),show decide (x<y+1)=decide (x<y)from decide_eq_decide.2 (by omega)]
    by_cases h3:x<y
    ·rw[dt h3,df (show¬y<x by omega)];simp
    ·rw[df h3];simp
   ·rw[df h1,df h2,show decide (x<i+1)=decide (x<i)from decide_eq_decide.2 (by omega),show decide (y<i+1)=decide (y<i)from decide_eq_decide.2 (by omega)];simp
theorem z0x {l:LN}{p:Int}{z:Bool}(h:sdF l p=some z): ∃d∈l,f1 d=p∧g2 d=z:=by
 unfold sdF at h
 rw[Option.map_eq_some_iff]at h
 obtain⟨d,h1,h2⟩:=h
 have hh:(f1 d==p)=true:=List.find?_some (p:=fun d=>f1 d==p) h1
 exact⟨d,List.mem_of_find?_eq_some h1,qeT hh,h2⟩
theorem c1n (l:LN):(nd (sds l)).Nodup:=by
 unfold sds
 have: ∀(l acc:LN),(nd acc).Nodup→(nd (l.foldl j0c acc)).Nodup:=by
  intro l
  induction l with
  |nil=>intro acc h;exact h
  |cons d l ih=>
   intro acc h
   rw[List.foldl_cons]
   refine ih _ ?_
   unfold j0c
   cases hc:sdF acc (f1 d)with
   |some _=>exact h
   |none=>
    have hm:f1 d∉nd acc:=fun hm=>by
     obtain⟨e,he,h2⟩:=List.mem_map.1 hm
     have:=n2x h he
     rw[h2,hc]at this;cases this
    have e:nd (apN acc d)=nd acc++[f1 d]:=by
     show List.map f1 (acc++[d])=_
     rw[List.map_append];rfl
    show(nd (apN acc d)).Nodup
    rw[e,List.nodup_append]
    refine⟨h,List.nodup_cons.2 ⟨by simp,List.nodup_nil⟩,fun x hx y hy e=> ?_⟩
    rw[List.mem_singleton.1 hy]at e
    exact hm (e▸hx)
 exact this l [] List.nodup_nil
theorem t2g (a b:LI):shF a b=shF b a:=by
 unfold shF
 rw[Bool.eq_iff_iff,List.any_eq_true,List.any_eq_true]
 constructor
 ·rintro⟨x,h1,h2⟩;exact⟨x,of_decide_eq_true h2,dt h1⟩
 ·rintro⟨x,h1,h2⟩;exact⟨x,of_decide_eq_true h2,dt h1⟩
theorem unF_le {a b:LN}(ha:(nd a).Nodup)(h:unF a b=true):unF b a=true:=by
 unfold unF at*
 rw[List.any_eq_true]at*
 obtain⟨d,h1,h2⟩:=h
 unfold unAt at h2
 cases hs:sdF b (f1 d)with
 |none=>rw[hs]at h2;cases h2
 |some z=>
  rw[hs]at h2
  have h2:(z !=g2 d)=true:=h2
  obtain⟨e,e1,e2,e3⟩:=z0x hs
  refine⟨e,e1,?_⟩
  unfold unAt
  rw[e2,n2x ha h1]
  show(g2 d !=g2 e)=true
  rw[e3]
  revert h2
  cases z<;>cases g2 d<;>simp
theorem t2t {a b:LN}(ha:(nd a).Nodup)(hb:(nd b).Nodup):unF a b=unF b a:=by
 rw[Bool.eq_iff_iff];exact⟨unF_le ha,unF_le hb⟩
theorem a2a (b:LP)(x y:Rt):cfE b x y=cfE b y x:=by
 unfold cfE
 rw[t2g,t2t (c1n _) (c1n _),decide_eq_decide.2 (show eN x=eN y↔eN y=eN x from⟨Eq.symm,Eq.symm⟩),Bool.or_comm (wayF b (sds (ndsE x)) (trk y) (sds (ndsE y)))]
theorem r2d (b:LP)(r:LR)(i j:Int):clF b r i j=clF b r j i:=by
 unfold clF
 rw[a2a,decide_eq_decide.2 (show i=j↔j=i from⟨Eq.symm,Eq.symm⟩)]
theorem r2k (b:LP)(r:LR)(i:Int):clF b r i i=false:=by unfold clF;rw[dt rfl];rfl
def clN (b:LP)(r:LR)(i k:Nat):Bool:=clF b r (i:Int) (k:Int)
def tabB (b:LP)(r:LR):LB64:=tabI (clN b r) r.length r.length
theorem m2h (b:LP)(r:LR){x y:Nat}(hx:x<r.length)(hr:r.length≤64)(hy:y<64):bitT (tabB b r) x y=(decide (y<r.length)&&clN b r x y):=by
 unfold tabB
 rw[bt_tab _ _ x hy _ (Nat.le_refl _),dt hx,Bool.true_and]
 by_cases h:y<x
 ·rw[dt h,df (show¬x<y by omega)];simp
 ·by_cases h2:x<y
  ·rw[df h,dt h2]
   have:clN b r y x=clN b r x y:=r2d b r _ _
   rw[this];simp
  ·obtain rfl:x=y:=by omega
   have:clN b r x x=false:=r2k b r _
   rw[df h,this];simp
theorem NL_orB (T:LB64)(x k:Nat):(NL T).set x (ior IntKind.u64 ((NL T).getD x 0) (ishl IntKind.u64 (1:Int) (k:Int)))=NL (orB T x k):=by
 rw[NL_at,ishlB,ior_u64,NL_set];rfl
theorem lp17_9 (a:LS)(b c:LP)(r:LR)(i:Nat)(T:LB64)(hm:mayL a b c r=true)(hi:i<r.length)(hT:T.length=r.length):
  u0d [.k 0,.n (i:Int),.n (r.length:Int),.n (i:Int),.n (i:Int),.n (0:Int),.l TS a,.l TPt b,.l TPt c,.l TRt r,.l TU (NL T)]=some (0,[.n (i:Int),.n (r.length:Int),.n (i:Int),.l TS a,.l TPt b,.l TPt c,.l TRt r,.l TU (NL (rowK (clN b r) i i T))]):=by
 have lr:=(l0q hm).2.1
 rw[x0o]
 have ln: ∀k,(NL (rowK (clN b r) i k T)).length=r.length:=fun k=>by rw[u1l,r0r,hT]
 refine b0a (st:=g0u) (fun k=>[.k 0,.n (i:Int),.n (r.length:Int),.n (i:Int),.n (i:Int),.n (k:Int),.l TS a,.l TPt b,.l TPt c,.l TRt r,.l TU (NL (rowK (clN b r) i k T))]) i (0,[.n (i:Int),.n (r.length:Int),.n (i:Int),.l TS a,.l TPt b,.l TPt c,.l TRt r,.l TU (NL (rowK (clN b r) i i T))]) (fun k hk=> ?_) ?_ FU (by unfold FU;omega)
 ·have h0:=ln k
  refine p0m _ _ _ _ _ _ _ _ _ _ (by omega) (by omega) (show(i:Int)≤((NL (rowK (clN b r) i k T)).length:Int) by omega) rfl _ ?_
  unfold q0g
  refine a0a (dt (show(k:Int)<(i:Int) by omega)) ?_
  have e:=oCl a b c r (i:Int) (k:Int) hm ⟨by omega,by omega⟩ ⟨by omega,by omega⟩
  dsimp only
  erw[e]
  refine a0a rfl ?_
  show _=some (Step.go [.k 0,.n (i:Int),.n (r.length:Int),.n (i:Int),.n (i:Int),.n ((k+1:Nat):Int),.l TS a,.l TPt b,.l TPt c,.l TRt r,.l TU (NL (bif clN b r i k then orII (rowK (clN b r) i k T) i k else rowK (clN b r) i k T))])
  cases hc:clN b r i k with
  |true=>
   refine a0a hc (a0a (s2t (by omega) (show(i:Int)<((NL (rowK (clN b r) i k T)).length:Int) by omega)) (a0a (s2t (by omega) ?_) ?_))
   ·show(k:Int)<(((NL (rowK (clN b r) i k T)).set i (ior IntKind.u64 ((NL (rowK (clN b r) i k T)).getD i 0) (ishl IntKind.u64 (1:Int) (k:Int)))).length:Int)
    rw[List.length_set];omega
   ·rw[w1n k (by omega)]
    have g1:=NL_orB (rowK (clN b r) i k T) i k
    have g2:=NL_orB (orB (rowK (clN b r) i k T) i k) k i
    rw[←g1]at g2
    exact congrArg (fun z:List Int=>some (Step.go [.k 0,.n (i:Int),.n (r.length:Int),.n (i:Int),.n (i:Int),.n ((k+1:Nat):Int),.l TS a,.l TPt b,.l TPt c,.l TRt r,.l TU z])) g2
  |false=>
   refine a0c hc ?_
   rw[w1n k (by omega)];rfl
 ·have h0:=ln i
  refine p0m _ _ _ _ _ _ _ _ _ _ (by omega) (by omega) (show(i:Int)≤((NL (rowK (clN b r) i i T)).length:Int) by omega) rfl _ ?_
  unfold q0g
  exact a0c (df (show¬(i:Int)<(i:Int) by omega)) rfl
theorem lp17_6 (a:LS)(b c:LP)(r:LR)(hm:mayL a b c r=true):r0c [.k 0,.n (r.length:Int),.n (0:Int),.l TS a,.l TPt b,.l TPt c,.l TRt r,.l TU (NL (List.replicate r.length 0#64))]=some (0,[.l TU (NL (tabB b r))]):=by
 have lr:=(l0q hm).2.1
 rw[x0q]
 refine b0a (st:=g0k) (fun i=>[.k 0,.n (r.length:Int),.n (i:Int),.l TS a,.l TPt b,.l TPt c,.l TRt r,.l TU (NL (tabI (clN b r) r.length i))]) r.length (0,[.l TU (NL (tabB b r))]) (fun i hi=> ?_) ?_ FU (by unfold FU;omega)
 ·have h0:(NL (tabI (clN b r) r.length i)).length=r.length:=by rw[u1l,o0n]
  refine p0l _ _ _ _ _ _ _ (by omega) rfl (show(r.length:Int)=((NL (tabI (clN b r) r.length i)).length:Int) by omega) _ ?_
  unfold q0k
  refine a0a (dt (show(i:Int)<(r.length:Int) by omega)) ?_
  have e:=lp17_9 a b c r i (tabI (clN b r) r.length i) hm hi (o0n ..)
  dsimp only
  erw[e]
  refine a0a rfl ?_
  show some (Step.go [.k 0,.n (r.length:Int),.n (IntKind.wrap .i64 ((i:Int)+1)),.l TS a,.l TPt b,.l TPt c,.l TRt r,.l TU (NL (tabI (clN b r) r.length (i+1)))])=_
  rw[w1n i (by omega)]
 ·have h0:(NL (tabI (clN b r) r.length r.length)).length=r.length:=by rw[u1l,o0n]
  refine p0l _ _ _ _ _ _ _ (by omega) rfl (show(r.length:Int)=((NL (tabI (clN b r) r.length r.length)).length:Int) by omega) _ ?_
  unfold q0k
  exact a0c (df (show¬(r.length:Int)<(r.length:Int) by omega)) rfl
theorem o17c (a:LS)(b c:LP)(r:LR)(hs:okS a b c r):p1p [.l TS a,.l TPt b,.l TPt c,.l TRt r]=some (if(ckA a b c r).1=0 then(0,[.n (0:Int),.l TU (NL (tabB b r))])else(1,[.n (ckA a b c r).1])):=by
 rw[m1s]
 refine r1j _ _ _ _ _ ?_
 unfold y1f
 dsimp only
 erw[o18 a b c r hs]
 refine a0a rfl ?_
 by_cases hc:(ckA a b c r).1=0
 ·rw[if_pos hc]
  refine a0c (nbf hc) ?_
  obtain⟨hm,_⟩:=(ck_ok a b c r).1 hc
  have lr:=(l0q hm).2.1
  refine a0a ?_ ?_
  ·rw[dt (show(r.length:Int)≤(r.length:Int) by omega),dt (show(r.length:Int)*8≤281474976710656 by omega)];rfl
  ·have e:=lp17_6 a b c r hm
   have e0:NL (List.replicate r.length 0#64)=repC (α:=Ty.den TU) (Int.toNat (r.length:Int)) (0:Int):=by
    have g0:NL (List.replicate r.length 0#64)=List.replicate r.length (0:Int):=by unfold NL;rw[List.map_replicate];rfl
    exact g0.trans (l2h (α:=Int) r.length 0).symm
   rw[e0]at e
   erw[e]
   exact a0a rfl rfl
 ·rw[if_neg hc]
  exact a0a (nb hc) rfl
theorem sdF_app (l:LN)(d:Ty.den TNd)(p:Int):sdF (apN l d) p=(sdF l p).or (bif f1 d==p then some (g2 d)else none):=by
 unfold sdF
 show Option.map g2 (List.find? (fun d=>f1 d==p) (l++[d]))=_
 rw[List.find?_append]
 cases List.find? (fun d=>f1 d==p) l with
 |some e=>rfl
 |none=>
  cases h:(f1 d==p)with
  |true=>simp[List.find?,h]
  |false=>simp[List.find?,h]
theorem z1w (p:Int): ∀(l acc:LN),sdF (l.foldl j0c acc) p=(sdF acc p).or (sdF l p)
 |[],acc=>by show sdF acc p=(sdF acc p).or none;exact(Option.or_none).symm
 |d::l,acc=>by
  rw[List.foldl_cons,z1w p l]
  have e:sdF (d::l) p=(bif f1 d==p then some (g2 d)else none).or (sdF l p):=by
   unfold sdF
   rw[List.find?_cons]
   cases h:(f1 d==p)<;>simp
  rw[e,←Option.or_assoc]
  congr 1
  unfold j0c
  cases h:sdF acc (f1 d)with
  |none=>exact sdF_app acc d p
  |some z=>
   show sdF acc p=_
   cases hp:(f1 d==p)with
   |true=>
    have:f1 d=p:=qeT hp
    rw[←this,h];rfl
   |false=>simp
theorem u0z (l:LN)(p:Int):sdF (sds l) p=sdF l p:=by
 unfold sds
 rw[z1w];rfl
theorem o2r {l:LN}{d:Ty.den TNd}(h:d∈sds l):sdF l (f1 d)=some (g2 d):=by
 rw[←u0z];exact n2x (c1n l) h
theorem q2g {l:LN}{p:Int}{z:Bool}(h:sdF l p=some z): ∃d∈sds l,f1 d=p∧g2 d=z:=by
 rw[←u0z]at h;exact z0x h
theorem unF_iff (a b:LN):unF (sds a) (sds b)=true↔ ∃p z z',sdF a p=some z∧sdF b p=some z'∧z≠z':=by
 unfold unF
 rw[List.any_eq_true]
 constructor
 ·rintro⟨d,h1,h2⟩
  unfold unAt at h2
  rw[u0z]at h2
  cases hs:sdF b (f1 d)with
  |none=>rw[hs]at h2;cases h2
  |some z=>
   rw[hs]at h2
   refine⟨f1 d,g2 d,z,o2r h1,hs,?_⟩
   have h2:(z !=g2 d)=true:=h2
   rintro e
   rw[e]at h2;simp at h2
 ·rintro⟨p,z,z',h1,h2,h3⟩
  obtain⟨d,d1,d2,d3⟩:=q2g h1
  refine⟨d,d1,?_⟩
  unfold unAt
  rw[u0z,d2,h2,d3]
  show(z' !=z)=true
  revert h3
  cases z<;>cases z'<;>simp
theorem z1i (pts:LP)(a:LN)(tr:LI)(b:LN):wayF pts (sds a) tr (sds b)=true↔ ∃p z,sdF a p=some z∧ptS pts p∈tr∧sdF b p≠some z:=by
 unfold wayF
 rw[List.any_eq_true]
 constructor
 ·rintro⟨d,h1,h2⟩
  unfold i1w at h2
  rw[u0z,Bool.and_eq_true]at h2
  refine⟨f1 d,g2 d,o2r h1,of_decide_eq_true h2.1,fun e=> ?_⟩
  have h3:=h2.2
  rw[e]at h3
  have h3:(g2 d !=g2 d)=true:=h3
  simp at h3
 ·rintro⟨p,z,h1,h2,h3⟩
  obtain⟨d,d1,d2,d3⟩:=q2g h1
  refine⟨d,d1,?_⟩
  unfold i1w
  rw[u0z,d2,dt h2,Bool.true_and]
  cases hs:sdF b p with
  |none=>rfl
  |some z'=>
   show(z' !=g2 d)=true
   rw[d3]
   rw[hs]at h3
   revert h3
   cases z<;>cases z'<;>simp
def nk (l:LN)(p:Int):Int:=match sdF l p with
 |none=>0
 |some false=>1
 |some true=>2
def hitR (b:LP)(A B:LN)(tx ty:LI)(p:Int):Bool:=(nk A p !=nk B p)&&(bif decide (nk A p>0)then(bif decide (nk B p>0)then true else decide (ptS b p∈ty))else(bif decide (nk B p>0)then decide (ptS b p∈tx)else false))
theorem y0f (b:LP)(A B:LN)(tx ty:LI)(p:Int):hitR b A B tx ty p=true↔(∃z z',sdF A p=some z∧sdF B p=some z'∧z≠z')∨(∃z,sdF A p=some z∧ptS b p∈ty∧sdF B p=none)∨(∃z,sdF B p=some z∧ptS b p∈tx∧sdF A p=none):=by
 unfold hitR nk
 cases hA:sdF A p with
 |none=>
  cases hB:sdF B p with
  |none=>simp
  |some z'=>cases z'<;>simp
 |some z=>
  cases hB:sdF B p with
  |none=>cases z<;>simp
  |some z'=>cases z<;>cases z'<;>simp
theorem hit_all (b:LP)(A B:LN)(tx ty:LI)(hA:f0c b A)(hB:f0c b B):(List.range' 0 b.length).any (fun i=>hitR b A B tx ty (i:Int))=(unF (sds A) (sds B)||(wayF b (sds A) ty (sds B)||wayF b (sds B) tx (sds A))):=by
 rw[Bool.eq_iff_iff,List.any_eq_true,Bool.or_eq_true,Bool.or_eq_true,unF_iff,z1i,z1i]
 constructor
 ·rintro⟨i,_,h⟩
  rcases(y0f ..).1 h with⟨z,z',h1,h2,h3⟩|⟨z,h1,h2,h3⟩|⟨z,h1,h2,h3⟩
  ·exact Or.inl ⟨_,z,z',h1,h2,h3⟩
  ·exact Or.inr (Or.inl ⟨_,z,h1,h2,by rw[h3];simp⟩)
  ·exact Or.inr (Or.inr ⟨_,z,h1,h2,by rw[h3];simp⟩)
 ·have key: ∀p,(∃z,sdF A p=some z)∨(∃z,sdF B p=some z)→ ∃i,i∈List.range' 0 b.length∧(i:Int)=p:=by
   intro p h
   have hp:0≤p∧p<(b.length:Int):=by
    rcases h with⟨z,h⟩|⟨z,h⟩
    ·obtain⟨d,d1,d2,_⟩:=z0x h
     have:=hA d d1;rw[d2]at this;exact this
    ·obtain⟨d,d1,d2,_⟩:=z0x h
     have:=hB d d1;rw[d2]at this;exact this
   exact⟨p.toNat,List.mem_range'_1.2 (by omega),by omega⟩
  rintro(⟨p,z,z',h1,h2,h3⟩|⟨p,z,h1,h2,h3⟩|⟨p,z,h1,h2,h3⟩)
  ·obtain⟨i,hi,rfl⟩:=key p (Or.inl ⟨z,h1⟩)
   exact⟨i,hi,(y0f ..).2 (Or.inl ⟨z,z',h1,h2,h3⟩)⟩
  ·obtain⟨i,hi,rfl⟩:=key p (Or.inl ⟨z,h1⟩)
   refine⟨i,hi,(y0f ..).2 ?_⟩
   cases hs:sdF B (i:Int)with
   |none=>exact Or.inr (Or.inl ⟨z,h1,h2,rfl⟩)
   |some z'=>rw[hs]at h3;exact Or.inl ⟨z,z',h1,rfl,fun e=>h3 (by rw[e])⟩
  ·obtain⟨i,hi,rfl⟩:=key p (Or.inr ⟨z,h1⟩)
   refine⟨i,hi,(y0f ..).2 ?_⟩
   cases hs:sdF A (i:Int)with
   |none=>exact Or.inr (Or.inr ⟨z,h1,h2,rfl⟩)
   |some z'=>rw[hs]at h3;exact Or.inl ⟨z',z,rfl,h1,fun e=>h3 (by rw[e])⟩
theorem o77 (l:LI)(p:Int)(hl:l.length≤100000):c1w [.l TI l,.n p]=some (0,[.b (decide (p∈l))]):=by
 have e:t0r [.k 0,.l TI l,.n p,.n (0:Int)]=some (bif (List.range' 0 l.length).any (fun i=>l.getD i 0==p)then(1,[.b true])else(0,[])):=by
  rw[w0s]
  refine a0x (st:=f0y) (fun i=>[.k 0,.l TI l,.n p,.n (i:Int)]) l.length (fun i=>l.getD i 0==p) (1,[.b true]) (0,[]) (fun i hi h=> ?_) (fun i hi h=> ?_) ?_ FU (by unfold FU;omega)
  ·refine h0r _ _ _ (by omega) _ ?_
   unfold k0e
   refine a0a (dt (show(i:Int)<(l.length:Int) by omega)) (a0c h ?_)
   rw[w1n i (by omega)];rfl
  ·refine h0r _ _ _ (by omega) _ ?_
   unfold k0e
   exact a0a (dt (show(i:Int)<(l.length:Int) by omega)) (a0a h rfl)
  ·refine h0r _ _ _ (by omega) _ ?_
   unfold k0e
   exact a0c (df (show¬(l.length:Int)<(l.length:Int) by omega)) rfl
 have e0:(List.range' 0 l.length).any (fun i=>l.getD i 0==p)=decide (p∈l):=by rw[←d1o,←c0g l 0 (fun y=>y==p)]
 rw[e0]at e
 rw[l1v]
 refine s1v _ _ _ ?_
 unfold w1f
 dsimp only
 erw[e]
 cases decide (p∈l)
 ·exact a0a rfl rfl
 ·exact a0c rfl (a0a rfl rfl)
theorem o78 (s:ByteArray)(n:Int)(p:List (Ty.den TI))(q:LN)(o:List (Ty.den TI))(f:LN)(x:Int)(h1:p.length≤200)(h2:q.length≤200)(h3:o.length≤200)(h4:f.length≤200):e1s [.s s,.n n,.l TI p,.l TNd q,.l TI o,.l TNd f,.n x]=some (0,[.n (nk (List.append q f) x)]):=by
 have hl:(List.append q f).length≤100000:=by show(q++f).length≤100000;rw[List.length_append];omega
 revert hl
 have e0:=o12 s n p q o f h1 h2 h3 h4
 have e0:i1r [.s s,.n n,.l TI p,.l TNd q,.l TI o,.l TNd f]=some (0,[.l TNd (List.append q f)]):=e0
 revert e0
 generalize List.append q f=l
 intro e0 hl
 have e:t0p [.k 0,.n x,.n (0:Int),.l TNd l]=some (match sdF l x with|some z=>(1,[.n (bif z then 2 else 1)])|none=>(0,[])):=by
  have hh:=v1l l (Ty.dflt TNd) (fun d=>f1 d==x)
  unfold sdF
  rw[hh,x0v]
  refine(f0f (st:=g0o) (fun i=>[.k 0,.n x,.n (i:Int),.l TNd l]) l.length (fun i=>f1 (l.getD i (Ty.dflt TNd))==x) (fun k=>(1,[.n (bif g2 (l.getD k (Ty.dflt TNd))then 2 else 1)])) (0,[]) (fun i hi h=> ?_) (fun i hi h=> ?_) ?_ FU (by unfold FU;omega)).trans ?_
  rotate_right
  ·cases b0i (fun i=>f1 (l.getD i (Ty.dflt TNd))==x) l.length<;>rfl
  ·refine h0j _ _ _ (by omega) _ ?_
   unfold j0i
   refine a0a (dt (show(i:Int)<(l.length:Int) by omega)) (a0c h ?_)
   rw[w1n i (by omega)];rfl
  ·refine h0j _ _ _ (by omega) _ ?_
   unfold j0i
   refine a0a (dt (show(i:Int)<(l.length:Int) by omega)) (a0a h ?_)
   cases hg:g2 (l.getD i (Ty.dflt TNd))with
   |true=>exact a0a hg rfl
   |false=>exact a0c hg rfl
  ·refine h0j _ _ _ (by omega) _ ?_
   unfold j0i
   exact a0c (df (show¬(l.length:Int)<(l.length:Int) by omega)) rfl
 rw[n1y]
 refine r1n _ _ _ _ _ _ _ _ ?_
 unfold z1k
 dsimp only
 erw[e0]
 refine a0a rfl ?_
 erw[e]
 unfold nk
 cases sdF l x with
 |none=>exact a0a rfl rfl
 |some z=>cases z<;>exact a0c rfl (a0a rfl rfl)
theorem lp46_5 (a:LS)(b c:LP)(r:LR)(s:ByteArray)(n:Int)(p:List (Ty.den TI))(q:LN)(o:List (Ty.den TI))(f:LN)(s':ByteArray)(n':Int)(p':List (Ty.den TI))(q':LN)(o':List (Ty.den TI))(f':LN)(t u:LI)(ht:t.length≤100000)(hu:u.length≤100000):
  s0s [.k 0,.n (0:Int),.l TS a,.l TPt b,.l TPt c,.l TRt r,.s s,.n n,.l TI p,.l TNd q,.l TI o,.l TNd f,.s s',.n n',.l TI p',.l TNd q',.l TI o',.l TNd f',.l TI t,.l TI u]=some (bif shF t u then(1,[.b true])else(0,[.l TS a,.l TPt b,.l TPt c,.l TRt r,.s s,.n n,.l TI p,.l TNd q,.l TI o,.l TNd f,.s s',.n n',.l TI p',.l TNd q',.l TI o',.l TNd f',.l TI t,.l TI u])):=by
 have e0:(List.range' 0 t.length).any (fun i=>decide (t.getD i 0∈u))=shF t u:=c0g t 0 (fun y=>decide (y∈u))
 rw[w0f,←e0]
 refine a0x (st:=g0i) (fun i=>[.k 0,.n (i:Int),.l TS a,.l TPt b,.l TPt c,.l TRt r,.s s,.n n,.l TI p,.l TNd q,.l TI o,.l TNd f,.s s',.n n',.l TI p',.l TNd q',.l TI o',.l TNd f',.l TI t,.l TI u]) t.length (fun i=>decide (t.getD i 0∈u)) (1,[.b true]) (0,[.l TS a,.l TPt b,.l TPt c,.l TRt r,.s s,.n n,.l TI p,.l TNd q,.l TI o,.l TNd f,.s s',.n n',.l TI p',.l TNd q',.l TI o',.l TNd f',.l TI t,.l TI u]) (fun i hi h=> ?_) (fun i hi h=> ?_) ?_ FU (by unfold FU;omega)
 ·refine h0v _ _ _ _ _ _ _ _ _ _ _ _ _ _ _ _ _ _ _ (by omega) _ ?_
  unfold k0b
  refine a0a (dt (show(i:Int)<(t.length:Int) by omega)) ?_
  have e1:=o77 u (t.getD i 0) hu
  dsimp only
  erw[e1]
  refine a0a rfl (a0c h ?_)
  rw[w1n i (by omega)];rfl
 ·refine h0v _ _ _ _ _ _ _ _ _ _ _ _ _ _ _ _ _ _ _ (by omega) _ ?_
  unfold k0b
  refine a0a (dt (show(i:Int)<(t.length:Int) by omega)) ?_
  have e1:=o77 u (t.getD i 0) hu
  dsimp only
  erw[e1]
  exact a0a rfl (a0a h rfl)
 ·refine h0v _ _ _ _ _ _ _ _ _ _ _ _ _ _ _ _ _ _ _ (by omega) _ ?_
  unfold k0b
  exact a0c (df (show¬(t.length:Int)<(t.length:Int) by omega)) rfl
theorem lp46_10 (a:LS)(b c:LP)(r:LR)(s:ByteArray)(n:Int)(p:List (Ty.den TI))(q:LN)(o:List (Ty.den TI))(f:LN)(s':ByteArray)(n':Int)(p':List (Ty.den TI))(q':LN)(o':List (Ty.den TI))(f':LN)(t u:LI)(h1:p.length≤200)(h2:q.length≤200)(h3:o.length≤200)(h4:f.length≤200)(k1:p'.length≤200)(k2:q'.length≤200)(k3:o'.length≤200)(k4:f'.length≤200)(hb:b.length≤100000)(ht:t.length≤100000)(hu:u.length≤100000):
  o0d [.k 0,.n (0:Int),.l TS a,.l TPt b,.l TPt c,.l TRt r,.s s,.n n,.l TI p,.l TNd q,.l TI o,.l TNd f,.s s',.n n',.l TI p',.l TNd q',.l TI o',.l TNd f',.l TI t,.l TI u]=some (bif (List.range' 0 b.length).any (fun i=>hitR b (List.append q f) (List.append q' f') t u (i:Int))then(1,[.b true])else(0,[])):=by
 have key: ∀i:Nat,i<b.length→(d0o [.k 0,.n (i:Int),.l TS a,.l TPt b,.l TPt c,.l TRt r,.s s,.n n,.l TI p,.l TNd q,.l TI o,.l TNd f,.s s',.n n',.l TI p',.l TNd q',.l TI o',.l TNd f',.l TI t,.l TI u]).sel=some (bif hitR b (List.append q f) (List.append q' f') t u (i:Int)then .stop 1 [.b true]else .go [.k 0,.n ((i+1:Nat):Int),.l TS a,.l TPt b,.l TPt c,.l TRt r,.s s,.n n,.l TI p,.l TNd q,.l TI o,.l TNd f,.s s',.n n',.l TI p',.l TNd q',.l TI o',.l TNd f',.l TI t,.l TI u]):=by
  intro i hi
  refine m0a _ _ _ _ _ _ _ _ _ _ _ _ _ _ _ _ _ _ _ (by omega) _ ?_
  unfold m0g
  refine a0a (dt (show(i:Int)<(b.length:Int) by omega)) ?_
  have e1:=o78 s n p q o f (i:Int) h1 h2 h3 h4
  have e2:=o78 s' n' p' q' o' f' (i:Int) k1 k2 k3 k4
  have e3:=o77 u (ptS b (i:Int)) hu
  have e4:=o77 t (ptS b (i:Int)) ht
  unfold hitR
  revert e1 e2
  generalize nk (List.append q f) (i:Int)=x
  generalize nk (List.append q' f') (i:Int)=y
  intro e1 e2
  dsimp only
  erw[e1];refine a0a rfl ?_
  erw[e2];refine a0a rfl ?_
  cases hxy:(x !=y)with
  |false=>refine a0c hxy ?_;rw[w1n i (by omega)];rfl
  |true=>
   refine a0a hxy ?_
   rw[Bool.true_and]
   cases hx:decide (x>0)with
   |true=>
    refine a0a hx ?_
    cases hy:decide (y>0)with
    |true=>exact a0a hy rfl
    |false=>
     refine a0c hy ?_
     erw[e3];refine a0a rfl ?_
     cases hz:decide (ptS b (i:Int)∈u)with
     |true=>exact a0a rfl rfl
     |false=>refine a0c rfl ?_;rw[w1n i (by omega)];rfl
   |false=>
    refine a0c hx ?_
    cases hy:decide (y>0)with
    |true=>
     refine a0a hy ?_
     erw[e4];refine a0a rfl ?_
     cases hz:decide (ptS b (i:Int)∈t)with
     |true=>exact a0a rfl rfl
     |false=>refine a0c rfl ?_;rw[w1n i (by omega)];rfl
    |false=>refine a0c hy ?_;rw[w1n i (by omega)];rfl
 rw[u0h]
 refine a0x (st:=d0o) (fun i=>[.k 0,.n (i:Int),.l TS a,.l TPt b,.l TPt c,.l TRt r,.s s,.n n,.l TI p,.l TNd q,.l TI o,.l TNd f,.s s',.n n',.l TI p',.l TNd q',.l TI o',.l TNd f',.l TI t,.l TI u]) b.length (fun i=>hitR b (List.append q f) (List.append q' f') t u (i:Int)) (1,[.b true]) (0,[]) (fun i hi h=> ?_) (fun i hi h=> ?_) ?_ FU (by unfold FU;omega)
 ·have:=key i hi
  rw[h]at this;exact this
 ·have:=key i hi
  rw[h]at this;exact this
 ·refine m0a _ _ _ _ _ _ _ _ _ _ _ _ _ _ _ _ _ _ _ (by omega) _ ?_
  unfold m0g
  exact a0c (df (show¬(b.length:Int)<(b.length:Int) by omega)) rfl
theorem o46c (a:LS)(b c:LP)(r:LR)(x y:Rt)(h1:(eP x).length≤200)(h2:(eQ x).length≤200)(h3:(eO x).length≤200)(h4:(eF x).length≤200)(k1:(eP y).length≤200)(k2:(eQ y).length≤200)(k3:(eO y).length≤200)(k4:(eF y).length≤200)
  (hb:b.length≤100000) (ha:f0c b (ndsE x)) (hc:f0c b (ndsE y)):
  m1e [.l TS a,.l TPt b,.l TPt c,.l TRt r,.s (eS x),.n (eN x),.l TI (eP x),.l TNd (eQ x),.l TI (eO x),.l TNd (eF x),.s (eS y),.n (eN y),.l TI (eP y),.l TNd (eQ y),.l TI (eO y),.l TNd (eF y)]=some (0,[.b (cfE b x y)]):=by
 have ht:(trk x).length≤100000:=by show(eP x++eO x).length≤_;rw[List.length_append];omega
 have hu:(trk y).length≤100000:=by show(eP y++eO y).length≤_;rw[List.length_append];omega
 have hit:=hit_all b (ndsE x) (ndsE y) (trk x) (trk y) ha hc
 have e1:=o11 (eS x) (eN x) (eP x) (eQ x) (eO x) (eF x) h1 h2 h3 h4
 have e2:=o11 (eS y) (eN y) (eP y) (eQ y) (eO y) (eF y) k1 k2 k3 k4
 have e3:=lp46_5 a b c r (eS x) (eN x) (eP x) (eQ x) (eO x) (eF x) (eS y) (eN y) (eP y) (eQ y) (eO y) (eF y) (trk x) (trk y) ht hu
 have e4:=lp46_10 a b c r (eS x) (eN x) (eP x) (eQ x) (eO x) (eF x) (eS y) (eN y) (eP y) (eQ y) (eO y) (eF y) (trk x) (trk y) h1 h2 h3 h4 k1 k2 k3 k4 hb ht hu
 have hit':(List.range' 0 b.length).any (fun i=>hitR b (List.append (eQ x) (eF x)) (List.append (eQ y) (eF y)) (trk x) (trk y) (i:Int))=_:=hit
 rw[hit']at e4
 unfold cfE
 revert e4
 generalize (unF (sds (ndsE x)) (sds (ndsE y))||(wayF b (sds (ndsE x)) (trk y) (sds (ndsE y))||wayF b (sds (ndsE y)) (trk x) (sds (ndsE x))))=z
 intro e4
 rw[p1h]
 refine r1g _ _ _ _ _ _ _ _ _ _ _ _ _ _ _ _ _ ?_
 unfold t1q
 by_cases hn:eN x=eN y
 ·rw[dt hn]
  exact a0a (bt hn) rfl
 ·rw[df hn]
  refine a0c (bf hn) ?_
  dsimp only
  erw[e1];refine a0a rfl ?_
  erw[e2];refine a0a rfl ?_
  erw[e3]
  cases shF (trk x) (trk y)with
  |true=>exact a0c rfl (a0a rfl rfl)
  |false=>
   refine a0a rfl ?_
   erw[e4]
   cases z with
   |true=>exact a0c rfl (a0a rfl rfl)
   |false=>exact a0a rfl rfl
theorem y2e (s:ByteArray):f0b s s=true:=(g0d s s).2 rfl
theorem c3y (x:Int):(x==x)=true:=by simp
theorem g3j (x:Bool):(x==x)=true:=by simp
theorem g3c (e:Ty.den TPt):(!(f0b (Prod.fst e) (Prod.fst e)&&(Prod.snd e==Prod.snd e&&true)))=false:=by
 have e1:f0b (Prod.fst e) (Prod.fst e)=true:=y2e _
 have e2:(Prod.snd e==Prod.snd e)=true:=c3y (Prod.snd e)
 rw[e1,e2];rfl
theorem nd_self (e:Ty.den TNd):(!(Prod.fst e==Prod.fst e&&(Prod.snd e==Prod.snd e&&true)))=false:=by
 have e1:(Prod.fst e==Prod.fst e)=true:=c3y (Prod.fst e)
 have e2:(Prod.snd e==Prod.snd e)=true:=g3j (Prod.snd e)
 rw[e1,e2];rfl
theorem o42c (l:List (Ty.den TI))(hl:l.length≤100000):y2r [.l TI l,.l TI l]=some (0,[.b true]):=by
 have e:x2v [.k 0,.l TI l,.l TI l,.n (0:Int)]=some (0,[]):=by
  rw[y2s]
  refine b0a (st:=w2g) (fun i=>[.k 0,.l TI l,.l TI l,.n (i:Int)]) l.length (0,[]) (fun i hi=> ?_) ?_ FU (by unfold FU;omega)
  ·refine w2w _ _ _ (by omega) rfl _ ?_
   unfold x2l
   refine a0a (dt (show(i:Int)<(l.length:Int) by omega)) (a0c (nbf rfl) ?_)
   rw[w1n i (by omega)];rfl
  ·refine w2w _ _ _ (by omega) rfl _ ?_
   unfold x2l
   exact a0c (df (show¬(l.length:Int)<(l.length:Int) by omega)) rfl
 rw[b3n]
 refine b3y _ _ _ ?_
 unfold d3f
 refine a0c (nbf rfl) ?_
 dsimp only
 erw[e]
 exact a0a rfl rfl
theorem o79c (l:List (Ty.den TNd))(hl:l.length≤100000):z2w [.l TNd l,.l TNd l]=some (0,[.b true]):=by
 have e:x2z [.k 0,.l TNd l,.l TNd l,.n (0:Int)]=some (0,[]):=by
  rw[y2l]
  refine b0a (st:=w2c) (fun i=>[.k 0,.l TNd l,.l TNd l,.n (i:Int)]) l.length (0,[]) (fun i hi=> ?_) ?_ FU (by unfold FU;omega)
  ·refine w2t _ _ _ (by omega) rfl _ ?_
   unfold x2f
   refine a0a (dt (show(i:Int)<(l.length:Int) by omega)) (a0c (nd_self _) ?_)
   rw[w1n i (by omega)];rfl
  ·refine w2t _ _ _ (by omega) rfl _ ?_
   unfold x2f
   exact a0c (df (show¬(l.length:Int)<(l.length:Int) by omega)) rfl
 rw[b3c]
 refine b3s _ _ _ ?_
 unfold d3d
 refine a0c (nbf rfl) ?_
 dsimp only
 erw[e]
 exact a0a rfl rfl
theorem o47c (l:List (Ty.den TS))(hl:l.length≤100000):b3o [.l TS l,.l TS l]=some (0,[.b true]):=by
 have e:y2c [.k 0,.l TS l,.l TS l,.n (0:Int)]=some (0,[]):=by
  rw[y2o]
  refine b0a (st:=w2j) (fun i=>[.k 0,.l TS l,.l TS l,.n (i:Int)]) l.length (0,[]) (fun i hi=> ?_) ?_ FU (by unfold FU;omega)
  ·refine x2a _ _ _ (by omega) rfl _ ?_
   unfold x2e
   refine a0a (dt (show(i:Int)<(l.length:Int) by omega)) (a0c (by rw[y2e];rfl) ?_)
   rw[w1n i (by omega)];rfl
  ·refine x2a _ _ _ (by omega) rfl _ ?_
   unfold x2e
   exact a0c (df (show¬(l.length:Int)<(l.length:Int) by omega)) rfl
 rw[b3f]
 refine b3p _ _ _ ?_
 unfold c3m
 refine a0c (nbf rfl) ?_
 dsimp only
 erw[e]
 exact a0a rfl rfl
theorem o48c (s:ByteArray)(n:Int)(p:List (Ty.den TI))(q:LN)(o:List (Ty.den TI))(f:LN)(h1:p.length≤100000)(h2:q.length≤100000)(h3:o.length≤100000)(h4:f.length≤100000):
  b3g [.s s,.n n,.l TI p,.l TNd q,.l TI o,.l TNd f,.s s,.n n,.l TI p,.l TNd q,.l TI o,.l TNd f]=some (0,[.b true]):=by
 rw[b3l]
 refine c3f _ _ _ _ _ _ _ ?_
 unfold e3a
 refine a0a (y2e s) ?_
 have e1:=o42c p h1
 have e2:=o79c q h2
 have e3:=o42c o h3
 have e4:=o79c f h4
 dsimp only
 erw[e1];refine a0a rfl (a0a rfl ?_)
 erw[e2];refine a0a rfl (a0a rfl ?_)
 erw[e3];refine a0a rfl (a0a rfl ?_)
 erw[e4];exact a0a rfl rfl
theorem lp19_4 (a:LS)(b c:LP)(r:LR)(hl:b.length≤100000):x2r [.k 0,.n (0:Int),.l TS a,.l TPt b,.l TPt c,.l TRt r,.l TS a,.l TPt b,.l TPt c,.l TRt r]=some (0,[.l TS a,.l TPt b,.l TPt c,.l TRt r,.l TS a,.l TPt b,.l TPt c,.l TRt r]):=by
 rw[y2m]
 refine b0a (st:=w2f) (fun i=>[.k 0,.n (i:Int),.l TS a,.l TPt b,.l TPt c,.l TRt r,.l TS a,.l TPt b,.l TPt c,.l TRt r]) b.length (0,[.l TS a,.l TPt b,.l TPt c,.l TRt r,.l TS a,.l TPt b,.l TPt c,.l TRt r]) (fun i hi=> ?_) ?_ FU (by unfold FU;omega)
 ·refine x2b _ _ _ _ _ (by omega) _ ?_
  unfold x2c
  refine a0a (dt (show(i:Int)<(b.length:Int) by omega)) (a0c (g3c _) ?_)
  rw[w1n i (by omega)];rfl
 ·refine x2b _ _ _ _ _ (by omega) _ ?_
  unfold x2c
  exact a0c (df (show¬(b.length:Int)<(b.length:Int) by omega)) rfl
theorem lp19_9 (a:LS)(b c:LP)(r:LR)(hl:c.length≤100000):x2p [.k 0,.n (0:Int),.l TS a,.l TPt b,.l TPt c,.l TRt r,.l TS a,.l TPt b,.l TPt c,.l TRt r]=some (0,[.l TS a,.l TPt b,.l TPt c,.l TRt r,.l TS a,.l TPt b,.l TPt c,.l TRt r]):=by
 rw[y2q]
 refine b0a (st:=w2h) (fun i=>[.k 0,.n (i:Int),.l TS a,.l TPt b,.l TPt c,.l TRt r,.l TS a,.l TPt b,.l TPt c,.l TRt r]) c.length (0,[.l TS a,.l TPt b,.l TPt c,.l TRt r,.l TS a,.l TPt b,.l TPt c,.l TRt r]) (fun i hi=> ?_) ?_ FU (by unfold FU;omega)
 ·refine w2s _ _ _ _ _ (by omega) _ ?_
  unfold x2d
  refine a0a (dt (show(i:Int)<(c.length:Int) by omega)) (a0c (g3c _) ?_)
  rw[w1n i (by omega)];rfl
 ·refine w2s _ _ _ _ _ (by omega) _ ?_
  unfold x2d
  exact a0c (df (show¬(c.length:Int)<(c.length:Int) by omega)) rfl
def lenR (r:LR):Prop:= ∀i,i<r.length→(eP (r.getD i (Ty.dflt TRt))).length≤1000∧(eQ (r.getD i (Ty.dflt TRt))).length≤1000∧(eO (r.getD i (Ty.dflt TRt))).length≤1000∧(eF (r.getD i (Ty.dflt TRt))).length≤1000
theorem lp19_14 (a:LS)(b c:LP)(r:LR)(hl:r.length≤100000)(hr:lenR r):w2r [.k 0,.n (0:Int),.l TS a,.l TPt b,.l TPt c,.l TRt r,.l TS a,.l TPt b,.l TPt c,.l TRt r]=some (0,[]):=by
 rw[x2t]
 refine b0a (st:=w2b) (fun i=>[.k 0,.n (i:Int),.l TS a,.l TPt b,.l TPt c,.l TRt r,.l TS a,.l TPt b,.l TPt c,.l TRt r]) r.length (0,[]) (fun i hi=> ?_) ?_ FU (by unfold FU;omega)
 ·refine w2l _ _ _ _ _ (by omega) _ ?_
  unfold w2o
  refine a0a (dt (show(i:Int)<(r.length:Int) by omega)) ?_
  obtain⟨h1,h2,h3,h4⟩:=hr i hi
  have e:=o48c (eS (r.getD i (Ty.dflt TRt))) (eN (r.getD i (Ty.dflt TRt))) (eP (r.getD i (Ty.dflt TRt))) (eQ (r.getD i (Ty.dflt TRt))) (eO (r.getD i (Ty.dflt TRt))) (eF (r.getD i (Ty.dflt TRt))) (Nat.le_trans h1 (by decide)) (Nat.le_trans h2 (by decide)) (Nat.le_trans h3 (by decide)) (Nat.le_trans h4 (by decide))
  dsimp only
  erw[e]
  refine a0a rfl (a0c rfl ?_)
  rw[w1n i (by omega)];rfl
 ·refine w2l _ _ _ _ _ (by omega) _ ?_
  unfold w2o
  exact a0c (df (show¬(r.length:Int)<(r.length:Int) by omega)) rfl
theorem o19s (a:LS)(b c:LP)(r:LR)(ha:a.length≤100000)(hb:b.length≤100000)(hc:c.length≤100000)(hl:r.length≤100000)(hr:lenR r):y2j [.l TS a,.l TPt b,.l TPt c,.l TRt r,.l TS a,.l TPt b,.l TPt c,.l TRt r]=some (0,[.b true]):=by
 rw[b3b]
 refine b3q _ _ _ _ _ ?_
 unfold d3m
 have e1:=o47c a ha
 have e2:=lp19_4 a b c r hb
 have e3:=lp19_9 a b c r hc
 have e4:=lp19_14 a b c r hl hr
 dsimp only
 erw[e1];refine a0a rfl (a0c rfl ?_)
 erw[e2];refine a0a rfl ?_
 erw[e3];refine a0a rfl ?_
 erw[e4];exact a0a rfl rfl
theorem o16c (a:LS)(b c:LP)(r:LR)(ha:a.length≤100000)(hb:b.length≤100000)(hc:c.length≤100000)(hl:r.length≤100000)(hr:lenR r):b3k [.l TS a,.l TPt b,.l TPt c,.l TRt r]=some (0,[.l TS a,.l TPt b,.l TPt c,.l TRt r]):=by
 have e:x2y [.k 0,.n (0:Int),.l TS a,.l TPt b,.l TPt c,.l TRt r,.l TS a,.l TPt b,.l TPt c,.l TRt []]=some (0,[.l TS a,.l TPt b,.l TPt c,.l TRt r]):=by
  rw[y2k]
  refine b0a (st:=w2i) (fun i=>[.k 0,.n (i:Int),.l TS a,.l TPt b,.l TPt c,.l TRt r,.l TS a,.l TPt b,.l TPt c,.l TRt (r.take i)]) r.length (0,[.l TS a,.l TPt b,.l TPt c,.l TRt r]) (fun i hi=> ?_) ?_ FU (by unfold FU;omega)
  ·have ln:(r.take i).length≤100000:=by rw[List.length_take];omega
   obtain⟨h1,h2,h3,h4⟩:=hr i hi
   refine w2z _ _ _ _ _ _ _ _ _ (by omega) _ ?_
   unfold x2m
   refine a0a (dt (show(i:Int)<(r.length:Int) by omega)) ?_
   refine a0a (dt (show(eP (r.getD i (Ty.dflt TRt))).length*8≤140737488355328 by omega)) ?_
   refine a0a (dt (show(eQ (r.getD i (Ty.dflt TRt))).length*16≤140737488355328 by omega)) ?_
   refine a0a (dt (show(eO (r.getD i (Ty.dflt TRt))).length*8≤140737488355328 by omega)) ?_
   refine a0a (dt (show(eF (r.getD i (Ty.dflt TRt))).length*16≤140737488355328 by omega)) ?_
   refine a0a (dt (show((r.take i).length+1)*120≤140737488355328 by omega)) ?_
   rw[w1n i (by omega),h1i r (Ty.dflt TRt) hi];rfl
  ·refine w2z _ _ _ _ _ _ _ _ _ (by omega) _ ?_
   unfold x2m
   refine a0c (df (show¬(r.length:Int)<(r.length:Int) by omega)) ?_
   rw[List.take_length];rfl
 have ha':List.length (α:=Ty.den TS) a≤100000:=ha
 rw[b3j]
 refine c3c _ _ _ _ _ ?_
 unfold d3g
 refine a0a (dt (show a.length*16≤140737488355328 by omega)) (a0a (dt (show b.length*24≤140737488355328 by omega)) (a0a (dt (show c.length*24≤140737488355328 by omega)) ?_))
 dsimp only
 erw[e]
 exact a0a rfl rfl
def rowR (cl:Nat→Nat→Bool)(i:Nat):Nat→B64
 |0=>0#64
 |k+1=>bif cl i k then rowR cl i k|||pw2 k else rowR cl i k
theorem d3z (cl:Nat→Nat→Bool)(i y:Nat)(hy:y<64): ∀k,(rowR cl i k).getLsbD y=(decide (y<k)&&cl i y)
 |0=>by simp[rowR]
 |k+1=>by
  have ih:=d3z cl i y hy k
  unfold rowR
  cases hc:cl i k with
  |true=>
   show(rowR cl i k|||pw2 k).getLsbD y=_
   rw[BitVec.getLsbD_or,ih,f3k,dt hy,Bool.true_and]
   by_cases h:y=k
   ·subst h;rw[dt rfl,dt (show y<y+1 by omega),hc];simp
   ·rw[df h,Bool.or_false]
    by_cases h2:y<k
    ·rw[dt h2,dt (show y<k+1 by omega)]
    ·rw[df h2,df (show¬y<k+1 by omega)]
  |false=>
   show(rowR cl i k).getLsbD y=_
   rw[ih]
   by_cases h:y=k
   ·subst h;rw[hc];simp
   ·by_cases h2:y<k
    ·rw[dt h2,dt (show y<k+1 by omega)]
    ·rw[df h2,df (show¬y<k+1 by omega)]
theorem tab_row (b:LP)(r:LR){i:Nat}(hi:i<r.length)(hr:r.length≤64):(tabB b r).getD i 0#64=rowR (clN b r) i r.length:=by
 refine BitVec.eq_of_getLsbD_eq fun y hy=> ?_
 rw[d3z _ _ _ hy]
 exact m2h b r hi hr hy
theorem lp18_10 (a:LS)(b c:LP)(r:LR)(T:List Int)(i:Nat)(hm:mayL a b c r=true)(hi:i<r.length):
  w2q [.k 0,.n (i:Int),.n (0:Int),.n (0:Int),.l TS a,.l TPt b,.l TPt c,.l TRt r,.l TU T]=some (0,[.n (i:Int),.n (N (rowR (clN b r) i r.length)),.l TS a,.l TPt b,.l TPt c,.l TRt r,.l TU T]):=by
 obtain⟨lb,lr,hr⟩:=l0q hm
 rw[x2o]
 refine b0a (st:=w2a) (fun k=>[.k 0,.n (i:Int),.n (N (rowR (clN b r) i k)),.n (k:Int),.l TS a,.l TPt b,.l TPt c,.l TRt r,.l TU T]) r.length (0,[.n (i:Int),.n (N (rowR (clN b r) i r.length)),.l TS a,.l TPt b,.l TPt c,.l TRt r,.l TU T]) (fun k hk=> ?_) ?_ FU (by unfold FU;omega)
 ·refine w2m _ _ _ _ _ _ _ _ (by omega) (by omega) (by omega) _ ?_
  unfold w2n
  refine a0a (dt (show(k:Int)<(r.length:Int) by omega)) ?_
  show _=some (Step.go [.k 0,.n (i:Int),.n (N (bif clN b r i k then rowR (clN b r) i k|||pw2 k else rowR (clN b r) i k)),.n ((k+1:Nat):Int),.l TS a,.l TPt b,.l TPt c,.l TRt r,.l TU T])
  rw[w1n k (by omega)]
  by_cases h:(i:Int)=(k:Int)
  ·refine a0c (nbf h) ?_
   have e:clN b r i k=false:=by unfold clN clF;rw[dt h];rfl
   rw[e];rfl
  ·refine a0a (nb h) ?_
   have ec:clN b r i k=cfE b (r.getD i (Ty.dflt TRt)) (r.getD k (Ty.dflt TRt)):=by unfold clN clF;rw[df h];rfl
   obtain⟨_,⟨p1,p2,p3,p4⟩,p5,p6⟩:=hr i hi
   obtain⟨_,⟨q1,q2,q3,q4⟩,q5,q6⟩:=hr k hk
   have ok: ∀e:Rt,f0c b (eQ e)→f0c b (eF e)→f0c b (ndsE e):=fun e g1 g2 d hd=>by
    have hd:d∈eQ e++eF e:=hd
    rcases List.mem_append.1 hd with hd|hd
    ·exact g1 d hd
    ·exact g2 d hd
   have e:=o46c a b c r (r.getD i (Ty.dflt TRt)) (r.getD k (Ty.dflt TRt)) p1 p2 p3 p4 q1 q2 q3 q4 (by omega) (ok _ p5 p6) (ok _ q5 q6)
   dsimp only
   erw[e]
   refine a0a rfl ?_
   rw[ec]
   cases hc:cfE b (r.getD i (Ty.dflt TRt)) (r.getD k (Ty.dflt TRt))with
   |true=>
    refine a0a rfl ?_
    have g:ior IntKind.u64 (N (rowR (clN b r) i k)) (ishl IntKind.u64 (1:Int) (k:Int))=N (rowR (clN b r) i k|||pw2 k):=by rw[ishlB,ior_u64]
    exact congrArg (fun z:Int=>some (Step.go [.k 0,.n (i:Int),.n z,.n ((k+1:Nat):Int),.l TS a,.l TPt b,.l TPt c,.l TRt r,.l TU T])) g
   |false=>exact a0c rfl rfl
 ·refine w2m _ _ _ _ _ _ _ _ (by omega) (by omega) (by omega) _ ?_
  unfold w2n
  exact a0c (df (show¬(r.length:Int)<(r.length:Int) by omega)) rfl
theorem lp18_6 (a:LS)(b c:LP)(r:LR)(hm:mayL a b c r=true):x2n [.k 0,.n (0:Int),.l TS a,.l TPt b,.l TPt c,.l TRt r,.l TU []]=some (0,[.l TU (NL (tabB b r))]):=by
 have lr:=(l0q hm).2.1
 have lt:(tabB b r).length=r.length:=o0n ..
 rw[y2i]
 refine b0a (st:=w2d) (fun i=>[.k 0,.n (i:Int),.l TS a,.l TPt b,.l TPt c,.l TRt r,.l TU (NL ((tabB b r).take i))]) r.length (0,[.l TU (NL (tabB b r))]) (fun i hi=> ?_) ?_ FU (by unfold FU;omega)
 ·have ln:(NL ((tabB b r).take i)).length≤64:=by rw[u1l,List.length_take];omega
  refine w2v _ _ _ _ _ _ (by omega) _ ?_
  unfold x2j
  refine a0a (dt (show(i:Int)<(r.length:Int) by omega)) ?_
  have e:=lp18_10 a b c r (NL ((tabB b r).take i)) i hm hi
  dsimp only
  erw[e]
  refine a0a rfl (a0a (dt (show((NL ((tabB b r).take i)).length+1)*8≤140737488355328 by omega)) ?_)
  show some (Step.go [.k 0,.n (IntKind.wrap .i64 ((i:Int)+1)),.l TS a,.l TPt b,.l TPt c,.l TRt r,.l TU (NL ((tabB b r).take i)++[N (rowR (clN b r) i r.length)])])=_
  rw[w1n i (by omega)]
  have g:NL ((tabB b r).take (i+1))=NL ((tabB b r).take i)++[N (rowR (clN b r) i r.length)]:=by
   rw[h1i (tabB b r) 0#64 (by omega),←tab_row b r hi lr]
   unfold NL
   rw[List.map_append];rfl
  exact congrArg (fun z:List Int=>some (Step.go [.k 0,.n ((i+1:Nat):Int),.l TS a,.l TPt b,.l TPt c,.l TRt r,.l TU z])) g.symm
 ·refine w2v _ _ _ _ _ _ (by omega) _ ?_
  unfold x2j
  refine a0c (df (show¬(r.length:Int)<(r.length:Int) by omega)) ?_
  have g:(tabB b r).take r.length=tabB b r:=by rw[←lt,List.take_length]
  rw[g];rfl
theorem o18c (a:LS)(b c:LP)(r:LR)(hs:okS a b c r):z2v [.l TS a,.l TPt b,.l TPt c,.l TRt r]=some (if(ckA a b c r).1=0 then(0,[.n (0:Int),.l TU (NL (tabB b r))])else(1,[.n (ckA a b c r).1])):=by
 rw[b3e]
 refine b3w _ _ _ _ _ ?_
 unfold c3n
 dsimp only
 erw[o19 a b c r hs]
 refine a0a rfl ?_
 by_cases hc:(ckA a b c r).1=0
 ·rw[if_pos hc]
  refine a0c (nbf hc) ?_
  obtain⟨hm,_⟩:=(ck_ok a b c r).1 hc
  have e:=lp18_6 a b c r hm
  erw[e]
  exact a0a rfl rfl
 ·rw[if_neg hc]
  exact a0a (nb hc) rfl
theorem y2v {st:List Dat→Tree Step}(s:Nat→Int→List Dat)(m:Nat)(I:Nat→Int→Prop)(p:Nat×List Dat→Prop)
  (go: ∀i n,i<m→I i n→(∃n',I (i+1) n'∧(st (s i n)).sel=some (.go (s (i+1) n')))∨ ∃y:Nat×List Dat,(st (s i n)).sel=some (.stop y.1 y.2)∧p y)
  (stop: ∀n,I m n→ ∃y:Nat×List Dat,(st (s m n)).sel=some (.stop y.1 y.2)∧p y): ∀fuel,m<fuel→ ∀n,I 0 n→ ∃y,a0b st fuel (s 0 n)=some y∧p y:=by
 have key: ∀d i,i+d=m→ ∀fuel,d<fuel→ ∀n,I i n→ ∃y,a0b st fuel (s i n)=some y∧p y:=by
  intro d
  induction d with
  |zero=>
   intro i hi fuel hf n hI
   obtain rfl:i=m:=by omega
   obtain⟨f,rfl⟩: ∃f,fuel=f+1:=⟨fuel-1,by omega⟩
   obtain⟨y,h1,h2⟩:=stop n hI
   exact⟨y,c0a h1,h2⟩
  |succ d ih=>
   intro i hi fuel hf n hI
   obtain⟨f,rfl⟩: ∃f,fuel=f+1:=⟨fuel-1,by omega⟩
   rcases go i n (by omega) hI with⟨n',hI',h⟩|⟨y,h1,h2⟩
   ·rw[v0e h]
    exact ih (i+1) (by omega) f (by omega) n' hI'
   ·exact⟨y,c0a h1,h2⟩
 exact fun fuel hf n hI=>key m 0 (by omega) fuel hf n hI
theorem w15_3 (a:LS)(b c:LP)(r:LR)(hl:a.length≤9223372036854775807)(hz: ∀i,i<a.length→ByteArray.size (a.getD i (Ty.dflt TS))≤140737488351232)(n:Int)(h0:0≤n):
  ∃z,z0w [.k 0,.n 1000,.n n,.n (0:Int),.l TS a,.l TPt b,.l TPt c,.l TRt r]=some (0,[.n 1000,.n z,.l TS a,.l TPt b,.l TPt c,.l TRt r])∧n≤z∧(z≤1000→n+(a.length:Int)≤z):=by
 rw[d1j]
 have key:=y2v (st:=j0v) (fun i n=>[.k 0,.n 1000,.n n,.n (i:Int),.l TS a,.l TPt b,.l TPt c,.l TRt r]) a.length (fun i m=>n+(i:Int)≤m) (fun y=> ∃z,y=(0,[.n 1000,.n z,.l TS a,.l TPt b,.l TPt c,.l TRt r])∧n≤z∧(z≤1000→n+(a.length:Int)≤z)) (fun i m hi hI=> ?_) (fun m hI=> ?_) FU (by unfold FU;omega) n (by simp)
 ·obtain⟨y,h,z,rfl,h1,h2⟩:=key
  exact⟨z,h,h1,h2⟩
 ·by_cases h:m≤1000
  ·left
   have hs:=hz i hi
   have e:IntKind.wrap .i64 (IntKind.wrap .i64 (m+1)+(ByteArray.size (a.getD i (Ty.dflt TS)):Int))=m+1+(ByteArray.size (a.getD i (Ty.dflt TS)):Int):=by
    rw[w64 (x:=m+1) (by omega) (by omega),w64 (by omega) (by omega)]
   refine⟨m+1+(ByteArray.size (a.getD i (Ty.dflt TS)):Int),by omega,?_⟩
   refine k0m _ _ _ _ _ _ _ (by omega) _ ?_
   unfold n0z
   refine a0a (dt (show(i:Int)<(a.length:Int) by omega)) (a0a (dt h) ?_)
   rw[w1n i (by omega)]
   exact congrArg (fun q:Int=>some (Step.go [.k 0,.n 1000,.n q,.n ((i+1:Nat):Int),.l TS a,.l TPt b,.l TPt c,.l TRt r])) e
  ·right
   refine⟨(0,[.n 1000,.n m,.l TS a,.l TPt b,.l TPt c,.l TRt r]),?_,m,rfl,by omega,fun q=>(h q).elim⟩
   refine k0m _ _ _ _ _ _ _ (by omega) _ ?_
   unfold n0z
   exact a0a (dt (show(i:Int)<(a.length:Int) by omega)) (a0c (df h) rfl)
 ·refine⟨(0,[.n 1000,.n m,.l TS a,.l TPt b,.l TPt c,.l TRt r]),?_,m,rfl,by omega,fun q=>by omega⟩
  refine k0m _ _ _ _ _ _ _ (by omega) _ ?_
  unfold n0z
  exact a0c (df (show¬(a.length:Int)<(a.length:Int) by omega)) rfl
theorem w15_7 (a:LS)(b c:LP)(r:LR)(hl:b.length≤9223372036854775807)(hz: ∀i,i<b.length→ByteArray.size (Prod.fst (b.getD i (Ty.dflt TPt)))≤140737488351232)(n:Int)(h0:0≤n):
  ∃z,z0q [.k 0,.n 1000,.n n,.n (0:Int),.l TS a,.l TPt b,.l TPt c,.l TRt r]=some (0,[.n 1000,.n z,.l TS a,.l TPt b,.l TPt c,.l TRt r])∧n≤z∧(z≤1000→n+(b.length:Int)≤z):=by
 rw[d1w]
 have key:=y2v (st:=l0c) (fun i n=>[.k 0,.n 1000,.n n,.n (i:Int),.l TS a,.l TPt b,.l TPt c,.l TRt r]) b.length (fun i m=>n+(i:Int)≤m) (fun y=> ∃z,y=(0,[.n 1000,.n z,.l TS a,.l TPt b,.l TPt c,.l TRt r])∧n≤z∧(z≤1000→n+(b.length:Int)≤z)) (fun i m hi hI=> ?_) (fun m hI=> ?_) FU (by unfold FU;omega) n (by simp)
 ·obtain⟨y,h,z,rfl,h1,h2⟩:=key
  exact⟨z,h,h1,h2⟩
 ·by_cases h:m≤1000
  ·left
   have hs:=hz i hi
   have e:IntKind.wrap .i64 (IntKind.wrap .i64 (m+1)+(ByteArray.size (Prod.fst (b.getD i (Ty.dflt TPt))):Int))=m+1+(ByteArray.size (Prod.fst (b.getD i (Ty.dflt TPt))):Int):=by
    rw[w64 (x:=m+1) (by omega) (by omega),w64 (by omega) (by omega)]
   refine⟨m+1+(ByteArray.size (Prod.fst (b.getD i (Ty.dflt TPt))):Int),by omega,?_⟩
   refine k0q _ _ _ _ _ _ _ (by omega) _ ?_
   unfold o0e
   refine a0a (dt (show(i:Int)<(b.length:Int) by omega)) (a0a (dt h) ?_)
   rw[w1n i (by omega)]
   exact congrArg (fun q:Int=>some (Step.go [.k 0,.n 1000,.n q,.n ((i+1:Nat):Int),.l TS a,.l TPt b,.l TPt c,.l TRt r])) e
  ·right
   refine⟨(0,[.n 1000,.n m,.l TS a,.l TPt b,.l TPt c,.l TRt r]),?_,m,rfl,by omega,fun q=>(h q).elim⟩
   refine k0q _ _ _ _ _ _ _ (by omega) _ ?_
   unfold o0e
   exact a0a (dt (show(i:Int)<(b.length:Int) by omega)) (a0c (df h) rfl)
 ·refine⟨(0,[.n 1000,.n m,.l TS a,.l TPt b,.l TPt c,.l TRt r]),?_,m,rfl,by omega,fun q=>by omega⟩
  refine k0q _ _ _ _ _ _ _ (by omega) _ ?_
  unfold o0e
  exact a0c (df (show¬(b.length:Int)<(b.length:Int) by omega)) rfl
theorem w15_11 (a:LS)(b c:LP)(r:LR)(hl:c.length≤9223372036854775807)(hz: ∀i,i<c.length→ByteArray.size (Prod.fst (c.getD i (Ty.dflt TPt)))≤140737488351232)(n:Int)(h0:0≤n):
  ∃z,t0y [.k 0,.n 1000,.n n,.n (0:Int),.l TS a,.l TPt b,.l TPt c,.l TRt r]=some (0,[.n 1000,.n z,.l TS a,.l TPt b,.l TPt c,.l TRt r])∧n≤z∧(z≤1000→n+(c.length:Int)≤z):=by
 rw[w0t]
 have key:=y2v (st:=g0a) (fun i n=>[.k 0,.n 1000,.n n,.n (i:Int),.l TS a,.l TPt b,.l TPt c,.l TRt r]) c.length (fun i m=>n+(i:Int)≤m) (fun y=> ∃z,y=(0,[.n 1000,.n z,.l TS a,.l TPt b,.l TPt c,.l TRt r])∧n≤z∧(z≤1000→n+(c.length:Int)≤z)) (fun i m hi hI=> ?_) (fun m hI=> ?_) FU (by unfold FU;omega) n (by simp)
 ·obtain⟨y,h,z,rfl,h1,h2⟩:=key
  exact⟨z,h,h1,h2⟩
 ·by_cases h:m≤1000
  ·left
   have hs:=hz i hi
   have e:IntKind.wrap .i64 (IntKind.wrap .i64 (m+1)+(ByteArray.size (Prod.fst (c.getD i (Ty.dflt TPt))):Int))=m+1+(ByteArray.size (Prod.fst (c.getD i (Ty.dflt TPt))):Int):=by
    rw[w64 (x:=m+1) (by omega) (by omega),w64 (by omega) (by omega)]
   refine⟨m+1+(ByteArray.size (Prod.fst (c.getD i (Ty.dflt TPt))):Int),by omega,?_⟩
   refine h0m _ _ _ _ _ _ _ (by omega) _ ?_
   unfold j0r
   refine a0a (dt (show(i:Int)<(c.length:Int) by omega)) (a0a (dt h) ?_)
   rw[w1n i (by omega)]
   exact congrArg (fun q:Int=>some (Step.go [.k 0,.n 1000,.n q,.n ((i+1:Nat):Int),.l TS a,.l TPt b,.l TPt c,.l TRt r])) e
  ·right
   refine⟨(0,[.n 1000,.n m,.l TS a,.l TPt b,.l TPt c,.l TRt r]),?_,m,rfl,by omega,fun q=>(h q).elim⟩
   refine h0m _ _ _ _ _ _ _ (by omega) _ ?_
   unfold j0r
   exact a0a (dt (show(i:Int)<(c.length:Int) by omega)) (a0c (df h) rfl)
 ·refine⟨(0,[.n 1000,.n m,.l TS a,.l TPt b,.l TPt c,.l TRt r]),?_,m,rfl,by omega,fun q=>by omega⟩
  refine h0m _ _ _ _ _ _ _ (by omega) _ ?_
  unfold j0r
  exact a0c (df (show¬(c.length:Int)<(c.length:Int) by omega)) rfl
def wt2 (n:Int)(e:Rt):Int:=IntKind.wrap .i64 (IntKind.wrap .i64 (wt n e+((eO e).length:Int))+((eF e).length:Int))
def szR (r:LR):Prop:= ∀i,i<r.length→ByteArray.size (eS (r.getD i (Ty.dflt TRt)))≤140737488351232∧(eP (r.getD i (Ty.dflt TRt))).length≤140737488351232∧(eQ (r.getD i (Ty.dflt TRt))).length≤140737488351232∧(eO (r.getD i (Ty.dflt TRt))).length≤140737488351232∧(eF (r.getD i (Ty.dflt TRt))).length≤140737488351232
theorem w15_15 (a:LS)(b c:LP)(r:LR)(hl:r.length≤9223372036854775807)(hz:szR r)(n:Int)(h0:0≤n):
  ∃z,s0c [.k 0,.n 1000,.n n,.n (0:Int),.l TS a,.l TPt b,.l TPt c,.l TRt r]=some (0,[.n z])∧n≤z∧(z≤1000→n+(r.length:Int)≤z∧lenR r):=by
 rw[x0t]
 have key:=y2v (st:=g0c) (fun i n=>[.k 0,.n 1000,.n n,.n (i:Int),.l TS a,.l TPt b,.l TPt c,.l TRt r]) r.length (fun i m=>n+(i:Int)≤m∧(m≤1000→ ∀j,j<i→(eP (r.getD j (Ty.dflt TRt))).length≤1000∧(eQ (r.getD j (Ty.dflt TRt))).length≤1000∧(eO (r.getD j (Ty.dflt TRt))).length≤1000∧(eF (r.getD j (Ty.dflt TRt))).length≤1000)) (fun y=> ∃z,y=(0,[.n z])∧n≤z∧(z≤1000→n+(r.length:Int)≤z∧lenR r)) (fun i m hi hI=> ?_) (fun m hI=> ?_) FU (by unfold FU;omega) n ⟨by simp,fun _ j hj=>by omega⟩
 ·obtain⟨y,h,z,rfl,h1,h2⟩:=key
  exact⟨z,h,h1,h2⟩
 ·obtain⟨hI1,hI2⟩:=hI
  by_cases h:m≤1000
  ·left
   obtain⟨z1,z2,z3,z4,z5⟩:=hz i hi
   have ew:wt m (r.getD i (Ty.dflt TRt))=m+1+(ByteArray.size (eS (r.getD i (Ty.dflt TRt))):Int)+((eP (r.getD i (Ty.dflt TRt))).length:Int)+((eQ (r.getD i (Ty.dflt TRt))).length:Int):=by
    unfold wt
    rw[w64 (x:=m+1) (by omega) (by omega),w64 (x:=m+1+_) (by omega) (by omega),w64 (x:=m+1+_+_) (by omega) (by omega),w64 (by omega) (by omega)]
   by_cases h2:wt m (r.getD i (Ty.dflt TRt))≤1000
   ·have ew2:wt2 m (r.getD i (Ty.dflt TRt))=wt m (r.getD i (Ty.dflt TRt))+((eO (r.getD i (Ty.dflt TRt))).length:Int)+((eF (r.getD i (Ty.dflt TRt))).length:Int):=by
     unfold wt2
     rw[w64 (x:=wt m (r.getD i (Ty.dflt TRt))+_) (by omega) (by omega),w64 (by omega) (by omega)]
    refine⟨wt2 m (r.getD i (Ty.dflt TRt)),⟨by omega,fun hq j hj=> ?_⟩,?_⟩
    ·rcases Nat.lt_or_ge j i with hj'|hj'
     ·exact hI2 h j hj'
     ·obtain rfl:j=i:=by omega
      refine⟨?_,?_,?_,?_⟩<;>omega
    ·refine e0x _ _ _ _ _ _ _ (by omega) _ ?_
     unfold g0g
     refine a0a (dt (show(i:Int)<(r.length:Int) by omega)) (a0a (dt h) (a0a (dt h2) ?_))
     rw[w1n i (by omega)];rfl
   ·refine⟨wt m (r.getD i (Ty.dflt TRt)),⟨by omega,fun hq=>(h2 hq).elim⟩,?_⟩
    refine e0x _ _ _ _ _ _ _ (by omega) _ ?_
    unfold g0g
    refine a0a (dt (show(i:Int)<(r.length:Int) by omega)) (a0a (dt h) (a0c (df h2) ?_))
    rw[w1n i (by omega)];rfl
  ·right
   refine⟨(0,[.n m]),?_,m,rfl,by omega,fun q=>(h q).elim⟩
   refine e0x _ _ _ _ _ _ _ (by omega) _ ?_
   unfold g0g
   exact a0a (dt (show(i:Int)<(r.length:Int) by omega)) (a0c (df h) rfl)
 ·obtain⟨hI1,hI2⟩:=hI
  refine⟨(0,[.n m]),?_,m,rfl,by omega,fun q=>⟨by omega,hI2 q⟩⟩
  refine e0x _ _ _ _ _ _ _ (by omega) _ ?_
  unfold g0g
  exact a0c (df (show¬(r.length:Int)<(r.length:Int) by omega)) rfl
def szA (a:LS)(b c:LP)(r:LR):Prop:=(∀i,i<a.length→ByteArray.size (a.getD i (Ty.dflt TS))≤140737488351232)∧(∀i,i<b.length→ByteArray.size (Prod.fst (b.getD i (Ty.dflt TPt)))≤140737488351232)∧(∀i,i<c.length→ByteArray.size (Prod.fst (c.getD i (Ty.dflt TPt)))≤140737488351232)∧szR r
theorem o15w (a:LS)(b c:LP)(r:LR)(hs:okS a b c r)(hz:szA a b c r): ∃z,n2d [.l TS a,.l TPt b,.l TPt c,.l TRt r,.n 1000]=some (0,[.n z])∧(z≤1000→(a.length:Int)≤1000∧(b.length:Int)≤1000∧(c.length:Int)≤1000∧(r.length:Int)≤1000∧lenR r):=by
 obtain⟨z1,e1,a1,b1⟩:=w15_3 a b c r hs.1.1 hz.1 0 (by omega)
 obtain⟨z2,e2,a2,b2⟩:=w15_7 a b c r hs.1.2.1 hz.2.1 z1 (by omega)
 obtain⟨z3,e3,a3,b3⟩:=w15_11 a b c r hs.1.2.2.1 hz.2.2.1 z2 (by omega)
 obtain⟨z4,e4,a4,b4⟩:=w15_15 a b c r hs.1.2.2.2 hz.2.2.2 z3 (by omega)
 refine⟨z4,?_,fun h=> ?_⟩
 ·rw[x1o]
  refine d2g _ _ _ _ _ _ ?_
  unfold l2b
  dsimp only
  erw[e1];refine a0a rfl ?_
  erw[e2];refine a0a rfl ?_
  erw[e3];refine a0a rfl ?_
  erw[e4];exact a0a rfl rfl
 ·obtain⟨b4,hr⟩:=b4 h
  have b3:=b3 (by omega)
  have b2:=b2 (by omega)
  have b1:=b1 (by omega)
  exact⟨by omega,by omega,by omega,by omega,hr⟩
theorem y2h {B:Nat}{t:Ty}{l:List t.den}(h:wsD B (.sl t) l=true):l.length≤B∧ ∀x∈l,wsD B t x=true:=by
 have h:(decide (l.length≤B)&&wfL (wsD B t) l)=true:=h
 rw[Bool.and_eq_true]at h
 exact⟨of_decide_eq_true h.1,o2j.1 h.2⟩
theorem c3v {B:Nat}{s:ByteArray}(h:wsD B .str s=true):s.size≤B:=of_decide_eq_true (show decide (s.size≤B)=true from h)
theorem szA_ws (x:TLay.den)(h:wsD reachBytes TLay x=true):szA x.1 x.2.1 x.2.2.1 x.2.2.2:=by
 obtain⟨h1,h2⟩:=w2y h
 obtain⟨h2,h3⟩:=w2y h2
 obtain⟨h3,h4⟩:=w2y h3
 refine⟨fun i hi=>c3v ((y2h h1).2 _ (h0f hi)),fun i hi=>c3v (w2y ((y2h h2).2 _ (h0f hi))).1,fun i hi=>c3v (w2y ((y2h h3).2 _ (h0f hi))).1,fun i hi=> ?_⟩
 obtain⟨g1,g2⟩:=w2y ((y2h h4).2 _ (h0f (d:=Ty.dflt TRt) hi))
 obtain⟨_,g3⟩:=w2y g2
 obtain⟨g4,g5⟩:=w2y g3
 obtain⟨g6,g7⟩:=w2y g5
 obtain⟨g8,g9⟩:=w2y g7
 exact⟨c3v g1,(y2h g4).1,(y2h g6).1,(y2h g8).1,(y2h g9).1⟩
end Go.Proofs.Ytfkcodaiiheniaa.Vx
end
