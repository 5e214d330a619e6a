import Derived.Test.YtdmlmhomcmiodaaVxIm
import Derived.Test.YtdmlmhomcmiodaaVxLk
import Derived.Test.YtdmlmhomcmiodaaVxLaw
import Derived.Test.YtdmlmhomcmiodaaZ06m
import Derived.KernelRfl
noncomputable section
namespace Go.Proofs.Ytdmlmhomcmiodaa.Vx
open Go Go.RowKit
set_option linter.unusedVariables false
set_option linter.unusedSimpArgs false
set_option maxRecDepth 100000
set_option maxHeartbeats 0
@[match_pattern] abbrev TU:Ty:=.int .u64
def q4x (f:OpT):MBox:=mkM 0 [] [(sh 54 [(1,.ptr 0 0),(6,.own 1),(7,.int .i64 0),(23,.int .i64 1),(24,.int .i64 2),(27,.int .i64 3),(28,.int .i64 4)],[laB 5,.arr TU 9])] [] [(.exit 2,sh 54 [(1,.ptr 0 0),(6,.own 1),(7,.int .i64 0),(23,.int .i64 1),(24,.int .i64 2)],[laB 3,.arr TU 7])] f
def g0u (env:LDt):Tree Step:=Lk.stepMC false LK cs_Z 28 9 ls0 (q4x fun _=>none) env
def u0d:OpT:=Classical.choose (opq (a0b g0u FU))
theorem x0o (env:LDt):u0d env=a0b g0u FU env:=Classical.choose_spec (opq (a0b g0u FU)) env
def y1o:MBox:=q4x u0d
theorem g2c:y1o=q4x (a0b g0u FU):=congrArg q4x (funext x0o)
theorem c2n: ∀t s x,(a0h y1o t s).sel=some x→a0k Try.prog 0 (.loop (cAt Try.prog 28 9)) t s x:=by
 rw[g2c]
 exact a0o (st:=g0u) (m:=FU) j1g hmix false (LsOk.none _ _ _) (by kernel_rfl) (fun env y h=>by rw[←stepMC_lk];exact h)
def q0g:LDt→Tree Step
 |[.n n0,.n n1,.n n2,.n n3,.n n4,.l TS l5,.l TPt l6,.l TPt l7,.l TRt l8,.l TU l9]=>
  (.node (decide (n4<n3))
   (let r1:OD:=(g2p [.l TS l5,.l TPt l6,.l TPt l7,.l TRt l8,.n n0,.n n4]);
   (.node (isK 0 [HK.b] r1)
    (.node (gb (dOf r1) 0)
    (.node (inR n0 (List.length l9))
     (.node (inR n4 (List.length (List.set l9 (Int.toNat n0) (ior IntKind.u64 (List.getD l9 (Int.toNat n0) (0:Int)) (ishl IntKind.u64 (1:Int) n4)))))
     (.leaf (Step.go [.k 0,.n n0,.n n1,.n n2,.n n3,.n (IntKind.wrap .i64 (n4+(1:Int))),.l TS l5,.l TPt l6,.l TPt l7,.l TRt l8,.l TU (List.set (List.set l9 (Int.toNat n0) (ior IntKind.u64 (List.getD l9 (Int.toNat n0) (0:Int)) (ishl IntKind.u64 (1:Int) n4))) (Int.toNat n4) (ior IntKind.u64 (List.getD (List.set l9 (Int.toNat n0) (ior IntKind.u64 (List.getD l9 (Int.toNat n0) (0:Int)) (ishl IntKind.u64 (1:Int) n4))) (Int.toNat n4) (0:Int)) (ishl IntKind.u64 (1:Int) n0)))]))
     (.bad 12))
     (.bad 12))
    (.leaf (Step.go [.k 0,.n n0,.n n1,.n n2,.n n3,.n (IntKind.wrap .i64 (n4+(1:Int))),.l TS l5,.l TPt l6,.l TPt l7,.l TRt l8,.l TU l9])))
    (.bad 351)))
   (.leaf (Step.stop 0 [.n n0,.n n1,.n n2,.l TS l5,.l TPt l6,.l TPt l7,.l TRt l8,.l TU l9])))
 |_=>.bad 0
theorem p0m (n0:Int)(n1:Int)(n2:Int)(n3:Int)(n4:Int)(l5:DS)(l6:DP)(l7:DP)(l8:DR)(l9:List (Ty.den TU))(g0:0≤n0)(g1:0≤n4)(g2:n0≤(l9.length:Int))(g3:n3=n0):Imp (q0g [.n n0,.n n1,.n n2,.n n3,.n n4,.l TS l5,.l TPt l6,.l TPt l7,.l TRt l8,.l TU l9]) (g0u [.k 0,.n n0,.n n1,.n n2,.n n3,.n n4,.l TS l5,.l TPt l6,.l TPt l7,.l TRt l8,.l TU l9]):=
(.pa [1]
(.nd (fun h0=>
(.nd (fun h1=>
(.pa [1]
(.nd (fun h2=>
(.nd (fun h3=>
(.pt (c:=(!decide (n4<(0:Int)))) (by kernel_rfl) (by kernel_rfl) (by(simp[*];done))
(.pt (by kernel_rfl) (by kernel_rfl) h3
(.pa [1]
(.nd (fun h4=>
(.pt (c:=(!decide (n0<(0:Int)))) (by kernel_rfl) (by kernel_rfl) (by(simp[*];done))
(.pt (by kernel_rfl) (by kernel_rfl) h4
(.pa [1,1]
.lf)))) (fun h4=>
.none)))))) (fun h3=>
.none))) (fun h2=>
(.pa [1]
.lf))))) (fun h1=>
.none))) (fun h0=>
(.pa [1]
.lf))))
def r4f (f:OpT):MBox:=mkM 0 [] [(sh 54 [(1,.ptr 0 0),(6,.own 1),(23,.int .i64 0),(24,.int .i64 1)],[laB 2,.arr TU 6])] [] [(.exit 0,sh 54 [(6,.own 0)],[.arr TU 0])] f
def g0k (env:LDt):Tree Step:=Lk.stepMC false LK cs_Z 28 6 (lsM [(9,y1o)] 0) (r4f fun _=>none) env
def r0c:OpT:=Classical.choose (opq (a0b g0k FU))
theorem x0q (env:LDt):r0c env=a0b g0k FU env:=Classical.choose_spec (opq (a0b g0k FU)) env
def x1m:MBox:=r4f r0c
theorem c2i:x1m=r4f (a0b g0k FU):=congrArg r4f (funext x0q)
theorem n2r:LsOk Try.prog 0 (lsM [(9,y1o)] 0) (cAt Try.prog 28 6):=LsOk.many fun j B hB hk c hc hi=>by
 simp only[b0d]at hB
 split at hB
 ·rename_i e;have:=Nat.eq_of_beq_eq_true e;subst this;cases hB
  have e1:v0m (cAt Try.prog 28 6) 9=[cAt Try.prog 28 9]:=by kernel_rfl
  have e2:=a0d hc hi
  rw[e1]at e2;cases List.mem_singleton.1 e2;exact c2n
 cases hB
theorem c2z: ∀t s x,(a0h x1m t s).sel=some x→a0k Try.prog 0 (.loop (cAt Try.prog 28 6)) t s x:=by
 rw[c2i]
 exact a0o (st:=g0k) (m:=FU) j1g hmix false (n2r) (by kernel_rfl) (fun env y h=>by rw[←stepMC_lk];exact h)
def q0k:LDt→Tree Step
 |[.n n0,.n n1,.l TS l2,.l TPt l3,.l TPt l4,.l TRt l5,.l TU l6]=>
  (.node (decide (n1<n0))
   (let r1:OD:=(u0d [.k 0,.n n1,.n n0,.n n1,.n n1,.n (0:Int),.l TS l2,.l TPt l3,.l TPt l4,.l TRt l5,.l TU l6]);
   (.node (isK 0 [HK.n,HK.n,HK.n,HK.l Ty.str,HK.l TPt,HK.l TPt,HK.l TRt,HK.l TU] r1)
    (.leaf (Step.go [.k 0,.n (gn (dOf r1) 1),.n (IntKind.wrap .i64 (gn (dOf r1) 2+(1:Int))),.l TS (gl Ty.str (dOf r1) 3),.l TPt (gl TPt (dOf r1) 4),.l TPt (gl TPt (dOf r1) 5),.l TRt (gl TRt (dOf r1) 6),.l TU (gl TU (dOf r1) 7)]))
    (.bad 351)))
   (.leaf (Step.stop 0 [.l TU l6])))
 |_=>.bad 0
theorem p0l (n0:Int)(n1:Int)(l2:DS)(l3:DP)(l4:DP)(l5:DR)(l6:List (Ty.den TU))(g0:0≤n1)(g1:n0=(l5.length:Int))(g2:n0=(l6.length:Int)):Imp (q0k [.n n0,.n n1,.l TS l2,.l TPt l3,.l TPt l4,.l TRt l5,.l TU l6]) (g0k [.k 0,.n n0,.n n1,.l TS l2,.l TPt l3,.l TPt l4,.l TRt l5,.l TU l6]):=
(.pa [1]
(.nd (fun h0=>
(.nd (fun h1=>
(.pa [1]
.lf)) (fun h1=>
.none))) (fun h0=>
(.pa [1]
.lf))))
theorem n2p:LsOk Try.prog (z0) (lsM [(6,x1m)] (z0)) (a0r Try.prog 28):=LsOk.many fun j B hB hk c hc hi=>by
 simp only[b0d]at hB
 split at hB
 ·rename_i e;have:=Nat.eq_of_beq_eq_true e;subst this;cases hB
  rw[a0y (f:=28) (i:=6) (a0e (by kernel_rfl)) (a0d hc hi)];exact c2z
 cases hB
def kqc17 (f:OpT):FBox:=mkF [laV 0] [] [] [(.tup [.own 0,.int .i64 0],[.arr TU 1]),(.tup [.nilsl,.int .i64 0],[])] f
def a2s (env:LDt):TD:=Lk.boxC false LK cs_Z 28 (lsM [(6,x1m)] (z0)) (kqc17 fun _=>none) env
def p1p:OpT:=Classical.choose (opq (fun env=>(a2s env).sel))
theorem m1s (env:LDt):p1p env=(a2s env).sel:=Classical.choose_spec (opq (fun env=>(a2s env).sel)) env
def Bc17:FBox:=kqc17 p1p
theorem t4b:a0v Try.prog 28 (a0j Bc17):=a0p (op:=p1p) j1g hmix false (n2p) (fun env x h=>by rw[m1s]at h;rw[←boxC_lk];exact h)
def y1f:LDt→TD
 |[.l TS l0,.l TPt l1,.l TPt l2,.l TRt l3]=>
  (let r1:OD:=(b2y [.l TS l0,.l TPt l1,.l TPt l2,.l TRt l3]);
   (.node (isK 0 [HK.n,HK.n] r1)
   (.node (gn (dOf r1) 0 !=(0:Int))
    (.leaf ((1,[.n (gn (dOf r1) 0)])))
    (.node (true&&decide ((↑(List.length l3):Int)≤(↑(List.length l3):Int))&&decide ((↑(List.length l3):Int)*(8:Int)≤(281474976710656:Int)))
    (let r2:OD:=(r0c
 [.k 0,.n (↑(List.length l3):Int),.n (0:Int),.l TS l0,.l TPt l1,.l TPt l2,.l TRt l3,
  .l TU
   (repC (α:=Ty.den TU) (Int.toNat (↑(List.length l3):Int)) (0:Int))]);
     (.node (isK 0 [HK.l TU] r2)
     (.leaf ((0,[.n (0:Int),.l TU (gl TU (dOf r2) 0)])))
     (.bad 351)))
    (.bad 50)))
   (.bad 351)))
 |_=>.bad 0
theorem r1j (l0:DS)(l1:DP)(l2:DP)(l3:DR):Imp (y1f [.l TS l0,.l TPt l1,.l TPt l2,.l TRt l3]) (a2s [.l TS l0,.l TPt l1,.l TPt l2,.l TRt l3]):=
(.nd (fun h0=>
(.pa [1]
(.nd (fun h1=>
(.pa [1]
.lf)) (fun h1=>
(.nd (fun h2=>
(.nd (fun h3=>
(.pa [1]
.lf)) (fun h3=>
.none))) (fun h2=>
.none)))))) (fun h0=>
.none))
def k2b:FuncId→Option a0q:=a0s 28 Bc17 cs_Z
theorem n1v:CsOk Try.prog k2b:=a0g j1g t4b
def kqc20 (f:OpT):FBox:=mkF [laV 0,.int .i64 4,.int .i64 5] [] [] [(.bool 0,[])] f
def i2v (env:LDt):TD:=Lk.boxC false LK k2b 50 ls0 (kqc20 fun _=>none) env
def j2f:OpT:=Classical.choose (opq (fun env=>(i2v env).sel))
theorem i2w (env:LDt):j2f env=(i2v env).sel:=Classical.choose_spec (opq (fun env=>(i2v env).sel)) env
def Bc20:FBox:=kqc20 j2f
theorem t4f:a0v Try.prog 50 (a0j Bc20):=a0p (op:=j2f) n1v hmix false (LsOk.none _ _ _) (fun env x h=>by rw[i2w]at h;rw[←boxC_lk];exact h)
def s4t:LDt→TD
 |[.l TS l0,.l TPt l1,.l TPt l2,.l TRt l3,.n n4,.n n5]=>
  (let r1:OD:=(g2g [.l TS l0,.l TPt l1,.l TPt l2,.l TRt l3]);
   (.node (isK 0 [HK.b] r1)
   (.node (gb (dOf r1) 0)
    (.node (decide (n4≥(0:Int)))
    (.node (decide (n4<(↑(List.length l3):Int)))
     (.node (decide (n5≥(0:Int)))
     (.node (decide (n5<(↑(List.length l3):Int)))
      (let r2:OD:=(g2p [.l TS l0,.l TPt l1,.l TPt l2,.l TRt l3,.n n4,.n n5]);
      (.node (isK 0 [HK.b] r2)
       (.leaf ((0,[.b (gb (dOf r2) 0)])))
       (.bad 351)))
      (.leaf ((0,[.b false]))))
     (.leaf ((0,[.b false]))))
     (.leaf ((0,[.b false]))))
    (.leaf ((0,[.b false]))))
    (.leaf ((0,[.b false]))))
   (.bad 351)))
 |_=>.bad 0
theorem b3x (l0:DS)(l1:DP)(l2:DP)(l3:DR)(n4:Int)(n5:Int):Imp (s4t [.l TS l0,.l TPt l1,.l TPt l2,.l TRt l3,.n n4,.n n5]) (i2v [.l TS l0,.l TPt l1,.l TPt l2,.l TRt l3,.n n4,.n n5]):=
(.nd (fun h0=>
(.pa [1]
(.nd (fun h1=>
(.pa [1]
(.nd (fun h2=>
(.pa [1]
(.nd (fun h3=>
(.pa [1]
(.nd (fun h4=>
(.pa [1]
(.nd (fun h5=>
(.nd (fun h6=>
(.pa [1,1]
.lf)) (fun h6=>
.none))) (fun h5=>
(.pa [0,1]
.lf))))) (fun h4=>
(.pa [0,1,0,0,1]
.lf))))) (fun h3=>
(.pa [0,0,0,1]
.lf))))) (fun h2=>
(.pa [0,1,0,0,0,0,1]
.lf))))) (fun h1=>
(.pa [0,0,0,0,0,1]
.lf))))) (fun h0=>
.none))
def a1q:FuncId→Option a0q:=a0s 50 Bc20 k2b
theorem i0t:CsOk Try.prog a1q:=a0g n1v t4f
def q4w (f:OpT):MBox:=mkM 0 [] [(sh 18 [(0,.imm TI 0),(1,.int .i64 1),(5,.int .i64 2)],[])] [] [(.exit 0,sh 18 [],[]),(.ret,sh 18 [(4,.bool 0)],[])] f
def f0y (env:LDt):Tree Step:=Lk.stepMC false LK a1q 81 2 ls0 (q4w fun _=>none) env
def t0r:OpT:=Classical.choose (opq (a0b f0y FU))
theorem w0s (env:LDt):t0r env=a0b f0y FU env:=Classical.choose_spec (opq (a0b f0y FU)) env
def x1u:MBox:=q4w t0r
theorem b2k:x1u=q4w (a0b f0y FU):=congrArg q4w (funext w0s)
theorem b2g: ∀t s x,(a0h x1u t s).sel=some x→a0k Try.prog 0 (.loop (cAt Try.prog 81 2)) t s x:=by
 rw[b2k]
 exact a0o (st:=f0y) (m:=FU) i0t hmix false (LsOk.none _ _ _) (by kernel_rfl) (fun env y h=>by rw[←stepMC_lk];exact h)
def k0e:LDt→Tree Step
 |[.l TI l0,.n n1,.n n2]=>
  (.node (decide (n2<(↑(List.length l0):Int)))
   (.node ((List.getD l0 (Int.toNat n2) (0:Int):Int)==n1)
   (.leaf (Step.stop 1 [.b true]))
   (.leaf (Step.go [.k 0,.l TI l0,.n n1,.n (IntKind.wrap .i64 (n2+(1:Int)))])))
   (.leaf (Step.stop 0 [])))
 |_=>.bad 0
theorem h0r (l0:DI)(n1:Int)(n2:Int)(g0:0≤n2):Imp (k0e [.l TI l0,.n n1,.n n2]) (f0y [.k 0,.l TI l0,.n n1,.n n2]):=
(.pa [1]
(.nd (fun h0=>
(.pq (c:=(inR n2 (List.length l0)))
(.nd (fun h1=>
(.pa [1]
.lf)) (fun h1=>
(.pa [1]
.lf))))) (fun h0=>
(.pa [1]
.lf))))
theorem h2f:LsOk Try.prog (z0) (lsM [(2,x1u)] (z0)) (a0r Try.prog 81):=LsOk.many fun j B hB hk c hc hi=>by
 simp only[b0d]at hB
 split at hB
 ·rename_i e;have:=Nat.eq_of_beq_eq_true e;subst this;cases hB
  rw[a0y (f:=81) (i:=2) (a0e (by kernel_rfl)) (a0d hc hi)];exact b2g
 cases hB
def kqc77 (f:OpT):FBox:=mkF [.imm TI 0,.int .i64 1] [] [] [(.bool 0,[])] f
def v1n (env:LDt):TD:=Lk.boxC false LK a1q 81 (lsM [(2,x1u)] (z0)) (kqc77 fun _=>none) env
def c1w:OpT:=Classical.choose (opq (fun env=>(v1n env).sel))
theorem l1v (env:LDt):c1w env=(v1n env).sel:=Classical.choose_spec (opq (fun env=>(v1n env).sel)) env
def Bc77:FBox:=kqc77 c1w
theorem Bc77_ok:a0v Try.prog 81 (a0j Bc77):=a0p (op:=c1w) i0t hmix false (h2f) (fun env x h=>by rw[l1v]at h;rw[←boxC_lk];exact h)
def w1f:LDt→TD
 |[.l TI l0,.n n1]=>
  (let r1:OD:=(t0r [.k 0,.l TI l0,.n n1,.n (0:Int)]);
   (.node (isK 0 [] r1)
   (.leaf ((0,[.b false])))
   (.node (isK 1 [HK.b] r1)
    (.leaf ((0,[.b (gb (dOf r1) 0)])))
    (.bad 351))))
 |_=>.bad 0
theorem s1v (l0:DI)(n1:Int):Imp (w1f [.l TI l0,.n n1]) (v1n [.l TI l0,.n n1]):=
(.nd (fun h0=>
(.pa [1]
.lf)) (fun h0=>
(.nd (fun h1=>
(.pa [1]
.lf)) (fun h1=>
.none))))
def u1d:FuncId→Option a0q:=a0s 81 Bc77 a1q
theorem b1z:CsOk Try.prog u1d:=a0g i0t Bc77_ok
def r4t (f:OpT):MBox:=mkM 0 [] [(sh 36 [(1,.int .i64 0),(5,.own 0),(6,.int .i64 1)],[.arr TNd 2])] [] [(.exit 0,sh 36 [],[]),(.ret,sh 36 [(4,.int .i64 0)],[])] f
def g0o (env:LDt):Tree Step:=Lk.stepMC false LK u1d 82 3 ls0 (r4t fun _=>none) env
def t0p:OpT:=Classical.choose (opq (a0b g0o FU))
theorem x0v (env:LDt):t0p env=a0b g0o FU env:=Classical.choose_spec (opq (a0b g0o FU)) env
def v1o:MBox:=r4t t0p
theorem c2w:v1o=r4t (a0b g0o FU):=congrArg r4t (funext x0v)
theorem e2k: ∀t s x,(a0h v1o t s).sel=some x→a0k Try.prog 0 (.loop (cAt Try.prog 82 3)) t s x:=by
 rw[c2w]
 exact a0o (st:=g0o) (m:=FU) b1z hmix false (LsOk.none _ _ _) (by kernel_rfl) (fun env y h=>by rw[←stepMC_lk];exact h)
def j0i:LDt→Tree Step
 |[.n n0,.n n1,.l TNd l2]=>
  (.node (decide (n1<(↑(List.length l2):Int)))
   (.node (Prod.fst (List.getD l2 (Int.toNat n1) (Ty.dflt TNd))==n0)
   (.node (Prod.snd (List.getD l2 (Int.toNat n1) (Ty.dflt TNd)))
    (.leaf (Step.stop 1 [.n (2:Int)]))
    (.leaf (Step.stop 1 [.n (1:Int)])))
   (.leaf (Step.go [.k 0,.n n0,.n (IntKind.wrap .i64 (n1+(1:Int))),.l TNd l2])))
   (.leaf (Step.stop 0 [])))
 |_=>.bad 0
theorem h0j (n0:Int)(n1:Int)(l2:DD)(g0:0≤n1):Imp (j0i [.n n0,.n n1,.l TNd l2]) (g0o [.k 0,.n n0,.n n1,.l TNd l2]):=
(.pa [1]
(.nd (fun h0=>
(.pq (c:=(inR n1 (List.length l2)))
(.nd (fun h1=>
(.pq (c:=(inR n1 (List.length l2)))
(.nd (fun h2=>
(.pa [1]
.lf)) (fun h2=>
(.pq (c:=(inR n1 (List.length l2)))
(.pt (by kernel_rfl) (by kernel_rfl) h1
(.pa [1]
.lf))))))) (fun h1=>
(.pa [0,0]
(.pq (c:=(inR n1 (List.length l2)))
(.pf (by kernel_rfl) (by kernel_rfl) h1
(.pa [1]
.lf)))))))) (fun h0=>
(.pa [1]
.lf))))
theorem g2t:LsOk Try.prog (z0) (lsM [(3,v1o)] (z0)) (a0r Try.prog 82):=LsOk.many fun j B hB hk c hc hi=>by
 simp only[b0d]at hB
 split at hB
 ·rename_i e;have:=Nat.eq_of_beq_eq_true e;subst this;cases hB
  rw[a0y (f:=82) (i:=3) (a0e (by kernel_rfl)) (a0d hc hi)];exact e2k
 cases hB
def kqc78 (f:OpT):FBox:=mkF [rtV 0,.int .i64 6] [] [] [(.int .i64 0,[])] f
def u1u (env:LDt):TD:=Lk.boxC false LK u1d 82 (lsM [(3,v1o)] (z0)) (kqc78 fun _=>none) env
def e1s:OpT:=Classical.choose (opq (fun env=>(u1u env).sel))
theorem n1y (env:LDt):e1s env=(u1u env).sel:=Classical.choose_spec (opq (fun env=>(u1u env).sel)) env
def Bc78:FBox:=kqc78 e1s
theorem Bc78_ok:a0v Try.prog 82 (a0j Bc78):=a0p (op:=e1s) b1z hmix false (g2t) (fun env x h=>by rw[n1y]at h;rw[←boxC_lk];exact h)
def z1k:LDt→TD
 |[.s s0,.n n1,.l TI l2,.l TNd l3,.l TI l4,.l TNd l5,.n n6]=>
  (let r1:OD:=(i1r [.s s0,.n n1,.l TI l2,.l TNd l3,.l TI l4,.l TNd l5]);
   (.node (isK 0 [HK.l TNd] r1)
   (let r2:OD:=(t0p [.k 0,.n n6,.n (0:Int),.l TNd (gl TNd (dOf r1) 0)]);
    (.node (isK 0 [] r2)
    (.leaf ((0,[.n (0:Int)])))
    (.node (isK 1 [HK.n] r2)
     (.leaf ((0,[.n (gn (dOf r2) 0)])))
     (.bad 351))))
   (.bad 351)))
 |_=>.bad 0
theorem r1n (s0:ByteArray)(n1:Int)(l2:DI)(l3:DD)(l4:DI)(l5:DD)(n6:Int):Imp (z1k [.s s0,.n n1,.l TI l2,.l TNd l3,.l TI l4,.l TNd l5,.n n6]) (u1u [.s s0,.n n1,.l TI l2,.l TNd l3,.l TI l4,.l TNd l5,.n n6]):=
(.nd (fun h0=>
(.pa [1]
(.nd (fun h1=>
(.pa [1]
.lf)) (fun h1=>
(.nd (fun h2=>
(.pa [1]
.lf)) (fun h2=>
.none)))))) (fun h0=>
.none))
def u1z:FuncId→Option a0q:=a0s 82 Bc78 u1d
theorem c1b:CsOk Try.prog u1z:=a0g b1z Bc78_ok
def q4z (f:OpT):MBox:=mkM 0 [] [(sh 83 [(3,.ptr 0 0),(4,.ptr 1 0),(5,.ptr 2 0),(7,.own 3),(8,.own 4),(9,.int .i64 0)],[laB 1,rtB 5,rtB 11,.arr TI 17,.arr TI 18])] [] [(.exit 0,sh 83 [(3,.ptr 0 0),(4,.ptr 1 0),(5,.ptr 2 0),(7,.own 3),(8,.own 4)],[laB 0,rtB 4,rtB 10,.arr TI 16,.arr TI 17]),(.ret,sh 83 [(6,.bool 0)],[])] f
def g0i (env:LDt):Tree Step:=Lk.stepMC false LK u1z 42 5 ls0 (q4z fun _=>none) env
def s0s:OpT:=Classical.choose (opq (a0b g0i FU))
theorem w0f (env:LDt):s0s env=a0b g0i FU env:=Classical.choose_spec (opq (a0b g0i FU)) env
def t1l:MBox:=q4z s0s
theorem e2y:t1l=q4z (a0b g0i FU):=congrArg q4z (funext w0f)
theorem c2f: ∀t s x,(a0h t1l t s).sel=some x→a0k Try.prog 0 (.loop (cAt Try.prog 42 5)) t s x:=by
 rw[e2y]
 exact a0o (st:=g0i) (m:=FU) c1b hmix false (LsOk.none _ _ _) (by kernel_rfl) (fun env y h=>by rw[←stepMC_lk];exact h)
def k0b:LDt→Tree Step
 |[.n n0,.l TS l1,.l TPt l2,.l TPt l3,.l TRt l4,.s s5,.n n6,.l TI l7,.l TNd l8,.l TI l9,.l TNd l10,.s s11,.n n12,.l TI l13,.l TNd l14,.l TI l15,.l TNd l16,.l TI l17,.l TI l18]=>
  (.node (decide (n0<(↑(List.length l17):Int)))
   (let r1:OD:=(c1w [.l TI l18,.n (List.getD l17 (Int.toNat n0) (0:Int))]);
   (.node (isK 0 [HK.b] r1)
    (.node (gb (dOf r1) 0)
    (.leaf (Step.stop 1 [.b true]))
    (.leaf (Step.go [.k 0,.n (IntKind.wrap .i64 (n0+(1:Int))),.l TS l1,.l TPt l2,.l TPt l3,.l TRt l4,.s s5,.n n6,.l TI l7,.l TNd l8,.l TI l9,.l TNd l10,.s s11,.n n12,.l TI l13,.l TNd l14,.l TI l15,.l TNd l16,.l TI l17,.l TI l18])))
    (.bad 351)))
   (.leaf (Step.stop 0 [.l TS l1,.l TPt l2,.l TPt l3,.l TRt l4,.s s5,.n n6,.l TI l7,.l TNd l8,.l TI l9,.l TNd l10,.s s11,.n n12,.l TI l13,.l TNd l14,.l TI l15,.l TNd l16,.l TI l17,.l TI l18])))
 |_=>.bad 0
theorem h0v (n0:Int)(l1:DS)(l2:DP)(l3:DP)(l4:DR)(s5:ByteArray)(n6:Int)(l7:DI)(l8:DD)(l9:DI)(l10:DD)(s11:ByteArray)(n12:Int)(l13:DI)(l14:DD)(l15:DI)(l16:DD)(l17:DI)(l18:DI)(g0:0≤n0):Imp (k0b [.n n0,.l TS l1,.l TPt l2,.l TPt l3,.l TRt l4,.s s5,.n n6,.l TI l7,.l TNd l8,.l TI l9,.l TNd l10,.s s11,.n n12,.l TI l13,.l TNd l14,.l TI l15,.l TNd l16,.l TI l17,.l TI l18]) (g0i [.k 0,.n n0,.l TS l1,.l TPt l2,.l TPt l3,.l TRt l4,.s s5,.n n6,.l TI l7,.l TNd l8,.l TI l9,.l TNd l10,.s s11,.n n12,.l TI l13,.l TNd l14,.l TI l15,.l TNd l16,.l TI l17,.l TI l18]):=
(.pa [1]
(.nd (fun h0=>
(.pq (c:=(inR n0 (List.length l17)))
(.nd (fun h1=>
(.pa [1]
(.nd (fun h2=>
(.pa [1]
.lf)) (fun h2=>
(.pa [1]
.lf))))) (fun h1=>
.none)))) (fun h0=>
(.pa [1]
.lf))))
def q4p (f:OpT):MBox:=mkM 0 [] [(sh 83 [(3,.ptr 0 0),(4,.ptr 1 0),(5,.ptr 2 0),(7,.own 3),(8,.own 4),(10,.int .i64 0)],[laB 1,rtB 5,rtB 11,.arr TI 17,.arr TI 18])] [] [(.exit 2,sh 83 [],[]),(.ret,sh 83 [(6,.bool 0)],[])] f
def d0o (env:LDt):Tree Step:=Lk.stepMC false LK u1z 42 10 ls0 (q4p fun _=>none) env
def o0d:OpT:=Classical.choose (opq (a0b d0o FU))
theorem u0h (env:LDt):o0d env=a0b d0o FU env:=Classical.choose_spec (opq (a0b d0o FU)) env
def j1z:MBox:=q4p o0d
theorem r1q:j1z=q4p (a0b d0o FU):=congrArg q4p (funext u0h)
theorem q1g: ∀t s x,(a0h j1z t s).sel=some x→a0k Try.prog 0 (.loop (cAt Try.prog 42 10)) t s x:=by
 rw[r1q]
 exact a0o (st:=d0o) (m:=FU) c1b hmix false (LsOk.none _ _ _) (by kernel_rfl) (fun env y h=>by rw[←stepMC_lk];exact h)
def m0g:LDt→Tree Step
 |[.n n0,.l TS l1,.l TPt l2,.l TPt l3,.l TRt l4,.s s5,.n n6,.l TI l7,.l TNd l8,.l TI l9,.l TNd l10,.s s11,.n n12,.l TI l13,.l TNd l14,.l TI l15,.l TNd l16,.l TI l17,.l TI l18]=>
  (.node (decide (n0<(↑(List.length l2):Int)))
   (let r1:OD:=(e1s [.s s5,.n n6,.l TI l7,.l TNd l8,.l TI l9,.l TNd l10,.n n0]);
   (.node (isK 0 [HK.n] r1)
    (let r2:OD:=(e1s [.s s11,.n n12,.l TI l13,.l TNd l14,.l TI l15,.l TNd l16,.n n0]);
    (.node (isK 0 [HK.n] r2)
     (.node (gn (dOf r1) 0 !=gn (dOf r2) 0)
     (.node (decide (gn (dOf r1) 0>(0:Int)))
      (.node (decide (gn (dOf r2) 0>(0:Int)))
      (.leaf (Step.stop 1 [.b true]))
      (let r3:OD:=(c1w [.l TI l18,.n (Prod.snd (List.getD l2 (Int.toNat n0) (Ty.dflt TPt)))]);
       (.node (isK 0 [HK.b] r3)
       (.node (gb (dOf r3) 0)
        (.leaf (Step.stop 1 [.b true]))
        (.leaf (Step.go [.k 0,.n (IntKind.wrap .i64 (n0+(1:Int))),.l TS l1,.l TPt l2,.l TPt l3,.l TRt l4,.s s5,.n n6,.l TI l7,.l TNd l8,.l TI l9,.l TNd l10,.s s11,.n n12,.l TI l13,.l TNd l14,.l TI l15,.l TNd l16,.l TI l17,.l TI l18])))
       (.bad 351))))
      (.node (decide (gn (dOf r2) 0>(0:Int)))
      (let r3:OD:=(c1w [.l TI l17,.n (Prod.snd (List.getD l2 (Int.toNat n0) (Ty.dflt TPt)))]);
       (.node (isK 0 [HK.b] r3)
       (.node (gb (dOf r3) 0)
        (.leaf (Step.stop 1 [.b true]))
        (.leaf (Step.go [.k 0,.n (IntKind.wrap .i64 (n0+(1:Int))),.l TS l1,.l TPt l2,.l TPt l3,.l TRt l4,.s s5,.n n6,.l TI l7,.l TNd l8,.l TI l9,.l TNd l10,.s s11,.n n12,.l TI l13,.l TNd l14,.l TI l15,.l TNd l16,.l TI l17,.l TI l18])))
       (.bad 351)))
      (.leaf (Step.go [.k 0,.n (IntKind.wrap .i64 (n0+(1:Int))),.l TS l1,.l TPt l2,.l TPt l3,.l TRt l4,.s s5,.n n6,.l TI l7,.l TNd l8,.l TI l9,.l TNd l10,.s s11,.n n12,.l TI l13,.l TNd l14,.l TI l15,.l TNd l16,.l TI l17,.l TI l18]))))
     (.leaf (Step.go [.k 0,.n (IntKind.wrap .i64 (n0+(1:Int))),.l TS l1,.l TPt l2,.l TPt l3,.l TRt l4,.s s5,.n n6,.l TI l7,.l TNd l8,.l TI l9,.l TNd l10,.s s11,.n n12,.l TI l13,.l TNd l14,.l TI l15,.l TNd l16,.l TI l17,.l TI l18])))
     (.bad 351)))
    (.bad 351)))
   (.leaf (Step.stop 0 [])))
 |_=>.bad 0
theorem m0a (n0:Int)(l1:DS)(l2:DP)(l3:DP)(l4:DR)(s5:ByteArray)(n6:Int)(l7:DI)(l8:DD)(l9:DI)(l10:DD)(s11:ByteArray)(n12:Int)(l13:DI)(l14:DD)(l15:DI)(l16:DD)(l17:DI)(l18:DI)(g0:0≤n0):Imp (m0g [.n n0,.l TS l1,.l TPt l2,.l TPt l3,.l TRt l4,.s s5,.n n6,.l TI l7,.l TNd l8,.l TI l9,.l TNd l10,.s s11,.n n12,.l TI l13,.l TNd l14,.l TI l15,.l TNd l16,.l TI l17,.l TI l18]) (d0o [.k 0,.n n0,.l TS l1,.l TPt l2,.l TPt l3,.l TRt l4,.s s5,.n n6,.l TI l7,.l TNd l8,.l TI l9,.l TNd l10,.s s11,.n n12,.l TI l13,.l TNd l14,.l TI l15,.l TNd l16,.l TI l17,.l TI l18]):=
(.pa [1]
(.nd (fun h0=>
(.nd (fun h1=>
(.pa [1]
(.nd (fun h2=>
(.pa [1,1]
(.pq (c:=(inR n0 (List.length l2)))
(.nd (fun h3=>
(.nd (fun h4=>
(.nd (fun h5=>
(.pa [1,1,1,1,1]
.lf)) (fun h5=>
(.pt (by kernel_rfl) (by kernel_rfl) h4
(.nd (fun h6=>
(.pa [1]
(.nd (fun h7=>
(.pa [1,1,1]
.lf)) (fun h7=>
(.pf (by kernel_rfl) (by kernel_rfl) h5
(.pa [0,0,1]
.lf)))))) (fun h6=>
.none)))))) (fun h4=>
(.pa [0,0]
(.pf (by kernel_rfl) (by kernel_rfl) h4
(.pa [0,0]
(.nd (fun h5=>
(.nd (fun h6=>
(.pa [1]
(.nd (fun h7=>
(.pa [1]
.lf)) (fun h7=>
(.pa [1]
.lf))))) (fun h6=>
.none))) (fun h5=>
(.pa [0,0,1]
.lf))))))))) (fun h3=>
(.pa [0,0,1]
.lf)))))) (fun h2=>
.none)))) (fun h1=>
.none))) (fun h0=>
(.pa [1]
.lf))))
theorem i2i:LsOk Try.prog (z0) (lsM [(5,t1l),(10,j1z)] (z0)) (a0r Try.prog 42):=LsOk.many fun j B hB hk c hc hi=>by
 simp only[b0d]at hB
 split at hB
 ·rename_i e;have:=Nat.eq_of_beq_eq_true e;subst this;cases hB
  rw[a0y (f:=42) (i:=5) (a0e (by kernel_rfl)) (a0d hc hi)];exact c2f
 split at hB
 ·rename_i e;have:=Nat.eq_of_beq_eq_true e;subst this;cases hB
  rw[a0y (f:=42) (i:=10) (a0e (by kernel_rfl)) (a0d hc hi)];exact q1g
 cases hB
def kqc46 (f:OpT):FBox:=mkF [laV 0,rtV 4,rtV 10] [] [] [(.bool 0,[])] f
def u1b (env:LDt):TD:=Lk.boxC false LK u1z 42 (lsM [(5,t1l),(10,j1z)] (z0)) (kqc46 fun _=>none) env
def m1e:OpT:=Classical.choose (opq (fun env=>(u1b env).sel))
theorem p1h (env:LDt):m1e env=(u1b env).sel:=Classical.choose_spec (opq (fun env=>(u1b env).sel)) env
def Bc46:FBox:=kqc46 m1e
theorem t4i:a0v Try.prog 42 (a0j Bc46):=a0p (op:=m1e) c1b hmix false (i2i) (fun env x h=>by rw[p1h]at h;rw[←boxC_lk];exact h)
def t1q:LDt→TD
 |[.l TS l0,.l TPt l1,.l TPt l2,.l TRt l3,.s s4,.n n5,.l TI l6,.l TNd l7,.l TI l8,.l TNd l9,.s s10,.n n11,.l TI l12,.l TNd l13,.l TI l14,.l TNd l15]=>
  (.node (n5==n11)
   (.leaf ((0,[.b true])))
   (let r1:OD:=(h1f [.s s4,.n n5,.l TI l6,.l TNd l7,.l TI l8,.l TNd l9]);
   (.node (isK 0 [HK.l TI] r1)
    (let r2:OD:=(h1f [.s s10,.n n11,.l TI l12,.l TNd l13,.l TI l14,.l TNd l15]);
    (.node (isK 0 [HK.l TI] r2)
     (let r3:OD:=(s0s [.k 0,.n (0:Int),.l TS l0,.l TPt l1,.l TPt l2,.l TRt l3,.s s4,.n n5,.l TI l6,.l TNd l7,.l TI l8,.l TNd l9,.s s10,.n n11,.l TI l12,.l TNd l13,.l TI l14,.l TNd l15,.l TI (gl TI (dOf r1) 0),.l TI (gl TI (dOf r2) 0)]);
     (.node (isK 0 [HK.l Ty.str,HK.l TPt,HK.l TPt,HK.l TRt,HK.s,HK.n,HK.l TI,HK.l TNd,HK.l TI,HK.l TNd,HK.s,HK.n,HK.l TI,HK.l TNd,HK.l TI,HK.l TNd,HK.l TI,HK.l TI] r3)
      (let r4:OD:=(o0d [.k 0,.n (0:Int),.l TS (gl Ty.str (dOf r3) 0),.l TPt (gl TPt (dOf r3) 1),.l TPt (gl TPt (dOf r3) 2),.l TRt (gl TRt (dOf r3) 3),.s (gs (dOf r3) 4),.n (gn (dOf r3) 5),.l TI (gl TI (dOf r3) 6),.l TNd (gl TNd (dOf r3) 7),.l TI (gl TI (dOf r3) 8),.l TNd (gl TNd (dOf r3) 9),.s (gs (dOf r3) 10),.n (gn (dOf r3) 11),.l TI (gl TI (dOf r3) 12),.l TNd (gl TNd (dOf r3) 13),.l TI (gl TI (dOf r3) 14),.l TNd (gl TNd (dOf r3) 15),.l TI (gl TI (dOf r3) 16),.l TI (gl TI (dOf r3) 17)]);
      (.node (isK 0 [] r4)
       (.leaf ((0,[.b false])))
       (.node (isK 1 [HK.b] r4)
       (.leaf ((0,[.b (gb (dOf r4) 0)])))
       (.bad 351))))
      (.node (isK 1 [HK.b] r3)
      (.leaf ((0,[.b (gb (dOf r3) 0)])))
      (.bad 351))))
     (.bad 351)))
    (.bad 351))))
 |_=>.bad 0
theorem r1g (l0:DS)(l1:DP)(l2:DP)(l3:DR)(s4:ByteArray)(n5:Int)(l6:DI)(l7:DD)(l8:DI)(l9:DD)(s10:ByteArray)(n11:Int)(l12:DI)(l13:DD)(l14:DI)(l15:DD):Imp (t1q [.l TS l0,.l TPt l1,.l TPt l2,.l TRt l3,.s s4,.n n5,.l TI l6,.l TNd l7,.l TI l8,.l TNd l9,.s s10,.n n11,.l TI l12,.l TNd l13,.l TI l14,.l TNd l15]) (u1b [.l TS l0,.l TPt l1,.l TPt l2,.l TRt l3,.s s4,.n n5,.l TI l6,.l TNd l7,.l TI l8,.l TNd l9,.s s10,.n n11,.l TI l12,.l TNd l13,.l TI l14,.l TNd l15]):=
(.nd (fun h0=>
(.pa [1]
.lf)) (fun h0=>
(.nd (fun h1=>
(.pa [1]
(.nd (fun h2=>
(.pa [1,1]
(.nd (fun h3=>
(.nd (fun h4=>
(.pa [1]
.lf)) (fun h4=>
(.nd (fun h5=>
(.pa [1]
.lf)) (fun h5=>
.none))))) (fun h3=>
(.nd (fun h4=>
(.pa [1]
.lf)) (fun h4=>
.none)))))) (fun h2=>
.none)))) (fun h1=>
.none))))
def s4w:FuncId→Option a0q:=a0s 42 Bc46 u1z
theorem r4u:CsOk Try.prog s4w:=a0g c1b t4i
def oC (b:Nat):PB:=.cells [.own b,.own (b+1),.own (b+2),.own (b+3)]
def nC:PB:=.cells [.nilsl,.nilsl,.nilsl,.nilsl]
def r4q (f:OpT):MBox:=mkM (cv:=[(3,[],3,.own TRt)]) 0 [] [(sh 73 [(1,.ptr 0 0),(2,.ptr 1 0),(3,.ptr 2 0),(4,.int .i64 0)],[laB 1,nC,oC 3,.arr TS 5,.arr TPt 6,.arr TPt 7,.arr TRt 8])] [] [(.exit 0,sh 73 [(2,.ptr 0 0),(3,.ptr 1 0)],[nC,oC 2,.arr TS 0,.arr TPt 1,.arr TPt 2,.arr TRt 3])] f
def w2i (env:LDt):Tree Step:=Lk.stepMC false LK s4w 19 6 ls0 (r4q fun _=>none) env
def x2y:OpT:=Classical.choose (opq (a0b w2i FU))
theorem y2k (env:LDt):x2y env=a0b w2i FU env:=Classical.choose_spec (opq (a0b w2i FU)) env
def c3t:MBox:=r4q x2y
theorem f3g:c3t=r4q (a0b w2i FU):=congrArg r4q (funext y2k)
theorem f3i: ∀t s x,(a0h c3t t s).sel=some x→a0k Try.prog 0 (.loop (cAt Try.prog 19 6)) t s x:=by
 rw[f3g]
 exact a0o (st:=w2i) (m:=FU) r4u hmix false (LsOk.none _ _ _) (by kernel_rfl) (fun env y h=>by rw[←stepMC_lk];exact h)
theorem f3q:LsOk Try.prog (z0) (lsM [(6,c3t)] (z0)) (a0r Try.prog 19):=LsOk.many fun j B hB hk c hc hi=>by
 simp only[b0d]at hB
 split at hB
 ·rename_i e;have:=Nat.eq_of_beq_eq_true e;subst this;cases hB
  rw[a0y (f:=19) (i:=6) (a0e (by kernel_rfl)) (a0d hc hi)];exact f3i
 cases hB
def kqc16 (f:OpT):FBox:=mkF [laV 0] [] [] [(.agg [.own 0,.own 1,.own 2,.own 3],[.arr TS 0,.arr TPt 1,.arr TPt 2,.arr TRt 3])] f
def d3y (env:LDt):TD:=Lk.boxC false LK s4w 19 (lsM [(6,c3t)] (z0)) (kqc16 fun _=>none) env
def b3k:OpT:=Classical.choose (opq (fun env=>(d3y env).sel))
theorem b3j (env:LDt):b3k env=(d3y env).sel:=Classical.choose_spec (opq (fun env=>(d3y env).sel)) env
def Bc16:FBox:=kqc16 b3k
theorem t4g:a0v Try.prog 19 (a0j Bc16):=a0p (op:=b3k) r4u hmix false (f3q) (fun env x h=>by rw[b3j]at h;rw[←boxC_lk];exact h)
def cs_c16:FuncId→Option a0q:=e1c 19 [Bc16] s4w
theorem x2w:CsOk Try.prog cs_c16:=h0a r4u fun B hB=>by
 cases List.mem_singleton.1 hB
 exact t4g
theorem s2t {i:Int}{n:Nat}(h0:0≤i)(h1:i<(n:Int)):inR i n=true:=g1v.2 ⟨h0,h1⟩
theorem rtG_of {b c:LP}{e:Rt}(h:rtOk b c e):rtG b e=true:=by
 obtain⟨_,⟨h1,h2,h3,h4⟩,h5,h6⟩:=h
 unfold rtG
 rw[dt h1,dt h2,dt h3,dt h4]
 simp only[Bool.true_and,List.all_eq_true]
 intro d hd
 rcases List.mem_append.1 (show d∈eQ e++eF e from hd)with hd|hd
 ·exact g1v.2 (h5 d hd)
 ·exact g1v.2 (h6 d hd)
theorem oCl (a:LS)(b c:LP)(r:LR)(i j:Int)(hm:mayL a b c r=true)(hi:0≤i∧i<(r.length:Int))(hj:0≤j∧j<(r.length:Int)):
  g2p [.l TS a,.l TPt b,.l TPt c,.l TRt r,.n i,.n j]=some (0,[.b (clF b r i j)]):=by
 rw[u1p]
 obtain⟨_,_,hr⟩:=l0q hm
 have h1:okC b r i j=true:=by
  unfold okC
  rw[s2t hi.1 hi.2,s2t hj.1 hj.2]
  have g1:rtG b (rAt r i)=true:=rtG_of (hr i.toNat (by omega))
  have g2:rtG b (rAt r j)=true:=rtG_of (hr j.toNat (by omega))
  rw[g1,g2];rfl
 show(match c0r TS TS a,c0r TPt TPt b,c0r TPt TPt c,c0r TRt TRt r with|some a,some b,some c,some r=>bif okC b r i j then some (0,[Dat.b (clF b r i j)])else none|_,_,_,_=>none)=_
 simp only[d0b,h1]
 rfl
def prB (a:LS)(b c:LP)(r:LR)(i j:Int):Bool:=mayL a b c r&&(decide (i≥0)&&(decide (i<(r.length:Int))&&(decide (j≥0)&&(decide (j<(r.length:Int))&&clF b r i j))))
theorem o20c (a:LS)(b c:LP)(r:LR)(i j:Int)(hs:okS a b c r):j2f [.l TS a,.l TPt b,.l TPt c,.l TRt r,.n i,.n j]=some (0,[.b (prB a b c r i j)]):=by
 rw[i2w]
 refine b3x _ _ _ _ _ _ _ ?_
 unfold s4t prB
 dsimp only
 erw[oMay a b c r (z1d hs)]
 refine a0a rfl ?_
 cases hm:mayL a b c r with
 |false=>exact a0c rfl rfl
 |true=>
  refine a0a rfl ?_
  by_cases h1:i≥0
  ·refine a0a (dt h1) ?_
   by_cases h2:i<(r.length:Int)
   ·refine a0a (dt h2) ?_
    by_cases h3:j≥0
    ·refine a0a (dt h3) ?_
     by_cases h4:j<(r.length:Int)
     ·refine a0a (dt h4) ?_
      have e:=oCl a b c r i j hm ⟨h1,h2⟩ ⟨h3,h4⟩
      erw[e]
      refine a0a rfl ?_
      rw[dt h1,dt h2,dt h3,dt h4];rfl
     ·exact a0c (df h4) (by rw[dt h1,dt h2,dt h3,df h4];rfl)
    ·exact a0c (df h3) (by rw[dt h1,dt h2,df h3];rfl)
   ·exact a0c (df h2) (by rw[dt h1,df h2];rfl)
  ·exact a0c (df h1) (by rw[df h1];rfl)
theorem n2x {l:LN}(hn:(nd l).Nodup){d:Ty.den TNd}(hd:d∈l):sdF l (f1 d)=some (g2 d):=by
 induction l with
 |nil=>cases hd
 |cons e l ih=>
  have hn':(f1 e::nd l).Nodup:=hn
  rw[List.nodup_cons]at hn'
  unfold sdF
  rw[List.find?_cons]
  rcases List.mem_cons.1 hd with rfl|hd
  ·rw[show(f1 d==f1 d)=true from bt rfl];rfl
  ·have:f1 e≠f1 d:=fun h=>hn'.1 (h▸List.mem_map_of_mem (f:=f1) hd)
   rw[show(f1 e==f1 d)=false from bf this]
   exact ih hn'.2 hd
theorem g3u {l:LN}{p:Int}(h:p∉nd l):sdF l p=none:=by
 unfold sdF
 rw[Option.map_eq_none_iff,List.find?_eq_none]
 intro d hd hp
 exact h ((qeT hp:f1 d=p)▸List.mem_map_of_mem (f:=f1) hd)
theorem sds_nd {l:LN}(hn:(nd l).Nodup):sds l=l:=by
 unfold sds
 have: ∀(l acc:LN),(nd (List.append acc l)).Nodup→l.foldl j0c acc=List.append acc l:=by
  intro l
  induction l with
  |nil=>intro acc _;exact(List.append_nil acc).symm
  |cons d l ih=>
   intro acc h
   rw[List.foldl_cons]
   have e:List.append acc (d::l)=List.append (List.append acc [d]) l:=by
    show acc++(d::l)=(acc++[d])++l
    rw[List.append_assoc];rfl
   have h1:j0c acc d=List.append acc [d]:=by
    unfold j0c
    have:f1 d∉nd acc:=fun hm=>by
     have h2:(nd acc++nd (d::l)).Nodup:=by
      have:nd (List.append acc (d::l))=nd acc++nd (d::l):=List.map_append
      rw[←this];exact h
     rw[List.nodup_append]at h2
     exact h2.2.2 _ hm _ (List.mem_cons_self) rfl
    rw[g3u this];rfl
   rw[h1,e]
   exact ih _ (e▸h)
 exact(this l [] hn).trans (List.nil_append l)
abbrev B64:=BitVec 64
def pw2 (k:Nat):B64:=1#64<<<k
theorem pw2_bit (k i:Nat):(pw2 k).getLsbD i=(decide (i<64)&&decide (i=k)):=by
 unfold pw2
 rw[BitVec.getLsbD_shiftLeft]
 by_cases h:i=k
 ·subst h;simp
 ·by_cases h2:i<k
  ·simp[h,h2]
  ·have:i-k≠0:=by omega
   simp[h,h2,this]
theorem iandB (X:B64)(k:Nat):(iand IntKind.u64 (ishr IntKind.u64 (N X) (k:Int)) (1:Int)==(1:Int))=X.getLsbD k:=by
 rw[x1k,show(1:Int)=N (1#64)from rfl,u1v,N_beq,Bool.eq_iff_iff,beq_iff_eq]
 constructor
 ·intro h
  have:=congrArg (fun y=>y.getLsbD 0) h
  simp at this
  simpa [BitVec.getLsbD_eq_getElem]using this
 ·intro h
  apply BitVec.eq_of_getLsbD_eq
  intro i hi
  rw[BitVec.getLsbD_and,BitVec.getLsbD_ushiftRight]
  by_cases h0:i=0
  ·subst h0;simp[h]
  ·simp[h0]
theorem ishlB (k:Nat):ishl IntKind.u64 (1:Int) (k:Int)=N (pw2 k):=by
 rw[show(1:Int)=N (1#64)from rfl,u2u];rfl
abbrev LB64:=List B64
def NL (T:LB64):List Int:=T.map N
theorem u1l (T:LB64):(NL T).length=T.length:=List.length_map ..
theorem NL_at (T:LB64)(x:Nat):(NL T).getD x 0=N (T.getD x 0#64):=by
 unfold NL
 rw[List.getD_eq_getElem?_getD,List.getD_eq_getElem?_getD,List.getElem?_map]
 cases T[x]? <;>rfl
theorem NL_set (T:LB64)(x:Nat)(v:B64):(NL T).set x (N v)=NL (T.set x v):=by
 unfold NL;rw[List.map_set]
def bitT (T:LB64)(x y:Nat):Bool:=(T.getD x 0#64).getLsbD y
def orB (T:LB64)(x k:Nat):LB64:=T.set x (T.getD x 0#64|||pw2 k)
theorem t1k (T:LB64)(x k:Nat):(orB T x k).length=T.length:=List.length_set ..
theorem bt_or (T:LB64){x k:Nat}(hx:x<T.length)(x':Nat){y:Nat}(hy:y<64):bitT (orB T x k) x' y=(bitT T x' y||(decide (x'=x)&&decide (y=k))):=by
 unfold bitT orB
 rw[List.getD_eq_getElem?_getD,List.getElem?_set]
 by_cases h:x=x'
 ·subst h
  rw[if_pos rfl,if_pos hx,Option.getD_some,BitVec.getLsbD_or,pw2_bit,dt hy,dt rfl]
 ·rw[if_neg h,df (fun e=>h e.symm),Bool.false_and,Bool.or_false,←List.getD_eq_getElem?_getD]
def orII (T:LB64)(i k:Nat):LB64:=orB (orB T i k) k i
def rowK (cl:Nat→Nat→Bool)(i:Nat):Nat→LB64→LB64
 |0,T=>T
 |k+1,T=>bif cl i k then orII (rowK cl i k T) i k else rowK cl i k T
def tabI (cl:Nat→Nat→Bool)(m:Nat):Nat→LB64
 |0=>List.replicate m 0#64
 |i+1=>rowK cl i i (tabI cl m i)
theorem q2m (T:LB64)(i k:Nat):(orII T i k).length=T.length:=by unfold orII;rw[t1k,t1k]
theorem r0r (cl:Nat→Nat→Bool)(i:Nat)(T:LB64): ∀k,(rowK cl i k T).length=T.length
 |0=>rfl
 |k+1=>by
  unfold rowK
  cases cl i k with
  |true=>rw[cond_true,q2m];exact r0r cl i T k
  |false=>exact r0r cl i T k
theorem o0n (cl:Nat→Nat→Bool)(m:Nat): ∀i,(tabI cl m i).length=m
 |0=>List.length_replicate ..
 |i+1=>by unfold tabI;rw[r0r];exact o0n cl m i
theorem bt_row (cl:Nat→Nat→Bool)(i:Nat)(T:LB64)(hi:i<T.length)(x:Nat){y:Nat}(hy:y<64): ∀k,k≤i→bitT (rowK cl i k T) x y=(bitT T x y||((decide (x=i)&&(decide (y<k)&&cl i y))||(decide (y=i)&&(decide (x<k)&&cl i x))))
 |0,_=>by
  show bitT T x y=_
  rw[df (show¬y<0 by omega),df (show¬x<0 by omega)];simp
 |k+1,hk=>by
  have ih:=bt_row cl i T hi x hy k (by omega)
  have hl:=r0r cl i T k
  unfold rowK
  have e:bitT (bif cl i k then orII (rowK cl i k T) i k else rowK cl i k T) x y=(bitT (rowK cl i k T) x y||(cl i k&&((decide (x=i)&&decide (y=k))||(decide (x=k)&&decide (y=i))))):=by
   cases hc:cl i k with
   |false=>simp
   |true=>
    rw[cond_true]
    unfold orII
    rw[bt_or _ (by rw[t1k,hl];omega) x hy,bt_or _ (by rw[hl];exact hi) x hy]
    simp[Bool.or_assoc]
  rw[e,ih]
  by_cases h1:x=i
  ·by_cases h2:y=k
   ·subst h1 h2
    rw[dt rfl,dt rfl,df (show¬y<y by omega),dt (show y<y+1 by omega),df (show¬y=x by omega),df (show¬x=y by omega)]
    simp
   ·by_cases h3:x=k
    ·omega
    ·subst h1
     rw[dt rfl,df h2,df h3,show decide (y<k+1)=decide (y<k)from decide_eq_decide.2 (by omega),df (show¬x<k by omega),df (show¬x<k+1 by omega)]
     simp
  ·by_cases h3:x=k
   ·by_cases h4:y=i
    ·subst h3 h4
     rw[df h1,dt rfl,dt rfl,df (show¬x<x by omega),dt (show x<x+1 by omega)]
     simp
    ·subst h3
     rw[df h1,df h4];simp
   ·rw[df h1,df h3,show decide (x<k+1)=decide (x<k)from decide_eq_decide.2 (by omega)];simp
theorem bt_tab (cl:Nat→Nat→Bool)(m:Nat)(x:Nat){y:Nat}(hy:y<64): ∀i,i≤m→bitT (tabI cl m i) x y=(decide (x<i)&&decide (y<i)&&((decide (y<x)&&cl x y)||(decide (x<y)&&cl y x)))
 |0,_=>by
  rw[df (show¬x<0 by omega)]
  show bitT (List.replicate m 0#64) x y=_
  unfold bitT
  have:(List.replicate m 0#64).getD x 0#64=0#64:=by
   rw[List.getD_eq_getElem?_getD,List.getElem?_replicate];split<;>rfl
  rw[this];simp
 |i+1,hi=>by
  have ih:=bt_tab cl m x hy i (by omega)
  unfold tabI
  rw[bt_row cl i _ (by rw[o0n];omega) x hy i (Nat.le_refl _),ih]
  by_cases h1:x=i
  ·subst h1
   rw[df (show¬x<x by omega),dt (show x<x+1 by omega),dt rfl]
   by_cases h2:y<x
   ·rw[dt h2,df (show¬y=x by omega),dt (show y<x+1 by omega),df (show¬x<y by omega)];simp
   ·by_cases h3:y=x
    ·subst h3;rw[df h2,dt rfl];simp
    ·rw[df h2,df h3,df (show¬y<x+1 by omega)];simp
  ·by_cases h2:y=i
   ·subst h2
    rw[df h1,dt rfl,df (show¬y<y by omega),dt (show y<y+1 by omega),show decide (x<y+1)=decide (x<y)from decide_eq_decide.2 (by omega)]
    by_cases h3:x<y
    ·rw[dt h3,df (show¬y<x by omega)];simp
    ·rw[df h3];simp
   ·rw[df h1,df h2,show decide (x<i+1)=decide (x<i)from decide_eq_decide.2 (by omega),show decide (y<i+1)=decide (y<i)from decide_eq_decide.2 (by omega)];simp
theorem z0x {l:LN}{p:Int}{z:Bool}(h:sdF l p=some z): ∃d∈l,f1 d=p∧g2 d=z:=by
 unfold sdF at h
 rw[Option.map_eq_some_iff]at h
 obtain⟨d,h1,h2⟩:=h
 have hh:(f1 d==p)=true:=List.find?_some (p:=fun d=>f1 d==p) h1
 exact⟨d,List.mem_of_find?_eq_some h1,qeT hh,h2⟩
theorem c1n (l:LN):(nd (sds l)).Nodup:=by
 unfold sds
 have: ∀(l acc:LN),(nd acc).Nodup→(nd (l.foldl j0c acc)).Nodup:=by
  intro l
  induction l with
  |nil=>intro acc h;exact h
  |cons d l ih=>
   intro acc h
   rw[List.foldl_cons]
   refine ih _ ?_
   unfold j0c
   cases hc:sdF acc (f1 d)with
   |some _=>exact h
   |none=>
    have hm:f1 d∉nd acc:=fun hm=>by
     obtain⟨e,he,h2⟩:=List.mem_map.1 hm
     have:=n2x h he
     rw[h2,hc]at this;cases this
    have e:nd (apN acc d)=nd acc++[f1 d]:=by
     show List.map f1 (acc++[d])=_
     rw[List.map_append];rfl
    show(nd (apN acc d)).Nodup
    rw[e,List.nodup_append]
    refine⟨h,List.nodup_cons.2 ⟨by simp,List.nodup_nil⟩,fun x hx y hy e=> ?_⟩
    rw[List.mem_singleton.1 hy]at e
    exact hm (e▸hx)
 exact this l [] List.nodup_nil
theorem t2g (a b:LI):shF a b=shF b a:=by
 unfold shF
 rw[Bool.eq_iff_iff,List.any_eq_true,List.any_eq_true]
 constructor
 ·rintro⟨x,h1,h2⟩;exact⟨x,of_decide_eq_true h2,dt h1⟩
 ·rintro⟨x,h1,h2⟩;exact⟨x,of_decide_eq_true h2,dt h1⟩
theorem unF_le {a b:LN}(ha:(nd a).Nodup)(h:unF a b=true):unF b a=true:=by
 unfold unF at*
 rw[List.any_eq_true]at*
 obtain⟨d,h1,h2⟩:=h
 unfold unAt at h2
 cases hs:sdF b (f1 d)with
 |none=>rw[hs]at h2;cases h2
 |some z=>
  rw[hs]at h2
  have h2:(z !=g2 d)=true:=h2
  obtain⟨e,e1,e2,e3⟩:=z0x hs
  refine⟨e,e1,?_⟩
  unfold unAt
  rw[e2,n2x ha h1]
  show(g2 d !=g2 e)=true
  rw[e3]
  revert h2
  cases z<;>cases g2 d<;>simp
theorem t2t {a b:LN}(ha:(nd a).Nodup)(hb:(nd b).Nodup):unF a b=unF b a:=by
 rw[Bool.eq_iff_iff];exact⟨unF_le ha,unF_le hb⟩
theorem a2a (b:LP)(x y:Rt):cfE b x y=cfE b y x:=by
 unfold cfE
 rw[t2g,t2t (c1n _) (c1n _),decide_eq_decide.2 (show eN x=eN y↔eN y=eN x from⟨Eq.symm,Eq.symm⟩),Bool.or_comm (wayF b (sds (ndsE x)) (trk y) (sds (ndsE y)))]
theorem r2d (b:LP)(r:LR)(i j:Int):clF b r i j=clF b r j i:=by
 unfold clF
 rw[a2a,decide_eq_decide.2 (show i=j↔j=i from⟨Eq.symm,Eq.symm⟩)]
theorem r2k (b:LP)(r:LR)(i:Int):clF b r i i=false:=by unfold clF;rw[dt rfl];rfl
def clN (b:LP)(r:LR)(i k:Nat):Bool:=clF b r (i:Int) (k:Int)
def tabB (b:LP)(r:LR):LB64:=tabI (clN b r) r.length r.length
theorem tab_bit (b:LP)(r:LR){x y:Nat}(hx:x<r.length)(hr:r.length≤64)(hy:y<64):bitT (tabB b r) x y=(decide (y<r.length)&&clN b r x y):=by
 unfold tabB
 rw[bt_tab _ _ x hy _ (Nat.le_refl _),dt hx,Bool.true_and]
 by_cases h:y<x
 ·rw[dt h,df (show¬x<y by omega)];simp
 ·by_cases h2:x<y
  ·rw[df h,dt h2]
   have:clN b r y x=clN b r x y:=r2d b r _ _
   rw[this];simp
  ·obtain rfl:x=y:=by omega
   have:clN b r x x=false:=r2k b r _
   rw[df h,this];simp
theorem NL_orB (T:LB64)(x k:Nat):(NL T).set x (ior IntKind.u64 ((NL T).getD x 0) (ishl IntKind.u64 (1:Int) (k:Int)))=NL (orB T x k):=by
 rw[NL_at,ishlB,t4d,NL_set];rfl
theorem lp17_9 (a:LS)(b c:LP)(r:LR)(i:Nat)(T:LB64)(hm:mayL a b c r=true)(hi:i<r.length)(hT:T.length=r.length):
  u0d [.k 0,.n (i:Int),.n (r.length:Int),.n (i:Int),.n (i:Int),.n (0:Int),.l TS a,.l TPt b,.l TPt c,.l TRt r,.l TU (NL T)]=some (0,[.n (i:Int),.n (r.length:Int),.n (i:Int),.l TS a,.l TPt b,.l TPt c,.l TRt r,.l TU (NL (rowK (clN b r) i i T))]):=by
 have lr:=(l0q hm).2.1
 rw[x0o]
 have ln: ∀k,(NL (rowK (clN b r) i k T)).length=r.length:=fun k=>by rw[u1l,r0r,hT]
 refine b0a (st:=g0u) (fun k=>[.k 0,.n (i:Int),.n (r.length:Int),.n (i:Int),.n (i:Int),.n (k:Int),.l TS a,.l TPt b,.l TPt c,.l TRt r,.l TU (NL (rowK (clN b r) i k T))]) i (0,[.n (i:Int),.n (r.length:Int),.n (i:Int),.l TS a,.l TPt b,.l TPt c,.l TRt r,.l TU (NL (rowK (clN b r) i i T))]) (fun k hk=> ?_) ?_ FU (by unfold FU;omega)
 ·have h0:=ln k
  refine p0m _ _ _ _ _ _ _ _ _ _ (by omega) (by omega) (show(i:Int)≤((NL (rowK (clN b r) i k T)).length:Int) by omega) rfl _ ?_
  unfold q0g
  refine a0a (dt (show(k:Int)<(i:Int) by omega)) ?_
  have e:=oCl a b c r (i:Int) (k:Int) hm ⟨by omega,by omega⟩ ⟨by omega,by omega⟩
  dsimp only
  erw[e]
  refine a0a rfl ?_
  show _=some (Step.go [.k 0,.n (i:Int),.n (r.length:Int),.n (i:Int),.n (i:Int),.n ((k+1:Nat):Int),.l TS a,.l TPt b,.l TPt c,.l TRt r,.l TU (NL (bif clN b r i k then orII (rowK (clN b r) i k T) i k else rowK (clN b r) i k T))])
  cases hc:clN b r i k with
  |true=>
   refine a0a hc (a0a (s2t (by omega) (show(i:Int)<((NL (rowK (clN b r) i k T)).length:Int) by omega)) (a0a (s2t (by omega) ?_) ?_))
   ·show(k:Int)<(((NL (rowK (clN b r) i k T)).set i (ior IntKind.u64 ((NL (rowK (clN b r) i k T)).getD i 0) (ishl IntKind.u64 (1:Int) (k:Int)))).length:Int)
    rw[List.length_set];omega
   ·rw[w1n k (by omega)]
    have g1:=NL_orB (rowK (clN b r) i k T) i k
    have g2:=NL_orB (orB (rowK (clN b r) i k T) i k) k i
    rw[←g1]at g2
    exact congrArg (fun z:List Int=>some (Step.go [.k 0,.n (i:Int),.n (r.length:Int),.n (i:Int),.n (i:Int),.n ((k+1:Nat):Int),.l TS a,.l TPt b,.l TPt c,.l TRt r,.l TU z])) g2
  |false=>
   refine a0c hc ?_
   rw[w1n k (by omega)];rfl
 ·have h0:=ln i
  refine p0m _ _ _ _ _ _ _ _ _ _ (by omega) (by omega) (show(i:Int)≤((NL (rowK (clN b r) i i T)).length:Int) by omega) rfl _ ?_
  unfold q0g
  exact a0c (df (show¬(i:Int)<(i:Int) by omega)) rfl
theorem lp17_6 (a:LS)(b c:LP)(r:LR)(hm:mayL a b c r=true):r0c [.k 0,.n (r.length:Int),.n (0:Int),.l TS a,.l TPt b,.l TPt c,.l TRt r,.l TU (NL (List.replicate r.length 0#64))]=some (0,[.l TU (NL (tabB b r))]):=by
 have lr:=(l0q hm).2.1
 rw[x0q]
 refine b0a (st:=g0k) (fun i=>[.k 0,.n (r.length:Int),.n (i:Int),.l TS a,.l TPt b,.l TPt c,.l TRt r,.l TU (NL (tabI (clN b r) r.length i))]) r.length (0,[.l TU (NL (tabB b r))]) (fun i hi=> ?_) ?_ FU (by unfold FU;omega)
 ·have h0:(NL (tabI (clN b r) r.length i)).length=r.length:=by rw[u1l,o0n]
  refine p0l _ _ _ _ _ _ _ (by omega) rfl (show(r.length:Int)=((NL (tabI (clN b r) r.length i)).length:Int) by omega) _ ?_
  unfold q0k
  refine a0a (dt (show(i:Int)<(r.length:Int) by omega)) ?_
  have e:=lp17_9 a b c r i (tabI (clN b r) r.length i) hm hi (o0n ..)
  dsimp only
  erw[e]
  refine a0a rfl ?_
  show some (Step.go [.k 0,.n (r.length:Int),.n (IntKind.wrap .i64 ((i:Int)+1)),.l TS a,.l TPt b,.l TPt c,.l TRt r,.l TU (NL (tabI (clN b r) r.length (i+1)))])=_
  rw[w1n i (by omega)]
 ·have h0:(NL (tabI (clN b r) r.length r.length)).length=r.length:=by rw[u1l,o0n]
  refine p0l _ _ _ _ _ _ _ (by omega) rfl (show(r.length:Int)=((NL (tabI (clN b r) r.length r.length)).length:Int) by omega) _ ?_
  unfold q0k
  exact a0c (df (show¬(r.length:Int)<(r.length:Int) by omega)) rfl
theorem o17c (a:LS)(b c:LP)(r:LR)(hs:okS a b c r):p1p [.l TS a,.l TPt b,.l TPt c,.l TRt r]=some (if(ckA a b c r).1=0 then(0,[.n (0:Int),.l TU (NL (tabB b r))])else(1,[.n (ckA a b c r).1])):=by
 rw[m1s]
 refine r1j _ _ _ _ _ ?_
 unfold y1f
 dsimp only
 erw[o18 a b c r hs]
 refine a0a rfl ?_
 by_cases hc:(ckA a b c r).1=0
 ·rw[if_pos hc]
  refine a0c (nbf hc) ?_
  obtain⟨hm,_⟩:=(t4n a b c r).1 hc
  have lr:=(l0q hm).2.1
  refine a0a ?_ ?_
  ·rw[dt (show(r.length:Int)≤(r.length:Int) by omega),dt (show(r.length:Int)*8≤281474976710656 by omega)];rfl
  ·have e:=lp17_6 a b c r hm
   have e0:NL (List.replicate r.length 0#64)=repC (α:=Ty.den TU) (Int.toNat (r.length:Int)) (0:Int):=by
    have g0:NL (List.replicate r.length 0#64)=List.replicate r.length (0:Int):=by unfold NL;rw[List.map_replicate];rfl
    exact g0.trans (l2h (α:=Int) r.length 0).symm
   rw[e0]at e
   erw[e]
   exact a0a rfl rfl
 ·rw[if_neg hc]
  exact a0a (nb hc) rfl
theorem sdF_app (l:LN)(d:Ty.den TNd)(p:Int):sdF (apN l d) p=(sdF l p).or (bif f1 d==p then some (g2 d)else none):=by
 unfold sdF
 show Option.map g2 (List.find? (fun d=>f1 d==p) (l++[d]))=_
 rw[List.find?_append]
 cases List.find? (fun d=>f1 d==p) l with
 |some e=>rfl
 |none=>
  cases h:(f1 d==p)with
  |true=>simp[List.find?,h]
  |false=>simp[List.find?,h]
theorem z1w (p:Int): ∀(l acc:LN),sdF (l.foldl j0c acc) p=(sdF acc p).or (sdF l p)
 |[],acc=>by show sdF acc p=(sdF acc p).or none;exact(Option.or_none).symm
 |d::l,acc=>by
  rw[List.foldl_cons,z1w p l]
  have e:sdF (d::l) p=(bif f1 d==p then some (g2 d)else none).or (sdF l p):=by
   unfold sdF
   rw[List.find?_cons]
   cases h:(f1 d==p)<;>simp
  rw[e,←Option.or_assoc]
  congr 1
  unfold j0c
  cases h:sdF acc (f1 d)with
  |none=>exact sdF_app acc d p
  |some z=>
   show sdF acc p=_
   cases hp:(f1 d==p)with
   |true=>
    have:f1 d=p:=qeT hp
    rw[←this,h];rfl
   |false=>simp
theorem u0z (l:LN)(p:Int):sdF (sds l) p=sdF l p:=by
 unfold sds
 rw[z1w];rfl
theorem o2r {l:LN}{d:Ty.den TNd}(h:d∈sds l):sdF l (f1 d)=some (g2 d):=by
 rw[←u0z];exact n2x (c1n l) h
theorem q2g {l:LN}{p:Int}{z:Bool}(h:sdF l p=some z): ∃d∈sds l,f1 d=p∧g2 d=z:=by
 rw[←u0z]at h;exact z0x h
theorem unF_iff (a b:LN):unF (sds a) (sds b)=true↔ ∃p z z',sdF a p=some z∧sdF b p=some z'∧z≠z':=by
 unfold unF
 rw[List.any_eq_true]
 constructor
 ·rintro⟨d,h1,h2⟩
  unfold unAt at h2
  rw[u0z]at h2
  cases hs:sdF b (f1 d)with
  |none=>rw[hs]at h2;cases h2
  |some z=>
   rw[hs]at h2
   refine⟨f1 d,g2 d,z,o2r h1,hs,?_⟩
   have h2:(z !=g2 d)=true:=h2
   rintro e
   rw[e]at h2;simp at h2
 ·rintro⟨p,z,z',h1,h2,h3⟩
  obtain⟨d,d1,d2,d3⟩:=q2g h1
  refine⟨d,d1,?_⟩
  unfold unAt
  rw[u0z,d2,h2,d3]
  show(z' !=z)=true
  revert h3
  cases z<;>cases z'<;>simp
theorem z1i (pts:LP)(a:LN)(tr:LI)(b:LN):wayF pts (sds a) tr (sds b)=true↔ ∃p z,sdF a p=some z∧ptS pts p∈tr∧sdF b p≠some z:=by
 unfold wayF
 rw[List.any_eq_true]
 constructor
 ·rintro⟨d,h1,h2⟩
  unfold i1w at h2
  rw[u0z,Bool.and_eq_true]at h2
  refine⟨f1 d,g2 d,o2r h1,of_decide_eq_true h2.1,fun e=> ?_⟩
  have h3:=h2.2
  rw[e]at h3
  have h3:(g2 d !=g2 d)=true:=h3
  simp at h3
 ·rintro⟨p,z,h1,h2,h3⟩
  obtain⟨d,d1,d2,d3⟩:=q2g h1
  refine⟨d,d1,?_⟩
  unfold i1w
  rw[u0z,d2,dt h2,Bool.true_and]
  cases hs:sdF b p with
  |none=>rfl
  |some z'=>
   show(z' !=g2 d)=true
   rw[d3]
   rw[hs]at h3
   revert h3
   cases z<;>cases z'<;>simp
def nk (l:LN)(p:Int):Int:=match sdF l p with
 |none=>0
 |some false=>1
 |some true=>2
def hitR (b:LP)(A B:LN)(tx ty:LI)(p:Int):Bool:=(nk A p !=nk B p)&&(bif decide (nk A p>0)then(bif decide (nk B p>0)then true else decide (ptS b p∈ty))else(bif decide (nk B p>0)then decide (ptS b p∈tx)else false))
theorem y0f (b:LP)(A B:LN)(tx ty:LI)(p:Int):hitR b A B tx ty p=true↔(∃z z',sdF A p=some z∧sdF B p=some z'∧z≠z')∨(∃z,sdF A p=some z∧ptS b p∈ty∧sdF B p=none)∨(∃z,sdF B p=some z∧ptS b p∈tx∧sdF A p=none):=by
 unfold hitR nk
 cases hA:sdF A p with
 |none=>
  cases hB:sdF B p with
  |none=>simp
  |some z'=>cases z'<;>simp
 |some z=>
  cases hB:sdF B p with
  |none=>cases z<;>simp
  |some z'=>cases z<;>cases z'<;>simp
theorem hit_all (b:LP)(A B:LN)(tx ty:LI)(hA:f0c b A)(hB:f0c b B):(List.range' 0 b.length).any (fun i=>hitR b A B tx ty (i:Int))=(unF (sds A) (sds B)||(wayF b (sds A) ty (sds B)||wayF b (sds B) tx (sds A))):=by
 rw[Bool.eq_iff_iff,List.any_eq_true,Bool.or_eq_true,Bool.or_eq_true,unF_iff,z1i,z1i]
 constructor
 ·rintro⟨i,_,h⟩
  rcases(y0f ..).1 h with⟨z,z',h1,h2,h3⟩|⟨z,h1,h2,h3⟩|⟨z,h1,h2,h3⟩
  ·exact Or.inl ⟨_,z,z',h1,h2,h3⟩
  ·exact Or.inr (Or.inl ⟨_,z,h1,h2,by rw[h3];simp⟩)
  ·exact Or.inr (Or.inr ⟨_,z,h1,h2,by rw[h3];simp⟩)
 ·have key: ∀p,(∃z,sdF A p=some z)∨(∃z,sdF B p=some z)→ ∃i,i∈List.range' 0 b.length∧(i:Int)=p:=by
   intro p h
   have hp:0≤p∧p<(b.length:Int):=by
    rcases h with⟨z,h⟩|⟨z,h⟩
    ·obtain⟨d,d1,d2,_⟩:=z0x h
     have:=hA d d1;rw[d2]at this;exact this
    ·obtain⟨d,d1,d2,_⟩:=z0x h
     have:=hB d d1;rw[d2]at this;exact this
   exact⟨p.toNat,List.mem_range'_1.2 (by omega),by omega⟩
  rintro(⟨p,z,z',h1,h2,h3⟩|⟨p,z,h1,h2,h3⟩|⟨p,z,h1,h2,h3⟩)
  ·obtain⟨i,hi,rfl⟩:=key p (Or.inl ⟨z,h1⟩)
   exact⟨i,hi,(y0f ..).2 (Or.inl ⟨z,z',h1,h2,h3⟩)⟩
  ·obtain⟨i,hi,rfl⟩:=key p (Or.inl ⟨z,h1⟩)
   refine⟨i,hi,(y0f ..).2 ?_⟩
   cases hs:sdF B (i:Int)with
   |none=>exact Or.inr (Or.inl ⟨z,h1,h2,rfl⟩)
   |some z'=>rw[hs]at h3;exact Or.inl ⟨z,z',h1,rfl,fun e=>h3 (by rw[e])⟩
  ·obtain⟨i,hi,rfl⟩:=key p (Or.inr ⟨z,h1⟩)
   refine⟨i,hi,(y0f ..).2 ?_⟩
   cases hs:sdF A (i:Int)with
   |none=>exact Or.inr (Or.inr ⟨z,h1,h2,rfl⟩)
   |some z'=>rw[hs]at h3;exact Or.inl ⟨z',z,rfl,h1,fun e=>h3 (by rw[e])⟩
theorem o77 (l:LI)(p:Int)(hl:l.length≤100000):c1w [.l TI l,.n p]=some (0,[.b (decide (p∈l))]):=by
 have e:t0r [.k 0,.l TI l,.n p,.n (0:Int)]=some (bif (List.range' 0 l.length).any (fun i=>l.getD i 0==p)then(1,[.b true])else(0,[])):=by
  rw[w0s]
  refine a0x (st:=f0y) (fun i=>[.k 0,.l TI l,.n p,.n (i:Int)]) l.length (fun i=>l.getD i 0==p) (1,[.b true]) (0,[]) (fun i hi h=> ?_) (fun i hi h=> ?_) ?_ FU (by unfold FU;omega)
  ·refine h0r _ _ _ (by omega) _ ?_
   unfold k0e
   refine a0a (dt (show(i:Int)<(l.length:Int) by omega)) (a0c h ?_)
   rw[w1n i (by omega)];rfl
  ·refine h0r _ _ _ (by omega) _ ?_
   unfold k0e
   exact a0a (dt (show(i:Int)<(l.length:Int) by omega)) (a0a h rfl)
  ·refine h0r _ _ _ (by omega) _ ?_
   unfold k0e
   exact a0c (df (show¬(l.length:Int)<(l.length:Int) by omega)) rfl
 have e0:(List.range' 0 l.length).any (fun i=>l.getD i 0==p)=decide (p∈l):=by rw[←d1o,←c0g l 0 (fun y=>y==p)]
 rw[e0]at e
 rw[l1v]
 refine s1v _ _ _ ?_
 unfold w1f
 dsimp only
 erw[e]
 cases decide (p∈l)
 ·exact a0a rfl rfl
 ·exact a0c rfl (a0a rfl rfl)
theorem o78 (s:ByteArray)(n:Int)(p:List (Ty.den TI))(q:LN)(o:List (Ty.den TI))(f:LN)(x:Int)(h1:p.length≤200)(h2:q.length≤200)(h3:o.length≤200)(h4:f.length≤200):e1s [.s s,.n n,.l TI p,.l TNd q,.l TI o,.l TNd f,.n x]=some (0,[.n (nk (List.append q f) x)]):=by
 have hl:(List.append q f).length≤100000:=by show(q++f).length≤100000;rw[List.length_append];omega
 revert hl
 have e0:=o12 s n p q o f h1 h2 h3 h4
 have e0:i1r [.s s,.n n,.l TI p,.l TNd q,.l TI o,.l TNd f]=some (0,[.l TNd (List.append q f)]):=e0
 revert e0
 generalize List.append q f=l
 intro e0 hl
 have e:t0p [.k 0,.n x,.n (0:Int),.l TNd l]=some (match sdF l x with|some z=>(1,[.n (bif z then 2 else 1)])|none=>(0,[])):=by
  have hh:=v1l l (Ty.dflt TNd) (fun d=>f1 d==x)
  unfold sdF
  rw[hh,x0v]
  refine(f0f (st:=g0o) (fun i=>[.k 0,.n x,.n (i:Int),.l TNd l]) l.length (fun i=>f1 (l.getD i (Ty.dflt TNd))==x) (fun k=>(1,[.n (bif g2 (l.getD k (Ty.dflt TNd))then 2 else 1)])) (0,[]) (fun i hi h=> ?_) (fun i hi h=> ?_) ?_ FU (by unfold FU;omega)).trans ?_
  rotate_right
  ·cases b0i (fun i=>f1 (l.getD i (Ty.dflt TNd))==x) l.length<;>rfl
  ·refine h0j _ _ _ (by omega) _ ?_
   unfold j0i
   refine a0a (dt (show(i:Int)<(l.length:Int) by omega)) (a0c h ?_)
   rw[w1n i (by omega)];rfl
  ·refine h0j _ _ _ (by omega) _ ?_
   unfold j0i
   refine a0a (dt (show(i:Int)<(l.length:Int) by omega)) (a0a h ?_)
   cases hg:g2 (l.getD i (Ty.dflt TNd))with
   |true=>exact a0a hg rfl
   |false=>exact a0c hg rfl
  ·refine h0j _ _ _ (by omega) _ ?_
   unfold j0i
   exact a0c (df (show¬(l.length:Int)<(l.length:Int) by omega)) rfl
 rw[n1y]
 refine r1n _ _ _ _ _ _ _ _ ?_
 unfold z1k
 dsimp only
 erw[e0]
 refine a0a rfl ?_
 erw[e]
 unfold nk
 cases sdF l x with
 |none=>exact a0a rfl rfl
 |some z=>cases z<;>exact a0c rfl (a0a rfl rfl)
theorem lp46_5 (a:LS)(b c:LP)(r:LR)(s:ByteArray)(n:Int)(p:List (Ty.den TI))(q:LN)(o:List (Ty.den TI))(f:LN)(s':ByteArray)(n':Int)(p':List (Ty.den TI))(q':LN)(o':List (Ty.den TI))(f':LN)(t u:LI)(ht:t.length≤100000)(hu:u.length≤100000):
  s0s [.k 0,.n (0:Int),.l TS a,.l TPt b,.l TPt c,.l TRt r,.s s,.n n,.l TI p,.l TNd q,.l TI o,.l TNd f,.s s',.n n',.l TI p',.l TNd q',.l TI o',.l TNd f',.l TI t,.l TI u]=some (bif shF t u then(1,[.b true])else(0,[.l TS a,.l TPt b,.l TPt c,.l TRt r,.s s,.n n,.l TI p,.l TNd q,.l TI o,.l TNd f,.s s',.n n',.l TI p',.l TNd q',.l TI o',.l TNd f',.l TI t,.l TI u])):=by
 have e0:(List.range' 0 t.length).any (fun i=>decide (t.getD i 0∈u))=shF t u:=c0g t 0 (fun y=>decide (y∈u))
 rw[w0f,←e0]
 refine a0x (st:=g0i) (fun i=>[.k 0,.n (i:Int),.l TS a,.l TPt b,.l TPt c,.l TRt r,.s s,.n n,.l TI p,.l TNd q,.l TI o,.l TNd f,.s s',.n n',.l TI p',.l TNd q',.l TI o',.l TNd f',.l TI t,.l TI u]) t.length (fun i=>decide (t.getD i 0∈u)) (1,[.b true]) (0,[.l TS a,.l TPt b,.l TPt c,.l TRt r,.s s,.n n,.l TI p,.l TNd q,.l TI o,.l TNd f,.s s',.n n',.l TI p',.l TNd q',.l TI o',.l TNd f',.l TI t,.l TI u]) (fun i hi h=> ?_) (fun i hi h=> ?_) ?_ FU (by unfold FU;omega)
 ·refine h0v _ _ _ _ _ _ _ _ _ _ _ _ _ _ _ _ _ _ _ (by omega) _ ?_
  unfold k0b
  refine a0a (dt (show(i:Int)<(t.length:Int) by omega)) ?_
  have e1:=o77 u (t.getD i 0) hu
  dsimp only
  erw[e1]
  refine a0a rfl (a0c h ?_)
  rw[w1n i (by omega)];rfl
 ·refine h0v _ _ _ _ _ _ _ _ _ _ _ _ _ _ _ _ _ _ _ (by omega) _ ?_
  unfold k0b
  refine a0a (dt (show(i:Int)<(t.length:Int) by omega)) ?_
  have e1:=o77 u (t.getD i 0) hu
  dsimp only
  erw[e1]
  exact a0a rfl (a0a h rfl)
 ·refine h0v _ _ _ _ _ _ _ _ _ _ _ _ _ _ _ _ _ _ _ (by omega) _ ?_
  unfold k0b
  exact a0c (df (show¬(t.length:Int)<(t.length:Int) by omega)) rfl
theorem lp46_10 (a:LS)(b c:LP)(r:LR)(s:ByteArray)(n:Int)(p:List (Ty.den TI))(q:LN)(o:List (Ty.den TI))(f:LN)(s':ByteArray)(n':Int)(p':List (Ty.den TI))(q':LN)(o':List (Ty.den TI))(f':LN)(t u:LI)(h1:p.length≤200)(h2:q.length≤200)(h3:o.length≤200)(h4:f.length≤200)(k1:p'.length≤200)(k2:q'.length≤200)(k3:o'.length≤200)(k4:f'.length≤200)(hb:b.length≤100000)(ht:t.length≤100000)(hu:u.length≤100000):
  o0d [.k 0,.n (0:Int),.l TS a,.l TPt b,.l TPt c,.l TRt r,.s s,.n n,.l TI p,.l TNd q,.l TI o,.l TNd f,.s s',.n n',.l TI p',.l TNd q',.l TI o',.l TNd f',.l TI t,.l TI u]=some (bif (List.range' 0 b.length).any (fun i=>hitR b (List.append q f) (List.append q' f') t u (i:Int))then(1,[.b true])else(0,[])):=by
 have key: ∀i:Nat,i<b.length→(d0o [.k 0,.n (i:Int),.l TS a,.l TPt b,.l TPt c,.l TRt r,.s s,.n n,.l TI p,.l TNd q,.l TI o,.l TNd f,.s s',.n n',.l TI p',.l TNd q',.l TI o',.l TNd f',.l TI t,.l TI u]).sel=some (bif hitR b (List.append q f) (List.append q' f') t u (i:Int)then .stop 1 [.b true]else .go [.k 0,.n ((i+1:Nat):Int),.l TS a,.l TPt b,.l TPt c,.l TRt r,.s s,.n n,.l TI p,.l TNd q,.l TI o,.l TNd f,.s s',.n n',.l TI p',.l TNd q',.l TI o',.l TNd f',.l TI t,.l TI u]):=by
  intro i hi
  refine m0a _ _ _ _ _ _ _ _ _ _ _ _ _ _ _ _ _ _ _ (by omega) _ ?_
  unfold m0g
  refine a0a (dt (show(i:Int)<(b.length:Int) by omega)) ?_
  have e1:=o78 s n p q o f (i:Int) h1 h2 h3 h4
  have e2:=o78 s' n' p' q' o' f' (i:Int) k1 k2 k3 k4
  have e3:=o77 u (ptS b (i:Int)) hu
  have e4:=o77 t (ptS b (i:Int)) ht
  unfold hitR
  revert e1 e2
  generalize nk (List.append q f) (i:Int)=x
  generalize nk (List.append q' f') (i:Int)=y
  intro e1 e2
  dsimp only
  erw[e1];refine a0a rfl ?_
  erw[e2];refine a0a rfl ?_
  cases hxy:(x !=y)with
  |false=>refine a0c hxy ?_;rw[w1n i (by omega)];rfl
  |true=>
   refine a0a hxy ?_
   rw[Bool.true_and]
   cases hx:decide (x>0)with
   |true=>
    refine a0a hx ?_
    cases hy:decide (y>0)with
    |true=>exact a0a hy rfl
    |false=>
     refine a0c hy ?_
     erw[e3];refine a0a rfl ?_
     cases hz:decide (ptS b (i:Int)∈u)with
     |true=>exact a0a rfl rfl
     |false=>refine a0c rfl ?_;rw[w1n i (by omega)];rfl
   |false=>
    refine a0c hx ?_
    cases hy:decide (y>0)with
    |true=>
     refine a0a hy ?_
     erw[e4];refine a0a rfl ?_
     cases hz:decide (ptS b (i:Int)∈t)with
     |true=>exact a0a rfl rfl
     |false=>refine a0c rfl ?_;rw[w1n i (by omega)];rfl
    |false=>refine a0c hy ?_;rw[w1n i (by omega)];rfl
 rw[u0h]
 refine a0x (st:=d0o) (fun i=>[.k 0,.n (i:Int),.l TS a,.l TPt b,.l TPt c,.l TRt r,.s s,.n n,.l TI p,.l TNd q,.l TI o,.l TNd f,.s s',.n n',.l TI p',.l TNd q',.l TI o',.l TNd f',.l TI t,.l TI u]) b.length (fun i=>hitR b (List.append q f) (List.append q' f') t u (i:Int)) (1,[.b true]) (0,[]) (fun i hi h=> ?_) (fun i hi h=> ?_) ?_ FU (by unfold FU;omega)
 ·have:=key i hi
  rw[h]at this;exact this
 ·have:=key i hi
  rw[h]at this;exact this
 ·refine m0a _ _ _ _ _ _ _ _ _ _ _ _ _ _ _ _ _ _ _ (by omega) _ ?_
  unfold m0g
  exact a0c (df (show¬(b.length:Int)<(b.length:Int) by omega)) rfl
theorem o46c (a:LS)(b c:LP)(r:LR)(x y:Rt)(h1:(eP x).length≤200)(h2:(eQ x).length≤200)(h3:(eO x).length≤200)(h4:(eF x).length≤200)(k1:(eP y).length≤200)(k2:(eQ y).length≤200)(k3:(eO y).length≤200)(k4:(eF y).length≤200)
  (hb:b.length≤100000) (ha:f0c b (ndsE x)) (hc:f0c b (ndsE y)):
  m1e [.l TS a,.l TPt b,.l TPt c,.l TRt r,.s (eS x),.n (eN x),.l TI (eP x),.l TNd (eQ x),.l TI (eO x),.l TNd (eF x),.s (eS y),.n (eN y),.l TI (eP y),.l TNd (eQ y),.l TI (eO y),.l TNd (eF y)]=some (0,[.b (cfE b x y)]):=by
 have ht:(trk x).length≤100000:=by show(eP x++eO x).length≤_;rw[List.length_append];omega
 have hu:(trk y).length≤100000:=by show(eP y++eO y).length≤_;rw[List.length_append];omega
 have hit:=hit_all b (ndsE x) (ndsE y) (trk x) (trk y) ha hc
 have e1:=o11 (eS x) (eN x) (eP x) (eQ x) (eO x) (eF x) h1 h2 h3 h4
 have e2:=o11 (eS y) (eN y) (eP y) (eQ y) (eO y) (eF y) k1 k2 k3 k4
 have e3:=lp46_5 a b c r (eS x) (eN x) (eP x) (eQ x) (eO x) (eF x) (eS y) (eN y) (eP y) (eQ y) (eO y) (eF y) (trk x) (trk y) ht hu
 have e4:=lp46_10 a b c r (eS x) (eN x) (eP x) (eQ x) (eO x) (eF x) (eS y) (eN y) (eP y) (eQ y) (eO y) (eF y) (trk x) (trk y) h1 h2 h3 h4 k1 k2 k3 k4 hb ht hu
 have hit':(List.range' 0 b.length).any (fun i=>hitR b (List.append (eQ x) (eF x)) (List.append (eQ y) (eF y)) (trk x) (trk y) (i:Int))=_:=hit
 rw[hit']at e4
 unfold cfE
 revert e4
 generalize (unF (sds (ndsE x)) (sds (ndsE y))||(wayF b (sds (ndsE x)) (trk y) (sds (ndsE y))||wayF b (sds (ndsE y)) (trk x) (sds (ndsE x))))=z
 intro e4
 rw[p1h]
 refine r1g _ _ _ _ _ _ _ _ _ _ _ _ _ _ _ _ _ ?_
 unfold t1q
 by_cases hn:eN x=eN y
 ·rw[dt hn]
  exact a0a (bt hn) rfl
 ·rw[df hn]
  refine a0c (bf hn) ?_
  dsimp only
  erw[e1];refine a0a rfl ?_
  erw[e2];refine a0a rfl ?_
  erw[e3]
  cases shF (trk x) (trk y)with
  |true=>exact a0c rfl (a0a rfl rfl)
  |false=>
   refine a0a rfl ?_
   erw[e4]
   cases z with
   |true=>exact a0c rfl (a0a rfl rfl)
   |false=>exact a0a rfl rfl
end Go.Proofs.Ytdmlmhomcmiodaa.Vx
end
