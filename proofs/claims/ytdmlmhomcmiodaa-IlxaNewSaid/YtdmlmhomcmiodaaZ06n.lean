import Derived.Test.YtdmlmhomcmiodaaVxIm
import Derived.Test.YtdmlmhomcmiodaaVxLk
import Derived.Test.YtdmlmhomcmiodaaVxLaw
import Derived.Test.YtdmlmhomcmiodaaZ06m
import Derived.KernelRfl
noncomputable section
namespace Go.Proofs.Ytdmlmhomcmiodaa.Vx
open Go Go.RowKit
set_option linter.unusedVariables false
set_option linter.unusedSimpArgs false
set_option maxRecDepth 100000
set_option maxHeartbeats 0
@[match_pattern] abbrev TU:Ty:=.int .u64
def h1w (f:OpT):MBox:=mkM 0 [] [(sh 54 [(1,.ptr 0 0),(6,.own 1),(7,.int .i64 0),(23,.int .i64 1),(24,.int .i64 2),(27,.int .i64 3),(28,.int .i64 4)],[laB 5,.arr TU 9])] [] [(.exit 2,sh 54 [(1,.ptr 0 0),(6,.own 1),(7,.int .i64 0),(23,.int .i64 1),(24,.int .i64 2)],[laB 3,.arr TU 7])] f
def g0u (env:LDt):Tree Step:=Lk.stepMC false LK cs_Z 28 9 ls0 (h1w fun _=>none) env
def u0d:OpT:=Classical.choose (opq (a0b g0u FU))
theorem x0o (env:LDt):u0d env=a0b g0u FU env:=Classical.choose_spec (opq (a0b g0u FU)) env
def y1o:MBox:=h1w u0d
theorem g2c:y1o=h1w (a0b g0u FU):=congrArg h1w (funext x0o)
theorem c2n: ∀t s x,(a0h y1o t s).sel=some x→a0k Try.prog 0 (.loop (cAt Try.prog 28 9)) t s x:=by
 rw[g2c]
 exact a0o (st:=g0u) (m:=FU) j1g hmix false (LsOk.none _ _ _) (by kernel_rfl) (fun env y h=>by rw[←a0f];exact h)
def q0g:LDt→Tree Step
 |[.n n0,.n n1,.n n2,.n n3,.n n4,.l TS l5,.l TPt l6,.l TPt l7,.l TRt l8,.l TU l9]=>
  (.node (decide (n4<n3))
   (let r1:OD:=(g2p [.l TS l5,.l TPt l6,.l TPt l7,.l TRt l8,.n n0,.n n4]);
   (.node (isK 0 [HK.b] r1)
    (.node (gb (dOf r1) 0)
    (.node (inR n0 (List.length l9))
     (.node (inR n4 (List.length (List.set l9 (Int.toNat n0) (ior IntKind.u64 (List.getD l9 (Int.toNat n0) (0:Int)) (ishl IntKind.u64 (1:Int) n4)))))
     (.leaf (Step.go [.k 0,.n n0,.n n1,.n n2,.n n3,.n (IntKind.wrap .i64 (n4+(1:Int))),.l TS l5,.l TPt l6,.l TPt l7,.l TRt l8,.l TU (List.set (List.set l9 (Int.toNat n0) (ior IntKind.u64 (List.getD l9 (Int.toNat n0) (0:Int)) (ishl IntKind.u64 (1:Int) n4))) (Int.toNat n4) (ior IntKind.u64 (List.getD (List.set l9 (Int.toNat n0) (ior IntKind.u64 (List.getD l9 (Int.toNat n0) (0:Int)) (ishl IntKind.u64 (1:Int) n4))) (Int.toNat n4) (0:Int)) (ishl IntKind.u64 (1:Int) n0)))]))
     (.bad 12))
     (.bad 12))
    (.leaf (Step.go [.k 0,.n n0,.n n1,.n n2,.n n3,.n (IntKind.wrap .i64 (n4+(1:Int))),.l TS l5,.l TPt l6,.l TPt l7,.l TRt l8,.l TU l9])))
    (.bad 351)))
   (.leaf (Step.stop 0 [.n n0,.n n1,.n n2,.l TS l5,.l TPt l6,.l TPt l7,.l TRt l8,.l TU l9])))
 |_=>.bad 0
theorem p0m (n0:Int)(n1:Int)(n2:Int)(n3:Int)(n4:Int)(l5:DS)(l6:DP)(l7:DP)(l8:DR)(l9:List (Ty.den TU))(g0:0≤n0)(g1:0≤n4)(g2:n0≤(l9.length:Int))(g3:n3=n0):Imp (q0g [.n n0,.n n1,.n n2,.n n3,.n n4,.l TS l5,.l TPt l6,.l TPt l7,.l TRt l8,.l TU l9]) (g0u [.k 0,.n n0,.n n1,.n n2,.n n3,.n n4,.l TS l5,.l TPt l6,.l TPt l7,.l TRt l8,.l TU l9]):=
(.pa [1]
(.nd (fun h0=>
(.nd (fun h1=>
(.pa [1]
(.nd (fun h2=>
(.nd (fun h3=>
(.pt (c:=(!decide (n4<(0:Int)))) (by kernel_rfl) (by kernel_rfl) (by(simp[*];done))
(.pt (by kernel_rfl) (by kernel_rfl) h3
(.pa [1]
(.nd (fun h4=>
(.pt (c:=(!decide (n0<(0:Int)))) (by kernel_rfl) (by kernel_rfl) (by(simp[*];done))
(.pt (by kernel_rfl) (by kernel_rfl) h4
(.pa [1,1]
.lf)))) (fun h4=>
.none)))))) (fun h3=>
.none))) (fun h2=>
(.pa [1]
.lf))))) (fun h1=>
.none))) (fun h0=>
(.pa [1]
.lf))))
def i1o (f:OpT):MBox:=mkM 0 [] [(sh 54 [(1,.ptr 0 0),(6,.own 1),(23,.int .i64 0),(24,.int .i64 1)],[laB 2,.arr TU 6])] [] [(.exit 0,sh 54 [(6,.own 0)],[.arr TU 0])] f
def g0k (env:LDt):Tree Step:=Lk.stepMC false LK cs_Z 28 6 (lsM [(9,y1o)] 0) (i1o fun _=>none) env
def r0c:OpT:=Classical.choose (opq (a0b g0k FU))
theorem x0q (env:LDt):r0c env=a0b g0k FU env:=Classical.choose_spec (opq (a0b g0k FU)) env
def x1m:MBox:=i1o r0c
theorem c2i:x1m=i1o (a0b g0k FU):=congrArg i1o (funext x0q)
theorem n2r:LsOk Try.prog 0 (lsM [(9,y1o)] 0) (cAt Try.prog 28 6):=LsOk.many fun j B hB hk c hc hi=>by
 simp only[b0d]at hB
 split at hB
 ·rename_i e;have:=Nat.eq_of_beq_eq_true e;subst this;cases hB
  have e1:v0m (cAt Try.prog 28 6) 9=[cAt Try.prog 28 9]:=by kernel_rfl
  have e2:=a0d hc hi
  rw[e1]at e2;cases List.mem_singleton.1 e2;exact c2n
 cases hB
theorem c2z: ∀t s x,(a0h x1m t s).sel=some x→a0k Try.prog 0 (.loop (cAt Try.prog 28 6)) t s x:=by
 rw[c2i]
 exact a0o (st:=g0k) (m:=FU) j1g hmix false (n2r) (by kernel_rfl) (fun env y h=>by rw[←a0f];exact h)
def q0k:LDt→Tree Step
 |[.n n0,.n n1,.l TS l2,.l TPt l3,.l TPt l4,.l TRt l5,.l TU l6]=>
  (.node (decide (n1<n0))
   (let r1:OD:=(u0d [.k 0,.n n1,.n n0,.n n1,.n n1,.n (0:Int),.l TS l2,.l TPt l3,.l TPt l4,.l TRt l5,.l TU l6]);
   (.node (isK 0 [HK.n,HK.n,HK.n,HK.l Ty.str,HK.l TPt,HK.l TPt,HK.l TRt,HK.l TU] r1)
    (.leaf (Step.go [.k 0,.n (gn (dOf r1) 1),.n (IntKind.wrap .i64 (gn (dOf r1) 2+(1:Int))),.l TS (gl Ty.str (dOf r1) 3),.l TPt (gl TPt (dOf r1) 4),.l TPt (gl TPt (dOf r1) 5),.l TRt (gl TRt (dOf r1) 6),.l TU (gl TU (dOf r1) 7)]))
    (.bad 351)))
   (.leaf (Step.stop 0 [.l TU l6])))
 |_=>.bad 0
theorem p0l (n0:Int)(n1:Int)(l2:DS)(l3:DP)(l4:DP)(l5:DR)(l6:List (Ty.den TU))(g0:0≤n1)(g1:n0=(l5.length:Int))(g2:n0=(l6.length:Int)):Imp (q0k [.n n0,.n n1,.l TS l2,.l TPt l3,.l TPt l4,.l TRt l5,.l TU l6]) (g0k [.k 0,.n n0,.n n1,.l TS l2,.l TPt l3,.l TPt l4,.l TRt l5,.l TU l6]):=
(.pa [1]
(.nd (fun h0=>
(.nd (fun h1=>
(.pa [1]
.lf)) (fun h1=>
.none))) (fun h0=>
(.pa [1]
.lf))))
theorem n2p:LsOk Try.prog (z0) (lsM [(6,x1m)] (z0)) (a0r Try.prog 28):=LsOk.many fun j B hB hk c hc hi=>by
 simp only[b0d]at hB
 split at hB
 ·rename_i e;have:=Nat.eq_of_beq_eq_true e;subst this;cases hB
  rw[a0y (f:=28) (i:=6) (a0e (by kernel_rfl)) (a0d hc hi)];exact c2z
 cases hB
def kc17 (f:OpT):FBox:=mkF [laV 0] [] [] [(.tup [.own 0,.int .i64 0],[.arr TU 1]),(.tup [.nilsl,.int .i64 0],[])] f
def a2s (env:LDt):TD:=Lk.boxC false LK cs_Z 28 (lsM [(6,x1m)] (z0)) (kc17 fun _=>none) env
def p1p:OpT:=Classical.choose (opq (fun env=>(a2s env).sel))
theorem m1s (env:LDt):p1p env=(a2s env).sel:=Classical.choose_spec (opq (fun env=>(a2s env).sel)) env
def Bc17:FBox:=kc17 p1p
theorem Bc17_ok:a0v Try.prog 28 (a0j Bc17):=a0p (op:=p1p) j1g hmix false (n2p) (fun env x h=>by rw[m1s]at h;rw[←a0i];exact h)
def y1f:LDt→TD
 |[.l TS l0,.l TPt l1,.l TPt l2,.l TRt l3]=>
  (let r1:OD:=(b2y [.l TS l0,.l TPt l1,.l TPt l2,.l TRt l3]);
   (.node (isK 0 [HK.n,HK.n] r1)
   (.node (gn (dOf r1) 0 !=(0:Int))
    (.leaf ((1,[.n (gn (dOf r1) 0)])))
    (.node (true&&decide ((↑(List.length l3):Int)≤(↑(List.length l3):Int))&&decide ((↑(List.length l3):Int)*(8:Int)≤(281474976710656:Int)))
    (let r2:OD:=(r0c
 [.k 0,.n (↑(List.length l3):Int),.n (0:Int),.l TS l0,.l TPt l1,.l TPt l2,.l TRt l3,
  .l TU
   (repC (α:=Ty.den TU) (Int.toNat (↑(List.length l3):Int)) (0:Int))]);
     (.node (isK 0 [HK.l TU] r2)
     (.leaf ((0,[.n (0:Int),.l TU (gl TU (dOf r2) 0)])))
     (.bad 351)))
    (.bad 50)))
   (.bad 351)))
 |_=>.bad 0
theorem r1j (l0:DS)(l1:DP)(l2:DP)(l3:DR):Imp (y1f [.l TS l0,.l TPt l1,.l TPt l2,.l TRt l3]) (a2s [.l TS l0,.l TPt l1,.l TPt l2,.l TRt l3]):=
(.nd (fun h0=>
(.pa [1]
(.nd (fun h1=>
(.pa [1]
.lf)) (fun h1=>
(.nd (fun h2=>
(.nd (fun h3=>
(.pa [1]
.lf)) (fun h3=>
.none))) (fun h2=>
.none)))))) (fun h0=>
.none))
def k2b:FuncId→Option a0q:=a0s 28 Bc17 cs_Z
theorem n1v:CsOk Try.prog k2b:=a0g j1g Bc17_ok
def kc20 (f:OpT):FBox:=mkF [laV 0,.int .i64 4,.int .i64 5] [] [] [(.bool 0,[])] f
def i2v (env:LDt):TD:=Lk.boxC false LK k2b 50 ls0 (kc20 fun _=>none) env
def j2f:OpT:=Classical.choose (opq (fun env=>(i2v env).sel))
theorem i2w (env:LDt):j2f env=(i2v env).sel:=Classical.choose_spec (opq (fun env=>(i2v env).sel)) env
def Bc20:FBox:=kc20 j2f
theorem Bc20_ok:a0v Try.prog 50 (a0j Bc20):=a0p (op:=j2f) n1v hmix false (LsOk.none _ _ _) (fun env x h=>by rw[i2w]at h;rw[←a0i];exact h)
def a1q:FuncId→Option a0q:=a0s 50 Bc20 k2b
theorem i0t:CsOk Try.prog a1q:=a0g n1v Bc20_ok
def j1c (f:OpT):MBox:=mkM 0 [] [(sh 18 [(0,.imm TI 0),(1,.int .i64 1),(5,.int .i64 2)],[])] [] [(.exit 0,sh 18 [],[]),(.ret,sh 18 [(4,.bool 0)],[])] f
def f0y (env:LDt):Tree Step:=Lk.stepMC false LK a1q 81 2 ls0 (j1c fun _=>none) env
def t0r:OpT:=Classical.choose (opq (a0b f0y FU))
theorem w0s (env:LDt):t0r env=a0b f0y FU env:=Classical.choose_spec (opq (a0b f0y FU)) env
def x1u:MBox:=j1c t0r
theorem b2k:x1u=j1c (a0b f0y FU):=congrArg j1c (funext w0s)
theorem b2g: ∀t s x,(a0h x1u t s).sel=some x→a0k Try.prog 0 (.loop (cAt Try.prog 81 2)) t s x:=by
 rw[b2k]
 exact a0o (st:=f0y) (m:=FU) i0t hmix false (LsOk.none _ _ _) (by kernel_rfl) (fun env y h=>by rw[←a0f];exact h)
theorem h2f:LsOk Try.prog (z0) (lsM [(2,x1u)] (z0)) (a0r Try.prog 81):=LsOk.many fun j B hB hk c hc hi=>by
 simp only[b0d]at hB
 split at hB
 ·rename_i e;have:=Nat.eq_of_beq_eq_true e;subst this;cases hB
  rw[a0y (f:=81) (i:=2) (a0e (by kernel_rfl)) (a0d hc hi)];exact b2g
 cases hB
def kc77 (f:OpT):FBox:=mkF [.imm TI 0,.int .i64 1] [] [] [(.bool 0,[])] f
def v1n (env:LDt):TD:=Lk.boxC false LK a1q 81 (lsM [(2,x1u)] (z0)) (kc77 fun _=>none) env
def c1w:OpT:=Classical.choose (opq (fun env=>(v1n env).sel))
theorem l1v (env:LDt):c1w env=(v1n env).sel:=Classical.choose_spec (opq (fun env=>(v1n env).sel)) env
def Bc77:FBox:=kc77 c1w
theorem Bc77_ok:a0v Try.prog 81 (a0j Bc77):=a0p (op:=c1w) i0t hmix false (h2f) (fun env x h=>by rw[l1v]at h;rw[←a0i];exact h)
def u1d:FuncId→Option a0q:=a0s 81 Bc77 a1q
theorem b1z:CsOk Try.prog u1d:=a0g i0t Bc77_ok
def i1c (f:OpT):MBox:=mkM 0 [] [(sh 36 [(1,.int .i64 0),(5,.own 0),(6,.int .i64 1)],[.arr TNd 2])] [] [(.exit 0,sh 36 [],[]),(.ret,sh 36 [(4,.int .i64 0)],[])] f
def g0o (env:LDt):Tree Step:=Lk.stepMC false LK u1d 82 3 ls0 (i1c fun _=>none) env
def t0p:OpT:=Classical.choose (opq (a0b g0o FU))
theorem x0v (env:LDt):t0p env=a0b g0o FU env:=Classical.choose_spec (opq (a0b g0o FU)) env
def v1o:MBox:=i1c t0p
theorem c2w:v1o=i1c (a0b g0o FU):=congrArg i1c (funext x0v)
theorem e2k: ∀t s x,(a0h v1o t s).sel=some x→a0k Try.prog 0 (.loop (cAt Try.prog 82 3)) t s x:=by
 rw[c2w]
 exact a0o (st:=g0o) (m:=FU) b1z hmix false (LsOk.none _ _ _) (by kernel_rfl) (fun env y h=>by rw[←a0f];exact h)
theorem g2t:LsOk Try.prog (z0) (lsM [(3,v1o)] (z0)) (a0r Try.prog 82):=LsOk.many fun j B hB hk c hc hi=>by
 simp only[b0d]at hB
 split at hB
 ·rename_i e;have:=Nat.eq_of_beq_eq_true e;subst this;cases hB
  rw[a0y (f:=82) (i:=3) (a0e (by kernel_rfl)) (a0d hc hi)];exact e2k
 cases hB
def kc78 (f:OpT):FBox:=mkF [rtV 0,.int .i64 6] [] [] [(.int .i64 0,[])] f
def u1u (env:LDt):TD:=Lk.boxC false LK u1d 82 (lsM [(3,v1o)] (z0)) (kc78 fun _=>none) env
def e1s:OpT:=Classical.choose (opq (fun env=>(u1u env).sel))
theorem n1y (env:LDt):e1s env=(u1u env).sel:=Classical.choose_spec (opq (fun env=>(u1u env).sel)) env
def Bc78:FBox:=kc78 e1s
theorem Bc78_ok:a0v Try.prog 82 (a0j Bc78):=a0p (op:=e1s) b1z hmix false (g2t) (fun env x h=>by rw[n1y]at h;rw[←a0i];exact h)
def u1z:FuncId→Option a0q:=a0s 82 Bc78 u1d
theorem c1b:CsOk Try.prog u1z:=a0g b1z Bc78_ok
def g1p (f:OpT):MBox:=mkM 0 [] [(sh 83 [(3,.ptr 0 0),(4,.ptr 1 0),(5,.ptr 2 0),(7,.own 3),(8,.own 4),(9,.int .i64 0)],[laB 1,rtB 5,rtB 11,.arr TI 17,.arr TI 18])] [] [(.exit 0,sh 83 [(3,.ptr 0 0),(4,.ptr 1 0),(5,.ptr 2 0),(7,.own 3),(8,.own 4)],[laB 0,rtB 4,rtB 10,.arr TI 16,.arr TI 17]),(.ret,sh 83 [(6,.bool 0)],[])] f
def g0i (env:LDt):Tree Step:=Lk.stepMC false LK u1z 42 5 ls0 (g1p fun _=>none) env
def s0s:OpT:=Classical.choose (opq (a0b g0i FU))
theorem w0f (env:LDt):s0s env=a0b g0i FU env:=Classical.choose_spec (opq (a0b g0i FU)) env
def t1l:MBox:=g1p s0s
theorem e2y:t1l=g1p (a0b g0i FU):=congrArg g1p (funext w0f)
theorem c2f: ∀t s x,(a0h t1l t s).sel=some x→a0k Try.prog 0 (.loop (cAt Try.prog 42 5)) t s x:=by
 rw[e2y]
 exact a0o (st:=g0i) (m:=FU) c1b hmix false (LsOk.none _ _ _) (by kernel_rfl) (fun env y h=>by rw[←a0f];exact h)
def y0g (f:OpT):MBox:=mkM 0 [] [(sh 83 [(3,.ptr 0 0),(4,.ptr 1 0),(5,.ptr 2 0),(7,.own 3),(8,.own 4),(10,.int .i64 0)],[laB 1,rtB 5,rtB 11,.arr TI 17,.arr TI 18])] [] [(.exit 2,sh 83 [],[]),(.ret,sh 83 [(6,.bool 0)],[])] f
def d0o (env:LDt):Tree Step:=Lk.stepMC false LK u1z 42 10 ls0 (y0g fun _=>none) env
def o0d:OpT:=Classical.choose (opq (a0b d0o FU))
theorem u0h (env:LDt):o0d env=a0b d0o FU env:=Classical.choose_spec (opq (a0b d0o FU)) env
def j1z:MBox:=y0g o0d
theorem r1q:j1z=y0g (a0b d0o FU):=congrArg y0g (funext u0h)
theorem q1g: ∀t s x,(a0h j1z t s).sel=some x→a0k Try.prog 0 (.loop (cAt Try.prog 42 10)) t s x:=by
 rw[r1q]
 exact a0o (st:=d0o) (m:=FU) c1b hmix false (LsOk.none _ _ _) (by kernel_rfl) (fun env y h=>by rw[←a0f];exact h)
theorem i2i:LsOk Try.prog (z0) (lsM [(5,t1l),(10,j1z)] (z0)) (a0r Try.prog 42):=LsOk.many fun j B hB hk c hc hi=>by
 simp only[b0d]at hB
 split at hB
 ·rename_i e;have:=Nat.eq_of_beq_eq_true e;subst this;cases hB
  rw[a0y (f:=42) (i:=5) (a0e (by kernel_rfl)) (a0d hc hi)];exact c2f
 split at hB
 ·rename_i e;have:=Nat.eq_of_beq_eq_true e;subst this;cases hB
  rw[a0y (f:=42) (i:=10) (a0e (by kernel_rfl)) (a0d hc hi)];exact q1g
 cases hB
def kc46 (f:OpT):FBox:=mkF [laV 0,rtV 4,rtV 10] [] [] [(.bool 0,[])] f
def u1b (env:LDt):TD:=Lk.boxC false LK u1z 42 (lsM [(5,t1l),(10,j1z)] (z0)) (kc46 fun _=>none) env
def m1e:OpT:=Classical.choose (opq (fun env=>(u1b env).sel))
theorem p1h (env:LDt):m1e env=(u1b env).sel:=Classical.choose_spec (opq (fun env=>(u1b env).sel)) env
def Bc46:FBox:=kc46 m1e
theorem Bc46_ok:a0v Try.prog 42 (a0j Bc46):=a0p (op:=m1e) c1b hmix false (i2i) (fun env x h=>by rw[p1h]at h;rw[←a0i];exact h)
def cs_c46:FuncId→Option a0q:=a0s 42 Bc46 u1z
theorem cs_c46_ok:CsOk Try.prog cs_c46:=a0g c1b Bc46_ok
def oC (b:Nat):PB:=.cells [.own b,.own (b+1),.own (b+2),.own (b+3)]
def nC:PB:=.cells [.nilsl,.nilsl,.nilsl,.nilsl]
def a3p (f:OpT):MBox:=mkM (cv:=[(3,[],3,.own TRt)]) 0 [] [(sh 73 [(1,.ptr 0 0),(2,.ptr 1 0),(3,.ptr 2 0),(4,.int .i64 0)],[laB 1,nC,oC 3,.arr TS 5,.arr TPt 6,.arr TPt 7,.arr TRt 8])] [] [(.exit 0,sh 73 [(2,.ptr 0 0),(3,.ptr 1 0)],[nC,oC 2,.arr TS 0,.arr TPt 1,.arr TPt 2,.arr TRt 3])] f
def w2i (env:LDt):Tree Step:=Lk.stepMC false LK cs_c46 19 6 ls0 (a3p fun _=>none) env
def x2y:OpT:=Classical.choose (opq (a0b w2i FU))
theorem y2k (env:LDt):x2y env=a0b w2i FU env:=Classical.choose_spec (opq (a0b w2i FU)) env
def c3t:MBox:=a3p x2y
theorem f3g:c3t=a3p (a0b w2i FU):=congrArg a3p (funext y2k)
theorem f3i: ∀t s x,(a0h c3t t s).sel=some x→a0k Try.prog 0 (.loop (cAt Try.prog 19 6)) t s x:=by
 rw[f3g]
 exact a0o (st:=w2i) (m:=FU) cs_c46_ok hmix false (LsOk.none _ _ _) (by kernel_rfl) (fun env y h=>by rw[←a0f];exact h)
theorem f3q:LsOk Try.prog (z0) (lsM [(6,c3t)] (z0)) (a0r Try.prog 19):=LsOk.many fun j B hB hk c hc hi=>by
 simp only[b0d]at hB
 split at hB
 ·rename_i e;have:=Nat.eq_of_beq_eq_true e;subst this;cases hB
  rw[a0y (f:=19) (i:=6) (a0e (by kernel_rfl)) (a0d hc hi)];exact f3i
 cases hB
def kc16 (f:OpT):FBox:=mkF [laV 0] [] [] [(.agg [.own 0,.own 1,.own 2,.own 3],[.arr TS 0,.arr TPt 1,.arr TPt 2,.arr TRt 3])] f
def d3y (env:LDt):TD:=Lk.boxC false LK cs_c46 19 (lsM [(6,c3t)] (z0)) (kc16 fun _=>none) env
def b3k:OpT:=Classical.choose (opq (fun env=>(d3y env).sel))
theorem b3j (env:LDt):b3k env=(d3y env).sel:=Classical.choose_spec (opq (fun env=>(d3y env).sel)) env
def Bc16:FBox:=kc16 b3k
theorem Bc16_ok:a0v Try.prog 19 (a0j Bc16):=a0p (op:=b3k) cs_c46_ok hmix false (f3q) (fun env x h=>by rw[b3j]at h;rw[←a0i];exact h)
def b3d:FuncId→Option a0q:=e1c 19 [Bc16] cs_c46
theorem x2w:CsOk Try.prog b3d:=h0a cs_c46_ok fun B hB=>by
 cases List.mem_singleton.1 hB
 exact Bc16_ok
theorem s2t {i:Int}{n:Nat}(h0:0≤i)(h1:i<(n:Int)):inR i n=true:=g1v.2 ⟨h0,h1⟩
theorem rtG_of {b c:LP}{e:Rt}(h:rtOk b c e):rtG b e=true:=by
 obtain⟨_,⟨h1,h2,h3,h4⟩,h5,h6⟩:=h
 unfold rtG
 rw[dt h1,dt h2,dt h3,dt h4]
 simp only[Bool.true_and,List.all_eq_true]
 intro d hd
 rcases List.mem_append.1 (show d∈eQ e++eF e from hd)with hd|hd
 ·exact g1v.2 (h5 d hd)
 ·exact g1v.2 (h6 d hd)
theorem oCl (a:LS)(b c:LP)(r:LR)(i j:Int)(hm:mayL a b c r=true)(hi:0≤i∧i<(r.length:Int))(hj:0≤j∧j<(r.length:Int)):
  g2p [.l TS a,.l TPt b,.l TPt c,.l TRt r,.n i,.n j]=some (0,[.b (clF b r i j)]):=by
 rw[u1p]
 obtain⟨_,_,hr⟩:=l0q hm
 have h1:okC b r i j=true:=by
  unfold okC
  rw[s2t hi.1 hi.2,s2t hj.1 hj.2]
  have g1:rtG b (rAt r i)=true:=rtG_of (hr i.toNat (by omega))
  have g2:rtG b (rAt r j)=true:=rtG_of (hr j.toNat (by omega))
  rw[g1,g2];rfl
 show(match c0r TS TS a,c0r TPt TPt b,c0r TPt TPt c,c0r TRt TRt r with|some a,some b,some c,some r=>bif okC b r i j then some (0,[Dat.b (clF b r i j)])else none|_,_,_,_=>none)=_
 simp only[d0b,h1]
 rfl
abbrev B64:=BitVec 64
def pw2 (k:Nat):B64:=1#64<<<k
theorem iandB (X:B64)(k:Nat):(iand IntKind.u64 (ishr IntKind.u64 (N X) (k:Int)) (1:Int)==(1:Int))=X.getLsbD k:=by
 rw[x1k,show(1:Int)=N (1#64)from rfl,u1v,N_beq,Bool.eq_iff_iff,beq_iff_eq]
 constructor
 ·intro h
  have:=congrArg (fun y=>y.getLsbD 0) h
  simp at this
  simpa [BitVec.getLsbD_eq_getElem]using this
 ·intro h
  apply BitVec.eq_of_getLsbD_eq
  intro i hi
  rw[BitVec.getLsbD_and,BitVec.getLsbD_ushiftRight]
  by_cases h0:i=0
  ·subst h0;simp[h]
  ·simp[h0]
theorem ishlB (k:Nat):ishl IntKind.u64 (1:Int) (k:Int)=N (pw2 k):=by
 rw[show(1:Int)=N (1#64)from rfl,u2u];rfl
abbrev LB64:=List B64
def NL (T:LB64):List Int:=T.map N
theorem u1l (T:LB64):(NL T).length=T.length:=List.length_map ..
theorem NL_at (T:LB64)(x:Nat):(NL T).getD x 0=N (T.getD x 0#64):=by
 unfold NL
 rw[List.getD_eq_getElem?_getD,List.getD_eq_getElem?_getD,List.getElem?_map]
 cases T[x]? <;>rfl
theorem NL_set (T:LB64)(x:Nat)(v:B64):(NL T).set x (N v)=NL (T.set x v):=by
 unfold NL;rw[List.map_set]
def orB (T:LB64)(x k:Nat):LB64:=T.set x (T.getD x 0#64|||pw2 k)
theorem t1k (T:LB64)(x k:Nat):(orB T x k).length=T.length:=List.length_set ..
def orII (T:LB64)(i k:Nat):LB64:=orB (orB T i k) k i
def rowK (cl:Nat→Nat→Bool)(i:Nat):Nat→LB64→LB64
 |0,T=>T
 |k+1,T=>bif cl i k then orII (rowK cl i k T) i k else rowK cl i k T
def tabI (cl:Nat→Nat→Bool)(m:Nat):Nat→LB64
 |0=>List.replicate m 0#64
 |i+1=>rowK cl i i (tabI cl m i)
theorem q2m (T:LB64)(i k:Nat):(orII T i k).length=T.length:=by unfold orII;rw[t1k,t1k]
theorem r0r (cl:Nat→Nat→Bool)(i:Nat)(T:LB64): ∀k,(rowK cl i k T).length=T.length
 |0=>rfl
 |k+1=>by
  unfold rowK
  cases cl i k with
  |true=>rw[cond_true,q2m];exact r0r cl i T k
  |false=>exact r0r cl i T k
theorem o0n (cl:Nat→Nat→Bool)(m:Nat): ∀i,(tabI cl m i).length=m
 |0=>List.length_replicate ..
 |i+1=>by unfold tabI;rw[r0r];exact o0n cl m i
def clN (b:LP)(r:LR)(i k:Nat):Bool:=clF b r (i:Int) (k:Int)
def tabB (b:LP)(r:LR):LB64:=tabI (clN b r) r.length r.length
theorem NL_orB (T:LB64)(x k:Nat):(NL T).set x (ior IntKind.u64 ((NL T).getD x 0) (ishl IntKind.u64 (1:Int) (k:Int)))=NL (orB T x k):=by
 rw[NL_at,ishlB,ior_u64,NL_set];rfl
theorem lp17_9 (a:LS)(b c:LP)(r:LR)(i:Nat)(T:LB64)(hm:mayL a b c r=true)(hi:i<r.length)(hT:T.length=r.length):
  u0d [.k 0,.n (i:Int),.n (r.length:Int),.n (i:Int),.n (i:Int),.n (0:Int),.l TS a,.l TPt b,.l TPt c,.l TRt r,.l TU (NL T)]=some (0,[.n (i:Int),.n (r.length:Int),.n (i:Int),.l TS a,.l TPt b,.l TPt c,.l TRt r,.l TU (NL (rowK (clN b r) i i T))]):=by
 have lr:=(l0q hm).2.1
 rw[x0o]
 have ln: ∀k,(NL (rowK (clN b r) i k T)).length=r.length:=fun k=>by rw[u1l,r0r,hT]
 refine b0a (st:=g0u) (fun k=>[.k 0,.n (i:Int),.n (r.length:Int),.n (i:Int),.n (i:Int),.n (k:Int),.l TS a,.l TPt b,.l TPt c,.l TRt r,.l TU (NL (rowK (clN b r) i k T))]) i (0,[.n (i:Int),.n (r.length:Int),.n (i:Int),.l TS a,.l TPt b,.l TPt c,.l TRt r,.l TU (NL (rowK (clN b r) i i T))]) (fun k hk=> ?_) ?_ FU (by unfold FU;omega)
 ·have h0:=ln k
  refine p0m _ _ _ _ _ _ _ _ _ _ (by omega) (by omega) (show(i:Int)≤((NL (rowK (clN b r) i k T)).length:Int) by omega) rfl _ ?_
  unfold q0g
  refine a0a (dt (show(k:Int)<(i:Int) by omega)) ?_
  have e:=oCl a b c r (i:Int) (k:Int) hm ⟨by omega,by omega⟩ ⟨by omega,by omega⟩
  dsimp only
  erw[e]
  refine a0a rfl ?_
  show _=some (Step.go [.k 0,.n (i:Int),.n (r.length:Int),.n (i:Int),.n (i:Int),.n ((k+1:Nat):Int),.l TS a,.l TPt b,.l TPt c,.l TRt r,.l TU (NL (bif clN b r i k then orII (rowK (clN b r) i k T) i k else rowK (clN b r) i k T))])
  cases hc:clN b r i k with
  |true=>
   refine a0a hc (a0a (s2t (by omega) (show(i:Int)<((NL (rowK (clN b r) i k T)).length:Int) by omega)) (a0a (s2t (by omega) ?_) ?_))
   ·show(k:Int)<(((NL (rowK (clN b r) i k T)).set i (ior IntKind.u64 ((NL (rowK (clN b r) i k T)).getD i 0) (ishl IntKind.u64 (1:Int) (k:Int)))).length:Int)
    rw[List.length_set];omega
   ·rw[w1n k (by omega)]
    have g1:=NL_orB (rowK (clN b r) i k T) i k
    have g2:=NL_orB (orB (rowK (clN b r) i k T) i k) k i
    rw[←g1]at g2
    exact congrArg (fun z:List Int=>some (Step.go [.k 0,.n (i:Int),.n (r.length:Int),.n (i:Int),.n (i:Int),.n ((k+1:Nat):Int),.l TS a,.l TPt b,.l TPt c,.l TRt r,.l TU z])) g2
  |false=>
   refine a0c hc ?_
   rw[w1n k (by omega)];rfl
 ·have h0:=ln i
  refine p0m _ _ _ _ _ _ _ _ _ _ (by omega) (by omega) (show(i:Int)≤((NL (rowK (clN b r) i i T)).length:Int) by omega) rfl _ ?_
  unfold q0g
  exact a0c (df (show¬(i:Int)<(i:Int) by omega)) rfl
theorem lp17_6 (a:LS)(b c:LP)(r:LR)(hm:mayL a b c r=true):r0c [.k 0,.n (r.length:Int),.n (0:Int),.l TS a,.l TPt b,.l TPt c,.l TRt r,.l TU (NL (List.replicate r.length 0#64))]=some (0,[.l TU (NL (tabB b r))]):=by
 have lr:=(l0q hm).2.1
 rw[x0q]
 refine b0a (st:=g0k) (fun i=>[.k 0,.n (r.length:Int),.n (i:Int),.l TS a,.l TPt b,.l TPt c,.l TRt r,.l TU (NL (tabI (clN b r) r.length i))]) r.length (0,[.l TU (NL (tabB b r))]) (fun i hi=> ?_) ?_ FU (by unfold FU;omega)
 ·have h0:(NL (tabI (clN b r) r.length i)).length=r.length:=by rw[u1l,o0n]
  refine p0l _ _ _ _ _ _ _ (by omega) rfl (show(r.length:Int)=((NL (tabI (clN b r) r.length i)).length:Int) by omega) _ ?_
  unfold q0k
  refine a0a (dt (show(i:Int)<(r.length:Int) by omega)) ?_
  have e:=lp17_9 a b c r i (tabI (clN b r) r.length i) hm hi (o0n ..)
  dsimp only
  erw[e]
  refine a0a rfl ?_
  show some (Step.go [.k 0,.n (r.length:Int),.n (IntKind.wrap .i64 ((i:Int)+1)),.l TS a,.l TPt b,.l TPt c,.l TRt r,.l TU (NL (tabI (clN b r) r.length (i+1)))])=_
  rw[w1n i (by omega)]
 ·have h0:(NL (tabI (clN b r) r.length r.length)).length=r.length:=by rw[u1l,o0n]
  refine p0l _ _ _ _ _ _ _ (by omega) rfl (show(r.length:Int)=((NL (tabI (clN b r) r.length r.length)).length:Int) by omega) _ ?_
  unfold q0k
  exact a0c (df (show¬(r.length:Int)<(r.length:Int) by omega)) rfl
theorem o17c (a:LS)(b c:LP)(r:LR)(hs:okS a b c r):p1p [.l TS a,.l TPt b,.l TPt c,.l TRt r]=some (if(ckA a b c r).1=0 then(0,[.n (0:Int),.l TU (NL (tabB b r))])else(1,[.n (ckA a b c r).1])):=by
 rw[m1s]
 refine r1j _ _ _ _ _ ?_
 unfold y1f
 dsimp only
 erw[o18 a b c r hs]
 refine a0a rfl ?_
 by_cases hc:(ckA a b c r).1=0
 ·rw[if_pos hc]
  refine a0c (nbf hc) ?_
  obtain⟨hm,_⟩:=(ck_ok a b c r).1 hc
  have lr:=(l0q hm).2.1
  refine a0a ?_ ?_
  ·rw[dt (show(r.length:Int)≤(r.length:Int) by omega),dt (show(r.length:Int)*8≤281474976710656 by omega)];rfl
  ·have e:=lp17_6 a b c r hm
   have e0:NL (List.replicate r.length 0#64)=repC (α:=Ty.den TU) (Int.toNat (r.length:Int)) (0:Int):=by
    have g0:NL (List.replicate r.length 0#64)=List.replicate r.length (0:Int):=by unfold NL;rw[List.map_replicate];rfl
    exact g0.trans (l2h (α:=Int) r.length 0).symm
   rw[e0]at e
   erw[e]
   exact a0a rfl rfl
 ·rw[if_neg hc]
  exact a0a (nb hc) rfl
end Go.Proofs.Ytdmlmhomcmiodaa.Vx
end
