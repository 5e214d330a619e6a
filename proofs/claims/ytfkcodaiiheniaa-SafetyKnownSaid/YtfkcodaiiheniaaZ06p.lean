import Derived.Test.YtfkcodaiiheniaaVxIm
import Derived.Test.YtfkcodaiiheniaaVxLk
import Derived.Test.YtfkcodaiiheniaaVxLaw
import Derived.Test.YtfkcodaiiheniaaZ06n
import Derived.KernelRfl
import Derived.Test.YtfkcodaiiheniaaZ06j
import Derived.Test.YtfkcodaiiheniaaProg
import Derived.Test.YtfkcodaiiheniaaZ06m
noncomputable section
namespace Go.Proofs.Ytfkcodaiiheniaa.Vx
open Go Go.RowKit
set_option linter.unusedVariables false
set_option linter.unusedSimpArgs false
set_option maxRecDepth 100000
set_option maxHeartbeats 0
abbrev TCmd:Ty:=.pair (.int .u8) (.int .i64)
def ipV (h:Nat):PV:=.agg [.int .u64 h,.int .u32 (h+1),.int .u32 (h+2),.imm TCmd (h+3)]
def ipB (h:Nat):PB:=.cells [.int .u64 h,.int .u32 (h+1),.int .u32 (h+2),.imm TCmd (h+3)]
def ouV (h:Nat):PV:=.agg [.int .u64 h,.int .u32 (h+1)]
def ouB (h:Nat):PB:=.cells [.int .u64 h,.int .u32 (h+1)]
def gV (h:Nat):PV:=.agg [.imm TS h,.imm TPt (h+1),.imm TPt (h+2),.imm TRt (h+3),.imm TU (h+4),.int .i64 (h+5)]
def gB (h:Nat):PB:=.cells [.imm TS h,.imm TPt (h+1),.imm TPt (h+2),.imm TRt (h+3),.imm TU (h+4),.int .i64 (h+5)]
def cW (h:Nat):PB:=.cells [.int .u32 h]
def fuB (f:Nat)(cs:List PV):PB:=.cells [fnV f cs]
def y0o (f:OpT):MBox:=mkM 1 [] [(sh 19 [(0,.imm TI 0),(1,fnV 96 [.ptr 0 0]),(7,.int .i64 1),(8,.int .i64 2)],[ipB 3])] [] [(.exit 0,sh 19 [],[.gone]),(.ret,sh 19 [(4,.int .i64 0)],[.gone])] f
def d0e (env:LDt):Tree Step:=Lk.stepMC false LK a1q 139 2 ls0 (y0o fun _=>none) env
def w0d:OpT:=Classical.choose (opq (a0b d0e FU))
theorem s0t (env:LDt):w0d env=a0b d0e FU env:=Classical.choose_spec (opq (a0b d0e FU)) env
def j1y:MBox:=y0o w0d
theorem s1a:j1y=y0o (a0b d0e FU):=congrArg y0o (funext s0t)
theorem q1r: ∀t s x,(a0h j1y t s).sel=some x→a0k Try.prog 1 (.loop (cAt Try.prog 139 2)) t s x:=by
 rw[s1a]
 exact a0o (st:=d0e) (m:=FU) i0t hmix false (LsOk.none _ _ _) (by kernel_rfl) (fun env y h=>by rw[←a0f];exact h)
def m0c:LDt→Tree Step
 |[.l TI l0,.n n1,.n n2,.n n3,.n n4,.n n5,.l (Ty.pair (Ty.int IntKind.u8) TI) l6]=>
  (.node (decide (n2<n1))
   (.node (!decide ((List.getD l0 (Int.toNat n2) (0:Int):Int)<(0:Int)))
   (.node (iand IntKind.u64 (ishr IntKind.u64 n3 (List.getD l0 (Int.toNat n2) (0:Int))) (1:Int)==(1:Int))
    (.leaf (Step.stop 1 [.n n2]))
    (.leaf (Step.go [.k 0,.l TI l0,.n n1,.n (IntKind.wrap .i64 (n2+(1:Int))),.n n3,.n n4,.n n5,.l (Ty.pair (Ty.int IntKind.u8) TI) l6])))
   (.bad 83))
   (.leaf (Step.stop 0 [])))
 |_=>.bad 0
theorem m0p (l0:DI)(n1:Int)(n2:Int)(n3:Int)(n4:Int)(n5:Int)(l6:List (Ty.den (Ty.pair (Ty.int IntKind.u8) TI)))(g0:0≤n2)(g1:n1=(l0.length:Int)):Imp (m0c [.l TI l0,.n n1,.n n2,.n n3,.n n4,.n n5,.l (Ty.pair (Ty.int IntKind.u8) TI) l6]) (d0e [.k 0,.l TI l0,.n n1,.n n2,.n n3,.n n4,.n n5,.l TCmd l6]):=
(.pa [1]
(.nd (fun h0=>
(.pq (c:=(inR n2 (List.length l0)))
(.pa [1]
(.nd (fun h1=>
(.pa [1]
(.nd (fun h2=>
(.pa [1]
.lf)) (fun h2=>
(.pa [1]
.lf))))) (fun h1=>
.none))))) (fun h0=>
(.pa [1]
.lf))))
theorem e2p:LsOk Try.prog (List.length ([ipB 1]:List PB)) (lsM [(2,j1y)] (List.length ([ipB 1]:List PB))) (a0r Try.prog 139):=LsOk.many fun j B hB hk c hc hi=>by
 simp only[b0d]at hB
 split at hB
 ·rename_i e;have:=Nat.eq_of_beq_eq_true e;subst this;cases hB
  rw[a0y (f:=139) (i:=2) (a0e (by kernel_rfl)) (a0d hc hi)];exact q1r
 cases hB
def ks139 (f:OpT):FBox:=mkF [.imm TI 0,fnV 96 [.ptr 0 0]] [ipB 1] [] [(.int .i64 0,[.gone])] f
def h1n (env:LDt):TD:=Lk.boxC false LK a1q 139 (lsM [(2,j1y)] (List.length ([ipB 1]:List PB))) (ks139 fun _=>none) env
def v0h:OpT:=Classical.choose (opq (fun env=>(h1n env).sel))
theorem g1g (env:LDt):v0h env=(h1n env).sel:=Classical.choose_spec (opq (fun env=>(h1n env).sel)) env
def Bs139:FBox:=ks139 v0h
theorem u2z:a0v Try.prog 139 (a0j Bs139):=a0p (op:=v0h) i0t hmix false (e2p) (fun env x h=>by rw[g1g]at h;rw[←a0i];exact h)
def b1v:LDt→TD
 |[.l TI l0,.n n1,.n n2,.n n3,.l (Ty.pair (Ty.int IntKind.u8) TI) l4]=>
  (let r1:OD:=(w0d [.k 0,.l TI l0,.n (↑(List.length l0):Int),.n (0:Int),.n n1,.n n2,.n n3,.l (Ty.pair (Ty.int IntKind.u8) TI) l4]);
   (.node (isK 0 [] r1)
   (.leaf ((0,[.n (-1:Int)])))
   (.node (isK 1 [HK.n] r1)
    (.leaf ((0,[.n (gn (dOf r1) 0)])))
    (.bad 351))))
 |_=>.bad 0
theorem w0g (l0:DI)(n1:Int)(n2:Int)(n3:Int)(l4:List (Ty.den (Ty.pair (Ty.int IntKind.u8) TI))):Imp (b1v [.l TI l0,.n n1,.n n2,.n n3,.l (Ty.pair (Ty.int IntKind.u8) TI) l4]) (h1n [.l TI l0,.n n1,.n n2,.n n3,.l TCmd l4]):=
(.nd (fun h0=>
(.pa [1]
.lf)) (fun h0=>
(.nd (fun h1=>
(.pa [1]
.lf)) (fun h1=>
.none))))
def u0t:FuncId→Option a0q:=e1c 139 [Bs139] a1q
theorem i0x:CsOk Try.prog u0t:=h0a i0t fun B hB=>by
 cases List.mem_singleton.1 hB
 exact u2z
def s0j (f:OpT):MBox:=mkM 2 [] [(sh 19 [(0,.imm TNd 0),(1,fnV 97 [.ptr 0 0,.ptr 1 0]),(7,.int .i64 1),(8,.int .i64 2)],[cW 3,cW 4])] [] [(.exit 0,sh 19 [],[.gone,.gone]),(.ret,sh 19 [(4,.int .i64 0)],[.gone,.gone])] f
def c0n (env:LDt):Tree Step:=Lk.stepMC false LK u0t 145 2 ls0 (s0j fun _=>none) env
def q0o:OpT:=Classical.choose (opq (a0b c0n FU))
theorem p0n (env:LDt):q0o env=a0b c0n FU env:=Classical.choose_spec (opq (a0b c0n FU)) env
def z0a:MBox:=s0j q0o
theorem l1s:z0a=s0j (a0b c0n FU):=congrArg s0j (funext p0n)
theorem m1q: ∀t s x,(a0h z0a t s).sel=some x→a0k Try.prog 2 (.loop (cAt Try.prog 145 2)) t s x:=by
 rw[l1s]
 exact a0o (st:=c0n) (m:=FU) i0x hmix false (LsOk.none _ _ _) (by kernel_rfl) (fun env y h=>by rw[←a0f];exact h)
def k0o:LDt→Tree Step
 |[.l TNd l0,.n n1,.n n2,.n n3,.n n4]=>
  (.node (decide (n2<n1))
   (.node (Prod.snd (List.getD l0 (Int.toNat n2) (Ty.dflt TNd)))
   (.node (!decide ((Prod.fst (List.getD l0 (Int.toNat n2) (Ty.dflt TNd)):Int)<(0:Int)))
    (.node (iand IntKind.u32 (ishr IntKind.u32 n3 (Prod.fst (List.getD l0 (Int.toNat n2) (Ty.dflt TNd)))) (1:Int)==(0:Int))
    (.leaf (Step.stop 1 [.n n2]))
    (.leaf (Step.go [.k 0,.l TNd l0,.n n1,.n (IntKind.wrap .i64 (n2+(1:Int))),.n n3,.n n4])))
    (.bad 83))
   (.node (!decide ((Prod.fst (List.getD l0 (Int.toNat n2) (Ty.dflt TNd)):Int)<(0:Int)))
    (.node (iand IntKind.u32 (ishr IntKind.u32 n4 (Prod.fst (List.getD l0 (Int.toNat n2) (Ty.dflt TNd)))) (1:Int)==(0:Int))
    (.leaf (Step.stop 1 [.n n2]))
    (.leaf (Step.go [.k 0,.l TNd l0,.n n1,.n (IntKind.wrap .i64 (n2+(1:Int))),.n n3,.n n4])))
    (.bad 83)))
   (.leaf (Step.stop 0 [])))
 |_=>.bad 0
theorem l0p (l0:DD)(n1:Int)(n2:Int)(n3:Int)(n4:Int)(g0:0≤n2)(g1:n1=(l0.length:Int)):Imp (k0o [.l TNd l0,.n n1,.n n2,.n n3,.n n4]) (c0n [.k 0,.l TNd l0,.n n1,.n n2,.n n3,.n n4]):=
(.pa [1]
(.nd (fun h0=>
(.pq (c:=(inR n2 (List.length l0)))
(.pa [1]
(.nd (fun h1=>
(.nd (fun h2=>
(.pa [1]
(.nd (fun h3=>
(.pa [1]
.lf)) (fun h3=>
(.pa [1]
.lf))))) (fun h2=>
.none))) (fun h1=>
(.nd (fun h2=>
(.pa [1]
(.nd (fun h3=>
(.pa [1]
.lf)) (fun h3=>
(.pa [1]
.lf))))) (fun h2=>
.none))))))) (fun h0=>
(.pa [1]
.lf))))
theorem r1v:LsOk Try.prog (List.length ([cW 1,cW 2]:List PB)) (lsM [(2,z0a)] (List.length ([cW 1,cW 2]:List PB))) (a0r Try.prog 145):=LsOk.many fun j B hB hk c hc hi=>by
 simp only[b0d]at hB
 split at hB
 ·rename_i e;have:=Nat.eq_of_beq_eq_true e;subst this;cases hB
  rw[a0y (f:=145) (i:=2) (a0e (by kernel_rfl)) (a0d hc hi)];exact m1q
 cases hB
def ks145a (f:OpT):FBox:=mkF [.imm TNd 0,fnV 97 [.ptr 0 0,.ptr 1 0]] [cW 1,cW 2] [] [(.int .i64 0,[.gone,.gone])] f
def y0k (env:LDt):TD:=Lk.boxC false LK u0t 145 (lsM [(2,z0a)] (List.length ([cW 1,cW 2]:List PB))) (ks145a fun _=>none) env
def o0l:OpT:=Classical.choose (opq (fun env=>(y0k env).sel))
theorem a1w (env:LDt):o0l env=(y0k env).sel:=Classical.choose_spec (opq (fun env=>(y0k env).sel)) env
def Bs145a:FBox:=ks145a o0l
theorem m2g:a0v Try.prog 145 (a0j Bs145a):=a0p (op:=o0l) i0x hmix false (r1v) (fun env x h=>by rw[a1w]at h;rw[←a0i];exact h)
def v0s:LDt→TD
 |[.l TNd l0,.n n1,.n n2]=>
  (let r1:OD:=(q0o [.k 0,.l TNd l0,.n (↑(List.length l0):Int),.n (0:Int),.n n1,.n n2]);
   (.node (isK 0 [] r1)
   (.leaf ((0,[.n (-1:Int)])))
   (.node (isK 1 [HK.n] r1)
    (.leaf ((0,[.n (gn (dOf r1) 0)])))
    (.bad 351))))
 |_=>.bad 0
theorem t0o (l0:DD)(n1:Int)(n2:Int):Imp (v0s [.l TNd l0,.n n1,.n n2]) (y0k [.l TNd l0,.n n1,.n n2]):=
(.nd (fun h0=>
(.pa [1]
.lf)) (fun h0=>
(.nd (fun h1=>
(.pa [1]
.lf)) (fun h1=>
.none))))
def r0j (f:OpT):MBox:=mkM 1 [] [(sh 19 [(0,.imm TNd 0),(1,fnV 98 [.ptr 0 0]),(7,.int .i64 1),(8,.int .i64 2)],[ouB 3])] [] [(.exit 0,sh 19 [],[.gone]),(.ret,sh 19 [(4,.int .i64 0)],[.gone])] f
def c0o (env:LDt):Tree Step:=Lk.stepMC false LK u0t 145 2 ls0 (r0j fun _=>none) env
def p0w:OpT:=Classical.choose (opq (a0b c0o FU))
theorem o0t (env:LDt):p0w env=a0b c0o FU env:=Classical.choose_spec (opq (a0b c0o FU)) env
def z0r:MBox:=r0j p0w
theorem o1v:z0r=r0j (a0b c0o FU):=congrArg r0j (funext o0t)
theorem p1z: ∀t s x,(a0h z0r t s).sel=some x→a0k Try.prog 1 (.loop (cAt Try.prog 145 2)) t s x:=by
 rw[o1v]
 exact a0o (st:=c0o) (m:=FU) i0x hmix false (LsOk.none _ _ _) (by kernel_rfl) (fun env y h=>by rw[←a0f];exact h)
def l0a:LDt→Tree Step
 |[.l TNd l0,.n n1,.n n2,.n n3,.n n4]=>
  (.node (decide (n2<n1))
   (.node (!decide ((Prod.fst (List.getD l0 (Int.toNat n2) (Ty.dflt TNd)):Int)<(0:Int)))
   (.node (!(iand IntKind.u32 (ishr IntKind.u32 n4 (Prod.fst (List.getD l0 (Int.toNat n2) (Ty.dflt TNd)))) (1:Int)==(1:Int))==Prod.snd (List.getD l0 (Int.toNat n2) (Ty.dflt TNd)))
    (.leaf (Step.stop 1 [.n n2]))
    (.leaf (Step.go [.k 0,.l TNd l0,.n n1,.n (IntKind.wrap .i64 (n2+(1:Int))),.n n3,.n n4])))
   (.bad 83))
   (.leaf (Step.stop 0 [])))
 |_=>.bad 0
theorem l0v (l0:DD)(n1:Int)(n2:Int)(n3:Int)(n4:Int)(g0:0≤n2)(g1:n1=(l0.length:Int)):Imp (l0a [.l TNd l0,.n n1,.n n2,.n n3,.n n4]) (c0o [.k 0,.l TNd l0,.n n1,.n n2,.n n3,.n n4]):=
(.pa [1]
(.nd (fun h0=>
(.pq (c:=(inR n2 (List.length l0)))
(.pa [1]
(.nd (fun h1=>
(.pa [1,1]
(.nd (fun h2=>
(.pa [1]
.lf)) (fun h2=>
(.pa [1]
.lf))))) (fun h1=>
.none))))) (fun h0=>
(.pa [1]
.lf))))
theorem s1u:LsOk Try.prog (List.length ([ouB 1]:List PB)) (lsM [(2,z0r)] (List.length ([ouB 1]:List PB))) (a0r Try.prog 145):=LsOk.many fun j B hB hk c hc hi=>by
 simp only[b0d]at hB
 split at hB
 ·rename_i e;have:=Nat.eq_of_beq_eq_true e;subst this;cases hB
  rw[a0y (f:=145) (i:=2) (a0e (by kernel_rfl)) (a0d hc hi)];exact p1z
 cases hB
def ks145b (f:OpT):FBox:=mkF [.imm TNd 0,fnV 98 [.ptr 0 0]] [ouB 1] [] [(.int .i64 0,[.gone])] f
def z0y (env:LDt):TD:=Lk.boxC false LK u0t 145 (lsM [(2,z0r)] (List.length ([ouB 1]:List PB))) (ks145b fun _=>none) env
def o0j:OpT:=Classical.choose (opq (fun env=>(z0y env).sel))
theorem b1e (env:LDt):o0j env=(z0y env).sel:=Classical.choose_spec (opq (fun env=>(z0y env).sel)) env
def Bs145b:FBox:=ks145b o0j
theorem k2z:a0v Try.prog 145 (a0j Bs145b):=a0p (op:=o0j) i0x hmix false (s1u) (fun env x h=>by rw[b1e]at h;rw[←a0i];exact h)
def u0r:LDt→TD
 |[.l TNd l0,.n n1,.n n2]=>
  (let r1:OD:=(p0w [.k 0,.l TNd l0,.n (↑(List.length l0):Int),.n (0:Int),.n n1,.n n2]);
   (.node (isK 0 [] r1)
   (.leaf ((0,[.n (-1:Int)])))
   (.node (isK 1 [HK.n] r1)
    (.leaf ((0,[.n (gn (dOf r1) 0)])))
    (.bad 351))))
 |_=>.bad 0
theorem t0x (l0:DD)(n1:Int)(n2:Int):Imp (u0r [.l TNd l0,.n n1,.n n2]) (z0y [.l TNd l0,.n n1,.n n2]):=
(.nd (fun h0=>
(.pa [1]
.lf)) (fun h0=>
(.nd (fun h1=>
(.pa [1]
.lf)) (fun h1=>
.none))))
def e0z:FuncId→Option a0q:=e1c 145 [Bs145a,Bs145b] u0t
theorem c0k:CsOk Try.prog e0z:=h0a i0x fun B hB=>by
 simp only[List.mem_cons,List.not_mem_nil,or_false]at hB
 rcases hB with rfl|rfl
 ·exact m2g
 ·exact k2z
def r0q (f:OpT):MBox:=mkM 2 [] [(sh 27 [(2,fnV 104 [.ptr 0 0,.ptr 1 0]),(3,.ptr 2 0),(4,.ptr 3 0),(11,.int .i64 0),(12,.int .i64 1)],[gB 2,ouB 8,gB 10,ouB 16])] [] [(.exit 0,sh 27 [],[.gone,.gone]),(.ret,sh 27 [(6,.bool 0)],[.gone,.gone])] f
def c0i (env:LDt):Tree Step:=Lk.stepMC false LK e0z 103 2 ls0 (r0q fun _=>none) env
def k0y:OpT:=Classical.choose (opq (a0b c0i FU))
theorem o0v (env:LDt):k0y env=a0b c0i FU env:=Classical.choose_spec (opq (a0b c0i FU)) env
def y0e:MBox:=r0q k0y
theorem m1z:y0e=r0q (a0b c0i FU):=congrArg r0q (funext o0v)
theorem l1x: ∀t s x,(a0h y0e t s).sel=some x→a0k Try.prog 2 (.loop (cAt Try.prog 103 2)) t s x:=by
 rw[m1z]
 exact a0o (st:=c0i) (m:=FU) c0k hmix false (LsOk.none _ _ _) (by kernel_rfl) (fun env y h=>by rw[←a0f];exact h)
def k0x:LDt→Tree Step
 |[.n n0,.n n1,.l TS l2,.l TPt l3,.l TPt l4,.l TRt l5,.l TU l6,.n n7,.n n8,.n n9]=>
  (.node (decide (n1<n0))
   (.node (iand IntKind.u64 (ishr IntKind.u64 n8 n1) (1:Int)==(1:Int))
   (.node (iand IntKind.u64 (List.getD l6 (Int.toNat n1) (0:Int)) n8 !=(0:Int))
    (.leaf (Step.stop 1 [.b true]))
    (.leaf (Step.go [.k 0,.n n0,.n (IntKind.wrap .i64 (n1+(1:Int))),.l TS l2,.l TPt l3,.l TPt l4,.l TRt l5,.l TU l6,.n n7,.n n8,.n n9,.l TS l2,.l TPt l3,.l TPt l4,.l TRt l5,.l TU l6,.n n7,.n n8,.n n9])))
   (.leaf (Step.go [.k 0,.n n0,.n (IntKind.wrap .i64 (n1+(1:Int))),.l TS l2,.l TPt l3,.l TPt l4,.l TRt l5,.l TU l6,.n n7,.n n8,.n n9,.l TS l2,.l TPt l3,.l TPt l4,.l TRt l5,.l TU l6,.n n7,.n n8,.n n9])))
   (.leaf (Step.stop 0 [])))
 |_=>.bad 0
theorem l0t (n0:Int)(n1:Int)(l2:DS)(l3:DP)(l4:DP)(l5:DR)(l6:List (Ty.den TU))(n7:Int)(n8:Int)(n9:Int)(g0:0≤n1)(g1:n0=(l5.length:Int))(g2:(l6.length:Int)=(l5.length:Int)):Imp (k0x [.n n0,.n n1,.l TS l2,.l TPt l3,.l TPt l4,.l TRt l5,.l TU l6,.n n7,.n n8,.n n9]) (c0i [.k 0,.n n0,.n n1,.l TS l2,.l TPt l3,.l TPt l4,.l TRt l5,.l TU l6,.n n7,.n n8,.n n9,.l TS l2,.l TPt l3,.l TPt l4,.l TRt l5,.l TU l6,.n n7,.n n8,.n n9]):=
(.pa [1]
(.nd (fun h0=>
(.pt (c:=(!decide (n1<(0:Int)))) (by kernel_rfl) (by kernel_rfl) (by(simp[*];done))
(.nd (fun h1=>
(.pa [1]
(.pq (c:=(inR n1 (List.length l6)))
(.pa [1,1]
(.nd (fun h2=>
(.pa [1]
.lf)) (fun h2=>
(.pa [1]
.lf))))))) (fun h1=>
(.pa [0,0,1]
.lf))))) (fun h0=>
(.pa [1]
.lf))))
theorem r1t:LsOk Try.prog (List.length ([gB 8,ouB 14]:List PB)) (lsM [(2,y0e)] (List.length ([gB 8,ouB 14]:List PB))) (a0r Try.prog 103):=LsOk.many fun j B hB hk c hc hi=>by
 simp only[b0d]at hB
 split at hB
 ·rename_i e;have:=Nat.eq_of_beq_eq_true e;subst this;cases hB
  rw[a0y (f:=103) (i:=2) (a0e (by kernel_rfl)) (a0d hc hi)];exact l1x
 cases hB
def ks103a (f:OpT):FBox:=mkF [gV 0,ouV 6,fnV 104 [.ptr 0 0,.ptr 1 0]] [gB 8,ouB 14] [] [(.bool 0,[.gone,.gone])] f
def y0s (env:LDt):TD:=Lk.boxC false LK e0z 103 (lsM [(2,y0e)] (List.length ([gB 8,ouB 14]:List PB))) (ks103a fun _=>none) env
def s0e:OpT:=Classical.choose (opq (fun env=>(y0s env).sel))
theorem b1g (env:LDt):s0e env=(y0s env).sel:=Classical.choose_spec (opq (fun env=>(y0s env).sel)) env
def Bs103a:FBox:=ks103a s0e
theorem k2s:a0v Try.prog 103 (a0j Bs103a):=a0p (op:=s0e) c0k hmix false (r1t) (fun env x h=>by rw[b1g]at h;rw[←a0i];exact h)
def f1p:LDt→TD
 |[.l TS l0,.l TPt l1,.l TPt l2,.l TRt l3,.l TU l4,.n n5,.n n6,.n n7]=>
  (let r1:OD:=(k0y [.k 0,.n (↑(List.length l3):Int),.n (0:Int),.l TS l0,.l TPt l1,.l TPt l2,.l TRt l3,.l TU l4,.n n5,.n n6,.n n7,.l TS l0,.l TPt l1,.l TPt l2,.l TRt l3,.l TU l4,.n n5,.n n6,.n n7]);
   (.node (isK 0 [] r1)
   (.leaf ((0,[.b false])))
   (.node (isK 1 [HK.b] r1)
    (.leaf ((0,[.b (gb (dOf r1) 0)])))
    (.bad 351))))
 |_=>.bad 0
theorem i1a (l0:DS)(l1:DP)(l2:DP)(l3:DR)(l4:List (Ty.den TU))(n5:Int)(n6:Int)(n7:Int):Imp (f1p [.l TS l0,.l TPt l1,.l TPt l2,.l TRt l3,.l TU l4,.n n5,.n n6,.n n7]) (y0s [.l TS l0,.l TPt l1,.l TPt l2,.l TRt l3,.l TU l4,.n n5,.n n6,.n n7,.l TS l0,.l TPt l1,.l TPt l2,.l TRt l3,.l TU l4,.n n5,.n n6,.n n7]):=
(.nd (fun h0=>
(.pa [1]
.lf)) (fun h0=>
(.nd (fun h1=>
(.pa [1]
.lf)) (fun h1=>
.none))))
def s0w (f:OpT):MBox:=mkM 3 [] [(sh 27 [(2,fnV 106 [.ptr 0 0,.ptr 1 0]),(3,.ptr 3 0),(4,.ptr 4 0),(11,.int .i64 0),(12,.int .i64 1)],[gB 2,fuB 96 [.ptr 2 0],ipB 8,gB 12,ouB 18])] [] [(.exit 0,sh 27 [],[.gone,.gone,.gone]),(.ret,sh 27 [(6,.bool 0)],[.gone,.gone,.gone])] f
def c0j (env:LDt):Tree Step:=Lk.stepMC false LK e0z 103 2 ls0 (s0w fun _=>none) env
def k0h:OpT:=Classical.choose (opq (a0b c0j FU))
theorem p0v (env:LDt):k0h env=a0b c0j FU env:=Classical.choose_spec (opq (a0b c0j FU)) env
def z0u:MBox:=s0w k0h
theorem n1o:z0u=s0w (a0b c0j FU):=congrArg s0w (funext p0v)
theorem l1m: ∀t s x,(a0h z0u t s).sel=some x→a0k Try.prog 3 (.loop (cAt Try.prog 103 2)) t s x:=by
 rw[n1o]
 exact a0o (st:=c0j) (m:=FU) c0k hmix false (LsOk.none _ _ _) (by kernel_rfl) (fun env y h=>by rw[←a0f];exact h)
def j0q:LDt→Tree Step
 |[.n n0,.n n1,.l TS l2,.l TPt l3,.l TPt l4,.l TRt l5,.l TU l6,.n n7,.n n8,.n n9,.n n10,.n n11,.n n12,.l (Ty.pair (Ty.int IntKind.u8) TI) l13]=>
  (.node (decide (n1<n0))
   (.node (iand IntKind.u64 (ishr IntKind.u64 n8 n1) (1:Int)==(1:Int))
   (let r1:OD:=(v0h [.l TI (Prod.fst (Prod.snd (Prod.snd (List.getD l5 (Int.toNat n1) (Ty.dflt TRt))))),.n n10,.n n11,.n n12,.l (Ty.pair (Ty.int IntKind.u8) TI) l13]);
    (.node (isK 0 [HK.n] r1)
    (.node (decide (gn (dOf r1) 0≥(0:Int)))
     (.leaf (Step.stop 1 [.b true]))
     (let r2:OD:=(v0h [.l TI (Prod.fst (Prod.snd (Prod.snd (Prod.snd (Prod.snd (List.getD l5 (Int.toNat n1) (Ty.dflt TRt))))))),.n n10,.n n11,.n n12,.l (Ty.pair (Ty.int IntKind.u8) TI) l13]);
     (.node (isK 0 [HK.n] r2)
      (.node (decide (gn (dOf r2) 0≥(0:Int)))
      (.leaf (Step.stop 1 [.b true]))
      (.leaf (Step.go [.k 0,.n n0,.n (IntKind.wrap .i64 (n1+(1:Int))),.l TS l2,.l TPt l3,.l TPt l4,.l TRt l5,.l TU l6,.n n7,.n n10,.n n11,.n n12,.l (Ty.pair (Ty.int IntKind.u8) TI) l13,.l TS l2,.l TPt l3,.l TPt l4,.l TRt l5,.l TU l6,.n n7,.n n8,.n n9])))
      (.bad 351))))
    (.bad 351)))
   (.leaf (Step.go [.k 0,.n n0,.n (IntKind.wrap .i64 (n1+(1:Int))),.l TS l2,.l TPt l3,.l TPt l4,.l TRt l5,.l TU l6,.n n7,.n n10,.n n11,.n n12,.l (Ty.pair (Ty.int IntKind.u8) TI) l13,.l TS l2,.l TPt l3,.l TPt l4,.l TRt l5,.l TU l6,.n n7,.n n8,.n n9])))
   (.leaf (Step.stop 0 [])))
 |_=>.bad 0
theorem l0s (n0:Int)(n1:Int)(l2:DS)(l3:DP)(l4:DP)(l5:DR)(l6:List (Ty.den TU))(n7:Int)(n8:Int)(n9:Int)(n10:Int)(n11:Int)(n12:Int)(l13:List (Ty.den (Ty.pair (Ty.int IntKind.u8) TI)))(g0:0≤n1)(g1:n0=(l5.length:Int))(g2:(l6.length:Int)=(l5.length:Int)):Imp (j0q [.n n0,.n n1,.l TS l2,.l TPt l3,.l TPt l4,.l TRt l5,.l TU l6,.n n7,.n n8,.n n9,.n n10,.n n11,.n n12,.l (Ty.pair (Ty.int IntKind.u8) TI) l13]) (c0j [.k 0,.n n0,.n n1,.l TS l2,.l TPt l3,.l TPt l4,.l TRt l5,.l TU l6,.n n7,.n n10,.n n11,.n n12,.l TCmd l13,.l TS l2,.l TPt l3,.l TPt l4,.l TRt l5,.l TU l6,.n n7,.n n8,.n n9]):=
(.pa [1]
(.nd (fun h0=>
(.pt (c:=(!decide (n1<(0:Int)))) (by kernel_rfl) (by kernel_rfl) (by(simp[*];done))
(.nd (fun h1=>
(.pa [1]
(.pq (c:=(inR n1 (List.length l5)))
(.pa [1,1]
(.nd (fun h2=>
(.pa [1,1]
(.nd (fun h3=>
(.pa [1,1,1,1]
.lf)) (fun h3=>
(.pa [1,1]
(.nd (fun h4=>
(.pa [1,1,1]
(.nd (fun h5=>
(.pa [1]
.lf)) (fun h5=>
(.pa [1]
.lf))))) (fun h4=>
.none))))))) (fun h2=>
.none)))))) (fun h1=>
(.pa [0,0,1]
.lf))))) (fun h0=>
(.pa [1]
.lf))))
theorem r1b:LsOk Try.prog (List.length ([gB 8,fuB 96 [.ptr 2 0],ipB 14]:List PB)) (lsM [(2,z0u)] (List.length ([gB 8,fuB 96 [.ptr 2 0],ipB 14]:List PB))) (a0r Try.prog 103):=LsOk.many fun j B hB hk c hc hi=>by
 simp only[b0d]at hB
 split at hB
 ·rename_i e;have:=Nat.eq_of_beq_eq_true e;subst this;cases hB
  rw[a0y (f:=103) (i:=2) (a0e (by kernel_rfl)) (a0d hc hi)];exact l1m
 cases hB
def ks103b (f:OpT):FBox:=mkF [gV 0,ouV 6,fnV 106 [.ptr 0 0,.ptr 1 0]] [gB 8,fuB 96 [.ptr 2 0],ipB 14] [] [(.bool 0,[.gone,.gone,.gone])] f
def z0j (env:LDt):TD:=Lk.boxC false LK e0z 103 (lsM [(2,z0u)] (List.length ([gB 8,fuB 96 [.ptr 2 0],ipB 14]:List PB))) (ks103b fun _=>none) env
def t0d:OpT:=Classical.choose (opq (fun env=>(z0j env).sel))
theorem b1t (env:LDt):t0d env=(z0j env).sel:=Classical.choose_spec (opq (fun env=>(z0j env).sel)) env
def Bs103b:FBox:=ks103b t0d
theorem g2q:a0v Try.prog 103 (a0j Bs103b):=a0p (op:=t0d) c0k hmix false (r1b) (fun env x h=>by rw[b1t]at h;rw[←a0i];exact h)
def f1g:LDt→TD
 |[.l TS l0,.l TPt l1,.l TPt l2,.l TRt l3,.l TU l4,.n n5,.n n6,.n n7,.n n8,.n n9,.n n10,.l (Ty.pair (Ty.int IntKind.u8) TI) l11]=>
  (let r1:OD:=(k0h [.k 0,.n (↑(List.length l3):Int),.n (0:Int),.l TS l0,.l TPt l1,.l TPt l2,.l TRt l3,.l TU l4,.n n5,.n n8,.n n9,.n n10,.l (Ty.pair (Ty.int IntKind.u8) TI) l11,.l TS l0,.l TPt l1,.l TPt l2,.l TRt l3,.l TU l4,.n n5,.n n6,.n n7]);
   (.node (isK 0 [] r1)
   (.leaf ((0,[.b false])))
   (.node (isK 1 [HK.b] r1)
    (.leaf ((0,[.b (gb (dOf r1) 0)])))
    (.bad 351))))
 |_=>.bad 0
theorem h1u (l0:DS)(l1:DP)(l2:DP)(l3:DR)(l4:List (Ty.den TU))(n5:Int)(n6:Int)(n7:Int)(n8:Int)(n9:Int)(n10:Int)(l11:List (Ty.den (Ty.pair (Ty.int IntKind.u8) TI))):Imp (f1g [.l TS l0,.l TPt l1,.l TPt l2,.l TRt l3,.l TU l4,.n n5,.n n6,.n n7,.n n8,.n n9,.n n10,.l (Ty.pair (Ty.int IntKind.u8) TI) l11]) (z0j [.l TS l0,.l TPt l1,.l TPt l2,.l TRt l3,.l TU l4,.n n5,.n n6,.n n7,.l TS l0,.l TPt l1,.l TPt l2,.l TRt l3,.l TU l4,.n n5,.n n8,.n n9,.n n10,.l TCmd l11]):=
(.nd (fun h0=>
(.pa [1]
.lf)) (fun h0=>
(.nd (fun h1=>
(.pa [1]
.lf)) (fun h1=>
.none))))
def s0k (f:OpT):MBox:=mkM 4 [] [(sh 27 [(2,fnV 109 [.ptr 0 0,.ptr 1 0]),(3,.ptr 4 0),(4,.ptr 5 0),(11,.int .i64 0),(12,.int .i64 1)],[gB 2,fuB 97 [.ptr 2 0,.ptr 3 0],cW 8,cW 9,gB 10,ouB 16])] [] [(.exit 0,sh 27 [],[.gone,.gone,.gone,.gone]),(.ret,sh 27 [(6,.bool 0)],[.gone,.gone,.gone,.gone])] f
def c0m (env:LDt):Tree Step:=Lk.stepMC false LK e0z 103 2 ls0 (s0k fun _=>none) env
def k0k:OpT:=Classical.choose (opq (a0b c0m FU))
theorem p0s (env:LDt):k0k env=a0b c0m FU env:=Classical.choose_spec (opq (a0b c0m FU)) env
def y0y:MBox:=s0k k0k
theorem l1n:y0y=s0k (a0b c0m FU):=congrArg s0k (funext p0s)
theorem m1k: ∀t s x,(a0h y0y t s).sel=some x→a0k Try.prog 4 (.loop (cAt Try.prog 103 2)) t s x:=by
 rw[l1n]
 exact a0o (st:=c0m) (m:=FU) c0k hmix false (LsOk.none _ _ _) (by kernel_rfl) (fun env y h=>by rw[←a0f];exact h)
def j0o:LDt→Tree Step
 |[.n n0,.n n1,.l TS l2,.l TPt l3,.l TPt l4,.l TRt l5,.l TU l6,.n n7,.n n8,.n n9,.n n10,.n n11]=>
  (.node (decide (n1<n0))
   (.node (iand IntKind.u64 (ishr IntKind.u64 n8 n1) (1:Int)==(1:Int))
   (let r1:OD:=(o0l [.l TNd (Prod.fst (Prod.snd (Prod.snd (Prod.snd (List.getD l5 (Int.toNat n1) (Ty.dflt TRt)))))),.n n10,.n n11]);
    (.node (isK 0 [HK.n] r1)
    (.node (decide (gn (dOf r1) 0≥(0:Int)))
     (.leaf (Step.stop 1 [.b true]))
     (let r2:OD:=(o0l [.l TNd (Prod.snd (Prod.snd (Prod.snd (Prod.snd (Prod.snd (List.getD l5 (Int.toNat n1) (Ty.dflt TRt))))))),.n n10,.n n11]);
     (.node (isK 0 [HK.n] r2)
      (.node (decide (gn (dOf r2) 0≥(0:Int)))
      (.leaf (Step.stop 1 [.b true]))
      (.leaf (Step.go [.k 0,.n n0,.n (IntKind.wrap .i64 (n1+(1:Int))),.l TS l2,.l TPt l3,.l TPt l4,.l TRt l5,.l TU l6,.n n7,.n n10,.n n11,.l TS l2,.l TPt l3,.l TPt l4,.l TRt l5,.l TU l6,.n n7,.n n8,.n n9])))
      (.bad 351))))
    (.bad 351)))
   (.leaf (Step.go [.k 0,.n n0,.n (IntKind.wrap .i64 (n1+(1:Int))),.l TS l2,.l TPt l3,.l TPt l4,.l TRt l5,.l TU l6,.n n7,.n n10,.n n11,.l TS l2,.l TPt l3,.l TPt l4,.l TRt l5,.l TU l6,.n n7,.n n8,.n n9])))
   (.leaf (Step.stop 0 [])))
 |_=>.bad 0
theorem l0o (n0:Int)(n1:Int)(l2:DS)(l3:DP)(l4:DP)(l5:DR)(l6:List (Ty.den TU))(n7:Int)(n8:Int)(n9:Int)(n10:Int)(n11:Int)(g0:0≤n1)(g1:n0=(l5.length:Int))(g2:(l6.length:Int)=(l5.length:Int)):Imp (j0o [.n n0,.n n1,.l TS l2,.l TPt l3,.l TPt l4,.l TRt l5,.l TU l6,.n n7,.n n8,.n n9,.n n10,.n n11]) (c0m [.k 0,.n n0,.n n1,.l TS l2,.l TPt l3,.l TPt l4,.l TRt l5,.l TU l6,.n n7,.n n10,.n n11,.l TS l2,.l TPt l3,.l TPt l4,.l TRt l5,.l TU l6,.n n7,.n n8,.n n9]):=
(.pa [1]
(.nd (fun h0=>
(.pt (c:=(!decide (n1<(0:Int)))) (by kernel_rfl) (by kernel_rfl) (by(simp[*];done))
(.nd (fun h1=>
(.pa [1,1]
(.pq (c:=(inR n1 (List.length l5)))
(.pa [1,1]
(.nd (fun h2=>
(.pa [1,1]
(.nd (fun h3=>
(.pa [1,1,1,1,1]
.lf)) (fun h3=>
(.pq (c:=(inR n1 (List.length l5)))
(.pa [1,1]
(.nd (fun h4=>
(.pa [1,1,1,1]
(.nd (fun h5=>
(.pa [1]
.lf)) (fun h5=>
(.pa [1]
.lf))))) (fun h4=>
.none)))))))) (fun h2=>
.none)))))) (fun h1=>
(.pa [0,0,1]
.lf))))) (fun h0=>
(.pa [1]
.lf))))
theorem r1i:LsOk Try.prog (List.length ([gB 8,fuB 97 [.ptr 2 0,.ptr 3 0],cW 14,cW 15]:List PB)) (lsM [(2,y0y)] (List.length ([gB 8,fuB 97 [.ptr 2 0,.ptr 3 0],cW 14,cW 15]:List PB))) (a0r Try.prog 103):=LsOk.many fun j B hB hk c hc hi=>by
 simp only[b0d]at hB
 split at hB
 ·rename_i e;have:=Nat.eq_of_beq_eq_true e;subst this;cases hB
  rw[a0y (f:=103) (i:=2) (a0e (by kernel_rfl)) (a0d hc hi)];exact m1k
 cases hB
def ks103c (f:OpT):FBox:=mkF [gV 0,ouV 6,fnV 109 [.ptr 0 0,.ptr 1 0]] [gB 8,fuB 97 [.ptr 2 0,.ptr 3 0],cW 14,cW 15] [] [(.bool 0,[.gone,.gone,.gone,.gone])] f
def z0b (env:LDt):TD:=Lk.boxC false LK e0z 103 (lsM [(2,y0y)] (List.length ([gB 8,fuB 97 [.ptr 2 0,.ptr 3 0],cW 14,cW 15]:List PB))) (ks103c fun _=>none) env
def s0l:OpT:=Classical.choose (opq (fun env=>(z0b env).sel))
theorem c1a (env:LDt):s0l env=(z0b env).sel:=Classical.choose_spec (opq (fun env=>(z0b env).sel)) env
def Bs103c:FBox:=ks103c s0l
theorem j2r:a0v Try.prog 103 (a0j Bs103c):=a0p (op:=s0l) c0k hmix false (r1i) (fun env x h=>by rw[c1a]at h;rw[←a0i];exact h)
def f1u:LDt→TD
 |[.l TS l0,.l TPt l1,.l TPt l2,.l TRt l3,.l TU l4,.n n5,.n n6,.n n7,.n n8,.n n9]=>
  (let r1:OD:=(k0k [.k 0,.n (↑(List.length l3):Int),.n (0:Int),.l TS l0,.l TPt l1,.l TPt l2,.l TRt l3,.l TU l4,.n n5,.n n8,.n n9,.l TS l0,.l TPt l1,.l TPt l2,.l TRt l3,.l TU l4,.n n5,.n n6,.n n7]);
   (.node (isK 0 [] r1)
   (.leaf ((0,[.b false])))
   (.node (isK 1 [HK.b] r1)
    (.leaf ((0,[.b (gb (dOf r1) 0)])))
    (.bad 351))))
 |_=>.bad 0
theorem i1t (l0:DS)(l1:DP)(l2:DP)(l3:DR)(l4:List (Ty.den TU))(n5:Int)(n6:Int)(n7:Int)(n8:Int)(n9:Int):Imp (f1u [.l TS l0,.l TPt l1,.l TPt l2,.l TRt l3,.l TU l4,.n n5,.n n6,.n n7,.n n8,.n n9]) (z0b [.l TS l0,.l TPt l1,.l TPt l2,.l TRt l3,.l TU l4,.n n5,.n n6,.n n7,.l TS l0,.l TPt l1,.l TPt l2,.l TRt l3,.l TU l4,.n n5,.n n8,.n n9]):=
(.nd (fun h0=>
(.pa [1]
.lf)) (fun h0=>
(.nd (fun h1=>
(.pa [1]
.lf)) (fun h1=>
.none))))
def t0u (f:OpT):MBox:=mkM 3 [] [(sh 27 [(2,fnV 112 [.ptr 0 0,.ptr 1 0]),(3,.ptr 3 0),(4,.ptr 4 0),(11,.int .i64 0),(12,.int .i64 1)],[gB 2,fuB 98 [.ptr 2 0],ouB 8,gB 10,ouB 16])] [] [(.exit 0,sh 27 [],[.gone,.gone,.gone]),(.ret,sh 27 [(6,.bool 0)],[.gone,.gone,.gone])] f
def c0p (env:LDt):Tree Step:=Lk.stepMC false LK e0z 103 2 ls0 (t0u fun _=>none) env
def k0s:OpT:=Classical.choose (opq (a0b c0p FU))
theorem p0j (env:LDt):k0s env=a0b c0p FU env:=Classical.choose_spec (opq (a0b c0p FU)) env
def z0e:MBox:=t0u k0s
theorem p1i:z0e=t0u (a0b c0p FU):=congrArg t0u (funext p0j)
theorem p1j: ∀t s x,(a0h z0e t s).sel=some x→a0k Try.prog 3 (.loop (cAt Try.prog 103 2)) t s x:=by
 rw[p1i]
 exact a0o (st:=c0p) (m:=FU) c0k hmix false (LsOk.none _ _ _) (by kernel_rfl) (fun env y h=>by rw[←a0f];exact h)
def k0j:LDt→Tree Step
 |[.n n0,.n n1,.l TS l2,.l TPt l3,.l TPt l4,.l TRt l5,.l TU l6,.n n7,.n n8,.n n9]=>
  (.node (decide (n1<n0))
   (.node (iand IntKind.u64 (ishr IntKind.u64 n8 n1) (1:Int)==(1:Int))
   (let r1:OD:=(o0j [.l TNd (Prod.fst (Prod.snd (Prod.snd (Prod.snd (List.getD l5 (Int.toNat n1) (Ty.dflt TRt)))))),.n n8,.n n9]);
    (.node (isK 0 [HK.n] r1)
    (.node (decide (gn (dOf r1) 0≥(0:Int)))
     (.leaf (Step.stop 1 [.b true]))
     (let r2:OD:=(o0j [.l TNd (Prod.snd (Prod.snd (Prod.snd (Prod.snd (Prod.snd (List.getD l5 (Int.toNat n1) (Ty.dflt TRt))))))),.n n8,.n n9]);
     (.node (isK 0 [HK.n] r2)
      (.node (decide (gn (dOf r2) 0≥(0:Int)))
      (.leaf (Step.stop 1 [.b true]))
      (.leaf (Step.go [.k 0,.n n0,.n (IntKind.wrap .i64 (n1+(1:Int))),.l TS l2,.l TPt l3,.l TPt l4,.l TRt l5,.l TU l6,.n n7,.n n8,.n n9,.l TS l2,.l TPt l3,.l TPt l4,.l TRt l5,.l TU l6,.n n7,.n n8,.n n9])))
      (.bad 351))))
    (.bad 351)))
   (.leaf (Step.go [.k 0,.n n0,.n (IntKind.wrap .i64 (n1+(1:Int))),.l TS l2,.l TPt l3,.l TPt l4,.l TRt l5,.l TU l6,.n n7,.n n8,.n n9,.l TS l2,.l TPt l3,.l TPt l4,.l TRt l5,.l TU l6,.n n7,.n n8,.n n9])))
   (.leaf (Step.stop 0 [])))
 |_=>.bad 0
theorem l0r (n0:Int)(n1:Int)(l2:DS)(l3:DP)(l4:DP)(l5:DR)(l6:List (Ty.den TU))(n7:Int)(n8:Int)(n9:Int)(g0:0≤n1)(g1:n0=(l5.length:Int))(g2:(l6.length:Int)=(l5.length:Int)):Imp (k0j [.n n0,.n n1,.l TS l2,.l TPt l3,.l TPt l4,.l TRt l5,.l TU l6,.n n7,.n n8,.n n9]) (c0p [.k 0,.n n0,.n n1,.l TS l2,.l TPt l3,.l TPt l4,.l TRt l5,.l TU l6,.n n7,.n n8,.n n9,.l TS l2,.l TPt l3,.l TPt l4,.l TRt l5,.l TU l6,.n n7,.n n8,.n n9]):=
(.pa [1]
(.nd (fun h0=>
(.pt (c:=(!decide (n1<(0:Int)))) (by kernel_rfl) (by kernel_rfl) (by(simp[*];done))
(.nd (fun h1=>
(.pa [1,1]
(.pq (c:=(inR n1 (List.length l5)))
(.pa [1,1]
(.nd (fun h2=>
(.pa [1,1]
(.nd (fun h3=>
(.pa [1,1,1,1,1]
.lf)) (fun h3=>
(.pq (c:=(inR n1 (List.length l5)))
(.pa [1,1]
(.nd (fun h4=>
(.pa [1,1,1,1]
(.nd (fun h5=>
(.pa [1]
.lf)) (fun h5=>
(.pa [1]
.lf))))) (fun h4=>
.none)))))))) (fun h2=>
.none)))))) (fun h1=>
(.pa [0,0,1]
.lf))))) (fun h0=>
(.pa [1]
.lf))))
theorem r1w:LsOk Try.prog (List.length ([gB 8,fuB 98 [.ptr 2 0],ouB 14]:List PB)) (lsM [(2,z0e)] (List.length ([gB 8,fuB 98 [.ptr 2 0],ouB 14]:List PB))) (a0r Try.prog 103):=LsOk.many fun j B hB hk c hc hi=>by
 simp only[b0d]at hB
 split at hB
 ·rename_i e;have:=Nat.eq_of_beq_eq_true e;subst this;cases hB
  rw[a0y (f:=103) (i:=2) (a0e (by kernel_rfl)) (a0d hc hi)];exact p1j
 cases hB
def ks103d (f:OpT):FBox:=mkF [gV 0,ouV 6,fnV 112 [.ptr 0 0,.ptr 1 0]] [gB 8,fuB 98 [.ptr 2 0],ouB 14] [] [(.bool 0,[.gone,.gone,.gone])] f
def z0l (env:LDt):TD:=Lk.boxC false LK e0z 103 (lsM [(2,z0e)] (List.length ([gB 8,fuB 98 [.ptr 2 0],ouB 14]:List PB))) (ks103d fun _=>none) env
def q0v:OpT:=Classical.choose (opq (fun env=>(z0l env).sel))
theorem a1m (env:LDt):q0v env=(z0l env).sel:=Classical.choose_spec (opq (fun env=>(z0l env).sel)) env
def Bs103d:FBox:=ks103d q0v
theorem n2s:a0v Try.prog 103 (a0j Bs103d):=a0p (op:=q0v) c0k hmix false (r1w) (fun env x h=>by rw[a1m]at h;rw[←a0i];exact h)
def g1c:LDt→TD
 |[.l TS l0,.l TPt l1,.l TPt l2,.l TRt l3,.l TU l4,.n n5,.n n6,.n n7]=>
  (let r1:OD:=(k0s [.k 0,.n (↑(List.length l3):Int),.n (0:Int),.l TS l0,.l TPt l1,.l TPt l2,.l TRt l3,.l TU l4,.n n5,.n n6,.n n7,.l TS l0,.l TPt l1,.l TPt l2,.l TRt l3,.l TU l4,.n n5,.n n6,.n n7]);
   (.node (isK 0 [] r1)
   (.leaf ((0,[.b false])))
   (.node (isK 1 [HK.b] r1)
    (.leaf ((0,[.b (gb (dOf r1) 0)])))
    (.bad 351))))
 |_=>.bad 0
theorem k1n (l0:DS)(l1:DP)(l2:DP)(l3:DR)(l4:List (Ty.den TU))(n5:Int)(n6:Int)(n7:Int):Imp (g1c [.l TS l0,.l TPt l1,.l TPt l2,.l TRt l3,.l TU l4,.n n5,.n n6,.n n7]) (z0l [.l TS l0,.l TPt l1,.l TPt l2,.l TRt l3,.l TU l4,.n n5,.n n6,.n n7,.l TS l0,.l TPt l1,.l TPt l2,.l TRt l3,.l TU l4,.n n5,.n n6,.n n7]):=
(.nd (fun h0=>
(.pa [1]
.lf)) (fun h0=>
(.nd (fun h1=>
(.pa [1]
.lf)) (fun h1=>
.none))))
def i1h:FuncId→Option a0q:=e1c 103 [Bs103a,Bs103b,Bs103c,Bs103d] e0z
theorem b1m:CsOk Try.prog i1h:=h0a c0k fun B hB=>by
 simp only[List.mem_cons,List.not_mem_nil,or_false]at hB
 rcases hB with rfl|rfl|rfl|rfl
 ·exact k2s
 ·exact g2q
 ·exact j2r
 ·exact n2s
def ks67 (f:OpT):FBox:=mkF [gV 0,ipV 6,ouV 10] [] [] [(.int .u8 0,[])] f
def w1o (env:LDt):TD:=Lk.boxC false LK i1h 67 ls0 (ks67 fun _=>none) env
def e1m:OpT:=Classical.choose (opq (fun env=>(w1o env).sel))
theorem l1b (env:LDt):e1m env=(w1o env).sel:=Classical.choose_spec (opq (fun env=>(w1o env).sel)) env
def Bs67:FBox:=ks67 e1m
theorem Bs67_ok:a0v Try.prog 67 (a0j Bs67):=a0p (op:=e1m) b1m hmix false (LsOk.none _ _ _) (fun env x h=>by rw[l1b]at h;rw[←a0i];exact h)
def z1h:LDt→TD
 |[.l TS l0,.l TPt l1,.l TPt l2,.l TRt l3,.l TU l4,.n n5,.n n6,.n n7,.n n8,.l (Ty.pair (Ty.int IntKind.u8) TI) l9,.n n10,.n n11]=>
  (.node (n5 !=(0:Int))
   (.leaf ((0,[.n (1:Int)])))
   (.node (ishr IntKind.u64 n10 (↑(List.length l3):Int) !=(0:Int))
   (.leaf ((0,[.n (2:Int)])))
   (.node (ishr IntKind.u32 n11 (↑(List.length l1):Int) !=(0:Int))
    (.leaf ((0,[.n (2:Int)])))
    (let r1:OD:=(s0e [.l TS l0,.l TPt l1,.l TPt l2,.l TRt l3,.l TU l4,.n n5,.n n10,.n n11,.l TS l0,.l TPt l1,.l TPt l2,.l TRt l3,.l TU l4,.n n5,.n n10,.n n11]);
    (.node (isK 0 [HK.b] r1)
     (.node (gb (dOf r1) 0)
     (.leaf ((0,[.n (3:Int)])))
     (let r2:OD:=(t0d [.l TS l0,.l TPt l1,.l TPt l2,.l TRt l3,.l TU l4,.n n5,.n n10,.n n11,.l TS l0,.l TPt l1,.l TPt l2,.l TRt l3,.l TU l4,.n n5,.n n6,.n n7,.n n8,.l (Ty.pair (Ty.int IntKind.u8) TI) l9]);
      (.node (isK 0 [HK.b] r2)
      (.node (gb (dOf r2) 0)
       (.leaf ((0,[.n (4:Int)])))
       (let r3:OD:=(s0l [.l TS l0,.l TPt l1,.l TPt l2,.l TRt l3,.l TU l4,.n n5,.n n10,.n n11,.l TS l0,.l TPt l1,.l TPt l2,.l TRt l3,.l TU l4,.n n5,.n (b0l IntKind.u32 n8 n7),.n (b0l IntKind.u32 n7 n8)]);
       (.node (isK 0 [HK.b] r3)
        (.node (gb (dOf r3) 0)
        (.leaf ((0,[.n (5:Int)])))
        (let r4:OD:=(q0v [.l TS l0,.l TPt l1,.l TPt l2,.l TRt l3,.l TU l4,.n n5,.n n10,.n n11,.l TS l0,.l TPt l1,.l TPt l2,.l TRt l3,.l TU l4,.n n5,.n n10,.n n11]);
         (.node (isK 0 [HK.b] r4)
         (.node (gb (dOf r4) 0)
          (.leaf ((0,[.n (6:Int)])))
          (.leaf ((0,[.n (0:Int)]))))
         (.bad 351))))
        (.bad 351))))
      (.bad 351))))
     (.bad 351))))))
 |_=>.bad 0
theorem t1h (l0:DS)(l1:DP)(l2:DP)(l3:DR)(l4:List (Ty.den TU))(n5:Int)(n6:Int)(n7:Int)(n8:Int)(l9:List (Ty.den (Ty.pair (Ty.int IntKind.u8) TI)))(n10:Int)(n11:Int):Imp (z1h [.l TS l0,.l TPt l1,.l TPt l2,.l TRt l3,.l TU l4,.n n5,.n n6,.n n7,.n n8,.l (Ty.pair (Ty.int IntKind.u8) TI) l9,.n n10,.n n11]) (w1o [.l TS l0,.l TPt l1,.l TPt l2,.l TRt l3,.l TU l4,.n n5,.n n6,.n n7,.n n8,.l TCmd l9,.n n10,.n n11]):=
(.pa [1,1,1,1,1,1,1,0,1,0,1,1,1]
(.nd (fun h0=>
(.pa [1]
.lf)) (fun h0=>
(.pa [1,0,0,1,1,1]
(.nd (fun h1=>
(.pa [1,1,1,1]
.lf)) (fun h1=>
(.pa [1,1]
(.nd (fun h2=>
(.pa [1]
.lf)) (fun h2=>
(.pa [1,0,0,0,1,1,1]
(.nd (fun h3=>
(.pa [1,1]
(.nd (fun h4=>
(.pa [1]
.lf)) (fun h4=>
(.pa [1,0,0,0,0,1,1,1]
(.nd (fun h5=>
(.pa [1,1]
(.nd (fun h6=>
(.pa [1]
.lf)) (fun h6=>
(.pa [1,0,0,0,0,0,1,1,1]
(.nd (fun h7=>
(.pa [1,1]
(.nd (fun h8=>
(.pa [1]
.lf)) (fun h8=>
(.pa [1,0,0,0,0,0,0,1,1,1]
(.nd (fun h9=>
(.pa [1,1]
(.nd (fun h10=>
(.pa [1]
.lf)) (fun h10=>
(.pa [0,1]
.lf))))) (fun h9=>
.none))))))) (fun h7=>
.none))))))) (fun h5=>
.none))))))) (fun h3=>
.none))))))))))))
def cs_s67:FuncId→Option a0q:=a0s 67 Bs67 i1h
theorem p2m:CsOk Try.prog cs_s67:=a0g b1m Bs67_ok
def p2i:List Dat→Option (Nat×List Dat):=fun _=>some (0,[.b true])
def Bw37:FBox:=(mkF [] [] [] [(.bool 0,[])] p2i)
theorem n2y (env:List Dat)(y:Nat×List Dat)(h:p2i env=some y):(boxC true Try.prog cs_Q0 37 ls0 (mkF [] [] [] [(.bool 0,[])] fun _=>none) env).sel=some y:=by
 cases h
 kernel_rfl
theorem Bw37_ok:a0v Try.prog 37 (a0j Bw37):=a0p (op:=p2i) a2u hmix true (LsOk.none _ _ _) n2y
def w1d:FuncId→Option a0q:=e1c 37 [Bw37] cs_s67
theorem d1r:CsOk Try.prog w1d:=h0a p2m fun B hB=>by
 cases List.mem_singleton.1 hB
 exact Bw37_ok
def i1y (f:OpT):MBox:=mkM 0 [] [(sh 13 [(0,.int .i64 0),(3,.int .u64 1),(4,.int .i64 2)],[])] [] [(.exit 0,sh 13 [(3,.int .u64 0)],[])] f
def i0w (env:LDt):Tree Step:=Lk.stepMC false LK w1d 63 3 ls0 (i1y fun _=>none) env
def s0g:OpT:=Classical.choose (opq (a0b i0w FU))
theorem x0l (env:LDt):s0g env=a0b i0w FU env:=Classical.choose_spec (opq (a0b i0w FU)) env
def v1c:MBox:=i1y s0g
theorem d2v:v1c=i1y (a0b i0w FU):=congrArg i1y (funext x0l)
theorem d2q: ∀t s x,(a0h v1c t s).sel=some x→a0k Try.prog 0 (.loop (cAt Try.prog 63 3)) t s x:=by
 rw[d2v]
 exact a0o (st:=i0w) (m:=FU) d1r hmix false (LsOk.none _ _ _) (by kernel_rfl) (fun env y h=>by rw[←a0f];exact h)
def q0p:LDt→Tree Step
 |[.n n0,.n n1,.n n2]=>
  (.node (decide (n2<n0))
   (.leaf (Step.go [.k 0,.n n0,.n (IntKind.wrap .u64 (n1*(2:Int))),.n (IntKind.wrap .i64 (n2+(1:Int)))]))
   (.leaf (Step.stop 0 [.n n1])))
 |_=>.bad 0
theorem o0w (n0:Int)(n1:Int)(n2:Int):Imp (q0p [.n n0,.n n1,.n n2]) (i0w [.k 0,.n n0,.n n1,.n n2]):=
(.pa [1]
(.nd (fun h0=>
(.pa [1]
.lf)) (fun h0=>
(.pa [1]
.lf))))
theorem h2s:LsOk Try.prog (z0) (lsM [(3,v1c)] (z0)) (a0r Try.prog 63):=LsOk.many fun j B hB hk c hc hi=>by
 simp only[b0d]at hB
 split at hB
 ·rename_i e;have:=Nat.eq_of_beq_eq_true e;subst this;cases hB
  rw[a0y (f:=63) (i:=3) (a0e (by kernel_rfl)) (a0d hc hi)];exact d2q
 cases hB
def kq31 (f:OpT):FBox:=mkF [.int .i64 0] [] [] [(.int .u64 0,[])] f
def t1x (env:LDt):TD:=Lk.boxC false LK w1d 63 (lsM [(3,v1c)] (z0)) (kq31 fun _=>none) env
def f1y:OpT:=Classical.choose (opq (fun env=>(t1x env).sel))
theorem p1d (env:LDt):f1y env=(t1x env).sel:=Classical.choose_spec (opq (fun env=>(t1x env).sel)) env
def Bq31:FBox:=kq31 f1y
theorem Bq31_ok:a0v Try.prog 63 (a0j Bq31):=a0p (op:=f1y) d1r hmix false (h2s) (fun env x h=>by rw[p1d]at h;rw[←a0i];exact h)
def a2d:LDt→TD
 |[.n n0]=>
  (let r1:OD:=(s0g [.k 0,.n n0,.n (1:Int),.n (0:Int)]);
   (.node (isK 0 [HK.n] r1)
   (.leaf ((0,[.n (gn (dOf r1) 0)])))
   (.bad 351)))
 |_=>.bad 0
theorem s1q (n0:Int):Imp (a2d [.n n0]) (t1x [.n n0]):=
(.nd (fun h0=>
(.pa [1]
.lf)) (fun h0=>
.none))
def p2s:FuncId→Option a0q:=a0s 63 Bq31 w1d
theorem q1c:CsOk Try.prog p2s:=a0g d1r Bq31_ok
def kq11 (f:OpT):FBox:=mkF [.int .u64 0,.int .i64 1] [] [] [(.bool 0,[])] f
def x1r (env:LDt):TD:=Lk.boxC false LK p2s 33 ls0 (kq11 fun _=>none) env
def a1u:OpT:=Classical.choose (opq (fun env=>(x1r env).sel))
theorem n1r (env:LDt):a1u env=(x1r env).sel:=Classical.choose_spec (opq (fun env=>(x1r env).sel)) env
def Bq11:FBox:=kq11 a1u
theorem Bq11_ok:a0v Try.prog 33 (a0j Bq11):=a0p (op:=a1u) q1c hmix false (LsOk.none _ _ _) (fun env x h=>by rw[n1r]at h;rw[←a0i];exact h)
def u1o:LDt→TD
 |[.n n0,.n n1]=>
  (.node (decide (n1≥(0:Int)))
   (.node (decide (n1≤(63:Int)))
   (let r1:OD:=(f1y [.n n1]);
    (.node (isK 0 [HK.n] r1)
    (.node (!decide (gn (dOf r1) 0=(0:Int)))
     (.leaf ((0,[.b (Int.tmod (IntKind.wrap .u64 (Int.tdiv n0 (gn (dOf r1) 0))) (2:Int)==(1:Int))])))
     (.bad 80))
    (.bad 351)))
   (.leaf ((0,[.b false]))))
   (.leaf ((0,[.b false]))))
 |_=>.bad 0
theorem q1v (n0:Int)(n1:Int):Imp (u1o [.n n0,.n n1]) (x1r [.n n0,.n n1]):=
(.nd (fun h0=>
(.nd (fun h1=>
(.nd (fun h2=>
(.pa [1]
(.nd (fun h3=>
(.pa [1,1]
.lf)) (fun h3=>
.none)))) (fun h2=>
.none))) (fun h1=>
(.pa [0,1]
.lf)))) (fun h0=>
(.pa [0,0,0,1]
.lf)))
def i2o:FuncId→Option a0q:=a0s 33 Bq11 p2s
theorem m1y:CsOk Try.prog i2o:=a0g q1c Bq11_ok
def kq13 (f:OpT):FBox:=mkF [.int .u64 0,.int .i64 1] [] [] [(.int .u64 0,[])] f
def a2r (env:LDt):TD:=Lk.boxC false LK i2o 75 ls0 (kq13 fun _=>none) env
def o1n:OpT:=Classical.choose (opq (fun env=>(a2r env).sel))
theorem o1e (env:LDt):o1n env=(a2r env).sel:=Classical.choose_spec (opq (fun env=>(a2r env).sel)) env
def Bq13:FBox:=kq13 o1n
theorem Bq13_ok:a0v Try.prog 75 (a0j Bq13):=a0p (op:=o1n) m1y hmix false (LsOk.none _ _ _) (fun env x h=>by rw[o1e]at h;rw[←a0i];exact h)
def t1s:LDt→TD
 |[.n n0,.n n1]=>
  (.node (decide (n1<(0:Int)))
   (.leaf ((0,[.n n0])))
   (.node (decide (n1>(63:Int)))
   (.leaf ((0,[.n n0])))
   (let r1:OD:=(a1u [.n n0,.n n1]);
    (.node (isK 0 [HK.b] r1)
    (.node (gb (dOf r1) 0)
     (.leaf ((0,[.n n0])))
     (let r2:OD:=(f1y [.n n1]);
     (.node (isK 0 [HK.n] r2)
      (.leaf ((0,[.n (IntKind.wrap .u64 (n0+gn (dOf r2) 0))])))
      (.bad 351))))
    (.bad 351)))))
 |_=>.bad 0
theorem s1l (n0:Int)(n1:Int):Imp (t1s [.n n0,.n n1]) (a2r [.n n0,.n n1]):=
(.nd (fun h0=>
(.pa [1,1,1,1,1]
.lf)) (fun h0=>
(.nd (fun h1=>
(.pa [1,1,1]
.lf)) (fun h1=>
(.nd (fun h2=>
(.pa [1]
(.nd (fun h3=>
(.pa [1]
.lf)) (fun h3=>
(.nd (fun h4=>
(.pa [1,1]
.lf)) (fun h4=>
.none)))))) (fun h2=>
.none))))))
def y1c:FuncId→Option a0q:=a0s 75 Bq13 i2o
theorem c1e:CsOk Try.prog y1c:=a0g m1y Bq13_ok
def h1r (f:OpT):MBox:=mkM 0 [] [(sh 18 [(0,.int .i64 0),(3,.int .u64 1),(4,.int .i64 2)],[])] [] [(.exit 0,sh 18 [(3,.int .u64 0)],[])] f
def j0d (env:LDt):Tree Step:=Lk.stepMC false LK y1c 41 3 ls0 (h1r fun _=>none) env
def q0y:OpT:=Classical.choose (opq (a0b j0d FU))
theorem w0o (env:LDt):q0y env=a0b j0d FU env:=Classical.choose_spec (opq (a0b j0d FU)) env
def t1y:MBox:=h1r q0y
theorem c2j:t1y=h1r (a0b j0d FU):=congrArg h1r (funext w0o)
theorem b2o: ∀t s x,(a0h t1y t s).sel=some x→a0k Try.prog 0 (.loop (cAt Try.prog 41 3)) t s x:=by
 rw[c2j]
 exact a0o (st:=j0d) (m:=FU) c1e hmix false (LsOk.none _ _ _) (by kernel_rfl) (fun env y h=>by rw[←a0f];exact h)
def q0c:LDt→Tree Step
 |[.n n0,.n n1,.n n2]=>
  (.node (decide (n2<n0))
   (.node (decide (n2<(64:Int)))
   (let r1:OD:=(o1n [.n n1,.n n2]);
    (.node (isK 0 [HK.n] r1)
    (.leaf (Step.go [.k 0,.n n0,.n (gn (dOf r1) 0),.n (IntKind.wrap .i64 (n2+(1:Int)))]))
    (.bad 351)))
   (.leaf (Step.stop 0 [.n n1])))
   (.leaf (Step.stop 0 [.n n1])))
 |_=>.bad 0
theorem p0o (n0:Int)(n1:Int)(n2:Int):Imp (q0c [.n n0,.n n1,.n n2]) (j0d [.k 0,.n n0,.n n1,.n n2]):=
(.pa [1]
(.nd (fun h0=>
(.nd (fun h1=>
(.nd (fun h2=>
(.pa [1,1]
.lf)) (fun h2=>
.none))) (fun h1=>
(.pa [1]
.lf)))) (fun h0=>
(.pa [0,0,1]
.lf))))
theorem i2y:LsOk Try.prog (z0) (lsM [(3,t1y)] (z0)) (a0r Try.prog 41):=LsOk.many fun j B hB hk c hc hi=>by
 simp only[b0d]at hB
 split at hB
 ·rename_i e;have:=Nat.eq_of_beq_eq_true e;subst this;cases hB
  rw[a0y (f:=41) (i:=3) (a0e (by kernel_rfl)) (a0d hc hi)];exact b2o
 cases hB
def y1a (env:LDt):TD:=Lk.boxC false LK y1c 41 (lsM [(3,t1y)] (z0)) (kq31 fun _=>none) env
def g1d:OpT:=Classical.choose (opq (fun env=>(y1a env).sel))
theorem m1l (env:LDt):g1d env=(y1a env).sel:=Classical.choose_spec (opq (fun env=>(y1a env).sel)) env
def Bq27:FBox:=kq31 g1d
theorem Bq27_ok:a0v Try.prog 41 (a0j Bq27):=a0p (op:=g1d) c1e hmix false (i2y) (fun env x h=>by rw[m1l]at h;rw[←a0i];exact h)
def y1k:LDt→TD
 |[.n n0]=>
  (let r1:OD:=(q0y [.k 0,.n n0,.n (0:Int),.n (0:Int)]);
   (.node (isK 0 [HK.n] r1)
   (.leaf ((0,[.n (gn (dOf r1) 0)])))
   (.bad 351)))
 |_=>.bad 0
theorem r1s (n0:Int):Imp (y1k [.n n0]) (y1a [.n n0]):=
(.nd (fun h0=>
(.pa [1]
.lf)) (fun h0=>
.none))
def cs_q27:FuncId→Option a0q:=a0s 41 Bq27 y1c
theorem o2v:CsOk Try.prog cs_q27:=a0g c1e Bq27_ok
def ev_W12 (env:LDt):Tree Bool:=Lk.lawB false LK cs_q27 12 ls0 (instL [laV 0,ipV 4,ouV 8,.int .u64 10] env)
def fn_W12_t:LDt→Tree Bool
 |[.l TS l0,.l TPt l1,.l TPt l2,.l TRt l3,.n n4,.n n5,.n n6,.l (Ty.pair (Ty.int IntKind.u8) TI) l7,.n n8,.n n9,.n n10]=>
  (let r1:OD:=(n2d [.l TS l0,.l TPt l1,.l TPt l2,.l TRt l3,.n (400:Int)]);
   (.node (isK 0 [HK.n] r1)
   (.node (decide (gn (dOf r1) 0>(400:Int)))
    (.leaf (true))
    (.node (decide ((↑(List.length l7):Int)>(100:Int)))
    (.leaf (true))
    (let r2:OD:=(p1p [.l TS l0,.l TPt l1,.l TPt l2,.l TRt l3]);
     (.node (isK 0 [HK.n,HK.l TU] r2)
     (let r3:OD:=(e1m [.l TS l0,.l TPt l1,.l TPt l2,.l TRt l3,.l TU (gl TU (dOf r2) 1),.n (gn (dOf r2) 0),.n n4,.n n5,.n n6,.l (Ty.pair (Ty.int IntKind.u8) TI) l7,.n n8,.n n9]);
      (.node (isK 0 [HK.n] r3)
      (.node (gn (dOf r3) 0==(0:Int))
       (let r4:OD:=(e1m [.l TS l0,.l TPt l1,.l TPt l2,.l TRt l3,.l TU (gl TU (dOf r2) 1),.n (gn (dOf r2) 0),.n n4,.n n5,.n n6,.l (Ty.pair (Ty.int IntKind.u8) TI) l7,.n (iand IntKind.u64 n8 n10),.n n9]);
       (.node (isK 0 [HK.n] r4)
        (.node (gn (dOf r4) 0 !=(0:Int))
        (.leaf (false))
        (let r5:OD:=(f2v [.l TS l0,.l TPt l1,.l TPt l2,.l TRt l3]);
         (.node (isK 0 [HK.n,HK.n] r5)
         (let r6:OD:=(g1d [.n (imin (↑(List.length l1):Int) (32:Int))]);
          (.node (isK 0 [HK.n] r6)
          (let r7:OD:=(e1m [.l TS l0,.l TPt l1,.l TPt l2,.l TRt l3,.l TU (gl TU (dOf r2) 1),.n (gn (dOf r2) 0),.n n4,.n n5,.n n6,.l (Ty.pair (Ty.int IntKind.u8) TI) l7,.n (0:Int),.n (iand IntKind.u32 n9 (IntKind.wrap .u32 (gn (dOf r6) 0)))]);
           (.node (isK 0 [HK.n] r7)
           (.node ((gn (dOf r7) 0==(0:Int))==(gn (dOf r5) 0==(0:Int)))
            (.leaf (true))
            (.leaf (false)))
           (.bad 351)))
          (.bad 351)))
         (.bad 351))))
        (.bad 351)))
       (let r4:OD:=(f2v [.l TS l0,.l TPt l1,.l TPt l2,.l TRt l3]);
       (.node (isK 0 [HK.n,HK.n] r4)
        (let r5:OD:=(g1d [.n (imin (↑(List.length l1):Int) (32:Int))]);
        (.node (isK 0 [HK.n] r5)
         (let r6:OD:=(e1m [.l TS l0,.l TPt l1,.l TPt l2,.l TRt l3,.l TU (gl TU (dOf r2) 1),.n (gn (dOf r2) 0),.n n4,.n n5,.n n6,.l (Ty.pair (Ty.int IntKind.u8) TI) l7,.n (0:Int),.n (iand IntKind.u32 n9 (IntKind.wrap .u32 (gn (dOf r5) 0)))]);
         (.node (isK 0 [HK.n] r6)
          (.node ((gn (dOf r6) 0==(0:Int))==(gn (dOf r4) 0==(0:Int)))
          (.leaf (true))
          (.leaf (false)))
          (.bad 351)))
         (.bad 351)))
        (.bad 351))))
      (.bad 351)))
     (.node (isK 1 [HK.n] r2)
      (let r3:OD:=(e1m [.l TS l0,.l TPt l1,.l TPt l2,.l TRt l3,.l TU [],.n (gn (dOf r2) 0),.n n4,.n n5,.n n6,.l (Ty.pair (Ty.int IntKind.u8) TI) l7,.n n8,.n n9]);
      (.node (isK 0 [HK.n] r3)
       (.node (gn (dOf r3) 0==(0:Int))
       (let r4:OD:=(e1m [.l TS l0,.l TPt l1,.l TPt l2,.l TRt l3,.l TU [],.n (gn (dOf r2) 0),.n n4,.n n5,.n n6,.l (Ty.pair (Ty.int IntKind.u8) TI) l7,.n (iand IntKind.u64 n8 n10),.n n9]);
        (.node (isK 0 [HK.n] r4)
        (.node (gn (dOf r4) 0 !=(0:Int))
         (.leaf (false))
         (let r5:OD:=(f2v [.l TS l0,.l TPt l1,.l TPt l2,.l TRt l3]);
         (.node (isK 0 [HK.n,HK.n] r5)
          (let r6:OD:=(g1d [.n (imin (↑(List.length l1):Int) (32:Int))]);
          (.node (isK 0 [HK.n] r6)
           (let r7:OD:=(e1m [.l TS l0,.l TPt l1,.l TPt l2,.l TRt l3,.l TU [],.n (gn (dOf r2) 0),.n n4,.n n5,.n n6,.l (Ty.pair (Ty.int IntKind.u8) TI) l7,.n (0:Int),.n (iand IntKind.u32 n9 (IntKind.wrap .u32 (gn (dOf r6) 0)))]);
           (.node (isK 0 [HK.n] r7)
            (.node ((gn (dOf r7) 0==(0:Int))==(gn (dOf r5) 0==(0:Int)))
            (.leaf (true))
            (.leaf (false)))
            (.bad 351)))
           (.bad 351)))
          (.bad 351))))
        (.bad 351)))
       (let r4:OD:=(f2v [.l TS l0,.l TPt l1,.l TPt l2,.l TRt l3]);
        (.node (isK 0 [HK.n,HK.n] r4)
        (let r5:OD:=(g1d [.n (imin (↑(List.length l1):Int) (32:Int))]);
         (.node (isK 0 [HK.n] r5)
         (let r6:OD:=(e1m [.l TS l0,.l TPt l1,.l TPt l2,.l TRt l3,.l TU [],.n (gn (dOf r2) 0),.n n4,.n n5,.n n6,.l (Ty.pair (Ty.int IntKind.u8) TI) l7,.n (0:Int),.n (iand IntKind.u32 n9 (IntKind.wrap .u32 (gn (dOf r5) 0)))]);
          (.node (isK 0 [HK.n] r6)
          (.node ((gn (dOf r6) 0==(0:Int))==(gn (dOf r4) 0==(0:Int)))
           (.leaf (true))
           (.leaf (false)))
          (.bad 351)))
         (.bad 351)))
        (.bad 351))))
       (.bad 351)))
      (.bad 351))))))
   (.bad 351)))
 |_=>.bad 0
theorem fn_W12_t_im (l0:DS)(l1:DP)(l2:DP)(l3:DR)(n4:Int)(n5:Int)(n6:Int)(l7:List (Ty.den (Ty.pair (Ty.int IntKind.u8) TI)))(n8:Int)(n9:Int)(n10:Int):Imp (fn_W12_t [.l TS l0,.l TPt l1,.l TPt l2,.l TRt l3,.n n4,.n n5,.n n6,.l (Ty.pair (Ty.int IntKind.u8) TI) l7,.n n8,.n n9,.n n10]) (ev_W12 [.l TS l0,.l TPt l1,.l TPt l2,.l TRt l3,.n n4,.n n5,.n n6,.l TCmd l7,.n n8,.n n9,.n n10]):=
(.nd (fun h0=>
(.pa [1]
(.nd (fun h1=>
(.pa [1,1,1,1,1]
.lf)) (fun h1=>
(.nd (fun h2=>
(.pa [1,1,1]
.lf)) (fun h2=>
(.pa [1,1]
(.nd (fun h3=>
(.pa [1,1]
(.nd (fun h4=>
(.pa [1,1,1]
(.nd (fun h5=>
(.pa [1,1]
(.pt (by kernel_rfl) (by kernel_rfl) h3
(.pa [1,1]
(.nd (fun h6=>
(.pa [1,1,1]
(.nd (fun h7=>
.lf) (fun h7=>
(.nd (fun h8=>
(.pa [1]
(.nd (fun h9=>
(.pa [1,1,1,1]
(.pt (by kernel_rfl) (by kernel_rfl) h3
(.pa [1,1]
(.nd (fun h10=>
(.pa [1,1,1]
(.nd (fun h11=>
(.pa [1,1,1]
.lf)) (fun h11=>
(.pa [0]
.lf))))) (fun h10=>
.none)))))) (fun h9=>
.none)))) (fun h8=>
.none)))))) (fun h6=>
.none)))))) (fun h5=>
(.pa [0,0]
(.nd (fun h6=>
(.pa [1]
(.nd (fun h7=>
(.pa [1,1,1,1]
(.pt (by kernel_rfl) (by kernel_rfl) h3
(.pa [1,1]
(.nd (fun h8=>
(.pa [1,1,1]
(.nd (fun h9=>
(.pa [1,1,1]
.lf)) (fun h9=>
(.pa [0]
.lf))))) (fun h8=>
.none)))))) (fun h7=>
.none)))) (fun h6=>
.none))))))) (fun h4=>
.none)))) (fun h3=>
(.nd (fun h4=>
(.pa [1,1]
(.nd (fun h5=>
(.pa [1,1,1]
(.nd (fun h6=>
(.pa [1,1]
(.pf (by kernel_rfl) (by kernel_rfl) h3
(.pt (by kernel_rfl) (by kernel_rfl) h4
(.pa [1,1]
(.nd (fun h7=>
(.pa [1,1,1]
(.nd (fun h8=>
.lf) (fun h8=>
(.nd (fun h9=>
(.pa [1]
(.nd (fun h10=>
(.pa [1,1,1,1]
(.pf (by kernel_rfl) (by kernel_rfl) h3
(.pt (by kernel_rfl) (by kernel_rfl) h4
(.pa [1,1]
(.nd (fun h11=>
(.pa [1,1,1]
(.nd (fun h12=>
(.pa [1,1,1]
.lf)) (fun h12=>
(.pa [0]
.lf))))) (fun h11=>
.none))))))) (fun h10=>
.none)))) (fun h9=>
.none)))))) (fun h7=>
.none))))))) (fun h6=>
(.pa [0,0]
(.nd (fun h7=>
(.pa [1]
(.nd (fun h8=>
(.pa [1,1,1,1]
(.pf (by kernel_rfl) (by kernel_rfl) h3
(.pt (by kernel_rfl) (by kernel_rfl) h4
(.pa [1,1]
(.nd (fun h9=>
(.pa [1,1,1]
(.nd (fun h10=>
(.pa [1,1,1]
.lf)) (fun h10=>
(.pa [0]
.lf))))) (fun h9=>
.none))))))) (fun h8=>
.none)))) (fun h7=>
.none))))))) (fun h5=>
.none)))) (fun h4=>
.none))))))))))) (fun h0=>
.none))
def i2r:FuncId→Option a0q:=a0s 46 Bc46 cs_q27
theorem k1z:CsOk Try.prog i2r:=a0g o2v Bc46_ok
abbrev TInp:Ty:=.pair (.int .u64) (.pair (.int .u32) (.pair (.int .u32) (.sl TCmd)))
abbrev TOut:Ty:=.pair (.int .u64) (.int .u32)
def apR9 (l:DR)(e:Ty.den TRt):DR:=l++[e]
def gC (h b:Nat):PB:=.cells [.imm TS h,.imm TPt (h+1),.imm TPt (h+2),.imm TRt (h+3),.own b,.int .i64 (h+4)]
def ks35 (f:OpT):FBox:=mkF [laV 0,ipV 4,ouV 8] [] [] [(.int .u8 0,[])] f
def y1n (env:LDt):TD:=Lk.boxC false LK i2r 35 ls0 (ks35 fun _=>none) env
def o1w:OpT:=Classical.choose (opq (fun env=>(y1n env).sel))
theorem l1p (env:LDt):o1w env=(y1n env).sel:=Classical.choose_spec (opq (fun env=>(y1n env).sel)) env
def Bs35:FBox:=ks35 o1w
theorem Bs35_ok:a0v Try.prog 35 (a0j Bs35):=a0p (op:=o1w) k1z hmix false (LsOk.none _ _ _) (fun env x h=>by rw[l1p]at h;rw[←a0i];exact h)
def v1q:LDt→TD
 |[.l TS l0,.l TPt l1,.l TPt l2,.l TRt l3,.n n4,.n n5,.n n6,.l (Ty.pair (Ty.int IntKind.u8) TI) l7,.n n8,.n n9]=>
  (let r1:OD:=(p1p [.l TS l0,.l TPt l1,.l TPt l2,.l TRt l3]);
   (.node (isK 0 [HK.n,HK.l TU] r1)
   (let r2:OD:=(e1m [.l TS l0,.l TPt l1,.l TPt l2,.l TRt l3,.l TU (gl TU (dOf r1) 1),.n (gn (dOf r1) 0),.n n4,.n n5,.n n6,.l TCmd l7,.n n8,.n n9]);
    (.node (isK 0 [HK.n] r2)
    (.leaf ((0,[.n (gn (dOf r2) 0)])))
    (.bad 351)))
   (.node (isK 1 [HK.n] r1)
    (let r2:OD:=(e1m [.l TS l0,.l TPt l1,.l TPt l2,.l TRt l3,.l TU [],.n (gn (dOf r1) 0),.n n4,.n n5,.n n6,.l TCmd l7,.n n8,.n n9]);
    (.node (isK 0 [HK.n] r2)
     (.leaf ((0,[.n (gn (dOf r2) 0)])))
     (.bad 351)))
    (.bad 351))))
 |_=>.bad 0
theorem r1z (l0:DS)(l1:DP)(l2:DP)(l3:DR)(n4:Int)(n5:Int)(n6:Int)(l7:List (Ty.den TCmd))(n8:Int)(n9:Int):Imp (v1q [.l TS l0,.l TPt l1,.l TPt l2,.l TRt l3,.n n4,.n n5,.n n6,.l TCmd l7,.n n8,.n n9]) (y1n [.l TS l0,.l TPt l1,.l TPt l2,.l TRt l3,.n n4,.n n5,.n n6,.l TCmd l7,.n n8,.n n9]):=
(.pa [1]
(.nd (fun h0=>
(.pa [1,1]
(.nd (fun h1=>
(.pa [1,1,1]
.lf)) (fun h1=>
.none)))) (fun h0=>
(.nd (fun h1=>
(.pa [1,1]
(.nd (fun h2=>
(.pa [1,1,1]
.lf)) (fun h2=>
.none)))) (fun h1=>
.none)))))
def v1r:FuncId→Option a0q:=a0s 35 Bs35 i2r
theorem b1c:CsOk Try.prog v1r:=a0g k1z Bs35_ok
def k1m (f:OpT):MBox:=mkM 0 [] [(sh 27 [(2,.ptr 0 0),(3,.ptr 1 0),(5,.own 2),(6,.int .i64 0)],[laB 1,ouB 5,.arr TRt 7])] [(5,TRt)] [(.exit 0,sh 27 [(5,.own 0)],[.arr TRt 0])] f
def g0f (env:LDt):Tree Step:=Lk.stepMC false LK v1r 68 3 ls0 (k1m fun _=>none) env
def s0y:OpT:=Classical.choose (opq (a0b g0f FU))
theorem x0i (env:LDt):s0y env=a0b g0f FU env:=Classical.choose_spec (opq (a0b g0f FU)) env
def u1w:MBox:=k1m s0y
theorem b2h:u1w=k1m (a0b g0f FU):=congrArg k1m (funext x0i)
theorem c2e: ∀t s x,(a0h u1w t s).sel=some x→a0k Try.prog 0 (.loop (cAt Try.prog 68 3)) t s x:=by
 rw[b2h]
 exact a0o (st:=g0f) (m:=FU) b1c hmix false (LsOk.none _ _ _) (by kernel_rfl) (fun env y h=>by rw[←a0f];exact h)
def q0b:LDt→Tree Step
 |[.n n0,.l TS l1,.l TPt l2,.l TPt l3,.l TRt l4,.n n5,.n n6,.l TRt l7]=>
  (.node (decide (n0<(↑(List.length l4):Int)))
   (let r1:OD:=(a1u [.n n5,.n n0]);
   (.node (isK 0 [HK.b] r1)
    (.node (gb (dOf r1) 0)
    (.node (decide ((List.length l7+1)*120≤140737488355328))
     (.leaf (Step.go [.k 0,.n (IntKind.wrap .i64 (n0+(1:Int))),.l TS l1,.l TPt l2,.l TPt l3,.l TRt l4,.n n5,.n n6,.l TRt (apR9 (l7) (Prod.fst (List.getD l4 (Int.toNat n0) (Ty.dflt TRt)),Prod.fst (Prod.snd (List.getD l4 (Int.toNat n0) (Ty.dflt TRt))),Prod.fst (Prod.snd (Prod.snd (List.getD l4 (Int.toNat n0) (Ty.dflt TRt)))),Prod.fst (Prod.snd (Prod.snd (Prod.snd (List.getD l4 (Int.toNat n0) (Ty.dflt TRt))))),Prod.fst (Prod.snd (Prod.snd (Prod.snd (Prod.snd (List.getD l4 (Int.toNat n0) (Ty.dflt TRt)))))),Prod.snd (Prod.snd (Prod.snd (Prod.snd (Prod.snd (List.getD l4 (Int.toNat n0) (Ty.dflt TRt))))))))]))
     (.bad 62))
    (.leaf (Step.go [.k 0,.n (IntKind.wrap .i64 (n0+(1:Int))),.l TS l1,.l TPt l2,.l TPt l3,.l TRt l4,.n n5,.n n6,.l TRt l7])))
    (.bad 351)))
   (.leaf (Step.stop 0 [.l TRt l7])))
 |_=>.bad 0
theorem p0k (n0:Int)(l1:DS)(l2:DP)(l3:DP)(l4:DR)(n5:Int)(n6:Int)(l7:DR)(g0:0≤n0):Imp (q0b [.n n0,.l TS l1,.l TPt l2,.l TPt l3,.l TRt l4,.n n5,.n n6,.l TRt l7]) (g0f [.k 0,.n n0,.l TS l1,.l TPt l2,.l TPt l3,.l TRt l4,.n n5,.n n6,.l TRt l7]):=
(.pa [1]
(.nd (fun h0=>
(.nd (fun h1=>
(.pa [1]
(.nd (fun h2=>
(.pq (c:=(inR n0 (List.length l4)))
(.nd (fun h3=>
(.pa [1]
.lf)) (fun h3=>
.none)))) (fun h2=>
(.pa [1]
.lf))))) (fun h1=>
.none))) (fun h0=>
(.pa [1]
.lf))))
theorem n2q:LsOk Try.prog (z0) (lsM [(3,u1w)] (z0)) (a0r Try.prog 68):=LsOk.many fun j B hB hk c hc hi=>by
 simp only[b0d]at hB
 split at hB
 ·rename_i e;have:=Nat.eq_of_beq_eq_true e;subst this;cases hB
  rw[a0y (f:=68) (i:=3) (a0e (by kernel_rfl)) (a0d hc hi)];exact c2e
 cases hB
def ks68 (f:OpT):FBox:=mkF [laV 0,ouV 4] [] [] [(.own 0,[.arr TRt 0])] f
def y1t (env:LDt):TD:=Lk.boxC false LK v1r 68 (lsM [(3,u1w)] (z0)) (ks68 fun _=>none) env
def k1x:OpT:=Classical.choose (opq (fun env=>(y1t env).sel))
theorem p1y (env:LDt):k1x env=(y1t env).sel:=Classical.choose_spec (opq (fun env=>(y1t env).sel)) env
def Bs68:FBox:=ks68 k1x
theorem Bs68_ok:a0v Try.prog 68 (a0j Bs68):=a0p (op:=k1x) b1c hmix false (n2q) (fun env x h=>by rw[p1y]at h;rw[←a0i];exact h)
def z1m:LDt→TD
 |[.l TS l0,.l TPt l1,.l TPt l2,.l TRt l3,.n n4,.n n5]=>
  (let r1:OD:=(s0y [.k 0,.n (0:Int),.l TS l0,.l TPt l1,.l TPt l2,.l TRt l3,.n n4,.n n5,.l TRt []]);
   (.node (isK 0 [HK.l TRt] r1)
   (.leaf ((0,[.l TRt (gl TRt (dOf r1) 0)])))
   (.bad 351)))
 |_=>.bad 0
theorem s1j (l0:DS)(l1:DP)(l2:DP)(l3:DR)(n4:Int)(n5:Int):Imp (z1m [.l TS l0,.l TPt l1,.l TPt l2,.l TRt l3,.n n4,.n n5]) (y1t [.l TS l0,.l TPt l1,.l TPt l2,.l TRt l3,.n n4,.n n5]):=
(.nd (fun h0=>
(.pa [1]
.lf)) (fun h0=>
.none))
def p1f:FuncId→Option a0q:=e1c 68 [Bs68] v1r
theorem u0j:CsOk Try.prog p1f:=h0a b1c fun B hB=>by
 cases List.mem_singleton.1 hB
 exact Bs68_ok
def h1k (f:OpT):MBox:=mkM 0 [] [(sh 28 [(1,.imm TRt 0),(2,.ptr 0 0),(5,.int .i64 1),(6,.int .i64 2)],[laB 3])] [] [(.exit 2,sh 28 [(1,.imm TRt 0),(2,.ptr 0 0),(5,.int .i64 1)],[laB 2]),(.ret,sh 28 [(4,.bool 0)],[])] f
def d0x (env:LDt):Tree Step:=Lk.stepMC false LK p1f 70 5 ls0 (h1k fun _=>none) env
def r0l:OpT:=Classical.choose (opq (a0b d0x FU))
theorem x0a (env:LDt):r0l env=a0b d0x FU env:=Classical.choose_spec (opq (a0b d0x FU)) env
def x1q:MBox:=h1k r0l
theorem d2a:x1q=h1k (a0b d0x FU):=congrArg h1k (funext x0a)
theorem d2d: ∀t s x,(a0h x1q t s).sel=some x→a0k Try.prog 0 (.loop (cAt Try.prog 70 5)) t s x:=by
 rw[d2a]
 exact a0o (st:=d0x) (m:=FU) u0j hmix false (LsOk.none _ _ _) (by kernel_rfl) (fun env y h=>by rw[←a0f];exact h)
def q0h:LDt→Tree Step
 |[.l TRt l0,.n n1,.n n2,.l TS l3,.l TPt l4,.l TPt l5,.l TRt l6]=>
  (.node (decide (n2<n1))
   (let r1:OD:=(m1e [.l TS l3,.l TPt l4,.l TPt l5,.l TRt l6,.s (Prod.fst (List.getD l0 (Int.toNat n1) (Ty.dflt TRt))),.n (Prod.fst (Prod.snd (List.getD l0 (Int.toNat n1) (Ty.dflt TRt)))),.l TI (Prod.fst (Prod.snd (Prod.snd (List.getD l0 (Int.toNat n1) (Ty.dflt TRt))))),.l TNd (Prod.fst (Prod.snd (Prod.snd (Prod.snd (List.getD l0 (Int.toNat n1) (Ty.dflt TRt)))))),.l TI (Prod.fst (Prod.snd (Prod.snd (Prod.snd (Prod.snd (List.getD l0 (Int.toNat n1) (Ty.dflt TRt))))))),.l TNd (Prod.snd (Prod.snd (Prod.snd (Prod.snd (Prod.snd (List.getD l0 (Int.toNat n1) (Ty.dflt TRt))))))),.s (Prod.fst (List.getD l0 (Int.toNat n2) (Ty.dflt TRt))),.n (Prod.fst (Prod.snd (List.getD l0 (Int.toNat n2) (Ty.dflt TRt)))),.l TI (Prod.fst (Prod.snd (Prod.snd (List.getD l0 (Int.toNat n2) (Ty.dflt TRt))))),.l TNd (Prod.fst (Prod.snd (Prod.snd (Prod.snd (List.getD l0 (Int.toNat n2) (Ty.dflt TRt)))))),.l TI (Prod.fst (Prod.snd (Prod.snd (Prod.snd (Prod.snd (List.getD l0 (Int.toNat n2) (Ty.dflt TRt))))))),.l TNd (Prod.snd (Prod.snd (Prod.snd (Prod.snd (Prod.snd (List.getD l0 (Int.toNat n2) (Ty.dflt TRt)))))))]);
   (.node (isK 0 [HK.b] r1)
    (.node (gb (dOf r1) 0)
    (.leaf (Step.stop 1 [.b true]))
    (.leaf (Step.go [.k 0,.l TRt l0,.n n1,.n (IntKind.wrap .i64 (n2+(1:Int))),.l TS l3,.l TPt l4,.l TPt l5,.l TRt l6])))
    (.bad 351)))
   (.leaf (Step.stop 0 [.l TRt l0,.n n1,.l TS l3,.l TPt l4,.l TPt l5,.l TRt l6])))
 |_=>.bad 0
theorem o0x (l0:DR)(n1:Int)(n2:Int)(l3:DS)(l4:DP)(l5:DP)(l6:DR)(g0:0≤n1)(g1:0≤n2)(g2:n1<(l0.length:Int)):Imp (q0h [.l TRt l0,.n n1,.n n2,.l TS l3,.l TPt l4,.l TPt l5,.l TRt l6]) (d0x [.k 0,.l TRt l0,.n n1,.n n2,.l TS l3,.l TPt l4,.l TPt l5,.l TRt l6]):=
(.pa [1]
(.nd (fun h0=>
(.pq (c:=(inR n1 (List.length l0)))
(.pq (c:=(inR n2 (List.length l0)))
(.nd (fun h1=>
(.pa [1,1]
(.nd (fun h2=>
(.pa [1]
.lf)) (fun h2=>
(.pa [1]
.lf))))) (fun h1=>
.none))))) (fun h0=>
(.pa [1]
.lf))))
def g1q (f:OpT):MBox:=mkM 0 [] [(sh 28 [(1,.imm TRt 0),(2,.ptr 0 0),(5,.int .i64 1)],[laB 2])] [] [(.exit 0,sh 28 [],[]),(.ret,sh 28 [(4,.bool 0)],[])] f
def d0y (env:LDt):Tree Step:=Lk.stepMC false LK p1f 70 2 (lsM [(5,x1q)] 0) (g1q fun _=>none) env
def s0m:OpT:=Classical.choose (opq (a0b d0y FU))
theorem x0s (env:LDt):s0m env=a0b d0y FU env:=Classical.choose_spec (opq (a0b d0y FU)) env
def v1u:MBox:=g1q s0m
theorem c2c:v1u=g1q (a0b d0y FU):=congrArg g1q (funext x0s)
theorem l2w:LsOk Try.prog 0 (lsM [(5,x1q)] 0) (cAt Try.prog 70 2):=LsOk.many fun j B hB hk c hc hi=>by
 simp only[b0d]at hB
 split at hB
 ·rename_i e;have:=Nat.eq_of_beq_eq_true e;subst this;cases hB
  have e1:v0m (cAt Try.prog 70 2) 5=[cAt Try.prog 70 5]:=by kernel_rfl
  have e2:=a0d hc hi
  rw[e1]at e2;cases List.mem_singleton.1 e2;exact d2d
 cases hB
theorem f2r: ∀t s x,(a0h v1u t s).sel=some x→a0k Try.prog 0 (.loop (cAt Try.prog 70 2)) t s x:=by
 rw[c2c]
 exact a0o (st:=d0y) (m:=FU) u0j hmix false (l2w) (by kernel_rfl) (fun env y h=>by rw[←a0f];exact h)
def q0l:LDt→Tree Step
 |[.l TRt l0,.n n1,.l TS l2,.l TPt l3,.l TPt l4,.l TRt l5]=>
  (.node (decide (n1<(↑(List.length l0):Int)))
   (let r1:OD:=(r0l [.k 0,.l TRt l0,.n n1,.n (0:Int),.l TS l2,.l TPt l3,.l TPt l4,.l TRt l5]);
   (.node (isK 0 [HK.l TRt,HK.n,HK.l Ty.str,HK.l TPt,HK.l TPt,HK.l TRt] r1)
    (.leaf (Step.go [.k 0,.l TRt (gl TRt (dOf r1) 0),.n (IntKind.wrap .i64 (gn (dOf r1) 1+(1:Int))),.l TS (gl Ty.str (dOf r1) 2),.l TPt (gl TPt (dOf r1) 3),.l TPt (gl TPt (dOf r1) 4),.l TRt (gl TRt (dOf r1) 5)]))
    (.node (isK 1 [HK.b] r1)
    (.leaf (Step.stop 1 [.b (gb (dOf r1) 0)]))
    (.bad 351))))
   (.leaf (Step.stop 0 [])))
 |_=>.bad 0
theorem p0u (l0:DR)(n1:Int)(l2:DS)(l3:DP)(l4:DP)(l5:DR)(g0:0≤n1):Imp (q0l [.l TRt l0,.n n1,.l TS l2,.l TPt l3,.l TPt l4,.l TRt l5]) (d0y [.k 0,.l TRt l0,.n n1,.l TS l2,.l TPt l3,.l TPt l4,.l TRt l5]):=
(.pa [1]
(.nd (fun h0=>
(.nd (fun h1=>
(.pa [1]
.lf)) (fun h1=>
(.nd (fun h2=>
(.pa [1]
.lf)) (fun h2=>
.none))))) (fun h0=>
(.pa [1]
.lf))))
theorem l2j:LsOk Try.prog (z0) (lsM [(2,v1u)] (z0)) (a0r Try.prog 70):=LsOk.many fun j B hB hk c hc hi=>by
 simp only[b0d]at hB
 split at hB
 ·rename_i e;have:=Nat.eq_of_beq_eq_true e;subst this;cases hB
  rw[a0y (f:=70) (i:=2) (a0e (by kernel_rfl)) (a0d hc hi)];exact f2r
 cases hB
def ks70 (f:OpT):FBox:=mkF [laV 0,.imm TRt 4] [] [] [(.bool 0,[])] f
def x1i (env:LDt):TD:=Lk.boxC false LK p1f 70 (lsM [(2,v1u)] (z0)) (ks70 fun _=>none) env
def m1a:OpT:=Classical.choose (opq (fun env=>(x1i env).sel))
theorem o1k (env:LDt):m1a env=(x1i env).sel:=Classical.choose_spec (opq (fun env=>(x1i env).sel)) env
def Bs70:FBox:=ks70 m1a
theorem Bs70_ok:a0v Try.prog 70 (a0j Bs70):=a0p (op:=m1a) u0j hmix false (l2j) (fun env x h=>by rw[o1k]at h;rw[←a0i];exact h)
def x1w:LDt→TD
 |[.l TS l0,.l TPt l1,.l TPt l2,.l TRt l3,.l TRt l4]=>
  (let r1:OD:=(s0m [.k 0,.l TRt l4,.n (0:Int),.l TS l0,.l TPt l1,.l TPt l2,.l TRt l3]);
   (.node (isK 0 [] r1)
   (.leaf ((0,[.b false])))
   (.node (isK 1 [HK.b] r1)
    (.leaf ((0,[.b (gb (dOf r1) 0)])))
    (.bad 351))))
 |_=>.bad 0
theorem t1d (l0:DS)(l1:DP)(l2:DP)(l3:DR)(l4:DR):Imp (x1w [.l TS l0,.l TPt l1,.l TPt l2,.l TRt l3,.l TRt l4]) (x1i [.l TS l0,.l TPt l1,.l TPt l2,.l TRt l3,.l TRt l4]):=
(.nd (fun h0=>
(.pa [1]
.lf)) (fun h0=>
(.nd (fun h1=>
(.pa [1]
.lf)) (fun h1=>
.none))))
def o1f:FuncId→Option a0q:=a0s 70 Bs70 p1f
theorem t0h:CsOk Try.prog o1f:=a0g u0j Bs70_ok
def i1l (f:OpT):MBox:=mkM 0 [] [(sh 32 [(0,.imm TRt 0),(3,.ptr 0 0),(5,.int .i64 1),(6,.own 1),(7,.int .i64 2)],[ipB 3,.arr TI 7])] [] [(.exit 2,sh 32 [(0,.imm TRt 0),(3,.ptr 0 0),(5,.int .i64 1)],[ipB 2]),(.ret,sh 32 [(4,.bool 0)],[])] f
def d0u (env:LDt):Tree Step:=Lk.stepMC false LK o1f 71 6 ls0 (i1l fun _=>none) env
def s0p:OpT:=Classical.choose (opq (a0b d0u FU))
theorem x0r (env:LDt):s0p env=a0b d0u FU env:=Classical.choose_spec (opq (a0b d0u FU)) env
def x1c:MBox:=i1l s0p
theorem c2v:x1c=i1l (a0b d0u FU):=congrArg i1l (funext x0r)
theorem d2z: ∀t s x,(a0h x1c t s).sel=some x→a0k Try.prog 0 (.loop (cAt Try.prog 71 6)) t s x:=by
 rw[c2v]
 exact a0o (st:=d0u) (m:=FU) t0h hmix false (LsOk.none _ _ _) (by kernel_rfl) (fun env y h=>by rw[←a0f];exact h)
def q0t:LDt→Tree Step
 |[.l TRt l0,.n n1,.n n2,.n n3,.n n4,.n n5,.l (Ty.pair (Ty.int IntKind.u8) TI) l6,.l TI l7]=>
  (.node (decide (n2<(↑(List.length l7):Int)))
   (let r1:OD:=(a1u [.n n3,.n (List.getD l7 (Int.toNat n2) (0:Int))]);
   (.node (isK 0 [HK.b] r1)
    (.node (gb (dOf r1) 0)
    (.leaf (Step.stop 1 [.b true]))
    (.leaf (Step.go [.k 0,.l TRt l0,.n n1,.n (IntKind.wrap .i64 (n2+(1:Int))),.n n3,.n n4,.n n5,.l TCmd l6,.l TI l7])))
    (.bad 351)))
   (.leaf (Step.stop 0 [.l TRt l0,.n n1,.n n3,.n n4,.n n5,.l TCmd l6])))
 |_=>.bad 0
theorem p0e (l0:DR)(n1:Int)(n2:Int)(n3:Int)(n4:Int)(n5:Int)(l6:List (Ty.den TCmd))(l7:DI)(g0:0≤n2):Imp (q0t [.l TRt l0,.n n1,.n n2,.n n3,.n n4,.n n5,.l TCmd l6,.l TI l7]) (d0u [.k 0,.l TRt l0,.n n1,.n n2,.n n3,.n n4,.n n5,.l TCmd l6,.l TI l7]):=
(.pa [1]
(.nd (fun h0=>
(.pq (c:=(inR n2 (List.length l7)))
(.nd (fun h1=>
(.pa [1,1]
(.nd (fun h2=>
(.pa [1]
.lf)) (fun h2=>
(.pa [1]
.lf))))) (fun h1=>
.none)))) (fun h0=>
(.pa [1]
.lf))))
def h1d (f:OpT):MBox:=mkM 0 [] [(sh 32 [(0,.imm TRt 0),(3,.ptr 0 0),(5,.int .i64 1)],[ipB 2])] [] [(.exit 0,sh 32 [],[]),(.ret,sh 32 [(4,.bool 0)],[])] f
def d0t (env:LDt):Tree Step:=Lk.stepMC false LK o1f 71 2 (lsM [(6,x1c)] 0) (h1d fun _=>none) env
def t0j:OpT:=Classical.choose (opq (a0b d0t FU))
theorem x0u (env:LDt):t0j env=a0b d0t FU env:=Classical.choose_spec (opq (a0b d0t FU)) env
def y1i:MBox:=h1d t0j
theorem g2i:y1i=h1d (a0b d0t FU):=congrArg h1d (funext x0u)
theorem g2k:LsOk Try.prog 0 (lsM [(6,x1c)] 0) (cAt Try.prog 71 2):=LsOk.many fun j B hB hk c hc hi=>by
 simp only[b0d]at hB
 split at hB
 ·rename_i e;have:=Nat.eq_of_beq_eq_true e;subst this;cases hB
  have e1:v0m (cAt Try.prog 71 2) 6=[cAt Try.prog 71 6]:=by kernel_rfl
  have e2:=a0d hc hi
  rw[e1]at e2;cases List.mem_singleton.1 e2;exact d2z
 cases hB
theorem f2m: ∀t s x,(a0h y1i t s).sel=some x→a0k Try.prog 0 (.loop (cAt Try.prog 71 2)) t s x:=by
 rw[g2i]
 exact a0o (st:=d0t) (m:=FU) t0h hmix false (g2k) (by kernel_rfl) (fun env y h=>by rw[←a0f];exact h)
def q0f:LDt→Tree Step
 |[.l TRt l0,.n n1,.n n2,.n n3,.n n4,.l (Ty.pair (Ty.int IntKind.u8) TI) l5]=>
  (.node (decide (n1<(↑(List.length l0):Int)))
   (let r1:OD:=(h1f [.s (Prod.fst (List.getD l0 (Int.toNat n1) (Ty.dflt TRt))),.n (Prod.fst (Prod.snd (List.getD l0 (Int.toNat n1) (Ty.dflt TRt)))),.l TI (Prod.fst (Prod.snd (Prod.snd (List.getD l0 (Int.toNat n1) (Ty.dflt TRt))))),.l TNd (Prod.fst (Prod.snd (Prod.snd (Prod.snd (List.getD l0 (Int.toNat n1) (Ty.dflt TRt)))))),.l TI (Prod.fst (Prod.snd (Prod.snd (Prod.snd (Prod.snd (List.getD l0 (Int.toNat n1) (Ty.dflt TRt))))))),.l TNd (Prod.snd (Prod.snd (Prod.snd (Prod.snd (Prod.snd (List.getD l0 (Int.toNat n1) (Ty.dflt TRt)))))))]);
   (.node (isK 0 [HK.l TI] r1)
    (let r2:OD:=(s0p [.k 0,.l TRt l0,.n n1,.n (0:Int),.n n2,.n n3,.n n4,.l TCmd l5,.l TI (gl TI (dOf r1) 0)]);
    (.node (isK 0 [HK.l TRt,HK.n,HK.n,HK.n,HK.n,HK.l TCmd] r2)
     (.leaf (Step.go [.k 0,.l TRt (gl TRt (dOf r2) 0),.n (IntKind.wrap .i64 (gn (dOf r2) 1+(1:Int))),.n (gn (dOf r2) 2),.n (gn (dOf r2) 3),.n (gn (dOf r2) 4),.l TCmd (gl TCmd (dOf r2) 5)]))
     (.node (isK 1 [HK.b] r2)
     (.leaf (Step.stop 1 [.b (gb (dOf r2) 0)]))
     (.bad 351))))
    (.bad 351)))
   (.leaf (Step.stop 0 [])))
 |_=>.bad 0
theorem p0b (l0:DR)(n1:Int)(n2:Int)(n3:Int)(n4:Int)(l5:List (Ty.den TCmd))(g0:0≤n1):Imp (q0f [.l TRt l0,.n n1,.n n2,.n n3,.n n4,.l TCmd l5]) (d0t [.k 0,.l TRt l0,.n n1,.n n2,.n n3,.n n4,.l TCmd l5]):=
(.pa [1]
(.nd (fun h0=>
(.pq (c:=(inR n1 (List.length l0)))
(.nd (fun h1=>
(.pa [1]
(.nd (fun h2=>
(.pa [1]
.lf)) (fun h2=>
(.nd (fun h3=>
(.pa [1]
.lf)) (fun h3=>
.none)))))) (fun h1=>
.none)))) (fun h0=>
(.pa [1]
.lf))))
theorem j2b:LsOk Try.prog (z0) (lsM [(2,y1i)] (z0)) (a0r Try.prog 71):=LsOk.many fun j B hB hk c hc hi=>by
 simp only[b0d]at hB
 split at hB
 ·rename_i e;have:=Nat.eq_of_beq_eq_true e;subst this;cases hB
  rw[a0y (f:=71) (i:=2) (a0e (by kernel_rfl)) (a0d hc hi)];exact f2m
 cases hB
def ks71 (f:OpT):FBox:=mkF [.imm TRt 0,ipV 1] [] [] [(.bool 0,[])] f
def z1r (env:LDt):TD:=Lk.boxC false LK o1f 71 (lsM [(2,y1i)] (z0)) (ks71 fun _=>none) env
def n1a:OpT:=Classical.choose (opq (fun env=>(z1r env).sel))
theorem l1q (env:LDt):n1a env=(z1r env).sel:=Classical.choose_spec (opq (fun env=>(z1r env).sel)) env
def Bs71:FBox:=ks71 n1a
theorem Bs71_ok:a0v Try.prog 71 (a0j Bs71):=a0p (op:=n1a) t0h hmix false (j2b) (fun env x h=>by rw[l1q]at h;rw[←a0i];exact h)
def u1k:LDt→TD
 |[.l TRt l0,.n n1,.n n2,.n n3,.l (Ty.pair (Ty.int IntKind.u8) TI) l4]=>
  (let r1:OD:=(t0j [.k 0,.l TRt l0,.n (0:Int),.n n1,.n n2,.n n3,.l TCmd l4]);
   (.node (isK 0 [] r1)
   (.leaf ((0,[.b false])))
   (.node (isK 1 [HK.b] r1)
    (.leaf ((0,[.b (gb (dOf r1) 0)])))
    (.bad 351))))
 |_=>.bad 0
theorem r1p (l0:DR)(n1:Int)(n2:Int)(n3:Int)(l4:List (Ty.den TCmd)):Imp (u1k [.l TRt l0,.n n1,.n n2,.n n3,.l TCmd l4]) (z1r [.l TRt l0,.n n1,.n n2,.n n3,.l TCmd l4]):=
(.nd (fun h0=>
(.pa [1]
.lf)) (fun h0=>
(.nd (fun h1=>
(.pa [1]
.lf)) (fun h1=>
.none))))
def l1f:FuncId→Option a0q:=a0s 71 Bs71 o1f
theorem r0v:CsOk Try.prog l1f:=a0g t0h Bs71_ok
def g1j (f:OpT):MBox:=mkM 0 [] [(sh 44 [(0,.imm TRt 0),(1,.int .u32 1),(2,.int .u32 2),(7,.int .i64 3),(8,.own 0),(9,.int .i64 4)],[.arr TNd 5])] [] [(.exit 2,sh 44 [(0,.imm TRt 0),(1,.int .u32 1),(2,.int .u32 2),(7,.int .i64 3)],[]),(.ret,sh 44 [(6,.bool 0)],[])] f
def e0f (env:LDt):Tree Step:=Lk.stepMC false LK l1f 72 6 ls0 (g1j fun _=>none) env
def q0x:OpT:=Classical.choose (opq (a0b e0f FU))
theorem w0x (env:LDt):q0x env=a0b e0f FU env:=Classical.choose_spec (opq (a0b e0f FU)) env
def a2j:MBox:=g1j q0x
theorem f2o:a2j=g1j (a0b e0f FU):=congrArg g1j (funext w0x)
theorem d2o: ∀t s x,(a0h a2j t s).sel=some x→a0k Try.prog 0 (.loop (cAt Try.prog 72 6)) t s x:=by
 rw[f2o]
 exact a0o (st:=e0f) (m:=FU) r0v hmix false (LsOk.none _ _ _) (by kernel_rfl) (fun env y h=>by rw[←a0f];exact h)
def p0y:LDt→Tree Step
 |[.l TRt l0,.n n1,.n n2,.n n3,.n n4,.l TNd l5]=>
  (.node (decide (n4<(↑(List.length l5):Int)))
   (.node (Prod.snd (List.getD l5 (Int.toNat n4) (Ty.dflt TNd)))
   (.node (!decide ((Prod.fst (List.getD l5 (Int.toNat n4) (Ty.dflt TNd)):Int)<(0:Int)))
    (.node (iand IntKind.u32 (ishr IntKind.u32 n2 (Prod.fst (List.getD l5 (Int.toNat n4) (Ty.dflt TNd)))) (1:Int)==(0:Int))
    (.leaf (Step.stop 1 [.b false]))
    (.leaf (Step.go [.k 0,.l TRt l0,.n n1,.n n2,.n n3,.n (IntKind.wrap .i64 (n4+(1:Int))),.l TNd l5])))
    (.bad 83))
   (.node (!decide ((Prod.fst (List.getD l5 (Int.toNat n4) (Ty.dflt TNd)):Int)<(0:Int)))
    (.node (iand IntKind.u32 (ishr IntKind.u32 n1 (Prod.fst (List.getD l5 (Int.toNat n4) (Ty.dflt TNd)))) (1:Int)==(0:Int))
    (.leaf (Step.stop 1 [.b false]))
    (.leaf (Step.go [.k 0,.l TRt l0,.n n1,.n n2,.n n3,.n (IntKind.wrap .i64 (n4+(1:Int))),.l TNd l5])))
    (.bad 83)))
   (.leaf (Step.stop 0 [.l TRt l0,.n n1,.n n2,.n n3])))
 |_=>.bad 0
theorem p0i (l0:DR)(n1:Int)(n2:Int)(n3:Int)(n4:Int)(l5:DD)(g0:0≤n4):Imp (p0y [.l TRt l0,.n n1,.n n2,.n n3,.n n4,.l TNd l5]) (e0f [.k 0,.l TRt l0,.n n1,.n n2,.n n3,.n n4,.l TNd l5]):=
(.pa [1]
(.nd (fun h0=>
(.pq (c:=(inR n4 (List.length l5)))
(.nd (fun h1=>
(.pq (c:=(inR n4 (List.length l5)))
(.nd (fun h2=>
(.nd (fun h3=>
(.pa [1]
.lf)) (fun h3=>
(.pa [1]
.lf)))) (fun h2=>
.none)))) (fun h1=>
(.pq (c:=(inR n4 (List.length l5)))
(.nd (fun h2=>
(.nd (fun h3=>
(.pa [1]
.lf)) (fun h3=>
(.pa [1]
.lf)))) (fun h2=>
.none))))))) (fun h0=>
(.pa [1]
.lf))))
def k1b (f:OpT):MBox:=mkM 0 [] [(sh 44 [(0,.imm TRt 0),(1,.int .u32 1),(2,.int .u32 2),(7,.int .i64 3)],[])] [] [(.exit 0,sh 44 [],[]),(.ret,sh 44 [(6,.bool 0)],[])] f
def e0g (env:LDt):Tree Step:=Lk.stepMC false LK l1f 72 2 (lsM [(6,a2j)] 0) (k1b fun _=>none) env
def r0i:OpT:=Classical.choose (opq (a0b e0g FU))
theorem w0y (env:LDt):r0i env=a0b e0g FU env:=Classical.choose_spec (opq (a0b e0g FU)) env
def z1o:MBox:=k1b r0i
theorem d2l:z1o=k1b (a0b e0g FU):=congrArg k1b (funext w0y)
theorem h2x:LsOk Try.prog 0 (lsM [(6,a2j)] 0) (cAt Try.prog 72 2):=LsOk.many fun j B hB hk c hc hi=>by
 simp only[b0d]at hB
 split at hB
 ·rename_i e;have:=Nat.eq_of_beq_eq_true e;subst this;cases hB
  have e1:v0m (cAt Try.prog 72 2) 6=[cAt Try.prog 72 6]:=by kernel_rfl
  have e2:=a0d hc hi
  rw[e1]at e2;cases List.mem_singleton.1 e2;exact d2o
 cases hB
theorem e2g: ∀t s x,(a0h z1o t s).sel=some x→a0k Try.prog 0 (.loop (cAt Try.prog 72 2)) t s x:=by
 rw[d2l]
 exact a0o (st:=e0g) (m:=FU) r0v hmix false (h2x) (by kernel_rfl) (fun env y h=>by rw[←a0f];exact h)
def q0i:LDt→Tree Step
 |[.l TRt l0,.n n1,.n n2,.n n3]=>
  (.node (decide (n3<(↑(List.length l0):Int)))
   (let r1:OD:=(i1r [.s (Prod.fst (List.getD l0 (Int.toNat n3) (Ty.dflt TRt))),.n (Prod.fst (Prod.snd (List.getD l0 (Int.toNat n3) (Ty.dflt TRt)))),.l TI (Prod.fst (Prod.snd (Prod.snd (List.getD l0 (Int.toNat n3) (Ty.dflt TRt))))),.l TNd (Prod.fst (Prod.snd (Prod.snd (Prod.snd (List.getD l0 (Int.toNat n3) (Ty.dflt TRt)))))),.l TI (Prod.fst (Prod.snd (Prod.snd (Prod.snd (Prod.snd (List.getD l0 (Int.toNat n3) (Ty.dflt TRt))))))),.l TNd (Prod.snd (Prod.snd (Prod.snd (Prod.snd (Prod.snd (List.getD l0 (Int.toNat n3) (Ty.dflt TRt)))))))]);
   (.node (isK 0 [HK.l TNd] r1)
    (let r2:OD:=(q0x [.k 0,.l TRt l0,.n n1,.n n2,.n n3,.n (0:Int),.l TNd (gl TNd (dOf r1) 0)]);
    (.node (isK 0 [HK.l TRt,HK.n,HK.n,HK.n] r2)
     (.leaf (Step.go [.k 0,.l TRt (gl TRt (dOf r2) 0),.n (gn (dOf r2) 1),.n (gn (dOf r2) 2),.n (IntKind.wrap .i64 (gn (dOf r2) 3+(1:Int)))]))
     (.node (isK 1 [HK.b] r2)
     (.leaf (Step.stop 1 [.b (gb (dOf r2) 0)]))
     (.bad 351))))
    (.bad 351)))
   (.leaf (Step.stop 0 [])))
 |_=>.bad 0
theorem p0d (l0:DR)(n1:Int)(n2:Int)(n3:Int)(g0:0≤n3):Imp (q0i [.l TRt l0,.n n1,.n n2,.n n3]) (e0g [.k 0,.l TRt l0,.n n1,.n n2,.n n3]):=
(.pa [1]
(.nd (fun h0=>
(.pq (c:=(inR n3 (List.length l0)))
(.nd (fun h1=>
(.pa [1]
(.nd (fun h2=>
(.pa [1]
.lf)) (fun h2=>
(.nd (fun h3=>
(.pa [1]
.lf)) (fun h3=>
.none)))))) (fun h1=>
.none)))) (fun h0=>
(.pa [1]
.lf))))
theorem l2s:LsOk Try.prog (z0) (lsM [(2,z1o)] (z0)) (a0r Try.prog 72):=LsOk.many fun j B hB hk c hc hi=>by
 simp only[b0d]at hB
 split at hB
 ·rename_i e;have:=Nat.eq_of_beq_eq_true e;subst this;cases hB
  rw[a0y (f:=72) (i:=2) (a0e (by kernel_rfl)) (a0d hc hi)];exact e2g
 cases hB
def ks72 (f:OpT):FBox:=mkF [.imm TRt 0,.int .u32 1,.int .u32 2] [] [] [(.bool 0,[])] f
def a2p (env:LDt):TD:=Lk.boxC false LK l1f 72 (lsM [(2,z1o)] (z0)) (ks72 fun _=>none) env
def f1f:OpT:=Classical.choose (opq (fun env=>(a2p env).sel))
theorem p1o (env:LDt):f1f env=(a2p env).sel:=Classical.choose_spec (opq (fun env=>(a2p env).sel)) env
def Bs72:FBox:=ks72 f1f
theorem Bs72_ok:a0v Try.prog 72 (a0j Bs72):=a0p (op:=f1f) r0v hmix false (l2s) (fun env x h=>by rw[p1o]at h;rw[←a0i];exact h)
def z1q:LDt→TD
 |[.l TRt l0,.n n1,.n n2]=>
  (let r1:OD:=(r0i [.k 0,.l TRt l0,.n n1,.n n2,.n (0:Int)]);
   (.node (isK 0 [] r1)
   (.leaf ((0,[.b true])))
   (.node (isK 1 [HK.b] r1)
    (.leaf ((0,[.b (gb (dOf r1) 0)])))
    (.bad 351))))
 |_=>.bad 0
theorem r1f (l0:DR)(n1:Int)(n2:Int):Imp (z1q [.l TRt l0,.n n1,.n n2]) (a2p [.l TRt l0,.n n1,.n n2]):=
(.nd (fun h0=>
(.pa [1]
.lf)) (fun h0=>
(.nd (fun h1=>
(.pa [1]
.lf)) (fun h1=>
.none))))
def j2k:FuncId→Option a0q:=a0s 72 Bs72 l1f
theorem p1r:CsOk Try.prog j2k:=a0g r0v Bs72_ok
def y1h (env:LDt):TD:=Lk.boxC false LK j2k 36 ls0 (ks35 fun _=>none) env
def p1q:OpT:=Classical.choose (opq (fun env=>(y1h env).sel))
theorem n1x (env:LDt):p1q env=(y1h env).sel:=Classical.choose_spec (opq (fun env=>(y1h env).sel)) env
def Bs36:FBox:=ks35 p1q
theorem Bs36_ok:a0v Try.prog 36 (a0j Bs36):=a0p (op:=p1q) p1r hmix false (LsOk.none _ _ _) (fun env x h=>by rw[n1x]at h;rw[←a0i];exact h)
def z1e:LDt→TD
 |[.l TS l0,.l TPt l1,.l TPt l2,.l TRt l3,.n n4,.n n5,.n n6,.l (Ty.pair (Ty.int IntKind.u8) TI) l7,.n n8,.n n9]=>
  (let r1:OD:=(f2v [.l TS l0,.l TPt l1,.l TPt l2,.l TRt l3]);
   (.node (isK 0 [HK.n,HK.n] r1)
   (.node (gn (dOf r1) 0 !=(0:Int))
    (.leaf ((0,[.n (1:Int)])))
    (let r2:OD:=(g1d [.n (↑(List.length l3):Int)]);
    (.node (isK 0 [HK.n] r2)
     (.node (b0l IntKind.u64 n8 (gn (dOf r2) 0) !=(0:Int))
     (.leaf ((0,[.n (2:Int)])))
     (let r3:OD:=(g1d [.n (↑(List.length l1):Int)]);
      (.node (isK 0 [HK.n] r3)
      (.node (b0l IntKind.u32 n9 (IntKind.wrap .u32 (gn (dOf r3) 0)) !=(0:Int))
       (.leaf ((0,[.n (2:Int)])))
       (let r4:OD:=(k1x [.l TS l0,.l TPt l1,.l TPt l2,.l TRt l3,.n n8,.n n9]);
       (.node (isK 0 [HK.l TRt] r4)
        (let r5:OD:=(m1a [.l TS l0,.l TPt l1,.l TPt l2,.l TRt l3,.l TRt (gl TRt (dOf r4) 0)]);
        (.node (isK 0 [HK.b] r5)
         (.node (gb (dOf r5) 0)
         (.leaf ((0,[.n (3:Int)])))
         (let r6:OD:=(n1a [.l TRt (gl TRt (dOf r4) 0),.n n4,.n n5,.n n6,.l TCmd l7]);
          (.node (isK 0 [HK.b] r6)
          (.node (gb (dOf r6) 0)
           (.leaf ((0,[.n (4:Int)])))
           (let r7:OD:=(f1f [.l TRt (gl TRt (dOf r4) 0),.n (b0l IntKind.u32 n5 n6),.n (b0l IntKind.u32 n6 n5)]);
           (.node (isK 0 [HK.b] r7)
            (.node (!gb (dOf r7) 0)
            (.leaf ((0,[.n (5:Int)])))
            (let r8:OD:=(f1f [.l TRt (gl TRt (dOf r4) 0),.n (ixor IntKind.u32 (4294967295:Int) n9),.n n9]);
             (.node (isK 0 [HK.b] r8)
             (.node (!gb (dOf r8) 0)
              (.leaf ((0,[.n (6:Int)])))
              (.leaf ((0,[.n (0:Int)]))))
             (.bad 351))))
            (.bad 351))))
          (.bad 351))))
         (.bad 351)))
        (.bad 351))))
      (.bad 351))))
     (.bad 351))))
   (.bad 351)))
 |_=>.bad 0
theorem s1g (l0:DS)(l1:DP)(l2:DP)(l3:DR)(n4:Int)(n5:Int)(n6:Int)(l7:List (Ty.den TCmd))(n8:Int)(n9:Int):Imp (z1e [.l TS l0,.l TPt l1,.l TPt l2,.l TRt l3,.n n4,.n n5,.n n6,.l TCmd l7,.n n8,.n n9]) (y1h [.l TS l0,.l TPt l1,.l TPt l2,.l TRt l3,.n n4,.n n5,.n n6,.l TCmd l7,.n n8,.n n9]):=
(.nd (fun h0=>
(.pa [1]
(.nd (fun h1=>
(.pa [1]
.lf)) (fun h1=>
(.nd (fun h2=>
(.pa [1]
(.nd (fun h3=>
(.pa [1,1,1,1]
.lf)) (fun h3=>
(.nd (fun h4=>
(.pa [1,1]
(.nd (fun h5=>
(.pa [1]
.lf)) (fun h5=>
(.pa [1]
(.nd (fun h6=>
(.pa [1,1,1,1]
(.nd (fun h7=>
(.pa [1]
(.nd (fun h8=>
(.pa [1]
.lf)) (fun h8=>
(.nd (fun h9=>
(.pa [1]
(.nd (fun h10=>
(.pa [1]
.lf)) (fun h10=>
(.nd (fun h11=>
(.pa [1]
(.nd (fun h12=>
(.pa [1]
.lf)) (fun h12=>
(.nd (fun h13=>
(.pa [1]
(.nd (fun h14=>
(.pa [1]
.lf)) (fun h14=>
(.pa [1]
.lf))))) (fun h13=>
.none)))))) (fun h11=>
.none)))))) (fun h9=>
.none)))))) (fun h7=>
.none)))) (fun h6=>
.none))))))) (fun h4=>
.none)))))) (fun h2=>
.none)))))) (fun h0=>
.none))
def y1j:FuncId→Option a0q:=a0s 36 Bs36 j2k
theorem b1a:CsOk Try.prog y1j:=a0g p1r Bs36_ok
def j1k (f:OpT):MBox:=mkM (cv:=[(8,[],4,.own TU)]) 0 [] [(sh 36 [(1,.imm TInp 0),(2,.imm TOut 1),(8,.ptr 0 0),(17,.int .i64 2),(18,.int .i64 3)],[gC 4 1,.arr TU 9])] [] [(.exit 0,sh 36 [],[]),(.ret,sh 36 [(6,.int .i64 0),(7,.int .u8 1)],[])] f
def m0m (env:LDt):Tree Step:=Lk.stepMC false LK y1j 38 3 ls0 (j1k fun _=>none) env
def m1t:OpT:=Classical.choose (opq (a0b m0m FU))
theorem m1c (env:LDt):m1t env=a0b m0m FU env:=Classical.choose_spec (opq (a0b m0m FU)) env
def a2v:MBox:=j1k m1t
theorem f2q:a2v=j1k (a0b m0m FU):=congrArg j1k (funext m1c)
theorem a2x: ∀t s x,(a0h a2v t s).sel=some x→a0k Try.prog 0 (.loop (cAt Try.prog 38 3)) t s x:=by
 rw[f2q]
 exact a0o (st:=m0m) (m:=FU) b1a hmix false (LsOk.none _ _ _) (by kernel_rfl) (fun env y h=>by rw[←a0f];exact h)
def fn_Ls38_3_t:LDt→Tree Step
 |[.l (Ty.pair TU (Ty.pair (Ty.int IntKind.u32) (Ty.pair (Ty.int IntKind.u32) (Ty.sl (Ty.pair (Ty.int IntKind.u8) TI))))) l0,.l (Ty.pair TU (Ty.int IntKind.u32)) l1,.n n2,.n n3,.l TS l4,.l TPt l5,.l TPt l6,.l TRt l7,.n n8,.l TU l9]=>
  (.node (decide (n3<n2))
   (let r1:OD:=(e1m [.l TS l4,.l TPt l5,.l TPt l6,.l TRt l7,.l TU l9,.n n8,.n (Prod.fst (List.getD l0 (Int.toNat n3) (Ty.dflt TInp))),.n (Prod.fst (Prod.snd (List.getD l0 (Int.toNat n3) (Ty.dflt TInp)))),.n (Prod.fst (Prod.snd (Prod.snd (List.getD l0 (Int.toNat n3) (Ty.dflt TInp))))),.l TCmd (Prod.snd (Prod.snd (Prod.snd (List.getD l0 (Int.toNat n3) (Ty.dflt TInp))))),.n (Prod.fst (List.getD l1 (Int.toNat n3) (Ty.dflt TOut))),.n (Prod.snd (List.getD l1 (Int.toNat n3) (Ty.dflt TOut)))]);
   (.node (isK 0 [HK.n] r1)
    (.node (gn (dOf r1) 0 !=(0:Int))
    (.leaf (Step.stop 1 [.n n3,.n (gn (dOf r1) 0)]))
    (.leaf (Step.go [.k 0,.l TInp l0,.l TOut l1,.n n2,.n (IntKind.wrap .i64 (n3+(1:Int))),.l TS l4,.l TPt l5,.l TPt l6,.l TRt l7,.n n8,.l TU l9])))
    (.bad 351)))
   (.leaf (Step.stop 0 [])))
 |_=>.bad 0
theorem fn_Ls38_3_t_im (l0:List (Ty.den TInp))(l1:List (Ty.den TOut))(n2:Int)(n3:Int)(l4:DS)(l5:DP)(l6:DP)(l7:DR)(n8:Int)(l9:List (Ty.den TU))(g0:0≤n3)(g1:n2≤(l0.length:Int))(g2:n2≤(l1.length:Int)):Imp (fn_Ls38_3_t [.l TInp l0,.l TOut l1,.n n2,.n n3,.l TS l4,.l TPt l5,.l TPt l6,.l TRt l7,.n n8,.l TU l9]) (m0m [.k 0,.l TInp l0,.l TOut l1,.n n2,.n n3,.l TS l4,.l TPt l5,.l TPt l6,.l TRt l7,.n n8,.l TU l9]):=
(.pa [1]
(.nd (fun h0=>
(.pq (c:=(inR n3 (List.length l0)))
(.pq (c:=(inR n3 (List.length l1)))
(.nd (fun h1=>
(.pa [1,1]
(.nd (fun h2=>
(.pa [1]
.lf)) (fun h2=>
(.pa [1]
.lf))))) (fun h1=>
.none))))) (fun h0=>
(.pa [1]
.lf))))
theorem m2y:LsOk Try.prog (z0) (lsM [(3,a2v)] (z0)) (a0r Try.prog 38):=LsOk.many fun j B hB hk c hc hi=>by
 simp only[b0d]at hB
 split at hB
 ·rename_i e;have:=Nat.eq_of_beq_eq_true e;subst this;cases hB
  rw[a0y (f:=38) (i:=3) (a0e (by kernel_rfl)) (a0d hc hi)];exact a2x
 cases hB
def ks38 (f:OpT):FBox:=mkF [laV 0,.imm TInp 4,.imm TOut 5] [] [] [(.tup [.int .i64 0,.int .u8 1],[])] f
def m2z (env:LDt):TD:=Lk.boxC false LK y1j 38 (lsM [(3,a2v)] (z0)) (ks38 fun _=>none) env
def h2o:OpT:=Classical.choose (opq (fun env=>(m2z env).sel))
theorem m2f (env:LDt):h2o env=(m2z env).sel:=Classical.choose_spec (opq (fun env=>(m2z env).sel)) env
def Bs38:FBox:=ks38 h2o
theorem Bs38_ok:a0v Try.prog 38 (a0j Bs38):=a0p (op:=h2o) b1a hmix false (m2y) (fun env x h=>by rw[m2f]at h;rw[←a0i];exact h)
def fn_s38_t:LDt→TD
 |[.l TS l0,.l TPt l1,.l TPt l2,.l TRt l3,.l (Ty.pair TU (Ty.pair (Ty.int IntKind.u32) (Ty.pair (Ty.int IntKind.u32) (Ty.sl (Ty.pair (Ty.int IntKind.u8) TI))))) l4,.l (Ty.pair TU (Ty.int IntKind.u32)) l5]=>
  (let r1:OD:=(p1p [.l TS l0,.l TPt l1,.l TPt l2,.l TRt l3]);
   (.node (isK 0 [HK.n,HK.l TU] r1)
   (let r2:OD:=(m1t [.k 0,.l TInp l4,.l TOut l5,.n (imin (↑(List.length l4):Int) (↑(List.length l5):Int)),.n (0:Int),.l TS l0,.l TPt l1,.l TPt l2,.l TRt l3,.n (gn (dOf r1) 0),.l TU (gl TU (dOf r1) 1)]);
    (.node (isK 0 [] r2)
    (.leaf ((0,[.n (-1:Int),.n (0:Int)])))
    (.node (isK 1 [HK.n,HK.n] r2)
     (.leaf ((0,[.n (gn (dOf r2) 0),.n (gn (dOf r2) 1)])))
     (.bad 351))))
   (.node (isK 1 [HK.n] r1)
    (let r2:OD:=(m1t [.k 0,.l TInp l4,.l TOut l5,.n (imin (↑(List.length l4):Int) (↑(List.length l5):Int)),.n (0:Int),.l TS l0,.l TPt l1,.l TPt l2,.l TRt l3,.n (gn (dOf r1) 0),.l TU []]);
    (.node (isK 0 [] r2)
     (.leaf ((0,[.n (-1:Int),.n (0:Int)])))
     (.node (isK 1 [HK.n,HK.n] r2)
     (.leaf ((0,[.n (gn (dOf r2) 0),.n (gn (dOf r2) 1)])))
     (.bad 351))))
    (.bad 351))))
 |_=>.bad 0
theorem fn_s38_t_im (l0:DS)(l1:DP)(l2:DP)(l3:DR)(l4:List (Ty.den TInp))(l5:List (Ty.den TOut)):Imp (fn_s38_t [.l TS l0,.l TPt l1,.l TPt l2,.l TRt l3,.l TInp l4,.l TOut l5]) (m2z [.l TS l0,.l TPt l1,.l TPt l2,.l TRt l3,.l TInp l4,.l TOut l5]):=
(.pa [1]
(.nd (fun h0=>
(.pa [1,1]
(.nd (fun h1=>
(.pa [1]
.lf)) (fun h1=>
(.nd (fun h2=>
(.pa [1]
.lf)) (fun h2=>
.none)))))) (fun h0=>
(.nd (fun h1=>
(.pa [1,1]
(.nd (fun h2=>
(.pa [1]
.lf)) (fun h2=>
(.nd (fun h3=>
(.pa [1]
.lf)) (fun h3=>
.none)))))) (fun h1=>
.none)))))
def w1q:FuncId→Option a0q:=a0s 38 Bs38 y1j
theorem b1u:CsOk Try.prog w1q:=a0g b1a Bs38_ok
def j1r (f:OpT):MBox:=mkM 0 [] [(sh 36 [(1,.imm TInp 0),(2,.imm TOut 1),(3,.ptr 0 0),(8,.int .i64 2)],[laB 3])] [] [(.exit 0,sh 36 [],[]),(.ret,sh 36 [(6,.int .i64 0),(7,.int .u8 1)],[])] f
def m0i (env:LDt):Tree Step:=Lk.stepMC false LK w1q 39 2 ls0 (j1r fun _=>none) env
def m1j:OpT:=Classical.choose (opq (a0b m0i FU))
theorem l1w (env:LDt):m1j env=a0b m0i FU env:=Classical.choose_spec (opq (a0b m0i FU)) env
def a2l:MBox:=j1r m1j
theorem e2c:a2l=j1r (a0b m0i FU):=congrArg j1r (funext l1w)
theorem a2z: ∀t s x,(a0h a2l t s).sel=some x→a0k Try.prog 0 (.loop (cAt Try.prog 39 2)) t s x:=by
 rw[e2c]
 exact a0o (st:=m0i) (m:=FU) b1u hmix false (LsOk.none _ _ _) (by kernel_rfl) (fun env y h=>by rw[←a0f];exact h)
def fn_Ls39_2_t:LDt→Tree Step
 |[.l (Ty.pair TU (Ty.pair (Ty.int IntKind.u32) (Ty.pair (Ty.int IntKind.u32) (Ty.sl (Ty.pair (Ty.int IntKind.u8) TI))))) l0,.l (Ty.pair TU (Ty.int IntKind.u32)) l1,.n n2,.l TS l3,.l TPt l4,.l TPt l5,.l TRt l6]=>
  (.node (decide (n2<(↑(List.length l0):Int)))
   (.node (decide (n2<(↑(List.length l1):Int)))
   (let r1:OD:=(p1q [.l TS l3,.l TPt l4,.l TPt l5,.l TRt l6,.n (Prod.fst (List.getD l0 (Int.toNat n2) (Ty.dflt TInp))),.n (Prod.fst (Prod.snd (List.getD l0 (Int.toNat n2) (Ty.dflt TInp)))),.n (Prod.fst (Prod.snd (Prod.snd (List.getD l0 (Int.toNat n2) (Ty.dflt TInp))))),.l TCmd (Prod.snd (Prod.snd (Prod.snd (List.getD l0 (Int.toNat n2) (Ty.dflt TInp))))),.n (Prod.fst (List.getD l1 (Int.toNat n2) (Ty.dflt TOut))),.n (Prod.snd (List.getD l1 (Int.toNat n2) (Ty.dflt TOut)))]);
    (.node (isK 0 [HK.n] r1)
    (.node (gn (dOf r1) 0 !=(0:Int))
     (.leaf (Step.stop 1 [.n n2,.n (gn (dOf r1) 0)]))
     (.leaf (Step.go [.k 0,.l TInp l0,.l TOut l1,.n (IntKind.wrap .i64 (n2+(1:Int))),.l TS l3,.l TPt l4,.l TPt l5,.l TRt l6])))
    (.bad 351)))
   (.leaf (Step.stop 0 [])))
   (.leaf (Step.stop 0 [])))
 |_=>.bad 0
theorem fn_Ls39_2_t_im (l0:List (Ty.den TInp))(l1:List (Ty.den TOut))(n2:Int)(l3:DS)(l4:DP)(l5:DP)(l6:DR)(g0:0≤n2):Imp (fn_Ls39_2_t [.l TInp l0,.l TOut l1,.n n2,.l TS l3,.l TPt l4,.l TPt l5,.l TRt l6]) (m0i [.k 0,.l TInp l0,.l TOut l1,.n n2,.l TS l3,.l TPt l4,.l TPt l5,.l TRt l6]):=
(.pa [1]
(.nd (fun h0=>
(.nd (fun h1=>
(.pq (c:=(inR n2 (List.length l0)))
(.pq (c:=(inR n2 (List.length l1)))
(.nd (fun h2=>
(.pa [1,1]
(.nd (fun h3=>
(.pa [1]
.lf)) (fun h3=>
(.pa [1]
.lf))))) (fun h2=>
.none))))) (fun h1=>
(.pa [1]
.lf)))) (fun h0=>
(.pa [0,0,1]
.lf))))
theorem l2g:LsOk Try.prog (z0) (lsM [(2,a2l)] (z0)) (a0r Try.prog 39):=LsOk.many fun j B hB hk c hc hi=>by
 simp only[b0d]at hB
 split at hB
 ·rename_i e;have:=Nat.eq_of_beq_eq_true e;subst this;cases hB
  rw[a0y (f:=39) (i:=2) (a0e (by kernel_rfl)) (a0d hc hi)];exact a2z
 cases hB
def o2n (env:LDt):TD:=Lk.boxC false LK w1q 39 (lsM [(2,a2l)] (z0)) (ks38 fun _=>none) env
def i2t:OpT:=Classical.choose (opq (fun env=>(o2n env).sel))
theorem l2u (env:LDt):i2t env=(o2n env).sel:=Classical.choose_spec (opq (fun env=>(o2n env).sel)) env
def Bs39:FBox:=ks38 i2t
theorem Bs39_ok:a0v Try.prog 39 (a0j Bs39):=a0p (op:=i2t) b1u hmix false (l2g) (fun env x h=>by rw[l2u]at h;rw[←a0i];exact h)
def fn_s39_t:LDt→TD
 |[.l TS l0,.l TPt l1,.l TPt l2,.l TRt l3,.l (Ty.pair TU (Ty.pair (Ty.int IntKind.u32) (Ty.pair (Ty.int IntKind.u32) (Ty.sl (Ty.pair (Ty.int IntKind.u8) TI))))) l4,.l (Ty.pair TU (Ty.int IntKind.u32)) l5]=>
  (let r1:OD:=(m1j [.k 0,.l TInp l4,.l TOut l5,.n (0:Int),.l TS l0,.l TPt l1,.l TPt l2,.l TRt l3]);
   (.node (isK 0 [] r1)
   (.leaf ((0,[.n (-1:Int),.n (0:Int)])))
   (.node (isK 1 [HK.n,HK.n] r1)
    (.leaf ((0,[.n (gn (dOf r1) 0),.n (gn (dOf r1) 1)])))
    (.bad 351))))
 |_=>.bad 0
theorem fn_s39_t_im (l0:DS)(l1:DP)(l2:DP)(l3:DR)(l4:List (Ty.den TInp))(l5:List (Ty.den TOut)):Imp (fn_s39_t [.l TS l0,.l TPt l1,.l TPt l2,.l TRt l3,.l TInp l4,.l TOut l5]) (o2n [.l TS l0,.l TPt l1,.l TPt l2,.l TRt l3,.l TInp l4,.l TOut l5]):=
(.nd (fun h0=>
(.pa [1]
.lf)) (fun h0=>
(.nd (fun h1=>
(.pa [1]
.lf)) (fun h1=>
.none))))
def cs_s39:FuncId→Option a0q:=a0s 39 Bs39 w1q
theorem l2f:CsOk Try.prog cs_s39:=a0g b1u Bs39_ok
def o2k (env:LDt):Tree Bool:=Lk.lawB false LK cs_s39 10 ls0 (instL [laV 0,ipV 4,ouV 8] env)
def u1h:LDt→Tree Bool
 |[.l TS l0,.l TPt l1,.l TPt l2,.l TRt l3,.n n4,.n n5,.n n6,.l (Ty.pair (Ty.int IntKind.u8) TI) l7,.n n8,.n n9]=>
  (let r1:OD:=(n2d [.l TS l0,.l TPt l1,.l TPt l2,.l TRt l3,.n (400:Int)]);
   (.node (isK 0 [HK.n] r1)
   (.node (decide (gn (dOf r1) 0>(400:Int)))
    (.leaf (true))
    (.node (decide ((↑(List.length l7):Int)>(100:Int)))
    (.leaf (true))
    (let r2:OD:=(o1w [.l TS l0,.l TPt l1,.l TPt l2,.l TRt l3,.n n4,.n n5,.n n6,.l TCmd l7,.n n8,.n n9]);
     (.node (isK 0 [HK.n] r2)
     (let r3:OD:=(p1q [.l TS l0,.l TPt l1,.l TPt l2,.l TRt l3,.n n4,.n n5,.n n6,.l TCmd l7,.n n8,.n n9]);
      (.node (isK 0 [HK.n] r3)
      (.node (gn (dOf r2) 0==gn (dOf r3) 0)
       (.leaf (true))
       (.leaf (false)))
      (.bad 351)))
     (.bad 351)))))
   (.bad 351)))
 |_=>.bad 0
theorem q1k (l0:DS)(l1:DP)(l2:DP)(l3:DR)(n4:Int)(n5:Int)(n6:Int)(l7:List (Ty.den TCmd))(n8:Int)(n9:Int):Imp (u1h [.l TS l0,.l TPt l1,.l TPt l2,.l TRt l3,.n n4,.n n5,.n n6,.l TCmd l7,.n n8,.n n9]) (o2k [.l TS l0,.l TPt l1,.l TPt l2,.l TRt l3,.n n4,.n n5,.n n6,.l TCmd l7,.n n8,.n n9]):=
(.nd (fun h0=>
(.pa [1]
(.nd (fun h1=>
(.pa [1,1,1,1,1,1,1,1]
.lf)) (fun h1=>
(.nd (fun h2=>
(.pa [1,1,1,1,1,1]
.lf)) (fun h2=>
(.nd (fun h3=>
(.pa [1]
(.nd (fun h4=>
(.pa [1]
(.nd (fun h5=>
(.pa [1,1,1,1]
.lf)) (fun h5=>
(.pa [0,1]
.lf))))) (fun h4=>
.none)))) (fun h3=>
.none)))))))) (fun h0=>
.none))
def ev_W11 (env:LDt):Tree Bool:=Lk.lawB false LK cs_s39 11 ls0 (instL [laV 0,.imm TInp 4,.imm TOut 5] env)
def fn_W11_t:LDt→Tree Bool
 |[.l TS l0,.l TPt l1,.l TPt l2,.l TRt l3,.l (Ty.pair TU (Ty.pair (Ty.int IntKind.u32) (Ty.pair (Ty.int IntKind.u32) (Ty.sl (Ty.pair (Ty.int IntKind.u8) TI))))) l4,.l (Ty.pair TU (Ty.int IntKind.u32)) l5]=>
  (let r1:OD:=(n2d [.l TS l0,.l TPt l1,.l TPt l2,.l TRt l3,.n (400:Int)]);
   (.node (isK 0 [HK.n] r1)
   (.node (decide (gn (dOf r1) 0>(400:Int)))
    (.leaf (true))
    (.node (decide ((↑(List.length l4):Int)>(60:Int)))
    (.leaf (true))
    (.node (decide ((↑(List.length l5):Int)>(60:Int)))
     (.leaf (true))
     (let r2:OD:=(h2o [.l TS l0,.l TPt l1,.l TPt l2,.l TRt l3,.l TInp l4,.l TOut l5]);
     (.node (isK 0 [HK.n,HK.n] r2)
      (let r3:OD:=(i2t [.l TS l0,.l TPt l1,.l TPt l2,.l TRt l3,.l TInp l4,.l TOut l5]);
      (.node (isK 0 [HK.n,HK.n] r3)
       (.node (gn (dOf r2) 0==gn (dOf r3) 0)
       (.node (gn (dOf r2) 1==gn (dOf r3) 1)
        (.leaf (true))
        (.leaf (false)))
       (.leaf (false)))
       (.bad 351)))
      (.bad 351))))))
   (.bad 351)))
 |_=>.bad 0
theorem fn_W11_t_im (l0:DS)(l1:DP)(l2:DP)(l3:DR)(l4:List (Ty.den TInp))(l5:List (Ty.den TOut)):Imp (fn_W11_t [.l TS l0,.l TPt l1,.l TPt l2,.l TRt l3,.l TInp l4,.l TOut l5]) (ev_W11 [.l TS l0,.l TPt l1,.l TPt l2,.l TRt l3,.l TInp l4,.l TOut l5]):=
(.nd (fun h0=>
(.pa [1]
(.nd (fun h1=>
(.pa [1,1,1,1,1,1,1]
.lf)) (fun h1=>
(.nd (fun h2=>
(.pa [1,1,1,1,1]
.lf)) (fun h2=>
(.nd (fun h3=>
(.pa [1,1,1]
.lf)) (fun h3=>
(.nd (fun h4=>
(.pa [1]
(.nd (fun h5=>
(.pa [1]
(.nd (fun h6=>
(.nd (fun h7=>
(.pa [1,1,1]
.lf)) (fun h7=>
(.pa [0]
.lf)))) (fun h6=>
(.pa [0,0,0]
.lf))))) (fun h5=>
.none)))) (fun h4=>
.none)))))))))) (fun h0=>
.none))
def p2 (k:Nat):B64:=1#64<<<k
def inN (n:Int):Bool:=decide (0≤n)&&decide (n<64)
def hasB (X:B64)(n:Int):Bool:=inN n&&X.getLsbD n.toNat
def s1o (X:B64)(n:Int):B64:=bif inN n then X|||p2 n.toNat else X
theorem h2g (k i:Nat):(p2 k).getLsbD i=(decide (i<64)&&decide (i=k)):=by
 unfold p2
 rw[BitVec.getLsbD_shiftLeft]
 by_cases h:i=k
 ·subst h;simp
 ·by_cases h2:i<k
  ·simp[h,h2]
  ·have:i-k≠0:=by omega
   simp[h,h2,this]
theorem j2e {k:Nat}(h:k<64):(p2 k).toNat=2^k:=by
 unfold p2
 rw[BitVec.toNat_shiftLeft,Nat.shiftLeft_eq]
 have:2^k<2^64:=Nat.pow_lt_pow_right (by omega) h
 rw[show(1#64).toNat=1 from rfl,Nat.one_mul,Nat.mod_eq_of_lt this]
theorem getN (X:B64)(k:Nat):X.getLsbD k=decide (X.toNat/2^k%2=1):=by
 rw[←BitVec.testBit_toNat,Nat.testBit_eq_decide_div_mod_eq]
theorem r2c {X:B64}{k:Nat}(hk:k<64)(h:X.getLsbD k=false):X+p2 k=X|||p2 k:=by
 apply BitVec.add_eq_or_of_and_eq_zero
 apply BitVec.eq_of_getLsbD_eq
 intro i hi
 rw[BitVec.getLsbD_and,h2g]
 by_cases e:i=k
 ·subst e;simp[h]
 ·simp[e]
theorem N_add (X Y:B64):IntKind.wrap .u64 (N X+N Y)=N (X+Y):=by
 rw[k2v]
 refine congrArg N ?_
 apply BitVec.eq_of_toNat_eq
 rw[BitVec.toNat_ofInt,BitVec.toNat_add]
 unfold N
 omega
theorem w64x {x:Int}(h0: -9223372036854775808≤x)(h1:x<9223372036854775808):IntKind.wrap .i64 x=x:=by unfold IntKind.wrap;simp[IntKind.bits,IntKind.signed];omega
theorem wu64' {x:Int}(h0:0≤x)(h1:x<18446744073709551616):IntKind.wrap .u64 x=x:=by unfold IntKind.wrap;simp[IntKind.bits,IntKind.signed];omega
theorem q_pw (k:Nat)(hk:k<64):f1y [.n (k:Int)]=some (0,[.n (N (p2 k))]):=by
 have hl:s0g [.k 0,.n (k:Int),.n (1:Int),.n (0:Int)]=some (0,[.n (N (p2 k))]):=by
  rw[x0l]
  refine b0a (fun i=>[.k 0,.n (k:Int),.n (N (p2 i)),.n (i:Int)]) k (0,[.n (N (p2 k))]) (fun i hi=> ?_) ?_ FU (b1w (by omega))
  ·refine o0w _ _ _ _ ?_
   unfold q0p
   refine a0a (by simpa using hi) ?_
   have e1:IntKind.wrap .u64 (N (p2 i)*(2:Int))=N (p2 (i+1)):=by
    unfold N
    rw[j2e (by omega),j2e (by omega),Nat.pow_succ]
    have:2^(i+1)≤2^63:=Nat.pow_le_pow_right (by omega) (by omega)
    rw[Nat.pow_succ]at this
    rw[wu64' (by omega) (by omega)];omega
   rw[e1,w64x (by omega) (by omega)]
   rfl
  ·refine o0w _ _ _ _ ?_
   unfold q0p
   exact a0c (by simp) rfl
 rw[p1d]
 refine s1q _ _ ?_
 unfold a2d
 dsimp only
 rw[hl];rfl
theorem q_e11 (X:B64)(n:Int):a1u [.n (N X),.n n]=some (0,[.b (hasB X n)]):=by
 rw[n1r]
 refine q1v _ _ _ ?_
 unfold u1o hasB inN
 by_cases h0:0≤n
 ·by_cases h1:n<64
  ·obtain⟨k,rfl⟩: ∃k:Nat,n=k:=⟨n.toNat,by omega⟩
   refine a0a (by simp) (a0a (by simp;omega) ?_)
   rw[q_pw k (by omega)]
   have hp:N (p2 k)=((2^k:Nat):Int):=by unfold N;rw[j2e (by omega)]
   have hpos:0<2^k:=Nat.pow_pos (by omega)
   refine a0a rfl (a0a ?_ ?_)
   ·show(!decide (N (p2 k)=0))=true
    have hne:((2^k:Nat):Int)≠0:=by have:=Nat.pos_iff_ne_zero.1 hpos;exact_mod_cast this
    rw[hp,decide_eq_false hne];rfl
   ·show some (0,[Dat.b (Int.tmod (IntKind.wrap .u64 (Int.tdiv (N X) (N (p2 k)))) (2:Int)==(1:Int))])=_
    rw[hp]
    have e1:Int.tdiv (N X) ((2^k:Nat):Int)=((X.toNat/2^k:Nat):Int):=by unfold N;rfl
    have hlt:X.toNat/2^k<2^64:=Nat.lt_of_le_of_lt (Nat.div_le_self _ _) X.isLt
    rw[e1,wu64' (Int.natCast_nonneg _) (Int.ofNat_lt.2 (Nat.lt_of_lt_of_le hlt (by decide)))]
    have e2:Int.tmod ((X.toNat/2^k:Nat):Int) 2=((X.toNat/2^k%2:Nat):Int):=rfl
    rw[e2,getN]
    simp only[Option.some.injEq,Prod.mk.injEq,List.cons.injEq,and_true,true_and,Dat.b.injEq]
    rw[show decide (0≤(k:Int))=true by simp,show decide ((k:Int)<64)=true by simpa using h1,Bool.true_and,Bool.true_and,Bool.eq_iff_iff,beq_iff_eq,decide_eq_true_eq]
    simp only[Int.toNat_natCast]
    omega
  ·refine a0a (by simpa using h0) (a0c (by simp;omega) ?_)
   simp[Tree.sel,h1]
 ·refine a0c (by simpa using h0) ?_
  simp[Tree.sel,h0]
theorem q_e13 (X:B64)(n:Int):o1n [.n (N X),.n n]=some (0,[.n (N (s1o X n))]):=by
 rw[o1e]
 refine s1l _ _ _ ?_
 unfold t1s
 by_cases h0:0≤n
 ·by_cases h1:n<64
  ·have hi:inN n=true:=by simp[inN,h0,h1]
   refine a0c (by simpa using h0) (a0c (by simp;omega) ?_)
   rw[q_e11]
   refine a0a rfl ?_
   cases hb:hasB X n with
   |true=>
    refine a0a rfl ?_
    have hg:X.getLsbD n.toNat=true:=by unfold hasB at hb;rw[hi]at hb;simpa using hb
    have:X|||p2 n.toNat=X:=by
     apply BitVec.eq_of_getLsbD_eq
     intro i hlt
     rw[BitVec.getLsbD_or,h2g]
     by_cases e:i=n.toNat
     ·subst e;simp[hg]
     ·simp[e]
    simp only[Tree.sel,s1o,hi,cond_true,this]
   |false=>
    refine a0c rfl ?_
    have hg:X.getLsbD n.toNat=false:=by unfold hasB at hb;rw[hi]at hb;simpa using hb
    obtain⟨k,rfl⟩: ∃k:Nat,n=k:=⟨n.toNat,by omega⟩
    rw[q_pw k (by omega)]
    refine a0a rfl ?_
    show some (0,[Dat.n (IntKind.wrap .u64 (N X+N (p2 k)))])=_
    rw[Int.toNat_natCast]at hg
    rw[N_add,r2c (by omega) hg]
    simp only[s1o,hi,cond_true,Int.toNat_natCast]
  ·refine a0c (by simpa using h0) (a0a (by simp;omega) ?_)
   simp[Tree.sel,s1o,inN,h1]
 ·refine a0a (by simp;omega) ?_
  simp[Tree.sel,s1o,inN,h0]
def firB (k:Nat):B64:=BitVec.ofNat 64 (2^k-1)
theorem t2j {k:Nat}(h:k≤64):(firB k).toNat=2^k-1:=by
 unfold firB
 rw[BitVec.toNat_ofNat]
 have:2^k≤2^64:=Nat.pow_le_pow_right (by omega) h
 exact Nat.mod_eq_of_lt (by omega)
theorem y0i {k:Nat}(h:k≤64)(i:Nat):(firB k).getLsbD i=decide (i<k):=by
 rw[←BitVec.testBit_toNat,t2j h,Nat.testBit_two_pow_sub_one]
theorem j2a {k:Nat}(h:k<64):s1o (firB k) (k:Int)=firB (k+1):=by
 unfold s1o
 have:inN (k:Int)=true:=by simp[inN];omega
 rw[this,cond_true,Int.toNat_natCast]
 apply BitVec.eq_of_getLsbD_eq
 intro i hi
 rw[BitVec.getLsbD_or,h2g,y0i (by omega),y0i (by omega)]
 by_cases e:i=k
 ·subst e;simp[hi]
 ·have:decide (i<k)=decide (i<k+1):=by rw[Bool.eq_iff_iff];simp;omega
  simp[e,this]
theorem q_e27 (n:Int):g1d [.n n]=some (0,[.n (N (firB (min n.toNat 64)))]):=by
 have h1:q0y [.k 0,.n n,.n (0:Int),.n (0:Int)]=some (0,[.n (N (firB (min n.toNat 64)))]):=by
  rw[w0o]
  refine b0a (fun i=>[.k 0,.n n,.n (N (firB i)),.n (i:Int)]) (min n.toNat 64) (0,[.n (N (firB (min n.toNat 64)))]) (fun i hi=> ?_) ?_ FU (b1w (by omega))
  ·refine p0o _ _ _ _ ?_
   unfold q0c
   refine a0a (decide_eq_true (show(i:Int)<n by omega)) (a0a (decide_eq_true (show(i:Int)<64 by omega)) ?_)
   dsimp only
   rw[q_e13]
   refine a0a rfl ?_
   rw[w64x (by omega) (by omega),j2a (by omega)];rfl
  ·refine p0o _ _ _ _ ?_
   unfold q0c
   by_cases h:((min n.toNat 64:Nat):Int)<n
   ·exact a0a (decide_eq_true h) (a0c (decide_eq_false (by omega)) rfl)
   ·exact a0c (decide_eq_false h) rfl
 rw[m1l]
 refine r1s _ _ ?_
 unfold y1k
 dsimp only
 rw[h1]
 exact a0a rfl rfl
theorem l2k {x:Int}(h:0≤x):(!decide (x<0))=true:=by rw[df (Int.not_lt.2 h)];rfl
def bitU (x n:Int):Bool:=iand IntKind.u64 (ishr IntKind.u64 x n) (1:Int)==(1:Int)
def zerU (x n:Int):Bool:=iand IntKind.u32 (ishr IntKind.u32 x n) (1:Int)==(0:Int)
def undT (rv nm:Int)(d:Ty.den TNd):Bool:=bif g2 d then zerU rv (f1 d)else zerU nm (f1 d)
def turT (pt:Int)(d:Ty.den TNd):Bool:= !((iand IntKind.u32 (ishr IntKind.u32 pt (f1 d)) (1:Int)==(1:Int))==g2 d)
def b0n (r:LR)(pr:Int)(ask:Nat→Bool):Bool:=(List.range' 0 r.length).any fun i=>bitU pr (i:Int)&&ask i
def clsA (T:List Int)(pr:Int)(i:Nat):Bool:=iand IntKind.u64 (T.getD i 0) pr !=(0:Int)
def occA (r:LR)(oc:Int)(i:Nat):Bool:=(eP (r.getD i (Ty.dflt TRt))).any (bitU oc)||(eO (r.getD i (Ty.dflt TRt))).any (bitU oc)
def undA (r:LR)(rv nm:Int)(i:Nat):Bool:=(eQ (r.getD i (Ty.dflt TRt))).any (undT rv nm)||(eF (r.getD i (Ty.dflt TRt))).any (undT rv nm)
def turA (r:LR)(pt:Int)(i:Nat):Bool:=(eQ (r.getD i (Ty.dflt TRt))).any (turT pt)||(eF (r.getD i (Ty.dflt TRt))).any (turT pt)
theorem b1r {a:LS}{b c:LP}{r:LR}(h:mayL a b c r=true): ∀i,i<r.length→(∀x∈eP (r.getD i (Ty.dflt TRt)),0≤x)∧(∀x∈eO (r.getD i (Ty.dflt TRt)),0≤x):=by
 unfold mayL at h
 rw[Bool.and_eq_true]at h
 have h:=h.2
 simp only[Bool.and_eq_true]at h
 obtain⟨h5,h6,h7,h8⟩:=h
 intro i hi
 have k:=List.all_eq_true.1 h7 i (List.mem_range'_1.2 (by omega))
 unfold okR mayR at k
 simp only[Bool.and_eq_true,decide_eq_true_eq]at k
 obtain⟨k1,k2,k3,k4,k5,k6⟩:=k
 exact⟨fun x hx=>((n2h k3).2 x hx).1,fun x hx=>((n2h k5).2 x hx).1⟩
theorem o139c (l:List (Ty.den TI))(oc nm rv:Int)(cm:List (Ty.den TCmd))(hl:l.length≤100000)(hp: ∀x∈l,(0:Int)≤x): ∃z,v0h [.l TI l,.n oc,.n nm,.n rv,.l TCmd cm]=some (0,[.n z])∧decide (z≥0)=l.any (bitU oc):=by
 have key: ∀i,i<l.length→(d0e [.k 0,.l TI l,.n (l.length:Int),.n (i:Int),.n oc,.n nm,.n rv,.l TCmd cm]).sel=some (bif bitU oc (l.getD i (0:Int))then .stop 1 [.n (i:Int)]else .go [.k 0,.l TI l,.n (l.length:Int),.n ((i+1:Nat):Int),.n oc,.n nm,.n rv,.l TCmd cm]):=by
  intro i hi
  have hq:=hp _ (h0f (d:=(0:Int)) hi)
  refine m0p _ _ _ _ _ _ _ (by omega) rfl _ ?_
  unfold m0c
  refine a0a (dt (show(i:Int)<(l.length:Int) by omega)) ?_
  refine a0a (l2k hq) ?_
  cases h:bitU oc (l.getD i (0:Int))with
  |true=>exact a0a h rfl
  |false=>refine a0c h ?_;rw[w1n i (by omega)];rfl
 have stop:(d0e [.k 0,.l TI l,.n (l.length:Int),.n (l.length:Int),.n oc,.n nm,.n rv,.l TCmd cm]).sel=some (.stop 0 []):=by
  refine m0p _ _ _ _ _ _ _ (by omega) rfl _ ?_
  unfold m0c
  exact a0c (df (show¬(l.length:Int)<(l.length:Int) by omega)) rfl
 have e:=f0f (st:=d0e) (fun i=>[.k 0,.l TI l,.n (l.length:Int),.n (i:Int),.n oc,.n nm,.n rv,.l TCmd cm]) l.length (fun i=>bitU oc (l.getD i (0:Int))) (fun k=>(1,[.n (k:Int)])) (0,[]) (fun i hi h=>by have:=key i hi;rw[h]at this;exact this) (fun i hi h=>by have:=key i hi;rw[h]at this;exact this) stop FU (by unfold FU;omega)
 rw[←s0t]at e
 have ha:=c0g l (0:Int) (bitU oc)
 rw[g1g]
 cases hf:b0i (fun i=>bitU oc (l.getD i (0:Int))) l.length with
 |none=>
  rw[hf]at e
  refine⟨-1,?_,?_⟩
  ·refine w0g _ _ _ _ _ _ ?_
   unfold b1v
   dsimp only
   erw[e];exact a0a rfl rfl
  ·rw[←ha]
   refine(?_:_=false).symm
   rw[List.any_eq_false]
   intro i hi
   rw[List.mem_range'_1]at hi
   rw[b0r hf i (by omega)];simp
 |some k=>
  rw[hf]at e
  obtain⟨g1,g2',_⟩:=b0x hf
  refine⟨(k:Int),?_,?_⟩
  ·refine w0g _ _ _ _ _ _ ?_
   unfold b1v
   dsimp only
   erw[e];exact a0c rfl (a0a rfl rfl)
  ·rw[←ha,dt (show(k:Int)≥0 by omega)]
   exact(List.any_eq_true.2 ⟨k,List.mem_range'_1.2 (by omega),g2'⟩).symm
theorem o145a (l:List (Ty.den TNd))(rv nm:Int)(hl:l.length≤100000)(hp: ∀d∈l,0≤f1 d): ∃z,o0l [.l TNd l,.n rv,.n nm]=some (0,[.n z])∧decide (z≥0)=l.any (undT rv nm):=by
 have key: ∀i,i<l.length→(c0n [.k 0,.l TNd l,.n (l.length:Int),.n (i:Int),.n rv,.n nm]).sel=some (bif undT rv nm (l.getD i (Ty.dflt TNd))then .stop 1 [.n (i:Int)]else .go [.k 0,.l TNd l,.n (l.length:Int),.n ((i+1:Nat):Int),.n rv,.n nm]):=by
  intro i hi
  have hq:=hp _ (h0f (d:=(Ty.dflt TNd)) hi)
  refine l0p _ _ _ _ _ (by omega) rfl _ ?_
  unfold k0o
  refine a0a (dt (show(i:Int)<(l.length:Int) by omega)) ?_
  cases hg:g2 (l.getD i (Ty.dflt TNd))with
  |true=>
   have hu:undT rv nm (l.getD i (Ty.dflt TNd))=zerU rv (f1 (l.getD i (Ty.dflt TNd))):=by unfold undT;rw[hg];rfl
   rw[hu]
   refine a0a hg (a0a (show(!decide (f1 (l.getD i (Ty.dflt TNd))<0))=true by rw[df (by omega)];rfl) ?_)
   cases h:zerU rv (f1 (l.getD i (Ty.dflt TNd)))with
   |true=>exact a0a h rfl
   |false=>refine a0c h ?_;rw[w1n i (by omega)];rfl
  |false=>
   have hu:undT rv nm (l.getD i (Ty.dflt TNd))=zerU nm (f1 (l.getD i (Ty.dflt TNd))):=by unfold undT;rw[hg];rfl
   rw[hu]
   refine a0c hg (a0a (show(!decide (f1 (l.getD i (Ty.dflt TNd))<0))=true by rw[df (by omega)];rfl) ?_)
   cases h:zerU nm (f1 (l.getD i (Ty.dflt TNd)))with
   |true=>exact a0a h rfl
   |false=>refine a0c h ?_;rw[w1n i (by omega)];rfl
 have stop:(c0n [.k 0,.l TNd l,.n (l.length:Int),.n (l.length:Int),.n rv,.n nm]).sel=some (.stop 0 []):=by
  refine l0p _ _ _ _ _ (by omega) rfl _ ?_
  unfold k0o
  exact a0c (df (show¬(l.length:Int)<(l.length:Int) by omega)) rfl
 have e:=f0f (st:=c0n) (fun i=>[.k 0,.l TNd l,.n (l.length:Int),.n (i:Int),.n rv,.n nm]) l.length (fun i=>undT rv nm (l.getD i (Ty.dflt TNd))) (fun k=>(1,[.n (k:Int)])) (0,[]) (fun i hi h=>by have:=key i hi;rw[h]at this;exact this) (fun i hi h=>by have:=key i hi;rw[h]at this;exact this) stop FU (by unfold FU;omega)
 rw[←p0n]at e
 have ha:=c0g l (Ty.dflt TNd) (undT rv nm)
 rw[a1w]
 cases hf:b0i (fun i=>undT rv nm (l.getD i (Ty.dflt TNd))) l.length with
 |none=>
  rw[hf]at e
  refine⟨-1,?_,?_⟩
  ·refine t0o _ _ _ _ ?_
   unfold v0s
   dsimp only
   erw[e];exact a0a rfl rfl
  ·rw[←ha]
   refine(?_:_=false).symm
   rw[List.any_eq_false]
   intro i hi
   rw[List.mem_range'_1]at hi
   rw[b0r hf i (by omega)];simp
 |some k=>
  rw[hf]at e
  obtain⟨g1,g2',_⟩:=b0x hf
  refine⟨(k:Int),?_,?_⟩
  ·refine t0o _ _ _ _ ?_
   unfold v0s
   dsimp only
   erw[e];exact a0c rfl (a0a rfl rfl)
  ·rw[←ha,dt (show(k:Int)≥0 by omega)]
   exact(List.any_eq_true.2 ⟨k,List.mem_range'_1.2 (by omega),g2'⟩).symm
theorem o145b (l:List (Ty.den TNd))(pr pt:Int)(hl:l.length≤100000)(hp: ∀d∈l,0≤f1 d): ∃z,o0j [.l TNd l,.n pr,.n pt]=some (0,[.n z])∧decide (z≥0)=l.any (turT pt):=by
 have key: ∀i,i<l.length→(c0o [.k 0,.l TNd l,.n (l.length:Int),.n (i:Int),.n pr,.n pt]).sel=some (bif turT pt (l.getD i (Ty.dflt TNd))then .stop 1 [.n (i:Int)]else .go [.k 0,.l TNd l,.n (l.length:Int),.n ((i+1:Nat):Int),.n pr,.n pt]):=by
  intro i hi
  have hq:=hp _ (h0f (d:=(Ty.dflt TNd)) hi)
  refine l0v _ _ _ _ _ (by omega) rfl _ ?_
  unfold l0a
  refine a0a (dt (show(i:Int)<(l.length:Int) by omega)) ?_
  refine a0a (show(!decide (f1 (l.getD i (Ty.dflt TNd))<0))=true by rw[df (by omega)];rfl) ?_
  cases h:turT pt (l.getD i (Ty.dflt TNd))with
  |true=>exact a0a h rfl
  |false=>refine a0c h ?_;rw[w1n i (by omega)];rfl
 have stop:(c0o [.k 0,.l TNd l,.n (l.length:Int),.n (l.length:Int),.n pr,.n pt]).sel=some (.stop 0 []):=by
  refine l0v _ _ _ _ _ (by omega) rfl _ ?_
  unfold l0a
  exact a0c (df (show¬(l.length:Int)<(l.length:Int) by omega)) rfl
 have e:=f0f (st:=c0o) (fun i=>[.k 0,.l TNd l,.n (l.length:Int),.n (i:Int),.n pr,.n pt]) l.length (fun i=>turT pt (l.getD i (Ty.dflt TNd))) (fun k=>(1,[.n (k:Int)])) (0,[]) (fun i hi h=>by have:=key i hi;rw[h]at this;exact this) (fun i hi h=>by have:=key i hi;rw[h]at this;exact this) stop FU (by unfold FU;omega)
 rw[←o0t]at e
 have ha:=c0g l (Ty.dflt TNd) (turT pt)
 rw[b1e]
 cases hf:b0i (fun i=>turT pt (l.getD i (Ty.dflt TNd))) l.length with
 |none=>
  rw[hf]at e
  refine⟨-1,?_,?_⟩
  ·refine t0x _ _ _ _ ?_
   unfold u0r
   dsimp only
   erw[e];exact a0a rfl rfl
  ·rw[←ha]
   refine(?_:_=false).symm
   rw[List.any_eq_false]
   intro i hi
   rw[List.mem_range'_1]at hi
   rw[b0r hf i (by omega)];simp
 |some k=>
  rw[hf]at e
  obtain⟨g1,g2',_⟩:=b0x hf
  refine⟨(k:Int),?_,?_⟩
  ·refine t0x _ _ _ _ ?_
   unfold u0r
   dsimp only
   erw[e];exact a0c rfl (a0a rfl rfl)
  ·rw[←ha,dt (show(k:Int)≥0 by omega)]
   exact(List.any_eq_true.2 ⟨k,List.mem_range'_1.2 (by omega),g2'⟩).symm
theorem os103a (a:LS)(b c:LP)(r:LR)(T:List Int)(e:Int)(pr pt:Int)(hm:mayL a b c r=true)(hT:T.length=r.length):s0e [.l TS a,.l TPt b,.l TPt c,.l TRt r,.l TU T,.n e,.n pr,.n pt,.l TS a,.l TPt b,.l TPt c,.l TRt r,.l TU T,.n e,.n pr,.n pt]=some (0,[.b (b0n r pr (clsA T pr))]):=by
 obtain⟨lb,lr,hr⟩:=l0q hm
 have hsec:=b1r hm
 have key: ∀i,i<r.length→(c0i [.k 0,.n (r.length:Int),.n (i:Int),.l TS a,.l TPt b,.l TPt c,.l TRt r,.l TU T,.n e,.n pr,.n pt,.l TS a,.l TPt b,.l TPt c,.l TRt r,.l TU T,.n e,.n pr,.n pt]).sel=some (bif bitU pr (i:Int)&&(clsA T pr) i then .stop 1 [.b true]else .go [.k 0,.n (r.length:Int),.n ((i+1:Nat):Int),.l TS a,.l TPt b,.l TPt c,.l TRt r,.l TU T,.n e,.n pr,.n pt,.l TS a,.l TPt b,.l TPt c,.l TRt r,.l TU T,.n e,.n pr,.n pt]):=by
  intro i hi
  obtain⟨_,⟨p1,p2,p3,p4⟩,p5,p6⟩:=hr i hi
  obtain⟨s1,s2⟩:=hsec i hi
  refine l0t _ _ _ _ _ _ _ _ _ _ (by omega) rfl (congrArg Int.ofNat hT) _ ?_
  unfold k0x
  refine a0a (dt (show(i:Int)<(r.length:Int) by omega)) ?_
  cases h1:bitU pr (i:Int)with
  |false=>refine a0c h1 ?_;rw[w1n i (by omega)];rfl
  |true=>
   refine a0a h1 ?_
   rw[Bool.true_and]
   show _=some (bif (iand IntKind.u64 (T.getD i 0) pr !=(0:Int))then _ else _)
   cases h2:(iand IntKind.u64 (T.getD i 0) pr !=(0:Int))with
   |true=>exact a0a h2 rfl
   |false=>refine a0c h2 ?_;rw[w1n i (by omega)];rfl
 have stop:(c0i [.k 0,.n (r.length:Int),.n (r.length:Int),.l TS a,.l TPt b,.l TPt c,.l TRt r,.l TU T,.n e,.n pr,.n pt,.l TS a,.l TPt b,.l TPt c,.l TRt r,.l TU T,.n e,.n pr,.n pt]).sel=some (.stop 0 []):=by
  refine l0t _ _ _ _ _ _ _ _ _ _ (by omega) rfl (congrArg Int.ofNat hT) _ ?_
  unfold k0x
  exact a0c (df (show¬(r.length:Int)<(r.length:Int) by omega)) rfl
 have ee:k0y [.k 0,.n (r.length:Int),.n (0:Int),.l TS a,.l TPt b,.l TPt c,.l TRt r,.l TU T,.n e,.n pr,.n pt,.l TS a,.l TPt b,.l TPt c,.l TRt r,.l TU T,.n e,.n pr,.n pt]=some (bif b0n r pr (clsA T pr)then(1,[.b true])else(0,[])):=by
  unfold b0n
  rw[o0v]
  exact a0x (st:=c0i) (fun i=>[.k 0,.n (r.length:Int),.n (i:Int),.l TS a,.l TPt b,.l TPt c,.l TRt r,.l TU T,.n e,.n pr,.n pt,.l TS a,.l TPt b,.l TPt c,.l TRt r,.l TU T,.n e,.n pr,.n pt]) r.length (fun i=>bitU pr (i:Int)&&(clsA T pr) i) (1,[.b true]) (0,[]) (fun i hi h=>by have:=key i hi;rw[h]at this;exact this) (fun i hi h=>by have:=key i hi;rw[h]at this;exact this) stop FU (by unfold FU;omega)
 rw[b1g]
 refine i1a _ _ _ _ _ _ _ _ _ ?_
 unfold f1p
 dsimp only
 erw[ee]
 cases b0n r pr (clsA T pr)with
 |true=>exact a0c rfl (a0a rfl rfl)
 |false=>exact a0a rfl rfl
theorem os103b (a:LS)(b c:LP)(r:LR)(T:List Int)(e:Int)(pr pt:Int)(oc nm rv:Int)(cm:List (Ty.den TCmd))(hm:mayL a b c r=true)(hT:T.length=r.length):t0d [.l TS a,.l TPt b,.l TPt c,.l TRt r,.l TU T,.n e,.n pr,.n pt,.l TS a,.l TPt b,.l TPt c,.l TRt r,.l TU T,.n e,.n oc,.n nm,.n rv,.l TCmd cm]=some (0,[.b (b0n r pr (occA r oc))]):=by
 obtain⟨lb,lr,hr⟩:=l0q hm
 have hsec:=b1r hm
 have key: ∀i,i<r.length→(c0j [.k 0,.n (r.length:Int),.n (i:Int),.l TS a,.l TPt b,.l TPt c,.l TRt r,.l TU T,.n e,.n oc,.n nm,.n rv,.l TCmd cm,.l TS a,.l TPt b,.l TPt c,.l TRt r,.l TU T,.n e,.n pr,.n pt]).sel=some (bif bitU pr (i:Int)&&(occA r oc) i then .stop 1 [.b true]else .go [.k 0,.n (r.length:Int),.n ((i+1:Nat):Int),.l TS a,.l TPt b,.l TPt c,.l TRt r,.l TU T,.n e,.n oc,.n nm,.n rv,.l TCmd cm,.l TS a,.l TPt b,.l TPt c,.l TRt r,.l TU T,.n e,.n pr,.n pt]):=by
  intro i hi
  obtain⟨_,⟨p1,p2,p3,p4⟩,p5,p6⟩:=hr i hi
  obtain⟨s1,s2⟩:=hsec i hi
  refine l0s _ _ _ _ _ _ _ _ _ _ _ _ _ _ (by omega) rfl (congrArg Int.ofNat hT) _ ?_
  unfold j0q
  refine a0a (dt (show(i:Int)<(r.length:Int) by omega)) ?_
  cases h1:bitU pr (i:Int)with
  |false=>refine a0c h1 ?_;rw[w1n i (by omega)];rfl
  |true=>
   refine a0a h1 ?_
   rw[Bool.true_and]
   obtain⟨z1,e1,d1⟩:=o139c (eP (r.getD i (Ty.dflt TRt))) oc nm rv cm (Nat.le_trans p1 (by decide)) s1
   obtain⟨z2,e2,d2⟩:=o139c (eO (r.getD i (Ty.dflt TRt))) oc nm rv cm (Nat.le_trans p3 (by decide)) s2
   have d1:decide (z1≥0)=(eP (r.getD i (Ty.dflt TRt))).any (bitU oc):=d1
   have d2:decide (z2≥0)=(eO (r.getD i (Ty.dflt TRt))).any (bitU oc):=d2
   show _=some (bif ((eP (r.getD i (Ty.dflt TRt))).any (bitU oc)||(eO (r.getD i (Ty.dflt TRt))).any (bitU oc))then _ else _)
   rw[←d1,←d2]
   dsimp only
   erw[e1];refine a0a rfl ?_
   cases hz1:decide (z1≥0)with
   |true=>exact a0a hz1 rfl
   |false=>
    refine a0c hz1 ?_
    erw[e2];refine a0a rfl ?_
    cases hz2:decide (z2≥0)with
    |true=>exact a0a hz2 rfl
    |false=>refine a0c hz2 ?_;rw[w1n i (by omega)];rfl
 have stop:(c0j [.k 0,.n (r.length:Int),.n (r.length:Int),.l TS a,.l TPt b,.l TPt c,.l TRt r,.l TU T,.n e,.n oc,.n nm,.n rv,.l TCmd cm,.l TS a,.l TPt b,.l TPt c,.l TRt r,.l TU T,.n e,.n pr,.n pt]).sel=some (.stop 0 []):=by
  refine l0s _ _ _ _ _ _ _ _ _ _ _ _ _ _ (by omega) rfl (congrArg Int.ofNat hT) _ ?_
  unfold j0q
  exact a0c (df (show¬(r.length:Int)<(r.length:Int) by omega)) rfl
 have ee:k0h [.k 0,.n (r.length:Int),.n (0:Int),.l TS a,.l TPt b,.l TPt c,.l TRt r,.l TU T,.n e,.n oc,.n nm,.n rv,.l TCmd cm,.l TS a,.l TPt b,.l TPt c,.l TRt r,.l TU T,.n e,.n pr,.n pt]=some (bif b0n r pr (occA r oc)then(1,[.b true])else(0,[])):=by
  unfold b0n
  rw[p0v]
  exact a0x (st:=c0j) (fun i=>[.k 0,.n (r.length:Int),.n (i:Int),.l TS a,.l TPt b,.l TPt c,.l TRt r,.l TU T,.n e,.n oc,.n nm,.n rv,.l TCmd cm,.l TS a,.l TPt b,.l TPt c,.l TRt r,.l TU T,.n e,.n pr,.n pt]) r.length (fun i=>bitU pr (i:Int)&&(occA r oc) i) (1,[.b true]) (0,[]) (fun i hi h=>by have:=key i hi;rw[h]at this;exact this) (fun i hi h=>by have:=key i hi;rw[h]at this;exact this) stop FU (by unfold FU;omega)
 rw[b1t]
 refine h1u _ _ _ _ _ _ _ _ _ _ _ _ _ ?_
 unfold f1g
 dsimp only
 erw[ee]
 cases b0n r pr (occA r oc)with
 |true=>exact a0c rfl (a0a rfl rfl)
 |false=>exact a0a rfl rfl
theorem os103c (a:LS)(b c:LP)(r:LR)(T:List Int)(e:Int)(pr pt:Int)(rv nm:Int)(hm:mayL a b c r=true)(hT:T.length=r.length):s0l [.l TS a,.l TPt b,.l TPt c,.l TRt r,.l TU T,.n e,.n pr,.n pt,.l TS a,.l TPt b,.l TPt c,.l TRt r,.l TU T,.n e,.n rv,.n nm]=some (0,[.b (b0n r pr (undA r rv nm))]):=by
 obtain⟨lb,lr,hr⟩:=l0q hm
 have hsec:=b1r hm
 have key: ∀i,i<r.length→(c0m [.k 0,.n (r.length:Int),.n (i:Int),.l TS a,.l TPt b,.l TPt c,.l TRt r,.l TU T,.n e,.n rv,.n nm,.l TS a,.l TPt b,.l TPt c,.l TRt r,.l TU T,.n e,.n pr,.n pt]).sel=some (bif bitU pr (i:Int)&&(undA r rv nm) i then .stop 1 [.b true]else .go [.k 0,.n (r.length:Int),.n ((i+1:Nat):Int),.l TS a,.l TPt b,.l TPt c,.l TRt r,.l TU T,.n e,.n rv,.n nm,.l TS a,.l TPt b,.l TPt c,.l TRt r,.l TU T,.n e,.n pr,.n pt]):=by
  intro i hi
  obtain⟨_,⟨p1,p2,p3,p4⟩,p5,p6⟩:=hr i hi
  obtain⟨s1,s2⟩:=hsec i hi
  refine l0o _ _ _ _ _ _ _ _ _ _ _ _ (by omega) rfl (congrArg Int.ofNat hT) _ ?_
  unfold j0o
  refine a0a (dt (show(i:Int)<(r.length:Int) by omega)) ?_
  cases h1:bitU pr (i:Int)with
  |false=>refine a0c h1 ?_;rw[w1n i (by omega)];rfl
  |true=>
   refine a0a h1 ?_
   rw[Bool.true_and]
   obtain⟨z1,e1,d1⟩:=o145a (eQ (r.getD i (Ty.dflt TRt))) rv nm (Nat.le_trans p2 (by decide)) (fun d hd=>(p5 d hd).1)
   obtain⟨z2,e2,d2⟩:=o145a (eF (r.getD i (Ty.dflt TRt))) rv nm (Nat.le_trans p4 (by decide)) (fun d hd=>(p6 d hd).1)
   have d1:decide (z1≥0)=(eQ (r.getD i (Ty.dflt TRt))).any (undT rv nm):=d1
   have d2:decide (z2≥0)=(eF (r.getD i (Ty.dflt TRt))).any (undT rv nm):=d2
   show _=some (bif ((eQ (r.getD i (Ty.dflt TRt))).any (undT rv nm)||(eF (r.getD i (Ty.dflt TRt))).any (undT rv nm))then _ else _)
   rw[←d1,←d2]
   dsimp only
   erw[e1];refine a0a rfl ?_
   cases hz1:decide (z1≥0)with
   |true=>exact a0a hz1 rfl
   |false=>
    refine a0c hz1 ?_
    erw[e2];refine a0a rfl ?_
    cases hz2:decide (z2≥0)with
    |true=>exact a0a hz2 rfl
    |false=>refine a0c hz2 ?_;rw[w1n i (by omega)];rfl
 have stop:(c0m [.k 0,.n (r.length:Int),.n (r.length:Int),.l TS a,.l TPt b,.l TPt c,.l TRt r,.l TU T,.n e,.n rv,.n nm,.l TS a,.l TPt b,.l TPt c,.l TRt r,.l TU T,.n e,.n pr,.n pt]).sel=some (.stop 0 []):=by
  refine l0o _ _ _ _ _ _ _ _ _ _ _ _ (by omega) rfl (congrArg Int.ofNat hT) _ ?_
  unfold j0o
  exact a0c (df (show¬(r.length:Int)<(r.length:Int) by omega)) rfl
 have ee:k0k [.k 0,.n (r.length:Int),.n (0:Int),.l TS a,.l TPt b,.l TPt c,.l TRt r,.l TU T,.n e,.n rv,.n nm,.l TS a,.l TPt b,.l TPt c,.l TRt r,.l TU T,.n e,.n pr,.n pt]=some (bif b0n r pr (undA r rv nm)then(1,[.b true])else(0,[])):=by
  unfold b0n
  rw[p0s]
  exact a0x (st:=c0m) (fun i=>[.k 0,.n (r.length:Int),.n (i:Int),.l TS a,.l TPt b,.l TPt c,.l TRt r,.l TU T,.n e,.n rv,.n nm,.l TS a,.l TPt b,.l TPt c,.l TRt r,.l TU T,.n e,.n pr,.n pt]) r.length (fun i=>bitU pr (i:Int)&&(undA r rv nm) i) (1,[.b true]) (0,[]) (fun i hi h=>by have:=key i hi;rw[h]at this;exact this) (fun i hi h=>by have:=key i hi;rw[h]at this;exact this) stop FU (by unfold FU;omega)
 rw[c1a]
 refine i1t _ _ _ _ _ _ _ _ _ _ _ ?_
 unfold f1u
 dsimp only
 erw[ee]
 cases b0n r pr (undA r rv nm)with
 |true=>exact a0c rfl (a0a rfl rfl)
 |false=>exact a0a rfl rfl
theorem os103d (a:LS)(b c:LP)(r:LR)(T:List Int)(e:Int)(pr pt:Int)(hm:mayL a b c r=true)(hT:T.length=r.length):q0v [.l TS a,.l TPt b,.l TPt c,.l TRt r,.l TU T,.n e,.n pr,.n pt,.l TS a,.l TPt b,.l TPt c,.l TRt r,.l TU T,.n e,.n pr,.n pt]=some (0,[.b (b0n r pr (turA r pt))]):=by
 obtain⟨lb,lr,hr⟩:=l0q hm
 have hsec:=b1r hm
 have key: ∀i,i<r.length→(c0p [.k 0,.n (r.length:Int),.n (i:Int),.l TS a,.l TPt b,.l TPt c,.l TRt r,.l TU T,.n e,.n pr,.n pt,.l TS a,.l TPt b,.l TPt c,.l TRt r,.l TU T,.n e,.n pr,.n pt]).sel=some (bif bitU pr (i:Int)&&(turA r pt) i then .stop 1 [.b true]else .go [.k 0,.n (r.length:Int),.n ((i+1:Nat):Int),.l TS a,.l TPt b,.l TPt c,.l TRt r,.l TU T,.n e,.n pr,.n pt,.l TS a,.l TPt b,.l TPt c,.l TRt r,.l TU T,.n e,.n pr,.n pt]):=by
  intro i hi
  obtain⟨_,⟨p1,p2,p3,p4⟩,p5,p6⟩:=hr i hi
  obtain⟨s1,s2⟩:=hsec i hi
  refine l0r _ _ _ _ _ _ _ _ _ _ (by omega) rfl (congrArg Int.ofNat hT) _ ?_
  unfold k0j
  refine a0a (dt (show(i:Int)<(r.length:Int) by omega)) ?_
  cases h1:bitU pr (i:Int)with
  |false=>refine a0c h1 ?_;rw[w1n i (by omega)];rfl
  |true=>
   refine a0a h1 ?_
   rw[Bool.true_and]
   obtain⟨z1,e1,d1⟩:=o145b (eQ (r.getD i (Ty.dflt TRt))) pr pt (Nat.le_trans p2 (by decide)) (fun d hd=>(p5 d hd).1)
   obtain⟨z2,e2,d2⟩:=o145b (eF (r.getD i (Ty.dflt TRt))) pr pt (Nat.le_trans p4 (by decide)) (fun d hd=>(p6 d hd).1)
   have d1:decide (z1≥0)=(eQ (r.getD i (Ty.dflt TRt))).any (turT pt):=d1
   have d2:decide (z2≥0)=(eF (r.getD i (Ty.dflt TRt))).any (turT pt):=d2
   show _=some (bif ((eQ (r.getD i (Ty.dflt TRt))).any (turT pt)||(eF (r.getD i (Ty.dflt TRt))).any (turT pt))then _ else _)
   rw[←d1,←d2]
   dsimp only
   erw[e1];refine a0a rfl ?_
   cases hz1:decide (z1≥0)with
   |true=>exact a0a hz1 rfl
   |false=>
    refine a0c hz1 ?_
    erw[e2];refine a0a rfl ?_
    cases hz2:decide (z2≥0)with
    |true=>exact a0a hz2 rfl
    |false=>refine a0c hz2 ?_;rw[w1n i (by omega)];rfl
 have stop:(c0p [.k 0,.n (r.length:Int),.n (r.length:Int),.l TS a,.l TPt b,.l TPt c,.l TRt r,.l TU T,.n e,.n pr,.n pt,.l TS a,.l TPt b,.l TPt c,.l TRt r,.l TU T,.n e,.n pr,.n pt]).sel=some (.stop 0 []):=by
  refine l0r _ _ _ _ _ _ _ _ _ _ (by omega) rfl (congrArg Int.ofNat hT) _ ?_
  unfold k0j
  exact a0c (df (show¬(r.length:Int)<(r.length:Int) by omega)) rfl
 have ee:k0s [.k 0,.n (r.length:Int),.n (0:Int),.l TS a,.l TPt b,.l TPt c,.l TRt r,.l TU T,.n e,.n pr,.n pt,.l TS a,.l TPt b,.l TPt c,.l TRt r,.l TU T,.n e,.n pr,.n pt]=some (bif b0n r pr (turA r pt)then(1,[.b true])else(0,[])):=by
  unfold b0n
  rw[p0j]
  exact a0x (st:=c0p) (fun i=>[.k 0,.n (r.length:Int),.n (i:Int),.l TS a,.l TPt b,.l TPt c,.l TRt r,.l TU T,.n e,.n pr,.n pt,.l TS a,.l TPt b,.l TPt c,.l TRt r,.l TU T,.n e,.n pr,.n pt]) r.length (fun i=>bitU pr (i:Int)&&(turA r pt) i) (1,[.b true]) (0,[]) (fun i hi h=>by have:=key i hi;rw[h]at this;exact this) (fun i hi h=>by have:=key i hi;rw[h]at this;exact this) stop FU (by unfold FU;omega)
 rw[a1m]
 refine k1n _ _ _ _ _ _ _ _ _ ?_
 unfold g1c
 dsimp only
 erw[ee]
 cases b0n r pr (turA r pt)with
 |true=>exact a0c rfl (a0a rfl rfl)
 |false=>exact a0a rfl rfl
def wrF (b:LP)(r:LR)(T:List Int)(e oc rv nm pr pt:Int):Int:=
 bif e !=0 then 1 else bif ishr IntKind.u64 pr (r.length:Int) !=0 then 2 else bif ishr IntKind.u32 pt (b.length:Int) !=0 then 2
 else bif b0n r pr (clsA T pr)then 3 else bif b0n r pr (occA r oc)then 4 else bif b0n r pr (undA r rv nm)then 5 else bif b0n r pr (turA r pt)then 6 else 0
theorem o67 (a:LS)(b c:LP)(r:LR)(T:List Int)(e:Int)(oc nm rv:Int)(cm:List (Ty.den TCmd))(pr pt:Int)(h:e≠0∨(mayL a b c r=true∧T.length=r.length)):e1m [.l TS a,.l TPt b,.l TPt c,.l TRt r,.l TU T,.n e,.n oc,.n nm,.n rv,.l TCmd cm,.n pr,.n pt]=some (0,[.n (wrF b r T e oc (b0l IntKind.u32 rv nm) (b0l IntKind.u32 nm rv) pr pt)]):=by
 rw[l1b]
 refine t1h _ _ _ _ _ _ _ _ _ _ _ _ _ ?_
 unfold z1h wrF
 by_cases he:e=0
 ·obtain⟨hm,hT⟩:=h.resolve_left (fun q=>q he)
  rw[nbf he]
  refine a0c (nbf he) ?_
  cases h1:(ishr IntKind.u64 pr (r.length:Int) !=0)with
  |true=>exact a0a rfl rfl
  |false=>
   refine a0c rfl ?_
   cases h2:(ishr IntKind.u32 pt (b.length:Int) !=0)with
   |true=>exact a0a rfl rfl
   |false=>
    refine a0c rfl ?_
    have e1:=os103a a b c r T e pr pt hm hT
    have e2:=os103b a b c r T e pr pt oc nm rv cm hm hT
    have e3:=os103c a b c r T e pr pt (b0l IntKind.u32 rv nm) (b0l IntKind.u32 nm rv) hm hT
    have e4:=os103d a b c r T e pr pt hm hT
    dsimp only
    erw[e1];refine a0a rfl ?_
    cases b0n r pr (clsA T pr)with
    |true=>exact a0a rfl rfl
    |false=>
     refine a0c rfl ?_
     erw[e2];refine a0a rfl ?_
     cases b0n r pr (occA r oc)with
     |true=>exact a0a rfl rfl
     |false=>
      refine a0c rfl ?_
      erw[e3];refine a0a rfl ?_
      cases b0n r pr (undA r (b0l IntKind.u32 rv nm) (b0l IntKind.u32 nm rv))with
      |true=>exact a0a rfl rfl
      |false=>
       refine a0c rfl ?_
       erw[e4];refine a0a rfl ?_
       cases b0n r pr (turA r pt)with
       |true=>exact a0a rfl rfl
       |false=>exact a0c rfl rfl
 ·rw[nb he]
  exact a0a (nb he) rfl
theorem e1p (X:B64)(i:Nat):bitU (N X) (i:Int)=X.getLsbD i:=iandB X i
theorem nz {w:Nat}(Y:BitVec w):(N Y !=0)= !(Y==0#w):=by
 have e:(0:Int)=N (0#w):=by unfold N;simp
 show(!(N Y==0))=_
 rw[e,N_beq]
theorem nz_f {w:Nat}{Y:BitVec w}:(N Y !=0)=false↔Y=0#w:=by rw[nz];simp
theorem wr0 {b:LP}{r:LR}{T:List Int}{e oc rv nm pr pt:Int}:wrF b r T e oc rv nm pr pt=0↔((e !=0)=false∧(ishr IntKind.u64 pr (r.length:Int) !=0)=false∧(ishr IntKind.u32 pt (b.length:Int) !=0)=false∧b0n r pr (clsA T pr)=false∧b0n r pr (occA r oc)=false∧b0n r pr (undA r rv nm)=false∧b0n r pr (turA r pt)=false):=by
 unfold wrF
 generalize (e !=0)=x1
 generalize (ishr IntKind.u64 pr (r.length:Int) !=0)=x2
 generalize (ishr IntKind.u32 pt (b.length:Int) !=0)=x3
 generalize b0n r pr (clsA T pr)=x4
 generalize b0n r pr (occA r oc)=x5
 generalize b0n r pr (undA r rv nm)=x6
 generalize b0n r pr (turA r pt)=x7
 cases x1
 ·cases x2
  ·cases x3
   ·cases x4
    ·cases x5
     ·cases x6
      ·cases x7<;>simp
      ·simp
     ·simp
    ·simp
   ·simp
  ·simp
 ·simp
theorem shown_le {r:LR}{pr pr':Int}{ask ask':Nat→Bool}(h:b0n r pr ask=false)(h1: ∀i:Nat,bitU pr' (i:Int)=true→bitU pr (i:Int)=true)(h2: ∀i,ask' i=true→ask i=true):b0n r pr' ask'=false:=by
 unfold b0n at*
 rw[List.any_eq_false]at*
 intro i hi hh
 refine h i hi ?_
 rw[Bool.and_eq_true]at hh⊢
 exact⟨h1 i hh.1,h2 i hh.2⟩
theorem and_le {X M:B64}(i:Nat)(h:bitU (N (X&&&M)) (i:Int)=true):bitU (N X) (i:Int)=true:=by
 rw[e1p]at*
 rw[BitVec.getLsbD_and,Bool.and_eq_true]at h
 exact h.1
theorem less0 {b:LP}{r:LR}{T:LB64}{e oc rv nm pt:Int}{X M:B64}(h:wrF b r (NL T) e oc rv nm (N X) pt=0):wrF b r (NL T) e oc rv nm (iand IntKind.u64 (N X) (N M)) pt=0:=by
 rw[u1v]
 obtain⟨h1,h2,h3,h4,h5,h6,h7⟩:=wr0.1 h
 refine wr0.2 ⟨h1,?_,h3,shown_le h4 and_le (fun i hi=> ?_),shown_le h5 and_le (fun _ q=>q),shown_le h6 and_le (fun _ q=>q),shown_le h7 and_le (fun _ q=>q)⟩
 ·rw[x1k,nz_f]at h2⊢
  rw[BitVec.ushiftRight_and_distrib,h2,BitVec.zero_and]
 ·unfold clsA at*
  rw[NL_at,u1v,nz]at hi⊢
  cases hz:(T.getD i 0#64&&&X==0#64)with
  |false=>rfl
  |true=>
   have e0:T.getD i 0#64&&&X=0#64:=by simpa using hz
   rw[←BitVec.and_assoc,e0,BitVec.zero_and]at hi
   simp at hi
theorem shown_none (r:LR)(ask:Nat→Bool):b0n r 0 ask=false:=by
 unfold b0n
 rw[List.any_eq_false]
 intro i hi hh
 rw[Bool.and_eq_true]at hh
 have e:(0:Int)=N (0#64):=by unfold N;simp
 have h:=hh.1
 rw[e,e1p]at h
 simp at h
theorem ofInt_N (Y:B64):BitVec.ofInt 32 (N Y)=Y.setWidth 32:=by
 apply BitVec.eq_of_toNat_eq
 rw[BitVec.toNat_ofInt,BitVec.toNat_setWidth]
 unfold N
 omega
theorem none0 {b:LP}{r:LR}{T:List Int}{oc rv nm:Int}{P:BitVec 32}(hb:b.length≤32):wrF b r T 0 oc rv nm 0 (iand IntKind.u32 (N P) (IntKind.wrap .u32 (N (firB b.length))))=0:=by
 refine wr0.2 ⟨rfl,?_,?_,shown_none _ _,shown_none _ _,shown_none _ _,shown_none _ _⟩
 ·have e:(0:Int)=N (0#64):=by unfold N;simp
  have e2:ishr IntKind.u64 (0:Int) (r.length:Int)=N ((0#64)>>>r.length):=by rw[←x1k,←e]
  rw[e2,nz_f,BitVec.zero_ushiftRight]
 ·rw[p2u,ofInt_N,r2g,a2b,nz_f]
  apply BitVec.eq_of_getLsbD_eq
  intro i hi
  rw[BitVec.getLsbD_ushiftRight,BitVec.getLsbD_and,BitVec.getLsbD_setWidth,y0i (by omega),df (show¬b.length+i<b.length by omega)]
  simp
theorem imin_le {n:Nat}(h:n≤32):imin (n:Int) 32=(n:Int):=by
 unfold imin
 simp
 try omega
theorem W12_true (a:LS)(b c:LP)(r:LR)(oc nm rv:Int)(cm:List (Ty.den TCmd))(X M:B64)(P:BitVec 32)(hs:okS a b c r):(ev_W12 [.l TS a,.l TPt b,.l TPt c,.l TRt r,.n oc,.n nm,.n rv,.l TCmd cm,.n (N X),.n (N P),.n (N M)]).sel=some true:=by
 refine fn_W12_t_im _ _ _ _ _ _ _ _ _ _ _ _ ?_
 unfold fn_W12_t
 obtain⟨z,e1⟩:=o15 a b c r 400 hs
 dsimp only
 erw[e1];refine a0a rfl ?_
 by_cases h:z>400
 ·exact a0a (dt h) rfl
 refine a0c (df h) ?_
 by_cases h':(List.length cm:Int)>100
 ·exact a0a (dt h') rfl
 refine a0c (df h') ?_
 have e2:=o17c a b c r hs
 have e3:=o19 a b c r hs
 have e4:=q_e27 (imin (b.length:Int) 32)
 by_cases hc:(ckA a b c r).1=0
 ·rw[if_pos hc]at e2
  obtain⟨hm,_⟩:=(ck_ok a b c r).1 hc
  have lb:=(l0q hm).1
  rw[imin_le lb,Int.toNat_natCast,Nat.min_eq_left (by omega)]at e4
  have hl:(NL (tabB b r)).length=r.length:=by rw[u1l];exact o0n ..
  have f1:=o67 a b c r (NL (tabB b r)) 0 oc nm rv cm (N X) (N P) (Or.inr ⟨hm,hl⟩)
  have f2:=o67 a b c r (NL (tabB b r)) 0 oc nm rv cm (iand IntKind.u64 (N X) (N M)) (N P) (Or.inr ⟨hm,hl⟩)
  have f3:=o67 a b c r (NL (tabB b r)) 0 oc nm rv cm 0 (iand IntKind.u32 (N P) (IntKind.wrap .u32 (N (firB b.length)))) (Or.inr ⟨hm,hl⟩)
  rw[none0 lb]at f3
  erw[e2];refine a0a rfl ?_
  erw[f1];refine a0a rfl ?_
  by_cases hw:wrF b r (NL (tabB b r)) 0 oc (b0l IntKind.u32 rv nm) (b0l IntKind.u32 nm rv) (N X) (N P)=0
  ·refine a0a (bt hw) ?_
   rw[less0 hw]at f2
   erw[f2];refine a0a rfl (a0c rfl ?_)
   erw[e3];refine a0a rfl ?_
   erw[imin_le lb,e4];refine a0a rfl ?_
   erw[f3];refine a0a rfl (a0a ?_ rfl)
   show((0:Int)==0)==((ckA a b c r).1==0)
   rw[bt hc];rfl
  ·refine a0c (bf hw) ?_
   erw[e3];refine a0a rfl ?_
   erw[imin_le lb,e4];refine a0a rfl ?_
   erw[f3];refine a0a rfl (a0a ?_ rfl)
   show((0:Int)==0)==((ckA a b c r).1==0)
   rw[bt hc];rfl
 ·rw[if_neg hc]at e2
  have w1: ∀pr pt,wrF b r [] (ckA a b c r).1 oc (b0l IntKind.u32 rv nm) (b0l IntKind.u32 nm rv) pr pt=1:=fun pr pt=>by unfold wrF;rw[nb hc];rfl
  have f:=fun pr pt=>o67 a b c r [] (ckA a b c r).1 oc nm rv cm pr pt (Or.inl hc)
  have f1:=f (N X) (N P)
  have f3:=f 0 (iand IntKind.u32 (N P) (IntKind.wrap .u32 (N (firB (min (imin (b.length:Int) 32).toNat 64)))))
  rw[w1]at f1 f3
  erw[e2];refine a0c rfl (a0a rfl ?_)
  erw[f1];refine a0a rfl (a0c rfl ?_)
  erw[e3];refine a0a rfl ?_
  erw[e4];refine a0a rfl ?_
  erw[f3];refine a0a rfl (a0a ?_ rfl)
  show((1:Int)==0)==((ckA a b c r).1==0)
  rw[bf hc];rfl
theorem u64_w {n:Int}(h:wfD (.int .u64) n=true):N (BitVec.ofInt 64 n)=n:=by
 have h:=wfi h
 simp[IntKind.min,IntKind.max,IntKind.bits,IntKind.signed]at h
 exact N_of h.1 (by omega)
theorem u32_w {n:Int}(h:wfD (.int .u32) n=true):N (BitVec.ofInt 32 n)=n:=by
 have h:=wfi h
 simp[IntKind.min,IntKind.max,IntKind.bits,IntKind.signed]at h
 exact N_of h.1 (by omega)
theorem W12_all (a:LS)(b c:LP)(r:LR)(oc nm rv:Int)(cm:List (Ty.den TCmd))(pr pt mk:Int)(hs:okS a b c r)(h1:wfD (.int .u64) pr=true)(h2:wfD (.int .u32) pt=true)(h3:wfD (.int .u64) mk=true):
  (ev_W12 [.l TS a,.l TPt b,.l TPt c,.l TRt r,.n oc,.n nm,.n rv,.l TCmd cm,.n pr,.n pt,.n mk]).sel=some true:=by
 have:=W12_true a b c r oc nm rv cm (BitVec.ofInt 64 pr) (BitVec.ofInt 64 mk) (BitVec.ofInt 32 pt) hs
 rw[u64_w h1,u64_w h3,u32_w h2]at this
 exact this
def okL (b c:LP)(L:LR):Prop:=L.length≤64∧ ∀i,i<L.length→rtOk b c (L.getD i (Ty.dflt TRt))∧(∀x∈trk (L.getD i (Ty.dflt TRt)),0≤x)
theorem hasB_U (X:B64){s:Int}(h:0≤s):hasB X s=bitU (N X) s:=by
 obtain⟨k,rfl⟩: ∃k:Nat,s=k:=⟨s.toNat,by omega⟩
 rw[e1p]
 unfold hasB inN
 rw[dt h,Bool.true_and,Int.toNat_natCast]
 by_cases hk:(k:Int)<64
 ·rw[dt hk,Bool.true_and]
 ·rw[df hk,Bool.false_and]
  exact(BitVec.getLsbD_of_ge X k (by omega)).symm
theorem u1t {b c:LP}{e:Rt}(h:rtOk b c e):f0c b (ndsE e):=fun d hd=>by
 have hd:d∈eQ e++eF e:=hd
 rcases List.mem_append.1 hd with hd|hd
 ·exact h.2.2.1 d hd
 ·exact h.2.2.2 d hd
theorem lp71_6 (L:LR)(j:Int)(X:B64)(nm rv:Int)(cm:List (Ty.den TCmd))(t:List Int)(ht:t.length≤100000)(hp: ∀x∈t,0≤x):s0p [.k 0,.l TRt L,.n j,.n (0:Int),.n (N X),.n nm,.n rv,.l TCmd cm,.l TI t]=some (bif (List.range' 0 t.length).any (fun i=>bitU (N X) (t.getD i 0))then(1,[.b true])else(0,[.l TRt L,.n j,.n (N X),.n nm,.n rv,.l TCmd cm])):=by
 have key: ∀i,i<t.length→(d0u [.k 0,.l TRt L,.n j,.n (i:Int),.n (N X),.n nm,.n rv,.l TCmd cm,.l TI t]).sel=some (bif (bitU (N X) (t.getD i 0))then .stop 1 [.b true]else .go [.k 0,.l TRt L,.n j,.n ((i+1:Nat):Int),.n (N X),.n nm,.n rv,.l TCmd cm,.l TI t]):=by
  intro i hi
  refine p0e _ _ _ _ _ _ _ _ (by omega) _ ?_
  unfold q0t
  refine a0a (dt (show(i:Int)<(t.length:Int) by omega)) ?_
  have e1:=q_e11 X (t.getD i 0)
  rw[hasB_U X (hp _ (h0f (d:=(0:Int)) hi))]at e1
  dsimp only
  erw[e1];refine a0a rfl ?_
  cases h:bitU (N X) (t.getD i 0)with
  |true=>exact a0a rfl rfl
  |false=>refine a0c rfl ?_;rw[w1n i (by omega)];rfl
 have stop:(d0u [.k 0,.l TRt L,.n j,.n (t.length:Int),.n (N X),.n nm,.n rv,.l TCmd cm,.l TI t]).sel=some (.stop 0 [.l TRt L,.n j,.n (N X),.n nm,.n rv,.l TCmd cm]):=by
  refine p0e _ _ _ _ _ _ _ _ (by omega) _ ?_
  unfold q0t
  exact a0c (df (show¬(t.length:Int)<(t.length:Int) by omega)) rfl
 rw[x0r]
 exact a0x (st:=d0u) (fun i=>[.k 0,.l TRt L,.n j,.n (i:Int),.n (N X),.n nm,.n rv,.l TCmd cm,.l TI t]) t.length (fun i=>bitU (N X) (t.getD i 0)) (1,[.b true]) (0,[.l TRt L,.n j,.n (N X),.n nm,.n rv,.l TCmd cm]) (fun i hi h=>by have:=key i hi;rw[h]at this;exact this) (fun i hi h=>by have:=key i hi;rw[h]at this;exact this) stop FU (by unfold FU;omega)
theorem lp71_2 {b c:LP}(L:LR)(X:B64)(nm rv:Int)(cm:List (Ty.den TCmd))(hL:okL b c L):t0j [.k 0,.l TRt L,.n (0:Int),.n (N X),.n nm,.n rv,.l TCmd cm]=some (bif (List.range' 0 L.length).any (fun i=>(trk (L.getD i (Ty.dflt TRt))).any (bitU (N X)))then(1,[.b true])else(0,[])):=by
 have key: ∀i,i<L.length→(d0t [.k 0,.l TRt L,.n (i:Int),.n (N X),.n nm,.n rv,.l TCmd cm]).sel=some (bif ((trk (L.getD i (Ty.dflt TRt))).any (bitU (N X)))then .stop 1 [.b true]else .go [.k 0,.l TRt L,.n ((i+1:Nat):Int),.n (N X),.n nm,.n rv,.l TCmd cm]):=by
  intro i hi
  refine p0b _ _ _ _ _ _ (by have:=hL.1;omega) _ ?_
  unfold q0f
  have hl:=hL.1
  obtain⟨⟨_,⟨p1,p2,p3,p4⟩,p5,p6⟩,s1⟩:=hL.2 i hi
  refine a0a (dt (show(i:Int)<(L.length:Int) by omega)) ?_
  have e1:=o11 (eS (L.getD i (Ty.dflt TRt))) (eN (L.getD i (Ty.dflt TRt))) (eP (L.getD i (Ty.dflt TRt))) (eQ (L.getD i (Ty.dflt TRt))) (eO (L.getD i (Ty.dflt TRt))) (eF (L.getD i (Ty.dflt TRt))) p1 p2 p3 p4
  have lt:(trk (L.getD i (Ty.dflt TRt))).length≤100000:=by show(eP (L.getD i (Ty.dflt TRt))++eO (L.getD i (Ty.dflt TRt))).length≤_;rw[List.length_append];omega
  have e2:=lp71_6 L (i:Int) X nm rv cm (trk (L.getD i (Ty.dflt TRt))) lt s1
  have ha:=c0g (trk (L.getD i (Ty.dflt TRt))) (0:Int) (bitU (N X))
  rw[ha]at e2
  dsimp only
  erw[e1];refine a0a rfl ?_
  erw[e2]
  cases h:(trk (L.getD i (Ty.dflt TRt))).any (bitU (N X))with
  |true=>exact a0c rfl (a0a rfl rfl)
  |false=>refine a0a rfl ?_;exact congrArg (fun z:Int=>some (Step.go [.k 0,.l TRt L,.n z,.n (N X),.n nm,.n rv,.l TCmd cm])) (w1n i (by omega))
 have stop:(d0t [.k 0,.l TRt L,.n (L.length:Int),.n (N X),.n nm,.n rv,.l TCmd cm]).sel=some (.stop 0 []):=by
  refine p0b _ _ _ _ _ _ (by omega) _ ?_
  unfold q0f
  exact a0c (df (show¬(L.length:Int)<(L.length:Int) by omega)) rfl
 rw[x0u]
 exact a0x (st:=d0t) (fun i=>[.k 0,.l TRt L,.n (i:Int),.n (N X),.n nm,.n rv,.l TCmd cm]) L.length (fun i=>(trk (L.getD i (Ty.dflt TRt))).any (bitU (N X))) (1,[.b true]) (0,[]) (fun i hi h=>by have:=key i hi;rw[h]at this;exact this) (fun i hi h=>by have:=key i hi;rw[h]at this;exact this) stop FU (by have:=hL.1;unfold FU;omega)
theorem o71 {b c:LP}(L:LR)(X:B64)(nm rv:Int)(cm:List (Ty.den TCmd))(hL:okL b c L):n1a [.l TRt L,.n (N X),.n nm,.n rv,.l TCmd cm]=some (0,[.b (L.any fun e=>(trk e).any (bitU (N X)))]):=by
 have e:=lp71_2 L X nm rv cm hL
 rw[c0g L (Ty.dflt TRt) (fun e=>(trk e).any (bitU (N X)))]at e
 rw[l1q]
 refine r1p _ _ _ _ _ _ ?_
 unfold u1k
 dsimp only
 erw[e]
 cases(L.any fun e=>(trk e).any (bitU (N X)))with
 |true=>exact a0c rfl (a0a rfl rfl)
 |false=>exact a0a rfl rfl
theorem lp72_6 (L:LR)(nm rv j:Int)(q:LN)(ht:q.length≤100000)(hp: ∀d∈q,0≤f1 d):q0x [.k 0,.l TRt L,.n nm,.n rv,.n j,.n (0:Int),.l TNd q]=some (bif (List.range' 0 q.length).any (fun i=>undT rv nm (q.getD i (Ty.dflt TNd)))then(1,[.b false])else(0,[.l TRt L,.n nm,.n rv,.n j])):=by
 have key: ∀i,i<q.length→(e0f [.k 0,.l TRt L,.n nm,.n rv,.n j,.n (i:Int),.l TNd q]).sel=some (bif (undT rv nm (q.getD i (Ty.dflt TNd)))then .stop 1 [.b false]else .go [.k 0,.l TRt L,.n nm,.n rv,.n j,.n ((i+1:Nat):Int),.l TNd q]):=by
  intro i hi
  refine p0i _ _ _ _ _ _ (by omega) _ ?_
  unfold p0y
  have hq:=hp _ (h0f (d:=Ty.dflt TNd) hi)
  refine a0a (dt (show(i:Int)<(q.length:Int) by omega)) ?_
  show _=some (bif undT rv nm (q.getD i (Ty.dflt TNd))then _ else _)
  cases hg:g2 (q.getD i (Ty.dflt TNd))with
  |true=>
   have hu:undT rv nm (q.getD i (Ty.dflt TNd))=zerU rv (f1 (q.getD i (Ty.dflt TNd))):=by unfold undT;rw[hg];rfl
   rw[hu]
   refine a0a hg (a0a (l2k hq) ?_)
   cases h:zerU rv (f1 (q.getD i (Ty.dflt TNd)))with
   |true=>exact a0a h rfl
   |false=>refine a0c h ?_;rw[w1n i (by omega)];rfl
  |false=>
   have hu:undT rv nm (q.getD i (Ty.dflt TNd))=zerU nm (f1 (q.getD i (Ty.dflt TNd))):=by unfold undT;rw[hg];rfl
   rw[hu]
   refine a0c hg (a0a (l2k hq) ?_)
   cases h:zerU nm (f1 (q.getD i (Ty.dflt TNd)))with
   |true=>exact a0a h rfl
   |false=>refine a0c h ?_;rw[w1n i (by omega)];rfl
 have stop:(e0f [.k 0,.l TRt L,.n nm,.n rv,.n j,.n (q.length:Int),.l TNd q]).sel=some (.stop 0 [.l TRt L,.n nm,.n rv,.n j]):=by
  refine p0i _ _ _ _ _ _ (by omega) _ ?_
  unfold p0y
  exact a0c (df (show¬(q.length:Int)<(q.length:Int) by omega)) rfl
 rw[w0x]
 exact a0x (st:=e0f) (fun i=>[.k 0,.l TRt L,.n nm,.n rv,.n j,.n (i:Int),.l TNd q]) q.length (fun i=>undT rv nm (q.getD i (Ty.dflt TNd))) (1,[.b false]) (0,[.l TRt L,.n nm,.n rv,.n j]) (fun i hi h=>by have:=key i hi;rw[h]at this;exact this) (fun i hi h=>by have:=key i hi;rw[h]at this;exact this) stop FU (by unfold FU;omega)
theorem lp72_2 {b c:LP}(L:LR)(nm rv:Int)(hL:okL b c L):r0i [.k 0,.l TRt L,.n nm,.n rv,.n (0:Int)]=some (bif (List.range' 0 L.length).any (fun i=>(ndsE (L.getD i (Ty.dflt TRt))).any (undT rv nm))then(1,[.b false])else(0,[])):=by
 have key: ∀i,i<L.length→(e0g [.k 0,.l TRt L,.n nm,.n rv,.n (i:Int)]).sel=some (bif ((ndsE (L.getD i (Ty.dflt TRt))).any (undT rv nm))then .stop 1 [.b false]else .go [.k 0,.l TRt L,.n nm,.n rv,.n ((i+1:Nat):Int)]):=by
  intro i hi
  refine p0d _ _ _ _ (by have:=hL.1;omega) _ ?_
  unfold q0i
  have hl:=hL.1
  obtain⟨h0,s1⟩:=hL.2 i hi
  have hn:=u1t h0
  obtain⟨_,⟨p1,p2,p3,p4⟩,p5,p6⟩:=h0
  refine a0a (dt (show(i:Int)<(L.length:Int) by omega)) ?_
  have e1:=o12 (eS (L.getD i (Ty.dflt TRt))) (eN (L.getD i (Ty.dflt TRt))) (eP (L.getD i (Ty.dflt TRt))) (eQ (L.getD i (Ty.dflt TRt))) (eO (L.getD i (Ty.dflt TRt))) (eF (L.getD i (Ty.dflt TRt))) p1 p2 p3 p4
  have lt:(ndsE (L.getD i (Ty.dflt TRt))).length≤100000:=by show(eQ (L.getD i (Ty.dflt TRt))++eF (L.getD i (Ty.dflt TRt))).length≤_;rw[List.length_append];omega
  have e2:=lp72_6 L nm rv (i:Int) (ndsE (L.getD i (Ty.dflt TRt))) lt (fun d hd=>(hn d hd).1)
  have ha:=c0g (ndsE (L.getD i (Ty.dflt TRt))) (Ty.dflt TNd) (undT rv nm)
  rw[ha]at e2
  dsimp only
  erw[e1];refine a0a rfl ?_
  erw[e2]
  cases h:(ndsE (L.getD i (Ty.dflt TRt))).any (undT rv nm)with
  |true=>exact a0c rfl (a0a rfl rfl)
  |false=>refine a0a rfl ?_;exact congrArg (fun z:Int=>some (Step.go [.k 0,.l TRt L,.n nm,.n rv,.n z])) (w1n i (by omega))
 have stop:(e0g [.k 0,.l TRt L,.n nm,.n rv,.n (L.length:Int)]).sel=some (.stop 0 []):=by
  refine p0d _ _ _ _ (by omega) _ ?_
  unfold q0i
  exact a0c (df (show¬(L.length:Int)<(L.length:Int) by omega)) rfl
 rw[w0y]
 exact a0x (st:=e0g) (fun i=>[.k 0,.l TRt L,.n nm,.n rv,.n (i:Int)]) L.length (fun i=>(ndsE (L.getD i (Ty.dflt TRt))).any (undT rv nm)) (1,[.b false]) (0,[]) (fun i hi h=>by have:=key i hi;rw[h]at this;exact this) (fun i hi h=>by have:=key i hi;rw[h]at this;exact this) stop FU (by have:=hL.1;unfold FU;omega)
theorem o72 {b c:LP}(L:LR)(nm rv:Int)(hL:okL b c L):f1f [.l TRt L,.n nm,.n rv]=some (0,[.b (!(L.any fun e=>(ndsE e).any (undT rv nm)))]):=by
 have e:=lp72_2 L nm rv hL
 rw[c0g L (Ty.dflt TRt) (fun e=>(ndsE e).any (undT rv nm))]at e
 rw[p1o]
 refine r1f _ _ _ _ ?_
 unfold z1q
 dsimp only
 erw[e]
 cases(L.any fun e=>(ndsE e).any (undT rv nm))with
 |true=>exact a0c rfl (a0a rfl rfl)
 |false=>exact a0a rfl rfl
theorem lp70_5 (a:LS)(b c:LP)(r L:LR)(j:Nat)(hj:j<L.length)(lb:b.length≤100000)(hL:okL b c L):r0l [.k 0,.l TRt L,.n (j:Int),.n (0:Int),.l TS a,.l TPt b,.l TPt c,.l TRt r]=some (bif (List.range' 0 j).any (fun i=>cfE b (L.getD j (Ty.dflt TRt)) (L.getD i (Ty.dflt TRt)))then(1,[.b true])else(0,[.l TRt L,.n (j:Int),.l TS a,.l TPt b,.l TPt c,.l TRt r])):=by
 have key: ∀i,i<j→(d0x [.k 0,.l TRt L,.n (j:Int),.n (i:Int),.l TS a,.l TPt b,.l TPt c,.l TRt r]).sel=some (bif (cfE b (L.getD j (Ty.dflt TRt)) (L.getD i (Ty.dflt TRt)))then .stop 1 [.b true]else .go [.k 0,.l TRt L,.n (j:Int),.n ((i+1:Nat):Int),.l TS a,.l TPt b,.l TPt c,.l TRt r]):=by
  intro i hi
  refine o0x _ _ _ _ _ _ _ (by omega) (by omega) (by omega) _ ?_
  unfold q0h
  have hl:=hL.1
  refine a0a (dt (show(i:Int)<(j:Int) by omega)) ?_
  have h1:=(hL.2 j hj).1
  have h2:=(hL.2 i (by omega)).1
  have e:=o46c a b c r (L.getD j (Ty.dflt TRt)) (L.getD i (Ty.dflt TRt)) h1.2.1.1 h1.2.1.2.1 h1.2.1.2.2.1 h1.2.1.2.2.2 h2.2.1.1 h2.2.1.2.1 h2.2.1.2.2.1 h2.2.1.2.2.2 lb (u1t h1) (u1t h2)
  dsimp only
  erw[e];refine a0a rfl ?_
  cases h:cfE b (L.getD j (Ty.dflt TRt)) (L.getD i (Ty.dflt TRt))with
  |true=>exact a0a rfl rfl
  |false=>refine a0c rfl ?_;rw[w1n i (by omega)];rfl
 have stop:(d0x [.k 0,.l TRt L,.n (j:Int),.n (j:Int),.l TS a,.l TPt b,.l TPt c,.l TRt r]).sel=some (.stop 0 [.l TRt L,.n (j:Int),.l TS a,.l TPt b,.l TPt c,.l TRt r]):=by
  refine o0x _ _ _ _ _ _ _ (by omega) (by omega) (by omega) _ ?_
  unfold q0h
  exact a0c (df (show¬(j:Int)<(j:Int) by omega)) rfl
 rw[x0a]
 exact a0x (st:=d0x) (fun i=>[.k 0,.l TRt L,.n (j:Int),.n (i:Int),.l TS a,.l TPt b,.l TPt c,.l TRt r]) j (fun i=>cfE b (L.getD j (Ty.dflt TRt)) (L.getD i (Ty.dflt TRt))) (1,[.b true]) (0,[.l TRt L,.n (j:Int),.l TS a,.l TPt b,.l TPt c,.l TRt r]) (fun i hi h=>by have:=key i hi;rw[h]at this;exact this) (fun i hi h=>by have:=key i hi;rw[h]at this;exact this) stop FU (by have:=hL.1;unfold FU;omega)
theorem lp70_2 (a:LS)(b c:LP)(r L:LR)(lb:b.length≤100000)(hL:okL b c L):s0m [.k 0,.l TRt L,.n (0:Int),.l TS a,.l TPt b,.l TPt c,.l TRt r]=some (bif (List.range' 0 L.length).any (fun i=>(List.range' 0 i).any fun j=>cfE b (L.getD i (Ty.dflt TRt)) (L.getD j (Ty.dflt TRt)))then(1,[.b true])else(0,[])):=by
 have key: ∀i,i<L.length→(d0y [.k 0,.l TRt L,.n (i:Int),.l TS a,.l TPt b,.l TPt c,.l TRt r]).sel=some (bif ((List.range' 0 i).any fun j=>cfE b (L.getD i (Ty.dflt TRt)) (L.getD j (Ty.dflt TRt)))then .stop 1 [.b true]else .go [.k 0,.l TRt L,.n ((i+1:Nat):Int),.l TS a,.l TPt b,.l TPt c,.l TRt r]):=by
  intro i hi
  refine p0u _ _ _ _ _ _ (by have:=hL.1;omega) _ ?_
  unfold q0l
  have hl:=hL.1
  refine a0a (dt (show(i:Int)<(L.length:Int) by omega)) ?_
  have e2:=lp70_5 a b c r L i hi lb hL
  dsimp only
  erw[e2]
  cases h:((List.range' 0 i).any fun j=>cfE b (L.getD i (Ty.dflt TRt)) (L.getD j (Ty.dflt TRt)))with
  |true=>exact a0c rfl (a0a rfl rfl)
  |false=>refine a0a rfl ?_;exact congrArg (fun z:Int=>some (Step.go [.k 0,.l TRt L,.n z,.l TS a,.l TPt b,.l TPt c,.l TRt r])) (w1n i (by omega))
 have stop:(d0y [.k 0,.l TRt L,.n (L.length:Int),.l TS a,.l TPt b,.l TPt c,.l TRt r]).sel=some (.stop 0 []):=by
  refine p0u _ _ _ _ _ _ (by omega) _ ?_
  unfold q0l
  exact a0c (df (show¬(L.length:Int)<(L.length:Int) by omega)) rfl
 rw[x0s]
 exact a0x (st:=d0y) (fun i=>[.k 0,.l TRt L,.n (i:Int),.l TS a,.l TPt b,.l TPt c,.l TRt r]) L.length (fun i=>(List.range' 0 i).any fun j=>cfE b (L.getD i (Ty.dflt TRt)) (L.getD j (Ty.dflt TRt))) (1,[.b true]) (0,[]) (fun i hi h=>by have:=key i hi;rw[h]at this;exact this) (fun i hi h=>by have:=key i hi;rw[h]at this;exact this) stop FU (by have:=hL.1;unfold FU;omega)
def prsF (b:LP)(L:LR):Bool:=(List.range' 0 L.length).any fun i=>(List.range' 0 i).any fun j=>cfE b (L.getD i (Ty.dflt TRt)) (L.getD j (Ty.dflt TRt))
theorem o70 (a:LS)(b c:LP)(r L:LR)(lb:b.length≤100000)(hL:okL b c L):m1a [.l TS a,.l TPt b,.l TPt c,.l TRt r,.l TRt L]=some (0,[.b (prsF b L)]):=by
 have e:_=some (bif prsF b L then _ else _):=lp70_2 a b c r L lb hL
 rw[o1k]
 refine t1d _ _ _ _ _ _ ?_
 unfold x1w
 dsimp only
 erw[e]
 cases prsF b L with
 |true=>exact a0c rfl (a0a rfl rfl)
 |false=>exact a0a rfl rfl
def idxL (X:B64)(m:Nat):List Nat:=(List.range m).filter fun i=>X.getLsbD i
def shL (r:LR)(X:B64)(m:Nat):LR:=(idxL X m).map fun i=>r.getD i (Ty.dflt TRt)
theorem shL_up (r:LR)(X:B64)(k:Nat):shL r X (k+1)=bif X.getLsbD k then apR9 (shL r X k) (r.getD k (Ty.dflt TRt))else shL r X k:=by
 unfold shL idxL
 rw[List.range_succ,List.filter_append,List.map_append]
 cases h:X.getLsbD k with
 |true=>rw[List.filter_cons,h];rfl
 |false=>rw[List.filter_cons,h];simp
theorem h2b (r:LR)(X:B64)(m:Nat):(shL r X m).length≤m:=by
 unfold shL idxL
 rw[List.length_map]
 exact Nat.le_trans (List.length_filter_le _ _) (by rw[List.length_range];exact Nat.le_refl _)
theorem o68 (a:LS)(b c:LP)(r:LR)(X:B64)(pt:Int)(hr:r.length≤64):k1x [.l TS a,.l TPt b,.l TPt c,.l TRt r,.n (N X),.n pt]=some (0,[.l TRt (shL r X r.length)]):=by
 have e:s0y [.k 0,.n (0:Int),.l TS a,.l TPt b,.l TPt c,.l TRt r,.n (N X),.n pt,.l TRt []]=some (0,[.l TRt (shL r X r.length)]):=by
  rw[x0i]
  refine b0a (st:=g0f) (fun i=>[.k 0,.n (i:Int),.l TS a,.l TPt b,.l TPt c,.l TRt r,.n (N X),.n pt,.l TRt (shL r X i)]) r.length (0,[.l TRt (shL r X r.length)]) (fun i hi=> ?_) ?_ FU (by unfold FU;omega)
  ·have ln:=h2b r X i
   refine p0k _ _ _ _ _ _ _ _ (by omega) _ ?_
   unfold q0b
   refine a0a (dt (show(i:Int)<(r.length:Int) by omega)) ?_
   have e1:=q_e11 X (i:Int)
   rw[hasB_U X (by omega),e1p]at e1
   have hu:=shL_up r X i
   dsimp only
   erw[e1];refine a0a rfl ?_
   cases h:X.getLsbD i with
   |true=>
    rw[h]at hu
    refine a0a rfl (a0a (dt (show((shL r X i).length+1)*120≤140737488355328 by omega)) ?_)
    rw[w1n i (by omega),hu];rfl
   |false=>
    rw[h]at hu
    refine a0c rfl ?_
    rw[w1n i (by omega),hu];rfl
  ·refine p0k _ _ _ _ _ _ _ _ (by omega) _ ?_
   unfold q0b
   exact a0c (df (show¬(r.length:Int)<(r.length:Int) by omega)) rfl
 rw[p1y]
 refine s1j _ _ _ _ _ _ _ ?_
 unfold z1m
 dsimp only
 erw[e]
 exact a0a rfl rfl
theorem r1c {α:Type}{p q:α→Bool}: ∀{l:List α},(∀x∈l,p x=q x)→l.any p=l.any q
 |[],_=>rfl
 |x::l,h=>by rw[List.any_cons,List.any_cons,h x List.mem_cons_self,r1c fun y hy=>h y (List.mem_cons_of_mem _ hy)]
theorem ixm (X:B64)(m i:Nat):i∈idxL X m↔i<m∧X.getLsbD i=true:=by unfold idxL;rw[List.mem_filter,List.mem_range]
theorem ixnd (X:B64)(m:Nat):(idxL X m).Nodup:=List.Pairwise.filter _ List.nodup_range
theorem b1l (r:LR)(X:B64)(f:Rt→Bool):b0n r (N X) (fun i=>f (r.getD i (Ty.dflt TRt)))=(shL r X r.length).any f:=by
 rw[Bool.eq_iff_iff]
 unfold b0n shL
 rw[List.any_eq_true,List.any_eq_true]
 constructor
 ·rintro⟨i,hi,h⟩
  rw[List.mem_range'_1]at hi
  rw[Bool.and_eq_true,e1p]at h
  exact⟨_,List.mem_map_of_mem ((ixm X r.length i).2 ⟨by omega,h.1⟩),h.2⟩
 ·rintro⟨e,he,h⟩
  obtain⟨i,hi,rfl⟩:=List.mem_map.1 he
  obtain⟨h1,h2⟩:=(ixm X r.length i).1 hi
  exact⟨i,List.mem_range'_1.2 (by omega),by rw[Bool.and_eq_true,e1p];exact⟨h2,h⟩⟩
theorem occ_eq (r:LR)(X:B64)(oc:Int):b0n r (N X) (occA r oc)=(shL r X r.length).any fun e=>(trk e).any (bitU oc):=by
 rw[←b1l]
 have e:occA r oc=fun i=>(trk (r.getD i (Ty.dflt TRt))).any (bitU oc):=funext fun i=>by
  show _=(eP (r.getD i (Ty.dflt TRt))++eO (r.getD i (Ty.dflt TRt))).any (bitU oc)
  rw[List.any_append];rfl
 rw[e]
theorem und_eq (r:LR)(X:B64)(rv nm:Int):b0n r (N X) (undA r rv nm)=(shL r X r.length).any fun e=>(ndsE e).any (undT rv nm):=by
 rw[←b1l]
 have e:undA r rv nm=fun i=>(ndsE (r.getD i (Ty.dflt TRt))).any (undT rv nm):=funext fun i=>by
  show _=(eQ (r.getD i (Ty.dflt TRt))++eF (r.getD i (Ty.dflt TRt))).any (undT rv nm)
  rw[List.any_append];rfl
 rw[e]
theorem tur_eq (r:LR)(X:B64)(pt:Int):b0n r (N X) (turA r pt)=(shL r X r.length).any fun e=>(ndsE e).any (turT pt):=by
 rw[←b1l]
 have e:turA r pt=fun i=>(ndsE (r.getD i (Ty.dflt TRt))).any (turT pt):=funext fun i=>by
  show _=(eQ (r.getD i (Ty.dflt TRt))++eF (r.getD i (Ty.dflt TRt))).any (turT pt)
  rw[List.any_append];rfl
 rw[e]
theorem b32 (P:BitVec 32)(k:Nat):iand IntKind.u32 (ishr IntKind.u32 (N P) (k:Int)) (1:Int)=bif P.getLsbD k then 1 else 0:=by
 rw[a2b,show(1:Int)=N (1#32)from rfl,r2g]
 have e:(P>>>k)&&&1#32=bif P.getLsbD k then 1#32 else 0#32:=by
  apply BitVec.eq_of_getLsbD_eq
  intro i hi
  rw[BitVec.getLsbD_and,BitVec.getLsbD_ushiftRight]
  by_cases h0:i=0
  ·subst h0;cases P.getLsbD k<;>simp
  ·cases P.getLsbD k<;>simp[h0]
 rw[e]
 cases P.getLsbD k<;>rfl
theorem tur_und (P:BitVec 32)(d:Ty.den TNd)(h0:0≤f1 d)(h1:f1 d<32):undT (N P) (ixor IntKind.u32 (4294967295:Int) (N P)) d=turT (N P) d:=by
 obtain⟨k,hk⟩: ∃k:Nat,f1 d=k:=⟨(f1 d).toNat,by omega⟩
 have hk32:k<32:=by omega
 have e:ixor IntKind.u32 (4294967295:Int) (N P)=N (4294967295#32^^^P):=by rw[←q2n];rfl
 have eb:(4294967295#32^^^P).getLsbD k= !P.getLsbD k:=by
  have e0:(4294967295#32:BitVec 32)=BitVec.allOnes 32:=rfl
  rw[BitVec.getLsbD_xor,e0,BitVec.getLsbD_allOnes,dt hk32,Bool.true_xor]
 unfold undT turT zerU
 rw[hk,e,b32,b32,eb]
 cases g2 d<;>cases P.getLsbD k<;>rfl
theorem k2d (b:LP)(r:LR)(i k:Nat):clN b r i k=true↔i≠k∧cfE b (r.getD i (Ty.dflt TRt)) (r.getD k (Ty.dflt TRt))=true:=by
 unfold clN clF
 by_cases h:(i:Int)=(k:Int)
 ·rw[dt h]
  exact⟨fun q=>by simp at q,fun q=>absurd (by omega) q.1⟩
 ·rw[df h]
  exact⟨fun q=>⟨by omega,q⟩,fun q=>q.2⟩
theorem i2j (b:LP)(r:LR)(X:B64)(hr:r.length≤64){i:Nat}(hi:i<r.length):clsA (NL (tabB b r)) (N X) i=true↔ ∃k,k<r.length∧X.getLsbD k=true∧clN b r i k=true:=by
 unfold clsA
 rw[NL_at,u1v,nz]
 constructor
 ·intro h
  have hne:(tabB b r).getD i 0#64&&&X≠0#64:=by simpa using h
  obtain⟨k,hk⟩: ∃k,((tabB b r).getD i 0#64&&&X).getLsbD k=true:=Classical.byContradiction fun hn=>hne (BitVec.eq_of_getLsbD_eq fun k hk=>by
   cases hb:((tabB b r).getD i 0#64&&&X).getLsbD k with
   |true=>exact(hn ⟨k,hb⟩).elim
   |false=>simp)
  rw[BitVec.getLsbD_and,Bool.and_eq_true]at hk
  have hk64:k<64:=BitVec.lt_of_getLsbD hk.2
  have ht:bitT (tabB b r) i k=true:=hk.1
  rw[m2h b r hi hr hk64,Bool.and_eq_true]at ht
  exact⟨k,of_decide_eq_true ht.1,hk.2,ht.2⟩
 ·rintro⟨k,hk,hx,hc⟩
  have ht:bitT (tabB b r) i k=true:=by rw[m2h b r hi hr (by omega),dt hk,hc];rfl
  have e1:((tabB b r).getD i 0#64&&&X).getLsbD k=true:=by rw[BitVec.getLsbD_and,hx,Bool.and_true];exact ht
  cases hz:((tabB b r).getD i 0#64&&&X==0#64)with
  |false=>rfl
  |true=>
   have e0:(tabB b r).getD i 0#64&&&X=0#64:=by simpa using hz
   rw[e0]at e1;simp at e1
theorem cls_eq (b:LP)(r:LR)(X:B64)(hr:r.length≤64):b0n r (N X) (clsA (NL (tabB b r)) (N X))=prsF b (shL r X r.length):=by
 have hlen:(shL r X r.length).length=(idxL X r.length).length:=List.length_map ..
 have hget: ∀p,p<(idxL X r.length).length→(shL r X r.length).getD p (Ty.dflt TRt)=r.getD ((idxL X r.length).getD p 0) (Ty.dflt TRt):=by
  intro p hp
  unfold shL
  rw[List.getD_eq_getElem?_getD,List.getElem?_map,List.getElem?_eq_getElem hp,List.getD_eq_getElem?_getD (l:=idxL X r.length),List.getElem?_eq_getElem hp];rfl
 have hd: ∀p (hp:p<(idxL X r.length).length),(idxL X r.length).getD p 0=(idxL X r.length)[p]:=fun p hp=>by rw[List.getD_eq_getElem?_getD,List.getElem?_eq_getElem hp];rfl
 rw[Bool.eq_iff_iff]
 unfold b0n prsF
 rw[List.any_eq_true,List.any_eq_true]
 constructor
 ·rintro⟨i,hi,h⟩
  rw[List.mem_range'_1]at hi
  rw[Bool.and_eq_true,e1p,i2j b r X hr (by omega)]at h
  obtain⟨h1,k,hk,h2,h3⟩:=h
  obtain⟨hne,hc⟩:=(k2d b r i k).1 h3
  obtain⟨p,hp,ep⟩:=List.mem_iff_getElem.1 ((ixm X r.length i).2 ⟨by omega,h1⟩)
  obtain⟨q,hq,eq⟩:=List.mem_iff_getElem.1 ((ixm X r.length k).2 ⟨hk,h2⟩)
  have key: ∀p q (hp:p<(idxL X r.length).length) (hq:q<(idxL X r.length).length),q<p→cfE b (r.getD (idxL X r.length)[p] (Ty.dflt TRt)) (r.getD (idxL X r.length)[q] (Ty.dflt TRt))=true→
    ∃x∈List.range' 0 (shL r X r.length).length,((List.range' 0 x).any fun j=>cfE b ((shL r X r.length).getD x (Ty.dflt TRt)) ((shL r X r.length).getD j (Ty.dflt TRt)))=true:=fun p q hp hq hlt hcf=>
   ⟨p,List.mem_range'_1.2 (by omega),List.any_eq_true.2 ⟨q,List.mem_range'_1.2 (by omega),by rw[hget p hp,hget q hq,hd p hp,hd q hq];exact hcf⟩⟩
  rcases Nat.lt_trichotomy q p with hlt|heq|hlt
  ·exact key p q hp hq hlt (by rw[ep,eq];exact hc)
  ·subst heq;exact absurd (ep.symm.trans eq) hne
  ·exact key q p hq hp hlt (by rw[ep,eq,a2a];exact hc)
 ·rintro⟨p,hp,h⟩
  obtain⟨q,hq,hcf⟩:=List.any_eq_true.1 h
  rw[List.mem_range'_1]at hp hq
  have hp':p<(idxL X r.length).length:=by omega
  have hq':q<(idxL X r.length).length:=by omega
  rw[hget p hp',hget q hq',hd p hp',hd q hq']at hcf
  obtain⟨i1,i2⟩:=(ixm X r.length _).1 (List.getElem_mem hp')
  obtain⟨k1,k2⟩:=(ixm X r.length _).1 (List.getElem_mem hq')
  have hne:(idxL X r.length)[p]≠(idxL X r.length)[q]:=fun e=>by
   exact List.pairwise_iff_getElem.1 (ixnd X r.length) q p hq' hp' (by omega) e.symm
  exact⟨(idxL X r.length)[p],List.mem_range'_1.2 ⟨Nat.zero_le _,by omega⟩,by
   rw[Bool.and_eq_true,e1p,i2j b r X hr i1]
   exact⟨i2,_,k1,k2,(k2d b r _ _).2 ⟨hne,hcf⟩⟩⟩
theorem m2s {w:Nat}(X F:BitVec w)(m:Nat)(hF: ∀i,i<w→F.getLsbD i=decide (i<m)):(X>>>m=0#w)↔(X&&& ~~~F=0#w):=by
 constructor
 ·intro h
  apply BitVec.eq_of_getLsbD_eq
  intro i hi
  rw[BitVec.getLsbD_and,BitVec.getLsbD_not,hF i hi,dt hi]
  by_cases hm:i<m
  ·rw[dt hm];simp
  ·have e:=congrArg (fun y:BitVec w=>y.getLsbD (i-m)) h
   simp only[BitVec.getLsbD_ushiftRight]at e
   rw[show m+(i-m)=i by omega]at e
   rw[e];simp
 ·intro h
  apply BitVec.eq_of_getLsbD_eq
  intro i hi
  rw[BitVec.getLsbD_ushiftRight]
  by_cases hm:m+i<w
  ·have e:=congrArg (fun y:BitVec w=>y.getLsbD (m+i)) h
   simp only[BitVec.getLsbD_and,BitVec.getLsbD_not,hF _ hm,dt hm,df (show¬m+i<m by omega)]at e
   simpa using e
  ·rw[BitVec.getLsbD_of_ge _ _ (by omega)];simp
theorem ne_eq0 {w:Nat}{A B:BitVec w}(h:A=0#w↔B=0#w):(N A !=0)=(N B !=0):=by
 rw[nz,nz,Bool.eq_iff_iff]
 simp[h]
theorem un64 (X:B64){m:Nat}(hm:m≤64):(b0l IntKind.u64 (N X) (N (firB m)) !=0)=(ishr IntKind.u64 (N X) (m:Int) !=0):=by
 rw[q1y,x1k]
 exact ne_eq0 (m2s X (firB m) m (fun i _=>y0i hm i)).symm
theorem un32 (P:BitVec 32){m:Nat}(hm:m≤32):(b0l IntKind.u32 (N P) (IntKind.wrap .u32 (N (firB m))) !=0)=(ishr IntKind.u32 (N P) (m:Int) !=0):=by
 rw[p2u,ofInt_N,s1h,a2b]
 exact ne_eq0 (m2s P _ m (fun i hi=>by rw[BitVec.getLsbD_setWidth,dt hi,Bool.true_and,y0i (by omega)])).symm
def cycF (a:LS)(b c:LP)(r:LR)(oc nm rv pr pt:Int):Int:=wrF b r (if(ckA a b c r).1=0 then NL (tabB b r)else[]) (ckA a b c r).1 oc (b0l IntKind.u32 rv nm) (b0l IntKind.u32 nm rv) pr pt
theorem os35 (a:LS)(b c:LP)(r:LR)(oc nm rv:Int)(cm:List (Ty.den TCmd))(pr pt:Int)(hs:okS a b c r):o1w [.l TS a,.l TPt b,.l TPt c,.l TRt r,.n oc,.n nm,.n rv,.l TCmd cm,.n pr,.n pt]=some (0,[.n (cycF a b c r oc nm rv pr pt)]):=by
 rw[l1p]
 refine r1z _ _ _ _ _ _ _ _ _ _ _ ?_
 unfold v1q cycF
 have e2:=o17c a b c r hs
 dsimp only
 by_cases hc:(ckA a b c r).1=0
 ·rw[if_pos hc]at e2⊢
  obtain⟨hm,_⟩:=(ck_ok a b c r).1 hc
  have hl:(NL (tabB b r)).length=r.length:=by rw[u1l];exact o0n ..
  have f1:=o67 a b c r (NL (tabB b r)) 0 oc nm rv cm pr pt (Or.inr ⟨hm,hl⟩)
  erw[e2];refine a0a rfl ?_
  erw[f1];refine a0a rfl ?_
  rw[hc];rfl
 ·rw[if_neg hc]at e2⊢
  have f1:=o67 a b c r [] (ckA a b c r).1 oc nm rv cm pr pt (Or.inl hc)
  erw[e2];refine a0c rfl (a0a rfl ?_)
  erw[f1];exact a0a rfl rfl
theorem sh_ok {a:LS}{b c:LP}{r:LR}(X:B64)(hm:mayL a b c r=true):okL b c (shL r X r.length):=by
 obtain⟨lb,lr,hr⟩:=l0q hm
 have hsec:=b1r hm
 refine⟨Nat.le_trans (h2b r X _) lr,fun p hp=> ?_⟩
 have hp':p<(idxL X r.length).length:=by unfold shL at hp;rwa [List.length_map]at hp
 have e:(shL r X r.length).getD p (Ty.dflt TRt)=r.getD (idxL X r.length)[p] (Ty.dflt TRt):=by
  unfold shL
  rw[List.getD_eq_getElem?_getD,List.getElem?_map,List.getElem?_eq_getElem hp'];rfl
 obtain⟨i1,_⟩:=(ixm X r.length _).1 (List.getElem_mem hp')
 rw[e]
 refine⟨hr _ i1,fun x hx=> ?_⟩
 rcases List.mem_append.1 hx with hx|hx
 ·exact(hsec _ i1).1 x hx
 ·exact(hsec _ i1).2 x hx
theorem os36 (a:LS)(b c:LP)(r:LR)(O:B64)(nm rv:Int)(cm:List (Ty.den TCmd))(X:B64)(P:BitVec 32)(hs:okS a b c r):p1q [.l TS a,.l TPt b,.l TPt c,.l TRt r,.n (N O),.n nm,.n rv,.l TCmd cm,.n (N X),.n (N P)]=some (0,[.n (cycF a b c r (N O) nm rv (N X) (N P))]):=by
 rw[n1x]
 refine s1g _ _ _ _ _ _ _ _ _ _ _ ?_
 unfold z1e cycF wrF
 have e1:=o19 a b c r hs
 dsimp only
 erw[e1];refine a0a rfl ?_
 by_cases hc:(ckA a b c r).1=0
 ·rw[if_pos hc,nbf hc]
  refine a0c (nbf hc) ?_
  obtain⟨hm,_⟩:=(ck_ok a b c r).1 hc
  obtain⟨lb,lr,hr⟩:=l0q hm
  have hL:=sh_ok X hm
  have e2:=q_e27 (r.length:Int)
  have e3:=q_e27 (b.length:Int)
  rw[Int.toNat_natCast,Nat.min_eq_left (by omega)]at e2 e3
  have e4:=o68 a b c r X (N P) lr
  have e5:=o70 a b c r (shL r X r.length) (by omega) hL
  have e6:=o71 (shL r X r.length) O nm rv cm hL
  have e7:=o72 (shL r X r.length) (b0l IntKind.u32 nm rv) (b0l IntKind.u32 rv nm) hL
  have e8:=o72 (shL r X r.length) (ixor IntKind.u32 (4294967295:Int) (N P)) (N P) hL
  have e9:((shL r X r.length).any fun e=>(ndsE e).any (undT (N P) (ixor IntKind.u32 (4294967295:Int) (N P))))=(shL r X r.length).any fun e=>(ndsE e).any (turT (N P)):=by
   refine r1c fun e he=>r1c fun d hd=> ?_
   obtain⟨p,hp,rfl⟩:=List.mem_iff_getElem.1 he
   have h:=u1t (hL.2 p hp).1
   have eg:(shL r X r.length).getD p (Ty.dflt TRt)=(shL r X r.length)[p]:=by rw[List.getD_eq_getElem?_getD,List.getElem?_eq_getElem hp];rfl
   rw[eg]at h
   have:=h d hd
   exact tur_und P d this.1 (by omega)
  rw[e9,←tur_eq]at e8
  rw[←und_eq]at e7
  rw[←occ_eq]at e6
  rw[←cls_eq b r X lr]at e5
  erw[e2];refine a0a rfl ?_
  have u1:=un64 X lr
  have u2:=un32 P lb
  cases h1:(ishr IntKind.u64 (N X) (r.length:Int) !=0)with
  |true=>exact a0a (u1.trans h1) rfl
  |false=>
   refine a0c (u1.trans h1) ?_
   erw[e3];refine a0a rfl ?_
   cases h2:(ishr IntKind.u32 (N P) (b.length:Int) !=0)with
   |true=>exact a0a (u2.trans h2) rfl
   |false=>
    refine a0c (u2.trans h2) ?_
    erw[e4];refine a0a rfl ?_
    erw[e5];refine a0a rfl ?_
    cases b0n r (N X) (clsA (NL (tabB b r)) (N X))with
    |true=>exact a0a rfl rfl
    |false=>
     refine a0c rfl ?_
     erw[e6];refine a0a rfl ?_
     cases b0n r (N X) (occA r (N O))with
     |true=>exact a0a rfl rfl
     |false=>
      refine a0c rfl ?_
      erw[e7];refine a0a rfl ?_
      cases b0n r (N X) (undA r (b0l IntKind.u32 rv nm) (b0l IntKind.u32 nm rv))with
      |true=>exact a0a rfl rfl
      |false=>
       refine a0c rfl ?_
       erw[e8];refine a0a rfl ?_
       cases b0n r (N X) (turA r (N P))with
       |true=>exact a0a rfl rfl
       |false=>exact a0c rfl rfl
 ·rw[if_neg hc,nb hc]
  exact a0a (nb hc) rfl
theorem s2q (a:LS)(b c:LP)(r:LR)(oc nm rv:Int)(cm:List (Ty.den TCmd))(pr pt:Int)(hs:okS a b c r)(h0:wfD (.int .u64) oc=true)(h1:wfD (.int .u64) pr=true)(h2:wfD (.int .u32) pt=true):
  (o2k [.l TS a,.l TPt b,.l TPt c,.l TRt r,.n oc,.n nm,.n rv,.l TCmd cm,.n pr,.n pt]).sel=some true:=by
 refine q1k _ _ _ _ _ _ _ _ _ _ _ ?_
 unfold u1h
 obtain⟨z,e1⟩:=o15 a b c r 400 hs
 dsimp only
 erw[e1];refine a0a rfl ?_
 by_cases h:z>400
 ·exact a0a (dt h) rfl
 refine a0c (df h) ?_
 by_cases h':(List.length cm:Int)>100
 ·exact a0a (dt h') rfl
 refine a0c (df h') ?_
 have e2:=os35 a b c r oc nm rv cm pr pt hs
 have e3:=os36 a b c r (BitVec.ofInt 64 oc) nm rv cm (BitVec.ofInt 64 pr) (BitVec.ofInt 32 pt) hs
 rw[u64_w h0,u64_w h1,u32_w h2]at e3
 erw[e2];refine a0a rfl ?_
 erw[e3];exact a0a rfl (a0a (bt rfl) rfl)
abbrev LIp:=List (Ty.den TInp)
abbrev LOt:=List (Ty.den TOut)
def wE (b:LP)(r:LR)(T:List Int)(e:Int)(x:Ty.den TInp)(y:Ty.den TOut):Int:=wrF b r T e (Prod.fst x) (b0l IntKind.u32 (Prod.fst (Prod.snd (Prod.snd x))) (Prod.fst (Prod.snd x))) (b0l IntKind.u32 (Prod.fst (Prod.snd x)) (Prod.fst (Prod.snd (Prod.snd x)))) (Prod.fst y) (Prod.snd y)
def rowF (b:LP)(r:LR)(T:List Int)(e:Int)(R:LIp)(Q:LOt):Option Nat:=b0i (fun i=>wE b r T e (R.getD i (Ty.dflt TInp)) (Q.getD i (Ty.dflt TOut)) !=0) (min R.length Q.length)
def rowA (b:LP)(r:LR)(T:List Int)(e:Int)(R:LIp)(Q:LOt):Int×Int:=match rowF b r T e R Q with
 |some k=>((k:Int),wE b r T e (R.getD k (Ty.dflt TInp)) (Q.getD k (Ty.dflt TOut)))
 |none=>(-1,0)
theorem lp38 (a:LS)(b c:LP)(r:LR)(T:List Int)(e:Int)(R:LIp)(Q:LOt)(h:e≠0∨(mayL a b c r=true∧T.length=r.length))(l1:R.length≤60)(l2:Q.length≤60):
  m1t [.k 0,.l TInp R,.l TOut Q,.n ((min R.length Q.length:Nat):Int),.n (0:Int),.l TS a,.l TPt b,.l TPt c,.l TRt r,.n e,.l TU T]=some (match rowF b r T e R Q with|some k=>(1,[.n (k:Int),.n (wE b r T e (R.getD k (Ty.dflt TInp)) (Q.getD k (Ty.dflt TOut)))])|none=>(0,[])):=by
 have key: ∀i:Nat,i<min R.length Q.length→(m0m [.k 0,.l TInp R,.l TOut Q,.n ((min R.length Q.length:Nat):Int),.n (i:Int),.l TS a,.l TPt b,.l TPt c,.l TRt r,.n e,.l TU T]).sel=some (bif wE b r T e (R.getD i (Ty.dflt TInp)) (Q.getD i (Ty.dflt TOut)) !=0 then .stop 1 [.n (i:Int),.n (wE b r T e (R.getD i (Ty.dflt TInp)) (Q.getD i (Ty.dflt TOut)))]else .go [.k 0,.l TInp R,.l TOut Q,.n ((min R.length Q.length:Nat):Int),.n ((i+1:Nat):Int),.l TS a,.l TPt b,.l TPt c,.l TRt r,.n e,.l TU T]):=by
  intro i hi
  refine fn_Ls38_3_t_im _ _ _ _ _ _ _ _ _ _ (by omega) (by omega) (by omega) _ ?_
  unfold fn_Ls38_3_t
  refine a0a (dt (show(i:Int)<((min R.length Q.length:Nat):Int) by omega)) ?_
  have f:=o67 a b c r T e (Prod.fst (R.getD i (Ty.dflt TInp))) (Prod.fst (Prod.snd (R.getD i (Ty.dflt TInp)))) (Prod.fst (Prod.snd (Prod.snd (R.getD i (Ty.dflt TInp))))) (Prod.snd (Prod.snd (Prod.snd (R.getD i (Ty.dflt TInp))))) (Prod.fst (Q.getD i (Ty.dflt TOut))) (Prod.snd (Q.getD i (Ty.dflt TOut))) h
  dsimp only
  erw[f];refine a0a rfl ?_
  show(Tree.node (wE b r T e (R.getD i (Ty.dflt TInp)) (Q.getD i (Ty.dflt TOut)) !=0) _ _).sel=_
  cases hw:(wE b r T e (R.getD i (Ty.dflt TInp)) (Q.getD i (Ty.dflt TOut)) !=0)with
  |true=>exact a0a rfl rfl
  |false=>refine a0c rfl ?_;rw[w1n i (by omega)];rfl
 have stop:(m0m [.k 0,.l TInp R,.l TOut Q,.n ((min R.length Q.length:Nat):Int),.n ((min R.length Q.length:Nat):Int),.l TS a,.l TPt b,.l TPt c,.l TRt r,.n e,.l TU T]).sel=some (.stop 0 []):=by
  refine fn_Ls38_3_t_im _ _ _ _ _ _ _ _ _ _ (by omega) (by omega) (by omega) _ ?_
  unfold fn_Ls38_3_t
  exact a0c (df (show¬((min R.length Q.length:Nat):Int)<((min R.length Q.length:Nat):Int) by omega)) rfl
 rw[m1c]
 exact f0f (st:=m0m) (fun i=>[.k 0,.l TInp R,.l TOut Q,.n ((min R.length Q.length:Nat):Int),.n (i:Int),.l TS a,.l TPt b,.l TPt c,.l TRt r,.n e,.l TU T]) (min R.length Q.length) (fun i=>wE b r T e (R.getD i (Ty.dflt TInp)) (Q.getD i (Ty.dflt TOut)) !=0) (fun k=>(1,[.n (k:Int),.n (wE b r T e (R.getD k (Ty.dflt TInp)) (Q.getD k (Ty.dflt TOut)))])) (0,[]) (fun i hi h=>by have:=key i hi;rw[h]at this;exact this) (fun i hi h=>by have:=key i hi;rw[h]at this;exact this) stop FU (by unfold FU;omega)
def tE (a:LS)(b c:LP)(r:LR):List Int:=if(ckA a b c r).1=0 then NL (tabB b r)else[]
theorem h3f (m n:Nat):imin (m:Int) (n:Int)=((min m n:Nat):Int):=by
 unfold imin
 by_cases h:(n:Int)<(m:Int)
 ·rw[if_pos h];omega
 ·rw[if_neg h];omega
theorem os38 (a:LS)(b c:LP)(r:LR)(R:LIp)(Q:LOt)(hs:okS a b c r)(l1:R.length≤60)(l2:Q.length≤60):
  h2o [.l TS a,.l TPt b,.l TPt c,.l TRt r,.l TInp R,.l TOut Q]=some (0,[.n (rowA b r (tE a b c r) (ckA a b c r).1 R Q).1,.n (rowA b r (tE a b c r) (ckA a b c r).1 R Q).2]):=by
 rw[m2f]
 refine fn_s38_t_im _ _ _ _ _ _ _ ?_
 unfold fn_s38_t tE
 have e2:=o17c a b c r hs
 have em:=h3f R.length Q.length
 dsimp only
 by_cases hc:(ckA a b c r).1=0
 ·rw[if_pos hc]at e2⊢
  obtain⟨hm,_⟩:=(ck_ok a b c r).1 hc
  have hl:(NL (tabB b r)).length=r.length:=by rw[u1l];exact o0n ..
  have f:=lp38 a b c r (NL (tabB b r)) 0 R Q (Or.inr ⟨hm,hl⟩) l1 l2
  rw[hc]
  rw[←em]at f
  erw[e2];refine a0a rfl ?_
  erw[f]
  unfold rowA
  cases rowF b r (NL (tabB b r)) 0 R Q with
  |some k=>exact a0c rfl (a0a rfl rfl)
  |none=>exact a0a rfl rfl
 ·rw[if_neg hc]at e2⊢
  have f:=lp38 a b c r [] (ckA a b c r).1 R Q (Or.inl hc) l1 l2
  rw[←em]at f
  erw[e2];refine a0c rfl (a0a rfl ?_)
  erw[f]
  unfold rowA
  cases rowF b r [] (ckA a b c r).1 R Q with
  |some k=>exact a0c rfl (a0a rfl rfl)
  |none=>exact a0a rfl rfl
theorem lp39 (a:LS)(b c:LP)(r:LR)(R:LIp)(Q:LOt)(hs:okS a b c r)(hR: ∀x∈R,wfD TInp x=true)(hQ: ∀x∈Q,wfD TOut x=true)(l1:R.length≤60)(l2:Q.length≤60):
  m1j [.k 0,.l TInp R,.l TOut Q,.n (0:Int),.l TS a,.l TPt b,.l TPt c,.l TRt r]=some (match rowF b r (tE a b c r) (ckA a b c r).1 R Q with|some k=>(1,[.n (k:Int),.n (wE b r (tE a b c r) (ckA a b c r).1 (R.getD k (Ty.dflt TInp)) (Q.getD k (Ty.dflt TOut)))])|none=>(0,[])):=by
 have key: ∀i:Nat,i<min R.length Q.length→(m0i [.k 0,.l TInp R,.l TOut Q,.n (i:Int),.l TS a,.l TPt b,.l TPt c,.l TRt r]).sel=some (bif wE b r (tE a b c r) (ckA a b c r).1 (R.getD i (Ty.dflt TInp)) (Q.getD i (Ty.dflt TOut)) !=0 then .stop 1 [.n (i:Int),.n (wE b r (tE a b c r) (ckA a b c r).1 (R.getD i (Ty.dflt TInp)) (Q.getD i (Ty.dflt TOut)))]else .go [.k 0,.l TInp R,.l TOut Q,.n ((i+1:Nat):Int),.l TS a,.l TPt b,.l TPt c,.l TRt r]):=by
  intro i hi
  refine fn_Ls39_2_t_im _ _ _ _ _ _ _ (by omega) _ ?_
  unfold fn_Ls39_2_t
  refine a0a (dt (show(i:Int)<(R.length:Int) by omega)) (a0a (dt (show(i:Int)<(Q.length:Int) by omega)) ?_)
  have w1:=hR _ (h0f (d:=Ty.dflt TInp) (show i<R.length by omega))
  have w2:=hQ _ (h0f (d:=Ty.dflt TOut) (show i<Q.length by omega))
  have f:=os36 a b c r (BitVec.ofInt 64 (Prod.fst (R.getD i (Ty.dflt TInp)))) (Prod.fst (Prod.snd (R.getD i (Ty.dflt TInp)))) (Prod.fst (Prod.snd (Prod.snd (R.getD i (Ty.dflt TInp))))) (Prod.snd (Prod.snd (Prod.snd (R.getD i (Ty.dflt TInp))))) (BitVec.ofInt 64 (Prod.fst (Q.getD i (Ty.dflt TOut)))) (BitVec.ofInt 32 (Prod.snd (Q.getD i (Ty.dflt TOut)))) hs
  have g1:N (BitVec.ofInt 64 (Prod.fst (R.getD i (Ty.dflt TInp))))=Prod.fst (R.getD i (Ty.dflt TInp)):=u64_w (p0a w1).1
  have g2':N (BitVec.ofInt 64 (Prod.fst (Q.getD i (Ty.dflt TOut))))=Prod.fst (Q.getD i (Ty.dflt TOut)):=u64_w (p0a w2).1
  have g3:N (BitVec.ofInt 32 (Prod.snd (Q.getD i (Ty.dflt TOut))))=Prod.snd (Q.getD i (Ty.dflt TOut)):=u32_w (p0a w2).2
  rw[g1,g2',g3]at f
  dsimp only
  erw[f];refine a0a rfl ?_
  show(Tree.node (wE b r (tE a b c r) (ckA a b c r).1 (R.getD i (Ty.dflt TInp)) (Q.getD i (Ty.dflt TOut)) !=0) _ _).sel=_
  cases hw:(wE b r (tE a b c r) (ckA a b c r).1 (R.getD i (Ty.dflt TInp)) (Q.getD i (Ty.dflt TOut)) !=0)with
  |true=>exact a0a rfl rfl
  |false=>refine a0c rfl ?_;rw[w1n i (by omega)];rfl
 have stop:(m0i [.k 0,.l TInp R,.l TOut Q,.n ((min R.length Q.length:Nat):Int),.l TS a,.l TPt b,.l TPt c,.l TRt r]).sel=some (.stop 0 []):=by
  refine fn_Ls39_2_t_im _ _ _ _ _ _ _ (by omega) _ ?_
  unfold fn_Ls39_2_t
  by_cases h:((min R.length Q.length:Nat):Int)<(R.length:Int)
  ·exact a0a (dt h) (a0c (df (show¬((min R.length Q.length:Nat):Int)<(Q.length:Int) by omega)) rfl)
  ·exact a0c (df h) rfl
 rw[l1w]
 exact f0f (st:=m0i) (fun i=>[.k 0,.l TInp R,.l TOut Q,.n (i:Int),.l TS a,.l TPt b,.l TPt c,.l TRt r]) (min R.length Q.length) (fun i=>wE b r (tE a b c r) (ckA a b c r).1 (R.getD i (Ty.dflt TInp)) (Q.getD i (Ty.dflt TOut)) !=0) (fun k=>(1,[.n (k:Int),.n (wE b r (tE a b c r) (ckA a b c r).1 (R.getD k (Ty.dflt TInp)) (Q.getD k (Ty.dflt TOut)))])) (0,[]) (fun i hi h=>by have:=key i hi;rw[h]at this;exact this) (fun i hi h=>by have:=key i hi;rw[h]at this;exact this) stop FU (by unfold FU;omega)
theorem os39 (a:LS)(b c:LP)(r:LR)(R:LIp)(Q:LOt)(hs:okS a b c r)(hR: ∀x∈R,wfD TInp x=true)(hQ: ∀x∈Q,wfD TOut x=true)(l1:R.length≤60)(l2:Q.length≤60):
  i2t [.l TS a,.l TPt b,.l TPt c,.l TRt r,.l TInp R,.l TOut Q]=some (0,[.n (rowA b r (tE a b c r) (ckA a b c r).1 R Q).1,.n (rowA b r (tE a b c r) (ckA a b c r).1 R Q).2]):=by
 rw[l2u]
 refine fn_s39_t_im _ _ _ _ _ _ _ ?_
 unfold fn_s39_t
 have f:=lp39 a b c r R Q hs hR hQ l1 l2
 dsimp only
 erw[f]
 unfold rowA
 cases rowF b r (tE a b c r) (ckA a b c r).1 R Q with
 |some k=>exact a0c rfl (a0a rfl rfl)
 |none=>exact a0a rfl rfl
theorem h3g (a:LS)(b c:LP)(r:LR)(R:LIp)(Q:LOt)(hs:okS a b c r)(hR: ∀x∈R,wfD TInp x=true)(hQ: ∀x∈Q,wfD TOut x=true):(ev_W11 [.l TS a,.l TPt b,.l TPt c,.l TRt r,.l TInp R,.l TOut Q]).sel=some true:=by
 refine fn_W11_t_im _ _ _ _ _ _ _ ?_
 unfold fn_W11_t
 obtain⟨z,e1⟩:=o15 a b c r 400 hs
 dsimp only
 erw[e1];refine a0a rfl ?_
 by_cases h:z>400
 ·exact a0a (dt h) rfl
 refine a0c (df h) ?_
 by_cases h1:(R.length:Int)>60
 ·exact a0a (dt h1) rfl
 refine a0c (df h1) ?_
 by_cases h2:(Q.length:Int)>60
 ·exact a0a (dt h2) rfl
 refine a0c (df h2) ?_
 have e2:=os38 a b c r R Q hs (by omega) (by omega)
 have e3:=os39 a b c r R Q hs hR hQ (by omega) (by omega)
 erw[e2];refine a0a rfl ?_
 erw[e3];exact a0a rfl (a0a (bt rfl) (a0a (bt rfl) rfl))
def pth:Nat→Nat→List Nat
 |0,_=>[]
 |k+1,n=>(n%2)::pth k (n/2)
abbrev TLaz:Ty:=.pair (.sl TS) (.pair (.sl TPt) (.pair (.sl TPt) (.sl TRt)))
def layV (d:LDt):Bool:=wfD TLaz ((gl TS d 0,gl TPt d 1,gl TPt d 2,gl TRt d 3):Ty.den TLaz)
def p10v (d:LDt):Bool:=layV d&&(wfD (.int .u64) (gn d 4)&&(wfD (.int .u64) (gn d 8)&&wfD (.int .u32) (gn d 9)))
def p11v (d:LDt):Bool:=layV d&&((gl TInp d 4).all (wfD TInp)&&(gl TOut d 5).all (wfD TOut))
def p12v (d:LDt):Bool:=layV d&&(wfD (.int .u64) (gn d 8)&&(wfD (.int .u32) (gn d 9)&&wfD (.int .u64) (gn d 10)))
def oD (b:Nat):PB:=.cells [.own b,.own (b+1),.own (b+2),.own (b+3)]
def op_k10:OpT:=lawOpP [.l TS,.l TPt,.l TPt,.l TRt,.n,.n,.n,.l TCmd,.n,.n] (p10v)
def Bk10:FBox:=mkF [laV 0,ipV 4,ouV 8] [] [] [(.bool 0,[])] op_k10
def cs_k10:FuncId→Option a0q:=a0s 10 Bk10 cs_s39
theorem Bk10_ok:a0v Try.prog 10 (a0j Bk10):=lawBox_ok (op:=op_k10) l2f hmix false (ls:=ls0) (LsOk.none _ _ _) fun env x he=>by
 obtain⟨rfl,h,hp⟩:=lawOpP_some he
 refine⟨rfl,?_⟩
 obtain⟨x0,_,rfl,h0⟩:=fits_l h
 obtain⟨x1,_,rfl,h1⟩:=fits_l h0
 obtain⟨x2,_,rfl,h2⟩:=fits_l h1
 obtain⟨x3,_,rfl,h3⟩:=fits_l h2
 obtain⟨x4,_,rfl,h4⟩:=fits_n h3
 obtain⟨x5,_,rfl,h5⟩:=fits_n h4
 obtain⟨x6,_,rfl,h6⟩:=fits_n h5
 obtain⟨x7,_,rfl,h7⟩:=fits_l h6
 obtain⟨x8,_,rfl,h8⟩:=fits_n h7
 obtain⟨x9,_,rfl,h9⟩:=fits_n h8
 cases fits_nil h9
 obtain⟨ql,q1⟩:=Bool.and_eq_true_iff.1 hp
 obtain⟨q1,q2⟩:=Bool.and_eq_true_iff.1 q1
 obtain⟨q2,q3⟩:=Bool.and_eq_true_iff.1 q2
 rw[←lawB_lk];exact s2q _ _ _ _ _ _ _ _ _ _ (okS_wf ((x0,x1,x2,x3):Ty.den TLay) ql) q1 q2 q3
theorem cs_k10_ok:CsOk Try.prog cs_k10:=a0g l2f Bk10_ok
def op_k11:OpT:=lawOpP [.l TS,.l TPt,.l TPt,.l TRt,.l TInp,.l TOut] (p11v)
def Bk11:FBox:=mkF [laV 0,.imm TInp 4,.imm TOut 5] [] [] [(.bool 0,[])] op_k11
def cs_k11:FuncId→Option a0q:=a0s 11 Bk11 cs_k10
theorem Bk11_ok:a0v Try.prog 11 (a0j Bk11):=lawBox_ok (op:=op_k11) l2f hmix false (ls:=ls0) (LsOk.none _ _ _) fun env x he=>by
 obtain⟨rfl,h,hp⟩:=lawOpP_some he
 refine⟨rfl,?_⟩
 obtain⟨x0,_,rfl,h0⟩:=fits_l h
 obtain⟨x1,_,rfl,h1⟩:=fits_l h0
 obtain⟨x2,_,rfl,h2⟩:=fits_l h1
 obtain⟨x3,_,rfl,h3⟩:=fits_l h2
 obtain⟨x4,_,rfl,h4⟩:=fits_l h3
 obtain⟨x5,_,rfl,h5⟩:=fits_l h4
 cases fits_nil h5
 obtain⟨ql,q1⟩:=Bool.and_eq_true_iff.1 hp
 obtain⟨q1,q2⟩:=Bool.and_eq_true_iff.1 q1
 rw[←lawB_lk];exact h3g _ _ _ _ _ _ (okS_wf ((x0,x1,x2,x3):Ty.den TLay) ql) (List.all_eq_true.1 q1) (List.all_eq_true.1 q2)
theorem cs_k11_ok:CsOk Try.prog cs_k11:=a0g cs_k10_ok Bk11_ok
def op_k12:OpT:=lawOpP [.l TS,.l TPt,.l TPt,.l TRt,.n,.n,.n,.l TCmd,.n,.n,.n] (p12v)
def Bk12:FBox:=mkF [laV 0,ipV 4,ouV 8,.int .u64 10] [] [] [(.bool 0,[])] op_k12
def cs_k12:FuncId→Option a0q:=a0s 12 Bk12 cs_k11
theorem Bk12_ok:a0v Try.prog 12 (a0j Bk12):=lawBox_ok (op:=op_k12) o2v hmix false (ls:=ls0) (LsOk.none _ _ _) fun env x he=>by
 obtain⟨rfl,h,hp⟩:=lawOpP_some he
 refine⟨rfl,?_⟩
 obtain⟨x0,_,rfl,h0⟩:=fits_l h
 obtain⟨x1,_,rfl,h1⟩:=fits_l h0
 obtain⟨x2,_,rfl,h2⟩:=fits_l h1
 obtain⟨x3,_,rfl,h3⟩:=fits_l h2
 obtain⟨x4,_,rfl,h4⟩:=fits_n h3
 obtain⟨x5,_,rfl,h5⟩:=fits_n h4
 obtain⟨x6,_,rfl,h6⟩:=fits_n h5
 obtain⟨x7,_,rfl,h7⟩:=fits_l h6
 obtain⟨x8,_,rfl,h8⟩:=fits_n h7
 obtain⟨x9,_,rfl,h9⟩:=fits_n h8
 obtain⟨x10,_,rfl,h10⟩:=fits_n h9
 cases fits_nil h10
 obtain⟨ql,q1⟩:=Bool.and_eq_true_iff.1 hp
 obtain⟨q1,q2⟩:=Bool.and_eq_true_iff.1 q1
 obtain⟨q2,q3⟩:=Bool.and_eq_true_iff.1 q2
 rw[←lawB_lk];exact W12_all _ _ _ _ _ _ _ _ _ _ _ (okS_wf ((x0,x1,x2,x3):Ty.den TLay) ql) q1 q2 q3
theorem cs_k12_ok:CsOk Try.prog cs_k12:=a0g cs_k11_ok Bk12_ok
def kL13_6 (f:OpT):MBox:=mkM 0 [] [(sh 145 [(1,.ptr 0 0),(2,.int .u64 0),(3,.int .u32 1)],[oD 1,.arr TS 2,.arr TPt 3,.arr TPt 4,.arr TRt 5])] [] [(.exit 2,sh 145 [(1,.ptr 0 0),(2,.int .u64 0)],[oD 1,.arr TS 1,.arr TPt 2,.arr TPt 3,.arr TRt 4]),(.ret,sh 145 [(0,.bool 0)],[])] f
def st_L13_6 (env:LDt):Tree Step:=Lk.stepMC false LK cs_k12 13 6 ls0 (kL13_6 fun _=>none) env
def op_L13_6:OpT:=Classical.choose (opq (a0b st_L13_6 FU))
theorem op_L13_6_eq (env:LDt):op_L13_6 env=a0b st_L13_6 FU env:=Classical.choose_spec (opq (a0b st_L13_6 FU)) env
def L13_6:MBox:=kL13_6 op_L13_6
theorem L13_6_eqs:L13_6=kL13_6 (a0b st_L13_6 FU):=congrArg kL13_6 (funext op_L13_6_eq)
theorem L13_6_run: ∀t s x,(a0h L13_6 t s).sel=some x→a0k Try.prog 0 (.loop (cAt Try.prog 13 6)) t s x:=by
 rw[L13_6_eqs]
 exact a0o (st:=st_L13_6) (m:=FU) cs_k12_ok hmix false (LsOk.none _ _ _) (by kernel_rfl) (fun env y h=>by rw[←a0f];exact h)
def fn_L13_6_t:LDt→Tree Step
 |[.n n0,.n n1,.l TS l2,.l TPt l3,.l TPt l4,.l TRt l5]=>
  (.node (decide (n1<(8:Int)))
   (let r1:OD:=(op_k10 [.l TS l2,.l TPt l3,.l TPt l4,.l TRt l5,.n (iand IntKind.u64 (iand IntKind.u64 (IntKind.wrap .u64 (n0*(5:Int))) (63:Int)) (IntKind.wrap .u64 (IntKind.wrap .u32 (n1*(9:Int))))),.n (iand IntKind.u32 n1 (3:Int)),.n (iand IntKind.u32 (ishr IntKind.u32 n1 (1:Int)) (3:Int)),.l (Ty.pair (Ty.int IntKind.u8) TI) [],.n n0,.n (ishr IntKind.u32 n1 (1:Int))]);
   (.node (isK 0 [HK.b] r1)
    (.node (!gb (dOf r1) 0)
    (.leaf (Step.stop 1 [.b false]))
    (let r2:OD:=(op_k10 [.l TS l2,.l TPt l3,.l TPt l4,.l TRt l5,.n (0:Int),.n (3:Int),.n (0:Int),.l (Ty.pair (Ty.int IntKind.u8) TI) [],.n n0,.n (ishr IntKind.u32 n1 (1:Int))]);
     (.node (isK 0 [HK.b] r2)
     (.node (!gb (dOf r2) 0)
      (.leaf (Step.stop 1 [.b false]))
      (let r3:OD:=(op_k10 [.l TS l2,.l TPt l3,.l TPt l4,.l TRt l5,.n (0:Int),.n (2:Int),.n (1:Int),.l (Ty.pair (Ty.int IntKind.u8) TI) [],.n n0,.n (ishr IntKind.u32 n1 (1:Int))]);
      (.node (isK 0 [HK.b] r3)
       (.node (!gb (dOf r3) 0)
       (.leaf (Step.stop 1 [.b false]))
       (.node (n1==(3:Int))
        (let r4:OD:=(op_k12 [.l TS l2,.l TPt l3,.l TPt l4,.l TRt l5,.n (iand IntKind.u64 (iand IntKind.u64 (IntKind.wrap .u64 (n0*(5:Int))) (63:Int)) (IntKind.wrap .u64 (IntKind.wrap .u32 (n1*(9:Int))))),.n (iand IntKind.u32 n1 (3:Int)),.n (iand IntKind.u32 (ishr IntKind.u32 n1 (1:Int)) (3:Int)),.l (Ty.pair (Ty.int IntKind.u8) TI) [],.n n0,.n (ishr IntKind.u32 n1 (1:Int)),.n (IntKind.wrap .u64 (n0*(7:Int)))]);
        (.node (isK 0 [HK.b] r4)
         (.node (!gb (dOf r4) 0)
         (.leaf (Step.stop 1 [.b false]))
         (.leaf (Step.go [.k 0,.n n0,.n (IntKind.wrap .u32 (n1+(1:Int))),.l TS l2,.l TPt l3,.l TPt l4,.l TRt l5])))
         (.bad 351)))
        (.leaf (Step.go [.k 0,.n n0,.n (IntKind.wrap .u32 (n1+(1:Int))),.l TS l2,.l TPt l3,.l TPt l4,.l TRt l5]))))
       (.bad 351))))
     (.bad 351))))
    (.bad 351)))
   (.leaf (Step.stop 0 [.n n0,.l TS l2,.l TPt l3,.l TPt l4,.l TRt l5])))
 |_=>.bad 0
theorem fn_L13_6_t_im (n0:Int)(n1:Int)(l2:DS)(l3:DP)(l4:DP)(l5:DR)(g0:0≤n0)(g1:n0<64)(g2:0≤n1)(g3:n1≤8):Imp (fn_L13_6_t [.n n0,.n n1,.l TS l2,.l TPt l3,.l TPt l4,.l TRt l5]) (st_L13_6 [.k 0,.n n0,.n n1,.l TS l2,.l TPt l3,.l TPt l4,.l TRt l5]):=
(.pa [1]
(.nd (fun h0=>
(.pa [1,1]
(.nd (fun h1=>
(.pa [1]
(.nd (fun h2=>
(.pa [1,1,1,1,1,1,1]
.lf)) (fun h2=>
(.nd (fun h3=>
(.pa [1]
(.nd (fun h4=>
(.pa [1,1,1,1,1]
.lf)) (fun h4=>
(.nd (fun h5=>
(.pa [1]
(.nd (fun h6=>
(.pa [1,1,1]
.lf)) (fun h6=>
(.nd (fun h7=>
(.nd (fun h8=>
(.pa [1]
(.nd (fun h9=>
(.pa [1]
.lf)) (fun h9=>
(.pa [1]
.lf))))) (fun h8=>
.none))) (fun h7=>
(.pa [0,0,1]
.lf))))))) (fun h5=>
.none)))))) (fun h3=>
.none)))))) (fun h1=>
.none)))) (fun h0=>
(.pa [1]
.lf))))
def kL13_3 (f:OpT):MBox:=mkM 0 [] [(sh 145 [(1,.ptr 0 0),(2,.int .u64 0)],[oD 1,.arr TS 1,.arr TPt 2,.arr TPt 3,.arr TRt 4])] [] [(.exit 0,sh 145 [(1,.ptr 0 0)],[oD 1,.arr TS 0,.arr TPt 1,.arr TPt 2,.arr TRt 3]),(.ret,sh 145 [(0,.bool 0)],[])] f
def st_L13_3 (env:LDt):Tree Step:=Lk.stepMC false LK cs_k12 13 3 (lsM [(6,L13_6)] 0) (kL13_3 fun _=>none) env
def op_L13_3:OpT:=Classical.choose (opq (a0b st_L13_3 FU))
theorem op_L13_3_eq (env:LDt):op_L13_3 env=a0b st_L13_3 FU env:=Classical.choose_spec (opq (a0b st_L13_3 FU)) env
def L13_3:MBox:=kL13_3 op_L13_3
theorem L13_3_eqs:L13_3=kL13_3 (a0b st_L13_3 FU):=congrArg kL13_3 (funext op_L13_3_eq)
theorem L13_3_in:LsOk Try.prog 0 (lsM [(6,L13_6)] 0) (cAt Try.prog 13 3):=LsOk.many fun j B hB hk c hc hi=>by
 simp only[b0d]at hB
 split at hB
 ·rename_i e;have:=Nat.eq_of_beq_eq_true e;subst this;cases hB
  have e1:v0m (cAt Try.prog 13 3) 6=[cAt Try.prog 13 6]:=by kernel_rfl
  have e2:=a0d hc hi
  rw[e1]at e2;cases List.mem_singleton.1 e2;exact L13_6_run
 cases hB
theorem L13_3_run: ∀t s x,(a0h L13_3 t s).sel=some x→a0k Try.prog 0 (.loop (cAt Try.prog 13 3)) t s x:=by
 rw[L13_3_eqs]
 exact a0o (st:=st_L13_3) (m:=FU) cs_k12_ok hmix false (L13_3_in) (by kernel_rfl) (fun env y h=>by rw[←a0f];exact h)
def fn_L13_3_t:LDt→Tree Step
 |[.n n0,.l TS l1,.l TPt l2,.l TPt l3,.l TRt l4]=>
  (.node (decide (n0<(64:Int)))
   (let r1:OD:=(op_L13_6 [.k 0,.n n0,.n (0:Int),.l TS l1,.l TPt l2,.l TPt l3,.l TRt l4]);
   (.node (isK 0 [HK.n,HK.l Ty.str,HK.l TPt,HK.l TPt,HK.l TRt] r1)
    (.leaf (Step.go [.k 0,.n (IntKind.wrap .u64 (gn (dOf r1) 0+(1:Int))),.l TS (gl Ty.str (dOf r1) 1),.l TPt (gl TPt (dOf r1) 2),.l TPt (gl TPt (dOf r1) 3),.l TRt (gl TRt (dOf r1) 4)]))
    (.node (isK 1 [HK.b] r1)
    (.leaf (Step.stop 1 [.b (gb (dOf r1) 0)]))
    (.bad 351))))
   (.leaf (Step.stop 0 [.l TS l1,.l TPt l2,.l TPt l3,.l TRt l4])))
 |_=>.bad 0
theorem fn_L13_3_t_im (n0:Int)(l1:DS)(l2:DP)(l3:DP)(l4:DR)(g0:0≤n0)(g1:n0≤64):Imp (fn_L13_3_t [.n n0,.l TS l1,.l TPt l2,.l TPt l3,.l TRt l4]) (st_L13_3 [.k 0,.n n0,.l TS l1,.l TPt l2,.l TPt l3,.l TRt l4]):=
(.pa [1]
(.nd (fun h0=>
(.nd (fun h1=>
(.pa [1]
.lf)) (fun h1=>
(.nd (fun h2=>
(.pa [1]
.lf)) (fun h2=>
.none))))) (fun h0=>
(.pa [1]
.lf))))
theorem ls_13_ok:LsOk Try.prog (0) (lsM [(3,L13_3)] (0)) (a0r Try.prog 13):=LsOk.many fun j B hB hk c hc hi=>by
 simp only[b0d]at hB
 split at hB
 ·rename_i e;have:=Nat.eq_of_beq_eq_true e;subst this;cases hB
  rw[a0y (f:=13) (i:=3) (a0e (by kernel_rfl)) (a0d hc hi)];exact L13_3_run
 cases hB
def ev_W13 (env:LDt):Tree Bool:=Lk.lawB false LK cs_k12 13 (lsM [(3,L13_3)] (0)) (instL [] env)
theorem W13_law (env:LDt)(h:(ev_W13 env).sel=some true){w:World}{args:Array Value}(ha:LRel R0 (b0k w) (instL [] env) args):
  Calls Try.prog 13 args w fun e w'=>e=.returned (.bool true)∧Below w.heap.size w w':=
 lawB_ok cs_k12_ok hmix false (ls:=(lsM [(3,L13_3)] (0))) (ls_13_ok) (by rw[←lawB_lk];exact h) ha
def fn_W13_t:LDt→Tree Bool
 |[]=>
  (let r1:OD:=(op_L13_3 [.k 0,.n (0:Int),.l TS [{data:={toList:=[(97:UInt8)]}},{data:={toList:=[(98:UInt8)]}},{data:={toList:=[(99:UInt8)]}},{data:={toList:=[(100:UInt8)]}},{data:={toList:=[(101:UInt8)]}},{data:={toList:=[(102:UInt8)]}}],.l TPt [({data:={toList:=[(80:UInt8)]}},(1:Int)),({data:={toList:=[(81:UInt8)]}},(3:Int))],.l TPt [({data:={toList:=[(71:UInt8)]}},(0:Int)),({data:={toList:=[(72:UInt8)]}},(4:Int)),({data:={toList:=[(75:UInt8)]}},(5:Int))],.l TRt [({data:={toList:=[(82:UInt8),(49:UInt8)]}},(0:Int),[(1:Int),(2:Int)],[((0:Int),false),((1:Int),false)],[(3:Int)],[]),({data:={toList:=[(82:UInt8),(50:UInt8)]}},(0:Int),[(1:Int),(5:Int)],[((0:Int),true)],[],[]),({data:={toList:=[(82:UInt8),(51:UInt8)]}},(1:Int),[(3:Int),(2:Int)],[((1:Int),false)],[],[]),({data:={toList:=[(82:UInt8),(52:UInt8)]}},(2:Int),[(4:Int)],[],[],[((1:Int),true)]),({data:={toList:=[(82:UInt8),(53:UInt8)]}},(1:Int),[(3:Int)],[((1:Int),true)],[(5:Int)],[])]]);
   (.node (isK 0 [HK.l Ty.str,HK.l TPt,HK.l TPt,HK.l TRt] r1)
   (let r2:OD:=(op_k10 [.l TS (gl Ty.str (dOf r1) 0),.l TPt (gl TPt (dOf r1) 1),.l TPt (gl TPt (dOf r1) 2),.l TRt (gl TRt (dOf r1) 3),.n (0:Int),.n (0:Int),.n (0:Int),.l (Ty.pair (Ty.int IntKind.u8) TI) [],.n (9223372036854775808:Int),.n (0:Int)]);
    (.node (isK 0 [HK.b] r2)
    (.node (gb (dOf r2) 0)
     (let r3:OD:=(op_k10 [.l TS (gl Ty.str (dOf r1) 0),.l TPt (gl TPt (dOf r1) 1),.l TPt (gl TPt (dOf r1) 2),.l TRt (gl TRt (dOf r1) 3),.n (0:Int),.n (0:Int),.n (0:Int),.l (Ty.pair (Ty.int IntKind.u8) TI) [],.n (0:Int),.n (2147483648:Int)]);
     (.node (isK 0 [HK.b] r3)
      (.node (gb (dOf r3) 0)
      (let r4:OD:=(op_k11 [.l TS (gl Ty.str (dOf r1) 0),.l TPt (gl TPt (dOf r1) 1),.l TPt (gl TPt (dOf r1) 2),.l TRt (gl TRt (dOf r1) 3),.l (Ty.pair TU (Ty.pair (Ty.int IntKind.u32) (Ty.pair (Ty.int IntKind.u32) (Ty.sl (Ty.pair (Ty.int IntKind.u8) TI))))) [Ty.dflt (Ty.pair TU (Ty.pair (Ty.int IntKind.u32) (Ty.pair (Ty.int IntKind.u32) (Ty.sl (Ty.pair (Ty.int IntKind.u8) TI))))),Ty.dflt (Ty.pair TU (Ty.pair (Ty.int IntKind.u32) (Ty.pair (Ty.int IntKind.u32) (Ty.sl (Ty.pair (Ty.int IntKind.u8) TI))))),Ty.dflt (Ty.pair TU (Ty.pair (Ty.int IntKind.u32) (Ty.pair (Ty.int IntKind.u32) (Ty.sl (Ty.pair (Ty.int IntKind.u8) TI)))))],.l (Ty.pair TU (Ty.int IntKind.u32)) [((0:Int),(0:Int)),((1:Int),(0:Int))]]);
       (.node (isK 0 [HK.b] r4)
       (.node (gb (dOf r4) 0)
        (let r5:OD:=(op_k11 [.l TS (gl Ty.str (dOf r1) 0),.l TPt (gl TPt (dOf r1) 1),.l TPt (gl TPt (dOf r1) 2),.l TRt (gl TRt (dOf r1) 3),.l (Ty.pair TU (Ty.pair (Ty.int IntKind.u32) (Ty.pair (Ty.int IntKind.u32) (Ty.sl (Ty.pair (Ty.int IntKind.u8) TI))))) [],.l (Ty.pair TU (Ty.int IntKind.u32)) [Ty.dflt (Ty.pair TU (Ty.int IntKind.u32)),Ty.dflt (Ty.pair TU (Ty.int IntKind.u32))]]);
        (.node (isK 0 [HK.b] r5)
         (.node (gb (dOf r5) 0)
         (.leaf (true))
         (.leaf (false)))
         (.bad 351)))
        (.leaf (false)))
       (.bad 351)))
      (.leaf (false)))
      (.bad 351)))
     (.leaf (false)))
    (.bad 351)))
   (.node (isK 1 [HK.b] r1)
    (.leaf (gb (dOf r1) 0))
    (.bad 351))))
 |_=>.bad 0
theorem fn_W13_t_im:Imp (fn_W13_t []) (ev_W13 []):=
(.pa [1,1]
(.nd (fun h0=>
(.pa (pth 174 0x3fefffffffffffffffffffffffffffffffffffffffff)
(.nd (fun h1=>
(.pa [1]
(.nd (fun h2=>
(.nd (fun h3=>
(.pa [1]
(.nd (fun h4=>
(.pa [1]
(.nd (fun h5=>
(.pa [1]
(.nd (fun h6=>
(.pa [1]
(.nd (fun h7=>
(.pa [1]
(.nd (fun h8=>
(.pa [1,1,1,1,1,1,1]
.lf)) (fun h8=>
(.pa [0,0,0,1]
.lf))))) (fun h7=>
.none)))) (fun h6=>
(.pa [0,0,0,0,0,1]
.lf))))) (fun h5=>
.none)))) (fun h4=>
(.pa [0,0,0,0,0,0,0,1]
.lf))))) (fun h3=>
.none))) (fun h2=>
(.pa [0,0,0,0,0,0,0,0,0,1]
.lf))))) (fun h1=>
.none)))) (fun h0=>
(.nd (fun h1=>
.lf) (fun h1=>
.none)))))
theorem k10t (a:LS)(b c:LP)(r:LR)(oc nm rv:Int)(cm:List (Ty.den TCmd))(pr pt:Int)(hl:wfD TLaz ((a,b,c,r):Ty.den TLaz)=true)(h0:wfD (.int .u64) oc=true)(h1:wfD (.int .u64) pr=true)(h2:wfD (.int .u32) pt=true):op_k10 [.l TS a,.l TPt b,.l TPt c,.l TRt r,.n oc,.n nm,.n rv,.l TCmd cm,.n pr,.n pt]=some (0,[.b true]):=by
 have hp:p10v [.l TS a,.l TPt b,.l TPt c,.l TRt r,.n oc,.n nm,.n rv,.l TCmd cm,.n pr,.n pt]=true:=Bool.and_eq_true_iff.2 ⟨hl,Bool.and_eq_true_iff.2 ⟨h0,Bool.and_eq_true_iff.2 ⟨h1,h2⟩⟩⟩
 unfold op_k10 lawOpP
 rw[hp];rfl
theorem k11t (a:LS)(b c:LP)(r:LR)(R:LIp)(Q:LOt)(hl:wfD TLaz ((a,b,c,r):Ty.den TLaz)=true)(h1:R.all (wfD TInp)=true)(h2:Q.all (wfD TOut)=true):op_k11 [.l TS a,.l TPt b,.l TPt c,.l TRt r,.l TInp R,.l TOut Q]=some (0,[.b true]):=by
 have hp:p11v [.l TS a,.l TPt b,.l TPt c,.l TRt r,.l TInp R,.l TOut Q]=true:=Bool.and_eq_true_iff.2 ⟨hl,Bool.and_eq_true_iff.2 ⟨h1,h2⟩⟩
 unfold op_k11 lawOpP
 rw[hp];rfl
theorem k12t (a:LS)(b c:LP)(r:LR)(oc nm rv:Int)(cm:List (Ty.den TCmd))(pr pt mk:Int)(hl:wfD TLaz ((a,b,c,r):Ty.den TLaz)=true)(h1:wfD (.int .u64) pr=true)(h2:wfD (.int .u32) pt=true)(h3:wfD (.int .u64) mk=true):op_k12 [.l TS a,.l TPt b,.l TPt c,.l TRt r,.n oc,.n nm,.n rv,.l TCmd cm,.n pr,.n pt,.n mk]=some (0,[.b true]):=by
 have hp:p12v [.l TS a,.l TPt b,.l TPt c,.l TRt r,.n oc,.n nm,.n rv,.l TCmd cm,.n pr,.n pt,.n mk]=true:=Bool.and_eq_true_iff.2 ⟨hl,Bool.and_eq_true_iff.2 ⟨h1,Bool.and_eq_true_iff.2 ⟨h2,h3⟩⟩⟩
 unfold op_k12 lawOpP
 rw[hp];rfl
def okKn (n0 n1:Int):Bool:=wfD (.int .u64) (iand IntKind.u64 (iand IntKind.u64 (IntKind.wrap .u64 (n0*(5:Int))) (63:Int)) (IntKind.wrap .u64 (IntKind.wrap .u32 (n1*(9:Int)))))&&(wfD (.int .u64) n0&&(wfD (.int .u32) (ishr IntKind.u32 n1 (1:Int))&&(wfD (.int .u64) (IntKind.wrap .u64 (n0*(7:Int)))&&(decide (IntKind.wrap .u32 (n1+(1:Int))=n1+1)&&decide (IntKind.wrap .u64 (n0+(1:Int))=n0+1)))))
theorem h3e:((List.range 64).all fun i=>(List.range 8).all fun j=>okKn (i:Int) (j:Int))=true:=by kernel_rfl
theorem h3c {i j:Nat}(hi:i<64)(hj:j<8):okKn (i:Int) (j:Int)=true:=List.all_eq_true.1 (List.all_eq_true.1 h3e i (List.mem_range.2 hi)) j (List.mem_range.2 hj)
theorem lp13i (m:Nat)(hm:m<64)(a:LS)(b c:LP)(r:LR)(hl:wfD TLaz ((a,b,c,r):Ty.den TLaz)=true):op_L13_6 [.k 0,.n (m:Int),.n (0:Int),.l TS a,.l TPt b,.l TPt c,.l TRt r]=some (0,[.n (m:Int),.l TS a,.l TPt b,.l TPt c,.l TRt r]):=by
 rw[op_L13_6_eq]
 refine b0a (st:=st_L13_6) (fun i=>[.k 0,.n (m:Int),.n (i:Int),.l TS a,.l TPt b,.l TPt c,.l TRt r]) 8 (0,[.n (m:Int),.l TS a,.l TPt b,.l TPt c,.l TRt r]) (fun i hi=> ?_) ?_ FU (by unfold FU;omega)
 ·obtain⟨q0,q⟩:=Bool.and_eq_true_iff.1 (h3c hm hi)
  obtain⟨q1,q⟩:=Bool.and_eq_true_iff.1 q
  obtain⟨q2,q⟩:=Bool.and_eq_true_iff.1 q
  obtain⟨q3,q⟩:=Bool.and_eq_true_iff.1 q
  obtain⟨q4,q5⟩:=Bool.and_eq_true_iff.1 q
  have q4:=of_decide_eq_true q4
  refine fn_L13_6_t_im _ _ _ _ _ _ (by omega) (by omega) (by omega) (by omega) _ ?_
  unfold fn_L13_6_t
  refine a0a (dt (show(i:Int)<8 by omega)) ?_
  dsimp only
  erw[k10t a b c r _ _ _ _ _ _ hl q0 q1 q2,k10t a b c r _ _ _ _ _ _ hl (by kernel_rfl) q1 q2,k12t a b c r _ _ _ _ _ _ _ hl q1 q2 q3,q4]
  refine a0a rfl (a0c rfl (a0a rfl (a0c rfl (a0a rfl (a0c rfl ?_)))))
  by_cases h:(i:Int)=3
  ·exact a0a (by rw[h];rfl) (a0a rfl (a0c rfl rfl))
  ·exact a0c (by simpa using h) rfl
 ·refine fn_L13_6_t_im _ _ _ _ _ _ (by omega) (by omega) (by omega) (by omega) _ ?_
  unfold fn_L13_6_t
  exact a0c rfl rfl
theorem lp13w (a:LS)(b c:LP)(r:LR)(hl:wfD TLaz ((a,b,c,r):Ty.den TLaz)=true):op_L13_3 [.k 0,.n (0:Int),.l TS a,.l TPt b,.l TPt c,.l TRt r]=some (0,[.l TS a,.l TPt b,.l TPt c,.l TRt r]):=by
 rw[op_L13_3_eq]
 refine b0a (st:=st_L13_3) (fun i=>[.k 0,.n (i:Int),.l TS a,.l TPt b,.l TPt c,.l TRt r]) 64 (0,[.l TS a,.l TPt b,.l TPt c,.l TRt r]) (fun i hi=> ?_) ?_ FU (by unfold FU;omega)
 ·obtain⟨q0,q⟩:=Bool.and_eq_true_iff.1 (h3c hi (show 0<8 by omega))
  obtain⟨q1,q⟩:=Bool.and_eq_true_iff.1 q
  obtain⟨q2,q⟩:=Bool.and_eq_true_iff.1 q
  obtain⟨q3,q⟩:=Bool.and_eq_true_iff.1 q
  obtain⟨q4,q5⟩:=Bool.and_eq_true_iff.1 q
  have q5:=of_decide_eq_true q5
  have e:=lp13i i hi a b c r hl
  refine fn_L13_3_t_im _ _ _ _ _ (by omega) (by omega) _ ?_
  unfold fn_L13_3_t
  refine a0a (dt (show(i:Int)<64 by omega)) ?_
  dsimp only
  erw[e]
  refine a0a rfl ?_
  show _=some (Step.go [.k 0,.n ((i:Int)+1),.l TS a,.l TPt b,.l TPt c,.l TRt r])
  rw[←q5];rfl
 ·refine fn_L13_3_t_im _ _ _ _ _ (by omega) (by omega) _ ?_
  unfold fn_L13_3_t
  exact a0c rfl rfl
theorem h3d:(ev_W13 []).sel=some true:=by
 refine fn_W13_t_im _ ?_
 unfold fn_W13_t
 dsimp only
 erw[lp13w _ _ _ _ (by kernel_rfl)]
 refine a0a rfl ?_
 erw[k10t _ _ _ _ _ _ _ _ _ _ (by kernel_rfl) (by kernel_rfl) (by kernel_rfl) (by kernel_rfl)]
 refine a0a rfl (a0a rfl ?_)
 refine a0a rfl (a0a rfl ?_)
 erw[k11t _ _ _ _ _ _ (by kernel_rfl) (by kernel_rfl) (by kernel_rfl)]
 refine a0a rfl (a0a rfl ?_)
 exact a0a rfl (a0a rfl rfl)
end Go.Proofs.Ytfkcodaiiheniaa.Vx
end
