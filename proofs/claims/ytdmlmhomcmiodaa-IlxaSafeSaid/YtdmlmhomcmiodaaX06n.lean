import Derived.Test.YtdmlmhomcmiodaaVxIm
import Derived.Test.YtdmlmhomcmiodaaVxLk
import Derived.Test.YtdmlmhomcmiodaaVxLaw
import Derived.Test.YtdmlmhomcmiodaaX06m
import Derived.KernelRfl
noncomputable section
namespace Go.Proofs.Ytdmlmhomcmiodaa.Vx
open Go Go.RowKit
set_option linter.unusedVariables false
set_option linter.unusedSimpArgs false
set_option maxRecDepth 100000
set_option maxHeartbeats 0
def rtV (h:Nat):PV:=.agg [.str h,.int .i64 (h+1),.imm TI (h+2),.imm TNd (h+3),.imm TI (h+4),.imm TNd (h+5)]
def rtB (h:Nat):PB:=.cells [.str h,.int .i64 (h+1),.imm TI (h+2),.imm TNd (h+3),.imm TI (h+4),.imm TNd (h+5)]
def fnV (f:Nat)(cs:List PV):PV:=.fn (.func f) [] cs
def kq9 (f:OpT):FBox:=mkF [rtV 0] [] [] [(.own 0,[.arr TI 0])] f
def ev_9 (env:LDt):TD:=Lk.boxC false LK cs_28 29 ls0 (kq9 fun _=>none) env
def op_9:OpT:=Classical.choose (opq (fun env=>(ev_9 env).sel))
theorem p2t (env:LDt):op_9 env=(ev_9 env).sel:=Classical.choose_spec (opq (fun env=>(ev_9 env).sel)) env
def B9:FBox:=kq9 op_9
theorem B9_ok:a0v Try.prog 29 (a0j B9):=a0p (op:=op_9) y1m hmix false (LsOk.none _ _ _) (fun env x h=>by rw[p2t]at h;rw[←boxC_lk];exact h)
def fn_9_t:LDt→TD
 |[.s s0,.n n1,.l TI l2,.l TNd l3,.l TI l4,.l TNd l5]=>
  (.node (true&&decide ((0:Int)≤IntKind.wrap .i64 ((↑(List.length l2):Int)+(↑(List.length l4):Int)))&&decide (IntKind.wrap .i64 ((↑(List.length l2):Int)+(↑(List.length l4):Int))*(8:Int)≤(281474976710656:Int)))
   (.node (decide ((0+List.length l2)*8≤140737488355328))
   (.node (decide ((List.length ([]++l2)+List.length l4)*8≤140737488355328))
    (.leaf ((0,[.l TI ([]++l2++l4)])))
    (.bad 62))
   (.bad 62))
   (.bad 50))
 |_=>.bad 0
theorem h2u (s0:ByteArray)(n1:Int)(l2:DI)(l3:DD)(l4:DI)(l5:DD):Imp (fn_9_t [.s s0,.n n1,.l TI l2,.l TNd l3,.l TI l4,.l TNd l5]) (ev_9 [.s s0,.n n1,.l TI l2,.l TNd l3,.l TI l4,.l TNd l5]):=
(.pa [1]
(.nd (fun h0=>
(.nd (fun h1=>
(.nd (fun h2=>
(.pa [1,1]
.lf)) (fun h2=>
.none))) (fun h1=>
.none))) (fun h0=>
.none)))
def cs_9:FuncId→Option a0q:=a0s 29 B9 cs_28
theorem j2n:CsOk Try.prog cs_9:=a0g y1m B9_ok
def kq10 (f:OpT):FBox:=mkF [rtV 0] [] [] [(.own 0,[.arr TNd 0])] f
def r2x (env:LDt):TD:=Lk.boxC false LK cs_9 30 ls0 (kq10 fun _=>none) env
def t1a:OpT:=Classical.choose (opq (fun env=>(r2x env).sel))
theorem x1z (env:LDt):t1a env=(r2x env).sel:=Classical.choose_spec (opq (fun env=>(r2x env).sel)) env
def B10:FBox:=kq10 t1a
theorem B10_ok:a0v Try.prog 30 (a0j B10):=a0p (op:=t1a) j2n hmix false (LsOk.none _ _ _) (fun env x h=>by rw[x1z]at h;rw[←boxC_lk];exact h)
def o2b:LDt→TD
 |[.s s0,.n n1,.l TI l2,.l TNd l3,.l TI l4,.l TNd l5]=>
  (.node (true&&decide ((0:Int)≤IntKind.wrap .i64 ((↑(List.length l3):Int)+(↑(List.length l5):Int)))&&decide (IntKind.wrap .i64 ((↑(List.length l3):Int)+(↑(List.length l5):Int))*(16:Int)≤(281474976710656:Int)))
   (.node (decide ((0+List.length l3)*16≤140737488355328))
   (.node (decide ((List.length ([]++l3)+List.length l5)*16≤140737488355328))
    (.leaf ((0,[.l TNd ([]++l3++l5)])))
    (.bad 62))
   (.bad 62))
   (.bad 50))
 |_=>.bad 0
theorem d2h (s0:ByteArray)(n1:Int)(l2:DI)(l3:DD)(l4:DI)(l5:DD):Imp (o2b [.s s0,.n n1,.l TI l2,.l TNd l3,.l TI l4,.l TNd l5]) (r2x [.s s0,.n n1,.l TI l2,.l TNd l3,.l TI l4,.l TNd l5]):=
(.pa [1]
(.nd (fun h0=>
(.nd (fun h1=>
(.nd (fun h2=>
(.pa [1,1]
.lf)) (fun h2=>
.none))) (fun h1=>
.none))) (fun h0=>
.none)))
def cs_10:FuncId→Option a0q:=a0s 30 B10 cs_9
theorem y1s:CsOk Try.prog cs_10:=a0g j2n B10_ok
def v2i (env:LDt):TD:=Lk.boxC false LK cs_10 49 ls0 (kq9 fun _=>none) env
def h1f:OpT:=Classical.choose (opq (fun env=>(v2i env).sel))
theorem v1k (env:LDt):h1f env=(v2i env).sel:=Classical.choose_spec (opq (fun env=>(v2i env).sel)) env
def B11:FBox:=kq9 h1f
theorem B11_ok:a0v Try.prog 49 (a0j B11):=a0p (op:=h1f) y1s hmix false (LsOk.none _ _ _) (fun env x h=>by rw[v1k]at h;rw[←boxC_lk];exact h)
def q2d:LDt→TD
 |[.s s0,.n n1,.l TI l2,.l TNd l3,.l TI l4,.l TNd l5]=>
  (.node (decide (List.length l2*8≤140737488355328))
   (.node (decide ((List.length l2+List.length l4)*8≤140737488355328))
   (.leaf ((0,[.l TI (l2++l4)])))
   (.bad 62))
   (.bad 60))
 |_=>.bad 0
theorem f2i (s0:ByteArray)(n1:Int)(l2:DI)(l3:DD)(l4:DI)(l5:DD):Imp (q2d [.s s0,.n n1,.l TI l2,.l TNd l3,.l TI l4,.l TNd l5]) (v2i [.s s0,.n n1,.l TI l2,.l TNd l3,.l TI l4,.l TNd l5]):=
(.nd (fun h0=>
(.nd (fun h1=>
(.pa [1]
.lf)) (fun h1=>
.none))) (fun h0=>
.none))
def cs_11:FuncId→Option a0q:=a0s 49 B11 cs_10
theorem u1r:CsOk Try.prog cs_11:=a0g y1s B11_ok
def u2a (env:LDt):TD:=Lk.boxC false LK cs_11 43 ls0 (kq10 fun _=>none) env
def i1r:OpT:=Classical.choose (opq (fun env=>(u2a env).sel))
theorem y1p (env:LDt):i1r env=(u2a env).sel:=Classical.choose_spec (opq (fun env=>(u2a env).sel)) env
def B12:FBox:=kq10 i1r
theorem B12_ok:a0v Try.prog 43 (a0j B12):=a0p (op:=i1r) u1r hmix false (LsOk.none _ _ _) (fun env x h=>by rw[y1p]at h;rw[←boxC_lk];exact h)
def m2o:LDt→TD
 |[.s s0,.n n1,.l TI l2,.l TNd l3,.l TI l4,.l TNd l5]=>
  (.node (decide (List.length l3*16≤140737488355328))
   (.node (decide ((List.length l3+List.length l5)*16≤140737488355328))
   (.leaf ((0,[.l TNd (l3++l5)])))
   (.bad 62))
   (.bad 60))
 |_=>.bad 0
theorem d2t (s0:ByteArray)(n1:Int)(l2:DI)(l3:DD)(l4:DI)(l5:DD):Imp (m2o [.s s0,.n n1,.l TI l2,.l TNd l3,.l TI l4,.l TNd l5]) (u2a [.s s0,.n n1,.l TI l2,.l TNd l3,.l TI l4,.l TNd l5]):=
(.nd (fun h0=>
(.nd (fun h1=>
(.pa [1]
.lf)) (fun h1=>
.none))) (fun h0=>
.none))
def b2p:FuncId→Option a0q:=a0s 43 B12 cs_11
theorem t0q:CsOk Try.prog b2p:=a0g u1r B12_ok
def r4r (f:OpT):MBox:=mkM 1 [] [(sh 17 [(1,fnV 135 [.ptr 0 0]),(7,.imm TI 0),(8,.int .i64 1),(9,.int .i64 2)],[.cells [.int .i64 3]])] [] [(.exit 0,sh 17 [],[.gone]),(.ret,sh 17 [(4,.bool 0)],[.gone])] f
def i0m (env:LDt):Tree Step:=Lk.stepMC false LK b2p 134 2 ls0 (r4r fun _=>none) env
def t0l:OpT:=Classical.choose (opq (a0b i0m FU))
theorem w0h (env:LDt):t0l env=a0b i0m FU env:=Classical.choose_spec (opq (a0b i0m FU)) env
def v1p:MBox:=r4r t0l
theorem g2j:v1p=r4r (a0b i0m FU):=congrArg r4r (funext w0h)
theorem f2d: ∀t s x,(a0h v1p t s).sel=some x→a0k Try.prog 1 (.loop (cAt Try.prog 134 2)) t s x:=by
 rw[g2j]
 exact a0o (st:=i0m) (m:=FU) t0q hmix false (LsOk.none _ _ _) (by kernel_rfl) (fun env y h=>by rw[←stepMC_lk];exact h)
def j0y:LDt→Tree Step
 |[.l TI l0,.n n1,.n n2,.n n3]=>
  (.node (decide (n2<n1))
   (.node ((List.getD l0 (Int.toNat n2) (0:Int):Int)==n3)
   (.leaf (Step.stop 1 [.b true]))
   (.leaf (Step.go [.k 0,.l TI l0,.n n1,.n (IntKind.wrap .i64 (n2+(1:Int))),.n n3])))
   (.leaf (Step.stop 0 [])))
 |_=>.bad 0
theorem h0p (l0:DI)(n1:Int)(n2:Int)(n3:Int)(g0:0≤n2)(g1:n1=(l0.length:Int)):Imp (j0y [.l TI l0,.n n1,.n n2,.n n3]) (i0m [.k 0,.l TI l0,.n n1,.n n2,.n n3]):=
(.pa [1]
(.nd (fun h0=>
(.pq (c:=(inR n2 (List.length l0)))
(.pa [1,1]
(.nd (fun h1=>
(.pa [1]
.lf)) (fun h1=>
(.pa [1]
.lf)))))) (fun h0=>
(.pa [1]
.lf))))
theorem n2z:LsOk Try.prog (List.length ([.cells [.int .i64 1]]:List PB)) (lsM [(2,v1p)] (List.length ([.cells [.int .i64 1]]:List PB))) (a0r Try.prog 134):=LsOk.many fun j B hB hk c hc hi=>by
 simp only[b0d]at hB
 split at hB
 ·rename_i e;have:=Nat.eq_of_beq_eq_true e;subst this;cases hB
  rw[a0y (f:=134) (i:=2) (a0e (by kernel_rfl)) (a0d hc hi)];exact f2d
 cases hB
def kq51a (f:OpT):FBox:=mkF [.imm TI 0,fnV 135 [.ptr 0 0]] [.cells [.int .i64 1]] [] [(.bool 0,[.gone])] f
def t1t (env:LDt):TD:=Lk.boxC false LK b2p 134 (lsM [(2,v1p)] (List.length ([.cells [.int .i64 1]]:List PB))) (kq51a fun _=>none) env
def m1v:OpT:=Classical.choose (opq (fun env=>(t1t env).sel))
theorem o1u (env:LDt):m1v env=(t1t env).sel:=Classical.choose_spec (opq (fun env=>(t1t env).sel)) env
def B51a:FBox:=kq51a m1v
theorem B51a_ok:a0v Try.prog 134 (a0j B51a):=a0p (op:=m1v) t0q hmix false (n2z) (fun env x h=>by rw[o1u]at h;rw[←boxC_lk];exact h)
def w1h:LDt→TD
 |[.l TI l0,.n n1]=>
  (let r1:OD:=(t0l [.k 0,.l TI l0,.n (↑(List.length l0):Int),.n (0:Int),.n n1]);
   (.node (isK 0 [] r1)
   (.leaf ((0,[.b false])))
   (.node (isK 1 [HK.b] r1)
    (.leaf ((0,[.b (gb (dOf r1) 0)])))
    (.bad 351))))
 |_=>.bad 0
theorem t1f (l0:DI)(n1:Int):Imp (w1h [.l TI l0,.n n1]) (t1t [.l TI l0,.n n1]):=
(.nd (fun h0=>
(.pa [1]
.lf)) (fun h0=>
(.nd (fun h1=>
(.pa [1]
.lf)) (fun h1=>
.none))))
def r4s (f:OpT):MBox:=mkM 2 [] [(sh 17 [(1,fnV 136 [.ptr 0 0,.ptr 1 0]),(7,.imm TI 0),(8,.int .i64 1),(9,.int .i64 2)],[.cells [fnV 121 []],.cells [.int .i64 3]])] [] [(.exit 0,sh 17 [],[.gone,.gone]),(.ret,sh 17 [(4,.bool 0)],[.gone,.gone])] f
def i0h (env:LDt):Tree Step:=Lk.stepMC false LK b2p 134 2 ls0 (r4s fun _=>none) env
def t0g:OpT:=Classical.choose (opq (a0b i0h FU))
theorem w0p (env:LDt):t0g env=a0b i0h FU env:=Classical.choose_spec (opq (a0b i0h FU)) env
def z1x:MBox:=r4s t0g
theorem b2e:z1x=r4s (a0b i0h FU):=congrArg r4s (funext w0p)
theorem c2m: ∀t s x,(a0h z1x t s).sel=some x→a0k Try.prog 2 (.loop (cAt Try.prog 134 2)) t s x:=by
 rw[b2e]
 exact a0o (st:=i0h) (m:=FU) t0q hmix false (LsOk.none _ _ _) (by kernel_rfl) (fun env y h=>by rw[←stepMC_lk];exact h)
def k0n:LDt→Tree Step
 |[.l TI l0,.n n1,.n n2,.n n3]=>
  (.node (decide (n2<n1))
   (.node ((List.getD l0 (Int.toNat n2) (0:Int):Int)==n3)
   (.leaf (Step.stop 1 [.b true]))
   (.leaf (Step.go [.k 0,.l TI l0,.n n1,.n (IntKind.wrap .i64 (n2+(1:Int))),.n n3])))
   (.leaf (Step.stop 0 [])))
 |_=>.bad 0
theorem h0y (l0:DI)(n1:Int)(n2:Int)(n3:Int)(g0:0≤n2)(g1:n1=(l0.length:Int)):Imp (k0n [.l TI l0,.n n1,.n n2,.n n3]) (i0h [.k 0,.l TI l0,.n n1,.n n2,.n n3]):=
(.pa [1]
(.nd (fun h0=>
(.pq (c:=(inR n2 (List.length l0)))
(.pa [1,1,1,1,1,1,1]
(.nd (fun h1=>
(.pa [1]
.lf)) (fun h1=>
(.pa [1]
.lf)))))) (fun h0=>
(.pa [1]
.lf))))
theorem p2k:LsOk Try.prog (List.length ([.cells [fnV 121 []],.cells [.int .i64 1]]:List PB)) (lsM [(2,z1x)] (List.length ([.cells [fnV 121 []],.cells [.int .i64 1]]:List PB))) (a0r Try.prog 134):=LsOk.many fun j B hB hk c hc hi=>by
 simp only[b0d]at hB
 split at hB
 ·rename_i e;have:=Nat.eq_of_beq_eq_true e;subst this;cases hB
  rw[a0y (f:=134) (i:=2) (a0e (by kernel_rfl)) (a0d hc hi)];exact c2m
 cases hB
def kq51b (f:OpT):FBox:=mkF [.imm TI 0,fnV 136 [.ptr 0 0,.ptr 1 0]] [.cells [fnV 121 []],.cells [.int .i64 1]] [] [(.bool 0,[.gone,.gone])] f
def v1y (env:LDt):TD:=Lk.boxC false LK b2p 134 (lsM [(2,z1x)] (List.length ([.cells [fnV 121 []],.cells [.int .i64 1]]:List PB))) (kq51b fun _=>none) env
def l1j:OpT:=Classical.choose (opq (fun env=>(v1y env).sel))
theorem o1i (env:LDt):l1j env=(v1y env).sel:=Classical.choose_spec (opq (fun env=>(v1y env).sel)) env
def B51b:FBox:=kq51b l1j
theorem B51b_ok:a0v Try.prog 134 (a0j B51b):=a0p (op:=l1j) t0q hmix false (p2k) (fun env x h=>by rw[o1i]at h;rw[←boxC_lk];exact h)
def w1j:LDt→TD
 |[.l TI l0,.n n1]=>
  (let r1:OD:=(t0g [.k 0,.l TI l0,.n (↑(List.length l0):Int),.n (0:Int),.n n1]);
   (.node (isK 0 [] r1)
   (.leaf ((0,[.b false])))
   (.node (isK 1 [HK.b] r1)
    (.leaf ((0,[.b (gb (dOf r1) 0)])))
    (.bad 351))))
 |_=>.bad 0
theorem t1e (l0:DI)(n1:Int):Imp (w1j [.l TI l0,.n n1]) (v1y [.l TI l0,.n n1]):=
(.nd (fun h0=>
(.pa [1]
.lf)) (fun h0=>
(.nd (fun h1=>
(.pa [1]
.lf)) (fun h1=>
.none))))
def o2d:FuncId→Option a0q:=e1c 134 [B51a,B51b] b2p
theorem p1s:CsOk Try.prog o2d:=h0a t0q fun B hB=>by
 simp only[List.mem_cons,List.not_mem_nil,or_false]at hB
 rcases hB with rfl|rfl
 ·exact B51a_ok
 ·exact B51b_ok
def kq33 (f:OpT):FBox:=mkF [.imm TI 0,.int .i64 1] [] [] [(.bool 0,[])] f
def u2x (env:LDt):TD:=Lk.boxC false LK o2d 119 ls0 (kq33 fun _=>none) env
def m1g:OpT:=Classical.choose (opq (fun env=>(u2x env).sel))
theorem w1e (env:LDt):m1g env=(u2x env).sel:=Classical.choose_spec (opq (fun env=>(u2x env).sel)) env
def B33:FBox:=kq33 m1g
theorem B33_ok:a0v Try.prog 119 (a0j B33):=a0p (op:=m1g) p1s hmix false (LsOk.none _ _ _) (fun env x h=>by rw[w1e]at h;rw[←boxC_lk];exact h)
def o2o:LDt→TD
 |[.l TI l0,.n n1]=>
  (let r1:OD:=(m1v [.l TI l0,.n n1]);
   (.node (isK 0 [HK.b] r1)
   (.leaf ((0,[.b (gb (dOf r1) 0)])))
   (.bad 351)))
 |_=>.bad 0
theorem a2y (l0:DI)(n1:Int):Imp (o2o [.l TI l0,.n n1]) (u2x [.l TI l0,.n n1]):=
(.pa [1]
(.nd (fun h0=>
(.pa [1,1]
.lf)) (fun h0=>
.none)))
def u2b:FuncId→Option a0q:=a0s 119 B33 o2d
theorem j1l:CsOk Try.prog u2b:=a0g p1s B33_ok
def r4x (f:OpT):MBox:=mkM 0 [] [(sh 20 [(0,.imm TI 0),(3,.ptr 0 0),(7,.imm TI 1),(8,.int .i64 2),(9,.int .i64 3)],[.cells [fnV 121 []]])] [] [(.exit 0,sh 20 [],[]),(.ret,sh 20 [(4,.bool 0)],[])] f
def o0c (env:LDt):Tree Step:=Lk.stepMC false LK u2b 120 2 ls0 (r4x fun _=>none) env
def z0t:OpT:=Classical.choose (opq (a0b o0c FU))
theorem b1n (env:LDt):z0t env=a0b o0c FU env:=Classical.choose_spec (opq (a0b o0c FU)) env
def t2q:MBox:=r4x z0t
theorem o2u:t2q=r4x (a0b o0c FU):=congrArg r4x (funext b1n)
theorem j2v: ∀t s x,(a0h t2q t s).sel=some x→a0k Try.prog 0 (.loop (cAt Try.prog 120 2)) t s x:=by
 rw[o2u]
 exact a0o (st:=o0c) (m:=FU) j1l hmix false (LsOk.none _ _ _) (by kernel_rfl) (fun env y h=>by rw[←stepMC_lk];exact h)
def n0y:LDt→Tree Step
 |[.l TI l0,.n n1,.n n2]=>
  (.node (decide (n2<n1))
   (let r1:OD:=(l1j [.l TI (List.take (Int.toNat n2) l0),.n (List.getD l0 (Int.toNat n2) (0:Int))]);
   (.node (isK 0 [HK.b] r1)
    (.node (gb (dOf r1) 0)
    (.leaf (Step.stop 1 [.b true]))
    (.leaf (Step.go [.k 0,.l TI l0,.l TI l0,.n n1,.n (IntKind.wrap .i64 (n2+(1:Int)))])))
    (.bad 351)))
   (.leaf (Step.stop 0 [])))
 |_=>.bad 0
theorem j0g (l0:DI)(n1:Int)(n2:Int)(g0:0≤n2)(g1:n1=(l0.length:Int)):Imp (n0y [.l TI l0,.n n1,.n n2]) (o0c [.k 0,.l TI l0,.l TI l0,.n n1,.n n2]):=
(.pa [1]
(.nd (fun h0=>
(.pq (c:=(inR n2 (List.length l0)))
(.pq (c:=(decide ((0:Int)≤n2)&&decide (n2≤(↑(List.length l0):Int))))
(.pt (c:=(true&&decide ((0:Int)≤n2))) (by kernel_rfl) (by kernel_rfl) (by(simp[*];done))
(.pa [1]
(.nd (fun h1=>
(.pa [1]
(.nd (fun h2=>
(.pa [1]
.lf)) (fun h2=>
(.pa [1]
.lf))))) (fun h1=>
.none))))))) (fun h0=>
(.pa [1]
.lf))))
theorem r2w:LsOk Try.prog (z0) (lsM [(2,t2q)] (z0)) (a0r Try.prog 120):=LsOk.many fun j B hB hk c hc hi=>by
 simp only[b0d]at hB
 split at hB
 ·rename_i e;have:=Nat.eq_of_beq_eq_true e;subst this;cases hB
  rw[a0y (f:=120) (i:=2) (a0e (by kernel_rfl)) (a0d hc hi)];exact j2v
 cases hB
def kq34 (f:OpT):FBox:=mkF [.imm TI 0,fnV 121 []] [] [] [(.bool 0,[])] f
def t2n (env:LDt):TD:=Lk.boxC false LK u2b 120 (lsM [(2,t2q)] (z0)) (kq34 fun _=>none) env
def k2g:OpT:=Classical.choose (opq (fun env=>(t2n env).sel))
theorem z1a (env:LDt):k2g env=(t2n env).sel:=Classical.choose_spec (opq (fun env=>(t2n env).sel)) env
def B34:FBox:=kq34 k2g
theorem B34_ok:a0v Try.prog 120 (a0j B34):=a0p (op:=k2g) j1l hmix false (r2w) (fun env x h=>by rw[z1a]at h;rw[←boxC_lk];exact h)
def p2w:LDt→TD
 |[.l TI l0]=>
  (let r1:OD:=(z0t [.k 0,.l TI l0,.l TI l0,.n (↑(List.length l0):Int),.n (0:Int)]);
   (.node (isK 0 [] r1)
   (.leaf ((0,[.b false])))
   (.node (isK 1 [HK.b] r1)
    (.leaf ((0,[.b (gb (dOf r1) 0)])))
    (.bad 351))))
 |_=>.bad 0
theorem f2f (l0:DI):Imp (p2w [.l TI l0]) (t2n [.l TI l0]):=
(.nd (fun h0=>
(.pa [1]
.lf)) (fun h0=>
(.nd (fun h1=>
(.pa [1]
.lf)) (fun h1=>
.none))))
def e1e:FuncId→Option a0q:=a0s 120 B34 u2b
theorem f0p:CsOk Try.prog e1e:=a0g j1l B34_ok
def r4n (f:OpT):MBox:=mkM 2 [] [(sh 17 [(1,fnV 138 [.ptr 0 0,.ptr 1 0]),(7,.imm TNd 0),(8,.int .i64 1),(9,.int .i64 2)],[.cells [fnV 123 []],.cells [.int .i64 3,.bool 4]])] [] [(.exit 0,sh 17 [],[.gone,.gone]),(.ret,sh 17 [(4,.bool 0)],[.gone,.gone])] f
def i0l (env:LDt):Tree Step:=Lk.stepMC false LK e1e 137 2 ls0 (r4n fun _=>none) env
def s0r:OpT:=Classical.choose (opq (a0b i0l FU))
theorem x0d (env:LDt):s0r env=a0b i0l FU env:=Classical.choose_spec (opq (a0b i0l FU)) env
def v1a:MBox:=r4n s0r
theorem f2p:v1a=r4n (a0b i0l FU):=congrArg r4n (funext x0d)
theorem f2l: ∀t s x,(a0h v1a t s).sel=some x→a0k Try.prog 2 (.loop (cAt Try.prog 137 2)) t s x:=by
 rw[f2p]
 exact a0o (st:=i0l) (m:=FU) f0p hmix false (LsOk.none _ _ _) (by kernel_rfl) (fun env y h=>by rw[←stepMC_lk];exact h)
def k0d:LDt→Tree Step
 |[.l TNd l0,.n n1,.n n2,.n n3,.b b4]=>
  (.node (decide (n2<n1))
   (.node (Prod.fst (List.getD l0 (Int.toNat n2) (Ty.dflt TNd))==n3)
   (.leaf (Step.stop 1 [.b true]))
   (.leaf (Step.go [.k 0,.l TNd l0,.n n1,.n (IntKind.wrap .i64 (n2+(1:Int))),.n n3,.b b4])))
   (.leaf (Step.stop 0 [])))
 |_=>.bad 0
theorem h0i (l0:DD)(n1:Int)(n2:Int)(n3:Int)(b4:Bool)(g0:0≤n2)(g1:n1=(l0.length:Int)):Imp (k0d [.l TNd l0,.n n1,.n n2,.n n3,.b b4]) (i0l [.k 0,.l TNd l0,.n n1,.n n2,.n n3,.b b4]):=
(.pa [1]
(.nd (fun h0=>
(.pq (c:=(inR n2 (List.length l0)))
(.pa [1,1,1,1,1,1,1]
(.nd (fun h1=>
(.pa [1]
.lf)) (fun h1=>
(.pa [1]
.lf)))))) (fun h0=>
(.pa [1]
.lf))))
theorem g2w:LsOk Try.prog (List.length ([.cells [fnV 123 []],.cells [.int .i64 1,.bool 2]]:List PB)) (lsM [(2,v1a)] (List.length ([.cells [fnV 123 []],.cells [.int .i64 1,.bool 2]]:List PB))) (a0r Try.prog 137):=LsOk.many fun j B hB hk c hc hi=>by
 simp only[b0d]at hB
 split at hB
 ·rename_i e;have:=Nat.eq_of_beq_eq_true e;subst this;cases hB
  rw[a0y (f:=137) (i:=2) (a0e (by kernel_rfl)) (a0d hc hi)];exact f2l
 cases hB
def kq54a (f:OpT):FBox:=mkF [.imm TNd 0,fnV 138 [.ptr 0 0,.ptr 1 0]] [.cells [fnV 123 []],.cells [.int .i64 1,.bool 2]] [] [(.bool 0,[.gone,.gone])] f
def a2i (env:LDt):TD:=Lk.boxC false LK e1e 137 (lsM [(2,v1a)] (List.length ([.cells [fnV 123 []],.cells [.int .i64 1,.bool 2]]:List PB))) (kq54a fun _=>none) env
def n1t:OpT:=Classical.choose (opq (fun env=>(a2i env).sel))
theorem p1l (env:LDt):n1t env=(a2i env).sel:=Classical.choose_spec (opq (fun env=>(a2i env).sel)) env
def B54a:FBox:=kq54a n1t
theorem B54a_ok:a0v Try.prog 137 (a0j B54a):=a0p (op:=n1t) f0p hmix false (g2w) (fun env x h=>by rw[p1l]at h;rw[←boxC_lk];exact h)
def a2h:LDt→TD
 |[.l TNd l0,.n n1,.b b2]=>
  (let r1:OD:=(s0r [.k 0,.l TNd l0,.n (↑(List.length l0):Int),.n (0:Int),.n n1,.b b2]);
   (.node (isK 0 [] r1)
   (.leaf ((0,[.b false])))
   (.node (isK 1 [HK.b] r1)
    (.leaf ((0,[.b (gb (dOf r1) 0)])))
    (.bad 351))))
 |_=>.bad 0
theorem s1m (l0:DD)(n1:Int)(b2:Bool):Imp (a2h [.l TNd l0,.n n1,.b b2]) (a2i [.l TNd l0,.n n1,.b b2]):=
(.nd (fun h0=>
(.pa [1]
.lf)) (fun h0=>
(.nd (fun h1=>
(.pa [1]
.lf)) (fun h1=>
.none))))
def r4g (f:OpT):MBox:=mkM 2 [] [(sh 17 [(1,fnV 139 [.ptr 0 0,.ptr 1 0]),(7,.imm TNd 0),(8,.int .i64 1),(9,.int .i64 2)],[.cells [.imm TI 3],laB 4])] [] [(.exit 0,sh 17 [],[.gone,.gone]),(.ret,sh 17 [(4,.bool 0)],[.gone,.gone])] f
def i0c (env:LDt):Tree Step:=Lk.stepMC false LK e1e 137 2 ls0 (r4g fun _=>none) env
def t0v:OpT:=Classical.choose (opq (a0b i0c FU))
theorem x0m (env:LDt):t0v env=a0b i0c FU env:=Classical.choose_spec (opq (a0b i0c FU)) env
def x1b:MBox:=r4g t0v
theorem c2r:x1b=r4g (a0b i0c FU):=congrArg r4g (funext x0m)
theorem f2b: ∀t s x,(a0h x1b t s).sel=some x→a0k Try.prog 2 (.loop (cAt Try.prog 137 2)) t s x:=by
 rw[c2r]
 exact a0o (st:=i0c) (m:=FU) f0p hmix false (LsOk.none _ _ _) (by kernel_rfl) (fun env y h=>by rw[←stepMC_lk];exact h)
def k0c:LDt→Tree Step
 |[.l TNd l0,.n n1,.n n2,.l TI l3,.l TS l4,.l TPt l5,.l TPt l6,.l TRt l7]=>
  (.node (decide (n2<n1))
   (.node (inR (Prod.fst (List.getD l0 (Int.toNat n2) (Ty.dflt TNd))) (List.length l5))
   (let r1:OD:=(m1g [.l TI l3,.n (Prod.snd (List.getD l5 (Int.toNat (Prod.fst (List.getD l0 (Int.toNat n2) (Ty.dflt TNd)))) (Ty.dflt TPt)))]);
    (.node (isK 0 [HK.b] r1)
    (.node (!gb (dOf r1) 0)
     (.leaf (Step.stop 1 [.b true]))
     (.leaf (Step.go [.k 0,.l TNd l0,.n n1,.n (IntKind.wrap .i64 (n2+(1:Int))),.l TI l3,.l TS l4,.l TPt l5,.l TPt l6,.l TRt l7])))
    (.bad 351)))
   (.bad 10))
   (.leaf (Step.stop 0 [])))
 |_=>.bad 0
theorem h0w (l0:DD)(n1:Int)(n2:Int)(l3:DI)(l4:DS)(l5:DP)(l6:DP)(l7:DR)(g0:0≤n2)(g1:n1=(l0.length:Int)):Imp (k0c [.l TNd l0,.n n1,.n n2,.l TI l3,.l TS l4,.l TPt l5,.l TPt l6,.l TRt l7]) (i0c [.k 0,.l TNd l0,.n n1,.n n2,.l TI l3,.l TS l4,.l TPt l5,.l TPt l6,.l TRt l7]):=
(.pa [1]
(.nd (fun h0=>
(.pq (c:=(inR n2 (List.length l0)))
(.pa [1]
(.nd (fun h1=>
(.nd (fun h2=>
(.pa [1,1,1]
(.nd (fun h3=>
(.pa [1]
.lf)) (fun h3=>
(.pa [1]
.lf))))) (fun h2=>
.none))) (fun h1=>
.none))))) (fun h0=>
(.pa [1]
.lf))))
theorem k2l:LsOk Try.prog (List.length ([.cells [.imm TI 1],laB 2]:List PB)) (lsM [(2,x1b)] (List.length ([.cells [.imm TI 1],laB 2]:List PB))) (a0r Try.prog 137):=LsOk.many fun j B hB hk c hc hi=>by
 simp only[b0d]at hB
 split at hB
 ·rename_i e;have:=Nat.eq_of_beq_eq_true e;subst this;cases hB
  rw[a0y (f:=137) (i:=2) (a0e (by kernel_rfl)) (a0d hc hi)];exact f2b
 cases hB
def kq54b (f:OpT):FBox:=mkF [.imm TNd 0,fnV 139 [.ptr 0 0,.ptr 1 0]] [.cells [.imm TI 1],laB 2] [] [(.bool 0,[.gone,.gone])] f
def u1c (env:LDt):TD:=Lk.boxC false LK e1e 137 (lsM [(2,x1b)] (List.length ([.cells [.imm TI 1],laB 2]:List PB))) (kq54b fun _=>none) env
def m1r:OpT:=Classical.choose (opq (fun env=>(u1c env).sel))
theorem l1l (env:LDt):m1r env=(u1c env).sel:=Classical.choose_spec (opq (fun env=>(u1c env).sel)) env
def B54b:FBox:=kq54b m1r
theorem B54b_ok:a0v Try.prog 137 (a0j B54b):=a0p (op:=m1r) f0p hmix false (k2l) (fun env x h=>by rw[l1l]at h;rw[←boxC_lk];exact h)
def w1x:LDt→TD
 |[.l TNd l0,.l TI l1,.l TS l2,.l TPt l3,.l TPt l4,.l TRt l5]=>
  (let r1:OD:=(t0v [.k 0,.l TNd l0,.n (↑(List.length l0):Int),.n (0:Int),.l TI l1,.l TS l2,.l TPt l3,.l TPt l4,.l TRt l5]);
   (.node (isK 0 [] r1)
   (.leaf ((0,[.b false])))
   (.node (isK 1 [HK.b] r1)
    (.leaf ((0,[.b (gb (dOf r1) 0)])))
    (.bad 351))))
 |_=>.bad 0
theorem r1x (l0:DD)(l1:DI)(l2:DS)(l3:DP)(l4:DP)(l5:DR):Imp (w1x [.l TNd l0,.l TI l1,.l TS l2,.l TPt l3,.l TPt l4,.l TRt l5]) (u1c [.l TNd l0,.l TI l1,.l TS l2,.l TPt l3,.l TPt l4,.l TRt l5]):=
(.nd (fun h0=>
(.pa [1]
.lf)) (fun h0=>
(.nd (fun h1=>
(.pa [1]
.lf)) (fun h1=>
.none))))
def q4y (f:OpT):MBox:=mkM 3 [] [(sh 17 [(1,fnV 140 [.ptr 0 0]),(7,.imm TNd 0),(8,.int .i64 1),(9,.int .i64 2)],[.cells [fnV 139 [.ptr 1 0,.ptr 2 0]],.cells [.imm TI 3],laB 4])] [] [(.exit 0,sh 17 [],[.gone,.gone,.gone]),(.ret,sh 17 [(4,.bool 0)],[.gone,.gone,.gone])] f
def i0o (env:LDt):Tree Step:=Lk.stepMC false LK e1e 137 2 ls0 (q4y fun _=>none) env
def r0h:OpT:=Classical.choose (opq (a0b i0o FU))
theorem w0k (env:LDt):r0h env=a0b i0o FU env:=Classical.choose_spec (opq (a0b i0o FU)) env
def z1y:MBox:=q4y r0h
theorem c2s:z1y=q4y (a0b i0o FU):=congrArg q4y (funext w0k)
theorem d2r: ∀t s x,(a0h z1y t s).sel=some x→a0k Try.prog 3 (.loop (cAt Try.prog 137 2)) t s x:=by
 rw[c2s]
 exact a0o (st:=i0o) (m:=FU) f0p hmix false (LsOk.none _ _ _) (by kernel_rfl) (fun env y h=>by rw[←stepMC_lk];exact h)
def k0z:LDt→Tree Step
 |[.l TNd l0,.n n1,.n n2,.l TI l3,.l TS l4,.l TPt l5,.l TPt l6,.l TRt l7]=>
  (.node (decide (n2<n1))
   (.node (inR (Prod.fst (List.getD l0 (Int.toNat n2) (Ty.dflt TNd))) (List.length l5))
   (let r1:OD:=(m1g [.l TI l3,.n (Prod.snd (List.getD l5 (Int.toNat (Prod.fst (List.getD l0 (Int.toNat n2) (Ty.dflt TNd)))) (Ty.dflt TPt)))]);
    (.node (isK 0 [HK.b] r1)
    (.node (!!gb (dOf r1) 0)
     (.leaf (Step.stop 1 [.b true]))
     (.leaf (Step.go [.k 0,.l TNd l0,.n n1,.n (IntKind.wrap .i64 (n2+(1:Int))),.l TI l3,.l TS l4,.l TPt l5,.l TPt l6,.l TRt l7])))
    (.bad 351)))
   (.bad 10))
   (.leaf (Step.stop 0 [])))
 |_=>.bad 0
theorem h0x (l0:DD)(n1:Int)(n2:Int)(l3:DI)(l4:DS)(l5:DP)(l6:DP)(l7:DR)(g0:0≤n2)(g1:n1=(l0.length:Int)):Imp (k0z [.l TNd l0,.n n1,.n n2,.l TI l3,.l TS l4,.l TPt l5,.l TPt l6,.l TRt l7]) (i0o [.k 0,.l TNd l0,.n n1,.n n2,.l TI l3,.l TS l4,.l TPt l5,.l TPt l6,.l TRt l7]):=
(.pa [1]
(.nd (fun h0=>
(.pq (c:=(inR n2 (List.length l0)))
(.pa [1,1]
(.nd (fun h1=>
(.nd (fun h2=>
(.pa [1,1,1,1]
(.nd (fun h3=>
(.pa [1]
.lf)) (fun h3=>
(.pa [1]
.lf))))) (fun h2=>
.none))) (fun h1=>
.none))))) (fun h0=>
(.pa [1]
.lf))))
theorem p2h:LsOk Try.prog (List.length ([.cells [fnV 139 [.ptr 1 0,.ptr 2 0]],.cells [.imm TI 1],laB 2]:List PB)) (lsM [(2,z1y)] (List.length ([.cells [fnV 139 [.ptr 1 0,.ptr 2 0]],.cells [.imm TI 1],laB 2]:List PB))) (a0r Try.prog 137):=LsOk.many fun j B hB hk c hc hi=>by
 simp only[b0d]at hB
 split at hB
 ·rename_i e;have:=Nat.eq_of_beq_eq_true e;subst this;cases hB
  rw[a0y (f:=137) (i:=2) (a0e (by kernel_rfl)) (a0d hc hi)];exact d2r
 cases hB
def kq54c (f:OpT):FBox:=mkF [.imm TNd 0,fnV 140 [.ptr 0 0]] [.cells [fnV 139 [.ptr 1 0,.ptr 2 0]],.cells [.imm TI 1],laB 2] [] [(.bool 0,[.gone,.gone,.gone])] f
def x1y (env:LDt):TD:=Lk.boxC false LK e1e 137 (lsM [(2,z1y)] (List.length ([.cells [fnV 139 [.ptr 1 0,.ptr 2 0]],.cells [.imm TI 1],laB 2]:List PB))) (kq54c fun _=>none) env
def l1k:OpT:=Classical.choose (opq (fun env=>(x1y env).sel))
theorem p1c (env:LDt):l1k env=(x1y env).sel:=Classical.choose_spec (opq (fun env=>(x1y env).sel)) env
def B54c:FBox:=kq54c l1k
theorem B54c_ok:a0v Try.prog 137 (a0j B54c):=a0p (op:=l1k) f0p hmix false (p2h) (fun env x h=>by rw[p1c]at h;rw[←boxC_lk];exact h)
def z1f:LDt→TD
 |[.l TNd l0,.l TI l1,.l TS l2,.l TPt l3,.l TPt l4,.l TRt l5]=>
  (let r1:OD:=(r0h [.k 0,.l TNd l0,.n (↑(List.length l0):Int),.n (0:Int),.l TI l1,.l TS l2,.l TPt l3,.l TPt l4,.l TRt l5]);
   (.node (isK 0 [] r1)
   (.leaf ((0,[.b false])))
   (.node (isK 1 [HK.b] r1)
    (.leaf ((0,[.b (gb (dOf r1) 0)])))
    (.bad 351))))
 |_=>.bad 0
theorem r1y (l0:DD)(l1:DI)(l2:DS)(l3:DP)(l4:DP)(l5:DR):Imp (z1f [.l TNd l0,.l TI l1,.l TS l2,.l TPt l3,.l TPt l4,.l TRt l5]) (x1y [.l TNd l0,.l TI l1,.l TS l2,.l TPt l3,.l TPt l4,.l TRt l5]):=
(.nd (fun h0=>
(.pa [1]
.lf)) (fun h0=>
(.nd (fun h1=>
(.pa [1]
.lf)) (fun h1=>
.none))))
def r4p (f:OpT):MBox:=mkM 1 [] [(sh 17 [(1,fnV 141 [.ptr 0 0]),(7,.imm TNd 0),(8,.int .i64 1),(9,.int .i64 2)],[.cells [.int .i64 3]])] [] [(.exit 0,sh 17 [],[.gone]),(.ret,sh 17 [(4,.bool 0)],[.gone])] f
def i0y (env:LDt):Tree Step:=Lk.stepMC false LK e1e 137 2 ls0 (r4p fun _=>none) env
def r0f:OpT:=Classical.choose (opq (a0b i0y FU))
theorem x0e (env:LDt):r0f env=a0b i0y FU env:=Classical.choose_spec (opq (a0b i0y FU)) env
def x1l:MBox:=r4p r0f
theorem e2w:x1l=r4p (a0b i0y FU):=congrArg r4p (funext x0e)
theorem e2l: ∀t s x,(a0h x1l t s).sel=some x→a0k Try.prog 1 (.loop (cAt Try.prog 137 2)) t s x:=by
 rw[e2w]
 exact a0o (st:=i0y) (m:=FU) f0p hmix false (LsOk.none _ _ _) (by kernel_rfl) (fun env y h=>by rw[←stepMC_lk];exact h)
def j0f:LDt→Tree Step
 |[.l TNd l0,.n n1,.n n2,.n n3]=>
  (.node (decide (n2<n1))
   (.node (Prod.fst (List.getD l0 (Int.toNat n2) (Ty.dflt TNd))==n3)
   (.leaf (Step.stop 1 [.b true]))
   (.leaf (Step.go [.k 0,.l TNd l0,.n n1,.n (IntKind.wrap .i64 (n2+(1:Int))),.n n3])))
   (.leaf (Step.stop 0 [])))
 |_=>.bad 0
theorem h0o (l0:DD)(n1:Int)(n2:Int)(n3:Int)(g0:0≤n2)(g1:n1=(l0.length:Int)):Imp (j0f [.l TNd l0,.n n1,.n n2,.n n3]) (i0y [.k 0,.l TNd l0,.n n1,.n n2,.n n3]):=
(.pa [1]
(.nd (fun h0=>
(.pq (c:=(inR n2 (List.length l0)))
(.pa [1,1]
(.nd (fun h1=>
(.pa [1]
.lf)) (fun h1=>
(.pa [1]
.lf)))))) (fun h0=>
(.pa [1]
.lf))))
theorem i2u:LsOk Try.prog (List.length ([.cells [.int .i64 1]]:List PB)) (lsM [(2,x1l)] (List.length ([.cells [.int .i64 1]]:List PB))) (a0r Try.prog 137):=LsOk.many fun j B hB hk c hc hi=>by
 simp only[b0d]at hB
 split at hB
 ·rename_i e;have:=Nat.eq_of_beq_eq_true e;subst this;cases hB
  rw[a0y (f:=137) (i:=2) (a0e (by kernel_rfl)) (a0d hc hi)];exact e2l
 cases hB
def kq54d (f:OpT):FBox:=mkF [.imm TNd 0,fnV 141 [.ptr 0 0]] [.cells [.int .i64 1]] [] [(.bool 0,[.gone])] f
def y1b (env:LDt):TD:=Lk.boxC false LK e1e 137 (lsM [(2,x1l)] (List.length ([.cells [.int .i64 1]]:List PB))) (kq54d fun _=>none) env
def n1h:OpT:=Classical.choose (opq (fun env=>(y1b env).sel))
theorem n1b (env:LDt):n1h env=(y1b env).sel:=Classical.choose_spec (opq (fun env=>(y1b env).sel)) env
def B54d:FBox:=kq54d n1h
theorem B54d_ok:a0v Try.prog 137 (a0j B54d):=a0p (op:=n1h) f0p hmix false (i2u) (fun env x h=>by rw[n1b]at h;rw[←boxC_lk];exact h)
def a2e:LDt→TD
 |[.l TNd l0,.n n1]=>
  (let r1:OD:=(r0f [.k 0,.l TNd l0,.n (↑(List.length l0):Int),.n (0:Int),.n n1]);
   (.node (isK 0 [] r1)
   (.leaf ((0,[.b false])))
   (.node (isK 1 [HK.b] r1)
    (.leaf ((0,[.b (gb (dOf r1) 0)])))
    (.bad 351))))
 |_=>.bad 0
theorem q1m (l0:DD)(n1:Int):Imp (a2e [.l TNd l0,.n n1]) (y1b [.l TNd l0,.n n1]):=
(.nd (fun h0=>
(.pa [1]
.lf)) (fun h0=>
(.nd (fun h1=>
(.pa [1]
.lf)) (fun h1=>
.none))))
def z1j:FuncId→Option a0q:=e1c 137 [B54a,B54b,B54c,B54d] e1e
theorem b1k:CsOk Try.prog z1j:=h0a f0p fun B hB=>by
 simp only[List.mem_cons,List.not_mem_nil,or_false]at hB
 rcases hB with rfl|rfl|rfl|rfl
 ·exact B54a_ok
 ·exact B54b_ok
 ·exact B54c_ok
 ·exact B54d_ok
def r4v (f:OpT):MBox:=mkM 0 [] [(sh 20 [(0,.imm TNd 0),(3,.ptr 0 0),(7,.imm TNd 1),(8,.int .i64 2),(9,.int .i64 3)],[.cells [fnV 123 []]])] [] [(.exit 0,sh 20 [],[]),(.ret,sh 20 [(4,.bool 0)],[])] f
def n0o (env:LDt):Tree Step:=Lk.stepMC false LK z1j 122 2 ls0 (r4v fun _=>none) env
def y0c:OpT:=Classical.choose (opq (a0b n0o FU))
theorem d1l (env:LDt):y0c env=a0b n0o FU env:=Classical.choose_spec (opq (a0b n0o FU)) env
def s2p:MBox:=r4v y0c
theorem j2t:s2p=r4v (a0b n0o FU):=congrArg r4v (funext d1l)
theorem l2v: ∀t s x,(a0h s2p t s).sel=some x→a0k Try.prog 0 (.loop (cAt Try.prog 122 2)) t s x:=by
 rw[j2t]
 exact a0o (st:=n0o) (m:=FU) b1k hmix false (LsOk.none _ _ _) (by kernel_rfl) (fun env y h=>by rw[←stepMC_lk];exact h)
def o0h:LDt→Tree Step
 |[.l TNd l0,.n n1,.n n2]=>
  (.node (decide (n2<n1))
   (let r1:OD:=(n1t [.l TNd (List.take (Int.toNat n2) l0),.n (Prod.fst (List.getD l0 (Int.toNat n2) (Ty.dflt TNd))),.b (Prod.snd (List.getD l0 (Int.toNat n2) (Ty.dflt TNd)))]);
   (.node (isK 0 [HK.b] r1)
    (.node (gb (dOf r1) 0)
    (.leaf (Step.stop 1 [.b true]))
    (.leaf (Step.go [.k 0,.l TNd l0,.l TNd l0,.n n1,.n (IntKind.wrap .i64 (n2+(1:Int)))])))
    (.bad 351)))
   (.leaf (Step.stop 0 [])))
 |_=>.bad 0
theorem l0b (l0:DD)(n1:Int)(n2:Int)(g0:0≤n2)(g1:n1=(l0.length:Int)):Imp (o0h [.l TNd l0,.n n1,.n n2]) (n0o [.k 0,.l TNd l0,.l TNd l0,.n n1,.n n2]):=
(.pa [1]
(.nd (fun h0=>
(.pq (c:=(inR n2 (List.length l0)))
(.pq (c:=(decide ((0:Int)≤n2)&&decide (n2≤(↑(List.length l0):Int))))
(.pt (c:=(true&&decide ((0:Int)≤n2))) (by kernel_rfl) (by kernel_rfl) (by(simp[*];done))
(.pa [1]
(.nd (fun h1=>
(.pa [1]
(.nd (fun h2=>
(.pa [1]
.lf)) (fun h2=>
(.pa [1]
.lf))))) (fun h1=>
.none))))))) (fun h0=>
(.pa [1]
.lf))))
theorem s2v:LsOk Try.prog (z0) (lsM [(2,s2p)] (z0)) (a0r Try.prog 122):=LsOk.many fun j B hB hk c hc hi=>by
 simp only[b0d]at hB
 split at hB
 ·rename_i e;have:=Nat.eq_of_beq_eq_true e;subst this;cases hB
  rw[a0y (f:=122) (i:=2) (a0e (by kernel_rfl)) (a0d hc hi)];exact l2v
 cases hB
def kq36 (f:OpT):FBox:=mkF [.imm TNd 0,fnV 123 []] [] [] [(.bool 0,[])] f
def u2p (env:LDt):TD:=Lk.boxC false LK z1j 122 (lsM [(2,s2p)] (z0)) (kq36 fun _=>none) env
def i2e:OpT:=Classical.choose (opq (fun env=>(u2p env).sel))
theorem z1t (env:LDt):i2e env=(u2p env).sel:=Classical.choose_spec (opq (fun env=>(u2p env).sel)) env
def B36:FBox:=kq36 i2e
theorem B36_ok:a0v Try.prog 122 (a0j B36):=a0p (op:=i2e) b1k hmix false (s2v) (fun env x h=>by rw[z1t]at h;rw[←boxC_lk];exact h)
def n2u:LDt→TD
 |[.l TNd l0]=>
  (let r1:OD:=(y0c [.k 0,.l TNd l0,.l TNd l0,.n (↑(List.length l0):Int),.n (0:Int)]);
   (.node (isK 0 [] r1)
   (.leaf ((0,[.b false])))
   (.node (isK 1 [HK.b] r1)
    (.leaf ((0,[.b (gb (dOf r1) 0)])))
    (.bad 351))))
 |_=>.bad 0
theorem b2l (l0:DD):Imp (n2u [.l TNd l0]) (u2p [.l TNd l0]):=
(.nd (fun h0=>
(.pa [1]
.lf)) (fun h0=>
(.nd (fun h1=>
(.pa [1]
.lf)) (fun h1=>
.none))))
def cs_36:FuncId→Option a0q:=a0s 122 B36 z1j
theorem a2q:CsOk Try.prog cs_36:=a0g b1k B36_ok
def kq38 (f:OpT):FBox:=mkF [laV 0,rtV 4,.imm TI 10] [] [] [(.bool 0,[])] f
def u2r (env:LDt):TD:=Lk.boxC false LK cs_36 124 ls0 (kq38 fun _=>none) env
def i2c:OpT:=Classical.choose (opq (fun env=>(u2r env).sel))
theorem y1y (env:LDt):i2c env=(u2r env).sel:=Classical.choose_spec (opq (fun env=>(u2r env).sel)) env
def B38:FBox:=kq38 i2c
theorem B38_ok:a0v Try.prog 124 (a0j B38):=a0p (op:=i2c) a2q hmix false (LsOk.none _ _ _) (fun env x h=>by rw[y1y]at h;rw[←boxC_lk];exact h)
def j2d:LDt→TD
 |[.l TS l0,.l TPt l1,.l TPt l2,.l TRt l3,.s s4,.n n5,.l TI l6,.l TNd l7,.l TI l8,.l TNd l9,.l TI l10]=>
  (let r1:OD:=(m1r [.l TNd l7,.l TI l10,.l TS l0,.l TPt l1,.l TPt l2,.l TRt l3]);
   (.node (isK 0 [HK.b] r1)
   (.node (!gb (dOf r1) 0)
    (let r2:OD:=(l1k [.l TNd l9,.l TI l10,.l TS l0,.l TPt l1,.l TPt l2,.l TRt l3]);
    (.node (isK 0 [HK.b] r2)
     (.leaf ((0,[.b !gb (dOf r2) 0])))
     (.bad 351)))
    (.leaf ((0,[.b false]))))
   (.bad 351)))
 |_=>.bad 0
theorem f2h (l0:DS)(l1:DP)(l2:DP)(l3:DR)(s4:ByteArray)(n5:Int)(l6:DI)(l7:DD)(l8:DI)(l9:DD)(l10:DI):Imp (j2d [.l TS l0,.l TPt l1,.l TPt l2,.l TRt l3,.s s4,.n n5,.l TI l6,.l TNd l7,.l TI l8,.l TNd l9,.l TI l10]) (u2r [.l TS l0,.l TPt l1,.l TPt l2,.l TRt l3,.s s4,.n n5,.l TI l6,.l TNd l7,.l TI l8,.l TNd l9,.l TI l10]):=
(.pa [1]
(.nd (fun h0=>
(.pa [1]
(.nd (fun h1=>
(.pa [1]
(.nd (fun h2=>
(.pa [1,1]
.lf)) (fun h2=>
.none)))) (fun h1=>
(.pa [0,1]
.lf))))) (fun h0=>
.none)))
def r2o:FuncId→Option a0q:=a0s 124 B38 cs_36
theorem k1c:CsOk Try.prog r2o:=a0g a2q B38_ok
def s4f (f:OpT):MBox:=mkM 0 [] [(sh 29 [(2,.imm TI 0),(4,.ptr 0 0),(10,.imm TPt 1),(11,.int .i64 2),(12,.int .i64 3)],[rtB 4])] [] [(.exit 0,sh 29 [],[]),(.ret,sh 29 [(6,.bool 0)],[])] f
def n0s (env:LDt):Tree Step:=Lk.stepMC false LK r2o 125 2 ls0 (s4f fun _=>none) env
def z0p:OpT:=Classical.choose (opq (a0b n0s FU))
theorem b1d (env:LDt):z0p env=a0b n0s FU env:=Classical.choose_spec (opq (a0b n0s FU)) env
def s2r:MBox:=s4f z0p
theorem h2r:s2r=s4f (a0b n0s FU):=congrArg s4f (funext b1d)
theorem m2t: ∀t s x,(a0h s2r t s).sel=some x→a0k Try.prog 0 (.loop (cAt Try.prog 125 2)) t s x:=by
 rw[h2r]
 exact a0o (st:=n0s) (m:=FU) k1c hmix false (LsOk.none _ _ _) (by kernel_rfl) (fun env y h=>by rw[←stepMC_lk];exact h)
def n0m:LDt→Tree Step
 |[.l TI l0,.l TPt l1,.n n2,.n n3,.s s4,.n n5,.l TI l6,.l TNd l7,.l TI l8,.l TNd l9]=>
  (.node (decide (n3<n2))
   (let r1:OD:=(m1g [.l TI l0,.n (Prod.snd (List.getD l1 (Int.toNat n3) (Ty.dflt TPt)))]);
   (.node (isK 0 [HK.b] r1)
    (.node (gb (dOf r1) 0)
    (let r2:OD:=(n1h [.l TNd l7,.n n3]);
     (.node (isK 0 [HK.b] r2)
     (.node (!gb (dOf r2) 0)
      (.leaf (Step.stop 1 [.b false]))
      (.leaf (Step.go [.k 0,.l TI l0,.l TPt l1,.n n2,.n (IntKind.wrap .i64 (n3+(1:Int))),.s s4,.n n5,.l TI l6,.l TNd l7,.l TI l8,.l TNd l9])))
     (.bad 351)))
    (.leaf (Step.go [.k 0,.l TI l0,.l TPt l1,.n n2,.n (IntKind.wrap .i64 (n3+(1:Int))),.s s4,.n n5,.l TI l6,.l TNd l7,.l TI l8,.l TNd l9])))
    (.bad 351)))
   (.leaf (Step.stop 0 [])))
 |_=>.bad 0
theorem j0k (l0:DI)(l1:DP)(n2:Int)(n3:Int)(s4:ByteArray)(n5:Int)(l6:DI)(l7:DD)(l8:DI)(l9:DD)(g0:0≤n3)(g1:n2=(l1.length:Int)):Imp (n0m [.l TI l0,.l TPt l1,.n n2,.n n3,.s s4,.n n5,.l TI l6,.l TNd l7,.l TI l8,.l TNd l9]) (n0s [.k 0,.l TI l0,.l TPt l1,.n n2,.n n3,.s s4,.n n5,.l TI l6,.l TNd l7,.l TI l8,.l TNd l9]):=
(.pa [1]
(.nd (fun h0=>
(.pq (c:=(inR n3 (List.length l1)))
(.nd (fun h1=>
(.pa [1]
(.nd (fun h2=>
(.pa [1]
(.nd (fun h3=>
(.pa [1]
(.nd (fun h4=>
(.pa [1]
.lf)) (fun h4=>
(.pa [1]
.lf))))) (fun h3=>
.none)))) (fun h2=>
(.pa [0,0,1]
.lf))))) (fun h1=>
.none)))) (fun h0=>
(.pa [1]
.lf))))
theorem t2v:LsOk Try.prog (z0) (lsM [(2,s2r)] (z0)) (a0r Try.prog 125):=LsOk.many fun j B hB hk c hc hi=>by
 simp only[b0d]at hB
 split at hB
 ·rename_i e;have:=Nat.eq_of_beq_eq_true e;subst this;cases hB
  rw[a0y (f:=125) (i:=2) (a0e (by kernel_rfl)) (a0d hc hi)];exact m2t
 cases hB
def r2i (env:LDt):TD:=Lk.boxC false LK r2o 125 (lsM [(2,s2r)] (z0)) (kq38 fun _=>none) env
def i2g:OpT:=Classical.choose (opq (fun env=>(r2i env).sel))
theorem w1l (env:LDt):i2g env=(r2i env).sel:=Classical.choose_spec (opq (fun env=>(r2i env).sel)) env
def B39:FBox:=kq38 i2g
theorem B39_ok:a0v Try.prog 125 (a0j B39):=a0p (op:=i2g) k1c hmix false (t2v) (fun env x h=>by rw[w1l]at h;rw[←boxC_lk];exact h)
def h2l:LDt→TD
 |[.l TS l0,.l TPt l1,.l TPt l2,.l TRt l3,.s s4,.n n5,.l TI l6,.l TNd l7,.l TI l8,.l TNd l9,.l TI l10]=>
  (let r1:OD:=(z0p [.k 0,.l TI l10,.l TPt l1,.n (↑(List.length l1):Int),.n (0:Int),.s s4,.n n5,.l TI l6,.l TNd l7,.l TI l8,.l TNd l9]);
   (.node (isK 0 [] r1)
   (.leaf ((0,[.b true])))
   (.node (isK 1 [HK.b] r1)
    (.leaf ((0,[.b (gb (dOf r1) 0)])))
    (.bad 351))))
 |_=>.bad 0
theorem d2n (l0:DS)(l1:DP)(l2:DP)(l3:DR)(s4:ByteArray)(n5:Int)(l6:DI)(l7:DD)(l8:DI)(l9:DD)(l10:DI):Imp (h2l [.l TS l0,.l TPt l1,.l TPt l2,.l TRt l3,.s s4,.n n5,.l TI l6,.l TNd l7,.l TI l8,.l TNd l9,.l TI l10]) (r2i [.l TS l0,.l TPt l1,.l TPt l2,.l TRt l3,.s s4,.n n5,.l TI l6,.l TNd l7,.l TI l8,.l TNd l9,.l TI l10]):=
(.nd (fun h0=>
(.pa [1]
.lf)) (fun h0=>
(.nd (fun h1=>
(.pa [1]
.lf)) (fun h1=>
.none))))
def cs_39:FuncId→Option a0q:=a0s 125 B39 r2o
theorem w1b:CsOk Try.prog cs_39:=a0g k1c B39_ok
def kq27 (f:OpT):FBox:=mkF [laV 0,rtV 4] [] [] [(.bool 0,[])] f
def s2e (env:LDt):TD:=Lk.boxC false LK cs_39 107 ls0 (kq27 fun _=>none) env
def s1p:OpT:=Classical.choose (opq (fun env=>(s2e env).sel))
theorem w1u (env:LDt):s1p env=(s2e env).sel:=Classical.choose_spec (opq (fun env=>(s2e env).sel)) env
def B27:FBox:=kq27 s1p
theorem B27_ok:a0v Try.prog 107 (a0j B27):=a0p (op:=s1p) w1b hmix false (LsOk.none _ _ _) (fun env x h=>by rw[w1u]at h;rw[←boxC_lk];exact h)
def j2m:LDt→TD
 |[.l TS l0,.l TPt l1,.l TPt l2,.l TRt l3,.s s4,.n n5,.l TI l6,.l TNd l7,.l TI l8,.l TNd l9]=>
  (let r1:OD:=(op_9 [.s s4,.n n5,.l TI l6,.l TNd l7,.l TI l8,.l TNd l9]);
   (.node (isK 0 [HK.l TI] r1)
   (let r2:OD:=(t1a [.s s4,.n n5,.l TI l6,.l TNd l7,.l TI l8,.l TNd l9]);
    (.node (isK 0 [HK.l TNd] r2)
    (.node (decide ((↑(List.length l6):Int)>(0:Int)))
     (.node (inR n5 (List.length l2))
     (let r3:OD:=(m1g [.l TI (gl TI (dOf r1) 0),.n (Prod.snd (List.getD l2 (Int.toNat n5) (Ty.dflt TPt)))]);
      (.node (isK 0 [HK.b] r3)
      (.node (!gb (dOf r3) 0)
       (let r4:OD:=(k2g [.l TI (gl TI (dOf r1) 0)]);
       (.node (isK 0 [HK.b] r4)
        (.node (!gb (dOf r4) 0)
        (let r5:OD:=(i2e [.l TNd (gl TNd (dOf r2) 0)]);
         (.node (isK 0 [HK.b] r5)
         (.node (!gb (dOf r5) 0)
          (let r6:OD:=(i2c [.l TS l0,.l TPt l1,.l TPt l2,.l TRt l3,.s s4,.n n5,.l TI l6,.l TNd l7,.l TI l8,.l TNd l9,.l TI (gl TI (dOf r1) 0)]);
          (.node (isK 0 [HK.b] r6)
           (.node (gb (dOf r6) 0)
           (let r7:OD:=(i2g [.l TS l0,.l TPt l1,.l TPt l2,.l TRt l3,.s s4,.n n5,.l TI l6,.l TNd l7,.l TI l8,.l TNd l9,.l TI (gl TI (dOf r1) 0)]);
            (.node (isK 0 [HK.b] r7)
            (.leaf ((0,[.b (gb (dOf r7) 0)])))
            (.bad 351)))
           (.leaf ((0,[.b false]))))
           (.bad 351)))
          (.leaf ((0,[.b false]))))
         (.bad 351)))
        (.leaf ((0,[.b false]))))
        (.bad 351)))
       (.leaf ((0,[.b false]))))
      (.bad 351)))
     (.bad 10))
     (.leaf ((0,[.b false]))))
    (.bad 351)))
   (.bad 351)))
 |_=>.bad 0
theorem e2s (l0:DS)(l1:DP)(l2:DP)(l3:DR)(s4:ByteArray)(n5:Int)(l6:DI)(l7:DD)(l8:DI)(l9:DD):Imp (j2m [.l TS l0,.l TPt l1,.l TPt l2,.l TRt l3,.s s4,.n n5,.l TI l6,.l TNd l7,.l TI l8,.l TNd l9]) (s2e [.l TS l0,.l TPt l1,.l TPt l2,.l TRt l3,.s s4,.n n5,.l TI l6,.l TNd l7,.l TI l8,.l TNd l9]):=
(.nd (fun h0=>
(.pa [1]
(.nd (fun h1=>
(.pa [1,1]
(.nd (fun h2=>
(.nd (fun h3=>
(.nd (fun h4=>
(.pa [1]
(.nd (fun h5=>
(.nd (fun h6=>
(.pa [1]
(.nd (fun h7=>
(.nd (fun h8=>
(.pa [1]
(.nd (fun h9=>
(.nd (fun h10=>
(.pa [1]
(.nd (fun h11=>
(.nd (fun h12=>
(.pa [1,1]
.lf)) (fun h12=>
.none))) (fun h11=>
(.pa [0,1]
.lf))))) (fun h10=>
.none))) (fun h9=>
(.pa [0,0,0,1]
.lf))))) (fun h8=>
.none))) (fun h7=>
(.pa [0,0,0,0,0,1]
.lf))))) (fun h6=>
.none))) (fun h5=>
(.pa [0,0,0,0,0,0,0,1]
.lf))))) (fun h4=>
.none))) (fun h3=>
.none))) (fun h2=>
(.pa [0,0,0,0,0,0,0,0,0,1]
.lf))))) (fun h1=>
.none)))) (fun h0=>
.none))
def t2d:FuncId→Option a0q:=a0s 107 B27 cs_39
theorem k1k:CsOk Try.prog t2d:=a0g w1b B27_ok
def s4p (f:OpT):MBox:=mkM 0 [] [(sh 22 [(0,.imm TI 0),(1,.int .i64 1),(5,.int .i64 2),(6,.int .i64 3)],[])] [] [(.exit 0,sh 22 [(5,.int .i64 0)],[])] f
def k0v (env:LDt):Tree Step:=Lk.stepMC false LK t2d 66 3 ls0 (s4p fun _=>none) env
def y0x:OpT:=Classical.choose (opq (a0b k0v FU))
theorem c1z (env:LDt):y0x env=a0b k0v FU env:=Classical.choose_spec (opq (a0b k0v FU)) env
def q2y:MBox:=s4p y0x
theorem q2e:q2y=s4p (a0b k0v FU):=congrArg s4p (funext c1z)
theorem h2k: ∀t s x,(a0h q2y t s).sel=some x→a0k Try.prog 0 (.loop (cAt Try.prog 66 3)) t s x:=by
 rw[q2e]
 exact a0o (st:=k0v) (m:=FU) k1k hmix false (LsOk.none _ _ _) (by kernel_rfl) (fun env y h=>by rw[←stepMC_lk];exact h)
def u0q:LDt→Tree Step
 |[.l TI l0,.n n1,.n n2,.n n3]=>
  (.node (decide (n3<(↑(List.length l0):Int)))
   (.node ((List.getD l0 (Int.toNat n3) (0:Int):Int)==n1)
   (.leaf (Step.go [.k 0,.l TI l0,.n n1,.n (IntKind.wrap .i64 (n2+(1:Int))),.n (IntKind.wrap .i64 (n3+(1:Int)))]))
   (.leaf (Step.go [.k 0,.l TI l0,.n n1,.n n2,.n (IntKind.wrap .i64 (n3+(1:Int)))])))
   (.leaf (Step.stop 0 [.n n2])))
 |_=>.bad 0
theorem u0p (l0:DI)(n1:Int)(n2:Int)(n3:Int)(g0:0≤n3):Imp (u0q [.l TI l0,.n n1,.n n2,.n n3]) (k0v [.k 0,.l TI l0,.n n1,.n n2,.n n3]):=
(.pa [1]
(.nd (fun h0=>
(.pq (c:=(inR n3 (List.length l0)))
(.nd (fun h1=>
(.pa [1]
.lf)) (fun h1=>
(.pa [1]
.lf))))) (fun h0=>
(.pa [1]
.lf))))
theorem s2o:LsOk Try.prog (z0) (lsM [(3,q2y)] (z0)) (a0r Try.prog 66):=LsOk.many fun j B hB hk c hc hi=>by
 simp only[b0d]at hB
 split at hB
 ·rename_i e;have:=Nat.eq_of_beq_eq_true e;subst this;cases hB
  rw[a0y (f:=66) (i:=3) (a0e (by kernel_rfl)) (a0d hc hi)];exact h2k
 cases hB
def kq47 (f:OpT):FBox:=mkF [.imm TI 0,.int .i64 1] [] [] [(.int .i64 0,[])] f
def v2q (env:LDt):TD:=Lk.boxC false LK t2d 66 (lsM [(3,q2y)] (z0)) (kq47 fun _=>none) env
def e1l:OpT:=Classical.choose (opq (fun env=>(v2q env).sel))
theorem w1p (env:LDt):e1l env=(v2q env).sel:=Classical.choose_spec (opq (fun env=>(v2q env).sel)) env
def B47:FBox:=kq47 e1l
theorem B47_ok:a0v Try.prog 66 (a0j B47):=a0p (op:=e1l) k1k hmix false (s2o) (fun env x h=>by rw[w1p]at h;rw[←boxC_lk];exact h)
def m2d:LDt→TD
 |[.l TI l0,.n n1]=>
  (let r1:OD:=(y0x [.k 0,.l TI l0,.n n1,.n (0:Int),.n (0:Int)]);
   (.node (isK 0 [HK.n] r1)
   (.leaf ((0,[.n (gn (dOf r1) 0)])))
   (.bad 351)))
 |_=>.bad 0
theorem c2h (l0:DI)(n1:Int):Imp (m2d [.l TI l0,.n n1]) (v2q [.l TI l0,.n n1]):=
(.nd (fun h0=>
(.pa [1]
.lf)) (fun h0=>
.none))
def r2h:FuncId→Option a0q:=a0s 66 B47 t2d
theorem i1s:CsOk Try.prog r2h:=a0g k1k B47_ok
def s4b (f:OpT):MBox:=mkM 0 [] [(sh 20 [(0,.imm TNd 0),(3,.own 0),(4,.int .i64 1)],[.arr TI 2])] [(3,TI)] [(.exit 0,sh 20 [(3,.own 0)],[.arr TI 0])] f
def j0p (env:LDt):Tree Step:=Lk.stepMC false LK r2h 65 3 ls0 (s4b fun _=>none) env
def y0h:OpT:=Classical.choose (opq (a0b j0p FU))
theorem d1i (env:LDt):y0h env=a0b j0p FU env:=Classical.choose_spec (opq (a0b j0p FU)) env
def u2m:MBox:=s4b y0h
theorem i2p:u2m=s4b (a0b j0p FU):=congrArg s4b (funext d1i)
theorem o2g: ∀t s x,(a0h u2m t s).sel=some x→a0k Try.prog 0 (.loop (cAt Try.prog 65 3)) t s x:=by
 rw[i2p]
 exact a0o (st:=j0p) (m:=FU) i1s hmix false (LsOk.none _ _ _) (by kernel_rfl) (fun env y h=>by rw[←stepMC_lk];exact h)
def v0r:LDt→Tree Step
 |[.l TNd l0,.n n1,.l TI l2]=>
  (.node (decide (n1<(↑(List.length l0):Int)))
   (.node (decide ((List.length l2+1)*8≤140737488355328))
   (.leaf (Step.go [.k 0,.l TNd l0,.n (IntKind.wrap .i64 (n1+(1:Int))),.l TI (l2++[Prod.fst (List.getD l0 (Int.toNat n1) (Ty.dflt TNd))])]))
   (.bad 62))
   (.leaf (Step.stop 0 [.l TI l2])))
 |_=>.bad 0
theorem s0f (l0:DD)(n1:Int)(l2:DI)(g0:0≤n1):Imp (v0r [.l TNd l0,.n n1,.l TI l2]) (j0p [.k 0,.l TNd l0,.n n1,.l TI l2]):=
(.pa [1]
(.nd (fun h0=>
(.pq (c:=(inR n1 (List.length l0)))
(.nd (fun h1=>
(.pa [1]
.lf)) (fun h1=>
.none)))) (fun h0=>
(.pa [1]
.lf))))
theorem q2o:LsOk Try.prog (z0) (lsM [(3,u2m)] (z0)) (a0r Try.prog 65):=LsOk.many fun j B hB hk c hc hi=>by
 simp only[b0d]at hB
 split at hB
 ·rename_i e;have:=Nat.eq_of_beq_eq_true e;subst this;cases hB
  rw[a0y (f:=65) (i:=3) (a0e (by kernel_rfl)) (a0d hc hi)];exact o2g
 cases hB
def kq46 (f:OpT):FBox:=mkF [.imm TNd 0] [] [] [(.own 0,[.arr TI 0])] f
def u2k (env:LDt):TD:=Lk.boxC false LK r2h 65 (lsM [(3,u2m)] (z0)) (kq46 fun _=>none) env
def q1w:OpT:=Classical.choose (opq (fun env=>(u2k env).sel))
theorem a2n (env:LDt):q1w env=(u2k env).sel:=Classical.choose_spec (opq (fun env=>(u2k env).sel)) env
def B46:FBox:=kq46 q1w
theorem B46_ok:a0v Try.prog 65 (a0j B46):=a0p (op:=q1w) i1s hmix false (q2o) (fun env x h=>by rw[a2n]at h;rw[←boxC_lk];exact h)
def i2f:LDt→TD
 |[.l TNd l0]=>
  (let r1:OD:=(y0h [.k 0,.l TNd l0,.n (0:Int),.l TI []]);
   (.node (isK 0 [HK.l TI] r1)
   (.leaf ((0,[.l TI (gl TI (dOf r1) 0)])))
   (.bad 351)))
 |_=>.bad 0
theorem d2b (l0:DD):Imp (i2f [.l TNd l0]) (u2k [.l TNd l0]):=
(.nd (fun h0=>
(.pa [1]
.lf)) (fun h0=>
.none))
def b2b:FuncId→Option a0q:=a0s 65 B46 r2h
theorem s0d:CsOk Try.prog b2b:=a0g i1s B46_ok
def s4h (f:OpT):MBox:=mkM 0 [] [(sh 93 [(2,.ptr 0 0),(3,.ptr 1 0),(5,.own 2),(6,.own 3),(7,.int .i64 0)],[laB 1,rtB 5,.arr TI 11,.arr TI 12])] [] [(.exit 0,sh 93 [(2,.ptr 0 0),(3,.ptr 1 0),(5,.own 2),(6,.own 3)],[laB 0,rtB 4,.arr TI 10,.arr TI 11]),(.ret,sh 93 [(4,.bool 0)],[])] f
def n0i (env:LDt):Tree Step:=Lk.stepMC false LK b2b 33 6 ls0 (s4h fun _=>none) env
def y0b:OpT:=Classical.choose (opq (a0b n0i FU))
theorem c1o (env:LDt):y0b env=a0b n0i FU env:=Classical.choose_spec (opq (a0b n0i FU)) env
def u2q:MBox:=s4h y0b
theorem j2h:u2q=s4h (a0b n0i FU):=congrArg s4h (funext c1o)
theorem l2m: ∀t s x,(a0h u2q t s).sel=some x→a0k Try.prog 0 (.loop (cAt Try.prog 33 6)) t s x:=by
 rw[j2h]
 exact a0o (st:=n0i) (m:=FU) s0d hmix false (LsOk.none _ _ _) (by kernel_rfl) (fun env y h=>by rw[←stepMC_lk];exact h)
def n0u:LDt→Tree Step
 |[.n n0,.l TS l1,.l TPt l2,.l TPt l3,.l TRt l4,.s s5,.n n6,.l TI l7,.l TNd l8,.l TI l9,.l TNd l10,.l TI l11,.l TI l12]=>
  (.node (decide (n0<(↑(List.length l11):Int)))
   (let r1:OD:=(e1l [.l TI l11,.n (List.getD l11 (Int.toNat n0) (0:Int))]);
   (.node (isK 0 [HK.n] r1)
    (.node (decide (gn (dOf r1) 0>(1:Int)))
    (.leaf (Step.stop 1 [.b false]))
    (.leaf (Step.go [.k 0,.n (IntKind.wrap .i64 (n0+(1:Int))),.l TS l1,.l TPt l2,.l TPt l3,.l TRt l4,.s s5,.n n6,.l TI l7,.l TNd l8,.l TI l9,.l TNd l10,.l TI l11,.l TI l12])))
    (.bad 351)))
   (.leaf (Step.stop 0 [.l TS l1,.l TPt l2,.l TPt l3,.l TRt l4,.s s5,.n n6,.l TI l7,.l TNd l8,.l TI l9,.l TNd l10,.l TI l11,.l TI l12])))
 |_=>.bad 0
theorem k0f (n0:Int)(l1:DS)(l2:DP)(l3:DP)(l4:DR)(s5:ByteArray)(n6:Int)(l7:DI)(l8:DD)(l9:DI)(l10:DD)(l11:DI)(l12:DI)(g0:0≤n0):Imp (n0u [.n n0,.l TS l1,.l TPt l2,.l TPt l3,.l TRt l4,.s s5,.n n6,.l TI l7,.l TNd l8,.l TI l9,.l TNd l10,.l TI l11,.l TI l12]) (n0i [.k 0,.n n0,.l TS l1,.l TPt l2,.l TPt l3,.l TRt l4,.s s5,.n n6,.l TI l7,.l TNd l8,.l TI l9,.l TNd l10,.l TI l11,.l TI l12]):=
(.pa [1]
(.nd (fun h0=>
(.pq (c:=(inR n0 (List.length l11)))
(.nd (fun h1=>
(.pa [1]
(.nd (fun h2=>
(.pa [1]
.lf)) (fun h2=>
(.pa [1]
.lf))))) (fun h1=>
.none)))) (fun h0=>
(.pa [1]
.lf))))
def r4a (f:OpT):MBox:=mkM 0 [] [(sh 93 [(2,.ptr 0 0),(3,.ptr 1 0),(5,.own 2),(6,.own 3),(8,.int .i64 0)],[laB 1,rtB 5,.arr TI 11,.arr TI 12])] [] [(.exit 2,sh 93 [(2,.ptr 0 0),(3,.ptr 1 0),(5,.own 2)],[laB 0,rtB 4,.arr TI 10]),(.ret,sh 93 [(4,.bool 0)],[])] f
def i0n (env:LDt):Tree Step:=Lk.stepMC false LK b2b 33 11 ls0 (r4a fun _=>none) env
def r0k:OpT:=Classical.choose (opq (a0b i0n FU))
theorem x0n (env:LDt):r0k env=a0b i0n FU env:=Classical.choose_spec (opq (a0b i0n FU)) env
def v1w:MBox:=r4a r0k
theorem e2v:v1w=r4a (a0b i0n FU):=congrArg r4a (funext x0n)
theorem b2a: ∀t s x,(a0h v1w t s).sel=some x→a0k Try.prog 0 (.loop (cAt Try.prog 33 11)) t s x:=by
 rw[e2v]
 exact a0o (st:=i0n) (m:=FU) s0d hmix false (LsOk.none _ _ _) (by kernel_rfl) (fun env y h=>by rw[←stepMC_lk];exact h)
def j0z:LDt→Tree Step
 |[.n n0,.l TS l1,.l TPt l2,.l TPt l3,.l TRt l4,.s s5,.n n6,.l TI l7,.l TNd l8,.l TI l9,.l TNd l10,.l TI l11,.l TI l12]=>
  (.node (decide (n0<(↑(List.length l12):Int)))
   (let r1:OD:=(e1l [.l TI l12,.n (List.getD l12 (Int.toNat n0) (0:Int))]);
   (.node (isK 0 [HK.n] r1)
    (.node (decide (gn (dOf r1) 0>(1:Int)))
    (.leaf (Step.stop 1 [.b false]))
    (.leaf (Step.go [.k 0,.n (IntKind.wrap .i64 (n0+(1:Int))),.l TS l1,.l TPt l2,.l TPt l3,.l TRt l4,.s s5,.n n6,.l TI l7,.l TNd l8,.l TI l9,.l TNd l10,.l TI l11,.l TI l12])))
    (.bad 351)))
   (.leaf (Step.stop 0 [.l TS l1,.l TPt l2,.l TPt l3,.l TRt l4,.s s5,.n n6,.l TI l7,.l TNd l8,.l TI l9,.l TNd l10,.l TI l11])))
 |_=>.bad 0
theorem h0k (n0:Int)(l1:DS)(l2:DP)(l3:DP)(l4:DR)(s5:ByteArray)(n6:Int)(l7:DI)(l8:DD)(l9:DI)(l10:DD)(l11:DI)(l12:DI)(g0:0≤n0):Imp (j0z [.n n0,.l TS l1,.l TPt l2,.l TPt l3,.l TRt l4,.s s5,.n n6,.l TI l7,.l TNd l8,.l TI l9,.l TNd l10,.l TI l11,.l TI l12]) (i0n [.k 0,.n n0,.l TS l1,.l TPt l2,.l TPt l3,.l TRt l4,.s s5,.n n6,.l TI l7,.l TNd l8,.l TI l9,.l TNd l10,.l TI l11,.l TI l12]):=
(.pa [1]
(.nd (fun h0=>
(.pq (c:=(inR n0 (List.length l12)))
(.nd (fun h1=>
(.pa [1]
(.nd (fun h2=>
(.pa [1]
.lf)) (fun h2=>
(.pa [1]
.lf))))) (fun h1=>
.none)))) (fun h0=>
(.pa [1]
.lf))))
def r4l (f:OpT):MBox:=mkM 0 [] [(sh 93 [(2,.ptr 0 0),(3,.ptr 1 0),(5,.own 2),(9,.int .i64 0)],[laB 1,rtB 5,.arr TI 11])] [] [(.exit 4,sh 93 [],[]),(.ret,sh 93 [(4,.bool 0)],[])] f
def f0v (env:LDt):Tree Step:=Lk.stepMC false LK b2b 33 16 ls0 (r4l fun _=>none) env
def u0b:OpT:=Classical.choose (opq (a0b f0v FU))
theorem x0p (env:LDt):u0b env=a0b f0v FU env:=Classical.choose_spec (opq (a0b f0v FU)) env
def y1l:MBox:=r4l u0b
theorem g2f:y1l=r4l (a0b f0v FU):=congrArg r4l (funext x0p)
theorem e2u: ∀t s x,(a0h y1l t s).sel=some x→a0k Try.prog 0 (.loop (cAt Try.prog 33 16)) t s x:=by
 rw[g2f]
 exact a0o (st:=f0v) (m:=FU) s0d hmix false (LsOk.none _ _ _) (by kernel_rfl) (fun env y h=>by rw[←stepMC_lk];exact h)
def q0s:LDt→Tree Step
 |[.n n0,.l TS l1,.l TPt l2,.l TPt l3,.l TRt l4,.s s5,.n n6,.l TI l7,.l TNd l8,.l TI l9,.l TNd l10,.l TI l11]=>
  (.node (decide (n0<(↑(List.length l2):Int)))
   (let r1:OD:=(e1l [.l TI l11,.n (Prod.snd (List.getD l2 (Int.toNat n0) (Ty.dflt TPt)))]);
   (.node (isK 0 [HK.n] r1)
    (let r2:OD:=(q1w [.l TNd l8]);
    (.node (isK 0 [HK.l TI] r2)
     (let r3:OD:=(e1l [.l TI (gl TI (dOf r2) 0),.n n0]);
     (.node (isK 0 [HK.n] r3)
      (.node (!decide (gn (dOf r1) 0>(0:Int))==decide (gn (dOf r3) 0>(0:Int)))
      (.leaf (Step.stop 1 [.b false]))
      (.node (decide (gn (dOf r1) 0>(0:Int)))
       (let r4:OD:=(q1w [.l TNd l10]);
       (.node (isK 0 [HK.l TI] r4)
        (let r5:OD:=(e1l [.l TI (gl TI (dOf r4) 0),.n n0]);
        (.node (isK 0 [HK.n] r5)
         (.node (decide (gn (dOf r5) 0>(0:Int)))
         (.leaf (Step.stop 1 [.b false]))
         (.leaf (Step.go [.k 0,.n (IntKind.wrap .i64 (n0+(1:Int))),.l TS l1,.l TPt l2,.l TPt l3,.l TRt l4,.s s5,.n n6,.l TI l7,.l TNd l8,.l TI l9,.l TNd l10,.l TI l11])))
         (.bad 351)))
        (.bad 351)))
       (.leaf (Step.go [.k 0,.n (IntKind.wrap .i64 (n0+(1:Int))),.l TS l1,.l TPt l2,.l TPt l3,.l TRt l4,.s s5,.n n6,.l TI l7,.l TNd l8,.l TI l9,.l TNd l10,.l TI l11]))))
      (.bad 351)))
     (.bad 351)))
    (.bad 351)))
   (.leaf (Step.stop 0 [])))
 |_=>.bad 0
theorem o0u (n0:Int)(l1:DS)(l2:DP)(l3:DP)(l4:DR)(s5:ByteArray)(n6:Int)(l7:DI)(l8:DD)(l9:DI)(l10:DD)(l11:DI)(g0:0≤n0):Imp (q0s [.n n0,.l TS l1,.l TPt l2,.l TPt l3,.l TRt l4,.s s5,.n n6,.l TI l7,.l TNd l8,.l TI l9,.l TNd l10,.l TI l11]) (f0v [.k 0,.n n0,.l TS l1,.l TPt l2,.l TPt l3,.l TRt l4,.s s5,.n n6,.l TI l7,.l TNd l8,.l TI l9,.l TNd l10,.l TI l11]):=
(.pa [1]
(.nd (fun h0=>
(.pq (c:=(inR n0 (List.length l2)))
(.nd (fun h1=>
(.pa [1]
(.nd (fun h2=>
(.pa [1]
(.nd (fun h3=>
(.pa [1]
(.nd (fun h4=>
(.pa [1,1,1]
.lf)) (fun h4=>
(.nd (fun h5=>
(.nd (fun h6=>
(.pa [1]
(.nd (fun h7=>
(.pa [1]
(.nd (fun h8=>
(.pa [1]
.lf)) (fun h8=>
(.pa [1]
.lf))))) (fun h7=>
.none)))) (fun h6=>
.none))) (fun h5=>
(.pa [0,0,1]
.lf))))))) (fun h3=>
.none)))) (fun h2=>
.none)))) (fun h1=>
.none)))) (fun h0=>
(.pa [1]
.lf))))
theorem q2u:LsOk Try.prog (z0) (lsM [(6,u2q),(11,v1w),(16,y1l)] (z0)) (a0r Try.prog 33):=LsOk.many fun j B hB hk c hc hi=>by
 simp only[b0d]at hB
 split at hB
 ·rename_i e;have:=Nat.eq_of_beq_eq_true e;subst this;cases hB
  rw[a0y (f:=33) (i:=6) (a0e (by kernel_rfl)) (a0d hc hi)];exact l2m
 split at hB
 ·rename_i e;have:=Nat.eq_of_beq_eq_true e;subst this;cases hB
  rw[a0y (f:=33) (i:=11) (a0e (by kernel_rfl)) (a0d hc hi)];exact b2a
 split at hB
 ·rename_i e;have:=Nat.eq_of_beq_eq_true e;subst this;cases hB
  rw[a0y (f:=33) (i:=16) (a0e (by kernel_rfl)) (a0d hc hi)];exact e2u
 cases hB
def v2e (env:LDt):TD:=Lk.boxC false LK b2b 33 (lsM [(6,u2q),(11,v1w),(16,y1l)] (z0)) (kq27 fun _=>none) env
def q1j:OpT:=Classical.choose (opq (fun env=>(v2e env).sel))
theorem a2c (env:LDt):q1j env=(v2e env).sel:=Classical.choose_spec (opq (fun env=>(v2e env).sel)) env
def B29:FBox:=kq27 q1j
theorem B29_ok:a0v Try.prog 33 (a0j B29):=a0p (op:=q1j) s0d hmix false (q2u) (fun env x h=>by rw[a2c]at h;rw[←boxC_lk];exact h)
def q2f:LDt→TD
 |[.l TS l0,.l TPt l1,.l TPt l2,.l TRt l3,.s s4,.n n5,.l TI l6,.l TNd l7,.l TI l8,.l TNd l9]=>
  (let r1:OD:=(h1f [.s s4,.n n5,.l TI l6,.l TNd l7,.l TI l8,.l TNd l9]);
   (.node (isK 0 [HK.l TI] r1)
   (let r2:OD:=(i1r [.s s4,.n n5,.l TI l6,.l TNd l7,.l TI l8,.l TNd l9]);
    (.node (isK 0 [HK.l TNd] r2)
    (let r3:OD:=(q1w [.l TNd (gl TNd (dOf r2) 0)]);
     (.node (isK 0 [HK.l TI] r3)
     (.node ((↑(List.length l6):Int)==(0:Int))
      (.leaf ((0,[.b false])))
      (.node (inR n5 (List.length l2))
      (let r4:OD:=(e1l [.l TI (gl TI (dOf r1) 0),.n (Prod.snd (List.getD l2 (Int.toNat n5) (Ty.dflt TPt)))]);
       (.node (isK 0 [HK.n] r4)
       (.node (decide (gn (dOf r4) 0>(0:Int)))
        (.leaf ((0,[.b false])))
        (let r5:OD:=(y0b [.k 0,.n (0:Int),.l TS l0,.l TPt l1,.l TPt l2,.l TRt l3,.s s4,.n n5,.l TI l6,.l TNd l7,.l TI l8,.l TNd l9,.l TI (gl TI (dOf r1) 0),.l TI (gl TI (dOf r3) 0)]);
        (.node (isK 0 [HK.l Ty.str,HK.l TPt,HK.l TPt,HK.l TRt,HK.s,HK.n,HK.l TI,HK.l TNd,HK.l TI,HK.l TNd,HK.l TI,HK.l TI] r5)
         (let r6:OD:=(r0k [.k 0,.n (0:Int),.l TS (gl Ty.str (dOf r5) 0),.l TPt (gl TPt (dOf r5) 1),.l TPt (gl TPt (dOf r5) 2),.l TRt (gl TRt (dOf r5) 3),.s (gs (dOf r5) 4),.n (gn (dOf r5) 5),.l TI (gl TI (dOf r5) 6),.l TNd (gl TNd (dOf r5) 7),.l TI (gl TI (dOf r5) 8),.l TNd (gl TNd (dOf r5) 9),.l TI (gl TI (dOf r5) 10),.l TI (gl TI (dOf r5) 11)]);
         (.node (isK 0 [HK.l Ty.str,HK.l TPt,HK.l TPt,HK.l TRt,HK.s,HK.n,HK.l TI,HK.l TNd,HK.l TI,HK.l TNd,HK.l TI] r6)
          (let r7:OD:=(u0b [.k 0,.n (0:Int),.l TS (gl Ty.str (dOf r6) 0),.l TPt (gl TPt (dOf r6) 1),.l TPt (gl TPt (dOf r6) 2),.l TRt (gl TRt (dOf r6) 3),.s (gs (dOf r6) 4),.n (gn (dOf r6) 5),.l TI (gl TI (dOf r6) 6),.l TNd (gl TNd (dOf r6) 7),.l TI (gl TI (dOf r6) 8),.l TNd (gl TNd (dOf r6) 9),.l TI (gl TI (dOf r6) 10)]);
          (.node (isK 0 [] r7)
           (.leaf ((0,[.b true])))
           (.node (isK 1 [HK.b] r7)
           (.leaf ((0,[.b (gb (dOf r7) 0)])))
           (.bad 351))))
          (.node (isK 1 [HK.b] r6)
          (.leaf ((0,[.b (gb (dOf r6) 0)])))
          (.bad 351))))
         (.node (isK 1 [HK.b] r5)
         (.leaf ((0,[.b (gb (dOf r5) 0)])))
         (.bad 351)))))
       (.bad 351)))
      (.bad 10)))
     (.bad 351)))
    (.bad 351)))
   (.bad 351)))
 |_=>.bad 0
theorem e2a (l0:DS)(l1:DP)(l2:DP)(l3:DR)(s4:ByteArray)(n5:Int)(l6:DI)(l7:DD)(l8:DI)(l9:DD):Imp (q2f [.l TS l0,.l TPt l1,.l TPt l2,.l TRt l3,.s s4,.n n5,.l TI l6,.l TNd l7,.l TI l8,.l TNd l9]) (v2e [.l TS l0,.l TPt l1,.l TPt l2,.l TRt l3,.s s4,.n n5,.l TI l6,.l TNd l7,.l TI l8,.l TNd l9]):=
(.nd (fun h0=>
(.pa [1]
(.nd (fun h1=>
(.pa [1]
(.nd (fun h2=>
(.pa [1]
(.nd (fun h3=>
(.pa [1,1,1]
.lf)) (fun h3=>
(.nd (fun h4=>
(.nd (fun h5=>
(.pa [1]
(.nd (fun h6=>
(.pa [1]
.lf)) (fun h6=>
(.nd (fun h7=>
(.nd (fun h8=>
(.nd (fun h9=>
(.pa [1]
.lf)) (fun h9=>
(.nd (fun h10=>
(.pa [1]
.lf)) (fun h10=>
.none))))) (fun h8=>
(.nd (fun h9=>
(.pa [1]
.lf)) (fun h9=>
.none))))) (fun h7=>
(.nd (fun h8=>
(.pa [1]
.lf)) (fun h8=>
.none)))))))) (fun h5=>
.none))) (fun h4=>
.none)))))) (fun h2=>
.none)))) (fun h1=>
.none)))) (fun h0=>
.none))
def q2j:FuncId→Option a0q:=a0s 33 B29 b2b
theorem j1a:CsOk Try.prog q2j:=a0g s0d B29_ok
def r4y (f:OpT):MBox:=mkM 0 [] [(sh 23 [(1,.ptr 0 0),(10,.imm TRt 0),(11,.int .i64 1),(12,.int .i64 2)],[laB 3])] [] [(.exit 0,sh 23 [],[]),(.ret,sh 23 [(2,.int .i64 0),(3,.int .i64 1)],[])] f
def n0t (env:LDt):Tree Step:=Lk.stepMC false LK q2j 55 4 ls0 (r4y fun _=>none) env
def z0z:OpT:=Classical.choose (opq (a0b n0t FU))
theorem c1y (env:LDt):z0z env=a0b n0t FU env:=Classical.choose_spec (opq (a0b n0t FU)) env
def s2l:MBox:=r4y z0z
theorem m2b:s2l=r4y (a0b n0t FU):=congrArg r4y (funext c1y)
theorem n2g: ∀t s x,(a0h s2l t s).sel=some x→a0k Try.prog 0 (.loop (cAt Try.prog 55 4)) t s x:=by
 rw[m2b]
 exact a0o (st:=n0t) (m:=FU) j1a hmix false (LsOk.none _ _ _) (by kernel_rfl) (fun env y h=>by rw[←stepMC_lk];exact h)
def n0k:LDt→Tree Step
 |[.l TRt l0,.n n1,.n n2,.l TS l3,.l TPt l4,.l TPt l5,.l TRt l6]=>
  (.node (decide (n2<n1))
   (let r1:OD:=(s1p [.l TS l3,.l TPt l4,.l TPt l5,.l TRt l6,.s (Prod.fst (List.getD l0 (Int.toNat n2) (Ty.dflt TRt))),.n (Prod.fst (Prod.snd (List.getD l0 (Int.toNat n2) (Ty.dflt TRt)))),.l TI (Prod.fst (Prod.snd (Prod.snd (List.getD l0 (Int.toNat n2) (Ty.dflt TRt))))),.l TNd (Prod.fst (Prod.snd (Prod.snd (Prod.snd (List.getD l0 (Int.toNat n2) (Ty.dflt TRt)))))),.l TI (Prod.fst (Prod.snd (Prod.snd (Prod.snd (Prod.snd (List.getD l0 (Int.toNat n2) (Ty.dflt TRt))))))),.l TNd (Prod.snd (Prod.snd (Prod.snd (Prod.snd (Prod.snd (List.getD l0 (Int.toNat n2) (Ty.dflt TRt)))))))]);
   (.node (isK 0 [HK.b] r1)
    (.node (!gb (dOf r1) 0)
    (.leaf (Step.stop 1 [.n (50:Int),.n n2]))
    (.leaf (Step.go [.k 0,.l TRt l0,.n n1,.n (IntKind.wrap .i64 (n2+(1:Int))),.l TS l3,.l TPt l4,.l TPt l5,.l TRt l6])))
    (.bad 351)))
   (.leaf (Step.stop 0 [])))
 |_=>.bad 0
theorem l0g (l0:DR)(n1:Int)(n2:Int)(l3:DS)(l4:DP)(l5:DP)(l6:DR)(g0:0≤n2)(g1:n1=(l0.length:Int)):Imp (n0k [.l TRt l0,.n n1,.n n2,.l TS l3,.l TPt l4,.l TPt l5,.l TRt l6]) (n0t [.k 0,.l TRt l0,.n n1,.n n2,.l TS l3,.l TPt l4,.l TPt l5,.l TRt l6]):=
(.pa [1]
(.nd (fun h0=>
(.pq (c:=(inR n2 (List.length l0)))
(.nd (fun h1=>
(.pa [1]
(.nd (fun h2=>
(.pa [1]
.lf)) (fun h2=>
(.pa [1]
.lf))))) (fun h1=>
.none)))) (fun h0=>
(.pa [1]
.lf))))
theorem v2a:LsOk Try.prog (z0) (lsM [(4,s2l)] (z0)) (a0r Try.prog 55):=LsOk.many fun j B hB hk c hc hi=>by
 simp only[b0d]at hB
 split at hB
 ·rename_i e;have:=Nat.eq_of_beq_eq_true e;subst this;cases hB
  rw[a0y (f:=55) (i:=4) (a0e (by kernel_rfl)) (a0d hc hi)];exact n2g
 cases hB
def kq18 (f:OpT):FBox:=mkF [laV 0] [] [] [(.tup [.int .i64 0,.int .i64 1],[])] f
def u2n (env:LDt):TD:=Lk.boxC false LK q2j 55 (lsM [(4,s2l)] (z0)) (kq18 fun _=>none) env
def b2y:OpT:=Classical.choose (opq (fun env=>(u2n env).sel))
theorem x1t (env:LDt):b2y env=(u2n env).sel:=Classical.choose_spec (opq (fun env=>(u2n env).sel)) env
def B18:FBox:=kq18 b2y
theorem B18_ok:a0v Try.prog 55 (a0j B18):=a0p (op:=b2y) j1a hmix false (v2a) (fun env x h=>by rw[x1t]at h;rw[←boxC_lk];exact h)
def o2f:LDt→TD
 |[.l TS l0,.l TPt l1,.l TPt l2,.l TRt l3]=>
  (let r1:OD:=(g2g [.l TS l0,.l TPt l1,.l TPt l2,.l TRt l3]);
   (.node (isK 0 [HK.b] r1)
   (.node (!gb (dOf r1) 0)
    (.leaf ((0,[.n (2:Int),.n (0:Int)])))
    (let r2:OD:=(z0z [.k 0,.l TRt l3,.n (↑(List.length l3):Int),.n (0:Int),.l TS l0,.l TPt l1,.l TPt l2,.l TRt l3]);
    (.node (isK 0 [] r2)
     (.leaf ((0,[.n (0:Int),.n (0:Int)])))
     (.node (isK 1 [HK.n,HK.n] r2)
     (.leaf ((0,[.n (gn (dOf r2) 0),.n (gn (dOf r2) 1)])))
     (.bad 351)))))
   (.bad 351)))
 |_=>.bad 0
theorem c2t (l0:DS)(l1:DP)(l2:DP)(l3:DR):Imp (o2f [.l TS l0,.l TPt l1,.l TPt l2,.l TRt l3]) (u2n [.l TS l0,.l TPt l1,.l TPt l2,.l TRt l3]):=
(.nd (fun h0=>
(.pa [1]
(.nd (fun h1=>
(.pa [1]
.lf)) (fun h1=>
(.nd (fun h2=>
(.pa [1]
.lf)) (fun h2=>
(.nd (fun h3=>
(.pa [1]
.lf)) (fun h3=>
.none)))))))) (fun h0=>
.none))
def r2m:FuncId→Option a0q:=a0s 55 B18 q2j
theorem k1t:CsOk Try.prog r2m:=a0g j1a B18_ok
def s4n (f:OpT):MBox:=mkM 0 [] [(sh 24 [(1,.ptr 0 0),(4,.int .i64 0)],[laB 1])] [] [(.exit 0,sh 24 [],[]),(.ret,sh 24 [(2,.int .i64 0),(3,.int .i64 1)],[])] f
def n0j (env:LDt):Tree Step:=Lk.stepMC false LK r2m 12 4 ls0 (s4n fun _=>none) env
def z0k:OpT:=Classical.choose (opq (a0b n0j FU))
theorem d1t (env:LDt):z0k env=a0b n0j FU env:=Classical.choose_spec (opq (a0b n0j FU)) env
def v2w:MBox:=s4n z0k
theorem l2p:v2w=s4n (a0b n0j FU):=congrArg s4n (funext d1t)
theorem q2a: ∀t s x,(a0h v2w t s).sel=some x→a0k Try.prog 0 (.loop (cAt Try.prog 12 4)) t s x:=by
 rw[l2p]
 exact a0o (st:=n0j) (m:=FU) k1t hmix false (LsOk.none _ _ _) (by kernel_rfl) (fun env y h=>by rw[←stepMC_lk];exact h)
def o0f:LDt→Tree Step
 |[.n n0,.l TS l1,.l TPt l2,.l TPt l3,.l TRt l4]=>
  (.node (decide (n0<(↑(List.length l4):Int)))
   (let r1:OD:=(q1j [.l TS l1,.l TPt l2,.l TPt l3,.l TRt l4,.s (Prod.fst (List.getD l4 (Int.toNat n0) (Ty.dflt TRt))),.n (Prod.fst (Prod.snd (List.getD l4 (Int.toNat n0) (Ty.dflt TRt)))),.l TI (Prod.fst (Prod.snd (Prod.snd (List.getD l4 (Int.toNat n0) (Ty.dflt TRt))))),.l TNd (Prod.fst (Prod.snd (Prod.snd (Prod.snd (List.getD l4 (Int.toNat n0) (Ty.dflt TRt)))))),.l TI (Prod.fst (Prod.snd (Prod.snd (Prod.snd (Prod.snd (List.getD l4 (Int.toNat n0) (Ty.dflt TRt))))))),.l TNd (Prod.snd (Prod.snd (Prod.snd (Prod.snd (Prod.snd (List.getD l4 (Int.toNat n0) (Ty.dflt TRt)))))))]);
   (.node (isK 0 [HK.b] r1)
    (.node (!gb (dOf r1) 0)
    (.leaf (Step.stop 1 [.n (50:Int),.n n0]))
    (.leaf (Step.go [.k 0,.n (IntKind.wrap .i64 (n0+(1:Int))),.l TS l1,.l TPt l2,.l TPt l3,.l TRt l4])))
    (.bad 351)))
   (.leaf (Step.stop 0 [])))
 |_=>.bad 0
theorem k0u (n0:Int)(l1:DS)(l2:DP)(l3:DP)(l4:DR)(g0:0≤n0):Imp (o0f [.n n0,.l TS l1,.l TPt l2,.l TPt l3,.l TRt l4]) (n0j [.k 0,.n n0,.l TS l1,.l TPt l2,.l TPt l3,.l TRt l4]):=
(.pa [1]
(.nd (fun h0=>
(.pq (c:=(inR n0 (List.length l4)))
(.nd (fun h1=>
(.pa [1,1]
(.nd (fun h2=>
(.pa [1]
.lf)) (fun h2=>
(.pa [1]
.lf))))) (fun h1=>
.none)))) (fun h0=>
(.pa [1]
.lf))))
theorem u2h:LsOk Try.prog (z0) (lsM [(4,v2w)] (z0)) (a0r Try.prog 12):=LsOk.many fun j B hB hk c hc hi=>by
 simp only[b0d]at hB
 split at hB
 ·rename_i e;have:=Nat.eq_of_beq_eq_true e;subst this;cases hB
  rw[a0y (f:=12) (i:=4) (a0e (by kernel_rfl)) (a0d hc hi)];exact q2a
 cases hB
def t2i (env:LDt):TD:=Lk.boxC false LK r2m 12 (lsM [(4,v2w)] (z0)) (kq18 fun _=>none) env
def f2v:OpT:=Classical.choose (opq (fun env=>(t2i env).sel))
theorem x1x (env:LDt):f2v env=(t2i env).sel:=Classical.choose_spec (opq (fun env=>(t2i env).sel)) env
def B19:FBox:=kq18 f2v
theorem t4c:a0v Try.prog 12 (a0j B19):=a0p (op:=f2v) k1t hmix false (u2h) (fun env x h=>by rw[x1x]at h;rw[←boxC_lk];exact h)
def k2a:LDt→TD
 |[.l TS l0,.l TPt l1,.l TPt l2,.l TRt l3]=>
  (let r1:OD:=(b2n [.l TS l0,.l TPt l1,.l TPt l2,.l TRt l3]);
   (.node (isK 0 [HK.b] r1)
   (.node (!gb (dOf r1) 0)
    (.leaf ((0,[.n (2:Int),.n (0:Int)])))
    (let r2:OD:=(z0k [.k 0,.n (0:Int),.l TS l0,.l TPt l1,.l TPt l2,.l TRt l3]);
    (.node (isK 0 [] r2)
     (.leaf ((0,[.n (0:Int),.n (0:Int)])))
     (.node (isK 1 [HK.n,HK.n] r2)
     (.leaf ((0,[.n (gn (dOf r2) 0),.n (gn (dOf r2) 1)])))
     (.bad 351)))))
   (.bad 351)))
 |_=>.bad 0
theorem d2x (l0:DS)(l1:DP)(l2:DP)(l3:DR):Imp (k2a [.l TS l0,.l TPt l1,.l TPt l2,.l TRt l3]) (t2i [.l TS l0,.l TPt l1,.l TPt l2,.l TRt l3]):=
(.nd (fun h0=>
(.pa [1]
(.nd (fun h1=>
(.pa [1]
.lf)) (fun h1=>
(.nd (fun h2=>
(.pa [1]
.lf)) (fun h2=>
(.nd (fun h3=>
(.pa [1]
.lf)) (fun h3=>
.none)))))))) (fun h0=>
.none))
def r1o:FuncId→Option a0q:=a0s 12 B19 r2m
theorem m0z:CsOk Try.prog r1o:=a0g k1t t4c
def s4e (f:OpT):MBox:=mkM 0 [] [(sh 120 [(1,.int .i64 0),(2,.ptr 0 0),(5,.int .i64 1),(6,.int .i64 2)],[laB 3])] [] [(.exit 0,sh 120 [(1,.int .i64 0),(2,.ptr 0 0),(5,.int .i64 1)],[laB 2])] f
def j0v (env:LDt):Tree Step:=Lk.stepMC false LK r1o 9 3 ls0 (s4e fun _=>none) env
def z0w:OpT:=Classical.choose (opq (a0b j0v FU))
theorem d1j (env:LDt):z0w env=a0b j0v FU env:=Classical.choose_spec (opq (a0b j0v FU)) env
def t2z:MBox:=s4e z0w
theorem q2b:t2z=s4e (a0b j0v FU):=congrArg s4e (funext d1j)
theorem p2d: ∀t s x,(a0h t2z t s).sel=some x→a0k Try.prog 0 (.loop (cAt Try.prog 9 3)) t s x:=by
 rw[q2b]
 exact a0o (st:=j0v) (m:=FU) m0z hmix false (LsOk.none _ _ _) (by kernel_rfl) (fun env y h=>by rw[←stepMC_lk];exact h)
def n0z:LDt→Tree Step
 |[.n n0,.n n1,.n n2,.l TS l3,.l TPt l4,.l TPt l5,.l TRt l6]=>
  (.node (decide (n2<(↑(List.length l3):Int)))
   (.node (decide (n1≤n0))
   (.leaf (Step.go [.k 0,.n n0,.n (IntKind.wrap .i64 (IntKind.wrap .i64 (n1+(1:Int))+(↑(ByteArray.size (List.getD l3 (Int.toNat n2) (Ty.dflt Ty.str))):Int))),.n (IntKind.wrap .i64 (n2+(1:Int))),.l TS l3,.l TPt l4,.l TPt l5,.l TRt l6]))
   (.leaf (Step.stop 0 [.n n0,.n n1,.l TS l3,.l TPt l4,.l TPt l5,.l TRt l6])))
   (.leaf (Step.stop 0 [.n n0,.n n1,.l TS l3,.l TPt l4,.l TPt l5,.l TRt l6])))
 |_=>.bad 0
theorem k0m (n0:Int)(n1:Int)(n2:Int)(l3:DS)(l4:DP)(l5:DP)(l6:DR)(g0:0≤n2):Imp (n0z [.n n0,.n n1,.n n2,.l TS l3,.l TPt l4,.l TPt l5,.l TRt l6]) (j0v [.k 0,.n n0,.n n1,.n n2,.l TS l3,.l TPt l4,.l TPt l5,.l TRt l6]):=
(.pa [1]
(.nd (fun h0=>
(.nd (fun h1=>
(.pq (c:=(inR n2 (List.length l3)))
(.pa [1]
.lf))) (fun h1=>
(.pa [1]
.lf)))) (fun h0=>
(.pa [0,0,1]
.lf))))
def s4d (f:OpT):MBox:=mkM 0 [] [(sh 120 [(1,.int .i64 0),(2,.ptr 0 0),(5,.int .i64 1),(7,.int .i64 2)],[laB 3])] [] [(.exit 2,sh 120 [(1,.int .i64 0),(2,.ptr 0 0),(5,.int .i64 1)],[laB 2])] f
def l0c (env:LDt):Tree Step:=Lk.stepMC false LK r1o 9 7 ls0 (s4d fun _=>none) env
def z0q:OpT:=Classical.choose (opq (a0b l0c FU))
theorem d1w (env:LDt):z0q env=a0b l0c FU env:=Classical.choose_spec (opq (a0b l0c FU)) env
def s2d:MBox:=s4d z0q
theorem h2j:s2d=s4d (a0b l0c FU):=congrArg s4d (funext d1w)
theorem n2c: ∀t s x,(a0h s2d t s).sel=some x→a0k Try.prog 0 (.loop (cAt Try.prog 9 7)) t s x:=by
 rw[h2j]
 exact a0o (st:=l0c) (m:=FU) m0z hmix false (LsOk.none _ _ _) (by kernel_rfl) (fun env y h=>by rw[←stepMC_lk];exact h)
def o0e:LDt→Tree Step
 |[.n n0,.n n1,.n n2,.l TS l3,.l TPt l4,.l TPt l5,.l TRt l6]=>
  (.node (decide (n2<(↑(List.length l4):Int)))
   (.node (decide (n1≤n0))
   (.leaf (Step.go [.k 0,.n n0,.n (IntKind.wrap .i64 (IntKind.wrap .i64 (n1+(1:Int))+(↑(ByteArray.size (Prod.fst (List.getD l4 (Int.toNat n2) (Ty.dflt TPt)))):Int))),.n (IntKind.wrap .i64 (n2+(1:Int))),.l TS l3,.l TPt l4,.l TPt l5,.l TRt l6]))
   (.leaf (Step.stop 0 [.n n0,.n n1,.l TS l3,.l TPt l4,.l TPt l5,.l TRt l6])))
   (.leaf (Step.stop 0 [.n n0,.n n1,.l TS l3,.l TPt l4,.l TPt l5,.l TRt l6])))
 |_=>.bad 0
theorem k0q (n0:Int)(n1:Int)(n2:Int)(l3:DS)(l4:DP)(l5:DP)(l6:DR)(g0:0≤n2):Imp (o0e [.n n0,.n n1,.n n2,.l TS l3,.l TPt l4,.l TPt l5,.l TRt l6]) (l0c [.k 0,.n n0,.n n1,.n n2,.l TS l3,.l TPt l4,.l TPt l5,.l TRt l6]):=
(.pa [1]
(.nd (fun h0=>
(.nd (fun h1=>
(.pq (c:=(inR n2 (List.length l4)))
(.pa [1]
.lf))) (fun h1=>
(.pa [1]
.lf)))) (fun h0=>
(.pa [0,0,1]
.lf))))
def r4k (f:OpT):MBox:=mkM 0 [] [(sh 120 [(1,.int .i64 0),(2,.ptr 0 0),(5,.int .i64 1),(8,.int .i64 2)],[laB 3])] [] [(.exit 4,sh 120 [(1,.int .i64 0),(2,.ptr 0 0),(5,.int .i64 1)],[laB 2])] f
def g0a (env:LDt):Tree Step:=Lk.stepMC false LK r1o 9 11 ls0 (r4k fun _=>none) env
def t0y:OpT:=Classical.choose (opq (a0b g0a FU))
theorem w0t (env:LDt):t0y env=a0b g0a FU env:=Classical.choose_spec (opq (a0b g0a FU)) env
def a2g:MBox:=r4k t0y
theorem a2w:a2g=r4k (a0b g0a FU):=congrArg r4k (funext w0t)
theorem c2u: ∀t s x,(a0h a2g t s).sel=some x→a0k Try.prog 0 (.loop (cAt Try.prog 9 11)) t s x:=by
 rw[a2w]
 exact a0o (st:=g0a) (m:=FU) m0z hmix false (LsOk.none _ _ _) (by kernel_rfl) (fun env y h=>by rw[←stepMC_lk];exact h)
def j0r:LDt→Tree Step
 |[.n n0,.n n1,.n n2,.l TS l3,.l TPt l4,.l TPt l5,.l TRt l6]=>
  (.node (decide (n2<(↑(List.length l5):Int)))
   (.node (decide (n1≤n0))
   (.leaf (Step.go [.k 0,.n n0,.n (IntKind.wrap .i64 (IntKind.wrap .i64 (n1+(1:Int))+(↑(ByteArray.size (Prod.fst (List.getD l5 (Int.toNat n2) (Ty.dflt TPt)))):Int))),.n (IntKind.wrap .i64 (n2+(1:Int))),.l TS l3,.l TPt l4,.l TPt l5,.l TRt l6]))
   (.leaf (Step.stop 0 [.n n0,.n n1,.l TS l3,.l TPt l4,.l TPt l5,.l TRt l6])))
   (.leaf (Step.stop 0 [.n n0,.n n1,.l TS l3,.l TPt l4,.l TPt l5,.l TRt l6])))
 |_=>.bad 0
theorem h0m (n0:Int)(n1:Int)(n2:Int)(l3:DS)(l4:DP)(l5:DP)(l6:DR)(g0:0≤n2):Imp (j0r [.n n0,.n n1,.n n2,.l TS l3,.l TPt l4,.l TPt l5,.l TRt l6]) (g0a [.k 0,.n n0,.n n1,.n n2,.l TS l3,.l TPt l4,.l TPt l5,.l TRt l6]):=
(.pa [1]
(.nd (fun h0=>
(.nd (fun h1=>
(.pq (c:=(inR n2 (List.length l5)))
(.pa [1]
.lf))) (fun h1=>
(.pa [1]
.lf)))) (fun h0=>
(.pa [0,0,1]
.lf))))
def r4c (f:OpT):MBox:=mkM 0 [] [(sh 120 [(1,.int .i64 0),(2,.ptr 0 0),(5,.int .i64 1),(9,.int .i64 2)],[laB 3])] [] [(.exit 6,sh 120 [(5,.int .i64 0)],[])] f
def g0c (env:LDt):Tree Step:=Lk.stepMC false LK r1o 9 15 ls0 (r4c fun _=>none) env
def s0c:OpT:=Classical.choose (opq (a0b g0c FU))
theorem x0t (env:LDt):s0c env=a0b g0c FU env:=Classical.choose_spec (opq (a0b g0c FU)) env
def z1c:MBox:=r4c s0c
theorem b2s:z1c=r4c (a0b g0c FU):=congrArg r4c (funext x0t)
theorem f2c: ∀t s x,(a0h z1c t s).sel=some x→a0k Try.prog 0 (.loop (cAt Try.prog 9 15)) t s x:=by
 rw[b2s]
 exact a0o (st:=g0c) (m:=FU) m0z hmix false (LsOk.none _ _ _) (by kernel_rfl) (fun env y h=>by rw[←stepMC_lk];exact h)
def g0g:LDt→Tree Step
 |[.n n0,.n n1,.n n2,.l TS l3,.l TPt l4,.l TPt l5,.l TRt l6]=>
  (.node (decide (n2<(↑(List.length l6):Int)))
   (.node (decide (n1≤n0))
   (.node (decide (IntKind.wrap .i64 (IntKind.wrap .i64 (IntKind.wrap .i64 (IntKind.wrap .i64 (n1+(1:Int))+(↑(ByteArray.size (Prod.fst (List.getD l6 (Int.toNat n2) (Ty.dflt TRt)))):Int))+(↑(List.length (Prod.fst (Prod.snd (Prod.snd (List.getD l6 (Int.toNat n2) (Ty.dflt TRt)))))):Int))+(↑(List.length (Prod.fst (Prod.snd (Prod.snd (Prod.snd (List.getD l6 (Int.toNat n2) (Ty.dflt TRt))))))):Int))≤n0))
    (.leaf (Step.go [.k 0,.n n0,.n (IntKind.wrap .i64 (IntKind.wrap .i64 (IntKind.wrap .i64 (IntKind.wrap .i64 (IntKind.wrap .i64 (IntKind.wrap .i64 (n1+(1:Int))+(↑(ByteArray.size (Prod.fst (List.getD l6 (Int.toNat n2) (Ty.dflt TRt)))):Int))+(↑(List.length (Prod.fst (Prod.snd (Prod.snd (List.getD l6 (Int.toNat n2) (Ty.dflt TRt)))))):Int))+(↑(List.length (Prod.fst (Prod.snd (Prod.snd (Prod.snd (List.getD l6 (Int.toNat n2) (Ty.dflt TRt))))))):Int))+(↑(List.length (Prod.fst (Prod.snd (Prod.snd (Prod.snd (Prod.snd (List.getD l6 (Int.toNat n2) (Ty.dflt TRt)))))))):Int))+(↑(List.length (Prod.snd (Prod.snd (Prod.snd (Prod.snd (Prod.snd (List.getD l6 (Int.toNat n2) (Ty.dflt TRt)))))))):Int))),.n (IntKind.wrap .i64 (n2+(1:Int))),.l TS l3,.l TPt l4,.l TPt l5,.l TRt l6]))
    (.leaf (Step.go [.k 0,.n n0,.n (IntKind.wrap .i64 (IntKind.wrap .i64 (IntKind.wrap .i64 (IntKind.wrap .i64 (n1+(1:Int))+(↑(ByteArray.size (Prod.fst (List.getD l6 (Int.toNat n2) (Ty.dflt TRt)))):Int))+(↑(List.length (Prod.fst (Prod.snd (Prod.snd (List.getD l6 (Int.toNat n2) (Ty.dflt TRt)))))):Int))+(↑(List.length (Prod.fst (Prod.snd (Prod.snd (Prod.snd (List.getD l6 (Int.toNat n2) (Ty.dflt TRt))))))):Int))),.n (IntKind.wrap .i64 (n2+(1:Int))),.l TS l3,.l TPt l4,.l TPt l5,.l TRt l6])))
   (.leaf (Step.stop 0 [.n n1])))
   (.leaf (Step.stop 0 [.n n1])))
 |_=>.bad 0
theorem e0x (n0:Int)(n1:Int)(n2:Int)(l3:DS)(l4:DP)(l5:DP)(l6:DR)(g0:0≤n2):Imp (g0g [.n n0,.n n1,.n n2,.l TS l3,.l TPt l4,.l TPt l5,.l TRt l6]) (g0c [.k 0,.n n0,.n n1,.n n2,.l TS l3,.l TPt l4,.l TPt l5,.l TRt l6]):=
(.pa [1]
(.nd (fun h0=>
(.nd (fun h1=>
(.pq (c:=(inR n2 (List.length l6)))
(.nd (fun h2=>
(.pa [1]
.lf)) (fun h2=>
(.pa [1]
.lf))))) (fun h1=>
(.pa [1]
.lf)))) (fun h0=>
(.pa [0,0,1]
.lf))))
theorem v2m:LsOk Try.prog (z0) (lsM [(3,t2z),(7,s2d),(11,a2g),(15,z1c)] (z0)) (a0r Try.prog 9):=LsOk.many fun j B hB hk c hc hi=>by
 simp only[b0d]at hB
 split at hB
 ·rename_i e;have:=Nat.eq_of_beq_eq_true e;subst this;cases hB
  rw[a0y (f:=9) (i:=3) (a0e (by kernel_rfl)) (a0d hc hi)];exact p2d
 split at hB
 ·rename_i e;have:=Nat.eq_of_beq_eq_true e;subst this;cases hB
  rw[a0y (f:=9) (i:=7) (a0e (by kernel_rfl)) (a0d hc hi)];exact n2c
 split at hB
 ·rename_i e;have:=Nat.eq_of_beq_eq_true e;subst this;cases hB
  rw[a0y (f:=9) (i:=11) (a0e (by kernel_rfl)) (a0d hc hi)];exact c2u
 split at hB
 ·rename_i e;have:=Nat.eq_of_beq_eq_true e;subst this;cases hB
  rw[a0y (f:=9) (i:=15) (a0e (by kernel_rfl)) (a0d hc hi)];exact f2c
 cases hB
def kq15 (f:OpT):FBox:=mkF [laV 0,.int .i64 4] [] [] [(.int .i64 0,[])] f
def t2w (env:LDt):TD:=Lk.boxC false LK r1o 9 (lsM [(3,t2z),(7,s2d),(11,a2g),(15,z1c)] (z0)) (kq15 fun _=>none) env
def n2d:OpT:=Classical.choose (opq (fun env=>(t2w env).sel))
theorem x1o (env:LDt):n2d env=(t2w env).sel:=Classical.choose_spec (opq (fun env=>(t2w env).sel)) env
def B15:FBox:=kq15 n2d
theorem B15_ok:a0v Try.prog 9 (a0j B15):=a0p (op:=n2d) m0z hmix false (v2m) (fun env x h=>by rw[x1o]at h;rw[←boxC_lk];exact h)
def l2b:LDt→TD
 |[.l TS l0,.l TPt l1,.l TPt l2,.l TRt l3,.n n4]=>
  (let r1:OD:=(z0w [.k 0,.n n4,.n (0:Int),.n (0:Int),.l TS l0,.l TPt l1,.l TPt l2,.l TRt l3]);
   (.node (isK 0 [HK.n,HK.n,HK.l Ty.str,HK.l TPt,HK.l TPt,HK.l TRt] r1)
   (let r2:OD:=(z0q [.k 0,.n (gn (dOf r1) 0),.n (gn (dOf r1) 1),.n (0:Int),.l TS (gl Ty.str (dOf r1) 2),.l TPt (gl TPt (dOf r1) 3),.l TPt (gl TPt (dOf r1) 4),.l TRt (gl TRt (dOf r1) 5)]);
    (.node (isK 0 [HK.n,HK.n,HK.l Ty.str,HK.l TPt,HK.l TPt,HK.l TRt] r2)
    (let r3:OD:=(t0y [.k 0,.n (gn (dOf r2) 0),.n (gn (dOf r2) 1),.n (0:Int),.l TS (gl Ty.str (dOf r2) 2),.l TPt (gl TPt (dOf r2) 3),.l TPt (gl TPt (dOf r2) 4),.l TRt (gl TRt (dOf r2) 5)]);
     (.node (isK 0 [HK.n,HK.n,HK.l Ty.str,HK.l TPt,HK.l TPt,HK.l TRt] r3)
     (let r4:OD:=(s0c [.k 0,.n (gn (dOf r3) 0),.n (gn (dOf r3) 1),.n (0:Int),.l TS (gl Ty.str (dOf r3) 2),.l TPt (gl TPt (dOf r3) 3),.l TPt (gl TPt (dOf r3) 4),.l TRt (gl TRt (dOf r3) 5)]);
      (.node (isK 0 [HK.n] r4)
      (.leaf ((0,[.n (gn (dOf r4) 0)])))
      (.bad 351)))
     (.bad 351)))
    (.bad 351)))
   (.bad 351)))
 |_=>.bad 0
theorem d2g (l0:DS)(l1:DP)(l2:DP)(l3:DR)(n4:Int):Imp (l2b [.l TS l0,.l TPt l1,.l TPt l2,.l TRt l3,.n n4]) (t2w [.l TS l0,.l TPt l1,.l TPt l2,.l TRt l3,.n n4]):=
(.nd (fun h0=>
(.nd (fun h1=>
(.nd (fun h2=>
(.nd (fun h3=>
(.pa [1]
.lf)) (fun h3=>
.none))) (fun h2=>
.none))) (fun h1=>
.none))) (fun h0=>
.none))
def s2g:FuncId→Option a0q:=a0s 9 B15 r1o
theorem j1q:CsOk Try.prog s2g:=a0g m0z B15_ok
end Go.Proofs.Ytdmlmhomcmiodaa.Vx
