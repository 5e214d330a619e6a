import Derived.Test.YtcbhgaeiokfcdaaGreatVxIm
import Derived.Test.YtcbhgaeiokfcdaaGreatVxLk
import Derived.Test.YtcbhgaeiokfcdaaGreatVxLaw
import Derived.Test.YtcbhgaeiokfcdaaGreatX06m
import Derived.KernelRfl
noncomputable section
namespace Go.Proofs.YtcbhgaeiokfcdaaGreat.Vx
open Go Go.RowKit
set_option linter.unusedVariables false
set_option linter.unusedSimpArgs false
set_option maxRecDepth 100000
set_option maxHeartbeats 0
def rtV (h:Nat):PV:=.agg [.str h,.int .i64 (h+1),.imm TI (h+2),.imm TNd (h+3),.imm TI (h+4),.imm TNd (h+5)]
def rtB (h:Nat):PB:=.cells [.str h,.int .i64 (h+1),.imm TI (h+2),.imm TNd (h+3),.imm TI (h+4),.imm TNd (h+5)]
def fnV (f:Nat)(cs:List PV):PV:=.fn (.func f) [] cs
def k9 (f:OpT):FBox:=mkF [rtV 0] [] [] [(.own 0,[.arr TI 0])] f
def ev_9 (env:LDt):TD:=Lk.boxC false LK cs_26 17 ls0 (k9 fun _=>none) env
def op_9:OpT:=Classical.choose (opq (fun env=>(ev_9 env).sel))
theorem p2t (env:LDt):op_9 env=(ev_9 env).sel:=Classical.choose_spec (opq (fun env=>(ev_9 env).sel)) env
def B9:FBox:=k9 op_9
theorem B9_ok:a0v Tryz.prog 17 (a0j B9):=a0p (op:=op_9) n0g hmix false (LsOk.none _ _ _) (fun env x h=>by rw[p2t]at h;rw[←boxC_lk];exact h)
def fn_9_t:LDt→TD
 |[.s s0,.n n1,.l TI l2,.l TNd l3,.l TI l4,.l TNd l5]=>
  (.node (true&&decide ((0:Int)≤IntKind.wrap .i64 ((↑(List.length l2):Int)+(↑(List.length l4):Int)))&&decide (IntKind.wrap .i64 ((↑(List.length l2):Int)+(↑(List.length l4):Int))*(8:Int)≤(281474976710656:Int)))
   (.node (decide ((0+List.length l2)*8≤140737488355328))
   (.node (decide ((List.length ([]++l2)+List.length l4)*8≤140737488355328))
    (.leaf ((0,[.l TI ([]++l2++l4)])))
    (.bad 62))
   (.bad 62))
   (.bad 50))
 |_=>.bad 0
theorem h2u (s0:ByteArray)(n1:Int)(l2:DI)(l3:DD)(l4:DI)(l5:DD):Imp (fn_9_t [.s s0,.n n1,.l TI l2,.l TNd l3,.l TI l4,.l TNd l5]) (ev_9 [.s s0,.n n1,.l TI l2,.l TNd l3,.l TI l4,.l TNd l5]):=
(.pa [1]
(.nd (fun h0=>
(.nd (fun h1=>
(.nd (fun h2=>
(.pa [1,1]
.lf)) (fun h2=>
.none))) (fun h1=>
.none))) (fun h0=>
.none)))
def cs_9:FuncId→Option a0q:=a0s 17 B9 cs_26
theorem j2n:CsOk Tryz.prog cs_9:=a0g n0g B9_ok
def k10 (f:OpT):FBox:=mkF [rtV 0] [] [] [(.own 0,[.arr TNd 0])] f
def r2x (env:LDt):TD:=Lk.boxC false LK cs_9 18 ls0 (k10 fun _=>none) env
def t1a:OpT:=Classical.choose (opq (fun env=>(r2x env).sel))
theorem x1z (env:LDt):t1a env=(r2x env).sel:=Classical.choose_spec (opq (fun env=>(r2x env).sel)) env
def B10:FBox:=k10 t1a
theorem B10_ok:a0v Tryz.prog 18 (a0j B10):=a0p (op:=t1a) j2n hmix false (LsOk.none _ _ _) (fun env x h=>by rw[x1z]at h;rw[←boxC_lk];exact h)
def o2b:LDt→TD
 |[.s s0,.n n1,.l TI l2,.l TNd l3,.l TI l4,.l TNd l5]=>
  (.node (true&&decide ((0:Int)≤IntKind.wrap .i64 ((↑(List.length l3):Int)+(↑(List.length l5):Int)))&&decide (IntKind.wrap .i64 ((↑(List.length l3):Int)+(↑(List.length l5):Int))*(16:Int)≤(281474976710656:Int)))
   (.node (decide ((0+List.length l3)*16≤140737488355328))
   (.node (decide ((List.length ([]++l3)+List.length l5)*16≤140737488355328))
    (.leaf ((0,[.l TNd ([]++l3++l5)])))
    (.bad 62))
   (.bad 62))
   (.bad 50))
 |_=>.bad 0
theorem d2h (s0:ByteArray)(n1:Int)(l2:DI)(l3:DD)(l4:DI)(l5:DD):Imp (o2b [.s s0,.n n1,.l TI l2,.l TNd l3,.l TI l4,.l TNd l5]) (r2x [.s s0,.n n1,.l TI l2,.l TNd l3,.l TI l4,.l TNd l5]):=
(.pa [1]
(.nd (fun h0=>
(.nd (fun h1=>
(.nd (fun h2=>
(.pa [1,1]
.lf)) (fun h2=>
.none))) (fun h1=>
.none))) (fun h0=>
.none)))
def y3h:FuncId→Option a0q:=a0s 18 B10 cs_9
theorem y1s:CsOk Tryz.prog y3h:=a0g j2n B10_ok
def j1e (f:OpT):MBox:=mkM 1 [] [(sh 17 [(1,fnV 102 [.ptr 0 0]),(7,.imm TI 0),(8,.int .i64 1),(9,.int .i64 2)],[.cells [.int .i64 3]])] [] [(.exit 0,sh 17 [],[.gone]),(.ret,sh 17 [(4,.bool 0)],[.gone])] f
def i0m (env:LDt):Tree Step:=Lk.stepMC false LK y3h 101 2 ls0 (j1e fun _=>none) env
def t0l:OpT:=Classical.choose (opq (a0b i0m FU))
theorem w0h (env:LDt):t0l env=a0b i0m FU env:=Classical.choose_spec (opq (a0b i0m FU)) env
def v1p:MBox:=j1e t0l
theorem g2j:v1p=j1e (a0b i0m FU):=congrArg j1e (funext w0h)
theorem f2d: ∀t s x,(a0h v1p t s).sel=some x→a0k Tryz.prog 1 (.loop (cAt Tryz.prog 101 2)) t s x:=by
 rw[g2j]
 exact a0o (st:=i0m) (m:=FU) y1s hmix false (LsOk.none _ _ _) (by kernel_rfl) (fun env y h=>by rw[←stepMC_lk];exact h)
def j0y:LDt→Tree Step
 |[.l TI l0,.n n1,.n n2,.n n3]=>
  (.node (decide (n2<n1))
   (.node ((List.getD l0 (Int.toNat n2) (0:Int):Int)==n3)
   (.leaf (Step.stop 1 [.b true]))
   (.leaf (Step.go [.k 0,.l TI l0,.n n1,.n (IntKind.wrap .i64 (n2+(1:Int))),.n n3])))
   (.leaf (Step.stop 0 [])))
 |_=>.bad 0
theorem h0p (l0:DI)(n1:Int)(n2:Int)(n3:Int)(g0:0≤n2)(g1:n1=(l0.length:Int)):Imp (j0y [.l TI l0,.n n1,.n n2,.n n3]) (i0m [.k 0,.l TI l0,.n n1,.n n2,.n n3]):=
(.pa [1]
(.nd (fun h0=>
(.pq (c:=(inR n2 (List.length l0)))
(.pa [1,1]
(.nd (fun h1=>
(.pa [1]
.lf)) (fun h1=>
(.pa [1]
.lf)))))) (fun h0=>
(.pa [1]
.lf))))
theorem n2z:LsOk Tryz.prog (List.length ([.cells [.int .i64 1]]:List PB)) (lsM [(2,v1p)] (List.length ([.cells [.int .i64 1]]:List PB))) (a0r Tryz.prog 101):=LsOk.many fun j B hB hk c hc hi=>by
 simp only[b0d]at hB
 split at hB
 ·rename_i e;have:=Nat.eq_of_beq_eq_true e;subst this;cases hB
  have e1:p0c Tryz.prog 101 2=[cAt Tryz.prog 101 2]:=a0e (by kernel_rfl)
  have e2:c∈p0c Tryz.prog 101 2:=a0d hc hi
  rw[e1]at e2;cases List.mem_singleton.1 e2;exact f2d
 cases hB
def k51a (f:OpT):FBox:=mkF [.imm TI 0,fnV 102 [.ptr 0 0]] [.cells [.int .i64 1]] [] [(.bool 0,[.gone])] f
def t1t (env:LDt):TD:=Lk.boxC false LK y3h 101 (lsM [(2,v1p)] (List.length ([.cells [.int .i64 1]]:List PB))) (k51a fun _=>none) env
def m1v:OpT:=Classical.choose (opq (fun env=>(t1t env).sel))
theorem o1u (env:LDt):m1v env=(t1t env).sel:=Classical.choose_spec (opq (fun env=>(t1t env).sel)) env
def B51a:FBox:=k51a m1v
theorem B51a_ok:a0v Tryz.prog 101 (a0j B51a):=a0p (op:=m1v) y1s hmix false (n2z) (fun env x h=>by rw[o1u]at h;rw[←boxC_lk];exact h)
def w1h:LDt→TD
 |[.l TI l0,.n n1]=>
  (let r1:OD:=(t0l [.k 0,.l TI l0,.n (↑(List.length l0):Int),.n (0:Int),.n n1]);
   (.node (isK 0 [] r1)
   (.leaf ((0,[.b false])))
   (.node (isK 1 [HK.b] r1)
    (.leaf ((0,[.b (gb (dOf r1) 0)])))
    (.bad 351))))
 |_=>.bad 0
theorem t1f (l0:DI)(n1:Int):Imp (w1h [.l TI l0,.n n1]) (t1t [.l TI l0,.n n1]):=
(.nd (fun h0=>
(.pa [1]
.lf)) (fun h0=>
(.nd (fun h1=>
(.pa [1]
.lf)) (fun h1=>
.none))))
def h1o (f:OpT):MBox:=mkM 2 [] [(sh 17 [(1,fnV 103 [.ptr 0 0,.ptr 1 0]),(7,.imm TI 0),(8,.int .i64 1),(9,.int .i64 2)],[.cells [fnV 88 []],.cells [.int .i64 3]])] [] [(.exit 0,sh 17 [],[.gone,.gone]),(.ret,sh 17 [(4,.bool 0)],[.gone,.gone])] f
def i0h (env:LDt):Tree Step:=Lk.stepMC false LK y3h 101 2 ls0 (h1o fun _=>none) env
def t0g:OpT:=Classical.choose (opq (a0b i0h FU))
theorem w0p (env:LDt):t0g env=a0b i0h FU env:=Classical.choose_spec (opq (a0b i0h FU)) env
def z1x:MBox:=h1o t0g
theorem b2e:z1x=h1o (a0b i0h FU):=congrArg h1o (funext w0p)
theorem c2m: ∀t s x,(a0h z1x t s).sel=some x→a0k Tryz.prog 2 (.loop (cAt Tryz.prog 101 2)) t s x:=by
 rw[b2e]
 exact a0o (st:=i0h) (m:=FU) y1s hmix false (LsOk.none _ _ _) (by kernel_rfl) (fun env y h=>by rw[←stepMC_lk];exact h)
def k0n:LDt→Tree Step
 |[.l TI l0,.n n1,.n n2,.n n3]=>
  (.node (decide (n2<n1))
   (.node ((List.getD l0 (Int.toNat n2) (0:Int):Int)==n3)
   (.leaf (Step.stop 1 [.b true]))
   (.leaf (Step.go [.k 0,.l TI l0,.n n1,.n (IntKind.wrap .i64 (n2+(1:Int))),.n n3])))
   (.leaf (Step.stop 0 [])))
 |_=>.bad 0
theorem h0y (l0:DI)(n1:Int)(n2:Int)(n3:Int)(g0:0≤n2)(g1:n1=(l0.length:Int)):Imp (k0n [.l TI l0,.n n1,.n n2,.n n3]) (i0h [.k 0,.l TI l0,.n n1,.n n2,.n n3]):=
(.pa [1]
(.nd (fun h0=>
(.pq (c:=(inR n2 (List.length l0)))
(.pa [1,1,1,1,1,1,1]
(.nd (fun h1=>
(.pa [1]
.lf)) (fun h1=>
(.pa [1]
.lf)))))) (fun h0=>
(.pa [1]
.lf))))
theorem p2k:LsOk Tryz.prog (List.length ([.cells [fnV 88 []],.cells [.int .i64 1]]:List PB)) (lsM [(2,z1x)] (List.length ([.cells [fnV 88 []],.cells [.int .i64 1]]:List PB))) (a0r Tryz.prog 101):=LsOk.many fun j B hB hk c hc hi=>by
 simp only[b0d]at hB
 split at hB
 ·rename_i e;have:=Nat.eq_of_beq_eq_true e;subst this;cases hB
  have e1:p0c Tryz.prog 101 2=[cAt Tryz.prog 101 2]:=a0e (by kernel_rfl)
  have e2:c∈p0c Tryz.prog 101 2:=a0d hc hi
  rw[e1]at e2;cases List.mem_singleton.1 e2;exact c2m
 cases hB
def k51b (f:OpT):FBox:=mkF [.imm TI 0,fnV 103 [.ptr 0 0,.ptr 1 0]] [.cells [fnV 88 []],.cells [.int .i64 1]] [] [(.bool 0,[.gone,.gone])] f
def v1y (env:LDt):TD:=Lk.boxC false LK y3h 101 (lsM [(2,z1x)] (List.length ([.cells [fnV 88 []],.cells [.int .i64 1]]:List PB))) (k51b fun _=>none) env
def l1j:OpT:=Classical.choose (opq (fun env=>(v1y env).sel))
theorem o1i (env:LDt):l1j env=(v1y env).sel:=Classical.choose_spec (opq (fun env=>(v1y env).sel)) env
def B51b:FBox:=k51b l1j
theorem B51b_ok:a0v Tryz.prog 101 (a0j B51b):=a0p (op:=l1j) y1s hmix false (p2k) (fun env x h=>by rw[o1i]at h;rw[←boxC_lk];exact h)
def w1j:LDt→TD
 |[.l TI l0,.n n1]=>
  (let r1:OD:=(t0g [.k 0,.l TI l0,.n (↑(List.length l0):Int),.n (0:Int),.n n1]);
   (.node (isK 0 [] r1)
   (.leaf ((0,[.b false])))
   (.node (isK 1 [HK.b] r1)
    (.leaf ((0,[.b (gb (dOf r1) 0)])))
    (.bad 351))))
 |_=>.bad 0
theorem t1e (l0:DI)(n1:Int):Imp (w1j [.l TI l0,.n n1]) (v1y [.l TI l0,.n n1]):=
(.nd (fun h0=>
(.pa [1]
.lf)) (fun h0=>
(.nd (fun h1=>
(.pa [1]
.lf)) (fun h1=>
.none))))
def o2d:FuncId→Option a0q:=e1c 101 [B51a,B51b] y3h
theorem p1s:CsOk Tryz.prog o2d:=h0a y1s fun B hB=>by
 simp only[List.mem_cons,List.not_mem_nil,or_false]at hB
 rcases hB with rfl|rfl
 ·exact B51a_ok
 ·exact B51b_ok
def k33 (f:OpT):FBox:=mkF [.imm TI 0,.int .i64 1] [] [] [(.bool 0,[])] f
def u2x (env:LDt):TD:=Lk.boxC false LK o2d 86 ls0 (k33 fun _=>none) env
def m1g:OpT:=Classical.choose (opq (fun env=>(u2x env).sel))
theorem w1e (env:LDt):m1g env=(u2x env).sel:=Classical.choose_spec (opq (fun env=>(u2x env).sel)) env
def B33:FBox:=k33 m1g
theorem B33_ok:a0v Tryz.prog 86 (a0j B33):=a0p (op:=m1g) p1s hmix false (LsOk.none _ _ _) (fun env x h=>by rw[w1e]at h;rw[←boxC_lk];exact h)
def o2o:LDt→TD
 |[.l TI l0,.n n1]=>
  (let r1:OD:=(m1v [.l TI l0,.n n1]);
   (.node (isK 0 [HK.b] r1)
   (.leaf ((0,[.b (gb (dOf r1) 0)])))
   (.bad 351)))
 |_=>.bad 0
theorem a2y (l0:DI)(n1:Int):Imp (o2o [.l TI l0,.n n1]) (u2x [.l TI l0,.n n1]):=
(.pa [1]
(.nd (fun h0=>
(.pa [1,1]
.lf)) (fun h0=>
.none)))
def u2b:FuncId→Option a0q:=a0s 86 B33 o2d
theorem j1l:CsOk Tryz.prog u2b:=a0g p1s B33_ok
def a2o (f:OpT):MBox:=mkM 0 [] [(sh 20 [(0,.imm TI 0),(3,.ptr 0 0),(7,.imm TI 1),(8,.int .i64 2),(9,.int .i64 3)],[.cells [fnV 88 []]])] [] [(.exit 0,sh 20 [],[]),(.ret,sh 20 [(4,.bool 0)],[])] f
def o0c (env:LDt):Tree Step:=Lk.stepMC false LK u2b 87 2 ls0 (a2o fun _=>none) env
def z0t:OpT:=Classical.choose (opq (a0b o0c FU))
theorem b1n (env:LDt):z0t env=a0b o0c FU env:=Classical.choose_spec (opq (a0b o0c FU)) env
def t2q:MBox:=a2o z0t
theorem o2u:t2q=a2o (a0b o0c FU):=congrArg a2o (funext b1n)
theorem j2v: ∀t s x,(a0h t2q t s).sel=some x→a0k Tryz.prog 0 (.loop (cAt Tryz.prog 87 2)) t s x:=by
 rw[o2u]
 exact a0o (st:=o0c) (m:=FU) j1l hmix false (LsOk.none _ _ _) (by kernel_rfl) (fun env y h=>by rw[←stepMC_lk];exact h)
def n0y:LDt→Tree Step
 |[.l TI l0,.n n1,.n n2]=>
  (.node (decide (n2<n1))
   (let r1:OD:=(l1j [.l TI (List.take (Int.toNat n2) l0),.n (List.getD l0 (Int.toNat n2) (0:Int))]);
   (.node (isK 0 [HK.b] r1)
    (.node (gb (dOf r1) 0)
    (.leaf (Step.stop 1 [.b true]))
    (.leaf (Step.go [.k 0,.l TI l0,.l TI l0,.n n1,.n (IntKind.wrap .i64 (n2+(1:Int)))])))
    (.bad 351)))
   (.leaf (Step.stop 0 [])))
 |_=>.bad 0
theorem j0g (l0:DI)(n1:Int)(n2:Int)(g0:0≤n2)(g1:n1=(l0.length:Int)):Imp (n0y [.l TI l0,.n n1,.n n2]) (o0c [.k 0,.l TI l0,.l TI l0,.n n1,.n n2]):=
(.pa [1]
(.nd (fun h0=>
(.pq (c:=(inR n2 (List.length l0)))
(.pq (c:=(decide ((0:Int)≤n2)&&decide (n2≤(↑(List.length l0):Int))))
(.pt (c:=(true&&decide ((0:Int)≤n2))) (by kernel_rfl) (by kernel_rfl) (by(simp[*];done))
(.pa [1]
(.nd (fun h1=>
(.pa [1]
(.nd (fun h2=>
(.pa [1]
.lf)) (fun h2=>
(.pa [1]
.lf))))) (fun h1=>
.none))))))) (fun h0=>
(.pa [1]
.lf))))
theorem r2w:LsOk Tryz.prog (z0) (lsM [(2,t2q)] (z0)) (a0r Tryz.prog 87):=LsOk.many fun j B hB hk c hc hi=>by
 simp only[b0d]at hB
 split at hB
 ·rename_i e;have:=Nat.eq_of_beq_eq_true e;subst this;cases hB
  have e1:p0c Tryz.prog 87 2=[cAt Tryz.prog 87 2]:=a0e (by kernel_rfl)
  have e2:c∈p0c Tryz.prog 87 2:=a0d hc hi
  rw[e1]at e2;cases List.mem_singleton.1 e2;exact j2v
 cases hB
def k34 (f:OpT):FBox:=mkF [.imm TI 0,fnV 88 []] [] [] [(.bool 0,[])] f
def t2n (env:LDt):TD:=Lk.boxC false LK u2b 87 (lsM [(2,t2q)] (z0)) (k34 fun _=>none) env
def k2g:OpT:=Classical.choose (opq (fun env=>(t2n env).sel))
theorem z1a (env:LDt):k2g env=(t2n env).sel:=Classical.choose_spec (opq (fun env=>(t2n env).sel)) env
def B34:FBox:=k34 k2g
theorem B34_ok:a0v Tryz.prog 87 (a0j B34):=a0p (op:=k2g) j1l hmix false (r2w) (fun env x h=>by rw[z1a]at h;rw[←boxC_lk];exact h)
def p2w:LDt→TD
 |[.l TI l0]=>
  (let r1:OD:=(z0t [.k 0,.l TI l0,.l TI l0,.n (↑(List.length l0):Int),.n (0:Int)]);
   (.node (isK 0 [] r1)
   (.leaf ((0,[.b false])))
   (.node (isK 1 [HK.b] r1)
    (.leaf ((0,[.b (gb (dOf r1) 0)])))
    (.bad 351))))
 |_=>.bad 0
theorem f2f (l0:DI):Imp (p2w [.l TI l0]) (t2n [.l TI l0]):=
(.nd (fun h0=>
(.pa [1]
.lf)) (fun h0=>
(.nd (fun h1=>
(.pa [1]
.lf)) (fun h1=>
.none))))
def e1e:FuncId→Option a0q:=a0s 87 B34 u2b
theorem f0p:CsOk Tryz.prog e1e:=a0g j1l B34_ok
def j1s (f:OpT):MBox:=mkM 2 [] [(sh 17 [(1,fnV 105 [.ptr 0 0,.ptr 1 0]),(7,.imm TNd 0),(8,.int .i64 1),(9,.int .i64 2)],[.cells [fnV 90 []],.cells [.int .i64 3,.bool 4]])] [] [(.exit 0,sh 17 [],[.gone,.gone]),(.ret,sh 17 [(4,.bool 0)],[.gone,.gone])] f
def i0l (env:LDt):Tree Step:=Lk.stepMC false LK e1e 104 2 ls0 (j1s fun _=>none) env
def s0r:OpT:=Classical.choose (opq (a0b i0l FU))
theorem x0d (env:LDt):s0r env=a0b i0l FU env:=Classical.choose_spec (opq (a0b i0l FU)) env
def v1a:MBox:=j1s s0r
theorem f2p:v1a=j1s (a0b i0l FU):=congrArg j1s (funext x0d)
theorem f2l: ∀t s x,(a0h v1a t s).sel=some x→a0k Tryz.prog 2 (.loop (cAt Tryz.prog 104 2)) t s x:=by
 rw[f2p]
 exact a0o (st:=i0l) (m:=FU) f0p hmix false (LsOk.none _ _ _) (by kernel_rfl) (fun env y h=>by rw[←stepMC_lk];exact h)
def k0d:LDt→Tree Step
 |[.l TNd l0,.n n1,.n n2,.n n3,.b b4]=>
  (.node (decide (n2<n1))
   (.node (Prod.fst (List.getD l0 (Int.toNat n2) (Ty.dflt TNd))==n3)
   (.leaf (Step.stop 1 [.b true]))
   (.leaf (Step.go [.k 0,.l TNd l0,.n n1,.n (IntKind.wrap .i64 (n2+(1:Int))),.n n3,.b b4])))
   (.leaf (Step.stop 0 [])))
 |_=>.bad 0
theorem h0i (l0:DD)(n1:Int)(n2:Int)(n3:Int)(b4:Bool)(g0:0≤n2)(g1:n1=(l0.length:Int)):Imp (k0d [.l TNd l0,.n n1,.n n2,.n n3,.b b4]) (i0l [.k 0,.l TNd l0,.n n1,.n n2,.n n3,.b b4]):=
(.pa [1]
(.nd (fun h0=>
(.pq (c:=(inR n2 (List.length l0)))
(.pa [1,1,1,1,1,1,1]
(.nd (fun h1=>
(.pa [1]
.lf)) (fun h1=>
(.pa [1]
.lf)))))) (fun h0=>
(.pa [1]
.lf))))
theorem g2w:LsOk Tryz.prog (List.length ([.cells [fnV 90 []],.cells [.int .i64 1,.bool 2]]:List PB)) (lsM [(2,v1a)] (List.length ([.cells [fnV 90 []],.cells [.int .i64 1,.bool 2]]:List PB))) (a0r Tryz.prog 104):=LsOk.many fun j B hB hk c hc hi=>by
 simp only[b0d]at hB
 split at hB
 ·rename_i e;have:=Nat.eq_of_beq_eq_true e;subst this;cases hB
  have e1:p0c Tryz.prog 104 2=[cAt Tryz.prog 104 2]:=a0e (by kernel_rfl)
  have e2:c∈p0c Tryz.prog 104 2:=a0d hc hi
  rw[e1]at e2;cases List.mem_singleton.1 e2;exact f2l
 cases hB
def k54a (f:OpT):FBox:=mkF [.imm TNd 0,fnV 105 [.ptr 0 0,.ptr 1 0]] [.cells [fnV 90 []],.cells [.int .i64 1,.bool 2]] [] [(.bool 0,[.gone,.gone])] f
def a2i (env:LDt):TD:=Lk.boxC false LK e1e 104 (lsM [(2,v1a)] (List.length ([.cells [fnV 90 []],.cells [.int .i64 1,.bool 2]]:List PB))) (k54a fun _=>none) env
def n1t:OpT:=Classical.choose (opq (fun env=>(a2i env).sel))
theorem p1l (env:LDt):n1t env=(a2i env).sel:=Classical.choose_spec (opq (fun env=>(a2i env).sel)) env
def B54a:FBox:=k54a n1t
theorem B54a_ok:a0v Tryz.prog 104 (a0j B54a):=a0p (op:=n1t) f0p hmix false (g2w) (fun env x h=>by rw[p1l]at h;rw[←boxC_lk];exact h)
def a2h:LDt→TD
 |[.l TNd l0,.n n1,.b b2]=>
  (let r1:OD:=(s0r [.k 0,.l TNd l0,.n (↑(List.length l0):Int),.n (0:Int),.n n1,.b b2]);
   (.node (isK 0 [] r1)
   (.leaf ((0,[.b false])))
   (.node (isK 1 [HK.b] r1)
    (.leaf ((0,[.b (gb (dOf r1) 0)])))
    (.bad 351))))
 |_=>.bad 0
theorem s1m (l0:DD)(n1:Int)(b2:Bool):Imp (a2h [.l TNd l0,.n n1,.b b2]) (a2i [.l TNd l0,.n n1,.b b2]):=
(.nd (fun h0=>
(.pa [1]
.lf)) (fun h0=>
(.nd (fun h1=>
(.pa [1]
.lf)) (fun h1=>
.none))))
def k1f (f:OpT):MBox:=mkM 2 [] [(sh 17 [(1,fnV 106 [.ptr 0 0,.ptr 1 0]),(7,.imm TNd 0),(8,.int .i64 1),(9,.int .i64 2)],[.cells [.imm TI 3],laB 4])] [] [(.exit 0,sh 17 [],[.gone,.gone]),(.ret,sh 17 [(4,.bool 0)],[.gone,.gone])] f
def i0c (env:LDt):Tree Step:=Lk.stepMC false LK e1e 104 2 ls0 (k1f fun _=>none) env
def t0v:OpT:=Classical.choose (opq (a0b i0c FU))
theorem x0m (env:LDt):t0v env=a0b i0c FU env:=Classical.choose_spec (opq (a0b i0c FU)) env
def x1b:MBox:=k1f t0v
theorem c2r:x1b=k1f (a0b i0c FU):=congrArg k1f (funext x0m)
theorem f2b: ∀t s x,(a0h x1b t s).sel=some x→a0k Tryz.prog 2 (.loop (cAt Tryz.prog 104 2)) t s x:=by
 rw[c2r]
 exact a0o (st:=i0c) (m:=FU) f0p hmix false (LsOk.none _ _ _) (by kernel_rfl) (fun env y h=>by rw[←stepMC_lk];exact h)
def k0c:LDt→Tree Step
 |[.l TNd l0,.n n1,.n n2,.l TI l3,.l TS l4,.l TPt l5,.l TPt l6,.l TRt l7]=>
  (.node (decide (n2<n1))
   (.node (inR (Prod.fst (List.getD l0 (Int.toNat n2) (Ty.dflt TNd))) (List.length l5))
   (let r1:OD:=(m1g [.l TI l3,.n (Prod.snd (List.getD l5 (Int.toNat (Prod.fst (List.getD l0 (Int.toNat n2) (Ty.dflt TNd)))) (Ty.dflt TPt)))]);
    (.node (isK 0 [HK.b] r1)
    (.node (!gb (dOf r1) 0)
     (.leaf (Step.stop 1 [.b true]))
     (.leaf (Step.go [.k 0,.l TNd l0,.n n1,.n (IntKind.wrap .i64 (n2+(1:Int))),.l TI l3,.l TS l4,.l TPt l5,.l TPt l6,.l TRt l7])))
    (.bad 351)))
   (.bad 10))
   (.leaf (Step.stop 0 [])))
 |_=>.bad 0
theorem h0w (l0:DD)(n1:Int)(n2:Int)(l3:DI)(l4:DS)(l5:DP)(l6:DP)(l7:DR)(g0:0≤n2)(g1:n1=(l0.length:Int)):Imp (k0c [.l TNd l0,.n n1,.n n2,.l TI l3,.l TS l4,.l TPt l5,.l TPt l6,.l TRt l7]) (i0c [.k 0,.l TNd l0,.n n1,.n n2,.l TI l3,.l TS l4,.l TPt l5,.l TPt l6,.l TRt l7]):=
(.pa [1]
(.nd (fun h0=>
(.pq (c:=(inR n2 (List.length l0)))
(.pa [1]
(.nd (fun h1=>
(.nd (fun h2=>
(.pa [1,1,1]
(.nd (fun h3=>
(.pa [1]
.lf)) (fun h3=>
(.pa [1]
.lf))))) (fun h2=>
.none))) (fun h1=>
.none))))) (fun h0=>
(.pa [1]
.lf))))
theorem k2l:LsOk Tryz.prog (List.length ([.cells [.imm TI 1],laB 2]:List PB)) (lsM [(2,x1b)] (List.length ([.cells [.imm TI 1],laB 2]:List PB))) (a0r Tryz.prog 104):=LsOk.many fun j B hB hk c hc hi=>by
 simp only[b0d]at hB
 split at hB
 ·rename_i e;have:=Nat.eq_of_beq_eq_true e;subst this;cases hB
  have e1:p0c Tryz.prog 104 2=[cAt Tryz.prog 104 2]:=a0e (by kernel_rfl)
  have e2:c∈p0c Tryz.prog 104 2:=a0d hc hi
  rw[e1]at e2;cases List.mem_singleton.1 e2;exact f2b
 cases hB
def k54b (f:OpT):FBox:=mkF [.imm TNd 0,fnV 106 [.ptr 0 0,.ptr 1 0]] [.cells [.imm TI 1],laB 2] [] [(.bool 0,[.gone,.gone])] f
def u1c (env:LDt):TD:=Lk.boxC false LK e1e 104 (lsM [(2,x1b)] (List.length ([.cells [.imm TI 1],laB 2]:List PB))) (k54b fun _=>none) env
def m1r:OpT:=Classical.choose (opq (fun env=>(u1c env).sel))
theorem l1l (env:LDt):m1r env=(u1c env).sel:=Classical.choose_spec (opq (fun env=>(u1c env).sel)) env
def B54b:FBox:=k54b m1r
theorem B54b_ok:a0v Tryz.prog 104 (a0j B54b):=a0p (op:=m1r) f0p hmix false (k2l) (fun env x h=>by rw[l1l]at h;rw[←boxC_lk];exact h)
def w1x:LDt→TD
 |[.l TNd l0,.l TI l1,.l TS l2,.l TPt l3,.l TPt l4,.l TRt l5]=>
  (let r1:OD:=(t0v [.k 0,.l TNd l0,.n (↑(List.length l0):Int),.n (0:Int),.l TI l1,.l TS l2,.l TPt l3,.l TPt l4,.l TRt l5]);
   (.node (isK 0 [] r1)
   (.leaf ((0,[.b false])))
   (.node (isK 1 [HK.b] r1)
    (.leaf ((0,[.b (gb (dOf r1) 0)])))
    (.bad 351))))
 |_=>.bad 0
theorem r1x (l0:DD)(l1:DI)(l2:DS)(l3:DP)(l4:DP)(l5:DR):Imp (w1x [.l TNd l0,.l TI l1,.l TS l2,.l TPt l3,.l TPt l4,.l TRt l5]) (u1c [.l TNd l0,.l TI l1,.l TS l2,.l TPt l3,.l TPt l4,.l TRt l5]):=
(.nd (fun h0=>
(.pa [1]
.lf)) (fun h0=>
(.nd (fun h1=>
(.pa [1]
.lf)) (fun h1=>
.none))))
def i1d (f:OpT):MBox:=mkM 3 [] [(sh 17 [(1,fnV 107 [.ptr 0 0]),(7,.imm TNd 0),(8,.int .i64 1),(9,.int .i64 2)],[.cells [fnV 106 [.ptr 1 0,.ptr 2 0]],.cells [.imm TI 3],laB 4])] [] [(.exit 0,sh 17 [],[.gone,.gone,.gone]),(.ret,sh 17 [(4,.bool 0)],[.gone,.gone,.gone])] f
def i0o (env:LDt):Tree Step:=Lk.stepMC false LK e1e 104 2 ls0 (i1d fun _=>none) env
def r0h:OpT:=Classical.choose (opq (a0b i0o FU))
theorem w0k (env:LDt):r0h env=a0b i0o FU env:=Classical.choose_spec (opq (a0b i0o FU)) env
def z1y:MBox:=i1d r0h
theorem c2s:z1y=i1d (a0b i0o FU):=congrArg i1d (funext w0k)
theorem d2r: ∀t s x,(a0h z1y t s).sel=some x→a0k Tryz.prog 3 (.loop (cAt Tryz.prog 104 2)) t s x:=by
 rw[c2s]
 exact a0o (st:=i0o) (m:=FU) f0p hmix false (LsOk.none _ _ _) (by kernel_rfl) (fun env y h=>by rw[←stepMC_lk];exact h)
def k0z:LDt→Tree Step
 |[.l TNd l0,.n n1,.n n2,.l TI l3,.l TS l4,.l TPt l5,.l TPt l6,.l TRt l7]=>
  (.node (decide (n2<n1))
   (.node (inR (Prod.fst (List.getD l0 (Int.toNat n2) (Ty.dflt TNd))) (List.length l5))
   (let r1:OD:=(m1g [.l TI l3,.n (Prod.snd (List.getD l5 (Int.toNat (Prod.fst (List.getD l0 (Int.toNat n2) (Ty.dflt TNd)))) (Ty.dflt TPt)))]);
    (.node (isK 0 [HK.b] r1)
    (.node (!!gb (dOf r1) 0)
     (.leaf (Step.stop 1 [.b true]))
     (.leaf (Step.go [.k 0,.l TNd l0,.n n1,.n (IntKind.wrap .i64 (n2+(1:Int))),.l TI l3,.l TS l4,.l TPt l5,.l TPt l6,.l TRt l7])))
    (.bad 351)))
   (.bad 10))
   (.leaf (Step.stop 0 [])))
 |_=>.bad 0
theorem h0x (l0:DD)(n1:Int)(n2:Int)(l3:DI)(l4:DS)(l5:DP)(l6:DP)(l7:DR)(g0:0≤n2)(g1:n1=(l0.length:Int)):Imp (k0z [.l TNd l0,.n n1,.n n2,.l TI l3,.l TS l4,.l TPt l5,.l TPt l6,.l TRt l7]) (i0o [.k 0,.l TNd l0,.n n1,.n n2,.l TI l3,.l TS l4,.l TPt l5,.l TPt l6,.l TRt l7]):=
(.pa [1]
(.nd (fun h0=>
(.pq (c:=(inR n2 (List.length l0)))
(.pa [1,1]
(.nd (fun h1=>
(.nd (fun h2=>
(.pa [1,1,1,1]
(.nd (fun h3=>
(.pa [1]
.lf)) (fun h3=>
(.pa [1]
.lf))))) (fun h2=>
.none))) (fun h1=>
.none))))) (fun h0=>
(.pa [1]
.lf))))
theorem p2h:LsOk Tryz.prog (List.length ([.cells [fnV 106 [.ptr 1 0,.ptr 2 0]],.cells [.imm TI 1],laB 2]:List PB)) (lsM [(2,z1y)] (List.length ([.cells [fnV 106 [.ptr 1 0,.ptr 2 0]],.cells [.imm TI 1],laB 2]:List PB))) (a0r Tryz.prog 104):=LsOk.many fun j B hB hk c hc hi=>by
 simp only[b0d]at hB
 split at hB
 ·rename_i e;have:=Nat.eq_of_beq_eq_true e;subst this;cases hB
  have e1:p0c Tryz.prog 104 2=[cAt Tryz.prog 104 2]:=a0e (by kernel_rfl)
  have e2:c∈p0c Tryz.prog 104 2:=a0d hc hi
  rw[e1]at e2;cases List.mem_singleton.1 e2;exact d2r
 cases hB
def k54c (f:OpT):FBox:=mkF [.imm TNd 0,fnV 107 [.ptr 0 0]] [.cells [fnV 106 [.ptr 1 0,.ptr 2 0]],.cells [.imm TI 1],laB 2] [] [(.bool 0,[.gone,.gone,.gone])] f
def x1y (env:LDt):TD:=Lk.boxC false LK e1e 104 (lsM [(2,z1y)] (List.length ([.cells [fnV 106 [.ptr 1 0,.ptr 2 0]],.cells [.imm TI 1],laB 2]:List PB))) (k54c fun _=>none) env
def l1k:OpT:=Classical.choose (opq (fun env=>(x1y env).sel))
theorem p1c (env:LDt):l1k env=(x1y env).sel:=Classical.choose_spec (opq (fun env=>(x1y env).sel)) env
def B54c:FBox:=k54c l1k
theorem B54c_ok:a0v Tryz.prog 104 (a0j B54c):=a0p (op:=l1k) f0p hmix false (p2h) (fun env x h=>by rw[p1c]at h;rw[←boxC_lk];exact h)
def z1f:LDt→TD
 |[.l TNd l0,.l TI l1,.l TS l2,.l TPt l3,.l TPt l4,.l TRt l5]=>
  (let r1:OD:=(r0h [.k 0,.l TNd l0,.n (↑(List.length l0):Int),.n (0:Int),.l TI l1,.l TS l2,.l TPt l3,.l TPt l4,.l TRt l5]);
   (.node (isK 0 [] r1)
   (.leaf ((0,[.b false])))
   (.node (isK 1 [HK.b] r1)
    (.leaf ((0,[.b (gb (dOf r1) 0)])))
    (.bad 351))))
 |_=>.bad 0
theorem r1y (l0:DD)(l1:DI)(l2:DS)(l3:DP)(l4:DP)(l5:DR):Imp (z1f [.l TNd l0,.l TI l1,.l TS l2,.l TPt l3,.l TPt l4,.l TRt l5]) (x1y [.l TNd l0,.l TI l1,.l TS l2,.l TPt l3,.l TPt l4,.l TRt l5]):=
(.nd (fun h0=>
(.pa [1]
.lf)) (fun h0=>
(.nd (fun h1=>
(.pa [1]
.lf)) (fun h1=>
.none))))
def k1g (f:OpT):MBox:=mkM 1 [] [(sh 17 [(1,fnV 108 [.ptr 0 0]),(7,.imm TNd 0),(8,.int .i64 1),(9,.int .i64 2)],[.cells [.int .i64 3]])] [] [(.exit 0,sh 17 [],[.gone]),(.ret,sh 17 [(4,.bool 0)],[.gone])] f
def i0y (env:LDt):Tree Step:=Lk.stepMC false LK e1e 104 2 ls0 (k1g fun _=>none) env
def r0f:OpT:=Classical.choose (opq (a0b i0y FU))
theorem x0e (env:LDt):r0f env=a0b i0y FU env:=Classical.choose_spec (opq (a0b i0y FU)) env
def x1l:MBox:=k1g r0f
theorem e2w:x1l=k1g (a0b i0y FU):=congrArg k1g (funext x0e)
theorem e2l: ∀t s x,(a0h x1l t s).sel=some x→a0k Tryz.prog 1 (.loop (cAt Tryz.prog 104 2)) t s x:=by
 rw[e2w]
 exact a0o (st:=i0y) (m:=FU) f0p hmix false (LsOk.none _ _ _) (by kernel_rfl) (fun env y h=>by rw[←stepMC_lk];exact h)
def j0f:LDt→Tree Step
 |[.l TNd l0,.n n1,.n n2,.n n3]=>
  (.node (decide (n2<n1))
   (.node (Prod.fst (List.getD l0 (Int.toNat n2) (Ty.dflt TNd))==n3)
   (.leaf (Step.stop 1 [.b true]))
   (.leaf (Step.go [.k 0,.l TNd l0,.n n1,.n (IntKind.wrap .i64 (n2+(1:Int))),.n n3])))
   (.leaf (Step.stop 0 [])))
 |_=>.bad 0
theorem h0o (l0:DD)(n1:Int)(n2:Int)(n3:Int)(g0:0≤n2)(g1:n1=(l0.length:Int)):Imp (j0f [.l TNd l0,.n n1,.n n2,.n n3]) (i0y [.k 0,.l TNd l0,.n n1,.n n2,.n n3]):=
(.pa [1]
(.nd (fun h0=>
(.pq (c:=(inR n2 (List.length l0)))
(.pa [1,1]
(.nd (fun h1=>
(.pa [1]
.lf)) (fun h1=>
(.pa [1]
.lf)))))) (fun h0=>
(.pa [1]
.lf))))
theorem i2u:LsOk Tryz.prog (List.length ([.cells [.int .i64 1]]:List PB)) (lsM [(2,x1l)] (List.length ([.cells [.int .i64 1]]:List PB))) (a0r Tryz.prog 104):=LsOk.many fun j B hB hk c hc hi=>by
 simp only[b0d]at hB
 split at hB
 ·rename_i e;have:=Nat.eq_of_beq_eq_true e;subst this;cases hB
  have e1:p0c Tryz.prog 104 2=[cAt Tryz.prog 104 2]:=a0e (by kernel_rfl)
  have e2:c∈p0c Tryz.prog 104 2:=a0d hc hi
  rw[e1]at e2;cases List.mem_singleton.1 e2;exact e2l
 cases hB
def k54d (f:OpT):FBox:=mkF [.imm TNd 0,fnV 108 [.ptr 0 0]] [.cells [.int .i64 1]] [] [(.bool 0,[.gone])] f
def y1b (env:LDt):TD:=Lk.boxC false LK e1e 104 (lsM [(2,x1l)] (List.length ([.cells [.int .i64 1]]:List PB))) (k54d fun _=>none) env
def n1h:OpT:=Classical.choose (opq (fun env=>(y1b env).sel))
theorem n1b (env:LDt):n1h env=(y1b env).sel:=Classical.choose_spec (opq (fun env=>(y1b env).sel)) env
def B54d:FBox:=k54d n1h
theorem B54d_ok:a0v Tryz.prog 104 (a0j B54d):=a0p (op:=n1h) f0p hmix false (i2u) (fun env x h=>by rw[n1b]at h;rw[←boxC_lk];exact h)
def a2e:LDt→TD
 |[.l TNd l0,.n n1]=>
  (let r1:OD:=(r0f [.k 0,.l TNd l0,.n (↑(List.length l0):Int),.n (0:Int),.n n1]);
   (.node (isK 0 [] r1)
   (.leaf ((0,[.b false])))
   (.node (isK 1 [HK.b] r1)
    (.leaf ((0,[.b (gb (dOf r1) 0)])))
    (.bad 351))))
 |_=>.bad 0
theorem q1m (l0:DD)(n1:Int):Imp (a2e [.l TNd l0,.n n1]) (y1b [.l TNd l0,.n n1]):=
(.nd (fun h0=>
(.pa [1]
.lf)) (fun h0=>
(.nd (fun h1=>
(.pa [1]
.lf)) (fun h1=>
.none))))
def z1j:FuncId→Option a0q:=e1c 104 [B54a,B54b,B54c,B54d] e1e
theorem b1k:CsOk Tryz.prog z1j:=h0a f0p fun B hB=>by
 simp only[List.mem_cons,List.not_mem_nil,or_false]at hB
 rcases hB with rfl|rfl|rfl|rfl
 ·exact B54a_ok
 ·exact B54b_ok
 ·exact B54c_ok
 ·exact B54d_ok
def v1h (f:OpT):MBox:=mkM 0 [] [(sh 20 [(0,.imm TNd 0),(3,.ptr 0 0),(7,.imm TNd 1),(8,.int .i64 2),(9,.int .i64 3)],[.cells [fnV 90 []]])] [] [(.exit 0,sh 20 [],[]),(.ret,sh 20 [(4,.bool 0)],[])] f
def n0o (env:LDt):Tree Step:=Lk.stepMC false LK z1j 89 2 ls0 (v1h fun _=>none) env
def y0c:OpT:=Classical.choose (opq (a0b n0o FU))
theorem d1l (env:LDt):y0c env=a0b n0o FU env:=Classical.choose_spec (opq (a0b n0o FU)) env
def s2p:MBox:=v1h y0c
theorem j2t:s2p=v1h (a0b n0o FU):=congrArg v1h (funext d1l)
theorem l2v: ∀t s x,(a0h s2p t s).sel=some x→a0k Tryz.prog 0 (.loop (cAt Tryz.prog 89 2)) t s x:=by
 rw[j2t]
 exact a0o (st:=n0o) (m:=FU) b1k hmix false (LsOk.none _ _ _) (by kernel_rfl) (fun env y h=>by rw[←stepMC_lk];exact h)
def o0h:LDt→Tree Step
 |[.l TNd l0,.n n1,.n n2]=>
  (.node (decide (n2<n1))
   (let r1:OD:=(n1t [.l TNd (List.take (Int.toNat n2) l0),.n (Prod.fst (List.getD l0 (Int.toNat n2) (Ty.dflt TNd))),.b (Prod.snd (List.getD l0 (Int.toNat n2) (Ty.dflt TNd)))]);
   (.node (isK 0 [HK.b] r1)
    (.node (gb (dOf r1) 0)
    (.leaf (Step.stop 1 [.b true]))
    (.leaf (Step.go [.k 0,.l TNd l0,.l TNd l0,.n n1,.n (IntKind.wrap .i64 (n2+(1:Int)))])))
    (.bad 351)))
   (.leaf (Step.stop 0 [])))
 |_=>.bad 0
theorem l0b (l0:DD)(n1:Int)(n2:Int)(g0:0≤n2)(g1:n1=(l0.length:Int)):Imp (o0h [.l TNd l0,.n n1,.n n2]) (n0o [.k 0,.l TNd l0,.l TNd l0,.n n1,.n n2]):=
(.pa [1]
(.nd (fun h0=>
(.pq (c:=(inR n2 (List.length l0)))
(.pq (c:=(decide ((0:Int)≤n2)&&decide (n2≤(↑(List.length l0):Int))))
(.pt (c:=(true&&decide ((0:Int)≤n2))) (by kernel_rfl) (by kernel_rfl) (by(simp[*];done))
(.pa [1]
(.nd (fun h1=>
(.pa [1]
(.nd (fun h2=>
(.pa [1]
.lf)) (fun h2=>
(.pa [1]
.lf))))) (fun h1=>
.none))))))) (fun h0=>
(.pa [1]
.lf))))
theorem s2v:LsOk Tryz.prog (z0) (lsM [(2,s2p)] (z0)) (a0r Tryz.prog 89):=LsOk.many fun j B hB hk c hc hi=>by
 simp only[b0d]at hB
 split at hB
 ·rename_i e;have:=Nat.eq_of_beq_eq_true e;subst this;cases hB
  have e1:p0c Tryz.prog 89 2=[cAt Tryz.prog 89 2]:=a0e (by kernel_rfl)
  have e2:c∈p0c Tryz.prog 89 2:=a0d hc hi
  rw[e1]at e2;cases List.mem_singleton.1 e2;exact l2v
 cases hB
def k36 (f:OpT):FBox:=mkF [.imm TNd 0,fnV 90 []] [] [] [(.bool 0,[])] f
def u2p (env:LDt):TD:=Lk.boxC false LK z1j 89 (lsM [(2,s2p)] (z0)) (k36 fun _=>none) env
def i2e:OpT:=Classical.choose (opq (fun env=>(u2p env).sel))
theorem z1t (env:LDt):i2e env=(u2p env).sel:=Classical.choose_spec (opq (fun env=>(u2p env).sel)) env
def B36:FBox:=k36 i2e
theorem B36_ok:a0v Tryz.prog 89 (a0j B36):=a0p (op:=i2e) b1k hmix false (s2v) (fun env x h=>by rw[z1t]at h;rw[←boxC_lk];exact h)
def n2u:LDt→TD
 |[.l TNd l0]=>
  (let r1:OD:=(y0c [.k 0,.l TNd l0,.l TNd l0,.n (↑(List.length l0):Int),.n (0:Int)]);
   (.node (isK 0 [] r1)
   (.leaf ((0,[.b false])))
   (.node (isK 1 [HK.b] r1)
    (.leaf ((0,[.b (gb (dOf r1) 0)])))
    (.bad 351))))
 |_=>.bad 0
theorem b2l (l0:DD):Imp (n2u [.l TNd l0]) (u2p [.l TNd l0]):=
(.nd (fun h0=>
(.pa [1]
.lf)) (fun h0=>
(.nd (fun h1=>
(.pa [1]
.lf)) (fun h1=>
.none))))
def cs_36:FuncId→Option a0q:=a0s 89 B36 z1j
theorem a2q:CsOk Tryz.prog cs_36:=a0g b1k B36_ok
def k38 (f:OpT):FBox:=mkF [laV 0,rtV 4,.imm TI 10] [] [] [(.bool 0,[])] f
def u2r (env:LDt):TD:=Lk.boxC false LK cs_36 91 ls0 (k38 fun _=>none) env
def i2c:OpT:=Classical.choose (opq (fun env=>(u2r env).sel))
theorem y1y (env:LDt):i2c env=(u2r env).sel:=Classical.choose_spec (opq (fun env=>(u2r env).sel)) env
def B38:FBox:=k38 i2c
theorem B38_ok:a0v Tryz.prog 91 (a0j B38):=a0p (op:=i2c) a2q hmix false (LsOk.none _ _ _) (fun env x h=>by rw[y1y]at h;rw[←boxC_lk];exact h)
def j2d:LDt→TD
 |[.l TS l0,.l TPt l1,.l TPt l2,.l TRt l3,.s s4,.n n5,.l TI l6,.l TNd l7,.l TI l8,.l TNd l9,.l TI l10]=>
  (let r1:OD:=(m1r [.l TNd l7,.l TI l10,.l TS l0,.l TPt l1,.l TPt l2,.l TRt l3]);
   (.node (isK 0 [HK.b] r1)
   (.node (!gb (dOf r1) 0)
    (let r2:OD:=(l1k [.l TNd l9,.l TI l10,.l TS l0,.l TPt l1,.l TPt l2,.l TRt l3]);
    (.node (isK 0 [HK.b] r2)
     (.leaf ((0,[.b !gb (dOf r2) 0])))
     (.bad 351)))
    (.leaf ((0,[.b false]))))
   (.bad 351)))
 |_=>.bad 0
theorem f2h (l0:DS)(l1:DP)(l2:DP)(l3:DR)(s4:ByteArray)(n5:Int)(l6:DI)(l7:DD)(l8:DI)(l9:DD)(l10:DI):Imp (j2d [.l TS l0,.l TPt l1,.l TPt l2,.l TRt l3,.s s4,.n n5,.l TI l6,.l TNd l7,.l TI l8,.l TNd l9,.l TI l10]) (u2r [.l TS l0,.l TPt l1,.l TPt l2,.l TRt l3,.s s4,.n n5,.l TI l6,.l TNd l7,.l TI l8,.l TNd l9,.l TI l10]):=
(.pa [1]
(.nd (fun h0=>
(.pa [1]
(.nd (fun h1=>
(.pa [1]
(.nd (fun h2=>
(.pa [1,1]
.lf)) (fun h2=>
.none)))) (fun h1=>
(.pa [0,1]
.lf))))) (fun h0=>
.none)))
def r2o:FuncId→Option a0q:=a0s 91 B38 cs_36
theorem k1c:CsOk Tryz.prog r2o:=a0g a2q B38_ok
def u1n (f:OpT):MBox:=mkM 0 [] [(sh 29 [(2,.imm TI 0),(4,.ptr 0 0),(10,.imm TPt 1),(11,.int .i64 2),(12,.int .i64 3)],[rtB 4])] [] [(.exit 0,sh 29 [],[]),(.ret,sh 29 [(6,.bool 0)],[])] f
def n0s (env:LDt):Tree Step:=Lk.stepMC false LK r2o 92 2 ls0 (u1n fun _=>none) env
def z0p:OpT:=Classical.choose (opq (a0b n0s FU))
theorem b1d (env:LDt):z0p env=a0b n0s FU env:=Classical.choose_spec (opq (a0b n0s FU)) env
def s2r:MBox:=u1n z0p
theorem h2r:s2r=u1n (a0b n0s FU):=congrArg u1n (funext b1d)
theorem m2t: ∀t s x,(a0h s2r t s).sel=some x→a0k Tryz.prog 0 (.loop (cAt Tryz.prog 92 2)) t s x:=by
 rw[h2r]
 exact a0o (st:=n0s) (m:=FU) k1c hmix false (LsOk.none _ _ _) (by kernel_rfl) (fun env y h=>by rw[←stepMC_lk];exact h)
def n0m:LDt→Tree Step
 |[.l TI l0,.l TPt l1,.n n2,.n n3,.s s4,.n n5,.l TI l6,.l TNd l7,.l TI l8,.l TNd l9]=>
  (.node (decide (n3<n2))
   (let r1:OD:=(m1g [.l TI l0,.n (Prod.snd (List.getD l1 (Int.toNat n3) (Ty.dflt TPt)))]);
   (.node (isK 0 [HK.b] r1)
    (.node (gb (dOf r1) 0)
    (let r2:OD:=(n1h [.l TNd l7,.n n3]);
     (.node (isK 0 [HK.b] r2)
     (.node (!gb (dOf r2) 0)
      (.leaf (Step.stop 1 [.b false]))
      (.leaf (Step.go [.k 0,.l TI l0,.l TPt l1,.n n2,.n (IntKind.wrap .i64 (n3+(1:Int))),.s s4,.n n5,.l TI l6,.l TNd l7,.l TI l8,.l TNd l9])))
     (.bad 351)))
    (.leaf (Step.go [.k 0,.l TI l0,.l TPt l1,.n n2,.n (IntKind.wrap .i64 (n3+(1:Int))),.s s4,.n n5,.l TI l6,.l TNd l7,.l TI l8,.l TNd l9])))
    (.bad 351)))
   (.leaf (Step.stop 0 [])))
 |_=>.bad 0
theorem j0k (l0:DI)(l1:DP)(n2:Int)(n3:Int)(s4:ByteArray)(n5:Int)(l6:DI)(l7:DD)(l8:DI)(l9:DD)(g0:0≤n3)(g1:n2=(l1.length:Int)):Imp (n0m [.l TI l0,.l TPt l1,.n n2,.n n3,.s s4,.n n5,.l TI l6,.l TNd l7,.l TI l8,.l TNd l9]) (n0s [.k 0,.l TI l0,.l TPt l1,.n n2,.n n3,.s s4,.n n5,.l TI l6,.l TNd l7,.l TI l8,.l TNd l9]):=
(.pa [1]
(.nd (fun h0=>
(.pq (c:=(inR n3 (List.length l1)))
(.nd (fun h1=>
(.pa [1]
(.nd (fun h2=>
(.pa [1]
(.nd (fun h3=>
(.pa [1]
(.nd (fun h4=>
(.pa [1]
.lf)) (fun h4=>
(.pa [1]
.lf))))) (fun h3=>
.none)))) (fun h2=>
(.pa [0,0,1]
.lf))))) (fun h1=>
.none)))) (fun h0=>
(.pa [1]
.lf))))
theorem t2v:LsOk Tryz.prog (z0) (lsM [(2,s2r)] (z0)) (a0r Tryz.prog 92):=LsOk.many fun j B hB hk c hc hi=>by
 simp only[b0d]at hB
 split at hB
 ·rename_i e;have:=Nat.eq_of_beq_eq_true e;subst this;cases hB
  have e1:p0c Tryz.prog 92 2=[cAt Tryz.prog 92 2]:=a0e (by kernel_rfl)
  have e2:c∈p0c Tryz.prog 92 2:=a0d hc hi
  rw[e1]at e2;cases List.mem_singleton.1 e2;exact m2t
 cases hB
def r2i (env:LDt):TD:=Lk.boxC false LK r2o 92 (lsM [(2,s2r)] (z0)) (k38 fun _=>none) env
def i2g:OpT:=Classical.choose (opq (fun env=>(r2i env).sel))
theorem w1l (env:LDt):i2g env=(r2i env).sel:=Classical.choose_spec (opq (fun env=>(r2i env).sel)) env
def B39:FBox:=k38 i2g
theorem B39_ok:a0v Tryz.prog 92 (a0j B39):=a0p (op:=i2g) k1c hmix false (t2v) (fun env x h=>by rw[w1l]at h;rw[←boxC_lk];exact h)
def h2l:LDt→TD
 |[.l TS l0,.l TPt l1,.l TPt l2,.l TRt l3,.s s4,.n n5,.l TI l6,.l TNd l7,.l TI l8,.l TNd l9,.l TI l10]=>
  (let r1:OD:=(z0p [.k 0,.l TI l10,.l TPt l1,.n (↑(List.length l1):Int),.n (0:Int),.s s4,.n n5,.l TI l6,.l TNd l7,.l TI l8,.l TNd l9]);
   (.node (isK 0 [] r1)
   (.leaf ((0,[.b true])))
   (.node (isK 1 [HK.b] r1)
    (.leaf ((0,[.b (gb (dOf r1) 0)])))
    (.bad 351))))
 |_=>.bad 0
theorem d2n (l0:DS)(l1:DP)(l2:DP)(l3:DR)(s4:ByteArray)(n5:Int)(l6:DI)(l7:DD)(l8:DI)(l9:DD)(l10:DI):Imp (h2l [.l TS l0,.l TPt l1,.l TPt l2,.l TRt l3,.s s4,.n n5,.l TI l6,.l TNd l7,.l TI l8,.l TNd l9,.l TI l10]) (r2i [.l TS l0,.l TPt l1,.l TPt l2,.l TRt l3,.s s4,.n n5,.l TI l6,.l TNd l7,.l TI l8,.l TNd l9,.l TI l10]):=
(.nd (fun h0=>
(.pa [1]
.lf)) (fun h0=>
(.nd (fun h1=>
(.pa [1]
.lf)) (fun h1=>
.none))))
def cs_39:FuncId→Option a0q:=a0s 92 B39 r2o
theorem w1b:CsOk Tryz.prog cs_39:=a0g k1c B39_ok
def k27 (f:OpT):FBox:=mkF [laV 0,rtV 4] [] [] [(.bool 0,[])] f
def s2e (env:LDt):TD:=Lk.boxC false LK cs_39 70 ls0 (k27 fun _=>none) env
def s1p:OpT:=Classical.choose (opq (fun env=>(s2e env).sel))
theorem w1u (env:LDt):s1p env=(s2e env).sel:=Classical.choose_spec (opq (fun env=>(s2e env).sel)) env
def B27:FBox:=k27 s1p
theorem B27_ok:a0v Tryz.prog 70 (a0j B27):=a0p (op:=s1p) w1b hmix false (LsOk.none _ _ _) (fun env x h=>by rw[w1u]at h;rw[←boxC_lk];exact h)
def j2m:LDt→TD
 |[.l TS l0,.l TPt l1,.l TPt l2,.l TRt l3,.s s4,.n n5,.l TI l6,.l TNd l7,.l TI l8,.l TNd l9]=>
  (let r1:OD:=(op_9 [.s s4,.n n5,.l TI l6,.l TNd l7,.l TI l8,.l TNd l9]);
   (.node (isK 0 [HK.l TI] r1)
   (let r2:OD:=(t1a [.s s4,.n n5,.l TI l6,.l TNd l7,.l TI l8,.l TNd l9]);
    (.node (isK 0 [HK.l TNd] r2)
    (.node (decide ((↑(List.length l6):Int)>(0:Int)))
     (.node (inR n5 (List.length l2))
     (let r3:OD:=(m1g [.l TI (gl TI (dOf r1) 0),.n (Prod.snd (List.getD l2 (Int.toNat n5) (Ty.dflt TPt)))]);
      (.node (isK 0 [HK.b] r3)
      (.node (!gb (dOf r3) 0)
       (let r4:OD:=(k2g [.l TI (gl TI (dOf r1) 0)]);
       (.node (isK 0 [HK.b] r4)
        (.node (!gb (dOf r4) 0)
        (let r5:OD:=(i2e [.l TNd (gl TNd (dOf r2) 0)]);
         (.node (isK 0 [HK.b] r5)
         (.node (!gb (dOf r5) 0)
          (let r6:OD:=(i2c [.l TS l0,.l TPt l1,.l TPt l2,.l TRt l3,.s s4,.n n5,.l TI l6,.l TNd l7,.l TI l8,.l TNd l9,.l TI (gl TI (dOf r1) 0)]);
          (.node (isK 0 [HK.b] r6)
           (.node (gb (dOf r6) 0)
           (let r7:OD:=(i2g [.l TS l0,.l TPt l1,.l TPt l2,.l TRt l3,.s s4,.n n5,.l TI l6,.l TNd l7,.l TI l8,.l TNd l9,.l TI (gl TI (dOf r1) 0)]);
            (.node (isK 0 [HK.b] r7)
            (.leaf ((0,[.b (gb (dOf r7) 0)])))
            (.bad 351)))
           (.leaf ((0,[.b false]))))
           (.bad 351)))
          (.leaf ((0,[.b false]))))
         (.bad 351)))
        (.leaf ((0,[.b false]))))
        (.bad 351)))
       (.leaf ((0,[.b false]))))
      (.bad 351)))
     (.bad 10))
     (.leaf ((0,[.b false]))))
    (.bad 351)))
   (.bad 351)))
 |_=>.bad 0
theorem e2s (l0:DS)(l1:DP)(l2:DP)(l3:DR)(s4:ByteArray)(n5:Int)(l6:DI)(l7:DD)(l8:DI)(l9:DD):Imp (j2m [.l TS l0,.l TPt l1,.l TPt l2,.l TRt l3,.s s4,.n n5,.l TI l6,.l TNd l7,.l TI l8,.l TNd l9]) (s2e [.l TS l0,.l TPt l1,.l TPt l2,.l TRt l3,.s s4,.n n5,.l TI l6,.l TNd l7,.l TI l8,.l TNd l9]):=
(.nd (fun h0=>
(.pa [1]
(.nd (fun h1=>
(.pa [1,1]
(.nd (fun h2=>
(.nd (fun h3=>
(.nd (fun h4=>
(.pa [1]
(.nd (fun h5=>
(.nd (fun h6=>
(.pa [1]
(.nd (fun h7=>
(.nd (fun h8=>
(.pa [1]
(.nd (fun h9=>
(.nd (fun h10=>
(.pa [1]
(.nd (fun h11=>
(.nd (fun h12=>
(.pa [1,1]
.lf)) (fun h12=>
.none))) (fun h11=>
(.pa [0,1]
.lf))))) (fun h10=>
.none))) (fun h9=>
(.pa [0,0,0,1]
.lf))))) (fun h8=>
.none))) (fun h7=>
(.pa [0,0,0,0,0,1]
.lf))))) (fun h6=>
.none))) (fun h5=>
(.pa [0,0,0,0,0,0,0,1]
.lf))))) (fun h4=>
.none))) (fun h3=>
.none))) (fun h2=>
(.pa [0,0,0,0,0,0,0,0,0,1]
.lf))))) (fun h1=>
.none)))) (fun h0=>
.none))
def t2d:FuncId→Option a0q:=a0s 70 B27 cs_39
theorem k1k:CsOk Tryz.prog t2d:=a0g w1b B27_ok
def z1z (f:OpT):MBox:=mkM 0 [] [(sh 23 [(1,.ptr 0 0),(10,.imm TRt 0),(11,.int .i64 1),(12,.int .i64 2)],[laB 3])] [] [(.exit 0,sh 23 [],[]),(.ret,sh 23 [(2,.int .i64 0),(3,.int .i64 1)],[])] f
def n0t (env:LDt):Tree Step:=Lk.stepMC false LK t2d 37 4 ls0 (z1z fun _=>none) env
def z0z:OpT:=Classical.choose (opq (a0b n0t FU))
theorem c1y (env:LDt):z0z env=a0b n0t FU env:=Classical.choose_spec (opq (a0b n0t FU)) env
def s2l:MBox:=z1z z0z
theorem m2b:s2l=z1z (a0b n0t FU):=congrArg z1z (funext c1y)
theorem n2g: ∀t s x,(a0h s2l t s).sel=some x→a0k Tryz.prog 0 (.loop (cAt Tryz.prog 37 4)) t s x:=by
 rw[m2b]
 exact a0o (st:=n0t) (m:=FU) k1k hmix false (LsOk.none _ _ _) (by kernel_rfl) (fun env y h=>by rw[←stepMC_lk];exact h)
def n0k:LDt→Tree Step
 |[.l TRt l0,.n n1,.n n2,.l TS l3,.l TPt l4,.l TPt l5,.l TRt l6]=>
  (.node (decide (n2<n1))
   (let r1:OD:=(s1p [.l TS l3,.l TPt l4,.l TPt l5,.l TRt l6,.s (Prod.fst (List.getD l0 (Int.toNat n2) (Ty.dflt TRt))),.n (Prod.fst (Prod.snd (List.getD l0 (Int.toNat n2) (Ty.dflt TRt)))),.l TI (Prod.fst (Prod.snd (Prod.snd (List.getD l0 (Int.toNat n2) (Ty.dflt TRt))))),.l TNd (Prod.fst (Prod.snd (Prod.snd (Prod.snd (List.getD l0 (Int.toNat n2) (Ty.dflt TRt)))))),.l TI (Prod.fst (Prod.snd (Prod.snd (Prod.snd (Prod.snd (List.getD l0 (Int.toNat n2) (Ty.dflt TRt))))))),.l TNd (Prod.snd (Prod.snd (Prod.snd (Prod.snd (Prod.snd (List.getD l0 (Int.toNat n2) (Ty.dflt TRt)))))))]);
   (.node (isK 0 [HK.b] r1)
    (.node (!gb (dOf r1) 0)
    (.leaf (Step.stop 1 [.n (50:Int),.n n2]))
    (.leaf (Step.go [.k 0,.l TRt l0,.n n1,.n (IntKind.wrap .i64 (n2+(1:Int))),.l TS l3,.l TPt l4,.l TPt l5,.l TRt l6])))
    (.bad 351)))
   (.leaf (Step.stop 0 [])))
 |_=>.bad 0
theorem l0g (l0:DR)(n1:Int)(n2:Int)(l3:DS)(l4:DP)(l5:DP)(l6:DR)(g0:0≤n2)(g1:n1=(l0.length:Int)):Imp (n0k [.l TRt l0,.n n1,.n n2,.l TS l3,.l TPt l4,.l TPt l5,.l TRt l6]) (n0t [.k 0,.l TRt l0,.n n1,.n n2,.l TS l3,.l TPt l4,.l TPt l5,.l TRt l6]):=
(.pa [1]
(.nd (fun h0=>
(.pq (c:=(inR n2 (List.length l0)))
(.nd (fun h1=>
(.pa [1]
(.nd (fun h2=>
(.pa [1]
.lf)) (fun h2=>
(.pa [1]
.lf))))) (fun h1=>
.none)))) (fun h0=>
(.pa [1]
.lf))))
theorem v2a:LsOk Tryz.prog (z0) (lsM [(4,s2l)] (z0)) (a0r Tryz.prog 37):=LsOk.many fun j B hB hk c hc hi=>by
 simp only[b0d]at hB
 split at hB
 ·rename_i e;have:=Nat.eq_of_beq_eq_true e;subst this;cases hB
  have e1:p0c Tryz.prog 37 4=[cAt Tryz.prog 37 4]:=a0e (by kernel_rfl)
  have e2:c∈p0c Tryz.prog 37 4:=a0d hc hi
  rw[e1]at e2;cases List.mem_singleton.1 e2;exact n2g
 cases hB
def k18 (f:OpT):FBox:=mkF [laV 0] [] [] [(.tup [.int .i64 0,.int .i64 1],[])] f
def u2n (env:LDt):TD:=Lk.boxC false LK t2d 37 (lsM [(4,s2l)] (z0)) (k18 fun _=>none) env
def b2y:OpT:=Classical.choose (opq (fun env=>(u2n env).sel))
theorem x1t (env:LDt):b2y env=(u2n env).sel:=Classical.choose_spec (opq (fun env=>(u2n env).sel)) env
def B18:FBox:=k18 b2y
theorem B18_ok:a0v Tryz.prog 37 (a0j B18):=a0p (op:=b2y) k1k hmix false (v2a) (fun env x h=>by rw[x1t]at h;rw[←boxC_lk];exact h)
def o2f:LDt→TD
 |[.l TS l0,.l TPt l1,.l TPt l2,.l TRt l3]=>
  (let r1:OD:=(g2g [.l TS l0,.l TPt l1,.l TPt l2,.l TRt l3]);
   (.node (isK 0 [HK.b] r1)
   (.node (!gb (dOf r1) 0)
    (.leaf ((0,[.n (2:Int),.n (0:Int)])))
    (let r2:OD:=(z0z [.k 0,.l TRt l3,.n (↑(List.length l3):Int),.n (0:Int),.l TS l0,.l TPt l1,.l TPt l2,.l TRt l3]);
    (.node (isK 0 [] r2)
     (.leaf ((0,[.n (0:Int),.n (0:Int)])))
     (.node (isK 1 [HK.n,HK.n] r2)
     (.leaf ((0,[.n (gn (dOf r2) 0),.n (gn (dOf r2) 1)])))
     (.bad 351)))))
   (.bad 351)))
 |_=>.bad 0
theorem c2t (l0:DS)(l1:DP)(l2:DP)(l3:DR):Imp (o2f [.l TS l0,.l TPt l1,.l TPt l2,.l TRt l3]) (u2n [.l TS l0,.l TPt l1,.l TPt l2,.l TRt l3]):=
(.nd (fun h0=>
(.pa [1]
(.nd (fun h1=>
(.pa [1]
.lf)) (fun h1=>
(.nd (fun h2=>
(.pa [1]
.lf)) (fun h2=>
(.nd (fun h3=>
(.pa [1]
.lf)) (fun h3=>
.none)))))))) (fun h0=>
.none))
def r2m:FuncId→Option a0q:=a0s 37 B18 t2d
theorem k1t:CsOk Tryz.prog r2m:=a0g k1k B18_ok
def u1e (f:OpT):MBox:=mkM 0 [] [(sh 120 [(1,.int .i64 0),(2,.ptr 0 0),(5,.int .i64 1),(6,.int .i64 2)],[laB 3])] [] [(.exit 0,sh 120 [(1,.int .i64 0),(2,.ptr 0 0),(5,.int .i64 1)],[laB 2])] f
def j0v (env:LDt):Tree Step:=Lk.stepMC false LK r2m 14 3 ls0 (u1e fun _=>none) env
def z0w:OpT:=Classical.choose (opq (a0b j0v FU))
theorem d1j (env:LDt):z0w env=a0b j0v FU env:=Classical.choose_spec (opq (a0b j0v FU)) env
def t2z:MBox:=u1e z0w
theorem q2b:t2z=u1e (a0b j0v FU):=congrArg u1e (funext d1j)
theorem p2d: ∀t s x,(a0h t2z t s).sel=some x→a0k Tryz.prog 0 (.loop (cAt Tryz.prog 14 3)) t s x:=by
 rw[q2b]
 exact a0o (st:=j0v) (m:=FU) k1t hmix false (LsOk.none _ _ _) (by kernel_rfl) (fun env y h=>by rw[←stepMC_lk];exact h)
def n0z:LDt→Tree Step
 |[.n n0,.n n1,.n n2,.l TS l3,.l TPt l4,.l TPt l5,.l TRt l6]=>
  (.node (decide (n2<(↑(List.length l3):Int)))
   (.node (decide (n1≤n0))
   (.leaf (Step.go [.k 0,.n n0,.n (IntKind.wrap .i64 (IntKind.wrap .i64 (n1+(1:Int))+(↑(ByteArray.size (List.getD l3 (Int.toNat n2) (Ty.dflt Ty.str))):Int))),.n (IntKind.wrap .i64 (n2+(1:Int))),.l TS l3,.l TPt l4,.l TPt l5,.l TRt l6]))
   (.leaf (Step.stop 0 [.n n0,.n n1,.l TS l3,.l TPt l4,.l TPt l5,.l TRt l6])))
   (.leaf (Step.stop 0 [.n n0,.n n1,.l TS l3,.l TPt l4,.l TPt l5,.l TRt l6])))
 |_=>.bad 0
theorem k0m (n0:Int)(n1:Int)(n2:Int)(l3:DS)(l4:DP)(l5:DP)(l6:DR)(g0:0≤n2):Imp (n0z [.n n0,.n n1,.n n2,.l TS l3,.l TPt l4,.l TPt l5,.l TRt l6]) (j0v [.k 0,.n n0,.n n1,.n n2,.l TS l3,.l TPt l4,.l TPt l5,.l TRt l6]):=
(.pa [1]
(.nd (fun h0=>
(.nd (fun h1=>
(.pq (c:=(inR n2 (List.length l3)))
(.pa [1]
.lf))) (fun h1=>
(.pa [1]
.lf)))) (fun h0=>
(.pa [0,0,1]
.lf))))
def v1f (f:OpT):MBox:=mkM 0 [] [(sh 120 [(1,.int .i64 0),(2,.ptr 0 0),(5,.int .i64 1),(7,.int .i64 2)],[laB 3])] [] [(.exit 2,sh 120 [(1,.int .i64 0),(2,.ptr 0 0),(5,.int .i64 1)],[laB 2])] f
def l0c (env:LDt):Tree Step:=Lk.stepMC false LK r2m 14 7 ls0 (v1f fun _=>none) env
def z0q:OpT:=Classical.choose (opq (a0b l0c FU))
theorem d1w (env:LDt):z0q env=a0b l0c FU env:=Classical.choose_spec (opq (a0b l0c FU)) env
def s2d:MBox:=v1f z0q
theorem h2j:s2d=v1f (a0b l0c FU):=congrArg v1f (funext d1w)
theorem n2c: ∀t s x,(a0h s2d t s).sel=some x→a0k Tryz.prog 0 (.loop (cAt Tryz.prog 14 7)) t s x:=by
 rw[h2j]
 exact a0o (st:=l0c) (m:=FU) k1t hmix false (LsOk.none _ _ _) (by kernel_rfl) (fun env y h=>by rw[←stepMC_lk];exact h)
def o0e:LDt→Tree Step
 |[.n n0,.n n1,.n n2,.l TS l3,.l TPt l4,.l TPt l5,.l TRt l6]=>
  (.node (decide (n2<(↑(List.length l4):Int)))
   (.node (decide (n1≤n0))
   (.leaf (Step.go [.k 0,.n n0,.n (IntKind.wrap .i64 (IntKind.wrap .i64 (n1+(1:Int))+(↑(ByteArray.size (Prod.fst (List.getD l4 (Int.toNat n2) (Ty.dflt TPt)))):Int))),.n (IntKind.wrap .i64 (n2+(1:Int))),.l TS l3,.l TPt l4,.l TPt l5,.l TRt l6]))
   (.leaf (Step.stop 0 [.n n0,.n n1,.l TS l3,.l TPt l4,.l TPt l5,.l TRt l6])))
   (.leaf (Step.stop 0 [.n n0,.n n1,.l TS l3,.l TPt l4,.l TPt l5,.l TRt l6])))
 |_=>.bad 0
theorem k0q (n0:Int)(n1:Int)(n2:Int)(l3:DS)(l4:DP)(l5:DP)(l6:DR)(g0:0≤n2):Imp (o0e [.n n0,.n n1,.n n2,.l TS l3,.l TPt l4,.l TPt l5,.l TRt l6]) (l0c [.k 0,.n n0,.n n1,.n n2,.l TS l3,.l TPt l4,.l TPt l5,.l TRt l6]):=
(.pa [1]
(.nd (fun h0=>
(.nd (fun h1=>
(.pq (c:=(inR n2 (List.length l4)))
(.pa [1]
.lf))) (fun h1=>
(.pa [1]
.lf)))) (fun h0=>
(.pa [0,0,1]
.lf))))
def j1n (f:OpT):MBox:=mkM 0 [] [(sh 120 [(1,.int .i64 0),(2,.ptr 0 0),(5,.int .i64 1),(8,.int .i64 2)],[laB 3])] [] [(.exit 4,sh 120 [(1,.int .i64 0),(2,.ptr 0 0),(5,.int .i64 1)],[laB 2])] f
def g0a (env:LDt):Tree Step:=Lk.stepMC false LK r2m 14 11 ls0 (j1n fun _=>none) env
def t0y:OpT:=Classical.choose (opq (a0b g0a FU))
theorem w0t (env:LDt):t0y env=a0b g0a FU env:=Classical.choose_spec (opq (a0b g0a FU)) env
def a2g:MBox:=j1n t0y
theorem a2w:a2g=j1n (a0b g0a FU):=congrArg j1n (funext w0t)
theorem c2u: ∀t s x,(a0h a2g t s).sel=some x→a0k Tryz.prog 0 (.loop (cAt Tryz.prog 14 11)) t s x:=by
 rw[a2w]
 exact a0o (st:=g0a) (m:=FU) k1t hmix false (LsOk.none _ _ _) (by kernel_rfl) (fun env y h=>by rw[←stepMC_lk];exact h)
def j0r:LDt→Tree Step
 |[.n n0,.n n1,.n n2,.l TS l3,.l TPt l4,.l TPt l5,.l TRt l6]=>
  (.node (decide (n2<(↑(List.length l5):Int)))
   (.node (decide (n1≤n0))
   (.leaf (Step.go [.k 0,.n n0,.n (IntKind.wrap .i64 (IntKind.wrap .i64 (n1+(1:Int))+(↑(ByteArray.size (Prod.fst (List.getD l5 (Int.toNat n2) (Ty.dflt TPt)))):Int))),.n (IntKind.wrap .i64 (n2+(1:Int))),.l TS l3,.l TPt l4,.l TPt l5,.l TRt l6]))
   (.leaf (Step.stop 0 [.n n0,.n n1,.l TS l3,.l TPt l4,.l TPt l5,.l TRt l6])))
   (.leaf (Step.stop 0 [.n n0,.n n1,.l TS l3,.l TPt l4,.l TPt l5,.l TRt l6])))
 |_=>.bad 0
theorem h0m (n0:Int)(n1:Int)(n2:Int)(l3:DS)(l4:DP)(l5:DP)(l6:DR)(g0:0≤n2):Imp (j0r [.n n0,.n n1,.n n2,.l TS l3,.l TPt l4,.l TPt l5,.l TRt l6]) (g0a [.k 0,.n n0,.n n1,.n n2,.l TS l3,.l TPt l4,.l TPt l5,.l TRt l6]):=
(.pa [1]
(.nd (fun h0=>
(.nd (fun h1=>
(.pq (c:=(inR n2 (List.length l5)))
(.pa [1]
.lf))) (fun h1=>
(.pa [1]
.lf)))) (fun h0=>
(.pa [0,0,1]
.lf))))
def k1u (f:OpT):MBox:=mkM 0 [] [(sh 120 [(1,.int .i64 0),(2,.ptr 0 0),(5,.int .i64 1),(9,.int .i64 2)],[laB 3])] [] [(.exit 6,sh 120 [(5,.int .i64 0)],[])] f
def g0c (env:LDt):Tree Step:=Lk.stepMC false LK r2m 14 15 ls0 (k1u fun _=>none) env
def s0c:OpT:=Classical.choose (opq (a0b g0c FU))
theorem x0t (env:LDt):s0c env=a0b g0c FU env:=Classical.choose_spec (opq (a0b g0c FU)) env
def z1c:MBox:=k1u s0c
theorem b2s:z1c=k1u (a0b g0c FU):=congrArg k1u (funext x0t)
theorem f2c: ∀t s x,(a0h z1c t s).sel=some x→a0k Tryz.prog 0 (.loop (cAt Tryz.prog 14 15)) t s x:=by
 rw[b2s]
 exact a0o (st:=g0c) (m:=FU) k1t hmix false (LsOk.none _ _ _) (by kernel_rfl) (fun env y h=>by rw[←stepMC_lk];exact h)
def g0g:LDt→Tree Step
 |[.n n0,.n n1,.n n2,.l TS l3,.l TPt l4,.l TPt l5,.l TRt l6]=>
  (.node (decide (n2<(↑(List.length l6):Int)))
   (.node (decide (n1≤n0))
   (.node (decide (IntKind.wrap .i64 (IntKind.wrap .i64 (IntKind.wrap .i64 (IntKind.wrap .i64 (n1+(1:Int))+(↑(ByteArray.size (Prod.fst (List.getD l6 (Int.toNat n2) (Ty.dflt TRt)))):Int))+(↑(List.length (Prod.fst (Prod.snd (Prod.snd (List.getD l6 (Int.toNat n2) (Ty.dflt TRt)))))):Int))+(↑(List.length (Prod.fst (Prod.snd (Prod.snd (Prod.snd (List.getD l6 (Int.toNat n2) (Ty.dflt TRt))))))):Int))≤n0))
    (.leaf (Step.go [.k 0,.n n0,.n (IntKind.wrap .i64 (IntKind.wrap .i64 (IntKind.wrap .i64 (IntKind.wrap .i64 (IntKind.wrap .i64 (IntKind.wrap .i64 (n1+(1:Int))+(↑(ByteArray.size (Prod.fst (List.getD l6 (Int.toNat n2) (Ty.dflt TRt)))):Int))+(↑(List.length (Prod.fst (Prod.snd (Prod.snd (List.getD l6 (Int.toNat n2) (Ty.dflt TRt)))))):Int))+(↑(List.length (Prod.fst (Prod.snd (Prod.snd (Prod.snd (List.getD l6 (Int.toNat n2) (Ty.dflt TRt))))))):Int))+(↑(List.length (Prod.fst (Prod.snd (Prod.snd (Prod.snd (Prod.snd (List.getD l6 (Int.toNat n2) (Ty.dflt TRt)))))))):Int))+(↑(List.length (Prod.snd (Prod.snd (Prod.snd (Prod.snd (Prod.snd (List.getD l6 (Int.toNat n2) (Ty.dflt TRt)))))))):Int))),.n (IntKind.wrap .i64 (n2+(1:Int))),.l TS l3,.l TPt l4,.l TPt l5,.l TRt l6]))
    (.leaf (Step.go [.k 0,.n n0,.n (IntKind.wrap .i64 (IntKind.wrap .i64 (IntKind.wrap .i64 (IntKind.wrap .i64 (n1+(1:Int))+(↑(ByteArray.size (Prod.fst (List.getD l6 (Int.toNat n2) (Ty.dflt TRt)))):Int))+(↑(List.length (Prod.fst (Prod.snd (Prod.snd (List.getD l6 (Int.toNat n2) (Ty.dflt TRt)))))):Int))+(↑(List.length (Prod.fst (Prod.snd (Prod.snd (Prod.snd (List.getD l6 (Int.toNat n2) (Ty.dflt TRt))))))):Int))),.n (IntKind.wrap .i64 (n2+(1:Int))),.l TS l3,.l TPt l4,.l TPt l5,.l TRt l6])))
   (.leaf (Step.stop 0 [.n n1])))
   (.leaf (Step.stop 0 [.n n1])))
 |_=>.bad 0
theorem e0x (n0:Int)(n1:Int)(n2:Int)(l3:DS)(l4:DP)(l5:DP)(l6:DR)(g0:0≤n2):Imp (g0g [.n n0,.n n1,.n n2,.l TS l3,.l TPt l4,.l TPt l5,.l TRt l6]) (g0c [.k 0,.n n0,.n n1,.n n2,.l TS l3,.l TPt l4,.l TPt l5,.l TRt l6]):=
(.pa [1]
(.nd (fun h0=>
(.nd (fun h1=>
(.pq (c:=(inR n2 (List.length l6)))
(.nd (fun h2=>
(.pa [1]
.lf)) (fun h2=>
(.pa [1]
.lf))))) (fun h1=>
(.pa [1]
.lf)))) (fun h0=>
(.pa [0,0,1]
.lf))))
theorem v2m:LsOk Tryz.prog (z0) (lsM [(3,t2z),(7,s2d),(11,a2g),(15,z1c)] (z0)) (a0r Tryz.prog 14):=LsOk.many fun j B hB hk c hc hi=>by
 simp only[b0d]at hB
 split at hB
 ·rename_i e;have:=Nat.eq_of_beq_eq_true e;subst this;cases hB
  have e1:p0c Tryz.prog 14 3=[cAt Tryz.prog 14 3]:=a0e (by kernel_rfl)
  have e2:c∈p0c Tryz.prog 14 3:=a0d hc hi
  rw[e1]at e2;cases List.mem_singleton.1 e2;exact p2d
 split at hB
 ·rename_i e;have:=Nat.eq_of_beq_eq_true e;subst this;cases hB
  have e1:p0c Tryz.prog 14 7=[cAt Tryz.prog 14 7]:=a0e (by kernel_rfl)
  have e2:c∈p0c Tryz.prog 14 7:=a0d hc hi
  rw[e1]at e2;cases List.mem_singleton.1 e2;exact n2c
 split at hB
 ·rename_i e;have:=Nat.eq_of_beq_eq_true e;subst this;cases hB
  have e1:p0c Tryz.prog 14 11=[cAt Tryz.prog 14 11]:=a0e (by kernel_rfl)
  have e2:c∈p0c Tryz.prog 14 11:=a0d hc hi
  rw[e1]at e2;cases List.mem_singleton.1 e2;exact c2u
 split at hB
 ·rename_i e;have:=Nat.eq_of_beq_eq_true e;subst this;cases hB
  have e1:p0c Tryz.prog 14 15=[cAt Tryz.prog 14 15]:=a0e (by kernel_rfl)
  have e2:c∈p0c Tryz.prog 14 15:=a0d hc hi
  rw[e1]at e2;cases List.mem_singleton.1 e2;exact f2c
 cases hB
def k15 (f:OpT):FBox:=mkF [laV 0,.int .i64 4] [] [] [(.int .i64 0,[])] f
def t2w (env:LDt):TD:=Lk.boxC false LK r2m 14 (lsM [(3,t2z),(7,s2d),(11,a2g),(15,z1c)] (z0)) (k15 fun _=>none) env
def n2d:OpT:=Classical.choose (opq (fun env=>(t2w env).sel))
theorem x1o (env:LDt):n2d env=(t2w env).sel:=Classical.choose_spec (opq (fun env=>(t2w env).sel)) env
def B15:FBox:=k15 n2d
theorem B15_ok:a0v Tryz.prog 14 (a0j B15):=a0p (op:=n2d) k1t hmix false (v2m) (fun env x h=>by rw[x1o]at h;rw[←boxC_lk];exact h)
def l2b:LDt→TD
 |[.l TS l0,.l TPt l1,.l TPt l2,.l TRt l3,.n n4]=>
  (let r1:OD:=(z0w [.k 0,.n n4,.n (0:Int),.n (0:Int),.l TS l0,.l TPt l1,.l TPt l2,.l TRt l3]);
   (.node (isK 0 [HK.n,HK.n,HK.l Ty.str,HK.l TPt,HK.l TPt,HK.l TRt] r1)
   (let r2:OD:=(z0q [.k 0,.n (gn (dOf r1) 0),.n (gn (dOf r1) 1),.n (0:Int),.l TS (gl Ty.str (dOf r1) 2),.l TPt (gl TPt (dOf r1) 3),.l TPt (gl TPt (dOf r1) 4),.l TRt (gl TRt (dOf r1) 5)]);
    (.node (isK 0 [HK.n,HK.n,HK.l Ty.str,HK.l TPt,HK.l TPt,HK.l TRt] r2)
    (let r3:OD:=(t0y [.k 0,.n (gn (dOf r2) 0),.n (gn (dOf r2) 1),.n (0:Int),.l TS (gl Ty.str (dOf r2) 2),.l TPt (gl TPt (dOf r2) 3),.l TPt (gl TPt (dOf r2) 4),.l TRt (gl TRt (dOf r2) 5)]);
     (.node (isK 0 [HK.n,HK.n,HK.l Ty.str,HK.l TPt,HK.l TPt,HK.l TRt] r3)
     (let r4:OD:=(s0c [.k 0,.n (gn (dOf r3) 0),.n (gn (dOf r3) 1),.n (0:Int),.l TS (gl Ty.str (dOf r3) 2),.l TPt (gl TPt (dOf r3) 3),.l TPt (gl TPt (dOf r3) 4),.l TRt (gl TRt (dOf r3) 5)]);
      (.node (isK 0 [HK.n] r4)
      (.leaf ((0,[.n (gn (dOf r4) 0)])))
      (.bad 351)))
     (.bad 351)))
    (.bad 351)))
   (.bad 351)))
 |_=>.bad 0
theorem d2g (l0:DS)(l1:DP)(l2:DP)(l3:DR)(n4:Int):Imp (l2b [.l TS l0,.l TPt l1,.l TPt l2,.l TRt l3,.n n4]) (t2w [.l TS l0,.l TPt l1,.l TPt l2,.l TRt l3,.n n4]):=
(.nd (fun h0=>
(.nd (fun h1=>
(.nd (fun h2=>
(.nd (fun h3=>
(.pa [1]
.lf)) (fun h3=>
.none))) (fun h2=>
.none))) (fun h1=>
.none))) (fun h0=>
.none))
def s2g:FuncId→Option a0q:=a0s 14 B15 r2m
theorem j1q:CsOk Tryz.prog s2g:=a0g k1t B15_ok
end Go.Proofs.YtcbhgaeiokfcdaaGreat.Vx
