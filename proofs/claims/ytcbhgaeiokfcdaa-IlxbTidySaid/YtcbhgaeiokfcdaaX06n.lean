import Derived.Test.YtcbhgaeiokfcdaaVxIm
import Derived.Test.YtcbhgaeiokfcdaaVxLk
import Derived.Test.YtcbhgaeiokfcdaaVxLaw
import Derived.Test.YtcbhgaeiokfcdaaX06m
import Derived.KernelRfl
noncomputable section
namespace Go.Proofs.Ytcbhgaeiokfcdaa.Vx
open Go Go.RowKit
set_option linter.unusedVariables false
set_option linter.unusedSimpArgs false
set_option maxRecDepth 100000
set_option maxHeartbeats 0
def rtV (h:Nat):PV:=.agg [.str h,.int .i64 (h+1),.imm TI (h+2),.imm TNd (h+3),.imm TI (h+4),.imm TNd (h+5)]
def rtB (h:Nat):PB:=.cells [.str h,.int .i64 (h+1),.imm TI (h+2),.imm TNd (h+3),.imm TI (h+4),.imm TNd (h+5)]
def fnV (f:Nat)(cs:List PV):PV:=.fn (.func f) [] cs
def k9 (f:OpT):FBox:=mkF [rtV 0] [] [] [(.own 0,[.arr TI 0])] f
def ev_9 (env:LDt):TD:=Lk.boxC false LK cs_28 29 ls0 (k9 fun _=>none) env
def op_9:OpT:=Classical.choose (opq (fun env=>(ev_9 env).sel))
theorem e3a (env:LDt):op_9 env=(ev_9 env).sel:=Classical.choose_spec (opq (fun env=>(ev_9 env).sel)) env
def B9:FBox:=k9 op_9
theorem B9_ok:a0x Try.prog 29 (a0i B9):=b0c (op:=op_9) f2h hmix false (LsOk.none _ _ _) (fun env x h=>by rw[e3a]at h;rw[←boxC_lk];exact h)
def fn_9_t:LDt→TD
 |[.s s0,.n n1,.l TI l2,.l TNd l3,.l TI l4,.l TNd l5]=>
  (.node (true&&decide ((0:Int)≤IntKind.wrap .i64 ((↑(List.length l2):Int)+(↑(List.length l4):Int)))&&decide (IntKind.wrap .i64 ((↑(List.length l2):Int)+(↑(List.length l4):Int))*(8:Int)≤(281474976710656:Int)))
   (.node (decide ((0+List.length l2)*8≤140737488355328))
   (.node (decide ((List.length ([]++l2)+List.length l4)*8≤140737488355328))
    (.leaf ((0,[.l TI ([]++l2++l4)])))
    (.bad 62))
   (.bad 62))
   (.bad 50))
 |_=>.bad 0
theorem e3u (s0:ByteArray)(n1:Int)(l2:DI)(l3:DD)(l4:DI)(l5:DD):Imp (fn_9_t [.s s0,.n n1,.l TI l2,.l TNd l3,.l TI l4,.l TNd l5]) (ev_9 [.s s0,.n n1,.l TI l2,.l TNd l3,.l TI l4,.l TNd l5]):=
(.pa [1]
(.nd (fun h0=>
(.nd (fun h1=>
(.nd (fun h2=>
(.pa [1,1]
.lf)) (fun h2=>
.none))) (fun h1=>
.none))) (fun h0=>
.none)))
def cs_9:FuncId→Option a0f:=a0k 29 B9 cs_28
theorem p2v:CsOk Try.prog cs_9:=a0h f2h B9_ok
def k10 (f:OpT):FBox:=mkF [rtV 0] [] [] [(.own 0,[.arr TNd 0])] f
def h3s (env:LDt):TD:=Lk.boxC false LK cs_9 30 ls0 (k10 fun _=>none) env
def l1f:OpT:=Classical.choose (opq (fun env=>(h3s env).sel))
theorem g2p (env:LDt):l1f env=(h3s env).sel:=Classical.choose_spec (opq (fun env=>(h3s env).sel)) env
def B10:FBox:=k10 l1f
theorem B10_ok:a0x Try.prog 30 (a0i B10):=b0c (op:=l1f) p2v hmix false (LsOk.none _ _ _) (fun env x h=>by rw[g2p]at h;rw[←boxC_lk];exact h)
def z2k:LDt→TD
 |[.s s0,.n n1,.l TI l2,.l TNd l3,.l TI l4,.l TNd l5]=>
  (.node (true&&decide ((0:Int)≤IntKind.wrap .i64 ((↑(List.length l3):Int)+(↑(List.length l5):Int)))&&decide (IntKind.wrap .i64 ((↑(List.length l3):Int)+(↑(List.length l5):Int))*(16:Int)≤(281474976710656:Int)))
   (.node (decide ((0+List.length l3)*16≤140737488355328))
   (.node (decide ((List.length ([]++l3)+List.length l5)*16≤140737488355328))
    (.leaf ((0,[.l TNd ([]++l3++l5)])))
    (.bad 62))
   (.bad 62))
   (.bad 50))
 |_=>.bad 0
theorem o2s (s0:ByteArray)(n1:Int)(l2:DI)(l3:DD)(l4:DI)(l5:DD):Imp (z2k [.s s0,.n n1,.l TI l2,.l TNd l3,.l TI l4,.l TNd l5]) (h3s [.s s0,.n n1,.l TI l2,.l TNd l3,.l TI l4,.l TNd l5]):=
(.pa [1]
(.nd (fun h0=>
(.nd (fun h1=>
(.nd (fun h2=>
(.pa [1,1]
.lf)) (fun h2=>
.none))) (fun h1=>
.none))) (fun h0=>
.none)))
def cs_10:FuncId→Option a0f:=a0k 30 B10 cs_9
theorem h2u:CsOk Try.prog cs_10:=a0h p2v B10_ok
def j3f (env:LDt):TD:=Lk.boxC false LK cs_10 56 ls0 (k9 fun _=>none) env
def g1a:OpT:=Classical.choose (opq (fun env=>(j3f env).sel))
theorem f2s (env:LDt):g1a env=(j3f env).sel:=Classical.choose_spec (opq (fun env=>(j3f env).sel)) env
def B11:FBox:=k9 g1a
theorem B11_ok:a0x Try.prog 56 (a0i B11):=b0c (op:=g1a) h2u hmix false (LsOk.none _ _ _) (fun env x h=>by rw[f2s]at h;rw[←boxC_lk];exact h)
def c3f:LDt→TD
 |[.s s0,.n n1,.l TI l2,.l TNd l3,.l TI l4,.l TNd l5]=>
  (.node (decide (List.length l2*8≤140737488355328))
   (.node (decide ((List.length l2+List.length l4)*8≤140737488355328))
   (.leaf ((0,[.l TI (l2++l4)])))
   (.bad 62))
   (.bad 60))
 |_=>.bad 0
theorem l2r (s0:ByteArray)(n1:Int)(l2:DI)(l3:DD)(l4:DI)(l5:DD):Imp (c3f [.s s0,.n n1,.l TI l2,.l TNd l3,.l TI l4,.l TNd l5]) (j3f [.s s0,.n n1,.l TI l2,.l TNd l3,.l TI l4,.l TNd l5]):=
(.nd (fun h0=>
(.nd (fun h1=>
(.pa [1]
.lf)) (fun h1=>
.none))) (fun h0=>
.none))
def cs_11:FuncId→Option a0f:=a0k 56 B11 cs_10
theorem b2j:CsOk Try.prog cs_11:=a0h h2u B11_ok
def m3l (env:LDt):TD:=Lk.boxC false LK cs_11 26 ls0 (k10 fun _=>none) env
def y0m:OpT:=Classical.choose (opq (fun env=>(m3l env).sel))
theorem i2q (env:LDt):y0m env=(m3l env).sel:=Classical.choose_spec (opq (fun env=>(m3l env).sel)) env
def B12:FBox:=k10 y0m
theorem B12_ok:a0x Try.prog 26 (a0i B12):=b0c (op:=y0m) b2j hmix false (LsOk.none _ _ _) (fun env x h=>by rw[i2q]at h;rw[←boxC_lk];exact h)
def a3w:LDt→TD
 |[.s s0,.n n1,.l TI l2,.l TNd l3,.l TI l4,.l TNd l5]=>
  (.node (decide (List.length l3*16≤140737488355328))
   (.node (decide ((List.length l3+List.length l5)*16≤140737488355328))
   (.leaf ((0,[.l TNd (l3++l5)])))
   (.bad 62))
   (.bad 60))
 |_=>.bad 0
theorem n2t (s0:ByteArray)(n1:Int)(l2:DI)(l3:DD)(l4:DI)(l5:DD):Imp (a3w [.s s0,.n n1,.l TI l2,.l TNd l3,.l TI l4,.l TNd l5]) (m3l [.s s0,.n n1,.l TI l2,.l TNd l3,.l TI l4,.l TNd l5]):=
(.nd (fun h0=>
(.nd (fun h1=>
(.pa [1]
.lf)) (fun h1=>
.none))) (fun h0=>
.none))
def o2q:FuncId→Option a0f:=a0k 26 B12 cs_11
theorem r0x:CsOk Try.prog o2q:=a0h b2j B12_ok
def i1t (f:OpT):MBox:=mkM 1 [] [(sh 17 [(1,fnV 127 [.ptr 0 0]),(7,.imm TI 0),(8,.int .i64 1),(9,.int .i64 2)],[.cells [.int .i64 3]])] [] [(.exit 0,sh 17 [],[.gone]),(.ret,sh 17 [(4,.bool 0)],[.gone])] f
def j0i (env:LDt):Tree Step:=Lk.stepMC false LK o2q 126 2 ls0 (i1t fun _=>none) env
def t0p:OpT:=Classical.choose (opq (a0b j0i FU))
theorem w0v (env:LDt):t0p env=a0b j0i FU env:=Classical.choose_spec (opq (a0b j0i FU)) env
def f2l:MBox:=i1t t0p
theorem k2n:f2l=i1t (a0b j0i FU):=congrArg i1t (funext w0v)
theorem j2n: ∀t s x,(a0l f2l t s).sel=some x→a0r Try.prog 1 (.loop (cAt Try.prog 126 2)) t s x:=by
 rw[k2n]
 exact b0a (st:=j0i) (m:=FU) r0x hmix false (LsOk.none _ _ _) (by kernel_rfl) (fun env y h=>by rw[←stepMC_lk];exact h)
def l0e:LDt→Tree Step
 |[.l TI l0,.n n1,.n n2,.n n3]=>
  (.node (decide (n2<n1))
   (.node ((List.getD l0 (Int.toNat n2) (0:Int):Int)==n3)
   (.leaf (Step.stop 1 [.b true]))
   (.leaf (Step.go [.k 0,.l TI l0,.n n1,.n (IntKind.wrap .i64 (n2+(1:Int))),.n n3])))
   (.leaf (Step.stop 0 [])))
 |_=>.bad 0
theorem i0u (l0:DI)(n1:Int)(n2:Int)(n3:Int)(g0:0≤n2)(g1:n1=(l0.length:Int)):Imp (l0e [.l TI l0,.n n1,.n n2,.n n3]) (j0i [.k 0,.l TI l0,.n n1,.n n2,.n n3]):=
(.pa [1]
(.nd (fun h0=>
(.pq (c:=(inR n2 (List.length l0)))
(.pa [1,1]
(.nd (fun h1=>
(.pa [1]
.lf)) (fun h1=>
(.pa [1]
.lf)))))) (fun h0=>
(.pa [1]
.lf))))
theorem p2z:LsOk Try.prog (List.length ([.cells [.int .i64 1]]:List PB)) (lsM [(2,f2l)] (List.length ([.cells [.int .i64 1]]:List PB))) (a0u Try.prog 126):=LsOk.many fun j B hB hk c hc hi=>by
 simp only[c0f]at hB
 split at hB
 ·rename_i e;have:=Nat.eq_of_beq_eq_true e;subst this;cases hB
  rw[b0u (f:=126) (i:=2) (a0e (by kernel_rfl)) (a0c hc hi)];exact j2n
 cases hB
def k51a (f:OpT):FBox:=mkF [.imm TI 0,fnV 127 [.ptr 0 0]] [.cells [.int .i64 1]] [] [(.bool 0,[.gone])] f
def g2l (env:LDt):TD:=Lk.boxC false LK o2q 126 (lsM [(2,f2l)] (List.length ([.cells [.int .i64 1]]:List PB))) (k51a fun _=>none) env
def n1s:OpT:=Classical.choose (opq (fun env=>(g2l env).sel))
theorem p1v (env:LDt):n1s env=(g2l env).sel:=Classical.choose_spec (opq (fun env=>(g2l env).sel)) env
def B51a:FBox:=k51a n1s
theorem B51a_ok:a0x Try.prog 126 (a0i B51a):=b0c (op:=n1s) r0x hmix false (p2z) (fun env x h=>by rw[p1v]at h;rw[←boxC_lk];exact h)
def g2o:LDt→TD
 |[.l TI l0,.n n1]=>
  (let r1:OD:=(t0p [.k 0,.l TI l0,.n (↑(List.length l0):Int),.n (0:Int),.n n1]);
   (.node (isK 0 [] r1)
   (.leaf ((0,[.b false])))
   (.node (isK 1 [HK.b] r1)
    (.leaf ((0,[.b (gb (dOf r1) 0)])))
    (.bad 351))))
 |_=>.bad 0
theorem y1m (l0:DI)(n1:Int):Imp (g2o [.l TI l0,.n n1]) (g2l [.l TI l0,.n n1]):=
(.nd (fun h0=>
(.pa [1]
.lf)) (fun h0=>
(.nd (fun h1=>
(.pa [1]
.lf)) (fun h1=>
.none))))
def k1a (f:OpT):MBox:=mkM 2 [] [(sh 17 [(1,fnV 128 [.ptr 0 0,.ptr 1 0]),(7,.imm TI 0),(8,.int .i64 1),(9,.int .i64 2)],[.cells [fnV 113 []],.cells [.int .i64 3]])] [] [(.exit 0,sh 17 [],[.gone,.gone]),(.ret,sh 17 [(4,.bool 0)],[.gone,.gone])] f
def j0k (env:LDt):Tree Step:=Lk.stepMC false LK o2q 126 2 ls0 (k1a fun _=>none) env
def s0e:OpT:=Classical.choose (opq (a0b j0k FU))
theorem x0b (env:LDt):s0e env=a0b j0k FU env:=Classical.choose_spec (opq (a0b j0k FU)) env
def c2j:MBox:=k1a s0e
theorem l2v:c2j=k1a (a0b j0k FU):=congrArg k1a (funext x0b)
theorem j2p: ∀t s x,(a0l c2j t s).sel=some x→a0r Try.prog 2 (.loop (cAt Try.prog 126 2)) t s x:=by
 rw[l2v]
 exact b0a (st:=j0k) (m:=FU) r0x hmix false (LsOk.none _ _ _) (by kernel_rfl) (fun env y h=>by rw[←stepMC_lk];exact h)
def l0b:LDt→Tree Step
 |[.l TI l0,.n n1,.n n2,.n n3]=>
  (.node (decide (n2<n1))
   (.node ((List.getD l0 (Int.toNat n2) (0:Int):Int)==n3)
   (.leaf (Step.stop 1 [.b true]))
   (.leaf (Step.go [.k 0,.l TI l0,.n n1,.n (IntKind.wrap .i64 (n2+(1:Int))),.n n3])))
   (.leaf (Step.stop 0 [])))
 |_=>.bad 0
theorem i0y (l0:DI)(n1:Int)(n2:Int)(n3:Int)(g0:0≤n2)(g1:n1=(l0.length:Int)):Imp (l0b [.l TI l0,.n n1,.n n2,.n n3]) (j0k [.k 0,.l TI l0,.n n1,.n n2,.n n3]):=
(.pa [1]
(.nd (fun h0=>
(.pq (c:=(inR n2 (List.length l0)))
(.pa [1,1,1,1,1,1,1]
(.nd (fun h1=>
(.pa [1]
.lf)) (fun h1=>
(.pa [1]
.lf)))))) (fun h0=>
(.pa [1]
.lf))))
theorem w2u:LsOk Try.prog (List.length ([.cells [fnV 113 []],.cells [.int .i64 1]]:List PB)) (lsM [(2,c2j)] (List.length ([.cells [fnV 113 []],.cells [.int .i64 1]]:List PB))) (a0u Try.prog 126):=LsOk.many fun j B hB hk c hc hi=>by
 simp only[c0f]at hB
 split at hB
 ·rename_i e;have:=Nat.eq_of_beq_eq_true e;subst this;cases hB
  rw[b0u (f:=126) (i:=2) (a0e (by kernel_rfl)) (a0c hc hi)];exact j2p
 cases hB
def k51b (f:OpT):FBox:=mkF [.imm TI 0,fnV 128 [.ptr 0 0,.ptr 1 0]] [.cells [fnV 113 []],.cells [.int .i64 1]] [] [(.bool 0,[.gone,.gone])] f
def f2c (env:LDt):TD:=Lk.boxC false LK o2q 126 (lsM [(2,c2j)] (List.length ([.cells [fnV 113 []],.cells [.int .i64 1]]:List PB))) (k51b fun _=>none) env
def u1a:OpT:=Classical.choose (opq (fun env=>(f2c env).sel))
theorem t1k (env:LDt):u1a env=(f2c env).sel:=Classical.choose_spec (opq (fun env=>(f2c env).sel)) env
def B51b:FBox:=k51b u1a
theorem B51b_ok:a0x Try.prog 126 (a0i B51b):=b0c (op:=u1a) r0x hmix false (w2u) (fun env x h=>by rw[t1k]at h;rw[←boxC_lk];exact h)
def b2n:LDt→TD
 |[.l TI l0,.n n1]=>
  (let r1:OD:=(s0e [.k 0,.l TI l0,.n (↑(List.length l0):Int),.n (0:Int),.n n1]);
   (.node (isK 0 [] r1)
   (.leaf ((0,[.b false])))
   (.node (isK 1 [HK.b] r1)
    (.leaf ((0,[.b (gb (dOf r1) 0)])))
    (.bad 351))))
 |_=>.bad 0
theorem z1r (l0:DI)(n1:Int):Imp (b2n [.l TI l0,.n n1]) (f2c [.l TI l0,.n n1]):=
(.nd (fun h0=>
(.pa [1]
.lf)) (fun h0=>
(.nd (fun h1=>
(.pa [1]
.lf)) (fun h1=>
.none))))
def z2s:FuncId→Option a0f:=d0e 126 [B51a,B51b] o2q
theorem t1s:CsOk Try.prog z2s:=f0z r0x fun B hB=>by
 simp only[List.mem_cons,List.not_mem_nil,or_false]at hB
 rcases hB with rfl|rfl
 ·exact B51a_ok
 ·exact B51b_ok
def k33 (f:OpT):FBox:=mkF [.imm TI 0,.int .i64 1] [] [] [(.bool 0,[])] f
def i3s (env:LDt):TD:=Lk.boxC false LK z2s 111 ls0 (k33 fun _=>none) env
def q1t:OpT:=Classical.choose (opq (fun env=>(i3s env).sel))
theorem g2v (env:LDt):q1t env=(i3s env).sel:=Classical.choose_spec (opq (fun env=>(i3s env).sel)) env
def B33:FBox:=k33 q1t
theorem B33_ok:a0x Try.prog 111 (a0i B33):=b0c (op:=q1t) t1s hmix false (LsOk.none _ _ _) (fun env x h=>by rw[g2v]at h;rw[←boxC_lk];exact h)
def a3n:LDt→TD
 |[.l TI l0,.n n1]=>
  (let r1:OD:=(n1s [.l TI l0,.n n1]);
   (.node (isK 0 [HK.b] r1)
   (.leaf ((0,[.b (gb (dOf r1) 0)])))
   (.bad 351)))
 |_=>.bad 0
theorem m2j (l0:DI)(n1:Int):Imp (a3n [.l TI l0,.n n1]) (i3s [.l TI l0,.n n1]):=
(.pa [1]
(.nd (fun h0=>
(.pa [1,1]
.lf)) (fun h0=>
.none)))
def i3z:FuncId→Option a0f:=a0k 111 B33 z2s
theorem i1j:CsOk Try.prog i3z:=a0h t1s B33_ok
def c2i (f:OpT):MBox:=mkM 0 [] [(sh 20 [(0,.imm TI 0),(3,.ptr 0 0),(7,.imm TI 1),(8,.int .i64 2),(9,.int .i64 3)],[.cells [fnV 113 []]])] [] [(.exit 0,sh 20 [],[]),(.ret,sh 20 [(4,.bool 0)],[])] f
def o0r (env:LDt):Tree Step:=Lk.stepMC false LK i3z 112 2 ls0 (c2i fun _=>none) env
def z0o:OpT:=Classical.choose (opq (a0b o0r FU))
theorem e1n (env:LDt):z0o env=a0b o0r FU env:=Classical.choose_spec (opq (a0b o0r FU)) env
def g3a:MBox:=c2i z0o
theorem c3l:g3a=c2i (a0b o0r FU):=congrArg c2i (funext e1n)
theorem x2n: ∀t s x,(a0l g3a t s).sel=some x→a0r Try.prog 0 (.loop (cAt Try.prog 112 2)) t s x:=by
 rw[c3l]
 exact b0a (st:=o0r) (m:=FU) i1j hmix false (LsOk.none _ _ _) (by kernel_rfl) (fun env y h=>by rw[←stepMC_lk];exact h)
def o0c:LDt→Tree Step
 |[.l TI l0,.n n1,.n n2]=>
  (.node (decide (n2<n1))
   (let r1:OD:=(u1a [.l TI (List.take (Int.toNat n2) l0),.n (List.getD l0 (Int.toNat n2) (0:Int))]);
   (.node (isK 0 [HK.b] r1)
    (.node (gb (dOf r1) 0)
    (.leaf (Step.stop 1 [.b true]))
    (.leaf (Step.go [.k 0,.l TI l0,.l TI l0,.n n1,.n (IntKind.wrap .i64 (n2+(1:Int)))])))
    (.bad 351)))
   (.leaf (Step.stop 0 [])))
 |_=>.bad 0
theorem m0i (l0:DI)(n1:Int)(n2:Int)(g0:0≤n2)(g1:n1=(l0.length:Int)):Imp (o0c [.l TI l0,.n n1,.n n2]) (o0r [.k 0,.l TI l0,.l TI l0,.n n1,.n n2]):=
(.pa [1]
(.nd (fun h0=>
(.pq (c:=(inR n2 (List.length l0)))
(.pq (c:=(decide ((0:Int)≤n2)&&decide (n2≤(↑(List.length l0):Int))))
(.pt (c:=(true&&decide ((0:Int)≤n2))) (by kernel_rfl) (by kernel_rfl) (by(simp[*];done))
(.pa [1]
(.nd (fun h1=>
(.pa [1]
(.nd (fun h2=>
(.pa [1]
.lf)) (fun h2=>
(.pa [1]
.lf))))) (fun h1=>
.none))))))) (fun h0=>
(.pa [1]
.lf))))
theorem j3g:LsOk Try.prog (z0) (lsM [(2,g3a)] (z0)) (a0u Try.prog 112):=LsOk.many fun j B hB hk c hc hi=>by
 simp only[c0f]at hB
 split at hB
 ·rename_i e;have:=Nat.eq_of_beq_eq_true e;subst this;cases hB
  rw[b0u (f:=112) (i:=2) (a0e (by kernel_rfl)) (a0c hc hi)];exact x2n
 cases hB
def k34 (f:OpT):FBox:=mkF [.imm TI 0,fnV 113 []] [] [] [(.bool 0,[])] f
def i3k (env:LDt):TD:=Lk.boxC false LK i3z 112 (lsM [(2,g3a)] (z0)) (k34 fun _=>none) env
def w2b:OpT:=Classical.choose (opq (fun env=>(i3k env).sel))
theorem h2q (env:LDt):w2b env=(i3k env).sel:=Classical.choose_spec (opq (fun env=>(i3k env).sel)) env
def B34:FBox:=k34 w2b
theorem B34_ok:a0x Try.prog 112 (a0i B34):=b0c (op:=w2b) i1j hmix false (j3g) (fun env x h=>by rw[h2q]at h;rw[←boxC_lk];exact h)
def p2j:LDt→TD
 |[.l TI l0]=>
  (let r1:OD:=(z0o [.k 0,.l TI l0,.l TI l0,.n (↑(List.length l0):Int),.n (0:Int)]);
   (.node (isK 0 [] r1)
   (.leaf ((0,[.b false])))
   (.node (isK 1 [HK.b] r1)
    (.leaf ((0,[.b (gb (dOf r1) 0)])))
    (.bad 351))))
 |_=>.bad 0
theorem k2v (l0:DI):Imp (p2j [.l TI l0]) (i3k [.l TI l0]):=
(.nd (fun h0=>
(.pa [1]
.lf)) (fun h0=>
(.nd (fun h1=>
(.pa [1]
.lf)) (fun h1=>
.none))))
def f1n:FuncId→Option a0f:=a0k 112 B34 i3z
theorem g0h:CsOk Try.prog f1n:=a0h i1j B34_ok
def k1l (f:OpT):MBox:=mkM 2 [] [(sh 17 [(1,fnV 130 [.ptr 0 0,.ptr 1 0]),(7,.imm TNd 0),(8,.int .i64 1),(9,.int .i64 2)],[.cells [fnV 115 []],.cells [.int .i64 3,.bool 4]])] [] [(.exit 0,sh 17 [],[.gone,.gone]),(.ret,sh 17 [(4,.bool 0)],[.gone,.gone])] f
def j0n (env:LDt):Tree Step:=Lk.stepMC false LK f1n 129 2 ls0 (k1l fun _=>none) env
def s0j:OpT:=Classical.choose (opq (a0b j0n FU))
theorem x0s (env:LDt):s0j env=a0b j0n FU env:=Classical.choose_spec (opq (a0b j0n FU)) env
def f2r:MBox:=k1l s0j
theorem m2f:f2r=k1l (a0b j0n FU):=congrArg k1l (funext x0s)
theorem k2e: ∀t s x,(a0l f2r t s).sel=some x→a0r Try.prog 2 (.loop (cAt Try.prog 129 2)) t s x:=by
 rw[m2f]
 exact b0a (st:=j0n) (m:=FU) g0h hmix false (LsOk.none _ _ _) (by kernel_rfl) (fun env y h=>by rw[←stepMC_lk];exact h)
def m0l:LDt→Tree Step
 |[.l TNd l0,.n n1,.n n2,.n n3,.b b4]=>
  (.node (decide (n2<n1))
   (.node (Prod.fst (List.getD l0 (Int.toNat n2) (Ty.dflt TNd))==n3)
   (.leaf (Step.stop 1 [.b true]))
   (.leaf (Step.go [.k 0,.l TNd l0,.n n1,.n (IntKind.wrap .i64 (n2+(1:Int))),.n n3,.b b4])))
   (.leaf (Step.stop 0 [])))
 |_=>.bad 0
theorem i0j (l0:DD)(n1:Int)(n2:Int)(n3:Int)(b4:Bool)(g0:0≤n2)(g1:n1=(l0.length:Int)):Imp (m0l [.l TNd l0,.n n1,.n n2,.n n3,.b b4]) (j0n [.k 0,.l TNd l0,.n n1,.n n2,.n n3,.b b4]):=
(.pa [1]
(.nd (fun h0=>
(.pq (c:=(inR n2 (List.length l0)))
(.pa [1,1,1,1,1,1,1]
(.nd (fun h1=>
(.pa [1]
.lf)) (fun h1=>
(.pa [1]
.lf)))))) (fun h0=>
(.pa [1]
.lf))))
theorem v2d:LsOk Try.prog (List.length ([.cells [fnV 115 []],.cells [.int .i64 1,.bool 2]]:List PB)) (lsM [(2,f2r)] (List.length ([.cells [fnV 115 []],.cells [.int .i64 1,.bool 2]]:List PB))) (a0u Try.prog 129):=LsOk.many fun j B hB hk c hc hi=>by
 simp only[c0f]at hB
 split at hB
 ·rename_i e;have:=Nat.eq_of_beq_eq_true e;subst this;cases hB
  rw[b0u (f:=129) (i:=2) (a0e (by kernel_rfl)) (a0c hc hi)];exact k2e
 cases hB
def k54a (f:OpT):FBox:=mkF [.imm TNd 0,fnV 130 [.ptr 0 0,.ptr 1 0]] [.cells [fnV 115 []],.cells [.int .i64 1,.bool 2]] [] [(.bool 0,[.gone,.gone])] f
def c2u (env:LDt):TD:=Lk.boxC false LK f1n 129 (lsM [(2,f2r)] (List.length ([.cells [fnV 115 []],.cells [.int .i64 1,.bool 2]]:List PB))) (k54a fun _=>none) env
def o1o:OpT:=Classical.choose (opq (fun env=>(c2u env).sel))
theorem p1f (env:LDt):o1o env=(c2u env).sel:=Classical.choose_spec (opq (fun env=>(c2u env).sel)) env
def B54a:FBox:=k54a o1o
theorem B54a_ok:a0x Try.prog 129 (a0i B54a):=b0c (op:=o1o) g0h hmix false (v2d) (fun env x h=>by rw[p1f]at h;rw[←boxC_lk];exact h)
def d2t:LDt→TD
 |[.l TNd l0,.n n1,.b b2]=>
  (let r1:OD:=(s0j [.k 0,.l TNd l0,.n (↑(List.length l0):Int),.n (0:Int),.n n1,.b b2]);
   (.node (isK 0 [] r1)
   (.leaf ((0,[.b false])))
   (.node (isK 1 [HK.b] r1)
    (.leaf ((0,[.b (gb (dOf r1) 0)])))
    (.bad 351))))
 |_=>.bad 0
theorem z1a (l0:DD)(n1:Int)(b2:Bool):Imp (d2t [.l TNd l0,.n n1,.b b2]) (c2u [.l TNd l0,.n n1,.b b2]):=
(.nd (fun h0=>
(.pa [1]
.lf)) (fun h0=>
(.nd (fun h1=>
(.pa [1]
.lf)) (fun h1=>
.none))))
def j1p (f:OpT):MBox:=mkM 2 [] [(sh 17 [(1,fnV 131 [.ptr 0 0,.ptr 1 0]),(7,.imm TNd 0),(8,.int .i64 1),(9,.int .i64 2)],[.cells [.imm TI 3],laB 4])] [] [(.exit 0,sh 17 [],[.gone,.gone]),(.ret,sh 17 [(4,.bool 0)],[.gone,.gone])] f
def j0c (env:LDt):Tree Step:=Lk.stepMC false LK f1n 129 2 ls0 (j1p fun _=>none) env
def u0u:OpT:=Classical.choose (opq (a0b j0c FU))
theorem y0b (env:LDt):u0u env=a0b j0c FU env:=Classical.choose_spec (opq (a0b j0c FU)) env
def h2t:MBox:=j1p u0u
theorem k2l:h2t=j1p (a0b j0c FU):=congrArg j1p (funext y0b)
theorem k2h: ∀t s x,(a0l h2t t s).sel=some x→a0r Try.prog 2 (.loop (cAt Try.prog 129 2)) t s x:=by
 rw[k2l]
 exact b0a (st:=j0c) (m:=FU) g0h hmix false (LsOk.none _ _ _) (by kernel_rfl) (fun env y h=>by rw[←stepMC_lk];exact h)
def l0k:LDt→Tree Step
 |[.l TNd l0,.n n1,.n n2,.l TI l3,.l TS l4,.l TPt l5,.l TPt l6,.l TRt l7]=>
  (.node (decide (n2<n1))
   (.node (inR (Prod.fst (List.getD l0 (Int.toNat n2) (Ty.dflt TNd))) (List.length l5))
   (let r1:OD:=(q1t [.l TI l3,.n (Prod.snd (List.getD l5 (Int.toNat (Prod.fst (List.getD l0 (Int.toNat n2) (Ty.dflt TNd)))) (Ty.dflt TPt)))]);
    (.node (isK 0 [HK.b] r1)
    (.node (!gb (dOf r1) 0)
     (.leaf (Step.stop 1 [.b true]))
     (.leaf (Step.go [.k 0,.l TNd l0,.n n1,.n (IntKind.wrap .i64 (n2+(1:Int))),.l TI l3,.l TS l4,.l TPt l5,.l TPt l6,.l TRt l7])))
    (.bad 351)))
   (.bad 10))
   (.leaf (Step.stop 0 [])))
 |_=>.bad 0
theorem i0o (l0:DD)(n1:Int)(n2:Int)(l3:DI)(l4:DS)(l5:DP)(l6:DP)(l7:DR)(g0:0≤n2)(g1:n1=(l0.length:Int)):Imp (l0k [.l TNd l0,.n n1,.n n2,.l TI l3,.l TS l4,.l TPt l5,.l TPt l6,.l TRt l7]) (j0c [.k 0,.l TNd l0,.n n1,.n n2,.l TI l3,.l TS l4,.l TPt l5,.l TPt l6,.l TRt l7]):=
(.pa [1]
(.nd (fun h0=>
(.pq (c:=(inR n2 (List.length l0)))
(.pa [1]
(.nd (fun h1=>
(.nd (fun h2=>
(.pa [1,1,1]
(.nd (fun h3=>
(.pa [1]
.lf)) (fun h3=>
(.pa [1]
.lf))))) (fun h2=>
.none))) (fun h1=>
.none))))) (fun h0=>
(.pa [1]
.lf))))
theorem z2m:LsOk Try.prog (List.length ([.cells [.imm TI 1],laB 2]:List PB)) (lsM [(2,h2t)] (List.length ([.cells [.imm TI 1],laB 2]:List PB))) (a0u Try.prog 129):=LsOk.many fun j B hB hk c hc hi=>by
 simp only[c0f]at hB
 split at hB
 ·rename_i e;have:=Nat.eq_of_beq_eq_true e;subst this;cases hB
  rw[b0u (f:=129) (i:=2) (a0e (by kernel_rfl)) (a0c hc hi)];exact k2h
 cases hB
def k54b (f:OpT):FBox:=mkF [.imm TNd 0,fnV 131 [.ptr 0 0,.ptr 1 0]] [.cells [.imm TI 1],laB 2] [] [(.bool 0,[.gone,.gone])] f
def b2m (env:LDt):TD:=Lk.boxC false LK f1n 129 (lsM [(2,h2t)] (List.length ([.cells [.imm TI 1],laB 2]:List PB))) (k54b fun _=>none) env
def t1w:OpT:=Classical.choose (opq (fun env=>(b2m env).sel))
theorem p1u (env:LDt):t1w env=(b2m env).sel:=Classical.choose_spec (opq (fun env=>(b2m env).sel)) env
def B54b:FBox:=k54b t1w
theorem B54b_ok:a0x Try.prog 129 (a0i B54b):=b0c (op:=t1w) g0h hmix false (z2m) (fun env x h=>by rw[p1u]at h;rw[←boxC_lk];exact h)
def b2q:LDt→TD
 |[.l TNd l0,.l TI l1,.l TS l2,.l TPt l3,.l TPt l4,.l TRt l5]=>
  (let r1:OD:=(u0u [.k 0,.l TNd l0,.n (↑(List.length l0):Int),.n (0:Int),.l TI l1,.l TS l2,.l TPt l3,.l TPt l4,.l TRt l5]);
   (.node (isK 0 [] r1)
   (.leaf ((0,[.b false])))
   (.node (isK 1 [HK.b] r1)
    (.leaf ((0,[.b (gb (dOf r1) 0)])))
    (.bad 351))))
 |_=>.bad 0
theorem y1l (l0:DD)(l1:DI)(l2:DS)(l3:DP)(l4:DP)(l5:DR):Imp (b2q [.l TNd l0,.l TI l1,.l TS l2,.l TPt l3,.l TPt l4,.l TRt l5]) (b2m [.l TNd l0,.l TI l1,.l TS l2,.l TPt l3,.l TPt l4,.l TRt l5]):=
(.nd (fun h0=>
(.pa [1]
.lf)) (fun h0=>
(.nd (fun h1=>
(.pa [1]
.lf)) (fun h1=>
.none))))
def n1j (f:OpT):MBox:=mkM 3 [] [(sh 17 [(1,fnV 132 [.ptr 0 0]),(7,.imm TNd 0),(8,.int .i64 1),(9,.int .i64 2)],[.cells [fnV 131 [.ptr 1 0,.ptr 2 0]],.cells [.imm TI 3],laB 4])] [] [(.exit 0,sh 17 [],[.gone,.gone,.gone]),(.ret,sh 17 [(4,.bool 0)],[.gone,.gone,.gone])] f
def j0j (env:LDt):Tree Step:=Lk.stepMC false LK f1n 129 2 ls0 (n1j fun _=>none) env
def s0t:OpT:=Classical.choose (opq (a0b j0j FU))
theorem y0e (env:LDt):s0t env=a0b j0j FU env:=Classical.choose_spec (opq (a0b j0j FU)) env
def h2z:MBox:=n1j s0t
theorem m2p:h2z=n1j (a0b j0j FU):=congrArg n1j (funext y0e)
theorem o2e: ∀t s x,(a0l h2z t s).sel=some x→a0r Try.prog 3 (.loop (cAt Try.prog 129 2)) t s x:=by
 rw[m2p]
 exact b0a (st:=j0j) (m:=FU) g0h hmix false (LsOk.none _ _ _) (by kernel_rfl) (fun env y h=>by rw[←stepMC_lk];exact h)
def k0q:LDt→Tree Step
 |[.l TNd l0,.n n1,.n n2,.l TI l3,.l TS l4,.l TPt l5,.l TPt l6,.l TRt l7]=>
  (.node (decide (n2<n1))
   (.node (inR (Prod.fst (List.getD l0 (Int.toNat n2) (Ty.dflt TNd))) (List.length l5))
   (let r1:OD:=(q1t [.l TI l3,.n (Prod.snd (List.getD l5 (Int.toNat (Prod.fst (List.getD l0 (Int.toNat n2) (Ty.dflt TNd)))) (Ty.dflt TPt)))]);
    (.node (isK 0 [HK.b] r1)
    (.node (!!gb (dOf r1) 0)
     (.leaf (Step.stop 1 [.b true]))
     (.leaf (Step.go [.k 0,.l TNd l0,.n n1,.n (IntKind.wrap .i64 (n2+(1:Int))),.l TI l3,.l TS l4,.l TPt l5,.l TPt l6,.l TRt l7])))
    (.bad 351)))
   (.bad 10))
   (.leaf (Step.stop 0 [])))
 |_=>.bad 0
theorem i0p (l0:DD)(n1:Int)(n2:Int)(l3:DI)(l4:DS)(l5:DP)(l6:DP)(l7:DR)(g0:0≤n2)(g1:n1=(l0.length:Int)):Imp (k0q [.l TNd l0,.n n1,.n n2,.l TI l3,.l TS l4,.l TPt l5,.l TPt l6,.l TRt l7]) (j0j [.k 0,.l TNd l0,.n n1,.n n2,.l TI l3,.l TS l4,.l TPt l5,.l TPt l6,.l TRt l7]):=
(.pa [1]
(.nd (fun h0=>
(.pq (c:=(inR n2 (List.length l0)))
(.pa [1,1]
(.nd (fun h1=>
(.nd (fun h2=>
(.pa [1,1,1,1]
(.nd (fun h3=>
(.pa [1]
.lf)) (fun h3=>
(.pa [1]
.lf))))) (fun h2=>
.none))) (fun h1=>
.none))))) (fun h0=>
(.pa [1]
.lf))))
theorem x2q:LsOk Try.prog (List.length ([.cells [fnV 131 [.ptr 1 0,.ptr 2 0]],.cells [.imm TI 1],laB 2]:List PB)) (lsM [(2,h2z)] (List.length ([.cells [fnV 131 [.ptr 1 0,.ptr 2 0]],.cells [.imm TI 1],laB 2]:List PB))) (a0u Try.prog 129):=LsOk.many fun j B hB hk c hc hi=>by
 simp only[c0f]at hB
 split at hB
 ·rename_i e;have:=Nat.eq_of_beq_eq_true e;subst this;cases hB
  rw[b0u (f:=129) (i:=2) (a0e (by kernel_rfl)) (a0c hc hi)];exact o2e
 cases hB
def k54c (f:OpT):FBox:=mkF [.imm TNd 0,fnV 132 [.ptr 0 0]] [.cells [fnV 131 [.ptr 1 0,.ptr 2 0]],.cells [.imm TI 1],laB 2] [] [(.bool 0,[.gone,.gone,.gone])] f
def e2r (env:LDt):TD:=Lk.boxC false LK f1n 129 (lsM [(2,h2z)] (List.length ([.cells [fnV 131 [.ptr 1 0,.ptr 2 0]],.cells [.imm TI 1],laB 2]:List PB))) (k54c fun _=>none) env
def q1w:OpT:=Classical.choose (opq (fun env=>(e2r env).sel))
theorem q1m (env:LDt):q1w env=(e2r env).sel:=Classical.choose_spec (opq (fun env=>(e2r env).sel)) env
def B54c:FBox:=k54c q1w
theorem B54c_ok:a0x Try.prog 129 (a0i B54c):=b0c (op:=q1w) g0h hmix false (x2q) (fun env x h=>by rw[q1m]at h;rw[←boxC_lk];exact h)
def b2r:LDt→TD
 |[.l TNd l0,.l TI l1,.l TS l2,.l TPt l3,.l TPt l4,.l TRt l5]=>
  (let r1:OD:=(s0t [.k 0,.l TNd l0,.n (↑(List.length l0):Int),.n (0:Int),.l TI l1,.l TS l2,.l TPt l3,.l TPt l4,.l TRt l5]);
   (.node (isK 0 [] r1)
   (.leaf ((0,[.b false])))
   (.node (isK 1 [HK.b] r1)
    (.leaf ((0,[.b (gb (dOf r1) 0)])))
    (.bad 351))))
 |_=>.bad 0
theorem b2d (l0:DD)(l1:DI)(l2:DS)(l3:DP)(l4:DP)(l5:DR):Imp (b2r [.l TNd l0,.l TI l1,.l TS l2,.l TPt l3,.l TPt l4,.l TRt l5]) (e2r [.l TNd l0,.l TI l1,.l TS l2,.l TPt l3,.l TPt l4,.l TRt l5]):=
(.nd (fun h0=>
(.pa [1]
.lf)) (fun h0=>
(.nd (fun h1=>
(.pa [1]
.lf)) (fun h1=>
.none))))
def i1o (f:OpT):MBox:=mkM 1 [] [(sh 17 [(1,fnV 133 [.ptr 0 0]),(7,.imm TNd 0),(8,.int .i64 1),(9,.int .i64 2)],[.cells [.int .i64 3]])] [] [(.exit 0,sh 17 [],[.gone]),(.ret,sh 17 [(4,.bool 0)],[.gone])] f
def j0l (env:LDt):Tree Step:=Lk.stepMC false LK f1n 129 2 ls0 (i1o fun _=>none) env
def t0u:OpT:=Classical.choose (opq (a0b j0l FU))
theorem x0h (env:LDt):t0u env=a0b j0l FU env:=Classical.choose_spec (opq (a0b j0l FU)) env
def f2y:MBox:=i1o t0u
theorem o2j:f2y=i1o (a0b j0l FU):=congrArg i1o (funext x0h)
theorem l2o: ∀t s x,(a0l f2y t s).sel=some x→a0r Try.prog 1 (.loop (cAt Try.prog 129 2)) t s x:=by
 rw[o2j]
 exact b0a (st:=j0l) (m:=FU) g0h hmix false (LsOk.none _ _ _) (by kernel_rfl) (fun env y h=>by rw[←stepMC_lk];exact h)
def k0o:LDt→Tree Step
 |[.l TNd l0,.n n1,.n n2,.n n3]=>
  (.node (decide (n2<n1))
   (.node (Prod.fst (List.getD l0 (Int.toNat n2) (Ty.dflt TNd))==n3)
   (.leaf (Step.stop 1 [.b true]))
   (.leaf (Step.go [.k 0,.l TNd l0,.n n1,.n (IntKind.wrap .i64 (n2+(1:Int))),.n n3])))
   (.leaf (Step.stop 0 [])))
 |_=>.bad 0
theorem i0d (l0:DD)(n1:Int)(n2:Int)(n3:Int)(g0:0≤n2)(g1:n1=(l0.length:Int)):Imp (k0o [.l TNd l0,.n n1,.n n2,.n n3]) (j0l [.k 0,.l TNd l0,.n n1,.n n2,.n n3]):=
(.pa [1]
(.nd (fun h0=>
(.pq (c:=(inR n2 (List.length l0)))
(.pa [1,1]
(.nd (fun h1=>
(.pa [1]
.lf)) (fun h1=>
(.pa [1]
.lf)))))) (fun h0=>
(.pa [1]
.lf))))
theorem p2p:LsOk Try.prog (List.length ([.cells [.int .i64 1]]:List PB)) (lsM [(2,f2y)] (List.length ([.cells [.int .i64 1]]:List PB))) (a0u Try.prog 129):=LsOk.many fun j B hB hk c hc hi=>by
 simp only[c0f]at hB
 split at hB
 ·rename_i e;have:=Nat.eq_of_beq_eq_true e;subst this;cases hB
  rw[b0u (f:=129) (i:=2) (a0e (by kernel_rfl)) (a0c hc hi)];exact l2o
 cases hB
def k54d (f:OpT):FBox:=mkF [.imm TNd 0,fnV 133 [.ptr 0 0]] [.cells [.int .i64 1]] [] [(.bool 0,[.gone])] f
def h2k (env:LDt):TD:=Lk.boxC false LK f1n 129 (lsM [(2,f2y)] (List.length ([.cells [.int .i64 1]]:List PB))) (k54d fun _=>none) env
def t1q:OpT:=Classical.choose (opq (fun env=>(h2k env).sel))
theorem o1l (env:LDt):t1q env=(h2k env).sel:=Classical.choose_spec (opq (fun env=>(h2k env).sel)) env
def B54d:FBox:=k54d t1q
theorem B54d_ok:a0x Try.prog 129 (a0i B54d):=b0c (op:=t1q) g0h hmix false (p2p) (fun env x h=>by rw[o1l]at h;rw[←boxC_lk];exact h)
def f2n:LDt→TD
 |[.l TNd l0,.n n1]=>
  (let r1:OD:=(t0u [.k 0,.l TNd l0,.n (↑(List.length l0):Int),.n (0:Int),.n n1]);
   (.node (isK 0 [] r1)
   (.leaf ((0,[.b false])))
   (.node (isK 1 [HK.b] r1)
    (.leaf ((0,[.b (gb (dOf r1) 0)])))
    (.bad 351))))
 |_=>.bad 0
theorem y1w (l0:DD)(n1:Int):Imp (f2n [.l TNd l0,.n n1]) (h2k [.l TNd l0,.n n1]):=
(.nd (fun h0=>
(.pa [1]
.lf)) (fun h0=>
(.nd (fun h1=>
(.pa [1]
.lf)) (fun h1=>
.none))))
def h2y:FuncId→Option a0f:=d0e 129 [B54a,B54b,B54c,B54d] f1n
theorem f1i:CsOk Try.prog h2y:=f0z g0h fun B hB=>by
 simp only[List.mem_cons,List.not_mem_nil,or_false]at hB
 rcases hB with rfl|rfl|rfl|rfl
 ·exact B54a_ok
 ·exact B54b_ok
 ·exact B54c_ok
 ·exact B54d_ok
def f2x (f:OpT):MBox:=mkM 0 [] [(sh 20 [(0,.imm TNd 0),(3,.ptr 0 0),(7,.imm TNd 1),(8,.int .i64 2),(9,.int .i64 3)],[.cells [fnV 115 []]])] [] [(.exit 0,sh 20 [],[]),(.ret,sh 20 [(4,.bool 0)],[])] f
def p0d (env:LDt):Tree Step:=Lk.stepMC false LK h2y 114 2 ls0 (f2x fun _=>none) env
def z0s:OpT:=Classical.choose (opq (a0b p0d FU))
theorem b1z (env:LDt):z0s env=a0b p0d FU env:=Classical.choose_spec (opq (a0b p0d FU)) env
def f3z:MBox:=f2x z0s
theorem u2c:f3z=f2x (a0b p0d FU):=congrArg f2x (funext b1z)
theorem b3o: ∀t s x,(a0l f3z t s).sel=some x→a0r Try.prog 0 (.loop (cAt Try.prog 114 2)) t s x:=by
 rw[u2c]
 exact b0a (st:=p0d) (m:=FU) f1i hmix false (LsOk.none _ _ _) (by kernel_rfl) (fun env y h=>by rw[←stepMC_lk];exact h)
def p0u:LDt→Tree Step
 |[.l TNd l0,.n n1,.n n2]=>
  (.node (decide (n2<n1))
   (let r1:OD:=(o1o [.l TNd (List.take (Int.toNat n2) l0),.n (Prod.fst (List.getD l0 (Int.toNat n2) (Ty.dflt TNd))),.b (Prod.snd (List.getD l0 (Int.toNat n2) (Ty.dflt TNd)))]);
   (.node (isK 0 [HK.b] r1)
    (.node (gb (dOf r1) 0)
    (.leaf (Step.stop 1 [.b true]))
    (.leaf (Step.go [.k 0,.l TNd l0,.l TNd l0,.n n1,.n (IntKind.wrap .i64 (n2+(1:Int)))])))
    (.bad 351)))
   (.leaf (Step.stop 0 [])))
 |_=>.bad 0
theorem l0m (l0:DD)(n1:Int)(n2:Int)(g0:0≤n2)(g1:n1=(l0.length:Int)):Imp (p0u [.l TNd l0,.n n1,.n n2]) (p0d [.k 0,.l TNd l0,.l TNd l0,.n n1,.n n2]):=
(.pa [1]
(.nd (fun h0=>
(.pq (c:=(inR n2 (List.length l0)))
(.pq (c:=(decide ((0:Int)≤n2)&&decide (n2≤(↑(List.length l0):Int))))
(.pt (c:=(true&&decide ((0:Int)≤n2))) (by kernel_rfl) (by kernel_rfl) (by(simp[*];done))
(.pa [1]
(.nd (fun h1=>
(.pa [1]
(.nd (fun h2=>
(.pa [1]
.lf)) (fun h2=>
(.pa [1]
.lf))))) (fun h1=>
.none))))))) (fun h0=>
(.pa [1]
.lf))))
theorem j3w:LsOk Try.prog (z0) (lsM [(2,f3z)] (z0)) (a0u Try.prog 114):=LsOk.many fun j B hB hk c hc hi=>by
 simp only[c0f]at hB
 split at hB
 ·rename_i e;have:=Nat.eq_of_beq_eq_true e;subst this;cases hB
  rw[b0u (f:=114) (i:=2) (a0e (by kernel_rfl)) (a0c hc hi)];exact b3o
 cases hB
def k36 (f:OpT):FBox:=mkF [.imm TNd 0,fnV 115 []] [] [] [(.bool 0,[])] f
def f3f (env:LDt):TD:=Lk.boxC false LK h2y 114 (lsM [(2,f3z)] (z0)) (k36 fun _=>none) env
def q2m:OpT:=Classical.choose (opq (fun env=>(f3f env).sel))
theorem d2b (env:LDt):q2m env=(f3f env).sel:=Classical.choose_spec (opq (fun env=>(f3f env).sel)) env
def B36:FBox:=k36 q2m
theorem B36_ok:a0x Try.prog 114 (a0i B36):=b0c (op:=q2m) f1i hmix false (j3w) (fun env x h=>by rw[d2b]at h;rw[←boxC_lk];exact h)
def x2j:LDt→TD
 |[.l TNd l0]=>
  (let r1:OD:=(z0s [.k 0,.l TNd l0,.l TNd l0,.n (↑(List.length l0):Int),.n (0:Int)]);
   (.node (isK 0 [] r1)
   (.leaf ((0,[.b false])))
   (.node (isK 1 [HK.b] r1)
    (.leaf ((0,[.b (gb (dOf r1) 0)])))
    (.bad 351))))
 |_=>.bad 0
theorem m2s (l0:DD):Imp (x2j [.l TNd l0]) (f3f [.l TNd l0]):=
(.nd (fun h0=>
(.pa [1]
.lf)) (fun h0=>
(.nd (fun h1=>
(.pa [1]
.lf)) (fun h1=>
.none))))
def cs_36:FuncId→Option a0f:=a0k 114 B36 h2y
theorem b2v:CsOk Try.prog cs_36:=a0h f1i B36_ok
def k38 (f:OpT):FBox:=mkF [laV 0,rtV 4,.imm TI 10] [] [] [(.bool 0,[])] f
def g3b (env:LDt):TD:=Lk.boxC false LK cs_36 116 ls0 (k38 fun _=>none) env
def e3c:OpT:=Classical.choose (opq (fun env=>(g3b env).sel))
theorem f2q (env:LDt):e3c env=(g3b env).sel:=Classical.choose_spec (opq (fun env=>(g3b env).sel)) env
def B38:FBox:=k38 e3c
theorem B38_ok:a0x Try.prog 116 (a0i B38):=b0c (op:=e3c) b2v hmix false (LsOk.none _ _ _) (fun env x h=>by rw[f2q]at h;rw[←boxC_lk];exact h)
def c3i:LDt→TD
 |[.l TS l0,.l TPt l1,.l TPt l2,.l TRt l3,.s s4,.n n5,.l TI l6,.l TNd l7,.l TI l8,.l TNd l9,.l TI l10]=>
  (let r1:OD:=(t1w [.l TNd l7,.l TI l10,.l TS l0,.l TPt l1,.l TPt l2,.l TRt l3]);
   (.node (isK 0 [HK.b] r1)
   (.node (!gb (dOf r1) 0)
    (let r2:OD:=(q1w [.l TNd l9,.l TI l10,.l TS l0,.l TPt l1,.l TPt l2,.l TRt l3]);
    (.node (isK 0 [HK.b] r2)
     (.leaf ((0,[.b !gb (dOf r2) 0])))
     (.bad 351)))
    (.leaf ((0,[.b false]))))
   (.bad 351)))
 |_=>.bad 0
theorem k2x (l0:DS)(l1:DP)(l2:DP)(l3:DR)(s4:ByteArray)(n5:Int)(l6:DI)(l7:DD)(l8:DI)(l9:DD)(l10:DI):Imp (c3i [.l TS l0,.l TPt l1,.l TPt l2,.l TRt l3,.s s4,.n n5,.l TI l6,.l TNd l7,.l TI l8,.l TNd l9,.l TI l10]) (g3b [.l TS l0,.l TPt l1,.l TPt l2,.l TRt l3,.s s4,.n n5,.l TI l6,.l TNd l7,.l TI l8,.l TNd l9,.l TI l10]):=
(.pa [1]
(.nd (fun h0=>
(.pa [1]
(.nd (fun h1=>
(.pa [1]
(.nd (fun h2=>
(.pa [1,1]
.lf)) (fun h2=>
.none)))) (fun h1=>
(.pa [0,1]
.lf))))) (fun h0=>
.none)))
def k3m:FuncId→Option a0f:=a0k 116 B38 cs_36
theorem k1u:CsOk Try.prog k3m:=a0h b2v B38_ok
def i2y (f:OpT):MBox:=mkM 0 [] [(sh 29 [(2,.imm TI 0),(4,.ptr 0 0),(10,.imm TPt 1),(11,.int .i64 2),(12,.int .i64 3)],[rtB 4])] [] [(.exit 0,sh 29 [],[]),(.ret,sh 29 [(6,.bool 0)],[])] f
def p0f (env:LDt):Tree Step:=Lk.stepMC false LK k3m 117 2 ls0 (i2y fun _=>none) env
def z0h:OpT:=Classical.choose (opq (a0b p0f FU))
theorem b1e (env:LDt):z0h env=a0b p0f FU env:=Classical.choose_spec (opq (a0b p0f FU)) env
def m3s:MBox:=i2y z0h
theorem a3t:m3s=i2y (a0b p0f FU):=congrArg i2y (funext b1e)
theorem p2w: ∀t s x,(a0l m3s t s).sel=some x→a0r Try.prog 0 (.loop (cAt Try.prog 117 2)) t s x:=by
 rw[a3t]
 exact b0a (st:=p0f) (m:=FU) k1u hmix false (LsOk.none _ _ _) (by kernel_rfl) (fun env y h=>by rw[←stepMC_lk];exact h)
def o0d:LDt→Tree Step
 |[.l TI l0,.l TPt l1,.n n2,.n n3,.s s4,.n n5,.l TI l6,.l TNd l7,.l TI l8,.l TNd l9]=>
  (.node (decide (n3<n2))
   (let r1:OD:=(q1t [.l TI l0,.n (Prod.snd (List.getD l1 (Int.toNat n3) (Ty.dflt TPt)))]);
   (.node (isK 0 [HK.b] r1)
    (.node (gb (dOf r1) 0)
    (let r2:OD:=(t1q [.l TNd l7,.n n3]);
     (.node (isK 0 [HK.b] r2)
     (.node (!gb (dOf r2) 0)
      (.leaf (Step.stop 1 [.b false]))
      (.leaf (Step.go [.k 0,.l TI l0,.l TPt l1,.n n2,.n (IntKind.wrap .i64 (n3+(1:Int))),.s s4,.n n5,.l TI l6,.l TNd l7,.l TI l8,.l TNd l9])))
     (.bad 351)))
    (.leaf (Step.go [.k 0,.l TI l0,.l TPt l1,.n n2,.n (IntKind.wrap .i64 (n3+(1:Int))),.s s4,.n n5,.l TI l6,.l TNd l7,.l TI l8,.l TNd l9])))
    (.bad 351)))
   (.leaf (Step.stop 0 [])))
 |_=>.bad 0
theorem m0e (l0:DI)(l1:DP)(n2:Int)(n3:Int)(s4:ByteArray)(n5:Int)(l6:DI)(l7:DD)(l8:DI)(l9:DD)(g0:0≤n3)(g1:n2=(l1.length:Int)):Imp (o0d [.l TI l0,.l TPt l1,.n n2,.n n3,.s s4,.n n5,.l TI l6,.l TNd l7,.l TI l8,.l TNd l9]) (p0f [.k 0,.l TI l0,.l TPt l1,.n n2,.n n3,.s s4,.n n5,.l TI l6,.l TNd l7,.l TI l8,.l TNd l9]):=
(.pa [1]
(.nd (fun h0=>
(.pq (c:=(inR n3 (List.length l1)))
(.nd (fun h1=>
(.pa [1]
(.nd (fun h2=>
(.pa [1]
(.nd (fun h3=>
(.pa [1]
(.nd (fun h4=>
(.pa [1]
.lf)) (fun h4=>
(.pa [1]
.lf))))) (fun h3=>
.none)))) (fun h2=>
(.pa [0,0,1]
.lf))))) (fun h1=>
.none)))) (fun h0=>
(.pa [1]
.lf))))
theorem m3q:LsOk Try.prog (z0) (lsM [(2,m3s)] (z0)) (a0u Try.prog 117):=LsOk.many fun j B hB hk c hc hi=>by
 simp only[c0f]at hB
 split at hB
 ·rename_i e;have:=Nat.eq_of_beq_eq_true e;subst this;cases hB
  rw[b0u (f:=117) (i:=2) (a0e (by kernel_rfl)) (a0c hc hi)];exact p2w
 cases hB
def g3r (env:LDt):TD:=Lk.boxC false LK k3m 117 (lsM [(2,m3s)] (z0)) (k38 fun _=>none) env
def w2q:OpT:=Classical.choose (opq (fun env=>(g3r env).sel))
theorem f2d (env:LDt):w2q env=(g3r env).sel:=Classical.choose_spec (opq (fun env=>(g3r env).sel)) env
def B39:FBox:=k38 w2q
theorem B39_ok:a0x Try.prog 117 (a0i B39):=b0c (op:=w2q) k1u hmix false (m3q) (fun env x h=>by rw[f2d]at h;rw[←boxC_lk];exact h)
def t2n:LDt→TD
 |[.l TS l0,.l TPt l1,.l TPt l2,.l TRt l3,.s s4,.n n5,.l TI l6,.l TNd l7,.l TI l8,.l TNd l9,.l TI l10]=>
  (let r1:OD:=(z0h [.k 0,.l TI l10,.l TPt l1,.n (↑(List.length l1):Int),.n (0:Int),.s s4,.n n5,.l TI l6,.l TNd l7,.l TI l8,.l TNd l9]);
   (.node (isK 0 [] r1)
   (.leaf ((0,[.b true])))
   (.node (isK 1 [HK.b] r1)
    (.leaf ((0,[.b (gb (dOf r1) 0)])))
    (.bad 351))))
 |_=>.bad 0
theorem k2m (l0:DS)(l1:DP)(l2:DP)(l3:DR)(s4:ByteArray)(n5:Int)(l6:DI)(l7:DD)(l8:DI)(l9:DD)(l10:DI):Imp (t2n [.l TS l0,.l TPt l1,.l TPt l2,.l TRt l3,.s s4,.n n5,.l TI l6,.l TNd l7,.l TI l8,.l TNd l9,.l TI l10]) (g3r [.l TS l0,.l TPt l1,.l TPt l2,.l TRt l3,.s s4,.n n5,.l TI l6,.l TNd l7,.l TI l8,.l TNd l9,.l TI l10]):=
(.nd (fun h0=>
(.pa [1]
.lf)) (fun h0=>
(.nd (fun h1=>
(.pa [1]
.lf)) (fun h1=>
.none))))
def cs_39:FuncId→Option a0f:=a0k 117 B39 k3m
theorem e2i:CsOk Try.prog cs_39:=a0h k1u B39_ok
def k27 (f:OpT):FBox:=mkF [laV 0,rtV 4] [] [] [(.bool 0,[])] f
def h3l (env:LDt):TD:=Lk.boxC false LK cs_39 96 ls0 (k27 fun _=>none) env
def a2j:OpT:=Classical.choose (opq (fun env=>(h3l env).sel))
theorem h2c (env:LDt):a2j env=(h3l env).sel:=Classical.choose_spec (opq (fun env=>(h3l env).sel)) env
def B27:FBox:=k27 a2j
theorem B27_ok:a0x Try.prog 96 (a0i B27):=b0c (op:=a2j) e2i hmix false (LsOk.none _ _ _) (fun env x h=>by rw[h2c]at h;rw[←boxC_lk];exact h)
def s2h:LDt→TD
 |[.l TS l0,.l TPt l1,.l TPt l2,.l TRt l3,.s s4,.n n5,.l TI l6,.l TNd l7,.l TI l8,.l TNd l9]=>
  (let r1:OD:=(op_9 [.s s4,.n n5,.l TI l6,.l TNd l7,.l TI l8,.l TNd l9]);
   (.node (isK 0 [HK.l TI] r1)
   (let r2:OD:=(l1f [.s s4,.n n5,.l TI l6,.l TNd l7,.l TI l8,.l TNd l9]);
    (.node (isK 0 [HK.l TNd] r2)
    (.node (decide ((↑(List.length l6):Int)>(0:Int)))
     (.node (inR n5 (List.length l2))
     (let r3:OD:=(q1t [.l TI (gl TI (dOf r1) 0),.n (Prod.snd (List.getD l2 (Int.toNat n5) (Ty.dflt TPt)))]);
      (.node (isK 0 [HK.b] r3)
      (.node (!gb (dOf r3) 0)
       (let r4:OD:=(w2b [.l TI (gl TI (dOf r1) 0)]);
       (.node (isK 0 [HK.b] r4)
        (.node (!gb (dOf r4) 0)
        (let r5:OD:=(q2m [.l TNd (gl TNd (dOf r2) 0)]);
         (.node (isK 0 [HK.b] r5)
         (.node (!gb (dOf r5) 0)
          (let r6:OD:=(e3c [.l TS l0,.l TPt l1,.l TPt l2,.l TRt l3,.s s4,.n n5,.l TI l6,.l TNd l7,.l TI l8,.l TNd l9,.l TI (gl TI (dOf r1) 0)]);
          (.node (isK 0 [HK.b] r6)
           (.node (gb (dOf r6) 0)
           (let r7:OD:=(w2q [.l TS l0,.l TPt l1,.l TPt l2,.l TRt l3,.s s4,.n n5,.l TI l6,.l TNd l7,.l TI l8,.l TNd l9,.l TI (gl TI (dOf r1) 0)]);
            (.node (isK 0 [HK.b] r7)
            (.leaf ((0,[.b (gb (dOf r7) 0)])))
            (.bad 351)))
           (.leaf ((0,[.b false]))))
           (.bad 351)))
          (.leaf ((0,[.b false]))))
         (.bad 351)))
        (.leaf ((0,[.b false]))))
        (.bad 351)))
       (.leaf ((0,[.b false]))))
      (.bad 351)))
     (.bad 10))
     (.leaf ((0,[.b false]))))
    (.bad 351)))
   (.bad 351)))
 |_=>.bad 0
theorem l2i (l0:DS)(l1:DP)(l2:DP)(l3:DR)(s4:ByteArray)(n5:Int)(l6:DI)(l7:DD)(l8:DI)(l9:DD):Imp (s2h [.l TS l0,.l TPt l1,.l TPt l2,.l TRt l3,.s s4,.n n5,.l TI l6,.l TNd l7,.l TI l8,.l TNd l9]) (h3l [.l TS l0,.l TPt l1,.l TPt l2,.l TRt l3,.s s4,.n n5,.l TI l6,.l TNd l7,.l TI l8,.l TNd l9]):=
(.nd (fun h0=>
(.pa [1]
(.nd (fun h1=>
(.pa [1,1]
(.nd (fun h2=>
(.nd (fun h3=>
(.nd (fun h4=>
(.pa [1]
(.nd (fun h5=>
(.nd (fun h6=>
(.pa [1]
(.nd (fun h7=>
(.nd (fun h8=>
(.pa [1]
(.nd (fun h9=>
(.nd (fun h10=>
(.pa [1]
(.nd (fun h11=>
(.nd (fun h12=>
(.pa [1,1]
.lf)) (fun h12=>
.none))) (fun h11=>
(.pa [0,1]
.lf))))) (fun h10=>
.none))) (fun h9=>
(.pa [0,0,0,1]
.lf))))) (fun h8=>
.none))) (fun h7=>
(.pa [0,0,0,0,0,1]
.lf))))) (fun h6=>
.none))) (fun h5=>
(.pa [0,0,0,0,0,0,0,1]
.lf))))) (fun h4=>
.none))) (fun h3=>
.none))) (fun h2=>
(.pa [0,0,0,0,0,0,0,0,0,1]
.lf))))) (fun h1=>
.none)))) (fun h0=>
.none))
def k3w:FuncId→Option a0f:=a0k 96 B27 cs_39
theorem i1e:CsOk Try.prog k3w:=a0h e2i B27_ok
def i2b (f:OpT):MBox:=mkM 0 [] [(sh 22 [(0,.imm TI 0),(1,.int .i64 1),(5,.int .i64 2),(6,.int .i64 3)],[])] [] [(.exit 0,sh 22 [(5,.int .i64 0)],[])] f
def k0u (env:LDt):Tree Step:=Lk.stepMC false LK k3w 70 3 ls0 (i2b fun _=>none) env
def y0q:OpT:=Classical.choose (opq (a0b k0u FU))
theorem f1g (env:LDt):y0q env=a0b k0u FU env:=Classical.choose_spec (opq (a0b k0u FU)) env
def f3j:MBox:=i2b y0q
theorem r2n:f3j=i2b (a0b k0u FU):=congrArg i2b (funext f1g)
theorem p2e: ∀t s x,(a0l f3j t s).sel=some x→a0r Try.prog 0 (.loop (cAt Try.prog 70 3)) t s x:=by
 rw[r2n]
 exact b0a (st:=k0u) (m:=FU) i1e hmix false (LsOk.none _ _ _) (by kernel_rfl) (fun env y h=>by rw[←stepMC_lk];exact h)
def w0d:LDt→Tree Step
 |[.l TI l0,.n n1,.n n2,.n n3]=>
  (.node (decide (n3<(↑(List.length l0):Int)))
   (.node ((List.getD l0 (Int.toNat n3) (0:Int):Int)==n1)
   (.leaf (Step.go [.k 0,.l TI l0,.n n1,.n (IntKind.wrap .i64 (n2+(1:Int))),.n (IntKind.wrap .i64 (n3+(1:Int)))]))
   (.leaf (Step.go [.k 0,.l TI l0,.n n1,.n n2,.n (IntKind.wrap .i64 (n3+(1:Int)))])))
   (.leaf (Step.stop 0 [.n n2])))
 |_=>.bad 0
theorem s0u (l0:DI)(n1:Int)(n2:Int)(n3:Int)(g0:0≤n3):Imp (w0d [.l TI l0,.n n1,.n n2,.n n3]) (k0u [.k 0,.l TI l0,.n n1,.n n2,.n n3]):=
(.pa [1]
(.nd (fun h0=>
(.pq (c:=(inR n3 (List.length l0)))
(.nd (fun h1=>
(.pa [1]
.lf)) (fun h1=>
(.pa [1]
.lf))))) (fun h0=>
(.pa [1]
.lf))))
theorem i3i:LsOk Try.prog (z0) (lsM [(3,f3j)] (z0)) (a0u Try.prog 70):=LsOk.many fun j B hB hk c hc hi=>by
 simp only[c0f]at hB
 split at hB
 ·rename_i e;have:=Nat.eq_of_beq_eq_true e;subst this;cases hB
  rw[b0u (f:=70) (i:=3) (a0e (by kernel_rfl)) (a0c hc hi)];exact p2e
 cases hB
def k47 (f:OpT):FBox:=mkF [.imm TI 0,.int .i64 1] [] [] [(.int .i64 0,[])] f
def k3r (env:LDt):TD:=Lk.boxC false LK k3w 70 (lsM [(3,f3j)] (z0)) (k47 fun _=>none) env
def f1v:OpT:=Classical.choose (opq (fun env=>(k3r env).sel))
theorem g2d (env:LDt):f1v env=(k3r env).sel:=Classical.choose_spec (opq (fun env=>(k3r env).sel)) env
def B47:FBox:=k47 f1v
theorem B47_ok:a0x Try.prog 70 (a0i B47):=b0c (op:=f1v) i1e hmix false (i3i) (fun env x h=>by rw[g2d]at h;rw[←boxC_lk];exact h)
def q2w:LDt→TD
 |[.l TI l0,.n n1]=>
  (let r1:OD:=(y0q [.k 0,.l TI l0,.n n1,.n (0:Int),.n (0:Int)]);
   (.node (isK 0 [HK.n] r1)
   (.leaf ((0,[.n (gn (dOf r1) 0)])))
   (.bad 351)))
 |_=>.bad 0
theorem n2l (l0:DI)(n1:Int):Imp (q2w [.l TI l0,.n n1]) (k3r [.l TI l0,.n n1]):=
(.nd (fun h0=>
(.pa [1]
.lf)) (fun h0=>
.none))
def m3r:FuncId→Option a0f:=a0k 70 B47 k3w
theorem m1h:CsOk Try.prog m3r:=a0h i1e B47_ok
def d2c (f:OpT):MBox:=mkM 0 [] [(sh 20 [(0,.imm TNd 0),(3,.own 0),(4,.int .i64 1)],[.arr TI 2])] [(3,TI)] [(.exit 0,sh 20 [(3,.own 0)],[.arr TI 0])] f
def l0h (env:LDt):Tree Step:=Lk.stepMC false LK m3r 69 3 ls0 (d2c fun _=>none) env
def z0y:OpT:=Classical.choose (opq (a0b l0h FU))
theorem b1o (env:LDt):z0y env=a0b l0h FU env:=Classical.choose_spec (opq (a0b l0h FU)) env
def m3z:MBox:=d2c z0y
theorem d3u:m3z=d2c (a0b l0h FU):=congrArg d2c (funext b1o)
theorem w2m: ∀t s x,(a0l m3z t s).sel=some x→a0r Try.prog 0 (.loop (cAt Try.prog 69 3)) t s x:=by
 rw[d3u]
 exact b0a (st:=l0h) (m:=FU) m1h hmix false (LsOk.none _ _ _) (by kernel_rfl) (fun env y h=>by rw[←stepMC_lk];exact h)
def w0g:LDt→Tree Step
 |[.l TNd l0,.n n1,.l TI l2]=>
  (.node (decide (n1<(↑(List.length l0):Int)))
   (.node (decide ((List.length l2+1)*8≤140737488355328))
   (.leaf (Step.go [.k 0,.l TNd l0,.n (IntKind.wrap .i64 (n1+(1:Int))),.l TI (l2++[Prod.fst (List.getD l0 (Int.toNat n1) (Ty.dflt TNd))])]))
   (.bad 62))
   (.leaf (Step.stop 0 [.l TI l2])))
 |_=>.bad 0
theorem t0x (l0:DD)(n1:Int)(l2:DI)(g0:0≤n1):Imp (w0g [.l TNd l0,.n n1,.l TI l2]) (l0h [.k 0,.l TNd l0,.n n1,.l TI l2]):=
(.pa [1]
(.nd (fun h0=>
(.pq (c:=(inR n1 (List.length l0)))
(.nd (fun h1=>
(.pa [1]
.lf)) (fun h1=>
.none)))) (fun h0=>
(.pa [1]
.lf))))
theorem f3g:LsOk Try.prog (z0) (lsM [(3,m3z)] (z0)) (a0u Try.prog 69):=LsOk.many fun j B hB hk c hc hi=>by
 simp only[c0f]at hB
 split at hB
 ·rename_i e;have:=Nat.eq_of_beq_eq_true e;subst this;cases hB
  rw[b0u (f:=69) (i:=3) (a0e (by kernel_rfl)) (a0c hc hi)];exact w2m
 cases hB
def k46 (f:OpT):FBox:=mkF [.imm TNd 0] [] [] [(.own 0,[.arr TI 0])] f
def j3n (env:LDt):TD:=Lk.boxC false LK m3r 69 (lsM [(3,m3z)] (z0)) (k46 fun _=>none) env
def x1e:OpT:=Classical.choose (opq (fun env=>(j3n env).sel))
theorem i2k (env:LDt):x1e env=(j3n env).sel:=Classical.choose_spec (opq (fun env=>(j3n env).sel)) env
def B46:FBox:=k46 x1e
theorem B46_ok:a0x Try.prog 69 (a0i B46):=b0c (op:=x1e) m1h hmix false (f3g) (fun env x h=>by rw[i2k]at h;rw[←boxC_lk];exact h)
def d3h:LDt→TD
 |[.l TNd l0]=>
  (let r1:OD:=(z0y [.k 0,.l TNd l0,.n (0:Int),.l TI []]);
   (.node (isK 0 [HK.l TI] r1)
   (.leaf ((0,[.l TI (gl TI (dOf r1) 0)])))
   (.bad 351)))
 |_=>.bad 0
theorem j2k (l0:DD):Imp (d3h [.l TNd l0]) (j3n [.l TNd l0]):=
(.nd (fun h0=>
(.pa [1]
.lf)) (fun h0=>
.none))
def n2m:FuncId→Option a0f:=a0k 69 B46 m3r
theorem u0q:CsOk Try.prog n2m:=a0h m1h B46_ok
def g2f (f:OpT):MBox:=mkM 0 [] [(sh 93 [(2,.ptr 0 0),(3,.ptr 1 0),(5,.own 2),(6,.own 3),(7,.int .i64 0)],[laB 1,rtB 5,.arr TI 11,.arr TI 12])] [] [(.exit 0,sh 93 [(2,.ptr 0 0),(3,.ptr 1 0),(5,.own 2),(6,.own 3)],[laB 0,rtB 4,.arr TI 10,.arr TI 11]),(.ret,sh 93 [(4,.bool 0)],[])] f
def o0p (env:LDt):Tree Step:=Lk.stepMC false LK n2m 33 6 ls0 (g2f fun _=>none) env
def z0w:OpT:=Classical.choose (opq (a0b o0p FU))
theorem b1p (env:LDt):z0w env=a0b o0p FU env:=Classical.choose_spec (opq (a0b o0p FU)) env
def i3j:MBox:=g2f z0w
theorem p2k:i3j=g2f (a0b o0p FU):=congrArg g2f (funext b1p)
theorem b3x: ∀t s x,(a0l i3j t s).sel=some x→a0r Try.prog 0 (.loop (cAt Try.prog 33 6)) t s x:=by
 rw[p2k]
 exact b0a (st:=o0p) (m:=FU) u0q hmix false (LsOk.none _ _ _) (by kernel_rfl) (fun env y h=>by rw[←stepMC_lk];exact h)
def p0i:LDt→Tree Step
 |[.n n0,.l TS l1,.l TPt l2,.l TPt l3,.l TRt l4,.s s5,.n n6,.l TI l7,.l TNd l8,.l TI l9,.l TNd l10,.l TI l11,.l TI l12]=>
  (.node (decide (n0<(↑(List.length l11):Int)))
   (let r1:OD:=(f1v [.l TI l11,.n (List.getD l11 (Int.toNat n0) (0:Int))]);
   (.node (isK 0 [HK.n] r1)
    (.node (decide (gn (dOf r1) 0>(1:Int)))
    (.leaf (Step.stop 1 [.b false]))
    (.leaf (Step.go [.k 0,.n (IntKind.wrap .i64 (n0+(1:Int))),.l TS l1,.l TPt l2,.l TPt l3,.l TRt l4,.s s5,.n n6,.l TI l7,.l TNd l8,.l TI l9,.l TNd l10,.l TI l11,.l TI l12])))
    (.bad 351)))
   (.leaf (Step.stop 0 [.l TS l1,.l TPt l2,.l TPt l3,.l TRt l4,.s s5,.n n6,.l TI l7,.l TNd l8,.l TI l9,.l TNd l10,.l TI l11,.l TI l12])))
 |_=>.bad 0
theorem l0l (n0:Int)(l1:DS)(l2:DP)(l3:DP)(l4:DR)(s5:ByteArray)(n6:Int)(l7:DI)(l8:DD)(l9:DI)(l10:DD)(l11:DI)(l12:DI)(g0:0≤n0):Imp (p0i [.n n0,.l TS l1,.l TPt l2,.l TPt l3,.l TRt l4,.s s5,.n n6,.l TI l7,.l TNd l8,.l TI l9,.l TNd l10,.l TI l11,.l TI l12]) (o0p [.k 0,.n n0,.l TS l1,.l TPt l2,.l TPt l3,.l TRt l4,.s s5,.n n6,.l TI l7,.l TNd l8,.l TI l9,.l TNd l10,.l TI l11,.l TI l12]):=
(.pa [1]
(.nd (fun h0=>
(.pq (c:=(inR n0 (List.length l11)))
(.nd (fun h1=>
(.pa [1]
(.nd (fun h2=>
(.pa [1]
.lf)) (fun h2=>
(.pa [1]
.lf))))) (fun h1=>
.none)))) (fun h0=>
(.pa [1]
.lf))))
def j1j (f:OpT):MBox:=mkM 0 [] [(sh 93 [(2,.ptr 0 0),(3,.ptr 1 0),(5,.own 2),(6,.own 3),(8,.int .i64 0)],[laB 1,rtB 5,.arr TI 11,.arr TI 12])] [] [(.exit 2,sh 93 [(2,.ptr 0 0),(3,.ptr 1 0),(5,.own 2)],[laB 0,rtB 4,.arr TI 10]),(.ret,sh 93 [(4,.bool 0)],[])] f
def j0w (env:LDt):Tree Step:=Lk.stepMC false LK n2m 33 11 ls0 (j1j fun _=>none) env
def u0i:OpT:=Classical.choose (opq (a0b j0w FU))
theorem x0u (env:LDt):u0i env=a0b j0w FU env:=Classical.choose_spec (opq (a0b j0w FU)) env
def c2y:MBox:=j1j u0i
theorem n2r:c2y=j1j (a0b j0w FU):=congrArg j1j (funext x0u)
theorem n2b: ∀t s x,(a0l c2y t s).sel=some x→a0r Try.prog 0 (.loop (cAt Try.prog 33 11)) t s x:=by
 rw[n2r]
 exact b0a (st:=j0w) (m:=FU) u0q hmix false (LsOk.none _ _ _) (by kernel_rfl) (fun env y h=>by rw[←stepMC_lk];exact h)
def l0t:LDt→Tree Step
 |[.n n0,.l TS l1,.l TPt l2,.l TPt l3,.l TRt l4,.s s5,.n n6,.l TI l7,.l TNd l8,.l TI l9,.l TNd l10,.l TI l11,.l TI l12]=>
  (.node (decide (n0<(↑(List.length l12):Int)))
   (let r1:OD:=(f1v [.l TI l12,.n (List.getD l12 (Int.toNat n0) (0:Int))]);
   (.node (isK 0 [HK.n] r1)
    (.node (decide (gn (dOf r1) 0>(1:Int)))
    (.leaf (Step.stop 1 [.b false]))
    (.leaf (Step.go [.k 0,.n (IntKind.wrap .i64 (n0+(1:Int))),.l TS l1,.l TPt l2,.l TPt l3,.l TRt l4,.s s5,.n n6,.l TI l7,.l TNd l8,.l TI l9,.l TNd l10,.l TI l11,.l TI l12])))
    (.bad 351)))
   (.leaf (Step.stop 0 [.l TS l1,.l TPt l2,.l TPt l3,.l TRt l4,.s s5,.n n6,.l TI l7,.l TNd l8,.l TI l9,.l TNd l10,.l TI l11])))
 |_=>.bad 0
theorem i0m (n0:Int)(l1:DS)(l2:DP)(l3:DP)(l4:DR)(s5:ByteArray)(n6:Int)(l7:DI)(l8:DD)(l9:DI)(l10:DD)(l11:DI)(l12:DI)(g0:0≤n0):Imp (l0t [.n n0,.l TS l1,.l TPt l2,.l TPt l3,.l TRt l4,.s s5,.n n6,.l TI l7,.l TNd l8,.l TI l9,.l TNd l10,.l TI l11,.l TI l12]) (j0w [.k 0,.n n0,.l TS l1,.l TPt l2,.l TPt l3,.l TRt l4,.s s5,.n n6,.l TI l7,.l TNd l8,.l TI l9,.l TNd l10,.l TI l11,.l TI l12]):=
(.pa [1]
(.nd (fun h0=>
(.pq (c:=(inR n0 (List.length l12)))
(.nd (fun h1=>
(.pa [1]
(.nd (fun h2=>
(.pa [1]
.lf)) (fun h2=>
(.pa [1]
.lf))))) (fun h1=>
.none)))) (fun h0=>
(.pa [1]
.lf))))
def j1v (f:OpT):MBox:=mkM 0 [] [(sh 93 [(2,.ptr 0 0),(3,.ptr 1 0),(5,.own 2),(9,.int .i64 0)],[laB 1,rtB 5,.arr TI 11])] [] [(.exit 4,sh 93 [],[]),(.ret,sh 93 [(4,.bool 0)],[])] f
def h0c (env:LDt):Tree Step:=Lk.stepMC false LK n2m 33 16 ls0 (j1v fun _=>none) env
def u0f:OpT:=Classical.choose (opq (a0b h0c FU))
theorem x0l (env:LDt):u0f env=a0b h0c FU env:=Classical.choose_spec (opq (a0b h0c FU)) env
def h2b:MBox:=j1v u0f
theorem o2d:h2b=j1v (a0b h0c FU):=congrArg j1v (funext x0l)
theorem m2o: ∀t s x,(a0l h2b t s).sel=some x→a0r Try.prog 0 (.loop (cAt Try.prog 33 16)) t s x:=by
 rw[o2d]
 exact b0a (st:=h0c) (m:=FU) u0q hmix false (LsOk.none _ _ _) (by kernel_rfl) (fun env y h=>by rw[←stepMC_lk];exact h)
def q0w:LDt→Tree Step
 |[.n n0,.l TS l1,.l TPt l2,.l TPt l3,.l TRt l4,.s s5,.n n6,.l TI l7,.l TNd l8,.l TI l9,.l TNd l10,.l TI l11]=>
  (.node (decide (n0<(↑(List.length l2):Int)))
   (let r1:OD:=(f1v [.l TI l11,.n (Prod.snd (List.getD l2 (Int.toNat n0) (Ty.dflt TPt)))]);
   (.node (isK 0 [HK.n] r1)
    (let r2:OD:=(x1e [.l TNd l8]);
    (.node (isK 0 [HK.l TI] r2)
     (let r3:OD:=(f1v [.l TI (gl TI (dOf r2) 0),.n n0]);
     (.node (isK 0 [HK.n] r3)
      (.node (!decide (gn (dOf r1) 0>(0:Int))==decide (gn (dOf r3) 0>(0:Int)))
      (.leaf (Step.stop 1 [.b false]))
      (.node (decide (gn (dOf r1) 0>(0:Int)))
       (let r4:OD:=(x1e [.l TNd l10]);
       (.node (isK 0 [HK.l TI] r4)
        (let r5:OD:=(f1v [.l TI (gl TI (dOf r4) 0),.n n0]);
        (.node (isK 0 [HK.n] r5)
         (.node (decide (gn (dOf r5) 0>(0:Int)))
         (.leaf (Step.stop 1 [.b false]))
         (.leaf (Step.go [.k 0,.n (IntKind.wrap .i64 (n0+(1:Int))),.l TS l1,.l TPt l2,.l TPt l3,.l TRt l4,.s s5,.n n6,.l TI l7,.l TNd l8,.l TI l9,.l TNd l10,.l TI l11])))
         (.bad 351)))
        (.bad 351)))
       (.leaf (Step.go [.k 0,.n (IntKind.wrap .i64 (n0+(1:Int))),.l TS l1,.l TPt l2,.l TPt l3,.l TRt l4,.s s5,.n n6,.l TI l7,.l TNd l8,.l TI l9,.l TNd l10,.l TI l11]))))
      (.bad 351)))
     (.bad 351)))
    (.bad 351)))
   (.leaf (Step.stop 0 [])))
 |_=>.bad 0
theorem q0i (n0:Int)(l1:DS)(l2:DP)(l3:DP)(l4:DR)(s5:ByteArray)(n6:Int)(l7:DI)(l8:DD)(l9:DI)(l10:DD)(l11:DI)(g0:0≤n0):Imp (q0w [.n n0,.l TS l1,.l TPt l2,.l TPt l3,.l TRt l4,.s s5,.n n6,.l TI l7,.l TNd l8,.l TI l9,.l TNd l10,.l TI l11]) (h0c [.k 0,.n n0,.l TS l1,.l TPt l2,.l TPt l3,.l TRt l4,.s s5,.n n6,.l TI l7,.l TNd l8,.l TI l9,.l TNd l10,.l TI l11]):=
(.pa [1]
(.nd (fun h0=>
(.pq (c:=(inR n0 (List.length l2)))
(.nd (fun h1=>
(.pa [1]
(.nd (fun h2=>
(.pa [1]
(.nd (fun h3=>
(.pa [1]
(.nd (fun h4=>
(.pa [1,1,1]
.lf)) (fun h4=>
(.nd (fun h5=>
(.nd (fun h6=>
(.pa [1]
(.nd (fun h7=>
(.pa [1]
(.nd (fun h8=>
(.pa [1]
.lf)) (fun h8=>
(.pa [1]
.lf))))) (fun h7=>
.none)))) (fun h6=>
.none))) (fun h5=>
(.pa [0,0,1]
.lf))))))) (fun h3=>
.none)))) (fun h2=>
.none)))) (fun h1=>
.none)))) (fun h0=>
(.pa [1]
.lf))))
theorem l3h:LsOk Try.prog (z0) (lsM [(6,i3j),(11,c2y),(16,h2b)] (z0)) (a0u Try.prog 33):=LsOk.many fun j B hB hk c hc hi=>by
 simp only[c0f]at hB
 split at hB
 ·rename_i e;have:=Nat.eq_of_beq_eq_true e;subst this;cases hB
  rw[b0u (f:=33) (i:=6) (a0e (by kernel_rfl)) (a0c hc hi)];exact b3x
 split at hB
 ·rename_i e;have:=Nat.eq_of_beq_eq_true e;subst this;cases hB
  rw[b0u (f:=33) (i:=11) (a0e (by kernel_rfl)) (a0c hc hi)];exact n2b
 split at hB
 ·rename_i e;have:=Nat.eq_of_beq_eq_true e;subst this;cases hB
  rw[b0u (f:=33) (i:=16) (a0e (by kernel_rfl)) (a0c hc hi)];exact m2o
 cases hB
def j3y (env:LDt):TD:=Lk.boxC false LK n2m 33 (lsM [(6,i3j),(11,c2y),(16,h2b)] (z0)) (k27 fun _=>none) env
def y1k:OpT:=Classical.choose (opq (fun env=>(j3y env).sel))
theorem h2n (env:LDt):y1k env=(j3y env).sel:=Classical.choose_spec (opq (fun env=>(j3y env).sel)) env
def B29:FBox:=k27 y1k
theorem B29_ok:a0x Try.prog 33 (a0i B29):=b0c (op:=y1k) u0q hmix false (l3h) (fun env x h=>by rw[h2n]at h;rw[←boxC_lk];exact h)
def y2j:LDt→TD
 |[.l TS l0,.l TPt l1,.l TPt l2,.l TRt l3,.s s4,.n n5,.l TI l6,.l TNd l7,.l TI l8,.l TNd l9]=>
  (let r1:OD:=(g1a [.s s4,.n n5,.l TI l6,.l TNd l7,.l TI l8,.l TNd l9]);
   (.node (isK 0 [HK.l TI] r1)
   (let r2:OD:=(y0m [.s s4,.n n5,.l TI l6,.l TNd l7,.l TI l8,.l TNd l9]);
    (.node (isK 0 [HK.l TNd] r2)
    (let r3:OD:=(x1e [.l TNd (gl TNd (dOf r2) 0)]);
     (.node (isK 0 [HK.l TI] r3)
     (.node ((↑(List.length l6):Int)==(0:Int))
      (.leaf ((0,[.b false])))
      (.node (inR n5 (List.length l2))
      (let r4:OD:=(f1v [.l TI (gl TI (dOf r1) 0),.n (Prod.snd (List.getD l2 (Int.toNat n5) (Ty.dflt TPt)))]);
       (.node (isK 0 [HK.n] r4)
       (.node (decide (gn (dOf r4) 0>(0:Int)))
        (.leaf ((0,[.b false])))
        (let r5:OD:=(z0w [.k 0,.n (0:Int),.l TS l0,.l TPt l1,.l TPt l2,.l TRt l3,.s s4,.n n5,.l TI l6,.l TNd l7,.l TI l8,.l TNd l9,.l TI (gl TI (dOf r1) 0),.l TI (gl TI (dOf r3) 0)]);
        (.node (isK 0 [HK.l Ty.str,HK.l TPt,HK.l TPt,HK.l TRt,HK.s,HK.n,HK.l TI,HK.l TNd,HK.l TI,HK.l TNd,HK.l TI,HK.l TI] r5)
         (let r6:OD:=(u0i [.k 0,.n (0:Int),.l TS (gl Ty.str (dOf r5) 0),.l TPt (gl TPt (dOf r5) 1),.l TPt (gl TPt (dOf r5) 2),.l TRt (gl TRt (dOf r5) 3),.s (gs (dOf r5) 4),.n (gn (dOf r5) 5),.l TI (gl TI (dOf r5) 6),.l TNd (gl TNd (dOf r5) 7),.l TI (gl TI (dOf r5) 8),.l TNd (gl TNd (dOf r5) 9),.l TI (gl TI (dOf r5) 10),.l TI (gl TI (dOf r5) 11)]);
         (.node (isK 0 [HK.l Ty.str,HK.l TPt,HK.l TPt,HK.l TRt,HK.s,HK.n,HK.l TI,HK.l TNd,HK.l TI,HK.l TNd,HK.l TI] r6)
          (let r7:OD:=(u0f [.k 0,.n (0:Int),.l TS (gl Ty.str (dOf r6) 0),.l TPt (gl TPt (dOf r6) 1),.l TPt (gl TPt (dOf r6) 2),.l TRt (gl TRt (dOf r6) 3),.s (gs (dOf r6) 4),.n (gn (dOf r6) 5),.l TI (gl TI (dOf r6) 6),.l TNd (gl TNd (dOf r6) 7),.l TI (gl TI (dOf r6) 8),.l TNd (gl TNd (dOf r6) 9),.l TI (gl TI (dOf r6) 10)]);
          (.node (isK 0 [] r7)
           (.leaf ((0,[.b true])))
           (.node (isK 1 [HK.b] r7)
           (.leaf ((0,[.b (gb (dOf r7) 0)])))
           (.bad 351))))
          (.node (isK 1 [HK.b] r6)
          (.leaf ((0,[.b (gb (dOf r6) 0)])))
          (.bad 351))))
         (.node (isK 1 [HK.b] r5)
         (.leaf ((0,[.b (gb (dOf r5) 0)])))
         (.bad 351)))))
       (.bad 351)))
      (.bad 10)))
     (.bad 351)))
    (.bad 351)))
   (.bad 351)))
 |_=>.bad 0
theorem k2r (l0:DS)(l1:DP)(l2:DP)(l3:DR)(s4:ByteArray)(n5:Int)(l6:DI)(l7:DD)(l8:DI)(l9:DD):Imp (y2j [.l TS l0,.l TPt l1,.l TPt l2,.l TRt l3,.s s4,.n n5,.l TI l6,.l TNd l7,.l TI l8,.l TNd l9]) (j3y [.l TS l0,.l TPt l1,.l TPt l2,.l TRt l3,.s s4,.n n5,.l TI l6,.l TNd l7,.l TI l8,.l TNd l9]):=
(.nd (fun h0=>
(.pa [1]
(.nd (fun h1=>
(.pa [1]
(.nd (fun h2=>
(.pa [1]
(.nd (fun h3=>
(.pa [1,1,1]
.lf)) (fun h3=>
(.nd (fun h4=>
(.nd (fun h5=>
(.pa [1]
(.nd (fun h6=>
(.pa [1]
.lf)) (fun h6=>
(.nd (fun h7=>
(.nd (fun h8=>
(.nd (fun h9=>
(.pa [1]
.lf)) (fun h9=>
(.nd (fun h10=>
(.pa [1]
.lf)) (fun h10=>
.none))))) (fun h8=>
(.nd (fun h9=>
(.pa [1]
.lf)) (fun h9=>
.none))))) (fun h7=>
(.nd (fun h8=>
(.pa [1]
.lf)) (fun h8=>
.none)))))))) (fun h5=>
.none))) (fun h4=>
.none)))))) (fun h2=>
.none)))) (fun h1=>
.none)))) (fun h0=>
.none))
def l3v:FuncId→Option a0f:=a0k 33 B29 n2m
theorem n1k:CsOk Try.prog l3v:=a0h u0q B29_ok
def g2w (f:OpT):MBox:=mkM 0 [] [(sh 23 [(1,.ptr 0 0),(10,.imm TRt 0),(11,.int .i64 1),(12,.int .i64 2)],[laB 3])] [] [(.exit 0,sh 23 [],[]),(.ret,sh 23 [(2,.int .i64 0),(3,.int .i64 1)],[])] f
def o0l (env:LDt):Tree Step:=Lk.stepMC false LK l3v 59 4 ls0 (g2w fun _=>none) env
def z0e:OpT:=Classical.choose (opq (a0b o0l FU))
theorem c1p (env:LDt):z0e env=a0b o0l FU env:=Classical.choose_spec (opq (a0b o0l FU)) env
def i3p:MBox:=g2w z0e
theorem r2o:i3p=g2w (a0b o0l FU):=congrArg g2w (funext c1p)
theorem x2z: ∀t s x,(a0l i3p t s).sel=some x→a0r Try.prog 0 (.loop (cAt Try.prog 59 4)) t s x:=by
 rw[r2o]
 exact b0a (st:=o0l) (m:=FU) n1k hmix false (LsOk.none _ _ _) (by kernel_rfl) (fun env y h=>by rw[←stepMC_lk];exact h)
def p0b:LDt→Tree Step
 |[.l TRt l0,.n n1,.n n2,.l TS l3,.l TPt l4,.l TPt l5,.l TRt l6]=>
  (.node (decide (n2<n1))
   (let r1:OD:=(a2j [.l TS l3,.l TPt l4,.l TPt l5,.l TRt l6,.s (Prod.fst (List.getD l0 (Int.toNat n2) (Ty.dflt TRt))),.n (Prod.fst (Prod.snd (List.getD l0 (Int.toNat n2) (Ty.dflt TRt)))),.l TI (Prod.fst (Prod.snd (Prod.snd (List.getD l0 (Int.toNat n2) (Ty.dflt TRt))))),.l TNd (Prod.fst (Prod.snd (Prod.snd (Prod.snd (List.getD l0 (Int.toNat n2) (Ty.dflt TRt)))))),.l TI (Prod.fst (Prod.snd (Prod.snd (Prod.snd (Prod.snd (List.getD l0 (Int.toNat n2) (Ty.dflt TRt))))))),.l TNd (Prod.snd (Prod.snd (Prod.snd (Prod.snd (Prod.snd (List.getD l0 (Int.toNat n2) (Ty.dflt TRt)))))))]);
   (.node (isK 0 [HK.b] r1)
    (.node (!gb (dOf r1) 0)
    (.leaf (Step.stop 1 [.n (50:Int),.n n2]))
    (.leaf (Step.go [.k 0,.l TRt l0,.n n1,.n (IntKind.wrap .i64 (n2+(1:Int))),.l TS l3,.l TPt l4,.l TPt l5,.l TRt l6])))
    (.bad 351)))
   (.leaf (Step.stop 0 [])))
 |_=>.bad 0
theorem m0k (l0:DR)(n1:Int)(n2:Int)(l3:DS)(l4:DP)(l5:DP)(l6:DR)(g0:0≤n2)(g1:n1=(l0.length:Int)):Imp (p0b [.l TRt l0,.n n1,.n n2,.l TS l3,.l TPt l4,.l TPt l5,.l TRt l6]) (o0l [.k 0,.l TRt l0,.n n1,.n n2,.l TS l3,.l TPt l4,.l TPt l5,.l TRt l6]):=
(.pa [1]
(.nd (fun h0=>
(.pq (c:=(inR n2 (List.length l0)))
(.nd (fun h1=>
(.pa [1]
(.nd (fun h2=>
(.pa [1]
.lf)) (fun h2=>
(.pa [1]
.lf))))) (fun h1=>
.none)))) (fun h0=>
(.pa [1]
.lf))))
theorem f3o:LsOk Try.prog (z0) (lsM [(4,i3p)] (z0)) (a0u Try.prog 59):=LsOk.many fun j B hB hk c hc hi=>by
 simp only[c0f]at hB
 split at hB
 ·rename_i e;have:=Nat.eq_of_beq_eq_true e;subst this;cases hB
  rw[b0u (f:=59) (i:=4) (a0e (by kernel_rfl)) (a0c hc hi)];exact x2z
 cases hB
def k18 (f:OpT):FBox:=mkF [laV 0] [] [] [(.tup [.int .i64 0,.int .i64 1],[])] f
def l3w (env:LDt):TD:=Lk.boxC false LK l3v 59 (lsM [(4,i3p)] (z0)) (k18 fun _=>none) env
def l2u:OpT:=Classical.choose (opq (fun env=>(l3w env).sel))
theorem i2h (env:LDt):l2u env=(l3w env).sel:=Classical.choose_spec (opq (fun env=>(l3w env).sel)) env
def B18:FBox:=k18 l2u
theorem B18_ok:a0x Try.prog 59 (a0i B18):=b0c (op:=l2u) n1k hmix false (f3o) (fun env x h=>by rw[i2h]at h;rw[←boxC_lk];exact h)
def v2g:LDt→TD
 |[.l TS l0,.l TPt l1,.l TPt l2,.l TRt l3]=>
  (let r1:OD:=(n2f [.l TS l0,.l TPt l1,.l TPt l2,.l TRt l3]);
   (.node (isK 0 [HK.b] r1)
   (.node (!gb (dOf r1) 0)
    (.leaf ((0,[.n (2:Int),.n (0:Int)])))
    (let r2:OD:=(z0e [.k 0,.l TRt l3,.n (↑(List.length l3):Int),.n (0:Int),.l TS l0,.l TPt l1,.l TPt l2,.l TRt l3]);
    (.node (isK 0 [] r2)
     (.leaf ((0,[.n (0:Int),.n (0:Int)])))
     (.node (isK 1 [HK.n,HK.n] r2)
     (.leaf ((0,[.n (gn (dOf r2) 0),.n (gn (dOf r2) 1)])))
     (.bad 351)))))
   (.bad 351)))
 |_=>.bad 0
theorem l2s (l0:DS)(l1:DP)(l2:DP)(l3:DR):Imp (v2g [.l TS l0,.l TPt l1,.l TPt l2,.l TRt l3]) (l3w [.l TS l0,.l TPt l1,.l TPt l2,.l TRt l3]):=
(.nd (fun h0=>
(.pa [1]
(.nd (fun h1=>
(.pa [1]
.lf)) (fun h1=>
(.nd (fun h2=>
(.pa [1]
.lf)) (fun h2=>
(.nd (fun h3=>
(.pa [1]
.lf)) (fun h3=>
.none)))))))) (fun h0=>
.none))
def g3k:FuncId→Option a0f:=a0k 59 B18 l3v
theorem l1y:CsOk Try.prog g3k:=a0h n1k B18_ok
def d2z (f:OpT):MBox:=mkM 0 [] [(sh 24 [(1,.ptr 0 0),(4,.int .i64 0)],[laB 1])] [] [(.exit 0,sh 24 [],[]),(.ret,sh 24 [(2,.int .i64 0),(3,.int .i64 1)],[])] f
def p0p (env:LDt):Tree Step:=Lk.stepMC false LK g3k 14 4 ls0 (d2z fun _=>none) env
def z0z:OpT:=Classical.choose (opq (a0b p0p FU))
theorem c1u (env:LDt):z0z env=a0b p0p FU env:=Classical.choose_spec (opq (a0b p0p FU)) env
def j3p:MBox:=d2z z0z
theorem u2d:j3p=d2z (a0b p0p FU):=congrArg d2z (funext c1u)
theorem y2p: ∀t s x,(a0l j3p t s).sel=some x→a0r Try.prog 0 (.loop (cAt Try.prog 14 4)) t s x:=by
 rw[u2d]
 exact b0a (st:=p0p) (m:=FU) l1y hmix false (LsOk.none _ _ _) (by kernel_rfl) (fun env y h=>by rw[←stepMC_lk];exact h)
def o0s:LDt→Tree Step
 |[.n n0,.l TS l1,.l TPt l2,.l TPt l3,.l TRt l4]=>
  (.node (decide (n0<(↑(List.length l4):Int)))
   (let r1:OD:=(y1k [.l TS l1,.l TPt l2,.l TPt l3,.l TRt l4,.s (Prod.fst (List.getD l4 (Int.toNat n0) (Ty.dflt TRt))),.n (Prod.fst (Prod.snd (List.getD l4 (Int.toNat n0) (Ty.dflt TRt)))),.l TI (Prod.fst (Prod.snd (Prod.snd (List.getD l4 (Int.toNat n0) (Ty.dflt TRt))))),.l TNd (Prod.fst (Prod.snd (Prod.snd (Prod.snd (List.getD l4 (Int.toNat n0) (Ty.dflt TRt)))))),.l TI (Prod.fst (Prod.snd (Prod.snd (Prod.snd (Prod.snd (List.getD l4 (Int.toNat n0) (Ty.dflt TRt))))))),.l TNd (Prod.snd (Prod.snd (Prod.snd (Prod.snd (Prod.snd (List.getD l4 (Int.toNat n0) (Ty.dflt TRt)))))))]);
   (.node (isK 0 [HK.b] r1)
    (.node (!gb (dOf r1) 0)
    (.leaf (Step.stop 1 [.n (50:Int),.n n0]))
    (.leaf (Step.go [.k 0,.n (IntKind.wrap .i64 (n0+(1:Int))),.l TS l1,.l TPt l2,.l TPt l3,.l TRt l4])))
    (.bad 351)))
   (.leaf (Step.stop 0 [])))
 |_=>.bad 0
theorem l0i (n0:Int)(l1:DS)(l2:DP)(l3:DP)(l4:DR)(g0:0≤n0):Imp (o0s [.n n0,.l TS l1,.l TPt l2,.l TPt l3,.l TRt l4]) (p0p [.k 0,.n n0,.l TS l1,.l TPt l2,.l TPt l3,.l TRt l4]):=
(.pa [1]
(.nd (fun h0=>
(.pq (c:=(inR n0 (List.length l4)))
(.nd (fun h1=>
(.pa [1,1]
(.nd (fun h2=>
(.pa [1]
.lf)) (fun h2=>
(.pa [1]
.lf))))) (fun h1=>
.none)))) (fun h0=>
(.pa [1]
.lf))))
theorem n3c:LsOk Try.prog (z0) (lsM [(4,j3p)] (z0)) (a0u Try.prog 14):=LsOk.many fun j B hB hk c hc hi=>by
 simp only[c0f]at hB
 split at hB
 ·rename_i e;have:=Nat.eq_of_beq_eq_true e;subst this;cases hB
  rw[b0u (f:=14) (i:=4) (a0e (by kernel_rfl)) (a0c hc hi)];exact y2p
 cases hB
def f3x (env:LDt):TD:=Lk.boxC false LK g3k 14 (lsM [(4,j3p)] (z0)) (k18 fun _=>none) env
def k2p:OpT:=Classical.choose (opq (fun env=>(f3x env).sel))
theorem c2w (env:LDt):k2p env=(f3x env).sel:=Classical.choose_spec (opq (fun env=>(f3x env).sel)) env
def B19:FBox:=k18 k2p
theorem s2o:a0x Try.prog 14 (a0i B19):=b0c (op:=k2p) l1y hmix false (n3c) (fun env x h=>by rw[c2w]at h;rw[←boxC_lk];exact h)
def z2i:LDt→TD
 |[.l TS l0,.l TPt l1,.l TPt l2,.l TRt l3]=>
  (let r1:OD:=(k2o [.l TS l0,.l TPt l1,.l TPt l2,.l TRt l3]);
   (.node (isK 0 [HK.b] r1)
   (.node (!gb (dOf r1) 0)
    (.leaf ((0,[.n (2:Int),.n (0:Int)])))
    (let r2:OD:=(z0z [.k 0,.n (0:Int),.l TS l0,.l TPt l1,.l TPt l2,.l TRt l3]);
    (.node (isK 0 [] r2)
     (.leaf ((0,[.n (0:Int),.n (0:Int)])))
     (.node (isK 1 [HK.n,HK.n] r2)
     (.leaf ((0,[.n (gn (dOf r2) 0),.n (gn (dOf r2) 1)])))
     (.bad 351)))))
   (.bad 351)))
 |_=>.bad 0
theorem l2f (l0:DS)(l1:DP)(l2:DP)(l3:DR):Imp (z2i [.l TS l0,.l TPt l1,.l TPt l2,.l TRt l3]) (f3x [.l TS l0,.l TPt l1,.l TPt l2,.l TRt l3]):=
(.nd (fun h0=>
(.pa [1]
(.nd (fun h1=>
(.pa [1]
.lf)) (fun h1=>
(.nd (fun h2=>
(.pa [1]
.lf)) (fun h2=>
(.nd (fun h3=>
(.pa [1]
.lf)) (fun h3=>
.none)))))))) (fun h0=>
.none))
def x1p:FuncId→Option a0f:=a0k 14 B19 g3k
theorem o0g:CsOk Try.prog x1p:=a0h l1y s2o
def g2g (f:OpT):MBox:=mkM 0 [] [(sh 120 [(1,.int .i64 0),(2,.ptr 0 0),(5,.int .i64 1),(6,.int .i64 2)],[laB 3])] [] [(.exit 0,sh 120 [(1,.int .i64 0),(2,.ptr 0 0),(5,.int .i64 1)],[laB 2])] f
def m0n (env:LDt):Tree Step:=Lk.stepMC false LK x1p 11 3 ls0 (g2g fun _=>none) env
def a1d:OpT:=Classical.choose (opq (a0b m0n FU))
theorem f1h (env:LDt):a1d env=a0b m0n FU env:=Classical.choose_spec (opq (a0b m0n FU)) env
def i3w:MBox:=g2g a1d
theorem y2f:i3w=g2g (a0b m0n FU):=congrArg g2g (funext f1h)
theorem e3d: ∀t s x,(a0l i3w t s).sel=some x→a0r Try.prog 0 (.loop (cAt Try.prog 11 3)) t s x:=by
 rw[y2f]
 exact b0a (st:=m0n) (m:=FU) o0g hmix false (LsOk.none _ _ _) (by kernel_rfl) (fun env y h=>by rw[←stepMC_lk];exact h)
def o0a:LDt→Tree Step
 |[.n n0,.n n1,.n n2,.l TS l3,.l TPt l4,.l TPt l5,.l TRt l6]=>
  (.node (decide (n2<(↑(List.length l3):Int)))
   (.node (decide (n1≤n0))
   (.leaf (Step.go [.k 0,.n n0,.n (IntKind.wrap .i64 (IntKind.wrap .i64 (n1+(1:Int))+(↑(ByteArray.size (List.getD l3 (Int.toNat n2) (Ty.dflt Ty.str))):Int))),.n (IntKind.wrap .i64 (n2+(1:Int))),.l TS l3,.l TPt l4,.l TPt l5,.l TRt l6]))
   (.leaf (Step.stop 0 [.n n0,.n n1,.l TS l3,.l TPt l4,.l TPt l5,.l TRt l6])))
   (.leaf (Step.stop 0 [.n n0,.n n1,.l TS l3,.l TPt l4,.l TPt l5,.l TRt l6])))
 |_=>.bad 0
theorem k0t (n0:Int)(n1:Int)(n2:Int)(l3:DS)(l4:DP)(l5:DP)(l6:DR)(g0:0≤n2):Imp (o0a [.n n0,.n n1,.n n2,.l TS l3,.l TPt l4,.l TPt l5,.l TRt l6]) (m0n [.k 0,.n n0,.n n1,.n n2,.l TS l3,.l TPt l4,.l TPt l5,.l TRt l6]):=
(.pa [1]
(.nd (fun h0=>
(.nd (fun h1=>
(.pq (c:=(inR n2 (List.length l3)))
(.pa [1]
.lf))) (fun h1=>
(.pa [1]
.lf)))) (fun h0=>
(.pa [0,0,1]
.lf))))
def b2s (f:OpT):MBox:=mkM 0 [] [(sh 120 [(1,.int .i64 0),(2,.ptr 0 0),(5,.int .i64 1),(7,.int .i64 2)],[laB 3])] [] [(.exit 2,sh 120 [(1,.int .i64 0),(2,.ptr 0 0),(5,.int .i64 1)],[laB 2])] f
def k0n (env:LDt):Tree Step:=Lk.stepMC false LK x1p 11 7 ls0 (b2s fun _=>none) env
def a1o:OpT:=Classical.choose (opq (a0b k0n FU))
theorem c1m (env:LDt):a1o env=a0b k0n FU env:=Classical.choose_spec (opq (a0b k0n FU)) env
def f3r:MBox:=b2s a1o
theorem a3s:f3r=b2s (a0b k0n FU):=congrArg b2s (funext c1m)
theorem c3k: ∀t s x,(a0l f3r t s).sel=some x→a0r Try.prog 0 (.loop (cAt Try.prog 11 7)) t s x:=by
 rw[a3s]
 exact b0a (st:=k0n) (m:=FU) o0g hmix false (LsOk.none _ _ _) (by kernel_rfl) (fun env y h=>by rw[←stepMC_lk];exact h)
def o0b:LDt→Tree Step
 |[.n n0,.n n1,.n n2,.l TS l3,.l TPt l4,.l TPt l5,.l TRt l6]=>
  (.node (decide (n2<(↑(List.length l4):Int)))
   (.node (decide (n1≤n0))
   (.leaf (Step.go [.k 0,.n n0,.n (IntKind.wrap .i64 (IntKind.wrap .i64 (n1+(1:Int))+(↑(ByteArray.size (Prod.fst (List.getD l4 (Int.toNat n2) (Ty.dflt TPt)))):Int))),.n (IntKind.wrap .i64 (n2+(1:Int))),.l TS l3,.l TPt l4,.l TPt l5,.l TRt l6]))
   (.leaf (Step.stop 0 [.n n0,.n n1,.l TS l3,.l TPt l4,.l TPt l5,.l TRt l6])))
   (.leaf (Step.stop 0 [.n n0,.n n1,.l TS l3,.l TPt l4,.l TPt l5,.l TRt l6])))
 |_=>.bad 0
theorem k0x (n0:Int)(n1:Int)(n2:Int)(l3:DS)(l4:DP)(l5:DP)(l6:DR)(g0:0≤n2):Imp (o0b [.n n0,.n n1,.n n2,.l TS l3,.l TPt l4,.l TPt l5,.l TRt l6]) (k0n [.k 0,.n n0,.n n1,.n n2,.l TS l3,.l TPt l4,.l TPt l5,.l TRt l6]):=
(.pa [1]
(.nd (fun h0=>
(.nd (fun h1=>
(.pq (c:=(inR n2 (List.length l4)))
(.pa [1]
.lf))) (fun h1=>
(.pa [1]
.lf)))) (fun h0=>
(.pa [0,0,1]
.lf))))
def j1f (f:OpT):MBox:=mkM 0 [] [(sh 120 [(1,.int .i64 0),(2,.ptr 0 0),(5,.int .i64 1),(8,.int .i64 2)],[laB 3])] [] [(.exit 4,sh 120 [(1,.int .i64 0),(2,.ptr 0 0),(5,.int .i64 1)],[laB 2])] f
def h0i (env:LDt):Tree Step:=Lk.stepMC false LK x1p 11 11 ls0 (j1f fun _=>none) env
def s0v:OpT:=Classical.choose (opq (a0b h0i FU))
theorem x0i (env:LDt):s0v env=a0b h0i FU env:=Classical.choose_spec (opq (a0b h0i FU)) env
def h2f:MBox:=j1f s0v
theorem m2a:h2f=j1f (a0b h0i FU):=congrArg j1f (funext x0i)
theorem m2r: ∀t s x,(a0l h2f t s).sel=some x→a0r Try.prog 0 (.loop (cAt Try.prog 11 11)) t s x:=by
 rw[m2a]
 exact b0a (st:=h0i) (m:=FU) o0g hmix false (LsOk.none _ _ _) (by kernel_rfl) (fun env y h=>by rw[←stepMC_lk];exact h)
def l0r:LDt→Tree Step
 |[.n n0,.n n1,.n n2,.l TS l3,.l TPt l4,.l TPt l5,.l TRt l6]=>
  (.node (decide (n2<(↑(List.length l5):Int)))
   (.node (decide (n1≤n0))
   (.leaf (Step.go [.k 0,.n n0,.n (IntKind.wrap .i64 (IntKind.wrap .i64 (n1+(1:Int))+(↑(ByteArray.size (Prod.fst (List.getD l5 (Int.toNat n2) (Ty.dflt TPt)))):Int))),.n (IntKind.wrap .i64 (n2+(1:Int))),.l TS l3,.l TPt l4,.l TPt l5,.l TRt l6]))
   (.leaf (Step.stop 0 [.n n0,.n n1,.l TS l3,.l TPt l4,.l TPt l5,.l TRt l6])))
   (.leaf (Step.stop 0 [.n n0,.n n1,.l TS l3,.l TPt l4,.l TPt l5,.l TRt l6])))
 |_=>.bad 0
theorem i0g (n0:Int)(n1:Int)(n2:Int)(l3:DS)(l4:DP)(l5:DP)(l6:DR)(g0:0≤n2):Imp (l0r [.n n0,.n n1,.n n2,.l TS l3,.l TPt l4,.l TPt l5,.l TRt l6]) (h0i [.k 0,.n n0,.n n1,.n n2,.l TS l3,.l TPt l4,.l TPt l5,.l TRt l6]):=
(.pa [1]
(.nd (fun h0=>
(.nd (fun h1=>
(.pq (c:=(inR n2 (List.length l5)))
(.pa [1]
.lf))) (fun h1=>
(.pa [1]
.lf)))) (fun h0=>
(.pa [0,0,1]
.lf))))
def i1p (f:OpT):MBox:=mkM 0 [] [(sh 120 [(1,.int .i64 0),(2,.ptr 0 0),(5,.int .i64 1),(9,.int .i64 2)],[laB 3])] [] [(.exit 6,sh 120 [(5,.int .i64 0)],[])] f
def h0l (env:LDt):Tree Step:=Lk.stepMC false LK x1p 11 15 ls0 (i1p fun _=>none) env
def s0o:OpT:=Classical.choose (opq (a0b h0l FU))
theorem x0j (env:LDt):s0o env=a0b h0l FU env:=Classical.choose_spec (opq (a0b h0l FU)) env
def d2h:MBox:=i1p s0o
theorem n2w:d2h=i1p (a0b h0l FU):=congrArg i1p (funext x0j)
theorem o2w: ∀t s x,(a0l d2h t s).sel=some x→a0r Try.prog 0 (.loop (cAt Try.prog 11 15)) t s x:=by
 rw[n2w]
 exact b0a (st:=h0l) (m:=FU) o0g hmix false (LsOk.none _ _ _) (by kernel_rfl) (fun env y h=>by rw[←stepMC_lk];exact h)
def h0e:LDt→Tree Step
 |[.n n0,.n n1,.n n2,.l TS l3,.l TPt l4,.l TPt l5,.l TRt l6]=>
  (.node (decide (n2<(↑(List.length l6):Int)))
   (.node (decide (n1≤n0))
   (.node (decide (IntKind.wrap .i64 (IntKind.wrap .i64 (IntKind.wrap .i64 (IntKind.wrap .i64 (n1+(1:Int))+(↑(ByteArray.size (Prod.fst (List.getD l6 (Int.toNat n2) (Ty.dflt TRt)))):Int))+(↑(List.length (Prod.fst (Prod.snd (Prod.snd (List.getD l6 (Int.toNat n2) (Ty.dflt TRt)))))):Int))+(↑(List.length (Prod.fst (Prod.snd (Prod.snd (Prod.snd (List.getD l6 (Int.toNat n2) (Ty.dflt TRt))))))):Int))≤n0))
    (.leaf (Step.go [.k 0,.n n0,.n (IntKind.wrap .i64 (IntKind.wrap .i64 (IntKind.wrap .i64 (IntKind.wrap .i64 (IntKind.wrap .i64 (IntKind.wrap .i64 (n1+(1:Int))+(↑(ByteArray.size (Prod.fst (List.getD l6 (Int.toNat n2) (Ty.dflt TRt)))):Int))+(↑(List.length (Prod.fst (Prod.snd (Prod.snd (List.getD l6 (Int.toNat n2) (Ty.dflt TRt)))))):Int))+(↑(List.length (Prod.fst (Prod.snd (Prod.snd (Prod.snd (List.getD l6 (Int.toNat n2) (Ty.dflt TRt))))))):Int))+(↑(List.length (Prod.fst (Prod.snd (Prod.snd (Prod.snd (Prod.snd (List.getD l6 (Int.toNat n2) (Ty.dflt TRt)))))))):Int))+(↑(List.length (Prod.snd (Prod.snd (Prod.snd (Prod.snd (Prod.snd (List.getD l6 (Int.toNat n2) (Ty.dflt TRt)))))))):Int))),.n (IntKind.wrap .i64 (n2+(1:Int))),.l TS l3,.l TPt l4,.l TPt l5,.l TRt l6]))
    (.leaf (Step.go [.k 0,.n n0,.n (IntKind.wrap .i64 (IntKind.wrap .i64 (IntKind.wrap .i64 (IntKind.wrap .i64 (n1+(1:Int))+(↑(ByteArray.size (Prod.fst (List.getD l6 (Int.toNat n2) (Ty.dflt TRt)))):Int))+(↑(List.length (Prod.fst (Prod.snd (Prod.snd (List.getD l6 (Int.toNat n2) (Ty.dflt TRt)))))):Int))+(↑(List.length (Prod.fst (Prod.snd (Prod.snd (Prod.snd (List.getD l6 (Int.toNat n2) (Ty.dflt TRt))))))):Int))),.n (IntKind.wrap .i64 (n2+(1:Int))),.l TS l3,.l TPt l4,.l TPt l5,.l TRt l6])))
   (.leaf (Step.stop 0 [.n n1])))
   (.leaf (Step.stop 0 [.n n1])))
 |_=>.bad 0
theorem f0n (n0:Int)(n1:Int)(n2:Int)(l3:DS)(l4:DP)(l5:DP)(l6:DR)(g0:0≤n2):Imp (h0e [.n n0,.n n1,.n n2,.l TS l3,.l TPt l4,.l TPt l5,.l TRt l6]) (h0l [.k 0,.n n0,.n n1,.n n2,.l TS l3,.l TPt l4,.l TPt l5,.l TRt l6]):=
(.pa [1]
(.nd (fun h0=>
(.nd (fun h1=>
(.pq (c:=(inR n2 (List.length l6)))
(.nd (fun h2=>
(.pa [1]
.lf)) (fun h2=>
(.pa [1]
.lf))))) (fun h1=>
(.pa [1]
.lf)))) (fun h0=>
(.pa [0,0,1]
.lf))))
theorem l3o:LsOk Try.prog (z0) (lsM [(3,i3w),(7,f3r),(11,h2f),(15,d2h)] (z0)) (a0u Try.prog 11):=LsOk.many fun j B hB hk c hc hi=>by
 simp only[c0f]at hB
 split at hB
 ·rename_i e;have:=Nat.eq_of_beq_eq_true e;subst this;cases hB
  rw[b0u (f:=11) (i:=3) (a0e (by kernel_rfl)) (a0c hc hi)];exact e3d
 split at hB
 ·rename_i e;have:=Nat.eq_of_beq_eq_true e;subst this;cases hB
  rw[b0u (f:=11) (i:=7) (a0e (by kernel_rfl)) (a0c hc hi)];exact c3k
 split at hB
 ·rename_i e;have:=Nat.eq_of_beq_eq_true e;subst this;cases hB
  rw[b0u (f:=11) (i:=11) (a0e (by kernel_rfl)) (a0c hc hi)];exact m2r
 split at hB
 ·rename_i e;have:=Nat.eq_of_beq_eq_true e;subst this;cases hB
  rw[b0u (f:=11) (i:=15) (a0e (by kernel_rfl)) (a0c hc hi)];exact o2w
 cases hB
def k15 (f:OpT):FBox:=mkF [laV 0,.int .i64 4] [] [] [(.int .i64 0,[])] f
def j3x (env:LDt):TD:=Lk.boxC false LK x1p 11 (lsM [(3,i3w),(7,f3r),(11,h2f),(15,d2h)] (z0)) (k15 fun _=>none) env
def t1b:OpT:=Classical.choose (opq (fun env=>(j3x env).sel))
theorem i2e (env:LDt):t1b env=(j3x env).sel:=Classical.choose_spec (opq (fun env=>(j3x env).sel)) env
def B15:FBox:=k15 t1b
theorem B15_ok:a0x Try.prog 11 (a0i B15):=b0c (op:=t1b) o0g hmix false (l3o) (fun env x h=>by rw[i2e]at h;rw[←boxC_lk];exact h)
def b3w:LDt→TD
 |[.l TS l0,.l TPt l1,.l TPt l2,.l TRt l3,.n n4]=>
  (let r1:OD:=(a1d [.k 0,.n n4,.n (0:Int),.n (0:Int),.l TS l0,.l TPt l1,.l TPt l2,.l TRt l3]);
   (.node (isK 0 [HK.n,HK.n,HK.l Ty.str,HK.l TPt,HK.l TPt,HK.l TRt] r1)
   (let r2:OD:=(a1o [.k 0,.n (gn (dOf r1) 0),.n (gn (dOf r1) 1),.n (0:Int),.l TS (gl Ty.str (dOf r1) 2),.l TPt (gl TPt (dOf r1) 3),.l TPt (gl TPt (dOf r1) 4),.l TRt (gl TRt (dOf r1) 5)]);
    (.node (isK 0 [HK.n,HK.n,HK.l Ty.str,HK.l TPt,HK.l TPt,HK.l TRt] r2)
    (let r3:OD:=(s0v [.k 0,.n (gn (dOf r2) 0),.n (gn (dOf r2) 1),.n (0:Int),.l TS (gl Ty.str (dOf r2) 2),.l TPt (gl TPt (dOf r2) 3),.l TPt (gl TPt (dOf r2) 4),.l TRt (gl TRt (dOf r2) 5)]);
     (.node (isK 0 [HK.n,HK.n,HK.l Ty.str,HK.l TPt,HK.l TPt,HK.l TRt] r3)
     (let r4:OD:=(s0o [.k 0,.n (gn (dOf r3) 0),.n (gn (dOf r3) 1),.n (0:Int),.l TS (gl Ty.str (dOf r3) 2),.l TPt (gl TPt (dOf r3) 3),.l TPt (gl TPt (dOf r3) 4),.l TRt (gl TRt (dOf r3) 5)]);
      (.node (isK 0 [HK.n] r4)
      (.leaf ((0,[.n (gn (dOf r4) 0)])))
      (.bad 351)))
     (.bad 351)))
    (.bad 351)))
   (.bad 351)))
 |_=>.bad 0
theorem o2i (l0:DS)(l1:DP)(l2:DP)(l3:DR)(n4:Int):Imp (b3w [.l TS l0,.l TPt l1,.l TPt l2,.l TRt l3,.n n4]) (j3x [.l TS l0,.l TPt l1,.l TPt l2,.l TRt l3,.n n4]):=
(.nd (fun h0=>
(.nd (fun h1=>
(.nd (fun h2=>
(.nd (fun h3=>
(.pa [1]
.lf)) (fun h3=>
.none))) (fun h2=>
.none))) (fun h1=>
.none))) (fun h0=>
.none))
def l3l:FuncId→Option a0f:=a0k 11 B15 x1p
theorem i1m:CsOk Try.prog l3l:=a0h o0g B15_ok
end Go.Proofs.Ytcbhgaeiokfcdaa.Vx
