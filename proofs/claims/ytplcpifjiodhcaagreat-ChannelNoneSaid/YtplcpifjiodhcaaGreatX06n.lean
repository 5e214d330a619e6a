import Derived.Test.YtplcpifjiodhcaaGreatVxIm
import Derived.Test.YtplcpifjiodhcaaGreatVxLk
import Derived.Test.YtplcpifjiodhcaaGreatVxLaw
import Derived.Test.YtplcpifjiodhcaaGreatX06m
import Derived.KernelRfl
noncomputable section
namespace Go.Proofs.YtplcpifjiodhcaaGreat.Vx
open Go Go.RowKit
set_option linter.unusedVariables false
set_option linter.unusedSimpArgs false
set_option maxRecDepth 100000
set_option maxHeartbeats 0
def rtV (h:Nat):PV:=.agg [.str h,.int .i64 (h+1),.imm TI (h+2),.imm TNd (h+3),.imm TI (h+4),.imm TNd (h+5)]
def rtB (h:Nat):PB:=.cells [.str h,.int .i64 (h+1),.imm TI (h+2),.imm TNd (h+3),.imm TI (h+4),.imm TNd (h+5)]
def fnV (f:Nat)(cs:List PV):PV:=.fn (.func f) [] cs
def ev_9 (env:List Dat):Tree (Nat×List Dat):=Lk.boxC false LK cs_28 47 ls0 (mkF [rtV 0] [] [] [(.own 0,[.arr TI 0])] fun _=>none) env
theorem m3x: ∃f:List Dat→Option (Nat×List Dat),∀env,f env=(ev_9 env).sel:=⟨fun env=>(ev_9 env).sel,fun _=>rfl⟩
def op_9:List Dat→Option (Nat×List Dat):=Classical.choose m3x
theorem p2t (env:List Dat):op_9 env=(ev_9 env).sel:=Classical.choose_spec m3x env
def B9:FBox:=mkF [rtV 0] [] [] [(.own 0,[.arr TI 0])] op_9
theorem B9_ok:a0v Tryz.prog 47 (a0j B9):=a0p (op:=op_9) y1m hmix false (LsOk.none _ _ _) (fun env x h=>by rw[p2t]at h;rw[←boxC_lk];exact h)
def fn_9_t:List Dat→Tree (Nat×List Dat)
 |[.s s0,.n n1,.l (Ty.int IntKind.i64) l2,.l (Ty.pair (Ty.int IntKind.i64) Ty.bool) l3,.l (Ty.int IntKind.i64) l4,.l (Ty.pair (Ty.int IntKind.i64) Ty.bool) l5]=>
  (.node (true&&decide ((0:Int)≤IntKind.wrap .i64 ((↑(List.length l2):Int)+(↑(List.length l4):Int)))&&decide (IntKind.wrap .i64 ((↑(List.length l2):Int)+(↑(List.length l4):Int))*(8:Int)≤(281474976710656:Int)))
   (.node (decide ((0+List.length l2)*8≤140737488355328))
   (.node (decide ((List.length ([]++l2)+List.length l4)*8≤140737488355328))
    (.leaf ((0,[.l TI ([]++l2++l4)])))
    (.bad 62))
   (.bad 62))
   (.bad 50))
 |_=>.bad 0
theorem h2u (s0:ByteArray)(n1:Int)(l2:List (Ty.den TI))(l3:List (Ty.den TNd))(l4:List (Ty.den TI))(l5:List (Ty.den TNd)):Imp (fn_9_t [.s s0,.n n1,.l TI l2,.l TNd l3,.l TI l4,.l TNd l5]) (ev_9 [.s s0,.n n1,.l TI l2,.l TNd l3,.l TI l4,.l TNd l5]):=
(.pa [1]
(.nd (fun h0=>
(.nd (fun h1=>
(.nd (fun h2=>
(.pa [1,1]
.lf)) (fun h2=>
.none))) (fun h1=>
.none))) (fun h0=>
.none)))
def cs_9:FuncId→Option a0q:=a0s 47 B9 cs_28
theorem j2n:CsOk Tryz.prog cs_9:=a0g y1m B9_ok
def r2x (env:List Dat):Tree (Nat×List Dat):=Lk.boxC false LK cs_9 48 ls0 (mkF [rtV 0] [] [] [(.own 0,[.arr TNd 0])] fun _=>none) env
theorem l3c: ∃f:List Dat→Option (Nat×List Dat),∀env,f env=(r2x env).sel:=⟨fun env=>(r2x env).sel,fun _=>rfl⟩
def t1a:List Dat→Option (Nat×List Dat):=Classical.choose l3c
theorem x1z (env:List Dat):t1a env=(r2x env).sel:=Classical.choose_spec l3c env
def B10:FBox:=mkF [rtV 0] [] [] [(.own 0,[.arr TNd 0])] t1a
theorem B10_ok:a0v Tryz.prog 48 (a0j B10):=a0p (op:=t1a) j2n hmix false (LsOk.none _ _ _) (fun env x h=>by rw[x1z]at h;rw[←boxC_lk];exact h)
def o2b:List Dat→Tree (Nat×List Dat)
 |[.s s0,.n n1,.l (Ty.int IntKind.i64) l2,.l (Ty.pair (Ty.int IntKind.i64) Ty.bool) l3,.l (Ty.int IntKind.i64) l4,.l (Ty.pair (Ty.int IntKind.i64) Ty.bool) l5]=>
  (.node (true&&decide ((0:Int)≤IntKind.wrap .i64 ((↑(List.length l3):Int)+(↑(List.length l5):Int)))&&decide (IntKind.wrap .i64 ((↑(List.length l3):Int)+(↑(List.length l5):Int))*(16:Int)≤(281474976710656:Int)))
   (.node (decide ((0+List.length l3)*16≤140737488355328))
   (.node (decide ((List.length ([]++l3)+List.length l5)*16≤140737488355328))
    (.leaf ((0,[.l TNd ([]++l3++l5)])))
    (.bad 62))
   (.bad 62))
   (.bad 50))
 |_=>.bad 0
theorem d2h (s0:ByteArray)(n1:Int)(l2:List (Ty.den TI))(l3:List (Ty.den TNd))(l4:List (Ty.den TI))(l5:List (Ty.den TNd)):Imp (o2b [.s s0,.n n1,.l TI l2,.l TNd l3,.l TI l4,.l TNd l5]) (r2x [.s s0,.n n1,.l TI l2,.l TNd l3,.l TI l4,.l TNd l5]):=
(.pa [1]
(.nd (fun h0=>
(.nd (fun h1=>
(.nd (fun h2=>
(.pa [1,1]
.lf)) (fun h2=>
.none))) (fun h1=>
.none))) (fun h0=>
.none)))
def cs_10:FuncId→Option a0q:=a0s 48 B10 cs_9
theorem y1s:CsOk Tryz.prog cs_10:=a0g j2n B10_ok
def v2i (env:List Dat):Tree (Nat×List Dat):=Lk.boxC false LK cs_10 72 ls0 (mkF [rtV 0] [] [] [(.own 0,[.arr TI 0])] fun _=>none) env
theorem k3u: ∃f:List Dat→Option (Nat×List Dat),∀env,f env=(v2i env).sel:=⟨fun env=>(v2i env).sel,fun _=>rfl⟩
def h1f:List Dat→Option (Nat×List Dat):=Classical.choose k3u
theorem v1k (env:List Dat):h1f env=(v2i env).sel:=Classical.choose_spec k3u env
def B11:FBox:=mkF [rtV 0] [] [] [(.own 0,[.arr TI 0])] h1f
theorem B11_ok:a0v Tryz.prog 72 (a0j B11):=a0p (op:=h1f) y1s hmix false (LsOk.none _ _ _) (fun env x h=>by rw[v1k]at h;rw[←boxC_lk];exact h)
def q2d:List Dat→Tree (Nat×List Dat)
 |[.s s0,.n n1,.l (Ty.int IntKind.i64) l2,.l (Ty.pair (Ty.int IntKind.i64) Ty.bool) l3,.l (Ty.int IntKind.i64) l4,.l (Ty.pair (Ty.int IntKind.i64) Ty.bool) l5]=>
  (.node (decide (List.length l2*8≤140737488355328))
   (.node (decide ((List.length l2+List.length l4)*8≤140737488355328))
   (.leaf ((0,[.l TI (l2++l4)])))
   (.bad 62))
   (.bad 60))
 |_=>.bad 0
theorem f2i (s0:ByteArray)(n1:Int)(l2:List (Ty.den TI))(l3:List (Ty.den TNd))(l4:List (Ty.den TI))(l5:List (Ty.den TNd)):Imp (q2d [.s s0,.n n1,.l TI l2,.l TNd l3,.l TI l4,.l TNd l5]) (v2i [.s s0,.n n1,.l TI l2,.l TNd l3,.l TI l4,.l TNd l5]):=
(.nd (fun h0=>
(.nd (fun h1=>
(.pa [1]
.lf)) (fun h1=>
.none))) (fun h0=>
.none))
def cs_11:FuncId→Option a0q:=a0s 72 B11 cs_10
theorem u1r:CsOk Tryz.prog cs_11:=a0g y1s B11_ok
def u2a (env:List Dat):Tree (Nat×List Dat):=Lk.boxC false LK cs_11 74 ls0 (mkF [rtV 0] [] [] [(.own 0,[.arr TNd 0])] fun _=>none) env
theorem k3p: ∃f:List Dat→Option (Nat×List Dat),∀env,f env=(u2a env).sel:=⟨fun env=>(u2a env).sel,fun _=>rfl⟩
def i1r:List Dat→Option (Nat×List Dat):=Classical.choose k3p
theorem y1p (env:List Dat):i1r env=(u2a env).sel:=Classical.choose_spec k3p env
def B12:FBox:=mkF [rtV 0] [] [] [(.own 0,[.arr TNd 0])] i1r
theorem B12_ok:a0v Tryz.prog 74 (a0j B12):=a0p (op:=i1r) u1r hmix false (LsOk.none _ _ _) (fun env x h=>by rw[y1p]at h;rw[←boxC_lk];exact h)
def m2o:List Dat→Tree (Nat×List Dat)
 |[.s s0,.n n1,.l (Ty.int IntKind.i64) l2,.l (Ty.pair (Ty.int IntKind.i64) Ty.bool) l3,.l (Ty.int IntKind.i64) l4,.l (Ty.pair (Ty.int IntKind.i64) Ty.bool) l5]=>
  (.node (decide (List.length l3*16≤140737488355328))
   (.node (decide ((List.length l3+List.length l5)*16≤140737488355328))
   (.leaf ((0,[.l TNd (l3++l5)])))
   (.bad 62))
   (.bad 60))
 |_=>.bad 0
theorem d2t (s0:ByteArray)(n1:Int)(l2:List (Ty.den TI))(l3:List (Ty.den TNd))(l4:List (Ty.den TI))(l5:List (Ty.den TNd)):Imp (m2o [.s s0,.n n1,.l TI l2,.l TNd l3,.l TI l4,.l TNd l5]) (u2a [.s s0,.n n1,.l TI l2,.l TNd l3,.l TI l4,.l TNd l5]):=
(.nd (fun h0=>
(.nd (fun h1=>
(.pa [1]
.lf)) (fun h1=>
.none))) (fun h0=>
.none))
def b2p:FuncId→Option a0q:=a0s 74 B12 cs_11
theorem t0q:CsOk Tryz.prog b2p:=a0g u1r B12_ok
def i0m (env:List Dat):Tree Step:=Lk.stepMC false LK b2p 147 2 ls0 (mkM 1 [] [(sh 17 [(1,fnV 148 [.ptr 0 0]),(7,.imm TI 0),(8,.int .i64 1),(9,.int .i64 2)],[.cells [.int .i64 3]])] [] [(.exit 0,sh 17 [],[.gone]),(.ret,sh 17 [(4,.bool 0)],[.gone])] fun _=>none) env
theorem i3j: ∃f:List Dat→Option (Nat×List Dat),∀env,f env=a0b i0m FU env:=⟨a0b i0m FU,fun _=>rfl⟩
def t0l:List Dat→Option (Nat×List Dat):=Classical.choose i3j
theorem w0h (env:List Dat):t0l env=a0b i0m FU env:=Classical.choose_spec i3j env
def v1p:MBox:=mkM 1 [] [(sh 17 [(1,fnV 148 [.ptr 0 0]),(7,.imm TI 0),(8,.int .i64 1),(9,.int .i64 2)],[.cells [.int .i64 3]])] [] [(.exit 0,sh 17 [],[.gone]),(.ret,sh 17 [(4,.bool 0)],[.gone])] t0l
theorem g2j:v1p=mkM 1 [] [(sh 17 [(1,fnV 148 [.ptr 0 0]),(7,.imm TI 0),(8,.int .i64 1),(9,.int .i64 2)],[.cells [.int .i64 3]])] [] [(.exit 0,sh 17 [],[.gone]),(.ret,sh 17 [(4,.bool 0)],[.gone])] (a0b i0m FU):=congrArg (fun f=>mkM 1 [] [(sh 17 [(1,fnV 148 [.ptr 0 0]),(7,.imm TI 0),(8,.int .i64 1),(9,.int .i64 2)],[.cells [.int .i64 3]])] [] [(.exit 0,sh 17 [],[.gone]),(.ret,sh 17 [(4,.bool 0)],[.gone])] f) (funext w0h)
theorem f2d: ∀t s x,(a0h v1p t s).sel=some x→a0k Tryz.prog 1 (.loop (cAt Tryz.prog 147 2)) t s x:=by
 rw[g2j]
 exact a0o (st:=i0m) (m:=FU) t0q hmix false (LsOk.none _ _ _) (by kernel_rfl) (fun env y h=>by rw[←stepMC_lk];exact h)
def j0y:List Dat→Tree Step
 |[.l (Ty.int IntKind.i64) l0,.n n1,.n n2,.n n3]=>
  (.node (decide (n2<n1))
   (.node ((List.getD l0 (Int.toNat n2) (0:Int):Int)==n3)
   (.leaf (Step.stop 1 [.b true]))
   (.leaf (Step.go [.k 0,.l TI l0,.n n1,.n (IntKind.wrap .i64 (n2+(1:Int))),.n n3])))
   (.leaf (Step.stop 0 [])))
 |_=>.bad 0
theorem h0p (l0:List (Ty.den TI))(n1:Int)(n2:Int)(n3:Int)(g0:0≤n2)(g1:n1=(l0.length:Int)):Imp (j0y [.l TI l0,.n n1,.n n2,.n n3]) (i0m [.k 0,.l TI l0,.n n1,.n n2,.n n3]):=
(.pa [1]
(.nd (fun h0=>
(.pt (c:=(inR n2 (List.length l0))) (by kernel_rfl) (by kernel_rfl) (by(simp only[w64d,decide_eq_true_eq,decide_eq_false_iff_not,beq_iff_eq,beq_eq_false_iff_ne,bne_iff_ne,ne_eq,inR,Bool.and_eq_true,Bool.and_eq_false_iff,Bool.not_eq_true',Bool.not_eq_false',Bool.not_eq_eq_eq_not,Bool.not_true,Bool.not_false]at*;omega))
(.pa [1,1]
(.nd (fun h1=>
(.pa [1]
.lf)) (fun h1=>
(.pa [1]
.lf)))))) (fun h0=>
(.pa [1]
.lf))))
theorem n2z:LsOk Tryz.prog (List.length ([.cells [.int .i64 1]]:List PB)) (lsM [(2,v1p)] (List.length ([.cells [.int .i64 1]]:List PB))) (a0r Tryz.prog 147):=LsOk.many fun j B hB hk c hc hi=>by
 simp only[b0d]at hB
 split at hB
 ·rename_i e;have:=Nat.eq_of_beq_eq_true e;subst this;cases hB
  have e1:p0c Tryz.prog 147 2=[cAt Tryz.prog 147 2]:=a0e (by kernel_rfl)
  have e2:c∈p0c Tryz.prog 147 2:=a0d hc hi
  rw[e1]at e2;cases List.mem_singleton.1 e2;exact f2d
 cases hB
def t1t (env:List Dat):Tree (Nat×List Dat):=Lk.boxC false LK b2p 147 (lsM [(2,v1p)] (List.length ([.cells [.int .i64 1]]:List PB))) (mkF [.imm TI 0,fnV 148 [.ptr 0 0]] [.cells [.int .i64 1]] [] [(.bool 0,[.gone])] fun _=>none) env
theorem k3a: ∃f:List Dat→Option (Nat×List Dat),∀env,f env=(t1t env).sel:=⟨fun env=>(t1t env).sel,fun _=>rfl⟩
def m1v:List Dat→Option (Nat×List Dat):=Classical.choose k3a
theorem o1u (env:List Dat):m1v env=(t1t env).sel:=Classical.choose_spec k3a env
def B51a:FBox:=mkF [.imm TI 0,fnV 148 [.ptr 0 0]] [.cells [.int .i64 1]] [] [(.bool 0,[.gone])] m1v
theorem B51a_ok:a0v Tryz.prog 147 (a0j B51a):=a0p (op:=m1v) t0q hmix false (n2z) (fun env x h=>by rw[o1u]at h;rw[←boxC_lk];exact h)
def w1h:List Dat→Tree (Nat×List Dat)
 |[.l (Ty.int IntKind.i64) l0,.n n1]=>
  (let r1:Option (Nat×List Dat):=(t0l [.k 0,.l TI l0,.n (↑(List.length l0):Int),.n (0:Int),.n n1]);
   (.node (isK 0 [] r1)
   (.leaf ((0,[.b false])))
   (.node (isK 1 [HK.b] r1)
    (.leaf ((0,[.b (gb (dOf r1) 0)])))
    (.bad 351))))
 |_=>.bad 0
theorem t1f (l0:List (Ty.den TI))(n1:Int):Imp (w1h [.l TI l0,.n n1]) (t1t [.l TI l0,.n n1]):=
(.nd (fun h0=>
(.pa [1]
.lf)) (fun h0=>
(.nd (fun h1=>
(.pa [1]
.lf)) (fun h1=>
.none))))
def i0h (env:List Dat):Tree Step:=Lk.stepMC false LK b2p 147 2 ls0 (mkM 2 [] [(sh 17 [(1,fnV 149 [.ptr 0 0,.ptr 1 0]),(7,.imm TI 0),(8,.int .i64 1),(9,.int .i64 2)],[.cells [fnV 132 []],.cells [.int .i64 3]])] [] [(.exit 0,sh 17 [],[.gone,.gone]),(.ret,sh 17 [(4,.bool 0)],[.gone,.gone])] fun _=>none) env
theorem h3y: ∃f:List Dat→Option (Nat×List Dat),∀env,f env=a0b i0h FU env:=⟨a0b i0h FU,fun _=>rfl⟩
def t0g:List Dat→Option (Nat×List Dat):=Classical.choose h3y
theorem w0p (env:List Dat):t0g env=a0b i0h FU env:=Classical.choose_spec h3y env
def z1x:MBox:=mkM 2 [] [(sh 17 [(1,fnV 149 [.ptr 0 0,.ptr 1 0]),(7,.imm TI 0),(8,.int .i64 1),(9,.int .i64 2)],[.cells [fnV 132 []],.cells [.int .i64 3]])] [] [(.exit 0,sh 17 [],[.gone,.gone]),(.ret,sh 17 [(4,.bool 0)],[.gone,.gone])] t0g
theorem b2e:z1x=mkM 2 [] [(sh 17 [(1,fnV 149 [.ptr 0 0,.ptr 1 0]),(7,.imm TI 0),(8,.int .i64 1),(9,.int .i64 2)],[.cells [fnV 132 []],.cells [.int .i64 3]])] [] [(.exit 0,sh 17 [],[.gone,.gone]),(.ret,sh 17 [(4,.bool 0)],[.gone,.gone])] (a0b i0h FU):=congrArg (fun f=>mkM 2 [] [(sh 17 [(1,fnV 149 [.ptr 0 0,.ptr 1 0]),(7,.imm TI 0),(8,.int .i64 1),(9,.int .i64 2)],[.cells [fnV 132 []],.cells [.int .i64 3]])] [] [(.exit 0,sh 17 [],[.gone,.gone]),(.ret,sh 17 [(4,.bool 0)],[.gone,.gone])] f) (funext w0p)
theorem c2m: ∀t s x,(a0h z1x t s).sel=some x→a0k Tryz.prog 2 (.loop (cAt Tryz.prog 147 2)) t s x:=by
 rw[b2e]
 exact a0o (st:=i0h) (m:=FU) t0q hmix false (LsOk.none _ _ _) (by kernel_rfl) (fun env y h=>by rw[←stepMC_lk];exact h)
def k0n:List Dat→Tree Step
 |[.l (Ty.int IntKind.i64) l0,.n n1,.n n2,.n n3]=>
  (.node (decide (n2<n1))
   (.node ((List.getD l0 (Int.toNat n2) (0:Int):Int)==n3)
   (.leaf (Step.stop 1 [.b true]))
   (.leaf (Step.go [.k 0,.l TI l0,.n n1,.n (IntKind.wrap .i64 (n2+(1:Int))),.n n3])))
   (.leaf (Step.stop 0 [])))
 |_=>.bad 0
theorem h0y (l0:List (Ty.den TI))(n1:Int)(n2:Int)(n3:Int)(g0:0≤n2)(g1:n1=(l0.length:Int)):Imp (k0n [.l TI l0,.n n1,.n n2,.n n3]) (i0h [.k 0,.l TI l0,.n n1,.n n2,.n n3]):=
(.pa [1]
(.nd (fun h0=>
(.pt (c:=(inR n2 (List.length l0))) (by kernel_rfl) (by kernel_rfl) (by(simp only[w64d,decide_eq_true_eq,decide_eq_false_iff_not,beq_iff_eq,beq_eq_false_iff_ne,bne_iff_ne,ne_eq,inR,Bool.and_eq_true,Bool.and_eq_false_iff,Bool.not_eq_true',Bool.not_eq_false',Bool.not_eq_eq_eq_not,Bool.not_true,Bool.not_false]at*;omega))
(.pa [1,1,1,1,1,1,1]
(.nd (fun h1=>
(.pa [1]
.lf)) (fun h1=>
(.pa [1]
.lf)))))) (fun h0=>
(.pa [1]
.lf))))
theorem p2k:LsOk Tryz.prog (List.length ([.cells [fnV 132 []],.cells [.int .i64 1]]:List PB)) (lsM [(2,z1x)] (List.length ([.cells [fnV 132 []],.cells [.int .i64 1]]:List PB))) (a0r Tryz.prog 147):=LsOk.many fun j B hB hk c hc hi=>by
 simp only[b0d]at hB
 split at hB
 ·rename_i e;have:=Nat.eq_of_beq_eq_true e;subst this;cases hB
  have e1:p0c Tryz.prog 147 2=[cAt Tryz.prog 147 2]:=a0e (by kernel_rfl)
  have e2:c∈p0c Tryz.prog 147 2:=a0d hc hi
  rw[e1]at e2;cases List.mem_singleton.1 e2;exact c2m
 cases hB
def v1y (env:List Dat):Tree (Nat×List Dat):=Lk.boxC false LK b2p 147 (lsM [(2,z1x)] (List.length ([.cells [fnV 132 []],.cells [.int .i64 1]]:List PB))) (mkF [.imm TI 0,fnV 149 [.ptr 0 0,.ptr 1 0]] [.cells [fnV 132 []],.cells [.int .i64 1]] [] [(.bool 0,[.gone,.gone])] fun _=>none) env
theorem j3y: ∃f:List Dat→Option (Nat×List Dat),∀env,f env=(v1y env).sel:=⟨fun env=>(v1y env).sel,fun _=>rfl⟩
def l1j:List Dat→Option (Nat×List Dat):=Classical.choose j3y
theorem o1i (env:List Dat):l1j env=(v1y env).sel:=Classical.choose_spec j3y env
def B51b:FBox:=mkF [.imm TI 0,fnV 149 [.ptr 0 0,.ptr 1 0]] [.cells [fnV 132 []],.cells [.int .i64 1]] [] [(.bool 0,[.gone,.gone])] l1j
theorem B51b_ok:a0v Tryz.prog 147 (a0j B51b):=a0p (op:=l1j) t0q hmix false (p2k) (fun env x h=>by rw[o1i]at h;rw[←boxC_lk];exact h)
def w1j:List Dat→Tree (Nat×List Dat)
 |[.l (Ty.int IntKind.i64) l0,.n n1]=>
  (let r1:Option (Nat×List Dat):=(t0g [.k 0,.l TI l0,.n (↑(List.length l0):Int),.n (0:Int),.n n1]);
   (.node (isK 0 [] r1)
   (.leaf ((0,[.b false])))
   (.node (isK 1 [HK.b] r1)
    (.leaf ((0,[.b (gb (dOf r1) 0)])))
    (.bad 351))))
 |_=>.bad 0
theorem t1e (l0:List (Ty.den TI))(n1:Int):Imp (w1j [.l TI l0,.n n1]) (v1y [.l TI l0,.n n1]):=
(.nd (fun h0=>
(.pa [1]
.lf)) (fun h0=>
(.nd (fun h1=>
(.pa [1]
.lf)) (fun h1=>
.none))))
def o2d:FuncId→Option a0q:=e1c 147 [B51a,B51b] b2p
theorem p1s:CsOk Tryz.prog o2d:=h0a t0q fun B hB=>by
 simp only[List.mem_cons,List.not_mem_nil,or_false]at hB
 rcases hB with rfl|rfl
 ·exact B51a_ok
 ·exact B51b_ok
def u2x (env:List Dat):Tree (Nat×List Dat):=Lk.boxC false LK o2d 130 ls0 (mkF [.imm TI 0,.int .i64 1] [] [] [(.bool 0,[])] fun _=>none) env
theorem k3v: ∃f:List Dat→Option (Nat×List Dat),∀env,f env=(u2x env).sel:=⟨fun env=>(u2x env).sel,fun _=>rfl⟩
def m1g:List Dat→Option (Nat×List Dat):=Classical.choose k3v
theorem w1e (env:List Dat):m1g env=(u2x env).sel:=Classical.choose_spec k3v env
def B33:FBox:=mkF [.imm TI 0,.int .i64 1] [] [] [(.bool 0,[])] m1g
theorem B33_ok:a0v Tryz.prog 130 (a0j B33):=a0p (op:=m1g) p1s hmix false (LsOk.none _ _ _) (fun env x h=>by rw[w1e]at h;rw[←boxC_lk];exact h)
def o2o:List Dat→Tree (Nat×List Dat)
 |[.l (Ty.int IntKind.i64) l0,.n n1]=>
  (let r1:Option (Nat×List Dat):=(m1v [.l TI l0,.n n1]);
   (.node (isK 0 [HK.b] r1)
   (.leaf ((0,[.b (gb (dOf r1) 0)])))
   (.bad 351)))
 |_=>.bad 0
theorem a2y (l0:List (Ty.den TI))(n1:Int):Imp (o2o [.l TI l0,.n n1]) (u2x [.l TI l0,.n n1]):=
(.pa [1]
(.nd (fun h0=>
(.pa [1,1]
.lf)) (fun h0=>
.none)))
def u2b:FuncId→Option a0q:=a0s 130 B33 o2d
theorem j1l:CsOk Tryz.prog u2b:=a0g p1s B33_ok
def o0c (env:List Dat):Tree Step:=Lk.stepMC false LK u2b 131 2 ls0 (mkM 0 [] [(sh 20 [(0,.imm TI 0),(3,.ptr 0 0),(7,.imm TI 1),(8,.int .i64 2),(9,.int .i64 3)],[.cells [fnV 132 []]])] [] [(.exit 0,sh 20 [],[]),(.ret,sh 20 [(4,.bool 0)],[])] fun _=>none) env
theorem i3r: ∃f:List Dat→Option (Nat×List Dat),∀env,f env=a0b o0c FU env:=⟨a0b o0c FU,fun _=>rfl⟩
def z0t:List Dat→Option (Nat×List Dat):=Classical.choose i3r
theorem b1n (env:List Dat):z0t env=a0b o0c FU env:=Classical.choose_spec i3r env
def t2q:MBox:=mkM 0 [] [(sh 20 [(0,.imm TI 0),(3,.ptr 0 0),(7,.imm TI 1),(8,.int .i64 2),(9,.int .i64 3)],[.cells [fnV 132 []]])] [] [(.exit 0,sh 20 [],[]),(.ret,sh 20 [(4,.bool 0)],[])] z0t
theorem o2u:t2q=mkM 0 [] [(sh 20 [(0,.imm TI 0),(3,.ptr 0 0),(7,.imm TI 1),(8,.int .i64 2),(9,.int .i64 3)],[.cells [fnV 132 []]])] [] [(.exit 0,sh 20 [],[]),(.ret,sh 20 [(4,.bool 0)],[])] (a0b o0c FU):=congrArg (fun f=>mkM 0 [] [(sh 20 [(0,.imm TI 0),(3,.ptr 0 0),(7,.imm TI 1),(8,.int .i64 2),(9,.int .i64 3)],[.cells [fnV 132 []]])] [] [(.exit 0,sh 20 [],[]),(.ret,sh 20 [(4,.bool 0)],[])] f) (funext b1n)
theorem j2v: ∀t s x,(a0h t2q t s).sel=some x→a0k Tryz.prog 0 (.loop (cAt Tryz.prog 131 2)) t s x:=by
 rw[o2u]
 exact a0o (st:=o0c) (m:=FU) j1l hmix false (LsOk.none _ _ _) (by kernel_rfl) (fun env y h=>by rw[←stepMC_lk];exact h)
def n0y:List Dat→Tree Step
 |[.l (Ty.int IntKind.i64) l0,.n n1,.n n2]=>
  (.node (decide (n2<n1))
   (let r1:Option (Nat×List Dat):=(l1j [.l TI (List.take (Int.toNat n2) l0),.n (List.getD l0 (Int.toNat n2) (0:Int))]);
   (.node (isK 0 [HK.b] r1)
    (.node (gb (dOf r1) 0)
    (.leaf (Step.stop 1 [.b true]))
    (.leaf (Step.go [.k 0,.l TI l0,.l TI l0,.n n1,.n (IntKind.wrap .i64 (n2+(1:Int)))])))
    (.bad 351)))
   (.leaf (Step.stop 0 [])))
 |_=>.bad 0
theorem j0g (l0:List (Ty.den TI))(n1:Int)(n2:Int)(g0:0≤n2)(g1:n1=(l0.length:Int)):Imp (n0y [.l TI l0,.n n1,.n n2]) (o0c [.k 0,.l TI l0,.l TI l0,.n n1,.n n2]):=
(.pa [1]
(.nd (fun h0=>
(.pt (c:=(inR n2 (List.length l0))) (by kernel_rfl) (by kernel_rfl) (by(simp only[w64d,decide_eq_true_eq,decide_eq_false_iff_not,beq_iff_eq,beq_eq_false_iff_ne,bne_iff_ne,ne_eq,inR,Bool.and_eq_true,Bool.and_eq_false_iff,Bool.not_eq_true',Bool.not_eq_false',Bool.not_eq_eq_eq_not,Bool.not_true,Bool.not_false]at*;omega))
(.pt (c:=(decide ((0:Int)≤n2)&&decide (n2≤(↑(List.length l0):Int)))) (by kernel_rfl) (by kernel_rfl) (by(simp only[w64d,decide_eq_true_eq,decide_eq_false_iff_not,beq_iff_eq,beq_eq_false_iff_ne,bne_iff_ne,ne_eq,inR,Bool.and_eq_true,Bool.and_eq_false_iff,Bool.not_eq_true',Bool.not_eq_false',Bool.not_eq_eq_eq_not,Bool.not_true,Bool.not_false]at*;omega))
(.pt (c:=(true&&decide ((0:Int)≤n2))) (by kernel_rfl) (by kernel_rfl) (by(simp[*];done))
(.pa [1]
(.nd (fun h1=>
(.pa [1]
(.nd (fun h2=>
(.pa [1]
.lf)) (fun h2=>
(.pa [1]
.lf))))) (fun h1=>
.none))))))) (fun h0=>
(.pa [1]
.lf))))
theorem r2w:LsOk Tryz.prog (List.length ([]:List PB)) (lsM [(2,t2q)] (List.length ([]:List PB))) (a0r Tryz.prog 131):=LsOk.many fun j B hB hk c hc hi=>by
 simp only[b0d]at hB
 split at hB
 ·rename_i e;have:=Nat.eq_of_beq_eq_true e;subst this;cases hB
  have e1:p0c Tryz.prog 131 2=[cAt Tryz.prog 131 2]:=a0e (by kernel_rfl)
  have e2:c∈p0c Tryz.prog 131 2:=a0d hc hi
  rw[e1]at e2;cases List.mem_singleton.1 e2;exact j2v
 cases hB
def t2n (env:List Dat):Tree (Nat×List Dat):=Lk.boxC false LK u2b 131 (lsM [(2,t2q)] (List.length ([]:List PB))) (mkF [.imm TI 0,fnV 132 []] [] [] [(.bool 0,[])] fun _=>none) env
theorem l3d: ∃f:List Dat→Option (Nat×List Dat),∀env,f env=(t2n env).sel:=⟨fun env=>(t2n env).sel,fun _=>rfl⟩
def k2g:List Dat→Option (Nat×List Dat):=Classical.choose l3d
theorem z1a (env:List Dat):k2g env=(t2n env).sel:=Classical.choose_spec l3d env
def B34:FBox:=mkF [.imm TI 0,fnV 132 []] [] [] [(.bool 0,[])] k2g
theorem B34_ok:a0v Tryz.prog 131 (a0j B34):=a0p (op:=k2g) j1l hmix false (r2w) (fun env x h=>by rw[z1a]at h;rw[←boxC_lk];exact h)
def p2w:List Dat→Tree (Nat×List Dat)
 |[.l (Ty.int IntKind.i64) l0]=>
  (let r1:Option (Nat×List Dat):=(z0t [.k 0,.l TI l0,.l TI l0,.n (↑(List.length l0):Int),.n (0:Int)]);
   (.node (isK 0 [] r1)
   (.leaf ((0,[.b false])))
   (.node (isK 1 [HK.b] r1)
    (.leaf ((0,[.b (gb (dOf r1) 0)])))
    (.bad 351))))
 |_=>.bad 0
theorem f2f (l0:List (Ty.den TI)):Imp (p2w [.l TI l0]) (t2n [.l TI l0]):=
(.nd (fun h0=>
(.pa [1]
.lf)) (fun h0=>
(.nd (fun h1=>
(.pa [1]
.lf)) (fun h1=>
.none))))
def e1e:FuncId→Option a0q:=a0s 131 B34 u2b
theorem f0p:CsOk Tryz.prog e1e:=a0g j1l B34_ok
def i0l (env:List Dat):Tree Step:=Lk.stepMC false LK e1e 150 2 ls0 (mkM 2 [] [(sh 17 [(1,fnV 151 [.ptr 0 0,.ptr 1 0]),(7,.imm TNd 0),(8,.int .i64 1),(9,.int .i64 2)],[.cells [fnV 134 []],.cells [.int .i64 3,.bool 4]])] [] [(.exit 0,sh 17 [],[.gone,.gone]),(.ret,sh 17 [(4,.bool 0)],[.gone,.gone])] fun _=>none) env
theorem h3x: ∃f:List Dat→Option (Nat×List Dat),∀env,f env=a0b i0l FU env:=⟨a0b i0l FU,fun _=>rfl⟩
def s0r:List Dat→Option (Nat×List Dat):=Classical.choose h3x
theorem x0d (env:List Dat):s0r env=a0b i0l FU env:=Classical.choose_spec h3x env
def v1a:MBox:=mkM 2 [] [(sh 17 [(1,fnV 151 [.ptr 0 0,.ptr 1 0]),(7,.imm TNd 0),(8,.int .i64 1),(9,.int .i64 2)],[.cells [fnV 134 []],.cells [.int .i64 3,.bool 4]])] [] [(.exit 0,sh 17 [],[.gone,.gone]),(.ret,sh 17 [(4,.bool 0)],[.gone,.gone])] s0r
theorem f2p:v1a=mkM 2 [] [(sh 17 [(1,fnV 151 [.ptr 0 0,.ptr 1 0]),(7,.imm TNd 0),(8,.int .i64 1),(9,.int .i64 2)],[.cells [fnV 134 []],.cells [.int .i64 3,.bool 4]])] [] [(.exit 0,sh 17 [],[.gone,.gone]),(.ret,sh 17 [(4,.bool 0)],[.gone,.gone])] (a0b i0l FU):=congrArg (fun f=>mkM 2 [] [(sh 17 [(1,fnV 151 [.ptr 0 0,.ptr 1 0]),(7,.imm TNd 0),(8,.int .i64 1),(9,.int .i64 2)],[.cells [fnV 134 []],.cells [.int .i64 3,.bool 4]])] [] [(.exit 0,sh 17 [],[.gone,.gone]),(.ret,sh 17 [(4,.bool 0)],[.gone,.gone])] f) (funext x0d)
theorem f2l: ∀t s x,(a0h v1a t s).sel=some x→a0k Tryz.prog 2 (.loop (cAt Tryz.prog 150 2)) t s x:=by
 rw[f2p]
 exact a0o (st:=i0l) (m:=FU) f0p hmix false (LsOk.none _ _ _) (by kernel_rfl) (fun env y h=>by rw[←stepMC_lk];exact h)
def k0d:List Dat→Tree Step
 |[.l (Ty.pair (Ty.int IntKind.i64) Ty.bool) l0,.n n1,.n n2,.n n3,.b b4]=>
  (.node (decide (n2<n1))
   (.node (Prod.fst (List.getD l0 (Int.toNat n2) (Ty.dflt TNd))==n3)
   (.leaf (Step.stop 1 [.b true]))
   (.leaf (Step.go [.k 0,.l TNd l0,.n n1,.n (IntKind.wrap .i64 (n2+(1:Int))),.n n3,.b b4])))
   (.leaf (Step.stop 0 [])))
 |_=>.bad 0
theorem h0i (l0:List (Ty.den TNd))(n1:Int)(n2:Int)(n3:Int)(b4:Bool)(g0:0≤n2)(g1:n1=(l0.length:Int)):Imp (k0d [.l TNd l0,.n n1,.n n2,.n n3,.b b4]) (i0l [.k 0,.l TNd l0,.n n1,.n n2,.n n3,.b b4]):=
(.pa [1]
(.nd (fun h0=>
(.pt (c:=(inR n2 (List.length l0))) (by kernel_rfl) (by kernel_rfl) (by(simp only[w64d,decide_eq_true_eq,decide_eq_false_iff_not,beq_iff_eq,beq_eq_false_iff_ne,bne_iff_ne,ne_eq,inR,Bool.and_eq_true,Bool.and_eq_false_iff,Bool.not_eq_true',Bool.not_eq_false',Bool.not_eq_eq_eq_not,Bool.not_true,Bool.not_false]at*;omega))
(.pa [1,1,1,1,1,1,1]
(.nd (fun h1=>
(.pa [1]
.lf)) (fun h1=>
(.pa [1]
.lf)))))) (fun h0=>
(.pa [1]
.lf))))
theorem g2w:LsOk Tryz.prog (List.length ([.cells [fnV 134 []],.cells [.int .i64 1,.bool 2]]:List PB)) (lsM [(2,v1a)] (List.length ([.cells [fnV 134 []],.cells [.int .i64 1,.bool 2]]:List PB))) (a0r Tryz.prog 150):=LsOk.many fun j B hB hk c hc hi=>by
 simp only[b0d]at hB
 split at hB
 ·rename_i e;have:=Nat.eq_of_beq_eq_true e;subst this;cases hB
  have e1:p0c Tryz.prog 150 2=[cAt Tryz.prog 150 2]:=a0e (by kernel_rfl)
  have e2:c∈p0c Tryz.prog 150 2:=a0d hc hi
  rw[e1]at e2;cases List.mem_singleton.1 e2;exact f2l
 cases hB
def a2i (env:List Dat):Tree (Nat×List Dat):=Lk.boxC false LK e1e 150 (lsM [(2,v1a)] (List.length ([.cells [fnV 134 []],.cells [.int .i64 1,.bool 2]]:List PB))) (mkF [.imm TNd 0,fnV 151 [.ptr 0 0,.ptr 1 0]] [.cells [fnV 134 []],.cells [.int .i64 1,.bool 2]] [] [(.bool 0,[.gone,.gone])] fun _=>none) env
theorem j3z: ∃f:List Dat→Option (Nat×List Dat),∀env,f env=(a2i env).sel:=⟨fun env=>(a2i env).sel,fun _=>rfl⟩
def n1t:List Dat→Option (Nat×List Dat):=Classical.choose j3z
theorem p1l (env:List Dat):n1t env=(a2i env).sel:=Classical.choose_spec j3z env
def B54a:FBox:=mkF [.imm TNd 0,fnV 151 [.ptr 0 0,.ptr 1 0]] [.cells [fnV 134 []],.cells [.int .i64 1,.bool 2]] [] [(.bool 0,[.gone,.gone])] n1t
theorem B54a_ok:a0v Tryz.prog 150 (a0j B54a):=a0p (op:=n1t) f0p hmix false (g2w) (fun env x h=>by rw[p1l]at h;rw[←boxC_lk];exact h)
def a2h:List Dat→Tree (Nat×List Dat)
 |[.l (Ty.pair (Ty.int IntKind.i64) Ty.bool) l0,.n n1,.b b2]=>
  (let r1:Option (Nat×List Dat):=(s0r [.k 0,.l TNd l0,.n (↑(List.length l0):Int),.n (0:Int),.n n1,.b b2]);
   (.node (isK 0 [] r1)
   (.leaf ((0,[.b false])))
   (.node (isK 1 [HK.b] r1)
    (.leaf ((0,[.b (gb (dOf r1) 0)])))
    (.bad 351))))
 |_=>.bad 0
theorem s1m (l0:List (Ty.den TNd))(n1:Int)(b2:Bool):Imp (a2h [.l TNd l0,.n n1,.b b2]) (a2i [.l TNd l0,.n n1,.b b2]):=
(.nd (fun h0=>
(.pa [1]
.lf)) (fun h0=>
(.nd (fun h1=>
(.pa [1]
.lf)) (fun h1=>
.none))))
def i0c (env:List Dat):Tree Step:=Lk.stepMC false LK e1e 150 2 ls0 (mkM 2 [] [(sh 17 [(1,fnV 152 [.ptr 0 0,.ptr 1 0]),(7,.imm TNd 0),(8,.int .i64 1),(9,.int .i64 2)],[.cells [.imm TI 3],laB 4])] [] [(.exit 0,sh 17 [],[.gone,.gone]),(.ret,sh 17 [(4,.bool 0)],[.gone,.gone])] fun _=>none) env
theorem h3u: ∃f:List Dat→Option (Nat×List Dat),∀env,f env=a0b i0c FU env:=⟨a0b i0c FU,fun _=>rfl⟩
def t0v:List Dat→Option (Nat×List Dat):=Classical.choose h3u
theorem x0m (env:List Dat):t0v env=a0b i0c FU env:=Classical.choose_spec h3u env
def x1b:MBox:=mkM 2 [] [(sh 17 [(1,fnV 152 [.ptr 0 0,.ptr 1 0]),(7,.imm TNd 0),(8,.int .i64 1),(9,.int .i64 2)],[.cells [.imm TI 3],laB 4])] [] [(.exit 0,sh 17 [],[.gone,.gone]),(.ret,sh 17 [(4,.bool 0)],[.gone,.gone])] t0v
theorem c2r:x1b=mkM 2 [] [(sh 17 [(1,fnV 152 [.ptr 0 0,.ptr 1 0]),(7,.imm TNd 0),(8,.int .i64 1),(9,.int .i64 2)],[.cells [.imm TI 3],laB 4])] [] [(.exit 0,sh 17 [],[.gone,.gone]),(.ret,sh 17 [(4,.bool 0)],[.gone,.gone])] (a0b i0c FU):=congrArg (fun f=>mkM 2 [] [(sh 17 [(1,fnV 152 [.ptr 0 0,.ptr 1 0]),(7,.imm TNd 0),(8,.int .i64 1),(9,.int .i64 2)],[.cells [.imm TI 3],laB 4])] [] [(.exit 0,sh 17 [],[.gone,.gone]),(.ret,sh 17 [(4,.bool 0)],[.gone,.gone])] f) (funext x0m)
theorem f2b: ∀t s x,(a0h x1b t s).sel=some x→a0k Tryz.prog 2 (.loop (cAt Tryz.prog 150 2)) t s x:=by
 rw[c2r]
 exact a0o (st:=i0c) (m:=FU) f0p hmix false (LsOk.none _ _ _) (by kernel_rfl) (fun env y h=>by rw[←stepMC_lk];exact h)
def k0c:List Dat→Tree Step
 |[.l (Ty.pair (Ty.int IntKind.i64) Ty.bool) l0,.n n1,.n n2,.l (Ty.int IntKind.i64) l3,.l (Ty.str) l4,.l (Ty.pair Ty.str (Ty.int IntKind.i64)) l5,.l (Ty.pair Ty.str (Ty.int IntKind.i64)) l6,.l (Ty.pair Ty.str (Ty.pair (Ty.int IntKind.i64) (Ty.pair (Ty.sl (Ty.int IntKind.i64)) (Ty.pair (Ty.sl (Ty.pair (Ty.int IntKind.i64) Ty.bool)) (Ty.pair (Ty.sl (Ty.int IntKind.i64)) (Ty.sl (Ty.pair (Ty.int IntKind.i64) Ty.bool))))))) l7]=>
  (.node (decide (n2<n1))
   (.node (inR (Prod.fst (List.getD l0 (Int.toNat n2) (Ty.dflt TNd))) (List.length l5))
   (let r1:Option (Nat×List Dat):=(m1g [.l TI l3,.n (Prod.snd (List.getD l5 (Int.toNat (Prod.fst (List.getD l0 (Int.toNat n2) (Ty.dflt TNd)))) (Ty.dflt TPt)))]);
    (.node (isK 0 [HK.b] r1)
    (.node (!gb (dOf r1) 0)
     (.leaf (Step.stop 1 [.b true]))
     (.leaf (Step.go [.k 0,.l TNd l0,.n n1,.n (IntKind.wrap .i64 (n2+(1:Int))),.l TI l3,.l Ty.str l4,.l TPt l5,.l TPt l6,.l TRt l7])))
    (.bad 351)))
   (.bad 10))
   (.leaf (Step.stop 0 [])))
 |_=>.bad 0
theorem h0w (l0:List (Ty.den TNd))(n1:Int)(n2:Int)(l3:List (Ty.den TI))(l4:List (Ty.den TS))(l5:List (Ty.den TPt))(l6:List (Ty.den TPt))(l7:List (Ty.den TRt))(g0:0≤n2)(g1:n1=(l0.length:Int)):Imp (k0c [.l TNd l0,.n n1,.n n2,.l TI l3,.l TS l4,.l TPt l5,.l TPt l6,.l TRt l7]) (i0c [.k 0,.l TNd l0,.n n1,.n n2,.l TI l3,.l TS l4,.l TPt l5,.l TPt l6,.l TRt l7]):=
(.pa [1]
(.nd (fun h0=>
(.pt (c:=(inR n2 (List.length l0))) (by kernel_rfl) (by kernel_rfl) (by(simp only[w64d,decide_eq_true_eq,decide_eq_false_iff_not,beq_iff_eq,beq_eq_false_iff_ne,bne_iff_ne,ne_eq,inR,Bool.and_eq_true,Bool.and_eq_false_iff,Bool.not_eq_true',Bool.not_eq_false',Bool.not_eq_eq_eq_not,Bool.not_true,Bool.not_false]at*;omega))
(.pa [1]
(.nd (fun h1=>
(.nd (fun h2=>
(.pa [1,1,1]
(.nd (fun h3=>
(.pa [1]
.lf)) (fun h3=>
(.pa [1]
.lf))))) (fun h2=>
.none))) (fun h1=>
.none))))) (fun h0=>
(.pa [1]
.lf))))
theorem k2l:LsOk Tryz.prog (List.length ([.cells [.imm TI 1],laB 2]:List PB)) (lsM [(2,x1b)] (List.length ([.cells [.imm TI 1],laB 2]:List PB))) (a0r Tryz.prog 150):=LsOk.many fun j B hB hk c hc hi=>by
 simp only[b0d]at hB
 split at hB
 ·rename_i e;have:=Nat.eq_of_beq_eq_true e;subst this;cases hB
  have e1:p0c Tryz.prog 150 2=[cAt Tryz.prog 150 2]:=a0e (by kernel_rfl)
  have e2:c∈p0c Tryz.prog 150 2:=a0d hc hi
  rw[e1]at e2;cases List.mem_singleton.1 e2;exact f2b
 cases hB
def u1c (env:List Dat):Tree (Nat×List Dat):=Lk.boxC false LK e1e 150 (lsM [(2,x1b)] (List.length ([.cells [.imm TI 1],laB 2]:List PB))) (mkF [.imm TNd 0,fnV 152 [.ptr 0 0,.ptr 1 0]] [.cells [.imm TI 1],laB 2] [] [(.bool 0,[.gone,.gone])] fun _=>none) env
theorem j3x: ∃f:List Dat→Option (Nat×List Dat),∀env,f env=(u1c env).sel:=⟨fun env=>(u1c env).sel,fun _=>rfl⟩
def m1r:List Dat→Option (Nat×List Dat):=Classical.choose j3x
theorem l1l (env:List Dat):m1r env=(u1c env).sel:=Classical.choose_spec j3x env
def B54b:FBox:=mkF [.imm TNd 0,fnV 152 [.ptr 0 0,.ptr 1 0]] [.cells [.imm TI 1],laB 2] [] [(.bool 0,[.gone,.gone])] m1r
theorem B54b_ok:a0v Tryz.prog 150 (a0j B54b):=a0p (op:=m1r) f0p hmix false (k2l) (fun env x h=>by rw[l1l]at h;rw[←boxC_lk];exact h)
def w1x:List Dat→Tree (Nat×List Dat)
 |[.l (Ty.pair (Ty.int IntKind.i64) Ty.bool) l0,.l (Ty.int IntKind.i64) l1,.l (Ty.str) l2,.l (Ty.pair Ty.str (Ty.int IntKind.i64)) l3,.l (Ty.pair Ty.str (Ty.int IntKind.i64)) l4,.l (Ty.pair Ty.str (Ty.pair (Ty.int IntKind.i64) (Ty.pair (Ty.sl (Ty.int IntKind.i64)) (Ty.pair (Ty.sl (Ty.pair (Ty.int IntKind.i64) Ty.bool)) (Ty.pair (Ty.sl (Ty.int IntKind.i64)) (Ty.sl (Ty.pair (Ty.int IntKind.i64) Ty.bool))))))) l5]=>
  (let r1:Option (Nat×List Dat):=(t0v [.k 0,.l TNd l0,.n (↑(List.length l0):Int),.n (0:Int),.l TI l1,.l Ty.str l2,.l TPt l3,.l TPt l4,.l TRt l5]);
   (.node (isK 0 [] r1)
   (.leaf ((0,[.b false])))
   (.node (isK 1 [HK.b] r1)
    (.leaf ((0,[.b (gb (dOf r1) 0)])))
    (.bad 351))))
 |_=>.bad 0
theorem r1x (l0:List (Ty.den TNd))(l1:List (Ty.den TI))(l2:List (Ty.den TS))(l3:List (Ty.den TPt))(l4:List (Ty.den TPt))(l5:List (Ty.den TRt)):Imp (w1x [.l TNd l0,.l TI l1,.l TS l2,.l TPt l3,.l TPt l4,.l TRt l5]) (u1c [.l TNd l0,.l TI l1,.l TS l2,.l TPt l3,.l TPt l4,.l TRt l5]):=
(.nd (fun h0=>
(.pa [1]
.lf)) (fun h0=>
(.nd (fun h1=>
(.pa [1]
.lf)) (fun h1=>
.none))))
def i0o (env:List Dat):Tree Step:=Lk.stepMC false LK e1e 150 2 ls0 (mkM 3 [] [(sh 17 [(1,fnV 153 [.ptr 0 0]),(7,.imm TNd 0),(8,.int .i64 1),(9,.int .i64 2)],[.cells [fnV 152 [.ptr 1 0,.ptr 2 0]],.cells [.imm TI 3],laB 4])] [] [(.exit 0,sh 17 [],[.gone,.gone,.gone]),(.ret,sh 17 [(4,.bool 0)],[.gone,.gone,.gone])] fun _=>none) env
theorem i3k: ∃f:List Dat→Option (Nat×List Dat),∀env,f env=a0b i0o FU env:=⟨a0b i0o FU,fun _=>rfl⟩
def r0h:List Dat→Option (Nat×List Dat):=Classical.choose i3k
theorem w0k (env:List Dat):r0h env=a0b i0o FU env:=Classical.choose_spec i3k env
def z1y:MBox:=mkM 3 [] [(sh 17 [(1,fnV 153 [.ptr 0 0]),(7,.imm TNd 0),(8,.int .i64 1),(9,.int .i64 2)],[.cells [fnV 152 [.ptr 1 0,.ptr 2 0]],.cells [.imm TI 3],laB 4])] [] [(.exit 0,sh 17 [],[.gone,.gone,.gone]),(.ret,sh 17 [(4,.bool 0)],[.gone,.gone,.gone])] r0h
theorem c2s:z1y=mkM 3 [] [(sh 17 [(1,fnV 153 [.ptr 0 0]),(7,.imm TNd 0),(8,.int .i64 1),(9,.int .i64 2)],[.cells [fnV 152 [.ptr 1 0,.ptr 2 0]],.cells [.imm TI 3],laB 4])] [] [(.exit 0,sh 17 [],[.gone,.gone,.gone]),(.ret,sh 17 [(4,.bool 0)],[.gone,.gone,.gone])] (a0b i0o FU):=congrArg (fun f=>mkM 3 [] [(sh 17 [(1,fnV 153 [.ptr 0 0]),(7,.imm TNd 0),(8,.int .i64 1),(9,.int .i64 2)],[.cells [fnV 152 [.ptr 1 0,.ptr 2 0]],.cells [.imm TI 3],laB 4])] [] [(.exit 0,sh 17 [],[.gone,.gone,.gone]),(.ret,sh 17 [(4,.bool 0)],[.gone,.gone,.gone])] f) (funext w0k)
theorem d2r: ∀t s x,(a0h z1y t s).sel=some x→a0k Tryz.prog 3 (.loop (cAt Tryz.prog 150 2)) t s x:=by
 rw[c2s]
 exact a0o (st:=i0o) (m:=FU) f0p hmix false (LsOk.none _ _ _) (by kernel_rfl) (fun env y h=>by rw[←stepMC_lk];exact h)
def k0z:List Dat→Tree Step
 |[.l (Ty.pair (Ty.int IntKind.i64) Ty.bool) l0,.n n1,.n n2,.l (Ty.int IntKind.i64) l3,.l (Ty.str) l4,.l (Ty.pair Ty.str (Ty.int IntKind.i64)) l5,.l (Ty.pair Ty.str (Ty.int IntKind.i64)) l6,.l (Ty.pair Ty.str (Ty.pair (Ty.int IntKind.i64) (Ty.pair (Ty.sl (Ty.int IntKind.i64)) (Ty.pair (Ty.sl (Ty.pair (Ty.int IntKind.i64) Ty.bool)) (Ty.pair (Ty.sl (Ty.int IntKind.i64)) (Ty.sl (Ty.pair (Ty.int IntKind.i64) Ty.bool))))))) l7]=>
  (.node (decide (n2<n1))
   (.node (inR (Prod.fst (List.getD l0 (Int.toNat n2) (Ty.dflt TNd))) (List.length l5))
   (let r1:Option (Nat×List Dat):=(m1g [.l TI l3,.n (Prod.snd (List.getD l5 (Int.toNat (Prod.fst (List.getD l0 (Int.toNat n2) (Ty.dflt TNd)))) (Ty.dflt TPt)))]);
    (.node (isK 0 [HK.b] r1)
    (.node (!!gb (dOf r1) 0)
     (.leaf (Step.stop 1 [.b true]))
     (.leaf (Step.go [.k 0,.l TNd l0,.n n1,.n (IntKind.wrap .i64 (n2+(1:Int))),.l TI l3,.l Ty.str l4,.l TPt l5,.l TPt l6,.l TRt l7])))
    (.bad 351)))
   (.bad 10))
   (.leaf (Step.stop 0 [])))
 |_=>.bad 0
theorem h0x (l0:List (Ty.den TNd))(n1:Int)(n2:Int)(l3:List (Ty.den TI))(l4:List (Ty.den TS))(l5:List (Ty.den TPt))(l6:List (Ty.den TPt))(l7:List (Ty.den TRt))(g0:0≤n2)(g1:n1=(l0.length:Int)):Imp (k0z [.l TNd l0,.n n1,.n n2,.l TI l3,.l TS l4,.l TPt l5,.l TPt l6,.l TRt l7]) (i0o [.k 0,.l TNd l0,.n n1,.n n2,.l TI l3,.l TS l4,.l TPt l5,.l TPt l6,.l TRt l7]):=
(.pa [1]
(.nd (fun h0=>
(.pt (c:=(inR n2 (List.length l0))) (by kernel_rfl) (by kernel_rfl) (by(simp only[w64d,decide_eq_true_eq,decide_eq_false_iff_not,beq_iff_eq,beq_eq_false_iff_ne,bne_iff_ne,ne_eq,inR,Bool.and_eq_true,Bool.and_eq_false_iff,Bool.not_eq_true',Bool.not_eq_false',Bool.not_eq_eq_eq_not,Bool.not_true,Bool.not_false]at*;omega))
(.pa [1,1]
(.nd (fun h1=>
(.nd (fun h2=>
(.pa [1,1,1,1]
(.nd (fun h3=>
(.pa [1]
.lf)) (fun h3=>
(.pa [1]
.lf))))) (fun h2=>
.none))) (fun h1=>
.none))))) (fun h0=>
(.pa [1]
.lf))))
theorem p2h:LsOk Tryz.prog (List.length ([.cells [fnV 152 [.ptr 1 0,.ptr 2 0]],.cells [.imm TI 1],laB 2]:List PB)) (lsM [(2,z1y)] (List.length ([.cells [fnV 152 [.ptr 1 0,.ptr 2 0]],.cells [.imm TI 1],laB 2]:List PB))) (a0r Tryz.prog 150):=LsOk.many fun j B hB hk c hc hi=>by
 simp only[b0d]at hB
 split at hB
 ·rename_i e;have:=Nat.eq_of_beq_eq_true e;subst this;cases hB
  have e1:p0c Tryz.prog 150 2=[cAt Tryz.prog 150 2]:=a0e (by kernel_rfl)
  have e2:c∈p0c Tryz.prog 150 2:=a0d hc hi
  rw[e1]at e2;cases List.mem_singleton.1 e2;exact d2r
 cases hB
def x1y (env:List Dat):Tree (Nat×List Dat):=Lk.boxC false LK e1e 150 (lsM [(2,z1y)] (List.length ([.cells [fnV 152 [.ptr 1 0,.ptr 2 0]],.cells [.imm TI 1],laB 2]:List PB))) (mkF [.imm TNd 0,fnV 153 [.ptr 0 0]] [.cells [fnV 152 [.ptr 1 0,.ptr 2 0]],.cells [.imm TI 1],laB 2] [] [(.bool 0,[.gone,.gone,.gone])] fun _=>none) env
theorem k3b: ∃f:List Dat→Option (Nat×List Dat),∀env,f env=(x1y env).sel:=⟨fun env=>(x1y env).sel,fun _=>rfl⟩
def l1k:List Dat→Option (Nat×List Dat):=Classical.choose k3b
theorem p1c (env:List Dat):l1k env=(x1y env).sel:=Classical.choose_spec k3b env
def B54c:FBox:=mkF [.imm TNd 0,fnV 153 [.ptr 0 0]] [.cells [fnV 152 [.ptr 1 0,.ptr 2 0]],.cells [.imm TI 1],laB 2] [] [(.bool 0,[.gone,.gone,.gone])] l1k
theorem B54c_ok:a0v Tryz.prog 150 (a0j B54c):=a0p (op:=l1k) f0p hmix false (p2h) (fun env x h=>by rw[p1c]at h;rw[←boxC_lk];exact h)
def z1f:List Dat→Tree (Nat×List Dat)
 |[.l (Ty.pair (Ty.int IntKind.i64) Ty.bool) l0,.l (Ty.int IntKind.i64) l1,.l (Ty.str) l2,.l (Ty.pair Ty.str (Ty.int IntKind.i64)) l3,.l (Ty.pair Ty.str (Ty.int IntKind.i64)) l4,.l (Ty.pair Ty.str (Ty.pair (Ty.int IntKind.i64) (Ty.pair (Ty.sl (Ty.int IntKind.i64)) (Ty.pair (Ty.sl (Ty.pair (Ty.int IntKind.i64) Ty.bool)) (Ty.pair (Ty.sl (Ty.int IntKind.i64)) (Ty.sl (Ty.pair (Ty.int IntKind.i64) Ty.bool))))))) l5]=>
  (let r1:Option (Nat×List Dat):=(r0h [.k 0,.l TNd l0,.n (↑(List.length l0):Int),.n (0:Int),.l TI l1,.l Ty.str l2,.l TPt l3,.l TPt l4,.l TRt l5]);
   (.node (isK 0 [] r1)
   (.leaf ((0,[.b false])))
   (.node (isK 1 [HK.b] r1)
    (.leaf ((0,[.b (gb (dOf r1) 0)])))
    (.bad 351))))
 |_=>.bad 0
theorem r1y (l0:List (Ty.den TNd))(l1:List (Ty.den TI))(l2:List (Ty.den TS))(l3:List (Ty.den TPt))(l4:List (Ty.den TPt))(l5:List (Ty.den TRt)):Imp (z1f [.l TNd l0,.l TI l1,.l TS l2,.l TPt l3,.l TPt l4,.l TRt l5]) (x1y [.l TNd l0,.l TI l1,.l TS l2,.l TPt l3,.l TPt l4,.l TRt l5]):=
(.nd (fun h0=>
(.pa [1]
.lf)) (fun h0=>
(.nd (fun h1=>
(.pa [1]
.lf)) (fun h1=>
.none))))
def i0y (env:List Dat):Tree Step:=Lk.stepMC false LK e1e 150 2 ls0 (mkM 1 [] [(sh 17 [(1,fnV 154 [.ptr 0 0]),(7,.imm TNd 0),(8,.int .i64 1),(9,.int .i64 2)],[.cells [.int .i64 3]])] [] [(.exit 0,sh 17 [],[.gone]),(.ret,sh 17 [(4,.bool 0)],[.gone])] fun _=>none) env
theorem i3e: ∃f:List Dat→Option (Nat×List Dat),∀env,f env=a0b i0y FU env:=⟨a0b i0y FU,fun _=>rfl⟩
def r0f:List Dat→Option (Nat×List Dat):=Classical.choose i3e
theorem x0e (env:List Dat):r0f env=a0b i0y FU env:=Classical.choose_spec i3e env
def x1l:MBox:=mkM 1 [] [(sh 17 [(1,fnV 154 [.ptr 0 0]),(7,.imm TNd 0),(8,.int .i64 1),(9,.int .i64 2)],[.cells [.int .i64 3]])] [] [(.exit 0,sh 17 [],[.gone]),(.ret,sh 17 [(4,.bool 0)],[.gone])] r0f
theorem e2w:x1l=mkM 1 [] [(sh 17 [(1,fnV 154 [.ptr 0 0]),(7,.imm TNd 0),(8,.int .i64 1),(9,.int .i64 2)],[.cells [.int .i64 3]])] [] [(.exit 0,sh 17 [],[.gone]),(.ret,sh 17 [(4,.bool 0)],[.gone])] (a0b i0y FU):=congrArg (fun f=>mkM 1 [] [(sh 17 [(1,fnV 154 [.ptr 0 0]),(7,.imm TNd 0),(8,.int .i64 1),(9,.int .i64 2)],[.cells [.int .i64 3]])] [] [(.exit 0,sh 17 [],[.gone]),(.ret,sh 17 [(4,.bool 0)],[.gone])] f) (funext x0e)
theorem e2l: ∀t s x,(a0h x1l t s).sel=some x→a0k Tryz.prog 1 (.loop (cAt Tryz.prog 150 2)) t s x:=by
 rw[e2w]
 exact a0o (st:=i0y) (m:=FU) f0p hmix false (LsOk.none _ _ _) (by kernel_rfl) (fun env y h=>by rw[←stepMC_lk];exact h)
def j0f:List Dat→Tree Step
 |[.l (Ty.pair (Ty.int IntKind.i64) Ty.bool) l0,.n n1,.n n2,.n n3]=>
  (.node (decide (n2<n1))
   (.node (Prod.fst (List.getD l0 (Int.toNat n2) (Ty.dflt TNd))==n3)
   (.leaf (Step.stop 1 [.b true]))
   (.leaf (Step.go [.k 0,.l TNd l0,.n n1,.n (IntKind.wrap .i64 (n2+(1:Int))),.n n3])))
   (.leaf (Step.stop 0 [])))
 |_=>.bad 0
theorem h0o (l0:List (Ty.den TNd))(n1:Int)(n2:Int)(n3:Int)(g0:0≤n2)(g1:n1=(l0.length:Int)):Imp (j0f [.l TNd l0,.n n1,.n n2,.n n3]) (i0y [.k 0,.l TNd l0,.n n1,.n n2,.n n3]):=
(.pa [1]
(.nd (fun h0=>
(.pt (c:=(inR n2 (List.length l0))) (by kernel_rfl) (by kernel_rfl) (by(simp only[w64d,decide_eq_true_eq,decide_eq_false_iff_not,beq_iff_eq,beq_eq_false_iff_ne,bne_iff_ne,ne_eq,inR,Bool.and_eq_true,Bool.and_eq_false_iff,Bool.not_eq_true',Bool.not_eq_false',Bool.not_eq_eq_eq_not,Bool.not_true,Bool.not_false]at*;omega))
(.pa [1,1]
(.nd (fun h1=>
(.pa [1]
.lf)) (fun h1=>
(.pa [1]
.lf)))))) (fun h0=>
(.pa [1]
.lf))))
theorem i2u:LsOk Tryz.prog (List.length ([.cells [.int .i64 1]]:List PB)) (lsM [(2,x1l)] (List.length ([.cells [.int .i64 1]]:List PB))) (a0r Tryz.prog 150):=LsOk.many fun j B hB hk c hc hi=>by
 simp only[b0d]at hB
 split at hB
 ·rename_i e;have:=Nat.eq_of_beq_eq_true e;subst this;cases hB
  have e1:p0c Tryz.prog 150 2=[cAt Tryz.prog 150 2]:=a0e (by kernel_rfl)
  have e2:c∈p0c Tryz.prog 150 2:=a0d hc hi
  rw[e1]at e2;cases List.mem_singleton.1 e2;exact e2l
 cases hB
def y1b (env:List Dat):Tree (Nat×List Dat):=Lk.boxC false LK e1e 150 (lsM [(2,x1l)] (List.length ([.cells [.int .i64 1]]:List PB))) (mkF [.imm TNd 0,fnV 154 [.ptr 0 0]] [.cells [.int .i64 1]] [] [(.bool 0,[.gone])] fun _=>none) env
theorem j3w: ∃f:List Dat→Option (Nat×List Dat),∀env,f env=(y1b env).sel:=⟨fun env=>(y1b env).sel,fun _=>rfl⟩
def n1h:List Dat→Option (Nat×List Dat):=Classical.choose j3w
theorem n1b (env:List Dat):n1h env=(y1b env).sel:=Classical.choose_spec j3w env
def B54d:FBox:=mkF [.imm TNd 0,fnV 154 [.ptr 0 0]] [.cells [.int .i64 1]] [] [(.bool 0,[.gone])] n1h
theorem B54d_ok:a0v Tryz.prog 150 (a0j B54d):=a0p (op:=n1h) f0p hmix false (i2u) (fun env x h=>by rw[n1b]at h;rw[←boxC_lk];exact h)
def a2e:List Dat→Tree (Nat×List Dat)
 |[.l (Ty.pair (Ty.int IntKind.i64) Ty.bool) l0,.n n1]=>
  (let r1:Option (Nat×List Dat):=(r0f [.k 0,.l TNd l0,.n (↑(List.length l0):Int),.n (0:Int),.n n1]);
   (.node (isK 0 [] r1)
   (.leaf ((0,[.b false])))
   (.node (isK 1 [HK.b] r1)
    (.leaf ((0,[.b (gb (dOf r1) 0)])))
    (.bad 351))))
 |_=>.bad 0
theorem q1m (l0:List (Ty.den TNd))(n1:Int):Imp (a2e [.l TNd l0,.n n1]) (y1b [.l TNd l0,.n n1]):=
(.nd (fun h0=>
(.pa [1]
.lf)) (fun h0=>
(.nd (fun h1=>
(.pa [1]
.lf)) (fun h1=>
.none))))
def z1j:FuncId→Option a0q:=e1c 150 [B54a,B54b,B54c,B54d] e1e
theorem b1k:CsOk Tryz.prog z1j:=h0a f0p fun B hB=>by
 simp only[List.mem_cons,List.not_mem_nil,or_false]at hB
 rcases hB with rfl|rfl|rfl|rfl
 ·exact B54a_ok
 ·exact B54b_ok
 ·exact B54c_ok
 ·exact B54d_ok
def n0o (env:List Dat):Tree Step:=Lk.stepMC false LK z1j 133 2 ls0 (mkM 0 [] [(sh 20 [(0,.imm TNd 0),(3,.ptr 0 0),(7,.imm TNd 1),(8,.int .i64 2),(9,.int .i64 3)],[.cells [fnV 134 []]])] [] [(.exit 0,sh 20 [],[]),(.ret,sh 20 [(4,.bool 0)],[])] fun _=>none) env
theorem i3y: ∃f:List Dat→Option (Nat×List Dat),∀env,f env=a0b n0o FU env:=⟨a0b n0o FU,fun _=>rfl⟩
def y0c:List Dat→Option (Nat×List Dat):=Classical.choose i3y
theorem d1l (env:List Dat):y0c env=a0b n0o FU env:=Classical.choose_spec i3y env
def s2p:MBox:=mkM 0 [] [(sh 20 [(0,.imm TNd 0),(3,.ptr 0 0),(7,.imm TNd 1),(8,.int .i64 2),(9,.int .i64 3)],[.cells [fnV 134 []]])] [] [(.exit 0,sh 20 [],[]),(.ret,sh 20 [(4,.bool 0)],[])] y0c
theorem j2t:s2p=mkM 0 [] [(sh 20 [(0,.imm TNd 0),(3,.ptr 0 0),(7,.imm TNd 1),(8,.int .i64 2),(9,.int .i64 3)],[.cells [fnV 134 []]])] [] [(.exit 0,sh 20 [],[]),(.ret,sh 20 [(4,.bool 0)],[])] (a0b n0o FU):=congrArg (fun f=>mkM 0 [] [(sh 20 [(0,.imm TNd 0),(3,.ptr 0 0),(7,.imm TNd 1),(8,.int .i64 2),(9,.int .i64 3)],[.cells [fnV 134 []]])] [] [(.exit 0,sh 20 [],[]),(.ret,sh 20 [(4,.bool 0)],[])] f) (funext d1l)
theorem l2v: ∀t s x,(a0h s2p t s).sel=some x→a0k Tryz.prog 0 (.loop (cAt Tryz.prog 133 2)) t s x:=by
 rw[j2t]
 exact a0o (st:=n0o) (m:=FU) b1k hmix false (LsOk.none _ _ _) (by kernel_rfl) (fun env y h=>by rw[←stepMC_lk];exact h)
def o0h:List Dat→Tree Step
 |[.l (Ty.pair (Ty.int IntKind.i64) Ty.bool) l0,.n n1,.n n2]=>
  (.node (decide (n2<n1))
   (let r1:Option (Nat×List Dat):=(n1t [.l TNd (List.take (Int.toNat n2) l0),.n (Prod.fst (List.getD l0 (Int.toNat n2) (Ty.dflt TNd))),.b (Prod.snd (List.getD l0 (Int.toNat n2) (Ty.dflt TNd)))]);
   (.node (isK 0 [HK.b] r1)
    (.node (gb (dOf r1) 0)
    (.leaf (Step.stop 1 [.b true]))
    (.leaf (Step.go [.k 0,.l TNd l0,.l TNd l0,.n n1,.n (IntKind.wrap .i64 (n2+(1:Int)))])))
    (.bad 351)))
   (.leaf (Step.stop 0 [])))
 |_=>.bad 0
theorem l0b (l0:List (Ty.den TNd))(n1:Int)(n2:Int)(g0:0≤n2)(g1:n1=(l0.length:Int)):Imp (o0h [.l TNd l0,.n n1,.n n2]) (n0o [.k 0,.l TNd l0,.l TNd l0,.n n1,.n n2]):=
(.pa [1]
(.nd (fun h0=>
(.pt (c:=(inR n2 (List.length l0))) (by kernel_rfl) (by kernel_rfl) (by(simp only[w64d,decide_eq_true_eq,decide_eq_false_iff_not,beq_iff_eq,beq_eq_false_iff_ne,bne_iff_ne,ne_eq,inR,Bool.and_eq_true,Bool.and_eq_false_iff,Bool.not_eq_true',Bool.not_eq_false',Bool.not_eq_eq_eq_not,Bool.not_true,Bool.not_false]at*;omega))
(.pt (c:=(decide ((0:Int)≤n2)&&decide (n2≤(↑(List.length l0):Int)))) (by kernel_rfl) (by kernel_rfl) (by(simp only[w64d,decide_eq_true_eq,decide_eq_false_iff_not,beq_iff_eq,beq_eq_false_iff_ne,bne_iff_ne,ne_eq,inR,Bool.and_eq_true,Bool.and_eq_false_iff,Bool.not_eq_true',Bool.not_eq_false',Bool.not_eq_eq_eq_not,Bool.not_true,Bool.not_false]at*;omega))
(.pt (c:=(true&&decide ((0:Int)≤n2))) (by kernel_rfl) (by kernel_rfl) (by(simp[*];done))
(.pa [1]
(.nd (fun h1=>
(.pa [1]
(.nd (fun h2=>
(.pa [1]
.lf)) (fun h2=>
(.pa [1]
.lf))))) (fun h1=>
.none))))))) (fun h0=>
(.pa [1]
.lf))))
theorem s2v:LsOk Tryz.prog (List.length ([]:List PB)) (lsM [(2,s2p)] (List.length ([]:List PB))) (a0r Tryz.prog 133):=LsOk.many fun j B hB hk c hc hi=>by
 simp only[b0d]at hB
 split at hB
 ·rename_i e;have:=Nat.eq_of_beq_eq_true e;subst this;cases hB
  have e1:p0c Tryz.prog 133 2=[cAt Tryz.prog 133 2]:=a0e (by kernel_rfl)
  have e2:c∈p0c Tryz.prog 133 2:=a0d hc hi
  rw[e1]at e2;cases List.mem_singleton.1 e2;exact l2v
 cases hB
def u2p (env:List Dat):Tree (Nat×List Dat):=Lk.boxC false LK z1j 133 (lsM [(2,s2p)] (List.length ([]:List PB))) (mkF [.imm TNd 0,fnV 134 []] [] [] [(.bool 0,[])] fun _=>none) env
theorem l3g: ∃f:List Dat→Option (Nat×List Dat),∀env,f env=(u2p env).sel:=⟨fun env=>(u2p env).sel,fun _=>rfl⟩
def i2e:List Dat→Option (Nat×List Dat):=Classical.choose l3g
theorem z1t (env:List Dat):i2e env=(u2p env).sel:=Classical.choose_spec l3g env
def B36:FBox:=mkF [.imm TNd 0,fnV 134 []] [] [] [(.bool 0,[])] i2e
theorem B36_ok:a0v Tryz.prog 133 (a0j B36):=a0p (op:=i2e) b1k hmix false (s2v) (fun env x h=>by rw[z1t]at h;rw[←boxC_lk];exact h)
def n2u:List Dat→Tree (Nat×List Dat)
 |[.l (Ty.pair (Ty.int IntKind.i64) Ty.bool) l0]=>
  (let r1:Option (Nat×List Dat):=(y0c [.k 0,.l TNd l0,.l TNd l0,.n (↑(List.length l0):Int),.n (0:Int)]);
   (.node (isK 0 [] r1)
   (.leaf ((0,[.b false])))
   (.node (isK 1 [HK.b] r1)
    (.leaf ((0,[.b (gb (dOf r1) 0)])))
    (.bad 351))))
 |_=>.bad 0
theorem b2l (l0:List (Ty.den TNd)):Imp (n2u [.l TNd l0]) (u2p [.l TNd l0]):=
(.nd (fun h0=>
(.pa [1]
.lf)) (fun h0=>
(.nd (fun h1=>
(.pa [1]
.lf)) (fun h1=>
.none))))
def cs_36:FuncId→Option a0q:=a0s 133 B36 z1j
theorem a2q:CsOk Tryz.prog cs_36:=a0g b1k B36_ok
def u2r (env:List Dat):Tree (Nat×List Dat):=Lk.boxC false LK cs_36 135 ls0 (mkF [laV 0,rtV 4,.imm TI 10] [] [] [(.bool 0,[])] fun _=>none) env
theorem l3p: ∃f:List Dat→Option (Nat×List Dat),∀env,f env=(u2r env).sel:=⟨fun env=>(u2r env).sel,fun _=>rfl⟩
def i2c:List Dat→Option (Nat×List Dat):=Classical.choose l3p
theorem y1y (env:List Dat):i2c env=(u2r env).sel:=Classical.choose_spec l3p env
def B38:FBox:=mkF [laV 0,rtV 4,.imm TI 10] [] [] [(.bool 0,[])] i2c
theorem B38_ok:a0v Tryz.prog 135 (a0j B38):=a0p (op:=i2c) a2q hmix false (LsOk.none _ _ _) (fun env x h=>by rw[y1y]at h;rw[←boxC_lk];exact h)
def j2d:List Dat→Tree (Nat×List Dat)
 |[.l (Ty.str) l0,.l (Ty.pair Ty.str (Ty.int IntKind.i64)) l1,.l (Ty.pair Ty.str (Ty.int IntKind.i64)) l2,.l (Ty.pair Ty.str (Ty.pair (Ty.int IntKind.i64) (Ty.pair (Ty.sl (Ty.int IntKind.i64)) (Ty.pair (Ty.sl (Ty.pair (Ty.int IntKind.i64) Ty.bool)) (Ty.pair (Ty.sl (Ty.int IntKind.i64)) (Ty.sl (Ty.pair (Ty.int IntKind.i64) Ty.bool))))))) l3,.s s4,.n n5,.l (Ty.int IntKind.i64) l6,.l (Ty.pair (Ty.int IntKind.i64) Ty.bool) l7,.l (Ty.int IntKind.i64) l8,.l (Ty.pair (Ty.int IntKind.i64) Ty.bool) l9,.l (Ty.int IntKind.i64) l10]=>
  (let r1:Option (Nat×List Dat):=(m1r [.l TNd l7,.l TI l10,.l Ty.str l0,.l TPt l1,.l TPt l2,.l TRt l3]);
   (.node (isK 0 [HK.b] r1)
   (.node (!gb (dOf r1) 0)
    (let r2:Option (Nat×List Dat):=(l1k [.l TNd l9,.l TI l10,.l Ty.str l0,.l TPt l1,.l TPt l2,.l TRt l3]);
    (.node (isK 0 [HK.b] r2)
     (.leaf ((0,[.b !gb (dOf r2) 0])))
     (.bad 351)))
    (.leaf ((0,[.b false]))))
   (.bad 351)))
 |_=>.bad 0
theorem f2h (l0:List (Ty.den TS))(l1:List (Ty.den TPt))(l2:List (Ty.den TPt))(l3:List (Ty.den TRt))(s4:ByteArray)(n5:Int)(l6:List (Ty.den TI))(l7:List (Ty.den TNd))(l8:List (Ty.den TI))(l9:List (Ty.den TNd))(l10:List (Ty.den TI)):Imp (j2d [.l TS l0,.l TPt l1,.l TPt l2,.l TRt l3,.s s4,.n n5,.l TI l6,.l TNd l7,.l TI l8,.l TNd l9,.l TI l10]) (u2r [.l TS l0,.l TPt l1,.l TPt l2,.l TRt l3,.s s4,.n n5,.l TI l6,.l TNd l7,.l TI l8,.l TNd l9,.l TI l10]):=
(.pa [1]
(.nd (fun h0=>
(.pa [1]
(.nd (fun h1=>
(.pa [1]
(.nd (fun h2=>
(.pa [1,1]
.lf)) (fun h2=>
.none)))) (fun h1=>
(.pa [0,1]
.lf))))) (fun h0=>
.none)))
def r2o:FuncId→Option a0q:=a0s 135 B38 cs_36
theorem k1c:CsOk Tryz.prog r2o:=a0g a2q B38_ok
def n0s (env:List Dat):Tree Step:=Lk.stepMC false LK r2o 136 2 ls0 (mkM 0 [] [(sh 29 [(2,.imm TI 0),(4,.ptr 0 0),(10,.imm TPt 1),(11,.int .i64 2),(12,.int .i64 3)],[rtB 4])] [] [(.exit 0,sh 29 [],[]),(.ret,sh 29 [(6,.bool 0)],[])] fun _=>none) env
theorem j3e: ∃f:List Dat→Option (Nat×List Dat),∀env,f env=a0b n0s FU env:=⟨a0b n0s FU,fun _=>rfl⟩
def z0p:List Dat→Option (Nat×List Dat):=Classical.choose j3e
theorem b1d (env:List Dat):z0p env=a0b n0s FU env:=Classical.choose_spec j3e env
def s2r:MBox:=mkM 0 [] [(sh 29 [(2,.imm TI 0),(4,.ptr 0 0),(10,.imm TPt 1),(11,.int .i64 2),(12,.int .i64 3)],[rtB 4])] [] [(.exit 0,sh 29 [],[]),(.ret,sh 29 [(6,.bool 0)],[])] z0p
theorem h2r:s2r=mkM 0 [] [(sh 29 [(2,.imm TI 0),(4,.ptr 0 0),(10,.imm TPt 1),(11,.int .i64 2),(12,.int .i64 3)],[rtB 4])] [] [(.exit 0,sh 29 [],[]),(.ret,sh 29 [(6,.bool 0)],[])] (a0b n0s FU):=congrArg (fun f=>mkM 0 [] [(sh 29 [(2,.imm TI 0),(4,.ptr 0 0),(10,.imm TPt 1),(11,.int .i64 2),(12,.int .i64 3)],[rtB 4])] [] [(.exit 0,sh 29 [],[]),(.ret,sh 29 [(6,.bool 0)],[])] f) (funext b1d)
theorem m2t: ∀t s x,(a0h s2r t s).sel=some x→a0k Tryz.prog 0 (.loop (cAt Tryz.prog 136 2)) t s x:=by
 rw[h2r]
 exact a0o (st:=n0s) (m:=FU) k1c hmix false (LsOk.none _ _ _) (by kernel_rfl) (fun env y h=>by rw[←stepMC_lk];exact h)
def n0m:List Dat→Tree Step
 |[.l (Ty.int IntKind.i64) l0,.l (Ty.pair Ty.str (Ty.int IntKind.i64)) l1,.n n2,.n n3,.s s4,.n n5,.l (Ty.int IntKind.i64) l6,.l (Ty.pair (Ty.int IntKind.i64) Ty.bool) l7,.l (Ty.int IntKind.i64) l8,.l (Ty.pair (Ty.int IntKind.i64) Ty.bool) l9]=>
  (.node (decide (n3<n2))
   (let r1:Option (Nat×List Dat):=(m1g [.l TI l0,.n (Prod.snd (List.getD l1 (Int.toNat n3) (Ty.dflt TPt)))]);
   (.node (isK 0 [HK.b] r1)
    (.node (gb (dOf r1) 0)
    (let r2:Option (Nat×List Dat):=(n1h [.l TNd l7,.n n3]);
     (.node (isK 0 [HK.b] r2)
     (.node (!gb (dOf r2) 0)
      (.leaf (Step.stop 1 [.b false]))
      (.leaf (Step.go [.k 0,.l TI l0,.l TPt l1,.n n2,.n (IntKind.wrap .i64 (n3+(1:Int))),.s s4,.n n5,.l TI l6,.l TNd l7,.l TI l8,.l TNd l9])))
     (.bad 351)))
    (.leaf (Step.go [.k 0,.l TI l0,.l TPt l1,.n n2,.n (IntKind.wrap .i64 (n3+(1:Int))),.s s4,.n n5,.l TI l6,.l TNd l7,.l TI l8,.l TNd l9])))
    (.bad 351)))
   (.leaf (Step.stop 0 [])))
 |_=>.bad 0
theorem j0k (l0:List (Ty.den TI))(l1:List (Ty.den TPt))(n2:Int)(n3:Int)(s4:ByteArray)(n5:Int)(l6:List (Ty.den TI))(l7:List (Ty.den TNd))(l8:List (Ty.den TI))(l9:List (Ty.den TNd))(g0:0≤n3)(g1:n2=(l1.length:Int)):Imp (n0m [.l TI l0,.l TPt l1,.n n2,.n n3,.s s4,.n n5,.l TI l6,.l TNd l7,.l TI l8,.l TNd l9]) (n0s [.k 0,.l TI l0,.l TPt l1,.n n2,.n n3,.s s4,.n n5,.l TI l6,.l TNd l7,.l TI l8,.l TNd l9]):=
(.pa [1]
(.nd (fun h0=>
(.pt (c:=(inR n3 (List.length l1))) (by kernel_rfl) (by kernel_rfl) (by(simp only[w64d,decide_eq_true_eq,decide_eq_false_iff_not,beq_iff_eq,beq_eq_false_iff_ne,bne_iff_ne,ne_eq,inR,Bool.and_eq_true,Bool.and_eq_false_iff,Bool.not_eq_true',Bool.not_eq_false',Bool.not_eq_eq_eq_not,Bool.not_true,Bool.not_false]at*;omega))
(.nd (fun h1=>
(.pa [1]
(.nd (fun h2=>
(.pa [1]
(.nd (fun h3=>
(.pa [1]
(.nd (fun h4=>
(.pa [1]
.lf)) (fun h4=>
(.pa [1]
.lf))))) (fun h3=>
.none)))) (fun h2=>
(.pa [0,0,1]
.lf))))) (fun h1=>
.none)))) (fun h0=>
(.pa [1]
.lf))))
theorem t2v:LsOk Tryz.prog (List.length ([]:List PB)) (lsM [(2,s2r)] (List.length ([]:List PB))) (a0r Tryz.prog 136):=LsOk.many fun j B hB hk c hc hi=>by
 simp only[b0d]at hB
 split at hB
 ·rename_i e;have:=Nat.eq_of_beq_eq_true e;subst this;cases hB
  have e1:p0c Tryz.prog 136 2=[cAt Tryz.prog 136 2]:=a0e (by kernel_rfl)
  have e2:c∈p0c Tryz.prog 136 2:=a0d hc hi
  rw[e1]at e2;cases List.mem_singleton.1 e2;exact m2t
 cases hB
def r2i (env:List Dat):Tree (Nat×List Dat):=Lk.boxC false LK r2o 136 (lsM [(2,s2r)] (List.length ([]:List PB))) (mkF [laV 0,rtV 4,.imm TI 10] [] [] [(.bool 0,[])] fun _=>none) env
theorem l3m: ∃f:List Dat→Option (Nat×List Dat),∀env,f env=(r2i env).sel:=⟨fun env=>(r2i env).sel,fun _=>rfl⟩
def i2g:List Dat→Option (Nat×List Dat):=Classical.choose l3m
theorem w1l (env:List Dat):i2g env=(r2i env).sel:=Classical.choose_spec l3m env
def B39:FBox:=mkF [laV 0,rtV 4,.imm TI 10] [] [] [(.bool 0,[])] i2g
theorem B39_ok:a0v Tryz.prog 136 (a0j B39):=a0p (op:=i2g) k1c hmix false (t2v) (fun env x h=>by rw[w1l]at h;rw[←boxC_lk];exact h)
def h2l:List Dat→Tree (Nat×List Dat)
 |[.l (Ty.str) l0,.l (Ty.pair Ty.str (Ty.int IntKind.i64)) l1,.l (Ty.pair Ty.str (Ty.int IntKind.i64)) l2,.l (Ty.pair Ty.str (Ty.pair (Ty.int IntKind.i64) (Ty.pair (Ty.sl (Ty.int IntKind.i64)) (Ty.pair (Ty.sl (Ty.pair (Ty.int IntKind.i64) Ty.bool)) (Ty.pair (Ty.sl (Ty.int IntKind.i64)) (Ty.sl (Ty.pair (Ty.int IntKind.i64) Ty.bool))))))) l3,.s s4,.n n5,.l (Ty.int IntKind.i64) l6,.l (Ty.pair (Ty.int IntKind.i64) Ty.bool) l7,.l (Ty.int IntKind.i64) l8,.l (Ty.pair (Ty.int IntKind.i64) Ty.bool) l9,.l (Ty.int IntKind.i64) l10]=>
  (let r1:Option (Nat×List Dat):=(z0p [.k 0,.l TI l10,.l TPt l1,.n (↑(List.length l1):Int),.n (0:Int),.s s4,.n n5,.l TI l6,.l TNd l7,.l TI l8,.l TNd l9]);
   (.node (isK 0 [] r1)
   (.leaf ((0,[.b true])))
   (.node (isK 1 [HK.b] r1)
    (.leaf ((0,[.b (gb (dOf r1) 0)])))
    (.bad 351))))
 |_=>.bad 0
theorem d2n (l0:List (Ty.den TS))(l1:List (Ty.den TPt))(l2:List (Ty.den TPt))(l3:List (Ty.den TRt))(s4:ByteArray)(n5:Int)(l6:List (Ty.den TI))(l7:List (Ty.den TNd))(l8:List (Ty.den TI))(l9:List (Ty.den TNd))(l10:List (Ty.den TI)):Imp (h2l [.l TS l0,.l TPt l1,.l TPt l2,.l TRt l3,.s s4,.n n5,.l TI l6,.l TNd l7,.l TI l8,.l TNd l9,.l TI l10]) (r2i [.l TS l0,.l TPt l1,.l TPt l2,.l TRt l3,.s s4,.n n5,.l TI l6,.l TNd l7,.l TI l8,.l TNd l9,.l TI l10]):=
(.nd (fun h0=>
(.pa [1]
.lf)) (fun h0=>
(.nd (fun h1=>
(.pa [1]
.lf)) (fun h1=>
.none))))
def cs_39:FuncId→Option a0q:=a0s 136 B39 r2o
theorem w1b:CsOk Tryz.prog cs_39:=a0g k1c B39_ok
def s2e (env:List Dat):Tree (Nat×List Dat):=Lk.boxC false LK cs_39 111 ls0 (mkF [laV 0,rtV 4] [] [] [(.bool 0,[])] fun _=>none) env
theorem l3j: ∃f:List Dat→Option (Nat×List Dat),∀env,f env=(s2e env).sel:=⟨fun env=>(s2e env).sel,fun _=>rfl⟩
def s1p:List Dat→Option (Nat×List Dat):=Classical.choose l3j
theorem w1u (env:List Dat):s1p env=(s2e env).sel:=Classical.choose_spec l3j env
def B27:FBox:=mkF [laV 0,rtV 4] [] [] [(.bool 0,[])] s1p
theorem B27_ok:a0v Tryz.prog 111 (a0j B27):=a0p (op:=s1p) w1b hmix false (LsOk.none _ _ _) (fun env x h=>by rw[w1u]at h;rw[←boxC_lk];exact h)
def j2m:List Dat→Tree (Nat×List Dat)
 |[.l (Ty.str) l0,.l (Ty.pair Ty.str (Ty.int IntKind.i64)) l1,.l (Ty.pair Ty.str (Ty.int IntKind.i64)) l2,.l (Ty.pair Ty.str (Ty.pair (Ty.int IntKind.i64) (Ty.pair (Ty.sl (Ty.int IntKind.i64)) (Ty.pair (Ty.sl (Ty.pair (Ty.int IntKind.i64) Ty.bool)) (Ty.pair (Ty.sl (Ty.int IntKind.i64)) (Ty.sl (Ty.pair (Ty.int IntKind.i64) Ty.bool))))))) l3,.s s4,.n n5,.l (Ty.int IntKind.i64) l6,.l (Ty.pair (Ty.int IntKind.i64) Ty.bool) l7,.l (Ty.int IntKind.i64) l8,.l (Ty.pair (Ty.int IntKind.i64) Ty.bool) l9]=>
  (let r1:Option (Nat×List Dat):=(op_9 [.s s4,.n n5,.l TI l6,.l TNd l7,.l TI l8,.l TNd l9]);
   (.node (isK 0 [HK.l TI] r1)
   (let r2:Option (Nat×List Dat):=(t1a [.s s4,.n n5,.l TI l6,.l TNd l7,.l TI l8,.l TNd l9]);
    (.node (isK 0 [HK.l TNd] r2)
    (.node (decide ((↑(List.length l6):Int)>(0:Int)))
     (.node (inR n5 (List.length l2))
     (let r3:Option (Nat×List Dat):=(m1g [.l TI (gl TI (dOf r1) 0),.n (Prod.snd (List.getD l2 (Int.toNat n5) (Ty.dflt TPt)))]);
      (.node (isK 0 [HK.b] r3)
      (.node (!gb (dOf r3) 0)
       (let r4:Option (Nat×List Dat):=(k2g [.l TI (gl TI (dOf r1) 0)]);
       (.node (isK 0 [HK.b] r4)
        (.node (!gb (dOf r4) 0)
        (let r5:Option (Nat×List Dat):=(i2e [.l TNd (gl TNd (dOf r2) 0)]);
         (.node (isK 0 [HK.b] r5)
         (.node (!gb (dOf r5) 0)
          (let r6:Option (Nat×List Dat):=(i2c [.l Ty.str l0,.l TPt l1,.l TPt l2,.l TRt l3,.s s4,.n n5,.l TI l6,.l TNd l7,.l TI l8,.l TNd l9,.l TI (gl TI (dOf r1) 0)]);
          (.node (isK 0 [HK.b] r6)
           (.node (gb (dOf r6) 0)
           (let r7:Option (Nat×List Dat):=(i2g [.l Ty.str l0,.l TPt l1,.l TPt l2,.l TRt l3,.s s4,.n n5,.l TI l6,.l TNd l7,.l TI l8,.l TNd l9,.l TI (gl TI (dOf r1) 0)]);
            (.node (isK 0 [HK.b] r7)
            (.leaf ((0,[.b (gb (dOf r7) 0)])))
            (.bad 351)))
           (.leaf ((0,[.b false]))))
           (.bad 351)))
          (.leaf ((0,[.b false]))))
         (.bad 351)))
        (.leaf ((0,[.b false]))))
        (.bad 351)))
       (.leaf ((0,[.b false]))))
      (.bad 351)))
     (.bad 10))
     (.leaf ((0,[.b false]))))
    (.bad 351)))
   (.bad 351)))
 |_=>.bad 0
theorem e2s (l0:List (Ty.den TS))(l1:List (Ty.den TPt))(l2:List (Ty.den TPt))(l3:List (Ty.den TRt))(s4:ByteArray)(n5:Int)(l6:List (Ty.den TI))(l7:List (Ty.den TNd))(l8:List (Ty.den TI))(l9:List (Ty.den TNd)):Imp (j2m [.l TS l0,.l TPt l1,.l TPt l2,.l TRt l3,.s s4,.n n5,.l TI l6,.l TNd l7,.l TI l8,.l TNd l9]) (s2e [.l TS l0,.l TPt l1,.l TPt l2,.l TRt l3,.s s4,.n n5,.l TI l6,.l TNd l7,.l TI l8,.l TNd l9]):=
(.nd (fun h0=>
(.pa [1]
(.nd (fun h1=>
(.pa [1,1]
(.nd (fun h2=>
(.nd (fun h3=>
(.nd (fun h4=>
(.pa [1]
(.nd (fun h5=>
(.nd (fun h6=>
(.pa [1]
(.nd (fun h7=>
(.nd (fun h8=>
(.pa [1]
(.nd (fun h9=>
(.nd (fun h10=>
(.pa [1]
(.nd (fun h11=>
(.nd (fun h12=>
(.pa [1,1]
.lf)) (fun h12=>
.none))) (fun h11=>
(.pa [0,1]
.lf))))) (fun h10=>
.none))) (fun h9=>
(.pa [0,0,0,1]
.lf))))) (fun h8=>
.none))) (fun h7=>
(.pa [0,0,0,0,0,1]
.lf))))) (fun h6=>
.none))) (fun h5=>
(.pa [0,0,0,0,0,0,0,1]
.lf))))) (fun h4=>
.none))) (fun h3=>
.none))) (fun h2=>
(.pa [0,0,0,0,0,0,0,0,0,1]
.lf))))) (fun h1=>
.none)))) (fun h0=>
.none))
def t2d:FuncId→Option a0q:=a0s 111 B27 cs_39
theorem k1k:CsOk Tryz.prog t2d:=a0g w1b B27_ok
def k0v (env:List Dat):Tree Step:=Lk.stepMC false LK t2d 75 3 ls0 (mkM 0 [] [(sh 22 [(0,.imm TI 0),(1,.int .i64 1),(5,.int .i64 2),(6,.int .i64 3)],[])] [] [(.exit 0,sh 22 [(5,.int .i64 0)],[])] fun _=>none) env
theorem i3o: ∃f:List Dat→Option (Nat×List Dat),∀env,f env=a0b k0v FU env:=⟨a0b k0v FU,fun _=>rfl⟩
def y0x:List Dat→Option (Nat×List Dat):=Classical.choose i3o
theorem c1z (env:List Dat):y0x env=a0b k0v FU env:=Classical.choose_spec i3o env
def q2y:MBox:=mkM 0 [] [(sh 22 [(0,.imm TI 0),(1,.int .i64 1),(5,.int .i64 2),(6,.int .i64 3)],[])] [] [(.exit 0,sh 22 [(5,.int .i64 0)],[])] y0x
theorem q2e:q2y=mkM 0 [] [(sh 22 [(0,.imm TI 0),(1,.int .i64 1),(5,.int .i64 2),(6,.int .i64 3)],[])] [] [(.exit 0,sh 22 [(5,.int .i64 0)],[])] (a0b k0v FU):=congrArg (fun f=>mkM 0 [] [(sh 22 [(0,.imm TI 0),(1,.int .i64 1),(5,.int .i64 2),(6,.int .i64 3)],[])] [] [(.exit 0,sh 22 [(5,.int .i64 0)],[])] f) (funext c1z)
theorem h2k: ∀t s x,(a0h q2y t s).sel=some x→a0k Tryz.prog 0 (.loop (cAt Tryz.prog 75 3)) t s x:=by
 rw[q2e]
 exact a0o (st:=k0v) (m:=FU) k1k hmix false (LsOk.none _ _ _) (by kernel_rfl) (fun env y h=>by rw[←stepMC_lk];exact h)
def u0q:List Dat→Tree Step
 |[.l (Ty.int IntKind.i64) l0,.n n1,.n n2,.n n3]=>
  (.node (decide (n3<(↑(List.length l0):Int)))
   (.node ((List.getD l0 (Int.toNat n3) (0:Int):Int)==n1)
   (.leaf (Step.go [.k 0,.l TI l0,.n n1,.n (IntKind.wrap .i64 (n2+(1:Int))),.n (IntKind.wrap .i64 (n3+(1:Int)))]))
   (.leaf (Step.go [.k 0,.l TI l0,.n n1,.n n2,.n (IntKind.wrap .i64 (n3+(1:Int)))])))
   (.leaf (Step.stop 0 [.n n2])))
 |_=>.bad 0
theorem u0p (l0:List (Ty.den TI))(n1:Int)(n2:Int)(n3:Int)(g0:0≤n3):Imp (u0q [.l TI l0,.n n1,.n n2,.n n3]) (k0v [.k 0,.l TI l0,.n n1,.n n2,.n n3]):=
(.pa [1]
(.nd (fun h0=>
(.pt (c:=(inR n3 (List.length l0))) (by kernel_rfl) (by kernel_rfl) (by(simp only[w64d,decide_eq_true_eq,decide_eq_false_iff_not,beq_iff_eq,beq_eq_false_iff_ne,bne_iff_ne,ne_eq,inR,Bool.and_eq_true,Bool.and_eq_false_iff,Bool.not_eq_true',Bool.not_eq_false',Bool.not_eq_eq_eq_not,Bool.not_true,Bool.not_false]at*;omega))
(.nd (fun h1=>
(.pa [1]
.lf)) (fun h1=>
(.pa [1]
.lf))))) (fun h0=>
(.pa [1]
.lf))))
theorem s2o:LsOk Tryz.prog (List.length ([]:List PB)) (lsM [(3,q2y)] (List.length ([]:List PB))) (a0r Tryz.prog 75):=LsOk.many fun j B hB hk c hc hi=>by
 simp only[b0d]at hB
 split at hB
 ·rename_i e;have:=Nat.eq_of_beq_eq_true e;subst this;cases hB
  have e1:p0c Tryz.prog 75 3=[cAt Tryz.prog 75 3]:=a0e (by kernel_rfl)
  have e2:c∈p0c Tryz.prog 75 3:=a0d hc hi
  rw[e1]at e2;cases List.mem_singleton.1 e2;exact h2k
 cases hB
def v2q (env:List Dat):Tree (Nat×List Dat):=Lk.boxC false LK t2d 75 (lsM [(3,q2y)] (List.length ([]:List PB))) (mkF [.imm TI 0,.int .i64 1] [] [] [(.int .i64 0,[])] fun _=>none) env
theorem k3r: ∃f:List Dat→Option (Nat×List Dat),∀env,f env=(v2q env).sel:=⟨fun env=>(v2q env).sel,fun _=>rfl⟩
def e1l:List Dat→Option (Nat×List Dat):=Classical.choose k3r
theorem w1p (env:List Dat):e1l env=(v2q env).sel:=Classical.choose_spec k3r env
def B47:FBox:=mkF [.imm TI 0,.int .i64 1] [] [] [(.int .i64 0,[])] e1l
theorem B47_ok:a0v Tryz.prog 75 (a0j B47):=a0p (op:=e1l) k1k hmix false (s2o) (fun env x h=>by rw[w1p]at h;rw[←boxC_lk];exact h)
def m2d:List Dat→Tree (Nat×List Dat)
 |[.l (Ty.int IntKind.i64) l0,.n n1]=>
  (let r1:Option (Nat×List Dat):=(y0x [.k 0,.l TI l0,.n n1,.n (0:Int),.n (0:Int)]);
   (.node (isK 0 [HK.n] r1)
   (.leaf ((0,[.n (gn (dOf r1) 0)])))
   (.bad 351)))
 |_=>.bad 0
theorem c2h (l0:List (Ty.den TI))(n1:Int):Imp (m2d [.l TI l0,.n n1]) (v2q [.l TI l0,.n n1]):=
(.nd (fun h0=>
(.pa [1]
.lf)) (fun h0=>
.none))
def r2h:FuncId→Option a0q:=a0s 75 B47 t2d
theorem i1s:CsOk Tryz.prog r2h:=a0g k1k B47_ok
def j0p (env:List Dat):Tree Step:=Lk.stepMC false LK r2h 73 3 ls0 (mkM 0 [] [(sh 20 [(0,.imm TNd 0),(3,.own 0),(4,.int .i64 1)],[.arr TI 2])] [(3,TI)] [(.exit 0,sh 20 [(3,.own 0)],[.arr TI 0])] fun _=>none) env
theorem i3x: ∃f:List Dat→Option (Nat×List Dat),∀env,f env=a0b j0p FU env:=⟨a0b j0p FU,fun _=>rfl⟩
def y0h:List Dat→Option (Nat×List Dat):=Classical.choose i3x
theorem d1i (env:List Dat):y0h env=a0b j0p FU env:=Classical.choose_spec i3x env
def u2m:MBox:=mkM 0 [] [(sh 20 [(0,.imm TNd 0),(3,.own 0),(4,.int .i64 1)],[.arr TI 2])] [(3,TI)] [(.exit 0,sh 20 [(3,.own 0)],[.arr TI 0])] y0h
theorem i2p:u2m=mkM 0 [] [(sh 20 [(0,.imm TNd 0),(3,.own 0),(4,.int .i64 1)],[.arr TI 2])] [(3,TI)] [(.exit 0,sh 20 [(3,.own 0)],[.arr TI 0])] (a0b j0p FU):=congrArg (fun f=>mkM 0 [] [(sh 20 [(0,.imm TNd 0),(3,.own 0),(4,.int .i64 1)],[.arr TI 2])] [(3,TI)] [(.exit 0,sh 20 [(3,.own 0)],[.arr TI 0])] f) (funext d1i)
theorem o2g: ∀t s x,(a0h u2m t s).sel=some x→a0k Tryz.prog 0 (.loop (cAt Tryz.prog 73 3)) t s x:=by
 rw[i2p]
 exact a0o (st:=j0p) (m:=FU) i1s hmix false (LsOk.none _ _ _) (by kernel_rfl) (fun env y h=>by rw[←stepMC_lk];exact h)
def v0r:List Dat→Tree Step
 |[.l (Ty.pair (Ty.int IntKind.i64) Ty.bool) l0,.n n1,.l (Ty.int IntKind.i64) l2]=>
  (.node (decide (n1<(↑(List.length l0):Int)))
   (.node (decide ((List.length l2+1)*8≤140737488355328))
   (.leaf (Step.go [.k 0,.l TNd l0,.n (IntKind.wrap .i64 (n1+(1:Int))),.l TI (l2++[Prod.fst (List.getD l0 (Int.toNat n1) (Ty.dflt TNd))])]))
   (.bad 62))
   (.leaf (Step.stop 0 [.l TI l2])))
 |_=>.bad 0
theorem s0f (l0:List (Ty.den TNd))(n1:Int)(l2:List (Ty.den TI))(g0:0≤n1):Imp (v0r [.l TNd l0,.n n1,.l TI l2]) (j0p [.k 0,.l TNd l0,.n n1,.l TI l2]):=
(.pa [1]
(.nd (fun h0=>
(.pt (c:=(inR n1 (List.length l0))) (by kernel_rfl) (by kernel_rfl) (by(simp only[w64d,decide_eq_true_eq,decide_eq_false_iff_not,beq_iff_eq,beq_eq_false_iff_ne,bne_iff_ne,ne_eq,inR,Bool.and_eq_true,Bool.and_eq_false_iff,Bool.not_eq_true',Bool.not_eq_false',Bool.not_eq_eq_eq_not,Bool.not_true,Bool.not_false]at*;omega))
(.nd (fun h1=>
(.pa [1]
.lf)) (fun h1=>
.none)))) (fun h0=>
(.pa [1]
.lf))))
theorem q2o:LsOk Tryz.prog (List.length ([]:List PB)) (lsM [(3,u2m)] (List.length ([]:List PB))) (a0r Tryz.prog 73):=LsOk.many fun j B hB hk c hc hi=>by
 simp only[b0d]at hB
 split at hB
 ·rename_i e;have:=Nat.eq_of_beq_eq_true e;subst this;cases hB
  have e1:p0c Tryz.prog 73 3=[cAt Tryz.prog 73 3]:=a0e (by kernel_rfl)
  have e2:c∈p0c Tryz.prog 73 3:=a0d hc hi
  rw[e1]at e2;cases List.mem_singleton.1 e2;exact o2g
 cases hB
def u2k (env:List Dat):Tree (Nat×List Dat):=Lk.boxC false LK r2h 73 (lsM [(3,u2m)] (List.length ([]:List PB))) (mkF [.imm TNd 0] [] [] [(.own 0,[.arr TI 0])] fun _=>none) env
theorem k3q: ∃f:List Dat→Option (Nat×List Dat),∀env,f env=(u2k env).sel:=⟨fun env=>(u2k env).sel,fun _=>rfl⟩
def q1w:List Dat→Option (Nat×List Dat):=Classical.choose k3q
theorem a2n (env:List Dat):q1w env=(u2k env).sel:=Classical.choose_spec k3q env
def B46:FBox:=mkF [.imm TNd 0] [] [] [(.own 0,[.arr TI 0])] q1w
theorem B46_ok:a0v Tryz.prog 73 (a0j B46):=a0p (op:=q1w) i1s hmix false (q2o) (fun env x h=>by rw[a2n]at h;rw[←boxC_lk];exact h)
def i2f:List Dat→Tree (Nat×List Dat)
 |[.l (Ty.pair (Ty.int IntKind.i64) Ty.bool) l0]=>
  (let r1:Option (Nat×List Dat):=(y0h [.k 0,.l TNd l0,.n (0:Int),.l TI []]);
   (.node (isK 0 [HK.l TI] r1)
   (.leaf ((0,[.l TI (gl TI (dOf r1) 0)])))
   (.bad 351)))
 |_=>.bad 0
theorem d2b (l0:List (Ty.den TNd)):Imp (i2f [.l TNd l0]) (u2k [.l TNd l0]):=
(.nd (fun h0=>
(.pa [1]
.lf)) (fun h0=>
.none))
def b2b:FuncId→Option a0q:=a0s 73 B46 r2h
theorem s0d:CsOk Tryz.prog b2b:=a0g i1s B46_ok
def n0i (env:List Dat):Tree Step:=Lk.stepMC false LK b2b 32 6 ls0 (mkM 0 [] [(sh 93 [(2,.ptr 0 0),(3,.ptr 1 0),(5,.own 2),(6,.own 3),(7,.int .i64 0)],[laB 1,rtB 5,.arr TI 11,.arr TI 12])] [] [(.exit 0,sh 93 [(2,.ptr 0 0),(3,.ptr 1 0),(5,.own 2),(6,.own 3)],[laB 0,rtB 4,.arr TI 10,.arr TI 11]),(.ret,sh 93 [(4,.bool 0)],[])] fun _=>none) env
theorem j3i: ∃f:List Dat→Option (Nat×List Dat),∀env,f env=a0b n0i FU env:=⟨a0b n0i FU,fun _=>rfl⟩
def y0b:List Dat→Option (Nat×List Dat):=Classical.choose j3i
theorem c1o (env:List Dat):y0b env=a0b n0i FU env:=Classical.choose_spec j3i env
def u2q:MBox:=mkM 0 [] [(sh 93 [(2,.ptr 0 0),(3,.ptr 1 0),(5,.own 2),(6,.own 3),(7,.int .i64 0)],[laB 1,rtB 5,.arr TI 11,.arr TI 12])] [] [(.exit 0,sh 93 [(2,.ptr 0 0),(3,.ptr 1 0),(5,.own 2),(6,.own 3)],[laB 0,rtB 4,.arr TI 10,.arr TI 11]),(.ret,sh 93 [(4,.bool 0)],[])] y0b
theorem j2h:u2q=mkM 0 [] [(sh 93 [(2,.ptr 0 0),(3,.ptr 1 0),(5,.own 2),(6,.own 3),(7,.int .i64 0)],[laB 1,rtB 5,.arr TI 11,.arr TI 12])] [] [(.exit 0,sh 93 [(2,.ptr 0 0),(3,.ptr 1 0),(5,.own 2),(6,.own 3)],[laB 0,rtB 4,.arr TI 10,.arr TI 11]),(.ret,sh 93 [(4,.bool 0)],[])] (a0b n0i FU):=congrArg (fun f=>mkM 0 [] [(sh 93 [(2,.ptr 0 0),(3,.ptr 1 0),(5,.own 2),(6,.own 3),(7,.int .i64 0)],[laB 1,rtB 5,.arr TI 11,.arr TI 12])] [] [(.exit 0,sh 93 [(2,.ptr 0 0),(3,.ptr 1 0),(5,.own 2),(6,.own 3)],[laB 0,rtB 4,.arr TI 10,.arr TI 11]),(.ret,sh 93 [(4,.bool 0)],[])] f) (funext c1o)
theorem l2m: ∀t s x,(a0h u2q t s).sel=some x→a0k Tryz.prog 0 (.loop (cAt Tryz.prog 32 6)) t s x:=by
 rw[j2h]
 exact a0o (st:=n0i) (m:=FU) s0d hmix false (LsOk.none _ _ _) (by kernel_rfl) (fun env y h=>by rw[←stepMC_lk];exact h)
def n0u:List Dat→Tree Step
 |[.n n0,.l (Ty.str) l1,.l (Ty.pair Ty.str (Ty.int IntKind.i64)) l2,.l (Ty.pair Ty.str (Ty.int IntKind.i64)) l3,.l (Ty.pair Ty.str (Ty.pair (Ty.int IntKind.i64) (Ty.pair (Ty.sl (Ty.int IntKind.i64)) (Ty.pair (Ty.sl (Ty.pair (Ty.int IntKind.i64) Ty.bool)) (Ty.pair (Ty.sl (Ty.int IntKind.i64)) (Ty.sl (Ty.pair (Ty.int IntKind.i64) Ty.bool))))))) l4,.s s5,.n n6,.l (Ty.int IntKind.i64) l7,.l (Ty.pair (Ty.int IntKind.i64) Ty.bool) l8,.l (Ty.int IntKind.i64) l9,.l (Ty.pair (Ty.int IntKind.i64) Ty.bool) l10,.l (Ty.int IntKind.i64) l11,.l (Ty.int IntKind.i64) l12]=>
  (.node (decide (n0<(↑(List.length l11):Int)))
   (let r1:Option (Nat×List Dat):=(e1l [.l TI l11,.n (List.getD l11 (Int.toNat n0) (0:Int))]);
   (.node (isK 0 [HK.n] r1)
    (.node (decide (gn (dOf r1) 0>(1:Int)))
    (.leaf (Step.stop 1 [.b false]))
    (.leaf (Step.go [.k 0,.n (IntKind.wrap .i64 (n0+(1:Int))),.l Ty.str l1,.l TPt l2,.l TPt l3,.l TRt l4,.s s5,.n n6,.l TI l7,.l TNd l8,.l TI l9,.l TNd l10,.l TI l11,.l TI l12])))
    (.bad 351)))
   (.leaf (Step.stop 0 [.l Ty.str l1,.l TPt l2,.l TPt l3,.l TRt l4,.s s5,.n n6,.l TI l7,.l TNd l8,.l TI l9,.l TNd l10,.l TI l11,.l TI l12])))
 |_=>.bad 0
theorem k0f (n0:Int)(l1:List (Ty.den TS))(l2:List (Ty.den TPt))(l3:List (Ty.den TPt))(l4:List (Ty.den TRt))(s5:ByteArray)(n6:Int)(l7:List (Ty.den TI))(l8:List (Ty.den TNd))(l9:List (Ty.den TI))(l10:List (Ty.den TNd))(l11:List (Ty.den TI))(l12:List (Ty.den TI))(g0:0≤n0):Imp (n0u [.n n0,.l TS l1,.l TPt l2,.l TPt l3,.l TRt l4,.s s5,.n n6,.l TI l7,.l TNd l8,.l TI l9,.l TNd l10,.l TI l11,.l TI l12]) (n0i [.k 0,.n n0,.l TS l1,.l TPt l2,.l TPt l3,.l TRt l4,.s s5,.n n6,.l TI l7,.l TNd l8,.l TI l9,.l TNd l10,.l TI l11,.l TI l12]):=
(.pa [1]
(.nd (fun h0=>
(.pt (c:=(inR n0 (List.length l11))) (by kernel_rfl) (by kernel_rfl) (by(simp only[w64d,decide_eq_true_eq,decide_eq_false_iff_not,beq_iff_eq,beq_eq_false_iff_ne,bne_iff_ne,ne_eq,inR,Bool.and_eq_true,Bool.and_eq_false_iff,Bool.not_eq_true',Bool.not_eq_false',Bool.not_eq_eq_eq_not,Bool.not_true,Bool.not_false]at*;omega))
(.nd (fun h1=>
(.pa [1]
(.nd (fun h2=>
(.pa [1]
.lf)) (fun h2=>
(.pa [1]
.lf))))) (fun h1=>
.none)))) (fun h0=>
(.pa [1]
.lf))))
def i0n (env:List Dat):Tree Step:=Lk.stepMC false LK b2b 32 11 ls0 (mkM 0 [] [(sh 93 [(2,.ptr 0 0),(3,.ptr 1 0),(5,.own 2),(6,.own 3),(8,.int .i64 0)],[laB 1,rtB 5,.arr TI 11,.arr TI 12])] [] [(.exit 2,sh 93 [(2,.ptr 0 0),(3,.ptr 1 0),(5,.own 2)],[laB 0,rtB 4,.arr TI 10]),(.ret,sh 93 [(4,.bool 0)],[])] fun _=>none) env
theorem i3c: ∃f:List Dat→Option (Nat×List Dat),∀env,f env=a0b i0n FU env:=⟨a0b i0n FU,fun _=>rfl⟩
def r0k:List Dat→Option (Nat×List Dat):=Classical.choose i3c
theorem x0n (env:List Dat):r0k env=a0b i0n FU env:=Classical.choose_spec i3c env
def v1w:MBox:=mkM 0 [] [(sh 93 [(2,.ptr 0 0),(3,.ptr 1 0),(5,.own 2),(6,.own 3),(8,.int .i64 0)],[laB 1,rtB 5,.arr TI 11,.arr TI 12])] [] [(.exit 2,sh 93 [(2,.ptr 0 0),(3,.ptr 1 0),(5,.own 2)],[laB 0,rtB 4,.arr TI 10]),(.ret,sh 93 [(4,.bool 0)],[])] r0k
theorem e2v:v1w=mkM 0 [] [(sh 93 [(2,.ptr 0 0),(3,.ptr 1 0),(5,.own 2),(6,.own 3),(8,.int .i64 0)],[laB 1,rtB 5,.arr TI 11,.arr TI 12])] [] [(.exit 2,sh 93 [(2,.ptr 0 0),(3,.ptr 1 0),(5,.own 2)],[laB 0,rtB 4,.arr TI 10]),(.ret,sh 93 [(4,.bool 0)],[])] (a0b i0n FU):=congrArg (fun f=>mkM 0 [] [(sh 93 [(2,.ptr 0 0),(3,.ptr 1 0),(5,.own 2),(6,.own 3),(8,.int .i64 0)],[laB 1,rtB 5,.arr TI 11,.arr TI 12])] [] [(.exit 2,sh 93 [(2,.ptr 0 0),(3,.ptr 1 0),(5,.own 2)],[laB 0,rtB 4,.arr TI 10]),(.ret,sh 93 [(4,.bool 0)],[])] f) (funext x0n)
theorem b2a: ∀t s x,(a0h v1w t s).sel=some x→a0k Tryz.prog 0 (.loop (cAt Tryz.prog 32 11)) t s x:=by
 rw[e2v]
 exact a0o (st:=i0n) (m:=FU) s0d hmix false (LsOk.none _ _ _) (by kernel_rfl) (fun env y h=>by rw[←stepMC_lk];exact h)
def j0z:List Dat→Tree Step
 |[.n n0,.l (Ty.str) l1,.l (Ty.pair Ty.str (Ty.int IntKind.i64)) l2,.l (Ty.pair Ty.str (Ty.int IntKind.i64)) l3,.l (Ty.pair Ty.str (Ty.pair (Ty.int IntKind.i64) (Ty.pair (Ty.sl (Ty.int IntKind.i64)) (Ty.pair (Ty.sl (Ty.pair (Ty.int IntKind.i64) Ty.bool)) (Ty.pair (Ty.sl (Ty.int IntKind.i64)) (Ty.sl (Ty.pair (Ty.int IntKind.i64) Ty.bool))))))) l4,.s s5,.n n6,.l (Ty.int IntKind.i64) l7,.l (Ty.pair (Ty.int IntKind.i64) Ty.bool) l8,.l (Ty.int IntKind.i64) l9,.l (Ty.pair (Ty.int IntKind.i64) Ty.bool) l10,.l (Ty.int IntKind.i64) l11,.l (Ty.int IntKind.i64) l12]=>
  (.node (decide (n0<(↑(List.length l12):Int)))
   (let r1:Option (Nat×List Dat):=(e1l [.l TI l12,.n (List.getD l12 (Int.toNat n0) (0:Int))]);
   (.node (isK 0 [HK.n] r1)
    (.node (decide (gn (dOf r1) 0>(1:Int)))
    (.leaf (Step.stop 1 [.b false]))
    (.leaf (Step.go [.k 0,.n (IntKind.wrap .i64 (n0+(1:Int))),.l Ty.str l1,.l TPt l2,.l TPt l3,.l TRt l4,.s s5,.n n6,.l TI l7,.l TNd l8,.l TI l9,.l TNd l10,.l TI l11,.l TI l12])))
    (.bad 351)))
   (.leaf (Step.stop 0 [.l Ty.str l1,.l TPt l2,.l TPt l3,.l TRt l4,.s s5,.n n6,.l TI l7,.l TNd l8,.l TI l9,.l TNd l10,.l TI l11])))
 |_=>.bad 0
theorem h0k (n0:Int)(l1:List (Ty.den TS))(l2:List (Ty.den TPt))(l3:List (Ty.den TPt))(l4:List (Ty.den TRt))(s5:ByteArray)(n6:Int)(l7:List (Ty.den TI))(l8:List (Ty.den TNd))(l9:List (Ty.den TI))(l10:List (Ty.den TNd))(l11:List (Ty.den TI))(l12:List (Ty.den TI))(g0:0≤n0):Imp (j0z [.n n0,.l TS l1,.l TPt l2,.l TPt l3,.l TRt l4,.s s5,.n n6,.l TI l7,.l TNd l8,.l TI l9,.l TNd l10,.l TI l11,.l TI l12]) (i0n [.k 0,.n n0,.l TS l1,.l TPt l2,.l TPt l3,.l TRt l4,.s s5,.n n6,.l TI l7,.l TNd l8,.l TI l9,.l TNd l10,.l TI l11,.l TI l12]):=
(.pa [1]
(.nd (fun h0=>
(.pt (c:=(inR n0 (List.length l12))) (by kernel_rfl) (by kernel_rfl) (by(simp only[w64d,decide_eq_true_eq,decide_eq_false_iff_not,beq_iff_eq,beq_eq_false_iff_ne,bne_iff_ne,ne_eq,inR,Bool.and_eq_true,Bool.and_eq_false_iff,Bool.not_eq_true',Bool.not_eq_false',Bool.not_eq_eq_eq_not,Bool.not_true,Bool.not_false]at*;omega))
(.nd (fun h1=>
(.pa [1]
(.nd (fun h2=>
(.pa [1]
.lf)) (fun h2=>
(.pa [1]
.lf))))) (fun h1=>
.none)))) (fun h0=>
(.pa [1]
.lf))))
def f0v (env:List Dat):Tree Step:=Lk.stepMC false LK b2b 32 16 ls0 (mkM 0 [] [(sh 93 [(2,.ptr 0 0),(3,.ptr 1 0),(5,.own 2),(9,.int .i64 0)],[laB 1,rtB 5,.arr TI 11])] [] [(.exit 4,sh 93 [],[]),(.ret,sh 93 [(4,.bool 0)],[])] fun _=>none) env
theorem h3w: ∃f:List Dat→Option (Nat×List Dat),∀env,f env=a0b f0v FU env:=⟨a0b f0v FU,fun _=>rfl⟩
def u0b:List Dat→Option (Nat×List Dat):=Classical.choose h3w
theorem x0p (env:List Dat):u0b env=a0b f0v FU env:=Classical.choose_spec h3w env
def y1l:MBox:=mkM 0 [] [(sh 93 [(2,.ptr 0 0),(3,.ptr 1 0),(5,.own 2),(9,.int .i64 0)],[laB 1,rtB 5,.arr TI 11])] [] [(.exit 4,sh 93 [],[]),(.ret,sh 93 [(4,.bool 0)],[])] u0b
theorem g2f:y1l=mkM 0 [] [(sh 93 [(2,.ptr 0 0),(3,.ptr 1 0),(5,.own 2),(9,.int .i64 0)],[laB 1,rtB 5,.arr TI 11])] [] [(.exit 4,sh 93 [],[]),(.ret,sh 93 [(4,.bool 0)],[])] (a0b f0v FU):=congrArg (fun f=>mkM 0 [] [(sh 93 [(2,.ptr 0 0),(3,.ptr 1 0),(5,.own 2),(9,.int .i64 0)],[laB 1,rtB 5,.arr TI 11])] [] [(.exit 4,sh 93 [],[]),(.ret,sh 93 [(4,.bool 0)],[])] f) (funext x0p)
theorem e2u: ∀t s x,(a0h y1l t s).sel=some x→a0k Tryz.prog 0 (.loop (cAt Tryz.prog 32 16)) t s x:=by
 rw[g2f]
 exact a0o (st:=f0v) (m:=FU) s0d hmix false (LsOk.none _ _ _) (by kernel_rfl) (fun env y h=>by rw[←stepMC_lk];exact h)
def q0s:List Dat→Tree Step
 |[.n n0,.l (Ty.str) l1,.l (Ty.pair Ty.str (Ty.int IntKind.i64)) l2,.l (Ty.pair Ty.str (Ty.int IntKind.i64)) l3,.l (Ty.pair Ty.str (Ty.pair (Ty.int IntKind.i64) (Ty.pair (Ty.sl (Ty.int IntKind.i64)) (Ty.pair (Ty.sl (Ty.pair (Ty.int IntKind.i64) Ty.bool)) (Ty.pair (Ty.sl (Ty.int IntKind.i64)) (Ty.sl (Ty.pair (Ty.int IntKind.i64) Ty.bool))))))) l4,.s s5,.n n6,.l (Ty.int IntKind.i64) l7,.l (Ty.pair (Ty.int IntKind.i64) Ty.bool) l8,.l (Ty.int IntKind.i64) l9,.l (Ty.pair (Ty.int IntKind.i64) Ty.bool) l10,.l (Ty.int IntKind.i64) l11]=>
  (.node (decide (n0<(↑(List.length l2):Int)))
   (let r1:Option (Nat×List Dat):=(e1l [.l TI l11,.n (Prod.snd (List.getD l2 (Int.toNat n0) (Ty.dflt TPt)))]);
   (.node (isK 0 [HK.n] r1)
    (let r2:Option (Nat×List Dat):=(q1w [.l TNd l8]);
    (.node (isK 0 [HK.l TI] r2)
     (let r3:Option (Nat×List Dat):=(e1l [.l TI (gl TI (dOf r2) 0),.n n0]);
     (.node (isK 0 [HK.n] r3)
      (.node (!decide (gn (dOf r1) 0>(0:Int))==decide (gn (dOf r3) 0>(0:Int)))
      (.leaf (Step.stop 1 [.b false]))
      (.node (decide (gn (dOf r1) 0>(0:Int)))
       (let r4:Option (Nat×List Dat):=(q1w [.l TNd l10]);
       (.node (isK 0 [HK.l TI] r4)
        (let r5:Option (Nat×List Dat):=(e1l [.l TI (gl TI (dOf r4) 0),.n n0]);
        (.node (isK 0 [HK.n] r5)
         (.node (decide (gn (dOf r5) 0>(0:Int)))
         (.leaf (Step.stop 1 [.b false]))
         (.leaf (Step.go [.k 0,.n (IntKind.wrap .i64 (n0+(1:Int))),.l Ty.str l1,.l TPt l2,.l TPt l3,.l TRt l4,.s s5,.n n6,.l TI l7,.l TNd l8,.l TI l9,.l TNd l10,.l TI l11])))
         (.bad 351)))
        (.bad 351)))
       (.leaf (Step.go [.k 0,.n (IntKind.wrap .i64 (n0+(1:Int))),.l Ty.str l1,.l TPt l2,.l TPt l3,.l TRt l4,.s s5,.n n6,.l TI l7,.l TNd l8,.l TI l9,.l TNd l10,.l TI l11]))))
      (.bad 351)))
     (.bad 351)))
    (.bad 351)))
   (.leaf (Step.stop 0 [])))
 |_=>.bad 0
theorem o0u (n0:Int)(l1:List (Ty.den TS))(l2:List (Ty.den TPt))(l3:List (Ty.den TPt))(l4:List (Ty.den TRt))(s5:ByteArray)(n6:Int)(l7:List (Ty.den TI))(l8:List (Ty.den TNd))(l9:List (Ty.den TI))(l10:List (Ty.den TNd))(l11:List (Ty.den TI))(g0:0≤n0):Imp (q0s [.n n0,.l TS l1,.l TPt l2,.l TPt l3,.l TRt l4,.s s5,.n n6,.l TI l7,.l TNd l8,.l TI l9,.l TNd l10,.l TI l11]) (f0v [.k 0,.n n0,.l TS l1,.l TPt l2,.l TPt l3,.l TRt l4,.s s5,.n n6,.l TI l7,.l TNd l8,.l TI l9,.l TNd l10,.l TI l11]):=
(.pa [1]
(.nd (fun h0=>
(.pt (c:=(inR n0 (List.length l2))) (by kernel_rfl) (by kernel_rfl) (by(simp only[w64d,decide_eq_true_eq,decide_eq_false_iff_not,beq_iff_eq,beq_eq_false_iff_ne,bne_iff_ne,ne_eq,inR,Bool.and_eq_true,Bool.and_eq_false_iff,Bool.not_eq_true',Bool.not_eq_false',Bool.not_eq_eq_eq_not,Bool.not_true,Bool.not_false]at*;omega))
(.nd (fun h1=>
(.pa [1]
(.nd (fun h2=>
(.pa [1]
(.nd (fun h3=>
(.pa [1]
(.nd (fun h4=>
(.pa [1,1,1]
.lf)) (fun h4=>
(.nd (fun h5=>
(.nd (fun h6=>
(.pa [1]
(.nd (fun h7=>
(.pa [1]
(.nd (fun h8=>
(.pa [1]
.lf)) (fun h8=>
(.pa [1]
.lf))))) (fun h7=>
.none)))) (fun h6=>
.none))) (fun h5=>
(.pa [0,0,1]
.lf))))))) (fun h3=>
.none)))) (fun h2=>
.none)))) (fun h1=>
.none)))) (fun h0=>
(.pa [1]
.lf))))
theorem q2u:LsOk Tryz.prog (List.length ([]:List PB)) (lsM [(6,u2q),(11,v1w),(16,y1l)] (List.length ([]:List PB))) (a0r Tryz.prog 32):=LsOk.many fun j B hB hk c hc hi=>by
 simp only[b0d]at hB
 split at hB
 ·rename_i e;have:=Nat.eq_of_beq_eq_true e;subst this;cases hB
  have e1:p0c Tryz.prog 32 6=[cAt Tryz.prog 32 6]:=a0e (by kernel_rfl)
  have e2:c∈p0c Tryz.prog 32 6:=a0d hc hi
  rw[e1]at e2;cases List.mem_singleton.1 e2;exact l2m
 split at hB
 ·rename_i e;have:=Nat.eq_of_beq_eq_true e;subst this;cases hB
  have e1:p0c Tryz.prog 32 11=[cAt Tryz.prog 32 11]:=a0e (by kernel_rfl)
  have e2:c∈p0c Tryz.prog 32 11:=a0d hc hi
  rw[e1]at e2;cases List.mem_singleton.1 e2;exact b2a
 split at hB
 ·rename_i e;have:=Nat.eq_of_beq_eq_true e;subst this;cases hB
  have e1:p0c Tryz.prog 32 16=[cAt Tryz.prog 32 16]:=a0e (by kernel_rfl)
  have e2:c∈p0c Tryz.prog 32 16:=a0d hc hi
  rw[e1]at e2;cases List.mem_singleton.1 e2;exact e2u
 cases hB
def v2e (env:List Dat):Tree (Nat×List Dat):=Lk.boxC false LK b2b 32 (lsM [(6,u2q),(11,v1w),(16,y1l)] (List.length ([]:List PB))) (mkF [laV 0,rtV 4] [] [] [(.bool 0,[])] fun _=>none) env
theorem l3q: ∃f:List Dat→Option (Nat×List Dat),∀env,f env=(v2e env).sel:=⟨fun env=>(v2e env).sel,fun _=>rfl⟩
def q1j:List Dat→Option (Nat×List Dat):=Classical.choose l3q
theorem a2c (env:List Dat):q1j env=(v2e env).sel:=Classical.choose_spec l3q env
def B29:FBox:=mkF [laV 0,rtV 4] [] [] [(.bool 0,[])] q1j
theorem B29_ok:a0v Tryz.prog 32 (a0j B29):=a0p (op:=q1j) s0d hmix false (q2u) (fun env x h=>by rw[a2c]at h;rw[←boxC_lk];exact h)
def q2f:List Dat→Tree (Nat×List Dat)
 |[.l (Ty.str) l0,.l (Ty.pair Ty.str (Ty.int IntKind.i64)) l1,.l (Ty.pair Ty.str (Ty.int IntKind.i64)) l2,.l (Ty.pair Ty.str (Ty.pair (Ty.int IntKind.i64) (Ty.pair (Ty.sl (Ty.int IntKind.i64)) (Ty.pair (Ty.sl (Ty.pair (Ty.int IntKind.i64) Ty.bool)) (Ty.pair (Ty.sl (Ty.int IntKind.i64)) (Ty.sl (Ty.pair (Ty.int IntKind.i64) Ty.bool))))))) l3,.s s4,.n n5,.l (Ty.int IntKind.i64) l6,.l (Ty.pair (Ty.int IntKind.i64) Ty.bool) l7,.l (Ty.int IntKind.i64) l8,.l (Ty.pair (Ty.int IntKind.i64) Ty.bool) l9]=>
  (let r1:Option (Nat×List Dat):=(h1f [.s s4,.n n5,.l TI l6,.l TNd l7,.l TI l8,.l TNd l9]);
   (.node (isK 0 [HK.l TI] r1)
   (let r2:Option (Nat×List Dat):=(i1r [.s s4,.n n5,.l TI l6,.l TNd l7,.l TI l8,.l TNd l9]);
    (.node (isK 0 [HK.l TNd] r2)
    (let r3:Option (Nat×List Dat):=(q1w [.l TNd (gl TNd (dOf r2) 0)]);
     (.node (isK 0 [HK.l TI] r3)
     (.node ((↑(List.length l6):Int)==(0:Int))
      (.leaf ((0,[.b false])))
      (.node (inR n5 (List.length l2))
      (let r4:Option (Nat×List Dat):=(e1l [.l TI (gl TI (dOf r1) 0),.n (Prod.snd (List.getD l2 (Int.toNat n5) (Ty.dflt TPt)))]);
       (.node (isK 0 [HK.n] r4)
       (.node (decide (gn (dOf r4) 0>(0:Int)))
        (.leaf ((0,[.b false])))
        (let r5:Option (Nat×List Dat):=(y0b [.k 0,.n (0:Int),.l Ty.str l0,.l TPt l1,.l TPt l2,.l TRt l3,.s s4,.n n5,.l TI l6,.l TNd l7,.l TI l8,.l TNd l9,.l TI (gl TI (dOf r1) 0),.l TI (gl TI (dOf r3) 0)]);
        (.node (isK 0 [HK.l Ty.str,HK.l TPt,HK.l TPt,HK.l TRt,HK.s,HK.n,HK.l TI,HK.l TNd,HK.l TI,HK.l TNd,HK.l TI,HK.l TI] r5)
         (let r6:Option (Nat×List Dat):=(r0k [.k 0,.n (0:Int),.l Ty.str (gl Ty.str (dOf r5) 0),.l TPt (gl TPt (dOf r5) 1),.l TPt (gl TPt (dOf r5) 2),.l TRt (gl TRt (dOf r5) 3),.s (gs (dOf r5) 4),.n (gn (dOf r5) 5),.l TI (gl TI (dOf r5) 6),.l TNd (gl TNd (dOf r5) 7),.l TI (gl TI (dOf r5) 8),.l TNd (gl TNd (dOf r5) 9),.l TI (gl TI (dOf r5) 10),.l TI (gl TI (dOf r5) 11)]);
         (.node (isK 0 [HK.l Ty.str,HK.l TPt,HK.l TPt,HK.l TRt,HK.s,HK.n,HK.l TI,HK.l TNd,HK.l TI,HK.l TNd,HK.l TI] r6)
          (let r7:Option (Nat×List Dat):=(u0b [.k 0,.n (0:Int),.l Ty.str (gl Ty.str (dOf r6) 0),.l TPt (gl TPt (dOf r6) 1),.l TPt (gl TPt (dOf r6) 2),.l TRt (gl TRt (dOf r6) 3),.s (gs (dOf r6) 4),.n (gn (dOf r6) 5),.l TI (gl TI (dOf r6) 6),.l TNd (gl TNd (dOf r6) 7),.l TI (gl TI (dOf r6) 8),.l TNd (gl TNd (dOf r6) 9),.l TI (gl TI (dOf r6) 10)]);
          (.node (isK 0 [] r7)
           (.leaf ((0,[.b true])))
           (.node (isK 1 [HK.b] r7)
           (.leaf ((0,[.b (gb (dOf r7) 0)])))
           (.bad 351))))
          (.node (isK 1 [HK.b] r6)
          (.leaf ((0,[.b (gb (dOf r6) 0)])))
          (.bad 351))))
         (.node (isK 1 [HK.b] r5)
         (.leaf ((0,[.b (gb (dOf r5) 0)])))
         (.bad 351)))))
       (.bad 351)))
      (.bad 10)))
     (.bad 351)))
    (.bad 351)))
   (.bad 351)))
 |_=>.bad 0
theorem e2a (l0:List (Ty.den TS))(l1:List (Ty.den TPt))(l2:List (Ty.den TPt))(l3:List (Ty.den TRt))(s4:ByteArray)(n5:Int)(l6:List (Ty.den TI))(l7:List (Ty.den TNd))(l8:List (Ty.den TI))(l9:List (Ty.den TNd)):Imp (q2f [.l TS l0,.l TPt l1,.l TPt l2,.l TRt l3,.s s4,.n n5,.l TI l6,.l TNd l7,.l TI l8,.l TNd l9]) (v2e [.l TS l0,.l TPt l1,.l TPt l2,.l TRt l3,.s s4,.n n5,.l TI l6,.l TNd l7,.l TI l8,.l TNd l9]):=
(.nd (fun h0=>
(.pa [1]
(.nd (fun h1=>
(.pa [1]
(.nd (fun h2=>
(.pa [1]
(.nd (fun h3=>
(.pa [1,1,1]
.lf)) (fun h3=>
(.nd (fun h4=>
(.nd (fun h5=>
(.pa [1]
(.nd (fun h6=>
(.pa [1]
.lf)) (fun h6=>
(.nd (fun h7=>
(.nd (fun h8=>
(.nd (fun h9=>
(.pa [1]
.lf)) (fun h9=>
(.nd (fun h10=>
(.pa [1]
.lf)) (fun h10=>
.none))))) (fun h8=>
(.nd (fun h9=>
(.pa [1]
.lf)) (fun h9=>
.none))))) (fun h7=>
(.nd (fun h8=>
(.pa [1]
.lf)) (fun h8=>
.none)))))))) (fun h5=>
.none))) (fun h4=>
.none)))))) (fun h2=>
.none)))) (fun h1=>
.none)))) (fun h0=>
.none))
def q2j:FuncId→Option a0q:=a0s 32 B29 b2b
theorem j1a:CsOk Tryz.prog q2j:=a0g s0d B29_ok
def n0t (env:List Dat):Tree Step:=Lk.stepMC false LK q2j 82 4 ls0 (mkM 0 [] [(sh 23 [(1,.ptr 0 0),(10,.imm TRt 0),(11,.int .i64 1),(12,.int .i64 2)],[laB 3])] [] [(.exit 0,sh 23 [],[]),(.ret,sh 23 [(2,.int .i64 0),(3,.int .i64 1)],[])] fun _=>none) env
theorem j3c: ∃f:List Dat→Option (Nat×List Dat),∀env,f env=a0b n0t FU env:=⟨a0b n0t FU,fun _=>rfl⟩
def z0z:List Dat→Option (Nat×List Dat):=Classical.choose j3c
theorem c1y (env:List Dat):z0z env=a0b n0t FU env:=Classical.choose_spec j3c env
def s2l:MBox:=mkM 0 [] [(sh 23 [(1,.ptr 0 0),(10,.imm TRt 0),(11,.int .i64 1),(12,.int .i64 2)],[laB 3])] [] [(.exit 0,sh 23 [],[]),(.ret,sh 23 [(2,.int .i64 0),(3,.int .i64 1)],[])] z0z
theorem m2b:s2l=mkM 0 [] [(sh 23 [(1,.ptr 0 0),(10,.imm TRt 0),(11,.int .i64 1),(12,.int .i64 2)],[laB 3])] [] [(.exit 0,sh 23 [],[]),(.ret,sh 23 [(2,.int .i64 0),(3,.int .i64 1)],[])] (a0b n0t FU):=congrArg (fun f=>mkM 0 [] [(sh 23 [(1,.ptr 0 0),(10,.imm TRt 0),(11,.int .i64 1),(12,.int .i64 2)],[laB 3])] [] [(.exit 0,sh 23 [],[]),(.ret,sh 23 [(2,.int .i64 0),(3,.int .i64 1)],[])] f) (funext c1y)
theorem n2g: ∀t s x,(a0h s2l t s).sel=some x→a0k Tryz.prog 0 (.loop (cAt Tryz.prog 82 4)) t s x:=by
 rw[m2b]
 exact a0o (st:=n0t) (m:=FU) j1a hmix false (LsOk.none _ _ _) (by kernel_rfl) (fun env y h=>by rw[←stepMC_lk];exact h)
def n0k:List Dat→Tree Step
 |[.l (Ty.pair Ty.str (Ty.pair (Ty.int IntKind.i64) (Ty.pair (Ty.sl (Ty.int IntKind.i64)) (Ty.pair (Ty.sl (Ty.pair (Ty.int IntKind.i64) Ty.bool)) (Ty.pair (Ty.sl (Ty.int IntKind.i64)) (Ty.sl (Ty.pair (Ty.int IntKind.i64) Ty.bool))))))) l0,.n n1,.n n2,.l (Ty.str) l3,.l (Ty.pair Ty.str (Ty.int IntKind.i64)) l4,.l (Ty.pair Ty.str (Ty.int IntKind.i64)) l5,.l (Ty.pair Ty.str (Ty.pair (Ty.int IntKind.i64) (Ty.pair (Ty.sl (Ty.int IntKind.i64)) (Ty.pair (Ty.sl (Ty.pair (Ty.int IntKind.i64) Ty.bool)) (Ty.pair (Ty.sl (Ty.int IntKind.i64)) (Ty.sl (Ty.pair (Ty.int IntKind.i64) Ty.bool))))))) l6]=>
  (.node (decide (n2<n1))
   (let r1:Option (Nat×List Dat):=(s1p [.l Ty.str l3,.l TPt l4,.l TPt l5,.l TRt l6,.s (Prod.fst (List.getD l0 (Int.toNat n2) (Ty.dflt TRt))),.n (Prod.fst (Prod.snd (List.getD l0 (Int.toNat n2) (Ty.dflt TRt)))),.l TI (Prod.fst (Prod.snd (Prod.snd (List.getD l0 (Int.toNat n2) (Ty.dflt TRt))))),.l TNd (Prod.fst (Prod.snd (Prod.snd (Prod.snd (List.getD l0 (Int.toNat n2) (Ty.dflt TRt)))))),.l TI (Prod.fst (Prod.snd (Prod.snd (Prod.snd (Prod.snd (List.getD l0 (Int.toNat n2) (Ty.dflt TRt))))))),.l TNd (Prod.snd (Prod.snd (Prod.snd (Prod.snd (Prod.snd (List.getD l0 (Int.toNat n2) (Ty.dflt TRt)))))))]);
   (.node (isK 0 [HK.b] r1)
    (.node (!gb (dOf r1) 0)
    (.leaf (Step.stop 1 [.n (50:Int),.n n2]))
    (.leaf (Step.go [.k 0,.l TRt l0,.n n1,.n (IntKind.wrap .i64 (n2+(1:Int))),.l Ty.str l3,.l TPt l4,.l TPt l5,.l TRt l6])))
    (.bad 351)))
   (.leaf (Step.stop 0 [])))
 |_=>.bad 0
theorem l0g (l0:List (Ty.den TRt))(n1:Int)(n2:Int)(l3:List (Ty.den TS))(l4:List (Ty.den TPt))(l5:List (Ty.den TPt))(l6:List (Ty.den TRt))(g0:0≤n2)(g1:n1=(l0.length:Int)):Imp (n0k [.l TRt l0,.n n1,.n n2,.l TS l3,.l TPt l4,.l TPt l5,.l TRt l6]) (n0t [.k 0,.l TRt l0,.n n1,.n n2,.l TS l3,.l TPt l4,.l TPt l5,.l TRt l6]):=
(.pa [1]
(.nd (fun h0=>
(.pt (c:=(inR n2 (List.length l0))) (by kernel_rfl) (by kernel_rfl) (by(simp only[w64d,decide_eq_true_eq,decide_eq_false_iff_not,beq_iff_eq,beq_eq_false_iff_ne,bne_iff_ne,ne_eq,inR,Bool.and_eq_true,Bool.and_eq_false_iff,Bool.not_eq_true',Bool.not_eq_false',Bool.not_eq_eq_eq_not,Bool.not_true,Bool.not_false]at*;omega))
(.nd (fun h1=>
(.pa [1]
(.nd (fun h2=>
(.pa [1]
.lf)) (fun h2=>
(.pa [1]
.lf))))) (fun h1=>
.none)))) (fun h0=>
(.pa [1]
.lf))))
theorem v2a:LsOk Tryz.prog (List.length ([]:List PB)) (lsM [(4,s2l)] (List.length ([]:List PB))) (a0r Tryz.prog 82):=LsOk.many fun j B hB hk c hc hi=>by
 simp only[b0d]at hB
 split at hB
 ·rename_i e;have:=Nat.eq_of_beq_eq_true e;subst this;cases hB
  have e1:p0c Tryz.prog 82 4=[cAt Tryz.prog 82 4]:=a0e (by kernel_rfl)
  have e2:c∈p0c Tryz.prog 82 4:=a0d hc hi
  rw[e1]at e2;cases List.mem_singleton.1 e2;exact n2g
 cases hB
def u2n (env:List Dat):Tree (Nat×List Dat):=Lk.boxC false LK q2j 82 (lsM [(4,s2l)] (List.length ([]:List PB))) (mkF [laV 0] [] [] [(.tup [.int .i64 0,.int .i64 1],[])] fun _=>none) env
theorem l3e: ∃f:List Dat→Option (Nat×List Dat),∀env,f env=(u2n env).sel:=⟨fun env=>(u2n env).sel,fun _=>rfl⟩
def b2y:List Dat→Option (Nat×List Dat):=Classical.choose l3e
theorem x1t (env:List Dat):b2y env=(u2n env).sel:=Classical.choose_spec l3e env
def B18:FBox:=mkF [laV 0] [] [] [(.tup [.int .i64 0,.int .i64 1],[])] b2y
theorem B18_ok:a0v Tryz.prog 82 (a0j B18):=a0p (op:=b2y) j1a hmix false (v2a) (fun env x h=>by rw[x1t]at h;rw[←boxC_lk];exact h)
def o2f:List Dat→Tree (Nat×List Dat)
 |[.l (Ty.str) l0,.l (Ty.pair Ty.str (Ty.int IntKind.i64)) l1,.l (Ty.pair Ty.str (Ty.int IntKind.i64)) l2,.l (Ty.pair Ty.str (Ty.pair (Ty.int IntKind.i64) (Ty.pair (Ty.sl (Ty.int IntKind.i64)) (Ty.pair (Ty.sl (Ty.pair (Ty.int IntKind.i64) Ty.bool)) (Ty.pair (Ty.sl (Ty.int IntKind.i64)) (Ty.sl (Ty.pair (Ty.int IntKind.i64) Ty.bool))))))) l3]=>
  (let r1:Option (Nat×List Dat):=(g2g [.l Ty.str l0,.l TPt l1,.l TPt l2,.l TRt l3]);
   (.node (isK 0 [HK.b] r1)
   (.node (!gb (dOf r1) 0)
    (.leaf ((0,[.n (2:Int),.n (0:Int)])))
    (let r2:Option (Nat×List Dat):=(z0z [.k 0,.l TRt l3,.n (↑(List.length l3):Int),.n (0:Int),.l Ty.str l0,.l TPt l1,.l TPt l2,.l TRt l3]);
    (.node (isK 0 [] r2)
     (.leaf ((0,[.n (0:Int),.n (0:Int)])))
     (.node (isK 1 [HK.n,HK.n] r2)
     (.leaf ((0,[.n (gn (dOf r2) 0),.n (gn (dOf r2) 1)])))
     (.bad 351)))))
   (.bad 351)))
 |_=>.bad 0
theorem c2t (l0:List (Ty.den TS))(l1:List (Ty.den TPt))(l2:List (Ty.den TPt))(l3:List (Ty.den TRt)):Imp (o2f [.l TS l0,.l TPt l1,.l TPt l2,.l TRt l3]) (u2n [.l TS l0,.l TPt l1,.l TPt l2,.l TRt l3]):=
(.nd (fun h0=>
(.pa [1]
(.nd (fun h1=>
(.pa [1]
.lf)) (fun h1=>
(.nd (fun h2=>
(.pa [1]
.lf)) (fun h2=>
(.nd (fun h3=>
(.pa [1]
.lf)) (fun h3=>
.none)))))))) (fun h0=>
.none))
def r2m:FuncId→Option a0q:=a0s 82 B18 q2j
theorem k1t:CsOk Tryz.prog r2m:=a0g j1a B18_ok
def n0j (env:List Dat):Tree Step:=Lk.stepMC false LK r2m 11 4 ls0 (mkM 0 [] [(sh 24 [(1,.ptr 0 0),(4,.int .i64 0)],[laB 1])] [] [(.exit 0,sh 24 [],[]),(.ret,sh 24 [(2,.int .i64 0),(3,.int .i64 1)],[])] fun _=>none) env
theorem i3m: ∃f:List Dat→Option (Nat×List Dat),∀env,f env=a0b n0j FU env:=⟨a0b n0j FU,fun _=>rfl⟩
def z0k:List Dat→Option (Nat×List Dat):=Classical.choose i3m
theorem d1t (env:List Dat):z0k env=a0b n0j FU env:=Classical.choose_spec i3m env
def v2w:MBox:=mkM 0 [] [(sh 24 [(1,.ptr 0 0),(4,.int .i64 0)],[laB 1])] [] [(.exit 0,sh 24 [],[]),(.ret,sh 24 [(2,.int .i64 0),(3,.int .i64 1)],[])] z0k
theorem l2p:v2w=mkM 0 [] [(sh 24 [(1,.ptr 0 0),(4,.int .i64 0)],[laB 1])] [] [(.exit 0,sh 24 [],[]),(.ret,sh 24 [(2,.int .i64 0),(3,.int .i64 1)],[])] (a0b n0j FU):=congrArg (fun f=>mkM 0 [] [(sh 24 [(1,.ptr 0 0),(4,.int .i64 0)],[laB 1])] [] [(.exit 0,sh 24 [],[]),(.ret,sh 24 [(2,.int .i64 0),(3,.int .i64 1)],[])] f) (funext d1t)
theorem q2a: ∀t s x,(a0h v2w t s).sel=some x→a0k Tryz.prog 0 (.loop (cAt Tryz.prog 11 4)) t s x:=by
 rw[l2p]
 exact a0o (st:=n0j) (m:=FU) k1t hmix false (LsOk.none _ _ _) (by kernel_rfl) (fun env y h=>by rw[←stepMC_lk];exact h)
def o0f:List Dat→Tree Step
 |[.n n0,.l (Ty.str) l1,.l (Ty.pair Ty.str (Ty.int IntKind.i64)) l2,.l (Ty.pair Ty.str (Ty.int IntKind.i64)) l3,.l (Ty.pair Ty.str (Ty.pair (Ty.int IntKind.i64) (Ty.pair (Ty.sl (Ty.int IntKind.i64)) (Ty.pair (Ty.sl (Ty.pair (Ty.int IntKind.i64) Ty.bool)) (Ty.pair (Ty.sl (Ty.int IntKind.i64)) (Ty.sl (Ty.pair (Ty.int IntKind.i64) Ty.bool))))))) l4]=>
  (.node (decide (n0<(↑(List.length l4):Int)))
   (let r1:Option (Nat×List Dat):=(q1j [.l Ty.str l1,.l TPt l2,.l TPt l3,.l TRt l4,.s (Prod.fst (List.getD l4 (Int.toNat n0) (Ty.dflt TRt))),.n (Prod.fst (Prod.snd (List.getD l4 (Int.toNat n0) (Ty.dflt TRt)))),.l TI (Prod.fst (Prod.snd (Prod.snd (List.getD l4 (Int.toNat n0) (Ty.dflt TRt))))),.l TNd (Prod.fst (Prod.snd (Prod.snd (Prod.snd (List.getD l4 (Int.toNat n0) (Ty.dflt TRt)))))),.l TI (Prod.fst (Prod.snd (Prod.snd (Prod.snd (Prod.snd (List.getD l4 (Int.toNat n0) (Ty.dflt TRt))))))),.l TNd (Prod.snd (Prod.snd (Prod.snd (Prod.snd (Prod.snd (List.getD l4 (Int.toNat n0) (Ty.dflt TRt)))))))]);
   (.node (isK 0 [HK.b] r1)
    (.node (!gb (dOf r1) 0)
    (.leaf (Step.stop 1 [.n (50:Int),.n n0]))
    (.leaf (Step.go [.k 0,.n (IntKind.wrap .i64 (n0+(1:Int))),.l Ty.str l1,.l TPt l2,.l TPt l3,.l TRt l4])))
    (.bad 351)))
   (.leaf (Step.stop 0 [])))
 |_=>.bad 0
theorem k0u (n0:Int)(l1:List (Ty.den TS))(l2:List (Ty.den TPt))(l3:List (Ty.den TPt))(l4:List (Ty.den TRt))(g0:0≤n0):Imp (o0f [.n n0,.l TS l1,.l TPt l2,.l TPt l3,.l TRt l4]) (n0j [.k 0,.n n0,.l TS l1,.l TPt l2,.l TPt l3,.l TRt l4]):=
(.pa [1]
(.nd (fun h0=>
(.pt (c:=(inR n0 (List.length l4))) (by kernel_rfl) (by kernel_rfl) (by(simp only[w64d,decide_eq_true_eq,decide_eq_false_iff_not,beq_iff_eq,beq_eq_false_iff_ne,bne_iff_ne,ne_eq,inR,Bool.and_eq_true,Bool.and_eq_false_iff,Bool.not_eq_true',Bool.not_eq_false',Bool.not_eq_eq_eq_not,Bool.not_true,Bool.not_false]at*;omega))
(.nd (fun h1=>
(.pa [1,1]
(.nd (fun h2=>
(.pa [1]
.lf)) (fun h2=>
(.pa [1]
.lf))))) (fun h1=>
.none)))) (fun h0=>
(.pa [1]
.lf))))
theorem u2h:LsOk Tryz.prog (List.length ([]:List PB)) (lsM [(4,v2w)] (List.length ([]:List PB))) (a0r Tryz.prog 11):=LsOk.many fun j B hB hk c hc hi=>by
 simp only[b0d]at hB
 split at hB
 ·rename_i e;have:=Nat.eq_of_beq_eq_true e;subst this;cases hB
  have e1:p0c Tryz.prog 11 4=[cAt Tryz.prog 11 4]:=a0e (by kernel_rfl)
  have e2:c∈p0c Tryz.prog 11 4:=a0d hc hi
  rw[e1]at e2;cases List.mem_singleton.1 e2;exact q2a
 cases hB
def t2i (env:List Dat):Tree (Nat×List Dat):=Lk.boxC false LK r2m 11 (lsM [(4,v2w)] (List.length ([]:List PB))) (mkF [laV 0] [] [] [(.tup [.int .i64 0,.int .i64 1],[])] fun _=>none) env
theorem k3n: ∃f:List Dat→Option (Nat×List Dat),∀env,f env=(t2i env).sel:=⟨fun env=>(t2i env).sel,fun _=>rfl⟩
def f2v:List Dat→Option (Nat×List Dat):=Classical.choose k3n
theorem x1x (env:List Dat):f2v env=(t2i env).sel:=Classical.choose_spec k3n env
def B19:FBox:=mkF [laV 0] [] [] [(.tup [.int .i64 0,.int .i64 1],[])] f2v
theorem B19_ok:a0v Tryz.prog 11 (a0j B19):=a0p (op:=f2v) k1t hmix false (u2h) (fun env x h=>by rw[x1x]at h;rw[←boxC_lk];exact h)
def k2a:List Dat→Tree (Nat×List Dat)
 |[.l (Ty.str) l0,.l (Ty.pair Ty.str (Ty.int IntKind.i64)) l1,.l (Ty.pair Ty.str (Ty.int IntKind.i64)) l2,.l (Ty.pair Ty.str (Ty.pair (Ty.int IntKind.i64) (Ty.pair (Ty.sl (Ty.int IntKind.i64)) (Ty.pair (Ty.sl (Ty.pair (Ty.int IntKind.i64) Ty.bool)) (Ty.pair (Ty.sl (Ty.int IntKind.i64)) (Ty.sl (Ty.pair (Ty.int IntKind.i64) Ty.bool))))))) l3]=>
  (let r1:Option (Nat×List Dat):=(b2n [.l Ty.str l0,.l TPt l1,.l TPt l2,.l TRt l3]);
   (.node (isK 0 [HK.b] r1)
   (.node (!gb (dOf r1) 0)
    (.leaf ((0,[.n (2:Int),.n (0:Int)])))
    (let r2:Option (Nat×List Dat):=(z0k [.k 0,.n (0:Int),.l Ty.str l0,.l TPt l1,.l TPt l2,.l TRt l3]);
    (.node (isK 0 [] r2)
     (.leaf ((0,[.n (0:Int),.n (0:Int)])))
     (.node (isK 1 [HK.n,HK.n] r2)
     (.leaf ((0,[.n (gn (dOf r2) 0),.n (gn (dOf r2) 1)])))
     (.bad 351)))))
   (.bad 351)))
 |_=>.bad 0
theorem d2x (l0:List (Ty.den TS))(l1:List (Ty.den TPt))(l2:List (Ty.den TPt))(l3:List (Ty.den TRt)):Imp (k2a [.l TS l0,.l TPt l1,.l TPt l2,.l TRt l3]) (t2i [.l TS l0,.l TPt l1,.l TPt l2,.l TRt l3]):=
(.nd (fun h0=>
(.pa [1]
(.nd (fun h1=>
(.pa [1]
.lf)) (fun h1=>
(.nd (fun h2=>
(.pa [1]
.lf)) (fun h2=>
(.nd (fun h3=>
(.pa [1]
.lf)) (fun h3=>
.none)))))))) (fun h0=>
.none))
def r1o:FuncId→Option a0q:=a0s 11 B19 r2m
theorem m0z:CsOk Tryz.prog r1o:=a0g k1t B19_ok
def j0v (env:List Dat):Tree Step:=Lk.stepMC false LK r1o 7 3 ls0 (mkM 0 [] [(sh 120 [(1,.int .i64 0),(2,.ptr 0 0),(5,.int .i64 1),(6,.int .i64 2)],[laB 3])] [] [(.exit 0,sh 120 [(1,.int .i64 0),(2,.ptr 0 0),(5,.int .i64 1)],[laB 2])] fun _=>none) env
theorem i3p: ∃f:List Dat→Option (Nat×List Dat),∀env,f env=a0b j0v FU env:=⟨a0b j0v FU,fun _=>rfl⟩
def z0w:List Dat→Option (Nat×List Dat):=Classical.choose i3p
theorem d1j (env:List Dat):z0w env=a0b j0v FU env:=Classical.choose_spec i3p env
def t2z:MBox:=mkM 0 [] [(sh 120 [(1,.int .i64 0),(2,.ptr 0 0),(5,.int .i64 1),(6,.int .i64 2)],[laB 3])] [] [(.exit 0,sh 120 [(1,.int .i64 0),(2,.ptr 0 0),(5,.int .i64 1)],[laB 2])] z0w
theorem q2b:t2z=mkM 0 [] [(sh 120 [(1,.int .i64 0),(2,.ptr 0 0),(5,.int .i64 1),(6,.int .i64 2)],[laB 3])] [] [(.exit 0,sh 120 [(1,.int .i64 0),(2,.ptr 0 0),(5,.int .i64 1)],[laB 2])] (a0b j0v FU):=congrArg (fun f=>mkM 0 [] [(sh 120 [(1,.int .i64 0),(2,.ptr 0 0),(5,.int .i64 1),(6,.int .i64 2)],[laB 3])] [] [(.exit 0,sh 120 [(1,.int .i64 0),(2,.ptr 0 0),(5,.int .i64 1)],[laB 2])] f) (funext d1j)
theorem p2d: ∀t s x,(a0h t2z t s).sel=some x→a0k Tryz.prog 0 (.loop (cAt Tryz.prog 7 3)) t s x:=by
 rw[q2b]
 exact a0o (st:=j0v) (m:=FU) m0z hmix false (LsOk.none _ _ _) (by kernel_rfl) (fun env y h=>by rw[←stepMC_lk];exact h)
def l0c (env:List Dat):Tree Step:=Lk.stepMC false LK r1o 7 7 ls0 (mkM 0 [] [(sh 120 [(1,.int .i64 0),(2,.ptr 0 0),(5,.int .i64 1),(7,.int .i64 2)],[laB 3])] [] [(.exit 2,sh 120 [(1,.int .i64 0),(2,.ptr 0 0),(5,.int .i64 1)],[laB 2])] fun _=>none) env
theorem i3t: ∃f:List Dat→Option (Nat×List Dat),∀env,f env=a0b l0c FU env:=⟨a0b l0c FU,fun _=>rfl⟩
def z0q:List Dat→Option (Nat×List Dat):=Classical.choose i3t
theorem d1w (env:List Dat):z0q env=a0b l0c FU env:=Classical.choose_spec i3t env
def s2d:MBox:=mkM 0 [] [(sh 120 [(1,.int .i64 0),(2,.ptr 0 0),(5,.int .i64 1),(7,.int .i64 2)],[laB 3])] [] [(.exit 2,sh 120 [(1,.int .i64 0),(2,.ptr 0 0),(5,.int .i64 1)],[laB 2])] z0q
theorem h2j:s2d=mkM 0 [] [(sh 120 [(1,.int .i64 0),(2,.ptr 0 0),(5,.int .i64 1),(7,.int .i64 2)],[laB 3])] [] [(.exit 2,sh 120 [(1,.int .i64 0),(2,.ptr 0 0),(5,.int .i64 1)],[laB 2])] (a0b l0c FU):=congrArg (fun f=>mkM 0 [] [(sh 120 [(1,.int .i64 0),(2,.ptr 0 0),(5,.int .i64 1),(7,.int .i64 2)],[laB 3])] [] [(.exit 2,sh 120 [(1,.int .i64 0),(2,.ptr 0 0),(5,.int .i64 1)],[laB 2])] f) (funext d1w)
theorem n2c: ∀t s x,(a0h s2d t s).sel=some x→a0k Tryz.prog 0 (.loop (cAt Tryz.prog 7 7)) t s x:=by
 rw[h2j]
 exact a0o (st:=l0c) (m:=FU) m0z hmix false (LsOk.none _ _ _) (by kernel_rfl) (fun env y h=>by rw[←stepMC_lk];exact h)
def g0a (env:List Dat):Tree Step:=Lk.stepMC false LK r1o 7 11 ls0 (mkM 0 [] [(sh 120 [(1,.int .i64 0),(2,.ptr 0 0),(5,.int .i64 1),(8,.int .i64 2)],[laB 3])] [] [(.exit 4,sh 120 [(1,.int .i64 0),(2,.ptr 0 0),(5,.int .i64 1)],[laB 2])] fun _=>none) env
theorem i3a: ∃f:List Dat→Option (Nat×List Dat),∀env,f env=a0b g0a FU env:=⟨a0b g0a FU,fun _=>rfl⟩
def t0y:List Dat→Option (Nat×List Dat):=Classical.choose i3a
theorem w0t (env:List Dat):t0y env=a0b g0a FU env:=Classical.choose_spec i3a env
def a2g:MBox:=mkM 0 [] [(sh 120 [(1,.int .i64 0),(2,.ptr 0 0),(5,.int .i64 1),(8,.int .i64 2)],[laB 3])] [] [(.exit 4,sh 120 [(1,.int .i64 0),(2,.ptr 0 0),(5,.int .i64 1)],[laB 2])] t0y
theorem a2w:a2g=mkM 0 [] [(sh 120 [(1,.int .i64 0),(2,.ptr 0 0),(5,.int .i64 1),(8,.int .i64 2)],[laB 3])] [] [(.exit 4,sh 120 [(1,.int .i64 0),(2,.ptr 0 0),(5,.int .i64 1)],[laB 2])] (a0b g0a FU):=congrArg (fun f=>mkM 0 [] [(sh 120 [(1,.int .i64 0),(2,.ptr 0 0),(5,.int .i64 1),(8,.int .i64 2)],[laB 3])] [] [(.exit 4,sh 120 [(1,.int .i64 0),(2,.ptr 0 0),(5,.int .i64 1)],[laB 2])] f) (funext w0t)
theorem c2u: ∀t s x,(a0h a2g t s).sel=some x→a0k Tryz.prog 0 (.loop (cAt Tryz.prog 7 11)) t s x:=by
 rw[a2w]
 exact a0o (st:=g0a) (m:=FU) m0z hmix false (LsOk.none _ _ _) (by kernel_rfl) (fun env y h=>by rw[←stepMC_lk];exact h)
def g0c (env:List Dat):Tree Step:=Lk.stepMC false LK r1o 7 15 ls0 (mkM 0 [] [(sh 120 [(1,.int .i64 0),(2,.ptr 0 0),(5,.int .i64 1),(9,.int .i64 2)],[laB 3])] [] [(.exit 6,sh 120 [(5,.int .i64 0)],[])] fun _=>none) env
theorem h3z: ∃f:List Dat→Option (Nat×List Dat),∀env,f env=a0b g0c FU env:=⟨a0b g0c FU,fun _=>rfl⟩
def s0c:List Dat→Option (Nat×List Dat):=Classical.choose h3z
theorem x0t (env:List Dat):s0c env=a0b g0c FU env:=Classical.choose_spec h3z env
def z1c:MBox:=mkM 0 [] [(sh 120 [(1,.int .i64 0),(2,.ptr 0 0),(5,.int .i64 1),(9,.int .i64 2)],[laB 3])] [] [(.exit 6,sh 120 [(5,.int .i64 0)],[])] s0c
theorem b2s:z1c=mkM 0 [] [(sh 120 [(1,.int .i64 0),(2,.ptr 0 0),(5,.int .i64 1),(9,.int .i64 2)],[laB 3])] [] [(.exit 6,sh 120 [(5,.int .i64 0)],[])] (a0b g0c FU):=congrArg (fun f=>mkM 0 [] [(sh 120 [(1,.int .i64 0),(2,.ptr 0 0),(5,.int .i64 1),(9,.int .i64 2)],[laB 3])] [] [(.exit 6,sh 120 [(5,.int .i64 0)],[])] f) (funext x0t)
theorem f2c: ∀t s x,(a0h z1c t s).sel=some x→a0k Tryz.prog 0 (.loop (cAt Tryz.prog 7 15)) t s x:=by
 rw[b2s]
 exact a0o (st:=g0c) (m:=FU) m0z hmix false (LsOk.none _ _ _) (by kernel_rfl) (fun env y h=>by rw[←stepMC_lk];exact h)
theorem v2m:LsOk Tryz.prog (List.length ([]:List PB)) (lsM [(3,t2z),(7,s2d),(11,a2g),(15,z1c)] (List.length ([]:List PB))) (a0r Tryz.prog 7):=LsOk.many fun j B hB hk c hc hi=>by
 simp only[b0d]at hB
 split at hB
 ·rename_i e;have:=Nat.eq_of_beq_eq_true e;subst this;cases hB
  have e1:p0c Tryz.prog 7 3=[cAt Tryz.prog 7 3]:=a0e (by kernel_rfl)
  have e2:c∈p0c Tryz.prog 7 3:=a0d hc hi
  rw[e1]at e2;cases List.mem_singleton.1 e2;exact p2d
 split at hB
 ·rename_i e;have:=Nat.eq_of_beq_eq_true e;subst this;cases hB
  have e1:p0c Tryz.prog 7 7=[cAt Tryz.prog 7 7]:=a0e (by kernel_rfl)
  have e2:c∈p0c Tryz.prog 7 7:=a0d hc hi
  rw[e1]at e2;cases List.mem_singleton.1 e2;exact n2c
 split at hB
 ·rename_i e;have:=Nat.eq_of_beq_eq_true e;subst this;cases hB
  have e1:p0c Tryz.prog 7 11=[cAt Tryz.prog 7 11]:=a0e (by kernel_rfl)
  have e2:c∈p0c Tryz.prog 7 11:=a0d hc hi
  rw[e1]at e2;cases List.mem_singleton.1 e2;exact c2u
 split at hB
 ·rename_i e;have:=Nat.eq_of_beq_eq_true e;subst this;cases hB
  have e1:p0c Tryz.prog 7 15=[cAt Tryz.prog 7 15]:=a0e (by kernel_rfl)
  have e2:c∈p0c Tryz.prog 7 15:=a0d hc hi
  rw[e1]at e2;cases List.mem_singleton.1 e2;exact f2c
 cases hB
def ev_15 (env:List Dat):Tree (Nat×List Dat):=Lk.boxC false LK r1o 7 (lsM [(3,t2z),(7,s2d),(11,a2g),(15,z1c)] (List.length ([]:List PB))) (mkF [laV 0,.int .i64 4] [] [] [(.int .i64 0,[])] fun _=>none) env
theorem l3h: ∃f:List Dat→Option (Nat×List Dat),∀env,f env=(ev_15 env).sel:=⟨fun env=>(ev_15 env).sel,fun _=>rfl⟩
def op_15:List Dat→Option (Nat×List Dat):=Classical.choose l3h
theorem x1o (env:List Dat):op_15 env=(ev_15 env).sel:=Classical.choose_spec l3h env
def B15:FBox:=mkF [laV 0,.int .i64 4] [] [] [(.int .i64 0,[])] op_15
theorem B15_ok:a0v Tryz.prog 7 (a0j B15):=a0p (op:=op_15) m0z hmix false (v2m) (fun env x h=>by rw[x1o]at h;rw[←boxC_lk];exact h)
def s2g:FuncId→Option a0q:=a0s 7 B15 r1o
theorem j1q:CsOk Tryz.prog s2g:=a0g m0z B15_ok
end Go.Proofs.YtplcpifjiodhcaaGreat.Vx
