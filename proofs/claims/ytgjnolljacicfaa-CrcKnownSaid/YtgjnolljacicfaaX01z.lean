import Derived.Test.YtgjnolljacicfaaVxIm
import Derived.Test.YtgjnolljacicfaaVxLk
import Derived.Test.YtgjnolljacicfaaVxLaw
import Derived.Test.YtgjnolljacicfaaY01z
import Derived.KernelRfl
import Derived.Test.YtgjnolljacicfaaVxAid
namespace Go.Proofs.Ytgjnolljacicfaa.Vx
open Go Go.RowKit
set_option linter.unusedVariables false
set_option linter.unusedSimpArgs false
set_option maxRecDepth 100000
set_option maxHeartbeats 0

def txt : List (Ty.den TB) := [(97 : Int), (98 : Int), (99 : Int), (100 : Int), (101 : Int), (102 : Int), (103 : Int), (104 : Int), (105 : Int), (106 : Int), (107 : Int)]
noncomputable def op_k3 : List Dat → Option (Nat × List Dat) := lawOpP [.l TB] (fun d => wfD (.sl TB) (gl TB d 0))
noncomputable def Bk3 : FBox := mkF [.imm TB 0] [] [] [(.bool 0, [])] op_k3
noncomputable def cs_k3 : FuncId → Option CSpec := csLend 3 Bk3 cs_q16
theorem Bk3_ok : RunOk Try.prog 3 (boxRun Bk3) := lawBox_ok (op := op_k3) cs_17_ok hmix false (ls := ls0) (LsOk.none _ _ _) fun env x he => by
  obtain ⟨rfl, h, hp⟩ := lawOpP_some he
  refine ⟨rfl, ?_⟩
  obtain ⟨x0, _, rfl, h0⟩ := fits_l h
  cases fits_nil h0
  exact (fn_W3_eq _).trans (t3' hp)
theorem cs_k3_ok : CsOk Try.prog cs_k3 := csLend_ok cs_q16_ok Bk3_ok

noncomputable def op_k4 : List Dat → Option (Nat × List Dat) := lawOpP [.n, .n, .n, .n] (fun d => ((wfD (.int .u32) (gn d 0)) && wfD (.int .u8) (gn d 1)) && wfD (.int .u8) (gn d 2))
noncomputable def Bk4 : FBox := mkF [.int .u32 0, .int .u8 1, .int .u8 2, .int .i64 3] [] [] [(.bool 0, [])] op_k4
noncomputable def cs_k4 : FuncId → Option CSpec := csLend 4 Bk4 cs_k3
theorem Bk4_ok : RunOk Try.prog 4 (boxRun Bk4) := lawBox_ok (op := op_k4) cs_17_ok hmix false (ls := ls0) (LsOk.none _ _ _) fun env x he => by
  obtain ⟨rfl, h, hp⟩ := lawOpP_some he
  refine ⟨rfl, ?_⟩
  obtain ⟨x0, _, rfl, h0⟩ := fits_n h
  obtain ⟨x1, _, rfl, h1⟩ := fits_n h0
  obtain ⟨x2, _, rfl, h2⟩ := fits_n h1
  obtain ⟨x3, _, rfl, h3⟩ := fits_n h2
  cases fits_nil h3
  simp only [Bool.and_eq_true] at hp
  exact (fn_W4_eq _ _ _ _).trans (t4' _ hp.1.1 hp.1.2 hp.2)
theorem cs_k4_ok : CsOk Try.prog cs_k4 := csLend_ok cs_k3_ok Bk4_ok

noncomputable def op_k5 : List Dat → Option (Nat × List Dat) := lawOpP [.n, .n, .n, .n] (fun d => (((wfD (.int .u32) (gn d 0)) && wfD (.int .i8) (gn d 1)) && wfD (.int .u8) (gn d 2)) && wfD (.int .u8) (gn d 3))
noncomputable def Bk5 : FBox := mkF [.int .u32 0, .int .i8 1, .int .u8 2, .int .u8 3] [] [] [(.bool 0, [])] op_k5
noncomputable def cs_k5 : FuncId → Option CSpec := csLend 5 Bk5 cs_k4
theorem Bk5_ok : RunOk Try.prog 5 (boxRun Bk5) := lawBox_ok (op := op_k5) cs_17_ok hmix false (ls := ls0) (LsOk.none _ _ _) fun env x he => by
  obtain ⟨rfl, h, hp⟩ := lawOpP_some he
  refine ⟨rfl, ?_⟩
  obtain ⟨x0, _, rfl, h0⟩ := fits_n h
  obtain ⟨x1, _, rfl, h1⟩ := fits_n h0
  obtain ⟨x2, _, rfl, h2⟩ := fits_n h1
  obtain ⟨x3, _, rfl, h3⟩ := fits_n h2
  cases fits_nil h3
  simp only [Bool.and_eq_true] at hp
  exact (fn_W5_eq _ _ _ _).trans (t5' hp.1.1.1 hp.1.1.2 hp.1.2 hp.2)
theorem cs_k5_ok : CsOk Try.prog cs_k5 := csLend_ok cs_k4_ok Bk5_ok

noncomputable def op_k6 : List Dat → Option (Nat × List Dat) := lawOpP [.l TB, .l (.int .u16), .l TB] (fun d => ((wfD (.sl TB) (gl TB d 0)) && wfD (.sl (.int .u16)) (gl (.int .u16) d 1)) && wfD (.sl TB) (gl TB d 2))
noncomputable def Bk6 : FBox := mkF [.imm TB 0, .imm (.int .u16) 1, .imm TB 2] [] [] [(.bool 0, [])] op_k6
noncomputable def cs_k6 : FuncId → Option CSpec := csLend 6 Bk6 cs_k5
theorem Bk6_ok : RunOk Try.prog 6 (boxRun Bk6) := lawBox_ok (op := op_k6) cs_17_ok hmix false (ls := (lsTab [(6, L6_6)] (0))) (L6_6_ok _) fun env x he => by
  obtain ⟨rfl, h, hp⟩ := lawOpP_some he
  refine ⟨rfl, ?_⟩
  obtain ⟨x0, _, rfl, h0⟩ := fits_l h
  obtain ⟨x1, _, rfl, h1⟩ := fits_l h0
  obtain ⟨x2, _, rfl, h2⟩ := fits_l h1
  cases fits_nil h2
  simp only [Bool.and_eq_true] at hp
  exact (fn_W6_eq _ _ _).trans (t6' hp.1.1 hp.1.2 hp.2)
theorem cs_k6_ok : CsOk Try.prog cs_k6 := csLend_ok cs_k5_ok Bk6_ok

noncomputable def op_k7 : List Dat → Option (Nat × List Dat) := lawOpP [.l TB, .n, .n] (fun d => ((wfD (.sl TB) (gl TB d 0)) && wfD (.int .u16) (gn d 1)) && wfD (.int .u8) (gn d 2))
noncomputable def Bk7 : FBox := mkF [.imm TB 0, .int .u16 1, .int .u8 2] [] [] [(.bool 0, [])] op_k7
noncomputable def cs_k7 : FuncId → Option CSpec := csLend 7 Bk7 cs_k6
theorem Bk7_ok : RunOk Try.prog 7 (boxRun Bk7) := lawBox_ok (op := op_k7) cs_17_ok hmix false (ls := ls0) (LsOk.none _ _ _) fun env x he => by
  obtain ⟨rfl, h, hp⟩ := lawOpP_some he
  refine ⟨rfl, ?_⟩
  obtain ⟨x0, _, rfl, h0⟩ := fits_l h
  obtain ⟨x1, _, rfl, h1⟩ := fits_n h0
  obtain ⟨x2, _, rfl, h2⟩ := fits_n h1
  cases fits_nil h2
  simp only [Bool.and_eq_true] at hp
  exact (fn_W7_eq _ _ _).trans (t7' hp.1.1 hp.1.2 hp.2)
theorem cs_k7_ok : CsOk Try.prog cs_k7 := csLend_ok cs_k6_ok Bk7_ok

noncomputable def op_k8 : List Dat → Option (Nat × List Dat) := lawOpP [.n, .n, .n, .n, .n, .n, .n] (fun d => ((((((wfD (.int .u32) (gn d 0)) && wfD (.int .u8) (gn d 1)) && wfD (.int .u8) (gn d 2)) && wfD (.int .u8) (gn d 3)) && wfD (.int .u8) (gn d 4)) && wfD (.int .u16) (gn d 5)) && wfD (.int .u16) (gn d 6))
noncomputable def Bk8 : FBox := mkF [.int .u32 0, .int .u8 1, .int .u8 2, .int .u8 3, .int .u8 4, .int .u16 5, .int .u16 6] [] [] [(.bool 0, [])] op_k8
noncomputable def cs_k8 : FuncId → Option CSpec := csLend 8 Bk8 cs_k7
theorem Bk8_ok : RunOk Try.prog 8 (boxRun Bk8) := lawBox_ok (op := op_k8) cs_17_ok hmix false (ls := ls0) (LsOk.none _ _ _) fun env x he => by
  obtain ⟨rfl, h, hp⟩ := lawOpP_some he
  refine ⟨rfl, ?_⟩
  obtain ⟨x0, _, rfl, h0⟩ := fits_n h
  obtain ⟨x1, _, rfl, h1⟩ := fits_n h0
  obtain ⟨x2, _, rfl, h2⟩ := fits_n h1
  obtain ⟨x3, _, rfl, h3⟩ := fits_n h2
  obtain ⟨x4, _, rfl, h4⟩ := fits_n h3
  obtain ⟨x5, _, rfl, h5⟩ := fits_n h4
  obtain ⟨x6, _, rfl, h6⟩ := fits_n h5
  cases fits_nil h6
  simp only [Bool.and_eq_true] at hp
  exact (fn_W8_eq _ _ _ _ _ _ _).trans (t8' hp.1.1.1.1.1.1 hp.1.1.1.1.1.2 hp.1.1.1.1.2 hp.1.1.1.2 hp.1.1.2 hp.1.2 hp.2)
theorem cs_k8_ok : CsOk Try.prog cs_k8 := csLend_ok cs_k7_ok Bk8_ok

noncomputable def op_k9 : List Dat → Option (Nat × List Dat) := lawOpP [.l TB, .l TB, .l TB, .n, .n] (fun d => ((((wfD (.sl TB) (gl TB d 0)) && wfD (.sl TB) (gl TB d 1)) && wfD (.sl TB) (gl TB d 2)) && wfD (.int .u32) (gn d 3)) && wfD (.int .u8) (gn d 4))
noncomputable def Bk9 : FBox := mkF [.imm TB 0, .imm TB 1, .imm TB 2, .int .u32 3, .int .u8 4] [] [] [(.bool 0, [])] op_k9
noncomputable def cs_k9 : FuncId → Option CSpec := csLend 9 Bk9 cs_k8
theorem Bk9_ok : RunOk Try.prog 9 (boxRun Bk9) := lawBox_ok (op := op_k9) cs_17_ok hmix false (ls := ls0) (LsOk.none _ _ _) fun env x he => by
  obtain ⟨rfl, h, hp⟩ := lawOpP_some he
  refine ⟨rfl, ?_⟩
  obtain ⟨x0, _, rfl, h0⟩ := fits_l h
  obtain ⟨x1, _, rfl, h1⟩ := fits_l h0
  obtain ⟨x2, _, rfl, h2⟩ := fits_l h1
  obtain ⟨x3, _, rfl, h3⟩ := fits_n h2
  obtain ⟨x4, _, rfl, h4⟩ := fits_n h3
  cases fits_nil h4
  simp only [Bool.and_eq_true] at hp
  exact (fn_W9_eq _ _ _ _ _).trans (t9' hp.1.1.1.1 hp.1.1.1.2 hp.1.1.2 hp.1.2 hp.2)
theorem cs_k9_ok : CsOk Try.prog cs_k9 := csLend_ok cs_k8_ok Bk9_ok

noncomputable def st_L10_3 (env : List Dat) : Tree Step := Lk.stepMC false LK cs_k9 10 3 ls0 (mkM 0 [] [(sh 222 [(1, .own 0), (2, .int .i64 0)], [.arr TB 1])] [] [(.exit 0, sh 222 [(1, .own 0)], [.arr TB 0]), (.ret, sh 222 [(0, .bool 0)], [])] fun _ => none) env
theorem op_L10_3_ex : ∃ f : List Dat → Option (Nat × List Dat), ∀ env, f env = iterS st_L10_3 FU env := ⟨iterS st_L10_3 FU, fun _ => rfl⟩
noncomputable def op_L10_3 : List Dat → Option (Nat × List Dat) := Classical.choose op_L10_3_ex
theorem op_L10_3_eq (env : List Dat) : op_L10_3 env = iterS st_L10_3 FU env := Classical.choose_spec op_L10_3_ex env
noncomputable def L10_3 : MBox := mkM 0 [] [(sh 222 [(1, .own 0), (2, .int .i64 0)], [.arr TB 1])] [] [(.exit 0, sh 222 [(1, .own 0)], [.arr TB 0]), (.ret, sh 222 [(0, .bool 0)], [])] op_L10_3
theorem L10_3_eqs : L10_3 = mkM 0 [] [(sh 222 [(1, .own 0), (2, .int .i64 0)], [.arr TB 1])] [] [(.exit 0, sh 222 [(1, .own 0)], [.arr TB 0]), (.ret, sh 222 [(0, .bool 0)], [])] (iterS st_L10_3 FU) := congrArg (fun f => mkM 0 [] [(sh 222 [(1, .own 0), (2, .int .i64 0)], [.arr TB 1])] [] [(.exit 0, sh 222 [(1, .own 0)], [.arr TB 0]), (.ret, sh 222 [(0, .bool 0)], [])] f) (funext op_L10_3_eq)
theorem L10_3_run : ∀ t s x, (manyRun L10_3 t s).sel = some x → CodeOk Try.prog 0 (.loop (cAt Try.prog 10 3)) t s x := by
  rw [L10_3_eqs]
  exact mkM_ok (st := st_L10_3) (m := FU) cs_k9_ok hmix false (LsOk.none _ _ _) (by kernel_rfl) (fun env y h => by rw [← stepMC_lk]; exact h)
theorem op_L10_3_good {p : Nat × List Dat → Prop} (Inv : List Dat → Prop) (μ : List Dat → Nat) (h : ∀ env, Inv env → Good (fun y => match y with | .go e => Inv e ∧ μ e < μ env | .stop k d => p (k, d)) (st_L10_3 env).sel) (env : List Dat) (hi : Inv env) (hm : μ env < FU) : Good p (op_L10_3 env) := by
  rw [op_L10_3_eq]
  exact iterS_good Inv μ p h FU env hi hm

noncomputable def fn_L10_3_t : List Dat → Tree Step
  | [.n n0] =>
    (let r1 : Option (Nat × List Dat) := (op_k3 [.l (Ty.int IntKind.u8) [IntKind.wrap .u8 n0]]);
     (.node (isK 0 [HK.b] r1)
      (.node (!gb (dOf r1) 0)
       (.leaf (Step.stop 1 [.b false]))
       (let r2 : Option (Nat × List Dat) := (op_k3 [.l (Ty.int IntKind.u8) [IntKind.wrap .u8 n0, ixor IntKind.u8 (255 : Int) (IntKind.wrap .u8 n0), IntKind.wrap .u8 n0]]);
        (.node (isK 0 [HK.b] r2)
         (.node (!gb (dOf r2) 0)
          (.leaf (Step.stop 1 [.b false]))
          (let r3 : Option (Nat × List Dat) := (op_k7 [.l (Ty.int IntKind.u8) [(97 : Int), (98 : Int), (99 : Int), (100 : Int), (101 : Int), (102 : Int), (103 : Int), (104 : Int), (105 : Int), (106 : Int), (107 : Int)], .n (IntKind.wrap .u16 n0), .n (IntKind.wrap .u8 n0)]);
           (.node (isK 0 [HK.b] r3)
            (.node (!gb (dOf r3) 0)
             (.leaf (Step.stop 1 [.b false]))
             (let r4 : Option (Nat × List Dat) := (op_k8 [.n (IntKind.wrap .u32 n0), .n (IntKind.wrap .u8 n0), .n (ixor IntKind.u8 (255 : Int) (IntKind.wrap .u8 n0)), .n (IntKind.wrap .u8 (Int.tdiv (IntKind.wrap .u8 n0) (2 : Int))), .n (3 : Int), .n (IntKind.wrap .u16 (Int.tmod n0 (7 : Int))), .n (IntKind.wrap .u16 (Int.tmod n0 (5 : Int)))]);
              (.node (isK 0 [HK.b] r4)
               (.node (!gb (dOf r4) 0)
                (.leaf (Step.stop 1 [.b false]))
                (let r5 : Option (Nat × List Dat) := (op_k6 [.l (Ty.int IntKind.u8) [(97 : Int), (98 : Int), (99 : Int), (100 : Int), (101 : Int), (102 : Int), (103 : Int), (104 : Int), (105 : Int), (106 : Int), (107 : Int)], .l (Ty.int IntKind.u16) [IntKind.wrap .u16 n0, (3 : Int), IntKind.wrap .u16 n0], .l (Ty.int IntKind.u8) [IntKind.wrap .u8 n0, IntKind.wrap .u8 n0, (122 : Int)]]);
                 (.node (isK 0 [HK.b] r5)
                  (.node (!gb (dOf r5) 0)
                   (.leaf (Step.stop 1 [.b false]))
                   (.leaf (Step.go [.k 0, .n (IntKind.wrap .i64 (n0 + (1 : Int))), .l (Ty.int IntKind.u8) [(97 : Int), (98 : Int), (99 : Int), (100 : Int), (101 : Int), (102 : Int), (103 : Int), (104 : Int), (105 : Int), (106 : Int), (107 : Int)]])))
                  (.bad 351))))
               (.bad 351))))
            (.bad 351))))
         (.bad 351))))
      (.bad 351)))
  | _ => .bad 0
theorem fn_L10_3_t_im (n0 : Int) (g0 : 0 ≤ n0) (g1 :  n0 < 256) : Imp (fn_L10_3_t [.n n0]) (st_L10_3 [.k 0, .n n0, .l TB txt]) :=
(.path [1] (by kernel_rfl)
(.pt (c := (decide (n0 < (256 : Int)))) (by kernel_rfl) (by kernel_rfl) (by (simp [*]; done))
(.node (by kernel_rfl) (by kernel_rfl) (fun h0 =>
(.path [1] (by kernel_rfl)
(.node (by kernel_rfl) (by kernel_rfl) (fun h1 =>
(.path [1,1,1,1,1,1,1,1,1] (by kernel_rfl)
(.leaf (by kernel_rfl)))) (fun h1 =>
(.node (by kernel_rfl) (by kernel_rfl) (fun h2 =>
(.path [1] (by kernel_rfl)
(.node (by kernel_rfl) (by kernel_rfl) (fun h3 =>
(.path [1,1,1,1,1,1,1] (by kernel_rfl)
(.leaf (by kernel_rfl)))) (fun h3 =>
(.node (by kernel_rfl) (by kernel_rfl) (fun h4 =>
(.path [1] (by kernel_rfl)
(.node (by kernel_rfl) (by kernel_rfl) (fun h5 =>
(.path [1,1,1,1,1] (by kernel_rfl)
(.leaf (by kernel_rfl)))) (fun h5 =>
(.path [1,1,1] (by kernel_rfl)
(.node (by kernel_rfl) (by kernel_rfl) (fun h6 =>
(.path [1] (by kernel_rfl)
(.node (by kernel_rfl) (by kernel_rfl) (fun h7 =>
(.path [1,1,1] (by kernel_rfl)
(.leaf (by kernel_rfl)))) (fun h7 =>
(.node (by kernel_rfl) (by kernel_rfl) (fun h8 =>
(.path [1] (by kernel_rfl)
(.node (by kernel_rfl) (by kernel_rfl) (fun h9 =>
(.path [1] (by kernel_rfl)
(.leaf (by kernel_rfl)))) (fun h9 =>
(.path [1] (by kernel_rfl)
(.leaf (by kernel_rfl))))))) (fun h8 =>
.none)))))) (fun h6 =>
.none))))))) (fun h4 =>
.none)))))) (fun h2 =>
.none)))))) (fun h0 =>
.none))))

noncomputable def fn_L10_3_x : List Dat → Tree Step
  | [] =>
    (.leaf (Step.stop 0 [.l (Ty.int IntKind.u8) [(97 : Int), (98 : Int), (99 : Int), (100 : Int), (101 : Int), (102 : Int), (103 : Int), (104 : Int), (105 : Int), (106 : Int), (107 : Int)]]))
  | _ => .bad 0
theorem fn_L10_3_x_im  : Imp (fn_L10_3_x []) (st_L10_3 [.k 0, .n 256, .l TB txt]) :=
(.path [1,0,1] (by kernel_rfl)
(.leaf (by kernel_rfl)))

noncomputable def st_L10_9 (env : List Dat) : Tree Step := Lk.stepMC false LK cs_k9 10 9 ls0 (mkM 0 [] [(sh 222 [(1, .own 0), (4, .int .i64 0)], [.arr TB 1])] [] [(.exit 2, sh 222 [], []), (.ret, sh 222 [(0, .bool 0)], [])] fun _ => none) env
theorem op_L10_9_ex : ∃ f : List Dat → Option (Nat × List Dat), ∀ env, f env = iterS st_L10_9 FU env := ⟨iterS st_L10_9 FU, fun _ => rfl⟩
noncomputable def op_L10_9 : List Dat → Option (Nat × List Dat) := Classical.choose op_L10_9_ex
theorem op_L10_9_eq (env : List Dat) : op_L10_9 env = iterS st_L10_9 FU env := Classical.choose_spec op_L10_9_ex env
noncomputable def L10_9 : MBox := mkM 0 [] [(sh 222 [(1, .own 0), (4, .int .i64 0)], [.arr TB 1])] [] [(.exit 2, sh 222 [], []), (.ret, sh 222 [(0, .bool 0)], [])] op_L10_9
theorem L10_9_eqs : L10_9 = mkM 0 [] [(sh 222 [(1, .own 0), (4, .int .i64 0)], [.arr TB 1])] [] [(.exit 2, sh 222 [], []), (.ret, sh 222 [(0, .bool 0)], [])] (iterS st_L10_9 FU) := congrArg (fun f => mkM 0 [] [(sh 222 [(1, .own 0), (4, .int .i64 0)], [.arr TB 1])] [] [(.exit 2, sh 222 [], []), (.ret, sh 222 [(0, .bool 0)], [])] f) (funext op_L10_9_eq)
theorem L10_9_run : ∀ t s x, (manyRun L10_9 t s).sel = some x → CodeOk Try.prog 0 (.loop (cAt Try.prog 10 9)) t s x := by
  rw [L10_9_eqs]
  exact mkM_ok (st := st_L10_9) (m := FU) cs_k9_ok hmix false (LsOk.none _ _ _) (by kernel_rfl) (fun env y h => by rw [← stepMC_lk]; exact h)
theorem op_L10_9_good {p : Nat × List Dat → Prop} (Inv : List Dat → Prop) (μ : List Dat → Nat) (h : ∀ env, Inv env → Good (fun y => match y with | .go e => Inv e ∧ μ e < μ env | .stop k d => p (k, d)) (st_L10_9 env).sel) (env : List Dat) (hi : Inv env) (hm : μ env < FU) : Good p (op_L10_9 env) := by
  rw [op_L10_9_eq]
  exact iterS_good Inv μ p h FU env hi hm

noncomputable def fn_L10_9_t : List Dat → Tree Step
  | [.n n0] =>
    (.node (decide ((0 : Int) ≤ Int.tmod n0 (11 : Int)) && decide (Int.tmod n0 (11 : Int) ≤ (11 : Int)))
     (let r1 : Option (Nat × List Dat) := (op_k9 [.l (Ty.int IntKind.u8) [(97 : Int), (98 : Int), (99 : Int), (100 : Int), (101 : Int), (102 : Int), (103 : Int), (104 : Int), (105 : Int), (106 : Int), (107 : Int)], .l (Ty.int IntKind.u8) [(97 : Int), (98 : Int), (99 : Int), (100 : Int), (101 : Int), (102 : Int), (103 : Int), (104 : Int), (105 : Int), (106 : Int), (107 : Int)], .l (Ty.int IntKind.u8) (List.take (11 - Int.toNat (Int.tmod n0 (11 : Int))) (List.drop (Int.toNat (Int.tmod n0 (11 : Int))) [(97 : Int), (98 : Int), (99 : Int), (100 : Int), (101 : Int), (102 : Int), (103 : Int), (104 : Int), (105 : Int), (106 : Int), (107 : Int)])), .n (ishl IntKind.u32 (1 : Int) n0), .n (IntKind.wrap .u8 n0)]);
      (.node (isK 0 [HK.b] r1)
       (.node (!gb (dOf r1) 0)
        (.leaf (Step.stop 1 [.b false]))
        (let r2 : Option (Nat × List Dat) := (op_k5 [.n (ishl IntKind.u32 (1 : Int) n0), .n (IntKind.wrap .i8 n0), .n (IntKind.wrap .u8 n0), .n (IntKind.wrap .u8 (IntKind.wrap .i64 (Int.tdiv n0 (2 : Int))))]);
         (.node (isK 0 [HK.b] r2)
          (.node (!gb (dOf r2) 0)
           (.leaf (Step.stop 1 [.b false]))
           (let r3 : Option (Nat × List Dat) := (op_k4 [.n (ishl IntKind.u32 (1 : Int) n0), .n (IntKind.wrap .u8 n0), .n (IntKind.wrap .u8 (IntKind.wrap .i64 (n0 * (9 : Int)))), .n n0]);
            (.node (isK 0 [HK.b] r3)
             (.node (!gb (dOf r3) 0)
              (.leaf (Step.stop 1 [.b false]))
              (.leaf (Step.go [.k 0, .n (IntKind.wrap .i64 (n0 + (1 : Int))), .l (Ty.int IntKind.u8) [(97 : Int), (98 : Int), (99 : Int), (100 : Int), (101 : Int), (102 : Int), (103 : Int), (104 : Int), (105 : Int), (106 : Int), (107 : Int)]])))
             (.bad 351))))
          (.bad 351))))
       (.bad 351)))
     (.bad 43))
  | _ => .bad 0
theorem fn_L10_9_t_im (n0 : Int) (g0 : 0 ≤ n0) (g1 :  n0 < 32) : Imp (fn_L10_9_t [.n n0]) (st_L10_9 [.k 0, .n n0, .l TB txt]) :=
(.path [1] (by kernel_rfl)
(.pt (c := (decide (n0 < (32 : Int)))) (by kernel_rfl) (by kernel_rfl) (by (simp [*]; done))
(.path [1,1] (by kernel_rfl)
(.node (by kernel_rfl) (by kernel_rfl) (fun h0 =>
(.pt (c := (!decide (n0 < (0 : Int)))) (by kernel_rfl) (by kernel_rfl) (by (simp [*]; done))
(.node (by kernel_rfl) (by kernel_rfl) (fun h1 =>
(.path [1] (by kernel_rfl)
(.node (by kernel_rfl) (by kernel_rfl) (fun h2 =>
(.path [1,1,1,1,1,1] (by kernel_rfl)
(.leaf (by kernel_rfl)))) (fun h2 =>
(.pt (c := (!decide (n0 < (0 : Int)))) (by kernel_rfl) (by kernel_rfl) (by (simp [*]; done))
(.path [1] (by kernel_rfl)
(.node (by kernel_rfl) (by kernel_rfl) (fun h3 =>
(.path [1] (by kernel_rfl)
(.node (by kernel_rfl) (by kernel_rfl) (fun h4 =>
(.path [1,1,1,1] (by kernel_rfl)
(.leaf (by kernel_rfl)))) (fun h4 =>
(.pt (c := (!decide (n0 < (0 : Int)))) (by kernel_rfl) (by kernel_rfl) (by (simp [*]; done))
(.node (by kernel_rfl) (by kernel_rfl) (fun h5 =>
(.path [1,1] (by kernel_rfl)
(.node (by kernel_rfl) (by kernel_rfl) (fun h6 =>
(.path [1] (by kernel_rfl)
(.leaf (by kernel_rfl)))) (fun h6 =>
(.path [1] (by kernel_rfl)
(.leaf (by kernel_rfl))))))) (fun h5 =>
.none))))))) (fun h3 =>
.none)))))))) (fun h1 =>
.none)))) (fun h0 =>
.none)))))

noncomputable def fn_L10_9_x : List Dat → Tree Step
  | [] =>
    (.leaf (Step.stop 0 []))
  | _ => .bad 0
theorem fn_L10_9_x_im  : Imp (fn_L10_9_x []) (st_L10_9 [.k 0, .n 32, .l TB txt]) :=
(.path [1,0,1] (by kernel_rfl)
(.leaf (by kernel_rfl)))

theorem ls_10_ok : LsOk Try.prog (0) (lsM [(3, L10_3), (9, L10_9)] (0)) (bodyOf Try.prog 10) := LsOk.many fun j B hB hk c hc hi => by
  simp only [lookM] at hB
  split at hB
  · rename_i e; have := Nat.eq_of_beq_eq_true e; subst this; cases hB
    have e1 : loopAt Try.prog 10 3 = [cAt Try.prog 10 3] := loopAt_one (by kernel_rfl)
    have e2 : c ∈ loopAt Try.prog 10 3 := loopsAt_mem hc hi
    rw [e1] at e2; cases List.mem_singleton.1 e2; exact L10_3_run
  split at hB
  · rename_i e; have := Nat.eq_of_beq_eq_true e; subst this; cases hB
    have e1 : loopAt Try.prog 10 9 = [cAt Try.prog 10 9] := loopAt_one (by kernel_rfl)
    have e2 : c ∈ loopAt Try.prog 10 9 := loopsAt_mem hc hi
    rw [e1] at e2; cases List.mem_singleton.1 e2; exact L10_9_run
  cases hB

noncomputable def ev_W10 (env : List Dat) : Tree Bool := Lk.lawB false LK cs_k9 10 (lsM [(3, L10_3), (9, L10_9)] (0)) (instL [] env)

theorem W10_law (env : List Dat) (h : (ev_W10 env).sel = some true) {w : World} {args : Array Value} (ha : LRel R0 (snapOf w) (instL [] env) args) :
    Calls Try.prog 10 args w fun e w' => e = .returned (.bool true) ∧ Below w.heap.size w w' :=
  lawB_ok cs_k9_ok hmix false (ls := (lsM [(3, L10_3), (9, L10_9)] (0))) (ls_10_ok) (by rw [← lawB_lk]; exact h) ha

noncomputable def fn_W10_t : List Dat → Tree Bool
  | [] =>
    (let r1 : Option (Nat × List Dat) := (op_L10_3 [.k 0, .n (0 : Int), .l (Ty.int IntKind.u8) [(97 : Int), (98 : Int), (99 : Int), (100 : Int), (101 : Int), (102 : Int), (103 : Int), (104 : Int), (105 : Int), (106 : Int), (107 : Int)]]);
     (.node (isK 0 [HK.l (Ty.int IntKind.u8)] r1)
      (let r2 : Option (Nat × List Dat) := (op_L10_9 [.k 0, .n (0 : Int), .l (Ty.int IntKind.u8) (gl (Ty.int IntKind.u8) (dOf r1) 0)]);
       (.node (isK 0 [] r2)
        (let r3 : Option (Nat × List Dat) := (op_q12 [.l (Ty.int IntKind.u8) (repN (α := Ty.den (Ty.int IntKind.u8)) 65537 (0 : Int))]);
         (.node (isK 0 [HK.n] r3)
          (.node (inR (0 : Int) (List.length (repN (α := Ty.den (Ty.int IntKind.u8)) 65537 (0 : Int))))
           (let r4 : Option (Nat × List Dat) := (op_q14 [.n (gn (dOf r3) 0), .n (0 : Int), .n (5 : Int), .n (65536 : Int)]);
            (.node (isK 0 [HK.n, HK.b] r4)
             (let r5 : Option (Nat × List Dat) := (op_q14 [.n (0 : Int), .n (0 : Int), .n (1 : Int), .n (0 : Int)]);
              (.node (isK 0 [HK.n, HK.b] r5)
               (let r6 : Option (Nat × List Dat) := (op_q14 [.n (7 : Int), .n (5 : Int), .n (5 : Int), .n (9 : Int)]);
                (.node (isK 0 [HK.n, HK.b] r6)
                 (let r7 : Option (Nat × List Dat) := (op_q16 [.n (1996959894 : Int), .n (1 : Int)]);
                  (.node (isK 0 [HK.n, HK.n, HK.b] r7)
                   (let r8 : Option (Nat × List Dat) := (op_q16 [.n (0 : Int), .n (65545 : Int)]);
                    (.node (isK 0 [HK.n, HK.n, HK.b] r8)
                     (let r9 : Option (Nat × List Dat) := (op_q16 [.n (1996959894 : Int), .n (-9223372036854775808 : Int)]);
                      (.node (isK 0 [HK.n, HK.n, HK.b] r9)
                       (.node (gb (dOf r4) 1)
                        (let r10 : Option (Nat × List Dat) := (op_q12 [.l (Ty.int IntKind.u8) (List.set (repN (α := Ty.den (Ty.int IntKind.u8)) 65537 (0 : Int)) 0 (5 : Int))]);
                         (.node (isK 0 [HK.n] r10)
                          (.node (gn (dOf r4) 0 == gn (dOf r10) 0)
                           (.node (gb (dOf r5) 1)
                            (.node (gn (dOf r5) 0 == (1996959894 : Int))
                             (.node (gb (dOf r6) 1)
                              (.node (gn (dOf r6) 0 == (7 : Int))
                               (.node (gb (dOf r7) 2)
                                (.node (gn (dOf r7) 0 == (0 : Int))
                                 (.node (gn (dOf r7) 1 == (1 : Int))
                                  (.node (!gb (dOf r8) 2)
                                   (.node (!gb (dOf r9) 2)
                                    (let r11 : Option (Nat × List Dat) := (op_q12 [.l (Ty.int IntKind.u8) []]);
                                     (.node (isK 0 [HK.n] r11)
                                      (.node (gn (dOf r11) 0 == (0 : Int))
                                       (let r12 : Option (Nat × List Dat) := (op_q12 [.l (Ty.int IntKind.u8) [(0 : Int)]]);
                                        (.node (isK 0 [HK.n] r12)
                                         (.node (gn (dOf r12) 0 == (3523407757 : Int))
                                          (.leaf (true))
                                          (.leaf (false)))
                                         (.bad 351)))
                                       (.leaf (false)))
                                      (.bad 351)))
                                    (.leaf (false)))
                                   (.leaf (false)))
                                  (.leaf (false)))
                                 (.leaf (false)))
                                (.leaf (false)))
                               (.leaf (false)))
                              (.leaf (false)))
                             (.leaf (false)))
                            (.leaf (false)))
                           (.leaf (false)))
                          (.bad 351)))
                        (.leaf (false)))
                       (.bad 351)))
                     (.bad 351)))
                   (.bad 351)))
                 (.bad 351)))
               (.bad 351)))
             (.bad 351)))
           (.bad 12))
          (.bad 351)))
        (.node (isK 1 [HK.b] r2)
         (.leaf (gb (dOf r2) 0))
         (.bad 351))))
      (.node (isK 1 [HK.b] r1)
       (.leaf (gb (dOf r1) 0))
       (.bad 351))))
  | _ => .bad 0
theorem fn_W10_t_im  : Imp (fn_W10_t []) (ev_W10 []) :=
(.node (by kernel_rfl) (by kernel_rfl) (fun h0 =>
(.node (by kernel_rfl) (by kernel_rfl) (fun h1 =>
(.path [1,1,1,1,0,1,1,1,1,0,1,1,1,1,0,1,1,1,1,0,0,1] (by kernel_rfl)
(.node (by kernel_rfl) (by kernel_rfl) (fun h2 =>
(.path [1] (by kernel_rfl)
(.node (by kernel_rfl) (by kernel_rfl) (fun h3 =>
(.node (by kernel_rfl) (by kernel_rfl) (fun h4 =>
(.path [1] (by kernel_rfl)
(.node (by kernel_rfl) (by kernel_rfl) (fun h5 =>
(.path [1] (by kernel_rfl)
(.node (by kernel_rfl) (by kernel_rfl) (fun h6 =>
(.path [1] (by kernel_rfl)
(.node (by kernel_rfl) (by kernel_rfl) (fun h7 =>
(.path [1] (by kernel_rfl)
(.node (by kernel_rfl) (by kernel_rfl) (fun h8 =>
(.path [1] (by kernel_rfl)
(.node (by kernel_rfl) (by kernel_rfl) (fun h9 =>
(.path [1] (by kernel_rfl)
(.node (by kernel_rfl) (by kernel_rfl) (fun h10 =>
(.node (by kernel_rfl) (by kernel_rfl) (fun h11 =>
(.path [1] (by kernel_rfl)
(.node (by kernel_rfl) (by kernel_rfl) (fun h12 =>
(.node (by kernel_rfl) (by kernel_rfl) (fun h13 =>
(.node (by kernel_rfl) (by kernel_rfl) (fun h14 =>
(.node (by kernel_rfl) (by kernel_rfl) (fun h15 =>
(.node (by kernel_rfl) (by kernel_rfl) (fun h16 =>
(.node (by kernel_rfl) (by kernel_rfl) (fun h17 =>
(.node (by kernel_rfl) (by kernel_rfl) (fun h18 =>
(.node (by kernel_rfl) (by kernel_rfl) (fun h19 =>
(.node (by kernel_rfl) (by kernel_rfl) (fun h20 =>
(.node (by kernel_rfl) (by kernel_rfl) (fun h21 =>
(.node (by kernel_rfl) (by kernel_rfl) (fun h22 =>
(.path [1] (by kernel_rfl)
(.node (by kernel_rfl) (by kernel_rfl) (fun h23 =>
(.node (by kernel_rfl) (by kernel_rfl) (fun h24 =>
(.path [1] (by kernel_rfl)
(.node (by kernel_rfl) (by kernel_rfl) (fun h25 =>
(.path [1,1,1,1,1,1] (by kernel_rfl)
(.leaf (by kernel_rfl)))) (fun h25 =>
(.path [0,0,0] (by kernel_rfl)
(.leaf (by kernel_rfl))))))) (fun h24 =>
.none))) (fun h23 =>
(.path [0,0,0,0,0] (by kernel_rfl)
(.leaf (by kernel_rfl))))))) (fun h22 =>
.none))) (fun h21 =>
(.path [0,0,0,0,0,0,0] (by kernel_rfl)
(.leaf (by kernel_rfl)))))) (fun h20 =>
(.path [0,0,0,0,0,0,0,0,0] (by kernel_rfl)
(.leaf (by kernel_rfl)))))) (fun h19 =>
(.path [0,0,0,0,0,0,0,0,0,0,0] (by kernel_rfl)
(.leaf (by kernel_rfl)))))) (fun h18 =>
(.path [0,0,0,0,0,0,0,0,0,0,0,0,0] (by kernel_rfl)
(.leaf (by kernel_rfl)))))) (fun h17 =>
(.path [0,0,0,0,0,0,0,0,0,0,0,0,0,0,0] (by kernel_rfl)
(.leaf (by kernel_rfl)))))) (fun h16 =>
(.path [0,0,0,0,0,0,0,0,0,0,0,0,0,0,0,0,0] (by kernel_rfl)
(.leaf (by kernel_rfl)))))) (fun h15 =>
(.path [0,0,0,0,0,0,0,0,0,0,0,0,0,0,0,0,0,0,0] (by kernel_rfl)
(.leaf (by kernel_rfl)))))) (fun h14 =>
(.path [0,0,0,0,0,0,0,0,0,0,0,0,0,0,0,0,0,0,0,0,0] (by kernel_rfl)
(.leaf (by kernel_rfl)))))) (fun h13 =>
(.path [0,0,0,0,0,0,0,0,0,0,0,0,0,0,0,0,0,0,0,0,0,0,0] (by kernel_rfl)
(.leaf (by kernel_rfl)))))) (fun h12 =>
(.path [0,0,0,0,0,0,0,0,0,0,0,0,0,0,0,0,0,0,0,0,0,0,0,0,0] (by kernel_rfl)
(.leaf (by kernel_rfl))))))) (fun h11 =>
.none))) (fun h10 =>
(.path [0,0,0,0,0,0,0,0,0,0,0,0,0,0,0,0,0,0,0,0,0,0,0,0,0,0,0] (by kernel_rfl)
(.leaf (by kernel_rfl))))))) (fun h9 =>
.none)))) (fun h8 =>
.none)))) (fun h7 =>
.none)))) (fun h6 =>
.none)))) (fun h5 =>
.none)))) (fun h4 =>
.none))) (fun h3 =>
.none)))) (fun h2 =>
.none)))) (fun h1 =>
(.node (by kernel_rfl) (by kernel_rfl) (fun h2 =>
(.leaf (by kernel_rfl))) (fun h2 =>
.none))))) (fun h0 =>
(.node (by kernel_rfl) (by kernel_rfl) (fun h1 =>
(.leaf (by kernel_rfl))) (fun h1 =>
.none))))
end Go.Proofs.Ytgjnolljacicfaa.Vx
namespace Go.Proofs.Ytgjnolljacicfaa.Vx
open Go Go.RowKit
set_option linter.unusedVariables false
set_option linter.unusedSimpArgs false
set_option maxRecDepth 100000
set_option maxHeartbeats 0
def okb : Option (Nat × List Dat) → Bool
  | some (0, [.b true]) => true
  | _ => false
theorem okb_is {o : Option (Nat × List Dat)} (h : okb o = true) : o = some (0, [.b true]) := by
  unfold okb at h
  split at h
  · rfl
  · cases h
theorem a3_0 : ∀ k : Fin 256, okb (op_k3 [.l (Ty.int IntKind.u8) [IntKind.wrap .u8 (k.val : Int)]]) = true := by decide +kernel
theorem a3_1 : ∀ k : Fin 256, okb (op_k3 [.l (Ty.int IntKind.u8) [IntKind.wrap .u8 (k.val : Int), ixor IntKind.u8 (255 : Int) (IntKind.wrap .u8 (k.val : Int)), IntKind.wrap .u8 (k.val : Int)]]) = true := by decide +kernel
theorem a3_2 : ∀ k : Fin 256, okb (op_k7 [.l (Ty.int IntKind.u8) [(97 : Int), (98 : Int), (99 : Int), (100 : Int), (101 : Int), (102 : Int), (103 : Int), (104 : Int), (105 : Int), (106 : Int), (107 : Int)], .n (IntKind.wrap .u16 (k.val : Int)), .n (IntKind.wrap .u8 (k.val : Int))]) = true := by decide +kernel
theorem a3_3 : ∀ k : Fin 256, okb (op_k8 [.n (IntKind.wrap .u32 (k.val : Int)), .n (IntKind.wrap .u8 (k.val : Int)), .n (ixor IntKind.u8 (255 : Int) (IntKind.wrap .u8 (k.val : Int))), .n (IntKind.wrap .u8 (Int.tdiv (IntKind.wrap .u8 (k.val : Int)) (2 : Int))), .n (3 : Int), .n (IntKind.wrap .u16 (Int.tmod (k.val : Int) (7 : Int))), .n (IntKind.wrap .u16 (Int.tmod (k.val : Int) (5 : Int)))]) = true := by decide +kernel
theorem a3_4 : ∀ k : Fin 256, okb (op_k6 [.l (Ty.int IntKind.u8) [(97 : Int), (98 : Int), (99 : Int), (100 : Int), (101 : Int), (102 : Int), (103 : Int), (104 : Int), (105 : Int), (106 : Int), (107 : Int)], .l (Ty.int IntKind.u16) [IntKind.wrap .u16 (k.val : Int), (3 : Int), IntKind.wrap .u16 (k.val : Int)], .l (Ty.int IntKind.u8) [IntKind.wrap .u8 (k.val : Int), IntKind.wrap .u8 (k.val : Int), (122 : Int)]]) = true := by decide +kernel
theorem s3 (n : Int) (h0 : 0 ≤ n) (h1 : n < 256) : (st_L10_3 [.k 0, .n n, .l TB txt]).sel = some (.go [.k 0, .n (n + 1), .l TB txt]) := by
  have e0 : op_k3 [.l (Ty.int IntKind.u8) [IntKind.wrap .u8 n]] = some (0, [.b true]) := by
    obtain ⟨k, rfl⟩ : ∃ k : Fin 256, n = (k.val : Int) := ⟨⟨n.toNat, by omega⟩, by show n = ((n.toNat : Nat) : Int); omega⟩
    exact okb_is (a3_0 k)
  have e1 : op_k3 [.l (Ty.int IntKind.u8) [IntKind.wrap .u8 n, ixor IntKind.u8 (255 : Int) (IntKind.wrap .u8 n), IntKind.wrap .u8 n]] = some (0, [.b true]) := by
    obtain ⟨k, rfl⟩ : ∃ k : Fin 256, n = (k.val : Int) := ⟨⟨n.toNat, by omega⟩, by show n = ((n.toNat : Nat) : Int); omega⟩
    exact okb_is (a3_1 k)
  have e2 : op_k7 [.l (Ty.int IntKind.u8) [(97 : Int), (98 : Int), (99 : Int), (100 : Int), (101 : Int), (102 : Int), (103 : Int), (104 : Int), (105 : Int), (106 : Int), (107 : Int)], .n (IntKind.wrap .u16 n), .n (IntKind.wrap .u8 n)] = some (0, [.b true]) := by
    obtain ⟨k, rfl⟩ : ∃ k : Fin 256, n = (k.val : Int) := ⟨⟨n.toNat, by omega⟩, by show n = ((n.toNat : Nat) : Int); omega⟩
    exact okb_is (a3_2 k)
  have e3 : op_k8 [.n (IntKind.wrap .u32 n), .n (IntKind.wrap .u8 n), .n (ixor IntKind.u8 (255 : Int) (IntKind.wrap .u8 n)), .n (IntKind.wrap .u8 (Int.tdiv (IntKind.wrap .u8 n) (2 : Int))), .n (3 : Int), .n (IntKind.wrap .u16 (Int.tmod n (7 : Int))), .n (IntKind.wrap .u16 (Int.tmod n (5 : Int)))] = some (0, [.b true]) := by
    obtain ⟨k, rfl⟩ : ∃ k : Fin 256, n = (k.val : Int) := ⟨⟨n.toNat, by omega⟩, by show n = ((n.toNat : Nat) : Int); omega⟩
    exact okb_is (a3_3 k)
  have e4 : op_k6 [.l (Ty.int IntKind.u8) [(97 : Int), (98 : Int), (99 : Int), (100 : Int), (101 : Int), (102 : Int), (103 : Int), (104 : Int), (105 : Int), (106 : Int), (107 : Int)], .l (Ty.int IntKind.u16) [IntKind.wrap .u16 n, (3 : Int), IntKind.wrap .u16 n], .l (Ty.int IntKind.u8) [IntKind.wrap .u8 n, IntKind.wrap .u8 n, (122 : Int)]] = some (0, [.b true]) := by
    obtain ⟨k, rfl⟩ : ∃ k : Fin 256, n = (k.val : Int) := ⟨⟨n.toNat, by omega⟩, by show n = ((n.toNat : Nat) : Int); omega⟩
    exact okb_is (a3_4 k)
  have w : IntKind.wrap .i64 (n + 1) = n + 1 := w64 (by omega) (by omega)
  refine fn_L10_3_t_im _ h0 h1 _ ?_
  unfold fn_L10_3_t
  dsimp only
  erw [e0]
  refine sel_t rfl (sel_f rfl ?_)
  erw [e1]
  refine sel_t rfl (sel_f rfl ?_)
  erw [e2]
  refine sel_t rfl (sel_f rfl ?_)
  erw [e3]
  refine sel_t rfl (sel_f rfl ?_)
  erw [e4]
  refine sel_t rfl (sel_f rfl ?_)
  rw [w]; rfl
theorem l3 : op_L10_3 [.k 0, .n 0, .l TB txt] = some (0, [.l TB txt]) := by
  rw [op_L10_3_eq]
  exact iterS_count (fun n => [.k 0, .n n, .l TB txt]) 256 (0, [.l TB txt]) s3 (fn_L10_3_x_im _ rfl) FU 0 (by omega) (by omega) (by unfold FU; omega)
theorem a9_0 : ∀ k : Fin 32, okb (op_k9 [.l (Ty.int IntKind.u8) [(97 : Int), (98 : Int), (99 : Int), (100 : Int), (101 : Int), (102 : Int), (103 : Int), (104 : Int), (105 : Int), (106 : Int), (107 : Int)], .l (Ty.int IntKind.u8) [(97 : Int), (98 : Int), (99 : Int), (100 : Int), (101 : Int), (102 : Int), (103 : Int), (104 : Int), (105 : Int), (106 : Int), (107 : Int)], .l (Ty.int IntKind.u8) (List.take (11 - Int.toNat (Int.tmod (k.val : Int) (11 : Int))) (List.drop (Int.toNat (Int.tmod (k.val : Int) (11 : Int))) [(97 : Int), (98 : Int), (99 : Int), (100 : Int), (101 : Int), (102 : Int), (103 : Int), (104 : Int), (105 : Int), (106 : Int), (107 : Int)])), .n (ishl IntKind.u32 (1 : Int) (k.val : Int)), .n (IntKind.wrap .u8 (k.val : Int))]) = true := by decide +kernel
theorem a9_1 : ∀ k : Fin 32, okb (op_k5 [.n (ishl IntKind.u32 (1 : Int) (k.val : Int)), .n (IntKind.wrap .i8 (k.val : Int)), .n (IntKind.wrap .u8 (k.val : Int)), .n (IntKind.wrap .u8 (IntKind.wrap .i64 (Int.tdiv (k.val : Int) (2 : Int))))]) = true := by decide +kernel
theorem a9_2 : ∀ k : Fin 32, okb (op_k4 [.n (ishl IntKind.u32 (1 : Int) (k.val : Int)), .n (IntKind.wrap .u8 (k.val : Int)), .n (IntKind.wrap .u8 (IntKind.wrap .i64 ((k.val : Int) * (9 : Int)))), .n (k.val : Int)]) = true := by decide +kernel
theorem s9 (n : Int) (h0 : 0 ≤ n) (h1 : n < 32) : (st_L10_9 [.k 0, .n n, .l TB txt]).sel = some (.go [.k 0, .n (n + 1), .l TB txt]) := by
  have e0 : op_k9 [.l (Ty.int IntKind.u8) [(97 : Int), (98 : Int), (99 : Int), (100 : Int), (101 : Int), (102 : Int), (103 : Int), (104 : Int), (105 : Int), (106 : Int), (107 : Int)], .l (Ty.int IntKind.u8) [(97 : Int), (98 : Int), (99 : Int), (100 : Int), (101 : Int), (102 : Int), (103 : Int), (104 : Int), (105 : Int), (106 : Int), (107 : Int)], .l (Ty.int IntKind.u8) (List.take (11 - Int.toNat (Int.tmod n (11 : Int))) (List.drop (Int.toNat (Int.tmod n (11 : Int))) [(97 : Int), (98 : Int), (99 : Int), (100 : Int), (101 : Int), (102 : Int), (103 : Int), (104 : Int), (105 : Int), (106 : Int), (107 : Int)])), .n (ishl IntKind.u32 (1 : Int) n), .n (IntKind.wrap .u8 n)] = some (0, [.b true]) := by
    obtain ⟨k, rfl⟩ : ∃ k : Fin 32, n = (k.val : Int) := ⟨⟨n.toNat, by omega⟩, by show n = ((n.toNat : Nat) : Int); omega⟩
    exact okb_is (a9_0 k)
  have e1 : op_k5 [.n (ishl IntKind.u32 (1 : Int) n), .n (IntKind.wrap .i8 n), .n (IntKind.wrap .u8 n), .n (IntKind.wrap .u8 (IntKind.wrap .i64 (Int.tdiv n (2 : Int))))] = some (0, [.b true]) := by
    obtain ⟨k, rfl⟩ : ∃ k : Fin 32, n = (k.val : Int) := ⟨⟨n.toNat, by omega⟩, by show n = ((n.toNat : Nat) : Int); omega⟩
    exact okb_is (a9_1 k)
  have e2 : op_k4 [.n (ishl IntKind.u32 (1 : Int) n), .n (IntKind.wrap .u8 n), .n (IntKind.wrap .u8 (IntKind.wrap .i64 (n * (9 : Int)))), .n n] = some (0, [.b true]) := by
    obtain ⟨k, rfl⟩ : ∃ k : Fin 32, n = (k.val : Int) := ⟨⟨n.toNat, by omega⟩, by show n = ((n.toNat : Nat) : Int); omega⟩
    exact okb_is (a9_2 k)
  have w : IntKind.wrap .i64 (n + 1) = n + 1 := w64 (by omega) (by omega)
  refine fn_L10_9_t_im _ h0 h1 _ ?_
  unfold fn_L10_9_t
  have c1 : 0 ≤ Int.tmod n 11 ∧ Int.tmod n 11 < 11 := by
    rw [Int.tmod_eq_emod_of_nonneg h0]
    exact ⟨Int.emod_nonneg n (by omega), Int.emod_lt_of_pos n (by omega)⟩
  refine sel_t (by rw [dt c1.1, dt (show Int.tmod n 11 ≤ 11 by omega)]; rfl) ?_
  dsimp only
  erw [e0]
  refine sel_t rfl (sel_f rfl ?_)
  erw [e1]
  refine sel_t rfl (sel_f rfl ?_)
  erw [e2]
  refine sel_t rfl (sel_f rfl ?_)
  rw [w]; rfl
theorem l9 : op_L10_9 [.k 0, .n 0, .l TB txt] = some (0, []) := by
  rw [op_L10_9_eq]
  exact iterS_count (fun n => [.k 0, .n n, .l TB txt]) 32 (0, []) s9 (fn_L10_9_x_im _ rfl) FU 0 (by omega) (by omega) (by unfold FU; omega)
theorem q12 (b : List Int) (hb : b.length ≤ 9223372036854775807) : op_q12 [.l TB (ofI b)] = some (0, [.n (N (Sm b))]) := by rw [op_q12_eq]; exact t12 b hb
theorem rp (m : Nat) : repN (α := Ty.den (Ty.int IntKind.u8)) m (0 : Int) = ofI (k := .u8) (List.replicate m (0 : Int)) := repN_eq (α := Ty.den (Ty.int IntKind.u8)) m (0 : Int)
theorem rpl (m : Nat) : List.length (repN (α := Ty.den (Ty.int IntKind.u8)) m (0 : Int)) = m := (congrArg List.length (rp m)).trans (List.length_replicate (n := m) (a := (0 : Int)))
theorem q12r (m : Nat) (hm : m ≤ 9223372036854775807) : op_q12 [.l TB (repN (α := Ty.den (Ty.int IntKind.u8)) m (0 : Int))] = some (0, [.n (N (Sm (List.replicate m 0)))]) := by
  refine (congrArg (fun l => op_q12 [.l TB l]) (rp m)).trans ?_
  exact q12 (List.replicate m 0) (by rw [List.length_replicate]; exact hm)
theorem q12s (k : Nat) (hm : k + 1 ≤ 9223372036854775807) : op_q12 [.l TB (List.set (repN (α := Ty.den (Ty.int IntKind.u8)) (k + 1) (0 : Int)) 0 (5 : Int))] = some (0, [.n (N (Sm (List.replicate (k + 1) 0) ^^^ chg (0#8 ^^^ 5#8) k))]) := by
  refine (congrArg (fun l => op_q12 [.l TB (List.set l 0 (5 : Int))]) (rp (k + 1))).trans ?_
  have h := Sm_set (b := List.replicate (k + 1) 0) (i := 0) (by rw [List.length_replicate]; omega) 0#8 5#8 (by rw [List.replicate_succ]; rfl)
  rw [List.length_replicate, show k + 1 - 1 - 0 = k by omega] at h
  rw [← h]
  exact q12 ((List.replicate (k + 1) 0).set 0 (N 5#8)) (by rw [List.length_set, List.length_replicate]; exact hm)
theorem q14 (s : BitVec 32) (a c : BitVec 8) (k : Nat) (hk : k ≤ 65536) : op_q14 [.n (N s), .n (N a), .n (N c), .n (k : Int)] = some (0, [.n (N (s ^^^ chg (a ^^^ c) k)), .b true]) := by rw [op_q14_eq]; exact t14 s a c k hk
theorem q5 : op_q14 [.n (0 : Int), .n (0 : Int), .n (1 : Int), .n (0 : Int)] = some (0, [.n 1996959894, .b true]) := by
  have h := q14 0#32 0#8 1#8 0 (by omega)
  have e : N (0#32 ^^^ chg (0#8 ^^^ 1#8) 0) = 1996959894 := by decide +kernel
  rw [e] at h; exact h
theorem q6 : op_q14 [.n (7 : Int), .n (5 : Int), .n (5 : Int), .n (9 : Int)] = some (0, [.n 7, .b true]) := by
  have h := q14 7#32 5#8 5#8 9 (by omega)
  have e : N (7#32 ^^^ chg (5#8 ^^^ 5#8) 9) = 7 := by decide +kernel
  rw [e] at h; exact h
theorem q7 : op_q16 [.n (1996959894 : Int), .n (1 : Int)] = some (0, [.n 0, .n 1, .b true]) := by rw [op_q16_eq]; kernel_rfl
theorem q8 : ∃ p q, op_q16 [.n (0 : Int), .n (65545 : Int)] = some (0, [.n p, .n q, .b false]) := ⟨0, 0, by rw [op_q16_eq]; kernel_rfl⟩
theorem q9 : ∃ p q, op_q16 [.n (1996959894 : Int), .n (-9223372036854775808 : Int)] = some (0, [.n p, .n q, .b false]) := ⟨0, 0, by rw [op_q16_eq]; kernel_rfl⟩
theorem q11 : op_q12 [.l TB []] = some (0, [.n 0]) := by
  have h := q12 [] (by simp)
  have e : N (Sm []) = 0 := by decide +kernel
  rw [e] at h; exact h
theorem q13 : op_q12 [.l TB [(0 : Int)]] = some (0, [.n 3523407757]) := by
  have h := q12 [0] (by simp)
  have e : N (Sm [0]) = 3523407757 := by decide +kernel
  rw [e] at h; exact h
theorem W10_true : (ev_W10 []).sel = some true := by
  refine fn_W10_t_im _ ?_
  have e3 := q12r 65537 (by omega)
  have e4 := q14 (Sm (List.replicate 65537 0)) 0#8 5#8 65536 (by omega)
  have e10 := q12s 65536 (by omega)
  have el : List.length (repN (α := Ty.den (Ty.int IntKind.u8)) 65537 (0 : Int)) = 65537 := rpl 65537
  have r : ∀ k : Nat, k = 65537 → Sm (List.replicate k 0) = Sm (List.replicate 65537 0) := fun k h => by rw [h]
  rw [r (65536 + 1) (by omega)] at e10
  generalize Sm (List.replicate 65537 0) = S at e3 e4 e10
  generalize N (S ^^^ chg (0#8 ^^^ 5#8) 65536) = A at e4 e10
  obtain ⟨p8, r8, e8⟩ := q8
  obtain ⟨p9, r9, e9⟩ := q9
  unfold fn_W10_t
  dsimp only
  erw [l3]; refine sel_t rfl ?_
  erw [l9]; refine sel_t rfl ?_
  erw [e3]; refine sel_t rfl ?_
  refine sel_t (by rw [el]; rfl) ?_
  erw [e4]; refine sel_t rfl ?_
  erw [q5]; refine sel_t rfl ?_
  erw [q6]; refine sel_t rfl ?_
  erw [q7]; refine sel_t rfl ?_
  erw [e8]; refine sel_t rfl ?_
  erw [e9]; refine sel_t rfl (sel_t rfl ?_)
  erw [e10]; refine sel_t rfl (sel_t (by show (A == A) = true; simp) ?_)
  refine sel_t rfl (sel_t rfl (sel_t rfl (sel_t rfl (sel_t rfl (sel_t rfl (sel_t rfl (sel_t rfl (sel_t rfl ?_))))))))
  erw [q11]; refine sel_t rfl (sel_t rfl ?_)
  erw [q13]; exact sel_t rfl (sel_t rfl rfl)
end Go.Proofs.Ytgjnolljacicfaa.Vx
