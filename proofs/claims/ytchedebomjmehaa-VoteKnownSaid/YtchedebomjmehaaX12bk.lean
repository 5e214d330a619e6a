import Derived.Test.YtchedebomjmehaaVxIm
import Derived.Test.YtchedebomjmehaaVxLk
import Derived.KernelRfl
namespace Go.Proofs.Ytchedebomjmehaa.Vx.Bo
open Go Go.RowKit
set_option linter.unusedVariables false
set_option linter.unusedSimpArgs false
set_option maxRecDepth 100000
set_option maxHeartbeats 0

abbrev TFr : Ty := .pair (.int .i64) (.pair (.int .i64) (.pair (.int .u64) (.int .u32)))
abbrev TCl : Ty := .pair (.int .i64) (.pair (.int .i64) TFr)
def frV (h : Nat) : PV := .agg [.int .i64 h, .int .i64 (h+1), .int .u64 (h+2), .int .u32 (h+3)]
def clV (h : Nat) : PV := .agg [.int .i64 h, .int .i64 (h+1), .int .i64 (h+2), .int .i64 (h+3), .int .u64 (h+4), .int .u32 (h+5)]
def frB (h : Nat) : PB := .cells [.int .i64 h, .int .i64 (h+1), .int .u64 (h+2), .int .u32 (h+3)]
def vtB (a b c : PV) (h : Nat) : PB := .cells [a, b, c, .bool h, .int .i64 (h+1)]
def reB (h : Nat) : PB := .cells [.arrd .bool 2 h, .arrd TFr 2 (h+1), .bool (h+2), .int .i64 (h+3), .int .i64 (h+4), .int .u64 (h+5), .int .u32 (h+6), .int .i64 (h+7), .bool (h+8)]
def fro (c e a b : Int) : Ty.den TFr := (c, e, a, b)
def fr0 : Ty.den TFr := ((0 : Int), (0 : Int), (0 : Int), (0 : Int))
def B2 (a b : Bool) : List (Ty.den .bool) := [a, b]
def F2 (a b : Ty.den TFr) : List (Ty.den TFr) := [a, b]

def pu26 (l : List (Ty.den TCl)) (ch c e a b : Int) (i : Int) : List Dat := [.k 0, .l TCl l, .n ch, .n i, .n c, .n e, .n a, .n b]
def sb0 (st : Bool) (n : Int) : List Dat := [.n n, .b st]
theorem hmix : Try.prog.follows .mixedOrders = true := by kernel_rfl
theorem csNone_ok0 : CsOk Try.prog csNone := csNone_ok _

def op_14 : List Dat → Option (Nat × List Dat) := fun _ => some (0, [.b true])
def B14 : FBox := mkF [] [] [] [(.bool 0, [])] op_14
theorem fn_14_ok (env : List Dat) (y : Nat × List Dat) (h : op_14 env = some y) : (boxC true Try.prog csNone 14 ls0 (mkF [] [] [] [(.bool 0, [])] fun _ => none) env).sel = some y := by
  cases h
  rw [← boxC_lk]
  kernel_rfl
theorem B14_ok : RunOk Try.prog 14 (boxRun B14) := mkF_ok (op := op_14) csNone_ok0 hmix true (LsOk.none _ _ _) fn_14_ok

noncomputable def cs_14 : FuncId → Option CSpec := csAdd 14 [B14] csNone
theorem cs_14_ok : CsOk Try.prog cs_14 := csAdd_ok csNone_ok0 fun B hB => by
  cases List.mem_singleton.1 hB
  exact B14_ok

noncomputable def st_L26_2 (env : List Dat) : Tree Step := Lk.stepMC false LK cs_14 26 2 ls0 (mkM 0 [] [(sh 39 [(0, .imm TCl 0), (1, .int .i64 1), (5, .ptr 0 0), (7, .int .i64 2)], [frB 3])] [] [(.exit 0, sh 39 [], []), (.ret, sh 39 [(6, .bool 0)], [])] fun _ => none) env
noncomputable def op_L26_2 : List Dat → Option (Nat × List Dat) := iterS st_L26_2 FU
noncomputable def L26_2 : MBox := mkM 0 [] [(sh 39 [(0, .imm TCl 0), (1, .int .i64 1), (5, .ptr 0 0), (7, .int .i64 2)], [frB 3])] [] [(.exit 0, sh 39 [], []), (.ret, sh 39 [(6, .bool 0)], [])] op_L26_2
theorem L26_2_run : ∀ t s x, (manyRun L26_2 t s).sel = some x → CodeOk Try.prog 0 (.loop (cAt Try.prog 26 2)) t s x := mkM_ok (st := st_L26_2) (m := FU) cs_14_ok hmix false (LsOk.none _ _ _) (by kernel_rfl) (fun env y h => by rw [← stepMC_lk]; exact h)
theorem op_L26_2_eq (env : List Dat) : op_L26_2 env = iterS st_L26_2 FU env := by kernel_rfl
theorem op_L26_2_good {p : Nat × List Dat → Prop} (Inv : List Dat → Prop) (μ : List Dat → Nat) (h : ∀ env, Inv env → Good (fun y => match y with | .go e => Inv e ∧ μ e < μ env | .stop k d => p (k, d)) (st_L26_2 env).sel) (env : List Dat) (hi : Inv env) (hm : μ env < FU) : Good p (op_L26_2 env) := by
  rw [op_L26_2_eq]
  exact iterS_good Inv μ p h FU env hi hm

noncomputable def fn_L26_2_t : List Dat → Tree Step
  | [.l (Ty.pair (Ty.int IntKind.i64) (Ty.pair (Ty.int IntKind.i64) (Ty.pair (Ty.int IntKind.i64) (Ty.pair (Ty.int IntKind.i64) (Ty.pair (Ty.int IntKind.u64) (Ty.int IntKind.u32)))))) l0, .n n1, .n n2, .n n3, .n n4, .n n5, .n n6] =>
    (.node (decide (n2 < (↑(List.length l0) : Int)))
     (.node (inR n2 (List.length l0))
      (.node (decide (Int.tmod (IntKind.wrap .i64 (Int.tmod (Prod.fst (List.getD l0 (Int.toNat n2) (Ty.dflt (Ty.pair (Ty.int IntKind.i64) (Ty.pair (Ty.int IntKind.i64) (Ty.pair (Ty.int IntKind.i64) (Ty.pair (Ty.int IntKind.i64) (Ty.pair (Ty.int IntKind.u64) (Ty.int IntKind.u32))))))))) (6 : Int) + (6 : Int))) (6 : Int) < (3 : Int)))
       (.node (Prod.fst (Prod.snd (List.getD l0 (Int.toNat n2) (Ty.dflt (Ty.pair (Ty.int IntKind.i64) (Ty.pair (Ty.int IntKind.i64) (Ty.pair (Ty.int IntKind.i64) (Ty.pair (Ty.int IntKind.i64) (Ty.pair (Ty.int IntKind.u64) (Ty.int IntKind.u32))))))))) == n1)
        (.node (Prod.fst (Prod.snd (Prod.snd (List.getD l0 (Int.toNat n2) (Ty.dflt (Ty.pair (Ty.int IntKind.i64) (Ty.pair (Ty.int IntKind.i64) (Ty.pair (Ty.int IntKind.i64) (Ty.pair (Ty.int IntKind.i64) (Ty.pair (Ty.int IntKind.u64) (Ty.int IntKind.u32)))))))))) == n3 && (Prod.fst (Prod.snd (Prod.snd (Prod.snd (List.getD l0 (Int.toNat n2) (Ty.dflt (Ty.pair (Ty.int IntKind.i64) (Ty.pair (Ty.int IntKind.i64) (Ty.pair (Ty.int IntKind.i64) (Ty.pair (Ty.int IntKind.i64) (Ty.pair (Ty.int IntKind.u64) (Ty.int IntKind.u32))))))))))) == n4 && (Prod.fst (Prod.snd (Prod.snd (Prod.snd (Prod.snd (List.getD l0 (Int.toNat n2) (Ty.dflt (Ty.pair (Ty.int IntKind.i64) (Ty.pair (Ty.int IntKind.i64) (Ty.pair (Ty.int IntKind.i64) (Ty.pair (Ty.int IntKind.i64) (Ty.pair (Ty.int IntKind.u64) (Ty.int IntKind.u32)))))))))))) == n5 && (Prod.snd (Prod.snd (Prod.snd (Prod.snd (Prod.snd (List.getD l0 (Int.toNat n2) (Ty.dflt (Ty.pair (Ty.int IntKind.i64) (Ty.pair (Ty.int IntKind.i64) (Ty.pair (Ty.int IntKind.i64) (Ty.pair (Ty.int IntKind.i64) (Ty.pair (Ty.int IntKind.u64) (Ty.int IntKind.u32)))))))))))) == n6 && true) && true)))
         (.leaf (Step.stop 1 [.b true]))
         (.leaf (Step.go [.k 0, .l (Ty.pair (Ty.int IntKind.i64) (Ty.pair (Ty.int IntKind.i64) (Ty.pair (Ty.int IntKind.i64) (Ty.pair (Ty.int IntKind.i64) (Ty.pair (Ty.int IntKind.u64) (Ty.int IntKind.u32)))))) l0, .n n1, .n (IntKind.wrap .i64 (n2 + (1 : Int))), .n n3, .n n4, .n n5, .n n6])))
        (.leaf (Step.go [.k 0, .l (Ty.pair (Ty.int IntKind.i64) (Ty.pair (Ty.int IntKind.i64) (Ty.pair (Ty.int IntKind.i64) (Ty.pair (Ty.int IntKind.i64) (Ty.pair (Ty.int IntKind.u64) (Ty.int IntKind.u32)))))) l0, .n n1, .n (IntKind.wrap .i64 (n2 + (1 : Int))), .n n3, .n n4, .n n5, .n n6])))
       (.leaf (Step.go [.k 0, .l (Ty.pair (Ty.int IntKind.i64) (Ty.pair (Ty.int IntKind.i64) (Ty.pair (Ty.int IntKind.i64) (Ty.pair (Ty.int IntKind.i64) (Ty.pair (Ty.int IntKind.u64) (Ty.int IntKind.u32)))))) l0, .n n1, .n (IntKind.wrap .i64 (n2 + (1 : Int))), .n n3, .n n4, .n n5, .n n6])))
      (.bad 10))
     (.leaf (Step.stop 0 [])))
  | _ => .bad 0
theorem fn_L26_2_t_im (l0 : List (Ty.den (Ty.pair (Ty.int IntKind.i64) (Ty.pair (Ty.int IntKind.i64) (Ty.pair (Ty.int IntKind.i64) (Ty.pair (Ty.int IntKind.i64) (Ty.pair (Ty.int IntKind.u64) (Ty.int IntKind.u32)))))))) (n1 : Int) (n2 : Int) (n3 : Int) (n4 : Int) (n5 : Int) (n6 : Int) : Imp (fn_L26_2_t [.l (Ty.pair (Ty.int IntKind.i64) (Ty.pair (Ty.int IntKind.i64) (Ty.pair (Ty.int IntKind.i64) (Ty.pair (Ty.int IntKind.i64) (Ty.pair (Ty.int IntKind.u64) (Ty.int IntKind.u32)))))) l0, .n n1, .n n2, .n n3, .n n4, .n n5, .n n6]) (st_L26_2 [.k 0, .l TCl l0, .n n1, .n n2, .n n3, .n n4, .n n5, .n n6]) :=
(.path [1] (by kernel_rfl)
(.node (by kernel_rfl) (by kernel_rfl) (fun h0 =>
(.node (by kernel_rfl) (by kernel_rfl) (fun h1 =>
(.path [1,0,1,1,1] (by kernel_rfl)
(.node (by kernel_rfl) (by kernel_rfl) (fun h2 =>
(.pt (by kernel_rfl) (by kernel_rfl) h1
(.node (by kernel_rfl) (by kernel_rfl) (fun h3 =>
(.pt (by kernel_rfl) (by kernel_rfl) h1
(.path [1] (by kernel_rfl)
(.node (by kernel_rfl) (by kernel_rfl) (fun h4 =>
(.path [1] (by kernel_rfl)
(.leaf (by kernel_rfl)))) (fun h4 =>
(.path [1] (by kernel_rfl)
(.leaf (by kernel_rfl)))))))) (fun h3 =>
(.path [0,1,0,1] (by kernel_rfl)
(.leaf (by kernel_rfl))))))) (fun h2 =>
(.path [0,0,0,1,0,1] (by kernel_rfl)
(.leaf (by kernel_rfl))))))) (fun h1 =>
.none))) (fun h0 =>
(.path [1] (by kernel_rfl)
(.leaf (by kernel_rfl))))))

theorem ls_26_ok : LsOk Try.prog (List.length ([] : List PB)) (lsM [(2, L26_2)] (List.length ([] : List PB))) (bodyOf Try.prog 26) := LsOk.many fun j B hB hk c hc hi => by
  simp only [lookM] at hB
  split at hB
  · rename_i e; have := Nat.eq_of_beq_eq_true e; subst this; cases hB
    have e1 : loopAt Try.prog 26 2 = [cAt Try.prog 26 2] := loopAt_one (by kernel_rfl)
    have e2 : c ∈ loopAt Try.prog 26 2 := loopsAt_mem hc hi
    rw [e1] at e2; cases List.mem_singleton.1 e2; exact L26_2_run
  cases hB

noncomputable def ev_26 (env : List Dat) : Tree (Nat × List Dat) := Lk.boxC false LK cs_14 26 (lsM [(2, L26_2)] (List.length ([] : List PB))) (mkF [.imm TCl 0, .int .i64 1, frV 2] [] [] [(.bool 0, [])] fun _ => none) env
noncomputable def op_26 : List Dat → Option (Nat × List Dat) := fun env => (ev_26 env).sel
noncomputable def B26 : FBox := mkF [.imm TCl 0, .int .i64 1, frV 2] [] [] [(.bool 0, [])] op_26
theorem B26_ok : RunOk Try.prog 26 (boxRun B26) := mkF_ok (op := op_26) cs_14_ok hmix false (ls_26_ok) (fun env x h => by rw [← boxC_lk]; exact h)
theorem op_26_eq (env : List Dat) : op_26 env = (ev_26 env).sel := by kernel_rfl
theorem op_26_good {p : Nat × List Dat → Prop} {T : Tree (Nat × List Dat)} {env : List Dat} (h : Imp T (ev_26 env)) (g : Good p T.sel) : Good p (op_26 env) := by
  rw [op_26_eq]
  exact h.good g

noncomputable def fn_26_t : List Dat → Tree (Nat × List Dat)
  | [.l (Ty.pair (Ty.int IntKind.i64) (Ty.pair (Ty.int IntKind.i64) (Ty.pair (Ty.int IntKind.i64) (Ty.pair (Ty.int IntKind.i64) (Ty.pair (Ty.int IntKind.u64) (Ty.int IntKind.u32)))))) l0, .n n1, .n n2, .n n3, .n n4, .n n5] =>
    (let r1 : Option (Nat × List Dat) := (op_L26_2 [.k 0, .l (Ty.pair (Ty.int IntKind.i64) (Ty.pair (Ty.int IntKind.i64) (Ty.pair (Ty.int IntKind.i64) (Ty.pair (Ty.int IntKind.i64) (Ty.pair (Ty.int IntKind.u64) (Ty.int IntKind.u32)))))) l0, .n n1, .n (0 : Int), .n n2, .n n3, .n n4, .n n5]);
     (.node (isK 0 [] r1)
      (.leaf ((0, [.b false])))
      (.node (isK 1 [HK.b] r1)
       (.leaf ((0, [.b (gb (dOf r1) 0)])))
       (.bad 351))))
  | _ => .bad 0
theorem fn_26_t_im (l0 : List (Ty.den (Ty.pair (Ty.int IntKind.i64) (Ty.pair (Ty.int IntKind.i64) (Ty.pair (Ty.int IntKind.i64) (Ty.pair (Ty.int IntKind.i64) (Ty.pair (Ty.int IntKind.u64) (Ty.int IntKind.u32)))))))) (n1 : Int) (n2 : Int) (n3 : Int) (n4 : Int) (n5 : Int) : Imp (fn_26_t [.l (Ty.pair (Ty.int IntKind.i64) (Ty.pair (Ty.int IntKind.i64) (Ty.pair (Ty.int IntKind.i64) (Ty.pair (Ty.int IntKind.i64) (Ty.pair (Ty.int IntKind.u64) (Ty.int IntKind.u32)))))) l0, .n n1, .n n2, .n n3, .n n4, .n n5]) (ev_26 [.l TCl l0, .n n1, .n n2, .n n3, .n n4, .n n5]) :=
(.node (by kernel_rfl) (by kernel_rfl) (fun h0 =>
(.path [1] (by kernel_rfl)
(.leaf (by kernel_rfl)))) (fun h0 =>
(.node (by kernel_rfl) (by kernel_rfl) (fun h1 =>
(.path [1] (by kernel_rfl)
(.leaf (by kernel_rfl)))) (fun h1 =>
.none))))

noncomputable def cs_26 : FuncId → Option CSpec := csLend 26 B26 cs_14
theorem cs_26_ok : CsOk Try.prog cs_26 := csLend_ok cs_14_ok B26_ok

noncomputable def st_L4_8 (env : List Dat) : Tree Step := Lk.stepMC false LK cs_26 4 8 ls0 (mkM 0 [] [(sh 123 [(0, .imm TCl 0), (3, .ptr 0 0), (4, .int .i64 1), (5, .int .i64 2), (6, .bool 3), (7, .int .i64 4)], [vtB (.nilptr) (.nilptr) (.nilptr) 5]), (sh 123 [(0, .imm TCl 0), (3, .ptr 0 0), (4, .int .i64 1), (5, .int .i64 2), (6, .bool 3), (7, .int .i64 4)], [vtB (.ptr 1 0) (.nilptr) (.nilptr) 5, frB 7]), (sh 123 [(0, .imm TCl 0), (3, .ptr 0 0), (4, .int .i64 1), (5, .int .i64 2), (6, .bool 3), (7, .int .i64 4)], [vtB (.nilptr) (.ptr 1 0) (.nilptr) 5, frB 7]), (sh 123 [(0, .imm TCl 0), (3, .ptr 0 0), (4, .int .i64 1), (5, .int .i64 2), (6, .bool 3), (7, .int .i64 4)], [vtB (.nilptr) (.nilptr) (.ptr 1 0) 5, frB 7]), (sh 123 [(0, .imm TCl 0), (3, .ptr 0 0), (4, .int .i64 1), (5, .int .i64 2), (6, .bool 3), (7, .int .i64 4)], [vtB (.ptr 1 0) (.nilptr) (.ptr 2 0) 5, frB 7, frB 11]), (sh 123 [(0, .imm TCl 0), (3, .ptr 0 0), (4, .int .i64 1), (5, .int .i64 2), (6, .bool 3), (7, .int .i64 4)], [vtB (.nilptr) (.ptr 1 0) (.ptr 2 0) 5, frB 7, frB 11])] [] [(.exit 0, sh 123 [(3, .ptr 0 0), (5, .int .i64 0)], [.cells [.dead, .dead, .dead, .bool 1, .int .i64 2]]), (.exit 0, sh 123 [(3, .ptr 0 0), (5, .int .i64 0)], [.cells [.dead, .dead, .dead, .bool 1, .int .i64 2], .gone]), (.exit 0, sh 123 [(3, .ptr 0 0), (5, .int .i64 0)], [.cells [.dead, .dead, .dead, .bool 1, .int .i64 2], .gone, .gone]), (.ret, sh 123 [(2, .bool 0)], [])] fun _ => none) env
noncomputable def op_L4_8 : List Dat → Option (Nat × List Dat) := iterS st_L4_8 FU
noncomputable def L4_8 : MBox := mkM 0 [] [(sh 123 [(0, .imm TCl 0), (3, .ptr 0 0), (4, .int .i64 1), (5, .int .i64 2), (6, .bool 3), (7, .int .i64 4)], [vtB (.nilptr) (.nilptr) (.nilptr) 5]), (sh 123 [(0, .imm TCl 0), (3, .ptr 0 0), (4, .int .i64 1), (5, .int .i64 2), (6, .bool 3), (7, .int .i64 4)], [vtB (.ptr 1 0) (.nilptr) (.nilptr) 5, frB 7]), (sh 123 [(0, .imm TCl 0), (3, .ptr 0 0), (4, .int .i64 1), (5, .int .i64 2), (6, .bool 3), (7, .int .i64 4)], [vtB (.nilptr) (.ptr 1 0) (.nilptr) 5, frB 7]), (sh 123 [(0, .imm TCl 0), (3, .ptr 0 0), (4, .int .i64 1), (5, .int .i64 2), (6, .bool 3), (7, .int .i64 4)], [vtB (.nilptr) (.nilptr) (.ptr 1 0) 5, frB 7]), (sh 123 [(0, .imm TCl 0), (3, .ptr 0 0), (4, .int .i64 1), (5, .int .i64 2), (6, .bool 3), (7, .int .i64 4)], [vtB (.ptr 1 0) (.nilptr) (.ptr 2 0) 5, frB 7, frB 11]), (sh 123 [(0, .imm TCl 0), (3, .ptr 0 0), (4, .int .i64 1), (5, .int .i64 2), (6, .bool 3), (7, .int .i64 4)], [vtB (.nilptr) (.ptr 1 0) (.ptr 2 0) 5, frB 7, frB 11])] [] [(.exit 0, sh 123 [(3, .ptr 0 0), (5, .int .i64 0)], [.cells [.dead, .dead, .dead, .bool 1, .int .i64 2]]), (.exit 0, sh 123 [(3, .ptr 0 0), (5, .int .i64 0)], [.cells [.dead, .dead, .dead, .bool 1, .int .i64 2], .gone]), (.exit 0, sh 123 [(3, .ptr 0 0), (5, .int .i64 0)], [.cells [.dead, .dead, .dead, .bool 1, .int .i64 2], .gone, .gone]), (.ret, sh 123 [(2, .bool 0)], [])] op_L4_8
theorem L4_8_run : ∀ t s x, (manyRun L4_8 t s).sel = some x → CodeOk Try.prog 0 (.loop (cAt Try.prog 4 8)) t s x := mkM_ok (st := st_L4_8) (m := FU) cs_26_ok hmix false (LsOk.none _ _ _) (by kernel_rfl) (fun env y h => by rw [← stepMC_lk]; exact h)
theorem op_L4_8_eq (env : List Dat) : op_L4_8 env = iterS st_L4_8 FU env := by kernel_rfl
theorem op_L4_8_good {p : Nat × List Dat → Prop} (Inv : List Dat → Prop) (μ : List Dat → Nat) (h : ∀ env, Inv env → Good (fun y => match y with | .go e => Inv e ∧ μ e < μ env | .stop k d => p (k, d)) (st_L4_8 env).sel) (env : List Dat) (hi : Inv env) (hm : μ env < FU) : Good p (op_L4_8 env) := by
  rw [op_L4_8_eq]
  exact iterS_good Inv μ p h FU env hi hm

noncomputable def fn_L4_8_t0 : List Dat → Tree Step
  | [.l (Ty.pair (Ty.int IntKind.i64) (Ty.pair (Ty.int IntKind.i64) (Ty.pair (Ty.int IntKind.i64) (Ty.pair (Ty.int IntKind.i64) (Ty.pair (Ty.int IntKind.u64) (Ty.int IntKind.u32)))))) l0, .n n1, .n n2, .n n3, .b b4] =>
    (.node (Int.tmod (IntKind.wrap .i64 (Int.tmod (Prod.fst (List.getD l0 (Int.toNat n3) (Ty.dflt (Ty.pair (Ty.int IntKind.i64) (Ty.pair (Ty.int IntKind.i64) (Ty.pair (Ty.int IntKind.i64) (Ty.pair (Ty.int IntKind.i64) (Ty.pair (Ty.int IntKind.u64) (Ty.int IntKind.u32))))))))) (6 : Int) + (6 : Int))) (6 : Int) == (3 : Int))
     (.node (b4)
      (.leaf (Step.go [.k 0, .l (Ty.pair (Ty.int IntKind.i64) (Ty.pair (Ty.int IntKind.i64) (Ty.pair (Ty.int IntKind.i64) (Ty.pair (Ty.int IntKind.i64) (Ty.pair (Ty.int IntKind.u64) (Ty.int IntKind.u32)))))) l0, .n n1, .n n2, .b true, .n (IntKind.wrap .i64 (n3 + (1 : Int))), .b true, .n n2]))
      (.leaf (Step.go [.k 0, .l (Ty.pair (Ty.int IntKind.i64) (Ty.pair (Ty.int IntKind.i64) (Ty.pair (Ty.int IntKind.i64) (Ty.pair (Ty.int IntKind.i64) (Ty.pair (Ty.int IntKind.u64) (Ty.int IntKind.u32)))))) l0, .n n1, .n n2, .b b4, .n (IntKind.wrap .i64 (n3 + (1 : Int))), .b b4, .n n2])))
     (.node (Int.tmod (IntKind.wrap .i64 (Int.tmod (Prod.fst (List.getD l0 (Int.toNat n3) (Ty.dflt (Ty.pair (Ty.int IntKind.i64) (Ty.pair (Ty.int IntKind.i64) (Ty.pair (Ty.int IntKind.i64) (Ty.pair (Ty.int IntKind.i64) (Ty.pair (Ty.int IntKind.u64) (Ty.int IntKind.u32))))))))) (6 : Int) + (6 : Int))) (6 : Int) == (4 : Int))
      (.leaf (Step.go [.k 0, .l (Ty.pair (Ty.int IntKind.i64) (Ty.pair (Ty.int IntKind.i64) (Ty.pair (Ty.int IntKind.i64) (Ty.pair (Ty.int IntKind.i64) (Ty.pair (Ty.int IntKind.u64) (Ty.int IntKind.u32)))))) l0, .n n3, .n n2, .b false, .n (IntKind.wrap .i64 (n3 + (1 : Int))), .b false, .n n2]))
      (.node (Int.tmod (IntKind.wrap .i64 (Int.tmod (Prod.fst (List.getD l0 (Int.toNat n3) (Ty.dflt (Ty.pair (Ty.int IntKind.i64) (Ty.pair (Ty.int IntKind.i64) (Ty.pair (Ty.int IntKind.i64) (Ty.pair (Ty.int IntKind.i64) (Ty.pair (Ty.int IntKind.u64) (Ty.int IntKind.u32))))))))) (6 : Int) + (6 : Int))) (6 : Int) == (5 : Int))
       (.leaf (Step.go [.k 0, .l (Ty.pair (Ty.int IntKind.i64) (Ty.pair (Ty.int IntKind.i64) (Ty.pair (Ty.int IntKind.i64) (Ty.pair (Ty.int IntKind.i64) (Ty.pair (Ty.int IntKind.u64) (Ty.int IntKind.u32)))))) l0, .n n3, .n n2, .b true, .n (IntKind.wrap .i64 (n3 + (1 : Int))), .b true, .n n2]))
       (.node (decide ((Prod.fst (Prod.snd (List.getD l0 (Int.toNat n3) (Ty.dflt (Ty.pair (Ty.int IntKind.i64) (Ty.pair (Ty.int IntKind.i64) (Ty.pair (Ty.int IntKind.i64) (Ty.pair (Ty.int IntKind.i64) (Ty.pair (Ty.int IntKind.u64) (Ty.int IntKind.u32))))))))) : Int) < (0 : Int)))
        (.node (false == b4)
         (.leaf (Step.go [.k 0, .l (Ty.pair (Ty.int IntKind.i64) (Ty.pair (Ty.int IntKind.i64) (Ty.pair (Ty.int IntKind.i64) (Ty.pair (Ty.int IntKind.i64) (Ty.pair (Ty.int IntKind.u64) (Ty.int IntKind.u32)))))) l0, .n n1, .n n2, .b b4, .n (IntKind.wrap .i64 (n3 + (1 : Int))), .b b4, .n n2]))
         (.leaf (Step.go [.k 0, .l (Ty.pair (Ty.int IntKind.i64) (Ty.pair (Ty.int IntKind.i64) (Ty.pair (Ty.int IntKind.i64) (Ty.pair (Ty.int IntKind.i64) (Ty.pair (Ty.int IntKind.u64) (Ty.int IntKind.u32)))))) l0, .n n1, .n n2, .b b4, .n (IntKind.wrap .i64 (n3 + (1 : Int))), .b b4, .n n2])))
        (.node (decide ((Prod.fst (Prod.snd (List.getD l0 (Int.toNat n3) (Ty.dflt (Ty.pair (Ty.int IntKind.i64) (Ty.pair (Ty.int IntKind.i64) (Ty.pair (Ty.int IntKind.i64) (Ty.pair (Ty.int IntKind.i64) (Ty.pair (Ty.int IntKind.u64) (Ty.int IntKind.u32))))))))) : Int) ≥ (2 : Int)))
         (.node (false == b4)
          (.leaf (Step.go [.k 0, .l (Ty.pair (Ty.int IntKind.i64) (Ty.pair (Ty.int IntKind.i64) (Ty.pair (Ty.int IntKind.i64) (Ty.pair (Ty.int IntKind.i64) (Ty.pair (Ty.int IntKind.u64) (Ty.int IntKind.u32)))))) l0, .n n1, .n n2, .b b4, .n (IntKind.wrap .i64 (n3 + (1 : Int))), .b b4, .n n2]))
          (.leaf (Step.go [.k 0, .l (Ty.pair (Ty.int IntKind.i64) (Ty.pair (Ty.int IntKind.i64) (Ty.pair (Ty.int IntKind.i64) (Ty.pair (Ty.int IntKind.i64) (Ty.pair (Ty.int IntKind.u64) (Ty.int IntKind.u32)))))) l0, .n n1, .n n2, .b b4, .n (IntKind.wrap .i64 (n3 + (1 : Int))), .b b4, .n n2])))
         (.node (decide (IntKind.wrap .i64 ((1 : Int) - (Prod.fst (Prod.snd (List.getD l0 (Int.toNat n3) (Ty.dflt (Ty.pair (Ty.int IntKind.i64) (Ty.pair (Ty.int IntKind.i64) (Ty.pair (Ty.int IntKind.i64) (Ty.pair (Ty.int IntKind.i64) (Ty.pair (Ty.int IntKind.u64) (Ty.int IntKind.u32))))))))) : Int)) = (0 : Int)))
          (.node (b4)
           (.leaf (Step.go [.k 0, .l (Ty.pair (Ty.int IntKind.i64) (Ty.pair (Ty.int IntKind.i64) (Ty.pair (Ty.int IntKind.i64) (Ty.pair (Ty.int IntKind.i64) (Ty.pair (Ty.int IntKind.u64) (Ty.int IntKind.u32)))))) l0, .n n1, .n n2, .b true, .n (IntKind.wrap .i64 (n3 + (1 : Int))), .b true, .n n2]))
           (.node (decide ((Prod.fst (Prod.snd (List.getD l0 (Int.toNat n3) (Ty.dflt (Ty.pair (Ty.int IntKind.i64) (Ty.pair (Ty.int IntKind.i64) (Ty.pair (Ty.int IntKind.i64) (Ty.pair (Ty.int IntKind.i64) (Ty.pair (Ty.int IntKind.u64) (Ty.int IntKind.u32))))))))) : Int) = (0 : Int)))
            (.node (decide ((Prod.fst (Prod.snd (Prod.snd (List.getD l0 (Int.toNat n3) (Ty.dflt (Ty.pair (Ty.int IntKind.i64) (Ty.pair (Ty.int IntKind.i64) (Ty.pair (Ty.int IntKind.i64) (Ty.pair (Ty.int IntKind.i64) (Ty.pair (Ty.int IntKind.u64) (Ty.int IntKind.u32)))))))))) : Int) ≤ n2))
             (.leaf (Step.go [.k 0, .l (Ty.pair (Ty.int IntKind.i64) (Ty.pair (Ty.int IntKind.i64) (Ty.pair (Ty.int IntKind.i64) (Ty.pair (Ty.int IntKind.i64) (Ty.pair (Ty.int IntKind.u64) (Ty.int IntKind.u32)))))) l0, .n n1, .n n2, .b true, .n (IntKind.wrap .i64 (n3 + (1 : Int))), .b true, .n n2]))
             (.leaf (Step.go [.k 1, .l (Ty.pair (Ty.int IntKind.i64) (Ty.pair (Ty.int IntKind.i64) (Ty.pair (Ty.int IntKind.i64) (Ty.pair (Ty.int IntKind.i64) (Ty.pair (Ty.int IntKind.u64) (Ty.int IntKind.u32)))))) l0, .n n1, .n n2, .b b4, .n (IntKind.wrap .i64 (n3 + (1 : Int))), .b b4, .n n2, .n (Prod.fst (Prod.snd (Prod.snd (List.getD l0 (Int.toNat n3) (Ty.dflt (Ty.pair (Ty.int IntKind.i64) (Ty.pair (Ty.int IntKind.i64) (Ty.pair (Ty.int IntKind.i64) (Ty.pair (Ty.int IntKind.i64) (Ty.pair (Ty.int IntKind.u64) (Ty.int IntKind.u32))))))))))), .n (Prod.fst (Prod.snd (Prod.snd (Prod.snd (List.getD l0 (Int.toNat n3) (Ty.dflt (Ty.pair (Ty.int IntKind.i64) (Ty.pair (Ty.int IntKind.i64) (Ty.pair (Ty.int IntKind.i64) (Ty.pair (Ty.int IntKind.i64) (Ty.pair (Ty.int IntKind.u64) (Ty.int IntKind.u32)))))))))))), .n (Prod.fst (Prod.snd (Prod.snd (Prod.snd (Prod.snd (List.getD l0 (Int.toNat n3) (Ty.dflt (Ty.pair (Ty.int IntKind.i64) (Ty.pair (Ty.int IntKind.i64) (Ty.pair (Ty.int IntKind.i64) (Ty.pair (Ty.int IntKind.i64) (Ty.pair (Ty.int IntKind.u64) (Ty.int IntKind.u32))))))))))))), .n (Prod.snd (Prod.snd (Prod.snd (Prod.snd (Prod.snd (List.getD l0 (Int.toNat n3) (Ty.dflt (Ty.pair (Ty.int IntKind.i64) (Ty.pair (Ty.int IntKind.i64) (Ty.pair (Ty.int IntKind.i64) (Ty.pair (Ty.int IntKind.i64) (Ty.pair (Ty.int IntKind.u64) (Ty.int IntKind.u32)))))))))))))])))
            (.node (decide ((Prod.fst (Prod.snd (List.getD l0 (Int.toNat n3) (Ty.dflt (Ty.pair (Ty.int IntKind.i64) (Ty.pair (Ty.int IntKind.i64) (Ty.pair (Ty.int IntKind.i64) (Ty.pair (Ty.int IntKind.i64) (Ty.pair (Ty.int IntKind.u64) (Ty.int IntKind.u32))))))))) : Int) = (1 : Int)))
             (.node (decide ((Prod.fst (Prod.snd (Prod.snd (List.getD l0 (Int.toNat n3) (Ty.dflt (Ty.pair (Ty.int IntKind.i64) (Ty.pair (Ty.int IntKind.i64) (Ty.pair (Ty.int IntKind.i64) (Ty.pair (Ty.int IntKind.i64) (Ty.pair (Ty.int IntKind.u64) (Ty.int IntKind.u32)))))))))) : Int) ≤ n2))
              (.leaf (Step.go [.k 0, .l (Ty.pair (Ty.int IntKind.i64) (Ty.pair (Ty.int IntKind.i64) (Ty.pair (Ty.int IntKind.i64) (Ty.pair (Ty.int IntKind.i64) (Ty.pair (Ty.int IntKind.u64) (Ty.int IntKind.u32)))))) l0, .n n1, .n n2, .b true, .n (IntKind.wrap .i64 (n3 + (1 : Int))), .b true, .n n2]))
              (.leaf (Step.go [.k 2, .l (Ty.pair (Ty.int IntKind.i64) (Ty.pair (Ty.int IntKind.i64) (Ty.pair (Ty.int IntKind.i64) (Ty.pair (Ty.int IntKind.i64) (Ty.pair (Ty.int IntKind.u64) (Ty.int IntKind.u32)))))) l0, .n n1, .n n2, .b b4, .n (IntKind.wrap .i64 (n3 + (1 : Int))), .b b4, .n n2, .n (Prod.fst (Prod.snd (Prod.snd (List.getD l0 (Int.toNat n3) (Ty.dflt (Ty.pair (Ty.int IntKind.i64) (Ty.pair (Ty.int IntKind.i64) (Ty.pair (Ty.int IntKind.i64) (Ty.pair (Ty.int IntKind.i64) (Ty.pair (Ty.int IntKind.u64) (Ty.int IntKind.u32))))))))))), .n (Prod.fst (Prod.snd (Prod.snd (Prod.snd (List.getD l0 (Int.toNat n3) (Ty.dflt (Ty.pair (Ty.int IntKind.i64) (Ty.pair (Ty.int IntKind.i64) (Ty.pair (Ty.int IntKind.i64) (Ty.pair (Ty.int IntKind.i64) (Ty.pair (Ty.int IntKind.u64) (Ty.int IntKind.u32)))))))))))), .n (Prod.fst (Prod.snd (Prod.snd (Prod.snd (Prod.snd (List.getD l0 (Int.toNat n3) (Ty.dflt (Ty.pair (Ty.int IntKind.i64) (Ty.pair (Ty.int IntKind.i64) (Ty.pair (Ty.int IntKind.i64) (Ty.pair (Ty.int IntKind.i64) (Ty.pair (Ty.int IntKind.u64) (Ty.int IntKind.u32))))))))))))), .n (Prod.snd (Prod.snd (Prod.snd (Prod.snd (Prod.snd (List.getD l0 (Int.toNat n3) (Ty.dflt (Ty.pair (Ty.int IntKind.i64) (Ty.pair (Ty.int IntKind.i64) (Ty.pair (Ty.int IntKind.i64) (Ty.pair (Ty.int IntKind.i64) (Ty.pair (Ty.int IntKind.u64) (Ty.int IntKind.u32)))))))))))))])))
             (.bad 70))))
          (.node (decide (IntKind.wrap .i64 ((1 : Int) - (Prod.fst (Prod.snd (List.getD l0 (Int.toNat n3) (Ty.dflt (Ty.pair (Ty.int IntKind.i64) (Ty.pair (Ty.int IntKind.i64) (Ty.pair (Ty.int IntKind.i64) (Ty.pair (Ty.int IntKind.i64) (Ty.pair (Ty.int IntKind.u64) (Ty.int IntKind.u32))))))))) : Int)) = (1 : Int)))
           (.node (b4)
            (.leaf (Step.go [.k 0, .l (Ty.pair (Ty.int IntKind.i64) (Ty.pair (Ty.int IntKind.i64) (Ty.pair (Ty.int IntKind.i64) (Ty.pair (Ty.int IntKind.i64) (Ty.pair (Ty.int IntKind.u64) (Ty.int IntKind.u32)))))) l0, .n n1, .n n2, .b true, .n (IntKind.wrap .i64 (n3 + (1 : Int))), .b true, .n n2]))
            (.node (decide ((Prod.fst (Prod.snd (List.getD l0 (Int.toNat n3) (Ty.dflt (Ty.pair (Ty.int IntKind.i64) (Ty.pair (Ty.int IntKind.i64) (Ty.pair (Ty.int IntKind.i64) (Ty.pair (Ty.int IntKind.i64) (Ty.pair (Ty.int IntKind.u64) (Ty.int IntKind.u32))))))))) : Int) = (0 : Int)))
             (.node (decide ((Prod.fst (Prod.snd (Prod.snd (List.getD l0 (Int.toNat n3) (Ty.dflt (Ty.pair (Ty.int IntKind.i64) (Ty.pair (Ty.int IntKind.i64) (Ty.pair (Ty.int IntKind.i64) (Ty.pair (Ty.int IntKind.i64) (Ty.pair (Ty.int IntKind.u64) (Ty.int IntKind.u32)))))))))) : Int) ≤ n2))
              (.leaf (Step.go [.k 0, .l (Ty.pair (Ty.int IntKind.i64) (Ty.pair (Ty.int IntKind.i64) (Ty.pair (Ty.int IntKind.i64) (Ty.pair (Ty.int IntKind.i64) (Ty.pair (Ty.int IntKind.u64) (Ty.int IntKind.u32)))))) l0, .n n1, .n n2, .b true, .n (IntKind.wrap .i64 (n3 + (1 : Int))), .b true, .n n2]))
              (.leaf (Step.go [.k 1, .l (Ty.pair (Ty.int IntKind.i64) (Ty.pair (Ty.int IntKind.i64) (Ty.pair (Ty.int IntKind.i64) (Ty.pair (Ty.int IntKind.i64) (Ty.pair (Ty.int IntKind.u64) (Ty.int IntKind.u32)))))) l0, .n n1, .n n2, .b b4, .n (IntKind.wrap .i64 (n3 + (1 : Int))), .b b4, .n n2, .n (Prod.fst (Prod.snd (Prod.snd (List.getD l0 (Int.toNat n3) (Ty.dflt (Ty.pair (Ty.int IntKind.i64) (Ty.pair (Ty.int IntKind.i64) (Ty.pair (Ty.int IntKind.i64) (Ty.pair (Ty.int IntKind.i64) (Ty.pair (Ty.int IntKind.u64) (Ty.int IntKind.u32))))))))))), .n (Prod.fst (Prod.snd (Prod.snd (Prod.snd (List.getD l0 (Int.toNat n3) (Ty.dflt (Ty.pair (Ty.int IntKind.i64) (Ty.pair (Ty.int IntKind.i64) (Ty.pair (Ty.int IntKind.i64) (Ty.pair (Ty.int IntKind.i64) (Ty.pair (Ty.int IntKind.u64) (Ty.int IntKind.u32)))))))))))), .n (Prod.fst (Prod.snd (Prod.snd (Prod.snd (Prod.snd (List.getD l0 (Int.toNat n3) (Ty.dflt (Ty.pair (Ty.int IntKind.i64) (Ty.pair (Ty.int IntKind.i64) (Ty.pair (Ty.int IntKind.i64) (Ty.pair (Ty.int IntKind.i64) (Ty.pair (Ty.int IntKind.u64) (Ty.int IntKind.u32))))))))))))), .n (Prod.snd (Prod.snd (Prod.snd (Prod.snd (Prod.snd (List.getD l0 (Int.toNat n3) (Ty.dflt (Ty.pair (Ty.int IntKind.i64) (Ty.pair (Ty.int IntKind.i64) (Ty.pair (Ty.int IntKind.i64) (Ty.pair (Ty.int IntKind.i64) (Ty.pair (Ty.int IntKind.u64) (Ty.int IntKind.u32)))))))))))))])))
             (.node (decide ((Prod.fst (Prod.snd (List.getD l0 (Int.toNat n3) (Ty.dflt (Ty.pair (Ty.int IntKind.i64) (Ty.pair (Ty.int IntKind.i64) (Ty.pair (Ty.int IntKind.i64) (Ty.pair (Ty.int IntKind.i64) (Ty.pair (Ty.int IntKind.u64) (Ty.int IntKind.u32))))))))) : Int) = (1 : Int)))
              (.node (decide ((Prod.fst (Prod.snd (Prod.snd (List.getD l0 (Int.toNat n3) (Ty.dflt (Ty.pair (Ty.int IntKind.i64) (Ty.pair (Ty.int IntKind.i64) (Ty.pair (Ty.int IntKind.i64) (Ty.pair (Ty.int IntKind.i64) (Ty.pair (Ty.int IntKind.u64) (Ty.int IntKind.u32)))))))))) : Int) ≤ n2))
               (.leaf (Step.go [.k 0, .l (Ty.pair (Ty.int IntKind.i64) (Ty.pair (Ty.int IntKind.i64) (Ty.pair (Ty.int IntKind.i64) (Ty.pair (Ty.int IntKind.i64) (Ty.pair (Ty.int IntKind.u64) (Ty.int IntKind.u32)))))) l0, .n n1, .n n2, .b true, .n (IntKind.wrap .i64 (n3 + (1 : Int))), .b true, .n n2]))
               (.leaf (Step.go [.k 2, .l (Ty.pair (Ty.int IntKind.i64) (Ty.pair (Ty.int IntKind.i64) (Ty.pair (Ty.int IntKind.i64) (Ty.pair (Ty.int IntKind.i64) (Ty.pair (Ty.int IntKind.u64) (Ty.int IntKind.u32)))))) l0, .n n1, .n n2, .b b4, .n (IntKind.wrap .i64 (n3 + (1 : Int))), .b b4, .n n2, .n (Prod.fst (Prod.snd (Prod.snd (List.getD l0 (Int.toNat n3) (Ty.dflt (Ty.pair (Ty.int IntKind.i64) (Ty.pair (Ty.int IntKind.i64) (Ty.pair (Ty.int IntKind.i64) (Ty.pair (Ty.int IntKind.i64) (Ty.pair (Ty.int IntKind.u64) (Ty.int IntKind.u32))))))))))), .n (Prod.fst (Prod.snd (Prod.snd (Prod.snd (List.getD l0 (Int.toNat n3) (Ty.dflt (Ty.pair (Ty.int IntKind.i64) (Ty.pair (Ty.int IntKind.i64) (Ty.pair (Ty.int IntKind.i64) (Ty.pair (Ty.int IntKind.i64) (Ty.pair (Ty.int IntKind.u64) (Ty.int IntKind.u32)))))))))))), .n (Prod.fst (Prod.snd (Prod.snd (Prod.snd (Prod.snd (List.getD l0 (Int.toNat n3) (Ty.dflt (Ty.pair (Ty.int IntKind.i64) (Ty.pair (Ty.int IntKind.i64) (Ty.pair (Ty.int IntKind.i64) (Ty.pair (Ty.int IntKind.i64) (Ty.pair (Ty.int IntKind.u64) (Ty.int IntKind.u32))))))))))))), .n (Prod.snd (Prod.snd (Prod.snd (Prod.snd (Prod.snd (List.getD l0 (Int.toNat n3) (Ty.dflt (Ty.pair (Ty.int IntKind.i64) (Ty.pair (Ty.int IntKind.i64) (Ty.pair (Ty.int IntKind.i64) (Ty.pair (Ty.int IntKind.i64) (Ty.pair (Ty.int IntKind.u64) (Ty.int IntKind.u32)))))))))))))])))
              (.bad 70))))
           (.bad 70))))))))
  | _ => .bad 0
theorem fn_L4_8_t0_im (l0 : List (Ty.den (Ty.pair (Ty.int IntKind.i64) (Ty.pair (Ty.int IntKind.i64) (Ty.pair (Ty.int IntKind.i64) (Ty.pair (Ty.int IntKind.i64) (Ty.pair (Ty.int IntKind.u64) (Ty.int IntKind.u32)))))))) (n1 : Int) (n2 : Int) (n3 : Int) (b4 : Bool) (g0 : 0 ≤ n1) (g1 :  n1 ≤ n3) (g2 :  n3 < (l0.length : Int)) (g3 :  l0.length ≤ 200) : Imp (fn_L4_8_t0 [.l (Ty.pair (Ty.int IntKind.i64) (Ty.pair (Ty.int IntKind.i64) (Ty.pair (Ty.int IntKind.i64) (Ty.pair (Ty.int IntKind.i64) (Ty.pair (Ty.int IntKind.u64) (Ty.int IntKind.u32)))))) l0, .n n1, .n n2, .n n3, .b b4]) (st_L4_8 [.k 0, .l TCl l0, .n n1, .n n2, .b b4, .n n3, .b b4, .n n2]) :=
(.path [1] (by kernel_rfl)
(.pt (c := (decide (n3 < (↑(List.length l0) : Int)))) (by kernel_rfl) (by kernel_rfl) (by (simp [*]; done))
(.pt (c := (inR n3 (List.length l0))) (by kernel_rfl) (by kernel_rfl) (by (simp only [w64d, decide_eq_true_eq, decide_eq_false_iff_not, beq_iff_eq, beq_eq_false_iff_ne, bne_iff_ne, ne_eq, inR, Bool.and_eq_true, Bool.and_eq_false_iff, Bool.not_eq_true', Bool.not_eq_false', Bool.not_eq_eq_eq_not, Bool.not_true, Bool.not_false] at *; omega))
(.path [1,0,1,1,1,1,0,1,1] (by kernel_rfl)
(.node (by kernel_rfl) (by kernel_rfl) (fun h0 =>
(.path [1,0] (by kernel_rfl)
(.node (by kernel_rfl) (by kernel_rfl) (fun h1 =>
(.path [1,1,1,1,1,1,1,1,1,0,1,1,0,0,1,0,0,0,0,1,0,1,0,0,0,1,0,1,1] (by kernel_rfl)
(.leaf (by kernel_rfl)))) (fun h1 =>
(.path [1,0,0,1,0,1,1,0,1,1,0,0,1,0,0,0,0,1,0,1] (by kernel_rfl)
(.pt (c := (false == b4)) (by kernel_rfl) (by kernel_rfl) (by (simp [*]; done))
(.path [0,1,0,1,1] (by kernel_rfl)
(.leaf (by kernel_rfl))))))))) (fun h0 =>
(.node (by kernel_rfl) (by kernel_rfl) (fun h1 =>
(.path [1,1,1,1,0,1,1,0,0,1,0,0,0,0,1,0,1,1,0,1,0,1,1] (by kernel_rfl)
(.leaf (by kernel_rfl)))) (fun h1 =>
(.node (by kernel_rfl) (by kernel_rfl) (fun h2 =>
(.path [1,1,1,1,0,1,1,0,0,1,0,0,0,0,1,0,1,0,0,0,1,0,1,1] (by kernel_rfl)
(.leaf (by kernel_rfl)))) (fun h2 =>
(.path [1,0] (by kernel_rfl)
(.node (by kernel_rfl) (by kernel_rfl) (fun h3 =>
(.path [1,1,1,1,0,1,1,0,0,1,0,0,0,0,1,0,1] (by kernel_rfl)
(.node (by kernel_rfl) (by kernel_rfl) (fun h4 =>
(.path [0,1,0,1,1] (by kernel_rfl)
(.leaf (by kernel_rfl)))) (fun h4 =>
(.path [0,0,1,0,1,1] (by kernel_rfl)
(.leaf (by kernel_rfl))))))) (fun h3 =>
(.node (by kernel_rfl) (by kernel_rfl) (fun h4 =>
(.path [1,1,0,1,1,0,0,1,0,0,0,0,1,0,1] (by kernel_rfl)
(.node (by kernel_rfl) (by kernel_rfl) (fun h5 =>
(.path [0,1,0,1,1] (by kernel_rfl)
(.leaf (by kernel_rfl)))) (fun h5 =>
(.path [0,0,1,0,1,1] (by kernel_rfl)
(.leaf (by kernel_rfl))))))) (fun h4 =>
(.node (by kernel_rfl) (by kernel_rfl) (fun h5 =>
(.node (by kernel_rfl) (by kernel_rfl) (fun h6 =>
(.path (1 ::1 ::1 ::1 ::1 ::1 ::1 ::1 ::1 ::1 ::1 ::1 ::0 ::1 ::1 ::0 ::0 ::1 ::0 ::0 ::0 ::0 ::1 ::0 ::1 ::0 ::0 ::0 ::1 ::0 ::1 ::1 :: []) (by kernel_rfl)
(.leaf (by kernel_rfl)))) (fun h6 =>
(.node (by kernel_rfl) (by kernel_rfl) (fun h7 =>
(.path [0] (by kernel_rfl)
(.node (by kernel_rfl) (by kernel_rfl) (fun h8 =>
(.path [1,1,1,1,1,1,1,1,0,1,1,0,0,1,0,0,0,0,1,0,1,0,0,0,1,0,1,1] (by kernel_rfl)
(.leaf (by kernel_rfl)))) (fun h8 =>
(.path [0,0,1,0,1] (by kernel_rfl)
(.pt (by kernel_rfl) (by kernel_rfl) h7
(.path [1,1,0,1,1,0,0,1,0,0,0,0,1,0,1] (by kernel_rfl)
(.pt (c := (false == b4)) (by kernel_rfl) (by kernel_rfl) (by (simp [*]; done))
(.path [0,1,0,1,1] (by kernel_rfl)
(.leaf (by kernel_rfl))))))))))) (fun h7 =>
(.node (by kernel_rfl) (by kernel_rfl) (fun h8 =>
(.path [0] (by kernel_rfl)
(.node (by kernel_rfl) (by kernel_rfl) (fun h9 =>
(.path [1,1,1,1,1,1,1,1,0,1,1,0,0,1,0,0,0,0,1,0,1,0,0,0,1,0,1,1] (by kernel_rfl)
(.leaf (by kernel_rfl)))) (fun h9 =>
(.path [0,0,1,0,1] (by kernel_rfl)
(.pf (by kernel_rfl) (by kernel_rfl) h7
(.pt (by kernel_rfl) (by kernel_rfl) h8
(.path [1,1,0,1,1,0,0,1,0,0,0,0,1,0,1] (by kernel_rfl)
(.pt (c := (false == b4)) (by kernel_rfl) (by kernel_rfl) (by (simp [*]; done))
(.path [0,1,0,1,1] (by kernel_rfl)
(.leaf (by kernel_rfl)))))))))))) (fun h8 =>
.none))))))) (fun h5 =>
(.node (by kernel_rfl) (by kernel_rfl) (fun h6 =>
(.node (by kernel_rfl) (by kernel_rfl) (fun h7 =>
(.path (1 ::1 ::1 ::1 ::1 ::1 ::1 ::1 ::1 ::1 ::1 ::1 ::0 ::1 ::1 ::0 ::0 ::1 ::0 ::0 ::0 ::0 ::1 ::0 ::1 ::0 ::0 ::0 ::1 ::0 ::1 ::1 :: []) (by kernel_rfl)
(.leaf (by kernel_rfl)))) (fun h7 =>
(.node (by kernel_rfl) (by kernel_rfl) (fun h8 =>
(.path [0] (by kernel_rfl)
(.node (by kernel_rfl) (by kernel_rfl) (fun h9 =>
(.path [1,1,1,1,1,1,1,1,0,1,1,0,0,1,0,0,0,0,1,0,1,0,0,0,1,0,1,1] (by kernel_rfl)
(.leaf (by kernel_rfl)))) (fun h9 =>
(.path [0,0,1,0,1] (by kernel_rfl)
(.pt (by kernel_rfl) (by kernel_rfl) h8
(.path [1,1,0,1,1,0,0,1,0,0,0,0,1,0,1] (by kernel_rfl)
(.pt (c := (false == b4)) (by kernel_rfl) (by kernel_rfl) (by (simp [*]; done))
(.path [0,1,0,1,1] (by kernel_rfl)
(.leaf (by kernel_rfl))))))))))) (fun h8 =>
(.node (by kernel_rfl) (by kernel_rfl) (fun h9 =>
(.path [0] (by kernel_rfl)
(.node (by kernel_rfl) (by kernel_rfl) (fun h10 =>
(.path [1,1,1,1,1,1,1,1,0,1,1,0,0,1,0,0,0,0,1,0,1,0,0,0,1,0,1,1] (by kernel_rfl)
(.leaf (by kernel_rfl)))) (fun h10 =>
(.path [0,0,1,0,1] (by kernel_rfl)
(.pf (by kernel_rfl) (by kernel_rfl) h8
(.pt (by kernel_rfl) (by kernel_rfl) h9
(.path [1,1,0,1,1,0,0,1,0,0,0,0,1,0,1] (by kernel_rfl)
(.pt (c := (false == b4)) (by kernel_rfl) (by kernel_rfl) (by (simp [*]; done))
(.path [0,1,0,1,1] (by kernel_rfl)
(.leaf (by kernel_rfl)))))))))))) (fun h9 =>
.none))))))) (fun h6 =>
.none)))))))))))))))))))

noncomputable def fn_L4_8_t1 : List Dat → Tree Step
  | [.l (Ty.pair (Ty.int IntKind.i64) (Ty.pair (Ty.int IntKind.i64) (Ty.pair (Ty.int IntKind.i64) (Ty.pair (Ty.int IntKind.i64) (Ty.pair (Ty.int IntKind.u64) (Ty.int IntKind.u32)))))) l0, .n n1, .n n2, .n n3, .n n4, .n n5, .n n6, .n n7] =>
    (.node (Int.tmod (IntKind.wrap .i64 (Int.tmod (Prod.fst (List.getD l0 (Int.toNat n3) (Ty.dflt (Ty.pair (Ty.int IntKind.i64) (Ty.pair (Ty.int IntKind.i64) (Ty.pair (Ty.int IntKind.i64) (Ty.pair (Ty.int IntKind.i64) (Ty.pair (Ty.int IntKind.u64) (Ty.int IntKind.u32))))))))) (6 : Int) + (6 : Int))) (6 : Int) == (3 : Int))
     (.leaf (Step.go [.k 0, .l (Ty.pair (Ty.int IntKind.i64) (Ty.pair (Ty.int IntKind.i64) (Ty.pair (Ty.int IntKind.i64) (Ty.pair (Ty.int IntKind.i64) (Ty.pair (Ty.int IntKind.u64) (Ty.int IntKind.u32)))))) l0, .n n1, .n n2, .b true, .n (IntKind.wrap .i64 (n3 + (1 : Int))), .b true, .n n2]))
     (.node (Int.tmod (IntKind.wrap .i64 (Int.tmod (Prod.fst (List.getD l0 (Int.toNat n3) (Ty.dflt (Ty.pair (Ty.int IntKind.i64) (Ty.pair (Ty.int IntKind.i64) (Ty.pair (Ty.int IntKind.i64) (Ty.pair (Ty.int IntKind.i64) (Ty.pair (Ty.int IntKind.u64) (Ty.int IntKind.u32))))))))) (6 : Int) + (6 : Int))) (6 : Int) == (4 : Int))
      (.leaf (Step.go [.k 0, .l (Ty.pair (Ty.int IntKind.i64) (Ty.pair (Ty.int IntKind.i64) (Ty.pair (Ty.int IntKind.i64) (Ty.pair (Ty.int IntKind.i64) (Ty.pair (Ty.int IntKind.u64) (Ty.int IntKind.u32)))))) l0, .n n3, .n n2, .b false, .n (IntKind.wrap .i64 (n3 + (1 : Int))), .b false, .n n2]))
      (.node (Int.tmod (IntKind.wrap .i64 (Int.tmod (Prod.fst (List.getD l0 (Int.toNat n3) (Ty.dflt (Ty.pair (Ty.int IntKind.i64) (Ty.pair (Ty.int IntKind.i64) (Ty.pair (Ty.int IntKind.i64) (Ty.pair (Ty.int IntKind.i64) (Ty.pair (Ty.int IntKind.u64) (Ty.int IntKind.u32))))))))) (6 : Int) + (6 : Int))) (6 : Int) == (5 : Int))
       (.leaf (Step.go [.k 0, .l (Ty.pair (Ty.int IntKind.i64) (Ty.pair (Ty.int IntKind.i64) (Ty.pair (Ty.int IntKind.i64) (Ty.pair (Ty.int IntKind.i64) (Ty.pair (Ty.int IntKind.u64) (Ty.int IntKind.u32)))))) l0, .n n3, .n n2, .b true, .n (IntKind.wrap .i64 (n3 + (1 : Int))), .b true, .n n2]))
       (.node (decide ((Prod.fst (Prod.snd (List.getD l0 (Int.toNat n3) (Ty.dflt (Ty.pair (Ty.int IntKind.i64) (Ty.pair (Ty.int IntKind.i64) (Ty.pair (Ty.int IntKind.i64) (Ty.pair (Ty.int IntKind.i64) (Ty.pair (Ty.int IntKind.u64) (Ty.int IntKind.u32))))))))) : Int) < (0 : Int)))
        (.leaf (Step.go [.k 1, .l (Ty.pair (Ty.int IntKind.i64) (Ty.pair (Ty.int IntKind.i64) (Ty.pair (Ty.int IntKind.i64) (Ty.pair (Ty.int IntKind.i64) (Ty.pair (Ty.int IntKind.u64) (Ty.int IntKind.u32)))))) l0, .n n1, .n n2, .b false, .n (IntKind.wrap .i64 (n3 + (1 : Int))), .b false, .n n2, .n n4, .n n5, .n n6, .n n7]))
        (.node (decide ((Prod.fst (Prod.snd (List.getD l0 (Int.toNat n3) (Ty.dflt (Ty.pair (Ty.int IntKind.i64) (Ty.pair (Ty.int IntKind.i64) (Ty.pair (Ty.int IntKind.i64) (Ty.pair (Ty.int IntKind.i64) (Ty.pair (Ty.int IntKind.u64) (Ty.int IntKind.u32))))))))) : Int) ≥ (2 : Int)))
         (.leaf (Step.go [.k 1, .l (Ty.pair (Ty.int IntKind.i64) (Ty.pair (Ty.int IntKind.i64) (Ty.pair (Ty.int IntKind.i64) (Ty.pair (Ty.int IntKind.i64) (Ty.pair (Ty.int IntKind.u64) (Ty.int IntKind.u32)))))) l0, .n n1, .n n2, .b false, .n (IntKind.wrap .i64 (n3 + (1 : Int))), .b false, .n n2, .n n4, .n n5, .n n6, .n n7]))
         (.node (decide (IntKind.wrap .i64 ((1 : Int) - (Prod.fst (Prod.snd (List.getD l0 (Int.toNat n3) (Ty.dflt (Ty.pair (Ty.int IntKind.i64) (Ty.pair (Ty.int IntKind.i64) (Ty.pair (Ty.int IntKind.i64) (Ty.pair (Ty.int IntKind.i64) (Ty.pair (Ty.int IntKind.u64) (Ty.int IntKind.u32))))))))) : Int)) = (0 : Int)))
          (.node (decide ((Prod.fst (Prod.snd (List.getD l0 (Int.toNat n3) (Ty.dflt (Ty.pair (Ty.int IntKind.i64) (Ty.pair (Ty.int IntKind.i64) (Ty.pair (Ty.int IntKind.i64) (Ty.pair (Ty.int IntKind.i64) (Ty.pair (Ty.int IntKind.u64) (Ty.int IntKind.u32))))))))) : Int) = (0 : Int)))
           (.leaf (Step.go [.k 0, .l (Ty.pair (Ty.int IntKind.i64) (Ty.pair (Ty.int IntKind.i64) (Ty.pair (Ty.int IntKind.i64) (Ty.pair (Ty.int IntKind.i64) (Ty.pair (Ty.int IntKind.u64) (Ty.int IntKind.u32)))))) l0, .n n1, .n n2, .b true, .n (IntKind.wrap .i64 (n3 + (1 : Int))), .b true, .n n2]))
           (.node (decide ((Prod.fst (Prod.snd (List.getD l0 (Int.toNat n3) (Ty.dflt (Ty.pair (Ty.int IntKind.i64) (Ty.pair (Ty.int IntKind.i64) (Ty.pair (Ty.int IntKind.i64) (Ty.pair (Ty.int IntKind.i64) (Ty.pair (Ty.int IntKind.u64) (Ty.int IntKind.u32))))))))) : Int) = (1 : Int)))
            (.node (decide ((Prod.fst (Prod.snd (Prod.snd (List.getD l0 (Int.toNat n3) (Ty.dflt (Ty.pair (Ty.int IntKind.i64) (Ty.pair (Ty.int IntKind.i64) (Ty.pair (Ty.int IntKind.i64) (Ty.pair (Ty.int IntKind.i64) (Ty.pair (Ty.int IntKind.u64) (Ty.int IntKind.u32)))))))))) : Int) ≤ n2))
             (.leaf (Step.go [.k 0, .l (Ty.pair (Ty.int IntKind.i64) (Ty.pair (Ty.int IntKind.i64) (Ty.pair (Ty.int IntKind.i64) (Ty.pair (Ty.int IntKind.i64) (Ty.pair (Ty.int IntKind.u64) (Ty.int IntKind.u32)))))) l0, .n n1, .n n2, .b true, .n (IntKind.wrap .i64 (n3 + (1 : Int))), .b true, .n n2]))
             (.node (!(n4 == Prod.fst (Prod.snd (Prod.snd (List.getD l0 (Int.toNat n3) (Ty.dflt (Ty.pair (Ty.int IntKind.i64) (Ty.pair (Ty.int IntKind.i64) (Ty.pair (Ty.int IntKind.i64) (Ty.pair (Ty.int IntKind.i64) (Ty.pair (Ty.int IntKind.u64) (Ty.int IntKind.u32)))))))))) && (n5 == Prod.fst (Prod.snd (Prod.snd (Prod.snd (List.getD l0 (Int.toNat n3) (Ty.dflt (Ty.pair (Ty.int IntKind.i64) (Ty.pair (Ty.int IntKind.i64) (Ty.pair (Ty.int IntKind.i64) (Ty.pair (Ty.int IntKind.i64) (Ty.pair (Ty.int IntKind.u64) (Ty.int IntKind.u32))))))))))) && (n6 == Prod.fst (Prod.snd (Prod.snd (Prod.snd (Prod.snd (List.getD l0 (Int.toNat n3) (Ty.dflt (Ty.pair (Ty.int IntKind.i64) (Ty.pair (Ty.int IntKind.i64) (Ty.pair (Ty.int IntKind.i64) (Ty.pair (Ty.int IntKind.i64) (Ty.pair (Ty.int IntKind.u64) (Ty.int IntKind.u32)))))))))))) && (n7 == Prod.snd (Prod.snd (Prod.snd (Prod.snd (Prod.snd (List.getD l0 (Int.toNat n3) (Ty.dflt (Ty.pair (Ty.int IntKind.i64) (Ty.pair (Ty.int IntKind.i64) (Ty.pair (Ty.int IntKind.i64) (Ty.pair (Ty.int IntKind.i64) (Ty.pair (Ty.int IntKind.u64) (Ty.int IntKind.u32)))))))))))) && true) && true))))
              (.leaf (Step.go [.k 0, .l (Ty.pair (Ty.int IntKind.i64) (Ty.pair (Ty.int IntKind.i64) (Ty.pair (Ty.int IntKind.i64) (Ty.pair (Ty.int IntKind.i64) (Ty.pair (Ty.int IntKind.u64) (Ty.int IntKind.u32)))))) l0, .n n1, .n n2, .b true, .n (IntKind.wrap .i64 (n3 + (1 : Int))), .b true, .n n2]))
              (let r1 : Option (Nat × List Dat) := (op_26 [.l (Ty.pair (Ty.int IntKind.i64) (Ty.pair (Ty.int IntKind.i64) (Ty.pair (Ty.int IntKind.i64) (Ty.pair (Ty.int IntKind.i64) (Ty.pair (Ty.int IntKind.u64) (Ty.int IntKind.u32)))))) (List.drop (Int.toNat n1) (List.take (Int.toNat (IntKind.wrap .i64 (n3 + (1 : Int)))) l0)), .n (0 : Int), .n (Prod.fst (Prod.snd (Prod.snd (List.getD l0 (Int.toNat n3) (Ty.dflt (Ty.pair (Ty.int IntKind.i64) (Ty.pair (Ty.int IntKind.i64) (Ty.pair (Ty.int IntKind.i64) (Ty.pair (Ty.int IntKind.i64) (Ty.pair (Ty.int IntKind.u64) (Ty.int IntKind.u32))))))))))), .n (Prod.fst (Prod.snd (Prod.snd (Prod.snd (List.getD l0 (Int.toNat n3) (Ty.dflt (Ty.pair (Ty.int IntKind.i64) (Ty.pair (Ty.int IntKind.i64) (Ty.pair (Ty.int IntKind.i64) (Ty.pair (Ty.int IntKind.i64) (Ty.pair (Ty.int IntKind.u64) (Ty.int IntKind.u32)))))))))))), .n (Prod.fst (Prod.snd (Prod.snd (Prod.snd (Prod.snd (List.getD l0 (Int.toNat n3) (Ty.dflt (Ty.pair (Ty.int IntKind.i64) (Ty.pair (Ty.int IntKind.i64) (Ty.pair (Ty.int IntKind.i64) (Ty.pair (Ty.int IntKind.i64) (Ty.pair (Ty.int IntKind.u64) (Ty.int IntKind.u32))))))))))))), .n (Prod.snd (Prod.snd (Prod.snd (Prod.snd (Prod.snd (List.getD l0 (Int.toNat n3) (Ty.dflt (Ty.pair (Ty.int IntKind.i64) (Ty.pair (Ty.int IntKind.i64) (Ty.pair (Ty.int IntKind.i64) (Ty.pair (Ty.int IntKind.i64) (Ty.pair (Ty.int IntKind.u64) (Ty.int IntKind.u32)))))))))))))]);
               (.node (isK 0 [HK.b] r1)
                (.node (!gb (dOf r1) 0)
                 (.leaf (Step.stop 3 [.b false]))
                 (let r2 : Option (Nat × List Dat) := (op_26 [.l (Ty.pair (Ty.int IntKind.i64) (Ty.pair (Ty.int IntKind.i64) (Ty.pair (Ty.int IntKind.i64) (Ty.pair (Ty.int IntKind.i64) (Ty.pair (Ty.int IntKind.u64) (Ty.int IntKind.u32)))))) (List.drop (Int.toNat n1) (List.take (Int.toNat (IntKind.wrap .i64 (n3 + (1 : Int)))) l0)), .n (1 : Int), .n (Prod.fst (Prod.snd (Prod.snd (List.getD l0 (Int.toNat n3) (Ty.dflt (Ty.pair (Ty.int IntKind.i64) (Ty.pair (Ty.int IntKind.i64) (Ty.pair (Ty.int IntKind.i64) (Ty.pair (Ty.int IntKind.i64) (Ty.pair (Ty.int IntKind.u64) (Ty.int IntKind.u32))))))))))), .n (Prod.fst (Prod.snd (Prod.snd (Prod.snd (List.getD l0 (Int.toNat n3) (Ty.dflt (Ty.pair (Ty.int IntKind.i64) (Ty.pair (Ty.int IntKind.i64) (Ty.pair (Ty.int IntKind.i64) (Ty.pair (Ty.int IntKind.i64) (Ty.pair (Ty.int IntKind.u64) (Ty.int IntKind.u32)))))))))))), .n (Prod.fst (Prod.snd (Prod.snd (Prod.snd (Prod.snd (List.getD l0 (Int.toNat n3) (Ty.dflt (Ty.pair (Ty.int IntKind.i64) (Ty.pair (Ty.int IntKind.i64) (Ty.pair (Ty.int IntKind.i64) (Ty.pair (Ty.int IntKind.i64) (Ty.pair (Ty.int IntKind.u64) (Ty.int IntKind.u32))))))))))))), .n (Prod.snd (Prod.snd (Prod.snd (Prod.snd (Prod.snd (List.getD l0 (Int.toNat n3) (Ty.dflt (Ty.pair (Ty.int IntKind.i64) (Ty.pair (Ty.int IntKind.i64) (Ty.pair (Ty.int IntKind.i64) (Ty.pair (Ty.int IntKind.i64) (Ty.pair (Ty.int IntKind.u64) (Ty.int IntKind.u32)))))))))))))]);
                  (.node (isK 0 [HK.b] r2)
                   (.node (!gb (dOf r2) 0)
                    (.leaf (Step.stop 3 [.b false]))
                    (.node (decide ((Prod.fst (Prod.snd (Prod.snd (List.getD l0 (Int.toNat n3) (Ty.dflt (Ty.pair (Ty.int IntKind.i64) (Ty.pair (Ty.int IntKind.i64) (Ty.pair (Ty.int IntKind.i64) (Ty.pair (Ty.int IntKind.i64) (Ty.pair (Ty.int IntKind.u64) (Ty.int IntKind.u32)))))))))) : Int) ≤ n2))
                     (.leaf (Step.stop 3 [.b false]))
                     (.leaf (Step.go [.k 3, .l (Ty.pair (Ty.int IntKind.i64) (Ty.pair (Ty.int IntKind.i64) (Ty.pair (Ty.int IntKind.i64) (Ty.pair (Ty.int IntKind.i64) (Ty.pair (Ty.int IntKind.u64) (Ty.int IntKind.u32)))))) l0, .n n1, .n (Prod.fst (Prod.snd (Prod.snd (List.getD l0 (Int.toNat n3) (Ty.dflt (Ty.pair (Ty.int IntKind.i64) (Ty.pair (Ty.int IntKind.i64) (Ty.pair (Ty.int IntKind.i64) (Ty.pair (Ty.int IntKind.i64) (Ty.pair (Ty.int IntKind.u64) (Ty.int IntKind.u32))))))))))), .b false, .n (IntKind.wrap .i64 (n3 + (1 : Int))), .b false, .n (Prod.fst (Prod.snd (Prod.snd (List.getD l0 (Int.toNat n3) (Ty.dflt (Ty.pair (Ty.int IntKind.i64) (Ty.pair (Ty.int IntKind.i64) (Ty.pair (Ty.int IntKind.i64) (Ty.pair (Ty.int IntKind.i64) (Ty.pair (Ty.int IntKind.u64) (Ty.int IntKind.u32))))))))))), .n (Prod.fst (Prod.snd (Prod.snd (List.getD l0 (Int.toNat n3) (Ty.dflt (Ty.pair (Ty.int IntKind.i64) (Ty.pair (Ty.int IntKind.i64) (Ty.pair (Ty.int IntKind.i64) (Ty.pair (Ty.int IntKind.i64) (Ty.pair (Ty.int IntKind.u64) (Ty.int IntKind.u32))))))))))), .n (Prod.fst (Prod.snd (Prod.snd (Prod.snd (List.getD l0 (Int.toNat n3) (Ty.dflt (Ty.pair (Ty.int IntKind.i64) (Ty.pair (Ty.int IntKind.i64) (Ty.pair (Ty.int IntKind.i64) (Ty.pair (Ty.int IntKind.i64) (Ty.pair (Ty.int IntKind.u64) (Ty.int IntKind.u32)))))))))))), .n (Prod.fst (Prod.snd (Prod.snd (Prod.snd (Prod.snd (List.getD l0 (Int.toNat n3) (Ty.dflt (Ty.pair (Ty.int IntKind.i64) (Ty.pair (Ty.int IntKind.i64) (Ty.pair (Ty.int IntKind.i64) (Ty.pair (Ty.int IntKind.i64) (Ty.pair (Ty.int IntKind.u64) (Ty.int IntKind.u32))))))))))))), .n (Prod.snd (Prod.snd (Prod.snd (Prod.snd (Prod.snd (List.getD l0 (Int.toNat n3) (Ty.dflt (Ty.pair (Ty.int IntKind.i64) (Ty.pair (Ty.int IntKind.i64) (Ty.pair (Ty.int IntKind.i64) (Ty.pair (Ty.int IntKind.i64) (Ty.pair (Ty.int IntKind.u64) (Ty.int IntKind.u32)))))))))))))]))))
                   (.bad 351))))
                (.bad 351)))))
            (.bad 70)))
          (.node (decide (IntKind.wrap .i64 ((1 : Int) - (Prod.fst (Prod.snd (List.getD l0 (Int.toNat n3) (Ty.dflt (Ty.pair (Ty.int IntKind.i64) (Ty.pair (Ty.int IntKind.i64) (Ty.pair (Ty.int IntKind.i64) (Ty.pair (Ty.int IntKind.i64) (Ty.pair (Ty.int IntKind.u64) (Ty.int IntKind.u32))))))))) : Int)) = (1 : Int)))
           (.node (decide ((Prod.fst (Prod.snd (List.getD l0 (Int.toNat n3) (Ty.dflt (Ty.pair (Ty.int IntKind.i64) (Ty.pair (Ty.int IntKind.i64) (Ty.pair (Ty.int IntKind.i64) (Ty.pair (Ty.int IntKind.i64) (Ty.pair (Ty.int IntKind.u64) (Ty.int IntKind.u32))))))))) : Int) = (0 : Int)))
            (.leaf (Step.go [.k 0, .l (Ty.pair (Ty.int IntKind.i64) (Ty.pair (Ty.int IntKind.i64) (Ty.pair (Ty.int IntKind.i64) (Ty.pair (Ty.int IntKind.i64) (Ty.pair (Ty.int IntKind.u64) (Ty.int IntKind.u32)))))) l0, .n n1, .n n2, .b true, .n (IntKind.wrap .i64 (n3 + (1 : Int))), .b true, .n n2]))
            (.node (decide ((Prod.fst (Prod.snd (List.getD l0 (Int.toNat n3) (Ty.dflt (Ty.pair (Ty.int IntKind.i64) (Ty.pair (Ty.int IntKind.i64) (Ty.pair (Ty.int IntKind.i64) (Ty.pair (Ty.int IntKind.i64) (Ty.pair (Ty.int IntKind.u64) (Ty.int IntKind.u32))))))))) : Int) = (1 : Int)))
             (.node (decide ((Prod.fst (Prod.snd (Prod.snd (List.getD l0 (Int.toNat n3) (Ty.dflt (Ty.pair (Ty.int IntKind.i64) (Ty.pair (Ty.int IntKind.i64) (Ty.pair (Ty.int IntKind.i64) (Ty.pair (Ty.int IntKind.i64) (Ty.pair (Ty.int IntKind.u64) (Ty.int IntKind.u32)))))))))) : Int) ≤ n2))
              (.leaf (Step.go [.k 0, .l (Ty.pair (Ty.int IntKind.i64) (Ty.pair (Ty.int IntKind.i64) (Ty.pair (Ty.int IntKind.i64) (Ty.pair (Ty.int IntKind.i64) (Ty.pair (Ty.int IntKind.u64) (Ty.int IntKind.u32)))))) l0, .n n1, .n n2, .b true, .n (IntKind.wrap .i64 (n3 + (1 : Int))), .b true, .n n2]))
              (.bad 334))
             (.bad 70)))
           (.bad 70))))))))
  | _ => .bad 0
theorem fn_L4_8_t1_im (l0 : List (Ty.den (Ty.pair (Ty.int IntKind.i64) (Ty.pair (Ty.int IntKind.i64) (Ty.pair (Ty.int IntKind.i64) (Ty.pair (Ty.int IntKind.i64) (Ty.pair (Ty.int IntKind.u64) (Ty.int IntKind.u32)))))))) (n1 : Int) (n2 : Int) (n3 : Int) (n4 : Int) (n5 : Int) (n6 : Int) (n7 : Int) (g0 : 0 ≤ n1) (g1 :  n1 ≤ n3) (g2 :  n3 < (l0.length : Int)) (g3 :  l0.length ≤ 200) : Imp (fn_L4_8_t1 [.l (Ty.pair (Ty.int IntKind.i64) (Ty.pair (Ty.int IntKind.i64) (Ty.pair (Ty.int IntKind.i64) (Ty.pair (Ty.int IntKind.i64) (Ty.pair (Ty.int IntKind.u64) (Ty.int IntKind.u32)))))) l0, .n n1, .n n2, .n n3, .n n4, .n n5, .n n6, .n n7]) (st_L4_8 [.k 1, .l TCl l0, .n n1, .n n2, .b false, .n n3, .b false, .n n2, .n n4, .n n5, .n n6, .n n7]) :=
(.path [1] (by kernel_rfl)
(.pt (c := (decide (n3 < (↑(List.length l0) : Int)))) (by kernel_rfl) (by kernel_rfl) (by (simp [*]; done))
(.pt (c := (inR n3 (List.length l0))) (by kernel_rfl) (by kernel_rfl) (by (simp only [w64d, decide_eq_true_eq, decide_eq_false_iff_not, beq_iff_eq, beq_eq_false_iff_ne, bne_iff_ne, ne_eq, inR, Bool.and_eq_true, Bool.and_eq_false_iff, Bool.not_eq_true', Bool.not_eq_false', Bool.not_eq_eq_eq_not, Bool.not_true, Bool.not_false] at *; omega))
(.path [1,0,1,1,1,1,0,1,1] (by kernel_rfl)
(.node (by kernel_rfl) (by kernel_rfl) (fun h0 =>
(.path (1 ::0 ::0 ::1 ::1 ::1 ::1 ::1 ::1 ::1 ::1 ::1 ::0 ::1 ::1 ::0 ::0 ::1 ::0 ::0 ::0 ::0 ::1 ::0 ::1 ::0 ::0 ::0 ::1 ::0 ::1 ::1 :: []) (by kernel_rfl)
(.leaf (by kernel_rfl)))) (fun h0 =>
(.node (by kernel_rfl) (by kernel_rfl) (fun h1 =>
(.path [1,1,1,1,0,1,1,0,0,1,0,0,0,0,1,0,1,1,0,1,0,1,1] (by kernel_rfl)
(.leaf (by kernel_rfl)))) (fun h1 =>
(.node (by kernel_rfl) (by kernel_rfl) (fun h2 =>
(.path [1,1,1,1,0,1,1,0,0,1,0,0,0,0,1,0,1,0,0,0,1,0,1,1] (by kernel_rfl)
(.leaf (by kernel_rfl)))) (fun h2 =>
(.path [1,0] (by kernel_rfl)
(.node (by kernel_rfl) (by kernel_rfl) (fun h3 =>
(.path [1,1,1,1,0,1,1,0,0,1,0,0,0,0,1,0,1,1,0,1,0,1,1] (by kernel_rfl)
(.leaf (by kernel_rfl)))) (fun h3 =>
(.node (by kernel_rfl) (by kernel_rfl) (fun h4 =>
(.path [1,1,0,1,1,0,0,1,0,0,0,0,1,0,1,1,0,1,0,1,1] (by kernel_rfl)
(.leaf (by kernel_rfl)))) (fun h4 =>
(.node (by kernel_rfl) (by kernel_rfl) (fun h5 =>
(.path [0] (by kernel_rfl)
(.node (by kernel_rfl) (by kernel_rfl) (fun h6 =>
(.path (1 ::1 ::1 ::1 ::1 ::1 ::1 ::1 ::1 ::1 ::1 ::0 ::1 ::1 ::0 ::0 ::1 ::0 ::0 ::0 ::0 ::1 ::0 ::1 ::0 ::0 ::0 ::1 ::0 ::1 ::1 :: []) (by kernel_rfl)
(.leaf (by kernel_rfl)))) (fun h6 =>
(.node (by kernel_rfl) (by kernel_rfl) (fun h7 =>
(.path [0] (by kernel_rfl)
(.node (by kernel_rfl) (by kernel_rfl) (fun h8 =>
(.path [1,1,1,1,1,1,1,1,0,1,1,0,0,1,0,0,0,0,1,0,1,0,0,0,1,0,1,1] (by kernel_rfl)
(.leaf (by kernel_rfl)))) (fun h8 =>
(.path [1,1] (by kernel_rfl)
(.node (by kernel_rfl) (by kernel_rfl) (fun h9 =>
(.path [1,1,1,1,1,0,1,1,0,0,1,0,0,0,0,1,0,1,0,0,0,1,0,1,1] (by kernel_rfl)
(.leaf (by kernel_rfl)))) (fun h9 =>
(.path [0,1,1,0,0,1,1] (by kernel_rfl)
(.pt (c := (decide ((0 : Int) ≤ IntKind.wrap .i64 (n3 + (1 : Int))) && decide (IntKind.wrap .i64 (n3 + (1 : Int)) ≤ (↑(List.length l0) : Int)))) (by kernel_rfl) (by kernel_rfl) (by (simp only [w64d, decide_eq_true_eq, decide_eq_false_iff_not, beq_iff_eq, beq_eq_false_iff_ne, bne_iff_ne, ne_eq, inR, Bool.and_eq_true, Bool.and_eq_false_iff, Bool.not_eq_true', Bool.not_eq_false', Bool.not_eq_eq_eq_not, Bool.not_true, Bool.not_false] at *; omega))
(.pt (c := (decide ((0 : Int) ≤ n1) && decide (n1 ≤ IntKind.wrap .i64 (n3 + (1 : Int))))) (by kernel_rfl) (by kernel_rfl) (by (simp only [w64d, decide_eq_true_eq, decide_eq_false_iff_not, beq_iff_eq, beq_eq_false_iff_ne, bne_iff_ne, ne_eq, inR, Bool.and_eq_true, Bool.and_eq_false_iff, Bool.not_eq_true', Bool.not_eq_false', Bool.not_eq_eq_eq_not, Bool.not_true, Bool.not_false] at *; omega))
(.node (by kernel_rfl) (by kernel_rfl) (fun h10 =>
(.path [1] (by kernel_rfl)
(.node (by kernel_rfl) (by kernel_rfl) (fun h11 =>
(.path [1,1,1,1,1,1] (by kernel_rfl)
(.leaf (by kernel_rfl)))) (fun h11 =>
(.pt (c := (decide ((0 : Int) ≤ IntKind.wrap .i64 (n3 + (1 : Int))) && decide (IntKind.wrap .i64 (n3 + (1 : Int)) ≤ (↑(List.length l0) : Int)))) (by kernel_rfl) (by kernel_rfl) (by (simp only [w64d, decide_eq_true_eq, decide_eq_false_iff_not, beq_iff_eq, beq_eq_false_iff_ne, bne_iff_ne, ne_eq, inR, Bool.and_eq_true, Bool.and_eq_false_iff, Bool.not_eq_true', Bool.not_eq_false', Bool.not_eq_eq_eq_not, Bool.not_true, Bool.not_false] at *; omega))
(.pt (c := (decide ((0 : Int) ≤ n1) && decide (n1 ≤ IntKind.wrap .i64 (n3 + (1 : Int))))) (by kernel_rfl) (by kernel_rfl) (by (simp only [w64d, decide_eq_true_eq, decide_eq_false_iff_not, beq_iff_eq, beq_eq_false_iff_ne, bne_iff_ne, ne_eq, inR, Bool.and_eq_true, Bool.and_eq_false_iff, Bool.not_eq_true', Bool.not_eq_false', Bool.not_eq_eq_eq_not, Bool.not_true, Bool.not_false] at *; omega))
(.node (by kernel_rfl) (by kernel_rfl) (fun h12 =>
(.path [1] (by kernel_rfl)
(.node (by kernel_rfl) (by kernel_rfl) (fun h13 =>
(.path [1,1,1,1] (by kernel_rfl)
(.leaf (by kernel_rfl)))) (fun h13 =>
(.path [0,0,1,0,1,1,1,1] (by kernel_rfl)
(.node (by kernel_rfl) (by kernel_rfl) (fun h14 =>
(.path [1] (by kernel_rfl)
(.leaf (by kernel_rfl)))) (fun h14 =>
(.path [1,0,1,0,0,0,1,0,1,1] (by kernel_rfl)
(.leaf (by kernel_rfl)))))))))) (fun h12 =>
.none)))))))) (fun h10 =>
.none)))))))))))) (fun h7 =>
.none)))))) (fun h5 =>
(.node (by kernel_rfl) (by kernel_rfl) (fun h6 =>
(.path [0] (by kernel_rfl)
(.node (by kernel_rfl) (by kernel_rfl) (fun h7 =>
(.path (1 ::1 ::1 ::1 ::1 ::1 ::1 ::1 ::1 ::1 ::1 ::0 ::1 ::1 ::0 ::0 ::1 ::0 ::0 ::0 ::0 ::1 ::0 ::1 ::0 ::0 ::0 ::1 ::0 ::1 ::1 :: []) (by kernel_rfl)
(.leaf (by kernel_rfl)))) (fun h7 =>
(.node (by kernel_rfl) (by kernel_rfl) (fun h8 =>
(.path [0] (by kernel_rfl)
(.node (by kernel_rfl) (by kernel_rfl) (fun h9 =>
(.path [1,1,1,1,1,1,1,1,0,1,1,0,0,1,0,0,0,0,1,0,1,0,0,0,1,0,1,1] (by kernel_rfl)
(.leaf (by kernel_rfl)))) (fun h9 =>
(.path [0,0,1,0,1] (by kernel_rfl)
(.pf (by kernel_rfl) (by kernel_rfl) h7
(.pt (by kernel_rfl) (by kernel_rfl) h8
(.path [1,1,0,1,1,0,0,1,0,0,0,0,1,0,1,1,0,1,0,1,1] (by kernel_rfl)
.none)))))))) (fun h8 =>
.none)))))) (fun h6 =>
.none)))))))))))))))))))

noncomputable def fn_L4_8_t2 : List Dat → Tree Step
  | [.l (Ty.pair (Ty.int IntKind.i64) (Ty.pair (Ty.int IntKind.i64) (Ty.pair (Ty.int IntKind.i64) (Ty.pair (Ty.int IntKind.i64) (Ty.pair (Ty.int IntKind.u64) (Ty.int IntKind.u32)))))) l0, .n n1, .n n2, .n n3, .n n4, .n n5, .n n6, .n n7] =>
    (.node (Int.tmod (IntKind.wrap .i64 (Int.tmod (Prod.fst (List.getD l0 (Int.toNat n3) (Ty.dflt (Ty.pair (Ty.int IntKind.i64) (Ty.pair (Ty.int IntKind.i64) (Ty.pair (Ty.int IntKind.i64) (Ty.pair (Ty.int IntKind.i64) (Ty.pair (Ty.int IntKind.u64) (Ty.int IntKind.u32))))))))) (6 : Int) + (6 : Int))) (6 : Int) == (3 : Int))
     (.leaf (Step.go [.k 0, .l (Ty.pair (Ty.int IntKind.i64) (Ty.pair (Ty.int IntKind.i64) (Ty.pair (Ty.int IntKind.i64) (Ty.pair (Ty.int IntKind.i64) (Ty.pair (Ty.int IntKind.u64) (Ty.int IntKind.u32)))))) l0, .n n1, .n n2, .b true, .n (IntKind.wrap .i64 (n3 + (1 : Int))), .b true, .n n2]))
     (.node (Int.tmod (IntKind.wrap .i64 (Int.tmod (Prod.fst (List.getD l0 (Int.toNat n3) (Ty.dflt (Ty.pair (Ty.int IntKind.i64) (Ty.pair (Ty.int IntKind.i64) (Ty.pair (Ty.int IntKind.i64) (Ty.pair (Ty.int IntKind.i64) (Ty.pair (Ty.int IntKind.u64) (Ty.int IntKind.u32))))))))) (6 : Int) + (6 : Int))) (6 : Int) == (4 : Int))
      (.leaf (Step.go [.k 0, .l (Ty.pair (Ty.int IntKind.i64) (Ty.pair (Ty.int IntKind.i64) (Ty.pair (Ty.int IntKind.i64) (Ty.pair (Ty.int IntKind.i64) (Ty.pair (Ty.int IntKind.u64) (Ty.int IntKind.u32)))))) l0, .n n3, .n n2, .b false, .n (IntKind.wrap .i64 (n3 + (1 : Int))), .b false, .n n2]))
      (.node (Int.tmod (IntKind.wrap .i64 (Int.tmod (Prod.fst (List.getD l0 (Int.toNat n3) (Ty.dflt (Ty.pair (Ty.int IntKind.i64) (Ty.pair (Ty.int IntKind.i64) (Ty.pair (Ty.int IntKind.i64) (Ty.pair (Ty.int IntKind.i64) (Ty.pair (Ty.int IntKind.u64) (Ty.int IntKind.u32))))))))) (6 : Int) + (6 : Int))) (6 : Int) == (5 : Int))
       (.leaf (Step.go [.k 0, .l (Ty.pair (Ty.int IntKind.i64) (Ty.pair (Ty.int IntKind.i64) (Ty.pair (Ty.int IntKind.i64) (Ty.pair (Ty.int IntKind.i64) (Ty.pair (Ty.int IntKind.u64) (Ty.int IntKind.u32)))))) l0, .n n3, .n n2, .b true, .n (IntKind.wrap .i64 (n3 + (1 : Int))), .b true, .n n2]))
       (.node (decide ((Prod.fst (Prod.snd (List.getD l0 (Int.toNat n3) (Ty.dflt (Ty.pair (Ty.int IntKind.i64) (Ty.pair (Ty.int IntKind.i64) (Ty.pair (Ty.int IntKind.i64) (Ty.pair (Ty.int IntKind.i64) (Ty.pair (Ty.int IntKind.u64) (Ty.int IntKind.u32))))))))) : Int) < (0 : Int)))
        (.leaf (Step.go [.k 2, .l (Ty.pair (Ty.int IntKind.i64) (Ty.pair (Ty.int IntKind.i64) (Ty.pair (Ty.int IntKind.i64) (Ty.pair (Ty.int IntKind.i64) (Ty.pair (Ty.int IntKind.u64) (Ty.int IntKind.u32)))))) l0, .n n1, .n n2, .b false, .n (IntKind.wrap .i64 (n3 + (1 : Int))), .b false, .n n2, .n n4, .n n5, .n n6, .n n7]))
        (.node (decide ((Prod.fst (Prod.snd (List.getD l0 (Int.toNat n3) (Ty.dflt (Ty.pair (Ty.int IntKind.i64) (Ty.pair (Ty.int IntKind.i64) (Ty.pair (Ty.int IntKind.i64) (Ty.pair (Ty.int IntKind.i64) (Ty.pair (Ty.int IntKind.u64) (Ty.int IntKind.u32))))))))) : Int) ≥ (2 : Int)))
         (.leaf (Step.go [.k 2, .l (Ty.pair (Ty.int IntKind.i64) (Ty.pair (Ty.int IntKind.i64) (Ty.pair (Ty.int IntKind.i64) (Ty.pair (Ty.int IntKind.i64) (Ty.pair (Ty.int IntKind.u64) (Ty.int IntKind.u32)))))) l0, .n n1, .n n2, .b false, .n (IntKind.wrap .i64 (n3 + (1 : Int))), .b false, .n n2, .n n4, .n n5, .n n6, .n n7]))
         (.node (decide (IntKind.wrap .i64 ((1 : Int) - (Prod.fst (Prod.snd (List.getD l0 (Int.toNat n3) (Ty.dflt (Ty.pair (Ty.int IntKind.i64) (Ty.pair (Ty.int IntKind.i64) (Ty.pair (Ty.int IntKind.i64) (Ty.pair (Ty.int IntKind.i64) (Ty.pair (Ty.int IntKind.u64) (Ty.int IntKind.u32))))))))) : Int)) = (0 : Int)))
          (.node (decide ((Prod.fst (Prod.snd (List.getD l0 (Int.toNat n3) (Ty.dflt (Ty.pair (Ty.int IntKind.i64) (Ty.pair (Ty.int IntKind.i64) (Ty.pair (Ty.int IntKind.i64) (Ty.pair (Ty.int IntKind.i64) (Ty.pair (Ty.int IntKind.u64) (Ty.int IntKind.u32))))))))) : Int) = (0 : Int)))
           (.node (decide ((Prod.fst (Prod.snd (Prod.snd (List.getD l0 (Int.toNat n3) (Ty.dflt (Ty.pair (Ty.int IntKind.i64) (Ty.pair (Ty.int IntKind.i64) (Ty.pair (Ty.int IntKind.i64) (Ty.pair (Ty.int IntKind.i64) (Ty.pair (Ty.int IntKind.u64) (Ty.int IntKind.u32)))))))))) : Int) ≤ n2))
            (.leaf (Step.go [.k 0, .l (Ty.pair (Ty.int IntKind.i64) (Ty.pair (Ty.int IntKind.i64) (Ty.pair (Ty.int IntKind.i64) (Ty.pair (Ty.int IntKind.i64) (Ty.pair (Ty.int IntKind.u64) (Ty.int IntKind.u32)))))) l0, .n n1, .n n2, .b true, .n (IntKind.wrap .i64 (n3 + (1 : Int))), .b true, .n n2]))
            (.bad 334))
           (.node (decide ((Prod.fst (Prod.snd (List.getD l0 (Int.toNat n3) (Ty.dflt (Ty.pair (Ty.int IntKind.i64) (Ty.pair (Ty.int IntKind.i64) (Ty.pair (Ty.int IntKind.i64) (Ty.pair (Ty.int IntKind.i64) (Ty.pair (Ty.int IntKind.u64) (Ty.int IntKind.u32))))))))) : Int) = (1 : Int)))
            (.leaf (Step.go [.k 0, .l (Ty.pair (Ty.int IntKind.i64) (Ty.pair (Ty.int IntKind.i64) (Ty.pair (Ty.int IntKind.i64) (Ty.pair (Ty.int IntKind.i64) (Ty.pair (Ty.int IntKind.u64) (Ty.int IntKind.u32)))))) l0, .n n1, .n n2, .b true, .n (IntKind.wrap .i64 (n3 + (1 : Int))), .b true, .n n2]))
            (.bad 70)))
          (.node (decide (IntKind.wrap .i64 ((1 : Int) - (Prod.fst (Prod.snd (List.getD l0 (Int.toNat n3) (Ty.dflt (Ty.pair (Ty.int IntKind.i64) (Ty.pair (Ty.int IntKind.i64) (Ty.pair (Ty.int IntKind.i64) (Ty.pair (Ty.int IntKind.i64) (Ty.pair (Ty.int IntKind.u64) (Ty.int IntKind.u32))))))))) : Int)) = (1 : Int)))
           (.node (decide ((Prod.fst (Prod.snd (List.getD l0 (Int.toNat n3) (Ty.dflt (Ty.pair (Ty.int IntKind.i64) (Ty.pair (Ty.int IntKind.i64) (Ty.pair (Ty.int IntKind.i64) (Ty.pair (Ty.int IntKind.i64) (Ty.pair (Ty.int IntKind.u64) (Ty.int IntKind.u32))))))))) : Int) = (0 : Int)))
            (.node (decide ((Prod.fst (Prod.snd (Prod.snd (List.getD l0 (Int.toNat n3) (Ty.dflt (Ty.pair (Ty.int IntKind.i64) (Ty.pair (Ty.int IntKind.i64) (Ty.pair (Ty.int IntKind.i64) (Ty.pair (Ty.int IntKind.i64) (Ty.pair (Ty.int IntKind.u64) (Ty.int IntKind.u32)))))))))) : Int) ≤ n2))
             (.leaf (Step.go [.k 0, .l (Ty.pair (Ty.int IntKind.i64) (Ty.pair (Ty.int IntKind.i64) (Ty.pair (Ty.int IntKind.i64) (Ty.pair (Ty.int IntKind.i64) (Ty.pair (Ty.int IntKind.u64) (Ty.int IntKind.u32)))))) l0, .n n1, .n n2, .b true, .n (IntKind.wrap .i64 (n3 + (1 : Int))), .b true, .n n2]))
             (.node (!(n4 == Prod.fst (Prod.snd (Prod.snd (List.getD l0 (Int.toNat n3) (Ty.dflt (Ty.pair (Ty.int IntKind.i64) (Ty.pair (Ty.int IntKind.i64) (Ty.pair (Ty.int IntKind.i64) (Ty.pair (Ty.int IntKind.i64) (Ty.pair (Ty.int IntKind.u64) (Ty.int IntKind.u32)))))))))) && (n5 == Prod.fst (Prod.snd (Prod.snd (Prod.snd (List.getD l0 (Int.toNat n3) (Ty.dflt (Ty.pair (Ty.int IntKind.i64) (Ty.pair (Ty.int IntKind.i64) (Ty.pair (Ty.int IntKind.i64) (Ty.pair (Ty.int IntKind.i64) (Ty.pair (Ty.int IntKind.u64) (Ty.int IntKind.u32))))))))))) && (n6 == Prod.fst (Prod.snd (Prod.snd (Prod.snd (Prod.snd (List.getD l0 (Int.toNat n3) (Ty.dflt (Ty.pair (Ty.int IntKind.i64) (Ty.pair (Ty.int IntKind.i64) (Ty.pair (Ty.int IntKind.i64) (Ty.pair (Ty.int IntKind.i64) (Ty.pair (Ty.int IntKind.u64) (Ty.int IntKind.u32)))))))))))) && (n7 == Prod.snd (Prod.snd (Prod.snd (Prod.snd (Prod.snd (List.getD l0 (Int.toNat n3) (Ty.dflt (Ty.pair (Ty.int IntKind.i64) (Ty.pair (Ty.int IntKind.i64) (Ty.pair (Ty.int IntKind.i64) (Ty.pair (Ty.int IntKind.i64) (Ty.pair (Ty.int IntKind.u64) (Ty.int IntKind.u32)))))))))))) && true) && true))))
              (.leaf (Step.go [.k 0, .l (Ty.pair (Ty.int IntKind.i64) (Ty.pair (Ty.int IntKind.i64) (Ty.pair (Ty.int IntKind.i64) (Ty.pair (Ty.int IntKind.i64) (Ty.pair (Ty.int IntKind.u64) (Ty.int IntKind.u32)))))) l0, .n n1, .n n2, .b true, .n (IntKind.wrap .i64 (n3 + (1 : Int))), .b true, .n n2]))
              (let r1 : Option (Nat × List Dat) := (op_26 [.l (Ty.pair (Ty.int IntKind.i64) (Ty.pair (Ty.int IntKind.i64) (Ty.pair (Ty.int IntKind.i64) (Ty.pair (Ty.int IntKind.i64) (Ty.pair (Ty.int IntKind.u64) (Ty.int IntKind.u32)))))) (List.drop (Int.toNat n1) (List.take (Int.toNat (IntKind.wrap .i64 (n3 + (1 : Int)))) l0)), .n (0 : Int), .n (Prod.fst (Prod.snd (Prod.snd (List.getD l0 (Int.toNat n3) (Ty.dflt (Ty.pair (Ty.int IntKind.i64) (Ty.pair (Ty.int IntKind.i64) (Ty.pair (Ty.int IntKind.i64) (Ty.pair (Ty.int IntKind.i64) (Ty.pair (Ty.int IntKind.u64) (Ty.int IntKind.u32))))))))))), .n (Prod.fst (Prod.snd (Prod.snd (Prod.snd (List.getD l0 (Int.toNat n3) (Ty.dflt (Ty.pair (Ty.int IntKind.i64) (Ty.pair (Ty.int IntKind.i64) (Ty.pair (Ty.int IntKind.i64) (Ty.pair (Ty.int IntKind.i64) (Ty.pair (Ty.int IntKind.u64) (Ty.int IntKind.u32)))))))))))), .n (Prod.fst (Prod.snd (Prod.snd (Prod.snd (Prod.snd (List.getD l0 (Int.toNat n3) (Ty.dflt (Ty.pair (Ty.int IntKind.i64) (Ty.pair (Ty.int IntKind.i64) (Ty.pair (Ty.int IntKind.i64) (Ty.pair (Ty.int IntKind.i64) (Ty.pair (Ty.int IntKind.u64) (Ty.int IntKind.u32))))))))))))), .n (Prod.snd (Prod.snd (Prod.snd (Prod.snd (Prod.snd (List.getD l0 (Int.toNat n3) (Ty.dflt (Ty.pair (Ty.int IntKind.i64) (Ty.pair (Ty.int IntKind.i64) (Ty.pair (Ty.int IntKind.i64) (Ty.pair (Ty.int IntKind.i64) (Ty.pair (Ty.int IntKind.u64) (Ty.int IntKind.u32)))))))))))))]);
               (.node (isK 0 [HK.b] r1)
                (.node (!gb (dOf r1) 0)
                 (.leaf (Step.stop 3 [.b false]))
                 (let r2 : Option (Nat × List Dat) := (op_26 [.l (Ty.pair (Ty.int IntKind.i64) (Ty.pair (Ty.int IntKind.i64) (Ty.pair (Ty.int IntKind.i64) (Ty.pair (Ty.int IntKind.i64) (Ty.pair (Ty.int IntKind.u64) (Ty.int IntKind.u32)))))) (List.drop (Int.toNat n1) (List.take (Int.toNat (IntKind.wrap .i64 (n3 + (1 : Int)))) l0)), .n (1 : Int), .n (Prod.fst (Prod.snd (Prod.snd (List.getD l0 (Int.toNat n3) (Ty.dflt (Ty.pair (Ty.int IntKind.i64) (Ty.pair (Ty.int IntKind.i64) (Ty.pair (Ty.int IntKind.i64) (Ty.pair (Ty.int IntKind.i64) (Ty.pair (Ty.int IntKind.u64) (Ty.int IntKind.u32))))))))))), .n (Prod.fst (Prod.snd (Prod.snd (Prod.snd (List.getD l0 (Int.toNat n3) (Ty.dflt (Ty.pair (Ty.int IntKind.i64) (Ty.pair (Ty.int IntKind.i64) (Ty.pair (Ty.int IntKind.i64) (Ty.pair (Ty.int IntKind.i64) (Ty.pair (Ty.int IntKind.u64) (Ty.int IntKind.u32)))))))))))), .n (Prod.fst (Prod.snd (Prod.snd (Prod.snd (Prod.snd (List.getD l0 (Int.toNat n3) (Ty.dflt (Ty.pair (Ty.int IntKind.i64) (Ty.pair (Ty.int IntKind.i64) (Ty.pair (Ty.int IntKind.i64) (Ty.pair (Ty.int IntKind.i64) (Ty.pair (Ty.int IntKind.u64) (Ty.int IntKind.u32))))))))))))), .n (Prod.snd (Prod.snd (Prod.snd (Prod.snd (Prod.snd (List.getD l0 (Int.toNat n3) (Ty.dflt (Ty.pair (Ty.int IntKind.i64) (Ty.pair (Ty.int IntKind.i64) (Ty.pair (Ty.int IntKind.i64) (Ty.pair (Ty.int IntKind.i64) (Ty.pair (Ty.int IntKind.u64) (Ty.int IntKind.u32)))))))))))))]);
                  (.node (isK 0 [HK.b] r2)
                   (.node (!gb (dOf r2) 0)
                    (.leaf (Step.stop 3 [.b false]))
                    (.node (decide ((Prod.fst (Prod.snd (Prod.snd (List.getD l0 (Int.toNat n3) (Ty.dflt (Ty.pair (Ty.int IntKind.i64) (Ty.pair (Ty.int IntKind.i64) (Ty.pair (Ty.int IntKind.i64) (Ty.pair (Ty.int IntKind.i64) (Ty.pair (Ty.int IntKind.u64) (Ty.int IntKind.u32)))))))))) : Int) ≤ n2))
                     (.leaf (Step.stop 3 [.b false]))
                     (.leaf (Step.go [.k 3, .l (Ty.pair (Ty.int IntKind.i64) (Ty.pair (Ty.int IntKind.i64) (Ty.pair (Ty.int IntKind.i64) (Ty.pair (Ty.int IntKind.i64) (Ty.pair (Ty.int IntKind.u64) (Ty.int IntKind.u32)))))) l0, .n n1, .n (Prod.fst (Prod.snd (Prod.snd (List.getD l0 (Int.toNat n3) (Ty.dflt (Ty.pair (Ty.int IntKind.i64) (Ty.pair (Ty.int IntKind.i64) (Ty.pair (Ty.int IntKind.i64) (Ty.pair (Ty.int IntKind.i64) (Ty.pair (Ty.int IntKind.u64) (Ty.int IntKind.u32))))))))))), .b false, .n (IntKind.wrap .i64 (n3 + (1 : Int))), .b false, .n (Prod.fst (Prod.snd (Prod.snd (List.getD l0 (Int.toNat n3) (Ty.dflt (Ty.pair (Ty.int IntKind.i64) (Ty.pair (Ty.int IntKind.i64) (Ty.pair (Ty.int IntKind.i64) (Ty.pair (Ty.int IntKind.i64) (Ty.pair (Ty.int IntKind.u64) (Ty.int IntKind.u32))))))))))), .n (Prod.fst (Prod.snd (Prod.snd (List.getD l0 (Int.toNat n3) (Ty.dflt (Ty.pair (Ty.int IntKind.i64) (Ty.pair (Ty.int IntKind.i64) (Ty.pair (Ty.int IntKind.i64) (Ty.pair (Ty.int IntKind.i64) (Ty.pair (Ty.int IntKind.u64) (Ty.int IntKind.u32))))))))))), .n (Prod.fst (Prod.snd (Prod.snd (Prod.snd (List.getD l0 (Int.toNat n3) (Ty.dflt (Ty.pair (Ty.int IntKind.i64) (Ty.pair (Ty.int IntKind.i64) (Ty.pair (Ty.int IntKind.i64) (Ty.pair (Ty.int IntKind.i64) (Ty.pair (Ty.int IntKind.u64) (Ty.int IntKind.u32)))))))))))), .n (Prod.fst (Prod.snd (Prod.snd (Prod.snd (Prod.snd (List.getD l0 (Int.toNat n3) (Ty.dflt (Ty.pair (Ty.int IntKind.i64) (Ty.pair (Ty.int IntKind.i64) (Ty.pair (Ty.int IntKind.i64) (Ty.pair (Ty.int IntKind.i64) (Ty.pair (Ty.int IntKind.u64) (Ty.int IntKind.u32))))))))))))), .n (Prod.snd (Prod.snd (Prod.snd (Prod.snd (Prod.snd (List.getD l0 (Int.toNat n3) (Ty.dflt (Ty.pair (Ty.int IntKind.i64) (Ty.pair (Ty.int IntKind.i64) (Ty.pair (Ty.int IntKind.i64) (Ty.pair (Ty.int IntKind.i64) (Ty.pair (Ty.int IntKind.u64) (Ty.int IntKind.u32)))))))))))))]))))
                   (.bad 351))))
                (.bad 351)))))
            (.node (decide ((Prod.fst (Prod.snd (List.getD l0 (Int.toNat n3) (Ty.dflt (Ty.pair (Ty.int IntKind.i64) (Ty.pair (Ty.int IntKind.i64) (Ty.pair (Ty.int IntKind.i64) (Ty.pair (Ty.int IntKind.i64) (Ty.pair (Ty.int IntKind.u64) (Ty.int IntKind.u32))))))))) : Int) = (1 : Int)))
             (.leaf (Step.go [.k 0, .l (Ty.pair (Ty.int IntKind.i64) (Ty.pair (Ty.int IntKind.i64) (Ty.pair (Ty.int IntKind.i64) (Ty.pair (Ty.int IntKind.i64) (Ty.pair (Ty.int IntKind.u64) (Ty.int IntKind.u32)))))) l0, .n n1, .n n2, .b true, .n (IntKind.wrap .i64 (n3 + (1 : Int))), .b true, .n n2]))
             (.bad 70)))
           (.bad 70))))))))
  | _ => .bad 0
theorem fn_L4_8_t2_im (l0 : List (Ty.den (Ty.pair (Ty.int IntKind.i64) (Ty.pair (Ty.int IntKind.i64) (Ty.pair (Ty.int IntKind.i64) (Ty.pair (Ty.int IntKind.i64) (Ty.pair (Ty.int IntKind.u64) (Ty.int IntKind.u32)))))))) (n1 : Int) (n2 : Int) (n3 : Int) (n4 : Int) (n5 : Int) (n6 : Int) (n7 : Int) (g0 : 0 ≤ n1) (g1 :  n1 ≤ n3) (g2 :  n3 < (l0.length : Int)) (g3 :  l0.length ≤ 200) : Imp (fn_L4_8_t2 [.l (Ty.pair (Ty.int IntKind.i64) (Ty.pair (Ty.int IntKind.i64) (Ty.pair (Ty.int IntKind.i64) (Ty.pair (Ty.int IntKind.i64) (Ty.pair (Ty.int IntKind.u64) (Ty.int IntKind.u32)))))) l0, .n n1, .n n2, .n n3, .n n4, .n n5, .n n6, .n n7]) (st_L4_8 [.k 2, .l TCl l0, .n n1, .n n2, .b false, .n n3, .b false, .n n2, .n n4, .n n5, .n n6, .n n7]) :=
(.path [1] (by kernel_rfl)
(.pt (c := (decide (n3 < (↑(List.length l0) : Int)))) (by kernel_rfl) (by kernel_rfl) (by (simp [*]; done))
(.pt (c := (inR n3 (List.length l0))) (by kernel_rfl) (by kernel_rfl) (by (simp only [w64d, decide_eq_true_eq, decide_eq_false_iff_not, beq_iff_eq, beq_eq_false_iff_ne, bne_iff_ne, ne_eq, inR, Bool.and_eq_true, Bool.and_eq_false_iff, Bool.not_eq_true', Bool.not_eq_false', Bool.not_eq_eq_eq_not, Bool.not_true, Bool.not_false] at *; omega))
(.path [1,0,1,1,1,1,0,1,1] (by kernel_rfl)
(.node (by kernel_rfl) (by kernel_rfl) (fun h0 =>
(.path (1 ::0 ::0 ::1 ::0 ::0 ::1 ::1 ::1 ::1 ::1 ::1 ::1 ::0 ::1 ::1 ::0 ::0 ::1 ::0 ::0 ::0 ::0 ::1 ::0 ::1 ::0 ::0 ::0 ::1 ::0 ::1 ::1 :: []) (by kernel_rfl)
(.leaf (by kernel_rfl)))) (fun h0 =>
(.node (by kernel_rfl) (by kernel_rfl) (fun h1 =>
(.path [1,1,1,1,0,1,1,0,0,1,0,0,0,0,1,0,1,1,0,1,0,1,1] (by kernel_rfl)
(.leaf (by kernel_rfl)))) (fun h1 =>
(.node (by kernel_rfl) (by kernel_rfl) (fun h2 =>
(.path [1,1,1,1,0,1,1,0,0,1,0,0,0,0,1,0,1,0,0,0,1,0,1,1] (by kernel_rfl)
(.leaf (by kernel_rfl)))) (fun h2 =>
(.path [1,0] (by kernel_rfl)
(.node (by kernel_rfl) (by kernel_rfl) (fun h3 =>
(.path [1,1,1,1,0,1,1,0,0,1,0,0,0,0,1,0,1,1,0,1,0,1,1] (by kernel_rfl)
(.leaf (by kernel_rfl)))) (fun h3 =>
(.node (by kernel_rfl) (by kernel_rfl) (fun h4 =>
(.path [1,1,0,1,1,0,0,1,0,0,0,0,1,0,1,1,0,1,0,1,1] (by kernel_rfl)
(.leaf (by kernel_rfl)))) (fun h4 =>
(.node (by kernel_rfl) (by kernel_rfl) (fun h5 =>
(.path [0] (by kernel_rfl)
(.node (by kernel_rfl) (by kernel_rfl) (fun h6 =>
(.path [0] (by kernel_rfl)
(.node (by kernel_rfl) (by kernel_rfl) (fun h7 =>
(.path [1,1,1,1,1,1,1,1,0,1,1,0,0,1,0,0,0,0,1,0,1,0,0,0,1,0,1,1] (by kernel_rfl)
(.leaf (by kernel_rfl)))) (fun h7 =>
(.path [0,0,1,0,1] (by kernel_rfl)
(.pt (by kernel_rfl) (by kernel_rfl) h6
(.path [1,1,0,1,1,0,0,1,0,0,0,0,1,0,1,1,0,1,0,1,1] (by kernel_rfl)
.none))))))) (fun h6 =>
(.node (by kernel_rfl) (by kernel_rfl) (fun h7 =>
(.path (1 ::1 ::1 ::1 ::1 ::1 ::1 ::1 ::1 ::1 ::1 ::0 ::1 ::1 ::0 ::0 ::1 ::0 ::0 ::0 ::0 ::1 ::0 ::1 ::0 ::0 ::0 ::1 ::0 ::1 ::1 :: []) (by kernel_rfl)
(.leaf (by kernel_rfl)))) (fun h7 =>
.none)))))) (fun h5 =>
(.node (by kernel_rfl) (by kernel_rfl) (fun h6 =>
(.path [0] (by kernel_rfl)
(.node (by kernel_rfl) (by kernel_rfl) (fun h7 =>
(.path [0] (by kernel_rfl)
(.node (by kernel_rfl) (by kernel_rfl) (fun h8 =>
(.path [1,1,1,1,1,1,1,1,0,1,1,0,0,1,0,0,0,0,1,0,1,0,0,0,1,0,1,1] (by kernel_rfl)
(.leaf (by kernel_rfl)))) (fun h8 =>
(.path [1,1] (by kernel_rfl)
(.node (by kernel_rfl) (by kernel_rfl) (fun h9 =>
(.path [1,1,1,1,1,0,1,1,0,0,1,0,0,0,0,1,0,1,0,0,0,1,0,1,1] (by kernel_rfl)
(.leaf (by kernel_rfl)))) (fun h9 =>
(.path [0,1,1,0,0,1,1] (by kernel_rfl)
(.pt (c := (decide ((0 : Int) ≤ IntKind.wrap .i64 (n3 + (1 : Int))) && decide (IntKind.wrap .i64 (n3 + (1 : Int)) ≤ (↑(List.length l0) : Int)))) (by kernel_rfl) (by kernel_rfl) (by (simp only [w64d, decide_eq_true_eq, decide_eq_false_iff_not, beq_iff_eq, beq_eq_false_iff_ne, bne_iff_ne, ne_eq, inR, Bool.and_eq_true, Bool.and_eq_false_iff, Bool.not_eq_true', Bool.not_eq_false', Bool.not_eq_eq_eq_not, Bool.not_true, Bool.not_false] at *; omega))
(.pt (c := (decide ((0 : Int) ≤ n1) && decide (n1 ≤ IntKind.wrap .i64 (n3 + (1 : Int))))) (by kernel_rfl) (by kernel_rfl) (by (simp only [w64d, decide_eq_true_eq, decide_eq_false_iff_not, beq_iff_eq, beq_eq_false_iff_ne, bne_iff_ne, ne_eq, inR, Bool.and_eq_true, Bool.and_eq_false_iff, Bool.not_eq_true', Bool.not_eq_false', Bool.not_eq_eq_eq_not, Bool.not_true, Bool.not_false] at *; omega))
(.node (by kernel_rfl) (by kernel_rfl) (fun h10 =>
(.path [1] (by kernel_rfl)
(.node (by kernel_rfl) (by kernel_rfl) (fun h11 =>
(.path [1,1,1,1,1,1] (by kernel_rfl)
(.leaf (by kernel_rfl)))) (fun h11 =>
(.pt (c := (decide ((0 : Int) ≤ IntKind.wrap .i64 (n3 + (1 : Int))) && decide (IntKind.wrap .i64 (n3 + (1 : Int)) ≤ (↑(List.length l0) : Int)))) (by kernel_rfl) (by kernel_rfl) (by (simp only [w64d, decide_eq_true_eq, decide_eq_false_iff_not, beq_iff_eq, beq_eq_false_iff_ne, bne_iff_ne, ne_eq, inR, Bool.and_eq_true, Bool.and_eq_false_iff, Bool.not_eq_true', Bool.not_eq_false', Bool.not_eq_eq_eq_not, Bool.not_true, Bool.not_false] at *; omega))
(.pt (c := (decide ((0 : Int) ≤ n1) && decide (n1 ≤ IntKind.wrap .i64 (n3 + (1 : Int))))) (by kernel_rfl) (by kernel_rfl) (by (simp only [w64d, decide_eq_true_eq, decide_eq_false_iff_not, beq_iff_eq, beq_eq_false_iff_ne, bne_iff_ne, ne_eq, inR, Bool.and_eq_true, Bool.and_eq_false_iff, Bool.not_eq_true', Bool.not_eq_false', Bool.not_eq_eq_eq_not, Bool.not_true, Bool.not_false] at *; omega))
(.node (by kernel_rfl) (by kernel_rfl) (fun h12 =>
(.path [1] (by kernel_rfl)
(.node (by kernel_rfl) (by kernel_rfl) (fun h13 =>
(.path [1,1,1,1] (by kernel_rfl)
(.leaf (by kernel_rfl)))) (fun h13 =>
(.path [0,0,1,0,1,1,1,1] (by kernel_rfl)
(.node (by kernel_rfl) (by kernel_rfl) (fun h14 =>
(.path [1] (by kernel_rfl)
(.leaf (by kernel_rfl)))) (fun h14 =>
(.path [1,0,1,0,0,0,1,0,1,1] (by kernel_rfl)
(.leaf (by kernel_rfl)))))))))) (fun h12 =>
.none)))))))) (fun h10 =>
.none)))))))))))) (fun h7 =>
(.node (by kernel_rfl) (by kernel_rfl) (fun h8 =>
(.path (1 ::1 ::1 ::1 ::1 ::1 ::1 ::1 ::1 ::1 ::1 ::0 ::1 ::1 ::0 ::0 ::1 ::0 ::0 ::0 ::0 ::1 ::0 ::1 ::0 ::0 ::0 ::1 ::0 ::1 ::1 :: []) (by kernel_rfl)
(.leaf (by kernel_rfl)))) (fun h8 =>
.none)))))) (fun h6 =>
.none)))))))))))))))))))

noncomputable def fn_L4_8_t3 : List Dat → Tree Step
  | [.l (Ty.pair (Ty.int IntKind.i64) (Ty.pair (Ty.int IntKind.i64) (Ty.pair (Ty.int IntKind.i64) (Ty.pair (Ty.int IntKind.i64) (Ty.pair (Ty.int IntKind.u64) (Ty.int IntKind.u32)))))) l0, .n n1, .n n2, .n n3, .n n4, .n n5, .n n6] =>
    (.node (Int.tmod (IntKind.wrap .i64 (Int.tmod (Prod.fst (List.getD l0 (Int.toNat n3) (Ty.dflt (Ty.pair (Ty.int IntKind.i64) (Ty.pair (Ty.int IntKind.i64) (Ty.pair (Ty.int IntKind.i64) (Ty.pair (Ty.int IntKind.i64) (Ty.pair (Ty.int IntKind.u64) (Ty.int IntKind.u32))))))))) (6 : Int) + (6 : Int))) (6 : Int) == (3 : Int))
     (let r1 : Option (Nat × List Dat) := (op_26 [.l (Ty.pair (Ty.int IntKind.i64) (Ty.pair (Ty.int IntKind.i64) (Ty.pair (Ty.int IntKind.i64) (Ty.pair (Ty.int IntKind.i64) (Ty.pair (Ty.int IntKind.u64) (Ty.int IntKind.u32)))))) (List.drop (Int.toNat n1) (List.take (Int.toNat (IntKind.wrap .i64 (n3 + (1 : Int)))) l0)), .n (0 : Int), .n n2, .n n4, .n n5, .n n6]);
      (.node (isK 0 [HK.b] r1)
       (.node (!gb (dOf r1) 0)
        (.leaf (Step.stop 3 [.b false]))
        (let r2 : Option (Nat × List Dat) := (op_26 [.l (Ty.pair (Ty.int IntKind.i64) (Ty.pair (Ty.int IntKind.i64) (Ty.pair (Ty.int IntKind.i64) (Ty.pair (Ty.int IntKind.i64) (Ty.pair (Ty.int IntKind.u64) (Ty.int IntKind.u32)))))) (List.drop (Int.toNat n1) (List.take (Int.toNat (IntKind.wrap .i64 (n3 + (1 : Int)))) l0)), .n (1 : Int), .n n2, .n n4, .n n5, .n n6]);
         (.node (isK 0 [HK.b] r2)
          (.node (!gb (dOf r2) 0)
           (.leaf (Step.stop 3 [.b false]))
           (.leaf (Step.go [.k 3, .l (Ty.pair (Ty.int IntKind.i64) (Ty.pair (Ty.int IntKind.i64) (Ty.pair (Ty.int IntKind.i64) (Ty.pair (Ty.int IntKind.i64) (Ty.pair (Ty.int IntKind.u64) (Ty.int IntKind.u32)))))) l0, .n n1, .n n2, .b false, .n (IntKind.wrap .i64 (n3 + (1 : Int))), .b false, .n n2, .n n2, .n n4, .n n5, .n n6])))
          (.bad 351))))
       (.bad 351)))
     (.node (Int.tmod (IntKind.wrap .i64 (Int.tmod (Prod.fst (List.getD l0 (Int.toNat n3) (Ty.dflt (Ty.pair (Ty.int IntKind.i64) (Ty.pair (Ty.int IntKind.i64) (Ty.pair (Ty.int IntKind.i64) (Ty.pair (Ty.int IntKind.i64) (Ty.pair (Ty.int IntKind.u64) (Ty.int IntKind.u32))))))))) (6 : Int) + (6 : Int))) (6 : Int) == (4 : Int))
      (.leaf (Step.go [.k 0, .l (Ty.pair (Ty.int IntKind.i64) (Ty.pair (Ty.int IntKind.i64) (Ty.pair (Ty.int IntKind.i64) (Ty.pair (Ty.int IntKind.i64) (Ty.pair (Ty.int IntKind.u64) (Ty.int IntKind.u32)))))) l0, .n n3, .n n2, .b false, .n (IntKind.wrap .i64 (n3 + (1 : Int))), .b false, .n n2]))
      (.node (Int.tmod (IntKind.wrap .i64 (Int.tmod (Prod.fst (List.getD l0 (Int.toNat n3) (Ty.dflt (Ty.pair (Ty.int IntKind.i64) (Ty.pair (Ty.int IntKind.i64) (Ty.pair (Ty.int IntKind.i64) (Ty.pair (Ty.int IntKind.i64) (Ty.pair (Ty.int IntKind.u64) (Ty.int IntKind.u32))))))))) (6 : Int) + (6 : Int))) (6 : Int) == (5 : Int))
       (.leaf (Step.go [.k 0, .l (Ty.pair (Ty.int IntKind.i64) (Ty.pair (Ty.int IntKind.i64) (Ty.pair (Ty.int IntKind.i64) (Ty.pair (Ty.int IntKind.i64) (Ty.pair (Ty.int IntKind.u64) (Ty.int IntKind.u32)))))) l0, .n n3, .n n2, .b true, .n (IntKind.wrap .i64 (n3 + (1 : Int))), .b true, .n n2]))
       (.node (decide ((Prod.fst (Prod.snd (List.getD l0 (Int.toNat n3) (Ty.dflt (Ty.pair (Ty.int IntKind.i64) (Ty.pair (Ty.int IntKind.i64) (Ty.pair (Ty.int IntKind.i64) (Ty.pair (Ty.int IntKind.i64) (Ty.pair (Ty.int IntKind.u64) (Ty.int IntKind.u32))))))))) : Int) < (0 : Int)))
        (let r1 : Option (Nat × List Dat) := (op_26 [.l (Ty.pair (Ty.int IntKind.i64) (Ty.pair (Ty.int IntKind.i64) (Ty.pair (Ty.int IntKind.i64) (Ty.pair (Ty.int IntKind.i64) (Ty.pair (Ty.int IntKind.u64) (Ty.int IntKind.u32)))))) (List.drop (Int.toNat n1) (List.take (Int.toNat (IntKind.wrap .i64 (n3 + (1 : Int)))) l0)), .n (0 : Int), .n n2, .n n4, .n n5, .n n6]);
         (.node (isK 0 [HK.b] r1)
          (.node (!gb (dOf r1) 0)
           (.leaf (Step.stop 3 [.b false]))
           (let r2 : Option (Nat × List Dat) := (op_26 [.l (Ty.pair (Ty.int IntKind.i64) (Ty.pair (Ty.int IntKind.i64) (Ty.pair (Ty.int IntKind.i64) (Ty.pair (Ty.int IntKind.i64) (Ty.pair (Ty.int IntKind.u64) (Ty.int IntKind.u32)))))) (List.drop (Int.toNat n1) (List.take (Int.toNat (IntKind.wrap .i64 (n3 + (1 : Int)))) l0)), .n (1 : Int), .n n2, .n n4, .n n5, .n n6]);
            (.node (isK 0 [HK.b] r2)
             (.node (!gb (dOf r2) 0)
              (.leaf (Step.stop 3 [.b false]))
              (.leaf (Step.go [.k 3, .l (Ty.pair (Ty.int IntKind.i64) (Ty.pair (Ty.int IntKind.i64) (Ty.pair (Ty.int IntKind.i64) (Ty.pair (Ty.int IntKind.i64) (Ty.pair (Ty.int IntKind.u64) (Ty.int IntKind.u32)))))) l0, .n n1, .n n2, .b false, .n (IntKind.wrap .i64 (n3 + (1 : Int))), .b false, .n n2, .n n2, .n n4, .n n5, .n n6])))
             (.bad 351))))
          (.bad 351)))
        (.node (decide ((Prod.fst (Prod.snd (List.getD l0 (Int.toNat n3) (Ty.dflt (Ty.pair (Ty.int IntKind.i64) (Ty.pair (Ty.int IntKind.i64) (Ty.pair (Ty.int IntKind.i64) (Ty.pair (Ty.int IntKind.i64) (Ty.pair (Ty.int IntKind.u64) (Ty.int IntKind.u32))))))))) : Int) ≥ (2 : Int)))
         (let r1 : Option (Nat × List Dat) := (op_26 [.l (Ty.pair (Ty.int IntKind.i64) (Ty.pair (Ty.int IntKind.i64) (Ty.pair (Ty.int IntKind.i64) (Ty.pair (Ty.int IntKind.i64) (Ty.pair (Ty.int IntKind.u64) (Ty.int IntKind.u32)))))) (List.drop (Int.toNat n1) (List.take (Int.toNat (IntKind.wrap .i64 (n3 + (1 : Int)))) l0)), .n (0 : Int), .n n2, .n n4, .n n5, .n n6]);
          (.node (isK 0 [HK.b] r1)
           (.node (!gb (dOf r1) 0)
            (.leaf (Step.stop 3 [.b false]))
            (let r2 : Option (Nat × List Dat) := (op_26 [.l (Ty.pair (Ty.int IntKind.i64) (Ty.pair (Ty.int IntKind.i64) (Ty.pair (Ty.int IntKind.i64) (Ty.pair (Ty.int IntKind.i64) (Ty.pair (Ty.int IntKind.u64) (Ty.int IntKind.u32)))))) (List.drop (Int.toNat n1) (List.take (Int.toNat (IntKind.wrap .i64 (n3 + (1 : Int)))) l0)), .n (1 : Int), .n n2, .n n4, .n n5, .n n6]);
             (.node (isK 0 [HK.b] r2)
              (.node (!gb (dOf r2) 0)
               (.leaf (Step.stop 3 [.b false]))
               (.leaf (Step.go [.k 3, .l (Ty.pair (Ty.int IntKind.i64) (Ty.pair (Ty.int IntKind.i64) (Ty.pair (Ty.int IntKind.i64) (Ty.pair (Ty.int IntKind.i64) (Ty.pair (Ty.int IntKind.u64) (Ty.int IntKind.u32)))))) l0, .n n1, .n n2, .b false, .n (IntKind.wrap .i64 (n3 + (1 : Int))), .b false, .n n2, .n n2, .n n4, .n n5, .n n6])))
              (.bad 351))))
           (.bad 351)))
         (.node (decide (IntKind.wrap .i64 ((1 : Int) - (Prod.fst (Prod.snd (List.getD l0 (Int.toNat n3) (Ty.dflt (Ty.pair (Ty.int IntKind.i64) (Ty.pair (Ty.int IntKind.i64) (Ty.pair (Ty.int IntKind.i64) (Ty.pair (Ty.int IntKind.i64) (Ty.pair (Ty.int IntKind.u64) (Ty.int IntKind.u32))))))))) : Int)) = (0 : Int)))
          (.node (decide ((Prod.fst (Prod.snd (List.getD l0 (Int.toNat n3) (Ty.dflt (Ty.pair (Ty.int IntKind.i64) (Ty.pair (Ty.int IntKind.i64) (Ty.pair (Ty.int IntKind.i64) (Ty.pair (Ty.int IntKind.i64) (Ty.pair (Ty.int IntKind.u64) (Ty.int IntKind.u32))))))))) : Int) = (0 : Int)))
           (.node (decide ((Prod.fst (Prod.snd (Prod.snd (List.getD l0 (Int.toNat n3) (Ty.dflt (Ty.pair (Ty.int IntKind.i64) (Ty.pair (Ty.int IntKind.i64) (Ty.pair (Ty.int IntKind.i64) (Ty.pair (Ty.int IntKind.i64) (Ty.pair (Ty.int IntKind.u64) (Ty.int IntKind.u32)))))))))) : Int) ≤ n2))
            (.leaf (Step.go [.k 0, .l (Ty.pair (Ty.int IntKind.i64) (Ty.pair (Ty.int IntKind.i64) (Ty.pair (Ty.int IntKind.i64) (Ty.pair (Ty.int IntKind.i64) (Ty.pair (Ty.int IntKind.u64) (Ty.int IntKind.u32)))))) l0, .n n1, .n n2, .b true, .n (IntKind.wrap .i64 (n3 + (1 : Int))), .b true, .n n2]))
            (let r1 : Option (Nat × List Dat) := (op_26 [.l (Ty.pair (Ty.int IntKind.i64) (Ty.pair (Ty.int IntKind.i64) (Ty.pair (Ty.int IntKind.i64) (Ty.pair (Ty.int IntKind.i64) (Ty.pair (Ty.int IntKind.u64) (Ty.int IntKind.u32)))))) (List.drop (Int.toNat n1) (List.take (Int.toNat (IntKind.wrap .i64 (n3 + (1 : Int)))) l0)), .n (0 : Int), .n n2, .n n4, .n n5, .n n6]);
             (.node (isK 0 [HK.b] r1)
              (.node (!gb (dOf r1) 0)
               (.leaf (Step.stop 3 [.b false]))
               (let r2 : Option (Nat × List Dat) := (op_26 [.l (Ty.pair (Ty.int IntKind.i64) (Ty.pair (Ty.int IntKind.i64) (Ty.pair (Ty.int IntKind.i64) (Ty.pair (Ty.int IntKind.i64) (Ty.pair (Ty.int IntKind.u64) (Ty.int IntKind.u32)))))) (List.drop (Int.toNat n1) (List.take (Int.toNat (IntKind.wrap .i64 (n3 + (1 : Int)))) l0)), .n (1 : Int), .n n2, .n n4, .n n5, .n n6]);
                (.node (isK 0 [HK.b] r2)
                 (.node (!gb (dOf r2) 0)
                  (.leaf (Step.stop 3 [.b false]))
                  (.leaf (Step.go [.k 4, .l (Ty.pair (Ty.int IntKind.i64) (Ty.pair (Ty.int IntKind.i64) (Ty.pair (Ty.int IntKind.i64) (Ty.pair (Ty.int IntKind.i64) (Ty.pair (Ty.int IntKind.u64) (Ty.int IntKind.u32)))))) l0, .n n1, .n n2, .b false, .n (IntKind.wrap .i64 (n3 + (1 : Int))), .b false, .n n2, .n (Prod.fst (Prod.snd (Prod.snd (List.getD l0 (Int.toNat n3) (Ty.dflt (Ty.pair (Ty.int IntKind.i64) (Ty.pair (Ty.int IntKind.i64) (Ty.pair (Ty.int IntKind.i64) (Ty.pair (Ty.int IntKind.i64) (Ty.pair (Ty.int IntKind.u64) (Ty.int IntKind.u32))))))))))), .n (Prod.fst (Prod.snd (Prod.snd (Prod.snd (List.getD l0 (Int.toNat n3) (Ty.dflt (Ty.pair (Ty.int IntKind.i64) (Ty.pair (Ty.int IntKind.i64) (Ty.pair (Ty.int IntKind.i64) (Ty.pair (Ty.int IntKind.i64) (Ty.pair (Ty.int IntKind.u64) (Ty.int IntKind.u32)))))))))))), .n (Prod.fst (Prod.snd (Prod.snd (Prod.snd (Prod.snd (List.getD l0 (Int.toNat n3) (Ty.dflt (Ty.pair (Ty.int IntKind.i64) (Ty.pair (Ty.int IntKind.i64) (Ty.pair (Ty.int IntKind.i64) (Ty.pair (Ty.int IntKind.i64) (Ty.pair (Ty.int IntKind.u64) (Ty.int IntKind.u32))))))))))))), .n (Prod.snd (Prod.snd (Prod.snd (Prod.snd (Prod.snd (List.getD l0 (Int.toNat n3) (Ty.dflt (Ty.pair (Ty.int IntKind.i64) (Ty.pair (Ty.int IntKind.i64) (Ty.pair (Ty.int IntKind.i64) (Ty.pair (Ty.int IntKind.i64) (Ty.pair (Ty.int IntKind.u64) (Ty.int IntKind.u32))))))))))))), .n n2, .n n4, .n n5, .n n6])))
                 (.bad 351))))
              (.bad 351))))
           (.node (decide ((Prod.fst (Prod.snd (List.getD l0 (Int.toNat n3) (Ty.dflt (Ty.pair (Ty.int IntKind.i64) (Ty.pair (Ty.int IntKind.i64) (Ty.pair (Ty.int IntKind.i64) (Ty.pair (Ty.int IntKind.i64) (Ty.pair (Ty.int IntKind.u64) (Ty.int IntKind.u32))))))))) : Int) = (1 : Int)))
            (.node (decide ((Prod.fst (Prod.snd (Prod.snd (List.getD l0 (Int.toNat n3) (Ty.dflt (Ty.pair (Ty.int IntKind.i64) (Ty.pair (Ty.int IntKind.i64) (Ty.pair (Ty.int IntKind.i64) (Ty.pair (Ty.int IntKind.i64) (Ty.pair (Ty.int IntKind.u64) (Ty.int IntKind.u32)))))))))) : Int) ≤ n2))
             (.leaf (Step.go [.k 0, .l (Ty.pair (Ty.int IntKind.i64) (Ty.pair (Ty.int IntKind.i64) (Ty.pair (Ty.int IntKind.i64) (Ty.pair (Ty.int IntKind.i64) (Ty.pair (Ty.int IntKind.u64) (Ty.int IntKind.u32)))))) l0, .n n1, .n n2, .b true, .n (IntKind.wrap .i64 (n3 + (1 : Int))), .b true, .n n2]))
             (let r1 : Option (Nat × List Dat) := (op_26 [.l (Ty.pair (Ty.int IntKind.i64) (Ty.pair (Ty.int IntKind.i64) (Ty.pair (Ty.int IntKind.i64) (Ty.pair (Ty.int IntKind.i64) (Ty.pair (Ty.int IntKind.u64) (Ty.int IntKind.u32)))))) (List.drop (Int.toNat n1) (List.take (Int.toNat (IntKind.wrap .i64 (n3 + (1 : Int)))) l0)), .n (0 : Int), .n n2, .n n4, .n n5, .n n6]);
              (.node (isK 0 [HK.b] r1)
               (.node (!gb (dOf r1) 0)
                (.leaf (Step.stop 3 [.b false]))
                (let r2 : Option (Nat × List Dat) := (op_26 [.l (Ty.pair (Ty.int IntKind.i64) (Ty.pair (Ty.int IntKind.i64) (Ty.pair (Ty.int IntKind.i64) (Ty.pair (Ty.int IntKind.i64) (Ty.pair (Ty.int IntKind.u64) (Ty.int IntKind.u32)))))) (List.drop (Int.toNat n1) (List.take (Int.toNat (IntKind.wrap .i64 (n3 + (1 : Int)))) l0)), .n (1 : Int), .n n2, .n n4, .n n5, .n n6]);
                 (.node (isK 0 [HK.b] r2)
                  (.node (!gb (dOf r2) 0)
                   (.leaf (Step.stop 3 [.b false]))
                   (.leaf (Step.go [.k 5, .l (Ty.pair (Ty.int IntKind.i64) (Ty.pair (Ty.int IntKind.i64) (Ty.pair (Ty.int IntKind.i64) (Ty.pair (Ty.int IntKind.i64) (Ty.pair (Ty.int IntKind.u64) (Ty.int IntKind.u32)))))) l0, .n n1, .n n2, .b false, .n (IntKind.wrap .i64 (n3 + (1 : Int))), .b false, .n n2, .n (Prod.fst (Prod.snd (Prod.snd (List.getD l0 (Int.toNat n3) (Ty.dflt (Ty.pair (Ty.int IntKind.i64) (Ty.pair (Ty.int IntKind.i64) (Ty.pair (Ty.int IntKind.i64) (Ty.pair (Ty.int IntKind.i64) (Ty.pair (Ty.int IntKind.u64) (Ty.int IntKind.u32))))))))))), .n (Prod.fst (Prod.snd (Prod.snd (Prod.snd (List.getD l0 (Int.toNat n3) (Ty.dflt (Ty.pair (Ty.int IntKind.i64) (Ty.pair (Ty.int IntKind.i64) (Ty.pair (Ty.int IntKind.i64) (Ty.pair (Ty.int IntKind.i64) (Ty.pair (Ty.int IntKind.u64) (Ty.int IntKind.u32)))))))))))), .n (Prod.fst (Prod.snd (Prod.snd (Prod.snd (Prod.snd (List.getD l0 (Int.toNat n3) (Ty.dflt (Ty.pair (Ty.int IntKind.i64) (Ty.pair (Ty.int IntKind.i64) (Ty.pair (Ty.int IntKind.i64) (Ty.pair (Ty.int IntKind.i64) (Ty.pair (Ty.int IntKind.u64) (Ty.int IntKind.u32))))))))))))), .n (Prod.snd (Prod.snd (Prod.snd (Prod.snd (Prod.snd (List.getD l0 (Int.toNat n3) (Ty.dflt (Ty.pair (Ty.int IntKind.i64) (Ty.pair (Ty.int IntKind.i64) (Ty.pair (Ty.int IntKind.i64) (Ty.pair (Ty.int IntKind.i64) (Ty.pair (Ty.int IntKind.u64) (Ty.int IntKind.u32))))))))))))), .n n2, .n n4, .n n5, .n n6])))
                  (.bad 351))))
               (.bad 351))))
            (.bad 70)))
          (.node (decide (IntKind.wrap .i64 ((1 : Int) - (Prod.fst (Prod.snd (List.getD l0 (Int.toNat n3) (Ty.dflt (Ty.pair (Ty.int IntKind.i64) (Ty.pair (Ty.int IntKind.i64) (Ty.pair (Ty.int IntKind.i64) (Ty.pair (Ty.int IntKind.i64) (Ty.pair (Ty.int IntKind.u64) (Ty.int IntKind.u32))))))))) : Int)) = (1 : Int)))
           (.node (decide ((Prod.fst (Prod.snd (List.getD l0 (Int.toNat n3) (Ty.dflt (Ty.pair (Ty.int IntKind.i64) (Ty.pair (Ty.int IntKind.i64) (Ty.pair (Ty.int IntKind.i64) (Ty.pair (Ty.int IntKind.i64) (Ty.pair (Ty.int IntKind.u64) (Ty.int IntKind.u32))))))))) : Int) = (0 : Int)))
            (.node (decide ((Prod.fst (Prod.snd (Prod.snd (List.getD l0 (Int.toNat n3) (Ty.dflt (Ty.pair (Ty.int IntKind.i64) (Ty.pair (Ty.int IntKind.i64) (Ty.pair (Ty.int IntKind.i64) (Ty.pair (Ty.int IntKind.i64) (Ty.pair (Ty.int IntKind.u64) (Ty.int IntKind.u32)))))))))) : Int) ≤ n2))
             (.leaf (Step.go [.k 0, .l (Ty.pair (Ty.int IntKind.i64) (Ty.pair (Ty.int IntKind.i64) (Ty.pair (Ty.int IntKind.i64) (Ty.pair (Ty.int IntKind.i64) (Ty.pair (Ty.int IntKind.u64) (Ty.int IntKind.u32)))))) l0, .n n1, .n n2, .b true, .n (IntKind.wrap .i64 (n3 + (1 : Int))), .b true, .n n2]))
             (let r1 : Option (Nat × List Dat) := (op_26 [.l (Ty.pair (Ty.int IntKind.i64) (Ty.pair (Ty.int IntKind.i64) (Ty.pair (Ty.int IntKind.i64) (Ty.pair (Ty.int IntKind.i64) (Ty.pair (Ty.int IntKind.u64) (Ty.int IntKind.u32)))))) (List.drop (Int.toNat n1) (List.take (Int.toNat (IntKind.wrap .i64 (n3 + (1 : Int)))) l0)), .n (0 : Int), .n n2, .n n4, .n n5, .n n6]);
              (.node (isK 0 [HK.b] r1)
               (.node (!gb (dOf r1) 0)
                (.leaf (Step.stop 3 [.b false]))
                (let r2 : Option (Nat × List Dat) := (op_26 [.l (Ty.pair (Ty.int IntKind.i64) (Ty.pair (Ty.int IntKind.i64) (Ty.pair (Ty.int IntKind.i64) (Ty.pair (Ty.int IntKind.i64) (Ty.pair (Ty.int IntKind.u64) (Ty.int IntKind.u32)))))) (List.drop (Int.toNat n1) (List.take (Int.toNat (IntKind.wrap .i64 (n3 + (1 : Int)))) l0)), .n (1 : Int), .n n2, .n n4, .n n5, .n n6]);
                 (.node (isK 0 [HK.b] r2)
                  (.node (!gb (dOf r2) 0)
                   (.leaf (Step.stop 3 [.b false]))
                   (.leaf (Step.go [.k 4, .l (Ty.pair (Ty.int IntKind.i64) (Ty.pair (Ty.int IntKind.i64) (Ty.pair (Ty.int IntKind.i64) (Ty.pair (Ty.int IntKind.i64) (Ty.pair (Ty.int IntKind.u64) (Ty.int IntKind.u32)))))) l0, .n n1, .n n2, .b false, .n (IntKind.wrap .i64 (n3 + (1 : Int))), .b false, .n n2, .n (Prod.fst (Prod.snd (Prod.snd (List.getD l0 (Int.toNat n3) (Ty.dflt (Ty.pair (Ty.int IntKind.i64) (Ty.pair (Ty.int IntKind.i64) (Ty.pair (Ty.int IntKind.i64) (Ty.pair (Ty.int IntKind.i64) (Ty.pair (Ty.int IntKind.u64) (Ty.int IntKind.u32))))))))))), .n (Prod.fst (Prod.snd (Prod.snd (Prod.snd (List.getD l0 (Int.toNat n3) (Ty.dflt (Ty.pair (Ty.int IntKind.i64) (Ty.pair (Ty.int IntKind.i64) (Ty.pair (Ty.int IntKind.i64) (Ty.pair (Ty.int IntKind.i64) (Ty.pair (Ty.int IntKind.u64) (Ty.int IntKind.u32)))))))))))), .n (Prod.fst (Prod.snd (Prod.snd (Prod.snd (Prod.snd (List.getD l0 (Int.toNat n3) (Ty.dflt (Ty.pair (Ty.int IntKind.i64) (Ty.pair (Ty.int IntKind.i64) (Ty.pair (Ty.int IntKind.i64) (Ty.pair (Ty.int IntKind.i64) (Ty.pair (Ty.int IntKind.u64) (Ty.int IntKind.u32))))))))))))), .n (Prod.snd (Prod.snd (Prod.snd (Prod.snd (Prod.snd (List.getD l0 (Int.toNat n3) (Ty.dflt (Ty.pair (Ty.int IntKind.i64) (Ty.pair (Ty.int IntKind.i64) (Ty.pair (Ty.int IntKind.i64) (Ty.pair (Ty.int IntKind.i64) (Ty.pair (Ty.int IntKind.u64) (Ty.int IntKind.u32))))))))))))), .n n2, .n n4, .n n5, .n n6])))
                  (.bad 351))))
               (.bad 351))))
            (.node (decide ((Prod.fst (Prod.snd (List.getD l0 (Int.toNat n3) (Ty.dflt (Ty.pair (Ty.int IntKind.i64) (Ty.pair (Ty.int IntKind.i64) (Ty.pair (Ty.int IntKind.i64) (Ty.pair (Ty.int IntKind.i64) (Ty.pair (Ty.int IntKind.u64) (Ty.int IntKind.u32))))))))) : Int) = (1 : Int)))
             (.node (decide ((Prod.fst (Prod.snd (Prod.snd (List.getD l0 (Int.toNat n3) (Ty.dflt (Ty.pair (Ty.int IntKind.i64) (Ty.pair (Ty.int IntKind.i64) (Ty.pair (Ty.int IntKind.i64) (Ty.pair (Ty.int IntKind.i64) (Ty.pair (Ty.int IntKind.u64) (Ty.int IntKind.u32)))))))))) : Int) ≤ n2))
              (.leaf (Step.go [.k 0, .l (Ty.pair (Ty.int IntKind.i64) (Ty.pair (Ty.int IntKind.i64) (Ty.pair (Ty.int IntKind.i64) (Ty.pair (Ty.int IntKind.i64) (Ty.pair (Ty.int IntKind.u64) (Ty.int IntKind.u32)))))) l0, .n n1, .n n2, .b true, .n (IntKind.wrap .i64 (n3 + (1 : Int))), .b true, .n n2]))
              (let r1 : Option (Nat × List Dat) := (op_26 [.l (Ty.pair (Ty.int IntKind.i64) (Ty.pair (Ty.int IntKind.i64) (Ty.pair (Ty.int IntKind.i64) (Ty.pair (Ty.int IntKind.i64) (Ty.pair (Ty.int IntKind.u64) (Ty.int IntKind.u32)))))) (List.drop (Int.toNat n1) (List.take (Int.toNat (IntKind.wrap .i64 (n3 + (1 : Int)))) l0)), .n (0 : Int), .n n2, .n n4, .n n5, .n n6]);
               (.node (isK 0 [HK.b] r1)
                (.node (!gb (dOf r1) 0)
                 (.leaf (Step.stop 3 [.b false]))
                 (let r2 : Option (Nat × List Dat) := (op_26 [.l (Ty.pair (Ty.int IntKind.i64) (Ty.pair (Ty.int IntKind.i64) (Ty.pair (Ty.int IntKind.i64) (Ty.pair (Ty.int IntKind.i64) (Ty.pair (Ty.int IntKind.u64) (Ty.int IntKind.u32)))))) (List.drop (Int.toNat n1) (List.take (Int.toNat (IntKind.wrap .i64 (n3 + (1 : Int)))) l0)), .n (1 : Int), .n n2, .n n4, .n n5, .n n6]);
                  (.node (isK 0 [HK.b] r2)
                   (.node (!gb (dOf r2) 0)
                    (.leaf (Step.stop 3 [.b false]))
                    (.leaf (Step.go [.k 5, .l (Ty.pair (Ty.int IntKind.i64) (Ty.pair (Ty.int IntKind.i64) (Ty.pair (Ty.int IntKind.i64) (Ty.pair (Ty.int IntKind.i64) (Ty.pair (Ty.int IntKind.u64) (Ty.int IntKind.u32)))))) l0, .n n1, .n n2, .b false, .n (IntKind.wrap .i64 (n3 + (1 : Int))), .b false, .n n2, .n (Prod.fst (Prod.snd (Prod.snd (List.getD l0 (Int.toNat n3) (Ty.dflt (Ty.pair (Ty.int IntKind.i64) (Ty.pair (Ty.int IntKind.i64) (Ty.pair (Ty.int IntKind.i64) (Ty.pair (Ty.int IntKind.i64) (Ty.pair (Ty.int IntKind.u64) (Ty.int IntKind.u32))))))))))), .n (Prod.fst (Prod.snd (Prod.snd (Prod.snd (List.getD l0 (Int.toNat n3) (Ty.dflt (Ty.pair (Ty.int IntKind.i64) (Ty.pair (Ty.int IntKind.i64) (Ty.pair (Ty.int IntKind.i64) (Ty.pair (Ty.int IntKind.i64) (Ty.pair (Ty.int IntKind.u64) (Ty.int IntKind.u32)))))))))))), .n (Prod.fst (Prod.snd (Prod.snd (Prod.snd (Prod.snd (List.getD l0 (Int.toNat n3) (Ty.dflt (Ty.pair (Ty.int IntKind.i64) (Ty.pair (Ty.int IntKind.i64) (Ty.pair (Ty.int IntKind.i64) (Ty.pair (Ty.int IntKind.i64) (Ty.pair (Ty.int IntKind.u64) (Ty.int IntKind.u32))))))))))))), .n (Prod.snd (Prod.snd (Prod.snd (Prod.snd (Prod.snd (List.getD l0 (Int.toNat n3) (Ty.dflt (Ty.pair (Ty.int IntKind.i64) (Ty.pair (Ty.int IntKind.i64) (Ty.pair (Ty.int IntKind.i64) (Ty.pair (Ty.int IntKind.i64) (Ty.pair (Ty.int IntKind.u64) (Ty.int IntKind.u32))))))))))))), .n n2, .n n4, .n n5, .n n6])))
                   (.bad 351))))
                (.bad 351))))
             (.bad 70)))
           (.bad 70))))))))
  | _ => .bad 0
theorem fn_L4_8_t3_im (l0 : List (Ty.den (Ty.pair (Ty.int IntKind.i64) (Ty.pair (Ty.int IntKind.i64) (Ty.pair (Ty.int IntKind.i64) (Ty.pair (Ty.int IntKind.i64) (Ty.pair (Ty.int IntKind.u64) (Ty.int IntKind.u32)))))))) (n1 : Int) (n2 : Int) (n3 : Int) (n4 : Int) (n5 : Int) (n6 : Int) (g0 : 0 ≤ n1) (g1 :  n1 ≤ n3) (g2 :  n3 < (l0.length : Int)) (g3 :  l0.length ≤ 200) : Imp (fn_L4_8_t3 [.l (Ty.pair (Ty.int IntKind.i64) (Ty.pair (Ty.int IntKind.i64) (Ty.pair (Ty.int IntKind.i64) (Ty.pair (Ty.int IntKind.i64) (Ty.pair (Ty.int IntKind.u64) (Ty.int IntKind.u32)))))) l0, .n n1, .n n2, .n n3, .n n4, .n n5, .n n6]) (st_L4_8 [.k 3, .l TCl l0, .n n1, .n n2, .b false, .n n3, .b false, .n n2, .n n2, .n n4, .n n5, .n n6]) :=
(.path [1] (by kernel_rfl)
(.pt (c := (decide (n3 < (↑(List.length l0) : Int)))) (by kernel_rfl) (by kernel_rfl) (by (simp [*]; done))
(.pt (c := (inR n3 (List.length l0))) (by kernel_rfl) (by kernel_rfl) (by (simp only [w64d, decide_eq_true_eq, decide_eq_false_iff_not, beq_iff_eq, beq_eq_false_iff_ne, bne_iff_ne, ne_eq, inR, Bool.and_eq_true, Bool.and_eq_false_iff, Bool.not_eq_true', Bool.not_eq_false', Bool.not_eq_eq_eq_not, Bool.not_true, Bool.not_false] at *; omega))
(.path [1,0,1,1,1,1,0,0,1] (by kernel_rfl)
(.node (by kernel_rfl) (by kernel_rfl) (fun h0 =>
(.path [1,0,0,1,0,0,1,0,1,1,0,0,1,1] (by kernel_rfl)
(.pt (c := (decide ((0 : Int) ≤ IntKind.wrap .i64 (n3 + (1 : Int))) && decide (IntKind.wrap .i64 (n3 + (1 : Int)) ≤ (↑(List.length l0) : Int)))) (by kernel_rfl) (by kernel_rfl) (by (simp only [w64d, decide_eq_true_eq, decide_eq_false_iff_not, beq_iff_eq, beq_eq_false_iff_ne, bne_iff_ne, ne_eq, inR, Bool.and_eq_true, Bool.and_eq_false_iff, Bool.not_eq_true', Bool.not_eq_false', Bool.not_eq_eq_eq_not, Bool.not_true, Bool.not_false] at *; omega))
(.pt (c := (decide ((0 : Int) ≤ n1) && decide (n1 ≤ IntKind.wrap .i64 (n3 + (1 : Int))))) (by kernel_rfl) (by kernel_rfl) (by (simp only [w64d, decide_eq_true_eq, decide_eq_false_iff_not, beq_iff_eq, beq_eq_false_iff_ne, bne_iff_ne, ne_eq, inR, Bool.and_eq_true, Bool.and_eq_false_iff, Bool.not_eq_true', Bool.not_eq_false', Bool.not_eq_eq_eq_not, Bool.not_true, Bool.not_false] at *; omega))
(.node (by kernel_rfl) (by kernel_rfl) (fun h1 =>
(.path [1] (by kernel_rfl)
(.node (by kernel_rfl) (by kernel_rfl) (fun h2 =>
(.path [1,1,1,1,1,1] (by kernel_rfl)
(.leaf (by kernel_rfl)))) (fun h2 =>
(.pt (c := (decide ((0 : Int) ≤ IntKind.wrap .i64 (n3 + (1 : Int))) && decide (IntKind.wrap .i64 (n3 + (1 : Int)) ≤ (↑(List.length l0) : Int)))) (by kernel_rfl) (by kernel_rfl) (by (simp only [w64d, decide_eq_true_eq, decide_eq_false_iff_not, beq_iff_eq, beq_eq_false_iff_ne, bne_iff_ne, ne_eq, inR, Bool.and_eq_true, Bool.and_eq_false_iff, Bool.not_eq_true', Bool.not_eq_false', Bool.not_eq_eq_eq_not, Bool.not_true, Bool.not_false] at *; omega))
(.pt (c := (decide ((0 : Int) ≤ n1) && decide (n1 ≤ IntKind.wrap .i64 (n3 + (1 : Int))))) (by kernel_rfl) (by kernel_rfl) (by (simp only [w64d, decide_eq_true_eq, decide_eq_false_iff_not, beq_iff_eq, beq_eq_false_iff_ne, bne_iff_ne, ne_eq, inR, Bool.and_eq_true, Bool.and_eq_false_iff, Bool.not_eq_true', Bool.not_eq_false', Bool.not_eq_eq_eq_not, Bool.not_true, Bool.not_false] at *; omega))
(.node (by kernel_rfl) (by kernel_rfl) (fun h3 =>
(.path [1] (by kernel_rfl)
(.node (by kernel_rfl) (by kernel_rfl) (fun h4 =>
(.path [1,1,1,1] (by kernel_rfl)
(.leaf (by kernel_rfl)))) (fun h4 =>
(.path [0,0,1,0,1,0] (by kernel_rfl)
(.pf (c := (!(n2 == n2 && (n4 == n4 && (n5 == n5 && (n6 == n6 && true) && true))))) (by kernel_rfl) (by kernel_rfl) (by (simp [*]; done))
(.path [1,0,1,0,0,0,1,0,1,1] (by kernel_rfl)
(.leaf (by kernel_rfl))))))))) (fun h3 =>
.none)))))))) (fun h1 =>
.none)))))) (fun h0 =>
(.node (by kernel_rfl) (by kernel_rfl) (fun h1 =>
(.path [1,1,1,1,0,1,1,0,0,1,0,0,0,0,1,0,1,1,0,1,0,1,1] (by kernel_rfl)
(.leaf (by kernel_rfl)))) (fun h1 =>
(.node (by kernel_rfl) (by kernel_rfl) (fun h2 =>
(.path [1,1,1,1,0,1,1,0,0,1,0,0,0,0,1,0,1,0,0,0,1,0,1,1] (by kernel_rfl)
(.leaf (by kernel_rfl)))) (fun h2 =>
(.path [1,0] (by kernel_rfl)
(.node (by kernel_rfl) (by kernel_rfl) (fun h3 =>
(.path [1,1,1,1,0,0,1,1] (by kernel_rfl)
(.pt (c := (decide ((0 : Int) ≤ IntKind.wrap .i64 (n3 + (1 : Int))) && decide (IntKind.wrap .i64 (n3 + (1 : Int)) ≤ (↑(List.length l0) : Int)))) (by kernel_rfl) (by kernel_rfl) (by (simp only [w64d, decide_eq_true_eq, decide_eq_false_iff_not, beq_iff_eq, beq_eq_false_iff_ne, bne_iff_ne, ne_eq, inR, Bool.and_eq_true, Bool.and_eq_false_iff, Bool.not_eq_true', Bool.not_eq_false', Bool.not_eq_eq_eq_not, Bool.not_true, Bool.not_false] at *; omega))
(.pt (c := (decide ((0 : Int) ≤ n1) && decide (n1 ≤ IntKind.wrap .i64 (n3 + (1 : Int))))) (by kernel_rfl) (by kernel_rfl) (by (simp only [w64d, decide_eq_true_eq, decide_eq_false_iff_not, beq_iff_eq, beq_eq_false_iff_ne, bne_iff_ne, ne_eq, inR, Bool.and_eq_true, Bool.and_eq_false_iff, Bool.not_eq_true', Bool.not_eq_false', Bool.not_eq_eq_eq_not, Bool.not_true, Bool.not_false] at *; omega))
(.node (by kernel_rfl) (by kernel_rfl) (fun h4 =>
(.path [1] (by kernel_rfl)
(.node (by kernel_rfl) (by kernel_rfl) (fun h5 =>
(.path [1,1,1,1,1,1] (by kernel_rfl)
(.leaf (by kernel_rfl)))) (fun h5 =>
(.pt (c := (decide ((0 : Int) ≤ IntKind.wrap .i64 (n3 + (1 : Int))) && decide (IntKind.wrap .i64 (n3 + (1 : Int)) ≤ (↑(List.length l0) : Int)))) (by kernel_rfl) (by kernel_rfl) (by (simp only [w64d, decide_eq_true_eq, decide_eq_false_iff_not, beq_iff_eq, beq_eq_false_iff_ne, bne_iff_ne, ne_eq, inR, Bool.and_eq_true, Bool.and_eq_false_iff, Bool.not_eq_true', Bool.not_eq_false', Bool.not_eq_eq_eq_not, Bool.not_true, Bool.not_false] at *; omega))
(.pt (c := (decide ((0 : Int) ≤ n1) && decide (n1 ≤ IntKind.wrap .i64 (n3 + (1 : Int))))) (by kernel_rfl) (by kernel_rfl) (by (simp only [w64d, decide_eq_true_eq, decide_eq_false_iff_not, beq_iff_eq, beq_eq_false_iff_ne, bne_iff_ne, ne_eq, inR, Bool.and_eq_true, Bool.and_eq_false_iff, Bool.not_eq_true', Bool.not_eq_false', Bool.not_eq_eq_eq_not, Bool.not_true, Bool.not_false] at *; omega))
(.node (by kernel_rfl) (by kernel_rfl) (fun h6 =>
(.path [1] (by kernel_rfl)
(.node (by kernel_rfl) (by kernel_rfl) (fun h7 =>
(.path [1,1,1,1] (by kernel_rfl)
(.leaf (by kernel_rfl)))) (fun h7 =>
(.path [0,0,1,0,1,0] (by kernel_rfl)
(.pf (c := (!(n2 == n2 && (n4 == n4 && (n5 == n5 && (n6 == n6 && true) && true))))) (by kernel_rfl) (by kernel_rfl) (by (simp [*]; done))
(.path [1,0,1,0,0,0,1,0,1,1] (by kernel_rfl)
(.leaf (by kernel_rfl))))))))) (fun h6 =>
.none)))))))) (fun h4 =>
.none)))))) (fun h3 =>
(.node (by kernel_rfl) (by kernel_rfl) (fun h4 =>
(.path [1,1,0,0,1,1] (by kernel_rfl)
(.pt (c := (decide ((0 : Int) ≤ IntKind.wrap .i64 (n3 + (1 : Int))) && decide (IntKind.wrap .i64 (n3 + (1 : Int)) ≤ (↑(List.length l0) : Int)))) (by kernel_rfl) (by kernel_rfl) (by (simp only [w64d, decide_eq_true_eq, decide_eq_false_iff_not, beq_iff_eq, beq_eq_false_iff_ne, bne_iff_ne, ne_eq, inR, Bool.and_eq_true, Bool.and_eq_false_iff, Bool.not_eq_true', Bool.not_eq_false', Bool.not_eq_eq_eq_not, Bool.not_true, Bool.not_false] at *; omega))
(.pt (c := (decide ((0 : Int) ≤ n1) && decide (n1 ≤ IntKind.wrap .i64 (n3 + (1 : Int))))) (by kernel_rfl) (by kernel_rfl) (by (simp only [w64d, decide_eq_true_eq, decide_eq_false_iff_not, beq_iff_eq, beq_eq_false_iff_ne, bne_iff_ne, ne_eq, inR, Bool.and_eq_true, Bool.and_eq_false_iff, Bool.not_eq_true', Bool.not_eq_false', Bool.not_eq_eq_eq_not, Bool.not_true, Bool.not_false] at *; omega))
(.node (by kernel_rfl) (by kernel_rfl) (fun h5 =>
(.path [1] (by kernel_rfl)
(.node (by kernel_rfl) (by kernel_rfl) (fun h6 =>
(.path [1,1,1,1,1,1] (by kernel_rfl)
(.leaf (by kernel_rfl)))) (fun h6 =>
(.pt (c := (decide ((0 : Int) ≤ IntKind.wrap .i64 (n3 + (1 : Int))) && decide (IntKind.wrap .i64 (n3 + (1 : Int)) ≤ (↑(List.length l0) : Int)))) (by kernel_rfl) (by kernel_rfl) (by (simp only [w64d, decide_eq_true_eq, decide_eq_false_iff_not, beq_iff_eq, beq_eq_false_iff_ne, bne_iff_ne, ne_eq, inR, Bool.and_eq_true, Bool.and_eq_false_iff, Bool.not_eq_true', Bool.not_eq_false', Bool.not_eq_eq_eq_not, Bool.not_true, Bool.not_false] at *; omega))
(.pt (c := (decide ((0 : Int) ≤ n1) && decide (n1 ≤ IntKind.wrap .i64 (n3 + (1 : Int))))) (by kernel_rfl) (by kernel_rfl) (by (simp only [w64d, decide_eq_true_eq, decide_eq_false_iff_not, beq_iff_eq, beq_eq_false_iff_ne, bne_iff_ne, ne_eq, inR, Bool.and_eq_true, Bool.and_eq_false_iff, Bool.not_eq_true', Bool.not_eq_false', Bool.not_eq_eq_eq_not, Bool.not_true, Bool.not_false] at *; omega))
(.node (by kernel_rfl) (by kernel_rfl) (fun h7 =>
(.path [1] (by kernel_rfl)
(.node (by kernel_rfl) (by kernel_rfl) (fun h8 =>
(.path [1,1,1,1] (by kernel_rfl)
(.leaf (by kernel_rfl)))) (fun h8 =>
(.path [0,0,1,0,1,0] (by kernel_rfl)
(.pf (c := (!(n2 == n2 && (n4 == n4 && (n5 == n5 && (n6 == n6 && true) && true))))) (by kernel_rfl) (by kernel_rfl) (by (simp [*]; done))
(.path [1,0,1,0,0,0,1,0,1,1] (by kernel_rfl)
(.leaf (by kernel_rfl))))))))) (fun h7 =>
.none)))))))) (fun h5 =>
.none)))))) (fun h4 =>
(.node (by kernel_rfl) (by kernel_rfl) (fun h5 =>
(.path [0] (by kernel_rfl)
(.node (by kernel_rfl) (by kernel_rfl) (fun h6 =>
(.path [0] (by kernel_rfl)
(.node (by kernel_rfl) (by kernel_rfl) (fun h7 =>
(.path [1,1,1,1,1,1,1,1,0,1,1,0,0,1,0,0,0,0,1,0,1,0,0,0,1,0,1,1] (by kernel_rfl)
(.leaf (by kernel_rfl)))) (fun h7 =>
(.path [0,0,1,0,1] (by kernel_rfl)
(.pt (by kernel_rfl) (by kernel_rfl) h6
(.path [1,1,0,0,1,1] (by kernel_rfl)
(.pt (c := (decide ((0 : Int) ≤ IntKind.wrap .i64 (n3 + (1 : Int))) && decide (IntKind.wrap .i64 (n3 + (1 : Int)) ≤ (↑(List.length l0) : Int)))) (by kernel_rfl) (by kernel_rfl) (by (simp only [w64d, decide_eq_true_eq, decide_eq_false_iff_not, beq_iff_eq, beq_eq_false_iff_ne, bne_iff_ne, ne_eq, inR, Bool.and_eq_true, Bool.and_eq_false_iff, Bool.not_eq_true', Bool.not_eq_false', Bool.not_eq_eq_eq_not, Bool.not_true, Bool.not_false] at *; omega))
(.pt (c := (decide ((0 : Int) ≤ n1) && decide (n1 ≤ IntKind.wrap .i64 (n3 + (1 : Int))))) (by kernel_rfl) (by kernel_rfl) (by (simp only [w64d, decide_eq_true_eq, decide_eq_false_iff_not, beq_iff_eq, beq_eq_false_iff_ne, bne_iff_ne, ne_eq, inR, Bool.and_eq_true, Bool.and_eq_false_iff, Bool.not_eq_true', Bool.not_eq_false', Bool.not_eq_eq_eq_not, Bool.not_true, Bool.not_false] at *; omega))
(.node (by kernel_rfl) (by kernel_rfl) (fun h8 =>
(.path [1] (by kernel_rfl)
(.node (by kernel_rfl) (by kernel_rfl) (fun h9 =>
(.path [1,1,1,1,1,1] (by kernel_rfl)
(.leaf (by kernel_rfl)))) (fun h9 =>
(.pt (c := (decide ((0 : Int) ≤ IntKind.wrap .i64 (n3 + (1 : Int))) && decide (IntKind.wrap .i64 (n3 + (1 : Int)) ≤ (↑(List.length l0) : Int)))) (by kernel_rfl) (by kernel_rfl) (by (simp only [w64d, decide_eq_true_eq, decide_eq_false_iff_not, beq_iff_eq, beq_eq_false_iff_ne, bne_iff_ne, ne_eq, inR, Bool.and_eq_true, Bool.and_eq_false_iff, Bool.not_eq_true', Bool.not_eq_false', Bool.not_eq_eq_eq_not, Bool.not_true, Bool.not_false] at *; omega))
(.pt (c := (decide ((0 : Int) ≤ n1) && decide (n1 ≤ IntKind.wrap .i64 (n3 + (1 : Int))))) (by kernel_rfl) (by kernel_rfl) (by (simp only [w64d, decide_eq_true_eq, decide_eq_false_iff_not, beq_iff_eq, beq_eq_false_iff_ne, bne_iff_ne, ne_eq, inR, Bool.and_eq_true, Bool.and_eq_false_iff, Bool.not_eq_true', Bool.not_eq_false', Bool.not_eq_eq_eq_not, Bool.not_true, Bool.not_false] at *; omega))
(.node (by kernel_rfl) (by kernel_rfl) (fun h10 =>
(.path [1] (by kernel_rfl)
(.node (by kernel_rfl) (by kernel_rfl) (fun h11 =>
(.path [1,1,1,1] (by kernel_rfl)
(.leaf (by kernel_rfl)))) (fun h11 =>
(.path [0,0,1,0,1,0] (by kernel_rfl)
(.pf (c := (!(n2 == n2 && (n4 == n4 && (n5 == n5 && (n6 == n6 && true) && true))))) (by kernel_rfl) (by kernel_rfl) (by (simp [*]; done))
(.path [1,0,1,0,0,0,1,0,1,1] (by kernel_rfl)
(.leaf (by kernel_rfl))))))))) (fun h10 =>
.none)))))))) (fun h8 =>
.none))))))))))) (fun h6 =>
(.node (by kernel_rfl) (by kernel_rfl) (fun h7 =>
(.path [0] (by kernel_rfl)
(.node (by kernel_rfl) (by kernel_rfl) (fun h8 =>
(.path [1,1,1,1,1,1,1,1,0,1,1,0,0,1,0,0,0,0,1,0,1,0,0,0,1,0,1,1] (by kernel_rfl)
(.leaf (by kernel_rfl)))) (fun h8 =>
(.path [0,0,1,0,1] (by kernel_rfl)
(.pf (by kernel_rfl) (by kernel_rfl) h6
(.pt (by kernel_rfl) (by kernel_rfl) h7
(.path [1,1,0,0,1,1] (by kernel_rfl)
(.pt (c := (decide ((0 : Int) ≤ IntKind.wrap .i64 (n3 + (1 : Int))) && decide (IntKind.wrap .i64 (n3 + (1 : Int)) ≤ (↑(List.length l0) : Int)))) (by kernel_rfl) (by kernel_rfl) (by (simp only [w64d, decide_eq_true_eq, decide_eq_false_iff_not, beq_iff_eq, beq_eq_false_iff_ne, bne_iff_ne, ne_eq, inR, Bool.and_eq_true, Bool.and_eq_false_iff, Bool.not_eq_true', Bool.not_eq_false', Bool.not_eq_eq_eq_not, Bool.not_true, Bool.not_false] at *; omega))
(.pt (c := (decide ((0 : Int) ≤ n1) && decide (n1 ≤ IntKind.wrap .i64 (n3 + (1 : Int))))) (by kernel_rfl) (by kernel_rfl) (by (simp only [w64d, decide_eq_true_eq, decide_eq_false_iff_not, beq_iff_eq, beq_eq_false_iff_ne, bne_iff_ne, ne_eq, inR, Bool.and_eq_true, Bool.and_eq_false_iff, Bool.not_eq_true', Bool.not_eq_false', Bool.not_eq_eq_eq_not, Bool.not_true, Bool.not_false] at *; omega))
(.node (by kernel_rfl) (by kernel_rfl) (fun h9 =>
(.path [1] (by kernel_rfl)
(.node (by kernel_rfl) (by kernel_rfl) (fun h10 =>
(.path [1,1,1,1,1,1] (by kernel_rfl)
(.leaf (by kernel_rfl)))) (fun h10 =>
(.pt (c := (decide ((0 : Int) ≤ IntKind.wrap .i64 (n3 + (1 : Int))) && decide (IntKind.wrap .i64 (n3 + (1 : Int)) ≤ (↑(List.length l0) : Int)))) (by kernel_rfl) (by kernel_rfl) (by (simp only [w64d, decide_eq_true_eq, decide_eq_false_iff_not, beq_iff_eq, beq_eq_false_iff_ne, bne_iff_ne, ne_eq, inR, Bool.and_eq_true, Bool.and_eq_false_iff, Bool.not_eq_true', Bool.not_eq_false', Bool.not_eq_eq_eq_not, Bool.not_true, Bool.not_false] at *; omega))
(.pt (c := (decide ((0 : Int) ≤ n1) && decide (n1 ≤ IntKind.wrap .i64 (n3 + (1 : Int))))) (by kernel_rfl) (by kernel_rfl) (by (simp only [w64d, decide_eq_true_eq, decide_eq_false_iff_not, beq_iff_eq, beq_eq_false_iff_ne, bne_iff_ne, ne_eq, inR, Bool.and_eq_true, Bool.and_eq_false_iff, Bool.not_eq_true', Bool.not_eq_false', Bool.not_eq_eq_eq_not, Bool.not_true, Bool.not_false] at *; omega))
(.node (by kernel_rfl) (by kernel_rfl) (fun h11 =>
(.path [1] (by kernel_rfl)
(.node (by kernel_rfl) (by kernel_rfl) (fun h12 =>
(.path [1,1,1,1] (by kernel_rfl)
(.leaf (by kernel_rfl)))) (fun h12 =>
(.path [0,0,1,0,1,0] (by kernel_rfl)
(.pf (c := (!(n2 == n2 && (n4 == n4 && (n5 == n5 && (n6 == n6 && true) && true))))) (by kernel_rfl) (by kernel_rfl) (by (simp [*]; done))
(.path [1,0,1,0,0,0,1,0,1,1] (by kernel_rfl)
(.leaf (by kernel_rfl))))))))) (fun h11 =>
.none)))))))) (fun h9 =>
.none)))))))))))) (fun h7 =>
.none)))))) (fun h5 =>
(.node (by kernel_rfl) (by kernel_rfl) (fun h6 =>
(.path [0] (by kernel_rfl)
(.node (by kernel_rfl) (by kernel_rfl) (fun h7 =>
(.path [0] (by kernel_rfl)
(.node (by kernel_rfl) (by kernel_rfl) (fun h8 =>
(.path [1,1,1,1,1,1,1,1,0,1,1,0,0,1,0,0,0,0,1,0,1,0,0,0,1,0,1,1] (by kernel_rfl)
(.leaf (by kernel_rfl)))) (fun h8 =>
(.path [0,0,1,0,1] (by kernel_rfl)
(.pt (by kernel_rfl) (by kernel_rfl) h7
(.path [1,1,0,0,1,1] (by kernel_rfl)
(.pt (c := (decide ((0 : Int) ≤ IntKind.wrap .i64 (n3 + (1 : Int))) && decide (IntKind.wrap .i64 (n3 + (1 : Int)) ≤ (↑(List.length l0) : Int)))) (by kernel_rfl) (by kernel_rfl) (by (simp only [w64d, decide_eq_true_eq, decide_eq_false_iff_not, beq_iff_eq, beq_eq_false_iff_ne, bne_iff_ne, ne_eq, inR, Bool.and_eq_true, Bool.and_eq_false_iff, Bool.not_eq_true', Bool.not_eq_false', Bool.not_eq_eq_eq_not, Bool.not_true, Bool.not_false] at *; omega))
(.pt (c := (decide ((0 : Int) ≤ n1) && decide (n1 ≤ IntKind.wrap .i64 (n3 + (1 : Int))))) (by kernel_rfl) (by kernel_rfl) (by (simp only [w64d, decide_eq_true_eq, decide_eq_false_iff_not, beq_iff_eq, beq_eq_false_iff_ne, bne_iff_ne, ne_eq, inR, Bool.and_eq_true, Bool.and_eq_false_iff, Bool.not_eq_true', Bool.not_eq_false', Bool.not_eq_eq_eq_not, Bool.not_true, Bool.not_false] at *; omega))
(.node (by kernel_rfl) (by kernel_rfl) (fun h9 =>
(.path [1] (by kernel_rfl)
(.node (by kernel_rfl) (by kernel_rfl) (fun h10 =>
(.path [1,1,1,1,1,1] (by kernel_rfl)
(.leaf (by kernel_rfl)))) (fun h10 =>
(.pt (c := (decide ((0 : Int) ≤ IntKind.wrap .i64 (n3 + (1 : Int))) && decide (IntKind.wrap .i64 (n3 + (1 : Int)) ≤ (↑(List.length l0) : Int)))) (by kernel_rfl) (by kernel_rfl) (by (simp only [w64d, decide_eq_true_eq, decide_eq_false_iff_not, beq_iff_eq, beq_eq_false_iff_ne, bne_iff_ne, ne_eq, inR, Bool.and_eq_true, Bool.and_eq_false_iff, Bool.not_eq_true', Bool.not_eq_false', Bool.not_eq_eq_eq_not, Bool.not_true, Bool.not_false] at *; omega))
(.pt (c := (decide ((0 : Int) ≤ n1) && decide (n1 ≤ IntKind.wrap .i64 (n3 + (1 : Int))))) (by kernel_rfl) (by kernel_rfl) (by (simp only [w64d, decide_eq_true_eq, decide_eq_false_iff_not, beq_iff_eq, beq_eq_false_iff_ne, bne_iff_ne, ne_eq, inR, Bool.and_eq_true, Bool.and_eq_false_iff, Bool.not_eq_true', Bool.not_eq_false', Bool.not_eq_eq_eq_not, Bool.not_true, Bool.not_false] at *; omega))
(.node (by kernel_rfl) (by kernel_rfl) (fun h11 =>
(.path [1] (by kernel_rfl)
(.node (by kernel_rfl) (by kernel_rfl) (fun h12 =>
(.path [1,1,1,1] (by kernel_rfl)
(.leaf (by kernel_rfl)))) (fun h12 =>
(.path [0,0,1,0,1,0] (by kernel_rfl)
(.pf (c := (!(n2 == n2 && (n4 == n4 && (n5 == n5 && (n6 == n6 && true) && true))))) (by kernel_rfl) (by kernel_rfl) (by (simp [*]; done))
(.path [1,0,1,0,0,0,1,0,1,1] (by kernel_rfl)
(.leaf (by kernel_rfl))))))))) (fun h11 =>
.none)))))))) (fun h9 =>
.none))))))))))) (fun h7 =>
(.node (by kernel_rfl) (by kernel_rfl) (fun h8 =>
(.path [0] (by kernel_rfl)
(.node (by kernel_rfl) (by kernel_rfl) (fun h9 =>
(.path [1,1,1,1,1,1,1,1,0,1,1,0,0,1,0,0,0,0,1,0,1,0,0,0,1,0,1,1] (by kernel_rfl)
(.leaf (by kernel_rfl)))) (fun h9 =>
(.path [0,0,1,0,1] (by kernel_rfl)
(.pf (by kernel_rfl) (by kernel_rfl) h7
(.pt (by kernel_rfl) (by kernel_rfl) h8
(.path [1,1,0,0,1,1] (by kernel_rfl)
(.pt (c := (decide ((0 : Int) ≤ IntKind.wrap .i64 (n3 + (1 : Int))) && decide (IntKind.wrap .i64 (n3 + (1 : Int)) ≤ (↑(List.length l0) : Int)))) (by kernel_rfl) (by kernel_rfl) (by (simp only [w64d, decide_eq_true_eq, decide_eq_false_iff_not, beq_iff_eq, beq_eq_false_iff_ne, bne_iff_ne, ne_eq, inR, Bool.and_eq_true, Bool.and_eq_false_iff, Bool.not_eq_true', Bool.not_eq_false', Bool.not_eq_eq_eq_not, Bool.not_true, Bool.not_false] at *; omega))
(.pt (c := (decide ((0 : Int) ≤ n1) && decide (n1 ≤ IntKind.wrap .i64 (n3 + (1 : Int))))) (by kernel_rfl) (by kernel_rfl) (by (simp only [w64d, decide_eq_true_eq, decide_eq_false_iff_not, beq_iff_eq, beq_eq_false_iff_ne, bne_iff_ne, ne_eq, inR, Bool.and_eq_true, Bool.and_eq_false_iff, Bool.not_eq_true', Bool.not_eq_false', Bool.not_eq_eq_eq_not, Bool.not_true, Bool.not_false] at *; omega))
(.node (by kernel_rfl) (by kernel_rfl) (fun h10 =>
(.path [1] (by kernel_rfl)
(.node (by kernel_rfl) (by kernel_rfl) (fun h11 =>
(.path [1,1,1,1,1,1] (by kernel_rfl)
(.leaf (by kernel_rfl)))) (fun h11 =>
(.pt (c := (decide ((0 : Int) ≤ IntKind.wrap .i64 (n3 + (1 : Int))) && decide (IntKind.wrap .i64 (n3 + (1 : Int)) ≤ (↑(List.length l0) : Int)))) (by kernel_rfl) (by kernel_rfl) (by (simp only [w64d, decide_eq_true_eq, decide_eq_false_iff_not, beq_iff_eq, beq_eq_false_iff_ne, bne_iff_ne, ne_eq, inR, Bool.and_eq_true, Bool.and_eq_false_iff, Bool.not_eq_true', Bool.not_eq_false', Bool.not_eq_eq_eq_not, Bool.not_true, Bool.not_false] at *; omega))
(.pt (c := (decide ((0 : Int) ≤ n1) && decide (n1 ≤ IntKind.wrap .i64 (n3 + (1 : Int))))) (by kernel_rfl) (by kernel_rfl) (by (simp only [w64d, decide_eq_true_eq, decide_eq_false_iff_not, beq_iff_eq, beq_eq_false_iff_ne, bne_iff_ne, ne_eq, inR, Bool.and_eq_true, Bool.and_eq_false_iff, Bool.not_eq_true', Bool.not_eq_false', Bool.not_eq_eq_eq_not, Bool.not_true, Bool.not_false] at *; omega))
(.node (by kernel_rfl) (by kernel_rfl) (fun h12 =>
(.path [1] (by kernel_rfl)
(.node (by kernel_rfl) (by kernel_rfl) (fun h13 =>
(.path [1,1,1,1] (by kernel_rfl)
(.leaf (by kernel_rfl)))) (fun h13 =>
(.path [0,0,1,0,1,0] (by kernel_rfl)
(.pf (c := (!(n2 == n2 && (n4 == n4 && (n5 == n5 && (n6 == n6 && true) && true))))) (by kernel_rfl) (by kernel_rfl) (by (simp [*]; done))
(.path [1,0,1,0,0,0,1,0,1,1] (by kernel_rfl)
(.leaf (by kernel_rfl))))))))) (fun h12 =>
.none)))))))) (fun h10 =>
.none)))))))))))) (fun h8 =>
.none)))))) (fun h6 =>
.none)))))))))))))))))))

noncomputable def fn_L4_8_t4 : List Dat → Tree Step
  | [.l (Ty.pair (Ty.int IntKind.i64) (Ty.pair (Ty.int IntKind.i64) (Ty.pair (Ty.int IntKind.i64) (Ty.pair (Ty.int IntKind.i64) (Ty.pair (Ty.int IntKind.u64) (Ty.int IntKind.u32)))))) l0, .n n1, .n n2, .n n3, .n n4, .n n5, .n n6, .n n7, .n n8, .n n9, .n n10] =>
    (.node (Int.tmod (IntKind.wrap .i64 (Int.tmod (Prod.fst (List.getD l0 (Int.toNat n3) (Ty.dflt (Ty.pair (Ty.int IntKind.i64) (Ty.pair (Ty.int IntKind.i64) (Ty.pair (Ty.int IntKind.i64) (Ty.pair (Ty.int IntKind.i64) (Ty.pair (Ty.int IntKind.u64) (Ty.int IntKind.u32))))))))) (6 : Int) + (6 : Int))) (6 : Int) == (3 : Int))
     (.leaf (Step.go [.k 0, .l (Ty.pair (Ty.int IntKind.i64) (Ty.pair (Ty.int IntKind.i64) (Ty.pair (Ty.int IntKind.i64) (Ty.pair (Ty.int IntKind.i64) (Ty.pair (Ty.int IntKind.u64) (Ty.int IntKind.u32)))))) l0, .n n1, .n n2, .b true, .n (IntKind.wrap .i64 (n3 + (1 : Int))), .b true, .n n2]))
     (.node (Int.tmod (IntKind.wrap .i64 (Int.tmod (Prod.fst (List.getD l0 (Int.toNat n3) (Ty.dflt (Ty.pair (Ty.int IntKind.i64) (Ty.pair (Ty.int IntKind.i64) (Ty.pair (Ty.int IntKind.i64) (Ty.pair (Ty.int IntKind.i64) (Ty.pair (Ty.int IntKind.u64) (Ty.int IntKind.u32))))))))) (6 : Int) + (6 : Int))) (6 : Int) == (4 : Int))
      (.leaf (Step.go [.k 0, .l (Ty.pair (Ty.int IntKind.i64) (Ty.pair (Ty.int IntKind.i64) (Ty.pair (Ty.int IntKind.i64) (Ty.pair (Ty.int IntKind.i64) (Ty.pair (Ty.int IntKind.u64) (Ty.int IntKind.u32)))))) l0, .n n3, .n n2, .b false, .n (IntKind.wrap .i64 (n3 + (1 : Int))), .b false, .n n2]))
      (.node (Int.tmod (IntKind.wrap .i64 (Int.tmod (Prod.fst (List.getD l0 (Int.toNat n3) (Ty.dflt (Ty.pair (Ty.int IntKind.i64) (Ty.pair (Ty.int IntKind.i64) (Ty.pair (Ty.int IntKind.i64) (Ty.pair (Ty.int IntKind.i64) (Ty.pair (Ty.int IntKind.u64) (Ty.int IntKind.u32))))))))) (6 : Int) + (6 : Int))) (6 : Int) == (5 : Int))
       (.leaf (Step.go [.k 0, .l (Ty.pair (Ty.int IntKind.i64) (Ty.pair (Ty.int IntKind.i64) (Ty.pair (Ty.int IntKind.i64) (Ty.pair (Ty.int IntKind.i64) (Ty.pair (Ty.int IntKind.u64) (Ty.int IntKind.u32)))))) l0, .n n3, .n n2, .b true, .n (IntKind.wrap .i64 (n3 + (1 : Int))), .b true, .n n2]))
       (.node (decide ((Prod.fst (Prod.snd (List.getD l0 (Int.toNat n3) (Ty.dflt (Ty.pair (Ty.int IntKind.i64) (Ty.pair (Ty.int IntKind.i64) (Ty.pair (Ty.int IntKind.i64) (Ty.pair (Ty.int IntKind.i64) (Ty.pair (Ty.int IntKind.u64) (Ty.int IntKind.u32))))))))) : Int) < (0 : Int)))
        (let r1 : Option (Nat × List Dat) := (op_26 [.l (Ty.pair (Ty.int IntKind.i64) (Ty.pair (Ty.int IntKind.i64) (Ty.pair (Ty.int IntKind.i64) (Ty.pair (Ty.int IntKind.i64) (Ty.pair (Ty.int IntKind.u64) (Ty.int IntKind.u32)))))) (List.drop (Int.toNat n1) (List.take (Int.toNat (IntKind.wrap .i64 (n3 + (1 : Int)))) l0)), .n (0 : Int), .n n2, .n n8, .n n9, .n n10]);
         (.node (isK 0 [HK.b] r1)
          (.node (!gb (dOf r1) 0)
           (.leaf (Step.stop 3 [.b false]))
           (let r2 : Option (Nat × List Dat) := (op_26 [.l (Ty.pair (Ty.int IntKind.i64) (Ty.pair (Ty.int IntKind.i64) (Ty.pair (Ty.int IntKind.i64) (Ty.pair (Ty.int IntKind.i64) (Ty.pair (Ty.int IntKind.u64) (Ty.int IntKind.u32)))))) (List.drop (Int.toNat n1) (List.take (Int.toNat (IntKind.wrap .i64 (n3 + (1 : Int)))) l0)), .n (1 : Int), .n n2, .n n8, .n n9, .n n10]);
            (.node (isK 0 [HK.b] r2)
             (.node (!gb (dOf r2) 0)
              (.leaf (Step.stop 3 [.b false]))
              (.leaf (Step.go [.k 4, .l (Ty.pair (Ty.int IntKind.i64) (Ty.pair (Ty.int IntKind.i64) (Ty.pair (Ty.int IntKind.i64) (Ty.pair (Ty.int IntKind.i64) (Ty.pair (Ty.int IntKind.u64) (Ty.int IntKind.u32)))))) l0, .n n1, .n n2, .b false, .n (IntKind.wrap .i64 (n3 + (1 : Int))), .b false, .n n2, .n n4, .n n5, .n n6, .n n7, .n n2, .n n8, .n n9, .n n10])))
             (.bad 351))))
          (.bad 351)))
        (.node (decide ((Prod.fst (Prod.snd (List.getD l0 (Int.toNat n3) (Ty.dflt (Ty.pair (Ty.int IntKind.i64) (Ty.pair (Ty.int IntKind.i64) (Ty.pair (Ty.int IntKind.i64) (Ty.pair (Ty.int IntKind.i64) (Ty.pair (Ty.int IntKind.u64) (Ty.int IntKind.u32))))))))) : Int) ≥ (2 : Int)))
         (let r1 : Option (Nat × List Dat) := (op_26 [.l (Ty.pair (Ty.int IntKind.i64) (Ty.pair (Ty.int IntKind.i64) (Ty.pair (Ty.int IntKind.i64) (Ty.pair (Ty.int IntKind.i64) (Ty.pair (Ty.int IntKind.u64) (Ty.int IntKind.u32)))))) (List.drop (Int.toNat n1) (List.take (Int.toNat (IntKind.wrap .i64 (n3 + (1 : Int)))) l0)), .n (0 : Int), .n n2, .n n8, .n n9, .n n10]);
          (.node (isK 0 [HK.b] r1)
           (.node (!gb (dOf r1) 0)
            (.leaf (Step.stop 3 [.b false]))
            (let r2 : Option (Nat × List Dat) := (op_26 [.l (Ty.pair (Ty.int IntKind.i64) (Ty.pair (Ty.int IntKind.i64) (Ty.pair (Ty.int IntKind.i64) (Ty.pair (Ty.int IntKind.i64) (Ty.pair (Ty.int IntKind.u64) (Ty.int IntKind.u32)))))) (List.drop (Int.toNat n1) (List.take (Int.toNat (IntKind.wrap .i64 (n3 + (1 : Int)))) l0)), .n (1 : Int), .n n2, .n n8, .n n9, .n n10]);
             (.node (isK 0 [HK.b] r2)
              (.node (!gb (dOf r2) 0)
               (.leaf (Step.stop 3 [.b false]))
               (.leaf (Step.go [.k 4, .l (Ty.pair (Ty.int IntKind.i64) (Ty.pair (Ty.int IntKind.i64) (Ty.pair (Ty.int IntKind.i64) (Ty.pair (Ty.int IntKind.i64) (Ty.pair (Ty.int IntKind.u64) (Ty.int IntKind.u32)))))) l0, .n n1, .n n2, .b false, .n (IntKind.wrap .i64 (n3 + (1 : Int))), .b false, .n n2, .n n4, .n n5, .n n6, .n n7, .n n2, .n n8, .n n9, .n n10])))
              (.bad 351))))
           (.bad 351)))
         (.node (decide (IntKind.wrap .i64 ((1 : Int) - (Prod.fst (Prod.snd (List.getD l0 (Int.toNat n3) (Ty.dflt (Ty.pair (Ty.int IntKind.i64) (Ty.pair (Ty.int IntKind.i64) (Ty.pair (Ty.int IntKind.i64) (Ty.pair (Ty.int IntKind.i64) (Ty.pair (Ty.int IntKind.u64) (Ty.int IntKind.u32))))))))) : Int)) = (0 : Int)))
          (.node (decide ((Prod.fst (Prod.snd (List.getD l0 (Int.toNat n3) (Ty.dflt (Ty.pair (Ty.int IntKind.i64) (Ty.pair (Ty.int IntKind.i64) (Ty.pair (Ty.int IntKind.i64) (Ty.pair (Ty.int IntKind.i64) (Ty.pair (Ty.int IntKind.u64) (Ty.int IntKind.u32))))))))) : Int) = (0 : Int)))
           (.leaf (Step.go [.k 0, .l (Ty.pair (Ty.int IntKind.i64) (Ty.pair (Ty.int IntKind.i64) (Ty.pair (Ty.int IntKind.i64) (Ty.pair (Ty.int IntKind.i64) (Ty.pair (Ty.int IntKind.u64) (Ty.int IntKind.u32)))))) l0, .n n1, .n n2, .b true, .n (IntKind.wrap .i64 (n3 + (1 : Int))), .b true, .n n2]))
           (.node (decide ((Prod.fst (Prod.snd (List.getD l0 (Int.toNat n3) (Ty.dflt (Ty.pair (Ty.int IntKind.i64) (Ty.pair (Ty.int IntKind.i64) (Ty.pair (Ty.int IntKind.i64) (Ty.pair (Ty.int IntKind.i64) (Ty.pair (Ty.int IntKind.u64) (Ty.int IntKind.u32))))))))) : Int) = (1 : Int)))
            (.node (decide ((Prod.fst (Prod.snd (Prod.snd (List.getD l0 (Int.toNat n3) (Ty.dflt (Ty.pair (Ty.int IntKind.i64) (Ty.pair (Ty.int IntKind.i64) (Ty.pair (Ty.int IntKind.i64) (Ty.pair (Ty.int IntKind.i64) (Ty.pair (Ty.int IntKind.u64) (Ty.int IntKind.u32)))))))))) : Int) ≤ n2))
             (.leaf (Step.go [.k 0, .l (Ty.pair (Ty.int IntKind.i64) (Ty.pair (Ty.int IntKind.i64) (Ty.pair (Ty.int IntKind.i64) (Ty.pair (Ty.int IntKind.i64) (Ty.pair (Ty.int IntKind.u64) (Ty.int IntKind.u32)))))) l0, .n n1, .n n2, .b true, .n (IntKind.wrap .i64 (n3 + (1 : Int))), .b true, .n n2]))
             (.node (!(n4 == Prod.fst (Prod.snd (Prod.snd (List.getD l0 (Int.toNat n3) (Ty.dflt (Ty.pair (Ty.int IntKind.i64) (Ty.pair (Ty.int IntKind.i64) (Ty.pair (Ty.int IntKind.i64) (Ty.pair (Ty.int IntKind.i64) (Ty.pair (Ty.int IntKind.u64) (Ty.int IntKind.u32)))))))))) && (n5 == Prod.fst (Prod.snd (Prod.snd (Prod.snd (List.getD l0 (Int.toNat n3) (Ty.dflt (Ty.pair (Ty.int IntKind.i64) (Ty.pair (Ty.int IntKind.i64) (Ty.pair (Ty.int IntKind.i64) (Ty.pair (Ty.int IntKind.i64) (Ty.pair (Ty.int IntKind.u64) (Ty.int IntKind.u32))))))))))) && (n6 == Prod.fst (Prod.snd (Prod.snd (Prod.snd (Prod.snd (List.getD l0 (Int.toNat n3) (Ty.dflt (Ty.pair (Ty.int IntKind.i64) (Ty.pair (Ty.int IntKind.i64) (Ty.pair (Ty.int IntKind.i64) (Ty.pair (Ty.int IntKind.i64) (Ty.pair (Ty.int IntKind.u64) (Ty.int IntKind.u32)))))))))))) && (n7 == Prod.snd (Prod.snd (Prod.snd (Prod.snd (Prod.snd (List.getD l0 (Int.toNat n3) (Ty.dflt (Ty.pair (Ty.int IntKind.i64) (Ty.pair (Ty.int IntKind.i64) (Ty.pair (Ty.int IntKind.i64) (Ty.pair (Ty.int IntKind.i64) (Ty.pair (Ty.int IntKind.u64) (Ty.int IntKind.u32)))))))))))) && true) && true))))
              (.leaf (Step.go [.k 0, .l (Ty.pair (Ty.int IntKind.i64) (Ty.pair (Ty.int IntKind.i64) (Ty.pair (Ty.int IntKind.i64) (Ty.pair (Ty.int IntKind.i64) (Ty.pair (Ty.int IntKind.u64) (Ty.int IntKind.u32)))))) l0, .n n1, .n n2, .b true, .n (IntKind.wrap .i64 (n3 + (1 : Int))), .b true, .n n2]))
              (let r1 : Option (Nat × List Dat) := (op_26 [.l (Ty.pair (Ty.int IntKind.i64) (Ty.pair (Ty.int IntKind.i64) (Ty.pair (Ty.int IntKind.i64) (Ty.pair (Ty.int IntKind.i64) (Ty.pair (Ty.int IntKind.u64) (Ty.int IntKind.u32)))))) (List.drop (Int.toNat n1) (List.take (Int.toNat (IntKind.wrap .i64 (n3 + (1 : Int)))) l0)), .n (0 : Int), .n (Prod.fst (Prod.snd (Prod.snd (List.getD l0 (Int.toNat n3) (Ty.dflt (Ty.pair (Ty.int IntKind.i64) (Ty.pair (Ty.int IntKind.i64) (Ty.pair (Ty.int IntKind.i64) (Ty.pair (Ty.int IntKind.i64) (Ty.pair (Ty.int IntKind.u64) (Ty.int IntKind.u32))))))))))), .n (Prod.fst (Prod.snd (Prod.snd (Prod.snd (List.getD l0 (Int.toNat n3) (Ty.dflt (Ty.pair (Ty.int IntKind.i64) (Ty.pair (Ty.int IntKind.i64) (Ty.pair (Ty.int IntKind.i64) (Ty.pair (Ty.int IntKind.i64) (Ty.pair (Ty.int IntKind.u64) (Ty.int IntKind.u32)))))))))))), .n (Prod.fst (Prod.snd (Prod.snd (Prod.snd (Prod.snd (List.getD l0 (Int.toNat n3) (Ty.dflt (Ty.pair (Ty.int IntKind.i64) (Ty.pair (Ty.int IntKind.i64) (Ty.pair (Ty.int IntKind.i64) (Ty.pair (Ty.int IntKind.i64) (Ty.pair (Ty.int IntKind.u64) (Ty.int IntKind.u32))))))))))))), .n (Prod.snd (Prod.snd (Prod.snd (Prod.snd (Prod.snd (List.getD l0 (Int.toNat n3) (Ty.dflt (Ty.pair (Ty.int IntKind.i64) (Ty.pair (Ty.int IntKind.i64) (Ty.pair (Ty.int IntKind.i64) (Ty.pair (Ty.int IntKind.i64) (Ty.pair (Ty.int IntKind.u64) (Ty.int IntKind.u32)))))))))))))]);
               (.node (isK 0 [HK.b] r1)
                (.node (!gb (dOf r1) 0)
                 (.leaf (Step.stop 3 [.b false]))
                 (let r2 : Option (Nat × List Dat) := (op_26 [.l (Ty.pair (Ty.int IntKind.i64) (Ty.pair (Ty.int IntKind.i64) (Ty.pair (Ty.int IntKind.i64) (Ty.pair (Ty.int IntKind.i64) (Ty.pair (Ty.int IntKind.u64) (Ty.int IntKind.u32)))))) (List.drop (Int.toNat n1) (List.take (Int.toNat (IntKind.wrap .i64 (n3 + (1 : Int)))) l0)), .n (1 : Int), .n (Prod.fst (Prod.snd (Prod.snd (List.getD l0 (Int.toNat n3) (Ty.dflt (Ty.pair (Ty.int IntKind.i64) (Ty.pair (Ty.int IntKind.i64) (Ty.pair (Ty.int IntKind.i64) (Ty.pair (Ty.int IntKind.i64) (Ty.pair (Ty.int IntKind.u64) (Ty.int IntKind.u32))))))))))), .n (Prod.fst (Prod.snd (Prod.snd (Prod.snd (List.getD l0 (Int.toNat n3) (Ty.dflt (Ty.pair (Ty.int IntKind.i64) (Ty.pair (Ty.int IntKind.i64) (Ty.pair (Ty.int IntKind.i64) (Ty.pair (Ty.int IntKind.i64) (Ty.pair (Ty.int IntKind.u64) (Ty.int IntKind.u32)))))))))))), .n (Prod.fst (Prod.snd (Prod.snd (Prod.snd (Prod.snd (List.getD l0 (Int.toNat n3) (Ty.dflt (Ty.pair (Ty.int IntKind.i64) (Ty.pair (Ty.int IntKind.i64) (Ty.pair (Ty.int IntKind.i64) (Ty.pair (Ty.int IntKind.i64) (Ty.pair (Ty.int IntKind.u64) (Ty.int IntKind.u32))))))))))))), .n (Prod.snd (Prod.snd (Prod.snd (Prod.snd (Prod.snd (List.getD l0 (Int.toNat n3) (Ty.dflt (Ty.pair (Ty.int IntKind.i64) (Ty.pair (Ty.int IntKind.i64) (Ty.pair (Ty.int IntKind.i64) (Ty.pair (Ty.int IntKind.i64) (Ty.pair (Ty.int IntKind.u64) (Ty.int IntKind.u32)))))))))))))]);
                  (.node (isK 0 [HK.b] r2)
                   (.node (!gb (dOf r2) 0)
                    (.leaf (Step.stop 3 [.b false]))
                    (.node (!(Prod.fst (Prod.snd (Prod.snd (List.getD l0 (Int.toNat n3) (Ty.dflt (Ty.pair (Ty.int IntKind.i64) (Ty.pair (Ty.int IntKind.i64) (Ty.pair (Ty.int IntKind.i64) (Ty.pair (Ty.int IntKind.i64) (Ty.pair (Ty.int IntKind.u64) (Ty.int IntKind.u32)))))))))) == n2 && (Prod.fst (Prod.snd (Prod.snd (Prod.snd (List.getD l0 (Int.toNat n3) (Ty.dflt (Ty.pair (Ty.int IntKind.i64) (Ty.pair (Ty.int IntKind.i64) (Ty.pair (Ty.int IntKind.i64) (Ty.pair (Ty.int IntKind.i64) (Ty.pair (Ty.int IntKind.u64) (Ty.int IntKind.u32))))))))))) == n8 && (Prod.fst (Prod.snd (Prod.snd (Prod.snd (Prod.snd (List.getD l0 (Int.toNat n3) (Ty.dflt (Ty.pair (Ty.int IntKind.i64) (Ty.pair (Ty.int IntKind.i64) (Ty.pair (Ty.int IntKind.i64) (Ty.pair (Ty.int IntKind.i64) (Ty.pair (Ty.int IntKind.u64) (Ty.int IntKind.u32)))))))))))) == n9 && (Prod.snd (Prod.snd (Prod.snd (Prod.snd (Prod.snd (List.getD l0 (Int.toNat n3) (Ty.dflt (Ty.pair (Ty.int IntKind.i64) (Ty.pair (Ty.int IntKind.i64) (Ty.pair (Ty.int IntKind.i64) (Ty.pair (Ty.int IntKind.i64) (Ty.pair (Ty.int IntKind.u64) (Ty.int IntKind.u32)))))))))))) == n10 && true) && true))))
                     (.node (decide ((Prod.fst (Prod.snd (Prod.snd (List.getD l0 (Int.toNat n3) (Ty.dflt (Ty.pair (Ty.int IntKind.i64) (Ty.pair (Ty.int IntKind.i64) (Ty.pair (Ty.int IntKind.i64) (Ty.pair (Ty.int IntKind.i64) (Ty.pair (Ty.int IntKind.u64) (Ty.int IntKind.u32)))))))))) : Int) ≤ n2))
                      (.leaf (Step.stop 3 [.b false]))
                      (.leaf (Step.go [.k 3, .l (Ty.pair (Ty.int IntKind.i64) (Ty.pair (Ty.int IntKind.i64) (Ty.pair (Ty.int IntKind.i64) (Ty.pair (Ty.int IntKind.i64) (Ty.pair (Ty.int IntKind.u64) (Ty.int IntKind.u32)))))) l0, .n n1, .n (Prod.fst (Prod.snd (Prod.snd (List.getD l0 (Int.toNat n3) (Ty.dflt (Ty.pair (Ty.int IntKind.i64) (Ty.pair (Ty.int IntKind.i64) (Ty.pair (Ty.int IntKind.i64) (Ty.pair (Ty.int IntKind.i64) (Ty.pair (Ty.int IntKind.u64) (Ty.int IntKind.u32))))))))))), .b false, .n (IntKind.wrap .i64 (n3 + (1 : Int))), .b false, .n (Prod.fst (Prod.snd (Prod.snd (List.getD l0 (Int.toNat n3) (Ty.dflt (Ty.pair (Ty.int IntKind.i64) (Ty.pair (Ty.int IntKind.i64) (Ty.pair (Ty.int IntKind.i64) (Ty.pair (Ty.int IntKind.i64) (Ty.pair (Ty.int IntKind.u64) (Ty.int IntKind.u32))))))))))), .n (Prod.fst (Prod.snd (Prod.snd (List.getD l0 (Int.toNat n3) (Ty.dflt (Ty.pair (Ty.int IntKind.i64) (Ty.pair (Ty.int IntKind.i64) (Ty.pair (Ty.int IntKind.i64) (Ty.pair (Ty.int IntKind.i64) (Ty.pair (Ty.int IntKind.u64) (Ty.int IntKind.u32))))))))))), .n (Prod.fst (Prod.snd (Prod.snd (Prod.snd (List.getD l0 (Int.toNat n3) (Ty.dflt (Ty.pair (Ty.int IntKind.i64) (Ty.pair (Ty.int IntKind.i64) (Ty.pair (Ty.int IntKind.i64) (Ty.pair (Ty.int IntKind.i64) (Ty.pair (Ty.int IntKind.u64) (Ty.int IntKind.u32)))))))))))), .n (Prod.fst (Prod.snd (Prod.snd (Prod.snd (Prod.snd (List.getD l0 (Int.toNat n3) (Ty.dflt (Ty.pair (Ty.int IntKind.i64) (Ty.pair (Ty.int IntKind.i64) (Ty.pair (Ty.int IntKind.i64) (Ty.pair (Ty.int IntKind.i64) (Ty.pair (Ty.int IntKind.u64) (Ty.int IntKind.u32))))))))))))), .n (Prod.snd (Prod.snd (Prod.snd (Prod.snd (Prod.snd (List.getD l0 (Int.toNat n3) (Ty.dflt (Ty.pair (Ty.int IntKind.i64) (Ty.pair (Ty.int IntKind.i64) (Ty.pair (Ty.int IntKind.i64) (Ty.pair (Ty.int IntKind.i64) (Ty.pair (Ty.int IntKind.u64) (Ty.int IntKind.u32)))))))))))))])))
                     (.leaf (Step.go [.k 3, .l (Ty.pair (Ty.int IntKind.i64) (Ty.pair (Ty.int IntKind.i64) (Ty.pair (Ty.int IntKind.i64) (Ty.pair (Ty.int IntKind.i64) (Ty.pair (Ty.int IntKind.u64) (Ty.int IntKind.u32)))))) l0, .n n1, .n n2, .b false, .n (IntKind.wrap .i64 (n3 + (1 : Int))), .b false, .n (Prod.fst (Prod.snd (Prod.snd (List.getD l0 (Int.toNat n3) (Ty.dflt (Ty.pair (Ty.int IntKind.i64) (Ty.pair (Ty.int IntKind.i64) (Ty.pair (Ty.int IntKind.i64) (Ty.pair (Ty.int IntKind.i64) (Ty.pair (Ty.int IntKind.u64) (Ty.int IntKind.u32))))))))))), .n (Prod.fst (Prod.snd (Prod.snd (List.getD l0 (Int.toNat n3) (Ty.dflt (Ty.pair (Ty.int IntKind.i64) (Ty.pair (Ty.int IntKind.i64) (Ty.pair (Ty.int IntKind.i64) (Ty.pair (Ty.int IntKind.i64) (Ty.pair (Ty.int IntKind.u64) (Ty.int IntKind.u32))))))))))), .n (Prod.fst (Prod.snd (Prod.snd (Prod.snd (List.getD l0 (Int.toNat n3) (Ty.dflt (Ty.pair (Ty.int IntKind.i64) (Ty.pair (Ty.int IntKind.i64) (Ty.pair (Ty.int IntKind.i64) (Ty.pair (Ty.int IntKind.i64) (Ty.pair (Ty.int IntKind.u64) (Ty.int IntKind.u32)))))))))))), .n (Prod.fst (Prod.snd (Prod.snd (Prod.snd (Prod.snd (List.getD l0 (Int.toNat n3) (Ty.dflt (Ty.pair (Ty.int IntKind.i64) (Ty.pair (Ty.int IntKind.i64) (Ty.pair (Ty.int IntKind.i64) (Ty.pair (Ty.int IntKind.i64) (Ty.pair (Ty.int IntKind.u64) (Ty.int IntKind.u32))))))))))))), .n (Prod.snd (Prod.snd (Prod.snd (Prod.snd (Prod.snd (List.getD l0 (Int.toNat n3) (Ty.dflt (Ty.pair (Ty.int IntKind.i64) (Ty.pair (Ty.int IntKind.i64) (Ty.pair (Ty.int IntKind.i64) (Ty.pair (Ty.int IntKind.i64) (Ty.pair (Ty.int IntKind.u64) (Ty.int IntKind.u32)))))))))))))]))))
                   (.bad 351))))
                (.bad 351)))))
            (.bad 70)))
          (.node (decide (IntKind.wrap .i64 ((1 : Int) - (Prod.fst (Prod.snd (List.getD l0 (Int.toNat n3) (Ty.dflt (Ty.pair (Ty.int IntKind.i64) (Ty.pair (Ty.int IntKind.i64) (Ty.pair (Ty.int IntKind.i64) (Ty.pair (Ty.int IntKind.i64) (Ty.pair (Ty.int IntKind.u64) (Ty.int IntKind.u32))))))))) : Int)) = (1 : Int)))
           (.node (decide ((Prod.fst (Prod.snd (List.getD l0 (Int.toNat n3) (Ty.dflt (Ty.pair (Ty.int IntKind.i64) (Ty.pair (Ty.int IntKind.i64) (Ty.pair (Ty.int IntKind.i64) (Ty.pair (Ty.int IntKind.i64) (Ty.pair (Ty.int IntKind.u64) (Ty.int IntKind.u32))))))))) : Int) = (0 : Int)))
            (.leaf (Step.go [.k 0, .l (Ty.pair (Ty.int IntKind.i64) (Ty.pair (Ty.int IntKind.i64) (Ty.pair (Ty.int IntKind.i64) (Ty.pair (Ty.int IntKind.i64) (Ty.pair (Ty.int IntKind.u64) (Ty.int IntKind.u32)))))) l0, .n n1, .n n2, .b true, .n (IntKind.wrap .i64 (n3 + (1 : Int))), .b true, .n n2]))
            (.node (decide ((Prod.fst (Prod.snd (List.getD l0 (Int.toNat n3) (Ty.dflt (Ty.pair (Ty.int IntKind.i64) (Ty.pair (Ty.int IntKind.i64) (Ty.pair (Ty.int IntKind.i64) (Ty.pair (Ty.int IntKind.i64) (Ty.pair (Ty.int IntKind.u64) (Ty.int IntKind.u32))))))))) : Int) = (1 : Int)))
             (.node (decide ((Prod.fst (Prod.snd (Prod.snd (List.getD l0 (Int.toNat n3) (Ty.dflt (Ty.pair (Ty.int IntKind.i64) (Ty.pair (Ty.int IntKind.i64) (Ty.pair (Ty.int IntKind.i64) (Ty.pair (Ty.int IntKind.i64) (Ty.pair (Ty.int IntKind.u64) (Ty.int IntKind.u32)))))))))) : Int) ≤ n2))
              (.leaf (Step.go [.k 0, .l (Ty.pair (Ty.int IntKind.i64) (Ty.pair (Ty.int IntKind.i64) (Ty.pair (Ty.int IntKind.i64) (Ty.pair (Ty.int IntKind.i64) (Ty.pair (Ty.int IntKind.u64) (Ty.int IntKind.u32)))))) l0, .n n1, .n n2, .b true, .n (IntKind.wrap .i64 (n3 + (1 : Int))), .b true, .n n2]))
              (let r1 : Option (Nat × List Dat) := (op_26 [.l (Ty.pair (Ty.int IntKind.i64) (Ty.pair (Ty.int IntKind.i64) (Ty.pair (Ty.int IntKind.i64) (Ty.pair (Ty.int IntKind.i64) (Ty.pair (Ty.int IntKind.u64) (Ty.int IntKind.u32)))))) (List.drop (Int.toNat n1) (List.take (Int.toNat (IntKind.wrap .i64 (n3 + (1 : Int)))) l0)), .n (0 : Int), .n n2, .n n8, .n n9, .n n10]);
               (.node (isK 0 [HK.b] r1)
                (.node (!gb (dOf r1) 0)
                 (.leaf (Step.stop 3 [.b false]))
                 (let r2 : Option (Nat × List Dat) := (op_26 [.l (Ty.pair (Ty.int IntKind.i64) (Ty.pair (Ty.int IntKind.i64) (Ty.pair (Ty.int IntKind.i64) (Ty.pair (Ty.int IntKind.i64) (Ty.pair (Ty.int IntKind.u64) (Ty.int IntKind.u32)))))) (List.drop (Int.toNat n1) (List.take (Int.toNat (IntKind.wrap .i64 (n3 + (1 : Int)))) l0)), .n (1 : Int), .n n2, .n n8, .n n9, .n n10]);
                  (.node (isK 0 [HK.b] r2)
                   (.node (!gb (dOf r2) 0)
                    (.leaf (Step.stop 3 [.b false]))
                    (.bad 334))
                   (.bad 351))))
                (.bad 351))))
             (.bad 70)))
           (.bad 70))))))))
  | _ => .bad 0
theorem fn_L4_8_t4_im (l0 : List (Ty.den (Ty.pair (Ty.int IntKind.i64) (Ty.pair (Ty.int IntKind.i64) (Ty.pair (Ty.int IntKind.i64) (Ty.pair (Ty.int IntKind.i64) (Ty.pair (Ty.int IntKind.u64) (Ty.int IntKind.u32)))))))) (n1 : Int) (n2 : Int) (n3 : Int) (n4 : Int) (n5 : Int) (n6 : Int) (n7 : Int) (n8 : Int) (n9 : Int) (n10 : Int) (g0 : 0 ≤ n1) (g1 :  n1 ≤ n3) (g2 :  n3 < (l0.length : Int)) (g3 :  l0.length ≤ 200) : Imp (fn_L4_8_t4 [.l (Ty.pair (Ty.int IntKind.i64) (Ty.pair (Ty.int IntKind.i64) (Ty.pair (Ty.int IntKind.i64) (Ty.pair (Ty.int IntKind.i64) (Ty.pair (Ty.int IntKind.u64) (Ty.int IntKind.u32)))))) l0, .n n1, .n n2, .n n3, .n n4, .n n5, .n n6, .n n7, .n n8, .n n9, .n n10]) (st_L4_8 [.k 4, .l TCl l0, .n n1, .n n2, .b false, .n n3, .b false, .n n2, .n n4, .n n5, .n n6, .n n7, .n n2, .n n8, .n n9, .n n10]) :=
(.path [1] (by kernel_rfl)
(.pt (c := (decide (n3 < (↑(List.length l0) : Int)))) (by kernel_rfl) (by kernel_rfl) (by (simp [*]; done))
(.pt (c := (inR n3 (List.length l0))) (by kernel_rfl) (by kernel_rfl) (by (simp only [w64d, decide_eq_true_eq, decide_eq_false_iff_not, beq_iff_eq, beq_eq_false_iff_ne, bne_iff_ne, ne_eq, inR, Bool.and_eq_true, Bool.and_eq_false_iff, Bool.not_eq_true', Bool.not_eq_false', Bool.not_eq_eq_eq_not, Bool.not_true, Bool.not_false] at *; omega))
(.path [1,0,1,1,1,1,0,0,1] (by kernel_rfl)
(.node (by kernel_rfl) (by kernel_rfl) (fun h0 =>
(.path (1 ::0 ::0 ::1 ::1 ::1 ::1 ::1 ::1 ::1 ::1 ::1 ::0 ::1 ::1 ::0 ::0 ::1 ::0 ::0 ::0 ::0 ::1 ::0 ::1 ::0 ::0 ::0 ::1 ::0 ::1 ::1 :: []) (by kernel_rfl)
(.leaf (by kernel_rfl)))) (fun h0 =>
(.node (by kernel_rfl) (by kernel_rfl) (fun h1 =>
(.path [1,1,1,1,0,1,1,0,0,1,0,0,0,0,1,0,1,1,0,1,0,1,1] (by kernel_rfl)
(.leaf (by kernel_rfl)))) (fun h1 =>
(.node (by kernel_rfl) (by kernel_rfl) (fun h2 =>
(.path [1,1,1,1,0,1,1,0,0,1,0,0,0,0,1,0,1,0,0,0,1,0,1,1] (by kernel_rfl)
(.leaf (by kernel_rfl)))) (fun h2 =>
(.path [1,0] (by kernel_rfl)
(.node (by kernel_rfl) (by kernel_rfl) (fun h3 =>
(.path [1,1,1,1,0,0,1,1] (by kernel_rfl)
(.pt (c := (decide ((0 : Int) ≤ IntKind.wrap .i64 (n3 + (1 : Int))) && decide (IntKind.wrap .i64 (n3 + (1 : Int)) ≤ (↑(List.length l0) : Int)))) (by kernel_rfl) (by kernel_rfl) (by (simp only [w64d, decide_eq_true_eq, decide_eq_false_iff_not, beq_iff_eq, beq_eq_false_iff_ne, bne_iff_ne, ne_eq, inR, Bool.and_eq_true, Bool.and_eq_false_iff, Bool.not_eq_true', Bool.not_eq_false', Bool.not_eq_eq_eq_not, Bool.not_true, Bool.not_false] at *; omega))
(.pt (c := (decide ((0 : Int) ≤ n1) && decide (n1 ≤ IntKind.wrap .i64 (n3 + (1 : Int))))) (by kernel_rfl) (by kernel_rfl) (by (simp only [w64d, decide_eq_true_eq, decide_eq_false_iff_not, beq_iff_eq, beq_eq_false_iff_ne, bne_iff_ne, ne_eq, inR, Bool.and_eq_true, Bool.and_eq_false_iff, Bool.not_eq_true', Bool.not_eq_false', Bool.not_eq_eq_eq_not, Bool.not_true, Bool.not_false] at *; omega))
(.node (by kernel_rfl) (by kernel_rfl) (fun h4 =>
(.path [1] (by kernel_rfl)
(.node (by kernel_rfl) (by kernel_rfl) (fun h5 =>
(.path [1,1,1,1,1,1] (by kernel_rfl)
(.leaf (by kernel_rfl)))) (fun h5 =>
(.pt (c := (decide ((0 : Int) ≤ IntKind.wrap .i64 (n3 + (1 : Int))) && decide (IntKind.wrap .i64 (n3 + (1 : Int)) ≤ (↑(List.length l0) : Int)))) (by kernel_rfl) (by kernel_rfl) (by (simp only [w64d, decide_eq_true_eq, decide_eq_false_iff_not, beq_iff_eq, beq_eq_false_iff_ne, bne_iff_ne, ne_eq, inR, Bool.and_eq_true, Bool.and_eq_false_iff, Bool.not_eq_true', Bool.not_eq_false', Bool.not_eq_eq_eq_not, Bool.not_true, Bool.not_false] at *; omega))
(.pt (c := (decide ((0 : Int) ≤ n1) && decide (n1 ≤ IntKind.wrap .i64 (n3 + (1 : Int))))) (by kernel_rfl) (by kernel_rfl) (by (simp only [w64d, decide_eq_true_eq, decide_eq_false_iff_not, beq_iff_eq, beq_eq_false_iff_ne, bne_iff_ne, ne_eq, inR, Bool.and_eq_true, Bool.and_eq_false_iff, Bool.not_eq_true', Bool.not_eq_false', Bool.not_eq_eq_eq_not, Bool.not_true, Bool.not_false] at *; omega))
(.node (by kernel_rfl) (by kernel_rfl) (fun h6 =>
(.path [1] (by kernel_rfl)
(.node (by kernel_rfl) (by kernel_rfl) (fun h7 =>
(.path [1,1,1,1] (by kernel_rfl)
(.leaf (by kernel_rfl)))) (fun h7 =>
(.path [0,0,1,0,1,0] (by kernel_rfl)
(.pf (c := (!(n2 == n2 && (n8 == n8 && (n9 == n9 && (n10 == n10 && true) && true))))) (by kernel_rfl) (by kernel_rfl) (by (simp [*]; done))
(.path [1,0,1,0,0,0,1,0,1,1] (by kernel_rfl)
(.leaf (by kernel_rfl))))))))) (fun h6 =>
.none)))))))) (fun h4 =>
.none)))))) (fun h3 =>
(.node (by kernel_rfl) (by kernel_rfl) (fun h4 =>
(.path [1,1,0,0,1,1] (by kernel_rfl)
(.pt (c := (decide ((0 : Int) ≤ IntKind.wrap .i64 (n3 + (1 : Int))) && decide (IntKind.wrap .i64 (n3 + (1 : Int)) ≤ (↑(List.length l0) : Int)))) (by kernel_rfl) (by kernel_rfl) (by (simp only [w64d, decide_eq_true_eq, decide_eq_false_iff_not, beq_iff_eq, beq_eq_false_iff_ne, bne_iff_ne, ne_eq, inR, Bool.and_eq_true, Bool.and_eq_false_iff, Bool.not_eq_true', Bool.not_eq_false', Bool.not_eq_eq_eq_not, Bool.not_true, Bool.not_false] at *; omega))
(.pt (c := (decide ((0 : Int) ≤ n1) && decide (n1 ≤ IntKind.wrap .i64 (n3 + (1 : Int))))) (by kernel_rfl) (by kernel_rfl) (by (simp only [w64d, decide_eq_true_eq, decide_eq_false_iff_not, beq_iff_eq, beq_eq_false_iff_ne, bne_iff_ne, ne_eq, inR, Bool.and_eq_true, Bool.and_eq_false_iff, Bool.not_eq_true', Bool.not_eq_false', Bool.not_eq_eq_eq_not, Bool.not_true, Bool.not_false] at *; omega))
(.node (by kernel_rfl) (by kernel_rfl) (fun h5 =>
(.path [1] (by kernel_rfl)
(.node (by kernel_rfl) (by kernel_rfl) (fun h6 =>
(.path [1,1,1,1,1,1] (by kernel_rfl)
(.leaf (by kernel_rfl)))) (fun h6 =>
(.pt (c := (decide ((0 : Int) ≤ IntKind.wrap .i64 (n3 + (1 : Int))) && decide (IntKind.wrap .i64 (n3 + (1 : Int)) ≤ (↑(List.length l0) : Int)))) (by kernel_rfl) (by kernel_rfl) (by (simp only [w64d, decide_eq_true_eq, decide_eq_false_iff_not, beq_iff_eq, beq_eq_false_iff_ne, bne_iff_ne, ne_eq, inR, Bool.and_eq_true, Bool.and_eq_false_iff, Bool.not_eq_true', Bool.not_eq_false', Bool.not_eq_eq_eq_not, Bool.not_true, Bool.not_false] at *; omega))
(.pt (c := (decide ((0 : Int) ≤ n1) && decide (n1 ≤ IntKind.wrap .i64 (n3 + (1 : Int))))) (by kernel_rfl) (by kernel_rfl) (by (simp only [w64d, decide_eq_true_eq, decide_eq_false_iff_not, beq_iff_eq, beq_eq_false_iff_ne, bne_iff_ne, ne_eq, inR, Bool.and_eq_true, Bool.and_eq_false_iff, Bool.not_eq_true', Bool.not_eq_false', Bool.not_eq_eq_eq_not, Bool.not_true, Bool.not_false] at *; omega))
(.node (by kernel_rfl) (by kernel_rfl) (fun h7 =>
(.path [1] (by kernel_rfl)
(.node (by kernel_rfl) (by kernel_rfl) (fun h8 =>
(.path [1,1,1,1] (by kernel_rfl)
(.leaf (by kernel_rfl)))) (fun h8 =>
(.path [0,0,1,0,1,0] (by kernel_rfl)
(.pf (c := (!(n2 == n2 && (n8 == n8 && (n9 == n9 && (n10 == n10 && true) && true))))) (by kernel_rfl) (by kernel_rfl) (by (simp [*]; done))
(.path [1,0,1,0,0,0,1,0,1,1] (by kernel_rfl)
(.leaf (by kernel_rfl))))))))) (fun h7 =>
.none)))))))) (fun h5 =>
.none)))))) (fun h4 =>
(.node (by kernel_rfl) (by kernel_rfl) (fun h5 =>
(.path [0] (by kernel_rfl)
(.node (by kernel_rfl) (by kernel_rfl) (fun h6 =>
(.path (1 ::1 ::1 ::1 ::1 ::1 ::1 ::1 ::1 ::1 ::1 ::0 ::1 ::1 ::0 ::0 ::1 ::0 ::0 ::0 ::0 ::1 ::0 ::1 ::0 ::0 ::0 ::1 ::0 ::1 ::1 :: []) (by kernel_rfl)
(.leaf (by kernel_rfl)))) (fun h6 =>
(.node (by kernel_rfl) (by kernel_rfl) (fun h7 =>
(.path [0] (by kernel_rfl)
(.node (by kernel_rfl) (by kernel_rfl) (fun h8 =>
(.path [1,1,1,1,1,1,1,1,0,1,1,0,0,1,0,0,0,0,1,0,1,0,0,0,1,0,1,1] (by kernel_rfl)
(.leaf (by kernel_rfl)))) (fun h8 =>
(.path [1,1] (by kernel_rfl)
(.node (by kernel_rfl) (by kernel_rfl) (fun h9 =>
(.path [1,1,1,1,1,0,1,1,0,0,1,0,0,0,0,1,0,1,0,0,0,1,0,1,1] (by kernel_rfl)
(.leaf (by kernel_rfl)))) (fun h9 =>
(.path [0,1,1,0,0,1,1] (by kernel_rfl)
(.pt (c := (decide ((0 : Int) ≤ IntKind.wrap .i64 (n3 + (1 : Int))) && decide (IntKind.wrap .i64 (n3 + (1 : Int)) ≤ (↑(List.length l0) : Int)))) (by kernel_rfl) (by kernel_rfl) (by (simp only [w64d, decide_eq_true_eq, decide_eq_false_iff_not, beq_iff_eq, beq_eq_false_iff_ne, bne_iff_ne, ne_eq, inR, Bool.and_eq_true, Bool.and_eq_false_iff, Bool.not_eq_true', Bool.not_eq_false', Bool.not_eq_eq_eq_not, Bool.not_true, Bool.not_false] at *; omega))
(.pt (c := (decide ((0 : Int) ≤ n1) && decide (n1 ≤ IntKind.wrap .i64 (n3 + (1 : Int))))) (by kernel_rfl) (by kernel_rfl) (by (simp only [w64d, decide_eq_true_eq, decide_eq_false_iff_not, beq_iff_eq, beq_eq_false_iff_ne, bne_iff_ne, ne_eq, inR, Bool.and_eq_true, Bool.and_eq_false_iff, Bool.not_eq_true', Bool.not_eq_false', Bool.not_eq_eq_eq_not, Bool.not_true, Bool.not_false] at *; omega))
(.node (by kernel_rfl) (by kernel_rfl) (fun h10 =>
(.path [1] (by kernel_rfl)
(.node (by kernel_rfl) (by kernel_rfl) (fun h11 =>
(.path [1,1,1,1,1,1] (by kernel_rfl)
(.leaf (by kernel_rfl)))) (fun h11 =>
(.pt (c := (decide ((0 : Int) ≤ IntKind.wrap .i64 (n3 + (1 : Int))) && decide (IntKind.wrap .i64 (n3 + (1 : Int)) ≤ (↑(List.length l0) : Int)))) (by kernel_rfl) (by kernel_rfl) (by (simp only [w64d, decide_eq_true_eq, decide_eq_false_iff_not, beq_iff_eq, beq_eq_false_iff_ne, bne_iff_ne, ne_eq, inR, Bool.and_eq_true, Bool.and_eq_false_iff, Bool.not_eq_true', Bool.not_eq_false', Bool.not_eq_eq_eq_not, Bool.not_true, Bool.not_false] at *; omega))
(.pt (c := (decide ((0 : Int) ≤ n1) && decide (n1 ≤ IntKind.wrap .i64 (n3 + (1 : Int))))) (by kernel_rfl) (by kernel_rfl) (by (simp only [w64d, decide_eq_true_eq, decide_eq_false_iff_not, beq_iff_eq, beq_eq_false_iff_ne, bne_iff_ne, ne_eq, inR, Bool.and_eq_true, Bool.and_eq_false_iff, Bool.not_eq_true', Bool.not_eq_false', Bool.not_eq_eq_eq_not, Bool.not_true, Bool.not_false] at *; omega))
(.node (by kernel_rfl) (by kernel_rfl) (fun h12 =>
(.path [1] (by kernel_rfl)
(.node (by kernel_rfl) (by kernel_rfl) (fun h13 =>
(.path [1,1,1,1] (by kernel_rfl)
(.leaf (by kernel_rfl)))) (fun h13 =>
(.path [0,0,1,0,1,0] (by kernel_rfl)
(.node (by kernel_rfl) (by kernel_rfl) (fun h14 =>
(.node (by kernel_rfl) (by kernel_rfl) (fun h15 =>
(.path [1] (by kernel_rfl)
(.leaf (by kernel_rfl)))) (fun h15 =>
(.path [1,0,1,0,0,0,1,0,1,1] (by kernel_rfl)
(.leaf (by kernel_rfl)))))) (fun h14 =>
(.path [1,0,1,0,0,0,1,0,1,1] (by kernel_rfl)
(.leaf (by kernel_rfl)))))))))) (fun h12 =>
.none)))))))) (fun h10 =>
.none)))))))))))) (fun h7 =>
.none)))))) (fun h5 =>
(.node (by kernel_rfl) (by kernel_rfl) (fun h6 =>
(.path [0] (by kernel_rfl)
(.node (by kernel_rfl) (by kernel_rfl) (fun h7 =>
(.path (1 ::1 ::1 ::1 ::1 ::1 ::1 ::1 ::1 ::1 ::1 ::0 ::1 ::1 ::0 ::0 ::1 ::0 ::0 ::0 ::0 ::1 ::0 ::1 ::0 ::0 ::0 ::1 ::0 ::1 ::1 :: []) (by kernel_rfl)
(.leaf (by kernel_rfl)))) (fun h7 =>
(.node (by kernel_rfl) (by kernel_rfl) (fun h8 =>
(.path [0] (by kernel_rfl)
(.node (by kernel_rfl) (by kernel_rfl) (fun h9 =>
(.path [1,1,1,1,1,1,1,1,0,1,1,0,0,1,0,0,0,0,1,0,1,0,0,0,1,0,1,1] (by kernel_rfl)
(.leaf (by kernel_rfl)))) (fun h9 =>
(.path [0,0,1,0,1] (by kernel_rfl)
(.pf (by kernel_rfl) (by kernel_rfl) h7
(.pt (by kernel_rfl) (by kernel_rfl) h8
(.path [1,1,0,0,1,1] (by kernel_rfl)
(.pt (c := (decide ((0 : Int) ≤ IntKind.wrap .i64 (n3 + (1 : Int))) && decide (IntKind.wrap .i64 (n3 + (1 : Int)) ≤ (↑(List.length l0) : Int)))) (by kernel_rfl) (by kernel_rfl) (by (simp only [w64d, decide_eq_true_eq, decide_eq_false_iff_not, beq_iff_eq, beq_eq_false_iff_ne, bne_iff_ne, ne_eq, inR, Bool.and_eq_true, Bool.and_eq_false_iff, Bool.not_eq_true', Bool.not_eq_false', Bool.not_eq_eq_eq_not, Bool.not_true, Bool.not_false] at *; omega))
(.pt (c := (decide ((0 : Int) ≤ n1) && decide (n1 ≤ IntKind.wrap .i64 (n3 + (1 : Int))))) (by kernel_rfl) (by kernel_rfl) (by (simp only [w64d, decide_eq_true_eq, decide_eq_false_iff_not, beq_iff_eq, beq_eq_false_iff_ne, bne_iff_ne, ne_eq, inR, Bool.and_eq_true, Bool.and_eq_false_iff, Bool.not_eq_true', Bool.not_eq_false', Bool.not_eq_eq_eq_not, Bool.not_true, Bool.not_false] at *; omega))
(.node (by kernel_rfl) (by kernel_rfl) (fun h10 =>
(.path [1] (by kernel_rfl)
(.node (by kernel_rfl) (by kernel_rfl) (fun h11 =>
(.path [1,1,1,1,1,1] (by kernel_rfl)
(.leaf (by kernel_rfl)))) (fun h11 =>
(.pt (c := (decide ((0 : Int) ≤ IntKind.wrap .i64 (n3 + (1 : Int))) && decide (IntKind.wrap .i64 (n3 + (1 : Int)) ≤ (↑(List.length l0) : Int)))) (by kernel_rfl) (by kernel_rfl) (by (simp only [w64d, decide_eq_true_eq, decide_eq_false_iff_not, beq_iff_eq, beq_eq_false_iff_ne, bne_iff_ne, ne_eq, inR, Bool.and_eq_true, Bool.and_eq_false_iff, Bool.not_eq_true', Bool.not_eq_false', Bool.not_eq_eq_eq_not, Bool.not_true, Bool.not_false] at *; omega))
(.pt (c := (decide ((0 : Int) ≤ n1) && decide (n1 ≤ IntKind.wrap .i64 (n3 + (1 : Int))))) (by kernel_rfl) (by kernel_rfl) (by (simp only [w64d, decide_eq_true_eq, decide_eq_false_iff_not, beq_iff_eq, beq_eq_false_iff_ne, bne_iff_ne, ne_eq, inR, Bool.and_eq_true, Bool.and_eq_false_iff, Bool.not_eq_true', Bool.not_eq_false', Bool.not_eq_eq_eq_not, Bool.not_true, Bool.not_false] at *; omega))
(.node (by kernel_rfl) (by kernel_rfl) (fun h12 =>
(.path [1] (by kernel_rfl)
(.node (by kernel_rfl) (by kernel_rfl) (fun h13 =>
(.path [1,1,1,1] (by kernel_rfl)
(.leaf (by kernel_rfl)))) (fun h13 =>
(.path [0,0,1,0,1,0] (by kernel_rfl)
(.pf (c := (!(n2 == n2 && (n8 == n8 && (n9 == n9 && (n10 == n10 && true) && true))))) (by kernel_rfl) (by kernel_rfl) (by (simp [*]; done))
(.path [1,0,1,0,0,0,1,0,1,1] (by kernel_rfl)
.none))))))) (fun h12 =>
.none)))))))) (fun h10 =>
.none)))))))))))) (fun h8 =>
.none)))))) (fun h6 =>
.none)))))))))))))))))))

noncomputable def fn_L4_8_t5 : List Dat → Tree Step
  | [.l (Ty.pair (Ty.int IntKind.i64) (Ty.pair (Ty.int IntKind.i64) (Ty.pair (Ty.int IntKind.i64) (Ty.pair (Ty.int IntKind.i64) (Ty.pair (Ty.int IntKind.u64) (Ty.int IntKind.u32)))))) l0, .n n1, .n n2, .n n3, .n n4, .n n5, .n n6, .n n7, .n n8, .n n9, .n n10] =>
    (.node (Int.tmod (IntKind.wrap .i64 (Int.tmod (Prod.fst (List.getD l0 (Int.toNat n3) (Ty.dflt (Ty.pair (Ty.int IntKind.i64) (Ty.pair (Ty.int IntKind.i64) (Ty.pair (Ty.int IntKind.i64) (Ty.pair (Ty.int IntKind.i64) (Ty.pair (Ty.int IntKind.u64) (Ty.int IntKind.u32))))))))) (6 : Int) + (6 : Int))) (6 : Int) == (3 : Int))
     (.leaf (Step.go [.k 0, .l (Ty.pair (Ty.int IntKind.i64) (Ty.pair (Ty.int IntKind.i64) (Ty.pair (Ty.int IntKind.i64) (Ty.pair (Ty.int IntKind.i64) (Ty.pair (Ty.int IntKind.u64) (Ty.int IntKind.u32)))))) l0, .n n1, .n n2, .b true, .n (IntKind.wrap .i64 (n3 + (1 : Int))), .b true, .n n2]))
     (.node (Int.tmod (IntKind.wrap .i64 (Int.tmod (Prod.fst (List.getD l0 (Int.toNat n3) (Ty.dflt (Ty.pair (Ty.int IntKind.i64) (Ty.pair (Ty.int IntKind.i64) (Ty.pair (Ty.int IntKind.i64) (Ty.pair (Ty.int IntKind.i64) (Ty.pair (Ty.int IntKind.u64) (Ty.int IntKind.u32))))))))) (6 : Int) + (6 : Int))) (6 : Int) == (4 : Int))
      (.leaf (Step.go [.k 0, .l (Ty.pair (Ty.int IntKind.i64) (Ty.pair (Ty.int IntKind.i64) (Ty.pair (Ty.int IntKind.i64) (Ty.pair (Ty.int IntKind.i64) (Ty.pair (Ty.int IntKind.u64) (Ty.int IntKind.u32)))))) l0, .n n3, .n n2, .b false, .n (IntKind.wrap .i64 (n3 + (1 : Int))), .b false, .n n2]))
      (.node (Int.tmod (IntKind.wrap .i64 (Int.tmod (Prod.fst (List.getD l0 (Int.toNat n3) (Ty.dflt (Ty.pair (Ty.int IntKind.i64) (Ty.pair (Ty.int IntKind.i64) (Ty.pair (Ty.int IntKind.i64) (Ty.pair (Ty.int IntKind.i64) (Ty.pair (Ty.int IntKind.u64) (Ty.int IntKind.u32))))))))) (6 : Int) + (6 : Int))) (6 : Int) == (5 : Int))
       (.leaf (Step.go [.k 0, .l (Ty.pair (Ty.int IntKind.i64) (Ty.pair (Ty.int IntKind.i64) (Ty.pair (Ty.int IntKind.i64) (Ty.pair (Ty.int IntKind.i64) (Ty.pair (Ty.int IntKind.u64) (Ty.int IntKind.u32)))))) l0, .n n3, .n n2, .b true, .n (IntKind.wrap .i64 (n3 + (1 : Int))), .b true, .n n2]))
       (.node (decide ((Prod.fst (Prod.snd (List.getD l0 (Int.toNat n3) (Ty.dflt (Ty.pair (Ty.int IntKind.i64) (Ty.pair (Ty.int IntKind.i64) (Ty.pair (Ty.int IntKind.i64) (Ty.pair (Ty.int IntKind.i64) (Ty.pair (Ty.int IntKind.u64) (Ty.int IntKind.u32))))))))) : Int) < (0 : Int)))
        (let r1 : Option (Nat × List Dat) := (op_26 [.l (Ty.pair (Ty.int IntKind.i64) (Ty.pair (Ty.int IntKind.i64) (Ty.pair (Ty.int IntKind.i64) (Ty.pair (Ty.int IntKind.i64) (Ty.pair (Ty.int IntKind.u64) (Ty.int IntKind.u32)))))) (List.drop (Int.toNat n1) (List.take (Int.toNat (IntKind.wrap .i64 (n3 + (1 : Int)))) l0)), .n (0 : Int), .n n2, .n n8, .n n9, .n n10]);
         (.node (isK 0 [HK.b] r1)
          (.node (!gb (dOf r1) 0)
           (.leaf (Step.stop 3 [.b false]))
           (let r2 : Option (Nat × List Dat) := (op_26 [.l (Ty.pair (Ty.int IntKind.i64) (Ty.pair (Ty.int IntKind.i64) (Ty.pair (Ty.int IntKind.i64) (Ty.pair (Ty.int IntKind.i64) (Ty.pair (Ty.int IntKind.u64) (Ty.int IntKind.u32)))))) (List.drop (Int.toNat n1) (List.take (Int.toNat (IntKind.wrap .i64 (n3 + (1 : Int)))) l0)), .n (1 : Int), .n n2, .n n8, .n n9, .n n10]);
            (.node (isK 0 [HK.b] r2)
             (.node (!gb (dOf r2) 0)
              (.leaf (Step.stop 3 [.b false]))
              (.leaf (Step.go [.k 5, .l (Ty.pair (Ty.int IntKind.i64) (Ty.pair (Ty.int IntKind.i64) (Ty.pair (Ty.int IntKind.i64) (Ty.pair (Ty.int IntKind.i64) (Ty.pair (Ty.int IntKind.u64) (Ty.int IntKind.u32)))))) l0, .n n1, .n n2, .b false, .n (IntKind.wrap .i64 (n3 + (1 : Int))), .b false, .n n2, .n n4, .n n5, .n n6, .n n7, .n n2, .n n8, .n n9, .n n10])))
             (.bad 351))))
          (.bad 351)))
        (.node (decide ((Prod.fst (Prod.snd (List.getD l0 (Int.toNat n3) (Ty.dflt (Ty.pair (Ty.int IntKind.i64) (Ty.pair (Ty.int IntKind.i64) (Ty.pair (Ty.int IntKind.i64) (Ty.pair (Ty.int IntKind.i64) (Ty.pair (Ty.int IntKind.u64) (Ty.int IntKind.u32))))))))) : Int) ≥ (2 : Int)))
         (let r1 : Option (Nat × List Dat) := (op_26 [.l (Ty.pair (Ty.int IntKind.i64) (Ty.pair (Ty.int IntKind.i64) (Ty.pair (Ty.int IntKind.i64) (Ty.pair (Ty.int IntKind.i64) (Ty.pair (Ty.int IntKind.u64) (Ty.int IntKind.u32)))))) (List.drop (Int.toNat n1) (List.take (Int.toNat (IntKind.wrap .i64 (n3 + (1 : Int)))) l0)), .n (0 : Int), .n n2, .n n8, .n n9, .n n10]);
          (.node (isK 0 [HK.b] r1)
           (.node (!gb (dOf r1) 0)
            (.leaf (Step.stop 3 [.b false]))
            (let r2 : Option (Nat × List Dat) := (op_26 [.l (Ty.pair (Ty.int IntKind.i64) (Ty.pair (Ty.int IntKind.i64) (Ty.pair (Ty.int IntKind.i64) (Ty.pair (Ty.int IntKind.i64) (Ty.pair (Ty.int IntKind.u64) (Ty.int IntKind.u32)))))) (List.drop (Int.toNat n1) (List.take (Int.toNat (IntKind.wrap .i64 (n3 + (1 : Int)))) l0)), .n (1 : Int), .n n2, .n n8, .n n9, .n n10]);
             (.node (isK 0 [HK.b] r2)
              (.node (!gb (dOf r2) 0)
               (.leaf (Step.stop 3 [.b false]))
               (.leaf (Step.go [.k 5, .l (Ty.pair (Ty.int IntKind.i64) (Ty.pair (Ty.int IntKind.i64) (Ty.pair (Ty.int IntKind.i64) (Ty.pair (Ty.int IntKind.i64) (Ty.pair (Ty.int IntKind.u64) (Ty.int IntKind.u32)))))) l0, .n n1, .n n2, .b false, .n (IntKind.wrap .i64 (n3 + (1 : Int))), .b false, .n n2, .n n4, .n n5, .n n6, .n n7, .n n2, .n n8, .n n9, .n n10])))
              (.bad 351))))
           (.bad 351)))
         (.node (decide (IntKind.wrap .i64 ((1 : Int) - (Prod.fst (Prod.snd (List.getD l0 (Int.toNat n3) (Ty.dflt (Ty.pair (Ty.int IntKind.i64) (Ty.pair (Ty.int IntKind.i64) (Ty.pair (Ty.int IntKind.i64) (Ty.pair (Ty.int IntKind.i64) (Ty.pair (Ty.int IntKind.u64) (Ty.int IntKind.u32))))))))) : Int)) = (0 : Int)))
          (.node (decide ((Prod.fst (Prod.snd (List.getD l0 (Int.toNat n3) (Ty.dflt (Ty.pair (Ty.int IntKind.i64) (Ty.pair (Ty.int IntKind.i64) (Ty.pair (Ty.int IntKind.i64) (Ty.pair (Ty.int IntKind.i64) (Ty.pair (Ty.int IntKind.u64) (Ty.int IntKind.u32))))))))) : Int) = (0 : Int)))
           (.node (decide ((Prod.fst (Prod.snd (Prod.snd (List.getD l0 (Int.toNat n3) (Ty.dflt (Ty.pair (Ty.int IntKind.i64) (Ty.pair (Ty.int IntKind.i64) (Ty.pair (Ty.int IntKind.i64) (Ty.pair (Ty.int IntKind.i64) (Ty.pair (Ty.int IntKind.u64) (Ty.int IntKind.u32)))))))))) : Int) ≤ n2))
            (.leaf (Step.go [.k 0, .l (Ty.pair (Ty.int IntKind.i64) (Ty.pair (Ty.int IntKind.i64) (Ty.pair (Ty.int IntKind.i64) (Ty.pair (Ty.int IntKind.i64) (Ty.pair (Ty.int IntKind.u64) (Ty.int IntKind.u32)))))) l0, .n n1, .n n2, .b true, .n (IntKind.wrap .i64 (n3 + (1 : Int))), .b true, .n n2]))
            (let r1 : Option (Nat × List Dat) := (op_26 [.l (Ty.pair (Ty.int IntKind.i64) (Ty.pair (Ty.int IntKind.i64) (Ty.pair (Ty.int IntKind.i64) (Ty.pair (Ty.int IntKind.i64) (Ty.pair (Ty.int IntKind.u64) (Ty.int IntKind.u32)))))) (List.drop (Int.toNat n1) (List.take (Int.toNat (IntKind.wrap .i64 (n3 + (1 : Int)))) l0)), .n (0 : Int), .n n2, .n n8, .n n9, .n n10]);
             (.node (isK 0 [HK.b] r1)
              (.node (!gb (dOf r1) 0)
               (.leaf (Step.stop 3 [.b false]))
               (let r2 : Option (Nat × List Dat) := (op_26 [.l (Ty.pair (Ty.int IntKind.i64) (Ty.pair (Ty.int IntKind.i64) (Ty.pair (Ty.int IntKind.i64) (Ty.pair (Ty.int IntKind.i64) (Ty.pair (Ty.int IntKind.u64) (Ty.int IntKind.u32)))))) (List.drop (Int.toNat n1) (List.take (Int.toNat (IntKind.wrap .i64 (n3 + (1 : Int)))) l0)), .n (1 : Int), .n n2, .n n8, .n n9, .n n10]);
                (.node (isK 0 [HK.b] r2)
                 (.node (!gb (dOf r2) 0)
                  (.leaf (Step.stop 3 [.b false]))
                  (.bad 334))
                 (.bad 351))))
              (.bad 351))))
           (.node (decide ((Prod.fst (Prod.snd (List.getD l0 (Int.toNat n3) (Ty.dflt (Ty.pair (Ty.int IntKind.i64) (Ty.pair (Ty.int IntKind.i64) (Ty.pair (Ty.int IntKind.i64) (Ty.pair (Ty.int IntKind.i64) (Ty.pair (Ty.int IntKind.u64) (Ty.int IntKind.u32))))))))) : Int) = (1 : Int)))
            (.leaf (Step.go [.k 0, .l (Ty.pair (Ty.int IntKind.i64) (Ty.pair (Ty.int IntKind.i64) (Ty.pair (Ty.int IntKind.i64) (Ty.pair (Ty.int IntKind.i64) (Ty.pair (Ty.int IntKind.u64) (Ty.int IntKind.u32)))))) l0, .n n1, .n n2, .b true, .n (IntKind.wrap .i64 (n3 + (1 : Int))), .b true, .n n2]))
            (.bad 70)))
          (.node (decide (IntKind.wrap .i64 ((1 : Int) - (Prod.fst (Prod.snd (List.getD l0 (Int.toNat n3) (Ty.dflt (Ty.pair (Ty.int IntKind.i64) (Ty.pair (Ty.int IntKind.i64) (Ty.pair (Ty.int IntKind.i64) (Ty.pair (Ty.int IntKind.i64) (Ty.pair (Ty.int IntKind.u64) (Ty.int IntKind.u32))))))))) : Int)) = (1 : Int)))
           (.node (decide ((Prod.fst (Prod.snd (List.getD l0 (Int.toNat n3) (Ty.dflt (Ty.pair (Ty.int IntKind.i64) (Ty.pair (Ty.int IntKind.i64) (Ty.pair (Ty.int IntKind.i64) (Ty.pair (Ty.int IntKind.i64) (Ty.pair (Ty.int IntKind.u64) (Ty.int IntKind.u32))))))))) : Int) = (0 : Int)))
            (.node (decide ((Prod.fst (Prod.snd (Prod.snd (List.getD l0 (Int.toNat n3) (Ty.dflt (Ty.pair (Ty.int IntKind.i64) (Ty.pair (Ty.int IntKind.i64) (Ty.pair (Ty.int IntKind.i64) (Ty.pair (Ty.int IntKind.i64) (Ty.pair (Ty.int IntKind.u64) (Ty.int IntKind.u32)))))))))) : Int) ≤ n2))
             (.leaf (Step.go [.k 0, .l (Ty.pair (Ty.int IntKind.i64) (Ty.pair (Ty.int IntKind.i64) (Ty.pair (Ty.int IntKind.i64) (Ty.pair (Ty.int IntKind.i64) (Ty.pair (Ty.int IntKind.u64) (Ty.int IntKind.u32)))))) l0, .n n1, .n n2, .b true, .n (IntKind.wrap .i64 (n3 + (1 : Int))), .b true, .n n2]))
             (.node (!(n4 == Prod.fst (Prod.snd (Prod.snd (List.getD l0 (Int.toNat n3) (Ty.dflt (Ty.pair (Ty.int IntKind.i64) (Ty.pair (Ty.int IntKind.i64) (Ty.pair (Ty.int IntKind.i64) (Ty.pair (Ty.int IntKind.i64) (Ty.pair (Ty.int IntKind.u64) (Ty.int IntKind.u32)))))))))) && (n5 == Prod.fst (Prod.snd (Prod.snd (Prod.snd (List.getD l0 (Int.toNat n3) (Ty.dflt (Ty.pair (Ty.int IntKind.i64) (Ty.pair (Ty.int IntKind.i64) (Ty.pair (Ty.int IntKind.i64) (Ty.pair (Ty.int IntKind.i64) (Ty.pair (Ty.int IntKind.u64) (Ty.int IntKind.u32))))))))))) && (n6 == Prod.fst (Prod.snd (Prod.snd (Prod.snd (Prod.snd (List.getD l0 (Int.toNat n3) (Ty.dflt (Ty.pair (Ty.int IntKind.i64) (Ty.pair (Ty.int IntKind.i64) (Ty.pair (Ty.int IntKind.i64) (Ty.pair (Ty.int IntKind.i64) (Ty.pair (Ty.int IntKind.u64) (Ty.int IntKind.u32)))))))))))) && (n7 == Prod.snd (Prod.snd (Prod.snd (Prod.snd (Prod.snd (List.getD l0 (Int.toNat n3) (Ty.dflt (Ty.pair (Ty.int IntKind.i64) (Ty.pair (Ty.int IntKind.i64) (Ty.pair (Ty.int IntKind.i64) (Ty.pair (Ty.int IntKind.i64) (Ty.pair (Ty.int IntKind.u64) (Ty.int IntKind.u32)))))))))))) && true) && true))))
              (.leaf (Step.go [.k 0, .l (Ty.pair (Ty.int IntKind.i64) (Ty.pair (Ty.int IntKind.i64) (Ty.pair (Ty.int IntKind.i64) (Ty.pair (Ty.int IntKind.i64) (Ty.pair (Ty.int IntKind.u64) (Ty.int IntKind.u32)))))) l0, .n n1, .n n2, .b true, .n (IntKind.wrap .i64 (n3 + (1 : Int))), .b true, .n n2]))
              (let r1 : Option (Nat × List Dat) := (op_26 [.l (Ty.pair (Ty.int IntKind.i64) (Ty.pair (Ty.int IntKind.i64) (Ty.pair (Ty.int IntKind.i64) (Ty.pair (Ty.int IntKind.i64) (Ty.pair (Ty.int IntKind.u64) (Ty.int IntKind.u32)))))) (List.drop (Int.toNat n1) (List.take (Int.toNat (IntKind.wrap .i64 (n3 + (1 : Int)))) l0)), .n (0 : Int), .n (Prod.fst (Prod.snd (Prod.snd (List.getD l0 (Int.toNat n3) (Ty.dflt (Ty.pair (Ty.int IntKind.i64) (Ty.pair (Ty.int IntKind.i64) (Ty.pair (Ty.int IntKind.i64) (Ty.pair (Ty.int IntKind.i64) (Ty.pair (Ty.int IntKind.u64) (Ty.int IntKind.u32))))))))))), .n (Prod.fst (Prod.snd (Prod.snd (Prod.snd (List.getD l0 (Int.toNat n3) (Ty.dflt (Ty.pair (Ty.int IntKind.i64) (Ty.pair (Ty.int IntKind.i64) (Ty.pair (Ty.int IntKind.i64) (Ty.pair (Ty.int IntKind.i64) (Ty.pair (Ty.int IntKind.u64) (Ty.int IntKind.u32)))))))))))), .n (Prod.fst (Prod.snd (Prod.snd (Prod.snd (Prod.snd (List.getD l0 (Int.toNat n3) (Ty.dflt (Ty.pair (Ty.int IntKind.i64) (Ty.pair (Ty.int IntKind.i64) (Ty.pair (Ty.int IntKind.i64) (Ty.pair (Ty.int IntKind.i64) (Ty.pair (Ty.int IntKind.u64) (Ty.int IntKind.u32))))))))))))), .n (Prod.snd (Prod.snd (Prod.snd (Prod.snd (Prod.snd (List.getD l0 (Int.toNat n3) (Ty.dflt (Ty.pair (Ty.int IntKind.i64) (Ty.pair (Ty.int IntKind.i64) (Ty.pair (Ty.int IntKind.i64) (Ty.pair (Ty.int IntKind.i64) (Ty.pair (Ty.int IntKind.u64) (Ty.int IntKind.u32)))))))))))))]);
               (.node (isK 0 [HK.b] r1)
                (.node (!gb (dOf r1) 0)
                 (.leaf (Step.stop 3 [.b false]))
                 (let r2 : Option (Nat × List Dat) := (op_26 [.l (Ty.pair (Ty.int IntKind.i64) (Ty.pair (Ty.int IntKind.i64) (Ty.pair (Ty.int IntKind.i64) (Ty.pair (Ty.int IntKind.i64) (Ty.pair (Ty.int IntKind.u64) (Ty.int IntKind.u32)))))) (List.drop (Int.toNat n1) (List.take (Int.toNat (IntKind.wrap .i64 (n3 + (1 : Int)))) l0)), .n (1 : Int), .n (Prod.fst (Prod.snd (Prod.snd (List.getD l0 (Int.toNat n3) (Ty.dflt (Ty.pair (Ty.int IntKind.i64) (Ty.pair (Ty.int IntKind.i64) (Ty.pair (Ty.int IntKind.i64) (Ty.pair (Ty.int IntKind.i64) (Ty.pair (Ty.int IntKind.u64) (Ty.int IntKind.u32))))))))))), .n (Prod.fst (Prod.snd (Prod.snd (Prod.snd (List.getD l0 (Int.toNat n3) (Ty.dflt (Ty.pair (Ty.int IntKind.i64) (Ty.pair (Ty.int IntKind.i64) (Ty.pair (Ty.int IntKind.i64) (Ty.pair (Ty.int IntKind.i64) (Ty.pair (Ty.int IntKind.u64) (Ty.int IntKind.u32)))))))))))), .n (Prod.fst (Prod.snd (Prod.snd (Prod.snd (Prod.snd (List.getD l0 (Int.toNat n3) (Ty.dflt (Ty.pair (Ty.int IntKind.i64) (Ty.pair (Ty.int IntKind.i64) (Ty.pair (Ty.int IntKind.i64) (Ty.pair (Ty.int IntKind.i64) (Ty.pair (Ty.int IntKind.u64) (Ty.int IntKind.u32))))))))))))), .n (Prod.snd (Prod.snd (Prod.snd (Prod.snd (Prod.snd (List.getD l0 (Int.toNat n3) (Ty.dflt (Ty.pair (Ty.int IntKind.i64) (Ty.pair (Ty.int IntKind.i64) (Ty.pair (Ty.int IntKind.i64) (Ty.pair (Ty.int IntKind.i64) (Ty.pair (Ty.int IntKind.u64) (Ty.int IntKind.u32)))))))))))))]);
                  (.node (isK 0 [HK.b] r2)
                   (.node (!gb (dOf r2) 0)
                    (.leaf (Step.stop 3 [.b false]))
                    (.node (!(Prod.fst (Prod.snd (Prod.snd (List.getD l0 (Int.toNat n3) (Ty.dflt (Ty.pair (Ty.int IntKind.i64) (Ty.pair (Ty.int IntKind.i64) (Ty.pair (Ty.int IntKind.i64) (Ty.pair (Ty.int IntKind.i64) (Ty.pair (Ty.int IntKind.u64) (Ty.int IntKind.u32)))))))))) == n2 && (Prod.fst (Prod.snd (Prod.snd (Prod.snd (List.getD l0 (Int.toNat n3) (Ty.dflt (Ty.pair (Ty.int IntKind.i64) (Ty.pair (Ty.int IntKind.i64) (Ty.pair (Ty.int IntKind.i64) (Ty.pair (Ty.int IntKind.i64) (Ty.pair (Ty.int IntKind.u64) (Ty.int IntKind.u32))))))))))) == n8 && (Prod.fst (Prod.snd (Prod.snd (Prod.snd (Prod.snd (List.getD l0 (Int.toNat n3) (Ty.dflt (Ty.pair (Ty.int IntKind.i64) (Ty.pair (Ty.int IntKind.i64) (Ty.pair (Ty.int IntKind.i64) (Ty.pair (Ty.int IntKind.i64) (Ty.pair (Ty.int IntKind.u64) (Ty.int IntKind.u32)))))))))))) == n9 && (Prod.snd (Prod.snd (Prod.snd (Prod.snd (Prod.snd (List.getD l0 (Int.toNat n3) (Ty.dflt (Ty.pair (Ty.int IntKind.i64) (Ty.pair (Ty.int IntKind.i64) (Ty.pair (Ty.int IntKind.i64) (Ty.pair (Ty.int IntKind.i64) (Ty.pair (Ty.int IntKind.u64) (Ty.int IntKind.u32)))))))))))) == n10 && true) && true))))
                     (.node (decide ((Prod.fst (Prod.snd (Prod.snd (List.getD l0 (Int.toNat n3) (Ty.dflt (Ty.pair (Ty.int IntKind.i64) (Ty.pair (Ty.int IntKind.i64) (Ty.pair (Ty.int IntKind.i64) (Ty.pair (Ty.int IntKind.i64) (Ty.pair (Ty.int IntKind.u64) (Ty.int IntKind.u32)))))))))) : Int) ≤ n2))
                      (.leaf (Step.stop 3 [.b false]))
                      (.leaf (Step.go [.k 3, .l (Ty.pair (Ty.int IntKind.i64) (Ty.pair (Ty.int IntKind.i64) (Ty.pair (Ty.int IntKind.i64) (Ty.pair (Ty.int IntKind.i64) (Ty.pair (Ty.int IntKind.u64) (Ty.int IntKind.u32)))))) l0, .n n1, .n (Prod.fst (Prod.snd (Prod.snd (List.getD l0 (Int.toNat n3) (Ty.dflt (Ty.pair (Ty.int IntKind.i64) (Ty.pair (Ty.int IntKind.i64) (Ty.pair (Ty.int IntKind.i64) (Ty.pair (Ty.int IntKind.i64) (Ty.pair (Ty.int IntKind.u64) (Ty.int IntKind.u32))))))))))), .b false, .n (IntKind.wrap .i64 (n3 + (1 : Int))), .b false, .n (Prod.fst (Prod.snd (Prod.snd (List.getD l0 (Int.toNat n3) (Ty.dflt (Ty.pair (Ty.int IntKind.i64) (Ty.pair (Ty.int IntKind.i64) (Ty.pair (Ty.int IntKind.i64) (Ty.pair (Ty.int IntKind.i64) (Ty.pair (Ty.int IntKind.u64) (Ty.int IntKind.u32))))))))))), .n (Prod.fst (Prod.snd (Prod.snd (List.getD l0 (Int.toNat n3) (Ty.dflt (Ty.pair (Ty.int IntKind.i64) (Ty.pair (Ty.int IntKind.i64) (Ty.pair (Ty.int IntKind.i64) (Ty.pair (Ty.int IntKind.i64) (Ty.pair (Ty.int IntKind.u64) (Ty.int IntKind.u32))))))))))), .n (Prod.fst (Prod.snd (Prod.snd (Prod.snd (List.getD l0 (Int.toNat n3) (Ty.dflt (Ty.pair (Ty.int IntKind.i64) (Ty.pair (Ty.int IntKind.i64) (Ty.pair (Ty.int IntKind.i64) (Ty.pair (Ty.int IntKind.i64) (Ty.pair (Ty.int IntKind.u64) (Ty.int IntKind.u32)))))))))))), .n (Prod.fst (Prod.snd (Prod.snd (Prod.snd (Prod.snd (List.getD l0 (Int.toNat n3) (Ty.dflt (Ty.pair (Ty.int IntKind.i64) (Ty.pair (Ty.int IntKind.i64) (Ty.pair (Ty.int IntKind.i64) (Ty.pair (Ty.int IntKind.i64) (Ty.pair (Ty.int IntKind.u64) (Ty.int IntKind.u32))))))))))))), .n (Prod.snd (Prod.snd (Prod.snd (Prod.snd (Prod.snd (List.getD l0 (Int.toNat n3) (Ty.dflt (Ty.pair (Ty.int IntKind.i64) (Ty.pair (Ty.int IntKind.i64) (Ty.pair (Ty.int IntKind.i64) (Ty.pair (Ty.int IntKind.i64) (Ty.pair (Ty.int IntKind.u64) (Ty.int IntKind.u32)))))))))))))])))
                     (.leaf (Step.go [.k 3, .l (Ty.pair (Ty.int IntKind.i64) (Ty.pair (Ty.int IntKind.i64) (Ty.pair (Ty.int IntKind.i64) (Ty.pair (Ty.int IntKind.i64) (Ty.pair (Ty.int IntKind.u64) (Ty.int IntKind.u32)))))) l0, .n n1, .n n2, .b false, .n (IntKind.wrap .i64 (n3 + (1 : Int))), .b false, .n (Prod.fst (Prod.snd (Prod.snd (List.getD l0 (Int.toNat n3) (Ty.dflt (Ty.pair (Ty.int IntKind.i64) (Ty.pair (Ty.int IntKind.i64) (Ty.pair (Ty.int IntKind.i64) (Ty.pair (Ty.int IntKind.i64) (Ty.pair (Ty.int IntKind.u64) (Ty.int IntKind.u32))))))))))), .n (Prod.fst (Prod.snd (Prod.snd (List.getD l0 (Int.toNat n3) (Ty.dflt (Ty.pair (Ty.int IntKind.i64) (Ty.pair (Ty.int IntKind.i64) (Ty.pair (Ty.int IntKind.i64) (Ty.pair (Ty.int IntKind.i64) (Ty.pair (Ty.int IntKind.u64) (Ty.int IntKind.u32))))))))))), .n (Prod.fst (Prod.snd (Prod.snd (Prod.snd (List.getD l0 (Int.toNat n3) (Ty.dflt (Ty.pair (Ty.int IntKind.i64) (Ty.pair (Ty.int IntKind.i64) (Ty.pair (Ty.int IntKind.i64) (Ty.pair (Ty.int IntKind.i64) (Ty.pair (Ty.int IntKind.u64) (Ty.int IntKind.u32)))))))))))), .n (Prod.fst (Prod.snd (Prod.snd (Prod.snd (Prod.snd (List.getD l0 (Int.toNat n3) (Ty.dflt (Ty.pair (Ty.int IntKind.i64) (Ty.pair (Ty.int IntKind.i64) (Ty.pair (Ty.int IntKind.i64) (Ty.pair (Ty.int IntKind.i64) (Ty.pair (Ty.int IntKind.u64) (Ty.int IntKind.u32))))))))))))), .n (Prod.snd (Prod.snd (Prod.snd (Prod.snd (Prod.snd (List.getD l0 (Int.toNat n3) (Ty.dflt (Ty.pair (Ty.int IntKind.i64) (Ty.pair (Ty.int IntKind.i64) (Ty.pair (Ty.int IntKind.i64) (Ty.pair (Ty.int IntKind.i64) (Ty.pair (Ty.int IntKind.u64) (Ty.int IntKind.u32)))))))))))))]))))
                   (.bad 351))))
                (.bad 351)))))
            (.node (decide ((Prod.fst (Prod.snd (List.getD l0 (Int.toNat n3) (Ty.dflt (Ty.pair (Ty.int IntKind.i64) (Ty.pair (Ty.int IntKind.i64) (Ty.pair (Ty.int IntKind.i64) (Ty.pair (Ty.int IntKind.i64) (Ty.pair (Ty.int IntKind.u64) (Ty.int IntKind.u32))))))))) : Int) = (1 : Int)))
             (.leaf (Step.go [.k 0, .l (Ty.pair (Ty.int IntKind.i64) (Ty.pair (Ty.int IntKind.i64) (Ty.pair (Ty.int IntKind.i64) (Ty.pair (Ty.int IntKind.i64) (Ty.pair (Ty.int IntKind.u64) (Ty.int IntKind.u32)))))) l0, .n n1, .n n2, .b true, .n (IntKind.wrap .i64 (n3 + (1 : Int))), .b true, .n n2]))
             (.bad 70)))
           (.bad 70))))))))
  | _ => .bad 0
theorem fn_L4_8_t5_im (l0 : List (Ty.den (Ty.pair (Ty.int IntKind.i64) (Ty.pair (Ty.int IntKind.i64) (Ty.pair (Ty.int IntKind.i64) (Ty.pair (Ty.int IntKind.i64) (Ty.pair (Ty.int IntKind.u64) (Ty.int IntKind.u32)))))))) (n1 : Int) (n2 : Int) (n3 : Int) (n4 : Int) (n5 : Int) (n6 : Int) (n7 : Int) (n8 : Int) (n9 : Int) (n10 : Int) (g0 : 0 ≤ n1) (g1 :  n1 ≤ n3) (g2 :  n3 < (l0.length : Int)) (g3 :  l0.length ≤ 200) : Imp (fn_L4_8_t5 [.l (Ty.pair (Ty.int IntKind.i64) (Ty.pair (Ty.int IntKind.i64) (Ty.pair (Ty.int IntKind.i64) (Ty.pair (Ty.int IntKind.i64) (Ty.pair (Ty.int IntKind.u64) (Ty.int IntKind.u32)))))) l0, .n n1, .n n2, .n n3, .n n4, .n n5, .n n6, .n n7, .n n8, .n n9, .n n10]) (st_L4_8 [.k 5, .l TCl l0, .n n1, .n n2, .b false, .n n3, .b false, .n n2, .n n4, .n n5, .n n6, .n n7, .n n2, .n n8, .n n9, .n n10]) :=
(.path [1] (by kernel_rfl)
(.pt (c := (decide (n3 < (↑(List.length l0) : Int)))) (by kernel_rfl) (by kernel_rfl) (by (simp [*]; done))
(.pt (c := (inR n3 (List.length l0))) (by kernel_rfl) (by kernel_rfl) (by (simp only [w64d, decide_eq_true_eq, decide_eq_false_iff_not, beq_iff_eq, beq_eq_false_iff_ne, bne_iff_ne, ne_eq, inR, Bool.and_eq_true, Bool.and_eq_false_iff, Bool.not_eq_true', Bool.not_eq_false', Bool.not_eq_eq_eq_not, Bool.not_true, Bool.not_false] at *; omega))
(.path [1,0,1,1,1,1,0,0,1] (by kernel_rfl)
(.node (by kernel_rfl) (by kernel_rfl) (fun h0 =>
(.path (1 ::0 ::0 ::1 ::0 ::0 ::1 ::1 ::1 ::1 ::1 ::1 ::1 ::0 ::1 ::1 ::0 ::0 ::1 ::0 ::0 ::0 ::0 ::1 ::0 ::1 ::0 ::0 ::0 ::1 ::0 ::1 ::1 :: []) (by kernel_rfl)
(.leaf (by kernel_rfl)))) (fun h0 =>
(.node (by kernel_rfl) (by kernel_rfl) (fun h1 =>
(.path [1,1,1,1,0,1,1,0,0,1,0,0,0,0,1,0,1,1,0,1,0,1,1] (by kernel_rfl)
(.leaf (by kernel_rfl)))) (fun h1 =>
(.node (by kernel_rfl) (by kernel_rfl) (fun h2 =>
(.path [1,1,1,1,0,1,1,0,0,1,0,0,0,0,1,0,1,0,0,0,1,0,1,1] (by kernel_rfl)
(.leaf (by kernel_rfl)))) (fun h2 =>
(.path [1,0] (by kernel_rfl)
(.node (by kernel_rfl) (by kernel_rfl) (fun h3 =>
(.path [1,1,1,1,0,0,1,1] (by kernel_rfl)
(.pt (c := (decide ((0 : Int) ≤ IntKind.wrap .i64 (n3 + (1 : Int))) && decide (IntKind.wrap .i64 (n3 + (1 : Int)) ≤ (↑(List.length l0) : Int)))) (by kernel_rfl) (by kernel_rfl) (by (simp only [w64d, decide_eq_true_eq, decide_eq_false_iff_not, beq_iff_eq, beq_eq_false_iff_ne, bne_iff_ne, ne_eq, inR, Bool.and_eq_true, Bool.and_eq_false_iff, Bool.not_eq_true', Bool.not_eq_false', Bool.not_eq_eq_eq_not, Bool.not_true, Bool.not_false] at *; omega))
(.pt (c := (decide ((0 : Int) ≤ n1) && decide (n1 ≤ IntKind.wrap .i64 (n3 + (1 : Int))))) (by kernel_rfl) (by kernel_rfl) (by (simp only [w64d, decide_eq_true_eq, decide_eq_false_iff_not, beq_iff_eq, beq_eq_false_iff_ne, bne_iff_ne, ne_eq, inR, Bool.and_eq_true, Bool.and_eq_false_iff, Bool.not_eq_true', Bool.not_eq_false', Bool.not_eq_eq_eq_not, Bool.not_true, Bool.not_false] at *; omega))
(.node (by kernel_rfl) (by kernel_rfl) (fun h4 =>
(.path [1] (by kernel_rfl)
(.node (by kernel_rfl) (by kernel_rfl) (fun h5 =>
(.path [1,1,1,1,1,1] (by kernel_rfl)
(.leaf (by kernel_rfl)))) (fun h5 =>
(.pt (c := (decide ((0 : Int) ≤ IntKind.wrap .i64 (n3 + (1 : Int))) && decide (IntKind.wrap .i64 (n3 + (1 : Int)) ≤ (↑(List.length l0) : Int)))) (by kernel_rfl) (by kernel_rfl) (by (simp only [w64d, decide_eq_true_eq, decide_eq_false_iff_not, beq_iff_eq, beq_eq_false_iff_ne, bne_iff_ne, ne_eq, inR, Bool.and_eq_true, Bool.and_eq_false_iff, Bool.not_eq_true', Bool.not_eq_false', Bool.not_eq_eq_eq_not, Bool.not_true, Bool.not_false] at *; omega))
(.pt (c := (decide ((0 : Int) ≤ n1) && decide (n1 ≤ IntKind.wrap .i64 (n3 + (1 : Int))))) (by kernel_rfl) (by kernel_rfl) (by (simp only [w64d, decide_eq_true_eq, decide_eq_false_iff_not, beq_iff_eq, beq_eq_false_iff_ne, bne_iff_ne, ne_eq, inR, Bool.and_eq_true, Bool.and_eq_false_iff, Bool.not_eq_true', Bool.not_eq_false', Bool.not_eq_eq_eq_not, Bool.not_true, Bool.not_false] at *; omega))
(.node (by kernel_rfl) (by kernel_rfl) (fun h6 =>
(.path [1] (by kernel_rfl)
(.node (by kernel_rfl) (by kernel_rfl) (fun h7 =>
(.path [1,1,1,1] (by kernel_rfl)
(.leaf (by kernel_rfl)))) (fun h7 =>
(.path [0,0,1,0,1,0] (by kernel_rfl)
(.pf (c := (!(n2 == n2 && (n8 == n8 && (n9 == n9 && (n10 == n10 && true) && true))))) (by kernel_rfl) (by kernel_rfl) (by (simp [*]; done))
(.path [1,0,1,0,0,0,1,0,1,1] (by kernel_rfl)
(.leaf (by kernel_rfl))))))))) (fun h6 =>
.none)))))))) (fun h4 =>
.none)))))) (fun h3 =>
(.node (by kernel_rfl) (by kernel_rfl) (fun h4 =>
(.path [1,1,0,0,1,1] (by kernel_rfl)
(.pt (c := (decide ((0 : Int) ≤ IntKind.wrap .i64 (n3 + (1 : Int))) && decide (IntKind.wrap .i64 (n3 + (1 : Int)) ≤ (↑(List.length l0) : Int)))) (by kernel_rfl) (by kernel_rfl) (by (simp only [w64d, decide_eq_true_eq, decide_eq_false_iff_not, beq_iff_eq, beq_eq_false_iff_ne, bne_iff_ne, ne_eq, inR, Bool.and_eq_true, Bool.and_eq_false_iff, Bool.not_eq_true', Bool.not_eq_false', Bool.not_eq_eq_eq_not, Bool.not_true, Bool.not_false] at *; omega))
(.pt (c := (decide ((0 : Int) ≤ n1) && decide (n1 ≤ IntKind.wrap .i64 (n3 + (1 : Int))))) (by kernel_rfl) (by kernel_rfl) (by (simp only [w64d, decide_eq_true_eq, decide_eq_false_iff_not, beq_iff_eq, beq_eq_false_iff_ne, bne_iff_ne, ne_eq, inR, Bool.and_eq_true, Bool.and_eq_false_iff, Bool.not_eq_true', Bool.not_eq_false', Bool.not_eq_eq_eq_not, Bool.not_true, Bool.not_false] at *; omega))
(.node (by kernel_rfl) (by kernel_rfl) (fun h5 =>
(.path [1] (by kernel_rfl)
(.node (by kernel_rfl) (by kernel_rfl) (fun h6 =>
(.path [1,1,1,1,1,1] (by kernel_rfl)
(.leaf (by kernel_rfl)))) (fun h6 =>
(.pt (c := (decide ((0 : Int) ≤ IntKind.wrap .i64 (n3 + (1 : Int))) && decide (IntKind.wrap .i64 (n3 + (1 : Int)) ≤ (↑(List.length l0) : Int)))) (by kernel_rfl) (by kernel_rfl) (by (simp only [w64d, decide_eq_true_eq, decide_eq_false_iff_not, beq_iff_eq, beq_eq_false_iff_ne, bne_iff_ne, ne_eq, inR, Bool.and_eq_true, Bool.and_eq_false_iff, Bool.not_eq_true', Bool.not_eq_false', Bool.not_eq_eq_eq_not, Bool.not_true, Bool.not_false] at *; omega))
(.pt (c := (decide ((0 : Int) ≤ n1) && decide (n1 ≤ IntKind.wrap .i64 (n3 + (1 : Int))))) (by kernel_rfl) (by kernel_rfl) (by (simp only [w64d, decide_eq_true_eq, decide_eq_false_iff_not, beq_iff_eq, beq_eq_false_iff_ne, bne_iff_ne, ne_eq, inR, Bool.and_eq_true, Bool.and_eq_false_iff, Bool.not_eq_true', Bool.not_eq_false', Bool.not_eq_eq_eq_not, Bool.not_true, Bool.not_false] at *; omega))
(.node (by kernel_rfl) (by kernel_rfl) (fun h7 =>
(.path [1] (by kernel_rfl)
(.node (by kernel_rfl) (by kernel_rfl) (fun h8 =>
(.path [1,1,1,1] (by kernel_rfl)
(.leaf (by kernel_rfl)))) (fun h8 =>
(.path [0,0,1,0,1,0] (by kernel_rfl)
(.pf (c := (!(n2 == n2 && (n8 == n8 && (n9 == n9 && (n10 == n10 && true) && true))))) (by kernel_rfl) (by kernel_rfl) (by (simp [*]; done))
(.path [1,0,1,0,0,0,1,0,1,1] (by kernel_rfl)
(.leaf (by kernel_rfl))))))))) (fun h7 =>
.none)))))))) (fun h5 =>
.none)))))) (fun h4 =>
(.node (by kernel_rfl) (by kernel_rfl) (fun h5 =>
(.path [0] (by kernel_rfl)
(.node (by kernel_rfl) (by kernel_rfl) (fun h6 =>
(.path [0] (by kernel_rfl)
(.node (by kernel_rfl) (by kernel_rfl) (fun h7 =>
(.path [1,1,1,1,1,1,1,1,0,1,1,0,0,1,0,0,0,0,1,0,1,0,0,0,1,0,1,1] (by kernel_rfl)
(.leaf (by kernel_rfl)))) (fun h7 =>
(.path [0,0,1,0,1] (by kernel_rfl)
(.pt (by kernel_rfl) (by kernel_rfl) h6
(.path [1,1,0,0,1,1] (by kernel_rfl)
(.pt (c := (decide ((0 : Int) ≤ IntKind.wrap .i64 (n3 + (1 : Int))) && decide (IntKind.wrap .i64 (n3 + (1 : Int)) ≤ (↑(List.length l0) : Int)))) (by kernel_rfl) (by kernel_rfl) (by (simp only [w64d, decide_eq_true_eq, decide_eq_false_iff_not, beq_iff_eq, beq_eq_false_iff_ne, bne_iff_ne, ne_eq, inR, Bool.and_eq_true, Bool.and_eq_false_iff, Bool.not_eq_true', Bool.not_eq_false', Bool.not_eq_eq_eq_not, Bool.not_true, Bool.not_false] at *; omega))
(.pt (c := (decide ((0 : Int) ≤ n1) && decide (n1 ≤ IntKind.wrap .i64 (n3 + (1 : Int))))) (by kernel_rfl) (by kernel_rfl) (by (simp only [w64d, decide_eq_true_eq, decide_eq_false_iff_not, beq_iff_eq, beq_eq_false_iff_ne, bne_iff_ne, ne_eq, inR, Bool.and_eq_true, Bool.and_eq_false_iff, Bool.not_eq_true', Bool.not_eq_false', Bool.not_eq_eq_eq_not, Bool.not_true, Bool.not_false] at *; omega))
(.node (by kernel_rfl) (by kernel_rfl) (fun h8 =>
(.path [1] (by kernel_rfl)
(.node (by kernel_rfl) (by kernel_rfl) (fun h9 =>
(.path [1,1,1,1,1,1] (by kernel_rfl)
(.leaf (by kernel_rfl)))) (fun h9 =>
(.pt (c := (decide ((0 : Int) ≤ IntKind.wrap .i64 (n3 + (1 : Int))) && decide (IntKind.wrap .i64 (n3 + (1 : Int)) ≤ (↑(List.length l0) : Int)))) (by kernel_rfl) (by kernel_rfl) (by (simp only [w64d, decide_eq_true_eq, decide_eq_false_iff_not, beq_iff_eq, beq_eq_false_iff_ne, bne_iff_ne, ne_eq, inR, Bool.and_eq_true, Bool.and_eq_false_iff, Bool.not_eq_true', Bool.not_eq_false', Bool.not_eq_eq_eq_not, Bool.not_true, Bool.not_false] at *; omega))
(.pt (c := (decide ((0 : Int) ≤ n1) && decide (n1 ≤ IntKind.wrap .i64 (n3 + (1 : Int))))) (by kernel_rfl) (by kernel_rfl) (by (simp only [w64d, decide_eq_true_eq, decide_eq_false_iff_not, beq_iff_eq, beq_eq_false_iff_ne, bne_iff_ne, ne_eq, inR, Bool.and_eq_true, Bool.and_eq_false_iff, Bool.not_eq_true', Bool.not_eq_false', Bool.not_eq_eq_eq_not, Bool.not_true, Bool.not_false] at *; omega))
(.node (by kernel_rfl) (by kernel_rfl) (fun h10 =>
(.path [1] (by kernel_rfl)
(.node (by kernel_rfl) (by kernel_rfl) (fun h11 =>
(.path [1,1,1,1] (by kernel_rfl)
(.leaf (by kernel_rfl)))) (fun h11 =>
(.path [0,0,1,0,1,0] (by kernel_rfl)
(.pf (c := (!(n2 == n2 && (n8 == n8 && (n9 == n9 && (n10 == n10 && true) && true))))) (by kernel_rfl) (by kernel_rfl) (by (simp [*]; done))
(.path [1,0,1,0,0,0,1,0,1,1] (by kernel_rfl)
.none))))))) (fun h10 =>
.none)))))))) (fun h8 =>
.none))))))))))) (fun h6 =>
(.node (by kernel_rfl) (by kernel_rfl) (fun h7 =>
(.path (1 ::1 ::1 ::1 ::1 ::1 ::1 ::1 ::1 ::1 ::1 ::0 ::1 ::1 ::0 ::0 ::1 ::0 ::0 ::0 ::0 ::1 ::0 ::1 ::0 ::0 ::0 ::1 ::0 ::1 ::1 :: []) (by kernel_rfl)
(.leaf (by kernel_rfl)))) (fun h7 =>
.none)))))) (fun h5 =>
(.node (by kernel_rfl) (by kernel_rfl) (fun h6 =>
(.path [0] (by kernel_rfl)
(.node (by kernel_rfl) (by kernel_rfl) (fun h7 =>
(.path [0] (by kernel_rfl)
(.node (by kernel_rfl) (by kernel_rfl) (fun h8 =>
(.path [1,1,1,1,1,1,1,1,0,1,1,0,0,1,0,0,0,0,1,0,1,0,0,0,1,0,1,1] (by kernel_rfl)
(.leaf (by kernel_rfl)))) (fun h8 =>
(.path [1,1] (by kernel_rfl)
(.node (by kernel_rfl) (by kernel_rfl) (fun h9 =>
(.path [1,1,1,1,1,0,1,1,0,0,1,0,0,0,0,1,0,1,0,0,0,1,0,1,1] (by kernel_rfl)
(.leaf (by kernel_rfl)))) (fun h9 =>
(.path [0,1,1,0,0,1,1] (by kernel_rfl)
(.pt (c := (decide ((0 : Int) ≤ IntKind.wrap .i64 (n3 + (1 : Int))) && decide (IntKind.wrap .i64 (n3 + (1 : Int)) ≤ (↑(List.length l0) : Int)))) (by kernel_rfl) (by kernel_rfl) (by (simp only [w64d, decide_eq_true_eq, decide_eq_false_iff_not, beq_iff_eq, beq_eq_false_iff_ne, bne_iff_ne, ne_eq, inR, Bool.and_eq_true, Bool.and_eq_false_iff, Bool.not_eq_true', Bool.not_eq_false', Bool.not_eq_eq_eq_not, Bool.not_true, Bool.not_false] at *; omega))
(.pt (c := (decide ((0 : Int) ≤ n1) && decide (n1 ≤ IntKind.wrap .i64 (n3 + (1 : Int))))) (by kernel_rfl) (by kernel_rfl) (by (simp only [w64d, decide_eq_true_eq, decide_eq_false_iff_not, beq_iff_eq, beq_eq_false_iff_ne, bne_iff_ne, ne_eq, inR, Bool.and_eq_true, Bool.and_eq_false_iff, Bool.not_eq_true', Bool.not_eq_false', Bool.not_eq_eq_eq_not, Bool.not_true, Bool.not_false] at *; omega))
(.node (by kernel_rfl) (by kernel_rfl) (fun h10 =>
(.path [1] (by kernel_rfl)
(.node (by kernel_rfl) (by kernel_rfl) (fun h11 =>
(.path [1,1,1,1,1,1] (by kernel_rfl)
(.leaf (by kernel_rfl)))) (fun h11 =>
(.pt (c := (decide ((0 : Int) ≤ IntKind.wrap .i64 (n3 + (1 : Int))) && decide (IntKind.wrap .i64 (n3 + (1 : Int)) ≤ (↑(List.length l0) : Int)))) (by kernel_rfl) (by kernel_rfl) (by (simp only [w64d, decide_eq_true_eq, decide_eq_false_iff_not, beq_iff_eq, beq_eq_false_iff_ne, bne_iff_ne, ne_eq, inR, Bool.and_eq_true, Bool.and_eq_false_iff, Bool.not_eq_true', Bool.not_eq_false', Bool.not_eq_eq_eq_not, Bool.not_true, Bool.not_false] at *; omega))
(.pt (c := (decide ((0 : Int) ≤ n1) && decide (n1 ≤ IntKind.wrap .i64 (n3 + (1 : Int))))) (by kernel_rfl) (by kernel_rfl) (by (simp only [w64d, decide_eq_true_eq, decide_eq_false_iff_not, beq_iff_eq, beq_eq_false_iff_ne, bne_iff_ne, ne_eq, inR, Bool.and_eq_true, Bool.and_eq_false_iff, Bool.not_eq_true', Bool.not_eq_false', Bool.not_eq_eq_eq_not, Bool.not_true, Bool.not_false] at *; omega))
(.node (by kernel_rfl) (by kernel_rfl) (fun h12 =>
(.path [1] (by kernel_rfl)
(.node (by kernel_rfl) (by kernel_rfl) (fun h13 =>
(.path [1,1,1,1] (by kernel_rfl)
(.leaf (by kernel_rfl)))) (fun h13 =>
(.path [0,0,1,0,1,0] (by kernel_rfl)
(.node (by kernel_rfl) (by kernel_rfl) (fun h14 =>
(.node (by kernel_rfl) (by kernel_rfl) (fun h15 =>
(.path [1] (by kernel_rfl)
(.leaf (by kernel_rfl)))) (fun h15 =>
(.path [1,0,1,0,0,0,1,0,1,1] (by kernel_rfl)
(.leaf (by kernel_rfl)))))) (fun h14 =>
(.path [1,0,1,0,0,0,1,0,1,1] (by kernel_rfl)
(.leaf (by kernel_rfl)))))))))) (fun h12 =>
.none)))))))) (fun h10 =>
.none)))))))))))) (fun h7 =>
(.node (by kernel_rfl) (by kernel_rfl) (fun h8 =>
(.path (1 ::1 ::1 ::1 ::1 ::1 ::1 ::1 ::1 ::1 ::1 ::0 ::1 ::1 ::0 ::0 ::1 ::0 ::0 ::0 ::0 ::1 ::0 ::1 ::0 ::0 ::0 ::1 ::0 ::1 ::1 :: []) (by kernel_rfl)
(.leaf (by kernel_rfl)))) (fun h8 =>
.none)))))) (fun h6 =>
.none)))))))))))))))))))

theorem ls_4_ok : LsOk Try.prog (0) (lsM [(8, L4_8)] (0)) (bodyOf Try.prog 4) := LsOk.many fun j B hB hk c hc hi => by
  simp only [lookM] at hB
  split at hB
  · rename_i e; have := Nat.eq_of_beq_eq_true e; subst this; cases hB
    have e1 : loopAt Try.prog 4 8 = [cAt Try.prog 4 8] := loopAt_one (by kernel_rfl)
    have e2 : c ∈ loopAt Try.prog 4 8 := loopsAt_mem hc hi
    rw [e1] at e2; cases List.mem_singleton.1 e2; exact L4_8_run
  cases hB

noncomputable def ev_W4 (env : List Dat) : Tree Bool := Lk.lawB false LK cs_26 4 (lsM [(8, L4_8)] (0)) (instL [.imm TCl 0] env)

theorem W4_law (env : List Dat) (h : (ev_W4 env).sel = some true) {w : World} {args : Array Value} (ha : LRel R0 (snapOf w) (instL [.imm TCl 0] env) args) :
    Calls Try.prog 4 args w fun e w' => e = .returned (.bool true) ∧ Below w.heap.size w w' :=
  lawB_ok cs_26_ok hmix false (ls := (lsM [(8, L4_8)] (0))) (ls_4_ok) (by rw [← lawB_lk]; exact h) ha

noncomputable def fn_W4_t : List Dat → Tree Bool
  | [.l (Ty.pair (Ty.int IntKind.i64) (Ty.pair (Ty.int IntKind.i64) (Ty.pair (Ty.int IntKind.i64) (Ty.pair (Ty.int IntKind.i64) (Ty.pair (Ty.int IntKind.u64) (Ty.int IntKind.u32)))))) l0] =>
    (.node (decide ((↑(List.length l0) : Int) > (200 : Int)))
     (.leaf (true))
     (let r1 : Option (Nat × List Dat) := (op_L4_8 [.k 0, .l (Ty.pair (Ty.int IntKind.i64) (Ty.pair (Ty.int IntKind.i64) (Ty.pair (Ty.int IntKind.i64) (Ty.pair (Ty.int IntKind.i64) (Ty.pair (Ty.int IntKind.u64) (Ty.int IntKind.u32)))))) l0, .n (0 : Int), .n (0 : Int), .b false, .n (0 : Int), .b false, .n (0 : Int)]);
      (.node (isK 0 [HK.n, HK.b, HK.n] r1)
       (.node (gn (dOf r1) 2 == gn (dOf r1) 0)
        (.leaf (true))
        (.leaf (false)))
       (.node (isK 1 [HK.n, HK.b, HK.n] r1)
        (.node (gn (dOf r1) 2 == gn (dOf r1) 0)
         (.leaf (true))
         (.leaf (false)))
        (.node (isK 2 [HK.n, HK.b, HK.n] r1)
         (.node (gn (dOf r1) 2 == gn (dOf r1) 0)
          (.leaf (true))
          (.leaf (false)))
         (.node (isK 3 [HK.b] r1)
          (.leaf (gb (dOf r1) 0))
          (.bad 351)))))))
  | _ => .bad 0
theorem fn_W4_t_im (l0 : List (Ty.den (Ty.pair (Ty.int IntKind.i64) (Ty.pair (Ty.int IntKind.i64) (Ty.pair (Ty.int IntKind.i64) (Ty.pair (Ty.int IntKind.i64) (Ty.pair (Ty.int IntKind.u64) (Ty.int IntKind.u32)))))))) : Imp (fn_W4_t [.l (Ty.pair (Ty.int IntKind.i64) (Ty.pair (Ty.int IntKind.i64) (Ty.pair (Ty.int IntKind.i64) (Ty.pair (Ty.int IntKind.i64) (Ty.pair (Ty.int IntKind.u64) (Ty.int IntKind.u32)))))) l0]) (ev_W4 [.l TCl l0]) :=
(.node (by kernel_rfl) (by kernel_rfl) (fun h0 =>
(.path [1,1,1] (by kernel_rfl)
(.leaf (by kernel_rfl)))) (fun h0 =>
(.path [1,1] (by kernel_rfl)
(.node (by kernel_rfl) (by kernel_rfl) (fun h1 =>
(.path [1,0,1] (by kernel_rfl)
(.node (by kernel_rfl) (by kernel_rfl) (fun h2 =>
(.path [1,1,1] (by kernel_rfl)
(.leaf (by kernel_rfl)))) (fun h2 =>
(.path [0] (by kernel_rfl)
(.leaf (by kernel_rfl))))))) (fun h1 =>
(.node (by kernel_rfl) (by kernel_rfl) (fun h2 =>
(.path [1,0,1] (by kernel_rfl)
(.node (by kernel_rfl) (by kernel_rfl) (fun h3 =>
(.path [1,1,1] (by kernel_rfl)
(.leaf (by kernel_rfl)))) (fun h3 =>
(.path [0] (by kernel_rfl)
(.leaf (by kernel_rfl))))))) (fun h2 =>
(.node (by kernel_rfl) (by kernel_rfl) (fun h3 =>
(.path [1,0,1] (by kernel_rfl)
(.node (by kernel_rfl) (by kernel_rfl) (fun h4 =>
(.path [1,1,1] (by kernel_rfl)
(.leaf (by kernel_rfl)))) (fun h4 =>
(.path [0] (by kernel_rfl)
(.leaf (by kernel_rfl))))))) (fun h3 =>
(.node (by kernel_rfl) (by kernel_rfl) (fun h4 =>
(.leaf (by kernel_rfl))) (fun h4 =>
.none)))))))))))
end Go.Proofs.Ytchedebomjmehaa.Vx.Bo
