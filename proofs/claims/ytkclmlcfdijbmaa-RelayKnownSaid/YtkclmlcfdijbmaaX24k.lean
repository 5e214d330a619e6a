import Derived.Test.YtkclmlcfdijbmaaVxIm
import Derived.Test.YtkclmlcfdijbmaaVxLk
import Derived.Test.YtkclmlcfdijbmaaVxLaw
import Derived.Test.YtkclmlcfdijbmaaY24ek
import Derived.Test.YtkclmlcfdijbmaaY24fk
import Derived.KernelRfl
namespace Go.Proofs.Ytkclmlcfdijbmaa.Vx
open Go Go.RowKit
set_option linter.unusedVariables false
set_option linter.unusedSimpArgs false
set_option maxRecDepth 100000
set_option maxHeartbeats 0

abbrev TCall24 : Ty := .pair (.int .u8) (.pair (.int .i64) (.pair (.int .u8) (.pair (.int .i64) (.pair (.int .i64) (.pair (.int .u64) (.pair (.int .u32) (.pair (.int .u64) (.pair (.int .u64) (.pair (.int .u64) (.pair (.arr 64 (.int .u8)) (.int .u32)))))))))))
def rlA (h : Nat) : PB := .cells [.int .i64 h, .int .i64 (h+1), .nilif, .int .u64 (h+2), .int .u32 (h+3), .int .i64 (h+4), .int .i64 (h+5), .int .u64 (h+6), .int .u64 (h+7), .int .u64 (h+8), .arrd (.int .u8) 64 (h+9), .int .u32 (h+10), .bool (h+11), .int .i64 (h+12), .int .i64 (h+13), .bool (h+14)]
def rlB (h : Nat) : PB := .cells [.int .i64 h, .int .i64 (h+1), .iface 2 (.int .i64 (h+2)), .int .u64 (h+3), .int .u32 (h+4), .int .i64 (h+5), .int .i64 (h+6), .int .u64 (h+7), .int .u64 (h+8), .int .u64 (h+9), .arrd (.int .u8) 64 (h+10), .int .u32 (h+11), .bool (h+12), .int .i64 (h+13), .int .i64 (h+14), .bool (h+15)]
def rmB (h : Nat) : PB := .cells [.int .i64 h, .int .i64 (h+1), .bool (h+2), .int .i64 (h+3), .int .i64 (h+4), .int .i64 (h+5), .int .u64 (h+6), .int .u32 (h+7), .bool (h+8), .int .u64 (h+9), .int .u64 (h+10), .int .u64 (h+11), .arrd (.int .u8) 64 (h+12), .int .u32 (h+13), .int .i64 (h+14), .int .i64 (h+15)]
def foV (h : Nat) : PV := .agg [.int .u8 h, .int .i64 (h+1), .int .i64 (h+2), .int .u64 (h+3), .int .u32 (h+4)]
def stV (h : Nat) : PV := .agg [.int .u64 h, .int .u64 (h+1), .int .u64 (h+2), .arrd (.int .u8) 64 (h+3), .int .u32 (h+4)]
def ouV (h : Nat) : PV := .agg [.int .u64 h, .int .u32 (h+1)]
def cl_1 (l : List (Ty.den TCall24)) (i : Int) : Int := Prod.fst (List.getD l (Int.toNat i) (Ty.dflt TCall24))
def cl_2 (l : List (Ty.den TCall24)) (i : Int) : Int := Prod.fst (Prod.snd (List.getD l (Int.toNat i) (Ty.dflt TCall24)))
def cl_3 (l : List (Ty.den TCall24)) (i : Int) : Int := Prod.fst (Prod.snd (Prod.snd (List.getD l (Int.toNat i) (Ty.dflt TCall24))))
def cl_4 (l : List (Ty.den TCall24)) (i : Int) : Int := Prod.fst (Prod.snd (Prod.snd (Prod.snd (List.getD l (Int.toNat i) (Ty.dflt TCall24)))))
def cl_5 (l : List (Ty.den TCall24)) (i : Int) : Int := Prod.fst (Prod.snd (Prod.snd (Prod.snd (Prod.snd (List.getD l (Int.toNat i) (Ty.dflt TCall24))))))
def cl_6 (l : List (Ty.den TCall24)) (i : Int) : Int := Prod.fst (Prod.snd (Prod.snd (Prod.snd (Prod.snd (Prod.snd (List.getD l (Int.toNat i) (Ty.dflt TCall24)))))))
def cl_7 (l : List (Ty.den TCall24)) (i : Int) : Int := Prod.fst (Prod.snd (Prod.snd (Prod.snd (Prod.snd (Prod.snd (Prod.snd (List.getD l (Int.toNat i) (Ty.dflt TCall24))))))))
def cl_8 (l : List (Ty.den TCall24)) (i : Int) : Int := Prod.fst (Prod.snd (Prod.snd (Prod.snd (Prod.snd (Prod.snd (Prod.snd (Prod.snd (List.getD l (Int.toNat i) (Ty.dflt TCall24)))))))))
def cl_9 (l : List (Ty.den TCall24)) (i : Int) : Int := Prod.fst (Prod.snd (Prod.snd (Prod.snd (Prod.snd (Prod.snd (Prod.snd (Prod.snd (Prod.snd (List.getD l (Int.toNat i) (Ty.dflt TCall24))))))))))
def cl_10 (l : List (Ty.den TCall24)) (i : Int) : Int := Prod.fst (Prod.snd (Prod.snd (Prod.snd (Prod.snd (Prod.snd (Prod.snd (Prod.snd (Prod.snd (Prod.snd (List.getD l (Int.toNat i) (Ty.dflt TCall24)))))))))))
def cl_11 (l : List (Ty.den TCall24)) (i : Int) : List Int := Prod.fst (Prod.snd (Prod.snd (Prod.snd (Prod.snd (Prod.snd (Prod.snd (Prod.snd (Prod.snd (Prod.snd (Prod.snd (List.getD l (Int.toNat i) (Ty.dflt TCall24))))))))))))
def cl_12 (l : List (Ty.den TCall24)) (i : Int) : Int := Prod.snd (Prod.snd (Prod.snd (Prod.snd (Prod.snd (Prod.snd (Prod.snd (Prod.snd (Prod.snd (Prod.snd (Prod.snd (List.getD l (Int.toNat i) (Ty.dflt TCall24))))))))))))
abbrev pats : List (Ty.den (.int .i64)) := ([-1, 0, 1, 2, 1000, 1001] : List Int)
theorem hmix : Try.prog.follows .mixedOrders = true := by kernel_rfl
theorem csNone_ok0 : CsOk Try.prog csNone := csNone_ok _

def op_28 : List Dat → Option (Nat × List Dat) := fun _ => some (0, [.b true])
def B28 : FBox := mkF [] [] [] [(.bool 0, [])] op_28
theorem fn_28_ok (env : List Dat) (y : Nat × List Dat) (h : op_28 env = some y) : (boxC true Try.prog csNone 28 ls0 (mkF [] [] [] [(.bool 0, [])] fun _ => none) env).sel = some y := by
  cases h
  rw [← boxC_lk]
  kernel_rfl
theorem B28_ok : RunOk Try.prog 28 (boxRun B28) := mkF_ok (op := op_28) csNone_ok0 hmix true (LsOk.none _ _ _) fn_28_ok

noncomputable def cs_28 : FuncId → Option CSpec := csAdd 28 [B28] csNone
theorem cs_28_ok : CsOk Try.prog cs_28 := csAdd_ok csNone_ok0 fun B hB => by
  cases List.mem_singleton.1 hB
  exact B28_ok

noncomputable def op_5 : List Dat → Option (Nat × List Dat) := lawOp [.n, .l TCall24]
noncomputable def B5 : FBox := mkF [.int .i64 0, .imm TCall24 1] [] [] [(.bool 0, [])] op_5
noncomputable def cs_5 : FuncId → Option CSpec := csLend 5 B5 cs_28
theorem B5_ok : RunOk Try.prog 5 (boxRun B5) := lawBox_ok (op := op_5) Pl.cs_32b_ok hmix false (ls := lsM [(10, Pl.L5_10)] 0) Pl.ls_5_ok fun env x he => by
  obtain ⟨rfl, h⟩ := lawOp_some he
  refine ⟨rfl, ?_⟩
  obtain ⟨n, _, rfl, h⟩ := fits_n h
  obtain ⟨l, _, rfl, k⟩ := fits_l h
  cases fits_nil k
  exact (Pl.fn_W5_eq n l).trans (Pl.t5 n l)
theorem cs_5_ok : CsOk Try.prog cs_5 := csLend_ok cs_28_ok B5_ok

noncomputable def op_6 : List Dat → Option (Nat × List Dat) := lawOpP [.n, .l TCall24] (fun d => decide (0 ≤ gn d 0) && decide (gn d 0 ≤ 255))
noncomputable def B6 : FBox := mkF [.int .u8 0, .imm TCall24 1] [] [] [(.bool 0, [])] op_6
noncomputable def cs_6 : FuncId → Option CSpec := csLend 6 B6 cs_5
theorem B6_ok : RunOk Try.prog 6 (boxRun B6) := lawBox_ok (op := op_6) Fe.cs_28_ok hmix false (ls := lsM [(11, Fe.L6_11)] 0) Fe.ls_6_ok fun env x he => by
  obtain ⟨rfl, h, hp⟩ := lawOpP_some he
  refine ⟨rfl, ?_⟩
  obtain ⟨n, _, rfl, h⟩ := fits_n h
  obtain ⟨l, _, rfl, k⟩ := fits_l h
  cases fits_nil k
  rw [Bool.and_eq_true, decide_eq_true_eq, decide_eq_true_eq] at hp
  rw [← lawB_lk]; exact Fe.t6 n l hp.1 hp.2
theorem cs_6_ok : CsOk Try.prog cs_6 := csLend_ok cs_5_ok B6_ok

noncomputable def st_L7_13 (env : List Dat) : Tree Step := Lk.stepMC false LK cs_6 7 13 ls0 (mkM 0 [] [(sh 203 [(4, .bool 0), (8, .bool 1), (9, .ptr 0 0), (11, .int .i64 2), (12, .own 1), (167, .own 2), (168, .int .i64 3), (169, .int .i64 4)], [rlA 5, .arr TCall24 20, .arr (.int .i64) 21])] [] [(.exit 0, sh 203 [(4, .bool 0), (8, .bool 1), (9, .ptr 0 0), (11, .int .i64 2), (12, .own 1)], [rlA 3, .arr TCall24 18]), (.ret, sh 203 [(0, .bool 0)], [])] fun _ => none) env
theorem op_L7_13_ex : ∃ f : List Dat → Option (Nat × List Dat), ∀ env, f env = iterS st_L7_13 FU env := ⟨iterS st_L7_13 FU, fun _ => rfl⟩
noncomputable def op_L7_13 : List Dat → Option (Nat × List Dat) := Classical.choose op_L7_13_ex
theorem op_L7_13_eq (env : List Dat) : op_L7_13 env = iterS st_L7_13 FU env := Classical.choose_spec op_L7_13_ex env
noncomputable def L7_13 : MBox := mkM 0 [] [(sh 203 [(4, .bool 0), (8, .bool 1), (9, .ptr 0 0), (11, .int .i64 2), (12, .own 1), (167, .own 2), (168, .int .i64 3), (169, .int .i64 4)], [rlA 5, .arr TCall24 20, .arr (.int .i64) 21])] [] [(.exit 0, sh 203 [(4, .bool 0), (8, .bool 1), (9, .ptr 0 0), (11, .int .i64 2), (12, .own 1)], [rlA 3, .arr TCall24 18]), (.ret, sh 203 [(0, .bool 0)], [])] op_L7_13
theorem L7_13_eqs : L7_13 = mkM 0 [] [(sh 203 [(4, .bool 0), (8, .bool 1), (9, .ptr 0 0), (11, .int .i64 2), (12, .own 1), (167, .own 2), (168, .int .i64 3), (169, .int .i64 4)], [rlA 5, .arr TCall24 20, .arr (.int .i64) 21])] [] [(.exit 0, sh 203 [(4, .bool 0), (8, .bool 1), (9, .ptr 0 0), (11, .int .i64 2), (12, .own 1)], [rlA 3, .arr TCall24 18]), (.ret, sh 203 [(0, .bool 0)], [])] (iterS st_L7_13 FU) := congrArg (fun f => mkM 0 [] [(sh 203 [(4, .bool 0), (8, .bool 1), (9, .ptr 0 0), (11, .int .i64 2), (12, .own 1), (167, .own 2), (168, .int .i64 3), (169, .int .i64 4)], [rlA 5, .arr TCall24 20, .arr (.int .i64) 21])] [] [(.exit 0, sh 203 [(4, .bool 0), (8, .bool 1), (9, .ptr 0 0), (11, .int .i64 2), (12, .own 1)], [rlA 3, .arr TCall24 18]), (.ret, sh 203 [(0, .bool 0)], [])] f) (funext op_L7_13_eq)
theorem L7_13_run : ∀ t s x, (manyRun L7_13 t s).sel = some x → CodeOk Try.prog 0 (.loop (cAt Try.prog 7 13)) t s x := by
  rw [L7_13_eqs]
  exact mkM_ok (st := st_L7_13) (m := FU) cs_6_ok hmix false (LsOk.none _ _ _) (by kernel_rfl) (fun env y h => by rw [← stepMC_lk]; exact h)
theorem op_L7_13_good {p : Nat × List Dat → Prop} (Inv : List Dat → Prop) (μ : List Dat → Nat) (h : ∀ env, Inv env → Good (fun y => match y with | .go e => Inv e ∧ μ e < μ env | .stop k d => p (k, d)) (st_L7_13 env).sel) (env : List Dat) (hi : Inv env) (hm : μ env < FU) : Good p (op_L7_13 env) := by
  rw [op_L7_13_eq]
  exact iterS_good Inv μ p h FU env hi hm

noncomputable def fn_L7_13_t : List Dat → Tree Step
  | [.n n0, .l (Ty.pair (Ty.int IntKind.u8) (Ty.pair (Ty.int IntKind.i64) (Ty.pair (Ty.int IntKind.u8) (Ty.pair (Ty.int IntKind.i64) (Ty.pair (Ty.int IntKind.i64) (Ty.pair (Ty.int IntKind.u64) (Ty.pair (Ty.int IntKind.u32) (Ty.pair (Ty.int IntKind.u64) (Ty.pair (Ty.int IntKind.u64) (Ty.pair (Ty.int IntKind.u64) (Ty.pair (Ty.arr 64 (Ty.int IntKind.u8)) (Ty.int IntKind.u32)))))))))))) l1] =>
    (.leaf (Step.go [.k 0, .b true, .b false, .n (2 : Int), .n (6 : Int), .n (IntKind.wrap .i64 (n0 + (1 : Int))), .n (0 : Int), .n (-1 : Int), .n (0 : Int), .n (0 : Int), .n (0 : Int), .n (0 : Int), .n (0 : Int), .n (0 : Int), .n (0 : Int), .l (Ty.int IntKind.u8) (List.replicate 64 (0 : Int)), .n (0 : Int), .b false, .n (0 : Int), .n (1 : Int), .b false, .l TCall24 l1, .l (Ty.int IntKind.i64) [(-1 : Int), (0 : Int), (1 : Int), (2 : Int), (1000 : Int), (1001 : Int)]]))
  | _ => .bad 0
theorem fn_L7_13_t_im (n0 : Int) (l1 : List (Ty.den TCall24)) (g0 : 0 ≤ n0) (g1 :  n0 < 6) : Imp (fn_L7_13_t [.n n0, .l TCall24 l1]) (st_L7_13 [.k 0, .b true, .b false, .n 2, .n 6, .n n0, .n 0, .n (-1), .n 0, .n 0, .n 0, .n 0, .n 0, .n 0, .n 0, .l (.int .u8) (List.replicate 64 (0 : Int)), .n 0, .b false, .n 0, .n 1, .b false, .l TCall24 l1, .l (.int .i64) pats]) :=
(.path [1] (by kernel_rfl)
(.pt (c := (decide (n0 < (6 : Int)))) (by kernel_rfl) (by kernel_rfl) (by (simp [*]; done))
(.pt (c := (inR n0 6)) (by kernel_rfl) (by kernel_rfl) (by (simp only [w64d, decide_eq_true_eq, decide_eq_false_iff_not, beq_iff_eq, beq_eq_false_iff_ne, bne_iff_ne, ne_eq, inR, Bool.and_eq_true, Bool.and_eq_false_iff, Bool.not_eq_true', Bool.not_eq_false', Bool.not_eq_eq_eq_not, Bool.not_true, Bool.not_false] at *; omega))
(.path [1,1,0,1] (by kernel_rfl)
(.leaf (by kernel_rfl))))))

noncomputable def fn_L7_13_x : List Dat → Tree Step
  | [.n n0, .l (Ty.pair (Ty.int IntKind.u8) (Ty.pair (Ty.int IntKind.i64) (Ty.pair (Ty.int IntKind.u8) (Ty.pair (Ty.int IntKind.i64) (Ty.pair (Ty.int IntKind.i64) (Ty.pair (Ty.int IntKind.u64) (Ty.pair (Ty.int IntKind.u32) (Ty.pair (Ty.int IntKind.u64) (Ty.pair (Ty.int IntKind.u64) (Ty.pair (Ty.int IntKind.u64) (Ty.pair (Ty.arr 64 (Ty.int IntKind.u8)) (Ty.int IntKind.u32)))))))))))) l1] =>
    (.leaf (Step.stop 0 [.b true, .b false, .n (2 : Int), .n (0 : Int), .n (-1 : Int), .n (0 : Int), .n (0 : Int), .n (0 : Int), .n (0 : Int), .n (0 : Int), .n (0 : Int), .n (0 : Int), .l (Ty.int IntKind.u8) (List.replicate 64 (0 : Int)), .n (0 : Int), .b false, .n (0 : Int), .n (1 : Int), .b false, .l TCall24 l1]))
  | _ => .bad 0
theorem fn_L7_13_x_im (n0 : Int) (l1 : List (Ty.den TCall24)) (g0 : n0 = 6) : Imp (fn_L7_13_x [.n n0, .l TCall24 l1]) (st_L7_13 [.k 0, .b true, .b false, .n 2, .n 6, .n n0, .n 0, .n (-1), .n 0, .n 0, .n 0, .n 0, .n 0, .n 0, .n 0, .l (.int .u8) (List.replicate 64 (0 : Int)), .n 0, .b false, .n 0, .n 1, .b false, .l TCall24 l1, .l (.int .i64) pats]) :=
(.path [1] (by kernel_rfl)
(.pf (c := (decide (n0 < (6 : Int)))) (by kernel_rfl) (by kernel_rfl) (by (simp [*]; done))
(.path [1] (by kernel_rfl)
(.leaf (by kernel_rfl)))))

theorem ls_7_ok : LsOk Try.prog (0) (lsM [(13, L7_13)] (0)) (bodyOf Try.prog 7) := LsOk.many fun j B hB hk c hc hi => by
  simp only [lookM] at hB
  split at hB
  · rename_i e; have := Nat.eq_of_beq_eq_true e; subst this; cases hB
    have e1 : loopAt Try.prog 7 13 = [cAt Try.prog 7 13] := loopAt_one (by kernel_rfl)
    have e2 : c ∈ loopAt Try.prog 7 13 := loopsAt_mem hc hi
    rw [e1] at e2; cases List.mem_singleton.1 e2; exact L7_13_run
  cases hB

noncomputable def ev_W7 (env : List Dat) : Tree Bool := Lk.lawB false LK cs_6 7 (lsM [(13, L7_13)] (0)) (instL [] env)

theorem W7_law (env : List Dat) (h : (ev_W7 env).sel = some true) {w : World} {args : Array Value} (ha : LRel R0 (snapOf w) (instL [] env) args) :
    Calls Try.prog 7 args w fun e w' => e = .returned (.bool true) ∧ Below w.heap.size w w' :=
  lawB_ok cs_6_ok hmix false (ls := (lsM [(13, L7_13)] (0))) (ls_7_ok) (by rw [← lawB_lk]; exact h) ha

noncomputable def fn_W7_t : List Dat → Tree Bool
  | [] =>
    (let r1 : Option (Nat × List Dat) := (op_L7_13 [.k 0, .b true, .b false, .n (2 : Int), .n (6 : Int), .n (0 : Int), .n (0 : Int), .n (-1 : Int), .n (0 : Int), .n (0 : Int), .n (0 : Int), .n (0 : Int), .n (0 : Int), .n (0 : Int), .n (0 : Int), .l (Ty.int IntKind.u8) (List.replicate 64 (0 : Int)), .n (0 : Int), .b false, .n (0 : Int), .n (1 : Int), .b false, .l TCall24 (List.set (List.set (List.set (List.set (List.set (List.set (List.set (List.set (List.set (List.set (List.set (List.set (List.set (List.set (List.set (List.set (List.set (List.set (List.set (List.set (List.set (List.set (List.set (List.set (List.set (List.set (List.replicate 26 (Ty.dflt TCall24)) 0 ((0 : Int), (0 : Int), (0 : Int), (0 : Int), (1 : Int), (0 : Int), (0 : Int), (21 : Int), (0 : Int), (0 : Int), List.replicate 64 (0 : Int), (0 : Int))) 1 ((7 : Int), (0 : Int), (0 : Int), (0 : Int), (0 : Int), (0 : Int), (0 : Int), (21 : Int), (0 : Int), (0 : Int), List.replicate 64 (0 : Int), (0 : Int))) 2 ((7 : Int), (0 : Int), (0 : Int), (0 : Int), (0 : Int), (0 : Int), (0 : Int), (21 : Int), (0 : Int), (0 : Int), List.replicate 64 (0 : Int), (0 : Int))) 3 ((0 : Int), (0 : Int), (0 : Int), (0 : Int), (1 : Int), (5 : Int), (6 : Int), (21 : Int), (0 : Int), (0 : Int), List.replicate 64 (0 : Int), (0 : Int))) 4 ((0 : Int), (0 : Int), (0 : Int), (0 : Int), (1 : Int), (0 : Int), (0 : Int), (21 : Int), (0 : Int), (0 : Int), List.replicate 64 (0 : Int), (0 : Int))) 5 ((0 : Int), (2 : Int), (0 : Int), (1 : Int), (1 : Int), (0 : Int), (0 : Int), (21 : Int), (0 : Int), (0 : Int), List.replicate 64 (0 : Int), (0 : Int))) 6 ((0 : Int), (-1 : Int), (0 : Int), (1 : Int), (1 : Int), (0 : Int), (0 : Int), (21 : Int), (0 : Int), (0 : Int), List.replicate 64 (0 : Int), (0 : Int))) 7 ((0 : Int), (0 : Int), (0 : Int), (1 : Int), (0 : Int), (0 : Int), (0 : Int), (21 : Int), (0 : Int), (0 : Int), List.replicate 64 (0 : Int), (0 : Int))) 8 ((0 : Int), (0 : Int), (0 : Int), (1 : Int), (1099511627777 : Int), (0 : Int), (0 : Int), (21 : Int), (0 : Int), (0 : Int), List.replicate 64 (0 : Int), (0 : Int))) 9 ((0 : Int), (1 : Int), (0 : Int), (-1 : Int), (3 : Int), (0 : Int), (0 : Int), (21 : Int), (0 : Int), (0 : Int), List.replicate 64 (0 : Int), (0 : Int))) 10 ((0 : Int), (1 : Int), (0 : Int), (1099511627777 : Int), (3 : Int), (0 : Int), (0 : Int), (21 : Int), (0 : Int), (0 : Int), List.replicate 64 (0 : Int), (0 : Int))) 11 ((0 : Int), (0 : Int), (0 : Int), (1099511627776 : Int), (2 : Int), (5 : Int), (6 : Int), (21 : Int), (0 : Int), (0 : Int), List.replicate 64 (0 : Int), (0 : Int))) 12 ((3 : Int), (1 : Int), (0 : Int), (0 : Int), (2 : Int), (0 : Int), (0 : Int), (21 : Int), (0 : Int), (0 : Int), List.replicate 64 (0 : Int), (0 : Int))) 13 ((3 : Int), (1 : Int), (0 : Int), (0 : Int), (3 : Int), (0 : Int), (0 : Int), (21 : Int), (0 : Int), (0 : Int), List.replicate 64 (0 : Int), (0 : Int))) 14 ((4 : Int), (0 : Int), (0 : Int), (0 : Int), (3 : Int), (0 : Int), (0 : Int), (21 : Int), (0 : Int), (0 : Int), List.replicate 64 (0 : Int), (0 : Int))) 15 ((5 : Int), (0 : Int), (0 : Int), (0 : Int), (0 : Int), (0 : Int), (0 : Int), (21 : Int), (0 : Int), (0 : Int), List.replicate 64 (0 : Int), (0 : Int))) 16 ((4 : Int), (1 : Int), (0 : Int), (0 : Int), (3 : Int), (0 : Int), (0 : Int), (21 : Int), (0 : Int), (0 : Int), List.replicate 64 (0 : Int), (0 : Int))) 17 ((0 : Int), (1 : Int), (0 : Int), (1 : Int), (4 : Int), (5 : Int), (6 : Int), (21 : Int), (0 : Int), (0 : Int), List.replicate 64 (0 : Int), (0 : Int))) 18 ((7 : Int), (0 : Int), (0 : Int), (0 : Int), (0 : Int), (0 : Int), (0 : Int), (21 : Int), (0 : Int), (0 : Int), List.replicate 64 (0 : Int), (0 : Int))) 19 ((0 : Int), (1 : Int), (0 : Int), (1 : Int), (4 : Int), (5 : Int), (6 : Int), (21 : Int), (0 : Int), (0 : Int), List.replicate 64 (0 : Int), (0 : Int))) 20 ((5 : Int), (0 : Int), (0 : Int), (0 : Int), (0 : Int), (0 : Int), (0 : Int), (21 : Int), (0 : Int), (0 : Int), List.replicate 64 (0 : Int), (0 : Int))) 21 ((5 : Int), (0 : Int), (0 : Int), (0 : Int), (0 : Int), (0 : Int), (0 : Int), (21 : Int), (0 : Int), (0 : Int), List.replicate 64 (0 : Int), (0 : Int))) 22 ((5 : Int), (0 : Int), (0 : Int), (0 : Int), (0 : Int), (0 : Int), (0 : Int), (21 : Int), (0 : Int), (0 : Int), List.replicate 64 (0 : Int), (0 : Int))) 23 ((7 : Int), (0 : Int), (0 : Int), (0 : Int), (0 : Int), (0 : Int), (0 : Int), (21 : Int), (0 : Int), (0 : Int), List.replicate 64 (0 : Int), (0 : Int))) 24 ((5 : Int), (0 : Int), (0 : Int), (0 : Int), (0 : Int), (0 : Int), (0 : Int), (21 : Int), (0 : Int), (0 : Int), List.replicate 64 (0 : Int), (0 : Int))) 25 ((0 : Int), (1 : Int), (0 : Int), (2 : Int), (4 : Int), (5 : Int), (6 : Int), (21 : Int), (0 : Int), (0 : Int), List.replicate 64 (0 : Int), (0 : Int))), .l (Ty.int IntKind.i64) [(-1 : Int), (0 : Int), (1 : Int), (2 : Int), (1000 : Int), (1001 : Int)]]);
     (.node (isK 0 [HK.b, HK.b, HK.n, HK.n, HK.n, HK.n, HK.n, HK.n, HK.n, HK.n, HK.n, HK.n, HK.l (Ty.int IntKind.u8), HK.n, HK.b, HK.n, HK.n, HK.b, HK.l TCall24] r1)
      (.node (gb (dOf r1) 0)
       (.node (!gb (dOf r1) 1)
        (.node (gn (dOf r1) 2 == (2 : Int))
         (.node (gn (dOf r1) 3 == (0 : Int))
          (.leaf (true))
          (.leaf (false)))
         (.leaf (false)))
        (.leaf (false)))
       (.leaf (false)))
      (.node (isK 1 [HK.b] r1)
       (.leaf (gb (dOf r1) 0))
       (.bad 351))))
  | _ => .bad 0
theorem fn_W7_t_im  : Imp (fn_W7_t []) (ev_W7 []) :=
(.path (1 ::1 ::1 ::1 ::1 ::1 ::1 ::1 ::1 ::1 ::1 ::1 ::1 ::1 ::1 ::1 ::1 ::1 ::1 ::1 ::1 ::1 ::1 ::1 ::1 ::1 ::1 ::1 ::1 ::1 ::1 ::1 ::1 ::1 ::1 ::1 ::1 ::1 ::1 ::1 ::1 ::1 ::0 ::0 ::1 ::1 ::0 ::0 ::1 ::1 ::0 ::1 ::0 ::0 ::0 ::0 ::0 ::0 ::0 ::0 ::1 ::1 ::0 ::0 ::0 ::1 ::1 :: []) (by kernel_rfl)
(.node (by kernel_rfl) (by kernel_rfl) (fun h0 =>
(.node (by kernel_rfl) (by kernel_rfl) (fun h1 =>
(.node (by kernel_rfl) (by kernel_rfl) (fun h2 =>
(.node (by kernel_rfl) (by kernel_rfl) (fun h3 =>
(.path [1,0,1] (by kernel_rfl)
(.node (by kernel_rfl) (by kernel_rfl) (fun h4 =>
(.path [1,1,1,1,1,1,1,1,1] (by kernel_rfl)
(.leaf (by kernel_rfl)))) (fun h4 =>
(.path [0,0,0,0,0] (by kernel_rfl)
(.leaf (by kernel_rfl))))))) (fun h3 =>
(.path [0,0,0,0,0,0,0] (by kernel_rfl)
(.leaf (by kernel_rfl)))))) (fun h2 =>
(.path [0,0,0,0,0,0,0,0,0] (by kernel_rfl)
(.leaf (by kernel_rfl)))))) (fun h1 =>
(.path [0,0,0,0,0,0,0,0,0,0,0] (by kernel_rfl)
(.leaf (by kernel_rfl)))))) (fun h0 =>
(.node (by kernel_rfl) (by kernel_rfl) (fun h1 =>
(.leaf (by kernel_rfl))) (fun h1 =>
.none)))))
end Go.Proofs.Ytkclmlcfdijbmaa.Vx
