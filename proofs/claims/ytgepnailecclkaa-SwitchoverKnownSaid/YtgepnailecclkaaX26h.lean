import Derived.Test.YtgepnailecclkaaVxIm
import Derived.Test.YtgepnailecclkaaVxLk
import Derived.Test.YtgepnailecclkaaVxLaw
import Derived.KernelRfl
namespace Go.Proofs.Ytgepnailecclkaa.Vx
open Go Go.RowKit
set_option linter.unusedVariables false
set_option linter.unusedSimpArgs false
set_option maxRecDepth 100000
set_option maxHeartbeats 0
theorem hmix : Try.prog.follows .mixedOrders = true := by kernel_rfl
theorem csNone_ok0 : CsOk Try.prog csNone := csNone_ok _

def op_5 : List Dat → Option (Nat × List Dat) := fun _ => some (0, [.b true])
def B5 : FBox := mkF [] [] [] [(.bool 0, [])] op_5
theorem fn_5_ok (env : List Dat) (y : Nat × List Dat) (h : op_5 env = some y) : (boxC true Try.prog csNone 5 ls0 (mkF [] [] [] [(.bool 0, [])] fun _ => none) env).sel = some y := by
  cases h
  rw [← boxC_lk]
  kernel_rfl
theorem B5_ok : RunOk Try.prog 5 (boxRun B5) := mkF_ok (op := op_5) csNone_ok0 hmix true (LsOk.none _ _ _) fn_5_ok

noncomputable def cs_5 : FuncId → Option CSpec := csAdd 5 [B5] csNone
theorem cs_5_ok : CsOk Try.prog cs_5 := csAdd_ok csNone_ok0 fun B hB => by
  cases List.mem_singleton.1 hB
  exact B5_ok
end Go.Proofs.Ytgepnailecclkaa.Vx
namespace Go.Proofs.Ytgepnailecclkaa.Vx
open Go Go.RowKit
set_option linter.unusedVariables false
set_option linter.unusedSimpArgs false
set_option maxRecDepth 100000
set_option maxHeartbeats 0

abbrev TI : Ty := .int .i64
abbrev TSt : Ty := .pair (.int .u8) (.int .u8)
def I2 (a b : Int) : List (Ty.den TI) := [a, b]
def swB (h : Nat) : PB := .cells [.int .i64 h, .int .i64 (h+1), .int .i64 (h+2), .int .u8 (h+3), .int .i64 (h+4), .int .i64 (h+5)]
def sp1 (l : List (Ty.den TSt)) (i : Int) : Int := Int.tmod (Prod.fst (List.getD l (Int.toNat i) (Ty.dflt TSt))) (6 : Int)
def sp2 (l : List (Ty.den TSt)) (i : Int) : Int := IntKind.wrap .i64 (Int.tmod (Prod.snd (List.getD l (Int.toNat i) (Ty.dflt TSt))) (2 : Int))
def gd2 (a b p : Int) : Int := @List.getD (Ty.den (Ty.int IntKind.i64)) [a, b] (Int.toNat p) (0 : Int)
theorem DS : (∀ x : Int, IntKind.wrap .i64 x = (x + 9223372036854775808) % 18446744073709551616 - 9223372036854775808) ∧ (∀ (p : Prop) [Decidable p], (decide p = true) = p) ∧ (∀ (p : Prop) [Decidable p], (decide p = false) = ¬ p) ∧
    (∀ a b : Int, ((a == b) = true) = (a = b)) ∧ (∀ a b : Int, ((a == b) = false) = (¬ a = b)) ∧ (∀ a b : Int, ((a != b) = true) = (¬ a = b)) ∧ (∀ a b : Int, ((a != b) = false) = (a = b)) ∧
    (∀ (i : Int) (n : Nat), inR i n = (decide (0 ≤ i) && decide (i < (n : Int)))) ∧ (∀ a b : Bool, ((a && b) = true) = (a = true ∧ b = true)) ∧ (∀ a b : Bool, ((a && b) = false) = (a = false ∨ b = false)) ∧
    (∀ a : Bool, ((!a) = true) = (a = false)) ∧ (∀ a : Bool, ((!a) = false) = (a = true)) := by
  refine ⟨w64d, fun p _ => by simp, fun p _ => by simp, fun a b => by simp, fun a b => by simp, fun a b => by simp, fun a b => by simp, fun _ _ => rfl, fun a b => by simp, fun a b => by cases a <;> simp, fun a => by simp, fun a => by simp⟩
section
variable {α : Type} {T E x : Tree α} {c : Bool}
theorem Imp.pO (a : Imp T x.th) (h : x.isNode = true := by kernel_rfl) (e : x.cd = c := by kernel_rfl) (k : c = true := by simp only [DS] at *; omega) : Imp T x := .pt h e k a
theorem Imp.pS (a : Imp T x.th) (h : x.isNode = true := by kernel_rfl) (e : x.cd = c := by kernel_rfl) (k : c = true := by simp [*]; done) : Imp T x := .pt h e k a
theorem Imp.qO (a : Imp T x.el) (h : x.isNode = true := by kernel_rfl) (e : x.cd = c := by kernel_rfl) (k : c = false := by simp only [DS] at *; omega) : Imp T x := .pf h e k a
theorem Imp.qS (a : Imp T x.el) (h : x.isNode = true := by kernel_rfl) (e : x.cd = c := by kernel_rfl) (k : c = false := by simp [*]; done) : Imp T x := .pf h e k a
theorem Imp.pa (l : List Nat) (a : Imp T (x.walk l)) (h : x.okPath l = true := by kernel_rfl) : Imp T x := .path l h a
theorem Imp.nd (a : c = true → Imp T x.th) (b : c = false → Imp E x.el) (h : x.isNode = true := by kernel_rfl) (e : x.cd = c := by kernel_rfl) : Imp (.node c T E) x := .node h e a b
theorem Imp.lf {y : α} (h : x.sel = some y := by kernel_rfl) : Imp (.leaf y) x := .leaf h
end
noncomputable def st_L3_13 (env : List Dat) : Tree Step := Lk.stepMC false LK cs_5 3 13 ls0 (mkM 0 [] [(sh 198 [(0, .imm TSt 0), (7, .own 0), (12, .own 1), (13, .ptr 2 0), (14, .int .i64 1), (15, .own 3), (16, .int .i64 2)], [.arr TI 3, .vec [.ptr 4 0, .ptr 5 0], .cells [.int .i64 4, .int .i64 5, .int .i64 6], .arr TI 7, swB 8, swB 14])] [] [(.exit 0, sh 198 [], []), (.ret, sh 198 [(6, .bool 0)], [])] fun _ => none) env
theorem op_L3_13_ex : ∃ f : List Dat → Option (Nat × List Dat), ∀ env, f env = iterS st_L3_13 FU env := ⟨iterS st_L3_13 FU, fun _ => rfl⟩
noncomputable def op_L3_13 : List Dat → Option (Nat × List Dat) := Classical.choose op_L3_13_ex
theorem op_L3_13_eq (env : List Dat) : op_L3_13 env = iterS st_L3_13 FU env := Classical.choose_spec op_L3_13_ex env
noncomputable def L3_13 : MBox := mkM 0 [] [(sh 198 [(0, .imm TSt 0), (7, .own 0), (12, .own 1), (13, .ptr 2 0), (14, .int .i64 1), (15, .own 3), (16, .int .i64 2)], [.arr TI 3, .vec [.ptr 4 0, .ptr 5 0], .cells [.int .i64 4, .int .i64 5, .int .i64 6], .arr TI 7, swB 8, swB 14])] [] [(.exit 0, sh 198 [], []), (.ret, sh 198 [(6, .bool 0)], [])] op_L3_13
theorem L3_13_eqs : L3_13 = mkM 0 [] [(sh 198 [(0, .imm TSt 0), (7, .own 0), (12, .own 1), (13, .ptr 2 0), (14, .int .i64 1), (15, .own 3), (16, .int .i64 2)], [.arr TI 3, .vec [.ptr 4 0, .ptr 5 0], .cells [.int .i64 4, .int .i64 5, .int .i64 6], .arr TI 7, swB 8, swB 14])] [] [(.exit 0, sh 198 [], []), (.ret, sh 198 [(6, .bool 0)], [])] (iterS st_L3_13 FU) := congrArg (fun f => mkM 0 [] [(sh 198 [(0, .imm TSt 0), (7, .own 0), (12, .own 1), (13, .ptr 2 0), (14, .int .i64 1), (15, .own 3), (16, .int .i64 2)], [.arr TI 3, .vec [.ptr 4 0, .ptr 5 0], .cells [.int .i64 4, .int .i64 5, .int .i64 6], .arr TI 7, swB 8, swB 14])] [] [(.exit 0, sh 198 [], []), (.ret, sh 198 [(6, .bool 0)], [])] f) (funext op_L3_13_eq)
theorem L3_13_run : ∀ t s x, (manyRun L3_13 t s).sel = some x → CodeOk Try.prog 0 (.loop (cAt Try.prog 3 13)) t s x := by
  rw [L3_13_eqs]
  exact mkM_ok (st := st_L3_13) (m := FU) cs_5_ok hmix false (LsOk.none _ _ _) (by kernel_rfl) (fun env y h => by rw [← stepMC_lk]; exact h)
theorem op_L3_13_good {p : Nat × List Dat → Prop} (Inv : List Dat → Prop) (μ : List Dat → Nat) (h : ∀ env, Inv env → Good (fun y => match y with | .go e => Inv e ∧ μ e < μ env | .stop k d => p (k, d)) (st_L3_13 env).sel) (env : List Dat) (hi : Inv env) (hm : μ env < FU) : Good p (op_L3_13 env) := by
  rw [op_L3_13_eq]
  exact iterS_good Inv μ p h FU env hi hm

end Go.Proofs.Ytgepnailecclkaa.Vx
