import Derived.Test.YtchedebomjmehaaSxCs
import Derived.Test.YtchedebomjmehaaRows
namespace Go.Proofs.Ytchedebomjmehaa.Sx
open Go Go.RowKit
set_option linter.unusedVariables false
set_option maxRecDepth 100000
def right42_0 (e : Int) (h : Int) (u : Int) : Bool :=
  bif decide (e < 0) then
    (false)
  else
    bif decide (e > 1099511627776) then
      (false)
    else
      bif decide (u < 0) then
        (false)
      else
        bif decide (u > 1099511627784) then
          (false)
        else
          bif decide (h ≥ -1) then
            bif decide (h ≤ 1) then
              bif decide (e > 0) then
                (true)
              else
                (h == -1)
            else
              (false)
          else
            (false)
theorem right42_ok (e : Int) (h : Int) (u : Int) (w : World) : Calls Try.prog 42 #[Value.agg #[Value.int IntKind.i64 e, Value.int IntKind.i64 h, Value.int IntKind.i64 u]] w fun e' w' => e' = .returned (.bool (right42_0 e h u)) ∧ Below w.heap.size w w' := by
  cases hc0 : (decide (e < 0)) with
  | true =>
    exact (evPure_plain (v := .bool (false)) csNone_ok 1000 [none, some true, none, none, none, none, none] [(decide (e < 0)) = true] (by kernel_rfl) (Alls.cons hc0 Alls.nil) rfl rfl w).mono fun e' w' hh => ⟨by rw [hh.1]; try simp only [right42_0, hc0, cond_true, cond_false], hh.2⟩
  | false =>
    cases hc1 : (decide (e > 1099511627776)) with
    | true =>
      exact (evPure_plain (v := .bool (false)) csNone_ok 1000 [none, some false, some true, none, none, none, none] [(decide (e < 0)) = false, (decide (e > 1099511627776)) = true] (by kernel_rfl) (Alls.cons hc0 (Alls.cons hc1 Alls.nil)) rfl rfl w).mono fun e' w' hh => ⟨by rw [hh.1]; try simp only [right42_0, hc0, hc1, cond_true, cond_false], hh.2⟩
    | false =>
      cases hc2 : (decide (u < 0)) with
      | true =>
        exact (evPure_plain (v := .bool (false)) csNone_ok 1000 [none, some false, some false, none, none, none, some true, none, none, none, none] [(decide (e < 0)) = false, (decide (e > 1099511627776)) = false, (decide (u < 0)) = true] (by kernel_rfl) (Alls.cons hc0 (Alls.cons hc1 (Alls.cons hc2 Alls.nil))) rfl rfl w).mono fun e' w' hh => ⟨by rw [hh.1]; try simp only [right42_0, hc0, hc1, hc2, cond_true, cond_false], hh.2⟩
      | false =>
        cases hc3 : (decide (u > 1099511627784)) with
        | true =>
          exact (evPure_plain (v := .bool (false)) csNone_ok 1000 [none, some false, some false, none, none, none, some false, some true, none, none, none] [(decide (e < 0)) = false, (decide (e > 1099511627776)) = false, (decide (u < 0)) = false, (decide (u > 1099511627784)) = true] (by kernel_rfl) (Alls.cons hc0 (Alls.cons hc1 (Alls.cons hc2 (Alls.cons hc3 Alls.nil)))) rfl rfl w).mono fun e' w' hh => ⟨by rw [hh.1]; try simp only [right42_0, hc0, hc1, hc2, hc3, cond_true, cond_false], hh.2⟩
        | false =>
          cases hc4 : (decide (h ≥ -1)) with
          | true =>
            cases hc5 : (decide (h ≤ 1)) with
            | true =>
              cases hc6 : (decide (e > 0)) with
              | true =>
                exact (evPure_plain (v := .bool (true)) csNone_ok 1000 [none, some false, some false, none, none, none, some false, some false, none, none, some true, some true, some true] [(decide (e < 0)) = false, (decide (e > 1099511627776)) = false, (decide (u < 0)) = false, (decide (u > 1099511627784)) = false, (decide (h ≥ -1)) = true, (decide (h ≤ 1)) = true, (decide (e > 0)) = true] (by kernel_rfl) (Alls.cons hc0 (Alls.cons hc1 (Alls.cons hc2 (Alls.cons hc3 (Alls.cons hc4 (Alls.cons hc5 (Alls.cons hc6 Alls.nil))))))) rfl rfl w).mono fun e' w' hh => ⟨by rw [hh.1]; try simp only [right42_0, hc0, hc1, hc2, hc3, hc4, hc5, hc6, cond_true, cond_false], hh.2⟩
              | false =>
                exact (evPure_plain (v := .bool (h == -1)) csNone_ok 1000 [none, some false, some false, none, none, none, some false, some false, none, none, some true, some true, some false] [(decide (e < 0)) = false, (decide (e > 1099511627776)) = false, (decide (u < 0)) = false, (decide (u > 1099511627784)) = false, (decide (h ≥ -1)) = true, (decide (h ≤ 1)) = true, (decide (e > 0)) = false] (by kernel_rfl) (Alls.cons hc0 (Alls.cons hc1 (Alls.cons hc2 (Alls.cons hc3 (Alls.cons hc4 (Alls.cons hc5 (Alls.cons hc6 Alls.nil))))))) rfl rfl w).mono fun e' w' hh => ⟨by rw [hh.1]; try simp only [right42_0, hc0, hc1, hc2, hc3, hc4, hc5, hc6, cond_true, cond_false], hh.2⟩
            | false =>
              exact (evPure_plain (v := .bool (false)) csNone_ok 1000 [none, some false, some false, none, none, none, some false, some false, none, none, some true, some false] [(decide (e < 0)) = false, (decide (e > 1099511627776)) = false, (decide (u < 0)) = false, (decide (u > 1099511627784)) = false, (decide (h ≥ -1)) = true, (decide (h ≤ 1)) = false] (by kernel_rfl) (Alls.cons hc0 (Alls.cons hc1 (Alls.cons hc2 (Alls.cons hc3 (Alls.cons hc4 (Alls.cons hc5 Alls.nil)))))) rfl rfl w).mono fun e' w' hh => ⟨by rw [hh.1]; try simp only [right42_0, hc0, hc1, hc2, hc3, hc4, hc5, cond_true, cond_false], hh.2⟩
          | false =>
            exact (evPure_plain (v := .bool (false)) csNone_ok 1000 [none, some false, some false, none, none, none, some false, some false, none, none, some false, none] [(decide (e < 0)) = false, (decide (e > 1099511627776)) = false, (decide (u < 0)) = false, (decide (u > 1099511627784)) = false, (decide (h ≥ -1)) = false] (by kernel_rfl) (Alls.cons hc0 (Alls.cons hc1 (Alls.cons hc2 (Alls.cons hc3 (Alls.cons hc4 Alls.nil))))) rfl rfl w).mono fun e' w' hh => ⟨by rw [hh.1]; try simp only [right42_0, hc0, hc1, hc2, hc3, hc4, cond_true, cond_false], hh.2⟩
def F42 : List Value → Option Value
  | [Value.agg ⟨[Value.int IntKind.i64 e, Value.int IntKind.i64 h, Value.int IntKind.i64 u]⟩] => some (.bool (right42_0 e h u))
  | _ => none
theorem S42 : SpecOk Try.prog 42 (plainSpec F42) := plainSpec_ok fun l v hF => by
  unfold F42 at hF
  split at hF
  · cases hF; exact ⟨rfl, fun w => right42_ok _ _ _ w⟩
  · cases hF
def right43_0 (e : Int) (h : Int) (u : Int) : Bool :=
  bif decide (e ≥ 0) then
    bif decide (e ≤ 1099511627776) then
      bif decide (h ≥ -1) then
        bif decide (h ≤ 1) then
          bif decide (u ≥ 0) then
            bif decide (u ≤ 1099511627784) then
              bif decide (e > 0) then
                (true)
              else
                (h == -1)
            else
              (false)
          else
            (false)
        else
          (false)
      else
        (false)
    else
      (false)
  else
    (false)
theorem right43_ok (e : Int) (h : Int) (u : Int) (w : World) : Calls Try.prog 43 #[Value.agg #[Value.int IntKind.i64 e, Value.int IntKind.i64 h, Value.int IntKind.i64 u]] w fun e' w' => e' = .returned (.bool (right43_0 e h u)) ∧ Below w.heap.size w w' := by
  cases hc0 : (decide (e ≥ 0)) with
  | true =>
    cases hc1 : (decide (e ≤ 1099511627776)) with
    | true =>
      cases hc2 : (decide (h ≥ -1)) with
      | true =>
        cases hc3 : (decide (h ≤ 1)) with
        | true =>
          cases hc4 : (decide (u ≥ 0)) with
          | true =>
            cases hc5 : (decide (u ≤ 1099511627784)) with
            | true =>
              cases hc6 : (decide (e > 0)) with
              | true =>
                exact (evPure_plain (v := .bool (true)) csNone_ok 1000 [some true, some true, some true, some true, some true, some true, some true] [(decide (e ≥ 0)) = true, (decide (e ≤ 1099511627776)) = true, (decide (h ≥ -1)) = true, (decide (h ≤ 1)) = true, (decide (u ≥ 0)) = true, (decide (u ≤ 1099511627784)) = true, (decide (e > 0)) = true] (by kernel_rfl) (Alls.cons hc0 (Alls.cons hc1 (Alls.cons hc2 (Alls.cons hc3 (Alls.cons hc4 (Alls.cons hc5 (Alls.cons hc6 Alls.nil))))))) rfl rfl w).mono fun e' w' hh => ⟨by rw [hh.1]; try simp only [right43_0, hc0, hc1, hc2, hc3, hc4, hc5, hc6, cond_true, cond_false], hh.2⟩
              | false =>
                exact (evPure_plain (v := .bool (h == -1)) csNone_ok 1000 [some true, some true, some true, some true, some true, some true, some false] [(decide (e ≥ 0)) = true, (decide (e ≤ 1099511627776)) = true, (decide (h ≥ -1)) = true, (decide (h ≤ 1)) = true, (decide (u ≥ 0)) = true, (decide (u ≤ 1099511627784)) = true, (decide (e > 0)) = false] (by kernel_rfl) (Alls.cons hc0 (Alls.cons hc1 (Alls.cons hc2 (Alls.cons hc3 (Alls.cons hc4 (Alls.cons hc5 (Alls.cons hc6 Alls.nil))))))) rfl rfl w).mono fun e' w' hh => ⟨by rw [hh.1]; try simp only [right43_0, hc0, hc1, hc2, hc3, hc4, hc5, hc6, cond_true, cond_false], hh.2⟩
            | false =>
              exact (evPure_plain (v := .bool (false)) csNone_ok 1000 [some true, some true, some true, some true, some true, some false] [(decide (e ≥ 0)) = true, (decide (e ≤ 1099511627776)) = true, (decide (h ≥ -1)) = true, (decide (h ≤ 1)) = true, (decide (u ≥ 0)) = true, (decide (u ≤ 1099511627784)) = false] (by kernel_rfl) (Alls.cons hc0 (Alls.cons hc1 (Alls.cons hc2 (Alls.cons hc3 (Alls.cons hc4 (Alls.cons hc5 Alls.nil)))))) rfl rfl w).mono fun e' w' hh => ⟨by rw [hh.1]; try simp only [right43_0, hc0, hc1, hc2, hc3, hc4, hc5, cond_true, cond_false], hh.2⟩
          | false =>
            exact (evPure_plain (v := .bool (false)) csNone_ok 1000 [some true, some true, some true, some true, some false, none] [(decide (e ≥ 0)) = true, (decide (e ≤ 1099511627776)) = true, (decide (h ≥ -1)) = true, (decide (h ≤ 1)) = true, (decide (u ≥ 0)) = false] (by kernel_rfl) (Alls.cons hc0 (Alls.cons hc1 (Alls.cons hc2 (Alls.cons hc3 (Alls.cons hc4 Alls.nil))))) rfl rfl w).mono fun e' w' hh => ⟨by rw [hh.1]; try simp only [right43_0, hc0, hc1, hc2, hc3, hc4, cond_true, cond_false], hh.2⟩
        | false =>
          exact (evPure_plain (v := .bool (false)) csNone_ok 1000 [some true, some true, some true, some false, none] [(decide (e ≥ 0)) = true, (decide (e ≤ 1099511627776)) = true, (decide (h ≥ -1)) = true, (decide (h ≤ 1)) = false] (by kernel_rfl) (Alls.cons hc0 (Alls.cons hc1 (Alls.cons hc2 (Alls.cons hc3 Alls.nil)))) rfl rfl w).mono fun e' w' hh => ⟨by rw [hh.1]; try simp only [right43_0, hc0, hc1, hc2, hc3, cond_true, cond_false], hh.2⟩
      | false =>
        exact (evPure_plain (v := .bool (false)) csNone_ok 1000 [some true, some true, some false, none, none] [(decide (e ≥ 0)) = true, (decide (e ≤ 1099511627776)) = true, (decide (h ≥ -1)) = false] (by kernel_rfl) (Alls.cons hc0 (Alls.cons hc1 (Alls.cons hc2 Alls.nil))) rfl rfl w).mono fun e' w' hh => ⟨by rw [hh.1]; try simp only [right43_0, hc0, hc1, hc2, cond_true, cond_false], hh.2⟩
    | false =>
      exact (evPure_plain (v := .bool (false)) csNone_ok 1000 [some true, some false, none, none, none] [(decide (e ≥ 0)) = true, (decide (e ≤ 1099511627776)) = false] (by kernel_rfl) (Alls.cons hc0 (Alls.cons hc1 Alls.nil)) rfl rfl w).mono fun e' w' hh => ⟨by rw [hh.1]; try simp only [right43_0, hc0, hc1, cond_true, cond_false], hh.2⟩
  | false =>
    exact (evPure_plain (v := .bool (false)) csNone_ok 1000 [some false, none, none, none, none] [(decide (e ≥ 0)) = false] (by kernel_rfl) (Alls.cons hc0 Alls.nil) rfl rfl w).mono fun e' w' hh => ⟨by rw [hh.1]; try simp only [right43_0, hc0, cond_true, cond_false], hh.2⟩
def F43 : List Value → Option Value
  | [Value.agg ⟨[Value.int IntKind.i64 e, Value.int IntKind.i64 h, Value.int IntKind.i64 u]⟩] => some (.bool (right43_0 e h u))
  | _ => none
theorem S43 : SpecOk Try.prog 43 (plainSpec F43) := plainSpec_ok fun l v hF => by
  unfold F43 at hF
  split at hF
  · cases hF; exact ⟨rfl, fun w => right43_ok _ _ _ w⟩
  · cases hF
def cs1 : FuncId → Option CSpec := csAdd 42 (plainSpec F42) (csAdd 43 (plainSpec F43) csNone)
theorem cs1_ok : CsOk Try.prog cs1 := csAdd_ok S42 (csAdd_ok S43 csNone_ok)
end Go.Proofs.Ytchedebomjmehaa.Sx
