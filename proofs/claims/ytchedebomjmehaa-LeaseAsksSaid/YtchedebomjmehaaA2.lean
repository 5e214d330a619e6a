import Derived.Test.YtchedebomjmehaaA1
namespace Go.Proofs.Ytchedebomjmehaa.Sx
open Go Go.RowKit
set_option linter.unusedVariables false
set_option maxRecDepth 100000
def ask39_0 (e : Int) (h : Int) (u : Int) (p : Int) (n : Int) : Int :=
  bif right42_0 e h u then
    bif decide (p < 0) then
      (e)
    else
      bif decide (p > 1) then
        (e)
      else
        bif decide (n < 0) then
          (e)
        else
          bif decide (n > 1099511627776) then
            (e)
          else
            bif h != -1 then
              bif h != p then
                bif decide (n ≤ u) then
                  (e)
                else
                  bif e == 1099511627776 then
                    (e)
                  else
                    (IntKind.i64.wrap (e + 1))
              else
                bif e == 1099511627776 then
                  (e)
                else
                  (IntKind.i64.wrap (e + 1))
            else
              bif e == 1099511627776 then
                (e)
              else
                (IntKind.i64.wrap (e + 1))
  else
    (e)
def ask39_1 (e : Int) (h : Int) (u : Int) (p : Int) (n : Int) : Int :=
  bif right42_0 e h u then
    bif decide (p < 0) then
      (h)
    else
      bif decide (p > 1) then
        (h)
      else
        bif decide (n < 0) then
          (h)
        else
          bif decide (n > 1099511627776) then
            (h)
          else
            bif h != -1 then
              bif h != p then
                bif decide (n ≤ u) then
                  (h)
                else
                  bif e == 1099511627776 then
                    (h)
                  else
                    (p)
              else
                bif e == 1099511627776 then
                  (h)
                else
                  (p)
            else
              bif e == 1099511627776 then
                (h)
              else
                (p)
  else
    (h)
def ask39_2 (e : Int) (h : Int) (u : Int) (p : Int) (n : Int) : Int :=
  bif right42_0 e h u then
    bif decide (p < 0) then
      (u)
    else
      bif decide (p > 1) then
        (u)
      else
        bif decide (n < 0) then
          (u)
        else
          bif decide (n > 1099511627776) then
            (u)
          else
            bif h != -1 then
              bif h != p then
                bif decide (n ≤ u) then
                  (u)
                else
                  bif e == 1099511627776 then
                    (u)
                  else
                    (IntKind.i64.wrap (n + 8))
              else
                bif e == 1099511627776 then
                  (u)
                else
                  (IntKind.i64.wrap (n + 8))
            else
              bif e == 1099511627776 then
                (u)
              else
                (IntKind.i64.wrap (n + 8))
  else
    (u)
def ask39_3 (e : Int) (h : Int) (u : Int) (p : Int) (n : Int) : Int :=
  bif right42_0 e h u then
    bif decide (p < 0) then
      (0)
    else
      bif decide (p > 1) then
        (0)
      else
        bif decide (n < 0) then
          (0)
        else
          bif decide (n > 1099511627776) then
            (0)
          else
            bif h != -1 then
              bif h != p then
                bif decide (n ≤ u) then
                  (0)
                else
                  bif e == 1099511627776 then
                    (0)
                  else
                    (IntKind.i64.wrap (e + 1))
              else
                bif e == 1099511627776 then
                  (0)
                else
                  (IntKind.i64.wrap (e + 1))
            else
              bif e == 1099511627776 then
                (0)
              else
                (IntKind.i64.wrap (e + 1))
  else
    (0)
def ask39_4 (e : Int) (h : Int) (u : Int) (p : Int) (n : Int) : Int :=
  bif right42_0 e h u then
    bif decide (p < 0) then
      (0)
    else
      bif decide (p > 1) then
        (0)
      else
        bif decide (n < 0) then
          (0)
        else
          bif decide (n > 1099511627776) then
            (0)
          else
            bif h != -1 then
              bif h != p then
                bif decide (n ≤ u) then
                  (0)
                else
                  bif e == 1099511627776 then
                    (0)
                  else
                    (IntKind.i64.wrap (n + 8))
              else
                bif e == 1099511627776 then
                  (0)
                else
                  (IntKind.i64.wrap (n + 8))
            else
              bif e == 1099511627776 then
                (0)
              else
                (IntKind.i64.wrap (n + 8))
  else
    (0)
def ask39_5 (e : Int) (h : Int) (u : Int) (p : Int) (n : Int) : Int :=
  bif right42_0 e h u then
    bif decide (p < 0) then
      (2)
    else
      bif decide (p > 1) then
        (2)
      else
        bif decide (n < 0) then
          (2)
        else
          bif decide (n > 1099511627776) then
            (2)
          else
            bif h != -1 then
              bif h != p then
                bif decide (n ≤ u) then
                  (231)
                else
                  bif e == 1099511627776 then
                    (3)
                  else
                    (0)
              else
                bif e == 1099511627776 then
                  (3)
                else
                  (0)
            else
              bif e == 1099511627776 then
                (3)
              else
                (0)
  else
    (2)
theorem ask39_ok (e : Int) (h : Int) (u : Int) (p : Int) (n : Int) (w : World) : Calls Try.prog 39 #[Value.agg #[Value.int IntKind.i64 e, Value.int IntKind.i64 h, Value.int IntKind.i64 u], Value.int IntKind.i64 p, Value.int IntKind.i64 n] w fun e' w' => e' = .returned (.tuple #[.agg #[.int IntKind.i64 (ask39_0 e h u p n), .int IntKind.i64 (ask39_1 e h u p n), .int IntKind.i64 (ask39_2 e h u p n)], .agg #[.int IntKind.i64 (ask39_3 e h u p n), .int IntKind.i64 (ask39_4 e h u p n)], .int IntKind.i64 (ask39_5 e h u p n)]) ∧ Below w.heap.size w w' := by
  cases hc0 : (right42_0 e h u) with
  | true =>
    cases hc1 : (decide (p < 0)) with
    | true =>
      exact (evPure_plain (v := .tuple #[.agg #[.int IntKind.i64 (e), .int IntKind.i64 (h), .int IntKind.i64 (u)], .agg #[.int IntKind.i64 (0), .int IntKind.i64 (0)], .int IntKind.i64 (2)]) cs1_ok 1000 [some true, none, some true, none, none, none] [(right42_0 e h u) = true, (decide (p < 0)) = true] (by kernel_rfl) (Alls.cons hc0 (Alls.cons hc1 Alls.nil)) rfl rfl w).mono fun e' w' hh => ⟨by rw [hh.1]; try simp only [ask39_0, ask39_1, ask39_2, ask39_3, ask39_4, ask39_5, hc0, hc1, cond_true, cond_false], hh.2⟩
    | false =>
      cases hc2 : (decide (p > 1)) with
      | true =>
        exact (evPure_plain (v := .tuple #[.agg #[.int IntKind.i64 (e), .int IntKind.i64 (h), .int IntKind.i64 (u)], .agg #[.int IntKind.i64 (0), .int IntKind.i64 (0)], .int IntKind.i64 (2)]) cs1_ok 1000 [some true, none, some false, some true, none, none] [(right42_0 e h u) = true, (decide (p < 0)) = false, (decide (p > 1)) = true] (by kernel_rfl) (Alls.cons hc0 (Alls.cons hc1 (Alls.cons hc2 Alls.nil))) rfl rfl w).mono fun e' w' hh => ⟨by rw [hh.1]; try simp only [ask39_0, ask39_1, ask39_2, ask39_3, ask39_4, ask39_5, hc0, hc1, hc2, cond_true, cond_false], hh.2⟩
      | false =>
        cases hc3 : (decide (n < 0)) with
        | true =>
          exact (evPure_plain (v := .tuple #[.agg #[.int IntKind.i64 (e), .int IntKind.i64 (h), .int IntKind.i64 (u)], .agg #[.int IntKind.i64 (0), .int IntKind.i64 (0)], .int IntKind.i64 (2)]) cs1_ok 1000 [some true, none, some false, some false, none, none, none, some true, none, none] [(right42_0 e h u) = true, (decide (p < 0)) = false, (decide (p > 1)) = false, (decide (n < 0)) = true] (by kernel_rfl) (Alls.cons hc0 (Alls.cons hc1 (Alls.cons hc2 (Alls.cons hc3 Alls.nil)))) rfl rfl w).mono fun e' w' hh => ⟨by rw [hh.1]; try simp only [ask39_0, ask39_1, ask39_2, ask39_3, ask39_4, ask39_5, hc0, hc1, hc2, hc3, cond_true, cond_false], hh.2⟩
        | false =>
          cases hc4 : (decide (n > 1099511627776)) with
          | true =>
            exact (evPure_plain (v := .tuple #[.agg #[.int IntKind.i64 (e), .int IntKind.i64 (h), .int IntKind.i64 (u)], .agg #[.int IntKind.i64 (0), .int IntKind.i64 (0)], .int IntKind.i64 (2)]) cs1_ok 1000 [some true, none, some false, some false, none, none, none, some false, some true, none] [(right42_0 e h u) = true, (decide (p < 0)) = false, (decide (p > 1)) = false, (decide (n < 0)) = false, (decide (n > 1099511627776)) = true] (by kernel_rfl) (Alls.cons hc0 (Alls.cons hc1 (Alls.cons hc2 (Alls.cons hc3 (Alls.cons hc4 Alls.nil))))) rfl rfl w).mono fun e' w' hh => ⟨by rw [hh.1]; try simp only [ask39_0, ask39_1, ask39_2, ask39_3, ask39_4, ask39_5, hc0, hc1, hc2, hc3, hc4, cond_true, cond_false], hh.2⟩
          | false =>
            cases hc5 : (h != -1) with
            | true =>
              cases hc6 : (h != p) with
              | true =>
                cases hc7 : (decide (n ≤ u)) with
                | true =>
                  exact (evPure_plain (v := .tuple #[.agg #[.int IntKind.i64 (e), .int IntKind.i64 (h), .int IntKind.i64 (u)], .agg #[.int IntKind.i64 (0), .int IntKind.i64 (0)], .int IntKind.i64 (231)]) cs1_ok 1000 [some true, none, some false, some false, none, none, none, some false, some false, none, none, some true, some true, some true] [(right42_0 e h u) = true, (decide (p < 0)) = false, (decide (p > 1)) = false, (decide (n < 0)) = false, (decide (n > 1099511627776)) = false, (h != -1) = true, (h != p) = true, (decide (n ≤ u)) = true] (by kernel_rfl) (Alls.cons hc0 (Alls.cons hc1 (Alls.cons hc2 (Alls.cons hc3 (Alls.cons hc4 (Alls.cons hc5 (Alls.cons hc6 (Alls.cons hc7 Alls.nil)))))))) rfl rfl w).mono fun e' w' hh => ⟨by rw [hh.1]; try simp only [ask39_0, ask39_1, ask39_2, ask39_3, ask39_4, ask39_5, hc0, hc1, hc2, hc3, hc4, hc5, hc6, hc7, cond_true, cond_false], hh.2⟩
                | false =>
                  cases hc8 : (e == 1099511627776) with
                  | true =>
                    exact (evPure_plain (v := .tuple #[.agg #[.int IntKind.i64 (e), .int IntKind.i64 (h), .int IntKind.i64 (u)], .agg #[.int IntKind.i64 (0), .int IntKind.i64 (0)], .int IntKind.i64 (3)]) cs1_ok 1000 [some true, none, some false, some false, none, none, none, some false, some false, none, none, some true, some true, some false, some true] [(right42_0 e h u) = true, (decide (p < 0)) = false, (decide (p > 1)) = false, (decide (n < 0)) = false, (decide (n > 1099511627776)) = false, (h != -1) = true, (h != p) = true, (decide (n ≤ u)) = false, (e == 1099511627776) = true] (by kernel_rfl) (Alls.cons hc0 (Alls.cons hc1 (Alls.cons hc2 (Alls.cons hc3 (Alls.cons hc4 (Alls.cons hc5 (Alls.cons hc6 (Alls.cons hc7 (Alls.cons hc8 Alls.nil))))))))) rfl rfl w).mono fun e' w' hh => ⟨by rw [hh.1]; try simp only [ask39_0, ask39_1, ask39_2, ask39_3, ask39_4, ask39_5, hc0, hc1, hc2, hc3, hc4, hc5, hc6, hc7, hc8, cond_true, cond_false], hh.2⟩
                  | false =>
                    exact (evPure_plain (v := .tuple #[.agg #[.int IntKind.i64 (IntKind.i64.wrap (e + 1)), .int IntKind.i64 (p), .int IntKind.i64 (IntKind.i64.wrap (n + 8))], .agg #[.int IntKind.i64 (IntKind.i64.wrap (e + 1)), .int IntKind.i64 (IntKind.i64.wrap (n + 8))], .int IntKind.i64 (0)]) cs1_ok 1000 [some true, none, some false, some false, none, none, none, some false, some false, none, none, some true, some true, some false, some false] [(right42_0 e h u) = true, (decide (p < 0)) = false, (decide (p > 1)) = false, (decide (n < 0)) = false, (decide (n > 1099511627776)) = false, (h != -1) = true, (h != p) = true, (decide (n ≤ u)) = false, (e == 1099511627776) = false] (by kernel_rfl) (Alls.cons hc0 (Alls.cons hc1 (Alls.cons hc2 (Alls.cons hc3 (Alls.cons hc4 (Alls.cons hc5 (Alls.cons hc6 (Alls.cons hc7 (Alls.cons hc8 Alls.nil))))))))) rfl rfl w).mono fun e' w' hh => ⟨by rw [hh.1]; try simp only [ask39_0, ask39_1, ask39_2, ask39_3, ask39_4, ask39_5, hc0, hc1, hc2, hc3, hc4, hc5, hc6, hc7, hc8, cond_true, cond_false], hh.2⟩
              | false =>
                cases hc7 : (e == 1099511627776) with
                | true =>
                  exact (evPure_plain (v := .tuple #[.agg #[.int IntKind.i64 (e), .int IntKind.i64 (h), .int IntKind.i64 (u)], .agg #[.int IntKind.i64 (0), .int IntKind.i64 (0)], .int IntKind.i64 (3)]) cs1_ok 1000 [some true, none, some false, some false, none, none, none, some false, some false, none, none, some true, some false, none, some true] [(right42_0 e h u) = true, (decide (p < 0)) = false, (decide (p > 1)) = false, (decide (n < 0)) = false, (decide (n > 1099511627776)) = false, (h != -1) = true, (h != p) = false, (e == 1099511627776) = true] (by kernel_rfl) (Alls.cons hc0 (Alls.cons hc1 (Alls.cons hc2 (Alls.cons hc3 (Alls.cons hc4 (Alls.cons hc5 (Alls.cons hc6 (Alls.cons hc7 Alls.nil)))))))) rfl rfl w).mono fun e' w' hh => ⟨by rw [hh.1]; try simp only [ask39_0, ask39_1, ask39_2, ask39_3, ask39_4, ask39_5, hc0, hc1, hc2, hc3, hc4, hc5, hc6, hc7, cond_true, cond_false], hh.2⟩
                | false =>
                  exact (evPure_plain (v := .tuple #[.agg #[.int IntKind.i64 (IntKind.i64.wrap (e + 1)), .int IntKind.i64 (p), .int IntKind.i64 (IntKind.i64.wrap (n + 8))], .agg #[.int IntKind.i64 (IntKind.i64.wrap (e + 1)), .int IntKind.i64 (IntKind.i64.wrap (n + 8))], .int IntKind.i64 (0)]) cs1_ok 1000 [some true, none, some false, some false, none, none, none, some false, some false, none, none, some true, some false, none, some false] [(right42_0 e h u) = true, (decide (p < 0)) = false, (decide (p > 1)) = false, (decide (n < 0)) = false, (decide (n > 1099511627776)) = false, (h != -1) = true, (h != p) = false, (e == 1099511627776) = false] (by kernel_rfl) (Alls.cons hc0 (Alls.cons hc1 (Alls.cons hc2 (Alls.cons hc3 (Alls.cons hc4 (Alls.cons hc5 (Alls.cons hc6 (Alls.cons hc7 Alls.nil)))))))) rfl rfl w).mono fun e' w' hh => ⟨by rw [hh.1]; try simp only [ask39_0, ask39_1, ask39_2, ask39_3, ask39_4, ask39_5, hc0, hc1, hc2, hc3, hc4, hc5, hc6, hc7, cond_true, cond_false], hh.2⟩
            | false =>
              cases hc6 : (e == 1099511627776) with
              | true =>
                exact (evPure_plain (v := .tuple #[.agg #[.int IntKind.i64 (e), .int IntKind.i64 (h), .int IntKind.i64 (u)], .agg #[.int IntKind.i64 (0), .int IntKind.i64 (0)], .int IntKind.i64 (3)]) cs1_ok 1000 [some true, none, some false, some false, none, none, none, some false, some false, none, none, some false, none, none, some true] [(right42_0 e h u) = true, (decide (p < 0)) = false, (decide (p > 1)) = false, (decide (n < 0)) = false, (decide (n > 1099511627776)) = false, (h != -1) = false, (e == 1099511627776) = true] (by kernel_rfl) (Alls.cons hc0 (Alls.cons hc1 (Alls.cons hc2 (Alls.cons hc3 (Alls.cons hc4 (Alls.cons hc5 (Alls.cons hc6 Alls.nil))))))) rfl rfl w).mono fun e' w' hh => ⟨by rw [hh.1]; try simp only [ask39_0, ask39_1, ask39_2, ask39_3, ask39_4, ask39_5, hc0, hc1, hc2, hc3, hc4, hc5, hc6, cond_true, cond_false], hh.2⟩
              | false =>
                exact (evPure_plain (v := .tuple #[.agg #[.int IntKind.i64 (IntKind.i64.wrap (e + 1)), .int IntKind.i64 (p), .int IntKind.i64 (IntKind.i64.wrap (n + 8))], .agg #[.int IntKind.i64 (IntKind.i64.wrap (e + 1)), .int IntKind.i64 (IntKind.i64.wrap (n + 8))], .int IntKind.i64 (0)]) cs1_ok 1000 [some true, none, some false, some false, none, none, none, some false, some false, none, none, some false, none, none, some false] [(right42_0 e h u) = true, (decide (p < 0)) = false, (decide (p > 1)) = false, (decide (n < 0)) = false, (decide (n > 1099511627776)) = false, (h != -1) = false, (e == 1099511627776) = false] (by kernel_rfl) (Alls.cons hc0 (Alls.cons hc1 (Alls.cons hc2 (Alls.cons hc3 (Alls.cons hc4 (Alls.cons hc5 (Alls.cons hc6 Alls.nil))))))) rfl rfl w).mono fun e' w' hh => ⟨by rw [hh.1]; try simp only [ask39_0, ask39_1, ask39_2, ask39_3, ask39_4, ask39_5, hc0, hc1, hc2, hc3, hc4, hc5, hc6, cond_true, cond_false], hh.2⟩
  | false =>
    exact (evPure_plain (v := .tuple #[.agg #[.int IntKind.i64 (e), .int IntKind.i64 (h), .int IntKind.i64 (u)], .agg #[.int IntKind.i64 (0), .int IntKind.i64 (0)], .int IntKind.i64 (2)]) cs1_ok 1000 [some false, none, none] [(right42_0 e h u) = false] (by kernel_rfl) (Alls.cons hc0 Alls.nil) rfl rfl w).mono fun e' w' hh => ⟨by rw [hh.1]; try simp only [ask39_0, ask39_1, ask39_2, ask39_3, ask39_4, ask39_5, hc0, cond_true, cond_false], hh.2⟩
def F39 : List Value → Option Value
  | [Value.agg ⟨[Value.int IntKind.i64 e, Value.int IntKind.i64 h, Value.int IntKind.i64 u]⟩, Value.int IntKind.i64 p, Value.int IntKind.i64 n] => some (.tuple #[.agg #[.int IntKind.i64 (ask39_0 e h u p n), .int IntKind.i64 (ask39_1 e h u p n), .int IntKind.i64 (ask39_2 e h u p n)], .agg #[.int IntKind.i64 (ask39_3 e h u p n), .int IntKind.i64 (ask39_4 e h u p n)], .int IntKind.i64 (ask39_5 e h u p n)])
  | _ => none
theorem S39 : SpecOk Try.prog 39 (plainSpec F39) := plainSpec_ok fun l v hF => by
  unfold F39 at hF
  split at hF
  · cases hF; exact ⟨rfl, fun w => ask39_ok _ _ _ _ _ w⟩
  · cases hF
def give47_1 (e : Int) (h : Int) (u : Int) (p : Int) (n : Int) : Int :=
  bif right42_0 e h u then
    bif decide (p < 0) then
      (h)
    else
      bif decide (p > 1) then
        (h)
      else
        bif decide (n < 0) then
          (h)
        else
          bif decide (n > 1099511627776) then
            (h)
          else
            bif decide (n < e) then
              (h)
            else
              bif n != e then
                (h)
              else
                bif h != p then
                  (h)
                else
                  (-1)
  else
    (h)
def give47_3 (e : Int) (h : Int) (u : Int) (p : Int) (n : Int) : Int :=
  bif right42_0 e h u then
    bif decide (p < 0) then
      (2)
    else
      bif decide (p > 1) then
        (2)
      else
        bif decide (n < 0) then
          (2)
        else
          bif decide (n > 1099511627776) then
            (2)
          else
            bif decide (n < e) then
              (230)
            else
              bif n != e then
                (231)
              else
                bif h != p then
                  (231)
                else
                  (0)
  else
    (2)
theorem give47_ok (e : Int) (h : Int) (u : Int) (p : Int) (n : Int) (w : World) : Calls Try.prog 47 #[Value.agg #[Value.int IntKind.i64 e, Value.int IntKind.i64 h, Value.int IntKind.i64 u], Value.int IntKind.i64 p, Value.int IntKind.i64 n] w fun e' w' => e' = .returned (.tuple #[.agg #[.int IntKind.i64 (e), .int IntKind.i64 (give47_1 e h u p n), .int IntKind.i64 (u)], .int IntKind.i64 (give47_3 e h u p n)]) ∧ Below w.heap.size w w' := by
  cases hc0 : (right42_0 e h u) with
  | true =>
    cases hc1 : (decide (p < 0)) with
    | true =>
      exact (evPure_plain (v := .tuple #[.agg #[.int IntKind.i64 (e), .int IntKind.i64 (h), .int IntKind.i64 (u)], .int IntKind.i64 (2)]) cs1_ok 1000 [some true, none, some true, none, none, none] [(right42_0 e h u) = true, (decide (p < 0)) = true] (by kernel_rfl) (Alls.cons hc0 (Alls.cons hc1 Alls.nil)) rfl rfl w).mono fun e' w' hh => ⟨by rw [hh.1]; try simp only [give47_1, give47_3, hc0, hc1, cond_true, cond_false], hh.2⟩
    | false =>
      cases hc2 : (decide (p > 1)) with
      | true =>
        exact (evPure_plain (v := .tuple #[.agg #[.int IntKind.i64 (e), .int IntKind.i64 (h), .int IntKind.i64 (u)], .int IntKind.i64 (2)]) cs1_ok 1000 [some true, none, some false, some true, none, none] [(right42_0 e h u) = true, (decide (p < 0)) = false, (decide (p > 1)) = true] (by kernel_rfl) (Alls.cons hc0 (Alls.cons hc1 (Alls.cons hc2 Alls.nil))) rfl rfl w).mono fun e' w' hh => ⟨by rw [hh.1]; try simp only [give47_1, give47_3, hc0, hc1, hc2, cond_true, cond_false], hh.2⟩
      | false =>
        cases hc3 : (decide (n < 0)) with
        | true =>
          exact (evPure_plain (v := .tuple #[.agg #[.int IntKind.i64 (e), .int IntKind.i64 (h), .int IntKind.i64 (u)], .int IntKind.i64 (2)]) cs1_ok 1000 [some true, none, some false, some false, none, none, none, some true, none, none] [(right42_0 e h u) = true, (decide (p < 0)) = false, (decide (p > 1)) = false, (decide (n < 0)) = true] (by kernel_rfl) (Alls.cons hc0 (Alls.cons hc1 (Alls.cons hc2 (Alls.cons hc3 Alls.nil)))) rfl rfl w).mono fun e' w' hh => ⟨by rw [hh.1]; try simp only [give47_1, give47_3, hc0, hc1, hc2, hc3, cond_true, cond_false], hh.2⟩
        | false =>
          cases hc4 : (decide (n > 1099511627776)) with
          | true =>
            exact (evPure_plain (v := .tuple #[.agg #[.int IntKind.i64 (e), .int IntKind.i64 (h), .int IntKind.i64 (u)], .int IntKind.i64 (2)]) cs1_ok 1000 [some true, none, some false, some false, none, none, none, some false, some true, none] [(right42_0 e h u) = true, (decide (p < 0)) = false, (decide (p > 1)) = false, (decide (n < 0)) = false, (decide (n > 1099511627776)) = true] (by kernel_rfl) (Alls.cons hc0 (Alls.cons hc1 (Alls.cons hc2 (Alls.cons hc3 (Alls.cons hc4 Alls.nil))))) rfl rfl w).mono fun e' w' hh => ⟨by rw [hh.1]; try simp only [give47_1, give47_3, hc0, hc1, hc2, hc3, hc4, cond_true, cond_false], hh.2⟩
          | false =>
            cases hc5 : (decide (n < e)) with
            | true =>
              exact (evPure_plain (v := .tuple #[.agg #[.int IntKind.i64 (e), .int IntKind.i64 (h), .int IntKind.i64 (u)], .int IntKind.i64 (230)]) cs1_ok 1000 [some true, none, some false, some false, none, none, none, some false, some false, none, none, some true] [(right42_0 e h u) = true, (decide (p < 0)) = false, (decide (p > 1)) = false, (decide (n < 0)) = false, (decide (n > 1099511627776)) = false, (decide (n < e)) = true] (by kernel_rfl) (Alls.cons hc0 (Alls.cons hc1 (Alls.cons hc2 (Alls.cons hc3 (Alls.cons hc4 (Alls.cons hc5 Alls.nil)))))) rfl rfl w).mono fun e' w' hh => ⟨by rw [hh.1]; try simp only [give47_1, give47_3, hc0, hc1, hc2, hc3, hc4, hc5, cond_true, cond_false], hh.2⟩
            | false =>
              cases hc6 : (n != e) with
              | true =>
                exact (evPure_plain (v := .tuple #[.agg #[.int IntKind.i64 (e), .int IntKind.i64 (h), .int IntKind.i64 (u)], .int IntKind.i64 (231)]) cs1_ok 1000 [some true, none, some false, some false, none, none, none, some false, some false, none, none, some false, some true, none] [(right42_0 e h u) = true, (decide (p < 0)) = false, (decide (p > 1)) = false, (decide (n < 0)) = false, (decide (n > 1099511627776)) = false, (decide (n < e)) = false, (n != e) = true] (by kernel_rfl) (Alls.cons hc0 (Alls.cons hc1 (Alls.cons hc2 (Alls.cons hc3 (Alls.cons hc4 (Alls.cons hc5 (Alls.cons hc6 Alls.nil))))))) rfl rfl w).mono fun e' w' hh => ⟨by rw [hh.1]; try simp only [give47_1, give47_3, hc0, hc1, hc2, hc3, hc4, hc5, hc6, cond_true, cond_false], hh.2⟩
              | false =>
                cases hc7 : (h != p) with
                | true =>
                  exact (evPure_plain (v := .tuple #[.agg #[.int IntKind.i64 (e), .int IntKind.i64 (h), .int IntKind.i64 (u)], .int IntKind.i64 (231)]) cs1_ok 1000 [some true, none, some false, some false, none, none, none, some false, some false, none, none, some false, some false, some true] [(right42_0 e h u) = true, (decide (p < 0)) = false, (decide (p > 1)) = false, (decide (n < 0)) = false, (decide (n > 1099511627776)) = false, (decide (n < e)) = false, (n != e) = false, (h != p) = true] (by kernel_rfl) (Alls.cons hc0 (Alls.cons hc1 (Alls.cons hc2 (Alls.cons hc3 (Alls.cons hc4 (Alls.cons hc5 (Alls.cons hc6 (Alls.cons hc7 Alls.nil)))))))) rfl rfl w).mono fun e' w' hh => ⟨by rw [hh.1]; try simp only [give47_1, give47_3, hc0, hc1, hc2, hc3, hc4, hc5, hc6, hc7, cond_true, cond_false], hh.2⟩
                | false =>
                  exact (evPure_plain (v := .tuple #[.agg #[.int IntKind.i64 (e), .int IntKind.i64 (-1), .int IntKind.i64 (u)], .int IntKind.i64 (0)]) cs1_ok 1000 [some true, none, some false, some false, none, none, none, some false, some false, none, none, some false, some false, some false] [(right42_0 e h u) = true, (decide (p < 0)) = false, (decide (p > 1)) = false, (decide (n < 0)) = false, (decide (n > 1099511627776)) = false, (decide (n < e)) = false, (n != e) = false, (h != p) = false] (by kernel_rfl) (Alls.cons hc0 (Alls.cons hc1 (Alls.cons hc2 (Alls.cons hc3 (Alls.cons hc4 (Alls.cons hc5 (Alls.cons hc6 (Alls.cons hc7 Alls.nil)))))))) rfl rfl w).mono fun e' w' hh => ⟨by rw [hh.1]; try simp only [give47_1, give47_3, hc0, hc1, hc2, hc3, hc4, hc5, hc6, hc7, cond_true, cond_false], hh.2⟩
  | false =>
    exact (evPure_plain (v := .tuple #[.agg #[.int IntKind.i64 (e), .int IntKind.i64 (h), .int IntKind.i64 (u)], .int IntKind.i64 (2)]) cs1_ok 1000 [some false, none, none] [(right42_0 e h u) = false] (by kernel_rfl) (Alls.cons hc0 Alls.nil) rfl rfl w).mono fun e' w' hh => ⟨by rw [hh.1]; try simp only [give47_1, give47_3, hc0, cond_true, cond_false], hh.2⟩
def F47 : List Value → Option Value
  | [Value.agg ⟨[Value.int IntKind.i64 e, Value.int IntKind.i64 h, Value.int IntKind.i64 u]⟩, Value.int IntKind.i64 p, Value.int IntKind.i64 n] => some (.tuple #[.agg #[.int IntKind.i64 (e), .int IntKind.i64 (give47_1 e h u p n), .int IntKind.i64 (u)], .int IntKind.i64 (give47_3 e h u p n)])
  | _ => none
theorem S47 : SpecOk Try.prog 47 (plainSpec F47) := plainSpec_ok fun l v hF => by
  unfold F47 at hF
  split at hF
  · cases hF; exact ⟨rfl, fun w => give47_ok _ _ _ _ _ w⟩
  · cases hF
def give48_1 (e : Int) (h : Int) (u : Int) (p : Int) (n : Int) : Int :=
  bif right43_0 e h u then
    bif p == 0 then
      bif decide (n ≥ 0) then
        bif decide (n ≤ 1099511627776) then
          bif decide (n < e) then
            (h)
          else
            bif decide (n > e) then
              (h)
            else
              bif h != p then
                (h)
              else
                (-1)
        else
          (h)
      else
        (h)
    else
      bif p == 1 then
        bif decide (n ≥ 0) then
          bif decide (n ≤ 1099511627776) then
            bif decide (n < e) then
              (h)
            else
              bif decide (n > e) then
                (h)
              else
                bif h != p then
                  (h)
                else
                  (-1)
          else
            (h)
        else
          (h)
      else
        (h)
  else
    (h)
def give48_3 (e : Int) (h : Int) (u : Int) (p : Int) (n : Int) : Int :=
  bif right43_0 e h u then
    bif p == 0 then
      bif decide (n ≥ 0) then
        bif decide (n ≤ 1099511627776) then
          bif decide (n < e) then
            (230)
          else
            bif decide (n > e) then
              (231)
            else
              bif h != p then
                (231)
              else
                (0)
        else
          (2)
      else
        (2)
    else
      bif p == 1 then
        bif decide (n ≥ 0) then
          bif decide (n ≤ 1099511627776) then
            bif decide (n < e) then
              (230)
            else
              bif decide (n > e) then
                (231)
              else
                bif h != p then
                  (231)
                else
                  (0)
          else
            (2)
        else
          (2)
      else
        (2)
  else
    (2)
theorem give48_ok (e : Int) (h : Int) (u : Int) (p : Int) (n : Int) (w : World) : Calls Try.prog 48 #[Value.agg #[Value.int IntKind.i64 e, Value.int IntKind.i64 h, Value.int IntKind.i64 u], Value.int IntKind.i64 p, Value.int IntKind.i64 n] w fun e' w' => e' = .returned (.tuple #[.agg #[.int IntKind.i64 (e), .int IntKind.i64 (give48_1 e h u p n), .int IntKind.i64 (u)], .int IntKind.i64 (give48_3 e h u p n)]) ∧ Below w.heap.size w w' := by
  cases hc0 : (right43_0 e h u) with
  | true =>
    cases hc1 : (p == 0) with
    | true =>
      cases hc2 : (decide (n ≥ 0)) with
      | true =>
        cases hc3 : (decide (n ≤ 1099511627776)) with
        | true =>
          cases hc4 : (decide (n < e)) with
          | true =>
            exact (evPure_plain (v := .tuple #[.agg #[.int IntKind.i64 (e), .int IntKind.i64 (h), .int IntKind.i64 (u)], .int IntKind.i64 (230)]) cs1_ok 1000 [some true, some true, none, some true, some true, none, none, some true] [(right43_0 e h u) = true, (p == 0) = true, (decide (n ≥ 0)) = true, (decide (n ≤ 1099511627776)) = true, (decide (n < e)) = true] (by kernel_rfl) (Alls.cons hc0 (Alls.cons hc1 (Alls.cons hc2 (Alls.cons hc3 (Alls.cons hc4 Alls.nil))))) rfl rfl w).mono fun e' w' hh => ⟨by rw [hh.1]; try simp only [give48_1, give48_3, hc0, hc1, hc2, hc3, hc4, cond_true, cond_false], hh.2⟩
          | false =>
            cases hc5 : (decide (n > e)) with
            | true =>
              exact (evPure_plain (v := .tuple #[.agg #[.int IntKind.i64 (e), .int IntKind.i64 (h), .int IntKind.i64 (u)], .int IntKind.i64 (231)]) cs1_ok 1000 [some true, some true, none, some true, some true, none, none, some false, some true, none] [(right43_0 e h u) = true, (p == 0) = true, (decide (n ≥ 0)) = true, (decide (n ≤ 1099511627776)) = true, (decide (n < e)) = false, (decide (n > e)) = true] (by kernel_rfl) (Alls.cons hc0 (Alls.cons hc1 (Alls.cons hc2 (Alls.cons hc3 (Alls.cons hc4 (Alls.cons hc5 Alls.nil)))))) rfl rfl w).mono fun e' w' hh => ⟨by rw [hh.1]; try simp only [give48_1, give48_3, hc0, hc1, hc2, hc3, hc4, hc5, cond_true, cond_false], hh.2⟩
            | false =>
              cases hc6 : (h != p) with
              | true =>
                exact (evPure_plain (v := .tuple #[.agg #[.int IntKind.i64 (e), .int IntKind.i64 (h), .int IntKind.i64 (u)], .int IntKind.i64 (231)]) cs1_ok 1000 [some true, some true, none, some true, some true, none, none, some false, some false, some true] [(right43_0 e h u) = true, (p == 0) = true, (decide (n ≥ 0)) = true, (decide (n ≤ 1099511627776)) = true, (decide (n < e)) = false, (decide (n > e)) = false, (h != p) = true] (by kernel_rfl) (Alls.cons hc0 (Alls.cons hc1 (Alls.cons hc2 (Alls.cons hc3 (Alls.cons hc4 (Alls.cons hc5 (Alls.cons hc6 Alls.nil))))))) rfl rfl w).mono fun e' w' hh => ⟨by rw [hh.1]; try simp only [give48_1, give48_3, hc0, hc1, hc2, hc3, hc4, hc5, hc6, cond_true, cond_false], hh.2⟩
              | false =>
                exact (evPure_plain (v := .tuple #[.agg #[.int IntKind.i64 (e), .int IntKind.i64 (-1), .int IntKind.i64 (u)], .int IntKind.i64 (0)]) cs1_ok 1000 [some true, some true, none, some true, some true, none, none, some false, some false, some false] [(right43_0 e h u) = true, (p == 0) = true, (decide (n ≥ 0)) = true, (decide (n ≤ 1099511627776)) = true, (decide (n < e)) = false, (decide (n > e)) = false, (h != p) = false] (by kernel_rfl) (Alls.cons hc0 (Alls.cons hc1 (Alls.cons hc2 (Alls.cons hc3 (Alls.cons hc4 (Alls.cons hc5 (Alls.cons hc6 Alls.nil))))))) rfl rfl w).mono fun e' w' hh => ⟨by rw [hh.1]; try simp only [give48_1, give48_3, hc0, hc1, hc2, hc3, hc4, hc5, hc6, cond_true, cond_false], hh.2⟩
        | false =>
          exact (evPure_plain (v := .tuple #[.agg #[.int IntKind.i64 (e), .int IntKind.i64 (h), .int IntKind.i64 (u)], .int IntKind.i64 (2)]) cs1_ok 1000 [some true, some true, none, some true, some false, none] [(right43_0 e h u) = true, (p == 0) = true, (decide (n ≥ 0)) = true, (decide (n ≤ 1099511627776)) = false] (by kernel_rfl) (Alls.cons hc0 (Alls.cons hc1 (Alls.cons hc2 (Alls.cons hc3 Alls.nil)))) rfl rfl w).mono fun e' w' hh => ⟨by rw [hh.1]; try simp only [give48_1, give48_3, hc0, hc1, hc2, hc3, cond_true, cond_false], hh.2⟩
      | false =>
        exact (evPure_plain (v := .tuple #[.agg #[.int IntKind.i64 (e), .int IntKind.i64 (h), .int IntKind.i64 (u)], .int IntKind.i64 (2)]) cs1_ok 1000 [some true, some true, none, some false, none, none] [(right43_0 e h u) = true, (p == 0) = true, (decide (n ≥ 0)) = false] (by kernel_rfl) (Alls.cons hc0 (Alls.cons hc1 (Alls.cons hc2 Alls.nil))) rfl rfl w).mono fun e' w' hh => ⟨by rw [hh.1]; try simp only [give48_1, give48_3, hc0, hc1, hc2, cond_true, cond_false], hh.2⟩
    | false =>
      cases hc2 : (p == 1) with
      | true =>
        cases hc3 : (decide (n ≥ 0)) with
        | true =>
          cases hc4 : (decide (n ≤ 1099511627776)) with
          | true =>
            cases hc5 : (decide (n < e)) with
            | true =>
              exact (evPure_plain (v := .tuple #[.agg #[.int IntKind.i64 (e), .int IntKind.i64 (h), .int IntKind.i64 (u)], .int IntKind.i64 (230)]) cs1_ok 1000 [some true, some false, some true, some true, some true, none, none, some true] [(right43_0 e h u) = true, (p == 0) = false, (p == 1) = true, (decide (n ≥ 0)) = true, (decide (n ≤ 1099511627776)) = true, (decide (n < e)) = true] (by kernel_rfl) (Alls.cons hc0 (Alls.cons hc1 (Alls.cons hc2 (Alls.cons hc3 (Alls.cons hc4 (Alls.cons hc5 Alls.nil)))))) rfl rfl w).mono fun e' w' hh => ⟨by rw [hh.1]; try simp only [give48_1, give48_3, hc0, hc1, hc2, hc3, hc4, hc5, cond_true, cond_false], hh.2⟩
            | false =>
              cases hc6 : (decide (n > e)) with
              | true =>
                exact (evPure_plain (v := .tuple #[.agg #[.int IntKind.i64 (e), .int IntKind.i64 (h), .int IntKind.i64 (u)], .int IntKind.i64 (231)]) cs1_ok 1000 [some true, some false, some true, some true, some true, none, none, some false, some true, none] [(right43_0 e h u) = true, (p == 0) = false, (p == 1) = true, (decide (n ≥ 0)) = true, (decide (n ≤ 1099511627776)) = true, (decide (n < e)) = false, (decide (n > e)) = true] (by kernel_rfl) (Alls.cons hc0 (Alls.cons hc1 (Alls.cons hc2 (Alls.cons hc3 (Alls.cons hc4 (Alls.cons hc5 (Alls.cons hc6 Alls.nil))))))) rfl rfl w).mono fun e' w' hh => ⟨by rw [hh.1]; try simp only [give48_1, give48_3, hc0, hc1, hc2, hc3, hc4, hc5, hc6, cond_true, cond_false], hh.2⟩
              | false =>
                cases hc7 : (h != p) with
                | true =>
                  exact (evPure_plain (v := .tuple #[.agg #[.int IntKind.i64 (e), .int IntKind.i64 (h), .int IntKind.i64 (u)], .int IntKind.i64 (231)]) cs1_ok 1000 [some true, some false, some true, some true, some true, none, none, some false, some false, some true] [(right43_0 e h u) = true, (p == 0) = false, (p == 1) = true, (decide (n ≥ 0)) = true, (decide (n ≤ 1099511627776)) = true, (decide (n < e)) = false, (decide (n > e)) = false, (h != p) = true] (by kernel_rfl) (Alls.cons hc0 (Alls.cons hc1 (Alls.cons hc2 (Alls.cons hc3 (Alls.cons hc4 (Alls.cons hc5 (Alls.cons hc6 (Alls.cons hc7 Alls.nil)))))))) rfl rfl w).mono fun e' w' hh => ⟨by rw [hh.1]; try simp only [give48_1, give48_3, hc0, hc1, hc2, hc3, hc4, hc5, hc6, hc7, cond_true, cond_false], hh.2⟩
                | false =>
                  exact (evPure_plain (v := .tuple #[.agg #[.int IntKind.i64 (e), .int IntKind.i64 (-1), .int IntKind.i64 (u)], .int IntKind.i64 (0)]) cs1_ok 1000 [some true, some false, some true, some true, some true, none, none, some false, some false, some false] [(right43_0 e h u) = true, (p == 0) = false, (p == 1) = true, (decide (n ≥ 0)) = true, (decide (n ≤ 1099511627776)) = true, (decide (n < e)) = false, (decide (n > e)) = false, (h != p) = false] (by kernel_rfl) (Alls.cons hc0 (Alls.cons hc1 (Alls.cons hc2 (Alls.cons hc3 (Alls.cons hc4 (Alls.cons hc5 (Alls.cons hc6 (Alls.cons hc7 Alls.nil)))))))) rfl rfl w).mono fun e' w' hh => ⟨by rw [hh.1]; try simp only [give48_1, give48_3, hc0, hc1, hc2, hc3, hc4, hc5, hc6, hc7, cond_true, cond_false], hh.2⟩
          | false =>
            exact (evPure_plain (v := .tuple #[.agg #[.int IntKind.i64 (e), .int IntKind.i64 (h), .int IntKind.i64 (u)], .int IntKind.i64 (2)]) cs1_ok 1000 [some true, some false, some true, some true, some false, none] [(right43_0 e h u) = true, (p == 0) = false, (p == 1) = true, (decide (n ≥ 0)) = true, (decide (n ≤ 1099511627776)) = false] (by kernel_rfl) (Alls.cons hc0 (Alls.cons hc1 (Alls.cons hc2 (Alls.cons hc3 (Alls.cons hc4 Alls.nil))))) rfl rfl w).mono fun e' w' hh => ⟨by rw [hh.1]; try simp only [give48_1, give48_3, hc0, hc1, hc2, hc3, hc4, cond_true, cond_false], hh.2⟩
        | false =>
          exact (evPure_plain (v := .tuple #[.agg #[.int IntKind.i64 (e), .int IntKind.i64 (h), .int IntKind.i64 (u)], .int IntKind.i64 (2)]) cs1_ok 1000 [some true, some false, some true, some false, none, none] [(right43_0 e h u) = true, (p == 0) = false, (p == 1) = true, (decide (n ≥ 0)) = false] (by kernel_rfl) (Alls.cons hc0 (Alls.cons hc1 (Alls.cons hc2 (Alls.cons hc3 Alls.nil)))) rfl rfl w).mono fun e' w' hh => ⟨by rw [hh.1]; try simp only [give48_1, give48_3, hc0, hc1, hc2, hc3, cond_true, cond_false], hh.2⟩
      | false =>
        exact (evPure_plain (v := .tuple #[.agg #[.int IntKind.i64 (e), .int IntKind.i64 (h), .int IntKind.i64 (u)], .int IntKind.i64 (2)]) cs1_ok 1000 [some true, some false, some false, none, none] [(right43_0 e h u) = true, (p == 0) = false, (p == 1) = false] (by kernel_rfl) (Alls.cons hc0 (Alls.cons hc1 (Alls.cons hc2 Alls.nil))) rfl rfl w).mono fun e' w' hh => ⟨by rw [hh.1]; try simp only [give48_1, give48_3, hc0, hc1, hc2, cond_true, cond_false], hh.2⟩
  | false =>
    exact (evPure_plain (v := .tuple #[.agg #[.int IntKind.i64 (e), .int IntKind.i64 (h), .int IntKind.i64 (u)], .int IntKind.i64 (2)]) cs1_ok 1000 [some false, none, none, none] [(right43_0 e h u) = false] (by kernel_rfl) (Alls.cons hc0 Alls.nil) rfl rfl w).mono fun e' w' hh => ⟨by rw [hh.1]; try simp only [give48_1, give48_3, hc0, cond_true, cond_false], hh.2⟩
def F48 : List Value → Option Value
  | [Value.agg ⟨[Value.int IntKind.i64 e, Value.int IntKind.i64 h, Value.int IntKind.i64 u]⟩, Value.int IntKind.i64 p, Value.int IntKind.i64 n] => some (.tuple #[.agg #[.int IntKind.i64 (e), .int IntKind.i64 (give48_1 e h u p n), .int IntKind.i64 (u)], .int IntKind.i64 (give48_3 e h u p n)])
  | _ => none
theorem S48 : SpecOk Try.prog 48 (plainSpec F48) := plainSpec_ok fun l v hF => by
  unfold F48 at hF
  split at hF
  · cases hF; exact ⟨rfl, fun w => give48_ok _ _ _ _ _ w⟩
  · cases hF
end Go.Proofs.Ytchedebomjmehaa.Sx
