import Derived.Test.YtchedebomjmehaaA2
namespace Go.Proofs.Ytchedebomjmehaa.Sx
open Go Go.RowKit
set_option linter.unusedVariables false
set_option maxRecDepth 100000
def ask41_0 (e : Int) (h : Int) (u : Int) (p : Int) (n : Int) : Int :=
  bif right43_0 e h u then
    bif p == 0 then
      bif decide (n ≥ 0) then
        bif decide (n ≤ 1099511627776) then
          bif decide (h ≥ 0) then
            bif h != p then
              bif decide (n ≤ u) then
                (e)
              else
                bif e == 1099511627776 then
                  (e)
                else
                  (IntKind.i64.wrap (e + 1))
            else
              bif e == 1099511627776 then
                (e)
              else
                (IntKind.i64.wrap (e + 1))
          else
            bif e == 1099511627776 then
              (e)
            else
              (IntKind.i64.wrap (e + 1))
        else
          (e)
      else
        (e)
    else
      bif p == 1 then
        bif decide (n ≥ 0) then
          bif decide (n ≤ 1099511627776) then
            bif decide (h ≥ 0) then
              bif h != p then
                bif decide (n ≤ u) then
                  (e)
                else
                  bif e == 1099511627776 then
                    (e)
                  else
                    (IntKind.i64.wrap (e + 1))
              else
                bif e == 1099511627776 then
                  (e)
                else
                  (IntKind.i64.wrap (e + 1))
            else
              bif e == 1099511627776 then
                (e)
              else
                (IntKind.i64.wrap (e + 1))
          else
            (e)
        else
          (e)
      else
        (e)
  else
    (e)
def ask41_1 (e : Int) (h : Int) (u : Int) (p : Int) (n : Int) : Int :=
  bif right43_0 e h u then
    bif p == 0 then
      bif decide (n ≥ 0) then
        bif decide (n ≤ 1099511627776) then
          bif decide (h ≥ 0) then
            bif h != p then
              bif decide (n ≤ u) then
                (h)
              else
                bif e == 1099511627776 then
                  (h)
                else
                  (p)
            else
              bif e == 1099511627776 then
                (h)
              else
                (p)
          else
            bif e == 1099511627776 then
              (h)
            else
              (p)
        else
          (h)
      else
        (h)
    else
      bif p == 1 then
        bif decide (n ≥ 0) then
          bif decide (n ≤ 1099511627776) then
            bif decide (h ≥ 0) then
              bif h != p then
                bif decide (n ≤ u) then
                  (h)
                else
                  bif e == 1099511627776 then
                    (h)
                  else
                    (p)
              else
                bif e == 1099511627776 then
                  (h)
                else
                  (p)
            else
              bif e == 1099511627776 then
                (h)
              else
                (p)
          else
            (h)
        else
          (h)
      else
        (h)
  else
    (h)
def ask41_2 (e : Int) (h : Int) (u : Int) (p : Int) (n : Int) : Int :=
  bif right43_0 e h u then
    bif p == 0 then
      bif decide (n ≥ 0) then
        bif decide (n ≤ 1099511627776) then
          bif decide (h ≥ 0) then
            bif h != p then
              bif decide (n ≤ u) then
                (u)
              else
                bif e == 1099511627776 then
                  (u)
                else
                  (IntKind.i64.wrap (n + 8))
            else
              bif e == 1099511627776 then
                (u)
              else
                (IntKind.i64.wrap (n + 8))
          else
            bif e == 1099511627776 then
              (u)
            else
              (IntKind.i64.wrap (n + 8))
        else
          (u)
      else
        (u)
    else
      bif p == 1 then
        bif decide (n ≥ 0) then
          bif decide (n ≤ 1099511627776) then
            bif decide (h ≥ 0) then
              bif h != p then
                bif decide (n ≤ u) then
                  (u)
                else
                  bif e == 1099511627776 then
                    (u)
                  else
                    (IntKind.i64.wrap (n + 8))
              else
                bif e == 1099511627776 then
                  (u)
                else
                  (IntKind.i64.wrap (n + 8))
            else
              bif e == 1099511627776 then
                (u)
              else
                (IntKind.i64.wrap (n + 8))
          else
            (u)
        else
          (u)
      else
        (u)
  else
    (u)
def ask41_3 (e : Int) (h : Int) (u : Int) (p : Int) (n : Int) : Int :=
  bif right43_0 e h u then
    bif p == 0 then
      bif decide (n ≥ 0) then
        bif decide (n ≤ 1099511627776) then
          bif decide (h ≥ 0) then
            bif h != p then
              bif decide (n ≤ u) then
                (0)
              else
                bif e == 1099511627776 then
                  (0)
                else
                  (IntKind.i64.wrap (e + 1))
            else
              bif e == 1099511627776 then
                (0)
              else
                (IntKind.i64.wrap (e + 1))
          else
            bif e == 1099511627776 then
              (0)
            else
              (IntKind.i64.wrap (e + 1))
        else
          (0)
      else
        (0)
    else
      bif p == 1 then
        bif decide (n ≥ 0) then
          bif decide (n ≤ 1099511627776) then
            bif decide (h ≥ 0) then
              bif h != p then
                bif decide (n ≤ u) then
                  (0)
                else
                  bif e == 1099511627776 then
                    (0)
                  else
                    (IntKind.i64.wrap (e + 1))
              else
                bif e == 1099511627776 then
                  (0)
                else
                  (IntKind.i64.wrap (e + 1))
            else
              bif e == 1099511627776 then
                (0)
              else
                (IntKind.i64.wrap (e + 1))
          else
            (0)
        else
          (0)
      else
        (0)
  else
    (0)
def ask41_4 (e : Int) (h : Int) (u : Int) (p : Int) (n : Int) : Int :=
  bif right43_0 e h u then
    bif p == 0 then
      bif decide (n ≥ 0) then
        bif decide (n ≤ 1099511627776) then
          bif decide (h ≥ 0) then
            bif h != p then
              bif decide (n ≤ u) then
                (0)
              else
                bif e == 1099511627776 then
                  (0)
                else
                  (IntKind.i64.wrap (n + 8))
            else
              bif e == 1099511627776 then
                (0)
              else
                (IntKind.i64.wrap (n + 8))
          else
            bif e == 1099511627776 then
              (0)
            else
              (IntKind.i64.wrap (n + 8))
        else
          (0)
      else
        (0)
    else
      bif p == 1 then
        bif decide (n ≥ 0) then
          bif decide (n ≤ 1099511627776) then
            bif decide (h ≥ 0) then
              bif h != p then
                bif decide (n ≤ u) then
                  (0)
                else
                  bif e == 1099511627776 then
                    (0)
                  else
                    (IntKind.i64.wrap (n + 8))
              else
                bif e == 1099511627776 then
                  (0)
                else
                  (IntKind.i64.wrap (n + 8))
            else
              bif e == 1099511627776 then
                (0)
              else
                (IntKind.i64.wrap (n + 8))
          else
            (0)
        else
          (0)
      else
        (0)
  else
    (0)
def ask41_5 (e : Int) (h : Int) (u : Int) (p : Int) (n : Int) : Int :=
  bif right43_0 e h u then
    bif p == 0 then
      bif decide (n ≥ 0) then
        bif decide (n ≤ 1099511627776) then
          bif decide (h ≥ 0) then
            bif h != p then
              bif decide (n ≤ u) then
                (231)
              else
                bif e == 1099511627776 then
                  (3)
                else
                  (0)
            else
              bif e == 1099511627776 then
                (3)
              else
                (0)
          else
            bif e == 1099511627776 then
              (3)
            else
              (0)
        else
          (2)
      else
        (2)
    else
      bif p == 1 then
        bif decide (n ≥ 0) then
          bif decide (n ≤ 1099511627776) then
            bif decide (h ≥ 0) then
              bif h != p then
                bif decide (n ≤ u) then
                  (231)
                else
                  bif e == 1099511627776 then
                    (3)
                  else
                    (0)
              else
                bif e == 1099511627776 then
                  (3)
                else
                  (0)
            else
              bif e == 1099511627776 then
                (3)
              else
                (0)
          else
            (2)
        else
          (2)
      else
        (2)
  else
    (2)
theorem ask41_ok (e : Int) (h : Int) (u : Int) (p : Int) (n : Int) (w : World) : Calls Try.prog 41 #[Value.agg #[Value.int IntKind.i64 e, Value.int IntKind.i64 h, Value.int IntKind.i64 u], Value.int IntKind.i64 p, Value.int IntKind.i64 n] w fun e' w' => e' = .returned (.tuple #[.agg #[.int IntKind.i64 (ask41_0 e h u p n), .int IntKind.i64 (ask41_1 e h u p n), .int IntKind.i64 (ask41_2 e h u p n)], .int IntKind.i64 (ask41_3 e h u p n), .int IntKind.i64 (ask41_4 e h u p n), .int IntKind.i64 (ask41_5 e h u p n)]) ∧ Below w.heap.size w w' := by
  cases hc0 : (right43_0 e h u) with
  | true =>
    cases hc1 : (p == 0) with
    | true =>
      cases hc2 : (decide (n ≥ 0)) with
      | true =>
        cases hc3 : (decide (n ≤ 1099511627776)) with
        | true =>
          cases hc4 : (decide (h ≥ 0)) with
          | true =>
            cases hc5 : (h != p) with
            | true =>
              cases hc6 : (decide (n ≤ u)) with
              | true =>
                exact (evPure_plain (v := .tuple #[.agg #[.int IntKind.i64 (e), .int IntKind.i64 (h), .int IntKind.i64 (u)], .int IntKind.i64 (0), .int IntKind.i64 (0), .int IntKind.i64 (231)]) cs1_ok 1000 [some true, some true, none, some true, some true, none, none, some true, some true, some true] [(right43_0 e h u) = true, (p == 0) = true, (decide (n ≥ 0)) = true, (decide (n ≤ 1099511627776)) = true, (decide (h ≥ 0)) = true, (h != p) = true, (decide (n ≤ u)) = true] (by kernel_rfl) (Alls.cons hc0 (Alls.cons hc1 (Alls.cons hc2 (Alls.cons hc3 (Alls.cons hc4 (Alls.cons hc5 (Alls.cons hc6 Alls.nil))))))) rfl rfl w).mono fun e' w' hh => ⟨by rw [hh.1]; try simp only [ask41_0, ask41_1, ask41_2, ask41_3, ask41_4, ask41_5, hc0, hc1, hc2, hc3, hc4, hc5, hc6, cond_true, cond_false], hh.2⟩
              | false =>
                cases hc7 : (e == 1099511627776) with
                | true =>
                  exact (evPure_plain (v := .tuple #[.agg #[.int IntKind.i64 (e), .int IntKind.i64 (h), .int IntKind.i64 (u)], .int IntKind.i64 (0), .int IntKind.i64 (0), .int IntKind.i64 (3)]) cs1_ok 1000 [some true, some true, none, some true, some true, none, none, some true, some true, some false, some true] [(right43_0 e h u) = true, (p == 0) = true, (decide (n ≥ 0)) = true, (decide (n ≤ 1099511627776)) = true, (decide (h ≥ 0)) = true, (h != p) = true, (decide (n ≤ u)) = false, (e == 1099511627776) = true] (by kernel_rfl) (Alls.cons hc0 (Alls.cons hc1 (Alls.cons hc2 (Alls.cons hc3 (Alls.cons hc4 (Alls.cons hc5 (Alls.cons hc6 (Alls.cons hc7 Alls.nil)))))))) rfl rfl w).mono fun e' w' hh => ⟨by rw [hh.1]; try simp only [ask41_0, ask41_1, ask41_2, ask41_3, ask41_4, ask41_5, hc0, hc1, hc2, hc3, hc4, hc5, hc6, hc7, cond_true, cond_false], hh.2⟩
                | false =>
                  exact (evPure_plain (v := .tuple #[.agg #[.int IntKind.i64 (IntKind.i64.wrap (e + 1)), .int IntKind.i64 (p), .int IntKind.i64 (IntKind.i64.wrap (n + 8))], .int IntKind.i64 (IntKind.i64.wrap (e + 1)), .int IntKind.i64 (IntKind.i64.wrap (n + 8)), .int IntKind.i64 (0)]) cs1_ok 1000 [some true, some true, none, some true, some true, none, none, some true, some true, some false, some false] [(right43_0 e h u) = true, (p == 0) = true, (decide (n ≥ 0)) = true, (decide (n ≤ 1099511627776)) = true, (decide (h ≥ 0)) = true, (h != p) = true, (decide (n ≤ u)) = false, (e == 1099511627776) = false] (by kernel_rfl) (Alls.cons hc0 (Alls.cons hc1 (Alls.cons hc2 (Alls.cons hc3 (Alls.cons hc4 (Alls.cons hc5 (Alls.cons hc6 (Alls.cons hc7 Alls.nil)))))))) rfl rfl w).mono fun e' w' hh => ⟨by rw [hh.1]; try simp only [ask41_0, ask41_1, ask41_2, ask41_3, ask41_4, ask41_5, hc0, hc1, hc2, hc3, hc4, hc5, hc6, hc7, cond_true, cond_false], hh.2⟩
            | false =>
              cases hc6 : (e == 1099511627776) with
              | true =>
                exact (evPure_plain (v := .tuple #[.agg #[.int IntKind.i64 (e), .int IntKind.i64 (h), .int IntKind.i64 (u)], .int IntKind.i64 (0), .int IntKind.i64 (0), .int IntKind.i64 (3)]) cs1_ok 1000 [some true, some true, none, some true, some true, none, none, some true, some false, none, some true] [(right43_0 e h u) = true, (p == 0) = true, (decide (n ≥ 0)) = true, (decide (n ≤ 1099511627776)) = true, (decide (h ≥ 0)) = true, (h != p) = false, (e == 1099511627776) = true] (by kernel_rfl) (Alls.cons hc0 (Alls.cons hc1 (Alls.cons hc2 (Alls.cons hc3 (Alls.cons hc4 (Alls.cons hc5 (Alls.cons hc6 Alls.nil))))))) rfl rfl w).mono fun e' w' hh => ⟨by rw [hh.1]; try simp only [ask41_0, ask41_1, ask41_2, ask41_3, ask41_4, ask41_5, hc0, hc1, hc2, hc3, hc4, hc5, hc6, cond_true, cond_false], hh.2⟩
              | false =>
                exact (evPure_plain (v := .tuple #[.agg #[.int IntKind.i64 (IntKind.i64.wrap (e + 1)), .int IntKind.i64 (p), .int IntKind.i64 (IntKind.i64.wrap (n + 8))], .int IntKind.i64 (IntKind.i64.wrap (e + 1)), .int IntKind.i64 (IntKind.i64.wrap (n + 8)), .int IntKind.i64 (0)]) cs1_ok 1000 [some true, some true, none, some true, some true, none, none, some true, some false, none, some false] [(right43_0 e h u) = true, (p == 0) = true, (decide (n ≥ 0)) = true, (decide (n ≤ 1099511627776)) = true, (decide (h ≥ 0)) = true, (h != p) = false, (e == 1099511627776) = false] (by kernel_rfl) (Alls.cons hc0 (Alls.cons hc1 (Alls.cons hc2 (Alls.cons hc3 (Alls.cons hc4 (Alls.cons hc5 (Alls.cons hc6 Alls.nil))))))) rfl rfl w).mono fun e' w' hh => ⟨by rw [hh.1]; try simp only [ask41_0, ask41_1, ask41_2, ask41_3, ask41_4, ask41_5, hc0, hc1, hc2, hc3, hc4, hc5, hc6, cond_true, cond_false], hh.2⟩
          | false =>
            cases hc5 : (e == 1099511627776) with
            | true =>
              exact (evPure_plain (v := .tuple #[.agg #[.int IntKind.i64 (e), .int IntKind.i64 (h), .int IntKind.i64 (u)], .int IntKind.i64 (0), .int IntKind.i64 (0), .int IntKind.i64 (3)]) cs1_ok 1000 [some true, some true, none, some true, some true, none, none, some false, none, none, some true] [(right43_0 e h u) = true, (p == 0) = true, (decide (n ≥ 0)) = true, (decide (n ≤ 1099511627776)) = true, (decide (h ≥ 0)) = false, (e == 1099511627776) = true] (by kernel_rfl) (Alls.cons hc0 (Alls.cons hc1 (Alls.cons hc2 (Alls.cons hc3 (Alls.cons hc4 (Alls.cons hc5 Alls.nil)))))) rfl rfl w).mono fun e' w' hh => ⟨by rw [hh.1]; try simp only [ask41_0, ask41_1, ask41_2, ask41_3, ask41_4, ask41_5, hc0, hc1, hc2, hc3, hc4, hc5, cond_true, cond_false], hh.2⟩
            | false =>
              exact (evPure_plain (v := .tuple #[.agg #[.int IntKind.i64 (IntKind.i64.wrap (e + 1)), .int IntKind.i64 (p), .int IntKind.i64 (IntKind.i64.wrap (n + 8))], .int IntKind.i64 (IntKind.i64.wrap (e + 1)), .int IntKind.i64 (IntKind.i64.wrap (n + 8)), .int IntKind.i64 (0)]) cs1_ok 1000 [some true, some true, none, some true, some true, none, none, some false, none, none, some false] [(right43_0 e h u) = true, (p == 0) = true, (decide (n ≥ 0)) = true, (decide (n ≤ 1099511627776)) = true, (decide (h ≥ 0)) = false, (e == 1099511627776) = false] (by kernel_rfl) (Alls.cons hc0 (Alls.cons hc1 (Alls.cons hc2 (Alls.cons hc3 (Alls.cons hc4 (Alls.cons hc5 Alls.nil)))))) rfl rfl w).mono fun e' w' hh => ⟨by rw [hh.1]; try simp only [ask41_0, ask41_1, ask41_2, ask41_3, ask41_4, ask41_5, hc0, hc1, hc2, hc3, hc4, hc5, cond_true, cond_false], hh.2⟩
        | false =>
          exact (evPure_plain (v := .tuple #[.agg #[.int IntKind.i64 (e), .int IntKind.i64 (h), .int IntKind.i64 (u)], .int IntKind.i64 (0), .int IntKind.i64 (0), .int IntKind.i64 (2)]) cs1_ok 1000 [some true, some true, none, some true, some false, none] [(right43_0 e h u) = true, (p == 0) = true, (decide (n ≥ 0)) = true, (decide (n ≤ 1099511627776)) = false] (by kernel_rfl) (Alls.cons hc0 (Alls.cons hc1 (Alls.cons hc2 (Alls.cons hc3 Alls.nil)))) rfl rfl w).mono fun e' w' hh => ⟨by rw [hh.1]; try simp only [ask41_0, ask41_1, ask41_2, ask41_3, ask41_4, ask41_5, hc0, hc1, hc2, hc3, cond_true, cond_false], hh.2⟩
      | false =>
        exact (evPure_plain (v := .tuple #[.agg #[.int IntKind.i64 (e), .int IntKind.i64 (h), .int IntKind.i64 (u)], .int IntKind.i64 (0), .int IntKind.i64 (0), .int IntKind.i64 (2)]) cs1_ok 1000 [some true, some true, none, some false, none, none] [(right43_0 e h u) = true, (p == 0) = true, (decide (n ≥ 0)) = false] (by kernel_rfl) (Alls.cons hc0 (Alls.cons hc1 (Alls.cons hc2 Alls.nil))) rfl rfl w).mono fun e' w' hh => ⟨by rw [hh.1]; try simp only [ask41_0, ask41_1, ask41_2, ask41_3, ask41_4, ask41_5, hc0, hc1, hc2, cond_true, cond_false], hh.2⟩
    | false =>
      cases hc2 : (p == 1) with
      | true =>
        cases hc3 : (decide (n ≥ 0)) with
        | true =>
          cases hc4 : (decide (n ≤ 1099511627776)) with
          | true =>
            cases hc5 : (decide (h ≥ 0)) with
            | true =>
              cases hc6 : (h != p) with
              | true =>
                cases hc7 : (decide (n ≤ u)) with
                | true =>
                  exact (evPure_plain (v := .tuple #[.agg #[.int IntKind.i64 (e), .int IntKind.i64 (h), .int IntKind.i64 (u)], .int IntKind.i64 (0), .int IntKind.i64 (0), .int IntKind.i64 (231)]) cs1_ok 1000 [some true, some false, some true, some true, some true, none, none, some true, some true, some true] [(right43_0 e h u) = true, (p == 0) = false, (p == 1) = true, (decide (n ≥ 0)) = true, (decide (n ≤ 1099511627776)) = true, (decide (h ≥ 0)) = true, (h != p) = true, (decide (n ≤ u)) = true] (by kernel_rfl) (Alls.cons hc0 (Alls.cons hc1 (Alls.cons hc2 (Alls.cons hc3 (Alls.cons hc4 (Alls.cons hc5 (Alls.cons hc6 (Alls.cons hc7 Alls.nil)))))))) rfl rfl w).mono fun e' w' hh => ⟨by rw [hh.1]; try simp only [ask41_0, ask41_1, ask41_2, ask41_3, ask41_4, ask41_5, hc0, hc1, hc2, hc3, hc4, hc5, hc6, hc7, cond_true, cond_false], hh.2⟩
                | false =>
                  cases hc8 : (e == 1099511627776) with
                  | true =>
                    exact (evPure_plain (v := .tuple #[.agg #[.int IntKind.i64 (e), .int IntKind.i64 (h), .int IntKind.i64 (u)], .int IntKind.i64 (0), .int IntKind.i64 (0), .int IntKind.i64 (3)]) cs1_ok 1000 [some true, some false, some true, some true, some true, none, none, some true, some true, some false, some true] [(right43_0 e h u) = true, (p == 0) = false, (p == 1) = true, (decide (n ≥ 0)) = true, (decide (n ≤ 1099511627776)) = true, (decide (h ≥ 0)) = true, (h != p) = true, (decide (n ≤ u)) = false, (e == 1099511627776) = true] (by kernel_rfl) (Alls.cons hc0 (Alls.cons hc1 (Alls.cons hc2 (Alls.cons hc3 (Alls.cons hc4 (Alls.cons hc5 (Alls.cons hc6 (Alls.cons hc7 (Alls.cons hc8 Alls.nil))))))))) rfl rfl w).mono fun e' w' hh => ⟨by rw [hh.1]; try simp only [ask41_0, ask41_1, ask41_2, ask41_3, ask41_4, ask41_5, hc0, hc1, hc2, hc3, hc4, hc5, hc6, hc7, hc8, cond_true, cond_false], hh.2⟩
                  | false =>
                    exact (evPure_plain (v := .tuple #[.agg #[.int IntKind.i64 (IntKind.i64.wrap (e + 1)), .int IntKind.i64 (p), .int IntKind.i64 (IntKind.i64.wrap (n + 8))], .int IntKind.i64 (IntKind.i64.wrap (e + 1)), .int IntKind.i64 (IntKind.i64.wrap (n + 8)), .int IntKind.i64 (0)]) cs1_ok 1000 [some true, some false, some true, some true, some true, none, none, some true, some true, some false, some false] [(right43_0 e h u) = true, (p == 0) = false, (p == 1) = true, (decide (n ≥ 0)) = true, (decide (n ≤ 1099511627776)) = true, (decide (h ≥ 0)) = true, (h != p) = true, (decide (n ≤ u)) = false, (e == 1099511627776) = false] (by kernel_rfl) (Alls.cons hc0 (Alls.cons hc1 (Alls.cons hc2 (Alls.cons hc3 (Alls.cons hc4 (Alls.cons hc5 (Alls.cons hc6 (Alls.cons hc7 (Alls.cons hc8 Alls.nil))))))))) rfl rfl w).mono fun e' w' hh => ⟨by rw [hh.1]; try simp only [ask41_0, ask41_1, ask41_2, ask41_3, ask41_4, ask41_5, hc0, hc1, hc2, hc3, hc4, hc5, hc6, hc7, hc8, cond_true, cond_false], hh.2⟩
              | false =>
                cases hc7 : (e == 1099511627776) with
                | true =>
                  exact (evPure_plain (v := .tuple #[.agg #[.int IntKind.i64 (e), .int IntKind.i64 (h), .int IntKind.i64 (u)], .int IntKind.i64 (0), .int IntKind.i64 (0), .int IntKind.i64 (3)]) cs1_ok 1000 [some true, some false, some true, some true, some true, none, none, some true, some false, none, some true] [(right43_0 e h u) = true, (p == 0) = false, (p == 1) = true, (decide (n ≥ 0)) = true, (decide (n ≤ 1099511627776)) = true, (decide (h ≥ 0)) = true, (h != p) = false, (e == 1099511627776) = true] (by kernel_rfl) (Alls.cons hc0 (Alls.cons hc1 (Alls.cons hc2 (Alls.cons hc3 (Alls.cons hc4 (Alls.cons hc5 (Alls.cons hc6 (Alls.cons hc7 Alls.nil)))))))) rfl rfl w).mono fun e' w' hh => ⟨by rw [hh.1]; try simp only [ask41_0, ask41_1, ask41_2, ask41_3, ask41_4, ask41_5, hc0, hc1, hc2, hc3, hc4, hc5, hc6, hc7, cond_true, cond_false], hh.2⟩
                | false =>
                  exact (evPure_plain (v := .tuple #[.agg #[.int IntKind.i64 (IntKind.i64.wrap (e + 1)), .int IntKind.i64 (p), .int IntKind.i64 (IntKind.i64.wrap (n + 8))], .int IntKind.i64 (IntKind.i64.wrap (e + 1)), .int IntKind.i64 (IntKind.i64.wrap (n + 8)), .int IntKind.i64 (0)]) cs1_ok 1000 [some true, some false, some true, some true, some true, none, none, some true, some false, none, some false] [(right43_0 e h u) = true, (p == 0) = false, (p == 1) = true, (decide (n ≥ 0)) = true, (decide (n ≤ 1099511627776)) = true, (decide (h ≥ 0)) = true, (h != p) = false, (e == 1099511627776) = false] (by kernel_rfl) (Alls.cons hc0 (Alls.cons hc1 (Alls.cons hc2 (Alls.cons hc3 (Alls.cons hc4 (Alls.cons hc5 (Alls.cons hc6 (Alls.cons hc7 Alls.nil)))))))) rfl rfl w).mono fun e' w' hh => ⟨by rw [hh.1]; try simp only [ask41_0, ask41_1, ask41_2, ask41_3, ask41_4, ask41_5, hc0, hc1, hc2, hc3, hc4, hc5, hc6, hc7, cond_true, cond_false], hh.2⟩
            | false =>
              cases hc6 : (e == 1099511627776) with
              | true =>
                exact (evPure_plain (v := .tuple #[.agg #[.int IntKind.i64 (e), .int IntKind.i64 (h), .int IntKind.i64 (u)], .int IntKind.i64 (0), .int IntKind.i64 (0), .int IntKind.i64 (3)]) cs1_ok 1000 [some true, some false, some true, some true, some true, none, none, some false, none, none, some true] [(right43_0 e h u) = true, (p == 0) = false, (p == 1) = true, (decide (n ≥ 0)) = true, (decide (n ≤ 1099511627776)) = true, (decide (h ≥ 0)) = false, (e == 1099511627776) = true] (by kernel_rfl) (Alls.cons hc0 (Alls.cons hc1 (Alls.cons hc2 (Alls.cons hc3 (Alls.cons hc4 (Alls.cons hc5 (Alls.cons hc6 Alls.nil))))))) rfl rfl w).mono fun e' w' hh => ⟨by rw [hh.1]; try simp only [ask41_0, ask41_1, ask41_2, ask41_3, ask41_4, ask41_5, hc0, hc1, hc2, hc3, hc4, hc5, hc6, cond_true, cond_false], hh.2⟩
              | false =>
                exact (evPure_plain (v := .tuple #[.agg #[.int IntKind.i64 (IntKind.i64.wrap (e + 1)), .int IntKind.i64 (p), .int IntKind.i64 (IntKind.i64.wrap (n + 8))], .int IntKind.i64 (IntKind.i64.wrap (e + 1)), .int IntKind.i64 (IntKind.i64.wrap (n + 8)), .int IntKind.i64 (0)]) cs1_ok 1000 [some true, some false, some true, some true, some true, none, none, some false, none, none, some false] [(right43_0 e h u) = true, (p == 0) = false, (p == 1) = true, (decide (n ≥ 0)) = true, (decide (n ≤ 1099511627776)) = true, (decide (h ≥ 0)) = false, (e == 1099511627776) = false] (by kernel_rfl) (Alls.cons hc0 (Alls.cons hc1 (Alls.cons hc2 (Alls.cons hc3 (Alls.cons hc4 (Alls.cons hc5 (Alls.cons hc6 Alls.nil))))))) rfl rfl w).mono fun e' w' hh => ⟨by rw [hh.1]; try simp only [ask41_0, ask41_1, ask41_2, ask41_3, ask41_4, ask41_5, hc0, hc1, hc2, hc3, hc4, hc5, hc6, cond_true, cond_false], hh.2⟩
          | false =>
            exact (evPure_plain (v := .tuple #[.agg #[.int IntKind.i64 (e), .int IntKind.i64 (h), .int IntKind.i64 (u)], .int IntKind.i64 (0), .int IntKind.i64 (0), .int IntKind.i64 (2)]) cs1_ok 1000 [some true, some false, some true, some true, some false, none] [(right43_0 e h u) = true, (p == 0) = false, (p == 1) = true, (decide (n ≥ 0)) = true, (decide (n ≤ 1099511627776)) = false] (by kernel_rfl) (Alls.cons hc0 (Alls.cons hc1 (Alls.cons hc2 (Alls.cons hc3 (Alls.cons hc4 Alls.nil))))) rfl rfl w).mono fun e' w' hh => ⟨by rw [hh.1]; try simp only [ask41_0, ask41_1, ask41_2, ask41_3, ask41_4, ask41_5, hc0, hc1, hc2, hc3, hc4, cond_true, cond_false], hh.2⟩
        | false =>
          exact (evPure_plain (v := .tuple #[.agg #[.int IntKind.i64 (e), .int IntKind.i64 (h), .int IntKind.i64 (u)], .int IntKind.i64 (0), .int IntKind.i64 (0), .int IntKind.i64 (2)]) cs1_ok 1000 [some true, some false, some true, some false, none, none] [(right43_0 e h u) = true, (p == 0) = false, (p == 1) = true, (decide (n ≥ 0)) = false] (by kernel_rfl) (Alls.cons hc0 (Alls.cons hc1 (Alls.cons hc2 (Alls.cons hc3 Alls.nil)))) rfl rfl w).mono fun e' w' hh => ⟨by rw [hh.1]; try simp only [ask41_0, ask41_1, ask41_2, ask41_3, ask41_4, ask41_5, hc0, hc1, hc2, hc3, cond_true, cond_false], hh.2⟩
      | false =>
        exact (evPure_plain (v := .tuple #[.agg #[.int IntKind.i64 (e), .int IntKind.i64 (h), .int IntKind.i64 (u)], .int IntKind.i64 (0), .int IntKind.i64 (0), .int IntKind.i64 (2)]) cs1_ok 1000 [some true, some false, some false, none, none] [(right43_0 e h u) = true, (p == 0) = false, (p == 1) = false] (by kernel_rfl) (Alls.cons hc0 (Alls.cons hc1 (Alls.cons hc2 Alls.nil))) rfl rfl w).mono fun e' w' hh => ⟨by rw [hh.1]; try simp only [ask41_0, ask41_1, ask41_2, ask41_3, ask41_4, ask41_5, hc0, hc1, hc2, cond_true, cond_false], hh.2⟩
  | false =>
    exact (evPure_plain (v := .tuple #[.agg #[.int IntKind.i64 (e), .int IntKind.i64 (h), .int IntKind.i64 (u)], .int IntKind.i64 (0), .int IntKind.i64 (0), .int IntKind.i64 (2)]) cs1_ok 1000 [some false, none, none, none] [(right43_0 e h u) = false] (by kernel_rfl) (Alls.cons hc0 Alls.nil) rfl rfl w).mono fun e' w' hh => ⟨by rw [hh.1]; try simp only [ask41_0, ask41_1, ask41_2, ask41_3, ask41_4, ask41_5, hc0, cond_true, cond_false], hh.2⟩
def F41 : List Value → Option Value
  | [Value.agg ⟨[Value.int IntKind.i64 e, Value.int IntKind.i64 h, Value.int IntKind.i64 u]⟩, Value.int IntKind.i64 p, Value.int IntKind.i64 n] => some (.tuple #[.agg #[.int IntKind.i64 (ask41_0 e h u p n), .int IntKind.i64 (ask41_1 e h u p n), .int IntKind.i64 (ask41_2 e h u p n)], .int IntKind.i64 (ask41_3 e h u p n), .int IntKind.i64 (ask41_4 e h u p n), .int IntKind.i64 (ask41_5 e h u p n)])
  | _ => none
theorem S41 : SpecOk Try.prog 41 (plainSpec F41) := plainSpec_ok fun l v hF => by
  unfold F41 at hF
  split at hF
  · cases hF; exact ⟨rfl, fun w => ask41_ok _ _ _ _ _ w⟩
  · cases hF
def renew45_2 (e : Int) (h : Int) (u : Int) (p : Int) (k : Int) (n : Int) : Int :=
  bif right42_0 e h u then
    bif decide (p < 0) then
      (u)
    else
      bif decide (p > 1) then
        (u)
      else
        bif decide (k < 0) then
          (u)
        else
          bif decide (k > 1099511627776) then
            (u)
          else
            bif decide (n < 0) then
              (u)
            else
              bif decide (n > 1099511627776) then
                (u)
              else
                bif decide (k < e) then
                  (u)
                else
                  bif k != e then
                    (u)
                  else
                    bif h != p then
                      (u)
                    else
                      bif decide (n > u) then
                        (u)
                      else
                        (if IntKind.i64.wrap (n + 8) > u then IntKind.i64.wrap (n + 8) else u)
  else
    (u)
def renew45_3 (e : Int) (h : Int) (u : Int) (p : Int) (k : Int) (n : Int) : Int :=
  bif right42_0 e h u then
    bif decide (p < 0) then
      (0)
    else
      bif decide (p > 1) then
        (0)
      else
        bif decide (k < 0) then
          (0)
        else
          bif decide (k > 1099511627776) then
            (0)
          else
            bif decide (n < 0) then
              (0)
            else
              bif decide (n > 1099511627776) then
                (0)
              else
                bif decide (k < e) then
                  (0)
                else
                  bif k != e then
                    (0)
                  else
                    bif h != p then
                      (0)
                    else
                      bif decide (n > u) then
                        (0)
                      else
                        (e)
  else
    (0)
def renew45_4 (e : Int) (h : Int) (u : Int) (p : Int) (k : Int) (n : Int) : Int :=
  bif right42_0 e h u then
    bif decide (p < 0) then
      (0)
    else
      bif decide (p > 1) then
        (0)
      else
        bif decide (k < 0) then
          (0)
        else
          bif decide (k > 1099511627776) then
            (0)
          else
            bif decide (n < 0) then
              (0)
            else
              bif decide (n > 1099511627776) then
                (0)
              else
                bif decide (k < e) then
                  (0)
                else
                  bif k != e then
                    (0)
                  else
                    bif h != p then
                      (0)
                    else
                      bif decide (n > u) then
                        (0)
                      else
                        (if IntKind.i64.wrap (n + 8) > u then IntKind.i64.wrap (n + 8) else u)
  else
    (0)
def renew45_5 (e : Int) (h : Int) (u : Int) (p : Int) (k : Int) (n : Int) : Int :=
  bif right42_0 e h u then
    bif decide (p < 0) then
      (2)
    else
      bif decide (p > 1) then
        (2)
      else
        bif decide (k < 0) then
          (2)
        else
          bif decide (k > 1099511627776) then
            (2)
          else
            bif decide (n < 0) then
              (2)
            else
              bif decide (n > 1099511627776) then
                (2)
              else
                bif decide (k < e) then
                  (230)
                else
                  bif k != e then
                    (231)
                  else
                    bif h != p then
                      (231)
                    else
                      bif decide (n > u) then
                        (231)
                      else
                        (0)
  else
    (2)
theorem renew45_ok (e : Int) (h : Int) (u : Int) (p : Int) (k : Int) (n : Int) (w : World) : Calls Try.prog 45 #[Value.agg #[Value.int IntKind.i64 e, Value.int IntKind.i64 h, Value.int IntKind.i64 u], Value.int IntKind.i64 p, Value.int IntKind.i64 k, Value.int IntKind.i64 n] w fun e' w' => e' = .returned (.tuple #[.agg #[.int IntKind.i64 (e), .int IntKind.i64 (h), .int IntKind.i64 (renew45_2 e h u p k n)], .agg #[.int IntKind.i64 (renew45_3 e h u p k n), .int IntKind.i64 (renew45_4 e h u p k n)], .int IntKind.i64 (renew45_5 e h u p k n)]) ∧ Below w.heap.size w w' := by
  cases hc0 : (right42_0 e h u) with
  | true =>
    cases hc1 : (decide (p < 0)) with
    | true =>
      exact (evPure_plain (v := .tuple #[.agg #[.int IntKind.i64 (e), .int IntKind.i64 (h), .int IntKind.i64 (u)], .agg #[.int IntKind.i64 (0), .int IntKind.i64 (0)], .int IntKind.i64 (2)]) cs1_ok 1000 [some true, none, some true, none, none, none] [(right42_0 e h u) = true, (decide (p < 0)) = true] (by kernel_rfl) (Alls.cons hc0 (Alls.cons hc1 Alls.nil)) rfl rfl w).mono fun e' w' hh => ⟨by rw [hh.1]; try simp only [renew45_2, renew45_3, renew45_4, renew45_5, hc0, hc1, cond_true, cond_false], hh.2⟩
    | false =>
      cases hc2 : (decide (p > 1)) with
      | true =>
        exact (evPure_plain (v := .tuple #[.agg #[.int IntKind.i64 (e), .int IntKind.i64 (h), .int IntKind.i64 (u)], .agg #[.int IntKind.i64 (0), .int IntKind.i64 (0)], .int IntKind.i64 (2)]) cs1_ok 1000 [some true, none, some false, some true, none, none] [(right42_0 e h u) = true, (decide (p < 0)) = false, (decide (p > 1)) = true] (by kernel_rfl) (Alls.cons hc0 (Alls.cons hc1 (Alls.cons hc2 Alls.nil))) rfl rfl w).mono fun e' w' hh => ⟨by rw [hh.1]; try simp only [renew45_2, renew45_3, renew45_4, renew45_5, hc0, hc1, hc2, cond_true, cond_false], hh.2⟩
      | false =>
        cases hc3 : (decide (k < 0)) with
        | true =>
          exact (evPure_plain (v := .tuple #[.agg #[.int IntKind.i64 (e), .int IntKind.i64 (h), .int IntKind.i64 (u)], .agg #[.int IntKind.i64 (0), .int IntKind.i64 (0)], .int IntKind.i64 (2)]) cs1_ok 1000 [some true, none, some false, some false, none, none, none, some true, none, none] [(right42_0 e h u) = true, (decide (p < 0)) = false, (decide (p > 1)) = false, (decide (k < 0)) = true] (by kernel_rfl) (Alls.cons hc0 (Alls.cons hc1 (Alls.cons hc2 (Alls.cons hc3 Alls.nil)))) rfl rfl w).mono fun e' w' hh => ⟨by rw [hh.1]; try simp only [renew45_2, renew45_3, renew45_4, renew45_5, hc0, hc1, hc2, hc3, cond_true, cond_false], hh.2⟩
        | false =>
          cases hc4 : (decide (k > 1099511627776)) with
          | true =>
            exact (evPure_plain (v := .tuple #[.agg #[.int IntKind.i64 (e), .int IntKind.i64 (h), .int IntKind.i64 (u)], .agg #[.int IntKind.i64 (0), .int IntKind.i64 (0)], .int IntKind.i64 (2)]) cs1_ok 1000 [some true, none, some false, some false, none, none, none, some false, some true, none] [(right42_0 e h u) = true, (decide (p < 0)) = false, (decide (p > 1)) = false, (decide (k < 0)) = false, (decide (k > 1099511627776)) = true] (by kernel_rfl) (Alls.cons hc0 (Alls.cons hc1 (Alls.cons hc2 (Alls.cons hc3 (Alls.cons hc4 Alls.nil))))) rfl rfl w).mono fun e' w' hh => ⟨by rw [hh.1]; try simp only [renew45_2, renew45_3, renew45_4, renew45_5, hc0, hc1, hc2, hc3, hc4, cond_true, cond_false], hh.2⟩
          | false =>
            cases hc5 : (decide (n < 0)) with
            | true =>
              exact (evPure_plain (v := .tuple #[.agg #[.int IntKind.i64 (e), .int IntKind.i64 (h), .int IntKind.i64 (u)], .agg #[.int IntKind.i64 (0), .int IntKind.i64 (0)], .int IntKind.i64 (2)]) cs1_ok 1000 [some true, none, some false, some false, none, none, none, some false, some false, none, some true, none, none] [(right42_0 e h u) = true, (decide (p < 0)) = false, (decide (p > 1)) = false, (decide (k < 0)) = false, (decide (k > 1099511627776)) = false, (decide (n < 0)) = true] (by kernel_rfl) (Alls.cons hc0 (Alls.cons hc1 (Alls.cons hc2 (Alls.cons hc3 (Alls.cons hc4 (Alls.cons hc5 Alls.nil)))))) rfl rfl w).mono fun e' w' hh => ⟨by rw [hh.1]; try simp only [renew45_2, renew45_3, renew45_4, renew45_5, hc0, hc1, hc2, hc3, hc4, hc5, cond_true, cond_false], hh.2⟩
            | false =>
              cases hc6 : (decide (n > 1099511627776)) with
              | true =>
                exact (evPure_plain (v := .tuple #[.agg #[.int IntKind.i64 (e), .int IntKind.i64 (h), .int IntKind.i64 (u)], .agg #[.int IntKind.i64 (0), .int IntKind.i64 (0)], .int IntKind.i64 (2)]) cs1_ok 1000 [some true, none, some false, some false, none, none, none, some false, some false, none, some false, some true, none] [(right42_0 e h u) = true, (decide (p < 0)) = false, (decide (p > 1)) = false, (decide (k < 0)) = false, (decide (k > 1099511627776)) = false, (decide (n < 0)) = false, (decide (n > 1099511627776)) = true] (by kernel_rfl) (Alls.cons hc0 (Alls.cons hc1 (Alls.cons hc2 (Alls.cons hc3 (Alls.cons hc4 (Alls.cons hc5 (Alls.cons hc6 Alls.nil))))))) rfl rfl w).mono fun e' w' hh => ⟨by rw [hh.1]; try simp only [renew45_2, renew45_3, renew45_4, renew45_5, hc0, hc1, hc2, hc3, hc4, hc5, hc6, cond_true, cond_false], hh.2⟩
              | false =>
                cases hc7 : (decide (k < e)) with
                | true =>
                  exact (evPure_plain (v := .tuple #[.agg #[.int IntKind.i64 (e), .int IntKind.i64 (h), .int IntKind.i64 (u)], .agg #[.int IntKind.i64 (0), .int IntKind.i64 (0)], .int IntKind.i64 (230)]) cs1_ok 1000 [some true, none, some false, some false, none, none, none, some false, some false, none, some false, some false, none, none, some true] [(right42_0 e h u) = true, (decide (p < 0)) = false, (decide (p > 1)) = false, (decide (k < 0)) = false, (decide (k > 1099511627776)) = false, (decide (n < 0)) = false, (decide (n > 1099511627776)) = false, (decide (k < e)) = true] (by kernel_rfl) (Alls.cons hc0 (Alls.cons hc1 (Alls.cons hc2 (Alls.cons hc3 (Alls.cons hc4 (Alls.cons hc5 (Alls.cons hc6 (Alls.cons hc7 Alls.nil)))))))) rfl rfl w).mono fun e' w' hh => ⟨by rw [hh.1]; try simp only [renew45_2, renew45_3, renew45_4, renew45_5, hc0, hc1, hc2, hc3, hc4, hc5, hc6, hc7, cond_true, cond_false], hh.2⟩
                | false =>
                  cases hc8 : (k != e) with
                  | true =>
                    exact (evPure_plain (v := .tuple #[.agg #[.int IntKind.i64 (e), .int IntKind.i64 (h), .int IntKind.i64 (u)], .agg #[.int IntKind.i64 (0), .int IntKind.i64 (0)], .int IntKind.i64 (231)]) cs1_ok 1000 [some true, none, some false, some false, none, none, none, some false, some false, none, some false, some false, none, none, some false, some true, none, none] [(right42_0 e h u) = true, (decide (p < 0)) = false, (decide (p > 1)) = false, (decide (k < 0)) = false, (decide (k > 1099511627776)) = false, (decide (n < 0)) = false, (decide (n > 1099511627776)) = false, (decide (k < e)) = false, (k != e) = true] (by kernel_rfl) (Alls.cons hc0 (Alls.cons hc1 (Alls.cons hc2 (Alls.cons hc3 (Alls.cons hc4 (Alls.cons hc5 (Alls.cons hc6 (Alls.cons hc7 (Alls.cons hc8 Alls.nil))))))))) rfl rfl w).mono fun e' w' hh => ⟨by rw [hh.1]; try simp only [renew45_2, renew45_3, renew45_4, renew45_5, hc0, hc1, hc2, hc3, hc4, hc5, hc6, hc7, hc8, cond_true, cond_false], hh.2⟩
                  | false =>
                    cases hc9 : (h != p) with
                    | true =>
                      exact (evPure_plain (v := .tuple #[.agg #[.int IntKind.i64 (e), .int IntKind.i64 (h), .int IntKind.i64 (u)], .agg #[.int IntKind.i64 (0), .int IntKind.i64 (0)], .int IntKind.i64 (231)]) cs1_ok 1000 [some true, none, some false, some false, none, none, none, some false, some false, none, some false, some false, none, none, some false, some false, some true, none] [(right42_0 e h u) = true, (decide (p < 0)) = false, (decide (p > 1)) = false, (decide (k < 0)) = false, (decide (k > 1099511627776)) = false, (decide (n < 0)) = false, (decide (n > 1099511627776)) = false, (decide (k < e)) = false, (k != e) = false, (h != p) = true] (by kernel_rfl) (Alls.cons hc0 (Alls.cons hc1 (Alls.cons hc2 (Alls.cons hc3 (Alls.cons hc4 (Alls.cons hc5 (Alls.cons hc6 (Alls.cons hc7 (Alls.cons hc8 (Alls.cons hc9 Alls.nil)))))))))) rfl rfl w).mono fun e' w' hh => ⟨by rw [hh.1]; try simp only [renew45_2, renew45_3, renew45_4, renew45_5, hc0, hc1, hc2, hc3, hc4, hc5, hc6, hc7, hc8, hc9, cond_true, cond_false], hh.2⟩
                    | false =>
                      cases hc10 : (decide (n > u)) with
                      | true =>
                        exact (evPure_plain (v := .tuple #[.agg #[.int IntKind.i64 (e), .int IntKind.i64 (h), .int IntKind.i64 (u)], .agg #[.int IntKind.i64 (0), .int IntKind.i64 (0)], .int IntKind.i64 (231)]) cs1_ok 1000 [some true, none, some false, some false, none, none, none, some false, some false, none, some false, some false, none, none, some false, some false, some false, some true] [(right42_0 e h u) = true, (decide (p < 0)) = false, (decide (p > 1)) = false, (decide (k < 0)) = false, (decide (k > 1099511627776)) = false, (decide (n < 0)) = false, (decide (n > 1099511627776)) = false, (decide (k < e)) = false, (k != e) = false, (h != p) = false, (decide (n > u)) = true] (by kernel_rfl) (Alls.cons hc0 (Alls.cons hc1 (Alls.cons hc2 (Alls.cons hc3 (Alls.cons hc4 (Alls.cons hc5 (Alls.cons hc6 (Alls.cons hc7 (Alls.cons hc8 (Alls.cons hc9 (Alls.cons hc10 Alls.nil))))))))))) rfl rfl w).mono fun e' w' hh => ⟨by rw [hh.1]; try simp only [renew45_2, renew45_3, renew45_4, renew45_5, hc0, hc1, hc2, hc3, hc4, hc5, hc6, hc7, hc8, hc9, hc10, cond_true, cond_false], hh.2⟩
                      | false =>
                        exact (evPure_plain (v := .tuple #[.agg #[.int IntKind.i64 (e), .int IntKind.i64 (h), .int IntKind.i64 (if IntKind.i64.wrap (n + 8) > u then IntKind.i64.wrap (n + 8) else u)], .agg #[.int IntKind.i64 (e), .int IntKind.i64 (if IntKind.i64.wrap (n + 8) > u then IntKind.i64.wrap (n + 8) else u)], .int IntKind.i64 (0)]) cs1_ok 1000 [some true, none, some false, some false, none, none, none, some false, some false, none, some false, some false, none, none, some false, some false, some false, some false] [(right42_0 e h u) = true, (decide (p < 0)) = false, (decide (p > 1)) = false, (decide (k < 0)) = false, (decide (k > 1099511627776)) = false, (decide (n < 0)) = false, (decide (n > 1099511627776)) = false, (decide (k < e)) = false, (k != e) = false, (h != p) = false, (decide (n > u)) = false] (by kernel_rfl) (Alls.cons hc0 (Alls.cons hc1 (Alls.cons hc2 (Alls.cons hc3 (Alls.cons hc4 (Alls.cons hc5 (Alls.cons hc6 (Alls.cons hc7 (Alls.cons hc8 (Alls.cons hc9 (Alls.cons hc10 Alls.nil))))))))))) rfl rfl w).mono fun e' w' hh => ⟨by rw [hh.1]; try simp only [renew45_2, renew45_3, renew45_4, renew45_5, hc0, hc1, hc2, hc3, hc4, hc5, hc6, hc7, hc8, hc9, hc10, cond_true, cond_false], hh.2⟩
  | false =>
    exact (evPure_plain (v := .tuple #[.agg #[.int IntKind.i64 (e), .int IntKind.i64 (h), .int IntKind.i64 (u)], .agg #[.int IntKind.i64 (0), .int IntKind.i64 (0)], .int IntKind.i64 (2)]) cs1_ok 1000 [some false, none, none] [(right42_0 e h u) = false] (by kernel_rfl) (Alls.cons hc0 Alls.nil) rfl rfl w).mono fun e' w' hh => ⟨by rw [hh.1]; try simp only [renew45_2, renew45_3, renew45_4, renew45_5, hc0, cond_true, cond_false], hh.2⟩
def F45 : List Value → Option Value
  | [Value.agg ⟨[Value.int IntKind.i64 e, Value.int IntKind.i64 h, Value.int IntKind.i64 u]⟩, Value.int IntKind.i64 p, Value.int IntKind.i64 k, Value.int IntKind.i64 n] => some (.tuple #[.agg #[.int IntKind.i64 (e), .int IntKind.i64 (h), .int IntKind.i64 (renew45_2 e h u p k n)], .agg #[.int IntKind.i64 (renew45_3 e h u p k n), .int IntKind.i64 (renew45_4 e h u p k n)], .int IntKind.i64 (renew45_5 e h u p k n)])
  | _ => none
theorem S45 : SpecOk Try.prog 45 (plainSpec F45) := plainSpec_ok fun l v hF => by
  unfold F45 at hF
  split at hF
  · cases hF; exact ⟨rfl, fun w => renew45_ok _ _ _ _ _ _ w⟩
  · cases hF
def renew46_2 (e : Int) (h : Int) (u : Int) (p : Int) (k : Int) (n : Int) : Int :=
  bif right43_0 e h u then
    bif p == 0 then
      bif decide (k ≥ 0) then
        bif decide (k ≤ 1099511627776) then
          bif decide (n ≥ 0) then
            bif !decide (n ≤ 1099511627776) then
              (u)
            else
              bif decide (k < e) then
                (u)
              else
                bif decide (k > e) then
                  (u)
                else
                  bif h != p then
                    (u)
                  else
                    bif decide (n > u) then
                      (u)
                    else
                      (if IntKind.i64.wrap (n + 8) > u then IntKind.i64.wrap (n + 8) else u)
          else
            (u)
        else
          (u)
      else
        (u)
    else
      bif p == 1 then
        bif decide (k ≥ 0) then
          bif decide (k ≤ 1099511627776) then
            bif decide (n ≥ 0) then
              bif !decide (n ≤ 1099511627776) then
                (u)
              else
                bif decide (k < e) then
                  (u)
                else
                  bif decide (k > e) then
                    (u)
                  else
                    bif h != p then
                      (u)
                    else
                      bif decide (n > u) then
                        (u)
                      else
                        (if IntKind.i64.wrap (n + 8) > u then IntKind.i64.wrap (n + 8) else u)
            else
              (u)
          else
            (u)
        else
          (u)
      else
        (u)
  else
    (u)
def renew46_3 (e : Int) (h : Int) (u : Int) (p : Int) (k : Int) (n : Int) : Int :=
  bif right43_0 e h u then
    bif p == 0 then
      bif decide (k ≥ 0) then
        bif decide (k ≤ 1099511627776) then
          bif decide (n ≥ 0) then
            bif !decide (n ≤ 1099511627776) then
              (0)
            else
              bif decide (k < e) then
                (0)
              else
                bif decide (k > e) then
                  (0)
                else
                  bif h != p then
                    (0)
                  else
                    bif decide (n > u) then
                      (0)
                    else
                      (e)
          else
            (0)
        else
          (0)
      else
        (0)
    else
      bif p == 1 then
        bif decide (k ≥ 0) then
          bif decide (k ≤ 1099511627776) then
            bif decide (n ≥ 0) then
              bif !decide (n ≤ 1099511627776) then
                (0)
              else
                bif decide (k < e) then
                  (0)
                else
                  bif decide (k > e) then
                    (0)
                  else
                    bif h != p then
                      (0)
                    else
                      bif decide (n > u) then
                        (0)
                      else
                        (e)
            else
              (0)
          else
            (0)
        else
          (0)
      else
        (0)
  else
    (0)
def renew46_4 (e : Int) (h : Int) (u : Int) (p : Int) (k : Int) (n : Int) : Int :=
  bif right43_0 e h u then
    bif p == 0 then
      bif decide (k ≥ 0) then
        bif decide (k ≤ 1099511627776) then
          bif decide (n ≥ 0) then
            bif !decide (n ≤ 1099511627776) then
              (0)
            else
              bif decide (k < e) then
                (0)
              else
                bif decide (k > e) then
                  (0)
                else
                  bif h != p then
                    (0)
                  else
                    bif decide (n > u) then
                      (0)
                    else
                      (if IntKind.i64.wrap (n + 8) > u then IntKind.i64.wrap (n + 8) else u)
          else
            (0)
        else
          (0)
      else
        (0)
    else
      bif p == 1 then
        bif decide (k ≥ 0) then
          bif decide (k ≤ 1099511627776) then
            bif decide (n ≥ 0) then
              bif !decide (n ≤ 1099511627776) then
                (0)
              else
                bif decide (k < e) then
                  (0)
                else
                  bif decide (k > e) then
                    (0)
                  else
                    bif h != p then
                      (0)
                    else
                      bif decide (n > u) then
                        (0)
                      else
                        (if IntKind.i64.wrap (n + 8) > u then IntKind.i64.wrap (n + 8) else u)
            else
              (0)
          else
            (0)
        else
          (0)
      else
        (0)
  else
    (0)
def renew46_5 (e : Int) (h : Int) (u : Int) (p : Int) (k : Int) (n : Int) : Int :=
  bif right43_0 e h u then
    bif p == 0 then
      bif decide (k ≥ 0) then
        bif decide (k ≤ 1099511627776) then
          bif decide (n ≥ 0) then
            bif !decide (n ≤ 1099511627776) then
              (2)
            else
              bif decide (k < e) then
                (230)
              else
                bif decide (k > e) then
                  (231)
                else
                  bif h != p then
                    (231)
                  else
                    bif decide (n > u) then
                      (231)
                    else
                      (0)
          else
            (2)
        else
          (2)
      else
        (2)
    else
      bif p == 1 then
        bif decide (k ≥ 0) then
          bif decide (k ≤ 1099511627776) then
            bif decide (n ≥ 0) then
              bif !decide (n ≤ 1099511627776) then
                (2)
              else
                bif decide (k < e) then
                  (230)
                else
                  bif decide (k > e) then
                    (231)
                  else
                    bif h != p then
                      (231)
                    else
                      bif decide (n > u) then
                        (231)
                      else
                        (0)
            else
              (2)
          else
            (2)
        else
          (2)
      else
        (2)
  else
    (2)
theorem renew46_ok (e : Int) (h : Int) (u : Int) (p : Int) (k : Int) (n : Int) (w : World) : Calls Try.prog 46 #[Value.agg #[Value.int IntKind.i64 e, Value.int IntKind.i64 h, Value.int IntKind.i64 u], Value.int IntKind.i64 p, Value.int IntKind.i64 k, Value.int IntKind.i64 n] w fun e' w' => e' = .returned (.tuple #[.agg #[.int IntKind.i64 (e), .int IntKind.i64 (h), .int IntKind.i64 (renew46_2 e h u p k n)], .int IntKind.i64 (renew46_3 e h u p k n), .int IntKind.i64 (renew46_4 e h u p k n), .int IntKind.i64 (renew46_5 e h u p k n)]) ∧ Below w.heap.size w w' := by
  cases hc0 : (right43_0 e h u) with
  | true =>
    cases hc1 : (p == 0) with
    | true =>
      cases hc2 : (decide (k ≥ 0)) with
      | true =>
        cases hc3 : (decide (k ≤ 1099511627776)) with
        | true =>
          cases hc4 : (decide (n ≥ 0)) with
          | true =>
            cases hc5 : (!decide (n ≤ 1099511627776)) with
            | true =>
              exact (evPure_plain (v := .tuple #[.agg #[.int IntKind.i64 (e), .int IntKind.i64 (h), .int IntKind.i64 (u)], .int IntKind.i64 (0), .int IntKind.i64 (0), .int IntKind.i64 (2)]) cs1_ok 1000 [some true, some true, none, some true, some true, some true, some true] [(right43_0 e h u) = true, (p == 0) = true, (decide (k ≥ 0)) = true, (decide (k ≤ 1099511627776)) = true, (decide (n ≥ 0)) = true, (!decide (n ≤ 1099511627776)) = true] (by kernel_rfl) (Alls.cons hc0 (Alls.cons hc1 (Alls.cons hc2 (Alls.cons hc3 (Alls.cons hc4 (Alls.cons hc5 Alls.nil)))))) rfl rfl w).mono fun e' w' hh => ⟨by rw [hh.1]; try simp only [renew46_2, renew46_3, renew46_4, renew46_5, hc0, hc1, hc2, hc3, hc4, hc5, cond_true, cond_false], hh.2⟩
            | false =>
              cases hc6 : (decide (k < e)) with
              | true =>
                exact (evPure_plain (v := .tuple #[.agg #[.int IntKind.i64 (e), .int IntKind.i64 (h), .int IntKind.i64 (u)], .int IntKind.i64 (0), .int IntKind.i64 (0), .int IntKind.i64 (230)]) cs1_ok 1000 [some true, some true, none, some true, some true, some true, some false, some true] [(right43_0 e h u) = true, (p == 0) = true, (decide (k ≥ 0)) = true, (decide (k ≤ 1099511627776)) = true, (decide (n ≥ 0)) = true, (!decide (n ≤ 1099511627776)) = false, (decide (k < e)) = true] (by kernel_rfl) (Alls.cons hc0 (Alls.cons hc1 (Alls.cons hc2 (Alls.cons hc3 (Alls.cons hc4 (Alls.cons hc5 (Alls.cons hc6 Alls.nil))))))) rfl rfl w).mono fun e' w' hh => ⟨by rw [hh.1]; try simp only [renew46_2, renew46_3, renew46_4, renew46_5, hc0, hc1, hc2, hc3, hc4, hc5, hc6, cond_true, cond_false], hh.2⟩
              | false =>
                cases hc7 : (decide (k > e)) with
                | true =>
                  exact (evPure_plain (v := .tuple #[.agg #[.int IntKind.i64 (e), .int IntKind.i64 (h), .int IntKind.i64 (u)], .int IntKind.i64 (0), .int IntKind.i64 (0), .int IntKind.i64 (231)]) cs1_ok 1000 [some true, some true, none, some true, some true, some true, some false, some false, some true, none, none] [(right43_0 e h u) = true, (p == 0) = true, (decide (k ≥ 0)) = true, (decide (k ≤ 1099511627776)) = true, (decide (n ≥ 0)) = true, (!decide (n ≤ 1099511627776)) = false, (decide (k < e)) = false, (decide (k > e)) = true] (by kernel_rfl) (Alls.cons hc0 (Alls.cons hc1 (Alls.cons hc2 (Alls.cons hc3 (Alls.cons hc4 (Alls.cons hc5 (Alls.cons hc6 (Alls.cons hc7 Alls.nil)))))))) rfl rfl w).mono fun e' w' hh => ⟨by rw [hh.1]; try simp only [renew46_2, renew46_3, renew46_4, renew46_5, hc0, hc1, hc2, hc3, hc4, hc5, hc6, hc7, cond_true, cond_false], hh.2⟩
                | false =>
                  cases hc8 : (h != p) with
                  | true =>
                    exact (evPure_plain (v := .tuple #[.agg #[.int IntKind.i64 (e), .int IntKind.i64 (h), .int IntKind.i64 (u)], .int IntKind.i64 (0), .int IntKind.i64 (0), .int IntKind.i64 (231)]) cs1_ok 1000 [some true, some true, none, some true, some true, some true, some false, some false, some false, some true, none] [(right43_0 e h u) = true, (p == 0) = true, (decide (k ≥ 0)) = true, (decide (k ≤ 1099511627776)) = true, (decide (n ≥ 0)) = true, (!decide (n ≤ 1099511627776)) = false, (decide (k < e)) = false, (decide (k > e)) = false, (h != p) = true] (by kernel_rfl) (Alls.cons hc0 (Alls.cons hc1 (Alls.cons hc2 (Alls.cons hc3 (Alls.cons hc4 (Alls.cons hc5 (Alls.cons hc6 (Alls.cons hc7 (Alls.cons hc8 Alls.nil))))))))) rfl rfl w).mono fun e' w' hh => ⟨by rw [hh.1]; try simp only [renew46_2, renew46_3, renew46_4, renew46_5, hc0, hc1, hc2, hc3, hc4, hc5, hc6, hc7, hc8, cond_true, cond_false], hh.2⟩
                  | false =>
                    cases hc9 : (decide (n > u)) with
                    | true =>
                      exact (evPure_plain (v := .tuple #[.agg #[.int IntKind.i64 (e), .int IntKind.i64 (h), .int IntKind.i64 (u)], .int IntKind.i64 (0), .int IntKind.i64 (0), .int IntKind.i64 (231)]) cs1_ok 1000 [some true, some true, none, some true, some true, some true, some false, some false, some false, some false, some true] [(right43_0 e h u) = true, (p == 0) = true, (decide (k ≥ 0)) = true, (decide (k ≤ 1099511627776)) = true, (decide (n ≥ 0)) = true, (!decide (n ≤ 1099511627776)) = false, (decide (k < e)) = false, (decide (k > e)) = false, (h != p) = false, (decide (n > u)) = true] (by kernel_rfl) (Alls.cons hc0 (Alls.cons hc1 (Alls.cons hc2 (Alls.cons hc3 (Alls.cons hc4 (Alls.cons hc5 (Alls.cons hc6 (Alls.cons hc7 (Alls.cons hc8 (Alls.cons hc9 Alls.nil)))))))))) rfl rfl w).mono fun e' w' hh => ⟨by rw [hh.1]; try simp only [renew46_2, renew46_3, renew46_4, renew46_5, hc0, hc1, hc2, hc3, hc4, hc5, hc6, hc7, hc8, hc9, cond_true, cond_false], hh.2⟩
                    | false =>
                      exact (evPure_plain (v := .tuple #[.agg #[.int IntKind.i64 (e), .int IntKind.i64 (h), .int IntKind.i64 (if IntKind.i64.wrap (n + 8) > u then IntKind.i64.wrap (n + 8) else u)], .int IntKind.i64 (e), .int IntKind.i64 (if IntKind.i64.wrap (n + 8) > u then IntKind.i64.wrap (n + 8) else u), .int IntKind.i64 (0)]) cs1_ok 1000 [some true, some true, none, some true, some true, some true, some false, some false, some false, some false, some false] [(right43_0 e h u) = true, (p == 0) = true, (decide (k ≥ 0)) = true, (decide (k ≤ 1099511627776)) = true, (decide (n ≥ 0)) = true, (!decide (n ≤ 1099511627776)) = false, (decide (k < e)) = false, (decide (k > e)) = false, (h != p) = false, (decide (n > u)) = false] (by kernel_rfl) (Alls.cons hc0 (Alls.cons hc1 (Alls.cons hc2 (Alls.cons hc3 (Alls.cons hc4 (Alls.cons hc5 (Alls.cons hc6 (Alls.cons hc7 (Alls.cons hc8 (Alls.cons hc9 Alls.nil)))))))))) rfl rfl w).mono fun e' w' hh => ⟨by rw [hh.1]; try simp only [renew46_2, renew46_3, renew46_4, renew46_5, hc0, hc1, hc2, hc3, hc4, hc5, hc6, hc7, hc8, hc9, cond_true, cond_false], hh.2⟩
          | false =>
            exact (evPure_plain (v := .tuple #[.agg #[.int IntKind.i64 (e), .int IntKind.i64 (h), .int IntKind.i64 (u)], .int IntKind.i64 (0), .int IntKind.i64 (0), .int IntKind.i64 (2)]) cs1_ok 1000 [some true, some true, none, some true, some true, some false, none] [(right43_0 e h u) = true, (p == 0) = true, (decide (k ≥ 0)) = true, (decide (k ≤ 1099511627776)) = true, (decide (n ≥ 0)) = false] (by kernel_rfl) (Alls.cons hc0 (Alls.cons hc1 (Alls.cons hc2 (Alls.cons hc3 (Alls.cons hc4 Alls.nil))))) rfl rfl w).mono fun e' w' hh => ⟨by rw [hh.1]; try simp only [renew46_2, renew46_3, renew46_4, renew46_5, hc0, hc1, hc2, hc3, hc4, cond_true, cond_false], hh.2⟩
        | false =>
          exact (evPure_plain (v := .tuple #[.agg #[.int IntKind.i64 (e), .int IntKind.i64 (h), .int IntKind.i64 (u)], .int IntKind.i64 (0), .int IntKind.i64 (0), .int IntKind.i64 (2)]) cs1_ok 1000 [some true, some true, none, some true, some false, none] [(right43_0 e h u) = true, (p == 0) = true, (decide (k ≥ 0)) = true, (decide (k ≤ 1099511627776)) = false] (by kernel_rfl) (Alls.cons hc0 (Alls.cons hc1 (Alls.cons hc2 (Alls.cons hc3 Alls.nil)))) rfl rfl w).mono fun e' w' hh => ⟨by rw [hh.1]; try simp only [renew46_2, renew46_3, renew46_4, renew46_5, hc0, hc1, hc2, hc3, cond_true, cond_false], hh.2⟩
      | false =>
        exact (evPure_plain (v := .tuple #[.agg #[.int IntKind.i64 (e), .int IntKind.i64 (h), .int IntKind.i64 (u)], .int IntKind.i64 (0), .int IntKind.i64 (0), .int IntKind.i64 (2)]) cs1_ok 1000 [some true, some true, none, some false, none, none] [(right43_0 e h u) = true, (p == 0) = true, (decide (k ≥ 0)) = false] (by kernel_rfl) (Alls.cons hc0 (Alls.cons hc1 (Alls.cons hc2 Alls.nil))) rfl rfl w).mono fun e' w' hh => ⟨by rw [hh.1]; try simp only [renew46_2, renew46_3, renew46_4, renew46_5, hc0, hc1, hc2, cond_true, cond_false], hh.2⟩
    | false =>
      cases hc2 : (p == 1) with
      | true =>
        cases hc3 : (decide (k ≥ 0)) with
        | true =>
          cases hc4 : (decide (k ≤ 1099511627776)) with
          | true =>
            cases hc5 : (decide (n ≥ 0)) with
            | true =>
              cases hc6 : (!decide (n ≤ 1099511627776)) with
              | true =>
                exact (evPure_plain (v := .tuple #[.agg #[.int IntKind.i64 (e), .int IntKind.i64 (h), .int IntKind.i64 (u)], .int IntKind.i64 (0), .int IntKind.i64 (0), .int IntKind.i64 (2)]) cs1_ok 1000 [some true, some false, some true, some true, some true, some true, some true] [(right43_0 e h u) = true, (p == 0) = false, (p == 1) = true, (decide (k ≥ 0)) = true, (decide (k ≤ 1099511627776)) = true, (decide (n ≥ 0)) = true, (!decide (n ≤ 1099511627776)) = true] (by kernel_rfl) (Alls.cons hc0 (Alls.cons hc1 (Alls.cons hc2 (Alls.cons hc3 (Alls.cons hc4 (Alls.cons hc5 (Alls.cons hc6 Alls.nil))))))) rfl rfl w).mono fun e' w' hh => ⟨by rw [hh.1]; try simp only [renew46_2, renew46_3, renew46_4, renew46_5, hc0, hc1, hc2, hc3, hc4, hc5, hc6, cond_true, cond_false], hh.2⟩
              | false =>
                cases hc7 : (decide (k < e)) with
                | true =>
                  exact (evPure_plain (v := .tuple #[.agg #[.int IntKind.i64 (e), .int IntKind.i64 (h), .int IntKind.i64 (u)], .int IntKind.i64 (0), .int IntKind.i64 (0), .int IntKind.i64 (230)]) cs1_ok 1000 [some true, some false, some true, some true, some true, some true, some false, some true] [(right43_0 e h u) = true, (p == 0) = false, (p == 1) = true, (decide (k ≥ 0)) = true, (decide (k ≤ 1099511627776)) = true, (decide (n ≥ 0)) = true, (!decide (n ≤ 1099511627776)) = false, (decide (k < e)) = true] (by kernel_rfl) (Alls.cons hc0 (Alls.cons hc1 (Alls.cons hc2 (Alls.cons hc3 (Alls.cons hc4 (Alls.cons hc5 (Alls.cons hc6 (Alls.cons hc7 Alls.nil)))))))) rfl rfl w).mono fun e' w' hh => ⟨by rw [hh.1]; try simp only [renew46_2, renew46_3, renew46_4, renew46_5, hc0, hc1, hc2, hc3, hc4, hc5, hc6, hc7, cond_true, cond_false], hh.2⟩
                | false =>
                  cases hc8 : (decide (k > e)) with
                  | true =>
                    exact (evPure_plain (v := .tuple #[.agg #[.int IntKind.i64 (e), .int IntKind.i64 (h), .int IntKind.i64 (u)], .int IntKind.i64 (0), .int IntKind.i64 (0), .int IntKind.i64 (231)]) cs1_ok 1000 [some true, some false, some true, some true, some true, some true, some false, some false, some true, none, none] [(right43_0 e h u) = true, (p == 0) = false, (p == 1) = true, (decide (k ≥ 0)) = true, (decide (k ≤ 1099511627776)) = true, (decide (n ≥ 0)) = true, (!decide (n ≤ 1099511627776)) = false, (decide (k < e)) = false, (decide (k > e)) = true] (by kernel_rfl) (Alls.cons hc0 (Alls.cons hc1 (Alls.cons hc2 (Alls.cons hc3 (Alls.cons hc4 (Alls.cons hc5 (Alls.cons hc6 (Alls.cons hc7 (Alls.cons hc8 Alls.nil))))))))) rfl rfl w).mono fun e' w' hh => ⟨by rw [hh.1]; try simp only [renew46_2, renew46_3, renew46_4, renew46_5, hc0, hc1, hc2, hc3, hc4, hc5, hc6, hc7, hc8, cond_true, cond_false], hh.2⟩
                  | false =>
                    cases hc9 : (h != p) with
                    | true =>
                      exact (evPure_plain (v := .tuple #[.agg #[.int IntKind.i64 (e), .int IntKind.i64 (h), .int IntKind.i64 (u)], .int IntKind.i64 (0), .int IntKind.i64 (0), .int IntKind.i64 (231)]) cs1_ok 1000 [some true, some false, some true, some true, some true, some true, some false, some false, some false, some true, none] [(right43_0 e h u) = true, (p == 0) = false, (p == 1) = true, (decide (k ≥ 0)) = true, (decide (k ≤ 1099511627776)) = true, (decide (n ≥ 0)) = true, (!decide (n ≤ 1099511627776)) = false, (decide (k < e)) = false, (decide (k > e)) = false, (h != p) = true] (by kernel_rfl) (Alls.cons hc0 (Alls.cons hc1 (Alls.cons hc2 (Alls.cons hc3 (Alls.cons hc4 (Alls.cons hc5 (Alls.cons hc6 (Alls.cons hc7 (Alls.cons hc8 (Alls.cons hc9 Alls.nil)))))))))) rfl rfl w).mono fun e' w' hh => ⟨by rw [hh.1]; try simp only [renew46_2, renew46_3, renew46_4, renew46_5, hc0, hc1, hc2, hc3, hc4, hc5, hc6, hc7, hc8, hc9, cond_true, cond_false], hh.2⟩
                    | false =>
                      cases hc10 : (decide (n > u)) with
                      | true =>
                        exact (evPure_plain (v := .tuple #[.agg #[.int IntKind.i64 (e), .int IntKind.i64 (h), .int IntKind.i64 (u)], .int IntKind.i64 (0), .int IntKind.i64 (0), .int IntKind.i64 (231)]) cs1_ok 1000 [some true, some false, some true, some true, some true, some true, some false, some false, some false, some false, some true] [(right43_0 e h u) = true, (p == 0) = false, (p == 1) = true, (decide (k ≥ 0)) = true, (decide (k ≤ 1099511627776)) = true, (decide (n ≥ 0)) = true, (!decide (n ≤ 1099511627776)) = false, (decide (k < e)) = false, (decide (k > e)) = false, (h != p) = false, (decide (n > u)) = true] (by kernel_rfl) (Alls.cons hc0 (Alls.cons hc1 (Alls.cons hc2 (Alls.cons hc3 (Alls.cons hc4 (Alls.cons hc5 (Alls.cons hc6 (Alls.cons hc7 (Alls.cons hc8 (Alls.cons hc9 (Alls.cons hc10 Alls.nil))))))))))) rfl rfl w).mono fun e' w' hh => ⟨by rw [hh.1]; try simp only [renew46_2, renew46_3, renew46_4, renew46_5, hc0, hc1, hc2, hc3, hc4, hc5, hc6, hc7, hc8, hc9, hc10, cond_true, cond_false], hh.2⟩
                      | false =>
                        exact (evPure_plain (v := .tuple #[.agg #[.int IntKind.i64 (e), .int IntKind.i64 (h), .int IntKind.i64 (if IntKind.i64.wrap (n + 8) > u then IntKind.i64.wrap (n + 8) else u)], .int IntKind.i64 (e), .int IntKind.i64 (if IntKind.i64.wrap (n + 8) > u then IntKind.i64.wrap (n + 8) else u), .int IntKind.i64 (0)]) cs1_ok 1000 [some true, some false, some true, some true, some true, some true, some false, some false, some false, some false, some false] [(right43_0 e h u) = true, (p == 0) = false, (p == 1) = true, (decide (k ≥ 0)) = true, (decide (k ≤ 1099511627776)) = true, (decide (n ≥ 0)) = true, (!decide (n ≤ 1099511627776)) = false, (decide (k < e)) = false, (decide (k > e)) = false, (h != p) = false, (decide (n > u)) = false] (by kernel_rfl) (Alls.cons hc0 (Alls.cons hc1 (Alls.cons hc2 (Alls.cons hc3 (Alls.cons hc4 (Alls.cons hc5 (Alls.cons hc6 (Alls.cons hc7 (Alls.cons hc8 (Alls.cons hc9 (Alls.cons hc10 Alls.nil))))))))))) rfl rfl w).mono fun e' w' hh => ⟨by rw [hh.1]; try simp only [renew46_2, renew46_3, renew46_4, renew46_5, hc0, hc1, hc2, hc3, hc4, hc5, hc6, hc7, hc8, hc9, hc10, cond_true, cond_false], hh.2⟩
            | false =>
              exact (evPure_plain (v := .tuple #[.agg #[.int IntKind.i64 (e), .int IntKind.i64 (h), .int IntKind.i64 (u)], .int IntKind.i64 (0), .int IntKind.i64 (0), .int IntKind.i64 (2)]) cs1_ok 1000 [some true, some false, some true, some true, some true, some false, none] [(right43_0 e h u) = true, (p == 0) = false, (p == 1) = true, (decide (k ≥ 0)) = true, (decide (k ≤ 1099511627776)) = true, (decide (n ≥ 0)) = false] (by kernel_rfl) (Alls.cons hc0 (Alls.cons hc1 (Alls.cons hc2 (Alls.cons hc3 (Alls.cons hc4 (Alls.cons hc5 Alls.nil)))))) rfl rfl w).mono fun e' w' hh => ⟨by rw [hh.1]; try simp only [renew46_2, renew46_3, renew46_4, renew46_5, hc0, hc1, hc2, hc3, hc4, hc5, cond_true, cond_false], hh.2⟩
          | false =>
            exact (evPure_plain (v := .tuple #[.agg #[.int IntKind.i64 (e), .int IntKind.i64 (h), .int IntKind.i64 (u)], .int IntKind.i64 (0), .int IntKind.i64 (0), .int IntKind.i64 (2)]) cs1_ok 1000 [some true, some false, some true, some true, some false, none] [(right43_0 e h u) = true, (p == 0) = false, (p == 1) = true, (decide (k ≥ 0)) = true, (decide (k ≤ 1099511627776)) = false] (by kernel_rfl) (Alls.cons hc0 (Alls.cons hc1 (Alls.cons hc2 (Alls.cons hc3 (Alls.cons hc4 Alls.nil))))) rfl rfl w).mono fun e' w' hh => ⟨by rw [hh.1]; try simp only [renew46_2, renew46_3, renew46_4, renew46_5, hc0, hc1, hc2, hc3, hc4, cond_true, cond_false], hh.2⟩
        | false =>
          exact (evPure_plain (v := .tuple #[.agg #[.int IntKind.i64 (e), .int IntKind.i64 (h), .int IntKind.i64 (u)], .int IntKind.i64 (0), .int IntKind.i64 (0), .int IntKind.i64 (2)]) cs1_ok 1000 [some true, some false, some true, some false, none, none] [(right43_0 e h u) = true, (p == 0) = false, (p == 1) = true, (decide (k ≥ 0)) = false] (by kernel_rfl) (Alls.cons hc0 (Alls.cons hc1 (Alls.cons hc2 (Alls.cons hc3 Alls.nil)))) rfl rfl w).mono fun e' w' hh => ⟨by rw [hh.1]; try simp only [renew46_2, renew46_3, renew46_4, renew46_5, hc0, hc1, hc2, hc3, cond_true, cond_false], hh.2⟩
      | false =>
        exact (evPure_plain (v := .tuple #[.agg #[.int IntKind.i64 (e), .int IntKind.i64 (h), .int IntKind.i64 (u)], .int IntKind.i64 (0), .int IntKind.i64 (0), .int IntKind.i64 (2)]) cs1_ok 1000 [some true, some false, some false, none, none] [(right43_0 e h u) = true, (p == 0) = false, (p == 1) = false] (by kernel_rfl) (Alls.cons hc0 (Alls.cons hc1 (Alls.cons hc2 Alls.nil))) rfl rfl w).mono fun e' w' hh => ⟨by rw [hh.1]; try simp only [renew46_2, renew46_3, renew46_4, renew46_5, hc0, hc1, hc2, cond_true, cond_false], hh.2⟩
  | false =>
    exact (evPure_plain (v := .tuple #[.agg #[.int IntKind.i64 (e), .int IntKind.i64 (h), .int IntKind.i64 (u)], .int IntKind.i64 (0), .int IntKind.i64 (0), .int IntKind.i64 (2)]) cs1_ok 1000 [some false, none, none, none] [(right43_0 e h u) = false] (by kernel_rfl) (Alls.cons hc0 Alls.nil) rfl rfl w).mono fun e' w' hh => ⟨by rw [hh.1]; try simp only [renew46_2, renew46_3, renew46_4, renew46_5, hc0, cond_true, cond_false], hh.2⟩
def F46 : List Value → Option Value
  | [Value.agg ⟨[Value.int IntKind.i64 e, Value.int IntKind.i64 h, Value.int IntKind.i64 u]⟩, Value.int IntKind.i64 p, Value.int IntKind.i64 k, Value.int IntKind.i64 n] => some (.tuple #[.agg #[.int IntKind.i64 (e), .int IntKind.i64 (h), .int IntKind.i64 (renew46_2 e h u p k n)], .int IntKind.i64 (renew46_3 e h u p k n), .int IntKind.i64 (renew46_4 e h u p k n), .int IntKind.i64 (renew46_5 e h u p k n)])
  | _ => none
theorem S46 : SpecOk Try.prog 46 (plainSpec F46) := plainSpec_ok fun l v hF => by
  unfold F46 at hF
  split at hF
  · cases hF; exact ⟨rfl, fun w => renew46_ok _ _ _ _ _ _ w⟩
  · cases hF
theorem works44 (w : World) : Calls Try.prog 44 #[] w fun e w' => e = .returned (.bool true) ∧ Below w.heap.size w w' :=
  evPure_plain csNone_ok 1000 [] [] (by kernel_rfl) trivial rfl rfl w
def F44 : List Value → Option Value
  | [] => some (.bool true)
  | _ => none
theorem S44 : SpecOk Try.prog 44 (plainSpec F44) := plainSpec_ok fun l v hF => by
  unfold F44 at hF
  split at hF
  · cases hF; exact ⟨rfl, fun w => works44 w⟩
  · cases hF
def cs2 : FuncId → Option CSpec := csAdd 39 (plainSpec F39) (csAdd 41 (plainSpec F41) (csAdd 45 (plainSpec F45) (csAdd 46 (plainSpec F46) (csAdd 47 (plainSpec F47) (csAdd 48 (plainSpec F48) (csAdd 44 (plainSpec F44) cs1))))))
theorem cs2_ok : CsOk Try.prog cs2 := csAdd_ok S39 (csAdd_ok S41 (csAdd_ok S45 (csAdd_ok S46 (csAdd_ok S47 (csAdd_ok S48 (csAdd_ok S44 cs1_ok))))))
end Go.Proofs.Ytchedebomjmehaa.Sx
