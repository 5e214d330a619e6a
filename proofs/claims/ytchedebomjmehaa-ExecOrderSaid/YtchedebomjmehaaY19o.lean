import Derived.Test.YtchedebomjmehaaX19o
import Derived.Test.YtchedebomjmehaaY19
namespace Go.Proofs.Ytchedebomjmehaa.Vx
open Go Go.RowKit
set_option linter.unusedVariables false
set_option maxRecDepth 100000
theorem bnf {a b : Int} (h : a = b) : (a != b) = false := by subst h; simp
/-- What holds between an executive and what is counted beside it. -/
def Lk (dl tk T : Int) (lt : Bool) : Prop := 0 ≤ T ∧ (lt = false → tk = T ∧ T ≤ dl) ∧ (lt = true → dl < T)
def InX (ph dl cy p tk : Int) (lt : Bool) (D T : Int) : Prop := Ex ph dl cy p tk lt ∧ D = ph * cy + p ∧ Lk dl tk T lt
theorem prod_in {ph cy : Int} (h1 : 1 ≤ ph) (h2 : ph ≤ 16) (h3 : 0 ≤ cy) (h4 : cy ≤ 1099511627776) : 0 ≤ ph * cy ∧ ph * cy ≤ 17592186044416 := by
  refine ⟨Int.mul_nonneg (by omega) h3, ?_⟩
  have a : ph * cy ≤ 16 * cy := Int.mul_le_mul_of_nonneg_right h2 h3
  omega
theorem dm_mod {ph cy p : Int} (h0 : 0 ≤ cy) (h1 : 0 ≤ p) (h2 : p < ph) : Int.tmod (ph * cy + p) ph = p := by
  have h3 : 0 ≤ ph * cy := Int.mul_nonneg (by omega) h0
  rw [Int.tmod_eq_emod_of_nonneg (by omega), Int.mul_add_emod_self_left]
  exact Int.emod_eq_of_lt h1 h2
theorem dm_div {ph cy p : Int} (h0 : 0 ≤ cy) (h1 : 0 ≤ p) (h2 : p < ph) : Int.tdiv (ph * cy + p) ph = cy := by
  have h3 : 0 ≤ ph * cy := Int.mul_nonneg (by omega) h0
  rw [Int.tdiv_eq_ediv_of_nonneg (by omega), Int.add_comm, Int.add_mul_ediv_left _ _ (by omega), Int.ediv_eq_zero_of_lt h1 h2]
  omega
/-- What Done does. -/
theorem d36 (q : Int) {ph dl cy p tk : Int} {lt : Bool} (h : Ex ph dl cy p tk lt) :
    (∃ e, e ≠ 0 ∧ op_36 (.n q :: exD ph dl cy p tk lt) = some (0, .n e :: exD ph dl cy p tk lt)) ∨
    (lt = false ∧ q = p ∧ ((p < ph - 1 ∧ op_36 (.n q :: exD ph dl cy p tk lt) = some (0, .n 0 :: exD ph dl cy (p + 1) tk false)) ∨ (p = ph - 1 ∧ cy < 1099511627776 ∧ op_36 (.n q :: exD ph dl cy p tk lt) = some (0, .n 0 :: exD ph dl (cy + 1) 0 0 false)))) := by
  obtain ⟨h1, h2, h3, h4, h5, h6, h7, h8, h9, h10, h11⟩ := h
  have w1 : IntKind.wrap .i64 (ph - 1) = ph - 1 := w64 (by omega) (by omega)
  have w2 : IntKind.wrap .i64 (p + 1) = p + 1 := w64 (by omega) (by omega)
  have w3 : IntKind.wrap .i64 (cy + 1) = cy + 1 := w64 (by omega) (by omega)
  by_cases a1 : q < 0
  · exact .inl ⟨2, by omega, selT (dt a1)⟩
  by_cases a2 : q ≥ ph
  · exact .inl ⟨2, by omega, (selF (df a1)).trans (selT (dt a2))⟩
  cases lt with
  | true => exact .inl ⟨190, by omega, (selF (df a1)).trans (selF (df a2))⟩
  | false =>
    by_cases a3 : q = p
    · subst a3
      have b3 : (q != q) = false := by simp
      by_cases a4 : q < ph - 1
      · refine .inr ⟨rfl, rfl, .inl ⟨a4, ?_⟩⟩
        have e1 : op_36 (.n q :: exD ph dl cy q tk false) = some (0, .n 0 :: exD ph dl cy (IntKind.wrap .i64 (q + 1)) tk false) := (selF (df a1)).trans ((selF (df a2)).trans ((selF rfl).trans ((selF b3).trans (selT (dt (by rw [w1]; exact a4))))))
        rw [e1, w2]
      · by_cases a5 : cy = 1099511627776
        · exact .inl ⟨3, by omega, (selF (df a1)).trans ((selF (df a2)).trans ((selF rfl).trans ((selF b3).trans ((selF (df (by rw [w1]; exact a4))).trans (selT (bt a5))))))⟩
        · refine .inr ⟨rfl, rfl, .inr ⟨by omega, by omega, ?_⟩⟩
          have e1 : op_36 (.n q :: exD ph dl cy q tk false) = some (0, .n 0 :: exD ph dl (IntKind.wrap .i64 (cy + 1)) 0 0 false) := (selF (df a1)).trans ((selF (df a2)).trans ((selF rfl).trans ((selF b3).trans ((selF (df (by rw [w1]; exact a4))).trans (selF (bf a5))))))
          rw [e1, w3]
    · have b3 : (q != p) = true := by simpa using a3
      exact .inl ⟨4, by omega, (selF (df a1)).trans ((selF (df a2)).trans ((selF rfl).trans (selT b3)))⟩

theorem in0 (l : List (Ty.den TCall19)) (i : Int) (q : List (Ty.den (.int .i64))) (hq : q.length ≤ 9223372036854775807) (ph dl : Int) : ∀ (n : Nat) (k cy p tk : Int) (lt : Bool) (D T : Int), InX ph dl cy p tk lt D T → 0 ≤ k → k ≤ q.length → (q.length : Int) - k < n →
    ∃ (cy' p' tk' : Int) (lt' : Bool) (D' T' : Int), iterS fn_L9_25 n (.k 0 :: .l TCall19 l :: .n ph :: .n dl :: .n D :: .n T :: .n i :: .l (.int .i64) q :: .n k :: exD ph dl cy p tk lt) = some (0, .l TCall19 l :: .n ph :: .n dl :: .n D' :: .n T' :: .n i :: exD ph dl cy' p' tk' lt') ∧ InX ph dl cy' p' tk' lt' D' T' ∧ T' ≤ T
  | 0, k, cy, p, tk, lt, D, T, h, h0, h1, hn => by omega
  | n + 1, k, cy, p, tk, lt, D, T, h, h0, h1, hn => by
    have H := h
    obtain ⟨hE, hD, hL⟩ := h
    have hE' := hE
    obtain ⟨x1, x2, x3, x4, x5, x6, x7, x8, x9, x10, x11⟩ := hE
    have hp := prod_in x1 x2 x5 x6
    by_cases hlt : k < (q.length : Int)
    · have w1 : IntKind.wrap .i64 (k + 1) = k + 1 := w64 (by omega) (by omega)
      have w2 : IntKind.wrap .i64 (D + 1) = D + 1 := w64 (by omega) (by omega)
      rcases d36 (List.getD q (Int.toNat k) (0 : Int)) hE' with ⟨e, he, e1⟩ | ⟨rfl, hqp, hcase⟩
      · have e1' : op_36 [Dat.n (List.getD q (Int.toNat k) (0 : Int)), Dat.n ph, Dat.n dl, Dat.n cy, Dat.n p, Dat.n tk, Dat.b lt] = some (0, [.n e, .n ph, .n dl, .n cy, .n p, .n tk, .b lt]) := e1
        have s1 : (fn_L9_25 (.k 0 :: .l TCall19 l :: .n ph :: .n dl :: .n D :: .n T :: .n i :: .l (.int .i64) q :: .n k :: exD ph dl cy p tk lt)).sel = some (.go (.k 0 :: .l TCall19 l :: .n ph :: .n dl :: .n D :: .n T :: .n i :: .l (.int .i64) q :: .n (k + 1) :: exD ph dl cy p tk lt)) := by
          refine (selT (dt hlt)).trans ((selT (inR_true h0 hlt)).trans ?_)
          rw [e1', w1]
          exact (selT rfl).trans (selT (show (e != (0 : Int)) = true from by simpa using he))
        simp only [iterS, s1]
        exact in0 l i q hq ph dl n (k + 1) cy p tk lt D T H (by omega) (by omega) (by omega)
      · obtain ⟨l0, l1, l2⟩ := hL
        have hl1 := l1 rfl
        have em : Int.tmod D ph = p := by rw [hD]; exact dm_mod x5 x7 x8
        have c3 : ((List.getD q (Int.toNat k) (0 : Int)) != Int.tmod D ph) = false := by rw [em]; exact bnf hqp
        rcases hcase with ⟨hlast, e1⟩ | ⟨hlast, hcy, e1⟩
        · have e1' : op_36 [Dat.n (List.getD q (Int.toNat k) (0 : Int)), Dat.n ph, Dat.n dl, Dat.n cy, Dat.n p, Dat.n tk, Dat.b false] = some (0, [.n 0, .n ph, .n dl, .n cy, .n (p + 1), .n tk, .b false]) := e1
          have c4 : Int.tmod (D + 1) ph = p + 1 := by rw [hD, Int.add_assoc]; exact dm_mod x5 (by omega) (by omega)
          have s1 : (fn_L9_25 (.k 0 :: .l TCall19 l :: .n ph :: .n dl :: .n D :: .n T :: .n i :: .l (.int .i64) q :: .n k :: exD ph dl cy p tk false)).sel = some (.go (.k 0 :: .l TCall19 l :: .n ph :: .n dl :: .n (D + 1) :: .n T :: .n i :: .l (.int .i64) q :: .n (k + 1) :: exD ph dl cy (p + 1) tk false)) := by
            refine (selT (dt hlt)).trans ((selT (inR_true h0 hlt)).trans ?_)
            rw [e1', w1, w2]
            exact (selT rfl).trans ((selF rfl).trans ((selF rfl).trans ((selF (df (by omega))).trans ((selT (nf (df (by omega)))).trans ((selF c3).trans (selF (bf (by rw [c4]; omega))))))))
          simp only [iterS, s1]
          exact in0 l i q hq ph dl n (k + 1) cy (p + 1) tk false (D + 1) T ⟨by unfold Ex; simp; omega, by omega, l0, fun _ => hl1, fun h => by cases h⟩ (by omega) (by omega) (by omega)
        · have e1' : op_36 [Dat.n (List.getD q (Int.toNat k) (0 : Int)), Dat.n ph, Dat.n dl, Dat.n cy, Dat.n p, Dat.n tk, Dat.b false] = some (0, [.n 0, .n ph, .n dl, .n (cy + 1), .n 0, .n 0, .b false]) := e1
          have c5 : D + 1 = ph * (cy + 1) + 0 := by rw [hD, Int.mul_add]; omega
          have c4 : Int.tmod (D + 1) ph = 0 := by rw [c5]; exact dm_mod (by omega) (by omega) (by omega)
          have s1 : (fn_L9_25 (.k 0 :: .l TCall19 l :: .n ph :: .n dl :: .n D :: .n T :: .n i :: .l (.int .i64) q :: .n k :: exD ph dl cy p tk false)).sel = some (.go (.k 0 :: .l TCall19 l :: .n ph :: .n dl :: .n (D + 1) :: .n 0 :: .n i :: .l (.int .i64) q :: .n (k + 1) :: exD ph dl (cy + 1) 0 0 false)) := by
            refine (selT (dt hlt)).trans ((selT (inR_true h0 hlt)).trans ?_)
            rw [e1', w1, w2]
            exact (selT rfl).trans ((selF rfl).trans ((selF rfl).trans ((selF (df (by omega))).trans ((selT (nf (df (by omega)))).trans ((selF c3).trans (selT (bt c4)))))))
          simp only [iterS, s1]
          obtain ⟨cy', p', tk', lt', D', T', g1, g2, g3⟩ := in0 l i q hq ph dl n (k + 1) (cy + 1) 0 0 false (D + 1) 0 ⟨by unfold Ex; simp; omega, c5, by omega, fun _ => ⟨rfl, by omega⟩, fun h => by cases h⟩ (by omega) (by omega) (by omega)
          exact ⟨cy', p', tk', lt', D', T', g1, g2, by omega⟩
    · have s1 : (fn_L9_25 (.k 0 :: .l TCall19 l :: .n ph :: .n dl :: .n D :: .n T :: .n i :: .l (.int .i64) q :: .n k :: exD ph dl cy p tk lt)).sel = some (.stop 0 (.l TCall19 l :: .n ph :: .n dl :: .n D :: .n T :: .n i :: exD ph dl cy p tk lt)) := selF (df hlt)
      simp only [iterS, s1]
      exact ⟨cy, p, tk, lt, D, T, rfl, H, Int.le_refl _⟩

theorem in1 (l : List (Ty.den TCall19)) (i : Int) (q : List (Ty.den (.int .i64))) (hq : q.length ≤ 9223372036854775807) (ph dl : Int) : ∀ (n : Nat) (k cy p tk : Int) (lt : Bool) (D T : Int), InX ph dl cy p tk lt D T → 0 ≤ k → k ≤ q.length → (q.length : Int) - k < n →
    ∃ (cy' p' tk' : Int) (lt' : Bool) (D' T' : Int), iterS fn_L9_25 n (.k 1 :: .l TCall19 l :: .n ph :: .n dl :: .n D :: .n T :: .n i :: .n k :: (exD ph dl cy p tk lt ++ [.l (.int .i64) q])) = some (0, .l TCall19 l :: .n ph :: .n dl :: .n D' :: .n T' :: .n i :: exD ph dl cy' p' tk' lt') ∧ InX ph dl cy' p' tk' lt' D' T' ∧ T' ≤ T
  | 0, k, cy, p, tk, lt, D, T, h, h0, h1, hn => by omega
  | n + 1, k, cy, p, tk, lt, D, T, h, h0, h1, hn => by
    have H := h
    obtain ⟨hE, hD, hL⟩ := h
    have hE' := hE
    obtain ⟨x1, x2, x3, x4, x5, x6, x7, x8, x9, x10, x11⟩ := hE
    have hp := prod_in x1 x2 x5 x6
    by_cases hlt : k < (q.length : Int)
    · have w1 : IntKind.wrap .i64 (k + 1) = k + 1 := w64 (by omega) (by omega)
      have w2 : IntKind.wrap .i64 (D + 1) = D + 1 := w64 (by omega) (by omega)
      rcases d36 (List.getD q (Int.toNat k) (0 : Int)) hE' with ⟨e, he, e1⟩ | ⟨rfl, hqp, hcase⟩
      · have e1' : op_36 [Dat.n (List.getD q (Int.toNat k) (0 : Int)), Dat.n ph, Dat.n dl, Dat.n cy, Dat.n p, Dat.n tk, Dat.b lt] = some (0, [.n e, .n ph, .n dl, .n cy, .n p, .n tk, .b lt]) := e1
        have s1 : (fn_L9_25 (.k 1 :: .l TCall19 l :: .n ph :: .n dl :: .n D :: .n T :: .n i :: .n k :: (exD ph dl cy p tk lt ++ [.l (.int .i64) q]))).sel = some (.go (.k 1 :: .l TCall19 l :: .n ph :: .n dl :: .n D :: .n T :: .n i :: .n (k + 1) :: (exD ph dl cy p tk lt ++ [.l (.int .i64) q]))) := by
          refine (selT (dt hlt)).trans ((selT (inR_true h0 hlt)).trans ?_)
          rw [e1', w1]
          exact (selT rfl).trans (selT (show (e != (0 : Int)) = true from by simpa using he))
        simp only [iterS, s1]
        exact in1 l i q hq ph dl n (k + 1) cy p tk lt D T H (by omega) (by omega) (by omega)
      · obtain ⟨l0, l1, l2⟩ := hL
        have hl1 := l1 rfl
        have em : Int.tmod D ph = p := by rw [hD]; exact dm_mod x5 x7 x8
        have c3 : ((List.getD q (Int.toNat k) (0 : Int)) != Int.tmod D ph) = false := by rw [em]; exact bnf hqp
        rcases hcase with ⟨hlast, e1⟩ | ⟨hlast, hcy, e1⟩
        · have e1' : op_36 [Dat.n (List.getD q (Int.toNat k) (0 : Int)), Dat.n ph, Dat.n dl, Dat.n cy, Dat.n p, Dat.n tk, Dat.b false] = some (0, [.n 0, .n ph, .n dl, .n cy, .n (p + 1), .n tk, .b false]) := e1
          have c4 : Int.tmod (D + 1) ph = p + 1 := by rw [hD, Int.add_assoc]; exact dm_mod x5 (by omega) (by omega)
          have s1 : (fn_L9_25 (.k 1 :: .l TCall19 l :: .n ph :: .n dl :: .n D :: .n T :: .n i :: .n k :: (exD ph dl cy p tk false ++ [.l (.int .i64) q]))).sel = some (.go (.k 1 :: .l TCall19 l :: .n ph :: .n dl :: .n (D + 1) :: .n T :: .n i :: .n (k + 1) :: (exD ph dl cy (p + 1) tk false ++ [.l (.int .i64) q]))) := by
            refine (selT (dt hlt)).trans ((selT (inR_true h0 hlt)).trans ?_)
            rw [e1', w1, w2]
            exact (selT rfl).trans ((selF rfl).trans ((selF rfl).trans ((selF (df (by omega))).trans ((selT (nf (df (by omega)))).trans ((selF c3).trans (selF (bf (by rw [c4]; omega))))))))
          simp only [iterS, s1]
          exact in1 l i q hq ph dl n (k + 1) cy (p + 1) tk false (D + 1) T ⟨by unfold Ex; simp; omega, by omega, l0, fun _ => hl1, fun h => by cases h⟩ (by omega) (by omega) (by omega)
        · have e1' : op_36 [Dat.n (List.getD q (Int.toNat k) (0 : Int)), Dat.n ph, Dat.n dl, Dat.n cy, Dat.n p, Dat.n tk, Dat.b false] = some (0, [.n 0, .n ph, .n dl, .n (cy + 1), .n 0, .n 0, .b false]) := e1
          have c5 : D + 1 = ph * (cy + 1) + 0 := by rw [hD, Int.mul_add]; omega
          have c4 : Int.tmod (D + 1) ph = 0 := by rw [c5]; exact dm_mod (by omega) (by omega) (by omega)
          have s1 : (fn_L9_25 (.k 1 :: .l TCall19 l :: .n ph :: .n dl :: .n D :: .n T :: .n i :: .n k :: (exD ph dl cy p tk false ++ [.l (.int .i64) q]))).sel = some (.go (.k 1 :: .l TCall19 l :: .n ph :: .n dl :: .n (D + 1) :: .n 0 :: .n i :: .n (k + 1) :: (exD ph dl (cy + 1) 0 0 false ++ [.l (.int .i64) q]))) := by
            refine (selT (dt hlt)).trans ((selT (inR_true h0 hlt)).trans ?_)
            rw [e1', w1, w2]
            exact (selT rfl).trans ((selF rfl).trans ((selF rfl).trans ((selF (df (by omega))).trans ((selT (nf (df (by omega)))).trans ((selF c3).trans (selT (bt c4)))))))
          simp only [iterS, s1]
          obtain ⟨cy', p', tk', lt', D', T', g1, g2, g3⟩ := in1 l i q hq ph dl n (k + 1) (cy + 1) 0 0 false (D + 1) 0 ⟨by unfold Ex; simp; omega, c5, by omega, fun _ => ⟨rfl, by omega⟩, fun h => by cases h⟩ (by omega) (by omega) (by omega)
          exact ⟨cy', p', tk', lt', D', T', g1, g2, by omega⟩
    · have s1 : (fn_L9_25 (.k 1 :: .l TCall19 l :: .n ph :: .n dl :: .n D :: .n T :: .n i :: .n k :: (exD ph dl cy p tk lt ++ [.l (.int .i64) q]))).sel = some (.stop 0 (.l TCall19 l :: .n ph :: .n dl :: .n D :: .n T :: .n i :: exD ph dl cy p tk lt)) := selF (df hlt)
      simp only [iterS, s1]
      exact ⟨cy, p, tk, lt, D, T, rfl, H, Int.le_refl _⟩

theorem d33 {ph dl cy p tk : Int} {lt : Bool} {T : Int} (h : Ex ph dl cy p tk lt) (hL : Lk dl tk T lt) : ∃ (e tk' : Int) (lt' : Bool), op_33 (exD ph dl cy p tk lt) = some (0, .n e :: exD ph dl cy p tk' lt') ∧ Ex ph dl cy p tk' lt' ∧ Lk dl tk' (T + 1) lt' := by
  obtain ⟨h1, h2, h3, h4, h5, h6, h7, h8, h9, h10, h11⟩ := h
  have hw : IntKind.wrap .i64 (tk + 1) = tk + 1 := w64 (by omega) (by omega)
  obtain ⟨l0, l1, l2⟩ := hL
  cases lt with
  | true =>
    have := l2 rfl
    exact ⟨190, tk, true, rfl, by unfold Ex; simp; omega, by omega, (fun h => by cases h), fun _ => by omega⟩
  | false =>
    have := h11 rfl
    have := l1 rfl
    by_cases hd : IntKind.wrap .i64 (tk + 1) > dl
    · exact ⟨190, IntKind.wrap .i64 (tk + 1), true, selT (dt hd), by unfold Ex; rw [hw]; simp; omega, by omega, (fun h => by cases h), fun _ => by rw [hw] at hd; omega⟩
    · exact ⟨0, IntKind.wrap .i64 (tk + 1), false, selF (df hd), by unfold Ex; rw [hw] at hd ⊢; simp; omega, by omega, fun _ => by rw [hw] at hd ⊢; omega, fun h => by cases h⟩
theorem emp (l : List (Ty.den TCall19)) (i ph dl cy p tk D T : Int) (lt : Bool) : op_L9_25 (.k 1 :: .l TCall19 l :: .n ph :: .n dl :: .n D :: .n T :: .n i :: .n 0 :: (exD ph dl cy p tk lt ++ [.l (.int .i64) ([] : List (Ty.den (.int .i64)))])) = some (0, .l TCall19 l :: .n ph :: .n dl :: .n D :: .n T :: .n i :: exD ph dl cy p tk lt) := by
  show iterS fn_L9_25 (18446744073709551615 + 1) _ = _
  have s1 : (fn_L9_25 (.k 1 :: .l TCall19 l :: .n ph :: .n dl :: .n D :: .n T :: .n i :: .n 0 :: (exD ph dl cy p tk lt ++ [.l (.int .i64) ([] : List (Ty.den (.int .i64)))]))).sel = some (.stop 0 (.l TCall19 l :: .n ph :: .n dl :: .n D :: .n T :: .n i :: exD ph dl cy p tk lt)) := selF (df (by simp))
  simp only [iterS, s1]
theorem ltd {lt : Bool} {dl tk T : Int} (h : Lk dl tk T lt) : (lt == decide (T > dl)) = true := by
  obtain ⟨_, h1, h2⟩ := h
  cases lt with
  | true => rw [dt (h2 rfl)]; rfl
  | false => rw [df (show ¬ T > dl by have := (h1 rfl).2; omega)]; rfl

theorem t9L (l : List (Ty.den TCall19)) (hl : l.length ≤ 9223372036854775807) (hw : ∀ c ∈ l, (c.2.2 : List (Ty.den (.int .i64))).length ≤ 9223372036854775807) (ph dl : Int) : ∀ (n : Nat) (i cy p tk : Int) (lt : Bool) (D T : Int), InX ph dl cy p tk lt D T → T ≤ i → 0 ≤ i → i ≤ l.length → (l.length : Int) - i < n →
    iterS fn_L9_9 n (.k 0 :: .l TCall19 l :: .n ph :: .n dl :: .n D :: .n T :: .n i :: exD ph dl cy p tk lt) = some (0, [])
  | 0, i, cy, p, tk, lt, D, T, h, hT, h0, h1, hn => by omega
  | n + 1, i, cy, p, tk, lt, D, T, h, hT, h0, h1, hn => by
    by_cases hlt : i < (l.length : Int)
    · have w1 : IntKind.wrap .i64 (i + 1) = i + 1 := w64 (by omega) (by omega)
      have H := h
      obtain ⟨hE, hD, hL⟩ := h
      have hEx := hE
      obtain ⟨x1, x2, x3, x4, x5, x6, x7, x8, x9, x10, x11⟩ := hE
      have hp := prod_in x1 x2 x5 x6
      have l0 := hL.1
      have wT : IntKind.wrap .i64 (T + 1) = T + 1 := w64 (by omega) (by omega)
      by_cases k0 : Int.tmod (Prod.fst (List.getD l (Int.toNat i) (Ty.dflt (Ty.pair (Ty.int IntKind.u8) (Ty.pair (Ty.int IntKind.i64) (Ty.sl (Ty.int IntKind.i64))))))) 6 = 0
      · skip
        obtain ⟨e, tk', lt', e1, q1, q2⟩ := d33 hEx hL
        have e1' : op_33 [.n ph, .n dl, .n cy, .n p, .n tk, .b lt] = some (0, [.n e, .n ph, .n dl, .n cy, .n p, .n tk', .b lt']) := e1
        have g2 : InX ph dl cy p tk' lt' D (IntKind.wrap .i64 (T + 1)) := by rw [wT]; exact ⟨q1, hD, q2⟩
        have g1 := emp l i ph dl cy p tk' D (IntKind.wrap .i64 (T + 1)) lt'
        obtain ⟨hE2, hD2, hL2⟩ := g2
        have hE3 := hE2
        obtain ⟨y1, y2, y3, y4, y5, y6, y7, y8, y9, y10, y11⟩ := hE2
        have hne : ¬ ph = 0 := by omega
        have hdiv : cy = IntKind.wrap .i64 (Int.tdiv D ph) := by rw [hD2, dm_div y5 y7 y8, w64 (by omega) (by omega)]
        have hmod : p = Int.tmod D ph := by rw [hD2, dm_mod y5 y7 y8]
        have hlk := ltd hL2
        have s1 : (fn_L9_9 (.k 0 :: .l TCall19 l :: .n ph :: .n dl :: .n D :: .n T :: .n i :: exD ph dl cy p tk lt)).sel = some (.go (.k 0 :: .l TCall19 l :: .n ph :: .n dl :: .n D :: .n (IntKind.wrap .i64 (T + 1)) :: .n (i + 1) :: exD ph dl cy p tk' lt')) := by
          refine (selT (dt hlt)).trans ((selT (inR_true h0 hlt)).trans ((selT (bt k0)).trans (?_)))
          rw [e1']
          refine (selT rfl).trans (((selT ((congrArg (fun r => !decide (gn (dOf r) 1 = 0)) g1).trans (nf (df hne)))).trans ((selF ((congrArg (fun r => gn (dOf r) 8 != IntKind.wrap .i64 (Int.tdiv (gn (dOf r) 3) (gn (dOf r) 1))) g1).trans (bnf hdiv))).trans ((selF ((congrArg (fun r => gn (dOf r) 9 != Int.tmod (gn (dOf r) 3) (gn (dOf r) 1)) g1).trans (bnf hmod))).trans ((selF ((congrArg (fun r => !(gb (dOf r) 11 == decide (gn (dOf r) 4 > gn (dOf r) 2))) g1).trans (nt hlk))).trans ?_)))))
          refine (congrArg (fun r => some (Step.go [.k 0, .l TCall19 (gl TCall19 (dOf r) 0), .n (gn (dOf r) 1), .n (gn (dOf r) 2), .n (gn (dOf r) 3), .n (gn (dOf r) 4), .n (IntKind.wrap .i64 (gn (dOf r) 5 + 1)), .n (gn (dOf r) 6), .n (gn (dOf r) 7), .n (gn (dOf r) 8), .n (gn (dOf r) 9), .n (gn (dOf r) 10), .b (gb (dOf r) 11)])) g1).trans ?_
          show some (Step.go (.k 0 :: .l TCall19 l :: .n ph :: .n dl :: .n D :: .n (IntKind.wrap .i64 (T + 1)) :: .n (IntKind.wrap .i64 (i + 1)) :: exD ph dl cy p tk' lt')) = _
          rw [w1]
        simp only [iterS, s1]
        exact t9L l hl hw ph dl n (i + 1) cy p tk' lt' D (IntKind.wrap .i64 (T + 1)) ⟨hE3, hD2, hL2⟩ (by omega) (by omega) (by omega) (by omega)
      by_cases k1 : Int.tmod (Prod.fst (List.getD l (Int.toNat i) (Ty.dflt (Ty.pair (Ty.int IntKind.u8) (Ty.pair (Ty.int IntKind.i64) (Ty.sl (Ty.int IntKind.i64))))))) 6 = 1
      · skip
        obtain ⟨e, tk', lt', e1, q1, q2⟩ := d33 hEx hL
        have e1' : op_33 [.n ph, .n dl, .n cy, .n p, .n tk, .b lt] = some (0, [.n e, .n ph, .n dl, .n cy, .n p, .n tk', .b lt']) := e1
        have g2 : InX ph dl cy p tk' lt' D (IntKind.wrap .i64 (T + 1)) := by rw [wT]; exact ⟨q1, hD, q2⟩
        have g1 := emp l i ph dl cy p tk' D (IntKind.wrap .i64 (T + 1)) lt'
        obtain ⟨hE2, hD2, hL2⟩ := g2
        have hE3 := hE2
        obtain ⟨y1, y2, y3, y4, y5, y6, y7, y8, y9, y10, y11⟩ := hE2
        have hne : ¬ ph = 0 := by omega
        have hdiv : cy = IntKind.wrap .i64 (Int.tdiv D ph) := by rw [hD2, dm_div y5 y7 y8, w64 (by omega) (by omega)]
        have hmod : p = Int.tmod D ph := by rw [hD2, dm_mod y5 y7 y8]
        have hlk := ltd hL2
        have s1 : (fn_L9_9 (.k 0 :: .l TCall19 l :: .n ph :: .n dl :: .n D :: .n T :: .n i :: exD ph dl cy p tk lt)).sel = some (.go (.k 0 :: .l TCall19 l :: .n ph :: .n dl :: .n D :: .n (IntKind.wrap .i64 (T + 1)) :: .n (i + 1) :: exD ph dl cy p tk' lt')) := by
          refine (selT (dt hlt)).trans ((selT (inR_true h0 hlt)).trans ((selF (bf k0)).trans ((selT (bt k1)).trans (?_))))
          rw [e1']
          refine (selT rfl).trans (((selT ((congrArg (fun r => !decide (gn (dOf r) 1 = 0)) g1).trans (nf (df hne)))).trans ((selF ((congrArg (fun r => gn (dOf r) 8 != IntKind.wrap .i64 (Int.tdiv (gn (dOf r) 3) (gn (dOf r) 1))) g1).trans (bnf hdiv))).trans ((selF ((congrArg (fun r => gn (dOf r) 9 != Int.tmod (gn (dOf r) 3) (gn (dOf r) 1)) g1).trans (bnf hmod))).trans ((selF ((congrArg (fun r => !(gb (dOf r) 11 == decide (gn (dOf r) 4 > gn (dOf r) 2))) g1).trans (nt hlk))).trans ?_)))))
          refine (congrArg (fun r => some (Step.go [.k 0, .l TCall19 (gl TCall19 (dOf r) 0), .n (gn (dOf r) 1), .n (gn (dOf r) 2), .n (gn (dOf r) 3), .n (gn (dOf r) 4), .n (IntKind.wrap .i64 (gn (dOf r) 5 + 1)), .n (gn (dOf r) 6), .n (gn (dOf r) 7), .n (gn (dOf r) 8), .n (gn (dOf r) 9), .n (gn (dOf r) 10), .b (gb (dOf r) 11)])) g1).trans ?_
          show some (Step.go (.k 0 :: .l TCall19 l :: .n ph :: .n dl :: .n D :: .n (IntKind.wrap .i64 (T + 1)) :: .n (IntKind.wrap .i64 (i + 1)) :: exD ph dl cy p tk' lt')) = _
          rw [w1]
        simp only [iterS, s1]
        exact t9L l hl hw ph dl n (i + 1) cy p tk' lt' D (IntKind.wrap .i64 (T + 1)) ⟨hE3, hD2, hL2⟩ (by omega) (by omega) (by omega) (by omega)
      by_cases k5 : Int.tmod (Prod.fst (List.getD l (Int.toNat i) (Ty.dflt (Ty.pair (Ty.int IntKind.u8) (Ty.pair (Ty.int IntKind.i64) (Ty.sl (Ty.int IntKind.i64))))))) 6 = 5
      · cases lt with
        | true =>
          have e1' : op_34 [Dat.n ph, Dat.n dl, Dat.n cy, Dat.n p, Dat.n tk, Dat.b true] = some (0, [.n 0, .n ph, .n dl, .n cy, .n 0, .n 0, .b false]) := rfl
          have hm : Int.tmod D ph = p := by rw [hD]; exact dm_mod x5 x7 x8
          have wD : IntKind.wrap .i64 (D - Int.tmod D ph) = ph * cy + 0 := by rw [hm, w64 (by omega) (by omega)]; omega
          have g2 : InX ph dl cy 0 0 false (IntKind.wrap .i64 (D - Int.tmod D ph)) 0 := by rw [wD]; exact ⟨by unfold Ex; simp; omega, rfl, by omega, (fun _ => ⟨rfl, by omega⟩), fun h => by cases h⟩
          have g1 := emp l i ph dl cy 0 0 (IntKind.wrap .i64 (D - Int.tmod D ph)) 0 false
          obtain ⟨hE2, hD2, hL2⟩ := g2
          have hE3 := hE2
          obtain ⟨y1, y2, y3, y4, y5, y6, y7, y8, y9, y10, y11⟩ := hE2
          have hne : ¬ ph = 0 := by omega
          have hdiv : cy = IntKind.wrap .i64 (Int.tdiv (IntKind.wrap .i64 (D - Int.tmod D ph)) ph) := by rw [hD2, dm_div y5 y7 y8, w64 (by omega) (by omega)]
          have hmod : 0 = Int.tmod (IntKind.wrap .i64 (D - Int.tmod D ph)) ph := by rw [hD2, dm_mod y5 y7 y8]
          have hlk := ltd hL2
          have s1 : (fn_L9_9 (.k 0 :: .l TCall19 l :: .n ph :: .n dl :: .n D :: .n T :: .n i :: exD ph dl cy p tk true)).sel = some (.go (.k 0 :: .l TCall19 l :: .n ph :: .n dl :: .n (IntKind.wrap .i64 (D - Int.tmod D ph)) :: .n 0 :: .n (i + 1) :: exD ph dl cy 0 0 false)) := by
            refine (selT (dt hlt)).trans ((selT (inR_true h0 hlt)).trans ((selF (bf k0)).trans ((selF (bf k1)).trans ((selT (bt k5)).trans (?_)))))
            rw [e1']
            refine (selT rfl).trans ((selT rfl).trans ((selT (nf (df (show ¬ ph = 0 by omega)))).trans (((selT ((congrArg (fun r => !decide (gn (dOf r) 1 = 0)) g1).trans (nf (df hne)))).trans ((selF ((congrArg (fun r => gn (dOf r) 8 != IntKind.wrap .i64 (Int.tdiv (gn (dOf r) 3) (gn (dOf r) 1))) g1).trans (bnf hdiv))).trans ((selF ((congrArg (fun r => gn (dOf r) 9 != Int.tmod (gn (dOf r) 3) (gn (dOf r) 1)) g1).trans (bnf hmod))).trans ((selF ((congrArg (fun r => !(gb (dOf r) 11 == decide (0 > gn (dOf r) 2))) g1).trans (nt hlk))).trans ?_)))))))
            refine (congrArg (fun r => some (Step.go [.k 0, .l TCall19 (gl TCall19 (dOf r) 0), .n (gn (dOf r) 1), .n (gn (dOf r) 2), .n (gn (dOf r) 3), .n (0), .n (IntKind.wrap .i64 (gn (dOf r) 5 + 1)), .n (gn (dOf r) 6), .n (gn (dOf r) 7), .n (gn (dOf r) 8), .n (gn (dOf r) 9), .n (gn (dOf r) 10), .b (gb (dOf r) 11)])) g1).trans ?_
            show some (Step.go (.k 0 :: .l TCall19 l :: .n ph :: .n dl :: .n (IntKind.wrap .i64 (D - Int.tmod D ph)) :: .n 0 :: .n (IntKind.wrap .i64 (i + 1)) :: exD ph dl cy 0 0 false)) = _
            rw [w1]
          simp only [iterS, s1]
          exact t9L l hl hw ph dl n (i + 1) cy 0 0 false (IntKind.wrap .i64 (D - Int.tmod D ph)) 0 ⟨hE3, hD2, hL2⟩ (by omega) (by omega) (by omega) (by omega)
        | false =>
          have e1' : op_34 [Dat.n ph, Dat.n dl, Dat.n cy, Dat.n p, Dat.n tk, Dat.b false] = some (0, [.n 4, .n ph, .n dl, .n cy, .n p, .n tk, .b false]) := rfl
          have g2 := H
          have g1 := emp l i ph dl cy p tk D T false
          obtain ⟨hE2, hD2, hL2⟩ := g2
          have hE3 := hE2
          obtain ⟨y1, y2, y3, y4, y5, y6, y7, y8, y9, y10, y11⟩ := hE2
          have hne : ¬ ph = 0 := by omega
          have hdiv : cy = IntKind.wrap .i64 (Int.tdiv D ph) := by rw [hD2, dm_div y5 y7 y8, w64 (by omega) (by omega)]
          have hmod : p = Int.tmod D ph := by rw [hD2, dm_mod y5 y7 y8]
          have hlk := ltd hL2
          have s1 : (fn_L9_9 (.k 0 :: .l TCall19 l :: .n ph :: .n dl :: .n D :: .n T :: .n i :: exD ph dl cy p tk false)).sel = some (.go (.k 0 :: .l TCall19 l :: .n ph :: .n dl :: .n D :: .n T :: .n (i + 1) :: exD ph dl cy p tk false)) := by
            refine (selT (dt hlt)).trans ((selT (inR_true h0 hlt)).trans ((selF (bf k0)).trans ((selF (bf k1)).trans ((selT (bt k5)).trans (?_)))))
            rw [e1']
            refine (selT rfl).trans ((selF rfl).trans (((selT ((congrArg (fun r => !decide (gn (dOf r) 1 = 0)) g1).trans (nf (df hne)))).trans ((selF ((congrArg (fun r => gn (dOf r) 8 != IntKind.wrap .i64 (Int.tdiv (gn (dOf r) 3) (gn (dOf r) 1))) g1).trans (bnf hdiv))).trans ((selF ((congrArg (fun r => gn (dOf r) 9 != Int.tmod (gn (dOf r) 3) (gn (dOf r) 1)) g1).trans (bnf hmod))).trans ((selF ((congrArg (fun r => !(gb (dOf r) 11 == decide (gn (dOf r) 4 > gn (dOf r) 2))) g1).trans (nt hlk))).trans ?_))))))
            refine (congrArg (fun r => some (Step.go [.k 0, .l TCall19 (gl TCall19 (dOf r) 0), .n (gn (dOf r) 1), .n (gn (dOf r) 2), .n (gn (dOf r) 3), .n (gn (dOf r) 4), .n (IntKind.wrap .i64 (gn (dOf r) 5 + 1)), .n (gn (dOf r) 6), .n (gn (dOf r) 7), .n (gn (dOf r) 8), .n (gn (dOf r) 9), .n (gn (dOf r) 10), .b (gb (dOf r) 11)])) g1).trans ?_
            show some (Step.go (.k 0 :: .l TCall19 l :: .n ph :: .n dl :: .n D :: .n T :: .n (IntKind.wrap .i64 (i + 1)) :: exD ph dl cy p tk false)) = _
            rw [w1]
          simp only [iterS, s1]
          exact t9L l hl hw ph dl n (i + 1) cy p tk false D T ⟨hE3, hD2, hL2⟩ (by omega) (by omega) (by omega) (by omega)
      by_cases k4 : Int.tmod (Prod.fst (List.getD l (Int.toNat i) (Ty.dflt (Ty.pair (Ty.int IntKind.u8) (Ty.pair (Ty.int IntKind.i64) (Ty.sl (Ty.int IntKind.i64))))))) 6 = 4
      · have hq : (Prod.snd (Prod.snd (List.getD l (Int.toNat i) (Ty.dflt (Ty.pair (Ty.int IntKind.u8) (Ty.pair (Ty.int IntKind.i64) (Ty.sl (Ty.int IntKind.i64))))))) : List (Ty.den (.int .i64))).length ≤ 9223372036854775807 := hw _ (getD_mem (by omega))
        obtain ⟨cy', p', tk', lt', D', T', g1, g2, g3⟩ := in0 l i (Prod.snd (Prod.snd (List.getD l (Int.toNat i) (Ty.dflt (Ty.pair (Ty.int IntKind.u8) (Ty.pair (Ty.int IntKind.i64) (Ty.sl (Ty.int IntKind.i64)))))))) hq ph dl FU 0 cy p tk lt D T H (by omega) (by omega) (by unfold FU; omega)
        have g1 := g1
        obtain ⟨hE2, hD2, hL2⟩ := g2
        have hE3 := hE2
        obtain ⟨y1, y2, y3, y4, y5, y6, y7, y8, y9, y10, y11⟩ := hE2
        have hne : ¬ ph = 0 := by omega
        have hdiv : cy' = IntKind.wrap .i64 (Int.tdiv D' ph) := by rw [hD2, dm_div y5 y7 y8, w64 (by omega) (by omega)]
        have hmod : p' = Int.tmod D' ph := by rw [hD2, dm_mod y5 y7 y8]
        have hlk := ltd hL2
        have s1 : (fn_L9_9 (.k 0 :: .l TCall19 l :: .n ph :: .n dl :: .n D :: .n T :: .n i :: exD ph dl cy p tk lt)).sel = some (.go (.k 0 :: .l TCall19 l :: .n ph :: .n dl :: .n D' :: .n T' :: .n (i + 1) :: exD ph dl cy' p' tk' lt')) := by
          refine (selT (dt hlt)).trans ((selT (inR_true h0 hlt)).trans ((selF (bf k0)).trans ((selF (bf k1)).trans ((selF (bf k5)).trans ((selT (bt k4)).trans ((selT (congrArg (isK 0 [HK.l (Ty.pair (Ty.int IntKind.u8) (Ty.pair (Ty.int IntKind.i64) (Ty.sl (Ty.int IntKind.i64)))), HK.n, HK.n, HK.n, HK.n, HK.n, HK.n, HK.n, HK.n, HK.n, HK.n, HK.b]) g1)).trans ((selT ((congrArg (fun r => !decide (gn (dOf r) 1 = 0)) g1).trans (nf (df hne)))).trans ((selF ((congrArg (fun r => gn (dOf r) 8 != IntKind.wrap .i64 (Int.tdiv (gn (dOf r) 3) (gn (dOf r) 1))) g1).trans (bnf hdiv))).trans ((selF ((congrArg (fun r => gn (dOf r) 9 != Int.tmod (gn (dOf r) 3) (gn (dOf r) 1)) g1).trans (bnf hmod))).trans ((selF ((congrArg (fun r => !(gb (dOf r) 11 == decide (gn (dOf r) 4 > gn (dOf r) 2))) g1).trans (nt hlk))).trans ?_))))))))))
          refine (congrArg (fun r => some (Step.go [.k 0, .l TCall19 (gl TCall19 (dOf r) 0), .n (gn (dOf r) 1), .n (gn (dOf r) 2), .n (gn (dOf r) 3), .n (gn (dOf r) 4), .n (IntKind.wrap .i64 (gn (dOf r) 5 + 1)), .n (gn (dOf r) 6), .n (gn (dOf r) 7), .n (gn (dOf r) 8), .n (gn (dOf r) 9), .n (gn (dOf r) 10), .b (gb (dOf r) 11)])) g1).trans ?_
          show some (Step.go (.k 0 :: .l TCall19 l :: .n ph :: .n dl :: .n D' :: .n T' :: .n (IntKind.wrap .i64 (i + 1)) :: exD ph dl cy' p' tk' lt')) = _
          rw [w1]
        simp only [iterS, s1]
        exact t9L l hl hw ph dl n (i + 1) cy' p' tk' lt' D' T' ⟨hE3, hD2, hL2⟩ (by omega) (by omega) (by omega) (by omega)
      obtain ⟨cy', p', tk', lt', D', T', g1, g2, g3⟩ := in1 l i (List.set (List.replicate 1 (0 : Int)) 0 (Prod.fst (Prod.snd (List.getD l (Int.toNat i) (Ty.dflt (Ty.pair (Ty.int IntKind.u8) (Ty.pair (Ty.int IntKind.i64) (Ty.sl (Ty.int IntKind.i64))))))))) (by show (1 : Nat) ≤ _; omega) ph dl FU 0 cy p tk lt D T H (by omega) (by simp) (by show ((1 : Nat) : Int) - 0 < _; unfold FU; omega)
      have g1 := g1
      obtain ⟨hE2, hD2, hL2⟩ := g2
      have hE3 := hE2
      obtain ⟨y1, y2, y3, y4, y5, y6, y7, y8, y9, y10, y11⟩ := hE2
      have hne : ¬ ph = 0 := by omega
      have hdiv : cy' = IntKind.wrap .i64 (Int.tdiv D' ph) := by rw [hD2, dm_div y5 y7 y8, w64 (by omega) (by omega)]
      have hmod : p' = Int.tmod D' ph := by rw [hD2, dm_mod y5 y7 y8]
      have hlk := ltd hL2
      have s1 : (fn_L9_9 (.k 0 :: .l TCall19 l :: .n ph :: .n dl :: .n D :: .n T :: .n i :: exD ph dl cy p tk lt)).sel = some (.go (.k 0 :: .l TCall19 l :: .n ph :: .n dl :: .n D' :: .n T' :: .n (i + 1) :: exD ph dl cy' p' tk' lt')) := by
        refine (selT (dt hlt)).trans ((selT (inR_true h0 hlt)).trans ((selF (bf k0)).trans ((selF (bf k1)).trans ((selF (bf k5)).trans ((selF (bf k4)).trans ((selT (congrArg (isK 0 [HK.l (Ty.pair (Ty.int IntKind.u8) (Ty.pair (Ty.int IntKind.i64) (Ty.sl (Ty.int IntKind.i64)))), HK.n, HK.n, HK.n, HK.n, HK.n, HK.n, HK.n, HK.n, HK.n, HK.n, HK.b]) g1)).trans ((selT ((congrArg (fun r => !decide (gn (dOf r) 1 = 0)) g1).trans (nf (df hne)))).trans ((selF ((congrArg (fun r => gn (dOf r) 8 != IntKind.wrap .i64 (Int.tdiv (gn (dOf r) 3) (gn (dOf r) 1))) g1).trans (bnf hdiv))).trans ((selF ((congrArg (fun r => gn (dOf r) 9 != Int.tmod (gn (dOf r) 3) (gn (dOf r) 1)) g1).trans (bnf hmod))).trans ((selF ((congrArg (fun r => !(gb (dOf r) 11 == decide (gn (dOf r) 4 > gn (dOf r) 2))) g1).trans (nt hlk))).trans ?_))))))))))
        refine (congrArg (fun r => some (Step.go [.k 0, .l TCall19 (gl TCall19 (dOf r) 0), .n (gn (dOf r) 1), .n (gn (dOf r) 2), .n (gn (dOf r) 3), .n (gn (dOf r) 4), .n (IntKind.wrap .i64 (gn (dOf r) 5 + 1)), .n (gn (dOf r) 6), .n (gn (dOf r) 7), .n (gn (dOf r) 8), .n (gn (dOf r) 9), .n (gn (dOf r) 10), .b (gb (dOf r) 11)])) g1).trans ?_
        show some (Step.go (.k 0 :: .l TCall19 l :: .n ph :: .n dl :: .n D' :: .n T' :: .n (IntKind.wrap .i64 (i + 1)) :: exD ph dl cy' p' tk' lt')) = _
        rw [w1]
      simp only [iterS, s1]
      exact t9L l hl hw ph dl n (i + 1) cy' p' tk' lt' D' T' ⟨hE3, hD2, hL2⟩ (by omega) (by omega) (by omega) (by omega)
    · have s1 : (fn_L9_9 (.k 0 :: .l TCall19 l :: .n ph :: .n dl :: .n D :: .n T :: .n i :: exD ph dl cy p tk lt)).sel = some (.stop 0 []) := selF (df hlt)
      simp only [iterS, s1]
theorem t9 (a b : Int) (ha : 0 ≤ a ∧ a ≤ 255) (hb : 0 ≤ b ∧ b ≤ 255) (l : List (Ty.den TCall19)) (hl : l.length ≤ 9223372036854775807) (hw : ∀ c ∈ l, (c.2.2 : List (Ty.den (.int .i64))).length ≤ 9223372036854775807) : (fn_W9 [.n a, .n b, .l TCall19 l]).sel = some true := by
  obtain ⟨r, e⟩ := t27 l hl
  refine (selT (congrArg (isK 0 [HK.b]) e)).trans ?_
  have eb : gb (dOf (op_27 [.l TCall19 l])) 0 = r := congrArg (fun r => gb (dOf r) 0) e
  cases r with
  | false => exact selT (nf eb)
  | true =>
    refine (selF (nt eb)).trans ?_
    have hm := tmod_in (i := a) (n := 16) (by omega)
    have hm0 : 0 ≤ Int.tmod a 16 := Int.tmod_nonneg 16 ha.1
    have u1 : IntKind.wrap .i64 (1 + IntKind.wrap .i64 (Int.tmod a 16)) = 1 + Int.tmod a 16 := by rw [w64 (x := Int.tmod a 16) (by omega) (by omega)]; exact w64 (by omega) (by omega)
    have u2 : IntKind.wrap .i64 (1 + IntKind.wrap .i64 b) = 1 + b := by rw [w64 (x := b) (by omega) (by omega)]; exact w64 (by omega) (by omega)
    have k := t9L l hl hw (1 + Int.tmod a 16) (1 + b) FU 0 0 0 0 false 0 0 ⟨by unfold Ex; simp; omega, by omega, by omega, fun _ => ⟨rfl, by omega⟩, fun h => by cases h⟩ (by omega) (by omega) (by omega) (by unfold FU; omega)
    rw [u1, u2]
    refine (selF (df (by omega))).trans ((selF (df (by omega))).trans ((selF (df (by omega))).trans ((selF (df (by omega))).trans ?_)))
    exact (selT (congrArg (isK 0 []) k)).trans rfl
end Go.Proofs.Ytchedebomjmehaa.Vx
