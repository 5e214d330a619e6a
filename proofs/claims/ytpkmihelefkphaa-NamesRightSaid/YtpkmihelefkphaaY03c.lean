import Derived.Test.YtpkmihelefkphaaY03b
import Derived.Test.YtpkmihelefkphaaX03
import Derived.Test.YtpkmihelefkphaaVxBits
import Derived.Test.YtpkmihelefkphaaVxAid
namespace Go.Proofs.Ytpkmihelefkphaa.Vx
open Go Go.RowKit
set_option linter.unusedVariables false
set_option linter.unusedSimpArgs false
set_option maxRecDepth 100000
set_option maxHeartbeats 1000000
theorem w1n (i : Nat) (h : i < 1000000) : IntKind.wrap .i64 ((i : Int) + 1) = ((i + 1 : Nat) : Int) := by rw [w64 (by omega) (by omega)]; rfl
theorem FUs : ∃ m, FU = m + 1 := ⟨FU - 1, by have : 0 < FU := by unfold FU; omega; 
                                             omega⟩
/-! ### Signs -/
theorem o10 (n : Int) : op_10 [.n n] = some (0, [.b (sgn n)]) := by
  rw [op_10_eq]
  refine fn_10_t_im _ _ ?_
  unfold fn_10_t
  by_cases h1 : n = 58
  · exact sel_t (bt h1) (by subst h1; rfl)
  refine sel_f (bf h1) ?_
  by_cases h2 : n = 35
  · exact sel_t (bt h2) (by subst h2; rfl)
  refine sel_f (bf h2) ?_
  by_cases h3 : n = 43
  · exact sel_t (bt h3) (by subst h3; rfl)
  refine sel_f (bf h3) ?_
  by_cases h4 : n = 45
  · exact sel_t (bt h4) (by subst h4; rfl)
  refine sel_f (bf h4) ?_
  by_cases h5 : n = 65533
  · exact sel_t (bt h5) (by subst h5; rfl)
  refine sel_f (bf h5) ?_
  have e : sgn n = (decide (n > 32) && (decide (n < 127) || decide (n > 160))) := by
    unfold sgn; rw [df h1, df h2, df h3, df h4, df h5]; simp
  by_cases h6 : n > 32
  · refine sel_t (dt h6) ?_
    by_cases h7 : n < 127
    · exact sel_t (dt h7) (by rw [e, dt h6, dt h7]; rfl)
    · exact sel_f (df h7) (by rw [e, dt h6, df h7]; rfl)
  · exact sel_f (df h6) (by rw [e, df h6]; rfl)
theorem nb {a b : Int} (h : a ≠ b) : (a != b) = true := by simpa using h
theorem nbf {a b : Int} (h : a = b) : (a != b) = false := by subst h; simp
theorem o11 (n : Int) : op_11 [.n n] = some (0, [.b (sgn n)]) := by
  rw [op_11_eq]
  refine fn_11_t_im _ _ ?_
  unfold fn_11_t
  by_cases h0 : n ≥ 33
  · refine sel_t (dt h0) ?_
    by_cases h1 : n = 58
    · exact sel_f (nbf h1) (by subst h1; rfl)
    refine sel_t (nb h1) ?_
    by_cases h2 : n = 35
    · exact sel_f (nbf h2) (by subst h2; rfl)
    refine sel_t (nb h2) ?_
    by_cases h3 : n = 43
    · exact sel_f (nbf h3) (by subst h3; rfl)
    refine sel_t (nb h3) ?_
    by_cases h4 : n = 45
    · exact sel_f (nbf h4) (by subst h4; rfl)
    refine sel_t (nb h4) ?_
    by_cases h5 : n = 65533
    · exact sel_f (nbf h5) (by subst h5; rfl)
    refine sel_t (nb h5) ?_
    have e : sgn n = (decide (n < 127) || decide (n > 160)) := by
      unfold sgn; rw [df h1, df h2, df h3, df h4, df h5, dt (show n > 32 by omega)]; simp
    by_cases h7 : n < 127
    · exact sel_t (dt h7) (by rw [e, dt h7]; rfl)
    · exact sel_f (df h7) (by rw [e, df h7]; rfl)
  · exact sel_f (df h0) (by unfold sgn; rw [df (show ¬ n > 32 by omega)]; rfl)
theorem W3_true (n : Int) : (ev_W3 [.n n]).sel = some true := by
  refine fn_W3_t_im _ _ ?_
  unfold fn_W3_t
  dsimp only
  rw [o10, o11]
  exact sel_t rfl (sel_t rfl (sel_t (by simp [dOf, gb]) rfl))

/-! ### Names -/
theorem drop_ne {l : Bs} {p : Nat} (h : p < l.length) : l.drop p ≠ [] := by
  intro e; have := congrArg List.length e; simp at this; omega
theorem size_lt {s : ByteArray} {p : Nat} : ((p : Int) < (s.size : Int)) ↔ p < (By s).length := by rw [By_len]; omega
def r13 (n : Nat) : Option Nat → Nat × List Dat
  | some k => if n + k ≤ 16 then (0, [.n ((n + k : Nat) : Int)]) else (1, [.b false])
  | none => (1, [.b false])
def r14 (n : Nat) : Option Nat → Nat × List Dat
  | some k => (0, [.n ((n + k : Nat) : Int)])
  | none => (1, [.b false])
theorem r13_up (n : Nat) (o : Option Nat) : r13 (n + 1) o = r13 n (o.map (· + 1)) := by
  cases o with
  | none => rfl
  | some k => simp only [r13, Option.map_some]; rw [show n + 1 + k = n + (k + 1) by omega]
theorem r13_no {n : Nat} (h : 16 < n + 1) (o : Option Nat) : r13 n (o.map (· + 1)) = (1, [.b false]) := by
  cases o with
  | none => rfl
  | some k => simp only [r13, Option.map_some]; rw [if_neg (by omega)]
theorem r14_up (n : Nat) (o : Option Nat) : r14 (n + 1) o = r14 n (o.map (· + 1)) := by
  cases o with
  | none => rfl
  | some k => simp only [r14, Option.map_some]; rw [show n + 1 + k = n + (k + 1) by omega]
theorem rcn0 (l : Bs) : rcn 0 l = some 0 := rfl
theorem lp13 (s : ByteArray) (hs : s.size ≤ 9000) : ∀ (f n p : Nat), n ≤ 16 → (By s).length ≤ p + f → iterS st_L13_3 (f + 1) [.k 0, .s s, .n (n : Int), .s s, .n (p : Int)] =
    some (r13 n (rcn f ((By s).drop p)))
  | 0, n, p, hn, hf => by
    have : (st_L13_3 [.k 0, .s s, .n (n : Int), .s s, .n (p : Int)]).sel = some (.stop 0 [.n (n : Int)]) := by
      refine fn_L13_3_t_im _ _ _ _ ?_
      unfold fn_L13_3_t
      exact sel_f (df (by rw [size_lt]; omega)) rfl
    rw [iter_stop this, rcn0, r13, if_pos (by omega)]; rfl
  | f + 1, n, p, hn, hf => by
    by_cases hp : p < (By s).length
    · have hne := drop_ne hp
      obtain ⟨k1, k2, k3, k4⟩ := dl_x (show 10 < 128 by omega) _ hne
      rw [rcn, if_neg hne]
      by_cases hb : n + 1 > 16
      · have : (st_L13_3 [.k 0, .s s, .n (n : Int), .s s, .n (p : Int)]).sel = some (.stop 1 [.b false]) := by
          refine fn_L13_3_t_im _ _ _ _ ?_
          unfold fn_L13_3_t
          exact sel_t (dt (size_lt.2 hp)) (sel_t (dt (by rw [w1n _ (by omega)]; omega)) rfl)
        rw [iter_stop this]
        split
        · rw [r13_no (by omega)]
        · rfl
      · by_cases hc : sgn (decC s (p : Int)) = true
        · have : (st_L13_3 [.k 0, .s s, .n (n : Int), .s s, .n (p : Int)]).sel = some (.go [.k 0, .s s, .n ((n + 1 : Nat) : Int), .s s, .n ((p + (Lib.decodeL ((By s).drop p)).2 : Nat) : Int)]) := by
            refine fn_L13_3_t_im _ _ _ _ ?_
            unfold fn_L13_3_t
            refine sel_t (dt (size_lt.2 hp)) (sel_f (df (by rw [w1n _ (by omega)]; omega)) ?_)
            dsimp only
            rw [o10]
            refine sel_t rfl (sel_f (show (!(sgn (decC s (p : Int)))) = false by rw [hc]; rfl) ?_)
            rw [w1n _ (by omega), decW_L]; rfl
          rw [iter_go this, lp13 s hs f (n + 1) (p + (Lib.decodeL ((By s).drop p)).2) (by omega) (by omega)]
          rw [← decC_L, if_pos hc, List.drop_drop, r13_up]
        · have hc : sgn (decC s (p : Int)) = false := by simpa using hc
          have : (st_L13_3 [.k 0, .s s, .n (n : Int), .s s, .n (p : Int)]).sel = some (.stop 1 [.b false]) := by
            refine fn_L13_3_t_im _ _ _ _ ?_
            unfold fn_L13_3_t
            refine sel_t (dt (size_lt.2 hp)) (sel_f (df (by rw [w1n _ (by omega)]; omega)) ?_)
            dsimp only
            rw [o10]
            exact sel_t rfl (sel_t (show (!(sgn (decC s (p : Int)))) = true by rw [hc]; rfl) rfl)
          rw [iter_stop this, ← decC_L, hc]; rfl
    · have : (st_L13_3 [.k 0, .s s, .n (n : Int), .s s, .n (p : Int)]).sel = some (.stop 0 [.n (n : Int)]) := by
        refine fn_L13_3_t_im _ _ _ _ ?_
        unfold fn_L13_3_t
        exact sel_f (df (by rw [size_lt]; exact hp)) rfl
      rw [iter_stop this, rcn, if_pos (List.drop_eq_nil_of_le (by omega)), r13, if_pos (by omega)]; rfl
theorem lp14 (s : ByteArray) (hs : s.size ≤ 9000) : ∀ (f n p : Nat), n ≤ p → (By s).length ≤ p + f → iterS st_L14_3 (f + 1) [.k 0, .s s, .n (n : Int), .s s, .n (p : Int)] =
    some (r14 n (rcn f ((By s).drop p)))
  | 0, n, p, hn, hf => by
    have : (st_L14_3 [.k 0, .s s, .n (n : Int), .s s, .n (p : Int)]).sel = some (.stop 0 [.n (n : Int)]) := by
      refine fn_L14_3_t_im _ _ _ _ ?_
      unfold fn_L14_3_t
      exact sel_f (df (by rw [size_lt]; omega)) rfl
    rw [iter_stop this, rcn0]; rfl
  | f + 1, n, p, hn, hf => by
    by_cases hp : p < (By s).length
    · have hne := drop_ne hp
      obtain ⟨k1, k2, k3, k4⟩ := dl_x (show 10 < 128 by omega) _ hne
      have hpl : p < 9000 := by rw [By_len] at hp; omega
      rw [rcn, if_neg hne]
      by_cases hc : sgn (decC s (p : Int)) = true
      · have : (st_L14_3 [.k 0, .s s, .n (n : Int), .s s, .n (p : Int)]).sel = some (.go [.k 0, .s s, .n ((n + 1 : Nat) : Int), .s s, .n ((p + (Lib.decodeL ((By s).drop p)).2 : Nat) : Int)]) := by
          refine fn_L14_3_t_im _ _ _ _ ?_
          unfold fn_L14_3_t
          refine sel_t (dt (size_lt.2 hp)) ?_
          dsimp only
          rw [o11]
          refine sel_t rfl (sel_f (show (!(sgn (decC s (p : Int)))) = false by rw [hc]; rfl) ?_)
          rw [w1n _ (by omega), decW_L]; rfl
        rw [iter_go this, lp14 s hs f (n + 1) (p + (Lib.decodeL ((By s).drop p)).2) (by omega) (by omega)]
        rw [← decC_L, if_pos hc, List.drop_drop, r14_up]
      · have hc : sgn (decC s (p : Int)) = false := by simpa using hc
        have : (st_L14_3 [.k 0, .s s, .n (n : Int), .s s, .n (p : Int)]).sel = some (.stop 1 [.b false]) := by
          refine fn_L14_3_t_im _ _ _ _ ?_
          unfold fn_L14_3_t
          refine sel_t (dt (size_lt.2 hp)) ?_
          dsimp only
          rw [o11]
          exact sel_t rfl (sel_t (show (!(sgn (decC s (p : Int)))) = true by rw [hc]; rfl) rfl)
        rw [iter_stop this, ← decC_L, hc]; rfl
    · have : (st_L14_3 [.k 0, .s s, .n (n : Int), .s s, .n (p : Int)]).sel = some (.stop 0 [.n (n : Int)]) := by
        refine fn_L14_3_t_im _ _ _ _ ?_
        unfold fn_L14_3_t
        exact sel_f (df (by rw [size_lt]; exact hp)) rfl
      rw [iter_stop this, rcn, if_pos (List.drop_eq_nil_of_le (by omega))]; rfl
/-- Is it a name? -/
def isNm (s : ByteArray) : Bool := match rcn (FU - 1) (By s) with
  | some k => decide (k ≤ 16) && decide (0 < k)
  | none => false
theorem FU1 : FU = (FU - 1) + 1 := by have : 0 < FU := by unfold FU; omega
                                      omega
theorem o13 (s : ByteArray) (hs : s.size ≤ 9000) : op_13 [.s s] = some (0, [.b (isNm s)]) := by
  have hl : op_L13_3 [.k 0, .s s, .n (0 : Int), .s s, .n (0 : Int)] = some (r13 0 (rcn (FU - 1) (By s))) := by
    rw [op_L13_3_eq, FU1]
    have := lp13 s hs (FU - 1) 0 0 (by omega) (by rw [By_len]; unfold FU; omega)
    rw [List.drop_zero] at this
    exact this
  rw [op_13_eq]
  refine fn_13_t_im _ _ ?_
  unfold fn_13_t isNm
  dsimp only
  rw [hl]
  cases rcn (FU - 1) (By s) with
  | none => exact sel_f rfl (sel_t rfl rfl)
  | some k =>
    show _ = some (0, [Dat.b (decide (k ≤ 16) && decide (0 < k))])
    by_cases h : 0 + k ≤ 16
    · have e : r13 0 (some k) = (0, [.n ((0 + k : Nat) : Int)]) := if_pos h
      rw [e, dt (show k ≤ 16 by omega)]
      refine sel_t rfl ?_
      have : decide (((0 + k : Nat) : Int) > 0) = decide (0 < k) := decide_eq_decide.2 (by omega)
      show some (0, [Dat.b (decide (((0 + k : Nat) : Int) > 0))]) = _
      rw [this]; rfl
    · have e : r13 0 (some k) = (1, [.b false]) := if_neg h
      rw [e, df (show ¬ k ≤ 16 by omega)]
      exact sel_f rfl (sel_t rfl rfl)
theorem o14 (s : ByteArray) (hs : s.size ≤ 9000) : op_14 [.s s] = some (0, [.b (isNm s)]) := by
  have hl : op_L14_3 [.k 0, .s s, .n (0 : Int), .s s, .n (0 : Int)] = some (r14 0 (rcn (FU - 1) (By s))) := by
    rw [op_L14_3_eq, FU1]
    have := lp14 s hs (FU - 1) 0 0 (by omega) (by rw [By_len]; unfold FU; omega)
    rw [List.drop_zero] at this
    exact this
  rw [op_14_eq]
  refine fn_14_t_im _ _ ?_
  unfold fn_14_t isNm
  dsimp only
  rw [hl]
  cases rcn (FU - 1) (By s) with
  | none => exact sel_f rfl (sel_t rfl rfl)
  | some k =>
    show _ = some (0, [Dat.b (decide (k ≤ 16) && decide (0 < k))])
    refine sel_t rfl ?_
    by_cases h : 0 < k
    · refine sel_t (dt (show ((0 + k : Nat) : Int) ≥ 1 by omega)) ?_
      have : decide (((0 + k : Nat) : Int) ≤ 16) = decide (k ≤ 16) := decide_eq_decide.2 (by omega)
      show some (0, [Dat.b (decide (((0 + k : Nat) : Int) ≤ 16))]) = _
      rw [this, dt h, Bool.and_true]
    · refine sel_f (df (show ¬ ((0 + k : Nat) : Int) ≥ 1 by omega)) ?_
      rw [df h, Bool.and_false]; rfl
theorem W4_true (s : ByteArray) : (ev_W4 [.s s]).sel = some true := by
  refine fn_W4_t_im _ _ ?_
  unfold fn_W4_t
  by_cases h : (s.size : Int) > 500
  · exact sel_t (dt h) rfl
  · refine sel_f (df h) ?_
    dsimp only
    rw [o13 s (by omega), o14 s (by omega)]
    exact sel_t rfl (sel_t rfl (sel_t (by simp [dOf, gb]) rfl))
end Go.Proofs.Ytpkmihelefkphaa.Vx
