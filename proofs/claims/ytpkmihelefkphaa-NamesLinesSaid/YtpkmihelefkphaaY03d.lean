import Derived.Test.YtpkmihelefkphaaY03c
namespace Go.Proofs.Ytpkmihelefkphaa.Vx
open Go Go.RowKit
set_option linter.unusedVariables false
set_option linter.unusedSimpArgs false
set_option maxRecDepth 100000
set_option maxHeartbeats 1000000
/-! ### Rows that are the same -/
theorem o16 (l : Ts) (hl : l.length ≤ 1000000) : op_16 [.l TS l, .l TS l] = some (0, [.b true]) := by
  have e : op_L16_4 [.k 0, .l TS l, .l TS l, .n (0 : Int)] = some (0, []) := by
    rw [op_L16_4_eq]
    refine iter_count (fun i => [.k 0, .l TS l, .l TS l, .n (i : Int)]) l.length (0, []) (fun i hi => ?_) ?_ FU (lt_FU (by omega))
    · refine fn_L16_4_t_im _ _ _ (by omega) rfl _ ?_
      unfold fn_L16_4_t
      refine sel_t (dt (show (i : Int) < (l.length : Int) by omega)) (sel_f (by unfold strEq; simp) ?_)
      rw [w1n i (by omega)]; rfl
    · refine fn_L16_4_t_im _ _ _ (by omega) rfl _ ?_
      unfold fn_L16_4_t
      exact sel_f (df (show ¬ ((l.length : Nat) : Int) < (l.length : Int) by omega)) rfl
  rw [op_16_eq]
  refine fn_16_t_im _ _ _ ?_
  unfold fn_16_t
  refine sel_f (nbf rfl) ?_
  dsimp only
  erw [e]
  exact sel_t rfl rfl

/-! ### Lines -/
theorem lp15 (s : ByteArray) (hs : s.size ≤ 9000) : ∀ (f p fr : Nat) (acc : Ts), fr ≤ p → p ≤ (By s).length → acc.length ≤ p → (By s).length ≤ p + f →
    iterS st_L15_4 (f + 1) [.k 0, .s s, .n (fr : Int), .l TS acc, .s s, .n (p : Int)] =
    some (0, [.s s, .n ((spL 10 (addLn s) ((By s).drop p) p fr acc).1 : Int), .l TS (spL 10 (addLn s) ((By s).drop p) p fr acc).2])
  | f, p, fr, acc, h1, h2, h3, h4 => by
    have hsz := By_len s
    by_cases hp : p < (By s).length
    · have hne := drop_ne hp
      obtain ⟨k1, k2, k3, k4⟩ := dl_x (show 10 < 128 by omega) _ hne
      rw [List.length_drop] at k2
      cases f with
      | zero => omega
      | succ f =>
      rw [spL_char (show 10 < 128 by omega) hne, List.drop_drop]
      by_cases hc : (Lib.decodeL ((By s).drop p)).1 = 10
      · obtain ⟨e1, e2⟩ := k3 hc
        have hw : p + (Lib.decodeL ((By s).drop p)).2 = p + 1 := by omega
        have : (st_L15_4 [.k 0, .s s, .n (fr : Int), .l TS acc, .s s, .n (p : Int)]).sel = some (.go [.k 0, .s s, .n ((p + 1 : Nat) : Int), .l TS (addLn s acc fr p), .s s, .n ((p + 1 : Nat) : Int)]) := by
          refine fn_L15_4_t_im _ _ _ _ _ ?_
          unfold fn_L15_4_t
          refine sel_t (dt (size_lt.2 hp)) (sel_t (bt (by rw [decC_L, hc]; rfl)) (sel_t (by rw [dt (show (0 : Int) ≤ (p : Int) by omega), dt (show (p : Int) ≤ (s.size : Int) by omega)]; rfl)
            (sel_t (by rw [dt (show (0 : Int) ≤ (fr : Int) by omega), dt (show (fr : Int) ≤ (p : Int) by omega)]; rfl) (sel_t (dt (show (acc.length + 1) * 16 ≤ 140737488355328 by omega)) ?_))))
          rw [w1n p (by omega), decW_L, e1]; rfl
        rw [iter_go this, if_pos hc, hw]
        exact lp15 s hs f (p + 1) (p + 1) _ (Nat.le_refl _) (by omega) (by have := addLn_len s acc fr p; omega) (by omega)
      · have : (st_L15_4 [.k 0, .s s, .n (fr : Int), .l TS acc, .s s, .n (p : Int)]).sel = some (.go [.k 0, .s s, .n (fr : Int), .l TS acc, .s s, .n ((p + (Lib.decodeL ((By s).drop p)).2 : Nat) : Int)]) := by
          refine fn_L15_4_t_im _ _ _ _ _ ?_
          unfold fn_L15_4_t
          refine sel_t (dt (size_lt.2 hp)) (sel_f (bf (by rw [decC_L]; omega)) ?_)
          rw [decW_L]; rfl
        rw [iter_go this, if_neg hc]
        exact lp15 s hs f _ fr acc (by omega) (by omega) (by omega) (by omega)
    · have : (st_L15_4 [.k 0, .s s, .n (fr : Int), .l TS acc, .s s, .n (p : Int)]).sel = some (.stop 0 [.s s, .n (fr : Int), .l TS acc]) := by
        refine fn_L15_4_t_im _ _ _ _ _ ?_
        unfold fn_L15_4_t
        exact sel_f (df (by rw [size_lt]; exact hp)) rfl
      rw [iter_stop this, List.drop_eq_nil_of_le (by omega)]; rfl
theorem lp17 (s : ByteArray) (hs : s.size ≤ 9000) : ∀ (f p fr : Nat) (acc : Ts), fr ≤ p → p ≤ (By s).length → acc.length ≤ p → (By s).length ≤ p + f →
    iterS st_L17_4 (f + 1) [.k 0, .s s, .n (fr : Int), .n (p : Int), .l TS acc] =
    some (0, [.s s, .n ((spL 10 (addLn s) ((By s).drop p) p fr acc).1 : Int), .l TS (spL 10 (addLn s) ((By s).drop p) p fr acc).2])
  | f, p, fr, acc, h1, h2, h3, h4 => by
    have hsz := By_len s
    by_cases hp : p < (By s).length
    · cases f with
      | zero => omega
      | succ f =>
      have hd : (By s).drop p = (By s)[p] :: (By s).drop (p + 1) := List.drop_eq_getElem_cons hp
      have hat : strAt s (p : Int) = (((By s)[p].toNat : Nat) : Int) := by
        rw [strAt_L, List.getD_eq_getElem?_getD, List.getElem?_eq_getElem hp]; rfl
      rw [hd, spL]
      by_cases hc : (By s)[p].toNat = 10
      · have : (st_L17_4 [.k 0, .s s, .n (fr : Int), .n (p : Int), .l TS acc]).sel = some (.go [.k 0, .s s, .n ((p + 1 : Nat) : Int), .n ((p + 1 : Nat) : Int), .l TS (addLn s acc fr p)]) := by
          refine fn_L17_4_t_im _ _ _ _ (by omega) _ ?_
          unfold fn_L17_4_t
          refine sel_t (dt (size_lt.2 hp)) (sel_t (bt (by rw [hat, hc]; rfl))
            (sel_t (by rw [dt (show (0 : Int) ≤ (fr : Int) by omega), dt (show (fr : Int) ≤ (p : Int) by omega)]; rfl) (sel_t (dt (show (acc.length + 1) * 16 ≤ 140737488355328 by omega)) ?_)))
          rw [w1n p (by omega)]; rfl
        rw [iter_go this, if_pos hc]
        exact lp17 s hs f (p + 1) (p + 1) _ (Nat.le_refl _) (by omega) (by have := addLn_len s acc fr p; omega) (by omega)
      · have : (st_L17_4 [.k 0, .s s, .n (fr : Int), .n (p : Int), .l TS acc]).sel = some (.go [.k 0, .s s, .n (fr : Int), .n ((p + 1 : Nat) : Int), .l TS acc]) := by
          refine fn_L17_4_t_im _ _ _ _ (by omega) _ ?_
          unfold fn_L17_4_t
          refine sel_t (dt (size_lt.2 hp)) (sel_f (bf (by rw [hat]; omega)) ?_)
          rw [w1n p (by omega)]; rfl
        rw [iter_go this, if_neg hc]
        exact lp17 s hs f _ fr acc (by omega) (by omega) (by omega) (by omega)
    · have : (st_L17_4 [.k 0, .s s, .n (fr : Int), .n (p : Int), .l TS acc]).sel = some (.stop 0 [.s s, .n (fr : Int), .l TS acc]) := by
        refine fn_L17_4_t_im _ _ _ _ (by omega) _ ?_
        unfold fn_L17_4_t
        exact sel_f (df (by rw [size_lt]; exact hp)) rfl
      rw [iter_stop this, List.drop_eq_nil_of_le (by omega)]; rfl
theorem FUlt {s : ByteArray} (hs : s.size ≤ 9000) : (By s).length ≤ 0 + (FU - 1) := by rw [By_len]; unfold FU; omega
theorem o15 (s : ByteArray) (hs : s.size ≤ 9000) : op_15 [.s s] = some (0, [.l TS (lnsOf s)]) := by
  have e := lp15 s hs (FU - 1) 0 0 [] (Nat.le_refl _) (Nat.zero_le _) (Nat.zero_le _) (FUlt hs)
  rw [← FU1, ← op_L15_4_eq, List.drop_zero] at e
  obtain ⟨q1, q2, q3⟩ := spL_ok (x := 10) (addLn_len s) (l := By s) (i := 0) (fr := 0) (acc := []) (Nat.le_refl _)
  have hsz := By_len s
  rw [op_15_eq]
  refine fn_15_t_im _ _ ?_
  unfold fn_15_t
  dsimp only
  erw [e]
  refine sel_t rfl (sel_t ?_ (sel_t ?_ rfl))
  · show (decide ((0 : Int) ≤ ((spL 10 (addLn s) (By s) 0 0 []).1 : Int)) && decide (((spL 10 (addLn s) (By s) 0 0 []).1 : Int) ≤ (s.size : Int))) = true
    rw [dt (by omega), dt (by omega)]; rfl
  · exact dt (show ((spL 10 (addLn s) (By s) 0 0 []).2.length + 1) * 16 ≤ 140737488355328 by simp at q3; omega)
theorem o17 (s : ByteArray) (hs : s.size ≤ 9000) : op_17 [.s s] = some (0, [.l TS (lnsOf s)]) := by
  have e := lp17 s hs (FU - 1) 0 0 [] (Nat.le_refl _) (Nat.zero_le _) (Nat.zero_le _) (FUlt hs)
  rw [← FU1, ← op_L17_4_eq, List.drop_zero] at e
  obtain ⟨q1, q2, q3⟩ := spL_ok (x := 10) (addLn_len s) (l := By s) (i := 0) (fr := 0) (acc := []) (Nat.le_refl _)
  have hsz := By_len s
  rw [op_17_eq]
  refine fn_17_t_im _ _ ?_
  unfold fn_17_t
  dsimp only
  erw [e]
  refine sel_t rfl (sel_t ?_ (sel_t ?_ rfl))
  · show (decide ((0 : Int) ≤ ((spL 10 (addLn s) (By s) 0 0 []).1 : Int)) && decide (((spL 10 (addLn s) (By s) 0 0 []).1 : Int) ≤ (s.size : Int))) = true
    rw [dt (by omega), dt (by omega)]; rfl
  · exact dt (show ((spL 10 (addLn s) (By s) 0 0 []).2.length + 1) * 16 ≤ 140737488355328 by simp at q3; omega)
theorem lns_len (s : ByteArray) (hs : s.size ≤ 9000) : (lnsOf s).length ≤ 9001 := by
  obtain ⟨q1, q2, q3⟩ := spL_ok (x := 10) (addLn_len s) (l := By s) (i := 0) (fr := 0) (acc := []) (Nat.le_refl _)
  have hsz := By_len s
  have := addLn_len s (spL 10 (addLn s) (By s) 0 0 []).2 (spL 10 (addLn s) (By s) 0 0 []).1 s.size
  unfold lnsOf; simp at q3; omega
theorem jn_take_len : ∀ (l : Ts) (k : Nat), (jn (l.take k)).length ≤ (jn l).length
  | [], k => by simp
  | [a], 0 => by simp [jn]
  | [a], k + 1 => by simp
  | a :: b :: r, 0 => by simp [jn]
  | a :: b :: r, 1 => by simp [jn]
  | a :: b :: r, k + 2 => by
    have := jn_take_len (b :: r) (k + 1)
    simp only [List.take_succ_cons, jn, List.length_append, List.length_cons] at this ⊢
    omega
theorem getD_at {α : Type} {l : List α} {i : Nat} {d : α} (h : i < l.length) : l.getD i d = l[i] := by
  rw [List.getD_eq_getElem?_getD, List.getElem?_eq_getElem h]; rfl
theorem lp5 (s : ByteArray) (hs : s.size ≤ 9000) : ∃ t : ByteArray, By t = By s ∧ op_L5_6 [.k 0, .s s, .s ⟨⟨[]⟩⟩, .n (0 : Int), .l TS (lnsOf s)] = some (0, [.s s, .s t, .l TS (lnsOf s)]) := by
  have hlen := lns_len s hs
  have hj := lns_jn s
  have hsz := By_len s
  generalize hL : lnsOf s = L at hlen hj ⊢
  have mk : ∀ l : Bs, ∃ t : ByteArray, By t = l := fun l => ⟨⟨⟨l⟩⟩, rfl⟩
  let T : Nat → ByteArray := fun k => ⟨⟨jn (L.take k)⟩⟩
  have hT : ∀ k, By (T k) = jn (L.take k) := fun k => rfl
  have hTs : ∀ k, (T k).size ≤ 9000 := fun k => by
    have := jn_take_len L k
    rw [← By_len, hT]; rw [hj] at this; omega
  refine ⟨T L.length, by rw [hT, List.take_of_length_le (Nat.le_refl _), hj], ?_⟩
  rw [op_L5_6_eq]
  refine iter_count (fun i => [.k 0, .s s, .s (T i), .n (i : Int), .l TS L]) L.length (0, [.s s, .s (T L.length), .l TS L]) (fun i hi => ?_) ?_ FU (lt_FU (by omega))
  · refine fn_L5_6_t_im _ _ _ _ (by omega) _ ?_
    unfold fn_L5_6_t
    have hg : (List.getD L (Int.toNat (i : Int)) (Ty.dflt Ty.str) : ByteArray) = L[i] := getD_at hi
    have htk : L.take (i + 1) = L.take i ++ [L[i]] := by rw [List.take_add_one, List.getElem?_eq_getElem hi]; rfl
    have hs1 := hTs (i + 1)
    rw [← By_len, hT, htk] at hs1
    refine sel_t (dt (show (i : Int) < (L.length : Int) by omega)) ?_
    by_cases h0 : i = 0
    · subst h0
      refine sel_f (df (by omega)) (sel_t (dt ?_) ?_)
      · have : ByteArray.size (List.getD L (Int.toNat ((0 : Nat) : Int)) (Ty.dflt Ty.str)) = L[0].size := congrArg ByteArray.size hg
        rw [this]
        have := hTs 0
        simp only [List.take_zero, List.nil_append, jn_one, By_len] at hs1
        omega
      · have e : (T 0 ++ (List.getD L (Int.toNat ((0 : Nat) : Int)) (Ty.dflt Ty.str) : ByteArray)) = T 1 := by
          apply By_ext
          rw [hg, By_append, hT, hT, htk]; rfl
        rw [e, w1n 0 (by omega)]; rfl
    · have hne : L.take i ≠ [] := by
        intro e; have := congrArg List.length e; rw [List.length_take] at this; simp only [List.length_nil] at this; omega
      rw [jn_snoc _ _ hne] at hs1
      simp only [List.length_append, List.length_cons, By_len] at hs1
      have hti : (T i).size = (jn (L.take i)).length := by rw [← By_len, hT]
      refine sel_t (dt (show (i : Int) > 0 by omega)) (sel_t (dt (show (T i).size + 1 ≤ 9223372036854775807 by omega)) (sel_t (dt ?_) ?_))
      · have : ByteArray.size (List.getD L (Int.toNat (i : Int)) (Ty.dflt Ty.str)) = L[i].size := congrArg ByteArray.size hg
        rw [this, ← By_len (T i ++ _), By_append, List.length_append, hT]
        show (jn (L.take i)).length + 1 + _ ≤ _
        omega
      · have e : (T i ++ ⟨⟨[(10 : UInt8)]⟩⟩ ++ (List.getD L (Int.toNat (i : Int)) (Ty.dflt Ty.str) : ByteArray)) = T (i + 1) := by
          apply By_ext
          rw [hg, By_append, By_append, hT, hT, htk, jn_snoc _ _ hne, List.append_assoc]; rfl
        rw [e, w1n i (by omega)]; rfl
  · refine fn_L5_6_t_im _ _ _ _ (by omega) _ ?_
    unfold fn_L5_6_t
    exact sel_f (df (show ¬ ((L.length : Nat) : Int) < (L.length : Int) by omega)) rfl
theorem W5_true (s : ByteArray) : (ev_W5 [.s s]).sel = some true := by
  refine fn_W5_t_im _ _ ?_
  unfold fn_W5_t
  by_cases h : (s.size : Int) > 2000
  · exact sel_t (dt h) rfl
  · refine sel_f (df h) ?_
    have hs : s.size ≤ 9000 := by omega
    obtain ⟨t, ht, e⟩ := lp5 s hs
    have hl := lns_len s hs
    have e15 := o15 s hs
    have e17 := o17 s hs
    generalize lnsOf s = L at hl e15 e17 e
    dsimp only
    rw [e15]
    refine sel_t rfl ?_
    erw [e]
    refine sel_t rfl ?_
    erw [e17]
    refine sel_t rfl ?_
    erw [o16 L (by omega)]
    refine sel_t rfl (sel_t rfl (sel_t ?_ rfl))
    show strEq t s = true
    rw [strEq_By, ht]; simp
end Go.Proofs.Ytpkmihelefkphaa.Vx
