import Derived.Test.YtkclmlcfdijbmaaY24c
namespace Go.Proofs.Ytkclmlcfdijbmaa.Vx
open Go Go.RowKit
set_option linter.unusedVariables false
set_option linter.unusedSimpArgs false
set_option maxRecDepth 100000
set_option maxHeartbeats 0
variable {l1 l2 l3 l4 : Int} {la : LB}
def Done (n : Int) (r : Option (Nat × List Dat)) : Prop := ∃ k d', r = some (k, .b true :: d') ∧ ((k = 0 ∧ HA n d') ∨ (k = 1 ∧ HB n d'))
theorem Done.a {n : Int} {r : Option (Nat × List Dat)} {q : Bool} {d' : List Dat} (h : r = some (0, .b q :: d')) (hq : q = true) (hd : HA n d') : Done n r := ⟨0, d', by rw [h, hq], .inl ⟨rfl, hd⟩⟩
theorem Done.b {n : Int} {r : Option (Nat × List Dat)} {q : Bool} {d' : List Dat} (h : r = some (1, .b q :: d')) (hq : q = true) (hd : HB n d') : Done n r := ⟨1, d', by rw [h, hq], .inr ⟨rfl, hd⟩⟩
theorem Sil.more {n si pa ms : Int} (h : Sil n si pa ms) (hn : n < 300) : Sil (n + 1) si pa ms := by unfold Sil at *; omega
theorem Sil.zero {n si pa ms : Int} (h : Sil n si pa ms) (hn : n < 300) : Sil (n + 1) 0 pa 0 := by unfold Sil at *; omega
theorem does_a {n : Int} (hn : n < 300) (k pair fk cyc ep pr pt : Int) {l : List Dat} (h : HA n l) : Done (n + 1) (op_32a (.n k :: .n pair :: .n fk :: .n cyc :: .n ep :: .n pr :: .n pt :: .n l1 :: .n l2 :: .n l3 :: .l TB la :: .n l4 :: l)) := by
  obtain ⟨e, p, s1, s2, of, at_, a, b, c, ar, d, x, si, pa, st, ms, rfl, hs⟩ := h
  have F : op_32a (.n k :: .n pair :: .n fk :: .n cyc :: .n ep :: .n pr :: .n pt :: .n l1 :: .n l2 :: .n l3 :: .l TB la :: .n l4 :: (RA e p s1 s2 of at_ a b c ar d x si pa st ++ MD pa ms st e p (-1) s1 s2 x a b c ar d at_ of)) = (fn_32a (.n k :: .n pair :: .n fk :: .n cyc :: .n ep :: .n pr :: .n pt :: .n l1 :: .n l2 :: .n l3 :: .l TB la :: .n l4 :: .n e :: .n p :: .n s1 :: .n s2 :: .n of :: .n at_ :: .n a :: .n b :: .n c :: .l TB ar :: .n d :: .b x :: .n si :: .n pa :: .b st :: .n pa :: .n ms :: .b st :: .n e :: .n p :: .n (-1) :: .n s1 :: .n s2 :: .b x :: .n a :: .n b :: .n c :: .l TB ar :: .n d :: .n at_ :: .n of :: [])).sel := rfl
  rw [F]
  by_cases k3 : Int.tmod k 8 = 3
  · have e1 : op_33a [.n pair, .n ep, .n e, .n p, .n s1, .n s2, .n of, .n at_, .n a, .n b, .n c, .l TB ar, .n d, .b x, .n si, .n pa, .b st] = _ := v33a pair ep e p
    have e2 : op_97 [.n pair, .n ep, .n pa, .n ms, .b st, .n e, .n p, .n (-1), .n s1, .n s2, .b x, .n a, .n b, .n c, .l TB ar, .n d, .n at_, .n of] = _ := v97 pair ep e p
    refine .a (d' := RA (if fErr e p pair ep = 0 ∧ ep > e then ep else e) (if fErr e p pair ep = 0 ∧ ep > e then pair else p) s1 s2 of at_ a b c ar d x si pa st ++ MD pa ms st (if fErr e p pair ep = 0 ∧ ep > e then ep else e) (if fErr e p pair ep = 0 ∧ ep > e then pair else p) (if fErr e p pair ep = 0 ∧ ep > e then -1 else -1) s1 s2 x a b c ar d at_ of) (q := fErr e p pair ep == fErr e p pair ep) ((selT (bt k3)).trans ?_) (by simp) ?_
    · rw [e1, e2]; rfl
    · exact ⟨_, _, s1, s2, of, at_, a, b, c, ar, d, x, si, pa, st, ms, by simp only [ite_self]; rfl, hs.more hn⟩
  refine Eq.rec (motive := fun z _ => Done (n + 1) z) ?_ (selF (bf k3)).symm
  by_cases k4 : Int.tmod k 8 = 4
  · have e1 : op_34a [.n pair, .n ep, .n e, .n p, .n s1, .n s2, .n of, .n at_, .n a, .n b, .n c, .l TB ar, .n d, .b x, .n si, .n pa, .b st] = _ := v34a pair ep e p
    have e2 : op_98 [.n pair, .n ep, .n pa, .n ms, .b st, .n e, .n p, .n (-1), .n s1, .n s2, .b x, .n a, .n b, .n c, .l TB ar, .n d, .n at_, .n of] = _ := v98 pair ep e p
    by_cases h0 : fErr e p pair ep = 0
    · rw [if_pos h0] at e1 e2
      refine .a (d' := RA (if fErr e p pair ep = 0 ∧ ep > e then ep else e) (if fErr e p pair ep = 0 ∧ ep > e then pair else p) 0 s2 of at_ a b c ar d x si pa true ++ MD pa ms true (if fErr e p pair ep = 0 ∧ ep > e then ep else e) (if fErr e p pair ep = 0 ∧ ep > e then pair else p) (if fErr e p pair ep = 0 ∧ ep > e then -1 else -1) 0 s2 x a b c ar d at_ of) (q := ((0 : Int) == 0)) ((selT (bt k4)).trans ?_) rfl ?_
      · rw [e1, e2]; rfl
      · exact ⟨_, _, 0, s2, of, at_, a, b, c, ar, d, x, si, pa, true, ms, by simp only [ite_self]; rfl, hs.more hn⟩
    · rw [if_neg h0] at e1 e2
      refine .a (d' := RA e p s1 s2 of at_ a b c ar d x si pa st ++ MD pa ms st e p (-1) s1 s2 x a b c ar d at_ of) (q := (fErr e p pair ep == fErr e p pair ep)) ((selT (bt k4)).trans ?_) (by simp) ⟨_, _, s1, s2, of, at_, a, b, c, ar, d, x, si, pa, st, ms, rfl, hs.more hn⟩
      rw [e1, e2]; rfl
  refine Eq.rec (motive := fun z _ => Done (n + 1) z) ?_ (selF (bf k4)).symm
  by_cases k5 : Int.tmod k 8 = 5
  ·
    have w1 : IntKind.wrap .i64 (si + 1) = si + 1 := w64 (by unfold Sil at hs; omega) (by unfold Sil at hs; omega)
    have w2 : IntKind.wrap .i64 (ms + 1) = ms + 1 := w64 (by unfold Sil at hs; omega) (by unfold Sil at hs; omega)
    have w3 : IntKind.wrap .i64 (pa + 1) = pa + 1 := w64 (by unfold Sil at hs; omega) (by unfold Sil at hs; omega)
    by_cases q : si + 1 > pa
    · have e1 : op_35a [.n e, .n p, .n s1, .n s2, .n of, .n at_, .n a, .n b, .n c, .l TB ar, .n d, .b x, .n si, .n pa, .b st] = some (0, [.n e, .n p, .n 0, .n s2, .n of, .n at_, .n a, .n b, .n c, .l TB ar, .n d, .b x, .n (si + 1), .n pa, .b true]) := by
        refine (selT (dt (by rw [w1]; exact q))).trans ?_
        rw [w1]; rfl
      have e2 : op_99 [.n pa, .n ms, .b st, .n e, .n p, .n (-1), .n s1, .n s2, .b x, .n a, .n b, .n c, .l TB ar, .n d, .n at_, .n of] = some (0, [.n pa, .n (pa + 1), .b true, .n e, .n p, .n (-1), .n 0, .n s2, .b x, .n a, .n b, .n c, .l TB ar, .n d, .n at_, .n of]) := by
        refine (selT (dt (by rw [w2]; unfold Sil at hs; omega))).trans ?_
        rw [w3]; rfl
      refine .a (d' := RA e p 0 s2 of at_ a b c ar d x (si + 1) pa true ++ MD pa (pa + 1) true e p (-1) 0 s2 x a b c ar d at_ of) (q := true) ((selT (bt k5)).trans ?_) rfl ⟨_, _, 0, s2, of, at_, a, b, c, ar, d, x, si + 1, pa, true, pa + 1, rfl, by unfold Sil at *; omega⟩
      rw [e1, e2]; rfl
    · have e1 : op_35a [.n e, .n p, .n s1, .n s2, .n of, .n at_, .n a, .n b, .n c, .l TB ar, .n d, .b x, .n si, .n pa, .b st] = some (0, [.n e, .n p, .n s1, .n s2, .n of, .n at_, .n a, .n b, .n c, .l TB ar, .n d, .b x, .n (si + 1), .n pa, .b st]) := by
        refine (selF (df (by rw [w1]; exact q))).trans ?_
        rw [w1]; rfl
      have e2 : op_99 [.n pa, .n ms, .b st, .n e, .n p, .n (-1), .n s1, .n s2, .b x, .n a, .n b, .n c, .l TB ar, .n d, .n at_, .n of] = some (0, [.n pa, .n (ms + 1), .b st, .n e, .n p, .n (-1), .n s1, .n s2, .b x, .n a, .n b, .n c, .l TB ar, .n d, .n at_, .n of]) := by
        refine (selF (df (by rw [w2]; unfold Sil at hs; omega))).trans ?_
        rw [w2]; rfl
      refine .a (d' := RA e p s1 s2 of at_ a b c ar d x (si + 1) pa st ++ MD pa (ms + 1) st e p (-1) s1 s2 x a b c ar d at_ of) (q := true) ((selT (bt k5)).trans ?_) rfl ⟨_, _, s1, s2, of, at_, a, b, c, ar, d, x, si + 1, pa, st, ms + 1, rfl, by unfold Sil at *; omega⟩
      rw [e1, e2]; rfl
  refine Eq.rec (motive := fun z _ => Done (n + 1) z) ?_ (selF (bf k5)).symm
  by_cases k6 : Int.tmod k 8 = 6
  ·
    have w1 : IntKind.wrap .i64 (si + 1) = si + 1 := w64 (by unfold Sil at hs; omega) (by unfold Sil at hs; omega)
    have w2 : IntKind.wrap .i64 (ms + 1) = ms + 1 := w64 (by unfold Sil at hs; omega) (by unfold Sil at hs; omega)
    have w3 : IntKind.wrap .i64 (pa + 1) = pa + 1 := w64 (by unfold Sil at hs; omega) (by unfold Sil at hs; omega)
    by_cases q : si + 1 > pa
    · have e1 : op_35a [.n e, .n p, .n s1, .n s2, .n of, .n at_, .n a, .n b, .n c, .l TB ar, .n d, .b x, .n si, .n pa, .b st] = some (0, [.n e, .n p, .n 0, .n s2, .n of, .n at_, .n a, .n b, .n c, .l TB ar, .n d, .b x, .n (si + 1), .n pa, .b true]) := by
        refine (selT (dt (by rw [w1]; exact q))).trans ?_
        rw [w1]; rfl
      have e2 : op_99 [.n pa, .n ms, .b st, .n e, .n p, .n (-1), .n s1, .n s2, .b x, .n a, .n b, .n c, .l TB ar, .n d, .n at_, .n of] = some (0, [.n pa, .n (pa + 1), .b true, .n e, .n p, .n (-1), .n 0, .n s2, .b x, .n a, .n b, .n c, .l TB ar, .n d, .n at_, .n of]) := by
        refine (selT (dt (by rw [w2]; unfold Sil at hs; omega))).trans ?_
        rw [w3]; rfl
      refine .a (d' := RA e p 0 s2 of at_ a b c ar d x (si + 1) pa true ++ MD pa (pa + 1) true e p (-1) 0 s2 x a b c ar d at_ of) (q := true) ((selT (bt k6)).trans ?_) rfl ⟨_, _, 0, s2, of, at_, a, b, c, ar, d, x, si + 1, pa, true, pa + 1, rfl, by unfold Sil at *; omega⟩
      rw [e1, e2]; rfl
    · have e1 : op_35a [.n e, .n p, .n s1, .n s2, .n of, .n at_, .n a, .n b, .n c, .l TB ar, .n d, .b x, .n si, .n pa, .b st] = some (0, [.n e, .n p, .n s1, .n s2, .n of, .n at_, .n a, .n b, .n c, .l TB ar, .n d, .b x, .n (si + 1), .n pa, .b st]) := by
        refine (selF (df (by rw [w1]; exact q))).trans ?_
        rw [w1]; rfl
      have e2 : op_99 [.n pa, .n ms, .b st, .n e, .n p, .n (-1), .n s1, .n s2, .b x, .n a, .n b, .n c, .l TB ar, .n d, .n at_, .n of] = some (0, [.n pa, .n (ms + 1), .b st, .n e, .n p, .n (-1), .n s1, .n s2, .b x, .n a, .n b, .n c, .l TB ar, .n d, .n at_, .n of]) := by
        refine (selF (df (by rw [w2]; unfold Sil at hs; omega))).trans ?_
        rw [w2]; rfl
      refine .a (d' := RA e p s1 s2 of at_ a b c ar d x (si + 1) pa st ++ MD pa (ms + 1) st e p (-1) s1 s2 x a b c ar d at_ of) (q := true) ((selT (bt k6)).trans ?_) rfl ⟨_, _, s1, s2, of, at_, a, b, c, ar, d, x, si + 1, pa, st, ms + 1, rfl, by unfold Sil at *; omega⟩
      rw [e1, e2]; rfl
  refine Eq.rec (motive := fun z _ => Done (n + 1) z) ?_ (selF (bf k6)).symm
  by_cases k7 : Int.tmod k 8 = 7
  · cases st with
    | false =>
      have e1 : op_36a [.n e, .n p, .n s1, .n s2, .n of, .n at_, .n a, .n b, .n c, .l TB ar, .n d, .b x, .n si, .n pa, .b false] = some (0, [.n 4, .n e, .n p, .n s1, .n s2, .n of, .n at_, .n a, .n b, .n c, .l TB ar, .n d, .b x, .n si, .n pa, .b false]) := rfl
      have e2 : op_100 [.n pa, .n ms, .b false, .n e, .n p, .n (-1), .n s1, .n s2, .b x, .n a, .n b, .n c, .l TB ar, .n d, .n at_, .n of] = some (0, [.n 4, .n pa, .n ms, .b false, .n e, .n p, .n (-1), .n s1, .n s2, .b x, .n a, .n b, .n c, .l TB ar, .n d, .n at_, .n of]) := rfl
      refine .a (d' := RA e p s1 s2 of at_ a b c ar d x si pa false ++ MD pa ms false e p (-1) s1 s2 x a b c ar d at_ of) (q := ((4 : Int) == 4)) ((selT (bt k7)).trans ?_) rfl ⟨_, _, s1, s2, of, at_, a, b, c, ar, d, x, si, pa, false, ms, rfl, hs.more hn⟩
      rw [e1, e2]; rfl
    | true =>
      have e1 : op_36a [.n e, .n p, .n s1, .n s2, .n of, .n at_, .n a, .n b, .n c, .l TB ar, .n d, .b x, .n si, .n pa, .b true] = some (0, [.n 0, .n e, .n p, .n s1, .n s2, .n of, .n at_, .n a, .n b, .n c, .l TB ar, .n d, .b x, .n 0, .n pa, .b false]) := rfl
      have e2 : op_100 [.n pa, .n ms, .b true, .n e, .n p, .n (-1), .n s1, .n s2, .b x, .n a, .n b, .n c, .l TB ar, .n d, .n at_, .n of] = some (0, [.n 0, .n pa, .n 0, .b false, .n e, .n p, .n (-1), .n s1, .n s2, .b x, .n a, .n b, .n c, .l TB ar, .n d, .n at_, .n of]) := rfl
      refine .a (d' := RA e p s1 s2 of at_ a b c ar d x 0 pa false ++ MD pa 0 false e p (-1) s1 s2 x a b c ar d at_ of) (q := ((0 : Int) == 0)) ((selT (bt k7)).trans ?_) rfl ⟨_, _, s1, s2, of, at_, a, b, c, ar, d, x, 0, pa, false, 0, rfl, hs.zero hn⟩
      rw [e1, e2]; rfl
  refine Eq.rec (motive := fun z _ => Done (n + 1) z) ?_ (selF (bf k7)).symm
  have e1 : op_37a [.n pair, .n fk, .n cyc, .n ep, .n pr, .n pt, .n l1, .n l2, .n l3, .l TB la, .n l4, .n e, .n p, .n s1, .n s2, .n of, .n at_, .n a, .n b, .n c, .l TB ar, .n d, .b x, .n si, .n pa, .b st] = _ := v37a pair fk cyc ep pr pt e p
  have e2 : op_101 [.n pair, .n ep, .n cyc, .n pr, .n pt, .n l1, .n l2, .n l3, .l TB la, .n l4, .n pa, .n ms, .b st, .n e, .n p, .n (-1), .n s1, .n s2, .b x, .n a, .n b, .n c, .l TB ar, .n d, .n at_, .n of] = _ := v101 pair ep cyc pr pt e p
  by_cases h0 : fErr e p pair ep = 0
  · rw [if_neg (fun q => q h0)] at e1 e2
    by_cases hb : badX cyc pr l1
    · rw [if_pos hb] at e1 e2
      refine .a (d' := RA e p s1 s2 of at_ a b c ar d x si pa st ++ MD pa ms st e p (-1) s1 s2 x a b c ar d at_ of) (q := ((2 : Int) == 2)) ?_ rfl ⟨_, _, s1, s2, of, at_, a, b, c, ar, d, x, si, pa, st, ms, rfl, hs.more hn⟩
      rw [e1, e2]; rfl
    rw [if_neg hb] at e1 e2
    have hc0 : 0 ≤ cyc := by unfold badX at hb; omega
    cases st with
    | true =>
      rw [if_pos rfl] at e1 e2
      refine .a (d' := RA (if ep > e then ep else e) (if ep > e then pair else p) s1 s2 of at_ a b c ar d x si pa true ++ MD pa ms true (if ep > e then ep else e) (if ep > e then pair else p) (if ep > e then -1 else -1) s1 s2 x a b c ar d at_ of) (q := ((220 : Int) == 220)) ?_ rfl ⟨_, _, s1, s2, of, at_, a, b, c, ar, d, x, si, pa, true, ms, by simp only [ite_self]; rfl, hs.more hn⟩
      rw [e1, e2]; rfl
    | false =>
      rw [if_neg (by simp)] at e1 e2
      rw [if_neg (by simp only [ite_self]; omega)] at e2
      refine .b (d' := RB (if ep > e then ep else e) (if ep > e then pair else p) cyc pr pt ep cyc l1 l2 l3 la l4 true 0 pa false ++ MD pa 0 false (if ep > e then ep else e) (if ep > e then pair else p) cyc pr pt true l1 l2 l3 la l4 cyc ep) (q := ((0 : Int) == 0)) ?_ rfl ⟨_, _, cyc, pr, pt, ep, cyc, l1, l2, l3, la, l4, true, 0, pa, false, 0, rfl, hs.zero hn⟩
      rw [e1, e2]; rfl
  · rw [if_pos h0] at e1 e2
    refine .a (d' := RA e p s1 s2 of at_ a b c ar d x si pa st ++ MD pa ms st e p (-1) s1 s2 x a b c ar d at_ of) (q := (fErr e p pair ep == fErr e p pair ep)) ?_ (by simp) ⟨_, _, s1, s2, of, at_, a, b, c, ar, d, x, si, pa, st, ms, rfl, hs.more hn⟩
    rw [e1, e2]; rfl
theorem does_b {n : Int} (hn : n < 300) (k pair fk cyc ep pr pt : Int) {l : List Dat} (h : HB n l) : Done (n + 1) (op_32b (.n k :: .n pair :: .n fk :: .n cyc :: .n ep :: .n pr :: .n pt :: .n l1 :: .n l2 :: .n l3 :: .l TB la :: .n l4 :: l)) := by
  obtain ⟨e, p, cy, s1, s2, of, at_, a, b, c, ar, d, x, si, pa, st, ms, rfl, hs⟩ := h
  have F : op_32b (.n k :: .n pair :: .n fk :: .n cyc :: .n ep :: .n pr :: .n pt :: .n l1 :: .n l2 :: .n l3 :: .l TB la :: .n l4 :: (RB e p cy s1 s2 of at_ a b c ar d x si pa st ++ MD pa ms st e p cy s1 s2 x a b c ar d at_ of)) = (fn_32b (.n k :: .n pair :: .n fk :: .n cyc :: .n ep :: .n pr :: .n pt :: .n l1 :: .n l2 :: .n l3 :: .l TB la :: .n l4 :: .n e :: .n p :: .n cy :: .n s1 :: .n s2 :: .n of :: .n at_ :: .n a :: .n b :: .n c :: .l TB ar :: .n d :: .b x :: .n si :: .n pa :: .b st :: .n pa :: .n ms :: .b st :: .n e :: .n p :: .n cy :: .n s1 :: .n s2 :: .b x :: .n a :: .n b :: .n c :: .l TB ar :: .n d :: .n at_ :: .n of :: [])).sel := rfl
  rw [F]
  by_cases k3 : Int.tmod k 8 = 3
  · have e1 : op_33b [.n pair, .n ep, .n e, .n p, .n cy, .n s1, .n s2, .n of, .n at_, .n a, .n b, .n c, .l TB ar, .n d, .b x, .n si, .n pa, .b st] = _ := v33b pair ep e p cy
    have e2 : op_97 [.n pair, .n ep, .n pa, .n ms, .b st, .n e, .n p, .n cy, .n s1, .n s2, .b x, .n a, .n b, .n c, .l TB ar, .n d, .n at_, .n of] = _ := v97 pair ep e p
    by_cases hR : fErr e p pair ep = 0 ∧ ep > e
    · rw [if_pos hR] at e1
      rw [if_pos hR, if_pos hR, if_pos hR] at e2
      refine .a (d' := RA ep pair s1 s2 of at_ a b c ar d x si pa st ++ MD pa ms st ep pair (-1) s1 s2 x a b c ar d at_ of) (q := (0 == fErr e p pair ep)) ((selT (bt k3)).trans ?_) (by rw [hR.1]; rfl) ⟨_, _, s1, s2, of, at_, a, b, c, ar, d, x, si, pa, st, ms, rfl, hs.more hn⟩
      rw [e1, e2]; rfl
    · rw [if_neg hR] at e1
      rw [if_neg hR, if_neg hR, if_neg hR] at e2
      refine .b (d' := RB e p cy s1 s2 of at_ a b c ar d x si pa st ++ MD pa ms st e p cy s1 s2 x a b c ar d at_ of) (q := (fErr e p pair ep == fErr e p pair ep)) ((selT (bt k3)).trans ?_) (by simp) ⟨_, _, cy, s1, s2, of, at_, a, b, c, ar, d, x, si, pa, st, ms, rfl, hs.more hn⟩
      rw [e1, e2]; rfl
  refine Eq.rec (motive := fun z _ => Done (n + 1) z) ?_ (selF (bf k3)).symm
  by_cases k4 : Int.tmod k 8 = 4
  · have e1 : op_34b [.n pair, .n ep, .n e, .n p, .n cy, .n s1, .n s2, .n of, .n at_, .n a, .n b, .n c, .l TB ar, .n d, .b x, .n si, .n pa, .b st] = _ := v34b pair ep e p cy
    have e2 : op_98 [.n pair, .n ep, .n pa, .n ms, .b st, .n e, .n p, .n cy, .n s1, .n s2, .b x, .n a, .n b, .n c, .l TB ar, .n d, .n at_, .n of] = _ := v98 pair ep e p
    by_cases hR : fErr e p pair ep = 0 ∧ ep > e
    · rw [if_pos hR] at e1
      rw [if_pos hR.1, if_pos hR, if_pos hR, if_pos hR] at e2
      refine .a (d' := RA ep pair 0 s2 of at_ a b c ar d x si pa true ++ MD pa ms true ep pair (-1) 0 s2 x a b c ar d at_ of) (q := ((0 : Int) == 0)) ((selT (bt k4)).trans ?_) rfl ⟨_, _, 0, s2, of, at_, a, b, c, ar, d, x, si, pa, true, ms, rfl, hs.more hn⟩
      rw [e1, e2]; rfl
    · rw [if_neg hR] at e1
      by_cases h0 : fErr e p pair ep = 0
      · rw [if_pos h0] at e1
        rw [if_pos h0, if_neg hR, if_neg hR, if_neg hR] at e2
        refine .b (d' := RB e p cy 0 s2 of at_ a b c ar d x si pa true ++ MD pa ms true e p cy 0 s2 x a b c ar d at_ of) (q := ((0 : Int) == 0)) ((selT (bt k4)).trans ?_) rfl ⟨_, _, cy, 0, s2, of, at_, a, b, c, ar, d, x, si, pa, true, ms, rfl, hs.more hn⟩
        rw [e1, e2]; rfl
      · rw [if_neg h0] at e1 e2
        refine .b (d' := RB e p cy s1 s2 of at_ a b c ar d x si pa st ++ MD pa ms st e p cy s1 s2 x a b c ar d at_ of) (q := (fErr e p pair ep == fErr e p pair ep)) ((selT (bt k4)).trans ?_) (by simp) ⟨_, _, cy, s1, s2, of, at_, a, b, c, ar, d, x, si, pa, st, ms, rfl, hs.more hn⟩
        rw [e1, e2]; rfl
  refine Eq.rec (motive := fun z _ => Done (n + 1) z) ?_ (selF (bf k4)).symm
  by_cases k5 : Int.tmod k 8 = 5
  ·
    have w1 : IntKind.wrap .i64 (si + 1) = si + 1 := w64 (by unfold Sil at hs; omega) (by unfold Sil at hs; omega)
    have w2 : IntKind.wrap .i64 (ms + 1) = ms + 1 := w64 (by unfold Sil at hs; omega) (by unfold Sil at hs; omega)
    have w3 : IntKind.wrap .i64 (pa + 1) = pa + 1 := w64 (by unfold Sil at hs; omega) (by unfold Sil at hs; omega)
    by_cases q : si + 1 > pa
    · have e1 : op_35b [.n e, .n p, .n cy, .n s1, .n s2, .n of, .n at_, .n a, .n b, .n c, .l TB ar, .n d, .b x, .n si, .n pa, .b st] = some (1, [.n e, .n p, .n cy, .n 0, .n s2, .n of, .n at_, .n a, .n b, .n c, .l TB ar, .n d, .b x, .n (si + 1), .n pa, .b true]) := by
        refine (selT (dt (by rw [w1]; exact q))).trans ?_
        rw [w1]; rfl
      have e2 : op_99 [.n pa, .n ms, .b st, .n e, .n p, .n cy, .n s1, .n s2, .b x, .n a, .n b, .n c, .l TB ar, .n d, .n at_, .n of] = some (0, [.n pa, .n (pa + 1), .b true, .n e, .n p, .n cy, .n 0, .n s2, .b x, .n a, .n b, .n c, .l TB ar, .n d, .n at_, .n of]) := by
        refine (selT (dt (by rw [w2]; unfold Sil at hs; omega))).trans ?_
        rw [w3]; rfl
      refine .b (d' := RB e p cy 0 s2 of at_ a b c ar d x (si + 1) pa true ++ MD pa (pa + 1) true e p cy 0 s2 x a b c ar d at_ of) (q := true) ((selT (bt k5)).trans ?_) rfl ⟨_, _, cy, 0, s2, of, at_, a, b, c, ar, d, x, si + 1, pa, true, pa + 1, rfl, by unfold Sil at *; omega⟩
      rw [e1, e2]; rfl
    · have e1 : op_35b [.n e, .n p, .n cy, .n s1, .n s2, .n of, .n at_, .n a, .n b, .n c, .l TB ar, .n d, .b x, .n si, .n pa, .b st] = some (1, [.n e, .n p, .n cy, .n s1, .n s2, .n of, .n at_, .n a, .n b, .n c, .l TB ar, .n d, .b x, .n (si + 1), .n pa, .b st]) := by
        refine (selF (df (by rw [w1]; exact q))).trans ?_
        rw [w1]; rfl
      have e2 : op_99 [.n pa, .n ms, .b st, .n e, .n p, .n cy, .n s1, .n s2, .b x, .n a, .n b, .n c, .l TB ar, .n d, .n at_, .n of] = some (0, [.n pa, .n (ms + 1), .b st, .n e, .n p, .n cy, .n s1, .n s2, .b x, .n a, .n b, .n c, .l TB ar, .n d, .n at_, .n of]) := by
        refine (selF (df (by rw [w2]; unfold Sil at hs; omega))).trans ?_
        rw [w2]; rfl
      refine .b (d' := RB e p cy s1 s2 of at_ a b c ar d x (si + 1) pa st ++ MD pa (ms + 1) st e p cy s1 s2 x a b c ar d at_ of) (q := true) ((selT (bt k5)).trans ?_) rfl ⟨_, _, cy, s1, s2, of, at_, a, b, c, ar, d, x, si + 1, pa, st, ms + 1, rfl, by unfold Sil at *; omega⟩
      rw [e1, e2]; rfl
  refine Eq.rec (motive := fun z _ => Done (n + 1) z) ?_ (selF (bf k5)).symm
  by_cases k6 : Int.tmod k 8 = 6
  ·
    have w1 : IntKind.wrap .i64 (si + 1) = si + 1 := w64 (by unfold Sil at hs; omega) (by unfold Sil at hs; omega)
    have w2 : IntKind.wrap .i64 (ms + 1) = ms + 1 := w64 (by unfold Sil at hs; omega) (by unfold Sil at hs; omega)
    have w3 : IntKind.wrap .i64 (pa + 1) = pa + 1 := w64 (by unfold Sil at hs; omega) (by unfold Sil at hs; omega)
    by_cases q : si + 1 > pa
    · have e1 : op_35b [.n e, .n p, .n cy, .n s1, .n s2, .n of, .n at_, .n a, .n b, .n c, .l TB ar, .n d, .b x, .n si, .n pa, .b st] = some (1, [.n e, .n p, .n cy, .n 0, .n s2, .n of, .n at_, .n a, .n b, .n c, .l TB ar, .n d, .b x, .n (si + 1), .n pa, .b true]) := by
        refine (selT (dt (by rw [w1]; exact q))).trans ?_
        rw [w1]; rfl
      have e2 : op_99 [.n pa, .n ms, .b st, .n e, .n p, .n cy, .n s1, .n s2, .b x, .n a, .n b, .n c, .l TB ar, .n d, .n at_, .n of] = some (0, [.n pa, .n (pa + 1), .b true, .n e, .n p, .n cy, .n 0, .n s2, .b x, .n a, .n b, .n c, .l TB ar, .n d, .n at_, .n of]) := by
        refine (selT (dt (by rw [w2]; unfold Sil at hs; omega))).trans ?_
        rw [w3]; rfl
      refine .b (d' := RB e p cy 0 s2 of at_ a b c ar d x (si + 1) pa true ++ MD pa (pa + 1) true e p cy 0 s2 x a b c ar d at_ of) (q := true) ((selT (bt k6)).trans ?_) rfl ⟨_, _, cy, 0, s2, of, at_, a, b, c, ar, d, x, si + 1, pa, true, pa + 1, rfl, by unfold Sil at *; omega⟩
      rw [e1, e2]; rfl
    · have e1 : op_35b [.n e, .n p, .n cy, .n s1, .n s2, .n of, .n at_, .n a, .n b, .n c, .l TB ar, .n d, .b x, .n si, .n pa, .b st] = some (1, [.n e, .n p, .n cy, .n s1, .n s2, .n of, .n at_, .n a, .n b, .n c, .l TB ar, .n d, .b x, .n (si + 1), .n pa, .b st]) := by
        refine (selF (df (by rw [w1]; exact q))).trans ?_
        rw [w1]; rfl
      have e2 : op_99 [.n pa, .n ms, .b st, .n e, .n p, .n cy, .n s1, .n s2, .b x, .n a, .n b, .n c, .l TB ar, .n d, .n at_, .n of] = some (0, [.n pa, .n (ms + 1), .b st, .n e, .n p, .n cy, .n s1, .n s2, .b x, .n a, .n b, .n c, .l TB ar, .n d, .n at_, .n of]) := by
        refine (selF (df (by rw [w2]; unfold Sil at hs; omega))).trans ?_
        rw [w2]; rfl
      refine .b (d' := RB e p cy s1 s2 of at_ a b c ar d x (si + 1) pa st ++ MD pa (ms + 1) st e p cy s1 s2 x a b c ar d at_ of) (q := true) ((selT (bt k6)).trans ?_) rfl ⟨_, _, cy, s1, s2, of, at_, a, b, c, ar, d, x, si + 1, pa, st, ms + 1, rfl, by unfold Sil at *; omega⟩
      rw [e1, e2]; rfl
  refine Eq.rec (motive := fun z _ => Done (n + 1) z) ?_ (selF (bf k6)).symm
  by_cases k7 : Int.tmod k 8 = 7
  · cases st with
    | false =>
      have e1 : op_36b [.n e, .n p, .n cy, .n s1, .n s2, .n of, .n at_, .n a, .n b, .n c, .l TB ar, .n d, .b x, .n si, .n pa, .b false] = some (1, [.n 4, .n e, .n p, .n cy, .n s1, .n s2, .n of, .n at_, .n a, .n b, .n c, .l TB ar, .n d, .b x, .n si, .n pa, .b false]) := rfl
      have e2 : op_100 [.n pa, .n ms, .b false, .n e, .n p, .n cy, .n s1, .n s2, .b x, .n a, .n b, .n c, .l TB ar, .n d, .n at_, .n of] = some (0, [.n 4, .n pa, .n ms, .b false, .n e, .n p, .n cy, .n s1, .n s2, .b x, .n a, .n b, .n c, .l TB ar, .n d, .n at_, .n of]) := rfl
      refine .b (d' := RB e p cy s1 s2 of at_ a b c ar d x si pa false ++ MD pa ms false e p cy s1 s2 x a b c ar d at_ of) (q := ((4 : Int) == 4)) ((selT (bt k7)).trans ?_) rfl ⟨_, _, cy, s1, s2, of, at_, a, b, c, ar, d, x, si, pa, false, ms, rfl, hs.more hn⟩
      rw [e1, e2]; rfl
    | true =>
      have e1 : op_36b [.n e, .n p, .n cy, .n s1, .n s2, .n of, .n at_, .n a, .n b, .n c, .l TB ar, .n d, .b x, .n si, .n pa, .b true] = some (1, [.n 0, .n e, .n p, .n cy, .n s1, .n s2, .n of, .n at_, .n a, .n b, .n c, .l TB ar, .n d, .b x, .n 0, .n pa, .b false]) := rfl
      have e2 : op_100 [.n pa, .n ms, .b true, .n e, .n p, .n cy, .n s1, .n s2, .b x, .n a, .n b, .n c, .l TB ar, .n d, .n at_, .n of] = some (0, [.n 0, .n pa, .n 0, .b false, .n e, .n p, .n cy, .n s1, .n s2, .b x, .n a, .n b, .n c, .l TB ar, .n d, .n at_, .n of]) := rfl
      refine .b (d' := RB e p cy s1 s2 of at_ a b c ar d x 0 pa false ++ MD pa 0 false e p cy s1 s2 x a b c ar d at_ of) (q := ((0 : Int) == 0)) ((selT (bt k7)).trans ?_) rfl ⟨_, _, cy, s1, s2, of, at_, a, b, c, ar, d, x, 0, pa, false, 0, rfl, hs.zero hn⟩
      rw [e1, e2]; rfl
  refine Eq.rec (motive := fun z _ => Done (n + 1) z) ?_ (selF (bf k7)).symm
  have e1 : op_37b [.n pair, .n fk, .n cyc, .n ep, .n pr, .n pt, .n l1, .n l2, .n l3, .l TB la, .n l4, .n e, .n p, .n cy, .n s1, .n s2, .n of, .n at_, .n a, .n b, .n c, .l TB ar, .n d, .b x, .n si, .n pa, .b st] = _ := v37b pair fk cyc ep pr pt e p cy
  have e2 : op_101 [.n pair, .n ep, .n cyc, .n pr, .n pt, .n l1, .n l2, .n l3, .l TB la, .n l4, .n pa, .n ms, .b st, .n e, .n p, .n cy, .n s1, .n s2, .b x, .n a, .n b, .n c, .l TB ar, .n d, .n at_, .n of] = _ := v101 pair ep cyc pr pt e p
  by_cases h0 : fErr e p pair ep = 0
  · rw [if_neg (fun q => q h0)] at e1 e2
    by_cases hb : badX cyc pr l1
    · rw [if_pos hb] at e1 e2
      refine .b (d' := RB e p cy s1 s2 of at_ a b c ar d x si pa st ++ MD pa ms st e p cy s1 s2 x a b c ar d at_ of) (q := ((2 : Int) == 2)) ?_ rfl ⟨_, _, cy, s1, s2, of, at_, a, b, c, ar, d, x, si, pa, st, ms, rfl, hs.more hn⟩
      rw [e1, e2]; rfl
    rw [if_neg hb] at e1 e2
    have hc0 : 0 ≤ cyc := by unfold badX at hb; omega
    cases st with
    | true =>
      rw [if_pos rfl] at e1 e2
      by_cases hg : ep > e
      · rw [if_pos hg] at e1
        rw [if_pos hg, if_pos hg, if_pos hg] at e2
        refine .a (d' := RA ep pair s1 s2 of at_ a b c ar d x si pa true ++ MD pa ms true ep pair (-1) s1 s2 x a b c ar d at_ of) (q := ((220 : Int) == 220)) ?_ rfl ⟨_, _, s1, s2, of, at_, a, b, c, ar, d, x, si, pa, true, ms, rfl, hs.more hn⟩
        rw [e1, e2]; rfl
      · rw [if_neg hg] at e1
        rw [if_neg hg, if_neg hg, if_neg hg] at e2
        refine .b (d' := RB e p cy s1 s2 of at_ a b c ar d x si pa true ++ MD pa ms true e p cy s1 s2 x a b c ar d at_ of) (q := ((220 : Int) == 220)) ?_ rfl ⟨_, _, cy, s1, s2, of, at_, a, b, c, ar, d, x, si, pa, true, ms, rfl, hs.more hn⟩
        rw [e1, e2]; rfl
    | false =>
      rw [if_neg (by simp)] at e1 e2
      by_cases hg : ep > e
      · rw [if_neg (fun q => q.1 hg), if_pos hg, if_pos hg] at e1
        rw [if_neg (by rw [if_pos hg]; omega), if_pos hg, if_pos hg] at e2
        refine .b (d' := RB ep pair cyc pr pt ep cyc l1 l2 l3 la l4 true 0 pa false ++ MD pa 0 false ep pair cyc pr pt true l1 l2 l3 la l4 cyc ep) (q := ((0 : Int) == 0)) ?_ rfl ⟨_, _, cyc, pr, pt, ep, cyc, l1, l2, l3, la, l4, true, 0, pa, false, 0, rfl, hs.zero hn⟩
        rw [e1, e2]; rfl
      · by_cases hl : cyc ≤ cy
        · rw [if_pos ⟨hg, hl⟩] at e1
          rw [if_pos (by rw [if_neg hg]; exact hl), if_neg hg, if_neg hg, if_neg hg] at e2
          refine .b (d' := RB e p cy s1 s2 of at_ a b c ar d x si pa false ++ MD pa ms false e p cy s1 s2 x a b c ar d at_ of) (q := ((4 : Int) == 4)) ?_ rfl ⟨_, _, cy, s1, s2, of, at_, a, b, c, ar, d, x, si, pa, false, ms, rfl, hs.more hn⟩
          rw [e1, e2]; rfl
        · rw [if_neg (fun q => hl q.2), if_neg hg, if_neg hg] at e1
          rw [if_neg (by rw [if_neg hg]; exact hl), if_neg hg, if_neg hg] at e2
          refine .b (d' := RB e p cyc pr pt ep cyc l1 l2 l3 la l4 true 0 pa false ++ MD pa 0 false e p cyc pr pt true l1 l2 l3 la l4 cyc ep) (q := ((0 : Int) == 0)) ?_ rfl ⟨_, _, cyc, pr, pt, ep, cyc, l1, l2, l3, la, l4, true, 0, pa, false, 0, rfl, hs.zero hn⟩
          rw [e1, e2]; rfl
  · rw [if_pos h0] at e1 e2
    refine .b (d' := RB e p cy s1 s2 of at_ a b c ar d x si pa st ++ MD pa ms st e p cy s1 s2 x a b c ar d at_ of) (q := (fErr e p pair ep == fErr e p pair ep)) ?_ (by simp) ⟨_, _, cy, s1, s2, of, at_, a, b, c, ar, d, x, si, pa, st, ms, rfl, hs.more hn⟩
    rw [e1, e2]; rfl
end Go.Proofs.Ytkclmlcfdijbmaa.Vx
