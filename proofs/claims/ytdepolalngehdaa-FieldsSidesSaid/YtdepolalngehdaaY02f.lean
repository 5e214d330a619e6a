import Derived.Test.YtdepolalngehdaaY02e
namespace Go.Proofs.Ytdepolalngehdaa.Vx
open Go Go.RowKit
set_option linter.unusedVariables false
set_option linter.unusedSimpArgs false
set_option maxRecDepth 100000
set_option maxHeartbeats 1000000
/-! ### FieldsSides -/
theorem fold_nm : ∀ (l : List Int) (a : Int), l.foldl (fun a b => a * 256 + b) a = a * 256 ^ l.length + nm l
  | [], a => by simp [nm]
  | b :: l, a => by
    have h1 := fold_nm l (a * 256 + b)
    have h2 : nm (b :: l) = (0 * 256 + b) * 256 ^ l.length + nm l := fold_nm l (0 * 256 + b)
    rw [h2]
    simp only [List.foldl_cons, List.length_cons, h1, Int.pow_succ]
    rw [Int.add_mul, Int.zero_mul, Int.zero_add, Int.mul_assoc, Int.mul_comm 256 (256 ^ l.length), Int.add_assoc]
theorem nm_cons (b : Int) (l : List Int) : nm (b :: l) = b * 256 ^ l.length + nm l := by
  have := fold_nm l (0 * 256 + b)
  rw [Int.zero_mul, Int.zero_add] at this
  have e : nm (b :: l) = l.foldl (fun a b => a * 256 + b) (0 * 256 + b) := rfl
  rw [e, Int.zero_mul, Int.zero_add]; exact this
def u8o (n : Int) : UInt8 := UInt8.ofNat n.toNat
theorem u8_lt {x y : Int} (hx : 0 ≤ x ∧ x < 256) (hy : 0 ≤ y ∧ y < 256) : decide (u8o x < u8o y) = decide (x < y) := by
  have : u8o x < u8o y ↔ x < y := by
    rw [UInt8.lt_iff_toNat_lt]
    unfold u8o
    rw [UInt8.toNat_ofNat', UInt8.toNat_ofNat']
    omega
  exact decide_eq_decide.2 this
theorem u8_eq {x y : Int} (hx : 0 ≤ x ∧ x < 256) (hy : 0 ≤ y ∧ y < 256) : (u8o x == u8o y) = decide (x = y) := by
  by_cases h : x = y
  · subst h; simp
  · have : ¬ u8o x = u8o y := fun e => by
      have := congrArg UInt8.toNat e
      unfold u8o at this
      rw [UInt8.toNat_ofNat', UInt8.toNat_ofNat'] at this
      omega
    simp [h, this]
theorem lt_nm : ∀ (a b : List Int), a.length = b.length → Wb a → Wb b → Op.bytesLess (a.map u8o) (b.map u8o) = decide (nm a < nm b)
  | [], [], _, _, _ => rfl
  | [], y :: b, h, _, _ => by simp at h
  | x :: a, [], h, _, _ => by simp at h
  | x :: a, y :: b, h, ha, hb => by
    have hl : a.length = b.length := by simpa using h
    have wa : Wb a := fun z hz => ha z (by simp [hz])
    have wb : Wb b := fun z hz => hb z (by simp [hz])
    have ih := lt_nm a b hl wa wb
    have bx := ha x (by simp)
    have by_ := hb y (by simp)
    have na := nm_bd wa
    have nb := nm_bd wb
    simp only [List.map_cons, Op.bytesLess]
    rw [ih, u8_lt bx by_, u8_eq bx by_, nm_cons, nm_cons]
    rw [hl] at na ⊢
    generalize (256 : Int) ^ b.length = P at na nb
    by_cases h1 : x < y
    · have : (x + 1) * P ≤ y * P := Int.mul_le_mul_of_nonneg_right (by omega) (by omega)
      rw [Int.add_mul, Int.one_mul] at this
      have k : x * P + nm a < y * P + nm b := by omega
      rw [decide_eq_true h1, decide_eq_true k]; rfl
    · by_cases h2 : x = y
      · subst h2
        rw [decide_eq_false h1, decide_eq_true rfl, Bool.false_or, Bool.true_and]
        exact decide_eq_decide.2 (by omega)
      · have : (y + 1) * P ≤ x * P := Int.mul_le_mul_of_nonneg_right (by omega) (by omega)
        rw [Int.add_mul, Int.one_mul] at this
        have k : ¬ (x * P + nm a < y * P + nm b) := by omega
        rw [decide_eq_false h1, decide_eq_false h2, decide_eq_false k]; rfl
theorem str_lt {a b : List Int} (h : a.length = b.length) (ha : Wb a) (hb : Wb b) : strLt (strOf a) (strOf b) = decide (nm a < nm b) := lt_nm a b h ha hb
theorem str_size (a : List Int) : ByteArray.size (strOf a) = a.length := by
  show (a.map _).toArray.size = a.length
  simp
theorem str_app (a b : List Int) : strEq (strOf (a ++ b)) (strOf a ++ strOf b) = true := by
  unfold strEq
  refine decide_eq_true ?_
  have e : (strOf a ++ strOf b).data = (strOf a).data ++ (strOf b).data := ByteArray.data_append
  rw [e]
  show ((a ++ b).map _).toArray.toList = ((a.map _).toArray ++ (b.map _).toArray).toList
  simp
theorem bq {a b : Bool} (h : a = b) : (a == b) = true := by subst h; simp
theorem t6k0 {n0 n1 n2 : Int} (h0 : 0 ≤ n0) (h1 : 0 ≤ n1) (hk : Int.tmod n2 4 = 0) : (ev_W6 [.n n0, .n n1, .n n2]).sel = some true := by
  obtain ⟨y, e, hy⟩ : Good (fun y => y = true) (ev_W6 [.n n0, .n n1, .n n2]).sel := by
    refine (fn_W6_k0_im n0 n1 n2 hk).good ?_
    unfold fn_W6_k0
    have l0 := be_len n0 1
    have l1 := be_len n1 1
    have e1 := t35a (IntKind.wrap .u64 (IntKind.wrap .u8 n0)) 1 (by omega) (by omega)
    rw [besw1 h0] at e1
    have e2 := t35a (IntKind.wrap .u64 (IntKind.wrap .u8 n1)) 1 (by omega) (by omega)
    rw [besw1 h1] at e2
    have e3 := t35b (IntKind.wrap .u64 (IntKind.wrap .u8 n1)) 1 (by omega) (bes n0 1) (by omega)
    rw [besw1 h1] at e3
    have e4 := t31 (l := (bes n0 1)) (by omega)
    have e5 := t31 (l := (bes n1 1)) (by omega)
    have b0 := bytes_back (be_wb n0 1)
    have b1 := bytes_back (be_wb n1 1)
    have e6 := t17 (l := (bes n0 1)) (by omega) (be_wb _ _)
    have e7 := t17 (l := (bes n1 1)) (by omega) (be_wb _ _)
    have e8 := t31 (l := (bes n0 1) ++ (bes n1 1)) (by rw [List.length_append]; omega)
    exact good_f (by erw [e1]; rfl) (good_t (by erw [e1]; rfl) (good_f (by erw [e2]; rfl) (good_t (by erw [e2]; rfl) (good_t (by erw [e1]; erw [e3]; rfl) (good_t (by erw [e1]; erw [e4]; rfl) (good_t (by erw [e2]; erw [e5]; rfl) (good_t (by erw [e1]; erw [e4]; erw [b0]; erw [e6]; rfl) (good_t (by erw [e2]; erw [e5]; erw [b1]; erw [e7]; rfl) (good_t (by erw [e1]; erw [e3]; erw [e8]; rfl) (good_t (by erw [e1, e2]; erw [e4]; erw [e5]; exact decide_eq_true (show ((ByteArray.size (strOf (bes n0 1)) + ByteArray.size (strOf (bes n1 1)) : Nat) : Int) ≤ 9223372036854775807 by rw [str_size, str_size, be_len, be_len]; omega)) (good_t (by erw [e1, e2]; erw [e3]; erw [e4]; erw [e5]; erw [e8]; exact str_app _ _) (good_t (by erw [e1, e2]; erw [e4]; erw [e5]; erw [b0, b1]; erw [e6]; erw [e7]; exact bq (str_lt (by rw [be_len, be_len]) (be_wb _ _) (be_wb _ _)).symm) (good_t (by rw [hk]; rfl) (good_t (by erw [e1]; erw [e4]; rw [hk]; exact beq_iff_eq.2 (show ((ByteArray.size (strOf (bes n0 1)) : Nat) : Int) = 1 by rw [str_size, be_len]; rfl)) (good_leaf rfl)))))))))))))))
  rw [e, hy]
theorem t6k1 {n0 n1 n2 : Int} (h0 : 0 ≤ n0) (h1 : 0 ≤ n1) (hk : Int.tmod n2 4 = 1) : (ev_W6 [.n n0, .n n1, .n n2]).sel = some true := by
  obtain ⟨y, e, hy⟩ : Good (fun y => y = true) (ev_W6 [.n n0, .n n1, .n n2]).sel := by
    refine (fn_W6_k1_im n0 n1 n2 hk).good ?_
    unfold fn_W6_k1
    have l0 := be_len n0 2
    have l1 := be_len n1 2
    have e1 := t35a (IntKind.wrap .u64 (IntKind.wrap .u16 n0)) 2 (by omega) (by omega)
    rw [besw2 h0] at e1
    have e2 := t35a (IntKind.wrap .u64 (IntKind.wrap .u16 n1)) 2 (by omega) (by omega)
    rw [besw2 h1] at e2
    have e3 := t35b (IntKind.wrap .u64 (IntKind.wrap .u16 n1)) 2 (by omega) (bes n0 2) (by omega)
    rw [besw2 h1] at e3
    have e4 := t31 (l := (bes n0 2)) (by omega)
    have e5 := t31 (l := (bes n1 2)) (by omega)
    have b0 := bytes_back (be_wb n0 2)
    have b1 := bytes_back (be_wb n1 2)
    have e6 := t17 (l := (bes n0 2)) (by omega) (be_wb _ _)
    have e7 := t17 (l := (bes n1 2)) (by omega) (be_wb _ _)
    have e8 := t31 (l := (bes n0 2) ++ (bes n1 2)) (by rw [List.length_append]; omega)
    exact good_f (by erw [e1]; rfl) (good_t (by erw [e1]; rfl) (good_f (by erw [e2]; rfl) (good_t (by erw [e2]; rfl) (good_t (by erw [e1]; erw [e3]; rfl) (good_t (by erw [e1]; erw [e4]; rfl) (good_t (by erw [e2]; erw [e5]; rfl) (good_t (by erw [e1]; erw [e4]; erw [b0]; erw [e6]; rfl) (good_t (by erw [e2]; erw [e5]; erw [b1]; erw [e7]; rfl) (good_t (by erw [e1]; erw [e3]; erw [e8]; rfl) (good_t (by erw [e1, e2]; erw [e4]; erw [e5]; exact decide_eq_true (show ((ByteArray.size (strOf (bes n0 2)) + ByteArray.size (strOf (bes n1 2)) : Nat) : Int) ≤ 9223372036854775807 by rw [str_size, str_size, be_len, be_len]; omega)) (good_t (by erw [e1, e2]; erw [e3]; erw [e4]; erw [e5]; erw [e8]; exact str_app _ _) (good_t (by erw [e1, e2]; erw [e4]; erw [e5]; erw [b0, b1]; erw [e6]; erw [e7]; exact bq (str_lt (by rw [be_len, be_len]) (be_wb _ _) (be_wb _ _)).symm) (good_t (by rw [hk]; rfl) (good_t (by erw [e1]; erw [e4]; rw [hk]; exact beq_iff_eq.2 (show ((ByteArray.size (strOf (bes n0 2)) : Nat) : Int) = 2 by rw [str_size, be_len]; rfl)) (good_leaf rfl)))))))))))))))
  rw [e, hy]
theorem t6k2 {n0 n1 n2 : Int} (h0 : 0 ≤ n0) (h1 : 0 ≤ n1) (hk : Int.tmod n2 4 = 2) : (ev_W6 [.n n0, .n n1, .n n2]).sel = some true := by
  obtain ⟨y, e, hy⟩ : Good (fun y => y = true) (ev_W6 [.n n0, .n n1, .n n2]).sel := by
    refine (fn_W6_k2_im n0 n1 n2 hk).good ?_
    unfold fn_W6_k2
    have l0 := be_len n0 4
    have l1 := be_len n1 4
    have e1 := t35a (IntKind.wrap .u64 (IntKind.wrap .u32 n0)) 4 (by omega) (by omega)
    rw [besw4 h0] at e1
    have e2 := t35a (IntKind.wrap .u64 (IntKind.wrap .u32 n1)) 4 (by omega) (by omega)
    rw [besw4 h1] at e2
    have e3 := t35b (IntKind.wrap .u64 (IntKind.wrap .u32 n1)) 4 (by omega) (bes n0 4) (by omega)
    rw [besw4 h1] at e3
    have e4 := t31 (l := (bes n0 4)) (by omega)
    have e5 := t31 (l := (bes n1 4)) (by omega)
    have b0 := bytes_back (be_wb n0 4)
    have b1 := bytes_back (be_wb n1 4)
    have e6 := t17 (l := (bes n0 4)) (by omega) (be_wb _ _)
    have e7 := t17 (l := (bes n1 4)) (by omega) (be_wb _ _)
    have e8 := t31 (l := (bes n0 4) ++ (bes n1 4)) (by rw [List.length_append]; omega)
    exact good_f (by erw [e1]; rfl) (good_t (by erw [e1]; rfl) (good_f (by erw [e2]; rfl) (good_t (by erw [e2]; rfl) (good_t (by erw [e1]; erw [e3]; rfl) (good_t (by erw [e1]; erw [e4]; rfl) (good_t (by erw [e2]; erw [e5]; rfl) (good_t (by erw [e1]; erw [e4]; erw [b0]; erw [e6]; rfl) (good_t (by erw [e2]; erw [e5]; erw [b1]; erw [e7]; rfl) (good_t (by erw [e1]; erw [e3]; erw [e8]; rfl) (good_t (by erw [e1, e2]; erw [e4]; erw [e5]; exact decide_eq_true (show ((ByteArray.size (strOf (bes n0 4)) + ByteArray.size (strOf (bes n1 4)) : Nat) : Int) ≤ 9223372036854775807 by rw [str_size, str_size, be_len, be_len]; omega)) (good_t (by erw [e1, e2]; erw [e3]; erw [e4]; erw [e5]; erw [e8]; exact str_app _ _) (good_t (by erw [e1, e2]; erw [e4]; erw [e5]; erw [b0, b1]; erw [e6]; erw [e7]; exact bq (str_lt (by rw [be_len, be_len]) (be_wb _ _) (be_wb _ _)).symm) (good_t (by rw [hk]; rfl) (good_t (by erw [e1]; erw [e4]; rw [hk]; exact beq_iff_eq.2 (show ((ByteArray.size (strOf (bes n0 4)) : Nat) : Int) = 4 by rw [str_size, be_len]; rfl)) (good_leaf rfl)))))))))))))))
  rw [e, hy]
theorem t6k3 {n0 n1 n2 : Int} (h0 : 0 ≤ n0) (h1 : 0 ≤ n1) (hk : Int.tmod n2 4 = 3) : (ev_W6 [.n n0, .n n1, .n n2]).sel = some true := by
  obtain ⟨y, e, hy⟩ : Good (fun y => y = true) (ev_W6 [.n n0, .n n1, .n n2]).sel := by
    refine (fn_W6_k3_im n0 n1 n2 hk).good ?_
    unfold fn_W6_k3
    have l0 := be_len n0 8
    have l1 := be_len n1 8
    have e1 := t35a n0 8 (by omega) (by omega)
    skip -- h0 e1
    have e2 := t35a n1 8 (by omega) (by omega)
    skip -- h1 e2
    have e3 := t35b n1 8 (by omega) (bes n0 8) (by omega)
    skip -- h1 e3
    have e4 := t31 (l := (bes n0 8)) (by omega)
    have e5 := t31 (l := (bes n1 8)) (by omega)
    have b0 := bytes_back (be_wb n0 8)
    have b1 := bytes_back (be_wb n1 8)
    have e6 := t17 (l := (bes n0 8)) (by omega) (be_wb _ _)
    have e7 := t17 (l := (bes n1 8)) (by omega) (be_wb _ _)
    have e8 := t31 (l := (bes n0 8) ++ (bes n1 8)) (by rw [List.length_append]; omega)
    exact good_f (by erw [e1]; rfl) (good_t (by erw [e1]; rfl) (good_f (by erw [e2]; rfl) (good_t (by erw [e2]; rfl) (good_t (by erw [e1]; erw [e3]; rfl) (good_t (by erw [e1]; erw [e4]; rfl) (good_t (by erw [e2]; erw [e5]; rfl) (good_t (by erw [e1]; erw [e4]; erw [b0]; erw [e6]; rfl) (good_t (by erw [e2]; erw [e5]; erw [b1]; erw [e7]; rfl) (good_t (by erw [e1]; erw [e3]; erw [e8]; rfl) (good_t (by erw [e1, e2]; erw [e4]; erw [e5]; exact decide_eq_true (show ((ByteArray.size (strOf (bes n0 8)) + ByteArray.size (strOf (bes n1 8)) : Nat) : Int) ≤ 9223372036854775807 by rw [str_size, str_size, be_len, be_len]; omega)) (good_t (by erw [e1, e2]; erw [e3]; erw [e4]; erw [e5]; erw [e8]; exact str_app _ _) (good_t (by erw [e1, e2]; erw [e4]; erw [e5]; erw [b0, b1]; erw [e6]; erw [e7]; exact bq (str_lt (by rw [be_len, be_len]) (be_wb _ _) (be_wb _ _)).symm) (good_t (by rw [hk]; rfl) (good_t (by erw [e1]; erw [e4]; rw [hk]; exact beq_iff_eq.2 (show ((ByteArray.size (strOf (bes n0 8)) : Nat) : Int) = 8 by rw [str_size, be_len]; rfl)) (good_leaf rfl)))))))))))))))
  rw [e, hy]
theorem t6' {n0 n1 n2 : Int} (h0 : wfD (.int .u64) n0 = true) (h1 : wfD (.int .u64) n1 = true) (h2 : wfD (.int .u8) n2 = true) : (ev_W6 [.n n0, .n n1, .n n2]).sel = some true := by
  have a' : (decide (IntKind.min .u64 ≤ n0) && decide (n0 ≤ IntKind.max .u64)) = true := h0
  have b' : (decide (IntKind.min .u64 ≤ n1) && decide (n1 ≤ IntKind.max .u64)) = true := h1
  have c' : (decide (IntKind.min .u8 ≤ n2) && decide (n2 ≤ IntKind.max .u8)) = true := h2
  rw [Bool.and_eq_true, decide_eq_true_eq, decide_eq_true_eq] at a' b' c'
  have m1 : IntKind.min .u8 = 0 := rfl
  have m3 : IntKind.min .u64 = 0 := rfl
  have hk : Int.tmod n2 4 = 0 ∨ Int.tmod n2 4 = 1 ∨ Int.tmod n2 4 = 2 ∨ Int.tmod n2 4 = 3 := by
    rw [Int.tmod_eq_emod_of_nonneg (by omega)]; omega
  rcases hk with hk | hk | hk | hk
  · exact t6k0 (by omega) (by omega) hk
  · exact t6k1 (by omega) (by omega) hk
  · exact t6k2 (by omega) (by omega) hk
  · exact t6k3 (by omega) (by omega) hk
end Go.Proofs.Ytdepolalngehdaa.Vx
