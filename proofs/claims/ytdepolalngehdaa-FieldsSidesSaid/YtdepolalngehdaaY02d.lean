import Derived.Test.YtdepolalngehdaaY02c
namespace Go.Proofs.Ytdepolalngehdaa.Vx
open Go Go.RowKit
set_option linter.unusedVariables false
set_option linter.unusedSimpArgs false
set_option maxRecDepth 100000
set_option maxHeartbeats 1000000
theorem byt0 {n : Int} (h : 0 ≤ n) : byt n 0 = n / 1 % 256 := by
  show IntKind.wrap .u8 (n.fdiv 1) = _
  rw [wu8, Int.fdiv_eq_ediv_of_nonneg _ (by decide)]
theorem byt1 {n : Int} (h : 0 ≤ n) : byt n 1 = n / 256 % 256 := by
  show IntKind.wrap .u8 (n.fdiv 256) = _
  rw [wu8, Int.fdiv_eq_ediv_of_nonneg _ (by decide)]
theorem byt2 {n : Int} (h : 0 ≤ n) : byt n 2 = n / 65536 % 256 := by
  show IntKind.wrap .u8 (n.fdiv 65536) = _
  rw [wu8, Int.fdiv_eq_ediv_of_nonneg _ (by decide)]
theorem byt3 {n : Int} (h : 0 ≤ n) : byt n 3 = n / 16777216 % 256 := by
  show IntKind.wrap .u8 (n.fdiv 16777216) = _
  rw [wu8, Int.fdiv_eq_ediv_of_nonneg _ (by decide)]
theorem byt4 {n : Int} (h : 0 ≤ n) : byt n 4 = n / 4294967296 % 256 := by
  show IntKind.wrap .u8 (n.fdiv 4294967296) = _
  rw [wu8, Int.fdiv_eq_ediv_of_nonneg _ (by decide)]
theorem byt5 {n : Int} (h : 0 ≤ n) : byt n 5 = n / 1099511627776 % 256 := by
  show IntKind.wrap .u8 (n.fdiv 1099511627776) = _
  rw [wu8, Int.fdiv_eq_ediv_of_nonneg _ (by decide)]
theorem byt6 {n : Int} (h : 0 ≤ n) : byt n 6 = n / 281474976710656 % 256 := by
  show IntKind.wrap .u8 (n.fdiv 281474976710656) = _
  rw [wu8, Int.fdiv_eq_ediv_of_nonneg _ (by decide)]
theorem byt7 {n : Int} (h : 0 ≤ n) : byt n 7 = n / 72057594037927936 % 256 := by
  show IntKind.wrap .u8 (n.fdiv 72057594037927936) = _
  rw [wu8, Int.fdiv_eq_ediv_of_nonneg _ (by decide)]
theorem nmb1 {n : Int} (h : 0 ≤ n) : nm (bes n 1) = n % 256 := by
  show nm [byt n 0] = _
  rw [byt0 h]
  simp only [nm, List.foldl]
  omega
theorem nmb2 {n : Int} (h : 0 ≤ n) : nm (bes n 2) = n % 65536 := by
  show nm [byt n 1, byt n 0] = _
  rw [byt0 h, byt1 h]
  simp only [nm, List.foldl]
  omega
theorem nmb4 {n : Int} (h : 0 ≤ n) : nm (bes n 4) = n % 4294967296 := by
  show nm [byt n 3, byt n 2, byt n 1, byt n 0] = _
  rw [byt0 h, byt1 h, byt2 h, byt3 h]
  simp only [nm, List.foldl]
  omega
theorem nmb8 {n : Int} (h : 0 ≤ n) : nm (bes n 8) = n % 18446744073709551616 := by
  show nm [byt n 7, byt n 6, byt n 5, byt n 4, byt n 3, byt n 2, byt n 1, byt n 0] = _
  rw [byt0 h, byt1 h, byt2 h, byt3 h, byt4 h, byt5 h, byt6 h, byt7 h]
  simp only [nm, List.foldl]
  omega
theorem besw1 {n : Int} (h : 0 ≤ n) : bes (IntKind.wrap .u64 (IntKind.wrap .u8 n)) 1 = bes n 1 := by
  have e : IntKind.wrap .u64 (IntKind.wrap .u8 n) = n % 256 := by rw [wu8, wu64]; omega
  have h' : 0 ≤ n % 256 := by omega
  rw [e]
  show [byt (n % 256) 0] = [byt n 0]
  rw [byt0 h', byt0 h]
  congr 1 <;> (try omega) <;> (try (congr 1 <;> (try omega) <;> (try (congr 1 <;> (try omega) <;> (try (congr 1 <;> omega))))))
theorem besw2 {n : Int} (h : 0 ≤ n) : bes (IntKind.wrap .u64 (IntKind.wrap .u16 n)) 2 = bes n 2 := by
  have e : IntKind.wrap .u64 (IntKind.wrap .u16 n) = n % 65536 := by rw [wu16, wu64]; omega
  have h' : 0 ≤ n % 65536 := by omega
  rw [e]
  show [byt (n % 65536) 1, byt (n % 65536) 0] = [byt n 1, byt n 0]
  rw [byt0 h', byt1 h', byt0 h, byt1 h]
  congr 1 <;> (try omega) <;> (try (congr 1 <;> (try omega) <;> (try (congr 1 <;> (try omega) <;> (try (congr 1 <;> omega))))))
theorem besw4 {n : Int} (h : 0 ≤ n) : bes (IntKind.wrap .u64 (IntKind.wrap .u32 n)) 4 = bes n 4 := by
  have e : IntKind.wrap .u64 (IntKind.wrap .u32 n) = n % 4294967296 := by rw [wu32, wu64]; omega
  have h' : 0 ≤ n % 4294967296 := by omega
  rw [e]
  show [byt (n % 4294967296) 3, byt (n % 4294967296) 2, byt (n % 4294967296) 1, byt (n % 4294967296) 0] = [byt n 3, byt n 2, byt n 1, byt n 0]
  rw [byt0 h', byt1 h', byt2 h', byt3 h', byt0 h, byt1 h, byt2 h, byt3 h]
  congr 1 <;> (try omega) <;> (try (congr 1 <;> (try omega) <;> (try (congr 1 <;> (try omega) <;> (try (congr 1 <;> omega))))))
/-- What an item has as bytes. -/
def encI (l0 : LI) (i : Int) : List Int := if Int.tmod (it_1 l0 i) 5 = 4 then it_3 l0 i else bes (it_2 l0 i) (if Int.tmod (it_1 l0 i) 5 = 0 then 1 else if Int.tmod (it_1 l0 i) 5 = 1 then 2 else if Int.tmod (it_1 l0 i) 5 = 2 then 4 else 8)
theorem enc0 {l0 : LI} {i : Int} (h : Int.tmod (it_1 l0 i) 5 = 0) : encI l0 i = bes (it_2 l0 i) 1 := by unfold encI; rw [h]; rfl
theorem enc1 {l0 : LI} {i : Int} (h : Int.tmod (it_1 l0 i) 5 = 1) : encI l0 i = bes (it_2 l0 i) 2 := by unfold encI; rw [h]; rfl
theorem enc2 {l0 : LI} {i : Int} (h : Int.tmod (it_1 l0 i) 5 = 2) : encI l0 i = bes (it_2 l0 i) 4 := by unfold encI; rw [h]; rfl
theorem enc3 {l0 : LI} {i : Int} (h : Int.tmod (it_1 l0 i) 5 = 3) : encI l0 i = bes (it_2 l0 i) 8 := by unfold encI; rw [h]; rfl
theorem enc4 {l0 : LI} {i : Int} (h : Int.tmod (it_1 l0 i) 5 = 4) : encI l0 i = it_3 l0 i := by unfold encI; rw [h]; rfl
def encTo (l0 : LI) : Nat → List Int
  | 0 => []
  | n + 1 => encTo l0 n ++ encI l0 (n : Int)
def encFr (l0 : LI) : Nat → Nat → List Int
  | _, 0 => []
  | i, c + 1 => encI l0 (i : Int) ++ encFr l0 (i + 1) c
theorem encFr_snoc (l0 : LI) : ∀ (c i : Nat), encFr l0 i (c + 1) = encFr l0 i c ++ encI l0 ((i + c : Nat) : Int)
  | 0, i => by simp [encFr]
  | c + 1, i => by
    have := encFr_snoc l0 c (i + 1)
    show encI l0 (i : Int) ++ encFr l0 (i + 1) (c + 1) = (encI l0 (i : Int) ++ encFr l0 (i + 1) c) ++ encI l0 ((i + (c + 1) : Nat) : Int)
    rw [this, List.append_assoc, show i + 1 + c = i + (c + 1) by omega]
theorem encTo_fr (l0 : LI) : ∀ n, encTo l0 n = encFr l0 0 n
  | 0 => rfl
  | n + 1 => by rw [encFr_snoc, ← encTo_fr l0 n, Nat.zero_add]; rfl
/-- What is known of all items. -/
def Its (l0 : LI) : Prop := l0.length ≤ 100 ∧ ∀ i : Int, 0 ≤ i → i < (l0.length : Int) → 0 ≤ it_1 l0 i ∧ it_1 l0 i < 256 ∧ 0 ≤ it_2 l0 i ∧ it_2 l0 i < 18446744073709551616 ∧ Wb (it_3 l0 i) ∧ (it_3 l0 i).length ≤ 3000
theorem enc_len {l0 : LI} (h : Its l0) {i : Int} (h0 : 0 ≤ i) (h1 : i < (l0.length : Int)) : (encI l0 i).length ≤ 3000 := by
  have hx := h.2 i h0 h1
  rcases kinds5 hx.1 with hk | hk | hk | hk | hk
  · rw [enc0 hk, be_len]; omega
  · rw [enc1 hk, be_len]; omega
  · rw [enc2 hk, be_len]; omega
  · rw [enc3 hk, be_len]; omega
  · rw [enc4 hk]; exact hx.2.2.2.2.2
theorem enc_wb {l0 : LI} (h : Its l0) {i : Int} (h0 : 0 ≤ i) (h1 : i < (l0.length : Int)) : Wb (encI l0 i) := by
  have hx := h.2 i h0 h1
  rcases kinds5 hx.1 with hk | hk | hk | hk | hk
  · rw [enc0 hk]; exact be_wb _ _
  · rw [enc1 hk]; exact be_wb _ _
  · rw [enc2 hk]; exact be_wb _ _
  · rw [enc3 hk]; exact be_wb _ _
  · rw [enc4 hk]; exact hx.2.2.2.2.1
theorem encTo_len {l0 : LI} (h : Its l0) : ∀ n : Nat, n ≤ l0.length → (encTo l0 n).length ≤ 3000 * n
  | 0, _ => by simp [encTo]
  | n + 1, hn => by
    have a := encTo_len h n (by omega)
    have b := enc_len h (i := (n : Int)) (by omega) (by omega)
    rw [encTo, List.length_append]; omega
theorem Wb.app {a b : List Int} (h : Wb a) (k : Wb b) : Wb (a ++ b) := fun x hx => by
  rcases List.mem_append.1 hx with q | q
  · exact h x q
  · exact k x q
theorem encFr_wb {l0 : LI} (h : Its l0) : ∀ c i : Nat, i + c ≤ l0.length → Wb (encFr l0 i c)
  | 0, i, _ => fun x hx => by cases hx
  | c + 1, i, hc => by
    rw [encFr]
    exact (enc_wb h (by omega) (by omega)).app (encFr_wb h c (i + 1) (by omega))
theorem encFr_len {l0 : LI} (h : Its l0) : ∀ c i : Nat, i + c ≤ l0.length → (encFr l0 i c).length ≤ 3000 * c
  | 0, i, _ => by simp [encFr]
  | c + 1, i, hc => by
    have a := enc_len h (i := (i : Int)) (by omega) (by omega)
    have b := encFr_len h c (i + 1) (by omega)
    rw [encFr, List.length_append]; omega
/-! ### Are there too many? -/
theorem lp8 (l0 : LI) (hl : l0.length ≤ 100) : Good (fun y => y = (1, [Dat.b true]) ∨ (y = (0, []) ∧ ∀ i : Int, 0 ≤ i → i < (l0.length : Int) → (it_3 l0 i).length ≤ 3000)) (op_L8_5 [.k 0, .l TIt l0, .n 0, .n 0]) := by
  refine op_L8_5_good (fun env => ∃ (s i : Int), env = [.k 0, .l TIt l0, .n s, .n i] ∧ 0 ≤ s ∧ s ≤ 3000 ∧ 0 ≤ i ∧ i ≤ (l0.length : Int) ∧ ∀ j : Int, 0 ≤ j → j < i → (it_3 l0 j).length ≤ 3000) (fun env => (l0.length - gn env 3).toNat) ?_ _ ⟨0, 0, rfl, by omega, by omega, by omega, by omega, fun j a b => by omega⟩ (by show ((l0.length : Int) - 0).toNat < FU; unfold FU; omega)
  rintro env ⟨s, i, rfl, a0, a1, a2, a3, a4⟩
  have w := w64s (x := i + 1) (by omega) (by omega)
  have w3 := w64s (x := 3000 - s) (by omega) (by omega)
  refine Imp.good (fn_L8_5_t_im l0 s i) ?_
  unfold fn_L8_5_t
  refine good_node (fun q => ?_) (fun q => ?_)
  · have hi : i < (l0.length : Int) := of_decide_eq_true q
    refine good_t (inR_true a2 hi) ?_
    refine good_node (fun q => good_leaf (.inl rfl)) (fun q => ?_)
    rw [w3] at q
    have hb : ((it_3 l0 i).length : Int) ≤ 3000 - s := by have : ¬ (((it_3 l0 i).length : Int) > 3000 - s) := of_decide_eq_false q; omega
    have ws : IntKind.wrap .i64 (s + ((it_3 l0 i).length : Int)) = s + ((it_3 l0 i).length : Int) := w64s (by omega) (by omega)
    refine good_leaf ⟨⟨s + ((it_3 l0 i).length : Int), i + 1, by erw [ws, w], by omega, by omega, by omega, by omega, fun j b0 b1 => ?_⟩, ?_⟩
    · by_cases e : j = i
      · subst e; omega
      · exact a4 j b0 (by omega)
    · show ((l0.length : Int) - IntKind.wrap .i64 (i + 1)).toNat < ((l0.length : Int) - i).toNat
      rw [w]; omega
  · have hi : ¬ i < (l0.length : Int) := of_decide_eq_false q
    exact good_leaf (.inr ⟨rfl, fun j b0 b1 => a4 j b0 (by omega)⟩)
theorem t8 (l0 : LI) (hw : wfD (.sl TIt) l0 = true) : op_8 [.l TIt l0] = some (0, [.b true]) ∨ (op_8 [.l TIt l0] = some (0, [.b false]) ∧ Its l0) := by
  have key : Good (fun y => y = (0, [Dat.b true]) ∨ (y = (0, [Dat.b false]) ∧ Its l0)) (op_8 [.l TIt l0]) := by
    refine op_8_good (fn_8_t_im l0) ?_
    unfold fn_8_t
    refine good_node (fun _ => good_leaf (.inl rfl)) (fun q => ?_)
    have hl : l0.length ≤ 100 := by have := of_decide_eq_false q; omega
    obtain ⟨y, e, hy⟩ := lp8 l0 hl
    rcases hy with rfl | ⟨rfl, hy⟩
    · exact good_f (by erw [e]; rfl) (good_t (by erw [e]; rfl) (good_leaf (.inl (by erw [e]; rfl))))
    · exact good_t (by erw [e]; rfl) (good_leaf (.inr ⟨rfl, hl, fun i a b => ⟨(wf_items hw i a b).1, (wf_items hw i a b).2.1, (wf_items hw i a b).2.2.1, (wf_items hw i a b).2.2.2.1, (wf_items hw i a b).2.2.2.2, hy i a b⟩⟩))
  obtain ⟨y, e, hy⟩ := key
  rw [e]
  rcases hy with rfl | ⟨rfl, h⟩
  · exact .inl rfl
  · exact .inr ⟨rfl, h⟩
theorem pr1 {a b c d : List Int} (h : a = c) (k : b = d) : (some (0, [Dat.n (nm a), .s s0, .l TB b, .b false]) : Option (Nat × List Dat)) = some (0, [Dat.n (nm c), .s s0, .l TB d, .b false]) := by subst h; subst k; rfl
theorem pr2 {a b c d : List Int} (h : a = c) (k : b = d) : (some (0, [Dat.n 0, .s (strOf a), .l TB b, .b false]) : Option (Nat × List Dat)) = some (0, [Dat.n 0, .s (strOf c), .l TB d, .b false]) := by subst h; subst k; rfl
theorem pr3 {a b c d : List Int} (h : a = c) (k : b = d) : (some (0, [Dat.l TB a, .l TB b, .b false]) : Option (Nat × List Dat)) = some (0, [Dat.l TB c, .l TB d, .b false]) := by subst h; subst k; rfl
/-! ### FieldsBack -/
def InvW (l0 : LI) (l1 : List Int) (i : Int) (env : List Dat) : Prop := (i = 0 ∧ env = [.k 0, .l TIt l0, .l TB l1, .n 0]) ∨ (1 ≤ i ∧ env = [.k 1, .l TIt l0, .l TB l1, .n i, .l TB (encTo l0 i.toNat)])
def StepW (l0 : LI) (l1 : List Int) (i : Int) : Step → Prop
  | .go e => InvW l0 l1 (i + 1) e
  | .stop k d => False
theorem encTo_step (l0 : LI) {i : Int} (h : 0 ≤ i) : encTo l0 (i + 1).toNat = encTo l0 i.toNat ++ encI l0 i := by
  rw [show (i + 1).toNat = i.toNat + 1 by omega, encTo, show ((i.toNat : Nat) : Int) = i by omega]
theorem encTo_one (l0 : LI) : encTo l0 ((0 : Int) + 1).toNat = encI l0 0 := by
  rw [encTo_step l0 (by omega)]; rfl
theorem stepWn {l0 : LI} {l1 : List Int} (hI : Its l0) {i : Int} (hi : i = 0) (h1 : i < (l0.length : Int)) : Good (StepW l0 l1 i) (st_L5_5 [.k 0, .l TIt l0, .l TB l1, .n i]).sel := by
  obtain ⟨p0, _, p2, p3, p4, p5⟩ := hI.2 i (by omega) h1
  have w := w64s (x := i + 1) (by omega) (by omega)
  refine Imp.good (fn_L5_5_n_im l0 l1 i (by omega) h1) ?_
  unfold fn_L5_5_n
  have fin : ∀ x : List Int, x = encI l0 i → InvW l0 l1 (i + 1) [.k 1, .l TIt l0, .l TB l1, .n (i + 1), .l TB x] := fun x hx => .inr ⟨by omega, by subst hi; rw [encTo_one, hx]⟩
  rcases kinds5 p0 with hk | hk | hk | hk | hk
  · have e1 := t35a (IntKind.wrap .u64 (IntKind.wrap .u8 (it_2 l0 i))) 1 (by omega) (by omega)
    rw [besw1 p2] at e1
    exact good_t (by rw [hk]; rfl) (good_f (by erw [e1]; rfl) (good_t (by erw [e1]; rfl) (good_leaf (by erw [e1, w]; exact fin _ (enc0 hk).symm))))
  · have e1 := t35a (IntKind.wrap .u64 (IntKind.wrap .u16 (it_2 l0 i))) 2 (by omega) (by omega)
    rw [besw2 p2] at e1
    exact good_f (by rw [hk]; rfl) (good_t (by rw [hk]; rfl) (good_f (by erw [e1]; rfl) (good_t (by erw [e1]; rfl) (good_leaf (by erw [e1, w]; exact fin _ (enc1 hk).symm)))))
  · have e1 := t35a (IntKind.wrap .u64 (IntKind.wrap .u32 (it_2 l0 i))) 4 (by omega) (by omega)
    rw [besw4 p2] at e1
    exact good_f (by rw [hk]; rfl) (good_f (by rw [hk]; rfl) (good_t (by rw [hk]; rfl) (good_f (by erw [e1]; rfl) (good_t (by erw [e1]; rfl) (good_leaf (by erw [e1, w]; exact fin _ (enc2 hk).symm))))))
  · have e1 := t35a (it_2 l0 i) 8 (by omega) (by omega)
    skip
    exact good_f (by rw [hk]; rfl) (good_f (by rw [hk]; rfl) (good_f (by rw [hk]; rfl) (good_t (by rw [hk]; rfl) (good_f (by erw [e1]; rfl) (good_t (by erw [e1]; rfl) (good_leaf (by erw [e1, w]; exact fin _ (enc3 hk).symm)))))))
  · exact good_f (by rw [hk]; rfl) (good_f (by rw [hk]; rfl) (good_f (by rw [hk]; rfl) (good_f (by rw [hk]; rfl) (good_t (decide_eq_true (show (it_3 l0 i).length * 1 ≤ 140737488355328 by omega)) (good_leaf (by erw [w]; exact fin _ (enc4 hk).symm))))))
theorem stepWo {l0 : LI} {l1 : List Int} (hI : Its l0) {i : Int} (h0 : 1 ≤ i) (h1 : i < (l0.length : Int)) {l : List Int} (hl : l = encTo l0 i.toNat) : Good (StepW l0 l1 i) (st_L5_5 [.k 1, .l TIt l0, .l TB l1, .n i, .l TB l]).sel := by
  obtain ⟨p0, _, p2, p3, p4, p5⟩ := hI.2 i (by omega) h1
  have hlen := hI.1
  have w := w64s (x := i + 1) (by omega) (by omega)
  have hll : l.length ≤ 300000 := by
    have := encTo_len hI i.toNat (by omega)
    rw [hl]; omega
  refine Imp.good (fn_L5_5_o_im l0 l1 i l (by omega) h1) ?_
  unfold fn_L5_5_o
  have fin : ∀ x : List Int, x = l ++ encI l0 i → InvW l0 l1 (i + 1) [.k 1, .l TIt l0, .l TB l1, .n (i + 1), .l TB x] := fun x hx => .inr ⟨by omega, by rw [encTo_step l0 (by omega), hx, hl]⟩
  rcases kinds5 p0 with hk | hk | hk | hk | hk
  · have e1 := t35b (IntKind.wrap .u64 (IntKind.wrap .u8 (it_2 l0 i))) 1 (by omega) l (by omega)
    rw [besw1 p2] at e1
    exact good_t (by rw [hk]; rfl) (good_t (by erw [e1]; rfl) (good_leaf (by erw [e1, w]; exact fin _ (by rw [enc0 hk]; rfl))))
  · have e1 := t35b (IntKind.wrap .u64 (IntKind.wrap .u16 (it_2 l0 i))) 2 (by omega) l (by omega)
    rw [besw2 p2] at e1
    exact good_f (by rw [hk]; rfl) (good_t (by rw [hk]; rfl) (good_t (by erw [e1]; rfl) (good_leaf (by erw [e1, w]; exact fin _ (by rw [enc1 hk]; rfl)))))
  · have e1 := t35b (IntKind.wrap .u64 (IntKind.wrap .u32 (it_2 l0 i))) 4 (by omega) l (by omega)
    rw [besw4 p2] at e1
    exact good_f (by rw [hk]; rfl) (good_f (by rw [hk]; rfl) (good_t (by rw [hk]; rfl) (good_t (by erw [e1]; rfl) (good_leaf (by erw [e1, w]; exact fin _ (by rw [enc2 hk]; rfl))))))
  · have e1 := t35b (it_2 l0 i) 8 (by omega) l (by omega)
    skip
    exact good_f (by rw [hk]; rfl) (good_f (by rw [hk]; rfl) (good_f (by rw [hk]; rfl) (good_t (by rw [hk]; rfl) (good_t (by erw [e1]; rfl) (good_leaf (by erw [e1, w]; exact fin _ (by rw [enc3 hk]; rfl)))))))
  · exact good_f (by rw [hk]; rfl) (good_f (by rw [hk]; rfl) (good_f (by rw [hk]; rfl) (good_f (by rw [hk]; rfl) (good_t (decide_eq_true (show (l.length + (it_3 l0 i).length) * 1 ≤ 140737488355328 by omega)) (good_leaf (by erw [w]; exact fin _ (by rw [enc4 hk]; rfl)))))))
theorem atW {l0 : LI} {l1 : List Int} {i : Int} {env : List Dat} (h : InvW l0 l1 i env) : gn env 3 = i := by
  rcases h with ⟨rfl, rfl⟩ | ⟨_, rfl⟩ <;> rfl
def EndW (l0 : LI) (l1 : List Int) (y : Nat × List Dat) : Prop := (l0.length = 0 ∧ y = (0, [.l TIt l0, .l TB l1])) ∨ (1 ≤ l0.length ∧ y = (1, [.l TIt l0, .l TB l1, .l TB (encTo l0 l0.length)]))
theorem runW {l0 : LI} {l1 : List Int} (hI : Its l0) : Good (EndW l0 l1) (op_L5_5 [.k 0, .l TIt l0, .l TB l1, .n 0]) := by
  have hlen := hI.1
  refine op_L5_5_good (fun env => ∃ i : Int, 0 ≤ i ∧ i ≤ l0.length ∧ InvW l0 l1 i env) (fun env => (l0.length - gn env 3).toNat) ?_ _ ⟨0, by omega, by omega, .inl ⟨rfl, rfl⟩⟩ (by show ((l0.length : Int) - 0).toNat < FU; unfold FU; omega)
  rintro env ⟨i, h0, h1, hI'⟩
  rw [atW hI']
  by_cases hlt : i < l0.length
  · have fin : Good (StepW l0 l1 i) (st_L5_5 env).sel := by
      rcases hI' with ⟨rfl, rfl⟩ | ⟨a, rfl⟩
      · exact stepWn hI rfl hlt
      · exact stepWo hI a hlt rfl
    obtain ⟨y, e, hy⟩ := fin
    refine ⟨y, e, ?_⟩
    cases y with
    | stop k d => exact hy.elim
    | go e' =>
      have hy : InvW l0 l1 (i + 1) e' := hy
      refine ⟨⟨i + 1, by omega, by omega, hy⟩, ?_⟩
      show ((l0.length : Int) - gn e' 3).toNat < _
      rw [atW hy]; omega
  · have hd : i = (l0.length : Int) := by omega
    rcases hI' with ⟨rfl, rfl⟩ | ⟨a, rfl⟩
    · exact Imp.good (fn_L5_5_xn_im l0 l1 0 hd) (good_leaf (.inl ⟨by omega, rfl⟩))
    · refine Imp.good (fn_L5_5_xo_im l0 l1 i _ hd) (good_leaf (.inr ⟨by omega, ?_⟩))
      rw [show i.toNat = l0.length by omega]
def InvB (l0 : LI) (l1 : List Int) (i : Int) (env : List Dat) : Prop := env = [.k 0, .l TIt l0, .l TB l1, .n i, .l TB (encFr l0 i.toNat (l0.length - i.toNat) ++ l1), .b false]
def StepB (l0 : LI) (l1 : List Int) (i : Int) : Step → Prop
  | .go e => InvB l0 l1 (i + 1) e
  | .stop k d => False
theorem stepB {l0 : LI} {l1 : List Int} (hI : Its l0) (hw1 : Wb l1) (hl1 : l1.length ≤ 3000) {i : Int} (h0 : 0 ≤ i) (h1 : i < (l0.length : Int)) {l : List Int} (hl : l = encFr l0 i.toNat (l0.length - i.toNat) ++ l1) : Good (StepB l0 l1 i) (st_L5_11 [.k 0, .l TIt l0, .l TB l1, .n i, .l TB l, .b false]).sel := by
  obtain ⟨p0, _, p2, p3, p4, p5⟩ := hI.2 i h0 h1
  have hlen := hI.1
  have w := w64s (x := i + 1) (by omega) (by omega)
  obtain ⟨c, hc⟩ : ∃ c, l0.length - i.toNat = c + 1 := ⟨l0.length - i.toNat - 1, by omega⟩
  obtain ⟨rest, hrest⟩ : ∃ rest, rest = encFr l0 (i.toNat + 1) c ++ l1 := ⟨_, rfl⟩
  have hsplit : l = encI l0 i ++ rest := by
    rw [hl, hc, encFr, show ((i.toNat : Nat) : Int) = i by omega, List.append_assoc, hrest]
  have hwl : Wb l := by rw [hl]; exact (encFr_wb hI _ _ (by omega)).app hw1
  have hll : l.length ≤ 400000 := by
    have := encFr_len hI (l0.length - i.toNat) i.toNat (by omega)
    rw [hl, List.length_append]; omega
  have fin : ∀ x : List Int, x = rest → InvB l0 l1 (i + 1) [.k 0, .l TIt l0, .l TB l1, .n (i + 1), .l TB x, .b false] := fun x hx => by
    unfold InvB
    rw [hx, hrest, show (i + 1).toNat = i.toNat + 1 by omega, show l0.length - (i.toNat + 1) = c by omega]
  refine Imp.good (fn_L5_11_t_im l0 l1 i l h0 h1) ?_
  unfold fn_L5_11_t
  rcases kinds5 p0 with hk | hk | hk | hk | hk
  · have hs := hsplit
    rw [enc0 hk] at hs
    have hbl := be_len (it_2 l0 i) 1
    have e1 := t16_0ok (N := it_2 l0 i) (B := it_3 l0 i) hk hwl (by rw [hs, List.length_append, hbl]; omega)
    have ht : l.take 1 = bes (it_2 l0 i) 1 := by rw [hs]; exact List.take_left' hbl
    have hd : l.drop 1 = rest := by rw [hs]; exact List.drop_left' hbl
    replace e1 := e1.trans (pr1 ht hd)
    have e2 : op_30 [.n (it_2 l0 i), .n (List.getD [(1 : Int), (2 : Int), (4 : Int), (8 : Int)] (Int.toNat (Int.tmod (it_1 l0 i) (5 : Int))) (0 : Int))] = some (0, [.l TB (bes (it_2 l0 i) 1)]) := by rw [hk]; exact t30 (it_2 l0 i) 1 (by omega)
    have e3 := t17 (l := bes (it_2 l0 i) 1) (by omega) (be_wb _ _)
    exact good_f (by rw [hk]; rfl) (good_t (by erw [e1]; rfl) (good_t (by rw [hk]; rfl) (good_t (by erw [e2]; rfl) (good_t (by erw [e2]; erw [e3]; rfl) (good_f (by erw [e1, e2]; erw [e3]; exact bne_no rfl) (good_leaf (by erw [e1, w]; exact fin _ rfl)))))))
  · have hs := hsplit
    rw [enc1 hk] at hs
    have hbl := be_len (it_2 l0 i) 2
    have e1 := t16_1ok (N := it_2 l0 i) (B := it_3 l0 i) hk hwl (by rw [hs, List.length_append, hbl]; omega)
    have ht : l.take 2 = bes (it_2 l0 i) 2 := by rw [hs]; exact List.take_left' hbl
    have hd : l.drop 2 = rest := by rw [hs]; exact List.drop_left' hbl
    replace e1 := e1.trans (pr1 ht hd)
    have e2 : op_30 [.n (it_2 l0 i), .n (List.getD [(1 : Int), (2 : Int), (4 : Int), (8 : Int)] (Int.toNat (Int.tmod (it_1 l0 i) (5 : Int))) (0 : Int))] = some (0, [.l TB (bes (it_2 l0 i) 2)]) := by rw [hk]; exact t30 (it_2 l0 i) 2 (by omega)
    have e3 := t17 (l := bes (it_2 l0 i) 2) (by omega) (be_wb _ _)
    exact good_f (by rw [hk]; rfl) (good_t (by erw [e1]; rfl) (good_t (by rw [hk]; rfl) (good_t (by erw [e2]; rfl) (good_t (by erw [e2]; erw [e3]; rfl) (good_f (by erw [e1, e2]; erw [e3]; exact bne_no rfl) (good_leaf (by erw [e1, w]; exact fin _ rfl)))))))
  · have hs := hsplit
    rw [enc2 hk] at hs
    have hbl := be_len (it_2 l0 i) 4
    have e1 := t16_2ok (N := it_2 l0 i) (B := it_3 l0 i) hk hwl (by rw [hs, List.length_append, hbl]; omega)
    have ht : l.take 4 = bes (it_2 l0 i) 4 := by rw [hs]; exact List.take_left' hbl
    have hd : l.drop 4 = rest := by rw [hs]; exact List.drop_left' hbl
    replace e1 := e1.trans (pr1 ht hd)
    have e2 : op_30 [.n (it_2 l0 i), .n (List.getD [(1 : Int), (2 : Int), (4 : Int), (8 : Int)] (Int.toNat (Int.tmod (it_1 l0 i) (5 : Int))) (0 : Int))] = some (0, [.l TB (bes (it_2 l0 i) 4)]) := by rw [hk]; exact t30 (it_2 l0 i) 4 (by omega)
    have e3 := t17 (l := bes (it_2 l0 i) 4) (by omega) (be_wb _ _)
    exact good_f (by rw [hk]; rfl) (good_t (by erw [e1]; rfl) (good_t (by rw [hk]; rfl) (good_t (by erw [e2]; rfl) (good_t (by erw [e2]; erw [e3]; rfl) (good_f (by erw [e1, e2]; erw [e3]; exact bne_no rfl) (good_leaf (by erw [e1, w]; exact fin _ rfl)))))))
  · have hs := hsplit
    rw [enc3 hk] at hs
    have hbl := be_len (it_2 l0 i) 8
    have e1 := t16_3ok (N := it_2 l0 i) (B := it_3 l0 i) hk hwl (by rw [hs, List.length_append, hbl]; omega)
    have ht : l.take 8 = bes (it_2 l0 i) 8 := by rw [hs]; exact List.take_left' hbl
    have hd : l.drop 8 = rest := by rw [hs]; exact List.drop_left' hbl
    replace e1 := e1.trans (pr1 ht hd)
    have e2 : op_30 [.n (it_2 l0 i), .n (List.getD [(1 : Int), (2 : Int), (4 : Int), (8 : Int)] (Int.toNat (Int.tmod (it_1 l0 i) (5 : Int))) (0 : Int))] = some (0, [.l TB (bes (it_2 l0 i) 8)]) := by rw [hk]; exact t30 (it_2 l0 i) 8 (by omega)
    have e3 := t17 (l := bes (it_2 l0 i) 8) (by omega) (be_wb _ _)
    exact good_f (by rw [hk]; rfl) (good_t (by erw [e1]; rfl) (good_t (by rw [hk]; rfl) (good_t (by erw [e2]; rfl) (good_t (by erw [e2]; erw [e3]; rfl) (good_f (by erw [e1, e2]; erw [e3]; exact bne_no rfl) (good_leaf (by erw [e1, w]; exact fin _ rfl)))))))
  · have hs := hsplit
    rw [enc4 hk] at hs
    have wl : IntKind.wrap .i64 (IntKind.wrap .u64 ((it_3 l0 i).length : Int)) = ((it_3 l0 i).length : Int) := by rw [wu64, w64d]; omega
    have hq : l.length = (it_3 l0 i).length + rest.length := by
      have hq := congrArg List.length hsplit
      rw [List.length_append, enc4 hk] at hq
      exact hq
    have e1 := t16_4ok (N := IntKind.wrap .u64 ((it_3 l0 i).length : Int)) (B := it_3 l0 i) (l := l) hk (by omega) (by rw [wl]; omega) (by rw [wl]; omega)
    have hn : (IntKind.wrap .i64 (IntKind.wrap .u64 ((it_3 l0 i).length : Int))).toNat = (it_3 l0 i).length := by rw [wl]; omega
    have ht : l.take (it_3 l0 i).length = it_3 l0 i := by rw [hs]; exact List.take_left' rfl
    have hd : l.drop (it_3 l0 i).length = rest := by rw [hs]; exact List.drop_left' rfl
    replace e1 := e1.trans (pr2 ((congrArg (fun z => l.take z) hn).trans ht) ((congrArg (fun z => l.drop z) hn).trans hd))
    exact good_t (by rw [hk]; rfl) (good_t (by erw [e1]; rfl) (good_f (by erw [e1]; exact strNo _) (good_leaf (by erw [e1, w]; exact fin _ rfl))))
theorem runB {l0 : LI} {l1 : List Int} (hI : Its l0) (hw1 : Wb l1) (hl1 : l1.length ≤ 3000) : op_L5_11 [.k 0, .l TIt l0, .l TB l1, .n 0, .l TB (encTo l0 l0.length ++ l1), .b false] = some (0, [.l TB l1, .l TB l1, .b false]) := by
  have hlen := hI.1
  have key : Good (fun y => y = (0, [Dat.l TB l1, .l TB l1, .b false])) (op_L5_11 [.k 0, .l TIt l0, .l TB l1, .n 0, .l TB (encTo l0 l0.length ++ l1), .b false]) := by
    refine op_L5_11_good (fun env => ∃ i : Int, 0 ≤ i ∧ i ≤ l0.length ∧ InvB l0 l1 i env) (fun env => (l0.length - gn env 3).toNat) ?_ _ ⟨0, by omega, by omega, by unfold InvB; rw [encTo_fr]; rfl⟩ (by show ((l0.length : Int) - 0).toNat < FU; unfold FU; omega)
    rintro env ⟨i, h0, h1, hE⟩
    have at_ : gn env 3 = i := by rw [hE]; rfl
    rw [at_]
    by_cases hlt : i < l0.length
    · have fin : Good (StepB l0 l1 i) (st_L5_11 env).sel := by
        rw [hE]; exact stepB hI hw1 hl1 h0 hlt rfl
      obtain ⟨y, e, hy⟩ := fin
      refine ⟨y, e, ?_⟩
      cases y with
      | stop k d => exact hy.elim
      | go e' =>
        have hy : InvB l0 l1 (i + 1) e' := hy
        refine ⟨⟨i + 1, by omega, by omega, hy⟩, ?_⟩
        have : gn e' 3 = i + 1 := by rw [hy]; rfl
        show ((l0.length : Int) - gn e' 3).toNat < _
        rw [this]; omega
    · have hd : i = (l0.length : Int) := by omega
      rw [hE, show l0.length - i.toNat = 0 by omega]
      exact Imp.good (fn_L5_11_x_im l0 l1 i _ hd) (good_leaf rfl)
  obtain ⟨y, e, hy⟩ := key
  rw [e, hy]
theorem t5 (l0 : LI) (l1 : List Int) (hw0 : wfD (.sl TIt) l0 = true) (hw1 : Wb l1) : (ev_W5 [.l TIt l0, .l TB l1]).sel = some true := by
  obtain ⟨y, e, hy⟩ : Good (fun y => y = true) (ev_W5 [.l TIt l0, .l TB l1]).sel := by
    refine (fn_W5_t_im l0 l1).good ?_
    unfold fn_W5_t
    rcases t8 l0 hw0 with e1 | ⟨e1, hI⟩
    · exact good_t (by erw [e1]; rfl) (good_t (by erw [e1]; rfl) (good_leaf rfl))
    refine good_t (by erw [e1]; rfl) (good_f (by erw [e1]; rfl) (good_node (fun _ => good_leaf rfl) (fun q => ?_)))
    have hl1 : l1.length ≤ 3000 := by have : ¬ ((l1.length : Int) > 3000) := of_decide_eq_false q; omega
    have e5 := runB hI hw1 hl1
    have e6 := t33ok (n := (l1.length : Int)) (l := l1) (by omega) (by omega)
    have hz1 : ((l1.length : Int)).toNat = l1.length := by omega
    replace e6 := e6.trans (pr3 ((congrArg (fun z => l1.take z) hz1).trans List.take_length) ((congrArg (fun z => l1.drop z) hz1).trans List.drop_length))
    have e7 := t31 (l := l1) (by omega)
    obtain ⟨y, e2, hy⟩ := runW (l1 := l1) hI
    have hlen := hI.1
    rcases hy with ⟨hz, rfl⟩ | ⟨hz, rfl⟩
    · have e3 := t31 (l := l1) (by omega)
      have e4 := t13 (l := l1) (by omega)
      rw [show encTo l0 l0.length ++ l1 = l1 by rw [hz]; rfl] at e5
      exact good_t (by erw [e2]; rfl) (good_t (by erw [e2]; exact decide_eq_true (show l1.length * 1 ≤ 140737488355328 by omega)) (good_t (by erw [e2]; erw [e3]; rfl) (good_t (by erw [e2]; erw [e3]; erw [e4]; rfl) (good_t (by erw [e2]; erw [e3]; erw [e4]; erw [e5]; rfl) (good_t (by erw [e2]; erw [e3]; erw [e4]; erw [e5]; exact beq_self_eq_true (l1.length : Int)) (good_t (by erw [e2]; erw [e3]; erw [e4]; erw [e5]; erw [e6]; rfl) (good_t (by erw [e2]; erw [e3]; erw [e4]; erw [e5]; erw [e6]; erw [e7]; rfl) (good_t (by erw [e2]; erw [e3]; erw [e4]; erw [e5]; erw [e6]; erw [e7]; exact strSelf _) (good_t (by erw [e2]; erw [e3]; erw [e4]; erw [e5]; erw [e6]; rfl) (good_leaf rfl))))))))))
    · have hlE := encTo_len hI l0.length (Nat.le_refl _)
      have hlA : (encTo l0 l0.length ++ l1).length ≤ 400000 := by rw [List.length_append]; omega
      have e3 := t31 (l := encTo l0 l0.length ++ l1) (by omega)
      have e4 := t13 (l := encTo l0 l0.length ++ l1) (by omega)
      exact good_f (by erw [e2]; rfl) (good_t (by erw [e2]; rfl) (good_t (by erw [e2]; exact decide_eq_true (show ((encTo l0 l0.length).length + l1.length) * 1 ≤ 140737488355328 by omega)) (good_t (by erw [e2]; erw [e3]; rfl) (good_t (by erw [e2]; erw [e3]; erw [e4]; rfl) (good_t (by erw [e2]; erw [e3]; erw [e4]; erw [e5]; rfl) (good_t (by erw [e2]; erw [e3]; erw [e4]; erw [e5]; exact beq_self_eq_true (l1.length : Int)) (good_t (by erw [e2]; erw [e3]; erw [e4]; erw [e5]; erw [e6]; rfl) (good_t (by erw [e2]; erw [e3]; erw [e4]; erw [e5]; erw [e6]; erw [e7]; rfl) (good_t (by erw [e2]; erw [e3]; erw [e4]; erw [e5]; erw [e6]; erw [e7]; exact strSelf _) (good_t (by erw [e2]; erw [e3]; erw [e4]; erw [e5]; erw [e6]; rfl) (good_leaf rfl)))))))))))
  rw [e, hy]
theorem t5' {l0 : LI} {l1 : List (Ty.den TB)} (h0 : wfD (.sl TIt) l0 = true) (h1 : wfD (.sl TB) l1 = true) : (ev_W5 [.l TIt l0, .l TB l1]).sel = some true := t5 l0 l1 h0 (wf_bytes h1)
end Go.Proofs.Ytdepolalngehdaa.Vx
