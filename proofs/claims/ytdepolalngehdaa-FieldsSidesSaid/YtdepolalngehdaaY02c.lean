import Derived.Test.YtdepolalngehdaaY02b
namespace Go.Proofs.Ytdepolalngehdaa.Vx
open Go Go.RowKit
set_option linter.unusedVariables false
set_option linter.unusedSimpArgs false
set_option maxRecDepth 100000
set_option maxHeartbeats 1000000
abbrev LI := List (Ty.den TIt)
def InvA (l0 : List Int) (l1 : LI) (i : Int) (env : List Dat) : Prop := ∃ (l : List Int) (b : Bool), Wb l ∧ l.length ≤ 3000 ∧ env = [.k 0, .l TB l0, .l TIt l1, .n i, .l TB l0, .l TB l, .b b, .l TB l, .b b]
def StepA (l0 : List Int) (l1 : LI) (i : Int) : Step → Prop
  | .go e => InvA l0 l1 (i + 1) e
  | .stop k d => False
theorem kinds5 {K : Int} (h0 : 0 ≤ K) : Int.tmod K 5 = 0 ∨ Int.tmod K 5 = 1 ∨ Int.tmod K 5 = 2 ∨ Int.tmod K 5 = 3 ∨ Int.tmod K 5 = 4 := by
  rw [Int.tmod_eq_emod_of_nonneg h0]; omega
theorem bne_no {x y : Int} (h : x = y) : (x != y) = false := by subst h; simp
theorem strSelf (s : ByteArray) : strEq s s = true := by unfold strEq; exact decide_eq_true rfl
theorem strNo (s : ByteArray) : (!strEq s s) = false := by rw [strSelf]; rfl
theorem stepA {l0 : List Int} {l1 : LI} {i : Int} (h0 : 0 ≤ i) (h1 : i < (l1.length : Int)) (hlen : l1.length ≤ 100) (hK : 0 ≤ it_1 l1 i) {l : List Int} {b : Bool} (hw : Wb l) (hl : l.length ≤ 3000) :
    Good (StepA l0 l1 i) (st_L4_7 [.k 0, .l TB l0, .l TIt l1, .n i, .l TB l0, .l TB l, .b b, .l TB l, .b b]).sel := by
  have w : IntKind.wrap .i64 (i + 1) = i + 1 := w64 (by omega) (by omega)
  refine Imp.good (fn_L4_7_t_im l0 l1 i l b h0 h1) ?_
  unfold fn_L4_7_t
  rcases kinds5 hK with hk | hk | hk | hk | hk
  · by_cases ok : b = false ∧ 1 ≤ l.length
    · obtain ⟨rfl, hlw⟩ := ok
      have e1 : op_15 [.n (List.getD [(1 : Int), (2 : Int), (4 : Int), (8 : Int)] (Int.toNat (Int.tmod (it_1 l1 i) (5 : Int))) (0 : Int)), .l TB l, .b false] = some (0, [.l TB (l.take 1), .b true, .l TB (l.drop 1), .b false]) := by
        rw [hk]; exact t15ok (n := 1) (by omega) (by omega)
      have e2 := t16_0ok (N := it_2 l1 i) (B := it_3 l1 i) hk hw hlw
      have hx : (l.take 1).length = 1 := by rw [List.length_take]; omega
      have e3 := t17 (l := l.take 1) (by omega) (hw.take 1)
      have hd : (l.drop 1).length ≤ 3000 := by rw [List.length_drop]; omega
      exact good_t (by rw [hk]; rfl) (good_t (by rw [hk]; rfl) (good_t (by erw [e1]; rfl) (good_t (by erw [e2]; rfl) (good_t (by erw [e1]; rfl) (good_t (by erw [e1]; erw [e3]; rfl) (good_f (by erw [e2, e1]; erw [e3]; exact bne_no rfl) (good_f (by erw [e2]; rfl) (good_f (by erw [e2, e1]; rfl) (good_f (by erw [e2, e1]; exact bne_no rfl) (good_leaf (by erw [e2, e1, w]; exact ⟨_, _, hw.drop 1, hd, rfl⟩)))))))))))
    · have no : b = true ∨ l.length < 1 := by
        cases b with
        | true => exact .inl rfl
        | false => exact .inr (by have : ¬ 1 ≤ l.length := fun q => ok ⟨rfl, q⟩
                                  omega)
      have e1 : op_15 [.n (List.getD [(1 : Int), (2 : Int), (4 : Int), (8 : Int)] (Int.toNat (Int.tmod (it_1 l1 i) (5 : Int))) (0 : Int)), .l TB l, .b b] = some (1, [.b false, .l TB ([] : List Int), .b true]) := by
        rw [hk]; exact t15no (n := 1) (by rcases no with q | q; exact .inl q; exact .inr (.inr (by omega)))
      have e2 := t16_0no (N := it_2 l1 i) (B := it_3 l1 i) hk no
      exact good_t (by rw [hk]; rfl) (good_t (by rw [hk]; rfl) (good_f (by erw [e1]; rfl) (good_t (by erw [e1]; rfl) (good_t (by erw [e2]; rfl) (good_f (by erw [e1]; rfl) (good_f (by erw [e2]; rfl) (good_f (by erw [e2]; rfl) (good_f (by erw [e2, e1]; rfl) (good_f (by erw [e2, e1]; rfl) (good_leaf (by erw [e2, e1, w]; exact ⟨_, _, (fun b hb => by cases hb), (Nat.zero_le _), rfl⟩)))))))))))
  · by_cases ok : b = false ∧ 2 ≤ l.length
    · obtain ⟨rfl, hlw⟩ := ok
      have e1 : op_15 [.n (List.getD [(1 : Int), (2 : Int), (4 : Int), (8 : Int)] (Int.toNat (Int.tmod (it_1 l1 i) (5 : Int))) (0 : Int)), .l TB l, .b false] = some (0, [.l TB (l.take 2), .b true, .l TB (l.drop 2), .b false]) := by
        rw [hk]; exact t15ok (n := 2) (by omega) (by omega)
      have e2 := t16_1ok (N := it_2 l1 i) (B := it_3 l1 i) hk hw hlw
      have hx : (l.take 2).length = 2 := by rw [List.length_take]; omega
      have e3 := t17 (l := l.take 2) (by omega) (hw.take 2)
      have hd : (l.drop 2).length ≤ 3000 := by rw [List.length_drop]; omega
      exact good_t (by rw [hk]; rfl) (good_t (by rw [hk]; rfl) (good_t (by erw [e1]; rfl) (good_t (by erw [e2]; rfl) (good_t (by erw [e1]; rfl) (good_t (by erw [e1]; erw [e3]; rfl) (good_f (by erw [e2, e1]; erw [e3]; exact bne_no rfl) (good_f (by erw [e2]; rfl) (good_f (by erw [e2, e1]; rfl) (good_f (by erw [e2, e1]; exact bne_no rfl) (good_leaf (by erw [e2, e1, w]; exact ⟨_, _, hw.drop 2, hd, rfl⟩)))))))))))
    · have no : b = true ∨ l.length < 2 := by
        cases b with
        | true => exact .inl rfl
        | false => exact .inr (by have : ¬ 2 ≤ l.length := fun q => ok ⟨rfl, q⟩
                                  omega)
      have e1 : op_15 [.n (List.getD [(1 : Int), (2 : Int), (4 : Int), (8 : Int)] (Int.toNat (Int.tmod (it_1 l1 i) (5 : Int))) (0 : Int)), .l TB l, .b b] = some (1, [.b false, .l TB ([] : List Int), .b true]) := by
        rw [hk]; exact t15no (n := 2) (by rcases no with q | q; exact .inl q; exact .inr (.inr (by omega)))
      have e2 := t16_1no (N := it_2 l1 i) (B := it_3 l1 i) hk no
      exact good_t (by rw [hk]; rfl) (good_t (by rw [hk]; rfl) (good_f (by erw [e1]; rfl) (good_t (by erw [e1]; rfl) (good_t (by erw [e2]; rfl) (good_f (by erw [e1]; rfl) (good_f (by erw [e2]; rfl) (good_f (by erw [e2]; rfl) (good_f (by erw [e2, e1]; rfl) (good_f (by erw [e2, e1]; rfl) (good_leaf (by erw [e2, e1, w]; exact ⟨_, _, (fun b hb => by cases hb), (Nat.zero_le _), rfl⟩)))))))))))
  · by_cases ok : b = false ∧ 4 ≤ l.length
    · obtain ⟨rfl, hlw⟩ := ok
      have e1 : op_15 [.n (List.getD [(1 : Int), (2 : Int), (4 : Int), (8 : Int)] (Int.toNat (Int.tmod (it_1 l1 i) (5 : Int))) (0 : Int)), .l TB l, .b false] = some (0, [.l TB (l.take 4), .b true, .l TB (l.drop 4), .b false]) := by
        rw [hk]; exact t15ok (n := 4) (by omega) (by omega)
      have e2 := t16_2ok (N := it_2 l1 i) (B := it_3 l1 i) hk hw hlw
      have hx : (l.take 4).length = 4 := by rw [List.length_take]; omega
      have e3 := t17 (l := l.take 4) (by omega) (hw.take 4)
      have hd : (l.drop 4).length ≤ 3000 := by rw [List.length_drop]; omega
      exact good_t (by rw [hk]; rfl) (good_t (by rw [hk]; rfl) (good_t (by erw [e1]; rfl) (good_t (by erw [e2]; rfl) (good_t (by erw [e1]; rfl) (good_t (by erw [e1]; erw [e3]; rfl) (good_f (by erw [e2, e1]; erw [e3]; exact bne_no rfl) (good_f (by erw [e2]; rfl) (good_f (by erw [e2, e1]; rfl) (good_f (by erw [e2, e1]; exact bne_no rfl) (good_leaf (by erw [e2, e1, w]; exact ⟨_, _, hw.drop 4, hd, rfl⟩)))))))))))
    · have no : b = true ∨ l.length < 4 := by
        cases b with
        | true => exact .inl rfl
        | false => exact .inr (by have : ¬ 4 ≤ l.length := fun q => ok ⟨rfl, q⟩
                                  omega)
      have e1 : op_15 [.n (List.getD [(1 : Int), (2 : Int), (4 : Int), (8 : Int)] (Int.toNat (Int.tmod (it_1 l1 i) (5 : Int))) (0 : Int)), .l TB l, .b b] = some (1, [.b false, .l TB ([] : List Int), .b true]) := by
        rw [hk]; exact t15no (n := 4) (by rcases no with q | q; exact .inl q; exact .inr (.inr (by omega)))
      have e2 := t16_2no (N := it_2 l1 i) (B := it_3 l1 i) hk no
      exact good_t (by rw [hk]; rfl) (good_t (by rw [hk]; rfl) (good_f (by erw [e1]; rfl) (good_t (by erw [e1]; rfl) (good_t (by erw [e2]; rfl) (good_f (by erw [e1]; rfl) (good_f (by erw [e2]; rfl) (good_f (by erw [e2]; rfl) (good_f (by erw [e2, e1]; rfl) (good_f (by erw [e2, e1]; rfl) (good_leaf (by erw [e2, e1, w]; exact ⟨_, _, (fun b hb => by cases hb), (Nat.zero_le _), rfl⟩)))))))))))
  · by_cases ok : b = false ∧ 8 ≤ l.length
    · obtain ⟨rfl, hlw⟩ := ok
      have e1 : op_15 [.n (List.getD [(1 : Int), (2 : Int), (4 : Int), (8 : Int)] (Int.toNat (Int.tmod (it_1 l1 i) (5 : Int))) (0 : Int)), .l TB l, .b false] = some (0, [.l TB (l.take 8), .b true, .l TB (l.drop 8), .b false]) := by
        rw [hk]; exact t15ok (n := 8) (by omega) (by omega)
      have e2 := t16_3ok (N := it_2 l1 i) (B := it_3 l1 i) hk hw hlw
      have hx : (l.take 8).length = 8 := by rw [List.length_take]; omega
      have e3 := t17 (l := l.take 8) (by omega) (hw.take 8)
      have hd : (l.drop 8).length ≤ 3000 := by rw [List.length_drop]; omega
      exact good_t (by rw [hk]; rfl) (good_t (by rw [hk]; rfl) (good_t (by erw [e1]; rfl) (good_t (by erw [e2]; rfl) (good_t (by erw [e1]; rfl) (good_t (by erw [e1]; erw [e3]; rfl) (good_f (by erw [e2, e1]; erw [e3]; exact bne_no rfl) (good_f (by erw [e2]; rfl) (good_f (by erw [e2, e1]; rfl) (good_f (by erw [e2, e1]; exact bne_no rfl) (good_leaf (by erw [e2, e1, w]; exact ⟨_, _, hw.drop 8, hd, rfl⟩)))))))))))
    · have no : b = true ∨ l.length < 8 := by
        cases b with
        | true => exact .inl rfl
        | false => exact .inr (by have : ¬ 8 ≤ l.length := fun q => ok ⟨rfl, q⟩
                                  omega)
      have e1 : op_15 [.n (List.getD [(1 : Int), (2 : Int), (4 : Int), (8 : Int)] (Int.toNat (Int.tmod (it_1 l1 i) (5 : Int))) (0 : Int)), .l TB l, .b b] = some (1, [.b false, .l TB ([] : List Int), .b true]) := by
        rw [hk]; exact t15no (n := 8) (by rcases no with q | q; exact .inl q; exact .inr (.inr (by omega)))
      have e2 := t16_3no (N := it_2 l1 i) (B := it_3 l1 i) hk no
      exact good_t (by rw [hk]; rfl) (good_t (by rw [hk]; rfl) (good_f (by erw [e1]; rfl) (good_t (by erw [e1]; rfl) (good_t (by erw [e2]; rfl) (good_f (by erw [e1]; rfl) (good_f (by erw [e2]; rfl) (good_f (by erw [e2]; rfl) (good_f (by erw [e2, e1]; rfl) (good_f (by erw [e2, e1]; rfl) (good_leaf (by erw [e2, e1, w]; exact ⟨_, _, (fun b hb => by cases hb), (Nat.zero_le _), rfl⟩)))))))))))
  · by_cases ok : b = false ∧ 0 ≤ IntKind.wrap .i64 (it_2 l1 i) ∧ IntKind.wrap .i64 (it_2 l1 i) ≤ (l.length : Int)
    · obtain ⟨rfl, hn0, hn1⟩ := ok
      have e1 := t15ok hn0 hn1
      have e2 := t16_4ok (B := it_3 l1 i) hk (by omega) hn0 hn1
      have hd : (l.drop (IntKind.wrap .i64 (it_2 l1 i)).toNat).length ≤ 3000 := by rw [List.length_drop]; omega
      exact good_f (by rw [hk]; rfl) (good_t (by erw [e1]; rfl) (good_t (by erw [e2]; rfl) (good_t (by erw [e1]; rfl) (good_t (by rw [hk]; rfl) (good_f (by erw [e2]; rfl) (good_f (by erw [e2, e1]; exact strNo _) (good_f (by erw [e2, e1]; rfl) (good_f (by erw [e2, e1]; exact bne_no rfl) (good_leaf (by erw [e2, e1, w]; exact ⟨_, _, hw.drop _, hd, rfl⟩))))))))))
    · have no : b = true ∨ IntKind.wrap .i64 (it_2 l1 i) < 0 ∨ (l.length : Int) < IntKind.wrap .i64 (it_2 l1 i) := by
        cases b with
        | true => exact .inl rfl
        | false =>
          right
          by_cases q : IntKind.wrap .i64 (it_2 l1 i) < 0
          · exact .inl q
          · right
            have : ¬ IntKind.wrap .i64 (it_2 l1 i) ≤ (l.length : Int) := fun h => ok ⟨rfl, by omega, h⟩
            omega
      have e1 := t15no no
      have e2 := t16_4no (B := it_3 l1 i) hk no
      exact good_f (by rw [hk]; rfl) (good_f (by erw [e1]; rfl) (good_t (by erw [e1]; rfl) (good_t (by erw [e2]; rfl) (good_f (by erw [e1]; rfl) (good_f (by erw [e2]; rfl) (good_f (by erw [e2]; rfl) (good_f (by erw [e2, e1]; rfl) (good_f (by erw [e2, e1]; rfl) (good_leaf (by erw [e2, e1, w]; exact ⟨_, _, (fun b hb => by cases hb), (Nat.zero_le _), rfl⟩))))))))))
theorem atA {l0 : List Int} {l1 : LI} {i : Int} {env : List Dat} (h : InvA l0 l1 i env) : gn env 3 = i := by
  obtain ⟨l, b, _, _, rfl⟩ := h; rfl
def Inv4 (l0 : List Int) (l1 : LI) (env : List Dat) : Prop := ∃ i : Int, 0 ≤ i ∧ i ≤ l1.length ∧ InvA l0 l1 i env
theorem key4 {l0 : List Int} {l1 : LI} (hlen : l1.length ≤ 100) (hK : ∀ i : Int, 0 ≤ i → i < (l1.length : Int) → 0 ≤ it_1 l1 i) (env : List Dat) (h : Inv4 l0 l1 env) : Good (fun y => match y with | .go e => Inv4 l0 l1 e ∧ (l1.length - gn e 3).toNat < (l1.length - gn env 3).toNat | .stop k d => (k, d) = (0, [Dat.l TB l0, .l TB l0])) (st_L4_7 env).sel := by
  obtain ⟨i, h0, h1, hI⟩ := h
  rw [atA hI]
  by_cases hlt : i < l1.length
  · have fin : Good (StepA l0 l1 i) (st_L4_7 env).sel := by
      obtain ⟨l, b, a1, a2, rfl⟩ := hI
      exact stepA h0 hlt hlen (hK i h0 hlt) a1 a2
    obtain ⟨y, e, hy⟩ := fin
    refine ⟨y, e, ?_⟩
    cases y with
    | stop k d => exact hy.elim
    | go e' =>
      have hy : InvA l0 l1 (i + 1) e' := hy
      refine ⟨⟨i + 1, by omega, by omega, hy⟩, ?_⟩
      show ((l1.length : Int) - gn e' 3).toNat < _
      rw [atA hy]; omega
  · have hd : i = (l1.length : Int) := by omega
    obtain ⟨l, b, a1, a2, rfl⟩ := hI
    exact Imp.good (fn_L4_7_x_im l0 l1 i l b hd) (good_leaf rfl)
theorem bytes_back : ∀ {l : List Int}, Wb l → bytesOf (strOf l) = l := by
  intro l h
  unfold bytesOf strOf
  simp only [List.map_map]
  refine List.ext_getElem (by simp) fun i h1 h2 => ?_
  simp only [List.getElem_map, Function.comp]
  have := h l[i] (List.getElem_mem h2)
  rw [UInt8.toNat_ofNat']
  omega
theorem t4 (l0 : List Int) (l1 : LI) (hw : Wb l0) (hK : ∀ i : Int, 0 ≤ i → i < (l1.length : Int) → 0 ≤ it_1 l1 i) : (ev_W4 [.l TB l0, .l TIt l1]).sel = some true := by
  obtain ⟨y, e, hy⟩ : Good (fun y => y = true) (ev_W4 [.l TB l0, .l TIt l1]).sel := by
    refine (fn_W4_t_im l0 l1).good ?_
    unfold fn_W4_t
    refine good_node (fun _ => good_leaf rfl) (fun q => ?_)
    have hl0 : l0.length ≤ 3000 := by have : ¬ ((l0.length : Int) > 3000) := of_decide_eq_false q; omega
    refine good_node (fun _ => good_leaf rfl) (fun q => ?_)
    have hl1 : l1.length ≤ 100 := by have := of_decide_eq_false q; omega
    have e1 : op_13 [.l TB (bytesOf (strOf l0))] = some (0, [.l TB l0, .b false]) := by
      erw [bytes_back hw]; exact t13 (by omega)
    obtain ⟨y, e2, hy⟩ := op_L4_7_good (p := fun y => y = (0, [Dat.l TB l0, .l TB l0])) (Inv4 l0 l1) (fun env => (l1.length - gn env 3).toNat) (key4 hl1 hK) [.k 0, .l TB l0, .l TIt l1, .n 0, .l TB l0, .l TB l0, .b false, .l TB l0, .b false] ⟨0, by omega, by omega, l0, false, hw, hl0, rfl⟩ (by show ((l1.length : Int) - 0).toNat < FU; unfold FU; omega)
    rw [hy] at e2
    have e3 : op_L4_7 [.k 0, .l TB l0, .l TIt l1, .n 0, .l TB (bytesOf (strOf l0)), .l TB (gl TB (dOf (op_13 [.l TB (bytesOf (strOf l0))])) 0), .b (gb (dOf (op_13 [.l TB (bytesOf (strOf l0))])) 1), .l TB l0, .b false] = some (0, [Dat.l TB l0, .l TB l0]) := by
      rw [e1]; erw [bytes_back hw]; exact e2
    exact good_t (by erw [e1]; rfl) (good_t (by erw [e3]; rfl) (good_t (by erw [e3]; exact strSelf _) (good_leaf rfl)))
  rw [e, hy]
/-- What is known of the items. -/
theorem wf_items {l1 : LI} (h : wfD (.sl TIt) l1 = true) (i : Int) (h0 : 0 ≤ i) (h1 : i < (l1.length : Int)) : 0 ≤ it_1 l1 i ∧ it_1 l1 i < 256 ∧ 0 ≤ it_2 l1 i ∧ it_2 l1 i < 18446744073709551616 ∧ Wb (it_3 l1 i) := by
  have hx : (decide (l1.length ≤ maxLen) && wfL (wfD TIt) l1) = true := h
  rw [Bool.and_eq_true, wfL_iff] at hx
  have hi : i.toNat < l1.length := by omega
  have hm : l1.getD i.toNat (Ty.dflt TIt) ∈ l1 := by
    rw [List.getD_eq_getElem?_getD, List.getElem?_eq_getElem hi]; exact List.getElem_mem hi
  have hw := hx.2 _ hm
  obtain ⟨a, b⟩ := wf_get hw
  obtain ⟨b, c⟩ := wf_get b
  have a' : (decide (IntKind.min .u8 ≤ it_1 l1 i) && decide (it_1 l1 i ≤ IntKind.max .u8)) = true := a
  have b' : (decide (IntKind.min .u64 ≤ it_2 l1 i) && decide (it_2 l1 i ≤ IntKind.max .u64)) = true := b
  have c' : (decide ((it_3 l1 i).length ≤ maxLen) && wfL (wfD TB) (it_3 l1 i)) = true := c
  rw [Bool.and_eq_true, decide_eq_true_eq, decide_eq_true_eq] at a' b'
  rw [Bool.and_eq_true, wfL_iff] at c'
  have m1 : IntKind.min .u8 = 0 := rfl
  have m2 : IntKind.max .u8 = 255 := rfl
  have m3 : IntKind.min .u64 = 0 := rfl
  have m4 : IntKind.max .u64 = 18446744073709551615 := rfl
  refine ⟨by omega, by omega, by omega, by omega, fun x hx => ?_⟩
  have : (decide (IntKind.min .u8 ≤ x) && decide (x ≤ IntKind.max .u8)) = true := c'.2 x hx
  rw [Bool.and_eq_true, decide_eq_true_eq, decide_eq_true_eq] at this
  omega
theorem wf_bytes {l : List (Ty.den TB)} (h : wfD (.sl TB) l = true) : Wb l := fun x hx => by
  have h' : (decide (l.length ≤ maxLen) && wfL (wfD TB) l) = true := h
  rw [Bool.and_eq_true, wfL_iff] at h'
  have : (decide (IntKind.min .u8 ≤ x) && decide (x ≤ IntKind.max .u8)) = true := h'.2 x hx
  rw [Bool.and_eq_true, decide_eq_true_eq, decide_eq_true_eq] at this
  have m1 : IntKind.min .u8 = 0 := rfl
  have m2 : IntKind.max .u8 = 255 := rfl
  omega
theorem t4' {l0 : List Int} {l1 : LI} (h0 : wfD (.sl TB) l0 = true) (h1 : wfD (.sl TIt) l1 = true) : (ev_W4 [.l TB l0, .l TIt l1]).sel = some true :=
  t4 l0 l1 (wf_bytes h0) fun i a b => (wf_items h1 i a b).1
end Go.Proofs.Ytdepolalngehdaa.Vx
