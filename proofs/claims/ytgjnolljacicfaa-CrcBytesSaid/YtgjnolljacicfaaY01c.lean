import Derived.Test.YtgjnolljacicfaaY01b
namespace Go.Proofs.Ytgjnolljacicfaa.Vx
open Go Go.RowKit
set_option linter.unusedVariables false
set_option linter.unusedSimpArgs false
set_option maxRecDepth 100000
theorem asN {w : Nat} {n : Int} (h0 : 0 ≤ n) (h1 : n < 2 ^ w) : ∃ x : BitVec w, n = N x := ⟨_, (N_of h0 h1).symm⟩
theorem toUInt8_byte {x : Int} (h0 : 0 ≤ x) (h1 : x < 256) : (((UInt8.ofNat x.toNat).toNat : Nat) : Int) = x := by
  rw [UInt8.toNat_ofNat']
  omega
theorem bytes_str {b : List Int} (h : ∀ x ∈ b, 0 ≤ x ∧ x < 256) : bytesOf (strOf b) = b := by
  unfold bytesOf strOf
  simp only [List.map_map]
  conv => rhs; rw [← List.map_id b]
  refine List.map_congr_left fun x hx => ?_
  exact toUInt8_byte (h x hx).1 (h x hx).2
theorem bytes_str' {b : List Int} (h : ∀ x ∈ b, 0 ≤ x ∧ x < 256) : bytesOf (strOf (ofI (k := .u8) b)) = ofI (k := .u8) b := bytes_str h
theorem strEq_self (a : ByteArray) : strEq a a = true := by unfold strEq; simp
theorem beq_self {a b : Int} (h : a = b) : (a == b) = true := by subst h; simp
theorem bne_self {a b : Int} (h : a = b) : (a != b) = false := by subst h; simp
theorem t3 (b : List Int) (hb : b.length ≤ 9223372036854775807) (hr : ∀ x ∈ b, 0 ≤ x ∧ x < 256) : (fn_W3 [.l TB (ofI b)]).sel = some true := by
  simp only [fn_W3, den_len]
  by_cases h : (b.length : Int) > 3000
  · exact selT (dt h)
  refine (selF (df h)).trans ?_
  rw [bytes_str' hr]
  have e1 := t12 b hb
  have e2 := t13 b hb hr
  refine (selT (congrArg (isK 0 [HK.n]) e1)).trans ((selT (congrArg (isK 0 [HK.n]) e2)).trans ((selT (beq_self ?_)).trans (selT (strEq_self _))))
  exact (congrArg (fun r => gn (dOf r) 0) e1).trans (congrArg (fun r => gn (dOf r) 0) e2).symm
theorem end4 {p q : Option (Nat × List Dat)} {x : Int} {y : Bool} (e1 : p = some (0, [.n x, .b y])) (e2 : q = some (0, [.n x, .b y])) :
    (Tree.node (isK 0 [HK.n, HK.b] p) (.node (isK 0 [HK.n, HK.b] q) (.node (gn (dOf p) 0 == gn (dOf q) 0) (.node (gb (dOf p) 1 == gb (dOf q) 1) (.leaf true) (.leaf false)) (.leaf false)) (.bad 351)) (.bad 351)).sel = some true := by
  subst e1 e2
  simp [Tree.sel, isK, fitsK, dOf, gn, gb, Nat.beq]
theorem t4 (x : BitVec 32) (a c : BitVec 8) (k : Int) : (fn_W4 [.n (N x), .n (N a), .n (N c), .n k]).sel = some true := by
  simp only [fn_W4]
  by_cases h : k > 500
  · refine (selT (dt h)).trans ?_
    by_cases h1 : k ≤ 65536
    · exact selT (dt h1)
    · exact (selF (df h1)).trans (end4 (t14n _ _ _ _ (by omega)) (t15n _ _ _ _ (by omega)))
  · refine (selF (df h)).trans ?_
    by_cases h1 : k < 0
    · exact end4 (t14n _ _ _ _ (by omega)) (t15n _ _ _ _ (by omega))
    · obtain ⟨m, rfl⟩ : ∃ m : Nat, k = m := ⟨k.toNat, by omega⟩
      exact end4 (t14 x a c m (by omega)) (t15 x a c m (by omega))
theorem t16_17 (x : BitVec 32) (m : Int) (hm : m ≤ 65536) : ∃ p q r, op_16 [.n (N x), .n m] = some (0, [.n p, .n q, .b r]) ∧ op_17 [.n (N x), .n m] = some (0, [.n p, .n q, .b r]) := by
  by_cases hx : x = 0#32
  · subst hx
    exact ⟨0, 0, false, t16z m, t17z m hm⟩
  · have e1 := t16 x m hm hx
    have e2 := t17 x m hm hx
    cases h : firstHit (hitU x) m.toNat with
    | none => rw [h] at e1 e2; exact ⟨_, _, _, e1, e2⟩
    | some j => rw [h] at e1 e2; exact ⟨_, _, _, e1, e2⟩
theorem end5 {p q : Option (Nat × List Dat)} {x y : Int} {z : Bool} (e1 : p = some (0, [.n x, .n y, .b z])) (e2 : q = some (0, [.n x, .n y, .b z])) (t : Tree Bool) :
    (Tree.node (isK 0 [HK.n, HK.n, HK.b] p) (.node (isK 0 [HK.n, HK.n, HK.b] q) (.node (gn (dOf p) 0 != gn (dOf q) 0) (.leaf false) (.node (gn (dOf p) 1 != gn (dOf q) 1) (.leaf false) (.node (!gb (dOf p) 2 == gb (dOf q) 2) (.leaf false) t))) (.bad 351)) (.bad 351)).sel = t.sel := by
  subst e1 e2
  simp [Tree.sel, isK, fitsK, dOf, gn, gb, Nat.beq]
theorem t5 (x : BitVec 32) (n : Int) (c : BitVec 8) (b : Int) (hn : -128 ≤ n ∧ n ≤ 127) (hb : 0 ≤ b ∧ b < 256) : (fn_W5 [.n (N x), .n n, .n (N c), .n b]).sel = some true := by
  simp only [fn_W5]
  by_cases h : n > 60
  · exact selT (dt h)
  refine (selF (df h)).trans ?_
  have e0 : IntKind.wrap .i64 n = n := w64 (by omega) (by omega)
  have hm : 0 ≤ Int.tmod b 64 ∧ Int.tmod b 64 < 64 := by rw [Int.tmod_eq_emod_of_nonneg hb.1]; omega
  obtain ⟨k, hk⟩ : ∃ k : Nat, Int.tmod b 64 = k := ⟨(Int.tmod b 64).toNat, by omega⟩
  have e1 : IntKind.wrap .i64 (Int.tmod b 64) = (k : Int) := by rw [hk]; exact w64 (by omega) (by omega)
  rw [e0, e1]
  have e2 : op_15 [.n 0, .n 0, .n (N c), .n (k : Int)] = _ := t15 0#32 0#8 c k (by omega)
  obtain ⟨p1, q1, r1, a1, a2⟩ := t16_17 x n (by omega)
  obtain ⟨p2, q2, r2, b1, b2⟩ := t16_17 (0#32 ^^^ chg (0#8 ^^^ c) k) n (by omega)
  refine (selT (congrArg (isK 0 [HK.n, HK.b]) e2)).trans ?_
  rw [e2]
  refine (end5 (p := op_16 [.n (N x), .n n]) (q := op_17 [.n (N x), .n n]) a1 a2 _).trans ?_
  exact (end5 (p := op_16 [.n (N (0#32 ^^^ chg (0#8 ^^^ c) k)), .n n]) (q := op_17 [.n (N (0#32 ^^^ chg (0#8 ^^^ c) k)), .n n]) b1 b2 _)
/-! ### Rows with changes -/
theorem Sm_set {b : List Int} {i : Nat} (h : i < b.length) (a c : BitVec 8) (ha : b.getD i 0 = N a) : Sm (b.set i (N c)) = Sm b ^^^ chg (a ^^^ c) (b.length - 1 - i) := by
  unfold Sm
  rw [go_set _ h (N c) 0, ha, ofInt_N8, ofInt_N8, ← BitVec.setWidth_xor]
  unfold chg
  rw [show b.length - 1 - i + 1 = b.length - i by omega, BitVec.xor_assoc]
theorem byte_at {b : List Int} (hr : ∀ x ∈ b, 0 ≤ x ∧ x < 256) {i : Nat} (h : i < b.length) : ∃ a : BitVec 8, b.getD i 0 = N a := by
  have := hr _ (getD_mem (d := (0 : Int)) h)
  exact asN this.1 (by omega)
theorem bytes_set {b : List Int} (hr : ∀ x ∈ b, 0 ≤ x ∧ x < 256) (i : Nat) (c : BitVec 8) : ∀ x ∈ b.set i (N c), 0 ≤ x ∧ x < 256 := by
  intro x hx
  rcases List.mem_or_eq_of_mem_set hx with h | h
  · exact hr x h
  · rw [h]; exact N8_in c
theorem t6S (w to row : List Int) (i : Nat) (hw : w.length ≤ 40) (hto : to.length ≤ 9223372036854775807) (hwr : ∀ x ∈ w, 0 ≤ x ∧ x < 65536) (htr : ∀ x ∈ to, 0 ≤ x ∧ x < 256) (hl : row.length ≤ 1500) (hr : ∀ x ∈ row, 0 ≤ x ∧ x < 256) :
    (∃ env', (fn_L6_6 [.l (.int .u16) (ofI w), .l TB (ofI to), .n (N (Sm row)), .n (i : Int), .l TB (ofI row)]).sel = some (.go env') ∧ (∃ (row : List Int) (i : Nat), env' = [.l (.int .u16) (ofI w), .l TB (ofI to), .n (N (Sm row)), .n (i : Int), .l TB (ofI row)] ∧ row.length ≤ 1500 ∧ (∀ x ∈ row, 0 ≤ x ∧ x < 256)) ∧ w.length - (gn env' 3).toNat < w.length - ((i : Int)).toNat) ∨
    (∃ k d, (fn_L6_6 [.l (.int .u16) (ofI w), .l TB (ofI to), .n (N (Sm row)), .n (i : Int), .l TB (ofI row)]).sel = some (.stop k d) ∧ (k = 0 ∧ d = [])) := by
  simp only [fn_L6_6, den_len, den_getD2, den_set]
  by_cases h1 : (i : Int) < (w.length : Int)
  · by_cases h2 : (i : Int) < (to.length : Int)
    · by_cases h3 : (row.length : Int) > 0
      · left
        have hi : i < w.length := by omega
        have hi2 : i < to.length := by omega
        have hx := hwr _ (getD_mem (d := (0 : Int)) hi)
        obtain ⟨c, hc⟩ := byte_at htr hi2
        have e0 : IntKind.wrap .i64 (w.getD i 0) = w.getD i 0 := w64 (by omega) (by omega)
        obtain ⟨v, hv⟩ : ∃ v : Nat, w.getD i 0 = v := ⟨(w.getD i 0).toNat, by omega⟩
        have hm : Int.tmod (v : Int) (row.length : Int) = ((v % row.length : Nat) : Int) := by rfl
        have hlt : v % row.length < row.length := Nat.mod_lt _ (by omega)
        obtain ⟨a, ha⟩ := byte_at hr hlt
        have e1 : IntKind.wrap .i64 ((row.length : Int) - 1) = ((row.length - 1 : Nat) : Int) := by rw [w64 (by omega) (by omega)]; omega
        have e2 : IntKind.wrap .i64 (((row.length - 1 : Nat) : Int) - ((v % row.length : Nat) : Int)) = ((row.length - 1 - v % row.length : Nat) : Int) := by rw [w64 (by omega) (by omega)]; omega
        have e3 : IntKind.wrap .i64 ((i : Int) + 1) = ((i + 1 : Nat) : Int) := by rw [w64 (by omega) (by omega)]; omega
        have a14 := t14 (Sm row) a c (row.length - 1 - v % row.length) (by omega)
        have a12 := t12 (row.set (v % row.length) (N c)) (by rw [List.length_set]; omega)
        refine ⟨[.l (.int .u16) (ofI w), .l TB (ofI to), .n (N (Sm (row.set (v % row.length) (N c)))), .n ((i + 1 : Nat) : Int), .l TB (ofI (row.set (v % row.length) (N c)))], ?_, ⟨_, i + 1, rfl, by rw [List.length_set]; exact hl, bytes_set hr _ _⟩, ?_⟩
        · refine (selT (dt h1)).trans ((selT (dt h2)).trans ((selT (dt h3)).trans ((selT (inR_true (by omega) h1)).trans ((selT (nf (df (by omega)))).trans ?_))))
          rw [show ((i : Int)).toNat = i from rfl, e0, hv, hm, show (((v % row.length : Nat) : Int)).toNat = v % row.length from rfl, ha, hc, e1, e2, e3]
          refine (selT (inR_true (by omega) (by omega))).trans ((selT (inR_true (by omega) h2)).trans ?_)
          rw [a14]
          refine (selT rfl).trans ((selF rfl).trans ?_)
          have hs : (List.set (ofI (k := .u8) row) (v % row.length) (List.getD (ofI (k := .u8) to) i (0 : Int))) = ofI (row.set (v % row.length) (N c)) := congrArg (fun z : Int => ofI (k := .u8) (row.set (v % row.length) z)) hc
          rw [hs, show op_12 [.l (.int .u8) (ofI (row.set (v % row.length) (N c)))] = _ from a12]
          refine (selT rfl).trans ?_
          rw [Sm_set hlt a c ha]
          refine (selF (bne_self rfl)).trans ?_
          simp only [dOf_some, gn0, Tree.sel]
        · show w.length - ((i + 1 : Nat) : Int).toNat < w.length - ((i : Int)).toNat
          omega
      · right
        exact ⟨0, [], (selT (dt h1)).trans ((selT (dt h2)).trans (selF (df h3))), rfl, rfl⟩
    · right
      exact ⟨0, [], (selT (dt h1)).trans (selF (df h2)), rfl, rfl⟩
  · right
    exact ⟨0, [], selF (df h1), rfl, rfl⟩
theorem t6L (w to row : List Int) (hw : w.length ≤ 40) (hto : to.length ≤ 9223372036854775807) (hwr : ∀ x ∈ w, 0 ≤ x ∧ x < 65536) (htr : ∀ x ∈ to, 0 ≤ x ∧ x < 256) (hl : row.length ≤ 1500) (hr : ∀ x ∈ row, 0 ≤ x ∧ x < 256) :
    op_L6_6 [.l (.int .u16) (ofI w), .l TB (ofI to), .n (N (Sm row)), .n 0, .l TB (ofI row)] = some (0, []) := by
  have key : ∃ k d, iterS fn_L6_6 FU [.l (.int .u16) (ofI w), .l TB (ofI to), .n (N (Sm row)), .n ((0 : Nat) : Int), .l TB (ofI row)] = some (k, d) ∧ (k = 0 ∧ d = []) := by
    refine iterS_ok (st := fn_L6_6) (fun env => ∃ (row : List Int) (i : Nat), env = [.l (.int .u16) (ofI w), .l TB (ofI to), .n (N (Sm row)), .n (i : Int), .l TB (ofI row)] ∧ row.length ≤ 1500 ∧ (∀ x ∈ row, 0 ≤ x ∧ x < 256)) (fun env => w.length - (gn env 3).toNat) (fun k d => k = 0 ∧ d = []) ?_ FU _ ⟨row, 0, rfl, hl, hr⟩ (by show w.length - _ < FU; unfold FU; omega)
    clear hl hr row
    rintro env ⟨row, i, rfl, hl, hr⟩
    exact t6S w to row i hw hto hwr htr hl hr
  obtain ⟨k, d, e, rfl, rfl⟩ := key
  exact e
theorem t6 (b w to : List Int) (hb : b.length ≤ 9223372036854775807) (hto : to.length ≤ 9223372036854775807) (hr : ∀ x ∈ b, 0 ≤ x ∧ x < 256) (hwr : ∀ x ∈ w, 0 ≤ x ∧ x < 65536) (htr : ∀ x ∈ to, 0 ≤ x ∧ x < 256) :
    (fn_W6 [.l TB (ofI b), .l (.int .u16) (ofI w), .l TB (ofI to)]).sel = some true := by
  simp only [fn_W6, den_len]
  by_cases h : (b.length : Int) > 1500
  · exact selT (dt h)
  refine (selF (df h)).trans ?_
  by_cases h1 : (w.length : Int) > 40
  · exact selT (dt h1)
  refine (selF (df h1)).trans ?_
  rw [bytes_str' hr]
  have e1 := t12 b hb
  have e2 := t6L w to b (by omega) hto hwr htr (by omega) hr
  refine (selT (congrArg (isK 0 [HK.n]) e1)).trans ?_
  rw [show op_12 [.l (.int .u8) (ofI b)] = _ from e1]
  exact selT (congrArg (isK 0 []) e2)
end Go.Proofs.Ytgjnolljacicfaa.Vx
