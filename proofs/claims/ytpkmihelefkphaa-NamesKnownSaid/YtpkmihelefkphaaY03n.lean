import Derived.Test.YtpkmihelefkphaaVxIm
import Derived.Lib.TrimUEq
import Derived.Test.YtpkmihelefkphaaX03
import Derived.Test.YtpkmihelefkphaaVxBits
import Derived.Test.YtpkmihelefkphaaVxAid
import Derived.Test.YtpkmihelefkphaaX03b
namespace Go.Proofs.Ytpkmihelefkphaa.Vx
open Go Go.RowKit
set_option linter.unusedVariables false
set_option linter.unusedSimpArgs false
/-! ### Texts as rows of bytes -/
abbrev Bs := List UInt8
def By (s : ByteArray) : Bs := s.data.toList
theorem By_len (s : ByteArray) : (By s).length = s.size := by unfold By; rw [Array.length_toList]; rfl
theorem By_ext {a b : ByteArray} (h : By a = By b) : a = b := by
  cases a; cases b; unfold By at h; simp only at h; exact congrArg ByteArray.mk (Array.ext' h)
theorem By_extract (s : ByteArray) (i j : Nat) : By (s.extract i j) = ((By s).take j).drop i := by
  unfold By
  rw [ByteArray.data_extract, Array.toList_extract, List.extract_eq_take_drop]
  apply List.ext_getElem?
  intro k
  rw [List.getElem?_take, List.getElem?_drop, List.getElem?_drop, List.getElem?_take]
  by_cases h : k < j - i
  · rw [if_pos h, if_pos (by omega)]
  · rw [if_neg h, if_neg (by omega)]
theorem By_append (a b : ByteArray) : By (a ++ b) = By a ++ By b := by
  unfold By; rw [ByteArray.data_append, Array.toList_append]
theorem strEq_By (a b : ByteArray) : strEq a b = decide (By a = By b) := rfl
theorem decC_L (s : ByteArray) (p : Nat) : decC s (p : Int) = ((Lib.decodeL ((By s).drop p)).1 : Int) := by
  unfold By; rw [Lib.decodeL_drop]; rfl
theorem decW_L (s : ByteArray) (p : Nat) : decW s (p : Int) = ((Lib.decodeL ((By s).drop p)).2 : Int) := by
  unfold By; rw [Lib.decodeL_drop]; rfl
theorem strAt_L (s : ByteArray) (p : Nat) : strAt s (p : Int) = (((By s).getD p 0).toNat : Int) := rfl

theorem dl_lo (b : UInt8) (r : Bs) (h : b.toNat < 128) : Lib.decodeL (b :: r) = (b.toNat, 1) := by
  rw [Lib.decodeL_N]; unfold Lib.decodeN
  rw [if_pos (by simpa using h)]; simp
theorem dn_hi (n b0 b1 b2 b3 : Nat) (h : 128 ≤ b0) (hn : 1 ≤ n) : 128 ≤ (Lib.decodeN n b0 b1 b2 b3).1 ∧ 1 ≤ (Lib.decodeN n b0 b1 b2 b3).2 ∧ (Lib.decodeN n b0 b1 b2 b3).2 ≤ n ∧
    (1 < (Lib.decodeN n b0 b1 b2 b3).2 → b1 / 64 = 2) ∧ (2 < (Lib.decodeN n b0 b1 b2 b3).2 → b2 / 64 = 2) ∧ (3 < (Lib.decodeN n b0 b1 b2 b3).2 → b3 / 64 = 2) ∧ (Lib.decodeN n b0 b1 b2 b3).2 ≤ 4 := by
  unfold Lib.decodeN
  repeat' split
  all_goals simp only
  all_goals omega
theorem getD_le {l : Bs} {k : Nat} : (l.getD k 0).toNat < 256 := UInt8.toNat_lt _
theorem dl_hi (b : UInt8) (r : Bs) (h : 128 ≤ b.toNat) : 128 ≤ (Lib.decodeL (b :: r)).1 ∧ 1 ≤ (Lib.decodeL (b :: r)).2 ∧ (Lib.decodeL (b :: r)).2 ≤ (b :: r).length ∧
    ∀ x ∈ (b :: r).take (Lib.decodeL (b :: r)).2, 128 ≤ x.toNat := by
  obtain ⟨h1, h2, h3, h4, h5, h6, h7⟩ := dn_hi (b :: r).length ((b :: r).getD 0 0).toNat ((b :: r).getD 1 0).toNat ((b :: r).getD 2 0).toNat ((b :: r).getD 3 0).toNat (by simpa using h) (by simp)
  rw [← Lib.decodeL_N] at h1 h2 h3 h4 h5 h6 h7
  refine ⟨h1, h2, h3, fun x hx => ?_⟩
  obtain ⟨k, hk, e⟩ := List.getElem_of_mem hx
  rw [List.length_take] at hk
  rw [List.getElem_take] at e
  have e' : (b :: r).getD k 0 = x := by rw [List.getD_eq_getElem?_getD, List.getElem?_eq_getElem (by omega)]; exact e
  rw [← e']
  match k, hk with
  | 0, _ => simpa using h
  | 1, hk => have := h4 (by omega); omega
  | 2, hk => have := h5 (by omega); omega
  | 3, hk => have := h6 (by omega); omega
  | k + 4, hk => omega
theorem dn_pre (n n' b0 b1 b2 b3 c1 c2 c3 : Nat) (hn : 1 ≤ n) (hnn : n ≤ n') (e1 : 1 < n → c1 = b1) (e2 : 2 < n → c2 = b2) (e3 : 3 < n → c3 = b3)
    (f1 : n = 1 → n' = 1 ∨ c1 / 64 ≠ 2) (f2 : n = 2 → n' = 2 ∨ c2 / 64 ≠ 2) (f3 : n = 3 → n' = 3 ∨ c3 / 64 ≠ 2) : Lib.decodeN n' b0 c1 c2 c3 = Lib.decodeN n b0 b1 b2 b3 := by
  rcases Nat.lt_or_ge n 2 with h | h
  · have e : n = 1 := by omega
    subst e
    have := f1 rfl
    have q1 : (1 < n' ∧ c1 / 64 = 2) = False := eq_false (by omega)
    have q2 : (1 < 1 ∧ b1 / 64 = 2) = False := eq_false (by omega)
    unfold Lib.decodeN
    simp only [q1, q2, false_and, and_false, if_false]
  · obtain rfl := e1 (by omega)
    have p1 : (1 < n' ∧ c1 / 64 = 2) = (1 < n ∧ c1 / 64 = 2) := propext ⟨fun q => ⟨by omega, q.2⟩, fun q => ⟨by omega, q.2⟩⟩
    rcases Nat.lt_or_ge n 3 with h | h
    · have e : n = 2 := by omega
      subst e
      have := f2 rfl
      have q1 : (2 < n' ∧ c2 / 64 = 2) = False := eq_false (by omega)
      have q2 : (2 < 2 ∧ b2 / 64 = 2) = False := eq_false (by omega)
      unfold Lib.decodeN
      simp only [p1, q1, q2, false_and, and_false, if_false]
    · obtain rfl := e2 (by omega)
      have p2 : (2 < n' ∧ c2 / 64 = 2) = (2 < n ∧ c2 / 64 = 2) := propext ⟨fun q => ⟨by omega, q.2⟩, fun q => ⟨by omega, q.2⟩⟩
      rcases Nat.lt_or_ge n 4 with h | h
      · have e : n = 3 := by omega
        subst e
        have := f3 rfl
        have q1 : (3 < n' ∧ c3 / 64 = 2) = False := eq_false (by omega)
        have q2 : (3 < 3 ∧ b3 / 64 = 2) = False := eq_false (by omega)
        unfold Lib.decodeN
        simp only [p1, p2, q1, q2, false_and, and_false, if_false]
      · obtain rfl := e3 (by omega)
        have p3 : (3 < n' ∧ c3 / 64 = 2) = (3 < n ∧ c3 / 64 = 2) := propext ⟨fun q => ⟨by omega, q.2⟩, fun q => ⟨by omega, q.2⟩⟩
        unfold Lib.decodeN
        simp only [p1, p2, p3]
/-- What stands behind a low byte has no say. -/
theorem dl_pre (a c : Bs) (ha : a ≠ []) (hc : c = [] ∨ (c.getD 0 0).toNat < 128) : Lib.decodeL (a ++ c) = Lib.decodeL a := by
  rw [Lib.decodeL_N, Lib.decodeL_N]
  have hl : 1 ≤ a.length := by cases a with
    | nil => exact absurd rfl ha
    | cons => simp
  have g : ∀ k, k < a.length → (a ++ c).getD k 0 = a.getD k 0 := fun k hk => by simp [List.getD_eq_getElem?_getD, List.getElem?_append_left hk]
  have gc : ∀ k, a.length = k → (a ++ c).length = k ∨ ((a ++ c).getD k 0).toNat / 64 ≠ 2 := fun k hk => by
    rcases hc with rfl | hc
    · left; simp [hk]
    · right
      have : (a ++ c).getD k 0 = c.getD 0 0 := by simp [List.getD_eq_getElem?_getD, List.getElem?_append_right (show a.length ≤ k by omega), hk]
      rw [this]; omega
  rw [g 0 (by omega)]
  exact dn_pre _ _ _ _ _ _ _ _ _ hl (by simp) (fun h => by rw [g 1 h]) (fun h => by rw [g 2 h]) (fun h => by rw [g 3 h]) (gc 1) (gc 2) (gc 3)
/-- One character, and a low one. -/
theorem dl_x {x : Nat} (hx : x < 128) (l : Bs) (hl : l ≠ []) : 1 ≤ (Lib.decodeL l).2 ∧ (Lib.decodeL l).2 ≤ l.length ∧ ((Lib.decodeL l).1 = x → (Lib.decodeL l).2 = 1 ∧ (l.getD 0 0).toNat = x) ∧
    ((Lib.decodeL l).1 ≠ x → ∀ b ∈ l.take (Lib.decodeL l).2, b.toNat ≠ x) := by
  cases l with
  | nil => exact absurd rfl hl
  | cons b r =>
    rcases Nat.lt_or_ge b.toNat 128 with h | h
    · rw [dl_lo b r h]
      refine ⟨Nat.le_refl _, by simp, fun e => ⟨rfl, by simpa using e⟩, fun e y hy => ?_⟩
      simp at hy; subst hy; exact e
    · obtain ⟨h1, h2, h3, h4⟩ := dl_hi b r h
      exact ⟨h2, h3, fun e => by omega, fun _ y hy => by have := h4 y hy; omega⟩
end Go.Proofs.Ytpkmihelefkphaa.Vx
namespace Go.Proofs.Ytpkmihelefkphaa.Vx
open Go Go.RowKit
set_option linter.unusedVariables false
set_option linter.unusedSimpArgs false
/-! ### Texts cut at a byte -/
abbrev Ts := List ByteArray
def spL (x : Nat) (add : Ts → Nat → Nat → Ts) : Bs → Nat → Nat → Ts → Nat × Ts
  | [], i, fr, acc => (fr, acc)
  | b :: r, i, fr, acc => if b.toNat = x then spL x add r (i + 1) (i + 1) (add acc fr i) else spL x add r (i + 1) fr acc
theorem spL_skip {x : Nat} {add : Ts → Nat → Nat → Ts} : ∀ {hi r : Bs} {i fr : Nat} {acc : Ts}, (∀ b ∈ hi, b.toNat ≠ x) → spL x add (hi ++ r) i fr acc = spL x add r (i + hi.length) fr acc
  | [], r, i, fr, acc, h => rfl
  | b :: hi, r, i, fr, acc, h => by
    rw [List.cons_append, spL, if_neg (h b List.mem_cons_self), spL_skip fun y hy => h y (List.mem_cons_of_mem _ hy), List.length_cons]
    congr 1; omega
theorem spL_ok {x : Nat} {add : Ts → Nat → Nat → Ts} (ha : ∀ acc fr i, (add acc fr i).length ≤ acc.length + 1) : ∀ {l : Bs} {i fr : Nat} {acc : Ts}, fr ≤ i → fr ≤ (spL x add l i fr acc).1 ∧ (spL x add l i fr acc).1 ≤ i + l.length ∧ (spL x add l i fr acc).2.length ≤ acc.length + l.length
  | [], i, fr, acc, h => by simp only [spL, List.length_nil]; omega
  | b :: r, i, fr, acc, h => by
    rw [spL]
    split
    · have := spL_ok (x := x) ha (l := r) (i := i + 1) (fr := i + 1) (acc := add acc fr i) (Nat.le_refl _)
      have := ha acc fr i
      simp only [List.length_cons]; omega
    · have := spL_ok (x := x) ha (l := r) (i := i + 1) (fr := fr) (acc := acc) (by omega)
      simp only [List.length_cons]; omega
/-- One step by characters is some by bytes. -/
theorem spL_char {x : Nat} (hx : x < 128) {add : Ts → Nat → Nat → Ts} {l : Bs} (hl : l ≠ []) {i fr : Nat} {acc : Ts} :
    spL x add l i fr acc = if (Lib.decodeL l).1 = x then spL x add (l.drop (Lib.decodeL l).2) (i + (Lib.decodeL l).2) (i + 1) (add acc fr i) else spL x add (l.drop (Lib.decodeL l).2) (i + (Lib.decodeL l).2) fr acc := by
  obtain ⟨h1, h2, h3, h4⟩ := dl_x hx l hl
  split
  · rename_i e
    obtain ⟨e1, e2⟩ := h3 e
    rw [e1]
    cases l with
    | nil => exact absurd rfl hl
    | cons b r => rw [spL, if_pos (by simpa using e2)]; rfl
  · rename_i e
    have := spL_skip (x := x) (add := add) (hi := l.take (Lib.decodeL l).2) (r := l.drop (Lib.decodeL l).2) (i := i) (fr := fr) (acc := acc) (h4 e)
    rw [List.take_append_drop] at this
    rw [this, List.length_take, Nat.min_eq_left h2]
def addLn (s : ByteArray) (acc : Ts) (fr i : Nat) : Ts := acc ++ [s.extract fr i]
def addWd (s : ByteArray) (acc : Ts) (fr i : Nat) : Ts := if fr < i then acc ++ [s.extract fr i] else acc
theorem addLn_len (s : ByteArray) (acc : Ts) (fr i : Nat) : (addLn s acc fr i).length ≤ acc.length + 1 := by simp [addLn]
theorem addWd_len (s : ByteArray) (acc : Ts) (fr i : Nat) : (addWd s acc fr i).length ≤ acc.length + 1 := by unfold addWd; split <;> simp
/-- A text's lines, a text's words. -/
def lnsOf (s : ByteArray) : Ts := addLn s (spL 10 (addLn s) (By s) 0 0 []).2 (spL 10 (addLn s) (By s) 0 0 []).1 s.size
def wdsOf (s : ByteArray) : Ts := addWd s (spL 32 (addWd s) (By s) 0 0 []).2 (spL 32 (addWd s) (By s) 0 0 []).1 s.size

/-! ### Joined again -/
def jn : Ts → Bs
  | [] => []
  | [a] => By a
  | a :: b :: r => By a ++ (10 :: jn (b :: r))
theorem jn_snoc : ∀ (l : Ts) (a : ByteArray), l ≠ [] → jn (l ++ [a]) = jn l ++ (10 :: By a)
  | [], a, h => absurd rfl h
  | [x], a, h => rfl
  | x :: y :: r, a, h => by
    have := jn_snoc (y :: r) a (by simp)
    simp only [List.cons_append, jn] at this ⊢
    rw [this]; simp
theorem jn_one (a : ByteArray) : jn [a] = By a := rfl
theorem extract_snoc (s : ByteArray) {fr i : Nat} {b : UInt8} (h : fr ≤ i) (hb : (By s)[i]? = some b) : By (s.extract fr (i + 1)) = By (s.extract fr i) ++ [b] := by
  rw [By_extract, By_extract, List.take_add_one, hb]
  have : i ≤ (By s).length := by have := (List.getElem?_eq_some_iff.1 hb).1; omega
  rw [List.drop_append_of_le_length (by rw [List.length_take]; omega)]
  rfl
theorem jn_add (s : ByteArray) {fr i : Nat} {b : UInt8} (h : fr ≤ i) (hb : (By s)[i]? = some b) : ∀ acc : Ts, jn (acc ++ [s.extract fr (i + 1)]) = jn (acc ++ [s.extract fr i]) ++ [b] := by
  intro acc
  cases acc with
  | nil => simp only [List.nil_append, jn_one]; exact extract_snoc s h hb
  | cons x r => rw [jn_snoc _ _ (by simp), jn_snoc _ _ (by simp), extract_snoc s h hb]; simp
theorem spL_jn (s : ByteArray) : ∀ {l : Bs} {i fr : Nat} {acc : Ts}, fr ≤ i → (By s).drop i = l → jn (acc ++ [s.extract fr i]) = (By s).take i →
    jn (addLn s (spL 10 (addLn s) l i fr acc).2 (spL 10 (addLn s) l i fr acc).1 s.size) = By s
  | [], i, fr, acc, h, hd, hj => by
    have hi : (By s).length ≤ i := by
      rcases Nat.lt_or_ge i (By s).length with q | q
      · have := congrArg List.length hd; simp at this; omega
      · exact q
    simp only [spL, addLn]
    have e : s.extract fr s.size = s.extract fr i := By_ext (by rw [By_extract, By_extract, ← By_len, List.take_of_length_le (Nat.le_refl _), List.take_of_length_le hi])
    rw [e, hj, List.take_of_length_le hi]
  | b :: r, i, fr, acc, h, hd, hj => by
    have hb : (By s)[i]? = some b := by
      have := congrArg (fun l => l[0]?) hd
      simpa [List.getElem?_drop] using this
    have hd' : (By s).drop (i + 1) = r := by rw [← List.drop_drop, hd]; rfl
    have ht : (By s).take (i + 1) = (By s).take i ++ [b] := by rw [List.take_add_one, hb]; rfl
    rw [spL]
    split
    · rename_i e
      refine spL_jn s (Nat.le_refl _) hd' ?_
      have e0 : By (s.extract (i + 1) (i + 1)) = [] := by rw [By_extract]; exact List.drop_eq_nil_of_le (by rw [List.length_take]; omega)
      rw [jn_snoc _ _ (by simp [addLn]), e0, addLn, hj, ht]
      have : b = 10 := by
        apply UInt8.toNat_inj.1; simpa using e
      rw [this]
    · refine spL_jn s (by omega) hd' ?_
      rw [jn_add s h hb, hj, ht]
theorem lns_jn (s : ByteArray) : jn (lnsOf s) = By s := by
  refine spL_jn s (Nat.le_refl _) rfl ?_
  simp only [List.nil_append, jn_one, By_extract, List.take_zero, List.drop_nil]

/-! ### Characters, one by one -/
def badC (c : Nat) (l : Bs) : Bool := decide (c < 32) || (decide (c = 65533) && !decide (l.take 3 = [239, 191, 189]))
def scan : Nat → Bs → Nat → Option Nat
  | 0, l, i => some i
  | f + 1, l, i => if l = [] then some i else if (Lib.decodeL l).1 = 35 then some i else if badC (Lib.decodeL l).1 l = true then none else scan f (l.drop (Lib.decodeL l).2) (i + (Lib.decodeL l).2)
def chkB : Nat → Bs → Bool
  | 0, _ => true
  | f + 1, l => if l = [] then true else if badC (Lib.decodeL l).1 l = true then false else chkB f (l.drop (Lib.decodeL l).2)
def hd35 (l : Bs) : Bs := l.takeWhile fun b => decide (b.toNat ≠ 35)
theorem hd35_app : ∀ {a r : Bs}, (∀ b ∈ a, b.toNat ≠ 35) → hd35 (a ++ r) = a ++ hd35 r
  | [], r, h => rfl
  | b :: a, r, h => by
    have := hd35_app (r := r) fun y hy => h y (List.mem_cons_of_mem _ hy)
    have hb := h b List.mem_cons_self
    unfold hd35 at this ⊢
    rw [List.cons_append, List.takeWhile_cons, if_pos (by simpa using hb), this]; rfl
theorem hd35_split (l : Bs) : ∃ c, l = hd35 l ++ c ∧ (c = [] ∨ (c.getD 0 0).toNat = 35) := by
  induction l with
  | nil => exact ⟨[], rfl, .inl rfl⟩
  | cons b l ih =>
    by_cases h : b.toNat = 35
    · exact ⟨b :: l, by simp [hd35, List.takeWhile_cons, h], .inr (by simpa using h)⟩
    · obtain ⟨c, h1, h2⟩ := ih
      refine ⟨c, ?_, h2⟩
      have e : hd35 (b :: l) = b :: hd35 l := by simp [hd35, List.takeWhile_cons, h]
      rw [e, List.cons_append, ← h1]
theorem scan_eq : ∀ {f : Nat} {l : Bs} {i : Nat}, l.length ≤ f → scan f l i = if chkB f (hd35 l) = true then some (i + (hd35 l).length) else none
  | 0, l, i, h => by
    have : l = [] := List.length_eq_zero_iff.1 (by omega)
    subst this; simp [scan, chkB, hd35]
  | f + 1, l, i, h => by
    by_cases hl : l = []
    · subst hl; simp [scan, chkB, hd35]
    · obtain ⟨k1, k2, k3, k4⟩ := dl_x (show 35 < 128 by omega) l hl
      rw [scan, if_neg hl]
      by_cases hc : (Lib.decodeL l).1 = 35
      · rw [if_pos hc]
        obtain ⟨_, e⟩ := k3 hc
        have : hd35 l = [] := by
          cases l with
          | nil => rfl
          | cons b r => simp only [List.getD_cons_zero] at e; simp [hd35, List.takeWhile_cons, e]
        rw [this, chkB, if_pos rfl, if_pos rfl]; simp
      · rw [if_neg hc]
        have hall := k4 hc
        obtain ⟨c, s1, s2⟩ := hd35_split l
        have hsp : hd35 l = l.take (Lib.decodeL l).2 ++ hd35 (l.drop (Lib.decodeL l).2) := by
          have := hd35_app (r := l.drop (Lib.decodeL l).2) hall
          rwa [List.take_append_drop] at this
        have hne : hd35 l ≠ [] := by
          rw [hsp]
          intro e
          have := congrArg List.length e
          rw [List.length_append, List.length_take, Nat.min_eq_left k2] at this
          simp at this; omega
        have hdec : Lib.decodeL (hd35 l) = Lib.decodeL l := by
          have := dl_pre (hd35 l) c hne (s2.imp id fun e => by omega)
          rw [← s1] at this; exact this.symm
        have hbad : badC (Lib.decodeL l).1 (hd35 l) = badC (Lib.decodeL l).1 l := by
          unfold badC
          have : ((hd35 l).take 3 = [239, 191, 189]) = (l.take 3 = [239, 191, 189]) := by
            apply propext
            constructor
            · intro e
              have hle : 3 ≤ (hd35 l).length := by have := congrArg List.length e; rw [List.length_take] at this; simp at this; omega
              rw [s1, List.take_append_of_le_length hle]; exact e
            · intro e
              have : l = [239, 191, 189] ++ l.drop 3 := by rw [← e, List.take_append_drop]
              rw [this, hd35_app (by decide)]; rfl
          simp only [this]
        have hlen : (l.drop (Lib.decodeL l).2).length ≤ f := by rw [List.length_drop]; omega
        rw [scan_eq hlen, chkB, if_neg hne, hdec, hbad]
        have hdr : (hd35 l).drop (Lib.decodeL l).2 = hd35 (l.drop (Lib.decodeL l).2) := by
          rw [hsp]
          exact List.drop_left' (by rw [List.length_take, Nat.min_eq_left k2])
        rw [hdr]
        have hln : (hd35 l).length = (Lib.decodeL l).2 + (hd35 (l.drop (Lib.decodeL l).2)).length := by rw [hsp, List.length_append, List.length_take, Nat.min_eq_left k2]
        rw [hln]
        cases badC (Lib.decodeL l).1 l with
        | true => simp
        | false => simp only [Bool.false_eq_true, if_false]; split <;> simp [Nat.add_assoc]
/-- Signs. -/
def sgn (c : Int) : Bool := decide (c > 32) && (decide (c < 127) || decide (c > 160)) && !(decide (c = 58) || decide (c = 35) || decide (c = 43) || decide (c = 45) || decide (c = 65533))
def rcn : Nat → Bs → Option Nat
  | 0, _ => some 0
  | f + 1, l => if l = [] then some 0 else if sgn ((Lib.decodeL l).1 : Int) = true then (rcn f (l.drop (Lib.decodeL l).2)).map (· + 1) else none
end Go.Proofs.Ytpkmihelefkphaa.Vx
namespace Go.Proofs.Ytpkmihelefkphaa.Vx
open Go Go.RowKit
set_option linter.unusedVariables false
set_option linter.unusedSimpArgs false
set_option maxRecDepth 100000
set_option maxHeartbeats 1000000
theorem w1n (i : Nat) (h : i < 1000000) : IntKind.wrap .i64 ((i : Int) + 1) = ((i + 1 : Nat) : Int) := by rw [w64 (by omega) (by omega)]; rfl
theorem FUs : ∃ m, FU = m + 1 := ⟨FU - 1, by have : 0 < FU := by unfold FU; omega; 
                                             omega⟩
/-! ### Signs -/
theorem o10 (n : Int) : op_10 [.n n] = some (0, [.b (sgn n)]) := by
  rw [op_10_eq]
  refine fn_10_t_im _ _ ?_
  unfold fn_10_t
  by_cases h1 : n = 58
  · exact sel_t (bt h1) (by subst h1; rfl)
  refine sel_f (bf h1) ?_
  by_cases h2 : n = 35
  · exact sel_t (bt h2) (by subst h2; rfl)
  refine sel_f (bf h2) ?_
  by_cases h3 : n = 43
  · exact sel_t (bt h3) (by subst h3; rfl)
  refine sel_f (bf h3) ?_
  by_cases h4 : n = 45
  · exact sel_t (bt h4) (by subst h4; rfl)
  refine sel_f (bf h4) ?_
  by_cases h5 : n = 65533
  · exact sel_t (bt h5) (by subst h5; rfl)
  refine sel_f (bf h5) ?_
  have e : sgn n = (decide (n > 32) && (decide (n < 127) || decide (n > 160))) := by
    unfold sgn; rw [df h1, df h2, df h3, df h4, df h5]; simp
  by_cases h6 : n > 32
  · refine sel_t (dt h6) ?_
    by_cases h7 : n < 127
    · exact sel_t (dt h7) (by rw [e, dt h6, dt h7]; rfl)
    · exact sel_f (df h7) (by rw [e, dt h6, df h7]; rfl)
  · exact sel_f (df h6) (by rw [e, df h6]; rfl)
theorem nb {a b : Int} (h : a ≠ b) : (a != b) = true := by simpa using h
theorem nbf {a b : Int} (h : a = b) : (a != b) = false := by subst h; simp
theorem o11 (n : Int) : op_11 [.n n] = some (0, [.b (sgn n)]) := by
  rw [op_11_eq]
  refine fn_11_t_im _ _ ?_
  unfold fn_11_t
  by_cases h0 : n ≥ 33
  · refine sel_t (dt h0) ?_
    by_cases h1 : n = 58
    · exact sel_f (nbf h1) (by subst h1; rfl)
    refine sel_t (nb h1) ?_
    by_cases h2 : n = 35
    · exact sel_f (nbf h2) (by subst h2; rfl)
    refine sel_t (nb h2) ?_
    by_cases h3 : n = 43
    · exact sel_f (nbf h3) (by subst h3; rfl)
    refine sel_t (nb h3) ?_
    by_cases h4 : n = 45
    · exact sel_f (nbf h4) (by subst h4; rfl)
    refine sel_t (nb h4) ?_
    by_cases h5 : n = 65533
    · exact sel_f (nbf h5) (by subst h5; rfl)
    refine sel_t (nb h5) ?_
    have e : sgn n = (decide (n < 127) || decide (n > 160)) := by
      unfold sgn; rw [df h1, df h2, df h3, df h4, df h5, dt (show n > 32 by omega)]; simp
    by_cases h7 : n < 127
    · exact sel_t (dt h7) (by rw [e, dt h7]; rfl)
    · exact sel_f (df h7) (by rw [e, df h7]; rfl)
  · exact sel_f (df h0) (by unfold sgn; rw [df (show ¬ n > 32 by omega)]; rfl)
theorem W3_true (n : Int) : (ev_W3 [.n n]).sel = some true := by
  refine fn_W3_t_im _ _ ?_
  unfold fn_W3_t
  dsimp only
  rw [o10, o11]
  exact sel_t rfl (sel_t rfl (sel_t (by simp [dOf, gb]) rfl))

/-! ### Names -/
theorem drop_ne {l : Bs} {p : Nat} (h : p < l.length) : l.drop p ≠ [] := by
  intro e; have := congrArg List.length e; simp at this; omega
theorem size_lt {s : ByteArray} {p : Nat} : ((p : Int) < (s.size : Int)) ↔ p < (By s).length := by rw [By_len]; omega
def r13 (n : Nat) : Option Nat → Nat × List Dat
  | some k => if n + k ≤ 16 then (0, [.n ((n + k : Nat) : Int)]) else (1, [.b false])
  | none => (1, [.b false])
def r14 (n : Nat) : Option Nat → Nat × List Dat
  | some k => (0, [.n ((n + k : Nat) : Int)])
  | none => (1, [.b false])
theorem r13_up (n : Nat) (o : Option Nat) : r13 (n + 1) o = r13 n (o.map (· + 1)) := by
  cases o with
  | none => rfl
  | some k => simp only [r13, Option.map_some]; rw [show n + 1 + k = n + (k + 1) by omega]
theorem r13_no {n : Nat} (h : 16 < n + 1) (o : Option Nat) : r13 n (o.map (· + 1)) = (1, [.b false]) := by
  cases o with
  | none => rfl
  | some k => simp only [r13, Option.map_some]; rw [if_neg (by omega)]
theorem r14_up (n : Nat) (o : Option Nat) : r14 (n + 1) o = r14 n (o.map (· + 1)) := by
  cases o with
  | none => rfl
  | some k => simp only [r14, Option.map_some]; rw [show n + 1 + k = n + (k + 1) by omega]
theorem rcn0 (l : Bs) : rcn 0 l = some 0 := rfl
theorem lp13 (s : ByteArray) (hs : s.size ≤ 9000) : ∀ (f n p : Nat), n ≤ 16 → (By s).length ≤ p + f → iterS st_L13_3 (f + 1) [.k 0, .s s, .n (n : Int), .s s, .n (p : Int)] =
    some (r13 n (rcn f ((By s).drop p)))
  | 0, n, p, hn, hf => by
    have : (st_L13_3 [.k 0, .s s, .n (n : Int), .s s, .n (p : Int)]).sel = some (.stop 0 [.n (n : Int)]) := by
      refine fn_L13_3_t_im _ _ _ _ ?_
      unfold fn_L13_3_t
      exact sel_f (df (by rw [size_lt]; omega)) rfl
    rw [iter_stop this, rcn0, r13, if_pos (by omega)]; rfl
  | f + 1, n, p, hn, hf => by
    by_cases hp : p < (By s).length
    · have hne := drop_ne hp
      obtain ⟨k1, k2, k3, k4⟩ := dl_x (show 10 < 128 by omega) _ hne
      rw [rcn, if_neg hne]
      by_cases hb : n + 1 > 16
      · have : (st_L13_3 [.k 0, .s s, .n (n : Int), .s s, .n (p : Int)]).sel = some (.stop 1 [.b false]) := by
          refine fn_L13_3_t_im _ _ _ _ ?_
          unfold fn_L13_3_t
          exact sel_t (dt (size_lt.2 hp)) (sel_t (dt (by rw [w1n _ (by omega)]; omega)) rfl)
        rw [iter_stop this]
        split
        · rw [r13_no (by omega)]
        · rfl
      · by_cases hc : sgn (decC s (p : Int)) = true
        · have : (st_L13_3 [.k 0, .s s, .n (n : Int), .s s, .n (p : Int)]).sel = some (.go [.k 0, .s s, .n ((n + 1 : Nat) : Int), .s s, .n ((p + (Lib.decodeL ((By s).drop p)).2 : Nat) : Int)]) := by
            refine fn_L13_3_t_im _ _ _ _ ?_
            unfold fn_L13_3_t
            refine sel_t (dt (size_lt.2 hp)) (sel_f (df (by rw [w1n _ (by omega)]; omega)) ?_)
            dsimp only
            rw [o10]
            refine sel_t rfl (sel_f (show (!(sgn (decC s (p : Int)))) = false by rw [hc]; rfl) ?_)
            rw [w1n _ (by omega), decW_L]; rfl
          rw [iter_go this, lp13 s hs f (n + 1) (p + (Lib.decodeL ((By s).drop p)).2) (by omega) (by omega)]
          rw [← decC_L, if_pos hc, List.drop_drop, r13_up]
        · have hc : sgn (decC s (p : Int)) = false := by simpa using hc
          have : (st_L13_3 [.k 0, .s s, .n (n : Int), .s s, .n (p : Int)]).sel = some (.stop 1 [.b false]) := by
            refine fn_L13_3_t_im _ _ _ _ ?_
            unfold fn_L13_3_t
            refine sel_t (dt (size_lt.2 hp)) (sel_f (df (by rw [w1n _ (by omega)]; omega)) ?_)
            dsimp only
            rw [o10]
            exact sel_t rfl (sel_t (show (!(sgn (decC s (p : Int)))) = true by rw [hc]; rfl) rfl)
          rw [iter_stop this, ← decC_L, hc]; rfl
    · have : (st_L13_3 [.k 0, .s s, .n (n : Int), .s s, .n (p : Int)]).sel = some (.stop 0 [.n (n : Int)]) := by
        refine fn_L13_3_t_im _ _ _ _ ?_
        unfold fn_L13_3_t
        exact sel_f (df (by rw [size_lt]; exact hp)) rfl
      rw [iter_stop this, rcn, if_pos (List.drop_eq_nil_of_le (by omega)), r13, if_pos (by omega)]; rfl
theorem lp14 (s : ByteArray) (hs : s.size ≤ 9000) : ∀ (f n p : Nat), n ≤ p → (By s).length ≤ p + f → iterS st_L14_3 (f + 1) [.k 0, .s s, .n (n : Int), .s s, .n (p : Int)] =
    some (r14 n (rcn f ((By s).drop p)))
  | 0, n, p, hn, hf => by
    have : (st_L14_3 [.k 0, .s s, .n (n : Int), .s s, .n (p : Int)]).sel = some (.stop 0 [.n (n : Int)]) := by
      refine fn_L14_3_t_im _ _ _ _ ?_
      unfold fn_L14_3_t
      exact sel_f (df (by rw [size_lt]; omega)) rfl
    rw [iter_stop this, rcn0]; rfl
  | f + 1, n, p, hn, hf => by
    by_cases hp : p < (By s).length
    · have hne := drop_ne hp
      obtain ⟨k1, k2, k3, k4⟩ := dl_x (show 10 < 128 by omega) _ hne
      have hpl : p < 9000 := by rw [By_len] at hp; omega
      rw [rcn, if_neg hne]
      by_cases hc : sgn (decC s (p : Int)) = true
      · have : (st_L14_3 [.k 0, .s s, .n (n : Int), .s s, .n (p : Int)]).sel = some (.go [.k 0, .s s, .n ((n + 1 : Nat) : Int), .s s, .n ((p + (Lib.decodeL ((By s).drop p)).2 : Nat) : Int)]) := by
          refine fn_L14_3_t_im _ _ _ _ ?_
          unfold fn_L14_3_t
          refine sel_t (dt (size_lt.2 hp)) ?_
          dsimp only
          rw [o11]
          refine sel_t rfl (sel_f (show (!(sgn (decC s (p : Int)))) = false by rw [hc]; rfl) ?_)
          rw [w1n _ (by omega), decW_L]; rfl
        rw [iter_go this, lp14 s hs f (n + 1) (p + (Lib.decodeL ((By s).drop p)).2) (by omega) (by omega)]
        rw [← decC_L, if_pos hc, List.drop_drop, r14_up]
      · have hc : sgn (decC s (p : Int)) = false := by simpa using hc
        have : (st_L14_3 [.k 0, .s s, .n (n : Int), .s s, .n (p : Int)]).sel = some (.stop 1 [.b false]) := by
          refine fn_L14_3_t_im _ _ _ _ ?_
          unfold fn_L14_3_t
          refine sel_t (dt (size_lt.2 hp)) ?_
          dsimp only
          rw [o11]
          exact sel_t rfl (sel_t (show (!(sgn (decC s (p : Int)))) = true by rw [hc]; rfl) rfl)
        rw [iter_stop this, ← decC_L, hc]; rfl
    · have : (st_L14_3 [.k 0, .s s, .n (n : Int), .s s, .n (p : Int)]).sel = some (.stop 0 [.n (n : Int)]) := by
        refine fn_L14_3_t_im _ _ _ _ ?_
        unfold fn_L14_3_t
        exact sel_f (df (by rw [size_lt]; exact hp)) rfl
      rw [iter_stop this, rcn, if_pos (List.drop_eq_nil_of_le (by omega))]; rfl
/-- Is it a name? -/
def isNm (s : ByteArray) : Bool := match rcn (FU - 1) (By s) with
  | some k => decide (k ≤ 16) && decide (0 < k)
  | none => false
theorem FU1 : FU = (FU - 1) + 1 := by have : 0 < FU := by unfold FU; omega
                                      omega
theorem o13 (s : ByteArray) (hs : s.size ≤ 9000) : op_13 [.s s] = some (0, [.b (isNm s)]) := by
  have hl : op_L13_3 [.k 0, .s s, .n (0 : Int), .s s, .n (0 : Int)] = some (r13 0 (rcn (FU - 1) (By s))) := by
    rw [op_L13_3_eq, FU1]
    have := lp13 s hs (FU - 1) 0 0 (by omega) (by rw [By_len]; unfold FU; omega)
    rw [List.drop_zero] at this
    exact this
  rw [op_13_eq]
  refine fn_13_t_im _ _ ?_
  unfold fn_13_t isNm
  dsimp only
  rw [hl]
  cases rcn (FU - 1) (By s) with
  | none => exact sel_f rfl (sel_t rfl rfl)
  | some k =>
    show _ = some (0, [Dat.b (decide (k ≤ 16) && decide (0 < k))])
    by_cases h : 0 + k ≤ 16
    · have e : r13 0 (some k) = (0, [.n ((0 + k : Nat) : Int)]) := if_pos h
      rw [e, dt (show k ≤ 16 by omega)]
      refine sel_t rfl ?_
      have : decide (((0 + k : Nat) : Int) > 0) = decide (0 < k) := decide_eq_decide.2 (by omega)
      show some (0, [Dat.b (decide (((0 + k : Nat) : Int) > 0))]) = _
      rw [this]; rfl
    · have e : r13 0 (some k) = (1, [.b false]) := if_neg h
      rw [e, df (show ¬ k ≤ 16 by omega)]
      exact sel_f rfl (sel_t rfl rfl)
theorem o14 (s : ByteArray) (hs : s.size ≤ 9000) : op_14 [.s s] = some (0, [.b (isNm s)]) := by
  have hl : op_L14_3 [.k 0, .s s, .n (0 : Int), .s s, .n (0 : Int)] = some (r14 0 (rcn (FU - 1) (By s))) := by
    rw [op_L14_3_eq, FU1]
    have := lp14 s hs (FU - 1) 0 0 (by omega) (by rw [By_len]; unfold FU; omega)
    rw [List.drop_zero] at this
    exact this
  rw [op_14_eq]
  refine fn_14_t_im _ _ ?_
  unfold fn_14_t isNm
  dsimp only
  rw [hl]
  cases rcn (FU - 1) (By s) with
  | none => exact sel_f rfl (sel_t rfl rfl)
  | some k =>
    show _ = some (0, [Dat.b (decide (k ≤ 16) && decide (0 < k))])
    refine sel_t rfl ?_
    by_cases h : 0 < k
    · refine sel_t (dt (show ((0 + k : Nat) : Int) ≥ 1 by omega)) ?_
      have : decide (((0 + k : Nat) : Int) ≤ 16) = decide (k ≤ 16) := decide_eq_decide.2 (by omega)
      show some (0, [Dat.b (decide (((0 + k : Nat) : Int) ≤ 16))]) = _
      rw [this, dt h, Bool.and_true]
    · refine sel_f (df (show ¬ ((0 + k : Nat) : Int) ≥ 1 by omega)) ?_
      rw [df h, Bool.and_false]; rfl
theorem W4_true (s : ByteArray) : (ev_W4 [.s s]).sel = some true := by
  refine fn_W4_t_im _ _ ?_
  unfold fn_W4_t
  by_cases h : (s.size : Int) > 500
  · exact sel_t (dt h) rfl
  · refine sel_f (df h) ?_
    dsimp only
    rw [o13 s (by omega), o14 s (by omega)]
    exact sel_t rfl (sel_t rfl (sel_t (by simp [dOf, gb]) rfl))
end Go.Proofs.Ytpkmihelefkphaa.Vx
namespace Go.Proofs.Ytpkmihelefkphaa.Vx
open Go Go.RowKit
set_option linter.unusedVariables false
set_option linter.unusedSimpArgs false
set_option maxRecDepth 100000
set_option maxHeartbeats 1000000
/-! ### Rows that are the same -/
theorem o16 (l : Ts) (hl : l.length ≤ 1000000) : op_16 [.l TS l, .l TS l] = some (0, [.b true]) := by
  have e : op_L16_4 [.k 0, .l TS l, .l TS l, .n (0 : Int)] = some (0, []) := by
    rw [op_L16_4_eq]
    refine iter_count (fun i => [.k 0, .l TS l, .l TS l, .n (i : Int)]) l.length (0, []) (fun i hi => ?_) ?_ FU (lt_FU (by omega))
    · refine fn_L16_4_t_im _ _ _ (by omega) rfl _ ?_
      unfold fn_L16_4_t
      refine sel_t (dt (show (i : Int) < (l.length : Int) by omega)) (sel_f (by unfold strEq; simp) ?_)
      rw [w1n i (by omega)]; rfl
    · refine fn_L16_4_t_im _ _ _ (by omega) rfl _ ?_
      unfold fn_L16_4_t
      exact sel_f (df (show ¬ ((l.length : Nat) : Int) < (l.length : Int) by omega)) rfl
  rw [op_16_eq]
  refine fn_16_t_im _ _ _ ?_
  unfold fn_16_t
  refine sel_f (nbf rfl) ?_
  dsimp only
  erw [e]
  exact sel_t rfl rfl

/-! ### Lines -/
theorem lp15 (s : ByteArray) (hs : s.size ≤ 9000) : ∀ (f p fr : Nat) (acc : Ts), fr ≤ p → p ≤ (By s).length → acc.length ≤ p → (By s).length ≤ p + f →
    iterS st_L15_4 (f + 1) [.k 0, .s s, .n (fr : Int), .l TS acc, .s s, .n (p : Int)] =
    some (0, [.s s, .n ((spL 10 (addLn s) ((By s).drop p) p fr acc).1 : Int), .l TS (spL 10 (addLn s) ((By s).drop p) p fr acc).2])
  | f, p, fr, acc, h1, h2, h3, h4 => by
    have hsz := By_len s
    by_cases hp : p < (By s).length
    · have hne := drop_ne hp
      obtain ⟨k1, k2, k3, k4⟩ := dl_x (show 10 < 128 by omega) _ hne
      rw [List.length_drop] at k2
      cases f with
      | zero => omega
      | succ f =>
      rw [spL_char (show 10 < 128 by omega) hne, List.drop_drop]
      by_cases hc : (Lib.decodeL ((By s).drop p)).1 = 10
      · obtain ⟨e1, e2⟩ := k3 hc
        have hw : p + (Lib.decodeL ((By s).drop p)).2 = p + 1 := by omega
        have : (st_L15_4 [.k 0, .s s, .n (fr : Int), .l TS acc, .s s, .n (p : Int)]).sel = some (.go [.k 0, .s s, .n ((p + 1 : Nat) : Int), .l TS (addLn s acc fr p), .s s, .n ((p + 1 : Nat) : Int)]) := by
          refine fn_L15_4_t_im _ _ _ _ _ ?_
          unfold fn_L15_4_t
          refine sel_t (dt (size_lt.2 hp)) (sel_t (bt (by rw [decC_L, hc]; rfl)) (sel_t (by rw [dt (show (0 : Int) ≤ (p : Int) by omega), dt (show (p : Int) ≤ (s.size : Int) by omega)]; rfl)
            (sel_t (by rw [dt (show (0 : Int) ≤ (fr : Int) by omega), dt (show (fr : Int) ≤ (p : Int) by omega)]; rfl) (sel_t (dt (show (acc.length + 1) * 16 ≤ 140737488355328 by omega)) ?_))))
          rw [w1n p (by omega), decW_L, e1]; rfl
        rw [iter_go this, if_pos hc, hw]
        exact lp15 s hs f (p + 1) (p + 1) _ (Nat.le_refl _) (by omega) (by have := addLn_len s acc fr p; omega) (by omega)
      · have : (st_L15_4 [.k 0, .s s, .n (fr : Int), .l TS acc, .s s, .n (p : Int)]).sel = some (.go [.k 0, .s s, .n (fr : Int), .l TS acc, .s s, .n ((p + (Lib.decodeL ((By s).drop p)).2 : Nat) : Int)]) := by
          refine fn_L15_4_t_im _ _ _ _ _ ?_
          unfold fn_L15_4_t
          refine sel_t (dt (size_lt.2 hp)) (sel_f (bf (by rw [decC_L]; omega)) ?_)
          rw [decW_L]; rfl
        rw [iter_go this, if_neg hc]
        exact lp15 s hs f _ fr acc (by omega) (by omega) (by omega) (by omega)
    · have : (st_L15_4 [.k 0, .s s, .n (fr : Int), .l TS acc, .s s, .n (p : Int)]).sel = some (.stop 0 [.s s, .n (fr : Int), .l TS acc]) := by
        refine fn_L15_4_t_im _ _ _ _ _ ?_
        unfold fn_L15_4_t
        exact sel_f (df (by rw [size_lt]; exact hp)) rfl
      rw [iter_stop this, List.drop_eq_nil_of_le (by omega)]; rfl
theorem lp17 (s : ByteArray) (hs : s.size ≤ 9000) : ∀ (f p fr : Nat) (acc : Ts), fr ≤ p → p ≤ (By s).length → acc.length ≤ p → (By s).length ≤ p + f →
    iterS st_L17_4 (f + 1) [.k 0, .s s, .n (fr : Int), .n (p : Int), .l TS acc] =
    some (0, [.s s, .n ((spL 10 (addLn s) ((By s).drop p) p fr acc).1 : Int), .l TS (spL 10 (addLn s) ((By s).drop p) p fr acc).2])
  | f, p, fr, acc, h1, h2, h3, h4 => by
    have hsz := By_len s
    by_cases hp : p < (By s).length
    · cases f with
      | zero => omega
      | succ f =>
      have hd : (By s).drop p = (By s)[p] :: (By s).drop (p + 1) := List.drop_eq_getElem_cons hp
      have hat : strAt s (p : Int) = (((By s)[p].toNat : Nat) : Int) := by
        rw [strAt_L, List.getD_eq_getElem?_getD, List.getElem?_eq_getElem hp]; rfl
      rw [hd, spL]
      by_cases hc : (By s)[p].toNat = 10
      · have : (st_L17_4 [.k 0, .s s, .n (fr : Int), .n (p : Int), .l TS acc]).sel = some (.go [.k 0, .s s, .n ((p + 1 : Nat) : Int), .n ((p + 1 : Nat) : Int), .l TS (addLn s acc fr p)]) := by
          refine fn_L17_4_t_im _ _ _ _ (by omega) _ ?_
          unfold fn_L17_4_t
          refine sel_t (dt (size_lt.2 hp)) (sel_t (bt (by rw [hat, hc]; rfl))
            (sel_t (by rw [dt (show (0 : Int) ≤ (fr : Int) by omega), dt (show (fr : Int) ≤ (p : Int) by omega)]; rfl) (sel_t (dt (show (acc.length + 1) * 16 ≤ 140737488355328 by omega)) ?_)))
          rw [w1n p (by omega)]; rfl
        rw [iter_go this, if_pos hc]
        exact lp17 s hs f (p + 1) (p + 1) _ (Nat.le_refl _) (by omega) (by have := addLn_len s acc fr p; omega) (by omega)
      · have : (st_L17_4 [.k 0, .s s, .n (fr : Int), .n (p : Int), .l TS acc]).sel = some (.go [.k 0, .s s, .n (fr : Int), .n ((p + 1 : Nat) : Int), .l TS acc]) := by
          refine fn_L17_4_t_im _ _ _ _ (by omega) _ ?_
          unfold fn_L17_4_t
          refine sel_t (dt (size_lt.2 hp)) (sel_f (bf (by rw [hat]; omega)) ?_)
          rw [w1n p (by omega)]; rfl
        rw [iter_go this, if_neg hc]
        exact lp17 s hs f _ fr acc (by omega) (by omega) (by omega) (by omega)
    · have : (st_L17_4 [.k 0, .s s, .n (fr : Int), .n (p : Int), .l TS acc]).sel = some (.stop 0 [.s s, .n (fr : Int), .l TS acc]) := by
        refine fn_L17_4_t_im _ _ _ _ (by omega) _ ?_
        unfold fn_L17_4_t
        exact sel_f (df (by rw [size_lt]; exact hp)) rfl
      rw [iter_stop this, List.drop_eq_nil_of_le (by omega)]; rfl
theorem FUlt {s : ByteArray} (hs : s.size ≤ 9000) : (By s).length ≤ 0 + (FU - 1) := by rw [By_len]; unfold FU; omega
theorem o15 (s : ByteArray) (hs : s.size ≤ 9000) : op_15 [.s s] = some (0, [.l TS (lnsOf s)]) := by
  have e := lp15 s hs (FU - 1) 0 0 [] (Nat.le_refl _) (Nat.zero_le _) (Nat.zero_le _) (FUlt hs)
  rw [← FU1, ← op_L15_4_eq, List.drop_zero] at e
  obtain ⟨q1, q2, q3⟩ := spL_ok (x := 10) (addLn_len s) (l := By s) (i := 0) (fr := 0) (acc := []) (Nat.le_refl _)
  have hsz := By_len s
  rw [op_15_eq]
  refine fn_15_t_im _ _ ?_
  unfold fn_15_t
  dsimp only
  erw [e]
  refine sel_t rfl (sel_t ?_ (sel_t ?_ rfl))
  · show (decide ((0 : Int) ≤ ((spL 10 (addLn s) (By s) 0 0 []).1 : Int)) && decide (((spL 10 (addLn s) (By s) 0 0 []).1 : Int) ≤ (s.size : Int))) = true
    rw [dt (by omega), dt (by omega)]; rfl
  · exact dt (show ((spL 10 (addLn s) (By s) 0 0 []).2.length + 1) * 16 ≤ 140737488355328 by simp at q3; omega)
theorem o17 (s : ByteArray) (hs : s.size ≤ 9000) : op_17 [.s s] = some (0, [.l TS (lnsOf s)]) := by
  have e := lp17 s hs (FU - 1) 0 0 [] (Nat.le_refl _) (Nat.zero_le _) (Nat.zero_le _) (FUlt hs)
  rw [← FU1, ← op_L17_4_eq, List.drop_zero] at e
  obtain ⟨q1, q2, q3⟩ := spL_ok (x := 10) (addLn_len s) (l := By s) (i := 0) (fr := 0) (acc := []) (Nat.le_refl _)
  have hsz := By_len s
  rw [op_17_eq]
  refine fn_17_t_im _ _ ?_
  unfold fn_17_t
  dsimp only
  erw [e]
  refine sel_t rfl (sel_t ?_ (sel_t ?_ rfl))
  · show (decide ((0 : Int) ≤ ((spL 10 (addLn s) (By s) 0 0 []).1 : Int)) && decide (((spL 10 (addLn s) (By s) 0 0 []).1 : Int) ≤ (s.size : Int))) = true
    rw [dt (by omega), dt (by omega)]; rfl
  · exact dt (show ((spL 10 (addLn s) (By s) 0 0 []).2.length + 1) * 16 ≤ 140737488355328 by simp at q3; omega)
theorem lns_len (s : ByteArray) (hs : s.size ≤ 9000) : (lnsOf s).length ≤ 9001 := by
  obtain ⟨q1, q2, q3⟩ := spL_ok (x := 10) (addLn_len s) (l := By s) (i := 0) (fr := 0) (acc := []) (Nat.le_refl _)
  have hsz := By_len s
  have := addLn_len s (spL 10 (addLn s) (By s) 0 0 []).2 (spL 10 (addLn s) (By s) 0 0 []).1 s.size
  unfold lnsOf; simp at q3; omega
theorem jn_take_len : ∀ (l : Ts) (k : Nat), (jn (l.take k)).length ≤ (jn l).length
  | [], k => by simp
  | [a], 0 => by simp [jn]
  | [a], k + 1 => by simp
  | a :: b :: r, 0 => by simp [jn]
  | a :: b :: r, 1 => by simp [jn]
  | a :: b :: r, k + 2 => by
    have := jn_take_len (b :: r) (k + 1)
    simp only [List.take_succ_cons, jn, List.length_append, List.length_cons] at this ⊢
    omega
theorem getD_at {α : Type} {l : List α} {i : Nat} {d : α} (h : i < l.length) : l.getD i d = l[i] := by
  rw [List.getD_eq_getElem?_getD, List.getElem?_eq_getElem h]; rfl
theorem lp5 (s : ByteArray) (hs : s.size ≤ 9000) : ∃ t : ByteArray, By t = By s ∧ op_L5_6 [.k 0, .s s, .s ⟨⟨[]⟩⟩, .n (0 : Int), .l TS (lnsOf s)] = some (0, [.s s, .s t, .l TS (lnsOf s)]) := by
  have hlen := lns_len s hs
  have hj := lns_jn s
  have hsz := By_len s
  generalize hL : lnsOf s = L at hlen hj ⊢
  have mk : ∀ l : Bs, ∃ t : ByteArray, By t = l := fun l => ⟨⟨⟨l⟩⟩, rfl⟩
  let T : Nat → ByteArray := fun k => ⟨⟨jn (L.take k)⟩⟩
  have hT : ∀ k, By (T k) = jn (L.take k) := fun k => rfl
  have hTs : ∀ k, (T k).size ≤ 9000 := fun k => by
    have := jn_take_len L k
    rw [← By_len, hT]; rw [hj] at this; omega
  refine ⟨T L.length, by rw [hT, List.take_of_length_le (Nat.le_refl _), hj], ?_⟩
  rw [op_L5_6_eq]
  refine iter_count (fun i => [.k 0, .s s, .s (T i), .n (i : Int), .l TS L]) L.length (0, [.s s, .s (T L.length), .l TS L]) (fun i hi => ?_) ?_ FU (lt_FU (by omega))
  · refine fn_L5_6_t_im _ _ _ _ (by omega) _ ?_
    unfold fn_L5_6_t
    have hg : (List.getD L (Int.toNat (i : Int)) (Ty.dflt Ty.str) : ByteArray) = L[i] := getD_at hi
    have htk : L.take (i + 1) = L.take i ++ [L[i]] := by rw [List.take_add_one, List.getElem?_eq_getElem hi]; rfl
    have hs1 := hTs (i + 1)
    rw [← By_len, hT, htk] at hs1
    refine sel_t (dt (show (i : Int) < (L.length : Int) by omega)) ?_
    by_cases h0 : i = 0
    · subst h0
      refine sel_f (df (by omega)) (sel_t (dt ?_) ?_)
      · have : ByteArray.size (List.getD L (Int.toNat ((0 : Nat) : Int)) (Ty.dflt Ty.str)) = L[0].size := congrArg ByteArray.size hg
        rw [this]
        have := hTs 0
        simp only [List.take_zero, List.nil_append, jn_one, By_len] at hs1
        omega
      · have e : (T 0 ++ (List.getD L (Int.toNat ((0 : Nat) : Int)) (Ty.dflt Ty.str) : ByteArray)) = T 1 := by
          apply By_ext
          rw [hg, By_append, hT, hT, htk]; rfl
        rw [e, w1n 0 (by omega)]; rfl
    · have hne : L.take i ≠ [] := by
        intro e; have := congrArg List.length e; rw [List.length_take] at this; simp only [List.length_nil] at this; omega
      rw [jn_snoc _ _ hne] at hs1
      simp only [List.length_append, List.length_cons, By_len] at hs1
      have hti : (T i).size = (jn (L.take i)).length := by rw [← By_len, hT]
      refine sel_t (dt (show (i : Int) > 0 by omega)) (sel_t (dt (show (T i).size + 1 ≤ 9223372036854775807 by omega)) (sel_t (dt ?_) ?_))
      · have : ByteArray.size (List.getD L (Int.toNat (i : Int)) (Ty.dflt Ty.str)) = L[i].size := congrArg ByteArray.size hg
        rw [this, ← By_len (T i ++ _), By_append, List.length_append, hT]
        show (jn (L.take i)).length + 1 + _ ≤ _
        omega
      · have e : (T i ++ ⟨⟨[(10 : UInt8)]⟩⟩ ++ (List.getD L (Int.toNat (i : Int)) (Ty.dflt Ty.str) : ByteArray)) = T (i + 1) := by
          apply By_ext
          rw [hg, By_append, By_append, hT, hT, htk, jn_snoc _ _ hne, List.append_assoc]; rfl
        rw [e, w1n i (by omega)]; rfl
  · refine fn_L5_6_t_im _ _ _ _ (by omega) _ ?_
    unfold fn_L5_6_t
    exact sel_f (df (show ¬ ((L.length : Nat) : Int) < (L.length : Int) by omega)) rfl
theorem W5_true (s : ByteArray) : (ev_W5 [.s s]).sel = some true := by
  refine fn_W5_t_im _ _ ?_
  unfold fn_W5_t
  by_cases h : (s.size : Int) > 2000
  · exact sel_t (dt h) rfl
  · refine sel_f (df h) ?_
    have hs : s.size ≤ 9000 := by omega
    obtain ⟨t, ht, e⟩ := lp5 s hs
    have hl := lns_len s hs
    have e15 := o15 s hs
    have e17 := o17 s hs
    generalize lnsOf s = L at hl e15 e17 e
    dsimp only
    rw [e15]
    refine sel_t rfl ?_
    erw [e]
    refine sel_t rfl ?_
    erw [e17]
    refine sel_t rfl ?_
    erw [o16 L (by omega)]
    refine sel_t rfl (sel_t rfl (sel_t ?_ rfl))
    show strEq t s = true
    rw [strEq_By, ht]; simp
end Go.Proofs.Ytpkmihelefkphaa.Vx
namespace Go.Proofs.Ytpkmihelefkphaa.Vx
open Go Go.RowKit
set_option linter.unusedVariables false
set_option linter.unusedSimpArgs false
set_option maxRecDepth 100000
set_option maxHeartbeats 1000000
/-! ### What stands ahead -/
def ah (s : ByteArray) : ByteArray := s.extract 0 (hd35 (By s)).length
theorem hd35_take (l : Bs) : hd35 l = l.take (hd35 l).length := by
  obtain ⟨c, h1, h2⟩ := hd35_split l
  generalize hd35 l = a at h1 h2 ⊢
  rw [h1, List.take_append_of_le_length (Nat.le_refl _), List.take_of_length_le (Nat.le_refl _)]
theorem hd35_le (l : Bs) : (hd35 l).length ≤ l.length := by
  have := congrArg List.length (hd35_take l)
  rw [List.length_take] at this; omega
theorem By_ah (s : ByteArray) : By (ah s) = hd35 (By s) := by
  unfold ah; rw [By_extract, List.drop_zero, ← hd35_take]
theorem ah_size (s : ByteArray) : (ah s).size ≤ s.size := by rw [← By_len, By_ah, ← By_len]; exact hd35_le _
theorem byte_at {s : ByteArray} {p : Nat} (h : p < (By s).length) : strAt s (p : Int) = (((By s)[p].toNat : Nat) : Int) := by
  rw [strAt_L, List.getD_eq_getElem?_getD, List.getElem?_eq_getElem h]; rfl
theorem ext_all (s : ByteArray) : s.extract 0 s.size = s := By_ext (by rw [By_extract, List.drop_zero, ← By_len, List.take_of_length_le (Nat.le_refl _)])
theorem lp24 (s : ByteArray) (hs : s.size ≤ 9000) : ∀ (f p : Nat), p ≤ (By s).length → (∀ b ∈ (By s).take p, b.toNat ≠ 35) → (By s).length ≤ p + f →
    ∃ k, iterS st_L24_2 (f + 1) [.k 0, .s s, .n (p : Int)] = some (k, [.s (ah s)]) ∧ k < 2
  | f, p, h1, h2, h3 => by
    have hsz := By_len s
    by_cases hp : p < (By s).length
    · cases f with
      | zero => omega
      | succ f =>
      by_cases hc : (By s)[p].toNat = 35
      · have : (st_L24_2 [.k 0, .s s, .n (p : Int)]).sel = some (.stop 1 [.s (s.extract 0 p)]) := by
          refine fn_L24_2_t_im _ _ (by omega) _ ?_
          unfold fn_L24_2_t
          exact sel_t (dt (size_lt.2 hp)) (sel_t (bt (by rw [byte_at hp, hc]; rfl)) rfl)
        have e : (hd35 (By s)).length = p := by
          have e1 := hd35_app (a := (By s).take p) (r := (By s).drop p) h2
          rw [List.take_append_drop, List.drop_eq_getElem_cons hp] at e1
          have e2 : hd35 ((By s)[p] :: (By s).drop (p + 1)) = [] := by unfold hd35; rw [List.takeWhile_cons, if_neg (by simp [hc])]
          rw [e2, List.append_nil] at e1
          rw [e1, List.length_take]; omega
        refine ⟨1, ?_, by omega⟩
        rw [iter_stop this]
        unfold ah
        rw [e]
      · have : (st_L24_2 [.k 0, .s s, .n (p : Int)]).sel = some (.go [.k 0, .s s, .n ((p + 1 : Nat) : Int)]) := by
          refine fn_L24_2_t_im _ _ (by omega) _ ?_
          unfold fn_L24_2_t
          refine sel_t (dt (size_lt.2 hp)) (sel_f (bf (by rw [byte_at hp]; omega)) ?_)
          rw [w1n p (by omega)]; rfl
        rw [iter_go this]
        refine lp24 s hs f (p + 1) (by omega) (fun b hb => ?_) (by omega)
        rw [List.take_add_one, List.getElem?_eq_getElem hp] at hb
        rcases List.mem_append.1 hb with hb | hb
        · exact h2 b hb
        · simp at hb; rw [hb]; exact hc
    · have : (st_L24_2 [.k 0, .s s, .n (p : Int)]).sel = some (.stop 0 [.s s]) := by
        refine fn_L24_2_t_im _ _ (by omega) _ ?_
        unfold fn_L24_2_t
        exact sel_f (df (by rw [size_lt]; exact hp)) rfl
      refine ⟨0, ?_, by omega⟩
      rw [iter_stop this]
      have e : hd35 (By s) = By s := by
        have e1 := hd35_app (a := By s) (r := []) (by rw [List.take_of_length_le (by omega)] at h2; exact h2)
        rw [List.append_nil] at e1
        rw [e1]; simp [hd35]
      unfold ah
      rw [e, hsz, ext_all]
theorem o24 (s : ByteArray) (hs : s.size ≤ 9000) : op_24 [.s s] = some (0, [.s (ah s)]) := by
  obtain ⟨k, e, hk⟩ := lp24 s hs (FU - 1) 0 (Nat.zero_le _) (by simp) (FUlt hs)
  rw [← FU1, ← op_L24_2_eq] at e
  rw [op_24_eq]
  refine fn_24_t_im _ _ ?_
  unfold fn_24_t
  dsimp only
  erw [e]
  match k, hk with
  | 0, _ => exact sel_t rfl rfl
  | 1, _ => exact sel_f rfl (sel_t rfl rfl)

/-! ### Words of a text that may be -/
theorem ext_nil {s : ByteArray} {fr p : Nat} (h : p ≤ s.size) : strEq (s.extract fr p) ⟨⟨[]⟩⟩ = decide (¬ fr < p) := by
  rw [strEq_By, decide_eq_decide, By_extract]
  show ((By s).take p).drop fr = [] ↔ _
  have hsz := By_len s
  constructor
  · intro e
    have := congrArg List.length e
    rw [List.length_drop, List.length_take] at this
    simp only [List.length_nil] at this
    omega
  · intro e
    exact List.drop_eq_nil_of_le (by rw [List.length_take]; omega)
theorem lp23 (s : ByteArray) (hs : s.size ≤ 9000) : ∀ (f p fr : Nat) (acc : Ts), fr ≤ p → p ≤ (By s).length → acc.length ≤ p → (By s).length ≤ p + f →
    iterS st_L23_4 (f + 1) [.k 0, .s s, .n (fr : Int), .l TS acc, .s s, .n (p : Int)] =
    some (0, [.s s, .n ((spL 32 (addWd s) ((By s).drop p) p fr acc).1 : Int), .l TS (spL 32 (addWd s) ((By s).drop p) p fr acc).2])
  | f, p, fr, acc, h1, h2, h3, h4 => by
    have hsz := By_len s
    by_cases hp : p < (By s).length
    · have hne := drop_ne hp
      obtain ⟨k1, k2, k3, k4⟩ := dl_x (show 32 < 128 by omega) _ hne
      rw [List.length_drop] at k2
      cases f with
      | zero => omega
      | succ f =>
      rw [spL_char (show 32 < 128 by omega) hne, List.drop_drop]
      by_cases hc : (Lib.decodeL ((By s).drop p)).1 = 32
      · obtain ⟨e1, e2⟩ := k3 hc
        have hw : p + (Lib.decodeL ((By s).drop p)).2 = p + 1 := by omega
        have : (st_L23_4 [.k 0, .s s, .n (fr : Int), .l TS acc, .s s, .n (p : Int)]).sel = some (.go [.k 0, .s s, .n ((p + 1 : Nat) : Int), .l TS (addWd s acc fr p), .s s, .n ((p + 1 : Nat) : Int)]) := by
          refine fn_L23_4_t_im _ _ _ _ _ ?_
          unfold fn_L23_4_t
          refine sel_t (dt (size_lt.2 hp)) (sel_t (bt (by rw [decC_L, hc]; rfl)) (sel_t (by rw [dt (show (0 : Int) ≤ (p : Int) by omega), dt (show (p : Int) ≤ (s.size : Int) by omega)]; rfl)
            (sel_t (by rw [dt (show (0 : Int) ≤ (fr : Int) by omega), dt (show (fr : Int) ≤ (p : Int) by omega)]; rfl) ?_)))
          unfold addWd
          by_cases hf : fr < p
          · refine sel_f (show strEq (s.extract fr p) ⟨⟨[]⟩⟩ = false by rw [ext_nil (by omega)]; exact df (by omega)) (sel_t (dt (show (acc.length + 1) * 16 ≤ 140737488355328 by omega)) ?_)
            rw [w1n p (by omega), decW_L, e1, if_pos hf]; rfl
          · refine sel_t (show strEq (s.extract fr p) ⟨⟨[]⟩⟩ = true by rw [ext_nil (by omega)]; exact dt hf) ?_
            rw [w1n p (by omega), decW_L, e1, if_neg hf]; rfl
        rw [iter_go this, if_pos hc, hw]
        exact lp23 s hs f (p + 1) (p + 1) _ (Nat.le_refl _) (by omega) (by have := addWd_len s acc fr p; omega) (by omega)
      · have : (st_L23_4 [.k 0, .s s, .n (fr : Int), .l TS acc, .s s, .n (p : Int)]).sel = some (.go [.k 0, .s s, .n (fr : Int), .l TS acc, .s s, .n ((p + (Lib.decodeL ((By s).drop p)).2 : Nat) : Int)]) := by
          refine fn_L23_4_t_im _ _ _ _ _ ?_
          unfold fn_L23_4_t
          refine sel_t (dt (size_lt.2 hp)) (sel_f (bf (by rw [decC_L]; omega)) ?_)
          rw [decW_L]; rfl
        rw [iter_go this, if_neg hc]
        exact lp23 s hs f _ fr acc (by omega) (by omega) (by omega) (by omega)
    · have : (st_L23_4 [.k 0, .s s, .n (fr : Int), .l TS acc, .s s, .n (p : Int)]).sel = some (.stop 0 [.s s, .n (fr : Int), .l TS acc]) := by
        refine fn_L23_4_t_im _ _ _ _ _ ?_
        unfold fn_L23_4_t
        exact sel_f (df (by rw [size_lt]; exact hp)) rfl
      rw [iter_stop this, List.drop_eq_nil_of_le (by omega)]; rfl
theorem o23 (s : ByteArray) (hs : s.size ≤ 9000) : op_23 [.s s] = some (0, [.l TS (wdsOf s)]) := by
  have e := lp23 s hs (FU - 1) 0 0 [] (Nat.le_refl _) (Nat.zero_le _) (Nat.zero_le _) (FUlt hs)
  rw [← FU1, ← op_L23_4_eq, List.drop_zero] at e
  obtain ⟨q1, q2, q3⟩ := spL_ok (x := 32) (addWd_len s) (l := By s) (i := 0) (fr := 0) (acc := []) (Nat.le_refl _)
  have hsz := By_len s
  rw [op_23_eq]
  refine fn_23_t_im _ _ ?_
  unfold fn_23_t wdsOf
  dsimp only
  erw [e]
  refine sel_t rfl (sel_t ?_ ?_)
  · show (decide ((0 : Int) ≤ ((spL 32 (addWd s) (By s) 0 0 []).1 : Int)) && decide (((spL 32 (addWd s) (By s) 0 0 []).1 : Int) ≤ (s.size : Int))) = true
    rw [dt (by omega), dt (by omega)]; rfl
  · generalize spL 32 (addWd s) (By s) 0 0 [] = r at q1 q2 q3 ⊢
    unfold addWd
    by_cases hf : r.1 < s.size
    · refine sel_f (show strEq (s.extract r.1 s.size) ⟨⟨[]⟩⟩ = false by rw [ext_nil (Nat.le_refl _)]; exact df (by omega)) (sel_t (dt (show (r.2.length + 1) * 16 ≤ 140737488355328 by simp at q3; omega)) ?_)
      rw [if_pos hf]; rfl
    · refine sel_t (show strEq (s.extract r.1 s.size) ⟨⟨[]⟩⟩ = true by rw [ext_nil (Nat.le_refl _)]; exact dt hf) ?_
      rw [if_neg hf]; rfl
theorem lp19b (s : ByteArray) (hs : s.size ≤ 9000) : ∀ (f p fr : Nat) (acc : Ts), fr ≤ p → p ≤ (By s).length → acc.length ≤ p → (By s).length ≤ p + f →
    iterS st_L19_10 (f + 2) [.k 0, .s s, .n (fr : Int), .n (p : Int), .l TS acc] =
    some (0, [.l TS (addWd s (spL 32 (addWd s) ((By s).drop p) p fr acc).2 (spL 32 (addWd s) ((By s).drop p) p fr acc).1 s.size)])
  | f, p, fr, acc, h1, h2, h3, h4 => by
    have hsz := By_len s
    by_cases hp : p < (By s).length
    · cases f with
      | zero => omega
      | succ f =>
      have hd : (By s).drop p = (By s)[p] :: (By s).drop (p + 1) := List.drop_eq_getElem_cons hp
      have hat := byte_at hp
      rw [hd, spL]
      by_cases hc : (By s)[p].toNat = 32
      · have : (st_L19_10 [.k 0, .s s, .n (fr : Int), .n (p : Int), .l TS acc]).sel = some (.go [.k 0, .s s, .n ((p + 1 : Nat) : Int), .n ((p + 1 : Nat) : Int), .l TS (addWd s acc fr p)]) := by
          refine fn_L19_10_t_im _ _ _ _ (by omega) _ ?_
          unfold fn_L19_10_t
          refine sel_t (dt (show (p : Int) ≤ (s.size : Int) by omega)) (sel_t (dt (size_lt.2 hp)) (sel_f (by rw [hat, hc]; rfl) ?_))
          unfold addWd
          by_cases hf : fr < p
          · refine sel_t (dt (show (p : Int) > (fr : Int) by omega)) (sel_t (by rw [dt (show (0 : Int) ≤ (fr : Int) by omega), dt (show (fr : Int) ≤ (p : Int) by omega)]; rfl) (sel_t (dt (show (acc.length + 1) * 16 ≤ 140737488355328 by omega)) ?_))
            rw [w1n p (by omega), if_pos hf]; rfl
          · refine sel_f (df (show ¬ (p : Int) > (fr : Int) by omega)) ?_
            rw [w1n p (by omega), if_neg hf]; rfl
        rw [iter_go this, if_pos hc]
        exact lp19b s hs f (p + 1) (p + 1) _ (Nat.le_refl _) (by omega) (by have := addWd_len s acc fr p; omega) (by omega)
      · have : (st_L19_10 [.k 0, .s s, .n (fr : Int), .n (p : Int), .l TS acc]).sel = some (.go [.k 0, .s s, .n (fr : Int), .n ((p + 1 : Nat) : Int), .l TS acc]) := by
          refine fn_L19_10_t_im _ _ _ _ (by omega) _ ?_
          unfold fn_L19_10_t
          refine sel_t (dt (show (p : Int) ≤ (s.size : Int) by omega)) (sel_t (dt (size_lt.2 hp)) (sel_t (by rw [hat]; exact nb (by omega)) ?_))
          rw [w1n p (by omega)]; rfl
        rw [iter_go this, if_neg hc]
        exact lp19b s hs f _ fr acc (by omega) (by omega) (by omega) (by omega)
    · have hpe : p = s.size := by omega
      have h5 : (st_L19_10 [.k 0, .s s, .n (fr : Int), .n (p : Int), .l TS acc]).sel = some (.go [.k 0, .s s, .n ((p + 1 : Nat) : Int), .n ((p + 1 : Nat) : Int), .l TS (addWd s acc fr s.size)]) ∨
          (st_L19_10 [.k 0, .s s, .n (fr : Int), .n (p : Int), .l TS acc]).sel = some (.go [.k 0, .s s, .n ((p + 1 : Nat) : Int), .n ((p + 1 : Nat) : Int), .l TS acc]) ∧ addWd s acc fr s.size = acc := by
        by_cases hf : fr < p
        · left
          refine fn_L19_10_t_im _ _ _ _ (by omega) _ ?_
          unfold fn_L19_10_t
          refine sel_t (dt (show (p : Int) ≤ (s.size : Int) by omega)) (sel_f (df (by rw [size_lt]; exact hp)) (sel_t (dt (show (p : Int) > (fr : Int) by omega)) (sel_t (by rw [dt (show (0 : Int) ≤ (fr : Int) by omega), dt (show (fr : Int) ≤ (p : Int) by omega)]; rfl) (sel_t (dt (show (acc.length + 1) * 16 ≤ 140737488355328 by omega)) ?_))))
          unfold addWd
          rw [w1n p (by omega), if_pos (by omega), ← hpe]; rfl
        · right
          refine ⟨?_, if_neg (by omega)⟩
          refine fn_L19_10_t_im _ _ _ _ (by omega) _ ?_
          unfold fn_L19_10_t
          refine sel_t (dt (show (p : Int) ≤ (s.size : Int) by omega)) (sel_f (df (by rw [size_lt]; exact hp)) (sel_f (df (show ¬ (p : Int) > (fr : Int) by omega)) ?_))
          rw [w1n p (by omega)]; rfl
      have h6 : ∀ a : Ts, iterS st_L19_10 (f + 1) [.k 0, .s s, .n ((p + 1 : Nat) : Int), .n ((p + 1 : Nat) : Int), .l TS a] = some (0, [.l TS a]) := fun a => by
        refine iter_stop ?_
        refine fn_L19_10_t_im _ _ _ _ (by omega) _ ?_
        unfold fn_L19_10_t
        exact sel_f (df (show ¬ ((p + 1 : Nat) : Int) ≤ (s.size : Int) by omega)) rfl
      rw [List.drop_eq_nil_of_le (by omega)]
      simp only [spL]
      rcases h5 with h5 | ⟨h5, h7⟩
      · rw [iter_go h5, h6]
      · rw [iter_go h5, h6, h7]

/-! ### Characters that may not be -/
theorem By_tail (s : ByteArray) (p : Nat) : By (s.extract p s.size) = (By s).drop p := by
  rw [By_extract, ← By_len, List.take_of_length_le (Nat.le_refl _)]
theorem By_t3 (s : ByteArray) (p : Nat) : By ((s.extract p s.size).extract 0 3) = ((By s).drop p).take 3 := by
  rw [By_extract, By_tail, List.drop_zero]
def rW : Option Nat → ByteArray → Nat × List Dat
  | some e, s => (0, [.s s, .n (e : Int)])
  | none, s => (1, [.n (30 : Int)])
theorem lp18 (s : ByteArray) (hs : s.size ≤ 9000) : ∀ (f p : Nat), p ≤ (By s).length → (By s).length ≤ p + f →
    iterS st_L18_3 (f + 1) [.k 0, .s s, .n (s.size : Int), .s s, .n (p : Int)] = some (rW (scan f ((By s).drop p) p) s)
  | f, p, h1, h4 => by
    have hsz := By_len s
    by_cases hp : p < (By s).length
    · have hne := drop_ne hp
      obtain ⟨k1, k2, k3, k4⟩ := dl_x (show 35 < 128 by omega) _ hne
      rw [List.length_drop] at k2
      cases f with
      | zero => omega
      | succ f =>
      rw [scan, if_neg hne, List.drop_drop]
      have hdc := decC_L s p
      by_cases hc : (Lib.decodeL ((By s).drop p)).1 = 35
      · have : (st_L18_3 [.k 0, .s s, .n (s.size : Int), .s s, .n (p : Int)]).sel = some (.stop 0 [.s s, .n (p : Int)]) := by
          refine fn_L18_3_t_im _ _ _ _ ?_
          unfold fn_L18_3_t
          exact sel_t (dt (size_lt.2 hp)) (sel_t (bt (by rw [hdc, hc]; rfl)) rfl)
        rw [iter_stop this, if_pos hc]; rfl
      · rw [if_neg hc]
        by_cases hb : badC (Lib.decodeL ((By s).drop p)).1 ((By s).drop p) = true
        · have : (st_L18_3 [.k 0, .s s, .n (s.size : Int), .s s, .n (p : Int)]).sel = some (.stop 1 [.n (30 : Int)]) := by
            refine fn_L18_3_t_im _ _ _ _ ?_
            unfold fn_L18_3_t
            refine sel_t (dt (size_lt.2 hp)) (sel_f (bf (by rw [hdc]; omega)) ?_)
            unfold badC at hb
            rw [Bool.or_eq_true, Bool.and_eq_true, decide_eq_true_eq, decide_eq_true_eq, Bool.not_eq_true', decide_eq_false_iff_not] at hb
            by_cases h32 : (Lib.decodeL ((By s).drop p)).1 < 32
            · exact sel_t (dt (by rw [hdc]; omega)) rfl
            · obtain ⟨hf, h3⟩ := hb.resolve_left h32
              refine sel_f (df (by rw [hdc]; omega)) (sel_t (bt (by rw [hdc, hf]; rfl)) (sel_t (by rw [dt (show (0 : Int) ≤ (p : Int) by omega), dt (show (p : Int) ≤ (s.size : Int) by omega)]; rfl) ?_))
              have hz : (s.extract p s.size).size = (By s).length - p := by rw [← By_len, By_tail, List.length_drop]
              by_cases hl : 3 ≤ (By s).length - p
              · refine sel_t (dt (show ((s.extract p s.size).size : Int) ≥ 3 by omega)) (sel_t (show (true && decide ((3 : Int) ≤ ((s.extract p s.size).size : Int))) = true by rw [dt (show (3 : Int) ≤ ((s.extract p s.size).size : Int) by omega)]; rfl) (sel_t ?_ rfl))
                show (!strEq ((s.extract p s.size).extract 0 3) ⟨⟨[(239 : UInt8), (191 : UInt8), (189 : UInt8)]⟩⟩) = true
                rw [strEq_By, By_t3]
                exact nf (df h3)
              · exact sel_f (df (show ¬ ((s.extract p s.size).size : Int) ≥ 3 by omega)) rfl
          rw [iter_stop this, if_pos hb]; rfl
        · have : (st_L18_3 [.k 0, .s s, .n (s.size : Int), .s s, .n (p : Int)]).sel = some (.go [.k 0, .s s, .n (s.size : Int), .s s, .n ((p + (Lib.decodeL ((By s).drop p)).2 : Nat) : Int)]) := by
            refine fn_L18_3_t_im _ _ _ _ ?_
            unfold fn_L18_3_t
            refine sel_t (dt (size_lt.2 hp)) (sel_f (bf (by rw [hdc]; omega)) ?_)
            have hb' := hb
            unfold badC at hb'
            rw [Bool.or_eq_true, Bool.and_eq_true, decide_eq_true_eq, decide_eq_true_eq, Bool.not_eq_true', decide_eq_false_iff_not] at hb'
            refine sel_f (df (by rw [hdc]; omega)) ?_
            by_cases hf : (Lib.decodeL ((By s).drop p)).1 = 65533
            · have h3 : ((By s).drop p).take 3 = [239, 191, 189] := by
                by_cases q : ((By s).drop p).take 3 = [239, 191, 189]
                · exact q
                · exact absurd (.inr ⟨hf, q⟩) hb'
              have hl : 3 ≤ (By s).length - p := by
                have := congrArg List.length h3; rw [List.length_take, List.length_drop] at this; simp only [List.length_cons, List.length_nil] at this; omega
              have hz : (s.extract p s.size).size = (By s).length - p := by rw [← By_len, By_tail, List.length_drop]
              refine sel_t (bt (by rw [hdc, hf]; rfl)) (sel_t (by rw [dt (show (0 : Int) ≤ (p : Int) by omega), dt (show (p : Int) ≤ (s.size : Int) by omega)]; rfl) (sel_t (dt (show ((s.extract p s.size).size : Int) ≥ 3 by omega)) (sel_t (show (true && decide ((3 : Int) ≤ ((s.extract p s.size).size : Int))) = true by rw [dt (show (3 : Int) ≤ ((s.extract p s.size).size : Int) by omega)]; rfl) (sel_f ?_ ?_))))
              · show (!strEq ((s.extract p s.size).extract 0 3) ⟨⟨[(239 : UInt8), (191 : UInt8), (189 : UInt8)]⟩⟩) = false
                rw [strEq_By, By_t3]
                exact nt (dt h3)
              · rw [decW_L]; rfl
            · refine sel_f (bf (by rw [hdc]; omega)) ?_
              rw [decW_L]; rfl
          rw [iter_go this, if_neg hb]
          exact lp18 s hs f _ (by omega) (by omega)
    · have : (st_L18_3 [.k 0, .s s, .n (s.size : Int), .s s, .n (p : Int)]).sel = some (.stop 0 [.s s, .n (s.size : Int)]) := by
        refine fn_L18_3_t_im _ _ _ _ ?_
        unfold fn_L18_3_t
        exact sel_f (df (by rw [size_lt]; exact hp)) rfl
      rw [iter_stop this, List.drop_eq_nil_of_le (by omega)]
      have : scan f [] p = some p := by cases f <;> simp [scan]
      rw [this, show p = s.size by omega]; rfl
theorem o25 (s : ByteArray) (hs : s.size ≤ 9000) (p : Nat) (hp : p < (By s).length) : op_25 [.s s, .n (p : Int)] = some (0, [.b (decide (((By s).drop p).take 3 = [239, 191, 189]))]) := by
  have hsz := By_len s
  have hw3 : IntKind.wrap .i64 ((p : Int) + 3) = ((p + 3 : Nat) : Int) := by rw [w64 (by omega) (by omega)]; rfl
  have hw2 : IntKind.wrap .i64 ((p : Int) + 2) = ((p + 2 : Nat) : Int) := by rw [w64 (by omega) (by omega)]; rfl
  have hw1 := w1n p (by omega)
  rw [op_25_eq]
  refine fn_25_t_im _ _ _ ?_
  unfold fn_25_t
  by_cases hl : p + 3 ≤ (By s).length
  · have e3 : ((By s).drop p).take 3 = [(By s)[p], (By s)[p + 1], (By s)[p + 2]] := by
      rw [List.drop_eq_getElem_cons hp, List.drop_eq_getElem_cons (show p + 1 < _ by omega), List.drop_eq_getElem_cons (show p + 1 + 1 < _ by omega)]; rfl
    have u : ∀ (a : UInt8) (n : Nat) (hn : n < 256), ((a.toNat : Int) = (n : Int)) ↔ a = UInt8.ofNat n := fun a n hn => by
      rw [Int.ofNat_inj]
      constructor
      · intro e; apply UInt8.toNat_inj.1; rw [e]; simp; omega
      · intro e; rw [e]; simp; omega
    refine sel_t (dt (by rw [hw3]; omega)) (sel_t (inR_true (by omega) (by omega)) ?_)
    have d0 : strAt s (p : Int) = (((By s)[p].toNat : Nat) : Int) := byte_at hp
    have d1 : strAt s ((p + 1 : Nat) : Int) = (((By s)[p + 1].toNat : Nat) : Int) := byte_at (by omega)
    have d2 : strAt s ((p + 2 : Nat) : Int) = (((By s)[p + 2].toNat : Nat) : Int) := byte_at (by omega)
    by_cases q0 : (By s)[p] = 239
    · refine sel_t (bt (by rw [d0, q0]; rfl)) (sel_t (by rw [hw1]; exact inR_true (by omega) (by omega)) ?_)
      by_cases q1 : (By s)[p + 1] = 191
      · refine sel_t (bt (by rw [hw1, d1, q1]; rfl)) (sel_t (by rw [hw2]; exact inR_true (by omega) (by omega)) ?_)
        have : (strAt s (IntKind.wrap .i64 ((p : Int) + 2)) == (189 : Int)) = decide (((By s).drop p).take 3 = [239, 191, 189]) := by
          rw [hw2, d2, e3, q0, q1]
          by_cases q2 : (By s)[p + 2] = 189
          · rw [q2]; rfl
          · rw [df (by simpa using q2)]
            exact bf fun e => q2 ((u _ 189 (by omega)).1 e)
        exact congrArg (fun b => some (0, [Dat.b b])) this
      · refine sel_f (bf (by rw [hw1, d1]; exact fun e => q1 ((u _ 191 (by omega)).1 e))) ?_
        rw [df (by rw [e3]; simp [q1])]; rfl
    · refine sel_f (bf (by rw [d0]; exact fun e => q0 ((u _ 239 (by omega)).1 e))) ?_
      rw [df (by rw [e3]; simp [q0])]; rfl
  · refine sel_f (df (by rw [hw3]; omega)) ?_
    rw [df ?_]; rfl
    intro e
    have := congrArg List.length e
    rw [List.length_take, List.length_drop] at this
    simp only [List.length_cons, List.length_nil] at this
    omega
def rC (s : ByteArray) : Bool → Nat × List Dat
  | true => (0, [.s s])
  | false => (1, [.n (30 : Int)])
theorem lp19 (s : ByteArray) (hs : s.size ≤ 9000) : ∀ (f p : Nat), p ≤ (By s).length → (By s).length ≤ p + f →
    iterS st_L19_3 (f + 1) [.k 0, .s s, .s s, .n (p : Int)] = some (rC s (chkB f ((By s).drop p)))
  | f, p, h1, h4 => by
    have hsz := By_len s
    by_cases hp : p < (By s).length
    · have hne := drop_ne hp
      obtain ⟨k1, k2, k3, k4⟩ := dl_x (show 35 < 128 by omega) _ hne
      rw [List.length_drop] at k2
      cases f with
      | zero => omega
      | succ f =>
      rw [chkB, if_neg hne, List.drop_drop]
      have hdc := decC_L s p
      by_cases hb : badC (Lib.decodeL ((By s).drop p)).1 ((By s).drop p) = true
      · have : (st_L19_3 [.k 0, .s s, .s s, .n (p : Int)]).sel = some (.stop 1 [.n (30 : Int)]) := by
          refine fn_L19_3_t_im _ _ _ ?_
          unfold fn_L19_3_t
          refine sel_t (dt (size_lt.2 hp)) ?_
          unfold badC at hb
          rw [Bool.or_eq_true, Bool.and_eq_true, decide_eq_true_eq, decide_eq_true_eq, Bool.not_eq_true', decide_eq_false_iff_not] at hb
          by_cases h32 : (Lib.decodeL ((By s).drop p)).1 < 32
          · exact sel_t (dt (by rw [hdc]; omega)) rfl
          · obtain ⟨hf, h3⟩ := hb.resolve_left h32
            refine sel_f (df (by rw [hdc]; omega)) (sel_t (bt (by rw [hdc, hf]; rfl)) ?_)
            dsimp only
            rw [o25 s hs p hp, df h3]
            exact sel_t rfl (sel_t rfl rfl)
        rw [iter_stop this, if_pos hb]; rfl
      · have : (st_L19_3 [.k 0, .s s, .s s, .n (p : Int)]).sel = some (.go [.k 0, .s s, .s s, .n ((p + (Lib.decodeL ((By s).drop p)).2 : Nat) : Int)]) := by
          refine fn_L19_3_t_im _ _ _ ?_
          unfold fn_L19_3_t
          refine sel_t (dt (size_lt.2 hp)) ?_
          have hb' := hb
          unfold badC at hb'
          rw [Bool.or_eq_true, Bool.and_eq_true, decide_eq_true_eq, decide_eq_true_eq, Bool.not_eq_true', decide_eq_false_iff_not] at hb'
          refine sel_f (df (by rw [hdc]; omega)) ?_
          by_cases hf : (Lib.decodeL ((By s).drop p)).1 = 65533
          · have h3 : ((By s).drop p).take 3 = [239, 191, 189] := by
              by_cases q : ((By s).drop p).take 3 = [239, 191, 189]
              · exact q
              · exact absurd (.inr ⟨hf, q⟩) hb'
            refine sel_t (bt (by rw [hdc, hf]; rfl)) ?_
            dsimp only
            rw [o25 s hs p hp, dt h3]
            refine sel_t rfl (sel_f rfl ?_)
            rw [decW_L]; rfl
          · refine sel_f (bf (by rw [hdc]; omega)) ?_
            rw [decW_L]; rfl
        rw [iter_go this, if_neg hb]
        exact lp19 s hs f _ (by omega) (by omega)
    · have : (st_L19_3 [.k 0, .s s, .s s, .n (p : Int)]).sel = some (.stop 0 [.s s]) := by
        refine fn_L19_3_t_im _ _ _ ?_
        unfold fn_L19_3_t
        exact sel_f (df (by rw [size_lt]; exact hp)) rfl
      rw [iter_stop this, List.drop_eq_nil_of_le (by omega)]
      have : chkB f [] = true := by cases f <;> simp [chkB]
      rw [this]; rfl
/-- The words of a text, or none. -/
def okW (s : ByteArray) : Bool := chkB (FU - 1) (hd35 (By s))
def wds (s : ByteArray) : Nat × List Dat := match okW s with
  | true => (0, [.n (0 : Int), .l TS (wdsOf (ah s))])
  | false => (1, [.n (30 : Int)])
theorem o18 (s : ByteArray) (hs : s.size ≤ 9000) : op_18 [.s s] = some (wds s) := by
  have e := lp18 s hs (FU - 1) 0 (Nat.zero_le _) (FUlt hs)
  rw [← FU1, ← op_L18_3_eq, List.drop_zero, scan_eq (by have := FUlt hs; omega), Nat.zero_add] at e
  have hsz := By_len s
  have hle := hd35_le (By s)
  rw [op_18_eq]
  refine fn_18_t_im _ _ ?_
  unfold fn_18_t wds okW
  dsimp only
  erw [e]
  cases chkB (FU - 1) (hd35 (By s)) with
  | true =>
    refine sel_t rfl (sel_t ?_ (sel_t ?_ ?_))
    · show (decide ((0 : Int) ≤ ((hd35 (By s)).length : Int)) && decide (((hd35 (By s)).length : Int) ≤ (s.size : Int))) = true
      rw [dt (by omega), dt (by omega)]; rfl
    · show (true && decide ((0 : Int) ≤ ((hd35 (By s)).length : Int))) = true
      rw [dt (by omega)]; rfl
    · have e2 := o23 (ah s) (by have := ah_size s; omega)
      show (let r2 := op_23 [.s (ah s)]; _ : Tree (Nat × List Dat)).sel = _
      dsimp only
      erw [e2]
      exact sel_t rfl rfl
  | false => exact sel_f rfl (sel_t rfl rfl)
theorem o19 (s : ByteArray) (hs : s.size ≤ 9000) : op_19 [.s s] = some (wds s) := by
  have hs' : (ah s).size ≤ 9000 := by have := ah_size s; omega
  have e := lp19 (ah s) hs' (FU - 1) 0 (Nat.zero_le _) (FUlt hs')
  rw [← FU1, ← op_L19_3_eq, List.drop_zero, By_ah] at e
  have e2 := lp19b (ah s) hs' (FU - 2) 0 0 [] (Nat.le_refl _) (Nat.zero_le _) (Nat.zero_le _) (by rw [By_len]; unfold FU; omega)
  rw [show FU - 2 + 2 = FU by unfold FU; omega, ← op_L19_10_eq, List.drop_zero] at e2
  rw [op_19_eq]
  refine fn_19_t_im _ _ ?_
  unfold fn_19_t wds okW
  dsimp only
  rw [o24 s hs]
  refine sel_t rfl ?_
  erw [e]
  cases chkB (FU - 1) (hd35 (By s)) with
  | true =>
    refine sel_t rfl ?_
    erw [e2]
    exact sel_t rfl rfl
  | false => exact sel_f rfl (sel_t rfl rfl)
theorem wds_len (s : ByteArray) (hs : s.size ≤ 9000) : (wdsOf s).length ≤ 9001 := by
  obtain ⟨q1, q2, q3⟩ := spL_ok (x := 32) (addWd_len s) (l := By s) (i := 0) (fr := 0) (acc := []) (Nat.le_refl _)
  have hsz := By_len s
  have := addWd_len s (spL 32 (addWd s) (By s) 0 0 []).2 (spL 32 (addWd s) (By s) 0 0 []).1 s.size
  unfold wdsOf; simp at q3; omega
theorem W6_true (s : ByteArray) : (ev_W6 [.s s]).sel = some true := by
  refine fn_W6_t_im _ _ ?_
  unfold fn_W6_t
  by_cases h : (s.size : Int) > 2000
  · exact sel_t (dt h) rfl
  · refine sel_f (df h) ?_
    have hs : s.size ≤ 9000 := by omega
    have hl := wds_len (ah s) (by have := ah_size s; omega)
    have e1 := o18 s hs
    have e2 := o19 s hs
    unfold wds at e1 e2
    dsimp only
    cases hk : okW s with
    | true =>
      rw [hk] at e1 e2
      rw [e1, e2]
      refine sel_t rfl (sel_t rfl (sel_t rfl ?_))
      erw [o16 (wdsOf (ah s)) (by omega)]
      exact sel_t rfl (sel_t rfl rfl)
    | false =>
      rw [hk] at e1 e2
      rw [e1, e2]
      refine sel_f rfl (sel_t rfl (sel_f rfl (sel_t rfl (sel_t rfl ?_))))
      erw [o16 [] (by simp)]
      exact sel_t rfl (sel_t rfl rfl)
end Go.Proofs.Ytpkmihelefkphaa.Vx
namespace Go.Proofs.Ytpkmihelefkphaa.Vx
open Go Go.RowKit
set_option linter.unusedVariables false
set_option linter.unusedSimpArgs false
/-! ### Words as rows of bytes -/
def wl : Bs → Bs → List Bs
  | [], cur => if cur = [] then [] else [cur]
  | b :: r, cur => if b.toNat = 32 then (if cur = [] then wl r [] else cur :: wl r []) else wl r (cur ++ [b])
theorem ext_ne (s : ByteArray) {fr i : Nat} (h : i ≤ (By s).length) : (By (s.extract fr i) = []) ↔ ¬ fr < i := by
  rw [By_extract]
  constructor
  · intro e
    have := congrArg List.length e
    rw [List.length_drop, List.length_take] at this
    simp only [List.length_nil] at this
    omega
  · intro e
    exact List.drop_eq_nil_of_le (by rw [List.length_take]; omega)
theorem addWd_map (s : ByteArray) (acc : Ts) {fr i : Nat} (h : i ≤ (By s).length) : (addWd s acc fr i).map By = acc.map By ++ (if By (s.extract fr i) = [] then [] else [By (s.extract fr i)]) := by
  unfold addWd
  by_cases q : fr < i
  · rw [if_pos q, if_neg (by rw [ext_ne s h]; omega)]; simp
  · rw [if_neg q, if_pos ((ext_ne s h).2 q)]; simp
theorem spL_wl (s : ByteArray) : ∀ {l : Bs} {i fr : Nat} {acc : Ts}, fr ≤ i → i + l.length = (By s).length → (By s).drop i = l →
    (addWd s (spL 32 (addWd s) l i fr acc).2 (spL 32 (addWd s) l i fr acc).1 s.size).map By = acc.map By ++ wl l (By (s.extract fr i))
  | [], i, fr, acc, h, hl, hd => by
    have hsz := By_len s
    simp only [List.length_nil] at hl
    simp only [spL, wl]
    rw [addWd_map s acc (by omega), show s.size = i by omega]
  | b :: r, i, fr, acc, h, hl, hd => by
    have hb : (By s)[i]? = some b := by
      have := congrArg (fun l => l[0]?) hd
      simpa [List.getElem?_drop] using this
    have hd' : (By s).drop (i + 1) = r := by rw [← List.drop_drop, hd]; rfl
    simp only [List.length_cons] at hl
    rw [spL, wl]
    by_cases e : b.toNat = 32
    · rw [if_pos e, if_pos e, spL_wl s (Nat.le_refl _) (by omega) hd', addWd_map s acc (by omega)]
      have e0 : By (s.extract (i + 1) (i + 1)) = [] := (ext_ne s (by omega)).2 (by omega)
      rw [e0]
      by_cases q : By (s.extract fr i) = []
      · rw [if_pos q, if_pos q]; simp
      · rw [if_neg q, if_neg q]; simp
    · rw [if_neg e, if_neg e, spL_wl s (by omega) (by omega) hd', extract_snoc s h hb]
theorem wds_wl (s : ByteArray) : (wdsOf s).map By = wl (By s) [] := by
  have := spL_wl s (l := By s) (i := 0) (fr := 0) (acc := []) (Nat.le_refl _) (by omega) rfl
  have e0 : By (s.extract 0 0) = [] := (ext_ne s (Nat.zero_le _)).2 (by omega)
  rw [e0] at this
  exact this
theorem By_inj {a b : Ts} (h : a.map By = b.map By) : a = b := by
  induction a generalizing b with
  | nil => cases b with
    | nil => rfl
    | cons => simp at h
  | cons x a ih => cases b with
    | nil => simp at h
    | cons y b =>
      simp only [List.map_cons, List.cons.injEq] at h
      rw [By_ext h.1, ih h.2]
theorem wl_mem : ∀ {l cur : Bs}, (∀ b ∈ cur, b.toNat ≠ 32) → ∀ w ∈ wl l cur, w ≠ [] ∧ ∀ b ∈ w, b.toNat ≠ 32 ∧ (b ∈ cur ∨ b ∈ l)
  | [], cur, hc, w, hw => by
    rw [wl] at hw
    by_cases q : cur = []
    · rw [if_pos q] at hw; cases hw
    · rw [if_neg q] at hw
      simp at hw; subst hw
      exact ⟨q, fun b hb => ⟨hc b hb, .inl hb⟩⟩
  | x :: r, cur, hc, w, hw => by
    rw [wl] at hw
    by_cases e : x.toNat = 32
    · rw [if_pos e] at hw
      have ih : ∀ w ∈ wl r [], w ≠ [] ∧ ∀ b ∈ w, b.toNat ≠ 32 ∧ (b ∈ cur ∨ b ∈ x :: r) := fun w hw => by
        obtain ⟨h1, h2⟩ := wl_mem (l := r) (cur := []) (fun b hb => by cases hb) w hw
        exact ⟨h1, fun b hb => ⟨(h2 b hb).1, .inr (List.mem_cons_of_mem _ ((h2 b hb).2.resolve_left (by simp)))⟩⟩
      by_cases q : cur = []
      · rw [if_pos q] at hw; exact ih w hw
      · rw [if_neg q] at hw
        rcases List.mem_cons.1 hw with rfl | hw
        · exact ⟨q, fun b hb => ⟨hc b hb, .inl hb⟩⟩
        · exact ih w hw
    · rw [if_neg e] at hw
      have hc' : ∀ b ∈ cur ++ [x], b.toNat ≠ 32 := fun b hb => by
        rcases List.mem_append.1 hb with hb | hb
        · exact hc b hb
        · simp at hb; subst hb; exact e
      obtain ⟨h1, h2⟩ := wl_mem hc' w hw
      refine ⟨h1, fun b hb => ⟨(h2 b hb).1, ?_⟩⟩
      rcases (h2 b hb).2 with q | q
      · rcases List.mem_append.1 q with q | q
        · exact .inl q
        · simp at q; subst q; exact .inr List.mem_cons_self
      · exact .inr (List.mem_cons_of_mem _ q)
def Jw : List Bs → Bs
  | [] => []
  | w :: ws => 32 :: (w ++ Jw ws)
theorem Jw_snoc : ∀ (ws : List Bs) (w : Bs), Jw (ws ++ [w]) = Jw ws ++ (32 :: w)
  | [], w => by simp [Jw]
  | x :: ws, w => by simp only [List.cons_append, Jw, Jw_snoc ws w, List.append_assoc]
theorem Jw_len : ∀ (l cur : Bs), (Jw (wl l cur)).length ≤ 2 * (cur.length + l.length)
  | [], cur => by
    rw [wl]
    by_cases q : cur = []
    · rw [if_pos q]; simp [Jw]
    · rw [if_neg q]
      have : 1 ≤ cur.length := by cases cur with
        | nil => exact absurd rfl q
        | cons => simp
      simp [Jw]; omega
  | x :: r, cur => by
    have h1 := Jw_len r []
    have h2 := Jw_len r (cur ++ [x])
    rw [wl]
    simp only [List.length_nil, List.length_append, List.length_cons] at *
    split
    · split
      · omega
      · simp only [Jw, List.length_cons, List.length_append]; omega
    · omega
theorem Jw_take : ∀ (ws : List Bs) (k : Nat), (Jw (ws.take k)).length ≤ (Jw ws).length
  | [], k => by simp
  | w :: ws, 0 => by simp [Jw]
  | w :: ws, k + 1 => by
    have := Jw_take ws k
    simp only [List.take_succ_cons, Jw, List.length_cons, List.length_append]; omega
theorem wl_word : ∀ (w cur r : Bs), (∀ b ∈ w, b.toNat ≠ 32) → wl (w ++ 32 :: r) cur = if cur ++ w = [] then wl r [] else (cur ++ w) :: wl r []
  | [], cur, r, h => by rw [List.nil_append, wl, if_pos (show UInt8.toNat 32 = 32 from rfl), List.append_nil]
  | x :: w, cur, r, h => by
    rw [List.cons_append, wl, if_neg (h x List.mem_cons_self), wl_word w (cur ++ [x]) r fun b hb => h b (List.mem_cons_of_mem _ hb)]
    simp
theorem wl_J : ∀ (ws : List Bs), (∀ w ∈ ws, w ≠ [] ∧ ∀ b ∈ w, b.toNat ≠ 32) → wl (Jw ws ++ [32]) [] = ws
  | [], h => by simp [Jw, wl]
  | w :: ws, h => by
    obtain ⟨h1, h2⟩ := h w List.mem_cons_self
    have ih := wl_J ws fun w hw => h w (List.mem_cons_of_mem _ hw)
    obtain ⟨y, hy⟩ : ∃ y, Jw ws ++ [32] = 32 :: y := by
      cases ws with
      | nil => exact ⟨[], rfl⟩
      | cons x ws => exact ⟨_, rfl⟩
    have ey : wl y [] = ws := by rw [hy, wl, if_pos (show UInt8.toNat 32 = 32 from rfl), if_pos rfl] at ih; exact ih
    show wl (32 :: ((w ++ Jw ws) ++ [32])) [] = _
    rw [wl, if_pos (show UInt8.toNat 32 = 32 from rfl), if_pos rfl, List.append_assoc, hy, wl_word w [] y h2, List.nil_append, if_neg h1, ey]

/-! ### Characters that may be -/
theorem chk_nil (f : Nat) : chkB f [] = true := by cases f <;> simp [chkB]
theorem chk_fuel : ∀ {f g : Nat} {l : Bs}, l.length ≤ f → l.length ≤ g → chkB f l = chkB g l
  | 0, g, l, h, k => by
    have : l = [] := List.length_eq_zero_iff.1 (by omega)
    subst this; rw [chk_nil, chk_nil]
  | f + 1, 0, l, h, k => by
    have : l = [] := List.length_eq_zero_iff.1 (by omega)
    subst this; rw [chk_nil, chk_nil]
  | f + 1, g + 1, l, h, k => by
    by_cases hl : l = []
    · subst hl; rw [chk_nil, chk_nil]
    · obtain ⟨k1, k2, _, _⟩ := dl_x (show 35 < 128 by omega) l hl
      rw [chkB, chkB, if_neg hl, if_neg hl, chk_fuel (f := f) (g := g) (by rw [List.length_drop]; omega) (by rw [List.length_drop]; omega)]
def Fine (l : Bs) : Prop := chkB l.length l = true
theorem Fine.of {f : Nat} {l : Bs} (h : l.length ≤ f) : chkB f l = true ↔ Fine l := by unfold Fine; rw [chk_fuel h (Nat.le_refl _)]
theorem Fine.step {l : Bs} (hl : l ≠ []) : Fine l ↔ badC (Lib.decodeL l).1 l = false ∧ Fine (l.drop (Lib.decodeL l).2) := by
  obtain ⟨k1, k2, _, _⟩ := dl_x (show 35 < 128 by omega) l hl
  have hp : 1 ≤ l.length := by omega
  obtain ⟨n, hn⟩ : ∃ n, l.length = n + 1 := ⟨l.length - 1, by omega⟩
  unfold Fine
  rw [hn, chkB, if_neg hl]
  cases badC (Lib.decodeL l).1 l with
  | true => simp
  | false =>
    simp only [Bool.false_eq_true, if_false, true_and]
    rw [chk_fuel (f := n) (g := (l.drop (Lib.decodeL l).2).length) (by rw [List.length_drop]; omega) (Nat.le_refl _)]
theorem badC_pre {c : Nat} {u v : Bs} (hv : v = [] ∨ (v.getD 0 0).toNat < 128) : badC c (u ++ v) = badC c u := by
  unfold badC
  have : ((u ++ v).take 3 = [239, 191, 189]) = (u.take 3 = [239, 191, 189]) := by
    apply propext
    rcases hv with rfl | hv
    · rw [List.append_nil]
    · match u with
      | [] => constructor
              · intro e
                cases v with
                | nil => simp at e
                | cons b v =>
                  have := congrArg (fun l => l.getD 0 0) e
                  simp at this hv; rw [this] at hv; exact absurd hv (by decide)
              · intro e; simp at e
      | [x] => constructor
               · intro e
                 cases v with
                 | nil => simp at e
                 | cons b v =>
                   have := congrArg (fun l => l.getD 1 0) e
                   simp at this hv; rw [this] at hv; exact absurd hv (by decide)
               · intro e; simp at e
      | [x, y] => constructor
                  · intro e
                    cases v with
                    | nil => simp at e
                    | cons b v =>
                      have := congrArg (fun l => l.getD 2 0) e
                      simp at this hv; rw [this] at hv; exact absurd hv (by decide)
                  · intro e; simp at e
      | x :: y :: z :: u => simp
  simp only [this]
theorem Fine.app : ∀ (n : Nat) {u v : Bs}, u.length ≤ n → (v = [] ∨ (v.getD 0 0).toNat < 128) → (Fine (u ++ v) ↔ Fine u ∧ Fine v)
  | n, u, v, hn, hv => by
    by_cases hu : u = []
    · subst hu
      have : Fine [] := chk_nil _
      simp [this]
    · cases n with
      | zero => exact absurd (List.length_eq_zero_iff.1 (by omega)) hu
      | succ n =>
      obtain ⟨k1, k2, _, _⟩ := dl_x (show 35 < 128 by omega) u hu
      rw [Fine.step (l := u ++ v) (by simp [hu]), Fine.step hu, dl_pre u v hu hv, badC_pre hv, List.drop_append_of_le_length k2, Fine.app n (by rw [List.length_drop]; omega) hv]
      exact ⟨fun ⟨a, b, c⟩ => ⟨⟨a, b⟩, c⟩, fun ⟨⟨a, b⟩, c⟩ => ⟨a, b, c⟩⟩
theorem Fine.sp (r : Bs) : Fine ((32 : UInt8) :: r) ↔ Fine r := by
  rw [Fine.step (by simp), dl_lo 32 r (by decide)]
  exact ⟨fun h => h.2, fun h => ⟨rfl, h⟩⟩
theorem wl_fine : ∀ {l cur : Bs}, Fine (cur ++ l) → ∀ w ∈ wl l cur, Fine w
  | [], cur, h, w, hw => by
    rw [wl] at hw
    rw [List.append_nil] at h
    by_cases q : cur = []
    · rw [if_pos q] at hw; cases hw
    · rw [if_neg q] at hw; simp at hw; subst hw; exact h
  | x :: r, cur, h, w, hw => by
    rw [wl] at hw
    by_cases e : x.toNat = 32
    · have ex : x = 32 := UInt8.toNat_inj.1 (by simpa using e)
      subst ex
      obtain ⟨h1, h2⟩ := (Fine.app _ (Nat.le_refl _) (.inr (by simp))).1 h
      rw [Fine.sp] at h2
      rw [if_pos e] at hw
      have ih : ∀ w ∈ wl r [], Fine w := wl_fine (cur := []) (by simpa using h2)
      by_cases q : cur = []
      · rw [if_pos q] at hw; exact ih w hw
      · rw [if_neg q] at hw
        rcases List.mem_cons.1 hw with rfl | hw
        · exact h1
        · exact ih w hw
    · rw [if_neg e] at hw
      exact wl_fine (by simpa using h) w hw
theorem J_fine : ∀ (ws : List Bs), (∀ w ∈ ws, Fine w) → Fine (Jw ws ++ [32])
  | [], h => by
    show Fine [32]
    rw [Fine.sp]; exact chk_nil _
  | w :: ws, h => by
    have ih := J_fine ws fun w hw => h w (List.mem_cons_of_mem _ hw)
    show Fine (32 :: ((w ++ Jw ws) ++ [32]))
    rw [Fine.sp, List.append_assoc, Fine.app _ (Nat.le_refl _)]
    · exact ⟨h w List.mem_cons_self, ih⟩
    · right
      cases ws with
      | nil => simp [Jw]
      | cons => simp [Jw]
/-- A row of signs. -/
theorem rcn_ok : ∀ {f : Nat} {l : Bs} {k : Nat}, l.length ≤ f → rcn f l = some k → (∀ b ∈ l, b.toNat ≠ 32 ∧ b.toNat ≠ 35) ∧ Fine l ∧ (0 < k → l ≠ [])
  | 0, l, k, h, e => by
    have : l = [] := List.length_eq_zero_iff.1 (by omega)
    subst this
    cases e
    exact ⟨fun b hb => (by cases hb), chk_nil _, fun h => by omega⟩
  | f + 1, l, k, h, e => by
    by_cases hl : l = []
    · subst hl
      rw [rcn, if_pos rfl] at e; cases e
      exact ⟨fun b hb => (by cases hb), chk_nil _, fun h => by omega⟩
    · obtain ⟨k1, k2, _, a35⟩ := dl_x (show 35 < 128 by omega) l hl
      obtain ⟨_, _, _, a32⟩ := dl_x (show 32 < 128 by omega) l hl
      rw [rcn, if_neg hl] at e
      by_cases hs : sgn ((Lib.decodeL l).1 : Int) = true
      · rw [if_pos hs] at e
        obtain ⟨k', e', _⟩ := Option.map_eq_some_iff.1 e
        obtain ⟨h1, h2, _⟩ := rcn_ok (by rw [List.length_drop]; omega) e'
        unfold sgn at hs
        simp only [Bool.and_eq_true, Bool.or_eq_true, Bool.not_eq_true', Bool.or_eq_false_iff, decide_eq_true_eq, decide_eq_false_iff_not] at hs
        have c32 : (Lib.decodeL l).1 ≠ 32 := by omega
        have c35 : (Lib.decodeL l).1 ≠ 35 := by omega
        have cfd : (Lib.decodeL l).1 ≠ 65533 := by omega
        have clo : ¬ (Lib.decodeL l).1 < 32 := by omega
        refine ⟨fun b hb => ?_, (Fine.step hl).2 ⟨by unfold badC; rw [decide_eq_false clo, decide_eq_false cfd]; rfl, h2⟩, fun _ => hl⟩
        rw [← List.take_append_drop (Lib.decodeL l).2 l] at hb
        rcases List.mem_append.1 hb with hb | hb
        · exact ⟨a32 c32 b hb, a35 c35 b hb⟩
        · exact h1 b hb
      · rw [if_neg hs] at e; cases e
theorem wl_one : ∀ (l cur : Bs), (∀ b ∈ l, b.toNat ≠ 32) → wl l cur = if cur ++ l = [] then [] else [cur ++ l]
  | [], cur, h => by rw [wl, List.append_nil]
  | x :: l, cur, h => by
    rw [wl, if_neg (h x List.mem_cons_self), wl_one l (cur ++ [x]) fun b hb => h b (List.mem_cons_of_mem _ hb)]; simp
theorem hd35_all {l : Bs} (h : ∀ b ∈ l, b.toNat ≠ 35) : hd35 l = l := by
  have := hd35_app (a := l) (r := []) h
  rw [List.append_nil] at this
  rw [this]; simp [hd35]
theorem hd35_no (l : Bs) : ∀ b ∈ hd35 l, b.toNat ≠ 35 := by
  intro b hb
  unfold hd35 at hb
  have := List.all_takeWhile (p := fun b : UInt8 => decide (b.toNat ≠ 35)) (l := l)
  rw [List.all_eq_true] at this
  simpa using this b hb
end Go.Proofs.Ytpkmihelefkphaa.Vx
namespace Go.Proofs.Ytpkmihelefkphaa.Vx
open Go Go.RowKit
set_option linter.unusedVariables false
set_option linter.unusedSimpArgs false
set_option maxRecDepth 100000
set_option maxHeartbeats 1000000
/-! ### The words of words -/
theorem lp7i (s0 : ByteArray) (L : Ts) (k : Nat) (hk : k < L.length) (hz : L[k].size ≤ 9000) (hb : ∀ b ∈ By L[k], b.toNat ≠ 32 ∧ b.toNat ≠ 35) :
    op_L7_15 [.k 0, .s s0, .n (k : Int), .n (0 : Int), .l TS L] = some (0, [.s s0, .n (k : Int), .l TS L]) := by
  have hg : (List.getD L (Int.toNat (k : Int)) (Ty.dflt Ty.str) : ByteArray) = L[k] := getD_at hk
  have hzz := By_len L[k]
  rw [op_L7_15_eq]
  refine iter_count (fun i => [.k 0, .s s0, .n (k : Int), .n (i : Int), .l TS L]) L[k].size (0, [.s s0, .n (k : Int), .l TS L]) (fun i hi => ?_) ?_ FU (lt_FU (by omega))
  · refine fn_L7_15_t_im _ _ _ _ (by omega) (show (k : Int) < (L.length : Int) by omega) (by omega) _ ?_
    unfold fn_L7_15_t
    have hi' : i < (By L[k]).length := by omega
    have hat : strAt (List.getD L (Int.toNat (k : Int)) (Ty.dflt Ty.str)) (i : Int) = (((By L[k])[i].toNat : Nat) : Int) := (congrArg (fun x : ByteArray => strAt x (i : Int)) hg).trans (byte_at hi')
    obtain ⟨b1, b2⟩ := hb (By L[k])[i] (List.getElem_mem _)
    refine sel_t (dt ?_) (sel_f (bf ?_) (sel_f (bf ?_) ?_))
    · have : ((ByteArray.size (List.getD L (Int.toNat (k : Int)) (Ty.dflt Ty.str)) : Nat) : Int) = (L[k].size : Int) := congrArg (fun x : ByteArray => (x.size : Int)) hg
      rw [this]; omega
    · rw [hat]; omega
    · rw [hat]; omega
    · rw [w1n i (by omega)]; rfl
  · refine fn_L7_15_t_im _ _ _ _ (by omega) (show (k : Int) < (L.length : Int) by omega) (by omega) _ ?_
    unfold fn_L7_15_t
    refine sel_f (df ?_) rfl
    have : ((ByteArray.size (List.getD L (Int.toNat (k : Int)) (Ty.dflt Ty.str)) : Nat) : Int) = (L[k].size : Int) := congrArg (fun x : ByteArray => (x.size : Int)) hg
    rw [this]; omega
theorem lp7 (L : Ts) (hl : L.length ≤ 9001) (hw : ∀ w ∈ L.map By, w ≠ [] ∧ ∀ b ∈ w, b.toNat ≠ 32 ∧ b.toNat ≠ 35) (hj : (Jw (L.map By)).length ≤ 4000) :
    ∃ t : ByteArray, By t = Jw (L.map By) ∧ op_L7_12 [.k 0, .s ⟨⟨[]⟩⟩, .n (0 : Int), .l TS L] = some (0, [.s t, .l TS L]) := by
  let T : Nat → ByteArray := fun k => ⟨⟨Jw ((L.map By).take k)⟩⟩
  have hT : ∀ k, By (T k) = Jw ((L.map By).take k) := fun k => rfl
  have hTs : ∀ k, (T k).size ≤ 4000 := fun k => by
    have := Jw_take (L.map By) k
    rw [← By_len, hT]; omega
  refine ⟨T L.length, by rw [hT, List.take_of_length_le (by simp)], ?_⟩
  rw [op_L7_12_eq]
  refine iter_count (fun i => [.k 0, .s (T i), .n (i : Int), .l TS L]) L.length (0, [.s (T L.length), .l TS L]) (fun i hi => ?_) ?_ FU (lt_FU (by omega))
  · have hmem : By L[i] ∈ L.map By := List.mem_map.2 ⟨L[i], List.getElem_mem _, rfl⟩
    obtain ⟨h1, h2⟩ := hw _ hmem
    have htk : (L.map By).take (i + 1) = (L.map By).take i ++ [By L[i]] := by
      rw [List.take_add_one, List.getElem?_map, List.getElem?_eq_getElem hi]; rfl
    have hs1 := hTs (i + 1)
    rw [← By_len, hT, htk, Jw_snoc] at hs1
    simp only [List.length_append, List.length_cons, By_len] at hs1
    have hti : (T i).size = (Jw ((L.map By).take i)).length := by rw [← By_len, hT]
    have hg : (List.getD L (Int.toNat (i : Int)) (Ty.dflt Ty.str) : ByteArray) = L[i] := getD_at hi
    refine fn_L7_12_t_im _ _ _ (by omega) _ ?_
    unfold fn_L7_12_t
    refine sel_t (dt (show (i : Int) < (L.length : Int) by omega)) ?_
    dsimp only
    erw [lp7i (T i) L i hi (by omega) h2]
    refine sel_t rfl (sel_t (show inR (i : Int) L.length = true from inR_true (by omega) (by omega)) (sel_f ?_ (sel_t (dt (show (T i).size + 1 ≤ 9223372036854775807 by omega)) (sel_t (dt ?_) ?_))))
    · show strEq (List.getD L (Int.toNat (i : Int)) (Ty.dflt Ty.str)) ⟨⟨[]⟩⟩ = false
      have : strEq (List.getD L (Int.toNat (i : Int)) (Ty.dflt Ty.str)) ⟨⟨[]⟩⟩ = strEq L[i] ⟨⟨[]⟩⟩ := congrArg (fun x : ByteArray => strEq x ⟨⟨[]⟩⟩) hg
      rw [this, strEq_By]
      exact df h1
    · show (T i ++ (⟨⟨[(32 : UInt8)]⟩⟩ : ByteArray)).size + ByteArray.size (List.getD L (Int.toNat (i : Int)) (Ty.dflt Ty.str)) ≤ 9223372036854775807
      have : ByteArray.size (List.getD L (Int.toNat (i : Int)) (Ty.dflt Ty.str)) = L[i].size := congrArg ByteArray.size hg
      rw [this, ← By_len (T i ++ _), By_append, List.length_append, By_len]
      show (T i).size + 1 + _ ≤ _
      omega
    · have e : (T i ++ (⟨⟨[(32 : UInt8)]⟩⟩ : ByteArray) ++ (List.getD L (Int.toNat (i : Int)) (Ty.dflt Ty.str) : ByteArray)) = T (i + 1) := by
        apply By_ext
        rw [hg, By_append, By_append, hT, hT, htk, Jw_snoc, List.append_assoc]; rfl
      show some (Step.go [.k 0, .s (T i ++ (⟨⟨[(32 : UInt8)]⟩⟩ : ByteArray) ++ (List.getD L (Int.toNat (i : Int)) (Ty.dflt Ty.str) : ByteArray)), .n (IntKind.wrap .i64 ((i : Int) + 1)), .l TS L]) = _
      rw [e, w1n i (by omega)]
  · refine fn_L7_12_t_im _ _ _ (by omega) _ ?_
    unfold fn_L7_12_t
    exact sel_f (df (show ¬ ((L.length : Nat) : Int) < (L.length : Int) by omega)) rfl
/-- What is behind the loop. -/
theorem t7 (s : ByteArray) (hs : s.size ≤ 2000) (hk : okW s = true) : ∃ t : ByteArray, t.size + 4 ≤ 9223372036854775807 ∧ op_L7_12 [.k 0, .s ⟨⟨[]⟩⟩, .n (0 : Int), .l TS (wdsOf (ah s))] = some (0, [.s t, .l TS (wdsOf (ah s))]) ∧
    op_18 [.s (t ++ ⟨⟨[(32 : UInt8), (35 : UInt8), (32 : UInt8), (120 : UInt8)]⟩⟩)] = some (0, [.n (0 : Int), .l TS (wdsOf (ah s))]) := by
  have hah := ah_size s
  have hfine : Fine (By (ah s)) := by
    unfold okW at hk
    rw [← By_ah] at hk
    exact (Fine.of (by have := FUlt (s := ah s) (by omega); omega)).1 hk
  have hmap := wds_wl (ah s)
  have hwl := wds_len (ah s) (by omega)
  generalize wdsOf (ah s) = L at hmap hwl ⊢
  have hno : ∀ b ∈ By (ah s), b.toNat ≠ 35 := by rw [By_ah]; exact hd35_no _
  have hw : ∀ w ∈ L.map By, w ≠ [] ∧ ∀ b ∈ w, b.toNat ≠ 32 ∧ b.toNat ≠ 35 := fun w hw => by
    rw [hmap] at hw
    obtain ⟨h1, h2⟩ := wl_mem (fun b hb => by cases hb) w hw
    exact ⟨h1, fun b hb => ⟨(h2 b hb).1, hno b ((h2 b hb).2.resolve_left (by simp))⟩⟩
  have hj : (Jw (L.map By)).length ≤ 4000 := by
    rw [hmap]
    have := Jw_len (By (ah s)) []
    rw [By_len] at this
    simp only [List.length_nil] at this
    omega
  obtain ⟨t, ht, e⟩ := lp7 L hwl hw hj
  have hts : t.size ≤ 4000 := by rw [← By_len, ht]; exact hj
  refine ⟨t, by omega, e, ?_⟩
  generalize hu : t ++ (⟨⟨[(32 : UInt8), (35 : UInt8), (32 : UInt8), (120 : UInt8)]⟩⟩ : ByteArray) = u
  have hBu : By u = Jw (L.map By) ++ [32, 35, 32, 120] := by rw [← hu, By_append, ht]; rfl
  have hus : u.size ≤ 9000 := by rw [← By_len, hBu, List.length_append]; simp; omega
  have hJ : ∀ b ∈ Jw (L.map By), b.toNat ≠ 35 := by
    have : ∀ (ws : List Bs), (∀ w ∈ ws, ∀ b ∈ w, b.toNat ≠ 35) → ∀ b ∈ Jw ws, b.toNat ≠ 35 := by
      intro ws
      induction ws with
      | nil => intro _ b hb; cases hb
      | cons w ws ih =>
        intro h b hb
        rcases List.mem_cons.1 hb with rfl | hb
        · decide
        · rcases List.mem_append.1 hb with hb | hb
          · exact h w List.mem_cons_self b hb
          · exact ih (fun w hw => h w (List.mem_cons_of_mem _ hw)) b hb
    exact this _ fun w hw' b hb => ((hw w hw').2 b hb).2
  have hhd : hd35 (By u) = Jw (L.map By) ++ [32] := by
    rw [hBu, show Jw (L.map By) ++ [32, 35, 32, 120] = (Jw (L.map By) ++ [32]) ++ [35, 32, 120] by simp, hd35_app]
    · simp [hd35, List.takeWhile_cons]
    · intro b hb
      rcases List.mem_append.1 hb with hb | hb
      · exact hJ b hb
      · simp at hb; subst hb; decide
  have hau : By (ah u) = Jw (L.map By) ++ [32] := by rw [By_ah, hhd]
  have hwu : wdsOf (ah u) = L := By_inj (by rw [wds_wl, hau]; exact wl_J _ fun w hw' => ⟨(hw w hw').1, fun b hb => ((hw w hw').2 b hb).1⟩)
  have hok : okW u = true := by
    unfold okW
    rw [hhd]
    refine (Fine.of ?_).2 (J_fine _ fun w hw' => ?_)
    · have := FUlt hus
      rw [← hhd]
      have := hd35_le (By u)
      omega
    · rw [hmap] at hw'
      exact wl_fine (cur := []) (by simpa using hfine) w hw'
  have := o18 u hus
  unfold wds at this
  rw [hok, hwu] at this
  exact this
theorem W7_true (s : ByteArray) : (ev_W7 [.s s]).sel = some true := by
  refine fn_W7_t_im _ _ ?_
  unfold fn_W7_t
  by_cases h : (s.size : Int) > 2000
  · exact sel_t (dt h) rfl
  · refine sel_f (df h) ?_
    have hs : s.size ≤ 2000 := by omega
    have e13 := o13 s (by omega)
    have e18 := o18 s (by omega)
    have hl := wds_len (ah s) (by have := ah_size s; omega)
    dsimp only
    rw [e13]
    refine sel_t rfl ?_
    cases hn : isNm s with
    | true =>
      have hnm : okW s = true ∧ wdsOf (ah s) = [s] := by
        unfold isNm at hn
        split at hn
        · rename_i k hk
          rw [Bool.and_eq_true, decide_eq_true_eq, decide_eq_true_eq] at hn
          have hf := FUlt (s := s) (by omega)
          obtain ⟨h1, h2, h3⟩ := rcn_ok (by omega) hk
          have hh : hd35 (By s) = By s := hd35_all fun b hb => (h1 b hb).2
          refine ⟨?_, By_inj ?_⟩
          · unfold okW; rw [hh]; exact (Fine.of (by omega)).2 h2
          · rw [wds_wl, By_ah, hh, wl_one _ _ fun b hb => (h1 b hb).1, List.nil_append, if_neg (h3 hn.2)]; rfl
        · cases hn
      obtain ⟨hk, hw⟩ := hnm
      obtain ⟨t, ht, e1, e2⟩ := t7 s hs hk
      unfold wds at e18
      rw [hk] at e18
      rw [hw] at e18 e1 e2 hl
      refine sel_t rfl ?_
      erw [e18]
      refine sel_t rfl (sel_f rfl (sel_f rfl (sel_t rfl (sel_f ?_ ?_))))
      · show (!strEq s s) = false
        unfold strEq; simp
      · erw [e1]
        refine sel_t rfl (sel_t (dt ht) ?_)
        erw [e2]
        refine sel_t rfl (sel_t rfl ?_)
        erw [o16 [s] (by simp)]
        exact sel_t rfl (sel_t rfl rfl)
    | false =>
      refine sel_f rfl ?_
      unfold wds at e18
      cases hk : okW s with
      | true =>
        obtain ⟨t, ht, e1, e2⟩ := t7 s hs hk
        rw [hk] at e18
        generalize wdsOf (ah s) = L at e18 e1 e2 hl
        erw [e18]
        refine sel_t rfl (sel_f rfl ?_)
        erw [e1]
        refine sel_t rfl (sel_t (dt ht) ?_)
        erw [e2]
        refine sel_t rfl (sel_t rfl ?_)
        erw [o16 L (by omega)]
        exact sel_t rfl (sel_t rfl rfl)
      | false =>
        rw [hk] at e18
        erw [e18]
        exact sel_f rfl (sel_t rfl (sel_t rfl rfl))
end Go.Proofs.Ytpkmihelefkphaa.Vx
