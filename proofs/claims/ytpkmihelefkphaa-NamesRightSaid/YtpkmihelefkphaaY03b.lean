import Derived.Test.YtpkmihelefkphaaY03a
namespace Go.Proofs.Ytpkmihelefkphaa.Vx
open Go Go.RowKit
set_option linter.unusedVariables false
set_option linter.unusedSimpArgs false
/-! ### Texts cut at a byte -/
abbrev Ts := List ByteArray
def spL (x : Nat) (add : Ts → Nat → Nat → Ts) : Bs → Nat → Nat → Ts → Nat × Ts
  | [], i, fr, acc => (fr, acc)
  | b :: r, i, fr, acc => if b.toNat = x then spL x add r (i + 1) (i + 1) (add acc fr i) else spL x add r (i + 1) fr acc
theorem spL_skip {x : Nat} {add : Ts → Nat → Nat → Ts} : ∀ {hi r : Bs} {i fr : Nat} {acc : Ts}, (∀ b ∈ hi, b.toNat ≠ x) → spL x add (hi ++ r) i fr acc = spL x add r (i + hi.length) fr acc
  | [], r, i, fr, acc, h => rfl
  | b :: hi, r, i, fr, acc, h => by
    rw [List.cons_append, spL, if_neg (h b List.mem_cons_self), spL_skip fun y hy => h y (List.mem_cons_of_mem _ hy), List.length_cons]
    congr 1; omega
theorem spL_ok {x : Nat} {add : Ts → Nat → Nat → Ts} (ha : ∀ acc fr i, (add acc fr i).length ≤ acc.length + 1) : ∀ {l : Bs} {i fr : Nat} {acc : Ts}, fr ≤ i → fr ≤ (spL x add l i fr acc).1 ∧ (spL x add l i fr acc).1 ≤ i + l.length ∧ (spL x add l i fr acc).2.length ≤ acc.length + l.length
  | [], i, fr, acc, h => by simp only [spL, List.length_nil]; omega
  | b :: r, i, fr, acc, h => by
    rw [spL]
    split
    · have := spL_ok (x := x) ha (l := r) (i := i + 1) (fr := i + 1) (acc := add acc fr i) (Nat.le_refl _)
      have := ha acc fr i
      simp only [List.length_cons]; omega
    · have := spL_ok (x := x) ha (l := r) (i := i + 1) (fr := fr) (acc := acc) (by omega)
      simp only [List.length_cons]; omega
/-- One step by characters is some by bytes. -/
theorem spL_char {x : Nat} (hx : x < 128) {add : Ts → Nat → Nat → Ts} {l : Bs} (hl : l ≠ []) {i fr : Nat} {acc : Ts} :
    spL x add l i fr acc = if (Lib.decodeL l).1 = x then spL x add (l.drop (Lib.decodeL l).2) (i + (Lib.decodeL l).2) (i + 1) (add acc fr i) else spL x add (l.drop (Lib.decodeL l).2) (i + (Lib.decodeL l).2) fr acc := by
  obtain ⟨h1, h2, h3, h4⟩ := dl_x hx l hl
  split
  · rename_i e
    obtain ⟨e1, e2⟩ := h3 e
    rw [e1]
    cases l with
    | nil => exact absurd rfl hl
    | cons b r => rw [spL, if_pos (by simpa using e2)]; rfl
  · rename_i e
    have := spL_skip (x := x) (add := add) (hi := l.take (Lib.decodeL l).2) (r := l.drop (Lib.decodeL l).2) (i := i) (fr := fr) (acc := acc) (h4 e)
    rw [List.take_append_drop] at this
    rw [this, List.length_take, Nat.min_eq_left h2]
def addLn (s : ByteArray) (acc : Ts) (fr i : Nat) : Ts := acc ++ [s.extract fr i]
def addWd (s : ByteArray) (acc : Ts) (fr i : Nat) : Ts := if fr < i then acc ++ [s.extract fr i] else acc
theorem addLn_len (s : ByteArray) (acc : Ts) (fr i : Nat) : (addLn s acc fr i).length ≤ acc.length + 1 := by simp [addLn]
theorem addWd_len (s : ByteArray) (acc : Ts) (fr i : Nat) : (addWd s acc fr i).length ≤ acc.length + 1 := by unfold addWd; split <;> simp
/-- A text's lines, a text's words. -/
def lnsOf (s : ByteArray) : Ts := addLn s (spL 10 (addLn s) (By s) 0 0 []).2 (spL 10 (addLn s) (By s) 0 0 []).1 s.size
def wdsOf (s : ByteArray) : Ts := addWd s (spL 32 (addWd s) (By s) 0 0 []).2 (spL 32 (addWd s) (By s) 0 0 []).1 s.size

/-! ### Joined again -/
def jn : Ts → Bs
  | [] => []
  | [a] => By a
  | a :: b :: r => By a ++ (10 :: jn (b :: r))
theorem jn_snoc : ∀ (l : Ts) (a : ByteArray), l ≠ [] → jn (l ++ [a]) = jn l ++ (10 :: By a)
  | [], a, h => absurd rfl h
  | [x], a, h => rfl
  | x :: y :: r, a, h => by
    have := jn_snoc (y :: r) a (by simp)
    simp only [List.cons_append, jn] at this ⊢
    rw [this]; simp
theorem jn_one (a : ByteArray) : jn [a] = By a := rfl
theorem extract_snoc (s : ByteArray) {fr i : Nat} {b : UInt8} (h : fr ≤ i) (hb : (By s)[i]? = some b) : By (s.extract fr (i + 1)) = By (s.extract fr i) ++ [b] := by
  rw [By_extract, By_extract, List.take_add_one, hb]
  have : i ≤ (By s).length := by have := (List.getElem?_eq_some_iff.1 hb).1; omega
  rw [List.drop_append_of_le_length (by rw [List.length_take]; omega)]
  rfl
theorem jn_add (s : ByteArray) {fr i : Nat} {b : UInt8} (h : fr ≤ i) (hb : (By s)[i]? = some b) : ∀ acc : Ts, jn (acc ++ [s.extract fr (i + 1)]) = jn (acc ++ [s.extract fr i]) ++ [b] := by
  intro acc
  cases acc with
  | nil => simp only [List.nil_append, jn_one]; exact extract_snoc s h hb
  | cons x r => rw [jn_snoc _ _ (by simp), jn_snoc _ _ (by simp), extract_snoc s h hb]; simp
theorem spL_jn (s : ByteArray) : ∀ {l : Bs} {i fr : Nat} {acc : Ts}, fr ≤ i → (By s).drop i = l → jn (acc ++ [s.extract fr i]) = (By s).take i →
    jn (addLn s (spL 10 (addLn s) l i fr acc).2 (spL 10 (addLn s) l i fr acc).1 s.size) = By s
  | [], i, fr, acc, h, hd, hj => by
    have hi : (By s).length ≤ i := by
      rcases Nat.lt_or_ge i (By s).length with q | q
      · have := congrArg List.length hd; simp at this; omega
      · exact q
    simp only [spL, addLn]
    have e : s.extract fr s.size = s.extract fr i := By_ext (by rw [By_extract, By_extract, ← By_len, List.take_of_length_le (Nat.le_refl _), List.take_of_length_le hi])
    rw [e, hj, List.take_of_length_le hi]
  | b :: r, i, fr, acc, h, hd, hj => by
    have hb : (By s)[i]? = some b := by
      have := congrArg (fun l => l[0]?) hd
      simpa [List.getElem?_drop] using this
    have hd' : (By s).drop (i + 1) = r := by rw [← List.drop_drop, hd]; rfl
    have ht : (By s).take (i + 1) = (By s).take i ++ [b] := by rw [List.take_add_one, hb]; rfl
    rw [spL]
    split
    · rename_i e
      refine spL_jn s (Nat.le_refl _) hd' ?_
      have e0 : By (s.extract (i + 1) (i + 1)) = [] := by rw [By_extract]; exact List.drop_eq_nil_of_le (by rw [List.length_take]; omega)
      rw [jn_snoc _ _ (by simp [addLn]), e0, addLn, hj, ht]
      have : b = 10 := by
        apply UInt8.toNat_inj.1; simpa using e
      rw [this]
    · refine spL_jn s (by omega) hd' ?_
      rw [jn_add s h hb, hj, ht]
theorem lns_jn (s : ByteArray) : jn (lnsOf s) = By s := by
  refine spL_jn s (Nat.le_refl _) rfl ?_
  simp only [List.nil_append, jn_one, By_extract, List.take_zero, List.drop_nil]

/-! ### Characters, one by one -/
def badC (c : Nat) (l : Bs) : Bool := decide (c < 32) || (decide (c = 65533) && !decide (l.take 3 = [239, 191, 189]))
def scan : Nat → Bs → Nat → Option Nat
  | 0, l, i => some i
  | f + 1, l, i => if l = [] then some i else if (Lib.decodeL l).1 = 35 then some i else if badC (Lib.decodeL l).1 l = true then none else scan f (l.drop (Lib.decodeL l).2) (i + (Lib.decodeL l).2)
def chkB : Nat → Bs → Bool
  | 0, _ => true
  | f + 1, l => if l = [] then true else if badC (Lib.decodeL l).1 l = true then false else chkB f (l.drop (Lib.decodeL l).2)
def hd35 (l : Bs) : Bs := l.takeWhile fun b => decide (b.toNat ≠ 35)
theorem hd35_app : ∀ {a r : Bs}, (∀ b ∈ a, b.toNat ≠ 35) → hd35 (a ++ r) = a ++ hd35 r
  | [], r, h => rfl
  | b :: a, r, h => by
    have := hd35_app (r := r) fun y hy => h y (List.mem_cons_of_mem _ hy)
    have hb := h b List.mem_cons_self
    unfold hd35 at this ⊢
    rw [List.cons_append, List.takeWhile_cons, if_pos (by simpa using hb), this]; rfl
theorem hd35_split (l : Bs) : ∃ c, l = hd35 l ++ c ∧ (c = [] ∨ (c.getD 0 0).toNat = 35) := by
  induction l with
  | nil => exact ⟨[], rfl, .inl rfl⟩
  | cons b l ih =>
    by_cases h : b.toNat = 35
    · exact ⟨b :: l, by simp [hd35, List.takeWhile_cons, h], .inr (by simpa using h)⟩
    · obtain ⟨c, h1, h2⟩ := ih
      refine ⟨c, ?_, h2⟩
      have e : hd35 (b :: l) = b :: hd35 l := by simp [hd35, List.takeWhile_cons, h]
      rw [e, List.cons_append, ← h1]
theorem scan_eq : ∀ {f : Nat} {l : Bs} {i : Nat}, l.length ≤ f → scan f l i = if chkB f (hd35 l) = true then some (i + (hd35 l).length) else none
  | 0, l, i, h => by
    have : l = [] := List.length_eq_zero_iff.1 (by omega)
    subst this; simp [scan, chkB, hd35]
  | f + 1, l, i, h => by
    by_cases hl : l = []
    · subst hl; simp [scan, chkB, hd35]
    · obtain ⟨k1, k2, k3, k4⟩ := dl_x (show 35 < 128 by omega) l hl
      rw [scan, if_neg hl]
      by_cases hc : (Lib.decodeL l).1 = 35
      · rw [if_pos hc]
        obtain ⟨_, e⟩ := k3 hc
        have : hd35 l = [] := by
          cases l with
          | nil => rfl
          | cons b r => simp only [List.getD_cons_zero] at e; simp [hd35, List.takeWhile_cons, e]
        rw [this, chkB, if_pos rfl, if_pos rfl]; simp
      · rw [if_neg hc]
        have hall := k4 hc
        obtain ⟨c, s1, s2⟩ := hd35_split l
        have hsp : hd35 l = l.take (Lib.decodeL l).2 ++ hd35 (l.drop (Lib.decodeL l).2) := by
          have := hd35_app (r := l.drop (Lib.decodeL l).2) hall
          rwa [List.take_append_drop] at this
        have hne : hd35 l ≠ [] := by
          rw [hsp]
          intro e
          have := congrArg List.length e
          rw [List.length_append, List.length_take, Nat.min_eq_left k2] at this
          simp at this; omega
        have hdec : Lib.decodeL (hd35 l) = Lib.decodeL l := by
          have := dl_pre (hd35 l) c hne (s2.imp id fun e => by omega)
          rw [← s1] at this; exact this.symm
        have hbad : badC (Lib.decodeL l).1 (hd35 l) = badC (Lib.decodeL l).1 l := by
          unfold badC
          have : ((hd35 l).take 3 = [239, 191, 189]) = (l.take 3 = [239, 191, 189]) := by
            apply propext
            constructor
            · intro e
              have hle : 3 ≤ (hd35 l).length := by have := congrArg List.length e; rw [List.length_take] at this; simp at this; omega
              rw [s1, List.take_append_of_le_length hle]; exact e
            · intro e
              have : l = [239, 191, 189] ++ l.drop 3 := by rw [← e, List.take_append_drop]
              rw [this, hd35_app (by decide)]; rfl
          simp only [this]
        have hlen : (l.drop (Lib.decodeL l).2).length ≤ f := by rw [List.length_drop]; omega
        rw [scan_eq hlen, chkB, if_neg hne, hdec, hbad]
        have hdr : (hd35 l).drop (Lib.decodeL l).2 = hd35 (l.drop (Lib.decodeL l).2) := by
          rw [hsp]
          exact List.drop_left' (by rw [List.length_take, Nat.min_eq_left k2])
        rw [hdr]
        have hln : (hd35 l).length = (Lib.decodeL l).2 + (hd35 (l.drop (Lib.decodeL l).2)).length := by rw [hsp, List.length_append, List.length_take, Nat.min_eq_left k2]
        rw [hln]
        cases badC (Lib.decodeL l).1 l with
        | true => simp
        | false => simp only [Bool.false_eq_true, if_false]; split <;> simp [Nat.add_assoc]
/-- Signs. -/
def sgn (c : Int) : Bool := decide (c > 32) && (decide (c < 127) || decide (c > 160)) && !(decide (c = 58) || decide (c = 35) || decide (c = 43) || decide (c = 45) || decide (c = 65533))
def rcn : Nat → Bs → Option Nat
  | 0, _ => some 0
  | f + 1, l => if l = [] then some 0 else if sgn ((Lib.decodeL l).1 : Int) = true then (rcn f (l.drop (Lib.decodeL l).2)).map (· + 1) else none
end Go.Proofs.Ytpkmihelefkphaa.Vx
