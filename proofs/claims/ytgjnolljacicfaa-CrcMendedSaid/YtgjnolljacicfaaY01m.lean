import Derived.Test.YtgjnolljacicfaaY01a
namespace Go.Proofs.Ytgjnolljacicfaa.Vx
open Go Go.RowKit
set_option linter.unusedVariables false
def last32 : BitVec 32 := 0xEDB88320#32
def dn (n : BitVec 32) : BitVec 32 := (n >>> 1) ^^^ (if n.getLsbD 0 then last32 else 0#32)
def up (n : BitVec 32) : BitVec 32 := if n.getLsbD 31 then ((n ^^^ last32) <<< 1) ||| 1#32 else n <<< 1
theorem dn_xor (a b : BitVec 32) : dn (a ^^^ b) = dn a ^^^ dn b := by
  unfold dn
  rw [BitVec.getLsbD_xor, BitVec.ushiftRight_xor_distrib]
  cases a.getLsbD 0 <;> cases b.getLsbD 0 <;> simp
  · ac_rfl
  · ac_rfl
  · have : ∀ x y z : BitVec 32, x ^^^ y = (x ^^^ z) ^^^ (y ^^^ z) := by
      intro x y z
      have e : (x ^^^ z) ^^^ (y ^^^ z) = (x ^^^ y) ^^^ (z ^^^ z) := by ac_rfl
      rw [e, BitVec.xor_self, BitVec.xor_zero]
    exact this _ _ _
theorem up_dn (n : BitVec 32) : up (dn n) = n := by
  unfold up dn
  cases h : n.getLsbD 0 with
  | false =>
    simp only [Bool.false_eq_true, if_false, BitVec.xor_zero]
    have : (n >>> 1).getLsbD 31 = false := by simp
    rw [this]
    simp only [Bool.false_eq_true, if_false]
    ext i hi
    simp only [BitVec.getElem_shiftLeft]
    by_cases h0 : i = 0
    · subst h0; simp; rw [← BitVec.getLsbD_eq_getElem]; exact h
    · have : ¬ i < 1 := by omega
      simp [this]; rw [show 1 + (i - 1) = i by omega, BitVec.getLsbD_eq_getElem]
  | true =>
    simp only [if_true]
    have : (n >>> 1 ^^^ last32).getLsbD 31 = true := by
      rw [BitVec.getLsbD_xor]; simp [last32]
    rw [this]
    simp only [if_true]
    have e : n >>> 1 ^^^ last32 ^^^ last32 = n >>> 1 := by rw [BitVec.xor_assoc, BitVec.xor_self, BitVec.xor_zero]
    rw [e]
    ext i hi
    simp only [BitVec.getElem_or, BitVec.getElem_shiftLeft]
    by_cases h0 : i = 0
    · subst h0; simp; rw [← BitVec.getLsbD_eq_getElem]; exact h
    · have : ¬ i < 1 := by omega
      simp [this, h0]; rw [show 1 + (i - 1) = i by omega, BitVec.getLsbD_eq_getElem]
/-- The first k bits. -/
def low (n : BitVec 32) (k : Nat) : BitVec 32 := n &&& BitVec.ofNat 32 (2 ^ k - 1)
theorem low_succ (n : BitVec 32) (k : Nat) (hk : k < 32) : low n (k + 1) = low n k ^^^ (if n.getLsbD k then 1#32 <<< k else 0#32) := by
  unfold low
  ext i hi
  simp only [BitVec.getElem_and, BitVec.getElem_xor]
  have e : ∀ j, (BitVec.ofNat 32 (2 ^ j - 1))[i] = decide (i < j) := by
    intro j
    rw [← BitVec.getLsbD_eq_getElem, BitVec.getLsbD_ofNat, Nat.testBit_two_pow_sub_one]; simp [hi]
  rw [e, e]
  by_cases h : n.getLsbD k
  · rw [if_pos h]
    rw [BitVec.getElem_shiftLeft]
    by_cases h1 : i < k
    · simp [h1, show i < k + 1 by omega]
    · by_cases h2 : i = k
      · subst h2; rw [BitVec.getLsbD_eq_getElem hi] at h; simp [h]
      · simp [h1, show ¬ i < k + 1 by omega, show ¬ i - k = 0 by omega]
  · rw [if_neg h]
    by_cases h1 : i < k
    · simp [h1, show i < k + 1 by omega]
    · by_cases h2 : i = k
      · subst h2; rw [BitVec.getLsbD_eq_getElem hi] at h; simp [h]
      · simp [h1, show ¬ i < k + 1 by omega]
theorem low_32 (n : BitVec 32) : low n 32 = n := by
  unfold low
  ext i hi
  rw [BitVec.getElem_and, ← BitVec.getLsbD_eq_getElem (x := BitVec.ofNat 32 (2 ^ 32 - 1)), BitVec.getLsbD_ofNat, Nat.testBit_two_pow_sub_one]
  simp [hi]
theorem low_0 (n : BitVec 32) : low n 0 = 0#32 := by unfold low; simp
/-- Two linear maps that agree on the bits agree. -/
theorem lin_ext {w : Nat} {f g : BitVec 32 → BitVec w} (hf : ∀ a b, f (a ^^^ b) = f a ^^^ f b) (hg : ∀ a b, g (a ^^^ b) = g a ^^^ g b) (h : ∀ i, i < 32 → f (1#32 <<< i) = g (1#32 <<< i)) (n : BitVec 32) : f n = g n := by
  have z : ∀ {f : BitVec 32 → BitVec w}, (∀ a b, f (a ^^^ b) = f a ^^^ f b) → f 0#32 = 0#w := by
    intro f hf
    have := hf 0#32 0#32
    rw [BitVec.xor_self] at this
    rw [this, BitVec.xor_self]
  have key : ∀ k, k ≤ 32 → f (low n k) = g (low n k) := by
    intro k
    induction k with
    | zero => intro _; rw [low_0, z hf, z hg]
    | succ k ih =>
      intro hk
      rw [low_succ n k (by omega), hf, hg, ih (by omega)]
      cases n.getLsbD k with
      | true => rw [if_pos rfl, h k (by omega)]
      | false => rw [if_neg (by simp), z hf, z hg]
  have := key 32 (by omega)
  rwa [low_32] at this
def dnN : Nat → BitVec 32 → BitVec 32
  | 0, n => n
  | k + 1, n => dnN k (dn n)
def upN : Nat → BitVec 32 → BitVec 32
  | 0, n => n
  | k + 1, n => upN k (up n)
theorem dnN_xor (k : Nat) (a b : BitVec 32) : dnN k (a ^^^ b) = dnN k a ^^^ dnN k b := by
  induction k generalizing a b with
  | zero => rfl
  | succ k ih => simp only [dnN, dn_xor, ih]
theorem dnN_add (j k : Nat) (n : BitVec 32) : dnN (j + k) n = dnN k (dnN j n) := by
  induction j generalizing n with
  | zero => simp [dnN]
  | succ j ih => rw [Nat.succ_add]; simp only [dnN]; exact ih _
theorem upN_add (j k : Nat) (n : BitVec 32) : upN (j + k) n = upN k (upN j n) := by
  induction j generalizing n with
  | zero => simp [upN]
  | succ j ih => rw [Nat.succ_add]; simp only [upN]; exact ih _
theorem upN_dnN (k : Nat) (n : BitVec 32) : upN k (dnN k n) = n := by
  induction k generalizing n with
  | zero => rfl
  | succ k ih =>
    rw [dnN_add k 1 n, Nat.add_comm, upN_add 1 k]
    show upN k (up (dn (dnN k n))) = n
    rw [up_dn, ih]
theorem dnN_inj {k : Nat} {a b : BitVec 32} (h : dnN k a = dnN k b) : a = b := by
  have := congrArg (upN k) h
  rwa [upN_dnN, upN_dnN] at this
theorem dnN_zero (k : Nat) : dnN k 0#32 = 0#32 := by
  have := dnN_xor k 0#32 0#32
  rw [BitVec.xor_self] at this
  rw [this, BitVec.xor_self]
theorem dn_up (n : BitVec 32) : dn (up n) = n := by
  unfold up dn
  cases h : n.getLsbD 31 with
  | false =>
    simp only [Bool.false_eq_true, if_false]
    have : (n <<< 1).getLsbD 0 = false := by simp
    rw [this]
    simp only [Bool.false_eq_true, if_false, BitVec.xor_zero]
    ext i hi
    simp only [BitVec.getElem_ushiftRight, BitVec.getLsbD_shiftLeft]
    by_cases h0 : i = 31
    · subst h0; simp; rw [← BitVec.getLsbD_eq_getElem]; exact h
    · simp [show 1 + i < 32 by omega]; 
      rw [← BitVec.getLsbD_eq_getElem]
  | true =>
    simp only [if_true]
    have : (((n ^^^ last32) <<< 1) ||| 1#32).getLsbD 0 = true := by simp
    rw [this]
    simp only [if_true]
    have e : (((n ^^^ last32) <<< 1) ||| 1#32) >>> 1 = n ^^^ last32 := by
      ext i hi
      simp only [BitVec.getElem_ushiftRight, BitVec.getLsbD_shiftLeft, BitVec.getLsbD_or]
      by_cases h0 : i = 31
      · subst h0; simp [last32]; rw [← BitVec.getLsbD_eq_getElem, h]
      · simp [show 1 + i < 32 by omega]
        rw [← BitVec.getLsbD_eq_getElem, ← BitVec.getLsbD_eq_getElem]
    rw [e, BitVec.xor_assoc, BitVec.xor_self, BitVec.xor_zero]
theorem dnN_upN (k : Nat) (n : BitVec 32) : dnN k (upN k n) = n := by
  induction k generalizing n with
  | zero => rfl
  | succ k ih =>
    rw [upN_add k 1 n, Nat.add_comm, dnN_add 1 k]
    show dnN k (dn (up (upN k n))) = n
    rw [dn_up, ih]
/-! ### Bytes -/
def go (n : BitVec 32) (l : List Int) : BitVec 32 := l.foldl (fun n x => dnN 8 (n ^^^ BitVec.ofInt 32 x)) n
theorem go_nil (n : BitVec 32) : go n [] = n := rfl
theorem go_cons (n : BitVec 32) (x : Int) (l : List Int) : go n (x :: l) = go (dnN 8 (n ^^^ BitVec.ofInt 32 x)) l := rfl
theorem go_append (n : BitVec 32) (l m : List Int) : go n (l ++ m) = go (go n l) m := by unfold go; rw [List.foldl_append]
theorem go_lin (a b : BitVec 32) (l : List Int) : go (a ^^^ b) l = go a l ^^^ dnN (8 * l.length) b := by
  induction l generalizing a b with
  | nil => rfl
  | cons x l ih =>
    rw [go_cons, go_cons]
    have e : a ^^^ b ^^^ BitVec.ofInt 32 x = (a ^^^ BitVec.ofInt 32 x) ^^^ b := by ac_rfl
    rw [e, dnN_xor, ih, List.length_cons, show 8 * (l.length + 1) = 8 + 8 * l.length by omega, dnN_add]
/-- A byte that is another one. -/
theorem go_turn (n : BitVec 32) (l m : List Int) (x y : Int) : go n (l ++ y :: m) = go n (l ++ x :: m) ^^^ dnN (8 * (m.length + 1)) (BitVec.ofInt 32 x ^^^ BitVec.ofInt 32 y) := by
  rw [go_append, go_append, go_cons, go_cons]
  have e : go n l ^^^ BitVec.ofInt 32 y = (go n l ^^^ BitVec.ofInt 32 x) ^^^ (BitVec.ofInt 32 x ^^^ BitVec.ofInt 32 y) := by
    have : (go n l ^^^ BitVec.ofInt 32 x) ^^^ (BitVec.ofInt 32 x ^^^ BitVec.ofInt 32 y) = (go n l ^^^ BitVec.ofInt 32 y) ^^^ (BitVec.ofInt 32 x ^^^ BitVec.ofInt 32 x) := by ac_rfl
    rw [this, BitVec.xor_self, BitVec.xor_zero]
  rw [e, dnN_xor, go_lin, show 8 * (m.length + 1) = 8 + 8 * m.length by omega, dnN_add]
theorem split_at {α : Type} {l : List α} {i : Nat} (h : i < l.length) (d : α) : l = l.take i ++ l.getD i d :: l.drop (i + 1) := by
  have e : l.getD i d = l[i] := by rw [List.getD_eq_getElem?_getD, List.getElem?_eq_getElem h]; rfl
  rw [e, ← List.drop_eq_getElem_cons h, List.take_append_drop]
theorem set_at {α : Type} {l : List α} {i : Nat} (h : i < l.length) (y : α) : l.set i y = l.take i ++ y :: l.drop (i + 1) := by
  rw [List.set_eq_take_append_cons_drop, if_pos h]
theorem go_set (n : BitVec 32) {l : List Int} {i : Nat} (h : i < l.length) (y d : Int) : go n (l.set i y) = go n l ^^^ dnN (8 * (l.length - i)) (BitVec.ofInt 32 (l.getD i d) ^^^ BitVec.ofInt 32 y) := by
  rw [set_at h, go_turn n _ _ (l.getD i d) y, ← split_at h d]
  rw [List.length_drop, show l.length - (i + 1) + 1 = l.length - i by omega]
/-! ### The table of eight -/
def E8 : List Int := [1996959894, 3993919788, 124634137, 249268274, 498536548, 997073096, 1994146192, 3988292384]
def tab (u : BitVec 8) : Nat → BitVec 32
  | 0 => 0#32
  | k + 1 => tab u k ^^^ (if u.getLsbD k then BitVec.ofInt 32 (E8.getD k 0) else 0#32)
theorem tab_xor (a b : BitVec 8) (k : Nat) : tab (a ^^^ b) k = tab a k ^^^ tab b k := by
  induction k with
  | zero => simp [tab]
  | succ k ih =>
    simp only [tab, ih, BitVec.getLsbD_xor]
    cases a.getLsbD k <;> cases b.getLsbD k <;> simp
    · ac_rfl
    · ac_rfl
    · have : ∀ x y z : BitVec 32, x ^^^ y = (x ^^^ z) ^^^ (y ^^^ z) := by
        intro x y z
        have e : (x ^^^ z) ^^^ (y ^^^ z) = (x ^^^ y) ^^^ (z ^^^ z) := by ac_rfl
        rw [e, BitVec.xor_self, BitVec.xor_zero]
      exact this _ _ _
theorem dn8 (m : BitVec 32) : dnN 8 m = (m >>> 8) ^^^ tab (m.setWidth 8) 8 := by
  refine lin_ext (f := dnN 8) (g := fun m => (m >>> 8) ^^^ tab (m.setWidth 8) 8) (dnN_xor 8) (fun a b => ?_) (by decide +kernel) m
  simp only [BitVec.ushiftRight_xor_distrib, BitVec.setWidth_xor, tab_xor]
  ac_rfl
theorem ofInt_8 {x : Int} (h0 : 0 ≤ x) (h1 : x < 256) : BitVec.ofInt 32 x = (BitVec.ofInt 8 x).setWidth 32 := by
  apply BitVec.eq_of_toNat_eq
  rw [BitVec.toNat_setWidth, BitVec.toNat_ofInt, BitVec.toNat_ofInt]
  omega
theorem ofInt_low (n : BitVec 32) : BitVec.ofInt 8 (N n) = n.setWidth 8 := by
  apply BitVec.eq_of_toNat_eq
  rw [BitVec.toNat_setWidth, BitVec.toNat_ofInt]
  unfold N
  omega
/-- What the document says of a byte. -/
theorem byte_in (n : BitVec 32) {x : Int} (h0 : 0 ≤ x) (h1 : x < 256) : dnN 8 (n ^^^ BitVec.ofInt 32 x) = (n >>> 8) ^^^ tab (n.setWidth 8 ^^^ BitVec.ofInt 8 x) 8 := by
  rw [dn8, ofInt_8 h0 h1, BitVec.ushiftRight_xor_distrib, BitVec.setWidth_xor]
  have e1 : (BitVec.ofInt 8 x).setWidth 32 >>> 8 = 0#32 := by
    apply BitVec.eq_of_toNat_eq
    have := (BitVec.ofInt 8 x).isLt
    rw [BitVec.toNat_ushiftRight, BitVec.toNat_setWidth, Nat.shiftRight_eq_div_pow]
    simp
    omega
  have e2 : ((BitVec.ofInt 8 x).setWidth 32).setWidth 8 = BitVec.ofInt 8 x := by
    apply BitVec.eq_of_toNat_eq
    have := (BitVec.ofInt 8 x).isLt
    rw [BitVec.toNat_setWidth, BitVec.toNat_setWidth]
    omega
  rw [e1, e2, BitVec.xor_zero]
end Go.Proofs.Ytgjnolljacicfaa.Vx
