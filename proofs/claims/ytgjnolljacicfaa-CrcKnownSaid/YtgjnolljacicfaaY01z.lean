import Derived.Test.YtgjnolljacicfaaVxBits
import Derived.Test.YtgjnolljacicfaaX01
namespace Go.Proofs.Ytgjnolljacicfaa.Vx
open Go Go.RowKit
set_option linter.unusedVariables false
set_option linter.unusedSimpArgs false
theorem take_getD {α : Type} {l : List α} {n : Nat} {d : α} (h : n < l.length) : l.take (n + 1) = l.take n ++ [l.getD n d] := by
  rw [List.take_succ_eq_append_getElem h, List.getD_eq_getElem?_getD, List.getElem?_eq_getElem h]; rfl
def firstHit (hit : Nat → Bool) : Nat → Option Nat
  | 0 => none
  | m + 1 => match firstHit hit m with
    | some i => some i
    | none => match hit m with
      | true => some m
      | false => none
theorem firstHit_none {hit : Nat → Bool} : ∀ {m : Nat}, firstHit hit m = none → ∀ i, i < m → hit i = false
  | 0, _, i, hi => by omega
  | m + 1, h, i, hi => by
    unfold firstHit at h
    split at h
    · cases h
    · rename_i h0
      split at h
      · cases h
      · rename_i h1
        rcases Nat.lt_or_ge i m with q | q
        · exact firstHit_none h0 i q
        · have : i = m := by omega
          subst this; exact h1
theorem firstHit_some {hit : Nat → Bool} : ∀ {m k : Nat}, firstHit hit m = some k → k < m ∧ hit k = true ∧ ∀ i, i < k → hit i = false
  | 0, k, h => by cases h
  | m + 1, k, h => by
    unfold firstHit at h
    split at h
    · rename_i i h0
      cases h
      obtain ⟨h1, h2, h3⟩ := firstHit_some h0
      exact ⟨by omega, h2, h3⟩
    · rename_i h0
      split at h
      · rename_i h1
        cases h
        exact ⟨by omega, h1, firstHit_none h0⟩
      · cases h
theorem firstHit_congr {hit hit' : Nat → Bool} : ∀ {m : Nat}, (∀ i, i < m → hit i = hit' i) → firstHit hit m = firstHit hit' m
  | 0, _ => rfl
  | m + 1, h => by
    unfold firstHit
    rw [firstHit_congr fun i hi => h i (by omega), h m (by omega)]
/-- A loop that looks for something. -/
theorem iter_find {st : List Dat → Tree Step} (s : Nat → List Dat) (m : Nat) (hit : Nat → Bool) (y : Nat → Nat × List Dat) (y0 : Nat × List Dat)
    (go : ∀ i, i < m → hit i = false → (st (s i)).sel = some (.go (s (i + 1)))) (found : ∀ i, i < m → hit i = true → (st (s i)).sel = some (.stop (y i).1 (y i).2)) (stop : (st (s m)).sel = some (.stop y0.1 y0.2)) :
    ∀ fuel, m < fuel → iterS st fuel (s 0) = some (match firstHit hit m with | some k => y k | none => y0) := by
  have key : ∀ d i fuel, d + i ≤ m → d < fuel → (∀ j, i ≤ j → j < i + d → hit j = false) → iterS st fuel (s i) = iterS st (fuel - d) (s (i + d)) := by
    intro d
    induction d with
    | zero => intro i fuel _ _ _; rfl
    | succ d ih =>
      intro i fuel hi hf hh
      obtain ⟨f, rfl⟩ : ∃ f, fuel = f + 1 := ⟨fuel - 1, by omega⟩
      rw [iter_go (go i (by omega) (hh i (Nat.le_refl _) (by omega))), ih (i + 1) f (by omega) (by omega) (fun j h1 h2 => hh j (by omega) (by omega))]
      rw [show f + 1 - (d + 1) = f - d by omega, show i + 1 + d = i + (d + 1) by omega]
  intro fuel hf
  cases hq : firstHit hit m with
  | some k =>
    obtain ⟨h1, h2, h3⟩ := firstHit_some hq
    have := key k 0 fuel (by omega) (by omega) (fun j _ hj => h3 j (by omega))
    rw [this, Nat.zero_add]
    obtain ⟨f, hf'⟩ : ∃ f, fuel - k = f + 1 := ⟨fuel - k - 1, by omega⟩
    rw [hf']
    exact iter_stop (found k h1 h2)
  | none =>
    have := key m 0 fuel (by omega) (by omega) (fun j _ hj => firstHit_none hq j (by omega))
    rw [this, Nat.zero_add]
    obtain ⟨f, hf'⟩ : ∃ f, fuel - m = f + 1 := ⟨fuel - m - 1, by omega⟩
    rw [hf']
    exact iter_stop stop
/-- From a tree's tests to its answer. -/
theorem selB {α : Type} {c : Bool} {t e : Tree α} : (Tree.node c t e).sel = bif c then t.sel else e.sel := rfl
end Go.Proofs.Ytgjnolljacicfaa.Vx
namespace Go.Proofs.Ytgjnolljacicfaa.Vx
open Go Go.RowKit
set_option linter.unusedVariables false
set_option linter.unusedSimpArgs false
def last32 : BitVec 32 := 0xEDB88320#32
def dn (n : BitVec 32) : BitVec 32 := (n >>> 1) ^^^ (if n.getLsbD 0 then last32 else 0#32)
def up (n : BitVec 32) : BitVec 32 := if n.getLsbD 31 then ((n ^^^ last32) <<< 1) ||| 1#32 else n <<< 1
theorem dn_xor (a b : BitVec 32) : dn (a ^^^ b) = dn a ^^^ dn b := by
  unfold dn
  rw [BitVec.getLsbD_xor, BitVec.ushiftRight_xor_distrib]
  cases a.getLsbD 0 <;> cases b.getLsbD 0 <;> simp
  · ac_rfl
  · ac_rfl
  · have : ∀ x y z : BitVec 32, x ^^^ y = (x ^^^ z) ^^^ (y ^^^ z) := by
      intro x y z
      have e : (x ^^^ z) ^^^ (y ^^^ z) = (x ^^^ y) ^^^ (z ^^^ z) := by ac_rfl
      rw [e, BitVec.xor_self, BitVec.xor_zero]
    exact this _ _ _
theorem up_dn (n : BitVec 32) : up (dn n) = n := by
  unfold up dn
  cases h : n.getLsbD 0 with
  | false =>
    simp only [Bool.false_eq_true, if_false, BitVec.xor_zero]
    have : (n >>> 1).getLsbD 31 = false := by simp
    rw [this]
    simp only [Bool.false_eq_true, if_false]
    ext i hi
    simp only [BitVec.getElem_shiftLeft]
    by_cases h0 : i = 0
    · subst h0; simp; rw [← BitVec.getLsbD_eq_getElem]; exact h
    · have : ¬ i < 1 := by omega
      simp [this]; rw [show 1 + (i - 1) = i by omega, BitVec.getLsbD_eq_getElem]
  | true =>
    simp only [if_true]
    have : (n >>> 1 ^^^ last32).getLsbD 31 = true := by
      rw [BitVec.getLsbD_xor]; simp [last32]
    rw [this]
    simp only [if_true]
    have e : n >>> 1 ^^^ last32 ^^^ last32 = n >>> 1 := by rw [BitVec.xor_assoc, BitVec.xor_self, BitVec.xor_zero]
    rw [e]
    ext i hi
    simp only [BitVec.getElem_or, BitVec.getElem_shiftLeft]
    by_cases h0 : i = 0
    · subst h0; simp; rw [← BitVec.getLsbD_eq_getElem]; exact h
    · have : ¬ i < 1 := by omega
      simp [this, h0]; rw [show 1 + (i - 1) = i by omega, BitVec.getLsbD_eq_getElem]
/-- The first k bits. -/
def low (n : BitVec 32) (k : Nat) : BitVec 32 := n &&& BitVec.ofNat 32 (2 ^ k - 1)
theorem low_succ (n : BitVec 32) (k : Nat) (hk : k < 32) : low n (k + 1) = low n k ^^^ (if n.getLsbD k then 1#32 <<< k else 0#32) := by
  unfold low
  ext i hi
  simp only [BitVec.getElem_and, BitVec.getElem_xor]
  have e : ∀ j, (BitVec.ofNat 32 (2 ^ j - 1))[i] = decide (i < j) := by
    intro j
    rw [← BitVec.getLsbD_eq_getElem, BitVec.getLsbD_ofNat, Nat.testBit_two_pow_sub_one]; simp [hi]
  rw [e, e]
  by_cases h : n.getLsbD k
  · rw [if_pos h]
    rw [BitVec.getElem_shiftLeft]
    by_cases h1 : i < k
    · simp [h1, show i < k + 1 by omega]
    · by_cases h2 : i = k
      · subst h2; rw [BitVec.getLsbD_eq_getElem hi] at h; simp [h]
      · simp [h1, show ¬ i < k + 1 by omega, show ¬ i - k = 0 by omega]
  · rw [if_neg h]
    by_cases h1 : i < k
    · simp [h1, show i < k + 1 by omega]
    · by_cases h2 : i = k
      · subst h2; rw [BitVec.getLsbD_eq_getElem hi] at h; simp [h]
      · simp [h1, show ¬ i < k + 1 by omega]
theorem low_32 (n : BitVec 32) : low n 32 = n := by
  unfold low
  ext i hi
  rw [BitVec.getElem_and, ← BitVec.getLsbD_eq_getElem (x := BitVec.ofNat 32 (2 ^ 32 - 1)), BitVec.getLsbD_ofNat, Nat.testBit_two_pow_sub_one]
  simp [hi]
theorem low_0 (n : BitVec 32) : low n 0 = 0#32 := by unfold low; simp
/-- Two linear maps that agree on the bits agree. -/
theorem lin_ext {w : Nat} {f g : BitVec 32 → BitVec w} (hf : ∀ a b, f (a ^^^ b) = f a ^^^ f b) (hg : ∀ a b, g (a ^^^ b) = g a ^^^ g b) (h : ∀ i, i < 32 → f (1#32 <<< i) = g (1#32 <<< i)) (n : BitVec 32) : f n = g n := by
  have z : ∀ {f : BitVec 32 → BitVec w}, (∀ a b, f (a ^^^ b) = f a ^^^ f b) → f 0#32 = 0#w := by
    intro f hf
    have := hf 0#32 0#32
    rw [BitVec.xor_self] at this
    rw [this, BitVec.xor_self]
  have key : ∀ k, k ≤ 32 → f (low n k) = g (low n k) := by
    intro k
    induction k with
    | zero => intro _; rw [low_0, z hf, z hg]
    | succ k ih =>
      intro hk
      rw [low_succ n k (by omega), hf, hg, ih (by omega)]
      cases n.getLsbD k with
      | true => rw [if_pos rfl, h k (by omega)]
      | false => rw [if_neg (by simp), z hf, z hg]
  have := key 32 (by omega)
  rwa [low_32] at this
def dnN : Nat → BitVec 32 → BitVec 32
  | 0, n => n
  | k + 1, n => dnN k (dn n)
def upN : Nat → BitVec 32 → BitVec 32
  | 0, n => n
  | k + 1, n => upN k (up n)
theorem dnN_xor (k : Nat) (a b : BitVec 32) : dnN k (a ^^^ b) = dnN k a ^^^ dnN k b := by
  induction k generalizing a b with
  | zero => rfl
  | succ k ih => simp only [dnN, dn_xor, ih]
theorem dnN_add (j k : Nat) (n : BitVec 32) : dnN (j + k) n = dnN k (dnN j n) := by
  induction j generalizing n with
  | zero => simp [dnN]
  | succ j ih => rw [Nat.succ_add]; simp only [dnN]; exact ih _
theorem upN_add (j k : Nat) (n : BitVec 32) : upN (j + k) n = upN k (upN j n) := by
  induction j generalizing n with
  | zero => simp [upN]
  | succ j ih => rw [Nat.succ_add]; simp only [upN]; exact ih _
theorem upN_dnN (k : Nat) (n : BitVec 32) : upN k (dnN k n) = n := by
  induction k generalizing n with
  | zero => rfl
  | succ k ih =>
    rw [dnN_add k 1 n, Nat.add_comm, upN_add 1 k]
    show upN k (up (dn (dnN k n))) = n
    rw [up_dn, ih]
theorem dnN_inj {k : Nat} {a b : BitVec 32} (h : dnN k a = dnN k b) : a = b := by
  have := congrArg (upN k) h
  rwa [upN_dnN, upN_dnN] at this
theorem dnN_zero (k : Nat) : dnN k 0#32 = 0#32 := by
  have := dnN_xor k 0#32 0#32
  rw [BitVec.xor_self] at this
  rw [this, BitVec.xor_self]
theorem dn_up (n : BitVec 32) : dn (up n) = n := by
  unfold up dn
  cases h : n.getLsbD 31 with
  | false =>
    simp only [Bool.false_eq_true, if_false]
    have : (n <<< 1).getLsbD 0 = false := by simp
    rw [this]
    simp only [Bool.false_eq_true, if_false, BitVec.xor_zero]
    ext i hi
    simp only [BitVec.getElem_ushiftRight, BitVec.getLsbD_shiftLeft]
    by_cases h0 : i = 31
    · subst h0; simp; rw [← BitVec.getLsbD_eq_getElem]; exact h
    · simp [show 1 + i < 32 by omega]; 
      rw [← BitVec.getLsbD_eq_getElem]
  | true =>
    simp only [if_true]
    have : (((n ^^^ last32) <<< 1) ||| 1#32).getLsbD 0 = true := by simp
    rw [this]
    simp only [if_true]
    have e : (((n ^^^ last32) <<< 1) ||| 1#32) >>> 1 = n ^^^ last32 := by
      ext i hi
      simp only [BitVec.getElem_ushiftRight, BitVec.getLsbD_shiftLeft, BitVec.getLsbD_or]
      by_cases h0 : i = 31
      · subst h0; simp [last32]; rw [← BitVec.getLsbD_eq_getElem, h]
      · simp [show 1 + i < 32 by omega]
        rw [← BitVec.getLsbD_eq_getElem, ← BitVec.getLsbD_eq_getElem]
    rw [e, BitVec.xor_assoc, BitVec.xor_self, BitVec.xor_zero]
theorem dnN_upN (k : Nat) (n : BitVec 32) : dnN k (upN k n) = n := by
  induction k generalizing n with
  | zero => rfl
  | succ k ih =>
    rw [upN_add k 1 n, Nat.add_comm, dnN_add 1 k]
    show dnN k (dn (up (upN k n))) = n
    rw [dn_up, ih]
/-! ### Bytes -/
def go (n : BitVec 32) (l : List Int) : BitVec 32 := l.foldl (fun n x => dnN 8 (n ^^^ BitVec.ofInt 32 x)) n
theorem go_nil (n : BitVec 32) : go n [] = n := rfl
theorem go_cons (n : BitVec 32) (x : Int) (l : List Int) : go n (x :: l) = go (dnN 8 (n ^^^ BitVec.ofInt 32 x)) l := rfl
theorem go_append (n : BitVec 32) (l m : List Int) : go n (l ++ m) = go (go n l) m := by unfold go; rw [List.foldl_append]
theorem go_lin (a b : BitVec 32) (l : List Int) : go (a ^^^ b) l = go a l ^^^ dnN (8 * l.length) b := by
  induction l generalizing a b with
  | nil => rfl
  | cons x l ih =>
    rw [go_cons, go_cons]
    have e : a ^^^ b ^^^ BitVec.ofInt 32 x = (a ^^^ BitVec.ofInt 32 x) ^^^ b := by ac_rfl
    rw [e, dnN_xor, ih, List.length_cons, show 8 * (l.length + 1) = 8 + 8 * l.length by omega, dnN_add]
/-- A byte that is another one. -/
theorem go_turn (n : BitVec 32) (l m : List Int) (x y : Int) : go n (l ++ y :: m) = go n (l ++ x :: m) ^^^ dnN (8 * (m.length + 1)) (BitVec.ofInt 32 x ^^^ BitVec.ofInt 32 y) := by
  rw [go_append, go_append, go_cons, go_cons]
  have e : go n l ^^^ BitVec.ofInt 32 y = (go n l ^^^ BitVec.ofInt 32 x) ^^^ (BitVec.ofInt 32 x ^^^ BitVec.ofInt 32 y) := by
    have : (go n l ^^^ BitVec.ofInt 32 x) ^^^ (BitVec.ofInt 32 x ^^^ BitVec.ofInt 32 y) = (go n l ^^^ BitVec.ofInt 32 y) ^^^ (BitVec.ofInt 32 x ^^^ BitVec.ofInt 32 x) := by ac_rfl
    rw [this, BitVec.xor_self, BitVec.xor_zero]
  rw [e, dnN_xor, go_lin, show 8 * (m.length + 1) = 8 + 8 * m.length by omega, dnN_add]
theorem split_at {α : Type} {l : List α} {i : Nat} (h : i < l.length) (d : α) : l = l.take i ++ l.getD i d :: l.drop (i + 1) := by
  have e : l.getD i d = l[i] := by rw [List.getD_eq_getElem?_getD, List.getElem?_eq_getElem h]; rfl
  rw [e, ← List.drop_eq_getElem_cons h, List.take_append_drop]
theorem set_at {α : Type} {l : List α} {i : Nat} (h : i < l.length) (y : α) : l.set i y = l.take i ++ y :: l.drop (i + 1) := by
  rw [List.set_eq_take_append_cons_drop, if_pos h]
theorem go_set (n : BitVec 32) {l : List Int} {i : Nat} (h : i < l.length) (y d : Int) : go n (l.set i y) = go n l ^^^ dnN (8 * (l.length - i)) (BitVec.ofInt 32 (l.getD i d) ^^^ BitVec.ofInt 32 y) := by
  rw [set_at h, go_turn n _ _ (l.getD i d) y, ← split_at h d]
  rw [List.length_drop, show l.length - (i + 1) + 1 = l.length - i by omega]
/-! ### The table of eight -/
def E8 : List Int := [1996959894, 3993919788, 124634137, 249268274, 498536548, 997073096, 1994146192, 3988292384]
def tab (u : BitVec 8) : Nat → BitVec 32
  | 0 => 0#32
  | k + 1 => tab u k ^^^ (if u.getLsbD k then BitVec.ofInt 32 (E8.getD k 0) else 0#32)
theorem tab_xor (a b : BitVec 8) (k : Nat) : tab (a ^^^ b) k = tab a k ^^^ tab b k := by
  induction k with
  | zero => simp [tab]
  | succ k ih =>
    simp only [tab, ih, BitVec.getLsbD_xor]
    cases a.getLsbD k <;> cases b.getLsbD k <;> simp
    · ac_rfl
    · ac_rfl
    · have : ∀ x y z : BitVec 32, x ^^^ y = (x ^^^ z) ^^^ (y ^^^ z) := by
        intro x y z
        have e : (x ^^^ z) ^^^ (y ^^^ z) = (x ^^^ y) ^^^ (z ^^^ z) := by ac_rfl
        rw [e, BitVec.xor_self, BitVec.xor_zero]
      exact this _ _ _
theorem dn8 (m : BitVec 32) : dnN 8 m = (m >>> 8) ^^^ tab (m.setWidth 8) 8 := by
  refine lin_ext (f := dnN 8) (g := fun m => (m >>> 8) ^^^ tab (m.setWidth 8) 8) (dnN_xor 8) (fun a b => ?_) (by decide +kernel) m
  simp only [BitVec.ushiftRight_xor_distrib, BitVec.setWidth_xor, tab_xor]
  ac_rfl
theorem ofInt_8 {x : Int} (h0 : 0 ≤ x) (h1 : x < 256) : BitVec.ofInt 32 x = (BitVec.ofInt 8 x).setWidth 32 := by
  apply BitVec.eq_of_toNat_eq
  rw [BitVec.toNat_setWidth, BitVec.toNat_ofInt, BitVec.toNat_ofInt]
  omega
theorem ofInt_low (n : BitVec 32) : BitVec.ofInt 8 (N n) = n.setWidth 8 := by
  apply BitVec.eq_of_toNat_eq
  rw [BitVec.toNat_setWidth, BitVec.toNat_ofInt]
  unfold N
  omega
/-- What the document says of a byte. -/
theorem byte_in (n : BitVec 32) {x : Int} (h0 : 0 ≤ x) (h1 : x < 256) : dnN 8 (n ^^^ BitVec.ofInt 32 x) = (n >>> 8) ^^^ tab (n.setWidth 8 ^^^ BitVec.ofInt 8 x) 8 := by
  rw [dn8, ofInt_8 h0 h1, BitVec.ushiftRight_xor_distrib, BitVec.setWidth_xor]
  have e1 : (BitVec.ofInt 8 x).setWidth 32 >>> 8 = 0#32 := by
    apply BitVec.eq_of_toNat_eq
    have := (BitVec.ofInt 8 x).isLt
    rw [BitVec.toNat_ushiftRight, BitVec.toNat_setWidth, Nat.shiftRight_eq_div_pow]
    simp
    omega
  have e2 : ((BitVec.ofInt 8 x).setWidth 32).setWidth 8 = BitVec.ofInt 8 x := by
    apply BitVec.eq_of_toNat_eq
    have := (BitVec.ofInt 8 x).isLt
    rw [BitVec.toNat_setWidth, BitVec.toNat_setWidth]
    omega
  rw [e1, e2, BitVec.xor_zero]
end Go.Proofs.Ytgjnolljacicfaa.Vx
namespace Go.Proofs.Ytgjnolljacicfaa.Vx
open Go Go.RowKit
set_option linter.unusedVariables false
set_option linter.unusedSimpArgs false
set_option maxRecDepth 100000
theorem bit0 (x : BitVec 32) : (N (x &&& 1#32) == 0) = !x.getLsbD 0 := by
  rw [show (0 : Int) = N 0#32 from rfl, N_beq, Bool.eq_iff_iff]
  simp only [beq_iff_eq, Bool.not_eq_true']
  constructor
  · intro h
    have := congrArg (fun v => v.getLsbD 0) h
    simpa using this
  · intro h
    apply BitVec.eq_of_getLsbD_eq
    intro i hi
    by_cases h0 : i = 0
    · subst h0; rw [BitVec.getLsbD_and, h]; simp
    · simp [h0]
theorem t19 (x : BitVec 32) : op_19 [.n (N x)] = some (0, [.n (N (dn x))]) := by
  show (fn_19 [.n (N x)]).sel = _
  simp only [fn_19]
  have e : iand IntKind.u32 (N x) 1 = N (x &&& 1#32) := iand_u32 x 1#32
  have e1 : ishr IntKind.u32 (N x) 1 = N (x >>> 1) := ishr_u32 x 1
  have e2 : ixor IntKind.u32 (N (x >>> 1)) 3988292384 = N ((x >>> 1) ^^^ last32) := ixor_u32 (x >>> 1) last32
  rw [selB, e, e1, e2, bit0]
  unfold dn
  cases x.getLsbD 0
  · simp [Tree.sel]
  · simp [Tree.sel]
theorem t21 (x : BitVec 32) : op_21 [.n (N x)] = some (0, [.n (N (up x))]) := by
  show (fn_21 [.n (N x)]).sel = _
  simp only [fn_21]
  have e1 : ishl IntKind.u32 (N x) 1 = N (x <<< 1) := ishl_u32 x 1
  have e2 : ixor IntKind.u32 (N x) 3988292384 = N (x ^^^ last32) := ixor_u32 x last32
  have e3 : ishl IntKind.u32 (N (x ^^^ last32)) 1 = N ((x ^^^ last32) <<< 1) := ishl_u32 _ 1
  have e4 : ior IntKind.u32 (N ((x ^^^ last32) <<< 1)) 1 = N ((x ^^^ last32) <<< 1 ||| 1#32) := ior_u32 _ 1#32
  have c : decide (N x < 2147483648) = !x.getLsbD 31 := by
    have h := x.isLt
    rw [Bool.eq_iff_iff]
    simp only [decide_eq_true_eq, Bool.not_eq_true']
    have : x.getLsbD 31 = decide (2147483648 ≤ x.toNat) := by
      rw [← BitVec.msb_eq_getLsbD_last (x := x), BitVec.msb_eq_decide]
    rw [this, decide_eq_false_iff_not]
    unfold N
    omega
  rw [selB, e1, e2, e3, e4, c]
  unfold up
  cases x.getLsbD 31
  · simp [Tree.sel]
  · simp [Tree.sel]
theorem isK1 (x : Int) : isK 0 [HK.n] (some (0, [.n x])) = true := rfl
theorem len_ok {n : Nat} {i : Nat} (h : i < n) (hn : n ≤ 9223372036854775807) : IntKind.wrap .i64 ((i : Int) + 1) = ((i + 1 : Nat) : Int) := by
  rw [w64 (by omega) (by omega)]; omega
/-- The number behind some bytes. -/
theorem t12L (b : List Int) (hb : b.length ≤ 9223372036854775807) : op_L12_3 [.n (N 0xFFFFFFFF#32), .l TB (ofI b), .n b.length, .n ((0 : Nat) : Int)] = some (0, [.n (N (go 0xFFFFFFFF#32 b))]) := by
  refine iter_count (st := fn_L12_3) (fun i => [.n (N (go 0xFFFFFFFF#32 (b.take i))), .l TB (ofI b), .n b.length, .n (i : Int)]) b.length (0, [.n (N (go 0xFFFFFFFF#32 b))]) ?_ ?_ FU (lt_FU hb)
  · intro i hi
    simp only [fn_L12_3, den_len, den_getD2]
    refine (selT (dt (by omega))).trans ((selT (inR_true (by omega) (by omega))).trans ?_)
    simp only [wrapN_u32, ixor_u32, t19, dOf_some, gn0, isK1, cond_true, len_ok hi hb, Tree.sel]
    rw [take_getD (d := (0 : Int)) hi, go_append]
    rfl
  · rw [List.take_length]
    simp only [fn_L12_3, den_len]
    exact selF (df (Int.lt_irrefl _))
def Sm (b : List Int) : BitVec 32 := 0xFFFFFFFF#32 ^^^ go 0xFFFFFFFF#32 b
theorem t12 (b : List Int) (hb : b.length ≤ 9223372036854775807) : op_12 [.l TB (ofI b)] = some (0, [.n (N (Sm b))]) := by
  show (fn_12 [.l TB (ofI b)]).sel = _
  have e' : op_L12_3 [.n 4294967295, .l TB (ofI b), .n b.length, .n 0] = some (0, [.n (N (go 0xFFFFFFFF#32 b))]) := t12L b hb
  simp only [fn_12, den_len]
  rw [e']
  simp only [dOf_some, gn0, isK1, cond_true, Tree.sel]
  have := ixor_u32 0xFFFFFFFF#32 (go 0xFFFFFFFF#32 b)
  rw [show (4294967295 : Int) = N 0xFFFFFFFF#32 from rfl, this]
  rfl
/-- Change. -/
theorem isK2b (x : Int) (y : Bool) : isK 0 [HK.n, HK.b] (some (0, [.n x, .b y])) = true := rfl
theorem isK2n (x y : Int) : isK 0 [HK.n, HK.n] (some (0, [.n x, .n y])) = true := rfl
theorem t14L (s u : BitVec 32) (m : Nat) (hm : m ≤ 65537) : op_L14_5 [.n (N s), .n (N u), .n (m : Int), .n ((0 : Nat) : Int)] = some (0, [.n (N s), .n (N (dnN (8 * m) u))]) := by
  refine iter_count (st := fn_L14_5) (fun i => [.n (N s), .n (N (dnN (8 * i) u)), .n (m : Int), .n (i : Int)]) m (0, [.n (N s), .n (N (dnN (8 * m) u))]) ?_ ?_ FU (lt_FU (by omega))
  · intro i hi
    simp only [fn_L14_5]
    refine (selT (dt (by omega))).trans ?_
    simp only [t19, dOf_some, gn0, isK1, cond_true, len_ok hi (by omega : m ≤ 9223372036854775807), Tree.sel]
    rw [show 8 * (i + 1) = 8 * i + 8 by omega, dnN_add]
    rfl
  · simp only [fn_L14_5]
    exact selF (df (Int.lt_irrefl _))
/-- What a byte's change does, so many bytes ahead of the end. -/
def chg (d : BitVec 8) (k : Nat) : BitVec 32 := dnN (8 * (k + 1)) (d.setWidth 32)
theorem ofInt_N8 (d : BitVec 8) : BitVec.ofInt 32 (N d) = d.setWidth 32 := by
  apply BitVec.eq_of_toNat_eq
  rw [BitVec.toNat_setWidth, BitVec.toNat_ofInt]
  unfold N
  omega
theorem t14 (s : BitVec 32) (a c : BitVec 8) (k : Nat) (hk : k ≤ 65536) : op_14 [.n (N s), .n (N a), .n (N c), .n (k : Int)] = some (0, [.n (N (s ^^^ chg (a ^^^ c) k)), .b true]) := by
  show (fn_14 [.n (N s), .n (N a), .n (N c), .n (k : Int)]).sel = _
  simp only [fn_14]
  refine (selF (df (by omega))).trans ((selF (df (by omega))).trans ?_)
  have e := t14L s ((a ^^^ c).setWidth 32) (k + 1) (by omega)
  have e0 : IntKind.wrap .i64 ((k : Int) + 1) = ((k + 1 : Nat) : Int) := by rw [w64 (by omega) (by omega)]; omega
  rw [ixor_u8, wrapN_u32, ofInt_N8, e0]
  rw [show op_L14_5 [.n (N s), .n (N ((a ^^^ c).setWidth 32)), .n ((k + 1 : Nat) : Int), .n 0] = _ from e]
  simp only [dOf_some, gn0, gn1, isK2n, ixor_u32, Tree.sel, cond_true]
  rfl
theorem t14n (s a c k : Int) (hk : k < 0 ∨ k > 65536) : op_14 [.n s, .n a, .n c, .n k] = some (0, [.n 0, .b false]) := by
  show (fn_14 [.n s, .n a, .n c, .n k]).sel = _
  simp only [fn_14]
  by_cases h : k < 0
  · exact selT (dt h)
  · exact (selF (df h)).trans (selT (dt (by omega)))
/-- The table's row. -/
theorem bitk (u : BitVec 8) (k : Nat) : (iand IntKind.u8 (ishr IntKind.u8 (N u) (k : Int)) 1 == 1) = u.getLsbD k := by
  rw [ishr_u8, show (1 : Int) = N 1#8 from rfl, iand_u8, N_beq, Bool.eq_iff_iff]
  simp only [beq_iff_eq]
  constructor
  · intro h
    have := congrArg (fun v => v.getLsbD 0) h
    simpa using this
  · intro h
    apply BitVec.eq_of_getLsbD_eq
    intro i hi
    by_cases h0 : i = 0
    · subst h0; rw [BitVec.getLsbD_and, BitVec.getLsbD_ushiftRight]; simp [h]
    · rw [BitVec.getLsbD_and]; simp [h0]
theorem isK4 (x y : Int) (l m : List Int) : isK 0 [HK.n, HK.l TB, HK.n, HK.l TN] (some (0, [.n x, .l TB (ofI l), .n y, .l TN (ofI m)])) = true := rfl
theorem e8_in (k : Nat) (hk : k < 8) : List.getD E8 k 0 = N (BitVec.ofInt 32 (List.getD E8 k 0)) := by
  rcases k with _ | _ | _ | _ | _ | _ | _ | _ | k <;> first | rfl | omega
theorem t20L (n : BitVec 32) (b : List Int) (i : Int) (u : BitVec 8) : op_L20_8 [.k 0, .n (N n), .l TB (ofI b), .n i, .n (N u), .n ((0 : Nat) : Int), .l TN (ofI E8)] = some (0, [.n (N (n ^^^ tab u 8)), .l TB (ofI b), .n i, .l TN (ofI E8)]) := by
  have := iter_count (st := fn_L20_8) (fun k => [.k 0, .n (N (n ^^^ tab u k)), .l TB (ofI b), .n i, .n (N u), .n (k : Int), .l TN (ofI E8)]) 8 (0, [.n (N (n ^^^ tab u 8)), .l TB (ofI b), .n i, .l TN (ofI E8)]) ?_ ?_ FU (by unfold FU; omega)
  · simp only [tab, BitVec.xor_zero] at this
    simp only [tab]
    exact this
  · intro k hk
    simp only [fn_L20_8, fn_L20_8_0, den_len, den_getD2]
    refine (selT (dt (by omega))).trans ((selT (nf (df (by omega)))).trans ?_)
    rw [selB, bitk]
    have e0 : IntKind.wrap .i64 ((k : Int) + 1) = ((k + 1 : Nat) : Int) := by rw [w64 (by omega) (by omega)]; omega
    cases h : u.getLsbD k with
    | true =>
      refine (selT (inR_true (by omega) (by show (k : Int) < ((8 : Nat) : Int); omega))).trans ?_
      rw [e0, show ((k : Int)).toNat = k from rfl, e8_in k hk, ixor_u32]
      simp only [tab, h, if_true, Tree.sel, BitVec.xor_assoc]
    | false =>
      rw [e0]
      simp only [tab, h, Bool.false_eq_true, if_false, Tree.sel, cond_false, BitVec.xor_zero]
  · simp only [fn_L20_8, fn_L20_8_0]
    exact selF (df (by omega))
theorem t20M (n : BitVec 32) (b : List Int) (hb : b.length ≤ 9223372036854775807) (hr : ∀ x ∈ b, 0 ≤ x ∧ x < 256) : op_L20_3 [.k 0, .n (N n), .l TB (ofI b), .n ((0 : Nat) : Int), .l TN (ofI E8)] = some (0, [.n (N (go n b))]) := by
  refine iter_count (st := fn_L20_3) (fun i => [.k 0, .n (N (go n (b.take i))), .l TB (ofI b), .n (i : Int), .l TN (ofI E8)]) b.length (0, [.n (N (go n b))]) ?_ ?_ FU (lt_FU hb)
  · intro i hi
    simp only [fn_L20_3, fn_L20_3_0, den_len, den_getD2]
    refine (selT (dt (by omega))).trans ((selT (inR_true (by omega) (by omega))).trans ?_)
    have hx := hr _ (getD_mem (d := (0 : Int)) hi)
    rw [show ((i : Int)).toNat = i from rfl]
    have ex : List.getD b i 0 = N (BitVec.ofInt 8 (List.getD b i 0)) := (N_of hx.1 hx.2).symm
    have e8 : ishr IntKind.u32 (N (go n (b.take i))) 8 = N (go n (b.take i) >>> 8) := ishr_u32 _ 8
    rw [e8, wrapN_u8, ofInt_low, ex, ixor_u8]
    rw [show op_L20_8 [.k 0, .n (N (go n (b.take i) >>> 8)), .l TB (ofI b), .n (i : Int), .n (N ((go n (b.take i)).setWidth 8 ^^^ BitVec.ofInt 8 (List.getD b i 0))), .n 0, .l TN (ofI E8)] = _ from t20L _ _ _ _]
    simp only [dOf_some, gn0, gn2, gl1, gl3, isK4, selB, cond_true, len_ok hi hb, Tree.sel]
    rw [take_getD (d := (0 : Int)) hi, go_append, go_cons, go_nil, byte_in _ hx.1 hx.2]
  · rw [List.take_length]
    simp only [fn_L20_3, fn_L20_3_0, den_len]
    exact selF (df (Int.lt_irrefl _))
theorem t13 (b : List Int) (hb : b.length ≤ 9223372036854775807) (hr : ∀ x ∈ b, 0 ≤ x ∧ x < 256) : op_13 [.l TB (ofI b)] = some (0, [.n (N (Sm b))]) := by
  have e20 : op_20 [.n (N 0xFFFFFFFF#32), .l TB (ofI b)] = some (0, [.n (N (go 0xFFFFFFFF#32 b))]) := by
    show (fn_20 [.n (N 0xFFFFFFFF#32), .l TB (ofI b)]).sel = _
    have e := t20M 0xFFFFFFFF#32 b hb hr
    exact (selT (congrArg (isK 0 [HK.n]) e)).trans (congrArg (fun r => some (0, [Dat.n (gn (dOf r) 0)])) e)
  show (fn_13 [.l TB (ofI b)]).sel = _
  simp only [fn_13]
  rw [show op_20 [.n 4294967295, .l TB (ofI b)] = _ from e20]
  simp only [dOf_some, gn0, isK1, cond_true, Tree.sel]
  have := ixor_u32 0xFFFFFFFF#32 (go 0xFFFFFFFF#32 b)
  rw [show (4294967295 : Int) = N 0xFFFFFFFF#32 from rfl, this]
  rfl
end Go.Proofs.Ytgjnolljacicfaa.Vx
namespace Go.Proofs.Ytgjnolljacicfaa.Vx
open Go Go.RowKit
set_option linter.unusedVariables false
set_option linter.unusedSimpArgs false
set_option linter.unusedSimpArgs false
set_option maxRecDepth 100000
theorem N8_in (a : BitVec 8) : 0 ≤ N a ∧ N a < 256 := by unfold N; have := a.isLt; omega
theorem rep_mem {n : Nat} {a : BitVec 8} : ∀ x ∈ (List.replicate n (0 : Int)).set 0 (N a), 0 ≤ x ∧ x < 256 := by
  intro x hx
  rcases List.mem_or_eq_of_mem_set hx with h | h
  · rw [(List.mem_replicate.1 h).2]; omega
  · rw [h]; exact N8_in a
theorem xor_lem (s a b d : BitVec 32) : s ^^^ (d ^^^ a) ^^^ (d ^^^ (a ^^^ b)) = s ^^^ b := by
  have e : s ^^^ (d ^^^ a) ^^^ (d ^^^ (a ^^^ b)) = s ^^^ b ^^^ (d ^^^ d) ^^^ (a ^^^ a) := by ac_rfl
  rw [e, BitVec.xor_self, BitVec.xor_self, BitVec.xor_zero, BitVec.xor_zero]
theorem t15 (s : BitVec 32) (a c : BitVec 8) (k : Nat) (hk : k ≤ 65536) : op_15 [.n (N s), .n (N a), .n (N c), .n (k : Int)] = some (0, [.n (N (s ^^^ chg (a ^^^ c) k)), .b true]) := by
  have e0 : IntKind.wrap .i64 ((k : Int) + 1) = ((k + 1 : Nat) : Int) := by rw [w64 (by omega) (by omega)]; omega
  have ea := t13 ((List.replicate (k + 1) (0 : Int)).set 0 (N a)) (by simp; omega) rep_mem
  have ec := t13 ((List.replicate (k + 1) (0 : Int)).set 0 (N c)) (by simp; omega) rep_mem
  show (fn_15 [.n (N s), .n (N a), .n (N c), .n (k : Int)]).sel = _
  simp only [fn_15]
  refine (selF (df (by omega))).trans ((selF (df (by omega))).trans ?_)
  rw [e0]
  refine (selT (by simp; omega)).trans ?_
  refine (selT (inR_true (by omega) (by show (0 : Int) < ((List.length (List.replicate (k + 1) (0 : Int)) : Nat) : Int); rw [List.length_replicate]; omega))).trans ?_
  refine (selT (congrArg (isK 0 [HK.n]) ea)).trans ((selT (congrArg (isK 0 [HK.n]) ec)).trans ?_)
  refine (congr (congrArg (fun (r q : Option (Nat × List Dat)) => some (0, [Dat.n (ixor .u32 (ixor .u32 (N s) (gn (dOf r) 0)) (gn (dOf q) 0)), Dat.b true])) ea) ec).trans ?_
  simp only [dOf_some, gn0, ixor_u32]
  unfold Sm
  have h0 : 0 < (List.replicate (k + 1) (0 : Int)).length := by simp
  have := go_set 0xFFFFFFFF#32 (l := (List.replicate (k + 1) (0 : Int)).set 0 (N a)) (i := 0) (by simp) (N c) 0
  rw [List.set_set] at this
  have ga : ((List.replicate (k + 1) (0 : Int)).set 0 (N a)).getD 0 0 = N a := by simp [List.replicate_succ]
  rw [ga, ofInt_N8, ofInt_N8, List.length_set, List.length_replicate, Nat.sub_zero, ← BitVec.setWidth_xor] at this
  rw [this, xor_lem]
  rfl
theorem t15n (s a c k : Int) (hk : k < 0 ∨ k > 65536) : op_15 [.n s, .n a, .n c, .n k] = some (0, [.n 0, .b false]) := by
  show (fn_15 [.n s, .n a, .n c, .n k]).sel = _
  simp only [fn_15]
  by_cases h : k < 0
  · exact selT (dt h)
  · exact (selF (df h)).trans (selT (dt (by omega)))
/-! ### What is found -/
theorem isK3 (x y : Int) (z : Bool) : isK 1 [HK.n, HK.n, HK.b] (some (1, [.n x, .n y, .b z])) = true := rfl
theorem isK3n (x y : Int) (z : Bool) : isK 0 [] (some (1, [.n x, .n y, .b z])) = false := rfl
theorem isK0 : isK 0 [] (some (0, [])) = true := rfl
def hitU (x : BitVec 32) (j : Nat) : Bool := decide (N (upN (8 * (j + 1)) x) < 256)
def foundU (x : BitVec 32) : Option Nat → List Dat
  | some j => [.n (j : Int), .n (N ((upN (8 * (j + 1)) x).setWidth 8)), .b true]
  | none => [.n 0, .n 0, .b false]
theorem t16L (x : BitVec 32) (m : Int) (hm : m ≤ 65536) : op_L16_5 [.n (N x), .n m, .n ((0 : Nat) : Int)] = some (match firstHit (hitU x) m.toNat with
    | some j => (1, [.n (j : Int), .n (N ((upN (8 * (j + 1)) x).setWidth 8)), .b true])
    | none => (0, [])) := by
  have step : ∀ i : Nat, i < m.toNat → (fn_L16_5 [.n (N (upN (8 * i) x)), .n m, .n (i : Int)]).sel = (Tree.node (hitU x i) (.leaf (Step.stop 1 [.n (i : Int), .n (N ((upN (8 * (i + 1)) x).setWidth 8)), .b true])) (.leaf (Step.go [.n (N (upN (8 * (i + 1)) x)), .n m, .n ((i + 1 : Nat) : Int)]))).sel := by
    intro i hi
    have e0 : IntKind.wrap .i64 ((i : Int) + 1) = ((i + 1 : Nat) : Int) := by rw [w64 (by omega) (by omega)]; omega
    have e1 : up (up (up (up (up (up (up (up (upN (8 * i) x)))))))) = upN (8 * (i + 1)) x := by rw [show 8 * (i + 1) = 8 * i + 8 by omega, upN_add]; rfl
    simp only [fn_L16_5]
    refine (selT (dt (by omega))).trans ?_
    simp only [t21, dOf_some, gn0, isK1, selB, cond_true, e0, e1, wrapN_u8, ofInt_low]
    rfl
  refine iter_find (st := fn_L16_5) (fun i => [.n (N (upN (8 * i) x)), .n m, .n (i : Int)]) m.toNat (hitU x) (fun j => (1, [.n (j : Int), .n (N ((upN (8 * (j + 1)) x).setWidth 8)), .b true])) (0, []) ?_ ?_ ?_ FU (lt_FU (by omega))
  · intro i hi hh; rw [step i hi, hh]; rfl
  · intro i hi hh; rw [step i hi, hh]; rfl
  · simp only [fn_L16_5]
    exact selF (df (by omega))
theorem t16 (x : BitVec 32) (m : Int) (hm : m ≤ 65536) (hx : x ≠ 0#32) : op_16 [.n (N x), .n m] = some (0, foundU x (firstHit (hitU x) m.toNat)) := by
  show (fn_16 [.n (N x), .n m]).sel = _
  simp only [fn_16]
  have e := t16L x m hm
  have c : (N x == 0) = false := by
    rw [show (0 : Int) = N 0#32 from rfl, N_beq]; simpa using hx
  rw [selB, c, cond_false, show imin m 65536 = m by unfold imin; rw [if_neg (by omega)]]
  rw [show op_L16_5 [.n (N x), .n m, .n 0] = _ from e]
  cases firstHit (hitU x) m.toNat with
  | none => rfl
  | some j => rfl
theorem t16z (m : Int) : op_16 [.n (N 0#32), .n m] = some (0, [.n 0, .n 0, .b false]) := rfl
/-- The eight changes by one bit. -/
def bl (j : Nat) : Nat → List Int
  | 0 => []
  | k + 1 => bl j k ++ [N (chg (1#8 <<< k) j)]
theorem bl_len (j k : Nat) : (bl j k).length = k := by induction k with
  | zero => rfl
  | succ k ih => simp [bl, ih]
theorem bl_get (j : Nat) : ∀ (n k : Nat), k < n → (bl j n).getD k 0 = N (chg (1#8 <<< k) j)
  | 0, k, h => by omega
  | n + 1, k, h => by
    unfold bl
    rcases Nat.lt_or_ge k n with q | q
    · rw [List.getD_eq_getElem?_getD, List.getElem?_append_left (by rw [bl_len]; exact q), ← List.getD_eq_getElem?_getD]
      exact bl_get j n k q
    · have : k = n := by omega
      subst this
      rw [List.getD_eq_getElem?_getD, List.getElem?_append_right (by rw [bl_len]; exact Nat.le_refl _), bl_len, Nat.sub_self]
      rfl
theorem isK4l (x y z : Int) (l : List Int) : isK 0 [HK.n, HK.n, HK.n, HK.l TN] (some (0, [.n x, .n y, .n z, .l TN (ofI l)])) = true := rfl
theorem t17a (x m : Int) (j : Nat) (hj : j ≤ 65536) : op_L17_6 [.k 0, .n x, .n m, .n (j : Int), .n ((0 : Nat) : Int), .l TN (ofI [])] = some (0, [.n x, .n m, .n (j : Int), .l TN (ofI (bl j 8))]) := by
  refine iter_count (st := fn_L17_6) (fun k => [.k 0, .n x, .n m, .n (j : Int), .n (k : Int), .l TN (ofI (bl j k))]) 8 (0, [.n x, .n m, .n (j : Int), .l TN (ofI (bl j 8))]) ?_ ?_ FU (by unfold FU; omega)
  · intro k hk
    have hl : (ofI (k := .u32) (bl j k)).length = k := bl_len j k
    simp only [fn_L17_6, fn_L17_6_0]
    refine (selT (dt (by omega))).trans ((selT (nf (df (by omega)))).trans ?_)
    have e1 : ishl .u8 1 (k : Int) = N (1#8 <<< k) := ishl_u8 1#8 k
    have e2 := t15 0#32 0#8 (1#8 <<< k) j hj
    have e0 : IntKind.wrap .i64 ((k : Int) + 1) = ((k + 1 : Nat) : Int) := by rw [w64 (by omega) (by omega)]; omega
    rw [e1, show op_15 [.n 0, .n 0, .n (N (1#8 <<< k)), .n (j : Int)] = _ from e2]
    refine (selT rfl).trans ((selT (dt (by omega))).trans ?_)
    simp only [dOf_some, gn0, e0, Tree.sel, BitVec.zero_xor]
    rfl
  · simp only [fn_L17_6, fn_L17_6_0]
    exact selF (df (by omega))
/-- What a byte of some bits does, bit by bit. -/
def sw (d : BitVec 8) : Nat → BitVec 32
  | 0 => 0#32
  | k + 1 => sw d k ^^^ (if d.getLsbD k then (1#8 <<< k).setWidth 32 else 0#32)
theorem sw_all : ∀ i : Fin 256, sw (BitVec.ofFin i) 8 = (BitVec.ofFin (w := 8) i).setWidth 32 := by decide +kernel
theorem bit64_all : ∀ (i : Fin 256) (k : Fin 8), (iand IntKind.i64 (ishr IntKind.i64 ((i.val : Nat) : Int) ((k.val : Nat) : Int)) 1 == 1) = (BitVec.ofFin (w := 8) i).getLsbD k.val := by decide +kernel
theorem bit64 (d : BitVec 8) (k : Nat) (hk : k < 8) : (iand IntKind.i64 (ishr IntKind.i64 (N d) (k : Int)) 1 == 1) = d.getLsbD k := bit64_all d.toFin ⟨k, hk⟩
def csum (j : Nat) (d : BitVec 8) (k : Nat) : BitVec 32 := dnN (8 * (j + 1)) (sw d k)
theorem csum_8 (j : Nat) (d : BitVec 8) : csum j d 8 = chg d j := by
  unfold csum chg; rw [show sw d 8 = d.setWidth 32 from sw_all d.toFin]
theorem isK6 (x y z u v : Int) (l : List Int) : isK 0 [HK.n, HK.n, HK.n, HK.n, HK.n, HK.l TN] (some (0, [.n x, .n y, .n z, .n u, .n v, .l TN (ofI l)])) = true := rfl
theorem t17b (x m : Int) (j : Nat) (d : BitVec 8) : op_L17_15 [.k 0, .n x, .n m, .n (j : Int), .n (N d), .n (N 0#32), .n ((0 : Nat) : Int), .l TN (ofI (bl j 8))] = some (0, [.n x, .n m, .n (j : Int), .n (N d), .n (N (chg d j)), .l TN (ofI (bl j 8))]) := by
  rw [← csum_8]
  have := iter_count (st := fn_L17_15) (fun k => [.k 0, .n x, .n m, .n (j : Int), .n (N d), .n (N (csum j d k)), .n (k : Int), .l TN (ofI (bl j 8))]) 8 (0, [.n x, .n m, .n (j : Int), .n (N d), .n (N (csum j d 8)), .l TN (ofI (bl j 8))]) ?_ ?_ FU (by unfold FU; omega)
  · have e : csum j d 0 = 0#32 := by unfold csum sw; exact dnN_zero _
    simp only [e] at this
    exact this
  · intro k hk
    simp only [fn_L17_15, fn_L17_15_0, den_len, den_getD2]
    have e0 : IntKind.wrap .i64 ((k : Int) + 1) = ((k + 1 : Nat) : Int) := by rw [w64 (by omega) (by omega)]; omega
    refine (selT (dt (by omega))).trans ((selT (nf (df (by omega)))).trans ?_)
    rw [selB, bit64 d k hk]
    cases h : d.getLsbD k with
    | true =>
      refine (selT (inR_true (by omega) (by rw [bl_len]; omega))).trans ?_
      rw [e0, show ((k : Int)).toNat = k from rfl, bl_get j 8 k hk, ixor_u32]
      simp only [csum, sw, h, if_true, Tree.sel, dnN_xor, chg]
    | false =>
      rw [e0]
      simp only [csum, sw, h, Bool.false_eq_true, if_false, Tree.sel, cond_false, BitVec.xor_zero]
  · simp only [fn_L17_15, fn_L17_15_0]
    exact selF (df (by omega))
def hitB (x : BitVec 32) (j i : Nat) : Bool := N (chg (BitVec.ofNat 8 (i + 1)) j) == N x
theorem t17c (x : BitVec 32) (m : Int) (j : Nat) : op_L17_11 [.k 0, .n (N x), .n m, .n (j : Int), .n (((0 + 1 : Nat)) : Int), .l TN (ofI (bl j 8))] = some (match firstHit (hitB x j) 255 with
    | some i => (1, [.n (j : Int), .n (N (BitVec.ofNat 8 (i + 1))), .b true])
    | none => (0, [.n (N x), .n m, .n (j : Int)])) := by
  have step : ∀ i : Nat, i < 255 → (fn_L17_11 [.k 0, .n (N x), .n m, .n (j : Int), .n ((i + 1 : Nat) : Int), .l TN (ofI (bl j 8))]).sel = (Tree.node (hitB x j i) (.leaf (Step.stop 1 [.n (j : Int), .n (N (BitVec.ofNat 8 (i + 1))), .b true])) (.leaf (Step.go [.k 0, .n (N x), .n m, .n (j : Int), .n ((i + 1 + 1 : Nat) : Int), .l TN (ofI (bl j 8))]))).sel := by
    intro i hi
    have e0 : IntKind.wrap .i64 (((i + 1 : Nat) : Int) + 1) = ((i + 1 + 1 : Nat) : Int) := by rw [w64 (by omega) (by omega)]; omega
    have eN : ((i + 1 : Nat) : Int) = N (BitVec.ofNat 8 (i + 1)) := by unfold N; rw [BitVec.toNat_ofNat, Nat.mod_eq_of_lt (by omega)]
    simp only [fn_L17_11, fn_L17_11_0]
    refine (selT (dt (by omega))).trans ?_
    have e := t17b (N x) m j (BitVec.ofNat 8 (i + 1))
    rw [← eN] at e
    rw [show op_L17_15 [.k 0, .n (N x), .n m, .n (j : Int), .n ((i + 1 : Nat) : Int), .n 0, .n 0, .l TN (ofI (bl j 8))] = _ from e]
    simp only [dOf_some, gn0, gn1, gn2, gn3, gn4, gl5, isK6, cond_true, selB, e0]
    rw [eN, wrap_u8]
    rfl
  refine iter_find (st := fn_L17_11) (fun i => [.k 0, .n (N x), .n m, .n (j : Int), .n ((i + 1 : Nat) : Int), .l TN (ofI (bl j 8))]) 255 (hitB x j) (fun i => (1, [.n (j : Int), .n (N (BitVec.ofNat 8 (i + 1))), .b true])) (0, [.n (N x), .n m, .n (j : Int)]) ?_ ?_ ?_ FU (by unfold FU; omega)
  · intro i hi hh; rw [step i hi, hh]; rfl
  · intro i hi hh; rw [step i hi, hh]; rfl
  · simp only [fn_L17_11, fn_L17_11_0]
    exact selF (df (by omega))
def hitD (x : BitVec 32) (j : Nat) : Bool := (firstHit (hitB x j) 255).isSome
def byD (x : BitVec 32) (j : Nat) : BitVec 8 := BitVec.ofNat 8 ((firstHit (hitB x j) 255).getD 0 + 1)
theorem t17L (x : BitVec 32) (m : Int) (hm : m ≤ 65536) : op_L17_2 [.k 0, .n (N x), .n m, .n ((0 : Nat) : Int)] = some (match firstHit (hitD x) m.toNat with
    | some j => (1, [.n (j : Int), .n (N (byD x j)), .b true])
    | none => (0, [])) := by
  have step : ∀ j : Nat, j < m.toNat → (fn_L17_2 [.k 0, .n (N x), .n m, .n (j : Int)]).sel = (Tree.node (hitD x j) (.leaf (Step.stop 1 [.n (j : Int), .n (N (byD x j)), .b true])) (.leaf (Step.go [.k 0, .n (N x), .n m, .n ((j + 1 : Nat) : Int)]))).sel := by
    intro j hj
    have e0 : IntKind.wrap .i64 ((j : Int) + 1) = ((j + 1 : Nat) : Int) := by rw [w64 (by omega) (by omega)]; omega
    simp only [fn_L17_2, fn_L17_2_0]
    refine (selT (dt (by omega))).trans ((selT (dt (by omega))).trans ?_)
    have e1 := t17a (N x) m j (by omega)
    have e2 := t17c x m j
    rw [show op_L17_6 [.k 0, .n (N x), .n m, .n (j : Int), .n 0, .l TN []] = _ from e1]
    simp only [dOf_some, gn0, gn1, gn2, gl3, isK4l, cond_true, selB]
    rw [show op_L17_11 [.k 0, .n (N x), .n m, .n (j : Int), .n 1, .l TN (ofI (bl j 8))] = _ from e2]
    unfold hitD byD
    cases firstHit (hitB x j) 255 with
    | none =>
      simp only [dOf_some, gn0, gn1, gn2, e0]
      rfl
    | some i => rfl
  refine iter_find (st := fn_L17_2) (fun j => [.k 0, .n (N x), .n m, .n (j : Int)]) m.toNat (hitD x) (fun j => (1, [.n (j : Int), .n (N (byD x j)), .b true])) (0, []) ?_ ?_ ?_ FU (lt_FU (by omega))
  · intro i hi hh; rw [step i hi, hh]; rfl
  · intro i hi hh; rw [step i hi, hh]; rfl
  · simp only [fn_L17_2, fn_L17_2_0]
    exact selF (df (by omega))
theorem setWidth_lt {y : BitVec 32} (h : N y < 256) : (y.setWidth 8).setWidth 32 = y := by
  apply BitVec.eq_of_toNat_eq
  unfold N at h
  rw [BitVec.toNat_setWidth, BitVec.toNat_setWidth]
  have := y.isLt
  omega
theorem hit_same (x : BitVec 32) (hx : x ≠ 0#32) (j : Nat) : hitD x j = hitU x j ∧ (hitU x j = true → byD x j = (upN (8 * (j + 1)) x).setWidth 8) := by
  have inj : ∀ i, i < 255 → hitB x j i = true → (BitVec.ofNat 8 (i + 1)).setWidth 32 = upN (8 * (j + 1)) x := by
    intro i hi h
    unfold hitB at h
    rw [beq_iff_eq] at h
    have h := N_inj h
    unfold chg at h
    rw [← h, upN_dnN]
  have wid : ∀ i, i < 255 → ((BitVec.ofNat 8 (i + 1)).setWidth 32).toNat = i + 1 := by
    intro i hi
    rw [BitVec.toNat_setWidth, BitVec.toNat_ofNat]; omega
  cases hq : firstHit (hitB x j) 255 with
  | some i =>
    obtain ⟨h1, h2, h3⟩ := firstHit_some hq
    have e := inj i h1 h2
    have w := wid i h1
    have hU : hitU x j = true := by
      unfold hitU
      rw [← e]
      unfold N
      rw [w]
      exact dt (by omega)
    refine ⟨by unfold hitD; rw [hq, hU]; rfl, fun _ => ?_⟩
    unfold byD
    rw [hq, ← e]
    apply BitVec.eq_of_toNat_eq
    rw [BitVec.toNat_setWidth, w, BitVec.toNat_ofNat]
    rfl
  | none =>
    have hU : hitU x j = false := by
      cases hh : hitU x j with
      | false => rfl
      | true =>
        exfalso
        unfold hitU at hh
        have hh := of_decide_eq_true hh
        have hy0 : upN (8 * (j + 1)) x ≠ 0#32 := by
          intro h
          have := congrArg (dnN (8 * (j + 1))) h
          rw [dnN_upN, dnN_zero] at this
          exact hx this
        have hpos : 0 < (upN (8 * (j + 1)) x).toNat := by
          rcases Nat.eq_zero_or_pos (upN (8 * (j + 1)) x).toNat with q | q
          · exact (hy0 (BitVec.eq_of_toNat_eq q)).elim
          · exact q
        have hlt : (upN (8 * (j + 1)) x).toNat < 256 := by unfold N at hh; omega
        have := firstHit_none hq ((upN (8 * (j + 1)) x).toNat - 1) (by omega)
        unfold hitB at this
        rw [show (upN (8 * (j + 1)) x).toNat - 1 + 1 = (upN (8 * (j + 1)) x).toNat by omega] at this
        have e : (BitVec.ofNat 8 (upN (8 * (j + 1)) x).toNat) = (upN (8 * (j + 1)) x).setWidth 8 := by
          apply BitVec.eq_of_toNat_eq
          rw [BitVec.toNat_setWidth, BitVec.toNat_ofNat]
        rw [e] at this
        unfold chg at this
        rw [setWidth_lt hh, dnN_upN] at this
        simp at this
    refine ⟨by unfold hitD; rw [hq, hU]; rfl, fun h => by rw [hU] at h; cases h⟩
theorem t17 (x : BitVec 32) (m : Int) (hm : m ≤ 65536) (hx : x ≠ 0#32) : op_17 [.n (N x), .n m] = some (0, foundU x (firstHit (hitU x) m.toNat)) := by
  show (fn_17 [.n (N x), .n m]).sel = _
  simp only [fn_17]
  have e := t17L x m hm
  rw [firstHit_congr fun j _ => (hit_same x hx j).1] at e
  rw [show op_L17_2 [.k 0, .n (N x), .n m, .n 0] = _ from e]
  cases h : firstHit (hitU x) m.toNat with
  | none => rfl
  | some j =>
    obtain ⟨h1, h2, h3⟩ := firstHit_some h
    have := (hit_same x hx j).2 h2
    simp only [this]
    rfl
theorem t17z (m : Int) (hm : m ≤ 65536) : op_17 [.n (N 0#32), .n m] = some (0, [.n 0, .n 0, .b false]) := by
  have no : ∀ j, hitD 0#32 j = false := by
    intro j
    unfold hitD
    cases hq : firstHit (hitB 0#32 j) 255 with
    | none => rfl
    | some i =>
      exfalso
      obtain ⟨h1, h2, h3⟩ := firstHit_some hq
      unfold hitB at h2
      rw [beq_iff_eq] at h2
      have h := N_inj h2
      unfold chg at h
      have h := dnN_inj (h.trans (dnN_zero (8 * (j + 1))).symm)
      have := congrArg BitVec.toNat h
      rw [BitVec.toNat_setWidth, BitVec.toNat_ofNat] at this
      simp at this
      omega
  show (fn_17 [.n (N 0#32), .n m]).sel = _
  simp only [fn_17]
  have e := t17L 0#32 m hm
  have : firstHit (hitD 0#32) m.toNat = none := by
    cases hq : firstHit (hitD 0#32) m.toNat with
    | none => rfl
    | some j => have := (firstHit_some hq).2.1; rw [no j] at this; cases this
  rw [this] at e
  rw [show op_L17_2 [.k 0, .n (N 0#32), .n m, .n 0] = _ from e]
  rfl
end Go.Proofs.Ytgjnolljacicfaa.Vx
namespace Go.Proofs.Ytgjnolljacicfaa.Vx
open Go Go.RowKit
set_option linter.unusedVariables false
set_option linter.unusedSimpArgs false
set_option linter.unusedSimpArgs false
set_option maxRecDepth 100000
theorem asN {w : Nat} {n : Int} (h0 : 0 ≤ n) (h1 : n < 2 ^ w) : ∃ x : BitVec w, n = N x := ⟨_, (N_of h0 h1).symm⟩
theorem toUInt8_byte {x : Int} (h0 : 0 ≤ x) (h1 : x < 256) : (((UInt8.ofNat x.toNat).toNat : Nat) : Int) = x := by
  rw [UInt8.toNat_ofNat']
  omega
theorem bytes_str {b : List Int} (h : ∀ x ∈ b, 0 ≤ x ∧ x < 256) : bytesOf (strOf b) = b := by
  unfold bytesOf strOf
  simp only [List.map_map]
  conv => rhs; rw [← List.map_id b]
  refine List.map_congr_left fun x hx => ?_
  exact toUInt8_byte (h x hx).1 (h x hx).2
theorem bytes_str' {b : List Int} (h : ∀ x ∈ b, 0 ≤ x ∧ x < 256) : bytesOf (strOf (ofI (k := .u8) b)) = ofI (k := .u8) b := bytes_str h
theorem strEq_self (a : ByteArray) : strEq a a = true := by unfold strEq; simp
theorem beq_self {a b : Int} (h : a = b) : (a == b) = true := by subst h; simp
theorem bne_self {a b : Int} (h : a = b) : (a != b) = false := by subst h; simp
theorem t3 (b : List Int) (hb : b.length ≤ 9223372036854775807) (hr : ∀ x ∈ b, 0 ≤ x ∧ x < 256) : (fn_W3 [.l TB (ofI b)]).sel = some true := by
  simp only [fn_W3, den_len]
  by_cases h : (b.length : Int) > 3000
  · exact selT (dt h)
  refine (selF (df h)).trans ?_
  rw [bytes_str' hr]
  have e1 := t12 b hb
  have e2 := t13 b hb hr
  refine (selT (congrArg (isK 0 [HK.n]) e1)).trans ((selT (congrArg (isK 0 [HK.n]) e2)).trans ((selT (beq_self ?_)).trans (selT (strEq_self _))))
  exact (congrArg (fun r => gn (dOf r) 0) e1).trans (congrArg (fun r => gn (dOf r) 0) e2).symm
theorem end4 {p q : Option (Nat × List Dat)} {x : Int} {y : Bool} (e1 : p = some (0, [.n x, .b y])) (e2 : q = some (0, [.n x, .b y])) :
    (Tree.node (isK 0 [HK.n, HK.b] p) (.node (isK 0 [HK.n, HK.b] q) (.node (gn (dOf p) 0 == gn (dOf q) 0) (.node (gb (dOf p) 1 == gb (dOf q) 1) (.leaf true) (.leaf false)) (.leaf false)) (.bad 351)) (.bad 351)).sel = some true := by
  subst e1 e2
  simp [Tree.sel, isK, fitsK, dOf, gn, gb, Nat.beq]
theorem t4 (x : BitVec 32) (a c : BitVec 8) (k : Int) : (fn_W4 [.n (N x), .n (N a), .n (N c), .n k]).sel = some true := by
  simp only [fn_W4]
  by_cases h : k > 500
  · refine (selT (dt h)).trans ?_
    by_cases h1 : k ≤ 65536
    · exact selT (dt h1)
    · exact (selF (df h1)).trans (end4 (t14n _ _ _ _ (by omega)) (t15n _ _ _ _ (by omega)))
  · refine (selF (df h)).trans ?_
    by_cases h1 : k < 0
    · exact end4 (t14n _ _ _ _ (by omega)) (t15n _ _ _ _ (by omega))
    · obtain ⟨m, rfl⟩ : ∃ m : Nat, k = m := ⟨k.toNat, by omega⟩
      exact end4 (t14 x a c m (by omega)) (t15 x a c m (by omega))
theorem t16_17 (x : BitVec 32) (m : Int) (hm : m ≤ 65536) : ∃ p q r, op_16 [.n (N x), .n m] = some (0, [.n p, .n q, .b r]) ∧ op_17 [.n (N x), .n m] = some (0, [.n p, .n q, .b r]) := by
  by_cases hx : x = 0#32
  · subst hx
    exact ⟨0, 0, false, t16z m, t17z m hm⟩
  · have e1 := t16 x m hm hx
    have e2 := t17 x m hm hx
    cases h : firstHit (hitU x) m.toNat with
    | none => rw [h] at e1 e2; exact ⟨_, _, _, e1, e2⟩
    | some j => rw [h] at e1 e2; exact ⟨_, _, _, e1, e2⟩
theorem end5 {p q : Option (Nat × List Dat)} {x y : Int} {z : Bool} (e1 : p = some (0, [.n x, .n y, .b z])) (e2 : q = some (0, [.n x, .n y, .b z])) (t : Tree Bool) :
    (Tree.node (isK 0 [HK.n, HK.n, HK.b] p) (.node (isK 0 [HK.n, HK.n, HK.b] q) (.node (gn (dOf p) 0 != gn (dOf q) 0) (.leaf false) (.node (gn (dOf p) 1 != gn (dOf q) 1) (.leaf false) (.node (!gb (dOf p) 2 == gb (dOf q) 2) (.leaf false) t))) (.bad 351)) (.bad 351)).sel = t.sel := by
  subst e1 e2
  simp [Tree.sel, isK, fitsK, dOf, gn, gb, Nat.beq]
theorem t5 (x : BitVec 32) (n : Int) (c : BitVec 8) (b : Int) (hn : -128 ≤ n ∧ n ≤ 127) (hb : 0 ≤ b ∧ b < 256) : (fn_W5 [.n (N x), .n n, .n (N c), .n b]).sel = some true := by
  simp only [fn_W5]
  by_cases h : n > 60
  · exact selT (dt h)
  refine (selF (df h)).trans ?_
  have e0 : IntKind.wrap .i64 n = n := w64 (by omega) (by omega)
  have hm : 0 ≤ Int.tmod b 64 ∧ Int.tmod b 64 < 64 := by rw [Int.tmod_eq_emod_of_nonneg hb.1]; omega
  obtain ⟨k, hk⟩ : ∃ k : Nat, Int.tmod b 64 = k := ⟨(Int.tmod b 64).toNat, by omega⟩
  have e1 : IntKind.wrap .i64 (Int.tmod b 64) = (k : Int) := by rw [hk]; exact w64 (by omega) (by omega)
  rw [e0, e1]
  have e2 : op_15 [.n 0, .n 0, .n (N c), .n (k : Int)] = _ := t15 0#32 0#8 c k (by omega)
  obtain ⟨p1, q1, r1, a1, a2⟩ := t16_17 x n (by omega)
  obtain ⟨p2, q2, r2, b1, b2⟩ := t16_17 (0#32 ^^^ chg (0#8 ^^^ c) k) n (by omega)
  refine (selT (congrArg (isK 0 [HK.n, HK.b]) e2)).trans ?_
  rw [e2]
  refine (end5 (p := op_16 [.n (N x), .n n]) (q := op_17 [.n (N x), .n n]) a1 a2 _).trans ?_
  exact (end5 (p := op_16 [.n (N (0#32 ^^^ chg (0#8 ^^^ c) k)), .n n]) (q := op_17 [.n (N (0#32 ^^^ chg (0#8 ^^^ c) k)), .n n]) b1 b2 _)
/-! ### Rows with changes -/
theorem Sm_set {b : List Int} {i : Nat} (h : i < b.length) (a c : BitVec 8) (ha : b.getD i 0 = N a) : Sm (b.set i (N c)) = Sm b ^^^ chg (a ^^^ c) (b.length - 1 - i) := by
  unfold Sm
  rw [go_set _ h (N c) 0, ha, ofInt_N8, ofInt_N8, ← BitVec.setWidth_xor]
  unfold chg
  rw [show b.length - 1 - i + 1 = b.length - i by omega, BitVec.xor_assoc]
theorem byte_at {b : List Int} (hr : ∀ x ∈ b, 0 ≤ x ∧ x < 256) {i : Nat} (h : i < b.length) : ∃ a : BitVec 8, b.getD i 0 = N a := by
  have := hr _ (getD_mem (d := (0 : Int)) h)
  exact asN this.1 (by omega)
theorem bytes_set {b : List Int} (hr : ∀ x ∈ b, 0 ≤ x ∧ x < 256) (i : Nat) (c : BitVec 8) : ∀ x ∈ b.set i (N c), 0 ≤ x ∧ x < 256 := by
  intro x hx
  rcases List.mem_or_eq_of_mem_set hx with h | h
  · exact hr x h
  · rw [h]; exact N8_in c
theorem t6S (w to row : List Int) (i : Nat) (hw : w.length ≤ 40) (hto : to.length ≤ 9223372036854775807) (hwr : ∀ x ∈ w, 0 ≤ x ∧ x < 65536) (htr : ∀ x ∈ to, 0 ≤ x ∧ x < 256) (hl : row.length ≤ 1500) (hr : ∀ x ∈ row, 0 ≤ x ∧ x < 256) :
    (∃ env', (fn_L6_6 [.l (.int .u16) (ofI w), .l TB (ofI to), .n (N (Sm row)), .n (i : Int), .l TB (ofI row)]).sel = some (.go env') ∧ (∃ (row : List Int) (i : Nat), env' = [.l (.int .u16) (ofI w), .l TB (ofI to), .n (N (Sm row)), .n (i : Int), .l TB (ofI row)] ∧ row.length ≤ 1500 ∧ (∀ x ∈ row, 0 ≤ x ∧ x < 256)) ∧ w.length - (gn env' 3).toNat < w.length - ((i : Int)).toNat) ∨
    (∃ k d, (fn_L6_6 [.l (.int .u16) (ofI w), .l TB (ofI to), .n (N (Sm row)), .n (i : Int), .l TB (ofI row)]).sel = some (.stop k d) ∧ (k = 0 ∧ d = [])) := by
  simp only [fn_L6_6, den_len, den_getD2, den_set]
  by_cases h1 : (i : Int) < (w.length : Int)
  · by_cases h2 : (i : Int) < (to.length : Int)
    · by_cases h3 : (row.length : Int) > 0
      · left
        have hi : i < w.length := by omega
        have hi2 : i < to.length := by omega
        have hx := hwr _ (getD_mem (d := (0 : Int)) hi)
        obtain ⟨c, hc⟩ := byte_at htr hi2
        have e0 : IntKind.wrap .i64 (w.getD i 0) = w.getD i 0 := w64 (by omega) (by omega)
        obtain ⟨v, hv⟩ : ∃ v : Nat, w.getD i 0 = v := ⟨(w.getD i 0).toNat, by omega⟩
        have hm : Int.tmod (v : Int) (row.length : Int) = ((v % row.length : Nat) : Int) := by rfl
        have hlt : v % row.length < row.length := Nat.mod_lt _ (by omega)
        obtain ⟨a, ha⟩ := byte_at hr hlt
        have e1 : IntKind.wrap .i64 ((row.length : Int) - 1) = ((row.length - 1 : Nat) : Int) := by rw [w64 (by omega) (by omega)]; omega
        have e2 : IntKind.wrap .i64 (((row.length - 1 : Nat) : Int) - ((v % row.length : Nat) : Int)) = ((row.length - 1 - v % row.length : Nat) : Int) := by rw [w64 (by omega) (by omega)]; omega
        have e3 : IntKind.wrap .i64 ((i : Int) + 1) = ((i + 1 : Nat) : Int) := by rw [w64 (by omega) (by omega)]; omega
        have a14 := t14 (Sm row) a c (row.length - 1 - v % row.length) (by omega)
        have a12 := t12 (row.set (v % row.length) (N c)) (by rw [List.length_set]; omega)
        refine ⟨[.l (.int .u16) (ofI w), .l TB (ofI to), .n (N (Sm (row.set (v % row.length) (N c)))), .n ((i + 1 : Nat) : Int), .l TB (ofI (row.set (v % row.length) (N c)))], ?_, ⟨_, i + 1, rfl, by rw [List.length_set]; exact hl, bytes_set hr _ _⟩, ?_⟩
        · refine (selT (dt h1)).trans ((selT (dt h2)).trans ((selT (dt h3)).trans ((selT (inR_true (by omega) h1)).trans ((selT (nf (df (by omega)))).trans ?_))))
          rw [show ((i : Int)).toNat = i from rfl, e0, hv, hm, show (((v % row.length : Nat) : Int)).toNat = v % row.length from rfl, ha, hc, e1, e2, e3]
          refine (selT (inR_true (by omega) (by omega))).trans ((selT (inR_true (by omega) h2)).trans ?_)
          rw [a14]
          refine (selT rfl).trans ((selF rfl).trans ?_)
          have hs : (List.set (ofI (k := .u8) row) (v % row.length) (List.getD (ofI (k := .u8) to) i (0 : Int))) = ofI (row.set (v % row.length) (N c)) := congrArg (fun z : Int => ofI (k := .u8) (row.set (v % row.length) z)) hc
          rw [hs, show op_12 [.l (.int .u8) (ofI (row.set (v % row.length) (N c)))] = _ from a12]
          refine (selT rfl).trans ?_
          rw [Sm_set hlt a c ha]
          refine (selF (bne_self rfl)).trans ?_
          simp only [dOf_some, gn0, Tree.sel]
        · show w.length - ((i + 1 : Nat) : Int).toNat < w.length - ((i : Int)).toNat
          omega
      · right
        exact ⟨0, [], (selT (dt h1)).trans ((selT (dt h2)).trans (selF (df h3))), rfl, rfl⟩
    · right
      exact ⟨0, [], (selT (dt h1)).trans (selF (df h2)), rfl, rfl⟩
  · right
    exact ⟨0, [], selF (df h1), rfl, rfl⟩
theorem t6L (w to row : List Int) (hw : w.length ≤ 40) (hto : to.length ≤ 9223372036854775807) (hwr : ∀ x ∈ w, 0 ≤ x ∧ x < 65536) (htr : ∀ x ∈ to, 0 ≤ x ∧ x < 256) (hl : row.length ≤ 1500) (hr : ∀ x ∈ row, 0 ≤ x ∧ x < 256) :
    op_L6_6 [.l (.int .u16) (ofI w), .l TB (ofI to), .n (N (Sm row)), .n 0, .l TB (ofI row)] = some (0, []) := by
  have key : ∃ k d, iterS fn_L6_6 FU [.l (.int .u16) (ofI w), .l TB (ofI to), .n (N (Sm row)), .n ((0 : Nat) : Int), .l TB (ofI row)] = some (k, d) ∧ (k = 0 ∧ d = []) := by
    refine iterS_ok (st := fn_L6_6) (fun env => ∃ (row : List Int) (i : Nat), env = [.l (.int .u16) (ofI w), .l TB (ofI to), .n (N (Sm row)), .n (i : Int), .l TB (ofI row)] ∧ row.length ≤ 1500 ∧ (∀ x ∈ row, 0 ≤ x ∧ x < 256)) (fun env => w.length - (gn env 3).toNat) (fun k d => k = 0 ∧ d = []) ?_ FU _ ⟨row, 0, rfl, hl, hr⟩ (by show w.length - _ < FU; unfold FU; omega)
    clear hl hr row
    rintro env ⟨row, i, rfl, hl, hr⟩
    exact t6S w to row i hw hto hwr htr hl hr
  obtain ⟨k, d, e, rfl, rfl⟩ := key
  exact e
theorem t6 (b w to : List Int) (hb : b.length ≤ 9223372036854775807) (hto : to.length ≤ 9223372036854775807) (hr : ∀ x ∈ b, 0 ≤ x ∧ x < 256) (hwr : ∀ x ∈ w, 0 ≤ x ∧ x < 65536) (htr : ∀ x ∈ to, 0 ≤ x ∧ x < 256) :
    (fn_W6 [.l TB (ofI b), .l (.int .u16) (ofI w), .l TB (ofI to)]).sel = some true := by
  simp only [fn_W6, den_len]
  by_cases h : (b.length : Int) > 1500
  · exact selT (dt h)
  refine (selF (df h)).trans ?_
  by_cases h1 : (w.length : Int) > 40
  · exact selT (dt h1)
  refine (selF (df h1)).trans ?_
  rw [bytes_str' hr]
  have e1 := t12 b hb
  have e2 := t6L w to b (by omega) hto hwr htr (by omega) hr
  refine (selT (congrArg (isK 0 [HK.n]) e1)).trans ?_
  rw [show op_12 [.l (.int .u8) (ofI b)] = _ from e1]
  exact selT (congrArg (isK 0 []) e2)
end Go.Proofs.Ytgjnolljacicfaa.Vx
namespace Go.Proofs.Ytgjnolljacicfaa.Vx
open Go Go.RowKit
set_option linter.unusedVariables false
set_option linter.unusedSimpArgs false
set_option linter.unusedSimpArgs false
set_option maxRecDepth 100000
theorem xor_cancel (a b : BitVec 8) : a ^^^ (a ^^^ b) = b := by rw [← BitVec.xor_assoc, BitVec.xor_self, BitVec.zero_xor]
theorem xor_cancel32 (a b : BitVec 32) : a ^^^ (a ^^^ b) = b := by rw [← BitVec.xor_assoc, BitVec.xor_self, BitVec.zero_xor]
theorem chg_zero {d : BitVec 8} {k : Nat} : chg d k = 0#32 ↔ d = 0#8 := by
  constructor
  · intro h
    unfold chg at h
    have h := dnN_inj (h.trans (dnN_zero (8 * (k + 1))).symm)
    apply BitVec.eq_of_toNat_eq
    have := congrArg BitVec.toNat h
    rw [BitVec.toNat_setWidth] at this
    have h2 := d.isLt
    simp at this
    simp
    omega
  · rintro rfl; unfold chg; exact dnN_zero _
theorem chg_xor (a b : BitVec 8) (k : Nat) : chg (a ^^^ b) k = chg a k ^^^ chg b k := by
  unfold chg; rw [BitVec.setWidth_xor, dnN_xor]
theorem isK3b (x y : Int) (z : Bool) : isK 0 [HK.n, HK.n, HK.b] (some (0, [.n x, .n y, .b z])) = true := rfl
theorem t7 (b : List Int) (n : Int) (by_ : BitVec 8) (hb : b.length ≤ 9223372036854775807) (hr : ∀ x ∈ b, 0 ≤ x ∧ x < 256) (hn : 0 ≤ n ∧ n < 65536) : (fn_W7 [.l TB (ofI b), .n n, .n (N by_)]).sel = some true := by
  simp only [fn_W7, den_setlen, den_setlen2, den_setlen3, den_setlen4, den_len2, den_setget, den_len, den_getD2, den_set]
  by_cases h : ((b.length : Int) == 0) = true
  · exact selT h
  have h : ((b.length : Int) == 0) = false := by simpa using h
  refine (selF h).trans ?_
  have h0 : 0 < b.length := by
    rcases Nat.eq_zero_or_pos b.length with q | q
    · rw [q] at h; cases h
    · exact q
  by_cases h1 : (b.length : Int) > 2000
  · exact selT (dt h1)
  refine (selF (df h1)).trans ?_
  by_cases h2 : by_ = 0#8
  · exact selT (by subst h2; rfl)
  have h2' : (N by_ == 0) = false := by rw [show (0 : Int) = N 0#8 from rfl, N_beq]; simpa using h2
  refine (selF h2').trans ?_
  rw [bytes_str' hr]
  simp only [den_setlen, den_setlen2, den_setlen3, den_setlen4, den_len2, den_setget, den_len, den_getD2, den_set]
  have e0 : IntKind.wrap .i64 n = n := w64 (by omega) (by omega)
  obtain ⟨v, rfl⟩ : ∃ v : Nat, n = v := ⟨n.toNat, by omega⟩
  have hm : Int.tmod (v : Int) (b.length : Int) = ((v % b.length : Nat) : Int) := rfl
  have hlt : v % b.length < b.length := Nat.mod_lt _ (by omega)
  obtain ⟨a, ha⟩ := byte_at hr hlt
  simp only [e0, hm, den_setlen, den_setlen2, den_setlen3, den_setlen4, den_len2, den_setget, List.length_set, den_len, den_getD2, Int.toNat_natCast, ha, ixor_u8, den_set]
  generalize hat : v % b.length = at_ at *
  have hl : (b.set at_ (N (a ^^^ by_))).length = b.length := List.length_set
  have hSm := Sm_set hlt a (a ^^^ by_) ha
  rw [xor_cancel] at hSm
  have hrr := bytes_set hr at_ (a ^^^ by_)
  generalize hrow : b.set at_ (N (a ^^^ by_)) = row at *
  have e1 : IntKind.wrap .i64 ((b.length : Int) - 1) = ((b.length - 1 : Nat) : Int) := by rw [w64 (by omega) (by omega)]; omega
  have e2 : IntKind.wrap .i64 (((b.length - 1 : Nat) : Int) - (at_ : Int)) = ((b.length - 1 - at_ : Nat) : Int) := by rw [w64 (by omega) (by omega)]; omega
  rw [e1, e2]
  refine (selT (nf (df (by omega)))).trans ((selT (inR_true (by omega) (by omega))).trans ?_)
  have a1 := t12 b hb
  have a2 := t12 row (by omega)
  rw [show op_12 [.l (.int .u8) (ofI b)] = _ from a1, show op_12 [.l (.int .u8) (ofI row)] = _ from a2]
  refine (selT rfl).trans ((selT rfl).trans ?_)
  simp only [dOf_some, gn0, ixor_u32]
  rw [hSm, xor_cancel32]
  -- what is found
  generalize hK : b.length - 1 - at_ = K at *
  have hx : chg by_ K ≠ 0#32 := fun e => h2 (chg_zero.1 e)
  have a3 := t16 (chg by_ K) (b.length : Int) (by omega) hx
  have hitK : hitU (chg by_ K) K = true := by
    unfold hitU chg
    rw [upN_dnN]
    refine dt ?_
    unfold N
    rw [BitVec.toNat_setWidth]
    have := by_.isLt
    omega
  rw [show ((b.length : Int)).toNat = b.length from rfl] at a3
  cases hq : firstHit (hitU (chg by_ K)) b.length with
  | none =>
    have := firstHit_none hq K (by omega)
    rw [hitK] at this; cases this
  | some j =>
    obtain ⟨q1, q2, q3⟩ := firstHit_some hq
    have hjK : j ≤ K := by
      rcases Nat.lt_or_ge K j with u | u
      · have := q3 K u; rw [hitK] at this; cases this
      · exact u
    rw [hq] at a3
    unfold foundU at a3
    simp only at a3
    have hy : N (upN (8 * (j + 1)) (chg by_ K)) < 256 := of_decide_eq_true q2
    have hy0 : (upN (8 * (j + 1)) (chg by_ K)).setWidth 8 ≠ 0#8 := by
      intro e
      have e1 := setWidth_lt hy
      rw [e] at e1
      have := congrArg (dnN (8 * (j + 1))) e1
      rw [dnN_upN] at this
      rw [← this] at hx
      exact hx (dnN_zero _)
    have hch : chg ((upN (8 * (j + 1)) (chg by_ K)).setWidth 8) j = chg by_ K := by
      show dnN (8 * (j + 1)) (((upN (8 * (j + 1)) (chg by_ K)).setWidth 8).setWidth 32) = _
      rw [setWidth_lt hy, dnN_upN]
    generalize (upN (8 * (j + 1)) (chg by_ K)).setWidth 8 = bits at *
    rw [a3]
    have e3 : IntKind.wrap .i64 (((b.length - 1 : Nat) : Int) - (j : Int)) = ((b.length - 1 - j : Nat) : Int) := by rw [w64 (by omega) (by omega)]; omega
    refine (selT rfl).trans ((selF rfl).trans ?_)
    simp only [dOf_some, gn0, gn1, e3]
    have hlt2 : b.length - 1 - j < row.length := by omega
    obtain ⟨a', ha'⟩ := byte_at hrr hlt2
    have hS2 := Sm_set hlt2 a' (a' ^^^ bits) ha'
    rw [xor_cancel, hl, show b.length - 1 - (b.length - 1 - j) = j by omega, hch, hSm] at hS2
    have hz : Sm b ^^^ chg by_ K ^^^ chg by_ K = Sm b := by rw [BitVec.xor_assoc, BitVec.xor_self, BitVec.xor_zero]
    rw [hz] at hS2
    refine (selF (by rw [show (0 : Int) = N 0#8 from rfl, N_beq]; simpa using hy0)).trans ((selF (df (by omega))).trans ((selF (df (by omega))).trans ((selT (inR_true (by omega) (by omega))).trans ?_)))
    have a4 := t12 (row.set (b.length - 1 - j) (ixor .u8 (row.getD (b.length - 1 - j) 0) (N bits))) (by rw [List.length_set]; omega)
    have e5 : row.set (b.length - 1 - j) (ixor .u8 (row.getD (b.length - 1 - j) 0) (N bits)) = row.set (b.length - 1 - j) (N (a' ^^^ bits)) := by rw [ha', ixor_u8]
    have a5 : Sm (row.set (b.length - 1 - j) (ixor .u8 (row.getD (b.length - 1 - j) 0) (N bits))) = Sm b := by rw [e5]; exact hS2
    rw [a5] at a4
    clear a5 e5 hS2 ha' hlt2 hrr hSm a2 hl
    subst hrow
    exact (selT (congrArg (isK 0 [HK.n]) a4)).trans (selT (beq_self (congrArg (fun r => gn (dOf r) 0) a4)))
theorem isK2t (x : Int) (y : Bool) : isK 0 [HK.n, HK.b] (some (0, [.n x, .b y])) = true := rfl
theorem t8 (s : BitVec 32) (a b c d : BitVec 8) (m n : Int) (hm : 0 ≤ m ∧ m < 65536) (hn : 0 ≤ n ∧ n < 65536) : (fn_W8 [.n (N s), .n (N a), .n (N b), .n (N c), .n (N d), .n m, .n n]).sel = some true := by
  simp only [fn_W8]
  have r : ∀ m : Int, 0 ≤ m ∧ m < 65536 → ∃ k : Nat, k ≤ 65536 ∧ IntKind.wrap .i64 (Int.tmod m 1500) = (k : Int) := by
    intro m hm
    have : 0 ≤ Int.tmod m 1500 ∧ Int.tmod m 1500 < 1500 := by rw [Int.tmod_eq_emod_of_nonneg hm.1]; omega
    exact ⟨(Int.tmod m 1500).toNat, by omega, by rw [w64 (by omega) (by omega)]; omega⟩
  obtain ⟨k, hk, ek⟩ := r m hm
  obtain ⟨l, hl, el⟩ := r n hn
  rw [ek, el]
  simp only [t14 _ _ _ k hk, t14 _ _ _ l hl, dOf_some, gn0, gb1, isK2t, selB, cond_true, Tree.sel, N_beq]
  have f1 : s ^^^ chg (a ^^^ b) k ^^^ chg (c ^^^ d) l = s ^^^ chg (c ^^^ d) l ^^^ chg (a ^^^ b) k := by ac_rfl
  have f2 : s ^^^ chg (a ^^^ b) k ^^^ chg (b ^^^ c) k = s ^^^ chg (a ^^^ c) k := by
    rw [BitVec.xor_assoc, ← chg_xor]
    have : a ^^^ b ^^^ (b ^^^ c) = a ^^^ c := by
      have e : a ^^^ b ^^^ (b ^^^ c) = a ^^^ c ^^^ (b ^^^ b) := by ac_rfl
      rw [e, BitVec.xor_self, BitVec.xor_zero]
    rw [this]
  have f3 : s ^^^ chg (a ^^^ b) k ^^^ chg (b ^^^ a) k = s := by
    rw [BitVec.xor_assoc, ← chg_xor]
    have : a ^^^ b ^^^ (b ^^^ a) = 0#8 := by
      have e : a ^^^ b ^^^ (b ^^^ a) = (a ^^^ a) ^^^ (b ^^^ b) := by ac_rfl
      rw [e, BitVec.xor_self, BitVec.xor_self, BitVec.xor_zero]
    rw [this, chg_zero.2 rfl, BitVec.xor_zero]
  have f4 : (s ^^^ chg (a ^^^ b) k == s) = (a == b) := by
    rw [Bool.eq_iff_iff, beq_iff_eq, beq_iff_eq]
    constructor
    · intro h
      have := congrArg (fun v => s ^^^ v) h
      simp only [xor_cancel32, BitVec.xor_self] at this
      have := chg_zero.1 this
      have h2 := congrArg (fun v => a ^^^ v) this
      simp only [xor_cancel, BitVec.xor_zero] at h2
      exact h2.symm
    · rintro rfl
      rw [BitVec.xor_self, chg_zero.2 rfl, BitVec.xor_zero]
  rw [f1, f2, f3, f4]
  simp
/-! ### Near changes -/
def burst (f : Nat) (x : BitVec 32) (i : Nat) : BitVec 8 := (((x.setWidth 64) <<< f) >>> (8 * i)).setWidth 8
def spread (f : Nat) (x : BitVec 32) : BitVec 32 := dnN 40 ((burst f x 0).setWidth 32) ^^^ dnN 32 ((burst f x 1).setWidth 32) ^^^ dnN 24 ((burst f x 2).setWidth 32) ^^^ dnN 16 ((burst f x 3).setWidth 32) ^^^ dnN 8 ((burst f x 4).setWidth 32)
theorem burst_xor (f : Nat) (a b : BitVec 32) (i : Nat) : burst f (a ^^^ b) i = burst f a i ^^^ burst f b i := by
  unfold burst
  rw [BitVec.setWidth_xor, BitVec.shiftLeft_xor_distrib, BitVec.ushiftRight_xor_distrib, BitVec.setWidth_xor]
theorem spread_all : ∀ f : Fin 8, ∀ i : Fin 32, spread f.val (1#32 <<< i.val) = dnN (40 - f.val) (1#32 <<< i.val) := by decide +kernel
theorem spread_is (f : Nat) (hf : f < 8) (x : BitVec 32) : spread f x = dnN (40 - f) x := by
  refine lin_ext (f := spread f) (g := dnN (40 - f)) (fun a b => ?_) (dnN_xor _) (fun i hi => spread_all ⟨f, hf⟩ ⟨i, hi⟩) x
  unfold spread
  simp only [burst_xor, BitVec.setWidth_xor, dnN_xor]
  ac_rfl
/-- One of the five bytes. -/
def turnI (row : List Int) (p : Int) (v : Int) : List Int := List.set row p.toNat (ixor .u8 (List.getD row p.toNat 0) v)
theorem turnI_ok {row : List Int} (hr : ∀ x ∈ row, 0 ≤ x ∧ x < 256) {p : Nat} (hp : p < row.length) (d : BitVec 8) :
    go 0xFFFFFFFF#32 (turnI row (p : Int) (N d)) = go 0xFFFFFFFF#32 row ^^^ dnN (8 * (row.length - p)) (d.setWidth 32) ∧ (turnI row (p : Int) (N d)).length = row.length ∧ (∀ x ∈ turnI row (p : Int) (N d), 0 ≤ x ∧ x < 256) := by
  obtain ⟨a, ha⟩ := byte_at hr hp
  have e : turnI row (p : Int) (N d) = row.set p (N (a ^^^ d)) := by unfold turnI; rw [show ((p : Int)).toNat = p from rfl, ha, ixor_u8]
  rw [e]
  refine ⟨?_, List.length_set, bytes_set hr _ _⟩
  rw [go_set _ hp (N (a ^^^ d)) 0, ha, ofInt_N8, ofInt_N8, ← BitVec.setWidth_xor, xor_cancel]
end Go.Proofs.Ytgjnolljacicfaa.Vx
namespace Go.Proofs.Ytgjnolljacicfaa.Vx
open Go Go.RowKit
set_option linter.unusedVariables false
set_option linter.unusedSimpArgs false
set_option linter.unusedSimpArgs false
set_option maxRecDepth 100000
def P9 (n : Nat) (i : Int) : Int := IntKind.wrap .i64 ((n : Int) + i)
def V9 (bits n4 s : Int) : Int := IntKind.wrap .u8 (ishr .u64 (ishl .u64 (IntKind.wrap .u64 bits) (Int.tmod n4 8)) s)
theorem P9_is (n i : Nat) (hn : n ≤ 1500) (hi : i < 5) : P9 n (i : Int) = ((n + i : Nat) : Int) := by
  unfold P9
  rw [w64 (by omega) (by omega)]; omega
theorem V9_is (x : BitVec 32) (n4 : Int) (f i : Nat) (hf : Int.tmod n4 8 = f) : V9 (N x) n4 ((8 * i : Nat) : Int) = N (burst f x i) := by
  unfold V9 burst
  have e1 : IntKind.wrap .u64 (N x) = N (x.setWidth 64) := by
    rw [wrapN_u64]
    congr 1
    apply BitVec.eq_of_toNat_eq
    rw [BitVec.toNat_ofInt, BitVec.toNat_setWidth]
    unfold N
    try omega
  rw [e1, hf, ishl_u64, ishr_u64, wrapN_u8]
  generalize (BitVec.setWidth 64 x <<< f) >>> (8 * i) = y
  have : BitVec.ofInt 8 (N y) = y.setWidth 8 := by
    apply BitVec.eq_of_toNat_eq
    rw [BitVec.toNat_ofInt, BitVec.toNat_setWidth]
    unfold N
    omega
  rw [this]
def row9 (X : List Int) (n : Nat) (b n4 : Int) : Nat → List Int
  | 0 => X
  | i + 1 => turnI (row9 X n b n4 i) (P9 n (i : Int)) (V9 b n4 ((8 * i : Nat) : Int))
theorem row9_ok (X : List Int) (n : Nat) (x : BitVec 32) (n4 : Int) (f : Nat) (hn : n ≤ 1500) (hf : Int.tmod n4 8 = f) (hX : n + 5 ≤ X.length) (hr : ∀ y ∈ X, 0 ≤ y ∧ y < 256) : ∀ i, i ≤ 5 →
    (row9 X n (N x) n4 i).length = X.length ∧ (∀ y ∈ row9 X n (N x) n4 i, 0 ≤ y ∧ y < 256) ∧ (∀ k, i = k + 1 → go 0xFFFFFFFF#32 (row9 X n (N x) n4 i) = go 0xFFFFFFFF#32 (row9 X n (N x) n4 k) ^^^ dnN (8 * (X.length - (n + k))) ((burst f x k).setWidth 32)) := by
  intro i
  induction i with
  | zero => intro _; exact ⟨rfl, hr, fun k h => by omega⟩
  | succ i ih =>
    intro hi
    obtain ⟨h1, h2, h3⟩ := ih (by omega)
    rw [show row9 X n (N x) n4 (i + 1) = turnI (row9 X n (N x) n4 i) (P9 n (i : Int)) (V9 (N x) n4 ((8 * i : Nat) : Int)) from rfl]
    rw [P9_is n i hn (by omega), V9_is x n4 f i hf]
    obtain ⟨k1, k2, k3⟩ := turnI_ok h2 (p := n + i) (by omega) (burst f x i)
    refine ⟨by omega, k3, fun k hk => ?_⟩
    have : i = k := by omega
    subst this
    rw [k1, h1]
theorem t9 (l0 l1 l2 : List Int) (x : BitVec 32) (n4 : Int) (h4 : 0 ≤ n4 ∧ n4 < 256) (r0 : ∀ y ∈ l0, 0 ≤ y ∧ y < 256) (r1 : ∀ y ∈ l1, 0 ≤ y ∧ y < 256) (r2 : ∀ y ∈ l2, 0 ≤ y ∧ y < 256) :
    (fn_W9 [.l TB (ofI l0), .l TB (ofI l1), .l TB (ofI l2), .n (N x), .n n4]).sel = some true := by
  by_cases h0 : (l0.length : Int) > 1500
  · exact selT (dt h0)
  refine (selF (df h0)).trans ?_
  by_cases h2 : (l2.length : Int) > 1500
  · exact selT (dt h2)
  refine (selF (df h2)).trans ?_
  by_cases h1 : (l1.length : Int) < 5
  · exact selT (dt h1)
  refine (selF (df h1)).trans ?_
  have hm : 0 ≤ Int.tmod n4 8 ∧ Int.tmod n4 8 < 8 := by rw [Int.tmod_eq_emod_of_nonneg h4.1]; omega
  obtain ⟨f, hf⟩ : ∃ f : Nat, Int.tmod n4 8 = f := ⟨(Int.tmod n4 8).toNat, by omega⟩
  have ht : (l1.take 5).length = 5 := by rw [List.length_take]; omega
  have hX : (l0 ++ l1.take 5 ++ l2).length = l0.length + 5 + l2.length := by rw [List.length_append, List.length_append, ht]
  have hX2 : (l0 ++ l1.take 5).length = l0.length + 5 := by rw [List.length_append, ht]
  have hXr : ∀ y ∈ l0 ++ l1.take 5 ++ l2, 0 ≤ y ∧ y < 256 := by
    intro y hy
    rw [List.mem_append, List.mem_append] at hy
    rcases hy with (hy | hy) | hy
    · exact r0 y hy
    · exact r1 y (List.mem_of_mem_take hy)
    · exact r2 y hy
  refine (selT (nf (df (by omega)))).trans ?_
  refine (selT (dt (show l0.length * 1 ≤ 140737488355328 by omega))).trans ?_
  refine (selT (show (true && decide (5 ≤ (l1.length : Int))) = true by rw [dt (show 5 ≤ (l1.length : Int) by omega)]; rfl)).trans ?_
  refine (selT (dt (show (l0.length + (l1.take 5).length) * 1 ≤ 140737488355328 by omega))).trans ?_
  refine (selT (dt (show ((l0 ++ l1.take 5).length + l2.length) * 1 ≤ 140737488355328 by omega))).trans ?_
  refine (selT (dt (show (l0 ++ l1.take 5 ++ l2).length * 1 ≤ 140737488355328 by omega))).trans ?_
  have ok := row9_ok (l0 ++ l1.take 5 ++ l2) l0.length x n4 f (by omega) hf (by omega) hXr
  have inr : ∀ i : Nat, i < 5 → inR (P9 l0.length (i : Int)) (row9 (l0 ++ l1.take 5 ++ l2) l0.length (N x) n4 i).length = true := by
    intro i hi
    rw [P9_is _ i (by omega) hi, (ok i (by omega)).1, hX]
    exact inR_true (by omega) (by omega)
  refine (selT (inr 0 (by omega))).trans ((selT (inr 1 (by omega))).trans ((selT (inr 2 (by omega))).trans ((selT (inr 3 (by omega))).trans ((selT (inr 4 (by omega))).trans ?_))))
  have a1 := t12 (l0 ++ l1.take 5 ++ l2) (by omega)
  have a2 := t12 (row9 (l0 ++ l1.take 5 ++ l2) l0.length (N x) n4 5) (by rw [(ok 5 (by omega)).1]; omega)
  refine (selT (congrArg (isK 0 [HK.n]) a1)).trans ((selT (congrArg (isK 0 [HK.n]) a2)).trans (selT ?_))
  refine (congr (congrArg (fun (r q : Option (Nat × List Dat)) => ((gn (dOf r) 0 == gn (dOf q) 0) == (N x == 0))) a1) a2).trans ?_
  simp only [dOf_some, gn0, N_beq]
  have g5 := (ok 5 (by omega)).2.2 4 rfl
  have g4 := (ok 4 (by omega)).2.2 3 rfl
  have g3 := (ok 3 (by omega)).2.2 2 rfl
  have g2 := (ok 2 (by omega)).2.2 1 rfl
  have g1 := (ok 1 (by omega)).2.2 0 rfl
  have hd : ∀ (k : Nat) (v : BitVec 32), k < 5 → dnN (8 * ((l0 ++ l1.take 5 ++ l2).length - (l0.length + k))) v = dnN (8 * l2.length) (dnN (40 - 8 * k) v) := by
    intro k v hk
    rw [hX, ← dnN_add]
    congr 1
    omega
  rw [g4, g3, g2, g1, hd 0 _ (by omega), hd 1 _ (by omega), hd 2 _ (by omega), hd 3 _ (by omega), hd 4 _ (by omega)] at g5
  have hs : go 0xFFFFFFFF#32 (row9 (l0 ++ l1.take 5 ++ l2) l0.length (N x) n4 5) = go 0xFFFFFFFF#32 (l0 ++ l1.take 5 ++ l2) ^^^ dnN (8 * l2.length) (dnN (40 - f) x) := by
    rw [g5, ← spread_is f (by omega) x]
    unfold spread
    simp only [dnN_xor, BitVec.xor_assoc]
    rfl
  unfold Sm
  rw [hs]
  have hz : (N x == 0) = (x == 0#32) := by rw [show (0 : Int) = N 0#32 from rfl, N_beq]
  rw [hz]
  generalize go 0xFFFFFFFF#32 (l0 ++ l1.take 5 ++ l2) = g
  cases hq : x == 0#32 with
  | true =>
    rw [beq_iff_eq] at hq
    subst hq
    rw [dnN_zero, dnN_zero, BitVec.xor_zero]
    simp
  | false =>
    have : (4294967295#32 ^^^ g == 4294967295#32 ^^^ (g ^^^ dnN (8 * l2.length) (dnN (40 - f) x))) = false := by
      rw [beq_eq_false_iff_ne]
      intro h
      have h1 := congrArg (fun v => 4294967295#32 ^^^ v) h
      simp only [xor_cancel32] at h1
      have h2 := congrArg (fun v => g ^^^ v) h1
      simp only [xor_cancel32, BitVec.xor_self] at h2
      have h3 := dnN_inj (h2.symm.trans (dnN_zero (8 * l2.length)).symm)
      have h4 := dnN_inj (h3.trans (dnN_zero (40 - f)).symm)
      subst h4
      simp at hq
    rw [this]
    rfl
end Go.Proofs.Ytgjnolljacicfaa.Vx
namespace Go.Proofs.Ytgjnolljacicfaa.Vx
open Go Go.RowKit
set_option linter.unusedVariables false
set_option linter.unusedSimpArgs false
theorem u8R {n : Int} (h : wfD (.int .u8) n = true) : 0 ≤ n ∧ n < 256 := by
  obtain ⟨h1, h2⟩ := wfi h
  have e1 : IntKind.min .u8 = 0 := rfl
  have e2 : IntKind.max .u8 = 255 := rfl
  omega
theorem u16R {n : Int} (h : wfD (.int .u16) n = true) : 0 ≤ n ∧ n < 65536 := by
  obtain ⟨h1, h2⟩ := wfi h
  have e1 : IntKind.min .u16 = 0 := rfl
  have e2 : IntKind.max .u16 = 65535 := rfl
  omega
theorem i8R {n : Int} (h : wfD (.int .i8) n = true) : -128 ≤ n ∧ n ≤ 127 := by
  obtain ⟨h1, h2⟩ := wfi h
  have e1 : IntKind.min .i8 = -128 := rfl
  have e2 : IntKind.max .i8 = 127 := rfl
  omega
theorem u32N {n : Int} (h : wfD (.int .u32) n = true) : ∃ x : BitVec 32, n = N x := by
  obtain ⟨h1, h2⟩ := wfi h
  have e1 : IntKind.min .u32 = 0 := rfl
  have e2 : IntKind.max .u32 = 4294967295 := rfl
  exact asN (by omega) (by omega)
theorem u8N {n : Int} (h : wfD (.int .u8) n = true) : ∃ x : BitVec 8, n = N x := asN (u8R h).1 (by have := (u8R h).2; omega)
theorem bytesR {l : List Int} (h : wfD (.sl (.int .u8)) l = true) : ∀ x ∈ l, 0 ≤ x ∧ x < 256 := fun x hx => u8R (wfl_mem (t := .int .u8) h hx)
theorem shortsR {l : List Int} (h : wfD (.sl (.int .u16)) l = true) : ∀ x ∈ l, 0 ≤ x ∧ x < 65536 := fun x hx => u16R (wfl_mem (t := .int .u16) h hx)
theorem t3' {b : List Int} (h : wfD (.sl TB) b = true) : (fn_W3 [.l TB b]).sel = some true := t3 b (wfl_len h) (bytesR h)
theorem t4' {a b c : Int} (k : Int) (h0 : wfD (.int .u32) a = true) (h1 : wfD (.int .u8) b = true) (h2 : wfD (.int .u8) c = true) : (fn_W4 [.n a, .n b, .n c, .n k]).sel = some true := by
  obtain ⟨x, rfl⟩ := u32N h0
  obtain ⟨y, rfl⟩ := u8N h1
  obtain ⟨z, rfl⟩ := u8N h2
  exact t4 x y z k
theorem t5' {a n c b : Int} (h0 : wfD (.int .u32) a = true) (h1 : wfD (.int .i8) n = true) (h2 : wfD (.int .u8) c = true) (h3 : wfD (.int .u8) b = true) : (fn_W5 [.n a, .n n, .n c, .n b]).sel = some true := by
  obtain ⟨x, rfl⟩ := u32N h0
  obtain ⟨z, rfl⟩ := u8N h2
  exact t5 x n z b (i8R h1) (u8R h3)
theorem t6' {b w to : List Int} (h0 : wfD (.sl TB) b = true) (h1 : wfD (.sl (.int .u16)) w = true) (h2 : wfD (.sl TB) to = true) : (fn_W6 [.l TB b, .l (.int .u16) w, .l TB to]).sel = some true := t6 b w to (wfl_len h0) (wfl_len h2) (bytesR h0) (shortsR h1) (bytesR h2)
theorem t7' {b : List Int} {n c : Int} (h0 : wfD (.sl TB) b = true) (h1 : wfD (.int .u16) n = true) (h2 : wfD (.int .u8) c = true) : (fn_W7 [.l TB b, .n n, .n c]).sel = some true := by
  obtain ⟨z, rfl⟩ := u8N h2
  exact t7 b n z (wfl_len h0) (bytesR h0) (u16R h1)
theorem t8' {s a b c d m n : Int} (h0 : wfD (.int .u32) s = true) (h1 : wfD (.int .u8) a = true) (h2 : wfD (.int .u8) b = true) (h3 : wfD (.int .u8) c = true) (h4 : wfD (.int .u8) d = true) (h5 : wfD (.int .u16) m = true) (h6 : wfD (.int .u16) n = true) : (fn_W8 [.n s, .n a, .n b, .n c, .n d, .n m, .n n]).sel = some true := by
  obtain ⟨s, rfl⟩ := u32N h0
  obtain ⟨a, rfl⟩ := u8N h1
  obtain ⟨b, rfl⟩ := u8N h2
  obtain ⟨c, rfl⟩ := u8N h3
  obtain ⟨d, rfl⟩ := u8N h4
  exact t8 s a b c d m n (u16R h5) (u16R h6)
theorem t9' {l0 l1 l2 : List Int} {x n : Int} (h0 : wfD (.sl TB) l0 = true) (h1 : wfD (.sl TB) l1 = true) (h2 : wfD (.sl TB) l2 = true) (h3 : wfD (.int .u32) x = true) (h4 : wfD (.int .u8) n = true) : (fn_W9 [.l TB l0, .l TB l1, .l TB l2, .n x, .n n]).sel = some true := by
  obtain ⟨x, rfl⟩ := u32N h3
  exact t9 l0 l1 l2 x n (u8R h4) (bytesR h0) (bytesR h1) (bytesR h2)
end Go.Proofs.Ytgjnolljacicfaa.Vx
namespace Go.Proofs.Ytgjnolljacicfaa.Vx
open Go Go.RowKit
set_option linter.unusedVariables false
set_option linter.unusedSimpArgs false
/-! The boxes of stage 1 once more, with answers that nothing can unfold. -/
theorem opq_ex (f : List Dat → Option (Nat × List Dat)) : ∃ g : List Dat → Option (Nat × List Dat), ∀ e, g e = f e := ⟨f, fun _ => rfl⟩
noncomputable def op_q12 : List Dat → Option (Nat × List Dat) := Classical.choose (opq_ex op_12)
theorem op_q12_eq (e : List Dat) : op_q12 e = op_12 e := Classical.choose_spec (opq_ex op_12) e
noncomputable def Bq12 : FBox := mkF [.imm TB 0] [] [] [(.int .u32 0, [])] op_q12
theorem Bq12_ok : RunOk Try.prog 12 (boxRun Bq12) := by
  have h : op_q12 = op_12 := funext op_q12_eq
  unfold Bq12
  rw [h]
  exact B12_ok
noncomputable def cs_q12 : FuncId → Option CSpec := csLend 12 Bq12 cs_17
theorem cs_q12_ok : CsOk Try.prog cs_q12 := csLend_ok cs_17_ok Bq12_ok
noncomputable def op_q14 : List Dat → Option (Nat × List Dat) := Classical.choose (opq_ex op_14)
theorem op_q14_eq (e : List Dat) : op_q14 e = op_14 e := Classical.choose_spec (opq_ex op_14) e
noncomputable def Bq14 : FBox := mkF [.int .u32 0, .int .u8 1, .int .u8 2, .int .i64 3] [] [] [(.tup [.int .u32 0, .bool 1], [])] op_q14
theorem Bq14_ok : RunOk Try.prog 14 (boxRun Bq14) := by
  have h : op_q14 = op_14 := funext op_q14_eq
  unfold Bq14
  rw [h]
  exact B14_ok
noncomputable def cs_q14 : FuncId → Option CSpec := csLend 14 Bq14 cs_q12
theorem cs_q14_ok : CsOk Try.prog cs_q14 := csLend_ok cs_q12_ok Bq14_ok
noncomputable def op_q16 : List Dat → Option (Nat × List Dat) := Classical.choose (opq_ex op_16)
theorem op_q16_eq (e : List Dat) : op_q16 e = op_16 e := Classical.choose_spec (opq_ex op_16) e
noncomputable def Bq16 : FBox := mkF [.int .u32 0, .int .i64 1] [] [] [(.tup [.int .i64 0, .int .u8 1, .bool 2], [])] op_q16
theorem Bq16_ok : RunOk Try.prog 16 (boxRun Bq16) := by
  have h : op_q16 = op_16 := funext op_q16_eq
  unfold Bq16
  rw [h]
  exact B16_ok
noncomputable def cs_q16 : FuncId → Option CSpec := csLend 16 Bq16 cs_q14
theorem cs_q16_ok : CsOk Try.prog cs_q16 := csLend_ok cs_q14_ok Bq16_ok
end Go.Proofs.Ytgjnolljacicfaa.Vx
