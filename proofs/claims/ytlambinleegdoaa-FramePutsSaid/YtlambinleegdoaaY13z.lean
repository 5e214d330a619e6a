import Derived.Test.YtlambinleegdoaaVxBits
import Derived.Test.YtlambinleegdoaaX13z
namespace Go.Proofs.Ytlambinleegdoaa.Vx
open Go Go.RowKit
set_option linter.unusedVariables false
set_option linter.unusedSimpArgs false
theorem take_getD {α : Type} {l : List α} {n : Nat} {d : α} (h : n < l.length) : l.take (n + 1) = l.take n ++ [l.getD n d] := by
  rw [List.take_succ_eq_append_getElem h, List.getD_eq_getElem?_getD, List.getElem?_eq_getElem h]; rfl
def firstHit (hit : Nat → Bool) : Nat → Option Nat
  | 0 => none
  | m + 1 => match firstHit hit m with
    | some i => some i
    | none => match hit m with
      | true => some m
      | false => none
theorem firstHit_none {hit : Nat → Bool} : ∀ {m : Nat}, firstHit hit m = none → ∀ i, i < m → hit i = false
  | 0, _, i, hi => by omega
  | m + 1, h, i, hi => by
    unfold firstHit at h
    split at h
    · cases h
    · rename_i h0
      split at h
      · cases h
      · rename_i h1
        rcases Nat.lt_or_ge i m with q | q
        · exact firstHit_none h0 i q
        · have : i = m := by omega
          subst this; exact h1
theorem firstHit_some {hit : Nat → Bool} : ∀ {m k : Nat}, firstHit hit m = some k → k < m ∧ hit k = true ∧ ∀ i, i < k → hit i = false
  | 0, k, h => by cases h
  | m + 1, k, h => by
    unfold firstHit at h
    split at h
    · rename_i i h0
      cases h
      obtain ⟨h1, h2, h3⟩ := firstHit_some h0
      exact ⟨by omega, h2, h3⟩
    · rename_i h0
      split at h
      · rename_i h1
        cases h
        exact ⟨by omega, h1, firstHit_none h0⟩
      · cases h
theorem firstHit_congr {hit hit' : Nat → Bool} : ∀ {m : Nat}, (∀ i, i < m → hit i = hit' i) → firstHit hit m = firstHit hit' m
  | 0, _ => rfl
  | m + 1, h => by
    unfold firstHit
    rw [firstHit_congr fun i hi => h i (by omega), h m (by omega)]
/-- A loop that looks for something. -/
theorem iter_find {st : List Dat → Tree Step} (s : Nat → List Dat) (m : Nat) (hit : Nat → Bool) (y : Nat → Nat × List Dat) (y0 : Nat × List Dat)
    (go : ∀ i, i < m → hit i = false → (st (s i)).sel = some (.go (s (i + 1)))) (found : ∀ i, i < m → hit i = true → (st (s i)).sel = some (.stop (y i).1 (y i).2)) (stop : (st (s m)).sel = some (.stop y0.1 y0.2)) :
    ∀ fuel, m < fuel → iterS st fuel (s 0) = some (match firstHit hit m with | some k => y k | none => y0) := by
  have key : ∀ d i fuel, d + i ≤ m → d < fuel → (∀ j, i ≤ j → j < i + d → hit j = false) → iterS st fuel (s i) = iterS st (fuel - d) (s (i + d)) := by
    intro d
    induction d with
    | zero => intro i fuel _ _ _; rfl
    | succ d ih =>
      intro i fuel hi hf hh
      obtain ⟨f, rfl⟩ : ∃ f, fuel = f + 1 := ⟨fuel - 1, by omega⟩
      rw [iter_go (go i (by omega) (hh i (Nat.le_refl _) (by omega))), ih (i + 1) f (by omega) (by omega) (fun j h1 h2 => hh j (by omega) (by omega))]
      rw [show f + 1 - (d + 1) = f - d by omega, show i + 1 + d = i + (d + 1) by omega]
  intro fuel hf
  cases hq : firstHit hit m with
  | some k =>
    obtain ⟨h1, h2, h3⟩ := firstHit_some hq
    have := key k 0 fuel (by omega) (by omega) (fun j _ hj => h3 j (by omega))
    rw [this, Nat.zero_add]
    obtain ⟨f, hf'⟩ : ∃ f, fuel - k = f + 1 := ⟨fuel - k - 1, by omega⟩
    rw [hf']
    exact iter_stop (found k h1 h2)
  | none =>
    have := key m 0 fuel (by omega) (by omega) (fun j _ hj => firstHit_none hq j (by omega))
    rw [this, Nat.zero_add]
    obtain ⟨f, hf'⟩ : ∃ f, fuel - m = f + 1 := ⟨fuel - m - 1, by omega⟩
    rw [hf']
    exact iter_stop stop
/-- From a tree's tests to its answer. -/
theorem selB {α : Type} {c : Bool} {t e : Tree α} : (Tree.node c t e).sel = bif c then t.sel else e.sel := rfl
end Go.Proofs.Ytlambinleegdoaa.Vx
namespace Go.Proofs.Ytlambinleegdoaa.Vx
open Go Go.RowKit
set_option linter.unusedVariables false
set_option linter.unusedSimpArgs false
def last32 : BitVec 32 := 0xEDB88320#32
def dn (n : BitVec 32) : BitVec 32 := (n >>> 1) ^^^ (if n.getLsbD 0 then last32 else 0#32)
def up (n : BitVec 32) : BitVec 32 := if n.getLsbD 31 then ((n ^^^ last32) <<< 1) ||| 1#32 else n <<< 1
theorem dn_xor (a b : BitVec 32) : dn (a ^^^ b) = dn a ^^^ dn b := by
  unfold dn
  rw [BitVec.getLsbD_xor, BitVec.ushiftRight_xor_distrib]
  cases a.getLsbD 0 <;> cases b.getLsbD 0 <;> simp
  · ac_rfl
  · ac_rfl
  · have : ∀ x y z : BitVec 32, x ^^^ y = (x ^^^ z) ^^^ (y ^^^ z) := by
      intro x y z
      have e : (x ^^^ z) ^^^ (y ^^^ z) = (x ^^^ y) ^^^ (z ^^^ z) := by ac_rfl
      rw [e, BitVec.xor_self, BitVec.xor_zero]
    exact this _ _ _
theorem up_dn (n : BitVec 32) : up (dn n) = n := by
  unfold up dn
  cases h : n.getLsbD 0 with
  | false =>
    simp only [Bool.false_eq_true, if_false, BitVec.xor_zero]
    have : (n >>> 1).getLsbD 31 = false := by simp
    rw [this]
    simp only [Bool.false_eq_true, if_false]
    ext i hi
    simp only [BitVec.getElem_shiftLeft]
    by_cases h0 : i = 0
    · subst h0; simp; rw [← BitVec.getLsbD_eq_getElem]; exact h
    · have : ¬ i < 1 := by omega
      simp [this]; rw [show 1 + (i - 1) = i by omega, BitVec.getLsbD_eq_getElem]
  | true =>
    simp only [if_true]
    have : (n >>> 1 ^^^ last32).getLsbD 31 = true := by
      rw [BitVec.getLsbD_xor]; simp [last32]
    rw [this]
    simp only [if_true]
    have e : n >>> 1 ^^^ last32 ^^^ last32 = n >>> 1 := by rw [BitVec.xor_assoc, BitVec.xor_self, BitVec.xor_zero]
    rw [e]
    ext i hi
    simp only [BitVec.getElem_or, BitVec.getElem_shiftLeft]
    by_cases h0 : i = 0
    · subst h0; simp; rw [← BitVec.getLsbD_eq_getElem]; exact h
    · have : ¬ i < 1 := by omega
      simp [this, h0]; rw [show 1 + (i - 1) = i by omega, BitVec.getLsbD_eq_getElem]
/-- The first k bits. -/
def low (n : BitVec 32) (k : Nat) : BitVec 32 := n &&& BitVec.ofNat 32 (2 ^ k - 1)
theorem low_succ (n : BitVec 32) (k : Nat) (hk : k < 32) : low n (k + 1) = low n k ^^^ (if n.getLsbD k then 1#32 <<< k else 0#32) := by
  unfold low
  ext i hi
  simp only [BitVec.getElem_and, BitVec.getElem_xor]
  have e : ∀ j, (BitVec.ofNat 32 (2 ^ j - 1))[i] = decide (i < j) := by
    intro j
    rw [← BitVec.getLsbD_eq_getElem, BitVec.getLsbD_ofNat, Nat.testBit_two_pow_sub_one]; simp [hi]
  rw [e, e]
  by_cases h : n.getLsbD k
  · rw [if_pos h]
    rw [BitVec.getElem_shiftLeft]
    by_cases h1 : i < k
    · simp [h1, show i < k + 1 by omega]
    · by_cases h2 : i = k
      · subst h2; rw [BitVec.getLsbD_eq_getElem hi] at h; simp [h]
      · simp [h1, show ¬ i < k + 1 by omega, show ¬ i - k = 0 by omega]
  · rw [if_neg h]
    by_cases h1 : i < k
    · simp [h1, show i < k + 1 by omega]
    · by_cases h2 : i = k
      · subst h2; rw [BitVec.getLsbD_eq_getElem hi] at h; simp [h]
      · simp [h1, show ¬ i < k + 1 by omega]
theorem low_32 (n : BitVec 32) : low n 32 = n := by
  unfold low
  ext i hi
  rw [BitVec.getElem_and, ← BitVec.getLsbD_eq_getElem (x := BitVec.ofNat 32 (2 ^ 32 - 1)), BitVec.getLsbD_ofNat, Nat.testBit_two_pow_sub_one]
  simp [hi]
theorem low_0 (n : BitVec 32) : low n 0 = 0#32 := by unfold low; simp
/-- Two linear maps that agree on the bits agree. -/
theorem lin_ext {w : Nat} {f g : BitVec 32 → BitVec w} (hf : ∀ a b, f (a ^^^ b) = f a ^^^ f b) (hg : ∀ a b, g (a ^^^ b) = g a ^^^ g b) (h : ∀ i, i < 32 → f (1#32 <<< i) = g (1#32 <<< i)) (n : BitVec 32) : f n = g n := by
  have z : ∀ {f : BitVec 32 → BitVec w}, (∀ a b, f (a ^^^ b) = f a ^^^ f b) → f 0#32 = 0#w := by
    intro f hf
    have := hf 0#32 0#32
    rw [BitVec.xor_self] at this
    rw [this, BitVec.xor_self]
  have key : ∀ k, k ≤ 32 → f (low n k) = g (low n k) := by
    intro k
    induction k with
    | zero => intro _; rw [low_0, z hf, z hg]
    | succ k ih =>
      intro hk
      rw [low_succ n k (by omega), hf, hg, ih (by omega)]
      cases n.getLsbD k with
      | true => rw [if_pos rfl, h k (by omega)]
      | false => rw [if_neg (by simp), z hf, z hg]
  have := key 32 (by omega)
  rwa [low_32] at this
def dnN : Nat → BitVec 32 → BitVec 32
  | 0, n => n
  | k + 1, n => dnN k (dn n)
def upN : Nat → BitVec 32 → BitVec 32
  | 0, n => n
  | k + 1, n => upN k (up n)
theorem dnN_xor (k : Nat) (a b : BitVec 32) : dnN k (a ^^^ b) = dnN k a ^^^ dnN k b := by
  induction k generalizing a b with
  | zero => rfl
  | succ k ih => simp only [dnN, dn_xor, ih]
theorem dnN_add (j k : Nat) (n : BitVec 32) : dnN (j + k) n = dnN k (dnN j n) := by
  induction j generalizing n with
  | zero => simp [dnN]
  | succ j ih => rw [Nat.succ_add]; simp only [dnN]; exact ih _
theorem upN_add (j k : Nat) (n : BitVec 32) : upN (j + k) n = upN k (upN j n) := by
  induction j generalizing n with
  | zero => simp [upN]
  | succ j ih => rw [Nat.succ_add]; simp only [upN]; exact ih _
theorem upN_dnN (k : Nat) (n : BitVec 32) : upN k (dnN k n) = n := by
  induction k generalizing n with
  | zero => rfl
  | succ k ih =>
    rw [dnN_add k 1 n, Nat.add_comm, upN_add 1 k]
    show upN k (up (dn (dnN k n))) = n
    rw [up_dn, ih]
theorem dnN_inj {k : Nat} {a b : BitVec 32} (h : dnN k a = dnN k b) : a = b := by
  have := congrArg (upN k) h
  rwa [upN_dnN, upN_dnN] at this
theorem dnN_zero (k : Nat) : dnN k 0#32 = 0#32 := by
  have := dnN_xor k 0#32 0#32
  rw [BitVec.xor_self] at this
  rw [this, BitVec.xor_self]
theorem dn_up (n : BitVec 32) : dn (up n) = n := by
  unfold up dn
  cases h : n.getLsbD 31 with
  | false =>
    simp only [Bool.false_eq_true, if_false]
    have : (n <<< 1).getLsbD 0 = false := by simp
    rw [this]
    simp only [Bool.false_eq_true, if_false, BitVec.xor_zero]
    ext i hi
    simp only [BitVec.getElem_ushiftRight, BitVec.getLsbD_shiftLeft]
    by_cases h0 : i = 31
    · subst h0; simp; rw [← BitVec.getLsbD_eq_getElem]; exact h
    · simp [show 1 + i < 32 by omega]; 
      rw [← BitVec.getLsbD_eq_getElem]
  | true =>
    simp only [if_true]
    have : (((n ^^^ last32) <<< 1) ||| 1#32).getLsbD 0 = true := by simp
    rw [this]
    simp only [if_true]
    have e : (((n ^^^ last32) <<< 1) ||| 1#32) >>> 1 = n ^^^ last32 := by
      ext i hi
      simp only [BitVec.getElem_ushiftRight, BitVec.getLsbD_shiftLeft, BitVec.getLsbD_or]
      by_cases h0 : i = 31
      · subst h0; simp [last32]; rw [← BitVec.getLsbD_eq_getElem, h]
      · simp [show 1 + i < 32 by omega]
        rw [← BitVec.getLsbD_eq_getElem, ← BitVec.getLsbD_eq_getElem]
    rw [e, BitVec.xor_assoc, BitVec.xor_self, BitVec.xor_zero]
theorem dnN_upN (k : Nat) (n : BitVec 32) : dnN k (upN k n) = n := by
  induction k generalizing n with
  | zero => rfl
  | succ k ih =>
    rw [upN_add k 1 n, Nat.add_comm, dnN_add 1 k]
    show dnN k (dn (up (upN k n))) = n
    rw [dn_up, ih]
/-! ### Bytes -/
def go (n : BitVec 32) (l : List Int) : BitVec 32 := l.foldl (fun n x => dnN 8 (n ^^^ BitVec.ofInt 32 x)) n
theorem go_nil (n : BitVec 32) : go n [] = n := rfl
theorem go_cons (n : BitVec 32) (x : Int) (l : List Int) : go n (x :: l) = go (dnN 8 (n ^^^ BitVec.ofInt 32 x)) l := rfl
theorem go_append (n : BitVec 32) (l m : List Int) : go n (l ++ m) = go (go n l) m := by unfold go; rw [List.foldl_append]
theorem go_lin (a b : BitVec 32) (l : List Int) : go (a ^^^ b) l = go a l ^^^ dnN (8 * l.length) b := by
  induction l generalizing a b with
  | nil => rfl
  | cons x l ih =>
    rw [go_cons, go_cons]
    have e : a ^^^ b ^^^ BitVec.ofInt 32 x = (a ^^^ BitVec.ofInt 32 x) ^^^ b := by ac_rfl
    rw [e, dnN_xor, ih, List.length_cons, show 8 * (l.length + 1) = 8 + 8 * l.length by omega, dnN_add]
/-- A byte that is another one. -/
theorem go_turn (n : BitVec 32) (l m : List Int) (x y : Int) : go n (l ++ y :: m) = go n (l ++ x :: m) ^^^ dnN (8 * (m.length + 1)) (BitVec.ofInt 32 x ^^^ BitVec.ofInt 32 y) := by
  rw [go_append, go_append, go_cons, go_cons]
  have e : go n l ^^^ BitVec.ofInt 32 y = (go n l ^^^ BitVec.ofInt 32 x) ^^^ (BitVec.ofInt 32 x ^^^ BitVec.ofInt 32 y) := by
    have : (go n l ^^^ BitVec.ofInt 32 x) ^^^ (BitVec.ofInt 32 x ^^^ BitVec.ofInt 32 y) = (go n l ^^^ BitVec.ofInt 32 y) ^^^ (BitVec.ofInt 32 x ^^^ BitVec.ofInt 32 x) := by ac_rfl
    rw [this, BitVec.xor_self, BitVec.xor_zero]
  rw [e, dnN_xor, go_lin, show 8 * (m.length + 1) = 8 + 8 * m.length by omega, dnN_add]
theorem split_at {α : Type} {l : List α} {i : Nat} (h : i < l.length) (d : α) : l = l.take i ++ l.getD i d :: l.drop (i + 1) := by
  have e : l.getD i d = l[i] := by rw [List.getD_eq_getElem?_getD, List.getElem?_eq_getElem h]; rfl
  rw [e, ← List.drop_eq_getElem_cons h, List.take_append_drop]
theorem set_at {α : Type} {l : List α} {i : Nat} (h : i < l.length) (y : α) : l.set i y = l.take i ++ y :: l.drop (i + 1) := by
  rw [List.set_eq_take_append_cons_drop, if_pos h]
theorem go_set (n : BitVec 32) {l : List Int} {i : Nat} (h : i < l.length) (y d : Int) : go n (l.set i y) = go n l ^^^ dnN (8 * (l.length - i)) (BitVec.ofInt 32 (l.getD i d) ^^^ BitVec.ofInt 32 y) := by
  rw [set_at h, go_turn n _ _ (l.getD i d) y, ← split_at h d]
  rw [List.length_drop, show l.length - (i + 1) + 1 = l.length - i by omega]
/-! ### The table of eight -/
def E8 : List Int := [1996959894, 3993919788, 124634137, 249268274, 498536548, 997073096, 1994146192, 3988292384]
def tab (u : BitVec 8) : Nat → BitVec 32
  | 0 => 0#32
  | k + 1 => tab u k ^^^ (if u.getLsbD k then BitVec.ofInt 32 (E8.getD k 0) else 0#32)
theorem tab_xor (a b : BitVec 8) (k : Nat) : tab (a ^^^ b) k = tab a k ^^^ tab b k := by
  induction k with
  | zero => simp [tab]
  | succ k ih =>
    simp only [tab, ih, BitVec.getLsbD_xor]
    cases a.getLsbD k <;> cases b.getLsbD k <;> simp
    · ac_rfl
    · ac_rfl
    · have : ∀ x y z : BitVec 32, x ^^^ y = (x ^^^ z) ^^^ (y ^^^ z) := by
        intro x y z
        have e : (x ^^^ z) ^^^ (y ^^^ z) = (x ^^^ y) ^^^ (z ^^^ z) := by ac_rfl
        rw [e, BitVec.xor_self, BitVec.xor_zero]
      exact this _ _ _
theorem dn8 (m : BitVec 32) : dnN 8 m = (m >>> 8) ^^^ tab (m.setWidth 8) 8 := by
  refine lin_ext (f := dnN 8) (g := fun m => (m >>> 8) ^^^ tab (m.setWidth 8) 8) (dnN_xor 8) (fun a b => ?_) (by decide +kernel) m
  simp only [BitVec.ushiftRight_xor_distrib, BitVec.setWidth_xor, tab_xor]
  ac_rfl
theorem ofInt_8 {x : Int} (h0 : 0 ≤ x) (h1 : x < 256) : BitVec.ofInt 32 x = (BitVec.ofInt 8 x).setWidth 32 := by
  apply BitVec.eq_of_toNat_eq
  rw [BitVec.toNat_setWidth, BitVec.toNat_ofInt, BitVec.toNat_ofInt]
  omega
theorem ofInt_low (n : BitVec 32) : BitVec.ofInt 8 (N n) = n.setWidth 8 := by
  apply BitVec.eq_of_toNat_eq
  rw [BitVec.toNat_setWidth, BitVec.toNat_ofInt]
  unfold N
  omega
/-- What the document says of a byte. -/
theorem byte_in (n : BitVec 32) {x : Int} (h0 : 0 ≤ x) (h1 : x < 256) : dnN 8 (n ^^^ BitVec.ofInt 32 x) = (n >>> 8) ^^^ tab (n.setWidth 8 ^^^ BitVec.ofInt 8 x) 8 := by
  rw [dn8, ofInt_8 h0 h1, BitVec.ushiftRight_xor_distrib, BitVec.setWidth_xor]
  have e1 : (BitVec.ofInt 8 x).setWidth 32 >>> 8 = 0#32 := by
    apply BitVec.eq_of_toNat_eq
    have := (BitVec.ofInt 8 x).isLt
    rw [BitVec.toNat_ushiftRight, BitVec.toNat_setWidth, Nat.shiftRight_eq_div_pow]
    simp
    omega
  have e2 : ((BitVec.ofInt 8 x).setWidth 32).setWidth 8 = BitVec.ofInt 8 x := by
    apply BitVec.eq_of_toNat_eq
    have := (BitVec.ofInt 8 x).isLt
    rw [BitVec.toNat_setWidth, BitVec.toNat_setWidth]
    omega
  rw [e1, e2, BitVec.xor_zero]
end Go.Proofs.Ytlambinleegdoaa.Vx
namespace Go.Proofs.Ytlambinleegdoaa.Vx
open Go Go.RowKit
set_option linter.unusedVariables false
set_option linter.unusedSimpArgs false
set_option maxRecDepth 100000
theorem bit0 (x : BitVec 32) : (N (x &&& 1#32) == 0) = !x.getLsbD 0 := by
  rw [show (0 : Int) = N 0#32 from rfl, N_beq, Bool.eq_iff_iff]
  simp only [beq_iff_eq, Bool.not_eq_true']
  constructor
  · intro h
    have := congrArg (fun v => v.getLsbD 0) h
    simpa using this
  · intro h
    apply BitVec.eq_of_getLsbD_eq
    intro i hi
    by_cases h0 : i = 0
    · subst h0; rw [BitVec.getLsbD_and, h]; simp
    · simp [h0]
theorem t19 (x : BitVec 32) : op_19 [.n (N x)] = some (0, [.n (N (dn x))]) := by
  show (fn_19 [.n (N x)]).sel = _
  simp only [fn_19]
  have e : iand IntKind.u32 (N x) 1 = N (x &&& 1#32) := iand_u32 x 1#32
  have e1 : ishr IntKind.u32 (N x) 1 = N (x >>> 1) := ishr_u32 x 1
  have e2 : ixor IntKind.u32 (N (x >>> 1)) 3988292384 = N ((x >>> 1) ^^^ last32) := ixor_u32 (x >>> 1) last32
  rw [selB, e, e1, e2, bit0]
  unfold dn
  cases x.getLsbD 0
  · simp [Tree.sel]
  · simp [Tree.sel]
theorem isK1 (x : Int) : isK 0 [HK.n] (some (0, [.n x])) = true := rfl
theorem len_ok {n : Nat} {i : Nat} (h : i < n) (hn : n ≤ 9223372036854775807) : IntKind.wrap .i64 ((i : Int) + 1) = ((i + 1 : Nat) : Int) := by
  rw [w64 (by omega) (by omega)]; omega
/-- The number behind some bytes. -/
theorem t12L (b : List Int) (hb : b.length ≤ 9223372036854775807) : op_L12_3 [.n (N 0xFFFFFFFF#32), .l TB (ofI b), .n b.length, .n ((0 : Nat) : Int)] = some (0, [.n (N (go 0xFFFFFFFF#32 b))]) := by
  refine iter_count (st := fn_L12_3) (fun i => [.n (N (go 0xFFFFFFFF#32 (b.take i))), .l TB (ofI b), .n b.length, .n (i : Int)]) b.length (0, [.n (N (go 0xFFFFFFFF#32 b))]) ?_ ?_ FU (lt_FU hb)
  · intro i hi
    simp only [fn_L12_3, den_len, den_getD2]
    refine (selT (dt (by omega))).trans ((selT (inR_true (by omega) (by omega))).trans ?_)
    simp only [wrapN_u32, ixor_u32, t19, dOf_some, gn0, isK1, cond_true, len_ok hi hb, Tree.sel]
    rw [take_getD (d := (0 : Int)) hi, go_append]
    rfl
  · rw [List.take_length]
    simp only [fn_L12_3, den_len]
    exact selF (df (Int.lt_irrefl _))
def Sm (b : List Int) : BitVec 32 := 0xFFFFFFFF#32 ^^^ go 0xFFFFFFFF#32 b
theorem t12 (b : List Int) (hb : b.length ≤ 9223372036854775807) : op_12 [.l TB (ofI b)] = some (0, [.n (N (Sm b))]) := by
  show (fn_12 [.l TB (ofI b)]).sel = _
  have e' : op_L12_3 [.n 4294967295, .l TB (ofI b), .n b.length, .n 0] = some (0, [.n (N (go 0xFFFFFFFF#32 b))]) := t12L b hb
  simp only [fn_12, den_len]
  rw [e']
  simp only [dOf_some, gn0, isK1, cond_true, Tree.sel]
  have := ixor_u32 0xFFFFFFFF#32 (go 0xFFFFFFFF#32 b)
  rw [show (4294967295 : Int) = N 0xFFFFFFFF#32 from rfl, this]
  rfl
/-- What a byte's change does, so many bytes ahead of the end. -/
def chg (d : BitVec 8) (k : Nat) : BitVec 32 := dnN (8 * (k + 1)) (d.setWidth 32)
/-- The table's row. -/
theorem bitk (u : BitVec 8) (k : Nat) : (iand IntKind.u8 (ishr IntKind.u8 (N u) (k : Int)) 1 == 1) = u.getLsbD k := by
  rw [ishr_u8, show (1 : Int) = N 1#8 from rfl, iand_u8, N_beq, Bool.eq_iff_iff]
  simp only [beq_iff_eq]
  constructor
  · intro h
    have := congrArg (fun v => v.getLsbD 0) h
    simpa using this
  · intro h
    apply BitVec.eq_of_getLsbD_eq
    intro i hi
    by_cases h0 : i = 0
    · subst h0; rw [BitVec.getLsbD_and, BitVec.getLsbD_ushiftRight]; simp [h]
    · rw [BitVec.getLsbD_and]; simp [h0]
theorem isK4 (x y : Int) (l m : List Int) : isK 0 [HK.n, HK.l TB, HK.n, HK.l TN] (some (0, [.n x, .l TB (ofI l), .n y, .l TN (ofI m)])) = true := rfl
theorem e8_in (k : Nat) (hk : k < 8) : List.getD E8 k 0 = N (BitVec.ofInt 32 (List.getD E8 k 0)) := by
  rcases k with _ | _ | _ | _ | _ | _ | _ | _ | k <;> first | rfl | omega
theorem t20L (n : BitVec 32) (b : List Int) (i : Int) (u : BitVec 8) : op_L20_8 [.k 0, .n (N n), .l TB (ofI b), .n i, .n (N u), .n ((0 : Nat) : Int), .l TN (ofI E8)] = some (0, [.n (N (n ^^^ tab u 8)), .l TB (ofI b), .n i, .l TN (ofI E8)]) := by
  have := iter_count (st := fn_L20_8) (fun k => [.k 0, .n (N (n ^^^ tab u k)), .l TB (ofI b), .n i, .n (N u), .n (k : Int), .l TN (ofI E8)]) 8 (0, [.n (N (n ^^^ tab u 8)), .l TB (ofI b), .n i, .l TN (ofI E8)]) ?_ ?_ FU (by unfold FU; omega)
  · simp only [tab, BitVec.xor_zero] at this
    simp only [tab]
    exact this
  · intro k hk
    simp only [fn_L20_8, fn_L20_8_0, den_len, den_getD2]
    refine (selT (dt (by omega))).trans ((selT (nf (df (by omega)))).trans ?_)
    rw [selB, bitk]
    have e0 : IntKind.wrap .i64 ((k : Int) + 1) = ((k + 1 : Nat) : Int) := by rw [w64 (by omega) (by omega)]; omega
    cases h : u.getLsbD k with
    | true =>
      refine (selT (inR_true (by omega) (by show (k : Int) < ((8 : Nat) : Int); omega))).trans ?_
      rw [e0, show ((k : Int)).toNat = k from rfl, e8_in k hk, ixor_u32]
      simp only [tab, h, if_true, Tree.sel, BitVec.xor_assoc]
    | false =>
      rw [e0]
      simp only [tab, h, Bool.false_eq_true, if_false, Tree.sel, cond_false, BitVec.xor_zero]
  · simp only [fn_L20_8, fn_L20_8_0]
    exact selF (df (by omega))
theorem t20M (n : BitVec 32) (b : List Int) (hb : b.length ≤ 9223372036854775807) (hr : ∀ x ∈ b, 0 ≤ x ∧ x < 256) : op_L20_3 [.k 0, .n (N n), .l TB (ofI b), .n ((0 : Nat) : Int), .l TN (ofI E8)] = some (0, [.n (N (go n b))]) := by
  refine iter_count (st := fn_L20_3) (fun i => [.k 0, .n (N (go n (b.take i))), .l TB (ofI b), .n (i : Int), .l TN (ofI E8)]) b.length (0, [.n (N (go n b))]) ?_ ?_ FU (lt_FU hb)
  · intro i hi
    simp only [fn_L20_3, fn_L20_3_0, den_len, den_getD2]
    refine (selT (dt (by omega))).trans ((selT (inR_true (by omega) (by omega))).trans ?_)
    have hx := hr _ (getD_mem (d := (0 : Int)) hi)
    rw [show ((i : Int)).toNat = i from rfl]
    have ex : List.getD b i 0 = N (BitVec.ofInt 8 (List.getD b i 0)) := (N_of hx.1 hx.2).symm
    have e8 : ishr IntKind.u32 (N (go n (b.take i))) 8 = N (go n (b.take i) >>> 8) := ishr_u32 _ 8
    rw [e8, wrapN_u8, ofInt_low, ex, ixor_u8]
    rw [show op_L20_8 [.k 0, .n (N (go n (b.take i) >>> 8)), .l TB (ofI b), .n (i : Int), .n (N ((go n (b.take i)).setWidth 8 ^^^ BitVec.ofInt 8 (List.getD b i 0))), .n 0, .l TN (ofI E8)] = _ from t20L _ _ _ _]
    simp only [dOf_some, gn0, gn2, gl1, gl3, isK4, selB, cond_true, len_ok hi hb, Tree.sel]
    rw [take_getD (d := (0 : Int)) hi, go_append, go_cons, go_nil, byte_in _ hx.1 hx.2]
  · rw [List.take_length]
    simp only [fn_L20_3, fn_L20_3_0, den_len]
    exact selF (df (Int.lt_irrefl _))
theorem t13 (b : List Int) (hb : b.length ≤ 9223372036854775807) (hr : ∀ x ∈ b, 0 ≤ x ∧ x < 256) : op_13 [.l TB (ofI b)] = some (0, [.n (N (Sm b))]) := by
  have e20 : op_20 [.n (N 0xFFFFFFFF#32), .l TB (ofI b)] = some (0, [.n (N (go 0xFFFFFFFF#32 b))]) := by
    show (fn_20 [.n (N 0xFFFFFFFF#32), .l TB (ofI b)]).sel = _
    have e := t20M 0xFFFFFFFF#32 b hb hr
    exact (selT (congrArg (isK 0 [HK.n]) e)).trans (congrArg (fun r => some (0, [Dat.n (gn (dOf r) 0)])) e)
  show (fn_13 [.l TB (ofI b)]).sel = _
  simp only [fn_13]
  rw [show op_20 [.n 4294967295, .l TB (ofI b)] = _ from e20]
  simp only [dOf_some, gn0, isK1, cond_true, Tree.sel]
  have := ixor_u32 0xFFFFFFFF#32 (go 0xFFFFFFFF#32 b)
  rw [show (4294967295 : Int) = N 0xFFFFFFFF#32 from rfl, this]
  rfl
end Go.Proofs.Ytlambinleegdoaa.Vx
namespace Go.Proofs.Ytlambinleegdoaa.Vx
open Go Go.RowKit
set_option linter.unusedVariables false
set_option linter.unusedSimpArgs false
set_option linter.unusedSimpArgs false
set_option maxRecDepth 100000
set_option maxHeartbeats 1000000
def Wb (l : List Int) : Prop := ∀ b ∈ l, 0 ≤ b ∧ b < 256
theorem wu64 (x : Int) : IntKind.wrap .u64 x = x % 18446744073709551616 := by unfold IntKind.wrap; simp [IntKind.bits, IntKind.signed]
theorem wu8 (x : Int) : IntKind.wrap .u8 x = x % 256 := by unfold IntKind.wrap; simp [IntKind.bits, IntKind.signed]
theorem wu16 (x : Int) : IntKind.wrap .u16 x = x % 65536 := by unfold IntKind.wrap; simp [IntKind.bits, IntKind.signed]
theorem wu32 (x : Int) : IntKind.wrap .u32 x = x % 4294967296 := by unfold IntKind.wrap; simp [IntKind.bits, IntKind.signed]
theorem t31g (l : List (Ty.den TB)) (h : okc_31 l = true) : op_31 [.l TB l] = some (0, [.l TB l]) := by
  show (match castL TB TB l with | some l => bif okc_31 l then some (0, [Dat.l TB l]) else none | none => none) = _
  rw [castL_self]
  show (bif okc_31 l then some (0, [Dat.l TB l]) else none) = _
  rw [h]; rfl
theorem t31 {l : List Int} (h : l.length ≤ 140737488355328) : op_31 [.l TB l] = some (0, [.l TB l]) :=
  t31g l (by unfold okc_31; exact decide_eq_true (show (0 + l.length) * 1 ≤ 140737488355328 by omega))
def byt (n : Int) (k : Nat) : Int := IntKind.wrap .u8 (ishr .u64 n (8 * (k : Int)))
def bes (n : Int) : Nat → List Int
  | 0 => []
  | k + 1 => byt n k :: bes n k
theorem be_len (n : Int) : ∀ k, (bes n k).length = k
  | 0 => rfl
  | k + 1 => by rw [bes, List.length_cons, be_len n k]
theorem be_wb (n : Int) : ∀ k, Wb (bes n k)
  | 0 => fun b hb => by simp [bes] at hb
  | k + 1 => fun b hb => by
    rw [bes, List.mem_cons] at hb
    rcases hb with rfl | hb
    · unfold byt; rw [wu8]; omega
    · exact be_wb n k b hb
theorem lp30 (n : Int) : ∀ (k : Nat) (l : List Int) (f : Nat), k ≤ 8 → l.length + k ≤ 1000000 → k < f → iterS st_L30_3 f [.k 0, .n n, .n ((k : Int) - 1), .l TB l] = some (0, [.l TB (l ++ bes n k)])
  | _, _, 0, _, _, h => by omega
  | 0, l, f + 1, h, hl, hf => by
    have e : (st_L30_3 [.k 0, .n n, .n (((0 : Nat) : Int) - 1), .l TB l]).sel = some (.stop 0 [.l TB l]) := by
      refine fn_L30_3_t_im n _ l _ ?_
      unfold fn_L30_3_t
      exact sel_f (decide_eq_false (by omega)) rfl
    unfold iterS
    rw [e]
    show some (0, [Dat.l TB l]) = some (0, [Dat.l TB (l ++ bes n 0)])
    rw [bes, List.append_nil]
  | k + 1, l, f + 1, h, hl, hf => by
    have w8 : IntKind.wrap .i64 (8 * (((k + 1 : Nat) : Int) - 1)) = 8 * (k : Int) := by rw [w64d]; omega
    have w1 : IntKind.wrap .i64 ((((k + 1 : Nat) : Int) - 1) - 1) = (k : Int) - 1 := by rw [w64d]; omega
    have e : (st_L30_3 [.k 0, .n n, .n (((k + 1 : Nat) : Int) - 1), .l TB l]).sel = some (.go [.k 0, .n n, .n ((k : Int) - 1), .l TB (l ++ [byt n k])]) := by
      refine fn_L30_3_t_im n _ l _ ?_
      unfold fn_L30_3_t
      refine sel_t (decide_eq_true (by omega)) (sel_t (by rw [w8]; simp; omega) (sel_t (decide_eq_true (show (l.length + 1) * 1 ≤ 140737488355328 by omega)) ?_))
      show some (Step.go [.k 0, .n n, .n (IntKind.wrap .i64 ((((k + 1 : Nat) : Int) - 1) - 1)), .l TB (l ++ [IntKind.wrap .u8 (ishr .u64 n (IntKind.wrap .i64 (8 * (((k + 1 : Nat) : Int) - 1))))])]) = _
      rw [w8, w1]; rfl
    unfold iterS
    rw [e]
    have ih := lp30 n k (l ++ [byt n k]) f (by omega) (by rw [List.length_append]; simp; omega) (by omega)
    rw [List.append_assoc] at ih
    exact ih
theorem t30 (n : Int) (w : Nat) (h : w ≤ 8) : op_30 [.n n, .n (w : Int)] = some (0, [.l TB (bes n w)]) := by
  have w1 : IntKind.wrap .i64 ((w : Int) - 1) = (w : Int) - 1 := by rw [w64d]; omega
  have e : op_L30_3 [.k 0, .n n, .n (IntKind.wrap .i64 ((w : Int) - 1)), .l TB ([] : List Int)] = some (0, [.l TB (bes n w)]) := by
    rw [w1, op_L30_3_eq]
    exact lp30 n w [] FU h (by simp; omega) (by unfold FU; omega)
  rw [op_30_eq]
  refine fn_30_t_im n w _ ?_
  unfold fn_30_t
  exact sel_t (by erw [e]; rfl) (by erw [e]; rfl)
theorem lp35b (n : Int) (w : Nat) (hw : w ≤ 8) : ∀ (k : Nat) (l : List Int) (f : Nat), k ≤ w → l.length + k ≤ 1000000 → k < f → iterS st_L35b_1 f [.k 0, .n n, .n (w : Int), .n (w : Int), .n ((w : Int) - k), .l TB l] = some (0, [.l TB (l ++ bes n k)])
  | _, _, 0, _, _, h => by omega
  | 0, l, f + 1, h, hl, hf => by
    have e : (st_L35b_1 [.k 0, .n n, .n (w : Int), .n (w : Int), .n ((w : Int) - ((0 : Nat) : Int)), .l TB l]).sel = some (.stop 0 [.l TB l]) := by
      refine fn_L35b_1_o_im n _ _ _ l _ ?_
      unfold fn_L35b_1_o
      exact sel_f (decide_eq_false (by omega)) rfl
    unfold iterS
    rw [e]
    show some (0, [Dat.l TB l]) = some (0, [Dat.l TB (l ++ bes n 0)])
    rw [bes, List.append_nil]
  | k + 1, l, f + 1, h, hl, hf => by
    have w8 : IntKind.wrap .i64 (8 * IntKind.wrap .i64 (IntKind.wrap .i64 ((w : Int) - 1) - ((w : Int) - ((k + 1 : Nat) : Int)))) = 8 * (k : Int) := by simp only [w64d]; omega
    have w1 : IntKind.wrap .i64 ((w : Int) - ((k + 1 : Nat) : Int) + 1) = (w : Int) - (k : Int) := by rw [w64d]; omega
    have e : (st_L35b_1 [.k 0, .n n, .n (w : Int), .n (w : Int), .n ((w : Int) - ((k + 1 : Nat) : Int)), .l TB l]).sel = some (.go [.k 0, .n n, .n (w : Int), .n (w : Int), .n ((w : Int) - (k : Int)), .l TB (l ++ [byt n k])]) := by
      refine fn_L35b_1_o_im n _ _ _ l _ ?_
      unfold fn_L35b_1_o
      refine sel_t (decide_eq_true (by omega)) (sel_t (by rw [w8]; simp; omega) (sel_t (decide_eq_true (show (l.length + 1) * 1 ≤ 140737488355328 by omega)) ?_))
      show some (Step.go [.k 0, .n n, .n (w : Int), .n (w : Int), .n (IntKind.wrap .i64 ((w : Int) - ((k + 1 : Nat) : Int) + 1)), .l TB (l ++ [IntKind.wrap .u8 (ishr .u64 n (IntKind.wrap .i64 (8 * IntKind.wrap .i64 (IntKind.wrap .i64 ((w : Int) - 1) - ((w : Int) - ((k + 1 : Nat) : Int))))))])]) = _
      rw [w8, w1]; rfl
    unfold iterS
    rw [e]
    have ih := lp35b n w hw k (l ++ [byt n k]) f (by omega) (by rw [List.length_append]; simp; omega) (by omega)
    rw [List.append_assoc] at ih
    exact ih
theorem lp35a (n : Int) (w : Nat) (hw : w ≤ 8) : ∀ (k : Nat) (l : List Int) (f : Nat), k ≤ w → l.length + k ≤ 1000000 → k < f → iterS st_L35a_1 f [.k 1, .n n, .n (w : Int), .n (w : Int), .n ((w : Int) - k), .l TB l] = some (1, [.l TB (l ++ bes n k)])
  | _, _, 0, _, _, h => by omega
  | 0, l, f + 1, h, hl, hf => by
    have e : (st_L35a_1 [.k 1, .n n, .n (w : Int), .n (w : Int), .n ((w : Int) - ((0 : Nat) : Int)), .l TB l]).sel = some (.stop 1 [.l TB l]) := by
      refine fn_L35a_1_o_im n _ _ _ l _ ?_
      unfold fn_L35a_1_o
      exact sel_f (decide_eq_false (by omega)) rfl
    unfold iterS
    rw [e]
    show some (1, [Dat.l TB l]) = some (1, [Dat.l TB (l ++ bes n 0)])
    rw [bes, List.append_nil]
  | k + 1, l, f + 1, h, hl, hf => by
    have w8 : IntKind.wrap .i64 (8 * IntKind.wrap .i64 (IntKind.wrap .i64 ((w : Int) - 1) - ((w : Int) - ((k + 1 : Nat) : Int)))) = 8 * (k : Int) := by simp only [w64d]; omega
    have w1 : IntKind.wrap .i64 ((w : Int) - ((k + 1 : Nat) : Int) + 1) = (w : Int) - (k : Int) := by rw [w64d]; omega
    have e : (st_L35a_1 [.k 1, .n n, .n (w : Int), .n (w : Int), .n ((w : Int) - ((k + 1 : Nat) : Int)), .l TB l]).sel = some (.go [.k 1, .n n, .n (w : Int), .n (w : Int), .n ((w : Int) - (k : Int)), .l TB (l ++ [byt n k])]) := by
      refine fn_L35a_1_o_im n _ _ _ l _ ?_
      unfold fn_L35a_1_o
      refine sel_t (decide_eq_true (by omega)) (sel_t (by rw [w8]; simp; omega) (sel_t (decide_eq_true (show (l.length + 1) * 1 ≤ 140737488355328 by omega)) ?_))
      show some (Step.go [.k 1, .n n, .n (w : Int), .n (w : Int), .n (IntKind.wrap .i64 ((w : Int) - ((k + 1 : Nat) : Int) + 1)), .l TB (l ++ [IntKind.wrap .u8 (ishr .u64 n (IntKind.wrap .i64 (8 * IntKind.wrap .i64 (IntKind.wrap .i64 ((w : Int) - 1) - ((w : Int) - ((k + 1 : Nat) : Int))))))])]) = _
      rw [w8, w1]; rfl
    unfold iterS
    rw [e]
    have ih := lp35a n w hw k (l ++ [byt n k]) f (by omega) (by rw [List.length_append]; simp; omega) (by omega)
    rw [List.append_assoc] at ih
    exact ih
theorem t35b (n : Int) (w : Nat) (h : w ≤ 8) (l : List Int) (hl : l.length ≤ 999000) : op_35b [.n n, .n (w : Int), .l TB l] = some (0, [.l TB (l ++ bes n w)]) := by
  have e : op_L35b_1 [.k 0, .n n, .n (w : Int), .n (w : Int), .n 0, .l TB l] = some (0, [.l TB (l ++ bes n w)]) := by
    rw [op_L35b_1_eq]
    have := lp35b n w h w l FU (Nat.le_refl _) (by omega) (by unfold FU; omega)
    rw [show (w : Int) - (w : Int) = 0 by omega] at this
    exact this
  rw [op_35b_eq]
  refine fn_35b_t_im n w l _ ?_
  unfold fn_35b_t
  exact sel_t (by erw [e]; rfl) (by erw [e]; rfl)
theorem t35a (n : Int) (w : Nat) (h : w ≤ 8) (h1 : 1 ≤ w) : op_35a [.n n, .n (w : Int)] = some (1, [.l TB (bes n w)]) := by
  obtain ⟨k, rfl⟩ : ∃ k, w = k + 1 := ⟨w - 1, by omega⟩
  have e : op_L35a_1 [.k 0, .n n, .n ((k + 1 : Nat) : Int), .n ((k + 1 : Nat) : Int), .n 0] = some (1, [.l TB (bes n (k + 1))]) := by
    have w8 : IntKind.wrap .i64 (8 * IntKind.wrap .i64 (IntKind.wrap .i64 (((k + 1 : Nat) : Int) - 1) - 0)) = 8 * (k : Int) := by simp only [w64d]; omega
    have w1 : IntKind.wrap .i64 ((0 : Int) + 1) = ((k + 1 : Nat) : Int) - (k : Int) := by rw [w64d]; omega
    have e : (st_L35a_1 [.k 0, .n n, .n ((k + 1 : Nat) : Int), .n ((k + 1 : Nat) : Int), .n 0]).sel = some (.go [.k 1, .n n, .n ((k + 1 : Nat) : Int), .n ((k + 1 : Nat) : Int), .n (((k + 1 : Nat) : Int) - (k : Int)), .l TB [byt n k]]) := by
      refine fn_L35a_1_n_im n _ _ _ _ ?_
      unfold fn_L35a_1_n
      refine sel_t (decide_eq_true (by omega)) (sel_t (by rw [w8]; simp; omega) ?_)
      show some (Step.go [.k 1, .n n, .n ((k + 1 : Nat) : Int), .n ((k + 1 : Nat) : Int), .n (IntKind.wrap .i64 ((0 : Int) + 1)), .l TB [IntKind.wrap .u8 (ishr .u64 n (IntKind.wrap .i64 (8 * IntKind.wrap .i64 (IntKind.wrap .i64 (((k + 1 : Nat) : Int) - 1) - 0))))]]) = _
      rw [w8, w1]; rfl
    rw [op_L35a_1_eq, show FU = 18446744073709551615 + 1 from rfl]
    unfold iterS
    rw [e]
    exact lp35a n (k + 1) h k [byt n k] 18446744073709551615 (by omega) (by simp; omega) (by omega)
  rw [op_35a_eq]
  refine fn_35a_t_im n _ _ ?_
  unfold fn_35a_t
  exact sel_f (by erw [e]; rfl) (sel_t (by erw [e]; rfl) (by erw [e]; rfl))
/-! ### crc -/
theorem q12 (l : List Int) (hl : l.length ≤ 1000000) : op_q12 [.l TB l] = some (0, [.n (N (Sm l))]) := by
  rw [op_q12_eq]; exact t12 l (by omega)
theorem q13 (l : List Int) (hl : l.length ≤ 1000000) (hw : Wb l) : op_q13 [.l TB l] = some (0, [.n (N (Sm l))]) := by
  rw [op_q13_eq]; exact t13 l (by omega) hw
/-! ### within -/
def win (m : Int) (l : List Int) : Bool := l.all fun x => !decide (x < 0) && !decide (x > m)
theorem drop_getD {l : List Int} {i : Nat} (h : i < l.length) : l.drop i = l.getD i 0 :: l.drop (i + 1) := by
  rw [List.drop_eq_getElem_cons h, List.getD_eq_getElem?_getD, List.getElem?_eq_getElem h]; rfl
theorem lp80 (m : Int) (l : List Int) (hl : l.length ≤ 1000000) : ∀ (k i f : Nat), i + k = l.length → k < f → iterS st_L80_2 f [.k 0, .n m, .l TI l, .n (l.length : Int), .n (i : Int)] = (bif win m (l.drop i) then some (0, []) else some (1, [.b false]))
  | _, _, 0, _, h => by omega
  | 0, i, f + 1, hi, hf => by
    have e : (st_L80_2 [.k 0, .n m, .l TI l, .n (l.length : Int), .n (i : Int)]).sel = some (.stop 0 []) := by
      refine fn_L80_2_t_im m l _ _ (by omega) rfl _ ?_
      unfold fn_L80_2_t
      exact sel_f (decide_eq_false (show ¬ ((i : Int) < (l.length : Int)) by omega)) rfl
    unfold iterS
    rw [e, List.drop_eq_nil_of_le (by omega)]
    rfl
  | k + 1, i, f + 1, hi, hf => by
    have w : IntKind.wrap .i64 ((i : Int) + 1) = ((i + 1 : Nat) : Int) := by rw [w64d]; omega
    rw [drop_getD (show i < l.length by omega)]
    by_cases h1 : l.getD i 0 < 0
    · have e : (st_L80_2 [.k 0, .n m, .l TI l, .n (l.length : Int), .n (i : Int)]).sel = some (.stop 1 [.b false]) := by
        refine fn_L80_2_t_im m l _ _ (by omega) rfl _ ?_
        unfold fn_L80_2_t
        exact sel_t (decide_eq_true (show (i : Int) < (l.length : Int) by omega)) (sel_t (decide_eq_true h1) rfl)
      unfold iterS
      have hw : win m (l.getD i 0 :: l.drop (i + 1)) = false := by unfold win; rw [List.all_cons, decide_eq_true h1]; rfl
      rw [e, hw]
      rfl
    · by_cases h2 : l.getD i 0 > m
      · have e : (st_L80_2 [.k 0, .n m, .l TI l, .n (l.length : Int), .n (i : Int)]).sel = some (.stop 1 [.b false]) := by
          refine fn_L80_2_t_im m l _ _ (by omega) rfl _ ?_
          unfold fn_L80_2_t
          exact sel_t (decide_eq_true (show (i : Int) < (l.length : Int) by omega)) (sel_f (decide_eq_false h1) (sel_t (decide_eq_true h2) rfl))
        unfold iterS
        have hw : win m (l.getD i 0 :: l.drop (i + 1)) = false := by unfold win; rw [List.all_cons, decide_eq_false h1, decide_eq_true h2]; rfl
        rw [e, hw]
        rfl
      · have e : (st_L80_2 [.k 0, .n m, .l TI l, .n (l.length : Int), .n (i : Int)]).sel = some (.go [.k 0, .n m, .l TI l, .n (l.length : Int), .n ((i + 1 : Nat) : Int)]) := by
          refine fn_L80_2_t_im m l _ _ (by omega) rfl _ ?_
          unfold fn_L80_2_t
          refine sel_t (decide_eq_true (show (i : Int) < (l.length : Int) by omega)) (sel_f (decide_eq_false h1) (sel_f (decide_eq_false h2) ?_))
          rw [w]; rfl
        unfold iterS
        rw [e]
        have ih := lp80 m l hl k (i + 1) f (by omega) (by omega)
        have hw : win m (l.getD i 0 :: l.drop (i + 1)) = win m (l.drop (i + 1)) := by
          unfold win; rw [List.all_cons, decide_eq_false h1, decide_eq_false h2]; rfl
        rw [hw]
        exact ih
theorem t80 (m : Int) (l : List Int) (hl : l.length ≤ 1000000) : op_80 [.n m, .l TI l] = some (0, [.b (win m l)]) := by
  have e : op_L80_2 [.k 0, .n m, .l TI l, .n (l.length : Int), .n 0] = (bif win m l then some (0, []) else some (1, [.b false])) := by
    rw [op_L80_2_eq]
    exact lp80 m l hl l.length 0 FU (by omega) (by unfold FU; omega)
  rw [op_80_eq]
  refine fn_80_t_im m l _ ?_
  unfold fn_80_t
  cases h : win m l with
  | true =>
    rw [h] at e
    exact sel_t (by erw [e]; rfl) rfl
  | false =>
    rw [h] at e
    exact sel_f (by erw [e]; rfl) (sel_t (by erw [e]; rfl) (by erw [e]; rfl))
/-! ### longs -/
def lgs (l : List Int) : List Int := l.flatMap fun n => bes n 8
theorem lgs_len (l : List Int) : (lgs l).length = 8 * l.length := by
  induction l with
  | nil => rfl
  | cons a l ih => unfold lgs at *; rw [List.flatMap_cons, List.length_append, be_len, ih, List.length_cons]; omega
theorem lp88 (ns : List Int) (hn : ns.length ≤ 1000) : ∀ (k i : Nat) (l : List Int) (f : Nat), i + k = ns.length → l.length + 8 * k ≤ 990000 → k < f → iterS st_L88_1 f [.k 0, .n (ns.length : Int), .n (i : Int), .l TL ns, .l TB l] = some (0, [.l TB (l ++ lgs (ns.drop i))])
  | _, _, _, 0, _, _, h => by omega
  | 0, i, l, f + 1, hi, hl, hf => by
    have e : (st_L88_1 [.k 0, .n (ns.length : Int), .n (i : Int), .l TL ns, .l TB l]).sel = some (.stop 0 [.l TB l]) := by
      refine fn_L88_1_t_im _ _ ns l (by omega) rfl _ ?_
      unfold fn_L88_1_t
      exact sel_f (decide_eq_false (show ¬ ((i : Int) < (ns.length : Int)) by omega)) rfl
    unfold iterS
    rw [e, List.drop_eq_nil_of_le (by omega)]
    exact congrArg (fun z : List Int => some (0, [Dat.l TB z])) (List.append_nil l).symm
  | k + 1, i, l, f + 1, hi, hl, hf => by
    have w : IntKind.wrap .i64 ((i : Int) + 1) = ((i + 1 : Nat) : Int) := by rw [w64d]; omega
    have e1 := t35b (ns.getD i 0) 8 (by omega) l (by omega)
    have e : (st_L88_1 [.k 0, .n (ns.length : Int), .n (i : Int), .l TL ns, .l TB l]).sel = some (.go [.k 0, .n (ns.length : Int), .n ((i + 1 : Nat) : Int), .l TL ns, .l TB (l ++ bes (ns.getD i 0) 8)]) := by
      refine fn_L88_1_t_im _ _ ns l (by omega) rfl _ ?_
      unfold fn_L88_1_t
      refine sel_t (decide_eq_true (show (i : Int) < (ns.length : Int) by omega)) (sel_t (by erw [e1]; rfl) ?_)
      erw [e1]
      rw [w]; rfl
    unfold iterS
    rw [e]
    have ih := lp88 ns hn k (i + 1) (l ++ bes (ns.getD i 0) 8) f (by omega) (by rw [List.length_append, be_len]; omega) (by omega)
    rw [drop_getD (show i < ns.length by omega)]
    have hc : lgs (ns.getD i 0 :: ns.drop (i + 1)) = bes (ns.getD i 0) 8 ++ lgs (ns.drop (i + 1)) := rfl
    rw [hc, ← List.append_assoc]
    exact ih
theorem t88 (ns l : List Int) (hn : ns.length ≤ 1000) (hl : l.length + 8 * ns.length ≤ 990000) : op_88 [.l TL ns, .l TB l] = some (0, [.l TB (l ++ lgs ns)]) := by
  have e : op_L88_1 [.k 0, .n (ns.length : Int), .n 0, .l TL ns, .l TB l] = some (0, [.l TB (l ++ lgs ns)]) := by
    rw [op_L88_1_eq]
    exact lp88 ns hn ns.length 0 l FU (by omega) (by omega) (by unfold FU; omega)
  rw [op_88_eq]
  refine fn_88_t_im ns l _ ?_
  unfold fn_88_t
  exact sel_t (by erw [e]; rfl) (by erw [e]; rfl)
end Go.Proofs.Ytlambinleegdoaa.Vx
namespace Go.Proofs.Ytlambinleegdoaa.Vx
open Go Go.RowKit
set_option linter.unusedVariables false
set_option linter.unusedSimpArgs false
set_option linter.unusedSimpArgs false
set_option maxRecDepth 100000
set_option maxHeartbeats 1000000
def chk (l : List Int) : List Int := l ++ bes (IntKind.wrap .u64 (N (Sm l))) 4
theorem chk_len (l : List Int) : (chk l).length = l.length + 4 := by unfold chk; rw [List.length_append, be_len]
theorem bes1 {c : Int} (h0 : 0 ≤ c) (h1 : c < 256) : bes (IntKind.wrap .u64 c) 1 = [c] := by
  have e : IntKind.wrap .u64 c = c := by rw [wu64]; omega
  rw [e]
  show [IntKind.wrap .u8 (ishr .u64 c (8 * ((0 : Nat) : Int)))] = [c]
  have e2 : ishr .u64 c (8 * ((0 : Nat) : Int)) = c := by
    rw [show (8 * ((0 : Nat) : Int)) = 0 from rfl]
    unfold ishr; simp
  rw [e2, wu8]
  congr 1
  omega
def outB (c y p q u : Int) : List Int := [2, c] ++ bes (IntKind.wrap .u64 y) 8 ++ bes (IntKind.wrap .u64 p) 8 ++ bes q 8 ++ bes (IntKind.wrap .u64 u) 4
theorem outB_len (c y p q u : Int) : (outB c y p q u).length = 30 := by unfold outB; simp only [List.length_append, be_len]; rfl
theorem p10 (c y p q u : Int) (h0 : 0 ≤ c) (h1 : c < 256) : op_10p [.n c, .n y, .n p, .n q, .n u] = some (0, [.l TB (bif win 1099511627776 [y, p] then chk (outB c y p q u) else [])]) := by
  have hb : bes 2 1 ++ bes (IntKind.wrap .u64 c) 1 ++ lgs [IntKind.wrap .u64 y, IntKind.wrap .u64 p, q] ++ bes (IntKind.wrap .u64 u) 4 = outB c y p q u := by
    rw [bes1 h0 h1]
    unfold outB lgs
    simp only [List.flatMap_cons, List.flatMap_nil, List.append_assoc, List.append_nil]
    rfl
  have hl := outB_len c y p q u
  have e1 := t80 1099511627776 [y, p] (by simp)
  have e2 := t35a 2 1 (by omega) (by omega)
  have e3 := t35b (IntKind.wrap .u64 c) 1 (by omega) (bes 2 1) (by rw [be_len]; omega)
  have e4 := t88 [IntKind.wrap .u64 y, IntKind.wrap .u64 p, q] (bes 2 1 ++ bes (IntKind.wrap .u64 c) 1) (by simp) (by simp [be_len])
  have e5 := t35b (IntKind.wrap .u64 u) 4 (by omega) (bes 2 1 ++ bes (IntKind.wrap .u64 c) 1 ++ lgs [IntKind.wrap .u64 y, IntKind.wrap .u64 p, q]) (by simp [be_len, lgs_len])
  rw [hb] at e5
  have e6 := t31 (l := outB c y p q u) (by omega)
  have e7 := q12 (outB c y p q u) (by omega)
  have e8 := t35b (IntKind.wrap .u64 (N (Sm (outB c y p q u)))) 4 (by omega) (outB c y p q u) (by omega)
  have e9 := t31 (l := chk (outB c y p q u)) (by rw [chk_len]; omega)
  rw [op_10p_eq]
  refine fn_10p_t_im _ _ _ _ _ _ ?_
  unfold fn_10p_t
  dsimp only
  erw [e1]
  cases hw : win 1099511627776 [y, p] with
  | false => rfl
  | true =>
    refine sel_t rfl (sel_t rfl ?_)
    erw [e2]
    refine sel_f rfl (sel_t rfl ?_)
    erw [e3]
    refine sel_t rfl ?_
    erw [e4]
    refine sel_t rfl ?_
    erw [e5]
    refine sel_t rfl ?_
    erw [e6]
    refine sel_t rfl ?_
    erw [e7]
    refine sel_t rfl ?_
    erw [e8]
    refine sel_t rfl ?_
    erw [e9]
    rfl
theorem outB_wb (c y p q u : Int) (h0 : 0 ≤ c) (h1 : c < 256) : Wb (outB c y p q u) := by
  intro b hb
  unfold outB at hb
  simp only [List.mem_append, List.mem_cons, List.not_mem_nil, or_false] at hb
  rcases hb with ((((rfl | rfl) | hb) | hb) | hb) | hb
  all_goals first | omega | exact be_wb _ _ _ hb | (rcases hb with hb | hb <;> exact be_wb _ _ _ hb)
end Go.Proofs.Ytlambinleegdoaa.Vx
namespace Go.Proofs.Ytlambinleegdoaa.Vx
open Go Go.RowKit
set_option linter.unusedVariables false
set_option linter.unusedSimpArgs false
set_option linter.unusedSimpArgs false
set_option maxRecDepth 100000
set_option maxHeartbeats 1000000
def stL (a b c : Int) (t : List Int) (u : Int) : List Int := bes a 8 ++ bes b 8 ++ bes c 8 ++ t ++ bes (IntKind.wrap .u64 u) 4
theorem stL_len (a b c : Int) (t : List Int) (u : Int) (ht : t.length = 64) : (stL a b c t u).length = 92 := by unfold stL; simp only [List.length_append, be_len, ht]
theorem b3 : bes 3 1 = [3] := rfl
theorem b4 : bes 4 1 = [4] := rfl
theorem b5 : bes 5 1 = [5] := rfl
theorem p11 (a b c : Int) (t : List Int) (u : Int) (ht : t.length = 64) : op_11p [.n a, .n b, .n c, .l TB t, .n u] = some (0, [.l TB (chk (3 :: stL a b c t u))]) := by
  have hb : bes 3 1 ++ lgs [a, b, c] ++ t ++ bes (IntKind.wrap .u64 u) 4 = 3 :: stL a b c t u := by
    rw [b3]
    unfold stL lgs
    simp only [List.flatMap_cons, List.flatMap_nil, List.append_assoc, List.append_nil, List.cons_append, List.nil_append]
  have hl : (3 :: stL a b c t u).length = 93 := by rw [List.length_cons, stL_len a b c t u ht]
  have e1 := t35a 3 1 (by omega) (by omega)
  have e2 := t88 [a, b, c] (bes 3 1) (by simp) (by simp [be_len])
  have e3 := t35b (IntKind.wrap .u64 u) 4 (by omega) (bes 3 1 ++ lgs [a, b, c] ++ t) (by simp [be_len, lgs_len, ht])
  rw [hb] at e3
  have eA := t31 (l := 3 :: stL a b c t u) (by omega)
  have eB := q12 (3 :: stL a b c t u) (by omega)
  have eC := t35b (IntKind.wrap .u64 (N (Sm (3 :: stL a b c t u)))) 4 (by omega) (3 :: stL a b c t u) (by omega)
  have eD := t31 (l := chk (3 :: stL a b c t u)) (by rw [chk_len]; omega)
  rw [op_11p_eq]
  refine fn_11p_t_im _ _ _ _ _ ht _ ?_
  unfold fn_11p_t
  dsimp only
  erw [e1]
  refine sel_f rfl (sel_t rfl ?_)
  erw [e2]
  refine sel_t rfl ?_
  refine sel_t (decide_eq_true (show ((bes 3 1 ++ lgs [a, b, c]).length + t.length) * 1 ≤ 140737488355328 by simp only [List.length_append, lgs_len, be_len, ht, List.length_cons, List.length_nil]; omega)) ?_
  erw [e3]
  refine sel_t rfl ?_
  erw [eA]
  refine sel_t rfl ?_
  erw [eB]
  refine sel_t rfl ?_
  erw [eC]
  refine sel_t rfl ?_
  erw [eD]
  rfl
def logL (e y a b c : Int) (t : List Int) (u : Int) : List Int := [4] ++ bes (IntKind.wrap .u64 e) 8 ++ bes (IntKind.wrap .u64 y) 8 ++ stL a b c t u
theorem logL_len (e y a b c : Int) (t : List Int) (u : Int) (ht : t.length = 64) : (logL e y a b c t u).length = 109 := by unfold logL; simp only [List.length_append, be_len, stL_len a b c t u ht]; rfl
theorem p12 (e y a b c : Int) (t : List Int) (u : Int) (ht : t.length = 64) : op_12p [.n e, .n y, .n a, .n b, .n c, .l TB t, .n u] = some (0, [.l TB (bif win 1099511627776 [e, y] then chk (logL e y a b c t u) else [])]) := by
  have hb : bes 4 1 ++ lgs [IntKind.wrap .u64 e, IntKind.wrap .u64 y] ++ lgs [a, b, c] ++ t ++ bes (IntKind.wrap .u64 u) 4 = logL e y a b c t u := by
    rw [b4]
    unfold logL stL lgs
    simp only [List.flatMap_cons, List.flatMap_nil, List.append_assoc, List.append_nil, List.cons_append, List.nil_append]
  have hl := logL_len e y a b c t u ht
  have e1 := t80 1099511627776 [e, y] (by simp)
  have e2 := t35a 4 1 (by omega) (by omega)
  have e3 := t88 [IntKind.wrap .u64 e, IntKind.wrap .u64 y] (bes 4 1) (by simp) (by simp [be_len])
  have e4 := t88 [a, b, c] (bes 4 1 ++ lgs [IntKind.wrap .u64 e, IntKind.wrap .u64 y]) (by simp) (by simp [be_len, lgs_len])
  have e5 := t35b (IntKind.wrap .u64 u) 4 (by omega) (bes 4 1 ++ lgs [IntKind.wrap .u64 e, IntKind.wrap .u64 y] ++ lgs [a, b, c] ++ t) (by simp [be_len, lgs_len, ht])
  rw [hb] at e5
  have eA := t31 (l := logL e y a b c t u) (by omega)
  have eB := q12 (logL e y a b c t u) (by omega)
  have eC := t35b (IntKind.wrap .u64 (N (Sm (logL e y a b c t u)))) 4 (by omega) (logL e y a b c t u) (by omega)
  have eD := t31 (l := chk (logL e y a b c t u)) (by rw [chk_len]; omega)
  rw [op_12p_eq]
  refine fn_12p_t_im _ _ _ _ _ _ _ ht _ ?_
  unfold fn_12p_t
  dsimp only
  erw [e1]
  cases hw : win 1099511627776 [e, y] with
  | false => rfl
  | true =>
    refine sel_t rfl (sel_t rfl ?_)
    erw [e2]
    refine sel_f rfl (sel_t rfl ?_)
    erw [e3]
    refine sel_t rfl ?_
    erw [e4]
    refine sel_t rfl ?_
    refine sel_t (decide_eq_true (show ((bes 4 1 ++ lgs [IntKind.wrap .u64 e, IntKind.wrap .u64 y] ++ lgs [a, b, c]).length + t.length) * 1 ≤ 140737488355328 by simp only [List.length_append, lgs_len, be_len, ht, List.length_cons, List.length_nil]; omega)) ?_
    erw [e5]
    refine sel_t rfl ?_
    erw [eA]
    refine sel_t rfl ?_
    erw [eB]
    refine sel_t rfl ?_
    erw [eC]
    refine sel_t rfl ?_
    erw [eD]
    rfl
def liL (x y s k : Int) (l : List Int) : List Int := [5, x, y] ++ bes (IntKind.wrap .u64 s) 8 ++ bes (IntKind.wrap .u64 k) 8 ++ bes (IntKind.wrap .u64 (l.length : Int)) 2 ++ l
theorem liL_len (x y s k : Int) (l : List Int) : (liL x y s k l).length = 21 + l.length := by unfold liL; simp only [List.length_append, be_len]; rfl
theorem t60 (x y s k : Int) (l : List Int) : op_60 [.n x, .n y, .n s, .n k, .l TB l] = some (0, [.b (win 4611686018427387904 [s, k] && decide ((l.length : Int) ≤ 2048))]) := by
  have e1 := t80 4611686018427387904 [s, k] (by simp)
  rw [op_60_eq]
  refine fn_60_t_im _ _ _ _ _ _ ?_
  unfold fn_60_t
  dsimp only
  erw [e1]
  cases hw : win 4611686018427387904 [s, k] with
  | false => rfl
  | true => rfl
theorem t71 (x y s k : Int) (l : List Int) (hx : 0 ≤ x ∧ x < 256) (hy : 0 ≤ y ∧ y < 256) (hl : l.length ≤ 2048) : op_71 [.n x, .n y, .n s, .n k, .l TB l, .l TB (bes 5 1)] = some (0, [.l TB (liL x y s k l)]) := by
  have hu : IntKind.wrap .u64 (IntKind.wrap .u16 (l.length : Int)) = IntKind.wrap .u64 (l.length : Int) := by rw [wu16, wu64, wu64]; omega
  have hb : bes 5 1 ++ bes (IntKind.wrap .u64 x) 1 ++ bes (IntKind.wrap .u64 y) 1 ++ lgs [IntKind.wrap .u64 s, IntKind.wrap .u64 k] ++ bes (IntKind.wrap .u64 (IntKind.wrap .u16 (l.length : Int))) 2 ++ l = liL x y s k l := by
    rw [b5, bes1 hx.1 hx.2, bes1 hy.1 hy.2, hu]
    unfold liL lgs
    simp only [List.flatMap_cons, List.flatMap_nil, List.append_assoc, List.append_nil, List.cons_append, List.nil_append]
  have e1 := t35b (IntKind.wrap .u64 x) 1 (by omega) (bes 5 1) (by simp [be_len])
  have e2 := t35b (IntKind.wrap .u64 y) 1 (by omega) (bes 5 1 ++ bes (IntKind.wrap .u64 x) 1) (by simp [be_len])
  have e3 := t88 [IntKind.wrap .u64 s, IntKind.wrap .u64 k] (bes 5 1 ++ bes (IntKind.wrap .u64 x) 1 ++ bes (IntKind.wrap .u64 y) 1) (by simp) (by simp [be_len])
  have e4 := t35b (IntKind.wrap .u64 (IntKind.wrap .u16 (l.length : Int))) 2 (by omega) (bes 5 1 ++ bes (IntKind.wrap .u64 x) 1 ++ bes (IntKind.wrap .u64 y) 1 ++ lgs [IntKind.wrap .u64 s, IntKind.wrap .u64 k]) (by simp [be_len, lgs_len])
  rw [op_71_eq]
  refine fn_71_t_im _ _ _ _ _ _ _ ?_
  unfold fn_71_t
  dsimp only
  erw [e1]
  refine sel_t rfl ?_
  erw [e2]
  refine sel_t rfl ?_
  erw [e3]
  refine sel_t rfl ?_
  erw [e4]
  refine sel_t rfl ?_
  refine sel_t (decide_eq_true (show ((bes 5 1 ++ bes (IntKind.wrap .u64 x) 1 ++ bes (IntKind.wrap .u64 y) 1 ++ lgs [IntKind.wrap .u64 s, IntKind.wrap .u64 k] ++ bes (IntKind.wrap .u64 (IntKind.wrap .u16 (l.length : Int))) 2).length + l.length) * 1 ≤ 140737488355328 by simp only [List.length_append, lgs_len, be_len, List.length_cons, List.length_nil]; omega)) ?_
  exact congrArg (fun z : List Int => some (0, [Dat.l TB z])) hb
theorem p13 (x y s k : Int) (l : List Int) (hx : 0 ≤ x ∧ x < 256) (hy : 0 ≤ y ∧ y < 256) : op_13p [.n x, .n y, .n s, .n k, .l TB l] = some (0, [.l TB (bif win 4611686018427387904 [s, k] && decide ((l.length : Int) ≤ 2048) then chk (liL x y s k l) else [])]) := by
  have e1 := t60 x y s k l
  rw [op_13p_eq]
  refine fn_13p_t_im _ _ _ _ _ _ ?_
  unfold fn_13p_t
  dsimp only
  erw [e1]
  cases hw : win 4611686018427387904 [s, k] && decide ((l.length : Int) ≤ 2048) with
  | false => rfl
  | true =>
    rw [Bool.and_eq_true] at hw
    have h2 := of_decide_eq_true hw.2
    have hn : l.length ≤ 2048 := by omega
    have hl := liL_len x y s k l
    have e2 := t35a 5 1 (by omega) (by omega)
    have e3 := t71 x y s k l hx hy hn
    have eA := t31 (l := liL x y s k l) (by omega)
    have eB := q12 (liL x y s k l) (by omega)
    have eC := t35b (IntKind.wrap .u64 (N (Sm (liL x y s k l)))) 4 (by omega) (liL x y s k l) (by omega)
    have eD := t31 (l := chk (liL x y s k l)) (by rw [chk_len]; omega)
    refine sel_t rfl (sel_t rfl ?_)
    erw [e2]
    refine sel_f rfl (sel_t rfl ?_)
    erw [e3]
    refine sel_t rfl ?_
    erw [eA]
    refine sel_t rfl ?_
    erw [eB]
    refine sel_t rfl ?_
    erw [eC]
    refine sel_t rfl ?_
    erw [eD]
    rfl
end Go.Proofs.Ytlambinleegdoaa.Vx
namespace Go.Proofs.Ytlambinleegdoaa.Vx
open Go Go.RowKit
set_option linter.unusedVariables false
set_option linter.unusedSimpArgs false
set_option linter.unusedSimpArgs false
set_option maxRecDepth 100000
set_option maxHeartbeats 1000000
theorem win2_t {m a b : Int} (h : 0 ≤ a ∧ a ≤ m ∧ 0 ≤ b ∧ b ≤ m) : win m [a, b] = true := by
  unfold win; simp; omega
theorem win2_f {m a b : Int} (h : ¬ (0 ≤ a ∧ a ≤ m ∧ 0 ≤ b ∧ b ≤ m)) : win m [a, b] = false := by
  cases hh : win m [a, b] with
  | false => rfl
  | true => exfalso; apply h; unfold win at hh; simp at hh; omega
theorem ndt {p : Prop} [Decidable p] (h : p) : (!decide p) = false := by rw [decide_eq_true h]; rfl
theorem ndf {p : Prop} [Decidable p] (h : ¬ p) : (!decide p) = true := by rw [decide_eq_false h]; rfl
theorem Wb.app {a b : List Int} (h : Wb a) (k : Wb b) : Wb (a ++ b) := fun x hx => (List.mem_append.1 hx).elim (h x) (k x)
theorem Wb.cons {a : Int} {b : List Int} (h : 0 ≤ a ∧ a < 256) (k : Wb b) : Wb (a :: b) := fun x hx => (List.mem_cons.1 hx).elim (fun e => e ▸ h) (k x)
theorem Wb.nil : Wb [] := fun x hx => by cases hx
theorem stL_wb {a b c : Int} {t : List Int} {u : Int} (h : Wb t) : Wb (stL a b c t u) := (((be_wb _ _).app (be_wb _ _)).app (be_wb _ _)).app h |>.app (be_wb _ _)
theorem logL_wb {e y a b c : Int} {t : List Int} {u : Int} (h : Wb t) : Wb (logL e y a b c t u) := (((Wb.nil.cons (a := 4) (by omega)).app (be_wb _ _)).app (be_wb _ _)).app (stL_wb h)
theorem liL_wb {x y s k : Int} {l : List Int} (hx : 0 ≤ x ∧ x < 256) (hy : 0 ≤ y ∧ y < 256) (h : Wb l) : Wb (liL x y s k l) := ((((Wb.nil.cons hy).cons hx).cons (a := 5) (by omega)).app (be_wb _ _)).app (be_wb _ _) |>.app (be_wb _ _) |>.app h
theorem m16 (c y p q u : Int) (h0 : 0 ≤ c) (h1 : c < 256) : op_16p [.n c, .n y, .n p, .n q, .n u] = some (0, [.l TB (bif win 1099511627776 [y, p] then chk (outB c y p q u) else [])]) := by
  have hl := outB_len c y p q u
  have e1 := t30 (IntKind.wrap .u64 y) 8 (by omega)
  have e2 := t30 (IntKind.wrap .u64 p) 8 (by omega)
  have e3 := t30 q 8 (by omega)
  have e4 := t30 (IntKind.wrap .u64 u) 4 (by omega)
  have e5 := q13 (outB c y p q u) (by omega) (outB_wb c y p q u h0 h1)
  have e6 := t30 (IntKind.wrap .u64 (N (Sm (outB c y p q u)))) 4 (by omega)
  rw [op_16p_eq]
  refine fn_16p_t_im _ _ _ _ _ _ ?_
  unfold fn_16p_t
  dsimp only
  by_cases y0 : y ≥ 0
  · refine sel_t (decide_eq_true y0) ?_
    by_cases y1 : y ≤ 1099511627776
    · refine sel_f (ndt y1) ?_
      by_cases p0 : p ≥ 0
      · refine sel_t (decide_eq_true p0) ?_
        by_cases p1 : p ≤ 1099511627776
        · refine sel_f (ndt p1) ?_
          rw [win2_t ⟨y0, y1, p0, p1⟩]
          erw [e1]
          refine sel_t rfl ?_
          refine sel_t (decide_eq_true (show (([2, c] : List Int).length + (bes (IntKind.wrap .u64 y) 8).length) * 1 ≤ 140737488355328 by simp only [List.length_append, be_len, List.length_cons, List.length_nil]; omega)) ?_
          erw [e2]
          refine sel_t rfl ?_
          refine sel_t (decide_eq_true (show (([2, c] ++ bes (IntKind.wrap .u64 y) 8 : List Int).length + (bes (IntKind.wrap .u64 p) 8).length) * 1 ≤ 140737488355328 by simp only [List.length_append, be_len, List.length_cons, List.length_nil]; omega)) ?_
          erw [e3]
          refine sel_t rfl ?_
          refine sel_t (decide_eq_true (show (([2, c] ++ bes (IntKind.wrap .u64 y) 8 ++ bes (IntKind.wrap .u64 p) 8 : List Int).length + (bes q 8).length) * 1 ≤ 140737488355328 by simp only [List.length_append, be_len, List.length_cons, List.length_nil]; omega)) ?_
          erw [e4]
          refine sel_t rfl ?_
          refine sel_t (decide_eq_true (show (([2, c] ++ bes (IntKind.wrap .u64 y) 8 ++ bes (IntKind.wrap .u64 p) 8 ++ bes q 8 : List Int).length + (bes (IntKind.wrap .u64 u) 4).length) * 1 ≤ 140737488355328 by simp only [List.length_append, be_len, List.length_cons, List.length_nil]; omega)) ?_
          erw [e5]
          refine sel_t rfl ?_
          erw [e6]
          refine sel_t rfl ?_
          refine sel_t (decide_eq_true (show ((outB c y p q u : List Int).length + (bes (IntKind.wrap .u64 (N (Sm (outB c y p q u)))) 4).length) * 1 ≤ 140737488355328 by simp only [List.length_append, be_len, List.length_cons, List.length_nil, hl]; omega)) ?_
          rfl
        · rw [win2_f (by omega)]; exact sel_t (ndf p1) rfl
      · rw [win2_f (by omega)]; exact sel_f (decide_eq_false p0) rfl
    · rw [win2_f (by omega)]; exact sel_t (ndf y1) rfl
  · rw [win2_f (by omega)]; exact sel_f (decide_eq_false y0) rfl
theorem lp43 (a b c u : Int) (t : List Int) (ht : t.length = 64) : ∀ (k i : Nat) (l : List Int) (f : Nat), i + k = 64 → l.length + k ≤ 100000 → k < f → iterS st_L43_5 f [.k 0, .n (i : Int), .n a, .n b, .n c, .l TB t, .n u, .l TB l] = some (0, [.n a, .n b, .n c, .l TB t, .n u, .l TB (l ++ t.drop i)])
  | _, _, _, 0, _, _, h => by omega
  | 0, i, l, f + 1, hi, hl, hf => by
    have e : (st_L43_5 [.k 0, .n (i : Int), .n a, .n b, .n c, .l TB t, .n u, .l TB l]).sel = some (.stop 0 [.n a, .n b, .n c, .l TB t, .n u, .l TB l]) := by
      refine fn_L43_5_t_im _ _ _ _ t _ l ht (by omega) _ ?_
      unfold fn_L43_5_t
      exact sel_f (decide_eq_false (by omega)) rfl
    unfold iterS
    rw [e, List.drop_eq_nil_of_le (by omega)]
    exact congrArg (fun z : List Int => some (0, [Dat.n a, .n b, .n c, .l TB t, .n u, .l TB z])) (List.append_nil l).symm
  | k + 1, i, l, f + 1, hi, hl, hf => by
    have w : IntKind.wrap .i64 ((i : Int) + 1) = ((i + 1 : Nat) : Int) := by rw [w64d]; omega
    have e : (st_L43_5 [.k 0, .n (i : Int), .n a, .n b, .n c, .l TB t, .n u, .l TB l]).sel = some (.go [.k 0, .n ((i + 1 : Nat) : Int), .n a, .n b, .n c, .l TB t, .n u, .l TB (l ++ [t.getD i 0])]) := by
      refine fn_L43_5_t_im _ _ _ _ t _ l ht (by omega) _ ?_
      unfold fn_L43_5_t
      refine sel_t (decide_eq_true (by omega)) (sel_t (decide_eq_true (show (l.length + 1) * 1 ≤ 140737488355328 by omega)) ?_)
      rw [w]; rfl
    unfold iterS
    rw [e]
    have ih := lp43 a b c u t ht k (i + 1) (l ++ [t.getD i 0]) f (by omega) (by rw [List.length_append]; simp; omega) (by omega)
    rw [drop_getD (show i < t.length by omega)]
    rw [List.append_assoc] at ih
    exact ih
theorem t43 (a b c : Int) (t : List Int) (u : Int) (ht : t.length = 64) : op_43 [.n a, .n b, .n c, .l TB t, .n u] = some (0, [.l TB (stL a b c t u)]) := by
  have e1 := t30 a 8 (by omega)
  have e2 := t30 b 8 (by omega)
  have e3 := t30 c 8 (by omega)
  have e4 : op_L43_5 [.k 0, .n 0, .n a, .n b, .n c, .l TB t, .n u, .l TB (bes a 8 ++ bes b 8 ++ bes c 8)] = some (0, [.n a, .n b, .n c, .l TB t, .n u, .l TB (bes a 8 ++ bes b 8 ++ bes c 8 ++ t)]) := by
    rw [op_L43_5_eq]
    exact lp43 a b c u t ht 64 0 (bes a 8 ++ bes b 8 ++ bes c 8) FU (by omega) (by simp [be_len]) (by unfold FU; omega)
  have e5 := t30 (IntKind.wrap .u64 u) 4 (by omega)
  rw [op_43_eq]
  refine fn_43_t_im _ _ _ _ _ ht _ ?_
  unfold fn_43_t
  dsimp only
  erw [e1]
  refine sel_t rfl ?_
  erw [e2]
  refine sel_t rfl ?_
  refine sel_t (decide_eq_true (show ((bes a 8 : List Int).length + (bes b 8).length) * 1 ≤ 140737488355328 by simp only [List.length_append, be_len, List.length_cons, List.length_nil]; omega)) ?_
  erw [e3]
  refine sel_t rfl ?_
  refine sel_t (decide_eq_true (show ((bes a 8 ++ bes b 8 : List Int).length + (bes c 8).length) * 1 ≤ 140737488355328 by simp only [List.length_append, be_len, List.length_cons, List.length_nil]; omega)) ?_
  erw [e4]
  refine sel_t rfl ?_
  erw [e5]
  refine sel_t rfl ?_
  refine sel_t (decide_eq_true (show ((bes a 8 ++ bes b 8 ++ bes c 8 ++ t : List Int).length + (bes (IntKind.wrap .u64 u) 4).length) * 1 ≤ 140737488355328 by simp only [List.length_append, be_len, List.length_cons, List.length_nil, ht]; omega)) ?_
  rfl
theorem m18 (a b c : Int) (t : List Int) (u : Int) (ht : t.length = 64) (hw : Wb t) : op_18p [.n a, .n b, .n c, .l TB t, .n u] = some (0, [.l TB (chk (3 :: stL a b c t u))]) := by
  have hs := stL_len a b c t u ht
  have hl : (3 :: stL a b c t u).length = 93 := by rw [List.length_cons, hs]
  have e1 := t43 a b c t u ht
  have e2 := q13 (3 :: stL a b c t u) (by omega) ((stL_wb hw).cons (by omega))
  have e3 := t30 (IntKind.wrap .u64 (N (Sm (3 :: stL a b c t u)))) 4 (by omega)
  rw [op_18p_eq]
  refine fn_18p_t_im _ _ _ _ _ ht _ ?_
  unfold fn_18p_t
  dsimp only
  erw [e1]
  refine sel_t rfl ?_
  refine sel_t (decide_eq_true (show (([3] : List Int).length + (stL a b c t u).length) * 1 ≤ 140737488355328 by simp only [List.length_append, be_len, List.length_cons, List.length_nil, hs]; omega)) ?_
  erw [e2]
  refine sel_t rfl ?_
  erw [e3]
  refine sel_t rfl ?_
  refine sel_t (decide_eq_true (show ((3 :: stL a b c t u : List Int).length + (bes (IntKind.wrap .u64 (N (Sm (3 :: stL a b c t u)))) 4).length) * 1 ≤ 140737488355328 by simp only [List.length_append, be_len, List.length_cons, List.length_nil, hs]; omega)) ?_
  rfl
theorem m19 (e y a b c : Int) (t : List Int) (u : Int) (ht : t.length = 64) (hw : Wb t) : op_19p [.n e, .n y, .n a, .n b, .n c, .l TB t, .n u] = some (0, [.l TB (bif win 1099511627776 [e, y] then chk (logL e y a b c t u) else [])]) := by
  have hs := stL_len a b c t u ht
  have hl := logL_len e y a b c t u ht
  have e1 := t30 (IntKind.wrap .u64 e) 8 (by omega)
  have e2 := t30 (IntKind.wrap .u64 y) 8 (by omega)
  have e3 := t43 a b c t u ht
  have e4 := q13 (logL e y a b c t u) (by omega) (logL_wb hw)
  have e5 := t30 (IntKind.wrap .u64 (N (Sm (logL e y a b c t u)))) 4 (by omega)
  rw [op_19p_eq]
  refine fn_19p_t_im _ _ _ _ _ _ _ ht _ ?_
  unfold fn_19p_t
  dsimp only
  by_cases y0 : e ≥ 0
  · refine sel_t (decide_eq_true y0) ?_
    by_cases y1 : e ≤ 1099511627776
    · refine sel_f (ndt y1) ?_
      by_cases p0 : y ≥ 0
      · refine sel_t (decide_eq_true p0) ?_
        by_cases p1 : y ≤ 1099511627776
        · refine sel_f (ndt p1) ?_
          rw [win2_t ⟨y0, y1, p0, p1⟩]
          erw [e1]
          refine sel_t rfl ?_
          refine sel_t (decide_eq_true (show (([(4 : Int)] : List Int).length + (bes (IntKind.wrap .u64 e) 8).length) * 1 ≤ 140737488355328 by simp only [List.length_append, be_len, List.length_cons, List.length_nil, hs]; omega)) ?_
          erw [e2]
          refine sel_t rfl ?_
          refine sel_t (decide_eq_true (show (([(4 : Int)] ++ bes (IntKind.wrap .u64 e) 8 : List Int).length + (bes (IntKind.wrap .u64 y) 8).length) * 1 ≤ 140737488355328 by simp only [List.length_append, be_len, List.length_cons, List.length_nil, hs]; omega)) ?_
          erw [e3]
          refine sel_t rfl ?_
          refine sel_t (decide_eq_true (show (([(4 : Int)] ++ bes (IntKind.wrap .u64 e) 8 ++ bes (IntKind.wrap .u64 y) 8 : List Int).length + (stL a b c t u).length) * 1 ≤ 140737488355328 by simp only [List.length_append, be_len, List.length_cons, List.length_nil, hs]; omega)) ?_
          erw [e4]
          refine sel_t rfl ?_
          erw [e5]
          refine sel_t rfl ?_
          refine sel_t (decide_eq_true (show ((logL e y a b c t u : List Int).length + (bes (IntKind.wrap .u64 (N (Sm (logL e y a b c t u)))) 4).length) * 1 ≤ 140737488355328 by simp only [List.length_append, be_len, List.length_cons, List.length_nil, hl]; omega)) ?_
          rfl
        · rw [win2_f (by omega)]; exact sel_t (ndf p1) rfl
      · rw [win2_f (by omega)]; exact sel_f (decide_eq_false p0) rfl
    · rw [win2_f (by omega)]; exact sel_t (ndf y1) rfl
  · rw [win2_f (by omega)]; exact sel_f (decide_eq_false y0) rfl
theorem m21 (x y s k : Int) (z : ByteArray) (hx : 0 ≤ x ∧ x < 256) (hy : 0 ≤ y ∧ y < 256) (hwz : Wb (bytesOf z)) : op_21p [.n x, .n y, .n s, .n k, .s z] = some (0, [.l TB (bif win 4611686018427387904 [s, k] && decide (((bytesOf z).length : Int) ≤ 2048) then chk (liL x y s k (bytesOf z)) else [])]) := by
  have hz : (bytesOf z).length = z.size := bytesOf_length z
  rw [op_21p_eq]
  refine fn_21p_t_im _ _ _ _ _ _ ?_
  unfold fn_21p_t
  dsimp only
  by_cases s0 : s < 0
  · rw [win2_f (by omega)]; exact sel_t (decide_eq_true s0) rfl
  · refine sel_f (decide_eq_false s0) ?_
    by_cases s1 : s > 4611686018427387904
    · rw [win2_f (by omega)]; exact sel_t (decide_eq_true s1) rfl
    · refine sel_f (decide_eq_false s1) ?_
      by_cases k0 : k < 0
      · rw [win2_f (by omega)]; exact sel_t (decide_eq_true k0) rfl
      · refine sel_f (decide_eq_false k0) ?_
        by_cases k1 : k > 4611686018427387904
        · rw [win2_f (by omega)]; exact sel_t (decide_eq_true k1) rfl
        · refine sel_f (decide_eq_false k1) ?_
          rw [win2_t (by omega)]
          by_cases z1 : (z.size : Int) > 2048
          · have h2 : decide (((bytesOf z).length : Int) ≤ 2048) = false := decide_eq_false (by omega)
            rw [h2]; exact sel_t (decide_eq_true z1) rfl
          · refine sel_f (decide_eq_false z1) ?_
            have h2 : decide (((bytesOf z).length : Int) ≤ 2048) = true := decide_eq_true (by omega)
            rw [h2]
            have hl := liL_len x y s k (bytesOf z)
            have hq : [5, x, y] ++ bes (IntKind.wrap .u64 s) 8 ++ bes (IntKind.wrap .u64 k) 8 ++ bes (IntKind.wrap .u64 (z.size : Int)) 2 ++ bytesOf z ++ bes (IntKind.wrap .u64 (N (Sm (liL x y s k (bytesOf z))))) 4 = chk (liL x y s k (bytesOf z)) := by
              unfold chk
              rw [show liL x y s k (bytesOf z) = [5, x, y] ++ bes (IntKind.wrap .u64 s) 8 ++ bes (IntKind.wrap .u64 k) 8 ++ bes (IntKind.wrap .u64 (z.size : Int)) 2 ++ bytesOf z from by unfold liL; rw [hz]]
            have hq0 : [5, x, y] ++ bes (IntKind.wrap .u64 s) 8 ++ bes (IntKind.wrap .u64 k) 8 ++ bes (IntKind.wrap .u64 (z.size : Int)) 2 ++ bytesOf z = liL x y s k (bytesOf z) := by unfold liL; rw [hz]
            have e1 := t30 (IntKind.wrap .u64 s) 8 (by omega)
            have e2 := t30 (IntKind.wrap .u64 k) 8 (by omega)
            have e3 := t30 (IntKind.wrap .u64 (z.size : Int)) 2 (by omega)
            have e4 := q13 (liL x y s k (bytesOf z)) (by omega) (liL_wb hx hy hwz)
            rw [← hq0] at e4
            have e5 := t30 (IntKind.wrap .u64 (N (Sm (liL x y s k (bytesOf z))))) 4 (by omega)
            rw [← hq0] at e5
            erw [e1]
            refine sel_t rfl ?_
            refine sel_t (decide_eq_true (show (([5, x, y] : List Int).length + (bes (IntKind.wrap .u64 s) 8).length) * 1 ≤ 140737488355328 by simp only [List.length_append, be_len, List.length_cons, List.length_nil]; omega)) ?_
            erw [e2]
            refine sel_t rfl ?_
            refine sel_t (decide_eq_true (show (([5, x, y] ++ bes (IntKind.wrap .u64 s) 8 : List Int).length + (bes (IntKind.wrap .u64 k) 8).length) * 1 ≤ 140737488355328 by simp only [List.length_append, be_len, List.length_cons, List.length_nil]; omega)) ?_
            erw [e3]
            refine sel_t rfl ?_
            refine sel_t (decide_eq_true (show (([5, x, y] ++ bes (IntKind.wrap .u64 s) 8 ++ bes (IntKind.wrap .u64 k) 8 : List Int).length + (bes (IntKind.wrap .u64 (z.size : Int)) 2).length) * 1 ≤ 140737488355328 by simp only [List.length_append, be_len, List.length_cons, List.length_nil]; omega)) ?_
            refine sel_t (decide_eq_true (show (([5, x, y] ++ bes (IntKind.wrap .u64 s) 8 ++ bes (IntKind.wrap .u64 k) 8 ++ bes (IntKind.wrap .u64 (z.size : Int)) 2 : List Int).length + (bytesOf z).length) * 1 ≤ 140737488355328 by simp only [List.length_append, be_len, List.length_cons, List.length_nil, hz]; omega)) ?_
            erw [e4]
            refine sel_t rfl ?_
            erw [e5]
            refine sel_t rfl ?_
            refine sel_t (decide_eq_true (show (([5, x, y] ++ bes (IntKind.wrap .u64 s) 8 ++ bes (IntKind.wrap .u64 k) 8 ++ bes (IntKind.wrap .u64 (z.size : Int)) 2 ++ bytesOf z : List Int).length + (bes (IntKind.wrap .u64 (N (Sm ([5, x, y] ++ bes (IntKind.wrap .u64 s) 8 ++ bes (IntKind.wrap .u64 k) 8 ++ bes (IntKind.wrap .u64 (z.size : Int)) 2 ++ bytesOf z)))) 4).length) * 1 ≤ 140737488355328 by simp only [List.length_append, be_len, List.length_cons, List.length_nil, hl, hz]; omega)) ?_
            rw [← hq0] at hq ⊢
            exact congrArg (fun z : List Int => some (0, [Dat.l TB z])) hq
end Go.Proofs.Ytlambinleegdoaa.Vx
namespace Go.Proofs.Ytlambinleegdoaa.Vx
open Go Go.RowKit
set_option linter.unusedVariables false
set_option linter.unusedSimpArgs false
set_option linter.unusedSimpArgs false
set_option maxRecDepth 100000
set_option maxHeartbeats 1000000
abbrev Cmd := Ty.den TC
def ck (a b : Int) : Bool := !decide (a < 1) && (!decide (a > 3) && win 63 [b])
def cb (a b : Int) : List Int := [a, IntKind.wrap .u8 b]
def cmdOk (x : Cmd) : Bool := ck (Prod.fst x) (Prod.snd x)
def c1 (l : List Cmd) (i : Nat) : Int := Prod.fst (List.getD l i (Ty.dflt TC))
def c2 (l : List Cmd) (i : Nat) : Int := Prod.snd (List.getD l i (Ty.dflt TC))
def cms (l : List Cmd) : List Int := l.flatMap fun x => cb (Prod.fst x) (Prod.snd x)
theorem cms_len (l : List Cmd) : (cms l).length = 2 * l.length := by
  induction l with
  | nil => rfl
  | cons a l ih =>
    have h : cms (a :: l) = cb (Prod.fst a) (Prod.snd a) ++ cms l := rfl
    rw [h, List.length_append, ih, List.length_cons]
    show 2 + 2 * l.length = _
    omega
theorem drop_getE {l : List Cmd} {i : Nat} (h : i < l.length) : l.drop i = l.getD i (Ty.dflt TC) :: l.drop (i + 1) := by
  rw [List.drop_eq_getElem_cons h, List.getD_eq_getElem?_getD, List.getElem?_eq_getElem h]; rfl
theorem lp46 (c y o a b : Int) (l : List Cmd) (hl : l.length ≤ 1000000) : ∀ (k i f : Nat), i + k = l.length → k < f → iterS st_L46_2 f [.k 0, .l TC l, .n (l.length : Int), .n (i : Int), .n c, .n y, .n o, .n a, .n b, .l TC l] = (bif (l.drop i).all cmdOk then some (0, [.n c, .n y, .n o, .n a, .n b, .l TC l]) else some (1, [.b false]))
  | _, _, 0, _, h => by omega
  | 0, i, f + 1, hi, hf => by
    have e : (st_L46_2 [.k 0, .l TC l, .n (l.length : Int), .n (i : Int), .n c, .n y, .n o, .n a, .n b, .l TC l]).sel = some (.stop 0 [.n c, .n y, .n o, .n a, .n b, .l TC l]) := by
      refine fn_L46_2_t_im l _ _ _ _ _ _ _ l (by omega) rfl _ ?_
      unfold fn_L46_2_t
      exact sel_f (decide_eq_false (show ¬ ((i : Int) < (l.length : Int)) by omega)) rfl
    unfold iterS
    rw [e, List.drop_eq_nil_of_le (by omega)]
    rfl
  | k + 1, i, f + 1, hi, hf => by
    have w : IntKind.wrap .i64 ((i : Int) + 1) = ((i + 1 : Nat) : Int) := by rw [w64d]; omega
    have hd := drop_getE (l := l) (show i < l.length by omega)
    have hlt : (i : Int) < (l.length : Int) := by omega
    have ih := lp46 c y o a b l hl k (i + 1) f (by omega) (by omega)
    rw [hd, List.all_cons]
    by_cases h1 : c1 l i < 1
    · have e : (st_L46_2 [.k 0, .l TC l, .n (l.length : Int), .n (i : Int), .n c, .n y, .n o, .n a, .n b, .l TC l]).sel = some (.stop 1 [.b false]) := by
        refine fn_L46_2_t_im l _ _ _ _ _ _ _ l (by omega) rfl _ ?_
        unfold fn_L46_2_t
        exact sel_t (decide_eq_true hlt) (sel_t (decide_eq_true h1) rfl)
      have hc : cmdOk (l.getD i (Ty.dflt TC)) = false := by show ck (c1 l i) (c2 l i) = _; unfold ck; rw [decide_eq_true h1]; rfl
      unfold iterS
      rw [e, hc]
      rfl
    · by_cases h2 : c1 l i > 3
      · have e : (st_L46_2 [.k 0, .l TC l, .n (l.length : Int), .n (i : Int), .n c, .n y, .n o, .n a, .n b, .l TC l]).sel = some (.stop 1 [.b false]) := by
          refine fn_L46_2_t_im l _ _ _ _ _ _ _ l (by omega) rfl _ ?_
          unfold fn_L46_2_t
          exact sel_t (decide_eq_true hlt) (sel_f (decide_eq_false h1) (sel_t (decide_eq_true h2) rfl))
        have hc : cmdOk (l.getD i (Ty.dflt TC)) = false := by show ck (c1 l i) (c2 l i) = _; unfold ck; rw [decide_eq_true h2, decide_eq_false h1]; rfl
        unfold iterS
        rw [e, hc]
        rfl
      · have e8 := t80 63 [c2 l i] (by simp)
        have hc : cmdOk (l.getD i (Ty.dflt TC)) = win 63 [c2 l i] := by show ck (c1 l i) (c2 l i) = _; unfold ck; rw [decide_eq_false h2, decide_eq_false h1]; rfl
        rw [hc]
        cases hw : win 63 [c2 l i] with
        | false =>
          rw [hw] at e8
          have e : (st_L46_2 [.k 0, .l TC l, .n (l.length : Int), .n (i : Int), .n c, .n y, .n o, .n a, .n b, .l TC l]).sel = some (.stop 1 [.b false]) := by
            refine fn_L46_2_t_im l _ _ _ _ _ _ _ l (by omega) rfl _ ?_
            unfold fn_L46_2_t
            refine sel_t (decide_eq_true hlt) (sel_f (decide_eq_false h1) (sel_f (decide_eq_false h2) ?_))
            erw [e8]
            rfl
          unfold iterS
          rw [e]
          rfl
        | true =>
          rw [hw] at e8
          have e : (st_L46_2 [.k 0, .l TC l, .n (l.length : Int), .n (i : Int), .n c, .n y, .n o, .n a, .n b, .l TC l]).sel = some (.go [.k 0, .l TC l, .n (l.length : Int), .n ((i + 1 : Nat) : Int), .n c, .n y, .n o, .n a, .n b, .l TC l]) := by
            refine fn_L46_2_t_im l _ _ _ _ _ _ _ l (by omega) rfl _ ?_
            unfold fn_L46_2_t
            refine sel_t (decide_eq_true hlt) (sel_f (decide_eq_false h1) (sel_f (decide_eq_false h2) ?_))
            erw [e8]
            rw [w]
            rfl
          unfold iterS
          rw [e]
          exact ih
theorem t46 (c y o a b : Int) (l : List Cmd) (hl : l.length ≤ 1000000) : op_46 [.n c, .n y, .n o, .n a, .n b, .l TC l] = some (0, [.b (l.all cmdOk && (win 1099511627776 [y] && decide ((l.length : Int) ≤ 8)))]) := by
  have e1 : op_L46_2 [.k 0, .l TC l, .n (l.length : Int), .n 0, .n c, .n y, .n o, .n a, .n b, .l TC l] = (bif l.all cmdOk then some (0, [.n c, .n y, .n o, .n a, .n b, .l TC l]) else some (1, [.b false])) := by
    rw [op_L46_2_eq]
    exact lp46 c y o a b l hl l.length 0 FU (by omega) (by unfold FU; omega)
  have e2 := t80 1099511627776 [y] (by simp)
  rw [op_46_eq]
  refine fn_46_t_im _ _ _ _ _ _ _ ?_
  unfold fn_46_t
  dsimp only
  cases h : l.all cmdOk with
  | false =>
    rw [h] at e1
    erw [e1]
    rfl
  | true =>
    rw [h] at e1
    erw [e1]
    refine sel_t rfl ?_
    erw [e2]
    refine sel_t rfl ?_
    cases hw : win 1099511627776 [y] with
    | false => rfl
    | true => rfl
theorem lp63 (l : List Cmd) (hl : l.length ≤ 1000) (hf : ∀ i, i < l.length → 0 ≤ c1 l i ∧ c1 l i < 256) : ∀ (k i : Nat) (r : List Int) (f : Nat), i + k = l.length → r.length + 2 * k ≤ 100000 → k < f → iterS st_L63_7 f [.k 0, .l TC l, .n (l.length : Int), .n (i : Int), .l TB r] = some (0, [.l TB (r ++ cms (l.drop i))])
  | _, _, _, 0, _, _, h => by omega
  | 0, i, r, f + 1, hi, hr, hf' => by
    have e : (st_L63_7 [.k 0, .l TC l, .n (l.length : Int), .n (i : Int), .l TB r]).sel = some (.stop 0 [.l TB r]) := by
      refine fn_L63_7_t_im l _ _ r (by omega) rfl _ ?_
      unfold fn_L63_7_t
      exact sel_f (decide_eq_false (show ¬ ((i : Int) < (l.length : Int)) by omega)) rfl
    unfold iterS
    rw [e, List.drop_eq_nil_of_le (by omega)]
    exact congrArg (fun z : List Int => some (0, [Dat.l TB z])) (List.append_nil r).symm
  | k + 1, i, r, f + 1, hi, hr, hf' => by
    have w : IntKind.wrap .i64 ((i : Int) + 1) = ((i + 1 : Nat) : Int) := by rw [w64d]; omega
    have hd := drop_getE (l := l) (show i < l.length by omega)
    have hlt : (i : Int) < (l.length : Int) := by omega
    have hx0 := hf i (by omega)
    have ih := fun r h => lp63 l hl hf k (i + 1) r f (by omega) h (by omega)
    rw [hd]
    have e1 := t35b (IntKind.wrap .u64 (c1 l i)) 1 (by omega) r (by omega)
    rw [bes1 hx0.1 hx0.2] at e1
    have e2 := t35b (IntKind.wrap .u64 (IntKind.wrap .u8 (c2 l i))) 1 (by omega) (r ++ [c1 l i]) (by rw [List.length_append]; simp; omega)
    rw [bes1 (by rw [wu8]; omega) (by rw [wu8]; omega)] at e2
    have e : (st_L63_7 [.k 0, .l TC l, .n (l.length : Int), .n (i : Int), .l TB r]).sel = some (.go [.k 0, .l TC l, .n (l.length : Int), .n ((i + 1 : Nat) : Int), .l TB (r ++ [c1 l i] ++ [IntKind.wrap .u8 (c2 l i)])]) := by
      refine fn_L63_7_t_im l _ _ r (by omega) rfl _ ?_
      unfold fn_L63_7_t
      refine sel_t (decide_eq_true hlt) ?_
      erw [e1]
      refine sel_t rfl ?_
      erw [e2]
      refine sel_t rfl ?_
      rw [w]
      rfl
    unfold iterS
    rw [e]
    have ih' := ih (r ++ [c1 l i] ++ [IntKind.wrap .u8 (c2 l i)]) (by simp only [List.length_append, List.length_cons, List.length_nil]; omega)
    have hc : cms (l.getD i (Ty.dflt TC) :: l.drop (i + 1)) = [c1 l i] ++ ([IntKind.wrap .u8 (c2 l i)] ++ cms (l.drop (i + 1))) := rfl
    rw [hc, ← List.append_assoc, ← List.append_assoc]
    exact ih'
theorem lp14 (c y o a b : Int) (l : List Cmd) (hl : l.length ≤ 1000) : ∀ (k i : Nat) (r : List Int) (f : Nat), i + k = l.length → r.length + 2 * k ≤ 100000 → k < f → iterS st_L14p_10 f [.k 0, .n (i : Int), .n c, .n y, .n o, .n a, .n b, .l TC l, .l TB r] = (bif (l.drop i).all cmdOk then some (0, [.l TB (r ++ cms (l.drop i))]) else some (1, []))
  | _, _, _, 0, _, _, h => by omega
  | 0, i, r, f + 1, hi, hr, hf' => by
    have e : (st_L14p_10 [.k 0, .n (i : Int), .n c, .n y, .n o, .n a, .n b, .l TC l, .l TB r]).sel = some (.stop 0 [.l TB r]) := by
      refine fn_L14p_10_t_im _ _ _ _ _ _ l r (by omega) _ ?_
      unfold fn_L14p_10_t
      exact sel_f (decide_eq_false (show ¬ ((i : Int) < (l.length : Int)) by omega)) rfl
    unfold iterS
    rw [e, List.drop_eq_nil_of_le (by omega)]
    exact congrArg (fun z : List Int => some (0, [Dat.l TB z])) (List.append_nil r).symm
  | k + 1, i, r, f + 1, hi, hr, hf' => by
    have w : IntKind.wrap .i64 ((i : Int) + 1) = ((i + 1 : Nat) : Int) := by rw [w64d]; omega
    have hd := drop_getE (l := l) (show i < l.length by omega)
    have hlt : (i : Int) < (l.length : Int) := by omega
    have ih := fun r h => lp14 c y o a b l hl k (i + 1) r f (by omega) h (by omega)
    rw [hd, List.all_cons]
    have hwin : win 63 [c2 l i] = (!decide (c2 l i < 0) && (!decide (c2 l i > 63) && true)) := by unfold win; simp
    by_cases h1 : c1 l i < 1
    · have hc : cmdOk (l.getD i (Ty.dflt TC)) = false := by show ck (c1 l i) (c2 l i) = _; unfold ck; rw [hwin]; simp [h1]
      have e : (st_L14p_10 [.k 0, .n (i : Int), .n c, .n y, .n o, .n a, .n b, .l TC l, .l TB r]).sel = some (.stop 1 []) := by
        refine fn_L14p_10_t_im _ _ _ _ _ _ l r (by omega) _ ?_
        unfold fn_L14p_10_t
        exact sel_t (decide_eq_true hlt) (sel_t (decide_eq_true h1) rfl)
      unfold iterS
      rw [e, hc]
      rfl
    by_cases h2 : c1 l i > 3
    · have hc : cmdOk (l.getD i (Ty.dflt TC)) = false := by show ck (c1 l i) (c2 l i) = _; unfold ck; rw [hwin]; simp [h2]
      have e : (st_L14p_10 [.k 0, .n (i : Int), .n c, .n y, .n o, .n a, .n b, .l TC l, .l TB r]).sel = some (.stop 1 []) := by
        refine fn_L14p_10_t_im _ _ _ _ _ _ l r (by omega) _ ?_
        unfold fn_L14p_10_t
        exact sel_t (decide_eq_true hlt) (sel_f (decide_eq_false h1) (sel_t (decide_eq_true h2) rfl))
      unfold iterS
      rw [e, hc]
      rfl
    by_cases h3 : c2 l i < 0
    · have hc : cmdOk (l.getD i (Ty.dflt TC)) = false := by show ck (c1 l i) (c2 l i) = _; unfold ck; rw [hwin]; simp [h3]
      have e : (st_L14p_10 [.k 0, .n (i : Int), .n c, .n y, .n o, .n a, .n b, .l TC l, .l TB r]).sel = some (.stop 1 []) := by
        refine fn_L14p_10_t_im _ _ _ _ _ _ l r (by omega) _ ?_
        unfold fn_L14p_10_t
        exact sel_t (decide_eq_true hlt) (sel_f (decide_eq_false h1) (sel_f (decide_eq_false h2) (sel_t (decide_eq_true h3) rfl)))
      unfold iterS
      rw [e, hc]
      rfl
    by_cases h4 : c2 l i > 63
    · have hc : cmdOk (l.getD i (Ty.dflt TC)) = false := by show ck (c1 l i) (c2 l i) = _; unfold ck; rw [hwin]; simp [h4]
      have e : (st_L14p_10 [.k 0, .n (i : Int), .n c, .n y, .n o, .n a, .n b, .l TC l, .l TB r]).sel = some (.stop 1 []) := by
        refine fn_L14p_10_t_im _ _ _ _ _ _ l r (by omega) _ ?_
        unfold fn_L14p_10_t
        exact sel_t (decide_eq_true hlt) (sel_f (decide_eq_false h1) (sel_f (decide_eq_false h2) (sel_f (decide_eq_false h3) (sel_t (decide_eq_true h4) rfl))))
      unfold iterS
      rw [e, hc]
      rfl
    have hc : cmdOk (l.getD i (Ty.dflt TC)) = true := by show ck (c1 l i) (c2 l i) = _; unfold ck; rw [hwin]; rw [decide_eq_false h1, decide_eq_false h2, decide_eq_false h3, decide_eq_false h4]; rfl
    have e : (st_L14p_10 [.k 0, .n (i : Int), .n c, .n y, .n o, .n a, .n b, .l TC l, .l TB r]).sel = some (.go [.k 0, .n ((i + 1 : Nat) : Int), .n c, .n y, .n o, .n a, .n b, .l TC l, .l TB (r ++ [c1 l i, IntKind.wrap .u8 (c2 l i)])]) := by
      refine fn_L14p_10_t_im _ _ _ _ _ _ l r (by omega) _ ?_
      unfold fn_L14p_10_t
      refine sel_t (decide_eq_true hlt) (sel_f (decide_eq_false h1) (sel_f (decide_eq_false h2) (sel_f (decide_eq_false h3) (sel_f (decide_eq_false h4) (sel_t (decide_eq_true (show (r.length + 2) * 1 ≤ 140737488355328 by omega)) ?_)))))
      rw [w]
      rfl
    unfold iterS
    rw [e, hc]
    have ih' := ih (r ++ [c1 l i, IntKind.wrap .u8 (c2 l i)]) (by simp only [List.length_append, List.length_cons, List.length_nil]; omega)
    have hm : cms (l.getD i (Ty.dflt TC) :: l.drop (i + 1)) = [c1 l i, IntKind.wrap .u8 (c2 l i)] ++ cms (l.drop (i + 1)) := rfl
    rw [hm, ← List.append_assoc]
    exact ih'
end Go.Proofs.Ytlambinleegdoaa.Vx
namespace Go.Proofs.Ytlambinleegdoaa.Vx
open Go Go.RowKit
set_option linter.unusedVariables false
set_option linter.unusedSimpArgs false
set_option linter.unusedSimpArgs false
set_option maxRecDepth 100000
set_option maxHeartbeats 1000000
theorem win1_t {m a : Int} (h : 0 ≤ a ∧ a ≤ m) : win m [a] = true := by
  unfold win; simp; omega
theorem win1_f {m a : Int} (h : ¬ (0 ≤ a ∧ a ≤ m)) : win m [a] = false := by
  cases hh : win m [a] with
  | false => rfl
  | true => exfalso; apply h; unfold win at hh; simp at hh; omega
theorem ck_1 {a b : Int} (h : ck a b = true) : 1 ≤ a ∧ a ≤ 3 := by
  unfold ck at h; simp at h; omega
theorem ok_at {l : List Cmd} (h : l.all cmdOk = true) : ∀ i, i < l.length → 0 ≤ c1 l i ∧ c1 l i < 256 := by
  intro i hi
  have hm : l.getD i (Ty.dflt TC) ∈ l := by rw [List.getD_eq_getElem?_getD, List.getElem?_eq_getElem hi]; exact List.getElem_mem hi
  have h2 : ck (c1 l i) (c2 l i) = true := List.all_eq_true.1 h _ hm
  have := ck_1 h2
  omega
def inL (c y o a b : Int) (l : List Cmd) : List Int := [1, c] ++ bes (IntKind.wrap .u64 y) 8 ++ bes o 8 ++ bes (IntKind.wrap .u64 a) 4 ++ bes (IntKind.wrap .u64 b) 4 ++ [IntKind.wrap .u8 (l.length : Int)] ++ cms l
theorem inL_len (c y o a b : Int) (l : List Cmd) : (inL c y o a b l).length = 27 + 2 * l.length := by unfold inL; simp only [List.length_append, be_len, cms_len]; rfl
theorem cms_wb : ∀ {l : List Cmd}, l.all cmdOk = true → Wb (cms l)
  | [], h => Wb.nil
  | x :: l, h => by
    rw [List.all_cons, Bool.and_eq_true] at h
    have h1 : ck (Prod.fst x) (Prod.snd x) = true := h.1
    have h2 := ck_1 h1
    have hc : cms (x :: l) = cb (Prod.fst x) (Prod.snd x) ++ cms l := rfl
    rw [hc]
    refine Wb.app ?_ (cms_wb h.2)
    have hw : 0 ≤ IntKind.wrap .u8 (Prod.snd x) ∧ IntKind.wrap .u8 (Prod.snd x) < 256 := by rw [wu8]; omega
    exact (Wb.nil.cons hw).cons ⟨by omega, by omega⟩
theorem inL_wb {c y o a b : Int} {l : List Cmd} (h0 : 0 ≤ c) (h1 : c < 256) (h : l.all cmdOk = true) : Wb (inL c y o a b l) :=
  ((((((Wb.nil.cons ⟨h0, h1⟩).cons (a := 1) (by omega)).app (be_wb _ _)).app (be_wb _ _)).app (be_wb _ _)).app (be_wb _ _)).app (Wb.nil.cons (by rw [wu8]; omega)) |>.app (cms_wb h)
theorem b1 : bes 1 1 = [1] := rfl
theorem t63 (c y o a b : Int) (l : List Cmd) (h0 : 0 ≤ c) (h1 : c < 256) (hl : l.length ≤ 8) (hk : l.all cmdOk = true) : op_63 [.n c, .n y, .n o, .n a, .n b, .l TC l, .l TB (bes 1 1)] = some (0, [.l TB (inL c y o a b l)]) := by
  have hb : bes 1 1 ++ bes (IntKind.wrap .u64 c) 1 ++ lgs [IntKind.wrap .u64 y, o] ++ bes (IntKind.wrap .u64 a) 4 ++ bes (IntKind.wrap .u64 b) 4 ++ bes (IntKind.wrap .u64 (IntKind.wrap .u8 (l.length : Int))) 1 ++ cms l = inL c y o a b l := by
    rw [b1, bes1 h0 h1, bes1 (c := IntKind.wrap .u8 (l.length : Int)) (by rw [wu8]; omega) (by rw [wu8]; omega)]
    unfold inL lgs
    simp only [List.flatMap_cons, List.flatMap_nil, List.append_assoc, List.append_nil, List.cons_append, List.nil_append]
  have e1 := t35b (IntKind.wrap .u64 c) 1 (by omega) (bes 1 1) (by simp [be_len])
  have e2 := t88 [IntKind.wrap .u64 y, o] (bes 1 1 ++ bes (IntKind.wrap .u64 c) 1) (by simp) (by simp [be_len])
  have e3 := t35b (IntKind.wrap .u64 a) 4 (by omega) (bes 1 1 ++ bes (IntKind.wrap .u64 c) 1 ++ lgs [IntKind.wrap .u64 y, o]) (by simp [be_len, lgs_len])
  have e4 := t35b (IntKind.wrap .u64 b) 4 (by omega) (bes 1 1 ++ bes (IntKind.wrap .u64 c) 1 ++ lgs [IntKind.wrap .u64 y, o] ++ bes (IntKind.wrap .u64 a) 4) (by simp [be_len, lgs_len])
  have e5 := t35b (IntKind.wrap .u64 (IntKind.wrap .u8 (l.length : Int))) 1 (by omega) (bes 1 1 ++ bes (IntKind.wrap .u64 c) 1 ++ lgs [IntKind.wrap .u64 y, o] ++ bes (IntKind.wrap .u64 a) 4 ++ bes (IntKind.wrap .u64 b) 4) (by simp [be_len, lgs_len])
  have e6 : op_L63_7 [.k 0, .l TC l, .n (l.length : Int), .n 0, .l TB (bes 1 1 ++ bes (IntKind.wrap .u64 c) 1 ++ lgs [IntKind.wrap .u64 y, o] ++ bes (IntKind.wrap .u64 a) 4 ++ bes (IntKind.wrap .u64 b) 4 ++ bes (IntKind.wrap .u64 (IntKind.wrap .u8 (l.length : Int))) 1)] = some (0, [.l TB (inL c y o a b l)]) := by
    rw [op_L63_7_eq, ← hb]
    exact lp63 l (by omega) (ok_at hk) l.length 0 (bes 1 1 ++ bes (IntKind.wrap .u64 c) 1 ++ lgs [IntKind.wrap .u64 y, o] ++ bes (IntKind.wrap .u64 a) 4 ++ bes (IntKind.wrap .u64 b) 4 ++ bes (IntKind.wrap .u64 (IntKind.wrap .u8 (l.length : Int))) 1) FU (by omega) (by simp [be_len, lgs_len]; omega) (by unfold FU; omega)
  rw [op_63_eq]
  refine fn_63_t_im _ _ _ _ _ _ _ _ ?_
  unfold fn_63_t
  dsimp only
  erw [e1]
  refine sel_t rfl ?_
  erw [e2]
  refine sel_t rfl ?_
  erw [e3]
  refine sel_t rfl ?_
  erw [e4]
  refine sel_t rfl ?_
  erw [e5]
  refine sel_t rfl ?_
  erw [e6]
  rfl
theorem p9 (c y o a b : Int) (l : List Cmd) (h0 : 0 ≤ c) (h1 : c < 256) (hl0 : l.length ≤ 1000) : op_9p [.n c, .n y, .n o, .n a, .n b, .l TC l] = some (0, [.l TB (bif l.all cmdOk && (win 1099511627776 [y] && decide ((l.length : Int) ≤ 8)) then chk (inL c y o a b l) else [])]) := by
  have e1 := t46 c y o a b l (by omega)
  rw [op_9p_eq]
  refine fn_9p_t_im _ _ _ _ _ _ _ ?_
  unfold fn_9p_t
  dsimp only
  erw [e1]
  cases hw : l.all cmdOk && (win 1099511627776 [y] && decide ((l.length : Int) ≤ 8)) with
  | false => rfl
  | true =>
    rw [Bool.and_eq_true, Bool.and_eq_true] at hw
    have h2 := of_decide_eq_true hw.2.2
    have hn : l.length ≤ 8 := by omega
    have hl := inL_len c y o a b l
    have e2 := t35a 1 1 (by omega) (by omega)
    have e3 := t63 c y o a b l h0 h1 hn hw.1
    have eA := t31 (l := inL c y o a b l) (by omega)
    have eB := q12 (inL c y o a b l) (by omega)
    have eC := t35b (IntKind.wrap .u64 (N (Sm (inL c y o a b l)))) 4 (by omega) (inL c y o a b l) (by omega)
    have eD := t31 (l := chk (inL c y o a b l)) (by rw [chk_len]; omega)
    refine sel_t rfl (sel_t rfl ?_)
    erw [e2]
    refine sel_f rfl (sel_t rfl ?_)
    erw [e3]
    refine sel_t rfl ?_
    erw [eA]
    refine sel_t rfl ?_
    erw [eB]
    refine sel_t rfl ?_
    erw [eC]
    refine sel_t rfl ?_
    erw [eD]
    rfl
theorem m14 (c y o a b : Int) (l : List Cmd) (h0 : 0 ≤ c) (h1 : c < 256) : op_14p [.n c, .n y, .n o, .n a, .n b, .l TC l] = some (0, [.l TB (bif l.all cmdOk && (win 1099511627776 [y] && decide ((l.length : Int) ≤ 8)) then chk (inL c y o a b l) else [])]) := by
  rw [op_14p_eq]
  refine fn_14p_t_im _ _ _ _ _ _ _ ?_
  unfold fn_14p_t
  dsimp only
  by_cases y0 : y ≥ 0
  · refine sel_t (decide_eq_true y0) ?_
    by_cases y1 : y ≤ 1099511627776
    · refine sel_f (ndt y1) ?_
      rw [win1_t ⟨y0, y1⟩]
      by_cases z1 : (l.length : Int) > 8
      · rw [decide_eq_false (show ¬ ((l.length : Int) ≤ 8) by omega), Bool.and_false, Bool.and_false]
        exact sel_t (decide_eq_true z1) rfl
      · refine sel_f (decide_eq_false z1) ?_
        rw [decide_eq_true (show (l.length : Int) ≤ 8 by omega), Bool.and_true, Bool.and_true]
        have hl := inL_len c y o a b l
        have e5 : op_L14p_10 [.k 0, .n 0, .n c, .n y, .n o, .n a, .n b, .l TC l, .l TB ([1, c] ++ bes (IntKind.wrap .u64 y) 8 ++ bes o 8 ++ bes (IntKind.wrap .u64 a) 4 ++ bes (IntKind.wrap .u64 b) 4 ++ [IntKind.wrap .u8 (l.length : Int)])] = (bif l.all cmdOk then some (0, [.l TB (inL c y o a b l)]) else some (1, [])) := by
          rw [op_L14p_10_eq]
          exact lp14 c y o a b l (by omega) l.length 0 ([1, c] ++ bes (IntKind.wrap .u64 y) 8 ++ bes o 8 ++ bes (IntKind.wrap .u64 a) 4 ++ bes (IntKind.wrap .u64 b) 4 ++ [IntKind.wrap .u8 (l.length : Int)]) FU (by omega) (by simp [be_len]; omega) (by unfold FU; omega)
        have e1 := t30 (IntKind.wrap .u64 y) 8 (by omega)
        have e2 := t30 o 8 (by omega)
        have e3 := t30 (IntKind.wrap .u64 a) 4 (by omega)
        have e4 := t30 (IntKind.wrap .u64 b) 4 (by omega)
        erw [e1]
        refine sel_t rfl ?_
        refine sel_t (decide_eq_true (show (([1, c] : List Int).length + (bes (IntKind.wrap .u64 y) 8).length) * 1 ≤ 140737488355328 by simp only [List.length_append, be_len, List.length_cons, List.length_nil]; omega)) ?_
        erw [e2]
        refine sel_t rfl ?_
        refine sel_t (decide_eq_true (show (([1, c] ++ bes (IntKind.wrap .u64 y) 8 : List Int).length + (bes o 8).length) * 1 ≤ 140737488355328 by simp only [List.length_append, be_len, List.length_cons, List.length_nil]; omega)) ?_
        erw [e3]
        refine sel_t rfl ?_
        refine sel_t (decide_eq_true (show (([1, c] ++ bes (IntKind.wrap .u64 y) 8 ++ bes o 8 : List Int).length + (bes (IntKind.wrap .u64 a) 4).length) * 1 ≤ 140737488355328 by simp only [List.length_append, be_len, List.length_cons, List.length_nil]; omega)) ?_
        erw [e4]
        refine sel_t rfl ?_
        refine sel_t (decide_eq_true (show (([1, c] ++ bes (IntKind.wrap .u64 y) 8 ++ bes o 8 ++ bes (IntKind.wrap .u64 a) 4 : List Int).length + (bes (IntKind.wrap .u64 b) 4).length) * 1 ≤ 140737488355328 by simp only [List.length_append, be_len, List.length_cons, List.length_nil]; omega)) ?_
        refine sel_t (decide_eq_true (show (([1, c] ++ bes (IntKind.wrap .u64 y) 8 ++ bes o 8 ++ bes (IntKind.wrap .u64 a) 4 ++ bes (IntKind.wrap .u64 b) 4 : List Int).length + 1) * 1 ≤ 140737488355328 by simp only [List.length_append, be_len, List.length_cons, List.length_nil]; omega)) ?_
        cases hk : l.all cmdOk with
        | false =>
          rw [hk] at e5
          erw [e5]
          rfl
        | true =>
          rw [hk] at e5
          have e6 := q13 (inL c y o a b l) (by omega) (inL_wb h0 h1 hk)
          have e7 := t30 (IntKind.wrap .u64 (N (Sm (inL c y o a b l)))) 4 (by omega)
          erw [e5]
          refine sel_t rfl ?_
          erw [e6]
          refine sel_t rfl ?_
          erw [e7]
          refine sel_t rfl ?_
          refine sel_t (decide_eq_true (show ((inL c y o a b l : List Int).length + (bes (IntKind.wrap .u64 (N (Sm (inL c y o a b l)))) 4).length) * 1 ≤ 140737488355328 by simp only [List.length_append, be_len, List.length_cons, List.length_nil, hl]; omega)) ?_
          rfl
    · rw [win1_f (by omega), Bool.false_and, Bool.and_false]; exact sel_t (ndf y1) rfl
  · rw [win1_f (by omega), Bool.false_and, Bool.and_false]; exact sel_f (decide_eq_false y0) rfl
end Go.Proofs.Ytlambinleegdoaa.Vx
namespace Go.Proofs.Ytlambinleegdoaa.Vx
open Go Go.RowKit
set_option linter.unusedVariables false
set_option linter.unusedSimpArgs false
set_option linter.unusedSimpArgs false
set_option maxRecDepth 100000
set_option maxHeartbeats 4000000
theorem strEq_me (a : ByteArray) : strEq a a = true := by unfold strEq; simp
theorem it_go {st : List Dat → Tree Step} {f : Nat} {e e' : List Dat} {y : Option (Nat × List Dat)} (h : (st e).sel = some (.go e')) (k : iterS st f e' = y) : iterS st (f + 1) e = y := by
  unfold iterS; rw [h]; exact k
theorem it_stop {st : List Dat → Tree Step} {f n : Nat} {e d : List Dat} (h : (st e).sel = some (.stop n d)) : iterS st (f + 1) e = some (n, d) := by
  unfold iterS; rw [h]
theorem lpj0 (t q : Int) (v0 : Int) (v1 : Int) (v2 : Int) (v3 : Int) (v4 : Int) (v5 : List Cmd) (v6 : Int) (v7 : Int) (v8 : Int) (v9 : Int) (v10 : Int) (v11 : Int) (v12 : Int) (v13 : Int) (v14 : List Int) (v15 : Int) (v16 : Int) (v17 : Int) (v18 : Int) (v19 : Int) (v20 : Int) (v21 : List Int) (v22 : Int) (v23 : Int) (v24 : Int) (v25 : Int) (v26 : Int) (v27 : List Int) (a1 a2 a3 a4 b0 b1 b2 b3 b4 : List Int) : ∀ (m i : Nat) (x : List Int) (f : Nat), i + m = x.length → x.length ≤ 1000000 → m < f → ∃ x' : List Int, iterS st_L3_15 f [.k 0, .n t, .n q, .n (i : Int), .n v0, .n v1, .n v2, .n v3, .n v4, .l TC v5, .n v6, .n v7, .n v8, .n v9, .n v10, .n v11, .n v12, .n v13, .l TB v14, .n v15, .n v16, .n v17, .n v18, .n v19, .n v20, .l TB v21, .n v22, .n v23, .n v24, .n v25, .n v26, .l TB v27, .l TB x, .l TB a1, .l TB a2, .l TB a3, .l TB a4, .l TB b0, .l TB b1, .l TB b2, .l TB b3, .l TB b4] = some (0, [.n t, .n q, .n v0, .n v1, .n v2, .n v3, .n v4, .l TC v5, .n v6, .n v7, .n v8, .n v9, .n v10, .n v11, .n v12, .n v13, .l TB v14, .n v15, .n v16, .n v17, .n v18, .n v19, .n v20, .l TB v21, .n v22, .n v23, .n v24, .n v25, .n v26, .l TB v27, .l TB x', .l TB a1, .l TB a2, .l TB a3, .l TB a4, .l TB b0, .l TB b1, .l TB b2, .l TB b3, .l TB b4])
  | _, _, _, 0, _, _, h => by omega
  | 0, i, x, f + 1, hi, hx, hf => by
    have e : (st_L3_15 [.k 0, .n t, .n q, .n (i : Int), .n v0, .n v1, .n v2, .n v3, .n v4, .l TC v5, .n v6, .n v7, .n v8, .n v9, .n v10, .n v11, .n v12, .n v13, .l TB v14, .n v15, .n v16, .n v17, .n v18, .n v19, .n v20, .l TB v21, .n v22, .n v23, .n v24, .n v25, .n v26, .l TB v27, .l TB x, .l TB a1, .l TB a2, .l TB a3, .l TB a4, .l TB b0, .l TB b1, .l TB b2, .l TB b3, .l TB b4]).sel = some (.stop 0 [.n t, .n q, .n v0, .n v1, .n v2, .n v3, .n v4, .l TC v5, .n v6, .n v7, .n v8, .n v9, .n v10, .n v11, .n v12, .n v13, .l TB v14, .n v15, .n v16, .n v17, .n v18, .n v19, .n v20, .l TB v21, .n v22, .n v23, .n v24, .n v25, .n v26, .l TB v27, .l TB x, .l TB a1, .l TB a2, .l TB a3, .l TB a4, .l TB b0, .l TB b1, .l TB b2, .l TB b3, .l TB b4]) := by
      refine fn_L3_15_j0_im _ _ _ _ _ _ _ _ _ _ _ _ _ _ _ _ _ _ _ _ _ _ _ _ _ _ _ _ _ _ _ _ _ _ _ _ _ _ _ _ _ (by omega) _ ?_
      unfold fn_L3_15_j0
      exact sel_f (decide_eq_false (show ¬ ((i : Int) < (x.length : Int)) by omega)) rfl
    exact ⟨x, it_stop e⟩
  | m + 1, i, x, f + 1, hi, hx, hf => by
    have w : IntKind.wrap .i64 ((i : Int) + 1) = ((i + 1 : Nat) : Int) := by rw [w64d]; omega
    have hl : (x.set i (IntKind.wrap .u8 (x.getD i 0 + 1))).length = x.length := List.length_set
    have e : (st_L3_15 [.k 0, .n t, .n q, .n (i : Int), .n v0, .n v1, .n v2, .n v3, .n v4, .l TC v5, .n v6, .n v7, .n v8, .n v9, .n v10, .n v11, .n v12, .n v13, .l TB v14, .n v15, .n v16, .n v17, .n v18, .n v19, .n v20, .l TB v21, .n v22, .n v23, .n v24, .n v25, .n v26, .l TB v27, .l TB x, .l TB a1, .l TB a2, .l TB a3, .l TB a4, .l TB b0, .l TB b1, .l TB b2, .l TB b3, .l TB b4]).sel = some (.go [.k 0, .n t, .n q, .n ((i + 1 : Nat) : Int), .n v0, .n v1, .n v2, .n v3, .n v4, .l TC v5, .n v6, .n v7, .n v8, .n v9, .n v10, .n v11, .n v12, .n v13, .l TB v14, .n v15, .n v16, .n v17, .n v18, .n v19, .n v20, .l TB v21, .n v22, .n v23, .n v24, .n v25, .n v26, .l TB v27, .l TB (x.set i (IntKind.wrap .u8 (x.getD i 0 + 1))), .l TB a1, .l TB a2, .l TB a3, .l TB a4, .l TB b0, .l TB b1, .l TB b2, .l TB b3, .l TB b4]) := by
      refine fn_L3_15_j0_im _ _ _ _ _ _ _ _ _ _ _ _ _ _ _ _ _ _ _ _ _ _ _ _ _ _ _ _ _ _ _ _ _ _ _ _ _ _ _ _ _ (by omega) _ ?_
      unfold fn_L3_15_j0
      refine sel_t (decide_eq_true (show (i : Int) < (x.length : Int) by omega)) ?_
      rw [w]
      rfl
    obtain ⟨x', ih⟩ := lpj0 t q v0 v1 v2 v3 v4 v5 v6 v7 v8 v9 v10 v11 v12 v13 v14 v15 v16 v17 v18 v19 v20 v21 v22 v23 v24 v25 v26 v27 a1 a2 a3 a4 b0 b1 b2 b3 b4 m (i + 1) _ f (by rw [hl]; omega) (by rw [hl]; exact hx) (by omega)
    exact ⟨x', it_go e ih⟩
theorem lpj1 (t q : Int) (v0 : Int) (v1 : Int) (v2 : Int) (v3 : Int) (v4 : Int) (v5 : List Cmd) (v6 : Int) (v7 : Int) (v8 : Int) (v9 : Int) (v10 : Int) (v11 : Int) (v12 : Int) (v13 : Int) (v14 : List Int) (v15 : Int) (v16 : Int) (v17 : Int) (v18 : Int) (v19 : Int) (v20 : Int) (v21 : List Int) (v22 : Int) (v23 : Int) (v24 : Int) (v25 : Int) (v26 : Int) (v27 : List Int) (a0 a2 a3 a4 b0 b1 b2 b3 b4 : List Int) : ∀ (m i : Nat) (x : List Int) (f : Nat), i + m = x.length → x.length ≤ 1000000 → m < f → ∃ x' : List Int, iterS st_L3_15 f [.k 1, .n t, .n q, .n (i : Int), .n v0, .n v1, .n v2, .n v3, .n v4, .l TC v5, .n v6, .n v7, .n v8, .n v9, .n v10, .n v11, .n v12, .n v13, .l TB v14, .n v15, .n v16, .n v17, .n v18, .n v19, .n v20, .l TB v21, .n v22, .n v23, .n v24, .n v25, .n v26, .l TB v27, .l TB x, .l TB a0, .l TB a2, .l TB a3, .l TB a4, .l TB b0, .l TB b1, .l TB b2, .l TB b3, .l TB b4] = some (0, [.n t, .n q, .n v0, .n v1, .n v2, .n v3, .n v4, .l TC v5, .n v6, .n v7, .n v8, .n v9, .n v10, .n v11, .n v12, .n v13, .l TB v14, .n v15, .n v16, .n v17, .n v18, .n v19, .n v20, .l TB v21, .n v22, .n v23, .n v24, .n v25, .n v26, .l TB v27, .l TB a0, .l TB x', .l TB a2, .l TB a3, .l TB a4, .l TB b0, .l TB b1, .l TB b2, .l TB b3, .l TB b4])
  | _, _, _, 0, _, _, h => by omega
  | 0, i, x, f + 1, hi, hx, hf => by
    have e : (st_L3_15 [.k 1, .n t, .n q, .n (i : Int), .n v0, .n v1, .n v2, .n v3, .n v4, .l TC v5, .n v6, .n v7, .n v8, .n v9, .n v10, .n v11, .n v12, .n v13, .l TB v14, .n v15, .n v16, .n v17, .n v18, .n v19, .n v20, .l TB v21, .n v22, .n v23, .n v24, .n v25, .n v26, .l TB v27, .l TB x, .l TB a0, .l TB a2, .l TB a3, .l TB a4, .l TB b0, .l TB b1, .l TB b2, .l TB b3, .l TB b4]).sel = some (.stop 0 [.n t, .n q, .n v0, .n v1, .n v2, .n v3, .n v4, .l TC v5, .n v6, .n v7, .n v8, .n v9, .n v10, .n v11, .n v12, .n v13, .l TB v14, .n v15, .n v16, .n v17, .n v18, .n v19, .n v20, .l TB v21, .n v22, .n v23, .n v24, .n v25, .n v26, .l TB v27, .l TB a0, .l TB x, .l TB a2, .l TB a3, .l TB a4, .l TB b0, .l TB b1, .l TB b2, .l TB b3, .l TB b4]) := by
      refine fn_L3_15_j1_im _ _ _ _ _ _ _ _ _ _ _ _ _ _ _ _ _ _ _ _ _ _ _ _ _ _ _ _ _ _ _ _ _ _ _ _ _ _ _ _ _ (by omega) _ ?_
      unfold fn_L3_15_j1
      exact sel_f (decide_eq_false (show ¬ ((i : Int) < (x.length : Int)) by omega)) rfl
    exact ⟨x, it_stop e⟩
  | m + 1, i, x, f + 1, hi, hx, hf => by
    have w : IntKind.wrap .i64 ((i : Int) + 1) = ((i + 1 : Nat) : Int) := by rw [w64d]; omega
    have hl : (x.set i (IntKind.wrap .u8 (x.getD i 0 + 1))).length = x.length := List.length_set
    have e : (st_L3_15 [.k 1, .n t, .n q, .n (i : Int), .n v0, .n v1, .n v2, .n v3, .n v4, .l TC v5, .n v6, .n v7, .n v8, .n v9, .n v10, .n v11, .n v12, .n v13, .l TB v14, .n v15, .n v16, .n v17, .n v18, .n v19, .n v20, .l TB v21, .n v22, .n v23, .n v24, .n v25, .n v26, .l TB v27, .l TB x, .l TB a0, .l TB a2, .l TB a3, .l TB a4, .l TB b0, .l TB b1, .l TB b2, .l TB b3, .l TB b4]).sel = some (.go [.k 1, .n t, .n q, .n ((i + 1 : Nat) : Int), .n v0, .n v1, .n v2, .n v3, .n v4, .l TC v5, .n v6, .n v7, .n v8, .n v9, .n v10, .n v11, .n v12, .n v13, .l TB v14, .n v15, .n v16, .n v17, .n v18, .n v19, .n v20, .l TB v21, .n v22, .n v23, .n v24, .n v25, .n v26, .l TB v27, .l TB (x.set i (IntKind.wrap .u8 (x.getD i 0 + 1))), .l TB a0, .l TB a2, .l TB a3, .l TB a4, .l TB b0, .l TB b1, .l TB b2, .l TB b3, .l TB b4]) := by
      refine fn_L3_15_j1_im _ _ _ _ _ _ _ _ _ _ _ _ _ _ _ _ _ _ _ _ _ _ _ _ _ _ _ _ _ _ _ _ _ _ _ _ _ _ _ _ _ (by omega) _ ?_
      unfold fn_L3_15_j1
      refine sel_t (decide_eq_true (show (i : Int) < (x.length : Int) by omega)) ?_
      rw [w]
      rfl
    obtain ⟨x', ih⟩ := lpj1 t q v0 v1 v2 v3 v4 v5 v6 v7 v8 v9 v10 v11 v12 v13 v14 v15 v16 v17 v18 v19 v20 v21 v22 v23 v24 v25 v26 v27 a0 a2 a3 a4 b0 b1 b2 b3 b4 m (i + 1) _ f (by rw [hl]; omega) (by rw [hl]; exact hx) (by omega)
    exact ⟨x', it_go e ih⟩
theorem lpj2 (t q : Int) (v0 : Int) (v1 : Int) (v2 : Int) (v3 : Int) (v4 : Int) (v5 : List Cmd) (v6 : Int) (v7 : Int) (v8 : Int) (v9 : Int) (v10 : Int) (v11 : Int) (v12 : Int) (v13 : Int) (v14 : List Int) (v15 : Int) (v16 : Int) (v17 : Int) (v18 : Int) (v19 : Int) (v20 : Int) (v21 : List Int) (v22 : Int) (v23 : Int) (v24 : Int) (v25 : Int) (v26 : Int) (v27 : List Int) (a0 a1 a3 a4 b0 b1 b2 b3 b4 : List Int) : ∀ (m i : Nat) (x : List Int) (f : Nat), i + m = x.length → x.length ≤ 1000000 → m < f → ∃ x' : List Int, iterS st_L3_15 f [.k 2, .n t, .n q, .n (i : Int), .n v0, .n v1, .n v2, .n v3, .n v4, .l TC v5, .n v6, .n v7, .n v8, .n v9, .n v10, .n v11, .n v12, .n v13, .l TB v14, .n v15, .n v16, .n v17, .n v18, .n v19, .n v20, .l TB v21, .n v22, .n v23, .n v24, .n v25, .n v26, .l TB v27, .l TB x, .l TB a0, .l TB a1, .l TB a3, .l TB a4, .l TB b0, .l TB b1, .l TB b2, .l TB b3, .l TB b4] = some (0, [.n t, .n q, .n v0, .n v1, .n v2, .n v3, .n v4, .l TC v5, .n v6, .n v7, .n v8, .n v9, .n v10, .n v11, .n v12, .n v13, .l TB v14, .n v15, .n v16, .n v17, .n v18, .n v19, .n v20, .l TB v21, .n v22, .n v23, .n v24, .n v25, .n v26, .l TB v27, .l TB a0, .l TB a1, .l TB x', .l TB a3, .l TB a4, .l TB b0, .l TB b1, .l TB b2, .l TB b3, .l TB b4])
  | _, _, _, 0, _, _, h => by omega
  | 0, i, x, f + 1, hi, hx, hf => by
    have e : (st_L3_15 [.k 2, .n t, .n q, .n (i : Int), .n v0, .n v1, .n v2, .n v3, .n v4, .l TC v5, .n v6, .n v7, .n v8, .n v9, .n v10, .n v11, .n v12, .n v13, .l TB v14, .n v15, .n v16, .n v17, .n v18, .n v19, .n v20, .l TB v21, .n v22, .n v23, .n v24, .n v25, .n v26, .l TB v27, .l TB x, .l TB a0, .l TB a1, .l TB a3, .l TB a4, .l TB b0, .l TB b1, .l TB b2, .l TB b3, .l TB b4]).sel = some (.stop 0 [.n t, .n q, .n v0, .n v1, .n v2, .n v3, .n v4, .l TC v5, .n v6, .n v7, .n v8, .n v9, .n v10, .n v11, .n v12, .n v13, .l TB v14, .n v15, .n v16, .n v17, .n v18, .n v19, .n v20, .l TB v21, .n v22, .n v23, .n v24, .n v25, .n v26, .l TB v27, .l TB a0, .l TB a1, .l TB x, .l TB a3, .l TB a4, .l TB b0, .l TB b1, .l TB b2, .l TB b3, .l TB b4]) := by
      refine fn_L3_15_j2_im _ _ _ _ _ _ _ _ _ _ _ _ _ _ _ _ _ _ _ _ _ _ _ _ _ _ _ _ _ _ _ _ _ _ _ _ _ _ _ _ _ (by omega) _ ?_
      unfold fn_L3_15_j2
      exact sel_f (decide_eq_false (show ¬ ((i : Int) < (x.length : Int)) by omega)) rfl
    exact ⟨x, it_stop e⟩
  | m + 1, i, x, f + 1, hi, hx, hf => by
    have w : IntKind.wrap .i64 ((i : Int) + 1) = ((i + 1 : Nat) : Int) := by rw [w64d]; omega
    have hl : (x.set i (IntKind.wrap .u8 (x.getD i 0 + 1))).length = x.length := List.length_set
    have e : (st_L3_15 [.k 2, .n t, .n q, .n (i : Int), .n v0, .n v1, .n v2, .n v3, .n v4, .l TC v5, .n v6, .n v7, .n v8, .n v9, .n v10, .n v11, .n v12, .n v13, .l TB v14, .n v15, .n v16, .n v17, .n v18, .n v19, .n v20, .l TB v21, .n v22, .n v23, .n v24, .n v25, .n v26, .l TB v27, .l TB x, .l TB a0, .l TB a1, .l TB a3, .l TB a4, .l TB b0, .l TB b1, .l TB b2, .l TB b3, .l TB b4]).sel = some (.go [.k 2, .n t, .n q, .n ((i + 1 : Nat) : Int), .n v0, .n v1, .n v2, .n v3, .n v4, .l TC v5, .n v6, .n v7, .n v8, .n v9, .n v10, .n v11, .n v12, .n v13, .l TB v14, .n v15, .n v16, .n v17, .n v18, .n v19, .n v20, .l TB v21, .n v22, .n v23, .n v24, .n v25, .n v26, .l TB v27, .l TB (x.set i (IntKind.wrap .u8 (x.getD i 0 + 1))), .l TB a0, .l TB a1, .l TB a3, .l TB a4, .l TB b0, .l TB b1, .l TB b2, .l TB b3, .l TB b4]) := by
      refine fn_L3_15_j2_im _ _ _ _ _ _ _ _ _ _ _ _ _ _ _ _ _ _ _ _ _ _ _ _ _ _ _ _ _ _ _ _ _ _ _ _ _ _ _ _ _ (by omega) _ ?_
      unfold fn_L3_15_j2
      refine sel_t (decide_eq_true (show (i : Int) < (x.length : Int) by omega)) ?_
      rw [w]
      rfl
    obtain ⟨x', ih⟩ := lpj2 t q v0 v1 v2 v3 v4 v5 v6 v7 v8 v9 v10 v11 v12 v13 v14 v15 v16 v17 v18 v19 v20 v21 v22 v23 v24 v25 v26 v27 a0 a1 a3 a4 b0 b1 b2 b3 b4 m (i + 1) _ f (by rw [hl]; omega) (by rw [hl]; exact hx) (by omega)
    exact ⟨x', it_go e ih⟩
theorem lpj3 (t q : Int) (v0 : Int) (v1 : Int) (v2 : Int) (v3 : Int) (v4 : Int) (v5 : List Cmd) (v6 : Int) (v7 : Int) (v8 : Int) (v9 : Int) (v10 : Int) (v11 : Int) (v12 : Int) (v13 : Int) (v14 : List Int) (v15 : Int) (v16 : Int) (v17 : Int) (v18 : Int) (v19 : Int) (v20 : Int) (v21 : List Int) (v22 : Int) (v23 : Int) (v24 : Int) (v25 : Int) (v26 : Int) (v27 : List Int) (a0 a1 a2 a4 b0 b1 b2 b3 b4 : List Int) : ∀ (m i : Nat) (x : List Int) (f : Nat), i + m = x.length → x.length ≤ 1000000 → m < f → ∃ x' : List Int, iterS st_L3_15 f [.k 3, .n t, .n q, .n (i : Int), .n v0, .n v1, .n v2, .n v3, .n v4, .l TC v5, .n v6, .n v7, .n v8, .n v9, .n v10, .n v11, .n v12, .n v13, .l TB v14, .n v15, .n v16, .n v17, .n v18, .n v19, .n v20, .l TB v21, .n v22, .n v23, .n v24, .n v25, .n v26, .l TB v27, .l TB x, .l TB a0, .l TB a1, .l TB a2, .l TB a4, .l TB b0, .l TB b1, .l TB b2, .l TB b3, .l TB b4] = some (0, [.n t, .n q, .n v0, .n v1, .n v2, .n v3, .n v4, .l TC v5, .n v6, .n v7, .n v8, .n v9, .n v10, .n v11, .n v12, .n v13, .l TB v14, .n v15, .n v16, .n v17, .n v18, .n v19, .n v20, .l TB v21, .n v22, .n v23, .n v24, .n v25, .n v26, .l TB v27, .l TB a0, .l TB a1, .l TB a2, .l TB x', .l TB a4, .l TB b0, .l TB b1, .l TB b2, .l TB b3, .l TB b4])
  | _, _, _, 0, _, _, h => by omega
  | 0, i, x, f + 1, hi, hx, hf => by
    have e : (st_L3_15 [.k 3, .n t, .n q, .n (i : Int), .n v0, .n v1, .n v2, .n v3, .n v4, .l TC v5, .n v6, .n v7, .n v8, .n v9, .n v10, .n v11, .n v12, .n v13, .l TB v14, .n v15, .n v16, .n v17, .n v18, .n v19, .n v20, .l TB v21, .n v22, .n v23, .n v24, .n v25, .n v26, .l TB v27, .l TB x, .l TB a0, .l TB a1, .l TB a2, .l TB a4, .l TB b0, .l TB b1, .l TB b2, .l TB b3, .l TB b4]).sel = some (.stop 0 [.n t, .n q, .n v0, .n v1, .n v2, .n v3, .n v4, .l TC v5, .n v6, .n v7, .n v8, .n v9, .n v10, .n v11, .n v12, .n v13, .l TB v14, .n v15, .n v16, .n v17, .n v18, .n v19, .n v20, .l TB v21, .n v22, .n v23, .n v24, .n v25, .n v26, .l TB v27, .l TB a0, .l TB a1, .l TB a2, .l TB x, .l TB a4, .l TB b0, .l TB b1, .l TB b2, .l TB b3, .l TB b4]) := by
      refine fn_L3_15_j3_im _ _ _ _ _ _ _ _ _ _ _ _ _ _ _ _ _ _ _ _ _ _ _ _ _ _ _ _ _ _ _ _ _ _ _ _ _ _ _ _ _ (by omega) _ ?_
      unfold fn_L3_15_j3
      exact sel_f (decide_eq_false (show ¬ ((i : Int) < (x.length : Int)) by omega)) rfl
    exact ⟨x, it_stop e⟩
  | m + 1, i, x, f + 1, hi, hx, hf => by
    have w : IntKind.wrap .i64 ((i : Int) + 1) = ((i + 1 : Nat) : Int) := by rw [w64d]; omega
    have hl : (x.set i (IntKind.wrap .u8 (x.getD i 0 + 1))).length = x.length := List.length_set
    have e : (st_L3_15 [.k 3, .n t, .n q, .n (i : Int), .n v0, .n v1, .n v2, .n v3, .n v4, .l TC v5, .n v6, .n v7, .n v8, .n v9, .n v10, .n v11, .n v12, .n v13, .l TB v14, .n v15, .n v16, .n v17, .n v18, .n v19, .n v20, .l TB v21, .n v22, .n v23, .n v24, .n v25, .n v26, .l TB v27, .l TB x, .l TB a0, .l TB a1, .l TB a2, .l TB a4, .l TB b0, .l TB b1, .l TB b2, .l TB b3, .l TB b4]).sel = some (.go [.k 3, .n t, .n q, .n ((i + 1 : Nat) : Int), .n v0, .n v1, .n v2, .n v3, .n v4, .l TC v5, .n v6, .n v7, .n v8, .n v9, .n v10, .n v11, .n v12, .n v13, .l TB v14, .n v15, .n v16, .n v17, .n v18, .n v19, .n v20, .l TB v21, .n v22, .n v23, .n v24, .n v25, .n v26, .l TB v27, .l TB (x.set i (IntKind.wrap .u8 (x.getD i 0 + 1))), .l TB a0, .l TB a1, .l TB a2, .l TB a4, .l TB b0, .l TB b1, .l TB b2, .l TB b3, .l TB b4]) := by
      refine fn_L3_15_j3_im _ _ _ _ _ _ _ _ _ _ _ _ _ _ _ _ _ _ _ _ _ _ _ _ _ _ _ _ _ _ _ _ _ _ _ _ _ _ _ _ _ (by omega) _ ?_
      unfold fn_L3_15_j3
      refine sel_t (decide_eq_true (show (i : Int) < (x.length : Int) by omega)) ?_
      rw [w]
      rfl
    obtain ⟨x', ih⟩ := lpj3 t q v0 v1 v2 v3 v4 v5 v6 v7 v8 v9 v10 v11 v12 v13 v14 v15 v16 v17 v18 v19 v20 v21 v22 v23 v24 v25 v26 v27 a0 a1 a2 a4 b0 b1 b2 b3 b4 m (i + 1) _ f (by rw [hl]; omega) (by rw [hl]; exact hx) (by omega)
    exact ⟨x', it_go e ih⟩
theorem lpj4 (t q : Int) (v0 : Int) (v1 : Int) (v2 : Int) (v3 : Int) (v4 : Int) (v5 : List Cmd) (v6 : Int) (v7 : Int) (v8 : Int) (v9 : Int) (v10 : Int) (v11 : Int) (v12 : Int) (v13 : Int) (v14 : List Int) (v15 : Int) (v16 : Int) (v17 : Int) (v18 : Int) (v19 : Int) (v20 : Int) (v21 : List Int) (v22 : Int) (v23 : Int) (v24 : Int) (v25 : Int) (v26 : Int) (v27 : List Int) (a0 a1 a2 a3 b0 b1 b2 b3 b4 : List Int) : ∀ (m i : Nat) (x : List Int) (f : Nat), i + m = x.length → x.length ≤ 1000000 → m < f → ∃ x' : List Int, iterS st_L3_15 f [.k 4, .n t, .n q, .n (i : Int), .n v0, .n v1, .n v2, .n v3, .n v4, .l TC v5, .n v6, .n v7, .n v8, .n v9, .n v10, .n v11, .n v12, .n v13, .l TB v14, .n v15, .n v16, .n v17, .n v18, .n v19, .n v20, .l TB v21, .n v22, .n v23, .n v24, .n v25, .n v26, .l TB v27, .l TB x, .l TB a0, .l TB a1, .l TB a2, .l TB a3, .l TB b0, .l TB b1, .l TB b2, .l TB b3, .l TB b4] = some (0, [.n t, .n q, .n v0, .n v1, .n v2, .n v3, .n v4, .l TC v5, .n v6, .n v7, .n v8, .n v9, .n v10, .n v11, .n v12, .n v13, .l TB v14, .n v15, .n v16, .n v17, .n v18, .n v19, .n v20, .l TB v21, .n v22, .n v23, .n v24, .n v25, .n v26, .l TB v27, .l TB a0, .l TB a1, .l TB a2, .l TB a3, .l TB x', .l TB b0, .l TB b1, .l TB b2, .l TB b3, .l TB b4])
  | _, _, _, 0, _, _, h => by omega
  | 0, i, x, f + 1, hi, hx, hf => by
    have e : (st_L3_15 [.k 4, .n t, .n q, .n (i : Int), .n v0, .n v1, .n v2, .n v3, .n v4, .l TC v5, .n v6, .n v7, .n v8, .n v9, .n v10, .n v11, .n v12, .n v13, .l TB v14, .n v15, .n v16, .n v17, .n v18, .n v19, .n v20, .l TB v21, .n v22, .n v23, .n v24, .n v25, .n v26, .l TB v27, .l TB x, .l TB a0, .l TB a1, .l TB a2, .l TB a3, .l TB b0, .l TB b1, .l TB b2, .l TB b3, .l TB b4]).sel = some (.stop 0 [.n t, .n q, .n v0, .n v1, .n v2, .n v3, .n v4, .l TC v5, .n v6, .n v7, .n v8, .n v9, .n v10, .n v11, .n v12, .n v13, .l TB v14, .n v15, .n v16, .n v17, .n v18, .n v19, .n v20, .l TB v21, .n v22, .n v23, .n v24, .n v25, .n v26, .l TB v27, .l TB a0, .l TB a1, .l TB a2, .l TB a3, .l TB x, .l TB b0, .l TB b1, .l TB b2, .l TB b3, .l TB b4]) := by
      refine fn_L3_15_j4_im _ _ _ _ _ _ _ _ _ _ _ _ _ _ _ _ _ _ _ _ _ _ _ _ _ _ _ _ _ _ _ _ _ _ _ _ _ _ _ _ _ (by omega) _ ?_
      unfold fn_L3_15_j4
      exact sel_f (decide_eq_false (show ¬ ((i : Int) < (x.length : Int)) by omega)) rfl
    exact ⟨x, it_stop e⟩
  | m + 1, i, x, f + 1, hi, hx, hf => by
    have w : IntKind.wrap .i64 ((i : Int) + 1) = ((i + 1 : Nat) : Int) := by rw [w64d]; omega
    have hl : (x.set i (IntKind.wrap .u8 (x.getD i 0 + 1))).length = x.length := List.length_set
    have e : (st_L3_15 [.k 4, .n t, .n q, .n (i : Int), .n v0, .n v1, .n v2, .n v3, .n v4, .l TC v5, .n v6, .n v7, .n v8, .n v9, .n v10, .n v11, .n v12, .n v13, .l TB v14, .n v15, .n v16, .n v17, .n v18, .n v19, .n v20, .l TB v21, .n v22, .n v23, .n v24, .n v25, .n v26, .l TB v27, .l TB x, .l TB a0, .l TB a1, .l TB a2, .l TB a3, .l TB b0, .l TB b1, .l TB b2, .l TB b3, .l TB b4]).sel = some (.go [.k 4, .n t, .n q, .n ((i + 1 : Nat) : Int), .n v0, .n v1, .n v2, .n v3, .n v4, .l TC v5, .n v6, .n v7, .n v8, .n v9, .n v10, .n v11, .n v12, .n v13, .l TB v14, .n v15, .n v16, .n v17, .n v18, .n v19, .n v20, .l TB v21, .n v22, .n v23, .n v24, .n v25, .n v26, .l TB v27, .l TB (x.set i (IntKind.wrap .u8 (x.getD i 0 + 1))), .l TB a0, .l TB a1, .l TB a2, .l TB a3, .l TB b0, .l TB b1, .l TB b2, .l TB b3, .l TB b4]) := by
      refine fn_L3_15_j4_im _ _ _ _ _ _ _ _ _ _ _ _ _ _ _ _ _ _ _ _ _ _ _ _ _ _ _ _ _ _ _ _ _ _ _ _ _ _ _ _ _ (by omega) _ ?_
      unfold fn_L3_15_j4
      refine sel_t (decide_eq_true (show (i : Int) < (x.length : Int) by omega)) ?_
      rw [w]
      rfl
    obtain ⟨x', ih⟩ := lpj4 t q v0 v1 v2 v3 v4 v5 v6 v7 v8 v9 v10 v11 v12 v13 v14 v15 v16 v17 v18 v19 v20 v21 v22 v23 v24 v25 v26 v27 a0 a1 a2 a3 b0 b1 b2 b3 b4 m (i + 1) _ f (by rw [hl]; omega) (by rw [hl]; exact hx) (by omega)
    exact ⟨x', it_go e ih⟩
theorem t9k (t : Int) (v0 : Int) (v1 : Int) (v2 : Int) (v3 : Int) (v4 : Int) (v5 : List Cmd) (v6 : Int) (v7 : Int) (v8 : Int) (v9 : Int) (v10 : Int) (v11 : Int) (v12 : Int) (v13 : Int) (v14 : List Int) (v15 : Int) (v16 : Int) (v17 : Int) (v18 : Int) (v19 : Int) (v20 : Int) (v21 : List Int) (v22 : Int) (v23 : Int) (v24 : Int) (v25 : Int) (v26 : Int) (v27 : List Int) (a0 a1 a2 a3 a4 : List Int) (h0 : a0.length ≤ 1000000) (h1 : a1.length ≤ 1000000) (h2 : a2.length ≤ 1000000) (h3 : a3.length ≤ 1000000) (h4 : a4.length ≤ 1000000) : op_L3_9 [.k 0, .n t, .n 0, .n v0, .n v1, .n v2, .n v3, .n v4, .l TC v5, .n v6, .n v7, .n v8, .n v9, .n v10, .n v11, .n v12, .n v13, .l TB v14, .n v15, .n v16, .n v17, .n v18, .n v19, .n v20, .l TB v21, .n v22, .n v23, .n v24, .n v25, .n v26, .l TB v27, .l TB a0, .l TB a1, .l TB a2, .l TB a3, .l TB a4, .l TB a0, .l TB a1, .l TB a2, .l TB a3, .l TB a4] = some (0, [.n t, .n v0, .n v1, .n v2, .n v3, .n v4, .l TC v5, .n v6, .n v7, .n v8, .n v9, .n v10, .n v11, .n v12, .n v13, .l TB v14, .n v15, .n v16, .n v17, .n v18, .n v19, .n v20, .l TB v21, .n v22, .n v23, .n v24, .n v25, .n v26, .l TB v27]) := by
  obtain ⟨x0, j0⟩ : ∃ x' : List Int, op_L3_15 [.k 0, .n t, .n 0, .n 0, .n v0, .n v1, .n v2, .n v3, .n v4, .l TC v5, .n v6, .n v7, .n v8, .n v9, .n v10, .n v11, .n v12, .n v13, .l TB v14, .n v15, .n v16, .n v17, .n v18, .n v19, .n v20, .l TB v21, .n v22, .n v23, .n v24, .n v25, .n v26, .l TB v27, .l TB a0, .l TB a1, .l TB a2, .l TB a3, .l TB a4, .l TB a0, .l TB a1, .l TB a2, .l TB a3, .l TB a4] = some (0, [.n t, .n 0, .n v0, .n v1, .n v2, .n v3, .n v4, .l TC v5, .n v6, .n v7, .n v8, .n v9, .n v10, .n v11, .n v12, .n v13, .l TB v14, .n v15, .n v16, .n v17, .n v18, .n v19, .n v20, .l TB v21, .n v22, .n v23, .n v24, .n v25, .n v26, .l TB v27, .l TB x', .l TB a1, .l TB a2, .l TB a3, .l TB a4, .l TB a0, .l TB a1, .l TB a2, .l TB a3, .l TB a4]) := by
    rw [op_L3_15_eq]
    exact lpj0 t 0 v0 v1 v2 v3 v4 v5 v6 v7 v8 v9 v10 v11 v12 v13 v14 v15 v16 v17 v18 v19 v20 v21 v22 v23 v24 v25 v26 v27 a1 a2 a3 a4 a0 a1 a2 a3 a4 a0.length 0 a0 FU (by omega) h0 (by unfold FU; omega)
  have s0 : (st_L3_9 [.k 0, .n t, .n 0, .n v0, .n v1, .n v2, .n v3, .n v4, .l TC v5, .n v6, .n v7, .n v8, .n v9, .n v10, .n v11, .n v12, .n v13, .l TB v14, .n v15, .n v16, .n v17, .n v18, .n v19, .n v20, .l TB v21, .n v22, .n v23, .n v24, .n v25, .n v26, .l TB v27, .l TB a0, .l TB a1, .l TB a2, .l TB a3, .l TB a4, .l TB a0, .l TB a1, .l TB a2, .l TB a3, .l TB a4]).sel = some (.go [.k 0, .n t, .n 1, .n v0, .n v1, .n v2, .n v3, .n v4, .l TC v5, .n v6, .n v7, .n v8, .n v9, .n v10, .n v11, .n v12, .n v13, .l TB v14, .n v15, .n v16, .n v17, .n v18, .n v19, .n v20, .l TB v21, .n v22, .n v23, .n v24, .n v25, .n v26, .l TB v27, .l TB x0, .l TB a1, .l TB a2, .l TB a3, .l TB a4, .l TB a0, .l TB a1, .l TB a2, .l TB a3, .l TB a4]) := by
    refine fn_L3_9_k0_im _ _ _ _ _ _ _ _ _ _ _ _ _ _ _ _ _ _ _ _ _ _ _ _ _ _ _ _ _ _ _ _ _ _ _ _ _ _ _ _ ?_
    unfold fn_L3_9_k0
    dsimp only
    refine sel_f (show (!strEq (strOf a0) (strOf a0)) = false by rw [strEq_me]; rfl) ?_
    erw [j0]
    rfl
  obtain ⟨x1, j1⟩ : ∃ x' : List Int, op_L3_15 [.k 1, .n t, .n 1, .n 0, .n v0, .n v1, .n v2, .n v3, .n v4, .l TC v5, .n v6, .n v7, .n v8, .n v9, .n v10, .n v11, .n v12, .n v13, .l TB v14, .n v15, .n v16, .n v17, .n v18, .n v19, .n v20, .l TB v21, .n v22, .n v23, .n v24, .n v25, .n v26, .l TB v27, .l TB a1, .l TB x0, .l TB a2, .l TB a3, .l TB a4, .l TB a0, .l TB a1, .l TB a2, .l TB a3, .l TB a4] = some (0, [.n t, .n 1, .n v0, .n v1, .n v2, .n v3, .n v4, .l TC v5, .n v6, .n v7, .n v8, .n v9, .n v10, .n v11, .n v12, .n v13, .l TB v14, .n v15, .n v16, .n v17, .n v18, .n v19, .n v20, .l TB v21, .n v22, .n v23, .n v24, .n v25, .n v26, .l TB v27, .l TB x0, .l TB x', .l TB a2, .l TB a3, .l TB a4, .l TB a0, .l TB a1, .l TB a2, .l TB a3, .l TB a4]) := by
    rw [op_L3_15_eq]
    exact lpj1 t 1 v0 v1 v2 v3 v4 v5 v6 v7 v8 v9 v10 v11 v12 v13 v14 v15 v16 v17 v18 v19 v20 v21 v22 v23 v24 v25 v26 v27 x0 a2 a3 a4 a0 a1 a2 a3 a4 a1.length 0 a1 FU (by omega) h1 (by unfold FU; omega)
  have s1 : (st_L3_9 [.k 0, .n t, .n 1, .n v0, .n v1, .n v2, .n v3, .n v4, .l TC v5, .n v6, .n v7, .n v8, .n v9, .n v10, .n v11, .n v12, .n v13, .l TB v14, .n v15, .n v16, .n v17, .n v18, .n v19, .n v20, .l TB v21, .n v22, .n v23, .n v24, .n v25, .n v26, .l TB v27, .l TB x0, .l TB a1, .l TB a2, .l TB a3, .l TB a4, .l TB a0, .l TB a1, .l TB a2, .l TB a3, .l TB a4]).sel = some (.go [.k 0, .n t, .n 2, .n v0, .n v1, .n v2, .n v3, .n v4, .l TC v5, .n v6, .n v7, .n v8, .n v9, .n v10, .n v11, .n v12, .n v13, .l TB v14, .n v15, .n v16, .n v17, .n v18, .n v19, .n v20, .l TB v21, .n v22, .n v23, .n v24, .n v25, .n v26, .l TB v27, .l TB x0, .l TB x1, .l TB a2, .l TB a3, .l TB a4, .l TB a0, .l TB a1, .l TB a2, .l TB a3, .l TB a4]) := by
    refine fn_L3_9_k1_im _ _ _ _ _ _ _ _ _ _ _ _ _ _ _ _ _ _ _ _ _ _ _ _ _ _ _ _ _ _ _ _ _ _ _ _ _ _ _ _ ?_
    unfold fn_L3_9_k1
    dsimp only
    refine sel_f (show (!strEq (strOf a1) (strOf a1)) = false by rw [strEq_me]; rfl) ?_
    erw [j1]
    rfl
  obtain ⟨x2, j2⟩ : ∃ x' : List Int, op_L3_15 [.k 2, .n t, .n 2, .n 0, .n v0, .n v1, .n v2, .n v3, .n v4, .l TC v5, .n v6, .n v7, .n v8, .n v9, .n v10, .n v11, .n v12, .n v13, .l TB v14, .n v15, .n v16, .n v17, .n v18, .n v19, .n v20, .l TB v21, .n v22, .n v23, .n v24, .n v25, .n v26, .l TB v27, .l TB a2, .l TB x0, .l TB x1, .l TB a3, .l TB a4, .l TB a0, .l TB a1, .l TB a2, .l TB a3, .l TB a4] = some (0, [.n t, .n 2, .n v0, .n v1, .n v2, .n v3, .n v4, .l TC v5, .n v6, .n v7, .n v8, .n v9, .n v10, .n v11, .n v12, .n v13, .l TB v14, .n v15, .n v16, .n v17, .n v18, .n v19, .n v20, .l TB v21, .n v22, .n v23, .n v24, .n v25, .n v26, .l TB v27, .l TB x0, .l TB x1, .l TB x', .l TB a3, .l TB a4, .l TB a0, .l TB a1, .l TB a2, .l TB a3, .l TB a4]) := by
    rw [op_L3_15_eq]
    exact lpj2 t 2 v0 v1 v2 v3 v4 v5 v6 v7 v8 v9 v10 v11 v12 v13 v14 v15 v16 v17 v18 v19 v20 v21 v22 v23 v24 v25 v26 v27 x0 x1 a3 a4 a0 a1 a2 a3 a4 a2.length 0 a2 FU (by omega) h2 (by unfold FU; omega)
  have s2 : (st_L3_9 [.k 0, .n t, .n 2, .n v0, .n v1, .n v2, .n v3, .n v4, .l TC v5, .n v6, .n v7, .n v8, .n v9, .n v10, .n v11, .n v12, .n v13, .l TB v14, .n v15, .n v16, .n v17, .n v18, .n v19, .n v20, .l TB v21, .n v22, .n v23, .n v24, .n v25, .n v26, .l TB v27, .l TB x0, .l TB x1, .l TB a2, .l TB a3, .l TB a4, .l TB a0, .l TB a1, .l TB a2, .l TB a3, .l TB a4]).sel = some (.go [.k 0, .n t, .n 3, .n v0, .n v1, .n v2, .n v3, .n v4, .l TC v5, .n v6, .n v7, .n v8, .n v9, .n v10, .n v11, .n v12, .n v13, .l TB v14, .n v15, .n v16, .n v17, .n v18, .n v19, .n v20, .l TB v21, .n v22, .n v23, .n v24, .n v25, .n v26, .l TB v27, .l TB x0, .l TB x1, .l TB x2, .l TB a3, .l TB a4, .l TB a0, .l TB a1, .l TB a2, .l TB a3, .l TB a4]) := by
    refine fn_L3_9_k2_im _ _ _ _ _ _ _ _ _ _ _ _ _ _ _ _ _ _ _ _ _ _ _ _ _ _ _ _ _ _ _ _ _ _ _ _ _ _ _ _ ?_
    unfold fn_L3_9_k2
    dsimp only
    refine sel_f (show (!strEq (strOf a2) (strOf a2)) = false by rw [strEq_me]; rfl) ?_
    erw [j2]
    rfl
  obtain ⟨x3, j3⟩ : ∃ x' : List Int, op_L3_15 [.k 3, .n t, .n 3, .n 0, .n v0, .n v1, .n v2, .n v3, .n v4, .l TC v5, .n v6, .n v7, .n v8, .n v9, .n v10, .n v11, .n v12, .n v13, .l TB v14, .n v15, .n v16, .n v17, .n v18, .n v19, .n v20, .l TB v21, .n v22, .n v23, .n v24, .n v25, .n v26, .l TB v27, .l TB a3, .l TB x0, .l TB x1, .l TB x2, .l TB a4, .l TB a0, .l TB a1, .l TB a2, .l TB a3, .l TB a4] = some (0, [.n t, .n 3, .n v0, .n v1, .n v2, .n v3, .n v4, .l TC v5, .n v6, .n v7, .n v8, .n v9, .n v10, .n v11, .n v12, .n v13, .l TB v14, .n v15, .n v16, .n v17, .n v18, .n v19, .n v20, .l TB v21, .n v22, .n v23, .n v24, .n v25, .n v26, .l TB v27, .l TB x0, .l TB x1, .l TB x2, .l TB x', .l TB a4, .l TB a0, .l TB a1, .l TB a2, .l TB a3, .l TB a4]) := by
    rw [op_L3_15_eq]
    exact lpj3 t 3 v0 v1 v2 v3 v4 v5 v6 v7 v8 v9 v10 v11 v12 v13 v14 v15 v16 v17 v18 v19 v20 v21 v22 v23 v24 v25 v26 v27 x0 x1 x2 a4 a0 a1 a2 a3 a4 a3.length 0 a3 FU (by omega) h3 (by unfold FU; omega)
  have s3 : (st_L3_9 [.k 0, .n t, .n 3, .n v0, .n v1, .n v2, .n v3, .n v4, .l TC v5, .n v6, .n v7, .n v8, .n v9, .n v10, .n v11, .n v12, .n v13, .l TB v14, .n v15, .n v16, .n v17, .n v18, .n v19, .n v20, .l TB v21, .n v22, .n v23, .n v24, .n v25, .n v26, .l TB v27, .l TB x0, .l TB x1, .l TB x2, .l TB a3, .l TB a4, .l TB a0, .l TB a1, .l TB a2, .l TB a3, .l TB a4]).sel = some (.go [.k 0, .n t, .n 4, .n v0, .n v1, .n v2, .n v3, .n v4, .l TC v5, .n v6, .n v7, .n v8, .n v9, .n v10, .n v11, .n v12, .n v13, .l TB v14, .n v15, .n v16, .n v17, .n v18, .n v19, .n v20, .l TB v21, .n v22, .n v23, .n v24, .n v25, .n v26, .l TB v27, .l TB x0, .l TB x1, .l TB x2, .l TB x3, .l TB a4, .l TB a0, .l TB a1, .l TB a2, .l TB a3, .l TB a4]) := by
    refine fn_L3_9_k3_im _ _ _ _ _ _ _ _ _ _ _ _ _ _ _ _ _ _ _ _ _ _ _ _ _ _ _ _ _ _ _ _ _ _ _ _ _ _ _ _ ?_
    unfold fn_L3_9_k3
    dsimp only
    refine sel_f (show (!strEq (strOf a3) (strOf a3)) = false by rw [strEq_me]; rfl) ?_
    erw [j3]
    rfl
  obtain ⟨x4, j4⟩ : ∃ x' : List Int, op_L3_15 [.k 4, .n t, .n 4, .n 0, .n v0, .n v1, .n v2, .n v3, .n v4, .l TC v5, .n v6, .n v7, .n v8, .n v9, .n v10, .n v11, .n v12, .n v13, .l TB v14, .n v15, .n v16, .n v17, .n v18, .n v19, .n v20, .l TB v21, .n v22, .n v23, .n v24, .n v25, .n v26, .l TB v27, .l TB a4, .l TB x0, .l TB x1, .l TB x2, .l TB x3, .l TB a0, .l TB a1, .l TB a2, .l TB a3, .l TB a4] = some (0, [.n t, .n 4, .n v0, .n v1, .n v2, .n v3, .n v4, .l TC v5, .n v6, .n v7, .n v8, .n v9, .n v10, .n v11, .n v12, .n v13, .l TB v14, .n v15, .n v16, .n v17, .n v18, .n v19, .n v20, .l TB v21, .n v22, .n v23, .n v24, .n v25, .n v26, .l TB v27, .l TB x0, .l TB x1, .l TB x2, .l TB x3, .l TB x', .l TB a0, .l TB a1, .l TB a2, .l TB a3, .l TB a4]) := by
    rw [op_L3_15_eq]
    exact lpj4 t 4 v0 v1 v2 v3 v4 v5 v6 v7 v8 v9 v10 v11 v12 v13 v14 v15 v16 v17 v18 v19 v20 v21 v22 v23 v24 v25 v26 v27 x0 x1 x2 x3 a0 a1 a2 a3 a4 a4.length 0 a4 FU (by omega) h4 (by unfold FU; omega)
  have s4 : (st_L3_9 [.k 0, .n t, .n 4, .n v0, .n v1, .n v2, .n v3, .n v4, .l TC v5, .n v6, .n v7, .n v8, .n v9, .n v10, .n v11, .n v12, .n v13, .l TB v14, .n v15, .n v16, .n v17, .n v18, .n v19, .n v20, .l TB v21, .n v22, .n v23, .n v24, .n v25, .n v26, .l TB v27, .l TB x0, .l TB x1, .l TB x2, .l TB x3, .l TB a4, .l TB a0, .l TB a1, .l TB a2, .l TB a3, .l TB a4]).sel = some (.go [.k 0, .n t, .n 5, .n v0, .n v1, .n v2, .n v3, .n v4, .l TC v5, .n v6, .n v7, .n v8, .n v9, .n v10, .n v11, .n v12, .n v13, .l TB v14, .n v15, .n v16, .n v17, .n v18, .n v19, .n v20, .l TB v21, .n v22, .n v23, .n v24, .n v25, .n v26, .l TB v27, .l TB x0, .l TB x1, .l TB x2, .l TB x3, .l TB x4, .l TB a0, .l TB a1, .l TB a2, .l TB a3, .l TB a4]) := by
    refine fn_L3_9_k4_im _ _ _ _ _ _ _ _ _ _ _ _ _ _ _ _ _ _ _ _ _ _ _ _ _ _ _ _ _ _ _ _ _ _ _ _ _ _ _ _ ?_
    unfold fn_L3_9_k4
    dsimp only
    refine sel_f (show (!strEq (strOf a4) (strOf a4)) = false by rw [strEq_me]; rfl) ?_
    erw [j4]
    rfl
  have s5 : (st_L3_9 [.k 0, .n t, .n 5, .n v0, .n v1, .n v2, .n v3, .n v4, .l TC v5, .n v6, .n v7, .n v8, .n v9, .n v10, .n v11, .n v12, .n v13, .l TB v14, .n v15, .n v16, .n v17, .n v18, .n v19, .n v20, .l TB v21, .n v22, .n v23, .n v24, .n v25, .n v26, .l TB v27, .l TB x0, .l TB x1, .l TB x2, .l TB x3, .l TB x4, .l TB a0, .l TB a1, .l TB a2, .l TB a3, .l TB a4]).sel = some (.stop 0 [.n t, .n v0, .n v1, .n v2, .n v3, .n v4, .l TC v5, .n v6, .n v7, .n v8, .n v9, .n v10, .n v11, .n v12, .n v13, .l TB v14, .n v15, .n v16, .n v17, .n v18, .n v19, .n v20, .l TB v21, .n v22, .n v23, .n v24, .n v25, .n v26, .l TB v27]) := by
    refine fn_L3_9_k5_im _ _ _ _ _ _ _ _ _ _ _ _ _ _ _ _ _ _ _ _ _ _ _ _ _ _ _ _ _ _ _ _ _ _ _ _ _ _ _ _ ?_
    unfold fn_L3_9_k5
    rfl
  rw [op_L3_9_eq]
  show iterS st_L3_9 (18446744073709551610 + 1 + 1 + 1 + 1 + 1 + 1) _ = _
  exact it_go s0 (it_go s1 (it_go s2 (it_go s3 (it_go s4 (it_stop s5)))))
end Go.Proofs.Ytlambinleegdoaa.Vx
namespace Go.Proofs.Ytlambinleegdoaa.Vx
open Go Go.RowKit
set_option linter.unusedVariables false
set_option linter.unusedSimpArgs false
set_option linter.unusedSimpArgs false
set_option maxRecDepth 100000
set_option maxHeartbeats 4000000
theorem bytes_back {b : List Int} (h : Wb b) : bytesOf (strOf b) = b := by
  unfold bytesOf strOf
  simp only [List.map_map]
  conv => rhs; rw [← List.map_id b]
  refine List.map_congr_left fun x hx => ?_
  have := h x hx
  show (((UInt8.ofNat x.toNat).toNat : Nat) : Int) = x
  rw [UInt8.toNat_ofNat']
  omega
theorem bif_len (c : Bool) {l : List Int} {n : Nat} (h : l.length ≤ n) : (bif c then l else []).length ≤ n := by
  cases c
  · exact Nat.zero_le _
  · exact h
theorem rd0 (v0 : Int) (v1 : Int) (v2 : Int) (v3 : Int) (v4 : Int) (v5 : List Cmd) (v6 : Int) (v7 : Int) (v8 : Int) (v9 : Int) (v10 : Int) (v11 : Int) (v12 : Int) (v13 : Int) (v14 : List Int) (v15 : Int) (v16 : Int) (v17 : Int) (v18 : Int) (v19 : Int) (v20 : Int) (v21 : List Int) (v22 : Int) (v23 : Int) (v24 : Int) (v25 : Int) (v26 : Int) (v27 : List Int) (g0 : 0 ≤ v0 ∧ v0 < 256) (g6 : 0 ≤ v6 ∧ v6 < 256) (g23 : 0 ≤ v23 ∧ v23 < 256) (g24 : 0 ≤ v24 ∧ v24 < 256) (l14 : v14.length = 64) (l21 : v21.length = 64) (w14 : Wb v14) (w21 : Wb v21) (w27 : Wb v27) (n5 : v5.length ≤ 1000) (n27 : v27.length ≤ 5000) : (st_L3_4 [.k 0, .n 0, .n v0, .n v1, .n v2, .n v3, .n v4, .l TC v5, .n v6, .n v7, .n v8, .n v9, .n v10, .n v11, .n v12, .n v13, .l TB v14, .n v15, .n v16, .n v17, .n v18, .n v19, .n v20, .l TB v21, .n v22, .n v23, .n v24, .n v25, .n v26, .l TB v27]).sel = some (.go [.k 0, .n 1, .n v0, .n v1, .n v2, .n v3, .n v4, .l TC v5, .n v6, .n v7, .n v8, .n v9, .n v10, .n v11, .n v12, .n v13, .l TB v14, .n v15, .n v16, .n v17, .n v18, .n v19, .n v20, .l TB v21, .n v22, .n v23, .n v24, .n v25, .n v26, .l TB v27]) := by
  obtain ⟨f1, hf1⟩ : ∃ f : List Int, f = (bif v5.all cmdOk && (win 1099511627776 [v1] && decide ((v5.length : Int) ≤ 8)) then chk (inL v0 v1 v2 v3 v4 v5) else []) := ⟨_, rfl⟩
  obtain ⟨f2, hf2⟩ : ∃ f : List Int, f = (bif win 1099511627776 [v7, v8] then chk (outB v6 v7 v8 v9 v10) else []) := ⟨_, rfl⟩
  obtain ⟨f3, hf3⟩ : ∃ f : List Int, f = (chk (3 :: stL v11 v12 v13 v14 v15)) := ⟨_, rfl⟩
  obtain ⟨f4, hf4⟩ : ∃ f : List Int, f = (bif win 1099511627776 [v16, v17] then chk (logL v16 v17 v18 v19 v20 v21 v22) else []) := ⟨_, rfl⟩
  obtain ⟨f5, hf5⟩ : ∃ f : List Int, f = (bif win 4611686018427387904 [v25, v26] && decide ((v27.length : Int) ≤ 2048) then chk (liL v23 v24 v25 v26 v27) else []) := ⟨_, rfl⟩
  have m1 : f1.length ≤ 1000000 := by
    rw [hf1]
    exact bif_len _ (by rw [chk_len, inL_len]; omega)
  have m2 : f2.length ≤ 1000000 := by
    rw [hf2]
    exact bif_len _ (by rw [chk_len, outB_len]; omega)
  have m3 : f3.length ≤ 1000000 := by
    rw [hf3]
    rw [chk_len, List.length_cons, stL_len _ _ _ _ _ l14]
    omega
  have m4 : f4.length ≤ 1000000 := by
    rw [hf4]
    exact bif_len _ (by rw [chk_len, logL_len _ _ _ _ _ _ _ l21]; omega)
  have m5 : f5.length ≤ 1000000 := by
    rw [hf5]
    exact bif_len _ (by rw [chk_len, liL_len]; omega)
  have e1 : op_9p [.n v0, .n v1, .n v2, .n v3, .n v4, .l TC v5] = some (0, [.l TB f1]) := by
    rw [hf1]
    exact p9 v0 v1 v2 v3 v4 v5 g0.1 g0.2 n5
  have e2 : op_10p [.n v6, .n v7, .n v8, .n v9, .n v10] = some (0, [.l TB f2]) := by
    rw [hf2]
    exact p10 v6 v7 v8 v9 v10 g6.1 g6.2
  have e3 : op_11p [.n v11, .n v12, .n v13, .l TB v14, .n v15] = some (0, [.l TB f3]) := by
    rw [hf3]
    exact p11 v11 v12 v13 v14 v15 l14
  have e4 : op_12p [.n v16, .n v17, .n v18, .n v19, .n v20, .l TB v21, .n v22] = some (0, [.l TB f4]) := by
    rw [hf4]
    exact p12 v16 v17 v18 v19 v20 v21 v22 l21
  have e5 : op_13p [.n v23, .n v24, .n v25, .n v26, .l TB v27] = some (0, [.l TB f5]) := by
    rw [hf5]
    exact p13 v23 v24 v25 v26 v27 g23 g24
  have e6 : op_14p [.n v0, .n v1, .n v2, .n v3, .n v4, .l TC v5] = some (0, [.l TB f1]) := by
    rw [hf1]
    exact m14 v0 v1 v2 v3 v4 v5 g0.1 g0.2
  have e7 : op_16p [.n v6, .n v7, .n v8, .n v9, .n v10] = some (0, [.l TB f2]) := by
    rw [hf2]
    exact m16 v6 v7 v8 v9 v10 g6.1 g6.2
  have e8 : op_18p [.n v11, .n v12, .n v13, .l TB v14, .n v15] = some (0, [.l TB f3]) := by
    rw [hf3]
    exact m18 v11 v12 v13 v14 v15 l14 w14
  have e9 : op_19p [.n v16, .n v17, .n v18, .n v19, .n v20, .l TB v21, .n v22] = some (0, [.l TB f4]) := by
    rw [hf4]
    exact m19 v16 v17 v18 v19 v20 v21 v22 l21 w21
  have e10 : op_21p [.n v23, .n v24, .n v25, .n v26, .s (strOf v27)] = some (0, [.l TB f5]) := by
    rw [hf5]
    have q := m21 v23 v24 v25 v26 (strOf v27) g23 g24 (by rw [bytes_back w27]; exact w27)
    rw [bytes_back w27] at q
    exact q
  clear hf1 hf2 hf3 hf4 hf5
  have e11 := t9k 0 v0 v1 v2 v3 v4 v5 v6 v7 v8 v9 v10 v11 v12 v13 v14 v15 v16 v17 v18 v19 v20 v21 v22 v23 v24 v25 v26 v27 f1 f2 f3 f4 f5 m1 m2 m3 m4 m5
  refine fn_L3_4_t_im _ _ _ _ _ _ _ _ _ _ _ _ _ _ _ _ _ _ _ _ _ _ _ _ _ _ _ _ _ (by omega) l14 l21 _ ?_
  unfold fn_L3_4_t
  dsimp only
  refine sel_t (decide_eq_true (show (0 : Int) < 2 by omega)) ?_
  erw [e1]
  refine sel_t rfl ?_
  erw [e2]
  refine sel_t rfl ?_
  erw [e3]
  refine sel_t rfl ?_
  erw [e4]
  refine sel_t rfl ?_
  erw [e5]
  refine sel_t rfl ?_
  erw [e6]
  refine sel_t rfl ?_
  erw [e7]
  refine sel_t rfl ?_
  erw [e8]
  refine sel_t rfl ?_
  erw [e9]
  refine sel_t rfl ?_
  erw [e10]
  refine sel_t rfl ?_
  erw [e11]
  refine sel_t rfl ?_
  rfl
theorem rd1 (v0 : Int) (v1 : Int) (v2 : Int) (v3 : Int) (v4 : Int) (v5 : List Cmd) (v6 : Int) (v7 : Int) (v8 : Int) (v9 : Int) (v10 : Int) (v11 : Int) (v12 : Int) (v13 : Int) (v14 : List Int) (v15 : Int) (v16 : Int) (v17 : Int) (v18 : Int) (v19 : Int) (v20 : Int) (v21 : List Int) (v22 : Int) (v23 : Int) (v24 : Int) (v25 : Int) (v26 : Int) (v27 : List Int) (g0 : 0 ≤ v0 ∧ v0 < 256) (g6 : 0 ≤ v6 ∧ v6 < 256) (g23 : 0 ≤ v23 ∧ v23 < 256) (g24 : 0 ≤ v24 ∧ v24 < 256) (l14 : v14.length = 64) (l21 : v21.length = 64) (w14 : Wb v14) (w21 : Wb v21) (w27 : Wb v27) (n5 : v5.length ≤ 1000) (n27 : v27.length ≤ 5000) : (st_L3_4 [.k 0, .n 1, .n v0, .n v1, .n v2, .n v3, .n v4, .l TC v5, .n v6, .n v7, .n v8, .n v9, .n v10, .n v11, .n v12, .n v13, .l TB v14, .n v15, .n v16, .n v17, .n v18, .n v19, .n v20, .l TB v21, .n v22, .n v23, .n v24, .n v25, .n v26, .l TB v27]).sel = some (.go [.k 0, .n 2, .n v0, .n v1, .n v2, .n v3, .n v4, .l TC v5, .n v6, .n v7, .n v8, .n v9, .n v10, .n v11, .n v12, .n v13, .l TB v14, .n v15, .n v16, .n v17, .n v18, .n v19, .n v20, .l TB v21, .n v22, .n v23, .n v24, .n v25, .n v26, .l TB v27]) := by
  obtain ⟨f1, hf1⟩ : ∃ f : List Int, f = (bif v5.all cmdOk && (win 1099511627776 [v1] && decide ((v5.length : Int) ≤ 8)) then chk (inL v0 v1 v2 v3 v4 v5) else []) := ⟨_, rfl⟩
  obtain ⟨f2, hf2⟩ : ∃ f : List Int, f = (bif win 1099511627776 [v7, v8] then chk (outB v6 v7 v8 v9 v10) else []) := ⟨_, rfl⟩
  obtain ⟨f3, hf3⟩ : ∃ f : List Int, f = (chk (3 :: stL v11 v12 v13 v14 v15)) := ⟨_, rfl⟩
  obtain ⟨f4, hf4⟩ : ∃ f : List Int, f = (bif win 1099511627776 [v16, v17] then chk (logL v16 v17 v18 v19 v20 v21 v22) else []) := ⟨_, rfl⟩
  obtain ⟨f5, hf5⟩ : ∃ f : List Int, f = (bif win 4611686018427387904 [v25, v26] && decide ((v27.length : Int) ≤ 2048) then chk (liL v23 v24 v25 v26 v27) else []) := ⟨_, rfl⟩
  have m1 : f1.length ≤ 1000000 := by
    rw [hf1]
    exact bif_len _ (by rw [chk_len, inL_len]; omega)
  have m2 : f2.length ≤ 1000000 := by
    rw [hf2]
    exact bif_len _ (by rw [chk_len, outB_len]; omega)
  have m3 : f3.length ≤ 1000000 := by
    rw [hf3]
    rw [chk_len, List.length_cons, stL_len _ _ _ _ _ l14]
    omega
  have m4 : f4.length ≤ 1000000 := by
    rw [hf4]
    exact bif_len _ (by rw [chk_len, logL_len _ _ _ _ _ _ _ l21]; omega)
  have m5 : f5.length ≤ 1000000 := by
    rw [hf5]
    exact bif_len _ (by rw [chk_len, liL_len]; omega)
  have e1 : op_9p [.n v0, .n v1, .n v2, .n v3, .n v4, .l TC v5] = some (0, [.l TB f1]) := by
    rw [hf1]
    exact p9 v0 v1 v2 v3 v4 v5 g0.1 g0.2 n5
  have e2 : op_10p [.n v6, .n v7, .n v8, .n v9, .n v10] = some (0, [.l TB f2]) := by
    rw [hf2]
    exact p10 v6 v7 v8 v9 v10 g6.1 g6.2
  have e3 : op_11p [.n v11, .n v12, .n v13, .l TB v14, .n v15] = some (0, [.l TB f3]) := by
    rw [hf3]
    exact p11 v11 v12 v13 v14 v15 l14
  have e4 : op_12p [.n v16, .n v17, .n v18, .n v19, .n v20, .l TB v21, .n v22] = some (0, [.l TB f4]) := by
    rw [hf4]
    exact p12 v16 v17 v18 v19 v20 v21 v22 l21
  have e5 : op_13p [.n v23, .n v24, .n v25, .n v26, .l TB v27] = some (0, [.l TB f5]) := by
    rw [hf5]
    exact p13 v23 v24 v25 v26 v27 g23 g24
  have e6 : op_14p [.n v0, .n v1, .n v2, .n v3, .n v4, .l TC v5] = some (0, [.l TB f1]) := by
    rw [hf1]
    exact m14 v0 v1 v2 v3 v4 v5 g0.1 g0.2
  have e7 : op_16p [.n v6, .n v7, .n v8, .n v9, .n v10] = some (0, [.l TB f2]) := by
    rw [hf2]
    exact m16 v6 v7 v8 v9 v10 g6.1 g6.2
  have e8 : op_18p [.n v11, .n v12, .n v13, .l TB v14, .n v15] = some (0, [.l TB f3]) := by
    rw [hf3]
    exact m18 v11 v12 v13 v14 v15 l14 w14
  have e9 : op_19p [.n v16, .n v17, .n v18, .n v19, .n v20, .l TB v21, .n v22] = some (0, [.l TB f4]) := by
    rw [hf4]
    exact m19 v16 v17 v18 v19 v20 v21 v22 l21 w21
  have e10 : op_21p [.n v23, .n v24, .n v25, .n v26, .s (strOf v27)] = some (0, [.l TB f5]) := by
    rw [hf5]
    have q := m21 v23 v24 v25 v26 (strOf v27) g23 g24 (by rw [bytes_back w27]; exact w27)
    rw [bytes_back w27] at q
    exact q
  clear hf1 hf2 hf3 hf4 hf5
  have e11 := t9k 1 v0 v1 v2 v3 v4 v5 v6 v7 v8 v9 v10 v11 v12 v13 v14 v15 v16 v17 v18 v19 v20 v21 v22 v23 v24 v25 v26 v27 f1 f2 f3 f4 f5 m1 m2 m3 m4 m5
  refine fn_L3_4_t_im _ _ _ _ _ _ _ _ _ _ _ _ _ _ _ _ _ _ _ _ _ _ _ _ _ _ _ _ _ (by omega) l14 l21 _ ?_
  unfold fn_L3_4_t
  dsimp only
  refine sel_t (decide_eq_true (show (1 : Int) < 2 by omega)) ?_
  erw [e1]
  refine sel_t rfl ?_
  erw [e2]
  refine sel_t rfl ?_
  erw [e3]
  refine sel_t rfl ?_
  erw [e4]
  refine sel_t rfl ?_
  erw [e5]
  refine sel_t rfl ?_
  erw [e6]
  refine sel_t rfl ?_
  erw [e7]
  refine sel_t rfl ?_
  erw [e8]
  refine sel_t rfl ?_
  erw [e9]
  refine sel_t rfl ?_
  erw [e10]
  refine sel_t rfl ?_
  erw [e11]
  refine sel_t rfl ?_
  rfl
theorem t3L (v0 : Int) (v1 : Int) (v2 : Int) (v3 : Int) (v4 : Int) (v5 : List Cmd) (v6 : Int) (v7 : Int) (v8 : Int) (v9 : Int) (v10 : Int) (v11 : Int) (v12 : Int) (v13 : Int) (v14 : List Int) (v15 : Int) (v16 : Int) (v17 : Int) (v18 : Int) (v19 : Int) (v20 : Int) (v21 : List Int) (v22 : Int) (v23 : Int) (v24 : Int) (v25 : Int) (v26 : Int) (v27 : List Int) (g0 : 0 ≤ v0 ∧ v0 < 256) (g6 : 0 ≤ v6 ∧ v6 < 256) (g23 : 0 ≤ v23 ∧ v23 < 256) (g24 : 0 ≤ v24 ∧ v24 < 256) (l14 : v14.length = 64) (l21 : v21.length = 64) (w14 : Wb v14) (w21 : Wb v21) (w27 : Wb v27) (n5 : v5.length ≤ 1000) (n27 : v27.length ≤ 5000) : op_L3_4 [.k 0, .n 0, .n v0, .n v1, .n v2, .n v3, .n v4, .l TC v5, .n v6, .n v7, .n v8, .n v9, .n v10, .n v11, .n v12, .n v13, .l TB v14, .n v15, .n v16, .n v17, .n v18, .n v19, .n v20, .l TB v21, .n v22, .n v23, .n v24, .n v25, .n v26, .l TB v27] = some (0, []) := by
  have s2 : (st_L3_4 [.k 0, .n 2, .n v0, .n v1, .n v2, .n v3, .n v4, .l TC v5, .n v6, .n v7, .n v8, .n v9, .n v10, .n v11, .n v12, .n v13, .l TB v14, .n v15, .n v16, .n v17, .n v18, .n v19, .n v20, .l TB v21, .n v22, .n v23, .n v24, .n v25, .n v26, .l TB v27]).sel = some (.stop 0 []) := by
    refine fn_L3_4_t_im _ _ _ _ _ _ _ _ _ _ _ _ _ _ _ _ _ _ _ _ _ _ _ _ _ _ _ _ _ (by omega) l14 l21 _ ?_
    unfold fn_L3_4_t
    exact sel_f (decide_eq_false (show ¬ ((2 : Int) < 2) by omega)) rfl
  rw [op_L3_4_eq]
  show iterS st_L3_4 (18446744073709551613 + 1 + 1 + 1) _ = _
  exact it_go (rd0 v0 v1 v2 v3 v4 v5 v6 v7 v8 v9 v10 v11 v12 v13 v14 v15 v16 v17 v18 v19 v20 v21 v22 v23 v24 v25 v26 v27 g0 g6 g23 g24 l14 l21 w14 w21 w27 n5 n27) (it_go (rd1 v0 v1 v2 v3 v4 v5 v6 v7 v8 v9 v10 v11 v12 v13 v14 v15 v16 v17 v18 v19 v20 v21 v22 v23 v24 v25 v26 v27 g0 g6 g23 g24 l14 l21 w14 w21 w27 n5 n27) (it_stop s2))
theorem t3 (v0 : Int) (v1 : Int) (v2 : Int) (v3 : Int) (v4 : Int) (v5 : List Cmd) (v6 : Int) (v7 : Int) (v8 : Int) (v9 : Int) (v10 : Int) (v11 : Int) (v12 : Int) (v13 : Int) (v14 : List Int) (v15 : Int) (v16 : Int) (v17 : Int) (v18 : Int) (v19 : Int) (v20 : Int) (v21 : List Int) (v22 : Int) (v23 : Int) (v24 : Int) (v25 : Int) (v26 : Int) (v27 : List Int) (g0 : 0 ≤ v0 ∧ v0 < 256) (g6 : 0 ≤ v6 ∧ v6 < 256) (g23 : 0 ≤ v23 ∧ v23 < 256) (g24 : 0 ≤ v24 ∧ v24 < 256) (l14 : v14.length = 64) (l21 : v21.length = 64) (w14 : Wb v14) (w21 : Wb v21) (w27 : Wb v27) : (ev_W3 [.n v0, .n v1, .n v2, .n v3, .n v4, .l TC v5, .n v6, .n v7, .n v8, .n v9, .n v10, .n v11, .n v12, .n v13, .l TB v14, .n v15, .n v16, .n v17, .n v18, .n v19, .n v20, .l TB v21, .n v22, .n v23, .n v24, .n v25, .n v26, .l TB v27]).sel = some true := by
  refine fn_W3_t_im _ _ _ _ _ _ _ _ _ _ _ _ _ _ _ _ _ _ _ _ _ _ _ _ _ _ _ _ l14 l21 _ ?_
  unfold fn_W3_t
  dsimp only
  by_cases c5 : (v5.length : Int) ≤ 1000
  · refine sel_t (decide_eq_true c5) ?_
    by_cases c27 : (v27.length : Int) ≤ 5000
    · refine sel_f (ndt c27) ?_
      have e := t3L v0 v1 v2 v3 v4 v5 v6 v7 v8 v9 v10 v11 v12 v13 v14 v15 v16 v17 v18 v19 v20 v21 v22 v23 v24 v25 v26 v27 g0 g6 g23 g24 l14 l21 w14 w21 w27 (by omega) (by omega)
      erw [e]
      rfl
    · exact sel_t (ndf c27) rfl
  · exact sel_f (decide_eq_false c5) rfl
abbrev TU8 : Ty := .int .u8
abbrev TInp : Ty := .pair TU8 (.pair TI (.pair TL (.pair (.int .u32) (.pair (.int .u32) (.sl TC)))))
abbrev TOut : Ty := .pair TU8 (.pair TI (.pair TI (.pair TL (.int .u32))))
abbrev TStt : Ty := .pair TL (.pair TL (.pair TL (.pair (.arr 64 TB) (.int .u32))))
abbrev TLog : Ty := .pair TI (.pair TI TStt)
abbrev TLnk : Ty := .pair TU8 (.pair TU8 (.pair TI (.pair TI (.sl TB))))
theorem wf8 {n : Int} (h : wfD (.int .u8) n = true) : 0 ≤ n ∧ n < 256 := by
  have a' : (decide (IntKind.min .u8 ≤ n) && decide (n ≤ IntKind.max .u8)) = true := h
  rw [Bool.and_eq_true, decide_eq_true_eq, decide_eq_true_eq] at a'
  have m1 : IntKind.min .u8 = 0 := rfl
  have m2 : IntKind.max .u8 = 255 := rfl
  omega
theorem wf_arr {l : List (Ty.den TB)} (h : wfD (.arr 64 TB) l = true) : l.length = 64 ∧ Wb l := by
  have h' : (decide (l.length = 64) && wfL (wfD TB) l) = true := h
  rw [Bool.and_eq_true, decide_eq_true_eq, wfL_iff] at h'
  exact ⟨h'.1, fun x hx => wf8 (h'.2 x hx)⟩
theorem wf_sl {l : List (Ty.den TB)} (h : wfD (.sl TB) l = true) : Wb l := by
  have h' : (decide (l.length ≤ maxLen) && wfL (wfD TB) l) = true := h
  rw [Bool.and_eq_true, wfL_iff] at h'
  exact fun x hx => wf8 (h'.2 x hx)
theorem wp1 {a b : Ty} {d : (Ty.pair a b).den} (h : wfD (.pair a b) d = true) : wfD a d.1 = true := (wf_get h).1
theorem wp2 {a b : Ty} {d : (Ty.pair a b).den} (h : wfD (.pair a b) d = true) : wfD b d.2 = true := (wf_get h).2
theorem t3' {i : Ty.den TInp} {o : Ty.den TOut} {s : Ty.den TStt} {g : Ty.den TLog} {l : Ty.den TLnk} (hi : wfD TInp i = true) (ho : wfD TOut o = true) (hs : wfD TStt s = true) (hg : wfD TLog g = true) (hl : wfD TLnk l = true) :
    (ev_W3 [.n i.1, .n i.2.1, .n i.2.2.1, .n i.2.2.2.1, .n i.2.2.2.2.1, .l TC i.2.2.2.2.2, .n o.1, .n o.2.1, .n o.2.2.1, .n o.2.2.2.1, .n o.2.2.2.2, .n s.1, .n s.2.1, .n s.2.2.1, .l TB s.2.2.2.1, .n s.2.2.2.2, .n g.1, .n g.2.1, .n g.2.2.1, .n g.2.2.2.1, .n g.2.2.2.2.1, .l TB g.2.2.2.2.2.1, .n g.2.2.2.2.2.2, .n l.1, .n l.2.1, .n l.2.2.1, .n l.2.2.2.1, .l TB l.2.2.2.2]).sel = some true :=
  t3 _ _ _ _ _ _ _ _ _ _ _ _ _ _ _ _ _ _ _ _ _ _ _ _ _ _ _ _ (wf8 (wp1 hi)) (wf8 (wp1 ho)) (wf8 (wp1 hl)) (wf8 (wp1 (wp2 hl))) (wf_arr (wp1 (wp2 (wp2 (wp2 hs))))).1 (wf_arr (wp1 (wp2 (wp2 (wp2 (wp2 (wp2 hg))))))).1 (wf_arr (wp1 (wp2 (wp2 (wp2 hs))))).2 (wf_arr (wp1 (wp2 (wp2 (wp2 (wp2 (wp2 hg))))))).2 (wf_sl (wp2 (wp2 (wp2 (wp2 hl)))))
end Go.Proofs.Ytlambinleegdoaa.Vx
