import Derived.Test.YtlambinleegdoaaX13v
import Derived.Test.YtlambinleegdoaaVxBits
namespace Go.Proofs.Ytlambinleegdoaa.Vx
open Go Go.RowKit
set_option linter.unusedVariables false
set_option linter.unusedSimpArgs false
set_option maxRecDepth 100000
set_option maxHeartbeats 4000000
theorem take_getD {α : Type} {l : List α} {n : Nat} {d : α} (h : n < l.length) : l.take (n + 1) = l.take n ++ [l.getD n d] := by
  rw [List.take_succ_eq_append_getElem h, List.getD_eq_getElem?_getD, List.getElem?_eq_getElem h]; rfl
def firstHit (hit : Nat → Bool) : Nat → Option Nat
  | 0 => none
  | m + 1 => match firstHit hit m with
    | some i => some i
    | none => match hit m with
      | true => some m
      | false => none
theorem firstHit_none {hit : Nat → Bool} : ∀ {m : Nat}, firstHit hit m = none → ∀ i, i < m → hit i = false
  | 0, _, i, hi => by omega
  | m + 1, h, i, hi => by
    unfold firstHit at h
    split at h
    · cases h
    · rename_i h0
      split at h
      · cases h
      · rename_i h1
        rcases Nat.lt_or_ge i m with q | q
        · exact firstHit_none h0 i q
        · have : i = m := by omega
          subst this; exact h1
theorem firstHit_some {hit : Nat → Bool} : ∀ {m k : Nat}, firstHit hit m = some k → k < m ∧ hit k = true ∧ ∀ i, i < k → hit i = false
  | 0, k, h => by cases h
  | m + 1, k, h => by
    unfold firstHit at h
    split at h
    · rename_i i h0
      cases h
      obtain ⟨h1, h2, h3⟩ := firstHit_some h0
      exact ⟨by omega, h2, h3⟩
    · rename_i h0
      split at h
      · rename_i h1
        cases h
        exact ⟨by omega, h1, firstHit_none h0⟩
      · cases h
theorem firstHit_congr {hit hit' : Nat → Bool} : ∀ {m : Nat}, (∀ i, i < m → hit i = hit' i) → firstHit hit m = firstHit hit' m
  | 0, _ => rfl
  | m + 1, h => by
    unfold firstHit
    rw [firstHit_congr fun i hi => h i (by omega), h m (by omega)]
/-- A loop that looks for something. -/
theorem iter_find {st : List Dat → Tree Step} (s : Nat → List Dat) (m : Nat) (hit : Nat → Bool) (y : Nat → Nat × List Dat) (y0 : Nat × List Dat)
    (go : ∀ i, i < m → hit i = false → (st (s i)).sel = some (.go (s (i + 1)))) (found : ∀ i, i < m → hit i = true → (st (s i)).sel = some (.stop (y i).1 (y i).2)) (stop : (st (s m)).sel = some (.stop y0.1 y0.2)) :
    ∀ fuel, m < fuel → iterS st fuel (s 0) = some (match firstHit hit m with | some k => y k | none => y0) := by
  have key : ∀ d i fuel, d + i ≤ m → d < fuel → (∀ j, i ≤ j → j < i + d → hit j = false) → iterS st fuel (s i) = iterS st (fuel - d) (s (i + d)) := by
    intro d
    induction d with
    | zero => intro i fuel _ _ _; rfl
    | succ d ih =>
      intro i fuel hi hf hh
      obtain ⟨f, rfl⟩ : ∃ f, fuel = f + 1 := ⟨fuel - 1, by omega⟩
      rw [iter_go (go i (by omega) (hh i (Nat.le_refl _) (by omega))), ih (i + 1) f (by omega) (by omega) (fun j h1 h2 => hh j (by omega) (by omega))]
      rw [show f + 1 - (d + 1) = f - d by omega, show i + 1 + d = i + (d + 1) by omega]
  intro fuel hf
  cases hq : firstHit hit m with
  | some k =>
    obtain ⟨h1, h2, h3⟩ := firstHit_some hq
    have := key k 0 fuel (by omega) (by omega) (fun j _ hj => h3 j (by omega))
    rw [this, Nat.zero_add]
    obtain ⟨f, hf'⟩ : ∃ f, fuel - k = f + 1 := ⟨fuel - k - 1, by omega⟩
    rw [hf']
    exact iter_stop (found k h1 h2)
  | none =>
    have := key m 0 fuel (by omega) (by omega) (fun j _ hj => firstHit_none hq j (by omega))
    rw [this, Nat.zero_add]
    obtain ⟨f, hf'⟩ : ∃ f, fuel - m = f + 1 := ⟨fuel - m - 1, by omega⟩
    rw [hf']
    exact iter_stop stop
/-- From a tree's tests to its answer. -/
theorem selB {α : Type} {c : Bool} {t e : Tree α} : (Tree.node c t e).sel = bif c then t.sel else e.sel := rfl
def last32 : BitVec 32 := 0xEDB88320#32
def dn (n : BitVec 32) : BitVec 32 := (n >>> 1) ^^^ (if n.getLsbD 0 then last32 else 0#32)
def up (n : BitVec 32) : BitVec 32 := if n.getLsbD 31 then ((n ^^^ last32) <<< 1) ||| 1#32 else n <<< 1
theorem dn_xor (a b : BitVec 32) : dn (a ^^^ b) = dn a ^^^ dn b := by
  unfold dn
  rw [BitVec.getLsbD_xor, BitVec.ushiftRight_xor_distrib]
  cases a.getLsbD 0 <;> cases b.getLsbD 0 <;> simp
  · ac_rfl
  · ac_rfl
  · have : ∀ x y z : BitVec 32, x ^^^ y = (x ^^^ z) ^^^ (y ^^^ z) := by
      intro x y z
      have e : (x ^^^ z) ^^^ (y ^^^ z) = (x ^^^ y) ^^^ (z ^^^ z) := by ac_rfl
      rw [e, BitVec.xor_self, BitVec.xor_zero]
    exact this _ _ _
theorem up_dn (n : BitVec 32) : up (dn n) = n := by
  unfold up dn
  cases h : n.getLsbD 0 with
  | false =>
    simp only [Bool.false_eq_true, if_false, BitVec.xor_zero]
    have : (n >>> 1).getLsbD 31 = false := by simp
    rw [this]
    simp only [Bool.false_eq_true, if_false]
    ext i hi
    simp only [BitVec.getElem_shiftLeft]
    by_cases h0 : i = 0
    · subst h0; simp; rw [← BitVec.getLsbD_eq_getElem]; exact h
    · have : ¬ i < 1 := by omega
      simp [this]; rw [show 1 + (i - 1) = i by omega, BitVec.getLsbD_eq_getElem]
  | true =>
    simp only [if_true]
    have : (n >>> 1 ^^^ last32).getLsbD 31 = true := by
      rw [BitVec.getLsbD_xor]; simp [last32]
    rw [this]
    simp only [if_true]
    have e : n >>> 1 ^^^ last32 ^^^ last32 = n >>> 1 := by rw [BitVec.xor_assoc, BitVec.xor_self, BitVec.xor_zero]
    rw [e]
    ext i hi
    simp only [BitVec.getElem_or, BitVec.getElem_shiftLeft]
    by_cases h0 : i = 0
    · subst h0; simp; rw [← BitVec.getLsbD_eq_getElem]; exact h
    · have : ¬ i < 1 := by omega
      simp [this, h0]; rw [show 1 + (i - 1) = i by omega, BitVec.getLsbD_eq_getElem]
/-- The first k bits. -/
def low (n : BitVec 32) (k : Nat) : BitVec 32 := n &&& BitVec.ofNat 32 (2 ^ k - 1)
theorem low_succ (n : BitVec 32) (k : Nat) (hk : k < 32) : low n (k + 1) = low n k ^^^ (if n.getLsbD k then 1#32 <<< k else 0#32) := by
  unfold low
  ext i hi
  simp only [BitVec.getElem_and, BitVec.getElem_xor]
  have e : ∀ j, (BitVec.ofNat 32 (2 ^ j - 1))[i] = decide (i < j) := by
    intro j
    rw [← BitVec.getLsbD_eq_getElem, BitVec.getLsbD_ofNat, Nat.testBit_two_pow_sub_one]; simp [hi]
  rw [e, e]
  by_cases h : n.getLsbD k
  · rw [if_pos h]
    rw [BitVec.getElem_shiftLeft]
    by_cases h1 : i < k
    · simp [h1, show i < k + 1 by omega]
    · by_cases h2 : i = k
      · subst h2; rw [BitVec.getLsbD_eq_getElem hi] at h; simp [h]
      · simp [h1, show ¬ i < k + 1 by omega, show ¬ i - k = 0 by omega]
  · rw [if_neg h]
    by_cases h1 : i < k
    · simp [h1, show i < k + 1 by omega]
    · by_cases h2 : i = k
      · subst h2; rw [BitVec.getLsbD_eq_getElem hi] at h; simp [h]
      · simp [h1, show ¬ i < k + 1 by omega]
theorem low_32 (n : BitVec 32) : low n 32 = n := by
  unfold low
  ext i hi
  rw [BitVec.getElem_and, ← BitVec.getLsbD_eq_getElem (x := BitVec.ofNat 32 (2 ^ 32 - 1)), BitVec.getLsbD_ofNat, Nat.testBit_two_pow_sub_one]
  simp [hi]
theorem low_0 (n : BitVec 32) : low n 0 = 0#32 := by unfold low; simp
/-- Two linear maps that agree on the bits agree. -/
theorem lin_ext {w : Nat} {f g : BitVec 32 → BitVec w} (hf : ∀ a b, f (a ^^^ b) = f a ^^^ f b) (hg : ∀ a b, g (a ^^^ b) = g a ^^^ g b) (h : ∀ i, i < 32 → f (1#32 <<< i) = g (1#32 <<< i)) (n : BitVec 32) : f n = g n := by
  have z : ∀ {f : BitVec 32 → BitVec w}, (∀ a b, f (a ^^^ b) = f a ^^^ f b) → f 0#32 = 0#w := by
    intro f hf
    have := hf 0#32 0#32
    rw [BitVec.xor_self] at this
    rw [this, BitVec.xor_self]
  have key : ∀ k, k ≤ 32 → f (low n k) = g (low n k) := by
    intro k
    induction k with
    | zero => intro _; rw [low_0, z hf, z hg]
    | succ k ih =>
      intro hk
      rw [low_succ n k (by omega), hf, hg, ih (by omega)]
      cases n.getLsbD k with
      | true => rw [if_pos rfl, h k (by omega)]
      | false => rw [if_neg (by simp), z hf, z hg]
  have := key 32 (by omega)
  rwa [low_32] at this
def dnN : Nat → BitVec 32 → BitVec 32
  | 0, n => n
  | k + 1, n => dnN k (dn n)
def upN : Nat → BitVec 32 → BitVec 32
  | 0, n => n
  | k + 1, n => upN k (up n)
theorem dnN_xor (k : Nat) (a b : BitVec 32) : dnN k (a ^^^ b) = dnN k a ^^^ dnN k b := by
  induction k generalizing a b with
  | zero => rfl
  | succ k ih => simp only [dnN, dn_xor, ih]
theorem dnN_add (j k : Nat) (n : BitVec 32) : dnN (j + k) n = dnN k (dnN j n) := by
  induction j generalizing n with
  | zero => simp [dnN]
  | succ j ih => rw [Nat.succ_add]; simp only [dnN]; exact ih _
theorem upN_add (j k : Nat) (n : BitVec 32) : upN (j + k) n = upN k (upN j n) := by
  induction j generalizing n with
  | zero => simp [upN]
  | succ j ih => rw [Nat.succ_add]; simp only [upN]; exact ih _
theorem upN_dnN (k : Nat) (n : BitVec 32) : upN k (dnN k n) = n := by
  induction k generalizing n with
  | zero => rfl
  | succ k ih =>
    rw [dnN_add k 1 n, Nat.add_comm, upN_add 1 k]
    show upN k (up (dn (dnN k n))) = n
    rw [up_dn, ih]
theorem dnN_inj {k : Nat} {a b : BitVec 32} (h : dnN k a = dnN k b) : a = b := by
  have := congrArg (upN k) h
  rwa [upN_dnN, upN_dnN] at this
theorem dnN_zero (k : Nat) : dnN k 0#32 = 0#32 := by
  have := dnN_xor k 0#32 0#32
  rw [BitVec.xor_self] at this
  rw [this, BitVec.xor_self]
theorem dn_up (n : BitVec 32) : dn (up n) = n := by
  unfold up dn
  cases h : n.getLsbD 31 with
  | false =>
    simp only [Bool.false_eq_true, if_false]
    have : (n <<< 1).getLsbD 0 = false := by simp
    rw [this]
    simp only [Bool.false_eq_true, if_false, BitVec.xor_zero]
    ext i hi
    simp only [BitVec.getElem_ushiftRight, BitVec.getLsbD_shiftLeft]
    by_cases h0 : i = 31
    · subst h0; simp; rw [← BitVec.getLsbD_eq_getElem]; exact h
    · simp [show 1 + i < 32 by omega]; 
      rw [← BitVec.getLsbD_eq_getElem]
  | true =>
    simp only [if_true]
    have : (((n ^^^ last32) <<< 1) ||| 1#32).getLsbD 0 = true := by simp
    rw [this]
    simp only [if_true]
    have e : (((n ^^^ last32) <<< 1) ||| 1#32) >>> 1 = n ^^^ last32 := by
      ext i hi
      simp only [BitVec.getElem_ushiftRight, BitVec.getLsbD_shiftLeft, BitVec.getLsbD_or]
      by_cases h0 : i = 31
      · subst h0; simp [last32]; rw [← BitVec.getLsbD_eq_getElem, h]
      · simp [show 1 + i < 32 by omega]
        rw [← BitVec.getLsbD_eq_getElem, ← BitVec.getLsbD_eq_getElem]
    rw [e, BitVec.xor_assoc, BitVec.xor_self, BitVec.xor_zero]
theorem dnN_upN (k : Nat) (n : BitVec 32) : dnN k (upN k n) = n := by
  induction k generalizing n with
  | zero => rfl
  | succ k ih =>
    rw [upN_add k 1 n, Nat.add_comm, dnN_add 1 k]
    show dnN k (dn (up (upN k n))) = n
    rw [dn_up, ih]
/-! ### Bytes -/
def go (n : BitVec 32) (l : List Int) : BitVec 32 := l.foldl (fun n x => dnN 8 (n ^^^ BitVec.ofInt 32 x)) n
theorem go_nil (n : BitVec 32) : go n [] = n := rfl
theorem go_cons (n : BitVec 32) (x : Int) (l : List Int) : go n (x :: l) = go (dnN 8 (n ^^^ BitVec.ofInt 32 x)) l := rfl
theorem go_append (n : BitVec 32) (l m : List Int) : go n (l ++ m) = go (go n l) m := by unfold go; rw [List.foldl_append]
theorem go_lin (a b : BitVec 32) (l : List Int) : go (a ^^^ b) l = go a l ^^^ dnN (8 * l.length) b := by
  induction l generalizing a b with
  | nil => rfl
  | cons x l ih =>
    rw [go_cons, go_cons]
    have e : a ^^^ b ^^^ BitVec.ofInt 32 x = (a ^^^ BitVec.ofInt 32 x) ^^^ b := by ac_rfl
    rw [e, dnN_xor, ih, List.length_cons, show 8 * (l.length + 1) = 8 + 8 * l.length by omega, dnN_add]
/-- A byte that is another one. -/
theorem go_turn (n : BitVec 32) (l m : List Int) (x y : Int) : go n (l ++ y :: m) = go n (l ++ x :: m) ^^^ dnN (8 * (m.length + 1)) (BitVec.ofInt 32 x ^^^ BitVec.ofInt 32 y) := by
  rw [go_append, go_append, go_cons, go_cons]
  have e : go n l ^^^ BitVec.ofInt 32 y = (go n l ^^^ BitVec.ofInt 32 x) ^^^ (BitVec.ofInt 32 x ^^^ BitVec.ofInt 32 y) := by
    have : (go n l ^^^ BitVec.ofInt 32 x) ^^^ (BitVec.ofInt 32 x ^^^ BitVec.ofInt 32 y) = (go n l ^^^ BitVec.ofInt 32 y) ^^^ (BitVec.ofInt 32 x ^^^ BitVec.ofInt 32 x) := by ac_rfl
    rw [this, BitVec.xor_self, BitVec.xor_zero]
  rw [e, dnN_xor, go_lin, show 8 * (m.length + 1) = 8 + 8 * m.length by omega, dnN_add]
theorem split_at {α : Type} {l : List α} {i : Nat} (h : i < l.length) (d : α) : l = l.take i ++ l.getD i d :: l.drop (i + 1) := by
  have e : l.getD i d = l[i] := by rw [List.getD_eq_getElem?_getD, List.getElem?_eq_getElem h]; rfl
  rw [e, ← List.drop_eq_getElem_cons h, List.take_append_drop]
theorem set_at {α : Type} {l : List α} {i : Nat} (h : i < l.length) (y : α) : l.set i y = l.take i ++ y :: l.drop (i + 1) := by
  rw [List.set_eq_take_append_cons_drop, if_pos h]
theorem go_set (n : BitVec 32) {l : List Int} {i : Nat} (h : i < l.length) (y d : Int) : go n (l.set i y) = go n l ^^^ dnN (8 * (l.length - i)) (BitVec.ofInt 32 (l.getD i d) ^^^ BitVec.ofInt 32 y) := by
  rw [set_at h, go_turn n _ _ (l.getD i d) y, ← split_at h d]
  rw [List.length_drop, show l.length - (i + 1) + 1 = l.length - i by omega]
/-! ### The table of eight -/
def E8 : List Int := [1996959894, 3993919788, 124634137, 249268274, 498536548, 997073096, 1994146192, 3988292384]
def tab (u : BitVec 8) : Nat → BitVec 32
  | 0 => 0#32
  | k + 1 => tab u k ^^^ (if u.getLsbD k then BitVec.ofInt 32 (E8.getD k 0) else 0#32)
theorem tab_xor (a b : BitVec 8) (k : Nat) : tab (a ^^^ b) k = tab a k ^^^ tab b k := by
  induction k with
  | zero => simp [tab]
  | succ k ih =>
    simp only [tab, ih, BitVec.getLsbD_xor]
    cases a.getLsbD k <;> cases b.getLsbD k <;> simp
    · ac_rfl
    · ac_rfl
    · have : ∀ x y z : BitVec 32, x ^^^ y = (x ^^^ z) ^^^ (y ^^^ z) := by
        intro x y z
        have e : (x ^^^ z) ^^^ (y ^^^ z) = (x ^^^ y) ^^^ (z ^^^ z) := by ac_rfl
        rw [e, BitVec.xor_self, BitVec.xor_zero]
      exact this _ _ _
theorem dn8 (m : BitVec 32) : dnN 8 m = (m >>> 8) ^^^ tab (m.setWidth 8) 8 := by
  refine lin_ext (f := dnN 8) (g := fun m => (m >>> 8) ^^^ tab (m.setWidth 8) 8) (dnN_xor 8) (fun a b => ?_) (by decide +kernel) m
  simp only [BitVec.ushiftRight_xor_distrib, BitVec.setWidth_xor, tab_xor]
  ac_rfl
theorem ofInt_8 {x : Int} (h0 : 0 ≤ x) (h1 : x < 256) : BitVec.ofInt 32 x = (BitVec.ofInt 8 x).setWidth 32 := by
  apply BitVec.eq_of_toNat_eq
  rw [BitVec.toNat_setWidth, BitVec.toNat_ofInt, BitVec.toNat_ofInt]
  omega
theorem ofInt_low (n : BitVec 32) : BitVec.ofInt 8 (N n) = n.setWidth 8 := by
  apply BitVec.eq_of_toNat_eq
  rw [BitVec.toNat_setWidth, BitVec.toNat_ofInt]
  unfold N
  omega
/-- What the document says of a byte. -/
theorem byte_in (n : BitVec 32) {x : Int} (h0 : 0 ≤ x) (h1 : x < 256) : dnN 8 (n ^^^ BitVec.ofInt 32 x) = (n >>> 8) ^^^ tab (n.setWidth 8 ^^^ BitVec.ofInt 8 x) 8 := by
  rw [dn8, ofInt_8 h0 h1, BitVec.ushiftRight_xor_distrib, BitVec.setWidth_xor]
  have e1 : (BitVec.ofInt 8 x).setWidth 32 >>> 8 = 0#32 := by
    apply BitVec.eq_of_toNat_eq
    have := (BitVec.ofInt 8 x).isLt
    rw [BitVec.toNat_ushiftRight, BitVec.toNat_setWidth, Nat.shiftRight_eq_div_pow]
    simp
    omega
  have e2 : ((BitVec.ofInt 8 x).setWidth 32).setWidth 8 = BitVec.ofInt 8 x := by
    apply BitVec.eq_of_toNat_eq
    have := (BitVec.ofInt 8 x).isLt
    rw [BitVec.toNat_setWidth, BitVec.toNat_setWidth]
    omega
  rw [e1, e2, BitVec.xor_zero]
theorem bit0 (x : BitVec 32) : (N (x &&& 1#32) == 0) = !x.getLsbD 0 := by
  rw [show (0 : Int) = N 0#32 from rfl, N_beq, Bool.eq_iff_iff]
  simp only [beq_iff_eq, Bool.not_eq_true']
  constructor
  · intro h
    have := congrArg (fun v => v.getLsbD 0) h
    simpa using this
  · intro h
    apply BitVec.eq_of_getLsbD_eq
    intro i hi
    by_cases h0 : i = 0
    · subst h0; rw [BitVec.getLsbD_and, h]; simp
    · simp [h0]
theorem t19 (x : BitVec 32) : op_19 [.n (N x)] = some (0, [.n (N (dn x))]) := by
  show (fn_19 [.n (N x)]).sel = _
  simp only [fn_19]
  have e : iand IntKind.u32 (N x) 1 = N (x &&& 1#32) := iand_u32 x 1#32
  have e1 : ishr IntKind.u32 (N x) 1 = N (x >>> 1) := ishr_u32 x 1
  have e2 : ixor IntKind.u32 (N (x >>> 1)) 3988292384 = N ((x >>> 1) ^^^ last32) := ixor_u32 (x >>> 1) last32
  rw [selB, e, e1, e2, bit0]
  unfold dn
  cases x.getLsbD 0
  · simp [Tree.sel]
  · simp [Tree.sel]
theorem isK1 (x : Int) : isK 0 [HK.n] (some (0, [.n x])) = true := rfl
theorem len_ok {n : Nat} {i : Nat} (h : i < n) (hn : n ≤ 9223372036854775807) : IntKind.wrap .i64 ((i : Int) + 1) = ((i + 1 : Nat) : Int) := by
  rw [w64 (by omega) (by omega)]; omega
/-- The number behind some bytes. -/
theorem t12L (b : List Int) (hb : b.length ≤ 9223372036854775807) : op_L12_3 [.n (N 0xFFFFFFFF#32), .l TB (ofI b), .n b.length, .n ((0 : Nat) : Int)] = some (0, [.n (N (go 0xFFFFFFFF#32 b))]) := by
  refine iter_count (st := fn_L12_3) (fun i => [.n (N (go 0xFFFFFFFF#32 (b.take i))), .l TB (ofI b), .n b.length, .n (i : Int)]) b.length (0, [.n (N (go 0xFFFFFFFF#32 b))]) ?_ ?_ FU (lt_FU hb)
  · intro i hi
    simp only [fn_L12_3, den_len, den_getD2]
    refine (selT (dt (by omega))).trans ((selT (inR_true (by omega) (by omega))).trans ?_)
    simp only [wrapN_u32, ixor_u32, t19, dOf_some, gn0, isK1, cond_true, len_ok hi hb, Tree.sel]
    rw [take_getD (d := (0 : Int)) hi, go_append]
    rfl
  · rw [List.take_length]
    simp only [fn_L12_3, den_len]
    exact selF (df (Int.lt_irrefl _))
def Sm (b : List Int) : BitVec 32 := 0xFFFFFFFF#32 ^^^ go 0xFFFFFFFF#32 b
theorem t12 (b : List Int) (hb : b.length ≤ 9223372036854775807) : op_12 [.l TB (ofI b)] = some (0, [.n (N (Sm b))]) := by
  show (fn_12 [.l TB (ofI b)]).sel = _
  have e' : op_L12_3 [.n 4294967295, .l TB (ofI b), .n b.length, .n 0] = some (0, [.n (N (go 0xFFFFFFFF#32 b))]) := t12L b hb
  simp only [fn_12, den_len]
  rw [e']
  simp only [dOf_some, gn0, isK1, cond_true, Tree.sel]
  have := ixor_u32 0xFFFFFFFF#32 (go 0xFFFFFFFF#32 b)
  rw [show (4294967295 : Int) = N 0xFFFFFFFF#32 from rfl, this]
  rfl
/-- What a byte's change does, so many bytes ahead of the end. -/
def chg (d : BitVec 8) (k : Nat) : BitVec 32 := dnN (8 * (k + 1)) (d.setWidth 32)
/-- The table's row. -/
theorem bitk (u : BitVec 8) (k : Nat) : (iand IntKind.u8 (ishr IntKind.u8 (N u) (k : Int)) 1 == 1) = u.getLsbD k := by
  rw [ishr_u8, show (1 : Int) = N 1#8 from rfl, iand_u8, N_beq, Bool.eq_iff_iff]
  simp only [beq_iff_eq]
  constructor
  · intro h
    have := congrArg (fun v => v.getLsbD 0) h
    simpa using this
  · intro h
    apply BitVec.eq_of_getLsbD_eq
    intro i hi
    by_cases h0 : i = 0
    · subst h0; rw [BitVec.getLsbD_and, BitVec.getLsbD_ushiftRight]; simp [h]
    · rw [BitVec.getLsbD_and]; simp [h0]
theorem isK4 (x y : Int) (l m : List Int) : isK 0 [HK.n, HK.l TB, HK.n, HK.l TN] (some (0, [.n x, .l TB (ofI l), .n y, .l TN (ofI m)])) = true := rfl
theorem e8_in (k : Nat) (hk : k < 8) : List.getD E8 k 0 = N (BitVec.ofInt 32 (List.getD E8 k 0)) := by
  rcases k with _ | _ | _ | _ | _ | _ | _ | _ | k <;> first | rfl | omega
theorem t20L (n : BitVec 32) (b : List Int) (i : Int) (u : BitVec 8) : op_L20_8 [.k 0, .n (N n), .l TB (ofI b), .n i, .n (N u), .n ((0 : Nat) : Int), .l TN (ofI E8)] = some (0, [.n (N (n ^^^ tab u 8)), .l TB (ofI b), .n i, .l TN (ofI E8)]) := by
  have := iter_count (st := fn_L20_8) (fun k => [.k 0, .n (N (n ^^^ tab u k)), .l TB (ofI b), .n i, .n (N u), .n (k : Int), .l TN (ofI E8)]) 8 (0, [.n (N (n ^^^ tab u 8)), .l TB (ofI b), .n i, .l TN (ofI E8)]) ?_ ?_ FU (by unfold FU; omega)
  · simp only [tab, BitVec.xor_zero] at this
    simp only [tab]
    exact this
  · intro k hk
    simp only [fn_L20_8, fn_L20_8_0, den_len, den_getD2]
    refine (selT (dt (by omega))).trans ((selT (nf (df (by omega)))).trans ?_)
    rw [selB, bitk]
    have e0 : IntKind.wrap .i64 ((k : Int) + 1) = ((k + 1 : Nat) : Int) := by rw [w64 (by omega) (by omega)]; omega
    cases h : u.getLsbD k with
    | true =>
      refine (selT (inR_true (by omega) (by show (k : Int) < ((8 : Nat) : Int); omega))).trans ?_
      rw [e0, show ((k : Int)).toNat = k from rfl, e8_in k hk, ixor_u32]
      simp only [tab, h, if_true, Tree.sel, BitVec.xor_assoc]
    | false =>
      rw [e0]
      simp only [tab, h, Bool.false_eq_true, if_false, Tree.sel, cond_false, BitVec.xor_zero]
  · simp only [fn_L20_8, fn_L20_8_0]
    exact selF (df (by omega))
theorem t20M (n : BitVec 32) (b : List Int) (hb : b.length ≤ 9223372036854775807) (hr : ∀ x ∈ b, 0 ≤ x ∧ x < 256) : op_L20_3 [.k 0, .n (N n), .l TB (ofI b), .n ((0 : Nat) : Int), .l TN (ofI E8)] = some (0, [.n (N (go n b))]) := by
  refine iter_count (st := fn_L20_3) (fun i => [.k 0, .n (N (go n (b.take i))), .l TB (ofI b), .n (i : Int), .l TN (ofI E8)]) b.length (0, [.n (N (go n b))]) ?_ ?_ FU (lt_FU hb)
  · intro i hi
    simp only [fn_L20_3, fn_L20_3_0, den_len, den_getD2]
    refine (selT (dt (by omega))).trans ((selT (inR_true (by omega) (by omega))).trans ?_)
    have hx := hr _ (getD_mem (d := (0 : Int)) hi)
    rw [show ((i : Int)).toNat = i from rfl]
    have ex : List.getD b i 0 = N (BitVec.ofInt 8 (List.getD b i 0)) := (N_of hx.1 hx.2).symm
    have e8 : ishr IntKind.u32 (N (go n (b.take i))) 8 = N (go n (b.take i) >>> 8) := ishr_u32 _ 8
    rw [e8, wrapN_u8, ofInt_low, ex, ixor_u8]
    rw [show op_L20_8 [.k 0, .n (N (go n (b.take i) >>> 8)), .l TB (ofI b), .n (i : Int), .n (N ((go n (b.take i)).setWidth 8 ^^^ BitVec.ofInt 8 (List.getD b i 0))), .n 0, .l TN (ofI E8)] = _ from t20L _ _ _ _]
    simp only [dOf_some, gn0, gn2, gl1, gl3, isK4, selB, cond_true, len_ok hi hb, Tree.sel]
    rw [take_getD (d := (0 : Int)) hi, go_append, go_cons, go_nil, byte_in _ hx.1 hx.2]
  · rw [List.take_length]
    simp only [fn_L20_3, fn_L20_3_0, den_len]
    exact selF (df (Int.lt_irrefl _))
theorem t13 (b : List Int) (hb : b.length ≤ 9223372036854775807) (hr : ∀ x ∈ b, 0 ≤ x ∧ x < 256) : op_13 [.l TB (ofI b)] = some (0, [.n (N (Sm b))]) := by
  have e20 : op_20 [.n (N 0xFFFFFFFF#32), .l TB (ofI b)] = some (0, [.n (N (go 0xFFFFFFFF#32 b))]) := by
    show (fn_20 [.n (N 0xFFFFFFFF#32), .l TB (ofI b)]).sel = _
    have e := t20M 0xFFFFFFFF#32 b hb hr
    exact (selT (congrArg (isK 0 [HK.n]) e)).trans (congrArg (fun r => some (0, [Dat.n (gn (dOf r) 0)])) e)
  show (fn_13 [.l TB (ofI b)]).sel = _
  simp only [fn_13]
  rw [show op_20 [.n 4294967295, .l TB (ofI b)] = _ from e20]
  simp only [dOf_some, gn0, isK1, cond_true, Tree.sel]
  have := ixor_u32 0xFFFFFFFF#32 (go 0xFFFFFFFF#32 b)
  rw [show (4294967295 : Int) = N 0xFFFFFFFF#32 from rfl, this]
  rfl
def Wb (l : List Int) : Prop := ∀ b ∈ l, 0 ≤ b ∧ b < 256
theorem wu64 (x : Int) : IntKind.wrap .u64 x = x % 18446744073709551616 := by unfold IntKind.wrap; simp [IntKind.bits, IntKind.signed]
theorem wu8 (x : Int) : IntKind.wrap .u8 x = x % 256 := by unfold IntKind.wrap; simp [IntKind.bits, IntKind.signed]
theorem wu16 (x : Int) : IntKind.wrap .u16 x = x % 65536 := by unfold IntKind.wrap; simp [IntKind.bits, IntKind.signed]
theorem wu32 (x : Int) : IntKind.wrap .u32 x = x % 4294967296 := by unfold IntKind.wrap; simp [IntKind.bits, IntKind.signed]
theorem t31g (l : List (Ty.den TB)) (h : okc_31 l = true) : op_31 [.l TB l] = some (0, [.l TB l]) := by
  show (match castL TB TB l with | some l => bif okc_31 l then some (0, [Dat.l TB l]) else none | none => none) = _
  rw [castL_self]
  show (bif okc_31 l then some (0, [Dat.l TB l]) else none) = _
  rw [h]; rfl
theorem t31 {l : List Int} (h : l.length ≤ 140737488355328) : op_31 [.l TB l] = some (0, [.l TB l]) :=
  t31g l (by unfold okc_31; exact decide_eq_true (show (0 + l.length) * 1 ≤ 140737488355328 by omega))
def byt (n : Int) (k : Nat) : Int := IntKind.wrap .u8 (ishr .u64 n (8 * (k : Int)))
def bes (n : Int) : Nat → List Int
  | 0 => []
  | k + 1 => byt n k :: bes n k
theorem be_len (n : Int) : ∀ k, (bes n k).length = k
  | 0 => rfl
  | k + 1 => by rw [bes, List.length_cons, be_len n k]
theorem be_wb (n : Int) : ∀ k, Wb (bes n k)
  | 0 => fun b hb => by simp [bes] at hb
  | k + 1 => fun b hb => by
    rw [bes, List.mem_cons] at hb
    rcases hb with rfl | hb
    · unfold byt; rw [wu8]; omega
    · exact be_wb n k b hb
theorem lp35b (n : Int) (w : Nat) (hw : w ≤ 8) : ∀ (k : Nat) (l : List Int) (f : Nat), k ≤ w → l.length + k ≤ 1000000 → k < f → iterS st_L35b_1 f [.k 0, .n n, .n (w : Int), .n (w : Int), .n ((w : Int) - k), .l TB l] = some (0, [.l TB (l ++ bes n k)])
  | _, _, 0, _, _, h => by omega
  | 0, l, f + 1, h, hl, hf => by
    have e : (st_L35b_1 [.k 0, .n n, .n (w : Int), .n (w : Int), .n ((w : Int) - ((0 : Nat) : Int)), .l TB l]).sel = some (.stop 0 [.l TB l]) := by
      refine fn_L35b_1_o_im n _ _ _ l _ ?_
      unfold fn_L35b_1_o
      exact sel_f (decide_eq_false (by omega)) rfl
    unfold iterS
    rw [e]
    show some (0, [Dat.l TB l]) = some (0, [Dat.l TB (l ++ bes n 0)])
    rw [bes, List.append_nil]
  | k + 1, l, f + 1, h, hl, hf => by
    have w8 : IntKind.wrap .i64 (8 * IntKind.wrap .i64 (IntKind.wrap .i64 ((w : Int) - 1) - ((w : Int) - ((k + 1 : Nat) : Int)))) = 8 * (k : Int) := by simp only [w64d]; omega
    have w1 : IntKind.wrap .i64 ((w : Int) - ((k + 1 : Nat) : Int) + 1) = (w : Int) - (k : Int) := by rw [w64d]; omega
    have e : (st_L35b_1 [.k 0, .n n, .n (w : Int), .n (w : Int), .n ((w : Int) - ((k + 1 : Nat) : Int)), .l TB l]).sel = some (.go [.k 0, .n n, .n (w : Int), .n (w : Int), .n ((w : Int) - (k : Int)), .l TB (l ++ [byt n k])]) := by
      refine fn_L35b_1_o_im n _ _ _ l _ ?_
      unfold fn_L35b_1_o
      refine sel_t (decide_eq_true (by omega)) (sel_t (by rw [w8]; simp; omega) (sel_t (decide_eq_true (show (l.length + 1) * 1 ≤ 140737488355328 by omega)) ?_))
      show some (Step.go [.k 0, .n n, .n (w : Int), .n (w : Int), .n (IntKind.wrap .i64 ((w : Int) - ((k + 1 : Nat) : Int) + 1)), .l TB (l ++ [IntKind.wrap .u8 (ishr .u64 n (IntKind.wrap .i64 (8 * IntKind.wrap .i64 (IntKind.wrap .i64 ((w : Int) - 1) - ((w : Int) - ((k + 1 : Nat) : Int))))))])]) = _
      rw [w8, w1]; rfl
    unfold iterS
    rw [e]
    have ih := lp35b n w hw k (l ++ [byt n k]) f (by omega) (by rw [List.length_append]; simp; omega) (by omega)
    rw [List.append_assoc] at ih
    exact ih
theorem lp35a (n : Int) (w : Nat) (hw : w ≤ 8) : ∀ (k : Nat) (l : List Int) (f : Nat), k ≤ w → l.length + k ≤ 1000000 → k < f → iterS st_L35a_1 f [.k 1, .n n, .n (w : Int), .n (w : Int), .n ((w : Int) - k), .l TB l] = some (1, [.l TB (l ++ bes n k)])
  | _, _, 0, _, _, h => by omega
  | 0, l, f + 1, h, hl, hf => by
    have e : (st_L35a_1 [.k 1, .n n, .n (w : Int), .n (w : Int), .n ((w : Int) - ((0 : Nat) : Int)), .l TB l]).sel = some (.stop 1 [.l TB l]) := by
      refine fn_L35a_1_o_im n _ _ _ l _ ?_
      unfold fn_L35a_1_o
      exact sel_f (decide_eq_false (by omega)) rfl
    unfold iterS
    rw [e]
    show some (1, [Dat.l TB l]) = some (1, [Dat.l TB (l ++ bes n 0)])
    rw [bes, List.append_nil]
  | k + 1, l, f + 1, h, hl, hf => by
    have w8 : IntKind.wrap .i64 (8 * IntKind.wrap .i64 (IntKind.wrap .i64 ((w : Int) - 1) - ((w : Int) - ((k + 1 : Nat) : Int)))) = 8 * (k : Int) := by simp only [w64d]; omega
    have w1 : IntKind.wrap .i64 ((w : Int) - ((k + 1 : Nat) : Int) + 1) = (w : Int) - (k : Int) := by rw [w64d]; omega
    have e : (st_L35a_1 [.k 1, .n n, .n (w : Int), .n (w : Int), .n ((w : Int) - ((k + 1 : Nat) : Int)), .l TB l]).sel = some (.go [.k 1, .n n, .n (w : Int), .n (w : Int), .n ((w : Int) - (k : Int)), .l TB (l ++ [byt n k])]) := by
      refine fn_L35a_1_o_im n _ _ _ l _ ?_
      unfold fn_L35a_1_o
      refine sel_t (decide_eq_true (by omega)) (sel_t (by rw [w8]; simp; omega) (sel_t (decide_eq_true (show (l.length + 1) * 1 ≤ 140737488355328 by omega)) ?_))
      show some (Step.go [.k 1, .n n, .n (w : Int), .n (w : Int), .n (IntKind.wrap .i64 ((w : Int) - ((k + 1 : Nat) : Int) + 1)), .l TB (l ++ [IntKind.wrap .u8 (ishr .u64 n (IntKind.wrap .i64 (8 * IntKind.wrap .i64 (IntKind.wrap .i64 ((w : Int) - 1) - ((w : Int) - ((k + 1 : Nat) : Int))))))])]) = _
      rw [w8, w1]; rfl
    unfold iterS
    rw [e]
    have ih := lp35a n w hw k (l ++ [byt n k]) f (by omega) (by rw [List.length_append]; simp; omega) (by omega)
    rw [List.append_assoc] at ih
    exact ih
theorem t35b (n : Int) (w : Nat) (h : w ≤ 8) (l : List Int) (hl : l.length ≤ 999000) : op_35b [.n n, .n (w : Int), .l TB l] = some (0, [.l TB (l ++ bes n w)]) := by
  have e : op_L35b_1 [.k 0, .n n, .n (w : Int), .n (w : Int), .n 0, .l TB l] = some (0, [.l TB (l ++ bes n w)]) := by
    rw [op_L35b_1_eq]
    have := lp35b n w h w l FU (Nat.le_refl _) (by omega) (by unfold FU; omega)
    rw [show (w : Int) - (w : Int) = 0 by omega] at this
    exact this
  rw [op_35b_eq]
  refine fn_35b_t_im n w l _ ?_
  unfold fn_35b_t
  exact sel_t (by erw [e]; rfl) (by erw [e]; rfl)
theorem t35a (n : Int) (w : Nat) (h : w ≤ 8) (h1 : 1 ≤ w) : op_35a [.n n, .n (w : Int)] = some (1, [.l TB (bes n w)]) := by
  obtain ⟨k, rfl⟩ : ∃ k, w = k + 1 := ⟨w - 1, by omega⟩
  have e : op_L35a_1 [.k 0, .n n, .n ((k + 1 : Nat) : Int), .n ((k + 1 : Nat) : Int), .n 0] = some (1, [.l TB (bes n (k + 1))]) := by
    have w8 : IntKind.wrap .i64 (8 * IntKind.wrap .i64 (IntKind.wrap .i64 (((k + 1 : Nat) : Int) - 1) - 0)) = 8 * (k : Int) := by simp only [w64d]; omega
    have w1 : IntKind.wrap .i64 ((0 : Int) + 1) = ((k + 1 : Nat) : Int) - (k : Int) := by rw [w64d]; omega
    have e : (st_L35a_1 [.k 0, .n n, .n ((k + 1 : Nat) : Int), .n ((k + 1 : Nat) : Int), .n 0]).sel = some (.go [.k 1, .n n, .n ((k + 1 : Nat) : Int), .n ((k + 1 : Nat) : Int), .n (((k + 1 : Nat) : Int) - (k : Int)), .l TB [byt n k]]) := by
      refine fn_L35a_1_n_im n _ _ _ _ ?_
      unfold fn_L35a_1_n
      refine sel_t (decide_eq_true (by omega)) (sel_t (by rw [w8]; simp; omega) ?_)
      show some (Step.go [.k 1, .n n, .n ((k + 1 : Nat) : Int), .n ((k + 1 : Nat) : Int), .n (IntKind.wrap .i64 ((0 : Int) + 1)), .l TB [IntKind.wrap .u8 (ishr .u64 n (IntKind.wrap .i64 (8 * IntKind.wrap .i64 (IntKind.wrap .i64 (((k + 1 : Nat) : Int) - 1) - 0))))]]) = _
      rw [w8, w1]; rfl
    rw [op_L35a_1_eq, show FU = 18446744073709551615 + 1 from rfl]
    unfold iterS
    rw [e]
    exact lp35a n (k + 1) h k [byt n k] 18446744073709551615 (by omega) (by simp; omega) (by omega)
  rw [op_35a_eq]
  refine fn_35a_t_im n _ _ ?_
  unfold fn_35a_t
  exact sel_f (by erw [e]; rfl) (sel_t (by erw [e]; rfl) (by erw [e]; rfl))
/-! ### crc -/
theorem q12 (l : List Int) (hl : l.length ≤ 1000000) : op_q12 [.l TB l] = some (0, [.n (N (Sm l))]) := by
  rw [op_q12_eq]; exact t12 l (by omega)
theorem q13 (l : List Int) (hl : l.length ≤ 1000000) (hw : Wb l) : op_q13 [.l TB l] = some (0, [.n (N (Sm l))]) := by
  rw [op_q13_eq]; exact t13 l (by omega) hw
/-! ### within -/
def win (m : Int) (l : List Int) : Bool := l.all fun x => !decide (x < 0) && !decide (x > m)
theorem drop_getD {l : List Int} {i : Nat} (h : i < l.length) : l.drop i = l.getD i 0 :: l.drop (i + 1) := by
  rw [List.drop_eq_getElem_cons h, List.getD_eq_getElem?_getD, List.getElem?_eq_getElem h]; rfl
theorem lp80 (m : Int) (l : List Int) (hl : l.length ≤ 1000000) : ∀ (k i f : Nat), i + k = l.length → k < f → iterS st_L80_2 f [.k 0, .n m, .l TI l, .n (l.length : Int), .n (i : Int)] = (bif win m (l.drop i) then some (0, []) else some (1, [.b false]))
  | _, _, 0, _, h => by omega
  | 0, i, f + 1, hi, hf => by
    have e : (st_L80_2 [.k 0, .n m, .l TI l, .n (l.length : Int), .n (i : Int)]).sel = some (.stop 0 []) := by
      refine fn_L80_2_t_im m l _ _ (by omega) rfl _ ?_
      unfold fn_L80_2_t
      exact sel_f (decide_eq_false (show ¬ ((i : Int) < (l.length : Int)) by omega)) rfl
    unfold iterS
    rw [e, List.drop_eq_nil_of_le (by omega)]
    rfl
  | k + 1, i, f + 1, hi, hf => by
    have w : IntKind.wrap .i64 ((i : Int) + 1) = ((i + 1 : Nat) : Int) := by rw [w64d]; omega
    rw [drop_getD (show i < l.length by omega)]
    by_cases h1 : l.getD i 0 < 0
    · have e : (st_L80_2 [.k 0, .n m, .l TI l, .n (l.length : Int), .n (i : Int)]).sel = some (.stop 1 [.b false]) := by
        refine fn_L80_2_t_im m l _ _ (by omega) rfl _ ?_
        unfold fn_L80_2_t
        exact sel_t (decide_eq_true (show (i : Int) < (l.length : Int) by omega)) (sel_t (decide_eq_true h1) rfl)
      unfold iterS
      have hw : win m (l.getD i 0 :: l.drop (i + 1)) = false := by unfold win; rw [List.all_cons, decide_eq_true h1]; rfl
      rw [e, hw]
      rfl
    · by_cases h2 : l.getD i 0 > m
      · have e : (st_L80_2 [.k 0, .n m, .l TI l, .n (l.length : Int), .n (i : Int)]).sel = some (.stop 1 [.b false]) := by
          refine fn_L80_2_t_im m l _ _ (by omega) rfl _ ?_
          unfold fn_L80_2_t
          exact sel_t (decide_eq_true (show (i : Int) < (l.length : Int) by omega)) (sel_f (decide_eq_false h1) (sel_t (decide_eq_true h2) rfl))
        unfold iterS
        have hw : win m (l.getD i 0 :: l.drop (i + 1)) = false := by unfold win; rw [List.all_cons, decide_eq_false h1, decide_eq_true h2]; rfl
        rw [e, hw]
        rfl
      · have e : (st_L80_2 [.k 0, .n m, .l TI l, .n (l.length : Int), .n (i : Int)]).sel = some (.go [.k 0, .n m, .l TI l, .n (l.length : Int), .n ((i + 1 : Nat) : Int)]) := by
          refine fn_L80_2_t_im m l _ _ (by omega) rfl _ ?_
          unfold fn_L80_2_t
          refine sel_t (decide_eq_true (show (i : Int) < (l.length : Int) by omega)) (sel_f (decide_eq_false h1) (sel_f (decide_eq_false h2) ?_))
          rw [w]; rfl
        unfold iterS
        rw [e]
        have ih := lp80 m l hl k (i + 1) f (by omega) (by omega)
        have hw : win m (l.getD i 0 :: l.drop (i + 1)) = win m (l.drop (i + 1)) := by
          unfold win; rw [List.all_cons, decide_eq_false h1, decide_eq_false h2]; rfl
        rw [hw]
        exact ih
theorem t80 (m : Int) (l : List Int) (hl : l.length ≤ 1000000) : op_80 [.n m, .l TI l] = some (0, [.b (win m l)]) := by
  have e : op_L80_2 [.k 0, .n m, .l TI l, .n (l.length : Int), .n 0] = (bif win m l then some (0, []) else some (1, [.b false])) := by
    rw [op_L80_2_eq]
    exact lp80 m l hl l.length 0 FU (by omega) (by unfold FU; omega)
  rw [op_80_eq]
  refine fn_80_t_im m l _ ?_
  unfold fn_80_t
  cases h : win m l with
  | true =>
    rw [h] at e
    exact sel_t (by erw [e]; rfl) rfl
  | false =>
    rw [h] at e
    exact sel_f (by erw [e]; rfl) (sel_t (by erw [e]; rfl) (by erw [e]; rfl))
/-! ### longs -/
def lgs (l : List Int) : List Int := l.flatMap fun n => bes n 8
theorem lgs_len (l : List Int) : (lgs l).length = 8 * l.length := by
  induction l with
  | nil => rfl
  | cons a l ih => unfold lgs at *; rw [List.flatMap_cons, List.length_append, be_len, ih, List.length_cons]; omega
theorem lp88 (ns : List Int) (hn : ns.length ≤ 1000) : ∀ (k i : Nat) (l : List Int) (f : Nat), i + k = ns.length → l.length + 8 * k ≤ 990000 → k < f → iterS st_L88_1 f [.k 0, .n (ns.length : Int), .n (i : Int), .l TL ns, .l TB l] = some (0, [.l TB (l ++ lgs (ns.drop i))])
  | _, _, _, 0, _, _, h => by omega
  | 0, i, l, f + 1, hi, hl, hf => by
    have e : (st_L88_1 [.k 0, .n (ns.length : Int), .n (i : Int), .l TL ns, .l TB l]).sel = some (.stop 0 [.l TB l]) := by
      refine fn_L88_1_t_im _ _ ns l (by omega) rfl _ ?_
      unfold fn_L88_1_t
      exact sel_f (decide_eq_false (show ¬ ((i : Int) < (ns.length : Int)) by omega)) rfl
    unfold iterS
    rw [e, List.drop_eq_nil_of_le (by omega)]
    exact congrArg (fun z : List Int => some (0, [Dat.l TB z])) (List.append_nil l).symm
  | k + 1, i, l, f + 1, hi, hl, hf => by
    have w : IntKind.wrap .i64 ((i : Int) + 1) = ((i + 1 : Nat) : Int) := by rw [w64d]; omega
    have e1 := t35b (ns.getD i 0) 8 (by omega) l (by omega)
    have e : (st_L88_1 [.k 0, .n (ns.length : Int), .n (i : Int), .l TL ns, .l TB l]).sel = some (.go [.k 0, .n (ns.length : Int), .n ((i + 1 : Nat) : Int), .l TL ns, .l TB (l ++ bes (ns.getD i 0) 8)]) := by
      refine fn_L88_1_t_im _ _ ns l (by omega) rfl _ ?_
      unfold fn_L88_1_t
      refine sel_t (decide_eq_true (show (i : Int) < (ns.length : Int) by omega)) (sel_t (by erw [e1]; rfl) ?_)
      erw [e1]
      rw [w]; rfl
    unfold iterS
    rw [e]
    have ih := lp88 ns hn k (i + 1) (l ++ bes (ns.getD i 0) 8) f (by omega) (by rw [List.length_append, be_len]; omega) (by omega)
    rw [drop_getD (show i < ns.length by omega)]
    have hc : lgs (ns.getD i 0 :: ns.drop (i + 1)) = bes (ns.getD i 0) 8 ++ lgs (ns.drop (i + 1)) := rfl
    rw [hc, ← List.append_assoc]
    exact ih
theorem t88 (ns l : List Int) (hn : ns.length ≤ 1000) (hl : l.length + 8 * ns.length ≤ 990000) : op_88 [.l TL ns, .l TB l] = some (0, [.l TB (l ++ lgs ns)]) := by
  have e : op_L88_1 [.k 0, .n (ns.length : Int), .n 0, .l TL ns, .l TB l] = some (0, [.l TB (l ++ lgs ns)]) := by
    rw [op_L88_1_eq]
    exact lp88 ns hn ns.length 0 l FU (by omega) (by omega) (by unfold FU; omega)
  rw [op_88_eq]
  refine fn_88_t_im ns l _ ?_
  unfold fn_88_t
  exact sel_t (by erw [e]; rfl) (by erw [e]; rfl)
def chk (l : List Int) : List Int := l ++ bes (IntKind.wrap .u64 (N (Sm l))) 4
theorem chk_len (l : List Int) : (chk l).length = l.length + 4 := by unfold chk; rw [List.length_append, be_len]
theorem bes1 {c : Int} (h0 : 0 ≤ c) (h1 : c < 256) : bes (IntKind.wrap .u64 c) 1 = [c] := by
  have e : IntKind.wrap .u64 c = c := by rw [wu64]; omega
  rw [e]
  show [IntKind.wrap .u8 (ishr .u64 c (8 * ((0 : Nat) : Int)))] = [c]
  have e2 : ishr .u64 c (8 * ((0 : Nat) : Int)) = c := by
    rw [show (8 * ((0 : Nat) : Int)) = 0 from rfl]
    unfold ishr; simp
  rw [e2, wu8]
  congr 1
  omega
def outB (c y p q u : Int) : List Int := [2, c] ++ bes (IntKind.wrap .u64 y) 8 ++ bes (IntKind.wrap .u64 p) 8 ++ bes q 8 ++ bes (IntKind.wrap .u64 u) 4
theorem outB_len (c y p q u : Int) : (outB c y p q u).length = 30 := by unfold outB; simp only [List.length_append, be_len]; rfl
theorem p10 (c y p q u : Int) (h0 : 0 ≤ c) (h1 : c < 256) : op_10p [.n c, .n y, .n p, .n q, .n u] = some (0, [.l TB (bif win 1099511627776 [y, p] then chk (outB c y p q u) else [])]) := by
  have hb : bes 2 1 ++ bes (IntKind.wrap .u64 c) 1 ++ lgs [IntKind.wrap .u64 y, IntKind.wrap .u64 p, q] ++ bes (IntKind.wrap .u64 u) 4 = outB c y p q u := by
    rw [bes1 h0 h1]
    unfold outB lgs
    simp only [List.flatMap_cons, List.flatMap_nil, List.append_assoc, List.append_nil]
    rfl
  have hl := outB_len c y p q u
  have e1 := t80 1099511627776 [y, p] (by simp)
  have e2 := t35a 2 1 (by omega) (by omega)
  have e3 := t35b (IntKind.wrap .u64 c) 1 (by omega) (bes 2 1) (by rw [be_len]; omega)
  have e4 := t88 [IntKind.wrap .u64 y, IntKind.wrap .u64 p, q] (bes 2 1 ++ bes (IntKind.wrap .u64 c) 1) (by simp) (by simp [be_len])
  have e5 := t35b (IntKind.wrap .u64 u) 4 (by omega) (bes 2 1 ++ bes (IntKind.wrap .u64 c) 1 ++ lgs [IntKind.wrap .u64 y, IntKind.wrap .u64 p, q]) (by simp [be_len, lgs_len])
  rw [hb] at e5
  have e6 := t31 (l := outB c y p q u) (by omega)
  have e7 := q12 (outB c y p q u) (by omega)
  have e8 := t35b (IntKind.wrap .u64 (N (Sm (outB c y p q u)))) 4 (by omega) (outB c y p q u) (by omega)
  have e9 := t31 (l := chk (outB c y p q u)) (by rw [chk_len]; omega)
  rw [op_10p_eq]
  refine fn_10p_t_im _ _ _ _ _ _ ?_
  unfold fn_10p_t
  dsimp only
  erw [e1]
  cases hw : win 1099511627776 [y, p] with
  | false => rfl
  | true =>
    refine sel_t rfl (sel_t rfl ?_)
    erw [e2]
    refine sel_f rfl (sel_t rfl ?_)
    erw [e3]
    refine sel_t rfl ?_
    erw [e4]
    refine sel_t rfl ?_
    erw [e5]
    refine sel_t rfl ?_
    erw [e6]
    refine sel_t rfl ?_
    erw [e7]
    refine sel_t rfl ?_
    erw [e8]
    refine sel_t rfl ?_
    erw [e9]
    rfl
theorem outB_wb (c y p q u : Int) (h0 : 0 ≤ c) (h1 : c < 256) : Wb (outB c y p q u) := by
  intro b hb
  unfold outB at hb
  simp only [List.mem_append, List.mem_cons, List.not_mem_nil, or_false] at hb
  rcases hb with ((((rfl | rfl) | hb) | hb) | hb) | hb
  all_goals first | omega | exact be_wb _ _ _ hb | (rcases hb with hb | hb <;> exact be_wb _ _ _ hb)
def stL (a b c : Int) (t : List Int) (u : Int) : List Int := bes a 8 ++ bes b 8 ++ bes c 8 ++ t ++ bes (IntKind.wrap .u64 u) 4
theorem stL_len (a b c : Int) (t : List Int) (u : Int) (ht : t.length = 64) : (stL a b c t u).length = 92 := by unfold stL; simp only [List.length_append, be_len, ht]
theorem b3 : bes 3 1 = [3] := rfl
theorem b4 : bes 4 1 = [4] := rfl
theorem b5 : bes 5 1 = [5] := rfl
theorem p11 (a b c : Int) (t : List Int) (u : Int) (ht : t.length = 64) : op_11p [.n a, .n b, .n c, .l TB t, .n u] = some (0, [.l TB (chk (3 :: stL a b c t u))]) := by
  have hb : bes 3 1 ++ lgs [a, b, c] ++ t ++ bes (IntKind.wrap .u64 u) 4 = 3 :: stL a b c t u := by
    rw [b3]
    unfold stL lgs
    simp only [List.flatMap_cons, List.flatMap_nil, List.append_assoc, List.append_nil, List.cons_append, List.nil_append]
  have hl : (3 :: stL a b c t u).length = 93 := by rw [List.length_cons, stL_len a b c t u ht]
  have e1 := t35a 3 1 (by omega) (by omega)
  have e2 := t88 [a, b, c] (bes 3 1) (by simp) (by simp [be_len])
  have e3 := t35b (IntKind.wrap .u64 u) 4 (by omega) (bes 3 1 ++ lgs [a, b, c] ++ t) (by simp [be_len, lgs_len, ht])
  rw [hb] at e3
  have eA := t31 (l := 3 :: stL a b c t u) (by omega)
  have eB := q12 (3 :: stL a b c t u) (by omega)
  have eC := t35b (IntKind.wrap .u64 (N (Sm (3 :: stL a b c t u)))) 4 (by omega) (3 :: stL a b c t u) (by omega)
  have eD := t31 (l := chk (3 :: stL a b c t u)) (by rw [chk_len]; omega)
  rw [op_11p_eq]
  refine fn_11p_t_im _ _ _ _ _ ht _ ?_
  unfold fn_11p_t
  dsimp only
  erw [e1]
  refine sel_f rfl (sel_t rfl ?_)
  erw [e2]
  refine sel_t rfl ?_
  refine sel_t (decide_eq_true (show ((bes 3 1 ++ lgs [a, b, c]).length + t.length) * 1 ≤ 140737488355328 by simp only [List.length_append, lgs_len, be_len, ht, List.length_cons, List.length_nil]; omega)) ?_
  erw [e3]
  refine sel_t rfl ?_
  erw [eA]
  refine sel_t rfl ?_
  erw [eB]
  refine sel_t rfl ?_
  erw [eC]
  refine sel_t rfl ?_
  erw [eD]
  rfl
def logL (e y a b c : Int) (t : List Int) (u : Int) : List Int := [4] ++ bes (IntKind.wrap .u64 e) 8 ++ bes (IntKind.wrap .u64 y) 8 ++ stL a b c t u
theorem logL_len (e y a b c : Int) (t : List Int) (u : Int) (ht : t.length = 64) : (logL e y a b c t u).length = 109 := by unfold logL; simp only [List.length_append, be_len, stL_len a b c t u ht]; rfl
theorem p12 (e y a b c : Int) (t : List Int) (u : Int) (ht : t.length = 64) : op_12p [.n e, .n y, .n a, .n b, .n c, .l TB t, .n u] = some (0, [.l TB (bif win 1099511627776 [e, y] then chk (logL e y a b c t u) else [])]) := by
  have hb : bes 4 1 ++ lgs [IntKind.wrap .u64 e, IntKind.wrap .u64 y] ++ lgs [a, b, c] ++ t ++ bes (IntKind.wrap .u64 u) 4 = logL e y a b c t u := by
    rw [b4]
    unfold logL stL lgs
    simp only [List.flatMap_cons, List.flatMap_nil, List.append_assoc, List.append_nil, List.cons_append, List.nil_append]
  have hl := logL_len e y a b c t u ht
  have e1 := t80 1099511627776 [e, y] (by simp)
  have e2 := t35a 4 1 (by omega) (by omega)
  have e3 := t88 [IntKind.wrap .u64 e, IntKind.wrap .u64 y] (bes 4 1) (by simp) (by simp [be_len])
  have e4 := t88 [a, b, c] (bes 4 1 ++ lgs [IntKind.wrap .u64 e, IntKind.wrap .u64 y]) (by simp) (by simp [be_len, lgs_len])
  have e5 := t35b (IntKind.wrap .u64 u) 4 (by omega) (bes 4 1 ++ lgs [IntKind.wrap .u64 e, IntKind.wrap .u64 y] ++ lgs [a, b, c] ++ t) (by simp [be_len, lgs_len, ht])
  rw [hb] at e5
  have eA := t31 (l := logL e y a b c t u) (by omega)
  have eB := q12 (logL e y a b c t u) (by omega)
  have eC := t35b (IntKind.wrap .u64 (N (Sm (logL e y a b c t u)))) 4 (by omega) (logL e y a b c t u) (by omega)
  have eD := t31 (l := chk (logL e y a b c t u)) (by rw [chk_len]; omega)
  rw [op_12p_eq]
  refine fn_12p_t_im _ _ _ _ _ _ _ ht _ ?_
  unfold fn_12p_t
  dsimp only
  erw [e1]
  cases hw : win 1099511627776 [e, y] with
  | false => rfl
  | true =>
    refine sel_t rfl (sel_t rfl ?_)
    erw [e2]
    refine sel_f rfl (sel_t rfl ?_)
    erw [e3]
    refine sel_t rfl ?_
    erw [e4]
    refine sel_t rfl ?_
    refine sel_t (decide_eq_true (show ((bes 4 1 ++ lgs [IntKind.wrap .u64 e, IntKind.wrap .u64 y] ++ lgs [a, b, c]).length + t.length) * 1 ≤ 140737488355328 by simp only [List.length_append, lgs_len, be_len, ht, List.length_cons, List.length_nil]; omega)) ?_
    erw [e5]
    refine sel_t rfl ?_
    erw [eA]
    refine sel_t rfl ?_
    erw [eB]
    refine sel_t rfl ?_
    erw [eC]
    refine sel_t rfl ?_
    erw [eD]
    rfl
def liL (x y s k : Int) (l : List Int) : List Int := [5, x, y] ++ bes (IntKind.wrap .u64 s) 8 ++ bes (IntKind.wrap .u64 k) 8 ++ bes (IntKind.wrap .u64 (l.length : Int)) 2 ++ l
theorem liL_len (x y s k : Int) (l : List Int) : (liL x y s k l).length = 21 + l.length := by unfold liL; simp only [List.length_append, be_len]; rfl
theorem t60 (x y s k : Int) (l : List Int) : op_60 [.n x, .n y, .n s, .n k, .l TB l] = some (0, [.b (win 4611686018427387904 [s, k] && decide ((l.length : Int) ≤ 2048))]) := by
  have e1 := t80 4611686018427387904 [s, k] (by simp)
  rw [op_60_eq]
  refine fn_60_t_im _ _ _ _ _ _ ?_
  unfold fn_60_t
  dsimp only
  erw [e1]
  cases hw : win 4611686018427387904 [s, k] with
  | false => rfl
  | true => rfl
theorem t71 (x y s k : Int) (l : List Int) (hx : 0 ≤ x ∧ x < 256) (hy : 0 ≤ y ∧ y < 256) (hl : l.length ≤ 2048) : op_71 [.n x, .n y, .n s, .n k, .l TB l, .l TB (bes 5 1)] = some (0, [.l TB (liL x y s k l)]) := by
  have hu : IntKind.wrap .u64 (IntKind.wrap .u16 (l.length : Int)) = IntKind.wrap .u64 (l.length : Int) := by rw [wu16, wu64, wu64]; omega
  have hb : bes 5 1 ++ bes (IntKind.wrap .u64 x) 1 ++ bes (IntKind.wrap .u64 y) 1 ++ lgs [IntKind.wrap .u64 s, IntKind.wrap .u64 k] ++ bes (IntKind.wrap .u64 (IntKind.wrap .u16 (l.length : Int))) 2 ++ l = liL x y s k l := by
    rw [b5, bes1 hx.1 hx.2, bes1 hy.1 hy.2, hu]
    unfold liL lgs
    simp only [List.flatMap_cons, List.flatMap_nil, List.append_assoc, List.append_nil, List.cons_append, List.nil_append]
  have e1 := t35b (IntKind.wrap .u64 x) 1 (by omega) (bes 5 1) (by simp [be_len])
  have e2 := t35b (IntKind.wrap .u64 y) 1 (by omega) (bes 5 1 ++ bes (IntKind.wrap .u64 x) 1) (by simp [be_len])
  have e3 := t88 [IntKind.wrap .u64 s, IntKind.wrap .u64 k] (bes 5 1 ++ bes (IntKind.wrap .u64 x) 1 ++ bes (IntKind.wrap .u64 y) 1) (by simp) (by simp [be_len])
  have e4 := t35b (IntKind.wrap .u64 (IntKind.wrap .u16 (l.length : Int))) 2 (by omega) (bes 5 1 ++ bes (IntKind.wrap .u64 x) 1 ++ bes (IntKind.wrap .u64 y) 1 ++ lgs [IntKind.wrap .u64 s, IntKind.wrap .u64 k]) (by simp [be_len, lgs_len])
  rw [op_71_eq]
  refine fn_71_t_im _ _ _ _ _ _ _ ?_
  unfold fn_71_t
  dsimp only
  erw [e1]
  refine sel_t rfl ?_
  erw [e2]
  refine sel_t rfl ?_
  erw [e3]
  refine sel_t rfl ?_
  erw [e4]
  refine sel_t rfl ?_
  refine sel_t (decide_eq_true (show ((bes 5 1 ++ bes (IntKind.wrap .u64 x) 1 ++ bes (IntKind.wrap .u64 y) 1 ++ lgs [IntKind.wrap .u64 s, IntKind.wrap .u64 k] ++ bes (IntKind.wrap .u64 (IntKind.wrap .u16 (l.length : Int))) 2).length + l.length) * 1 ≤ 140737488355328 by simp only [List.length_append, lgs_len, be_len, List.length_cons, List.length_nil]; omega)) ?_
  exact congrArg (fun z : List Int => some (0, [Dat.l TB z])) hb
theorem p13 (x y s k : Int) (l : List Int) (hx : 0 ≤ x ∧ x < 256) (hy : 0 ≤ y ∧ y < 256) : op_13p [.n x, .n y, .n s, .n k, .l TB l] = some (0, [.l TB (bif win 4611686018427387904 [s, k] && decide ((l.length : Int) ≤ 2048) then chk (liL x y s k l) else [])]) := by
  have e1 := t60 x y s k l
  rw [op_13p_eq]
  refine fn_13p_t_im _ _ _ _ _ _ ?_
  unfold fn_13p_t
  dsimp only
  erw [e1]
  cases hw : win 4611686018427387904 [s, k] && decide ((l.length : Int) ≤ 2048) with
  | false => rfl
  | true =>
    rw [Bool.and_eq_true] at hw
    have h2 := of_decide_eq_true hw.2
    have hn : l.length ≤ 2048 := by omega
    have hl := liL_len x y s k l
    have e2 := t35a 5 1 (by omega) (by omega)
    have e3 := t71 x y s k l hx hy hn
    have eA := t31 (l := liL x y s k l) (by omega)
    have eB := q12 (liL x y s k l) (by omega)
    have eC := t35b (IntKind.wrap .u64 (N (Sm (liL x y s k l)))) 4 (by omega) (liL x y s k l) (by omega)
    have eD := t31 (l := chk (liL x y s k l)) (by rw [chk_len]; omega)
    refine sel_t rfl (sel_t rfl ?_)
    erw [e2]
    refine sel_f rfl (sel_t rfl ?_)
    erw [e3]
    refine sel_t rfl ?_
    erw [eA]
    refine sel_t rfl ?_
    erw [eB]
    refine sel_t rfl ?_
    erw [eC]
    refine sel_t rfl ?_
    erw [eD]
    rfl
theorem win2_t {m a b : Int} (h : 0 ≤ a ∧ a ≤ m ∧ 0 ≤ b ∧ b ≤ m) : win m [a, b] = true := by
  unfold win; simp; omega
theorem win2_f {m a b : Int} (h : ¬ (0 ≤ a ∧ a ≤ m ∧ 0 ≤ b ∧ b ≤ m)) : win m [a, b] = false := by
  cases hh : win m [a, b] with
  | false => rfl
  | true => exfalso; apply h; unfold win at hh; simp at hh; omega
theorem ndt {p : Prop} [Decidable p] (h : p) : (!decide p) = false := by rw [decide_eq_true h]; rfl
theorem ndf {p : Prop} [Decidable p] (h : ¬ p) : (!decide p) = true := by rw [decide_eq_false h]; rfl
theorem Wb.app {a b : List Int} (h : Wb a) (k : Wb b) : Wb (a ++ b) := fun x hx => (List.mem_append.1 hx).elim (h x) (k x)
theorem Wb.cons {a : Int} {b : List Int} (h : 0 ≤ a ∧ a < 256) (k : Wb b) : Wb (a :: b) := fun x hx => (List.mem_cons.1 hx).elim (fun e => e ▸ h) (k x)
theorem Wb.nil : Wb [] := fun x hx => by cases hx
theorem stL_wb {a b c : Int} {t : List Int} {u : Int} (h : Wb t) : Wb (stL a b c t u) := (((be_wb _ _).app (be_wb _ _)).app (be_wb _ _)).app h |>.app (be_wb _ _)
theorem logL_wb {e y a b c : Int} {t : List Int} {u : Int} (h : Wb t) : Wb (logL e y a b c t u) := (((Wb.nil.cons (a := 4) (by omega)).app (be_wb _ _)).app (be_wb _ _)).app (stL_wb h)
theorem liL_wb {x y s k : Int} {l : List Int} (hx : 0 ≤ x ∧ x < 256) (hy : 0 ≤ y ∧ y < 256) (h : Wb l) : Wb (liL x y s k l) := ((((Wb.nil.cons hy).cons hx).cons (a := 5) (by omega)).app (be_wb _ _)).app (be_wb _ _) |>.app (be_wb _ _) |>.app h
abbrev Cmd := Ty.den TC
def ck (a b : Int) : Bool := !decide (a < 1) && (!decide (a > 3) && win 63 [b])
def cb (a b : Int) : List Int := [a, IntKind.wrap .u8 b]
def cmdOk (x : Cmd) : Bool := ck (Prod.fst x) (Prod.snd x)
def c1 (l : List Cmd) (i : Nat) : Int := Prod.fst (List.getD l i (Ty.dflt TC))
def c2 (l : List Cmd) (i : Nat) : Int := Prod.snd (List.getD l i (Ty.dflt TC))
def cms (l : List Cmd) : List Int := l.flatMap fun x => cb (Prod.fst x) (Prod.snd x)
theorem cms_len (l : List Cmd) : (cms l).length = 2 * l.length := by
  induction l with
  | nil => rfl
  | cons a l ih =>
    have h : cms (a :: l) = cb (Prod.fst a) (Prod.snd a) ++ cms l := rfl
    rw [h, List.length_append, ih, List.length_cons]
    show 2 + 2 * l.length = _
    omega
theorem drop_getE {l : List Cmd} {i : Nat} (h : i < l.length) : l.drop i = l.getD i (Ty.dflt TC) :: l.drop (i + 1) := by
  rw [List.drop_eq_getElem_cons h, List.getD_eq_getElem?_getD, List.getElem?_eq_getElem h]; rfl
theorem lp46 (c y o a b : Int) (l : List Cmd) (hl : l.length ≤ 1000000) : ∀ (k i f : Nat), i + k = l.length → k < f → iterS st_L46_2 f [.k 0, .l TC l, .n (l.length : Int), .n (i : Int), .n c, .n y, .n o, .n a, .n b, .l TC l] = (bif (l.drop i).all cmdOk then some (0, [.n c, .n y, .n o, .n a, .n b, .l TC l]) else some (1, [.b false]))
  | _, _, 0, _, h => by omega
  | 0, i, f + 1, hi, hf => by
    have e : (st_L46_2 [.k 0, .l TC l, .n (l.length : Int), .n (i : Int), .n c, .n y, .n o, .n a, .n b, .l TC l]).sel = some (.stop 0 [.n c, .n y, .n o, .n a, .n b, .l TC l]) := by
      refine fn_L46_2_t_im l _ _ _ _ _ _ _ l (by omega) rfl _ ?_
      unfold fn_L46_2_t
      exact sel_f (decide_eq_false (show ¬ ((i : Int) < (l.length : Int)) by omega)) rfl
    unfold iterS
    rw [e, List.drop_eq_nil_of_le (by omega)]
    rfl
  | k + 1, i, f + 1, hi, hf => by
    have w : IntKind.wrap .i64 ((i : Int) + 1) = ((i + 1 : Nat) : Int) := by rw [w64d]; omega
    have hd := drop_getE (l := l) (show i < l.length by omega)
    have hlt : (i : Int) < (l.length : Int) := by omega
    have ih := lp46 c y o a b l hl k (i + 1) f (by omega) (by omega)
    rw [hd, List.all_cons]
    by_cases h1 : c1 l i < 1
    · have e : (st_L46_2 [.k 0, .l TC l, .n (l.length : Int), .n (i : Int), .n c, .n y, .n o, .n a, .n b, .l TC l]).sel = some (.stop 1 [.b false]) := by
        refine fn_L46_2_t_im l _ _ _ _ _ _ _ l (by omega) rfl _ ?_
        unfold fn_L46_2_t
        exact sel_t (decide_eq_true hlt) (sel_t (decide_eq_true h1) rfl)
      have hc : cmdOk (l.getD i (Ty.dflt TC)) = false := by show ck (c1 l i) (c2 l i) = _; unfold ck; rw [decide_eq_true h1]; rfl
      unfold iterS
      rw [e, hc]
      rfl
    · by_cases h2 : c1 l i > 3
      · have e : (st_L46_2 [.k 0, .l TC l, .n (l.length : Int), .n (i : Int), .n c, .n y, .n o, .n a, .n b, .l TC l]).sel = some (.stop 1 [.b false]) := by
          refine fn_L46_2_t_im l _ _ _ _ _ _ _ l (by omega) rfl _ ?_
          unfold fn_L46_2_t
          exact sel_t (decide_eq_true hlt) (sel_f (decide_eq_false h1) (sel_t (decide_eq_true h2) rfl))
        have hc : cmdOk (l.getD i (Ty.dflt TC)) = false := by show ck (c1 l i) (c2 l i) = _; unfold ck; rw [decide_eq_true h2, decide_eq_false h1]; rfl
        unfold iterS
        rw [e, hc]
        rfl
      · have e8 := t80 63 [c2 l i] (by simp)
        have hc : cmdOk (l.getD i (Ty.dflt TC)) = win 63 [c2 l i] := by show ck (c1 l i) (c2 l i) = _; unfold ck; rw [decide_eq_false h2, decide_eq_false h1]; rfl
        rw [hc]
        cases hw : win 63 [c2 l i] with
        | false =>
          rw [hw] at e8
          have e : (st_L46_2 [.k 0, .l TC l, .n (l.length : Int), .n (i : Int), .n c, .n y, .n o, .n a, .n b, .l TC l]).sel = some (.stop 1 [.b false]) := by
            refine fn_L46_2_t_im l _ _ _ _ _ _ _ l (by omega) rfl _ ?_
            unfold fn_L46_2_t
            refine sel_t (decide_eq_true hlt) (sel_f (decide_eq_false h1) (sel_f (decide_eq_false h2) ?_))
            erw [e8]
            rfl
          unfold iterS
          rw [e]
          rfl
        | true =>
          rw [hw] at e8
          have e : (st_L46_2 [.k 0, .l TC l, .n (l.length : Int), .n (i : Int), .n c, .n y, .n o, .n a, .n b, .l TC l]).sel = some (.go [.k 0, .l TC l, .n (l.length : Int), .n ((i + 1 : Nat) : Int), .n c, .n y, .n o, .n a, .n b, .l TC l]) := by
            refine fn_L46_2_t_im l _ _ _ _ _ _ _ l (by omega) rfl _ ?_
            unfold fn_L46_2_t
            refine sel_t (decide_eq_true hlt) (sel_f (decide_eq_false h1) (sel_f (decide_eq_false h2) ?_))
            erw [e8]
            rw [w]
            rfl
          unfold iterS
          rw [e]
          exact ih
theorem t46 (c y o a b : Int) (l : List Cmd) (hl : l.length ≤ 1000000) : op_46 [.n c, .n y, .n o, .n a, .n b, .l TC l] = some (0, [.b (l.all cmdOk && (win 1099511627776 [y] && decide ((l.length : Int) ≤ 8)))]) := by
  have e1 : op_L46_2 [.k 0, .l TC l, .n (l.length : Int), .n 0, .n c, .n y, .n o, .n a, .n b, .l TC l] = (bif l.all cmdOk then some (0, [.n c, .n y, .n o, .n a, .n b, .l TC l]) else some (1, [.b false])) := by
    rw [op_L46_2_eq]
    exact lp46 c y o a b l hl l.length 0 FU (by omega) (by unfold FU; omega)
  have e2 := t80 1099511627776 [y] (by simp)
  rw [op_46_eq]
  refine fn_46_t_im _ _ _ _ _ _ _ ?_
  unfold fn_46_t
  dsimp only
  cases h : l.all cmdOk with
  | false =>
    rw [h] at e1
    erw [e1]
    rfl
  | true =>
    rw [h] at e1
    erw [e1]
    refine sel_t rfl ?_
    erw [e2]
    refine sel_t rfl ?_
    cases hw : win 1099511627776 [y] with
    | false => rfl
    | true => rfl
theorem lp63 (l : List Cmd) (hl : l.length ≤ 1000) (hf : ∀ i, i < l.length → 0 ≤ c1 l i ∧ c1 l i < 256) : ∀ (k i : Nat) (r : List Int) (f : Nat), i + k = l.length → r.length + 2 * k ≤ 100000 → k < f → iterS st_L63_7 f [.k 0, .l TC l, .n (l.length : Int), .n (i : Int), .l TB r] = some (0, [.l TB (r ++ cms (l.drop i))])
  | _, _, _, 0, _, _, h => by omega
  | 0, i, r, f + 1, hi, hr, hf' => by
    have e : (st_L63_7 [.k 0, .l TC l, .n (l.length : Int), .n (i : Int), .l TB r]).sel = some (.stop 0 [.l TB r]) := by
      refine fn_L63_7_t_im l _ _ r (by omega) rfl _ ?_
      unfold fn_L63_7_t
      exact sel_f (decide_eq_false (show ¬ ((i : Int) < (l.length : Int)) by omega)) rfl
    unfold iterS
    rw [e, List.drop_eq_nil_of_le (by omega)]
    exact congrArg (fun z : List Int => some (0, [Dat.l TB z])) (List.append_nil r).symm
  | k + 1, i, r, f + 1, hi, hr, hf' => by
    have w : IntKind.wrap .i64 ((i : Int) + 1) = ((i + 1 : Nat) : Int) := by rw [w64d]; omega
    have hd := drop_getE (l := l) (show i < l.length by omega)
    have hlt : (i : Int) < (l.length : Int) := by omega
    have hx0 := hf i (by omega)
    have ih := fun r h => lp63 l hl hf k (i + 1) r f (by omega) h (by omega)
    rw [hd]
    have e1 := t35b (IntKind.wrap .u64 (c1 l i)) 1 (by omega) r (by omega)
    rw [bes1 hx0.1 hx0.2] at e1
    have e2 := t35b (IntKind.wrap .u64 (IntKind.wrap .u8 (c2 l i))) 1 (by omega) (r ++ [c1 l i]) (by rw [List.length_append]; simp; omega)
    rw [bes1 (by rw [wu8]; omega) (by rw [wu8]; omega)] at e2
    have e : (st_L63_7 [.k 0, .l TC l, .n (l.length : Int), .n (i : Int), .l TB r]).sel = some (.go [.k 0, .l TC l, .n (l.length : Int), .n ((i + 1 : Nat) : Int), .l TB (r ++ [c1 l i] ++ [IntKind.wrap .u8 (c2 l i)])]) := by
      refine fn_L63_7_t_im l _ _ r (by omega) rfl _ ?_
      unfold fn_L63_7_t
      refine sel_t (decide_eq_true hlt) ?_
      erw [e1]
      refine sel_t rfl ?_
      erw [e2]
      refine sel_t rfl ?_
      rw [w]
      rfl
    unfold iterS
    rw [e]
    have ih' := ih (r ++ [c1 l i] ++ [IntKind.wrap .u8 (c2 l i)]) (by simp only [List.length_append, List.length_cons, List.length_nil]; omega)
    have hc : cms (l.getD i (Ty.dflt TC) :: l.drop (i + 1)) = [c1 l i] ++ ([IntKind.wrap .u8 (c2 l i)] ++ cms (l.drop (i + 1))) := rfl
    rw [hc, ← List.append_assoc, ← List.append_assoc]
    exact ih'
theorem win1_t {m a : Int} (h : 0 ≤ a ∧ a ≤ m) : win m [a] = true := by
  unfold win; simp; omega
theorem win1_f {m a : Int} (h : ¬ (0 ≤ a ∧ a ≤ m)) : win m [a] = false := by
  cases hh : win m [a] with
  | false => rfl
  | true => exfalso; apply h; unfold win at hh; simp at hh; omega
theorem ck_1 {a b : Int} (h : ck a b = true) : 1 ≤ a ∧ a ≤ 3 := by
  unfold ck at h; simp at h; omega
theorem ok_at {l : List Cmd} (h : l.all cmdOk = true) : ∀ i, i < l.length → 0 ≤ c1 l i ∧ c1 l i < 256 := by
  intro i hi
  have hm : l.getD i (Ty.dflt TC) ∈ l := by rw [List.getD_eq_getElem?_getD, List.getElem?_eq_getElem hi]; exact List.getElem_mem hi
  have h2 : ck (c1 l i) (c2 l i) = true := List.all_eq_true.1 h _ hm
  have := ck_1 h2
  omega
def inL (c y o a b : Int) (l : List Cmd) : List Int := [1, c] ++ bes (IntKind.wrap .u64 y) 8 ++ bes o 8 ++ bes (IntKind.wrap .u64 a) 4 ++ bes (IntKind.wrap .u64 b) 4 ++ [IntKind.wrap .u8 (l.length : Int)] ++ cms l
theorem inL_len (c y o a b : Int) (l : List Cmd) : (inL c y o a b l).length = 27 + 2 * l.length := by unfold inL; simp only [List.length_append, be_len, cms_len]; rfl
theorem cms_wb : ∀ {l : List Cmd}, l.all cmdOk = true → Wb (cms l)
  | [], h => Wb.nil
  | x :: l, h => by
    rw [List.all_cons, Bool.and_eq_true] at h
    have h1 : ck (Prod.fst x) (Prod.snd x) = true := h.1
    have h2 := ck_1 h1
    have hc : cms (x :: l) = cb (Prod.fst x) (Prod.snd x) ++ cms l := rfl
    rw [hc]
    refine Wb.app ?_ (cms_wb h.2)
    have hw : 0 ≤ IntKind.wrap .u8 (Prod.snd x) ∧ IntKind.wrap .u8 (Prod.snd x) < 256 := by rw [wu8]; omega
    exact (Wb.nil.cons hw).cons ⟨by omega, by omega⟩
theorem inL_wb {c y o a b : Int} {l : List Cmd} (h0 : 0 ≤ c) (h1 : c < 256) (h : l.all cmdOk = true) : Wb (inL c y o a b l) :=
  ((((((Wb.nil.cons ⟨h0, h1⟩).cons (a := 1) (by omega)).app (be_wb _ _)).app (be_wb _ _)).app (be_wb _ _)).app (be_wb _ _)).app (Wb.nil.cons (by rw [wu8]; omega)) |>.app (cms_wb h)
theorem b1 : bes 1 1 = [1] := rfl
theorem t63 (c y o a b : Int) (l : List Cmd) (h0 : 0 ≤ c) (h1 : c < 256) (hl : l.length ≤ 8) (hk : l.all cmdOk = true) : op_63 [.n c, .n y, .n o, .n a, .n b, .l TC l, .l TB (bes 1 1)] = some (0, [.l TB (inL c y o a b l)]) := by
  have hb : bes 1 1 ++ bes (IntKind.wrap .u64 c) 1 ++ lgs [IntKind.wrap .u64 y, o] ++ bes (IntKind.wrap .u64 a) 4 ++ bes (IntKind.wrap .u64 b) 4 ++ bes (IntKind.wrap .u64 (IntKind.wrap .u8 (l.length : Int))) 1 ++ cms l = inL c y o a b l := by
    rw [b1, bes1 h0 h1, bes1 (c := IntKind.wrap .u8 (l.length : Int)) (by rw [wu8]; omega) (by rw [wu8]; omega)]
    unfold inL lgs
    simp only [List.flatMap_cons, List.flatMap_nil, List.append_assoc, List.append_nil, List.cons_append, List.nil_append]
  have e1 := t35b (IntKind.wrap .u64 c) 1 (by omega) (bes 1 1) (by simp [be_len])
  have e2 := t88 [IntKind.wrap .u64 y, o] (bes 1 1 ++ bes (IntKind.wrap .u64 c) 1) (by simp) (by simp [be_len])
  have e3 := t35b (IntKind.wrap .u64 a) 4 (by omega) (bes 1 1 ++ bes (IntKind.wrap .u64 c) 1 ++ lgs [IntKind.wrap .u64 y, o]) (by simp [be_len, lgs_len])
  have e4 := t35b (IntKind.wrap .u64 b) 4 (by omega) (bes 1 1 ++ bes (IntKind.wrap .u64 c) 1 ++ lgs [IntKind.wrap .u64 y, o] ++ bes (IntKind.wrap .u64 a) 4) (by simp [be_len, lgs_len])
  have e5 := t35b (IntKind.wrap .u64 (IntKind.wrap .u8 (l.length : Int))) 1 (by omega) (bes 1 1 ++ bes (IntKind.wrap .u64 c) 1 ++ lgs [IntKind.wrap .u64 y, o] ++ bes (IntKind.wrap .u64 a) 4 ++ bes (IntKind.wrap .u64 b) 4) (by simp [be_len, lgs_len])
  have e6 : op_L63_7 [.k 0, .l TC l, .n (l.length : Int), .n 0, .l TB (bes 1 1 ++ bes (IntKind.wrap .u64 c) 1 ++ lgs [IntKind.wrap .u64 y, o] ++ bes (IntKind.wrap .u64 a) 4 ++ bes (IntKind.wrap .u64 b) 4 ++ bes (IntKind.wrap .u64 (IntKind.wrap .u8 (l.length : Int))) 1)] = some (0, [.l TB (inL c y o a b l)]) := by
    rw [op_L63_7_eq, ← hb]
    exact lp63 l (by omega) (ok_at hk) l.length 0 (bes 1 1 ++ bes (IntKind.wrap .u64 c) 1 ++ lgs [IntKind.wrap .u64 y, o] ++ bes (IntKind.wrap .u64 a) 4 ++ bes (IntKind.wrap .u64 b) 4 ++ bes (IntKind.wrap .u64 (IntKind.wrap .u8 (l.length : Int))) 1) FU (by omega) (by simp [be_len, lgs_len]; omega) (by unfold FU; omega)
  rw [op_63_eq]
  refine fn_63_t_im _ _ _ _ _ _ _ _ ?_
  unfold fn_63_t
  dsimp only
  erw [e1]
  refine sel_t rfl ?_
  erw [e2]
  refine sel_t rfl ?_
  erw [e3]
  refine sel_t rfl ?_
  erw [e4]
  refine sel_t rfl ?_
  erw [e5]
  refine sel_t rfl ?_
  erw [e6]
  rfl
theorem p9 (c y o a b : Int) (l : List Cmd) (h0 : 0 ≤ c) (h1 : c < 256) (hl0 : l.length ≤ 1000) : op_9p [.n c, .n y, .n o, .n a, .n b, .l TC l] = some (0, [.l TB (bif l.all cmdOk && (win 1099511627776 [y] && decide ((l.length : Int) ≤ 8)) then chk (inL c y o a b l) else [])]) := by
  have e1 := t46 c y o a b l (by omega)
  rw [op_9p_eq]
  refine fn_9p_t_im _ _ _ _ _ _ _ ?_
  unfold fn_9p_t
  dsimp only
  erw [e1]
  cases hw : l.all cmdOk && (win 1099511627776 [y] && decide ((l.length : Int) ≤ 8)) with
  | false => rfl
  | true =>
    rw [Bool.and_eq_true, Bool.and_eq_true] at hw
    have h2 := of_decide_eq_true hw.2.2
    have hn : l.length ≤ 8 := by omega
    have hl := inL_len c y o a b l
    have e2 := t35a 1 1 (by omega) (by omega)
    have e3 := t63 c y o a b l h0 h1 hn hw.1
    have eA := t31 (l := inL c y o a b l) (by omega)
    have eB := q12 (inL c y o a b l) (by omega)
    have eC := t35b (IntKind.wrap .u64 (N (Sm (inL c y o a b l)))) 4 (by omega) (inL c y o a b l) (by omega)
    have eD := t31 (l := chk (inL c y o a b l)) (by rw [chk_len]; omega)
    refine sel_t rfl (sel_t rfl ?_)
    erw [e2]
    refine sel_f rfl (sel_t rfl ?_)
    erw [e3]
    refine sel_t rfl ?_
    erw [eA]
    refine sel_t rfl ?_
    erw [eB]
    refine sel_t rfl ?_
    erw [eC]
    refine sel_t rfl ?_
    erw [eD]
    rfl
theorem bytes_back {b : List Int} (h : Wb b) : bytesOf (strOf b) = b := by
  unfold bytesOf strOf
  simp only [List.map_map]
  conv => rhs; rw [← List.map_id b]
  refine List.map_congr_left fun x hx => ?_
  have := h x hx
  show (((UInt8.ofNat x.toNat).toNat : Nat) : Int) = x
  rw [UInt8.toNat_ofNat']
  omega
theorem bif_len (c : Bool) {l : List Int} {n : Nat} (h : l.length ≤ n) : (bif c then l else []).length ≤ n := by
  cases c
  · exact Nat.zero_le _
  · exact h
abbrev TU8 : Ty := .int .u8
abbrev TInp : Ty := .pair TU8 (.pair TI (.pair TL (.pair (.int .u32) (.pair (.int .u32) (.sl TC)))))
abbrev TOut : Ty := .pair TU8 (.pair TI (.pair TI (.pair TL (.int .u32))))
abbrev TStt : Ty := .pair TL (.pair TL (.pair TL (.pair (.arr 64 TB) (.int .u32))))
abbrev TLog : Ty := .pair TI (.pair TI TStt)
abbrev TLnk : Ty := .pair TU8 (.pair TU8 (.pair TI (.pair TI (.sl TB))))
theorem wf8 {n : Int} (h : wfD (.int .u8) n = true) : 0 ≤ n ∧ n < 256 := by
  have a' : (decide (IntKind.min .u8 ≤ n) && decide (n ≤ IntKind.max .u8)) = true := h
  rw [Bool.and_eq_true, decide_eq_true_eq, decide_eq_true_eq] at a'
  have m1 : IntKind.min .u8 = 0 := rfl
  have m2 : IntKind.max .u8 = 255 := rfl
  omega
theorem wf_arr {l : List (Ty.den TB)} (h : wfD (.arr 64 TB) l = true) : l.length = 64 ∧ Wb l := by
  have h' : (decide (l.length = 64) && wfL (wfD TB) l) = true := h
  rw [Bool.and_eq_true, decide_eq_true_eq, wfL_iff] at h'
  exact ⟨h'.1, fun x hx => wf8 (h'.2 x hx)⟩
theorem wf_sl {l : List (Ty.den TB)} (h : wfD (.sl TB) l = true) : Wb l := by
  have h' : (decide (l.length ≤ maxLen) && wfL (wfD TB) l) = true := h
  rw [Bool.and_eq_true, wfL_iff] at h'
  exact fun x hx => wf8 (h'.2 x hx)
theorem wp1 {a b : Ty} {d : (Ty.pair a b).den} (h : wfD (.pair a b) d = true) : wfD a d.1 = true := (wf_get h).1
theorem wp2 {a b : Ty} {d : (Ty.pair a b).den} (h : wfD (.pair a b) d = true) : wfD b d.2 = true := (wf_get h).2
def nm (l : List Int) : Int := l.foldl (fun a b => a * 256 + b) 0
theorem nm_snoc (l : List Int) (b : Int) : nm (l ++ [b]) = nm l * 256 + b := by simp [nm]
theorem fold_bd : ∀ (l : List Int) (a m : Int), Wb l → 0 ≤ a → a < m → 0 ≤ l.foldl (fun a b => a * 256 + b) a ∧ l.foldl (fun a b => a * 256 + b) a < m * 256 ^ l.length
  | [], a, m, _, h0, h1 => by simp; exact ⟨h0, h1⟩
  | b :: l, a, m, hw, h0, h1 => by
    have hb := hw b (by simp)
    have := fold_bd l (a * 256 + b) (m * 256) (fun x hx => hw x (by simp [hx])) (by omega) (by omega)
    simp only [List.foldl_cons, List.length_cons, Int.pow_succ]
    rw [Int.mul_comm (256 ^ l.length) 256, ← Int.mul_assoc]
    exact this
theorem nm_bd {l : List Int} (h : Wb l) : 0 ≤ nm l ∧ nm l < 256 ^ l.length := by
  have := fold_bd l 0 1 h (by omega) (by omega)
  rw [Int.one_mul] at this
  exact this
theorem Wb.take {l : List Int} (h : Wb l) (n : Nat) : Wb (l.take n) := fun b hb => h b (List.mem_of_mem_take hb)
theorem Wb.drop {l : List Int} (h : Wb l) (n : Nat) : Wb (l.drop n) := fun b hb => h b (List.mem_of_mem_drop hb)
theorem pow_le {n : Nat} (h : n ≤ 7) : (256 : Int) ^ n ≤ 72057594037927936 := by
  have : n = 0 ∨ n = 1 ∨ n = 2 ∨ n = 3 ∨ n = 4 ∨ n = 5 ∨ n = 6 ∨ n = 7 := by omega
  rcases this with rfl | rfl | rfl | rfl | rfl | rfl | rfl | rfl <;> decide
theorem st8 {a b : Int} (h0 : 0 ≤ a) (h1 : a < 72057594037927936) (b0 : 0 ≤ b) (b1 : b < 256) : ior .u64 (ishl .u64 a 8) (IntKind.wrap .u64 b) = a * 256 + b := by
  have e1 : ishl .u64 a 8 = a * 256 := by
    have : ishl .u64 a 8 = IntKind.wrap .u64 (a * 2 ^ 8) := rfl
    rw [this, wu64]
    have : (2 : Int) ^ 8 = 256 := by decide
    rw [this]; omega
  have e2 : IntKind.wrap .u64 b = b := by rw [wu64]; omega
  rw [e1, e2]
  obtain ⟨x, rfl⟩ : ∃ x : Nat, a = x := ⟨a.toNat, by omega⟩
  obtain ⟨y, rfl⟩ : ∃ y : Nat, b = y := ⟨b.toNat, by omega⟩
  have e3 : ior .u64 ((x : Int) * 256) (y : Int) = IntKind.wrap .u64 ((BitVec.ofInt 64 ((x : Int) * 256) ||| BitVec.ofInt 64 (y : Int)).toNat : Int) := rfl
  rw [e3]
  have e4 : (x : Int) * 256 = ((x * 256 : Nat) : Int) := by omega
  rw [e4, BitVec.ofInt_natCast, BitVec.ofInt_natCast, BitVec.toNat_or, BitVec.toNat_ofNat, BitVec.toNat_ofNat, Nat.mod_eq_of_lt (by omega), Nat.mod_eq_of_lt (by omega)]
  have e5 : x * 256 ||| y = x * 256 + y := by
    have := Nat.shiftLeft_add_eq_or_of_lt (i := 8) (b := y) (by omega) x
    rw [Nat.shiftLeft_eq] at this
    exact this.symm
  rw [e5, wu64]; omega
theorem nm_step {l : List Int} (hw : Wb l) (hl : l.length ≤ 8) {n : Nat} (h : n < l.length) : ior .u64 (ishl .u64 (nm (l.take n)) 8) (IntKind.wrap .u64 (l.getD n 0)) = nm (l.take (n + 1)) := by
  have hb := nm_bd (hw.take n)
  have hle : (l.take n).length ≤ 7 := by rw [List.length_take]; omega
  have := pow_le hle
  have hx := hw (l.getD n 0) (by rw [List.getD_eq_getElem?_getD, List.getElem?_eq_getElem h]; simp)
  rw [take_getD h, nm_snoc]
  exact st8 hb.1 (by omega) hx.1 hx.2
theorem step2 {l : List Int} (hw : Wb l) (hl : l.length ≤ 8) {n : Int} (h0 : 0 ≤ n) (h1 : n < (l.length : Int)) : ior .u64 (ishl .u64 (nm (l.take n.toNat)) 8) (IntKind.wrap .u64 (l.getD n.toNat 0)) = nm (l.take (n + 1).toNat) := by
  have e : (n + 1).toNat = n.toNat + 1 := by omega
  rw [e]; exact nm_step hw hl (by omega)
theorem lp34 {l : List Int} (hl : l.length ≤ 8) (hw : Wb l) (n : Int) (r : List Int) (b : Bool) : op_L34r_3 [.k 0, .n n, .n 0, .l TB l, .n (l.length : Int), .n 0, .l TB r, .b b] = some (0, [.n n, .n (nm l), .l TB r, .b b]) := by
  rw [op_L34r_3_eq]
  refine iterS_count (fun i => [.k 0, .n n, .n (nm (l.take i.toNat)), .l TB l, .n (l.length : Int), .n i, .l TB r, .b b]) (l.length : Int) (0, [.n n, .n (nm l), .l TB r, .b b]) (fun i h0 h1 => ?_) ?_ FU 0 (by omega) (by omega) (by show ((l.length : Int) - 0).toNat < FU; unfold FU; omega)
  · have w := w64s (x := i + 1) (by omega) (by omega)
    refine fn_L34r_3_i_im n (nm (l.take i.toNat)) l (l.length : Int) i r b _ ?_
    unfold fn_L34r_3_i
    refine sel_t (decide_eq_true (show i < (l.length : Int) from h1)) (sel_t (inR_true h0 h1) ?_)
    show some (Step.go [.k 0, .n n, .n (ior .u64 (ishl .u64 (nm (l.take i.toNat)) 8) (IntKind.wrap .u64 (l.getD i.toNat 0))), .l TB l, .n (l.length : Int), .n (IntKind.wrap .i64 (i + 1)), .l TB r, .b b]) = _
    rw [step2 hw hl h0 h1, w]
  · refine fn_L34r_3_i_im n _ l (l.length : Int) _ r b _ ?_
    unfold fn_L34r_3_i
    refine sel_f (decide_eq_false (show ¬ ((l.length : Int) < (l.length : Int)) by omega)) ?_
    show some (Step.stop 0 [Dat.n n, Dat.n (nm (l.take (l.length : Int).toNat)), Dat.l TB r, Dat.b b]) = some (Step.stop 0 [Dat.n n, Dat.n (nm l), Dat.l TB r, Dat.b b])
    rw [show (l.length : Int).toNat = l.length by omega, List.take_length]
theorem lp34n (n : Int) (r : List Int) (b : Bool) : op_L34r_3 [.k 1, .n n, .n 0, .n 0, .n 0, .l TB r, .b b] = some (0, [.n n, .n 0, .l TB r, .b b]) := by
  rw [op_L34r_3_eq, show FU = 18446744073709551615 + 1 from rfl]
  unfold iterS
  rw [fn_L34r_3_n_im n 0 0 0 r b rfl rfl _ rfl]
theorem t33ok {n : Int} {l : List Int} (h0 : 0 ≤ n) (h1 : n ≤ (l.length : Int)) : op_33r [.n n, .l TB l, .b false] = some (0, [.l TB (l.take n.toNat), .l TB (l.drop n.toNat), .b false]) := by
  rw [op_33r_eq]
  refine fn_33r_t_im n l false _ ?_
  unfold fn_33r_t
  exact sel_f rfl (sel_f (decide_eq_false (by omega)) (sel_f (decide_eq_false (show ¬ (n > (l.length : Int)) by omega)) (sel_t (by simp; omega) rfl)))
theorem t33no {n : Int} {l : List Int} {b : Bool} (h : b = true ∨ n < 0 ∨ (l.length : Int) < n) : op_33r [.n n, .l TB l, .b b] = some (1, [.l TB ([] : List Int), .b true]) := by
  rw [op_33r_eq]
  refine fn_33r_t_im n l b _ ?_
  unfold fn_33r_t
  cases b with
  | true => exact sel_t rfl rfl
  | false =>
    refine sel_f rfl ?_
    by_cases h1 : n < 0
    · exact sel_t (decide_eq_true h1) rfl
    · refine sel_f (decide_eq_false h1) (sel_t (decide_eq_true (show n > (l.length : Int) from ?_)) rfl)
      rcases h with h | h | h
      · cases h
      · omega
      · exact h
theorem t34_1ok {l : List Int} (hw : Wb l) (h1 : 1 ≤ l.length) : op_34r [.n 1, .l TB l, .b false] = some (0, [.n (nm (l.take 1)), .l TB (l.drop 1), .b false]) := by
  have e1 : op_33r [.n (1 : Int), .l TB l, .b false] = some (0, [.l TB (l.take 1), .l TB (l.drop 1), .b false]) := t33ok (n := 1) (by omega) (by omega)
  have hx : (l.take 1).length = 1 := by rw [List.length_take]; omega
  have e2 := lp34 (l := l.take 1) (by omega) (hw.take 1) 1 (l.drop 1) false
  have hb := nm_bd (hw.take 1)
  rw [hx] at hb
  have wr : IntKind.wrap .u8 (nm (l.take 1)) = nm (l.take 1) := by
    have : (256 : Int) ^ 1 = 256 := by decide
    rw [wu8]; omega
  rw [op_34r_eq]
  refine fn_34r_t_im 1 l false _ ?_
  unfold fn_34r_t
  refine sel_t (by erw [e1]; rfl) (sel_t (by erw [e1]; erw [e2]; rfl) ?_)
  have e3 : op_L34r_3 [.k 0, .n (1 : Int), .n 0, .l TB (gl TB (dOf (op_33r [.n (1 : Int), .l TB l, .b false])) 0), .n (List.length (gl TB (dOf (op_33r [.n (1 : Int), .l TB l, .b false])) 0) : Int), .n 0, .l TB (gl TB (dOf (op_33r [.n (1 : Int), .l TB l, .b false])) 1), .b (gb (dOf (op_33r [.n (1 : Int), .l TB l, .b false])) 2)] = some (0, [.n 1, .n (nm (l.take 1)), .l TB (l.drop 1), .b false]) := by
    rw [e1]; exact e2
  clear e2
  have e2 := e3
  exact sel_t (by erw [e2]; rfl) (by erw [e2]; exact congrArg (fun z => some (0, [Dat.n z, .l TB (l.drop 1), .b false])) wr)
theorem t34_1no {l : List Int} {b : Bool} (h : b = true ∨ l.length < 1) : op_34r [.n 1, .l TB l, .b b] = some (0, [.n 0, .l TB ([] : List Int), .b true]) := by
  have e1 : op_33r [.n (1 : Int), .l TB l, .b b] = some (1, [.l TB ([] : List Int), .b true]) := t33no (by rcases h with h | h; exact .inl h; exact .inr (.inr (by omega)))
  have e2 : op_L34r_3 [.k 1, .n (1 : Int), .n 0, .n 0, .n 0, .l TB (gl TB (dOf (op_33r [.n (1 : Int), .l TB l, .b b])) 0), .b (gb (dOf (op_33r [.n (1 : Int), .l TB l, .b b])) 1)] = some (0, [.n 1, .n 0, .l TB ([] : List Int), .b true]) := by
    rw [e1]; exact lp34n 1 [] true
  rw [op_34r_eq]
  refine fn_34r_t_im 1 l b _ ?_
  unfold fn_34r_t
  refine sel_f (by erw [e1]; rfl) (sel_t (by erw [e1]; rfl) (sel_t (by erw [e2]; rfl) ?_))
  exact sel_t (by erw [e2]; rfl) (by erw [e2]; rfl)
theorem t34_2ok {l : List Int} (hw : Wb l) (h1 : 2 ≤ l.length) : op_34r [.n 2, .l TB l, .b false] = some (1, [.n (nm (l.take 2)), .l TB (l.drop 2), .b false]) := by
  have e1 : op_33r [.n (2 : Int), .l TB l, .b false] = some (0, [.l TB (l.take 2), .l TB (l.drop 2), .b false]) := t33ok (n := 2) (by omega) (by omega)
  have hx : (l.take 2).length = 2 := by rw [List.length_take]; omega
  have e2 := lp34 (l := l.take 2) (by omega) (hw.take 2) 2 (l.drop 2) false
  have hb := nm_bd (hw.take 2)
  rw [hx] at hb
  have wr : IntKind.wrap .u16 (nm (l.take 2)) = nm (l.take 2) := by
    have : (256 : Int) ^ 2 = 65536 := by decide
    rw [wu16]; omega
  rw [op_34r_eq]
  refine fn_34r_t_im 2 l false _ ?_
  unfold fn_34r_t
  refine sel_t (by erw [e1]; rfl) (sel_t (by erw [e1]; erw [e2]; rfl) ?_)
  have e3 : op_L34r_3 [.k 0, .n (2 : Int), .n 0, .l TB (gl TB (dOf (op_33r [.n (2 : Int), .l TB l, .b false])) 0), .n (List.length (gl TB (dOf (op_33r [.n (2 : Int), .l TB l, .b false])) 0) : Int), .n 0, .l TB (gl TB (dOf (op_33r [.n (2 : Int), .l TB l, .b false])) 1), .b (gb (dOf (op_33r [.n (2 : Int), .l TB l, .b false])) 2)] = some (0, [.n 2, .n (nm (l.take 2)), .l TB (l.drop 2), .b false]) := by
    rw [e1]; exact e2
  clear e2
  have e2 := e3
  exact sel_f (by erw [e2]; rfl) (sel_t (by erw [e2]; rfl) (by erw [e2]; exact congrArg (fun z => some (1, [Dat.n z, .l TB (l.drop 2), .b false])) wr))
theorem t34_2no {l : List Int} {b : Bool} (h : b = true ∨ l.length < 2) : op_34r [.n 2, .l TB l, .b b] = some (1, [.n 0, .l TB ([] : List Int), .b true]) := by
  have e1 : op_33r [.n (2 : Int), .l TB l, .b b] = some (1, [.l TB ([] : List Int), .b true]) := t33no (by rcases h with h | h; exact .inl h; exact .inr (.inr (by omega)))
  have e2 : op_L34r_3 [.k 1, .n (2 : Int), .n 0, .n 0, .n 0, .l TB (gl TB (dOf (op_33r [.n (2 : Int), .l TB l, .b b])) 0), .b (gb (dOf (op_33r [.n (2 : Int), .l TB l, .b b])) 1)] = some (0, [.n 2, .n 0, .l TB ([] : List Int), .b true]) := by
    rw [e1]; exact lp34n 2 [] true
  rw [op_34r_eq]
  refine fn_34r_t_im 2 l b _ ?_
  unfold fn_34r_t
  refine sel_f (by erw [e1]; rfl) (sel_t (by erw [e1]; rfl) (sel_t (by erw [e2]; rfl) ?_))
  exact sel_f (by erw [e2]; rfl) (sel_t (by erw [e2]; rfl) (by erw [e2]; rfl))
theorem t34_4ok {l : List Int} (hw : Wb l) (h1 : 4 ≤ l.length) : op_34r [.n 4, .l TB l, .b false] = some (2, [.n (nm (l.take 4)), .l TB (l.drop 4), .b false]) := by
  have e1 : op_33r [.n (4 : Int), .l TB l, .b false] = some (0, [.l TB (l.take 4), .l TB (l.drop 4), .b false]) := t33ok (n := 4) (by omega) (by omega)
  have hx : (l.take 4).length = 4 := by rw [List.length_take]; omega
  have e2 := lp34 (l := l.take 4) (by omega) (hw.take 4) 4 (l.drop 4) false
  have hb := nm_bd (hw.take 4)
  rw [hx] at hb
  have wr : IntKind.wrap .u32 (nm (l.take 4)) = nm (l.take 4) := by
    have : (256 : Int) ^ 4 = 4294967296 := by decide
    rw [wu32]; omega
  rw [op_34r_eq]
  refine fn_34r_t_im 4 l false _ ?_
  unfold fn_34r_t
  refine sel_t (by erw [e1]; rfl) (sel_t (by erw [e1]; erw [e2]; rfl) ?_)
  have e3 : op_L34r_3 [.k 0, .n (4 : Int), .n 0, .l TB (gl TB (dOf (op_33r [.n (4 : Int), .l TB l, .b false])) 0), .n (List.length (gl TB (dOf (op_33r [.n (4 : Int), .l TB l, .b false])) 0) : Int), .n 0, .l TB (gl TB (dOf (op_33r [.n (4 : Int), .l TB l, .b false])) 1), .b (gb (dOf (op_33r [.n (4 : Int), .l TB l, .b false])) 2)] = some (0, [.n 4, .n (nm (l.take 4)), .l TB (l.drop 4), .b false]) := by
    rw [e1]; exact e2
  clear e2
  have e2 := e3
  exact sel_f (by erw [e2]; rfl) (sel_f (by erw [e2]; rfl) (sel_t (by erw [e2]; rfl) (by erw [e2]; exact congrArg (fun z => some (2, [Dat.n z, .l TB (l.drop 4), .b false])) wr)))
theorem t34_4no {l : List Int} {b : Bool} (h : b = true ∨ l.length < 4) : op_34r [.n 4, .l TB l, .b b] = some (2, [.n 0, .l TB ([] : List Int), .b true]) := by
  have e1 : op_33r [.n (4 : Int), .l TB l, .b b] = some (1, [.l TB ([] : List Int), .b true]) := t33no (by rcases h with h | h; exact .inl h; exact .inr (.inr (by omega)))
  have e2 : op_L34r_3 [.k 1, .n (4 : Int), .n 0, .n 0, .n 0, .l TB (gl TB (dOf (op_33r [.n (4 : Int), .l TB l, .b b])) 0), .b (gb (dOf (op_33r [.n (4 : Int), .l TB l, .b b])) 1)] = some (0, [.n 4, .n 0, .l TB ([] : List Int), .b true]) := by
    rw [e1]; exact lp34n 4 [] true
  rw [op_34r_eq]
  refine fn_34r_t_im 4 l b _ ?_
  unfold fn_34r_t
  refine sel_f (by erw [e1]; rfl) (sel_t (by erw [e1]; rfl) (sel_t (by erw [e2]; rfl) ?_))
  exact sel_f (by erw [e2]; rfl) (sel_f (by erw [e2]; rfl) (sel_t (by erw [e2]; rfl) (by erw [e2]; rfl)))
theorem t34_8ok {l : List Int} (hw : Wb l) (h1 : 8 ≤ l.length) : op_34r [.n 8, .l TB l, .b false] = some (3, [.n (nm (l.take 8)), .l TB (l.drop 8), .b false]) := by
  have e1 : op_33r [.n (8 : Int), .l TB l, .b false] = some (0, [.l TB (l.take 8), .l TB (l.drop 8), .b false]) := t33ok (n := 8) (by omega) (by omega)
  have hx : (l.take 8).length = 8 := by rw [List.length_take]; omega
  have e2 := lp34 (l := l.take 8) (by omega) (hw.take 8) 8 (l.drop 8) false
  have hb := nm_bd (hw.take 8)
  rw [hx] at hb
  have wr : IntKind.wrap .u64 (nm (l.take 8)) = nm (l.take 8) := by
    have : (256 : Int) ^ 8 = 18446744073709551616 := by decide
    rw [wu64]; omega
  rw [op_34r_eq]
  refine fn_34r_t_im 8 l false _ ?_
  unfold fn_34r_t
  refine sel_t (by erw [e1]; rfl) (sel_t (by erw [e1]; erw [e2]; rfl) ?_)
  have e3 : op_L34r_3 [.k 0, .n (8 : Int), .n 0, .l TB (gl TB (dOf (op_33r [.n (8 : Int), .l TB l, .b false])) 0), .n (List.length (gl TB (dOf (op_33r [.n (8 : Int), .l TB l, .b false])) 0) : Int), .n 0, .l TB (gl TB (dOf (op_33r [.n (8 : Int), .l TB l, .b false])) 1), .b (gb (dOf (op_33r [.n (8 : Int), .l TB l, .b false])) 2)] = some (0, [.n 8, .n (nm (l.take 8)), .l TB (l.drop 8), .b false]) := by
    rw [e1]; exact e2
  clear e2
  have e2 := e3
  exact sel_f (by erw [e2]; rfl) (sel_f (by erw [e2]; rfl) (sel_f (by erw [e2]; rfl) ((by erw [e2]; rfl))))
theorem t34_8no {l : List Int} {b : Bool} (h : b = true ∨ l.length < 8) : op_34r [.n 8, .l TB l, .b b] = some (3, [.n 0, .l TB ([] : List Int), .b true]) := by
  have e1 : op_33r [.n (8 : Int), .l TB l, .b b] = some (1, [.l TB ([] : List Int), .b true]) := t33no (by rcases h with h | h; exact .inl h; exact .inr (.inr (by omega)))
  have e2 : op_L34r_3 [.k 1, .n (8 : Int), .n 0, .n 0, .n 0, .l TB (gl TB (dOf (op_33r [.n (8 : Int), .l TB l, .b b])) 0), .b (gb (dOf (op_33r [.n (8 : Int), .l TB l, .b b])) 1)] = some (0, [.n 8, .n 0, .l TB ([] : List Int), .b true]) := by
    rw [e1]; exact lp34n 8 [] true
  rw [op_34r_eq]
  refine fn_34r_t_im 8 l b _ ?_
  unfold fn_34r_t
  refine sel_f (by erw [e1]; rfl) (sel_t (by erw [e1]; rfl) (sel_t (by erw [e2]; rfl) ?_))
  exact sel_f (by erw [e2]; rfl) (sel_f (by erw [e2]; rfl) (sel_f (by erw [e2]; rfl) ((by erw [e2]; rfl))))
theorem byt0 {n : Int} (h : 0 ≤ n) : byt n 0 = n / 1 % 256 := by
  show IntKind.wrap .u8 (n.fdiv 1) = _
  rw [wu8, Int.fdiv_eq_ediv_of_nonneg _ (by decide)]
theorem byt1 {n : Int} (h : 0 ≤ n) : byt n 1 = n / 256 % 256 := by
  show IntKind.wrap .u8 (n.fdiv 256) = _
  rw [wu8, Int.fdiv_eq_ediv_of_nonneg _ (by decide)]
theorem byt2 {n : Int} (h : 0 ≤ n) : byt n 2 = n / 65536 % 256 := by
  show IntKind.wrap .u8 (n.fdiv 65536) = _
  rw [wu8, Int.fdiv_eq_ediv_of_nonneg _ (by decide)]
theorem byt3 {n : Int} (h : 0 ≤ n) : byt n 3 = n / 16777216 % 256 := by
  show IntKind.wrap .u8 (n.fdiv 16777216) = _
  rw [wu8, Int.fdiv_eq_ediv_of_nonneg _ (by decide)]
theorem byt4 {n : Int} (h : 0 ≤ n) : byt n 4 = n / 4294967296 % 256 := by
  show IntKind.wrap .u8 (n.fdiv 4294967296) = _
  rw [wu8, Int.fdiv_eq_ediv_of_nonneg _ (by decide)]
theorem byt5 {n : Int} (h : 0 ≤ n) : byt n 5 = n / 1099511627776 % 256 := by
  show IntKind.wrap .u8 (n.fdiv 1099511627776) = _
  rw [wu8, Int.fdiv_eq_ediv_of_nonneg _ (by decide)]
theorem byt6 {n : Int} (h : 0 ≤ n) : byt n 6 = n / 281474976710656 % 256 := by
  show IntKind.wrap .u8 (n.fdiv 281474976710656) = _
  rw [wu8, Int.fdiv_eq_ediv_of_nonneg _ (by decide)]
theorem byt7 {n : Int} (h : 0 ≤ n) : byt n 7 = n / 72057594037927936 % 256 := by
  show IntKind.wrap .u8 (n.fdiv 72057594037927936) = _
  rw [wu8, Int.fdiv_eq_ediv_of_nonneg _ (by decide)]
theorem nmb1 {n : Int} (h : 0 ≤ n) : nm (bes n 1) = n % 256 := by
  show nm [byt n 0] = _
  rw [byt0 h]
  simp only [nm, List.foldl]
  omega
theorem nmb2 {n : Int} (h : 0 ≤ n) : nm (bes n 2) = n % 65536 := by
  show nm [byt n 1, byt n 0] = _
  rw [byt0 h, byt1 h]
  simp only [nm, List.foldl]
  omega
theorem nmb4 {n : Int} (h : 0 ≤ n) : nm (bes n 4) = n % 4294967296 := by
  show nm [byt n 3, byt n 2, byt n 1, byt n 0] = _
  rw [byt0 h, byt1 h, byt2 h, byt3 h]
  simp only [nm, List.foldl]
  omega
theorem nmb8 {n : Int} (h : 0 ≤ n) : nm (bes n 8) = n % 18446744073709551616 := by
  show nm [byt n 7, byt n 6, byt n 5, byt n 4, byt n 3, byt n 2, byt n 1, byt n 0] = _
  rw [byt0 h, byt1 h, byt2 h, byt3 h, byt4 h, byt5 h, byt6 h, byt7 h]
  simp only [nm, List.foldl]
  omega
theorem fold_nm : ∀ (l : List Int) (a : Int), l.foldl (fun a b => a * 256 + b) a = a * 256 ^ l.length + nm l
  | [], a => by simp [nm]
  | b :: l, a => by
    have h1 := fold_nm l (a * 256 + b)
    have h2 : nm (b :: l) = (0 * 256 + b) * 256 ^ l.length + nm l := fold_nm l (0 * 256 + b)
    rw [h2]
    simp only [List.foldl_cons, List.length_cons, h1, Int.pow_succ]
    rw [Int.add_mul, Int.zero_mul, Int.zero_add, Int.mul_assoc, Int.mul_comm 256 (256 ^ l.length), Int.add_assoc]
theorem nm_cons (b : Int) (l : List Int) : nm (b :: l) = b * 256 ^ l.length + nm l := by
  have := fold_nm l (0 * 256 + b)
  rw [Int.zero_mul, Int.zero_add] at this
  have e : nm (b :: l) = l.foldl (fun a b => a * 256 + b) (0 * 256 + b) := rfl
  rw [e, Int.zero_mul, Int.zero_add]; exact this
/-! ### numbers and bytes, there and back -/
theorem nm_inj : ∀ {a b : List Int}, a.length = b.length → Wb a → Wb b → nm a = nm b → a = b
  | [], [], _, _, _, _ => rfl
  | [], _ :: _, h, _, _, _ => by simp at h
  | _ :: _, [], h, _, _, _ => by simp at h
  | x :: a, y :: b, h, ha, hb, e => by
    have hl : a.length = b.length := by simpa using h
    have wa : Wb a := fun z hz => ha z (by simp [hz])
    have wb : Wb b := fun z hz => hb z (by simp [hz])
    have b1 := nm_bd wa
    have b2 := nm_bd wb
    rw [nm_cons, nm_cons, hl] at e
    rw [hl] at b1
    have hx := ha x (by simp)
    have hy := hb y (by simp)
    have h0 : 0 < (256 : Int) ^ b.length := by omega
    have hxy : x = y := by
      rcases Int.lt_trichotomy x y with q | q | q
      · exfalso
        have : (x + 1) * 256 ^ b.length ≤ y * 256 ^ b.length := Int.mul_le_mul_of_nonneg_right (by omega) (by omega)
        rw [Int.add_mul] at this
        omega
      · exact q
      · exfalso
        have : (y + 1) * 256 ^ b.length ≤ x * 256 ^ b.length := Int.mul_le_mul_of_nonneg_right (by omega) (by omega)
        rw [Int.add_mul] at this
        omega
    subst hxy
    rw [nm_inj hl wa wb (by omega)]
/-- A piece of bytes is its number's. -/
theorem pc {k : Nat} (hk : ∀ n : Int, 0 ≤ n → nm (bes n k) = n % 256 ^ k) {l : List Int} (h : Wb l) (hl : k ≤ l.length) : l = bes (nm (l.take k)) k ++ l.drop k ∧ 0 ≤ nm (l.take k) ∧ nm (l.take k) < 256 ^ k := by
  have hx : (l.take k).length = k := by rw [List.length_take]; omega
  have b := nm_bd (h.take k)
  rw [hx] at b
  refine ⟨?_, b⟩
  have e : l.take k = bes (nm (l.take k)) k := nm_inj (by rw [hx, be_len]) (h.take k) (be_wb _ _) (by rw [hk _ b.1, Int.emod_eq_of_lt b.1 b.2])
  calc l = l.take k ++ l.drop k := (List.take_append_drop k l).symm
    _ = _ := by rw [← e]
theorem k1 (n : Int) (h : 0 ≤ n) : nm (bes n 1) = n % 256 ^ 1 := by rw [nmb1 h]; rfl
theorem k2 (n : Int) (h : 0 ≤ n) : nm (bes n 2) = n % 256 ^ 2 := by rw [nmb2 h]; rfl
theorem k4 (n : Int) (h : 0 ≤ n) : nm (bes n 4) = n % 256 ^ 4 := by rw [nmb4 h]; rfl
theorem k8 (n : Int) (h : 0 ≤ n) : nm (bes n 8) = n % 256 ^ 8 := by rw [nmb8 h]; rfl
theorem cut1 {l : List Int} (h : Wb l) (hl : 1 ≤ l.length) : ∃ v r, l = bes v 1 ++ r ∧ 0 ≤ v ∧ v < 256 ∧ Wb r ∧ r.length + 1 = l.length := by
  obtain ⟨a, b, c⟩ := pc k1 h hl
  exact ⟨_, _, a, b, c, h.drop 1, by rw [List.length_drop]; omega⟩
theorem cut2 {l : List Int} (h : Wb l) (hl : 2 ≤ l.length) : ∃ v r, l = bes v 2 ++ r ∧ 0 ≤ v ∧ v < 65536 ∧ Wb r ∧ r.length + 2 = l.length := by
  obtain ⟨a, b, c⟩ := pc k2 h hl
  exact ⟨_, _, a, b, c, h.drop 2, by rw [List.length_drop]; omega⟩
theorem cut4 {l : List Int} (h : Wb l) (hl : 4 ≤ l.length) : ∃ v r, l = bes v 4 ++ r ∧ 0 ≤ v ∧ v < 4294967296 ∧ Wb r ∧ r.length + 4 = l.length := by
  obtain ⟨a, b, c⟩ := pc k4 h hl
  exact ⟨_, _, a, b, c, h.drop 4, by rw [List.length_drop]; omega⟩
theorem cut8 {l : List Int} (h : Wb l) (hl : 8 ≤ l.length) : ∃ v r, l = bes v 8 ++ r ∧ 0 ≤ v ∧ v < 18446744073709551616 ∧ Wb r ∧ r.length + 8 = l.length := by
  obtain ⟨a, b, c⟩ := pc k8 h hl
  exact ⟨_, _, a, b, c, h.drop 8, by rw [List.length_drop]; omega⟩
theorem nb1 {v : Int} (h : 0 ≤ v) (h2 : v < 256) : nm (bes v 1) = v := by rw [nmb1 h]; omega
theorem nb2 {v : Int} (h : 0 ≤ v) (h2 : v < 65536) : nm (bes v 2) = v := by rw [nmb2 h]; omega
theorem nb4 {v : Int} (h : 0 ≤ v) (h2 : v < 4294967296) : nm (bes v 4) = v := by rw [nmb4 h]; omega
theorem nb8 {v : Int} (h : 0 ≤ v) (h2 : v < 18446744073709551616) : nm (bes v 8) = v := by rw [nmb8 h]; omega
/-! ### the reader's states: what is left, or bad -/
def lf (o : Option (List Int)) : List Int := o.getD []
def bd (o : Option (List Int)) : Bool := o.isNone
def rd (w : Nat) : Option (List Int) → Option (List Int)
  | some l => if w ≤ l.length then some (l.drop w) else none
  | none => none
def tk (w : Nat) : Option (List Int) → List Int
  | some l => if w ≤ l.length then l.take w else []
  | none => []
def vl (w : Nat) (o : Option (List Int)) : Int := nm (tk w o)
def WO (o : Option (List Int)) : Prop := ∀ l, o = some l → Wb l ∧ l.length ≤ 1000000
theorem WO.rd {o : Option (List Int)} (h : WO o) (w : Nat) : WO (rd w o) := by
  intro l hl
  cases o with
  | none => cases hl
  | some x =>
    have := h x rfl
    by_cases q : w ≤ x.length
    · have e : Vx.rd w (some x) = some (x.drop w) := if_pos q
      rw [e] at hl
      cases hl
      exact ⟨this.1.drop w, by rw [List.length_drop]; omega⟩
    · have e : Vx.rd w (some x) = none := if_neg q
      rw [e] at hl
      cases hl
theorem rd_pos {w : Nat} {l : List Int} (h : w ≤ l.length) : rd w (some l) = some (l.drop w) := if_pos h
theorem rd_neg {w : Nat} {l : List Int} (h : ¬ w ≤ l.length) : rd w (some l) = none := if_neg h
theorem tk_pos {w : Nat} {l : List Int} (h : w ≤ l.length) : tk w (some l) = l.take w := if_pos h
theorem tk_neg {w : Nat} {l : List Int} (h : ¬ w ≤ l.length) : tk w (some l) = [] := if_neg h
theorem rd_rd (a b : Nat) (o : Option (List Int)) : rd a (rd b o) = rd (b + a) o := by
  cases o with
  | none => rfl
  | some l =>
    by_cases h : b ≤ l.length
    · rw [rd_pos h]
      by_cases h2 : b + a ≤ l.length
      · rw [rd_pos (by rw [List.length_drop]; omega), rd_pos h2, List.drop_drop]
      · rw [rd_neg (by rw [List.length_drop]; omega), rd_neg h2]
    · rw [rd_neg h, rd_neg (by omega)]; rfl
theorem rd_app {k : Nat} {a r : List Int} (h : a.length = k) : rd k (some (a ++ r)) = some r := by
  subst h
  rw [rd_pos (by rw [List.length_append]; omega), List.drop_left]
theorem tk_app {k : Nat} {a r : List Int} (h : a.length = k) : tk k (some (a ++ r)) = a := by
  subst h
  rw [tk_pos (by rw [List.length_append]; omega), List.take_left]
theorem rd_be (v : Int) (k : Nat) (r : List Int) : rd k (some (bes v k ++ r)) = some r := rd_app (be_len v k)
theorem vl_be (v : Int) (k : Nat) (r : List Int) : vl k (some (bes v k ++ r)) = nm (bes v k) := by unfold vl; rw [tk_app (be_len v k)]
theorem rd_end {k : Nat} {l : List Int} (h : l.length ≠ k) : bd (rd k (some l)) = true ∨ 0 < (lf (rd k (some l))).length := by
  by_cases q : k ≤ l.length
  · rw [rd_pos q]; exact .inr (by show 0 < (l.drop k).length; rw [List.length_drop]; omega)
  · rw [rd_neg q]; exact .inl rfl
theorem r77r {o : Option (List Int)} (h : WO o) : op_77r [.l TB (lf o), .b (bd o)] = some (0, [.n (vl 1 o), .l TB (lf (rd 1 o)), .b (bd (rd 1 o))]) := by
  have e : op_34r [.n 1, .l TB (lf o), .b (bd o)] = some (0, [.n (vl 1 o), .l TB (lf (rd 1 o)), .b (bd (rd 1 o))]) := by
    cases o with
    | none => exact t34_1no (.inl rfl)
    | some l =>
      by_cases q : 1 ≤ l.length
      · unfold vl; rw [tk_pos q, rd_pos q]; exact t34_1ok (h l rfl).1 q
      · unfold vl; rw [tk_neg q, rd_neg q]; exact t34_1no (.inr (by show l.length < _; omega))
  rw [op_77r_eq]
  refine fn_77r_t_im _ _ _ ?_
  unfold fn_77r_t
  dsimp only
  erw [e]
  rfl
theorem r83r {o : Option (List Int)} (h : WO o) : op_83r [.l TB (lf o), .b (bd o)] = some (0, [.n (vl 2 o), .l TB (lf (rd 2 o)), .b (bd (rd 2 o))]) := by
  have e : op_34r [.n 2, .l TB (lf o), .b (bd o)] = some (1, [.n (vl 2 o), .l TB (lf (rd 2 o)), .b (bd (rd 2 o))]) := by
    cases o with
    | none => exact t34_2no (.inl rfl)
    | some l =>
      by_cases q : 2 ≤ l.length
      · unfold vl; rw [tk_pos q, rd_pos q]; exact t34_2ok (h l rfl).1 q
      · unfold vl; rw [tk_neg q, rd_neg q]; exact t34_2no (.inr (by show l.length < _; omega))
  rw [op_83r_eq]
  refine fn_83r_t_im _ _ _ ?_
  unfold fn_83r_t
  dsimp only
  erw [e]
  rfl
theorem r79r {o : Option (List Int)} (h : WO o) : op_79r [.l TB (lf o), .b (bd o)] = some (0, [.n (vl 4 o), .l TB (lf (rd 4 o)), .b (bd (rd 4 o))]) := by
  have e : op_34r [.n 4, .l TB (lf o), .b (bd o)] = some (2, [.n (vl 4 o), .l TB (lf (rd 4 o)), .b (bd (rd 4 o))]) := by
    cases o with
    | none => exact t34_4no (.inl rfl)
    | some l =>
      by_cases q : 4 ≤ l.length
      · unfold vl; rw [tk_pos q, rd_pos q]; exact t34_4ok (h l rfl).1 q
      · unfold vl; rw [tk_neg q, rd_neg q]; exact t34_4no (.inr (by show l.length < _; omega))
  rw [op_79r_eq]
  refine fn_79r_t_im _ _ _ ?_
  unfold fn_79r_t
  dsimp only
  erw [e]
  rfl
theorem r78r {o : Option (List Int)} (h : WO o) : op_78r [.l TB (lf o), .b (bd o)] = some (0, [.n (vl 8 o), .l TB (lf (rd 8 o)), .b (bd (rd 8 o))]) := by
  have e : op_34r [.n 8, .l TB (lf o), .b (bd o)] = some (3, [.n (vl 8 o), .l TB (lf (rd 8 o)), .b (bd (rd 8 o))]) := by
    cases o with
    | none => exact t34_8no (.inl rfl)
    | some l =>
      by_cases q : 8 ≤ l.length
      · unfold vl; rw [tk_pos q, rd_pos q]; exact t34_8ok (h l rfl).1 q
      · unfold vl; rw [tk_neg q, rd_neg q]; exact t34_8no (.inr (by show l.length < _; omega))
  rw [op_78r_eq]
  refine fn_78r_t_im _ _ _ ?_
  unfold fn_78r_t
  dsimp only
  erw [e]
  rfl
theorem r82r {o : Option (List Int)} (h : WO o) (n : Nat) (hn : n ≤ 1000000) : op_82r [.n (n : Int), .l TB (lf o), .b (bd o)] = some (0, [.l TB (lf (rd n o)), .b (bd (rd n o)), .l TB (tk n o)]) := by
  rw [op_82r_eq]
  refine fn_82r_t_im _ _ _ _ ?_
  unfold fn_82r_t
  dsimp only
  have e0 : op_31 [.l TB ([] : List Int)] = some (0, [.l TB ([] : List Int)]) := t31 (by simp)
  have no : ∀ {l : List Int} {b : Bool}, (b = true ∨ (n : Int) < 0 ∨ (l.length : Int) < n) → op_33r [.n (n : Int), .l TB l, .b b] = some (1, [.l TB ([] : List Int), .b true]) := fun h => t33no h
  cases o with
  | none =>
    have e := no (l := []) (b := true) (.inl rfl)
    erw [e]
    refine sel_f rfl (sel_t rfl ?_)
    erw [e0]
    rfl
  | some l =>
    by_cases q : n ≤ l.length
    · have e : op_33r [.n (n : Int), .l TB l, .b false] = _ := t33ok (n := (n : Int)) (by omega) (by omega)
      rw [show ((n : Int)).toNat = n by omega] at e
      have e1 := t31 (l := l.take n) (by rw [List.length_take]; omega)
      have hr : rd n (some l) = some (l.drop n) := if_pos q
      have ht : tk n (some l) = l.take n := if_pos q
      rw [hr, ht]
      erw [e]
      refine sel_t rfl ?_
      erw [e1]
      rfl
    · have e := no (l := l) (b := false) (.inr (.inr (by omega)))
      have hr : rd n (some l) = none := if_neg q
      have ht : tk n (some l) = [] := if_neg q
      rw [hr, ht]
      erw [e]
      refine sel_f rfl (sel_t rfl ?_)
      erw [e0]
      rfl
theorem t13r {l : List Int} (h : l.length ≤ 1000000) : op_13r [.l TB l] = some (0, [.l TB l, .b false]) := by
  rw [op_13r_eq]
  refine fn_13r_t_im l _ ?_
  unfold fn_13r_t
  have e := t31 (l := l) (by omega)
  dsimp only
  erw [e]
  rfl
theorem Sm_bd (l : List Int) : 0 ≤ N (Sm l) ∧ N (Sm l) < 4294967296 := by
  have h : N (Sm l) = ((Sm l).toNat : Int) := rfl
  have := (Sm l).isLt
  omega
theorem w8i (n : Nat) (h : n ≤ 1000000) : IntKind.wrap .i64 (((n + 5 : Nat) : Int) - 4) = ((n + 1 : Nat) : Int) := by rw [w64d]; omega
theorem N_bne {a b : Int} (h : a = b) : (a != b) = false := by subst h; simp
theorem N_bne' {a b : Int} (h : a ≠ b) : (a != b) = true := by simp [h]
theorem b74ok {k : Int} {p : List Int} (hw : Wb (k :: p)) (hl : p.length ≤ 900000) : op_74r [.l TB (chk (k :: p)), .n k] = some (0, [.b true, .l TB p, .b false]) := by
  have hlen : (chk (k :: p)).length = p.length + 5 := by rw [chk_len, List.length_cons]
  have hL : IntKind.wrap .i64 (((chk (k :: p)).length : Int) - 4) = ((p.length + 1 : Nat) : Int) := by rw [hlen]; exact w8i _ (by omega)
  have hd : (chk (k :: p)).drop (p.length + 1) = bes (IntKind.wrap .u64 (N (Sm (k :: p)))) 4 := by
    unfold chk
    exact List.drop_left' (by rw [List.length_cons])
  have ht : (chk (k :: p)).take (p.length + 1) = k :: p := by
    unfold chk
    exact List.take_left' (by rw [List.length_cons])
  have hS := Sm_bd (k :: p)
  have hu : IntKind.wrap .u64 (N (Sm (k :: p))) = N (Sm (k :: p)) := by rw [wu64]; omega
  rw [hu] at hd
  have e1 : op_13r [.l TB (bes (N (Sm (k :: p))) 4)] = some (0, [.l TB (bes (N (Sm (k :: p))) 4), .b false]) := t13r (by rw [be_len]; omega)
  have e2 := r79r (o := some (bes (N (Sm (k :: p))) 4)) (fun l hl => by cases hl; exact ⟨be_wb _ _, by rw [be_len]; omega⟩)
  have hv : vl 4 (some (bes (N (Sm (k :: p))) 4)) = N (Sm (k :: p)) := by
    have := vl_be (N (Sm (k :: p))) 4 []
    rw [List.append_nil] at this
    rw [this, nb4 hS.1 hS.2]
  rw [hv] at e2
  have e3 := q12 (k :: p) (by rw [List.length_cons]; omega)
  have e4 := t13r (l := p) (by omega)
  rw [op_74r_eq]
  refine fn_74r_t_im _ _ _ ?_
  unfold fn_74r_t
  dsimp only
  have hn : (((p.length + 1 : Nat) : Int)).toNat = p.length + 1 := by omega
  refine sel_f (decide_eq_false (by erw [hL]; omega)) (sel_f (N_bne rfl) ?_)
  erw [hL, hn, hd, ht, e1]
  refine sel_t rfl ?_
  erw [e2]
  refine sel_t rfl (sel_t (by rw [Bool.true_and]; exact decide_eq_true (by omega)) ?_)
  erw [e3]
  refine sel_t rfl (sel_f (N_bne rfl) (sel_t (by rw [Bool.true_and]; exact decide_eq_true (by omega)) ?_))
  erw [e4]
  rfl
theorem b74no {k : Int} {b : List Int} (hw : Wb b) (hl : b.length ≤ 900000) (h : ∀ p, b ≠ chk (k :: p)) : op_74r [.l TB b, .n k] = some (1, [.b false]) := by
  rw [op_74r_eq]
  refine fn_74r_t_im _ _ _ ?_
  unfold fn_74r_t
  dsimp only
  by_cases h5 : b.length < 5
  · have q : IntKind.wrap .i64 ((b.length : Int) - 4) < 1 := by rw [w64d]; omega
    exact sel_t (decide_eq_true q) rfl
  · obtain ⟨n, hn⟩ : ∃ n, b.length = n + 5 := ⟨b.length - 5, by omega⟩
    have hL : IntKind.wrap .i64 ((b.length : Int) - 4) = ((n + 1 : Nat) : Int) := by rw [hn]; exact w8i _ (by omega)
    have hm : (((n + 1 : Nat) : Int)).toNat = n + 1 := by omega
    refine sel_f (decide_eq_false (by erw [hL]; omega)) ?_
    by_cases hk : b.getD 0 0 = k
    · refine sel_f (N_bne hk) ?_
      have hd4 : (b.drop (n + 1)).length = 4 := by rw [List.length_drop]; omega
      have e1 := t13r (l := b.drop (n + 1)) (by omega)
      have e2 := r79r (o := some (b.drop (n + 1))) (fun l hl => by cases hl; exact ⟨hw.drop _, by omega⟩)
      have hv : vl 4 (some (b.drop (n + 1))) = nm (b.drop (n + 1)) := by
        have := tk_app (k := 4) (a := b.drop (n + 1)) (r := []) hd4
        rw [List.append_nil] at this
        unfold vl
        rw [this]
      rw [hv] at e2
      have e3 := q12 (b.take (n + 1)) (by rw [List.length_take]; omega)
      erw [hL, hm, e1]
      refine sel_t rfl ?_
      erw [e2]
      refine sel_t rfl (sel_t (by rw [Bool.true_and]; exact decide_eq_true (by omega)) ?_)
      erw [e3]
      refine sel_t rfl ?_
      by_cases hc : nm (b.drop (n + 1)) = N (Sm (b.take (n + 1)))
      · exfalso
        have hb : b = b.take (n + 1) ++ b.drop (n + 1) := (List.take_append_drop _ _).symm
        obtain ⟨x, p, hp⟩ : ∃ x p, b.take (n + 1) = x :: p := by
          cases q : b.take (n + 1) with
          | nil => have := congrArg List.length q; rw [List.length_take, List.length_nil] at this; omega
          | cons x p => exact ⟨x, p, rfl⟩
        have hx : x = k := by
          rw [← hk, hb, hp]
          rfl
        subst hx
        have hS := Sm_bd (x :: p)
        rw [hp] at hc hb
        refine h p ?_
        rw [hb]
        show _ = (x :: p) ++ bes (IntKind.wrap .u64 (N (Sm (x :: p)))) 4
        have hu : IntKind.wrap .u64 (N (Sm (x :: p))) = N (Sm (x :: p)) := by rw [wu64]; omega
        have q : b.drop (n + 1) = bes (N (Sm (x :: p))) 4 := nm_inj (by rw [hd4, be_len]) (hw.drop (n + 1)) (be_wb _ 4) (by rw [hc, nb4 hS.1 hS.2])
        rw [hu, ← q]
      · exact sel_t (N_bne' hc) rfl
    · exact sel_t (N_bne' hk) rfl
theorem win2 {m a b : Int} (h : win m [a, b] = true) : 0 ≤ a ∧ a ≤ m ∧ 0 ≤ b ∧ b ≤ m := by
  unfold win at h; simp at h; omega
theorem wi {y : Int} (h0 : 0 ≤ y) (h1 : y < 18446744073709551616) : IntKind.wrap .u64 (IntKind.wrap .i64 y) = y := by rw [wu64, w64d]; omega
theorem wj {y : Int} (h0 : 0 ≤ y) (h1 : y ≤ 9223372036854775807) : IntKind.wrap .i64 (IntKind.wrap .u64 y) = y := by rw [wu64, w64d]; omega
theorem wk {y : Int} (h0 : 0 ≤ y) (h1 : y < 18446744073709551616) : IntKind.wrap .u64 y = y := by rw [wu64]; omega
theorem be1 {c : Int} (h0 : 0 ≤ c) (h1 : c < 256) : bes c 1 = [c] := by have := bes1 h0 h1; rw [wk h0 (by omega)] at this; exact this
def tm (o : Option (List Int)) : List Int := List.take 64 (tk 64 o) ++ List.drop (tk 64 o).length (List.replicate 64 0)
theorem tm_app {t r : List Int} (h : t.length = 64) : tm (some (t ++ r)) = t := by
  unfold tm
  rw [tk_app h, ← h, List.take_length, List.drop_eq_nil_of_le (by rw [List.length_replicate]; omega), List.append_nil]
theorem win64 {p : List Int} (h : p.length = 0) : p = [] := List.eq_nil_of_length_eq_zero h
theorem t49 {o : Option (List Int)} (h : WO o) : op_49r [.l TB (lf o), .b (bd o)] = some (0, [.n (vl 1 o), .n (IntKind.wrap .i64 (vl 8 (rd 1 o))), .n (IntKind.wrap .i64 (vl 8 (rd 8 (rd 1 o)))), .n (vl 8 (rd 8 (rd 8 (rd 1 o)))), .n (vl 4 (rd 8 (rd 8 (rd 8 (rd 1 o))))), .l TB (lf (rd 4 (rd 8 (rd 8 (rd 8 (rd 1 o)))))), .b (bd (rd 4 (rd 8 (rd 8 (rd 8 (rd 1 o))))))]) := by
  have e1 := r77r h
  have e2 := r78r (h.rd 1)
  have e3 := r78r ((h.rd 1).rd 8)
  have e4 := r78r (((h.rd 1).rd 8).rd 8)
  have e5 := r79r ((((h.rd 1).rd 8).rd 8).rd 8)
  rw [op_49r_eq]
  refine fn_49r_t_im _ _ _ ?_
  unfold fn_49r_t
  dsimp only
  erw [e1]
  refine sel_t rfl ?_
  erw [e2]
  refine sel_t rfl ?_
  erw [e3]
  refine sel_t rfl ?_
  erw [e4]
  refine sel_t rfl ?_
  erw [e5]
  refine sel_t rfl ?_
  rfl
theorem t52 {o : Option (List Int)} (h : WO o) : op_52r [.l TB (lf o), .b (bd o)] = some (0, [.n (vl 8 o), .n (vl 8 (rd 8 o)), .n (vl 8 (rd 8 (rd 8 o))), .l TB (tm (rd 8 (rd 8 (rd 8 o)))), .n (vl 4 (rd 64 (rd 8 (rd 8 (rd 8 o))))), .l TB (lf (rd 4 (rd 64 (rd 8 (rd 8 (rd 8 o)))))), .b (bd (rd 4 (rd 64 (rd 8 (rd 8 (rd 8 o))))))]) := by
  have e1 := r78r h
  have e2 := r78r (h.rd 8)
  have e3 := r78r ((h.rd 8).rd 8)
  have e4 := r82r (((h.rd 8).rd 8).rd 8) 64 (by omega)
  have e5 := r79r ((((h.rd 8).rd 8).rd 8).rd 64)
  rw [op_52r_eq]
  refine fn_52r_t_im _ _ _ ?_
  unfold fn_52r_t
  dsimp only
  erw [e1]
  refine sel_t rfl ?_
  erw [e2]
  refine sel_t rfl ?_
  erw [e3]
  refine sel_t rfl ?_
  erw [e4]
  refine sel_t rfl ?_
  erw [e5]
  refine sel_t rfl ?_
  rfl
theorem t56 {o : Option (List Int)} (h : WO o) : op_56r [.l TB (lf o), .b (bd o)] = some (0, [.n (IntKind.wrap .i64 (vl 8 o)), .n (IntKind.wrap .i64 (vl 8 (rd 8 o))), .n (vl 8 (rd 8 (rd 8 o))), .n (vl 8 (rd 8 ((rd 8 (rd 8 o))))), .n (vl 8 (rd 8 (rd 8 ((rd 8 (rd 8 o)))))), .l TB (tm (rd 8 (rd 8 (rd 8 ((rd 8 (rd 8 o))))))), .n (vl 4 (rd 64 (rd 8 (rd 8 (rd 8 ((rd 8 (rd 8 o)))))))), .l TB (lf (rd 4 (rd 64 (rd 8 (rd 8 (rd 8 ((rd 8 (rd 8 o))))))))), .b (bd (rd 4 (rd 64 (rd 8 (rd 8 (rd 8 ((rd 8 (rd 8 o)))))))))]) := by
  have e1 := r78r h
  have e2 := r78r (h.rd 8)
  have e3 := t52 ((h.rd 8).rd 8)
  rw [op_56r_eq]
  refine fn_56r_t_im _ _ _ ?_
  unfold fn_56r_t
  dsimp only
  erw [e1]
  refine sel_t rfl ?_
  erw [e2]
  refine sel_t rfl ?_
  erw [e3]
  rfl
def OKO (c : Int) (y : Int) (e : Int) (q : Int) (u : Int) : Prop := (0 ≤ c ∧ c < 256) ∧ (0 ≤ q ∧ q < 18446744073709551616) ∧ (0 ≤ u ∧ u < 4294967296) ∧ (win 1099511627776 [y, e] = true)
theorem g49 {c y e q u : Int} {r : List Int} (hc : 0 ≤ c ∧ c < 256) (hy : 0 ≤ y ∧ y < 18446744073709551616) (he : 0 ≤ e ∧ e < 18446744073709551616) (hq : 0 ≤ q ∧ q < 18446744073709551616) (hu : 0 ≤ u ∧ u < 4294967296) (hw : WO (some (bes c 1 ++ (bes y 8 ++ (bes e 8 ++ (bes q 8 ++ (bes u 4 ++ (r)))))))) : op_49r [.l TB (bes c 1 ++ (bes y 8 ++ (bes e 8 ++ (bes q 8 ++ (bes u 4 ++ (r)))))), .b false] = some (0, [.n c, .n (IntKind.wrap .i64 y), .n (IntKind.wrap .i64 e), .n q, .n u, .l TB r, .b false]) := by
  have e := t49 hw
  simp only [rd_be, vl_be, nb1 hc.1 hc.2, nb8 hy.1 hy.2, nb8 he.1 he.2, nb8 hq.1 hq.2, nb4 hu.1 hu.2] at e
  exact e
theorem x49 {p : List Int} (hw : WO (some p)) (hp : p.length ≠ 29) : ∃ (x0 : Int) (x1 : Int) (x2 : Int) (x3 : Int) (x4 : Int) (l : List Int) (bb : Bool), op_49r [.l TB p, .b false] = some (0, [.n x0, .n x1, .n x2, .n x3, .n x4, .l TB l, .b bb]) ∧ (bb = true ∨ 0 < l.length) := by
  have e := t49 hw
  simp only [rd_rd] at e
  exact ⟨_, _, _, _, _, _, _, e, rd_end hp⟩
theorem encO {c y e q u : Int}  (hc : 0 ≤ c ∧ c < 256) (hu : 0 ≤ u ∧ u < 4294967296) : chk (outB c y e q u) = chk (2 :: (bes c 1 ++ (bes (IntKind.wrap .u64 y) 8 ++ (bes (IntKind.wrap .u64 e) 8 ++ (bes q 8 ++ (bes u 4 ++ ([]))))))) := by
  unfold outB
  simp only [wk hu.1 (by omega : u < 18446744073709551616), List.append_assoc, List.cons_append, List.nil_append, List.append_nil, be1 hc.1 hc.2]
theorem G26 {c y e q u : Int} (h : OKO c y e q u) : op_26r [.l TB (chk (outB c y e q u))] = some (0, [.n c, .n y, .n e, .n q, .n u, .n 0]) := by
  obtain ⟨hc, hq, hu, hm⟩ := h
  have hwn := win2 hm
  have wu : ∀ {x : Int}, 0 ≤ IntKind.wrap .u64 x ∧ IntKind.wrap .u64 x < 18446744073709551616 := by intro x; rw [wu64]; omega
  have hwb : Wb (bes c 1 ++ (bes (IntKind.wrap .u64 y) 8 ++ (bes (IntKind.wrap .u64 e) 8 ++ (bes q 8 ++ (bes u 4 ++ ([])))))) := (be_wb _ _).app ((be_wb _ _).app ((be_wb _ _).app ((be_wb _ _).app ((be_wb _ _).app (Wb.nil)))))
  have hlen : (bes c 1 ++ (bes (IntKind.wrap .u64 y) 8 ++ (bes (IntKind.wrap .u64 e) 8 ++ (bes q 8 ++ (bes u 4 ++ ([])))))).length ≤ 900000 := by simp only [List.length_append, be_len, List.length_nil]; omega
  have e1 := b74ok (k := 2) (p := (bes c 1 ++ (bes (IntKind.wrap .u64 y) 8 ++ (bes (IntKind.wrap .u64 e) 8 ++ (bes q 8 ++ (bes u 4 ++ ([]))))))) (hwb.cons ⟨by omega, by omega⟩) hlen
  have e2 := g49 (r := []) hc wu wu hq hu (fun l hl => by cases hl; exact ⟨hwb, by omega⟩)
  rw [wj (y := y) (by omega) (by omega)] at e2
  rw [wj (y := e) (by omega) (by omega)] at e2
  have e3 := t80 1099511627776 [y, e] (by simp)
  rw [hm] at e3
  rw [encO hc hu]
  rw [op_26r_eq]
  refine fn_26r_t_im _ _ ?_
  unfold fn_26r_t
  dsimp only
  erw [e1]
  refine sel_t rfl (sel_f rfl ?_)
  erw [e2]
  refine sel_t rfl (sel_f rfl (sel_f (decide_eq_false (show ¬ ((([] : List Int).length : Int) > 0) by simp)) ?_))
  erw [e3]
  rfl
theorem F26 {b0 : List Int} (hw : Wb b0) (hl : b0.length ≤ 100000) (h : ∀ c y e q u, OKO c y e q u → b0 ≠ chk (outB c y e q u)) : op_26r [.l TB b0] = some (0, [.n (0 : Int), .n (0 : Int), .n (0 : Int), .n (0 : Int), .n (0 : Int), .n 130]) := by
  rw [op_26r_eq]
  refine fn_26r_t_im _ _ ?_
  unfold fn_26r_t
  dsimp only
  by_cases hb : ∃ p, b0 = chk (2 :: p)
  · obtain ⟨p, rfl⟩ := hb
    have hk : Wb (2 :: p) := fun x hx => hw x (by unfold chk; exact List.mem_append_left _ hx)
    have hwp : Wb p := fun x hx => hk x (List.mem_cons_of_mem _ hx)
    rw [chk_len, List.length_cons] at hl
    have e1 := b74ok hk (by omega)
    have hW : WO (some p) := fun l hl => by cases hl; exact ⟨hwp, by omega⟩
    erw [e1]
    refine sel_t rfl (sel_f rfl ?_)
    by_cases hp : p.length = 29
    · obtain ⟨c, r1, hr1, lc, uc, w1, n1⟩ := cut1 (l := p) hwp (by omega)
      obtain ⟨y, r2, hr2, ly, uy, w2, n2⟩ := cut8 (l := r1) w1 (by omega)
      obtain ⟨e, r3, hr3, le, ue, w3, n3⟩ := cut8 (l := r2) w2 (by omega)
      obtain ⟨q, r4, hr4, lq, uq, w4, n4⟩ := cut8 (l := r3) w3 (by omega)
      obtain ⟨u, r5, hr5, lu, uu, w5, n5⟩ := cut4 (l := r4) w4 (by omega)
      have hz := win64 (p := r5) (by omega)
      subst hz
      subst hr5
      subst hr4
      subst hr3
      subst hr2
      subst hr1
      have e2 := g49 (r := []) ⟨lc, uc⟩ ⟨ly, uy⟩ ⟨le, ue⟩ ⟨lq, uq⟩ ⟨lu, uu⟩ hW
      have e3 := t80 1099511627776 [IntKind.wrap .i64 y, IntKind.wrap .i64 e] (by simp)
      erw [e2]
      refine sel_t rfl (sel_f rfl (sel_f (decide_eq_false (show ¬ ((([] : List Int).length : Int) > 0) by simp)) ?_))
      erw [e3]
      cases hm : win 1099511627776 [IntKind.wrap .i64 y, IntKind.wrap .i64 e] with
      | false => rfl
      | true => exact ((h c (IntKind.wrap .i64 y) (IntKind.wrap .i64 e) q u ⟨⟨lc, uc⟩, ⟨lq, uq⟩, ⟨lu, uu⟩, hm⟩ (by rw [encO ⟨lc, uc⟩ ⟨lu, uu⟩]; rw [wi ly uy]; rw [wi le ue])).elim)
    · obtain ⟨x0, x1, x2, x3, x4, l, bb, e2, hbb⟩ := x49 hW hp
      erw [e2]
      refine sel_t rfl ?_
      cases bb with
      | true => exact sel_t rfl rfl
      | false =>
        rcases hbb with q | q
        · cases q
        · exact sel_f rfl (sel_t (decide_eq_true (show ((l.length : Int) > 0) by omega)) rfl)
  · have e1 := b74no (k := 2) hw (by omega) (fun p hp => hb ⟨p, hp⟩)
    erw [e1]
    exact sel_f rfl (sel_t rfl (sel_t rfl rfl))
def OKS (a : Int) (b : Int) (c : Int) (t : List Int) (u : Int) : Prop := (0 ≤ a ∧ a < 18446744073709551616) ∧ (0 ≤ b ∧ b < 18446744073709551616) ∧ (0 ≤ c ∧ c < 18446744073709551616) ∧ (Wb t ∧ t.length = 64) ∧ (0 ≤ u ∧ u < 4294967296)
theorem g52 {a b c u : Int} {t : List Int} {r : List Int} (ha : 0 ≤ a ∧ a < 18446744073709551616) (hb : 0 ≤ b ∧ b < 18446744073709551616) (hc : 0 ≤ c ∧ c < 18446744073709551616) (ht : t.length = 64) (hu : 0 ≤ u ∧ u < 4294967296) (hw : WO (some (bes a 8 ++ (bes b 8 ++ (bes c 8 ++ (t ++ (bes u 4 ++ (r)))))))) : op_52r [.l TB (bes a 8 ++ (bes b 8 ++ (bes c 8 ++ (t ++ (bes u 4 ++ (r)))))), .b false] = some (0, [.n a, .n b, .n c, .l TB t, .n u, .l TB r, .b false]) := by
  have e := t52 hw
  simp only [rd_be, vl_be, nb8 ha.1 ha.2, nb8 hb.1 hb.2, nb8 hc.1 hc.2, rd_app ht, tm_app ht, nb4 hu.1 hu.2] at e
  exact e
theorem x52 {p : List Int} (hw : WO (some p)) (hp : p.length ≠ 92) : ∃ (x0 : Int) (x1 : Int) (x2 : Int) (x3 : List Int) (x4 : Int) (l : List Int) (bb : Bool), op_52r [.l TB p, .b false] = some (0, [.n x0, .n x1, .n x2, .l TB x3, .n x4, .l TB l, .b bb]) ∧ (bb = true ∨ 0 < l.length) := by
  have e := t52 hw
  simp only [rd_rd] at e
  exact ⟨_, _, _, _, _, _, _, e, rd_end hp⟩
theorem encS {a b c u : Int} {t : List Int} (hu : 0 ≤ u ∧ u < 4294967296) : chk (3 :: stL a b c t u) = chk (3 :: (bes a 8 ++ (bes b 8 ++ (bes c 8 ++ (t ++ (bes u 4 ++ ([]))))))) := by
  unfold stL
  simp only [wk hu.1 (by omega : u < 18446744073709551616), List.append_assoc, List.cons_append, List.nil_append, List.append_nil]
theorem G28 {a b c u : Int} {t : List Int} (h : OKS a b c t u) : op_28r [.l TB (chk (3 :: stL a b c t u))] = some (0, [.n a, .n b, .n c, .l TB t, .n u, .n 0]) := by
  obtain ⟨ha, hb, hc, ht, hu⟩ := h
  have wu : ∀ {x : Int}, 0 ≤ IntKind.wrap .u64 x ∧ IntKind.wrap .u64 x < 18446744073709551616 := by intro x; rw [wu64]; omega
  have hwb : Wb (bes a 8 ++ (bes b 8 ++ (bes c 8 ++ (t ++ (bes u 4 ++ ([])))))) := (be_wb _ _).app ((be_wb _ _).app ((be_wb _ _).app ((ht.1).app ((be_wb _ _).app (Wb.nil)))))
  have hlen : (bes a 8 ++ (bes b 8 ++ (bes c 8 ++ (t ++ (bes u 4 ++ ([])))))).length ≤ 900000 := by simp only [List.length_append, be_len, List.length_nil]; omega
  have e1 := b74ok (k := 3) (p := (bes a 8 ++ (bes b 8 ++ (bes c 8 ++ (t ++ (bes u 4 ++ ([]))))))) (hwb.cons ⟨by omega, by omega⟩) hlen
  have e2 := g52 (r := []) ha hb hc ht.2 hu (fun l hl => by cases hl; exact ⟨hwb, by omega⟩)
  rw [encS hu]
  rw [op_28r_eq]
  refine fn_28r_t_im _ _ ?_
  unfold fn_28r_t
  dsimp only
  erw [e1]
  refine sel_t rfl (sel_f rfl ?_)
  erw [e2]
  refine sel_t rfl (sel_f rfl (sel_f (decide_eq_false (show ¬ ((([] : List Int).length : Int) > 0) by simp)) ?_))
  rfl
theorem F28 {b0 : List Int} (hw : Wb b0) (hl : b0.length ≤ 100000) (h : ∀ a b c t u, OKS a b c t u → b0 ≠ chk (3 :: stL a b c t u)) : op_28r [.l TB b0] = some (0, [.n (0 : Int), .n (0 : Int), .n (0 : Int), .l TB (List.replicate 64 (0 : Int)), .n (0 : Int), .n 130]) := by
  rw [op_28r_eq]
  refine fn_28r_t_im _ _ ?_
  unfold fn_28r_t
  dsimp only
  by_cases hb : ∃ p, b0 = chk (3 :: p)
  · obtain ⟨p, rfl⟩ := hb
    have hk : Wb (3 :: p) := fun x hx => hw x (by unfold chk; exact List.mem_append_left _ hx)
    have hwp : Wb p := fun x hx => hk x (List.mem_cons_of_mem _ hx)
    rw [chk_len, List.length_cons] at hl
    have e1 := b74ok hk (by omega)
    have hW : WO (some p) := fun l hl => by cases hl; exact ⟨hwp, by omega⟩
    erw [e1]
    refine sel_t rfl (sel_f rfl ?_)
    by_cases hp : p.length = 92
    · obtain ⟨a, r1, hr1, la, ua, w1, n1⟩ := cut8 (l := p) hwp (by omega)
      obtain ⟨b, r2, hr2, lb, ub, w2, n2⟩ := cut8 (l := r1) w1 (by omega)
      obtain ⟨c, r3, hr3, lc, uc, w3, n3⟩ := cut8 (l := r2) w2 (by omega)
      obtain ⟨t, r4, hr4, ht, w4, n4⟩ : ∃ t r, r3 = t ++ r ∧ (Wb t ∧ t.length = 64) ∧ Wb r ∧ r.length + 64 = r3.length := ⟨r3.take 64, r3.drop 64, (List.take_append_drop 64 r3).symm, ⟨w3.take 64, by rw [List.length_take]; omega⟩, w3.drop 64, by rw [List.length_drop]; omega⟩
      obtain ⟨u, r5, hr5, lu, uu, w5, n5⟩ := cut4 (l := r4) w4 (by omega)
      have hz := win64 (p := r5) (by omega)
      subst hz
      subst hr5
      subst hr4
      subst hr3
      subst hr2
      subst hr1
      have e2 := g52 (r := []) ⟨la, ua⟩ ⟨lb, ub⟩ ⟨lc, uc⟩ ht.2 ⟨lu, uu⟩ hW
      erw [e2]
      refine sel_t rfl (sel_f rfl (sel_f (decide_eq_false (show ¬ ((([] : List Int).length : Int) > 0) by simp)) ?_))
      exact ((h a b c t u ⟨⟨la, ua⟩, ⟨lb, ub⟩, ⟨lc, uc⟩, ht, ⟨lu, uu⟩⟩ (by rw [encS ⟨lu, uu⟩])).elim)
    · obtain ⟨x0, x1, x2, x3, x4, l, bb, e2, hbb⟩ := x52 hW hp
      erw [e2]
      refine sel_t rfl ?_
      cases bb with
      | true => exact sel_t rfl rfl
      | false =>
        rcases hbb with q | q
        · cases q
        · exact sel_f rfl (sel_t (decide_eq_true (show ((l.length : Int) > 0) by omega)) rfl)
  · have e1 := b74no (k := 3) hw (by omega) (fun p hp => hb ⟨p, hp⟩)
    erw [e1]
    exact sel_f rfl (sel_t rfl (sel_t rfl rfl))
def OKG (e : Int) (y : Int) (a : Int) (b : Int) (c : Int) (t : List Int) (u : Int) : Prop := (0 ≤ a ∧ a < 18446744073709551616) ∧ (0 ≤ b ∧ b < 18446744073709551616) ∧ (0 ≤ c ∧ c < 18446744073709551616) ∧ (Wb t ∧ t.length = 64) ∧ (0 ≤ u ∧ u < 4294967296) ∧ (win 1099511627776 [e, y] = true)
theorem g56 {e y a b c u : Int} {t : List Int} {r : List Int} (he : 0 ≤ e ∧ e < 18446744073709551616) (hy : 0 ≤ y ∧ y < 18446744073709551616) (ha : 0 ≤ a ∧ a < 18446744073709551616) (hb : 0 ≤ b ∧ b < 18446744073709551616) (hc : 0 ≤ c ∧ c < 18446744073709551616) (ht : t.length = 64) (hu : 0 ≤ u ∧ u < 4294967296) (hw : WO (some (bes e 8 ++ (bes y 8 ++ (bes a 8 ++ (bes b 8 ++ (bes c 8 ++ (t ++ (bes u 4 ++ (r)))))))))) : op_56r [.l TB (bes e 8 ++ (bes y 8 ++ (bes a 8 ++ (bes b 8 ++ (bes c 8 ++ (t ++ (bes u 4 ++ (r)))))))), .b false] = some (0, [.n (IntKind.wrap .i64 e), .n (IntKind.wrap .i64 y), .n a, .n b, .n c, .l TB t, .n u, .l TB r, .b false]) := by
  have e := t56 hw
  simp only [rd_be, vl_be, nb8 he.1 he.2, nb8 hy.1 hy.2, nb8 ha.1 ha.2, nb8 hb.1 hb.2, nb8 hc.1 hc.2, rd_app ht, tm_app ht, nb4 hu.1 hu.2] at e
  exact e
theorem x56 {p : List Int} (hw : WO (some p)) (hp : p.length ≠ 108) : ∃ (x0 : Int) (x1 : Int) (x2 : Int) (x3 : Int) (x4 : Int) (x5 : List Int) (x6 : Int) (l : List Int) (bb : Bool), op_56r [.l TB p, .b false] = some (0, [.n x0, .n x1, .n x2, .n x3, .n x4, .l TB x5, .n x6, .l TB l, .b bb]) ∧ (bb = true ∨ 0 < l.length) := by
  have e := t56 hw
  simp only [rd_rd] at e
  exact ⟨_, _, _, _, _, _, _, _, _, e, rd_end hp⟩
theorem encG {e y a b c u : Int} {t : List Int} (hu : 0 ≤ u ∧ u < 4294967296) : chk (logL e y a b c t u) = chk (4 :: (bes (IntKind.wrap .u64 e) 8 ++ (bes (IntKind.wrap .u64 y) 8 ++ (bes a 8 ++ (bes b 8 ++ (bes c 8 ++ (t ++ (bes u 4 ++ ([]))))))))) := by
  unfold logL stL
  simp only [wk hu.1 (by omega : u < 18446744073709551616), List.append_assoc, List.cons_append, List.nil_append, List.append_nil]
theorem G30 {e y a b c u : Int} {t : List Int} (h : OKG e y a b c t u) : op_30r [.l TB (chk (logL e y a b c t u))] = some (0, [.n e, .n y, .n a, .n b, .n c, .l TB t, .n u, .n 0]) := by
  obtain ⟨ha, hb, hc, ht, hu, hm⟩ := h
  have hwn := win2 hm
  have wu : ∀ {x : Int}, 0 ≤ IntKind.wrap .u64 x ∧ IntKind.wrap .u64 x < 18446744073709551616 := by intro x; rw [wu64]; omega
  have hwb : Wb (bes (IntKind.wrap .u64 e) 8 ++ (bes (IntKind.wrap .u64 y) 8 ++ (bes a 8 ++ (bes b 8 ++ (bes c 8 ++ (t ++ (bes u 4 ++ ([])))))))) := (be_wb _ _).app ((be_wb _ _).app ((be_wb _ _).app ((be_wb _ _).app ((be_wb _ _).app ((ht.1).app ((be_wb _ _).app (Wb.nil)))))))
  have hlen : (bes (IntKind.wrap .u64 e) 8 ++ (bes (IntKind.wrap .u64 y) 8 ++ (bes a 8 ++ (bes b 8 ++ (bes c 8 ++ (t ++ (bes u 4 ++ ([])))))))).length ≤ 900000 := by simp only [List.length_append, be_len, List.length_nil]; omega
  have e1 := b74ok (k := 4) (p := (bes (IntKind.wrap .u64 e) 8 ++ (bes (IntKind.wrap .u64 y) 8 ++ (bes a 8 ++ (bes b 8 ++ (bes c 8 ++ (t ++ (bes u 4 ++ ([]))))))))) (hwb.cons ⟨by omega, by omega⟩) hlen
  have e2 := g56 (r := []) wu wu ha hb hc ht.2 hu (fun l hl => by cases hl; exact ⟨hwb, by omega⟩)
  rw [wj (y := e) (by omega) (by omega)] at e2
  rw [wj (y := y) (by omega) (by omega)] at e2
  have e3 := t80 1099511627776 [e, y] (by simp)
  rw [hm] at e3
  rw [encG hu]
  rw [op_30r_eq]
  refine fn_30r_t_im _ _ ?_
  unfold fn_30r_t
  dsimp only
  erw [e1]
  refine sel_t rfl (sel_f rfl ?_)
  erw [e2]
  refine sel_t rfl (sel_f rfl (sel_f (decide_eq_false (show ¬ ((([] : List Int).length : Int) > 0) by simp)) ?_))
  erw [e3]
  rfl
theorem F30 {b0 : List Int} (hw : Wb b0) (hl : b0.length ≤ 100000) (h : ∀ e y a b c t u, OKG e y a b c t u → b0 ≠ chk (logL e y a b c t u)) : op_30r [.l TB b0] = some (0, [.n (0 : Int), .n (0 : Int), .n (0 : Int), .n (0 : Int), .n (0 : Int), .l TB (List.replicate 64 (0 : Int)), .n (0 : Int), .n 130]) := by
  rw [op_30r_eq]
  refine fn_30r_t_im _ _ ?_
  unfold fn_30r_t
  dsimp only
  by_cases hb : ∃ p, b0 = chk (4 :: p)
  · obtain ⟨p, rfl⟩ := hb
    have hk : Wb (4 :: p) := fun x hx => hw x (by unfold chk; exact List.mem_append_left _ hx)
    have hwp : Wb p := fun x hx => hk x (List.mem_cons_of_mem _ hx)
    rw [chk_len, List.length_cons] at hl
    have e1 := b74ok hk (by omega)
    have hW : WO (some p) := fun l hl => by cases hl; exact ⟨hwp, by omega⟩
    erw [e1]
    refine sel_t rfl (sel_f rfl ?_)
    by_cases hp : p.length = 108
    · obtain ⟨e, r1, hr1, le, ue, w1, n1⟩ := cut8 (l := p) hwp (by omega)
      obtain ⟨y, r2, hr2, ly, uy, w2, n2⟩ := cut8 (l := r1) w1 (by omega)
      obtain ⟨a, r3, hr3, la, ua, w3, n3⟩ := cut8 (l := r2) w2 (by omega)
      obtain ⟨b, r4, hr4, lb, ub, w4, n4⟩ := cut8 (l := r3) w3 (by omega)
      obtain ⟨c, r5, hr5, lc, uc, w5, n5⟩ := cut8 (l := r4) w4 (by omega)
      obtain ⟨t, r6, hr6, ht, w6, n6⟩ : ∃ t r, r5 = t ++ r ∧ (Wb t ∧ t.length = 64) ∧ Wb r ∧ r.length + 64 = r5.length := ⟨r5.take 64, r5.drop 64, (List.take_append_drop 64 r5).symm, ⟨w5.take 64, by rw [List.length_take]; omega⟩, w5.drop 64, by rw [List.length_drop]; omega⟩
      obtain ⟨u, r7, hr7, lu, uu, w7, n7⟩ := cut4 (l := r6) w6 (by omega)
      have hz := win64 (p := r7) (by omega)
      subst hz
      subst hr7
      subst hr6
      subst hr5
      subst hr4
      subst hr3
      subst hr2
      subst hr1
      have e2 := g56 (r := []) ⟨le, ue⟩ ⟨ly, uy⟩ ⟨la, ua⟩ ⟨lb, ub⟩ ⟨lc, uc⟩ ht.2 ⟨lu, uu⟩ hW
      have e3 := t80 1099511627776 [IntKind.wrap .i64 e, IntKind.wrap .i64 y] (by simp)
      erw [e2]
      refine sel_t rfl (sel_f rfl (sel_f (decide_eq_false (show ¬ ((([] : List Int).length : Int) > 0) by simp)) ?_))
      erw [e3]
      cases hm : win 1099511627776 [IntKind.wrap .i64 e, IntKind.wrap .i64 y] with
      | false => rfl
      | true => exact ((h (IntKind.wrap .i64 e) (IntKind.wrap .i64 y) a b c t u ⟨⟨la, ua⟩, ⟨lb, ub⟩, ⟨lc, uc⟩, ht, ⟨lu, uu⟩, hm⟩ (by rw [encG ⟨lu, uu⟩]; rw [wi le ue]; rw [wi ly uy])).elim)
    · obtain ⟨x0, x1, x2, x3, x4, x5, x6, l, bb, e2, hbb⟩ := x56 hW hp
      erw [e2]
      refine sel_t rfl ?_
      cases bb with
      | true => exact sel_t rfl rfl
      | false =>
        rcases hbb with q | q
        · cases q
        · exact sel_f rfl (sel_t (decide_eq_true (show ((l.length : Int) > 0) by omega)) rfl)
  · have e1 := b74no (k := 4) hw (by omega) (fun p hp => hb ⟨p, hp⟩)
    erw [e1]
    exact sel_f rfl (sel_t rfl (sel_t rfl rfl))
theorem vl_bd {o : Option (List Int)} (h : WO o) (w : Nat) : 0 ≤ vl w o ∧ vl w o < 256 ^ w := by
  have hp : (0 : Int) < 256 ^ w := Int.pow_pos (by omega)
  have z : nm [] = 0 := rfl
  unfold vl
  cases o with
  | none => show 0 ≤ nm [] ∧ nm [] < _; omega
  | some l =>
    by_cases q : w ≤ l.length
    · rw [tk_pos q]
      have := nm_bd ((h l rfl).1.take w)
      rw [List.length_take, Nat.min_eq_left q] at this
      exact this
    · rw [tk_neg q]; omega
/-! ### messages -/
def o59 (o : Option (List Int)) : Option (List Int) := rd 8 (rd 8 (rd 1 (rd 1 o)))
theorem t59 {o : Option (List Int)} (h : WO o) : op_59r [.l TB (lf o), .b (bd o)] = some (0, [.n (vl 1 o), .n (vl 1 (rd 1 o)), .n (IntKind.wrap .i64 (vl 8 (rd 1 (rd 1 o)))), .n (IntKind.wrap .i64 (vl 8 (rd 8 (rd 1 (rd 1 o))))), .l TB (lf (rd (vl 2 (o59 o)).toNat (rd 2 (o59 o)))), .b (bd (rd (vl 2 (o59 o)).toNat (rd 2 (o59 o)))), .l TB (tk (vl 2 (o59 o)).toNat (rd 2 (o59 o)))]) := by
  have e1 := r77r h
  have e2 := r77r (h.rd 1)
  have e3 := r78r ((h.rd 1).rd 1)
  have e4 := r78r (((h.rd 1).rd 1).rd 8)
  have h5 : WO (o59 o) := ((((h.rd 1).rd 1).rd 8).rd 8)
  have e5 := r83r h5
  have hv := vl_bd h5 2
  have h2 : (256 : Int) ^ 2 = 65536 := rfl
  have e6 := r82r (h5.rd 2) (vl 2 (o59 o)).toNat (by omega)
  have hw : ((vl 2 (o59 o)).toNat : Int) = IntKind.wrap .i64 (vl 2 (o59 o)) := by rw [w64d]; omega
  rw [hw] at e6
  rw [op_59r_eq]
  refine fn_59r_t_im _ _ _ ?_
  unfold fn_59r_t
  dsimp only
  erw [e1]
  refine sel_t rfl ?_
  erw [e2]
  refine sel_t rfl ?_
  erw [e3]
  refine sel_t rfl ?_
  erw [e4]
  refine sel_t rfl ?_
  erw [e5]
  refine sel_t rfl ?_
  erw [e6]
  rfl
theorem g59 {x y s k n : Int} {r : List Int} (hx : 0 ≤ x ∧ x < 256) (hy : 0 ≤ y ∧ y < 256) (hs : 0 ≤ s ∧ s < 18446744073709551616) (hk : 0 ≤ k ∧ k < 18446744073709551616) (hn : 0 ≤ n ∧ n < 65536)
    (hw : WO (some (bes x 1 ++ (bes y 1 ++ (bes s 8 ++ (bes k 8 ++ (bes n 2 ++ r))))))) : op_59r [.l TB (bes x 1 ++ (bes y 1 ++ (bes s 8 ++ (bes k 8 ++ (bes n 2 ++ r))))), .b false] = some (0, [.n x, .n y, .n (IntKind.wrap .i64 s), .n (IntKind.wrap .i64 k), .l TB (lf (rd n.toNat (some r))), .b (bd (rd n.toNat (some r))), .l TB (tk n.toNat (some r))]) := by
  have e := t59 hw
  unfold o59 at e
  simp only [rd_be, vl_be, nb1 hx.1 hx.2, nb1 hy.1 hy.2, nb8 hs.1 hs.2, nb8 hk.1 hk.2, nb2 hn.1 hn.2] at e
  exact e
theorem rd_none (w : Nat) : rd w none = none := rfl
theorem x59 {p : List Int} (hw : WO (some p)) (hp : p.length < 21) (hq : p.length ≠ 20) : ∃ (x0 x1 x2 x3 : Int) (l t : List Int), op_59r [.l TB p, .b false] = some (0, [.n x0, .n x1, .n x2, .n x3, .l TB l, .b true, .l TB t]) := by
  have e := t59 hw
  have e20 : rd 2 (o59 (some p)) = none := by
    unfold o59
    simp only [rd_rd]
    exact rd_neg (by omega)
  rw [e20, rd_none] at e
  exact ⟨_, _, _, _, _, _, e⟩
def OKL (x y s k : Int) (l : List Int) : Prop := (0 ≤ x ∧ x < 256) ∧ (0 ≤ y ∧ y < 256) ∧ (win 4611686018427387904 [s, k] && decide ((l.length : Int) ≤ 2048)) = true ∧ Wb l
theorem encL {x y s k : Int} {l : List Int} (hx : 0 ≤ x ∧ x < 256) (hy : 0 ≤ y ∧ y < 256) : chk (liL x y s k l) = chk (5 :: (bes x 1 ++ (bes y 1 ++ (bes (IntKind.wrap .u64 s) 8 ++ (bes (IntKind.wrap .u64 k) 8 ++ (bes (IntKind.wrap .u64 (l.length : Int)) 2 ++ l)))))) := by
  unfold liL
  simp only [be1 hx.1 hx.2, be1 hy.1 hy.2, List.append_assoc, List.cons_append, List.nil_append]
theorem GL {x y s k : Int} {l : List Int} (h : OKL x y s k l) : op_32r [.l TB (chk (liL x y s k l))] = some (0, [.n x, .n y, .n s, .n k, .n 0, .l TB l]) := by
  obtain ⟨hx, hy, hm, hwl⟩ := h
  have hm' := hm
  rw [Bool.and_eq_true] at hm'
  have hwn := win2 hm'.1
  have hn : l.length ≤ 2048 := by have := of_decide_eq_true hm'.2; omega
  have wu : ∀ {x : Int}, 0 ≤ IntKind.wrap .u64 x ∧ IntKind.wrap .u64 x < 18446744073709551616 := by intro x; rw [wu64]; omega
  have hwb : Wb (bes x 1 ++ (bes y 1 ++ (bes (IntKind.wrap .u64 s) 8 ++ (bes (IntKind.wrap .u64 k) 8 ++ (bes (IntKind.wrap .u64 (l.length : Int)) 2 ++ l))))) := (be_wb _ _).app ((be_wb _ _).app ((be_wb _ _).app ((be_wb _ _).app ((be_wb _ _).app hwl))))
  have hlen : (bes x 1 ++ (bes y 1 ++ (bes (IntKind.wrap .u64 s) 8 ++ (bes (IntKind.wrap .u64 k) 8 ++ (bes (IntKind.wrap .u64 (l.length : Int)) 2 ++ l))))).length ≤ 900000 := by simp only [List.length_append, be_len]; omega
  have e1 := b74ok (k := 5) (hwb.cons ⟨by omega, by omega⟩) hlen
  have hu : IntKind.wrap .u64 (l.length : Int) = (l.length : Int) := by rw [wu64]; omega
  have e2 := g59 (r := l) hx hy (wu (x := s)) (wu (x := k)) (n := IntKind.wrap .u64 (l.length : Int)) (by rw [hu]; omega) (fun l hl => by cases hl; exact ⟨hwb, by omega⟩)
  have hr : rd (IntKind.wrap .u64 (l.length : Int)).toNat (some l) = some [] := by
    have := rd_app (k := l.length) (a := l) (r := []) rfl
    rw [List.append_nil] at this
    rw [hu, show ((l.length : Int)).toNat = l.length by omega]; exact this
  have ht : tk (IntKind.wrap .u64 (l.length : Int)).toNat (some l) = l := by
    have := tk_app (k := l.length) (a := l) (r := []) rfl
    rw [List.append_nil] at this
    rw [hu, show ((l.length : Int)).toNat = l.length by omega]; exact this
  rw [hr, ht, wj (y := s) (by omega) (by omega), wj (y := k) (by omega) (by omega)] at e2
  have e3 := t60 x y s k l
  rw [hm] at e3
  rw [encL hx hy, op_32r_eq]
  refine fn_32r_t_im _ _ ?_
  unfold fn_32r_t
  dsimp only
  erw [e1]
  refine sel_t rfl (sel_f rfl ?_)
  erw [e2]
  refine sel_t rfl (sel_f rfl (sel_f (decide_eq_false (show ¬ ((([] : List Int).length : Int) > 0) by simp)) ?_))
  erw [e3]
  rfl
theorem FL {b0 : List Int} (hw : Wb b0) (hl : b0.length ≤ 100000) (h : ∀ x y s k l, OKL x y s k l → b0 ≠ chk (liL x y s k l)) : op_32r [.l TB b0] = some (1, [.n 0, .n 0, .n 0, .n 0, .n 130]) := by
  rw [op_32r_eq]
  refine fn_32r_t_im _ _ ?_
  unfold fn_32r_t
  dsimp only
  by_cases hb : ∃ p, b0 = chk (5 :: p)
  · obtain ⟨p, rfl⟩ := hb
    have hk : Wb (5 :: p) := fun x hx => hw x (by unfold chk; exact List.mem_append_left _ hx)
    have hwp : Wb p := fun x hx => hk x (List.mem_cons_of_mem _ hx)
    rw [chk_len, List.length_cons] at hl
    have e1 := b74ok hk (by omega)
    have hW : WO (some p) := fun l hl => by cases hl; exact ⟨hwp, by omega⟩
    erw [e1]
    refine sel_t rfl (sel_f rfl ?_)
    by_cases hp : p.length < 20
    · obtain ⟨x0, x1, x2, x3, l, t, e2⟩ := x59 hW (by omega) (by omega)
      erw [e2]
      exact sel_t rfl (sel_t rfl rfl)
    · obtain ⟨x, r1, h1, lx, ux, w1, n1⟩ := cut1 (l := p) hwp (by omega)
      obtain ⟨y, r2, h2, ly, uy, w2, n2⟩ := cut1 (l := r1) w1 (by omega)
      obtain ⟨s, r3, h3, ls, us, w3, n3⟩ := cut8 (l := r2) w2 (by omega)
      obtain ⟨k, r4, h4, lk, uk, w4, n4⟩ := cut8 (l := r3) w3 (by omega)
      obtain ⟨n, r, h5, ln, un, w5, n5⟩ := cut2 (l := r4) w4 (by omega)
      subst h5; subst h4; subst h3; subst h2; subst h1
      have e2 := g59 (r := r) ⟨lx, ux⟩ ⟨ly, uy⟩ ⟨ls, us⟩ ⟨lk, uk⟩ ⟨ln, un⟩ hW
      by_cases hn : r.length = n.toNat
      · have hr : rd n.toNat (some r) = some [] := by
          have := rd_app (k := n.toNat) (a := r) (r := []) hn
          rw [List.append_nil] at this; exact this
        have ht : tk n.toNat (some r) = r := by
          have := tk_app (k := n.toNat) (a := r) (r := []) hn
          rw [List.append_nil] at this; exact this
        rw [hr, ht] at e2
        have e3 := t60 x y (IntKind.wrap .i64 s) (IntKind.wrap .i64 k) r
        erw [e2]
        refine sel_t rfl (sel_f rfl (sel_f (decide_eq_false (show ¬ ((([] : List Int).length : Int) > 0) by simp)) ?_))
        erw [e3]
        cases hm : (win 4611686018427387904 [IntKind.wrap .i64 s, IntKind.wrap .i64 k] && decide ((r.length : Int) ≤ 2048)) with
        | false => rfl
        | true =>
          refine (h x y (IntKind.wrap .i64 s) (IntKind.wrap .i64 k) r ⟨⟨lx, ux⟩, ⟨ly, uy⟩, hm, w5⟩ ?_).elim
          have hu : IntKind.wrap .u64 (r.length : Int) = n := by rw [wu64]; omega
          rw [encL ⟨lx, ux⟩ ⟨ly, uy⟩, wi ls us, wi lk uk, hu]
      · have hbb := rd_end (k := n.toNat) (l := r) hn
        erw [e2]
        refine sel_t rfl ?_
        rcases hbb with q | q
        · exact sel_t q rfl
        · cases hbd : bd (rd n.toNat (some r)) with
          | true => exact sel_t rfl rfl
          | false => exact sel_f rfl (sel_t (decide_eq_true (show (((lf (rd n.toNat (some r))).length : Int) > 0) by omega)) rfl)
  · have e1 := b74no (k := 5) hw (by omega) (fun p hp => hb ⟨p, hp⟩)
    erw [e1]
    exact sel_f rfl (sel_t rfl (sel_t rfl rfl))
/-! ### inputs -/
def mkC (a b : Int) : Cmd := (a, b)
theorem apC_len (l : List Cmd) (x y : Int) : (apC l x y).length = l.length + 1 := by unfold apC; exact List.length_append
def rc : Nat → Option (List Int) → List Cmd
  | 0, _ => []
  | k + 1, o => mkC (vl 1 o) (IntKind.wrap .i64 (vl 1 (rd 1 o))) :: rc k (rd 1 (rd 1 o))
def rn : Nat → Option (List Int) → Option (List Int)
  | 0, o => o
  | k + 1, o => rn k (rd 1 (rd 1 o))
theorem rn_rd : ∀ (k : Nat) (l : List Int), rn k (some l) = rd (2 * k) (some l)
  | 0, l => by rw [rd_pos (by omega)]; rfl
  | k + 1, l => by
    have hn : ∀ k, rn k none = none := by intro k; induction k with
      | zero => rfl
      | succ k ih => exact ih
    unfold rn
    rw [rd_rd]
    by_cases h : 2 ≤ l.length
    · rw [rd_pos h, rn_rd k]
      have e := rd_rd (2 * k) 2 (some l)
      rw [rd_pos h] at e
      rw [e, show 2 + 2 * k = 2 * (k + 1) by omega]
    · rw [rd_neg h, hn, rd_neg (by omega)]
theorem rn_none : ∀ k, rn k none = none
  | 0 => rfl
  | k + 1 => rn_none k
theorem rc_len : ∀ (k : Nat) (o : Option (List Int)), (rc k o).length = k
  | 0, _ => rfl
  | k + 1, o => by unfold rc; rw [List.length_cons, rc_len k]
theorem lp45 (n c y q a b : Int) (hn : n < 256) : ∀ (k : Nat) (i : Int) (o : Option (List Int)) (acc : List Cmd) (f : Nat), WO o → 0 ≤ i → i + k = n → acc.length + k ≤ 1000 → k < f →
    iterS st_L45r_4 f [.k 0, .n n, .n i, .l TB (lf o), .b (bd o), .n 0, .n 0, .n 0, .n 0, .n 0, .n c, .n y, .n q, .n a, .n b, .l TC acc] = some (0, [.l TB (lf (rn k o)), .b (bd (rn k o)), .n 0, .n 0, .n 0, .n 0, .n 0, .n c, .n y, .n q, .n a, .n b, .l TC (List.append acc (rc k o))])
  | _, _, _, _, 0, _, _, _, _, h => by omega
  | 0, i, o, acc, f + 1, hw, h0, hi, hl, hf => by
    have e : (st_L45r_4 [.k 0, .n n, .n i, .l TB (lf o), .b (bd o), .n 0, .n 0, .n 0, .n 0, .n 0, .n c, .n y, .n q, .n a, .n b, .l TC acc]).sel = some (.stop 0 [.l TB (lf o), .b (bd o), .n 0, .n 0, .n 0, .n 0, .n 0, .n c, .n y, .n q, .n a, .n b, .l TC acc]) := by
      refine fn_L45r_4_t_im _ _ _ _ _ _ _ _ _ _ _ ?_
      unfold fn_L45r_4_t
      exact sel_f (decide_eq_false (by omega)) rfl
    unfold iterS
    rw [e]
    have ha : List.append acc (rc 0 o) = acc := List.append_nil acc
    rw [ha]
    rfl
  | k + 1, i, o, acc, f + 1, hw, h0, hi, hl, hf => by
    have e1 := r77r hw
    have e2 := r77r (hw.rd 1)
    have w : IntKind.wrap .u8 (i + 1) = i + 1 := by rw [wu8]; omega
    have e : (st_L45r_4 [.k 0, .n n, .n i, .l TB (lf o), .b (bd o), .n 0, .n 0, .n 0, .n 0, .n 0, .n c, .n y, .n q, .n a, .n b, .l TC acc]).sel = some (.go [.k 0, .n n, .n (i + 1), .l TB (lf (rd 1 (rd 1 o))), .b (bd (rd 1 (rd 1 o))), .n 0, .n 0, .n 0, .n 0, .n 0, .n c, .n y, .n q, .n a, .n b, .l TC (apC acc (vl 1 o) (IntKind.wrap .i64 (vl 1 (rd 1 o))))]) := by
      refine fn_L45r_4_t_im _ _ _ _ _ _ _ _ _ _ _ ?_
      unfold fn_L45r_4_t
      dsimp only
      refine sel_t (decide_eq_true (by omega)) ?_
      erw [e1]
      refine sel_t rfl ?_
      erw [e2]
      refine sel_t rfl (sel_t (decide_eq_true (show (acc.length + 1) * 16 ≤ 140737488355328 by omega)) ?_)
      rw [w]
      rfl
    unfold iterS
    rw [e]
    have ih := lp45 n c y q a b hn k (i + 1) (rd 1 (rd 1 o)) (apC acc (vl 1 o) (IntKind.wrap .i64 (vl 1 (rd 1 o)))) f ((hw.rd 1).rd 1) (by omega) (by omega) (by rw [apC_len]; omega) (by omega)
    refine ih.trans ?_
    have ha : List.append (apC acc (vl 1 o) (IntKind.wrap .i64 (vl 1 (rd 1 o)))) (rc k (rd 1 (rd 1 o))) = List.append acc (rc (k + 1) o) := List.append_assoc acc [_] _
    rw [ha]
    rfl
def o45 (o : Option (List Int)) : Option (List Int) := rd 4 (rd 4 (rd 8 (rd 8 (rd 1 o))))
theorem t45 {o : Option (List Int)} (h : WO o) : op_45r [.l TB (lf o), .b (bd o)] = some (0, [.n (vl 1 o), .n (IntKind.wrap .i64 (vl 8 (rd 1 o))), .n (vl 8 (rd 8 (rd 1 o))), .n (vl 4 (rd 8 (rd 8 (rd 1 o)))), .n (vl 4 (rd 4 (rd 8 (rd 8 (rd 1 o))))), .l TB (lf (rn (vl 1 (o45 o)).toNat (rd 1 (o45 o)))), .b (bd (rn (vl 1 (o45 o)).toNat (rd 1 (o45 o)))), .l TC (rc (vl 1 (o45 o)).toNat (rd 1 (o45 o)))]) := by
  have e1 := r77r h
  have e2 := r78r (h.rd 1)
  have e3 := r78r ((h.rd 1).rd 8)
  have e4 := r79r (((h.rd 1).rd 8).rd 8)
  have e5 := r79r ((((h.rd 1).rd 8).rd 8).rd 4)
  have h6 : WO (o45 o) := ((((h.rd 1).rd 8).rd 8).rd 4).rd 4
  have e6 := r77r h6
  have hv := vl_bd h6 1
  have h2 : (256 : Int) ^ 1 = 256 := rfl
  have e7 : op_L45r_4 [.k 0, .n (vl 1 (o45 o)), .n 0, .l TB (lf (rd 1 (o45 o))), .b (bd (rd 1 (o45 o))), .n 0, .n 0, .n 0, .n 0, .n 0, .n (vl 1 o), .n (IntKind.wrap .i64 (vl 8 (rd 1 o))), .n (vl 8 (rd 8 (rd 1 o))), .n (vl 4 (rd 8 (rd 8 (rd 1 o)))), .n (vl 4 (rd 4 (rd 8 (rd 8 (rd 1 o))))), .l TC ([] : List Cmd)] = some (0, [.l TB (lf (rn (vl 1 (o45 o)).toNat (rd 1 (o45 o)))), .b (bd (rn (vl 1 (o45 o)).toNat (rd 1 (o45 o)))), .n 0, .n 0, .n 0, .n 0, .n 0, .n (vl 1 o), .n (IntKind.wrap .i64 (vl 8 (rd 1 o))), .n (vl 8 (rd 8 (rd 1 o))), .n (vl 4 (rd 8 (rd 8 (rd 1 o)))), .n (vl 4 (rd 4 (rd 8 (rd 8 (rd 1 o))))), .l TC (List.append ([] : List Cmd) (rc (vl 1 (o45 o)).toNat (rd 1 (o45 o))))]) := by
    rw [op_L45r_4_eq]
    exact lp45 _ _ _ _ _ _ (by omega) (vl 1 (o45 o)).toNat 0 (rd 1 (o45 o)) [] FU (h6.rd 1) (by omega) (by omega) (by simp; omega) (by unfold FU; omega)
  rw [op_45r_eq]
  refine fn_45r_t_im _ _ _ ?_
  unfold fn_45r_t
  dsimp only
  erw [e1]
  refine sel_t rfl ?_
  erw [e2]
  refine sel_t rfl ?_
  erw [e3]
  refine sel_t rfl ?_
  erw [e4]
  refine sel_t rfl ?_
  erw [e5]
  refine sel_t rfl ?_
  erw [e6]
  refine sel_t rfl ?_
  erw [e7]
  rfl
theorem g45 {c y q a b n : Int} {r : List Int} (hc : 0 ≤ c ∧ c < 256) (hy : 0 ≤ y ∧ y < 18446744073709551616) (hq : 0 ≤ q ∧ q < 18446744073709551616) (ha : 0 ≤ a ∧ a < 4294967296) (hb : 0 ≤ b ∧ b < 4294967296) (hn : 0 ≤ n ∧ n < 256)
    (hw : WO (some (bes c 1 ++ (bes y 8 ++ (bes q 8 ++ (bes a 4 ++ (bes b 4 ++ (bes n 1 ++ r)))))))) : op_45r [.l TB (bes c 1 ++ (bes y 8 ++ (bes q 8 ++ (bes a 4 ++ (bes b 4 ++ (bes n 1 ++ r)))))), .b false] = some (0, [.n c, .n (IntKind.wrap .i64 y), .n q, .n a, .n b, .l TB (lf (rn n.toNat (some r))), .b (bd (rn n.toNat (some r))), .l TC (rc n.toNat (some r))]) := by
  have e := t45 hw
  unfold o45 at e
  simp only [rd_be, vl_be, nb1 hc.1 hc.2, nb8 hy.1 hy.2, nb8 hq.1 hq.2, nb4 ha.1 ha.2, nb4 hb.1 hb.2, nb1 hn.1 hn.2] at e
  exact e
theorem x45 {p : List Int} (hw : WO (some p)) (hp : p.length < 26) : ∃ (x0 x1 x2 x3 x4 : Int) (l : List Int) (t : List Cmd), op_45r [.l TB p, .b false] = some (0, [.n x0, .n x1, .n x2, .n x3, .n x4, .l TB l, .b true, .l TC t]) := by
  have e := t45 hw
  have e20 : rd 1 (o45 (some p)) = none := by
    unfold o45
    simp only [rd_rd]
    exact rd_neg (by omega)
  rw [e20, rn_none] at e
  exact ⟨_, _, _, _, _, _, _, e⟩
/-- Bytes of commands, there and back. -/
theorem rdx1 (x : Int) (l : List Int) : rd 1 (some (x :: l)) = some l := rd_pos (by simp)
theorem vl1 (x : Int) (l : List Int) : vl 1 (some (x :: l)) = x := by
  unfold vl
  rw [tk_pos (by simp)]
  show 0 * 256 + x = x
  omega
theorem rc_cc (k : Nat) (x y : Int) (r : List Int) : rc (k + 1) (some (x :: y :: r)) = mkC x (IntKind.wrap .i64 y) :: rc k (some r) := by
  show mkC (vl 1 (some (x :: y :: r))) (IntKind.wrap .i64 (vl 1 (rd 1 (some (x :: y :: r))))) :: rc k (rd 1 (rd 1 (some (x :: y :: r)))) = _
  rw [rdx1, rdx1, vl1, vl1]
theorem rc_cms : ∀ (l : List Cmd), l.all cmdOk = true → rc l.length (some (cms l)) = l
  | [], _ => rfl
  | x :: l, h => by
    rw [List.all_cons, Bool.and_eq_true] at h
    have hk : ck (Prod.fst x) (Prod.snd x) = true := h.1
    have h63 : 0 ≤ (Prod.snd x : Int) ∧ (Prod.snd x : Int) ≤ 63 := by unfold ck win at hk; simp at hk; omega
    have hw : IntKind.wrap .i64 (IntKind.wrap .u8 (Prod.snd x)) = Prod.snd x := by rw [wu8, w64d]; omega
    refine (rc_cc l.length (Prod.fst x) (IntKind.wrap .u8 (Prod.snd x)) (cms l)).trans ?_
    rw [rc_cms l h.2, hw]
    rfl
theorem cms_rc : ∀ (k : Nat) (r : List Int), Wb r → r.length = 2 * k → cms (rc k (some r)) = r
  | 0, r, _, hl => (List.eq_nil_of_length_eq_zero (by omega) : r = []) ▸ rfl
  | k + 1, [], _, hl => by simp at hl
  | k + 1, [_], _, hl => by simp at hl; omega
  | k + 1, x :: y :: r, hw, hl => by
    have hy := hw y (by simp)
    have hwr : Wb r := fun z hz => hw z (by simp [hz])
    rw [rc_cc]
    show x :: IntKind.wrap .u8 (IntKind.wrap .i64 y) :: cms (rc k (some r)) = _
    rw [cms_rc k r hwr (by simp at hl; omega), w64d, wu8]
    have : ((y + 9223372036854775808) % 18446744073709551616 - 9223372036854775808) % 256 = y := by omega
    rw [this]
def OKI (c y q a b : Int) (l : List Cmd) : Prop := (0 ≤ c ∧ c < 256) ∧ (0 ≤ q ∧ q < 18446744073709551616) ∧ (0 ≤ a ∧ a < 4294967296) ∧ (0 ≤ b ∧ b < 4294967296) ∧ (l.all cmdOk && (win 1099511627776 [y] && decide ((l.length : Int) ≤ 8))) = true
theorem encI {c y q a b : Int} {l : List Cmd} (hc : 0 ≤ c ∧ c < 256) (ha : 0 ≤ a ∧ a < 4294967296) (hb : 0 ≤ b ∧ b < 4294967296) : chk (inL c y q a b l) = chk (1 :: (bes c 1 ++ (bes (IntKind.wrap .u64 y) 8 ++ (bes q 8 ++ (bes a 4 ++ (bes b 4 ++ (bes (IntKind.wrap .u8 (l.length : Int)) 1 ++ cms l))))))) := by
  unfold inL
  have h8 : 0 ≤ IntKind.wrap .u8 (l.length : Int) ∧ IntKind.wrap .u8 (l.length : Int) < 256 := by rw [wu8]; omega
  simp only [be1 hc.1 hc.2, be1 h8.1 h8.2, wk ha.1 (by omega : a < 18446744073709551616), wk hb.1 (by omega : b < 18446744073709551616), List.append_assoc, List.cons_append, List.nil_append]
theorem win1 {m a : Int} (h : win m [a] = true) : 0 ≤ a ∧ a ≤ m := by
  unfold win at h; simp at h; omega
theorem GI {c y q a b : Int} {l : List Cmd} (h : OKI c y q a b l) : op_23r [.l TB (chk (inL c y q a b l))] = some (0, [.n c, .n y, .n q, .n a, .n b, .n 0, .l TC l]) := by
  obtain ⟨hc, hq, ha, hb, hm⟩ := h
  have hm' := hm
  rw [Bool.and_eq_true, Bool.and_eq_true] at hm'
  have hwn := win1 hm'.2.1
  have hn : l.length ≤ 8 := by have := of_decide_eq_true hm'.2.2; omega
  have wu : ∀ {x : Int}, 0 ≤ IntKind.wrap .u64 x ∧ IntKind.wrap .u64 x < 18446744073709551616 := by intro x; rw [wu64]; omega
  have hu : IntKind.wrap .u8 (l.length : Int) = (l.length : Int) := by rw [wu8]; omega
  have hwb : Wb (bes c 1 ++ (bes (IntKind.wrap .u64 y) 8 ++ (bes q 8 ++ (bes a 4 ++ (bes b 4 ++ (bes (IntKind.wrap .u8 (l.length : Int)) 1 ++ cms l)))))) := (be_wb _ _).app ((be_wb _ _).app ((be_wb _ _).app ((be_wb _ _).app ((be_wb _ _).app ((be_wb _ _).app (cms_wb hm'.1))))))
  have hlen : (bes c 1 ++ (bes (IntKind.wrap .u64 y) 8 ++ (bes q 8 ++ (bes a 4 ++ (bes b 4 ++ (bes (IntKind.wrap .u8 (l.length : Int)) 1 ++ cms l)))))).length ≤ 900000 := by simp only [List.length_append, be_len, cms_len]; omega
  have e1 := b74ok (k := 1) (hwb.cons ⟨by omega, by omega⟩) hlen
  have e2 := g45 (r := cms l) hc (wu (x := y)) hq ha hb (n := IntKind.wrap .u8 (l.length : Int)) (by rw [hu]; omega) (fun l hl => by cases hl; exact ⟨hwb, by omega⟩)
  have hr : rn (IntKind.wrap .u8 (l.length : Int)).toNat (some (cms l)) = some [] := by
    rw [hu, show ((l.length : Int)).toNat = l.length by omega, rn_rd]
    have := rd_app (k := 2 * l.length) (a := cms l) (r := []) (cms_len l)
    rw [List.append_nil] at this
    exact this
  have ht : rc (IntKind.wrap .u8 (l.length : Int)).toNat (some (cms l)) = l := by
    rw [hu, show ((l.length : Int)).toNat = l.length by omega]; exact rc_cms l hm'.1
  rw [hr, ht, wj (y := y) (by omega) (by omega)] at e2
  have e3 := t46 c y q a b l (by omega)
  rw [hm] at e3
  rw [encI hc ha hb, op_23r_eq]
  refine fn_23r_t_im _ _ ?_
  unfold fn_23r_t
  dsimp only
  erw [e1]
  refine sel_t rfl (sel_f rfl ?_)
  erw [e2]
  refine sel_t rfl (sel_f rfl (sel_f (decide_eq_false (show ¬ ((([] : List Int).length : Int) > 0) by simp)) ?_))
  erw [e3]
  rfl
theorem FI {b0 : List Int} (hw : Wb b0) (hl : b0.length ≤ 100000) (h : ∀ c y q a b l, OKI c y q a b l → b0 ≠ chk (inL c y q a b l)) : op_23r [.l TB b0] = some (1, [.n 0, .n 0, .n 0, .n 0, .n 0, .n 130]) := by
  rw [op_23r_eq]
  refine fn_23r_t_im _ _ ?_
  unfold fn_23r_t
  dsimp only
  by_cases hb : ∃ p, b0 = chk (1 :: p)
  · obtain ⟨p, rfl⟩ := hb
    have hk : Wb (1 :: p) := fun x hx => hw x (by unfold chk; exact List.mem_append_left _ hx)
    have hwp : Wb p := fun x hx => hk x (List.mem_cons_of_mem _ hx)
    rw [chk_len, List.length_cons] at hl
    have e1 := b74ok hk (by omega)
    have hW : WO (some p) := fun l hl => by cases hl; exact ⟨hwp, by omega⟩
    erw [e1]
    refine sel_t rfl (sel_f rfl ?_)
    by_cases hp : p.length < 26
    · obtain ⟨x0, x1, x2, x3, x4, l, t, e2⟩ := x45 hW hp
      erw [e2]
      exact sel_t rfl (sel_t rfl rfl)
    · obtain ⟨c, r1, h1, lc, uc, w1, n1⟩ := cut1 (l := p) hwp (by omega)
      obtain ⟨y, r2, h2, ly, uy, w2, n2⟩ := cut8 (l := r1) w1 (by omega)
      obtain ⟨q, r3, h3, lq, uq, w3, n3⟩ := cut8 (l := r2) w2 (by omega)
      obtain ⟨a, r4, h4, la, ua, w4, n4⟩ := cut4 (l := r3) w3 (by omega)
      obtain ⟨b, r5, h5, lb, ub, w5, n5⟩ := cut4 (l := r4) w4 (by omega)
      obtain ⟨n, r, h6, ln, un, w6, n6⟩ := cut1 (l := r5) w5 (by omega)
      subst h6; subst h5; subst h4; subst h3; subst h2; subst h1
      have e2 := g45 (r := r) ⟨lc, uc⟩ ⟨ly, uy⟩ ⟨lq, uq⟩ ⟨la, ua⟩ ⟨lb, ub⟩ ⟨ln, un⟩ hW
      rw [rn_rd] at e2
      by_cases hn : r.length = 2 * n.toNat
      · have hr : rd (2 * n.toNat) (some r) = some [] := by
          have := rd_app (k := 2 * n.toNat) (a := r) (r := []) hn
          rw [List.append_nil] at this; exact this
        rw [hr] at e2
        have hln := rc_len n.toNat (some r)
        have hcm := cms_rc n.toNat r w6 hn
        obtain ⟨l, hl0⟩ : ∃ l, l = rc n.toNat (some r) := ⟨_, rfl⟩
        rw [← hl0] at e2 hln hcm
        have e3 := t46 c (IntKind.wrap .i64 y) q a b l (by omega)
        erw [e2]
        refine sel_t rfl (sel_f rfl (sel_f (decide_eq_false (show ¬ ((([] : List Int).length : Int) > 0) by simp)) ?_))
        erw [e3]
        cases hm : (l.all cmdOk && (win 1099511627776 [IntKind.wrap .i64 y] && decide ((l.length : Int) ≤ 8))) with
        | false => rfl
        | true =>
          refine (h c (IntKind.wrap .i64 y) q a b l ⟨⟨lc, uc⟩, ⟨lq, uq⟩, ⟨la, ua⟩, ⟨lb, ub⟩, hm⟩ ?_).elim
          have hu : IntKind.wrap .u8 (l.length : Int) = n := by rw [wu8]; omega
          rw [encI ⟨lc, uc⟩ ⟨la, ua⟩ ⟨lb, ub⟩, wi ly uy, hu, hcm]
      · have hbb := rd_end (k := 2 * n.toNat) (l := r) hn
        erw [e2]
        refine sel_t rfl ?_
        rcases hbb with q | q
        · exact sel_t q rfl
        · cases hbd : bd (rd (2 * n.toNat) (some r)) with
          | true => exact sel_t rfl rfl
          | false => exact sel_f rfl (sel_t (decide_eq_true (show (((lf (rd (2 * n.toNat) (some r))).length : Int) > 0) by omega)) rfl)
  · have e1 := b74no (k := 1) hw (by omega) (fun p hp => hb ⟨p, hp⟩)
    erw [e1]
    exact sel_f rfl (sel_t rfl (sel_t rfl rfl))
/-! ### the reference: numbers at places -/
def atv (b : List Int) (i w : Nat) : Int := vl w (rd i (some b))
theorem WOs {b : List Int} (hb : Wb b) (hl : b.length ≤ 1000000) : WO (some b) := fun l h => by cases h; exact ⟨hb, hl⟩
theorem atv_bd {b : List Int} (hb : Wb b) (hl : b.length ≤ 1000000) (i w : Nat) : 0 ≤ atv b i w ∧ atv b i w < 256 ^ w := vl_bd ((WOs hb hl).rd i) w
theorem at8 {b : List Int} (hb : Wb b) (hl : b.length ≤ 1000000) (i : Nat) : 0 ≤ atv b i 8 ∧ atv b i 8 < 18446744073709551616 := atv_bd hb hl i 8
theorem at4 {b : List Int} (hb : Wb b) (hl : b.length ≤ 1000000) (i : Nat) : 0 ≤ atv b i 4 ∧ atv b i 4 < 4294967296 := atv_bd hb hl i 4
theorem getD_vl {b : List Int} {i : Nat} (h : i < b.length) : b.getD i 0 = vl 1 (rd i (some b)) := by
  rw [rd_pos (by omega), drop_getD h, vl1]
theorem getD_wb {b : List Int} (hb : Wb b) (i : Nat) : 0 ≤ b.getD i 0 ∧ b.getD i 0 < 256 := by
  by_cases h : i < b.length
  · exact hb _ (by rw [List.getD_eq_getElem?_getD, List.getElem?_eq_getElem h]; exact List.getElem_mem h)
  · rw [List.getD_eq_getElem?_getD, List.getElem?_eq_none (by omega)]; exact ⟨by decide, by decide⟩
theorem rdadd {i j k : Nat} {b x : List Int} {y : Option (List Int)} (h : rd i (some b) = some x) (h2 : rd j (some x) = y) (hk : i + j = k) : rd k (some b) = y := by
  subst hk
  rw [← rd_rd, h, h2]
theorem seSelf (s : ByteArray) : strEq s s = true := by unfold strEq; exact decide_eq_true rfl
theorem seNo (s : ByteArray) : (!strEq s s) = false := by rw [seSelf]; rfl
theorem se_eq {a b : List Int} (ha : Wb a) (hb : Wb b) (h : strEq (strOf a) (strOf b) = true) : a = b := by
  unfold strEq at h
  have h1 := of_decide_eq_true h
  have h2 : bytesOf (strOf a) = bytesOf (strOf b) := by unfold bytesOf; rw [h1]
  rw [bytes_back ha, bytes_back hb] at h2
  exact h2
theorem chk_wb {l : List Int} (h : Wb l) : Wb (chk l) := h.app (be_wb _ _)
theorem bif_wb {c : Bool} {l : List Int} (h : Wb l) : Wb (bif c then l else []) := by
  cases c
  · exact Wb.nil
  · exact h
theorem rdh {b l : List Int} {x : Int} (h : b = x :: l) : rd 1 (some b) = some l := by rw [h]; exact rdx1 _ _
theorem chk_c {k : Int} {p : List Int} : ∃ C, chk (k :: p) = k :: (p ++ C) := ⟨_, rfl⟩
/-! ### outputs -/
theorem w32 {u : Int} (h : 0 ≤ u ∧ u < 4294967296) : IntKind.wrap .u32 u = u := by rw [wu32]; omega
theorem bq1 (a b : Int) : (!(a == a && (b == b && true))) = false := by simp
theorem bq2 (a : Int) : (a == a) = true := by simp
theorem Tc_self (x : Cmd) : (!(Prod.fst x == Prod.fst x && (Prod.snd x == Prod.snd x && true))) = false := bq1 (Prod.fst x) (Prod.snd x)
theorem t25 (c y q a b : Int) (l : List Cmd) (hl : l.length ≤ 100000) : op_25r [.n c, .n y, .n q, .n a, .n b, .l TC l, .n c, .n y, .n q, .n a, .n b, .l TC l] = some (0, [.b true]) := by
  have e : op_L25r_4 [.k 0, .n 0, .n c, .n y, .n q, .n a, .n b, .l TC l, .n c, .n y, .n q, .n a, .n b, .l TC l] = some (0, []) := by
    rw [op_L25r_4_eq]
    refine iterS_count (fun i => [.k 0, .n i, .n c, .n y, .n q, .n a, .n b, .l TC l, .n c, .n y, .n q, .n a, .n b, .l TC l]) (l.length : Int) (0, []) (fun i h0 h1 => ?_) ?_ FU 0 (by omega) (by omega) (by show ((l.length : Int) - 0).toNat < FU; unfold FU; omega)
    · have w3 : IntKind.wrap .i64 (i + 1) = i + 1 := w64s (by omega) (by omega)
      refine fn_L25r_4_t_im _ _ _ _ _ _ _ _ _ _ _ _ _ h0 rfl _ ?_
      unfold fn_L25r_4_t
      dsimp only
      refine sel_t (decide_eq_true h1) (sel_f (Tc_self _) ?_)
      rw [w3]
      rfl
    · refine fn_L25r_4_t_im _ _ _ _ _ _ _ _ _ _ _ _ _ (by omega) rfl _ ?_
      unfold fn_L25r_4_t
      dsimp only
      exact sel_f (decide_eq_false (show ¬ ((l.length : Int) < (l.length : Int)) by omega)) rfl
  rw [op_25r_eq]
  refine fn_25r_t_im _ _ _ _ _ _ _ _ _ _ _ _ _ ?_
  unfold fn_25r_t
  dsimp only
  refine sel_f (N_bne rfl) (sel_f (N_bne rfl) (sel_f (N_bne rfl) (sel_f (N_bne rfl) (sel_f (N_bne rfl) (sel_f (N_bne rfl) ?_)))))
  erw [e]
  rfl
theorem eqL_self : ∀ (l : List (Ty.den TB)), eqL TB l l = true
  | [] => rfl
  | a :: l => by
    show (((a : Int) == (a : Int)) && eqL TB l l) = true
    rw [eqL_self l, Bool.and_true]
    exact bq2 a
theorem hd_ne {k j : Int} {p q : List Int} (h : k ≠ j) : chk (k :: p) ≠ chk (j :: q) := by
  intro e
  have e' : k :: (p ++ bes (IntKind.wrap .u64 (N (Sm (k :: p)))) 4) = j :: (q ++ bes (IntKind.wrap .u64 (N (Sm (j :: q)))) 4) := e
  injection e' with e1
  exact h e1
theorem hdI (c y q a b : Int) (l : List Cmd) : ∃ p, chk (inL c y q a b l) = chk (1 :: p) := ⟨_, rfl⟩
theorem h0I (c y q a b : Int) (l : List Cmd) : (chk (inL c y q a b l)).getD 0 0 = 1 ∧ 0 < (chk (inL c y q a b l)).length := by
  obtain ⟨p, h⟩ := hdI c y q a b l
  rw [h]
  exact ⟨rfl, by rw [chk_len]; omega⟩
theorem hdO (c y e q u : Int) : ∃ p, chk (outB c y e q u) = chk (2 :: p) := ⟨_, rfl⟩
theorem h0O (c y e q u : Int) : (chk (outB c y e q u)).getD 0 0 = 2 ∧ 0 < (chk (outB c y e q u)).length := by
  obtain ⟨p, h⟩ := hdO c y e q u
  rw [h]
  exact ⟨rfl, by rw [chk_len]; omega⟩
theorem hdS (a b c : Int) (t : List Int) (u : Int) : ∃ p, chk ((3 :: stL a b c t u)) = chk (3 :: p) := ⟨_, rfl⟩
theorem h0S (a b c : Int) (t : List Int) (u : Int) : (chk ((3 :: stL a b c t u))).getD 0 0 = 3 ∧ 0 < (chk ((3 :: stL a b c t u))).length := by
  obtain ⟨p, h⟩ := hdS a b c t u
  rw [h]
  exact ⟨rfl, by rw [chk_len]; omega⟩
theorem hdG (e y a b c : Int) (t : List Int) (u : Int) : ∃ p, chk (logL e y a b c t u) = chk (4 :: p) := ⟨_, rfl⟩
theorem h0G (e y a b c : Int) (t : List Int) (u : Int) : (chk (logL e y a b c t u)).getD 0 0 = 4 ∧ 0 < (chk (logL e y a b c t u)).length := by
  obtain ⟨p, h⟩ := hdG e y a b c t u
  rw [h]
  exact ⟨rfl, by rw [chk_len]; omega⟩
theorem hdL (x y s k : Int) (l : List Int) : ∃ p, chk (liL x y s k l) = chk (5 :: p) := ⟨_, rfl⟩
theorem h0L (x y s k : Int) (l : List Int) : (chk (liL x y s k l)).getD 0 0 = 5 ∧ 0 < (chk (liL x y s k l)).length := by
  obtain ⟨p, h⟩ := hdL x y s k l
  rw [h]
  exact ⟨rfl, by rw [chk_len]; omega⟩
theorem nI {j : Int} {p : List Int} (h : j ≠ 1) : ∀ c y q a b l, OKI c y q a b l → chk (j :: p) ≠ chk (inL c y q a b l) := fun c y q a b l _ hq => by
  obtain ⟨p2, h2⟩ := hdI c y q a b l
  rw [h2] at hq
  exact hd_ne h hq
theorem nO {j : Int} {p : List Int} (h : j ≠ 2) : ∀ c y e q u, OKO c y e q u → chk (j :: p) ≠ chk (outB c y e q u) := fun c y e q u _ hq => by
  obtain ⟨p2, h2⟩ := hdO c y e q u
  rw [h2] at hq
  exact hd_ne h hq
theorem nS {j : Int} {p : List Int} (h : j ≠ 3) : ∀ a b c t u, OKS a b c t u → chk (j :: p) ≠ chk ((3 :: stL a b c t u)) := fun a b c t u _ hq => by
  obtain ⟨p2, h2⟩ := hdS a b c t u
  rw [h2] at hq
  exact hd_ne h hq
theorem nG {j : Int} {p : List Int} (h : j ≠ 4) : ∀ e y a b c t u, OKG e y a b c t u → chk (j :: p) ≠ chk (logL e y a b c t u) := fun e y a b c t u _ hq => by
  obtain ⟨p2, h2⟩ := hdG e y a b c t u
  rw [h2] at hq
  exact hd_ne h hq
theorem nL {j : Int} {p : List Int} (h : j ≠ 5) : ∀ x y s k l, OKL x y s k l → chk (j :: p) ≠ chk (liL x y s k l) := fun x y s k l _ hq => by
  obtain ⟨p2, h2⟩ := hdL x y s k l
  rw [h2] at hq
  exact hd_ne h hq
theorem six (b0 : List Int) {P : Prop} (fI : ∀ c y q a b l, OKI c y q a b l → b0 = chk (inL c y q a b l) → P) (fO : ∀ c y e q u, OKO c y e q u → b0 = chk (outB c y e q u) → P) (fS : ∀ a b c t u, OKS a b c t u → b0 = chk ((3 :: stL a b c t u)) → P) (fG : ∀ e y a b c t u, OKG e y a b c t u → b0 = chk (logL e y a b c t u) → P) (fL : ∀ x y s k l, OKL x y s k l → b0 = chk (liL x y s k l) → P) (f0 : (∀ c y q a b l, OKI c y q a b l → b0 ≠ chk (inL c y q a b l)) → (∀ c y e q u, OKO c y e q u → b0 ≠ chk (outB c y e q u)) → (∀ a b c t u, OKS a b c t u → b0 ≠ chk ((3 :: stL a b c t u))) → (∀ e y a b c t u, OKG e y a b c t u → b0 ≠ chk (logL e y a b c t u)) → (∀ x y s k l, OKL x y s k l → b0 ≠ chk (liL x y s k l)) → P) : P := by
  by_cases hI : ∃ c y q a b l, OKI c y q a b l ∧ b0 = chk (inL c y q a b l)
  · obtain ⟨c, y, q, a, b, l, h, e⟩ := hI
    exact fI _ _ _ _ _ _ h e
  by_cases hO : ∃ c y e q u, OKO c y e q u ∧ b0 = chk (outB c y e q u)
  · obtain ⟨c, y, e, q, u, h, e⟩ := hO
    exact fO _ _ _ _ _ h e
  by_cases hS : ∃ a b c t u, OKS a b c t u ∧ b0 = chk ((3 :: stL a b c t u))
  · obtain ⟨a, b, c, t, u, h, e⟩ := hS
    exact fS _ _ _ _ _ h e
  by_cases hG : ∃ e y a b c t u, OKG e y a b c t u ∧ b0 = chk (logL e y a b c t u)
  · obtain ⟨e, y, a, b, c, t, u, h, e⟩ := hG
    exact fG _ _ _ _ _ _ _ h e
  by_cases hL : ∃ x y s k l, OKL x y s k l ∧ b0 = chk (liL x y s k l)
  · obtain ⟨x, y, s, k, l, h, e⟩ := hL
    exact fL _ _ _ _ _ h e
  exact f0 (fun z0 z1 z2 z3 z4 z5 h e => hI ⟨z0, z1, z2, z3, z4, z5, h, e⟩) (fun z0 z1 z2 z3 z4 h e => hO ⟨z0, z1, z2, z3, z4, h, e⟩) (fun z0 z1 z2 z3 z4 h e => hS ⟨z0, z1, z2, z3, z4, h, e⟩) (fun z0 z1 z2 z3 z4 z5 z6 h e => hG ⟨z0, z1, z2, z3, z4, z5, z6, h, e⟩) (fun z0 z1 z2 z3 z4 h e => hL ⟨z0, z1, z2, z3, z4, h, e⟩)
theorem k35I {c y q a b : Int} {l : List Cmd} (h : OKI c y q a b l) : op_35r [.l TB (chk (inL c y q a b l))] = some (0, [.n 1]) := by
  have e23r := GI h
  rw [op_35r_eq]
  refine fn_35r_t_im _ _ ?_
  unfold fn_35r_t
  dsimp only
  have h0 := h0I c y q a b l
  refine sel_f (by show (((chk (inL c y q a b l)).length : Int) == (0 : Int)) = false; exact beq_eq_false_iff_ne.2 (by omega)) ?_
  refine sel_t (by show (((chk (inL c y q a b l)).getD 0 0 : Int) == (1 : Int)) = true; rw [h0.1]; rfl) ?_
  erw [e23r]
  refine sel_t rfl (sel_f rfl ?_)
  exact congrArg (fun z : Int => some (0, [Dat.n z])) h0.1
theorem k35O {c y e q u : Int} (h : OKO c y e q u) : op_35r [.l TB (chk (outB c y e q u))] = some (0, [.n 2]) := by
  have e26r := G26 h
  rw [op_35r_eq]
  refine fn_35r_t_im _ _ ?_
  unfold fn_35r_t
  dsimp only
  have h0 := h0O c y e q u
  refine sel_f (by show (((chk (outB c y e q u)).length : Int) == (0 : Int)) = false; exact beq_eq_false_iff_ne.2 (by omega)) ?_
  refine sel_f (by show (((chk (outB c y e q u)).getD 0 0 : Int) == (1 : Int)) = false; rw [h0.1]; rfl) ?_
  refine sel_t (by show (((chk (outB c y e q u)).getD 0 0 : Int) == (2 : Int)) = true; rw [h0.1]; rfl) ?_
  erw [e26r]
  refine sel_t rfl (sel_f rfl ?_)
  exact congrArg (fun z : Int => some (0, [Dat.n z])) h0.1
theorem k35S {a b c : Int} {t : List Int} {u : Int} (h : OKS a b c t u) : op_35r [.l TB (chk ((3 :: stL a b c t u)))] = some (0, [.n 3]) := by
  have e28r := G28 h
  rw [op_35r_eq]
  refine fn_35r_t_im _ _ ?_
  unfold fn_35r_t
  dsimp only
  have h0 := h0S a b c t u
  refine sel_f (by show (((chk ((3 :: stL a b c t u))).length : Int) == (0 : Int)) = false; exact beq_eq_false_iff_ne.2 (by omega)) ?_
  refine sel_f (by show (((chk ((3 :: stL a b c t u))).getD 0 0 : Int) == (1 : Int)) = false; rw [h0.1]; rfl) ?_
  refine sel_f (by show (((chk ((3 :: stL a b c t u))).getD 0 0 : Int) == (2 : Int)) = false; rw [h0.1]; rfl) ?_
  refine sel_t (by show (((chk ((3 :: stL a b c t u))).getD 0 0 : Int) == (3 : Int)) = true; rw [h0.1]; rfl) ?_
  erw [e28r]
  refine sel_t rfl (sel_f rfl ?_)
  exact congrArg (fun z : Int => some (0, [Dat.n z])) h0.1
theorem k35G {e y a b c : Int} {t : List Int} {u : Int} (h : OKG e y a b c t u) : op_35r [.l TB (chk (logL e y a b c t u))] = some (0, [.n 4]) := by
  have e30r := G30 h
  rw [op_35r_eq]
  refine fn_35r_t_im _ _ ?_
  unfold fn_35r_t
  dsimp only
  have h0 := h0G e y a b c t u
  refine sel_f (by show (((chk (logL e y a b c t u)).length : Int) == (0 : Int)) = false; exact beq_eq_false_iff_ne.2 (by omega)) ?_
  refine sel_f (by show (((chk (logL e y a b c t u)).getD 0 0 : Int) == (1 : Int)) = false; rw [h0.1]; rfl) ?_
  refine sel_f (by show (((chk (logL e y a b c t u)).getD 0 0 : Int) == (2 : Int)) = false; rw [h0.1]; rfl) ?_
  refine sel_f (by show (((chk (logL e y a b c t u)).getD 0 0 : Int) == (3 : Int)) = false; rw [h0.1]; rfl) ?_
  refine sel_t (by show (((chk (logL e y a b c t u)).getD 0 0 : Int) == (4 : Int)) = true; rw [h0.1]; rfl) ?_
  erw [e30r]
  refine sel_t rfl (sel_f rfl ?_)
  exact congrArg (fun z : Int => some (0, [Dat.n z])) h0.1
theorem k35L {x y s k : Int} {l : List Int} (h : OKL x y s k l) : op_35r [.l TB (chk (liL x y s k l))] = some (0, [.n 5]) := by
  have e32r := GL h
  rw [op_35r_eq]
  refine fn_35r_t_im _ _ ?_
  unfold fn_35r_t
  dsimp only
  have h0 := h0L x y s k l
  refine sel_f (by show (((chk (liL x y s k l)).length : Int) == (0 : Int)) = false; exact beq_eq_false_iff_ne.2 (by omega)) ?_
  refine sel_f (by show (((chk (liL x y s k l)).getD 0 0 : Int) == (1 : Int)) = false; rw [h0.1]; rfl) ?_
  refine sel_f (by show (((chk (liL x y s k l)).getD 0 0 : Int) == (2 : Int)) = false; rw [h0.1]; rfl) ?_
  refine sel_f (by show (((chk (liL x y s k l)).getD 0 0 : Int) == (3 : Int)) = false; rw [h0.1]; rfl) ?_
  refine sel_f (by show (((chk (liL x y s k l)).getD 0 0 : Int) == (4 : Int)) = false; rw [h0.1]; rfl) ?_
  refine sel_t (by show (((chk (liL x y s k l)).getD 0 0 : Int) == (5 : Int)) = true; rw [h0.1]; rfl) ?_
  erw [e32r]
  refine sel_t rfl (sel_f rfl ?_)
  exact congrArg (fun z : Int => some (0, [Dat.n z])) h0.1
theorem k350 {b0 : List Int} (hw : Wb b0) (hl : b0.length ≤ 100000) (mI : ∀ c y q a b l, OKI c y q a b l → b0 ≠ chk (inL c y q a b l)) (mO : ∀ c y e q u, OKO c y e q u → b0 ≠ chk (outB c y e q u)) (mS : ∀ a b c t u, OKS a b c t u → b0 ≠ chk ((3 :: stL a b c t u))) (mG : ∀ e y a b c t u, OKG e y a b c t u → b0 ≠ chk (logL e y a b c t u)) (mL : ∀ x y s k l, OKL x y s k l → b0 ≠ chk (liL x y s k l)) : op_35r [.l TB b0] = some (0, [.n 0]) := by
  have e23r := FI hw hl mI
  have e26r := F26 hw hl mO
  have e28r := F28 hw hl mS
  have e30r := F30 hw hl mG
  have e32r := FL hw hl mL
  rw [op_35r_eq]
  refine fn_35r_t_im _ _ ?_
  unfold fn_35r_t
  dsimp only
  by_cases hz : b0.length = 0
  · exact sel_t (by show ((b0.length : Int) == (0 : Int)) = true; rw [hz]; rfl) rfl
  · refine sel_f (by show ((b0.length : Int) == (0 : Int)) = false; simp; intro q; rw [q] at hz; exact hz rfl) ?_
    by_cases q1 : b0.getD 0 0 = 1
    · refine sel_t (by show ((b0.getD 0 0 : Int) == (1 : Int)) = true; rw [q1]; rfl) ?_
      erw [e23r]
      rfl
    refine sel_f (by show ((b0.getD 0 0 : Int) == (1 : Int)) = false; exact beq_eq_false_iff_ne.2 q1) ?_
    by_cases q2 : b0.getD 0 0 = 2
    · refine sel_t (by show ((b0.getD 0 0 : Int) == (2 : Int)) = true; rw [q2]; rfl) ?_
      erw [e26r]
      rfl
    refine sel_f (by show ((b0.getD 0 0 : Int) == (2 : Int)) = false; exact beq_eq_false_iff_ne.2 q2) ?_
    by_cases q3 : b0.getD 0 0 = 3
    · refine sel_t (by show ((b0.getD 0 0 : Int) == (3 : Int)) = true; rw [q3]; rfl) ?_
      erw [e28r]
      rfl
    refine sel_f (by show ((b0.getD 0 0 : Int) == (3 : Int)) = false; exact beq_eq_false_iff_ne.2 q3) ?_
    by_cases q4 : b0.getD 0 0 = 4
    · refine sel_t (by show ((b0.getD 0 0 : Int) == (4 : Int)) = true; rw [q4]; rfl) ?_
      erw [e30r]
      rfl
    refine sel_f (by show ((b0.getD 0 0 : Int) == (4 : Int)) = false; exact beq_eq_false_iff_ne.2 q4) ?_
    by_cases q5 : b0.getD 0 0 = 5
    · refine sel_t (by show ((b0.getD 0 0 : Int) == (5 : Int)) = true; rw [q5]; rfl) ?_
      erw [e32r]
      rfl
    refine sel_f (by show ((b0.getD 0 0 : Int) == (5 : Int)) = false; exact beq_eq_false_iff_ne.2 q5) ?_
    rfl
theorem t37_0 {b0 : List Int} (hw : Wb b0) (hl : b0.length ≤ 100000) (mI : ∀ c y q a b l, OKI c y q a b l → b0 ≠ chk (inL c y q a b l)) (mO : ∀ c y e q u, OKO c y e q u → b0 ≠ chk (outB c y e q u)) (mS : ∀ a b c t u, OKS a b c t u → b0 ≠ chk ((3 :: stL a b c t u))) (mG : ∀ e y a b c t u, OKG e y a b c t u → b0 ≠ chk (logL e y a b c t u)) (mL : ∀ x y s k l, OKL x y s k l → b0 ≠ chk (liL x y s k l)) : op_37r [.l TB b0] = some (0, [.b true]) := by
  have e23r := FI hw hl mI
  have e26r := F26 hw hl mO
  have e28r := F28 hw hl mS
  have e30r := F30 hw hl mG
  have e32r := FL hw hl mL
  have e35r := k350 hw hl mI mO mS mG mL
  rw [op_37r_eq]
  refine fn_37r_t_im _ _ ?_
  unfold fn_37r_t
  dsimp only
  erw [e23r, e26r, e28r, e30r, e32r, e35r]
  rfl
theorem t37I {c y q a b : Int} {l : List Cmd} (h : OKI c y q a b l) (hw : Wb (chk (inL c y q a b l))) (hl : (chk (inL c y q a b l)).length ≤ 100000) : op_37r [.l TB (chk (inL c y q a b l))] = some (0, [.b true]) := by
  obtain ⟨p0, h1⟩ := hdI c y q a b l
  have e23r := GI h
  have e26r := F26 hw hl (by rw [h1]; exact nO (by decide))
  have e28r := F28 hw hl (by rw [h1]; exact nS (by decide))
  have e30r := F30 hw hl (by rw [h1]; exact nG (by decide))
  have e32r := FL hw hl (by rw [h1]; exact nL (by decide))
  have e35r := k35I h
  obtain ⟨hc, hq, ha, hb, hm⟩ := h
  have hm' := hm
  rw [Bool.and_eq_true, Bool.and_eq_true] at hm'
  have hn : l.length ≤ 1000 := by have := of_decide_eq_true hm'.2.2; omega
  have ep := p9 c y q a b l hc.1 hc.2 hn
  rw [hm] at ep
  rw [op_37r_eq]
  refine fn_37r_t_im _ _ ?_
  unfold fn_37r_t
  dsimp only
  erw [e23r, e26r, e28r, e30r, e32r, e35r, ep]
  have hs := seSelf (strOf (chk (inL c y q a b l)))
  show some (0, [Dat.b (strEq (strOf (chk (inL c y q a b l))) (strOf (chk (inL c y q a b l))))]) = _
  rw [hs]
theorem t37O {c y e q u : Int} (h : OKO c y e q u) (hw : Wb (chk (outB c y e q u))) (hl : (chk (outB c y e q u)).length ≤ 100000) : op_37r [.l TB (chk (outB c y e q u))] = some (0, [.b true]) := by
  obtain ⟨p0, h1⟩ := hdO c y e q u
  have e23r := FI hw hl (by rw [h1]; exact nI (by decide))
  have e26r := G26 h
  have e28r := F28 hw hl (by rw [h1]; exact nS (by decide))
  have e30r := F30 hw hl (by rw [h1]; exact nG (by decide))
  have e32r := FL hw hl (by rw [h1]; exact nL (by decide))
  have e35r := k35O h
  obtain ⟨hc, hq, hu, hm⟩ := h
  have ep := p10 c y e q u hc.1 hc.2
  rw [hm] at ep
  rw [op_37r_eq]
  refine fn_37r_t_im _ _ ?_
  unfold fn_37r_t
  dsimp only
  erw [e23r, e26r, e28r, e30r, e32r, e35r, ep]
  have hs := seSelf (strOf (chk (outB c y e q u)))
  show some (0, [Dat.b (strEq (strOf (chk (outB c y e q u))) (strOf (chk (outB c y e q u))))]) = _
  rw [hs]
theorem t37S {a b c : Int} {t : List Int} {u : Int} (h : OKS a b c t u) (hw : Wb (chk ((3 :: stL a b c t u)))) (hl : (chk ((3 :: stL a b c t u))).length ≤ 100000) : op_37r [.l TB (chk ((3 :: stL a b c t u)))] = some (0, [.b true]) := by
  obtain ⟨p0, h1⟩ := hdS a b c t u
  have e23r := FI hw hl (by rw [h1]; exact nI (by decide))
  have e26r := F26 hw hl (by rw [h1]; exact nO (by decide))
  have e28r := G28 h
  have e30r := F30 hw hl (by rw [h1]; exact nG (by decide))
  have e32r := FL hw hl (by rw [h1]; exact nL (by decide))
  have e35r := k35S h
  obtain ⟨ha, hb, hc, ht, hu⟩ := h
  have ep := p11 a b c t u ht.2
  rw [op_37r_eq]
  refine fn_37r_t_im _ _ ?_
  unfold fn_37r_t
  dsimp only
  erw [e23r, e26r, e28r, e30r, e32r, e35r, ep]
  have hs := seSelf (strOf (chk ((3 :: stL a b c t u))))
  show some (0, [Dat.b (strEq (strOf (chk ((3 :: stL a b c t u)))) (strOf (chk ((3 :: stL a b c t u)))))]) = _
  rw [hs]
theorem t37G {e y a b c : Int} {t : List Int} {u : Int} (h : OKG e y a b c t u) (hw : Wb (chk (logL e y a b c t u))) (hl : (chk (logL e y a b c t u)).length ≤ 100000) : op_37r [.l TB (chk (logL e y a b c t u))] = some (0, [.b true]) := by
  obtain ⟨p0, h1⟩ := hdG e y a b c t u
  have e23r := FI hw hl (by rw [h1]; exact nI (by decide))
  have e26r := F26 hw hl (by rw [h1]; exact nO (by decide))
  have e28r := F28 hw hl (by rw [h1]; exact nS (by decide))
  have e30r := G30 h
  have e32r := FL hw hl (by rw [h1]; exact nL (by decide))
  have e35r := k35G h
  obtain ⟨ha, hb, hc, ht, hu, hm⟩ := h
  have ep := p12 e y a b c t u ht.2
  rw [hm] at ep
  rw [op_37r_eq]
  refine fn_37r_t_im _ _ ?_
  unfold fn_37r_t
  dsimp only
  erw [e23r, e26r, e28r, e30r, e32r, e35r, ep]
  have hs := seSelf (strOf (chk (logL e y a b c t u)))
  show some (0, [Dat.b (strEq (strOf (chk (logL e y a b c t u))) (strOf (chk (logL e y a b c t u))))]) = _
  rw [hs]
theorem t37L {x y s k : Int} {l : List Int} (h : OKL x y s k l) (hw : Wb (chk (liL x y s k l))) (hl : (chk (liL x y s k l)).length ≤ 100000) : op_37r [.l TB (chk (liL x y s k l))] = some (0, [.b true]) := by
  obtain ⟨p0, h1⟩ := hdL x y s k l
  have e23r := FI hw hl (by rw [h1]; exact nI (by decide))
  have e26r := F26 hw hl (by rw [h1]; exact nO (by decide))
  have e28r := F28 hw hl (by rw [h1]; exact nS (by decide))
  have e30r := F30 hw hl (by rw [h1]; exact nG (by decide))
  have e32r := GL h
  have e35r := k35L h
  obtain ⟨hx, hy, hm, hwl⟩ := h
  have ep := p13 x y s k l hx hy
  rw [hm] at ep
  rw [op_37r_eq]
  refine fn_37r_t_im _ _ ?_
  unfold fn_37r_t
  dsimp only
  erw [e23r, e26r, e28r, e30r, e32r, e35r, ep]
  have hs := seSelf (strOf (chk (liL x y s k l)))
  show some (0, [Dat.b (strEq (strOf (chk (liL x y s k l))) (strOf (chk (liL x y s k l))))]) = _
  rw [hs]
theorem t37 {b0 : List Int} (hw : Wb b0) (hl : b0.length ≤ 100000) : op_37r [.l TB b0] = some (0, [.b true]) := by
  refine six b0 ?_ ?_ ?_ ?_ ?_ ?_
  · rintro c y q a b l h rfl
    exact t37I h hw hl
  · rintro c y e q u h rfl
    exact t37O h hw hl
  · rintro a b c t u h rfl
    exact t37S h hw hl
  · rintro e y a b c t u h rfl
    exact t37G h hw hl
  · rintro x y s k l h rfl
    exact t37L h hw hl
  · intro a1 a2 a3 a4 a5
    exact t37_0 hw hl a1 a2 a3 a4 a5
theorem nil_ne {l : List Int} : [] ≠ chk l := by intro h; have := congrArg List.length h; rw [chk_len] at this; simp at this
theorem okI {c y q a b : Int} {l : List Cmd} (h : OKI c y q a b l) (hn : l.length ≤ 1000) : ∃ L : List Int, op_9p [.n c, .n y, .n q, .n a, .n b, .l TC l] = some (0, [.l TB L]) ∧ 0 < L.length ∧ op_23r [.l TB L] = some (0, [.n c, .n y, .n q, .n a, .n b, .n 0, .l TC l]) ∧ op_25r [.n c, .n y, .n q, .n a, .n b, .l TC l, .n c, .n y, .n q, .n a, .n b, .l TC l] = some (0, [.b true]) ∧ op_35r [.l TB L] = some (0, [.n 1]) := by
  have e1 := GI h
  have e2 := k35I h
  obtain ⟨hc, hq, ha, hb, hm⟩ := h
  have ep := p9 c y q a b l hc.1 hc.2 hn
  rw [hm] at ep
  exact ⟨chk (inL c y q a b l), ep, by rw [chk_len]; omega, e1, t25 c y q a b l (by omega), e2⟩
theorem noI {c y q a b : Int} {l : List Cmd} (hc : 0 ≤ c ∧ c < 256) (hm : (l.all cmdOk && (win 1099511627776 [y] && decide ((l.length : Int) ≤ 8))) = false) (hn : l.length ≤ 1000) : op_9p [.n c, .n y, .n q, .n a, .n b, .l TC l] = some (0, [.l TB ([] : List Int)]) ∧ op_23r [.l TB ([] : List Int)] = some (1, [.n 0, .n 0, .n 0, .n 0, .n 0, .n 130]) := by
  have ep := p9 c y q a b l hc.1 hc.2 hn
  rw [hm] at ep
  exact ⟨ep, FI Wb.nil (by simp) (fun _ _ _ _ _ _ _ => nil_ne)⟩
theorem okO {c y e q u : Int} (h : OKO c y e q u) : ∃ L : List Int, op_10p [.n c, .n y, .n e, .n q, .n u] = some (0, [.l TB L]) ∧ 0 < L.length ∧ op_26r [.l TB L] = some (0, [.n c, .n y, .n e, .n q, .n u, .n 0]) ∧ op_35r [.l TB L] = some (0, [.n 2]) := by
  have e1 := G26 h
  have e2 := k35O h
  obtain ⟨hc, hq, hu, hm⟩ := h
  have ep := p10 c y e q u hc.1 hc.2
  rw [hm] at ep
  exact ⟨chk (outB c y e q u), ep, by rw [chk_len]; omega, e1, e2⟩
theorem noO {c y e q u : Int} (hc : 0 ≤ c ∧ c < 256) (hm : win 1099511627776 [y, e] = false) : op_10p [.n c, .n y, .n e, .n q, .n u] = some (0, [.l TB ([] : List Int)]) ∧ op_26r [.l TB ([] : List Int)] = some (0, [.n 0, .n 0, .n 0, .n 0, .n 0, .n 130]) := by
  have ep := p10 c y e q u hc.1 hc.2
  rw [hm] at ep
  exact ⟨ep, F26 Wb.nil (by simp) (fun _ _ _ _ _ _ => nil_ne)⟩
theorem okS {a b c : Int} {t : List Int} {u : Int} (h : OKS a b c t u) : ∃ L : List Int, op_11p [.n a, .n b, .n c, .l TB t, .n u] = some (0, [.l TB L]) ∧ 0 < L.length ∧ op_28r [.l TB L] = some (0, [.n a, .n b, .n c, .l TB t, .n u, .n 0]) ∧ op_35r [.l TB L] = some (0, [.n 3]) := by
  have e1 := G28 h
  have e2 := k35S h
  obtain ⟨ha, hb, hc, ht, hu⟩ := h
  exact ⟨_, p11 a b c t u ht.2, by rw [chk_len]; omega, e1, e2⟩
theorem okG {e y a b c : Int} {t : List Int} {u : Int} (h : OKG e y a b c t u) : ∃ L : List Int, op_12p [.n e, .n y, .n a, .n b, .n c, .l TB t, .n u] = some (0, [.l TB L]) ∧ 0 < L.length ∧ op_30r [.l TB L] = some (0, [.n e, .n y, .n a, .n b, .n c, .l TB t, .n u, .n 0]) ∧ op_35r [.l TB L] = some (0, [.n 4]) := by
  have e1 := G30 h
  have e2 := k35G h
  obtain ⟨ha, hb, hc, ht, hu, hm⟩ := h
  have ep := p12 e y a b c t u ht.2
  rw [hm] at ep
  exact ⟨chk (logL e y a b c t u), ep, by rw [chk_len]; omega, e1, e2⟩
theorem noG {e y a b c : Int} {t : List Int} {u : Int} (ht : t.length = 64) (hm : win 1099511627776 [e, y] = false) : op_12p [.n e, .n y, .n a, .n b, .n c, .l TB t, .n u] = some (0, [.l TB ([] : List Int)]) ∧ op_30r [.l TB ([] : List Int)] = some (0, [.n 0, .n 0, .n 0, .n 0, .n 0, .l TB (List.replicate 64 (0 : Int)), .n 0, .n 130]) := by
  have ep := p12 e y a b c t u ht
  rw [hm] at ep
  exact ⟨ep, F30 Wb.nil (by simp) (fun _ _ _ _ _ _ _ _ => nil_ne)⟩
theorem okL {x y s k : Int} {l : List Int} (h : OKL x y s k l) : ∃ L : List Int, op_13p [.n x, .n y, .n s, .n k, .l TB l] = some (0, [.l TB L]) ∧ 0 < L.length ∧ op_32r [.l TB L] = some (0, [.n x, .n y, .n s, .n k, .n 0, .l TB l]) ∧ op_35r [.l TB L] = some (0, [.n 5]) := by
  have e1 := GL h
  have e2 := k35L h
  obtain ⟨hx, hy, hm, hwl⟩ := h
  have ep := p13 x y s k l hx hy
  rw [hm] at ep
  exact ⟨chk (liL x y s k l), ep, by rw [chk_len]; omega, e1, e2⟩
theorem noL {x y s k : Int} {l : List Int} (hx : 0 ≤ x ∧ x < 256) (hy : 0 ≤ y ∧ y < 256) (hm : (win 4611686018427387904 [s, k] && decide ((l.length : Int) ≤ 2048)) = false) : op_13p [.n x, .n y, .n s, .n k, .l TB l] = some (0, [.l TB ([] : List Int)]) ∧ op_32r [.l TB ([] : List Int)] = some (1, [.n 0, .n 0, .n 0, .n 0, .n 130]) := by
  have ep := p13 x y s k l hx hy
  rw [hm] at ep
  exact ⟨ep, FL Wb.nil (by simp) (fun _ _ _ _ _ _ => nil_ne)⟩
theorem t5 (v0 : Int) (v1 : Int) (v2 : Int) (v3 : Int) (v4 : Int) (v5 : List Cmd) (v6 : Int) (v7 : Int) (v8 : Int) (v9 : Int) (v10 : Int) (v11 : Int) (v12 : Int) (v13 : Int) (v14 : List Int) (v15 : Int) (v16 : Int) (v17 : Int) (v18 : Int) (v19 : Int) (v20 : Int) (v21 : List Int) (v22 : Int) (v23 : Int) (v24 : Int) (v25 : Int) (v26 : Int) (v27 : List Int) (w : List Int) (g0 : 0 ≤ v0 ∧ v0 < 256) (g6 : 0 ≤ v6 ∧ v6 < 256) (g23 : 0 ≤ v23 ∧ v23 < 256) (g24 : 0 ≤ v24 ∧ v24 < 256) (g2 : 0 ≤ v2 ∧ v2 < 18446744073709551616) (g9 : 0 ≤ v9 ∧ v9 < 18446744073709551616) (g11 : 0 ≤ v11 ∧ v11 < 18446744073709551616) (g12 : 0 ≤ v12 ∧ v12 < 18446744073709551616) (g13 : 0 ≤ v13 ∧ v13 < 18446744073709551616) (g18 : 0 ≤ v18 ∧ v18 < 18446744073709551616) (g19 : 0 ≤ v19 ∧ v19 < 18446744073709551616) (g20 : 0 ≤ v20 ∧ v20 < 18446744073709551616) (g3 : 0 ≤ v3 ∧ v3 < 4294967296) (g4 : 0 ≤ v4 ∧ v4 < 4294967296) (g10 : 0 ≤ v10 ∧ v10 < 4294967296) (g15 : 0 ≤ v15 ∧ v15 < 4294967296) (g22 : 0 ≤ v22 ∧ v22 < 4294967296) (t14 : Wb v14 ∧ v14.length = 64) (t21 : Wb v21 ∧ v21.length = 64) (w27 : Wb v27) (ww : Wb w) : (ev_W5 [.n v0, .n v1, .n v2, .n v3, .n v4, .l TC v5, .n v6, .n v7, .n v8, .n v9, .n v10, .n v11, .n v12, .n v13, .l TB v14, .n v15, .n v16, .n v17, .n v18, .n v19, .n v20, .l TB v21, .n v22, .n v23, .n v24, .n v25, .n v26, .l TB v27, .l TB w]).sel = some true := by
  by_cases n5 : (v5.length : Int) ≤ 1000
  · by_cases n27 : (v27.length : Int) ≤ 5000
    · by_cases nw : (w.length : Int) ≤ 3000
      · have ew := t37 ww (by omega)
        obtain ⟨L3, s1, s2, s3, s4⟩ := okS (a := v11) (b := v12) (c := v13) (t := v14) (u := v15) ⟨g11, g12, g13, t14, g15⟩
        cases hi : (v5.all cmdOk && (win 1099511627776 [v1] && decide ((v5.length : Int) ≤ 8))) with
        | true =>
          obtain ⟨L1, i1, i2, i3, i4, i5⟩ := okI (c := v0) (y := v1) (q := v2) (a := v3) (b := v4) (l := v5) ⟨g0, g2, g3, g4, hi⟩ (by omega)
          cases ho : (win 1099511627776 [v7, v8]) with
          | true =>
            obtain ⟨L2, o1, o2, o3, o4⟩ := okO (c := v6) (y := v7) (e := v8) (q := v9) (u := v10) ⟨g6, g9, g10, ho⟩
            cases hg : (win 1099511627776 [v16, v17]) with
            | true =>
              obtain ⟨L4, r1, r2, r3, r4⟩ := okG (e := v16) (y := v17) (a := v18) (b := v19) (c := v20) (t := v21) (u := v22) ⟨g18, g19, g20, t21, g22, hg⟩
              cases hl : (win 4611686018427387904 [v25, v26] && decide ((v27.length : Int) ≤ 2048)) with
              | true =>
                obtain ⟨L5, l1, l2, l3, l4⟩ := okL (x := v23) (y := v24) (s := v25) (k := v26) (l := v27) ⟨g23, g24, hl, w27⟩
                exact fn_W5_hiogl_im v0 v1 v2 v3 v4 v5 v6 v7 v8 v9 v10 v11 v12 v13 v14 v15 v16 v17 v18 v19 v20 v21 v22 v23 v24 v25 v26 v27 w L1 L2 L3 L4 L5 n5 n27 nw (eqL_self _) (eqL_self _) i1 i2 i3 i4 i5 o1 o2 o3 o4 s1 s2 s3 s4 r1 r2 r3 r4 l1 l2 (seSelf _) l3 l4 ew t14.2 t21.2 true rfl
              | false =>
                obtain ⟨l1, l3⟩ := noL (x := v23) (y := v24) (s := v25) (k := v26) (l := v27) g23 g24 hl
                exact fn_W5_hiog_im v0 v1 v2 v3 v4 v5 v6 v7 v8 v9 v10 v11 v12 v13 v14 v15 v16 v17 v18 v19 v20 v21 v22 v23 v24 v25 v26 v27 w L1 L2 L3 L4 n5 n27 nw (eqL_self _) (eqL_self _) i1 i2 i3 i4 i5 o1 o2 o3 o4 s1 s2 s3 s4 r1 r2 r3 r4 l1 l3 ew t14.2 t21.2 true rfl
            | false =>
              obtain ⟨r1, r3⟩ := noG (e := v16) (y := v17) (a := v18) (b := v19) (c := v20) (t := v21) (u := v22) t21.2 hg
              cases hl : (win 4611686018427387904 [v25, v26] && decide ((v27.length : Int) ≤ 2048)) with
              | true =>
                obtain ⟨L5, l1, l2, l3, l4⟩ := okL (x := v23) (y := v24) (s := v25) (k := v26) (l := v27) ⟨g23, g24, hl, w27⟩
                exact fn_W5_hiol_im v0 v1 v2 v3 v4 v5 v6 v7 v8 v9 v10 v11 v12 v13 v14 v15 v16 v17 v18 v19 v20 v21 v22 v23 v24 v25 v26 v27 w L1 L2 L3 (List.replicate 64 (0 : Int)) L5 n5 n27 nw (eqL_self _) (eqL_self _) i1 i2 i3 i4 i5 o1 o2 o3 o4 s1 s2 s3 s4 r1 r3 l1 l2 (seSelf _) l3 l4 ew t14.2 t21.2 true rfl
              | false =>
                obtain ⟨l1, l3⟩ := noL (x := v23) (y := v24) (s := v25) (k := v26) (l := v27) g23 g24 hl
                exact fn_W5_hio_im v0 v1 v2 v3 v4 v5 v6 v7 v8 v9 v10 v11 v12 v13 v14 v15 v16 v17 v18 v19 v20 v21 v22 v23 v24 v25 v26 v27 w L1 L2 L3 (List.replicate 64 (0 : Int)) n5 n27 nw (eqL_self _) (eqL_self _) i1 i2 i3 i4 i5 o1 o2 o3 o4 s1 s2 s3 s4 r1 r3 l1 l3 ew t14.2 t21.2 true rfl
          | false =>
            obtain ⟨o1, o3⟩ := noO (c := v6) (y := v7) (e := v8) (q := v9) (u := v10) g6 ho
            cases hg : (win 1099511627776 [v16, v17]) with
            | true =>
              obtain ⟨L4, r1, r2, r3, r4⟩ := okG (e := v16) (y := v17) (a := v18) (b := v19) (c := v20) (t := v21) (u := v22) ⟨g18, g19, g20, t21, g22, hg⟩
              cases hl : (win 4611686018427387904 [v25, v26] && decide ((v27.length : Int) ≤ 2048)) with
              | true =>
                obtain ⟨L5, l1, l2, l3, l4⟩ := okL (x := v23) (y := v24) (s := v25) (k := v26) (l := v27) ⟨g23, g24, hl, w27⟩
                exact fn_W5_higl_im v0 v1 v2 v3 v4 v5 v6 v7 v8 v9 v10 v11 v12 v13 v14 v15 v16 v17 v18 v19 v20 v21 v22 v23 v24 v25 v26 v27 w L1 L3 L4 L5 n5 n27 nw (eqL_self _) (eqL_self _) i1 i2 i3 i4 i5 o1 o3 s1 s2 s3 s4 r1 r2 r3 r4 l1 l2 (seSelf _) l3 l4 ew t14.2 t21.2 true rfl
              | false =>
                obtain ⟨l1, l3⟩ := noL (x := v23) (y := v24) (s := v25) (k := v26) (l := v27) g23 g24 hl
                exact fn_W5_hig_im v0 v1 v2 v3 v4 v5 v6 v7 v8 v9 v10 v11 v12 v13 v14 v15 v16 v17 v18 v19 v20 v21 v22 v23 v24 v25 v26 v27 w L1 L3 L4 n5 n27 nw (eqL_self _) (eqL_self _) i1 i2 i3 i4 i5 o1 o3 s1 s2 s3 s4 r1 r2 r3 r4 l1 l3 ew t14.2 t21.2 true rfl
            | false =>
              obtain ⟨r1, r3⟩ := noG (e := v16) (y := v17) (a := v18) (b := v19) (c := v20) (t := v21) (u := v22) t21.2 hg
              cases hl : (win 4611686018427387904 [v25, v26] && decide ((v27.length : Int) ≤ 2048)) with
              | true =>
                obtain ⟨L5, l1, l2, l3, l4⟩ := okL (x := v23) (y := v24) (s := v25) (k := v26) (l := v27) ⟨g23, g24, hl, w27⟩
                exact fn_W5_hil_im v0 v1 v2 v3 v4 v5 v6 v7 v8 v9 v10 v11 v12 v13 v14 v15 v16 v17 v18 v19 v20 v21 v22 v23 v24 v25 v26 v27 w L1 L3 (List.replicate 64 (0 : Int)) L5 n5 n27 nw (eqL_self _) (eqL_self _) i1 i2 i3 i4 i5 o1 o3 s1 s2 s3 s4 r1 r3 l1 l2 (seSelf _) l3 l4 ew t14.2 t21.2 true rfl
              | false =>
                obtain ⟨l1, l3⟩ := noL (x := v23) (y := v24) (s := v25) (k := v26) (l := v27) g23 g24 hl
                exact fn_W5_hi_im v0 v1 v2 v3 v4 v5 v6 v7 v8 v9 v10 v11 v12 v13 v14 v15 v16 v17 v18 v19 v20 v21 v22 v23 v24 v25 v26 v27 w L1 L3 (List.replicate 64 (0 : Int)) n5 n27 nw (eqL_self _) (eqL_self _) i1 i2 i3 i4 i5 o1 o3 s1 s2 s3 s4 r1 r3 l1 l3 ew t14.2 t21.2 true rfl
        | false =>
          obtain ⟨i1, i3⟩ := noI (c := v0) (y := v1) (q := v2) (a := v3) (b := v4) (l := v5) g0 hi (by omega)
          cases ho : (win 1099511627776 [v7, v8]) with
          | true =>
            obtain ⟨L2, o1, o2, o3, o4⟩ := okO (c := v6) (y := v7) (e := v8) (q := v9) (u := v10) ⟨g6, g9, g10, ho⟩
            cases hg : (win 1099511627776 [v16, v17]) with
            | true =>
              obtain ⟨L4, r1, r2, r3, r4⟩ := okG (e := v16) (y := v17) (a := v18) (b := v19) (c := v20) (t := v21) (u := v22) ⟨g18, g19, g20, t21, g22, hg⟩
              cases hl : (win 4611686018427387904 [v25, v26] && decide ((v27.length : Int) ≤ 2048)) with
              | true =>
                obtain ⟨L5, l1, l2, l3, l4⟩ := okL (x := v23) (y := v24) (s := v25) (k := v26) (l := v27) ⟨g23, g24, hl, w27⟩
                exact fn_W5_hogl_im v0 v1 v2 v3 v4 v5 v6 v7 v8 v9 v10 v11 v12 v13 v14 v15 v16 v17 v18 v19 v20 v21 v22 v23 v24 v25 v26 v27 w L2 L3 L4 L5 n5 n27 nw (eqL_self _) (eqL_self _) i1 i3 o1 o2 o3 o4 s1 s2 s3 s4 r1 r2 r3 r4 l1 l2 (seSelf _) l3 l4 ew t14.2 t21.2 true rfl
              | false =>
                obtain ⟨l1, l3⟩ := noL (x := v23) (y := v24) (s := v25) (k := v26) (l := v27) g23 g24 hl
                exact fn_W5_hog_im v0 v1 v2 v3 v4 v5 v6 v7 v8 v9 v10 v11 v12 v13 v14 v15 v16 v17 v18 v19 v20 v21 v22 v23 v24 v25 v26 v27 w L2 L3 L4 n5 n27 nw (eqL_self _) (eqL_self _) i1 i3 o1 o2 o3 o4 s1 s2 s3 s4 r1 r2 r3 r4 l1 l3 ew t14.2 t21.2 true rfl
            | false =>
              obtain ⟨r1, r3⟩ := noG (e := v16) (y := v17) (a := v18) (b := v19) (c := v20) (t := v21) (u := v22) t21.2 hg
              cases hl : (win 4611686018427387904 [v25, v26] && decide ((v27.length : Int) ≤ 2048)) with
              | true =>
                obtain ⟨L5, l1, l2, l3, l4⟩ := okL (x := v23) (y := v24) (s := v25) (k := v26) (l := v27) ⟨g23, g24, hl, w27⟩
                exact fn_W5_hol_im v0 v1 v2 v3 v4 v5 v6 v7 v8 v9 v10 v11 v12 v13 v14 v15 v16 v17 v18 v19 v20 v21 v22 v23 v24 v25 v26 v27 w L2 L3 (List.replicate 64 (0 : Int)) L5 n5 n27 nw (eqL_self _) (eqL_self _) i1 i3 o1 o2 o3 o4 s1 s2 s3 s4 r1 r3 l1 l2 (seSelf _) l3 l4 ew t14.2 t21.2 true rfl
              | false =>
                obtain ⟨l1, l3⟩ := noL (x := v23) (y := v24) (s := v25) (k := v26) (l := v27) g23 g24 hl
                exact fn_W5_ho_im v0 v1 v2 v3 v4 v5 v6 v7 v8 v9 v10 v11 v12 v13 v14 v15 v16 v17 v18 v19 v20 v21 v22 v23 v24 v25 v26 v27 w L2 L3 (List.replicate 64 (0 : Int)) n5 n27 nw (eqL_self _) (eqL_self _) i1 i3 o1 o2 o3 o4 s1 s2 s3 s4 r1 r3 l1 l3 ew t14.2 t21.2 true rfl
          | false =>
            obtain ⟨o1, o3⟩ := noO (c := v6) (y := v7) (e := v8) (q := v9) (u := v10) g6 ho
            cases hg : (win 1099511627776 [v16, v17]) with
            | true =>
              obtain ⟨L4, r1, r2, r3, r4⟩ := okG (e := v16) (y := v17) (a := v18) (b := v19) (c := v20) (t := v21) (u := v22) ⟨g18, g19, g20, t21, g22, hg⟩
              cases hl : (win 4611686018427387904 [v25, v26] && decide ((v27.length : Int) ≤ 2048)) with
              | true =>
                obtain ⟨L5, l1, l2, l3, l4⟩ := okL (x := v23) (y := v24) (s := v25) (k := v26) (l := v27) ⟨g23, g24, hl, w27⟩
                exact fn_W5_hgl_im v0 v1 v2 v3 v4 v5 v6 v7 v8 v9 v10 v11 v12 v13 v14 v15 v16 v17 v18 v19 v20 v21 v22 v23 v24 v25 v26 v27 w L3 L4 L5 n5 n27 nw (eqL_self _) (eqL_self _) i1 i3 o1 o3 s1 s2 s3 s4 r1 r2 r3 r4 l1 l2 (seSelf _) l3 l4 ew t14.2 t21.2 true rfl
              | false =>
                obtain ⟨l1, l3⟩ := noL (x := v23) (y := v24) (s := v25) (k := v26) (l := v27) g23 g24 hl
                exact fn_W5_hg_im v0 v1 v2 v3 v4 v5 v6 v7 v8 v9 v10 v11 v12 v13 v14 v15 v16 v17 v18 v19 v20 v21 v22 v23 v24 v25 v26 v27 w L3 L4 n5 n27 nw (eqL_self _) (eqL_self _) i1 i3 o1 o3 s1 s2 s3 s4 r1 r2 r3 r4 l1 l3 ew t14.2 t21.2 true rfl
            | false =>
              obtain ⟨r1, r3⟩ := noG (e := v16) (y := v17) (a := v18) (b := v19) (c := v20) (t := v21) (u := v22) t21.2 hg
              cases hl : (win 4611686018427387904 [v25, v26] && decide ((v27.length : Int) ≤ 2048)) with
              | true =>
                obtain ⟨L5, l1, l2, l3, l4⟩ := okL (x := v23) (y := v24) (s := v25) (k := v26) (l := v27) ⟨g23, g24, hl, w27⟩
                exact fn_W5_hl_im v0 v1 v2 v3 v4 v5 v6 v7 v8 v9 v10 v11 v12 v13 v14 v15 v16 v17 v18 v19 v20 v21 v22 v23 v24 v25 v26 v27 w L3 (List.replicate 64 (0 : Int)) L5 n5 n27 nw (eqL_self _) (eqL_self _) i1 i3 o1 o3 s1 s2 s3 s4 r1 r3 l1 l2 (seSelf _) l3 l4 ew t14.2 t21.2 true rfl
              | false =>
                obtain ⟨l1, l3⟩ := noL (x := v23) (y := v24) (s := v25) (k := v26) (l := v27) g23 g24 hl
                exact fn_W5_h_im v0 v1 v2 v3 v4 v5 v6 v7 v8 v9 v10 v11 v12 v13 v14 v15 v16 v17 v18 v19 v20 v21 v22 v23 v24 v25 v26 v27 w L3 (List.replicate 64 (0 : Int)) n5 n27 nw (eqL_self _) (eqL_self _) i1 i3 o1 o3 s1 s2 s3 s4 r1 r3 l1 l3 ew t14.2 t21.2 true rfl
      · exact fn_W5_z_im v0 v1 v2 v3 v4 v5 v6 v7 v8 v9 v10 v11 v12 v13 v14 v15 v16 v17 v18 v19 v20 v21 v22 v23 v24 v25 v26 v27 w t14.2 t21.2 n5 n27 (by show (w.length : Int) > 3000; omega) true rfl
    · exact fn_W5_y_im v0 v1 v2 v3 v4 v5 v6 v7 v8 v9 v10 v11 v12 v13 v14 v15 v16 v17 v18 v19 v20 v21 v22 v23 v24 v25 v26 v27 w t14.2 t21.2 n5 (by show (v27.length : Int) > 5000; omega) true rfl
  · exact fn_W5_x_im v0 v1 v2 v3 v4 v5 v6 v7 v8 v9 v10 v11 v12 v13 v14 v15 v16 v17 v18 v19 v20 v21 v22 v23 v24 v25 v26 v27 w t14.2 t21.2 (by show (v5.length : Int) > 1000; omega) true rfl
theorem wf64 {n : Int} (h : wfD (.int .u64) n = true) : 0 ≤ n ∧ n < 18446744073709551616 := by
  have a' : (decide (IntKind.min .u64 ≤ n) && decide (n ≤ IntKind.max .u64)) = true := h
  rw [Bool.and_eq_true, decide_eq_true_eq, decide_eq_true_eq] at a'
  have m1 : IntKind.min .u64 = 0 := rfl
  have m2 : IntKind.max .u64 = 18446744073709551615 := rfl
  omega
theorem wf32 {n : Int} (h : wfD (.int .u32) n = true) : 0 ≤ n ∧ n < 4294967296 := by
  have a' : (decide (IntKind.min .u32 ≤ n) && decide (n ≤ IntKind.max .u32)) = true := h
  rw [Bool.and_eq_true, decide_eq_true_eq, decide_eq_true_eq] at a'
  have m1 : IntKind.min .u32 = 0 := rfl
  have m2 : IntKind.max .u32 = 4294967295 := rfl
  omega
theorem t5' {i : Ty.den TInp} {o : Ty.den TOut} {s : Ty.den TStt} {g : Ty.den TLog} {l : Ty.den TLnk} {b : List (Ty.den TB)} (hi : wfD TInp i = true) (ho : wfD TOut o = true) (hs : wfD TStt s = true) (hg : wfD TLog g = true) (hl : wfD TLnk l = true) (hb : wfD (.sl TB) b = true) :
    (ev_W5 [.n i.1, .n i.2.1, .n i.2.2.1, .n i.2.2.2.1, .n i.2.2.2.2.1, .l TC i.2.2.2.2.2, .n o.1, .n o.2.1, .n o.2.2.1, .n o.2.2.2.1, .n o.2.2.2.2, .n s.1, .n s.2.1, .n s.2.2.1, .l TB s.2.2.2.1, .n s.2.2.2.2, .n g.1, .n g.2.1, .n g.2.2.1, .n g.2.2.2.1, .n g.2.2.2.2.1, .l TB g.2.2.2.2.2.1, .n g.2.2.2.2.2.2, .n l.1, .n l.2.1, .n l.2.2.1, .n l.2.2.2.1, .l TB l.2.2.2.2, .l TB b]).sel = some true :=
  t5 _ _ _ _ _ _ _ _ _ _ _ _ _ _ _ _ _ _ _ _ _ _ _ _ _ _ _ _ _ (wf8 (wp1 hi)) (wf8 (wp1 ho)) (wf8 (wp1 hl)) (wf8 (wp1 (wp2 hl))) (wf64 (wp1 (wp2 (wp2 hi)))) (wf64 (wp1 (wp2 (wp2 (wp2 ho))))) (wf64 (wp1 hs)) (wf64 (wp1 (wp2 hs))) (wf64 (wp1 (wp2 (wp2 hs)))) (wf64 (wp1 (wp2 (wp2 hg)))) (wf64 (wp1 (wp2 (wp2 (wp2 hg))))) (wf64 (wp1 (wp2 (wp2 (wp2 (wp2 hg)))))) (wf32 (wp1 (wp2 (wp2 (wp2 hi))))) (wf32 (wp1 (wp2 (wp2 (wp2 (wp2 hi)))))) (wf32 (wp2 (wp2 (wp2 (wp2 ho))))) (wf32 (wp2 (wp2 (wp2 (wp2 hs))))) (wf32 (wp2 (wp2 (wp2 (wp2 (wp2 (wp2 hg))))))) ⟨(wf_arr (wp1 (wp2 (wp2 (wp2 hs))))).2, (wf_arr (wp1 (wp2 (wp2 (wp2 hs))))).1⟩ ⟨(wf_arr (wp1 (wp2 (wp2 (wp2 (wp2 (wp2 hg))))))).2, (wf_arr (wp1 (wp2 (wp2 (wp2 (wp2 (wp2 hg))))))).1⟩ (wf_sl (wp2 (wp2 (wp2 (wp2 hl))))) (wf_sl hb)
end Go.Proofs.Ytlambinleegdoaa.Vx
