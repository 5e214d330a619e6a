import Derived.Test.YtdaabhpeedekaaaX25u
import Derived.Test.YtdaabhpeedekaaaVxBits
import Derived.Test.YtdaabhpeedekaaaVxLoop
namespace Go.Proofs.Ytdaabhpeedekaaa.Vx
open Go Go.RowKit
set_option linter.unusedVariables false
set_option linter.unusedSimpArgs false
set_option maxRecDepth 100000
set_option maxHeartbeats 4000000
theorem take_getD {α : Type} {l : List α} {n : Nat} {d : α} (h : n < l.length) : l.take (n + 1) = l.take n ++ [l.getD n d] := by
  rw [List.take_succ_eq_append_getElem h, List.getD_eq_getElem?_getD, List.getElem?_eq_getElem h]; rfl
def last32 : BitVec 32 := 0xEDB88320#32
def dn (n : BitVec 32) : BitVec 32 := (n >>> 1) ^^^ (if n.getLsbD 0 then last32 else 0#32)
def up (n : BitVec 32) : BitVec 32 := if n.getLsbD 31 then ((n ^^^ last32) <<< 1) ||| 1#32 else n <<< 1
theorem dn_xor (a b : BitVec 32) : dn (a ^^^ b) = dn a ^^^ dn b := by
  unfold dn
  rw [BitVec.getLsbD_xor, BitVec.ushiftRight_xor_distrib]
  cases a.getLsbD 0 <;> cases b.getLsbD 0 <;> simp
  · ac_rfl
  · ac_rfl
  · have : ∀ x y z : BitVec 32, x ^^^ y = (x ^^^ z) ^^^ (y ^^^ z) := by
      intro x y z
      have e : (x ^^^ z) ^^^ (y ^^^ z) = (x ^^^ y) ^^^ (z ^^^ z) := by ac_rfl
      rw [e, BitVec.xor_self, BitVec.xor_zero]
    exact this _ _ _
theorem up_dn (n : BitVec 32) : up (dn n) = n := by
  unfold up dn
  cases h : n.getLsbD 0 with
  | false =>
    simp only [Bool.false_eq_true, if_false, BitVec.xor_zero]
    have : (n >>> 1).getLsbD 31 = false := by simp
    rw [this]
    simp only [Bool.false_eq_true, if_false]
    ext i hi
    simp only [BitVec.getElem_shiftLeft]
    by_cases h0 : i = 0
    · subst h0; simp; rw [← BitVec.getLsbD_eq_getElem]; exact h
    · have : ¬ i < 1 := by omega
      simp [this]; rw [show 1 + (i - 1) = i by omega, BitVec.getLsbD_eq_getElem]
  | true =>
    simp only [if_true]
    have : (n >>> 1 ^^^ last32).getLsbD 31 = true := by
      rw [BitVec.getLsbD_xor]; simp [last32]
    rw [this]
    simp only [if_true]
    have e : n >>> 1 ^^^ last32 ^^^ last32 = n >>> 1 := by rw [BitVec.xor_assoc, BitVec.xor_self, BitVec.xor_zero]
    rw [e]
    ext i hi
    simp only [BitVec.getElem_or, BitVec.getElem_shiftLeft]
    by_cases h0 : i = 0
    · subst h0; simp; rw [← BitVec.getLsbD_eq_getElem]; exact h
    · have : ¬ i < 1 := by omega
      simp [this, h0]; rw [show 1 + (i - 1) = i by omega, BitVec.getLsbD_eq_getElem]
def low (n : BitVec 32) (k : Nat) : BitVec 32 := n &&& BitVec.ofNat 32 (2 ^ k - 1)
theorem low_succ (n : BitVec 32) (k : Nat) (hk : k < 32) : low n (k + 1) = low n k ^^^ (if n.getLsbD k then 1#32 <<< k else 0#32) := by
  unfold low
  ext i hi
  simp only [BitVec.getElem_and, BitVec.getElem_xor]
  have e : ∀ j, (BitVec.ofNat 32 (2 ^ j - 1))[i] = decide (i < j) := by
    intro j
    rw [← BitVec.getLsbD_eq_getElem, BitVec.getLsbD_ofNat, Nat.testBit_two_pow_sub_one]; simp [hi]
  rw [e, e]
  by_cases h : n.getLsbD k
  · rw [if_pos h]
    rw [BitVec.getElem_shiftLeft]
    by_cases h1 : i < k
    · simp [h1, show i < k + 1 by omega]
    · by_cases h2 : i = k
      · subst h2; rw [BitVec.getLsbD_eq_getElem hi] at h; simp [h]
      · simp [h1, show ¬ i < k + 1 by omega, show ¬ i - k = 0 by omega]
  · rw [if_neg h]
    by_cases h1 : i < k
    · simp [h1, show i < k + 1 by omega]
    · by_cases h2 : i = k
      · subst h2; rw [BitVec.getLsbD_eq_getElem hi] at h; simp [h]
      · simp [h1, show ¬ i < k + 1 by omega]
theorem low_32 (n : BitVec 32) : low n 32 = n := by
  unfold low
  ext i hi
  rw [BitVec.getElem_and, ← BitVec.getLsbD_eq_getElem (x := BitVec.ofNat 32 (2 ^ 32 - 1)), BitVec.getLsbD_ofNat, Nat.testBit_two_pow_sub_one]
  simp [hi]
theorem low_0 (n : BitVec 32) : low n 0 = 0#32 := by unfold low; simp
theorem lin_ext {w : Nat} {f g : BitVec 32 → BitVec w} (hf : ∀ a b, f (a ^^^ b) = f a ^^^ f b) (hg : ∀ a b, g (a ^^^ b) = g a ^^^ g b) (h : ∀ i, i < 32 → f (1#32 <<< i) = g (1#32 <<< i)) (n : BitVec 32) : f n = g n := by
  have z : ∀ {f : BitVec 32 → BitVec w}, (∀ a b, f (a ^^^ b) = f a ^^^ f b) → f 0#32 = 0#w := by
    intro f hf
    have := hf 0#32 0#32
    rw [BitVec.xor_self] at this
    rw [this, BitVec.xor_self]
  have key : ∀ k, k ≤ 32 → f (low n k) = g (low n k) := by
    intro k
    induction k with
    | zero => intro _; rw [low_0, z hf, z hg]
    | succ k ih =>
      intro hk
      rw [low_succ n k (by omega), hf, hg, ih (by omega)]
      cases n.getLsbD k with
      | true => rw [if_pos rfl, h k (by omega)]
      | false => rw [if_neg (by simp), z hf, z hg]
  have := key 32 (by omega)
  rwa [low_32] at this
def dnN : Nat → BitVec 32 → BitVec 32
  | 0, n => n
  | k + 1, n => dnN k (dn n)
def upN : Nat → BitVec 32 → BitVec 32
  | 0, n => n
  | k + 1, n => upN k (up n)
theorem dnN_xor (k : Nat) (a b : BitVec 32) : dnN k (a ^^^ b) = dnN k a ^^^ dnN k b := by
  induction k generalizing a b with
  | zero => rfl
  | succ k ih => simp only [dnN, dn_xor, ih]
theorem dnN_add (j k : Nat) (n : BitVec 32) : dnN (j + k) n = dnN k (dnN j n) := by
  induction j generalizing n with
  | zero => simp [dnN]
  | succ j ih => rw [Nat.succ_add]; simp only [dnN]; exact ih _
theorem upN_add (j k : Nat) (n : BitVec 32) : upN (j + k) n = upN k (upN j n) := by
  induction j generalizing n with
  | zero => simp [upN]
  | succ j ih => rw [Nat.succ_add]; simp only [upN]; exact ih _
theorem upN_dnN (k : Nat) (n : BitVec 32) : upN k (dnN k n) = n := by
  induction k generalizing n with
  | zero => rfl
  | succ k ih =>
    rw [dnN_add k 1 n, Nat.add_comm, upN_add 1 k]
    show upN k (up (dn (dnN k n))) = n
    rw [up_dn, ih]
theorem dnN_inj {k : Nat} {a b : BitVec 32} (h : dnN k a = dnN k b) : a = b := by
  have := congrArg (upN k) h
  rwa [upN_dnN, upN_dnN] at this
theorem dnN_zero (k : Nat) : dnN k 0#32 = 0#32 := by
  have := dnN_xor k 0#32 0#32
  rw [BitVec.xor_self] at this
  rw [this, BitVec.xor_self]
theorem dn_up (n : BitVec 32) : dn (up n) = n := by
  unfold up dn
  cases h : n.getLsbD 31 with
  | false =>
    simp only [Bool.false_eq_true, if_false]
    have : (n <<< 1).getLsbD 0 = false := by simp
    rw [this]
    simp only [Bool.false_eq_true, if_false, BitVec.xor_zero]
    ext i hi
    simp only [BitVec.getElem_ushiftRight, BitVec.getLsbD_shiftLeft]
    by_cases h0 : i = 31
    · subst h0; simp; rw [← BitVec.getLsbD_eq_getElem]; exact h
    · simp [show 1 + i < 32 by omega]; 
      rw [← BitVec.getLsbD_eq_getElem]
  | true =>
    simp only [if_true]
    have : (((n ^^^ last32) <<< 1) ||| 1#32).getLsbD 0 = true := by simp
    rw [this]
    simp only [if_true]
    have e : (((n ^^^ last32) <<< 1) ||| 1#32) >>> 1 = n ^^^ last32 := by
      ext i hi
      simp only [BitVec.getElem_ushiftRight, BitVec.getLsbD_shiftLeft, BitVec.getLsbD_or]
      by_cases h0 : i = 31
      · subst h0; simp [last32]; rw [← BitVec.getLsbD_eq_getElem, h]
      · simp [show 1 + i < 32 by omega]
        rw [← BitVec.getLsbD_eq_getElem, ← BitVec.getLsbD_eq_getElem]
    rw [e, BitVec.xor_assoc, BitVec.xor_self, BitVec.xor_zero]
theorem dnN_upN (k : Nat) (n : BitVec 32) : dnN k (upN k n) = n := by
  induction k generalizing n with
  | zero => rfl
  | succ k ih =>
    rw [upN_add k 1 n, Nat.add_comm, dnN_add 1 k]
    show dnN k (dn (up (upN k n))) = n
    rw [dn_up, ih]
def go (n : BitVec 32) (l : List Int) : BitVec 32 := l.foldl (fun n x => dnN 8 (n ^^^ BitVec.ofInt 32 x)) n
theorem go_nil (n : BitVec 32) : go n [] = n := rfl
theorem go_cons (n : BitVec 32) (x : Int) (l : List Int) : go n (x :: l) = go (dnN 8 (n ^^^ BitVec.ofInt 32 x)) l := rfl
theorem go_append (n : BitVec 32) (l m : List Int) : go n (l ++ m) = go (go n l) m := by unfold go; rw [List.foldl_append]
theorem go_lin (a b : BitVec 32) (l : List Int) : go (a ^^^ b) l = go a l ^^^ dnN (8 * l.length) b := by
  induction l generalizing a b with
  | nil => rfl
  | cons x l ih =>
    rw [go_cons, go_cons]
    have e : a ^^^ b ^^^ BitVec.ofInt 32 x = (a ^^^ BitVec.ofInt 32 x) ^^^ b := by ac_rfl
    rw [e, dnN_xor, ih, List.length_cons, show 8 * (l.length + 1) = 8 + 8 * l.length by omega, dnN_add]
theorem go_turn (n : BitVec 32) (l m : List Int) (x y : Int) : go n (l ++ y :: m) = go n (l ++ x :: m) ^^^ dnN (8 * (m.length + 1)) (BitVec.ofInt 32 x ^^^ BitVec.ofInt 32 y) := by
  rw [go_append, go_append, go_cons, go_cons]
  have e : go n l ^^^ BitVec.ofInt 32 y = (go n l ^^^ BitVec.ofInt 32 x) ^^^ (BitVec.ofInt 32 x ^^^ BitVec.ofInt 32 y) := by
    have : (go n l ^^^ BitVec.ofInt 32 x) ^^^ (BitVec.ofInt 32 x ^^^ BitVec.ofInt 32 y) = (go n l ^^^ BitVec.ofInt 32 y) ^^^ (BitVec.ofInt 32 x ^^^ BitVec.ofInt 32 x) := by ac_rfl
    rw [this, BitVec.xor_self, BitVec.xor_zero]
  rw [e, dnN_xor, go_lin, show 8 * (m.length + 1) = 8 + 8 * m.length by omega, dnN_add]
theorem split_at {α : Type} {l : List α} {i : Nat} (h : i < l.length) (d : α) : l = l.take i ++ l.getD i d :: l.drop (i + 1) := by
  have e : l.getD i d = l[i] := by rw [List.getD_eq_getElem?_getD, List.getElem?_eq_getElem h]; rfl
  rw [e, ← List.drop_eq_getElem_cons h, List.take_append_drop]
theorem set_at {α : Type} {l : List α} {i : Nat} (h : i < l.length) (y : α) : l.set i y = l.take i ++ y :: l.drop (i + 1) := by
  rw [List.set_eq_take_append_cons_drop, if_pos h]
theorem go_set (n : BitVec 32) {l : List Int} {i : Nat} (h : i < l.length) (y d : Int) : go n (l.set i y) = go n l ^^^ dnN (8 * (l.length - i)) (BitVec.ofInt 32 (l.getD i d) ^^^ BitVec.ofInt 32 y) := by
  rw [set_at h, go_turn n _ _ (l.getD i d) y, ← split_at h d]
  rw [List.length_drop, show l.length - (i + 1) + 1 = l.length - i by omega]
def E8 : List Int := [1996959894, 3993919788, 124634137, 249268274, 498536548, 997073096, 1994146192, 3988292384]
def tab (u : BitVec 8) : Nat → BitVec 32
  | 0 => 0#32
  | k + 1 => tab u k ^^^ (if u.getLsbD k then BitVec.ofInt 32 (E8.getD k 0) else 0#32)
theorem tab_xor (a b : BitVec 8) (k : Nat) : tab (a ^^^ b) k = tab a k ^^^ tab b k := by
  induction k with
  | zero => simp [tab]
  | succ k ih =>
    simp only [tab, ih, BitVec.getLsbD_xor]
    cases a.getLsbD k <;> cases b.getLsbD k <;> simp
    · ac_rfl
    · ac_rfl
    · have : ∀ x y z : BitVec 32, x ^^^ y = (x ^^^ z) ^^^ (y ^^^ z) := by
        intro x y z
        have e : (x ^^^ z) ^^^ (y ^^^ z) = (x ^^^ y) ^^^ (z ^^^ z) := by ac_rfl
        rw [e, BitVec.xor_self, BitVec.xor_zero]
      exact this _ _ _
theorem dn8 (m : BitVec 32) : dnN 8 m = (m >>> 8) ^^^ tab (m.setWidth 8) 8 := by
  refine lin_ext (f := dnN 8) (g := fun m => (m >>> 8) ^^^ tab (m.setWidth 8) 8) (dnN_xor 8) (fun a b => ?_) (by decide +kernel) m
  simp only [BitVec.ushiftRight_xor_distrib, BitVec.setWidth_xor, tab_xor]
  ac_rfl
theorem ofInt_8 {x : Int} (h0 : 0 ≤ x) (h1 : x < 256) : BitVec.ofInt 32 x = (BitVec.ofInt 8 x).setWidth 32 := by
  apply BitVec.eq_of_toNat_eq
  rw [BitVec.toNat_setWidth, BitVec.toNat_ofInt, BitVec.toNat_ofInt]
  omega
theorem ofInt_low (n : BitVec 32) : BitVec.ofInt 8 (N n) = n.setWidth 8 := by
  apply BitVec.eq_of_toNat_eq
  rw [BitVec.toNat_setWidth, BitVec.toNat_ofInt]
  unfold N
  omega
theorem byte_in (n : BitVec 32) {x : Int} (h0 : 0 ≤ x) (h1 : x < 256) : dnN 8 (n ^^^ BitVec.ofInt 32 x) = (n >>> 8) ^^^ tab (n.setWidth 8 ^^^ BitVec.ofInt 8 x) 8 := by
  rw [dn8, ofInt_8 h0 h1, BitVec.ushiftRight_xor_distrib, BitVec.setWidth_xor]
  have e1 : (BitVec.ofInt 8 x).setWidth 32 >>> 8 = 0#32 := by
    apply BitVec.eq_of_toNat_eq
    have := (BitVec.ofInt 8 x).isLt
    rw [BitVec.toNat_ushiftRight, BitVec.toNat_setWidth, Nat.shiftRight_eq_div_pow]
    simp
    omega
  have e2 : ((BitVec.ofInt 8 x).setWidth 32).setWidth 8 = BitVec.ofInt 8 x := by
    apply BitVec.eq_of_toNat_eq
    have := (BitVec.ofInt 8 x).isLt
    rw [BitVec.toNat_setWidth, BitVec.toNat_setWidth]
    omega
  rw [e1, e2, BitVec.xor_zero]
theorem bit0 (x : BitVec 32) : (N (x &&& 1#32) == 0) = !x.getLsbD 0 := by
  rw [show (0 : Int) = N 0#32 from rfl, N_beq, Bool.eq_iff_iff]
  simp only [beq_iff_eq, Bool.not_eq_true']
  constructor
  · intro h
    have := congrArg (fun v => v.getLsbD 0) h
    simpa using this
  · intro h
    apply BitVec.eq_of_getLsbD_eq
    intro i hi
    by_cases h0 : i = 0
    · subst h0; rw [BitVec.getLsbD_and, h]; simp
    · simp [h0]
theorem t19 (x : BitVec 32) : op_19 [.n (N x)] = some (0, [.n (N (dn x))]) := by
  show (fn_19 [.n (N x)]).sel = _
  simp only [fn_19]
  have e : iand IntKind.u32 (N x) 1 = N (x &&& 1#32) := iand_u32 x 1#32
  have e1 : ishr IntKind.u32 (N x) 1 = N (x >>> 1) := ishr_u32 x 1
  have e2 : ixor IntKind.u32 (N (x >>> 1)) 3988292384 = N ((x >>> 1) ^^^ last32) := ixor_u32 (x >>> 1) last32
  rw [selB, e, e1, e2, bit0]
  unfold dn
  cases x.getLsbD 0
  · simp [Tree.sel]
  · simp [Tree.sel]
theorem isK1 (x : Int) : isK 0 [HK.n] (some (0, [.n x])) = true := rfl
theorem len_ok {n : Nat} {i : Nat} (h : i < n) (hn : n ≤ 9223372036854775807) : IntKind.wrap .i64 ((i : Int) + 1) = ((i + 1 : Nat) : Int) := by
  rw [w64 (by omega) (by omega)]; omega
theorem t12L (b : List Int) (hb : b.length ≤ 9223372036854775807) : op_L12_3 [.n (N 0xFFFFFFFF#32), .l TB (ofI b), .n b.length, .n ((0 : Nat) : Int)] = some (0, [.n (N (go 0xFFFFFFFF#32 b))]) := by
  refine iter_count (st := fn_L12_3) (fun i => [.n (N (go 0xFFFFFFFF#32 (b.take i))), .l TB (ofI b), .n b.length, .n (i : Int)]) b.length (0, [.n (N (go 0xFFFFFFFF#32 b))]) ?_ ?_ FU (lt_FU hb)
  · intro i hi
    simp only [fn_L12_3, den_len, den_getD2]
    refine (selT (dt (by omega))).trans ((selT (inR_true (by omega) (by omega))).trans ?_)
    simp only [wrapN_u32, ixor_u32, t19, dOf_some, gn0, isK1, cond_true, len_ok hi hb, Tree.sel]
    rw [take_getD (d := (0 : Int)) hi, go_append]
    rfl
  · rw [List.take_length]
    simp only [fn_L12_3, den_len]
    exact selF (df (Int.lt_irrefl _))
def Sm (b : List Int) : BitVec 32 := 0xFFFFFFFF#32 ^^^ go 0xFFFFFFFF#32 b
theorem t12 (b : List Int) (hb : b.length ≤ 9223372036854775807) : op_12 [.l TB (ofI b)] = some (0, [.n (N (Sm b))]) := by
  show (fn_12 [.l TB (ofI b)]).sel = _
  have e' : op_L12_3 [.n 4294967295, .l TB (ofI b), .n b.length, .n 0] = some (0, [.n (N (go 0xFFFFFFFF#32 b))]) := t12L b hb
  simp only [fn_12, den_len]
  rw [e']
  simp only [dOf_some, gn0, isK1, cond_true, Tree.sel]
  have := ixor_u32 0xFFFFFFFF#32 (go 0xFFFFFFFF#32 b)
  rw [show (4294967295 : Int) = N 0xFFFFFFFF#32 from rfl, this]
  rfl
def chg (d : BitVec 8) (k : Nat) : BitVec 32 := dnN (8 * (k + 1)) (d.setWidth 32)
theorem bitk (u : BitVec 8) (k : Nat) : (iand IntKind.u8 (ishr IntKind.u8 (N u) (k : Int)) 1 == 1) = u.getLsbD k := by
  rw [ishr_u8, show (1 : Int) = N 1#8 from rfl, iand_u8, N_beq, Bool.eq_iff_iff]
  simp only [beq_iff_eq]
  constructor
  · intro h
    have := congrArg (fun v => v.getLsbD 0) h
    simpa using this
  · intro h
    apply BitVec.eq_of_getLsbD_eq
    intro i hi
    by_cases h0 : i = 0
    · subst h0; rw [BitVec.getLsbD_and, BitVec.getLsbD_ushiftRight]; simp [h]
    · rw [BitVec.getLsbD_and]; simp [h0]
theorem isK4 (x y : Int) (l m : List Int) : isK 0 [HK.n, HK.l TB, HK.n, HK.l TN] (some (0, [.n x, .l TB (ofI l), .n y, .l TN (ofI m)])) = true := rfl
theorem e8_in (k : Nat) (hk : k < 8) : List.getD E8 k 0 = N (BitVec.ofInt 32 (List.getD E8 k 0)) := by
  rcases k with _ | _ | _ | _ | _ | _ | _ | _ | k <;> first | rfl | omega
theorem t20L (n : BitVec 32) (b : List Int) (i : Int) (u : BitVec 8) : op_L20_8 [.k 0, .n (N n), .l TB (ofI b), .n i, .n (N u), .n ((0 : Nat) : Int), .l TN (ofI E8)] = some (0, [.n (N (n ^^^ tab u 8)), .l TB (ofI b), .n i, .l TN (ofI E8)]) := by
  have := iter_count (st := fn_L20_8) (fun k => [.k 0, .n (N (n ^^^ tab u k)), .l TB (ofI b), .n i, .n (N u), .n (k : Int), .l TN (ofI E8)]) 8 (0, [.n (N (n ^^^ tab u 8)), .l TB (ofI b), .n i, .l TN (ofI E8)]) ?_ ?_ FU (by unfold FU; omega)
  · simp only [tab, BitVec.xor_zero] at this
    simp only [tab]
    exact this
  · intro k hk
    simp only [fn_L20_8, fn_L20_8_0, den_len, den_getD2]
    refine (selT (dt (by omega))).trans ((selT (nf (df (by omega)))).trans ?_)
    rw [selB, bitk]
    have e0 : IntKind.wrap .i64 ((k : Int) + 1) = ((k + 1 : Nat) : Int) := by rw [w64 (by omega) (by omega)]; omega
    cases h : u.getLsbD k with
    | true =>
      refine (selT (inR_true (by omega) (by show (k : Int) < ((8 : Nat) : Int); omega))).trans ?_
      rw [e0, show ((k : Int)).toNat = k from rfl, e8_in k hk, ixor_u32]
      simp only [tab, h, if_true, Tree.sel, BitVec.xor_assoc]
    | false =>
      rw [e0]
      simp only [tab, h, Bool.false_eq_true, if_false, Tree.sel, cond_false, BitVec.xor_zero]
  · simp only [fn_L20_8, fn_L20_8_0]
    exact selF (df (by omega))
theorem t20M (n : BitVec 32) (b : List Int) (hb : b.length ≤ 9223372036854775807) (hr : ∀ x ∈ b, 0 ≤ x ∧ x < 256) : op_L20_3 [.k 0, .n (N n), .l TB (ofI b), .n ((0 : Nat) : Int), .l TN (ofI E8)] = some (0, [.n (N (go n b))]) := by
  refine iter_count (st := fn_L20_3) (fun i => [.k 0, .n (N (go n (b.take i))), .l TB (ofI b), .n (i : Int), .l TN (ofI E8)]) b.length (0, [.n (N (go n b))]) ?_ ?_ FU (lt_FU hb)
  · intro i hi
    simp only [fn_L20_3, fn_L20_3_0, den_len, den_getD2]
    refine (selT (dt (by omega))).trans ((selT (inR_true (by omega) (by omega))).trans ?_)
    have hx := hr _ (getD_mem (d := (0 : Int)) hi)
    rw [show ((i : Int)).toNat = i from rfl]
    have ex : List.getD b i 0 = N (BitVec.ofInt 8 (List.getD b i 0)) := (N_of hx.1 hx.2).symm
    have e8 : ishr IntKind.u32 (N (go n (b.take i))) 8 = N (go n (b.take i) >>> 8) := ishr_u32 _ 8
    rw [e8, wrapN_u8, ofInt_low, ex, ixor_u8]
    rw [show op_L20_8 [.k 0, .n (N (go n (b.take i) >>> 8)), .l TB (ofI b), .n (i : Int), .n (N ((go n (b.take i)).setWidth 8 ^^^ BitVec.ofInt 8 (List.getD b i 0))), .n 0, .l TN (ofI E8)] = _ from t20L _ _ _ _]
    simp only [dOf_some, gn0, gn2, gl1, gl3, isK4, selB, cond_true, len_ok hi hb, Tree.sel]
    rw [take_getD (d := (0 : Int)) hi, go_append, go_cons, go_nil, byte_in _ hx.1 hx.2]
  · rw [List.take_length]
    simp only [fn_L20_3, fn_L20_3_0, den_len]
    exact selF (df (Int.lt_irrefl _))
theorem t13 (b : List Int) (hb : b.length ≤ 9223372036854775807) (hr : ∀ x ∈ b, 0 ≤ x ∧ x < 256) : op_13 [.l TB (ofI b)] = some (0, [.n (N (Sm b))]) := by
  have e20 : op_20 [.n (N 0xFFFFFFFF#32), .l TB (ofI b)] = some (0, [.n (N (go 0xFFFFFFFF#32 b))]) := by
    show (fn_20 [.n (N 0xFFFFFFFF#32), .l TB (ofI b)]).sel = _
    have e := t20M 0xFFFFFFFF#32 b hb hr
    exact (selT (congrArg (isK 0 [HK.n]) e)).trans (congrArg (fun r => some (0, [Dat.n (gn (dOf r) 0)])) e)
  show (fn_13 [.l TB (ofI b)]).sel = _
  simp only [fn_13]
  rw [show op_20 [.n 4294967295, .l TB (ofI b)] = _ from e20]
  simp only [dOf_some, gn0, isK1, cond_true, Tree.sel]
  have := ixor_u32 0xFFFFFFFF#32 (go 0xFFFFFFFF#32 b)
  rw [show (4294967295 : Int) = N 0xFFFFFFFF#32 from rfl, this]
  rfl
def Wb (l : List Int) : Prop := ∀ b ∈ l, 0 ≤ b ∧ b < 256
theorem wu64 (x : Int) : IntKind.wrap .u64 x = x % 18446744073709551616 := by unfold IntKind.wrap; simp [IntKind.bits, IntKind.signed]
theorem wu8 (x : Int) : IntKind.wrap .u8 x = x % 256 := by unfold IntKind.wrap; simp [IntKind.bits, IntKind.signed]
theorem wu16 (x : Int) : IntKind.wrap .u16 x = x % 65536 := by unfold IntKind.wrap; simp [IntKind.bits, IntKind.signed]
theorem wu32 (x : Int) : IntKind.wrap .u32 x = x % 4294967296 := by unfold IntKind.wrap; simp [IntKind.bits, IntKind.signed]
theorem t31g (l : List (Ty.den TB)) (h : okc_31 l = true) : op_31 [.l TB l] = some (0, [.l TB l]) := by
  show (match castL TB TB l with | some l => bif okc_31 l then some (0, [Dat.l TB l]) else none | none => none) = _
  rw [castL_self]
  show (bif okc_31 l then some (0, [Dat.l TB l]) else none) = _
  rw [h]; rfl
theorem t31 {l : List Int} (h : l.length ≤ 140737488355328) : op_31 [.l TB l] = some (0, [.l TB l]) :=
  t31g l (by unfold okc_31; exact decide_eq_true (show (0 + l.length) * 1 ≤ 140737488355328 by omega))
def byt (n : Int) (k : Nat) : Int := IntKind.wrap .u8 (ishr .u64 n (8 * (k : Int)))
def bes (n : Int) : Nat → List Int
  | 0 => []
  | k + 1 => byt n k :: bes n k
theorem be_len (n : Int) : ∀ k, (bes n k).length = k
  | 0 => rfl
  | k + 1 => by rw [bes, List.length_cons, be_len n k]
theorem be_wb (n : Int) : ∀ k, Wb (bes n k)
  | 0 => fun b hb => by simp [bes] at hb
  | k + 1 => fun b hb => by
    rw [bes, List.mem_cons] at hb
    rcases hb with rfl | hb
    · unfold byt; rw [wu8]; omega
    · exact be_wb n k b hb
theorem lp30 (n : Int) : ∀ (k : Nat) (l : List Int) (f : Nat), k ≤ 8 → l.length + k ≤ 1000000 → k < f → iterS st_L30_3 f [.k 0, .n n, .n ((k : Int) - 1), .l TB l] = some (0, [.l TB (l ++ bes n k)])
  | _, _, 0, _, _, h => by omega
  | 0, l, f + 1, h, hl, hf => by
    have e : (st_L30_3 [.k 0, .n n, .n (((0 : Nat) : Int) - 1), .l TB l]).sel = some (.stop 0 [.l TB l]) := by
      refine fn_L30_3_t_im n _ l _ ?_
      unfold fn_L30_3_t
      exact sel_f (decide_eq_false (by omega)) rfl
    unfold iterS
    rw [e]
    show some (0, [Dat.l TB l]) = some (0, [Dat.l TB (l ++ bes n 0)])
    rw [bes, List.append_nil]
  | k + 1, l, f + 1, h, hl, hf => by
    have w8 : IntKind.wrap .i64 (8 * (((k + 1 : Nat) : Int) - 1)) = 8 * (k : Int) := by rw [w64d]; omega
    have w1 : IntKind.wrap .i64 ((((k + 1 : Nat) : Int) - 1) - 1) = (k : Int) - 1 := by rw [w64d]; omega
    have e : (st_L30_3 [.k 0, .n n, .n (((k + 1 : Nat) : Int) - 1), .l TB l]).sel = some (.go [.k 0, .n n, .n ((k : Int) - 1), .l TB (l ++ [byt n k])]) := by
      refine fn_L30_3_t_im n _ l _ ?_
      unfold fn_L30_3_t
      refine sel_t (decide_eq_true (by omega)) (sel_t (by rw [w8]; simp; omega) (sel_t (decide_eq_true (show (l.length + 1) * 1 ≤ 140737488355328 by omega)) ?_))
      show some (Step.go [.k 0, .n n, .n (IntKind.wrap .i64 ((((k + 1 : Nat) : Int) - 1) - 1)), .l TB (l ++ [IntKind.wrap .u8 (ishr .u64 n (IntKind.wrap .i64 (8 * (((k + 1 : Nat) : Int) - 1))))])]) = _
      rw [w8, w1]; rfl
    unfold iterS
    rw [e]
    have ih := lp30 n k (l ++ [byt n k]) f (by omega) (by rw [List.length_append]; simp; omega) (by omega)
    rw [List.append_assoc] at ih
    exact ih
theorem t30 (n : Int) (w : Nat) (h : w ≤ 8) : op_30 [.n n, .n (w : Int)] = some (0, [.l TB (bes n w)]) := by
  have w1 : IntKind.wrap .i64 ((w : Int) - 1) = (w : Int) - 1 := by rw [w64d]; omega
  have e : op_L30_3 [.k 0, .n n, .n (IntKind.wrap .i64 ((w : Int) - 1)), .l TB ([] : List Int)] = some (0, [.l TB (bes n w)]) := by
    rw [w1, op_L30_3_eq]
    exact lp30 n w [] FU h (by simp; omega) (by unfold FU; omega)
  rw [op_30_eq]
  refine fn_30_t_im n w _ ?_
  unfold fn_30_t
  exact sel_t (by erw [e]; rfl) (by erw [e]; rfl)
theorem lp35b (n : Int) (w : Nat) (hw : w ≤ 8) : ∀ (k : Nat) (l : List Int) (f : Nat), k ≤ w → l.length + k ≤ 1000000 → k < f → iterS st_L35b_1 f [.k 0, .n n, .n (w : Int), .n (w : Int), .n ((w : Int) - k), .l TB l] = some (0, [.l TB (l ++ bes n k)])
  | _, _, 0, _, _, h => by omega
  | 0, l, f + 1, h, hl, hf => by
    have e : (st_L35b_1 [.k 0, .n n, .n (w : Int), .n (w : Int), .n ((w : Int) - ((0 : Nat) : Int)), .l TB l]).sel = some (.stop 0 [.l TB l]) := by
      refine fn_L35b_1_o_im n _ _ _ l _ ?_
      unfold fn_L35b_1_o
      exact sel_f (decide_eq_false (by omega)) rfl
    unfold iterS
    rw [e]
    show some (0, [Dat.l TB l]) = some (0, [Dat.l TB (l ++ bes n 0)])
    rw [bes, List.append_nil]
  | k + 1, l, f + 1, h, hl, hf => by
    have w8 : IntKind.wrap .i64 (8 * IntKind.wrap .i64 (IntKind.wrap .i64 ((w : Int) - 1) - ((w : Int) - ((k + 1 : Nat) : Int)))) = 8 * (k : Int) := by simp only [w64d]; omega
    have w1 : IntKind.wrap .i64 ((w : Int) - ((k + 1 : Nat) : Int) + 1) = (w : Int) - (k : Int) := by rw [w64d]; omega
    have e : (st_L35b_1 [.k 0, .n n, .n (w : Int), .n (w : Int), .n ((w : Int) - ((k + 1 : Nat) : Int)), .l TB l]).sel = some (.go [.k 0, .n n, .n (w : Int), .n (w : Int), .n ((w : Int) - (k : Int)), .l TB (l ++ [byt n k])]) := by
      refine fn_L35b_1_o_im n _ _ _ l _ ?_
      unfold fn_L35b_1_o
      refine sel_t (decide_eq_true (by omega)) (sel_t (by rw [w8]; simp; omega) (sel_t (decide_eq_true (show (l.length + 1) * 1 ≤ 140737488355328 by omega)) ?_))
      show some (Step.go [.k 0, .n n, .n (w : Int), .n (w : Int), .n (IntKind.wrap .i64 ((w : Int) - ((k + 1 : Nat) : Int) + 1)), .l TB (l ++ [IntKind.wrap .u8 (ishr .u64 n (IntKind.wrap .i64 (8 * IntKind.wrap .i64 (IntKind.wrap .i64 ((w : Int) - 1) - ((w : Int) - ((k + 1 : Nat) : Int))))))])]) = _
      rw [w8, w1]; rfl
    unfold iterS
    rw [e]
    have ih := lp35b n w hw k (l ++ [byt n k]) f (by omega) (by rw [List.length_append]; simp; omega) (by omega)
    rw [List.append_assoc] at ih
    exact ih
theorem lp35a (n : Int) (w : Nat) (hw : w ≤ 8) : ∀ (k : Nat) (l : List Int) (f : Nat), k ≤ w → l.length + k ≤ 1000000 → k < f → iterS st_L35a_1 f [.k 1, .n n, .n (w : Int), .n (w : Int), .n ((w : Int) - k), .l TB l] = some (1, [.l TB (l ++ bes n k)])
  | _, _, 0, _, _, h => by omega
  | 0, l, f + 1, h, hl, hf => by
    have e : (st_L35a_1 [.k 1, .n n, .n (w : Int), .n (w : Int), .n ((w : Int) - ((0 : Nat) : Int)), .l TB l]).sel = some (.stop 1 [.l TB l]) := by
      refine fn_L35a_1_o_im n _ _ _ l _ ?_
      unfold fn_L35a_1_o
      exact sel_f (decide_eq_false (by omega)) rfl
    unfold iterS
    rw [e]
    show some (1, [Dat.l TB l]) = some (1, [Dat.l TB (l ++ bes n 0)])
    rw [bes, List.append_nil]
  | k + 1, l, f + 1, h, hl, hf => by
    have w8 : IntKind.wrap .i64 (8 * IntKind.wrap .i64 (IntKind.wrap .i64 ((w : Int) - 1) - ((w : Int) - ((k + 1 : Nat) : Int)))) = 8 * (k : Int) := by simp only [w64d]; omega
    have w1 : IntKind.wrap .i64 ((w : Int) - ((k + 1 : Nat) : Int) + 1) = (w : Int) - (k : Int) := by rw [w64d]; omega
    have e : (st_L35a_1 [.k 1, .n n, .n (w : Int), .n (w : Int), .n ((w : Int) - ((k + 1 : Nat) : Int)), .l TB l]).sel = some (.go [.k 1, .n n, .n (w : Int), .n (w : Int), .n ((w : Int) - (k : Int)), .l TB (l ++ [byt n k])]) := by
      refine fn_L35a_1_o_im n _ _ _ l _ ?_
      unfold fn_L35a_1_o
      refine sel_t (decide_eq_true (by omega)) (sel_t (by rw [w8]; simp; omega) (sel_t (decide_eq_true (show (l.length + 1) * 1 ≤ 140737488355328 by omega)) ?_))
      show some (Step.go [.k 1, .n n, .n (w : Int), .n (w : Int), .n (IntKind.wrap .i64 ((w : Int) - ((k + 1 : Nat) : Int) + 1)), .l TB (l ++ [IntKind.wrap .u8 (ishr .u64 n (IntKind.wrap .i64 (8 * IntKind.wrap .i64 (IntKind.wrap .i64 ((w : Int) - 1) - ((w : Int) - ((k + 1 : Nat) : Int))))))])]) = _
      rw [w8, w1]; rfl
    unfold iterS
    rw [e]
    have ih := lp35a n w hw k (l ++ [byt n k]) f (by omega) (by rw [List.length_append]; simp; omega) (by omega)
    rw [List.append_assoc] at ih
    exact ih
theorem t35b (n : Int) (w : Nat) (h : w ≤ 8) (l : List Int) (hl : l.length ≤ 999000) : op_35b [.n n, .n (w : Int), .l TB l] = some (0, [.l TB (l ++ bes n w)]) := by
  have e : op_L35b_1 [.k 0, .n n, .n (w : Int), .n (w : Int), .n 0, .l TB l] = some (0, [.l TB (l ++ bes n w)]) := by
    rw [op_L35b_1_eq]
    have := lp35b n w h w l FU (Nat.le_refl _) (by omega) (by unfold FU; omega)
    rw [show (w : Int) - (w : Int) = 0 by omega] at this
    exact this
  rw [op_35b_eq]
  refine fn_35b_t_im n w l _ ?_
  unfold fn_35b_t
  exact sel_t (by erw [e]; rfl) (by erw [e]; rfl)
theorem t35a (n : Int) (w : Nat) (h : w ≤ 8) (h1 : 1 ≤ w) : op_35a [.n n, .n (w : Int)] = some (1, [.l TB (bes n w)]) := by
  obtain ⟨k, rfl⟩ : ∃ k, w = k + 1 := ⟨w - 1, by omega⟩
  have e : op_L35a_1 [.k 0, .n n, .n ((k + 1 : Nat) : Int), .n ((k + 1 : Nat) : Int), .n 0] = some (1, [.l TB (bes n (k + 1))]) := by
    have w8 : IntKind.wrap .i64 (8 * IntKind.wrap .i64 (IntKind.wrap .i64 (((k + 1 : Nat) : Int) - 1) - 0)) = 8 * (k : Int) := by simp only [w64d]; omega
    have w1 : IntKind.wrap .i64 ((0 : Int) + 1) = ((k + 1 : Nat) : Int) - (k : Int) := by rw [w64d]; omega
    have e : (st_L35a_1 [.k 0, .n n, .n ((k + 1 : Nat) : Int), .n ((k + 1 : Nat) : Int), .n 0]).sel = some (.go [.k 1, .n n, .n ((k + 1 : Nat) : Int), .n ((k + 1 : Nat) : Int), .n (((k + 1 : Nat) : Int) - (k : Int)), .l TB [byt n k]]) := by
      refine fn_L35a_1_n_im n _ _ _ _ ?_
      unfold fn_L35a_1_n
      refine sel_t (decide_eq_true (by omega)) (sel_t (by rw [w8]; simp; omega) ?_)
      show some (Step.go [.k 1, .n n, .n ((k + 1 : Nat) : Int), .n ((k + 1 : Nat) : Int), .n (IntKind.wrap .i64 ((0 : Int) + 1)), .l TB [IntKind.wrap .u8 (ishr .u64 n (IntKind.wrap .i64 (8 * IntKind.wrap .i64 (IntKind.wrap .i64 (((k + 1 : Nat) : Int) - 1) - 0))))]]) = _
      rw [w8, w1]; rfl
    rw [op_L35a_1_eq, show FU = 18446744073709551615 + 1 from rfl]
    unfold iterS
    rw [e]
    exact lp35a n (k + 1) h k [byt n k] 18446744073709551615 (by omega) (by simp; omega) (by omega)
  rw [op_35a_eq]
  refine fn_35a_t_im n _ _ ?_
  unfold fn_35a_t
  exact sel_f (by erw [e]; rfl) (sel_t (by erw [e]; rfl) (by erw [e]; rfl))
theorem q12 (l : List Int) (hl : l.length ≤ 1000000) : op_q12 [.l TB l] = some (0, [.n (N (Sm l))]) := by
  rw [op_q12_eq]; exact t12 l (by omega)
theorem q13 (l : List Int) (hl : l.length ≤ 1000000) (hw : Wb l) : op_q13 [.l TB l] = some (0, [.n (N (Sm l))]) := by
  rw [op_q13_eq]; exact t13 l (by omega) hw
def win (m : Int) (l : List Int) : Bool := l.all fun x => !decide (x < 0) && !decide (x > m)
theorem drop_getD {l : List Int} {i : Nat} (h : i < l.length) : l.drop i = l.getD i 0 :: l.drop (i + 1) := by
  rw [List.drop_eq_getElem_cons h, List.getD_eq_getElem?_getD, List.getElem?_eq_getElem h]; rfl
def lgs (l : List Int) : List Int := l.flatMap fun n => bes n 8
theorem lgs_len (l : List Int) : (lgs l).length = 8 * l.length := by
  induction l with
  | nil => rfl
  | cons a l ih => unfold lgs at *; rw [List.flatMap_cons, List.length_append, be_len, ih, List.length_cons]; omega
theorem lp88 (ns : List Int) (hn : ns.length ≤ 1000) : ∀ (k i : Nat) (l : List Int) (f : Nat), i + k = ns.length → l.length + 8 * k ≤ 990000 → k < f → iterS st_L88_1 f [.k 0, .n (ns.length : Int), .n (i : Int), .l TL ns, .l TB l] = some (0, [.l TB (l ++ lgs (ns.drop i))])
  | _, _, _, 0, _, _, h => by omega
  | 0, i, l, f + 1, hi, hl, hf => by
    have e : (st_L88_1 [.k 0, .n (ns.length : Int), .n (i : Int), .l TL ns, .l TB l]).sel = some (.stop 0 [.l TB l]) := by
      refine fn_L88_1_t_im _ _ ns l (by omega) rfl _ ?_
      unfold fn_L88_1_t
      exact sel_f (decide_eq_false (show ¬ ((i : Int) < (ns.length : Int)) by omega)) rfl
    unfold iterS
    rw [e, List.drop_eq_nil_of_le (by omega)]
    exact congrArg (fun z : List Int => some (0, [Dat.l TB z])) (List.append_nil l).symm
  | k + 1, i, l, f + 1, hi, hl, hf => by
    have w : IntKind.wrap .i64 ((i : Int) + 1) = ((i + 1 : Nat) : Int) := by rw [w64d]; omega
    have e1 := t35b (ns.getD i 0) 8 (by omega) l (by omega)
    have e : (st_L88_1 [.k 0, .n (ns.length : Int), .n (i : Int), .l TL ns, .l TB l]).sel = some (.go [.k 0, .n (ns.length : Int), .n ((i + 1 : Nat) : Int), .l TL ns, .l TB (l ++ bes (ns.getD i 0) 8)]) := by
      refine fn_L88_1_t_im _ _ ns l (by omega) rfl _ ?_
      unfold fn_L88_1_t
      refine sel_t (decide_eq_true (show (i : Int) < (ns.length : Int) by omega)) (sel_t (by erw [e1]; rfl) ?_)
      erw [e1]
      rw [w]; rfl
    unfold iterS
    rw [e]
    have ih := lp88 ns hn k (i + 1) (l ++ bes (ns.getD i 0) 8) f (by omega) (by rw [List.length_append, be_len]; omega) (by omega)
    rw [drop_getD (show i < ns.length by omega)]
    have hc : lgs (ns.getD i 0 :: ns.drop (i + 1)) = bes (ns.getD i 0) 8 ++ lgs (ns.drop (i + 1)) := rfl
    rw [hc, ← List.append_assoc]
    exact ih
theorem t88 (ns l : List Int) (hn : ns.length ≤ 1000) (hl : l.length + 8 * ns.length ≤ 990000) : op_88 [.l TL ns, .l TB l] = some (0, [.l TB (l ++ lgs ns)]) := by
  have e : op_L88_1 [.k 0, .n (ns.length : Int), .n 0, .l TL ns, .l TB l] = some (0, [.l TB (l ++ lgs ns)]) := by
    rw [op_L88_1_eq]
    exact lp88 ns hn ns.length 0 l FU (by omega) (by omega) (by unfold FU; omega)
  rw [op_88_eq]
  refine fn_88_t_im ns l _ ?_
  unfold fn_88_t
  exact sel_t (by erw [e]; rfl) (by erw [e]; rfl)
def chk (l : List Int) : List Int := l ++ bes (IntKind.wrap .u64 (N (Sm l))) 4
theorem chk_len (l : List Int) : (chk l).length = l.length + 4 := by unfold chk; rw [List.length_append, be_len]
theorem bes1 {c : Int} (h0 : 0 ≤ c) (h1 : c < 256) : bes (IntKind.wrap .u64 c) 1 = [c] := by
  have e : IntKind.wrap .u64 c = c := by rw [wu64]; omega
  rw [e]
  show [IntKind.wrap .u8 (ishr .u64 c (8 * ((0 : Nat) : Int)))] = [c]
  have e2 : ishr .u64 c (8 * ((0 : Nat) : Int)) = c := by
    rw [show (8 * ((0 : Nat) : Int)) = 0 from rfl]
    unfold ishr; simp
  rw [e2, wu8]
  congr 1
  omega
def outB (c y p q u : Int) : List Int := [2, c] ++ bes (IntKind.wrap .u64 y) 8 ++ bes (IntKind.wrap .u64 p) 8 ++ bes q 8 ++ bes (IntKind.wrap .u64 u) 4
theorem outB_len (c y p q u : Int) : (outB c y p q u).length = 30 := by unfold outB; simp only [List.length_append, be_len]; rfl
theorem outB_wb (c y p q u : Int) (h0 : 0 ≤ c) (h1 : c < 256) : Wb (outB c y p q u) := by
  intro b hb
  unfold outB at hb
  simp only [List.mem_append, List.mem_cons, List.not_mem_nil, or_false] at hb
  rcases hb with ((((rfl | rfl) | hb) | hb) | hb) | hb
  all_goals first | omega | exact be_wb _ _ _ hb | (rcases hb with hb | hb <;> exact be_wb _ _ _ hb)
def stL (a b c : Int) (t : List Int) (u : Int) : List Int := bes a 8 ++ bes b 8 ++ bes c 8 ++ t ++ bes (IntKind.wrap .u64 u) 4
theorem stL_len (a b c : Int) (t : List Int) (u : Int) (ht : t.length = 64) : (stL a b c t u).length = 92 := by unfold stL; simp only [List.length_append, be_len, ht]
theorem b3 : bes 3 1 = [3] := rfl
theorem b4 : bes 4 1 = [4] := rfl
theorem b5 : bes 5 1 = [5] := rfl
theorem p11 (a b c : Int) (t : List Int) (u : Int) (ht : t.length = 64) : op_11p [.n a, .n b, .n c, .l TB t, .n u] = some (0, [.l TB (chk (3 :: stL a b c t u))]) := by
  have hb : bes 3 1 ++ lgs [a, b, c] ++ t ++ bes (IntKind.wrap .u64 u) 4 = 3 :: stL a b c t u := by
    rw [b3]
    unfold stL lgs
    simp only [List.flatMap_cons, List.flatMap_nil, List.append_assoc, List.append_nil, List.cons_append, List.nil_append]
  have hl : (3 :: stL a b c t u).length = 93 := by rw [List.length_cons, stL_len a b c t u ht]
  have e1 := t35a 3 1 (by omega) (by omega)
  have e2 := t88 [a, b, c] (bes 3 1) (by simp) (by simp [be_len])
  have e3 := t35b (IntKind.wrap .u64 u) 4 (by omega) (bes 3 1 ++ lgs [a, b, c] ++ t) (by simp [be_len, lgs_len, ht])
  rw [hb] at e3
  have eA := t31 (l := 3 :: stL a b c t u) (by omega)
  have eB := q12 (3 :: stL a b c t u) (by omega)
  have eC := t35b (IntKind.wrap .u64 (N (Sm (3 :: stL a b c t u)))) 4 (by omega) (3 :: stL a b c t u) (by omega)
  have eD := t31 (l := chk (3 :: stL a b c t u)) (by rw [chk_len]; omega)
  rw [op_11p_eq]
  refine fn_11p_t_im _ _ _ _ _ ht _ ?_
  unfold fn_11p_t
  dsimp only
  erw [e1]
  refine sel_f rfl (sel_t rfl ?_)
  erw [e2]
  refine sel_t rfl ?_
  refine sel_t (decide_eq_true (show ((bes 3 1 ++ lgs [a, b, c]).length + t.length) * 1 ≤ 140737488355328 by simp only [List.length_append, lgs_len, be_len, ht, List.length_cons, List.length_nil]; omega)) ?_
  erw [e3]
  refine sel_t rfl ?_
  erw [eA]
  refine sel_t rfl ?_
  erw [eB]
  refine sel_t rfl ?_
  erw [eC]
  refine sel_t rfl ?_
  erw [eD]
  rfl
def logL (e y a b c : Int) (t : List Int) (u : Int) : List Int := [4] ++ bes (IntKind.wrap .u64 e) 8 ++ bes (IntKind.wrap .u64 y) 8 ++ stL a b c t u
theorem logL_len (e y a b c : Int) (t : List Int) (u : Int) (ht : t.length = 64) : (logL e y a b c t u).length = 109 := by unfold logL; simp only [List.length_append, be_len, stL_len a b c t u ht]; rfl
def liL (x y s k : Int) (l : List Int) : List Int := [5, x, y] ++ bes (IntKind.wrap .u64 s) 8 ++ bes (IntKind.wrap .u64 k) 8 ++ bes (IntKind.wrap .u64 (l.length : Int)) 2 ++ l
theorem liL_len (x y s k : Int) (l : List Int) : (liL x y s k l).length = 21 + l.length := by unfold liL; simp only [List.length_append, be_len]; rfl
theorem win2_t {m a b : Int} (h : 0 ≤ a ∧ a ≤ m ∧ 0 ≤ b ∧ b ≤ m) : win m [a, b] = true := by
  unfold win; simp; omega
theorem win2_f {m a b : Int} (h : ¬ (0 ≤ a ∧ a ≤ m ∧ 0 ≤ b ∧ b ≤ m)) : win m [a, b] = false := by
  cases hh : win m [a, b] with
  | false => rfl
  | true => exfalso; apply h; unfold win at hh; simp at hh; omega
theorem ndt {p : Prop} [Decidable p] (h : p) : (!decide p) = false := by rw [decide_eq_true h]; rfl
theorem ndf {p : Prop} [Decidable p] (h : ¬ p) : (!decide p) = true := by rw [decide_eq_false h]; rfl
theorem Wb.app {a b : List Int} (h : Wb a) (k : Wb b) : Wb (a ++ b) := fun x hx => (List.mem_append.1 hx).elim (h x) (k x)
theorem Wb.cons {a : Int} {b : List Int} (h : 0 ≤ a ∧ a < 256) (k : Wb b) : Wb (a :: b) := fun x hx => (List.mem_cons.1 hx).elim (fun e => e ▸ h) (k x)
theorem Wb.nil : Wb [] := fun x hx => by cases hx
theorem stL_wb {a b c : Int} {t : List Int} {u : Int} (h : Wb t) : Wb (stL a b c t u) := (((be_wb _ _).app (be_wb _ _)).app (be_wb _ _)).app h |>.app (be_wb _ _)
theorem logL_wb {e y a b c : Int} {t : List Int} {u : Int} (h : Wb t) : Wb (logL e y a b c t u) := (((Wb.nil.cons (a := 4) (by omega)).app (be_wb _ _)).app (be_wb _ _)).app (stL_wb h)
theorem liL_wb {x y s k : Int} {l : List Int} (hx : 0 ≤ x ∧ x < 256) (hy : 0 ≤ y ∧ y < 256) (h : Wb l) : Wb (liL x y s k l) := ((((Wb.nil.cons hy).cons hx).cons (a := 5) (by omega)).app (be_wb _ _)).app (be_wb _ _) |>.app (be_wb _ _) |>.app h
theorem lp43 (a b c u : Int) (t : List Int) (ht : t.length = 64) : ∀ (k i : Nat) (l : List Int) (f : Nat), i + k = 64 → l.length + k ≤ 100000 → k < f → iterS st_L43_5 f [.k 0, .n (i : Int), .n a, .n b, .n c, .l TB t, .n u, .l TB l] = some (0, [.n a, .n b, .n c, .l TB t, .n u, .l TB (l ++ t.drop i)])
  | _, _, _, 0, _, _, h => by omega
  | 0, i, l, f + 1, hi, hl, hf => by
    have e : (st_L43_5 [.k 0, .n (i : Int), .n a, .n b, .n c, .l TB t, .n u, .l TB l]).sel = some (.stop 0 [.n a, .n b, .n c, .l TB t, .n u, .l TB l]) := by
      refine fn_L43_5_t_im _ _ _ _ t _ l ht (by omega) _ ?_
      unfold fn_L43_5_t
      exact sel_f (decide_eq_false (by omega)) rfl
    unfold iterS
    rw [e, List.drop_eq_nil_of_le (by omega)]
    exact congrArg (fun z : List Int => some (0, [Dat.n a, .n b, .n c, .l TB t, .n u, .l TB z])) (List.append_nil l).symm
  | k + 1, i, l, f + 1, hi, hl, hf => by
    have w : IntKind.wrap .i64 ((i : Int) + 1) = ((i + 1 : Nat) : Int) := by rw [w64d]; omega
    have e : (st_L43_5 [.k 0, .n (i : Int), .n a, .n b, .n c, .l TB t, .n u, .l TB l]).sel = some (.go [.k 0, .n ((i + 1 : Nat) : Int), .n a, .n b, .n c, .l TB t, .n u, .l TB (l ++ [t.getD i 0])]) := by
      refine fn_L43_5_t_im _ _ _ _ t _ l ht (by omega) _ ?_
      unfold fn_L43_5_t
      refine sel_t (decide_eq_true (by omega)) (sel_t (decide_eq_true (show (l.length + 1) * 1 ≤ 140737488355328 by omega)) ?_)
      rw [w]; rfl
    unfold iterS
    rw [e]
    have ih := lp43 a b c u t ht k (i + 1) (l ++ [t.getD i 0]) f (by omega) (by rw [List.length_append]; simp; omega) (by omega)
    rw [drop_getD (show i < t.length by omega)]
    rw [List.append_assoc] at ih
    exact ih
theorem t43 (a b c : Int) (t : List Int) (u : Int) (ht : t.length = 64) : op_43 [.n a, .n b, .n c, .l TB t, .n u] = some (0, [.l TB (stL a b c t u)]) := by
  have e1 := t30 a 8 (by omega)
  have e2 := t30 b 8 (by omega)
  have e3 := t30 c 8 (by omega)
  have e4 : op_L43_5 [.k 0, .n 0, .n a, .n b, .n c, .l TB t, .n u, .l TB (bes a 8 ++ bes b 8 ++ bes c 8)] = some (0, [.n a, .n b, .n c, .l TB t, .n u, .l TB (bes a 8 ++ bes b 8 ++ bes c 8 ++ t)]) := by
    rw [op_L43_5_eq]
    exact lp43 a b c u t ht 64 0 (bes a 8 ++ bes b 8 ++ bes c 8) FU (by omega) (by simp [be_len]) (by unfold FU; omega)
  have e5 := t30 (IntKind.wrap .u64 u) 4 (by omega)
  rw [op_43_eq]
  refine fn_43_t_im _ _ _ _ _ ht _ ?_
  unfold fn_43_t
  dsimp only
  erw [e1]
  refine sel_t rfl ?_
  erw [e2]
  refine sel_t rfl ?_
  refine sel_t (decide_eq_true (show ((bes a 8 : List Int).length + (bes b 8).length) * 1 ≤ 140737488355328 by simp only [List.length_append, be_len, List.length_cons, List.length_nil]; omega)) ?_
  erw [e3]
  refine sel_t rfl ?_
  refine sel_t (decide_eq_true (show ((bes a 8 ++ bes b 8 : List Int).length + (bes c 8).length) * 1 ≤ 140737488355328 by simp only [List.length_append, be_len, List.length_cons, List.length_nil]; omega)) ?_
  erw [e4]
  refine sel_t rfl ?_
  erw [e5]
  refine sel_t rfl ?_
  refine sel_t (decide_eq_true (show ((bes a 8 ++ bes b 8 ++ bes c 8 ++ t : List Int).length + (bes (IntKind.wrap .u64 u) 4).length) * 1 ≤ 140737488355328 by simp only [List.length_append, be_len, List.length_cons, List.length_nil, ht]; omega)) ?_
  rfl
theorem m18 (a b c : Int) (t : List Int) (u : Int) (ht : t.length = 64) (hw : Wb t) : op_18p [.n a, .n b, .n c, .l TB t, .n u] = some (0, [.l TB (chk (3 :: stL a b c t u))]) := by
  have hs := stL_len a b c t u ht
  have hl : (3 :: stL a b c t u).length = 93 := by rw [List.length_cons, hs]
  have e1 := t43 a b c t u ht
  have e2 := q13 (3 :: stL a b c t u) (by omega) ((stL_wb hw).cons (by omega))
  have e3 := t30 (IntKind.wrap .u64 (N (Sm (3 :: stL a b c t u)))) 4 (by omega)
  rw [op_18p_eq]
  refine fn_18p_t_im _ _ _ _ _ ht _ ?_
  unfold fn_18p_t
  dsimp only
  erw [e1]
  refine sel_t rfl ?_
  refine sel_t (decide_eq_true (show (([3] : List Int).length + (stL a b c t u).length) * 1 ≤ 140737488355328 by simp only [List.length_append, be_len, List.length_cons, List.length_nil, hs]; omega)) ?_
  erw [e2]
  refine sel_t rfl ?_
  erw [e3]
  refine sel_t rfl ?_
  refine sel_t (decide_eq_true (show ((3 :: stL a b c t u : List Int).length + (bes (IntKind.wrap .u64 (N (Sm (3 :: stL a b c t u)))) 4).length) * 1 ≤ 140737488355328 by simp only [List.length_append, be_len, List.length_cons, List.length_nil, hs]; omega)) ?_
  rfl
def ck (a b : Int) : Bool := !decide (a < 1) && (!decide (a > 3) && win 63 [b])
def cb (a b : Int) : List Int := [a, IntKind.wrap .u8 b]
theorem win1_t {m a : Int} (h : 0 ≤ a ∧ a ≤ m) : win m [a] = true := by
  unfold win; simp; omega
theorem win1_f {m a : Int} (h : ¬ (0 ≤ a ∧ a ≤ m)) : win m [a] = false := by
  cases hh : win m [a] with
  | false => rfl
  | true => exfalso; apply h; unfold win at hh; simp at hh; omega
theorem ck_1 {a b : Int} (h : ck a b = true) : 1 ≤ a ∧ a ≤ 3 := by
  unfold ck at h; simp at h; omega
theorem b1 : bes 1 1 = [1] := rfl
theorem bytes_back {b : List Int} (h : Wb b) : bytesOf (strOf b) = b := by
  unfold bytesOf strOf
  simp only [List.map_map]
  conv => rhs; rw [← List.map_id b]
  refine List.map_congr_left fun x hx => ?_
  have := h x hx
  show (((UInt8.ofNat x.toNat).toNat : Nat) : Int) = x
  rw [UInt8.toNat_ofNat']
  omega
theorem bif_len (c : Bool) {l : List Int} {n : Nat} (h : l.length ≤ n) : (bif c then l else []).length ≤ n := by
  cases c
  · exact Nat.zero_le _
  · exact h
abbrev TU8 : Ty := .int .u8
abbrev TOut : Ty := .pair TU8 (.pair TI (.pair TI (.pair TL (.int .u32))))
abbrev TStt : Ty := .pair TL (.pair TL (.pair TL (.pair (.arr 64 TB) (.int .u32))))
abbrev TLog : Ty := .pair TI (.pair TI TStt)
abbrev TLnk : Ty := .pair TU8 (.pair TU8 (.pair TI (.pair TI (.sl TB))))
theorem wf8 {n : Int} (h : wfD (.int .u8) n = true) : 0 ≤ n ∧ n < 256 := by
  have a' : (decide (IntKind.min .u8 ≤ n) && decide (n ≤ IntKind.max .u8)) = true := h
  rw [Bool.and_eq_true, decide_eq_true_eq, decide_eq_true_eq] at a'
  have m1 : IntKind.min .u8 = 0 := rfl
  have m2 : IntKind.max .u8 = 255 := rfl
  omega
theorem wf_arr {l : List (Ty.den TB)} (h : wfD (.arr 64 TB) l = true) : l.length = 64 ∧ Wb l := by
  have h' : (decide (l.length = 64) && wfL (wfD TB) l) = true := h
  rw [Bool.and_eq_true, decide_eq_true_eq, wfL_iff] at h'
  exact ⟨h'.1, fun x hx => wf8 (h'.2 x hx)⟩
theorem wf_sl {l : List (Ty.den TB)} (h : wfD (.sl TB) l = true) : Wb l := by
  have h' : (decide (l.length ≤ maxLen) && wfL (wfD TB) l) = true := h
  rw [Bool.and_eq_true, wfL_iff] at h'
  exact fun x hx => wf8 (h'.2 x hx)
theorem wp1 {a b : Ty} {d : (Ty.pair a b).den} (h : wfD (.pair a b) d = true) : wfD a d.1 = true := (wf_get h).1
theorem wp2 {a b : Ty} {d : (Ty.pair a b).den} (h : wfD (.pair a b) d = true) : wfD b d.2 = true := (wf_get h).2
def nm (l : List Int) : Int := l.foldl (fun a b => a * 256 + b) 0
theorem nm_snoc (l : List Int) (b : Int) : nm (l ++ [b]) = nm l * 256 + b := by simp [nm]
theorem fold_bd : ∀ (l : List Int) (a m : Int), Wb l → 0 ≤ a → a < m → 0 ≤ l.foldl (fun a b => a * 256 + b) a ∧ l.foldl (fun a b => a * 256 + b) a < m * 256 ^ l.length
  | [], a, m, _, h0, h1 => by simp; exact ⟨h0, h1⟩
  | b :: l, a, m, hw, h0, h1 => by
    have hb := hw b (by simp)
    have := fold_bd l (a * 256 + b) (m * 256) (fun x hx => hw x (by simp [hx])) (by omega) (by omega)
    simp only [List.foldl_cons, List.length_cons, Int.pow_succ]
    rw [Int.mul_comm (256 ^ l.length) 256, ← Int.mul_assoc]
    exact this
theorem nm_bd {l : List Int} (h : Wb l) : 0 ≤ nm l ∧ nm l < 256 ^ l.length := by
  have := fold_bd l 0 1 h (by omega) (by omega)
  rw [Int.one_mul] at this
  exact this
theorem Wb.take {l : List Int} (h : Wb l) (n : Nat) : Wb (l.take n) := fun b hb => h b (List.mem_of_mem_take hb)
theorem Wb.drop {l : List Int} (h : Wb l) (n : Nat) : Wb (l.drop n) := fun b hb => h b (List.mem_of_mem_drop hb)
theorem pow_le {n : Nat} (h : n ≤ 7) : (256 : Int) ^ n ≤ 72057594037927936 := by
  have : n = 0 ∨ n = 1 ∨ n = 2 ∨ n = 3 ∨ n = 4 ∨ n = 5 ∨ n = 6 ∨ n = 7 := by omega
  rcases this with rfl | rfl | rfl | rfl | rfl | rfl | rfl | rfl <;> decide
theorem st8 {a b : Int} (h0 : 0 ≤ a) (h1 : a < 72057594037927936) (b0 : 0 ≤ b) (b1 : b < 256) : ior .u64 (ishl .u64 a 8) (IntKind.wrap .u64 b) = a * 256 + b := by
  have e1 : ishl .u64 a 8 = a * 256 := by
    have : ishl .u64 a 8 = IntKind.wrap .u64 (a * 2 ^ 8) := rfl
    rw [this, wu64]
    have : (2 : Int) ^ 8 = 256 := by decide
    rw [this]; omega
  have e2 : IntKind.wrap .u64 b = b := by rw [wu64]; omega
  rw [e1, e2]
  obtain ⟨x, rfl⟩ : ∃ x : Nat, a = x := ⟨a.toNat, by omega⟩
  obtain ⟨y, rfl⟩ : ∃ y : Nat, b = y := ⟨b.toNat, by omega⟩
  have e3 : ior .u64 ((x : Int) * 256) (y : Int) = IntKind.wrap .u64 ((BitVec.ofInt 64 ((x : Int) * 256) ||| BitVec.ofInt 64 (y : Int)).toNat : Int) := rfl
  rw [e3]
  have e4 : (x : Int) * 256 = ((x * 256 : Nat) : Int) := by omega
  rw [e4, BitVec.ofInt_natCast, BitVec.ofInt_natCast, BitVec.toNat_or, BitVec.toNat_ofNat, BitVec.toNat_ofNat, Nat.mod_eq_of_lt (by omega), Nat.mod_eq_of_lt (by omega)]
  have e5 : x * 256 ||| y = x * 256 + y := by
    have := Nat.shiftLeft_add_eq_or_of_lt (i := 8) (b := y) (by omega) x
    rw [Nat.shiftLeft_eq] at this
    exact this.symm
  rw [e5, wu64]; omega
theorem nm_step {l : List Int} (hw : Wb l) (hl : l.length ≤ 8) {n : Nat} (h : n < l.length) : ior .u64 (ishl .u64 (nm (l.take n)) 8) (IntKind.wrap .u64 (l.getD n 0)) = nm (l.take (n + 1)) := by
  have hb := nm_bd (hw.take n)
  have hle : (l.take n).length ≤ 7 := by rw [List.length_take]; omega
  have := pow_le hle
  have hx := hw (l.getD n 0) (by rw [List.getD_eq_getElem?_getD, List.getElem?_eq_getElem h]; simp)
  rw [take_getD h, nm_snoc]
  exact st8 hb.1 (by omega) hx.1 hx.2
theorem step2 {l : List Int} (hw : Wb l) (hl : l.length ≤ 8) {n : Int} (h0 : 0 ≤ n) (h1 : n < (l.length : Int)) : ior .u64 (ishl .u64 (nm (l.take n.toNat)) 8) (IntKind.wrap .u64 (l.getD n.toNat 0)) = nm (l.take (n + 1).toNat) := by
  have e : (n + 1).toNat = n.toNat + 1 := by omega
  rw [e]; exact nm_step hw hl (by omega)
theorem lp17r {l : List Int} (hl : l.length ≤ 8) (hw : Wb l) : op_L17r_3 [.k 0, .l TB l, .n 0, .n 0] = some (0, [.n (nm l)]) := by
  rw [op_L17r_3_eq]
  refine iterS_count (fun i => [.k 0, .l TB l, .n (nm (l.take i.toNat)), .n i]) (l.length : Int) (0, [.n (nm l)]) (fun n h0 h1 => ?_) ?_ FU 0 (by omega) (by omega) (by show ((l.length : Int) - 0).toNat < FU; unfold FU; omega)
  · have w := w64s (x := n + 1) (by omega) (by omega)
    refine fn_L17r_3_t_im l (nm (l.take n.toNat)) n _ ?_
    unfold fn_L17r_3_t
    refine sel_t (decide_eq_true (show n < (l.length : Int) from h1)) (sel_t (inR_true h0 h1) ?_)
    show some (Step.go [.k 0, .l TB l, .n (ior .u64 (ishl .u64 (nm (l.take n.toNat)) 8) (IntKind.wrap .u64 (l.getD n.toNat 0))), .n (IntKind.wrap .i64 (n + 1))]) = _
    rw [step2 hw hl h0 h1, w]
  · refine fn_L17r_3_t_im l _ _ _ ?_
    unfold fn_L17r_3_t
    refine sel_f (decide_eq_false (show ¬ ((l.length : Int) < (l.length : Int)) by omega)) ?_
    show some (Step.stop 0 [.n (nm (l.take (l.length : Int).toNat))]) = some (Step.stop 0 [.n (nm l)])
    rw [show (l.length : Int).toNat = l.length by omega, List.take_length]
theorem t17r {l : List Int} (hl : l.length ≤ 8) (hw : Wb l) : op_17r [.l TB l] = some (0, [.n (nm l)]) := by
  rw [op_17r_eq]
  refine fn_17r_t_im l _ ?_
  unfold fn_17r_t
  have e := lp17r hl hw
  exact sel_t (by erw [e]; rfl) (by erw [e]; rfl)
theorem lp34 {l : List Int} (hl : l.length ≤ 8) (hw : Wb l) (n : Int) (r : List Int) (b : Bool) : op_L34r_3 [.k 0, .n n, .n 0, .l TB l, .n (l.length : Int), .n 0, .l TB r, .b b] = some (0, [.n n, .n (nm l), .l TB r, .b b]) := by
  rw [op_L34r_3_eq]
  refine iterS_count (fun i => [.k 0, .n n, .n (nm (l.take i.toNat)), .l TB l, .n (l.length : Int), .n i, .l TB r, .b b]) (l.length : Int) (0, [.n n, .n (nm l), .l TB r, .b b]) (fun i h0 h1 => ?_) ?_ FU 0 (by omega) (by omega) (by show ((l.length : Int) - 0).toNat < FU; unfold FU; omega)
  · have w := w64s (x := i + 1) (by omega) (by omega)
    refine fn_L34r_3_i_im n (nm (l.take i.toNat)) l (l.length : Int) i r b _ ?_
    unfold fn_L34r_3_i
    refine sel_t (decide_eq_true (show i < (l.length : Int) from h1)) (sel_t (inR_true h0 h1) ?_)
    show some (Step.go [.k 0, .n n, .n (ior .u64 (ishl .u64 (nm (l.take i.toNat)) 8) (IntKind.wrap .u64 (l.getD i.toNat 0))), .l TB l, .n (l.length : Int), .n (IntKind.wrap .i64 (i + 1)), .l TB r, .b b]) = _
    rw [step2 hw hl h0 h1, w]
  · refine fn_L34r_3_i_im n _ l (l.length : Int) _ r b _ ?_
    unfold fn_L34r_3_i
    refine sel_f (decide_eq_false (show ¬ ((l.length : Int) < (l.length : Int)) by omega)) ?_
    show some (Step.stop 0 [Dat.n n, Dat.n (nm (l.take (l.length : Int).toNat)), Dat.l TB r, Dat.b b]) = some (Step.stop 0 [Dat.n n, Dat.n (nm l), Dat.l TB r, Dat.b b])
    rw [show (l.length : Int).toNat = l.length by omega, List.take_length]
theorem lp34n (n : Int) (r : List Int) (b : Bool) : op_L34r_3 [.k 1, .n n, .n 0, .n 0, .n 0, .l TB r, .b b] = some (0, [.n n, .n 0, .l TB r, .b b]) := by
  rw [op_L34r_3_eq, show FU = 18446744073709551615 + 1 from rfl]
  unfold iterS
  rw [fn_L34r_3_n_im n 0 0 0 r b rfl rfl _ rfl]
theorem t33ok {n : Int} {l : List Int} (h0 : 0 ≤ n) (h1 : n ≤ (l.length : Int)) : op_33r [.n n, .l TB l, .b false] = some (0, [.l TB (l.take n.toNat), .l TB (l.drop n.toNat), .b false]) := by
  rw [op_33r_eq]
  refine fn_33r_t_im n l false _ ?_
  unfold fn_33r_t
  exact sel_f rfl (sel_f (decide_eq_false (by omega)) (sel_f (decide_eq_false (show ¬ (n > (l.length : Int)) by omega)) (sel_t (by simp; omega) rfl)))
theorem t33no {n : Int} {l : List Int} {b : Bool} (h : b = true ∨ n < 0 ∨ (l.length : Int) < n) : op_33r [.n n, .l TB l, .b b] = some (1, [.l TB ([] : List Int), .b true]) := by
  rw [op_33r_eq]
  refine fn_33r_t_im n l b _ ?_
  unfold fn_33r_t
  cases b with
  | true => exact sel_t rfl rfl
  | false =>
    refine sel_f rfl ?_
    by_cases h1 : n < 0
    · exact sel_t (decide_eq_true h1) rfl
    · refine sel_f (decide_eq_false h1) (sel_t (decide_eq_true (show n > (l.length : Int) from ?_)) rfl)
      rcases h with h | h | h
      · cases h
      · omega
      · exact h
theorem t34_1ok {l : List Int} (hw : Wb l) (h1 : 1 ≤ l.length) : op_34r [.n 1, .l TB l, .b false] = some (0, [.n (nm (l.take 1)), .l TB (l.drop 1), .b false]) := by
  have e1 : op_33r [.n (1 : Int), .l TB l, .b false] = some (0, [.l TB (l.take 1), .l TB (l.drop 1), .b false]) := t33ok (n := 1) (by omega) (by omega)
  have hx : (l.take 1).length = 1 := by rw [List.length_take]; omega
  have e2 := lp34 (l := l.take 1) (by omega) (hw.take 1) 1 (l.drop 1) false
  have hb := nm_bd (hw.take 1)
  rw [hx] at hb
  have wr : IntKind.wrap .u8 (nm (l.take 1)) = nm (l.take 1) := by
    have : (256 : Int) ^ 1 = 256 := by decide
    rw [wu8]; omega
  rw [op_34r_eq]
  refine fn_34r_t_im 1 l false _ ?_
  unfold fn_34r_t
  refine sel_t (by erw [e1]; rfl) (sel_t (by erw [e1]; erw [e2]; rfl) ?_)
  have e3 : op_L34r_3 [.k 0, .n (1 : Int), .n 0, .l TB (gl TB (dOf (op_33r [.n (1 : Int), .l TB l, .b false])) 0), .n (List.length (gl TB (dOf (op_33r [.n (1 : Int), .l TB l, .b false])) 0) : Int), .n 0, .l TB (gl TB (dOf (op_33r [.n (1 : Int), .l TB l, .b false])) 1), .b (gb (dOf (op_33r [.n (1 : Int), .l TB l, .b false])) 2)] = some (0, [.n 1, .n (nm (l.take 1)), .l TB (l.drop 1), .b false]) := by
    rw [e1]; exact e2
  clear e2
  have e2 := e3
  exact sel_t (by erw [e2]; rfl) (by erw [e2]; exact congrArg (fun z => some (0, [Dat.n z, .l TB (l.drop 1), .b false])) wr)
theorem t34_1no {l : List Int} {b : Bool} (h : b = true ∨ l.length < 1) : op_34r [.n 1, .l TB l, .b b] = some (0, [.n 0, .l TB ([] : List Int), .b true]) := by
  have e1 : op_33r [.n (1 : Int), .l TB l, .b b] = some (1, [.l TB ([] : List Int), .b true]) := t33no (by rcases h with h | h; exact .inl h; exact .inr (.inr (by omega)))
  have e2 : op_L34r_3 [.k 1, .n (1 : Int), .n 0, .n 0, .n 0, .l TB (gl TB (dOf (op_33r [.n (1 : Int), .l TB l, .b b])) 0), .b (gb (dOf (op_33r [.n (1 : Int), .l TB l, .b b])) 1)] = some (0, [.n 1, .n 0, .l TB ([] : List Int), .b true]) := by
    rw [e1]; exact lp34n 1 [] true
  rw [op_34r_eq]
  refine fn_34r_t_im 1 l b _ ?_
  unfold fn_34r_t
  refine sel_f (by erw [e1]; rfl) (sel_t (by erw [e1]; rfl) (sel_t (by erw [e2]; rfl) ?_))
  exact sel_t (by erw [e2]; rfl) (by erw [e2]; rfl)
theorem t34_2ok {l : List Int} (hw : Wb l) (h1 : 2 ≤ l.length) : op_34r [.n 2, .l TB l, .b false] = some (1, [.n (nm (l.take 2)), .l TB (l.drop 2), .b false]) := by
  have e1 : op_33r [.n (2 : Int), .l TB l, .b false] = some (0, [.l TB (l.take 2), .l TB (l.drop 2), .b false]) := t33ok (n := 2) (by omega) (by omega)
  have hx : (l.take 2).length = 2 := by rw [List.length_take]; omega
  have e2 := lp34 (l := l.take 2) (by omega) (hw.take 2) 2 (l.drop 2) false
  have hb := nm_bd (hw.take 2)
  rw [hx] at hb
  have wr : IntKind.wrap .u16 (nm (l.take 2)) = nm (l.take 2) := by
    have : (256 : Int) ^ 2 = 65536 := by decide
    rw [wu16]; omega
  rw [op_34r_eq]
  refine fn_34r_t_im 2 l false _ ?_
  unfold fn_34r_t
  refine sel_t (by erw [e1]; rfl) (sel_t (by erw [e1]; erw [e2]; rfl) ?_)
  have e3 : op_L34r_3 [.k 0, .n (2 : Int), .n 0, .l TB (gl TB (dOf (op_33r [.n (2 : Int), .l TB l, .b false])) 0), .n (List.length (gl TB (dOf (op_33r [.n (2 : Int), .l TB l, .b false])) 0) : Int), .n 0, .l TB (gl TB (dOf (op_33r [.n (2 : Int), .l TB l, .b false])) 1), .b (gb (dOf (op_33r [.n (2 : Int), .l TB l, .b false])) 2)] = some (0, [.n 2, .n (nm (l.take 2)), .l TB (l.drop 2), .b false]) := by
    rw [e1]; exact e2
  clear e2
  have e2 := e3
  exact sel_f (by erw [e2]; rfl) (sel_t (by erw [e2]; rfl) (by erw [e2]; exact congrArg (fun z => some (1, [Dat.n z, .l TB (l.drop 2), .b false])) wr))
theorem t34_2no {l : List Int} {b : Bool} (h : b = true ∨ l.length < 2) : op_34r [.n 2, .l TB l, .b b] = some (1, [.n 0, .l TB ([] : List Int), .b true]) := by
  have e1 : op_33r [.n (2 : Int), .l TB l, .b b] = some (1, [.l TB ([] : List Int), .b true]) := t33no (by rcases h with h | h; exact .inl h; exact .inr (.inr (by omega)))
  have e2 : op_L34r_3 [.k 1, .n (2 : Int), .n 0, .n 0, .n 0, .l TB (gl TB (dOf (op_33r [.n (2 : Int), .l TB l, .b b])) 0), .b (gb (dOf (op_33r [.n (2 : Int), .l TB l, .b b])) 1)] = some (0, [.n 2, .n 0, .l TB ([] : List Int), .b true]) := by
    rw [e1]; exact lp34n 2 [] true
  rw [op_34r_eq]
  refine fn_34r_t_im 2 l b _ ?_
  unfold fn_34r_t
  refine sel_f (by erw [e1]; rfl) (sel_t (by erw [e1]; rfl) (sel_t (by erw [e2]; rfl) ?_))
  exact sel_f (by erw [e2]; rfl) (sel_t (by erw [e2]; rfl) (by erw [e2]; rfl))
theorem t34_4ok {l : List Int} (hw : Wb l) (h1 : 4 ≤ l.length) : op_34r [.n 4, .l TB l, .b false] = some (2, [.n (nm (l.take 4)), .l TB (l.drop 4), .b false]) := by
  have e1 : op_33r [.n (4 : Int), .l TB l, .b false] = some (0, [.l TB (l.take 4), .l TB (l.drop 4), .b false]) := t33ok (n := 4) (by omega) (by omega)
  have hx : (l.take 4).length = 4 := by rw [List.length_take]; omega
  have e2 := lp34 (l := l.take 4) (by omega) (hw.take 4) 4 (l.drop 4) false
  have hb := nm_bd (hw.take 4)
  rw [hx] at hb
  have wr : IntKind.wrap .u32 (nm (l.take 4)) = nm (l.take 4) := by
    have : (256 : Int) ^ 4 = 4294967296 := by decide
    rw [wu32]; omega
  rw [op_34r_eq]
  refine fn_34r_t_im 4 l false _ ?_
  unfold fn_34r_t
  refine sel_t (by erw [e1]; rfl) (sel_t (by erw [e1]; erw [e2]; rfl) ?_)
  have e3 : op_L34r_3 [.k 0, .n (4 : Int), .n 0, .l TB (gl TB (dOf (op_33r [.n (4 : Int), .l TB l, .b false])) 0), .n (List.length (gl TB (dOf (op_33r [.n (4 : Int), .l TB l, .b false])) 0) : Int), .n 0, .l TB (gl TB (dOf (op_33r [.n (4 : Int), .l TB l, .b false])) 1), .b (gb (dOf (op_33r [.n (4 : Int), .l TB l, .b false])) 2)] = some (0, [.n 4, .n (nm (l.take 4)), .l TB (l.drop 4), .b false]) := by
    rw [e1]; exact e2
  clear e2
  have e2 := e3
  exact sel_f (by erw [e2]; rfl) (sel_f (by erw [e2]; rfl) (sel_t (by erw [e2]; rfl) (by erw [e2]; exact congrArg (fun z => some (2, [Dat.n z, .l TB (l.drop 4), .b false])) wr)))
theorem t34_4no {l : List Int} {b : Bool} (h : b = true ∨ l.length < 4) : op_34r [.n 4, .l TB l, .b b] = some (2, [.n 0, .l TB ([] : List Int), .b true]) := by
  have e1 : op_33r [.n (4 : Int), .l TB l, .b b] = some (1, [.l TB ([] : List Int), .b true]) := t33no (by rcases h with h | h; exact .inl h; exact .inr (.inr (by omega)))
  have e2 : op_L34r_3 [.k 1, .n (4 : Int), .n 0, .n 0, .n 0, .l TB (gl TB (dOf (op_33r [.n (4 : Int), .l TB l, .b b])) 0), .b (gb (dOf (op_33r [.n (4 : Int), .l TB l, .b b])) 1)] = some (0, [.n 4, .n 0, .l TB ([] : List Int), .b true]) := by
    rw [e1]; exact lp34n 4 [] true
  rw [op_34r_eq]
  refine fn_34r_t_im 4 l b _ ?_
  unfold fn_34r_t
  refine sel_f (by erw [e1]; rfl) (sel_t (by erw [e1]; rfl) (sel_t (by erw [e2]; rfl) ?_))
  exact sel_f (by erw [e2]; rfl) (sel_f (by erw [e2]; rfl) (sel_t (by erw [e2]; rfl) (by erw [e2]; rfl)))
theorem t34_8ok {l : List Int} (hw : Wb l) (h1 : 8 ≤ l.length) : op_34r [.n 8, .l TB l, .b false] = some (3, [.n (nm (l.take 8)), .l TB (l.drop 8), .b false]) := by
  have e1 : op_33r [.n (8 : Int), .l TB l, .b false] = some (0, [.l TB (l.take 8), .l TB (l.drop 8), .b false]) := t33ok (n := 8) (by omega) (by omega)
  have hx : (l.take 8).length = 8 := by rw [List.length_take]; omega
  have e2 := lp34 (l := l.take 8) (by omega) (hw.take 8) 8 (l.drop 8) false
  have hb := nm_bd (hw.take 8)
  rw [hx] at hb
  have wr : IntKind.wrap .u64 (nm (l.take 8)) = nm (l.take 8) := by
    have : (256 : Int) ^ 8 = 18446744073709551616 := by decide
    rw [wu64]; omega
  rw [op_34r_eq]
  refine fn_34r_t_im 8 l false _ ?_
  unfold fn_34r_t
  refine sel_t (by erw [e1]; rfl) (sel_t (by erw [e1]; erw [e2]; rfl) ?_)
  have e3 : op_L34r_3 [.k 0, .n (8 : Int), .n 0, .l TB (gl TB (dOf (op_33r [.n (8 : Int), .l TB l, .b false])) 0), .n (List.length (gl TB (dOf (op_33r [.n (8 : Int), .l TB l, .b false])) 0) : Int), .n 0, .l TB (gl TB (dOf (op_33r [.n (8 : Int), .l TB l, .b false])) 1), .b (gb (dOf (op_33r [.n (8 : Int), .l TB l, .b false])) 2)] = some (0, [.n 8, .n (nm (l.take 8)), .l TB (l.drop 8), .b false]) := by
    rw [e1]; exact e2
  clear e2
  have e2 := e3
  exact sel_f (by erw [e2]; rfl) (sel_f (by erw [e2]; rfl) (sel_f (by erw [e2]; rfl) ((by erw [e2]; rfl))))
theorem t34_8no {l : List Int} {b : Bool} (h : b = true ∨ l.length < 8) : op_34r [.n 8, .l TB l, .b b] = some (3, [.n 0, .l TB ([] : List Int), .b true]) := by
  have e1 : op_33r [.n (8 : Int), .l TB l, .b b] = some (1, [.l TB ([] : List Int), .b true]) := t33no (by rcases h with h | h; exact .inl h; exact .inr (.inr (by omega)))
  have e2 : op_L34r_3 [.k 1, .n (8 : Int), .n 0, .n 0, .n 0, .l TB (gl TB (dOf (op_33r [.n (8 : Int), .l TB l, .b b])) 0), .b (gb (dOf (op_33r [.n (8 : Int), .l TB l, .b b])) 1)] = some (0, [.n 8, .n 0, .l TB ([] : List Int), .b true]) := by
    rw [e1]; exact lp34n 8 [] true
  rw [op_34r_eq]
  refine fn_34r_t_im 8 l b _ ?_
  unfold fn_34r_t
  refine sel_f (by erw [e1]; rfl) (sel_t (by erw [e1]; rfl) (sel_t (by erw [e2]; rfl) ?_))
  exact sel_f (by erw [e2]; rfl) (sel_f (by erw [e2]; rfl) (sel_f (by erw [e2]; rfl) ((by erw [e2]; rfl))))
theorem byt0 {n : Int} (h : 0 ≤ n) : byt n 0 = n / 1 % 256 := by
  show IntKind.wrap .u8 (n.fdiv 1) = _
  rw [wu8, Int.fdiv_eq_ediv_of_nonneg _ (by decide)]
theorem byt1 {n : Int} (h : 0 ≤ n) : byt n 1 = n / 256 % 256 := by
  show IntKind.wrap .u8 (n.fdiv 256) = _
  rw [wu8, Int.fdiv_eq_ediv_of_nonneg _ (by decide)]
theorem byt2 {n : Int} (h : 0 ≤ n) : byt n 2 = n / 65536 % 256 := by
  show IntKind.wrap .u8 (n.fdiv 65536) = _
  rw [wu8, Int.fdiv_eq_ediv_of_nonneg _ (by decide)]
theorem byt3 {n : Int} (h : 0 ≤ n) : byt n 3 = n / 16777216 % 256 := by
  show IntKind.wrap .u8 (n.fdiv 16777216) = _
  rw [wu8, Int.fdiv_eq_ediv_of_nonneg _ (by decide)]
theorem byt4 {n : Int} (h : 0 ≤ n) : byt n 4 = n / 4294967296 % 256 := by
  show IntKind.wrap .u8 (n.fdiv 4294967296) = _
  rw [wu8, Int.fdiv_eq_ediv_of_nonneg _ (by decide)]
theorem byt5 {n : Int} (h : 0 ≤ n) : byt n 5 = n / 1099511627776 % 256 := by
  show IntKind.wrap .u8 (n.fdiv 1099511627776) = _
  rw [wu8, Int.fdiv_eq_ediv_of_nonneg _ (by decide)]
theorem byt6 {n : Int} (h : 0 ≤ n) : byt n 6 = n / 281474976710656 % 256 := by
  show IntKind.wrap .u8 (n.fdiv 281474976710656) = _
  rw [wu8, Int.fdiv_eq_ediv_of_nonneg _ (by decide)]
theorem byt7 {n : Int} (h : 0 ≤ n) : byt n 7 = n / 72057594037927936 % 256 := by
  show IntKind.wrap .u8 (n.fdiv 72057594037927936) = _
  rw [wu8, Int.fdiv_eq_ediv_of_nonneg _ (by decide)]
theorem nmb1 {n : Int} (h : 0 ≤ n) : nm (bes n 1) = n % 256 := by
  show nm [byt n 0] = _
  rw [byt0 h]
  simp only [nm, List.foldl]
  omega
theorem nmb2 {n : Int} (h : 0 ≤ n) : nm (bes n 2) = n % 65536 := by
  show nm [byt n 1, byt n 0] = _
  rw [byt0 h, byt1 h]
  simp only [nm, List.foldl]
  omega
theorem nmb4 {n : Int} (h : 0 ≤ n) : nm (bes n 4) = n % 4294967296 := by
  show nm [byt n 3, byt n 2, byt n 1, byt n 0] = _
  rw [byt0 h, byt1 h, byt2 h, byt3 h]
  simp only [nm, List.foldl]
  omega
theorem nmb8 {n : Int} (h : 0 ≤ n) : nm (bes n 8) = n % 18446744073709551616 := by
  show nm [byt n 7, byt n 6, byt n 5, byt n 4, byt n 3, byt n 2, byt n 1, byt n 0] = _
  rw [byt0 h, byt1 h, byt2 h, byt3 h, byt4 h, byt5 h, byt6 h, byt7 h]
  simp only [nm, List.foldl]
  omega
theorem fold_nm : ∀ (l : List Int) (a : Int), l.foldl (fun a b => a * 256 + b) a = a * 256 ^ l.length + nm l
  | [], a => by simp [nm]
  | b :: l, a => by
    have h1 := fold_nm l (a * 256 + b)
    have h2 : nm (b :: l) = (0 * 256 + b) * 256 ^ l.length + nm l := fold_nm l (0 * 256 + b)
    rw [h2]
    simp only [List.foldl_cons, List.length_cons, h1, Int.pow_succ]
    rw [Int.add_mul, Int.zero_mul, Int.zero_add, Int.mul_assoc, Int.mul_comm 256 (256 ^ l.length), Int.add_assoc]
theorem nm_cons (b : Int) (l : List Int) : nm (b :: l) = b * 256 ^ l.length + nm l := by
  have := fold_nm l (0 * 256 + b)
  rw [Int.zero_mul, Int.zero_add] at this
  have e : nm (b :: l) = l.foldl (fun a b => a * 256 + b) (0 * 256 + b) := rfl
  rw [e, Int.zero_mul, Int.zero_add]; exact this
theorem nm_inj : ∀ {a b : List Int}, a.length = b.length → Wb a → Wb b → nm a = nm b → a = b
  | [], [], _, _, _, _ => rfl
  | [], _ :: _, h, _, _, _ => by simp at h
  | _ :: _, [], h, _, _, _ => by simp at h
  | x :: a, y :: b, h, ha, hb, e => by
    have hl : a.length = b.length := by simpa using h
    have wa : Wb a := fun z hz => ha z (by simp [hz])
    have wb : Wb b := fun z hz => hb z (by simp [hz])
    have b1 := nm_bd wa
    have b2 := nm_bd wb
    rw [nm_cons, nm_cons, hl] at e
    rw [hl] at b1
    have hx := ha x (by simp)
    have hy := hb y (by simp)
    have h0 : 0 < (256 : Int) ^ b.length := by omega
    have hxy : x = y := by
      rcases Int.lt_trichotomy x y with q | q | q
      · exfalso
        have : (x + 1) * 256 ^ b.length ≤ y * 256 ^ b.length := Int.mul_le_mul_of_nonneg_right (by omega) (by omega)
        rw [Int.add_mul] at this
        omega
      · exact q
      · exfalso
        have : (y + 1) * 256 ^ b.length ≤ x * 256 ^ b.length := Int.mul_le_mul_of_nonneg_right (by omega) (by omega)
        rw [Int.add_mul] at this
        omega
    subst hxy
    rw [nm_inj hl wa wb (by omega)]
theorem pc {k : Nat} (hk : ∀ n : Int, 0 ≤ n → nm (bes n k) = n % 256 ^ k) {l : List Int} (h : Wb l) (hl : k ≤ l.length) : l = bes (nm (l.take k)) k ++ l.drop k ∧ 0 ≤ nm (l.take k) ∧ nm (l.take k) < 256 ^ k := by
  have hx : (l.take k).length = k := by rw [List.length_take]; omega
  have b := nm_bd (h.take k)
  rw [hx] at b
  refine ⟨?_, b⟩
  have e : l.take k = bes (nm (l.take k)) k := nm_inj (by rw [hx, be_len]) (h.take k) (be_wb _ _) (by rw [hk _ b.1, Int.emod_eq_of_lt b.1 b.2])
  calc l = l.take k ++ l.drop k := (List.take_append_drop k l).symm
    _ = _ := by rw [← e]
theorem k1 (n : Int) (h : 0 ≤ n) : nm (bes n 1) = n % 256 ^ 1 := by rw [nmb1 h]; rfl
theorem k2 (n : Int) (h : 0 ≤ n) : nm (bes n 2) = n % 256 ^ 2 := by rw [nmb2 h]; rfl
theorem k4 (n : Int) (h : 0 ≤ n) : nm (bes n 4) = n % 256 ^ 4 := by rw [nmb4 h]; rfl
theorem k8 (n : Int) (h : 0 ≤ n) : nm (bes n 8) = n % 256 ^ 8 := by rw [nmb8 h]; rfl
theorem cut1 {l : List Int} (h : Wb l) (hl : 1 ≤ l.length) : ∃ v r, l = bes v 1 ++ r ∧ 0 ≤ v ∧ v < 256 ∧ Wb r ∧ r.length + 1 = l.length := by
  obtain ⟨a, b, c⟩ := pc k1 h hl
  exact ⟨_, _, a, b, c, h.drop 1, by rw [List.length_drop]; omega⟩
theorem cut2 {l : List Int} (h : Wb l) (hl : 2 ≤ l.length) : ∃ v r, l = bes v 2 ++ r ∧ 0 ≤ v ∧ v < 65536 ∧ Wb r ∧ r.length + 2 = l.length := by
  obtain ⟨a, b, c⟩ := pc k2 h hl
  exact ⟨_, _, a, b, c, h.drop 2, by rw [List.length_drop]; omega⟩
theorem cut4 {l : List Int} (h : Wb l) (hl : 4 ≤ l.length) : ∃ v r, l = bes v 4 ++ r ∧ 0 ≤ v ∧ v < 4294967296 ∧ Wb r ∧ r.length + 4 = l.length := by
  obtain ⟨a, b, c⟩ := pc k4 h hl
  exact ⟨_, _, a, b, c, h.drop 4, by rw [List.length_drop]; omega⟩
theorem cut8 {l : List Int} (h : Wb l) (hl : 8 ≤ l.length) : ∃ v r, l = bes v 8 ++ r ∧ 0 ≤ v ∧ v < 18446744073709551616 ∧ Wb r ∧ r.length + 8 = l.length := by
  obtain ⟨a, b, c⟩ := pc k8 h hl
  exact ⟨_, _, a, b, c, h.drop 8, by rw [List.length_drop]; omega⟩
theorem nb1 {v : Int} (h : 0 ≤ v) (h2 : v < 256) : nm (bes v 1) = v := by rw [nmb1 h]; omega
theorem nb2 {v : Int} (h : 0 ≤ v) (h2 : v < 65536) : nm (bes v 2) = v := by rw [nmb2 h]; omega
theorem nb4 {v : Int} (h : 0 ≤ v) (h2 : v < 4294967296) : nm (bes v 4) = v := by rw [nmb4 h]; omega
theorem nb8 {v : Int} (h : 0 ≤ v) (h2 : v < 18446744073709551616) : nm (bes v 8) = v := by rw [nmb8 h]; omega
def lf (o : Option (List Int)) : List Int := o.getD []
def bd (o : Option (List Int)) : Bool := o.isNone
def rd (w : Nat) : Option (List Int) → Option (List Int)
  | some l => if w ≤ l.length then some (l.drop w) else none
  | none => none
def tk (w : Nat) : Option (List Int) → List Int
  | some l => if w ≤ l.length then l.take w else []
  | none => []
def vl (w : Nat) (o : Option (List Int)) : Int := nm (tk w o)
def WO (o : Option (List Int)) : Prop := ∀ l, o = some l → Wb l ∧ l.length ≤ 1000000
theorem WO.rd {o : Option (List Int)} (h : WO o) (w : Nat) : WO (rd w o) := by
  intro l hl
  cases o with
  | none => cases hl
  | some x =>
    have := h x rfl
    by_cases q : w ≤ x.length
    · have e : Vx.rd w (some x) = some (x.drop w) := if_pos q
      rw [e] at hl
      cases hl
      exact ⟨this.1.drop w, by rw [List.length_drop]; omega⟩
    · have e : Vx.rd w (some x) = none := if_neg q
      rw [e] at hl
      cases hl
theorem rd_pos {w : Nat} {l : List Int} (h : w ≤ l.length) : rd w (some l) = some (l.drop w) := if_pos h
theorem rd_neg {w : Nat} {l : List Int} (h : ¬ w ≤ l.length) : rd w (some l) = none := if_neg h
theorem tk_pos {w : Nat} {l : List Int} (h : w ≤ l.length) : tk w (some l) = l.take w := if_pos h
theorem tk_neg {w : Nat} {l : List Int} (h : ¬ w ≤ l.length) : tk w (some l) = [] := if_neg h
theorem rd_rd (a b : Nat) (o : Option (List Int)) : rd a (rd b o) = rd (b + a) o := by
  cases o with
  | none => rfl
  | some l =>
    by_cases h : b ≤ l.length
    · rw [rd_pos h]
      by_cases h2 : b + a ≤ l.length
      · rw [rd_pos (by rw [List.length_drop]; omega), rd_pos h2, List.drop_drop]
      · rw [rd_neg (by rw [List.length_drop]; omega), rd_neg h2]
    · rw [rd_neg h, rd_neg (by omega)]; rfl
theorem rd_app {k : Nat} {a r : List Int} (h : a.length = k) : rd k (some (a ++ r)) = some r := by
  subst h
  rw [rd_pos (by rw [List.length_append]; omega), List.drop_left]
theorem tk_app {k : Nat} {a r : List Int} (h : a.length = k) : tk k (some (a ++ r)) = a := by
  subst h
  rw [tk_pos (by rw [List.length_append]; omega), List.take_left]
theorem rd_be (v : Int) (k : Nat) (r : List Int) : rd k (some (bes v k ++ r)) = some r := rd_app (be_len v k)
theorem vl_be (v : Int) (k : Nat) (r : List Int) : vl k (some (bes v k ++ r)) = nm (bes v k) := by unfold vl; rw [tk_app (be_len v k)]
theorem rd_end {k : Nat} {l : List Int} (h : l.length ≠ k) : bd (rd k (some l)) = true ∨ 0 < (lf (rd k (some l))).length := by
  by_cases q : k ≤ l.length
  · rw [rd_pos q]; exact .inr (by show 0 < (l.drop k).length; rw [List.length_drop]; omega)
  · rw [rd_neg q]; exact .inl rfl
theorem r77r {o : Option (List Int)} (h : WO o) : op_77r [.l TB (lf o), .b (bd o)] = some (0, [.n (vl 1 o), .l TB (lf (rd 1 o)), .b (bd (rd 1 o))]) := by
  have e : op_34r [.n 1, .l TB (lf o), .b (bd o)] = some (0, [.n (vl 1 o), .l TB (lf (rd 1 o)), .b (bd (rd 1 o))]) := by
    cases o with
    | none => exact t34_1no (.inl rfl)
    | some l =>
      by_cases q : 1 ≤ l.length
      · unfold vl; rw [tk_pos q, rd_pos q]; exact t34_1ok (h l rfl).1 q
      · unfold vl; rw [tk_neg q, rd_neg q]; exact t34_1no (.inr (by show l.length < _; omega))
  rw [op_77r_eq]
  refine fn_77r_t_im _ _ _ ?_
  unfold fn_77r_t
  dsimp only
  erw [e]
  rfl
theorem r79r {o : Option (List Int)} (h : WO o) : op_79r [.l TB (lf o), .b (bd o)] = some (0, [.n (vl 4 o), .l TB (lf (rd 4 o)), .b (bd (rd 4 o))]) := by
  have e : op_34r [.n 4, .l TB (lf o), .b (bd o)] = some (2, [.n (vl 4 o), .l TB (lf (rd 4 o)), .b (bd (rd 4 o))]) := by
    cases o with
    | none => exact t34_4no (.inl rfl)
    | some l =>
      by_cases q : 4 ≤ l.length
      · unfold vl; rw [tk_pos q, rd_pos q]; exact t34_4ok (h l rfl).1 q
      · unfold vl; rw [tk_neg q, rd_neg q]; exact t34_4no (.inr (by show l.length < _; omega))
  rw [op_79r_eq]
  refine fn_79r_t_im _ _ _ ?_
  unfold fn_79r_t
  dsimp only
  erw [e]
  rfl
theorem r78r {o : Option (List Int)} (h : WO o) : op_78r [.l TB (lf o), .b (bd o)] = some (0, [.n (vl 8 o), .l TB (lf (rd 8 o)), .b (bd (rd 8 o))]) := by
  have e : op_34r [.n 8, .l TB (lf o), .b (bd o)] = some (3, [.n (vl 8 o), .l TB (lf (rd 8 o)), .b (bd (rd 8 o))]) := by
    cases o with
    | none => exact t34_8no (.inl rfl)
    | some l =>
      by_cases q : 8 ≤ l.length
      · unfold vl; rw [tk_pos q, rd_pos q]; exact t34_8ok (h l rfl).1 q
      · unfold vl; rw [tk_neg q, rd_neg q]; exact t34_8no (.inr (by show l.length < _; omega))
  rw [op_78r_eq]
  refine fn_78r_t_im _ _ _ ?_
  unfold fn_78r_t
  dsimp only
  erw [e]
  rfl
theorem r82r {o : Option (List Int)} (h : WO o) (n : Nat) (hn : n ≤ 1000000) : op_82r [.n (n : Int), .l TB (lf o), .b (bd o)] = some (0, [.l TB (lf (rd n o)), .b (bd (rd n o)), .l TB (tk n o)]) := by
  rw [op_82r_eq]
  refine fn_82r_t_im _ _ _ _ ?_
  unfold fn_82r_t
  dsimp only
  have e0 : op_31 [.l TB ([] : List Int)] = some (0, [.l TB ([] : List Int)]) := t31 (by simp)
  have no : ∀ {l : List Int} {b : Bool}, (b = true ∨ (n : Int) < 0 ∨ (l.length : Int) < n) → op_33r [.n (n : Int), .l TB l, .b b] = some (1, [.l TB ([] : List Int), .b true]) := fun h => t33no h
  cases o with
  | none =>
    have e := no (l := []) (b := true) (.inl rfl)
    erw [e]
    refine sel_f rfl (sel_t rfl ?_)
    erw [e0]
    rfl
  | some l =>
    by_cases q : n ≤ l.length
    · have e : op_33r [.n (n : Int), .l TB l, .b false] = _ := t33ok (n := (n : Int)) (by omega) (by omega)
      rw [show ((n : Int)).toNat = n by omega] at e
      have e1 := t31 (l := l.take n) (by rw [List.length_take]; omega)
      have hr : rd n (some l) = some (l.drop n) := if_pos q
      have ht : tk n (some l) = l.take n := if_pos q
      rw [hr, ht]
      erw [e]
      refine sel_t rfl ?_
      erw [e1]
      rfl
    · have e := no (l := l) (b := false) (.inr (.inr (by omega)))
      have hr : rd n (some l) = none := if_neg q
      have ht : tk n (some l) = [] := if_neg q
      rw [hr, ht]
      erw [e]
      refine sel_f rfl (sel_t rfl ?_)
      erw [e0]
      rfl
theorem t13r {l : List Int} (h : l.length ≤ 1000000) : op_13r [.l TB l] = some (0, [.l TB l, .b false]) := by
  rw [op_13r_eq]
  refine fn_13r_t_im l _ ?_
  unfold fn_13r_t
  have e := t31 (l := l) (by omega)
  dsimp only
  erw [e]
  rfl
theorem Sm_bd (l : List Int) : 0 ≤ N (Sm l) ∧ N (Sm l) < 4294967296 := by
  have h : N (Sm l) = ((Sm l).toNat : Int) := rfl
  have := (Sm l).isLt
  omega
theorem w8i (n : Nat) (h : n ≤ 1000000) : IntKind.wrap .i64 (((n + 5 : Nat) : Int) - 4) = ((n + 1 : Nat) : Int) := by rw [w64d]; omega
theorem N_bne {a b : Int} (h : a = b) : (a != b) = false := by subst h; simp
theorem N_bne' {a b : Int} (h : a ≠ b) : (a != b) = true := by simp [h]
theorem b74ok {k : Int} {p : List Int} (hw : Wb (k :: p)) (hl : p.length ≤ 900000) : op_74r [.l TB (chk (k :: p)), .n k] = some (0, [.b true, .l TB p, .b false]) := by
  have hlen : (chk (k :: p)).length = p.length + 5 := by rw [chk_len, List.length_cons]
  have hL : IntKind.wrap .i64 (((chk (k :: p)).length : Int) - 4) = ((p.length + 1 : Nat) : Int) := by rw [hlen]; exact w8i _ (by omega)
  have hd : (chk (k :: p)).drop (p.length + 1) = bes (IntKind.wrap .u64 (N (Sm (k :: p)))) 4 := by
    unfold chk
    exact List.drop_left' (by rw [List.length_cons])
  have ht : (chk (k :: p)).take (p.length + 1) = k :: p := by
    unfold chk
    exact List.take_left' (by rw [List.length_cons])
  have hS := Sm_bd (k :: p)
  have hu : IntKind.wrap .u64 (N (Sm (k :: p))) = N (Sm (k :: p)) := by rw [wu64]; omega
  rw [hu] at hd
  have e1 : op_13r [.l TB (bes (N (Sm (k :: p))) 4)] = some (0, [.l TB (bes (N (Sm (k :: p))) 4), .b false]) := t13r (by rw [be_len]; omega)
  have e2 := r79r (o := some (bes (N (Sm (k :: p))) 4)) (fun l hl => by cases hl; exact ⟨be_wb _ _, by rw [be_len]; omega⟩)
  have hv : vl 4 (some (bes (N (Sm (k :: p))) 4)) = N (Sm (k :: p)) := by
    have := vl_be (N (Sm (k :: p))) 4 []
    rw [List.append_nil] at this
    rw [this, nb4 hS.1 hS.2]
  rw [hv] at e2
  have e3 := q12 (k :: p) (by rw [List.length_cons]; omega)
  have e4 := t13r (l := p) (by omega)
  rw [op_74r_eq]
  refine fn_74r_t_im _ _ _ ?_
  unfold fn_74r_t
  dsimp only
  have hn : (((p.length + 1 : Nat) : Int)).toNat = p.length + 1 := by omega
  refine sel_f (decide_eq_false (by erw [hL]; omega)) (sel_f (N_bne rfl) ?_)
  erw [hL, hn, hd, ht, e1]
  refine sel_t rfl ?_
  erw [e2]
  refine sel_t rfl (sel_t (by rw [Bool.true_and]; exact decide_eq_true (by omega)) ?_)
  erw [e3]
  refine sel_t rfl (sel_f (N_bne rfl) (sel_t (by rw [Bool.true_and]; exact decide_eq_true (by omega)) ?_))
  erw [e4]
  rfl
theorem b74no {k : Int} {b : List Int} (hw : Wb b) (hl : b.length ≤ 900000) (h : ∀ p, b ≠ chk (k :: p)) : op_74r [.l TB b, .n k] = some (1, [.b false]) := by
  rw [op_74r_eq]
  refine fn_74r_t_im _ _ _ ?_
  unfold fn_74r_t
  dsimp only
  by_cases h5 : b.length < 5
  · have q : IntKind.wrap .i64 ((b.length : Int) - 4) < 1 := by rw [w64d]; omega
    exact sel_t (decide_eq_true q) rfl
  · obtain ⟨n, hn⟩ : ∃ n, b.length = n + 5 := ⟨b.length - 5, by omega⟩
    have hL : IntKind.wrap .i64 ((b.length : Int) - 4) = ((n + 1 : Nat) : Int) := by rw [hn]; exact w8i _ (by omega)
    have hm : (((n + 1 : Nat) : Int)).toNat = n + 1 := by omega
    refine sel_f (decide_eq_false (by erw [hL]; omega)) ?_
    by_cases hk : b.getD 0 0 = k
    · refine sel_f (N_bne hk) ?_
      have hd4 : (b.drop (n + 1)).length = 4 := by rw [List.length_drop]; omega
      have e1 := t13r (l := b.drop (n + 1)) (by omega)
      have e2 := r79r (o := some (b.drop (n + 1))) (fun l hl => by cases hl; exact ⟨hw.drop _, by omega⟩)
      have hv : vl 4 (some (b.drop (n + 1))) = nm (b.drop (n + 1)) := by
        have := tk_app (k := 4) (a := b.drop (n + 1)) (r := []) hd4
        rw [List.append_nil] at this
        unfold vl
        rw [this]
      rw [hv] at e2
      have e3 := q12 (b.take (n + 1)) (by rw [List.length_take]; omega)
      erw [hL, hm, e1]
      refine sel_t rfl ?_
      erw [e2]
      refine sel_t rfl (sel_t (by rw [Bool.true_and]; exact decide_eq_true (by omega)) ?_)
      erw [e3]
      refine sel_t rfl ?_
      by_cases hc : nm (b.drop (n + 1)) = N (Sm (b.take (n + 1)))
      · exfalso
        have hb : b = b.take (n + 1) ++ b.drop (n + 1) := (List.take_append_drop _ _).symm
        obtain ⟨x, p, hp⟩ : ∃ x p, b.take (n + 1) = x :: p := by
          cases q : b.take (n + 1) with
          | nil => have := congrArg List.length q; rw [List.length_take, List.length_nil] at this; omega
          | cons x p => exact ⟨x, p, rfl⟩
        have hx : x = k := by
          rw [← hk, hb, hp]
          rfl
        subst hx
        have hS := Sm_bd (x :: p)
        rw [hp] at hc hb
        refine h p ?_
        rw [hb]
        show _ = (x :: p) ++ bes (IntKind.wrap .u64 (N (Sm (x :: p)))) 4
        have hu : IntKind.wrap .u64 (N (Sm (x :: p))) = N (Sm (x :: p)) := by rw [wu64]; omega
        have q : b.drop (n + 1) = bes (N (Sm (x :: p))) 4 := nm_inj (by rw [hd4, be_len]) (hw.drop (n + 1)) (be_wb _ 4) (by rw [hc, nb4 hS.1 hS.2])
        rw [hu, ← q]
      · exact sel_t (N_bne' hc) rfl
    · exact sel_t (N_bne' hk) rfl
theorem win2 {m a b : Int} (h : win m [a, b] = true) : 0 ≤ a ∧ a ≤ m ∧ 0 ≤ b ∧ b ≤ m := by
  unfold win at h; simp at h; omega
theorem wi {y : Int} (h0 : 0 ≤ y) (h1 : y < 18446744073709551616) : IntKind.wrap .u64 (IntKind.wrap .i64 y) = y := by rw [wu64, w64d]; omega
theorem wj {y : Int} (h0 : 0 ≤ y) (h1 : y ≤ 9223372036854775807) : IntKind.wrap .i64 (IntKind.wrap .u64 y) = y := by rw [wu64, w64d]; omega
theorem wk {y : Int} (h0 : 0 ≤ y) (h1 : y < 18446744073709551616) : IntKind.wrap .u64 y = y := by rw [wu64]; omega
theorem be1 {c : Int} (h0 : 0 ≤ c) (h1 : c < 256) : bes c 1 = [c] := by have := bes1 h0 h1; rw [wk h0 (by omega)] at this; exact this
def tm (o : Option (List Int)) : List Int := List.take 64 (tk 64 o) ++ List.drop (tk 64 o).length (List.replicate 64 0)
theorem tm_app {t r : List Int} (h : t.length = 64) : tm (some (t ++ r)) = t := by
  unfold tm
  rw [tk_app h, ← h, List.take_length, List.drop_eq_nil_of_le (by rw [List.length_replicate]; omega), List.append_nil]
theorem win64 {p : List Int} (h : p.length = 0) : p = [] := List.eq_nil_of_length_eq_zero h
theorem t52 {o : Option (List Int)} (h : WO o) : op_52r [.l TB (lf o), .b (bd o)] = some (0, [.n (vl 8 o), .n (vl 8 (rd 8 o)), .n (vl 8 (rd 8 (rd 8 o))), .l TB (tm (rd 8 (rd 8 (rd 8 o)))), .n (vl 4 (rd 64 (rd 8 (rd 8 (rd 8 o))))), .l TB (lf (rd 4 (rd 64 (rd 8 (rd 8 (rd 8 o)))))), .b (bd (rd 4 (rd 64 (rd 8 (rd 8 (rd 8 o))))))]) := by
  have e1 := r78r h
  have e2 := r78r (h.rd 8)
  have e3 := r78r ((h.rd 8).rd 8)
  have e4 := r82r (((h.rd 8).rd 8).rd 8) 64 (by omega)
  have e5 := r79r ((((h.rd 8).rd 8).rd 8).rd 64)
  rw [op_52r_eq]
  refine fn_52r_t_im _ _ _ ?_
  unfold fn_52r_t
  dsimp only
  erw [e1]
  refine sel_t rfl ?_
  erw [e2]
  refine sel_t rfl ?_
  erw [e3]
  refine sel_t rfl ?_
  erw [e4]
  refine sel_t rfl ?_
  erw [e5]
  refine sel_t rfl ?_
  rfl
def OKO (c : Int) (y : Int) (e : Int) (q : Int) (u : Int) : Prop := (0 ≤ c ∧ c < 256) ∧ (0 ≤ q ∧ q < 18446744073709551616) ∧ (0 ≤ u ∧ u < 4294967296) ∧ (win 1099511627776 [y, e] = true)
theorem encO {c y e q u : Int}  (hc : 0 ≤ c ∧ c < 256) (hu : 0 ≤ u ∧ u < 4294967296) : chk (outB c y e q u) = chk (2 :: (bes c 1 ++ (bes (IntKind.wrap .u64 y) 8 ++ (bes (IntKind.wrap .u64 e) 8 ++ (bes q 8 ++ (bes u 4 ++ ([]))))))) := by
  unfold outB
  simp only [wk hu.1 (by omega : u < 18446744073709551616), List.append_assoc, List.cons_append, List.nil_append, List.append_nil, be1 hc.1 hc.2]
def OKS (a : Int) (b : Int) (c : Int) (t : List Int) (u : Int) : Prop := (0 ≤ a ∧ a < 18446744073709551616) ∧ (0 ≤ b ∧ b < 18446744073709551616) ∧ (0 ≤ c ∧ c < 18446744073709551616) ∧ (Wb t ∧ t.length = 64) ∧ (0 ≤ u ∧ u < 4294967296)
theorem g52 {a b c u : Int} {t : List Int} {r : List Int} (ha : 0 ≤ a ∧ a < 18446744073709551616) (hb : 0 ≤ b ∧ b < 18446744073709551616) (hc : 0 ≤ c ∧ c < 18446744073709551616) (ht : t.length = 64) (hu : 0 ≤ u ∧ u < 4294967296) (hw : WO (some (bes a 8 ++ (bes b 8 ++ (bes c 8 ++ (t ++ (bes u 4 ++ (r)))))))) : op_52r [.l TB (bes a 8 ++ (bes b 8 ++ (bes c 8 ++ (t ++ (bes u 4 ++ (r)))))), .b false] = some (0, [.n a, .n b, .n c, .l TB t, .n u, .l TB r, .b false]) := by
  have e := t52 hw
  simp only [rd_be, vl_be, nb8 ha.1 ha.2, nb8 hb.1 hb.2, nb8 hc.1 hc.2, rd_app ht, tm_app ht, nb4 hu.1 hu.2] at e
  exact e
theorem x52 {p : List Int} (hw : WO (some p)) (hp : p.length ≠ 92) : ∃ (x0 : Int) (x1 : Int) (x2 : Int) (x3 : List Int) (x4 : Int) (l : List Int) (bb : Bool), op_52r [.l TB p, .b false] = some (0, [.n x0, .n x1, .n x2, .l TB x3, .n x4, .l TB l, .b bb]) ∧ (bb = true ∨ 0 < l.length) := by
  have e := t52 hw
  simp only [rd_rd] at e
  exact ⟨_, _, _, _, _, _, _, e, rd_end hp⟩
theorem encS {a b c u : Int} {t : List Int} (hu : 0 ≤ u ∧ u < 4294967296) : chk (3 :: stL a b c t u) = chk (3 :: (bes a 8 ++ (bes b 8 ++ (bes c 8 ++ (t ++ (bes u 4 ++ ([]))))))) := by
  unfold stL
  simp only [wk hu.1 (by omega : u < 18446744073709551616), List.append_assoc, List.cons_append, List.nil_append, List.append_nil]
theorem G28 {a b c u : Int} {t : List Int} (h : OKS a b c t u) : op_28r [.l TB (chk (3 :: stL a b c t u))] = some (0, [.n a, .n b, .n c, .l TB t, .n u, .n 0]) := by
  obtain ⟨ha, hb, hc, ht, hu⟩ := h
  have wu : ∀ {x : Int}, 0 ≤ IntKind.wrap .u64 x ∧ IntKind.wrap .u64 x < 18446744073709551616 := by intro x; rw [wu64]; omega
  have hwb : Wb (bes a 8 ++ (bes b 8 ++ (bes c 8 ++ (t ++ (bes u 4 ++ ([])))))) := (be_wb _ _).app ((be_wb _ _).app ((be_wb _ _).app ((ht.1).app ((be_wb _ _).app (Wb.nil)))))
  have hlen : (bes a 8 ++ (bes b 8 ++ (bes c 8 ++ (t ++ (bes u 4 ++ ([])))))).length ≤ 900000 := by simp only [List.length_append, be_len, List.length_nil]; omega
  have e1 := b74ok (k := 3) (p := (bes a 8 ++ (bes b 8 ++ (bes c 8 ++ (t ++ (bes u 4 ++ ([]))))))) (hwb.cons ⟨by omega, by omega⟩) hlen
  have e2 := g52 (r := []) ha hb hc ht.2 hu (fun l hl => by cases hl; exact ⟨hwb, by omega⟩)
  rw [encS hu]
  rw [op_28r_eq]
  refine fn_28r_t_im _ _ ?_
  unfold fn_28r_t
  dsimp only
  erw [e1]
  refine sel_t rfl (sel_f rfl ?_)
  erw [e2]
  refine sel_t rfl (sel_f rfl (sel_f (decide_eq_false (show ¬ ((([] : List Int).length : Int) > 0) by simp)) ?_))
  rfl
theorem F28 {b0 : List Int} (hw : Wb b0) (hl : b0.length ≤ 100000) (h : ∀ a b c t u, OKS a b c t u → b0 ≠ chk (3 :: stL a b c t u)) : op_28r [.l TB b0] = some (0, [.n (0 : Int), .n (0 : Int), .n (0 : Int), .l TB (List.replicate 64 (0 : Int)), .n (0 : Int), .n 130]) := by
  rw [op_28r_eq]
  refine fn_28r_t_im _ _ ?_
  unfold fn_28r_t
  dsimp only
  by_cases hb : ∃ p, b0 = chk (3 :: p)
  · obtain ⟨p, rfl⟩ := hb
    have hk : Wb (3 :: p) := fun x hx => hw x (by unfold chk; exact List.mem_append_left _ hx)
    have hwp : Wb p := fun x hx => hk x (List.mem_cons_of_mem _ hx)
    rw [chk_len, List.length_cons] at hl
    have e1 := b74ok hk (by omega)
    have hW : WO (some p) := fun l hl => by cases hl; exact ⟨hwp, by omega⟩
    erw [e1]
    refine sel_t rfl (sel_f rfl ?_)
    by_cases hp : p.length = 92
    · obtain ⟨a, r1, hr1, la, ua, w1, n1⟩ := cut8 (l := p) hwp (by omega)
      obtain ⟨b, r2, hr2, lb, ub, w2, n2⟩ := cut8 (l := r1) w1 (by omega)
      obtain ⟨c, r3, hr3, lc, uc, w3, n3⟩ := cut8 (l := r2) w2 (by omega)
      obtain ⟨t, r4, hr4, ht, w4, n4⟩ : ∃ t r, r3 = t ++ r ∧ (Wb t ∧ t.length = 64) ∧ Wb r ∧ r.length + 64 = r3.length := ⟨r3.take 64, r3.drop 64, (List.take_append_drop 64 r3).symm, ⟨w3.take 64, by rw [List.length_take]; omega⟩, w3.drop 64, by rw [List.length_drop]; omega⟩
      obtain ⟨u, r5, hr5, lu, uu, w5, n5⟩ := cut4 (l := r4) w4 (by omega)
      have hz := win64 (p := r5) (by omega)
      subst hz
      subst hr5
      subst hr4
      subst hr3
      subst hr2
      subst hr1
      have e2 := g52 (r := []) ⟨la, ua⟩ ⟨lb, ub⟩ ⟨lc, uc⟩ ht.2 ⟨lu, uu⟩ hW
      erw [e2]
      refine sel_t rfl (sel_f rfl (sel_f (decide_eq_false (show ¬ ((([] : List Int).length : Int) > 0) by simp)) ?_))
      exact ((h a b c t u ⟨⟨la, ua⟩, ⟨lb, ub⟩, ⟨lc, uc⟩, ht, ⟨lu, uu⟩⟩ (by rw [encS ⟨lu, uu⟩])).elim)
    · obtain ⟨x0, x1, x2, x3, x4, l, bb, e2, hbb⟩ := x52 hW hp
      erw [e2]
      refine sel_t rfl ?_
      cases bb with
      | true => exact sel_t rfl rfl
      | false =>
        rcases hbb with q | q
        · cases q
        · exact sel_f rfl (sel_t (decide_eq_true (show ((l.length : Int) > 0) by omega)) rfl)
  · have e1 := b74no (k := 3) hw (by omega) (fun p hp => hb ⟨p, hp⟩)
    erw [e1]
    exact sel_f rfl (sel_t rfl (sel_t rfl rfl))
def OKG (e : Int) (y : Int) (a : Int) (b : Int) (c : Int) (t : List Int) (u : Int) : Prop := (0 ≤ a ∧ a < 18446744073709551616) ∧ (0 ≤ b ∧ b < 18446744073709551616) ∧ (0 ≤ c ∧ c < 18446744073709551616) ∧ (Wb t ∧ t.length = 64) ∧ (0 ≤ u ∧ u < 4294967296) ∧ (win 1099511627776 [e, y] = true)
theorem encG {e y a b c u : Int} {t : List Int} (hu : 0 ≤ u ∧ u < 4294967296) : chk (logL e y a b c t u) = chk (4 :: (bes (IntKind.wrap .u64 e) 8 ++ (bes (IntKind.wrap .u64 y) 8 ++ (bes a 8 ++ (bes b 8 ++ (bes c 8 ++ (t ++ (bes u 4 ++ ([]))))))))) := by
  unfold logL stL
  simp only [wk hu.1 (by omega : u < 18446744073709551616), List.append_assoc, List.cons_append, List.nil_append, List.append_nil]
theorem vl_bd {o : Option (List Int)} (h : WO o) (w : Nat) : 0 ≤ vl w o ∧ vl w o < 256 ^ w := by
  have hp : (0 : Int) < 256 ^ w := Int.pow_pos (by omega)
  have z : nm [] = 0 := rfl
  unfold vl
  cases o with
  | none => show 0 ≤ nm [] ∧ nm [] < _; omega
  | some l =>
    by_cases q : w ≤ l.length
    · rw [tk_pos q]
      have := nm_bd ((h l rfl).1.take w)
      rw [List.length_take, Nat.min_eq_left q] at this
      exact this
    · rw [tk_neg q]; omega
def o59 (o : Option (List Int)) : Option (List Int) := rd 8 (rd 8 (rd 1 (rd 1 o)))
theorem rd_none (w : Nat) : rd w none = none := rfl
def OKL (x y s k : Int) (l : List Int) : Prop := (0 ≤ x ∧ x < 256) ∧ (0 ≤ y ∧ y < 256) ∧ (win 4611686018427387904 [s, k] && decide ((l.length : Int) ≤ 2048)) = true ∧ Wb l
theorem encL {x y s k : Int} {l : List Int} (hx : 0 ≤ x ∧ x < 256) (hy : 0 ≤ y ∧ y < 256) : chk (liL x y s k l) = chk (5 :: (bes x 1 ++ (bes y 1 ++ (bes (IntKind.wrap .u64 s) 8 ++ (bes (IntKind.wrap .u64 k) 8 ++ (bes (IntKind.wrap .u64 (l.length : Int)) 2 ++ l)))))) := by
  unfold liL
  simp only [be1 hx.1 hx.2, be1 hy.1 hy.2, List.append_assoc, List.cons_append, List.nil_append]
def rn : Nat → Option (List Int) → Option (List Int)
  | 0, o => o
  | k + 1, o => rn k (rd 1 (rd 1 o))
theorem rn_rd : ∀ (k : Nat) (l : List Int), rn k (some l) = rd (2 * k) (some l)
  | 0, l => by rw [rd_pos (by omega)]; rfl
  | k + 1, l => by
    have hn : ∀ k, rn k none = none := by intro k; induction k with
      | zero => rfl
      | succ k ih => exact ih
    unfold rn
    rw [rd_rd]
    by_cases h : 2 ≤ l.length
    · rw [rd_pos h, rn_rd k]
      have e := rd_rd (2 * k) 2 (some l)
      rw [rd_pos h] at e
      rw [e, show 2 + 2 * k = 2 * (k + 1) by omega]
    · rw [rd_neg h, hn, rd_neg (by omega)]
theorem rn_none : ∀ k, rn k none = none
  | 0 => rfl
  | k + 1 => rn_none k
def o45 (o : Option (List Int)) : Option (List Int) := rd 4 (rd 4 (rd 8 (rd 8 (rd 1 o))))
theorem rdx1 (x : Int) (l : List Int) : rd 1 (some (x :: l)) = some l := rd_pos (by simp)
theorem vl1 (x : Int) (l : List Int) : vl 1 (some (x :: l)) = x := by
  unfold vl
  rw [tk_pos (by simp)]
  show 0 * 256 + x = x
  omega
theorem win1 {m a : Int} (h : win m [a] = true) : 0 ≤ a ∧ a ≤ m := by
  unfold win at h; simp at h; omega
def atv (b : List Int) (i w : Nat) : Int := vl w (rd i (some b))
theorem t47 {b : List Int} (hb : Wb b) (hl : b.length ≤ 1000000) (i w : Nat) (hi : i ≤ 100000) (hw : w ≤ 8) : op_47r [.l TB b, .n (i : Int), .n (w : Int)] = some (0, [.n (atv b i w)]) := by
  have hs : IntKind.wrap .i64 ((i : Int) + (w : Int)) = ((i + w : Nat) : Int) := by rw [w64d]; omega
  rw [op_47r_eq]
  refine fn_47r_t_im _ _ _ _ ?_
  unfold fn_47r_t
  dsimp only
  by_cases h : i + w ≤ b.length
  · have hd : List.drop ((i : Int)).toNat (List.take (((i + w : Nat) : Int)).toNat b) = (b.drop i).take w := by
      rw [show ((i : Int)).toNat = i by omega, show (((i + w : Nat) : Int)).toNat = i + w by omega, List.drop_take, show i + w - i = w by omega]
    have hat : atv b i w = nm ((b.drop i).take w) := by
      unfold atv vl
      rw [rd_pos (by omega), tk_pos (by rw [List.length_drop]; omega)]
    have e1 := t17r (l := (b.drop i).take w) (by rw [List.length_take]; omega) ((hb.drop i).take w)
    have q1 : ¬ (((i + w : Nat) : Int) > (b.length : Int)) := by omega
    have q2 : (0 : Int) ≤ ((i + w : Nat) : Int) := by omega
    have q3 : ((i + w : Nat) : Int) ≤ (b.length : Int) := by omega
    have q4 : (0 : Int) ≤ (i : Int) := by omega
    have q5 : (i : Int) ≤ ((i + w : Nat) : Int) := by omega
    erw [hs]
    refine sel_f (decide_eq_false q1) (sel_t (by rw [Bool.and_eq_true]; exact ⟨decide_eq_true q2, decide_eq_true q3⟩) (sel_t (by rw [Bool.and_eq_true]; exact ⟨decide_eq_true q4, decide_eq_true q5⟩) ?_))
    erw [hd, e1, hat]
    rfl
  · have hat : atv b i w = 0 := by
      unfold atv vl
      by_cases q : i ≤ b.length
      · rw [rd_pos q, tk_neg (by rw [List.length_drop]; omega)]; rfl
      · rw [rd_neg q]; rfl
    have q1 : (((i + w : Nat) : Int) > (b.length : Int)) := by omega
    erw [hs]
    rw [hat]
    exact sel_t (decide_eq_true q1) rfl
theorem WOs {b : List Int} (hb : Wb b) (hl : b.length ≤ 1000000) : WO (some b) := fun l h => by cases h; exact ⟨hb, hl⟩
theorem atv_bd {b : List Int} (hb : Wb b) (hl : b.length ≤ 1000000) (i w : Nat) : 0 ≤ atv b i w ∧ atv b i w < 256 ^ w := vl_bd ((WOs hb hl).rd i) w
theorem at8 {b : List Int} (hb : Wb b) (hl : b.length ≤ 1000000) (i : Nat) : 0 ≤ atv b i 8 ∧ atv b i 8 < 18446744073709551616 := atv_bd hb hl i 8
theorem at4 {b : List Int} (hb : Wb b) (hl : b.length ≤ 1000000) (i : Nat) : 0 ≤ atv b i 4 ∧ atv b i 4 < 4294967296 := atv_bd hb hl i 4
theorem getD_vl {b : List Int} {i : Nat} (h : i < b.length) : b.getD i 0 = vl 1 (rd i (some b)) := by
  rw [rd_pos (by omega), drop_getD h, vl1]
theorem getD_wb {b : List Int} (hb : Wb b) (i : Nat) : 0 ≤ b.getD i 0 ∧ b.getD i 0 < 256 := by
  by_cases h : i < b.length
  · exact hb _ (by rw [List.getD_eq_getElem?_getD, List.getElem?_eq_getElem h]; exact List.getElem_mem h)
  · rw [List.getD_eq_getElem?_getD, List.getElem?_eq_none (by omega)]; exact ⟨by decide, by decide⟩
theorem rdadd {i j k : Nat} {b x : List Int} {y : Option (List Int)} (h : rd i (some b) = some x) (h2 : rd j (some x) = y) (hk : i + j = k) : rd k (some b) = y := by
  subst hk
  rw [← rd_rd, h, h2]
theorem seSelf (s : ByteArray) : strEq s s = true := by unfold strEq; exact decide_eq_true rfl
theorem seNo (s : ByteArray) : (!strEq s s) = false := by rw [seSelf]; rfl
theorem se_eq {a b : List Int} (ha : Wb a) (hb : Wb b) (h : strEq (strOf a) (strOf b) = true) : a = b := by
  unfold strEq at h
  have h1 := of_decide_eq_true h
  have h2 : bytesOf (strOf a) = bytesOf (strOf b) := by unfold bytesOf; rw [h1]
  rw [bytes_back ha, bytes_back hb] at h2
  exact h2
theorem chk_wb {l : List Int} (h : Wb l) : Wb (chk l) := h.app (be_wb _ _)
theorem bif_wb {c : Bool} {l : List Int} (h : Wb l) : Wb (bif c then l else []) := by
  cases c
  · exact Wb.nil
  · exact h
theorem rdh {b l : List Int} {x : Int} (h : b = x :: l) : rd 1 (some b) = some l := by rw [h]; exact rdx1 _ _
theorem chk_c {k : Int} {p : List Int} : ∃ C, chk (k :: p) = k :: (p ++ C) := ⟨_, rfl⟩
theorem w32 {u : Int} (h : 0 ≤ u ∧ u < 4294967296) : IntKind.wrap .u32 u = u := by rw [wu32]; omega
def tma (b : List Int) (i : Nat) (k : Nat) : Int := IntKind.wrap .u8 (atv b (i + 24 + k) 1)
def tmT (b : List Int) (i n : Nat) : List Int := (List.range n).map (tma b i) ++ List.replicate (64 - n) 0
def tmr (b : List Int) (i : Nat) : List Int := tmT b i 64
theorem tmT_len (b : List Int) (i n : Nat) (h : n ≤ 64) : (tmT b i n).length = 64 := by
  unfold tmT
  rw [List.length_append, List.length_map, List.length_range, List.length_replicate]; omega
theorem tmT_set (b : List Int) (i n : Nat) (h : n < 64) : (tmT b i n).set n (tma b i n) = tmT b i (n + 1) := by
  unfold tmT
  have hl : ((List.range n).map (tma b i)).length = n := by rw [List.length_map, List.length_range]
  obtain ⟨m, hm⟩ : ∃ m, 64 - n = m + 1 := ⟨63 - n, by omega⟩
  rw [hm, show 64 - (n + 1) = m by omega, List.replicate_succ, List.range_succ, List.map_append, List.append_assoc]
  rw [List.set_append_right _ _ (by omega), hl, Nat.sub_self]
  rfl
theorem tmr_wb (b : List Int) (i : Nat) : Wb (tmr b i) := by
  unfold tmr tmT
  intro x hx
  rcases List.mem_append.1 hx with h | h
  · obtain ⟨k, _, rfl⟩ := List.mem_map.1 h
    unfold tma; rw [wu8]; omega
  · have := List.eq_of_mem_replicate h; omega
theorem lp54 {b : List Int} (hb : Wb b) (hl : b.length ≤ 100000) (i : Nat) (hi : i ≤ 1000) (a0 a1 a2 u : Int) :
    op_L54r_3 [.k 0, .l TB b, .n (i : Int), .n 0, .n 0, .n 0, .n 0, .l TB (List.replicate 64 (0 : Int)), .n 0, .n a0, .n a1, .n a2, .l TB (List.replicate 64 (0 : Int)), .n u] = some (0, [.n 0, .n 0, .n 0, .l TB (List.replicate 64 (0 : Int)), .n 0, .n a0, .n a1, .n a2, .l TB (tmr b i), .n u]) := by
  rw [op_L54r_3_eq]
  have hz : (List.replicate 64 (0 : Int)) = tmT b i 0 := rfl
  refine iterS_count (fun n => [.k 0, .l TB b, .n (i : Int), .n n, .n 0, .n 0, .n 0, .l TB (List.replicate 64 (0 : Int)), .n 0, .n a0, .n a1, .n a2, .l TB (tmT b i n.toNat), .n u]) 64 (0, [.n 0, .n 0, .n 0, .l TB (List.replicate 64 (0 : Int)), .n 0, .n a0, .n a1, .n a2, .l TB (tmr b i), .n u]) (fun n h0 h1 => ?_) ?_ FU 0 (by omega) (by omega) (by show (64 - (0 : Int)).toNat < FU; unfold FU; omega)
  · obtain ⟨k, rfl⟩ : ∃ k : Nat, n = (k : Int) := ⟨n.toNat, by omega⟩
    have hk : ((k : Int)).toNat = k := by omega
    have w1 : IntKind.wrap .i64 (IntKind.wrap .i64 ((i : Int) + 24) + (k : Int)) = ((i + 24 + k : Nat) : Int) := by rw [w64d, w64d]; omega
    have w2 : IntKind.wrap .i64 ((k : Int) + 1) = (k : Int) + 1 := w64s (by omega) (by omega)
    have e1 := t47 hb (by omega) (i + 24 + k) 1 (by omega) (by omega)
    refine fn_L54r_3_t_im _ _ _ _ _ _ _ _ _ _ _ _ _ h0 (List.length_replicate (n := 64) (a := (0 : Int))) (tmT_len b i _ (by omega)) _ ?_
    unfold fn_L54r_3_t
    dsimp only
    refine sel_t (decide_eq_true h1) ?_
    erw [w1, e1]
    refine sel_t rfl ?_
    have q : List.set (tmT b i ((k : Int)).toNat) (((k : Int)).toNat) (IntKind.wrap .u8 (atv b (i + 24 + k) 1)) = tmT b i (((k : Int) + 1).toNat) := by
      rw [hk, show ((k : Int) + 1).toNat = k + 1 by omega]
      exact tmT_set b i k (by omega)
    show some (Step.go [.k 0, .l TB b, .n (i : Int), .n (IntKind.wrap .i64 ((k : Int) + 1)), .n 0, .n 0, .n 0, .l TB (List.replicate 64 (0 : Int)), .n 0, .n a0, .n a1, .n a2, .l TB (List.set (tmT b i ((k : Int)).toNat) (((k : Int)).toNat) (IntKind.wrap .u8 (atv b (i + 24 + k) 1))), .n u]) = _
    rw [w2]
    exact congrArg (fun z : List Int => some (Step.go [.k 0, .l TB b, .n (i : Int), .n ((k : Int) + 1), .n 0, .n 0, .n 0, .l TB (List.replicate 64 (0 : Int)), .n 0, .n a0, .n a1, .n a2, .l TB z, .n u])) q
  · refine fn_L54r_3_t_im _ _ _ _ _ _ _ _ _ _ _ _ _ (by omega) (List.length_replicate (n := 64) (a := (0 : Int))) (tmT_len b i _ (by omega)) _ ?_
    unfold fn_L54r_3_t
    dsimp only
    exact sel_f (decide_eq_false (by omega)) rfl
theorem t54 {b : List Int} (hb : Wb b) (hl : b.length ≤ 100000) (i : Nat) (hi : i ≤ 1000) : op_54r [.l TB b, .n (i : Int)] = some (0, [.n (atv b i 8), .n (atv b (i + 8) 8), .n (atv b (i + 16) 8), .l TB (tmr b i), .n (atv b (i + 88) 4)]) := by
  have hw2 : b.length ≤ 1000000 := by omega
  have e1 := t47 hb hw2 i 8 (by omega) (by omega)
  have e2 := t47 hb hw2 (i + 8) 8 (by omega) (by omega)
  have e3 := t47 hb hw2 (i + 16) 8 (by omega) (by omega)
  have e4 := t47 hb hw2 (i + 88) 4 (by omega) (by omega)
  have w1 : IntKind.wrap .i64 ((i : Int) + 8) = ((i + 8 : Nat) : Int) := by rw [w64d]; omega
  have w2 : IntKind.wrap .i64 ((i : Int) + 16) = ((i + 16 : Nat) : Int) := by rw [w64d]; omega
  have w3 : IntKind.wrap .i64 ((i : Int) + 88) = ((i + 88 : Nat) : Int) := by rw [w64d]; omega
  have e5 := lp54 hb hl i hi (atv b i 8) (atv b (i + 8) 8) (atv b (i + 16) 8) (IntKind.wrap .u32 (atv b (i + 88) 4))
  rw [← w1] at e2
  rw [← w2] at e3
  rw [← w3] at e4
  rw [op_54r_eq]
  refine fn_54r_t_im _ _ _ ?_
  unfold fn_54r_t
  dsimp only
  erw [e1]
  refine sel_t rfl ?_
  erw [e2]
  refine sel_t rfl ?_
  erw [e3]
  refine sel_t rfl ?_
  erw [e4]
  refine sel_t rfl ?_
  erw [e5]
  refine sel_t rfl ?_
  show some (0, [Dat.n (atv b i 8), .n (atv b (i + 8) 8), .n (atv b (i + 16) 8), .l TB (tmr b i), .n (IntKind.wrap .u32 (atv b (i + 88) 4))]) = _
  rw [w32 (at4 hb hw2 (i + 88))]
theorem tmr_at {b t r : List Int} {i : Nat} (ht : Wb t) (h64 : t.length = 64) (h : rd (i + 24) (some b) = some (t ++ r)) : tmr b i = t := by
  have e : (List.range 64).map (tma b i) = t := by
    refine List.ext_getElem (by rw [List.length_map, List.length_range, h64]) fun k h1 h2 => ?_
    rw [List.getElem_map, List.getElem_range]
    unfold tma atv
    have hk := ht _ (List.getElem_mem h2)
    have s : rd (i + 24 + k) (some b) = some (t[k] :: (t.drop (k + 1) ++ r)) := by
      refine rdadd h (j := k) ?_ rfl
      rw [rd_pos (by rw [List.length_append]; omega), List.drop_append_of_le_length (by omega), List.drop_eq_getElem_cons h2]
      rfl
    rw [s, vl1, wu8]; omega
  unfold tmr tmT
  rw [e]
  show t ++ List.replicate 0 0 = t
  exact List.append_nil t
theorem H29 {b0 : List Int} (hw : Wb b0) (hl : b0.length ≤ 100000) (f : List Int) (hf : f = chk (3 :: stL (atv b0 1 8) (atv b0 9 8) (atv b0 17 8) (tmr b0 1) (atv b0 89 4))) (r : Nat × List Dat)
    (hr : (Tree.node (!strEq (strOf f) (strOf b0)) (.leaf ((0, [.n (0 : Int), .n (0 : Int), .n (0 : Int), .l TB (List.replicate 64 (0 : Int)), .n (0 : Int), .b false]))) (.leaf ((0, [.n (atv b0 1 8), .n (atv b0 9 8), .n (atv b0 17 8), .l TB (tmr b0 1), .n (atv b0 89 4), .b true])))).sel = some r) : op_29r [.l TB b0] = some r := by
  have e1 := t54 hw hl 1 (by omega)
  have e2 : op_18p [.n (atv b0 1 8), .n (atv b0 9 8), .n (atv b0 17 8), .l TB (tmr b0 1), .n (atv b0 89 4)] = some (0, [.l TB f]) := by
    rw [hf]
    exact m18 _ _ _ _ _ (tmT_len b0 1 64 (by omega)) (tmr_wb b0 1)
  clear hf
  rw [op_29r_eq]
  refine fn_29r_t_im _ _ ?_
  unfold fn_29r_t
  dsimp only
  erw [e1]
  refine sel_t rfl ?_
  erw [e2]
  exact sel_t rfl hr
theorem F29 {b0 : List Int} (hw : Wb b0) (hl : b0.length ≤ 100000) (h : ∀ a b c t u, OKS a b c t u → b0 ≠ chk (3 :: stL a b c t u)) : op_29r [.l TB b0] = some (0, [.n 0, .n 0, .n 0, .l TB (List.replicate 64 (0 : Int)), .n 0, .b false]) := by
  have hw2 : b0.length ≤ 1000000 := by omega
  refine H29 hw hl _ rfl _ (sel_t ?_ rfl)
  cases q : strEq (strOf (chk (3 :: stL (atv b0 1 8) (atv b0 9 8) (atv b0 17 8) (tmr b0 1) (atv b0 89 4)))) (strOf b0) with
  | false => rfl
  | true =>
    have e := se_eq (chk_wb ((stL_wb (tmr_wb b0 1)).cons (by omega))) hw q
    exact (h _ _ _ _ _ ⟨at8 hw hw2 1, at8 hw hw2 9, at8 hw hw2 17, ⟨tmr_wb b0 1, tmT_len b0 1 64 (by omega)⟩, at4 hw hw2 89⟩ e.symm).elim
theorem G29 {a b c u : Int} {t : List Int} (h : OKS a b c t u) : op_29r [.l TB (chk (3 :: stL a b c t u))] = some (0, [.n a, .n b, .n c, .l TB t, .n u, .b true]) := by
  obtain ⟨ha, hb, hc, ht, hu⟩ := h
  have hlen : (chk (3 :: stL a b c t u)).length = 97 := by rw [chk_len, List.length_cons, stL_len _ _ _ _ _ ht.2]
  have hb0 := encS (a := a) (b := b) (c := c) (t := t) hu
  have hwb : Wb (chk (3 :: stL a b c t u)) := chk_wb ((stL_wb ht.1).cons (by omega))
  obtain ⟨C, hx⟩ := chk_c (k := 3) (p := bes a 8 ++ (bes b 8 ++ (bes c 8 ++ (t ++ (bes u 4 ++ [])))))
  rw [← hb0] at hx
  simp only [List.append_assoc, List.nil_append] at hx
  obtain ⟨B, hB⟩ : ∃ B : List Int, B = chk (3 :: stL a b c t u) := ⟨_, rfl⟩
  rw [← hB] at hlen hwb hx ⊢
  have s1 := rdh hx
  have s9 := rdadd s1 (rd_be _ 8 _) rfl
  have s17 := rdadd s9 (rd_be _ 8 _) rfl
  have s25 := rdadd s17 (rd_be _ 8 _) rfl
  have s89 := rdadd s25 (rd_app ht.2) rfl
  have a1 : atv B 1 8 = a := by unfold atv; rw [s1, vl_be, nb8 ha.1 ha.2]
  have a2 : atv B 9 8 = b := by unfold atv; rw [s9, vl_be, nb8 hb.1 hb.2]
  have a3 : atv B 17 8 = c := by unfold atv; rw [s17, vl_be, nb8 hc.1 hc.2]
  have a4 : tmr B 1 = t := tmr_at ht.1 ht.2 s25
  have a5 : atv B 89 4 = u := by unfold atv; rw [s89, vl_be, nb4 hu.1 hu.2]
  refine H29 hwb (by omega) B ?_ _ ?_
  · rw [a1, a2, a3, a4, a5]; exact hB
  · rw [a1, a2, a3, a4, a5]
    exact sel_f (seNo _) rfl
abbrev LT := List (Ty.den TTm)
abbrev L8 := List (Ty.den TB)
theorem w64x {x : Int} (h0 : -9223372036854775808 ≤ x) (h1 : x < 9223372036854775808) : IntKind.wrap .i64 x = x := w64 h0 (by omega)
theorem w1 (i : Nat) (h : i < 9223372036854775807) : IntKind.wrap .i64 ((i : Int) + 1) = ((i + 1 : Nat) : Int) := by rw [w64x (by omega) (by omega)]; rfl
theorem tkT (l : LT) (i : Nat) (h : i < l.length) : List.take (i + 1) l = List.take i l ++ ([(tm_1 l (i : Int), tm_2 l (i : Int))] : List (Ty.den TTm)) := by
  rw [List.take_add_one, List.getElem?_eq_getElem h]
  have e : List.getD l (Int.toNat (i : Int)) (Ty.dflt TTm) = l[i] := by
    show List.getD l i (Ty.dflt TTm) = l[i]
    rw [List.getD_eq_getElem?_getD, List.getElem?_eq_getElem h]; rfl
  have e2 : ((tm_1 l (i : Int), tm_2 l (i : Int)) : Ty.den TTm) = l[i] := e
  exact congrArg (fun (x : Ty.den TTm) => List.take i l ++ [x]) e2.symm
theorem lp_L24_3 (n1 : Int) (n2 : Int) (n3 : Int) (n4 : Int) (n5 : Int) (n6 : Int) (n7 : Int) (n8 : Int) (l9 : List (Ty.den TB)) (n10 : Int) (n11 : Int) (n12 : Int) (n13 : Int) (n14 : Int) (l15 : List (Ty.den TTm)) (n16 : Int) (n17 : Int) (n18 : Int) (n19 : Int) (n20 : Int) (n21 : Int) (n22 : Int) (n23 : Int) (l24 : List (Ty.den TB)) (n25 : Int) (n26 : Int) (n27 : Int) (n28 : Int) (n29 : Int) (n30 : Int) (n31 : Int) (n32 : Int) (n33 : Int) (n34 : Int) (n35 : Int) (n36 : Int) (n37 : Int) (l38 : List (Ty.den TB)) (n39 : Int) (n40 : Int) (n41 : Int) (n42 : Int) (n43 : Int) (hl : l15.length ≤ 1000) : op_L24_3 (.k 0 :: .n (0 : Int) :: .n n1 :: .n n2 :: .n n3 :: .n n4 :: .n n5 :: .n n6 :: .n n7 :: .n n8 :: .l TB l9 :: .n n10 :: .n n11 :: .n n12 :: .n n13 :: .n n14 :: .l TTm l15 :: .n n16 :: .n n17 :: .n n18 :: .n n19 :: .n n20 :: .n n21 :: .n n22 :: .n n23 :: .l TB l24 :: .n n25 :: .n n26 :: .n n27 :: .n n28 :: .n n29 :: .n n30 :: .n n31 :: .n n32 :: .n n33 :: .n n34 :: .n n35 :: .n n36 :: .n n37 :: .l TB l38 :: .n n39 :: .n n40 :: .n n41 :: .n n42 :: .n n43 :: .l TTm (List.take 0 l15) :: []) = some (0, [.n n16, .n n17, .n n18, .n n19, .n n20, .n n21, .n n22, .n n23, .l TB l24, .n n25, .n n26, .n n27, .n n28, .n n29, .n n30, .n n31, .n n32, .n n33, .n n34, .n n35, .n n36, .n n37, .l TB l38, .n n39, .n n40, .n n41, .n n42, .n n43, .l TTm (List.take l15.length l15)]) := by
  rw [op_L24_3_eq]
  refine iter_count (fun i => (.k 0 :: .n (i : Int) :: .n n1 :: .n n2 :: .n n3 :: .n n4 :: .n n5 :: .n n6 :: .n n7 :: .n n8 :: .l TB l9 :: .n n10 :: .n n11 :: .n n12 :: .n n13 :: .n n14 :: .l TTm l15 :: .n n16 :: .n n17 :: .n n18 :: .n n19 :: .n n20 :: .n n21 :: .n n22 :: .n n23 :: .l TB l24 :: .n n25 :: .n n26 :: .n n27 :: .n n28 :: .n n29 :: .n n30 :: .n n31 :: .n n32 :: .n n33 :: .n n34 :: .n n35 :: .n n36 :: .n n37 :: .l TB l38 :: .n n39 :: .n n40 :: .n n41 :: .n n42 :: .n n43 :: .l TTm (List.take i l15) :: [])) (l15.length) (0, [.n n16, .n n17, .n n18, .n n19, .n n20, .n n21, .n n22, .n n23, .l TB l24, .n n25, .n n26, .n n27, .n n28, .n n29, .n n30, .n n31, .n n32, .n n33, .n n34, .n n35, .n n36, .n n37, .l TB l38, .n n39, .n n40, .n n41, .n n42, .n n43, .l TTm (List.take l15.length l15)]) (fun i hi => ?_) ?_ FU (lt_FU (by omega))
  · refine fn_L24_3_t_im _ _ _ _ _ _ _ _ _ _ _ _ _ _ _ _ _ _ _ _ _ _ _ _ _ _ _ _ _ _ _ _ _ _ _ _ _ _ _ _ _ _ _ _ _ (by omega) _ ?_
    unfold fn_L24_3_t
    have hcap : decide ((List.length (List.take i l15) + 1) * 16 ≤ 140737488355328) = true := decide_eq_true (by rw [List.length_take]; omega)
    refine sel_t (decide_eq_true (show (i : Int) < (l15.length : Int) by omega)) (sel_t hcap ?_)
    rw [w1 i (by omega), tkT l15 i hi]; rfl
  · refine fn_L24_3_t_im _ _ _ _ _ _ _ _ _ _ _ _ _ _ _ _ _ _ _ _ _ _ _ _ _ _ _ _ _ _ _ _ _ _ _ _ _ _ _ _ _ _ _ _ _ (by omega) _ ?_
    unfold fn_L24_3_t
    exact sel_f (decide_eq_false (show ¬ ((l15.length : Nat) : Int) < (l15.length : Int) by omega)) rfl
theorem lp_L25_4 (n1 : Int) (n2 : Int) (n3 : Int) (n4 : Int) (n5 : Int) (n6 : Int) (n7 : Int) (n8 : Int) (l9 : List (Ty.den TB)) (n10 : Int) (n11 : Int) (n12 : Int) (n13 : Int) (n14 : Int) (l15 : List (Ty.den TTm)) (n16 : Int) (n17 : Int) (n18 : Int) (n19 : Int) (n20 : Int) (n21 : Int) (n22 : Int) (n23 : Int) (l24 : List (Ty.den TB)) (n25 : Int) (n26 : Int) (n27 : Int) (n28 : Int) (n29 : Int) (l30 : List (Ty.den TTm)) (hl : l15.length ≤ 1000) (h : l15 = l30) : op_L25_4 (.k 0 :: .n (0 : Int) :: .n n1 :: .n n2 :: .n n3 :: .n n4 :: .n n5 :: .n n6 :: .n n7 :: .n n8 :: .l TB l9 :: .n n10 :: .n n11 :: .n n12 :: .n n13 :: .n n14 :: .l TTm l15 :: .n n16 :: .n n17 :: .n n18 :: .n n19 :: .n n20 :: .n n21 :: .n n22 :: .n n23 :: .l TB l24 :: .n n25 :: .n n26 :: .n n27 :: .n n28 :: .n n29 :: .l TTm l30 :: []) = some (0, []) := by
  rw [op_L25_4_eq]
  refine iter_count (fun i => (.k 0 :: .n (i : Int) :: .n n1 :: .n n2 :: .n n3 :: .n n4 :: .n n5 :: .n n6 :: .n n7 :: .n n8 :: .l TB l9 :: .n n10 :: .n n11 :: .n n12 :: .n n13 :: .n n14 :: .l TTm l15 :: .n n16 :: .n n17 :: .n n18 :: .n n19 :: .n n20 :: .n n21 :: .n n22 :: .n n23 :: .l TB l24 :: .n n25 :: .n n26 :: .n n27 :: .n n28 :: .n n29 :: .l TTm l30 :: [])) (l15.length) (0, []) (fun i hi => ?_) ?_ FU (lt_FU (by omega))
  · refine fn_L25_4_t_im _ _ _ _ _ _ _ _ _ _ _ _ _ _ _ _ _ _ _ _ _ _ _ _ _ _ _ _ _ _ _ (by omega) (by rw [h]) _ ?_
    unfold fn_L25_4_t
    refine sel_t (decide_eq_true (show (i : Int) < (l15.length : Int) by omega)) (sel_f (by rw [← h]; simp) ?_)
    rw [w1 i (by omega)]; rfl
  · refine fn_L25_4_t_im _ _ _ _ _ _ _ _ _ _ _ _ _ _ _ _ _ _ _ _ _ _ _ _ _ _ _ _ _ _ _ (by omega) (by rw [h]) _ ?_
    unfold fn_L25_4_t
    exact sel_f (decide_eq_false (show ¬ ((l15.length : Nat) : Int) < (l15.length : Int) by omega)) rfl
def r1 (l : LT) (i : Nat) : Int := tm_1 l (i : Int)
def h86 (l : LT) (i : Nat) : Bool := decide (r1 l i ≤ (if i = 0 then -1 else r1 l (i - 1))) || decide (r1 l i ≥ 64)
def h87 (l : LT) (i : Nat) : Bool := decide (r1 l i < 0) || (decide (r1 l i ≥ 64) || (decide (0 < i) && decide (r1 l i ≤ r1 l (i - 1))))
def riseB (l : LT) : Bool := (firstHit (h86 l) l.length).isNone
theorem rise_iff {l : LT} : riseB l = true ↔ ∀ i, i < l.length → h86 l i = false := by
  unfold riseB
  cases h : firstHit (h86 l) l.length with
  | none => simp only [Option.isNone_none, true_iff]; exact firstHit_none h
  | some k =>
    obtain ⟨h1, h2, _⟩ := firstHit_some h
    simp only [Option.isNone_some, Bool.false_eq_true, false_iff]
    intro hh; rw [hh k h1] at h2; cases h2
theorem rise_in {l : LT} (h : ∀ i, i < l.length → h86 l i = false) : ∀ i, i < l.length → 0 ≤ r1 l i ∧ r1 l i < 64
  | 0, hi => by have := h 0 hi; unfold h86 at this; simp at this; omega
  | i + 1, hi => by
    have := h (i + 1) hi
    have ih := rise_in h i (by omega)
    unfold h86 at this; simp at this; omega
theorem rise_both {l : LT} : (∀ i, i < l.length → h86 l i = false) ↔ ∀ i, i < l.length → h87 l i = false := by
  constructor
  · intro h i hi
    have h1 := rise_in h i hi
    have h2 := h i hi
    unfold h86 at h2; unfold h87
    by_cases h0 : i = 0
    · subst h0; simp; omega
    · simp [h0] at h2 ⊢; omega
  · intro h i hi
    have h2 := h i hi
    unfold h87 at h2; unfold h86
    by_cases h0 : i = 0
    · subst h0; simp at h2 ⊢; omega
    · simp [h0] at h2 ⊢
      have := h2.2.2 (by omega)
      omega
theorem rise_87 (l : LT) : (firstHit (h87 l) l.length).isNone = riseB l := by
  rw [Bool.eq_iff_iff, rise_iff, rise_both]
  cases h : firstHit (h87 l) l.length with
  | none => simp only [Option.isNone_none, true_iff]; exact firstHit_none h
  | some k =>
    obtain ⟨h1, h2, _⟩ := firstHit_some h
    simp only [Option.isNone_some, Bool.false_eq_true, false_iff]
    intro hh; rw [hh k h1] at h2; cases h2
theorem e86 (l : LT) (hl : l.length ≤ 1000) : op_86 [.l TTm l] = some (0, [.b (riseB l)]) := by
  have h1 : op_L86_3 [.k 0, .n (-1 : Int), .l TTm l, .n (l.length : Int), .n (0 : Int)] = some (match firstHit (h86 l) l.length with | some k => (1, [.b false]) | none => (0, [])) := by
    rw [op_L86_3_eq]
    refine iter_find (fun i => [.k 0, .n (if i = 0 then -1 else r1 l (i - 1)), .l TTm l, .n (l.length : Int), .n (i : Int)]) l.length (h86 l) (fun _ => (1, [.b false])) (0, []) (fun i hi hh => ?_) (fun i hi hh => ?_) ?_ FU (lt_FU (by omega))
    · refine fn_L86_3_t_im _ _ _ _ (by omega) rfl _ ?_
      unfold fn_L86_3_t
      unfold h86 at hh
      rw [Bool.or_eq_false_iff] at hh
      refine sel_t (decide_eq_true (show (i : Int) < (l.length : Int) by omega)) (sel_f hh.1 (sel_f hh.2 ?_))
      rw [w1 i (by omega)]; rfl
    · refine fn_L86_3_t_im _ _ _ _ (by omega) rfl _ ?_
      unfold fn_L86_3_t
      unfold h86 at hh
      refine sel_t (decide_eq_true (show (i : Int) < (l.length : Int) by omega)) ?_
      cases hc : decide (r1 l i ≤ (if i = 0 then -1 else r1 l (i - 1))) with
      | true => exact sel_t hc rfl
      | false => rw [hc, Bool.false_or] at hh; exact sel_f hc (sel_t hh rfl)
    · refine fn_L86_3_t_im _ _ _ _ (by omega) rfl _ ?_
      unfold fn_L86_3_t
      exact sel_f (decide_eq_false (show ¬ ((l.length : Nat) : Int) < (l.length : Int) by omega)) rfl
  rw [op_86_eq]
  refine fn_86_t_im _ _ ?_
  unfold fn_86_t
  dsimp only
  erw [h1]
  unfold riseB
  cases firstHit (h86 l) l.length with
  | none => exact sel_t rfl rfl
  | some k => exact sel_f rfl (sel_t rfl rfl)
theorem e87 (l : LT) (hl : l.length ≤ 1000) : op_87 [.l TTm l] = some (0, [.b (riseB l)]) := by
  have h1 : op_L87_2 [.k 0, .l TTm l, .n (0 : Int)] = some (match firstHit (h87 l) l.length with | some k => (1, [.b false]) | none => (0, [])) := by
    rw [op_L87_2_eq]
    have prev : ∀ i : Nat, 0 < i → i < 1001 → tm_1 l (IntKind.wrap .i64 ((i : Int) - 1)) = r1 l (i - 1) := fun i h0 h2 => by
      rw [w64x (by omega) (by omega)]; unfold r1; congr 1; omega
    have inr : ∀ i : Nat, 0 < i → i < l.length → inR (IntKind.wrap .i64 ((i : Int) - 1)) (List.length l) = true := fun i h0 h2 => by
      rw [w64x (by omega) (by omega)]; unfold inR
      rw [decide_eq_true (show (0 : Int) ≤ (i : Int) - 1 by omega), decide_eq_true (show (i : Int) - 1 < ((List.length l : Nat) : Int) by omega)]; rfl
    refine iter_find (fun i => [.k 0, .l TTm l, .n (i : Int)]) l.length (h87 l) (fun _ => (1, [.b false])) (0, []) (fun i hi hh => ?_) (fun i hi hh => ?_) ?_ FU (lt_FU (by omega))
    · refine fn_L87_2_t_im _ _ (by omega) _ ?_
      unfold fn_L87_2_t
      unfold h87 at hh
      rw [Bool.or_eq_false_iff, Bool.or_eq_false_iff] at hh
      refine sel_t (decide_eq_true (show (i : Int) < (l.length : Int) by omega)) (sel_f hh.1 (sel_f hh.2.1 ?_))
      rw [w1 i (by omega)]
      by_cases h0 : 0 < i
      · rw [prev i h0 (by omega)]
        refine sel_t (decide_eq_true (by omega)) (sel_t (inr i h0 hi) (sel_f ?_ rfl))
        have := hh.2.2
        rw [decide_eq_true h0, Bool.true_and] at this; exact this
      · exact sel_f (decide_eq_false (by omega)) rfl
    · refine fn_L87_2_t_im _ _ (by omega) _ ?_
      unfold fn_L87_2_t
      unfold h87 at hh
      refine sel_t (decide_eq_true (show (i : Int) < (l.length : Int) by omega)) ?_
      cases hc : decide (r1 l i < 0) with
      | true => exact sel_t hc rfl
      | false =>
        refine sel_f hc ?_
        rw [hc, Bool.false_or] at hh
        cases hd : decide (r1 l i ≥ 64) with
        | true => exact sel_t hd rfl
        | false =>
          refine sel_f hd ?_
          rw [hd, Bool.false_or, Bool.and_eq_true] at hh
          have h0 : 0 < i := of_decide_eq_true hh.1
          rw [prev i h0 (by omega)]
          exact sel_t (decide_eq_true (by omega)) (sel_t (inr i h0 hi) (sel_t hh.2 rfl))
    · refine fn_L87_2_t_im _ _ (by omega) _ ?_
      unfold fn_L87_2_t
      exact sel_f (decide_eq_false (show ¬ ((l.length : Nat) : Int) < (l.length : Int) by omega)) rfl
  rw [op_87_eq]
  refine fn_87_t_im _ _ ?_
  unfold fn_87_t
  dsimp only
  erw [h1]
  rw [← rise_87]
  cases firstHit (h87 l) l.length with
  | none => exact sel_t rfl rfl
  | some k => exact sel_f rfl (sel_t rfl rfl)
theorem e24 (n0 : Int) (n1 : Int) (n2 : Int) (n3 : Int) (n4 : Int) (n5 : Int) (n6 : Int) (n7 : Int) (l8 : L8) (n9 : Int) (n10 : Int) (n11 : Int) (n12 : Int) (n13 : Int) (l14 : LT) (hl : l14.length ≤ 1000) : op_24 [.n n0, .n n1, .n n2, .n n3, .n n4, .n n5, .n n6, .n n7, .l TB l8, .n n9, .n n10, .n n11, .n n12, .n n13, .l TTm l14] = some (0, [.n n0, .n n1, .n n2, .n n3, .n n4, .n n5, .n n6, .n n7, .l TB l8, .n n9, .n n10, .n n11, .n n12, .n n13, .l TTm l14]) := by
  rw [op_24_eq]
  refine fn_24_t_im _ _ _ _ _ _ _ _ _ _ _ _ _ _ _ _ ?_
  unfold fn_24_t
  dsimp only
  erw [lp_L24_3 n0 n1 n2 n3 n4 n5 n6 n7 l8 n9 n10 n11 n12 n13 l14 (0 : Int) (0 : Int) (0 : Int) (0 : Int) (0 : Int) (0 : Int) (0 : Int) (0 : Int) (List.replicate 64 (0 : Int)) (0 : Int) (0 : Int) (0 : Int) (0 : Int) (0 : Int) n0 n1 n2 n3 n4 n5 n6 n7 l8 n9 n10 n11 n12 n13 hl]
  refine sel_t rfl ?_
  show some (0, [_, _, _, _, _, _, _, _, _, _, _, _, _, _, Dat.l TTm (List.take l14.length l14)]) = _
  rw [List.take_length]; rfl
theorem eqL_self (l : L8) : eqL TB l l = true := by
  induction l with
  | nil => rfl
  | cons y l ih =>
    show (eqD TB y y && eqL TB l l) = true
    rw [ih]
    rw [Bool.and_true]
    exact beq_self_eq_true (α := Int) y
theorem st_self (a b c d : Int) (l : L8) : (a == a && (b == b && (c == c && (eqL TB l l && (d == d && true))))) = true := by rw [eqL_self]; simp
theorem e25 (n0 : Int) (n1 : Int) (n2 : Int) (n3 : Int) (n4 : Int) (n5 : Int) (n6 : Int) (n7 : Int) (l8 : L8) (n9 : Int) (n10 : Int) (n11 : Int) (n12 : Int) (n13 : Int) (l14 : LT) (hl : l14.length ≤ 1000) : op_25 [.n n0, .n n1, .n n2, .n n3, .n n4, .n n5, .n n6, .n n7, .l TB l8, .n n9, .n n10, .n n11, .n n12, .n n13, .l TTm l14, .n n0, .n n1, .n n2, .n n3, .n n4, .n n5, .n n6, .n n7, .l TB l8, .n n9, .n n10, .n n11, .n n12, .n n13, .l TTm l14] = some (0, [.b true]) := by
  rw [op_25_eq]
  refine fn_25_t_im _ _ _ _ _ _ _ _ _ _ _ _ _ _ _ _ _ _ _ _ _ _ _ _ _ _ _ _ _ _ _ ?_
  unfold fn_25_t
  dsimp only
  refine sel_f (by simp) (sel_f (by simp) (sel_f (by simp) (sel_f (by simp) (sel_f (by simp) (sel_f (by rw [st_self]; rfl) (sel_f (by simp) (sel_f (by simp) (sel_f (by simp) (sel_f (by simp) (sel_f (by simp) ?_))))))))))
  erw [lp_L25_4 n0 n1 n2 n3 n4 n5 n6 n7 l8 n9 n10 n11 n12 n13 l14 n0 n1 n2 n3 n4 n5 n6 n7 l8 n9 n10 n11 n12 n13 l14 hl rfl]
  exact sel_t rfl rfl
end Go.Proofs.Ytdaabhpeedekaaa.Vx
namespace Go.Proofs.Ytdaabhpeedekaaa.Vx
open Go Go.RowKit
set_option linter.unusedVariables false
set_option linter.unusedSimpArgs false
set_option maxRecDepth 100000
set_option maxHeartbeats 4000000
def mayB (k e c u v : Int) (tl : LT) : Bool := decide (k ≥ 1) && (decide (k ≤ 4) && (win 1099511627776 [e, c, u, v] && riseB tl))
theorem lp38 (l : List Int) (hl : l.length ≤ 1000000) : ∀ (k i f : Nat), i + k = l.length → k < f → iterS st_L38w_2 f [.k 0, .l TI l, .n (l.length : Int), .n (i : Int)] = (bif win 1099511627776 (l.drop i) then some (0, []) else some (1, [.b false]))
  | _, _, 0, _, h => by omega
  | 0, i, f + 1, hi, hf => by
    have e : (st_L38w_2 [.k 0, .l TI l, .n (l.length : Int), .n (i : Int)]).sel = some (.stop 0 []) := by
      refine fn_L38w_2_t_im l _ _ (by omega) rfl _ ?_
      unfold fn_L38w_2_t
      exact sel_f (decide_eq_false (show ¬ ((i : Int) < (l.length : Int)) by omega)) rfl
    unfold iterS
    rw [e, List.drop_eq_nil_of_le (by omega)]
    rfl
  | k + 1, i, f + 1, hi, hf => by
    have w : IntKind.wrap .i64 ((i : Int) + 1) = ((i + 1 : Nat) : Int) := by rw [w64d]; omega
    rw [drop_getD (show i < l.length by omega)]
    by_cases h1 : l.getD i 0 < 0
    · have e : (st_L38w_2 [.k 0, .l TI l, .n (l.length : Int), .n (i : Int)]).sel = some (.stop 1 [.b false]) := by
        refine fn_L38w_2_t_im l _ _ (by omega) rfl _ ?_
        unfold fn_L38w_2_t
        exact sel_t (decide_eq_true (show (i : Int) < (l.length : Int) by omega)) (sel_t (decide_eq_true h1) rfl)
      unfold iterS
      have hw : win 1099511627776 (l.getD i 0 :: l.drop (i + 1)) = false := by unfold win; rw [List.all_cons, decide_eq_true h1]; rfl
      rw [e, hw]
      rfl
    · by_cases h2 : l.getD i 0 > 1099511627776
      · have e : (st_L38w_2 [.k 0, .l TI l, .n (l.length : Int), .n (i : Int)]).sel = some (.stop 1 [.b false]) := by
          refine fn_L38w_2_t_im l _ _ (by omega) rfl _ ?_
          unfold fn_L38w_2_t
          exact sel_t (decide_eq_true (show (i : Int) < (l.length : Int) by omega)) (sel_f (decide_eq_false h1) (sel_t (decide_eq_true h2) rfl))
        unfold iterS
        have hw : win 1099511627776 (l.getD i 0 :: l.drop (i + 1)) = false := by unfold win; rw [List.all_cons, decide_eq_false h1, decide_eq_true h2]; rfl
        rw [e, hw]
        rfl
      · have e : (st_L38w_2 [.k 0, .l TI l, .n (l.length : Int), .n (i : Int)]).sel = some (.go [.k 0, .l TI l, .n (l.length : Int), .n ((i + 1 : Nat) : Int)]) := by
          refine fn_L38w_2_t_im l _ _ (by omega) rfl _ ?_
          unfold fn_L38w_2_t
          refine sel_t (decide_eq_true (show (i : Int) < (l.length : Int) by omega)) (sel_f (decide_eq_false h1) (sel_f (decide_eq_false h2) ?_))
          rw [w]; rfl
        unfold iterS
        rw [e]
        have ih := lp38 l hl k (i + 1) f (by omega) (by omega)
        have hw : win 1099511627776 (l.getD i 0 :: l.drop (i + 1)) = win 1099511627776 (l.drop (i + 1)) := by
          unfold win; rw [List.all_cons, decide_eq_false h1, decide_eq_false h2]; rfl
        rw [hw]
        exact ih
theorem t38 (l : List Int) (hl : l.length ≤ 1000000) : op_38w [.l TI l] = some (0, [.b (win 1099511627776 l)]) := by
  have e : op_L38w_2 [.k 0, .l TI l, .n (l.length : Int), .n 0] = (bif win 1099511627776 l then some (0, []) else some (1, [.b false])) := by
    rw [op_L38w_2_eq]
    exact lp38 l hl l.length 0 FU (by omega) (by unfold FU; omega)
  rw [op_38w_eq]
  refine fn_38w_t_im l _ ?_
  unfold fn_38w_t
  cases h : win 1099511627776 l with
  | true =>
    rw [h] at e
    exact sel_t (by erw [e]; rfl) rfl
  | false =>
    rw [h] at e
    exact sel_f (by erw [e]; rfl) (sel_t (by erw [e]; rfl) (by erw [e]; rfl))
theorem may24 (k e c u v s1 s2 s3 : Int) (t : List Int) (s5 d1 d2 d3 d4 : Int) (tl : LT) (hl : tl.length ≤ 1000) : op_24y [.n k, .n e, .n c, .n u, .n v, .n s1, .n s2, .n s3, .l TB t, .n s5, .n d1, .n d2, .n d3, .n d4, .l TTm tl] = some (0, [.b (mayB k e c u v tl)]) := by
  have e1 := t38 [e, c, u, v] (by simp)
  have e2 := e86 tl hl
  rw [op_24y_eq]
  refine fn_24y_t_im _ _ _ _ _ _ _ _ _ _ _ _ _ _ _ _ ?_
  unfold fn_24y_t
  dsimp only
  unfold mayB
  by_cases h1 : k ≥ 1
  · refine sel_t (decide_eq_true h1) ?_
    rw [decide_eq_true h1, Bool.true_and]
    by_cases h2 : k ≤ 4
    · refine sel_t (decide_eq_true h2) ?_
      rw [decide_eq_true h2, Bool.true_and]
      erw [e1]
      cases win 1099511627776 [e, c, u, v] with
      | false => rfl
      | true =>
        refine sel_t rfl (sel_t rfl ?_)
        erw [e2]
        rfl
    · rw [decide_eq_false h2]; rfl
  · rw [decide_eq_false h1]; rfl
theorem win4 (e c u v : Int) : win 1099511627776 [e, c, u, v] = (decide (e ≥ 0) && (decide (e ≤ 1099511627776) && (decide (c ≥ 0) && (decide (c ≤ 1099511627776) && (decide (u ≥ 0) && (decide (u ≤ 1099511627776) && (decide (v ≥ 0) && decide (v ≤ 1099511627776)))))))) := by
  unfold win
  rw [Bool.eq_iff_iff]
  simp only [List.all_cons, List.all_nil, Bool.and_true, Bool.and_eq_true, Bool.not_eq_true', decide_eq_false_iff_not, decide_eq_true_eq]
  omega
theorem may34 (k e c u v s1 s2 s3 : Int) (t : List Int) (s5 d1 d2 d3 d4 : Int) (tl : LT) (hl : tl.length ≤ 1000) : op_34y [.n k, .n e, .n c, .n u, .n v, .n s1, .n s2, .n s3, .l TB t, .n s5, .n d1, .n d2, .n d3, .n d4, .l TTm tl] = some (0, [.b (mayB k e c u v tl)]) := by
  have e2 := e87 tl hl
  rw [op_34y_eq]
  refine fn_34y_t_im _ _ _ _ _ _ _ _ _ _ _ _ _ _ _ _ ?_
  unfold fn_34y_t
  dsimp only
  unfold mayB
  rw [win4]
  by_cases h0 : k ≥ 1
  · refine sel_t (decide_eq_true h0) ?_
    by_cases h1 : k ≤ 4
    · refine sel_t (decide_eq_true h1) ?_
      by_cases h2 : e ≥ 0
      · refine sel_t (decide_eq_true h2) ?_
        by_cases h3 : e ≤ 1099511627776
        · refine sel_t (decide_eq_true h3) ?_
          by_cases h4 : c ≥ 0
          · refine sel_t (decide_eq_true h4) ?_
            by_cases h5 : c ≤ 1099511627776
            · refine sel_t (decide_eq_true h5) ?_
              by_cases h6 : u ≥ 0
              · refine sel_t (decide_eq_true h6) ?_
                by_cases h7 : u ≤ 1099511627776
                · refine sel_t (decide_eq_true h7) ?_
                  by_cases h8 : v ≥ 0
                  · refine sel_t (decide_eq_true h8) ?_
                    by_cases h9 : v ≤ 1099511627776
                    · refine sel_t (decide_eq_true h9) ?_
                      simp only [decide_eq_true h0, decide_eq_true h1, decide_eq_true h2, decide_eq_true h3, decide_eq_true h4, decide_eq_true h5, decide_eq_true h6, decide_eq_true h7, decide_eq_true h8, decide_eq_true h9, Bool.true_and]
                      erw [e2]
                      rfl
                    · simp only [decide_eq_true h0, decide_eq_true h1, decide_eq_true h2, decide_eq_true h3, decide_eq_true h4, decide_eq_true h5, decide_eq_true h6, decide_eq_true h7, decide_eq_true h8, decide_eq_false h9, Bool.false_and, Bool.and_false, Bool.true_and]; rfl
                  · simp only [decide_eq_true h0, decide_eq_true h1, decide_eq_true h2, decide_eq_true h3, decide_eq_true h4, decide_eq_true h5, decide_eq_true h6, decide_eq_true h7, decide_eq_false h8, Bool.false_and, Bool.and_false, Bool.true_and]; rfl
                · simp only [decide_eq_true h0, decide_eq_true h1, decide_eq_true h2, decide_eq_true h3, decide_eq_true h4, decide_eq_true h5, decide_eq_true h6, decide_eq_false h7, Bool.false_and, Bool.and_false, Bool.true_and]; rfl
              · simp only [decide_eq_true h0, decide_eq_true h1, decide_eq_true h2, decide_eq_true h3, decide_eq_true h4, decide_eq_true h5, decide_eq_false h6, Bool.false_and, Bool.and_false, Bool.true_and]; rfl
            · simp only [decide_eq_true h0, decide_eq_true h1, decide_eq_true h2, decide_eq_true h3, decide_eq_true h4, decide_eq_false h5, Bool.false_and, Bool.and_false, Bool.true_and]; rfl
          · simp only [decide_eq_true h0, decide_eq_true h1, decide_eq_true h2, decide_eq_true h3, decide_eq_false h4, Bool.false_and, Bool.and_false, Bool.true_and]; rfl
        · simp only [decide_eq_true h0, decide_eq_true h1, decide_eq_true h2, decide_eq_false h3, Bool.false_and, Bool.and_false, Bool.true_and]; rfl
      · simp only [decide_eq_true h0, decide_eq_true h1, decide_eq_false h2, Bool.false_and, Bool.and_false, Bool.true_and]; rfl
    · simp only [decide_eq_true h0, decide_eq_false h1, Bool.false_and, Bool.and_false, Bool.true_and]; rfl
  · simp only [Bool.true_and, decide_eq_false h0, Bool.false_and, Bool.and_false, Bool.true_and]; rfl
/-! ### bytes -/
def lgi (l : List Int) : List Int := l.flatMap fun n => bes (IntKind.wrap .u64 n) 8
theorem lgi_len (l : List Int) : (lgi l).length = 8 * l.length := by
  induction l with
  | nil => rfl
  | cons a l ih => unfold lgi at *; rw [List.flatMap_cons, List.length_append, be_len, ih, List.length_cons]; omega
theorem lp29 (ns : List Int) (hn : ns.length ≤ 1000) : ∀ (k i : Nat) (l : List Int) (f : Nat), i + k = ns.length → l.length + 8 * k ≤ 990000 → k < f → iterS st_L29l_1 f [.k 0, .n (ns.length : Int), .n (i : Int), .l TI ns, .l TB l] = some (0, [.l TB (l ++ lgi (ns.drop i))])
  | _, _, _, 0, _, _, h => by omega
  | 0, i, l, f + 1, hi, hl, hf => by
    have e : (st_L29l_1 [.k 0, .n (ns.length : Int), .n (i : Int), .l TI ns, .l TB l]).sel = some (.stop 0 [.l TB l]) := by
      refine fn_L29l_1_t_im _ _ ns l (by omega) rfl _ ?_
      unfold fn_L29l_1_t
      exact sel_f (decide_eq_false (show ¬ ((i : Int) < (ns.length : Int)) by omega)) rfl
    unfold iterS
    rw [e, List.drop_eq_nil_of_le (by omega)]
    exact congrArg (fun z : List Int => some (0, [Dat.l TB z])) (List.append_nil l).symm
  | k + 1, i, l, f + 1, hi, hl, hf => by
    have w : IntKind.wrap .i64 ((i : Int) + 1) = ((i + 1 : Nat) : Int) := by rw [w64d]; omega
    have e1 := t35b (IntKind.wrap .u64 (ns.getD i 0)) 8 (by omega) l (by omega)
    have e : (st_L29l_1 [.k 0, .n (ns.length : Int), .n (i : Int), .l TI ns, .l TB l]).sel = some (.go [.k 0, .n (ns.length : Int), .n ((i + 1 : Nat) : Int), .l TI ns, .l TB (l ++ bes (IntKind.wrap .u64 (ns.getD i 0)) 8)]) := by
      refine fn_L29l_1_t_im _ _ ns l (by omega) rfl _ ?_
      unfold fn_L29l_1_t
      dsimp only
      refine sel_t (decide_eq_true (show (i : Int) < (ns.length : Int) by omega)) ?_
      erw [e1]
      refine sel_t rfl ?_
      rw [w]; rfl
    unfold iterS
    rw [e]
    have ih := lp29 ns hn k (i + 1) (l ++ bes (IntKind.wrap .u64 (ns.getD i 0)) 8) f (by omega) (by rw [List.length_append, be_len]; omega) (by omega)
    rw [drop_getD (show i < ns.length by omega)]
    have hc : lgi (ns.getD i 0 :: ns.drop (i + 1)) = bes (IntKind.wrap .u64 (ns.getD i 0)) 8 ++ lgi (ns.drop (i + 1)) := rfl
    rw [hc, ← List.append_assoc]
    exact ih
theorem t29 (ns l : List Int) (hn : ns.length ≤ 1000) (hl : l.length + 8 * ns.length ≤ 990000) : op_29l [.l TI ns, .l TB l] = some (0, [.l TB (l ++ lgi ns)]) := by
  have e : op_L29l_1 [.k 0, .n (ns.length : Int), .n 0, .l TI ns, .l TB l] = some (0, [.l TB (l ++ lgi ns)]) := by
    rw [op_L29l_1_eq]
    exact lp29 ns hn ns.length 0 l FU (by omega) (by omega) (by unfold FU; omega)
  rw [op_29l_eq]
  refine fn_29l_t_im ns l _ ?_
  unfold fn_29l_t
  dsimp only
  erw [e]
  rfl
abbrev Tm := Ty.den TTm
def tb1 (a b : Int) : List Int := [IntKind.wrap .u8 a, b]
def tms (l : LT) : List Int := l.flatMap fun x => tb1 (Prod.fst x) (Prod.snd x)
theorem tms_len (l : LT) : (tms l).length = 2 * l.length := by
  induction l with
  | nil => rfl
  | cons a l ih =>
    have h : tms (a :: l) = tb1 (Prod.fst a) (Prod.snd a) ++ tms l := rfl
    rw [h, List.length_append, ih, List.length_cons]
    show 2 + 2 * l.length = _
    omega
def WT (l : LT) : Prop := ∀ i : Nat, i < l.length → 0 ≤ tm_2 l (i : Int) ∧ tm_2 l (i : Int) < 256
theorem drop_T {l : LT} {i : Nat} (h : i < l.length) : l.drop i = l.getD i (Ty.dflt TTm) :: l.drop (i + 1) := by
  rw [List.drop_eq_getElem_cons h, List.getD_eq_getElem?_getD, List.getElem?_eq_getElem h]; rfl
theorem tms_drop {l : LT} {i : Nat} (h : i < l.length) : tms (l.drop i) = tb1 (tm_1 l (i : Int)) (tm_2 l (i : Int)) ++ tms (l.drop (i + 1)) := by
  rw [drop_T h]; rfl
theorem lp32 (l : LT) (hl : l.length ≤ 1000) (hw : WT l) : ∀ (k i : Nat) (a : List Int) (f : Nat), i + k = l.length → a.length + 2 * k ≤ 990000 → k < f → iterS st_L32d_7 f [.k 0, .l TTm l, .n (l.length : Int), .n (i : Int), .l TB a] = some (0, [.l TB (a ++ tms (l.drop i))])
  | _, _, _, 0, _, _, h => by omega
  | 0, i, a, f + 1, hi, ha, hf => by
    have e : (st_L32d_7 [.k 0, .l TTm l, .n (l.length : Int), .n (i : Int), .l TB a]).sel = some (.stop 0 [.l TB a]) := by
      refine fn_L32d_7_t_im l _ _ a (by omega) rfl _ ?_
      unfold fn_L32d_7_t
      exact sel_f (decide_eq_false (show ¬ ((i : Int) < (l.length : Int)) by omega)) rfl
    unfold iterS
    rw [e, List.drop_eq_nil_of_le (by omega)]
    exact congrArg (fun z : List Int => some (0, [Dat.l TB z])) (List.append_nil a).symm
  | k + 1, i, a, f + 1, hi, ha, hf => by
    have w : IntKind.wrap .i64 ((i : Int) + 1) = ((i + 1 : Nat) : Int) := by rw [w64d]; omega
    have h8 : 0 ≤ IntKind.wrap .u8 (tm_1 l (i : Int)) ∧ IntKind.wrap .u8 (tm_1 l (i : Int)) < 256 := by rw [wu8]; omega
    have hv := hw i (by omega)
    have e1 := t35b (IntKind.wrap .u64 (IntKind.wrap .u8 (tm_1 l (i : Int)))) 1 (by omega) a (by omega)
    rw [bes1 h8.1 h8.2] at e1
    have e2 := t35b (IntKind.wrap .u64 (tm_2 l (i : Int))) 1 (by omega) (a ++ [IntKind.wrap .u8 (tm_1 l (i : Int))]) (by rw [List.length_append, List.length_singleton]; omega)
    rw [bes1 hv.1 hv.2] at e2
    have e : (st_L32d_7 [.k 0, .l TTm l, .n (l.length : Int), .n (i : Int), .l TB a]).sel = some (.go [.k 0, .l TTm l, .n (l.length : Int), .n ((i + 1 : Nat) : Int), .l TB (a ++ [IntKind.wrap .u8 (tm_1 l (i : Int))] ++ [tm_2 l (i : Int)])]) := by
      refine fn_L32d_7_t_im l _ _ a (by omega) rfl _ ?_
      unfold fn_L32d_7_t
      dsimp only
      refine sel_t (decide_eq_true (show (i : Int) < (l.length : Int) by omega)) ?_
      erw [e1]
      refine sel_t rfl ?_
      erw [e2]
      refine sel_t rfl ?_
      rw [w]; rfl
    unfold iterS
    rw [e]
    have ih := lp32 l hl hw k (i + 1) (a ++ [IntKind.wrap .u8 (tm_1 l (i : Int))] ++ [tm_2 l (i : Int)]) f (by omega) (by rw [List.length_append, List.length_append, List.length_singleton, List.length_singleton]; omega) (by omega)
    rw [tms_drop (show i < l.length by omega)]
    have hc : a ++ (tb1 (tm_1 l (i : Int)) (tm_2 l (i : Int)) ++ tms (l.drop (i + 1))) = a ++ [IntKind.wrap .u8 (tm_1 l (i : Int))] ++ [tm_2 l (i : Int)] ++ tms (l.drop (i + 1)) := by
      show _ = _
      unfold tb1
      simp only [List.append_assoc, List.cons_append, List.nil_append]
    rw [hc]
    exact ih
def hdB (k e c u v : Int) : List Int := [k] ++ bes (IntKind.wrap .u64 e) 8 ++ bes (IntKind.wrap .u64 c) 8 ++ bes (IntKind.wrap .u64 u) 8 ++ bes (IntKind.wrap .u64 v) 8
theorem hdB_len (k e c u v : Int) : (hdB k e c u v).length = 33 := by unfold hdB; simp only [List.length_append, be_len]; rfl
def dlL (d1 d2 d3 d4 : Int) (tl : LT) : List Int := bes d1 8 ++ bes d2 8 ++ bes d3 8 ++ bes (IntKind.wrap .u64 d4) 4 ++ [IntKind.wrap .u8 (tl.length : Int)] ++ tms tl
theorem dlL_len (d1 d2 d3 d4 : Int) (tl : LT) : (dlL d1 d2 d3 d4 tl).length = 29 + 2 * tl.length := by unfold dlL; simp only [List.length_append, be_len, tms_len]; rfl
theorem t32 (d1 d2 d3 d4 : Int) (tl : LT) (hl : tl.length ≤ 1000) (hw : WT tl) (a : List Int) (ha : a.length ≤ 900000) : op_32d [.n d1, .n d2, .n d3, .n d4, .l TTm tl, .l TB a] = some (0, [.l TB (a ++ dlL d1 d2 d3 d4 tl)]) := by
  have h8 : 0 ≤ IntKind.wrap .u8 (tl.length : Int) ∧ IntKind.wrap .u8 (tl.length : Int) < 256 := by rw [wu8]; omega
  have e1 := t35b d1 8 (by omega) a (by omega)
  have e2 := t35b d2 8 (by omega) (a ++ bes d1 8) (by rw [List.length_append, be_len]; omega)
  have e3 := t35b d3 8 (by omega) (a ++ bes d1 8 ++ bes d2 8) (by simp only [List.length_append, be_len]; omega)
  have e4 := t35b (IntKind.wrap .u64 d4) 4 (by omega) (a ++ bes d1 8 ++ bes d2 8 ++ bes d3 8) (by simp only [List.length_append, be_len]; omega)
  have e5 := t35b (IntKind.wrap .u64 (IntKind.wrap .u8 (tl.length : Int))) 1 (by omega) (a ++ bes d1 8 ++ bes d2 8 ++ bes d3 8 ++ bes (IntKind.wrap .u64 d4) 4) (by simp only [List.length_append, be_len]; omega)
  rw [bes1 h8.1 h8.2] at e5
  have e6 : op_L32d_7 [.k 0, .l TTm tl, .n (tl.length : Int), .n 0, .l TB (a ++ bes d1 8 ++ bes d2 8 ++ bes d3 8 ++ bes (IntKind.wrap .u64 d4) 4 ++ [IntKind.wrap .u8 (tl.length : Int)])] = some (0, [.l TB (a ++ dlL d1 d2 d3 d4 tl)]) := by
    rw [op_L32d_7_eq]
    refine (lp32 tl hl hw tl.length 0 _ FU (by omega) (by simp only [List.length_append, be_len, List.length_singleton]; omega) (by unfold FU; omega)).trans ?_
    have hb : a ++ bes d1 8 ++ bes d2 8 ++ bes d3 8 ++ bes (IntKind.wrap .u64 d4) 4 ++ [IntKind.wrap .u8 (tl.length : Int)] ++ tms (tl.drop 0) = a ++ dlL d1 d2 d3 d4 tl := by
      unfold dlL
      simp only [List.append_assoc]
      rfl
    exact congrArg (fun z : List Int => some (0, [Dat.l TB z])) hb
  rw [op_32d_eq]
  refine fn_32d_t_im _ _ _ _ _ _ _ ?_
  unfold fn_32d_t
  dsimp only
  erw [e1]
  refine sel_t rfl ?_
  erw [e2]
  refine sel_t rfl ?_
  erw [e3]
  refine sel_t rfl ?_
  erw [e4]
  refine sel_t rfl ?_
  erw [e5]
  refine sel_t rfl ?_
  erw [e6]
  rfl
def bdM (k s1 s2 s3 : Int) (t : List Int) (s5 d1 d2 d3 d4 : Int) (tl : LT) : List Int := bif k == 1 then chk (3 :: stL s1 s2 s3 t s5) else bif k == 2 then dlL d1 d2 d3 d4 tl else []
def encM (k e c u v s1 s2 s3 : Int) (t : List Int) (s5 d1 d2 d3 d4 : Int) (tl : LT) : List Int := hdB k e c u v ++ bdM k s1 s2 s3 t s5 d1 d2 d3 d4 tl
theorem p7 (k e c u v s1 s2 s3 : Int) (t : List Int) (s5 d1 d2 d3 d4 : Int) (tl : LT) (h0 : 0 ≤ k) (h1 : k < 256) (ht : t.length = 64) (hl : tl.length ≤ 1000) (hw : WT tl) : op_7p [.n k, .n e, .n c, .n u, .n v, .n s1, .n s2, .n s3, .l TB t, .n s5, .n d1, .n d2, .n d3, .n d4, .l TTm tl] = some (0, [.l TB (bif mayB k e c u v tl then encM k e c u v s1 s2 s3 t s5 d1 d2 d3 d4 tl else [])]) := by
  have e1 := may24 k e c u v s1 s2 s3 t s5 d1 d2 d3 d4 tl hl
  have e2 := t35a (IntKind.wrap .u64 k) 1 (by omega) (by omega)
  rw [bes1 h0 h1] at e2
  have e3 := t29 [e, c, u, v] [k] (by simp) (by simp)
  have hh : [k] ++ lgi [e, c, u, v] = hdB k e c u v := by
    unfold hdB lgi
    simp only [List.flatMap_cons, List.flatMap_nil, List.append_assoc, List.append_nil]
  rw [hh] at e3
  have hdl := hdB_len k e c u v
  rw [op_7p_eq]
  refine fn_7p_t_im _ _ _ _ _ _ _ _ _ _ _ _ _ _ _ ht _ ?_
  unfold fn_7p_t
  dsimp only
  erw [e1]
  cases hm : mayB k e c u v tl with
  | false => rfl
  | true =>
    refine sel_t rfl (sel_f rfl ?_)
    erw [e2]
    refine sel_f rfl (sel_t rfl ?_)
    erw [e3]
    refine sel_t rfl ?_
    by_cases k1 : k = 1
    · subst k1
      have e4 := p11 s1 s2 s3 t s5 ht
      have hcl : (chk (3 :: stL s1 s2 s3 t s5)).length = 97 := by rw [chk_len, List.length_cons, stL_len _ _ _ _ _ ht]
      have e5 := t31 (l := hdB 1 e c u v ++ chk (3 :: stL s1 s2 s3 t s5)) (by rw [List.length_append]; omega)
      refine sel_t rfl ?_
      erw [e4]
      refine sel_t rfl (sel_t (decide_eq_true (show ((hdB 1 e c u v).length + (chk (3 :: stL s1 s2 s3 t s5)).length) * 1 ≤ 140737488355328 by omega)) ?_)
      erw [e5]
      rfl
    · refine sel_f (beq_eq_false_iff_ne.2 k1) ?_
      by_cases k2 : k = 2
      · subst k2
        have e4 := t32 d1 d2 d3 d4 tl hl hw (hdB 2 e c u v) (by omega)
        have hcl := dlL_len d1 d2 d3 d4 tl
        have e5 := t31 (l := hdB 2 e c u v ++ dlL d1 d2 d3 d4 tl) (by rw [List.length_append]; omega)
        refine sel_t rfl ?_
        erw [e4]
        refine sel_t rfl ?_
        erw [e5]
        rfl
      · refine sel_f (beq_eq_false_iff_ne.2 k2) ?_
        have e5 := t31 (l := hdB k e c u v) (by omega)
        have hq : encM k e c u v s1 s2 s3 t s5 d1 d2 d3 d4 tl = hdB k e c u v := by
          unfold encM bdM
          rw [beq_eq_false_iff_ne.2 k1, beq_eq_false_iff_ne.2 k2]
          exact List.append_nil _
        erw [e5]
        refine sel_t rfl ?_
        exact congrArg (fun z : List Int => some (0, [Dat.l TB z])) hq.symm
end Go.Proofs.Ytdaabhpeedekaaa.Vx
namespace Go.Proofs.Ytdaabhpeedekaaa.Vx
open Go Go.RowKit
set_option linter.unusedVariables false
set_option linter.unusedSimpArgs false
set_option maxRecDepth 100000
set_option maxHeartbeats 4000000
theorem lp8 (k e c u v s1 s2 s3 : Int) (t : List Int) (s5 d1 d2 d3 d4 : Int) (tl : LT) (ht : t.length = 64) (hl : tl.length ≤ 1000) : ∀ (n i : Nat) (a : List Int) (f : Nat), i + n = tl.length → a.length + 2 * n ≤ 990000 → n < f → iterS st_L8p_18 f [.k 0, .n (i : Int), .n k, .n e, .n c, .n u, .n v, .n s1, .n s2, .n s3, .l TB t, .n s5, .n d1, .n d2, .n d3, .n d4, .l TTm tl, .l TB a] = some (0, [.l TB (a ++ tms (tl.drop i))])
  | _, _, _, 0, _, _, h => by omega
  | 0, i, a, f + 1, hi, ha, hf => by
    have hst : (st_L8p_18 [.k 0, .n (i : Int), .n k, .n e, .n c, .n u, .n v, .n s1, .n s2, .n s3, .l TB t, .n s5, .n d1, .n d2, .n d3, .n d4, .l TTm tl, .l TB a]).sel = some (.stop 0 [.l TB a]) := by
      refine fn_L8p_18_t_im _ _ _ _ _ _ _ _ _ _ _ _ _ _ _ _ _ (by omega) ht _ ?_
      unfold fn_L8p_18_t
      exact sel_f (decide_eq_false (show ¬ ((i : Int) < (tl.length : Int)) by omega)) rfl
    unfold iterS
    rw [hst, List.drop_eq_nil_of_le (by omega)]
    exact congrArg (fun z : List Int => some (0, [Dat.l TB z])) (List.append_nil a).symm
  | n + 1, i, a, f + 1, hi, ha, hf => by
    have w : IntKind.wrap .i64 ((i : Int) + 1) = ((i + 1 : Nat) : Int) := by rw [w64d]; omega
    have hst : (st_L8p_18 [.k 0, .n (i : Int), .n k, .n e, .n c, .n u, .n v, .n s1, .n s2, .n s3, .l TB t, .n s5, .n d1, .n d2, .n d3, .n d4, .l TTm tl, .l TB a]).sel = some (.go [.k 0, .n ((i + 1 : Nat) : Int), .n k, .n e, .n c, .n u, .n v, .n s1, .n s2, .n s3, .l TB t, .n s5, .n d1, .n d2, .n d3, .n d4, .l TTm tl, .l TB (a ++ tb1 (tm_1 tl (i : Int)) (tm_2 tl (i : Int)))]) := by
      refine fn_L8p_18_t_im _ _ _ _ _ _ _ _ _ _ _ _ _ _ _ _ _ (by omega) ht _ ?_
      unfold fn_L8p_18_t
      refine sel_t (decide_eq_true (show (i : Int) < (tl.length : Int) by omega)) (sel_t (decide_eq_true (show (a.length + 2) * 1 ≤ 140737488355328 by omega)) ?_)
      rw [w]; rfl
    unfold iterS
    rw [hst]
    have ih := lp8 k e c u v s1 s2 s3 t s5 d1 d2 d3 d4 tl ht hl n (i + 1) (a ++ tb1 (tm_1 tl (i : Int)) (tm_2 tl (i : Int))) f (by omega) (by rw [List.length_append]; show a.length + 2 + 2 * n ≤ 990000; omega) (by omega)
    rw [tms_drop (show i < tl.length by omega), ← List.append_assoc]
    exact ih
theorem p8 (k e c u v s1 s2 s3 : Int) (t : List Int) (s5 d1 d2 d3 d4 : Int) (tl : LT) (h0 : 0 ≤ k) (h1 : k < 256) (ht : t.length = 64) (hwt : Wb t) (hl : tl.length ≤ 1000) : op_8p [.n k, .n e, .n c, .n u, .n v, .n s1, .n s2, .n s3, .l TB t, .n s5, .n d1, .n d2, .n d3, .n d4, .l TTm tl] = some (0, [.l TB (bif mayB k e c u v tl then encM k e c u v s1 s2 s3 t s5 d1 d2 d3 d4 tl else [])]) := by
  have e1 := may34 k e c u v s1 s2 s3 t s5 d1 d2 d3 d4 tl hl
  have q1 := t30 (IntKind.wrap .u64 e) 8 (by omega)
  have q2 := t30 (IntKind.wrap .u64 c) 8 (by omega)
  have q3 := t30 (IntKind.wrap .u64 u) 8 (by omega)
  have q4 := t30 (IntKind.wrap .u64 v) 8 (by omega)
  have hdl := hdB_len k e c u v
  rw [op_8p_eq]
  refine fn_8p_t_im _ _ _ _ _ _ _ _ _ _ _ _ _ _ _ ht _ ?_
  unfold fn_8p_t
  dsimp only
  erw [e1]
  cases hm : mayB k e c u v tl with
  | false => rfl
  | true =>
    refine sel_t rfl (sel_f rfl ?_)
    erw [q1]
    refine sel_t rfl (sel_t (decide_eq_true (show (1 + (bes (IntKind.wrap .u64 e) 8).length) * 1 ≤ 140737488355328 by rw [be_len]; omega)) ?_)
    erw [q2]
    refine sel_t rfl (sel_t (decide_eq_true (show (([k] ++ bes (IntKind.wrap .u64 e) 8).length + (bes (IntKind.wrap .u64 c) 8).length) * 1 ≤ 140737488355328 by simp only [List.length_append, be_len, List.length_singleton]; omega)) ?_)
    erw [q3]
    refine sel_t rfl (sel_t (decide_eq_true (show (([k] ++ bes (IntKind.wrap .u64 e) 8 ++ bes (IntKind.wrap .u64 c) 8).length + (bes (IntKind.wrap .u64 u) 8).length) * 1 ≤ 140737488355328 by simp only [List.length_append, be_len, List.length_singleton]; omega)) ?_)
    erw [q4]
    refine sel_t rfl (sel_t (decide_eq_true (show (([k] ++ bes (IntKind.wrap .u64 e) 8 ++ bes (IntKind.wrap .u64 c) 8 ++ bes (IntKind.wrap .u64 u) 8).length + (bes (IntKind.wrap .u64 v) 8).length) * 1 ≤ 140737488355328 by simp only [List.length_append, be_len, List.length_singleton]; omega)) ?_)
    by_cases k1 : k = 1
    · subst k1
      have e4 := m18 s1 s2 s3 t s5 ht hwt
      have hcl : (chk (3 :: stL s1 s2 s3 t s5)).length = 97 := by rw [chk_len, List.length_cons, stL_len _ _ _ _ _ ht]
      refine sel_t rfl ?_
      erw [e4]
      exact sel_t rfl (sel_t (decide_eq_true (show ((hdB 1 e c u v).length + (chk (3 :: stL s1 s2 s3 t s5)).length) * 1 ≤ 140737488355328 by omega)) rfl)
    · refine sel_f (beq_eq_false_iff_ne.2 k1) ?_
      by_cases k2 : k = 2
      · subst k2
        have f1 := t30 d1 8 (by omega)
        have f2 := t30 d2 8 (by omega)
        have f3 := t30 d3 8 (by omega)
        have f4 := t30 (IntKind.wrap .u64 d4) 4 (by omega)
        have e6 : op_L8p_18 [.k 0, .n 0, .n 2, .n e, .n c, .n u, .n v, .n s1, .n s2, .n s3, .l TB t, .n s5, .n d1, .n d2, .n d3, .n d4, .l TTm tl, .l TB (hdB 2 e c u v ++ bes d1 8 ++ bes d2 8 ++ bes d3 8 ++ bes (IntKind.wrap .u64 d4) 4 ++ [IntKind.wrap .u8 (tl.length : Int)])] = some (0, [.l TB (hdB 2 e c u v ++ dlL d1 d2 d3 d4 tl)]) := by
          rw [op_L8p_18_eq]
          refine (lp8 2 e c u v s1 s2 s3 t s5 d1 d2 d3 d4 tl ht hl tl.length 0 _ FU (by omega) (by simp only [List.length_append, be_len, List.length_singleton]; omega) (by unfold FU; omega)).trans ?_
          have hb : hdB 2 e c u v ++ bes d1 8 ++ bes d2 8 ++ bes d3 8 ++ bes (IntKind.wrap .u64 d4) 4 ++ [IntKind.wrap .u8 (tl.length : Int)] ++ tms (tl.drop 0) = hdB 2 e c u v ++ dlL d1 d2 d3 d4 tl := by
            unfold dlL
            simp only [List.append_assoc]
            rfl
          exact congrArg (fun z : List Int => some (0, [Dat.l TB z])) hb
        refine sel_t rfl ?_
        erw [f1]
        refine sel_t rfl (sel_t (decide_eq_true (show ((hdB 2 e c u v).length + (bes d1 8).length) * 1 ≤ 140737488355328 by rw [be_len]; omega)) ?_)
        erw [f2]
        refine sel_t rfl (sel_t (decide_eq_true (show ((hdB 2 e c u v ++ bes d1 8).length + (bes d2 8).length) * 1 ≤ 140737488355328 by simp only [List.length_append, be_len]; omega)) ?_)
        erw [f3]
        refine sel_t rfl (sel_t (decide_eq_true (show ((hdB 2 e c u v ++ bes d1 8 ++ bes d2 8).length + (bes d3 8).length) * 1 ≤ 140737488355328 by simp only [List.length_append, be_len]; omega)) ?_)
        erw [f4]
        refine sel_t rfl (sel_t (decide_eq_true (show ((hdB 2 e c u v ++ bes d1 8 ++ bes d2 8 ++ bes d3 8).length + (bes (IntKind.wrap .u64 d4) 4).length) * 1 ≤ 140737488355328 by simp only [List.length_append, be_len]; omega)) (sel_t (decide_eq_true (show ((hdB 2 e c u v ++ bes d1 8 ++ bes d2 8 ++ bes d3 8 ++ bes (IntKind.wrap .u64 d4) 4).length + 1) * 1 ≤ 140737488355328 by simp only [List.length_append, be_len]; omega)) ?_))
        erw [e6]
        rfl
      · have hq : encM k e c u v s1 s2 s3 t s5 d1 d2 d3 d4 tl = hdB k e c u v := by
          unfold encM bdM
          rw [beq_eq_false_iff_ne.2 k1, beq_eq_false_iff_ne.2 k2]
          exact List.append_nil _
        refine sel_f (beq_eq_false_iff_ne.2 k2) ?_
        exact congrArg (fun z : List Int => some (0, [Dat.l TB z])) hq.symm
/-! ### a delta that is read -/
def mkT (a b : Int) : Tm := (a, b)
def apT (l : LT) (a b : Int) : LT := List.append l [mkT a b]
theorem apT_len (l : LT) (x y : Int) : (apT l x y).length = l.length + 1 := by unfold apT; exact List.length_append
def rt : Nat → Option (List Int) → LT
  | 0, _ => []
  | k + 1, o => mkT (IntKind.wrap .i64 (vl 1 o)) (vl 1 (rd 1 o)) :: rt k (rd 1 (rd 1 o))
theorem rt_len : ∀ (k : Nat) (o : Option (List Int)), (rt k o).length = k
  | 0, _ => rfl
  | k + 1, o => by unfold rt; rw [List.length_cons, rt_len k]
theorem lp22 (n a b c d : Int) (hn : n < 256) : ∀ (k : Nat) (i : Int) (o : Option (List Int)) (acc : LT) (f : Nat), WO o → 0 ≤ i → i + k = n → acc.length + k ≤ 1000 → k < f →
    iterS st_L22d_7 f [.k 0, .n n, .n i, .l TB (lf o), .b (bd o), .n 0, .n 0, .n 0, .n 0, .n a, .n b, .n c, .n d, .l TTm acc] = some (0, [.l TB (lf (rn k o)), .b (bd (rn k o)), .n 0, .n 0, .n 0, .n 0, .n a, .n b, .n c, .n d, .l TTm (List.append acc (rt k o))])
  | _, _, _, _, 0, _, _, _, _, h => by omega
  | 0, i, o, acc, f + 1, hw, h0, hi, hl, hf => by
    have e : (st_L22d_7 [.k 0, .n n, .n i, .l TB (lf o), .b (bd o), .n 0, .n 0, .n 0, .n 0, .n a, .n b, .n c, .n d, .l TTm acc]).sel = some (.stop 0 [.l TB (lf o), .b (bd o), .n 0, .n 0, .n 0, .n 0, .n a, .n b, .n c, .n d, .l TTm acc]) := by
      refine fn_L22d_7_t_im _ _ _ _ _ _ _ _ _ _ ?_
      unfold fn_L22d_7_t
      exact sel_f (decide_eq_false (by omega)) rfl
    unfold iterS
    rw [e]
    have ha : List.append acc (rt 0 o) = acc := List.append_nil acc
    rw [ha]
    rfl
  | k + 1, i, o, acc, f + 1, hw, h0, hi, hl, hf => by
    have e1 := r77r hw
    have e2 := r77r (hw.rd 1)
    have w : IntKind.wrap .u8 (i + 1) = i + 1 := by rw [wu8]; omega
    have e : (st_L22d_7 [.k 0, .n n, .n i, .l TB (lf o), .b (bd o), .n 0, .n 0, .n 0, .n 0, .n a, .n b, .n c, .n d, .l TTm acc]).sel = some (.go [.k 0, .n n, .n (i + 1), .l TB (lf (rd 1 (rd 1 o))), .b (bd (rd 1 (rd 1 o))), .n 0, .n 0, .n 0, .n 0, .n a, .n b, .n c, .n d, .l TTm (apT acc (IntKind.wrap .i64 (vl 1 o)) (vl 1 (rd 1 o)))]) := by
      refine fn_L22d_7_t_im _ _ _ _ _ _ _ _ _ _ ?_
      unfold fn_L22d_7_t
      dsimp only
      refine sel_t (decide_eq_true (by omega)) ?_
      erw [e1]
      refine sel_t rfl ?_
      erw [e2]
      refine sel_t rfl (sel_t (decide_eq_true (show (acc.length + 1) * 16 ≤ 140737488355328 by omega)) ?_)
      rw [w]
      rfl
    unfold iterS
    rw [e]
    have ih := lp22 n a b c d hn k (i + 1) (rd 1 (rd 1 o)) (apT acc (IntKind.wrap .i64 (vl 1 o)) (vl 1 (rd 1 o))) f ((hw.rd 1).rd 1) (by omega) (by omega) (by rw [apT_len]; omega) (by omega)
    refine ih.trans ?_
    have ha : List.append (apT acc (IntKind.wrap .i64 (vl 1 o)) (vl 1 (rd 1 o))) (rt k (rd 1 (rd 1 o))) = List.append acc (rt (k + 1) o) := List.append_assoc acc [_] _
    rw [ha]
    rfl
def o22 (o : Option (List Int)) : Option (List Int) := rd 4 (rd 8 (rd 8 (rd 8 o)))
theorem t22 {o : Option (List Int)} (h : WO o) : op_22d [.l TB (lf o), .b (bd o)] = some (0, [.n (vl 8 o), .n (vl 8 (rd 8 o)), .n (vl 8 (rd 8 (rd 8 o))), .n (vl 4 (rd 8 (rd 8 (rd 8 o)))), .l TB (lf (rn (vl 1 (o22 o)).toNat (rd 1 (o22 o)))), .b (bd (rn (vl 1 (o22 o)).toNat (rd 1 (o22 o)))), .l TTm (rt (vl 1 (o22 o)).toNat (rd 1 (o22 o)))]) := by
  have e1 := r78r h
  have e2 := r78r (h.rd 8)
  have e3 := r78r ((h.rd 8).rd 8)
  have e4 := r79r (((h.rd 8).rd 8).rd 8)
  have h5 : WO (o22 o) := (((h.rd 8).rd 8).rd 8).rd 4
  have e5 := r77r h5
  have hv := vl_bd h5 1
  have h2 : (256 : Int) ^ 1 = 256 := rfl
  have e6 : op_L22d_7 [.k 0, .n (vl 1 (o22 o)), .n 0, .l TB (lf (rd 1 (o22 o))), .b (bd (rd 1 (o22 o))), .n 0, .n 0, .n 0, .n 0, .n (vl 8 o), .n (vl 8 (rd 8 o)), .n (vl 8 (rd 8 (rd 8 o))), .n (vl 4 (rd 8 (rd 8 (rd 8 o)))), .l TTm ([] : LT)] = some (0, [.l TB (lf (rn (vl 1 (o22 o)).toNat (rd 1 (o22 o)))), .b (bd (rn (vl 1 (o22 o)).toNat (rd 1 (o22 o)))), .n 0, .n 0, .n 0, .n 0, .n (vl 8 o), .n (vl 8 (rd 8 o)), .n (vl 8 (rd 8 (rd 8 o))), .n (vl 4 (rd 8 (rd 8 (rd 8 o)))), .l TTm (List.append ([] : LT) (rt (vl 1 (o22 o)).toNat (rd 1 (o22 o))))]) := by
    rw [op_L22d_7_eq]
    exact lp22 _ _ _ _ _ (by omega) (vl 1 (o22 o)).toNat 0 (rd 1 (o22 o)) [] FU (h5.rd 1) (by omega) (by omega) (by simp; omega) (by unfold FU; omega)
  rw [op_22d_eq]
  refine fn_22d_t_im _ _ _ ?_
  unfold fn_22d_t
  dsimp only
  erw [e1]
  refine sel_t rfl ?_
  erw [e2]
  refine sel_t rfl ?_
  erw [e3]
  refine sel_t rfl ?_
  erw [e4]
  refine sel_t rfl ?_
  erw [e5]
  refine sel_t rfl ?_
  erw [e6]
  rfl
theorem t26 {b : List Int} (hb : Wb b) (hl : b.length ≤ 1000000) (i w : Nat) (hi : i ≤ 100000) (hw : w ≤ 8) : op_26n [.l TB b, .n (i : Int), .n (w : Int)] = some (0, [.n (atv b i w)]) := by
  have hs : IntKind.wrap .i64 ((i : Int) + (w : Int)) = ((i + w : Nat) : Int) := by rw [w64d]; omega
  rw [op_26n_eq]
  refine fn_26n_t_im _ _ _ _ ?_
  unfold fn_26n_t
  dsimp only
  by_cases h : i + w ≤ b.length
  · have hd : List.drop ((i : Int)).toNat (List.take (((i + w : Nat) : Int)).toNat b) = (b.drop i).take w := by
      rw [show ((i : Int)).toNat = i by omega, show (((i + w : Nat) : Int)).toNat = i + w by omega, List.drop_take, show i + w - i = w by omega]
    have hat : atv b i w = nm ((b.drop i).take w) := by
      unfold atv vl
      rw [rd_pos (by omega), tk_pos (by rw [List.length_drop]; omega)]
    have e1 := t17r (l := (b.drop i).take w) (by rw [List.length_take]; omega) ((hb.drop i).take w)
    have q1 : ¬ (((i + w : Nat) : Int) > (b.length : Int)) := by omega
    have q2 : (0 : Int) ≤ ((i + w : Nat) : Int) := by omega
    have q3 : ((i + w : Nat) : Int) ≤ (b.length : Int) := by omega
    have q4 : (0 : Int) ≤ (i : Int) := by omega
    have q5 : (i : Int) ≤ ((i + w : Nat) : Int) := by omega
    erw [hs]
    refine sel_f (decide_eq_false q1) (sel_t (by rw [Bool.and_eq_true]; exact ⟨decide_eq_true q2, decide_eq_true q3⟩) (sel_t (by rw [Bool.and_eq_true]; exact ⟨decide_eq_true q4, decide_eq_true q5⟩) ?_))
    erw [hd, e1, hat]
    rfl
  · have hat : atv b i w = 0 := by
      unfold atv vl
      by_cases q : i ≤ b.length
      · rw [rd_pos q, tk_neg (by rw [List.length_drop]; omega)]; rfl
      · rw [rd_neg q]; rfl
    have q1 : (((i + w : Nat) : Int) > (b.length : Int)) := by omega
    erw [hs]
    rw [hat]
    exact sel_t (decide_eq_true q1) rfl
end Go.Proofs.Ytdaabhpeedekaaa.Vx
namespace Go.Proofs.Ytdaabhpeedekaaa.Vx
open Go Go.RowKit
set_option linter.unusedVariables false
set_option linter.unusedSimpArgs false
set_option maxRecDepth 100000
set_option maxHeartbeats 4000000
abbrev z64 : List Int := List.replicate 64 (0 : Int)
inductive ResM (b : List Int) : Prop
  | A (e c u v d1 d2 d3 d4 : Int) (tl : LT) (h5 : op_5g [.l TB b] = some (0, [.n 2, .n e, .n c, .n u, .n v, .n 0, .n 0, .n 0, .l TB z64, .n 0, .n d1, .n d2, .n d3, .n d4, .n 0, .l TTm tl]))
      (h6 : op_6g [.l TB b] = some (0, [.n 2, .n e, .n c, .n u, .n v, .n 0, .n 0, .n 0, .l TB z64, .n 0, .n d1, .n d2, .n d3, .n d4, .b true, .l TTm tl]))
      (hp : op_7p [.n 2, .n e, .n c, .n u, .n v, .n 0, .n 0, .n 0, .l TB z64, .n 0, .n d1, .n d2, .n d3, .n d4, .l TTm tl] = some (0, [.l TB b])) (hl : tl.length ≤ 300)
  | B (k e c u v s1 s2 s3 : Int) (t : List Int) (s5 : Int) (h5 : op_5g [.l TB b] = some (1, [.n k, .n e, .n c, .n u, .n v, .n s1, .n s2, .n s3, .l TB t, .n s5, .n 0, .n 0, .n 0, .n 0, .n 0]))
      (h6 : op_6g [.l TB b] = some (1, [.n k, .n e, .n c, .n u, .n v, .n s1, .n s2, .n s3, .l TB t, .n s5, .n 0, .n 0, .n 0, .n 0, .b true]))
      (hp : op_7p [.n k, .n e, .n c, .n u, .n v, .n s1, .n s2, .n s3, .l TB t, .n s5, .n 0, .n 0, .n 0, .n 0, .l TTm ([] : LT)] = some (0, [.l TB b]))
  | C (h5 : op_5g [.l TB b] = some (1, [.n 0, .n 0, .n 0, .n 0, .n 0, .n 0, .n 0, .n 0, .l TB (List.replicate 64 (0 : Int)), .n 0, .n 0, .n 0, .n 0, .n 0, .n 130])) (h6 : op_6g [.l TB b] = some (1, [.n 0, .n 0, .n 0, .n 0, .n 0, .n 0, .n 0, .n 0, .l TB (List.replicate 64 (0 : Int)), .n 0, .n 0, .n 0, .n 0, .n 0, .b false]))
def leanB (k e c u v : Int) : Bool := bif k == 2 then true else bif k == 4 then (e == 0 && (c == 0 && (u == 0 && v == 0))) else (u == 0 && v == 0)
theorem lean25 (k e c u v s1 s2 s3 : Int) (t : List Int) (s5 d1 d2 d3 d4 : Int) (tl : LT) : op_25y [.n k, .n e, .n c, .n u, .n v, .n s1, .n s2, .n s3, .l TB t, .n s5, .n d1, .n d2, .n d3, .n d4, .l TTm tl] = some (0, [.b (leanB k e c u v)]) := by
  rw [op_25y_eq]
  refine fn_25y_t_im _ _ _ _ _ _ _ _ _ _ _ _ _ _ _ _ ?_
  unfold fn_25y_t leanB
  dsimp only
  cases k == 2 with
  | true => rfl
  | false =>
    cases k == 4 with
    | true =>
      cases e == 0 with
      | false => rfl
      | true =>
        cases c == 0 with
        | false => rfl
        | true =>
          cases u == 0 with
          | false => rfl
          | true => rfl
    | false =>
      cases u == 0 with
      | false => rfl
      | true => rfl
theorem rdz (o : Option (List Int)) : rd 0 o = o := by
  cases o with
  | none => rfl
  | some l => rw [rd_pos (by omega)]; rfl
theorem rd_all (r : List Int) : rd r.length (some r) = some [] := by
  have := rd_app (k := r.length) (a := r) (r := []) rfl
  rw [List.append_nil] at this; exact this
theorem tk_all (r : List Int) : tk r.length (some r) = r := by
  have := tk_app (k := r.length) (a := r) (r := []) rfl
  rw [List.append_nil] at this; exact this
theorem seF {f b : List Int} (hf : Wb f) (hb : Wb b) (h : f ≠ b) : (!strEq (strOf f) (strOf b)) = true := by
  cases q : strEq (strOf f) (strOf b) with
  | false => rfl
  | true => exact (h (se_eq hf hb q)).elim
theorem hdB_wb {k e c u v : Int} (h : 0 ≤ k ∧ k < 256) : Wb (hdB k e c u v) := ((((Wb.nil.cons h).app (be_wb _ _)).app (be_wb _ _)).app (be_wb _ _)).app (be_wb _ _)
theorem dec {b : List Int} (hw : Wb b) (hl : b.length ≤ 100000) (h33 : 33 ≤ b.length) : ∃ (k E C U V : Int) (r r1 r2 r3 r4 : List Int), (0 ≤ k ∧ k < 256) ∧ Wb r ∧ r.length + 33 = b.length ∧ b.getD 0 0 = k ∧ b.drop 33 = r ∧ rd 33 (some b) = some r ∧
    hdB k (IntKind.wrap .i64 E) (IntKind.wrap .i64 C) (IntKind.wrap .i64 U) (IntKind.wrap .i64 V) ++ r = b ∧
    op_77r [.l TB b, .b false] = some (0, [.n k, .l TB r1, .b false]) ∧ op_78r [.l TB r1, .b false] = some (0, [.n E, .l TB r2, .b false]) ∧ op_78r [.l TB r2, .b false] = some (0, [.n C, .l TB r3, .b false]) ∧ op_78r [.l TB r3, .b false] = some (0, [.n U, .l TB r4, .b false]) ∧ op_78r [.l TB r4, .b false] = some (0, [.n V, .l TB r, .b false]) ∧
    op_26n [.l TB b, .n 1, .n 8] = some (0, [.n E]) ∧ op_26n [.l TB b, .n 9, .n 8] = some (0, [.n C]) ∧ op_26n [.l TB b, .n 17, .n 8] = some (0, [.n U]) ∧ op_26n [.l TB b, .n 25, .n 8] = some (0, [.n V]) := by
  obtain ⟨k, q1, h1, lk, uk, w1, n1⟩ := cut1 (l := b) hw (by omega)
  obtain ⟨E, q2, h2, lE, uE, w2, n2⟩ := cut8 (l := q1) w1 (by omega)
  obtain ⟨C, q3, h3, lC, uC, w3, n3⟩ := cut8 (l := q2) w2 (by omega)
  obtain ⟨U, q4, h4, lU, uU, w4, n4⟩ := cut8 (l := q3) w3 (by omega)
  obtain ⟨V, r, h5, lV, uV, w5, n5⟩ := cut8 (l := q4) w4 (by omega)
  have s1 : rd 1 (some b) = some q1 := by rw [h1]; exact rd_be _ _ _
  have s9 : rd 9 (some b) = some q2 := rdadd s1 (j := 8) (by rw [h2]; exact rd_be _ _ _) rfl
  have s17 : rd 17 (some b) = some q3 := rdadd s9 (j := 8) (by rw [h3]; exact rd_be _ _ _) rfl
  have s25 : rd 25 (some b) = some q4 := rdadd s17 (j := 8) (by rw [h4]; exact rd_be _ _ _) rfl
  have s33 : rd 33 (some b) = some r := rdadd s25 (j := 8) (by rw [h5]; exact rd_be _ _ _) rfl
  have v0 : vl 1 (some b) = k := by rw [h1, vl_be, nb1 lk uk]
  have v1 : vl 8 (some q1) = E := by rw [h2, vl_be, nb8 lE uE]
  have v2 : vl 8 (some q2) = C := by rw [h3, vl_be, nb8 lC uC]
  have v3 : vl 8 (some q3) = U := by rw [h4, vl_be, nb8 lU uU]
  have v4 : vl 8 (some q4) = V := by rw [h5, vl_be, nb8 lV uV]
  have e0 := r77r (o := some b) (WOs hw (by omega))
  have e1 := r78r (o := some q1) (WOs w1 (by omega))
  have e2 := r78r (o := some q2) (WOs w2 (by omega))
  have e3 := r78r (o := some q3) (WOs w3 (by omega))
  have e4 := r78r (o := some q4) (WOs w4 (by omega))
  have t1 : rd 8 (some q1) = some q2 := by rw [h2]; exact rd_be _ _ _
  have t2 : rd 8 (some q2) = some q3 := by rw [h3]; exact rd_be _ _ _
  have t3 : rd 8 (some q3) = some q4 := by rw [h4]; exact rd_be _ _ _
  have t4 : rd 8 (some q4) = some r := by rw [h5]; exact rd_be _ _ _
  rw [s1, v0] at e0
  rw [t1, v1] at e1
  rw [t2, v2] at e2
  rw [t3, v3] at e3
  rw [t4, v4] at e4
  have a1 := t26 hw (by omega) 1 8 (by omega) (by omega)
  have a2 := t26 hw (by omega) 9 8 (by omega) (by omega)
  have a3 := t26 hw (by omega) 17 8 (by omega) (by omega)
  have a4 := t26 hw (by omega) 25 8 (by omega) (by omega)
  unfold atv at a1 a2 a3 a4
  rw [s1, v1] at a1
  rw [s9, v2] at a2
  rw [s17, v3] at a3
  rw [s25, v4] at a4
  refine ⟨k, E, C, U, V, r, q1, q2, q3, q4, ⟨lk, uk⟩, w5, by omega, ?_, ?_, s33, ?_, e0, e1, e2, e3, e4, a1, a2, a3, a4⟩
  · rw [getD_vl (by omega), rdz, v0]
  · have := s33
    rw [rd_pos (by omega)] at this
    exact Option.some.inj this
  · unfold hdB
    rw [wi lE uE, wi lC uC, wi lU uU, wi lV uV, ← be1 lk uk]
    simp only [List.append_assoc]
    rw [← h5, ← h4, ← h3, ← h2, ← h1]
theorem riseNil : riseB ([] : LT) = true := rfl
theorem encM1 (e c u v s1 s2 s3 : Int) (t : List Int) (s5 : Int) : encM 1 e c u v s1 s2 s3 t s5 0 0 0 0 [] = hdB 1 e c u v ++ chk (3 :: stL s1 s2 s3 t s5) := rfl
theorem encMo {k : Int} (h1 : k ≠ 1) (h2 : k ≠ 2) (e c u v s1 s2 s3 : Int) (t : List Int) (s5 d1 d2 d3 d4 : Int) (tl : LT) : encM k e c u v s1 s2 s3 t s5 d1 d2 d3 d4 tl = hdB k e c u v := by
  unfold encM bdM
  rw [beq_eq_false_iff_ne.2 h1, beq_eq_false_iff_ne.2 h2]
  exact List.append_nil _
theorem WTnil : WT ([] : LT) := fun i hi => absurd hi (by simp)
theorem z64w : Wb z64 := fun x hx => by have := List.eq_of_mem_replicate hx; omega
theorem ne0 {x : Int} (h : x ≠ 0) : (x != 0) = true := by simp [h]
theorem eq0 {x : Int} (h : x = 0) : (x != 0) = false := by simp [h]
/-- Kind 1. -/
theorem resK1 {b : List Int} (hw : Wb b) (hl : b.length ≤ 100000) (h33 : 33 ≤ b.length) (hk1 : b.getD 0 0 = 1) : ResM b := by
  obtain ⟨k, E, C, U, V, r, r1, r2, r3, r4, hk, hwr, hrl, hk0, hd, s33, hx, p0, p1, p2, p3, p4, a1, a2, a3, a4⟩ := dec hw hl h33
  have hkk : k = 1 := by rw [← hk0]; exact hk1
  subst hkk
  obtain ⟨e, he⟩ : ∃ e, e = IntKind.wrap .i64 E := ⟨_, rfl⟩
  obtain ⟨c, hc⟩ : ∃ c, c = IntKind.wrap .i64 C := ⟨_, rfl⟩
  obtain ⟨u, hu⟩ : ∃ u, u = IntKind.wrap .i64 U := ⟨_, rfl⟩
  obtain ⟨v, hv⟩ : ∃ v, v = IntKind.wrap .i64 V := ⟨_, rfl⟩
  rw [← he, ← hc, ← hu, ← hv] at hx
  have o0 := t13r (l := b) (by omega)
  have p5 := r82r (o := some r) (WOs hwr (by omega)) r.length (by omega)
  rw [rd_all, tk_all] at p5
  by_cases hs : ∃ s1 s2 s3 t s5, OKS s1 s2 s3 t s5 ∧ r = chk (3 :: stL s1 s2 s3 t s5)
  · obtain ⟨s1, s2, s3, t, s5, hS, hr⟩ := hs
    have g5 := G28 hS
    have g6 := G29 hS
    rw [← hr] at g5 g6
    rw [← hd] at g6
    obtain ⟨-, -, -, ht, -⟩ := hS
    have m5 := may24 1 e c u v s1 s2 s3 t s5 0 0 0 0 [] (by simp)
    have l5 := lean25 1 e c u v s1 s2 s3 t s5 0 0 0 0 []
    have m8 : ∀ f : List Int, f = (bif mayB 1 e c u v [] then b else []) → op_8p [.n 1, .n e, .n c, .n u, .n v, .n s1, .n s2, .n s3, .l TB t, .n s5, .n 0, .n 0, .n 0, .n 0, .l TTm ([] : LT)] = some (0, [.l TB f]) := by
      intro f hf
      rw [hf, ← hx, hr, ← encM1]
      exact p8 1 e c u v s1 s2 s3 t s5 0 0 0 0 [] (by omega) (by omega) ht.2 ht.1 (by simp)
    have m7 := p7 1 e c u v s1 s2 s3 t s5 0 0 0 0 [] (by omega) (by omega) ht.2 (by simp) WTnil
    rw [encM1, ← hr, hx] at m7
    rw [he, hc, hu, hv] at m5 l5
    have five : ∀ (y : Nat × List Dat), (Tree.node (!mayB 1 e c u v []) (.leaf (1, [.n 0, .n 0, .n 0, .n 0, .n 0, .n 0, .n 0, .n 0, .l TB (List.replicate 64 (0 : Int)), .n 0, .n 0, .n 0, .n 0, .n 0, .n (130 : Int)])) (.node (!leanB 1 e c u v) (.leaf (1, [.n 0, .n 0, .n 0, .n 0, .n 0, .n 0, .n 0, .n 0, .l TB (List.replicate 64 (0 : Int)), .n 0, .n 0, .n 0, .n 0, .n 0, .n (130 : Int)])) (.leaf (1, [.n 1, .n e, .n c, .n u, .n v, .n s1, .n s2, .n s3, .l TB t, .n s5, .n (0 : Int), .n (0 : Int), .n (0 : Int), .n (0 : Int), .n (0 : Int)])))).sel = some y → op_5g [.l TB b] = some y := by
      intro y hy
      rw [op_5g_eq]
      refine fn_5g_t_im _ _ ?_
      unfold fn_5g_t
      dsimp only
      erw [o0]
      refine sel_t rfl ?_
      erw [p0]
      refine sel_t rfl ?_
      erw [p1]
      refine sel_t rfl ?_
      erw [p2]
      refine sel_t rfl ?_
      erw [p3]
      refine sel_t rfl ?_
      erw [p4]
      refine sel_t rfl (sel_t rfl ?_)
      erw [p5]
      refine sel_t rfl ?_
      erw [g5]
      refine sel_t rfl (sel_f rfl (sel_f rfl (sel_f (decide_eq_false (show ¬ ((([] : List Int).length : Int) > 0) by simp)) ?_)))
      erw [m5]
      refine sel_t rfl ?_
      rw [he, hc, hu, hv] at hy
      cases hm : mayB 1 (IntKind.wrap .i64 E) (IntKind.wrap .i64 C) (IntKind.wrap .i64 U) (IntKind.wrap .i64 V) [] with
      | false => rw [hm] at hy; exact hy
      | true =>
        rw [hm] at hy
        refine sel_f rfl ?_
        erw [l5]
        refine sel_t rfl ?_
        exact hy
    have six6 : ∀ (f : List Int), f = (bif mayB 1 e c u v [] then b else []) → ∀ (y : Nat × List Dat), (Tree.node (u != 0) (.leaf (1, [.n 0, .n 0, .n 0, .n 0, .n 0, .n 0, .n 0, .n 0, .l TB (List.replicate 64 (0 : Int)), .n 0, .n 0, .n 0, .n 0, .n 0, .b false])) (.node (v != 0) (.leaf (1, [.n 0, .n 0, .n 0, .n 0, .n 0, .n 0, .n 0, .n 0, .l TB (List.replicate 64 (0 : Int)), .n 0, .n 0, .n 0, .n 0, .n 0, .b false])) (.node (!strEq (strOf f) (strOf b)) (.leaf (1, [.n 0, .n 0, .n 0, .n 0, .n 0, .n 0, .n 0, .n 0, .l TB (List.replicate 64 (0 : Int)), .n 0, .n 0, .n 0, .n 0, .n 0, .b false])) (.leaf (1, [.n 1, .n e, .n c, .n u, .n v, .n s1, .n s2, .n s3, .l TB t, .n s5, .n (0 : Int), .n (0 : Int), .n (0 : Int), .n (0 : Int), .b true]))))).sel = some y → op_6g [.l TB b] = some y := by
      intro f hf y hy
      have m8 := m8 f hf
      clear hf
      rw [he, hc, hu, hv] at m8 hy
      rw [op_6g_eq]
      refine fn_6g_t_im _ _ ?_
      unfold fn_6g_t
      dsimp only
      refine sel_f (decide_eq_false (show ¬ ((b.length : Int) < 33) by omega)) ?_
      erw [a1]
      refine sel_t rfl ?_
      erw [a2]
      refine sel_t rfl ?_
      erw [a3]
      refine sel_t rfl ?_
      erw [a4]
      refine sel_t rfl ?_
      erw [hk1]
      refine sel_t rfl (sel_t (by rw [Bool.true_and]; exact decide_eq_true (show (33 : Int) ≤ (b.length : Int) by omega)) ?_)
      erw [g6]
      refine sel_t rfl (sel_f rfl ?_)
      by_cases hu0 : IntKind.wrap .i64 U = 0
      · refine sel_f (eq0 hu0) ?_
        by_cases hv0 : IntKind.wrap .i64 V = 0
        · refine sel_f (eq0 hv0) ?_
          erw [m8]
          refine sel_t rfl ?_
          rw [eq0 hu0, eq0 hv0] at hy
          exact hy
        · refine sel_t (ne0 hv0) ?_
          rw [eq0 hu0, ne0 hv0] at hy
          exact hy
      · refine sel_t (ne0 hu0) ?_
        rw [ne0 hu0] at hy
        exact hy
    cases hm : mayB 1 e c u v [] with
    | true =>
      rw [hm] at five m7
      by_cases hu0 : u = 0
      · by_cases hv0 : v = 0
        · refine .B 1 e c u v s1 s2 s3 t s5 (five _ ?_) (six6 b (by rw [hm]; rfl) _ ?_) m7
          · rw [hu0, hv0]; rfl
          · rw [hu0, hv0]; exact sel_f rfl (sel_f rfl (sel_f (seNo _) rfl))
        · refine .C (five _ ?_) (six6 b (by rw [hm]; rfl) _ ?_)
          · have hlb : leanB 1 e c u v = false := by
              show (u == 0 && v == 0) = false
              rw [beq_eq_false_iff_ne.2 hv0, Bool.and_false]
            rw [hlb]; rfl
          · rw [hu0]; exact sel_f rfl (sel_t (ne0 hv0) rfl)
      · refine .C (five _ ?_) (six6 b (by rw [hm]; rfl) _ ?_)
        · have hlb : leanB 1 e c u v = false := by
            show (u == 0 && v == 0) = false
            rw [beq_eq_false_iff_ne.2 hu0]; rfl
          rw [hlb]; rfl
        · exact sel_t (ne0 hu0) rfl
    | false =>
      rw [hm] at five
      refine .C (five _ rfl) (six6 [] (by rw [hm]; rfl) _ ?_)
      have hne : (!strEq (strOf ([] : List Int)) (strOf b)) = true := seF Wb.nil hw (fun q => by rw [← q] at h33; simp at h33)
      rw [hne]
      by_cases hu0 : u = 0
      · by_cases hv0 : v = 0
        · exact sel_f (eq0 hu0) (sel_f (eq0 hv0) rfl)
        · exact sel_f (eq0 hu0) (sel_t (ne0 hv0) rfl)
      · exact sel_t (ne0 hu0) rfl
  · have g5 := F28 hwr (by omega) (fun a b c t u h q => hs ⟨a, b, c, t, u, h, q⟩)
    have g6 := F29 hwr (by omega) (fun a b c t u h q => hs ⟨a, b, c, t, u, h, q⟩)
    rw [← hd] at g6
    refine .C ?_ ?_
    · rw [op_5g_eq]
      refine fn_5g_t_im _ _ ?_
      unfold fn_5g_t
      dsimp only
      erw [o0]
      refine sel_t rfl ?_
      erw [p0]
      refine sel_t rfl ?_
      erw [p1]
      refine sel_t rfl ?_
      erw [p2]
      refine sel_t rfl ?_
      erw [p3]
      refine sel_t rfl ?_
      erw [p4]
      refine sel_t rfl (sel_t rfl ?_)
      erw [p5]
      refine sel_t rfl ?_
      erw [g5]
      exact sel_t rfl (sel_t rfl rfl)
    · rw [op_6g_eq]
      refine fn_6g_t_im _ _ ?_
      unfold fn_6g_t
      dsimp only
      refine sel_f (decide_eq_false (show ¬ ((b.length : Int) < 33) by omega)) ?_
      erw [a1]
      refine sel_t rfl ?_
      erw [a2]
      refine sel_t rfl ?_
      erw [a3]
      refine sel_t rfl ?_
      erw [a4]
      refine sel_t rfl ?_
      erw [hk1]
      refine sel_t rfl (sel_t (by rw [Bool.true_and]; exact decide_eq_true (show (33 : Int) ≤ (b.length : Int) by omega)) ?_)
      erw [g6]
      exact sel_t rfl (sel_t rfl rfl)
end Go.Proofs.Ytdaabhpeedekaaa.Vx
namespace Go.Proofs.Ytdaabhpeedekaaa.Vx
open Go Go.RowKit
set_option linter.unusedVariables false
set_option linter.unusedSimpArgs false
set_option maxRecDepth 100000
set_option maxHeartbeats 4000000
theorem resK3 {b : List Int} (hw : Wb b) (hl : b.length ≤ 100000) (h33 : 33 ≤ b.length) (hk1 : b.getD 0 0 ≠ 1) (hk2 : b.getD 0 0 ≠ 2) (hk3 : b.getD 0 0 = 3) : ResM b := by
  obtain ⟨k, E, C, U, V, r, r1, r2, r3, r4, hk, hwr, hrl, hk0, hd, s33, hx, p0, p1, p2, p3, p4, a1, a2, a3, a4⟩ := dec hw hl h33
  have n1 : k ≠ 1 := by rw [← hk0]; exact hk1
  have n2 : k ≠ 2 := by rw [← hk0]; exact hk2
  have hkk : k = 3 := by rw [← hk0]; exact hk3
  obtain ⟨e, he⟩ : ∃ e, e = IntKind.wrap .i64 E := ⟨_, rfl⟩
  obtain ⟨c, hc⟩ : ∃ c, c = IntKind.wrap .i64 C := ⟨_, rfl⟩
  obtain ⟨u, hu⟩ : ∃ u, u = IntKind.wrap .i64 U := ⟨_, rfl⟩
  obtain ⟨v, hv⟩ : ∃ v, v = IntKind.wrap .i64 V := ⟨_, rfl⟩
  rw [← he, ← hc, ← hu, ← hv] at hx
  have o0 := t13r (l := b) (by omega)
  have m5 := may24 k e c u v 0 0 0 z64 0 0 0 0 0 [] (by simp)
  have l5 := lean25 k e c u v 0 0 0 z64 0 0 0 0 0 []
  have m8 : ∀ f : List Int, f = (bif mayB k e c u v [] then hdB k e c u v else []) → op_8p [.n k, .n e, .n c, .n u, .n v, .n 0, .n 0, .n 0, .l TB z64, .n 0, .n 0, .n 0, .n 0, .n 0, .l TTm ([] : LT)] = some (0, [.l TB f]) := by
    intro f hf
    rw [hf, ← encMo n1 n2 e c u v 0 0 0 z64 0 0 0 0 0 []]
    exact p8 k e c u v 0 0 0 z64 0 0 0 0 0 [] hk.1 hk.2 (List.length_replicate (n := 64) (a := (0 : Int))) z64w (by simp)
  have m7 : ∀ f : List Int, f = (bif mayB k e c u v [] then hdB k e c u v else []) → op_7p [.n k, .n e, .n c, .n u, .n v, .n 0, .n 0, .n 0, .l TB z64, .n 0, .n 0, .n 0, .n 0, .n 0, .l TTm ([] : LT)] = some (0, [.l TB f]) := by
    intro f hf
    rw [hf, ← encMo n1 n2 e c u v 0 0 0 z64 0 0 0 0 0 []]
    exact p7 k e c u v 0 0 0 z64 0 0 0 0 0 [] hk.1 hk.2 (List.length_replicate (n := 64) (a := (0 : Int))) (by simp) WTnil
  have five : r = [] → ∀ (y : Nat × List Dat), (Tree.node (!mayB k e c u v []) (.leaf (1, [.n 0, .n 0, .n 0, .n 0, .n 0, .n 0, .n 0, .n 0, .l TB (List.replicate 64 (0 : Int)), .n 0, .n 0, .n 0, .n 0, .n 0, .n (130 : Int)])) (.node (!leanB k e c u v) (.leaf (1, [.n 0, .n 0, .n 0, .n 0, .n 0, .n 0, .n 0, .n 0, .l TB (List.replicate 64 (0 : Int)), .n 0, .n 0, .n 0, .n 0, .n 0, .n (130 : Int)])) (.leaf (1, [.n k, .n e, .n c, .n u, .n v, .n 0, .n 0, .n 0, .l TB (List.replicate 64 (0 : Int)), .n 0, .n 0, .n 0, .n 0, .n 0, .n (0 : Int)])))).sel = some y → op_5g [.l TB b] = some y := by
      intro hr y hy
      subst hr
      rw [he, hc, hu, hv] at m5 l5 hy
      rw [op_5g_eq]
      refine fn_5g_t_im _ _ ?_
      unfold fn_5g_t
      dsimp only
      erw [o0]
      refine sel_t rfl ?_
      erw [p0]
      refine sel_t rfl ?_
      erw [p1]
      refine sel_t rfl ?_
      erw [p2]
      refine sel_t rfl ?_
      erw [p3]
      refine sel_t rfl ?_
      erw [p4]
      refine sel_t rfl (sel_f (beq_eq_false_iff_ne.2 n1) (sel_f (beq_eq_false_iff_ne.2 n2) (sel_f rfl (sel_f (decide_eq_false (show ¬ ((([] : List Int).length : Int) > 0) by simp)) ?_))))
      erw [m5]
      refine sel_t rfl ?_
      cases hm : mayB k (IntKind.wrap .i64 E) (IntKind.wrap .i64 C) (IntKind.wrap .i64 U) (IntKind.wrap .i64 V) [] with
      | false => rw [hm] at hy; exact hy
      | true =>
        rw [hm] at hy
        refine sel_f rfl ?_
        erw [l5]
        refine sel_t rfl ?_
        exact hy
  have fiveC : r ≠ [] → op_5g [.l TB b] = some (1, [.n 0, .n 0, .n 0, .n 0, .n 0, .n 0, .n 0, .n 0, .l TB (List.replicate 64 (0 : Int)), .n 0, .n 0, .n 0, .n 0, .n 0, .n 130]) := by
      intro hr
      have hpos : 0 < r.length := List.length_pos_iff.2 hr
      rw [op_5g_eq]
      refine fn_5g_t_im _ _ ?_
      unfold fn_5g_t
      dsimp only
      erw [o0]
      refine sel_t rfl ?_
      erw [p0]
      refine sel_t rfl ?_
      erw [p1]
      refine sel_t rfl ?_
      erw [p2]
      refine sel_t rfl ?_
      erw [p3]
      refine sel_t rfl ?_
      erw [p4]
      exact sel_t rfl (sel_f (beq_eq_false_iff_ne.2 n1) (sel_f (beq_eq_false_iff_ne.2 n2) (sel_f rfl (sel_t (decide_eq_true (show ((r.length : Int) > 0) by omega)) rfl))))
  have six6 : ∀ (f : List Int), f = (bif mayB k e c u v [] then hdB k e c u v else []) → ∀ (y : Nat × List Dat), (Tree.node (u != 0) (.leaf (1, [.n 0, .n 0, .n 0, .n 0, .n 0, .n 0, .n 0, .n 0, .l TB (List.replicate 64 (0 : Int)), .n 0, .n 0, .n 0, .n 0, .n 0, .b false])) (.node (v != 0) (.leaf (1, [.n 0, .n 0, .n 0, .n 0, .n 0, .n 0, .n 0, .n 0, .l TB (List.replicate 64 (0 : Int)), .n 0, .n 0, .n 0, .n 0, .n 0, .b false])) (.node (!strEq (strOf f) (strOf b)) (.leaf (1, [.n 0, .n 0, .n 0, .n 0, .n 0, .n 0, .n 0, .n 0, .l TB (List.replicate 64 (0 : Int)), .n 0, .n 0, .n 0, .n 0, .n 0, .b false])) (.leaf (1, [.n k, .n e, .n c, .n u, .n v, .n 0, .n 0, .n 0, .l TB (List.replicate 64 (0 : Int)), .n 0, .n 0, .n 0, .n 0, .n 0, .b true]))))).sel = some y → op_6g [.l TB b] = some y := by
      intro f hf y hy
      have m8 := m8 f hf
      clear hf
      rw [he, hc, hu, hv] at m8 hy
      rw [op_6g_eq]
      refine fn_6g_t_im _ _ ?_
      unfold fn_6g_t
      dsimp only
      refine sel_f (decide_eq_false (show ¬ ((b.length : Int) < 33) by omega)) ?_
      erw [a1]
      refine sel_t rfl ?_
      erw [a2]
      refine sel_t rfl ?_
      erw [a3]
      refine sel_t rfl ?_
      erw [a4]
      refine sel_t rfl ?_
      erw [hk0]
      refine sel_f (beq_eq_false_iff_ne.2 n1) (sel_f (beq_eq_false_iff_ne.2 n2) ?_)
      subst hkk
      refine sel_t rfl ?_
      by_cases hu0 : IntKind.wrap .i64 U = 0
      · refine sel_f (eq0 hu0) ?_
        by_cases hv0 : IntKind.wrap .i64 V = 0
        · refine sel_f (eq0 hv0) ?_
          erw [m8]
          refine sel_t rfl ?_
          rw [eq0 hu0, eq0 hv0] at hy
          exact hy
        · refine sel_t (ne0 hv0) ?_
          rw [eq0 hu0, ne0 hv0] at hy
          exact hy
      · refine sel_t (ne0 hu0) ?_
        rw [ne0 hu0] at hy
        exact hy
  have sixC : (u ≠ 0 ∨ v ≠ 0 ∨ ¬ (mayB k e c u v [] = true ∧ r = [])) → op_6g [.l TB b] = some (1, [.n 0, .n 0, .n 0, .n 0, .n 0, .n 0, .n 0, .n 0, .l TB (List.replicate 64 (0 : Int)), .n 0, .n 0, .n 0, .n 0, .n 0, .b false]) := by
      intro hh
      refine six6 _ rfl _ ?_
      have fin : ¬ (mayB k e c u v [] = true ∧ r = []) → (!strEq (strOf (bif mayB k e c u v [] then hdB k e c u v else [])) (strOf b)) = true := by
        intro hna
        refine seF (bif_wb (hdB_wb hk)) hw ?_
        cases hm : mayB k e c u v [] with
        | false => intro q; have q2 : [] = b := q; rw [← q2] at h33; simp at h33
        | true =>
          intro q
          have q2 : hdB k e c u v = b := q
          have hlen := congrArg List.length q2
          rw [hdB_len] at hlen
          exact hna ⟨hm, List.eq_nil_of_length_eq_zero (by omega)⟩
      by_cases hu0 : u = 0
      · by_cases hv0 : v = 0
        · rcases hh with q | q | q
          · exact (q hu0).elim
          · exact (q hv0).elim
          · exact sel_f (eq0 hu0) (sel_f (eq0 hv0) (sel_t (fin q) rfl))
        · exact sel_f (eq0 hu0) (sel_t (ne0 hv0) rfl)
      · exact sel_t (ne0 hu0) rfl
  by_cases hA : mayB k e c u v [] = true ∧ r = []
  · obtain ⟨hm, hr⟩ := hA
    have hb : hdB k e c u v = b := by rw [hr, List.append_nil] at hx; exact hx
    have five := five hr
    rw [hm] at five
    by_cases hu0 : u = 0
    · by_cases hv0 : v = 0
      · refine .B k e c u v 0 0 0 z64 0 (five _ ?_) (six6 b (by rw [hm, hb]; rfl) _ ?_) (m7 b (by rw [hm, hb]; rfl))
        · have hlb : leanB k e c u v = true := by rw [hkk, hu0, hv0]; rfl
          rw [hlb]; rfl
        · exact sel_f (eq0 hu0) (sel_f (eq0 hv0) (sel_f (seNo _) rfl))
      · refine .C (five _ ?_) (sixC (.inr (.inl hv0)))
        have hlb : leanB k e c u v = false := by
          rw [hkk]
          show (u == 0 && v == 0) = false
          simp [hv0]
        rw [hlb]; rfl
    · refine .C (five _ ?_) (sixC (.inl hu0))
      have hlb : leanB k e c u v = false := by
        rw [hkk]
        show (u == 0 && v == 0) = false
        simp [hu0]
      rw [hlb]; rfl
  · refine .C ?_ (sixC (.inr (.inr (hA))))
    by_cases hr : r = []
    · have hm : mayB k e c u v [] = false := by
        cases q : mayB k e c u v [] with
        | false => rfl
        | true => exact (hA ⟨q, hr⟩).elim
      refine five hr _ ?_
      rw [hm]; rfl
    · exact fiveC hr
theorem resK4 {b : List Int} (hw : Wb b) (hl : b.length ≤ 100000) (h33 : 33 ≤ b.length) (hk1 : b.getD 0 0 ≠ 1) (hk2 : b.getD 0 0 ≠ 2) (hk3 : b.getD 0 0 = 4) : ResM b := by
  obtain ⟨k, E, C, U, V, r, r1, r2, r3, r4, hk, hwr, hrl, hk0, hd, s33, hx, p0, p1, p2, p3, p4, a1, a2, a3, a4⟩ := dec hw hl h33
  have n1 : k ≠ 1 := by rw [← hk0]; exact hk1
  have n2 : k ≠ 2 := by rw [← hk0]; exact hk2
  have hkk : k = 4 := by rw [← hk0]; exact hk3
  obtain ⟨e, he⟩ : ∃ e, e = IntKind.wrap .i64 E := ⟨_, rfl⟩
  obtain ⟨c, hc⟩ : ∃ c, c = IntKind.wrap .i64 C := ⟨_, rfl⟩
  obtain ⟨u, hu⟩ : ∃ u, u = IntKind.wrap .i64 U := ⟨_, rfl⟩
  obtain ⟨v, hv⟩ : ∃ v, v = IntKind.wrap .i64 V := ⟨_, rfl⟩
  rw [← he, ← hc, ← hu, ← hv] at hx
  have o0 := t13r (l := b) (by omega)
  have m5 := may24 k e c u v 0 0 0 z64 0 0 0 0 0 [] (by simp)
  have l5 := lean25 k e c u v 0 0 0 z64 0 0 0 0 0 []
  have m8 : ∀ f : List Int, f = (bif mayB k e c u v [] then hdB k e c u v else []) → op_8p [.n k, .n e, .n c, .n u, .n v, .n 0, .n 0, .n 0, .l TB z64, .n 0, .n 0, .n 0, .n 0, .n 0, .l TTm ([] : LT)] = some (0, [.l TB f]) := by
    intro f hf
    rw [hf, ← encMo n1 n2 e c u v 0 0 0 z64 0 0 0 0 0 []]
    exact p8 k e c u v 0 0 0 z64 0 0 0 0 0 [] hk.1 hk.2 (List.length_replicate (n := 64) (a := (0 : Int))) z64w (by simp)
  have m7 : ∀ f : List Int, f = (bif mayB k e c u v [] then hdB k e c u v else []) → op_7p [.n k, .n e, .n c, .n u, .n v, .n 0, .n 0, .n 0, .l TB z64, .n 0, .n 0, .n 0, .n 0, .n 0, .l TTm ([] : LT)] = some (0, [.l TB f]) := by
    intro f hf
    rw [hf, ← encMo n1 n2 e c u v 0 0 0 z64 0 0 0 0 0 []]
    exact p7 k e c u v 0 0 0 z64 0 0 0 0 0 [] hk.1 hk.2 (List.length_replicate (n := 64) (a := (0 : Int))) (by simp) WTnil
  have five : r = [] → ∀ (y : Nat × List Dat), (Tree.node (!mayB k e c u v []) (.leaf (1, [.n 0, .n 0, .n 0, .n 0, .n 0, .n 0, .n 0, .n 0, .l TB (List.replicate 64 (0 : Int)), .n 0, .n 0, .n 0, .n 0, .n 0, .n (130 : Int)])) (.node (!leanB k e c u v) (.leaf (1, [.n 0, .n 0, .n 0, .n 0, .n 0, .n 0, .n 0, .n 0, .l TB (List.replicate 64 (0 : Int)), .n 0, .n 0, .n 0, .n 0, .n 0, .n (130 : Int)])) (.leaf (1, [.n k, .n e, .n c, .n u, .n v, .n 0, .n 0, .n 0, .l TB (List.replicate 64 (0 : Int)), .n 0, .n 0, .n 0, .n 0, .n 0, .n (0 : Int)])))).sel = some y → op_5g [.l TB b] = some y := by
      intro hr y hy
      subst hr
      rw [he, hc, hu, hv] at m5 l5 hy
      rw [op_5g_eq]
      refine fn_5g_t_im _ _ ?_
      unfold fn_5g_t
      dsimp only
      erw [o0]
      refine sel_t rfl ?_
      erw [p0]
      refine sel_t rfl ?_
      erw [p1]
      refine sel_t rfl ?_
      erw [p2]
      refine sel_t rfl ?_
      erw [p3]
      refine sel_t rfl ?_
      erw [p4]
      refine sel_t rfl (sel_f (beq_eq_false_iff_ne.2 n1) (sel_f (beq_eq_false_iff_ne.2 n2) (sel_f rfl (sel_f (decide_eq_false (show ¬ ((([] : List Int).length : Int) > 0) by simp)) ?_))))
      erw [m5]
      refine sel_t rfl ?_
      cases hm : mayB k (IntKind.wrap .i64 E) (IntKind.wrap .i64 C) (IntKind.wrap .i64 U) (IntKind.wrap .i64 V) [] with
      | false => rw [hm] at hy; exact hy
      | true =>
        rw [hm] at hy
        refine sel_f rfl ?_
        erw [l5]
        refine sel_t rfl ?_
        exact hy
  have fiveC : r ≠ [] → op_5g [.l TB b] = some (1, [.n 0, .n 0, .n 0, .n 0, .n 0, .n 0, .n 0, .n 0, .l TB (List.replicate 64 (0 : Int)), .n 0, .n 0, .n 0, .n 0, .n 0, .n 130]) := by
      intro hr
      have hpos : 0 < r.length := List.length_pos_iff.2 hr
      rw [op_5g_eq]
      refine fn_5g_t_im _ _ ?_
      unfold fn_5g_t
      dsimp only
      erw [o0]
      refine sel_t rfl ?_
      erw [p0]
      refine sel_t rfl ?_
      erw [p1]
      refine sel_t rfl ?_
      erw [p2]
      refine sel_t rfl ?_
      erw [p3]
      refine sel_t rfl ?_
      erw [p4]
      exact sel_t rfl (sel_f (beq_eq_false_iff_ne.2 n1) (sel_f (beq_eq_false_iff_ne.2 n2) (sel_f rfl (sel_t (decide_eq_true (show ((r.length : Int) > 0) by omega)) rfl))))
  have six6 : ∀ (f : List Int), f = (bif mayB k e c u v [] then hdB k e c u v else []) → ∀ (y : Nat × List Dat), (Tree.node (e != 0) (.leaf (1, [.n 0, .n 0, .n 0, .n 0, .n 0, .n 0, .n 0, .n 0, .l TB (List.replicate 64 (0 : Int)), .n 0, .n 0, .n 0, .n 0, .n 0, .b false])) (.node (c != 0) (.leaf (1, [.n 0, .n 0, .n 0, .n 0, .n 0, .n 0, .n 0, .n 0, .l TB (List.replicate 64 (0 : Int)), .n 0, .n 0, .n 0, .n 0, .n 0, .b false])) (.node (u != 0) (.leaf (1, [.n 0, .n 0, .n 0, .n 0, .n 0, .n 0, .n 0, .n 0, .l TB (List.replicate 64 (0 : Int)), .n 0, .n 0, .n 0, .n 0, .n 0, .b false])) (.node (v != 0) (.leaf (1, [.n 0, .n 0, .n 0, .n 0, .n 0, .n 0, .n 0, .n 0, .l TB (List.replicate 64 (0 : Int)), .n 0, .n 0, .n 0, .n 0, .n 0, .b false])) (.node (!strEq (strOf f) (strOf b)) (.leaf (1, [.n 0, .n 0, .n 0, .n 0, .n 0, .n 0, .n 0, .n 0, .l TB (List.replicate 64 (0 : Int)), .n 0, .n 0, .n 0, .n 0, .n 0, .b false])) (.leaf (1, [.n k, .n e, .n c, .n u, .n v, .n 0, .n 0, .n 0, .l TB (List.replicate 64 (0 : Int)), .n 0, .n 0, .n 0, .n 0, .n 0, .b true]))))))).sel = some y → op_6g [.l TB b] = some y := by
      intro f hf y hy
      have m8 := m8 f hf
      clear hf
      rw [he, hc, hu, hv] at m8 hy
      rw [op_6g_eq]
      refine fn_6g_t_im _ _ ?_
      unfold fn_6g_t
      dsimp only
      refine sel_f (decide_eq_false (show ¬ ((b.length : Int) < 33) by omega)) ?_
      erw [a1]
      refine sel_t rfl ?_
      erw [a2]
      refine sel_t rfl ?_
      erw [a3]
      refine sel_t rfl ?_
      erw [a4]
      refine sel_t rfl ?_
      erw [hk0]
      refine sel_f (beq_eq_false_iff_ne.2 n1) (sel_f (beq_eq_false_iff_ne.2 n2) ?_)
      subst hkk
      refine sel_f rfl ?_
      refine sel_t rfl ?_
      by_cases he0 : IntKind.wrap .i64 E = 0
      · refine sel_f (eq0 he0) ?_
        by_cases hc0 : IntKind.wrap .i64 C = 0
        · refine sel_f (eq0 hc0) ?_
          by_cases hu0 : IntKind.wrap .i64 U = 0
          · refine sel_f (eq0 hu0) ?_
            by_cases hv0 : IntKind.wrap .i64 V = 0
            · refine sel_f (eq0 hv0) ?_
              erw [m8]
              refine sel_t rfl ?_
              rw [eq0 he0, eq0 hc0, eq0 hu0, eq0 hv0] at hy
              exact hy
            · refine sel_t (ne0 hv0) ?_
              rw [eq0 he0, eq0 hc0, eq0 hu0, ne0 hv0] at hy
              exact hy
          · refine sel_t (ne0 hu0) ?_
            rw [eq0 he0, eq0 hc0, ne0 hu0] at hy
            exact hy
        · refine sel_t (ne0 hc0) ?_
          rw [eq0 he0, ne0 hc0] at hy
          exact hy
      · refine sel_t (ne0 he0) ?_
        rw [ne0 he0] at hy
        exact hy
  have sixC : (e ≠ 0 ∨ c ≠ 0 ∨ u ≠ 0 ∨ v ≠ 0 ∨ ¬ (mayB k e c u v [] = true ∧ r = [])) → op_6g [.l TB b] = some (1, [.n 0, .n 0, .n 0, .n 0, .n 0, .n 0, .n 0, .n 0, .l TB (List.replicate 64 (0 : Int)), .n 0, .n 0, .n 0, .n 0, .n 0, .b false]) := by
      intro hh
      refine six6 _ rfl _ ?_
      have fin : ¬ (mayB k e c u v [] = true ∧ r = []) → (!strEq (strOf (bif mayB k e c u v [] then hdB k e c u v else [])) (strOf b)) = true := by
        intro hna
        refine seF (bif_wb (hdB_wb hk)) hw ?_
        cases hm : mayB k e c u v [] with
        | false => intro q; have q2 : [] = b := q; rw [← q2] at h33; simp at h33
        | true =>
          intro q
          have q2 : hdB k e c u v = b := q
          have hlen := congrArg List.length q2
          rw [hdB_len] at hlen
          exact hna ⟨hm, List.eq_nil_of_length_eq_zero (by omega)⟩
      by_cases he0 : e = 0
      · by_cases hc0 : c = 0
        · by_cases hu0 : u = 0
          · by_cases hv0 : v = 0
            · rcases hh with q | q | q | q | q
              · exact (q he0).elim
              · exact (q hc0).elim
              · exact (q hu0).elim
              · exact (q hv0).elim
              · exact sel_f (eq0 he0) (sel_f (eq0 hc0) (sel_f (eq0 hu0) (sel_f (eq0 hv0) (sel_t (fin q) rfl))))
            · exact sel_f (eq0 he0) (sel_f (eq0 hc0) (sel_f (eq0 hu0) (sel_t (ne0 hv0) rfl)))
          · exact sel_f (eq0 he0) (sel_f (eq0 hc0) (sel_t (ne0 hu0) rfl))
        · exact sel_f (eq0 he0) (sel_t (ne0 hc0) rfl)
      · exact sel_t (ne0 he0) rfl
  by_cases hA : mayB k e c u v [] = true ∧ r = []
  · obtain ⟨hm, hr⟩ := hA
    have hb : hdB k e c u v = b := by rw [hr, List.append_nil] at hx; exact hx
    have five := five hr
    rw [hm] at five
    by_cases he0 : e = 0
    · by_cases hc0 : c = 0
      · by_cases hu0 : u = 0
        · by_cases hv0 : v = 0
          · refine .B k e c u v 0 0 0 z64 0 (five _ ?_) (six6 b (by rw [hm, hb]; rfl) _ ?_) (m7 b (by rw [hm, hb]; rfl))
            · have hlb : leanB k e c u v = true := by rw [hkk, he0, hc0, hu0, hv0]; rfl
              rw [hlb]; rfl
            · exact sel_f (eq0 he0) (sel_f (eq0 hc0) (sel_f (eq0 hu0) (sel_f (eq0 hv0) (sel_f (seNo _) rfl))))
          · refine .C (five _ ?_) (sixC (.inr (.inr (.inr (.inl hv0)))))
            have hlb : leanB k e c u v = false := by
              rw [hkk]
              show (e == 0 && (c == 0 && (u == 0 && v == 0))) = false
              simp [hv0]
            rw [hlb]; rfl
        · refine .C (five _ ?_) (sixC (.inr (.inr (.inl hu0))))
          have hlb : leanB k e c u v = false := by
            rw [hkk]
            show (e == 0 && (c == 0 && (u == 0 && v == 0))) = false
            simp [hu0]
          rw [hlb]; rfl
      · refine .C (five _ ?_) (sixC (.inr (.inl hc0)))
        have hlb : leanB k e c u v = false := by
          rw [hkk]
          show (e == 0 && (c == 0 && (u == 0 && v == 0))) = false
          simp [hc0]
        rw [hlb]; rfl
    · refine .C (five _ ?_) (sixC (.inl he0))
      have hlb : leanB k e c u v = false := by
        rw [hkk]
        show (e == 0 && (c == 0 && (u == 0 && v == 0))) = false
        simp [he0]
      rw [hlb]; rfl
  · refine .C ?_ (sixC (.inr (.inr (.inr (.inr (hA))))))
    by_cases hr : r = []
    · have hm : mayB k e c u v [] = false := by
        cases q : mayB k e c u v [] with
        | false => rfl
        | true => exact (hA ⟨q, hr⟩).elim
      refine five hr _ ?_
      rw [hm]; rfl
    · exact fiveC hr
theorem resKx {b : List Int} (hw : Wb b) (hl : b.length ≤ 100000) (h33 : 33 ≤ b.length) (hk1 : b.getD 0 0 ≠ 1) (hk2 : b.getD 0 0 ≠ 2) (hk3 : b.getD 0 0 ≠ 3 ∧ b.getD 0 0 ≠ 4) : ResM b := by
  obtain ⟨k, E, C, U, V, r, r1, r2, r3, r4, hk, hwr, hrl, hk0, hd, s33, hx, p0, p1, p2, p3, p4, a1, a2, a3, a4⟩ := dec hw hl h33
  have n1 : k ≠ 1 := by rw [← hk0]; exact hk1
  have n2 : k ≠ 2 := by rw [← hk0]; exact hk2
  have hkk : k ≠ 3 ∧ k ≠ 4 := by rw [← hk0]; exact hk3
  obtain ⟨e, he⟩ : ∃ e, e = IntKind.wrap .i64 E := ⟨_, rfl⟩
  obtain ⟨c, hc⟩ : ∃ c, c = IntKind.wrap .i64 C := ⟨_, rfl⟩
  obtain ⟨u, hu⟩ : ∃ u, u = IntKind.wrap .i64 U := ⟨_, rfl⟩
  obtain ⟨v, hv⟩ : ∃ v, v = IntKind.wrap .i64 V := ⟨_, rfl⟩
  rw [← he, ← hc, ← hu, ← hv] at hx
  have o0 := t13r (l := b) (by omega)
  have m5 := may24 k e c u v 0 0 0 z64 0 0 0 0 0 [] (by simp)
  have l5 := lean25 k e c u v 0 0 0 z64 0 0 0 0 0 []
  have m8 : ∀ f : List Int, f = (bif mayB k e c u v [] then hdB k e c u v else []) → op_8p [.n k, .n e, .n c, .n u, .n v, .n 0, .n 0, .n 0, .l TB z64, .n 0, .n 0, .n 0, .n 0, .n 0, .l TTm ([] : LT)] = some (0, [.l TB f]) := by
    intro f hf
    rw [hf, ← encMo n1 n2 e c u v 0 0 0 z64 0 0 0 0 0 []]
    exact p8 k e c u v 0 0 0 z64 0 0 0 0 0 [] hk.1 hk.2 (List.length_replicate (n := 64) (a := (0 : Int))) z64w (by simp)
  have m7 : ∀ f : List Int, f = (bif mayB k e c u v [] then hdB k e c u v else []) → op_7p [.n k, .n e, .n c, .n u, .n v, .n 0, .n 0, .n 0, .l TB z64, .n 0, .n 0, .n 0, .n 0, .n 0, .l TTm ([] : LT)] = some (0, [.l TB f]) := by
    intro f hf
    rw [hf, ← encMo n1 n2 e c u v 0 0 0 z64 0 0 0 0 0 []]
    exact p7 k e c u v 0 0 0 z64 0 0 0 0 0 [] hk.1 hk.2 (List.length_replicate (n := 64) (a := (0 : Int))) (by simp) WTnil
  have five : r = [] → ∀ (y : Nat × List Dat), (Tree.node (!mayB k e c u v []) (.leaf (1, [.n 0, .n 0, .n 0, .n 0, .n 0, .n 0, .n 0, .n 0, .l TB (List.replicate 64 (0 : Int)), .n 0, .n 0, .n 0, .n 0, .n 0, .n (130 : Int)])) (.node (!leanB k e c u v) (.leaf (1, [.n 0, .n 0, .n 0, .n 0, .n 0, .n 0, .n 0, .n 0, .l TB (List.replicate 64 (0 : Int)), .n 0, .n 0, .n 0, .n 0, .n 0, .n (130 : Int)])) (.leaf (1, [.n k, .n e, .n c, .n u, .n v, .n 0, .n 0, .n 0, .l TB (List.replicate 64 (0 : Int)), .n 0, .n 0, .n 0, .n 0, .n 0, .n (0 : Int)])))).sel = some y → op_5g [.l TB b] = some y := by
      intro hr y hy
      subst hr
      rw [he, hc, hu, hv] at m5 l5 hy
      rw [op_5g_eq]
      refine fn_5g_t_im _ _ ?_
      unfold fn_5g_t
      dsimp only
      erw [o0]
      refine sel_t rfl ?_
      erw [p0]
      refine sel_t rfl ?_
      erw [p1]
      refine sel_t rfl ?_
      erw [p2]
      refine sel_t rfl ?_
      erw [p3]
      refine sel_t rfl ?_
      erw [p4]
      refine sel_t rfl (sel_f (beq_eq_false_iff_ne.2 n1) (sel_f (beq_eq_false_iff_ne.2 n2) (sel_f rfl (sel_f (decide_eq_false (show ¬ ((([] : List Int).length : Int) > 0) by simp)) ?_))))
      erw [m5]
      refine sel_t rfl ?_
      cases hm : mayB k (IntKind.wrap .i64 E) (IntKind.wrap .i64 C) (IntKind.wrap .i64 U) (IntKind.wrap .i64 V) [] with
      | false => rw [hm] at hy; exact hy
      | true =>
        rw [hm] at hy
        refine sel_f rfl ?_
        erw [l5]
        refine sel_t rfl ?_
        exact hy
  have fiveC : r ≠ [] → op_5g [.l TB b] = some (1, [.n 0, .n 0, .n 0, .n 0, .n 0, .n 0, .n 0, .n 0, .l TB (List.replicate 64 (0 : Int)), .n 0, .n 0, .n 0, .n 0, .n 0, .n 130]) := by
      intro hr
      have hpos : 0 < r.length := List.length_pos_iff.2 hr
      rw [op_5g_eq]
      refine fn_5g_t_im _ _ ?_
      unfold fn_5g_t
      dsimp only
      erw [o0]
      refine sel_t rfl ?_
      erw [p0]
      refine sel_t rfl ?_
      erw [p1]
      refine sel_t rfl ?_
      erw [p2]
      refine sel_t rfl ?_
      erw [p3]
      refine sel_t rfl ?_
      erw [p4]
      exact sel_t rfl (sel_f (beq_eq_false_iff_ne.2 n1) (sel_f (beq_eq_false_iff_ne.2 n2) (sel_f rfl (sel_t (decide_eq_true (show ((r.length : Int) > 0) by omega)) rfl))))
  have six6 : ∀ (f : List Int), f = (bif mayB k e c u v [] then hdB k e c u v else []) → ∀ (y : Nat × List Dat), (Tree.node (!strEq (strOf f) (strOf b)) (.leaf (1, [.n 0, .n 0, .n 0, .n 0, .n 0, .n 0, .n 0, .n 0, .l TB (List.replicate 64 (0 : Int)), .n 0, .n 0, .n 0, .n 0, .n 0, .b false])) (.leaf (1, [.n k, .n e, .n c, .n u, .n v, .n 0, .n 0, .n 0, .l TB (List.replicate 64 (0 : Int)), .n 0, .n 0, .n 0, .n 0, .n 0, .b true]))).sel = some y → op_6g [.l TB b] = some y := by
      intro f hf y hy
      have m8 := m8 f hf
      clear hf
      rw [he, hc, hu, hv] at m8 hy
      rw [op_6g_eq]
      refine fn_6g_t_im _ _ ?_
      unfold fn_6g_t
      dsimp only
      refine sel_f (decide_eq_false (show ¬ ((b.length : Int) < 33) by omega)) ?_
      erw [a1]
      refine sel_t rfl ?_
      erw [a2]
      refine sel_t rfl ?_
      erw [a3]
      refine sel_t rfl ?_
      erw [a4]
      refine sel_t rfl ?_
      erw [hk0]
      refine sel_f (beq_eq_false_iff_ne.2 n1) (sel_f (beq_eq_false_iff_ne.2 n2) ?_)
      refine sel_f (beq_eq_false_iff_ne.2 hkk.1) ?_
      refine sel_f (beq_eq_false_iff_ne.2 hkk.2) ?_
      erw [m8]
      refine sel_t rfl ?_
      exact hy
  have sixC : (¬ (mayB k e c u v [] = true ∧ r = [])) → op_6g [.l TB b] = some (1, [.n 0, .n 0, .n 0, .n 0, .n 0, .n 0, .n 0, .n 0, .l TB (List.replicate 64 (0 : Int)), .n 0, .n 0, .n 0, .n 0, .n 0, .b false]) := by
      intro hh
      refine six6 _ rfl _ ?_
      have fin : ¬ (mayB k e c u v [] = true ∧ r = []) → (!strEq (strOf (bif mayB k e c u v [] then hdB k e c u v else [])) (strOf b)) = true := by
        intro hna
        refine seF (bif_wb (hdB_wb hk)) hw ?_
        cases hm : mayB k e c u v [] with
        | false => intro q; have q2 : [] = b := q; rw [← q2] at h33; simp at h33
        | true =>
          intro q
          have q2 : hdB k e c u v = b := q
          have hlen := congrArg List.length q2
          rw [hdB_len] at hlen
          exact hna ⟨hm, List.eq_nil_of_length_eq_zero (by omega)⟩
      exact sel_t (fin hh) rfl
  by_cases hA : mayB k e c u v [] = true ∧ r = []
  · obtain ⟨hm, hr⟩ := hA
    have hb : hdB k e c u v = b := by rw [hr, List.append_nil] at hx; exact hx
    have five := five hr
    rw [hm] at five
    exfalso
    unfold mayB at hm
    rw [Bool.and_eq_true, Bool.and_eq_true] at hm
    have q1 := of_decide_eq_true hm.1
    have q2 := of_decide_eq_true hm.2.1
    have := hkk.1
    have := hkk.2
    omega
  · refine .C ?_ (sixC (hA))
    by_cases hr : r = []
    · have hm : mayB k e c u v [] = false := by
        cases q : mayB k e c u v [] with
        | false => rfl
        | true => exact (hA ⟨q, hr⟩).elim
      refine five hr _ ?_
      rw [hm]; rfl
    · exact fiveC hr
theorem WOn : WO none := fun l h => by cases h
theorem resS {b : List Int} (hw : Wb b) (hl : b.length < 33) : ResM b := by
  have hW := WOs hw (by omega)
  have o0 := t13r (l := b) (by omega)
  have e0 := r77r hW
  have e1 := r78r (hW.rd 1)
  have e2 := r78r ((hW.rd 1).rd 8)
  have e3 := r78r (((hW.rd 1).rd 8).rd 8)
  have e4 := r78r ((((hW.rd 1).rd 8).rd 8).rd 8)
  have h5 : rd 8 (rd 8 (rd 8 (rd 8 (rd 1 (some b))))) = none := by
    simp only [rd_rd]
    exact rd_neg (by omega)
  rw [h5] at e4
  refine .C ?_ ?_
  · rw [op_5g_eq]
    refine fn_5g_t_im _ _ ?_
    unfold fn_5g_t
    dsimp only
    erw [o0]
    refine sel_t rfl ?_
    erw [e0]
    refine sel_t rfl ?_
    erw [e1]
    refine sel_t rfl ?_
    erw [e2]
    refine sel_t rfl ?_
    erw [e3]
    refine sel_t rfl ?_
    erw [e4]
    refine sel_t rfl ?_
    by_cases k1 : vl 1 (some b) = 1
    · refine sel_t (by show (vl 1 (some b) == 1) = true; rw [k1]; rfl) ?_
      have p5 := r82r WOn 0 (by omega)
      have g5 := F28 Wb.nil (by simp) (fun _ _ _ _ _ _ q => by have := congrArg List.length q; rw [chk_len] at this; simp at this)
      erw [p5]
      refine sel_t rfl ?_
      erw [g5]
      exact sel_t rfl (sel_t rfl rfl)
    · refine sel_f (beq_eq_false_iff_ne.2 k1) ?_
      by_cases k2 : vl 1 (some b) = 2
      · refine sel_t (by show (vl 1 (some b) == 2) = true; rw [k2]; rfl) ?_
        have p5 := t22 WOn
        have hz : rd 1 (o22 none) = none := rfl
        rw [hz, rn_none] at p5
        erw [p5]
        exact sel_t rfl (sel_t rfl rfl)
      · exact sel_f (beq_eq_false_iff_ne.2 k2) (sel_t rfl rfl)
  · rw [op_6g_eq]
    refine fn_6g_t_im _ _ ?_
    unfold fn_6g_t
    dsimp only
    exact sel_t (decide_eq_true (show (b.length : Int) < 33 by omega)) rfl
end Go.Proofs.Ytdaabhpeedekaaa.Vx
namespace Go.Proofs.Ytdaabhpeedekaaa.Vx
open Go Go.RowKit
set_option linter.unusedVariables false
set_option linter.unusedSimpArgs false
set_option maxRecDepth 100000
set_option maxHeartbeats 4000000
theorem rt_snoc : ∀ (k : Nat) (o : Option (List Int)), rt (k + 1) o = apT (rt k o) (IntKind.wrap .i64 (vl 1 (rd (2 * k) o))) (vl 1 (rd (2 * k + 1) o))
  | 0, o => by
    show [mkT (IntKind.wrap .i64 (vl 1 o)) (vl 1 (rd 1 o))] = [mkT (IntKind.wrap .i64 (vl 1 (rd 0 o))) (vl 1 (rd 1 o))]
    rw [rdz]
  | k + 1, o => by
    have ih := rt_snoc k (rd 1 (rd 1 o))
    rw [rd_rd, rd_rd, rd_rd] at ih
    rw [show 1 + 1 + 2 * k = 2 * (k + 1) by omega, show 1 + 1 + (2 * k + 1) = 2 * (k + 1) + 1 by omega] at ih
    show mkT (IntKind.wrap .i64 (vl 1 o)) (vl 1 (rd 1 o)) :: rt (k + 1) (rd 1 (rd 1 o)) = _
    rw [rd_rd, ih]
    show _ = apT (mkT (IntKind.wrap .i64 (vl 1 o)) (vl 1 (rd 1 o)) :: rt k (rd 1 (rd 1 o))) _ _
    rw [rd_rd]
    rfl
theorem WT_rt : ∀ (k : Nat) {o : Option (List Int)}, WO o → WT (rt k o)
  | 0, o, h => WTnil
  | k + 1, o, h => by
    intro i hi
    have h2 : (256 : Int) ^ 1 = 256 := rfl
    cases i with
    | zero =>
      have := vl_bd (h.rd 1) 1
      show 0 ≤ vl 1 (rd 1 o) ∧ vl 1 (rd 1 o) < 256
      omega
    | succ i =>
      have ih := WT_rt k ((h.rd 1).rd 1) i (by have := hi; rw [rt_len] at this ⊢; omega)
      exact ih
theorem rdx1t (x : Int) (l : List Int) : rd 1 (some (x :: l)) = some l := rd_pos (by simp)
theorem vl1t (x : Int) (l : List Int) : vl 1 (some (x :: l)) = x := by
  unfold vl
  rw [tk_pos (by simp)]
  show 0 * 256 + x = x
  omega
theorem rt_cc (k : Nat) (x y : Int) (r : List Int) : rt (k + 1) (some (x :: y :: r)) = mkT (IntKind.wrap .i64 x) y :: rt k (some r) := by
  show mkT (IntKind.wrap .i64 (vl 1 (some (x :: y :: r)))) (vl 1 (rd 1 (some (x :: y :: r)))) :: rt k (rd 1 (rd 1 (some (x :: y :: r)))) = _
  rw [rdx1t, rdx1t, vl1t, vl1t]
theorem tms_rt : ∀ (k : Nat) (r : List Int), Wb r → r.length = 2 * k → tms (rt k (some r)) = r
  | 0, r, _, hl => (List.eq_nil_of_length_eq_zero (by omega) : r = []) ▸ rfl
  | k + 1, [], _, hl => by simp at hl
  | k + 1, [_], _, hl => by simp at hl; omega
  | k + 1, x :: y :: r, hw, hl => by
    have hx := hw x (by simp)
    have hwr : Wb r := fun z hz => hw z (by simp [hz])
    rw [rt_cc]
    show IntKind.wrap .u8 (IntKind.wrap .i64 x) :: y :: tms (rt k (some r)) = _
    rw [tms_rt k r hwr (by simp at hl; omega), w64d, wu8]
    have : ((x + 9223372036854775808) % 18446744073709551616 - 9223372036854775808) % 256 = x := by omega
    rw [this]
theorem lp6 {b : List Int} (hb : Wb b) (hl : b.length ≤ 100000) (N : Nat) (hN : N ≤ 300) (k e c u v d1 d2 d3 d4 : Int) :
    op_L6g_16 [.k 0, .l TB b, .n (N : Int), .n 0, .n 0, .n 0, .n 0, .n 0, .n 0, .n 0, .n 0, .n 0, .l TB (List.replicate 64 (0 : Int)), .n 0, .n 0, .n 0, .n 0, .n 0, .n k, .n e, .n c, .n u, .n v, .n 0, .n 0, .n 0, .l TB (List.replicate 64 (0 : Int)), .n 0, .n d1, .n d2, .n d3, .n d4, .l TTm ([] : LT)] = some (0, [.l TB b, .n 0, .n 0, .n 0, .n 0, .n 0, .n 0, .n 0, .n 0, .l TB (List.replicate 64 (0 : Int)), .n 0, .n 0, .n 0, .n 0, .n 0, .n k, .n e, .n c, .n u, .n v, .n 0, .n 0, .n 0, .l TB (List.replicate 64 (0 : Int)), .n 0, .n d1, .n d2, .n d3, .n d4, .l TTm (rt N (rd 62 (some b)))]) := by
  rw [op_L6g_16_eq]
  refine iterS_count (fun i => [.k 0, .l TB b, .n (N : Int), .n i, .n 0, .n 0, .n 0, .n 0, .n 0, .n 0, .n 0, .n 0, .l TB (List.replicate 64 (0 : Int)), .n 0, .n 0, .n 0, .n 0, .n 0, .n k, .n e, .n c, .n u, .n v, .n 0, .n 0, .n 0, .l TB (List.replicate 64 (0 : Int)), .n 0, .n d1, .n d2, .n d3, .n d4, .l TTm (rt i.toNat (rd 62 (some b)))]) (N : Int) (0, [.l TB b, .n 0, .n 0, .n 0, .n 0, .n 0, .n 0, .n 0, .n 0, .l TB (List.replicate 64 (0 : Int)), .n 0, .n 0, .n 0, .n 0, .n 0, .n k, .n e, .n c, .n u, .n v, .n 0, .n 0, .n 0, .l TB (List.replicate 64 (0 : Int)), .n 0, .n d1, .n d2, .n d3, .n d4, .l TTm (rt N (rd 62 (some b)))]) (fun i h0 h1 => ?_) ?_ FU 0 (by omega) (by omega) (by show ((N : Int) - 0).toNat < FU; unfold FU; omega)
  · obtain ⟨j, rfl⟩ : ∃ j : Nat, i = (j : Int) := ⟨i.toNat, by omega⟩
    have hk : ((j : Int)).toNat = j := by omega
    have w1 : IntKind.wrap .i64 (62 + IntKind.wrap .i64 (2 * (j : Int))) = ((62 + 2 * j : Nat) : Int) := by rw [w64d, w64d]; omega
    have w2 : IntKind.wrap .i64 (63 + IntKind.wrap .i64 (2 * (j : Int))) = ((62 + (2 * j + 1) : Nat) : Int) := by rw [w64d, w64d]; omega
    have w3 : IntKind.wrap .i64 ((j : Int) + 1) = (j : Int) + 1 := w64s (by omega) (by omega)
    have a1 := t26 hb (by omega) (62 + 2 * j) 1 (by omega) (by omega)
    have a2 := t26 hb (by omega) (62 + (2 * j + 1)) 1 (by omega) (by omega)
    have bd2 := atv_bd hb (by omega) (62 + (2 * j + 1)) 1
    have h256 : (256 : Int) ^ 1 = 256 := rfl
    have w8 : IntKind.wrap .u8 (atv b (62 + (2 * j + 1)) 1) = atv b (62 + (2 * j + 1)) 1 := by rw [wu8]; omega
    have q1 : atv b (62 + 2 * j) 1 = vl 1 (rd (2 * j) (rd 62 (some b))) := by unfold atv; rw [rd_rd]
    have q2 : atv b (62 + (2 * j + 1)) 1 = vl 1 (rd (2 * j + 1) (rd 62 (some b))) := by unfold atv; rw [rd_rd]
    have hln := rt_len j (rd 62 (some b))
    rw [← w1] at a1
    rw [← w2] at a2
    refine fn_L6g_16_t_im _ _ _ _ _ _ _ _ _ _ _ _ _ _ _ _ _ _ h0 (List.length_replicate (n := 64) (a := (0 : Int))) _ ?_
    unfold fn_L6g_16_t
    dsimp only
    refine sel_t (decide_eq_true h1) ?_
    erw [a1]
    refine sel_t rfl ?_
    erw [a2]
    refine sel_t rfl (sel_t (decide_eq_true (show ((rt ((j : Int)).toNat (rd 62 (some b))).length + 1) * 16 ≤ 140737488355328 by rw [hk]; omega)) ?_)
    show some (Step.go [.k 0, .l TB b, .n (N : Int), .n (IntKind.wrap .i64 ((j : Int) + 1)), .n 0, .n 0, .n 0, .n 0, .n 0, .n 0, .n 0, .n 0, .l TB (List.replicate 64 (0 : Int)), .n 0, .n 0, .n 0, .n 0, .n 0, .n k, .n e, .n c, .n u, .n v, .n 0, .n 0, .n 0, .l TB (List.replicate 64 (0 : Int)), .n 0, .n d1, .n d2, .n d3, .n d4, .l TTm (apT (rt ((j : Int)).toNat (rd 62 (some b))) (IntKind.wrap .i64 (atv b (62 + 2 * j) 1)) (IntKind.wrap .u8 (atv b (62 + (2 * j + 1)) 1)))]) = _
    rw [w3, w8, hk, q1, q2, ← rt_snoc]
    show _ = some (Step.go [.k 0, .l TB b, .n (N : Int), .n ((j : Int) + 1), .n 0, .n 0, .n 0, .n 0, .n 0, .n 0, .n 0, .n 0, .l TB (List.replicate 64 (0 : Int)), .n 0, .n 0, .n 0, .n 0, .n 0, .n k, .n e, .n c, .n u, .n v, .n 0, .n 0, .n 0, .l TB (List.replicate 64 (0 : Int)), .n 0, .n d1, .n d2, .n d3, .n d4, .l TTm (rt ((j : Int) + 1).toNat (rd 62 (some b)))])
    rw [show ((j : Int) + 1).toNat = j + 1 by omega]
  · refine fn_L6g_16_t_im _ _ _ _ _ _ _ _ _ _ _ _ _ _ _ _ _ _ (by omega) (List.length_replicate (n := 64) (a := (0 : Int))) _ ?_
    unfold fn_L6g_16_t
    dsimp only
    refine sel_f (decide_eq_false (by omega)) ?_
    show some (Step.stop 0 [.l TB b, .n 0, .n 0, .n 0, .n 0, .n 0, .n 0, .n 0, .n 0, .l TB (List.replicate 64 (0 : Int)), .n 0, .n 0, .n 0, .n 0, .n 0, .n k, .n e, .n c, .n u, .n v, .n 0, .n 0, .n 0, .l TB (List.replicate 64 (0 : Int)), .n 0, .n d1, .n d2, .n d3, .n d4, .l TTm (rt ((N : Int)).toNat (rd 62 (some b)))]) = _
    rw [show ((N : Int)).toNat = N by omega]
theorem encM2 (e c u v d1 d2 d3 d4 : Int) (tl : LT) : encM 2 e c u v 0 0 0 z64 0 d1 d2 d3 d4 tl = hdB 2 e c u v ++ dlL d1 d2 d3 d4 tl := rfl
theorem dlL_wb {d1 d2 d3 d4 : Int} {tl : LT} (h : Wb (tms tl)) : Wb (dlL d1 d2 d3 d4 tl) := (((((be_wb _ _).app (be_wb _ _)).app (be_wb _ _)).app (be_wb _ _)).app (Wb.nil.cons (by rw [wu8]; omega))).app h
theorem tms_wb {l : LT} (h : WT l) : Wb (tms l) := by
  have : ∀ (k i : Nat), i + k = l.length → Wb (tms (l.drop i)) := by
    intro k
    induction k with
    | zero => intro i hi; rw [List.drop_eq_nil_of_le (by omega)]; exact Wb.nil
    | succ k ih =>
      intro i hi
      rw [tms_drop (show i < l.length by omega)]
      refine Wb.app ?_ (ih (i + 1) (by omega))
      have hv := h i (by omega)
      exact (Wb.nil.cons hv).cons (by rw [wu8]; omega)
  have h0 := this l.length 0 (by omega)
  exact h0
/-- What a delta's bytes are. -/
theorem del {r : List Int} (hw : Wb r) (hl : r.length ≤ 100000) (h : rn (vl 1 (o22 (some r))).toNat (rd 1 (o22 (some r))) = some []) : dlL (vl 8 (some r)) (vl 8 (rd 8 (some r))) (vl 8 (rd 8 (rd 8 (some r)))) (vl 4 (rd 8 (rd 8 (rd 8 (some r))))) (rt (vl 1 (o22 (some r))).toNat (rd 1 (o22 (some r)))) = r := by
  have h29 : rd 1 (o22 (some r)) = rd 29 (some r) := by unfold o22; simp only [rd_rd]
  by_cases hlen : r.length < 29
  · rw [h29, rd_neg (by omega), rn_none] at h; cases h
  · obtain ⟨d1, q1, h1, l1, u1, w1, n1⟩ := cut8 (l := r) hw (by omega)
    obtain ⟨d2, q2, h2, l2, u2, w2, n2⟩ := cut8 (l := q1) w1 (by omega)
    obtain ⟨d3, q3, h3, l3, u3, w3, n3⟩ := cut8 (l := q2) w2 (by omega)
    obtain ⟨d4, q4, h4, l4, u4, w4, n4⟩ := cut4 (l := q3) w3 (by omega)
    obtain ⟨n, q, h5, l5, u5, w5, n5⟩ := cut1 (l := q4) w4 (by omega)
    subst h5; subst h4; subst h3; subst h2; subst h1
    unfold o22 at h ⊢
    simp only [rd_be, vl_be, nb8 l1 u1, nb8 l2 u2, nb8 l3 u3, nb4 l4 u4, nb1 l5 u5] at h ⊢
    rw [rn_rd] at h
    have hq : q.length = 2 * n.toNat := by
      by_cases g : 2 * n.toNat ≤ q.length
      · rw [rd_pos g] at h
        have := congrArg List.length (Option.some.inj h)
        rw [List.length_drop, List.length_nil] at this
        omega
      · rw [rd_neg g] at h; cases h
    unfold dlL
    rw [rt_len, tms_rt _ q w5 hq, wk l4 (by omega)]
    have h8 : IntKind.wrap .u8 ((n.toNat : Nat) : Int) = n := by rw [wu8]; omega
    rw [h8, ← be1 l5 u5]
    simp only [List.append_assoc]
theorem resK2 {b : List Int} (hw : Wb b) (hl : b.length ≤ 100000) (h33 : 33 ≤ b.length) (hk1 : b.getD 0 0 = 2) : ResM b := by
  obtain ⟨k, E, C, U, V, r, r1, r2, r3, r4, hk, hwr, hrl, hk0, hd, s33, hx, p0, p1, p2, p3, p4, a1, a2, a3, a4⟩ := dec hw hl h33
  have hkk : k = 2 := by rw [← hk0]; exact hk1
  subst hkk
  obtain ⟨e, he⟩ : ∃ e, e = IntKind.wrap .i64 E := ⟨_, rfl⟩
  obtain ⟨c, hc⟩ : ∃ c, c = IntKind.wrap .i64 C := ⟨_, rfl⟩
  obtain ⟨u, hu⟩ : ∃ u, u = IntKind.wrap .i64 U := ⟨_, rfl⟩
  obtain ⟨v, hv⟩ : ∃ v, v = IntKind.wrap .i64 V := ⟨_, rfl⟩
  rw [← he, ← hc, ← hu, ← hv] at hx
  have o0 := t13r (l := b) (by omega)
  have hWr := WOs hwr (by omega)
  have p5 := t22 hWr
  have hdel := del hwr (by omega)
  have hWT := WT_rt (vl 1 (o22 (some r))).toNat (o := rd 1 (o22 (some r))) ((((((hWr.rd 8).rd 8).rd 8).rd 4)).rd 1)
  have hvl := vl_bd (o := o22 (some r)) ((((hWr.rd 8).rd 8).rd 8).rd 4) 1
  have h256 : (256 : Int) ^ 1 = 256 := rfl
  have hrt := rt_len (vl 1 (o22 (some r))).toNat (rd 1 (o22 (some r)))
  -- the reference's numbers
  have b1 := t26 hw (by omega) 33 8 (by omega) (by omega)
  have b2 := t26 hw (by omega) 41 8 (by omega) (by omega)
  have b3 := t26 hw (by omega) 49 8 (by omega) (by omega)
  have b4 := t26 hw (by omega) 57 4 (by omega) (by omega)
  have b5 := t26 hw (by omega) 61 1 (by omega) (by omega)
  have x1 : atv b 33 8 = vl 8 (some r) := by unfold atv; rw [s33]
  have x2 : atv b 41 8 = vl 8 (rd 8 (some r)) := by unfold atv; rw [← s33, rd_rd]
  have x3 : atv b 49 8 = vl 8 (rd 8 (rd 8 (some r))) := by unfold atv; rw [← s33, rd_rd, rd_rd]
  have x4 : atv b 57 4 = vl 4 (rd 8 (rd 8 (rd 8 (some r)))) := by unfold atv; rw [← s33, rd_rd, rd_rd, rd_rd]
  have x5 : atv b 61 1 = vl 1 (o22 (some r)) := by unfold atv o22; rw [← s33, rd_rd, rd_rd, rd_rd, rd_rd]
  have x6 : rd 62 (some b) = rd 1 (o22 (some r)) := by unfold o22; rw [← s33, rd_rd, rd_rd, rd_rd, rd_rd, rd_rd]
  have y4 := w32 (at4 hw (by omega) 57)
  rw [x1] at b1
  rw [x2] at b2
  rw [x3] at b3
  rw [x5] at b5
  obtain ⟨N, hN⟩ : ∃ N : Nat, N = (vl 1 (o22 (some r))).toNat := ⟨_, rfl⟩
  have hNi : IntKind.wrap .i64 (vl 1 (o22 (some r))) = (N : Int) := by rw [w64d]; omega
  obtain ⟨d1, g1⟩ : ∃ d, d = vl 8 (some r) := ⟨_, rfl⟩
  obtain ⟨d2, g2⟩ : ∃ d, d = vl 8 (rd 8 (some r)) := ⟨_, rfl⟩
  obtain ⟨d3, g3⟩ : ∃ d, d = vl 8 (rd 8 (rd 8 (some r))) := ⟨_, rfl⟩
  obtain ⟨d4, g4⟩ : ∃ d, d = vl 4 (rd 8 (rd 8 (rd 8 (some r)))) := ⟨_, rfl⟩
  obtain ⟨tl, gt⟩ : ∃ tl, tl = rt N (rd 1 (o22 (some r))) := ⟨_, rfl⟩
  obtain ⟨st, gst⟩ : ∃ st, st = rn N (rd 1 (o22 (some r))) := ⟨_, rfl⟩
  rw [← hN] at p5 hdel hWT hrt
  rw [← gt] at p5 hdel hWT hrt
  rw [← gst] at p5 hdel
  rw [← g1, ← g2, ← g3, ← g4] at p5 hdel
  rw [← g1] at b1
  rw [← g2] at b2
  rw [← g3] at b3
  have b4' : IntKind.wrap .u32 (atv b 57 4) = d4 := by rw [y4, x4, g4]
  have hNle : N ≤ 300 := by omega
  have p6 := lp6 hw (by omega) N hNle 2 e c u v d1 d2 d3 d4
  rw [x6, ← gt] at p6
  have htl : tl.length ≤ 300 := by rw [hrt]; exact hNle
  have m5 := may24 2 e c u v 0 0 0 z64 0 d1 d2 d3 d4 tl (by omega)
  have l5 := lean25 2 e c u v 0 0 0 z64 0 d1 d2 d3 d4 tl
  have m8 : ∀ f : List Int, f = (bif mayB 2 e c u v tl then hdB 2 e c u v ++ dlL d1 d2 d3 d4 tl else []) → op_8p [.n 2, .n e, .n c, .n u, .n v, .n 0, .n 0, .n 0, .l TB (List.replicate 64 (0 : Int)), .n 0, .n d1, .n d2, .n d3, .n d4, .l TTm tl] = some (0, [.l TB f]) := by
    intro f hf
    rw [hf, ← encM2]
    exact p8 2 e c u v 0 0 0 z64 0 d1 d2 d3 d4 tl (by omega) (by omega) (List.length_replicate (n := 64) (a := (0 : Int))) z64w (by omega)
  have m7 : ∀ f : List Int, f = (bif mayB 2 e c u v tl then hdB 2 e c u v ++ dlL d1 d2 d3 d4 tl else []) → op_7p [.n 2, .n e, .n c, .n u, .n v, .n 0, .n 0, .n 0, .l TB (List.replicate 64 (0 : Int)), .n 0, .n d1, .n d2, .n d3, .n d4, .l TTm tl] = some (0, [.l TB f]) := by
    intro f hf
    rw [hf, ← encM2]
    exact p7 2 e c u v 0 0 0 z64 0 d1 d2 d3 d4 tl (by omega) (by omega) (List.length_replicate (n := 64) (a := (0 : Int))) (by omega) hWT
  have five : ∀ (y : Nat × List Dat), (Tree.node (bd st) (.leaf (1, [.n 0, .n 0, .n 0, .n 0, .n 0, .n 0, .n 0, .n 0, .l TB (List.replicate 64 (0 : Int)), .n 0, .n 0, .n 0, .n 0, .n 0, .n (130 : Int)])) (.node (decide (((lf st).length : Int) > 0)) (.leaf (1, [.n 0, .n 0, .n 0, .n 0, .n 0, .n 0, .n 0, .n 0, .l TB (List.replicate 64 (0 : Int)), .n 0, .n 0, .n 0, .n 0, .n 0, .n (130 : Int)])) (.node (!mayB 2 e c u v tl) (.leaf (1, [.n 0, .n 0, .n 0, .n 0, .n 0, .n 0, .n 0, .n 0, .l TB (List.replicate 64 (0 : Int)), .n 0, .n 0, .n 0, .n 0, .n 0, .n (130 : Int)])) (.leaf (0, [.n 2, .n e, .n c, .n u, .n v, .n 0, .n 0, .n 0, .l TB (List.replicate 64 (0 : Int)), .n 0, .n d1, .n d2, .n d3, .n d4, .n (0 : Int), .l TTm tl]))))).sel = some y → op_5g [.l TB b] = some y := by
    intro y hy
    rw [he, hc, hu, hv] at m5 l5 hy
    rw [op_5g_eq]
    refine fn_5g_t_im _ _ ?_
    unfold fn_5g_t
    dsimp only
    erw [o0]
    refine sel_t rfl ?_
    erw [p0]
    refine sel_t rfl ?_
    erw [p1]
    refine sel_t rfl ?_
    erw [p2]
    refine sel_t rfl ?_
    erw [p3]
    refine sel_t rfl ?_
    erw [p4]
    refine sel_t rfl (sel_f rfl (sel_t rfl ?_))
    erw [p5]
    refine sel_t rfl ?_
    cases hbd : bd st with
    | true => rw [hbd] at hy; exact sel_t rfl hy
    | false =>
      rw [hbd] at hy
      refine sel_f rfl ?_
      by_cases hlen : ((lf st).length : Int) > 0
      · rw [decide_eq_true hlen] at hy; exact sel_t (decide_eq_true hlen) hy
      · rw [decide_eq_false hlen] at hy
        refine sel_f (decide_eq_false hlen) ?_
        erw [m5]
        refine sel_t rfl ?_
        cases hm : mayB 2 (IntKind.wrap .i64 E) (IntKind.wrap .i64 C) (IntKind.wrap .i64 U) (IntKind.wrap .i64 V) tl with
        | false => rw [hm] at hy; exact hy
        | true =>
          rw [hm] at hy
          refine sel_f rfl ?_
          erw [l5]
          exact sel_t rfl (sel_f rfl hy)
  have six6 : ∀ (f : List Int), f = (bif mayB 2 e c u v tl then hdB 2 e c u v ++ dlL d1 d2 d3 d4 tl else []) → ∀ (y : Nat × List Dat), (Tree.node (!strEq (strOf f) (strOf b)) (.leaf (1, [.n 0, .n 0, .n 0, .n 0, .n 0, .n 0, .n 0, .n 0, .l TB (List.replicate 64 (0 : Int)), .n 0, .n 0, .n 0, .n 0, .n 0, .b false])) (.leaf (0, [.n 2, .n e, .n c, .n u, .n v, .n 0, .n 0, .n 0, .l TB (List.replicate 64 (0 : Int)), .n 0, .n d1, .n d2, .n d3, .n d4, .b true, .l TTm tl]))).sel = some y → op_6g [.l TB b] = some y := by
    intro f hf y hy
    have m8 := m8 f hf
    clear hf
    rw [he, hc, hu, hv] at m8 hy p6
    rw [op_6g_eq]
    refine fn_6g_t_im _ _ ?_
    unfold fn_6g_t
    dsimp only
    refine sel_f (decide_eq_false (show ¬ ((b.length : Int) < 33) by omega)) ?_
    erw [a1]
    refine sel_t rfl ?_
    erw [a2]
    refine sel_t rfl ?_
    erw [a3]
    refine sel_t rfl ?_
    erw [a4]
    refine sel_t rfl ?_
    erw [hk1]
    refine sel_f rfl (sel_t rfl ?_)
    erw [b1]
    refine sel_t rfl ?_
    erw [b2]
    refine sel_t rfl ?_
    erw [b3]
    refine sel_t rfl ?_
    erw [b4]
    refine sel_t rfl ?_
    erw [b5]
    refine sel_t rfl ?_
    erw [hNi, b4', p6]
    refine sel_t rfl (sel_f rfl (sel_f rfl ?_))
    erw [m8]
    exact sel_t rfl hy
  have hst : bd st = false → ¬ (((lf st).length : Int) > 0) → st = some [] := by
    intro h1 h2
    cases st with
    | none => cases h1
    | some l =>
      have hz : l.length = 0 := by
        have : ¬ ((l.length : Int) > 0) := h2
        omega
      rw [List.eq_nil_of_length_eq_zero hz]
  -- as many bytes as there are to be
  have hback : hdB 2 e c u v ++ dlL d1 d2 d3 d4 tl = b → st = some [] := by
    intro q
    have q2 : dlL d1 d2 d3 d4 tl = r := List.append_cancel_left (q.trans hx.symm)
    have hlen := congrArg List.length q2
    rw [dlL_len, hrt] at hlen
    have h29 : rd 1 (o22 (some r)) = rd 29 (some r) := by unfold o22; simp only [rd_rd]
    rw [gst, h29, rd_pos (by omega), rn_rd]
    have hdl : (r.drop 29).length = 2 * N := by rw [List.length_drop]; omega
    have := rd_app (k := 2 * N) (a := r.drop 29) (r := []) hdl
    rw [List.append_nil] at this
    exact this
  cases hm : mayB 2 e c u v tl with
  | false =>
    rw [hm] at five
    refine .C ?_ (six6 [] (by rw [hm]; rfl) _ (sel_t (seF Wb.nil hw (fun q => by rw [← q] at h33; simp at h33)) rfl))
    refine five _ ?_
    cases bd st with
    | true => rfl
    | false =>
      refine sel_f rfl ?_
      by_cases hlen : ((lf st).length : Int) > 0
      · exact sel_t (decide_eq_true hlen) rfl
      · exact sel_f (decide_eq_false hlen) rfl
  | true =>
    rw [hm] at five
    by_cases hs : st = some []
    · have hb : hdB 2 e c u v ++ dlL d1 d2 d3 d4 tl = b := by rw [hdel hs]; exact hx
      refine .A e c u v d1 d2 d3 d4 tl (five _ ?_) (six6 b (by rw [hm]; exact hb.symm) _ (sel_f (seNo _) rfl)) (m7 b (by rw [hm]; exact hb.symm)) htl
      rw [hs]
      exact sel_f rfl (sel_f (decide_eq_false (show ¬ ((([] : List Int).length : Int) > 0) by simp)) rfl)
    · refine .C ?_ (six6 _ rfl _ (sel_t (seF (bif_wb ((hdB_wb hk).app (dlL_wb (tms_wb hWT)))) hw ?_) rfl))
      · refine five _ ?_
        cases hbd : bd st with
        | true => rfl
        | false =>
          refine sel_f rfl ?_
          by_cases hlen : ((lf st).length : Int) > 0
          · exact sel_t (decide_eq_true hlen) rfl
          · exact (hs (hst hbd hlen)).elim
      · intro q
        rw [hm] at q
        exact hs (hback q)
theorem resM {b : List Int} (hw : Wb b) (hl : b.length ≤ 100000) : ResM b := by
  by_cases h33 : b.length < 33
  · exact resS hw h33
  · by_cases k1 : b.getD 0 0 = 1
    · exact resK1 hw hl (by omega) k1
    · by_cases k2 : b.getD 0 0 = 2
      · exact resK2 hw hl (by omega) k2
      · by_cases k3 : b.getD 0 0 = 3
        · exact resK3 hw hl (by omega) k1 k2 k3
        · by_cases k4 : b.getD 0 0 = 4
          · exact resK4 hw hl (by omega) k1 k2 k4
          · exact resKx hw hl (by omega) k1 k2 ⟨k3, k4⟩
end Go.Proofs.Ytdaabhpeedekaaa.Vx
namespace Go.Proofs.Ytdaabhpeedekaaa.Vx
open Go Go.RowKit
set_option linter.unusedVariables false
set_option linter.unusedSimpArgs false
set_option maxRecDepth 100000
set_option maxHeartbeats 4000000
theorem bdM_wb {k s1 s2 s3 : Int} {t : List Int} {s5 d1 d2 d3 d4 : Int} {tl : LT} (ht : Wb t) (hw : WT tl) : Wb (bdM k s1 s2 s3 t s5 d1 d2 d3 d4 tl) := by
  unfold bdM
  cases k == 1 with
  | true => exact chk_wb ((stL_wb ht).cons (by omega))
  | false =>
    cases k == 2 with
    | true => exact dlL_wb (tms_wb hw)
    | false => exact Wb.nil
theorem encM_wb {k e c u v s1 s2 s3 : Int} {t : List Int} {s5 d1 d2 d3 d4 : Int} {tl : LT} (h : 0 ≤ k ∧ k < 256) (ht : Wb t) (hw : WT tl) : Wb (encM k e c u v s1 s2 s3 t s5 d1 d2 d3 d4 tl) := (hdB_wb h).app (bdM_wb ht hw)
theorem encM_len {k e c u v s1 s2 s3 : Int} {t : List Int} {s5 d1 d2 d3 d4 : Int} {tl : LT} (ht : t.length = 64) (hl : tl.length ≤ 1000) : (encM k e c u v s1 s2 s3 t s5 d1 d2 d3 d4 tl).length ≤ 100000 := by
  unfold encM bdM
  rw [List.length_append, hdB_len]
  cases k == 1 with
  | true =>
    show 33 + (chk (3 :: stL s1 s2 s3 t s5)).length ≤ 100000
    rw [chk_len, List.length_cons, stL_len _ _ _ _ _ ht]; omega
  | false =>
    cases k == 2 with
    | true =>
      show 33 + (dlL d1 d2 d3 d4 tl).length ≤ 100000
      rw [dlL_len]; omega
    | false => exact (by omega : 33 + 0 ≤ 100000)
theorem encB_len {m : Bool} {k e c u v s1 s2 s3 : Int} {t : List Int} {s5 d1 d2 d3 d4 : Int} {tl : LT} (ht : t.length = 64) (hl : tl.length ≤ 1000) : (bif m then encM k e c u v s1 s2 s3 t s5 d1 d2 d3 d4 tl else []).length ≤ 100000 := by
  cases m with
  | true => exact encM_len ht hl
  | false => exact Nat.zero_le _
theorem t3a (n0 n1 n2 n3 n4 n5 n6 n7 : Int) (l8 : List Int) (n9 n10 n11 n12 n13 : Int) (l14 : LT) (b p : List Int) (h8 : l8.length = 64) (hl : l14.length ≤ 200) (hb : Wb b) (hb2 : b.length ≤ 1000) (q7 : op_7p [.n n0, .n n1, .n n2, .n n3, .n n4, .n n5, .n n6, .n n7, .l TB l8, .n n9, .n n10, .n n11, .n n12, .n n13, .l TTm l14] = some (0, [.l TB p])) (q8 : op_8p [.n n0, .n n1, .n n2, .n n3, .n n4, .n n5, .n n6, .n n7, .l TB l8, .n n9, .n n10, .n n11, .n n12, .n n13, .l TTm l14] = some (0, [.l TB p])) (wp : Wb p) (lp : p.length ≤ 100000) : (ev_W3 [.n n0, .n n1, .n n2, .n n3, .n n4, .n n5, .n n6, .n n7, .l TB l8, .n n9, .n n10, .n n11, .n n12, .n n13, .l TTm l14, .l TB b]).sel = some true := by
  have hL : (l14.length : Int) ≤ 200 := by omega
  have hB : (b.length : Int) ≤ 1000 := by omega
  have q24 := e24 n0 n1 n2 n3 n4 n5 n6 n7 l8 n9 n10 n11 n12 n13 l14 (by omega)
  cases resM hb (by omega) with
  | A e c u v d1 d2 d3 d4 tl h5 h6 hp hl =>
    cases resM wp lp with
    | A ex cx ux vx d1x d2x d3x d4x tlx h5x h6x hpx hlx =>
      exact fn_W3_hAA_im n0 n1 n2 n3 n4 n5 n6 n7 l8 n9 n10 n11 n12 n13 l14 b p 2 e c u v 0 0 0 z64 0 d1 d2 d3 d4 tl 2 ex cx ux vx 0 0 0 z64 0 d1x d2x d3x d4x tlx hL hB h8 (bytes_back hb) (seSelf _) (seSelf _) h5 h6 (e24 2 e c u v 0 0 0 z64 0 d1 d2 d3 d4 tl (by omega)) (e25 2 e c u v 0 0 0 z64 0 d1 d2 d3 d4 tl (by omega)) q7 q24 q8 hp h5x h6x (e24 2 ex cx ux vx 0 0 0 z64 0 d1x d2x d3x d4x tlx (by omega)) (e25 2 ex cx ux vx 0 0 0 z64 0 d1x d2x d3x d4x tlx (by omega)) true rfl
    | B kx ex cx ux vx s1x s2x s3x tx s5x h5x h6x hpx =>
      exact fn_W3_hAB_im n0 n1 n2 n3 n4 n5 n6 n7 l8 n9 n10 n11 n12 n13 l14 b p 2 e c u v 0 0 0 z64 0 d1 d2 d3 d4 tl kx ex cx ux vx s1x s2x s3x tx s5x 0 0 0 0 hL hB h8 (bytes_back hb) (seSelf _) (seSelf _) h5 h6 (e24 2 e c u v 0 0 0 z64 0 d1 d2 d3 d4 tl (by omega)) (e25 2 e c u v 0 0 0 z64 0 d1 d2 d3 d4 tl (by omega)) q7 q24 q8 hp h5x h6x (e24 kx ex cx ux vx s1x s2x s3x tx s5x 0 0 0 0 [] (Nat.zero_le _)) (e25 kx ex cx ux vx s1x s2x s3x tx s5x 0 0 0 0 [] (Nat.zero_le _)) true rfl
    | C h5x h6x =>
      exact fn_W3_hAC_im n0 n1 n2 n3 n4 n5 n6 n7 l8 n9 n10 n11 n12 n13 l14 b p 2 e c u v 0 0 0 z64 0 d1 d2 d3 d4 tl 0 0 0 0 0 0 0 0 (List.replicate 64 (0 : Int)) 0 0 0 0 0 hL hB h8 (bytes_back hb) (seSelf _) (seSelf _) h5 h6 (e24 2 e c u v 0 0 0 z64 0 d1 d2 d3 d4 tl (by omega)) (e25 2 e c u v 0 0 0 z64 0 d1 d2 d3 d4 tl (by omega)) q7 q24 q8 hp h5x h6x (e24 0 0 0 0 0 0 0 0 (List.replicate 64 (0 : Int)) 0 0 0 0 0 [] (Nat.zero_le _)) (e25 0 0 0 0 0 0 0 0 (List.replicate 64 (0 : Int)) 0 0 0 0 0 [] (Nat.zero_le _)) true rfl
  | B k e c u v s1 s2 s3 t s5 h5 h6 hp =>
    cases resM wp lp with
    | A ex cx ux vx d1x d2x d3x d4x tlx h5x h6x hpx hlx =>
      exact fn_W3_hBA_im n0 n1 n2 n3 n4 n5 n6 n7 l8 n9 n10 n11 n12 n13 l14 b p k e c u v s1 s2 s3 t s5 0 0 0 0 2 ex cx ux vx 0 0 0 z64 0 d1x d2x d3x d4x tlx hL hB h8 (bytes_back hb) (seSelf _) (seSelf _) h5 h6 (e24 k e c u v s1 s2 s3 t s5 0 0 0 0 [] (Nat.zero_le _)) (e25 k e c u v s1 s2 s3 t s5 0 0 0 0 [] (Nat.zero_le _)) q7 q24 q8 hp h5x h6x (e24 2 ex cx ux vx 0 0 0 z64 0 d1x d2x d3x d4x tlx (by omega)) (e25 2 ex cx ux vx 0 0 0 z64 0 d1x d2x d3x d4x tlx (by omega)) true rfl
    | B kx ex cx ux vx s1x s2x s3x tx s5x h5x h6x hpx =>
      exact fn_W3_hBB_im n0 n1 n2 n3 n4 n5 n6 n7 l8 n9 n10 n11 n12 n13 l14 b p k e c u v s1 s2 s3 t s5 0 0 0 0 kx ex cx ux vx s1x s2x s3x tx s5x 0 0 0 0 hL hB h8 (bytes_back hb) (seSelf _) (seSelf _) h5 h6 (e24 k e c u v s1 s2 s3 t s5 0 0 0 0 [] (Nat.zero_le _)) (e25 k e c u v s1 s2 s3 t s5 0 0 0 0 [] (Nat.zero_le _)) q7 q24 q8 hp h5x h6x (e24 kx ex cx ux vx s1x s2x s3x tx s5x 0 0 0 0 [] (Nat.zero_le _)) (e25 kx ex cx ux vx s1x s2x s3x tx s5x 0 0 0 0 [] (Nat.zero_le _)) true rfl
    | C h5x h6x =>
      exact fn_W3_hBC_im n0 n1 n2 n3 n4 n5 n6 n7 l8 n9 n10 n11 n12 n13 l14 b p k e c u v s1 s2 s3 t s5 0 0 0 0 0 0 0 0 0 0 0 0 (List.replicate 64 (0 : Int)) 0 0 0 0 0 hL hB h8 (bytes_back hb) (seSelf _) (seSelf _) h5 h6 (e24 k e c u v s1 s2 s3 t s5 0 0 0 0 [] (Nat.zero_le _)) (e25 k e c u v s1 s2 s3 t s5 0 0 0 0 [] (Nat.zero_le _)) q7 q24 q8 hp h5x h6x (e24 0 0 0 0 0 0 0 0 (List.replicate 64 (0 : Int)) 0 0 0 0 0 [] (Nat.zero_le _)) (e25 0 0 0 0 0 0 0 0 (List.replicate 64 (0 : Int)) 0 0 0 0 0 [] (Nat.zero_le _)) true rfl
  | C h5 h6 =>
    cases resM wp lp with
    | A ex cx ux vx d1x d2x d3x d4x tlx h5x h6x hpx hlx =>
      exact fn_W3_hCA_im n0 n1 n2 n3 n4 n5 n6 n7 l8 n9 n10 n11 n12 n13 l14 b p 0 0 0 0 0 0 0 0 (List.replicate 64 (0 : Int)) 0 0 0 0 0 2 ex cx ux vx 0 0 0 z64 0 d1x d2x d3x d4x tlx hL hB h8 (bytes_back hb) (seSelf _) (seSelf _) h5 h6 (e24 0 0 0 0 0 0 0 0 (List.replicate 64 (0 : Int)) 0 0 0 0 0 [] (Nat.zero_le _)) (e25 0 0 0 0 0 0 0 0 (List.replicate 64 (0 : Int)) 0 0 0 0 0 [] (Nat.zero_le _)) q7 q24 q8 h5x h6x (e24 2 ex cx ux vx 0 0 0 z64 0 d1x d2x d3x d4x tlx (by omega)) (e25 2 ex cx ux vx 0 0 0 z64 0 d1x d2x d3x d4x tlx (by omega)) true rfl
    | B kx ex cx ux vx s1x s2x s3x tx s5x h5x h6x hpx =>
      exact fn_W3_hCB_im n0 n1 n2 n3 n4 n5 n6 n7 l8 n9 n10 n11 n12 n13 l14 b p 0 0 0 0 0 0 0 0 (List.replicate 64 (0 : Int)) 0 0 0 0 0 kx ex cx ux vx s1x s2x s3x tx s5x 0 0 0 0 hL hB h8 (bytes_back hb) (seSelf _) (seSelf _) h5 h6 (e24 0 0 0 0 0 0 0 0 (List.replicate 64 (0 : Int)) 0 0 0 0 0 [] (Nat.zero_le _)) (e25 0 0 0 0 0 0 0 0 (List.replicate 64 (0 : Int)) 0 0 0 0 0 [] (Nat.zero_le _)) q7 q24 q8 h5x h6x (e24 kx ex cx ux vx s1x s2x s3x tx s5x 0 0 0 0 [] (Nat.zero_le _)) (e25 kx ex cx ux vx s1x s2x s3x tx s5x 0 0 0 0 [] (Nat.zero_le _)) true rfl
    | C h5x h6x =>
      exact fn_W3_hCC_im n0 n1 n2 n3 n4 n5 n6 n7 l8 n9 n10 n11 n12 n13 l14 b p 0 0 0 0 0 0 0 0 (List.replicate 64 (0 : Int)) 0 0 0 0 0 0 0 0 0 0 0 0 0 (List.replicate 64 (0 : Int)) 0 0 0 0 0 hL hB h8 (bytes_back hb) (seSelf _) (seSelf _) h5 h6 (e24 0 0 0 0 0 0 0 0 (List.replicate 64 (0 : Int)) 0 0 0 0 0 [] (Nat.zero_le _)) (e25 0 0 0 0 0 0 0 0 (List.replicate 64 (0 : Int)) 0 0 0 0 0 [] (Nat.zero_le _)) q7 q24 q8 h5x h6x (e24 0 0 0 0 0 0 0 0 (List.replicate 64 (0 : Int)) 0 0 0 0 0 [] (Nat.zero_le _)) (e25 0 0 0 0 0 0 0 0 (List.replicate 64 (0 : Int)) 0 0 0 0 0 [] (Nat.zero_le _)) true rfl
theorem t3b (n0 n1 n2 n3 n4 n5 n6 n7 : Int) (l8 : List Int) (n9 n10 n11 n12 n13 : Int) (l14 : LT) (b : List Int) (h0 : 0 ≤ n0 ∧ n0 < 256) (h8 : l8.length = 64) (w8 : Wb l8) (hT : WT l14) (hb : Wb b) : (ev_W3 [.n n0, .n n1, .n n2, .n n3, .n n4, .n n5, .n n6, .n n7, .l TB l8, .n n9, .n n10, .n n11, .n n12, .n n13, .l TTm l14, .l TB b]).sel = some true := by
  by_cases hl : (l14.length : Int) ≤ 200
  · by_cases hb2 : (b.length : Int) ≤ 1000
    · exact t3a n0 n1 n2 n3 n4 n5 n6 n7 l8 n9 n10 n11 n12 n13 l14 b _ h8 (Int.ofNat_le.1 hl) hb (Int.ofNat_le.1 hb2) (p7 n0 n1 n2 n3 n4 n5 n6 n7 l8 n9 n10 n11 n12 n13 l14 h0.1 h0.2 h8 (by omega) hT) (p8 n0 n1 n2 n3 n4 n5 n6 n7 l8 n9 n10 n11 n12 n13 l14 h0.1 h0.2 h8 w8 (by omega)) (bif_wb (encM_wb h0 w8 hT)) (encB_len h8 (by omega))
    · exact fn_W3_y_im n0 n1 n2 n3 n4 n5 n6 n7 l8 n9 n10 n11 n12 n13 l14 b h8 hl (Int.not_le.1 hb2) true rfl
  · exact fn_W3_x_im n0 n1 n2 n3 n4 n5 n6 n7 l8 n9 n10 n11 n12 n13 l14 b h8 (Int.not_le.1 hl) true rfl
abbrev TMs : Ty := .pair (.int .u8) (.pair (.int .i64) (.pair (.int .i64) (.pair (.int .i64) (.pair (.int .i64) (.pair (.int .u64) (.pair (.int .u64) (.pair (.int .u64) (.pair (.arr 64 TB) (.pair (.int .u32) (.pair (.int .u64) (.pair (.int .u64) (.pair (.int .u64) (.pair (.int .u32) (.sl TTm))))))))))))))
theorem wf_tt {l : LT} (h : wfD (.sl TTm) l = true) : WT l := by
  have h' : (decide (l.length ≤ maxLen) && wfL (wfD TTm) l) = true := h
  rw [Bool.and_eq_true, wfL_iff] at h'
  intro i hi
  have hm : (l.getD i (Ty.dflt TTm)) ∈ l := by
    rw [List.getD_eq_getElem?_getD, List.getElem?_eq_getElem hi]
    exact List.getElem_mem hi
  have h1 := h'.2 _ hm
  have h2 : (wfD (.int .i64) (l.getD i (Ty.dflt TTm)).1 && wfD (.int .u8) (l.getD i (Ty.dflt TTm)).2) = true := h1
  rw [Bool.and_eq_true] at h2
  exact wf8 h2.2
theorem wf_fs {x y : Ty} {a : (Ty.pair x y).den} (h : wfD (.pair x y) a = true) : wfD x a.1 = true ∧ wfD y a.2 = true := by
  have h' : (wfD x a.1 && wfD y a.2) = true := h
  rw [Bool.and_eq_true] at h'
  exact h'
theorem wf_ms {a : Ty.den TMs} (h : wfD TMs a = true) : ((0 : Int) ≤ a.1 ∧ (256 : Int) > a.1) ∧ (List.length a.2.2.2.2.2.2.2.2.1 = 64 ∧ Wb a.2.2.2.2.2.2.2.2.1) ∧ WT a.2.2.2.2.2.2.2.2.2.2.2.2.2.2 := by
  have r8 := (wf_fs (wf_fs (wf_fs (wf_fs (wf_fs (wf_fs (wf_fs (wf_fs h).2).2).2).2).2).2).2).2
  have r14 := (wf_fs (wf_fs (wf_fs (wf_fs (wf_fs (wf_fs r8).2).2).2).2).2).2
  exact ⟨wf8 (wf_fs h).1, wf_arr (wf_fs r8).1, wf_tt r14⟩
theorem t3' {a : Ty.den TMs} {b : List (Ty.den TB)} (h : wfD TMs a = true) (k : wfD (.sl TB) b = true) : (ev_W3 [.n a.1, .n a.2.1, .n a.2.2.1, .n a.2.2.2.1, .n a.2.2.2.2.1, .n a.2.2.2.2.2.1, .n a.2.2.2.2.2.2.1, .n a.2.2.2.2.2.2.2.1, .l TB a.2.2.2.2.2.2.2.2.1, .n a.2.2.2.2.2.2.2.2.2.1, .n a.2.2.2.2.2.2.2.2.2.2.1, .n a.2.2.2.2.2.2.2.2.2.2.2.1, .n a.2.2.2.2.2.2.2.2.2.2.2.2.1, .n a.2.2.2.2.2.2.2.2.2.2.2.2.2.1, .l TTm a.2.2.2.2.2.2.2.2.2.2.2.2.2.2, .l TB b]).sel = some true := by
  obtain ⟨h0, h8, hT⟩ := wf_ms h
  exact t3b a.1 a.2.1 a.2.2.1 a.2.2.2.1 a.2.2.2.2.1 a.2.2.2.2.2.1 a.2.2.2.2.2.2.1 a.2.2.2.2.2.2.2.1 a.2.2.2.2.2.2.2.2.1 a.2.2.2.2.2.2.2.2.2.1 a.2.2.2.2.2.2.2.2.2.2.1 a.2.2.2.2.2.2.2.2.2.2.2.1 a.2.2.2.2.2.2.2.2.2.2.2.2.1 a.2.2.2.2.2.2.2.2.2.2.2.2.2.1 a.2.2.2.2.2.2.2.2.2.2.2.2.2.2 b h0 h8.1 h8.2 hT (wf_sl k)
end Go.Proofs.Ytdaabhpeedekaaa.Vx
