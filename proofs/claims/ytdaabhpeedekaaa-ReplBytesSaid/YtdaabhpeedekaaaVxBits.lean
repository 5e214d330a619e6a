import Derived.Test.YtdaabhpeedekaaaVxAid
import Derived.Test.YtdaabhpeedekaaaVxLend
import Derived.IntWalk
namespace Go.Proofs.Ytdaabhpeedekaaa.Vx
open Go Go.RowKit
set_option linter.unusedVariables false
/-! ### Answers and rounds -/
theorem dOf_some (k : Nat) (d : List Dat) : dOf (some (k, d)) = d := rfl
theorem gn0 (x : Int) (l : List Dat) : gn (.n x :: l) 0 = x := rfl
theorem gb0 (x : Bool) (l : List Dat) : gb (.b x :: l) 0 = x := rfl
theorem gs0 (x : ByteArray) (l : List Dat) : gs (.s x :: l) 0 = x := rfl
theorem gl0 (t : Ty) (x : List t.den) (l : List Dat) : gl t (.l t x :: l) 0 = x := by simp [gl, castL_self]
theorem gn1 (a0 : Dat) (x : Int) (l : List Dat) : gn (a0 :: .n x :: l) 1 = x := rfl
theorem gb1 (a0 : Dat) (x : Bool) (l : List Dat) : gb (a0 :: .b x :: l) 1 = x := rfl
theorem gs1 (a0 : Dat) (x : ByteArray) (l : List Dat) : gs (a0 :: .s x :: l) 1 = x := rfl
theorem gl1 (a0 : Dat) (t : Ty) (x : List t.den) (l : List Dat) : gl t (a0 :: .l t x :: l) 1 = x := by simp [gl, castL_self]
theorem gn2 (a0 : Dat) (a1 : Dat) (x : Int) (l : List Dat) : gn (a0 :: a1 :: .n x :: l) 2 = x := rfl
theorem gb2 (a0 : Dat) (a1 : Dat) (x : Bool) (l : List Dat) : gb (a0 :: a1 :: .b x :: l) 2 = x := rfl
theorem gs2 (a0 : Dat) (a1 : Dat) (x : ByteArray) (l : List Dat) : gs (a0 :: a1 :: .s x :: l) 2 = x := rfl
theorem gl2 (a0 : Dat) (a1 : Dat) (t : Ty) (x : List t.den) (l : List Dat) : gl t (a0 :: a1 :: .l t x :: l) 2 = x := by simp [gl, castL_self]
theorem gn3 (a0 : Dat) (a1 : Dat) (a2 : Dat) (x : Int) (l : List Dat) : gn (a0 :: a1 :: a2 :: .n x :: l) 3 = x := rfl
theorem gb3 (a0 : Dat) (a1 : Dat) (a2 : Dat) (x : Bool) (l : List Dat) : gb (a0 :: a1 :: a2 :: .b x :: l) 3 = x := rfl
theorem gs3 (a0 : Dat) (a1 : Dat) (a2 : Dat) (x : ByteArray) (l : List Dat) : gs (a0 :: a1 :: a2 :: .s x :: l) 3 = x := rfl
theorem gl3 (a0 : Dat) (a1 : Dat) (a2 : Dat) (t : Ty) (x : List t.den) (l : List Dat) : gl t (a0 :: a1 :: a2 :: .l t x :: l) 3 = x := by simp [gl, castL_self]
theorem gn4 (a0 : Dat) (a1 : Dat) (a2 : Dat) (a3 : Dat) (x : Int) (l : List Dat) : gn (a0 :: a1 :: a2 :: a3 :: .n x :: l) 4 = x := rfl
theorem gb4 (a0 : Dat) (a1 : Dat) (a2 : Dat) (a3 : Dat) (x : Bool) (l : List Dat) : gb (a0 :: a1 :: a2 :: a3 :: .b x :: l) 4 = x := rfl
theorem gs4 (a0 : Dat) (a1 : Dat) (a2 : Dat) (a3 : Dat) (x : ByteArray) (l : List Dat) : gs (a0 :: a1 :: a2 :: a3 :: .s x :: l) 4 = x := rfl
theorem gl4 (a0 : Dat) (a1 : Dat) (a2 : Dat) (a3 : Dat) (t : Ty) (x : List t.den) (l : List Dat) : gl t (a0 :: a1 :: a2 :: a3 :: .l t x :: l) 4 = x := by simp [gl, castL_self]
theorem gn5 (a0 : Dat) (a1 : Dat) (a2 : Dat) (a3 : Dat) (a4 : Dat) (x : Int) (l : List Dat) : gn (a0 :: a1 :: a2 :: a3 :: a4 :: .n x :: l) 5 = x := rfl
theorem gb5 (a0 : Dat) (a1 : Dat) (a2 : Dat) (a3 : Dat) (a4 : Dat) (x : Bool) (l : List Dat) : gb (a0 :: a1 :: a2 :: a3 :: a4 :: .b x :: l) 5 = x := rfl
theorem gs5 (a0 : Dat) (a1 : Dat) (a2 : Dat) (a3 : Dat) (a4 : Dat) (x : ByteArray) (l : List Dat) : gs (a0 :: a1 :: a2 :: a3 :: a4 :: .s x :: l) 5 = x := rfl
theorem gl5 (a0 : Dat) (a1 : Dat) (a2 : Dat) (a3 : Dat) (a4 : Dat) (t : Ty) (x : List t.den) (l : List Dat) : gl t (a0 :: a1 :: a2 :: a3 :: a4 :: .l t x :: l) 5 = x := by simp [gl, castL_self]
theorem gn6 (a0 : Dat) (a1 : Dat) (a2 : Dat) (a3 : Dat) (a4 : Dat) (a5 : Dat) (x : Int) (l : List Dat) : gn (a0 :: a1 :: a2 :: a3 :: a4 :: a5 :: .n x :: l) 6 = x := rfl
theorem gb6 (a0 : Dat) (a1 : Dat) (a2 : Dat) (a3 : Dat) (a4 : Dat) (a5 : Dat) (x : Bool) (l : List Dat) : gb (a0 :: a1 :: a2 :: a3 :: a4 :: a5 :: .b x :: l) 6 = x := rfl
theorem gs6 (a0 : Dat) (a1 : Dat) (a2 : Dat) (a3 : Dat) (a4 : Dat) (a5 : Dat) (x : ByteArray) (l : List Dat) : gs (a0 :: a1 :: a2 :: a3 :: a4 :: a5 :: .s x :: l) 6 = x := rfl
theorem gl6 (a0 : Dat) (a1 : Dat) (a2 : Dat) (a3 : Dat) (a4 : Dat) (a5 : Dat) (t : Ty) (x : List t.den) (l : List Dat) : gl t (a0 :: a1 :: a2 :: a3 :: a4 :: a5 :: .l t x :: l) 6 = x := by simp [gl, castL_self]
theorem gn7 (a0 : Dat) (a1 : Dat) (a2 : Dat) (a3 : Dat) (a4 : Dat) (a5 : Dat) (a6 : Dat) (x : Int) (l : List Dat) : gn (a0 :: a1 :: a2 :: a3 :: a4 :: a5 :: a6 :: .n x :: l) 7 = x := rfl
theorem gb7 (a0 : Dat) (a1 : Dat) (a2 : Dat) (a3 : Dat) (a4 : Dat) (a5 : Dat) (a6 : Dat) (x : Bool) (l : List Dat) : gb (a0 :: a1 :: a2 :: a3 :: a4 :: a5 :: a6 :: .b x :: l) 7 = x := rfl
theorem gs7 (a0 : Dat) (a1 : Dat) (a2 : Dat) (a3 : Dat) (a4 : Dat) (a5 : Dat) (a6 : Dat) (x : ByteArray) (l : List Dat) : gs (a0 :: a1 :: a2 :: a3 :: a4 :: a5 :: a6 :: .s x :: l) 7 = x := rfl
theorem gl7 (a0 : Dat) (a1 : Dat) (a2 : Dat) (a3 : Dat) (a4 : Dat) (a5 : Dat) (a6 : Dat) (t : Ty) (x : List t.den) (l : List Dat) : gl t (a0 :: a1 :: a2 :: a3 :: a4 :: a5 :: a6 :: .l t x :: l) 7 = x := by simp [gl, castL_self]
/-! ### Data of numbers are numbers -/
def ofI {k : IntKind} (b : List Int) : List (Ty.den (.int k)) := b
section
variable {k : IntKind}
theorem den_len (b : List Int) : List.length (ofI (k := k) b) = b.length := rfl
theorem den_getD (b : List Int) (i : Nat) : List.getD (ofI (k := k) b) i (0 : Int) = b.getD i 0 := rfl
theorem den_set (b : List Int) (i : Nat) (v : Int) : List.set (ofI (k := k) b) i v = ofI (k := k) (b.set i v) := rfl
theorem den_take (b : List Int) (i : Nat) : List.take i (ofI (k := k) b) = ofI (k := k) (b.take i) := rfl
theorem den_drop (b : List Int) (i : Nat) : List.drop i (ofI (k := k) b) = ofI (k := k) (b.drop i) := rfl
theorem den_rep (n : Nat) (v : Int) : (List.replicate n v : List (Ty.den (.int k))) = ofI (k := k) (List.replicate n v) := rfl
theorem den_app (a b : List Int) : (ofI (k := k) a ++ ofI (k := k) b) = ofI (k := k) (a ++ b) := rfl
theorem den_app2 (a b : List Int) : HAppend.hAppend (ofI (k := k) a) b = ofI (k := k) (a ++ b) := rfl
theorem den_getD2 (b : List Int) (i : Nat) (d : Int) : @List.getD Int (ofI (k := k) b) i d = b.getD i d := rfl
theorem den_len2 (b : List Int) : @List.length Int (ofI (k := k) b) = b.length := rfl
theorem den_set2 (b : List Int) (i : Nat) (v : Int) : @List.set Int (ofI (k := k) b) i v = b.set i v := rfl
theorem den_take2 (b : List Int) (i : Nat) : @List.take Int i (ofI (k := k) b) = b.take i := rfl
theorem den_drop2 (b : List Int) (i : Nat) : @List.drop Int i (ofI (k := k) b) = b.drop i := rfl
theorem den_setlen (b : List Int) (i : Nat) (v : Int) : @List.length (Ty.den (.int k)) (@List.set (Ty.den (.int k)) (ofI (k := k) b) i v) = b.length := List.length_set
theorem den_setlen2 (b : List Int) (i : Nat) (v : Int) : @List.length Int (@List.set (Ty.den (.int k)) (ofI (k := k) b) i v) = b.length := List.length_set
theorem den_setlen3 (b : List Int) (i : Nat) (v : Int) : @List.length (Ty.den (.int k)) (@List.set Int (ofI (k := k) b) i v) = b.length := List.length_set
theorem den_setlen4 (b : List Int) (i : Nat) (v : Int) : @List.length Int (@List.set Int (ofI (k := k) b) i v) = b.length := List.length_set
theorem den_setget (b : List Int) (i j : Nat) (v d : Int) : @List.getD Int (@List.set (Ty.den (.int k)) (ofI (k := k) b) i v) j d = (b.set i v).getD j d := rfl
theorem den_nil : ([] : List (Ty.den (.int k))) = ofI (k := k) [] := rfl
end
theorem iter_go {st : List Dat → Tree Step} {n : Nat} {env env' : List Dat} (h : (st env).sel = some (.go env')) : iterS st (n + 1) env = iterS st n env' := by
  simp only [iterS, h]
theorem iter_stop {st : List Dat → Tree Step} {n k : Nat} {env d : List Dat} (h : (st env).sel = some (.stop k d)) : iterS st (n + 1) env = some (k, d) := by
  simp only [iterS, h]
/-- A loop that counts: from each state to the next one, m rounds in all. -/
theorem iter_count {st : List Dat → Tree Step} (s : Nat → List Dat) (m : Nat) (y : Nat × List Dat) (go : ∀ i, i < m → (st (s i)).sel = some (.go (s (i + 1)))) (stop : (st (s m)).sel = some (.stop y.1 y.2)) :
    ∀ fuel, m < fuel → iterS st fuel (s 0) = some y := by
  have key : ∀ d i, d + i = m → ∀ fuel, d < fuel → iterS st fuel (s i) = some y := by
    intro d
    induction d with
    | zero =>
      intro i hi fuel hf
      have : i = m := by omega
      subst this
      obtain ⟨f, rfl⟩ : ∃ f, fuel = f + 1 := ⟨fuel - 1, by omega⟩
      exact iter_stop stop
    | succ d ih =>
      intro i hi fuel hf
      obtain ⟨f, rfl⟩ : ∃ f, fuel = f + 1 := ⟨fuel - 1, by omega⟩
      rw [iter_go (go i (by omega))]
      exact ih (i + 1) (by omega) f (by omega)
  exact key m 0 rfl
theorem lt_FU {m : Nat} (h : m ≤ 9223372036854775807) : m < FU := by unfold FU; omega
/-! ### Numbers of some bits -/
theorem ofInt_nat {w : Nat} (x : BitVec w) : BitVec.ofInt w (x.toNat : Int) = x := by
  apply BitVec.eq_of_toNat_eq
  have h := x.isLt
  rw [BitVec.toNat_ofInt]
  have : ((x.toNat : Int) % ((2 ^ w : Nat) : Int)) = x.toNat := by
    rw [← Int.natCast_emod, Nat.mod_eq_of_lt h]
  rw [this]; rfl
/-- The number of bits. -/
def N {w : Nat} (x : BitVec w) : Int := (x.toNat : Int)
theorem N_inj {w : Nat} {x y : BitVec w} (h : N x = N y) : x = y := BitVec.eq_of_toNat_eq (by unfold N at h; omega)
theorem N_eq {w : Nat} {x y : BitVec w} : N x = N y ↔ x = y := ⟨N_inj, fun h => by rw [h]⟩
theorem N_beq {w : Nat} (x y : BitVec w) : (N x == N y) = (x == y) := by
  rw [Bool.eq_iff_iff]; simp [N_eq]
theorem N_lt {w : Nat} (x y : BitVec w) : N x < N y ↔ x < y := by unfold N; rw [BitVec.lt_def]; omega
theorem N_of {w : Nat} {n : Int} (h0 : 0 ≤ n) (h1 : n < 2 ^ w) : N (BitVec.ofInt w n) = n := by
  unfold N
  rw [BitVec.toNat_ofInt]
  have : n % ((2 ^ w : Nat) : Int) = n := Int.emod_eq_of_lt h0 (by push_cast; exact h1)
  rw [this]; omega
theorem toNat_shr {w : Nat} (x : BitVec w) (k : Nat) : (x >>> k).toNat = x.toNat / 2 ^ min k w := by
  rw [BitVec.toNat_ushiftRight, Nat.shiftRight_eq_div_pow]
  rcases Nat.le_total k w with h | h
  · rw [Nat.min_eq_left h]
  · rw [Nat.min_eq_right h]
    have h1 := x.isLt
    rw [Nat.div_eq_of_lt h1, Nat.div_eq_of_lt (Nat.lt_of_lt_of_le h1 (Nat.pow_le_pow_right (by omega) h))]
theorem toNat_shl {w : Nat} (x : BitVec w) (k : Nat) : (x <<< k).toNat = x.toNat * 2 ^ min k w % 2 ^ w := by
  rw [BitVec.toNat_shiftLeft, Nat.shiftLeft_eq]
  rcases Nat.le_total k w with h | h
  · rw [Nat.min_eq_left h]
  · rw [Nat.min_eq_right h, Nat.mul_mod_left]
    obtain ⟨d, rfl⟩ := Nat.exists_eq_add_of_le h
    rw [Nat.pow_add, ← Nat.mul_assoc, Nat.mul_right_comm, Nat.mul_mod_left]
theorem pow_cast (k : Nat) : ((2 : Int) ^ k) = ((2 ^ k : Nat) : Int) := by push_cast; rfl
theorem fdiv_nat (a b : Nat) : (a : Int).fdiv (b : Int) = ((a / b : Nat) : Int) := by
  cases b with
  | zero => simp
  | succ b => rw [Int.fdiv_eq_ediv_of_nonneg _ (by omega)]; rfl

theorem wrap_u8 (x : BitVec 8) : IntKind.wrap .u8 (N x) = N x := by
  have h := x.isLt
  unfold N
  exact IntWalk.u8_in _ ⟨by omega, by omega⟩
theorem wrapN_u8 (n : Int) : IntKind.wrap .u8 n = N (BitVec.ofInt 8 n) := by
  unfold N
  rw [IntKind.wrap_u8, BitVec.toNat_ofInt]
  omega
theorem ixor_u8 (x y : BitVec 8) : ixor .u8 (N x) (N y) = N (x ^^^ y) := by
  have := wrap_u8 (x ^^^ y)
  unfold ixor
  show IntKind.wrap .u8 ((BitVec.ofInt 8 (N x) ^^^ BitVec.ofInt 8 (N y)).toNat : Int) = _
  unfold N at *
  rw [ofInt_nat, ofInt_nat, this]
theorem iand_u8 (x y : BitVec 8) : iand .u8 (N x) (N y) = N (x &&& y) := by
  have := wrap_u8 (x &&& y)
  unfold iand
  show IntKind.wrap .u8 ((BitVec.ofInt 8 (N x) &&& BitVec.ofInt 8 (N y)).toNat : Int) = _
  unfold N at *
  rw [ofInt_nat, ofInt_nat, this]
theorem ior_u8 (x y : BitVec 8) : ior .u8 (N x) (N y) = N (x ||| y) := by
  have := wrap_u8 (x ||| y)
  unfold ior
  show IntKind.wrap .u8 ((BitVec.ofInt 8 (N x) ||| BitVec.ofInt 8 (N y)).toNat : Int) = _
  unfold N at *
  rw [ofInt_nat, ofInt_nat, this]
theorem iandnot_u8 (x y : BitVec 8) : iandnot .u8 (N x) (N y) = N (x &&& ~~~y) := by
  have := wrap_u8 (x &&& ~~~y)
  unfold iandnot
  show IntKind.wrap .u8 ((BitVec.ofInt 8 (N x) &&& ~~~(BitVec.ofInt 8 (N y))).toNat : Int) = _
  unfold N at *
  rw [ofInt_nat, ofInt_nat, this]
theorem ishr_u8 (x : BitVec 8) (m : Nat) : ishr .u8 (N x) (m : Int) = N (x >>> m) := by
  unfold ishr N
  show (x.toNat : Int).fdiv (2 ^ min m 8) = _
  rw [toNat_shr, pow_cast, fdiv_nat]
theorem ishl_u8 (x : BitVec 8) (m : Nat) : ishl .u8 (N x) (m : Int) = N (x <<< m) := by
  unfold ishl
  show IntKind.wrap .u8 (N x * 2 ^ min m 8) = _
  have h : N x * 2 ^ min m 8 = ((x.toNat * 2 ^ min m 8 : Nat) : Int) := by unfold N; push_cast; rfl
  rw [h, IntKind.wrap_u8]
  unfold N
  rw [toNat_shl, Int.natCast_emod]
  rfl

theorem wrap_u16 (x : BitVec 16) : IntKind.wrap .u16 (N x) = N x := by
  have h := x.isLt
  unfold N
  exact IntWalk.u16_in _ ⟨by omega, by omega⟩
theorem wrapN_u16 (n : Int) : IntKind.wrap .u16 n = N (BitVec.ofInt 16 n) := by
  unfold N
  rw [IntKind.wrap_u16, BitVec.toNat_ofInt]
  omega
theorem ixor_u16 (x y : BitVec 16) : ixor .u16 (N x) (N y) = N (x ^^^ y) := by
  have := wrap_u16 (x ^^^ y)
  unfold ixor
  show IntKind.wrap .u16 ((BitVec.ofInt 16 (N x) ^^^ BitVec.ofInt 16 (N y)).toNat : Int) = _
  unfold N at *
  rw [ofInt_nat, ofInt_nat, this]
theorem iand_u16 (x y : BitVec 16) : iand .u16 (N x) (N y) = N (x &&& y) := by
  have := wrap_u16 (x &&& y)
  unfold iand
  show IntKind.wrap .u16 ((BitVec.ofInt 16 (N x) &&& BitVec.ofInt 16 (N y)).toNat : Int) = _
  unfold N at *
  rw [ofInt_nat, ofInt_nat, this]
theorem ior_u16 (x y : BitVec 16) : ior .u16 (N x) (N y) = N (x ||| y) := by
  have := wrap_u16 (x ||| y)
  unfold ior
  show IntKind.wrap .u16 ((BitVec.ofInt 16 (N x) ||| BitVec.ofInt 16 (N y)).toNat : Int) = _
  unfold N at *
  rw [ofInt_nat, ofInt_nat, this]
theorem iandnot_u16 (x y : BitVec 16) : iandnot .u16 (N x) (N y) = N (x &&& ~~~y) := by
  have := wrap_u16 (x &&& ~~~y)
  unfold iandnot
  show IntKind.wrap .u16 ((BitVec.ofInt 16 (N x) &&& ~~~(BitVec.ofInt 16 (N y))).toNat : Int) = _
  unfold N at *
  rw [ofInt_nat, ofInt_nat, this]
theorem ishr_u16 (x : BitVec 16) (m : Nat) : ishr .u16 (N x) (m : Int) = N (x >>> m) := by
  unfold ishr N
  show (x.toNat : Int).fdiv (2 ^ min m 16) = _
  rw [toNat_shr, pow_cast, fdiv_nat]
theorem ishl_u16 (x : BitVec 16) (m : Nat) : ishl .u16 (N x) (m : Int) = N (x <<< m) := by
  unfold ishl
  show IntKind.wrap .u16 (N x * 2 ^ min m 16) = _
  have h : N x * 2 ^ min m 16 = ((x.toNat * 2 ^ min m 16 : Nat) : Int) := by unfold N; push_cast; rfl
  rw [h, IntKind.wrap_u16]
  unfold N
  rw [toNat_shl, Int.natCast_emod]
  rfl

theorem wrap_u32 (x : BitVec 32) : IntKind.wrap .u32 (N x) = N x := by
  have h := x.isLt
  unfold N
  exact IntWalk.u32_in _ ⟨by omega, by omega⟩
theorem wrapN_u32 (n : Int) : IntKind.wrap .u32 n = N (BitVec.ofInt 32 n) := by
  unfold N
  rw [IntKind.wrap_u32, BitVec.toNat_ofInt]
  omega
theorem ixor_u32 (x y : BitVec 32) : ixor .u32 (N x) (N y) = N (x ^^^ y) := by
  have := wrap_u32 (x ^^^ y)
  unfold ixor
  show IntKind.wrap .u32 ((BitVec.ofInt 32 (N x) ^^^ BitVec.ofInt 32 (N y)).toNat : Int) = _
  unfold N at *
  rw [ofInt_nat, ofInt_nat, this]
theorem iand_u32 (x y : BitVec 32) : iand .u32 (N x) (N y) = N (x &&& y) := by
  have := wrap_u32 (x &&& y)
  unfold iand
  show IntKind.wrap .u32 ((BitVec.ofInt 32 (N x) &&& BitVec.ofInt 32 (N y)).toNat : Int) = _
  unfold N at *
  rw [ofInt_nat, ofInt_nat, this]
theorem ior_u32 (x y : BitVec 32) : ior .u32 (N x) (N y) = N (x ||| y) := by
  have := wrap_u32 (x ||| y)
  unfold ior
  show IntKind.wrap .u32 ((BitVec.ofInt 32 (N x) ||| BitVec.ofInt 32 (N y)).toNat : Int) = _
  unfold N at *
  rw [ofInt_nat, ofInt_nat, this]
theorem iandnot_u32 (x y : BitVec 32) : iandnot .u32 (N x) (N y) = N (x &&& ~~~y) := by
  have := wrap_u32 (x &&& ~~~y)
  unfold iandnot
  show IntKind.wrap .u32 ((BitVec.ofInt 32 (N x) &&& ~~~(BitVec.ofInt 32 (N y))).toNat : Int) = _
  unfold N at *
  rw [ofInt_nat, ofInt_nat, this]
theorem ishr_u32 (x : BitVec 32) (m : Nat) : ishr .u32 (N x) (m : Int) = N (x >>> m) := by
  unfold ishr N
  show (x.toNat : Int).fdiv (2 ^ min m 32) = _
  rw [toNat_shr, pow_cast, fdiv_nat]
theorem ishl_u32 (x : BitVec 32) (m : Nat) : ishl .u32 (N x) (m : Int) = N (x <<< m) := by
  unfold ishl
  show IntKind.wrap .u32 (N x * 2 ^ min m 32) = _
  have h : N x * 2 ^ min m 32 = ((x.toNat * 2 ^ min m 32 : Nat) : Int) := by unfold N; push_cast; rfl
  rw [h, IntKind.wrap_u32]
  unfold N
  rw [toNat_shl, Int.natCast_emod]
  rfl

theorem wrap_u64 (x : BitVec 64) : IntKind.wrap .u64 (N x) = N x := by
  have h := x.isLt
  unfold N
  exact IntWalk.u64_in _ ⟨by omega, by omega⟩
theorem wrapN_u64 (n : Int) : IntKind.wrap .u64 n = N (BitVec.ofInt 64 n) := by
  unfold N
  rw [IntKind.wrap_u64, BitVec.toNat_ofInt]
  omega
theorem ixor_u64 (x y : BitVec 64) : ixor .u64 (N x) (N y) = N (x ^^^ y) := by
  have := wrap_u64 (x ^^^ y)
  unfold ixor
  show IntKind.wrap .u64 ((BitVec.ofInt 64 (N x) ^^^ BitVec.ofInt 64 (N y)).toNat : Int) = _
  unfold N at *
  rw [ofInt_nat, ofInt_nat, this]
theorem iand_u64 (x y : BitVec 64) : iand .u64 (N x) (N y) = N (x &&& y) := by
  have := wrap_u64 (x &&& y)
  unfold iand
  show IntKind.wrap .u64 ((BitVec.ofInt 64 (N x) &&& BitVec.ofInt 64 (N y)).toNat : Int) = _
  unfold N at *
  rw [ofInt_nat, ofInt_nat, this]
theorem ior_u64 (x y : BitVec 64) : ior .u64 (N x) (N y) = N (x ||| y) := by
  have := wrap_u64 (x ||| y)
  unfold ior
  show IntKind.wrap .u64 ((BitVec.ofInt 64 (N x) ||| BitVec.ofInt 64 (N y)).toNat : Int) = _
  unfold N at *
  rw [ofInt_nat, ofInt_nat, this]
theorem iandnot_u64 (x y : BitVec 64) : iandnot .u64 (N x) (N y) = N (x &&& ~~~y) := by
  have := wrap_u64 (x &&& ~~~y)
  unfold iandnot
  show IntKind.wrap .u64 ((BitVec.ofInt 64 (N x) &&& ~~~(BitVec.ofInt 64 (N y))).toNat : Int) = _
  unfold N at *
  rw [ofInt_nat, ofInt_nat, this]
theorem ishr_u64 (x : BitVec 64) (m : Nat) : ishr .u64 (N x) (m : Int) = N (x >>> m) := by
  unfold ishr N
  show (x.toNat : Int).fdiv (2 ^ min m 64) = _
  rw [toNat_shr, pow_cast, fdiv_nat]
theorem ishl_u64 (x : BitVec 64) (m : Nat) : ishl .u64 (N x) (m : Int) = N (x <<< m) := by
  unfold ishl
  show IntKind.wrap .u64 (N x * 2 ^ min m 64) = _
  have h : N x * 2 ^ min m 64 = ((x.toNat * 2 ^ min m 64 : Nat) : Int) := by unfold N; push_cast; rfl
  rw [h, IntKind.wrap_u64]
  unfold N
  rw [toNat_shl, Int.natCast_emod]
  rfl
end Go.Proofs.Ytdaabhpeedekaaa.Vx
