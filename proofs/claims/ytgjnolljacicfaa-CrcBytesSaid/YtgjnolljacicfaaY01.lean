import Derived.Test.YtgjnolljacicfaaX01
import Derived.Test.YtgjnolljacicfaaY01m
namespace Go.Proofs.Ytgjnolljacicfaa.Vx
open Go Go.RowKit
set_option linter.unusedVariables false
set_option maxRecDepth 100000
theorem bit0 (x : BitVec 32) : (N (x &&& 1#32) == 0) = !x.getLsbD 0 := by
  rw [show (0 : Int) = N 0#32 from rfl, N_beq, Bool.eq_iff_iff]
  simp only [beq_iff_eq, Bool.not_eq_true']
  constructor
  · intro h
    have := congrArg (fun v => v.getLsbD 0) h
    simpa using this
  · intro h
    apply BitVec.eq_of_getLsbD_eq
    intro i hi
    by_cases h0 : i = 0
    · subst h0; rw [BitVec.getLsbD_and, h]; simp
    · simp [h0]
theorem t19 (x : BitVec 32) : op_19 [.n (N x)] = some (0, [.n (N (dn x))]) := by
  show (fn_19 [.n (N x)]).sel = _
  simp only [fn_19]
  have e : iand IntKind.u32 (N x) 1 = N (x &&& 1#32) := iand_u32 x 1#32
  have e1 : ishr IntKind.u32 (N x) 1 = N (x >>> 1) := ishr_u32 x 1
  have e2 : ixor IntKind.u32 (N (x >>> 1)) 3988292384 = N ((x >>> 1) ^^^ last32) := ixor_u32 (x >>> 1) last32
  rw [selB, e, e1, e2, bit0]
  unfold dn
  cases x.getLsbD 0
  · simp [Tree.sel]
  · simp [Tree.sel]
theorem t21 (x : BitVec 32) : op_21 [.n (N x)] = some (0, [.n (N (up x))]) := by
  show (fn_21 [.n (N x)]).sel = _
  simp only [fn_21]
  have e1 : ishl IntKind.u32 (N x) 1 = N (x <<< 1) := ishl_u32 x 1
  have e2 : ixor IntKind.u32 (N x) 3988292384 = N (x ^^^ last32) := ixor_u32 x last32
  have e3 : ishl IntKind.u32 (N (x ^^^ last32)) 1 = N ((x ^^^ last32) <<< 1) := ishl_u32 _ 1
  have e4 : ior IntKind.u32 (N ((x ^^^ last32) <<< 1)) 1 = N ((x ^^^ last32) <<< 1 ||| 1#32) := ior_u32 _ 1#32
  have c : decide (N x < 2147483648) = !x.getLsbD 31 := by
    have h := x.isLt
    rw [Bool.eq_iff_iff]
    simp only [decide_eq_true_eq, Bool.not_eq_true']
    have : x.getLsbD 31 = decide (2147483648 ≤ x.toNat) := by
      rw [← BitVec.msb_eq_getLsbD_last (x := x), BitVec.msb_eq_decide]
    rw [this, decide_eq_false_iff_not]
    unfold N
    omega
  rw [selB, e1, e2, e3, e4, c]
  unfold up
  cases x.getLsbD 31
  · simp [Tree.sel]
  · simp [Tree.sel]
theorem isK1 (x : Int) : isK 0 [HK.n] (some (0, [.n x])) = true := rfl
theorem len_ok {n : Nat} {i : Nat} (h : i < n) (hn : n ≤ 9223372036854775807) : IntKind.wrap .i64 ((i : Int) + 1) = ((i + 1 : Nat) : Int) := by
  rw [w64 (by omega) (by omega)]; omega
/-- The number behind some bytes. -/
theorem t12L (b : List Int) (hb : b.length ≤ 9223372036854775807) : op_L12_3 [.n (N 0xFFFFFFFF#32), .l TB (ofI b), .n b.length, .n ((0 : Nat) : Int)] = some (0, [.n (N (go 0xFFFFFFFF#32 b))]) := by
  refine iter_count (st := fn_L12_3) (fun i => [.n (N (go 0xFFFFFFFF#32 (b.take i))), .l TB (ofI b), .n b.length, .n (i : Int)]) b.length (0, [.n (N (go 0xFFFFFFFF#32 b))]) ?_ ?_ FU (lt_FU hb)
  · intro i hi
    simp only [fn_L12_3, den_len, den_getD2]
    refine (selT (dt (by omega))).trans ((selT (inR_true (by omega) (by omega))).trans ?_)
    simp only [wrapN_u32, ixor_u32, t19, dOf_some, gn0, isK1, cond_true, len_ok hi hb, Tree.sel]
    rw [take_getD (d := (0 : Int)) hi, go_append]
    rfl
  · rw [List.take_length]
    simp only [fn_L12_3, den_len]
    exact selF (df (Int.lt_irrefl _))
def Sm (b : List Int) : BitVec 32 := 0xFFFFFFFF#32 ^^^ go 0xFFFFFFFF#32 b
theorem t12 (b : List Int) (hb : b.length ≤ 9223372036854775807) : op_12 [.l TB (ofI b)] = some (0, [.n (N (Sm b))]) := by
  show (fn_12 [.l TB (ofI b)]).sel = _
  have e' : op_L12_3 [.n 4294967295, .l TB (ofI b), .n b.length, .n 0] = some (0, [.n (N (go 0xFFFFFFFF#32 b))]) := t12L b hb
  simp only [fn_12, den_len]
  rw [e']
  simp only [dOf_some, gn0, isK1, cond_true, Tree.sel]
  have := ixor_u32 0xFFFFFFFF#32 (go 0xFFFFFFFF#32 b)
  rw [show (4294967295 : Int) = N 0xFFFFFFFF#32 from rfl, this]
  rfl
/-- Change. -/
theorem isK2b (x : Int) (y : Bool) : isK 0 [HK.n, HK.b] (some (0, [.n x, .b y])) = true := rfl
theorem isK2n (x y : Int) : isK 0 [HK.n, HK.n] (some (0, [.n x, .n y])) = true := rfl
theorem t14L (s u : BitVec 32) (m : Nat) (hm : m ≤ 65537) : op_L14_5 [.n (N s), .n (N u), .n (m : Int), .n ((0 : Nat) : Int)] = some (0, [.n (N s), .n (N (dnN (8 * m) u))]) := by
  refine iter_count (st := fn_L14_5) (fun i => [.n (N s), .n (N (dnN (8 * i) u)), .n (m : Int), .n (i : Int)]) m (0, [.n (N s), .n (N (dnN (8 * m) u))]) ?_ ?_ FU (lt_FU (by omega))
  · intro i hi
    simp only [fn_L14_5]
    refine (selT (dt (by omega))).trans ?_
    simp only [t19, dOf_some, gn0, isK1, cond_true, len_ok hi (by omega : m ≤ 9223372036854775807), Tree.sel]
    rw [show 8 * (i + 1) = 8 * i + 8 by omega, dnN_add]
    rfl
  · simp only [fn_L14_5]
    exact selF (df (Int.lt_irrefl _))
/-- What a byte's change does, so many bytes ahead of the end. -/
def chg (d : BitVec 8) (k : Nat) : BitVec 32 := dnN (8 * (k + 1)) (d.setWidth 32)
theorem ofInt_N8 (d : BitVec 8) : BitVec.ofInt 32 (N d) = d.setWidth 32 := by
  apply BitVec.eq_of_toNat_eq
  rw [BitVec.toNat_setWidth, BitVec.toNat_ofInt]
  unfold N
  omega
theorem t14 (s : BitVec 32) (a c : BitVec 8) (k : Nat) (hk : k ≤ 65536) : op_14 [.n (N s), .n (N a), .n (N c), .n (k : Int)] = some (0, [.n (N (s ^^^ chg (a ^^^ c) k)), .b true]) := by
  show (fn_14 [.n (N s), .n (N a), .n (N c), .n (k : Int)]).sel = _
  simp only [fn_14]
  refine (selF (df (by omega))).trans ((selF (df (by omega))).trans ?_)
  have e := t14L s ((a ^^^ c).setWidth 32) (k + 1) (by omega)
  have e0 : IntKind.wrap .i64 ((k : Int) + 1) = ((k + 1 : Nat) : Int) := by rw [w64 (by omega) (by omega)]; omega
  rw [ixor_u8, wrapN_u32, ofInt_N8, e0]
  rw [show op_L14_5 [.n (N s), .n (N ((a ^^^ c).setWidth 32)), .n ((k + 1 : Nat) : Int), .n 0] = _ from e]
  simp only [dOf_some, gn0, gn1, isK2n, ixor_u32, Tree.sel, cond_true]
  rfl
theorem t14n (s a c k : Int) (hk : k < 0 ∨ k > 65536) : op_14 [.n s, .n a, .n c, .n k] = some (0, [.n 0, .b false]) := by
  show (fn_14 [.n s, .n a, .n c, .n k]).sel = _
  simp only [fn_14]
  by_cases h : k < 0
  · exact selT (dt h)
  · exact (selF (df h)).trans (selT (dt (by omega)))
/-- The table's row. -/
theorem bitk (u : BitVec 8) (k : Nat) : (iand IntKind.u8 (ishr IntKind.u8 (N u) (k : Int)) 1 == 1) = u.getLsbD k := by
  rw [ishr_u8, show (1 : Int) = N 1#8 from rfl, iand_u8, N_beq, Bool.eq_iff_iff]
  simp only [beq_iff_eq]
  constructor
  · intro h
    have := congrArg (fun v => v.getLsbD 0) h
    simpa using this
  · intro h
    apply BitVec.eq_of_getLsbD_eq
    intro i hi
    by_cases h0 : i = 0
    · subst h0; rw [BitVec.getLsbD_and, BitVec.getLsbD_ushiftRight]; simp [h]
    · rw [BitVec.getLsbD_and]; simp [h0]
theorem isK4 (x y : Int) (l m : List Int) : isK 0 [HK.n, HK.l TB, HK.n, HK.l TN] (some (0, [.n x, .l TB (ofI l), .n y, .l TN (ofI m)])) = true := rfl
theorem e8_in (k : Nat) (hk : k < 8) : List.getD E8 k 0 = N (BitVec.ofInt 32 (List.getD E8 k 0)) := by
  rcases k with _ | _ | _ | _ | _ | _ | _ | _ | k <;> first | rfl | omega
theorem t20L (n : BitVec 32) (b : List Int) (i : Int) (u : BitVec 8) : op_L20_8 [.k 0, .n (N n), .l TB (ofI b), .n i, .n (N u), .n ((0 : Nat) : Int), .l TN (ofI E8)] = some (0, [.n (N (n ^^^ tab u 8)), .l TB (ofI b), .n i, .l TN (ofI E8)]) := by
  have := iter_count (st := fn_L20_8) (fun k => [.k 0, .n (N (n ^^^ tab u k)), .l TB (ofI b), .n i, .n (N u), .n (k : Int), .l TN (ofI E8)]) 8 (0, [.n (N (n ^^^ tab u 8)), .l TB (ofI b), .n i, .l TN (ofI E8)]) ?_ ?_ FU (by unfold FU; omega)
  · simp only [tab, BitVec.xor_zero] at this
    simp only [tab]
    exact this
  · intro k hk
    simp only [fn_L20_8, fn_L20_8_0, den_len, den_getD2]
    refine (selT (dt (by omega))).trans ((selT (nf (df (by omega)))).trans ?_)
    rw [selB, bitk]
    have e0 : IntKind.wrap .i64 ((k : Int) + 1) = ((k + 1 : Nat) : Int) := by rw [w64 (by omega) (by omega)]; omega
    cases h : u.getLsbD k with
    | true =>
      refine (selT (inR_true (by omega) (by show (k : Int) < ((8 : Nat) : Int); omega))).trans ?_
      rw [e0, show ((k : Int)).toNat = k from rfl, e8_in k hk, ixor_u32]
      simp only [tab, h, if_true, Tree.sel, BitVec.xor_assoc]
    | false =>
      rw [e0]
      simp only [tab, h, Bool.false_eq_true, if_false, Tree.sel, cond_false, BitVec.xor_zero]
  · simp only [fn_L20_8, fn_L20_8_0]
    exact selF (df (by omega))
theorem t20M (n : BitVec 32) (b : List Int) (hb : b.length ≤ 9223372036854775807) (hr : ∀ x ∈ b, 0 ≤ x ∧ x < 256) : op_L20_3 [.k 0, .n (N n), .l TB (ofI b), .n ((0 : Nat) : Int), .l TN (ofI E8)] = some (0, [.n (N (go n b))]) := by
  refine iter_count (st := fn_L20_3) (fun i => [.k 0, .n (N (go n (b.take i))), .l TB (ofI b), .n (i : Int), .l TN (ofI E8)]) b.length (0, [.n (N (go n b))]) ?_ ?_ FU (lt_FU hb)
  · intro i hi
    simp only [fn_L20_3, fn_L20_3_0, den_len, den_getD2]
    refine (selT (dt (by omega))).trans ((selT (inR_true (by omega) (by omega))).trans ?_)
    have hx := hr _ (getD_mem (d := (0 : Int)) hi)
    rw [show ((i : Int)).toNat = i from rfl]
    have ex : List.getD b i 0 = N (BitVec.ofInt 8 (List.getD b i 0)) := (N_of hx.1 hx.2).symm
    have e8 : ishr IntKind.u32 (N (go n (b.take i))) 8 = N (go n (b.take i) >>> 8) := ishr_u32 _ 8
    rw [e8, wrapN_u8, ofInt_low, ex, ixor_u8]
    rw [show op_L20_8 [.k 0, .n (N (go n (b.take i) >>> 8)), .l TB (ofI b), .n (i : Int), .n (N ((go n (b.take i)).setWidth 8 ^^^ BitVec.ofInt 8 (List.getD b i 0))), .n 0, .l TN (ofI E8)] = _ from t20L _ _ _ _]
    simp only [dOf_some, gn0, gn2, gl1, gl3, isK4, selB, cond_true, len_ok hi hb, Tree.sel]
    rw [take_getD (d := (0 : Int)) hi, go_append, go_cons, go_nil, byte_in _ hx.1 hx.2]
  · rw [List.take_length]
    simp only [fn_L20_3, fn_L20_3_0, den_len]
    exact selF (df (Int.lt_irrefl _))
theorem t13 (b : List Int) (hb : b.length ≤ 9223372036854775807) (hr : ∀ x ∈ b, 0 ≤ x ∧ x < 256) : op_13 [.l TB (ofI b)] = some (0, [.n (N (Sm b))]) := by
  have e20 : op_20 [.n (N 0xFFFFFFFF#32), .l TB (ofI b)] = some (0, [.n (N (go 0xFFFFFFFF#32 b))]) := by
    show (fn_20 [.n (N 0xFFFFFFFF#32), .l TB (ofI b)]).sel = _
    have e := t20M 0xFFFFFFFF#32 b hb hr
    exact (selT (congrArg (isK 0 [HK.n]) e)).trans (congrArg (fun r => some (0, [Dat.n (gn (dOf r) 0)])) e)
  show (fn_13 [.l TB (ofI b)]).sel = _
  simp only [fn_13]
  rw [show op_20 [.n 4294967295, .l TB (ofI b)] = _ from e20]
  simp only [dOf_some, gn0, isK1, cond_true, Tree.sel]
  have := ixor_u32 0xFFFFFFFF#32 (go 0xFFFFFFFF#32 b)
  rw [show (4294967295 : Int) = N 0xFFFFFFFF#32 from rfl, this]
  rfl
end Go.Proofs.Ytgjnolljacicfaa.Vx
