import Derived.Test.YtgjnolljacicfaaY01
namespace Go.Proofs.Ytgjnolljacicfaa.Vx
open Go Go.RowKit
set_option linter.unusedVariables false
set_option linter.unusedSimpArgs false
set_option maxRecDepth 100000
theorem N8_in (a : BitVec 8) : 0 ≤ N a ∧ N a < 256 := by unfold N; have := a.isLt; omega
theorem rep_mem {n : Nat} {a : BitVec 8} : ∀ x ∈ (List.replicate n (0 : Int)).set 0 (N a), 0 ≤ x ∧ x < 256 := by
  intro x hx
  rcases List.mem_or_eq_of_mem_set hx with h | h
  · rw [(List.mem_replicate.1 h).2]; omega
  · rw [h]; exact N8_in a
theorem xor_lem (s a b d : BitVec 32) : s ^^^ (d ^^^ a) ^^^ (d ^^^ (a ^^^ b)) = s ^^^ b := by
  have e : s ^^^ (d ^^^ a) ^^^ (d ^^^ (a ^^^ b)) = s ^^^ b ^^^ (d ^^^ d) ^^^ (a ^^^ a) := by ac_rfl
  rw [e, BitVec.xor_self, BitVec.xor_self, BitVec.xor_zero, BitVec.xor_zero]
theorem t15 (s : BitVec 32) (a c : BitVec 8) (k : Nat) (hk : k ≤ 65536) : op_15 [.n (N s), .n (N a), .n (N c), .n (k : Int)] = some (0, [.n (N (s ^^^ chg (a ^^^ c) k)), .b true]) := by
  have e0 : IntKind.wrap .i64 ((k : Int) + 1) = ((k + 1 : Nat) : Int) := by rw [w64 (by omega) (by omega)]; omega
  have ea := t13 ((List.replicate (k + 1) (0 : Int)).set 0 (N a)) (by simp; omega) rep_mem
  have ec := t13 ((List.replicate (k + 1) (0 : Int)).set 0 (N c)) (by simp; omega) rep_mem
  show (fn_15 [.n (N s), .n (N a), .n (N c), .n (k : Int)]).sel = _
  simp only [fn_15]
  refine (selF (df (by omega))).trans ((selF (df (by omega))).trans ?_)
  rw [e0]
  refine (selT (by simp; omega)).trans ?_
  refine (selT (inR_true (by omega) (by show (0 : Int) < ((List.length (List.replicate (k + 1) (0 : Int)) : Nat) : Int); rw [List.length_replicate]; omega))).trans ?_
  refine (selT (congrArg (isK 0 [HK.n]) ea)).trans ((selT (congrArg (isK 0 [HK.n]) ec)).trans ?_)
  refine (congr (congrArg (fun (r q : Option (Nat × List Dat)) => some (0, [Dat.n (ixor .u32 (ixor .u32 (N s) (gn (dOf r) 0)) (gn (dOf q) 0)), Dat.b true])) ea) ec).trans ?_
  simp only [dOf_some, gn0, ixor_u32]
  unfold Sm
  have h0 : 0 < (List.replicate (k + 1) (0 : Int)).length := by simp
  have := go_set 0xFFFFFFFF#32 (l := (List.replicate (k + 1) (0 : Int)).set 0 (N a)) (i := 0) (by simp) (N c) 0
  rw [List.set_set] at this
  have ga : ((List.replicate (k + 1) (0 : Int)).set 0 (N a)).getD 0 0 = N a := by simp [List.replicate_succ]
  rw [ga, ofInt_N8, ofInt_N8, List.length_set, List.length_replicate, Nat.sub_zero, ← BitVec.setWidth_xor] at this
  rw [this, xor_lem]
  rfl
theorem t15n (s a c k : Int) (hk : k < 0 ∨ k > 65536) : op_15 [.n s, .n a, .n c, .n k] = some (0, [.n 0, .b false]) := by
  show (fn_15 [.n s, .n a, .n c, .n k]).sel = _
  simp only [fn_15]
  by_cases h : k < 0
  · exact selT (dt h)
  · exact (selF (df h)).trans (selT (dt (by omega)))
/-! ### What is found -/
theorem isK3 (x y : Int) (z : Bool) : isK 1 [HK.n, HK.n, HK.b] (some (1, [.n x, .n y, .b z])) = true := rfl
theorem isK3n (x y : Int) (z : Bool) : isK 0 [] (some (1, [.n x, .n y, .b z])) = false := rfl
theorem isK0 : isK 0 [] (some (0, [])) = true := rfl
def hitU (x : BitVec 32) (j : Nat) : Bool := decide (N (upN (8 * (j + 1)) x) < 256)
def foundU (x : BitVec 32) : Option Nat → List Dat
  | some j => [.n (j : Int), .n (N ((upN (8 * (j + 1)) x).setWidth 8)), .b true]
  | none => [.n 0, .n 0, .b false]
theorem t16L (x : BitVec 32) (m : Int) (hm : m ≤ 65536) : op_L16_5 [.n (N x), .n m, .n ((0 : Nat) : Int)] = some (match firstHit (hitU x) m.toNat with
    | some j => (1, [.n (j : Int), .n (N ((upN (8 * (j + 1)) x).setWidth 8)), .b true])
    | none => (0, [])) := by
  have step : ∀ i : Nat, i < m.toNat → (fn_L16_5 [.n (N (upN (8 * i) x)), .n m, .n (i : Int)]).sel = (Tree.node (hitU x i) (.leaf (Step.stop 1 [.n (i : Int), .n (N ((upN (8 * (i + 1)) x).setWidth 8)), .b true])) (.leaf (Step.go [.n (N (upN (8 * (i + 1)) x)), .n m, .n ((i + 1 : Nat) : Int)]))).sel := by
    intro i hi
    have e0 : IntKind.wrap .i64 ((i : Int) + 1) = ((i + 1 : Nat) : Int) := by rw [w64 (by omega) (by omega)]; omega
    have e1 : up (up (up (up (up (up (up (up (upN (8 * i) x)))))))) = upN (8 * (i + 1)) x := by rw [show 8 * (i + 1) = 8 * i + 8 by omega, upN_add]; rfl
    simp only [fn_L16_5]
    refine (selT (dt (by omega))).trans ?_
    simp only [t21, dOf_some, gn0, isK1, selB, cond_true, e0, e1, wrapN_u8, ofInt_low]
    rfl
  refine iter_find (st := fn_L16_5) (fun i => [.n (N (upN (8 * i) x)), .n m, .n (i : Int)]) m.toNat (hitU x) (fun j => (1, [.n (j : Int), .n (N ((upN (8 * (j + 1)) x).setWidth 8)), .b true])) (0, []) ?_ ?_ ?_ FU (lt_FU (by omega))
  · intro i hi hh; rw [step i hi, hh]; rfl
  · intro i hi hh; rw [step i hi, hh]; rfl
  · simp only [fn_L16_5]
    exact selF (df (by omega))
theorem t16 (x : BitVec 32) (m : Int) (hm : m ≤ 65536) (hx : x ≠ 0#32) : op_16 [.n (N x), .n m] = some (0, foundU x (firstHit (hitU x) m.toNat)) := by
  show (fn_16 [.n (N x), .n m]).sel = _
  simp only [fn_16]
  have e := t16L x m hm
  have c : (N x == 0) = false := by
    rw [show (0 : Int) = N 0#32 from rfl, N_beq]; simpa using hx
  rw [selB, c, cond_false, show imin m 65536 = m by unfold imin; rw [if_neg (by omega)]]
  rw [show op_L16_5 [.n (N x), .n m, .n 0] = _ from e]
  cases firstHit (hitU x) m.toNat with
  | none => rfl
  | some j => rfl
theorem t16z (m : Int) : op_16 [.n (N 0#32), .n m] = some (0, [.n 0, .n 0, .b false]) := rfl
/-- The eight changes by one bit. -/
def bl (j : Nat) : Nat → List Int
  | 0 => []
  | k + 1 => bl j k ++ [N (chg (1#8 <<< k) j)]
theorem bl_len (j k : Nat) : (bl j k).length = k := by induction k with
  | zero => rfl
  | succ k ih => simp [bl, ih]
theorem bl_get (j : Nat) : ∀ (n k : Nat), k < n → (bl j n).getD k 0 = N (chg (1#8 <<< k) j)
  | 0, k, h => by omega
  | n + 1, k, h => by
    unfold bl
    rcases Nat.lt_or_ge k n with q | q
    · rw [List.getD_eq_getElem?_getD, List.getElem?_append_left (by rw [bl_len]; exact q), ← List.getD_eq_getElem?_getD]
      exact bl_get j n k q
    · have : k = n := by omega
      subst this
      rw [List.getD_eq_getElem?_getD, List.getElem?_append_right (by rw [bl_len]; exact Nat.le_refl _), bl_len, Nat.sub_self]
      rfl
theorem isK4l (x y z : Int) (l : List Int) : isK 0 [HK.n, HK.n, HK.n, HK.l TN] (some (0, [.n x, .n y, .n z, .l TN (ofI l)])) = true := rfl
theorem t17a (x m : Int) (j : Nat) (hj : j ≤ 65536) : op_L17_6 [.k 0, .n x, .n m, .n (j : Int), .n ((0 : Nat) : Int), .l TN (ofI [])] = some (0, [.n x, .n m, .n (j : Int), .l TN (ofI (bl j 8))]) := by
  refine iter_count (st := fn_L17_6) (fun k => [.k 0, .n x, .n m, .n (j : Int), .n (k : Int), .l TN (ofI (bl j k))]) 8 (0, [.n x, .n m, .n (j : Int), .l TN (ofI (bl j 8))]) ?_ ?_ FU (by unfold FU; omega)
  · intro k hk
    have hl : (ofI (k := .u32) (bl j k)).length = k := bl_len j k
    simp only [fn_L17_6, fn_L17_6_0]
    refine (selT (dt (by omega))).trans ((selT (nf (df (by omega)))).trans ?_)
    have e1 : ishl .u8 1 (k : Int) = N (1#8 <<< k) := ishl_u8 1#8 k
    have e2 := t15 0#32 0#8 (1#8 <<< k) j hj
    have e0 : IntKind.wrap .i64 ((k : Int) + 1) = ((k + 1 : Nat) : Int) := by rw [w64 (by omega) (by omega)]; omega
    rw [e1, show op_15 [.n 0, .n 0, .n (N (1#8 <<< k)), .n (j : Int)] = _ from e2]
    refine (selT rfl).trans ((selT (dt (by omega))).trans ?_)
    simp only [dOf_some, gn0, e0, Tree.sel, BitVec.zero_xor]
    rfl
  · simp only [fn_L17_6, fn_L17_6_0]
    exact selF (df (by omega))
/-- What a byte of some bits does, bit by bit. -/
def sw (d : BitVec 8) : Nat → BitVec 32
  | 0 => 0#32
  | k + 1 => sw d k ^^^ (if d.getLsbD k then (1#8 <<< k).setWidth 32 else 0#32)
theorem sw_all : ∀ i : Fin 256, sw (BitVec.ofFin i) 8 = (BitVec.ofFin (w := 8) i).setWidth 32 := by decide +kernel
theorem bit64_all : ∀ (i : Fin 256) (k : Fin 8), (iand IntKind.i64 (ishr IntKind.i64 ((i.val : Nat) : Int) ((k.val : Nat) : Int)) 1 == 1) = (BitVec.ofFin (w := 8) i).getLsbD k.val := by decide +kernel
theorem bit64 (d : BitVec 8) (k : Nat) (hk : k < 8) : (iand IntKind.i64 (ishr IntKind.i64 (N d) (k : Int)) 1 == 1) = d.getLsbD k := bit64_all d.toFin ⟨k, hk⟩
def csum (j : Nat) (d : BitVec 8) (k : Nat) : BitVec 32 := dnN (8 * (j + 1)) (sw d k)
theorem csum_8 (j : Nat) (d : BitVec 8) : csum j d 8 = chg d j := by
  unfold csum chg; rw [show sw d 8 = d.setWidth 32 from sw_all d.toFin]
theorem isK6 (x y z u v : Int) (l : List Int) : isK 0 [HK.n, HK.n, HK.n, HK.n, HK.n, HK.l TN] (some (0, [.n x, .n y, .n z, .n u, .n v, .l TN (ofI l)])) = true := rfl
theorem t17b (x m : Int) (j : Nat) (d : BitVec 8) : op_L17_15 [.k 0, .n x, .n m, .n (j : Int), .n (N d), .n (N 0#32), .n ((0 : Nat) : Int), .l TN (ofI (bl j 8))] = some (0, [.n x, .n m, .n (j : Int), .n (N d), .n (N (chg d j)), .l TN (ofI (bl j 8))]) := by
  rw [← csum_8]
  have := iter_count (st := fn_L17_15) (fun k => [.k 0, .n x, .n m, .n (j : Int), .n (N d), .n (N (csum j d k)), .n (k : Int), .l TN (ofI (bl j 8))]) 8 (0, [.n x, .n m, .n (j : Int), .n (N d), .n (N (csum j d 8)), .l TN (ofI (bl j 8))]) ?_ ?_ FU (by unfold FU; omega)
  · have e : csum j d 0 = 0#32 := by unfold csum sw; exact dnN_zero _
    simp only [e] at this
    exact this
  · intro k hk
    simp only [fn_L17_15, fn_L17_15_0, den_len, den_getD2]
    have e0 : IntKind.wrap .i64 ((k : Int) + 1) = ((k + 1 : Nat) : Int) := by rw [w64 (by omega) (by omega)]; omega
    refine (selT (dt (by omega))).trans ((selT (nf (df (by omega)))).trans ?_)
    rw [selB, bit64 d k hk]
    cases h : d.getLsbD k with
    | true =>
      refine (selT (inR_true (by omega) (by rw [bl_len]; omega))).trans ?_
      rw [e0, show ((k : Int)).toNat = k from rfl, bl_get j 8 k hk, ixor_u32]
      simp only [csum, sw, h, if_true, Tree.sel, dnN_xor, chg]
    | false =>
      rw [e0]
      simp only [csum, sw, h, Bool.false_eq_true, if_false, Tree.sel, cond_false, BitVec.xor_zero]
  · simp only [fn_L17_15, fn_L17_15_0]
    exact selF (df (by omega))
def hitB (x : BitVec 32) (j i : Nat) : Bool := N (chg (BitVec.ofNat 8 (i + 1)) j) == N x
theorem t17c (x : BitVec 32) (m : Int) (j : Nat) : op_L17_11 [.k 0, .n (N x), .n m, .n (j : Int), .n (((0 + 1 : Nat)) : Int), .l TN (ofI (bl j 8))] = some (match firstHit (hitB x j) 255 with
    | some i => (1, [.n (j : Int), .n (N (BitVec.ofNat 8 (i + 1))), .b true])
    | none => (0, [.n (N x), .n m, .n (j : Int)])) := by
  have step : ∀ i : Nat, i < 255 → (fn_L17_11 [.k 0, .n (N x), .n m, .n (j : Int), .n ((i + 1 : Nat) : Int), .l TN (ofI (bl j 8))]).sel = (Tree.node (hitB x j i) (.leaf (Step.stop 1 [.n (j : Int), .n (N (BitVec.ofNat 8 (i + 1))), .b true])) (.leaf (Step.go [.k 0, .n (N x), .n m, .n (j : Int), .n ((i + 1 + 1 : Nat) : Int), .l TN (ofI (bl j 8))]))).sel := by
    intro i hi
    have e0 : IntKind.wrap .i64 (((i + 1 : Nat) : Int) + 1) = ((i + 1 + 1 : Nat) : Int) := by rw [w64 (by omega) (by omega)]; omega
    have eN : ((i + 1 : Nat) : Int) = N (BitVec.ofNat 8 (i + 1)) := by unfold N; rw [BitVec.toNat_ofNat, Nat.mod_eq_of_lt (by omega)]
    simp only [fn_L17_11, fn_L17_11_0]
    refine (selT (dt (by omega))).trans ?_
    have e := t17b (N x) m j (BitVec.ofNat 8 (i + 1))
    rw [← eN] at e
    rw [show op_L17_15 [.k 0, .n (N x), .n m, .n (j : Int), .n ((i + 1 : Nat) : Int), .n 0, .n 0, .l TN (ofI (bl j 8))] = _ from e]
    simp only [dOf_some, gn0, gn1, gn2, gn3, gn4, gl5, isK6, cond_true, selB, e0]
    rw [eN, wrap_u8]
    rfl
  refine iter_find (st := fn_L17_11) (fun i => [.k 0, .n (N x), .n m, .n (j : Int), .n ((i + 1 : Nat) : Int), .l TN (ofI (bl j 8))]) 255 (hitB x j) (fun i => (1, [.n (j : Int), .n (N (BitVec.ofNat 8 (i + 1))), .b true])) (0, [.n (N x), .n m, .n (j : Int)]) ?_ ?_ ?_ FU (by unfold FU; omega)
  · intro i hi hh; rw [step i hi, hh]; rfl
  · intro i hi hh; rw [step i hi, hh]; rfl
  · simp only [fn_L17_11, fn_L17_11_0]
    exact selF (df (by omega))
def hitD (x : BitVec 32) (j : Nat) : Bool := (firstHit (hitB x j) 255).isSome
def byD (x : BitVec 32) (j : Nat) : BitVec 8 := BitVec.ofNat 8 ((firstHit (hitB x j) 255).getD 0 + 1)
theorem t17L (x : BitVec 32) (m : Int) (hm : m ≤ 65536) : op_L17_2 [.k 0, .n (N x), .n m, .n ((0 : Nat) : Int)] = some (match firstHit (hitD x) m.toNat with
    | some j => (1, [.n (j : Int), .n (N (byD x j)), .b true])
    | none => (0, [])) := by
  have step : ∀ j : Nat, j < m.toNat → (fn_L17_2 [.k 0, .n (N x), .n m, .n (j : Int)]).sel = (Tree.node (hitD x j) (.leaf (Step.stop 1 [.n (j : Int), .n (N (byD x j)), .b true])) (.leaf (Step.go [.k 0, .n (N x), .n m, .n ((j + 1 : Nat) : Int)]))).sel := by
    intro j hj
    have e0 : IntKind.wrap .i64 ((j : Int) + 1) = ((j + 1 : Nat) : Int) := by rw [w64 (by omega) (by omega)]; omega
    simp only [fn_L17_2, fn_L17_2_0]
    refine (selT (dt (by omega))).trans ((selT (dt (by omega))).trans ?_)
    have e1 := t17a (N x) m j (by omega)
    have e2 := t17c x m j
    rw [show op_L17_6 [.k 0, .n (N x), .n m, .n (j : Int), .n 0, .l TN []] = _ from e1]
    simp only [dOf_some, gn0, gn1, gn2, gl3, isK4l, cond_true, selB]
    rw [show op_L17_11 [.k 0, .n (N x), .n m, .n (j : Int), .n 1, .l TN (ofI (bl j 8))] = _ from e2]
    unfold hitD byD
    cases firstHit (hitB x j) 255 with
    | none =>
      simp only [dOf_some, gn0, gn1, gn2, e0]
      rfl
    | some i => rfl
  refine iter_find (st := fn_L17_2) (fun j => [.k 0, .n (N x), .n m, .n (j : Int)]) m.toNat (hitD x) (fun j => (1, [.n (j : Int), .n (N (byD x j)), .b true])) (0, []) ?_ ?_ ?_ FU (lt_FU (by omega))
  · intro i hi hh; rw [step i hi, hh]; rfl
  · intro i hi hh; rw [step i hi, hh]; rfl
  · simp only [fn_L17_2, fn_L17_2_0]
    exact selF (df (by omega))
theorem setWidth_lt {y : BitVec 32} (h : N y < 256) : (y.setWidth 8).setWidth 32 = y := by
  apply BitVec.eq_of_toNat_eq
  unfold N at h
  rw [BitVec.toNat_setWidth, BitVec.toNat_setWidth]
  have := y.isLt
  omega
theorem hit_same (x : BitVec 32) (hx : x ≠ 0#32) (j : Nat) : hitD x j = hitU x j ∧ (hitU x j = true → byD x j = (upN (8 * (j + 1)) x).setWidth 8) := by
  have inj : ∀ i, i < 255 → hitB x j i = true → (BitVec.ofNat 8 (i + 1)).setWidth 32 = upN (8 * (j + 1)) x := by
    intro i hi h
    unfold hitB at h
    rw [beq_iff_eq] at h
    have h := N_inj h
    unfold chg at h
    rw [← h, upN_dnN]
  have wid : ∀ i, i < 255 → ((BitVec.ofNat 8 (i + 1)).setWidth 32).toNat = i + 1 := by
    intro i hi
    rw [BitVec.toNat_setWidth, BitVec.toNat_ofNat]; omega
  cases hq : firstHit (hitB x j) 255 with
  | some i =>
    obtain ⟨h1, h2, h3⟩ := firstHit_some hq
    have e := inj i h1 h2
    have w := wid i h1
    have hU : hitU x j = true := by
      unfold hitU
      rw [← e]
      unfold N
      rw [w]
      exact dt (by omega)
    refine ⟨by unfold hitD; rw [hq, hU]; rfl, fun _ => ?_⟩
    unfold byD
    rw [hq, ← e]
    apply BitVec.eq_of_toNat_eq
    rw [BitVec.toNat_setWidth, w, BitVec.toNat_ofNat]
    rfl
  | none =>
    have hU : hitU x j = false := by
      cases hh : hitU x j with
      | false => rfl
      | true =>
        exfalso
        unfold hitU at hh
        have hh := of_decide_eq_true hh
        have hy0 : upN (8 * (j + 1)) x ≠ 0#32 := by
          intro h
          have := congrArg (dnN (8 * (j + 1))) h
          rw [dnN_upN, dnN_zero] at this
          exact hx this
        have hpos : 0 < (upN (8 * (j + 1)) x).toNat := by
          rcases Nat.eq_zero_or_pos (upN (8 * (j + 1)) x).toNat with q | q
          · exact (hy0 (BitVec.eq_of_toNat_eq q)).elim
          · exact q
        have hlt : (upN (8 * (j + 1)) x).toNat < 256 := by unfold N at hh; omega
        have := firstHit_none hq ((upN (8 * (j + 1)) x).toNat - 1) (by omega)
        unfold hitB at this
        rw [show (upN (8 * (j + 1)) x).toNat - 1 + 1 = (upN (8 * (j + 1)) x).toNat by omega] at this
        have e : (BitVec.ofNat 8 (upN (8 * (j + 1)) x).toNat) = (upN (8 * (j + 1)) x).setWidth 8 := by
          apply BitVec.eq_of_toNat_eq
          rw [BitVec.toNat_setWidth, BitVec.toNat_ofNat]
        rw [e] at this
        unfold chg at this
        rw [setWidth_lt hh, dnN_upN] at this
        simp at this
    refine ⟨by unfold hitD; rw [hq, hU]; rfl, fun h => by rw [hU] at h; cases h⟩
theorem t17 (x : BitVec 32) (m : Int) (hm : m ≤ 65536) (hx : x ≠ 0#32) : op_17 [.n (N x), .n m] = some (0, foundU x (firstHit (hitU x) m.toNat)) := by
  show (fn_17 [.n (N x), .n m]).sel = _
  simp only [fn_17]
  have e := t17L x m hm
  rw [firstHit_congr fun j _ => (hit_same x hx j).1] at e
  rw [show op_L17_2 [.k 0, .n (N x), .n m, .n 0] = _ from e]
  cases h : firstHit (hitU x) m.toNat with
  | none => rfl
  | some j =>
    obtain ⟨h1, h2, h3⟩ := firstHit_some h
    have := (hit_same x hx j).2 h2
    simp only [this]
    rfl
theorem t17z (m : Int) (hm : m ≤ 65536) : op_17 [.n (N 0#32), .n m] = some (0, [.n 0, .n 0, .b false]) := by
  have no : ∀ j, hitD 0#32 j = false := by
    intro j
    unfold hitD
    cases hq : firstHit (hitB 0#32 j) 255 with
    | none => rfl
    | some i =>
      exfalso
      obtain ⟨h1, h2, h3⟩ := firstHit_some hq
      unfold hitB at h2
      rw [beq_iff_eq] at h2
      have h := N_inj h2
      unfold chg at h
      have h := dnN_inj (h.trans (dnN_zero (8 * (j + 1))).symm)
      have := congrArg BitVec.toNat h
      rw [BitVec.toNat_setWidth, BitVec.toNat_ofNat] at this
      simp at this
      omega
  show (fn_17 [.n (N 0#32), .n m]).sel = _
  simp only [fn_17]
  have e := t17L 0#32 m hm
  have : firstHit (hitD 0#32) m.toNat = none := by
    cases hq : firstHit (hitD 0#32) m.toNat with
    | none => rfl
    | some j => have := (firstHit_some hq).2.1; rw [no j] at this; cases this
  rw [this] at e
  rw [show op_L17_2 [.k 0, .n (N 0#32), .n m, .n 0] = _ from e]
  rfl
end Go.Proofs.Ytgjnolljacicfaa.Vx
