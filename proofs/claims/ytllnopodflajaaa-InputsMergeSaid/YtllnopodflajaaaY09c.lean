import Derived.Test.YtllnopodflajaaaY09b
namespace Go.Proofs.Ytllnopodflajaaa.Vx
open Go Go.RowKit
set_option linter.unusedVariables false
set_option linter.unusedSimpArgs false
set_option maxRecDepth 100000
abbrev LC := List (Ty.den TCmd)
noncomputable def eqc (a b : LC) : Bool := @decide (a = b) (Classical.propDecidable _)
theorem eqc_iff (a b : LC) : eqc a b = true ↔ a = b := by unfold eqc; simp
theorem eqc_self (a : LC) : eqc a a = true := (eqc_iff a a).2 rfl
theorem u60 (a b : LC) (hb : a.length ≤ 9223372036854775807) : op_60 [.l TCmd a, .l TCmd b] = some (0, [.b (eqc a b)]) := by
  obtain ⟨r, e, h⟩ := t60 a b hb
  have : r = eqc a b := by rw [Bool.eq_iff_iff, h, eqc_iff]
  rw [← this]; exact e
theorem u61 (a b : LC) (hb : a.length ≤ 9223372036854775807) : op_61 [.l TCmd a, .l TCmd b] = some (0, [.b (eqc a b)]) := by
  obtain ⟨r, e, h⟩ := t61 a b hb
  have : r = eqc a b := by rw [Bool.eq_iff_iff, h, eqc_iff]
  rw [← this]; exact e
theorem isKb (k : Nat) (x : Bool) : isK 0 [HK.b] (some (0, [.b x])) = true := rfl
theorem isKm (x y z : Int) (l : LC) : isK 0 [HK.n, HK.n, HK.n, HK.l TCmd] (some (0, [.n x, .n y, .n z, .l TCmd l])) = true := rfl
noncomputable def mg (a b : LC) : LC := bif eqc a b then a else []
theorem mg_len (a b : LC) : (mg a b).length ≤ a.length := by unfold mg; cases eqc a b <;> simp
theorem u31 (n0 n1 n2 n4 n5 n6 : Int) (a b : LC) (ha : a.length ≤ 100) : op_31 [.n n0, .n n1, .n n2, .l TCmd a, .n n4, .n n5, .n n6, .l TCmd b] = some (0, [.n (ior .u64 n0 n4), .n (iand .u32 n1 n5), .n (iand .u32 n2 n6), .l TCmd (mg a b)]) := by
  show (fn_31 [.n n0, .n n1, .n n2, .l TCmd a, .n n4, .n n5, .n n6, .l TCmd b]).sel = _
  have e1 := u60 a b (by omega)
  have e2 := op_62_is a (by omega)
  refine (selT (congrArg (isK 0 [HK.b]) e1)).trans ?_
  unfold mg
  cases h : eqc a b with
  | true =>
    rw [h] at e1
    refine (selT (congrArg (fun r => gb (dOf r) 0) e1)).trans ((selT (congrArg (isK 0 [HK.l TCmd]) e2)).trans ?_)
    exact congrArg (fun r => some (0, [Dat.n (ior .u64 n0 n4), .n (iand .u32 n1 n5), .n (iand .u32 n2 n6), .l TCmd (gl TCmd (dOf r) 0)])) e2
  | false =>
    rw [h] at e1
    exact selF (congrArg (fun r => gb (dOf r) 0) e1)
theorem u32_ (n0 n1 n2 n4 n5 n6 : Int) (a b : LC) (ha : a.length ≤ 100) : op_32 [.n n0, .n n1, .n n2, .l TCmd a, .n n4, .n n5, .n n6, .l TCmd b] = some (0, [.n (ior .u64 n0 n4), .n (iand .u32 n1 n5), .n (iand .u32 n2 n6), .l TCmd (mg a b)]) := by
  show (fn_32 [.n n0, .n n1, .n n2, .l TCmd a, .n n4, .n n5, .n n6, .l TCmd b]).sel = _
  have e1 := u61 a b (by omega)
  refine (selT (congrArg (isK 0 [HK.b]) e1)).trans ?_
  unfold mg
  cases h : eqc a b with
  | true =>
    rw [h] at e1
    exact (selT (congrArg (fun r => gb (dOf r) 0) e1)).trans (selT (dt (by omega)))
  | false =>
    rw [h] at e1
    exact selF (congrArg (fun r => gb (dOf r) 0) e1)
theorem u30 (n0 n1 n2 : Int) (a : LC) (ha : a.length ≤ 100) : op_30 [.n n0, .n n1, .n n2, .l TCmd a, .n n0, .n n1, .n n2, .l TCmd a] = some (0, [.b true]) := by
  obtain ⟨r, e, h⟩ := t30 n0 n1 n2 n0 n1 n2 a a (by omega)
  have : r = true := h.2 ⟨rfl, rfl, rfl, rfl⟩
  rw [this] at e; exact e
theorem u8L (n0 n1 n2 n4 n5 n6 m0 m1 m2 k0 k1 k2 : Int) (a b c d : LC) (hc : c.length ≤ 100) : op_L8_8 [.k 0, .n 0, .n n0, .n n1, .n n2, .l TCmd a, .n n4, .n n5, .n n6, .l TCmd b, .n m0, .n m1, .n m2, .n k0, .n k1, .n k2, .l TCmd c, .l TCmd d] =
    some (0, [.n n0, .n n1, .n n2, .l TCmd a, .n n4, .n n5, .n n6, .l TCmd b, .n k0, .n k1, .n k2, .l TCmd d]) := by
  have key : ∃ k x, iterS fn_L8_8 FU [.k 0, .n ((0 : Nat) : Int), .n n0, .n n1, .n n2, .l TCmd a, .n n4, .n n5, .n n6, .l TCmd b, .n m0, .n m1, .n m2, .n k0, .n k1, .n k2, .l TCmd c, .l TCmd d] = some (k, x) ∧ (k = 0 ∧ x = [.n n0, .n n1, .n n2, .l TCmd a, .n n4, .n n5, .n n6, .l TCmd b, .n k0, .n k1, .n k2, .l TCmd d]) := by
    refine iterS_ok (st := fn_L8_8) (fun env => ∃ (c : LC) (i : Nat), env = [.k 0, .n (i : Int), .n n0, .n n1, .n n2, .l TCmd a, .n n4, .n n5, .n n6, .l TCmd b, .n m0, .n m1, .n m2, .n k0, .n k1, .n k2, .l TCmd c, .l TCmd d] ∧ c.length ≤ 100) (fun env => 100 - (gn env 1).toNat) (fun k x => k = 0 ∧ x = [.n n0, .n n1, .n n2, .l TCmd a, .n n4, .n n5, .n n6, .l TCmd b, .n k0, .n k1, .n k2, .l TCmd d]) ?_ FU _ ⟨c, 0, rfl, hc⟩ (by show 100 - _ < FU; unfold FU; omega)
    clear hc c
    rintro env ⟨c, i, rfl, hc⟩
    by_cases h : (i : Int) < (c.length : Int)
    · left
      have e0 : IntKind.wrap .i64 ((i : Int) + 1) = ((i + 1 : Nat) : Int) := by rw [w64 (by omega) (by omega)]; omega
      refine ⟨[.k 0, .n ((i + 1 : Nat) : Int), .n n0, .n n1, .n n2, .l TCmd a, .n n4, .n n5, .n n6, .l TCmd b, .n m0, .n m1, .n m2, .n k0, .n k1, .n k2, .l TCmd (c.set i (Prod.fst (c.getD i (Ty.dflt TCmd)), ixor .i64 (Prod.snd (c.getD i (Ty.dflt TCmd))) 1)), .l TCmd d], ?_, ⟨_, i + 1, rfl, Nat.le_trans (Nat.le_of_eq List.length_set) hc⟩, ?_⟩
      · refine (selT (dt h)).trans ((selT (inR_true (by omega) h)).trans ?_)
        exact congrArg (fun z => some (Step.go [.k 0, .n z, .n n0, .n n1, .n n2, .l TCmd a, .n n4, .n n5, .n n6, .l TCmd b, .n m0, .n m1, .n m2, .n k0, .n k1, .n k2, .l TCmd (c.set i (Prod.fst (c.getD i (Ty.dflt TCmd)), ixor .i64 (Prod.snd (c.getD i (Ty.dflt TCmd))) 1)), .l TCmd d])) e0
      · show 100 - ((i + 1 : Nat) : Int).toNat < 100 - ((i : Int)).toNat
        omega
    · right
      exact ⟨0, _, selF (df h), rfl, rfl⟩
  obtain ⟨k, x, e, rfl, rfl⟩ := key
  exact e
theorem t8 (n0 n1 n2 n4 n5 n6 : Int) (a b : LC) : (fn_W8 [.n n0, .n n1, .n n2, .l TCmd a, .n n4, .n n5, .n n6, .l TCmd b]).sel = some true := by
  by_cases h1 : (a.length : Int) > 100
  · exact selT (dt h1)
  refine (selF (df h1)).trans ?_
  by_cases h2 : (b.length : Int) > 100
  · exact selT (dt h2)
  refine (selF (df h2)).trans ?_
  have hm := mg_len a b
  have e1 := u31 n0 n1 n2 n4 n5 n6 a b (by omega)
  have e2 := u32_ n0 n1 n2 n4 n5 n6 a b (by omega)
  have e3 := u30 (ior .u64 n0 n4) (iand .u32 n1 n5) (iand .u32 n2 n6) (mg a b) (by omega)
  have e4 := u8L n0 n1 n2 n4 n5 n6 (ior .u64 n0 n4) (iand .u32 n1 n5) (iand .u32 n2 n6) (ior .u64 n0 n4) (iand .u32 n1 n5) (iand .u32 n2 n6) a b (mg a b) (mg a b) (by omega)
  refine (selT (congrArg (isK 0 [HK.n, HK.n, HK.n, HK.l TCmd]) e1)).trans ((selT (congrArg (isK 0 [HK.n, HK.n, HK.n, HK.l TCmd]) e2)).trans ?_)
  have g1 : ∀ (t : Ty) (x : List t.den) (p q s : Dat), gl t [p, q, s, .l t x] 3 = x := fun t x p q s => gl3 p q s t x []
  simp only [e1, e2, dOf_some, gn0, gn1, gn2, g1, e3]
  refine (selT rfl).trans ((selF rfl).trans ?_)
  rw [show op_L8_8 [.k 0, .n 0, .n n0, .n n1, .n n2, .l TCmd a, .n n4, .n n5, .n n6, .l TCmd b, .n (ior .u64 n0 n4), .n (iand .u32 n1 n5), .n (iand .u32 n2 n6), .n (ior .u64 n0 n4), .n (iand .u32 n1 n5), .n (iand .u32 n2 n6), .l TCmd (mg a b), .l TCmd (mg a b)] = _ from e4]
  refine (selT rfl).trans ?_
  have e5 : op_31 [.n (gn (dOf (some (0, [Dat.n n0, .n n1, .n n2, .l TCmd a, .n n4, .n n5, .n n6, .l TCmd b, .n (ior .u64 n0 n4), .n (iand .u32 n1 n5), .n (iand .u32 n2 n6), .l TCmd (mg a b)]))) 0), .n n1, .n n2, .l TCmd a, .n n4, .n n5, .n n6, .l TCmd b] = _ := e1
  refine (selT (congrArg (isK 0 [HK.n, HK.n, HK.n, HK.l TCmd]) e1)).trans ?_
  have e6 : op_30 [.n (ior .u64 n0 n4), .n (iand .u32 n1 n5), .n (iand .u32 n2 n6), .l TCmd (mg a b), .n (ior .u64 n0 n4), .n (iand .u32 n1 n5), .n (iand .u32 n2 n6), .l TCmd (mg a b)] = some (0, [.b true]) := e3
  have e7 : op_30 [.n (gn (dOf (op_31 [.n n0, .n n1, .n n2, .l TCmd a, .n n4, .n n5, .n n6, .l TCmd b])) 0), .n (gn (dOf (op_31 [.n n0, .n n1, .n n2, .l TCmd a, .n n4, .n n5, .n n6, .l TCmd b])) 1), .n (gn (dOf (op_31 [.n n0, .n n1, .n n2, .l TCmd a, .n n4, .n n5, .n n6, .l TCmd b])) 2), .l TCmd (gl TCmd (dOf (op_31 [.n n0, .n n1, .n n2, .l TCmd a, .n n4, .n n5, .n n6, .l TCmd b])) 3), .n (ior .u64 n0 n4), .n (iand .u32 n1 n5), .n (iand .u32 n2 n6), .l TCmd (mg a b)] = some (0, [.b true]) := by
    simp only [e1, dOf_some, gn0, gn1, gn2, g1]
    exact e3
  exact (selT (congrArg (isK 0 [HK.b]) e7)).trans (selT (congrArg (fun r => gb (dOf r) 0) e7))
end Go.Proofs.Ytllnopodflajaaa.Vx
