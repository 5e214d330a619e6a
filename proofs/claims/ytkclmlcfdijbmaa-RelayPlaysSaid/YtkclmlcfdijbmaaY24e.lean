import Derived.Test.YtkclmlcfdijbmaaY24d
namespace Go.Proofs.Ytkclmlcfdijbmaa.Vx
open Go Go.RowKit
set_option linter.unusedVariables false
set_option linter.unusedSimpArgs false
set_option maxRecDepth 100000
set_option maxHeartbeats 0
abbrev LC24 := List (Ty.den TCall24)
def I5 (l : LC24) (env : List Dat) : Prop := ∃ (i : Int) (d : List Dat), 0 ≤ i ∧ i ≤ l.length ∧ ((env = .k 0 :: .l TCall24 l :: .n i :: d ∧ HA i d) ∨ (env = .k 1 :: .l TCall24 l :: .n i :: d ∧ HB i d))
def P5 (k : Nat) (d : List Dat) : Prop := (k = 0 ∧ d = []) ∨ (k = 1 ∧ d = [.b true])
theorem go5a (l : LC24) (hl : l.length ≤ 300) (i : Int) (h0 : 0 ≤ i) (h1 : i < l.length) {d : List Dat} (h : HA i d) :
    ∃ e, (fn_L5_10_0 (.l TCall24 l :: .n i :: d)).sel = some (.go e) ∧ ∃ d', ((e = .k 0 :: .l TCall24 l :: .n (i + 1) :: d' ∧ HA (i + 1) d') ∨ (e = .k 1 :: .l TCall24 l :: .n (i + 1) :: d' ∧ HB (i + 1) d')) := by
  have w1 : IntKind.wrap .i64 (i + 1) = i + 1 := w64 (by omega) (by omega)
  have D : ∀ c : Ty.den TCall24, Done (i + 1) (op_32a (.n c.1 :: .n c.2.1 :: .n c.2.2.1 :: .n c.2.2.2.1 :: .n c.2.2.2.2.1 :: .n c.2.2.2.2.2.1 :: .n c.2.2.2.2.2.2.1 :: .n c.2.2.2.2.2.2.2.1 :: .n c.2.2.2.2.2.2.2.2.1 :: .n c.2.2.2.2.2.2.2.2.2.1 :: .l TB c.2.2.2.2.2.2.2.2.2.2.1 :: .n c.2.2.2.2.2.2.2.2.2.2.2 :: d)) := fun c => does_a (by omega) c.1 c.2.1 c.2.2.1 c.2.2.2.1 c.2.2.2.2.1 c.2.2.2.2.2.1 c.2.2.2.2.2.2.1 h
  obtain ⟨k, d', e, hd⟩ := D (l.getD i.toNat (Ty.dflt TCall24))
  obtain ⟨e0, p, s1, s2, of, at_, a, b, c, ar, dd, x, si, pa, st, ms, rfl, hs⟩ := h
  simp only [RA, RB, MD, List.cons_append, List.nil_append] at e
  rcases hd with ⟨rfl, hd⟩ | ⟨rfl, hd⟩
  · have r := v31a hd
    have hd0 := hd
    obtain ⟨f0, q, t1, t2, og, au, a1, b1, c1, ar1, dd1, x1, sj, pb, su, mt, rfl, ht⟩ := hd0
    refine ⟨_, (selT (dt h1)).trans ((selT (inR_true h0 h1)).trans ?_), _, .inl ⟨rfl, hd⟩⟩
    erw [e]; rw [w1]
    exact (selT rfl).trans ((selF rfl).trans ((selT (congrArg (isK 0 [HK.b]) r)).trans ((selF (congrArg (fun r => !gb (dOf r) 0) r)).trans rfl)))
  · have r := v31b hd
    have hd0 := hd
    obtain ⟨f0, q, cz, t1, t2, og, au, a1, b1, c1, ar1, dd1, x1, sj, pb, su, mt, rfl, ht⟩ := hd0
    refine ⟨_, (selT (dt h1)).trans ((selT (inR_true h0 h1)).trans ?_), _, .inr ⟨rfl, hd⟩⟩
    erw [e]; rw [w1]
    refine (selF rfl).trans ?_
    exact (selT rfl).trans ((selF rfl).trans ((selT (congrArg (isK 0 [HK.b]) r)).trans ((selF (congrArg (fun r => !gb (dOf r) 0) r)).trans rfl)))
theorem go5b (l : LC24) (hl : l.length ≤ 300) (i : Int) (h0 : 0 ≤ i) (h1 : i < l.length) {d : List Dat} (h : HB i d) :
    ∃ e, (fn_L5_10_1 (.l TCall24 l :: .n i :: d)).sel = some (.go e) ∧ ∃ d', ((e = .k 0 :: .l TCall24 l :: .n (i + 1) :: d' ∧ HA (i + 1) d') ∨ (e = .k 1 :: .l TCall24 l :: .n (i + 1) :: d' ∧ HB (i + 1) d')) := by
  have w1 : IntKind.wrap .i64 (i + 1) = i + 1 := w64 (by omega) (by omega)
  have D : ∀ c : Ty.den TCall24, Done (i + 1) (op_32b (.n c.1 :: .n c.2.1 :: .n c.2.2.1 :: .n c.2.2.2.1 :: .n c.2.2.2.2.1 :: .n c.2.2.2.2.2.1 :: .n c.2.2.2.2.2.2.1 :: .n c.2.2.2.2.2.2.2.1 :: .n c.2.2.2.2.2.2.2.2.1 :: .n c.2.2.2.2.2.2.2.2.2.1 :: .l TB c.2.2.2.2.2.2.2.2.2.2.1 :: .n c.2.2.2.2.2.2.2.2.2.2.2 :: d)) := fun c => does_b (by omega) c.1 c.2.1 c.2.2.1 c.2.2.2.1 c.2.2.2.2.1 c.2.2.2.2.2.1 c.2.2.2.2.2.2.1 h
  obtain ⟨k, d', e, hd⟩ := D (l.getD i.toNat (Ty.dflt TCall24))
  obtain ⟨e0, p, cy, s1, s2, of, at_, a, b, c, ar, dd, x, si, pa, st, ms, rfl, hs⟩ := h
  simp only [RA, RB, MD, List.cons_append, List.nil_append] at e
  rcases hd with ⟨rfl, hd⟩ | ⟨rfl, hd⟩
  · have r := v31a hd
    have hd0 := hd
    obtain ⟨f0, q, t1, t2, og, au, a1, b1, c1, ar1, dd1, x1, sj, pb, su, mt, rfl, ht⟩ := hd0
    refine ⟨_, (selT (dt h1)).trans ((selT (inR_true h0 h1)).trans ?_), _, .inl ⟨rfl, hd⟩⟩
    erw [e]; rw [w1]
    exact (selT rfl).trans ((selF rfl).trans ((selT (congrArg (isK 0 [HK.b]) r)).trans ((selF (congrArg (fun r => !gb (dOf r) 0) r)).trans rfl)))
  · have r := v31b hd
    have hd0 := hd
    obtain ⟨f0, q, cz, t1, t2, og, au, a1, b1, c1, ar1, dd1, x1, sj, pb, su, mt, rfl, ht⟩ := hd0
    refine ⟨_, (selT (dt h1)).trans ((selT (inR_true h0 h1)).trans ?_), _, .inr ⟨rfl, hd⟩⟩
    erw [e]; rw [w1]
    refine (selF rfl).trans ?_
    exact (selT rfl).trans ((selF rfl).trans ((selT (congrArg (isK 0 [HK.b]) r)).trans ((selF (congrArg (fun r => !gb (dOf r) 0) r)).trans rfl)))
theorem l5 (l : LC24) (hl : l.length ≤ 300) {d : List Dat} (h : HA 0 d) : ∃ k d', op_L5_10 (.k 0 :: .l TCall24 l :: .n 0 :: d) = some (k, d') ∧ P5 k d' := by
  refine iterS_ok (st := fn_L5_10) (I5 l) (fun env => l.length - (gn env 2).toNat) P5 ?_ FU _ ⟨0, d, by omega, by omega, .inl ⟨rfl, h⟩⟩ (by show l.length - _ < FU; unfold FU; omega)
  rintro env ⟨i, d, h0, h1, ⟨rfl, hd⟩ | ⟨rfl, hd⟩⟩
  · by_cases hi : i < l.length
    · left
      obtain ⟨e, he, d', ⟨rfl, hd'⟩ | ⟨rfl, hd'⟩⟩ := go5a l hl i h0 hi hd
      · exact ⟨_, he, ⟨i + 1, d', by omega, by omega, .inl ⟨rfl, hd'⟩⟩, by show l.length - (i + 1).toNat < l.length - i.toNat; omega⟩
      · exact ⟨_, he, ⟨i + 1, d', by omega, by omega, .inr ⟨rfl, hd'⟩⟩, by show l.length - (i + 1).toNat < l.length - i.toNat; omega⟩
    · right
      obtain ⟨e0, p, s1, s2, of, at_, a, b, c, ar, dd, x, si, pa, st, ms, rfl, hs⟩ := hd
      exact ⟨0, [], selF (df hi), .inl ⟨rfl, rfl⟩⟩
  · by_cases hi : i < l.length
    · left
      obtain ⟨e, he, d', ⟨rfl, hd'⟩ | ⟨rfl, hd'⟩⟩ := go5b l hl i h0 hi hd
      · exact ⟨_, he, ⟨i + 1, d', by omega, by omega, .inl ⟨rfl, hd'⟩⟩, by show l.length - (i + 1).toNat < l.length - i.toNat; omega⟩
      · exact ⟨_, he, ⟨i + 1, d', by omega, by omega, .inr ⟨rfl, hd'⟩⟩, by show l.length - (i + 1).toNat < l.length - i.toNat; omega⟩
    · right
      obtain ⟨e0, p, cy, s1, s2, of, at_, a, b, c, ar, dd, x, si, pa, st, ms, rfl, hs⟩ := hd
      exact ⟨0, [], selF (df hi), .inl ⟨rfl, rfl⟩⟩
theorem t5 (n0 : Int) (l : LC24) : (fn_W5 [.n n0, .l TCall24 l]).sel = some true := by
  by_cases q1 : (l.length : Int) > 300
  · exact selT (dt q1)
  refine (selF (df q1)).trans ?_
  by_cases q2 : n0 < 1
  · exact selT (dt q2)
  refine (selF (df q2)).trans ?_
  by_cases q3 : n0 > 1000
  · exact selT (dt q3)
  refine (selF (df q3)).trans ?_
  have z : HA 0 (RA 0 (-1) 0 0 0 0 0 0 0 (List.replicate 64 (0 : Int)) 0 false 0 n0 true ++ MD n0 0 true 0 (-1) (-1) 0 0 false 0 0 0 (List.replicate 64 (0 : Int)) 0 0 0) := ⟨_, _, _, _, _, _, _, _, _, _, _, _, _, _, _, _, rfl, by unfold Sil; omega⟩
  obtain ⟨k, d', e, h⟩ := l5 l (by omega) z
  rcases h with ⟨rfl, rfl⟩ | ⟨rfl, rfl⟩
  · exact (selT (congrArg (isK 0 []) e)).trans rfl
  · refine (selF (congrArg (isK 0 []) e)).trans ((selT (congrArg (isK 1 [HK.b]) e)).trans ?_)
    exact congrArg (fun r => some (gb (dOf r) 0)) e
end Go.Proofs.Ytkclmlcfdijbmaa.Vx
