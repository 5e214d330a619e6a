import Derived.Test.YtchedebomjmehaaY23c
namespace Go.Proofs.Ytchedebomjmehaa.Vx
open Go Go.RowKit
set_option linter.unusedVariables false
set_option linter.unusedSimpArgs false
set_option maxRecDepth 100000
set_option maxHeartbeats 0
theorem tm {x : Int} (h : 0 ≤ x) (k : Int) (hk : 0 < k) (k2 : k ≤ 100) : ∃ r, IntKind.wrap .i64 (Int.tmod x k) = r ∧ 0 ≤ r ∧ r < k := by
  rw [Int.tmod_eq_emod_of_nonneg h]
  have a := Int.emod_nonneg x (b := k) (by omega)
  have b := Int.emod_lt_of_pos x hk
  exact ⟨x % k, w64 (by omega) (by omega), a, b⟩
theorem l9 (l0 : LSt) (hl : l0.length ≤ 300) (hw : ∀ c ∈ l0, @LE.le Int _ 0 c.2.1 ∧ @LE.le Int _ 0 c.2.2) (s0 s1 : Int) (d : List Dat) (hg : Gi l0 0 s0 s1 d) : ∃ k d', op_L13_9 (.k 0 :: d) = some (k, d') ∧ (k = 0 ∧ d' = []) := by
  refine iterS_ok (st := fn_L13_9) (fun env => ∃ i d, env = .k 0 :: d ∧ Gi l0 i s0 s1 d ∧ i ≤ l0.length) (fun env => l0.length - (gn env 3).toNat) (fun k d => k = 0 ∧ d = []) ?_ FU _ ⟨0, d, rfl, hg, by omega⟩ (by show l0.length - _ < FU; unfold FU; omega)
  clear hg d
  rintro env ⟨i, d, rfl, hg, hi⟩
  obtain ⟨now, e, h, u, a0, e0, u0, a1, e1, u1, of, rfl, J, hlen, f0, f1⟩ := hg
  have j0 := J.1
  by_cases q : i < l0.length
  · left
    have hm : (l0.getD i.toNat (Ty.dflt TSt)) ∈ l0 := by
      rw [List.getD_eq_getElem?_getD, List.getElem?_eq_getElem (show i.toNat < l0.length by omega), Option.getD_some]
      exact List.getElem_mem _
    obtain ⟨P, hP, p0, p1⟩ := tm (hw _ hm).1 2 (by omega) (by omega)
    obtain ⟨D, hD, d0, d1⟩ := tm (hw _ hm).2 4 (by omega) (by omega)
    have key : Dn l0 (i + 1) s0 s1 (fn_L13_9_0 [.l TSt l0, .n now, .n i, .n e, .n h, .n u, .l TI (ofI [s0, s1]), .l TTen (ten a0 e0 u0 a1 e1 u1), .l TI (ofI of)]).sel := by
      have hc : P = 0 ∨ P = 1 := by omega
      rcases hc with rfl | rfl
      · exact step0 l0 i now e h u s0 s1 a0 e0 u0 a1 e1 u1 D _ of q (by omega) hP hD rfl d0 (by omega) J hlen f0 f1
      · exact step1 l0 i now e h u s0 s1 a0 e0 u0 a1 e1 u1 D _ of q (by omega) hP hD rfl d0 (by omega) J hlen f0 f1
    obtain ⟨env', hz, hg'⟩ := key
    have hg2 := hg'
    obtain ⟨now', e', h', u', a0', e0', u0', a1', e1', u1', of', rfl, _⟩ := hg2
    exact ⟨_, hz, ⟨i + 1, _, rfl, hg', by omega⟩, by show l0.length - (i + 1).toNat < l0.length - i.toNat; omega⟩
  · right
    exact ⟨0, [], selF (df q), rfl, rfl⟩
theorem t13 (l0 : LSt) (n1 n2 : Int) (hw : ∀ c ∈ l0, @LE.le Int _ 0 c.2.1 ∧ @LE.le Int _ 0 c.2.2) (h1 : 0 ≤ n1) (h2 : 0 ≤ n2) : (fn_W13 [.l TSt l0, .n n1, .n n2]).sel = some true := by
  obtain ⟨s0, hs0, x0, x1⟩ := tm h1 3 (by omega) (by omega)
  obtain ⟨s1, hs1, y0, y1⟩ := tm h2 3 (by omega) (by omega)
  rw [fn_W13, hs0, hs1]
  by_cases q : (l0.length : Int) > 300
  · exact selT (dt q)
  refine (selF (df q)).trans ?_
  have g : Gi l0 0 s0 s1 [.l TSt l0, .n 2, .n 0, .n 0, .n (-1), .n 0, .l TI (ofI [s0, s1]), .l TTen (ten 0 0 0 1 0 0), .l TI (ofI [])] :=
    ⟨2, 0, -1, 0, 0, 0, 0, 1, 0, 0, [], rfl, by unfold JN; omega, rfl, fun z => absurd z (by omega), fun z => absurd z (by omega)⟩
  obtain ⟨k, d', e, rfl, rfl⟩ := l9 l0 (by omega) hw s0 s1 _ g
  exact (selT (congrArg (isK 0 []) e)).trans rfl
theorem u8n {n : Int} (h : wfD (.int .u8) n = true) : 0 ≤ n := by
  obtain ⟨h1, h2⟩ := wfi h
  have e1 : IntKind.min .u8 = 0 := rfl
  omega
theorem t13' {a0 : Ty.den (.sl TSt)} {a1 a2 : Ty.den (.int .u8)} (h0 : wfD (.sl TSt) a0 = true) (h1 : wfD (.int .u8) a1 = true) (h2 : wfD (.int .u8) a2 = true) : (fn_W13 [.l TSt a0, .n a1, .n a2]).sel = some true :=
  t13 a0 a1 a2 (fun c hc => by
    have w := wf_get (wfl_mem h0 hc)
    have w2 := wf_get w.2
    exact ⟨u8n w2.1, u8n w2.2⟩) (u8n h1) (u8n h2)
end Go.Proofs.Ytchedebomjmehaa.Vx
