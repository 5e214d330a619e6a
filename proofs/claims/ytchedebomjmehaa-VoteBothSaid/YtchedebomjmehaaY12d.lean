import Derived.Test.YtchedebomjmehaaY12c
import Derived.Test.YtchedebomjmehaaX12x
namespace Go.Proofs.Ytchedebomjmehaa.Vx
open Go Go.RowKit
set_option linter.unusedVariables false
set_option linter.unusedSimpArgs false
set_option maxRecDepth 100000
set_option maxHeartbeats 0
def Last4 (y : Nat × List Dat) : Prop := ∃ st n, y = (0, [.n n, .b st, .n n]) ∨ y = (1, [.n n, .b st, .n n]) ∨ y = (2, [.n n, .b st, .n n])
def Inv4 (l : LC) (env : List Dat) : Prop := ∃ i : Int, 0 ≤ i ∧ i ≤ l.length ∧ InvB l i env
theorem at4 {l : LC} {i : Int} {env : List Dat} (h : InvB l i env) : gn env 5 = i := by
  obtain ⟨f, n, h0, h1, hI⟩ := h
  rcases hI with ⟨st, rfl⟩ | ⟨c, e, a, b, rfl, h⟩ | ⟨c, e, a, b, rfl, h⟩ | ⟨e, a, b, rfl, h, k⟩ | ⟨x, y, z, u, e, a, b, rfl, g, h, k⟩ | ⟨x, y, z, u, e, a, b, rfl, g, h, k⟩ <;> rfl
theorem key4 (l : LC) (hl : l.length ≤ 200) (env : List Dat) (hi : Inv4 l env) : Good (fun y => match y with | .go e => Inv4 l e ∧ (l.length - gn e 5).toNat < (l.length - gn env 5).toNat | .stop k d => Last4 (k, d)) (st_L4_8 env).sel := by
  obtain ⟨i, a0, a1, hI⟩ := hi
  rw [at4 hI]
  by_cases hlt : i < l.length
  · have fin : Good (StepB l i) (st_L4_8 env).sel := by
      obtain ⟨f, n, h0, h1, hI⟩ := hI
      rcases hI with ⟨st, rfl⟩ | ⟨c, e, a, b, rfl, h⟩ | ⟨c, e, a, b, rfl, h⟩ | ⟨e, a, b, rfl, h, k⟩ | ⟨x, y, z, u, e, a, b, rfl, g, h, k⟩ | ⟨x, y, z, u, e, a, b, rfl, g, h, k⟩
      · exact stepB0 h0 h1 hlt hl st
      · exact stepB1 h0 h1 hlt hl c e a b h
      · exact stepB2 h0 h1 hlt hl c e a b h
      · exact stepB3 h0 h1 hlt hl e a b h k
      · exact stepB4 h0 h1 hlt hl x y z u e a b g h k
      · exact stepB5 h0 h1 hlt hl x y z u e a b g h k
    obtain ⟨y, e, hy⟩ := fin
    refine ⟨y, e, ?_⟩
    cases y with
    | stop k d => exact hy.elim
    | go e' =>
      have hy : InvB l (i + 1) e' := hy
      refine ⟨⟨i + 1, by omega, by omega, hy⟩, ?_⟩
      show ((l.length : Int) - gn e' 5).toNat < _
      rw [at4 hy]; omega
  · have hd : i = (l.length : Int) := by omega
    obtain ⟨f, n, h0, h1, hI⟩ := hI
    rcases hI with ⟨st, rfl⟩ | ⟨c, e, a, b, rfl, h⟩ | ⟨c, e, a, b, rfl, h⟩ | ⟨e, a, b, rfl, h, k⟩ | ⟨x, y, z, u, e, a, b, rfl, g, h, k⟩ | ⟨x, y, z, u, e, a, b, rfl, g, h, k⟩
    · exact Imp.good (fn_L4_8_x0_im l f n i st hd) (good_leaf ⟨_, _, .inl rfl⟩)
    · exact Imp.good (fn_L4_8_x1_im l f n i c e a b hd) (good_leaf ⟨_, _, .inr (.inl rfl)⟩)
    · exact Imp.good (fn_L4_8_x2_im l f n i c e a b hd) (good_leaf ⟨_, _, .inr (.inl rfl)⟩)
    · exact Imp.good (fn_L4_8_x3_im l f n i e a b hd) (good_leaf ⟨_, _, .inr (.inl rfl)⟩)
    · exact Imp.good (fn_L4_8_x4_im l f n i x y z u e a b hd) (good_leaf ⟨_, _, .inr (.inr rfl)⟩)
    · exact Imp.good (fn_L4_8_x5_im l f n i x y z u e a b hd) (good_leaf ⟨_, _, .inr (.inr rfl)⟩)
theorem run4 (l : LC) (hl : l.length ≤ 200) : ∃ y, op_L4_8 [.k 0, .l TCl l, .n 0, .n 0, .b false, .n 0, .b false, .n 0] = some y ∧ Last4 y :=
  op_L4_8_good (p := Last4) (Inv4 l) (fun env => (l.length - gn env 5).toNat) (key4 l hl) _ ⟨0, by omega, by omega, 0, 0, by omega, by omega, .inl ⟨false, rfl⟩⟩ (by show ((l.length : Int) - 0).toNat < FU; unfold FU; omega)
theorem t4 (l : LC) : (ev_W4 [.l TCl l]).sel = some true := by
  obtain ⟨y, e, hy⟩ : Good (fun y => y = true) (ev_W4 [.l TCl l]).sel := by
    refine (fn_W4_t_im l).good ?_
    unfold fn_W4_t
    refine good_node (fun _ => good_leaf rfl) (fun q => ?_)
    have h2 : l.length ≤ 200 := by have := of_decide_eq_false q; omega
    obtain ⟨y, e, st, n, hy⟩ := run4 l h2
    erw [e]
    rcases hy with rfl | rfl | rfl
    · exact good_t rfl (good_t (beq_self_eq_true n) (good_leaf rfl))
    · exact good_f rfl (good_t rfl (good_t (beq_self_eq_true n) (good_leaf rfl)))
    · exact good_f rfl (good_f rfl (good_t rfl (good_t (beq_self_eq_true n) (good_leaf rfl))))
  rw [e, hy]
end Go.Proofs.Ytchedebomjmehaa.Vx
