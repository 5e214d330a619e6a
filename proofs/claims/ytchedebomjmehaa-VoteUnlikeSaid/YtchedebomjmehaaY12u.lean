import Derived.Test.YtchedebomjmehaaX12u
import Derived.Test.YtchedebomjmehaaVxAid
namespace Go.Proofs.Ytchedebomjmehaa.Vx
open Go Go.RowKit
set_option linter.unusedVariables false
set_option maxRecDepth 100000
def fr4 (c e a b : Int) : List Dat := [.n c, .n e, .n a, .n b]
theorem eq4 (n0 n1 n2 n3 n4 n5 n6 n7 : Int) : (n0 == n4 && (n1 == n5 && (n2 == n6 && (n3 == n7 && true) && true))) = true → n0 = n4 ∧ n1 = n5 ∧ n2 = n6 ∧ n3 = n7 := by
  intro h; simpa using h
theorem put0 (c e a b : Int) (h : ¬ c < 1) : op_25a [.n 0, .n c, .n e, .n a, .n b, .b false, .n 0] = some (1, [.n 0, .b false, .n 0, .n c, .n e, .n a, .n b]) :=
  (selF rfl).trans ((selF rfl).trans ((selF rfl).trans ((selT rfl).trans ((selF rfl).trans ((selT rfl).trans (selF (df (by omega))))))))
theorem put1 (c e a b : Int) (h : ¬ c < 1) : op_25a [.n 1, .n c, .n e, .n a, .n b, .b false, .n 0] = some (2, [.n 0, .b false, .n 0, .n c, .n e, .n a, .n b]) :=
  (selF rfl).trans ((selF rfl).trans ((selT rfl).trans ((selF rfl).trans ((selF rfl).trans ((selT rfl).trans (selF (df (by omega))))))))
theorem then1 (c e a b c' e' a' b' : Int) (h : ¬ c < 1) : op_25b [.n 1, .n c, .n e, .n a, .n b, .b false, .n 0, .n c', .n e', .n a', .n b'] =
    if (c' == c && (e' == e && (a' == a && (b' == b && true) && true))) = true then some (2, [.n 0, .b false, .n c, .n c, .n e, .n a, .n b]) else some (0, [.n 220, .b true, .n 0]) := by
  refine (selF rfl).trans ((selF rfl).trans ((selT rfl).trans ((selF rfl).trans ((selF rfl).trans ((selT rfl).trans ((selF (df (by omega))).trans ?_))))))
  cases hE : (c' == c && (e' == e && (a' == a && (b' == b && true) && true))) with
  | true => rw [if_pos rfl]; exact selF rfl
  | false => rw [if_neg (by simp)]; exact selT rfl
theorem then0 (c e a b c' e' a' b' : Int) (h : ¬ c < 1) : op_25c [.n 0, .n c, .n e, .n a, .n b, .b false, .n 0, .n c', .n e', .n a', .n b'] =
    if (c' == c && (e' == e && (a' == a && (b' == b && true) && true))) = true then some (2, [.n 0, .b false, .n c, .n c, .n e, .n a, .n b]) else some (0, [.n 220, .b true, .n 0]) := by
  refine (selF rfl).trans ((selF rfl).trans ((selF rfl).trans ((selT rfl).trans ((selF rfl).trans ((selT rfl).trans ((selF (df (by omega))).trans ?_))))))
  cases hE : (c' == c && (e' == e && (a' == a && (b' == b && true) && true))) with
  | true => rw [if_pos rfl]; exact selF rfl
  | false => rw [if_neg (by simp)]; exact selT rfl
theorem t5 (n0 n1 n2 n3 n4 n5 n6 n7 n8 : Int) : (fn_W5 [.n n0, .n n1, .n n2, .n n3, .n n4, .n n5, .n n6, .n n7, .n n8]).sel = some true := by
  unfold fn_W5
  have hp := pick2 n8
  dsimp only
  generalize Int.tmod (IntKind.wrap IntKind.i64 (Int.tmod n8 (2 : Int) + (2 : Int))) (2 : Int) = A at hp ⊢
  by_cases a1 : n0 < 1
  · exact selT (dt a1)
  refine (selF (df a1)).trans ?_
  by_cases a2 : n4 < 1
  · exact selT (dt a2)
  refine (selF (df a2)).trans ?_
  rcases hp with rfl | rfl
  · have e1 := put0 n0 n1 n2 n3 a1
    have e2 := then1 n4 n5 n6 n7 n0 n1 n2 n3 a2
    have w : IntKind.wrap IntKind.i64 ((1 : Int) - 0) = 1 := rfl
    rw [e1, w]
    refine (selF rfl).trans ((selT rfl).trans ?_)
    have e2' : op_25b [Dat.n 1, Dat.n n4, Dat.n n5, Dat.n n6, Dat.n n7, Dat.b (gb (dOf (some (1, [Dat.n 0, Dat.b false, Dat.n 0, Dat.n n0, Dat.n n1, Dat.n n2, Dat.n n3]))) 1), Dat.n (gn (dOf (some (1, [Dat.n 0, Dat.b false, Dat.n 0, Dat.n n0, Dat.n n1, Dat.n n2, Dat.n n3]))) 2), Dat.n (gn (dOf (some (1, [Dat.n 0, Dat.b false, Dat.n 0, Dat.n n0, Dat.n n1, Dat.n n2, Dat.n n3]))) 3), Dat.n (gn (dOf (some (1, [Dat.n 0, Dat.b false, Dat.n 0, Dat.n n0, Dat.n n1, Dat.n n2, Dat.n n3]))) 4), Dat.n (gn (dOf (some (1, [Dat.n 0, Dat.b false, Dat.n 0, Dat.n n0, Dat.n n1, Dat.n n2, Dat.n n3]))) 5), Dat.n (gn (dOf (some (1, [Dat.n 0, Dat.b false, Dat.n 0, Dat.n n0, Dat.n n1, Dat.n n2, Dat.n n3]))) 6)] = _ := e2
    rw [e2']
    cases hE : (n0 == n4 && (n1 == n5 && (n2 == n6 && (n3 == n7 && true) && true))) with
    | false => rw [if_neg (by simp)]; exact (selT rfl).trans ((selF rfl).trans ((selF rfl).trans ((selF rfl).trans (selF rfl))))
    | true =>
      obtain ⟨rfl, rfl, rfl, rfl⟩ := eq4 _ _ _ _ _ _ _ _ hE
      rw [if_pos rfl]
      exact (selF rfl).trans ((selF rfl).trans ((selT rfl).trans ((selF rfl).trans ((selF rfl).trans ((selF rfl).trans ((selF rfl).trans (selF (nt hE))))))))
  · have e1 := put1 n0 n1 n2 n3 a1
    have e2 := then0 n4 n5 n6 n7 n0 n1 n2 n3 a2
    have w : IntKind.wrap IntKind.i64 ((1 : Int) - 1) = 0 := rfl
    rw [e1, w]
    refine (selF rfl).trans ((selF rfl).trans ((selT rfl).trans ?_))
    have e2' : op_25c [Dat.n 0, Dat.n n4, Dat.n n5, Dat.n n6, Dat.n n7, Dat.b (gb (dOf (some (2, [Dat.n 0, Dat.b false, Dat.n 0, Dat.n n0, Dat.n n1, Dat.n n2, Dat.n n3]))) 1), Dat.n (gn (dOf (some (2, [Dat.n 0, Dat.b false, Dat.n 0, Dat.n n0, Dat.n n1, Dat.n n2, Dat.n n3]))) 2), Dat.n (gn (dOf (some (2, [Dat.n 0, Dat.b false, Dat.n 0, Dat.n n0, Dat.n n1, Dat.n n2, Dat.n n3]))) 3), Dat.n (gn (dOf (some (2, [Dat.n 0, Dat.b false, Dat.n 0, Dat.n n0, Dat.n n1, Dat.n n2, Dat.n n3]))) 4), Dat.n (gn (dOf (some (2, [Dat.n 0, Dat.b false, Dat.n 0, Dat.n n0, Dat.n n1, Dat.n n2, Dat.n n3]))) 5), Dat.n (gn (dOf (some (2, [Dat.n 0, Dat.b false, Dat.n 0, Dat.n n0, Dat.n n1, Dat.n n2, Dat.n n3]))) 6)] = _ := e2
    rw [e2']
    cases hE : (n0 == n4 && (n1 == n5 && (n2 == n6 && (n3 == n7 && true) && true))) with
    | false => rw [if_neg (by simp)]; exact (selT rfl).trans ((selF rfl).trans ((selF rfl).trans ((selF rfl).trans (selF rfl))))
    | true =>
      obtain ⟨rfl, rfl, rfl, rfl⟩ := eq4 _ _ _ _ _ _ _ _ hE
      rw [if_pos rfl]
      exact (selF rfl).trans ((selF rfl).trans ((selT rfl).trans ((selF rfl).trans ((selF rfl).trans ((selF rfl).trans ((selF rfl).trans (selF (nt hE))))))))
end Go.Proofs.Ytchedebomjmehaa.Vx
