import Derived.Test.YtbieijbppmohkaaX07k
import Derived.Test.YtbieijbppmohkaaVxBits
namespace Go.Proofs.Ytbieijbppmohkaa.Vx
open Go Go.RowKit
set_option linter.unusedVariables false
set_option maxRecDepth 100000
set_option maxHeartbeats 4000000
theorem k9l : op_L9_2 [.k 0, .n (-3 : Int)] = some (0, []) := by
  have hf : (71 - 0 : Int).toNat < FU := lt_FU (m := 71) (by omega)
  have h := iterS_count (st := st_L9_2) (fun n => [.k 0, .n (n - 3)]) 71 (0, []) (fun n h0 h1 => ?_) ?_ FU 0 (by omega) (by omega) hf
  · rw [op_L9_2_eq, show (-3 : Int) = 0 - 3 from rfl]; exact h
  · refine fn_L9_2_t_im _ _ ?_
    unfold fn_L9_2_t
    refine sel_t (decide_eq_true (show n - 3 < 68 by omega)) ?_
    rw [w64 (by omega) (by omega), show n - 3 + 1 = n + 1 - 3 by omega]
    by_cases h : n - 3 = 0
    · exact sel_t (by simp [h]) rfl
    · exact sel_f (by simpa using h) rfl
  · refine fn_L9_2_t_im _ _ ?_
    unfold fn_L9_2_t
    exact sel_f (by simp) rfl
theorem t9k : (ev_W9 []).sel = some true := by
  refine fn_W9_t_im _ ?_
  unfold fn_W9_t
  dsimp only
  rw [k9l]
  exact sel_t rfl rfl
end Go.Proofs.Ytbieijbppmohkaa.Vx
