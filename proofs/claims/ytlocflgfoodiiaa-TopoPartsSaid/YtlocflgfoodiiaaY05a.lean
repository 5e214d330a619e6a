import Derived.Test.YtlocflgfoodiiaaX05
import Derived.Test.YtlocflgfoodiiaaVxBits
import Derived.Test.YtlocflgfoodiiaaVxAid
namespace Go.Proofs.Ytlocflgfoodiiaa.Vx
open Go Go.RowKit
set_option linter.unusedVariables false
set_option linter.unusedSimpArgs false
set_option maxRecDepth 100000
set_option maxHeartbeats 1000000
theorem w1n (i : Nat) (h : i < 1000000) : IntKind.wrap .i64 ((i : Int) + 1) = ((i + 1 : Nat) : Int) := by rw [w64 (by omega) (by omega)]; rfl
theorem nbf {a b : Int} (h : a = b) : (a != b) = false := by subst h; simp
abbrev NI := Ty.den TI
abbrev NN := Ty.den TNd
theorem o13 (l : List NI) (hl : l.length ≤ 900) : op_13 [.l TI l, .l TI l] = some (0, [.b true]) := by
  have e : op_L13_4 [.k 0, .l TI l, .l TI l, .n (0 : Int)] = some (0, []) := by
    rw [op_L13_4_eq]
    refine iter_count (fun i => [.k 0, .l TI l, .l TI l, .n (i : Int)]) l.length (0, []) (fun i hi => ?_) ?_ FU (lt_FU (by omega))
    · refine fn_L13_4_t_im _ _ _ (by omega) rfl _ ?_
      unfold fn_L13_4_t
      refine sel_t (dt (show (i : Int) < (l.length : Int) by omega)) (sel_f (by simp) ?_)
      rw [w1n i (by omega)]; rfl
    · refine fn_L13_4_t_im _ _ _ (by omega) rfl _ ?_
      unfold fn_L13_4_t
      exact sel_f (df (show ¬ ((l.length : Nat) : Int) < (l.length : Int) by omega)) rfl
  rw [op_13_eq]
  refine fn_13_t_im _ _ _ ?_
  unfold fn_13_t
  refine sel_f (nbf rfl) ?_
  dsimp only
  erw [e]
  exact sel_t rfl rfl
theorem o14 (l : List NN) (hl : l.length ≤ 900) : op_14 [.l TNd l, .l TNd l] = some (0, [.b true]) := by
  have e : op_L14_4 [.k 0, .l TNd l, .l TNd l, .n (0 : Int)] = some (0, []) := by
    rw [op_L14_4_eq]
    refine iter_count (fun i => [.k 0, .l TNd l, .l TNd l, .n (i : Int)]) l.length (0, []) (fun i hi => ?_) ?_ FU (lt_FU (by omega))
    · refine fn_L14_4_t_im _ _ _ (by omega) rfl _ ?_
      unfold fn_L14_4_t
      refine sel_t (dt (show (i : Int) < (l.length : Int) by omega)) (sel_f (by have e1 : ∀ z : Int, (z == z) = true := (fun z => by simp); have e2 : ∀ z : Bool, (z == z) = true := (fun z => by simp); erw [e1, e2]; rfl) ?_)
      rw [w1n i (by omega)]; rfl
    · refine fn_L14_4_t_im _ _ _ (by omega) rfl _ ?_
      unfold fn_L14_4_t
      exact sel_f (df (show ¬ ((l.length : Nat) : Int) < (l.length : Int) by omega)) rfl
  rw [op_14_eq]
  refine fn_14_t_im _ _ _ ?_
  unfold fn_14_t
  refine sel_f (nbf rfl) ?_
  dsimp only
  erw [e]
  exact sel_t rfl rfl
theorem o9 (s : ByteArray) (n : Int) (a : List NI) (b : List NN) (c : List NI) (d : List NN) (ha : a.length ≤ 200) (hb : b.length ≤ 200) (hc : c.length ≤ 200) (hd : d.length ≤ 200) : op_9 [.s s, .n n, .l TI a, .l TNd b, .l TI c, .l TNd d] = some (0, [.l TI (a ++ c)]) := by
  rw [op_9_eq]
  refine fn_9_t_im _ _ _ _ _ _ _ ?_
  unfold fn_9_t
  have w : IntKind.wrap .i64 ((a.length : Int) + (c.length : Int)) = ((a.length : Int) + (c.length : Int)) := w64 (by omega) (by omega)
  refine sel_t ?_ (sel_t (dt (by omega)) (sel_t (dt (by simp only [List.nil_append]; omega)) rfl))
  rw [w, dt (show (0 : Int) ≤ _ by omega), dt (show _ ≤ (281474976710656 : Int) by omega)]; rfl
theorem o10 (s : ByteArray) (n : Int) (a : List NI) (b : List NN) (c : List NI) (d : List NN) (ha : a.length ≤ 200) (hb : b.length ≤ 200) (hc : c.length ≤ 200) (hd : d.length ≤ 200) : op_10 [.s s, .n n, .l TI a, .l TNd b, .l TI c, .l TNd d] = some (0, [.l TNd (b ++ d)]) := by
  rw [op_10_eq]
  refine fn_10_t_im _ _ _ _ _ _ _ ?_
  unfold fn_10_t
  have w : IntKind.wrap .i64 ((b.length : Int) + (d.length : Int)) = ((b.length : Int) + (d.length : Int)) := w64 (by omega) (by omega)
  refine sel_t ?_ (sel_t (dt (by omega)) (sel_t (dt (by simp only [List.nil_append]; omega)) rfl))
  rw [w, dt (show (0 : Int) ≤ _ by omega), dt (show _ ≤ (281474976710656 : Int) by omega)]; rfl
theorem o11 (s : ByteArray) (n : Int) (a : List NI) (b : List NN) (c : List NI) (d : List NN) (ha : a.length ≤ 200) (hb : b.length ≤ 200) (hc : c.length ≤ 200) (hd : d.length ≤ 200) : op_11 [.s s, .n n, .l TI a, .l TNd b, .l TI c, .l TNd d] = some (0, [.l TI (a ++ c)]) := by
  rw [op_11_eq]
  refine fn_11_t_im _ _ _ _ _ _ _ ?_
  unfold fn_11_t
  exact sel_t (dt (by omega)) (sel_t (dt (by omega)) rfl)
theorem o12 (s : ByteArray) (n : Int) (a : List NI) (b : List NN) (c : List NI) (d : List NN) (ha : a.length ≤ 200) (hb : b.length ≤ 200) (hc : c.length ≤ 200) (hd : d.length ≤ 200) : op_12 [.s s, .n n, .l TI a, .l TNd b, .l TI c, .l TNd d] = some (0, [.l TNd (b ++ d)]) := by
  rw [op_12_eq]
  refine fn_12_t_im _ _ _ _ _ _ _ ?_
  unfold fn_12_t
  exact sel_t (dt (by omega)) (sel_t (dt (by omega)) rfl)
theorem lp8 (s : ByteArray) (n : Int) (a : List NI) (b : List NN) (c : List NI) (d : List NN) (p : List NI) (q : List NN) (x : List NI) (y : List NN) (h : p.length ≤ 900) : op_L3_8 [.k 0, .n (0 : Int), .s s, .n n, .l TI a, .l TNd b, .l TI c, .l TNd d, .l TI p, .l TNd q, .l TI x, .l TNd y] = some (0, [.s s, .n n, .l TI a, .l TNd b, .l TI c, .l TNd d, .l TNd q, .l TI x, .l TNd y]) := by
  let T : Nat → List NI := fun i => Nat.rec p (fun i t => List.set t i (-5 : Int)) i
  have hT : ∀ i, (T i).length = p.length := fun i => by
    induction i with
    | zero => rfl
    | succ i ih => exact (List.length_set : (List.set (T i) i ((-5 : Int) : NI)).length = (T i).length).trans ih
  rw [op_L3_8_eq]
  refine iter_count (fun i => [.k 0, .n (i : Int), .s s, .n n, .l TI a, .l TNd b, .l TI c, .l TNd d, .l TI (T i), .l TNd q, .l TI x, .l TNd y]) p.length (0, [.s s, .n n, .l TI a, .l TNd b, .l TI c, .l TNd d, .l TNd q, .l TI x, .l TNd y]) (fun i hi => ?_) ?_ FU (lt_FU (by omega))
  · refine fn_L3_8_t_im _ _ _ _ _ _ _ _ _ _ _ (by omega) _ ?_
    unfold fn_L3_8_t
    refine sel_t (dt (show (i : Int) < ((T i).length : Int) by rw [hT]; omega)) ?_
    rw [w1n i (by omega)]; rfl
  · refine fn_L3_8_t_im _ _ _ _ _ _ _ _ _ _ _ (by omega) _ ?_
    unfold fn_L3_8_t
    exact sel_f (df (show ¬ ((p.length : Nat) : Int) < ((T p.length).length : Int) by rw [hT]; omega)) rfl
theorem lp12 (s : ByteArray) (n : Int) (a : List NI) (b : List NN) (c : List NI) (d : List NN) (q : List NN) (x : List NI) (y : List NN) (h : q.length ≤ 900) : op_L3_12 [.k 0, .n (0 : Int), .s s, .n n, .l TI a, .l TNd b, .l TI c, .l TNd d, .l TNd q, .l TI x, .l TNd y] = some (0, [.s s, .n n, .l TI a, .l TNd b, .l TI c, .l TNd d, .l TI x, .l TNd y]) := by
  let T : Nat → List NN := fun i => Nat.rec q (fun i t => List.set t i ((-5 : Int), false)) i
  have hT : ∀ i, (T i).length = q.length := fun i => by
    induction i with
    | zero => rfl
    | succ i ih => exact (List.length_set : (List.set (T i) i (((-5 : Int), false) : NN)).length = (T i).length).trans ih
  rw [op_L3_12_eq]
  refine iter_count (fun i => [.k 0, .n (i : Int), .s s, .n n, .l TI a, .l TNd b, .l TI c, .l TNd d, .l TNd (T i), .l TI x, .l TNd y]) q.length (0, [.s s, .n n, .l TI a, .l TNd b, .l TI c, .l TNd d, .l TI x, .l TNd y]) (fun i hi => ?_) ?_ FU (lt_FU (by omega))
  · refine fn_L3_12_t_im _ _ _ _ _ _ _ _ _ _ (by omega) _ ?_
    unfold fn_L3_12_t
    refine sel_t (dt (show (i : Int) < ((T i).length : Int) by rw [hT]; omega)) ?_
    rw [w1n i (by omega)]; rfl
  · refine fn_L3_12_t_im _ _ _ _ _ _ _ _ _ _ (by omega) _ ?_
    unfold fn_L3_12_t
    exact sel_f (df (show ¬ ((q.length : Nat) : Int) < ((T q.length).length : Int) by rw [hT]; omega)) rfl
theorem W3_true (s : ByteArray) (n : Int) (a : List NI) (b : List NN) (c : List NI) (d : List NN) : (ev_W3 [.s s, .n n, .l TI a, .l TNd b, .l TI c, .l TNd d]).sel = some true := by
  refine fn_W3_t_im _ _ _ _ _ _ _ ?_
  unfold fn_W3_t
  by_cases ha : (a.length : Int) > 200
  · exact sel_t (dt ha) rfl
  refine sel_f (df ha) ?_
  by_cases hc : (c.length : Int) > 200
  · exact sel_t (dt hc) rfl
  refine sel_f (df hc) ?_
  by_cases hb : (b.length : Int) > 200
  · exact sel_t (dt hb) rfl
  refine sel_f (df hb) ?_
  by_cases hd : (d.length : Int) > 200
  · exact sel_t (dt hd) rfl
  refine sel_f (df hd) ?_
  have ha' : a.length ≤ 200 := by omega
  have hb' : b.length ≤ 200 := by omega
  have hc' : c.length ≤ 200 := by omega
  have hd' : d.length ≤ 200 := by omega
  have e9 := o9 s n a b c d ha' hb' hc' hd'
  have e10 := o10 s n a b c d ha' hb' hc' hd'
  have e11 := o11 s n a b c d ha' hb' hc' hd'
  have e12 := o12 s n a b c d ha' hb' hc' hd'
  have l1 : (a ++ c).length ≤ 900 := by rw [List.length_append]; omega
  have l2 : (b ++ d).length ≤ 900 := by rw [List.length_append]; omega
  generalize a ++ c = x at e9 e11 l1
  generalize b ++ d = y at e10 e12 l2
  dsimp only
  rw [e9]; refine sel_t rfl ?_
  rw [e10]; refine sel_t rfl ?_
  rw [e11]; refine sel_t rfl ?_
  rw [e12]; refine sel_t rfl ?_
  erw [o13 x l1]; refine sel_t rfl (sel_f rfl ?_)
  erw [o14 y l2]; refine sel_t rfl (sel_f rfl ?_)
  erw [lp8 s n a b c d x y x y l1]; refine sel_t rfl ?_
  erw [lp12 s n a b c d y x y l2]; refine sel_t rfl ?_
  erw [e9]; refine sel_t rfl ?_
  erw [o13 x l1]; refine sel_t rfl (sel_t rfl ?_)
  erw [e10]; refine sel_t rfl ?_
  erw [o14 y l2]; exact sel_t rfl (sel_t rfl rfl)
end Go.Proofs.Ytlocflgfoodiiaa.Vx
