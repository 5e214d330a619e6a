import Derived.Test.YtgepnailecclkaaX26p0
import Derived.Test.YtgepnailecclkaaX26p1
import Derived.Test.YtgepnailecclkaaX26p2
import Derived.Test.YtgepnailecclkaaX26p3
import Derived.KernelRfl
import Derived.Test.YtgepnailecclkaaVxAid
namespace Go.Proofs.Ytgepnailecclkaa.Vx
open Go Go.RowKit
set_option linter.unusedVariables false
set_option linter.unusedSimpArgs false
set_option maxRecDepth 100000
set_option maxHeartbeats 0

noncomputable def fn_L3_13_x00 : List Dat → Tree Step
  | [.l (Ty.pair (Ty.int IntKind.u8) (Ty.int IntKind.u8)) l0, .n n1, .n n2, .n n3, .n n4, .n n5, .n n6, .n n7, .n n8, .n n9, .n n10, .n n11, .n n12, .n n13, .n n14, .n n15, .n n16, .n n17] =>
    (.leaf (Step.stop 0 []))
  | _ => .bad 0
theorem fn_L3_13_x00_im (l0 : List (Ty.den TSt)) (n1 : Int) (n2 : Int) (n3 : Int) (n4 : Int) (n5 : Int) (n6 : Int) (n7 : Int) (n8 : Int) (n9 : Int) (n10 : Int) (n11 : Int) (n12 : Int) (n13 : Int) (n14 : Int) (n15 : Int) (n16 : Int) (n17 : Int) (g0 : n2 = (l0.length : Int)) : Imp (fn_L3_13_x00 [.l TSt l0, .n n1, .n n2, .n n3, .n n4, .n n5, .n n6, .n n7, .n n8, .n n9, .n n10, .n n11, .n n12, .n n13, .n n14, .n n15, .n n16, .n n17]) (st_L3_13 [.k 0, .l TSt l0, .n n1, .n n2, .l TI (I2 n3 n4), .n n5, .n n6, .n n7, .l TI (I2 n8 n9), .n 0, .n n10, .n n11, .n 0, .n n12, .n n13, .n 1, .n n14, .n n15, .n 0, .n n16, .n n17]) :=
(.path [1] (by kernel_rfl)
(.pf (c := (decide (n2 < (↑(List.length l0) : Int)))) (by kernel_rfl) (by kernel_rfl) (by (simp [*]; done))
(.path [1] (by kernel_rfl)
(.leaf (by kernel_rfl)))))

noncomputable def fn_L3_13_x01 : List Dat → Tree Step
  | [.l (Ty.pair (Ty.int IntKind.u8) (Ty.int IntKind.u8)) l0, .n n1, .n n2, .n n3, .n n4, .n n5, .n n6, .n n7, .n n8, .n n9, .n n10, .n n11, .n n12, .n n13, .n n14, .n n15, .n n16, .n n17] =>
    (.leaf (Step.stop 0 []))
  | _ => .bad 0
theorem fn_L3_13_x01_im (l0 : List (Ty.den TSt)) (n1 : Int) (n2 : Int) (n3 : Int) (n4 : Int) (n5 : Int) (n6 : Int) (n7 : Int) (n8 : Int) (n9 : Int) (n10 : Int) (n11 : Int) (n12 : Int) (n13 : Int) (n14 : Int) (n15 : Int) (n16 : Int) (n17 : Int) (g0 : n2 = (l0.length : Int)) : Imp (fn_L3_13_x01 [.l TSt l0, .n n1, .n n2, .n n3, .n n4, .n n5, .n n6, .n n7, .n n8, .n n9, .n n10, .n n11, .n n12, .n n13, .n n14, .n n15, .n n16, .n n17]) (st_L3_13 [.k 0, .l TSt l0, .n n1, .n n2, .l TI (I2 n3 n4), .n n5, .n n6, .n n7, .l TI (I2 n8 n9), .n 0, .n n10, .n n11, .n 0, .n n12, .n n13, .n 1, .n n14, .n n15, .n 1, .n n16, .n n17]) :=
(.path [1] (by kernel_rfl)
(.pf (c := (decide (n2 < (↑(List.length l0) : Int)))) (by kernel_rfl) (by kernel_rfl) (by (simp [*]; done))
(.path [1] (by kernel_rfl)
(.leaf (by kernel_rfl)))))

noncomputable def fn_L3_13_x10 : List Dat → Tree Step
  | [.l (Ty.pair (Ty.int IntKind.u8) (Ty.int IntKind.u8)) l0, .n n1, .n n2, .n n3, .n n4, .n n5, .n n6, .n n7, .n n8, .n n9, .n n10, .n n11, .n n12, .n n13, .n n14, .n n15, .n n16, .n n17] =>
    (.leaf (Step.stop 0 []))
  | _ => .bad 0
theorem fn_L3_13_x10_im (l0 : List (Ty.den TSt)) (n1 : Int) (n2 : Int) (n3 : Int) (n4 : Int) (n5 : Int) (n6 : Int) (n7 : Int) (n8 : Int) (n9 : Int) (n10 : Int) (n11 : Int) (n12 : Int) (n13 : Int) (n14 : Int) (n15 : Int) (n16 : Int) (n17 : Int) (g0 : n2 = (l0.length : Int)) : Imp (fn_L3_13_x10 [.l TSt l0, .n n1, .n n2, .n n3, .n n4, .n n5, .n n6, .n n7, .n n8, .n n9, .n n10, .n n11, .n n12, .n n13, .n n14, .n n15, .n n16, .n n17]) (st_L3_13 [.k 0, .l TSt l0, .n n1, .n n2, .l TI (I2 n3 n4), .n n5, .n n6, .n n7, .l TI (I2 n8 n9), .n 0, .n n10, .n n11, .n 1, .n n12, .n n13, .n 1, .n n14, .n n15, .n 0, .n n16, .n n17]) :=
(.path [1] (by kernel_rfl)
(.pf (c := (decide (n2 < (↑(List.length l0) : Int)))) (by kernel_rfl) (by kernel_rfl) (by (simp [*]; done))
(.path [1] (by kernel_rfl)
(.leaf (by kernel_rfl)))))

noncomputable def fn_L3_13_x11 : List Dat → Tree Step
  | [.l (Ty.pair (Ty.int IntKind.u8) (Ty.int IntKind.u8)) l0, .n n1, .n n2, .n n3, .n n4, .n n5, .n n6, .n n7, .n n8, .n n9, .n n10, .n n11, .n n12, .n n13, .n n14, .n n15, .n n16, .n n17] =>
    (.leaf (Step.stop 0 []))
  | _ => .bad 0
theorem fn_L3_13_x11_im (l0 : List (Ty.den TSt)) (n1 : Int) (n2 : Int) (n3 : Int) (n4 : Int) (n5 : Int) (n6 : Int) (n7 : Int) (n8 : Int) (n9 : Int) (n10 : Int) (n11 : Int) (n12 : Int) (n13 : Int) (n14 : Int) (n15 : Int) (n16 : Int) (n17 : Int) (g0 : n2 = (l0.length : Int)) : Imp (fn_L3_13_x11 [.l TSt l0, .n n1, .n n2, .n n3, .n n4, .n n5, .n n6, .n n7, .n n8, .n n9, .n n10, .n n11, .n n12, .n n13, .n n14, .n n15, .n n16, .n n17]) (st_L3_13 [.k 0, .l TSt l0, .n n1, .n n2, .l TI (I2 n3 n4), .n n5, .n n6, .n n7, .l TI (I2 n8 n9), .n 0, .n n10, .n n11, .n 1, .n n12, .n n13, .n 1, .n n14, .n n15, .n 1, .n n16, .n n17]) :=
(.path [1] (by kernel_rfl)
(.pf (c := (decide (n2 < (↑(List.length l0) : Int)))) (by kernel_rfl) (by kernel_rfl) (by (simp [*]; done))
(.path [1] (by kernel_rfl)
(.leaf (by kernel_rfl)))))

theorem ls_3_ok : LsOk Try.prog (0) (lsM [(13, L3_13)] (0)) (bodyOf Try.prog 3) := LsOk.many fun j B hB hk c hc hi => by
  simp only [lookM] at hB
  split at hB
  · rename_i e; have := Nat.eq_of_beq_eq_true e; subst this; cases hB
    have e1 : loopAt Try.prog 3 13 = [cAt Try.prog 3 13] := loopAt_one (by kernel_rfl)
    have e2 : c ∈ loopAt Try.prog 3 13 := loopsAt_mem hc hi
    rw [e1] at e2; cases List.mem_singleton.1 e2; exact L3_13_run
  cases hB

noncomputable def ev_W3 (env : List Dat) : Tree Bool := Lk.lawB false LK cs_5 3 (lsM [(13, L3_13)] (0)) (instL [.imm TSt 0, .int .u8 1, .int .u8 2] env)

theorem W3_law (env : List Dat) (h : (ev_W3 env).sel = some true) {w : World} {args : Array Value} (ha : LRel R0 (snapOf w) (instL [.imm TSt 0, .int .u8 1, .int .u8 2] env) args) :
    Calls Try.prog 3 args w fun e w' => e = .returned (.bool true) ∧ Below w.heap.size w w' :=
  lawB_ok cs_5_ok hmix false (ls := (lsM [(13, L3_13)] (0))) (ls_3_ok) (by rw [← lawB_lk]; exact h) ha

noncomputable def fn_W3_t : List Dat → Tree Bool
  | [.l (Ty.pair (Ty.int IntKind.u8) (Ty.int IntKind.u8)) l0, .n n1, .n n2] =>
    (.node (decide ((↑(List.length l0) : Int) > (400 : Int)))
     (.leaf (true))
     (let r1 : Option (Nat × List Dat) := (op_L3_13 [.k 0, .l TSt l0, .n (10 : Int), .n (0 : Int), .l (Ty.int IntKind.i64) [IntKind.wrap .i64 (Int.tmod n1 (3 : Int)), IntKind.wrap .i64 (Int.tmod n2 (3 : Int))], .n (0 : Int), .n (-1 : Int), .n (0 : Int), .l (Ty.int IntKind.i64) [(0 : Int), (0 : Int)], .n (0 : Int), .n (0 : Int), .n (0 : Int), .n (0 : Int), .n (0 : Int), .n (0 : Int), .n (1 : Int), .n (0 : Int), .n (0 : Int), .n (0 : Int), .n (0 : Int), .n (0 : Int)]);
      (.node (isK 0 [] r1)
       (.leaf (true))
       (.node (isK 1 [HK.b] r1)
        (.leaf (gb (dOf r1) 0))
        (.bad 351)))))
  | _ => .bad 0
theorem fn_W3_t_im (l0 : List (Ty.den TSt)) (n1 : Int) (n2 : Int) (g0 : 0 ≤ n1) (g1 :  n1 ≤ 255) (g2 :  0 ≤ n2) (g3 :  n2 ≤ 255) : Imp (fn_W3_t [.l TSt l0, .n n1, .n n2]) (ev_W3 [.l TSt l0, .n n1, .n n2]) :=
(.node (by kernel_rfl) (by kernel_rfl) (fun h0 =>
(.path [1,1,1] (by kernel_rfl)
(.leaf (by kernel_rfl)))) (fun h0 =>
(.path [1,1,1,0,0,0,1,1,1,0,1,0,0,1,1] (by kernel_rfl)
(.node (by kernel_rfl) (by kernel_rfl) (fun h1 =>
(.path [1,1,1] (by kernel_rfl)
(.leaf (by kernel_rfl)))) (fun h1 =>
(.node (by kernel_rfl) (by kernel_rfl) (fun h2 =>
(.leaf (by kernel_rfl))) (fun h2 =>
.none)))))))
end Go.Proofs.Ytgepnailecclkaa.Vx
namespace Go.Proofs.Ytgepnailecclkaa.Vx
open Go Go.RowKit
set_option linter.unusedVariables false
set_option linter.unusedSimpArgs false
set_option maxRecDepth 100000
set_option maxHeartbeats 0
theorem imax_max (a b : Int) : imax a b = max a b := by unfold imax; omega
abbrev LSt := List (Ty.den TSt)
abbrev st26 (l : LSt) (now i x y E H U a b e0 u0 R0 k0 q0 e1 u1 R1 k1 q1 : Int) : List Dat := [.k 0, .l TSt l, .n now, .n i, .l TI (I2 x y), .n E, .n H, .n U, .l TI (I2 a b), .n 0, .n e0, .n u0, .n R0, .n k0, .n q0, .n 1, .n e1, .n u1, .n R1, .n k1, .n q1]
structure C26 (now i x y E H U a b e0 u0 k0 q0 e1 u1 k1 q1 : Int) : Prop where
  c0 : 0 ≤ i
  c1 : i ≤ 400
  c2 : 10 ≤ now
  c3 : now ≤ 10 + i
  c4 : 0 ≤ x
  c5 : x ≤ 2
  c6 : 0 ≤ y
  c7 : y ≤ 2
  c8 : 0 ≤ E
  c9 : E ≤ i
  c10 : -1 ≤ H
  c11 : H ≤ 1
  c12 : (E > 0 ∨ H = -1)
  c13 : 0 ≤ U
  c14 : U ≤ now + 8
  c15 : 0 ≤ a
  c16 : a ≤ E
  c17 : 0 ≤ b
  c18 : b ≤ E
  c19 : 0 ≤ e0
  c20 : e0 ≤ E
  c21 : 0 ≤ u0
  c22 : u0 ≤ now + 8
  c23 : 0 ≤ k0
  c24 : k0 ≤ E
  c25 : 0 ≤ q0
  c26 : q0 ≤ 4
  c27 : 0 ≤ e1
  c28 : e1 ≤ E
  c29 : 0 ≤ u1
  c30 : u1 ≤ now + 8
  c31 : 0 ≤ k1
  c32 : k1 ≤ E
  c33 : 0 ≤ q1
  c34 : q1 ≤ 4
  c35 : (u0 < now ∨ (H = 0 ∧ u0 ≤ U))
  c36 : (u1 < now ∨ (H = 1 ∧ u1 ≤ U))

def Inv26 (l : LSt) (e : List Dat) : Prop := ∃ now i x y E H U a b e0 u0 R0 k0 q0 e1 u1 R1 k1 q1, e = st26 l now i x y E H U a b e0 u0 R0 k0 q0 e1 u1 R1 k1 q1 ∧ (R0 = 0 ∨ R0 = 1) ∧ (R1 = 0 ∨ R1 = 1) ∧ C26 now i x y E H U a b e0 u0 k0 q0 e1 u1 k1 q1 ∧ i ≤ (l.length : Int)
def Nx (l : LSt) (i : Int) : Step → Prop
  | .go e => Inv26 l e ∧ gn e 3 = i + 1
  | .stop k d => k = 0 ∧ d = []
theorem s_r00p0k0 (l : LSt) (n1 n2 n3 n4 n5 n6 n7 n8 n9 n10 n11 n12 n13 n14 n15 n16 n17 : Int) (h : C26 n1 n2 n3 n4 n5 n6 n7 n8 n9 n10 n11 n12 n13 n14 n15 n16 n17) (hi : n2 < (l.length : Int)) (hl : (l.length : Int) ≤ 400) (hk : sp1 l n2 = 0) (hp : sp2 l n2 = 0) : Good (Nx l n2) (st_L3_13 (st26 l n1 n2 n3 n4 n5 n6 n7 n8 n9 n10 n11 0 n12 n13 n14 n15 0 n16 n17)).sel := by
  obtain ⟨c0, c1, c2, c3, c4, c5, c6, c7, c8, c9, c10, c11, c12, c13, c14, c15, c16, c17, c18, c19, c20, c21, c22, c23, c24, c25, c26, c27, c28, c29, c30, c31, c32, c33, c34, c35, c36⟩ := h
  have gA : gd2 n3 n4 (sp2 l n2) = n3 := by rw [hp]; rfl
  have gB : gd2 n8 n9 (sp2 l n2) = n8 := by rw [hp]; rfl
  refine (fn_L3_13_r00p0k0_im l n1 n2 n3 n4 n5 n6 n7 n8 n9 n10 n11 n12 n13 n14 n15 n16 n17 c0 hi c1 c2 c3 c4 c5 c6 c7 c8 c9 c10 c11 c12 c13 c14 c15 c16 c17 c18 c19 c20 c21 c22 c23 c24 c25 c26 c27 c28 c29 c30 c31 c32 c33 c34 c35 c36 hk hp gA gB).good ?_
  have w1 : IntKind.wrap .i64 (n2 + 1) = n2 + 1 := w64 (by omega) (by omega)
  have w2 : IntKind.wrap .i64 (n1 + 1) = n1 + 1 := w64 (by omega) (by omega)
  have w3 : IntKind.wrap .i64 (n5 + 1) = n5 + 1 := w64 (by omega) (by omega)
  have w4 : IntKind.wrap .i64 (n1 + 8) = n1 + 8 := w64 (by omega) (by omega)
  have w5 : IntKind.wrap .i64 (n13 + 1) = n13 + 1 := w64 (by omega) (by omega)
  have w6 : IntKind.wrap .i64 (n17 + 1) = n17 + 1 := w64 (by omega) (by omega)
  have w7 : IntKind.wrap .i64 (n1 - n3 + 8) = n1 - n3 + 8 := w64 (by omega) (by omega)
  unfold fn_L3_13_r00p0k0
  have ga : gd2 n3 n4 0 = n3 := rfl
  have gb' : gd2 n8 n9 0 = n8 := rfl
  simp only [w1, w2, w3, w4, w5, w6, w7, hp, ga, gb', imax_max]
  clear w1 w2 w3 w4 w5 w6 w7 hk hp gA gB ga gb'
  repeat' (refine good_node (fun _ => ?_) (fun _ => ?_))
  all_goals first
    | exact good_leaf ⟨⟨_, _, _, _, _, _, _, _, _, _, _, _, _, _, _, _, _, _, _, rfl, by first | exact .inl rfl | exact .inr rfl, by first | exact .inl rfl | exact .inr rfl, (by (try simp only [DS] at *); constructor <;> first | assumption | omega), by omega⟩, rfl⟩
    | (exfalso; (try simp only [DS] at *); omega)
theorem s_r00p0k1 (l : LSt) (n1 n2 n3 n4 n5 n6 n7 n8 n9 n10 n11 n12 n13 n14 n15 n16 n17 : Int) (h : C26 n1 n2 n3 n4 n5 n6 n7 n8 n9 n10 n11 n12 n13 n14 n15 n16 n17) (hi : n2 < (l.length : Int)) (hl : (l.length : Int) ≤ 400) (hk : sp1 l n2 = 1) (hp : sp2 l n2 = 0) : Good (Nx l n2) (st_L3_13 (st26 l n1 n2 n3 n4 n5 n6 n7 n8 n9 n10 n11 0 n12 n13 n14 n15 0 n16 n17)).sel := by
  obtain ⟨c0, c1, c2, c3, c4, c5, c6, c7, c8, c9, c10, c11, c12, c13, c14, c15, c16, c17, c18, c19, c20, c21, c22, c23, c24, c25, c26, c27, c28, c29, c30, c31, c32, c33, c34, c35, c36⟩ := h
  have gA : gd2 n3 n4 (sp2 l n2) = n3 := by rw [hp]; rfl
  have gB : gd2 n8 n9 (sp2 l n2) = n8 := by rw [hp]; rfl
  refine (fn_L3_13_r00p0k1_im l n1 n2 n3 n4 n5 n6 n7 n8 n9 n10 n11 n12 n13 n14 n15 n16 n17 c0 hi c1 c2 c3 c4 c5 c6 c7 c8 c9 c10 c11 c12 c13 c14 c15 c16 c17 c18 c19 c20 c21 c22 c23 c24 c25 c26 c27 c28 c29 c30 c31 c32 c33 c34 c35 c36 hk hp gA gB).good ?_
  have w1 : IntKind.wrap .i64 (n2 + 1) = n2 + 1 := w64 (by omega) (by omega)
  have w2 : IntKind.wrap .i64 (n1 + 1) = n1 + 1 := w64 (by omega) (by omega)
  have w3 : IntKind.wrap .i64 (n5 + 1) = n5 + 1 := w64 (by omega) (by omega)
  have w4 : IntKind.wrap .i64 (n1 + 8) = n1 + 8 := w64 (by omega) (by omega)
  have w5 : IntKind.wrap .i64 (n13 + 1) = n13 + 1 := w64 (by omega) (by omega)
  have w6 : IntKind.wrap .i64 (n17 + 1) = n17 + 1 := w64 (by omega) (by omega)
  have w7 : IntKind.wrap .i64 (n1 - n3 + 8) = n1 - n3 + 8 := w64 (by omega) (by omega)
  unfold fn_L3_13_r00p0k1
  have ga : gd2 n3 n4 0 = n3 := rfl
  have gb' : gd2 n8 n9 0 = n8 := rfl
  simp only [w1, w2, w3, w4, w5, w6, w7, hp, ga, gb', imax_max]
  clear w1 w2 w3 w4 w5 w6 w7 hk hp gA gB ga gb'
  repeat' (refine good_node (fun _ => ?_) (fun _ => ?_))
  all_goals first
    | exact good_leaf ⟨⟨_, _, _, _, _, _, _, _, _, _, _, _, _, _, _, _, _, _, _, rfl, by first | exact .inl rfl | exact .inr rfl, by first | exact .inl rfl | exact .inr rfl, (by (try simp only [DS] at *); constructor <;> first | assumption | omega), by omega⟩, rfl⟩
    | (exfalso; (try simp only [DS] at *); omega)
theorem s_r00p0k2 (l : LSt) (n1 n2 n3 n4 n5 n6 n7 n8 n9 n10 n11 n12 n13 n14 n15 n16 n17 : Int) (h : C26 n1 n2 n3 n4 n5 n6 n7 n8 n9 n10 n11 n12 n13 n14 n15 n16 n17) (hi : n2 < (l.length : Int)) (hl : (l.length : Int) ≤ 400) (hk : sp1 l n2 = 2) (hp : sp2 l n2 = 0) : Good (Nx l n2) (st_L3_13 (st26 l n1 n2 n3 n4 n5 n6 n7 n8 n9 n10 n11 0 n12 n13 n14 n15 0 n16 n17)).sel := by
  obtain ⟨c0, c1, c2, c3, c4, c5, c6, c7, c8, c9, c10, c11, c12, c13, c14, c15, c16, c17, c18, c19, c20, c21, c22, c23, c24, c25, c26, c27, c28, c29, c30, c31, c32, c33, c34, c35, c36⟩ := h
  have gA : gd2 n3 n4 (sp2 l n2) = n3 := by rw [hp]; rfl
  have gB : gd2 n8 n9 (sp2 l n2) = n8 := by rw [hp]; rfl
  refine (fn_L3_13_r00p0k2_im l n1 n2 n3 n4 n5 n6 n7 n8 n9 n10 n11 n12 n13 n14 n15 n16 n17 c0 hi c1 c2 c3 c4 c5 c6 c7 c8 c9 c10 c11 c12 c13 c14 c15 c16 c17 c18 c19 c20 c21 c22 c23 c24 c25 c26 c27 c28 c29 c30 c31 c32 c33 c34 c35 c36 hk hp gA gB).good ?_
  have w1 : IntKind.wrap .i64 (n2 + 1) = n2 + 1 := w64 (by omega) (by omega)
  have w2 : IntKind.wrap .i64 (n1 + 1) = n1 + 1 := w64 (by omega) (by omega)
  have w3 : IntKind.wrap .i64 (n5 + 1) = n5 + 1 := w64 (by omega) (by omega)
  have w4 : IntKind.wrap .i64 (n1 + 8) = n1 + 8 := w64 (by omega) (by omega)
  have w5 : IntKind.wrap .i64 (n13 + 1) = n13 + 1 := w64 (by omega) (by omega)
  have w6 : IntKind.wrap .i64 (n17 + 1) = n17 + 1 := w64 (by omega) (by omega)
  have w7 : IntKind.wrap .i64 (n1 - n3 + 8) = n1 - n3 + 8 := w64 (by omega) (by omega)
  unfold fn_L3_13_r00p0k2
  have ga : gd2 n3 n4 0 = n3 := rfl
  have gb' : gd2 n8 n9 0 = n8 := rfl
  simp only [w1, w2, w3, w4, w5, w6, w7, hp, ga, gb', imax_max]
  clear w1 w2 w3 w4 w5 w6 w7 hk hp gA gB ga gb'
  repeat' (refine good_node (fun _ => ?_) (fun _ => ?_))
  all_goals first
    | exact good_leaf ⟨⟨_, _, _, _, _, _, _, _, _, _, _, _, _, _, _, _, _, _, _, rfl, by first | exact .inl rfl | exact .inr rfl, by first | exact .inl rfl | exact .inr rfl, (by (try simp only [DS] at *); constructor <;> first | assumption | omega), by omega⟩, rfl⟩
    | (exfalso; (try simp only [DS] at *); omega)
theorem s_r00p0k3 (l : LSt) (n1 n2 n3 n4 n5 n6 n7 n8 n9 n10 n11 n12 n13 n14 n15 n16 n17 : Int) (h : C26 n1 n2 n3 n4 n5 n6 n7 n8 n9 n10 n11 n12 n13 n14 n15 n16 n17) (hi : n2 < (l.length : Int)) (hl : (l.length : Int) ≤ 400) (hk : sp1 l n2 = 3) (hp : sp2 l n2 = 0) : Good (Nx l n2) (st_L3_13 (st26 l n1 n2 n3 n4 n5 n6 n7 n8 n9 n10 n11 0 n12 n13 n14 n15 0 n16 n17)).sel := by
  obtain ⟨c0, c1, c2, c3, c4, c5, c6, c7, c8, c9, c10, c11, c12, c13, c14, c15, c16, c17, c18, c19, c20, c21, c22, c23, c24, c25, c26, c27, c28, c29, c30, c31, c32, c33, c34, c35, c36⟩ := h
  have gA : gd2 n3 n4 (sp2 l n2) = n3 := by rw [hp]; rfl
  have gB : gd2 n8 n9 (sp2 l n2) = n8 := by rw [hp]; rfl
  refine (fn_L3_13_r00p0k3_im l n1 n2 n3 n4 n5 n6 n7 n8 n9 n10 n11 n12 n13 n14 n15 n16 n17 c0 hi c1 c2 c3 c4 c5 c6 c7 c8 c9 c10 c11 c12 c13 c14 c15 c16 c17 c18 c19 c20 c21 c22 c23 c24 c25 c26 c27 c28 c29 c30 c31 c32 c33 c34 c35 c36 hk hp gA gB).good ?_
  have w1 : IntKind.wrap .i64 (n2 + 1) = n2 + 1 := w64 (by omega) (by omega)
  have w2 : IntKind.wrap .i64 (n1 + 1) = n1 + 1 := w64 (by omega) (by omega)
  have w3 : IntKind.wrap .i64 (n5 + 1) = n5 + 1 := w64 (by omega) (by omega)
  have w4 : IntKind.wrap .i64 (n1 + 8) = n1 + 8 := w64 (by omega) (by omega)
  have w5 : IntKind.wrap .i64 (n13 + 1) = n13 + 1 := w64 (by omega) (by omega)
  have w6 : IntKind.wrap .i64 (n17 + 1) = n17 + 1 := w64 (by omega) (by omega)
  have w7 : IntKind.wrap .i64 (n1 - n3 + 8) = n1 - n3 + 8 := w64 (by omega) (by omega)
  unfold fn_L3_13_r00p0k3
  have ga : gd2 n3 n4 0 = n3 := rfl
  have gb' : gd2 n8 n9 0 = n8 := rfl
  simp only [w1, w2, w3, w4, w5, w6, w7, hp, ga, gb', imax_max]
  clear w1 w2 w3 w4 w5 w6 w7 hk hp gA gB ga gb'
  repeat' (refine good_node (fun _ => ?_) (fun _ => ?_))
  all_goals first
    | exact good_leaf ⟨⟨_, _, _, _, _, _, _, _, _, _, _, _, _, _, _, _, _, _, _, rfl, by first | exact .inl rfl | exact .inr rfl, by first | exact .inl rfl | exact .inr rfl, (by (try simp only [DS] at *); constructor <;> first | assumption | omega), by omega⟩, rfl⟩
    | (exfalso; (try simp only [DS] at *); omega)
theorem s_r00p0k4 (l : LSt) (n1 n2 n3 n4 n5 n6 n7 n8 n9 n10 n11 n12 n13 n14 n15 n16 n17 : Int) (h : C26 n1 n2 n3 n4 n5 n6 n7 n8 n9 n10 n11 n12 n13 n14 n15 n16 n17) (hi : n2 < (l.length : Int)) (hl : (l.length : Int) ≤ 400) (hk : sp1 l n2 = 4) (hp : sp2 l n2 = 0) : Good (Nx l n2) (st_L3_13 (st26 l n1 n2 n3 n4 n5 n6 n7 n8 n9 n10 n11 0 n12 n13 n14 n15 0 n16 n17)).sel := by
  obtain ⟨c0, c1, c2, c3, c4, c5, c6, c7, c8, c9, c10, c11, c12, c13, c14, c15, c16, c17, c18, c19, c20, c21, c22, c23, c24, c25, c26, c27, c28, c29, c30, c31, c32, c33, c34, c35, c36⟩ := h
  have gA : gd2 n3 n4 (sp2 l n2) = n3 := by rw [hp]; rfl
  have gB : gd2 n8 n9 (sp2 l n2) = n8 := by rw [hp]; rfl
  refine (fn_L3_13_r00p0k4_im l n1 n2 n3 n4 n5 n6 n7 n8 n9 n10 n11 n12 n13 n14 n15 n16 n17 c0 hi c1 c2 c3 c4 c5 c6 c7 c8 c9 c10 c11 c12 c13 c14 c15 c16 c17 c18 c19 c20 c21 c22 c23 c24 c25 c26 c27 c28 c29 c30 c31 c32 c33 c34 c35 c36 hk hp gA gB).good ?_
  have w1 : IntKind.wrap .i64 (n2 + 1) = n2 + 1 := w64 (by omega) (by omega)
  have w2 : IntKind.wrap .i64 (n1 + 1) = n1 + 1 := w64 (by omega) (by omega)
  have w3 : IntKind.wrap .i64 (n5 + 1) = n5 + 1 := w64 (by omega) (by omega)
  have w4 : IntKind.wrap .i64 (n1 + 8) = n1 + 8 := w64 (by omega) (by omega)
  have w5 : IntKind.wrap .i64 (n13 + 1) = n13 + 1 := w64 (by omega) (by omega)
  have w6 : IntKind.wrap .i64 (n17 + 1) = n17 + 1 := w64 (by omega) (by omega)
  have w7 : IntKind.wrap .i64 (n1 - n3 + 8) = n1 - n3 + 8 := w64 (by omega) (by omega)
  unfold fn_L3_13_r00p0k4
  have ga : gd2 n3 n4 0 = n3 := rfl
  have gb' : gd2 n8 n9 0 = n8 := rfl
  simp only [w1, w2, w3, w4, w5, w6, w7, hp, ga, gb', imax_max]
  clear w1 w2 w3 w4 w5 w6 w7 hk hp gA gB ga gb'
  repeat' (refine good_node (fun _ => ?_) (fun _ => ?_))
  all_goals first
    | exact good_leaf ⟨⟨_, _, _, _, _, _, _, _, _, _, _, _, _, _, _, _, _, _, _, rfl, by first | exact .inl rfl | exact .inr rfl, by first | exact .inl rfl | exact .inr rfl, (by (try simp only [DS] at *); constructor <;> first | assumption | omega), by omega⟩, rfl⟩
    | (exfalso; (try simp only [DS] at *); omega)
theorem s_r00p0k5 (l : LSt) (n1 n2 n3 n4 n5 n6 n7 n8 n9 n10 n11 n12 n13 n14 n15 n16 n17 : Int) (h : C26 n1 n2 n3 n4 n5 n6 n7 n8 n9 n10 n11 n12 n13 n14 n15 n16 n17) (hi : n2 < (l.length : Int)) (hl : (l.length : Int) ≤ 400) (hk : sp1 l n2 = 5) (hp : sp2 l n2 = 0) : Good (Nx l n2) (st_L3_13 (st26 l n1 n2 n3 n4 n5 n6 n7 n8 n9 n10 n11 0 n12 n13 n14 n15 0 n16 n17)).sel := by
  obtain ⟨c0, c1, c2, c3, c4, c5, c6, c7, c8, c9, c10, c11, c12, c13, c14, c15, c16, c17, c18, c19, c20, c21, c22, c23, c24, c25, c26, c27, c28, c29, c30, c31, c32, c33, c34, c35, c36⟩ := h
  have gA : gd2 n3 n4 (sp2 l n2) = n3 := by rw [hp]; rfl
  have gB : gd2 n8 n9 (sp2 l n2) = n8 := by rw [hp]; rfl
  refine (fn_L3_13_r00p0k5_im l n1 n2 n3 n4 n5 n6 n7 n8 n9 n10 n11 n12 n13 n14 n15 n16 n17 c0 hi c1 c2 c3 c4 c5 c6 c7 c8 c9 c10 c11 c12 c13 c14 c15 c16 c17 c18 c19 c20 c21 c22 c23 c24 c25 c26 c27 c28 c29 c30 c31 c32 c33 c34 c35 c36 hk hp gA gB).good ?_
  have w1 : IntKind.wrap .i64 (n2 + 1) = n2 + 1 := w64 (by omega) (by omega)
  have w2 : IntKind.wrap .i64 (n1 + 1) = n1 + 1 := w64 (by omega) (by omega)
  have w3 : IntKind.wrap .i64 (n5 + 1) = n5 + 1 := w64 (by omega) (by omega)
  have w4 : IntKind.wrap .i64 (n1 + 8) = n1 + 8 := w64 (by omega) (by omega)
  have w5 : IntKind.wrap .i64 (n13 + 1) = n13 + 1 := w64 (by omega) (by omega)
  have w6 : IntKind.wrap .i64 (n17 + 1) = n17 + 1 := w64 (by omega) (by omega)
  have w7 : IntKind.wrap .i64 (n1 - n3 + 8) = n1 - n3 + 8 := w64 (by omega) (by omega)
  unfold fn_L3_13_r00p0k5
  have ga : gd2 n3 n4 0 = n3 := rfl
  have gb' : gd2 n8 n9 0 = n8 := rfl
  simp only [w1, w2, w3, w4, w5, w6, w7, hp, ga, gb', imax_max]
  clear w1 w2 w3 w4 w5 w6 w7 hk hp gA gB ga gb'
  repeat' (refine good_node (fun _ => ?_) (fun _ => ?_))
  all_goals first
    | exact good_leaf ⟨⟨_, _, _, _, _, _, _, _, _, _, _, _, _, _, _, _, _, _, _, rfl, by first | exact .inl rfl | exact .inr rfl, by first | exact .inl rfl | exact .inr rfl, (by (try simp only [DS] at *); constructor <;> first | assumption | omega), by omega⟩, rfl⟩
    | (exfalso; (try simp only [DS] at *); omega)
theorem s_r00p1k0 (l : LSt) (n1 n2 n3 n4 n5 n6 n7 n8 n9 n10 n11 n12 n13 n14 n15 n16 n17 : Int) (h : C26 n1 n2 n3 n4 n5 n6 n7 n8 n9 n10 n11 n12 n13 n14 n15 n16 n17) (hi : n2 < (l.length : Int)) (hl : (l.length : Int) ≤ 400) (hk : sp1 l n2 = 0) (hp : sp2 l n2 = 1) : Good (Nx l n2) (st_L3_13 (st26 l n1 n2 n3 n4 n5 n6 n7 n8 n9 n10 n11 0 n12 n13 n14 n15 0 n16 n17)).sel := by
  obtain ⟨c0, c1, c2, c3, c4, c5, c6, c7, c8, c9, c10, c11, c12, c13, c14, c15, c16, c17, c18, c19, c20, c21, c22, c23, c24, c25, c26, c27, c28, c29, c30, c31, c32, c33, c34, c35, c36⟩ := h
  have gA : gd2 n3 n4 (sp2 l n2) = n4 := by rw [hp]; rfl
  have gB : gd2 n8 n9 (sp2 l n2) = n9 := by rw [hp]; rfl
  refine (fn_L3_13_r00p1k0_im l n1 n2 n3 n4 n5 n6 n7 n8 n9 n10 n11 n12 n13 n14 n15 n16 n17 c0 hi c1 c2 c3 c4 c5 c6 c7 c8 c9 c10 c11 c12 c13 c14 c15 c16 c17 c18 c19 c20 c21 c22 c23 c24 c25 c26 c27 c28 c29 c30 c31 c32 c33 c34 c35 c36 hk hp gA gB).good ?_
  have w1 : IntKind.wrap .i64 (n2 + 1) = n2 + 1 := w64 (by omega) (by omega)
  have w2 : IntKind.wrap .i64 (n1 + 1) = n1 + 1 := w64 (by omega) (by omega)
  have w3 : IntKind.wrap .i64 (n5 + 1) = n5 + 1 := w64 (by omega) (by omega)
  have w4 : IntKind.wrap .i64 (n1 + 8) = n1 + 8 := w64 (by omega) (by omega)
  have w5 : IntKind.wrap .i64 (n13 + 1) = n13 + 1 := w64 (by omega) (by omega)
  have w6 : IntKind.wrap .i64 (n17 + 1) = n17 + 1 := w64 (by omega) (by omega)
  have w7 : IntKind.wrap .i64 (n1 - n4 + 8) = n1 - n4 + 8 := w64 (by omega) (by omega)
  unfold fn_L3_13_r00p1k0
  have ga : gd2 n3 n4 1 = n4 := rfl
  have gb' : gd2 n8 n9 1 = n9 := rfl
  simp only [w1, w2, w3, w4, w5, w6, w7, hp, ga, gb', imax_max]
  clear w1 w2 w3 w4 w5 w6 w7 hk hp gA gB ga gb'
  repeat' (refine good_node (fun _ => ?_) (fun _ => ?_))
  all_goals first
    | exact good_leaf ⟨⟨_, _, _, _, _, _, _, _, _, _, _, _, _, _, _, _, _, _, _, rfl, by first | exact .inl rfl | exact .inr rfl, by first | exact .inl rfl | exact .inr rfl, (by (try simp only [DS] at *); constructor <;> first | assumption | omega), by omega⟩, rfl⟩
    | (exfalso; (try simp only [DS] at *); omega)
theorem s_r00p1k1 (l : LSt) (n1 n2 n3 n4 n5 n6 n7 n8 n9 n10 n11 n12 n13 n14 n15 n16 n17 : Int) (h : C26 n1 n2 n3 n4 n5 n6 n7 n8 n9 n10 n11 n12 n13 n14 n15 n16 n17) (hi : n2 < (l.length : Int)) (hl : (l.length : Int) ≤ 400) (hk : sp1 l n2 = 1) (hp : sp2 l n2 = 1) : Good (Nx l n2) (st_L3_13 (st26 l n1 n2 n3 n4 n5 n6 n7 n8 n9 n10 n11 0 n12 n13 n14 n15 0 n16 n17)).sel := by
  obtain ⟨c0, c1, c2, c3, c4, c5, c6, c7, c8, c9, c10, c11, c12, c13, c14, c15, c16, c17, c18, c19, c20, c21, c22, c23, c24, c25, c26, c27, c28, c29, c30, c31, c32, c33, c34, c35, c36⟩ := h
  have gA : gd2 n3 n4 (sp2 l n2) = n4 := by rw [hp]; rfl
  have gB : gd2 n8 n9 (sp2 l n2) = n9 := by rw [hp]; rfl
  refine (fn_L3_13_r00p1k1_im l n1 n2 n3 n4 n5 n6 n7 n8 n9 n10 n11 n12 n13 n14 n15 n16 n17 c0 hi c1 c2 c3 c4 c5 c6 c7 c8 c9 c10 c11 c12 c13 c14 c15 c16 c17 c18 c19 c20 c21 c22 c23 c24 c25 c26 c27 c28 c29 c30 c31 c32 c33 c34 c35 c36 hk hp gA gB).good ?_
  have w1 : IntKind.wrap .i64 (n2 + 1) = n2 + 1 := w64 (by omega) (by omega)
  have w2 : IntKind.wrap .i64 (n1 + 1) = n1 + 1 := w64 (by omega) (by omega)
  have w3 : IntKind.wrap .i64 (n5 + 1) = n5 + 1 := w64 (by omega) (by omega)
  have w4 : IntKind.wrap .i64 (n1 + 8) = n1 + 8 := w64 (by omega) (by omega)
  have w5 : IntKind.wrap .i64 (n13 + 1) = n13 + 1 := w64 (by omega) (by omega)
  have w6 : IntKind.wrap .i64 (n17 + 1) = n17 + 1 := w64 (by omega) (by omega)
  have w7 : IntKind.wrap .i64 (n1 - n4 + 8) = n1 - n4 + 8 := w64 (by omega) (by omega)
  unfold fn_L3_13_r00p1k1
  have ga : gd2 n3 n4 1 = n4 := rfl
  have gb' : gd2 n8 n9 1 = n9 := rfl
  simp only [w1, w2, w3, w4, w5, w6, w7, hp, ga, gb', imax_max]
  clear w1 w2 w3 w4 w5 w6 w7 hk hp gA gB ga gb'
  repeat' (refine good_node (fun _ => ?_) (fun _ => ?_))
  all_goals first
    | exact good_leaf ⟨⟨_, _, _, _, _, _, _, _, _, _, _, _, _, _, _, _, _, _, _, rfl, by first | exact .inl rfl | exact .inr rfl, by first | exact .inl rfl | exact .inr rfl, (by (try simp only [DS] at *); constructor <;> first | assumption | omega), by omega⟩, rfl⟩
    | (exfalso; (try simp only [DS] at *); omega)
theorem s_r00p1k2 (l : LSt) (n1 n2 n3 n4 n5 n6 n7 n8 n9 n10 n11 n12 n13 n14 n15 n16 n17 : Int) (h : C26 n1 n2 n3 n4 n5 n6 n7 n8 n9 n10 n11 n12 n13 n14 n15 n16 n17) (hi : n2 < (l.length : Int)) (hl : (l.length : Int) ≤ 400) (hk : sp1 l n2 = 2) (hp : sp2 l n2 = 1) : Good (Nx l n2) (st_L3_13 (st26 l n1 n2 n3 n4 n5 n6 n7 n8 n9 n10 n11 0 n12 n13 n14 n15 0 n16 n17)).sel := by
  obtain ⟨c0, c1, c2, c3, c4, c5, c6, c7, c8, c9, c10, c11, c12, c13, c14, c15, c16, c17, c18, c19, c20, c21, c22, c23, c24, c25, c26, c27, c28, c29, c30, c31, c32, c33, c34, c35, c36⟩ := h
  have gA : gd2 n3 n4 (sp2 l n2) = n4 := by rw [hp]; rfl
  have gB : gd2 n8 n9 (sp2 l n2) = n9 := by rw [hp]; rfl
  refine (fn_L3_13_r00p1k2_im l n1 n2 n3 n4 n5 n6 n7 n8 n9 n10 n11 n12 n13 n14 n15 n16 n17 c0 hi c1 c2 c3 c4 c5 c6 c7 c8 c9 c10 c11 c12 c13 c14 c15 c16 c17 c18 c19 c20 c21 c22 c23 c24 c25 c26 c27 c28 c29 c30 c31 c32 c33 c34 c35 c36 hk hp gA gB).good ?_
  have w1 : IntKind.wrap .i64 (n2 + 1) = n2 + 1 := w64 (by omega) (by omega)
  have w2 : IntKind.wrap .i64 (n1 + 1) = n1 + 1 := w64 (by omega) (by omega)
  have w3 : IntKind.wrap .i64 (n5 + 1) = n5 + 1 := w64 (by omega) (by omega)
  have w4 : IntKind.wrap .i64 (n1 + 8) = n1 + 8 := w64 (by omega) (by omega)
  have w5 : IntKind.wrap .i64 (n13 + 1) = n13 + 1 := w64 (by omega) (by omega)
  have w6 : IntKind.wrap .i64 (n17 + 1) = n17 + 1 := w64 (by omega) (by omega)
  have w7 : IntKind.wrap .i64 (n1 - n4 + 8) = n1 - n4 + 8 := w64 (by omega) (by omega)
  unfold fn_L3_13_r00p1k2
  have ga : gd2 n3 n4 1 = n4 := rfl
  have gb' : gd2 n8 n9 1 = n9 := rfl
  simp only [w1, w2, w3, w4, w5, w6, w7, hp, ga, gb', imax_max]
  clear w1 w2 w3 w4 w5 w6 w7 hk hp gA gB ga gb'
  repeat' (refine good_node (fun _ => ?_) (fun _ => ?_))
  all_goals first
    | exact good_leaf ⟨⟨_, _, _, _, _, _, _, _, _, _, _, _, _, _, _, _, _, _, _, rfl, by first | exact .inl rfl | exact .inr rfl, by first | exact .inl rfl | exact .inr rfl, (by (try simp only [DS] at *); constructor <;> first | assumption | omega), by omega⟩, rfl⟩
    | (exfalso; (try simp only [DS] at *); omega)
theorem s_r00p1k3 (l : LSt) (n1 n2 n3 n4 n5 n6 n7 n8 n9 n10 n11 n12 n13 n14 n15 n16 n17 : Int) (h : C26 n1 n2 n3 n4 n5 n6 n7 n8 n9 n10 n11 n12 n13 n14 n15 n16 n17) (hi : n2 < (l.length : Int)) (hl : (l.length : Int) ≤ 400) (hk : sp1 l n2 = 3) (hp : sp2 l n2 = 1) : Good (Nx l n2) (st_L3_13 (st26 l n1 n2 n3 n4 n5 n6 n7 n8 n9 n10 n11 0 n12 n13 n14 n15 0 n16 n17)).sel := by
  obtain ⟨c0, c1, c2, c3, c4, c5, c6, c7, c8, c9, c10, c11, c12, c13, c14, c15, c16, c17, c18, c19, c20, c21, c22, c23, c24, c25, c26, c27, c28, c29, c30, c31, c32, c33, c34, c35, c36⟩ := h
  have gA : gd2 n3 n4 (sp2 l n2) = n4 := by rw [hp]; rfl
  have gB : gd2 n8 n9 (sp2 l n2) = n9 := by rw [hp]; rfl
  refine (fn_L3_13_r00p1k3_im l n1 n2 n3 n4 n5 n6 n7 n8 n9 n10 n11 n12 n13 n14 n15 n16 n17 c0 hi c1 c2 c3 c4 c5 c6 c7 c8 c9 c10 c11 c12 c13 c14 c15 c16 c17 c18 c19 c20 c21 c22 c23 c24 c25 c26 c27 c28 c29 c30 c31 c32 c33 c34 c35 c36 hk hp gA gB).good ?_
  have w1 : IntKind.wrap .i64 (n2 + 1) = n2 + 1 := w64 (by omega) (by omega)
  have w2 : IntKind.wrap .i64 (n1 + 1) = n1 + 1 := w64 (by omega) (by omega)
  have w3 : IntKind.wrap .i64 (n5 + 1) = n5 + 1 := w64 (by omega) (by omega)
  have w4 : IntKind.wrap .i64 (n1 + 8) = n1 + 8 := w64 (by omega) (by omega)
  have w5 : IntKind.wrap .i64 (n13 + 1) = n13 + 1 := w64 (by omega) (by omega)
  have w6 : IntKind.wrap .i64 (n17 + 1) = n17 + 1 := w64 (by omega) (by omega)
  have w7 : IntKind.wrap .i64 (n1 - n4 + 8) = n1 - n4 + 8 := w64 (by omega) (by omega)
  unfold fn_L3_13_r00p1k3
  have ga : gd2 n3 n4 1 = n4 := rfl
  have gb' : gd2 n8 n9 1 = n9 := rfl
  simp only [w1, w2, w3, w4, w5, w6, w7, hp, ga, gb', imax_max]
  clear w1 w2 w3 w4 w5 w6 w7 hk hp gA gB ga gb'
  repeat' (refine good_node (fun _ => ?_) (fun _ => ?_))
  all_goals first
    | exact good_leaf ⟨⟨_, _, _, _, _, _, _, _, _, _, _, _, _, _, _, _, _, _, _, rfl, by first | exact .inl rfl | exact .inr rfl, by first | exact .inl rfl | exact .inr rfl, (by (try simp only [DS] at *); constructor <;> first | assumption | omega), by omega⟩, rfl⟩
    | (exfalso; (try simp only [DS] at *); omega)
theorem s_r00p1k4 (l : LSt) (n1 n2 n3 n4 n5 n6 n7 n8 n9 n10 n11 n12 n13 n14 n15 n16 n17 : Int) (h : C26 n1 n2 n3 n4 n5 n6 n7 n8 n9 n10 n11 n12 n13 n14 n15 n16 n17) (hi : n2 < (l.length : Int)) (hl : (l.length : Int) ≤ 400) (hk : sp1 l n2 = 4) (hp : sp2 l n2 = 1) : Good (Nx l n2) (st_L3_13 (st26 l n1 n2 n3 n4 n5 n6 n7 n8 n9 n10 n11 0 n12 n13 n14 n15 0 n16 n17)).sel := by
  obtain ⟨c0, c1, c2, c3, c4, c5, c6, c7, c8, c9, c10, c11, c12, c13, c14, c15, c16, c17, c18, c19, c20, c21, c22, c23, c24, c25, c26, c27, c28, c29, c30, c31, c32, c33, c34, c35, c36⟩ := h
  have gA : gd2 n3 n4 (sp2 l n2) = n4 := by rw [hp]; rfl
  have gB : gd2 n8 n9 (sp2 l n2) = n9 := by rw [hp]; rfl
  refine (fn_L3_13_r00p1k4_im l n1 n2 n3 n4 n5 n6 n7 n8 n9 n10 n11 n12 n13 n14 n15 n16 n17 c0 hi c1 c2 c3 c4 c5 c6 c7 c8 c9 c10 c11 c12 c13 c14 c15 c16 c17 c18 c19 c20 c21 c22 c23 c24 c25 c26 c27 c28 c29 c30 c31 c32 c33 c34 c35 c36 hk hp gA gB).good ?_
  have w1 : IntKind.wrap .i64 (n2 + 1) = n2 + 1 := w64 (by omega) (by omega)
  have w2 : IntKind.wrap .i64 (n1 + 1) = n1 + 1 := w64 (by omega) (by omega)
  have w3 : IntKind.wrap .i64 (n5 + 1) = n5 + 1 := w64 (by omega) (by omega)
  have w4 : IntKind.wrap .i64 (n1 + 8) = n1 + 8 := w64 (by omega) (by omega)
  have w5 : IntKind.wrap .i64 (n13 + 1) = n13 + 1 := w64 (by omega) (by omega)
  have w6 : IntKind.wrap .i64 (n17 + 1) = n17 + 1 := w64 (by omega) (by omega)
  have w7 : IntKind.wrap .i64 (n1 - n4 + 8) = n1 - n4 + 8 := w64 (by omega) (by omega)
  unfold fn_L3_13_r00p1k4
  have ga : gd2 n3 n4 1 = n4 := rfl
  have gb' : gd2 n8 n9 1 = n9 := rfl
  simp only [w1, w2, w3, w4, w5, w6, w7, hp, ga, gb', imax_max]
  clear w1 w2 w3 w4 w5 w6 w7 hk hp gA gB ga gb'
  repeat' (refine good_node (fun _ => ?_) (fun _ => ?_))
  all_goals first
    | exact good_leaf ⟨⟨_, _, _, _, _, _, _, _, _, _, _, _, _, _, _, _, _, _, _, rfl, by first | exact .inl rfl | exact .inr rfl, by first | exact .inl rfl | exact .inr rfl, (by (try simp only [DS] at *); constructor <;> first | assumption | omega), by omega⟩, rfl⟩
    | (exfalso; (try simp only [DS] at *); omega)
theorem s_r00p1k5 (l : LSt) (n1 n2 n3 n4 n5 n6 n7 n8 n9 n10 n11 n12 n13 n14 n15 n16 n17 : Int) (h : C26 n1 n2 n3 n4 n5 n6 n7 n8 n9 n10 n11 n12 n13 n14 n15 n16 n17) (hi : n2 < (l.length : Int)) (hl : (l.length : Int) ≤ 400) (hk : sp1 l n2 = 5) (hp : sp2 l n2 = 1) : Good (Nx l n2) (st_L3_13 (st26 l n1 n2 n3 n4 n5 n6 n7 n8 n9 n10 n11 0 n12 n13 n14 n15 0 n16 n17)).sel := by
  obtain ⟨c0, c1, c2, c3, c4, c5, c6, c7, c8, c9, c10, c11, c12, c13, c14, c15, c16, c17, c18, c19, c20, c21, c22, c23, c24, c25, c26, c27, c28, c29, c30, c31, c32, c33, c34, c35, c36⟩ := h
  have gA : gd2 n3 n4 (sp2 l n2) = n4 := by rw [hp]; rfl
  have gB : gd2 n8 n9 (sp2 l n2) = n9 := by rw [hp]; rfl
  refine (fn_L3_13_r00p1k5_im l n1 n2 n3 n4 n5 n6 n7 n8 n9 n10 n11 n12 n13 n14 n15 n16 n17 c0 hi c1 c2 c3 c4 c5 c6 c7 c8 c9 c10 c11 c12 c13 c14 c15 c16 c17 c18 c19 c20 c21 c22 c23 c24 c25 c26 c27 c28 c29 c30 c31 c32 c33 c34 c35 c36 hk hp gA gB).good ?_
  have w1 : IntKind.wrap .i64 (n2 + 1) = n2 + 1 := w64 (by omega) (by omega)
  have w2 : IntKind.wrap .i64 (n1 + 1) = n1 + 1 := w64 (by omega) (by omega)
  have w3 : IntKind.wrap .i64 (n5 + 1) = n5 + 1 := w64 (by omega) (by omega)
  have w4 : IntKind.wrap .i64 (n1 + 8) = n1 + 8 := w64 (by omega) (by omega)
  have w5 : IntKind.wrap .i64 (n13 + 1) = n13 + 1 := w64 (by omega) (by omega)
  have w6 : IntKind.wrap .i64 (n17 + 1) = n17 + 1 := w64 (by omega) (by omega)
  have w7 : IntKind.wrap .i64 (n1 - n4 + 8) = n1 - n4 + 8 := w64 (by omega) (by omega)
  unfold fn_L3_13_r00p1k5
  have ga : gd2 n3 n4 1 = n4 := rfl
  have gb' : gd2 n8 n9 1 = n9 := rfl
  simp only [w1, w2, w3, w4, w5, w6, w7, hp, ga, gb', imax_max]
  clear w1 w2 w3 w4 w5 w6 w7 hk hp gA gB ga gb'
  repeat' (refine good_node (fun _ => ?_) (fun _ => ?_))
  all_goals first
    | exact good_leaf ⟨⟨_, _, _, _, _, _, _, _, _, _, _, _, _, _, _, _, _, _, _, rfl, by first | exact .inl rfl | exact .inr rfl, by first | exact .inl rfl | exact .inr rfl, (by (try simp only [DS] at *); constructor <;> first | assumption | omega), by omega⟩, rfl⟩
    | (exfalso; (try simp only [DS] at *); omega)
theorem s_r01p0k0 (l : LSt) (n1 n2 n3 n4 n5 n6 n7 n8 n9 n10 n11 n12 n13 n14 n15 n16 n17 : Int) (h : C26 n1 n2 n3 n4 n5 n6 n7 n8 n9 n10 n11 n12 n13 n14 n15 n16 n17) (hi : n2 < (l.length : Int)) (hl : (l.length : Int) ≤ 400) (hk : sp1 l n2 = 0) (hp : sp2 l n2 = 0) : Good (Nx l n2) (st_L3_13 (st26 l n1 n2 n3 n4 n5 n6 n7 n8 n9 n10 n11 0 n12 n13 n14 n15 1 n16 n17)).sel := by
  obtain ⟨c0, c1, c2, c3, c4, c5, c6, c7, c8, c9, c10, c11, c12, c13, c14, c15, c16, c17, c18, c19, c20, c21, c22, c23, c24, c25, c26, c27, c28, c29, c30, c31, c32, c33, c34, c35, c36⟩ := h
  have gA : gd2 n3 n4 (sp2 l n2) = n3 := by rw [hp]; rfl
  have gB : gd2 n8 n9 (sp2 l n2) = n8 := by rw [hp]; rfl
  refine (fn_L3_13_r01p0k0_im l n1 n2 n3 n4 n5 n6 n7 n8 n9 n10 n11 n12 n13 n14 n15 n16 n17 c0 hi c1 c2 c3 c4 c5 c6 c7 c8 c9 c10 c11 c12 c13 c14 c15 c16 c17 c18 c19 c20 c21 c22 c23 c24 c25 c26 c27 c28 c29 c30 c31 c32 c33 c34 c35 c36 hk hp gA gB).good ?_
  have w1 : IntKind.wrap .i64 (n2 + 1) = n2 + 1 := w64 (by omega) (by omega)
  have w2 : IntKind.wrap .i64 (n1 + 1) = n1 + 1 := w64 (by omega) (by omega)
  have w3 : IntKind.wrap .i64 (n5 + 1) = n5 + 1 := w64 (by omega) (by omega)
  have w4 : IntKind.wrap .i64 (n1 + 8) = n1 + 8 := w64 (by omega) (by omega)
  have w5 : IntKind.wrap .i64 (n13 + 1) = n13 + 1 := w64 (by omega) (by omega)
  have w6 : IntKind.wrap .i64 (n17 + 1) = n17 + 1 := w64 (by omega) (by omega)
  have w7 : IntKind.wrap .i64 (n1 - n3 + 8) = n1 - n3 + 8 := w64 (by omega) (by omega)
  unfold fn_L3_13_r01p0k0
  have ga : gd2 n3 n4 0 = n3 := rfl
  have gb' : gd2 n8 n9 0 = n8 := rfl
  simp only [w1, w2, w3, w4, w5, w6, w7, hp, ga, gb', imax_max]
  clear w1 w2 w3 w4 w5 w6 w7 hk hp gA gB ga gb'
  repeat' (refine good_node (fun _ => ?_) (fun _ => ?_))
  all_goals first
    | exact good_leaf ⟨⟨_, _, _, _, _, _, _, _, _, _, _, _, _, _, _, _, _, _, _, rfl, by first | exact .inl rfl | exact .inr rfl, by first | exact .inl rfl | exact .inr rfl, (by (try simp only [DS] at *); constructor <;> first | assumption | omega), by omega⟩, rfl⟩
    | (exfalso; (try simp only [DS] at *); omega)
theorem s_r01p0k1 (l : LSt) (n1 n2 n3 n4 n5 n6 n7 n8 n9 n10 n11 n12 n13 n14 n15 n16 n17 : Int) (h : C26 n1 n2 n3 n4 n5 n6 n7 n8 n9 n10 n11 n12 n13 n14 n15 n16 n17) (hi : n2 < (l.length : Int)) (hl : (l.length : Int) ≤ 400) (hk : sp1 l n2 = 1) (hp : sp2 l n2 = 0) : Good (Nx l n2) (st_L3_13 (st26 l n1 n2 n3 n4 n5 n6 n7 n8 n9 n10 n11 0 n12 n13 n14 n15 1 n16 n17)).sel := by
  obtain ⟨c0, c1, c2, c3, c4, c5, c6, c7, c8, c9, c10, c11, c12, c13, c14, c15, c16, c17, c18, c19, c20, c21, c22, c23, c24, c25, c26, c27, c28, c29, c30, c31, c32, c33, c34, c35, c36⟩ := h
  have gA : gd2 n3 n4 (sp2 l n2) = n3 := by rw [hp]; rfl
  have gB : gd2 n8 n9 (sp2 l n2) = n8 := by rw [hp]; rfl
  refine (fn_L3_13_r01p0k1_im l n1 n2 n3 n4 n5 n6 n7 n8 n9 n10 n11 n12 n13 n14 n15 n16 n17 c0 hi c1 c2 c3 c4 c5 c6 c7 c8 c9 c10 c11 c12 c13 c14 c15 c16 c17 c18 c19 c20 c21 c22 c23 c24 c25 c26 c27 c28 c29 c30 c31 c32 c33 c34 c35 c36 hk hp gA gB).good ?_
  have w1 : IntKind.wrap .i64 (n2 + 1) = n2 + 1 := w64 (by omega) (by omega)
  have w2 : IntKind.wrap .i64 (n1 + 1) = n1 + 1 := w64 (by omega) (by omega)
  have w3 : IntKind.wrap .i64 (n5 + 1) = n5 + 1 := w64 (by omega) (by omega)
  have w4 : IntKind.wrap .i64 (n1 + 8) = n1 + 8 := w64 (by omega) (by omega)
  have w5 : IntKind.wrap .i64 (n13 + 1) = n13 + 1 := w64 (by omega) (by omega)
  have w6 : IntKind.wrap .i64 (n17 + 1) = n17 + 1 := w64 (by omega) (by omega)
  have w7 : IntKind.wrap .i64 (n1 - n3 + 8) = n1 - n3 + 8 := w64 (by omega) (by omega)
  unfold fn_L3_13_r01p0k1
  have ga : gd2 n3 n4 0 = n3 := rfl
  have gb' : gd2 n8 n9 0 = n8 := rfl
  simp only [w1, w2, w3, w4, w5, w6, w7, hp, ga, gb', imax_max]
  clear w1 w2 w3 w4 w5 w6 w7 hk hp gA gB ga gb'
  repeat' (refine good_node (fun _ => ?_) (fun _ => ?_))
  all_goals first
    | exact good_leaf ⟨⟨_, _, _, _, _, _, _, _, _, _, _, _, _, _, _, _, _, _, _, rfl, by first | exact .inl rfl | exact .inr rfl, by first | exact .inl rfl | exact .inr rfl, (by (try simp only [DS] at *); constructor <;> first | assumption | omega), by omega⟩, rfl⟩
    | (exfalso; (try simp only [DS] at *); omega)
theorem s_r01p0k2 (l : LSt) (n1 n2 n3 n4 n5 n6 n7 n8 n9 n10 n11 n12 n13 n14 n15 n16 n17 : Int) (h : C26 n1 n2 n3 n4 n5 n6 n7 n8 n9 n10 n11 n12 n13 n14 n15 n16 n17) (hi : n2 < (l.length : Int)) (hl : (l.length : Int) ≤ 400) (hk : sp1 l n2 = 2) (hp : sp2 l n2 = 0) : Good (Nx l n2) (st_L3_13 (st26 l n1 n2 n3 n4 n5 n6 n7 n8 n9 n10 n11 0 n12 n13 n14 n15 1 n16 n17)).sel := by
  obtain ⟨c0, c1, c2, c3, c4, c5, c6, c7, c8, c9, c10, c11, c12, c13, c14, c15, c16, c17, c18, c19, c20, c21, c22, c23, c24, c25, c26, c27, c28, c29, c30, c31, c32, c33, c34, c35, c36⟩ := h
  have gA : gd2 n3 n4 (sp2 l n2) = n3 := by rw [hp]; rfl
  have gB : gd2 n8 n9 (sp2 l n2) = n8 := by rw [hp]; rfl
  refine (fn_L3_13_r01p0k2_im l n1 n2 n3 n4 n5 n6 n7 n8 n9 n10 n11 n12 n13 n14 n15 n16 n17 c0 hi c1 c2 c3 c4 c5 c6 c7 c8 c9 c10 c11 c12 c13 c14 c15 c16 c17 c18 c19 c20 c21 c22 c23 c24 c25 c26 c27 c28 c29 c30 c31 c32 c33 c34 c35 c36 hk hp gA gB).good ?_
  have w1 : IntKind.wrap .i64 (n2 + 1) = n2 + 1 := w64 (by omega) (by omega)
  have w2 : IntKind.wrap .i64 (n1 + 1) = n1 + 1 := w64 (by omega) (by omega)
  have w3 : IntKind.wrap .i64 (n5 + 1) = n5 + 1 := w64 (by omega) (by omega)
  have w4 : IntKind.wrap .i64 (n1 + 8) = n1 + 8 := w64 (by omega) (by omega)
  have w5 : IntKind.wrap .i64 (n13 + 1) = n13 + 1 := w64 (by omega) (by omega)
  have w6 : IntKind.wrap .i64 (n17 + 1) = n17 + 1 := w64 (by omega) (by omega)
  have w7 : IntKind.wrap .i64 (n1 - n3 + 8) = n1 - n3 + 8 := w64 (by omega) (by omega)
  unfold fn_L3_13_r01p0k2
  have ga : gd2 n3 n4 0 = n3 := rfl
  have gb' : gd2 n8 n9 0 = n8 := rfl
  simp only [w1, w2, w3, w4, w5, w6, w7, hp, ga, gb', imax_max]
  clear w1 w2 w3 w4 w5 w6 w7 hk hp gA gB ga gb'
  repeat' (refine good_node (fun _ => ?_) (fun _ => ?_))
  all_goals first
    | exact good_leaf ⟨⟨_, _, _, _, _, _, _, _, _, _, _, _, _, _, _, _, _, _, _, rfl, by first | exact .inl rfl | exact .inr rfl, by first | exact .inl rfl | exact .inr rfl, (by (try simp only [DS] at *); constructor <;> first | assumption | omega), by omega⟩, rfl⟩
    | (exfalso; (try simp only [DS] at *); omega)
theorem s_r01p0k3 (l : LSt) (n1 n2 n3 n4 n5 n6 n7 n8 n9 n10 n11 n12 n13 n14 n15 n16 n17 : Int) (h : C26 n1 n2 n3 n4 n5 n6 n7 n8 n9 n10 n11 n12 n13 n14 n15 n16 n17) (hi : n2 < (l.length : Int)) (hl : (l.length : Int) ≤ 400) (hk : sp1 l n2 = 3) (hp : sp2 l n2 = 0) : Good (Nx l n2) (st_L3_13 (st26 l n1 n2 n3 n4 n5 n6 n7 n8 n9 n10 n11 0 n12 n13 n14 n15 1 n16 n17)).sel := by
  obtain ⟨c0, c1, c2, c3, c4, c5, c6, c7, c8, c9, c10, c11, c12, c13, c14, c15, c16, c17, c18, c19, c20, c21, c22, c23, c24, c25, c26, c27, c28, c29, c30, c31, c32, c33, c34, c35, c36⟩ := h
  have gA : gd2 n3 n4 (sp2 l n2) = n3 := by rw [hp]; rfl
  have gB : gd2 n8 n9 (sp2 l n2) = n8 := by rw [hp]; rfl
  refine (fn_L3_13_r01p0k3_im l n1 n2 n3 n4 n5 n6 n7 n8 n9 n10 n11 n12 n13 n14 n15 n16 n17 c0 hi c1 c2 c3 c4 c5 c6 c7 c8 c9 c10 c11 c12 c13 c14 c15 c16 c17 c18 c19 c20 c21 c22 c23 c24 c25 c26 c27 c28 c29 c30 c31 c32 c33 c34 c35 c36 hk hp gA gB).good ?_
  have w1 : IntKind.wrap .i64 (n2 + 1) = n2 + 1 := w64 (by omega) (by omega)
  have w2 : IntKind.wrap .i64 (n1 + 1) = n1 + 1 := w64 (by omega) (by omega)
  have w3 : IntKind.wrap .i64 (n5 + 1) = n5 + 1 := w64 (by omega) (by omega)
  have w4 : IntKind.wrap .i64 (n1 + 8) = n1 + 8 := w64 (by omega) (by omega)
  have w5 : IntKind.wrap .i64 (n13 + 1) = n13 + 1 := w64 (by omega) (by omega)
  have w6 : IntKind.wrap .i64 (n17 + 1) = n17 + 1 := w64 (by omega) (by omega)
  have w7 : IntKind.wrap .i64 (n1 - n3 + 8) = n1 - n3 + 8 := w64 (by omega) (by omega)
  unfold fn_L3_13_r01p0k3
  have ga : gd2 n3 n4 0 = n3 := rfl
  have gb' : gd2 n8 n9 0 = n8 := rfl
  simp only [w1, w2, w3, w4, w5, w6, w7, hp, ga, gb', imax_max]
  clear w1 w2 w3 w4 w5 w6 w7 hk hp gA gB ga gb'
  repeat' (refine good_node (fun _ => ?_) (fun _ => ?_))
  all_goals first
    | exact good_leaf ⟨⟨_, _, _, _, _, _, _, _, _, _, _, _, _, _, _, _, _, _, _, rfl, by first | exact .inl rfl | exact .inr rfl, by first | exact .inl rfl | exact .inr rfl, (by (try simp only [DS] at *); constructor <;> first | assumption | omega), by omega⟩, rfl⟩
    | (exfalso; (try simp only [DS] at *); omega)
theorem s_r01p0k4 (l : LSt) (n1 n2 n3 n4 n5 n6 n7 n8 n9 n10 n11 n12 n13 n14 n15 n16 n17 : Int) (h : C26 n1 n2 n3 n4 n5 n6 n7 n8 n9 n10 n11 n12 n13 n14 n15 n16 n17) (hi : n2 < (l.length : Int)) (hl : (l.length : Int) ≤ 400) (hk : sp1 l n2 = 4) (hp : sp2 l n2 = 0) : Good (Nx l n2) (st_L3_13 (st26 l n1 n2 n3 n4 n5 n6 n7 n8 n9 n10 n11 0 n12 n13 n14 n15 1 n16 n17)).sel := by
  obtain ⟨c0, c1, c2, c3, c4, c5, c6, c7, c8, c9, c10, c11, c12, c13, c14, c15, c16, c17, c18, c19, c20, c21, c22, c23, c24, c25, c26, c27, c28, c29, c30, c31, c32, c33, c34, c35, c36⟩ := h
  have gA : gd2 n3 n4 (sp2 l n2) = n3 := by rw [hp]; rfl
  have gB : gd2 n8 n9 (sp2 l n2) = n8 := by rw [hp]; rfl
  refine (fn_L3_13_r01p0k4_im l n1 n2 n3 n4 n5 n6 n7 n8 n9 n10 n11 n12 n13 n14 n15 n16 n17 c0 hi c1 c2 c3 c4 c5 c6 c7 c8 c9 c10 c11 c12 c13 c14 c15 c16 c17 c18 c19 c20 c21 c22 c23 c24 c25 c26 c27 c28 c29 c30 c31 c32 c33 c34 c35 c36 hk hp gA gB).good ?_
  have w1 : IntKind.wrap .i64 (n2 + 1) = n2 + 1 := w64 (by omega) (by omega)
  have w2 : IntKind.wrap .i64 (n1 + 1) = n1 + 1 := w64 (by omega) (by omega)
  have w3 : IntKind.wrap .i64 (n5 + 1) = n5 + 1 := w64 (by omega) (by omega)
  have w4 : IntKind.wrap .i64 (n1 + 8) = n1 + 8 := w64 (by omega) (by omega)
  have w5 : IntKind.wrap .i64 (n13 + 1) = n13 + 1 := w64 (by omega) (by omega)
  have w6 : IntKind.wrap .i64 (n17 + 1) = n17 + 1 := w64 (by omega) (by omega)
  have w7 : IntKind.wrap .i64 (n1 - n3 + 8) = n1 - n3 + 8 := w64 (by omega) (by omega)
  unfold fn_L3_13_r01p0k4
  have ga : gd2 n3 n4 0 = n3 := rfl
  have gb' : gd2 n8 n9 0 = n8 := rfl
  simp only [w1, w2, w3, w4, w5, w6, w7, hp, ga, gb', imax_max]
  clear w1 w2 w3 w4 w5 w6 w7 hk hp gA gB ga gb'
  repeat' (refine good_node (fun _ => ?_) (fun _ => ?_))
  all_goals first
    | exact good_leaf ⟨⟨_, _, _, _, _, _, _, _, _, _, _, _, _, _, _, _, _, _, _, rfl, by first | exact .inl rfl | exact .inr rfl, by first | exact .inl rfl | exact .inr rfl, (by (try simp only [DS] at *); constructor <;> first | assumption | omega), by omega⟩, rfl⟩
    | (exfalso; (try simp only [DS] at *); omega)
theorem s_r01p0k5 (l : LSt) (n1 n2 n3 n4 n5 n6 n7 n8 n9 n10 n11 n12 n13 n14 n15 n16 n17 : Int) (h : C26 n1 n2 n3 n4 n5 n6 n7 n8 n9 n10 n11 n12 n13 n14 n15 n16 n17) (hi : n2 < (l.length : Int)) (hl : (l.length : Int) ≤ 400) (hk : sp1 l n2 = 5) (hp : sp2 l n2 = 0) : Good (Nx l n2) (st_L3_13 (st26 l n1 n2 n3 n4 n5 n6 n7 n8 n9 n10 n11 0 n12 n13 n14 n15 1 n16 n17)).sel := by
  obtain ⟨c0, c1, c2, c3, c4, c5, c6, c7, c8, c9, c10, c11, c12, c13, c14, c15, c16, c17, c18, c19, c20, c21, c22, c23, c24, c25, c26, c27, c28, c29, c30, c31, c32, c33, c34, c35, c36⟩ := h
  have gA : gd2 n3 n4 (sp2 l n2) = n3 := by rw [hp]; rfl
  have gB : gd2 n8 n9 (sp2 l n2) = n8 := by rw [hp]; rfl
  refine (fn_L3_13_r01p0k5_im l n1 n2 n3 n4 n5 n6 n7 n8 n9 n10 n11 n12 n13 n14 n15 n16 n17 c0 hi c1 c2 c3 c4 c5 c6 c7 c8 c9 c10 c11 c12 c13 c14 c15 c16 c17 c18 c19 c20 c21 c22 c23 c24 c25 c26 c27 c28 c29 c30 c31 c32 c33 c34 c35 c36 hk hp gA gB).good ?_
  have w1 : IntKind.wrap .i64 (n2 + 1) = n2 + 1 := w64 (by omega) (by omega)
  have w2 : IntKind.wrap .i64 (n1 + 1) = n1 + 1 := w64 (by omega) (by omega)
  have w3 : IntKind.wrap .i64 (n5 + 1) = n5 + 1 := w64 (by omega) (by omega)
  have w4 : IntKind.wrap .i64 (n1 + 8) = n1 + 8 := w64 (by omega) (by omega)
  have w5 : IntKind.wrap .i64 (n13 + 1) = n13 + 1 := w64 (by omega) (by omega)
  have w6 : IntKind.wrap .i64 (n17 + 1) = n17 + 1 := w64 (by omega) (by omega)
  have w7 : IntKind.wrap .i64 (n1 - n3 + 8) = n1 - n3 + 8 := w64 (by omega) (by omega)
  unfold fn_L3_13_r01p0k5
  have ga : gd2 n3 n4 0 = n3 := rfl
  have gb' : gd2 n8 n9 0 = n8 := rfl
  simp only [w1, w2, w3, w4, w5, w6, w7, hp, ga, gb', imax_max]
  clear w1 w2 w3 w4 w5 w6 w7 hk hp gA gB ga gb'
  repeat' (refine good_node (fun _ => ?_) (fun _ => ?_))
  all_goals first
    | exact good_leaf ⟨⟨_, _, _, _, _, _, _, _, _, _, _, _, _, _, _, _, _, _, _, rfl, by first | exact .inl rfl | exact .inr rfl, by first | exact .inl rfl | exact .inr rfl, (by (try simp only [DS] at *); constructor <;> first | assumption | omega), by omega⟩, rfl⟩
    | (exfalso; (try simp only [DS] at *); omega)
theorem s_r01p1k0 (l : LSt) (n1 n2 n3 n4 n5 n6 n7 n8 n9 n10 n11 n12 n13 n14 n15 n16 n17 : Int) (h : C26 n1 n2 n3 n4 n5 n6 n7 n8 n9 n10 n11 n12 n13 n14 n15 n16 n17) (hi : n2 < (l.length : Int)) (hl : (l.length : Int) ≤ 400) (hk : sp1 l n2 = 0) (hp : sp2 l n2 = 1) : Good (Nx l n2) (st_L3_13 (st26 l n1 n2 n3 n4 n5 n6 n7 n8 n9 n10 n11 0 n12 n13 n14 n15 1 n16 n17)).sel := by
  obtain ⟨c0, c1, c2, c3, c4, c5, c6, c7, c8, c9, c10, c11, c12, c13, c14, c15, c16, c17, c18, c19, c20, c21, c22, c23, c24, c25, c26, c27, c28, c29, c30, c31, c32, c33, c34, c35, c36⟩ := h
  have gA : gd2 n3 n4 (sp2 l n2) = n4 := by rw [hp]; rfl
  have gB : gd2 n8 n9 (sp2 l n2) = n9 := by rw [hp]; rfl
  refine (fn_L3_13_r01p1k0_im l n1 n2 n3 n4 n5 n6 n7 n8 n9 n10 n11 n12 n13 n14 n15 n16 n17 c0 hi c1 c2 c3 c4 c5 c6 c7 c8 c9 c10 c11 c12 c13 c14 c15 c16 c17 c18 c19 c20 c21 c22 c23 c24 c25 c26 c27 c28 c29 c30 c31 c32 c33 c34 c35 c36 hk hp gA gB).good ?_
  have w1 : IntKind.wrap .i64 (n2 + 1) = n2 + 1 := w64 (by omega) (by omega)
  have w2 : IntKind.wrap .i64 (n1 + 1) = n1 + 1 := w64 (by omega) (by omega)
  have w3 : IntKind.wrap .i64 (n5 + 1) = n5 + 1 := w64 (by omega) (by omega)
  have w4 : IntKind.wrap .i64 (n1 + 8) = n1 + 8 := w64 (by omega) (by omega)
  have w5 : IntKind.wrap .i64 (n13 + 1) = n13 + 1 := w64 (by omega) (by omega)
  have w6 : IntKind.wrap .i64 (n17 + 1) = n17 + 1 := w64 (by omega) (by omega)
  have w7 : IntKind.wrap .i64 (n1 - n4 + 8) = n1 - n4 + 8 := w64 (by omega) (by omega)
  unfold fn_L3_13_r01p1k0
  have ga : gd2 n3 n4 1 = n4 := rfl
  have gb' : gd2 n8 n9 1 = n9 := rfl
  simp only [w1, w2, w3, w4, w5, w6, w7, hp, ga, gb', imax_max]
  clear w1 w2 w3 w4 w5 w6 w7 hk hp gA gB ga gb'
  repeat' (refine good_node (fun _ => ?_) (fun _ => ?_))
  all_goals first
    | exact good_leaf ⟨⟨_, _, _, _, _, _, _, _, _, _, _, _, _, _, _, _, _, _, _, rfl, by first | exact .inl rfl | exact .inr rfl, by first | exact .inl rfl | exact .inr rfl, (by (try simp only [DS] at *); constructor <;> first | assumption | omega), by omega⟩, rfl⟩
    | (exfalso; (try simp only [DS] at *); omega)
theorem s_r01p1k1 (l : LSt) (n1 n2 n3 n4 n5 n6 n7 n8 n9 n10 n11 n12 n13 n14 n15 n16 n17 : Int) (h : C26 n1 n2 n3 n4 n5 n6 n7 n8 n9 n10 n11 n12 n13 n14 n15 n16 n17) (hi : n2 < (l.length : Int)) (hl : (l.length : Int) ≤ 400) (hk : sp1 l n2 = 1) (hp : sp2 l n2 = 1) : Good (Nx l n2) (st_L3_13 (st26 l n1 n2 n3 n4 n5 n6 n7 n8 n9 n10 n11 0 n12 n13 n14 n15 1 n16 n17)).sel := by
  obtain ⟨c0, c1, c2, c3, c4, c5, c6, c7, c8, c9, c10, c11, c12, c13, c14, c15, c16, c17, c18, c19, c20, c21, c22, c23, c24, c25, c26, c27, c28, c29, c30, c31, c32, c33, c34, c35, c36⟩ := h
  have gA : gd2 n3 n4 (sp2 l n2) = n4 := by rw [hp]; rfl
  have gB : gd2 n8 n9 (sp2 l n2) = n9 := by rw [hp]; rfl
  refine (fn_L3_13_r01p1k1_im l n1 n2 n3 n4 n5 n6 n7 n8 n9 n10 n11 n12 n13 n14 n15 n16 n17 c0 hi c1 c2 c3 c4 c5 c6 c7 c8 c9 c10 c11 c12 c13 c14 c15 c16 c17 c18 c19 c20 c21 c22 c23 c24 c25 c26 c27 c28 c29 c30 c31 c32 c33 c34 c35 c36 hk hp gA gB).good ?_
  have w1 : IntKind.wrap .i64 (n2 + 1) = n2 + 1 := w64 (by omega) (by omega)
  have w2 : IntKind.wrap .i64 (n1 + 1) = n1 + 1 := w64 (by omega) (by omega)
  have w3 : IntKind.wrap .i64 (n5 + 1) = n5 + 1 := w64 (by omega) (by omega)
  have w4 : IntKind.wrap .i64 (n1 + 8) = n1 + 8 := w64 (by omega) (by omega)
  have w5 : IntKind.wrap .i64 (n13 + 1) = n13 + 1 := w64 (by omega) (by omega)
  have w6 : IntKind.wrap .i64 (n17 + 1) = n17 + 1 := w64 (by omega) (by omega)
  have w7 : IntKind.wrap .i64 (n1 - n4 + 8) = n1 - n4 + 8 := w64 (by omega) (by omega)
  unfold fn_L3_13_r01p1k1
  have ga : gd2 n3 n4 1 = n4 := rfl
  have gb' : gd2 n8 n9 1 = n9 := rfl
  simp only [w1, w2, w3, w4, w5, w6, w7, hp, ga, gb', imax_max]
  clear w1 w2 w3 w4 w5 w6 w7 hk hp gA gB ga gb'
  repeat' (refine good_node (fun _ => ?_) (fun _ => ?_))
  all_goals first
    | exact good_leaf ⟨⟨_, _, _, _, _, _, _, _, _, _, _, _, _, _, _, _, _, _, _, rfl, by first | exact .inl rfl | exact .inr rfl, by first | exact .inl rfl | exact .inr rfl, (by (try simp only [DS] at *); constructor <;> first | assumption | omega), by omega⟩, rfl⟩
    | (exfalso; (try simp only [DS] at *); omega)
theorem s_r01p1k2 (l : LSt) (n1 n2 n3 n4 n5 n6 n7 n8 n9 n10 n11 n12 n13 n14 n15 n16 n17 : Int) (h : C26 n1 n2 n3 n4 n5 n6 n7 n8 n9 n10 n11 n12 n13 n14 n15 n16 n17) (hi : n2 < (l.length : Int)) (hl : (l.length : Int) ≤ 400) (hk : sp1 l n2 = 2) (hp : sp2 l n2 = 1) : Good (Nx l n2) (st_L3_13 (st26 l n1 n2 n3 n4 n5 n6 n7 n8 n9 n10 n11 0 n12 n13 n14 n15 1 n16 n17)).sel := by
  obtain ⟨c0, c1, c2, c3, c4, c5, c6, c7, c8, c9, c10, c11, c12, c13, c14, c15, c16, c17, c18, c19, c20, c21, c22, c23, c24, c25, c26, c27, c28, c29, c30, c31, c32, c33, c34, c35, c36⟩ := h
  have gA : gd2 n3 n4 (sp2 l n2) = n4 := by rw [hp]; rfl
  have gB : gd2 n8 n9 (sp2 l n2) = n9 := by rw [hp]; rfl
  refine (fn_L3_13_r01p1k2_im l n1 n2 n3 n4 n5 n6 n7 n8 n9 n10 n11 n12 n13 n14 n15 n16 n17 c0 hi c1 c2 c3 c4 c5 c6 c7 c8 c9 c10 c11 c12 c13 c14 c15 c16 c17 c18 c19 c20 c21 c22 c23 c24 c25 c26 c27 c28 c29 c30 c31 c32 c33 c34 c35 c36 hk hp gA gB).good ?_
  have w1 : IntKind.wrap .i64 (n2 + 1) = n2 + 1 := w64 (by omega) (by omega)
  have w2 : IntKind.wrap .i64 (n1 + 1) = n1 + 1 := w64 (by omega) (by omega)
  have w3 : IntKind.wrap .i64 (n5 + 1) = n5 + 1 := w64 (by omega) (by omega)
  have w4 : IntKind.wrap .i64 (n1 + 8) = n1 + 8 := w64 (by omega) (by omega)
  have w5 : IntKind.wrap .i64 (n13 + 1) = n13 + 1 := w64 (by omega) (by omega)
  have w6 : IntKind.wrap .i64 (n17 + 1) = n17 + 1 := w64 (by omega) (by omega)
  have w7 : IntKind.wrap .i64 (n1 - n4 + 8) = n1 - n4 + 8 := w64 (by omega) (by omega)
  unfold fn_L3_13_r01p1k2
  have ga : gd2 n3 n4 1 = n4 := rfl
  have gb' : gd2 n8 n9 1 = n9 := rfl
  simp only [w1, w2, w3, w4, w5, w6, w7, hp, ga, gb', imax_max]
  clear w1 w2 w3 w4 w5 w6 w7 hk hp gA gB ga gb'
  repeat' (refine good_node (fun _ => ?_) (fun _ => ?_))
  all_goals first
    | exact good_leaf ⟨⟨_, _, _, _, _, _, _, _, _, _, _, _, _, _, _, _, _, _, _, rfl, by first | exact .inl rfl | exact .inr rfl, by first | exact .inl rfl | exact .inr rfl, (by (try simp only [DS] at *); constructor <;> first | assumption | omega), by omega⟩, rfl⟩
    | (exfalso; (try simp only [DS] at *); omega)
theorem s_r01p1k3 (l : LSt) (n1 n2 n3 n4 n5 n6 n7 n8 n9 n10 n11 n12 n13 n14 n15 n16 n17 : Int) (h : C26 n1 n2 n3 n4 n5 n6 n7 n8 n9 n10 n11 n12 n13 n14 n15 n16 n17) (hi : n2 < (l.length : Int)) (hl : (l.length : Int) ≤ 400) (hk : sp1 l n2 = 3) (hp : sp2 l n2 = 1) : Good (Nx l n2) (st_L3_13 (st26 l n1 n2 n3 n4 n5 n6 n7 n8 n9 n10 n11 0 n12 n13 n14 n15 1 n16 n17)).sel := by
  obtain ⟨c0, c1, c2, c3, c4, c5, c6, c7, c8, c9, c10, c11, c12, c13, c14, c15, c16, c17, c18, c19, c20, c21, c22, c23, c24, c25, c26, c27, c28, c29, c30, c31, c32, c33, c34, c35, c36⟩ := h
  have gA : gd2 n3 n4 (sp2 l n2) = n4 := by rw [hp]; rfl
  have gB : gd2 n8 n9 (sp2 l n2) = n9 := by rw [hp]; rfl
  refine (fn_L3_13_r01p1k3_im l n1 n2 n3 n4 n5 n6 n7 n8 n9 n10 n11 n12 n13 n14 n15 n16 n17 c0 hi c1 c2 c3 c4 c5 c6 c7 c8 c9 c10 c11 c12 c13 c14 c15 c16 c17 c18 c19 c20 c21 c22 c23 c24 c25 c26 c27 c28 c29 c30 c31 c32 c33 c34 c35 c36 hk hp gA gB).good ?_
  have w1 : IntKind.wrap .i64 (n2 + 1) = n2 + 1 := w64 (by omega) (by omega)
  have w2 : IntKind.wrap .i64 (n1 + 1) = n1 + 1 := w64 (by omega) (by omega)
  have w3 : IntKind.wrap .i64 (n5 + 1) = n5 + 1 := w64 (by omega) (by omega)
  have w4 : IntKind.wrap .i64 (n1 + 8) = n1 + 8 := w64 (by omega) (by omega)
  have w5 : IntKind.wrap .i64 (n13 + 1) = n13 + 1 := w64 (by omega) (by omega)
  have w6 : IntKind.wrap .i64 (n17 + 1) = n17 + 1 := w64 (by omega) (by omega)
  have w7 : IntKind.wrap .i64 (n1 - n4 + 8) = n1 - n4 + 8 := w64 (by omega) (by omega)
  unfold fn_L3_13_r01p1k3
  have ga : gd2 n3 n4 1 = n4 := rfl
  have gb' : gd2 n8 n9 1 = n9 := rfl
  simp only [w1, w2, w3, w4, w5, w6, w7, hp, ga, gb', imax_max]
  clear w1 w2 w3 w4 w5 w6 w7 hk hp gA gB ga gb'
  repeat' (refine good_node (fun _ => ?_) (fun _ => ?_))
  all_goals first
    | exact good_leaf ⟨⟨_, _, _, _, _, _, _, _, _, _, _, _, _, _, _, _, _, _, _, rfl, by first | exact .inl rfl | exact .inr rfl, by first | exact .inl rfl | exact .inr rfl, (by (try simp only [DS] at *); constructor <;> first | assumption | omega), by omega⟩, rfl⟩
    | (exfalso; (try simp only [DS] at *); omega)
theorem s_r01p1k4 (l : LSt) (n1 n2 n3 n4 n5 n6 n7 n8 n9 n10 n11 n12 n13 n14 n15 n16 n17 : Int) (h : C26 n1 n2 n3 n4 n5 n6 n7 n8 n9 n10 n11 n12 n13 n14 n15 n16 n17) (hi : n2 < (l.length : Int)) (hl : (l.length : Int) ≤ 400) (hk : sp1 l n2 = 4) (hp : sp2 l n2 = 1) : Good (Nx l n2) (st_L3_13 (st26 l n1 n2 n3 n4 n5 n6 n7 n8 n9 n10 n11 0 n12 n13 n14 n15 1 n16 n17)).sel := by
  obtain ⟨c0, c1, c2, c3, c4, c5, c6, c7, c8, c9, c10, c11, c12, c13, c14, c15, c16, c17, c18, c19, c20, c21, c22, c23, c24, c25, c26, c27, c28, c29, c30, c31, c32, c33, c34, c35, c36⟩ := h
  have gA : gd2 n3 n4 (sp2 l n2) = n4 := by rw [hp]; rfl
  have gB : gd2 n8 n9 (sp2 l n2) = n9 := by rw [hp]; rfl
  refine (fn_L3_13_r01p1k4_im l n1 n2 n3 n4 n5 n6 n7 n8 n9 n10 n11 n12 n13 n14 n15 n16 n17 c0 hi c1 c2 c3 c4 c5 c6 c7 c8 c9 c10 c11 c12 c13 c14 c15 c16 c17 c18 c19 c20 c21 c22 c23 c24 c25 c26 c27 c28 c29 c30 c31 c32 c33 c34 c35 c36 hk hp gA gB).good ?_
  have w1 : IntKind.wrap .i64 (n2 + 1) = n2 + 1 := w64 (by omega) (by omega)
  have w2 : IntKind.wrap .i64 (n1 + 1) = n1 + 1 := w64 (by omega) (by omega)
  have w3 : IntKind.wrap .i64 (n5 + 1) = n5 + 1 := w64 (by omega) (by omega)
  have w4 : IntKind.wrap .i64 (n1 + 8) = n1 + 8 := w64 (by omega) (by omega)
  have w5 : IntKind.wrap .i64 (n13 + 1) = n13 + 1 := w64 (by omega) (by omega)
  have w6 : IntKind.wrap .i64 (n17 + 1) = n17 + 1 := w64 (by omega) (by omega)
  have w7 : IntKind.wrap .i64 (n1 - n4 + 8) = n1 - n4 + 8 := w64 (by omega) (by omega)
  unfold fn_L3_13_r01p1k4
  have ga : gd2 n3 n4 1 = n4 := rfl
  have gb' : gd2 n8 n9 1 = n9 := rfl
  simp only [w1, w2, w3, w4, w5, w6, w7, hp, ga, gb', imax_max]
  clear w1 w2 w3 w4 w5 w6 w7 hk hp gA gB ga gb'
  repeat' (refine good_node (fun _ => ?_) (fun _ => ?_))
  all_goals first
    | exact good_leaf ⟨⟨_, _, _, _, _, _, _, _, _, _, _, _, _, _, _, _, _, _, _, rfl, by first | exact .inl rfl | exact .inr rfl, by first | exact .inl rfl | exact .inr rfl, (by (try simp only [DS] at *); constructor <;> first | assumption | omega), by omega⟩, rfl⟩
    | (exfalso; (try simp only [DS] at *); omega)
theorem s_r01p1k5 (l : LSt) (n1 n2 n3 n4 n5 n6 n7 n8 n9 n10 n11 n12 n13 n14 n15 n16 n17 : Int) (h : C26 n1 n2 n3 n4 n5 n6 n7 n8 n9 n10 n11 n12 n13 n14 n15 n16 n17) (hi : n2 < (l.length : Int)) (hl : (l.length : Int) ≤ 400) (hk : sp1 l n2 = 5) (hp : sp2 l n2 = 1) : Good (Nx l n2) (st_L3_13 (st26 l n1 n2 n3 n4 n5 n6 n7 n8 n9 n10 n11 0 n12 n13 n14 n15 1 n16 n17)).sel := by
  obtain ⟨c0, c1, c2, c3, c4, c5, c6, c7, c8, c9, c10, c11, c12, c13, c14, c15, c16, c17, c18, c19, c20, c21, c22, c23, c24, c25, c26, c27, c28, c29, c30, c31, c32, c33, c34, c35, c36⟩ := h
  have gA : gd2 n3 n4 (sp2 l n2) = n4 := by rw [hp]; rfl
  have gB : gd2 n8 n9 (sp2 l n2) = n9 := by rw [hp]; rfl
  refine (fn_L3_13_r01p1k5_im l n1 n2 n3 n4 n5 n6 n7 n8 n9 n10 n11 n12 n13 n14 n15 n16 n17 c0 hi c1 c2 c3 c4 c5 c6 c7 c8 c9 c10 c11 c12 c13 c14 c15 c16 c17 c18 c19 c20 c21 c22 c23 c24 c25 c26 c27 c28 c29 c30 c31 c32 c33 c34 c35 c36 hk hp gA gB).good ?_
  have w1 : IntKind.wrap .i64 (n2 + 1) = n2 + 1 := w64 (by omega) (by omega)
  have w2 : IntKind.wrap .i64 (n1 + 1) = n1 + 1 := w64 (by omega) (by omega)
  have w3 : IntKind.wrap .i64 (n5 + 1) = n5 + 1 := w64 (by omega) (by omega)
  have w4 : IntKind.wrap .i64 (n1 + 8) = n1 + 8 := w64 (by omega) (by omega)
  have w5 : IntKind.wrap .i64 (n13 + 1) = n13 + 1 := w64 (by omega) (by omega)
  have w6 : IntKind.wrap .i64 (n17 + 1) = n17 + 1 := w64 (by omega) (by omega)
  have w7 : IntKind.wrap .i64 (n1 - n4 + 8) = n1 - n4 + 8 := w64 (by omega) (by omega)
  unfold fn_L3_13_r01p1k5
  have ga : gd2 n3 n4 1 = n4 := rfl
  have gb' : gd2 n8 n9 1 = n9 := rfl
  simp only [w1, w2, w3, w4, w5, w6, w7, hp, ga, gb', imax_max]
  clear w1 w2 w3 w4 w5 w6 w7 hk hp gA gB ga gb'
  repeat' (refine good_node (fun _ => ?_) (fun _ => ?_))
  all_goals first
    | exact good_leaf ⟨⟨_, _, _, _, _, _, _, _, _, _, _, _, _, _, _, _, _, _, _, rfl, by first | exact .inl rfl | exact .inr rfl, by first | exact .inl rfl | exact .inr rfl, (by (try simp only [DS] at *); constructor <;> first | assumption | omega), by omega⟩, rfl⟩
    | (exfalso; (try simp only [DS] at *); omega)
theorem s_r10p0k0 (l : LSt) (n1 n2 n3 n4 n5 n6 n7 n8 n9 n10 n11 n12 n13 n14 n15 n16 n17 : Int) (h : C26 n1 n2 n3 n4 n5 n6 n7 n8 n9 n10 n11 n12 n13 n14 n15 n16 n17) (hi : n2 < (l.length : Int)) (hl : (l.length : Int) ≤ 400) (hk : sp1 l n2 = 0) (hp : sp2 l n2 = 0) : Good (Nx l n2) (st_L3_13 (st26 l n1 n2 n3 n4 n5 n6 n7 n8 n9 n10 n11 1 n12 n13 n14 n15 0 n16 n17)).sel := by
  obtain ⟨c0, c1, c2, c3, c4, c5, c6, c7, c8, c9, c10, c11, c12, c13, c14, c15, c16, c17, c18, c19, c20, c21, c22, c23, c24, c25, c26, c27, c28, c29, c30, c31, c32, c33, c34, c35, c36⟩ := h
  have gA : gd2 n3 n4 (sp2 l n2) = n3 := by rw [hp]; rfl
  have gB : gd2 n8 n9 (sp2 l n2) = n8 := by rw [hp]; rfl
  refine (fn_L3_13_r10p0k0_im l n1 n2 n3 n4 n5 n6 n7 n8 n9 n10 n11 n12 n13 n14 n15 n16 n17 c0 hi c1 c2 c3 c4 c5 c6 c7 c8 c9 c10 c11 c12 c13 c14 c15 c16 c17 c18 c19 c20 c21 c22 c23 c24 c25 c26 c27 c28 c29 c30 c31 c32 c33 c34 c35 c36 hk hp gA gB).good ?_
  have w1 : IntKind.wrap .i64 (n2 + 1) = n2 + 1 := w64 (by omega) (by omega)
  have w2 : IntKind.wrap .i64 (n1 + 1) = n1 + 1 := w64 (by omega) (by omega)
  have w3 : IntKind.wrap .i64 (n5 + 1) = n5 + 1 := w64 (by omega) (by omega)
  have w4 : IntKind.wrap .i64 (n1 + 8) = n1 + 8 := w64 (by omega) (by omega)
  have w5 : IntKind.wrap .i64 (n13 + 1) = n13 + 1 := w64 (by omega) (by omega)
  have w6 : IntKind.wrap .i64 (n17 + 1) = n17 + 1 := w64 (by omega) (by omega)
  have w7 : IntKind.wrap .i64 (n1 - n3 + 8) = n1 - n3 + 8 := w64 (by omega) (by omega)
  unfold fn_L3_13_r10p0k0
  have ga : gd2 n3 n4 0 = n3 := rfl
  have gb' : gd2 n8 n9 0 = n8 := rfl
  simp only [w1, w2, w3, w4, w5, w6, w7, hp, ga, gb', imax_max]
  clear w1 w2 w3 w4 w5 w6 w7 hk hp gA gB ga gb'
  repeat' (refine good_node (fun _ => ?_) (fun _ => ?_))
  all_goals first
    | exact good_leaf ⟨⟨_, _, _, _, _, _, _, _, _, _, _, _, _, _, _, _, _, _, _, rfl, by first | exact .inl rfl | exact .inr rfl, by first | exact .inl rfl | exact .inr rfl, (by (try simp only [DS] at *); constructor <;> first | assumption | omega), by omega⟩, rfl⟩
    | (exfalso; (try simp only [DS] at *); omega)
theorem s_r10p0k1 (l : LSt) (n1 n2 n3 n4 n5 n6 n7 n8 n9 n10 n11 n12 n13 n14 n15 n16 n17 : Int) (h : C26 n1 n2 n3 n4 n5 n6 n7 n8 n9 n10 n11 n12 n13 n14 n15 n16 n17) (hi : n2 < (l.length : Int)) (hl : (l.length : Int) ≤ 400) (hk : sp1 l n2 = 1) (hp : sp2 l n2 = 0) : Good (Nx l n2) (st_L3_13 (st26 l n1 n2 n3 n4 n5 n6 n7 n8 n9 n10 n11 1 n12 n13 n14 n15 0 n16 n17)).sel := by
  obtain ⟨c0, c1, c2, c3, c4, c5, c6, c7, c8, c9, c10, c11, c12, c13, c14, c15, c16, c17, c18, c19, c20, c21, c22, c23, c24, c25, c26, c27, c28, c29, c30, c31, c32, c33, c34, c35, c36⟩ := h
  have gA : gd2 n3 n4 (sp2 l n2) = n3 := by rw [hp]; rfl
  have gB : gd2 n8 n9 (sp2 l n2) = n8 := by rw [hp]; rfl
  refine (fn_L3_13_r10p0k1_im l n1 n2 n3 n4 n5 n6 n7 n8 n9 n10 n11 n12 n13 n14 n15 n16 n17 c0 hi c1 c2 c3 c4 c5 c6 c7 c8 c9 c10 c11 c12 c13 c14 c15 c16 c17 c18 c19 c20 c21 c22 c23 c24 c25 c26 c27 c28 c29 c30 c31 c32 c33 c34 c35 c36 hk hp gA gB).good ?_
  have w1 : IntKind.wrap .i64 (n2 + 1) = n2 + 1 := w64 (by omega) (by omega)
  have w2 : IntKind.wrap .i64 (n1 + 1) = n1 + 1 := w64 (by omega) (by omega)
  have w3 : IntKind.wrap .i64 (n5 + 1) = n5 + 1 := w64 (by omega) (by omega)
  have w4 : IntKind.wrap .i64 (n1 + 8) = n1 + 8 := w64 (by omega) (by omega)
  have w5 : IntKind.wrap .i64 (n13 + 1) = n13 + 1 := w64 (by omega) (by omega)
  have w6 : IntKind.wrap .i64 (n17 + 1) = n17 + 1 := w64 (by omega) (by omega)
  have w7 : IntKind.wrap .i64 (n1 - n3 + 8) = n1 - n3 + 8 := w64 (by omega) (by omega)
  unfold fn_L3_13_r10p0k1
  have ga : gd2 n3 n4 0 = n3 := rfl
  have gb' : gd2 n8 n9 0 = n8 := rfl
  simp only [w1, w2, w3, w4, w5, w6, w7, hp, ga, gb', imax_max]
  clear w1 w2 w3 w4 w5 w6 w7 hk hp gA gB ga gb'
  repeat' (refine good_node (fun _ => ?_) (fun _ => ?_))
  all_goals first
    | exact good_leaf ⟨⟨_, _, _, _, _, _, _, _, _, _, _, _, _, _, _, _, _, _, _, rfl, by first | exact .inl rfl | exact .inr rfl, by first | exact .inl rfl | exact .inr rfl, (by (try simp only [DS] at *); constructor <;> first | assumption | omega), by omega⟩, rfl⟩
    | (exfalso; (try simp only [DS] at *); omega)
theorem s_r10p0k2 (l : LSt) (n1 n2 n3 n4 n5 n6 n7 n8 n9 n10 n11 n12 n13 n14 n15 n16 n17 : Int) (h : C26 n1 n2 n3 n4 n5 n6 n7 n8 n9 n10 n11 n12 n13 n14 n15 n16 n17) (hi : n2 < (l.length : Int)) (hl : (l.length : Int) ≤ 400) (hk : sp1 l n2 = 2) (hp : sp2 l n2 = 0) : Good (Nx l n2) (st_L3_13 (st26 l n1 n2 n3 n4 n5 n6 n7 n8 n9 n10 n11 1 n12 n13 n14 n15 0 n16 n17)).sel := by
  obtain ⟨c0, c1, c2, c3, c4, c5, c6, c7, c8, c9, c10, c11, c12, c13, c14, c15, c16, c17, c18, c19, c20, c21, c22, c23, c24, c25, c26, c27, c28, c29, c30, c31, c32, c33, c34, c35, c36⟩ := h
  have gA : gd2 n3 n4 (sp2 l n2) = n3 := by rw [hp]; rfl
  have gB : gd2 n8 n9 (sp2 l n2) = n8 := by rw [hp]; rfl
  refine (fn_L3_13_r10p0k2_im l n1 n2 n3 n4 n5 n6 n7 n8 n9 n10 n11 n12 n13 n14 n15 n16 n17 c0 hi c1 c2 c3 c4 c5 c6 c7 c8 c9 c10 c11 c12 c13 c14 c15 c16 c17 c18 c19 c20 c21 c22 c23 c24 c25 c26 c27 c28 c29 c30 c31 c32 c33 c34 c35 c36 hk hp gA gB).good ?_
  have w1 : IntKind.wrap .i64 (n2 + 1) = n2 + 1 := w64 (by omega) (by omega)
  have w2 : IntKind.wrap .i64 (n1 + 1) = n1 + 1 := w64 (by omega) (by omega)
  have w3 : IntKind.wrap .i64 (n5 + 1) = n5 + 1 := w64 (by omega) (by omega)
  have w4 : IntKind.wrap .i64 (n1 + 8) = n1 + 8 := w64 (by omega) (by omega)
  have w5 : IntKind.wrap .i64 (n13 + 1) = n13 + 1 := w64 (by omega) (by omega)
  have w6 : IntKind.wrap .i64 (n17 + 1) = n17 + 1 := w64 (by omega) (by omega)
  have w7 : IntKind.wrap .i64 (n1 - n3 + 8) = n1 - n3 + 8 := w64 (by omega) (by omega)
  unfold fn_L3_13_r10p0k2
  have ga : gd2 n3 n4 0 = n3 := rfl
  have gb' : gd2 n8 n9 0 = n8 := rfl
  simp only [w1, w2, w3, w4, w5, w6, w7, hp, ga, gb', imax_max]
  clear w1 w2 w3 w4 w5 w6 w7 hk hp gA gB ga gb'
  repeat' (refine good_node (fun _ => ?_) (fun _ => ?_))
  all_goals first
    | exact good_leaf ⟨⟨_, _, _, _, _, _, _, _, _, _, _, _, _, _, _, _, _, _, _, rfl, by first | exact .inl rfl | exact .inr rfl, by first | exact .inl rfl | exact .inr rfl, (by (try simp only [DS] at *); constructor <;> first | assumption | omega), by omega⟩, rfl⟩
    | (exfalso; (try simp only [DS] at *); omega)
theorem s_r10p0k3 (l : LSt) (n1 n2 n3 n4 n5 n6 n7 n8 n9 n10 n11 n12 n13 n14 n15 n16 n17 : Int) (h : C26 n1 n2 n3 n4 n5 n6 n7 n8 n9 n10 n11 n12 n13 n14 n15 n16 n17) (hi : n2 < (l.length : Int)) (hl : (l.length : Int) ≤ 400) (hk : sp1 l n2 = 3) (hp : sp2 l n2 = 0) : Good (Nx l n2) (st_L3_13 (st26 l n1 n2 n3 n4 n5 n6 n7 n8 n9 n10 n11 1 n12 n13 n14 n15 0 n16 n17)).sel := by
  obtain ⟨c0, c1, c2, c3, c4, c5, c6, c7, c8, c9, c10, c11, c12, c13, c14, c15, c16, c17, c18, c19, c20, c21, c22, c23, c24, c25, c26, c27, c28, c29, c30, c31, c32, c33, c34, c35, c36⟩ := h
  have gA : gd2 n3 n4 (sp2 l n2) = n3 := by rw [hp]; rfl
  have gB : gd2 n8 n9 (sp2 l n2) = n8 := by rw [hp]; rfl
  refine (fn_L3_13_r10p0k3_im l n1 n2 n3 n4 n5 n6 n7 n8 n9 n10 n11 n12 n13 n14 n15 n16 n17 c0 hi c1 c2 c3 c4 c5 c6 c7 c8 c9 c10 c11 c12 c13 c14 c15 c16 c17 c18 c19 c20 c21 c22 c23 c24 c25 c26 c27 c28 c29 c30 c31 c32 c33 c34 c35 c36 hk hp gA gB).good ?_
  have w1 : IntKind.wrap .i64 (n2 + 1) = n2 + 1 := w64 (by omega) (by omega)
  have w2 : IntKind.wrap .i64 (n1 + 1) = n1 + 1 := w64 (by omega) (by omega)
  have w3 : IntKind.wrap .i64 (n5 + 1) = n5 + 1 := w64 (by omega) (by omega)
  have w4 : IntKind.wrap .i64 (n1 + 8) = n1 + 8 := w64 (by omega) (by omega)
  have w5 : IntKind.wrap .i64 (n13 + 1) = n13 + 1 := w64 (by omega) (by omega)
  have w6 : IntKind.wrap .i64 (n17 + 1) = n17 + 1 := w64 (by omega) (by omega)
  have w7 : IntKind.wrap .i64 (n1 - n3 + 8) = n1 - n3 + 8 := w64 (by omega) (by omega)
  unfold fn_L3_13_r10p0k3
  have ga : gd2 n3 n4 0 = n3 := rfl
  have gb' : gd2 n8 n9 0 = n8 := rfl
  simp only [w1, w2, w3, w4, w5, w6, w7, hp, ga, gb', imax_max]
  clear w1 w2 w3 w4 w5 w6 w7 hk hp gA gB ga gb'
  repeat' (refine good_node (fun _ => ?_) (fun _ => ?_))
  all_goals first
    | exact good_leaf ⟨⟨_, _, _, _, _, _, _, _, _, _, _, _, _, _, _, _, _, _, _, rfl, by first | exact .inl rfl | exact .inr rfl, by first | exact .inl rfl | exact .inr rfl, (by (try simp only [DS] at *); constructor <;> first | assumption | omega), by omega⟩, rfl⟩
    | (exfalso; (try simp only [DS] at *); omega)
theorem s_r10p0k4 (l : LSt) (n1 n2 n3 n4 n5 n6 n7 n8 n9 n10 n11 n12 n13 n14 n15 n16 n17 : Int) (h : C26 n1 n2 n3 n4 n5 n6 n7 n8 n9 n10 n11 n12 n13 n14 n15 n16 n17) (hi : n2 < (l.length : Int)) (hl : (l.length : Int) ≤ 400) (hk : sp1 l n2 = 4) (hp : sp2 l n2 = 0) : Good (Nx l n2) (st_L3_13 (st26 l n1 n2 n3 n4 n5 n6 n7 n8 n9 n10 n11 1 n12 n13 n14 n15 0 n16 n17)).sel := by
  obtain ⟨c0, c1, c2, c3, c4, c5, c6, c7, c8, c9, c10, c11, c12, c13, c14, c15, c16, c17, c18, c19, c20, c21, c22, c23, c24, c25, c26, c27, c28, c29, c30, c31, c32, c33, c34, c35, c36⟩ := h
  have gA : gd2 n3 n4 (sp2 l n2) = n3 := by rw [hp]; rfl
  have gB : gd2 n8 n9 (sp2 l n2) = n8 := by rw [hp]; rfl
  refine (fn_L3_13_r10p0k4_im l n1 n2 n3 n4 n5 n6 n7 n8 n9 n10 n11 n12 n13 n14 n15 n16 n17 c0 hi c1 c2 c3 c4 c5 c6 c7 c8 c9 c10 c11 c12 c13 c14 c15 c16 c17 c18 c19 c20 c21 c22 c23 c24 c25 c26 c27 c28 c29 c30 c31 c32 c33 c34 c35 c36 hk hp gA gB).good ?_
  have w1 : IntKind.wrap .i64 (n2 + 1) = n2 + 1 := w64 (by omega) (by omega)
  have w2 : IntKind.wrap .i64 (n1 + 1) = n1 + 1 := w64 (by omega) (by omega)
  have w3 : IntKind.wrap .i64 (n5 + 1) = n5 + 1 := w64 (by omega) (by omega)
  have w4 : IntKind.wrap .i64 (n1 + 8) = n1 + 8 := w64 (by omega) (by omega)
  have w5 : IntKind.wrap .i64 (n13 + 1) = n13 + 1 := w64 (by omega) (by omega)
  have w6 : IntKind.wrap .i64 (n17 + 1) = n17 + 1 := w64 (by omega) (by omega)
  have w7 : IntKind.wrap .i64 (n1 - n3 + 8) = n1 - n3 + 8 := w64 (by omega) (by omega)
  unfold fn_L3_13_r10p0k4
  have ga : gd2 n3 n4 0 = n3 := rfl
  have gb' : gd2 n8 n9 0 = n8 := rfl
  simp only [w1, w2, w3, w4, w5, w6, w7, hp, ga, gb', imax_max]
  clear w1 w2 w3 w4 w5 w6 w7 hk hp gA gB ga gb'
  repeat' (refine good_node (fun _ => ?_) (fun _ => ?_))
  all_goals first
    | exact good_leaf ⟨⟨_, _, _, _, _, _, _, _, _, _, _, _, _, _, _, _, _, _, _, rfl, by first | exact .inl rfl | exact .inr rfl, by first | exact .inl rfl | exact .inr rfl, (by (try simp only [DS] at *); constructor <;> first | assumption | omega), by omega⟩, rfl⟩
    | (exfalso; (try simp only [DS] at *); omega)
theorem s_r10p0k5 (l : LSt) (n1 n2 n3 n4 n5 n6 n7 n8 n9 n10 n11 n12 n13 n14 n15 n16 n17 : Int) (h : C26 n1 n2 n3 n4 n5 n6 n7 n8 n9 n10 n11 n12 n13 n14 n15 n16 n17) (hi : n2 < (l.length : Int)) (hl : (l.length : Int) ≤ 400) (hk : sp1 l n2 = 5) (hp : sp2 l n2 = 0) : Good (Nx l n2) (st_L3_13 (st26 l n1 n2 n3 n4 n5 n6 n7 n8 n9 n10 n11 1 n12 n13 n14 n15 0 n16 n17)).sel := by
  obtain ⟨c0, c1, c2, c3, c4, c5, c6, c7, c8, c9, c10, c11, c12, c13, c14, c15, c16, c17, c18, c19, c20, c21, c22, c23, c24, c25, c26, c27, c28, c29, c30, c31, c32, c33, c34, c35, c36⟩ := h
  have gA : gd2 n3 n4 (sp2 l n2) = n3 := by rw [hp]; rfl
  have gB : gd2 n8 n9 (sp2 l n2) = n8 := by rw [hp]; rfl
  refine (fn_L3_13_r10p0k5_im l n1 n2 n3 n4 n5 n6 n7 n8 n9 n10 n11 n12 n13 n14 n15 n16 n17 c0 hi c1 c2 c3 c4 c5 c6 c7 c8 c9 c10 c11 c12 c13 c14 c15 c16 c17 c18 c19 c20 c21 c22 c23 c24 c25 c26 c27 c28 c29 c30 c31 c32 c33 c34 c35 c36 hk hp gA gB).good ?_
  have w1 : IntKind.wrap .i64 (n2 + 1) = n2 + 1 := w64 (by omega) (by omega)
  have w2 : IntKind.wrap .i64 (n1 + 1) = n1 + 1 := w64 (by omega) (by omega)
  have w3 : IntKind.wrap .i64 (n5 + 1) = n5 + 1 := w64 (by omega) (by omega)
  have w4 : IntKind.wrap .i64 (n1 + 8) = n1 + 8 := w64 (by omega) (by omega)
  have w5 : IntKind.wrap .i64 (n13 + 1) = n13 + 1 := w64 (by omega) (by omega)
  have w6 : IntKind.wrap .i64 (n17 + 1) = n17 + 1 := w64 (by omega) (by omega)
  have w7 : IntKind.wrap .i64 (n1 - n3 + 8) = n1 - n3 + 8 := w64 (by omega) (by omega)
  unfold fn_L3_13_r10p0k5
  have ga : gd2 n3 n4 0 = n3 := rfl
  have gb' : gd2 n8 n9 0 = n8 := rfl
  simp only [w1, w2, w3, w4, w5, w6, w7, hp, ga, gb', imax_max]
  clear w1 w2 w3 w4 w5 w6 w7 hk hp gA gB ga gb'
  repeat' (refine good_node (fun _ => ?_) (fun _ => ?_))
  all_goals first
    | exact good_leaf ⟨⟨_, _, _, _, _, _, _, _, _, _, _, _, _, _, _, _, _, _, _, rfl, by first | exact .inl rfl | exact .inr rfl, by first | exact .inl rfl | exact .inr rfl, (by (try simp only [DS] at *); constructor <;> first | assumption | omega), by omega⟩, rfl⟩
    | (exfalso; (try simp only [DS] at *); omega)
theorem s_r10p1k0 (l : LSt) (n1 n2 n3 n4 n5 n6 n7 n8 n9 n10 n11 n12 n13 n14 n15 n16 n17 : Int) (h : C26 n1 n2 n3 n4 n5 n6 n7 n8 n9 n10 n11 n12 n13 n14 n15 n16 n17) (hi : n2 < (l.length : Int)) (hl : (l.length : Int) ≤ 400) (hk : sp1 l n2 = 0) (hp : sp2 l n2 = 1) : Good (Nx l n2) (st_L3_13 (st26 l n1 n2 n3 n4 n5 n6 n7 n8 n9 n10 n11 1 n12 n13 n14 n15 0 n16 n17)).sel := by
  obtain ⟨c0, c1, c2, c3, c4, c5, c6, c7, c8, c9, c10, c11, c12, c13, c14, c15, c16, c17, c18, c19, c20, c21, c22, c23, c24, c25, c26, c27, c28, c29, c30, c31, c32, c33, c34, c35, c36⟩ := h
  have gA : gd2 n3 n4 (sp2 l n2) = n4 := by rw [hp]; rfl
  have gB : gd2 n8 n9 (sp2 l n2) = n9 := by rw [hp]; rfl
  refine (fn_L3_13_r10p1k0_im l n1 n2 n3 n4 n5 n6 n7 n8 n9 n10 n11 n12 n13 n14 n15 n16 n17 c0 hi c1 c2 c3 c4 c5 c6 c7 c8 c9 c10 c11 c12 c13 c14 c15 c16 c17 c18 c19 c20 c21 c22 c23 c24 c25 c26 c27 c28 c29 c30 c31 c32 c33 c34 c35 c36 hk hp gA gB).good ?_
  have w1 : IntKind.wrap .i64 (n2 + 1) = n2 + 1 := w64 (by omega) (by omega)
  have w2 : IntKind.wrap .i64 (n1 + 1) = n1 + 1 := w64 (by omega) (by omega)
  have w3 : IntKind.wrap .i64 (n5 + 1) = n5 + 1 := w64 (by omega) (by omega)
  have w4 : IntKind.wrap .i64 (n1 + 8) = n1 + 8 := w64 (by omega) (by omega)
  have w5 : IntKind.wrap .i64 (n13 + 1) = n13 + 1 := w64 (by omega) (by omega)
  have w6 : IntKind.wrap .i64 (n17 + 1) = n17 + 1 := w64 (by omega) (by omega)
  have w7 : IntKind.wrap .i64 (n1 - n4 + 8) = n1 - n4 + 8 := w64 (by omega) (by omega)
  unfold fn_L3_13_r10p1k0
  have ga : gd2 n3 n4 1 = n4 := rfl
  have gb' : gd2 n8 n9 1 = n9 := rfl
  simp only [w1, w2, w3, w4, w5, w6, w7, hp, ga, gb', imax_max]
  clear w1 w2 w3 w4 w5 w6 w7 hk hp gA gB ga gb'
  repeat' (refine good_node (fun _ => ?_) (fun _ => ?_))
  all_goals first
    | exact good_leaf ⟨⟨_, _, _, _, _, _, _, _, _, _, _, _, _, _, _, _, _, _, _, rfl, by first | exact .inl rfl | exact .inr rfl, by first | exact .inl rfl | exact .inr rfl, (by (try simp only [DS] at *); constructor <;> first | assumption | omega), by omega⟩, rfl⟩
    | (exfalso; (try simp only [DS] at *); omega)
theorem s_r10p1k1 (l : LSt) (n1 n2 n3 n4 n5 n6 n7 n8 n9 n10 n11 n12 n13 n14 n15 n16 n17 : Int) (h : C26 n1 n2 n3 n4 n5 n6 n7 n8 n9 n10 n11 n12 n13 n14 n15 n16 n17) (hi : n2 < (l.length : Int)) (hl : (l.length : Int) ≤ 400) (hk : sp1 l n2 = 1) (hp : sp2 l n2 = 1) : Good (Nx l n2) (st_L3_13 (st26 l n1 n2 n3 n4 n5 n6 n7 n8 n9 n10 n11 1 n12 n13 n14 n15 0 n16 n17)).sel := by
  obtain ⟨c0, c1, c2, c3, c4, c5, c6, c7, c8, c9, c10, c11, c12, c13, c14, c15, c16, c17, c18, c19, c20, c21, c22, c23, c24, c25, c26, c27, c28, c29, c30, c31, c32, c33, c34, c35, c36⟩ := h
  have gA : gd2 n3 n4 (sp2 l n2) = n4 := by rw [hp]; rfl
  have gB : gd2 n8 n9 (sp2 l n2) = n9 := by rw [hp]; rfl
  refine (fn_L3_13_r10p1k1_im l n1 n2 n3 n4 n5 n6 n7 n8 n9 n10 n11 n12 n13 n14 n15 n16 n17 c0 hi c1 c2 c3 c4 c5 c6 c7 c8 c9 c10 c11 c12 c13 c14 c15 c16 c17 c18 c19 c20 c21 c22 c23 c24 c25 c26 c27 c28 c29 c30 c31 c32 c33 c34 c35 c36 hk hp gA gB).good ?_
  have w1 : IntKind.wrap .i64 (n2 + 1) = n2 + 1 := w64 (by omega) (by omega)
  have w2 : IntKind.wrap .i64 (n1 + 1) = n1 + 1 := w64 (by omega) (by omega)
  have w3 : IntKind.wrap .i64 (n5 + 1) = n5 + 1 := w64 (by omega) (by omega)
  have w4 : IntKind.wrap .i64 (n1 + 8) = n1 + 8 := w64 (by omega) (by omega)
  have w5 : IntKind.wrap .i64 (n13 + 1) = n13 + 1 := w64 (by omega) (by omega)
  have w6 : IntKind.wrap .i64 (n17 + 1) = n17 + 1 := w64 (by omega) (by omega)
  have w7 : IntKind.wrap .i64 (n1 - n4 + 8) = n1 - n4 + 8 := w64 (by omega) (by omega)
  unfold fn_L3_13_r10p1k1
  have ga : gd2 n3 n4 1 = n4 := rfl
  have gb' : gd2 n8 n9 1 = n9 := rfl
  simp only [w1, w2, w3, w4, w5, w6, w7, hp, ga, gb', imax_max]
  clear w1 w2 w3 w4 w5 w6 w7 hk hp gA gB ga gb'
  repeat' (refine good_node (fun _ => ?_) (fun _ => ?_))
  all_goals first
    | exact good_leaf ⟨⟨_, _, _, _, _, _, _, _, _, _, _, _, _, _, _, _, _, _, _, rfl, by first | exact .inl rfl | exact .inr rfl, by first | exact .inl rfl | exact .inr rfl, (by (try simp only [DS] at *); constructor <;> first | assumption | omega), by omega⟩, rfl⟩
    | (exfalso; (try simp only [DS] at *); omega)
theorem s_r10p1k2 (l : LSt) (n1 n2 n3 n4 n5 n6 n7 n8 n9 n10 n11 n12 n13 n14 n15 n16 n17 : Int) (h : C26 n1 n2 n3 n4 n5 n6 n7 n8 n9 n10 n11 n12 n13 n14 n15 n16 n17) (hi : n2 < (l.length : Int)) (hl : (l.length : Int) ≤ 400) (hk : sp1 l n2 = 2) (hp : sp2 l n2 = 1) : Good (Nx l n2) (st_L3_13 (st26 l n1 n2 n3 n4 n5 n6 n7 n8 n9 n10 n11 1 n12 n13 n14 n15 0 n16 n17)).sel := by
  obtain ⟨c0, c1, c2, c3, c4, c5, c6, c7, c8, c9, c10, c11, c12, c13, c14, c15, c16, c17, c18, c19, c20, c21, c22, c23, c24, c25, c26, c27, c28, c29, c30, c31, c32, c33, c34, c35, c36⟩ := h
  have gA : gd2 n3 n4 (sp2 l n2) = n4 := by rw [hp]; rfl
  have gB : gd2 n8 n9 (sp2 l n2) = n9 := by rw [hp]; rfl
  refine (fn_L3_13_r10p1k2_im l n1 n2 n3 n4 n5 n6 n7 n8 n9 n10 n11 n12 n13 n14 n15 n16 n17 c0 hi c1 c2 c3 c4 c5 c6 c7 c8 c9 c10 c11 c12 c13 c14 c15 c16 c17 c18 c19 c20 c21 c22 c23 c24 c25 c26 c27 c28 c29 c30 c31 c32 c33 c34 c35 c36 hk hp gA gB).good ?_
  have w1 : IntKind.wrap .i64 (n2 + 1) = n2 + 1 := w64 (by omega) (by omega)
  have w2 : IntKind.wrap .i64 (n1 + 1) = n1 + 1 := w64 (by omega) (by omega)
  have w3 : IntKind.wrap .i64 (n5 + 1) = n5 + 1 := w64 (by omega) (by omega)
  have w4 : IntKind.wrap .i64 (n1 + 8) = n1 + 8 := w64 (by omega) (by omega)
  have w5 : IntKind.wrap .i64 (n13 + 1) = n13 + 1 := w64 (by omega) (by omega)
  have w6 : IntKind.wrap .i64 (n17 + 1) = n17 + 1 := w64 (by omega) (by omega)
  have w7 : IntKind.wrap .i64 (n1 - n4 + 8) = n1 - n4 + 8 := w64 (by omega) (by omega)
  unfold fn_L3_13_r10p1k2
  have ga : gd2 n3 n4 1 = n4 := rfl
  have gb' : gd2 n8 n9 1 = n9 := rfl
  simp only [w1, w2, w3, w4, w5, w6, w7, hp, ga, gb', imax_max]
  clear w1 w2 w3 w4 w5 w6 w7 hk hp gA gB ga gb'
  repeat' (refine good_node (fun _ => ?_) (fun _ => ?_))
  all_goals first
    | exact good_leaf ⟨⟨_, _, _, _, _, _, _, _, _, _, _, _, _, _, _, _, _, _, _, rfl, by first | exact .inl rfl | exact .inr rfl, by first | exact .inl rfl | exact .inr rfl, (by (try simp only [DS] at *); constructor <;> first | assumption | omega), by omega⟩, rfl⟩
    | (exfalso; (try simp only [DS] at *); omega)
theorem s_r10p1k3 (l : LSt) (n1 n2 n3 n4 n5 n6 n7 n8 n9 n10 n11 n12 n13 n14 n15 n16 n17 : Int) (h : C26 n1 n2 n3 n4 n5 n6 n7 n8 n9 n10 n11 n12 n13 n14 n15 n16 n17) (hi : n2 < (l.length : Int)) (hl : (l.length : Int) ≤ 400) (hk : sp1 l n2 = 3) (hp : sp2 l n2 = 1) : Good (Nx l n2) (st_L3_13 (st26 l n1 n2 n3 n4 n5 n6 n7 n8 n9 n10 n11 1 n12 n13 n14 n15 0 n16 n17)).sel := by
  obtain ⟨c0, c1, c2, c3, c4, c5, c6, c7, c8, c9, c10, c11, c12, c13, c14, c15, c16, c17, c18, c19, c20, c21, c22, c23, c24, c25, c26, c27, c28, c29, c30, c31, c32, c33, c34, c35, c36⟩ := h
  have gA : gd2 n3 n4 (sp2 l n2) = n4 := by rw [hp]; rfl
  have gB : gd2 n8 n9 (sp2 l n2) = n9 := by rw [hp]; rfl
  refine (fn_L3_13_r10p1k3_im l n1 n2 n3 n4 n5 n6 n7 n8 n9 n10 n11 n12 n13 n14 n15 n16 n17 c0 hi c1 c2 c3 c4 c5 c6 c7 c8 c9 c10 c11 c12 c13 c14 c15 c16 c17 c18 c19 c20 c21 c22 c23 c24 c25 c26 c27 c28 c29 c30 c31 c32 c33 c34 c35 c36 hk hp gA gB).good ?_
  have w1 : IntKind.wrap .i64 (n2 + 1) = n2 + 1 := w64 (by omega) (by omega)
  have w2 : IntKind.wrap .i64 (n1 + 1) = n1 + 1 := w64 (by omega) (by omega)
  have w3 : IntKind.wrap .i64 (n5 + 1) = n5 + 1 := w64 (by omega) (by omega)
  have w4 : IntKind.wrap .i64 (n1 + 8) = n1 + 8 := w64 (by omega) (by omega)
  have w5 : IntKind.wrap .i64 (n13 + 1) = n13 + 1 := w64 (by omega) (by omega)
  have w6 : IntKind.wrap .i64 (n17 + 1) = n17 + 1 := w64 (by omega) (by omega)
  have w7 : IntKind.wrap .i64 (n1 - n4 + 8) = n1 - n4 + 8 := w64 (by omega) (by omega)
  unfold fn_L3_13_r10p1k3
  have ga : gd2 n3 n4 1 = n4 := rfl
  have gb' : gd2 n8 n9 1 = n9 := rfl
  simp only [w1, w2, w3, w4, w5, w6, w7, hp, ga, gb', imax_max]
  clear w1 w2 w3 w4 w5 w6 w7 hk hp gA gB ga gb'
  repeat' (refine good_node (fun _ => ?_) (fun _ => ?_))
  all_goals first
    | exact good_leaf ⟨⟨_, _, _, _, _, _, _, _, _, _, _, _, _, _, _, _, _, _, _, rfl, by first | exact .inl rfl | exact .inr rfl, by first | exact .inl rfl | exact .inr rfl, (by (try simp only [DS] at *); constructor <;> first | assumption | omega), by omega⟩, rfl⟩
    | (exfalso; (try simp only [DS] at *); omega)
theorem s_r10p1k4 (l : LSt) (n1 n2 n3 n4 n5 n6 n7 n8 n9 n10 n11 n12 n13 n14 n15 n16 n17 : Int) (h : C26 n1 n2 n3 n4 n5 n6 n7 n8 n9 n10 n11 n12 n13 n14 n15 n16 n17) (hi : n2 < (l.length : Int)) (hl : (l.length : Int) ≤ 400) (hk : sp1 l n2 = 4) (hp : sp2 l n2 = 1) : Good (Nx l n2) (st_L3_13 (st26 l n1 n2 n3 n4 n5 n6 n7 n8 n9 n10 n11 1 n12 n13 n14 n15 0 n16 n17)).sel := by
  obtain ⟨c0, c1, c2, c3, c4, c5, c6, c7, c8, c9, c10, c11, c12, c13, c14, c15, c16, c17, c18, c19, c20, c21, c22, c23, c24, c25, c26, c27, c28, c29, c30, c31, c32, c33, c34, c35, c36⟩ := h
  have gA : gd2 n3 n4 (sp2 l n2) = n4 := by rw [hp]; rfl
  have gB : gd2 n8 n9 (sp2 l n2) = n9 := by rw [hp]; rfl
  refine (fn_L3_13_r10p1k4_im l n1 n2 n3 n4 n5 n6 n7 n8 n9 n10 n11 n12 n13 n14 n15 n16 n17 c0 hi c1 c2 c3 c4 c5 c6 c7 c8 c9 c10 c11 c12 c13 c14 c15 c16 c17 c18 c19 c20 c21 c22 c23 c24 c25 c26 c27 c28 c29 c30 c31 c32 c33 c34 c35 c36 hk hp gA gB).good ?_
  have w1 : IntKind.wrap .i64 (n2 + 1) = n2 + 1 := w64 (by omega) (by omega)
  have w2 : IntKind.wrap .i64 (n1 + 1) = n1 + 1 := w64 (by omega) (by omega)
  have w3 : IntKind.wrap .i64 (n5 + 1) = n5 + 1 := w64 (by omega) (by omega)
  have w4 : IntKind.wrap .i64 (n1 + 8) = n1 + 8 := w64 (by omega) (by omega)
  have w5 : IntKind.wrap .i64 (n13 + 1) = n13 + 1 := w64 (by omega) (by omega)
  have w6 : IntKind.wrap .i64 (n17 + 1) = n17 + 1 := w64 (by omega) (by omega)
  have w7 : IntKind.wrap .i64 (n1 - n4 + 8) = n1 - n4 + 8 := w64 (by omega) (by omega)
  unfold fn_L3_13_r10p1k4
  have ga : gd2 n3 n4 1 = n4 := rfl
  have gb' : gd2 n8 n9 1 = n9 := rfl
  simp only [w1, w2, w3, w4, w5, w6, w7, hp, ga, gb', imax_max]
  clear w1 w2 w3 w4 w5 w6 w7 hk hp gA gB ga gb'
  repeat' (refine good_node (fun _ => ?_) (fun _ => ?_))
  all_goals first
    | exact good_leaf ⟨⟨_, _, _, _, _, _, _, _, _, _, _, _, _, _, _, _, _, _, _, rfl, by first | exact .inl rfl | exact .inr rfl, by first | exact .inl rfl | exact .inr rfl, (by (try simp only [DS] at *); constructor <;> first | assumption | omega), by omega⟩, rfl⟩
    | (exfalso; (try simp only [DS] at *); omega)
theorem s_r10p1k5 (l : LSt) (n1 n2 n3 n4 n5 n6 n7 n8 n9 n10 n11 n12 n13 n14 n15 n16 n17 : Int) (h : C26 n1 n2 n3 n4 n5 n6 n7 n8 n9 n10 n11 n12 n13 n14 n15 n16 n17) (hi : n2 < (l.length : Int)) (hl : (l.length : Int) ≤ 400) (hk : sp1 l n2 = 5) (hp : sp2 l n2 = 1) : Good (Nx l n2) (st_L3_13 (st26 l n1 n2 n3 n4 n5 n6 n7 n8 n9 n10 n11 1 n12 n13 n14 n15 0 n16 n17)).sel := by
  obtain ⟨c0, c1, c2, c3, c4, c5, c6, c7, c8, c9, c10, c11, c12, c13, c14, c15, c16, c17, c18, c19, c20, c21, c22, c23, c24, c25, c26, c27, c28, c29, c30, c31, c32, c33, c34, c35, c36⟩ := h
  have gA : gd2 n3 n4 (sp2 l n2) = n4 := by rw [hp]; rfl
  have gB : gd2 n8 n9 (sp2 l n2) = n9 := by rw [hp]; rfl
  refine (fn_L3_13_r10p1k5_im l n1 n2 n3 n4 n5 n6 n7 n8 n9 n10 n11 n12 n13 n14 n15 n16 n17 c0 hi c1 c2 c3 c4 c5 c6 c7 c8 c9 c10 c11 c12 c13 c14 c15 c16 c17 c18 c19 c20 c21 c22 c23 c24 c25 c26 c27 c28 c29 c30 c31 c32 c33 c34 c35 c36 hk hp gA gB).good ?_
  have w1 : IntKind.wrap .i64 (n2 + 1) = n2 + 1 := w64 (by omega) (by omega)
  have w2 : IntKind.wrap .i64 (n1 + 1) = n1 + 1 := w64 (by omega) (by omega)
  have w3 : IntKind.wrap .i64 (n5 + 1) = n5 + 1 := w64 (by omega) (by omega)
  have w4 : IntKind.wrap .i64 (n1 + 8) = n1 + 8 := w64 (by omega) (by omega)
  have w5 : IntKind.wrap .i64 (n13 + 1) = n13 + 1 := w64 (by omega) (by omega)
  have w6 : IntKind.wrap .i64 (n17 + 1) = n17 + 1 := w64 (by omega) (by omega)
  have w7 : IntKind.wrap .i64 (n1 - n4 + 8) = n1 - n4 + 8 := w64 (by omega) (by omega)
  unfold fn_L3_13_r10p1k5
  have ga : gd2 n3 n4 1 = n4 := rfl
  have gb' : gd2 n8 n9 1 = n9 := rfl
  simp only [w1, w2, w3, w4, w5, w6, w7, hp, ga, gb', imax_max]
  clear w1 w2 w3 w4 w5 w6 w7 hk hp gA gB ga gb'
  repeat' (refine good_node (fun _ => ?_) (fun _ => ?_))
  all_goals first
    | exact good_leaf ⟨⟨_, _, _, _, _, _, _, _, _, _, _, _, _, _, _, _, _, _, _, rfl, by first | exact .inl rfl | exact .inr rfl, by first | exact .inl rfl | exact .inr rfl, (by (try simp only [DS] at *); constructor <;> first | assumption | omega), by omega⟩, rfl⟩
    | (exfalso; (try simp only [DS] at *); omega)
theorem s_r11p0k0 (l : LSt) (n1 n2 n3 n4 n5 n6 n7 n8 n9 n10 n11 n12 n13 n14 n15 n16 n17 : Int) (h : C26 n1 n2 n3 n4 n5 n6 n7 n8 n9 n10 n11 n12 n13 n14 n15 n16 n17) (hi : n2 < (l.length : Int)) (hl : (l.length : Int) ≤ 400) (hk : sp1 l n2 = 0) (hp : sp2 l n2 = 0) : Good (Nx l n2) (st_L3_13 (st26 l n1 n2 n3 n4 n5 n6 n7 n8 n9 n10 n11 1 n12 n13 n14 n15 1 n16 n17)).sel := by
  obtain ⟨c0, c1, c2, c3, c4, c5, c6, c7, c8, c9, c10, c11, c12, c13, c14, c15, c16, c17, c18, c19, c20, c21, c22, c23, c24, c25, c26, c27, c28, c29, c30, c31, c32, c33, c34, c35, c36⟩ := h
  have gA : gd2 n3 n4 (sp2 l n2) = n3 := by rw [hp]; rfl
  have gB : gd2 n8 n9 (sp2 l n2) = n8 := by rw [hp]; rfl
  refine (fn_L3_13_r11p0k0_im l n1 n2 n3 n4 n5 n6 n7 n8 n9 n10 n11 n12 n13 n14 n15 n16 n17 c0 hi c1 c2 c3 c4 c5 c6 c7 c8 c9 c10 c11 c12 c13 c14 c15 c16 c17 c18 c19 c20 c21 c22 c23 c24 c25 c26 c27 c28 c29 c30 c31 c32 c33 c34 c35 c36 hk hp gA gB).good ?_
  have w1 : IntKind.wrap .i64 (n2 + 1) = n2 + 1 := w64 (by omega) (by omega)
  have w2 : IntKind.wrap .i64 (n1 + 1) = n1 + 1 := w64 (by omega) (by omega)
  have w3 : IntKind.wrap .i64 (n5 + 1) = n5 + 1 := w64 (by omega) (by omega)
  have w4 : IntKind.wrap .i64 (n1 + 8) = n1 + 8 := w64 (by omega) (by omega)
  have w5 : IntKind.wrap .i64 (n13 + 1) = n13 + 1 := w64 (by omega) (by omega)
  have w6 : IntKind.wrap .i64 (n17 + 1) = n17 + 1 := w64 (by omega) (by omega)
  have w7 : IntKind.wrap .i64 (n1 - n3 + 8) = n1 - n3 + 8 := w64 (by omega) (by omega)
  unfold fn_L3_13_r11p0k0
  have ga : gd2 n3 n4 0 = n3 := rfl
  have gb' : gd2 n8 n9 0 = n8 := rfl
  simp only [w1, w2, w3, w4, w5, w6, w7, hp, ga, gb', imax_max]
  clear w1 w2 w3 w4 w5 w6 w7 hk hp gA gB ga gb'
  repeat' (refine good_node (fun _ => ?_) (fun _ => ?_))
  all_goals first
    | exact good_leaf ⟨⟨_, _, _, _, _, _, _, _, _, _, _, _, _, _, _, _, _, _, _, rfl, by first | exact .inl rfl | exact .inr rfl, by first | exact .inl rfl | exact .inr rfl, (by (try simp only [DS] at *); constructor <;> first | assumption | omega), by omega⟩, rfl⟩
    | (exfalso; (try simp only [DS] at *); omega)
theorem s_r11p0k1 (l : LSt) (n1 n2 n3 n4 n5 n6 n7 n8 n9 n10 n11 n12 n13 n14 n15 n16 n17 : Int) (h : C26 n1 n2 n3 n4 n5 n6 n7 n8 n9 n10 n11 n12 n13 n14 n15 n16 n17) (hi : n2 < (l.length : Int)) (hl : (l.length : Int) ≤ 400) (hk : sp1 l n2 = 1) (hp : sp2 l n2 = 0) : Good (Nx l n2) (st_L3_13 (st26 l n1 n2 n3 n4 n5 n6 n7 n8 n9 n10 n11 1 n12 n13 n14 n15 1 n16 n17)).sel := by
  obtain ⟨c0, c1, c2, c3, c4, c5, c6, c7, c8, c9, c10, c11, c12, c13, c14, c15, c16, c17, c18, c19, c20, c21, c22, c23, c24, c25, c26, c27, c28, c29, c30, c31, c32, c33, c34, c35, c36⟩ := h
  have gA : gd2 n3 n4 (sp2 l n2) = n3 := by rw [hp]; rfl
  have gB : gd2 n8 n9 (sp2 l n2) = n8 := by rw [hp]; rfl
  refine (fn_L3_13_r11p0k1_im l n1 n2 n3 n4 n5 n6 n7 n8 n9 n10 n11 n12 n13 n14 n15 n16 n17 c0 hi c1 c2 c3 c4 c5 c6 c7 c8 c9 c10 c11 c12 c13 c14 c15 c16 c17 c18 c19 c20 c21 c22 c23 c24 c25 c26 c27 c28 c29 c30 c31 c32 c33 c34 c35 c36 hk hp gA gB).good ?_
  have w1 : IntKind.wrap .i64 (n2 + 1) = n2 + 1 := w64 (by omega) (by omega)
  have w2 : IntKind.wrap .i64 (n1 + 1) = n1 + 1 := w64 (by omega) (by omega)
  have w3 : IntKind.wrap .i64 (n5 + 1) = n5 + 1 := w64 (by omega) (by omega)
  have w4 : IntKind.wrap .i64 (n1 + 8) = n1 + 8 := w64 (by omega) (by omega)
  have w5 : IntKind.wrap .i64 (n13 + 1) = n13 + 1 := w64 (by omega) (by omega)
  have w6 : IntKind.wrap .i64 (n17 + 1) = n17 + 1 := w64 (by omega) (by omega)
  have w7 : IntKind.wrap .i64 (n1 - n3 + 8) = n1 - n3 + 8 := w64 (by omega) (by omega)
  unfold fn_L3_13_r11p0k1
  have ga : gd2 n3 n4 0 = n3 := rfl
  have gb' : gd2 n8 n9 0 = n8 := rfl
  simp only [w1, w2, w3, w4, w5, w6, w7, hp, ga, gb', imax_max]
  clear w1 w2 w3 w4 w5 w6 w7 hk hp gA gB ga gb'
  repeat' (refine good_node (fun _ => ?_) (fun _ => ?_))
  all_goals first
    | exact good_leaf ⟨⟨_, _, _, _, _, _, _, _, _, _, _, _, _, _, _, _, _, _, _, rfl, by first | exact .inl rfl | exact .inr rfl, by first | exact .inl rfl | exact .inr rfl, (by (try simp only [DS] at *); constructor <;> first | assumption | omega), by omega⟩, rfl⟩
    | (exfalso; (try simp only [DS] at *); omega)
theorem s_r11p0k2 (l : LSt) (n1 n2 n3 n4 n5 n6 n7 n8 n9 n10 n11 n12 n13 n14 n15 n16 n17 : Int) (h : C26 n1 n2 n3 n4 n5 n6 n7 n8 n9 n10 n11 n12 n13 n14 n15 n16 n17) (hi : n2 < (l.length : Int)) (hl : (l.length : Int) ≤ 400) (hk : sp1 l n2 = 2) (hp : sp2 l n2 = 0) : Good (Nx l n2) (st_L3_13 (st26 l n1 n2 n3 n4 n5 n6 n7 n8 n9 n10 n11 1 n12 n13 n14 n15 1 n16 n17)).sel := by
  obtain ⟨c0, c1, c2, c3, c4, c5, c6, c7, c8, c9, c10, c11, c12, c13, c14, c15, c16, c17, c18, c19, c20, c21, c22, c23, c24, c25, c26, c27, c28, c29, c30, c31, c32, c33, c34, c35, c36⟩ := h
  have gA : gd2 n3 n4 (sp2 l n2) = n3 := by rw [hp]; rfl
  have gB : gd2 n8 n9 (sp2 l n2) = n8 := by rw [hp]; rfl
  refine (fn_L3_13_r11p0k2_im l n1 n2 n3 n4 n5 n6 n7 n8 n9 n10 n11 n12 n13 n14 n15 n16 n17 c0 hi c1 c2 c3 c4 c5 c6 c7 c8 c9 c10 c11 c12 c13 c14 c15 c16 c17 c18 c19 c20 c21 c22 c23 c24 c25 c26 c27 c28 c29 c30 c31 c32 c33 c34 c35 c36 hk hp gA gB).good ?_
  have w1 : IntKind.wrap .i64 (n2 + 1) = n2 + 1 := w64 (by omega) (by omega)
  have w2 : IntKind.wrap .i64 (n1 + 1) = n1 + 1 := w64 (by omega) (by omega)
  have w3 : IntKind.wrap .i64 (n5 + 1) = n5 + 1 := w64 (by omega) (by omega)
  have w4 : IntKind.wrap .i64 (n1 + 8) = n1 + 8 := w64 (by omega) (by omega)
  have w5 : IntKind.wrap .i64 (n13 + 1) = n13 + 1 := w64 (by omega) (by omega)
  have w6 : IntKind.wrap .i64 (n17 + 1) = n17 + 1 := w64 (by omega) (by omega)
  have w7 : IntKind.wrap .i64 (n1 - n3 + 8) = n1 - n3 + 8 := w64 (by omega) (by omega)
  unfold fn_L3_13_r11p0k2
  have ga : gd2 n3 n4 0 = n3 := rfl
  have gb' : gd2 n8 n9 0 = n8 := rfl
  simp only [w1, w2, w3, w4, w5, w6, w7, hp, ga, gb', imax_max]
  clear w1 w2 w3 w4 w5 w6 w7 hk hp gA gB ga gb'
  repeat' (refine good_node (fun _ => ?_) (fun _ => ?_))
  all_goals first
    | exact good_leaf ⟨⟨_, _, _, _, _, _, _, _, _, _, _, _, _, _, _, _, _, _, _, rfl, by first | exact .inl rfl | exact .inr rfl, by first | exact .inl rfl | exact .inr rfl, (by (try simp only [DS] at *); constructor <;> first | assumption | omega), by omega⟩, rfl⟩
    | (exfalso; (try simp only [DS] at *); omega)
theorem s_r11p0k3 (l : LSt) (n1 n2 n3 n4 n5 n6 n7 n8 n9 n10 n11 n12 n13 n14 n15 n16 n17 : Int) (h : C26 n1 n2 n3 n4 n5 n6 n7 n8 n9 n10 n11 n12 n13 n14 n15 n16 n17) (hi : n2 < (l.length : Int)) (hl : (l.length : Int) ≤ 400) (hk : sp1 l n2 = 3) (hp : sp2 l n2 = 0) : Good (Nx l n2) (st_L3_13 (st26 l n1 n2 n3 n4 n5 n6 n7 n8 n9 n10 n11 1 n12 n13 n14 n15 1 n16 n17)).sel := by
  obtain ⟨c0, c1, c2, c3, c4, c5, c6, c7, c8, c9, c10, c11, c12, c13, c14, c15, c16, c17, c18, c19, c20, c21, c22, c23, c24, c25, c26, c27, c28, c29, c30, c31, c32, c33, c34, c35, c36⟩ := h
  have gA : gd2 n3 n4 (sp2 l n2) = n3 := by rw [hp]; rfl
  have gB : gd2 n8 n9 (sp2 l n2) = n8 := by rw [hp]; rfl
  refine (fn_L3_13_r11p0k3_im l n1 n2 n3 n4 n5 n6 n7 n8 n9 n10 n11 n12 n13 n14 n15 n16 n17 c0 hi c1 c2 c3 c4 c5 c6 c7 c8 c9 c10 c11 c12 c13 c14 c15 c16 c17 c18 c19 c20 c21 c22 c23 c24 c25 c26 c27 c28 c29 c30 c31 c32 c33 c34 c35 c36 hk hp gA gB).good ?_
  have w1 : IntKind.wrap .i64 (n2 + 1) = n2 + 1 := w64 (by omega) (by omega)
  have w2 : IntKind.wrap .i64 (n1 + 1) = n1 + 1 := w64 (by omega) (by omega)
  have w3 : IntKind.wrap .i64 (n5 + 1) = n5 + 1 := w64 (by omega) (by omega)
  have w4 : IntKind.wrap .i64 (n1 + 8) = n1 + 8 := w64 (by omega) (by omega)
  have w5 : IntKind.wrap .i64 (n13 + 1) = n13 + 1 := w64 (by omega) (by omega)
  have w6 : IntKind.wrap .i64 (n17 + 1) = n17 + 1 := w64 (by omega) (by omega)
  have w7 : IntKind.wrap .i64 (n1 - n3 + 8) = n1 - n3 + 8 := w64 (by omega) (by omega)
  unfold fn_L3_13_r11p0k3
  have ga : gd2 n3 n4 0 = n3 := rfl
  have gb' : gd2 n8 n9 0 = n8 := rfl
  simp only [w1, w2, w3, w4, w5, w6, w7, hp, ga, gb', imax_max]
  clear w1 w2 w3 w4 w5 w6 w7 hk hp gA gB ga gb'
  repeat' (refine good_node (fun _ => ?_) (fun _ => ?_))
  all_goals first
    | exact good_leaf ⟨⟨_, _, _, _, _, _, _, _, _, _, _, _, _, _, _, _, _, _, _, rfl, by first | exact .inl rfl | exact .inr rfl, by first | exact .inl rfl | exact .inr rfl, (by (try simp only [DS] at *); constructor <;> first | assumption | omega), by omega⟩, rfl⟩
    | (exfalso; (try simp only [DS] at *); omega)
theorem s_r11p0k4 (l : LSt) (n1 n2 n3 n4 n5 n6 n7 n8 n9 n10 n11 n12 n13 n14 n15 n16 n17 : Int) (h : C26 n1 n2 n3 n4 n5 n6 n7 n8 n9 n10 n11 n12 n13 n14 n15 n16 n17) (hi : n2 < (l.length : Int)) (hl : (l.length : Int) ≤ 400) (hk : sp1 l n2 = 4) (hp : sp2 l n2 = 0) : Good (Nx l n2) (st_L3_13 (st26 l n1 n2 n3 n4 n5 n6 n7 n8 n9 n10 n11 1 n12 n13 n14 n15 1 n16 n17)).sel := by
  obtain ⟨c0, c1, c2, c3, c4, c5, c6, c7, c8, c9, c10, c11, c12, c13, c14, c15, c16, c17, c18, c19, c20, c21, c22, c23, c24, c25, c26, c27, c28, c29, c30, c31, c32, c33, c34, c35, c36⟩ := h
  have gA : gd2 n3 n4 (sp2 l n2) = n3 := by rw [hp]; rfl
  have gB : gd2 n8 n9 (sp2 l n2) = n8 := by rw [hp]; rfl
  refine (fn_L3_13_r11p0k4_im l n1 n2 n3 n4 n5 n6 n7 n8 n9 n10 n11 n12 n13 n14 n15 n16 n17 c0 hi c1 c2 c3 c4 c5 c6 c7 c8 c9 c10 c11 c12 c13 c14 c15 c16 c17 c18 c19 c20 c21 c22 c23 c24 c25 c26 c27 c28 c29 c30 c31 c32 c33 c34 c35 c36 hk hp gA gB).good ?_
  have w1 : IntKind.wrap .i64 (n2 + 1) = n2 + 1 := w64 (by omega) (by omega)
  have w2 : IntKind.wrap .i64 (n1 + 1) = n1 + 1 := w64 (by omega) (by omega)
  have w3 : IntKind.wrap .i64 (n5 + 1) = n5 + 1 := w64 (by omega) (by omega)
  have w4 : IntKind.wrap .i64 (n1 + 8) = n1 + 8 := w64 (by omega) (by omega)
  have w5 : IntKind.wrap .i64 (n13 + 1) = n13 + 1 := w64 (by omega) (by omega)
  have w6 : IntKind.wrap .i64 (n17 + 1) = n17 + 1 := w64 (by omega) (by omega)
  have w7 : IntKind.wrap .i64 (n1 - n3 + 8) = n1 - n3 + 8 := w64 (by omega) (by omega)
  unfold fn_L3_13_r11p0k4
  have ga : gd2 n3 n4 0 = n3 := rfl
  have gb' : gd2 n8 n9 0 = n8 := rfl
  simp only [w1, w2, w3, w4, w5, w6, w7, hp, ga, gb', imax_max]
  clear w1 w2 w3 w4 w5 w6 w7 hk hp gA gB ga gb'
  repeat' (refine good_node (fun _ => ?_) (fun _ => ?_))
  all_goals first
    | exact good_leaf ⟨⟨_, _, _, _, _, _, _, _, _, _, _, _, _, _, _, _, _, _, _, rfl, by first | exact .inl rfl | exact .inr rfl, by first | exact .inl rfl | exact .inr rfl, (by (try simp only [DS] at *); constructor <;> first | assumption | omega), by omega⟩, rfl⟩
    | (exfalso; (try simp only [DS] at *); omega)
theorem s_r11p0k5 (l : LSt) (n1 n2 n3 n4 n5 n6 n7 n8 n9 n10 n11 n12 n13 n14 n15 n16 n17 : Int) (h : C26 n1 n2 n3 n4 n5 n6 n7 n8 n9 n10 n11 n12 n13 n14 n15 n16 n17) (hi : n2 < (l.length : Int)) (hl : (l.length : Int) ≤ 400) (hk : sp1 l n2 = 5) (hp : sp2 l n2 = 0) : Good (Nx l n2) (st_L3_13 (st26 l n1 n2 n3 n4 n5 n6 n7 n8 n9 n10 n11 1 n12 n13 n14 n15 1 n16 n17)).sel := by
  obtain ⟨c0, c1, c2, c3, c4, c5, c6, c7, c8, c9, c10, c11, c12, c13, c14, c15, c16, c17, c18, c19, c20, c21, c22, c23, c24, c25, c26, c27, c28, c29, c30, c31, c32, c33, c34, c35, c36⟩ := h
  have gA : gd2 n3 n4 (sp2 l n2) = n3 := by rw [hp]; rfl
  have gB : gd2 n8 n9 (sp2 l n2) = n8 := by rw [hp]; rfl
  refine (fn_L3_13_r11p0k5_im l n1 n2 n3 n4 n5 n6 n7 n8 n9 n10 n11 n12 n13 n14 n15 n16 n17 c0 hi c1 c2 c3 c4 c5 c6 c7 c8 c9 c10 c11 c12 c13 c14 c15 c16 c17 c18 c19 c20 c21 c22 c23 c24 c25 c26 c27 c28 c29 c30 c31 c32 c33 c34 c35 c36 hk hp gA gB).good ?_
  have w1 : IntKind.wrap .i64 (n2 + 1) = n2 + 1 := w64 (by omega) (by omega)
  have w2 : IntKind.wrap .i64 (n1 + 1) = n1 + 1 := w64 (by omega) (by omega)
  have w3 : IntKind.wrap .i64 (n5 + 1) = n5 + 1 := w64 (by omega) (by omega)
  have w4 : IntKind.wrap .i64 (n1 + 8) = n1 + 8 := w64 (by omega) (by omega)
  have w5 : IntKind.wrap .i64 (n13 + 1) = n13 + 1 := w64 (by omega) (by omega)
  have w6 : IntKind.wrap .i64 (n17 + 1) = n17 + 1 := w64 (by omega) (by omega)
  have w7 : IntKind.wrap .i64 (n1 - n3 + 8) = n1 - n3 + 8 := w64 (by omega) (by omega)
  unfold fn_L3_13_r11p0k5
  have ga : gd2 n3 n4 0 = n3 := rfl
  have gb' : gd2 n8 n9 0 = n8 := rfl
  simp only [w1, w2, w3, w4, w5, w6, w7, hp, ga, gb', imax_max]
  clear w1 w2 w3 w4 w5 w6 w7 hk hp gA gB ga gb'
  repeat' (refine good_node (fun _ => ?_) (fun _ => ?_))
  all_goals first
    | exact good_leaf ⟨⟨_, _, _, _, _, _, _, _, _, _, _, _, _, _, _, _, _, _, _, rfl, by first | exact .inl rfl | exact .inr rfl, by first | exact .inl rfl | exact .inr rfl, (by (try simp only [DS] at *); constructor <;> first | assumption | omega), by omega⟩, rfl⟩
    | (exfalso; (try simp only [DS] at *); omega)
theorem s_r11p1k0 (l : LSt) (n1 n2 n3 n4 n5 n6 n7 n8 n9 n10 n11 n12 n13 n14 n15 n16 n17 : Int) (h : C26 n1 n2 n3 n4 n5 n6 n7 n8 n9 n10 n11 n12 n13 n14 n15 n16 n17) (hi : n2 < (l.length : Int)) (hl : (l.length : Int) ≤ 400) (hk : sp1 l n2 = 0) (hp : sp2 l n2 = 1) : Good (Nx l n2) (st_L3_13 (st26 l n1 n2 n3 n4 n5 n6 n7 n8 n9 n10 n11 1 n12 n13 n14 n15 1 n16 n17)).sel := by
  obtain ⟨c0, c1, c2, c3, c4, c5, c6, c7, c8, c9, c10, c11, c12, c13, c14, c15, c16, c17, c18, c19, c20, c21, c22, c23, c24, c25, c26, c27, c28, c29, c30, c31, c32, c33, c34, c35, c36⟩ := h
  have gA : gd2 n3 n4 (sp2 l n2) = n4 := by rw [hp]; rfl
  have gB : gd2 n8 n9 (sp2 l n2) = n9 := by rw [hp]; rfl
  refine (fn_L3_13_r11p1k0_im l n1 n2 n3 n4 n5 n6 n7 n8 n9 n10 n11 n12 n13 n14 n15 n16 n17 c0 hi c1 c2 c3 c4 c5 c6 c7 c8 c9 c10 c11 c12 c13 c14 c15 c16 c17 c18 c19 c20 c21 c22 c23 c24 c25 c26 c27 c28 c29 c30 c31 c32 c33 c34 c35 c36 hk hp gA gB).good ?_
  have w1 : IntKind.wrap .i64 (n2 + 1) = n2 + 1 := w64 (by omega) (by omega)
  have w2 : IntKind.wrap .i64 (n1 + 1) = n1 + 1 := w64 (by omega) (by omega)
  have w3 : IntKind.wrap .i64 (n5 + 1) = n5 + 1 := w64 (by omega) (by omega)
  have w4 : IntKind.wrap .i64 (n1 + 8) = n1 + 8 := w64 (by omega) (by omega)
  have w5 : IntKind.wrap .i64 (n13 + 1) = n13 + 1 := w64 (by omega) (by omega)
  have w6 : IntKind.wrap .i64 (n17 + 1) = n17 + 1 := w64 (by omega) (by omega)
  have w7 : IntKind.wrap .i64 (n1 - n4 + 8) = n1 - n4 + 8 := w64 (by omega) (by omega)
  unfold fn_L3_13_r11p1k0
  have ga : gd2 n3 n4 1 = n4 := rfl
  have gb' : gd2 n8 n9 1 = n9 := rfl
  simp only [w1, w2, w3, w4, w5, w6, w7, hp, ga, gb', imax_max]
  clear w1 w2 w3 w4 w5 w6 w7 hk hp gA gB ga gb'
  repeat' (refine good_node (fun _ => ?_) (fun _ => ?_))
  all_goals first
    | exact good_leaf ⟨⟨_, _, _, _, _, _, _, _, _, _, _, _, _, _, _, _, _, _, _, rfl, by first | exact .inl rfl | exact .inr rfl, by first | exact .inl rfl | exact .inr rfl, (by (try simp only [DS] at *); constructor <;> first | assumption | omega), by omega⟩, rfl⟩
    | (exfalso; (try simp only [DS] at *); omega)
theorem s_r11p1k1 (l : LSt) (n1 n2 n3 n4 n5 n6 n7 n8 n9 n10 n11 n12 n13 n14 n15 n16 n17 : Int) (h : C26 n1 n2 n3 n4 n5 n6 n7 n8 n9 n10 n11 n12 n13 n14 n15 n16 n17) (hi : n2 < (l.length : Int)) (hl : (l.length : Int) ≤ 400) (hk : sp1 l n2 = 1) (hp : sp2 l n2 = 1) : Good (Nx l n2) (st_L3_13 (st26 l n1 n2 n3 n4 n5 n6 n7 n8 n9 n10 n11 1 n12 n13 n14 n15 1 n16 n17)).sel := by
  obtain ⟨c0, c1, c2, c3, c4, c5, c6, c7, c8, c9, c10, c11, c12, c13, c14, c15, c16, c17, c18, c19, c20, c21, c22, c23, c24, c25, c26, c27, c28, c29, c30, c31, c32, c33, c34, c35, c36⟩ := h
  have gA : gd2 n3 n4 (sp2 l n2) = n4 := by rw [hp]; rfl
  have gB : gd2 n8 n9 (sp2 l n2) = n9 := by rw [hp]; rfl
  refine (fn_L3_13_r11p1k1_im l n1 n2 n3 n4 n5 n6 n7 n8 n9 n10 n11 n12 n13 n14 n15 n16 n17 c0 hi c1 c2 c3 c4 c5 c6 c7 c8 c9 c10 c11 c12 c13 c14 c15 c16 c17 c18 c19 c20 c21 c22 c23 c24 c25 c26 c27 c28 c29 c30 c31 c32 c33 c34 c35 c36 hk hp gA gB).good ?_
  have w1 : IntKind.wrap .i64 (n2 + 1) = n2 + 1 := w64 (by omega) (by omega)
  have w2 : IntKind.wrap .i64 (n1 + 1) = n1 + 1 := w64 (by omega) (by omega)
  have w3 : IntKind.wrap .i64 (n5 + 1) = n5 + 1 := w64 (by omega) (by omega)
  have w4 : IntKind.wrap .i64 (n1 + 8) = n1 + 8 := w64 (by omega) (by omega)
  have w5 : IntKind.wrap .i64 (n13 + 1) = n13 + 1 := w64 (by omega) (by omega)
  have w6 : IntKind.wrap .i64 (n17 + 1) = n17 + 1 := w64 (by omega) (by omega)
  have w7 : IntKind.wrap .i64 (n1 - n4 + 8) = n1 - n4 + 8 := w64 (by omega) (by omega)
  unfold fn_L3_13_r11p1k1
  have ga : gd2 n3 n4 1 = n4 := rfl
  have gb' : gd2 n8 n9 1 = n9 := rfl
  simp only [w1, w2, w3, w4, w5, w6, w7, hp, ga, gb', imax_max]
  clear w1 w2 w3 w4 w5 w6 w7 hk hp gA gB ga gb'
  repeat' (refine good_node (fun _ => ?_) (fun _ => ?_))
  all_goals first
    | exact good_leaf ⟨⟨_, _, _, _, _, _, _, _, _, _, _, _, _, _, _, _, _, _, _, rfl, by first | exact .inl rfl | exact .inr rfl, by first | exact .inl rfl | exact .inr rfl, (by (try simp only [DS] at *); constructor <;> first | assumption | omega), by omega⟩, rfl⟩
    | (exfalso; (try simp only [DS] at *); omega)
theorem s_r11p1k2 (l : LSt) (n1 n2 n3 n4 n5 n6 n7 n8 n9 n10 n11 n12 n13 n14 n15 n16 n17 : Int) (h : C26 n1 n2 n3 n4 n5 n6 n7 n8 n9 n10 n11 n12 n13 n14 n15 n16 n17) (hi : n2 < (l.length : Int)) (hl : (l.length : Int) ≤ 400) (hk : sp1 l n2 = 2) (hp : sp2 l n2 = 1) : Good (Nx l n2) (st_L3_13 (st26 l n1 n2 n3 n4 n5 n6 n7 n8 n9 n10 n11 1 n12 n13 n14 n15 1 n16 n17)).sel := by
  obtain ⟨c0, c1, c2, c3, c4, c5, c6, c7, c8, c9, c10, c11, c12, c13, c14, c15, c16, c17, c18, c19, c20, c21, c22, c23, c24, c25, c26, c27, c28, c29, c30, c31, c32, c33, c34, c35, c36⟩ := h
  have gA : gd2 n3 n4 (sp2 l n2) = n4 := by rw [hp]; rfl
  have gB : gd2 n8 n9 (sp2 l n2) = n9 := by rw [hp]; rfl
  refine (fn_L3_13_r11p1k2_im l n1 n2 n3 n4 n5 n6 n7 n8 n9 n10 n11 n12 n13 n14 n15 n16 n17 c0 hi c1 c2 c3 c4 c5 c6 c7 c8 c9 c10 c11 c12 c13 c14 c15 c16 c17 c18 c19 c20 c21 c22 c23 c24 c25 c26 c27 c28 c29 c30 c31 c32 c33 c34 c35 c36 hk hp gA gB).good ?_
  have w1 : IntKind.wrap .i64 (n2 + 1) = n2 + 1 := w64 (by omega) (by omega)
  have w2 : IntKind.wrap .i64 (n1 + 1) = n1 + 1 := w64 (by omega) (by omega)
  have w3 : IntKind.wrap .i64 (n5 + 1) = n5 + 1 := w64 (by omega) (by omega)
  have w4 : IntKind.wrap .i64 (n1 + 8) = n1 + 8 := w64 (by omega) (by omega)
  have w5 : IntKind.wrap .i64 (n13 + 1) = n13 + 1 := w64 (by omega) (by omega)
  have w6 : IntKind.wrap .i64 (n17 + 1) = n17 + 1 := w64 (by omega) (by omega)
  have w7 : IntKind.wrap .i64 (n1 - n4 + 8) = n1 - n4 + 8 := w64 (by omega) (by omega)
  unfold fn_L3_13_r11p1k2
  have ga : gd2 n3 n4 1 = n4 := rfl
  have gb' : gd2 n8 n9 1 = n9 := rfl
  simp only [w1, w2, w3, w4, w5, w6, w7, hp, ga, gb', imax_max]
  clear w1 w2 w3 w4 w5 w6 w7 hk hp gA gB ga gb'
  repeat' (refine good_node (fun _ => ?_) (fun _ => ?_))
  all_goals first
    | exact good_leaf ⟨⟨_, _, _, _, _, _, _, _, _, _, _, _, _, _, _, _, _, _, _, rfl, by first | exact .inl rfl | exact .inr rfl, by first | exact .inl rfl | exact .inr rfl, (by (try simp only [DS] at *); constructor <;> first | assumption | omega), by omega⟩, rfl⟩
    | (exfalso; (try simp only [DS] at *); omega)
theorem s_r11p1k3 (l : LSt) (n1 n2 n3 n4 n5 n6 n7 n8 n9 n10 n11 n12 n13 n14 n15 n16 n17 : Int) (h : C26 n1 n2 n3 n4 n5 n6 n7 n8 n9 n10 n11 n12 n13 n14 n15 n16 n17) (hi : n2 < (l.length : Int)) (hl : (l.length : Int) ≤ 400) (hk : sp1 l n2 = 3) (hp : sp2 l n2 = 1) : Good (Nx l n2) (st_L3_13 (st26 l n1 n2 n3 n4 n5 n6 n7 n8 n9 n10 n11 1 n12 n13 n14 n15 1 n16 n17)).sel := by
  obtain ⟨c0, c1, c2, c3, c4, c5, c6, c7, c8, c9, c10, c11, c12, c13, c14, c15, c16, c17, c18, c19, c20, c21, c22, c23, c24, c25, c26, c27, c28, c29, c30, c31, c32, c33, c34, c35, c36⟩ := h
  have gA : gd2 n3 n4 (sp2 l n2) = n4 := by rw [hp]; rfl
  have gB : gd2 n8 n9 (sp2 l n2) = n9 := by rw [hp]; rfl
  refine (fn_L3_13_r11p1k3_im l n1 n2 n3 n4 n5 n6 n7 n8 n9 n10 n11 n12 n13 n14 n15 n16 n17 c0 hi c1 c2 c3 c4 c5 c6 c7 c8 c9 c10 c11 c12 c13 c14 c15 c16 c17 c18 c19 c20 c21 c22 c23 c24 c25 c26 c27 c28 c29 c30 c31 c32 c33 c34 c35 c36 hk hp gA gB).good ?_
  have w1 : IntKind.wrap .i64 (n2 + 1) = n2 + 1 := w64 (by omega) (by omega)
  have w2 : IntKind.wrap .i64 (n1 + 1) = n1 + 1 := w64 (by omega) (by omega)
  have w3 : IntKind.wrap .i64 (n5 + 1) = n5 + 1 := w64 (by omega) (by omega)
  have w4 : IntKind.wrap .i64 (n1 + 8) = n1 + 8 := w64 (by omega) (by omega)
  have w5 : IntKind.wrap .i64 (n13 + 1) = n13 + 1 := w64 (by omega) (by omega)
  have w6 : IntKind.wrap .i64 (n17 + 1) = n17 + 1 := w64 (by omega) (by omega)
  have w7 : IntKind.wrap .i64 (n1 - n4 + 8) = n1 - n4 + 8 := w64 (by omega) (by omega)
  unfold fn_L3_13_r11p1k3
  have ga : gd2 n3 n4 1 = n4 := rfl
  have gb' : gd2 n8 n9 1 = n9 := rfl
  simp only [w1, w2, w3, w4, w5, w6, w7, hp, ga, gb', imax_max]
  clear w1 w2 w3 w4 w5 w6 w7 hk hp gA gB ga gb'
  repeat' (refine good_node (fun _ => ?_) (fun _ => ?_))
  all_goals first
    | exact good_leaf ⟨⟨_, _, _, _, _, _, _, _, _, _, _, _, _, _, _, _, _, _, _, rfl, by first | exact .inl rfl | exact .inr rfl, by first | exact .inl rfl | exact .inr rfl, (by (try simp only [DS] at *); constructor <;> first | assumption | omega), by omega⟩, rfl⟩
    | (exfalso; (try simp only [DS] at *); omega)
theorem s_r11p1k4 (l : LSt) (n1 n2 n3 n4 n5 n6 n7 n8 n9 n10 n11 n12 n13 n14 n15 n16 n17 : Int) (h : C26 n1 n2 n3 n4 n5 n6 n7 n8 n9 n10 n11 n12 n13 n14 n15 n16 n17) (hi : n2 < (l.length : Int)) (hl : (l.length : Int) ≤ 400) (hk : sp1 l n2 = 4) (hp : sp2 l n2 = 1) : Good (Nx l n2) (st_L3_13 (st26 l n1 n2 n3 n4 n5 n6 n7 n8 n9 n10 n11 1 n12 n13 n14 n15 1 n16 n17)).sel := by
  obtain ⟨c0, c1, c2, c3, c4, c5, c6, c7, c8, c9, c10, c11, c12, c13, c14, c15, c16, c17, c18, c19, c20, c21, c22, c23, c24, c25, c26, c27, c28, c29, c30, c31, c32, c33, c34, c35, c36⟩ := h
  have gA : gd2 n3 n4 (sp2 l n2) = n4 := by rw [hp]; rfl
  have gB : gd2 n8 n9 (sp2 l n2) = n9 := by rw [hp]; rfl
  refine (fn_L3_13_r11p1k4_im l n1 n2 n3 n4 n5 n6 n7 n8 n9 n10 n11 n12 n13 n14 n15 n16 n17 c0 hi c1 c2 c3 c4 c5 c6 c7 c8 c9 c10 c11 c12 c13 c14 c15 c16 c17 c18 c19 c20 c21 c22 c23 c24 c25 c26 c27 c28 c29 c30 c31 c32 c33 c34 c35 c36 hk hp gA gB).good ?_
  have w1 : IntKind.wrap .i64 (n2 + 1) = n2 + 1 := w64 (by omega) (by omega)
  have w2 : IntKind.wrap .i64 (n1 + 1) = n1 + 1 := w64 (by omega) (by omega)
  have w3 : IntKind.wrap .i64 (n5 + 1) = n5 + 1 := w64 (by omega) (by omega)
  have w4 : IntKind.wrap .i64 (n1 + 8) = n1 + 8 := w64 (by omega) (by omega)
  have w5 : IntKind.wrap .i64 (n13 + 1) = n13 + 1 := w64 (by omega) (by omega)
  have w6 : IntKind.wrap .i64 (n17 + 1) = n17 + 1 := w64 (by omega) (by omega)
  have w7 : IntKind.wrap .i64 (n1 - n4 + 8) = n1 - n4 + 8 := w64 (by omega) (by omega)
  unfold fn_L3_13_r11p1k4
  have ga : gd2 n3 n4 1 = n4 := rfl
  have gb' : gd2 n8 n9 1 = n9 := rfl
  simp only [w1, w2, w3, w4, w5, w6, w7, hp, ga, gb', imax_max]
  clear w1 w2 w3 w4 w5 w6 w7 hk hp gA gB ga gb'
  repeat' (refine good_node (fun _ => ?_) (fun _ => ?_))
  all_goals first
    | exact good_leaf ⟨⟨_, _, _, _, _, _, _, _, _, _, _, _, _, _, _, _, _, _, _, rfl, by first | exact .inl rfl | exact .inr rfl, by first | exact .inl rfl | exact .inr rfl, (by (try simp only [DS] at *); constructor <;> first | assumption | omega), by omega⟩, rfl⟩
    | (exfalso; (try simp only [DS] at *); omega)
theorem s_r11p1k5 (l : LSt) (n1 n2 n3 n4 n5 n6 n7 n8 n9 n10 n11 n12 n13 n14 n15 n16 n17 : Int) (h : C26 n1 n2 n3 n4 n5 n6 n7 n8 n9 n10 n11 n12 n13 n14 n15 n16 n17) (hi : n2 < (l.length : Int)) (hl : (l.length : Int) ≤ 400) (hk : sp1 l n2 = 5) (hp : sp2 l n2 = 1) : Good (Nx l n2) (st_L3_13 (st26 l n1 n2 n3 n4 n5 n6 n7 n8 n9 n10 n11 1 n12 n13 n14 n15 1 n16 n17)).sel := by
  obtain ⟨c0, c1, c2, c3, c4, c5, c6, c7, c8, c9, c10, c11, c12, c13, c14, c15, c16, c17, c18, c19, c20, c21, c22, c23, c24, c25, c26, c27, c28, c29, c30, c31, c32, c33, c34, c35, c36⟩ := h
  have gA : gd2 n3 n4 (sp2 l n2) = n4 := by rw [hp]; rfl
  have gB : gd2 n8 n9 (sp2 l n2) = n9 := by rw [hp]; rfl
  refine (fn_L3_13_r11p1k5_im l n1 n2 n3 n4 n5 n6 n7 n8 n9 n10 n11 n12 n13 n14 n15 n16 n17 c0 hi c1 c2 c3 c4 c5 c6 c7 c8 c9 c10 c11 c12 c13 c14 c15 c16 c17 c18 c19 c20 c21 c22 c23 c24 c25 c26 c27 c28 c29 c30 c31 c32 c33 c34 c35 c36 hk hp gA gB).good ?_
  have w1 : IntKind.wrap .i64 (n2 + 1) = n2 + 1 := w64 (by omega) (by omega)
  have w2 : IntKind.wrap .i64 (n1 + 1) = n1 + 1 := w64 (by omega) (by omega)
  have w3 : IntKind.wrap .i64 (n5 + 1) = n5 + 1 := w64 (by omega) (by omega)
  have w4 : IntKind.wrap .i64 (n1 + 8) = n1 + 8 := w64 (by omega) (by omega)
  have w5 : IntKind.wrap .i64 (n13 + 1) = n13 + 1 := w64 (by omega) (by omega)
  have w6 : IntKind.wrap .i64 (n17 + 1) = n17 + 1 := w64 (by omega) (by omega)
  have w7 : IntKind.wrap .i64 (n1 - n4 + 8) = n1 - n4 + 8 := w64 (by omega) (by omega)
  unfold fn_L3_13_r11p1k5
  have ga : gd2 n3 n4 1 = n4 := rfl
  have gb' : gd2 n8 n9 1 = n9 := rfl
  simp only [w1, w2, w3, w4, w5, w6, w7, hp, ga, gb', imax_max]
  clear w1 w2 w3 w4 w5 w6 w7 hk hp gA gB ga gb'
  repeat' (refine good_node (fun _ => ?_) (fun _ => ?_))
  all_goals first
    | exact good_leaf ⟨⟨_, _, _, _, _, _, _, _, _, _, _, _, _, _, _, _, _, _, _, rfl, by first | exact .inl rfl | exact .inr rfl, by first | exact .inl rfl | exact .inr rfl, (by (try simp only [DS] at *); constructor <;> first | assumption | omega), by omega⟩, rfl⟩
    | (exfalso; (try simp only [DS] at *); omega)
theorem tm26 {x : Int} (h : 0 ≤ x) (k : Int) (hk : 0 < k) (k2 : k ≤ 100) : ∃ r, IntKind.wrap .i64 (Int.tmod x k) = r ∧ 0 ≤ r ∧ r < k := by
  rw [Int.tmod_eq_emod_of_nonneg h]
  have a := Int.emod_nonneg x (b := k) (by omega)
  have b := Int.emod_lt_of_pos x hk
  exact ⟨x % k, w64 (by omega) (by omega), a, b⟩
theorem step26 (l : LSt) (hw : ∀ c ∈ l, @LE.le Int _ 0 c.1 ∧ @LE.le Int _ 0 c.2) (n1 n2 n3 n4 n5 n6 n7 n8 n9 n10 n11 R0 n12 n13 n14 n15 R1 n16 n17 : Int) (hR0 : R0 = 0 ∨ R0 = 1) (hR1 : R1 = 0 ∨ R1 = 1) (h : C26 n1 n2 n3 n4 n5 n6 n7 n8 n9 n10 n11 n12 n13 n14 n15 n16 n17) (hi : n2 < (l.length : Int)) (hl : (l.length : Int) ≤ 400) : Good (Nx l n2) (st_L3_13 (st26 l n1 n2 n3 n4 n5 n6 n7 n8 n9 n10 n11 R0 n12 n13 n14 n15 R1 n16 n17)).sel := by
  have h0 : 0 ≤ n2 := h.c0
  have hm : (l.getD n2.toNat (Ty.dflt TSt)) ∈ l := by
    rw [List.getD_eq_getElem?_getD, List.getElem?_eq_getElem (show n2.toNat < l.length by omega), Option.getD_some]
    exact List.getElem_mem _
  have hk : sp1 l n2 = 0 ∨ sp1 l n2 = 1 ∨ sp1 l n2 = 2 ∨ sp1 l n2 = 3 ∨ sp1 l n2 = 4 ∨ sp1 l n2 = 5 := by
    have e : sp1 l n2 = (Prod.fst (l.getD n2.toNat (Ty.dflt TSt)) : Int) % 6 := Int.tmod_eq_emod_of_nonneg (hw _ hm).1
    rw [e]
    have a := Int.emod_nonneg (Prod.fst (l.getD n2.toNat (Ty.dflt TSt)) : Int) (b := 6) (by omega)
    have b := Int.emod_lt_of_pos (Prod.fst (l.getD n2.toNat (Ty.dflt TSt)) : Int) (b := 6) (by omega)
    generalize (Prod.fst (l.getD n2.toNat (Ty.dflt TSt)) : Int) % 6 = z at a b
    omega
  have hp : sp2 l n2 = 0 ∨ sp2 l n2 = 1 := by
    obtain ⟨r, e, a, b⟩ := tm26 (hw _ hm).2 2 (by omega) (by omega)
    have : sp2 l n2 = r := e
    rw [this]; omega
  rcases hR0 with rfl | rfl
  · rcases hR1 with rfl | rfl
    · rcases hp with hp | hp
      · rcases hk with hk | hk | hk | hk | hk | hk
        · exact s_r00p0k0 l n1 n2 n3 n4 n5 n6 n7 n8 n9 n10 n11 n12 n13 n14 n15 n16 n17 h hi hl hk hp
        · exact s_r00p0k1 l n1 n2 n3 n4 n5 n6 n7 n8 n9 n10 n11 n12 n13 n14 n15 n16 n17 h hi hl hk hp
        · exact s_r00p0k2 l n1 n2 n3 n4 n5 n6 n7 n8 n9 n10 n11 n12 n13 n14 n15 n16 n17 h hi hl hk hp
        · exact s_r00p0k3 l n1 n2 n3 n4 n5 n6 n7 n8 n9 n10 n11 n12 n13 n14 n15 n16 n17 h hi hl hk hp
        · exact s_r00p0k4 l n1 n2 n3 n4 n5 n6 n7 n8 n9 n10 n11 n12 n13 n14 n15 n16 n17 h hi hl hk hp
        · exact s_r00p0k5 l n1 n2 n3 n4 n5 n6 n7 n8 n9 n10 n11 n12 n13 n14 n15 n16 n17 h hi hl hk hp
      · rcases hk with hk | hk | hk | hk | hk | hk
        · exact s_r00p1k0 l n1 n2 n3 n4 n5 n6 n7 n8 n9 n10 n11 n12 n13 n14 n15 n16 n17 h hi hl hk hp
        · exact s_r00p1k1 l n1 n2 n3 n4 n5 n6 n7 n8 n9 n10 n11 n12 n13 n14 n15 n16 n17 h hi hl hk hp
        · exact s_r00p1k2 l n1 n2 n3 n4 n5 n6 n7 n8 n9 n10 n11 n12 n13 n14 n15 n16 n17 h hi hl hk hp
        · exact s_r00p1k3 l n1 n2 n3 n4 n5 n6 n7 n8 n9 n10 n11 n12 n13 n14 n15 n16 n17 h hi hl hk hp
        · exact s_r00p1k4 l n1 n2 n3 n4 n5 n6 n7 n8 n9 n10 n11 n12 n13 n14 n15 n16 n17 h hi hl hk hp
        · exact s_r00p1k5 l n1 n2 n3 n4 n5 n6 n7 n8 n9 n10 n11 n12 n13 n14 n15 n16 n17 h hi hl hk hp
    · rcases hp with hp | hp
      · rcases hk with hk | hk | hk | hk | hk | hk
        · exact s_r01p0k0 l n1 n2 n3 n4 n5 n6 n7 n8 n9 n10 n11 n12 n13 n14 n15 n16 n17 h hi hl hk hp
        · exact s_r01p0k1 l n1 n2 n3 n4 n5 n6 n7 n8 n9 n10 n11 n12 n13 n14 n15 n16 n17 h hi hl hk hp
        · exact s_r01p0k2 l n1 n2 n3 n4 n5 n6 n7 n8 n9 n10 n11 n12 n13 n14 n15 n16 n17 h hi hl hk hp
        · exact s_r01p0k3 l n1 n2 n3 n4 n5 n6 n7 n8 n9 n10 n11 n12 n13 n14 n15 n16 n17 h hi hl hk hp
        · exact s_r01p0k4 l n1 n2 n3 n4 n5 n6 n7 n8 n9 n10 n11 n12 n13 n14 n15 n16 n17 h hi hl hk hp
        · exact s_r01p0k5 l n1 n2 n3 n4 n5 n6 n7 n8 n9 n10 n11 n12 n13 n14 n15 n16 n17 h hi hl hk hp
      · rcases hk with hk | hk | hk | hk | hk | hk
        · exact s_r01p1k0 l n1 n2 n3 n4 n5 n6 n7 n8 n9 n10 n11 n12 n13 n14 n15 n16 n17 h hi hl hk hp
        · exact s_r01p1k1 l n1 n2 n3 n4 n5 n6 n7 n8 n9 n10 n11 n12 n13 n14 n15 n16 n17 h hi hl hk hp
        · exact s_r01p1k2 l n1 n2 n3 n4 n5 n6 n7 n8 n9 n10 n11 n12 n13 n14 n15 n16 n17 h hi hl hk hp
        · exact s_r01p1k3 l n1 n2 n3 n4 n5 n6 n7 n8 n9 n10 n11 n12 n13 n14 n15 n16 n17 h hi hl hk hp
        · exact s_r01p1k4 l n1 n2 n3 n4 n5 n6 n7 n8 n9 n10 n11 n12 n13 n14 n15 n16 n17 h hi hl hk hp
        · exact s_r01p1k5 l n1 n2 n3 n4 n5 n6 n7 n8 n9 n10 n11 n12 n13 n14 n15 n16 n17 h hi hl hk hp
  · rcases hR1 with rfl | rfl
    · rcases hp with hp | hp
      · rcases hk with hk | hk | hk | hk | hk | hk
        · exact s_r10p0k0 l n1 n2 n3 n4 n5 n6 n7 n8 n9 n10 n11 n12 n13 n14 n15 n16 n17 h hi hl hk hp
        · exact s_r10p0k1 l n1 n2 n3 n4 n5 n6 n7 n8 n9 n10 n11 n12 n13 n14 n15 n16 n17 h hi hl hk hp
        · exact s_r10p0k2 l n1 n2 n3 n4 n5 n6 n7 n8 n9 n10 n11 n12 n13 n14 n15 n16 n17 h hi hl hk hp
        · exact s_r10p0k3 l n1 n2 n3 n4 n5 n6 n7 n8 n9 n10 n11 n12 n13 n14 n15 n16 n17 h hi hl hk hp
        · exact s_r10p0k4 l n1 n2 n3 n4 n5 n6 n7 n8 n9 n10 n11 n12 n13 n14 n15 n16 n17 h hi hl hk hp
        · exact s_r10p0k5 l n1 n2 n3 n4 n5 n6 n7 n8 n9 n10 n11 n12 n13 n14 n15 n16 n17 h hi hl hk hp
      · rcases hk with hk | hk | hk | hk | hk | hk
        · exact s_r10p1k0 l n1 n2 n3 n4 n5 n6 n7 n8 n9 n10 n11 n12 n13 n14 n15 n16 n17 h hi hl hk hp
        · exact s_r10p1k1 l n1 n2 n3 n4 n5 n6 n7 n8 n9 n10 n11 n12 n13 n14 n15 n16 n17 h hi hl hk hp
        · exact s_r10p1k2 l n1 n2 n3 n4 n5 n6 n7 n8 n9 n10 n11 n12 n13 n14 n15 n16 n17 h hi hl hk hp
        · exact s_r10p1k3 l n1 n2 n3 n4 n5 n6 n7 n8 n9 n10 n11 n12 n13 n14 n15 n16 n17 h hi hl hk hp
        · exact s_r10p1k4 l n1 n2 n3 n4 n5 n6 n7 n8 n9 n10 n11 n12 n13 n14 n15 n16 n17 h hi hl hk hp
        · exact s_r10p1k5 l n1 n2 n3 n4 n5 n6 n7 n8 n9 n10 n11 n12 n13 n14 n15 n16 n17 h hi hl hk hp
    · rcases hp with hp | hp
      · rcases hk with hk | hk | hk | hk | hk | hk
        · exact s_r11p0k0 l n1 n2 n3 n4 n5 n6 n7 n8 n9 n10 n11 n12 n13 n14 n15 n16 n17 h hi hl hk hp
        · exact s_r11p0k1 l n1 n2 n3 n4 n5 n6 n7 n8 n9 n10 n11 n12 n13 n14 n15 n16 n17 h hi hl hk hp
        · exact s_r11p0k2 l n1 n2 n3 n4 n5 n6 n7 n8 n9 n10 n11 n12 n13 n14 n15 n16 n17 h hi hl hk hp
        · exact s_r11p0k3 l n1 n2 n3 n4 n5 n6 n7 n8 n9 n10 n11 n12 n13 n14 n15 n16 n17 h hi hl hk hp
        · exact s_r11p0k4 l n1 n2 n3 n4 n5 n6 n7 n8 n9 n10 n11 n12 n13 n14 n15 n16 n17 h hi hl hk hp
        · exact s_r11p0k5 l n1 n2 n3 n4 n5 n6 n7 n8 n9 n10 n11 n12 n13 n14 n15 n16 n17 h hi hl hk hp
      · rcases hk with hk | hk | hk | hk | hk | hk
        · exact s_r11p1k0 l n1 n2 n3 n4 n5 n6 n7 n8 n9 n10 n11 n12 n13 n14 n15 n16 n17 h hi hl hk hp
        · exact s_r11p1k1 l n1 n2 n3 n4 n5 n6 n7 n8 n9 n10 n11 n12 n13 n14 n15 n16 n17 h hi hl hk hp
        · exact s_r11p1k2 l n1 n2 n3 n4 n5 n6 n7 n8 n9 n10 n11 n12 n13 n14 n15 n16 n17 h hi hl hk hp
        · exact s_r11p1k3 l n1 n2 n3 n4 n5 n6 n7 n8 n9 n10 n11 n12 n13 n14 n15 n16 n17 h hi hl hk hp
        · exact s_r11p1k4 l n1 n2 n3 n4 n5 n6 n7 n8 n9 n10 n11 n12 n13 n14 n15 n16 n17 h hi hl hk hp
        · exact s_r11p1k5 l n1 n2 n3 n4 n5 n6 n7 n8 n9 n10 n11 n12 n13 n14 n15 n16 n17 h hi hl hk hp
theorem loop26 (l : LSt) (hw : ∀ c ∈ l, @LE.le Int _ 0 c.1 ∧ @LE.le Int _ 0 c.2) (hl : (l.length : Int) ≤ 400) (env : List Dat) (hi : Inv26 l env) : Good (fun x => x.1 = 0 ∧ x.2 = []) (op_L3_13 env) := by
  refine op_L3_13_good (p := fun x => x.1 = 0 ∧ x.2 = []) (Inv26 l) (fun e => l.length - (gn e 3).toNat) (fun env h => ?_) env hi (by show l.length - _ < FU; unfold FU; omega)
  obtain ⟨n1, n2, n3, n4, n5, n6, n7, n8, n9, n10, n11, R0, n12, n13, n14, n15, R1, n16, n17, rfl, hR0, hR1, hC, hle⟩ := h
  by_cases q : n2 < (l.length : Int)
  · obtain ⟨y, e, hy⟩ := step26 l hw n1 n2 n3 n4 n5 n6 n7 n8 n9 n10 n11 R0 n12 n13 n14 n15 R1 n16 n17 hR0 hR1 hC q hl
    refine ⟨y, e, ?_⟩
    have h0 : 0 ≤ n2 := hC.c0
    cases y with
    | go e' =>
      refine ⟨hy.1, ?_⟩
      show l.length - (gn e' 3).toNat < l.length - n2.toNat
      rw [hy.2]; omega
    | stop k d => exact hy
  · have hn : n2 = (l.length : Int) := by omega
    rcases hR0 with rfl | rfl <;> rcases hR1 with rfl | rfl
    · exact (fn_L3_13_x00_im l n1 n2 n3 n4 n5 n6 n7 n8 n9 n10 n11 n12 n13 n14 n15 n16 n17 hn).good (good_leaf ⟨rfl, rfl⟩)
    · exact (fn_L3_13_x01_im l n1 n2 n3 n4 n5 n6 n7 n8 n9 n10 n11 n12 n13 n14 n15 n16 n17 hn).good (good_leaf ⟨rfl, rfl⟩)
    · exact (fn_L3_13_x10_im l n1 n2 n3 n4 n5 n6 n7 n8 n9 n10 n11 n12 n13 n14 n15 n16 n17 hn).good (good_leaf ⟨rfl, rfl⟩)
    · exact (fn_L3_13_x11_im l n1 n2 n3 n4 n5 n6 n7 n8 n9 n10 n11 n12 n13 n14 n15 n16 n17 hn).good (good_leaf ⟨rfl, rfl⟩)
theorem W3_true (l : LSt) (a b : Int) (hw : ∀ c ∈ l, @LE.le Int _ 0 c.1 ∧ @LE.le Int _ 0 c.2) (ha : 0 ≤ a ∧ a ≤ 255) (hb : 0 ≤ b ∧ b ≤ 255) : (ev_W3 [.l TSt l, .n a, .n b]).sel = some true := by
  refine fn_W3_t_im l a b ha.1 ha.2 hb.1 hb.2 _ ?_
  unfold fn_W3_t
  by_cases h : (l.length : Int) > 400
  · exact sel_t (dt h) rfl
  · refine sel_f (df h) ?_
    obtain ⟨x, hx, x0, x1⟩ := tm26 ha.1 3 (by omega) (by omega)
    obtain ⟨y, hy, y0, y1⟩ := tm26 hb.1 3 (by omega) (by omega)
    rw [hx, hy]
    have g : Inv26 l (st26 l 10 0 x y 0 (-1) 0 0 0 0 0 0 0 0 0 0 0 0 0) := ⟨_, _, _, _, _, _, _, _, _, _, _, _, _, _, _, _, _, _, _, rfl, .inl rfl, .inl rfl, (by constructor <;> omega), by omega⟩
    obtain ⟨⟨k, d⟩, e, hk, hd⟩ := loop26 l hw (by omega) _ g
    dsimp only at hk hd
    subst hk hd
    dsimp only
    erw [e]
    exact sel_t rfl rfl
theorem u8n26 {n : Int} (h : wfD (.int .u8) n = true) : 0 ≤ n ∧ n ≤ 255 := by
  obtain ⟨h1, h2⟩ := wfi h
  have e1 : IntKind.min .u8 = 0 := rfl
  have e2 : IntKind.max .u8 = 255 := rfl
  omega
theorem t26' {a0 : Ty.den (.sl TSt)} {a1 a2 : Ty.den (.int .u8)} (h0 : wfD (.sl TSt) a0 = true) (h1 : wfD (.int .u8) a1 = true) (h2 : wfD (.int .u8) a2 = true) : (ev_W3 [.l TSt a0, .n a1, .n a2]).sel = some true :=
  W3_true a0 a1 a2 (fun c hc => by
    have w := wf_get (wfl_mem h0 hc)
    exact ⟨(u8n26 w.1).1, (u8n26 w.2).1⟩) (u8n26 h1) (u8n26 h2)
end Go.Proofs.Ytgepnailecclkaa.Vx
