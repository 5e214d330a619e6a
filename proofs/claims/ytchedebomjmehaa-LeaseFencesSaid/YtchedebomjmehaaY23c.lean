import Derived.Test.YtchedebomjmehaaY23b
import Derived.Test.YtchedebomjmehaaX23
namespace Go.Proofs.Ytchedebomjmehaa.Vx
open Go Go.RowKit
set_option linter.unusedVariables false
set_option linter.unusedSimpArgs false
set_option maxRecDepth 100000
set_option maxHeartbeats 0
abbrev LSt := List (Ty.den TSt)
def ten (a0 e0 u0 a1 e1 u1 : Int) : List (Ty.den TTen) := [(a0, e0, u0), (a1, e1, u1)]
theorem inner0 (l0 : LSt) (now i p e h u : Int) (o : Bool) (sl : LI) (t : List (Ty.den TTen)) (of : List Int) (ge gu : Int) (hc : (of.length : Int) = ge) :
    op_L13_31 [.k 0, .l TSt l0, .n now, .n i, .n p, .b o, .n e, .n h, .n u, .l TI sl, .l TTen t, .l TI (ofI of), .n ge, .n gu] = some (0, [.l TSt l0, .n now, .n i, .n p, .b o, .n e, .n h, .n u, .l TI sl, .l TTen t, .l TI (ofI of), .n ge, .n gu]) := by
  show iterS fn_L13_31 (18446744073709551615 + 1) _ = _
  exact iter_stop (selF (df (by show ¬ ((of.length : Int) < ge); omega)))
theorem inner1 (l0 : LSt) (now i p e h u : Int) (o : Bool) (sl : LI) (t : List (Ty.den TTen)) (of : List Int) (ge gu : Int) (hc : (of.length : Int) + 1 = ge) (hs : of.length ≤ 2000) :
    op_L13_31 [.k 0, .l TSt l0, .n now, .n i, .n p, .b o, .n e, .n h, .n u, .l TI sl, .l TTen t, .l TI (ofI of), .n ge, .n gu] = some (0, [.l TSt l0, .n now, .n i, .n p, .b o, .n e, .n h, .n u, .l TI sl, .l TTen t, .l TI (ofI (of ++ [p])), .n ge, .n gu]) := by
  show iterS fn_L13_31 (18446744073709551614 + 1 + 1) _ = _
  have g : (fn_L13_31 [.k 0, .l TSt l0, .n now, .n i, .n p, .b o, .n e, .n h, .n u, .l TI sl, .l TTen t, .l TI (ofI of), .n ge, .n gu]).sel = some (.go [.k 0, .l TSt l0, .n now, .n i, .n p, .b o, .n e, .n h, .n u, .l TI sl, .l TTen t, .l TI (ofI (of ++ [p])), .n ge, .n gu]) :=
    (selT (dt (by show (of.length : Int) < ge; omega))).trans ((selT (dt (by show (of.length + 1) * 8 ≤ 140737488355328; omega))).trans rfl)
  rw [iter_go g]
  have hl : ((of ++ [p]).length : Int) = ge := by rw [List.length_append]; simp; omega
  exact iter_stop (selF (df (by show ¬ (((of ++ [p]).length : Int) < ge); omega)))
def JN (i now e h u s0 s1 e0 u0 e1 u1 : Int) : Prop := 0 ≤ i ∧ i ≤ 300 ∧ 2 ≤ now ∧ now ≤ 2 + 3 * i ∧ 0 ≤ e ∧ e ≤ i ∧ 0 ≤ u ∧ u ≤ now + 8 ∧ -1 ≤ h ∧ h ≤ 1 ∧ (e > 0 ∨ h = -1) ∧ 0 ≤ s0 ∧ s0 ≤ 2 ∧ 0 ≤ s1 ∧ s1 ≤ 2 ∧ 0 ≤ e0 ∧ e0 ≤ e ∧ 0 ≤ u0 ∧ u0 ≤ now + 8 ∧ 0 ≤ e1 ∧ e1 ≤ e ∧ 0 ≤ u1 ∧ u1 ≤ now + 8 ∧
  (e0 > 0 → (e0 = e ∧ h = 0 ∧ u0 ≤ u) ∨ u0 < now) ∧ (e1 > 0 → (e1 = e ∧ h = 1 ∧ u1 ≤ u) ∨ u1 < now)
def Gi (l0 : LSt) (i s0 s1 : Int) (env : List Dat) : Prop := ∃ now e h u a0 e0 u0 a1 e1 u1, ∃ of : List Int, env = [.l TSt l0, .n now, .n i, .n e, .n h, .n u, .l TI (ofI [s0, s1]), .l TTen (ten a0 e0 u0 a1 e1 u1), .l TI (ofI of)] ∧ JN i now e h u s0 s1 e0 u0 e1 u1 ∧ (of.length : Int) = e ∧ (e0 > 0 → of.getD (e0 - 1).toNat 0 = 0) ∧ (e1 > 0 → of.getD (e1 - 1).toNat 0 = 1)
def Dn (l0 : LSt) (i s0 s1 : Int) (z : Option Step) : Prop := ∃ env', z = some (.go (.k 0 :: env')) ∧ Gi l0 i s0 s1 env'
theorem Dn.via {l0 : LSt} {i s0 s1 : Int} {z w : Option Step} (h : z = w) (k : Dn l0 i s0 s1 w) : Dn l0 i s0 s1 z := by subst h; exact k
theorem u50' {a e u t t' : Int} (h : 0 ≤ u) (h2 : u ≤ 2000) (ht : t = t') (k0 : -9000 ≤ t') (k1 : t' ≤ 9000) : op_50 [.n a, .n e, .n u, .n (IntKind.wrap .i64 t)] = some (0, [.b (Hd e u t')]) := by
  subst ht
  rw [w64 (by omega) (by omega)]; exact u50 a e u t h h2
theorem rt42 {e h u : Int} (hr : Rt e h u) : op_42 [.n e, .n h, .n u] = some (0, [.b true]) := by rw [u42, decide_eq_true hr]
theorem getD_app (of : List Int) (p : Int) (k : Nat) (h : k < of.length) : (of ++ [p]).getD k 0 = of.getD k 0 := by
  rw [List.getD_eq_getElem?_getD, List.getD_eq_getElem?_getD, List.getElem?_append_left h]
theorem getD_end (of : List Int) (p : Int) (k : Nat) (h : k = of.length) : (of ++ [p]).getD k 0 = p := by
  subst h
  rw [List.getD_eq_getElem?_getD, List.getElem?_append_right (Nat.le_refl _)]; simp
theorem Hd_f {e u t : Int} (h : e > 0 → u - 2 < t) : Hd e u t = false := by
  unfold Hd
  by_cases q : e > 0
  · rw [decide_eq_false (p := t ≤ u - 2) (by have := h q; omega)]; simp
  · rw [decide_eq_false (p := e > 0) q]; rfl
theorem two {e0 u0 t0 e1 u1 t1 : Int} (h : ¬ (e0 > 0 ∧ t0 ≤ u0 - 2 ∧ e1 > 0 ∧ t1 ≤ u1 - 2)) : (Hd e0 u0 t0 && Hd e1 u1 t1) = false := by
  unfold Hd
  by_cases a : e0 > 0 <;> by_cases b : t0 ≤ u0 - 2 <;> by_cases c : e1 > 0 <;> by_cases d : t1 ≤ u1 - 2 <;> simp [a, b, c, d]
  exact h ⟨a, b, c, d⟩
theorem step0 (l0 : LSt) (i now e h u s0 s1 a0 e0 u0 a1 e1 u1 D K : Int) (of : List Int) (hi : i < l0.length) (hi2 : i < 300)
    (hp : IntKind.wrap .i64 (Int.tmod (Prod.fst (Prod.snd (List.getD l0 (Int.toNat i) (Ty.dflt (Ty.pair (Ty.int IntKind.u8) (Ty.pair (Ty.int IntKind.u8) (Ty.int IntKind.u8))))))) (2 : Int)) = 0) (hD : IntKind.wrap .i64 (Int.tmod (Prod.snd (Prod.snd (List.getD l0 (Int.toNat i) (Ty.dflt (Ty.pair (Ty.int IntKind.u8) (Ty.pair (Ty.int IntKind.u8) (Ty.int IntKind.u8))))))) (4 : Int)) = D) (hK : Int.tmod (Prod.fst (List.getD l0 (Int.toNat i) (Ty.dflt (Ty.pair (Ty.int IntKind.u8) (Ty.pair (Ty.int IntKind.u8) (Ty.int IntKind.u8)))))) (5 : Int) = K) (hd0 : 0 ≤ D) (hd1 : D ≤ 3)
    (J : JN i now e h u s0 s1 e0 u0 e1 u1) (hl : (of.length : Int) = e) (f0 : e0 > 0 → of.getD (e0 - 1).toNat 0 = 0) (f1 : e1 > 0 → of.getD (e1 - 1).toNat 0 = 1) :
    Dn l0 (i + 1) s0 s1 (fn_L13_9_0 [.l TSt l0, .n now, .n i, .n e, .n h, .n u, .l TI (ofI [s0, s1]), .l TTen (ten a0 e0 u0 a1 e1 u1), .l TI (ofI of)]).sel := by
  obtain ⟨j0, j1, j2, j3, j4, j5, j6, j7, j8, j9, j10, j11, j12, j13, j14, j15, j16, j17, j18, j19, j20, j21, j22, g0, g1⟩ := J
  have hr : Rt e h u := by unfold Rt inM MC MU; omega
  have w1 : IntKind.wrap .i64 (i + 1) = i + 1 := w64 (by omega) (by omega)
  have we : IntKind.wrap .i64 (e + 1) = e + 1 := w64 (by omega) (by omega)
  have wD : IntKind.wrap .i64 (now + D) = now + D := w64 (by omega) (by omega)
  have eo : op_50 [.n a1, .n e1, .n u1, .n (IntKind.wrap .i64 (now - s1))] = some (0, [.b (Hd e1 u1 (now - s1))]) := u50' (by omega) (by omega) rfl (by omega) (by omega)
  rw [fn_L13_9_0, hp, hD, hK, w1, wD]
  refine Dn.via ((selT (dt hi)).trans ((selT (inR_true j0 hi)).trans ((selT rfl).trans (selT rfl)))) ?_
  erw [eo]
  refine Dn.via (selT rfl) ?_
  by_cases k0 : K = 0
  · refine Dn.via ((selT (bt k0)).trans (mid (df (by omega)) (df (by rw [we]; omega)) (rt42 hr))) ?_
    exact ⟨_, fin (b0 := Hd e0 u0 (now + D - s0)) (b1 := Hd e1 u1 (now + D - s1)) (u50' (by omega) (by omega) rfl (by omega) (by omega)) (u50' (by omega) (by omega) rfl (by omega) (by omega)) (two (by omega)) rfl rfl rfl rfl, now + D, e, h, u, a0, e0, u0, a1, e1, u1, of, rfl, by unfold JN; omega, hl, f0, f1⟩
  refine Dn.via (selF (bf k0)) ?_
  by_cases k1 : K = 1
  · refine Dn.via ((selT (bt k1)).trans (mid (df (by omega)) (df (by rw [we]; omega)) (rt42 hr))) ?_
    exact ⟨_, fin (b0 := Hd e0 u0 (now + D - s0)) (b1 := Hd e1 u1 (now + D - s1)) (u50' (by omega) (by omega) rfl (by omega) (by omega)) (u50' (by omega) (by omega) rfl (by omega) (by omega)) (two (by omega)) rfl rfl rfl rfl, now + D, e, h, u, a0, e0, u0, a1, e1, u1, of, rfl, by unfold JN; omega, hl, f0, f1⟩
  refine Dn.via (selF (bf k1)) ?_
  by_cases k2 : K = 2
  · refine Dn.via (selT (bt k2)) ?_
    have e39 := u39 e h u 0 now hr (by unfold inM; omega) (by omega) (by omega) (by omega)
    by_cases c : h ≠ -1 ∧ h ≠ 0 ∧ now ≤ u
    · rw [if_pos c] at e39
      erw [e39]
      refine Dn.via ((selT rfl).trans ((mid (df (by show ¬ (e < e); omega)) (df (by show ¬ (e > IntKind.wrap .i64 (e + 1)); rw [we]; omega)) (rt42 hr)).trans (selF rfl))) ?_
      exact ⟨_, fin (b0 := Hd e0 u0 (now - s0)) (b1 := Hd e1 u1 (now - s1)) (u50' (by omega) (by omega) rfl (by omega) (by omega)) rfl (two (by omega)) rfl rfl rfl rfl, now, e, h, u, a0, e0, u0, a1, e1, u1, of, rfl, by unfold JN; omega, hl, f0, f1⟩
    rw [if_neg c] at e39
    erw [e39]
    have hr' : Rt (e + 1) 0 (now + 8) := by unfold Rt inM MC MU; omega
    have oth : Hd e1 u1 (now - s1) = false := Hd_f (by omega)
    refine Dn.via ((selT rfl).trans ((mid (df (by show ¬ (e + 1 < e); omega)) (df (by show ¬ (e + 1 > IntKind.wrap .i64 (e + 1)); rw [we]; omega)) (rt42 hr')).trans (selT rfl))) ?_
    erw [inner1 l0 now i 0 (e + 1) 0 (now + 8) (Hd e1 u1 (now - s1)) (ofI [s0, s1]) (ten a0 e0 u0 a1 e1 u1) of (e + 1) (now + 8) (by omega) (by omega)]
    have e51 := u51 a0 e0 u0 (e + 1) (now + 8) (by omega) (by omega) (by omega) (by omega) (by omega)
    rw [if_neg (by omega)] at e51
    have wx : IntKind.wrap .i64 (e + 1 - 1) = e := (w64 (by omega) (by omega)).trans (by omega)
    refine Dn.via ((selT rfl).trans (selT rfl)) ?_
    erw [e51]
    refine Dn.via ((selT rfl).trans ((selF rfl).trans ((selT (by show inR (IntKind.wrap .i64 (e + 1 - 1)) (of ++ [0]).length = true; rw [wx]; exact inR_true (by omega) (by rw [List.length_append]; simp; omega))).trans
      ((selF (by show ((of ++ [0]).getD (Int.toNat (IntKind.wrap .i64 (e + 1 - 1))) 0 != 0) = false; rw [wx, getD_end of 0 _ (by omega)]; rfl)).trans (selF oth))))) ?_
    exact ⟨_, fin (b0 := Hd (e + 1) (now + 8) (now - s0)) (b1 := Hd e1 u1 (now - s1)) (u50' (by omega) (by omega) rfl (by omega) (by omega)) (u50' (by omega) (by omega) rfl (by omega) (by omega)) (two (by omega)) rfl rfl rfl rfl, now, (e + 1), 0, (now + 8), a0, (e + 1), (now + 8), a1, e1, u1, (of ++ [0]), congrArg (fun z => [Dat.l TSt l0, Dat.n now, Dat.n z, Dat.n (e + 1), Dat.n 0, Dat.n (now + 8), Dat.l TI (ofI [s0, s1]), Dat.l TTen (ten a0 (e + 1) (now + 8) a1 e1 u1), Dat.l TI (ofI (of ++ [0]))]) w1, by unfold JN; omega, (by rw [List.length_append]; simp; omega), fun _ => getD_end of 0 _ (by omega), fun z => (getD_app of 0 _ (by omega)).trans (f1 z)⟩
  refine Dn.via (selF (bf k2)) ?_
  by_cases k3 : K = 3
  · refine Dn.via ((selT (bt k3)).trans (selT rfl)) ?_
    have e45 := u45 e h u 0 e0 now hr (by unfold inM; omega) (by omega) (by omega) (by omega) (by omega) (by omega)
    by_cases c : e0 < e
    · rw [if_pos c] at e45
      erw [e45]
      refine Dn.via ((selT rfl).trans ((mid (df (by show ¬ (e < e); omega)) (df (by show ¬ (e > IntKind.wrap .i64 (e + 1)); rw [we]; omega)) (rt42 hr)).trans (selF rfl))) ?_
      exact ⟨_, fin (b0 := Hd e0 u0 (now - s0)) (b1 := Hd e1 u1 (now - s1)) (u50' (by omega) (by omega) rfl (by omega) (by omega)) rfl (two (by omega)) rfl rfl rfl rfl, now, e, h, u, a0, e0, u0, a1, e1, u1, of, rfl, by unfold JN; omega, hl, f0, f1⟩
    rw [if_neg c] at e45
    by_cases c2 : h ≠ 0 ∨ now > u
    · rw [if_pos c2] at e45
      erw [e45]
      refine Dn.via ((selT rfl).trans ((mid (df (by show ¬ (e < e); omega)) (df (by show ¬ (e > IntKind.wrap .i64 (e + 1)); rw [we]; omega)) (rt42 hr)).trans (selF rfl))) ?_
      exact ⟨_, fin (b0 := Hd e0 u0 (now - s0)) (b1 := Hd e1 u1 (now - s1)) (u50' (by omega) (by omega) rfl (by omega) (by omega)) rfl (two (by omega)) rfl rfl rfl rfl, now, e, h, u, a0, e0, u0, a1, e1, u1, of, rfl, by unfold JN; omega, hl, f0, f1⟩
    rw [if_neg c2] at e45
    obtain ⟨v, hv⟩ : ∃ v, v = imax u (now + 8) := ⟨_, rfl⟩
    have hv2 : v = now + 8 := by rw [hv]; unfold imax; split <;> omega
    rw [← hv, hv2] at e45
    erw [e45]
    have hr' : Rt e h (now + 8) := by unfold Rt inM MC MU; omega
    have oth : Hd e1 u1 (now - s1) = false := Hd_f (by omega)
    refine Dn.via ((selT rfl).trans ((mid (df (by show ¬ (e < e); omega)) (df (by show ¬ (e > IntKind.wrap .i64 (e + 1)); rw [we]; omega)) (rt42 hr')).trans (selT rfl))) ?_
    erw [inner0 l0 now i 0 e h (now + 8) (Hd e1 u1 (now - s1)) (ofI [s0, s1]) (ten a0 e0 u0 a1 e1 u1) of e (now + 8) (by omega)]
    have e51 := u51 a0 e0 u0 e (now + 8) (by omega) (by omega) (by omega) (by omega) (by omega)
    rw [if_pos (by omega)] at e51
    have hm : imax (now + 8) u0 = now + 8 := by unfold imax; split <;> omega
    rw [hm] at e51
    have wx : IntKind.wrap .i64 (e - 1) = e - 1 := w64 (by omega) (by omega)
    refine Dn.via ((selT rfl).trans (selT rfl)) ?_
    erw [e51]
    refine Dn.via ((selT rfl).trans ((selF rfl).trans ((selT (by show inR (IntKind.wrap .i64 (e - 1)) of.length = true; rw [wx]; exact inR_true (by omega) (by omega))).trans
      ((selF (by show (of.getD (Int.toNat (IntKind.wrap .i64 (e - 1))) 0 != 0) = false; rw [wx, show e - 1 = e0 - 1 by omega, f0 (by omega)]; rfl)).trans (selF oth))))) ?_
    exact ⟨_, fin (b0 := Hd e (now + 8) (now - s0)) (b1 := Hd e1 u1 (now - s1)) (u50' (by omega) (by omega) rfl (by omega) (by omega)) (u50' (by omega) (by omega) rfl (by omega) (by omega)) (two (by omega)) rfl rfl rfl rfl, now, e, h, (now + 8), a0, e, (now + 8), a1, e1, u1, of, congrArg (fun z => [Dat.l TSt l0, Dat.n now, Dat.n z, Dat.n e, Dat.n h, Dat.n (now + 8), Dat.l TI (ofI [s0, s1]), Dat.l TTen (ten a0 e (now + 8) a1 e1 u1), Dat.l TI (ofI of)]) w1, by unfold JN; omega, hl, fun _ => by have z := f0 (by omega); rw [show e = e0 by omega]; exact z, f1⟩
  refine Dn.via ((selF (bf k3)).trans (selT rfl)) ?_
  have e47 := u47 e h u 0 e0 hr (by unfold inM; omega) (by omega) (by omega) (by omega)
  by_cases c : e0 < e
  · rw [if_pos c] at e47
    erw [e47]
    refine Dn.via ((selT rfl).trans ((selF rfl).trans (mid (df (by show ¬ (e < e); omega)) (df (by show ¬ (e > IntKind.wrap .i64 (e + 1)); rw [we]; omega)) (rt42 hr)))) ?_
    exact ⟨_, fin (b0 := Hd e0 u0 (now - s0)) (b1 := Hd e1 u1 (now - s1)) (u50' (by omega) (by omega) rfl (by omega) (by omega)) rfl (two (by omega)) rfl rfl rfl rfl, now, e, h, u, a0, e0, u0, a1, e1, u1, of, rfl, by unfold JN; omega, hl, f0, f1⟩
  rw [if_neg c] at e47
  by_cases c2 : h ≠ 0
  · rw [if_pos c2] at e47
    erw [e47]
    refine Dn.via ((selT rfl).trans ((selF rfl).trans (mid (df (by show ¬ (e < e); omega)) (df (by show ¬ (e > IntKind.wrap .i64 (e + 1)); rw [we]; omega)) (rt42 hr)))) ?_
    exact ⟨_, fin (b0 := Hd e0 u0 (now - s0)) (b1 := Hd e1 u1 (now - s1)) (u50' (by omega) (by omega) rfl (by omega) (by omega)) rfl (two (by omega)) rfl rfl rfl rfl, now, e, h, u, a0, e0, u0, a1, e1, u1, of, rfl, by unfold JN; omega, hl, f0, f1⟩
  rw [if_neg c2] at e47
  erw [e47]
  have hr' : Rt e (-1) u := by unfold Rt inM MC MU; omega
  refine Dn.via ((selT rfl).trans ((selT rfl).trans (mid (df (by show ¬ (e < e); omega)) (df (by show ¬ (e > IntKind.wrap .i64 (e + 1)); rw [we]; omega)) (rt42 hr')))) ?_
  exact ⟨_, fin (b0 := Hd (0 : Int) (0 : Int) (now - s0)) (b1 := Hd e1 u1 (now - s1)) (u50' (by omega) (by omega) rfl (by omega) (by omega)) rfl (two (by omega)) rfl rfl rfl rfl, now, e, -1, u, (0 : Int), (0 : Int), (0 : Int), a1, e1, u1, of, rfl, by unfold JN; omega, hl, (fun z => absurd z (by omega)), f1⟩
theorem step1 (l0 : LSt) (i now e h u s0 s1 a0 e0 u0 a1 e1 u1 D K : Int) (of : List Int) (hi : i < l0.length) (hi2 : i < 300)
    (hp : IntKind.wrap .i64 (Int.tmod (Prod.fst (Prod.snd (List.getD l0 (Int.toNat i) (Ty.dflt (Ty.pair (Ty.int IntKind.u8) (Ty.pair (Ty.int IntKind.u8) (Ty.int IntKind.u8))))))) (2 : Int)) = 1) (hD : IntKind.wrap .i64 (Int.tmod (Prod.snd (Prod.snd (List.getD l0 (Int.toNat i) (Ty.dflt (Ty.pair (Ty.int IntKind.u8) (Ty.pair (Ty.int IntKind.u8) (Ty.int IntKind.u8))))))) (4 : Int)) = D) (hK : Int.tmod (Prod.fst (List.getD l0 (Int.toNat i) (Ty.dflt (Ty.pair (Ty.int IntKind.u8) (Ty.pair (Ty.int IntKind.u8) (Ty.int IntKind.u8)))))) (5 : Int) = K) (hd0 : 0 ≤ D) (hd1 : D ≤ 3)
    (J : JN i now e h u s0 s1 e0 u0 e1 u1) (hl : (of.length : Int) = e) (f0 : e0 > 0 → of.getD (e0 - 1).toNat 0 = 0) (f1 : e1 > 0 → of.getD (e1 - 1).toNat 0 = 1) :
    Dn l0 (i + 1) s0 s1 (fn_L13_9_0 [.l TSt l0, .n now, .n i, .n e, .n h, .n u, .l TI (ofI [s0, s1]), .l TTen (ten a0 e0 u0 a1 e1 u1), .l TI (ofI of)]).sel := by
  obtain ⟨j0, j1, j2, j3, j4, j5, j6, j7, j8, j9, j10, j11, j12, j13, j14, j15, j16, j17, j18, j19, j20, j21, j22, g0, g1⟩ := J
  have hr : Rt e h u := by unfold Rt inM MC MU; omega
  have w1 : IntKind.wrap .i64 (i + 1) = i + 1 := w64 (by omega) (by omega)
  have we : IntKind.wrap .i64 (e + 1) = e + 1 := w64 (by omega) (by omega)
  have wD : IntKind.wrap .i64 (now + D) = now + D := w64 (by omega) (by omega)
  have eo : op_50 [.n a0, .n e0, .n u0, .n (IntKind.wrap .i64 (now - s0))] = some (0, [.b (Hd e0 u0 (now - s0))]) := u50' (by omega) (by omega) rfl (by omega) (by omega)
  rw [fn_L13_9_0, hp, hD, hK, w1, wD]
  refine Dn.via ((selT (dt hi)).trans ((selT (inR_true j0 hi)).trans ((selT rfl).trans (selT rfl)))) ?_
  erw [eo]
  refine Dn.via (selT rfl) ?_
  by_cases k0 : K = 0
  · refine Dn.via ((selT (bt k0)).trans (mid (df (by omega)) (df (by rw [we]; omega)) (rt42 hr))) ?_
    exact ⟨_, fin (b0 := Hd e0 u0 (now + D - s0)) (b1 := Hd e1 u1 (now + D - s1)) (u50' (by omega) (by omega) rfl (by omega) (by omega)) (u50' (by omega) (by omega) rfl (by omega) (by omega)) (two (by omega)) rfl rfl rfl rfl, now + D, e, h, u, a0, e0, u0, a1, e1, u1, of, rfl, by unfold JN; omega, hl, f0, f1⟩
  refine Dn.via (selF (bf k0)) ?_
  by_cases k1 : K = 1
  · refine Dn.via ((selT (bt k1)).trans (mid (df (by omega)) (df (by rw [we]; omega)) (rt42 hr))) ?_
    exact ⟨_, fin (b0 := Hd e0 u0 (now + D - s0)) (b1 := Hd e1 u1 (now + D - s1)) (u50' (by omega) (by omega) rfl (by omega) (by omega)) (u50' (by omega) (by omega) rfl (by omega) (by omega)) (two (by omega)) rfl rfl rfl rfl, now + D, e, h, u, a0, e0, u0, a1, e1, u1, of, rfl, by unfold JN; omega, hl, f0, f1⟩
  refine Dn.via (selF (bf k1)) ?_
  by_cases k2 : K = 2
  · refine Dn.via (selT (bt k2)) ?_
    have e39 := u39 e h u 1 now hr (by unfold inM; omega) (by omega) (by omega) (by omega)
    by_cases c : h ≠ -1 ∧ h ≠ 1 ∧ now ≤ u
    · rw [if_pos c] at e39
      erw [e39]
      refine Dn.via ((selT rfl).trans ((mid (df (by show ¬ (e < e); omega)) (df (by show ¬ (e > IntKind.wrap .i64 (e + 1)); rw [we]; omega)) (rt42 hr)).trans (selF rfl))) ?_
      exact ⟨_, fin (b0 := Hd e0 u0 (now - s0)) (b1 := Hd e1 u1 (now - s1)) rfl (u50' (by omega) (by omega) rfl (by omega) (by omega)) (two (by omega)) rfl rfl rfl rfl, now, e, h, u, a0, e0, u0, a1, e1, u1, of, rfl, by unfold JN; omega, hl, f0, f1⟩
    rw [if_neg c] at e39
    erw [e39]
    have hr' : Rt (e + 1) 1 (now + 8) := by unfold Rt inM MC MU; omega
    have oth : Hd e0 u0 (now - s0) = false := Hd_f (by omega)
    refine Dn.via ((selT rfl).trans ((mid (df (by show ¬ (e + 1 < e); omega)) (df (by show ¬ (e + 1 > IntKind.wrap .i64 (e + 1)); rw [we]; omega)) (rt42 hr')).trans (selT rfl))) ?_
    erw [inner1 l0 now i 1 (e + 1) 1 (now + 8) (Hd e0 u0 (now - s0)) (ofI [s0, s1]) (ten a0 e0 u0 a1 e1 u1) of (e + 1) (now + 8) (by omega) (by omega)]
    have e51 := u51 a1 e1 u1 (e + 1) (now + 8) (by omega) (by omega) (by omega) (by omega) (by omega)
    rw [if_neg (by omega)] at e51
    have wx : IntKind.wrap .i64 (e + 1 - 1) = e := (w64 (by omega) (by omega)).trans (by omega)
    refine Dn.via ((selT rfl).trans (selT rfl)) ?_
    erw [e51]
    refine Dn.via ((selT rfl).trans ((selF rfl).trans ((selT (by show inR (IntKind.wrap .i64 (e + 1 - 1)) (of ++ [1]).length = true; rw [wx]; exact inR_true (by omega) (by rw [List.length_append]; simp; omega))).trans
      ((selF (by show ((of ++ [1]).getD (Int.toNat (IntKind.wrap .i64 (e + 1 - 1))) 0 != 1) = false; rw [wx, getD_end of 1 _ (by omega)]; rfl)).trans (selF oth))))) ?_
    exact ⟨_, fin (b0 := Hd e0 u0 (now - s0)) (b1 := Hd (e + 1) (now + 8) (now - s1)) (u50' (by omega) (by omega) rfl (by omega) (by omega)) (u50' (by omega) (by omega) rfl (by omega) (by omega)) (two (by omega)) rfl rfl rfl rfl, now, (e + 1), 1, (now + 8), a0, e0, u0, a1, (e + 1), (now + 8), (of ++ [1]), congrArg (fun z => [Dat.l TSt l0, Dat.n now, Dat.n z, Dat.n (e + 1), Dat.n 1, Dat.n (now + 8), Dat.l TI (ofI [s0, s1]), Dat.l TTen (ten a0 e0 u0 a1 (e + 1) (now + 8)), Dat.l TI (ofI (of ++ [1]))]) w1, by unfold JN; omega, (by rw [List.length_append]; simp; omega), fun z => (getD_app of 1 _ (by omega)).trans (f0 z), fun _ => getD_end of 1 _ (by omega)⟩
  refine Dn.via (selF (bf k2)) ?_
  by_cases k3 : K = 3
  · refine Dn.via ((selT (bt k3)).trans (selT rfl)) ?_
    have e45 := u45 e h u 1 e1 now hr (by unfold inM; omega) (by omega) (by omega) (by omega) (by omega) (by omega)
    by_cases c : e1 < e
    · rw [if_pos c] at e45
      erw [e45]
      refine Dn.via ((selT rfl).trans ((mid (df (by show ¬ (e < e); omega)) (df (by show ¬ (e > IntKind.wrap .i64 (e + 1)); rw [we]; omega)) (rt42 hr)).trans (selF rfl))) ?_
      exact ⟨_, fin (b0 := Hd e0 u0 (now - s0)) (b1 := Hd e1 u1 (now - s1)) rfl (u50' (by omega) (by omega) rfl (by omega) (by omega)) (two (by omega)) rfl rfl rfl rfl, now, e, h, u, a0, e0, u0, a1, e1, u1, of, rfl, by unfold JN; omega, hl, f0, f1⟩
    rw [if_neg c] at e45
    by_cases c2 : h ≠ 1 ∨ now > u
    · rw [if_pos c2] at e45
      erw [e45]
      refine Dn.via ((selT rfl).trans ((mid (df (by show ¬ (e < e); omega)) (df (by show ¬ (e > IntKind.wrap .i64 (e + 1)); rw [we]; omega)) (rt42 hr)).trans (selF rfl))) ?_
      exact ⟨_, fin (b0 := Hd e0 u0 (now - s0)) (b1 := Hd e1 u1 (now - s1)) rfl (u50' (by omega) (by omega) rfl (by omega) (by omega)) (two (by omega)) rfl rfl rfl rfl, now, e, h, u, a0, e0, u0, a1, e1, u1, of, rfl, by unfold JN; omega, hl, f0, f1⟩
    rw [if_neg c2] at e45
    obtain ⟨v, hv⟩ : ∃ v, v = imax u (now + 8) := ⟨_, rfl⟩
    have hv2 : v = now + 8 := by rw [hv]; unfold imax; split <;> omega
    rw [← hv, hv2] at e45
    erw [e45]
    have hr' : Rt e h (now + 8) := by unfold Rt inM MC MU; omega
    have oth : Hd e0 u0 (now - s0) = false := Hd_f (by omega)
    refine Dn.via ((selT rfl).trans ((mid (df (by show ¬ (e < e); omega)) (df (by show ¬ (e > IntKind.wrap .i64 (e + 1)); rw [we]; omega)) (rt42 hr')).trans (selT rfl))) ?_
    erw [inner0 l0 now i 1 e h (now + 8) (Hd e0 u0 (now - s0)) (ofI [s0, s1]) (ten a0 e0 u0 a1 e1 u1) of e (now + 8) (by omega)]
    have e51 := u51 a1 e1 u1 e (now + 8) (by omega) (by omega) (by omega) (by omega) (by omega)
    rw [if_pos (by omega)] at e51
    have hm : imax (now + 8) u1 = now + 8 := by unfold imax; split <;> omega
    rw [hm] at e51
    have wx : IntKind.wrap .i64 (e - 1) = e - 1 := w64 (by omega) (by omega)
    refine Dn.via ((selT rfl).trans (selT rfl)) ?_
    erw [e51]
    refine Dn.via ((selT rfl).trans ((selF rfl).trans ((selT (by show inR (IntKind.wrap .i64 (e - 1)) of.length = true; rw [wx]; exact inR_true (by omega) (by omega))).trans
      ((selF (by show (of.getD (Int.toNat (IntKind.wrap .i64 (e - 1))) 0 != 1) = false; rw [wx, show e - 1 = e1 - 1 by omega, f1 (by omega)]; rfl)).trans (selF oth))))) ?_
    exact ⟨_, fin (b0 := Hd e0 u0 (now - s0)) (b1 := Hd e (now + 8) (now - s1)) (u50' (by omega) (by omega) rfl (by omega) (by omega)) (u50' (by omega) (by omega) rfl (by omega) (by omega)) (two (by omega)) rfl rfl rfl rfl, now, e, h, (now + 8), a0, e0, u0, a1, e, (now + 8), of, congrArg (fun z => [Dat.l TSt l0, Dat.n now, Dat.n z, Dat.n e, Dat.n h, Dat.n (now + 8), Dat.l TI (ofI [s0, s1]), Dat.l TTen (ten a0 e0 u0 a1 e (now + 8)), Dat.l TI (ofI of)]) w1, by unfold JN; omega, hl, f0, fun _ => by have z := f1 (by omega); rw [show e = e1 by omega]; exact z⟩
  refine Dn.via ((selF (bf k3)).trans (selT rfl)) ?_
  have e47 := u47 e h u 1 e1 hr (by unfold inM; omega) (by omega) (by omega) (by omega)
  by_cases c : e1 < e
  · rw [if_pos c] at e47
    erw [e47]
    refine Dn.via ((selT rfl).trans ((selF rfl).trans (mid (df (by show ¬ (e < e); omega)) (df (by show ¬ (e > IntKind.wrap .i64 (e + 1)); rw [we]; omega)) (rt42 hr)))) ?_
    exact ⟨_, fin (b0 := Hd e0 u0 (now - s0)) (b1 := Hd e1 u1 (now - s1)) rfl (u50' (by omega) (by omega) rfl (by omega) (by omega)) (two (by omega)) rfl rfl rfl rfl, now, e, h, u, a0, e0, u0, a1, e1, u1, of, rfl, by unfold JN; omega, hl, f0, f1⟩
  rw [if_neg c] at e47
  by_cases c2 : h ≠ 1
  · rw [if_pos c2] at e47
    erw [e47]
    refine Dn.via ((selT rfl).trans ((selF rfl).trans (mid (df (by show ¬ (e < e); omega)) (df (by show ¬ (e > IntKind.wrap .i64 (e + 1)); rw [we]; omega)) (rt42 hr)))) ?_
    exact ⟨_, fin (b0 := Hd e0 u0 (now - s0)) (b1 := Hd e1 u1 (now - s1)) rfl (u50' (by omega) (by omega) rfl (by omega) (by omega)) (two (by omega)) rfl rfl rfl rfl, now, e, h, u, a0, e0, u0, a1, e1, u1, of, rfl, by unfold JN; omega, hl, f0, f1⟩
  rw [if_neg c2] at e47
  erw [e47]
  have hr' : Rt e (-1) u := by unfold Rt inM MC MU; omega
  refine Dn.via ((selT rfl).trans ((selT rfl).trans (mid (df (by show ¬ (e < e); omega)) (df (by show ¬ (e > IntKind.wrap .i64 (e + 1)); rw [we]; omega)) (rt42 hr')))) ?_
  exact ⟨_, fin (b0 := Hd e0 u0 (now - s0)) (b1 := Hd (0 : Int) (0 : Int) (now - s1)) rfl (u50' (by omega) (by omega) rfl (by omega) (by omega)) (two (by omega)) rfl rfl rfl rfl, now, e, -1, u, a0, e0, u0, (1 : Int), (0 : Int), (0 : Int), of, rfl, by unfold JN; omega, hl, f0, (fun z => absurd z (by omega))⟩
end Go.Proofs.Ytchedebomjmehaa.Vx
