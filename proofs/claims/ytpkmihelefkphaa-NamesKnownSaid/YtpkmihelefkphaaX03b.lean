import Derived.Test.YtpkmihelefkphaaVxIm
import Derived.Test.YtpkmihelefkphaaVxLk
import Derived.Test.YtpkmihelefkphaaVxLaw
import Derived.Test.YtpkmihelefkphaaX03
import Derived.KernelRfl
namespace Go.Proofs.Ytpkmihelefkphaa.Vx
open Go Go.RowKit
set_option linter.unusedVariables false
set_option linter.unusedSimpArgs false
set_option maxRecDepth 100000
set_option maxHeartbeats 0
noncomputable def st_L7_15 (env : List Dat) : Tree Step := Lk.stepMC false LK cs_19 7 15 ls0 (mkM 0 [] [(sh 109 [(5, .own 0), (7, .str 0), (8, .int .i64 1), (9, .int .i64 2)], [.arr TS 3])] [] [(.exit 2, sh 109 [(5, .own 0), (7, .str 0), (8, .int .i64 1)], [.arr TS 2]), (.ret, sh 109 [(2, .bool 0)], [])] fun _ => none) env
theorem op_L7_15_ex : ∃ f : List Dat → Option (Nat × List Dat), ∀ env, f env = iterS st_L7_15 FU env := ⟨iterS st_L7_15 FU, fun _ => rfl⟩
noncomputable def op_L7_15 : List Dat → Option (Nat × List Dat) := Classical.choose op_L7_15_ex
theorem op_L7_15_eq (env : List Dat) : op_L7_15 env = iterS st_L7_15 FU env := Classical.choose_spec op_L7_15_ex env
noncomputable def L7_15 : MBox := mkM 0 [] [(sh 109 [(5, .own 0), (7, .str 0), (8, .int .i64 1), (9, .int .i64 2)], [.arr TS 3])] [] [(.exit 2, sh 109 [(5, .own 0), (7, .str 0), (8, .int .i64 1)], [.arr TS 2]), (.ret, sh 109 [(2, .bool 0)], [])] op_L7_15
theorem L7_15_eqs : L7_15 = mkM 0 [] [(sh 109 [(5, .own 0), (7, .str 0), (8, .int .i64 1), (9, .int .i64 2)], [.arr TS 3])] [] [(.exit 2, sh 109 [(5, .own 0), (7, .str 0), (8, .int .i64 1)], [.arr TS 2]), (.ret, sh 109 [(2, .bool 0)], [])] (iterS st_L7_15 FU) := congrArg (fun f => mkM 0 [] [(sh 109 [(5, .own 0), (7, .str 0), (8, .int .i64 1), (9, .int .i64 2)], [.arr TS 3])] [] [(.exit 2, sh 109 [(5, .own 0), (7, .str 0), (8, .int .i64 1)], [.arr TS 2]), (.ret, sh 109 [(2, .bool 0)], [])] f) (funext op_L7_15_eq)
theorem L7_15_run : ∀ t s x, (manyRun L7_15 t s).sel = some x → CodeOk Try.prog 0 (.loop (cAt Try.prog 7 15)) t s x := by
  rw [L7_15_eqs]
  exact mkM_ok (st := st_L7_15) (m := FU) cs_19_ok hmix false (LsOk.none _ _ _) (by kernel_rfl) (fun env y h => by rw [← stepMC_lk]; exact h)
theorem op_L7_15_good {p : Nat × List Dat → Prop} (Inv : List Dat → Prop) (μ : List Dat → Nat) (h : ∀ env, Inv env → Good (fun y => match y with | .go e => Inv e ∧ μ e < μ env | .stop k d => p (k, d)) (st_L7_15 env).sel) (env : List Dat) (hi : Inv env) (hm : μ env < FU) : Good p (op_L7_15 env) := by
  rw [op_L7_15_eq]
  exact iterS_good Inv μ p h FU env hi hm

noncomputable def fn_L7_15_t : List Dat → Tree Step
  | [.s s0, .n n1, .n n2, .l (Ty.str) l3] =>
    (.node (decide (n2 < (↑(ByteArray.size (List.getD l3 (Int.toNat n1) (Ty.dflt Ty.str))) : Int)))
     (.node (strAt (List.getD l3 (Int.toNat n1) (Ty.dflt Ty.str)) n2 == (32 : Int))
      (.leaf (Step.stop 1 [.b false]))
      (.node (strAt (List.getD l3 (Int.toNat n1) (Ty.dflt Ty.str)) n2 == (35 : Int))
       (.leaf (Step.stop 1 [.b false]))
       (.leaf (Step.go [.k 0, .s s0, .n n1, .n (IntKind.wrap .i64 (n2 + (1 : Int))), .l Ty.str l3]))))
     (.leaf (Step.stop 0 [.s s0, .n n1, .l Ty.str l3])))
  | _ => .bad 0
theorem fn_L7_15_t_im (s0 : ByteArray) (n1 : Int) (n2 : Int) (l3 : List (Ty.den (Ty.str))) (g0 : 0 ≤ n1) (g1 :  n1 < (l3.length : Int)) (g2 :  0 ≤ n2) : Imp (fn_L7_15_t [.s s0, .n n1, .n n2, .l (Ty.str) l3]) (st_L7_15 [.k 0, .s s0, .n n1, .n n2, .l TS l3]) :=
(.path [1] (by kernel_rfl)
(.pt (c := (inR n1 (List.length l3))) (by kernel_rfl) (by kernel_rfl) (by (simp only [w64d, decide_eq_true_eq, decide_eq_false_iff_not, beq_iff_eq, beq_eq_false_iff_ne, bne_iff_ne, ne_eq, inR, Bool.and_eq_true, Bool.and_eq_false_iff, Bool.not_eq_true', Bool.not_eq_false', Bool.not_eq_eq_eq_not, Bool.not_true, Bool.not_false] at *; omega))
(.node (by kernel_rfl) (by kernel_rfl) (fun h0 =>
(.pt (c := (inR n1 (List.length l3))) (by kernel_rfl) (by kernel_rfl) (by (simp only [w64d, decide_eq_true_eq, decide_eq_false_iff_not, beq_iff_eq, beq_eq_false_iff_ne, bne_iff_ne, ne_eq, inR, Bool.and_eq_true, Bool.and_eq_false_iff, Bool.not_eq_true', Bool.not_eq_false', Bool.not_eq_eq_eq_not, Bool.not_true, Bool.not_false] at *; omega))
(.pt (c := (inR n2 (ByteArray.size (List.getD l3 (Int.toNat n1) (Ty.dflt Ty.str))))) (by kernel_rfl) (by kernel_rfl) (by (simp only [w64d, decide_eq_true_eq, decide_eq_false_iff_not, beq_iff_eq, beq_eq_false_iff_ne, bne_iff_ne, ne_eq, inR, Bool.and_eq_true, Bool.and_eq_false_iff, Bool.not_eq_true', Bool.not_eq_false', Bool.not_eq_eq_eq_not, Bool.not_true, Bool.not_false] at *; omega))
(.node (by kernel_rfl) (by kernel_rfl) (fun h1 =>
(.path [1,1,1] (by kernel_rfl)
(.leaf (by kernel_rfl)))) (fun h1 =>
(.pt (c := (inR n1 (List.length l3))) (by kernel_rfl) (by kernel_rfl) (by (simp only [w64d, decide_eq_true_eq, decide_eq_false_iff_not, beq_iff_eq, beq_eq_false_iff_ne, bne_iff_ne, ne_eq, inR, Bool.and_eq_true, Bool.and_eq_false_iff, Bool.not_eq_true', Bool.not_eq_false', Bool.not_eq_eq_eq_not, Bool.not_true, Bool.not_false] at *; omega))
(.pt (c := (inR n2 (ByteArray.size (List.getD l3 (Int.toNat n1) (Ty.dflt Ty.str))))) (by kernel_rfl) (by kernel_rfl) (by (simp only [w64d, decide_eq_true_eq, decide_eq_false_iff_not, beq_iff_eq, beq_eq_false_iff_ne, bne_iff_ne, ne_eq, inR, Bool.and_eq_true, Bool.and_eq_false_iff, Bool.not_eq_true', Bool.not_eq_false', Bool.not_eq_eq_eq_not, Bool.not_true, Bool.not_false] at *; omega))
(.node (by kernel_rfl) (by kernel_rfl) (fun h2 =>
(.path [1] (by kernel_rfl)
(.leaf (by kernel_rfl)))) (fun h2 =>
(.path [1] (by kernel_rfl)
(.leaf (by kernel_rfl)))))))))))) (fun h0 =>
(.path [1] (by kernel_rfl)
(.leaf (by kernel_rfl)))))))

noncomputable def st_L7_12 (env : List Dat) : Tree Step := Lk.stepMC false LK cs_19 7 12 (lsM [(15, L7_15)] 0) (mkM 0 [] [(sh 109 [(5, .own 0), (7, .str 0), (8, .int .i64 1)], [.arr TS 2])] [] [(.exit 0, sh 109 [(5, .own 0), (7, .str 0)], [.arr TS 1]), (.ret, sh 109 [(2, .bool 0)], [])] fun _ => none) env
theorem op_L7_12_ex : ∃ f : List Dat → Option (Nat × List Dat), ∀ env, f env = iterS st_L7_12 FU env := ⟨iterS st_L7_12 FU, fun _ => rfl⟩
noncomputable def op_L7_12 : List Dat → Option (Nat × List Dat) := Classical.choose op_L7_12_ex
theorem op_L7_12_eq (env : List Dat) : op_L7_12 env = iterS st_L7_12 FU env := Classical.choose_spec op_L7_12_ex env
noncomputable def L7_12 : MBox := mkM 0 [] [(sh 109 [(5, .own 0), (7, .str 0), (8, .int .i64 1)], [.arr TS 2])] [] [(.exit 0, sh 109 [(5, .own 0), (7, .str 0)], [.arr TS 1]), (.ret, sh 109 [(2, .bool 0)], [])] op_L7_12
theorem L7_12_eqs : L7_12 = mkM 0 [] [(sh 109 [(5, .own 0), (7, .str 0), (8, .int .i64 1)], [.arr TS 2])] [] [(.exit 0, sh 109 [(5, .own 0), (7, .str 0)], [.arr TS 1]), (.ret, sh 109 [(2, .bool 0)], [])] (iterS st_L7_12 FU) := congrArg (fun f => mkM 0 [] [(sh 109 [(5, .own 0), (7, .str 0), (8, .int .i64 1)], [.arr TS 2])] [] [(.exit 0, sh 109 [(5, .own 0), (7, .str 0)], [.arr TS 1]), (.ret, sh 109 [(2, .bool 0)], [])] f) (funext op_L7_12_eq)
theorem L7_12_in : LsOk Try.prog 0 (lsM [(15, L7_15)] 0) (cAt Try.prog 7 12) := LsOk.many fun j B hB hk c hc hi => by
  simp only [lookM] at hB
  split at hB
  · rename_i e; have := Nat.eq_of_beq_eq_true e; subst this; cases hB
    have e1 : loopsAt (cAt Try.prog 7 12) 15 = [cAt Try.prog 7 15] := by kernel_rfl
    have e2 := loopsAt_mem hc hi
    rw [e1] at e2; cases List.mem_singleton.1 e2; exact L7_15_run
  cases hB
theorem L7_12_run : ∀ t s x, (manyRun L7_12 t s).sel = some x → CodeOk Try.prog 0 (.loop (cAt Try.prog 7 12)) t s x := by
  rw [L7_12_eqs]
  exact mkM_ok (st := st_L7_12) (m := FU) cs_19_ok hmix false (L7_12_in) (by kernel_rfl) (fun env y h => by rw [← stepMC_lk]; exact h)
theorem op_L7_12_good {p : Nat × List Dat → Prop} (Inv : List Dat → Prop) (μ : List Dat → Nat) (h : ∀ env, Inv env → Good (fun y => match y with | .go e => Inv e ∧ μ e < μ env | .stop k d => p (k, d)) (st_L7_12 env).sel) (env : List Dat) (hi : Inv env) (hm : μ env < FU) : Good p (op_L7_12 env) := by
  rw [op_L7_12_eq]
  exact iterS_good Inv μ p h FU env hi hm

noncomputable def fn_L7_12_t : List Dat → Tree Step
  | [.s s0, .n n1, .l (Ty.str) l2] =>
    (.node (decide (n1 < (↑(List.length l2) : Int)))
     (let r1 : Option (Nat × List Dat) := (op_L7_15 [.k 0, .s s0, .n n1, .n (0 : Int), .l Ty.str l2]);
      (.node (isK 0 [HK.s, HK.n, HK.l Ty.str] r1)
       (.node (inR (gn (dOf r1) 1) (List.length (gl Ty.str (dOf r1) 2)))
        (.node (strEq (List.getD (gl Ty.str (dOf r1) 2) (Int.toNat (gn (dOf r1) 1)) (Ty.dflt Ty.str)) { data := { toList := [] } })
         (.leaf (Step.stop 1 [.b false]))
         (.node (decide (ByteArray.size (gs (dOf r1) 0) + 1 ≤ 9223372036854775807))
          (.node (decide (ByteArray.size (gs (dOf r1) 0 ++ { data := { toList := [(32 : UInt8)] } }) + ByteArray.size (List.getD (gl Ty.str (dOf r1) 2) (Int.toNat (gn (dOf r1) 1)) (Ty.dflt Ty.str)) ≤ 9223372036854775807))
           (.leaf (Step.go [.k 0, .s (gs (dOf r1) 0 ++ { data := { toList := [(32 : UInt8)] } } ++ (List.getD (gl Ty.str (dOf r1) 2) (Int.toNat (gn (dOf r1) 1)) (Ty.dflt Ty.str) : ByteArray)), .n (IntKind.wrap .i64 (gn (dOf r1) 1 + (1 : Int))), .l Ty.str (gl Ty.str (dOf r1) 2)]))
           (.bad 84))
          (.bad 84)))
        (.bad 12))
       (.node (isK 1 [HK.b] r1)
        (.leaf (Step.stop 1 [.b (gb (dOf r1) 0)]))
        (.bad 351))))
     (.leaf (Step.stop 0 [.s s0, .l Ty.str l2])))
  | _ => .bad 0
theorem fn_L7_12_t_im (s0 : ByteArray) (n1 : Int) (l2 : List (Ty.den (Ty.str))) (g0 : 0 ≤ n1) : Imp (fn_L7_12_t [.s s0, .n n1, .l (Ty.str) l2]) (st_L7_12 [.k 0, .s s0, .n n1, .l TS l2]) :=
(.path [1] (by kernel_rfl)
(.node (by kernel_rfl) (by kernel_rfl) (fun h0 =>
(.node (by kernel_rfl) (by kernel_rfl) (fun h1 =>
(.node (by kernel_rfl) (by kernel_rfl) (fun h2 =>
(.node (by kernel_rfl) (by kernel_rfl) (fun h3 =>
(.path [1] (by kernel_rfl)
(.leaf (by kernel_rfl)))) (fun h3 =>
(.node (by kernel_rfl) (by kernel_rfl) (fun h4 =>
(.pt (by kernel_rfl) (by kernel_rfl) h2
(.node (by kernel_rfl) (by kernel_rfl) (fun h5 =>
(.path [1] (by kernel_rfl)
(.leaf (by kernel_rfl)))) (fun h5 =>
.none)))) (fun h4 =>
.none))))) (fun h2 =>
.none))) (fun h1 =>
(.node (by kernel_rfl) (by kernel_rfl) (fun h2 =>
(.path [1] (by kernel_rfl)
(.leaf (by kernel_rfl)))) (fun h2 =>
.none))))) (fun h0 =>
(.path [1] (by kernel_rfl)
(.leaf (by kernel_rfl))))))

theorem ls_7_ok : LsOk Try.prog (0) (lsM [(12, L7_12)] (0)) (bodyOf Try.prog 7) := LsOk.many fun j B hB hk c hc hi => by
  simp only [lookM] at hB
  split at hB
  · rename_i e; have := Nat.eq_of_beq_eq_true e; subst this; cases hB
    have e1 : loopAt Try.prog 7 12 = [cAt Try.prog 7 12] := loopAt_one (by kernel_rfl)
    have e2 : c ∈ loopAt Try.prog 7 12 := loopsAt_mem hc hi
    rw [e1] at e2; cases List.mem_singleton.1 e2; exact L7_12_run
  cases hB

noncomputable def ev_W7 (env : List Dat) : Tree Bool := Lk.lawB false LK cs_19 7 (lsM [(12, L7_12)] (0)) (instL [.str 0] env)

theorem W7_law (env : List Dat) (h : (ev_W7 env).sel = some true) {w : World} {args : Array Value} (ha : LRel R0 (snapOf w) (instL [.str 0] env) args) :
    Calls Try.prog 7 args w fun e w' => e = .returned (.bool true) ∧ Below w.heap.size w w' :=
  lawB_ok cs_19_ok hmix false (ls := (lsM [(12, L7_12)] (0))) (ls_7_ok) (by rw [← lawB_lk]; exact h) ha

noncomputable def fn_W7_t : List Dat → Tree Bool
  | [.s s0] =>
    (.node (decide ((↑(ByteArray.size s0) : Int) > (2000 : Int)))
     (.leaf (true))
     (let r1 : Option (Nat × List Dat) := (op_13 [.s s0]);
      (.node (isK 0 [HK.b] r1)
       (.node (gb (dOf r1) 0)
        (let r2 : Option (Nat × List Dat) := (op_18 [.s s0]);
         (.node (isK 0 [HK.n, HK.l Ty.str] r2)
          (.node (gn (dOf r2) 0 != (0 : Int))
           (.leaf (false))
           (.node ((↑(List.length (gl Ty.str (dOf r2) 1)) : Int) != (1 : Int))
            (.leaf (false))
            (.node (inR (0 : Int) (List.length (gl Ty.str (dOf r2) 1)))
             (.node (!strEq (List.getD (gl Ty.str (dOf r2) 1) 0 (Ty.dflt Ty.str)) s0)
              (.leaf (false))
              (let r3 : Option (Nat × List Dat) := (op_L7_12 [.k 0, .s { data := { toList := [] } }, .n (0 : Int), .l Ty.str (gl Ty.str (dOf r2) 1)]);
               (.node (isK 0 [HK.s, HK.l Ty.str] r3)
                (.node (decide (ByteArray.size (gs (dOf r3) 0) + 4 ≤ 9223372036854775807))
                 (let r4 : Option (Nat × List Dat) := (op_18 [.s (gs (dOf r3) 0 ++ { data := { toList := [(32 : UInt8), (35 : UInt8), (32 : UInt8), (120 : UInt8)] } })]);
                  (.node (isK 0 [HK.n, HK.l Ty.str] r4)
                   (.node (gn (dOf r4) 0 == (0 : Int))
                    (let r5 : Option (Nat × List Dat) := (op_16 [.l Ty.str (gl Ty.str (dOf r3) 1), .l Ty.str (gl Ty.str (dOf r4) 1)]);
                     (.node (isK 0 [HK.b] r5)
                      (.node (gb (dOf r5) 0)
                       (.leaf (true))
                       (.leaf (false)))
                      (.bad 351)))
                    (.leaf (false)))
                   (.node (isK 1 [HK.n] r4)
                    (.node (gn (dOf r4) 0 == (0 : Int))
                     (let r5 : Option (Nat × List Dat) := (op_16 [.l Ty.str (gl Ty.str (dOf r3) 1), .l Ty.str []]);
                      (.node (isK 0 [HK.b] r5)
                       (.node (gb (dOf r5) 0)
                        (.leaf (true))
                        (.leaf (false)))
                       (.bad 351)))
                     (.leaf (false)))
                    (.bad 351))))
                 (.bad 84))
                (.node (isK 1 [HK.b] r3)
                 (.leaf (gb (dOf r3) 0))
                 (.bad 351)))))
             (.bad 12))))
          (.node (isK 1 [HK.n] r2)
           (.node (gn (dOf r2) 0 != (0 : Int))
            (.leaf (false))
            (.leaf (false)))
           (.bad 351))))
        (let r2 : Option (Nat × List Dat) := (op_18 [.s s0]);
         (.node (isK 0 [HK.n, HK.l Ty.str] r2)
          (.node (gn (dOf r2) 0 != (0 : Int))
           (.node ((↑(List.length (gl Ty.str (dOf r2) 1)) : Int) == (0 : Int))
            (.leaf (true))
            (.leaf (false)))
           (let r3 : Option (Nat × List Dat) := (op_L7_12 [.k 0, .s { data := { toList := [] } }, .n (0 : Int), .l Ty.str (gl Ty.str (dOf r2) 1)]);
            (.node (isK 0 [HK.s, HK.l Ty.str] r3)
             (.node (decide (ByteArray.size (gs (dOf r3) 0) + 4 ≤ 9223372036854775807))
              (let r4 : Option (Nat × List Dat) := (op_18 [.s (gs (dOf r3) 0 ++ { data := { toList := [(32 : UInt8), (35 : UInt8), (32 : UInt8), (120 : UInt8)] } })]);
               (.node (isK 0 [HK.n, HK.l Ty.str] r4)
                (.node (gn (dOf r4) 0 == (0 : Int))
                 (let r5 : Option (Nat × List Dat) := (op_16 [.l Ty.str (gl Ty.str (dOf r3) 1), .l Ty.str (gl Ty.str (dOf r4) 1)]);
                  (.node (isK 0 [HK.b] r5)
                   (.node (gb (dOf r5) 0)
                    (.leaf (true))
                    (.leaf (false)))
                   (.bad 351)))
                 (.leaf (false)))
                (.node (isK 1 [HK.n] r4)
                 (.node (gn (dOf r4) 0 == (0 : Int))
                  (let r5 : Option (Nat × List Dat) := (op_16 [.l Ty.str (gl Ty.str (dOf r3) 1), .l Ty.str []]);
                   (.node (isK 0 [HK.b] r5)
                    (.node (gb (dOf r5) 0)
                     (.leaf (true))
                     (.leaf (false)))
                    (.bad 351)))
                  (.leaf (false)))
                 (.bad 351))))
              (.bad 84))
             (.node (isK 1 [HK.b] r3)
              (.leaf (gb (dOf r3) 0))
              (.bad 351)))))
          (.node (isK 1 [HK.n] r2)
           (.node (gn (dOf r2) 0 != (0 : Int))
            (.leaf (true))
            (.bad 330))
           (.bad 351)))))
       (.bad 351))))
  | _ => .bad 0
theorem fn_W7_t_im (s0 : ByteArray) : Imp (fn_W7_t [.s s0]) (ev_W7 [.s s0]) :=
(.node (by kernel_rfl) (by kernel_rfl) (fun h0 =>
(.path [1,1,1] (by kernel_rfl)
(.leaf (by kernel_rfl)))) (fun h0 =>
(.node (by kernel_rfl) (by kernel_rfl) (fun h1 =>
(.path [1] (by kernel_rfl)
(.node (by kernel_rfl) (by kernel_rfl) (fun h2 =>
(.node (by kernel_rfl) (by kernel_rfl) (fun h3 =>
(.path [1] (by kernel_rfl)
(.node (by kernel_rfl) (by kernel_rfl) (fun h4 =>
(.path [1,1,1,1] (by kernel_rfl)
(.leaf (by kernel_rfl)))) (fun h4 =>
(.node (by kernel_rfl) (by kernel_rfl) (fun h5 =>
(.path [1,1] (by kernel_rfl)
(.leaf (by kernel_rfl)))) (fun h5 =>
(.node (by kernel_rfl) (by kernel_rfl) (fun h6 =>
(.node (by kernel_rfl) (by kernel_rfl) (fun h7 =>
(.leaf (by kernel_rfl))) (fun h7 =>
(.pt (by kernel_rfl) (by kernel_rfl) h3
(.path [1] (by kernel_rfl)
(.pf (by kernel_rfl) (by kernel_rfl) h4
(.node (by kernel_rfl) (by kernel_rfl) (fun h8 =>
(.node (by kernel_rfl) (by kernel_rfl) (fun h9 =>
(.node (by kernel_rfl) (by kernel_rfl) (fun h10 =>
(.path [1] (by kernel_rfl)
(.node (by kernel_rfl) (by kernel_rfl) (fun h11 =>
(.node (by kernel_rfl) (by kernel_rfl) (fun h12 =>
(.path [1] (by kernel_rfl)
(.node (by kernel_rfl) (by kernel_rfl) (fun h13 =>
(.path [1,1,1] (by kernel_rfl)
(.leaf (by kernel_rfl)))) (fun h13 =>
(.path [0] (by kernel_rfl)
(.leaf (by kernel_rfl))))))) (fun h12 =>
.none))) (fun h11 =>
(.path [0,0,0] (by kernel_rfl)
(.leaf (by kernel_rfl))))))) (fun h10 =>
(.node (by kernel_rfl) (by kernel_rfl) (fun h11 =>
(.path [1] (by kernel_rfl)
(.node (by kernel_rfl) (by kernel_rfl) (fun h12 =>
(.node (by kernel_rfl) (by kernel_rfl) (fun h13 =>
(.path [1] (by kernel_rfl)
(.node (by kernel_rfl) (by kernel_rfl) (fun h14 =>
(.path [1,1,1] (by kernel_rfl)
(.leaf (by kernel_rfl)))) (fun h14 =>
(.path [0] (by kernel_rfl)
(.leaf (by kernel_rfl))))))) (fun h13 =>
.none))) (fun h12 =>
(.path [0,0,0] (by kernel_rfl)
(.leaf (by kernel_rfl))))))) (fun h11 =>
.none))))) (fun h9 =>
.none))) (fun h8 =>
(.node (by kernel_rfl) (by kernel_rfl) (fun h9 =>
(.leaf (by kernel_rfl))) (fun h9 =>
.none)))))))))) (fun h6 =>
.none)))))))) (fun h3 =>
(.node (by kernel_rfl) (by kernel_rfl) (fun h4 =>
(.path [1] (by kernel_rfl)
(.node (by kernel_rfl) (by kernel_rfl) (fun h5 =>
(.path [1,1,1,1] (by kernel_rfl)
(.leaf (by kernel_rfl)))) (fun h5 =>
(.path [1,1,1] (by kernel_rfl)
(.leaf (by kernel_rfl))))))) (fun h4 =>
.none))))) (fun h2 =>
(.node (by kernel_rfl) (by kernel_rfl) (fun h3 =>
(.path [1] (by kernel_rfl)
(.node (by kernel_rfl) (by kernel_rfl) (fun h4 =>
(.node (by kernel_rfl) (by kernel_rfl) (fun h5 =>
(.path [1,1,1] (by kernel_rfl)
(.leaf (by kernel_rfl)))) (fun h5 =>
(.path [0] (by kernel_rfl)
(.leaf (by kernel_rfl)))))) (fun h4 =>
(.node (by kernel_rfl) (by kernel_rfl) (fun h5 =>
(.node (by kernel_rfl) (by kernel_rfl) (fun h6 =>
(.node (by kernel_rfl) (by kernel_rfl) (fun h7 =>
(.path [1] (by kernel_rfl)
(.node (by kernel_rfl) (by kernel_rfl) (fun h8 =>
(.node (by kernel_rfl) (by kernel_rfl) (fun h9 =>
(.path [1] (by kernel_rfl)
(.node (by kernel_rfl) (by kernel_rfl) (fun h10 =>
(.path [1,1,1] (by kernel_rfl)
(.leaf (by kernel_rfl)))) (fun h10 =>
(.path [0] (by kernel_rfl)
(.leaf (by kernel_rfl))))))) (fun h9 =>
.none))) (fun h8 =>
(.path [0,0,0] (by kernel_rfl)
(.leaf (by kernel_rfl))))))) (fun h7 =>
(.node (by kernel_rfl) (by kernel_rfl) (fun h8 =>
(.path [1] (by kernel_rfl)
(.node (by kernel_rfl) (by kernel_rfl) (fun h9 =>
(.node (by kernel_rfl) (by kernel_rfl) (fun h10 =>
(.path [1] (by kernel_rfl)
(.node (by kernel_rfl) (by kernel_rfl) (fun h11 =>
(.path [1,1,1] (by kernel_rfl)
(.leaf (by kernel_rfl)))) (fun h11 =>
(.path [0] (by kernel_rfl)
(.leaf (by kernel_rfl))))))) (fun h10 =>
.none))) (fun h9 =>
(.path [0,0,0] (by kernel_rfl)
(.leaf (by kernel_rfl))))))) (fun h8 =>
.none))))) (fun h6 =>
.none))) (fun h5 =>
(.node (by kernel_rfl) (by kernel_rfl) (fun h6 =>
(.leaf (by kernel_rfl))) (fun h6 =>
.none)))))))) (fun h3 =>
(.node (by kernel_rfl) (by kernel_rfl) (fun h4 =>
(.path [1] (by kernel_rfl)
(.node (by kernel_rfl) (by kernel_rfl) (fun h5 =>
(.path [1,1,1,1] (by kernel_rfl)
(.leaf (by kernel_rfl)))) (fun h5 =>
.none)))) (fun h4 =>
.none)))))))) (fun h1 =>
.none))))
end Go.Proofs.Ytpkmihelefkphaa.Vx
