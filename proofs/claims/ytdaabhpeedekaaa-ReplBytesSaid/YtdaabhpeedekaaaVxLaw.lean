import Derived.Test.YtdaabhpeedekaaaVxIm
noncomputable section
namespace Go.Proofs.Ytdaabhpeedekaaa.Vx
open Go Go.RowKit
set_option linter.unusedVariables false
/-! ### A law that is true is a box -/
theorem finish_true (s : SW) : (finish 0 [] [(.bool 0, [])] (.bool true) s).sel = some (0, [.b true]) := by
  have hl : logOk 0 [] s.log = true := by
    unfold logOk
    rw [List.all_eq_true]
    intro b _
    simp
  have hr : reFit 0 [.bool 0] [] [.bool true] s = some [.b true] := rfl
  unfold finish Tree.guard
  rw [hl]
  show (tryOuts 0 (.bool true) s [(.bool 0, [])] 0).sel = _
  unfold tryOuts
  rw [hr]
  rfl
section
variable {P : Program}
theorem lawBox_ok {cs : FuncId → Option CSpec} (hcs : CsOk P cs) (hm : P.follows .mixedOrders = true) (md : Bool) {ls : LoopF} {f : FuncId} {args : List PV} {op : List Dat → Option (Nat × List Dat)} (hls : LsOk P 0 ls (bodyOf P f))
    (h : ∀ env x, op env = some x → x = (0, [.b true]) ∧ (lawB md P cs f ls (instL args env)).sel = some true) : RunOk P f (boxRun (mkF args [] [] [(.bool 0, [])] op)) := by
  refine mkF_ok hcs hm md (blks := []) hls fun env x he => ?_
  obtain ⟨rfl, hb⟩ := h env x he
  unfold lawB at hb
  obtain ⟨⟨v, s1⟩, h1, h2⟩ := Tree.bind_some hb
  unfold boxC boxEvF
  rw [Tree.sel_bind]
  have h1' : (evBodyF md P (clMd md P cs) ls 4000 f (instL (mkF args [] [] [(.bool 0, [])] fun _ => none).args env) ⟨instBs (mkF args [] [] [(.bool 0, [])] fun _ => none).blks env, []⟩).sel = some (v, s1) := h1
  rw [h1']
  cases v <;> simp [Tree.sel] at h2
  subst h2
  exact finish_true s1
end
/-- What a law that is true answers of data of these kinds. -/
def lawOp (ks : List HK) (env : List Dat) : Option (Nat × List Dat) := bif fitsK ks env then some (0, [.b true]) else none
theorem lawOp_some {ks : List HK} {env : List Dat} {x : Nat × List Dat} (h : lawOp ks env = some x) : x = (0, [.b true]) ∧ fitsK ks env = true := by
  unfold lawOp at h
  cases e : fitsK ks env with
  | true => rw [e] at h; simp only [cond_true, Option.some.injEq] at h; exact ⟨h.symm, rfl⟩
  | false => rw [e] at h; cases h
theorem fits_nil {env : List Dat} (h : fitsK [] env = true) : env = [] := by
  cases env with
  | nil => rfl
  | cons a b => cases h
theorem fits_n {ks : List HK} {env : List Dat} (h : fitsK (.n :: ks) env = true) : ∃ n d, env = .n n :: d ∧ fitsK ks d = true := by
  cases env with
  | nil => cases h
  | cons a d => cases a <;> first | exact ⟨_, _, rfl, h⟩ | cases h
theorem fits_b {ks : List HK} {env : List Dat} (h : fitsK (.b :: ks) env = true) : ∃ n d, env = .b n :: d ∧ fitsK ks d = true := by
  cases env with
  | nil => cases h
  | cons a d => cases a <;> first | exact ⟨_, _, rfl, h⟩ | cases h
theorem fits_l {t : Ty} {ks : List HK} {env : List Dat} (h : fitsK (.l t :: ks) env = true) : ∃ (l : List t.den) (d : List Dat), env = .l t l :: d ∧ fitsK ks d = true := by
  cases env with
  | nil => cases h
  | cons a d =>
    cases a with
    | l t' l =>
      simp only [fitsK, Bool.and_eq_true, decide_eq_true_eq] at h
      obtain ⟨rfl, h⟩ := h
      exact ⟨l, d, rfl, h⟩
    | _ => cases h
/-- A loop that counts. -/
theorem iterS_count {st : List Dat → Tree Step} (e : Int → List Dat) (m : Int) (y : Nat × List Dat) (hs : ∀ n, 0 ≤ n → n < m → (st (e n)).sel = some (.go (e (n + 1)))) (hx : (st (e m)).sel = some (.stop y.1 y.2)) :
    ∀ (f : Nat) (n : Int), 0 ≤ n → n ≤ m → (m - n).toNat < f → iterS st f (e n) = some y
  | 0, n, _, _, h => by omega
  | f + 1, n, h0, h1, h => by
    unfold iterS
    by_cases c : n < m
    · rw [hs n h0 c]
      exact iterS_count e m y hs hx f (n + 1) (by omega) (by omega) (by omega)
    · have : n = m := by omega
      subst this
      rw [hx]
theorem w64s {x : Int} (h : -9223372036854775808 ≤ x) (k : x ≤ 9223372036854775807) : IntKind.wrap .i64 x = x := by rw [w64d]; omega
/-! ### For proofs that follow a tree -/
theorem qeT {x y : Int} (h : (x == y) = true) : x = y := by simpa using h
theorem qeF {x y : Int} (h : (x == y) = false) : ¬ x = y := by simpa using h
theorem qnT {x y : Int} (h : (x != y) = true) : ¬ x = y := by simpa using h
theorem qnF {x y : Int} (h : (x != y) = false) : x = y := by simpa using h
theorem good_t {α : Type} {p : α → Prop} {c : Bool} {t e : Tree α} (h : c = true) (g : Good p t.sel) : Good p (Tree.node c t e).sel := by subst h; exact g
theorem good_f {α : Type} {p : α → Prop} {c : Bool} {t e : Tree α} (h : c = false) (g : Good p e.sel) : Good p (Tree.node c t e).sel := by subst h; exact g
/-- What a law that is true under a condition answers of data of these kinds. -/
def lawOpP (ks : List HK) (p : List Dat → Bool) (env : List Dat) : Option (Nat × List Dat) := bif fitsK ks env && p env then some (0, [.b true]) else none
theorem lawOpP_some {ks : List HK} {p : List Dat → Bool} {env : List Dat} {x : Nat × List Dat} (h : lawOpP ks p env = some x) : x = (0, [.b true]) ∧ fitsK ks env = true ∧ p env = true := by
  unfold lawOpP at h
  cases e : (fitsK ks env && p env) with
  | true => rw [e] at h; simp only [cond_true, Option.some.injEq] at h; rw [Bool.and_eq_true] at e; exact ⟨h.symm, e.1, e.2⟩
  | false => rw [e] at h; cases h
end Go.Proofs.Ytdaabhpeedekaaa.Vx
