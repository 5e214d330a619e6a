import Derived.Test.YtllnopodflajaaaY09c
import Derived.Test.YtllnopodflajaaaVxLoop
namespace Go.Proofs.Ytllnopodflajaaa.Vx
open Go Go.RowKit
set_option linter.unusedVariables false
set_option linter.unusedSimpArgs false
set_option maxRecDepth 100000
/-! ### Powers, masks -/
theorem pow_le {i j : Nat} (h : i ≤ j) : (2 : Nat) ^ i ≤ 2 ^ j := Nat.pow_le_pow_right (by omega) h
theorem u53 (k : Nat) (hk : k ≤ 63) : op_53 [.n (k : Int)] = some (0, [.n ((2 ^ k : Nat) : Int)]) := by
  have e : op_L53_3 [.n (k : Int), .n ((2 ^ 0 : Nat) : Int), .n ((0 : Nat) : Int)] = some (0, [.n ((2 ^ k : Nat) : Int)]) := by
    refine iter_count (st := fn_L53_3) (fun i => [.n (k : Int), .n ((2 ^ i : Nat) : Int), .n (i : Int)]) k (0, [.n ((2 ^ k : Nat) : Int)]) ?_ ?_ FU (lt_FU (by omega))
    · intro i hi
      simp only [fn_L53_3]
      refine (selT (dt (by omega))).trans ?_
      have e0 : IntKind.wrap .i64 ((i : Int) + 1) = ((i + 1 : Nat) : Int) := by rw [w64 (by omega) (by omega)]; omega
      have hp : (2 : Nat) ^ (i + 1) ≤ 2 ^ 63 := pow_le (by omega)
      have hp2 : (2 : Nat) ^ (i + 1) = 2 ^ i * 2 := Nat.pow_succ 2 i
      have e1 : IntKind.wrap .u64 (((2 ^ i : Nat) : Int) * 2) = ((2 ^ (i + 1) : Nat) : Int) := by
        rw [IntWalk.u64_in _ ⟨by omega, by omega⟩]; omega
      rw [e0, e1]; rfl
    · simp only [fn_L53_3]
      exact selF (df (Int.lt_irrefl _))
  show (fn_53 [.n (k : Int)]).sel = _
  simp only [fn_53]
  rw [show op_L53_3 [.n (k : Int), .n 1, .n 0] = _ from e]
  rfl
def mk (k : Nat) : Int := ((2 ^ k - 1 : Nat) : Int)
theorem u16 (k : Nat) (hk : k ≤ 63) : op_16 [.n (mk k), .n (k : Int)] = some (0, [.b false]) := by
  show (fn_16 [.n (mk k), .n (k : Int)]).sel = _
  simp only [fn_16]
  have hp : 0 < 2 ^ k := Nat.two_pow_pos k
  refine (selT (dt (by omega))).trans ((selT (dt (by omega))).trans ?_)
  rw [u53 k hk]
  refine (selT rfl).trans ((selT (nf (df (by simp only [dOf_some, gn0]; omega)))).trans ?_)
  have : Int.tdiv (mk k) ((2 ^ k : Nat) : Int) = 0 := by
    unfold mk
    show (((2 ^ k - 1) / 2 ^ k : Nat) : Int) = 0
    rw [Nat.div_eq_of_lt (by omega)]; rfl
  simp only [dOf_some, gn0, this]
  rfl
theorem u18 (k : Nat) (hk : k ≤ 63) : op_18 [.n (mk k), .n (k : Int)] = some (0, [.n (mk (k + 1))]) := by
  show (fn_18 [.n (mk k), .n (k : Int)]).sel = _
  simp only [fn_18]
  have hp : 0 < 2 ^ k := Nat.two_pow_pos k
  have hp1 : (2 : Nat) ^ k ≤ 2 ^ 63 := pow_le hk
  have hp2 : (2 : Nat) ^ (k + 1) = 2 ^ k * 2 := Nat.pow_succ 2 k
  refine (selF (df (by omega))).trans ((selF (df (by omega))).trans ?_)
  rw [u16 k hk, u53 k hk]
  refine (selT rfl).trans ((selF rfl).trans ((selT rfl).trans ?_))
  have : IntKind.wrap .u64 (mk k + ((2 ^ k : Nat) : Int)) = mk (k + 1) := by
    unfold mk
    rw [IntWalk.u64_in _ ⟨by omega, by omega⟩]; omega
  simp only [dOf_some, gn0, this, Tree.sel]
theorem u25 (n : Nat) (hn : n ≤ 9223372036854775807) : op_25 [.n (n : Int)] = some (0, [.n (mk (min n 64))]) := by
  have e : op_L25_3 [.n (n : Int), .n (mk 0), .n ((0 : Nat) : Int)] = some (0, [.n (mk (min n 64))]) := by
    refine iter_count (st := fn_L25_3) (fun i => [.n (n : Int), .n (mk i), .n (i : Int)]) (min n 64) (0, [.n (mk (min n 64))]) ?_ ?_ FU (lt_FU (by omega))
    · intro i hi
      simp only [fn_L25_3]
      have h64 : i < 64 := by omega
      have hin : i < n := by omega
      refine (selT (dt (show (i : Int) < (n : Int) by omega))).trans ((selT (dt (show (i : Int) < 64 by omega))).trans ?_)
      have e0 : IntKind.wrap .i64 ((i : Int) + 1) = ((i + 1 : Nat) : Int) := by rw [w64 (by omega) (by omega)]; omega
      rw [u18 i (by omega), e0]
      rfl
    · simp only [fn_L25_3]
      by_cases h : n < 64
      · exact selF (df (show ¬ ((min n 64 : Nat) : Int) < (n : Int) by omega))
      · by_cases h2 : n = 64
        · exact selF (df (show ¬ ((min n 64 : Nat) : Int) < (n : Int) by omega))
        · exact (selT (dt (show ((min n 64 : Nat) : Int) < (n : Int) by omega))).trans (selF (df (show ¬ ((min n 64 : Nat) : Int) < 64 by omega)))
  show (fn_25 [.n (n : Int)]).sel = _
  simp only [fn_25]
  rw [show op_L25_3 [.n (n : Int), .n 0, .n 0] = _ from e]
  rfl
/-! ### Commands -/
def targ (k p r : Int) : Int := if k = 1 ∨ k = 2 then r else if k = 3 then p else 0
theorem u63 (k p r : Int) : op_63 [.n k, .n p, .n r] = some (0, [.n (targ k p r)]) := by
  show (fn_63 [.n k, .n p, .n r]).sel = _
  simp only [fn_63]
  unfold targ
  by_cases h1 : k = 1
  · subst h1; rfl
  by_cases h2 : k = 2
  · subst h2; rfl
  refine (selF (bf h1)).trans ((selF (bf h2)).trans ?_)
  rw [if_neg (fun h => h.elim h1 h2)]
  by_cases h3 : k = 3
  · subst h3; rfl
  · rw [if_neg h3]; exact selF (bf h3)
def okC (p r : Int) (c : Ty.den TCmd) : Bool := decide (0 ≤ (Prod.snd c : Int)) && decide ((Prod.snd c : Int) < targ (Prod.fst c : Int) p r)
def badAt (p r : Int) (l : LC) (i : Nat) : Bool := !okC p r (l.getD i (Ty.dflt TCmd))
def allA (x : Option Nat) : Nat × List Dat := match x with
  | some _ => (1, [.b false])
  | none => (0, [])
theorem u33L (p r : Int) (l : LC) (hl : l.length ≤ 9223372036854775807) : op_L33_5 [.n p, .n r, .l TCmd l, .n (l.length : Int), .n ((0 : Nat) : Int)] = some (allA (firstHit (badAt p r l) l.length)) := by
  have := iter_find (st := fn_L33_5) (fun i => [.n p, .n r, .l TCmd l, .n (l.length : Int), .n (i : Int)]) l.length (badAt p r l) (fun _ => (1, [.b false])) (0, []) ?_ ?_ ?_ FU (lt_FU hl)
  · refine this.trans ?_
    cases firstHit (badAt p r l) l.length <;> rfl
  · intro i hi hh
    have e0 : IntKind.wrap .i64 ((i : Int) + 1) = ((i + 1 : Nat) : Int) := by rw [w64 (by omega) (by omega)]; omega
    unfold badAt okC at hh
    simp only [Bool.not_eq_false', Bool.and_eq_true, decide_eq_true_eq] at hh
    refine (selT (dt (show (i : Int) < (l.length : Int) by omega))).trans ((selT (inR_true (by omega) (by omega))).trans ((selF (df (by have := hh.1; exact Int.not_lt.2 this))).trans ((selT (congrArg (isK 0 [HK.n]) (u63 _ _ _))).trans ((selF (df ?_)).trans ?_))))
    · have e := congrArg (fun q => gn (dOf q) 0) (u63 (Prod.fst (l.getD i (Ty.dflt TCmd))) p r)
      have e : gn (dOf (op_63 [.n (Prod.fst (l.getD i (Ty.dflt TCmd)) : Int), .n p, .n r])) 0 = targ (Prod.fst (l.getD i (Ty.dflt TCmd)) : Int) p r := e
      intro h
      have h : (Prod.snd (l.getD i (Ty.dflt TCmd)) : Int) ≥ gn (dOf (op_63 [.n (Prod.fst (l.getD i (Ty.dflt TCmd)) : Int), .n p, .n r])) 0 := h
      rw [e] at h
      exact absurd hh.2 (Int.not_lt.2 h)
    · exact congrArg (fun z => some (Step.go [.n p, .n r, .l TCmd l, .n (l.length : Int), .n z])) e0
  · intro i hi hh
    unfold badAt okC at hh
    refine (selT (dt (show (i : Int) < (l.length : Int) by omega))).trans ((selT (inR_true (by omega) (by omega))).trans ?_)
    by_cases h0 : (Prod.snd (l.getD i (Ty.dflt TCmd)) : Int) < 0
    · exact selT (dt h0)
    · refine (selF (df h0)).trans ((selT (congrArg (isK 0 [HK.n]) (u63 _ _ _))).trans (selT (dt ?_)))
      have e : gn (dOf (op_63 [.n (Prod.fst (l.getD i (Ty.dflt TCmd)) : Int), .n p, .n r])) 0 = targ (Prod.fst (l.getD i (Ty.dflt TCmd)) : Int) p r := congrArg (fun q => gn (dOf q) 0) (u63 (Prod.fst (l.getD i (Ty.dflt TCmd))) p r)
      show (Prod.snd (l.getD i (Ty.dflt TCmd)) : Int) ≥ gn (dOf (op_63 [.n (Prod.fst (l.getD i (Ty.dflt TCmd)) : Int), .n p, .n r])) 0
      rw [e]
      rw [dt (Int.not_lt.1 h0)] at hh
      simpa using hh
  · exact selF (df (Int.lt_irrefl _))
theorem u34L (s : List ByteArray) (ps sg : List (Ty.den TPt)) (rs : List (Ty.den TRt)) (n5 n6 n7 : Int) (l : LC) (hl : l.length ≤ 9223372036854775807) :
    op_L34_7 [.n ((0 : Nat) : Int), .l .str s, .l TPt ps, .l TPt sg, .l TRt rs, .n n5, .n n6, .n n7, .l TCmd l] = some (allA (firstHit (badAt (imin (ps.length : Int) 32) (imin (rs.length : Int) 64) l) l.length)) := by
  have step : ∀ i, i < l.length → (fn_L34_7 [.n (i : Int), .l .str s, .l TPt ps, .l TPt sg, .l TRt rs, .n n5, .n n6, .n n7, .l TCmd l]).sel = bif badAt (imin (ps.length : Int) 32) (imin (rs.length : Int) 64) l i then some (.stop 1 [.b false]) else some (.go [.n ((i + 1 : Nat) : Int), .l .str s, .l TPt ps, .l TPt sg, .l TRt rs, .n n5, .n n6, .n n7, .l TCmd l]) := by
    intro i hi
    have e0 : IntKind.wrap .i64 ((i : Int) + 1) = ((i + 1 : Nat) : Int) := by rw [w64 (by omega) (by omega)]; omega
    refine (selT (dt (show (i : Int) < (l.length : Int) by omega))).trans ((selT (inR_true (by omega) (by omega))).trans ?_)
    unfold badAt okC targ
    show (Tree.node ((Prod.fst (l.getD i (Ty.dflt TCmd)) : Int) == 3) _ _).sel = _
    generalize hk : (Prod.fst (l.getD i (Ty.dflt TCmd)) : Int) = k
    have hgo : some (Step.go [.n (IntKind.wrap .i64 ((i : Int) + 1)), .l .str s, .l TPt ps, .l TPt sg, .l TRt rs, .n n5, .n n6, .n n7, .l TCmd l]) = some (Step.go [.n ((i + 1 : Nat) : Int), .l .str s, .l TPt ps, .l TPt sg, .l TRt rs, .n n5, .n n6, .n n7, .l TCmd l]) := by rw [e0]
    by_cases h3 : k = 3
    · subst h3
      refine (selT rfl).trans ?_
      refine (selF (df (by show ¬ (Prod.fst (l.getD i (Ty.dflt TCmd)) : Int) < 1; omega))).trans ((selF (df (by show ¬ (Prod.fst (l.getD i (Ty.dflt TCmd)) : Int) > 3; omega))).trans ?_)
      rw [if_neg (by omega), if_pos rfl]
      by_cases h0 : (Prod.snd (l.getD i (Ty.dflt TCmd)) : Int) < 0
      · refine (selT (dt h0)).trans ?_
        rw [df (Int.not_le.2 h0)]; rfl
      · refine (selF (df h0)).trans ?_
        rw [dt (Int.not_lt.1 h0)]
        by_cases h1 : (Prod.snd (l.getD i (Ty.dflt TCmd)) : Int) ≥ imin (ps.length : Int) 32
        · refine (selT (dt h1)).trans ?_
          rw [df (Int.not_lt.2 h1)]; rfl
        · refine (selF (df h1)).trans ?_
          rw [dt (Int.not_le.1 h1)]; exact hgo
    · refine (selF (bf h3)).trans ?_
      by_cases hlo : k < 1
      · refine (selT (dt (by show (Prod.fst (l.getD i (Ty.dflt TCmd)) : Int) < 1; omega))).trans ?_
        rw [if_neg (by omega), if_neg h3]
        by_cases h0 : (Prod.snd (l.getD i (Ty.dflt TCmd)) : Int) < 0
        · rw [df (Int.not_le.2 h0)]; rfl
        · rw [df h0, Bool.and_false]; rfl
      refine (selF (df (by show ¬ (Prod.fst (l.getD i (Ty.dflt TCmd)) : Int) < 1; omega))).trans ?_
      by_cases hhi : k > 3
      · refine (selT (dt (by show (Prod.fst (l.getD i (Ty.dflt TCmd)) : Int) > 3; omega))).trans ?_
        rw [if_neg (by omega), if_neg h3]
        by_cases h0 : (Prod.snd (l.getD i (Ty.dflt TCmd)) : Int) < 0
        · rw [df (Int.not_le.2 h0)]; rfl
        · rw [df h0, Bool.and_false]; rfl
      refine (selF (df (by show ¬ (Prod.fst (l.getD i (Ty.dflt TCmd)) : Int) > 3; omega))).trans ?_
      rw [if_pos (by omega)]
      by_cases h0 : (Prod.snd (l.getD i (Ty.dflt TCmd)) : Int) < 0
      · refine (selT (dt h0)).trans ?_
        rw [df (Int.not_le.2 h0)]; rfl
      · refine (selF (df h0)).trans ?_
        rw [dt (Int.not_lt.1 h0)]
        by_cases h1 : (Prod.snd (l.getD i (Ty.dflt TCmd)) : Int) ≥ imin (rs.length : Int) 64
        · refine (selT (dt h1)).trans ?_
          rw [df (Int.not_lt.2 h1)]; rfl
        · refine (selF (df h1)).trans ?_
          rw [dt (Int.not_le.1 h1)]; exact hgo
  have := iter_find (st := fn_L34_7) (fun i => [.n (i : Int), .l .str s, .l TPt ps, .l TPt sg, .l TRt rs, .n n5, .n n6, .n n7, .l TCmd l]) l.length (badAt (imin (ps.length : Int) 32) (imin (rs.length : Int) 64) l) (fun _ => (1, [.b false])) (0, []) ?_ ?_ ?_ FU (lt_FU hl)
  · refine this.trans ?_
    cases firstHit (badAt (imin (ps.length : Int) 32) (imin (rs.length : Int) 64) l) l.length <;> rfl
  · intro i hi hh; rw [step i hi, hh]; rfl
  · intro i hi hh; rw [step i hi, hh]; rfl
  · exact selF (df (Int.lt_irrefl _))
end Go.Proofs.Ytllnopodflajaaa.Vx
