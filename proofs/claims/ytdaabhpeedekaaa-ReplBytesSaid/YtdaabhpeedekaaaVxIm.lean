import Derived.Test.YtdaabhpeedekaaaVxLook
namespace Go.Proofs.Ytdaabhpeedekaaa.Vx
open Go Go.RowKit
set_option linter.unusedVariables false
/-- Numbers of 64 bits, for omega. -/
theorem w64d (x : Int) : IntKind.wrap .i64 x = (x + 9223372036854775808) % 18446744073709551616 - 9223372036854775808 := by
  have e : IntKind.wrap .i64 x = if x % 18446744073709551616 ≥ 9223372036854775808 then x % 18446744073709551616 - 18446744073709551616 else x % 18446744073709551616 := by
    unfold IntKind.wrap
    simp [IntKind.bits, IntKind.signed]
  rw [e]
  split <;> omega
/-! ### A tree of which less is known: ways that can't be are left out -/
def Tree.th {α : Type} : Tree α → Tree α
  | .node _ t _ => t
  | x => x
def Tree.el {α : Type} : Tree α → Tree α
  | .node _ _ e => e
  | x => x
def Tree.isNode {α : Type} : Tree α → Bool
  | .node _ _ _ => true
  | _ => false
def Tree.cd {α : Type} : Tree α → Bool
  | .node c _ _ => c
  | _ => false
def Imp {α : Type} (T x : Tree α) : Prop := ∀ y, T.sel = some y → x.sel = some y
section
variable {α : Type} {T E x : Tree α} {c : Bool}
theorem Imp.none {w : Nat} : Imp (.bad w) x := fun y hy => by cases hy
theorem Imp.leaf {y : α} (h : x.sel = some y) : Imp (.leaf y) x := fun z hz => by rw [h]; exact hz
theorem Tree.node_eq (h : x.isNode = true) : x = .node x.cd x.th x.el := by cases x <;> first | rfl | cases h
theorem Imp.node (h : x.isNode = true) (e : x.cd = c) (a : c = true → Imp T x.th) (b : c = false → Imp E x.el) : Imp (.node c T E) x := fun y hy => by
  rw [Tree.node_eq h, e]
  cases c with
  | true => exact a rfl y hy
  | false => exact b rfl y hy
theorem Imp.pt (h : x.isNode = true) (e : x.cd = c) (k : c = true) (a : Imp T x.th) : Imp T x := fun y hy => by
  rw [Tree.node_eq h, e]; subst k; exact a y hy
theorem Imp.pf (h : x.isNode = true) (e : x.cd = c) (k : c = false) (a : Imp T x.el) : Imp T x := fun y hy => by
  rw [Tree.node_eq h, e]; subst k; exact a y hy
/-- Ways that are decided. -/
def Tree.okPath {α : Type} : List Nat → Tree α → Bool
  | [], _ => true
  | 0 :: l, .node c _ e => match c with
    | false => e.okPath l
    | true => false
  | (_ + 1) :: l, .node c t _ => match c with
    | true => t.okPath l
    | false => false
  | _ :: _, _ => false
def Tree.walk {α : Type} : List Nat → Tree α → Tree α
  | [], x => x
  | 0 :: l, x => Tree.walk l x.el
  | (_ + 1) :: l, x => Tree.walk l x.th
theorem Tree.walk_sel {α : Type} : ∀ (l : List Nat) (x : Tree α), x.okPath l = true → (x.walk l).sel = x.sel
  | [], x, _ => rfl
  | 0 :: l, x, h => by
    cases x with
    | node c t e => cases c with
      | true => cases h
      | false => exact Tree.walk_sel l e h
    | _ => cases h
  | (_ + 1) :: l, x, h => by
    cases x with
    | node c t e => cases c with
      | true => exact Tree.walk_sel l t h
      | false => cases h
    | _ => cases h
theorem Imp.path {α : Type} {T x : Tree α} (l : List Nat) (h : x.okPath l = true) (a : Imp T (x.walk l)) : Imp T x := fun y hy => by
  rw [← Tree.walk_sel l x h]; exact a y hy
theorem Imp.to {x' : Tree α} (h : Imp T x) (e : x = x') : Imp T x' := e ▸ h
end
/-! ### What holds of an answer -/
def Good {α : Type} (p : α → Prop) (o : Option α) : Prop := ∃ y, o = some y ∧ p y
theorem good_node {α : Type} {p : α → Prop} {c : Bool} {t e : Tree α} (a : c = true → Good p t.sel) (b : c = false → Good p e.sel) : Good p (Tree.node c t e).sel := by
  cases c with
  | true => exact a rfl
  | false => exact b rfl
theorem good_leaf {α : Type} {p : α → Prop} {y : α} (h : p y) : Good p (Tree.leaf y).sel := ⟨y, rfl, h⟩
theorem Imp.good {α : Type} {p : α → Prop} {T x : Tree α} (h : Imp T x) (g : Good p T.sel) : Good p x.sel := by
  obtain ⟨y, e, hy⟩ := g
  exact ⟨y, h y e, hy⟩
/-- A loop keeps what its rounds keep. -/
theorem iterS_good {st : List Dat → Tree Step} (Inv : List Dat → Prop) (μ : List Dat → Nat) (Post : Nat × List Dat → Prop)
    (h : ∀ env, Inv env → Good (fun y => match y with | .go e => Inv e ∧ μ e < μ env | .stop k d => Post (k, d)) (st env).sel) :
    ∀ (n : Nat) (env : List Dat), Inv env → μ env < n → Good Post (iterS st n env)
  | 0, env, _, hn => by omega
  | n + 1, env, hi, hn => by
    obtain ⟨y, e, g⟩ := h env hi
    unfold iterS
    rw [e]
    cases y with
    | go e' => exact iterS_good Inv μ Post h n e' g.1 (by have := g.2; omega)
    | stop k d => exact ⟨_, rfl, g⟩
end Go.Proofs.Ytdaabhpeedekaaa.Vx
