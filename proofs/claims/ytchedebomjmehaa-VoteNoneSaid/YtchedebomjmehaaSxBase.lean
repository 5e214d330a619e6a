/-
  Values and worlds that are the same but for where their blocks lie: a small world 's' whose blocks have plain numbers, and the true world 'w'.
-/
import Derived.WalkKit
import Derived.ProofKit
import Derived.OpenShut
import Derived.Handy
namespace Go.Proofs.Ytchedebomjmehaa.Sx
open Go.RowKit
set_option linter.unusedVariables false

/-- 'r b j n': block b of the small world lies in block j of the true one, from cell n on. -/
abbrev RR := Nat → Nat → Nat → Prop
def RR.le (r r' : RR) : Prop := ∀ b j n, r b j n → r' b j n
theorem RR.le_refl (r : RR) : r.le r := fun _ _ _ h => h
theorem RR.le_trans {a b c : RR} (h : a.le b) (k : b.le c) : a.le c := fun _ _ _ x => k _ _ _ (h _ _ _ x)

inductive AdR (r : RR) : Addr → Addr → Prop
  | mk (b j n o : Nat) (h : r b j n) : AdR r ⟨b, o, none⟩ ⟨j, o + n, none⟩

theorem AdR.mono {r r' : RR} (h : r.le r') {a a' : Addr} (x : AdR r a a') : AdR r' a a' := by
  cases x with | mk b j n o k => exact .mk b j n o (h _ _ _ k)
theorem AdR.add {r : RR} {a a' : Addr} (x : AdR r a a') (k : Nat) : AdR r (a.add k) (a'.add k) := by
  cases x with | mk b j n o h =>
    unfold Addr.add
    split
    · exact .mk b j n o h
    · have : (⟨j, o + n + k, none⟩ : Addr) = ⟨j, (o + k) + n, none⟩ := by congr 1; omega
      show AdR r ⟨b, o + k, none⟩ ⟨j, o + n + k, none⟩
      rw [this]; exact .mk b j n (o + k) h

inductive VR (r : RR) : Value → Value → Prop
  | bool (b : Bool) : VR r (.bool b) (.bool b)
  | int (k : IntKind) (n : Int) : VR r (.int k n) (.int k n)
  | string (s : ByteArray) : VR r (.string s) (.string s)
  | nilPtr : VR r (.pointer none) (.pointer none)
  | ptr (a a' : Addr) (h : AdR r a a') : VR r (.pointer (some a)) (.pointer (some a'))
  | nilSlice (l c : Nat) : VR r (.slice none l c) (.slice none l c)
  | slice (a a' : Addr) (l c : Nat) (h : AdR r a a') : VR r (.slice (some a) l c) (.slice (some a') l c)
  | nilMap : VR r (.map none) (.map none)
  | map (b j : Nat) (h : r b j 0) : VR r (.map (some b)) (.map (some j))
  | func (fn : Fn) (fs fs' cs cs' : Array Value) (h1 : fs.size = fs'.size) (h2 : ∀ (i : Nat) (v v' : Value), fs[i]? = some v → fs'[i]? = some v' → VR r v v')
      (h3 : cs.size = cs'.size) (h4 : ∀ (i : Nat) (v v' : Value), cs[i]? = some v → cs'[i]? = some v' → VR r v v') : VR r (.func fn fs cs) (.func fn fs' cs')
  | nilFunc : VR r .nilFunc .nilFunc
  | iface (t : TypeId) (v v' : Value) (h : VR r v v') : VR r (.iface t v) (.iface t v')
  | nilIface : VR r .nilIface .nilIface
  | agg (cs cs' : Array Value) (h1 : cs.size = cs'.size) (h2 : ∀ (i : Nat) (v v' : Value), cs[i]? = some v → cs'[i]? = some v' → VR r v v') : VR r (.agg cs) (.agg cs')
  | tuple (cs cs' : Array Value) (h1 : cs.size = cs'.size) (h2 : ∀ (i : Nat) (v v' : Value), cs[i]? = some v → cs'[i]? = some v' → VR r v v') : VR r (.tuple cs) (.tuple cs')

theorem VR.mono {r r' : RR} (h : r.le r') {v v' : Value} (x : VR r v v') : VR r' v v' := by
  induction x with
  | bool b => exact .bool b
  | int k n => exact .int k n
  | string s => exact .string s
  | nilPtr => exact .nilPtr
  | ptr a a' k => exact .ptr a a' (k.mono h)
  | nilSlice l c => exact .nilSlice l c
  | slice a a' l c k => exact .slice a a' l c (k.mono h)
  | nilMap => exact .nilMap
  | map b j k => exact .map b j (h _ _ _ k)
  | func fn fs fs' cs cs' h1 h2 h3 h4 i2 i4 => exact .func fn fs fs' cs cs' h1 i2 h3 i4
  | nilFunc => exact .nilFunc
  | iface t v v' k ih => exact .iface t v v' ih
  | nilIface => exact .nilIface
  | agg cs cs' h1 h2 ih => exact .agg cs cs' h1 ih
  | tuple cs cs' h1 h2 ih => exact .tuple cs cs' h1 ih

/-- Rows of values. -/
structure AR (r : RR) (cs cs' : Array Value) : Prop where
  size : cs.size = cs'.size
  at_ : ∀ (i : Nat) (v v' : Value), cs[i]? = some v → cs'[i]? = some v' → VR r v v'

theorem AR.mono {r r' : RR} (h : r.le r') {cs cs' : Array Value} (x : AR r cs cs') : AR r' cs cs' := ⟨x.size, fun i v v' a b => (x.at_ i v v' a b).mono h⟩
theorem AR.get {r : RR} {cs cs' : Array Value} (x : AR r cs cs') {i : Nat} {v : Value} (h : cs[i]? = some v) : ∃ v', cs'[i]? = some v' ∧ VR r v v' := by
  obtain ⟨hi, e⟩ := Array.getElem?_eq_some_iff.1 h
  have hi' : i < cs'.size := x.size ▸ hi
  exact ⟨cs'[i], Array.getElem?_eq_some_iff.2 ⟨hi', rfl⟩, x.at_ i _ _ h (Array.getElem?_eq_some_iff.2 ⟨hi', rfl⟩)⟩
theorem AR.none {r : RR} {cs cs' : Array Value} (x : AR r cs cs') {i : Nat} (h : cs[i]? = none) : cs'[i]? = none := by
  simp only [Array.getElem?_eq_none_iff] at *; have := x.size; omega
theorem AR.nil (r : RR) : AR r #[] #[] := ⟨rfl, fun i v v' h => by simp at h⟩
theorem VR.undef (r : RR) : VR r undef undef := .tuple _ _ rfl (fun i v v' h => by simp at h)
theorem AR.getD {r : RR} {cs cs' : Array Value} (x : AR r cs cs') (i : Nat) : VR r (cs.getD i Go.undef) (cs'.getD i Go.undef) := by
  cases h : cs[i]? with
  | none => have h' := x.none h; simp only [Array.getD_eq_getD_getElem?, h, h', Option.getD_none]; exact VR.undef r
  | some v => obtain ⟨v', h', k⟩ := x.get h; simpa only [Array.getD_eq_getD_getElem?, h, h', Option.getD_some] using k
theorem AR.push {r : RR} {cs cs' : Array Value} (x : AR r cs cs') {v v' : Value} (h : VR r v v') : AR r (cs.push v) (cs'.push v') := by
  refine ⟨by simp [x.size], fun i u u' a b => ?_⟩
  rw [Array.getElem?_push] at a b
  have := x.size
  by_cases e : i = cs.size
  · rw [if_pos e] at a; rw [if_pos (by omega)] at b; cases a; cases b; exact h
  · rw [if_neg e] at a; rw [if_neg (by omega)] at b; exact x.at_ i _ _ a b
theorem AR.set {r : RR} {cs cs' : Array Value} (x : AR r cs cs') (i : Nat) {v v' : Value} (h : VR r v v') : AR r (cs.setIfInBounds i v) (cs'.setIfInBounds i v') := by
  refine ⟨by simp [x.size], fun k u u' a b => ?_⟩
  rw [Array.getElem?_setIfInBounds] at a b
  have := x.size
  by_cases e : i = k
  · rw [if_pos e] at a b; split at a <;> split at b <;> simp_all
  · rw [if_neg e] at a b; exact x.at_ k _ _ a b
theorem AR.append {r : RR} {a a' b b' : Array Value} (x : AR r a a') (y : AR r b b') : AR r (a ++ b) (a' ++ b') := by
  refine ⟨by simp [x.size, y.size], fun k u u' p q => ?_⟩
  have := x.size
  rw [Array.getElem?_append] at p q
  by_cases e : k < a.size
  · rw [if_pos e] at p; rw [if_pos (by omega)] at q; exact x.at_ k _ _ p q
  · rw [if_neg e] at p; rw [if_neg (by omega)] at q; rw [this] at p; exact y.at_ _ _ _ p q
theorem AR.extract {r : RR} {a a' : Array Value} (x : AR r a a') (i j : Nat) : AR r (a.extract i j) (a'.extract i j) := by
  refine ⟨by simp [x.size], fun k u u' p q => ?_⟩
  have := x.size
  rw [Array.getElem?_extract] at p q
  split at p
  · rw [if_pos (by omega)] at q; exact x.at_ _ _ _ p q
  · cases p
theorem AR.replicate (r : RR) (n : Nat) {v v' : Value} (h : VR r v v') : AR r (Array.replicate n v) (Array.replicate n v') := by
  refine ⟨by simp, fun k u u' p q => ?_⟩
  simp only [Array.getElem?_replicate] at p q
  split at p <;> simp_all
theorem AR.one {r : RR} {v v' : Value} (h : VR r v v') : AR r #[v] #[v'] := (AR.nil r).push h
theorem AR.map {r : RR} {α : Type} (l : Array α) (f f' : α → Value) (h : ∀ x, x ∈ l → VR r (f x) (f' x)) : AR r (l.map f) (l.map f') := by
  refine ⟨by simp, fun k u u' p q => ?_⟩
  simp only [Array.getElem?_map] at p q
  cases e : l[k]? with
  | none => simp [e] at p
  | some x => simp [e] at p q; subst p q; exact h x (Array.mem_of_getElem? e)
theorem VR.cells {r : RR} {v v' : Value} (h : VR r v v') : AR r v.cells v'.cells := by
  cases h with
  | agg cs cs' h1 h2 => exact ⟨h1, h2⟩
  | _ => simp only [Value.cells]; apply AR.one; constructor <;> assumption

/-! ### Values without an address -/
mutual
def pf : Value → Bool
  | .bool _ | .int _ _ | .string _ | .pointer none | .slice none _ _ | .map none | .nilFunc | .nilIface => true
  | .func _ a b => pfA a && pfA b
  | .iface _ v => pf v
  | .agg cs => pfA cs
  | .tuple cs => pfA cs
  | _ => false
def pfA : Array Value → Bool
  | ⟨l⟩ => pfL l
def pfL : List Value → Bool
  | [] => true
  | v :: l => pf v && pfL l
end
theorem pfL_at : ∀ {l : List Value}, pfL l = true → ∀ (i : Nat) (v : Value), l[i]? = some v → pf v = true
  | [], _, i, v, h => by simp at h
  | x :: l, hp, i, v, h => by
    simp only [pfL, Bool.and_eq_true] at hp
    cases i with
    | zero => simp at h; subst h; exact hp.1
    | succ i => exact pfL_at hp.2 i v (by simpa using h)
theorem pfA_at {cs : Array Value} (h : pfA cs = true) (i : Nat) (v : Value) (hi : cs[i]? = some v) : pf v = true := by
  cases cs with | mk l => exact pfL_at h i v (by simpa using hi)

theorem VR.same {r : RR} {v v' : Value} (h : VR r v v') : pf v = true → v' = v := by
  have arr : ∀ {cs cs' : Array Value}, cs.size = cs'.size → pfA cs = true → (∀ (i : Nat) (v v' : Value), cs[i]? = some v → cs'[i]? = some v' → pf v = true → v' = v) → cs' = cs := by
    intro cs cs' h1 hp ih
    apply Array.ext h1.symm
    intro i hi hi'
    exact ih i cs[i] cs'[i] (Array.getElem?_eq_some_iff.2 ⟨hi', rfl⟩) (Array.getElem?_eq_some_iff.2 ⟨hi, rfl⟩) (pfA_at hp i _ (Array.getElem?_eq_some_iff.2 ⟨hi', rfl⟩))
  induction h with
  | func fn fs fs' cs cs' h1 h2 h3 h4 i2 i4 =>
    intro hp; simp only [pf, Bool.and_eq_true] at hp
    rw [arr h1 hp.1 i2, arr h3 hp.2 i4]
  | iface t v v' k ih => intro hp; rw [ih (by simpa [pf] using hp)]
  | agg cs cs' h1 h2 ih => intro hp; rw [arr h1 (by simpa [pf] using hp) ih]
  | tuple cs cs' h1 h2 ih => intro hp; rw [arr h1 (by simpa [pf] using hp) ih]
  | ptr => intro hp; simp [pf] at hp
  | slice => intro hp; simp [pf] at hp
  | map => intro hp; simp [pf] at hp
  | _ => intro _; rfl

mutual
theorem VR.refl (r : RR) : ∀ {v : Value}, pf v = true → VR r v v
  | .bool b, _ => .bool b
  | .int k n, _ => .int k n
  | .string s, _ => .string s
  | .pointer none, _ => .nilPtr
  | .slice none l c, _ => .nilSlice l c
  | .map none, _ => .nilMap
  | .nilFunc, _ => .nilFunc
  | .nilIface, _ => .nilIface
  | .func fn a b, h => by
    simp only [pf, Bool.and_eq_true] at h
    exact .func fn a a b b rfl (VR.reflA r h.1) rfl (VR.reflA r h.2)
  | .iface t v, h => .iface t v v (VR.refl r (by simpa [pf] using h))
  | .agg cs, h => .agg cs cs rfl (VR.reflA r (by simpa [pf] using h))
  | .tuple cs, h => .tuple cs cs rfl (VR.reflA r (by simpa [pf] using h))
  | .pointer (some _), h => by simp [pf] at h
  | .slice (some _) _ _, h => by simp [pf] at h
  | .map (some _), h => by simp [pf] at h
  | .chan _, h => by simp [pf] at h
  | .float _ _, h => by simp [pf] at h
  | .complex _ _ _, h => by simp [pf] at h
theorem VR.reflA (r : RR) : ∀ {cs : Array Value}, pfA cs = true → ∀ (i : Nat) (v v' : Value), cs[i]? = some v → cs[i]? = some v' → VR r v v'
  | ⟨l⟩, h, i, v, v', a, b => VR.reflL r h i v v' (by simpa using a) (by simpa using b)
theorem VR.reflL (r : RR) : ∀ {l : List Value}, pfL l = true → ∀ (i : Nat) (v v' : Value), l[i]? = some v → l[i]? = some v' → VR r v v'
  | [], _, i, v, v', a, _ => by simp at a
  | x :: l, h, i, v, v', a, b => by
    simp only [pfL, Bool.and_eq_true] at h
    cases i with
    | zero => simp at a b; subst a; subst b; exact VR.refl r h.1
    | succ i => exact VR.reflL r h.2 i v v' (by simpa using a) (by simpa using b)
end
theorem AR.refl (r : RR) {cs : Array Value} (h : pfA cs = true) : AR r cs cs := ⟨rfl, VR.reflA r h⟩
end Go.Proofs.Ytchedebomjmehaa.Sx
