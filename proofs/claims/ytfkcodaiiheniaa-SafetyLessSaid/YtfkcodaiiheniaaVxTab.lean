import Derived.Test.YtfkcodaiiheniaaVxFast
import Derived.Test.YtfkcodaiiheniaaVxLift
noncomputable section
namespace Go.Proofs.Ytfkcodaiiheniaa.Vx
open Go Go.RowKit
set_option linter.unusedVariables false
def CsOk (P : Program) (cs : FuncId → Option CSpec) : Prop := ∀ f g, cs f = some g → SpecOk P f g
def csNone : FuncId → Option CSpec := fun _ => none
theorem csNone_ok (P : Program) : CsOk P csNone := fun f g h => by cases h
def tryB : List FBox → CSpec
 | [], _, _ => .bad 340
 | B :: l, args, s => match fitS B.args B.blks args s with
  | some _ => boxRun B args s
  | none => tryB l args s
def csAdd (f : FuncId) (l : List FBox) (cs : FuncId → Option CSpec) : FuncId → Option CSpec := fun g => match Nat.beq g f with
 | true => some (callVia (tryB l))
 | false => cs g
def noLoops : FuncId → Nat → LoopF := fun _ _ _ _ _ => none
def clMd (md : Bool) (P : Program) (cs : FuncId → Option CSpec) : CallF := callFF md P cs noLoops 40 4000
def boxEvF (md : Bool) (P : Program) (cl : CallF) (ls : LoopF) (n : Nat) (f : FuncId) (B : FBox) (env : List Dat) : Tree (Nat × List Dat) :=
 (evBodyF md P cl ls n f (instL B.args env) ⟨instBs B.blks env, []⟩).bind fun x => finish B.blks.length B.log B.outs x.1 x.2
theorem boxEvF_eq (md : Bool) (P : Program) (cl : CallF) (ls : LoopF) (n : Nat) (f : FuncId) (B : FBox) (env : List Dat) : boxEvF md P cl ls n f B env = boxEv P cl ls n f B env := by
 unfold boxEvF boxEv; rw [evBodyF_eq]
def loopAt (P : Program) (f : FuncId) (i : Nat) : List Code := (loopsOf (bodyOf P f)).filter fun c => match loopId c with
 | some k => Nat.beq k i
 | none => false
def cAt (P : Program) (f : FuncId) (i : Nat) : Code := match loopAt P f i with
 | c :: _ => c
 | [] => .skip
def ls0 : LoopF := fun _ _ _ => none
def boxC (md : Bool) (P : Program) (cs : FuncId → Option CSpec) (f : Nat) (ls : LoopF) (B : FBox) (env : List Dat) : Tree (Nat × List Dat) := boxEvF md P (clMd md P cs) ls 4000 f B env
def lawC (md : Bool) (P : Program) (cs : FuncId → Option CSpec) (f : Nat) (ls : LoopF) (args : List SV) : Tree (SV × SW) := evBodyF md P (clMd md P cs) ls 4000 f args ⟨[], []⟩
def lawB (md : Bool) (P : Program) (cs : FuncId → Option CSpec) (f : Nat) (ls : LoopF) (args : List SV) : Tree Bool := (lawC md P cs f ls args).bind fun x => match x.1 with
 | .bool b => .leaf b
 | _ => .bad 400
section
variable {P : Program}
theorem tryB_ok {f : FuncId} : ∀ {l : List FBox}, (∀ B ∈ l, RunOk P f (boxRun B)) → RunOk P f (tryB l)
 | [], _ => fun args s v s1 h => by simp [tryB, Tree.sel] at h
 | B :: l, hl => fun args s v s1 h => by
  unfold tryB at h
  split at h
  ·exact hl B List.mem_cons_self args s v s1 h
  ·exact tryB_ok (fun B hB => hl B (List.mem_cons_of_mem _ hB)) args s v s1 h
theorem csAdd_ok {f : FuncId} {l : List FBox} {cs : FuncId → Option CSpec} (hcs : CsOk P cs) (hl : ∀ B ∈ l, RunOk P f (boxRun B)) : CsOk P (csAdd f l cs) := by
 intro g s h
 unfold csAdd at h
 split at h
 ·rename_i e
  cases h
  have := Nat.eq_of_beq_eq_true e
  subst this
  exact callVia_ok (tryB_ok hl)
 ·exact hcs g s h
theorem clMd_ok {cs : FuncId → Option CSpec} (hcs : CsOk P cs) (hm : P.follows .mixedOrders = true) (md : Bool) : ClOk P (clMd md P cs) := by
 unfold clMd
 rw [callFF_eq]
 exact callF_ok hcs hm (fun f K h => LsOk.none P K _) 40 4000
theorem box_ok {cs : FuncId → Option CSpec} (hcs : CsOk P cs) (hm : P.follows .mixedOrders = true) {ls : LoopF} {n : Nat} {f : FuncId} {B : FBox} {md md' : Bool} (hls : LsOk P B.blks.length ls (bodyOf P f))
  (hB : ∀ env x, (B.fn env).sel = some x → (boxEvF md P (clMd md' P cs) ls n f B env).sel = some x) : RunOk P f (boxRun B) :=
 boxRun_ok (clMd_ok hcs hm md') hm hls fun env x h => by rw [← boxEvF_eq md]; exact hB env x h
theorem LsOk.tab {f : FuncId} {K : Nat} {tab : List (Nat × LBox)} (h : ∀ i B, lookB tab i = some B → B.K = K → ∀ c ∈ loopAt P f i, ∀ t s x, (loopRun B t s).sel = some x → CodeOk P B.K (.loop c) t s x) : LsOk P K (lsTab tab K) (bodyOf P f) := by
 refine lsTab_ok fun c hc i B hi hB hk => h i B hB hk c ?_
 unfold loopAt
 rw [List.mem_filter]
 exact ⟨hc, by rw [hi]; simp⟩
theorem law_ok {cs : FuncId → Option CSpec} (hcs : CsOk P cs) (hm : P.follows .mixedOrders = true) {ls : LoopF} {n : Nat} {f : FuncId} {md md' : Bool} (hls : LsOk P 0 ls (bodyOf P f)) {args : List SV} {s1 : SW}
  (h : (evBodyF md P (clMd md' P cs) ls n f args ⟨[], []⟩).sel = some (.bool true, s1)) {w : World} {args' : Array Value} (ha : LRel R0 (snapOf w) args args') :
  Calls P f args' w fun e w' => e = .returned (.bool true) ∧ Below w.heap.size w w' :=
 law_calls (clMd_ok hcs hm md') hm hls (by rw [← evBodyF_eq md]; exact h) ha
theorem boxC_ok {cs : FuncId → Option CSpec} (hcs : CsOk P cs) (hm : P.follows .mixedOrders = true) (md : Bool) {ls : LoopF} {f : FuncId} {B : FBox} (hls : LsOk P B.blks.length ls (bodyOf P f))
  (hB : ∀ env x, (B.fn env).sel = some x → (boxC md P cs f ls B env).sel = some x) : RunOk P f (boxRun B) := box_ok hcs hm (md := md) (md' := md) hls hB
theorem lawB_ok {cs : FuncId → Option CSpec} (hcs : CsOk P cs) (hm : P.follows .mixedOrders = true) (md : Bool) {ls : LoopF} {f : FuncId} (hls : LsOk P 0 ls (bodyOf P f)) {args : List SV}
  (h : (lawB md P cs f ls args).sel = some true) {w : World} {args' : Array Value} (ha : LRel R0 (snapOf w) args args') :
  Calls P f args' w fun e w' => e = .returned (.bool true) ∧ Below w.heap.size w w' := by
 unfold lawB at h
 obtain ⟨⟨v, s1⟩, h1, h2⟩ := Tree.bind_some h
 cases v <;> simp [Tree.sel] at h2
 subst h2
 exact law_ok hcs hm (md := md) (md' := md) hls h1 ha
end
end Go.Proofs.Ytfkcodaiiheniaa.Vx
