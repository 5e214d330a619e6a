/-
  No cell of these rows narrows 'for every input' (looked for: loops, veiled, ifaces, maps, wideKeys, modest, calm, conditions, laid).
  DERIVED. THE GIVEN ROWS OF THIS SEAT. 12 by the template 'for every input the law returns true; each argument reads behind the call as it read before'; 0 by the template 'total and deterministic' (their statements: YtllnopodflajaaaTotals.lean).
  GIVEN WITH THE SEED: the statements are not yours to turn. If you find one false, say at which input.
  Laid BY PROGRAM, IN A SANDBOX (cutbox-rows.mjs): the forced cells as the released guide's own fill.sh prints them over the translation adf4d17807338bf1… (all of the seat's roots in one cut). By AI agents, Wed Nov 11 2026. No macro, syntax, notation, axiom, sorry.
-/
import Derived.Test.YtllnopodflajaaaChecked
import GoSem.Claim
import GoSem.ClaimJoined
import GoSem.ClaimMapViews
import Derived.JoinedTies
import Derived.KernelRfl
namespace Go.Proofs.Ytllnopodflajaaa
/- THE CELL 'sum', in the pinned program and in every row, IS THE sha256 OF THE DUMP (.gsa) THAT YtllnopodflajaaaProg.lean LOADS. Nothing in Lean hashes anything: it is a label: what it is worth is what the hold of that sum in a sandbox is worth. -/
noncomputable def Try.pinned : Pinned := { name := "ytllnopodflajaaa", sum := "adf4d17807338bf17432eb4bfa13be4d8ec93860e2e954ad88c4ffb7f71ea1a2", checked := Try.checked }
namespace Rows
def none {H : Type} : Left H := { results := [], args := [] }

/-- 'semaphorelaw07.BitsOne': WHATEVER THE INPUT: true; the input reads as it did. -/
def bitsOneSpec : ChangeSpec := { name := "bitsOne", fn := fun _ => fun
  | [d1, d2] => { results := [.lit (.bool true)], args := [d1, d2] }
  | _ => none }
def bitsOneRow : OpenClaim := { program := "ytllnopodflajaaa", sum := "adf4d17807338bf17432eb4bfa13be4d8ec93860e2e954ad88c4ffb7f71ea1a2", func := "semaphore/semaphorelaw07.BitsOne", spec := "bitsOne", unfollowed := true, recurses := true, apart := false }
def BitsOneSaid : Prop := bitsOneRow.holds Try.pinned (OpenSpec.ofChange bitsOneSpec)

/-- ITS FALSE NEIGHBOUR: 'it returns false'. Refute it at one input. -/
def bitsOneWrong : ChangeSpec := { name := "bitsOne", fn := fun _ => fun
  | [d1, d2] => { results := [.lit (.bool false)], args := [d1, d2] }
  | _ => none }
def BitsOneWrongFalsely : Prop := bitsOneRow.holds Try.pinned (OpenSpec.ofChange bitsOneWrong)

/-- 'semaphorelaw07.BitsOf': WHATEVER THE INPUT: true; the input reads as it did. -/
def bitsOfSpec : ChangeSpec := { name := "bitsOf", fn := fun _ => fun
  | [d] => { results := [.lit (.bool true)], args := [d] }
  | _ => none }
def bitsOfRow : OpenClaim := { program := "ytllnopodflajaaa", sum := "adf4d17807338bf17432eb4bfa13be4d8ec93860e2e954ad88c4ffb7f71ea1a2", func := "semaphore/semaphorelaw07.BitsOf", spec := "bitsOf", unfollowed := true, recurses := true, apart := false }
def BitsOfSaid : Prop := bitsOfRow.holds Try.pinned (OpenSpec.ofChange bitsOfSpec)

/-- ITS FALSE NEIGHBOUR: 'it returns false'. Refute it at one input. -/
def bitsOfWrong : ChangeSpec := { name := "bitsOf", fn := fun _ => fun
  | [d] => { results := [.lit (.bool false)], args := [d] }
  | _ => none }
def BitsOfWrongFalsely : Prop := bitsOfRow.holds Try.pinned (OpenSpec.ofChange bitsOfWrong)

/-- 'semaphorelaw07.BitsFirst': WHATEVER THE INPUT: true; the input reads as it did. -/
def bitsFirstSpec : ChangeSpec := { name := "bitsFirst", fn := fun _ => fun
  | [d] => { results := [.lit (.bool true)], args := [d] }
  | _ => none }
def bitsFirstRow : OpenClaim := { program := "ytllnopodflajaaa", sum := "adf4d17807338bf17432eb4bfa13be4d8ec93860e2e954ad88c4ffb7f71ea1a2", func := "semaphore/semaphorelaw07.BitsFirst", spec := "bitsFirst", unfollowed := true, recurses := true, apart := false }
def BitsFirstSaid : Prop := bitsFirstRow.holds Try.pinned (OpenSpec.ofChange bitsFirstSpec)

/-- ITS FALSE NEIGHBOUR: 'it returns false'. Refute it at one input. -/
def bitsFirstWrong : ChangeSpec := { name := "bitsFirst", fn := fun _ => fun
  | [d] => { results := [.lit (.bool false)], args := [d] }
  | _ => none }
def BitsFirstWrongFalsely : Prop := bitsFirstRow.holds Try.pinned (OpenSpec.ofChange bitsFirstWrong)

/-- 'semaphorelaw09.InputsSides': WHATEVER THE INPUT: true; the input reads as it did. -/
def inputsSidesSpec : ChangeSpec := { name := "inputsSides", fn := fun _ => fun
  | [d1, d2] => { results := [.lit (.bool true)], args := [d1, d2] }
  | _ => none }
def inputsSidesRow : OpenClaim := { program := "ytllnopodflajaaa", sum := "adf4d17807338bf17432eb4bfa13be4d8ec93860e2e954ad88c4ffb7f71ea1a2", func := "semaphore/semaphorelaw09.InputsSides", spec := "inputsSides", apart := false }
def InputsSidesSaid : Prop := inputsSidesRow.holds Try.pinned (OpenSpec.ofChange inputsSidesSpec)

/-- ITS FALSE NEIGHBOUR: 'it returns false'. Refute it at one input. -/
def inputsSidesWrong : ChangeSpec := { name := "inputsSides", fn := fun _ => fun
  | [d1, d2] => { results := [.lit (.bool false)], args := [d1, d2] }
  | _ => none }
def InputsSidesWrongFalsely : Prop := inputsSidesRow.holds Try.pinned (OpenSpec.ofChange inputsSidesWrong)

/-- 'semaphorelaw09.InputsSame': WHATEVER THE INPUT: true; the input reads as it did. -/
def inputsSameSpec : ChangeSpec := { name := "inputsSame", fn := fun _ => fun
  | [d1, d2] => { results := [.lit (.bool true)], args := [d1, d2] }
  | _ => none }
def inputsSameRow : OpenClaim := { program := "ytllnopodflajaaa", sum := "adf4d17807338bf17432eb4bfa13be4d8ec93860e2e954ad88c4ffb7f71ea1a2", func := "semaphore/semaphorelaw09.InputsSame", spec := "inputsSame", apart := false }
def InputsSameSaid : Prop := inputsSameRow.holds Try.pinned (OpenSpec.ofChange inputsSameSpec)

/-- ITS FALSE NEIGHBOUR: 'it returns false'. Refute it at one input. -/
def inputsSameWrong : ChangeSpec := { name := "inputsSame", fn := fun _ => fun
  | [d1, d2] => { results := [.lit (.bool false)], args := [d1, d2] }
  | _ => none }
def InputsSameWrongFalsely : Prop := inputsSameRow.holds Try.pinned (OpenSpec.ofChange inputsSameWrong)

/-- 'semaphorelaw09.InputsMerge': WHATEVER THE INPUT: true; the input reads as it did. -/
def inputsMergeSpec : ChangeSpec := { name := "inputsMerge", fn := fun _ => fun
  | [d1, d2] => { results := [.lit (.bool true)], args := [d1, d2] }
  | _ => none }
def inputsMergeRow : OpenClaim := { program := "ytllnopodflajaaa", sum := "adf4d17807338bf17432eb4bfa13be4d8ec93860e2e954ad88c4ffb7f71ea1a2", func := "semaphore/semaphorelaw09.InputsMerge", spec := "inputsMerge", apart := false }
def InputsMergeSaid : Prop := inputsMergeRow.holds Try.pinned (OpenSpec.ofChange inputsMergeSpec)

/-- ITS FALSE NEIGHBOUR: 'it returns false'. Refute it at one input. -/
def inputsMergeWrong : ChangeSpec := { name := "inputsMerge", fn := fun _ => fun
  | [d1, d2] => { results := [.lit (.bool false)], args := [d1, d2] }
  | _ => none }
def InputsMergeWrongFalsely : Prop := inputsMergeRow.holds Try.pinned (OpenSpec.ofChange inputsMergeWrong)

/-- 'semaphorelaw09.InputsRight': WHATEVER THE INPUT: true; the input reads as it did. -/
def inputsRightSpec : ChangeSpec := { name := "inputsRight", fn := fun _ => fun
  | [d1, d2] => { results := [.lit (.bool true)], args := [d1, d2] }
  | _ => none }
def inputsRightRow : OpenClaim := { program := "ytllnopodflajaaa", sum := "adf4d17807338bf17432eb4bfa13be4d8ec93860e2e954ad88c4ffb7f71ea1a2", func := "semaphore/semaphorelaw09.InputsRight", spec := "inputsRight", apart := false }
def InputsRightSaid : Prop := inputsRightRow.holds Try.pinned (OpenSpec.ofChange inputsRightSpec)

/-- ITS FALSE NEIGHBOUR: 'it returns false'. Refute it at one input. -/
def inputsRightWrong : ChangeSpec := { name := "inputsRight", fn := fun _ => fun
  | [d1, d2] => { results := [.lit (.bool false)], args := [d1, d2] }
  | _ => none }
def InputsRightWrongFalsely : Prop := inputsRightRow.holds Try.pinned (OpenSpec.ofChange inputsRightWrong)

/-- 'semaphorelaw09.InputsSafe': WHATEVER THE INPUT: true; the input reads as it did. -/
def inputsSafeSpec : ChangeSpec := { name := "inputsSafe", fn := fun _ => fun
  | [d1, d2, d3] => { results := [.lit (.bool true)], args := [d1, d2, d3] }
  | _ => none }
def inputsSafeRow : OpenClaim := { program := "ytllnopodflajaaa", sum := "adf4d17807338bf17432eb4bfa13be4d8ec93860e2e954ad88c4ffb7f71ea1a2", func := "semaphore/semaphorelaw09.InputsSafe", spec := "inputsSafe", apart := false }
def InputsSafeSaid : Prop := inputsSafeRow.holds Try.pinned (OpenSpec.ofChange inputsSafeSpec)

/-- ITS FALSE NEIGHBOUR: 'it returns false'. Refute it at one input. -/
def inputsSafeWrong : ChangeSpec := { name := "inputsSafe", fn := fun _ => fun
  | [d1, d2, d3] => { results := [.lit (.bool false)], args := [d1, d2, d3] }
  | _ => none }
def InputsSafeWrongFalsely : Prop := inputsSafeRow.holds Try.pinned (OpenSpec.ofChange inputsSafeWrong)

/-- 'semaphorelaw20.AgreeNone': WHATEVER THE INPUT: true; the input reads as it did. -/
def agreeNoneSpec : ChangeSpec := { name := "agreeNone", fn := fun _ => fun
  | [d1, d2] => { results := [.lit (.bool true)], args := [d1, d2] }
  | _ => none }
def agreeNoneRow : OpenClaim := { program := "ytllnopodflajaaa", sum := "adf4d17807338bf17432eb4bfa13be4d8ec93860e2e954ad88c4ffb7f71ea1a2", func := "semaphore/semaphorelaw20.AgreeNone", spec := "agreeNone", unfollowed := true, recurses := true, apart := false }
def AgreeNoneSaid : Prop := agreeNoneRow.holds Try.pinned (OpenSpec.ofChange agreeNoneSpec)

/-- ITS FALSE NEIGHBOUR: 'it returns false'. Refute it at one input. -/
def agreeNoneWrong : ChangeSpec := { name := "agreeNone", fn := fun _ => fun
  | [d1, d2] => { results := [.lit (.bool false)], args := [d1, d2] }
  | _ => none }
def AgreeNoneWrongFalsely : Prop := agreeNoneRow.holds Try.pinned (OpenSpec.ofChange agreeNoneWrong)

/-- 'semaphorelaw02.FieldsSides': WHATEVER THE INPUT: true; the input reads as it did. -/
def fieldsSidesSpec : ChangeSpec := { name := "fieldsSides", fn := fun _ => fun
  | [d1, d2, d3] => { results := [.lit (.bool true)], args := [d1, d2, d3] }
  | _ => none }
def fieldsSidesRow : OpenClaim := { program := "ytllnopodflajaaa", sum := "adf4d17807338bf17432eb4bfa13be4d8ec93860e2e954ad88c4ffb7f71ea1a2", func := "semaphore/semaphorelaw02.FieldsSides", spec := "fieldsSides", apart := false }
def FieldsSidesSaid : Prop := fieldsSidesRow.holds Try.pinned (OpenSpec.ofChange fieldsSidesSpec)

/-- ITS FALSE NEIGHBOUR: 'it returns false'. Refute it at one input. -/
def fieldsSidesWrong : ChangeSpec := { name := "fieldsSides", fn := fun _ => fun
  | [d1, d2, d3] => { results := [.lit (.bool false)], args := [d1, d2, d3] }
  | _ => none }
def FieldsSidesWrongFalsely : Prop := fieldsSidesRow.holds Try.pinned (OpenSpec.ofChange fieldsSidesWrong)

/-- 'semaphorelaw03.NamesSigns': WHATEVER THE INPUT: true; the input reads as it did. -/
def namesSignsSpec : ChangeSpec := { name := "namesSigns", fn := fun _ => fun
  | [d] => { results := [.lit (.bool true)], args := [d] }
  | _ => none }
def namesSignsRow : OpenClaim := { program := "ytllnopodflajaaa", sum := "adf4d17807338bf17432eb4bfa13be4d8ec93860e2e954ad88c4ffb7f71ea1a2", func := "semaphore/semaphorelaw03.NamesSigns", spec := "namesSigns", apart := false }
def NamesSignsSaid : Prop := namesSignsRow.holds Try.pinned (OpenSpec.ofChange namesSignsSpec)

/-- ITS FALSE NEIGHBOUR: 'it returns false'. Refute it at one input. -/
def namesSignsWrong : ChangeSpec := { name := "namesSigns", fn := fun _ => fun
  | [d] => { results := [.lit (.bool false)], args := [d] }
  | _ => none }
def NamesSignsWrongFalsely : Prop := namesSignsRow.holds Try.pinned (OpenSpec.ofChange namesSignsWrong)

/-- 'semaphorelaw03.NamesRight': WHATEVER THE INPUT: true; the input reads as it did. -/
def namesRightSpec : ChangeSpec := { name := "namesRight", fn := fun _ => fun
  | [d] => { results := [.lit (.bool true)], args := [d] }
  | _ => none }
def namesRightRow : OpenClaim := { program := "ytllnopodflajaaa", sum := "adf4d17807338bf17432eb4bfa13be4d8ec93860e2e954ad88c4ffb7f71ea1a2", func := "semaphore/semaphorelaw03.NamesRight", spec := "namesRight", apart := false }
def NamesRightSaid : Prop := namesRightRow.holds Try.pinned (OpenSpec.ofChange namesRightSpec)

/-- ITS FALSE NEIGHBOUR: 'it returns false'. Refute it at one input. -/
def namesRightWrong : ChangeSpec := { name := "namesRight", fn := fun _ => fun
  | [d] => { results := [.lit (.bool false)], args := [d] }
  | _ => none }
def NamesRightWrongFalsely : Prop := namesRightRow.holds Try.pinned (OpenSpec.ofChange namesRightWrong)

/- THE SECOND FORM. 'bulk': how many values and letters a reading holds, each counted each time it is reached (what is shared counts as often as it is met; a slice's spare places count too). A statement '..UptoSaid' is the law's where the arguments, and the package variables that the reading takes, are together of bulk at most 1048576: NARROWER than '..Said'. Prove '..Said' where nothing that the law and all that it calls make is longer than what came in: it says more and counts as full. Else prove '..UptoSaid'. A law counts once. -/
mutual
def uptoBulk {H : Type} : DataW H → Nat
  | .lit (.string bytes) => bytes.length + 1
  | .lit _ => 1
  | .nil => 1
  | .ptr d => uptoBulk d + 1
  | .slice elems spare => uptoBulkAll elems + uptoBulkAll spare + 1
  | .agg parts => uptoBulkAll parts + 1
  | .iface _ d => uptoBulk d + 1
  | .map entries => uptoBulkEntries entries + 1
  | .held _ => 1
def uptoBulkAll {H : Type} : List (DataW H) → Nat
  | [] => 0
  | d :: r => uptoBulk d + uptoBulkAll r
def uptoBulkEntries {H : Type} : List (Lit × DataW H) → Nat
  | [] => 0
  | x :: r => uptoBulkEntry x + uptoBulkEntries r
def uptoBulkEntry {H : Type} : Lit × DataW H → Nat
  | (.string bytes, d) => bytes.length + uptoBulk d + 1
  | (_, d) => uptoBulk d + 1
 end
def uptoSmall : (H : Type) → List (DataW H) → Bool := fun _ ds => decide (uptoBulkAll ds ≤ 1048576)
def OpenSpec.upto (s : _root_.Go.ChangeSpec) : _root_.Go.OpenSpec := { _root_.Go.OpenSpec.ofChange s with cond := some uptoSmall }

/-- 'semaphorelaw07.BitsOne', WHERE WHAT IT READS IS OF BULK AT MOST 1048576: true; the input reads as it did. -/
def bitsOneUptoRow : OpenClaim := { program := "ytllnopodflajaaa", sum := "adf4d17807338bf17432eb4bfa13be4d8ec93860e2e954ad88c4ffb7f71ea1a2", func := "semaphore/semaphorelaw07.BitsOne", spec := "bitsOne", unfollowed := true, recurses := true, apart := false, narrowed := true }
def BitsOneUptoSaid : Prop := bitsOneUptoRow.holds Try.pinned (OpenSpec.upto bitsOneSpec)

/-- 'semaphorelaw07.BitsOf', WHERE WHAT IT READS IS OF BULK AT MOST 1048576: true; the input reads as it did. -/
def bitsOfUptoRow : OpenClaim := { program := "ytllnopodflajaaa", sum := "adf4d17807338bf17432eb4bfa13be4d8ec93860e2e954ad88c4ffb7f71ea1a2", func := "semaphore/semaphorelaw07.BitsOf", spec := "bitsOf", unfollowed := true, recurses := true, apart := false, narrowed := true }
def BitsOfUptoSaid : Prop := bitsOfUptoRow.holds Try.pinned (OpenSpec.upto bitsOfSpec)

/-- 'semaphorelaw07.BitsFirst', WHERE WHAT IT READS IS OF BULK AT MOST 1048576: true; the input reads as it did. -/
def bitsFirstUptoRow : OpenClaim := { program := "ytllnopodflajaaa", sum := "adf4d17807338bf17432eb4bfa13be4d8ec93860e2e954ad88c4ffb7f71ea1a2", func := "semaphore/semaphorelaw07.BitsFirst", spec := "bitsFirst", unfollowed := true, recurses := true, apart := false, narrowed := true }
def BitsFirstUptoSaid : Prop := bitsFirstUptoRow.holds Try.pinned (OpenSpec.upto bitsFirstSpec)

/-- 'semaphorelaw09.InputsSides', WHERE WHAT IT READS IS OF BULK AT MOST 1048576: true; the input reads as it did. -/
def inputsSidesUptoRow : OpenClaim := { program := "ytllnopodflajaaa", sum := "adf4d17807338bf17432eb4bfa13be4d8ec93860e2e954ad88c4ffb7f71ea1a2", func := "semaphore/semaphorelaw09.InputsSides", spec := "inputsSides", apart := false, narrowed := true }
def InputsSidesUptoSaid : Prop := inputsSidesUptoRow.holds Try.pinned (OpenSpec.upto inputsSidesSpec)

/-- 'semaphorelaw09.InputsSame', WHERE WHAT IT READS IS OF BULK AT MOST 1048576: true; the input reads as it did. -/
def inputsSameUptoRow : OpenClaim := { program := "ytllnopodflajaaa", sum := "adf4d17807338bf17432eb4bfa13be4d8ec93860e2e954ad88c4ffb7f71ea1a2", func := "semaphore/semaphorelaw09.InputsSame", spec := "inputsSame", apart := false, narrowed := true }
def InputsSameUptoSaid : Prop := inputsSameUptoRow.holds Try.pinned (OpenSpec.upto inputsSameSpec)

/-- 'semaphorelaw09.InputsMerge', WHERE WHAT IT READS IS OF BULK AT MOST 1048576: true; the input reads as it did. -/
def inputsMergeUptoRow : OpenClaim := { program := "ytllnopodflajaaa", sum := "adf4d17807338bf17432eb4bfa13be4d8ec93860e2e954ad88c4ffb7f71ea1a2", func := "semaphore/semaphorelaw09.InputsMerge", spec := "inputsMerge", apart := false, narrowed := true }
def InputsMergeUptoSaid : Prop := inputsMergeUptoRow.holds Try.pinned (OpenSpec.upto inputsMergeSpec)

/-- 'semaphorelaw09.InputsRight', WHERE WHAT IT READS IS OF BULK AT MOST 1048576: true; the input reads as it did. -/
def inputsRightUptoRow : OpenClaim := { program := "ytllnopodflajaaa", sum := "adf4d17807338bf17432eb4bfa13be4d8ec93860e2e954ad88c4ffb7f71ea1a2", func := "semaphore/semaphorelaw09.InputsRight", spec := "inputsRight", apart := false, narrowed := true }
def InputsRightUptoSaid : Prop := inputsRightUptoRow.holds Try.pinned (OpenSpec.upto inputsRightSpec)

/-- 'semaphorelaw09.InputsSafe', WHERE WHAT IT READS IS OF BULK AT MOST 1048576: true; the input reads as it did. -/
def inputsSafeUptoRow : OpenClaim := { program := "ytllnopodflajaaa", sum := "adf4d17807338bf17432eb4bfa13be4d8ec93860e2e954ad88c4ffb7f71ea1a2", func := "semaphore/semaphorelaw09.InputsSafe", spec := "inputsSafe", apart := false, narrowed := true }
def InputsSafeUptoSaid : Prop := inputsSafeUptoRow.holds Try.pinned (OpenSpec.upto inputsSafeSpec)

/-- 'semaphorelaw20.AgreeNone', WHERE WHAT IT READS IS OF BULK AT MOST 1048576: true; the input reads as it did. -/
def agreeNoneUptoRow : OpenClaim := { program := "ytllnopodflajaaa", sum := "adf4d17807338bf17432eb4bfa13be4d8ec93860e2e954ad88c4ffb7f71ea1a2", func := "semaphore/semaphorelaw20.AgreeNone", spec := "agreeNone", unfollowed := true, recurses := true, apart := false, narrowed := true }
def AgreeNoneUptoSaid : Prop := agreeNoneUptoRow.holds Try.pinned (OpenSpec.upto agreeNoneSpec)

/-- 'semaphorelaw02.FieldsSides', WHERE WHAT IT READS IS OF BULK AT MOST 1048576: true; the input reads as it did. -/
def fieldsSidesUptoRow : OpenClaim := { program := "ytllnopodflajaaa", sum := "adf4d17807338bf17432eb4bfa13be4d8ec93860e2e954ad88c4ffb7f71ea1a2", func := "semaphore/semaphorelaw02.FieldsSides", spec := "fieldsSides", apart := false, narrowed := true }
def FieldsSidesUptoSaid : Prop := fieldsSidesUptoRow.holds Try.pinned (OpenSpec.upto fieldsSidesSpec)

/-- 'semaphorelaw03.NamesSigns', WHERE WHAT IT READS IS OF BULK AT MOST 1048576: true; the input reads as it did. -/
def namesSignsUptoRow : OpenClaim := { program := "ytllnopodflajaaa", sum := "adf4d17807338bf17432eb4bfa13be4d8ec93860e2e954ad88c4ffb7f71ea1a2", func := "semaphore/semaphorelaw03.NamesSigns", spec := "namesSigns", apart := false, narrowed := true }
def NamesSignsUptoSaid : Prop := namesSignsUptoRow.holds Try.pinned (OpenSpec.upto namesSignsSpec)

/-- 'semaphorelaw03.NamesRight', WHERE WHAT IT READS IS OF BULK AT MOST 1048576: true; the input reads as it did. -/
def namesRightUptoRow : OpenClaim := { program := "ytllnopodflajaaa", sum := "adf4d17807338bf17432eb4bfa13be4d8ec93860e2e954ad88c4ffb7f71ea1a2", func := "semaphore/semaphorelaw03.NamesRight", spec := "namesRight", apart := false, narrowed := true }
def NamesRightUptoSaid : Prop := namesRightUptoRow.holds Try.pinned (OpenSpec.upto namesRightSpec)

end Rows
end Go.Proofs.Ytllnopodflajaaa
