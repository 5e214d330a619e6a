/-
  No cell of these rows narrows 'for every input' (looked for: loops, veiled, ifaces, maps, wideKeys, modest, calm, conditions, laid).
  DERIVED. THE GIVEN ROWS OF THIS SEAT. 12 by the template 'for every input the law returns true; each argument reads behind the call as it read before'; 0 by the template 'total and deterministic' (their statements: YtkclmlcfdijbmaaTotals.lean).
  GIVEN WITH THE SEED: the statements are not yours to turn. If you find one false, say at which input.
  Laid BY PROGRAM, IN A SANDBOX (cutbox-rows.mjs): the forced cells as the released guide's own fill.sh prints them over the translation de14bee6b9374dd0… (all of the seat's roots in one cut). By AI agents, Wed Nov 11 2026. No macro, syntax, notation, axiom, sorry.
-/
import Derived.Test.YtkclmlcfdijbmaaChecked
import GoSem.Claim
import GoSem.ClaimJoined
import GoSem.ClaimMapViews
import Derived.JoinedTies
import Derived.KernelRfl
namespace Go.Proofs.Ytkclmlcfdijbmaa
/- THE CELL 'sum', in the pinned program and in every row, IS THE sha256 OF THE DUMP (.gsa) THAT YtkclmlcfdijbmaaProg.lean LOADS. Nothing in Lean hashes anything: it is a label: what it is worth is what the hold of that sum in a sandbox is worth. -/
noncomputable def Try.pinned : Pinned := { name := "ytkclmlcfdijbmaa", sum := "de14bee6b9374dd06acdb335d2ecb715c28f9267c8f8bf70f19db8dad05ed493", checked := Try.checked }
namespace Rows
def none {H : Type} : Left H := { results := [], args := [] }

/-- 'semaphorelaw26.SwitchoverFences': WHATEVER THE INPUT: true; the input reads as it did. -/
def switchoverFencesSpec : ChangeSpec := { name := "switchoverFences", fn := fun _ => fun
  | [d1, d2, d3] => { results := [.lit (.bool true)], args := [d1, d2, d3] }
  | _ => none }
def switchoverFencesRow : OpenClaim := { program := "ytkclmlcfdijbmaa", sum := "de14bee6b9374dd06acdb335d2ecb715c28f9267c8f8bf70f19db8dad05ed493", func := "semaphore/semaphorelaw26.SwitchoverFences", spec := "switchoverFences", unfollowed := true, recurses := true, apart := false }
def SwitchoverFencesSaid : Prop := switchoverFencesRow.holds Try.pinned (OpenSpec.ofChange switchoverFencesSpec)

/-- ITS FALSE NEIGHBOUR: 'it returns false'. Refute it at one input. -/
def switchoverFencesWrong : ChangeSpec := { name := "switchoverFences", fn := fun _ => fun
  | [d1, d2, d3] => { results := [.lit (.bool false)], args := [d1, d2, d3] }
  | _ => none }
def SwitchoverFencesWrongFalsely : Prop := switchoverFencesRow.holds Try.pinned (OpenSpec.ofChange switchoverFencesWrong)

/-- 'semaphorelaw26.SwitchoverKnown': WHATEVER THE INPUT: true; the input reads as it did. -/
def switchoverKnownSpec : ChangeSpec := { name := "switchoverKnown", fn := fun _ => fun
  | [] => { results := [.lit (.bool true)], args := [] }
  | _ => none }
def switchoverKnownRow : OpenClaim := { program := "ytkclmlcfdijbmaa", sum := "de14bee6b9374dd06acdb335d2ecb715c28f9267c8f8bf70f19db8dad05ed493", func := "semaphore/semaphorelaw26.SwitchoverKnown", spec := "switchoverKnown", unfollowed := true, recurses := true, apart := false }
def SwitchoverKnownSaid : Prop := switchoverKnownRow.holds Try.pinned (OpenSpec.ofChange switchoverKnownSpec)

/-- ITS FALSE NEIGHBOUR: 'it returns false'. Refute it at one input. -/
def switchoverKnownWrong : ChangeSpec := { name := "switchoverKnown", fn := fun _ => fun
  | [] => { results := [.lit (.bool false)], args := [] }
  | _ => none }
def SwitchoverKnownWrongFalsely : Prop := switchoverKnownRow.holds Try.pinned (OpenSpec.ofChange switchoverKnownWrong)

/-- 'semaphorelaw24.RelayPlays': WHATEVER THE INPUT: true; the input reads as it did. -/
def relayPlaysSpec : ChangeSpec := { name := "relayPlays", fn := fun _ => fun
  | [d1, d2] => { results := [.lit (.bool true)], args := [d1, d2] }
  | _ => none }
def relayPlaysRow : OpenClaim := { program := "ytkclmlcfdijbmaa", sum := "de14bee6b9374dd06acdb335d2ecb715c28f9267c8f8bf70f19db8dad05ed493", func := "semaphore/semaphorelaw24.RelayPlays", spec := "relayPlays", apart := false }
def RelayPlaysSaid : Prop := relayPlaysRow.holds Try.pinned (OpenSpec.ofChange relayPlaysSpec)

/-- ITS FALSE NEIGHBOUR: 'it returns false'. Refute it at one input. -/
def relayPlaysWrong : ChangeSpec := { name := "relayPlays", fn := fun _ => fun
  | [d1, d2] => { results := [.lit (.bool false)], args := [d1, d2] }
  | _ => none }
def RelayPlaysWrongFalsely : Prop := relayPlaysRow.holds Try.pinned (OpenSpec.ofChange relayPlaysWrong)

/-- 'semaphorelaw24.RelayFences': WHATEVER THE INPUT: true; the input reads as it did. -/
def relayFencesSpec : ChangeSpec := { name := "relayFences", fn := fun _ => fun
  | [d1, d2] => { results := [.lit (.bool true)], args := [d1, d2] }
  | _ => none }
def relayFencesRow : OpenClaim := { program := "ytkclmlcfdijbmaa", sum := "de14bee6b9374dd06acdb335d2ecb715c28f9267c8f8bf70f19db8dad05ed493", func := "semaphore/semaphorelaw24.RelayFences", spec := "relayFences", apart := false }
def RelayFencesSaid : Prop := relayFencesRow.holds Try.pinned (OpenSpec.ofChange relayFencesSpec)

/-- ITS FALSE NEIGHBOUR: 'it returns false'. Refute it at one input. -/
def relayFencesWrong : ChangeSpec := { name := "relayFences", fn := fun _ => fun
  | [d1, d2] => { results := [.lit (.bool false)], args := [d1, d2] }
  | _ => none }
def RelayFencesWrongFalsely : Prop := relayFencesRow.holds Try.pinned (OpenSpec.ofChange relayFencesWrong)

/-- 'semaphorelaw24.RelayKnown': WHATEVER THE INPUT: true; the input reads as it did. -/
def relayKnownSpec : ChangeSpec := { name := "relayKnown", fn := fun _ => fun
  | [] => { results := [.lit (.bool true)], args := [] }
  | _ => none }
def relayKnownRow : OpenClaim := { program := "ytkclmlcfdijbmaa", sum := "de14bee6b9374dd06acdb335d2ecb715c28f9267c8f8bf70f19db8dad05ed493", func := "semaphore/semaphorelaw24.RelayKnown", spec := "relayKnown", apart := false }
def RelayKnownSaid : Prop := relayKnownRow.holds Try.pinned (OpenSpec.ofChange relayKnownSpec)

/-- ITS FALSE NEIGHBOUR: 'it returns false'. Refute it at one input. -/
def relayKnownWrong : ChangeSpec := { name := "relayKnown", fn := fun _ => fun
  | [] => { results := [.lit (.bool false)], args := [] }
  | _ => none }
def RelayKnownWrongFalsely : Prop := relayKnownRow.holds Try.pinned (OpenSpec.ofChange relayKnownWrong)

/-- 'semaphorelaw14.DiskPlays': WHATEVER THE INPUT: true; the input reads as it did. -/
def diskPlaysSpec : ChangeSpec := { name := "diskPlays", fn := fun _ => fun
  | [d1, d2] => { results := [.lit (.bool true)], args := [d1, d2] }
  | _ => none }
def diskPlaysRow : OpenClaim := { program := "ytkclmlcfdijbmaa", sum := "de14bee6b9374dd06acdb335d2ecb715c28f9267c8f8bf70f19db8dad05ed493", func := "semaphore/semaphorelaw14.DiskPlays", spec := "diskPlays", unfollowed := true, recurses := true, apart := false }
def DiskPlaysSaid : Prop := diskPlaysRow.holds Try.pinned (OpenSpec.ofChange diskPlaysSpec)

/-- ITS FALSE NEIGHBOUR: 'it returns false'. Refute it at one input. -/
def diskPlaysWrong : ChangeSpec := { name := "diskPlays", fn := fun _ => fun
  | [d1, d2] => { results := [.lit (.bool false)], args := [d1, d2] }
  | _ => none }
def DiskPlaysWrongFalsely : Prop := diskPlaysRow.holds Try.pinned (OpenSpec.ofChange diskPlaysWrong)

/-- 'semaphorelaw14.DiskKeeps': WHATEVER THE INPUT: true; the input reads as it did. -/
def diskKeepsSpec : ChangeSpec := { name := "diskKeeps", fn := fun _ => fun
  | [d1, d2] => { results := [.lit (.bool true)], args := [d1, d2] }
  | _ => none }
def diskKeepsRow : OpenClaim := { program := "ytkclmlcfdijbmaa", sum := "de14bee6b9374dd06acdb335d2ecb715c28f9267c8f8bf70f19db8dad05ed493", func := "semaphore/semaphorelaw14.DiskKeeps", spec := "diskKeeps", unfollowed := true, recurses := true, apart := false }
def DiskKeepsSaid : Prop := diskKeepsRow.holds Try.pinned (OpenSpec.ofChange diskKeepsSpec)

/-- ITS FALSE NEIGHBOUR: 'it returns false'. Refute it at one input. -/
def diskKeepsWrong : ChangeSpec := { name := "diskKeeps", fn := fun _ => fun
  | [d1, d2] => { results := [.lit (.bool false)], args := [d1, d2] }
  | _ => none }
def DiskKeepsWrongFalsely : Prop := diskKeepsRow.holds Try.pinned (OpenSpec.ofChange diskKeepsWrong)

/-- 'semaphorelaw14.DiskKnown': WHATEVER THE INPUT: true; the input reads as it did. -/
def diskKnownSpec : ChangeSpec := { name := "diskKnown", fn := fun _ => fun
  | [] => { results := [.lit (.bool true)], args := [] }
  | _ => none }
def diskKnownRow : OpenClaim := { program := "ytkclmlcfdijbmaa", sum := "de14bee6b9374dd06acdb335d2ecb715c28f9267c8f8bf70f19db8dad05ed493", func := "semaphore/semaphorelaw14.DiskKnown", spec := "diskKnown", unfollowed := true, recurses := true, apart := false }
def DiskKnownSaid : Prop := diskKnownRow.holds Try.pinned (OpenSpec.ofChange diskKnownSpec)

/-- ITS FALSE NEIGHBOUR: 'it returns false'. Refute it at one input. -/
def diskKnownWrong : ChangeSpec := { name := "diskKnown", fn := fun _ => fun
  | [] => { results := [.lit (.bool false)], args := [] }
  | _ => none }
def DiskKnownWrongFalsely : Prop := diskKnownRow.holds Try.pinned (OpenSpec.ofChange diskKnownWrong)

/-- 'semaphorelaw02.FieldsPuts': WHATEVER THE INPUT: true; the input reads as it did. -/
def fieldsPutsSpec : ChangeSpec := { name := "fieldsPuts", fn := fun _ => fun
  | [d] => { results := [.lit (.bool true)], args := [d] }
  | _ => none }
def fieldsPutsRow : OpenClaim := { program := "ytkclmlcfdijbmaa", sum := "de14bee6b9374dd06acdb335d2ecb715c28f9267c8f8bf70f19db8dad05ed493", func := "semaphore/semaphorelaw02.FieldsPuts", spec := "fieldsPuts", apart := false }
def FieldsPutsSaid : Prop := fieldsPutsRow.holds Try.pinned (OpenSpec.ofChange fieldsPutsSpec)

/-- ITS FALSE NEIGHBOUR: 'it returns false'. Refute it at one input. -/
def fieldsPutsWrong : ChangeSpec := { name := "fieldsPuts", fn := fun _ => fun
  | [d] => { results := [.lit (.bool false)], args := [d] }
  | _ => none }
def FieldsPutsWrongFalsely : Prop := fieldsPutsRow.holds Try.pinned (OpenSpec.ofChange fieldsPutsWrong)

/-- 'semaphorelaw02.FieldsReads': WHATEVER THE INPUT: true; the input reads as it did. -/
def fieldsReadsSpec : ChangeSpec := { name := "fieldsReads", fn := fun _ => fun
  | [d1, d2] => { results := [.lit (.bool true)], args := [d1, d2] }
  | _ => none }
def fieldsReadsRow : OpenClaim := { program := "ytkclmlcfdijbmaa", sum := "de14bee6b9374dd06acdb335d2ecb715c28f9267c8f8bf70f19db8dad05ed493", func := "semaphore/semaphorelaw02.FieldsReads", spec := "fieldsReads", apart := false }
def FieldsReadsSaid : Prop := fieldsReadsRow.holds Try.pinned (OpenSpec.ofChange fieldsReadsSpec)

/-- ITS FALSE NEIGHBOUR: 'it returns false'. Refute it at one input. -/
def fieldsReadsWrong : ChangeSpec := { name := "fieldsReads", fn := fun _ => fun
  | [d1, d2] => { results := [.lit (.bool false)], args := [d1, d2] }
  | _ => none }
def FieldsReadsWrongFalsely : Prop := fieldsReadsRow.holds Try.pinned (OpenSpec.ofChange fieldsReadsWrong)

/-- 'semaphorelaw02.FieldsBack': WHATEVER THE INPUT: true; the input reads as it did. -/
def fieldsBackSpec : ChangeSpec := { name := "fieldsBack", fn := fun _ => fun
  | [d1, d2] => { results := [.lit (.bool true)], args := [d1, d2] }
  | _ => none }
def fieldsBackRow : OpenClaim := { program := "ytkclmlcfdijbmaa", sum := "de14bee6b9374dd06acdb335d2ecb715c28f9267c8f8bf70f19db8dad05ed493", func := "semaphore/semaphorelaw02.FieldsBack", spec := "fieldsBack", apart := false }
def FieldsBackSaid : Prop := fieldsBackRow.holds Try.pinned (OpenSpec.ofChange fieldsBackSpec)

/-- ITS FALSE NEIGHBOUR: 'it returns false'. Refute it at one input. -/
def fieldsBackWrong : ChangeSpec := { name := "fieldsBack", fn := fun _ => fun
  | [d1, d2] => { results := [.lit (.bool false)], args := [d1, d2] }
  | _ => none }
def FieldsBackWrongFalsely : Prop := fieldsBackRow.holds Try.pinned (OpenSpec.ofChange fieldsBackWrong)

/-- 'semaphorelaw02.FieldsKnown': WHATEVER THE INPUT: true; the input reads as it did. -/
def fieldsKnownSpec : ChangeSpec := { name := "fieldsKnown", fn := fun _ => fun
  | [] => { results := [.lit (.bool true)], args := [] }
  | _ => none }
def fieldsKnownRow : OpenClaim := { program := "ytkclmlcfdijbmaa", sum := "de14bee6b9374dd06acdb335d2ecb715c28f9267c8f8bf70f19db8dad05ed493", func := "semaphore/semaphorelaw02.FieldsKnown", spec := "fieldsKnown", apart := false }
def FieldsKnownSaid : Prop := fieldsKnownRow.holds Try.pinned (OpenSpec.ofChange fieldsKnownSpec)

/-- ITS FALSE NEIGHBOUR: 'it returns false'. Refute it at one input. -/
def fieldsKnownWrong : ChangeSpec := { name := "fieldsKnown", fn := fun _ => fun
  | [] => { results := [.lit (.bool false)], args := [] }
  | _ => none }
def FieldsKnownWrongFalsely : Prop := fieldsKnownRow.holds Try.pinned (OpenSpec.ofChange fieldsKnownWrong)

/- THE SECOND FORM. 'bulk': how many values and letters a reading holds, each counted each time it is reached (what is shared counts as often as it is met; a slice's spare places count too). A statement '..UptoSaid' is the law's where the arguments, and the package variables that the reading takes, are together of bulk at most 1048576: NARROWER than '..Said'. Prove '..Said' where nothing that the law and all that it calls make is longer than what came in: it says more and counts as full. Else prove '..UptoSaid'. A law counts once. -/
mutual
def uptoBulk {H : Type} : DataW H → Nat
  | .lit (.string bytes) => bytes.length + 1
  | .lit _ => 1
  | .nil => 1
  | .ptr d => uptoBulk d + 1
  | .slice elems spare => uptoBulkAll elems + uptoBulkAll spare + 1
  | .agg parts => uptoBulkAll parts + 1
  | .iface _ d => uptoBulk d + 1
  | .map entries => uptoBulkEntries entries + 1
  | .held _ => 1
def uptoBulkAll {H : Type} : List (DataW H) → Nat
  | [] => 0
  | d :: r => uptoBulk d + uptoBulkAll r
def uptoBulkEntries {H : Type} : List (Lit × DataW H) → Nat
  | [] => 0
  | x :: r => uptoBulkEntry x + uptoBulkEntries r
def uptoBulkEntry {H : Type} : Lit × DataW H → Nat
  | (.string bytes, d) => bytes.length + uptoBulk d + 1
  | (_, d) => uptoBulk d + 1
 end
def uptoSmall : (H : Type) → List (DataW H) → Bool := fun _ ds => decide (uptoBulkAll ds ≤ 1048576)
def OpenSpec.upto (s : _root_.Go.ChangeSpec) : _root_.Go.OpenSpec := { _root_.Go.OpenSpec.ofChange s with cond := some uptoSmall }

/-- 'semaphorelaw26.SwitchoverFences', WHERE WHAT IT READS IS OF BULK AT MOST 1048576: true; the input reads as it did. -/
def switchoverFencesUptoRow : OpenClaim := { program := "ytkclmlcfdijbmaa", sum := "de14bee6b9374dd06acdb335d2ecb715c28f9267c8f8bf70f19db8dad05ed493", func := "semaphore/semaphorelaw26.SwitchoverFences", spec := "switchoverFences", unfollowed := true, recurses := true, apart := false, narrowed := true }
def SwitchoverFencesUptoSaid : Prop := switchoverFencesUptoRow.holds Try.pinned (OpenSpec.upto switchoverFencesSpec)

/-- 'semaphorelaw26.SwitchoverKnown', WHERE WHAT IT READS IS OF BULK AT MOST 1048576: true; the input reads as it did. -/
def switchoverKnownUptoRow : OpenClaim := { program := "ytkclmlcfdijbmaa", sum := "de14bee6b9374dd06acdb335d2ecb715c28f9267c8f8bf70f19db8dad05ed493", func := "semaphore/semaphorelaw26.SwitchoverKnown", spec := "switchoverKnown", unfollowed := true, recurses := true, apart := false, narrowed := true }
def SwitchoverKnownUptoSaid : Prop := switchoverKnownUptoRow.holds Try.pinned (OpenSpec.upto switchoverKnownSpec)

/-- 'semaphorelaw24.RelayPlays', WHERE WHAT IT READS IS OF BULK AT MOST 1048576: true; the input reads as it did. -/
def relayPlaysUptoRow : OpenClaim := { program := "ytkclmlcfdijbmaa", sum := "de14bee6b9374dd06acdb335d2ecb715c28f9267c8f8bf70f19db8dad05ed493", func := "semaphore/semaphorelaw24.RelayPlays", spec := "relayPlays", apart := false, narrowed := true }
def RelayPlaysUptoSaid : Prop := relayPlaysUptoRow.holds Try.pinned (OpenSpec.upto relayPlaysSpec)

/-- 'semaphorelaw24.RelayFences', WHERE WHAT IT READS IS OF BULK AT MOST 1048576: true; the input reads as it did. -/
def relayFencesUptoRow : OpenClaim := { program := "ytkclmlcfdijbmaa", sum := "de14bee6b9374dd06acdb335d2ecb715c28f9267c8f8bf70f19db8dad05ed493", func := "semaphore/semaphorelaw24.RelayFences", spec := "relayFences", apart := false, narrowed := true }
def RelayFencesUptoSaid : Prop := relayFencesUptoRow.holds Try.pinned (OpenSpec.upto relayFencesSpec)

/-- 'semaphorelaw24.RelayKnown', WHERE WHAT IT READS IS OF BULK AT MOST 1048576: true; the input reads as it did. -/
def relayKnownUptoRow : OpenClaim := { program := "ytkclmlcfdijbmaa", sum := "de14bee6b9374dd06acdb335d2ecb715c28f9267c8f8bf70f19db8dad05ed493", func := "semaphore/semaphorelaw24.RelayKnown", spec := "relayKnown", apart := false, narrowed := true }
def RelayKnownUptoSaid : Prop := relayKnownUptoRow.holds Try.pinned (OpenSpec.upto relayKnownSpec)

/-- 'semaphorelaw14.DiskPlays', WHERE WHAT IT READS IS OF BULK AT MOST 1048576: true; the input reads as it did. -/
def diskPlaysUptoRow : OpenClaim := { program := "ytkclmlcfdijbmaa", sum := "de14bee6b9374dd06acdb335d2ecb715c28f9267c8f8bf70f19db8dad05ed493", func := "semaphore/semaphorelaw14.DiskPlays", spec := "diskPlays", unfollowed := true, recurses := true, apart := false, narrowed := true }
def DiskPlaysUptoSaid : Prop := diskPlaysUptoRow.holds Try.pinned (OpenSpec.upto diskPlaysSpec)

/-- 'semaphorelaw14.DiskKeeps', WHERE WHAT IT READS IS OF BULK AT MOST 1048576: true; the input reads as it did. -/
def diskKeepsUptoRow : OpenClaim := { program := "ytkclmlcfdijbmaa", sum := "de14bee6b9374dd06acdb335d2ecb715c28f9267c8f8bf70f19db8dad05ed493", func := "semaphore/semaphorelaw14.DiskKeeps", spec := "diskKeeps", unfollowed := true, recurses := true, apart := false, narrowed := true }
def DiskKeepsUptoSaid : Prop := diskKeepsUptoRow.holds Try.pinned (OpenSpec.upto diskKeepsSpec)

/-- 'semaphorelaw14.DiskKnown', WHERE WHAT IT READS IS OF BULK AT MOST 1048576: true; the input reads as it did. -/
def diskKnownUptoRow : OpenClaim := { program := "ytkclmlcfdijbmaa", sum := "de14bee6b9374dd06acdb335d2ecb715c28f9267c8f8bf70f19db8dad05ed493", func := "semaphore/semaphorelaw14.DiskKnown", spec := "diskKnown", unfollowed := true, recurses := true, apart := false, narrowed := true }
def DiskKnownUptoSaid : Prop := diskKnownUptoRow.holds Try.pinned (OpenSpec.upto diskKnownSpec)

/-- 'semaphorelaw02.FieldsPuts', WHERE WHAT IT READS IS OF BULK AT MOST 1048576: true; the input reads as it did. -/
def fieldsPutsUptoRow : OpenClaim := { program := "ytkclmlcfdijbmaa", sum := "de14bee6b9374dd06acdb335d2ecb715c28f9267c8f8bf70f19db8dad05ed493", func := "semaphore/semaphorelaw02.FieldsPuts", spec := "fieldsPuts", apart := false, narrowed := true }
def FieldsPutsUptoSaid : Prop := fieldsPutsUptoRow.holds Try.pinned (OpenSpec.upto fieldsPutsSpec)

/-- 'semaphorelaw02.FieldsReads', WHERE WHAT IT READS IS OF BULK AT MOST 1048576: true; the input reads as it did. -/
def fieldsReadsUptoRow : OpenClaim := { program := "ytkclmlcfdijbmaa", sum := "de14bee6b9374dd06acdb335d2ecb715c28f9267c8f8bf70f19db8dad05ed493", func := "semaphore/semaphorelaw02.FieldsReads", spec := "fieldsReads", apart := false, narrowed := true }
def FieldsReadsUptoSaid : Prop := fieldsReadsUptoRow.holds Try.pinned (OpenSpec.upto fieldsReadsSpec)

/-- 'semaphorelaw02.FieldsBack', WHERE WHAT IT READS IS OF BULK AT MOST 1048576: true; the input reads as it did. -/
def fieldsBackUptoRow : OpenClaim := { program := "ytkclmlcfdijbmaa", sum := "de14bee6b9374dd06acdb335d2ecb715c28f9267c8f8bf70f19db8dad05ed493", func := "semaphore/semaphorelaw02.FieldsBack", spec := "fieldsBack", apart := false, narrowed := true }
def FieldsBackUptoSaid : Prop := fieldsBackUptoRow.holds Try.pinned (OpenSpec.upto fieldsBackSpec)

/-- 'semaphorelaw02.FieldsKnown', WHERE WHAT IT READS IS OF BULK AT MOST 1048576: true; the input reads as it did. -/
def fieldsKnownUptoRow : OpenClaim := { program := "ytkclmlcfdijbmaa", sum := "de14bee6b9374dd06acdb335d2ecb715c28f9267c8f8bf70f19db8dad05ed493", func := "semaphore/semaphorelaw02.FieldsKnown", spec := "fieldsKnown", apart := false, narrowed := true }
def FieldsKnownUptoSaid : Prop := fieldsKnownUptoRow.holds Try.pinned (OpenSpec.upto fieldsKnownSpec)

end Rows
end Go.Proofs.Ytkclmlcfdijbmaa
