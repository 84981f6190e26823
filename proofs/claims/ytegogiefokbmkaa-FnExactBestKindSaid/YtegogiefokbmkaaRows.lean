/-
  No cell of these rows narrows 'for every input' (looked for: loops, veiled, ifaces, maps, wideKeys, modest, calm, conditions, laid).
  DERIVED. THE GIVEN ROWS OF THIS SEAT. 12 by the template 'for every input the law returns true; each argument reads behind the call as it read before'; 0 by the template 'total and deterministic' (their statements: YtegogiefokbmkaaTotals.lean).
  GIVEN WITH THE SEED: the statements are not yours to turn. If you find one false, say at which input.
  Laid BY PROGRAM, IN A SANDBOX (cutbox-rows.mjs): the forced cells as the released guide's own fill.sh prints them over the translation a227fa35d51b5544… (all of the seat's roots in one cut). By AI agents, Wed Nov 11 2026. No macro, syntax, notation, axiom, sorry.
-/
import Derived.Test.YtegogiefokbmkaaChecked
import GoSem.Claim
import GoSem.ClaimJoined
import GoSem.ClaimMapViews
import Derived.JoinedTies
import Derived.KernelRfl
namespace Go.Proofs.Ytegogiefokbmkaa
/- THE CELL 'sum', in the pinned program and in every row, IS THE sha256 OF THE DUMP (.gsa) THAT YtegogiefokbmkaaProg.lean LOADS. Nothing in Lean hashes anything: it is a label: what it is worth is what the hold of that sum in a sandbox is worth. -/
noncomputable def Try.pinned : Pinned := { name := "ytegogiefokbmkaa", sum := "a227fa35d51b55444a7a5eda43607fff3e00c19151e824bf6ab1bb194f20521c", checked := Try.checked }
namespace Rows
def none {H : Type} : Left H := { results := [], args := [] }

/-- 'laws.FnExactLoseCells': WHATEVER THE INPUT: true; the input reads as it did. -/
def fnExactLoseCellsSpec : ChangeSpec := { name := "fnExactLoseCells", fn := fun _ => fun
  | [d1, d2] => { results := [.lit (.bool true)], args := [d1, d2] }
  | _ => none }
def fnExactLoseCellsRow : OpenClaim := { program := "ytegogiefokbmkaa", sum := "a227fa35d51b55444a7a5eda43607fff3e00c19151e824bf6ab1bb194f20521c", func := "loop.example/g01322/laws.FnExactLoseCells", spec := "fnExactLoseCells", apart := false }
def FnExactLoseCellsSaid : Prop := fnExactLoseCellsRow.holds Try.pinned (OpenSpec.ofChange fnExactLoseCellsSpec)

/-- ITS FALSE NEIGHBOUR: 'it returns false'. Refute it at one input. -/
def fnExactLoseCellsWrong : ChangeSpec := { name := "fnExactLoseCells", fn := fun _ => fun
  | [d1, d2] => { results := [.lit (.bool false)], args := [d1, d2] }
  | _ => none }
def FnExactLoseCellsWrongFalsely : Prop := fnExactLoseCellsRow.holds Try.pinned (OpenSpec.ofChange fnExactLoseCellsWrong)

/-- 'laws.FnExactBestKind': WHATEVER THE INPUT: true; the input reads as it did. -/
def fnExactBestKindSpec : ChangeSpec := { name := "fnExactBestKind", fn := fun _ => fun
  | [d] => { results := [.lit (.bool true)], args := [d] }
  | _ => none }
def fnExactBestKindRow : OpenClaim := { program := "ytegogiefokbmkaa", sum := "a227fa35d51b55444a7a5eda43607fff3e00c19151e824bf6ab1bb194f20521c", func := "loop.example/g01322/laws.FnExactBestKind", spec := "fnExactBestKind", unfollowed := true, recurses := true, apart := false }
def FnExactBestKindSaid : Prop := fnExactBestKindRow.holds Try.pinned (OpenSpec.ofChange fnExactBestKindSpec)

/-- ITS FALSE NEIGHBOUR: 'it returns false'. Refute it at one input. -/
def fnExactBestKindWrong : ChangeSpec := { name := "fnExactBestKind", fn := fun _ => fun
  | [d] => { results := [.lit (.bool false)], args := [d] }
  | _ => none }
def FnExactBestKindWrongFalsely : Prop := fnExactBestKindRow.holds Try.pinned (OpenSpec.ofChange fnExactBestKindWrong)

/-- 'laws.FnExactFillByKind': WHATEVER THE INPUT: true; the input reads as it did. -/
def fnExactFillByKindSpec : ChangeSpec := { name := "fnExactFillByKind", fn := fun _ => fun
  | [d1, d2] => { results := [.lit (.bool true)], args := [d1, d2] }
  | _ => none }
def fnExactFillByKindRow : OpenClaim := { program := "ytegogiefokbmkaa", sum := "a227fa35d51b55444a7a5eda43607fff3e00c19151e824bf6ab1bb194f20521c", func := "loop.example/g01322/laws.FnExactFillByKind", spec := "fnExactFillByKind", unfollowed := true, recurses := true, apart := false }
def FnExactFillByKindSaid : Prop := fnExactFillByKindRow.holds Try.pinned (OpenSpec.ofChange fnExactFillByKindSpec)

/-- ITS FALSE NEIGHBOUR: 'it returns false'. Refute it at one input. -/
def fnExactFillByKindWrong : ChangeSpec := { name := "fnExactFillByKind", fn := fun _ => fun
  | [d1, d2] => { results := [.lit (.bool false)], args := [d1, d2] }
  | _ => none }
def FnExactFillByKindWrongFalsely : Prop := fnExactFillByKindRow.holds Try.pinned (OpenSpec.ofChange fnExactFillByKindWrong)

/-- 'laws.FnExactRepeatsBy': WHATEVER THE INPUT: true; the input reads as it did. -/
def fnExactRepeatsBySpec : ChangeSpec := { name := "fnExactRepeatsBy", fn := fun _ => fun
  | [d1, d2, d3] => { results := [.lit (.bool true)], args := [d1, d2, d3] }
  | _ => none }
def fnExactRepeatsByRow : OpenClaim := { program := "ytegogiefokbmkaa", sum := "a227fa35d51b55444a7a5eda43607fff3e00c19151e824bf6ab1bb194f20521c", func := "loop.example/g01322/laws.FnExactRepeatsBy", spec := "fnExactRepeatsBy", unfollowed := true, recurses := true, apart := false }
def FnExactRepeatsBySaid : Prop := fnExactRepeatsByRow.holds Try.pinned (OpenSpec.ofChange fnExactRepeatsBySpec)

/-- ITS FALSE NEIGHBOUR: 'it returns false'. Refute it at one input. -/
def fnExactRepeatsByWrong : ChangeSpec := { name := "fnExactRepeatsBy", fn := fun _ => fun
  | [d1, d2, d3] => { results := [.lit (.bool false)], args := [d1, d2, d3] }
  | _ => none }
def FnExactRepeatsByWrongFalsely : Prop := fnExactRepeatsByRow.holds Try.pinned (OpenSpec.ofChange fnExactRepeatsByWrong)

/-- 'laws.FnExactPeriodsOf': WHATEVER THE INPUT: true; the input reads as it did. -/
def fnExactPeriodsOfSpec : ChangeSpec := { name := "fnExactPeriodsOf", fn := fun _ => fun
  | [d] => { results := [.lit (.bool true)], args := [d] }
  | _ => none }
def fnExactPeriodsOfRow : OpenClaim := { program := "ytegogiefokbmkaa", sum := "a227fa35d51b55444a7a5eda43607fff3e00c19151e824bf6ab1bb194f20521c", func := "loop.example/g01322/laws.FnExactPeriodsOf", spec := "fnExactPeriodsOf", unfollowed := true, recurses := true, apart := false }
def FnExactPeriodsOfSaid : Prop := fnExactPeriodsOfRow.holds Try.pinned (OpenSpec.ofChange fnExactPeriodsOfSpec)

/-- ITS FALSE NEIGHBOUR: 'it returns false'. Refute it at one input. -/
def fnExactPeriodsOfWrong : ChangeSpec := { name := "fnExactPeriodsOf", fn := fun _ => fun
  | [d] => { results := [.lit (.bool false)], args := [d] }
  | _ => none }
def FnExactPeriodsOfWrongFalsely : Prop := fnExactPeriodsOfRow.holds Try.pinned (OpenSpec.ofChange fnExactPeriodsOfWrong)

/-- 'laws.FnExactFirstConflict': WHATEVER THE INPUT: true; the input reads as it did. -/
def fnExactFirstConflictSpec : ChangeSpec := { name := "fnExactFirstConflict", fn := fun _ => fun
  | [d1, d2, d3] => { results := [.lit (.bool true)], args := [d1, d2, d3] }
  | _ => none }
def fnExactFirstConflictRow : OpenClaim := { program := "ytegogiefokbmkaa", sum := "a227fa35d51b55444a7a5eda43607fff3e00c19151e824bf6ab1bb194f20521c", func := "loop.example/g01322/laws.FnExactFirstConflict", spec := "fnExactFirstConflict", unfollowed := true, recurses := true, apart := false }
def FnExactFirstConflictSaid : Prop := fnExactFirstConflictRow.holds Try.pinned (OpenSpec.ofChange fnExactFirstConflictSpec)

/-- ITS FALSE NEIGHBOUR: 'it returns false'. Refute it at one input. -/
def fnExactFirstConflictWrong : ChangeSpec := { name := "fnExactFirstConflict", fn := fun _ => fun
  | [d1, d2, d3] => { results := [.lit (.bool false)], args := [d1, d2, d3] }
  | _ => none }
def FnExactFirstConflictWrongFalsely : Prop := fnExactFirstConflictRow.holds Try.pinned (OpenSpec.ofChange fnExactFirstConflictWrong)

/-- 'laws.FnExactStonesNeeded': WHATEVER THE INPUT: true; the input reads as it did. -/
def fnExactStonesNeededSpec : ChangeSpec := { name := "fnExactStonesNeeded", fn := fun _ => fun
  | [d1, d2] => { results := [.lit (.bool true)], args := [d1, d2] }
  | _ => none }
def fnExactStonesNeededRow : OpenClaim := { program := "ytegogiefokbmkaa", sum := "a227fa35d51b55444a7a5eda43607fff3e00c19151e824bf6ab1bb194f20521c", func := "loop.example/g01322/laws.FnExactStonesNeeded", spec := "fnExactStonesNeeded", unfollowed := true, recurses := true, apart := false }
def FnExactStonesNeededSaid : Prop := fnExactStonesNeededRow.holds Try.pinned (OpenSpec.ofChange fnExactStonesNeededSpec)

/-- ITS FALSE NEIGHBOUR: 'it returns false'. Refute it at one input. -/
def fnExactStonesNeededWrong : ChangeSpec := { name := "fnExactStonesNeeded", fn := fun _ => fun
  | [d1, d2] => { results := [.lit (.bool false)], args := [d1, d2] }
  | _ => none }
def FnExactStonesNeededWrongFalsely : Prop := fnExactStonesNeededRow.holds Try.pinned (OpenSpec.ofChange fnExactStonesNeededWrong)

/-- 'laws.FnExactPartnerOf': WHATEVER THE INPUT: true; the input reads as it did. -/
def fnExactPartnerOfSpec : ChangeSpec := { name := "fnExactPartnerOf", fn := fun _ => fun
  | [d1, d2, d3] => { results := [.lit (.bool true)], args := [d1, d2, d3] }
  | _ => none }
def fnExactPartnerOfRow : OpenClaim := { program := "ytegogiefokbmkaa", sum := "a227fa35d51b55444a7a5eda43607fff3e00c19151e824bf6ab1bb194f20521c", func := "loop.example/g01322/laws.FnExactPartnerOf", spec := "fnExactPartnerOf", unfollowed := true, recurses := true, apart := false }
def FnExactPartnerOfSaid : Prop := fnExactPartnerOfRow.holds Try.pinned (OpenSpec.ofChange fnExactPartnerOfSpec)

/-- ITS FALSE NEIGHBOUR: 'it returns false'. Refute it at one input. -/
def fnExactPartnerOfWrong : ChangeSpec := { name := "fnExactPartnerOf", fn := fun _ => fun
  | [d1, d2, d3] => { results := [.lit (.bool false)], args := [d1, d2, d3] }
  | _ => none }
def FnExactPartnerOfWrongFalsely : Prop := fnExactPartnerOfRow.holds Try.pinned (OpenSpec.ofChange fnExactPartnerOfWrong)

/-- 'laws.FnExactFillByPeriods': WHATEVER THE INPUT: true; the input reads as it did. -/
def fnExactFillByPeriodsSpec : ChangeSpec := { name := "fnExactFillByPeriods", fn := fun _ => fun
  | [d1, d2, d3] => { results := [.lit (.bool true)], args := [d1, d2, d3] }
  | _ => none }
def fnExactFillByPeriodsRow : OpenClaim := { program := "ytegogiefokbmkaa", sum := "a227fa35d51b55444a7a5eda43607fff3e00c19151e824bf6ab1bb194f20521c", func := "loop.example/g01322/laws.FnExactFillByPeriods", spec := "fnExactFillByPeriods", unfollowed := true, recurses := true, apart := false }
def FnExactFillByPeriodsSaid : Prop := fnExactFillByPeriodsRow.holds Try.pinned (OpenSpec.ofChange fnExactFillByPeriodsSpec)

/-- ITS FALSE NEIGHBOUR: 'it returns false'. Refute it at one input. -/
def fnExactFillByPeriodsWrong : ChangeSpec := { name := "fnExactFillByPeriods", fn := fun _ => fun
  | [d1, d2, d3] => { results := [.lit (.bool false)], args := [d1, d2, d3] }
  | _ => none }
def FnExactFillByPeriodsWrongFalsely : Prop := fnExactFillByPeriodsRow.holds Try.pinned (OpenSpec.ofChange fnExactFillByPeriodsWrong)

/-- 'laws.FnExactLostCells': WHATEVER THE INPUT: true; the input reads as it did. -/
def fnExactLostCellsSpec : ChangeSpec := { name := "fnExactLostCells", fn := fun _ => fun
  | [d] => { results := [.lit (.bool true)], args := [d] }
  | _ => none }
def fnExactLostCellsRow : OpenClaim := { program := "ytegogiefokbmkaa", sum := "a227fa35d51b55444a7a5eda43607fff3e00c19151e824bf6ab1bb194f20521c", func := "loop.example/g01322/laws.FnExactLostCells", spec := "fnExactLostCells", unfollowed := true, recurses := true, apart := false }
def FnExactLostCellsSaid : Prop := fnExactLostCellsRow.holds Try.pinned (OpenSpec.ofChange fnExactLostCellsSpec)

/-- ITS FALSE NEIGHBOUR: 'it returns false'. Refute it at one input. -/
def fnExactLostCellsWrong : ChangeSpec := { name := "fnExactLostCells", fn := fun _ => fun
  | [d] => { results := [.lit (.bool false)], args := [d] }
  | _ => none }
def FnExactLostCellsWrongFalsely : Prop := fnExactLostCellsRow.holds Try.pinned (OpenSpec.ofChange fnExactLostCellsWrong)

/-- 'laws.FnSymmetric': WHATEVER THE INPUT: true; the input reads as it did. -/
def fnSymmetricSpec : ChangeSpec := { name := "fnSymmetric", fn := fun _ => fun
  | [d1, d2] => { results := [.lit (.bool true)], args := [d1, d2] }
  | _ => none }
def fnSymmetricRow : OpenClaim := { program := "ytegogiefokbmkaa", sum := "a227fa35d51b55444a7a5eda43607fff3e00c19151e824bf6ab1bb194f20521c", func := "loop.example/g01322/laws.FnSymmetric", spec := "fnSymmetric", unfollowed := true, recurses := true, apart := false }
def FnSymmetricSaid : Prop := fnSymmetricRow.holds Try.pinned (OpenSpec.ofChange fnSymmetricSpec)

/-- ITS FALSE NEIGHBOUR: 'it returns false'. Refute it at one input. -/
def fnSymmetricWrong : ChangeSpec := { name := "fnSymmetric", fn := fun _ => fun
  | [d1, d2] => { results := [.lit (.bool false)], args := [d1, d2] }
  | _ => none }
def FnSymmetricWrongFalsely : Prop := fnSymmetricRow.holds Try.pinned (OpenSpec.ofChange fnSymmetricWrong)

/-- 'laws.FnRepeats': WHATEVER THE INPUT: true; the input reads as it did. -/
def fnRepeatsSpec : ChangeSpec := { name := "fnRepeats", fn := fun _ => fun
  | [d1, d2] => { results := [.lit (.bool true)], args := [d1, d2] }
  | _ => none }
def fnRepeatsRow : OpenClaim := { program := "ytegogiefokbmkaa", sum := "a227fa35d51b55444a7a5eda43607fff3e00c19151e824bf6ab1bb194f20521c", func := "loop.example/g01322/laws.FnRepeats", spec := "fnRepeats", unfollowed := true, recurses := true, apart := false }
def FnRepeatsSaid : Prop := fnRepeatsRow.holds Try.pinned (OpenSpec.ofChange fnRepeatsSpec)

/-- ITS FALSE NEIGHBOUR: 'it returns false'. Refute it at one input. -/
def fnRepeatsWrong : ChangeSpec := { name := "fnRepeats", fn := fun _ => fun
  | [d1, d2] => { results := [.lit (.bool false)], args := [d1, d2] }
  | _ => none }
def FnRepeatsWrongFalsely : Prop := fnRepeatsRow.holds Try.pinned (OpenSpec.ofChange fnRepeatsWrong)

/- THE SECOND FORM. 'bulk': how many values and letters a reading holds, each counted each time it is reached (what is shared counts as often as it is met; a slice's spare places count too). A statement '..UptoSaid' is the law's where the arguments, and the package variables that the reading takes, are together of bulk at most 1048576: NARROWER than '..Said'. Prove '..Said' where nothing that the law and all that it calls make is longer than what came in: it says more and counts as full. Else prove '..UptoSaid'. A law counts once. -/
mutual
def uptoBulk {H : Type} : DataW H → Nat
  | .lit (.string bytes) => bytes.length + 1
  | .lit _ => 1
  | .nil => 1
  | .ptr d => uptoBulk d + 1
  | .slice elems spare => uptoBulkAll elems + uptoBulkAll spare + 1
  | .agg parts => uptoBulkAll parts + 1
  | .iface _ d => uptoBulk d + 1
  | .map entries => uptoBulkEntries entries + 1
  | .held _ => 1
def uptoBulkAll {H : Type} : List (DataW H) → Nat
  | [] => 0
  | d :: r => uptoBulk d + uptoBulkAll r
def uptoBulkEntries {H : Type} : List (Lit × DataW H) → Nat
  | [] => 0
  | x :: r => uptoBulkEntry x + uptoBulkEntries r
def uptoBulkEntry {H : Type} : Lit × DataW H → Nat
  | (.string bytes, d) => bytes.length + uptoBulk d + 1
  | (_, d) => uptoBulk d + 1
 end
def uptoSmall : (H : Type) → List (DataW H) → Bool := fun _ ds => decide (uptoBulkAll ds ≤ 1048576)
def OpenSpec.upto (s : _root_.Go.ChangeSpec) : _root_.Go.OpenSpec := { _root_.Go.OpenSpec.ofChange s with cond := some uptoSmall }

/-- 'laws.FnExactLoseCells', WHERE WHAT IT READS IS OF BULK AT MOST 1048576: true; the input reads as it did. -/
def fnExactLoseCellsUptoRow : OpenClaim := { program := "ytegogiefokbmkaa", sum := "a227fa35d51b55444a7a5eda43607fff3e00c19151e824bf6ab1bb194f20521c", func := "loop.example/g01322/laws.FnExactLoseCells", spec := "fnExactLoseCells", apart := false, narrowed := true }
def FnExactLoseCellsUptoSaid : Prop := fnExactLoseCellsUptoRow.holds Try.pinned (OpenSpec.upto fnExactLoseCellsSpec)

/-- 'laws.FnExactBestKind', WHERE WHAT IT READS IS OF BULK AT MOST 1048576: true; the input reads as it did. -/
def fnExactBestKindUptoRow : OpenClaim := { program := "ytegogiefokbmkaa", sum := "a227fa35d51b55444a7a5eda43607fff3e00c19151e824bf6ab1bb194f20521c", func := "loop.example/g01322/laws.FnExactBestKind", spec := "fnExactBestKind", unfollowed := true, recurses := true, apart := false, narrowed := true }
def FnExactBestKindUptoSaid : Prop := fnExactBestKindUptoRow.holds Try.pinned (OpenSpec.upto fnExactBestKindSpec)

/-- 'laws.FnExactFillByKind', WHERE WHAT IT READS IS OF BULK AT MOST 1048576: true; the input reads as it did. -/
def fnExactFillByKindUptoRow : OpenClaim := { program := "ytegogiefokbmkaa", sum := "a227fa35d51b55444a7a5eda43607fff3e00c19151e824bf6ab1bb194f20521c", func := "loop.example/g01322/laws.FnExactFillByKind", spec := "fnExactFillByKind", unfollowed := true, recurses := true, apart := false, narrowed := true }
def FnExactFillByKindUptoSaid : Prop := fnExactFillByKindUptoRow.holds Try.pinned (OpenSpec.upto fnExactFillByKindSpec)

/-- 'laws.FnExactRepeatsBy', WHERE WHAT IT READS IS OF BULK AT MOST 1048576: true; the input reads as it did. -/
def fnExactRepeatsByUptoRow : OpenClaim := { program := "ytegogiefokbmkaa", sum := "a227fa35d51b55444a7a5eda43607fff3e00c19151e824bf6ab1bb194f20521c", func := "loop.example/g01322/laws.FnExactRepeatsBy", spec := "fnExactRepeatsBy", unfollowed := true, recurses := true, apart := false, narrowed := true }
def FnExactRepeatsByUptoSaid : Prop := fnExactRepeatsByUptoRow.holds Try.pinned (OpenSpec.upto fnExactRepeatsBySpec)

/-- 'laws.FnExactPeriodsOf', WHERE WHAT IT READS IS OF BULK AT MOST 1048576: true; the input reads as it did. -/
def fnExactPeriodsOfUptoRow : OpenClaim := { program := "ytegogiefokbmkaa", sum := "a227fa35d51b55444a7a5eda43607fff3e00c19151e824bf6ab1bb194f20521c", func := "loop.example/g01322/laws.FnExactPeriodsOf", spec := "fnExactPeriodsOf", unfollowed := true, recurses := true, apart := false, narrowed := true }
def FnExactPeriodsOfUptoSaid : Prop := fnExactPeriodsOfUptoRow.holds Try.pinned (OpenSpec.upto fnExactPeriodsOfSpec)

/-- 'laws.FnExactFirstConflict', WHERE WHAT IT READS IS OF BULK AT MOST 1048576: true; the input reads as it did. -/
def fnExactFirstConflictUptoRow : OpenClaim := { program := "ytegogiefokbmkaa", sum := "a227fa35d51b55444a7a5eda43607fff3e00c19151e824bf6ab1bb194f20521c", func := "loop.example/g01322/laws.FnExactFirstConflict", spec := "fnExactFirstConflict", unfollowed := true, recurses := true, apart := false, narrowed := true }
def FnExactFirstConflictUptoSaid : Prop := fnExactFirstConflictUptoRow.holds Try.pinned (OpenSpec.upto fnExactFirstConflictSpec)

/-- 'laws.FnExactStonesNeeded', WHERE WHAT IT READS IS OF BULK AT MOST 1048576: true; the input reads as it did. -/
def fnExactStonesNeededUptoRow : OpenClaim := { program := "ytegogiefokbmkaa", sum := "a227fa35d51b55444a7a5eda43607fff3e00c19151e824bf6ab1bb194f20521c", func := "loop.example/g01322/laws.FnExactStonesNeeded", spec := "fnExactStonesNeeded", unfollowed := true, recurses := true, apart := false, narrowed := true }
def FnExactStonesNeededUptoSaid : Prop := fnExactStonesNeededUptoRow.holds Try.pinned (OpenSpec.upto fnExactStonesNeededSpec)

/-- 'laws.FnExactPartnerOf', WHERE WHAT IT READS IS OF BULK AT MOST 1048576: true; the input reads as it did. -/
def fnExactPartnerOfUptoRow : OpenClaim := { program := "ytegogiefokbmkaa", sum := "a227fa35d51b55444a7a5eda43607fff3e00c19151e824bf6ab1bb194f20521c", func := "loop.example/g01322/laws.FnExactPartnerOf", spec := "fnExactPartnerOf", unfollowed := true, recurses := true, apart := false, narrowed := true }
def FnExactPartnerOfUptoSaid : Prop := fnExactPartnerOfUptoRow.holds Try.pinned (OpenSpec.upto fnExactPartnerOfSpec)

/-- 'laws.FnExactFillByPeriods', WHERE WHAT IT READS IS OF BULK AT MOST 1048576: true; the input reads as it did. -/
def fnExactFillByPeriodsUptoRow : OpenClaim := { program := "ytegogiefokbmkaa", sum := "a227fa35d51b55444a7a5eda43607fff3e00c19151e824bf6ab1bb194f20521c", func := "loop.example/g01322/laws.FnExactFillByPeriods", spec := "fnExactFillByPeriods", unfollowed := true, recurses := true, apart := false, narrowed := true }
def FnExactFillByPeriodsUptoSaid : Prop := fnExactFillByPeriodsUptoRow.holds Try.pinned (OpenSpec.upto fnExactFillByPeriodsSpec)

/-- 'laws.FnExactLostCells', WHERE WHAT IT READS IS OF BULK AT MOST 1048576: true; the input reads as it did. -/
def fnExactLostCellsUptoRow : OpenClaim := { program := "ytegogiefokbmkaa", sum := "a227fa35d51b55444a7a5eda43607fff3e00c19151e824bf6ab1bb194f20521c", func := "loop.example/g01322/laws.FnExactLostCells", spec := "fnExactLostCells", unfollowed := true, recurses := true, apart := false, narrowed := true }
def FnExactLostCellsUptoSaid : Prop := fnExactLostCellsUptoRow.holds Try.pinned (OpenSpec.upto fnExactLostCellsSpec)

/-- 'laws.FnSymmetric', WHERE WHAT IT READS IS OF BULK AT MOST 1048576: true; the input reads as it did. -/
def fnSymmetricUptoRow : OpenClaim := { program := "ytegogiefokbmkaa", sum := "a227fa35d51b55444a7a5eda43607fff3e00c19151e824bf6ab1bb194f20521c", func := "loop.example/g01322/laws.FnSymmetric", spec := "fnSymmetric", unfollowed := true, recurses := true, apart := false, narrowed := true }
def FnSymmetricUptoSaid : Prop := fnSymmetricUptoRow.holds Try.pinned (OpenSpec.upto fnSymmetricSpec)

/-- 'laws.FnRepeats', WHERE WHAT IT READS IS OF BULK AT MOST 1048576: true; the input reads as it did. -/
def fnRepeatsUptoRow : OpenClaim := { program := "ytegogiefokbmkaa", sum := "a227fa35d51b55444a7a5eda43607fff3e00c19151e824bf6ab1bb194f20521c", func := "loop.example/g01322/laws.FnRepeats", spec := "fnRepeats", unfollowed := true, recurses := true, apart := false, narrowed := true }
def FnRepeatsUptoSaid : Prop := fnRepeatsUptoRow.holds Try.pinned (OpenSpec.upto fnRepeatsSpec)

end Rows
end Go.Proofs.Ytegogiefokbmkaa
