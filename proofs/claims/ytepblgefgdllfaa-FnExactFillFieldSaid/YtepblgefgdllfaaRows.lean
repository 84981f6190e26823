/-
  No cell of these rows narrows 'for every input' (looked for: loops, veiled, ifaces, maps, wideKeys, modest, calm, conditions, laid).
  DERIVED. THE GIVEN ROWS OF THIS SEAT. 6 by the template 'for every input the law returns true; each argument reads behind the call as it read before'; 0 by the template 'total and deterministic' (their statements: YtepblgefgdllfaaTotals.lean).
  GIVEN WITH THE SEED: the statements are not yours to turn. If you find one false, say at which input.
  Laid BY PROGRAM, IN A SANDBOX (cutbox-rows.mjs): the forced cells as the released guide's own fill.sh prints them over the translation 1c6cf49a4a19a830… (all of the seat's roots in one cut). By AI agents, Wed Nov 11 2026. No macro, syntax, notation, axiom, sorry.
-/
import Derived.Test.YtepblgefgdllfaaChecked
import GoSem.Claim
import GoSem.ClaimJoined
import GoSem.ClaimMapViews
import Derived.JoinedTies
import Derived.KernelRfl
namespace Go.Proofs.Ytepblgefgdllfaa
/- THE CELL 'sum', in the pinned program and in every row, IS THE sha256 OF THE DUMP (.gsa) THAT YtepblgefgdllfaaProg.lean LOADS. Nothing in Lean hashes anything: it is a label: what it is worth is what the hold of that sum in a sandbox is worth. -/
noncomputable def Try.pinned : Pinned := { name := "ytepblgefgdllfaa", sum := "1c6cf49a4a19a8304776ee4440d49b4dd6f1795780b7a41ef649ba9faffa6fb3", checked := Try.checked }
namespace Rows
def none {H : Type} : Left H := { results := [], args := [] }

/-- 'laws.FnExactFieldAt': WHATEVER THE INPUT: true; the input reads as it did. -/
def fnExactFieldAtSpec : ChangeSpec := { name := "fnExactFieldAt", fn := fun _ => fun
  | [d1, d2, d3] => { results := [.lit (.bool true)], args := [d1, d2, d3] }
  | _ => none }
def fnExactFieldAtRow : OpenClaim := { program := "ytepblgefgdllfaa", sum := "1c6cf49a4a19a8304776ee4440d49b4dd6f1795780b7a41ef649ba9faffa6fb3", func := "loop.example/g01322/laws.FnExactFieldAt", spec := "fnExactFieldAt", unfollowed := true, recurses := true, apart := false }
def FnExactFieldAtSaid : Prop := fnExactFieldAtRow.holds Try.pinned (OpenSpec.ofChange fnExactFieldAtSpec)

/-- ITS FALSE NEIGHBOUR: 'it returns false'. Refute it at one input. -/
def fnExactFieldAtWrong : ChangeSpec := { name := "fnExactFieldAt", fn := fun _ => fun
  | [d1, d2, d3] => { results := [.lit (.bool false)], args := [d1, d2, d3] }
  | _ => none }
def FnExactFieldAtWrongFalsely : Prop := fnExactFieldAtRow.holds Try.pinned (OpenSpec.ofChange fnExactFieldAtWrong)

/-- 'laws.FnExactOutlineOf': WHATEVER THE INPUT: true; the input reads as it did. -/
def fnExactOutlineOfSpec : ChangeSpec := { name := "fnExactOutlineOf", fn := fun _ => fun
  | [d1, d2, d3] => { results := [.lit (.bool true)], args := [d1, d2, d3] }
  | _ => none }
def fnExactOutlineOfRow : OpenClaim := { program := "ytepblgefgdllfaa", sum := "1c6cf49a4a19a8304776ee4440d49b4dd6f1795780b7a41ef649ba9faffa6fb3", func := "loop.example/g01322/laws.FnExactOutlineOf", spec := "fnExactOutlineOf", unfollowed := true, recurses := true, apart := false }
def FnExactOutlineOfSaid : Prop := fnExactOutlineOfRow.holds Try.pinned (OpenSpec.ofChange fnExactOutlineOfSpec)

/-- ITS FALSE NEIGHBOUR: 'it returns false'. Refute it at one input. -/
def fnExactOutlineOfWrong : ChangeSpec := { name := "fnExactOutlineOf", fn := fun _ => fun
  | [d1, d2, d3] => { results := [.lit (.bool false)], args := [d1, d2, d3] }
  | _ => none }
def FnExactOutlineOfWrongFalsely : Prop := fnExactOutlineOfRow.holds Try.pinned (OpenSpec.ofChange fnExactOutlineOfWrong)

/-- 'laws.FnExactFillField': WHATEVER THE INPUT: true; the input reads as it did. -/
def fnExactFillFieldSpec : ChangeSpec := { name := "fnExactFillField", fn := fun _ => fun
  | [d1, d2, d3, d4] => { results := [.lit (.bool true)], args := [d1, d2, d3, d4] }
  | _ => none }
def fnExactFillFieldRow : OpenClaim := { program := "ytepblgefgdllfaa", sum := "1c6cf49a4a19a8304776ee4440d49b4dd6f1795780b7a41ef649ba9faffa6fb3", func := "loop.example/g01322/laws.FnExactFillField", spec := "fnExactFillField", unfollowed := true, recurses := true, apart := false }
def FnExactFillFieldSaid : Prop := fnExactFillFieldRow.holds Try.pinned (OpenSpec.ofChange fnExactFillFieldSpec)

/-- ITS FALSE NEIGHBOUR: 'it returns false'. Refute it at one input. -/
def fnExactFillFieldWrong : ChangeSpec := { name := "fnExactFillField", fn := fun _ => fun
  | [d1, d2, d3, d4] => { results := [.lit (.bool false)], args := [d1, d2, d3, d4] }
  | _ => none }
def FnExactFillFieldWrongFalsely : Prop := fnExactFillFieldRow.holds Try.pinned (OpenSpec.ofChange fnExactFillFieldWrong)

/-- 'laws.FnExactLostCells': WHATEVER THE INPUT: true; the input reads as it did. -/
def fnExactLostCellsSpec : ChangeSpec := { name := "fnExactLostCells", fn := fun _ => fun
  | [d] => { results := [.lit (.bool true)], args := [d] }
  | _ => none }
def fnExactLostCellsRow : OpenClaim := { program := "ytepblgefgdllfaa", sum := "1c6cf49a4a19a8304776ee4440d49b4dd6f1795780b7a41ef649ba9faffa6fb3", func := "loop.example/g01322/laws.FnExactLostCells", spec := "fnExactLostCells", unfollowed := true, recurses := true, apart := false }
def FnExactLostCellsSaid : Prop := fnExactLostCellsRow.holds Try.pinned (OpenSpec.ofChange fnExactLostCellsSpec)

/-- ITS FALSE NEIGHBOUR: 'it returns false'. Refute it at one input. -/
def fnExactLostCellsWrong : ChangeSpec := { name := "fnExactLostCells", fn := fun _ => fun
  | [d] => { results := [.lit (.bool false)], args := [d] }
  | _ => none }
def FnExactLostCellsWrongFalsely : Prop := fnExactLostCellsRow.holds Try.pinned (OpenSpec.ofChange fnExactLostCellsWrong)

/-- 'laws.FnExactPartnerOf': WHATEVER THE INPUT: true; the input reads as it did. -/
def fnExactPartnerOfSpec : ChangeSpec := { name := "fnExactPartnerOf", fn := fun _ => fun
  | [d1, d2, d3] => { results := [.lit (.bool true)], args := [d1, d2, d3] }
  | _ => none }
def fnExactPartnerOfRow : OpenClaim := { program := "ytepblgefgdllfaa", sum := "1c6cf49a4a19a8304776ee4440d49b4dd6f1795780b7a41ef649ba9faffa6fb3", func := "loop.example/g01322/laws.FnExactPartnerOf", spec := "fnExactPartnerOf", unfollowed := true, recurses := true, apart := false }
def FnExactPartnerOfSaid : Prop := fnExactPartnerOfRow.holds Try.pinned (OpenSpec.ofChange fnExactPartnerOfSpec)

/-- ITS FALSE NEIGHBOUR: 'it returns false'. Refute it at one input. -/
def fnExactPartnerOfWrong : ChangeSpec := { name := "fnExactPartnerOf", fn := fun _ => fun
  | [d1, d2, d3] => { results := [.lit (.bool false)], args := [d1, d2, d3] }
  | _ => none }
def FnExactPartnerOfWrongFalsely : Prop := fnExactPartnerOfRow.holds Try.pinned (OpenSpec.ofChange fnExactPartnerOfWrong)

/-- 'laws.FnExactFillRound': WHATEVER THE INPUT: true; the input reads as it did. -/
def fnExactFillRoundSpec : ChangeSpec := { name := "fnExactFillRound", fn := fun _ => fun
  | [d] => { results := [.lit (.bool true)], args := [d] }
  | _ => none }
def fnExactFillRoundRow : OpenClaim := { program := "ytepblgefgdllfaa", sum := "1c6cf49a4a19a8304776ee4440d49b4dd6f1795780b7a41ef649ba9faffa6fb3", func := "loop.example/g01322/laws.FnExactFillRound", spec := "fnExactFillRound", unfollowed := true, recurses := true, apart := false }
def FnExactFillRoundSaid : Prop := fnExactFillRoundRow.holds Try.pinned (OpenSpec.ofChange fnExactFillRoundSpec)

/-- ITS FALSE NEIGHBOUR: 'it returns false'. Refute it at one input. -/
def fnExactFillRoundWrong : ChangeSpec := { name := "fnExactFillRound", fn := fun _ => fun
  | [d] => { results := [.lit (.bool false)], args := [d] }
  | _ => none }
def FnExactFillRoundWrongFalsely : Prop := fnExactFillRoundRow.holds Try.pinned (OpenSpec.ofChange fnExactFillRoundWrong)

/- THE SECOND FORM. 'bulk': how many values and letters a reading holds, each counted each time it is reached (what is shared counts as often as it is met; a slice's spare places count too). A statement '..UptoSaid' is the law's where the arguments, and the package variables that the reading takes, are together of bulk at most 1048576: NARROWER than '..Said'. Prove '..Said' where nothing that the law and all that it calls make is longer than what came in: it says more and counts as full. Else prove '..UptoSaid'. A law counts once. -/
mutual
def uptoBulk {H : Type} : DataW H → Nat
  | .lit (.string bytes) => bytes.length + 1
  | .lit _ => 1
  | .nil => 1
  | .ptr d => uptoBulk d + 1
  | .slice elems spare => uptoBulkAll elems + uptoBulkAll spare + 1
  | .agg parts => uptoBulkAll parts + 1
  | .iface _ d => uptoBulk d + 1
  | .map entries => uptoBulkEntries entries + 1
  | .held _ => 1
def uptoBulkAll {H : Type} : List (DataW H) → Nat
  | [] => 0
  | d :: r => uptoBulk d + uptoBulkAll r
def uptoBulkEntries {H : Type} : List (Lit × DataW H) → Nat
  | [] => 0
  | x :: r => uptoBulkEntry x + uptoBulkEntries r
def uptoBulkEntry {H : Type} : Lit × DataW H → Nat
  | (.string bytes, d) => bytes.length + uptoBulk d + 1
  | (_, d) => uptoBulk d + 1
 end
def uptoSmall : (H : Type) → List (DataW H) → Bool := fun _ ds => decide (uptoBulkAll ds ≤ 1048576)
def OpenSpec.upto (s : _root_.Go.ChangeSpec) : _root_.Go.OpenSpec := { _root_.Go.OpenSpec.ofChange s with cond := some uptoSmall }

/-- 'laws.FnExactFieldAt', WHERE WHAT IT READS IS OF BULK AT MOST 1048576: true; the input reads as it did. -/
def fnExactFieldAtUptoRow : OpenClaim := { program := "ytepblgefgdllfaa", sum := "1c6cf49a4a19a8304776ee4440d49b4dd6f1795780b7a41ef649ba9faffa6fb3", func := "loop.example/g01322/laws.FnExactFieldAt", spec := "fnExactFieldAt", unfollowed := true, recurses := true, apart := false, narrowed := true }
def FnExactFieldAtUptoSaid : Prop := fnExactFieldAtUptoRow.holds Try.pinned (OpenSpec.upto fnExactFieldAtSpec)

/-- 'laws.FnExactOutlineOf', WHERE WHAT IT READS IS OF BULK AT MOST 1048576: true; the input reads as it did. -/
def fnExactOutlineOfUptoRow : OpenClaim := { program := "ytepblgefgdllfaa", sum := "1c6cf49a4a19a8304776ee4440d49b4dd6f1795780b7a41ef649ba9faffa6fb3", func := "loop.example/g01322/laws.FnExactOutlineOf", spec := "fnExactOutlineOf", unfollowed := true, recurses := true, apart := false, narrowed := true }
def FnExactOutlineOfUptoSaid : Prop := fnExactOutlineOfUptoRow.holds Try.pinned (OpenSpec.upto fnExactOutlineOfSpec)

/-- 'laws.FnExactFillField', WHERE WHAT IT READS IS OF BULK AT MOST 1048576: true; the input reads as it did. -/
def fnExactFillFieldUptoRow : OpenClaim := { program := "ytepblgefgdllfaa", sum := "1c6cf49a4a19a8304776ee4440d49b4dd6f1795780b7a41ef649ba9faffa6fb3", func := "loop.example/g01322/laws.FnExactFillField", spec := "fnExactFillField", unfollowed := true, recurses := true, apart := false, narrowed := true }
def FnExactFillFieldUptoSaid : Prop := fnExactFillFieldUptoRow.holds Try.pinned (OpenSpec.upto fnExactFillFieldSpec)

/-- 'laws.FnExactLostCells', WHERE WHAT IT READS IS OF BULK AT MOST 1048576: true; the input reads as it did. -/
def fnExactLostCellsUptoRow : OpenClaim := { program := "ytepblgefgdllfaa", sum := "1c6cf49a4a19a8304776ee4440d49b4dd6f1795780b7a41ef649ba9faffa6fb3", func := "loop.example/g01322/laws.FnExactLostCells", spec := "fnExactLostCells", unfollowed := true, recurses := true, apart := false, narrowed := true }
def FnExactLostCellsUptoSaid : Prop := fnExactLostCellsUptoRow.holds Try.pinned (OpenSpec.upto fnExactLostCellsSpec)

/-- 'laws.FnExactPartnerOf', WHERE WHAT IT READS IS OF BULK AT MOST 1048576: true; the input reads as it did. -/
def fnExactPartnerOfUptoRow : OpenClaim := { program := "ytepblgefgdllfaa", sum := "1c6cf49a4a19a8304776ee4440d49b4dd6f1795780b7a41ef649ba9faffa6fb3", func := "loop.example/g01322/laws.FnExactPartnerOf", spec := "fnExactPartnerOf", unfollowed := true, recurses := true, apart := false, narrowed := true }
def FnExactPartnerOfUptoSaid : Prop := fnExactPartnerOfUptoRow.holds Try.pinned (OpenSpec.upto fnExactPartnerOfSpec)

/-- 'laws.FnExactFillRound', WHERE WHAT IT READS IS OF BULK AT MOST 1048576: true; the input reads as it did. -/
def fnExactFillRoundUptoRow : OpenClaim := { program := "ytepblgefgdllfaa", sum := "1c6cf49a4a19a8304776ee4440d49b4dd6f1795780b7a41ef649ba9faffa6fb3", func := "loop.example/g01322/laws.FnExactFillRound", spec := "fnExactFillRound", unfollowed := true, recurses := true, apart := false, narrowed := true }
def FnExactFillRoundUptoSaid : Prop := fnExactFillRoundUptoRow.holds Try.pinned (OpenSpec.upto fnExactFillRoundSpec)

end Rows
end Go.Proofs.Ytepblgefgdllfaa
