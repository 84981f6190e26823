/-
  No cell of these rows narrows 'for every input' (looked for: loops, veiled, ifaces, maps, wideKeys, modest, calm, conditions, laid).
  DERIVED. THE GIVEN ROWS OF THIS SEAT. 12 by the template 'for every input the law returns true; each argument reads behind the call as it read before'; 0 by the template 'total and deterministic' (their statements: YtonkmhncggcenaaTotals.lean).
  GIVEN WITH THE SEED: the statements are not yours to turn. If you find one false, say at which input.
  Laid BY PROGRAM, IN A SANDBOX (cutbox-rows.mjs): the forced cells as the released guide's own fill.sh prints them over the translation 4ef20f352738e10c… (all of the seat's roots in one cut). By AI agents, Wed Nov 11 2026. No macro, syntax, notation, axiom, sorry.
-/
import Derived.Test.YtonkmhncggcenaaChecked
import GoSem.Claim
import GoSem.ClaimJoined
import GoSem.ClaimMapViews
import Derived.JoinedTies
import Derived.KernelRfl
namespace Go.Proofs.Ytonkmhncggcenaa
/- THE CELL 'sum', in the pinned program and in every row, IS THE sha256 OF THE DUMP (.gsa) THAT YtonkmhncggcenaaProg.lean LOADS. Nothing in Lean hashes anything: it is a label: what it is worth is what the hold of that sum in a sandbox is worth. -/
noncomputable def Try.pinned : Pinned := { name := "ytonkmhncggcenaa", sum := "4ef20f352738e10c320cdc4c8b79443df85a7623ec883ad660ec23bcab3f429c", checked := Try.checked }
namespace Rows
def none {H : Type} : Left H := { results := [], args := [] }

/-- 'laws.FnExactValidRow': WHATEVER THE INPUT: true; the input reads as it did. -/
def fnExactValidRowSpec : ChangeSpec := { name := "fnExactValidRow", fn := fun _ => fun
  | [d] => { results := [.lit (.bool true)], args := [d] }
  | _ => none }
def fnExactValidRowRow : OpenClaim := { program := "ytonkmhncggcenaa", sum := "4ef20f352738e10c320cdc4c8b79443df85a7623ec883ad660ec23bcab3f429c", func := "loop.example/g01322/laws.FnExactValidRow", spec := "fnExactValidRow", apart := false }
def FnExactValidRowSaid : Prop := fnExactValidRowRow.holds Try.pinned (OpenSpec.ofChange fnExactValidRowSpec)

/-- ITS FALSE NEIGHBOUR: 'it returns false'. Refute it at one input. -/
def fnExactValidRowWrong : ChangeSpec := { name := "fnExactValidRow", fn := fun _ => fun
  | [d] => { results := [.lit (.bool false)], args := [d] }
  | _ => none }
def FnExactValidRowWrongFalsely : Prop := fnExactValidRowRow.holds Try.pinned (OpenSpec.ofChange fnExactValidRowWrong)

/-- 'laws.FnExactSameRow': WHATEVER THE INPUT: true; the input reads as it did. -/
def fnExactSameRowSpec : ChangeSpec := { name := "fnExactSameRow", fn := fun _ => fun
  | [d1, d2] => { results := [.lit (.bool true)], args := [d1, d2] }
  | _ => none }
def fnExactSameRowRow : OpenClaim := { program := "ytonkmhncggcenaa", sum := "4ef20f352738e10c320cdc4c8b79443df85a7623ec883ad660ec23bcab3f429c", func := "loop.example/g01322/laws.FnExactSameRow", spec := "fnExactSameRow", apart := false }
def FnExactSameRowSaid : Prop := fnExactSameRowRow.holds Try.pinned (OpenSpec.ofChange fnExactSameRowSpec)

/-- ITS FALSE NEIGHBOUR: 'it returns false'. Refute it at one input. -/
def fnExactSameRowWrong : ChangeSpec := { name := "fnExactSameRow", fn := fun _ => fun
  | [d1, d2] => { results := [.lit (.bool false)], args := [d1, d2] }
  | _ => none }
def FnExactSameRowWrongFalsely : Prop := fnExactSameRowRow.holds Try.pinned (OpenSpec.ofChange fnExactSameRowWrong)

/-- 'laws.FnExactLengthOf': WHATEVER THE INPUT: true; the input reads as it did. -/
def fnExactLengthOfSpec : ChangeSpec := { name := "fnExactLengthOf", fn := fun _ => fun
  | [d1, d2] => { results := [.lit (.bool true)], args := [d1, d2] }
  | _ => none }
def fnExactLengthOfRow : OpenClaim := { program := "ytonkmhncggcenaa", sum := "4ef20f352738e10c320cdc4c8b79443df85a7623ec883ad660ec23bcab3f429c", func := "loop.example/g01322/laws.FnExactLengthOf", spec := "fnExactLengthOf", unfollowed := true, recurses := true, apart := false }
def FnExactLengthOfSaid : Prop := fnExactLengthOfRow.holds Try.pinned (OpenSpec.ofChange fnExactLengthOfSpec)

/-- ITS FALSE NEIGHBOUR: 'it returns false'. Refute it at one input. -/
def fnExactLengthOfWrong : ChangeSpec := { name := "fnExactLengthOf", fn := fun _ => fun
  | [d1, d2] => { results := [.lit (.bool false)], args := [d1, d2] }
  | _ => none }
def FnExactLengthOfWrongFalsely : Prop := fnExactLengthOfRow.holds Try.pinned (OpenSpec.ofChange fnExactLengthOfWrong)

/-- 'laws.FnExactJointsOf': WHATEVER THE INPUT: true; the input reads as it did. -/
def fnExactJointsOfSpec : ChangeSpec := { name := "fnExactJointsOf", fn := fun _ => fun
  | [d1, d2] => { results := [.lit (.bool true)], args := [d1, d2] }
  | _ => none }
def fnExactJointsOfRow : OpenClaim := { program := "ytonkmhncggcenaa", sum := "4ef20f352738e10c320cdc4c8b79443df85a7623ec883ad660ec23bcab3f429c", func := "loop.example/g01322/laws.FnExactJointsOf", spec := "fnExactJointsOf", unfollowed := true, recurses := true, apart := false }
def FnExactJointsOfSaid : Prop := fnExactJointsOfRow.holds Try.pinned (OpenSpec.ofChange fnExactJointsOfSpec)

/-- ITS FALSE NEIGHBOUR: 'it returns false'. Refute it at one input. -/
def fnExactJointsOfWrong : ChangeSpec := { name := "fnExactJointsOf", fn := fun _ => fun
  | [d1, d2] => { results := [.lit (.bool false)], args := [d1, d2] }
  | _ => none }
def FnExactJointsOfWrongFalsely : Prop := fnExactJointsOfRow.holds Try.pinned (OpenSpec.ofChange fnExactJointsOfWrong)

/-- 'laws.FnExactStoneOver': WHATEVER THE INPUT: true; the input reads as it did. -/
def fnExactStoneOverSpec : ChangeSpec := { name := "fnExactStoneOver", fn := fun _ => fun
  | [d1, d2, d3] => { results := [.lit (.bool true)], args := [d1, d2, d3] }
  | _ => none }
def fnExactStoneOverRow : OpenClaim := { program := "ytonkmhncggcenaa", sum := "4ef20f352738e10c320cdc4c8b79443df85a7623ec883ad660ec23bcab3f429c", func := "loop.example/g01322/laws.FnExactStoneOver", spec := "fnExactStoneOver", unfollowed := true, recurses := true, apart := false }
def FnExactStoneOverSaid : Prop := fnExactStoneOverRow.holds Try.pinned (OpenSpec.ofChange fnExactStoneOverSpec)

/-- ITS FALSE NEIGHBOUR: 'it returns false'. Refute it at one input. -/
def fnExactStoneOverWrong : ChangeSpec := { name := "fnExactStoneOver", fn := fun _ => fun
  | [d1, d2, d3] => { results := [.lit (.bool false)], args := [d1, d2, d3] }
  | _ => none }
def FnExactStoneOverWrongFalsely : Prop := fnExactStoneOverRow.holds Try.pinned (OpenSpec.ofChange fnExactStoneOverWrong)

/-- 'laws.FnExactEvenRow': WHATEVER THE INPUT: true; the input reads as it did. -/
def fnExactEvenRowSpec : ChangeSpec := { name := "fnExactEvenRow", fn := fun _ => fun
  | [d1, d2, d3] => { results := [.lit (.bool true)], args := [d1, d2, d3] }
  | _ => none }
def fnExactEvenRowRow : OpenClaim := { program := "ytonkmhncggcenaa", sum := "4ef20f352738e10c320cdc4c8b79443df85a7623ec883ad660ec23bcab3f429c", func := "loop.example/g01322/laws.FnExactEvenRow", spec := "fnExactEvenRow", apart := false }
def FnExactEvenRowSaid : Prop := fnExactEvenRowRow.holds Try.pinned (OpenSpec.ofChange fnExactEvenRowSpec)

/-- ITS FALSE NEIGHBOUR: 'it returns false'. Refute it at one input. -/
def fnExactEvenRowWrong : ChangeSpec := { name := "fnExactEvenRow", fn := fun _ => fun
  | [d1, d2, d3] => { results := [.lit (.bool false)], args := [d1, d2, d3] }
  | _ => none }
def FnExactEvenRowWrongFalsely : Prop := fnExactEvenRowRow.holds Try.pinned (OpenSpec.ofChange fnExactEvenRowWrong)

/-- 'laws.FnExactFitRow': WHATEVER THE INPUT: true; the input reads as it did. -/
def fnExactFitRowSpec : ChangeSpec := { name := "fnExactFitRow", fn := fun _ => fun
  | [d1, d2, d3, d4, d5] => { results := [.lit (.bool true)], args := [d1, d2, d3, d4, d5] }
  | _ => none }
def fnExactFitRowRow : OpenClaim := { program := "ytonkmhncggcenaa", sum := "4ef20f352738e10c320cdc4c8b79443df85a7623ec883ad660ec23bcab3f429c", func := "loop.example/g01322/laws.FnExactFitRow", spec := "fnExactFitRow", unfollowed := true, recurses := true, apart := false }
def FnExactFitRowSaid : Prop := fnExactFitRowRow.holds Try.pinned (OpenSpec.ofChange fnExactFitRowSpec)

/-- ITS FALSE NEIGHBOUR: 'it returns false'. Refute it at one input. -/
def fnExactFitRowWrong : ChangeSpec := { name := "fnExactFitRow", fn := fun _ => fun
  | [d1, d2, d3, d4, d5] => { results := [.lit (.bool false)], args := [d1, d2, d3, d4, d5] }
  | _ => none }
def FnExactFitRowWrongFalsely : Prop := fnExactFitRowRow.holds Try.pinned (OpenSpec.ofChange fnExactFitRowWrong)

/-- 'laws.FnExactChangeRow': WHATEVER THE INPUT: true; the input reads as it did. -/
def fnExactChangeRowSpec : ChangeSpec := { name := "fnExactChangeRow", fn := fun _ => fun
  | [d1, d2, d3, d4, d5] => { results := [.lit (.bool true)], args := [d1, d2, d3, d4, d5] }
  | _ => none }
def fnExactChangeRowRow : OpenClaim := { program := "ytonkmhncggcenaa", sum := "4ef20f352738e10c320cdc4c8b79443df85a7623ec883ad660ec23bcab3f429c", func := "loop.example/g01322/laws.FnExactChangeRow", spec := "fnExactChangeRow", apart := false }
def FnExactChangeRowSaid : Prop := fnExactChangeRowRow.holds Try.pinned (OpenSpec.ofChange fnExactChangeRowSpec)

/-- ITS FALSE NEIGHBOUR: 'it returns false'. Refute it at one input. -/
def fnExactChangeRowWrong : ChangeSpec := { name := "fnExactChangeRow", fn := fun _ => fun
  | [d1, d2, d3, d4, d5] => { results := [.lit (.bool false)], args := [d1, d2, d3, d4, d5] }
  | _ => none }
def FnExactChangeRowWrongFalsely : Prop := fnExactChangeRowRow.holds Try.pinned (OpenSpec.ofChange fnExactChangeRowWrong)

/-- 'laws.FnExactClashesOf': WHATEVER THE INPUT: true; the input reads as it did. -/
def fnExactClashesOfSpec : ChangeSpec := { name := "fnExactClashesOf", fn := fun _ => fun
  | [d1, d2, d3, d4] => { results := [.lit (.bool true)], args := [d1, d2, d3, d4] }
  | _ => none }
def fnExactClashesOfRow : OpenClaim := { program := "ytonkmhncggcenaa", sum := "4ef20f352738e10c320cdc4c8b79443df85a7623ec883ad660ec23bcab3f429c", func := "loop.example/g01322/laws.FnExactClashesOf", spec := "fnExactClashesOf", unfollowed := true, recurses := true, apart := false }
def FnExactClashesOfSaid : Prop := fnExactClashesOfRow.holds Try.pinned (OpenSpec.ofChange fnExactClashesOfSpec)

/-- ITS FALSE NEIGHBOUR: 'it returns false'. Refute it at one input. -/
def fnExactClashesOfWrong : ChangeSpec := { name := "fnExactClashesOf", fn := fun _ => fun
  | [d1, d2, d3, d4] => { results := [.lit (.bool false)], args := [d1, d2, d3, d4] }
  | _ => none }
def FnExactClashesOfWrongFalsely : Prop := fnExactClashesOfRow.holds Try.pinned (OpenSpec.ofChange fnExactClashesOfWrong)

/-- 'laws.FnExactLeastApart': WHATEVER THE INPUT: true; the input reads as it did. -/
def fnExactLeastApartSpec : ChangeSpec := { name := "fnExactLeastApart", fn := fun _ => fun
  | [d1, d2, d3] => { results := [.lit (.bool true)], args := [d1, d2, d3] }
  | _ => none }
def fnExactLeastApartRow : OpenClaim := { program := "ytonkmhncggcenaa", sum := "4ef20f352738e10c320cdc4c8b79443df85a7623ec883ad660ec23bcab3f429c", func := "loop.example/g01322/laws.FnExactLeastApart", spec := "fnExactLeastApart", unfollowed := true, recurses := true, apart := false }
def FnExactLeastApartSaid : Prop := fnExactLeastApartRow.holds Try.pinned (OpenSpec.ofChange fnExactLeastApartSpec)

/-- ITS FALSE NEIGHBOUR: 'it returns false'. Refute it at one input. -/
def fnExactLeastApartWrong : ChangeSpec := { name := "fnExactLeastApart", fn := fun _ => fun
  | [d1, d2, d3] => { results := [.lit (.bool false)], args := [d1, d2, d3] }
  | _ => none }
def FnExactLeastApartWrongFalsely : Prop := fnExactLeastApartRow.holds Try.pinned (OpenSpec.ofChange fnExactLeastApartWrong)

/-- 'laws.FnExactBrickRow': WHATEVER THE INPUT: true; the input reads as it did. -/
def fnExactBrickRowSpec : ChangeSpec := { name := "fnExactBrickRow", fn := fun _ => fun
  | [d1, d2, d3, d4] => { results := [.lit (.bool true)], args := [d1, d2, d3, d4] }
  | _ => none }
def fnExactBrickRowRow : OpenClaim := { program := "ytonkmhncggcenaa", sum := "4ef20f352738e10c320cdc4c8b79443df85a7623ec883ad660ec23bcab3f429c", func := "loop.example/g01322/laws.FnExactBrickRow", spec := "fnExactBrickRow", apart := false }
def FnExactBrickRowSaid : Prop := fnExactBrickRowRow.holds Try.pinned (OpenSpec.ofChange fnExactBrickRowSpec)

/-- ITS FALSE NEIGHBOUR: 'it returns false'. Refute it at one input. -/
def fnExactBrickRowWrong : ChangeSpec := { name := "fnExactBrickRow", fn := fun _ => fun
  | [d1, d2, d3, d4] => { results := [.lit (.bool false)], args := [d1, d2, d3, d4] }
  | _ => none }
def FnExactBrickRowWrongFalsely : Prop := fnExactBrickRowRow.holds Try.pinned (OpenSpec.ofChange fnExactBrickRowWrong)

/-- 'laws.FnExactFirstClash': WHATEVER THE INPUT: true; the input reads as it did. -/
def fnExactFirstClashSpec : ChangeSpec := { name := "fnExactFirstClash", fn := fun _ => fun
  | [d1, d2, d3] => { results := [.lit (.bool true)], args := [d1, d2, d3] }
  | _ => none }
def fnExactFirstClashRow : OpenClaim := { program := "ytonkmhncggcenaa", sum := "4ef20f352738e10c320cdc4c8b79443df85a7623ec883ad660ec23bcab3f429c", func := "loop.example/g01322/laws.FnExactFirstClash", spec := "fnExactFirstClash", unfollowed := true, recurses := true, apart := false }
def FnExactFirstClashSaid : Prop := fnExactFirstClashRow.holds Try.pinned (OpenSpec.ofChange fnExactFirstClashSpec)

/-- ITS FALSE NEIGHBOUR: 'it returns false'. Refute it at one input. -/
def fnExactFirstClashWrong : ChangeSpec := { name := "fnExactFirstClash", fn := fun _ => fun
  | [d1, d2, d3] => { results := [.lit (.bool false)], args := [d1, d2, d3] }
  | _ => none }
def FnExactFirstClashWrongFalsely : Prop := fnExactFirstClashRow.holds Try.pinned (OpenSpec.ofChange fnExactFirstClashWrong)

/- THE SECOND FORM. 'bulk': how many values and letters a reading holds, each counted each time it is reached (what is shared counts as often as it is met; a slice's spare places count too). A statement '..UptoSaid' is the law's where the arguments, and the package variables that the reading takes, are together of bulk at most 1048576: NARROWER than '..Said'. Prove '..Said' where nothing that the law and all that it calls make is longer than what came in: it says more and counts as full. Else prove '..UptoSaid'. A law counts once. -/
mutual
def uptoBulk {H : Type} : DataW H → Nat
  | .lit (.string bytes) => bytes.length + 1
  | .lit _ => 1
  | .nil => 1
  | .ptr d => uptoBulk d + 1
  | .slice elems spare => uptoBulkAll elems + uptoBulkAll spare + 1
  | .agg parts => uptoBulkAll parts + 1
  | .iface _ d => uptoBulk d + 1
  | .map entries => uptoBulkEntries entries + 1
  | .held _ => 1
def uptoBulkAll {H : Type} : List (DataW H) → Nat
  | [] => 0
  | d :: r => uptoBulk d + uptoBulkAll r
def uptoBulkEntries {H : Type} : List (Lit × DataW H) → Nat
  | [] => 0
  | x :: r => uptoBulkEntry x + uptoBulkEntries r
def uptoBulkEntry {H : Type} : Lit × DataW H → Nat
  | (.string bytes, d) => bytes.length + uptoBulk d + 1
  | (_, d) => uptoBulk d + 1
 end
def uptoSmall : (H : Type) → List (DataW H) → Bool := fun _ ds => decide (uptoBulkAll ds ≤ 1048576)
def OpenSpec.upto (s : _root_.Go.ChangeSpec) : _root_.Go.OpenSpec := { _root_.Go.OpenSpec.ofChange s with cond := some uptoSmall }

/-- 'laws.FnExactValidRow', WHERE WHAT IT READS IS OF BULK AT MOST 1048576: true; the input reads as it did. -/
def fnExactValidRowUptoRow : OpenClaim := { program := "ytonkmhncggcenaa", sum := "4ef20f352738e10c320cdc4c8b79443df85a7623ec883ad660ec23bcab3f429c", func := "loop.example/g01322/laws.FnExactValidRow", spec := "fnExactValidRow", apart := false, narrowed := true }
def FnExactValidRowUptoSaid : Prop := fnExactValidRowUptoRow.holds Try.pinned (OpenSpec.upto fnExactValidRowSpec)

/-- 'laws.FnExactSameRow', WHERE WHAT IT READS IS OF BULK AT MOST 1048576: true; the input reads as it did. -/
def fnExactSameRowUptoRow : OpenClaim := { program := "ytonkmhncggcenaa", sum := "4ef20f352738e10c320cdc4c8b79443df85a7623ec883ad660ec23bcab3f429c", func := "loop.example/g01322/laws.FnExactSameRow", spec := "fnExactSameRow", apart := false, narrowed := true }
def FnExactSameRowUptoSaid : Prop := fnExactSameRowUptoRow.holds Try.pinned (OpenSpec.upto fnExactSameRowSpec)

/-- 'laws.FnExactLengthOf', WHERE WHAT IT READS IS OF BULK AT MOST 1048576: true; the input reads as it did. -/
def fnExactLengthOfUptoRow : OpenClaim := { program := "ytonkmhncggcenaa", sum := "4ef20f352738e10c320cdc4c8b79443df85a7623ec883ad660ec23bcab3f429c", func := "loop.example/g01322/laws.FnExactLengthOf", spec := "fnExactLengthOf", unfollowed := true, recurses := true, apart := false, narrowed := true }
def FnExactLengthOfUptoSaid : Prop := fnExactLengthOfUptoRow.holds Try.pinned (OpenSpec.upto fnExactLengthOfSpec)

/-- 'laws.FnExactJointsOf', WHERE WHAT IT READS IS OF BULK AT MOST 1048576: true; the input reads as it did. -/
def fnExactJointsOfUptoRow : OpenClaim := { program := "ytonkmhncggcenaa", sum := "4ef20f352738e10c320cdc4c8b79443df85a7623ec883ad660ec23bcab3f429c", func := "loop.example/g01322/laws.FnExactJointsOf", spec := "fnExactJointsOf", unfollowed := true, recurses := true, apart := false, narrowed := true }
def FnExactJointsOfUptoSaid : Prop := fnExactJointsOfUptoRow.holds Try.pinned (OpenSpec.upto fnExactJointsOfSpec)

/-- 'laws.FnExactStoneOver', WHERE WHAT IT READS IS OF BULK AT MOST 1048576: true; the input reads as it did. -/
def fnExactStoneOverUptoRow : OpenClaim := { program := "ytonkmhncggcenaa", sum := "4ef20f352738e10c320cdc4c8b79443df85a7623ec883ad660ec23bcab3f429c", func := "loop.example/g01322/laws.FnExactStoneOver", spec := "fnExactStoneOver", unfollowed := true, recurses := true, apart := false, narrowed := true }
def FnExactStoneOverUptoSaid : Prop := fnExactStoneOverUptoRow.holds Try.pinned (OpenSpec.upto fnExactStoneOverSpec)

/-- 'laws.FnExactEvenRow', WHERE WHAT IT READS IS OF BULK AT MOST 1048576: true; the input reads as it did. -/
def fnExactEvenRowUptoRow : OpenClaim := { program := "ytonkmhncggcenaa", sum := "4ef20f352738e10c320cdc4c8b79443df85a7623ec883ad660ec23bcab3f429c", func := "loop.example/g01322/laws.FnExactEvenRow", spec := "fnExactEvenRow", apart := false, narrowed := true }
def FnExactEvenRowUptoSaid : Prop := fnExactEvenRowUptoRow.holds Try.pinned (OpenSpec.upto fnExactEvenRowSpec)

/-- 'laws.FnExactFitRow', WHERE WHAT IT READS IS OF BULK AT MOST 1048576: true; the input reads as it did. -/
def fnExactFitRowUptoRow : OpenClaim := { program := "ytonkmhncggcenaa", sum := "4ef20f352738e10c320cdc4c8b79443df85a7623ec883ad660ec23bcab3f429c", func := "loop.example/g01322/laws.FnExactFitRow", spec := "fnExactFitRow", unfollowed := true, recurses := true, apart := false, narrowed := true }
def FnExactFitRowUptoSaid : Prop := fnExactFitRowUptoRow.holds Try.pinned (OpenSpec.upto fnExactFitRowSpec)

/-- 'laws.FnExactChangeRow', WHERE WHAT IT READS IS OF BULK AT MOST 1048576: true; the input reads as it did. -/
def fnExactChangeRowUptoRow : OpenClaim := { program := "ytonkmhncggcenaa", sum := "4ef20f352738e10c320cdc4c8b79443df85a7623ec883ad660ec23bcab3f429c", func := "loop.example/g01322/laws.FnExactChangeRow", spec := "fnExactChangeRow", apart := false, narrowed := true }
def FnExactChangeRowUptoSaid : Prop := fnExactChangeRowUptoRow.holds Try.pinned (OpenSpec.upto fnExactChangeRowSpec)

/-- 'laws.FnExactClashesOf', WHERE WHAT IT READS IS OF BULK AT MOST 1048576: true; the input reads as it did. -/
def fnExactClashesOfUptoRow : OpenClaim := { program := "ytonkmhncggcenaa", sum := "4ef20f352738e10c320cdc4c8b79443df85a7623ec883ad660ec23bcab3f429c", func := "loop.example/g01322/laws.FnExactClashesOf", spec := "fnExactClashesOf", unfollowed := true, recurses := true, apart := false, narrowed := true }
def FnExactClashesOfUptoSaid : Prop := fnExactClashesOfUptoRow.holds Try.pinned (OpenSpec.upto fnExactClashesOfSpec)

/-- 'laws.FnExactLeastApart', WHERE WHAT IT READS IS OF BULK AT MOST 1048576: true; the input reads as it did. -/
def fnExactLeastApartUptoRow : OpenClaim := { program := "ytonkmhncggcenaa", sum := "4ef20f352738e10c320cdc4c8b79443df85a7623ec883ad660ec23bcab3f429c", func := "loop.example/g01322/laws.FnExactLeastApart", spec := "fnExactLeastApart", unfollowed := true, recurses := true, apart := false, narrowed := true }
def FnExactLeastApartUptoSaid : Prop := fnExactLeastApartUptoRow.holds Try.pinned (OpenSpec.upto fnExactLeastApartSpec)

/-- 'laws.FnExactBrickRow', WHERE WHAT IT READS IS OF BULK AT MOST 1048576: true; the input reads as it did. -/
def fnExactBrickRowUptoRow : OpenClaim := { program := "ytonkmhncggcenaa", sum := "4ef20f352738e10c320cdc4c8b79443df85a7623ec883ad660ec23bcab3f429c", func := "loop.example/g01322/laws.FnExactBrickRow", spec := "fnExactBrickRow", apart := false, narrowed := true }
def FnExactBrickRowUptoSaid : Prop := fnExactBrickRowUptoRow.holds Try.pinned (OpenSpec.upto fnExactBrickRowSpec)

/-- 'laws.FnExactFirstClash', WHERE WHAT IT READS IS OF BULK AT MOST 1048576: true; the input reads as it did. -/
def fnExactFirstClashUptoRow : OpenClaim := { program := "ytonkmhncggcenaa", sum := "4ef20f352738e10c320cdc4c8b79443df85a7623ec883ad660ec23bcab3f429c", func := "loop.example/g01322/laws.FnExactFirstClash", spec := "fnExactFirstClash", unfollowed := true, recurses := true, apart := false, narrowed := true }
def FnExactFirstClashUptoSaid : Prop := fnExactFirstClashUptoRow.holds Try.pinned (OpenSpec.upto fnExactFirstClashSpec)

end Rows
end Go.Proofs.Ytonkmhncggcenaa
