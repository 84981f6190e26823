/-
  No cell of these rows narrows 'for every input' (looked for: loops, veiled, ifaces, maps, wideKeys, modest, calm, conditions, laid).
  DERIVED. THE GIVEN ROWS OF THIS SEAT. 10 by the template 'for every input the law returns true; each argument reads behind the call as it read before'; 0 by the template 'total and deterministic' (their statements: YtoojpgfaigedpaaTotals.lean).
  GIVEN WITH THE SEED: the statements are not yours to turn. If you find one false, say at which input.
  Laid BY PROGRAM, IN A SANDBOX (cutbox-rows.mjs): the forced cells as the released guide's own fill.sh prints them over the translation d4216e906419fc2e… (all of the seat's roots in one cut). By AI agents, Wed Nov 11 2026. No macro, syntax, notation, axiom, sorry.
-/
import Derived.Test.YtoojpgfaigedpaaChecked
import GoSem.Claim
import GoSem.ClaimJoined
import GoSem.ClaimMapViews
import Derived.JoinedTies
import Derived.KernelRfl
namespace Go.Proofs.Ytoojpgfaigedpaa
/- THE CELL 'sum', in the pinned program and in every row, IS THE sha256 OF THE DUMP (.gsa) THAT YtoojpgfaigedpaaProg.lean LOADS. Nothing in Lean hashes anything: it is a label: what it is worth is what the hold of that sum in a sandbox is worth. -/
noncomputable def Try.pinned : Pinned := { name := "ytoojpgfaigedpaa", sum := "d4216e906419fc2edc81ab7ecbfd1032a9e77332b962a4793febbf6489daa3b2", checked := Try.checked }
namespace Rows
def none {H : Type} : Left H := { results := [], args := [] }

/-- 'laws.FnExactEvenRow': WHATEVER THE INPUT: true; the input reads as it did. -/
def fnExactEvenRowSpec : ChangeSpec := { name := "fnExactEvenRow", fn := fun _ => fun
  | [d1, d2, d3] => { results := [.lit (.bool true)], args := [d1, d2, d3] }
  | _ => none }
def fnExactEvenRowRow : OpenClaim := { program := "ytoojpgfaigedpaa", sum := "d4216e906419fc2edc81ab7ecbfd1032a9e77332b962a4793febbf6489daa3b2", func := "loop.example/g01322/laws.FnExactEvenRow", spec := "fnExactEvenRow", apart := false }
def FnExactEvenRowSaid : Prop := fnExactEvenRowRow.holds Try.pinned (OpenSpec.ofChange fnExactEvenRowSpec)

/-- ITS FALSE NEIGHBOUR: 'it returns false'. Refute it at one input. -/
def fnExactEvenRowWrong : ChangeSpec := { name := "fnExactEvenRow", fn := fun _ => fun
  | [d1, d2, d3] => { results := [.lit (.bool false)], args := [d1, d2, d3] }
  | _ => none }
def FnExactEvenRowWrongFalsely : Prop := fnExactEvenRowRow.holds Try.pinned (OpenSpec.ofChange fnExactEvenRowWrong)

/-- 'laws.FnExactBrickRow': WHATEVER THE INPUT: true; the input reads as it did. -/
def fnExactBrickRowSpec : ChangeSpec := { name := "fnExactBrickRow", fn := fun _ => fun
  | [d1, d2, d3, d4] => { results := [.lit (.bool true)], args := [d1, d2, d3, d4] }
  | _ => none }
def fnExactBrickRowRow : OpenClaim := { program := "ytoojpgfaigedpaa", sum := "d4216e906419fc2edc81ab7ecbfd1032a9e77332b962a4793febbf6489daa3b2", func := "loop.example/g01322/laws.FnExactBrickRow", spec := "fnExactBrickRow", apart := false }
def FnExactBrickRowSaid : Prop := fnExactBrickRowRow.holds Try.pinned (OpenSpec.ofChange fnExactBrickRowSpec)

/-- ITS FALSE NEIGHBOUR: 'it returns false'. Refute it at one input. -/
def fnExactBrickRowWrong : ChangeSpec := { name := "fnExactBrickRow", fn := fun _ => fun
  | [d1, d2, d3, d4] => { results := [.lit (.bool false)], args := [d1, d2, d3, d4] }
  | _ => none }
def FnExactBrickRowWrongFalsely : Prop := fnExactBrickRowRow.holds Try.pinned (OpenSpec.ofChange fnExactBrickRowWrong)

/-- 'laws.FnExactChangeRow': WHATEVER THE INPUT: true; the input reads as it did. -/
def fnExactChangeRowSpec : ChangeSpec := { name := "fnExactChangeRow", fn := fun _ => fun
  | [d1, d2, d3, d4, d5] => { results := [.lit (.bool true)], args := [d1, d2, d3, d4, d5] }
  | _ => none }
def fnExactChangeRowRow : OpenClaim := { program := "ytoojpgfaigedpaa", sum := "d4216e906419fc2edc81ab7ecbfd1032a9e77332b962a4793febbf6489daa3b2", func := "loop.example/g01322/laws.FnExactChangeRow", spec := "fnExactChangeRow", apart := false }
def FnExactChangeRowSaid : Prop := fnExactChangeRowRow.holds Try.pinned (OpenSpec.ofChange fnExactChangeRowSpec)

/-- ITS FALSE NEIGHBOUR: 'it returns false'. Refute it at one input. -/
def fnExactChangeRowWrong : ChangeSpec := { name := "fnExactChangeRow", fn := fun _ => fun
  | [d1, d2, d3, d4, d5] => { results := [.lit (.bool false)], args := [d1, d2, d3, d4, d5] }
  | _ => none }
def FnExactChangeRowWrongFalsely : Prop := fnExactChangeRowRow.holds Try.pinned (OpenSpec.ofChange fnExactChangeRowWrong)

/-- 'laws.FnExactJointsOf': WHATEVER THE INPUT: true; the input reads as it did. -/
def fnExactJointsOfSpec : ChangeSpec := { name := "fnExactJointsOf", fn := fun _ => fun
  | [d1, d2] => { results := [.lit (.bool true)], args := [d1, d2] }
  | _ => none }
def fnExactJointsOfRow : OpenClaim := { program := "ytoojpgfaigedpaa", sum := "d4216e906419fc2edc81ab7ecbfd1032a9e77332b962a4793febbf6489daa3b2", func := "loop.example/g01322/laws.FnExactJointsOf", spec := "fnExactJointsOf", unfollowed := true, recurses := true, apart := false }
def FnExactJointsOfSaid : Prop := fnExactJointsOfRow.holds Try.pinned (OpenSpec.ofChange fnExactJointsOfSpec)

/-- ITS FALSE NEIGHBOUR: 'it returns false'. Refute it at one input. -/
def fnExactJointsOfWrong : ChangeSpec := { name := "fnExactJointsOf", fn := fun _ => fun
  | [d1, d2] => { results := [.lit (.bool false)], args := [d1, d2] }
  | _ => none }
def FnExactJointsOfWrongFalsely : Prop := fnExactJointsOfRow.holds Try.pinned (OpenSpec.ofChange fnExactJointsOfWrong)

/-- 'laws.FnExactClashesOf': WHATEVER THE INPUT: true; the input reads as it did. -/
def fnExactClashesOfSpec : ChangeSpec := { name := "fnExactClashesOf", fn := fun _ => fun
  | [d1, d2, d3, d4] => { results := [.lit (.bool true)], args := [d1, d2, d3, d4] }
  | _ => none }
def fnExactClashesOfRow : OpenClaim := { program := "ytoojpgfaigedpaa", sum := "d4216e906419fc2edc81ab7ecbfd1032a9e77332b962a4793febbf6489daa3b2", func := "loop.example/g01322/laws.FnExactClashesOf", spec := "fnExactClashesOf", unfollowed := true, recurses := true, apart := false }
def FnExactClashesOfSaid : Prop := fnExactClashesOfRow.holds Try.pinned (OpenSpec.ofChange fnExactClashesOfSpec)

/-- ITS FALSE NEIGHBOUR: 'it returns false'. Refute it at one input. -/
def fnExactClashesOfWrong : ChangeSpec := { name := "fnExactClashesOf", fn := fun _ => fun
  | [d1, d2, d3, d4] => { results := [.lit (.bool false)], args := [d1, d2, d3, d4] }
  | _ => none }
def FnExactClashesOfWrongFalsely : Prop := fnExactClashesOfRow.holds Try.pinned (OpenSpec.ofChange fnExactClashesOfWrong)

/-- 'laws.FnExactLeastApart': WHATEVER THE INPUT: true; the input reads as it did. -/
def fnExactLeastApartSpec : ChangeSpec := { name := "fnExactLeastApart", fn := fun _ => fun
  | [d1, d2, d3] => { results := [.lit (.bool true)], args := [d1, d2, d3] }
  | _ => none }
def fnExactLeastApartRow : OpenClaim := { program := "ytoojpgfaigedpaa", sum := "d4216e906419fc2edc81ab7ecbfd1032a9e77332b962a4793febbf6489daa3b2", func := "loop.example/g01322/laws.FnExactLeastApart", spec := "fnExactLeastApart", unfollowed := true, recurses := true, apart := false }
def FnExactLeastApartSaid : Prop := fnExactLeastApartRow.holds Try.pinned (OpenSpec.ofChange fnExactLeastApartSpec)

/-- ITS FALSE NEIGHBOUR: 'it returns false'. Refute it at one input. -/
def fnExactLeastApartWrong : ChangeSpec := { name := "fnExactLeastApart", fn := fun _ => fun
  | [d1, d2, d3] => { results := [.lit (.bool false)], args := [d1, d2, d3] }
  | _ => none }
def FnExactLeastApartWrongFalsely : Prop := fnExactLeastApartRow.holds Try.pinned (OpenSpec.ofChange fnExactLeastApartWrong)

/-- 'laws.FnExactFitRow': WHATEVER THE INPUT: true; the input reads as it did. -/
def fnExactFitRowSpec : ChangeSpec := { name := "fnExactFitRow", fn := fun _ => fun
  | [d1, d2, d3, d4, d5] => { results := [.lit (.bool true)], args := [d1, d2, d3, d4, d5] }
  | _ => none }
def fnExactFitRowRow : OpenClaim := { program := "ytoojpgfaigedpaa", sum := "d4216e906419fc2edc81ab7ecbfd1032a9e77332b962a4793febbf6489daa3b2", func := "loop.example/g01322/laws.FnExactFitRow", spec := "fnExactFitRow", unfollowed := true, recurses := true, apart := false }
def FnExactFitRowSaid : Prop := fnExactFitRowRow.holds Try.pinned (OpenSpec.ofChange fnExactFitRowSpec)

/-- ITS FALSE NEIGHBOUR: 'it returns false'. Refute it at one input. -/
def fnExactFitRowWrong : ChangeSpec := { name := "fnExactFitRow", fn := fun _ => fun
  | [d1, d2, d3, d4, d5] => { results := [.lit (.bool false)], args := [d1, d2, d3, d4, d5] }
  | _ => none }
def FnExactFitRowWrongFalsely : Prop := fnExactFitRowRow.holds Try.pinned (OpenSpec.ofChange fnExactFitRowWrong)

/-- 'laws.FnExactStaggerRows': WHATEVER THE INPUT: true; the input reads as it did. -/
def fnExactStaggerRowsSpec : ChangeSpec := { name := "fnExactStaggerRows", fn := fun _ => fun
  | [d1, d2, d3, d4, d5] => { results := [.lit (.bool true)], args := [d1, d2, d3, d4, d5] }
  | _ => none }
def fnExactStaggerRowsRow : OpenClaim := { program := "ytoojpgfaigedpaa", sum := "d4216e906419fc2edc81ab7ecbfd1032a9e77332b962a4793febbf6489daa3b2", func := "loop.example/g01322/laws.FnExactStaggerRows", spec := "fnExactStaggerRows", unfollowed := true, recurses := true, apart := false }
def FnExactStaggerRowsSaid : Prop := fnExactStaggerRowsRow.holds Try.pinned (OpenSpec.ofChange fnExactStaggerRowsSpec)

/-- ITS FALSE NEIGHBOUR: 'it returns false'. Refute it at one input. -/
def fnExactStaggerRowsWrong : ChangeSpec := { name := "fnExactStaggerRows", fn := fun _ => fun
  | [d1, d2, d3, d4, d5] => { results := [.lit (.bool false)], args := [d1, d2, d3, d4, d5] }
  | _ => none }
def FnExactStaggerRowsWrongFalsely : Prop := fnExactStaggerRowsRow.holds Try.pinned (OpenSpec.ofChange fnExactStaggerRowsWrong)

/-- 'laws.FnExactFewestStones': WHATEVER THE INPUT: true; the input reads as it did. -/
def fnExactFewestStonesSpec : ChangeSpec := { name := "fnExactFewestStones", fn := fun _ => fun
  | [d1, d2, d3] => { results := [.lit (.bool true)], args := [d1, d2, d3] }
  | _ => none }
def fnExactFewestStonesRow : OpenClaim := { program := "ytoojpgfaigedpaa", sum := "d4216e906419fc2edc81ab7ecbfd1032a9e77332b962a4793febbf6489daa3b2", func := "loop.example/g01322/laws.FnExactFewestStones", spec := "fnExactFewestStones", unfollowed := true, recurses := true, apart := false }
def FnExactFewestStonesSaid : Prop := fnExactFewestStonesRow.holds Try.pinned (OpenSpec.ofChange fnExactFewestStonesSpec)

/-- ITS FALSE NEIGHBOUR: 'it returns false'. Refute it at one input. -/
def fnExactFewestStonesWrong : ChangeSpec := { name := "fnExactFewestStones", fn := fun _ => fun
  | [d1, d2, d3] => { results := [.lit (.bool false)], args := [d1, d2, d3] }
  | _ => none }
def FnExactFewestStonesWrongFalsely : Prop := fnExactFewestStonesRow.holds Try.pinned (OpenSpec.ofChange fnExactFewestStonesWrong)

/-- 'laws.FnExactCountRows': WHATEVER THE INPUT: true; the input reads as it did. -/
def fnExactCountRowsSpec : ChangeSpec := { name := "fnExactCountRows", fn := fun _ => fun
  | [d1, d2, d3] => { results := [.lit (.bool true)], args := [d1, d2, d3] }
  | _ => none }
def fnExactCountRowsRow : OpenClaim := { program := "ytoojpgfaigedpaa", sum := "d4216e906419fc2edc81ab7ecbfd1032a9e77332b962a4793febbf6489daa3b2", func := "loop.example/g01322/laws.FnExactCountRows", spec := "fnExactCountRows", apart := false }
def FnExactCountRowsSaid : Prop := fnExactCountRowsRow.holds Try.pinned (OpenSpec.ofChange fnExactCountRowsSpec)

/-- ITS FALSE NEIGHBOUR: 'it returns false'. Refute it at one input. -/
def fnExactCountRowsWrong : ChangeSpec := { name := "fnExactCountRows", fn := fun _ => fun
  | [d1, d2, d3] => { results := [.lit (.bool false)], args := [d1, d2, d3] }
  | _ => none }
def FnExactCountRowsWrongFalsely : Prop := fnExactCountRowsRow.holds Try.pinned (OpenSpec.ofChange fnExactCountRowsWrong)

/- THE SECOND FORM. 'bulk': how many values and letters a reading holds, each counted each time it is reached (what is shared counts as often as it is met; a slice's spare places count too). A statement '..UptoSaid' is the law's where the arguments, and the package variables that the reading takes, are together of bulk at most 1048576: NARROWER than '..Said'. Prove '..Said' where nothing that the law and all that it calls make is longer than what came in: it says more and counts as full. Else prove '..UptoSaid'. A law counts once. -/
mutual
def uptoBulk {H : Type} : DataW H → Nat
  | .lit (.string bytes) => bytes.length + 1
  | .lit _ => 1
  | .nil => 1
  | .ptr d => uptoBulk d + 1
  | .slice elems spare => uptoBulkAll elems + uptoBulkAll spare + 1
  | .agg parts => uptoBulkAll parts + 1
  | .iface _ d => uptoBulk d + 1
  | .map entries => uptoBulkEntries entries + 1
  | .held _ => 1
def uptoBulkAll {H : Type} : List (DataW H) → Nat
  | [] => 0
  | d :: r => uptoBulk d + uptoBulkAll r
def uptoBulkEntries {H : Type} : List (Lit × DataW H) → Nat
  | [] => 0
  | x :: r => uptoBulkEntry x + uptoBulkEntries r
def uptoBulkEntry {H : Type} : Lit × DataW H → Nat
  | (.string bytes, d) => bytes.length + uptoBulk d + 1
  | (_, d) => uptoBulk d + 1
 end
def uptoSmall : (H : Type) → List (DataW H) → Bool := fun _ ds => decide (uptoBulkAll ds ≤ 1048576)
def OpenSpec.upto (s : _root_.Go.ChangeSpec) : _root_.Go.OpenSpec := { _root_.Go.OpenSpec.ofChange s with cond := some uptoSmall }

/-- 'laws.FnExactEvenRow', WHERE WHAT IT READS IS OF BULK AT MOST 1048576: true; the input reads as it did. -/
def fnExactEvenRowUptoRow : OpenClaim := { program := "ytoojpgfaigedpaa", sum := "d4216e906419fc2edc81ab7ecbfd1032a9e77332b962a4793febbf6489daa3b2", func := "loop.example/g01322/laws.FnExactEvenRow", spec := "fnExactEvenRow", apart := false, narrowed := true }
def FnExactEvenRowUptoSaid : Prop := fnExactEvenRowUptoRow.holds Try.pinned (OpenSpec.upto fnExactEvenRowSpec)

/-- 'laws.FnExactBrickRow', WHERE WHAT IT READS IS OF BULK AT MOST 1048576: true; the input reads as it did. -/
def fnExactBrickRowUptoRow : OpenClaim := { program := "ytoojpgfaigedpaa", sum := "d4216e906419fc2edc81ab7ecbfd1032a9e77332b962a4793febbf6489daa3b2", func := "loop.example/g01322/laws.FnExactBrickRow", spec := "fnExactBrickRow", apart := false, narrowed := true }
def FnExactBrickRowUptoSaid : Prop := fnExactBrickRowUptoRow.holds Try.pinned (OpenSpec.upto fnExactBrickRowSpec)

/-- 'laws.FnExactChangeRow', WHERE WHAT IT READS IS OF BULK AT MOST 1048576: true; the input reads as it did. -/
def fnExactChangeRowUptoRow : OpenClaim := { program := "ytoojpgfaigedpaa", sum := "d4216e906419fc2edc81ab7ecbfd1032a9e77332b962a4793febbf6489daa3b2", func := "loop.example/g01322/laws.FnExactChangeRow", spec := "fnExactChangeRow", apart := false, narrowed := true }
def FnExactChangeRowUptoSaid : Prop := fnExactChangeRowUptoRow.holds Try.pinned (OpenSpec.upto fnExactChangeRowSpec)

/-- 'laws.FnExactJointsOf', WHERE WHAT IT READS IS OF BULK AT MOST 1048576: true; the input reads as it did. -/
def fnExactJointsOfUptoRow : OpenClaim := { program := "ytoojpgfaigedpaa", sum := "d4216e906419fc2edc81ab7ecbfd1032a9e77332b962a4793febbf6489daa3b2", func := "loop.example/g01322/laws.FnExactJointsOf", spec := "fnExactJointsOf", unfollowed := true, recurses := true, apart := false, narrowed := true }
def FnExactJointsOfUptoSaid : Prop := fnExactJointsOfUptoRow.holds Try.pinned (OpenSpec.upto fnExactJointsOfSpec)

/-- 'laws.FnExactClashesOf', WHERE WHAT IT READS IS OF BULK AT MOST 1048576: true; the input reads as it did. -/
def fnExactClashesOfUptoRow : OpenClaim := { program := "ytoojpgfaigedpaa", sum := "d4216e906419fc2edc81ab7ecbfd1032a9e77332b962a4793febbf6489daa3b2", func := "loop.example/g01322/laws.FnExactClashesOf", spec := "fnExactClashesOf", unfollowed := true, recurses := true, apart := false, narrowed := true }
def FnExactClashesOfUptoSaid : Prop := fnExactClashesOfUptoRow.holds Try.pinned (OpenSpec.upto fnExactClashesOfSpec)

/-- 'laws.FnExactLeastApart', WHERE WHAT IT READS IS OF BULK AT MOST 1048576: true; the input reads as it did. -/
def fnExactLeastApartUptoRow : OpenClaim := { program := "ytoojpgfaigedpaa", sum := "d4216e906419fc2edc81ab7ecbfd1032a9e77332b962a4793febbf6489daa3b2", func := "loop.example/g01322/laws.FnExactLeastApart", spec := "fnExactLeastApart", unfollowed := true, recurses := true, apart := false, narrowed := true }
def FnExactLeastApartUptoSaid : Prop := fnExactLeastApartUptoRow.holds Try.pinned (OpenSpec.upto fnExactLeastApartSpec)

/-- 'laws.FnExactFitRow', WHERE WHAT IT READS IS OF BULK AT MOST 1048576: true; the input reads as it did. -/
def fnExactFitRowUptoRow : OpenClaim := { program := "ytoojpgfaigedpaa", sum := "d4216e906419fc2edc81ab7ecbfd1032a9e77332b962a4793febbf6489daa3b2", func := "loop.example/g01322/laws.FnExactFitRow", spec := "fnExactFitRow", unfollowed := true, recurses := true, apart := false, narrowed := true }
def FnExactFitRowUptoSaid : Prop := fnExactFitRowUptoRow.holds Try.pinned (OpenSpec.upto fnExactFitRowSpec)

/-- 'laws.FnExactStaggerRows', WHERE WHAT IT READS IS OF BULK AT MOST 1048576: true; the input reads as it did. -/
def fnExactStaggerRowsUptoRow : OpenClaim := { program := "ytoojpgfaigedpaa", sum := "d4216e906419fc2edc81ab7ecbfd1032a9e77332b962a4793febbf6489daa3b2", func := "loop.example/g01322/laws.FnExactStaggerRows", spec := "fnExactStaggerRows", unfollowed := true, recurses := true, apart := false, narrowed := true }
def FnExactStaggerRowsUptoSaid : Prop := fnExactStaggerRowsUptoRow.holds Try.pinned (OpenSpec.upto fnExactStaggerRowsSpec)

/-- 'laws.FnExactFewestStones', WHERE WHAT IT READS IS OF BULK AT MOST 1048576: true; the input reads as it did. -/
def fnExactFewestStonesUptoRow : OpenClaim := { program := "ytoojpgfaigedpaa", sum := "d4216e906419fc2edc81ab7ecbfd1032a9e77332b962a4793febbf6489daa3b2", func := "loop.example/g01322/laws.FnExactFewestStones", spec := "fnExactFewestStones", unfollowed := true, recurses := true, apart := false, narrowed := true }
def FnExactFewestStonesUptoSaid : Prop := fnExactFewestStonesUptoRow.holds Try.pinned (OpenSpec.upto fnExactFewestStonesSpec)

/-- 'laws.FnExactCountRows', WHERE WHAT IT READS IS OF BULK AT MOST 1048576: true; the input reads as it did. -/
def fnExactCountRowsUptoRow : OpenClaim := { program := "ytoojpgfaigedpaa", sum := "d4216e906419fc2edc81ab7ecbfd1032a9e77332b962a4793febbf6489daa3b2", func := "loop.example/g01322/laws.FnExactCountRows", spec := "fnExactCountRows", apart := false, narrowed := true }
def FnExactCountRowsUptoSaid : Prop := fnExactCountRowsUptoRow.holds Try.pinned (OpenSpec.upto fnExactCountRowsSpec)

end Rows
end Go.Proofs.Ytoojpgfaigedpaa
