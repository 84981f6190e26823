/-
  No cell of these rows narrows 'for every input' (looked for: loops, veiled, ifaces, maps, wideKeys, modest, calm, conditions, laid).
  DERIVED. THE GIVEN ROWS OF THIS SEAT. 5 by the template 'for every input the law returns true; each argument reads behind the call as it read before'; 0 by the template 'total and deterministic' (their statements: YtifdajpbmmlijaaTotals.lean).
  GIVEN WITH THE SEED: the statements are not yours to turn. If you find one false, say at which input.
  Laid BY PROGRAM, IN A SANDBOX (cutbox-rows.mjs): the forced cells as the released guide's own fill.sh prints them over the translation 7234f8fb38a60ef0… (all of the seat's roots in one cut). By AI agents, Wed Nov 11 2026. No macro, syntax, notation, axiom, sorry.
-/
import Derived.Test.YtifdajpbmmlijaaChecked
import GoSem.Claim
import GoSem.ClaimJoined
import GoSem.ClaimMapViews
import Derived.JoinedTies
import Derived.KernelRfl
namespace Go.Proofs.Ytifdajpbmmlijaa
/- THE CELL 'sum', in the pinned program and in every row, IS THE sha256 OF THE DUMP (.gsa) THAT YtifdajpbmmlijaaProg.lean LOADS. Nothing in Lean hashes anything: it is a label: what it is worth is what the hold of that sum in a sandbox is worth. -/
noncomputable def Try.pinned : Pinned := { name := "ytifdajpbmmlijaa", sum := "7234f8fb38a60ef042957f532cf326383c817c88ccdd5ac23337076e0aeacf28", checked := Try.checked }
namespace Rows
def none {H : Type} : Left H := { results := [], args := [] }

/-- 'laws.FnExactBarUse': WHATEVER THE INPUT: true; the input reads as it did. -/
def fnExactBarUseSpec : ChangeSpec := { name := "fnExactBarUse", fn := fun _ => fun
  | [d1, d2, d3] => { results := [.lit (.bool true)], args := [d1, d2, d3] }
  | _ => none }
def fnExactBarUseRow : OpenClaim := { program := "ytifdajpbmmlijaa", sum := "7234f8fb38a60ef042957f532cf326383c817c88ccdd5ac23337076e0aeacf28", func := "loop.example/g01322/laws.FnExactBarUse", spec := "fnExactBarUse", plainKeys := false, apart := false }
def FnExactBarUseSaid : Prop := fnExactBarUseRow.holds Try.pinned (OpenSpec.ofChange fnExactBarUseSpec)

/-- ITS FALSE NEIGHBOUR: 'it returns false'. Refute it at one input. -/
def fnExactBarUseWrong : ChangeSpec := { name := "fnExactBarUse", fn := fun _ => fun
  | [d1, d2, d3] => { results := [.lit (.bool false)], args := [d1, d2, d3] }
  | _ => none }
def FnExactBarUseWrongFalsely : Prop := fnExactBarUseRow.holds Try.pinned (OpenSpec.ofChange fnExactBarUseWrong)

/-- 'laws.FnExactValidKinds': WHATEVER THE INPUT: true; the input reads as it did. -/
def fnExactValidKindsSpec : ChangeSpec := { name := "fnExactValidKinds", fn := fun _ => fun
  | [d] => { results := [.lit (.bool true)], args := [d] }
  | _ => none }
def fnExactValidKindsRow : OpenClaim := { program := "ytifdajpbmmlijaa", sum := "7234f8fb38a60ef042957f532cf326383c817c88ccdd5ac23337076e0aeacf28", func := "loop.example/g01322/laws.FnExactValidKinds", spec := "fnExactValidKinds", plainKeys := false, apart := false }
def FnExactValidKindsSaid : Prop := fnExactValidKindsRow.holds Try.pinned (OpenSpec.ofChange fnExactValidKindsSpec)

/-- ITS FALSE NEIGHBOUR: 'it returns false'. Refute it at one input. -/
def fnExactValidKindsWrong : ChangeSpec := { name := "fnExactValidKinds", fn := fun _ => fun
  | [d] => { results := [.lit (.bool false)], args := [d] }
  | _ => none }
def FnExactValidKindsWrongFalsely : Prop := fnExactValidKindsRow.holds Try.pinned (OpenSpec.ofChange fnExactValidKindsWrong)

/-- 'laws.FnExactBestLengths': WHATEVER THE INPUT: true; the input reads as it did. -/
def fnExactBestLengthsSpec : ChangeSpec := { name := "fnExactBestLengths", fn := fun _ => fun
  | [d1, d2, d3] => { results := [.lit (.bool true)], args := [d1, d2, d3] }
  | _ => none }
def fnExactBestLengthsRow : OpenClaim := { program := "ytifdajpbmmlijaa", sum := "7234f8fb38a60ef042957f532cf326383c817c88ccdd5ac23337076e0aeacf28", func := "loop.example/g01322/laws.FnExactBestLengths", spec := "fnExactBestLengths", unfollowed := true, recurses := true, plainKeys := false, apart := false }
def FnExactBestLengthsSaid : Prop := fnExactBestLengthsRow.holds Try.pinned (OpenSpec.ofChange fnExactBestLengthsSpec)

/-- ITS FALSE NEIGHBOUR: 'it returns false'. Refute it at one input. -/
def fnExactBestLengthsWrong : ChangeSpec := { name := "fnExactBestLengths", fn := fun _ => fun
  | [d1, d2, d3] => { results := [.lit (.bool false)], args := [d1, d2, d3] }
  | _ => none }
def FnExactBestLengthsWrongFalsely : Prop := fnExactBestLengthsRow.holds Try.pinned (OpenSpec.ofChange fnExactBestLengthsWrong)

/-- 'laws.FnExactSpreadPicture': WHATEVER THE INPUT: true; the input reads as it did. -/
def fnExactSpreadPictureSpec : ChangeSpec := { name := "fnExactSpreadPicture", fn := fun _ => fun
  | [d1, d2] => { results := [.lit (.bool true)], args := [d1, d2] }
  | _ => none }
def fnExactSpreadPictureRow : OpenClaim := { program := "ytifdajpbmmlijaa", sum := "7234f8fb38a60ef042957f532cf326383c817c88ccdd5ac23337076e0aeacf28", func := "loop.example/g01322/laws.FnExactSpreadPicture", spec := "fnExactSpreadPicture", unfollowed := true, recurses := true, plainKeys := false, apart := false }
def FnExactSpreadPictureSaid : Prop := fnExactSpreadPictureRow.holds Try.pinned (OpenSpec.ofChange fnExactSpreadPictureSpec)

/-- ITS FALSE NEIGHBOUR: 'it returns false'. Refute it at one input. -/
def fnExactSpreadPictureWrong : ChangeSpec := { name := "fnExactSpreadPicture", fn := fun _ => fun
  | [d1, d2] => { results := [.lit (.bool false)], args := [d1, d2] }
  | _ => none }
def FnExactSpreadPictureWrongFalsely : Prop := fnExactSpreadPictureRow.holds Try.pinned (OpenSpec.ofChange fnExactSpreadPictureWrong)

/-- 'laws.FnExactFromStock': WHATEVER THE INPUT: true; the input reads as it did. -/
def fnExactFromStockSpec : ChangeSpec := { name := "fnExactFromStock", fn := fun _ => fun
  | [d1, d2, d3] => { results := [.lit (.bool true)], args := [d1, d2, d3] }
  | _ => none }
def fnExactFromStockRow : OpenClaim := { program := "ytifdajpbmmlijaa", sum := "7234f8fb38a60ef042957f532cf326383c817c88ccdd5ac23337076e0aeacf28", func := "loop.example/g01322/laws.FnExactFromStock", spec := "fnExactFromStock", unfollowed := true, recurses := true, plainKeys := false, apart := false }
def FnExactFromStockSaid : Prop := fnExactFromStockRow.holds Try.pinned (OpenSpec.ofChange fnExactFromStockSpec)

/-- ITS FALSE NEIGHBOUR: 'it returns false'. Refute it at one input. -/
def fnExactFromStockWrong : ChangeSpec := { name := "fnExactFromStock", fn := fun _ => fun
  | [d1, d2, d3] => { results := [.lit (.bool false)], args := [d1, d2, d3] }
  | _ => none }
def FnExactFromStockWrongFalsely : Prop := fnExactFromStockRow.holds Try.pinned (OpenSpec.ofChange fnExactFromStockWrong)

/- THE SECOND FORM. 'bulk': how many values and letters a reading holds, each counted each time it is reached (what is shared counts as often as it is met; a slice's spare places count too). A statement '..UptoSaid' is the law's where the arguments, and the package variables that the reading takes, are together of bulk at most 1048576: NARROWER than '..Said'. Prove '..Said' where nothing that the law and all that it calls make is longer than what came in: it says more and counts as full. Else prove '..UptoSaid'. A law counts once. -/
mutual
def uptoBulk {H : Type} : DataW H → Nat
  | .lit (.string bytes) => bytes.length + 1
  | .lit _ => 1
  | .nil => 1
  | .ptr d => uptoBulk d + 1
  | .slice elems spare => uptoBulkAll elems + uptoBulkAll spare + 1
  | .agg parts => uptoBulkAll parts + 1
  | .iface _ d => uptoBulk d + 1
  | .map entries => uptoBulkEntries entries + 1
  | .held _ => 1
def uptoBulkAll {H : Type} : List (DataW H) → Nat
  | [] => 0
  | d :: r => uptoBulk d + uptoBulkAll r
def uptoBulkEntries {H : Type} : List (Lit × DataW H) → Nat
  | [] => 0
  | x :: r => uptoBulkEntry x + uptoBulkEntries r
def uptoBulkEntry {H : Type} : Lit × DataW H → Nat
  | (.string bytes, d) => bytes.length + uptoBulk d + 1
  | (_, d) => uptoBulk d + 1
 end
def uptoSmall : (H : Type) → List (DataW H) → Bool := fun _ ds => decide (uptoBulkAll ds ≤ 1048576)
def OpenSpec.upto (s : _root_.Go.ChangeSpec) : _root_.Go.OpenSpec := { _root_.Go.OpenSpec.ofChange s with cond := some uptoSmall }

/-- 'laws.FnExactBarUse', WHERE WHAT IT READS IS OF BULK AT MOST 1048576: true; the input reads as it did. -/
def fnExactBarUseUptoRow : OpenClaim := { program := "ytifdajpbmmlijaa", sum := "7234f8fb38a60ef042957f532cf326383c817c88ccdd5ac23337076e0aeacf28", func := "loop.example/g01322/laws.FnExactBarUse", spec := "fnExactBarUse", plainKeys := false, apart := false, narrowed := true }
def FnExactBarUseUptoSaid : Prop := fnExactBarUseUptoRow.holds Try.pinned (OpenSpec.upto fnExactBarUseSpec)

/-- 'laws.FnExactValidKinds', WHERE WHAT IT READS IS OF BULK AT MOST 1048576: true; the input reads as it did. -/
def fnExactValidKindsUptoRow : OpenClaim := { program := "ytifdajpbmmlijaa", sum := "7234f8fb38a60ef042957f532cf326383c817c88ccdd5ac23337076e0aeacf28", func := "loop.example/g01322/laws.FnExactValidKinds", spec := "fnExactValidKinds", plainKeys := false, apart := false, narrowed := true }
def FnExactValidKindsUptoSaid : Prop := fnExactValidKindsUptoRow.holds Try.pinned (OpenSpec.upto fnExactValidKindsSpec)

/-- 'laws.FnExactBestLengths', WHERE WHAT IT READS IS OF BULK AT MOST 1048576: true; the input reads as it did. -/
def fnExactBestLengthsUptoRow : OpenClaim := { program := "ytifdajpbmmlijaa", sum := "7234f8fb38a60ef042957f532cf326383c817c88ccdd5ac23337076e0aeacf28", func := "loop.example/g01322/laws.FnExactBestLengths", spec := "fnExactBestLengths", unfollowed := true, recurses := true, plainKeys := false, apart := false, narrowed := true }
def FnExactBestLengthsUptoSaid : Prop := fnExactBestLengthsUptoRow.holds Try.pinned (OpenSpec.upto fnExactBestLengthsSpec)

/-- 'laws.FnExactSpreadPicture', WHERE WHAT IT READS IS OF BULK AT MOST 1048576: true; the input reads as it did. -/
def fnExactSpreadPictureUptoRow : OpenClaim := { program := "ytifdajpbmmlijaa", sum := "7234f8fb38a60ef042957f532cf326383c817c88ccdd5ac23337076e0aeacf28", func := "loop.example/g01322/laws.FnExactSpreadPicture", spec := "fnExactSpreadPicture", unfollowed := true, recurses := true, plainKeys := false, apart := false, narrowed := true }
def FnExactSpreadPictureUptoSaid : Prop := fnExactSpreadPictureUptoRow.holds Try.pinned (OpenSpec.upto fnExactSpreadPictureSpec)

/-- 'laws.FnExactFromStock', WHERE WHAT IT READS IS OF BULK AT MOST 1048576: true; the input reads as it did. -/
def fnExactFromStockUptoRow : OpenClaim := { program := "ytifdajpbmmlijaa", sum := "7234f8fb38a60ef042957f532cf326383c817c88ccdd5ac23337076e0aeacf28", func := "loop.example/g01322/laws.FnExactFromStock", spec := "fnExactFromStock", unfollowed := true, recurses := true, plainKeys := false, apart := false, narrowed := true }
def FnExactFromStockUptoSaid : Prop := fnExactFromStockUptoRow.holds Try.pinned (OpenSpec.upto fnExactFromStockSpec)

end Rows
end Go.Proofs.Ytifdajpbmmlijaa
