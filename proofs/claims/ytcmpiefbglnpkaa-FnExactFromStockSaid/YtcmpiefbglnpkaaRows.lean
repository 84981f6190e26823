/-
  No cell of these rows narrows 'for every input' (looked for: loops, veiled, ifaces, maps, wideKeys, modest, calm, conditions, laid).
  DERIVED. THE GIVEN ROWS OF THIS SEAT. 12 by the template 'for every input the law returns true; each argument reads behind the call as it read before'; 0 by the template 'total and deterministic' (their statements: YtcmpiefbglnpkaaTotals.lean).
  GIVEN WITH THE SEED: the statements are not yours to turn. If you find one false, say at which input.
  Laid BY PROGRAM, IN A SANDBOX (cutbox-rows.mjs): the forced cells as the released guide's own fill.sh prints them over the translation 5d29dbb343adb638… (all of the seat's roots in one cut). By AI agents, Wed Nov 11 2026. No macro, syntax, notation, axiom, sorry.
-/
import Derived.Test.YtcmpiefbglnpkaaChecked
import GoSem.Claim
import GoSem.ClaimJoined
import GoSem.ClaimMapViews
import Derived.JoinedTies
import Derived.KernelRfl
namespace Go.Proofs.Ytcmpiefbglnpkaa
/- THE CELL 'sum', in the pinned program and in every row, IS THE sha256 OF THE DUMP (.gsa) THAT YtcmpiefbglnpkaaProg.lean LOADS. Nothing in Lean hashes anything: it is a label: what it is worth is what the hold of that sum in a sandbox is worth. -/
noncomputable def Try.pinned : Pinned := { name := "ytcmpiefbglnpkaa", sum := "5d29dbb343adb638f24ccf6b679f5d80d45b95fef91c8b85a0932a550ad10b9c", checked := Try.checked }
namespace Rows
def none {H : Type} : Left H := { results := [], args := [] }

/-- 'laws.FnExactDifferIn': WHATEVER THE INPUT: true; the input reads as it did. -/
def fnExactDifferInSpec : ChangeSpec := { name := "fnExactDifferIn", fn := fun _ => fun
  | [d1, d2] => { results := [.lit (.bool true)], args := [d1, d2] }
  | _ => none }
def fnExactDifferInRow : OpenClaim := { program := "ytcmpiefbglnpkaa", sum := "5d29dbb343adb638f24ccf6b679f5d80d45b95fef91c8b85a0932a550ad10b9c", func := "loop.example/g01322/laws.FnExactDifferIn", spec := "fnExactDifferIn", unfollowed := true, recurses := true, plainKeys := false, apart := false }
def FnExactDifferInSaid : Prop := fnExactDifferInRow.holds Try.pinned (OpenSpec.ofChange fnExactDifferInSpec)

/-- ITS FALSE NEIGHBOUR: 'it returns false'. Refute it at one input. -/
def fnExactDifferInWrong : ChangeSpec := { name := "fnExactDifferIn", fn := fun _ => fun
  | [d1, d2] => { results := [.lit (.bool false)], args := [d1, d2] }
  | _ => none }
def FnExactDifferInWrongFalsely : Prop := fnExactDifferInRow.holds Try.pinned (OpenSpec.ofChange fnExactDifferInWrong)

/-- 'laws.FnExactPictureOf': WHATEVER THE INPUT: true; the input reads as it did. -/
def fnExactPictureOfSpec : ChangeSpec := { name := "fnExactPictureOf", fn := fun _ => fun
  | [d1, d2] => { results := [.lit (.bool true)], args := [d1, d2] }
  | _ => none }
def fnExactPictureOfRow : OpenClaim := { program := "ytcmpiefbglnpkaa", sum := "5d29dbb343adb638f24ccf6b679f5d80d45b95fef91c8b85a0932a550ad10b9c", func := "loop.example/g01322/laws.FnExactPictureOf", spec := "fnExactPictureOf", unfollowed := true, recurses := true, plainKeys := false, apart := false }
def FnExactPictureOfSaid : Prop := fnExactPictureOfRow.holds Try.pinned (OpenSpec.ofChange fnExactPictureOfSpec)

/-- ITS FALSE NEIGHBOUR: 'it returns false'. Refute it at one input. -/
def fnExactPictureOfWrong : ChangeSpec := { name := "fnExactPictureOf", fn := fun _ => fun
  | [d1, d2] => { results := [.lit (.bool false)], args := [d1, d2] }
  | _ => none }
def FnExactPictureOfWrongFalsely : Prop := fnExactPictureOfRow.holds Try.pinned (OpenSpec.ofChange fnExactPictureOfWrong)

/-- 'laws.FnExactNearestTone': WHATEVER THE INPUT: true; the input reads as it did. -/
def fnExactNearestToneSpec : ChangeSpec := { name := "fnExactNearestTone", fn := fun _ => fun
  | [d1, d2] => { results := [.lit (.bool true)], args := [d1, d2] }
  | _ => none }
def fnExactNearestToneRow : OpenClaim := { program := "ytcmpiefbglnpkaa", sum := "5d29dbb343adb638f24ccf6b679f5d80d45b95fef91c8b85a0932a550ad10b9c", func := "loop.example/g01322/laws.FnExactNearestTone", spec := "fnExactNearestTone", unfollowed := true, recurses := true, plainKeys := false, apart := false }
def FnExactNearestToneSaid : Prop := fnExactNearestToneRow.holds Try.pinned (OpenSpec.ofChange fnExactNearestToneSpec)

/-- ITS FALSE NEIGHBOUR: 'it returns false'. Refute it at one input. -/
def fnExactNearestToneWrong : ChangeSpec := { name := "fnExactNearestTone", fn := fun _ => fun
  | [d1, d2] => { results := [.lit (.bool false)], args := [d1, d2] }
  | _ => none }
def FnExactNearestToneWrongFalsely : Prop := fnExactNearestToneRow.holds Try.pinned (OpenSpec.ofChange fnExactNearestToneWrong)

/-- 'laws.FnExactStockFor': WHATEVER THE INPUT: true; the input reads as it did. -/
def fnExactStockForSpec : ChangeSpec := { name := "fnExactStockFor", fn := fun _ => fun
  | [d1, d2] => { results := [.lit (.bool true)], args := [d1, d2] }
  | _ => none }
def fnExactStockForRow : OpenClaim := { program := "ytcmpiefbglnpkaa", sum := "5d29dbb343adb638f24ccf6b679f5d80d45b95fef91c8b85a0932a550ad10b9c", func := "loop.example/g01322/laws.FnExactStockFor", spec := "fnExactStockFor", unfollowed := true, recurses := true, plainKeys := false, apart := false }
def FnExactStockForSaid : Prop := fnExactStockForRow.holds Try.pinned (OpenSpec.ofChange fnExactStockForSpec)

/-- ITS FALSE NEIGHBOUR: 'it returns false'. Refute it at one input. -/
def fnExactStockForWrong : ChangeSpec := { name := "fnExactStockFor", fn := fun _ => fun
  | [d1, d2] => { results := [.lit (.bool false)], args := [d1, d2] }
  | _ => none }
def FnExactStockForWrongFalsely : Prop := fnExactStockForRow.holds Try.pinned (OpenSpec.ofChange fnExactStockForWrong)

/-- 'laws.FnExactFromStock': WHATEVER THE INPUT: true; the input reads as it did. -/
def fnExactFromStockSpec : ChangeSpec := { name := "fnExactFromStock", fn := fun _ => fun
  | [d1, d2, d3] => { results := [.lit (.bool true)], args := [d1, d2, d3] }
  | _ => none }
def fnExactFromStockRow : OpenClaim := { program := "ytcmpiefbglnpkaa", sum := "5d29dbb343adb638f24ccf6b679f5d80d45b95fef91c8b85a0932a550ad10b9c", func := "loop.example/g01322/laws.FnExactFromStock", spec := "fnExactFromStock", unfollowed := true, recurses := true, plainKeys := false, apart := false }
def FnExactFromStockSaid : Prop := fnExactFromStockRow.holds Try.pinned (OpenSpec.ofChange fnExactFromStockSpec)

/-- ITS FALSE NEIGHBOUR: 'it returns false'. Refute it at one input. -/
def fnExactFromStockWrong : ChangeSpec := { name := "fnExactFromStock", fn := fun _ => fun
  | [d1, d2, d3] => { results := [.lit (.bool false)], args := [d1, d2, d3] }
  | _ => none }
def FnExactFromStockWrongFalsely : Prop := fnExactFromStockRow.holds Try.pinned (OpenSpec.ofChange fnExactFromStockWrong)

/-- 'laws.FnExactSpreadPicture': WHATEVER THE INPUT: true; the input reads as it did. -/
def fnExactSpreadPictureSpec : ChangeSpec := { name := "fnExactSpreadPicture", fn := fun _ => fun
  | [d1, d2] => { results := [.lit (.bool true)], args := [d1, d2] }
  | _ => none }
def fnExactSpreadPictureRow : OpenClaim := { program := "ytcmpiefbglnpkaa", sum := "5d29dbb343adb638f24ccf6b679f5d80d45b95fef91c8b85a0932a550ad10b9c", func := "loop.example/g01322/laws.FnExactSpreadPicture", spec := "fnExactSpreadPicture", unfollowed := true, recurses := true, plainKeys := false, apart := false }
def FnExactSpreadPictureSaid : Prop := fnExactSpreadPictureRow.holds Try.pinned (OpenSpec.ofChange fnExactSpreadPictureSpec)

/-- ITS FALSE NEIGHBOUR: 'it returns false'. Refute it at one input. -/
def fnExactSpreadPictureWrong : ChangeSpec := { name := "fnExactSpreadPicture", fn := fun _ => fun
  | [d1, d2] => { results := [.lit (.bool false)], args := [d1, d2] }
  | _ => none }
def FnExactSpreadPictureWrongFalsely : Prop := fnExactSpreadPictureRow.holds Try.pinned (OpenSpec.ofChange fnExactSpreadPictureWrong)

/-- 'laws.FnExactImageOf': WHATEVER THE INPUT: true; the input reads as it did. -/
def fnExactImageOfSpec : ChangeSpec := { name := "fnExactImageOf", fn := fun _ => fun
  | [d1, d2, d3] => { results := [.lit (.bool true)], args := [d1, d2, d3] }
  | _ => none }
def fnExactImageOfRow : OpenClaim := { program := "ytcmpiefbglnpkaa", sum := "5d29dbb343adb638f24ccf6b679f5d80d45b95fef91c8b85a0932a550ad10b9c", func := "loop.example/g01322/laws.FnExactImageOf", spec := "fnExactImageOf", unfollowed := true, recurses := true, plainKeys := false, apart := false }
def FnExactImageOfSaid : Prop := fnExactImageOfRow.holds Try.pinned (OpenSpec.ofChange fnExactImageOfSpec)

/-- ITS FALSE NEIGHBOUR: 'it returns false'. Refute it at one input. -/
def fnExactImageOfWrong : ChangeSpec := { name := "fnExactImageOf", fn := fun _ => fun
  | [d1, d2, d3] => { results := [.lit (.bool false)], args := [d1, d2, d3] }
  | _ => none }
def FnExactImageOfWrongFalsely : Prop := fnExactImageOfRow.holds Try.pinned (OpenSpec.ofChange fnExactImageOfWrong)

/-- 'laws.FnExactCostOf': WHATEVER THE INPUT: true; the input reads as it did. -/
def fnExactCostOfSpec : ChangeSpec := { name := "fnExactCostOf", fn := fun _ => fun
  | [d1, d2, d3] => { results := [.lit (.bool true)], args := [d1, d2, d3] }
  | _ => none }
def fnExactCostOfRow : OpenClaim := { program := "ytcmpiefbglnpkaa", sum := "5d29dbb343adb638f24ccf6b679f5d80d45b95fef91c8b85a0932a550ad10b9c", func := "loop.example/g01322/laws.FnExactCostOf", spec := "fnExactCostOf", unfollowed := true, recurses := true, plainKeys := false, apart := false }
def FnExactCostOfSaid : Prop := fnExactCostOfRow.holds Try.pinned (OpenSpec.ofChange fnExactCostOfSpec)

/-- ITS FALSE NEIGHBOUR: 'it returns false'. Refute it at one input. -/
def fnExactCostOfWrong : ChangeSpec := { name := "fnExactCostOf", fn := fun _ => fun
  | [d1, d2, d3] => { results := [.lit (.bool false)], args := [d1, d2, d3] }
  | _ => none }
def FnExactCostOfWrongFalsely : Prop := fnExactCostOfRow.holds Try.pinned (OpenSpec.ofChange fnExactCostOfWrong)

/-- 'laws.FnExactFieldAt': WHATEVER THE INPUT: true; the input reads as it did. -/
def fnExactFieldAtSpec : ChangeSpec := { name := "fnExactFieldAt", fn := fun _ => fun
  | [d1, d2, d3] => { results := [.lit (.bool true)], args := [d1, d2, d3] }
  | _ => none }
def fnExactFieldAtRow : OpenClaim := { program := "ytcmpiefbglnpkaa", sum := "5d29dbb343adb638f24ccf6b679f5d80d45b95fef91c8b85a0932a550ad10b9c", func := "loop.example/g01322/laws.FnExactFieldAt", spec := "fnExactFieldAt", unfollowed := true, recurses := true, plainKeys := false, apart := false }
def FnExactFieldAtSaid : Prop := fnExactFieldAtRow.holds Try.pinned (OpenSpec.ofChange fnExactFieldAtSpec)

/-- ITS FALSE NEIGHBOUR: 'it returns false'. Refute it at one input. -/
def fnExactFieldAtWrong : ChangeSpec := { name := "fnExactFieldAt", fn := fun _ => fun
  | [d1, d2, d3] => { results := [.lit (.bool false)], args := [d1, d2, d3] }
  | _ => none }
def FnExactFieldAtWrongFalsely : Prop := fnExactFieldAtRow.holds Try.pinned (OpenSpec.ofChange fnExactFieldAtWrong)

/-- 'laws.FnExactOutlineOf': WHATEVER THE INPUT: true; the input reads as it did. -/
def fnExactOutlineOfSpec : ChangeSpec := { name := "fnExactOutlineOf", fn := fun _ => fun
  | [d1, d2, d3] => { results := [.lit (.bool true)], args := [d1, d2, d3] }
  | _ => none }
def fnExactOutlineOfRow : OpenClaim := { program := "ytcmpiefbglnpkaa", sum := "5d29dbb343adb638f24ccf6b679f5d80d45b95fef91c8b85a0932a550ad10b9c", func := "loop.example/g01322/laws.FnExactOutlineOf", spec := "fnExactOutlineOf", unfollowed := true, recurses := true, plainKeys := false, apart := false }
def FnExactOutlineOfSaid : Prop := fnExactOutlineOfRow.holds Try.pinned (OpenSpec.ofChange fnExactOutlineOfSpec)

/-- ITS FALSE NEIGHBOUR: 'it returns false'. Refute it at one input. -/
def fnExactOutlineOfWrong : ChangeSpec := { name := "fnExactOutlineOf", fn := fun _ => fun
  | [d1, d2, d3] => { results := [.lit (.bool false)], args := [d1, d2, d3] }
  | _ => none }
def FnExactOutlineOfWrongFalsely : Prop := fnExactOutlineOfRow.holds Try.pinned (OpenSpec.ofChange fnExactOutlineOfWrong)

/-- 'laws.FnExactFillField': WHATEVER THE INPUT: true; the input reads as it did. -/
def fnExactFillFieldSpec : ChangeSpec := { name := "fnExactFillField", fn := fun _ => fun
  | [d1, d2, d3, d4] => { results := [.lit (.bool true)], args := [d1, d2, d3, d4] }
  | _ => none }
def fnExactFillFieldRow : OpenClaim := { program := "ytcmpiefbglnpkaa", sum := "5d29dbb343adb638f24ccf6b679f5d80d45b95fef91c8b85a0932a550ad10b9c", func := "loop.example/g01322/laws.FnExactFillField", spec := "fnExactFillField", unfollowed := true, recurses := true, plainKeys := false, apart := false }
def FnExactFillFieldSaid : Prop := fnExactFillFieldRow.holds Try.pinned (OpenSpec.ofChange fnExactFillFieldSpec)

/-- ITS FALSE NEIGHBOUR: 'it returns false'. Refute it at one input. -/
def fnExactFillFieldWrong : ChangeSpec := { name := "fnExactFillField", fn := fun _ => fun
  | [d1, d2, d3, d4] => { results := [.lit (.bool false)], args := [d1, d2, d3, d4] }
  | _ => none }
def FnExactFillFieldWrongFalsely : Prop := fnExactFillFieldRow.holds Try.pinned (OpenSpec.ofChange fnExactFillFieldWrong)

/-- 'laws.FnExactSymmetriesOf': WHATEVER THE INPUT: true; the input reads as it did. -/
def fnExactSymmetriesOfSpec : ChangeSpec := { name := "fnExactSymmetriesOf", fn := fun _ => fun
  | [d] => { results := [.lit (.bool true)], args := [d] }
  | _ => none }
def fnExactSymmetriesOfRow : OpenClaim := { program := "ytcmpiefbglnpkaa", sum := "5d29dbb343adb638f24ccf6b679f5d80d45b95fef91c8b85a0932a550ad10b9c", func := "loop.example/g01322/laws.FnExactSymmetriesOf", spec := "fnExactSymmetriesOf", unfollowed := true, recurses := true, plainKeys := false, apart := false }
def FnExactSymmetriesOfSaid : Prop := fnExactSymmetriesOfRow.holds Try.pinned (OpenSpec.ofChange fnExactSymmetriesOfSpec)

/-- ITS FALSE NEIGHBOUR: 'it returns false'. Refute it at one input. -/
def fnExactSymmetriesOfWrong : ChangeSpec := { name := "fnExactSymmetriesOf", fn := fun _ => fun
  | [d] => { results := [.lit (.bool false)], args := [d] }
  | _ => none }
def FnExactSymmetriesOfWrongFalsely : Prop := fnExactSymmetriesOfRow.holds Try.pinned (OpenSpec.ofChange fnExactSymmetriesOfWrong)

/- THE SECOND FORM. 'bulk': how many values and letters a reading holds, each counted each time it is reached (what is shared counts as often as it is met; a slice's spare places count too). A statement '..UptoSaid' is the law's where the arguments, and the package variables that the reading takes, are together of bulk at most 1048576: NARROWER than '..Said'. Prove '..Said' where nothing that the law and all that it calls make is longer than what came in: it says more and counts as full. Else prove '..UptoSaid'. A law counts once. -/
mutual
def uptoBulk {H : Type} : DataW H → Nat
  | .lit (.string bytes) => bytes.length + 1
  | .lit _ => 1
  | .nil => 1
  | .ptr d => uptoBulk d + 1
  | .slice elems spare => uptoBulkAll elems + uptoBulkAll spare + 1
  | .agg parts => uptoBulkAll parts + 1
  | .iface _ d => uptoBulk d + 1
  | .map entries => uptoBulkEntries entries + 1
  | .held _ => 1
def uptoBulkAll {H : Type} : List (DataW H) → Nat
  | [] => 0
  | d :: r => uptoBulk d + uptoBulkAll r
def uptoBulkEntries {H : Type} : List (Lit × DataW H) → Nat
  | [] => 0
  | x :: r => uptoBulkEntry x + uptoBulkEntries r
def uptoBulkEntry {H : Type} : Lit × DataW H → Nat
  | (.string bytes, d) => bytes.length + uptoBulk d + 1
  | (_, d) => uptoBulk d + 1
 end
def uptoSmall : (H : Type) → List (DataW H) → Bool := fun _ ds => decide (uptoBulkAll ds ≤ 1048576)
def OpenSpec.upto (s : _root_.Go.ChangeSpec) : _root_.Go.OpenSpec := { _root_.Go.OpenSpec.ofChange s with cond := some uptoSmall }

/-- 'laws.FnExactDifferIn', WHERE WHAT IT READS IS OF BULK AT MOST 1048576: true; the input reads as it did. -/
def fnExactDifferInUptoRow : OpenClaim := { program := "ytcmpiefbglnpkaa", sum := "5d29dbb343adb638f24ccf6b679f5d80d45b95fef91c8b85a0932a550ad10b9c", func := "loop.example/g01322/laws.FnExactDifferIn", spec := "fnExactDifferIn", unfollowed := true, recurses := true, plainKeys := false, apart := false, narrowed := true }
def FnExactDifferInUptoSaid : Prop := fnExactDifferInUptoRow.holds Try.pinned (OpenSpec.upto fnExactDifferInSpec)

/-- 'laws.FnExactPictureOf', WHERE WHAT IT READS IS OF BULK AT MOST 1048576: true; the input reads as it did. -/
def fnExactPictureOfUptoRow : OpenClaim := { program := "ytcmpiefbglnpkaa", sum := "5d29dbb343adb638f24ccf6b679f5d80d45b95fef91c8b85a0932a550ad10b9c", func := "loop.example/g01322/laws.FnExactPictureOf", spec := "fnExactPictureOf", unfollowed := true, recurses := true, plainKeys := false, apart := false, narrowed := true }
def FnExactPictureOfUptoSaid : Prop := fnExactPictureOfUptoRow.holds Try.pinned (OpenSpec.upto fnExactPictureOfSpec)

/-- 'laws.FnExactNearestTone', WHERE WHAT IT READS IS OF BULK AT MOST 1048576: true; the input reads as it did. -/
def fnExactNearestToneUptoRow : OpenClaim := { program := "ytcmpiefbglnpkaa", sum := "5d29dbb343adb638f24ccf6b679f5d80d45b95fef91c8b85a0932a550ad10b9c", func := "loop.example/g01322/laws.FnExactNearestTone", spec := "fnExactNearestTone", unfollowed := true, recurses := true, plainKeys := false, apart := false, narrowed := true }
def FnExactNearestToneUptoSaid : Prop := fnExactNearestToneUptoRow.holds Try.pinned (OpenSpec.upto fnExactNearestToneSpec)

/-- 'laws.FnExactStockFor', WHERE WHAT IT READS IS OF BULK AT MOST 1048576: true; the input reads as it did. -/
def fnExactStockForUptoRow : OpenClaim := { program := "ytcmpiefbglnpkaa", sum := "5d29dbb343adb638f24ccf6b679f5d80d45b95fef91c8b85a0932a550ad10b9c", func := "loop.example/g01322/laws.FnExactStockFor", spec := "fnExactStockFor", unfollowed := true, recurses := true, plainKeys := false, apart := false, narrowed := true }
def FnExactStockForUptoSaid : Prop := fnExactStockForUptoRow.holds Try.pinned (OpenSpec.upto fnExactStockForSpec)

/-- 'laws.FnExactFromStock', WHERE WHAT IT READS IS OF BULK AT MOST 1048576: true; the input reads as it did. -/
def fnExactFromStockUptoRow : OpenClaim := { program := "ytcmpiefbglnpkaa", sum := "5d29dbb343adb638f24ccf6b679f5d80d45b95fef91c8b85a0932a550ad10b9c", func := "loop.example/g01322/laws.FnExactFromStock", spec := "fnExactFromStock", unfollowed := true, recurses := true, plainKeys := false, apart := false, narrowed := true }
def FnExactFromStockUptoSaid : Prop := fnExactFromStockUptoRow.holds Try.pinned (OpenSpec.upto fnExactFromStockSpec)

/-- 'laws.FnExactSpreadPicture', WHERE WHAT IT READS IS OF BULK AT MOST 1048576: true; the input reads as it did. -/
def fnExactSpreadPictureUptoRow : OpenClaim := { program := "ytcmpiefbglnpkaa", sum := "5d29dbb343adb638f24ccf6b679f5d80d45b95fef91c8b85a0932a550ad10b9c", func := "loop.example/g01322/laws.FnExactSpreadPicture", spec := "fnExactSpreadPicture", unfollowed := true, recurses := true, plainKeys := false, apart := false, narrowed := true }
def FnExactSpreadPictureUptoSaid : Prop := fnExactSpreadPictureUptoRow.holds Try.pinned (OpenSpec.upto fnExactSpreadPictureSpec)

/-- 'laws.FnExactImageOf', WHERE WHAT IT READS IS OF BULK AT MOST 1048576: true; the input reads as it did. -/
def fnExactImageOfUptoRow : OpenClaim := { program := "ytcmpiefbglnpkaa", sum := "5d29dbb343adb638f24ccf6b679f5d80d45b95fef91c8b85a0932a550ad10b9c", func := "loop.example/g01322/laws.FnExactImageOf", spec := "fnExactImageOf", unfollowed := true, recurses := true, plainKeys := false, apart := false, narrowed := true }
def FnExactImageOfUptoSaid : Prop := fnExactImageOfUptoRow.holds Try.pinned (OpenSpec.upto fnExactImageOfSpec)

/-- 'laws.FnExactCostOf', WHERE WHAT IT READS IS OF BULK AT MOST 1048576: true; the input reads as it did. -/
def fnExactCostOfUptoRow : OpenClaim := { program := "ytcmpiefbglnpkaa", sum := "5d29dbb343adb638f24ccf6b679f5d80d45b95fef91c8b85a0932a550ad10b9c", func := "loop.example/g01322/laws.FnExactCostOf", spec := "fnExactCostOf", unfollowed := true, recurses := true, plainKeys := false, apart := false, narrowed := true }
def FnExactCostOfUptoSaid : Prop := fnExactCostOfUptoRow.holds Try.pinned (OpenSpec.upto fnExactCostOfSpec)

/-- 'laws.FnExactFieldAt', WHERE WHAT IT READS IS OF BULK AT MOST 1048576: true; the input reads as it did. -/
def fnExactFieldAtUptoRow : OpenClaim := { program := "ytcmpiefbglnpkaa", sum := "5d29dbb343adb638f24ccf6b679f5d80d45b95fef91c8b85a0932a550ad10b9c", func := "loop.example/g01322/laws.FnExactFieldAt", spec := "fnExactFieldAt", unfollowed := true, recurses := true, plainKeys := false, apart := false, narrowed := true }
def FnExactFieldAtUptoSaid : Prop := fnExactFieldAtUptoRow.holds Try.pinned (OpenSpec.upto fnExactFieldAtSpec)

/-- 'laws.FnExactOutlineOf', WHERE WHAT IT READS IS OF BULK AT MOST 1048576: true; the input reads as it did. -/
def fnExactOutlineOfUptoRow : OpenClaim := { program := "ytcmpiefbglnpkaa", sum := "5d29dbb343adb638f24ccf6b679f5d80d45b95fef91c8b85a0932a550ad10b9c", func := "loop.example/g01322/laws.FnExactOutlineOf", spec := "fnExactOutlineOf", unfollowed := true, recurses := true, plainKeys := false, apart := false, narrowed := true }
def FnExactOutlineOfUptoSaid : Prop := fnExactOutlineOfUptoRow.holds Try.pinned (OpenSpec.upto fnExactOutlineOfSpec)

/-- 'laws.FnExactFillField', WHERE WHAT IT READS IS OF BULK AT MOST 1048576: true; the input reads as it did. -/
def fnExactFillFieldUptoRow : OpenClaim := { program := "ytcmpiefbglnpkaa", sum := "5d29dbb343adb638f24ccf6b679f5d80d45b95fef91c8b85a0932a550ad10b9c", func := "loop.example/g01322/laws.FnExactFillField", spec := "fnExactFillField", unfollowed := true, recurses := true, plainKeys := false, apart := false, narrowed := true }
def FnExactFillFieldUptoSaid : Prop := fnExactFillFieldUptoRow.holds Try.pinned (OpenSpec.upto fnExactFillFieldSpec)

/-- 'laws.FnExactSymmetriesOf', WHERE WHAT IT READS IS OF BULK AT MOST 1048576: true; the input reads as it did. -/
def fnExactSymmetriesOfUptoRow : OpenClaim := { program := "ytcmpiefbglnpkaa", sum := "5d29dbb343adb638f24ccf6b679f5d80d45b95fef91c8b85a0932a550ad10b9c", func := "loop.example/g01322/laws.FnExactSymmetriesOf", spec := "fnExactSymmetriesOf", unfollowed := true, recurses := true, plainKeys := false, apart := false, narrowed := true }
def FnExactSymmetriesOfUptoSaid : Prop := fnExactSymmetriesOfUptoRow.holds Try.pinned (OpenSpec.upto fnExactSymmetriesOfSpec)

end Rows
end Go.Proofs.Ytcmpiefbglnpkaa
