/-
  No cell of these rows narrows 'for every input' (looked for: loops, veiled, ifaces, maps, wideKeys, modest, calm, conditions, laid).
  DERIVED. THE GIVEN ROWS OF THIS SEAT. 12 by the template 'for every input the law returns true; each argument reads behind the call as it read before'; 0 by the template 'total and deterministic' (their statements: YtkajcofpdlicaaaTotals.lean).
  GIVEN WITH THE SEED: the statements are not yours to turn. If you find one false, say at which input.
  Laid BY PROGRAM, IN A SANDBOX (cutbox-rows.mjs): the forced cells as the released guide's own fill.sh prints them over the translation e38441a7ace5ed53… (all of the seat's roots in one cut). By AI agents, Wed Nov 11 2026. No macro, syntax, notation, axiom, sorry.
-/
import Derived.Test.YtkajcofpdlicaaaChecked
import GoSem.Claim
import GoSem.ClaimJoined
import GoSem.ClaimMapViews
import Derived.JoinedTies
import Derived.KernelRfl
namespace Go.Proofs.Ytkajcofpdlicaaa
/- THE CELL 'sum', in the pinned program and in every row, IS THE sha256 OF THE DUMP (.gsa) THAT YtkajcofpdlicaaaProg.lean LOADS. Nothing in Lean hashes anything: it is a label: what it is worth is what the hold of that sum in a sandbox is worth. -/
noncomputable def Try.pinned : Pinned := { name := "ytkajcofpdlicaaa", sum := "e38441a7ace5ed53bf23594895b5bef7a2e99dc3fba3459f80823feca4144a12", checked := Try.checked }
namespace Rows
def none {H : Type} : Left H := { results := [], args := [] }

/-- 'laws.FnExactFieldAt': WHATEVER THE INPUT: true; the input reads as it did. -/
def fnExactFieldAtSpec : ChangeSpec := { name := "fnExactFieldAt", fn := fun _ => fun
  | [d1, d2, d3] => { results := [.lit (.bool true)], args := [d1, d2, d3] }
  | _ => none }
def fnExactFieldAtRow : OpenClaim := { program := "ytkajcofpdlicaaa", sum := "e38441a7ace5ed53bf23594895b5bef7a2e99dc3fba3459f80823feca4144a12", func := "loop.example/g01322/laws.FnExactFieldAt", spec := "fnExactFieldAt", unfollowed := true, recurses := true, plainKeys := false, apart := false }
def FnExactFieldAtSaid : Prop := fnExactFieldAtRow.holds Try.pinned (OpenSpec.ofChange fnExactFieldAtSpec)

/-- ITS FALSE NEIGHBOUR: 'it returns false'. Refute it at one input. -/
def fnExactFieldAtWrong : ChangeSpec := { name := "fnExactFieldAt", fn := fun _ => fun
  | [d1, d2, d3] => { results := [.lit (.bool false)], args := [d1, d2, d3] }
  | _ => none }
def FnExactFieldAtWrongFalsely : Prop := fnExactFieldAtRow.holds Try.pinned (OpenSpec.ofChange fnExactFieldAtWrong)

/-- 'laws.FnExactFieldsOf': WHATEVER THE INPUT: true; the input reads as it did. -/
def fnExactFieldsOfSpec : ChangeSpec := { name := "fnExactFieldsOf", fn := fun _ => fun
  | [d] => { results := [.lit (.bool true)], args := [d] }
  | _ => none }
def fnExactFieldsOfRow : OpenClaim := { program := "ytkajcofpdlicaaa", sum := "e38441a7ace5ed53bf23594895b5bef7a2e99dc3fba3459f80823feca4144a12", func := "loop.example/g01322/laws.FnExactFieldsOf", spec := "fnExactFieldsOf", unfollowed := true, recurses := true, plainKeys := false, apart := false }
def FnExactFieldsOfSaid : Prop := fnExactFieldsOfRow.holds Try.pinned (OpenSpec.ofChange fnExactFieldsOfSpec)

/-- ITS FALSE NEIGHBOUR: 'it returns false'. Refute it at one input. -/
def fnExactFieldsOfWrong : ChangeSpec := { name := "fnExactFieldsOf", fn := fun _ => fun
  | [d] => { results := [.lit (.bool false)], args := [d] }
  | _ => none }
def FnExactFieldsOfWrongFalsely : Prop := fnExactFieldsOfRow.holds Try.pinned (OpenSpec.ofChange fnExactFieldsOfWrong)

/-- 'laws.FnExactPictureOf': WHATEVER THE INPUT: true; the input reads as it did. -/
def fnExactPictureOfSpec : ChangeSpec := { name := "fnExactPictureOf", fn := fun _ => fun
  | [d1, d2] => { results := [.lit (.bool true)], args := [d1, d2] }
  | _ => none }
def fnExactPictureOfRow : OpenClaim := { program := "ytkajcofpdlicaaa", sum := "e38441a7ace5ed53bf23594895b5bef7a2e99dc3fba3459f80823feca4144a12", func := "loop.example/g01322/laws.FnExactPictureOf", spec := "fnExactPictureOf", unfollowed := true, recurses := true, plainKeys := false, apart := false }
def FnExactPictureOfSaid : Prop := fnExactPictureOfRow.holds Try.pinned (OpenSpec.ofChange fnExactPictureOfSpec)

/-- ITS FALSE NEIGHBOUR: 'it returns false'. Refute it at one input. -/
def fnExactPictureOfWrong : ChangeSpec := { name := "fnExactPictureOf", fn := fun _ => fun
  | [d1, d2] => { results := [.lit (.bool false)], args := [d1, d2] }
  | _ => none }
def FnExactPictureOfWrongFalsely : Prop := fnExactPictureOfRow.holds Try.pinned (OpenSpec.ofChange fnExactPictureOfWrong)

/-- 'laws.FnExactImageOf': WHATEVER THE INPUT: true; the input reads as it did. -/
def fnExactImageOfSpec : ChangeSpec := { name := "fnExactImageOf", fn := fun _ => fun
  | [d1, d2, d3] => { results := [.lit (.bool true)], args := [d1, d2, d3] }
  | _ => none }
def fnExactImageOfRow : OpenClaim := { program := "ytkajcofpdlicaaa", sum := "e38441a7ace5ed53bf23594895b5bef7a2e99dc3fba3459f80823feca4144a12", func := "loop.example/g01322/laws.FnExactImageOf", spec := "fnExactImageOf", unfollowed := true, recurses := true, plainKeys := false, apart := false }
def FnExactImageOfSaid : Prop := fnExactImageOfRow.holds Try.pinned (OpenSpec.ofChange fnExactImageOfSpec)

/-- ITS FALSE NEIGHBOUR: 'it returns false'. Refute it at one input. -/
def fnExactImageOfWrong : ChangeSpec := { name := "fnExactImageOf", fn := fun _ => fun
  | [d1, d2, d3] => { results := [.lit (.bool false)], args := [d1, d2, d3] }
  | _ => none }
def FnExactImageOfWrongFalsely : Prop := fnExactImageOfRow.holds Try.pinned (OpenSpec.ofChange fnExactImageOfWrong)

/-- 'laws.FnExactSpreadPicture': WHATEVER THE INPUT: true; the input reads as it did. -/
def fnExactSpreadPictureSpec : ChangeSpec := { name := "fnExactSpreadPicture", fn := fun _ => fun
  | [d1, d2] => { results := [.lit (.bool true)], args := [d1, d2] }
  | _ => none }
def fnExactSpreadPictureRow : OpenClaim := { program := "ytkajcofpdlicaaa", sum := "e38441a7ace5ed53bf23594895b5bef7a2e99dc3fba3459f80823feca4144a12", func := "loop.example/g01322/laws.FnExactSpreadPicture", spec := "fnExactSpreadPicture", unfollowed := true, recurses := true, plainKeys := false, apart := false }
def FnExactSpreadPictureSaid : Prop := fnExactSpreadPictureRow.holds Try.pinned (OpenSpec.ofChange fnExactSpreadPictureSpec)

/-- ITS FALSE NEIGHBOUR: 'it returns false'. Refute it at one input. -/
def fnExactSpreadPictureWrong : ChangeSpec := { name := "fnExactSpreadPicture", fn := fun _ => fun
  | [d1, d2] => { results := [.lit (.bool false)], args := [d1, d2] }
  | _ => none }
def FnExactSpreadPictureWrongFalsely : Prop := fnExactSpreadPictureRow.holds Try.pinned (OpenSpec.ofChange fnExactSpreadPictureWrong)

/-- 'laws.FnExactCheckBars': WHATEVER THE INPUT: true; the input reads as it did. -/
def fnExactCheckBarsSpec : ChangeSpec := { name := "fnExactCheckBars", fn := fun _ => fun
  | [d1, d2, d3, d4] => { results := [.lit (.bool true)], args := [d1, d2, d3, d4] }
  | _ => none }
def fnExactCheckBarsRow : OpenClaim := { program := "ytkajcofpdlicaaa", sum := "e38441a7ace5ed53bf23594895b5bef7a2e99dc3fba3459f80823feca4144a12", func := "loop.example/g01322/laws.FnExactCheckBars", spec := "fnExactCheckBars", plainKeys := false, apart := false }
def FnExactCheckBarsSaid : Prop := fnExactCheckBarsRow.holds Try.pinned (OpenSpec.ofChange fnExactCheckBarsSpec)

/-- ITS FALSE NEIGHBOUR: 'it returns false'. Refute it at one input. -/
def fnExactCheckBarsWrong : ChangeSpec := { name := "fnExactCheckBars", fn := fun _ => fun
  | [d1, d2, d3, d4] => { results := [.lit (.bool false)], args := [d1, d2, d3, d4] }
  | _ => none }
def FnExactCheckBarsWrongFalsely : Prop := fnExactCheckBarsRow.holds Try.pinned (OpenSpec.ofChange fnExactCheckBarsWrong)

/-- 'laws.FnExactWasteOf': WHATEVER THE INPUT: true; the input reads as it did. -/
def fnExactWasteOfSpec : ChangeSpec := { name := "fnExactWasteOf", fn := fun _ => fun
  | [d1, d2, d3, d4] => { results := [.lit (.bool true)], args := [d1, d2, d3, d4] }
  | _ => none }
def fnExactWasteOfRow : OpenClaim := { program := "ytkajcofpdlicaaa", sum := "e38441a7ace5ed53bf23594895b5bef7a2e99dc3fba3459f80823feca4144a12", func := "loop.example/g01322/laws.FnExactWasteOf", spec := "fnExactWasteOf", plainKeys := false, apart := false }
def FnExactWasteOfSaid : Prop := fnExactWasteOfRow.holds Try.pinned (OpenSpec.ofChange fnExactWasteOfSpec)

/-- ITS FALSE NEIGHBOUR: 'it returns false'. Refute it at one input. -/
def fnExactWasteOfWrong : ChangeSpec := { name := "fnExactWasteOf", fn := fun _ => fun
  | [d1, d2, d3, d4] => { results := [.lit (.bool false)], args := [d1, d2, d3, d4] }
  | _ => none }
def FnExactWasteOfWrongFalsely : Prop := fnExactWasteOfRow.holds Try.pinned (OpenSpec.ofChange fnExactWasteOfWrong)

/-- 'laws.FnExactClashesOf': WHATEVER THE INPUT: true; the input reads as it did. -/
def fnExactClashesOfSpec : ChangeSpec := { name := "fnExactClashesOf", fn := fun _ => fun
  | [d1, d2, d3, d4] => { results := [.lit (.bool true)], args := [d1, d2, d3, d4] }
  | _ => none }
def fnExactClashesOfRow : OpenClaim := { program := "ytkajcofpdlicaaa", sum := "e38441a7ace5ed53bf23594895b5bef7a2e99dc3fba3459f80823feca4144a12", func := "loop.example/g01322/laws.FnExactClashesOf", spec := "fnExactClashesOf", unfollowed := true, recurses := true, plainKeys := false, apart := false }
def FnExactClashesOfSaid : Prop := fnExactClashesOfRow.holds Try.pinned (OpenSpec.ofChange fnExactClashesOfSpec)

/-- ITS FALSE NEIGHBOUR: 'it returns false'. Refute it at one input. -/
def fnExactClashesOfWrong : ChangeSpec := { name := "fnExactClashesOf", fn := fun _ => fun
  | [d1, d2, d3, d4] => { results := [.lit (.bool false)], args := [d1, d2, d3, d4] }
  | _ => none }
def FnExactClashesOfWrongFalsely : Prop := fnExactClashesOfRow.holds Try.pinned (OpenSpec.ofChange fnExactClashesOfWrong)

/-- 'laws.FnExactBrickRow': WHATEVER THE INPUT: true; the input reads as it did. -/
def fnExactBrickRowSpec : ChangeSpec := { name := "fnExactBrickRow", fn := fun _ => fun
  | [d1, d2, d3, d4] => { results := [.lit (.bool true)], args := [d1, d2, d3, d4] }
  | _ => none }
def fnExactBrickRowRow : OpenClaim := { program := "ytkajcofpdlicaaa", sum := "e38441a7ace5ed53bf23594895b5bef7a2e99dc3fba3459f80823feca4144a12", func := "loop.example/g01322/laws.FnExactBrickRow", spec := "fnExactBrickRow", plainKeys := false, apart := false }
def FnExactBrickRowSaid : Prop := fnExactBrickRowRow.holds Try.pinned (OpenSpec.ofChange fnExactBrickRowSpec)

/-- ITS FALSE NEIGHBOUR: 'it returns false'. Refute it at one input. -/
def fnExactBrickRowWrong : ChangeSpec := { name := "fnExactBrickRow", fn := fun _ => fun
  | [d1, d2, d3, d4] => { results := [.lit (.bool false)], args := [d1, d2, d3, d4] }
  | _ => none }
def FnExactBrickRowWrongFalsely : Prop := fnExactBrickRowRow.holds Try.pinned (OpenSpec.ofChange fnExactBrickRowWrong)

/-- 'laws.FnExactStaggerRows': WHATEVER THE INPUT: true; the input reads as it did. -/
def fnExactStaggerRowsSpec : ChangeSpec := { name := "fnExactStaggerRows", fn := fun _ => fun
  | [d1, d2, d3, d4, d5] => { results := [.lit (.bool true)], args := [d1, d2, d3, d4, d5] }
  | _ => none }
def fnExactStaggerRowsRow : OpenClaim := { program := "ytkajcofpdlicaaa", sum := "e38441a7ace5ed53bf23594895b5bef7a2e99dc3fba3459f80823feca4144a12", func := "loop.example/g01322/laws.FnExactStaggerRows", spec := "fnExactStaggerRows", unfollowed := true, recurses := true, plainKeys := false, apart := false }
def FnExactStaggerRowsSaid : Prop := fnExactStaggerRowsRow.holds Try.pinned (OpenSpec.ofChange fnExactStaggerRowsSpec)

/-- ITS FALSE NEIGHBOUR: 'it returns false'. Refute it at one input. -/
def fnExactStaggerRowsWrong : ChangeSpec := { name := "fnExactStaggerRows", fn := fun _ => fun
  | [d1, d2, d3, d4, d5] => { results := [.lit (.bool false)], args := [d1, d2, d3, d4, d5] }
  | _ => none }
def FnExactStaggerRowsWrongFalsely : Prop := fnExactStaggerRowsRow.holds Try.pinned (OpenSpec.ofChange fnExactStaggerRowsWrong)

/-- 'laws.FnExactFirstClash': WHATEVER THE INPUT: true; the input reads as it did. -/
def fnExactFirstClashSpec : ChangeSpec := { name := "fnExactFirstClash", fn := fun _ => fun
  | [d1, d2, d3] => { results := [.lit (.bool true)], args := [d1, d2, d3] }
  | _ => none }
def fnExactFirstClashRow : OpenClaim := { program := "ytkajcofpdlicaaa", sum := "e38441a7ace5ed53bf23594895b5bef7a2e99dc3fba3459f80823feca4144a12", func := "loop.example/g01322/laws.FnExactFirstClash", spec := "fnExactFirstClash", unfollowed := true, recurses := true, plainKeys := false, apart := false }
def FnExactFirstClashSaid : Prop := fnExactFirstClashRow.holds Try.pinned (OpenSpec.ofChange fnExactFirstClashSpec)

/-- ITS FALSE NEIGHBOUR: 'it returns false'. Refute it at one input. -/
def fnExactFirstClashWrong : ChangeSpec := { name := "fnExactFirstClash", fn := fun _ => fun
  | [d1, d2, d3] => { results := [.lit (.bool false)], args := [d1, d2, d3] }
  | _ => none }
def FnExactFirstClashWrongFalsely : Prop := fnExactFirstClashRow.holds Try.pinned (OpenSpec.ofChange fnExactFirstClashWrong)

/-- 'laws.FnExactNearestOf': WHATEVER THE INPUT: true; the input reads as it did. -/
def fnExactNearestOfSpec : ChangeSpec := { name := "fnExactNearestOf", fn := fun _ => fun
  | [d1, d2] => { results := [.lit (.bool true)], args := [d1, d2] }
  | _ => none }
def fnExactNearestOfRow : OpenClaim := { program := "ytkajcofpdlicaaa", sum := "e38441a7ace5ed53bf23594895b5bef7a2e99dc3fba3459f80823feca4144a12", func := "loop.example/g01322/laws.FnExactNearestOf", spec := "fnExactNearestOf", unfollowed := true, recurses := true, plainKeys := false, apart := false }
def FnExactNearestOfSaid : Prop := fnExactNearestOfRow.holds Try.pinned (OpenSpec.ofChange fnExactNearestOfSpec)

/-- ITS FALSE NEIGHBOUR: 'it returns false'. Refute it at one input. -/
def fnExactNearestOfWrong : ChangeSpec := { name := "fnExactNearestOf", fn := fun _ => fun
  | [d1, d2] => { results := [.lit (.bool false)], args := [d1, d2] }
  | _ => none }
def FnExactNearestOfWrongFalsely : Prop := fnExactNearestOfRow.holds Try.pinned (OpenSpec.ofChange fnExactNearestOfWrong)

/- THE SECOND FORM. 'bulk': how many values and letters a reading holds, each counted each time it is reached (what is shared counts as often as it is met; a slice's spare places count too). A statement '..UptoSaid' is the law's where the arguments, and the package variables that the reading takes, are together of bulk at most 1048576: NARROWER than '..Said'. Prove '..Said' where nothing that the law and all that it calls make is longer than what came in: it says more and counts as full. Else prove '..UptoSaid'. A law counts once. -/
mutual
def uptoBulk {H : Type} : DataW H → Nat
  | .lit (.string bytes) => bytes.length + 1
  | .lit _ => 1
  | .nil => 1
  | .ptr d => uptoBulk d + 1
  | .slice elems spare => uptoBulkAll elems + uptoBulkAll spare + 1
  | .agg parts => uptoBulkAll parts + 1
  | .iface _ d => uptoBulk d + 1
  | .map entries => uptoBulkEntries entries + 1
  | .held _ => 1
def uptoBulkAll {H : Type} : List (DataW H) → Nat
  | [] => 0
  | d :: r => uptoBulk d + uptoBulkAll r
def uptoBulkEntries {H : Type} : List (Lit × DataW H) → Nat
  | [] => 0
  | x :: r => uptoBulkEntry x + uptoBulkEntries r
def uptoBulkEntry {H : Type} : Lit × DataW H → Nat
  | (.string bytes, d) => bytes.length + uptoBulk d + 1
  | (_, d) => uptoBulk d + 1
 end
def uptoSmall : (H : Type) → List (DataW H) → Bool := fun _ ds => decide (uptoBulkAll ds ≤ 1048576)
def OpenSpec.upto (s : _root_.Go.ChangeSpec) : _root_.Go.OpenSpec := { _root_.Go.OpenSpec.ofChange s with cond := some uptoSmall }

/-- 'laws.FnExactFieldAt', WHERE WHAT IT READS IS OF BULK AT MOST 1048576: true; the input reads as it did. -/
def fnExactFieldAtUptoRow : OpenClaim := { program := "ytkajcofpdlicaaa", sum := "e38441a7ace5ed53bf23594895b5bef7a2e99dc3fba3459f80823feca4144a12", func := "loop.example/g01322/laws.FnExactFieldAt", spec := "fnExactFieldAt", unfollowed := true, recurses := true, plainKeys := false, apart := false, narrowed := true }
def FnExactFieldAtUptoSaid : Prop := fnExactFieldAtUptoRow.holds Try.pinned (OpenSpec.upto fnExactFieldAtSpec)

/-- 'laws.FnExactFieldsOf', WHERE WHAT IT READS IS OF BULK AT MOST 1048576: true; the input reads as it did. -/
def fnExactFieldsOfUptoRow : OpenClaim := { program := "ytkajcofpdlicaaa", sum := "e38441a7ace5ed53bf23594895b5bef7a2e99dc3fba3459f80823feca4144a12", func := "loop.example/g01322/laws.FnExactFieldsOf", spec := "fnExactFieldsOf", unfollowed := true, recurses := true, plainKeys := false, apart := false, narrowed := true }
def FnExactFieldsOfUptoSaid : Prop := fnExactFieldsOfUptoRow.holds Try.pinned (OpenSpec.upto fnExactFieldsOfSpec)

/-- 'laws.FnExactPictureOf', WHERE WHAT IT READS IS OF BULK AT MOST 1048576: true; the input reads as it did. -/
def fnExactPictureOfUptoRow : OpenClaim := { program := "ytkajcofpdlicaaa", sum := "e38441a7ace5ed53bf23594895b5bef7a2e99dc3fba3459f80823feca4144a12", func := "loop.example/g01322/laws.FnExactPictureOf", spec := "fnExactPictureOf", unfollowed := true, recurses := true, plainKeys := false, apart := false, narrowed := true }
def FnExactPictureOfUptoSaid : Prop := fnExactPictureOfUptoRow.holds Try.pinned (OpenSpec.upto fnExactPictureOfSpec)

/-- 'laws.FnExactImageOf', WHERE WHAT IT READS IS OF BULK AT MOST 1048576: true; the input reads as it did. -/
def fnExactImageOfUptoRow : OpenClaim := { program := "ytkajcofpdlicaaa", sum := "e38441a7ace5ed53bf23594895b5bef7a2e99dc3fba3459f80823feca4144a12", func := "loop.example/g01322/laws.FnExactImageOf", spec := "fnExactImageOf", unfollowed := true, recurses := true, plainKeys := false, apart := false, narrowed := true }
def FnExactImageOfUptoSaid : Prop := fnExactImageOfUptoRow.holds Try.pinned (OpenSpec.upto fnExactImageOfSpec)

/-- 'laws.FnExactSpreadPicture', WHERE WHAT IT READS IS OF BULK AT MOST 1048576: true; the input reads as it did. -/
def fnExactSpreadPictureUptoRow : OpenClaim := { program := "ytkajcofpdlicaaa", sum := "e38441a7ace5ed53bf23594895b5bef7a2e99dc3fba3459f80823feca4144a12", func := "loop.example/g01322/laws.FnExactSpreadPicture", spec := "fnExactSpreadPicture", unfollowed := true, recurses := true, plainKeys := false, apart := false, narrowed := true }
def FnExactSpreadPictureUptoSaid : Prop := fnExactSpreadPictureUptoRow.holds Try.pinned (OpenSpec.upto fnExactSpreadPictureSpec)

/-- 'laws.FnExactCheckBars', WHERE WHAT IT READS IS OF BULK AT MOST 1048576: true; the input reads as it did. -/
def fnExactCheckBarsUptoRow : OpenClaim := { program := "ytkajcofpdlicaaa", sum := "e38441a7ace5ed53bf23594895b5bef7a2e99dc3fba3459f80823feca4144a12", func := "loop.example/g01322/laws.FnExactCheckBars", spec := "fnExactCheckBars", plainKeys := false, apart := false, narrowed := true }
def FnExactCheckBarsUptoSaid : Prop := fnExactCheckBarsUptoRow.holds Try.pinned (OpenSpec.upto fnExactCheckBarsSpec)

/-- 'laws.FnExactWasteOf', WHERE WHAT IT READS IS OF BULK AT MOST 1048576: true; the input reads as it did. -/
def fnExactWasteOfUptoRow : OpenClaim := { program := "ytkajcofpdlicaaa", sum := "e38441a7ace5ed53bf23594895b5bef7a2e99dc3fba3459f80823feca4144a12", func := "loop.example/g01322/laws.FnExactWasteOf", spec := "fnExactWasteOf", plainKeys := false, apart := false, narrowed := true }
def FnExactWasteOfUptoSaid : Prop := fnExactWasteOfUptoRow.holds Try.pinned (OpenSpec.upto fnExactWasteOfSpec)

/-- 'laws.FnExactClashesOf', WHERE WHAT IT READS IS OF BULK AT MOST 1048576: true; the input reads as it did. -/
def fnExactClashesOfUptoRow : OpenClaim := { program := "ytkajcofpdlicaaa", sum := "e38441a7ace5ed53bf23594895b5bef7a2e99dc3fba3459f80823feca4144a12", func := "loop.example/g01322/laws.FnExactClashesOf", spec := "fnExactClashesOf", unfollowed := true, recurses := true, plainKeys := false, apart := false, narrowed := true }
def FnExactClashesOfUptoSaid : Prop := fnExactClashesOfUptoRow.holds Try.pinned (OpenSpec.upto fnExactClashesOfSpec)

/-- 'laws.FnExactBrickRow', WHERE WHAT IT READS IS OF BULK AT MOST 1048576: true; the input reads as it did. -/
def fnExactBrickRowUptoRow : OpenClaim := { program := "ytkajcofpdlicaaa", sum := "e38441a7ace5ed53bf23594895b5bef7a2e99dc3fba3459f80823feca4144a12", func := "loop.example/g01322/laws.FnExactBrickRow", spec := "fnExactBrickRow", plainKeys := false, apart := false, narrowed := true }
def FnExactBrickRowUptoSaid : Prop := fnExactBrickRowUptoRow.holds Try.pinned (OpenSpec.upto fnExactBrickRowSpec)

/-- 'laws.FnExactStaggerRows', WHERE WHAT IT READS IS OF BULK AT MOST 1048576: true; the input reads as it did. -/
def fnExactStaggerRowsUptoRow : OpenClaim := { program := "ytkajcofpdlicaaa", sum := "e38441a7ace5ed53bf23594895b5bef7a2e99dc3fba3459f80823feca4144a12", func := "loop.example/g01322/laws.FnExactStaggerRows", spec := "fnExactStaggerRows", unfollowed := true, recurses := true, plainKeys := false, apart := false, narrowed := true }
def FnExactStaggerRowsUptoSaid : Prop := fnExactStaggerRowsUptoRow.holds Try.pinned (OpenSpec.upto fnExactStaggerRowsSpec)

/-- 'laws.FnExactFirstClash', WHERE WHAT IT READS IS OF BULK AT MOST 1048576: true; the input reads as it did. -/
def fnExactFirstClashUptoRow : OpenClaim := { program := "ytkajcofpdlicaaa", sum := "e38441a7ace5ed53bf23594895b5bef7a2e99dc3fba3459f80823feca4144a12", func := "loop.example/g01322/laws.FnExactFirstClash", spec := "fnExactFirstClash", unfollowed := true, recurses := true, plainKeys := false, apart := false, narrowed := true }
def FnExactFirstClashUptoSaid : Prop := fnExactFirstClashUptoRow.holds Try.pinned (OpenSpec.upto fnExactFirstClashSpec)

/-- 'laws.FnExactNearestOf', WHERE WHAT IT READS IS OF BULK AT MOST 1048576: true; the input reads as it did. -/
def fnExactNearestOfUptoRow : OpenClaim := { program := "ytkajcofpdlicaaa", sum := "e38441a7ace5ed53bf23594895b5bef7a2e99dc3fba3459f80823feca4144a12", func := "loop.example/g01322/laws.FnExactNearestOf", spec := "fnExactNearestOf", unfollowed := true, recurses := true, plainKeys := false, apart := false, narrowed := true }
def FnExactNearestOfUptoSaid : Prop := fnExactNearestOfUptoRow.holds Try.pinned (OpenSpec.upto fnExactNearestOfSpec)

end Rows
end Go.Proofs.Ytkajcofpdlicaaa
