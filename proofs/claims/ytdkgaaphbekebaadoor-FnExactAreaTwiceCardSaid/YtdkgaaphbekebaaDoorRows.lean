/-
  NARROWER THAN 'FOR EVERY INPUT', by the rows' own cells (each row's printed sentence says how): FnExactValidStone: ifaces, laid · FnExactAreaTwice: ifaces, laid · FnExactBoxOf: ifaces, laid · FnExactWhereIs: ifaces, laid · FnExactFirstStone: ifaces, laid · FnExactMoveStone: ifaces, laid · FnExactTurnStone: ifaces, laid · FnExactMirrorStone: ifaces, laid · FnExactInFrame: ifaces, laid · FnExactStoneText: ifaces, laid · FnExactSplitStone: ifaces, laid.
  DERIVED. THE GIVEN ROWS OF THIS SEAT. 11 by the template 'for every input the law returns true; each argument reads behind the call as it read before'; 0 by the template 'total and deterministic' (their statements: YtdkgaaphbekebaaDoorTotals.lean).
  GIVEN WITH THE SEED: the statements are not yours to turn. If you find one false, say at which input.
  Laid BY PROGRAM, IN A SANDBOX (cutbox-rows.mjs): the forced cells as the released guide's own fill.sh prints them over the translation 8e10178b530ebf0d… (all of the seat's roots in one cut). By AI agents, Wed Nov 11 2026. No macro, syntax, notation, axiom, sorry.
-/
import Derived.Test.YtdkgaaphbekebaaDoorChecked
import GoSem.Claim
import GoSem.ClaimJoined
import GoSem.ClaimMapViews
import Derived.JoinedTies
import Derived.KernelRfl
namespace Go.Proofs.YtdkgaaphbekebaaDoor
/- THE CELL 'sum', in the pinned program and in every row, IS THE sha256 OF THE DUMP (.gsa) THAT YtdkgaaphbekebaaDoorProg.lean LOADS. Nothing in Lean hashes anything: it is a label: what it is worth is what the hold of that sum in a sandbox is worth. -/
noncomputable def Tryd.pinned : Pinned := { name := "ytdkgaaphbekebaadoor", sum := "8e10178b530ebf0d1438d36c612d63729d83f0e15d6b31fc3cd0296a2c5296f2", checked := Tryd.checked }
namespace Rows
def none {H : Type} : Left H := { results := [], args := [] }

/- WHAT THE LISTED PACKAGE-LEVEL VARIABLES READ AS WHEN THE CALL BEGINS. Each datum BY PROGRAM (the guide's laid-datum.mjs) off the statement by which the dump's own 'gosem.cut.vars' lays the variable. In a bare row this is a premise. The card (YtdkgaaphbekebaaDoorCards.lean) ties it to the program's text. -/
def laid_loop_example_g01322_impl_errPlaces {H : Type} : DataW H := .iface "*errors.errorString" (.ptr (.agg [.lit (.string [97, 32, 99, 111, 114, 110, 101, 114, 32, 105, 115, 32, 116, 111, 111, 32, 102, 97, 114, 32, 97, 119, 97, 121])]))
def laid_loop_example_g01322_impl_errShape {H : Type} : DataW H := .iface "*errors.errorString" (.ptr (.agg [.lit (.string [116, 104, 101, 32, 99, 111, 114, 110, 101, 114, 115, 32, 100, 111, 32, 110, 111, 116, 32, 103, 111, 32, 111, 110, 99, 101, 32, 97, 114, 111, 117, 110, 100, 32, 97, 32, 99, 111, 110, 118, 101, 120, 32, 115, 116, 111, 110, 101])]))
def laid_loop_example_g01322_impl_errCorners {H : Type} : DataW H := .iface "*errors.errorString" (.ptr (.agg [.lit (.string [116, 104, 101, 114, 101, 32, 97, 114, 101, 32, 116, 111, 111, 32, 109, 97, 110, 121, 32, 99, 111, 114, 110, 101, 114, 115])]))
def laid_math_bits_deBruijn32tab {H : Type} : DataW H := .agg [.lit (.int .u8 0), .lit (.int .u8 1), .lit (.int .u8 28), .lit (.int .u8 2), .lit (.int .u8 29), .lit (.int .u8 14), .lit (.int .u8 24), .lit (.int .u8 3), .lit (.int .u8 30), .lit (.int .u8 22), .lit (.int .u8 20), .lit (.int .u8 15), .lit (.int .u8 25), .lit (.int .u8 17), .lit (.int .u8 4), .lit (.int .u8 8), .lit (.int .u8 31), .lit (.int .u8 27), .lit (.int .u8 13), .lit (.int .u8 23), .lit (.int .u8 21), .lit (.int .u8 19), .lit (.int .u8 16), .lit (.int .u8 7), .lit (.int .u8 26), .lit (.int .u8 12), .lit (.int .u8 18), .lit (.int .u8 6), .lit (.int .u8 11), .lit (.int .u8 5), .lit (.int .u8 10), .lit (.int .u8 9)]
def laid_math_bits_deBruijn64tab {H : Type} : DataW H := .agg [.lit (.int .u8 0), .lit (.int .u8 1), .lit (.int .u8 56), .lit (.int .u8 2), .lit (.int .u8 57), .lit (.int .u8 49), .lit (.int .u8 28), .lit (.int .u8 3), .lit (.int .u8 61), .lit (.int .u8 58), .lit (.int .u8 42), .lit (.int .u8 50), .lit (.int .u8 38), .lit (.int .u8 29), .lit (.int .u8 17), .lit (.int .u8 4), .lit (.int .u8 62), .lit (.int .u8 47), .lit (.int .u8 59), .lit (.int .u8 36), .lit (.int .u8 45), .lit (.int .u8 43), .lit (.int .u8 51), .lit (.int .u8 22), .lit (.int .u8 53), .lit (.int .u8 39), .lit (.int .u8 33), .lit (.int .u8 30), .lit (.int .u8 24), .lit (.int .u8 18), .lit (.int .u8 12), .lit (.int .u8 5), .lit (.int .u8 63), .lit (.int .u8 55), .lit (.int .u8 48), .lit (.int .u8 27), .lit (.int .u8 60), .lit (.int .u8 41), .lit (.int .u8 37), .lit (.int .u8 16), .lit (.int .u8 46), .lit (.int .u8 35), .lit (.int .u8 44), .lit (.int .u8 21), .lit (.int .u8 52), .lit (.int .u8 32), .lit (.int .u8 23), .lit (.int .u8 11), .lit (.int .u8 54), .lit (.int .u8 26), .lit (.int .u8 40), .lit (.int .u8 15), .lit (.int .u8 34), .lit (.int .u8 20), .lit (.int .u8 31), .lit (.int .u8 10), .lit (.int .u8 25), .lit (.int .u8 14), .lit (.int .u8 19), .lit (.int .u8 9), .lit (.int .u8 13), .lit (.int .u8 8), .lit (.int .u8 7), .lit (.int .u8 6)]
def laid_internal_strconv_uint64pow10 {H : Type} : DataW H := .agg [.lit (.int .u64 1), .lit (.int .u64 10), .lit (.int .u64 100), .lit (.int .u64 1000), .lit (.int .u64 10000), .lit (.int .u64 100000), .lit (.int .u64 1000000), .lit (.int .u64 10000000), .lit (.int .u64 100000000), .lit (.int .u64 1000000000), .lit (.int .u64 10000000000), .lit (.int .u64 100000000000), .lit (.int .u64 1000000000000), .lit (.int .u64 10000000000000), .lit (.int .u64 100000000000000), .lit (.int .u64 1000000000000000), .lit (.int .u64 10000000000000000), .lit (.int .u64 100000000000000000), .lit (.int .u64 1000000000000000000), .lit (.int .u64 10000000000000000000)]

/-- 'laws.FnExactValidStone': WHATEVER THE INPUT: true; the input reads as it did. -/
def fnExactValidStoneSpec : ChangeSpec := { name := "fnExactValidStone", vars := ["loop.example/g01322/impl.errPlaces", "loop.example/g01322/impl.errShape", "loop.example/g01322/impl.errCorners"], fn := fun _ => fun
  | [d, g1, g2, g3] => { results := [.lit (.bool true)], args := [d], vars := [g1, g2, g3] }
  | _ => none }
def fnExactValidStoneRow : OpenClaim := { program := "ytdkgaaphbekebaadoor", sum := "8e10178b530ebf0d1438d36c612d63729d83f0e15d6b31fc3cd0296a2c5296f2", func := "loop.example/g01322/laws.FnExactValidStone", spec := "fnExactValidStone", named := ["loop.example/g01322/impl.errPlaces", "loop.example/g01322/impl.errShape", "loop.example/g01322/impl.errCorners"], ifaces := true, apart := false, laid := [("loop.example/g01322/impl.errPlaces", laid_loop_example_g01322_impl_errPlaces), ("loop.example/g01322/impl.errShape", laid_loop_example_g01322_impl_errShape), ("loop.example/g01322/impl.errCorners", laid_loop_example_g01322_impl_errCorners)] }
def FnExactValidStoneSaid : Prop := fnExactValidStoneRow.holds Tryd.pinned (OpenSpec.ofChange fnExactValidStoneSpec)

/-- ITS FALSE NEIGHBOUR: 'it returns false'. Refute it at one input. -/
def fnExactValidStoneWrong : ChangeSpec := { name := "fnExactValidStone", vars := ["loop.example/g01322/impl.errPlaces", "loop.example/g01322/impl.errShape", "loop.example/g01322/impl.errCorners"], fn := fun _ => fun
  | [d, g1, g2, g3] => { results := [.lit (.bool false)], args := [d], vars := [g1, g2, g3] }
  | _ => none }
def FnExactValidStoneWrongFalsely : Prop := fnExactValidStoneRow.holds Tryd.pinned (OpenSpec.ofChange fnExactValidStoneWrong)

/-- 'laws.FnExactAreaTwice': WHATEVER THE INPUT: true; the input reads as it did. -/
def fnExactAreaTwiceSpec : ChangeSpec := { name := "fnExactAreaTwice", vars := ["loop.example/g01322/impl.errPlaces", "loop.example/g01322/impl.errShape", "loop.example/g01322/impl.errCorners"], fn := fun _ => fun
  | [d, g1, g2, g3] => { results := [.lit (.bool true)], args := [d], vars := [g1, g2, g3] }
  | _ => none }
def fnExactAreaTwiceRow : OpenClaim := { program := "ytdkgaaphbekebaadoor", sum := "8e10178b530ebf0d1438d36c612d63729d83f0e15d6b31fc3cd0296a2c5296f2", func := "loop.example/g01322/laws.FnExactAreaTwice", spec := "fnExactAreaTwice", unfollowed := true, recurses := true, named := ["loop.example/g01322/impl.errPlaces", "loop.example/g01322/impl.errShape", "loop.example/g01322/impl.errCorners"], ifaces := true, apart := false, laid := [("loop.example/g01322/impl.errPlaces", laid_loop_example_g01322_impl_errPlaces), ("loop.example/g01322/impl.errShape", laid_loop_example_g01322_impl_errShape), ("loop.example/g01322/impl.errCorners", laid_loop_example_g01322_impl_errCorners)] }
def FnExactAreaTwiceSaid : Prop := fnExactAreaTwiceRow.holds Tryd.pinned (OpenSpec.ofChange fnExactAreaTwiceSpec)

/-- ITS FALSE NEIGHBOUR: 'it returns false'. Refute it at one input. -/
def fnExactAreaTwiceWrong : ChangeSpec := { name := "fnExactAreaTwice", vars := ["loop.example/g01322/impl.errPlaces", "loop.example/g01322/impl.errShape", "loop.example/g01322/impl.errCorners"], fn := fun _ => fun
  | [d, g1, g2, g3] => { results := [.lit (.bool false)], args := [d], vars := [g1, g2, g3] }
  | _ => none }
def FnExactAreaTwiceWrongFalsely : Prop := fnExactAreaTwiceRow.holds Tryd.pinned (OpenSpec.ofChange fnExactAreaTwiceWrong)

/-- 'laws.FnExactBoxOf': WHATEVER THE INPUT: true; the input reads as it did. -/
def fnExactBoxOfSpec : ChangeSpec := { name := "fnExactBoxOf", vars := ["loop.example/g01322/impl.errPlaces", "loop.example/g01322/impl.errShape", "loop.example/g01322/impl.errCorners"], fn := fun _ => fun
  | [d, g1, g2, g3] => { results := [.lit (.bool true)], args := [d], vars := [g1, g2, g3] }
  | _ => none }
def fnExactBoxOfRow : OpenClaim := { program := "ytdkgaaphbekebaadoor", sum := "8e10178b530ebf0d1438d36c612d63729d83f0e15d6b31fc3cd0296a2c5296f2", func := "loop.example/g01322/laws.FnExactBoxOf", spec := "fnExactBoxOf", unfollowed := true, recurses := true, named := ["loop.example/g01322/impl.errPlaces", "loop.example/g01322/impl.errShape", "loop.example/g01322/impl.errCorners"], ifaces := true, apart := false, laid := [("loop.example/g01322/impl.errPlaces", laid_loop_example_g01322_impl_errPlaces), ("loop.example/g01322/impl.errShape", laid_loop_example_g01322_impl_errShape), ("loop.example/g01322/impl.errCorners", laid_loop_example_g01322_impl_errCorners)] }
def FnExactBoxOfSaid : Prop := fnExactBoxOfRow.holds Tryd.pinned (OpenSpec.ofChange fnExactBoxOfSpec)

/-- ITS FALSE NEIGHBOUR: 'it returns false'. Refute it at one input. -/
def fnExactBoxOfWrong : ChangeSpec := { name := "fnExactBoxOf", vars := ["loop.example/g01322/impl.errPlaces", "loop.example/g01322/impl.errShape", "loop.example/g01322/impl.errCorners"], fn := fun _ => fun
  | [d, g1, g2, g3] => { results := [.lit (.bool false)], args := [d], vars := [g1, g2, g3] }
  | _ => none }
def FnExactBoxOfWrongFalsely : Prop := fnExactBoxOfRow.holds Tryd.pinned (OpenSpec.ofChange fnExactBoxOfWrong)

/-- 'laws.FnExactWhereIs': WHATEVER THE INPUT: true; the input reads as it did. -/
def fnExactWhereIsSpec : ChangeSpec := { name := "fnExactWhereIs", vars := ["loop.example/g01322/impl.errPlaces", "loop.example/g01322/impl.errShape", "loop.example/g01322/impl.errCorners"], fn := fun _ => fun
  | [d1, d2, d3, g1, g2, g3] => { results := [.lit (.bool true)], args := [d1, d2, d3], vars := [g1, g2, g3] }
  | _ => none }
def fnExactWhereIsRow : OpenClaim := { program := "ytdkgaaphbekebaadoor", sum := "8e10178b530ebf0d1438d36c612d63729d83f0e15d6b31fc3cd0296a2c5296f2", func := "loop.example/g01322/laws.FnExactWhereIs", spec := "fnExactWhereIs", unfollowed := true, recurses := true, named := ["loop.example/g01322/impl.errPlaces", "loop.example/g01322/impl.errShape", "loop.example/g01322/impl.errCorners"], ifaces := true, apart := false, laid := [("loop.example/g01322/impl.errPlaces", laid_loop_example_g01322_impl_errPlaces), ("loop.example/g01322/impl.errShape", laid_loop_example_g01322_impl_errShape), ("loop.example/g01322/impl.errCorners", laid_loop_example_g01322_impl_errCorners)] }
def FnExactWhereIsSaid : Prop := fnExactWhereIsRow.holds Tryd.pinned (OpenSpec.ofChange fnExactWhereIsSpec)

/-- ITS FALSE NEIGHBOUR: 'it returns false'. Refute it at one input. -/
def fnExactWhereIsWrong : ChangeSpec := { name := "fnExactWhereIs", vars := ["loop.example/g01322/impl.errPlaces", "loop.example/g01322/impl.errShape", "loop.example/g01322/impl.errCorners"], fn := fun _ => fun
  | [d1, d2, d3, g1, g2, g3] => { results := [.lit (.bool false)], args := [d1, d2, d3], vars := [g1, g2, g3] }
  | _ => none }
def FnExactWhereIsWrongFalsely : Prop := fnExactWhereIsRow.holds Tryd.pinned (OpenSpec.ofChange fnExactWhereIsWrong)

/-- 'laws.FnExactFirstStone': WHATEVER THE INPUT: true; the input reads as it did. -/
def fnExactFirstStoneSpec : ChangeSpec := { name := "fnExactFirstStone", vars := ["loop.example/g01322/impl.errPlaces", "loop.example/g01322/impl.errShape", "loop.example/g01322/impl.errCorners"], fn := fun _ => fun
  | [d, g1, g2, g3] => { results := [.lit (.bool true)], args := [d], vars := [g1, g2, g3] }
  | _ => none }
def fnExactFirstStoneRow : OpenClaim := { program := "ytdkgaaphbekebaadoor", sum := "8e10178b530ebf0d1438d36c612d63729d83f0e15d6b31fc3cd0296a2c5296f2", func := "loop.example/g01322/laws.FnExactFirstStone", spec := "fnExactFirstStone", unfollowed := true, recurses := true, named := ["loop.example/g01322/impl.errPlaces", "loop.example/g01322/impl.errShape", "loop.example/g01322/impl.errCorners"], ifaces := true, apart := false, laid := [("loop.example/g01322/impl.errPlaces", laid_loop_example_g01322_impl_errPlaces), ("loop.example/g01322/impl.errShape", laid_loop_example_g01322_impl_errShape), ("loop.example/g01322/impl.errCorners", laid_loop_example_g01322_impl_errCorners)] }
def FnExactFirstStoneSaid : Prop := fnExactFirstStoneRow.holds Tryd.pinned (OpenSpec.ofChange fnExactFirstStoneSpec)

/-- ITS FALSE NEIGHBOUR: 'it returns false'. Refute it at one input. -/
def fnExactFirstStoneWrong : ChangeSpec := { name := "fnExactFirstStone", vars := ["loop.example/g01322/impl.errPlaces", "loop.example/g01322/impl.errShape", "loop.example/g01322/impl.errCorners"], fn := fun _ => fun
  | [d, g1, g2, g3] => { results := [.lit (.bool false)], args := [d], vars := [g1, g2, g3] }
  | _ => none }
def FnExactFirstStoneWrongFalsely : Prop := fnExactFirstStoneRow.holds Tryd.pinned (OpenSpec.ofChange fnExactFirstStoneWrong)

/-- 'laws.FnExactMoveStone': WHATEVER THE INPUT: true; the input reads as it did. -/
def fnExactMoveStoneSpec : ChangeSpec := { name := "fnExactMoveStone", vars := ["loop.example/g01322/impl.errPlaces", "loop.example/g01322/impl.errShape", "loop.example/g01322/impl.errCorners"], fn := fun _ => fun
  | [d1, d2, d3, g1, g2, g3] => { results := [.lit (.bool true)], args := [d1, d2, d3], vars := [g1, g2, g3] }
  | _ => none }
def fnExactMoveStoneRow : OpenClaim := { program := "ytdkgaaphbekebaadoor", sum := "8e10178b530ebf0d1438d36c612d63729d83f0e15d6b31fc3cd0296a2c5296f2", func := "loop.example/g01322/laws.FnExactMoveStone", spec := "fnExactMoveStone", inPlace := ["internal/reflectlite.TypeOf"], unfollowed := true, recurses := true, named := ["loop.example/g01322/impl.errPlaces", "loop.example/g01322/impl.errShape", "loop.example/g01322/impl.errCorners"], ifaces := true, apart := false, laid := [("loop.example/g01322/impl.errPlaces", laid_loop_example_g01322_impl_errPlaces), ("loop.example/g01322/impl.errShape", laid_loop_example_g01322_impl_errShape), ("loop.example/g01322/impl.errCorners", laid_loop_example_g01322_impl_errCorners)] }
def FnExactMoveStoneSaid : Prop := fnExactMoveStoneRow.holds Tryd.pinned (OpenSpec.ofChange fnExactMoveStoneSpec)

/-- ITS FALSE NEIGHBOUR: 'it returns false'. Refute it at one input. -/
def fnExactMoveStoneWrong : ChangeSpec := { name := "fnExactMoveStone", vars := ["loop.example/g01322/impl.errPlaces", "loop.example/g01322/impl.errShape", "loop.example/g01322/impl.errCorners"], fn := fun _ => fun
  | [d1, d2, d3, g1, g2, g3] => { results := [.lit (.bool false)], args := [d1, d2, d3], vars := [g1, g2, g3] }
  | _ => none }
def FnExactMoveStoneWrongFalsely : Prop := fnExactMoveStoneRow.holds Tryd.pinned (OpenSpec.ofChange fnExactMoveStoneWrong)

/-- 'laws.FnExactTurnStone': WHATEVER THE INPUT: true; the input reads as it did. -/
def fnExactTurnStoneSpec : ChangeSpec := { name := "fnExactTurnStone", vars := ["loop.example/g01322/impl.errPlaces", "loop.example/g01322/impl.errShape", "loop.example/g01322/impl.errCorners"], fn := fun _ => fun
  | [d, g1, g2, g3] => { results := [.lit (.bool true)], args := [d], vars := [g1, g2, g3] }
  | _ => none }
def fnExactTurnStoneRow : OpenClaim := { program := "ytdkgaaphbekebaadoor", sum := "8e10178b530ebf0d1438d36c612d63729d83f0e15d6b31fc3cd0296a2c5296f2", func := "loop.example/g01322/laws.FnExactTurnStone", spec := "fnExactTurnStone", unfollowed := true, recurses := true, named := ["loop.example/g01322/impl.errPlaces", "loop.example/g01322/impl.errShape", "loop.example/g01322/impl.errCorners"], ifaces := true, apart := false, laid := [("loop.example/g01322/impl.errPlaces", laid_loop_example_g01322_impl_errPlaces), ("loop.example/g01322/impl.errShape", laid_loop_example_g01322_impl_errShape), ("loop.example/g01322/impl.errCorners", laid_loop_example_g01322_impl_errCorners)] }
def FnExactTurnStoneSaid : Prop := fnExactTurnStoneRow.holds Tryd.pinned (OpenSpec.ofChange fnExactTurnStoneSpec)

/-- ITS FALSE NEIGHBOUR: 'it returns false'. Refute it at one input. -/
def fnExactTurnStoneWrong : ChangeSpec := { name := "fnExactTurnStone", vars := ["loop.example/g01322/impl.errPlaces", "loop.example/g01322/impl.errShape", "loop.example/g01322/impl.errCorners"], fn := fun _ => fun
  | [d, g1, g2, g3] => { results := [.lit (.bool false)], args := [d], vars := [g1, g2, g3] }
  | _ => none }
def FnExactTurnStoneWrongFalsely : Prop := fnExactTurnStoneRow.holds Tryd.pinned (OpenSpec.ofChange fnExactTurnStoneWrong)

/-- 'laws.FnExactMirrorStone': WHATEVER THE INPUT: true; the input reads as it did. -/
def fnExactMirrorStoneSpec : ChangeSpec := { name := "fnExactMirrorStone", vars := ["loop.example/g01322/impl.errPlaces", "loop.example/g01322/impl.errShape", "loop.example/g01322/impl.errCorners"], fn := fun _ => fun
  | [d, g1, g2, g3] => { results := [.lit (.bool true)], args := [d], vars := [g1, g2, g3] }
  | _ => none }
def fnExactMirrorStoneRow : OpenClaim := { program := "ytdkgaaphbekebaadoor", sum := "8e10178b530ebf0d1438d36c612d63729d83f0e15d6b31fc3cd0296a2c5296f2", func := "loop.example/g01322/laws.FnExactMirrorStone", spec := "fnExactMirrorStone", unfollowed := true, recurses := true, named := ["loop.example/g01322/impl.errPlaces", "loop.example/g01322/impl.errShape", "loop.example/g01322/impl.errCorners"], ifaces := true, apart := false, laid := [("loop.example/g01322/impl.errPlaces", laid_loop_example_g01322_impl_errPlaces), ("loop.example/g01322/impl.errShape", laid_loop_example_g01322_impl_errShape), ("loop.example/g01322/impl.errCorners", laid_loop_example_g01322_impl_errCorners)] }
def FnExactMirrorStoneSaid : Prop := fnExactMirrorStoneRow.holds Tryd.pinned (OpenSpec.ofChange fnExactMirrorStoneSpec)

/-- ITS FALSE NEIGHBOUR: 'it returns false'. Refute it at one input. -/
def fnExactMirrorStoneWrong : ChangeSpec := { name := "fnExactMirrorStone", vars := ["loop.example/g01322/impl.errPlaces", "loop.example/g01322/impl.errShape", "loop.example/g01322/impl.errCorners"], fn := fun _ => fun
  | [d, g1, g2, g3] => { results := [.lit (.bool false)], args := [d], vars := [g1, g2, g3] }
  | _ => none }
def FnExactMirrorStoneWrongFalsely : Prop := fnExactMirrorStoneRow.holds Tryd.pinned (OpenSpec.ofChange fnExactMirrorStoneWrong)

/-- 'laws.FnExactInFrame': WHATEVER THE INPUT: true; the input reads as it did. -/
def fnExactInFrameSpec : ChangeSpec := { name := "fnExactInFrame", vars := ["loop.example/g01322/impl.errPlaces", "loop.example/g01322/impl.errShape", "loop.example/g01322/impl.errCorners"], fn := fun _ => fun
  | [d1, d2, g1, g2, g3] => { results := [.lit (.bool true)], args := [d1, d2], vars := [g1, g2, g3] }
  | _ => none }
def fnExactInFrameRow : OpenClaim := { program := "ytdkgaaphbekebaadoor", sum := "8e10178b530ebf0d1438d36c612d63729d83f0e15d6b31fc3cd0296a2c5296f2", func := "loop.example/g01322/laws.FnExactInFrame", spec := "fnExactInFrame", named := ["loop.example/g01322/impl.errPlaces", "loop.example/g01322/impl.errShape", "loop.example/g01322/impl.errCorners"], ifaces := true, apart := false, laid := [("loop.example/g01322/impl.errPlaces", laid_loop_example_g01322_impl_errPlaces), ("loop.example/g01322/impl.errShape", laid_loop_example_g01322_impl_errShape), ("loop.example/g01322/impl.errCorners", laid_loop_example_g01322_impl_errCorners)] }
def FnExactInFrameSaid : Prop := fnExactInFrameRow.holds Tryd.pinned (OpenSpec.ofChange fnExactInFrameSpec)

/-- ITS FALSE NEIGHBOUR: 'it returns false'. Refute it at one input. -/
def fnExactInFrameWrong : ChangeSpec := { name := "fnExactInFrame", vars := ["loop.example/g01322/impl.errPlaces", "loop.example/g01322/impl.errShape", "loop.example/g01322/impl.errCorners"], fn := fun _ => fun
  | [d1, d2, g1, g2, g3] => { results := [.lit (.bool false)], args := [d1, d2], vars := [g1, g2, g3] }
  | _ => none }
def FnExactInFrameWrongFalsely : Prop := fnExactInFrameRow.holds Tryd.pinned (OpenSpec.ofChange fnExactInFrameWrong)

/-- 'laws.FnExactStoneText': WHATEVER THE INPUT: true; the input reads as it did. -/
def fnExactStoneTextSpec : ChangeSpec := { name := "fnExactStoneText", vars := ["loop.example/g01322/impl.errPlaces", "loop.example/g01322/impl.errShape", "loop.example/g01322/impl.errCorners"], fn := fun _ => fun
  | [d, g1, g2, g3] => { results := [.lit (.bool true)], args := [d], vars := [g1, g2, g3] }
  | _ => none }
def fnExactStoneTextRow : OpenClaim := { program := "ytdkgaaphbekebaadoor", sum := "8e10178b530ebf0d1438d36c612d63729d83f0e15d6b31fc3cd0296a2c5296f2", func := "loop.example/g01322/laws.FnExactStoneText", spec := "fnExactStoneText", inPlace := ["internal/abi.NoEscape", "internal/bytealg.MakeNoZero"], recurses := true, named := ["loop.example/g01322/impl.errPlaces", "loop.example/g01322/impl.errShape", "loop.example/g01322/impl.errCorners", "internal/strconv.uint64pow10", "math/bits.deBruijn32tab", "math/bits.deBruijn64tab"], ifaces := true, apart := false, laid := [("math/bits.deBruijn32tab", laid_math_bits_deBruijn32tab), ("math/bits.deBruijn64tab", laid_math_bits_deBruijn64tab), ("internal/strconv.uint64pow10", laid_internal_strconv_uint64pow10), ("loop.example/g01322/impl.errPlaces", laid_loop_example_g01322_impl_errPlaces), ("loop.example/g01322/impl.errShape", laid_loop_example_g01322_impl_errShape), ("loop.example/g01322/impl.errCorners", laid_loop_example_g01322_impl_errCorners)] }
def FnExactStoneTextSaid : Prop := fnExactStoneTextRow.holds Tryd.pinned (OpenSpec.ofChange fnExactStoneTextSpec)

/-- ITS FALSE NEIGHBOUR: 'it returns false'. Refute it at one input. -/
def fnExactStoneTextWrong : ChangeSpec := { name := "fnExactStoneText", vars := ["loop.example/g01322/impl.errPlaces", "loop.example/g01322/impl.errShape", "loop.example/g01322/impl.errCorners"], fn := fun _ => fun
  | [d, g1, g2, g3] => { results := [.lit (.bool false)], args := [d], vars := [g1, g2, g3] }
  | _ => none }
def FnExactStoneTextWrongFalsely : Prop := fnExactStoneTextRow.holds Tryd.pinned (OpenSpec.ofChange fnExactStoneTextWrong)

/-- 'laws.FnExactSplitStone': WHATEVER THE INPUT: true; the input reads as it did. -/
def fnExactSplitStoneSpec : ChangeSpec := { name := "fnExactSplitStone", vars := ["loop.example/g01322/impl.errPlaces", "loop.example/g01322/impl.errShape", "loop.example/g01322/impl.errCorners"], fn := fun _ => fun
  | [d1, d2, d3, g1, g2, g3] => { results := [.lit (.bool true)], args := [d1, d2, d3], vars := [g1, g2, g3] }
  | _ => none }
def fnExactSplitStoneRow : OpenClaim := { program := "ytdkgaaphbekebaadoor", sum := "8e10178b530ebf0d1438d36c612d63729d83f0e15d6b31fc3cd0296a2c5296f2", func := "loop.example/g01322/laws.FnExactSplitStone", spec := "fnExactSplitStone", named := ["loop.example/g01322/impl.errPlaces", "loop.example/g01322/impl.errShape", "loop.example/g01322/impl.errCorners"], ifaces := true, apart := false, laid := [("loop.example/g01322/impl.errPlaces", laid_loop_example_g01322_impl_errPlaces), ("loop.example/g01322/impl.errShape", laid_loop_example_g01322_impl_errShape), ("loop.example/g01322/impl.errCorners", laid_loop_example_g01322_impl_errCorners)] }
def FnExactSplitStoneSaid : Prop := fnExactSplitStoneRow.holds Tryd.pinned (OpenSpec.ofChange fnExactSplitStoneSpec)

/-- ITS FALSE NEIGHBOUR: 'it returns false'. Refute it at one input. -/
def fnExactSplitStoneWrong : ChangeSpec := { name := "fnExactSplitStone", vars := ["loop.example/g01322/impl.errPlaces", "loop.example/g01322/impl.errShape", "loop.example/g01322/impl.errCorners"], fn := fun _ => fun
  | [d1, d2, d3, g1, g2, g3] => { results := [.lit (.bool false)], args := [d1, d2, d3], vars := [g1, g2, g3] }
  | _ => none }
def FnExactSplitStoneWrongFalsely : Prop := fnExactSplitStoneRow.holds Tryd.pinned (OpenSpec.ofChange fnExactSplitStoneWrong)

/- THE SECOND FORM. 'bulk': how many values and letters a reading holds, each counted each time it is reached (what is shared counts as often as it is met; a slice's spare places count too). A statement '..UptoSaid' is the law's where the arguments, and the package variables that the reading takes, are together of bulk at most 1048576: NARROWER than '..Said'. Prove '..Said' where nothing that the law and all that it calls make is longer than what came in: it says more and counts as full. Else prove '..UptoSaid'. A law counts once. -/
mutual
def uptoBulk {H : Type} : DataW H → Nat
  | .lit (.string bytes) => bytes.length + 1
  | .lit _ => 1
  | .nil => 1
  | .ptr d => uptoBulk d + 1
  | .slice elems spare => uptoBulkAll elems + uptoBulkAll spare + 1
  | .agg parts => uptoBulkAll parts + 1
  | .iface _ d => uptoBulk d + 1
  | .map entries => uptoBulkEntries entries + 1
  | .held _ => 1
def uptoBulkAll {H : Type} : List (DataW H) → Nat
  | [] => 0
  | d :: r => uptoBulk d + uptoBulkAll r
def uptoBulkEntries {H : Type} : List (Lit × DataW H) → Nat
  | [] => 0
  | x :: r => uptoBulkEntry x + uptoBulkEntries r
def uptoBulkEntry {H : Type} : Lit × DataW H → Nat
  | (.string bytes, d) => bytes.length + uptoBulk d + 1
  | (_, d) => uptoBulk d + 1
 end
def uptoSmall : (H : Type) → List (DataW H) → Bool := fun _ ds => decide (uptoBulkAll ds ≤ 1048576)
def OpenSpec.upto (s : _root_.Go.ChangeSpec) : _root_.Go.OpenSpec := { _root_.Go.OpenSpec.ofChange s with cond := some uptoSmall }

/-- 'laws.FnExactValidStone', WHERE WHAT IT READS IS OF BULK AT MOST 1048576: true; the input reads as it did. -/
def fnExactValidStoneUptoRow : OpenClaim := { program := "ytdkgaaphbekebaadoor", sum := "8e10178b530ebf0d1438d36c612d63729d83f0e15d6b31fc3cd0296a2c5296f2", func := "loop.example/g01322/laws.FnExactValidStone", spec := "fnExactValidStone", named := ["loop.example/g01322/impl.errPlaces", "loop.example/g01322/impl.errShape", "loop.example/g01322/impl.errCorners"], ifaces := true, apart := false, laid := [("loop.example/g01322/impl.errPlaces", laid_loop_example_g01322_impl_errPlaces), ("loop.example/g01322/impl.errShape", laid_loop_example_g01322_impl_errShape), ("loop.example/g01322/impl.errCorners", laid_loop_example_g01322_impl_errCorners)], narrowed := true }
def FnExactValidStoneUptoSaid : Prop := fnExactValidStoneUptoRow.holds Tryd.pinned (OpenSpec.upto fnExactValidStoneSpec)

/-- 'laws.FnExactAreaTwice', WHERE WHAT IT READS IS OF BULK AT MOST 1048576: true; the input reads as it did. -/
def fnExactAreaTwiceUptoRow : OpenClaim := { program := "ytdkgaaphbekebaadoor", sum := "8e10178b530ebf0d1438d36c612d63729d83f0e15d6b31fc3cd0296a2c5296f2", func := "loop.example/g01322/laws.FnExactAreaTwice", spec := "fnExactAreaTwice", unfollowed := true, recurses := true, named := ["loop.example/g01322/impl.errPlaces", "loop.example/g01322/impl.errShape", "loop.example/g01322/impl.errCorners"], ifaces := true, apart := false, laid := [("loop.example/g01322/impl.errPlaces", laid_loop_example_g01322_impl_errPlaces), ("loop.example/g01322/impl.errShape", laid_loop_example_g01322_impl_errShape), ("loop.example/g01322/impl.errCorners", laid_loop_example_g01322_impl_errCorners)], narrowed := true }
def FnExactAreaTwiceUptoSaid : Prop := fnExactAreaTwiceUptoRow.holds Tryd.pinned (OpenSpec.upto fnExactAreaTwiceSpec)

/-- 'laws.FnExactBoxOf', WHERE WHAT IT READS IS OF BULK AT MOST 1048576: true; the input reads as it did. -/
def fnExactBoxOfUptoRow : OpenClaim := { program := "ytdkgaaphbekebaadoor", sum := "8e10178b530ebf0d1438d36c612d63729d83f0e15d6b31fc3cd0296a2c5296f2", func := "loop.example/g01322/laws.FnExactBoxOf", spec := "fnExactBoxOf", unfollowed := true, recurses := true, named := ["loop.example/g01322/impl.errPlaces", "loop.example/g01322/impl.errShape", "loop.example/g01322/impl.errCorners"], ifaces := true, apart := false, laid := [("loop.example/g01322/impl.errPlaces", laid_loop_example_g01322_impl_errPlaces), ("loop.example/g01322/impl.errShape", laid_loop_example_g01322_impl_errShape), ("loop.example/g01322/impl.errCorners", laid_loop_example_g01322_impl_errCorners)], narrowed := true }
def FnExactBoxOfUptoSaid : Prop := fnExactBoxOfUptoRow.holds Tryd.pinned (OpenSpec.upto fnExactBoxOfSpec)

/-- 'laws.FnExactWhereIs', WHERE WHAT IT READS IS OF BULK AT MOST 1048576: true; the input reads as it did. -/
def fnExactWhereIsUptoRow : OpenClaim := { program := "ytdkgaaphbekebaadoor", sum := "8e10178b530ebf0d1438d36c612d63729d83f0e15d6b31fc3cd0296a2c5296f2", func := "loop.example/g01322/laws.FnExactWhereIs", spec := "fnExactWhereIs", unfollowed := true, recurses := true, named := ["loop.example/g01322/impl.errPlaces", "loop.example/g01322/impl.errShape", "loop.example/g01322/impl.errCorners"], ifaces := true, apart := false, laid := [("loop.example/g01322/impl.errPlaces", laid_loop_example_g01322_impl_errPlaces), ("loop.example/g01322/impl.errShape", laid_loop_example_g01322_impl_errShape), ("loop.example/g01322/impl.errCorners", laid_loop_example_g01322_impl_errCorners)], narrowed := true }
def FnExactWhereIsUptoSaid : Prop := fnExactWhereIsUptoRow.holds Tryd.pinned (OpenSpec.upto fnExactWhereIsSpec)

/-- 'laws.FnExactFirstStone', WHERE WHAT IT READS IS OF BULK AT MOST 1048576: true; the input reads as it did. -/
def fnExactFirstStoneUptoRow : OpenClaim := { program := "ytdkgaaphbekebaadoor", sum := "8e10178b530ebf0d1438d36c612d63729d83f0e15d6b31fc3cd0296a2c5296f2", func := "loop.example/g01322/laws.FnExactFirstStone", spec := "fnExactFirstStone", unfollowed := true, recurses := true, named := ["loop.example/g01322/impl.errPlaces", "loop.example/g01322/impl.errShape", "loop.example/g01322/impl.errCorners"], ifaces := true, apart := false, laid := [("loop.example/g01322/impl.errPlaces", laid_loop_example_g01322_impl_errPlaces), ("loop.example/g01322/impl.errShape", laid_loop_example_g01322_impl_errShape), ("loop.example/g01322/impl.errCorners", laid_loop_example_g01322_impl_errCorners)], narrowed := true }
def FnExactFirstStoneUptoSaid : Prop := fnExactFirstStoneUptoRow.holds Tryd.pinned (OpenSpec.upto fnExactFirstStoneSpec)

/-- 'laws.FnExactMoveStone', WHERE WHAT IT READS IS OF BULK AT MOST 1048576: true; the input reads as it did. -/
def fnExactMoveStoneUptoRow : OpenClaim := { program := "ytdkgaaphbekebaadoor", sum := "8e10178b530ebf0d1438d36c612d63729d83f0e15d6b31fc3cd0296a2c5296f2", func := "loop.example/g01322/laws.FnExactMoveStone", spec := "fnExactMoveStone", inPlace := ["internal/reflectlite.TypeOf"], unfollowed := true, recurses := true, named := ["loop.example/g01322/impl.errPlaces", "loop.example/g01322/impl.errShape", "loop.example/g01322/impl.errCorners"], ifaces := true, apart := false, laid := [("loop.example/g01322/impl.errPlaces", laid_loop_example_g01322_impl_errPlaces), ("loop.example/g01322/impl.errShape", laid_loop_example_g01322_impl_errShape), ("loop.example/g01322/impl.errCorners", laid_loop_example_g01322_impl_errCorners)], narrowed := true }
def FnExactMoveStoneUptoSaid : Prop := fnExactMoveStoneUptoRow.holds Tryd.pinned (OpenSpec.upto fnExactMoveStoneSpec)

/-- 'laws.FnExactTurnStone', WHERE WHAT IT READS IS OF BULK AT MOST 1048576: true; the input reads as it did. -/
def fnExactTurnStoneUptoRow : OpenClaim := { program := "ytdkgaaphbekebaadoor", sum := "8e10178b530ebf0d1438d36c612d63729d83f0e15d6b31fc3cd0296a2c5296f2", func := "loop.example/g01322/laws.FnExactTurnStone", spec := "fnExactTurnStone", unfollowed := true, recurses := true, named := ["loop.example/g01322/impl.errPlaces", "loop.example/g01322/impl.errShape", "loop.example/g01322/impl.errCorners"], ifaces := true, apart := false, laid := [("loop.example/g01322/impl.errPlaces", laid_loop_example_g01322_impl_errPlaces), ("loop.example/g01322/impl.errShape", laid_loop_example_g01322_impl_errShape), ("loop.example/g01322/impl.errCorners", laid_loop_example_g01322_impl_errCorners)], narrowed := true }
def FnExactTurnStoneUptoSaid : Prop := fnExactTurnStoneUptoRow.holds Tryd.pinned (OpenSpec.upto fnExactTurnStoneSpec)

/-- 'laws.FnExactMirrorStone', WHERE WHAT IT READS IS OF BULK AT MOST 1048576: true; the input reads as it did. -/
def fnExactMirrorStoneUptoRow : OpenClaim := { program := "ytdkgaaphbekebaadoor", sum := "8e10178b530ebf0d1438d36c612d63729d83f0e15d6b31fc3cd0296a2c5296f2", func := "loop.example/g01322/laws.FnExactMirrorStone", spec := "fnExactMirrorStone", unfollowed := true, recurses := true, named := ["loop.example/g01322/impl.errPlaces", "loop.example/g01322/impl.errShape", "loop.example/g01322/impl.errCorners"], ifaces := true, apart := false, laid := [("loop.example/g01322/impl.errPlaces", laid_loop_example_g01322_impl_errPlaces), ("loop.example/g01322/impl.errShape", laid_loop_example_g01322_impl_errShape), ("loop.example/g01322/impl.errCorners", laid_loop_example_g01322_impl_errCorners)], narrowed := true }
def FnExactMirrorStoneUptoSaid : Prop := fnExactMirrorStoneUptoRow.holds Tryd.pinned (OpenSpec.upto fnExactMirrorStoneSpec)

/-- 'laws.FnExactInFrame', WHERE WHAT IT READS IS OF BULK AT MOST 1048576: true; the input reads as it did. -/
def fnExactInFrameUptoRow : OpenClaim := { program := "ytdkgaaphbekebaadoor", sum := "8e10178b530ebf0d1438d36c612d63729d83f0e15d6b31fc3cd0296a2c5296f2", func := "loop.example/g01322/laws.FnExactInFrame", spec := "fnExactInFrame", named := ["loop.example/g01322/impl.errPlaces", "loop.example/g01322/impl.errShape", "loop.example/g01322/impl.errCorners"], ifaces := true, apart := false, laid := [("loop.example/g01322/impl.errPlaces", laid_loop_example_g01322_impl_errPlaces), ("loop.example/g01322/impl.errShape", laid_loop_example_g01322_impl_errShape), ("loop.example/g01322/impl.errCorners", laid_loop_example_g01322_impl_errCorners)], narrowed := true }
def FnExactInFrameUptoSaid : Prop := fnExactInFrameUptoRow.holds Tryd.pinned (OpenSpec.upto fnExactInFrameSpec)

/-- 'laws.FnExactStoneText', WHERE WHAT IT READS IS OF BULK AT MOST 1048576: true; the input reads as it did. -/
def fnExactStoneTextUptoRow : OpenClaim := { program := "ytdkgaaphbekebaadoor", sum := "8e10178b530ebf0d1438d36c612d63729d83f0e15d6b31fc3cd0296a2c5296f2", func := "loop.example/g01322/laws.FnExactStoneText", spec := "fnExactStoneText", inPlace := ["internal/abi.NoEscape", "internal/bytealg.MakeNoZero"], recurses := true, named := ["loop.example/g01322/impl.errPlaces", "loop.example/g01322/impl.errShape", "loop.example/g01322/impl.errCorners", "internal/strconv.uint64pow10", "math/bits.deBruijn32tab", "math/bits.deBruijn64tab"], ifaces := true, apart := false, laid := [("math/bits.deBruijn32tab", laid_math_bits_deBruijn32tab), ("math/bits.deBruijn64tab", laid_math_bits_deBruijn64tab), ("internal/strconv.uint64pow10", laid_internal_strconv_uint64pow10), ("loop.example/g01322/impl.errPlaces", laid_loop_example_g01322_impl_errPlaces), ("loop.example/g01322/impl.errShape", laid_loop_example_g01322_impl_errShape), ("loop.example/g01322/impl.errCorners", laid_loop_example_g01322_impl_errCorners)], narrowed := true }
def FnExactStoneTextUptoSaid : Prop := fnExactStoneTextUptoRow.holds Tryd.pinned (OpenSpec.upto fnExactStoneTextSpec)

/-- 'laws.FnExactSplitStone', WHERE WHAT IT READS IS OF BULK AT MOST 1048576: true; the input reads as it did. -/
def fnExactSplitStoneUptoRow : OpenClaim := { program := "ytdkgaaphbekebaadoor", sum := "8e10178b530ebf0d1438d36c612d63729d83f0e15d6b31fc3cd0296a2c5296f2", func := "loop.example/g01322/laws.FnExactSplitStone", spec := "fnExactSplitStone", named := ["loop.example/g01322/impl.errPlaces", "loop.example/g01322/impl.errShape", "loop.example/g01322/impl.errCorners"], ifaces := true, apart := false, laid := [("loop.example/g01322/impl.errPlaces", laid_loop_example_g01322_impl_errPlaces), ("loop.example/g01322/impl.errShape", laid_loop_example_g01322_impl_errShape), ("loop.example/g01322/impl.errCorners", laid_loop_example_g01322_impl_errCorners)], narrowed := true }
def FnExactSplitStoneUptoSaid : Prop := fnExactSplitStoneUptoRow.holds Tryd.pinned (OpenSpec.upto fnExactSplitStoneSpec)

end Rows
end Go.Proofs.YtdkgaaphbekebaaDoor
