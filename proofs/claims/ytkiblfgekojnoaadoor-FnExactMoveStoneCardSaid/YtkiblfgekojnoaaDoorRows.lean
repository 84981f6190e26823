/-
  NARROWER THAN 'FOR EVERY INPUT', by the rows' own cells (each row's printed sentence says how): FnExactAreaTwice: ifaces, laid · FnExactWhereIs: ifaces, laid · FnExactFirstStone: ifaces, laid · FnExactMoveStone: ifaces, laid · FnExactTurnStone: ifaces, laid · FnExactDoOverlap: ifaces, laid · FnExactHullOf: ifaces, laid · FnExactInFrame: ifaces, laid · FnExactValidLay: ifaces, laid · FnExactFirstFault: ifaces, laid · FnExactBareTwice: ifaces, laid · FnExactStoneAt: ifaces, laid.
  DERIVED. THE GIVEN ROWS OF THIS SEAT. 12 by the template 'for every input the law returns true; each argument reads behind the call as it read before'; 0 by the template 'total and deterministic' (their statements: YtkiblfgekojnoaaDoorTotals.lean).
  GIVEN WITH THE SEED: the statements are not yours to turn. If you find one false, say at which input.
  Laid BY PROGRAM, IN A SANDBOX (cutbox-rows.mjs): the forced cells as the released guide's own fill.sh prints them over the translation fe88475ef72c1d80… (all of the seat's roots in one cut). By AI agents, Wed Nov 11 2026. No macro, syntax, notation, axiom, sorry.
-/
import Derived.Test.YtkiblfgekojnoaaDoorChecked
import GoSem.Claim
import GoSem.ClaimJoined
import GoSem.ClaimMapViews
import Derived.JoinedTies
import Derived.KernelRfl
namespace Go.Proofs.YtkiblfgekojnoaaDoor
/- THE CELL 'sum', in the pinned program and in every row, IS THE sha256 OF THE DUMP (.gsa) THAT YtkiblfgekojnoaaDoorProg.lean LOADS. Nothing in Lean hashes anything: it is a label: what it is worth is what the hold of that sum in a sandbox is worth. -/
noncomputable def Tryd.pinned : Pinned := { name := "ytkiblfgekojnoaadoor", sum := "fe88475ef72c1d80d88e35a0eda6e686f6b5965f7f97bd82e94bd418e3d36de1", checked := Tryd.checked }
namespace Rows
def none {H : Type} : Left H := { results := [], args := [] }

/- WHAT THE LISTED PACKAGE-LEVEL VARIABLES READ AS WHEN THE CALL BEGINS. Each datum BY PROGRAM (the guide's laid-datum.mjs) off the statement by which the dump's own 'gosem.cut.vars' lays the variable. In a bare row this is a premise. The card (YtkiblfgekojnoaaDoorCards.lean) ties it to the program's text. -/
def laid_loop_example_g01322_impl_errPlaces {H : Type} : DataW H := .iface "*errors.errorString" (.ptr (.agg [.lit (.string [97, 32, 99, 111, 114, 110, 101, 114, 32, 105, 115, 32, 116, 111, 111, 32, 102, 97, 114, 32, 97, 119, 97, 121])]))
def laid_loop_example_g01322_impl_errShape {H : Type} : DataW H := .iface "*errors.errorString" (.ptr (.agg [.lit (.string [116, 104, 101, 32, 99, 111, 114, 110, 101, 114, 115, 32, 100, 111, 32, 110, 111, 116, 32, 103, 111, 32, 111, 110, 99, 101, 32, 97, 114, 111, 117, 110, 100, 32, 97, 32, 99, 111, 110, 118, 101, 120, 32, 115, 116, 111, 110, 101])]))
def laid_loop_example_g01322_impl_errCorners {H : Type} : DataW H := .iface "*errors.errorString" (.ptr (.agg [.lit (.string [116, 104, 101, 114, 101, 32, 97, 114, 101, 32, 116, 111, 111, 32, 109, 97, 110, 121, 32, 99, 111, 114, 110, 101, 114, 115])]))

/-- 'laws.FnExactAreaTwice': WHATEVER THE INPUT: true; the input reads as it did. -/
def fnExactAreaTwiceSpec : ChangeSpec := { name := "fnExactAreaTwice", vars := ["loop.example/g01322/impl.errPlaces", "loop.example/g01322/impl.errShape", "loop.example/g01322/impl.errCorners"], fn := fun _ => fun
  | [d, g1, g2, g3] => { results := [.lit (.bool true)], args := [d], vars := [g1, g2, g3] }
  | _ => none }
def fnExactAreaTwiceRow : OpenClaim := { program := "ytkiblfgekojnoaadoor", sum := "fe88475ef72c1d80d88e35a0eda6e686f6b5965f7f97bd82e94bd418e3d36de1", func := "loop.example/g01322/laws.FnExactAreaTwice", spec := "fnExactAreaTwice", unfollowed := true, recurses := true, named := ["loop.example/g01322/impl.errPlaces", "loop.example/g01322/impl.errShape", "loop.example/g01322/impl.errCorners"], ifaces := true, apart := false, laid := [("loop.example/g01322/impl.errPlaces", laid_loop_example_g01322_impl_errPlaces), ("loop.example/g01322/impl.errShape", laid_loop_example_g01322_impl_errShape), ("loop.example/g01322/impl.errCorners", laid_loop_example_g01322_impl_errCorners)] }
def FnExactAreaTwiceSaid : Prop := fnExactAreaTwiceRow.holds Tryd.pinned (OpenSpec.ofChange fnExactAreaTwiceSpec)

/-- ITS FALSE NEIGHBOUR: 'it returns false'. Refute it at one input. -/
def fnExactAreaTwiceWrong : ChangeSpec := { name := "fnExactAreaTwice", vars := ["loop.example/g01322/impl.errPlaces", "loop.example/g01322/impl.errShape", "loop.example/g01322/impl.errCorners"], fn := fun _ => fun
  | [d, g1, g2, g3] => { results := [.lit (.bool false)], args := [d], vars := [g1, g2, g3] }
  | _ => none }
def FnExactAreaTwiceWrongFalsely : Prop := fnExactAreaTwiceRow.holds Tryd.pinned (OpenSpec.ofChange fnExactAreaTwiceWrong)

/-- 'laws.FnExactWhereIs': WHATEVER THE INPUT: true; the input reads as it did. -/
def fnExactWhereIsSpec : ChangeSpec := { name := "fnExactWhereIs", vars := ["loop.example/g01322/impl.errPlaces", "loop.example/g01322/impl.errShape", "loop.example/g01322/impl.errCorners"], fn := fun _ => fun
  | [d1, d2, d3, g1, g2, g3] => { results := [.lit (.bool true)], args := [d1, d2, d3], vars := [g1, g2, g3] }
  | _ => none }
def fnExactWhereIsRow : OpenClaim := { program := "ytkiblfgekojnoaadoor", sum := "fe88475ef72c1d80d88e35a0eda6e686f6b5965f7f97bd82e94bd418e3d36de1", func := "loop.example/g01322/laws.FnExactWhereIs", spec := "fnExactWhereIs", unfollowed := true, recurses := true, named := ["loop.example/g01322/impl.errPlaces", "loop.example/g01322/impl.errShape", "loop.example/g01322/impl.errCorners"], ifaces := true, apart := false, laid := [("loop.example/g01322/impl.errPlaces", laid_loop_example_g01322_impl_errPlaces), ("loop.example/g01322/impl.errShape", laid_loop_example_g01322_impl_errShape), ("loop.example/g01322/impl.errCorners", laid_loop_example_g01322_impl_errCorners)] }
def FnExactWhereIsSaid : Prop := fnExactWhereIsRow.holds Tryd.pinned (OpenSpec.ofChange fnExactWhereIsSpec)

/-- ITS FALSE NEIGHBOUR: 'it returns false'. Refute it at one input. -/
def fnExactWhereIsWrong : ChangeSpec := { name := "fnExactWhereIs", vars := ["loop.example/g01322/impl.errPlaces", "loop.example/g01322/impl.errShape", "loop.example/g01322/impl.errCorners"], fn := fun _ => fun
  | [d1, d2, d3, g1, g2, g3] => { results := [.lit (.bool false)], args := [d1, d2, d3], vars := [g1, g2, g3] }
  | _ => none }
def FnExactWhereIsWrongFalsely : Prop := fnExactWhereIsRow.holds Tryd.pinned (OpenSpec.ofChange fnExactWhereIsWrong)

/-- 'laws.FnExactFirstStone': WHATEVER THE INPUT: true; the input reads as it did. -/
def fnExactFirstStoneSpec : ChangeSpec := { name := "fnExactFirstStone", vars := ["loop.example/g01322/impl.errPlaces", "loop.example/g01322/impl.errShape", "loop.example/g01322/impl.errCorners"], fn := fun _ => fun
  | [d, g1, g2, g3] => { results := [.lit (.bool true)], args := [d], vars := [g1, g2, g3] }
  | _ => none }
def fnExactFirstStoneRow : OpenClaim := { program := "ytkiblfgekojnoaadoor", sum := "fe88475ef72c1d80d88e35a0eda6e686f6b5965f7f97bd82e94bd418e3d36de1", func := "loop.example/g01322/laws.FnExactFirstStone", spec := "fnExactFirstStone", unfollowed := true, recurses := true, named := ["loop.example/g01322/impl.errPlaces", "loop.example/g01322/impl.errShape", "loop.example/g01322/impl.errCorners"], ifaces := true, apart := false, laid := [("loop.example/g01322/impl.errPlaces", laid_loop_example_g01322_impl_errPlaces), ("loop.example/g01322/impl.errShape", laid_loop_example_g01322_impl_errShape), ("loop.example/g01322/impl.errCorners", laid_loop_example_g01322_impl_errCorners)] }
def FnExactFirstStoneSaid : Prop := fnExactFirstStoneRow.holds Tryd.pinned (OpenSpec.ofChange fnExactFirstStoneSpec)

/-- ITS FALSE NEIGHBOUR: 'it returns false'. Refute it at one input. -/
def fnExactFirstStoneWrong : ChangeSpec := { name := "fnExactFirstStone", vars := ["loop.example/g01322/impl.errPlaces", "loop.example/g01322/impl.errShape", "loop.example/g01322/impl.errCorners"], fn := fun _ => fun
  | [d, g1, g2, g3] => { results := [.lit (.bool false)], args := [d], vars := [g1, g2, g3] }
  | _ => none }
def FnExactFirstStoneWrongFalsely : Prop := fnExactFirstStoneRow.holds Tryd.pinned (OpenSpec.ofChange fnExactFirstStoneWrong)

/-- 'laws.FnExactMoveStone': WHATEVER THE INPUT: true; the input reads as it did. -/
def fnExactMoveStoneSpec : ChangeSpec := { name := "fnExactMoveStone", vars := ["loop.example/g01322/impl.errPlaces", "loop.example/g01322/impl.errShape", "loop.example/g01322/impl.errCorners"], fn := fun _ => fun
  | [d1, d2, d3, g1, g2, g3] => { results := [.lit (.bool true)], args := [d1, d2, d3], vars := [g1, g2, g3] }
  | _ => none }
def fnExactMoveStoneRow : OpenClaim := { program := "ytkiblfgekojnoaadoor", sum := "fe88475ef72c1d80d88e35a0eda6e686f6b5965f7f97bd82e94bd418e3d36de1", func := "loop.example/g01322/laws.FnExactMoveStone", spec := "fnExactMoveStone", inPlace := ["internal/reflectlite.TypeOf"], unfollowed := true, recurses := true, named := ["loop.example/g01322/impl.errPlaces", "loop.example/g01322/impl.errShape", "loop.example/g01322/impl.errCorners"], ifaces := true, apart := false, laid := [("loop.example/g01322/impl.errPlaces", laid_loop_example_g01322_impl_errPlaces), ("loop.example/g01322/impl.errShape", laid_loop_example_g01322_impl_errShape), ("loop.example/g01322/impl.errCorners", laid_loop_example_g01322_impl_errCorners)] }
def FnExactMoveStoneSaid : Prop := fnExactMoveStoneRow.holds Tryd.pinned (OpenSpec.ofChange fnExactMoveStoneSpec)

/-- ITS FALSE NEIGHBOUR: 'it returns false'. Refute it at one input. -/
def fnExactMoveStoneWrong : ChangeSpec := { name := "fnExactMoveStone", vars := ["loop.example/g01322/impl.errPlaces", "loop.example/g01322/impl.errShape", "loop.example/g01322/impl.errCorners"], fn := fun _ => fun
  | [d1, d2, d3, g1, g2, g3] => { results := [.lit (.bool false)], args := [d1, d2, d3], vars := [g1, g2, g3] }
  | _ => none }
def FnExactMoveStoneWrongFalsely : Prop := fnExactMoveStoneRow.holds Tryd.pinned (OpenSpec.ofChange fnExactMoveStoneWrong)

/-- 'laws.FnExactTurnStone': WHATEVER THE INPUT: true; the input reads as it did. -/
def fnExactTurnStoneSpec : ChangeSpec := { name := "fnExactTurnStone", vars := ["loop.example/g01322/impl.errPlaces", "loop.example/g01322/impl.errShape", "loop.example/g01322/impl.errCorners"], fn := fun _ => fun
  | [d, g1, g2, g3] => { results := [.lit (.bool true)], args := [d], vars := [g1, g2, g3] }
  | _ => none }
def fnExactTurnStoneRow : OpenClaim := { program := "ytkiblfgekojnoaadoor", sum := "fe88475ef72c1d80d88e35a0eda6e686f6b5965f7f97bd82e94bd418e3d36de1", func := "loop.example/g01322/laws.FnExactTurnStone", spec := "fnExactTurnStone", unfollowed := true, recurses := true, named := ["loop.example/g01322/impl.errPlaces", "loop.example/g01322/impl.errShape", "loop.example/g01322/impl.errCorners"], ifaces := true, apart := false, laid := [("loop.example/g01322/impl.errPlaces", laid_loop_example_g01322_impl_errPlaces), ("loop.example/g01322/impl.errShape", laid_loop_example_g01322_impl_errShape), ("loop.example/g01322/impl.errCorners", laid_loop_example_g01322_impl_errCorners)] }
def FnExactTurnStoneSaid : Prop := fnExactTurnStoneRow.holds Tryd.pinned (OpenSpec.ofChange fnExactTurnStoneSpec)

/-- ITS FALSE NEIGHBOUR: 'it returns false'. Refute it at one input. -/
def fnExactTurnStoneWrong : ChangeSpec := { name := "fnExactTurnStone", vars := ["loop.example/g01322/impl.errPlaces", "loop.example/g01322/impl.errShape", "loop.example/g01322/impl.errCorners"], fn := fun _ => fun
  | [d, g1, g2, g3] => { results := [.lit (.bool false)], args := [d], vars := [g1, g2, g3] }
  | _ => none }
def FnExactTurnStoneWrongFalsely : Prop := fnExactTurnStoneRow.holds Tryd.pinned (OpenSpec.ofChange fnExactTurnStoneWrong)

/-- 'laws.FnExactDoOverlap': WHATEVER THE INPUT: true; the input reads as it did. -/
def fnExactDoOverlapSpec : ChangeSpec := { name := "fnExactDoOverlap", vars := ["loop.example/g01322/impl.errPlaces", "loop.example/g01322/impl.errShape", "loop.example/g01322/impl.errCorners"], fn := fun _ => fun
  | [d1, d2, g1, g2, g3] => { results := [.lit (.bool true)], args := [d1, d2], vars := [g1, g2, g3] }
  | _ => none }
def fnExactDoOverlapRow : OpenClaim := { program := "ytkiblfgekojnoaadoor", sum := "fe88475ef72c1d80d88e35a0eda6e686f6b5965f7f97bd82e94bd418e3d36de1", func := "loop.example/g01322/laws.FnExactDoOverlap", spec := "fnExactDoOverlap", unfollowed := true, recurses := true, named := ["loop.example/g01322/impl.errPlaces", "loop.example/g01322/impl.errShape", "loop.example/g01322/impl.errCorners"], ifaces := true, apart := false, laid := [("loop.example/g01322/impl.errPlaces", laid_loop_example_g01322_impl_errPlaces), ("loop.example/g01322/impl.errShape", laid_loop_example_g01322_impl_errShape), ("loop.example/g01322/impl.errCorners", laid_loop_example_g01322_impl_errCorners)] }
def FnExactDoOverlapSaid : Prop := fnExactDoOverlapRow.holds Tryd.pinned (OpenSpec.ofChange fnExactDoOverlapSpec)

/-- ITS FALSE NEIGHBOUR: 'it returns false'. Refute it at one input. -/
def fnExactDoOverlapWrong : ChangeSpec := { name := "fnExactDoOverlap", vars := ["loop.example/g01322/impl.errPlaces", "loop.example/g01322/impl.errShape", "loop.example/g01322/impl.errCorners"], fn := fun _ => fun
  | [d1, d2, g1, g2, g3] => { results := [.lit (.bool false)], args := [d1, d2], vars := [g1, g2, g3] }
  | _ => none }
def FnExactDoOverlapWrongFalsely : Prop := fnExactDoOverlapRow.holds Tryd.pinned (OpenSpec.ofChange fnExactDoOverlapWrong)

/-- 'laws.FnExactHullOf': WHATEVER THE INPUT: true; the input reads as it did. -/
def fnExactHullOfSpec : ChangeSpec := { name := "fnExactHullOf", vars := ["loop.example/g01322/impl.errShape", "loop.example/g01322/impl.errPlaces", "loop.example/g01322/impl.errCorners"], fn := fun _ => fun
  | [d, g1, g2, g3] => { results := [.lit (.bool true)], args := [d], vars := [g1, g2, g3] }
  | _ => none }
def fnExactHullOfRow : OpenClaim := { program := "ytkiblfgekojnoaadoor", sum := "fe88475ef72c1d80d88e35a0eda6e686f6b5965f7f97bd82e94bd418e3d36de1", func := "loop.example/g01322/laws.FnExactHullOf", spec := "fnExactHullOf", inPlace := ["internal/reflectlite.TypeOf"], unfollowed := true, recurses := true, named := ["loop.example/g01322/impl.errShape", "loop.example/g01322/impl.errPlaces", "loop.example/g01322/impl.errCorners"], ifaces := true, apart := false, laid := [("loop.example/g01322/impl.errPlaces", laid_loop_example_g01322_impl_errPlaces), ("loop.example/g01322/impl.errShape", laid_loop_example_g01322_impl_errShape), ("loop.example/g01322/impl.errCorners", laid_loop_example_g01322_impl_errCorners)] }
def FnExactHullOfSaid : Prop := fnExactHullOfRow.holds Tryd.pinned (OpenSpec.ofChange fnExactHullOfSpec)

/-- ITS FALSE NEIGHBOUR: 'it returns false'. Refute it at one input. -/
def fnExactHullOfWrong : ChangeSpec := { name := "fnExactHullOf", vars := ["loop.example/g01322/impl.errShape", "loop.example/g01322/impl.errPlaces", "loop.example/g01322/impl.errCorners"], fn := fun _ => fun
  | [d, g1, g2, g3] => { results := [.lit (.bool false)], args := [d], vars := [g1, g2, g3] }
  | _ => none }
def FnExactHullOfWrongFalsely : Prop := fnExactHullOfRow.holds Tryd.pinned (OpenSpec.ofChange fnExactHullOfWrong)

/-- 'laws.FnExactInFrame': WHATEVER THE INPUT: true; the input reads as it did. -/
def fnExactInFrameSpec : ChangeSpec := { name := "fnExactInFrame", vars := ["loop.example/g01322/impl.errPlaces", "loop.example/g01322/impl.errShape", "loop.example/g01322/impl.errCorners"], fn := fun _ => fun
  | [d1, d2, g1, g2, g3] => { results := [.lit (.bool true)], args := [d1, d2], vars := [g1, g2, g3] }
  | _ => none }
def fnExactInFrameRow : OpenClaim := { program := "ytkiblfgekojnoaadoor", sum := "fe88475ef72c1d80d88e35a0eda6e686f6b5965f7f97bd82e94bd418e3d36de1", func := "loop.example/g01322/laws.FnExactInFrame", spec := "fnExactInFrame", named := ["loop.example/g01322/impl.errPlaces", "loop.example/g01322/impl.errShape", "loop.example/g01322/impl.errCorners"], ifaces := true, apart := false, laid := [("loop.example/g01322/impl.errPlaces", laid_loop_example_g01322_impl_errPlaces), ("loop.example/g01322/impl.errShape", laid_loop_example_g01322_impl_errShape), ("loop.example/g01322/impl.errCorners", laid_loop_example_g01322_impl_errCorners)] }
def FnExactInFrameSaid : Prop := fnExactInFrameRow.holds Tryd.pinned (OpenSpec.ofChange fnExactInFrameSpec)

/-- ITS FALSE NEIGHBOUR: 'it returns false'. Refute it at one input. -/
def fnExactInFrameWrong : ChangeSpec := { name := "fnExactInFrame", vars := ["loop.example/g01322/impl.errPlaces", "loop.example/g01322/impl.errShape", "loop.example/g01322/impl.errCorners"], fn := fun _ => fun
  | [d1, d2, g1, g2, g3] => { results := [.lit (.bool false)], args := [d1, d2], vars := [g1, g2, g3] }
  | _ => none }
def FnExactInFrameWrongFalsely : Prop := fnExactInFrameRow.holds Tryd.pinned (OpenSpec.ofChange fnExactInFrameWrong)

/-- 'laws.FnExactValidLay': WHATEVER THE INPUT: true; the input reads as it did. -/
def fnExactValidLaySpec : ChangeSpec := { name := "fnExactValidLay", vars := ["loop.example/g01322/impl.errPlaces", "loop.example/g01322/impl.errShape", "loop.example/g01322/impl.errCorners"], fn := fun _ => fun
  | [d1, d2, g1, g2, g3] => { results := [.lit (.bool true)], args := [d1, d2], vars := [g1, g2, g3] }
  | _ => none }
def fnExactValidLayRow : OpenClaim := { program := "ytkiblfgekojnoaadoor", sum := "fe88475ef72c1d80d88e35a0eda6e686f6b5965f7f97bd82e94bd418e3d36de1", func := "loop.example/g01322/laws.FnExactValidLay", spec := "fnExactValidLay", unfollowed := true, recurses := true, named := ["loop.example/g01322/impl.errPlaces", "loop.example/g01322/impl.errShape", "loop.example/g01322/impl.errCorners"], ifaces := true, apart := false, laid := [("loop.example/g01322/impl.errPlaces", laid_loop_example_g01322_impl_errPlaces), ("loop.example/g01322/impl.errShape", laid_loop_example_g01322_impl_errShape), ("loop.example/g01322/impl.errCorners", laid_loop_example_g01322_impl_errCorners)] }
def FnExactValidLaySaid : Prop := fnExactValidLayRow.holds Tryd.pinned (OpenSpec.ofChange fnExactValidLaySpec)

/-- ITS FALSE NEIGHBOUR: 'it returns false'. Refute it at one input. -/
def fnExactValidLayWrong : ChangeSpec := { name := "fnExactValidLay", vars := ["loop.example/g01322/impl.errPlaces", "loop.example/g01322/impl.errShape", "loop.example/g01322/impl.errCorners"], fn := fun _ => fun
  | [d1, d2, g1, g2, g3] => { results := [.lit (.bool false)], args := [d1, d2], vars := [g1, g2, g3] }
  | _ => none }
def FnExactValidLayWrongFalsely : Prop := fnExactValidLayRow.holds Tryd.pinned (OpenSpec.ofChange fnExactValidLayWrong)

/-- 'laws.FnExactFirstFault': WHATEVER THE INPUT: true; the input reads as it did. -/
def fnExactFirstFaultSpec : ChangeSpec := { name := "fnExactFirstFault", vars := ["loop.example/g01322/impl.errPlaces", "loop.example/g01322/impl.errShape", "loop.example/g01322/impl.errCorners"], fn := fun _ => fun
  | [d1, d2, g1, g2, g3] => { results := [.lit (.bool true)], args := [d1, d2], vars := [g1, g2, g3] }
  | _ => none }
def fnExactFirstFaultRow : OpenClaim := { program := "ytkiblfgekojnoaadoor", sum := "fe88475ef72c1d80d88e35a0eda6e686f6b5965f7f97bd82e94bd418e3d36de1", func := "loop.example/g01322/laws.FnExactFirstFault", spec := "fnExactFirstFault", unfollowed := true, recurses := true, named := ["loop.example/g01322/impl.errPlaces", "loop.example/g01322/impl.errShape", "loop.example/g01322/impl.errCorners"], ifaces := true, apart := false, laid := [("loop.example/g01322/impl.errPlaces", laid_loop_example_g01322_impl_errPlaces), ("loop.example/g01322/impl.errShape", laid_loop_example_g01322_impl_errShape), ("loop.example/g01322/impl.errCorners", laid_loop_example_g01322_impl_errCorners)] }
def FnExactFirstFaultSaid : Prop := fnExactFirstFaultRow.holds Tryd.pinned (OpenSpec.ofChange fnExactFirstFaultSpec)

/-- ITS FALSE NEIGHBOUR: 'it returns false'. Refute it at one input. -/
def fnExactFirstFaultWrong : ChangeSpec := { name := "fnExactFirstFault", vars := ["loop.example/g01322/impl.errPlaces", "loop.example/g01322/impl.errShape", "loop.example/g01322/impl.errCorners"], fn := fun _ => fun
  | [d1, d2, g1, g2, g3] => { results := [.lit (.bool false)], args := [d1, d2], vars := [g1, g2, g3] }
  | _ => none }
def FnExactFirstFaultWrongFalsely : Prop := fnExactFirstFaultRow.holds Tryd.pinned (OpenSpec.ofChange fnExactFirstFaultWrong)

/-- 'laws.FnExactBareTwice': WHATEVER THE INPUT: true; the input reads as it did. -/
def fnExactBareTwiceSpec : ChangeSpec := { name := "fnExactBareTwice", vars := ["loop.example/g01322/impl.errPlaces", "loop.example/g01322/impl.errShape", "loop.example/g01322/impl.errCorners"], fn := fun _ => fun
  | [d1, d2, g1, g2, g3] => { results := [.lit (.bool true)], args := [d1, d2], vars := [g1, g2, g3] }
  | _ => none }
def fnExactBareTwiceRow : OpenClaim := { program := "ytkiblfgekojnoaadoor", sum := "fe88475ef72c1d80d88e35a0eda6e686f6b5965f7f97bd82e94bd418e3d36de1", func := "loop.example/g01322/laws.FnExactBareTwice", spec := "fnExactBareTwice", unfollowed := true, recurses := true, named := ["loop.example/g01322/impl.errPlaces", "loop.example/g01322/impl.errShape", "loop.example/g01322/impl.errCorners"], ifaces := true, apart := false, laid := [("loop.example/g01322/impl.errPlaces", laid_loop_example_g01322_impl_errPlaces), ("loop.example/g01322/impl.errShape", laid_loop_example_g01322_impl_errShape), ("loop.example/g01322/impl.errCorners", laid_loop_example_g01322_impl_errCorners)] }
def FnExactBareTwiceSaid : Prop := fnExactBareTwiceRow.holds Tryd.pinned (OpenSpec.ofChange fnExactBareTwiceSpec)

/-- ITS FALSE NEIGHBOUR: 'it returns false'. Refute it at one input. -/
def fnExactBareTwiceWrong : ChangeSpec := { name := "fnExactBareTwice", vars := ["loop.example/g01322/impl.errPlaces", "loop.example/g01322/impl.errShape", "loop.example/g01322/impl.errCorners"], fn := fun _ => fun
  | [d1, d2, g1, g2, g3] => { results := [.lit (.bool false)], args := [d1, d2], vars := [g1, g2, g3] }
  | _ => none }
def FnExactBareTwiceWrongFalsely : Prop := fnExactBareTwiceRow.holds Tryd.pinned (OpenSpec.ofChange fnExactBareTwiceWrong)

/-- 'laws.FnExactStoneAt': WHATEVER THE INPUT: true; the input reads as it did. -/
def fnExactStoneAtSpec : ChangeSpec := { name := "fnExactStoneAt", vars := ["loop.example/g01322/impl.errPlaces", "loop.example/g01322/impl.errShape", "loop.example/g01322/impl.errCorners"], fn := fun _ => fun
  | [d1, d2, d3, d4, g1, g2, g3] => { results := [.lit (.bool true)], args := [d1, d2, d3, d4], vars := [g1, g2, g3] }
  | _ => none }
def fnExactStoneAtRow : OpenClaim := { program := "ytkiblfgekojnoaadoor", sum := "fe88475ef72c1d80d88e35a0eda6e686f6b5965f7f97bd82e94bd418e3d36de1", func := "loop.example/g01322/laws.FnExactStoneAt", spec := "fnExactStoneAt", unfollowed := true, recurses := true, named := ["loop.example/g01322/impl.errPlaces", "loop.example/g01322/impl.errShape", "loop.example/g01322/impl.errCorners"], ifaces := true, apart := false, laid := [("loop.example/g01322/impl.errPlaces", laid_loop_example_g01322_impl_errPlaces), ("loop.example/g01322/impl.errShape", laid_loop_example_g01322_impl_errShape), ("loop.example/g01322/impl.errCorners", laid_loop_example_g01322_impl_errCorners)] }
def FnExactStoneAtSaid : Prop := fnExactStoneAtRow.holds Tryd.pinned (OpenSpec.ofChange fnExactStoneAtSpec)

/-- ITS FALSE NEIGHBOUR: 'it returns false'. Refute it at one input. -/
def fnExactStoneAtWrong : ChangeSpec := { name := "fnExactStoneAt", vars := ["loop.example/g01322/impl.errPlaces", "loop.example/g01322/impl.errShape", "loop.example/g01322/impl.errCorners"], fn := fun _ => fun
  | [d1, d2, d3, d4, g1, g2, g3] => { results := [.lit (.bool false)], args := [d1, d2, d3, d4], vars := [g1, g2, g3] }
  | _ => none }
def FnExactStoneAtWrongFalsely : Prop := fnExactStoneAtRow.holds Tryd.pinned (OpenSpec.ofChange fnExactStoneAtWrong)

/- THE SECOND FORM. 'bulk': how many values and letters a reading holds, each counted each time it is reached (what is shared counts as often as it is met; a slice's spare places count too). A statement '..UptoSaid' is the law's where the arguments, and the package variables that the reading takes, are together of bulk at most 1048576: NARROWER than '..Said'. Prove '..Said' where nothing that the law and all that it calls make is longer than what came in: it says more and counts as full. Else prove '..UptoSaid'. A law counts once. -/
mutual
def uptoBulk {H : Type} : DataW H → Nat
  | .lit (.string bytes) => bytes.length + 1
  | .lit _ => 1
  | .nil => 1
  | .ptr d => uptoBulk d + 1
  | .slice elems spare => uptoBulkAll elems + uptoBulkAll spare + 1
  | .agg parts => uptoBulkAll parts + 1
  | .iface _ d => uptoBulk d + 1
  | .map entries => uptoBulkEntries entries + 1
  | .held _ => 1
def uptoBulkAll {H : Type} : List (DataW H) → Nat
  | [] => 0
  | d :: r => uptoBulk d + uptoBulkAll r
def uptoBulkEntries {H : Type} : List (Lit × DataW H) → Nat
  | [] => 0
  | x :: r => uptoBulkEntry x + uptoBulkEntries r
def uptoBulkEntry {H : Type} : Lit × DataW H → Nat
  | (.string bytes, d) => bytes.length + uptoBulk d + 1
  | (_, d) => uptoBulk d + 1
 end
def uptoSmall : (H : Type) → List (DataW H) → Bool := fun _ ds => decide (uptoBulkAll ds ≤ 1048576)
def OpenSpec.upto (s : _root_.Go.ChangeSpec) : _root_.Go.OpenSpec := { _root_.Go.OpenSpec.ofChange s with cond := some uptoSmall }

/-- 'laws.FnExactAreaTwice', WHERE WHAT IT READS IS OF BULK AT MOST 1048576: true; the input reads as it did. -/
def fnExactAreaTwiceUptoRow : OpenClaim := { program := "ytkiblfgekojnoaadoor", sum := "fe88475ef72c1d80d88e35a0eda6e686f6b5965f7f97bd82e94bd418e3d36de1", func := "loop.example/g01322/laws.FnExactAreaTwice", spec := "fnExactAreaTwice", unfollowed := true, recurses := true, named := ["loop.example/g01322/impl.errPlaces", "loop.example/g01322/impl.errShape", "loop.example/g01322/impl.errCorners"], ifaces := true, apart := false, laid := [("loop.example/g01322/impl.errPlaces", laid_loop_example_g01322_impl_errPlaces), ("loop.example/g01322/impl.errShape", laid_loop_example_g01322_impl_errShape), ("loop.example/g01322/impl.errCorners", laid_loop_example_g01322_impl_errCorners)], narrowed := true }
def FnExactAreaTwiceUptoSaid : Prop := fnExactAreaTwiceUptoRow.holds Tryd.pinned (OpenSpec.upto fnExactAreaTwiceSpec)

/-- 'laws.FnExactWhereIs', WHERE WHAT IT READS IS OF BULK AT MOST 1048576: true; the input reads as it did. -/
def fnExactWhereIsUptoRow : OpenClaim := { program := "ytkiblfgekojnoaadoor", sum := "fe88475ef72c1d80d88e35a0eda6e686f6b5965f7f97bd82e94bd418e3d36de1", func := "loop.example/g01322/laws.FnExactWhereIs", spec := "fnExactWhereIs", unfollowed := true, recurses := true, named := ["loop.example/g01322/impl.errPlaces", "loop.example/g01322/impl.errShape", "loop.example/g01322/impl.errCorners"], ifaces := true, apart := false, laid := [("loop.example/g01322/impl.errPlaces", laid_loop_example_g01322_impl_errPlaces), ("loop.example/g01322/impl.errShape", laid_loop_example_g01322_impl_errShape), ("loop.example/g01322/impl.errCorners", laid_loop_example_g01322_impl_errCorners)], narrowed := true }
def FnExactWhereIsUptoSaid : Prop := fnExactWhereIsUptoRow.holds Tryd.pinned (OpenSpec.upto fnExactWhereIsSpec)

/-- 'laws.FnExactFirstStone', WHERE WHAT IT READS IS OF BULK AT MOST 1048576: true; the input reads as it did. -/
def fnExactFirstStoneUptoRow : OpenClaim := { program := "ytkiblfgekojnoaadoor", sum := "fe88475ef72c1d80d88e35a0eda6e686f6b5965f7f97bd82e94bd418e3d36de1", func := "loop.example/g01322/laws.FnExactFirstStone", spec := "fnExactFirstStone", unfollowed := true, recurses := true, named := ["loop.example/g01322/impl.errPlaces", "loop.example/g01322/impl.errShape", "loop.example/g01322/impl.errCorners"], ifaces := true, apart := false, laid := [("loop.example/g01322/impl.errPlaces", laid_loop_example_g01322_impl_errPlaces), ("loop.example/g01322/impl.errShape", laid_loop_example_g01322_impl_errShape), ("loop.example/g01322/impl.errCorners", laid_loop_example_g01322_impl_errCorners)], narrowed := true }
def FnExactFirstStoneUptoSaid : Prop := fnExactFirstStoneUptoRow.holds Tryd.pinned (OpenSpec.upto fnExactFirstStoneSpec)

/-- 'laws.FnExactMoveStone', WHERE WHAT IT READS IS OF BULK AT MOST 1048576: true; the input reads as it did. -/
def fnExactMoveStoneUptoRow : OpenClaim := { program := "ytkiblfgekojnoaadoor", sum := "fe88475ef72c1d80d88e35a0eda6e686f6b5965f7f97bd82e94bd418e3d36de1", func := "loop.example/g01322/laws.FnExactMoveStone", spec := "fnExactMoveStone", inPlace := ["internal/reflectlite.TypeOf"], unfollowed := true, recurses := true, named := ["loop.example/g01322/impl.errPlaces", "loop.example/g01322/impl.errShape", "loop.example/g01322/impl.errCorners"], ifaces := true, apart := false, laid := [("loop.example/g01322/impl.errPlaces", laid_loop_example_g01322_impl_errPlaces), ("loop.example/g01322/impl.errShape", laid_loop_example_g01322_impl_errShape), ("loop.example/g01322/impl.errCorners", laid_loop_example_g01322_impl_errCorners)], narrowed := true }
def FnExactMoveStoneUptoSaid : Prop := fnExactMoveStoneUptoRow.holds Tryd.pinned (OpenSpec.upto fnExactMoveStoneSpec)

/-- 'laws.FnExactTurnStone', WHERE WHAT IT READS IS OF BULK AT MOST 1048576: true; the input reads as it did. -/
def fnExactTurnStoneUptoRow : OpenClaim := { program := "ytkiblfgekojnoaadoor", sum := "fe88475ef72c1d80d88e35a0eda6e686f6b5965f7f97bd82e94bd418e3d36de1", func := "loop.example/g01322/laws.FnExactTurnStone", spec := "fnExactTurnStone", unfollowed := true, recurses := true, named := ["loop.example/g01322/impl.errPlaces", "loop.example/g01322/impl.errShape", "loop.example/g01322/impl.errCorners"], ifaces := true, apart := false, laid := [("loop.example/g01322/impl.errPlaces", laid_loop_example_g01322_impl_errPlaces), ("loop.example/g01322/impl.errShape", laid_loop_example_g01322_impl_errShape), ("loop.example/g01322/impl.errCorners", laid_loop_example_g01322_impl_errCorners)], narrowed := true }
def FnExactTurnStoneUptoSaid : Prop := fnExactTurnStoneUptoRow.holds Tryd.pinned (OpenSpec.upto fnExactTurnStoneSpec)

/-- 'laws.FnExactDoOverlap', WHERE WHAT IT READS IS OF BULK AT MOST 1048576: true; the input reads as it did. -/
def fnExactDoOverlapUptoRow : OpenClaim := { program := "ytkiblfgekojnoaadoor", sum := "fe88475ef72c1d80d88e35a0eda6e686f6b5965f7f97bd82e94bd418e3d36de1", func := "loop.example/g01322/laws.FnExactDoOverlap", spec := "fnExactDoOverlap", unfollowed := true, recurses := true, named := ["loop.example/g01322/impl.errPlaces", "loop.example/g01322/impl.errShape", "loop.example/g01322/impl.errCorners"], ifaces := true, apart := false, laid := [("loop.example/g01322/impl.errPlaces", laid_loop_example_g01322_impl_errPlaces), ("loop.example/g01322/impl.errShape", laid_loop_example_g01322_impl_errShape), ("loop.example/g01322/impl.errCorners", laid_loop_example_g01322_impl_errCorners)], narrowed := true }
def FnExactDoOverlapUptoSaid : Prop := fnExactDoOverlapUptoRow.holds Tryd.pinned (OpenSpec.upto fnExactDoOverlapSpec)

/-- 'laws.FnExactHullOf', WHERE WHAT IT READS IS OF BULK AT MOST 1048576: true; the input reads as it did. -/
def fnExactHullOfUptoRow : OpenClaim := { program := "ytkiblfgekojnoaadoor", sum := "fe88475ef72c1d80d88e35a0eda6e686f6b5965f7f97bd82e94bd418e3d36de1", func := "loop.example/g01322/laws.FnExactHullOf", spec := "fnExactHullOf", inPlace := ["internal/reflectlite.TypeOf"], unfollowed := true, recurses := true, named := ["loop.example/g01322/impl.errShape", "loop.example/g01322/impl.errPlaces", "loop.example/g01322/impl.errCorners"], ifaces := true, apart := false, laid := [("loop.example/g01322/impl.errPlaces", laid_loop_example_g01322_impl_errPlaces), ("loop.example/g01322/impl.errShape", laid_loop_example_g01322_impl_errShape), ("loop.example/g01322/impl.errCorners", laid_loop_example_g01322_impl_errCorners)], narrowed := true }
def FnExactHullOfUptoSaid : Prop := fnExactHullOfUptoRow.holds Tryd.pinned (OpenSpec.upto fnExactHullOfSpec)

/-- 'laws.FnExactInFrame', WHERE WHAT IT READS IS OF BULK AT MOST 1048576: true; the input reads as it did. -/
def fnExactInFrameUptoRow : OpenClaim := { program := "ytkiblfgekojnoaadoor", sum := "fe88475ef72c1d80d88e35a0eda6e686f6b5965f7f97bd82e94bd418e3d36de1", func := "loop.example/g01322/laws.FnExactInFrame", spec := "fnExactInFrame", named := ["loop.example/g01322/impl.errPlaces", "loop.example/g01322/impl.errShape", "loop.example/g01322/impl.errCorners"], ifaces := true, apart := false, laid := [("loop.example/g01322/impl.errPlaces", laid_loop_example_g01322_impl_errPlaces), ("loop.example/g01322/impl.errShape", laid_loop_example_g01322_impl_errShape), ("loop.example/g01322/impl.errCorners", laid_loop_example_g01322_impl_errCorners)], narrowed := true }
def FnExactInFrameUptoSaid : Prop := fnExactInFrameUptoRow.holds Tryd.pinned (OpenSpec.upto fnExactInFrameSpec)

/-- 'laws.FnExactValidLay', WHERE WHAT IT READS IS OF BULK AT MOST 1048576: true; the input reads as it did. -/
def fnExactValidLayUptoRow : OpenClaim := { program := "ytkiblfgekojnoaadoor", sum := "fe88475ef72c1d80d88e35a0eda6e686f6b5965f7f97bd82e94bd418e3d36de1", func := "loop.example/g01322/laws.FnExactValidLay", spec := "fnExactValidLay", unfollowed := true, recurses := true, named := ["loop.example/g01322/impl.errPlaces", "loop.example/g01322/impl.errShape", "loop.example/g01322/impl.errCorners"], ifaces := true, apart := false, laid := [("loop.example/g01322/impl.errPlaces", laid_loop_example_g01322_impl_errPlaces), ("loop.example/g01322/impl.errShape", laid_loop_example_g01322_impl_errShape), ("loop.example/g01322/impl.errCorners", laid_loop_example_g01322_impl_errCorners)], narrowed := true }
def FnExactValidLayUptoSaid : Prop := fnExactValidLayUptoRow.holds Tryd.pinned (OpenSpec.upto fnExactValidLaySpec)

/-- 'laws.FnExactFirstFault', WHERE WHAT IT READS IS OF BULK AT MOST 1048576: true; the input reads as it did. -/
def fnExactFirstFaultUptoRow : OpenClaim := { program := "ytkiblfgekojnoaadoor", sum := "fe88475ef72c1d80d88e35a0eda6e686f6b5965f7f97bd82e94bd418e3d36de1", func := "loop.example/g01322/laws.FnExactFirstFault", spec := "fnExactFirstFault", unfollowed := true, recurses := true, named := ["loop.example/g01322/impl.errPlaces", "loop.example/g01322/impl.errShape", "loop.example/g01322/impl.errCorners"], ifaces := true, apart := false, laid := [("loop.example/g01322/impl.errPlaces", laid_loop_example_g01322_impl_errPlaces), ("loop.example/g01322/impl.errShape", laid_loop_example_g01322_impl_errShape), ("loop.example/g01322/impl.errCorners", laid_loop_example_g01322_impl_errCorners)], narrowed := true }
def FnExactFirstFaultUptoSaid : Prop := fnExactFirstFaultUptoRow.holds Tryd.pinned (OpenSpec.upto fnExactFirstFaultSpec)

/-- 'laws.FnExactBareTwice', WHERE WHAT IT READS IS OF BULK AT MOST 1048576: true; the input reads as it did. -/
def fnExactBareTwiceUptoRow : OpenClaim := { program := "ytkiblfgekojnoaadoor", sum := "fe88475ef72c1d80d88e35a0eda6e686f6b5965f7f97bd82e94bd418e3d36de1", func := "loop.example/g01322/laws.FnExactBareTwice", spec := "fnExactBareTwice", unfollowed := true, recurses := true, named := ["loop.example/g01322/impl.errPlaces", "loop.example/g01322/impl.errShape", "loop.example/g01322/impl.errCorners"], ifaces := true, apart := false, laid := [("loop.example/g01322/impl.errPlaces", laid_loop_example_g01322_impl_errPlaces), ("loop.example/g01322/impl.errShape", laid_loop_example_g01322_impl_errShape), ("loop.example/g01322/impl.errCorners", laid_loop_example_g01322_impl_errCorners)], narrowed := true }
def FnExactBareTwiceUptoSaid : Prop := fnExactBareTwiceUptoRow.holds Tryd.pinned (OpenSpec.upto fnExactBareTwiceSpec)

/-- 'laws.FnExactStoneAt', WHERE WHAT IT READS IS OF BULK AT MOST 1048576: true; the input reads as it did. -/
def fnExactStoneAtUptoRow : OpenClaim := { program := "ytkiblfgekojnoaadoor", sum := "fe88475ef72c1d80d88e35a0eda6e686f6b5965f7f97bd82e94bd418e3d36de1", func := "loop.example/g01322/laws.FnExactStoneAt", spec := "fnExactStoneAt", unfollowed := true, recurses := true, named := ["loop.example/g01322/impl.errPlaces", "loop.example/g01322/impl.errShape", "loop.example/g01322/impl.errCorners"], ifaces := true, apart := false, laid := [("loop.example/g01322/impl.errPlaces", laid_loop_example_g01322_impl_errPlaces), ("loop.example/g01322/impl.errShape", laid_loop_example_g01322_impl_errShape), ("loop.example/g01322/impl.errCorners", laid_loop_example_g01322_impl_errCorners)], narrowed := true }
def FnExactStoneAtUptoSaid : Prop := fnExactStoneAtUptoRow.holds Tryd.pinned (OpenSpec.upto fnExactStoneAtSpec)

end Rows
end Go.Proofs.YtkiblfgekojnoaaDoor
