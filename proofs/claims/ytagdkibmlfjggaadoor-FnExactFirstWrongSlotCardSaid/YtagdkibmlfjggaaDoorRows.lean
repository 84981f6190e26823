/-
  NARROWER THAN 'FOR EVERY INPUT', by the rows' own cells (each row's printed sentence says how): FnExactOrderOf: laid · FnExactBeforeAll: laid · FnExactEarliestOf: laid · FnExactLongestChain: laid · FnExactLatestOf: laid · FnExactBoundFor: laid · FnExactPlanInOrder: laid · FnExactLengthOfPlan: laid · FnExactFirstWrongSlot: laid · FnExactIdleDays: laid.
  DERIVED. THE GIVEN ROWS OF THIS SEAT. 10 by the template 'for every input the law returns true; each argument reads behind the call as it read before'; 0 by the template 'total and deterministic' (their statements: YtagdkibmlfjggaaDoorTotals.lean).
  GIVEN WITH THE SEED: the statements are not yours to turn. If you find one false, say at which input.
  Laid BY PROGRAM, IN A SANDBOX (cutbox-rows.mjs): the forced cells as the released guide's own fill.sh prints them over the translation 012a0c98060ad887… (all of the seat's roots in one cut). By AI agents, Wed Nov 11 2026. No macro, syntax, notation, axiom, sorry.
-/
import Derived.Test.YtagdkibmlfjggaaDoorChecked
import GoSem.Claim
import GoSem.ClaimJoined
import GoSem.ClaimMapViews
import Derived.JoinedTies
import Derived.KernelRfl
namespace Go.Proofs.YtagdkibmlfjggaaDoor
/- THE CELL 'sum', in the pinned program and in every row, IS THE sha256 OF THE DUMP (.gsa) THAT YtagdkibmlfjggaaDoorProg.lean LOADS. Nothing in Lean hashes anything: it is a label: what it is worth is what the hold of that sum in a sandbox is worth. -/
noncomputable def Tryd.pinned : Pinned := { name := "ytagdkibmlfjggaadoor", sum := "012a0c98060ad88769c67df0b76b4d652c4601a0905ec9dd5e10cbf0ffb7cbfd", checked := Tryd.checked }
namespace Rows
def none {H : Type} : Left H := { results := [], args := [] }

/- WHAT THE LISTED PACKAGE-LEVEL VARIABLES READ AS WHEN THE CALL BEGINS. Each datum BY PROGRAM (the guide's laid-datum.mjs) off the statement by which the dump's own 'gosem.cut.vars' lays the variable. In a bare row this is a premise. The card (YtagdkibmlfjggaaDoorCards.lean) ties it to the program's text. -/
def laid_errors_errorType {H : Type} : DataW H := .iface "internal/reflectlite.rtype" (.agg [.ptr (.lit (.string [101, 114, 114, 111, 114]))])

/-- 'laws.FnExactOrderOf': WHATEVER THE INPUT: true; the input reads as it did. -/
def fnExactOrderOfSpec : ChangeSpec := { name := "fnExactOrderOf", fn := fun _ => fun
  | [d] => { results := [.lit (.bool true)], args := [d] }
  | _ => none }
def fnExactOrderOfRow : OpenClaim := { program := "ytagdkibmlfjggaadoor", sum := "012a0c98060ad88769c67df0b76b4d652c4601a0905ec9dd5e10cbf0ffb7cbfd", func := "loop.example/g01322/laws.FnExactOrderOf", spec := "fnExactOrderOf", inPlace := ["internal/reflectlite.ValueOf", "(internal/reflectlite.Value).Type", "(internal/reflectlite.Value).IsNil", "internal/reflectlite.TypeOf", "(internal/reflectlite.Value).Elem", "(internal/reflectlite.Value).Set"], unfollowed := true, recurses := true, named := ["errors.errorType"], apart := false, laid := [("errors.errorType", laid_errors_errorType)] }
def FnExactOrderOfSaid : Prop := fnExactOrderOfRow.holds Tryd.pinned (OpenSpec.ofChange fnExactOrderOfSpec)

/-- ITS FALSE NEIGHBOUR: 'it returns false'. Refute it at one input. -/
def fnExactOrderOfWrong : ChangeSpec := { name := "fnExactOrderOf", fn := fun _ => fun
  | [d] => { results := [.lit (.bool false)], args := [d] }
  | _ => none }
def FnExactOrderOfWrongFalsely : Prop := fnExactOrderOfRow.holds Tryd.pinned (OpenSpec.ofChange fnExactOrderOfWrong)

/-- 'laws.FnExactBeforeAll': WHATEVER THE INPUT: true; the input reads as it did. -/
def fnExactBeforeAllSpec : ChangeSpec := { name := "fnExactBeforeAll", fn := fun _ => fun
  | [d] => { results := [.lit (.bool true)], args := [d] }
  | _ => none }
def fnExactBeforeAllRow : OpenClaim := { program := "ytagdkibmlfjggaadoor", sum := "012a0c98060ad88769c67df0b76b4d652c4601a0905ec9dd5e10cbf0ffb7cbfd", func := "loop.example/g01322/laws.FnExactBeforeAll", spec := "fnExactBeforeAll", inPlace := ["internal/reflectlite.ValueOf", "(internal/reflectlite.Value).Type", "(internal/reflectlite.Value).IsNil", "internal/reflectlite.TypeOf", "(internal/reflectlite.Value).Elem", "(internal/reflectlite.Value).Set"], unfollowed := true, recurses := true, named := ["errors.errorType"], apart := false, laid := [("errors.errorType", laid_errors_errorType)] }
def FnExactBeforeAllSaid : Prop := fnExactBeforeAllRow.holds Tryd.pinned (OpenSpec.ofChange fnExactBeforeAllSpec)

/-- ITS FALSE NEIGHBOUR: 'it returns false'. Refute it at one input. -/
def fnExactBeforeAllWrong : ChangeSpec := { name := "fnExactBeforeAll", fn := fun _ => fun
  | [d] => { results := [.lit (.bool false)], args := [d] }
  | _ => none }
def FnExactBeforeAllWrongFalsely : Prop := fnExactBeforeAllRow.holds Tryd.pinned (OpenSpec.ofChange fnExactBeforeAllWrong)

/-- 'laws.FnExactEarliestOf': WHATEVER THE INPUT: true; the input reads as it did. -/
def fnExactEarliestOfSpec : ChangeSpec := { name := "fnExactEarliestOf", fn := fun _ => fun
  | [d] => { results := [.lit (.bool true)], args := [d] }
  | _ => none }
def fnExactEarliestOfRow : OpenClaim := { program := "ytagdkibmlfjggaadoor", sum := "012a0c98060ad88769c67df0b76b4d652c4601a0905ec9dd5e10cbf0ffb7cbfd", func := "loop.example/g01322/laws.FnExactEarliestOf", spec := "fnExactEarliestOf", inPlace := ["internal/reflectlite.ValueOf", "(internal/reflectlite.Value).Type", "(internal/reflectlite.Value).IsNil", "internal/reflectlite.TypeOf", "(internal/reflectlite.Value).Elem", "(internal/reflectlite.Value).Set"], unfollowed := true, recurses := true, named := ["errors.errorType"], apart := false, laid := [("errors.errorType", laid_errors_errorType)] }
def FnExactEarliestOfSaid : Prop := fnExactEarliestOfRow.holds Tryd.pinned (OpenSpec.ofChange fnExactEarliestOfSpec)

/-- ITS FALSE NEIGHBOUR: 'it returns false'. Refute it at one input. -/
def fnExactEarliestOfWrong : ChangeSpec := { name := "fnExactEarliestOf", fn := fun _ => fun
  | [d] => { results := [.lit (.bool false)], args := [d] }
  | _ => none }
def FnExactEarliestOfWrongFalsely : Prop := fnExactEarliestOfRow.holds Tryd.pinned (OpenSpec.ofChange fnExactEarliestOfWrong)

/-- 'laws.FnExactLongestChain': WHATEVER THE INPUT: true; the input reads as it did. -/
def fnExactLongestChainSpec : ChangeSpec := { name := "fnExactLongestChain", fn := fun _ => fun
  | [d] => { results := [.lit (.bool true)], args := [d] }
  | _ => none }
def fnExactLongestChainRow : OpenClaim := { program := "ytagdkibmlfjggaadoor", sum := "012a0c98060ad88769c67df0b76b4d652c4601a0905ec9dd5e10cbf0ffb7cbfd", func := "loop.example/g01322/laws.FnExactLongestChain", spec := "fnExactLongestChain", inPlace := ["internal/reflectlite.ValueOf", "(internal/reflectlite.Value).Type", "(internal/reflectlite.Value).IsNil", "internal/reflectlite.TypeOf", "(internal/reflectlite.Value).Elem", "(internal/reflectlite.Value).Set"], unfollowed := true, recurses := true, named := ["errors.errorType"], apart := false, laid := [("errors.errorType", laid_errors_errorType)] }
def FnExactLongestChainSaid : Prop := fnExactLongestChainRow.holds Tryd.pinned (OpenSpec.ofChange fnExactLongestChainSpec)

/-- ITS FALSE NEIGHBOUR: 'it returns false'. Refute it at one input. -/
def fnExactLongestChainWrong : ChangeSpec := { name := "fnExactLongestChain", fn := fun _ => fun
  | [d] => { results := [.lit (.bool false)], args := [d] }
  | _ => none }
def FnExactLongestChainWrongFalsely : Prop := fnExactLongestChainRow.holds Tryd.pinned (OpenSpec.ofChange fnExactLongestChainWrong)

/-- 'laws.FnExactLatestOf': WHATEVER THE INPUT: true; the input reads as it did. -/
def fnExactLatestOfSpec : ChangeSpec := { name := "fnExactLatestOf", fn := fun _ => fun
  | [d1, d2] => { results := [.lit (.bool true)], args := [d1, d2] }
  | _ => none }
def fnExactLatestOfRow : OpenClaim := { program := "ytagdkibmlfjggaadoor", sum := "012a0c98060ad88769c67df0b76b4d652c4601a0905ec9dd5e10cbf0ffb7cbfd", func := "loop.example/g01322/laws.FnExactLatestOf", spec := "fnExactLatestOf", inPlace := ["internal/reflectlite.ValueOf", "(internal/reflectlite.Value).Type", "(internal/reflectlite.Value).IsNil", "internal/reflectlite.TypeOf", "(internal/reflectlite.Value).Elem", "(internal/reflectlite.Value).Set"], unfollowed := true, recurses := true, named := ["errors.errorType"], apart := false, laid := [("errors.errorType", laid_errors_errorType)] }
def FnExactLatestOfSaid : Prop := fnExactLatestOfRow.holds Tryd.pinned (OpenSpec.ofChange fnExactLatestOfSpec)

/-- ITS FALSE NEIGHBOUR: 'it returns false'. Refute it at one input. -/
def fnExactLatestOfWrong : ChangeSpec := { name := "fnExactLatestOf", fn := fun _ => fun
  | [d1, d2] => { results := [.lit (.bool false)], args := [d1, d2] }
  | _ => none }
def FnExactLatestOfWrongFalsely : Prop := fnExactLatestOfRow.holds Tryd.pinned (OpenSpec.ofChange fnExactLatestOfWrong)

/-- 'laws.FnExactBoundFor': WHATEVER THE INPUT: true; the input reads as it did. -/
def fnExactBoundForSpec : ChangeSpec := { name := "fnExactBoundFor", fn := fun _ => fun
  | [d1, d2] => { results := [.lit (.bool true)], args := [d1, d2] }
  | _ => none }
def fnExactBoundForRow : OpenClaim := { program := "ytagdkibmlfjggaadoor", sum := "012a0c98060ad88769c67df0b76b4d652c4601a0905ec9dd5e10cbf0ffb7cbfd", func := "loop.example/g01322/laws.FnExactBoundFor", spec := "fnExactBoundFor", inPlace := ["internal/reflectlite.ValueOf", "(internal/reflectlite.Value).Type", "(internal/reflectlite.Value).IsNil", "internal/reflectlite.TypeOf", "(internal/reflectlite.Value).Elem", "(internal/reflectlite.Value).Set"], unfollowed := true, recurses := true, named := ["errors.errorType"], apart := false, laid := [("errors.errorType", laid_errors_errorType)] }
def FnExactBoundForSaid : Prop := fnExactBoundForRow.holds Tryd.pinned (OpenSpec.ofChange fnExactBoundForSpec)

/-- ITS FALSE NEIGHBOUR: 'it returns false'. Refute it at one input. -/
def fnExactBoundForWrong : ChangeSpec := { name := "fnExactBoundFor", fn := fun _ => fun
  | [d1, d2] => { results := [.lit (.bool false)], args := [d1, d2] }
  | _ => none }
def FnExactBoundForWrongFalsely : Prop := fnExactBoundForRow.holds Tryd.pinned (OpenSpec.ofChange fnExactBoundForWrong)

/-- 'laws.FnExactPlanInOrder': WHATEVER THE INPUT: true; the input reads as it did. -/
def fnExactPlanInOrderSpec : ChangeSpec := { name := "fnExactPlanInOrder", fn := fun _ => fun
  | [d1, d2, d3] => { results := [.lit (.bool true)], args := [d1, d2, d3] }
  | _ => none }
def fnExactPlanInOrderRow : OpenClaim := { program := "ytagdkibmlfjggaadoor", sum := "012a0c98060ad88769c67df0b76b4d652c4601a0905ec9dd5e10cbf0ffb7cbfd", func := "loop.example/g01322/laws.FnExactPlanInOrder", spec := "fnExactPlanInOrder", inPlace := ["internal/reflectlite.ValueOf", "(internal/reflectlite.Value).Type", "(internal/reflectlite.Value).IsNil", "internal/reflectlite.TypeOf", "(internal/reflectlite.Value).Elem", "(internal/reflectlite.Value).Set"], unfollowed := true, recurses := true, named := ["errors.errorType"], apart := false, laid := [("errors.errorType", laid_errors_errorType)] }
def FnExactPlanInOrderSaid : Prop := fnExactPlanInOrderRow.holds Tryd.pinned (OpenSpec.ofChange fnExactPlanInOrderSpec)

/-- ITS FALSE NEIGHBOUR: 'it returns false'. Refute it at one input. -/
def fnExactPlanInOrderWrong : ChangeSpec := { name := "fnExactPlanInOrder", fn := fun _ => fun
  | [d1, d2, d3] => { results := [.lit (.bool false)], args := [d1, d2, d3] }
  | _ => none }
def FnExactPlanInOrderWrongFalsely : Prop := fnExactPlanInOrderRow.holds Tryd.pinned (OpenSpec.ofChange fnExactPlanInOrderWrong)

/-- 'laws.FnExactLengthOfPlan': WHATEVER THE INPUT: true; the input reads as it did. -/
def fnExactLengthOfPlanSpec : ChangeSpec := { name := "fnExactLengthOfPlan", fn := fun _ => fun
  | [d1, d2, d3] => { results := [.lit (.bool true)], args := [d1, d2, d3] }
  | _ => none }
def fnExactLengthOfPlanRow : OpenClaim := { program := "ytagdkibmlfjggaadoor", sum := "012a0c98060ad88769c67df0b76b4d652c4601a0905ec9dd5e10cbf0ffb7cbfd", func := "loop.example/g01322/laws.FnExactLengthOfPlan", spec := "fnExactLengthOfPlan", inPlace := ["internal/reflectlite.ValueOf", "(internal/reflectlite.Value).Type", "(internal/reflectlite.Value).IsNil", "internal/reflectlite.TypeOf", "(internal/reflectlite.Value).Elem", "(internal/reflectlite.Value).Set"], unfollowed := true, recurses := true, named := ["errors.errorType"], apart := false, laid := [("errors.errorType", laid_errors_errorType)] }
def FnExactLengthOfPlanSaid : Prop := fnExactLengthOfPlanRow.holds Tryd.pinned (OpenSpec.ofChange fnExactLengthOfPlanSpec)

/-- ITS FALSE NEIGHBOUR: 'it returns false'. Refute it at one input. -/
def fnExactLengthOfPlanWrong : ChangeSpec := { name := "fnExactLengthOfPlan", fn := fun _ => fun
  | [d1, d2, d3] => { results := [.lit (.bool false)], args := [d1, d2, d3] }
  | _ => none }
def FnExactLengthOfPlanWrongFalsely : Prop := fnExactLengthOfPlanRow.holds Tryd.pinned (OpenSpec.ofChange fnExactLengthOfPlanWrong)

/-- 'laws.FnExactFirstWrongSlot': WHATEVER THE INPUT: true; the input reads as it did. -/
def fnExactFirstWrongSlotSpec : ChangeSpec := { name := "fnExactFirstWrongSlot", fn := fun _ => fun
  | [d1, d2, d3] => { results := [.lit (.bool true)], args := [d1, d2, d3] }
  | _ => none }
def fnExactFirstWrongSlotRow : OpenClaim := { program := "ytagdkibmlfjggaadoor", sum := "012a0c98060ad88769c67df0b76b4d652c4601a0905ec9dd5e10cbf0ffb7cbfd", func := "loop.example/g01322/laws.FnExactFirstWrongSlot", spec := "fnExactFirstWrongSlot", inPlace := ["internal/reflectlite.ValueOf", "(internal/reflectlite.Value).Type", "(internal/reflectlite.Value).IsNil", "internal/reflectlite.TypeOf", "(internal/reflectlite.Value).Elem", "(internal/reflectlite.Value).Set"], unfollowed := true, recurses := true, named := ["errors.errorType"], apart := false, laid := [("errors.errorType", laid_errors_errorType)] }
def FnExactFirstWrongSlotSaid : Prop := fnExactFirstWrongSlotRow.holds Tryd.pinned (OpenSpec.ofChange fnExactFirstWrongSlotSpec)

/-- ITS FALSE NEIGHBOUR: 'it returns false'. Refute it at one input. -/
def fnExactFirstWrongSlotWrong : ChangeSpec := { name := "fnExactFirstWrongSlot", fn := fun _ => fun
  | [d1, d2, d3] => { results := [.lit (.bool false)], args := [d1, d2, d3] }
  | _ => none }
def FnExactFirstWrongSlotWrongFalsely : Prop := fnExactFirstWrongSlotRow.holds Tryd.pinned (OpenSpec.ofChange fnExactFirstWrongSlotWrong)

/-- 'laws.FnExactIdleDays': WHATEVER THE INPUT: true; the input reads as it did. -/
def fnExactIdleDaysSpec : ChangeSpec := { name := "fnExactIdleDays", fn := fun _ => fun
  | [d1, d2, d3] => { results := [.lit (.bool true)], args := [d1, d2, d3] }
  | _ => none }
def fnExactIdleDaysRow : OpenClaim := { program := "ytagdkibmlfjggaadoor", sum := "012a0c98060ad88769c67df0b76b4d652c4601a0905ec9dd5e10cbf0ffb7cbfd", func := "loop.example/g01322/laws.FnExactIdleDays", spec := "fnExactIdleDays", inPlace := ["internal/reflectlite.ValueOf", "(internal/reflectlite.Value).Type", "(internal/reflectlite.Value).IsNil", "internal/reflectlite.TypeOf", "(internal/reflectlite.Value).Elem", "(internal/reflectlite.Value).Set"], unfollowed := true, recurses := true, named := ["errors.errorType"], apart := false, laid := [("errors.errorType", laid_errors_errorType)] }
def FnExactIdleDaysSaid : Prop := fnExactIdleDaysRow.holds Tryd.pinned (OpenSpec.ofChange fnExactIdleDaysSpec)

/-- ITS FALSE NEIGHBOUR: 'it returns false'. Refute it at one input. -/
def fnExactIdleDaysWrong : ChangeSpec := { name := "fnExactIdleDays", fn := fun _ => fun
  | [d1, d2, d3] => { results := [.lit (.bool false)], args := [d1, d2, d3] }
  | _ => none }
def FnExactIdleDaysWrongFalsely : Prop := fnExactIdleDaysRow.holds Tryd.pinned (OpenSpec.ofChange fnExactIdleDaysWrong)

/- THE SECOND FORM. 'bulk': how many values and letters a reading holds, each counted each time it is reached (what is shared counts as often as it is met; a slice's spare places count too). A statement '..UptoSaid' is the law's where the arguments, and the package variables that the reading takes, are together of bulk at most 1048576: NARROWER than '..Said'. Prove '..Said' where nothing that the law and all that it calls make is longer than what came in: it says more and counts as full. Else prove '..UptoSaid'. A law counts once. -/
mutual
def uptoBulk {H : Type} : DataW H → Nat
  | .lit (.string bytes) => bytes.length + 1
  | .lit _ => 1
  | .nil => 1
  | .ptr d => uptoBulk d + 1
  | .slice elems spare => uptoBulkAll elems + uptoBulkAll spare + 1
  | .agg parts => uptoBulkAll parts + 1
  | .iface _ d => uptoBulk d + 1
  | .map entries => uptoBulkEntries entries + 1
  | .held _ => 1
def uptoBulkAll {H : Type} : List (DataW H) → Nat
  | [] => 0
  | d :: r => uptoBulk d + uptoBulkAll r
def uptoBulkEntries {H : Type} : List (Lit × DataW H) → Nat
  | [] => 0
  | x :: r => uptoBulkEntry x + uptoBulkEntries r
def uptoBulkEntry {H : Type} : Lit × DataW H → Nat
  | (.string bytes, d) => bytes.length + uptoBulk d + 1
  | (_, d) => uptoBulk d + 1
 end
def uptoSmall : (H : Type) → List (DataW H) → Bool := fun _ ds => decide (uptoBulkAll ds ≤ 1048576)
def OpenSpec.upto (s : _root_.Go.ChangeSpec) : _root_.Go.OpenSpec := { _root_.Go.OpenSpec.ofChange s with cond := some uptoSmall }

/-- 'laws.FnExactOrderOf', WHERE WHAT IT READS IS OF BULK AT MOST 1048576: true; the input reads as it did. -/
def fnExactOrderOfUptoRow : OpenClaim := { program := "ytagdkibmlfjggaadoor", sum := "012a0c98060ad88769c67df0b76b4d652c4601a0905ec9dd5e10cbf0ffb7cbfd", func := "loop.example/g01322/laws.FnExactOrderOf", spec := "fnExactOrderOf", inPlace := ["internal/reflectlite.ValueOf", "(internal/reflectlite.Value).Type", "(internal/reflectlite.Value).IsNil", "internal/reflectlite.TypeOf", "(internal/reflectlite.Value).Elem", "(internal/reflectlite.Value).Set"], unfollowed := true, recurses := true, named := ["errors.errorType"], apart := false, laid := [("errors.errorType", laid_errors_errorType)], narrowed := true }
def FnExactOrderOfUptoSaid : Prop := fnExactOrderOfUptoRow.holds Tryd.pinned (OpenSpec.upto fnExactOrderOfSpec)

/-- 'laws.FnExactBeforeAll', WHERE WHAT IT READS IS OF BULK AT MOST 1048576: true; the input reads as it did. -/
def fnExactBeforeAllUptoRow : OpenClaim := { program := "ytagdkibmlfjggaadoor", sum := "012a0c98060ad88769c67df0b76b4d652c4601a0905ec9dd5e10cbf0ffb7cbfd", func := "loop.example/g01322/laws.FnExactBeforeAll", spec := "fnExactBeforeAll", inPlace := ["internal/reflectlite.ValueOf", "(internal/reflectlite.Value).Type", "(internal/reflectlite.Value).IsNil", "internal/reflectlite.TypeOf", "(internal/reflectlite.Value).Elem", "(internal/reflectlite.Value).Set"], unfollowed := true, recurses := true, named := ["errors.errorType"], apart := false, laid := [("errors.errorType", laid_errors_errorType)], narrowed := true }
def FnExactBeforeAllUptoSaid : Prop := fnExactBeforeAllUptoRow.holds Tryd.pinned (OpenSpec.upto fnExactBeforeAllSpec)

/-- 'laws.FnExactEarliestOf', WHERE WHAT IT READS IS OF BULK AT MOST 1048576: true; the input reads as it did. -/
def fnExactEarliestOfUptoRow : OpenClaim := { program := "ytagdkibmlfjggaadoor", sum := "012a0c98060ad88769c67df0b76b4d652c4601a0905ec9dd5e10cbf0ffb7cbfd", func := "loop.example/g01322/laws.FnExactEarliestOf", spec := "fnExactEarliestOf", inPlace := ["internal/reflectlite.ValueOf", "(internal/reflectlite.Value).Type", "(internal/reflectlite.Value).IsNil", "internal/reflectlite.TypeOf", "(internal/reflectlite.Value).Elem", "(internal/reflectlite.Value).Set"], unfollowed := true, recurses := true, named := ["errors.errorType"], apart := false, laid := [("errors.errorType", laid_errors_errorType)], narrowed := true }
def FnExactEarliestOfUptoSaid : Prop := fnExactEarliestOfUptoRow.holds Tryd.pinned (OpenSpec.upto fnExactEarliestOfSpec)

/-- 'laws.FnExactLongestChain', WHERE WHAT IT READS IS OF BULK AT MOST 1048576: true; the input reads as it did. -/
def fnExactLongestChainUptoRow : OpenClaim := { program := "ytagdkibmlfjggaadoor", sum := "012a0c98060ad88769c67df0b76b4d652c4601a0905ec9dd5e10cbf0ffb7cbfd", func := "loop.example/g01322/laws.FnExactLongestChain", spec := "fnExactLongestChain", inPlace := ["internal/reflectlite.ValueOf", "(internal/reflectlite.Value).Type", "(internal/reflectlite.Value).IsNil", "internal/reflectlite.TypeOf", "(internal/reflectlite.Value).Elem", "(internal/reflectlite.Value).Set"], unfollowed := true, recurses := true, named := ["errors.errorType"], apart := false, laid := [("errors.errorType", laid_errors_errorType)], narrowed := true }
def FnExactLongestChainUptoSaid : Prop := fnExactLongestChainUptoRow.holds Tryd.pinned (OpenSpec.upto fnExactLongestChainSpec)

/-- 'laws.FnExactLatestOf', WHERE WHAT IT READS IS OF BULK AT MOST 1048576: true; the input reads as it did. -/
def fnExactLatestOfUptoRow : OpenClaim := { program := "ytagdkibmlfjggaadoor", sum := "012a0c98060ad88769c67df0b76b4d652c4601a0905ec9dd5e10cbf0ffb7cbfd", func := "loop.example/g01322/laws.FnExactLatestOf", spec := "fnExactLatestOf", inPlace := ["internal/reflectlite.ValueOf", "(internal/reflectlite.Value).Type", "(internal/reflectlite.Value).IsNil", "internal/reflectlite.TypeOf", "(internal/reflectlite.Value).Elem", "(internal/reflectlite.Value).Set"], unfollowed := true, recurses := true, named := ["errors.errorType"], apart := false, laid := [("errors.errorType", laid_errors_errorType)], narrowed := true }
def FnExactLatestOfUptoSaid : Prop := fnExactLatestOfUptoRow.holds Tryd.pinned (OpenSpec.upto fnExactLatestOfSpec)

/-- 'laws.FnExactBoundFor', WHERE WHAT IT READS IS OF BULK AT MOST 1048576: true; the input reads as it did. -/
def fnExactBoundForUptoRow : OpenClaim := { program := "ytagdkibmlfjggaadoor", sum := "012a0c98060ad88769c67df0b76b4d652c4601a0905ec9dd5e10cbf0ffb7cbfd", func := "loop.example/g01322/laws.FnExactBoundFor", spec := "fnExactBoundFor", inPlace := ["internal/reflectlite.ValueOf", "(internal/reflectlite.Value).Type", "(internal/reflectlite.Value).IsNil", "internal/reflectlite.TypeOf", "(internal/reflectlite.Value).Elem", "(internal/reflectlite.Value).Set"], unfollowed := true, recurses := true, named := ["errors.errorType"], apart := false, laid := [("errors.errorType", laid_errors_errorType)], narrowed := true }
def FnExactBoundForUptoSaid : Prop := fnExactBoundForUptoRow.holds Tryd.pinned (OpenSpec.upto fnExactBoundForSpec)

/-- 'laws.FnExactPlanInOrder', WHERE WHAT IT READS IS OF BULK AT MOST 1048576: true; the input reads as it did. -/
def fnExactPlanInOrderUptoRow : OpenClaim := { program := "ytagdkibmlfjggaadoor", sum := "012a0c98060ad88769c67df0b76b4d652c4601a0905ec9dd5e10cbf0ffb7cbfd", func := "loop.example/g01322/laws.FnExactPlanInOrder", spec := "fnExactPlanInOrder", inPlace := ["internal/reflectlite.ValueOf", "(internal/reflectlite.Value).Type", "(internal/reflectlite.Value).IsNil", "internal/reflectlite.TypeOf", "(internal/reflectlite.Value).Elem", "(internal/reflectlite.Value).Set"], unfollowed := true, recurses := true, named := ["errors.errorType"], apart := false, laid := [("errors.errorType", laid_errors_errorType)], narrowed := true }
def FnExactPlanInOrderUptoSaid : Prop := fnExactPlanInOrderUptoRow.holds Tryd.pinned (OpenSpec.upto fnExactPlanInOrderSpec)

/-- 'laws.FnExactLengthOfPlan', WHERE WHAT IT READS IS OF BULK AT MOST 1048576: true; the input reads as it did. -/
def fnExactLengthOfPlanUptoRow : OpenClaim := { program := "ytagdkibmlfjggaadoor", sum := "012a0c98060ad88769c67df0b76b4d652c4601a0905ec9dd5e10cbf0ffb7cbfd", func := "loop.example/g01322/laws.FnExactLengthOfPlan", spec := "fnExactLengthOfPlan", inPlace := ["internal/reflectlite.ValueOf", "(internal/reflectlite.Value).Type", "(internal/reflectlite.Value).IsNil", "internal/reflectlite.TypeOf", "(internal/reflectlite.Value).Elem", "(internal/reflectlite.Value).Set"], unfollowed := true, recurses := true, named := ["errors.errorType"], apart := false, laid := [("errors.errorType", laid_errors_errorType)], narrowed := true }
def FnExactLengthOfPlanUptoSaid : Prop := fnExactLengthOfPlanUptoRow.holds Tryd.pinned (OpenSpec.upto fnExactLengthOfPlanSpec)

/-- 'laws.FnExactFirstWrongSlot', WHERE WHAT IT READS IS OF BULK AT MOST 1048576: true; the input reads as it did. -/
def fnExactFirstWrongSlotUptoRow : OpenClaim := { program := "ytagdkibmlfjggaadoor", sum := "012a0c98060ad88769c67df0b76b4d652c4601a0905ec9dd5e10cbf0ffb7cbfd", func := "loop.example/g01322/laws.FnExactFirstWrongSlot", spec := "fnExactFirstWrongSlot", inPlace := ["internal/reflectlite.ValueOf", "(internal/reflectlite.Value).Type", "(internal/reflectlite.Value).IsNil", "internal/reflectlite.TypeOf", "(internal/reflectlite.Value).Elem", "(internal/reflectlite.Value).Set"], unfollowed := true, recurses := true, named := ["errors.errorType"], apart := false, laid := [("errors.errorType", laid_errors_errorType)], narrowed := true }
def FnExactFirstWrongSlotUptoSaid : Prop := fnExactFirstWrongSlotUptoRow.holds Tryd.pinned (OpenSpec.upto fnExactFirstWrongSlotSpec)

/-- 'laws.FnExactIdleDays', WHERE WHAT IT READS IS OF BULK AT MOST 1048576: true; the input reads as it did. -/
def fnExactIdleDaysUptoRow : OpenClaim := { program := "ytagdkibmlfjggaadoor", sum := "012a0c98060ad88769c67df0b76b4d652c4601a0905ec9dd5e10cbf0ffb7cbfd", func := "loop.example/g01322/laws.FnExactIdleDays", spec := "fnExactIdleDays", inPlace := ["internal/reflectlite.ValueOf", "(internal/reflectlite.Value).Type", "(internal/reflectlite.Value).IsNil", "internal/reflectlite.TypeOf", "(internal/reflectlite.Value).Elem", "(internal/reflectlite.Value).Set"], unfollowed := true, recurses := true, named := ["errors.errorType"], apart := false, laid := [("errors.errorType", laid_errors_errorType)], narrowed := true }
def FnExactIdleDaysUptoSaid : Prop := fnExactIdleDaysUptoRow.holds Tryd.pinned (OpenSpec.upto fnExactIdleDaysSpec)

end Rows
end Go.Proofs.YtagdkibmlfjggaaDoor
