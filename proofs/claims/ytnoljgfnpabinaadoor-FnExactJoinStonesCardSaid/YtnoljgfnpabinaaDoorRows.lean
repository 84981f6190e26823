/-
  NARROWER THAN 'FOR EVERY INPUT', by the rows' own cells (each row's printed sentence says how): FnExactJoinStones: ifaces, laid.
  DERIVED. THE GIVEN ROWS OF THIS SEAT. 1 by the template 'for every input the law returns true; each argument reads behind the call as it read before'; 0 by the template 'total and deterministic' (their statements: YtnoljgfnpabinaaDoorTotals.lean).
  GIVEN WITH THE SEED: the statements are not yours to turn. If you find one false, say at which input.
  Laid BY PROGRAM, IN A SANDBOX (cutbox-rows.mjs): the forced cells as the released guide's own fill.sh prints them over the translation 4659cdb277da06a3… (all of the seat's roots in one cut). By AI agents, Wed Nov 11 2026. No macro, syntax, notation, axiom, sorry.
-/
import Derived.Test.YtnoljgfnpabinaaDoorChecked
import GoSem.Claim
import GoSem.ClaimJoined
import GoSem.ClaimMapViews
import Derived.JoinedTies
import Derived.KernelRfl
namespace Go.Proofs.YtnoljgfnpabinaaDoor
/- THE CELL 'sum', in the pinned program and in every row, IS THE sha256 OF THE DUMP (.gsa) THAT YtnoljgfnpabinaaDoorProg.lean LOADS. Nothing in Lean hashes anything: it is a label: what it is worth is what the hold of that sum in a sandbox is worth. -/
noncomputable def Tryd.pinned : Pinned := { name := "ytnoljgfnpabinaadoor", sum := "4659cdb277da06a3457d295c42a36a5c7de820195470b0c3fd92e77e472a7441", checked := Tryd.checked }
namespace Rows
def none {H : Type} : Left H := { results := [], args := [] }

/- WHAT THE LISTED PACKAGE-LEVEL VARIABLES READ AS WHEN THE CALL BEGINS. Each datum BY PROGRAM (the guide's laid-datum.mjs) off the statement by which the dump's own 'gosem.cut.vars' lays the variable. In a bare row this is a premise. The card (YtnoljgfnpabinaaDoorCards.lean) ties it to the program's text. -/
def laid_loop_example_g01322_impl_errPlaces {H : Type} : DataW H := .iface "*errors.errorString" (.ptr (.agg [.lit (.string [97, 32, 99, 111, 114, 110, 101, 114, 32, 105, 115, 32, 116, 111, 111, 32, 102, 97, 114, 32, 97, 119, 97, 121])]))
def laid_loop_example_g01322_impl_errShape {H : Type} : DataW H := .iface "*errors.errorString" (.ptr (.agg [.lit (.string [116, 104, 101, 32, 99, 111, 114, 110, 101, 114, 115, 32, 100, 111, 32, 110, 111, 116, 32, 103, 111, 32, 111, 110, 99, 101, 32, 97, 114, 111, 117, 110, 100, 32, 97, 32, 99, 111, 110, 118, 101, 120, 32, 115, 116, 111, 110, 101])]))
def laid_loop_example_g01322_impl_errCorners {H : Type} : DataW H := .iface "*errors.errorString" (.ptr (.agg [.lit (.string [116, 104, 101, 114, 101, 32, 97, 114, 101, 32, 116, 111, 111, 32, 109, 97, 110, 121, 32, 99, 111, 114, 110, 101, 114, 115])]))

/-- 'laws.FnExactJoinStones': WHATEVER THE INPUT: true; the input reads as it did. -/
def fnExactJoinStonesSpec : ChangeSpec := { name := "fnExactJoinStones", vars := ["loop.example/g01322/impl.errPlaces", "loop.example/g01322/impl.errShape", "loop.example/g01322/impl.errCorners"], fn := fun _ => fun
  | [d1, d2, g1, g2, g3] => { results := [.lit (.bool true)], args := [d1, d2], vars := [g1, g2, g3] }
  | _ => none }
def fnExactJoinStonesRow : OpenClaim := { program := "ytnoljgfnpabinaadoor", sum := "4659cdb277da06a3457d295c42a36a5c7de820195470b0c3fd92e77e472a7441", func := "loop.example/g01322/laws.FnExactJoinStones", spec := "fnExactJoinStones", inPlace := ["internal/reflectlite.TypeOf"], unfollowed := true, recurses := true, named := ["loop.example/g01322/impl.errPlaces", "loop.example/g01322/impl.errShape", "loop.example/g01322/impl.errCorners"], ifaces := true, plainKeys := false, apart := false, laid := [("loop.example/g01322/impl.errPlaces", laid_loop_example_g01322_impl_errPlaces), ("loop.example/g01322/impl.errShape", laid_loop_example_g01322_impl_errShape), ("loop.example/g01322/impl.errCorners", laid_loop_example_g01322_impl_errCorners)] }
def FnExactJoinStonesSaid : Prop := fnExactJoinStonesRow.holds Tryd.pinned (OpenSpec.ofChange fnExactJoinStonesSpec)

/-- ITS FALSE NEIGHBOUR: 'it returns false'. Refute it at one input. -/
def fnExactJoinStonesWrong : ChangeSpec := { name := "fnExactJoinStones", vars := ["loop.example/g01322/impl.errPlaces", "loop.example/g01322/impl.errShape", "loop.example/g01322/impl.errCorners"], fn := fun _ => fun
  | [d1, d2, g1, g2, g3] => { results := [.lit (.bool false)], args := [d1, d2], vars := [g1, g2, g3] }
  | _ => none }
def FnExactJoinStonesWrongFalsely : Prop := fnExactJoinStonesRow.holds Tryd.pinned (OpenSpec.ofChange fnExactJoinStonesWrong)

/- THE SECOND FORM. 'bulk': how many values and letters a reading holds, each counted each time it is reached (what is shared counts as often as it is met; a slice's spare places count too). A statement '..UptoSaid' is the law's where the arguments, and the package variables that the reading takes, are together of bulk at most 1048576: NARROWER than '..Said'. Prove '..Said' where nothing that the law and all that it calls make is longer than what came in: it says more and counts as full. Else prove '..UptoSaid'. A law counts once. -/
mutual
def uptoBulk {H : Type} : DataW H → Nat
  | .lit (.string bytes) => bytes.length + 1
  | .lit _ => 1
  | .nil => 1
  | .ptr d => uptoBulk d + 1
  | .slice elems spare => uptoBulkAll elems + uptoBulkAll spare + 1
  | .agg parts => uptoBulkAll parts + 1
  | .iface _ d => uptoBulk d + 1
  | .map entries => uptoBulkEntries entries + 1
  | .held _ => 1
def uptoBulkAll {H : Type} : List (DataW H) → Nat
  | [] => 0
  | d :: r => uptoBulk d + uptoBulkAll r
def uptoBulkEntries {H : Type} : List (Lit × DataW H) → Nat
  | [] => 0
  | x :: r => uptoBulkEntry x + uptoBulkEntries r
def uptoBulkEntry {H : Type} : Lit × DataW H → Nat
  | (.string bytes, d) => bytes.length + uptoBulk d + 1
  | (_, d) => uptoBulk d + 1
 end
def uptoSmall : (H : Type) → List (DataW H) → Bool := fun _ ds => decide (uptoBulkAll ds ≤ 1048576)
def OpenSpec.upto (s : _root_.Go.ChangeSpec) : _root_.Go.OpenSpec := { _root_.Go.OpenSpec.ofChange s with cond := some uptoSmall }

/-- 'laws.FnExactJoinStones', WHERE WHAT IT READS IS OF BULK AT MOST 1048576: true; the input reads as it did. -/
def fnExactJoinStonesUptoRow : OpenClaim := { program := "ytnoljgfnpabinaadoor", sum := "4659cdb277da06a3457d295c42a36a5c7de820195470b0c3fd92e77e472a7441", func := "loop.example/g01322/laws.FnExactJoinStones", spec := "fnExactJoinStones", inPlace := ["internal/reflectlite.TypeOf"], unfollowed := true, recurses := true, named := ["loop.example/g01322/impl.errPlaces", "loop.example/g01322/impl.errShape", "loop.example/g01322/impl.errCorners"], ifaces := true, plainKeys := false, apart := false, laid := [("loop.example/g01322/impl.errPlaces", laid_loop_example_g01322_impl_errPlaces), ("loop.example/g01322/impl.errShape", laid_loop_example_g01322_impl_errShape), ("loop.example/g01322/impl.errCorners", laid_loop_example_g01322_impl_errCorners)], narrowed := true }
def FnExactJoinStonesUptoSaid : Prop := fnExactJoinStonesUptoRow.holds Tryd.pinned (OpenSpec.upto fnExactJoinStonesSpec)

end Rows
end Go.Proofs.YtnoljgfnpabinaaDoor
