/-
  DERIVED. GIVEN WITH THE SEED: THE PROGRAM's TIES (one call each: nine closed facts by the kernel) AND EACH ROW's TIE, after the 31st guide's Derived/Test/Toyas{Tie, Card}.lean. No idea stands in it: it is a product of the set-up. Laid BY PROGRAM, IN A SANDBOX (cutbox-door.mjs). By AI agents, Wed Nov 11 2026. No macro, syntax, notation, axiom, sorry.
-/
import Derived.Test.YtnoljgfnpabinaaDoorRows
import Derived.LaidByTextLater
import Derived.SevenTiedAt
import Derived.LaidSub
import Derived.LaidOnce
namespace Go.Proofs.YtnoljgfnpabinaaDoor
open Go
set_option maxRecDepth 100000
theorem seatTie1 : Tryd.prog.laidByTextLater [("loop.example/g01322/impl.errPlaces", Rows.laid_loop_example_g01322_impl_errPlaces), ("loop.example/g01322/impl.errShape", Rows.laid_loop_example_g01322_impl_errShape), ("loop.example/g01322/impl.errCorners", Rows.laid_loop_example_g01322_impl_errCorners)] [.sentinel, .sentinel, .sentinel] true :=
  Program.laidByTextLater_by_one 66 8 2 (by kernel_rfl) (by kernel_rfl) (by kernel_rfl) (by kernel_rfl) (by kernel_rfl) (by kernel_rfl) (fun _ _ => by kernel_rfl)
theorem noOwnUnsafe : Tryd.pinned.checked.prog.headLifts.contains "ownunsafe" = false := by kernel_rfl
theorem tie : Tryd.prog.laidByTextLater [("loop.example/g01322/impl.errPlaces", Rows.laid_loop_example_g01322_impl_errPlaces), ("loop.example/g01322/impl.errShape", Rows.laid_loop_example_g01322_impl_errShape), ("loop.example/g01322/impl.errCorners", Rows.laid_loop_example_g01322_impl_errCorners)] [.sentinel, .sentinel, .sentinel] true :=
  Program.laidByTextLater.sub seatTie1 ["loop.example/g01322/impl.errPlaces", "loop.example/g01322/impl.errShape", "loop.example/g01322/impl.errCorners"] (by kernel_rfl) (by kernel_rfl)
theorem fnExactJoinStones_row_tie : Rows.fnExactJoinStonesRow.laidByTextAt .later Tryd.pinned [.sentinel, .sentinel, .sentinel] true :=
  OpenClaim.laidByTextAt_later rfl rfl tie noOwnUnsafe
theorem fnExactJoinStonesUpto_row_tie : Rows.fnExactJoinStonesUptoRow.laidByTextAt .later Tryd.pinned [.sentinel, .sentinel, .sentinel] true :=
  OpenClaim.laidByTextAt_later rfl rfl tie noOwnUnsafe
end Go.Proofs.YtnoljgfnpabinaaDoor
