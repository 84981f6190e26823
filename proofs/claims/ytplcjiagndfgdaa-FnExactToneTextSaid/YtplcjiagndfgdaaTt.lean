/- What types there are in a seat without package-level variables. No conditions. -/
import Derived.Test.YtplcjiagndfgdaaSl
set_option linter.unusedSimpArgs false
set_option linter.unusedVariables false
namespace Go.Proofs.Ytplcjiagndfgdaa
open Go.Sx Go.RowKit

def gvT : Nat → Option Value := fun _ => none
def mthA : List (TypeId × String × FuncId) := []
def mthB : List (TypeId × String × FuncId) := []
def TT : Tab := ⟨[(2, ⟨.int .i64, 1, [.lit .i64 0], 8⟩),
  (3, ⟨.int .i64, 1, [.lit .i64 0], 8⟩),
  (4, ⟨.bool, 1, [.ff], 1⟩),
  (5, ⟨.int .u8, 1, [.lit .u8 0], 1⟩),
  (9, ⟨.str, 1, [.str ByteArray.empty], 16⟩),
  (20, ⟨.ifc, 1, [.val .nilIface], 16⟩),
  (22, ⟨.arr 3 5, 3, [.run [.u8] 3 (List.replicate 3 0)], 3⟩),
  (24, ⟨.arr 3 5, 3, [.run [.u8] 3 (List.replicate 3 0)], 3⟩),
  (27, ⟨.slice 5, 1, [.val (.slice none 0 0)], 24⟩)], gvT, mthA ++ mthB, fun _ => false⟩
theorem tt_ok : TabOk Try.prog TT := Tab.chk_sound (by kernel_rfl) (by kernel_rfl) (by kernel_rfl) (by repeat' (first | exact trivial | refine ⟨fun v w => by kernel_rfl, ?_⟩))

abbrev C0 : Ctr := ctrOf []
theorem C0_ok : CtrOk Try.prog TT C0 := ctrOf_ok trivial
theorem noG {w0 : Base} : GOk TT w0 := fun g v h => by cases h

end Go.Proofs.Ytplcjiagndfgdaa
