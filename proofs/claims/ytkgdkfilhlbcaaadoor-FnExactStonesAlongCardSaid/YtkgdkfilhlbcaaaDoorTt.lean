/- What types there are in a seat without package-level variables. No conditions. -/
import Derived.Test.YtkgdkfilhlbcaaaDoorSl
set_option linter.unusedSimpArgs false
set_option linter.unusedVariables false
namespace Go.Proofs.YtkgdkfilhlbcaaaDoor
open Go.Sx Go.RowKit

def gvP : Nat → Option Value := fun _ => none
def txT : Nat → Option (List Value) := fun _ => none
def gvT : Nat → Option Value := gvP
def mthA : List (TypeId × String × FuncId) := []
def mthB : List (TypeId × String × FuncId) := []
def TT : Tab := ⟨[(2, ⟨.int .i64, 1, [.lit .i64 0], 8⟩),
  (3, ⟨.int .i64, 1, [.lit .i64 0], 8⟩),
  (4, ⟨.bool, 1, [.ff], 1⟩),
  (5, ⟨.int .u8, 1, [.lit .u8 0], 1⟩),
  (9, ⟨.str, 1, [.str ByteArray.empty], 16⟩),
  (20, ⟨.ifc, 1, [.val .nilIface], 16⟩),
  (22, ⟨.slice 2, 1, [.val (.slice none 0 0)], 24⟩),
  (28, ⟨.slice 39, 1, [.val (.slice none 0 0)], 24⟩),
  (29, ⟨.slice 39, 1, [.val (.slice none 0 0)], 24⟩),
  (38, ⟨.fn, 1, [.val .nilFunc], 8⟩),
  (39, ⟨.int .i16, 1, [.lit .i16 0], 2⟩),
  (57, ⟨.int .u64, 1, [.lit .u64 0], 8⟩),
  (81, ⟨.fn, 1, [.val .nilFunc], 8⟩)], gvT, mthA ++ mthB, fun _ => false, txT⟩
theorem tt_ok : TabOk Tryd.prog TT := Tab.chk_sound (by kernel_rfl) (by kernel_rfl) (by kernel_rfl) (by repeat' (first | exact trivial | refine ⟨fun v w => by kernel_rfl, ?_⟩))

abbrev C0 : Ctr := ctrOf []
theorem C0_ok : CtrOk Tryd.prog TT C0 := ctrOf_ok trivial
theorem noG {w0 : Base} : GOk TT w0 := fun g v h => by cases h

end Go.Proofs.YtkgdkfilhlbcaaaDoor
