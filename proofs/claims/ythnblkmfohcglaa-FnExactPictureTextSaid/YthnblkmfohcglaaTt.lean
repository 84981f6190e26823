/- What types there are in a seat without package-level variables. No conditions. -/
import Derived.Test.YthnblkmfohcglaaSl
set_option linter.unusedSimpArgs false
set_option linter.unusedVariables false
namespace Go.Proofs.Ythnblkmfohcglaa
open Go.Sx Go.RowKit

def gvP : Nat → Option Value := fun _ => none
def txT : Nat → Option (List Value) := fun _ => none
def gvT : Nat → Option Value := gvP
def mthA : List (TypeId × String × FuncId) := []
def mthB : List (TypeId × String × FuncId) := []
def TT : Tab := ⟨[(2, ⟨.int .i64, 1, [.lit .i64 0], 8⟩),
  (3, ⟨.int .i64, 1, [.lit .i64 0], 8⟩),
  (4, ⟨.bool, 1, [.ff], 1⟩),
  (5, ⟨.int .u8, 1, [.lit .u8 0], 1⟩),
  (9, ⟨.str, 1, [.str ByteArray.empty], 16⟩),
  (20, ⟨.ifc, 1, [.val .nilIface], 16⟩),
  (22, ⟨.int .i8, 1, [.lit .i8 0], 1⟩),
  (23, ⟨.arr 144 5, 144, [.run [.u8] 144 (List.replicate 144 0)], 144⟩),
  (25, ⟨.struct [(0, 22), (1, 22), (2, 23)], 146, [.lit .i8 0, .lit .i8 0, .run [.u8] 144 (List.replicate 144 0)], 146⟩),
  (27, ⟨.struct [(0, 22), (1, 22), (2, 23)], 146, [.lit .i8 0, .lit .i8 0, .run [.u8] 144 (List.replicate 144 0)], 146⟩),
  (31, ⟨.ptr, 1, [.val (.pointer none)], 8⟩),
  (35, ⟨.ptr, 1, [.val (.pointer none)], 8⟩),
  (36, ⟨.slice 5, 1, [.val (.slice none 0 0)], 24⟩),
  (38, ⟨.struct [(0, 35), (1, 36)], 2, [.val (.pointer none), .val (.slice none 0 0)], 32⟩),
  (43, ⟨.ifc, 1, [.val .nilIface], 16⟩),
  (49, ⟨.fn, 1, [.val .nilFunc], 8⟩),
  (69, ⟨.fn, 1, [.val .nilFunc], 8⟩)], gvT, mthA ++ mthB, fun _ => false, txT⟩
theorem tt_ok : TabOk Try.prog TT := Tab.chk_sound (by kernel_rfl) (by kernel_rfl) (by kernel_rfl) (by repeat' (first | exact trivial | refine ⟨fun v w => by kernel_rfl, ?_⟩))

abbrev C0 : Ctr := ctrOf []
theorem C0_ok : CtrOk Try.prog TT C0 := ctrOf_ok trivial
theorem noG {w0 : Base} : GOk TT w0 := fun g v h => by cases h

end Go.Proofs.Ythnblkmfohcglaa
