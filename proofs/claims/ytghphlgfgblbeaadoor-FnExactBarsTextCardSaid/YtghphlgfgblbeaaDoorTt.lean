/- What types there are in a seat without package-level variables. No conditions. -/
import Derived.Test.YtghphlgfgblbeaaDoorSl
import Derived.Lib.ItoaNum
set_option linter.unusedSimpArgs false
set_option linter.unusedVariables false
namespace Go.Proofs.YtghphlgfgblbeaaDoor
open Go.Sx Go.RowKit

/-- The powers of ten. -/
def gvP : Nat → Option Value := fun g => if g = 0 then some (.int .u64 1) else none
def txT : Nat → Option (List Value) := fun g => if g = 0 then some (Lib.pow10Tab.map (Value.int .u64)) else none
def gvT : Nat → Option Value := gvP
def mthA : List (TypeId × String × FuncId) := []
def mthB : List (TypeId × String × FuncId) := []
def TT : Tab := ⟨[(2, ⟨.int .i64, 1, [.lit .i64 0], 8⟩),
  (3, ⟨.int .i64, 1, [.lit .i64 0], 8⟩),
  (4, ⟨.bool, 1, [.ff], 1⟩),
  (5, ⟨.int .u8, 1, [.lit .u8 0], 1⟩),
  (9, ⟨.str, 1, [.str ByteArray.empty], 16⟩),
  (20, ⟨.ifc, 1, [.val .nilIface], 16⟩),
  (22, ⟨.slice 29, 1, [.val (.slice none 0 0)], 24⟩),
  (29, ⟨.slice 2, 1, [.val (.slice none 0 0)], 24⟩),
  (31, ⟨.ptr, 1, [.val (.pointer none)], 8⟩),
  (32, ⟨.slice 5, 1, [.val (.slice none 0 0)], 24⟩),
  (34, ⟨.struct [(0, 31), (1, 32)], 2, [.val (.pointer none), .val (.slice none 0 0)], 32⟩),
  (36, ⟨.ifc, 1, [.val .nilIface], 16⟩),
  (50, ⟨.int .u64, 1, [.lit .u64 0], 8⟩),
  (61, ⟨.int .u64, 1, [.lit .u64 0], 8⟩)], gvT, mthA ++ mthB, fun _ => false, txT⟩
theorem tt_ok : TabOk Tryd.prog TT := Tab.chk_sound (by kernel_rfl) (by kernel_rfl) (by kernel_rfl) (by repeat' (first | exact trivial | refine ⟨fun v w => by kernel_rfl, ?_⟩))

abbrev C0 : Ctr := ctrOf []
theorem C0_ok : CtrOk Tryd.prog TT C0 := ctrOf_ok trivial

end Go.Proofs.YtghphlgfgblbeaaDoor
