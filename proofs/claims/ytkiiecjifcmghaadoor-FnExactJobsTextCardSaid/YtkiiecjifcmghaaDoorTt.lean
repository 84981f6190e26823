/- What types there are in a seat without package-level variables. No conditions. -/
import Derived.Test.YtkiiecjifcmghaaDoorSl
import Derived.Lib.ItoaNum
set_option linter.unusedSimpArgs false
set_option linter.unusedVariables false
namespace Go.Proofs.YtkiiecjifcmghaaDoor
open Go.Sx Go.RowKit

/-- The powers of ten. -/
def gvP : Nat → Option Value := fun g => if g = 0 then some (.int .u64 1) else none
def txT : Nat → Option (List Value) := fun g => if g = 0 then some (Lib.pow10Tab.map (Value.int .u64)) else none
def gvT : Nat → Option Value := gvP
def mthA : List (TypeId × String × FuncId) := []
def mthB : List (TypeId × String × FuncId) := []
def TT : Tab := ⟨[(2, ⟨.int .i64, 1, [.lit .i64 0], 8⟩),
  (3, ⟨.int .i64, 1, [.lit .i64 0], 8⟩),
  (4, ⟨.bool, 1, [.ff], 1⟩),
  (5, ⟨.int .u8, 1, [.lit .u8 0], 1⟩),
  (9, ⟨.str, 1, [.str ByteArray.empty], 16⟩),
  (20, ⟨.ifc, 1, [.val .nilIface], 16⟩),
  (22, ⟨.slice 35, 1, [.val (.slice none 0 0)], 24⟩),
  (25, ⟨.slice 33, 1, [.val (.slice none 0 0)], 24⟩),
  (30, ⟨.int .i8, 1, [.lit .i8 0], 1⟩),
  (31, ⟨.int .u16, 1, [.lit .u16 0], 2⟩),
  (33, ⟨.struct [(0, 30), (1, 31)], 2, [.lit .i8 0, .lit .u16 0], 4⟩),
  (35, ⟨.struct [(0, 30), (1, 31)], 2, [.lit .i8 0, .lit .u16 0], 4⟩),
  (36, ⟨.slice 9, 1, [.val (.slice none 0 0)], 24⟩),
  (38, ⟨.fn, 1, [.val .nilFunc], 8⟩),
  (39, ⟨.fn, 1, [.val .nilFunc], 8⟩),
  (40, ⟨.int .u16, 1, [.lit .u16 0], 2⟩),
  (46, ⟨.int .u64, 1, [.lit .u64 0], 8⟩),
  (47, ⟨.slice 2, 1, [.val (.slice none 0 0)], 24⟩),
  (52, ⟨.slice 87, 1, [.val (.slice none 0 0)], 24⟩),
  (53, ⟨.slice 87, 1, [.val (.slice none 0 0)], 24⟩),
  (55, ⟨.ifc, 1, [.val .nilIface], 16⟩),
  (58, ⟨.fn, 1, [.val .nilFunc], 8⟩),
  (60, ⟨.slice 5, 1, [.val (.slice none 0 0)], 24⟩),
  (71, ⟨.int .i64, 1, [.lit .i64 0], 8⟩),
  (74, ⟨.int .u64, 1, [.lit .u64 0], 8⟩),
  (81, ⟨.ifc, 1, [.val .nilIface], 16⟩),
  (84, ⟨.struct [(0, 30), (1, 31)], 2, [.lit .i8 0, .lit .u16 0], 4⟩),
  (85, ⟨.int .i64, 1, [.lit .i64 0], 8⟩),
  (87, ⟨.struct [(0, 85), (1, 40)], 2, [.lit .i64 0, .lit .u16 0], 16⟩),
  (120, ⟨.fn, 1, [.val .nilFunc], 8⟩)], gvT, mthA ++ mthB, fun _ => false, txT⟩
theorem tt_ok : TabOk Tryd.prog TT := Tab.chk_sound (by kernel_rfl) (by kernel_rfl) (by kernel_rfl) (by repeat' (first | exact trivial | refine ⟨fun v w => by kernel_rfl, ?_⟩))

abbrev C0 : Ctr := ctrOf []
theorem C0_ok : CtrOk Tryd.prog TT C0 := ctrOf_ok trivial

end Go.Proofs.YtkiiecjifcmghaaDoor
