/- What types there are in a seat without package-level variables. No conditions. -/
import Derived.Test.YtagdkibmlfjggaaDoorSl
set_option linter.unusedSimpArgs false
set_option linter.unusedVariables false
namespace Go.Proofs.YtagdkibmlfjggaaDoor
open Go.Sx Go.RowKit

/-- What the package-level variable holds: the type error's handle. -/
def gvT : Nat → Option Value := fun g => if g = 0 then some (.iface 162 (.agg #[.pointer (some ⟨1, 70, none⟩)])) else none
def mthA : List (TypeId × String × FuncId) := []
def mthB : List (TypeId × String × FuncId) := []
def TT : Tab := ⟨[(2, ⟨.int .i64, 1, [.lit .i64 0], 8⟩),
  (3, ⟨.int .i64, 1, [.lit .i64 0], 8⟩),
  (4, ⟨.bool, 1, [.ff], 1⟩),
  (5, ⟨.int .u8, 1, [.lit .u8 0], 1⟩),
  (9, ⟨.str, 1, [.str ByteArray.empty], 16⟩),
  (20, ⟨.ifc, 1, [.val .nilIface], 16⟩),
  (22, ⟨.slice 66, 1, [.val (.slice none 0 0)], 24⟩),
  (24, ⟨.slice 2, 1, [.val (.slice none 0 0)], 24⟩),
  (27, ⟨.slice 64, 1, [.val (.slice none 0 0)], 24⟩),
  (34, ⟨.slice 62, 1, [.val (.slice none 0 0)], 24⟩),
  (45, ⟨.slice 89, 1, [.val (.slice none 0 0)], 24⟩),
  (52, ⟨.slice 111, 1, [.val (.slice none 0 0)], 24⟩),
  (61, ⟨.int .i8, 1, [.lit .i8 0], 1⟩),
  (62, ⟨.int .u16, 1, [.lit .u16 0], 2⟩),
  (64, ⟨.struct [(0, 61), (1, 62)], 2, [.lit .i8 0, .lit .u16 0], 4⟩),
  (66, ⟨.struct [(0, 61), (1, 62)], 2, [.lit .i8 0, .lit .u16 0], 4⟩),
  (67, ⟨.slice 80, 1, [.val (.slice none 0 0)], 24⟩),
  (68, ⟨.slice 80, 1, [.val (.slice none 0 0)], 24⟩),
  (70, ⟨.ifc, 1, [.val .nilIface], 16⟩),
  (77, ⟨.int .i64, 1, [.lit .i64 0], 8⟩),
  (78, ⟨.int .u16, 1, [.lit .u16 0], 2⟩),
  (80, ⟨.struct [(0, 77), (1, 78)], 2, [.lit .i64 0, .lit .u16 0], 16⟩),
  (81, ⟨.fn, 1, [.val .nilFunc], 8⟩),
  (82, ⟨.fn, 1, [.val .nilFunc], 8⟩),
  (86, ⟨.struct [(0, 68), (1, 2)], 2, [.val (.slice none 0 0), .lit .i64 0], 32⟩),
  (87, ⟨.int .i16, 1, [.lit .i16 0], 2⟩),
  (89, ⟨.struct [(0, 61), (1, 87)], 2, [.lit .i8 0, .lit .i16 0], 4⟩),
  (90, ⟨.arr 12 89, 24, [.run [.i8, .i16] 24 (List.replicate 24 0)], 48⟩),
  (92, ⟨.struct [(0, 86), (2, 78), (3, 90)], 27, [.val (.slice none 0 0), .lit .i64 0, .lit .u16 0, .run [.i8, .i16] 24 (List.replicate 24 0)], 88⟩),
  (94, ⟨.fn, 1, [.val .nilFunc], 8⟩),
  (102, ⟨.int .u64, 1, [.lit .u64 0], 8⟩),
  (111, ⟨.struct [(0, 61), (1, 87)], 2, [.lit .i8 0, .lit .i16 0], 4⟩),
  (117, ⟨.struct [(0, 2)], 1, [.lit .i64 0], 8⟩),
  (119, ⟨.ptr, 1, [.val (.pointer none)], 8⟩),
  (126, ⟨.int .i64, 1, [.lit .i64 0], 8⟩),
  (128, ⟨.ptr, 1, [.val (.pointer none)], 8⟩),
  (129, ⟨.fn, 1, [.val .nilFunc], 8⟩),
  (133, ⟨.fn, 1, [.val .nilFunc], 8⟩),
  (134, ⟨.fn, 1, [.val .nilFunc], 8⟩),
  (155, ⟨.ifc, 1, [.val .nilIface], 16⟩),
  (157, ⟨.struct [(0, 61), (1, 62)], 2, [.lit .i8 0, .lit .u16 0], 4⟩),
  (159, ⟨.fn, 1, [.val .nilFunc], 8⟩)], gvT, mthA ++ mthB⟩
theorem tt_ok : TabOk Tryd.prog TT := Tab.chk_sound (by kernel_rfl) (by kernel_rfl) (by kernel_rfl) (by repeat' (first | exact trivial | refine ⟨fun v w => by kernel_rfl, ?_⟩))

abbrev C0 : Ctr := ctrOf []
theorem C0_ok : CtrOk Tryd.prog TT C0 := ctrOf_ok trivial

end Go.Proofs.YtagdkibmlfjggaaDoor
