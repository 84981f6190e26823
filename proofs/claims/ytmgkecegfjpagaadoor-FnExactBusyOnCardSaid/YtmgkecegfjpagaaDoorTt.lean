/- What types there are in a seat without package-level variables. No conditions. -/
import Derived.Test.YtmgkecegfjpagaaDoorSl
set_option linter.unusedSimpArgs false
set_option linter.unusedVariables false
namespace Go.Proofs.YtmgkecegfjpagaaDoor
open Go.Sx Go.RowKit

/-- What the package-level variable holds: the type error's handle. -/
def gvT : Nat → Option Value := fun g => if g = 0 then some (.iface 200 (.agg #[.pointer (some ⟨9, 69, none⟩)])) else none
def TT : Tab := ⟨[(2, ⟨.int .i64, 1, [.lit .i64 0], 8⟩),
  (3, ⟨.int .i64, 1, [.lit .i64 0], 8⟩),
  (4, ⟨.bool, 1, [.ff], 1⟩),
  (5, ⟨.int .u8, 1, [.lit .u8 0], 1⟩),
  (9, ⟨.str, 1, [.str ByteArray.empty], 16⟩),
  (20, ⟨.ifc, 1, [.val .nilIface], 16⟩),
  (22, ⟨.slice 65, 1, [.val (.slice none 0 0)], 24⟩),
  (24, ⟨.slice 2, 1, [.val (.slice none 0 0)], 24⟩),
  (27, ⟨.slice 63, 1, [.val (.slice none 0 0)], 24⟩),
  (39, ⟨.slice 92, 1, [.val (.slice none 0 0)], 24⟩),
  (42, ⟨.slice 89, 1, [.val (.slice none 0 0)], 24⟩),
  (60, ⟨.int .i8, 1, [.lit .i8 0], 1⟩),
  (61, ⟨.int .u16, 1, [.lit .u16 0], 2⟩),
  (63, ⟨.struct [(0, 60), (1, 61)], 2, [.lit .i8 0, .lit .u16 0], 4⟩),
  (65, ⟨.struct [(0, 60), (1, 61)], 2, [.lit .i8 0, .lit .u16 0], 4⟩),
  (66, ⟨.slice 108, 1, [.val (.slice none 0 0)], 24⟩),
  (67, ⟨.slice 108, 1, [.val (.slice none 0 0)], 24⟩),
  (69, ⟨.ifc, 1, [.val .nilIface], 16⟩),
  (80, ⟨.int .u64, 1, [.lit .u64 0], 8⟩),
  (81, ⟨.fn, 1, [.val .nilFunc], 8⟩),
  (83, ⟨.int .u16, 1, [.lit .u16 0], 2⟩),
  (87, ⟨.int .i16, 1, [.lit .i16 0], 2⟩),
  (89, ⟨.struct [(0, 60), (1, 87)], 2, [.lit .i8 0, .lit .i16 0], 4⟩),
  (92, ⟨.struct [(0, 60), (1, 87)], 2, [.lit .i8 0, .lit .i16 0], 4⟩),
  (94, ⟨.struct [(0, 67), (1, 2)], 2, [.val (.slice none 0 0), .lit .i64 0], 32⟩),
  (95, ⟨.arr 12 89, 24, [.run [.i8, .i16] 24 (List.replicate 24 0)], 48⟩),
  (97, ⟨.struct [(0, 94), (2, 83), (3, 95)], 27, [.val (.slice none 0 0), .lit .i64 0, .lit .u16 0, .run [.i8, .i16] 24 (List.replicate 24 0)], 88⟩),
  (100, ⟨.fn, 1, [.val .nilFunc], 8⟩),
  (101, ⟨.fn, 1, [.val .nilFunc], 8⟩),
  (106, ⟨.int .i64, 1, [.lit .i64 0], 8⟩),
  (108, ⟨.struct [(0, 106), (1, 83)], 2, [.lit .i64 0, .lit .u16 0], 16⟩),
  (129, ⟨.int .i64, 1, [.lit .i64 0], 8⟩),
  (132, ⟨.ptr, 1, [.val (.pointer none)], 8⟩),
  (136, ⟨.fn, 1, [.val .nilFunc], 8⟩),
  (147, ⟨.slice 5, 1, [.val (.slice none 0 0)], 24⟩),
  (159, ⟨.fn, 1, [.val .nilFunc], 8⟩),
  (160, ⟨.fn, 1, [.val .nilFunc], 8⟩),
  (165, ⟨.struct [(0, 60), (1, 61)], 2, [.lit .i8 0, .lit .u16 0], 4⟩),
  (184, ⟨.struct [(0, 2)], 1, [.lit .i64 0], 8⟩),
  (188, ⟨.int .u64, 1, [.lit .u64 0], 8⟩),
  (197, ⟨.fn, 1, [.val .nilFunc], 8⟩)], gvT⟩
theorem tt_ok : TabOk Tryd.prog TT := Tab.chk_sound (by kernel_rfl) (by kernel_rfl) (by kernel_rfl)

abbrev C0 : Ctr := ctrOf []
theorem C0_ok : CtrOk Tryd.prog TT C0 := ctrOf_ok trivial

end Go.Proofs.YtmgkecegfjpagaaDoor
