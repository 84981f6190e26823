/- What types there are in a seat without package-level variables. No conditions. -/
import Derived.Test.YtifdajpbmmlijaaSl
set_option linter.unusedSimpArgs false
set_option linter.unusedVariables false
namespace Go.Proofs.Ytifdajpbmmlijaa
open Go.Sx Go.RowKit

def TT : Tab := ⟨[(2, ⟨.int .i64, 1, [.lit .i64 0], 8⟩),
  (3, ⟨.int .i64, 1, [.lit .i64 0], 8⟩),
  (4, ⟨.bool, 1, [.ff], 1⟩),
  (5, ⟨.int .u8, 1, [.lit .u8 0], 1⟩),
  (9, ⟨.str, 1, [.str ByteArray.empty], 16⟩),
  (22, ⟨.slice 2, 1, [.val (.slice none 0 0)], 24⟩),
  (28, ⟨.slice 75, 1, [.val (.slice none 0 0)], 24⟩),
  (31, ⟨.slice 73, 1, [.val (.slice none 0 0)], 24⟩),
  (39, ⟨.int .i8, 1, [.lit .i8 0], 1⟩),
  (40, ⟨.arr 3 5, 3, [.run [.u8] 3 (List.replicate 3 0)], 3⟩),
  (41, ⟨.arr 144 40, 432, [.run [.u8] 432 (List.replicate 432 0)], 432⟩),
  (43, ⟨.struct [(0, 39), (1, 39), (2, 41)], 434, [.lit .i8 0, .lit .i8 0, .run [.u8] 432 (List.replicate 432 0)], 434⟩),
  (44, ⟨.slice 40, 1, [.val (.slice none 0 0)], 24⟩),
  (46, ⟨.arr 144 5, 144, [.run [.u8] 144 (List.replicate 144 0)], 144⟩),
  (48, ⟨.struct [(0, 39), (1, 39), (2, 46)], 146, [.lit .i8 0, .lit .i8 0, .run [.u8] 144 (List.replicate 144 0)], 146⟩),
  (51, ⟨.arr 3 5, 3, [.run [.u8] 3 (List.replicate 3 0)], 3⟩),
  (52, ⟨.arr 144 51, 432, [.run [.u8] 432 (List.replicate 432 0)], 432⟩),
  (54, ⟨.struct [(0, 39), (1, 39), (2, 52)], 434, [.lit .i8 0, .lit .i8 0, .run [.u8] 432 (List.replicate 432 0)], 434⟩),
  (56, ⟨.slice 51, 1, [.val (.slice none 0 0)], 24⟩),
  (57, ⟨.slice 51, 1, [.val (.slice none 0 0)], 24⟩),
  (67, ⟨.struct [(0, 2), (1, 2), (2, 22)], 3, [.lit .i64 0, .lit .i64 0, .val (.slice none 0 0)], 40⟩),
  (71, ⟨.int .i16, 1, [.lit .i16 0], 2⟩),
  (73, ⟨.struct [(0, 39), (1, 39), (2, 71)], 3, [.lit .i8 0, .lit .i8 0, .lit .i16 0], 4⟩),
  (75, ⟨.struct [(0, 39), (1, 39), (2, 71)], 3, [.lit .i8 0, .lit .i8 0, .lit .i16 0], 4⟩),
  (81, ⟨.ptr, 1, [.val (.pointer none)], 8⟩),
  (82, ⟨.arr 3 2, 3, [.run [.i64] 3 (List.replicate 3 0)], 24⟩),
  (83, ⟨.arr 144 82, 432, [.run [.i64] 432 (List.replicate 432 0)], 3456⟩),
  (87, ⟨.arr 4 82, 12, [.run [.i64] 12 (List.replicate 12 0)], 96⟩),
  (95, ⟨.arr 3 2, 3, [.run [.i64] 3 (List.replicate 3 0)], 24⟩),
  (96, ⟨.arr 144 95, 432, [.run [.i64] 432 (List.replicate 432 0)], 3456⟩),
  (99, ⟨.fn, 1, [.val .nilFunc], 8⟩),
  (106, ⟨.struct [(0, 2), (1, 2), (2, 2)], 3, [.lit .i64 0, .lit .i64 0, .lit .i64 0], 24⟩),
  (107, ⟨.arr 4 106, 12, [.run [.i64, .i64, .i64] 12 (List.replicate 12 0)], 96⟩),
  (114, ⟨.fn, 1, [.val .nilFunc], 8⟩),
  (116, ⟨.arr 14 4, 14, [.run [.bool] 14 (List.replicate 14 0)], 14⟩),
  (120, ⟨.map 51 4, 1, [.val (.map none)], 8⟩),
  (142, ⟨.arr 2 2, 2, [.run [.i64] 2 (List.replicate 2 0)], 16⟩)], fun _ => none⟩
theorem tt_ok : TabOk Try.prog TT := Tab.chk_sound (by kernel_rfl) (by kernel_rfl) (by kernel_rfl)

abbrev C0 : Ctr := ctrOf []
theorem C0_ok : CtrOk Try.prog TT C0 := ctrOf_ok trivial
theorem noG {w0 : Base} : GOk TT w0 := fun g v h => by cases h

end Go.Proofs.Ytifdajpbmmlijaa
