/- What types there are in a seat without package-level variables. No conditions. -/
import Derived.Test.YtcmpiefbglnpkaaSl
set_option linter.unusedSimpArgs false
set_option linter.unusedVariables false
namespace Go.Proofs.Ytcmpiefbglnpkaa
open Go.Sx Go.RowKit

def TT : Tab := ⟨[(2, ⟨.int .i64, 1, [.lit .i64 0], 8⟩),
  (3, ⟨.int .i64, 1, [.lit .i64 0], 8⟩),
  (4, ⟨.bool, 1, [.ff], 1⟩),
  (5, ⟨.int .u8, 1, [.lit .u8 0], 1⟩),
  (9, ⟨.str, 1, [.str ByteArray.empty], 16⟩),
  (22, ⟨.int .i8, 1, [.lit .i8 0], 1⟩),
  (23, ⟨.arr 144 5, 144, [.run [.u8] 144 (List.replicate 144 0)], 144⟩),
  (25, ⟨.struct [(0, 22), (1, 22), (2, 23)], 146, [.lit .i8 0, .lit .i8 0, .run [.u8] 144 (List.replicate 144 0)], 146⟩),
  (26, ⟨.slice 2, 1, [.val (.slice none 0 0)], 24⟩),
  (29, ⟨.struct [(0, 22), (1, 22), (2, 23)], 146, [.lit .i8 0, .lit .i8 0, .run [.u8] 144 (List.replicate 144 0)], 146⟩),
  (34, ⟨.arr 3 5, 3, [.run [.u8] 3 (List.replicate 3 0)], 3⟩),
  (35, ⟨.arr 144 34, 432, [.run [.u8] 432 (List.replicate 432 0)], 432⟩),
  (37, ⟨.struct [(0, 22), (1, 22), (2, 35)], 434, [.lit .i8 0, .lit .i8 0, .run [.u8] 432 (List.replicate 432 0)], 434⟩),
  (38, ⟨.slice 34, 1, [.val (.slice none 0 0)], 24⟩),
  (42, ⟨.arr 3 5, 3, [.run [.u8] 3 (List.replicate 3 0)], 3⟩),
  (43, ⟨.arr 144 42, 432, [.run [.u8] 432 (List.replicate 432 0)], 432⟩),
  (45, ⟨.struct [(0, 22), (1, 22), (2, 43)], 434, [.lit .i8 0, .lit .i8 0, .run [.u8] 432 (List.replicate 432 0)], 434⟩),
  (47, ⟨.slice 42, 1, [.val (.slice none 0 0)], 24⟩),
  (48, ⟨.slice 42, 1, [.val (.slice none 0 0)], 24⟩),
  (78, ⟨.ptr, 1, [.val (.pointer none)], 8⟩),
  (82, ⟨.fn, 1, [.val .nilFunc], 8⟩),
  (85, ⟨.ptr, 1, [.val (.pointer none)], 8⟩),
  (96, ⟨.arr 16 2, 16, [.run [.i64] 16 (List.replicate 16 0)], 128⟩),
  (103, ⟨.fn, 1, [.val .nilFunc], 8⟩),
  (104, ⟨.arr 3 2, 3, [.run [.i64] 3 (List.replicate 3 0)], 24⟩),
  (105, ⟨.arr 144 104, 432, [.run [.i64] 432 (List.replicate 432 0)], 3456⟩),
  (107, ⟨.arr 4 104, 12, [.run [.i64] 12 (List.replicate 12 0)], 96⟩),
  (109, ⟨.arr 3 2, 3, [.run [.i64] 3 (List.replicate 3 0)], 24⟩),
  (110, ⟨.arr 144 109, 432, [.run [.i64] 432 (List.replicate 432 0)], 3456⟩),
  (116, ⟨.struct [(0, 2), (1, 2), (2, 2)], 3, [.lit .i64 0, .lit .i64 0, .lit .i64 0], 24⟩),
  (117, ⟨.arr 4 116, 12, [.run [.i64, .i64, .i64] 12 (List.replicate 12 0)], 96⟩),
  (131, ⟨.arr 144 4, 144, [.run [.bool] 144 (List.replicate 144 0)], 144⟩),
  (147, ⟨.map 42 4, 1, [.val (.map none)], 8⟩),
  (154, ⟨.arr 2 2, 2, [.run [.i64] 2 (List.replicate 2 0)], 16⟩),
  (155, ⟨.arr 4 154, 8, [.run [.i64] 8 (List.replicate 8 0)], 64⟩),
  (156, ⟨.slice 5, 1, [.val (.slice none 0 0)], 24⟩),
  (161, ⟨.fn, 1, [.val .nilFunc], 8⟩)], fun _ => none⟩
theorem tt_ok : TabOk Try.prog TT := Tab.chk_sound (by kernel_rfl) (by kernel_rfl) (by kernel_rfl)

abbrev C0 : Ctr := ctrOf []
theorem C0_ok : CtrOk Try.prog TT C0 := ctrOf_ok trivial
theorem noG {w0 : Base} : GOk TT w0 := fun g v h => by cases h

end Go.Proofs.Ytcmpiefbglnpkaa
