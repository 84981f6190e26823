/- What types there are in a seat without package-level variables. No conditions. -/
import Derived.Test.YtiejbcknkacdaaaSl
set_option linter.unusedSimpArgs false
set_option linter.unusedVariables false
namespace Go.Proofs.Ytiejbcknkacdaaa
open Go.Sx Go.RowKit

def TT : Tab := ⟨[(2, ⟨.int .i64, 1, [.lit .i64 0], 8⟩),
  (3, ⟨.int .i64, 1, [.lit .i64 0], 8⟩),
  (4, ⟨.bool, 1, [.ff], 1⟩),
  (5, ⟨.int .u8, 1, [.lit .u8 0], 1⟩),
  (9, ⟨.str, 1, [.str ByteArray.empty], 16⟩),
  (22, ⟨.int .i8, 1, [.lit .i8 0], 1⟩),
  (23, ⟨.arr 144 5, 144, [.run [.u8] 144 (List.replicate 144 0)], 144⟩),
  (25, ⟨.struct [(0, 22), (1, 22), (2, 23)], 146, [.lit .i8 0, .lit .i8 0, .run [.u8] 144 (List.replicate 144 0)], 146⟩),
  (26, ⟨.slice 2, 1, [.val (.slice none 0 0)], 24⟩),
  (29, ⟨.struct [(0, 22), (1, 22), (2, 23)], 146, [.lit .i8 0, .lit .i8 0, .run [.u8] 144 (List.replicate 144 0)], 146⟩),
  (42, ⟨.slice 51, 1, [.val (.slice none 0 0)], 24⟩),
  (45, ⟨.slice 54, 1, [.val (.slice none 0 0)], 24⟩),
  (46, ⟨.slice 54, 1, [.val (.slice none 0 0)], 24⟩),
  (51, ⟨.arr 3 5, 3, [.run [.u8] 3 (List.replicate 3 0)], 3⟩),
  (54, ⟨.arr 3 5, 3, [.run [.u8] 3 (List.replicate 3 0)], 3⟩),
  (57, ⟨.arr 144 51, 432, [.run [.u8] 432 (List.replicate 432 0)], 432⟩),
  (59, ⟨.struct [(0, 22), (1, 22), (2, 57)], 434, [.lit .i8 0, .lit .i8 0, .run [.u8] 432 (List.replicate 432 0)], 434⟩),
  (61, ⟨.arr 144 54, 432, [.run [.u8] 432 (List.replicate 432 0)], 432⟩),
  (63, ⟨.struct [(0, 22), (1, 22), (2, 61)], 434, [.lit .i8 0, .lit .i8 0, .run [.u8] 432 (List.replicate 432 0)], 434⟩),
  (81, ⟨.ptr, 1, [.val (.pointer none)], 8⟩),
  (85, ⟨.fn, 1, [.val .nilFunc], 8⟩),
  (88, ⟨.arr 144 4, 144, [.run [.bool] 144 (List.replicate 144 0)], 144⟩),
  (97, ⟨.fn, 1, [.val .nilFunc], 8⟩),
  (99, ⟨.map 54 4, 1, [.val (.map none)], 8⟩),
  (103, ⟨.ptr, 1, [.val (.pointer none)], 8⟩),
  (122, ⟨.arr 16 2, 16, [.run [.i64] 16 (List.replicate 16 0)], 128⟩),
  (128, ⟨.arr 2 2, 2, [.run [.i64] 2 (List.replicate 2 0)], 16⟩),
  (129, ⟨.arr 4 128, 8, [.run [.i64] 8 (List.replicate 8 0)], 64⟩),
  (135, ⟨.arr 3 2, 3, [.run [.i64] 3 (List.replicate 3 0)], 24⟩),
  (136, ⟨.arr 3 2, 3, [.run [.i64] 3 (List.replicate 3 0)], 24⟩),
  (137, ⟨.slice 5, 1, [.val (.slice none 0 0)], 24⟩)], fun _ => none⟩
theorem tt_ok : TabOk Try.prog TT := Tab.chk_sound (by kernel_rfl) (by kernel_rfl) (by kernel_rfl)

abbrev C0 : Ctr := ctrOf []
theorem C0_ok : CtrOk Try.prog TT C0 := ctrOf_ok trivial
theorem noG {w0 : Base} : GOk TT w0 := fun g v h => by cases h

end Go.Proofs.Ytiejbcknkacdaaa
