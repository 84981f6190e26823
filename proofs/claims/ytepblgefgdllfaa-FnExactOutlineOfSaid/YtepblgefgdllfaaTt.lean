/- What types there are in a seat without package-level variables. No conditions. -/
import Derived.Test.YtepblgefgdllfaaSl
set_option linter.unusedSimpArgs false
set_option linter.unusedVariables false
namespace Go.Proofs.Ytepblgefgdllfaa
open Go.Sx Go.RowKit

def TT : Tab := ⟨[(2, ⟨.int .i64, 1, [.lit .i64 0], 8⟩),
  (3, ⟨.int .i64, 1, [.lit .i64 0], 8⟩),
  (4, ⟨.bool, 1, [.ff], 1⟩),
  (5, ⟨.int .u8, 1, [.lit .u8 0], 1⟩),
  (9, ⟨.str, 1, [.str ByteArray.empty], 16⟩),
  (22, ⟨.int .i8, 1, [.lit .i8 0], 1⟩),
  (23, ⟨.arr 144 5, 144, [.run [.u8] 144 (List.replicate 144 0)], 144⟩),
  (25, ⟨.struct [(0, 22), (1, 22), (2, 23)], 146, [.lit .i8 0, .lit .i8 0, .run [.u8] 144 (List.replicate 144 0)], 146⟩),
  (26, ⟨.slice 2, 1, [.val (.slice none 0 0)], 24⟩),
  (29, ⟨.struct [(0, 22), (1, 22), (2, 23)], 146, [.lit .i8 0, .lit .i8 0, .run [.u8] 144 (List.replicate 144 0)], 146⟩),
  (45, ⟨.ptr, 1, [.val (.pointer none)], 8⟩),
  (46, ⟨.arr 144 4, 144, [.run [.bool] 144 (List.replicate 144 0)], 144⟩),
  (57, ⟨.fn, 1, [.val .nilFunc], 8⟩),
  (59, ⟨.fn, 1, [.val .nilFunc], 8⟩),
  (68, ⟨.struct [(0, 29), (146, 2)], 147, [.lit .i8 0, .lit .i8 0, .run [.u8] 144 (List.replicate 144 0), .lit .i64 0], 160⟩),
  (74, ⟨.arr 2 2, 2, [.run [.i64] 2 (List.replicate 2 0)], 16⟩),
  (75, ⟨.arr 4 74, 8, [.run [.i64] 8 (List.replicate 8 0)], 64⟩),
  (77, ⟨.fn, 1, [.val .nilFunc], 8⟩),
  (78, ⟨.arr 3 77, 3, [.val .nilFunc, .val .nilFunc, .val .nilFunc], 24⟩),
  (80, ⟨.arr 16 2, 16, [.run [.i64] 16 (List.replicate 16 0)], 128⟩),
  (84, ⟨.map 5 2, 1, [.val (.map none)], 8⟩),
  (86, ⟨.slice 5, 1, [.val (.slice none 0 0)], 24⟩),
  (91, ⟨.ptr, 1, [.val (.pointer none)], 8⟩),
  (128, ⟨.fn, 1, [.val .nilFunc], 8⟩)], fun _ => none⟩
theorem tt_ok : TabOk Try.prog TT := Tab.chk_sound (by kernel_rfl) (by kernel_rfl) (by kernel_rfl)

abbrev C0 : Ctr := ctrOf []
theorem C0_ok : CtrOk Try.prog TT C0 := ctrOf_ok trivial
theorem noG {w0 : Base} : GOk TT w0 := fun g v h => by cases h

end Go.Proofs.Ytepblgefgdllfaa
