/- What types there are in a seat without package-level variables. No conditions. -/
import Derived.Test.YtegogiefokbmkaaSl
set_option linter.unusedSimpArgs false
set_option linter.unusedVariables false
namespace Go.Proofs.Ytegogiefokbmkaa
open Go.Sx Go.RowKit

def TT : Tab := ⟨[(2, ⟨.int .i64, 1, [.lit .i64 0], 8⟩),
  (3, ⟨.int .i64, 1, [.lit .i64 0], 8⟩),
  (4, ⟨.bool, 1, [.ff], 1⟩),
  (5, ⟨.int .u8, 1, [.lit .u8 0], 1⟩),
  (9, ⟨.str, 1, [.str ByteArray.empty], 16⟩),
  (22, ⟨.int .i8, 1, [.lit .i8 0], 1⟩),
  (23, ⟨.arr 144 5, 144, [.run [.u8] 144 (List.replicate 144 0)], 144⟩),
  (25, ⟨.struct [(0, 22), (1, 22), (2, 23)], 146, [.lit .i8 0, .lit .i8 0, .run [.u8] 144 (List.replicate 144 0)], 146⟩),
  (26, ⟨.slice 2, 1, [.val (.slice none 0 0)], 24⟩),
  (27, ⟨.struct [(0, 22), (1, 22), (2, 23)], 146, [.lit .i8 0, .lit .i8 0, .run [.u8] 144 (List.replicate 144 0)], 146⟩),
  (45, ⟨.arr 16 2, 16, [.run [.i64] 16 (List.replicate 16 0)], 128⟩),
  (56, ⟨.slice 5, 1, [.val (.slice none 0 0)], 24⟩),
  (65, ⟨.ptr, 1, [.val (.pointer none)], 8⟩),
  (69, ⟨.fn, 1, [.val .nilFunc], 8⟩),
  (74, ⟨.fn, 1, [.val .nilFunc], 8⟩),
  (76, ⟨.fn, 1, [.val .nilFunc], 8⟩),
  (80, ⟨.struct [(0, 27), (146, 2)], 147, [.lit .i8 0, .lit .i8 0, .run [.u8] 144 (List.replicate 144 0), .lit .i64 0], 160⟩),
  (83, ⟨.fn, 1, [.val .nilFunc], 8⟩),
  (87, ⟨.fn, 1, [.val .nilFunc], 8⟩),
  (89, ⟨.struct [(0, 2), (1, 2)], 2, [.lit .i64 0, .lit .i64 0], 16⟩),
  (93, ⟨.fn, 1, [.val .nilFunc], 8⟩),
  (95, ⟨.slice 27, 1, [.val (.slice none 0 0)], 24⟩),
  (106, ⟨.fn, 1, [.val .nilFunc], 8⟩),
  (107, ⟨.arr 3 106, 3, [.val .nilFunc, .val .nilFunc, .val .nilFunc], 24⟩),
  (117, ⟨.ptr, 1, [.val (.pointer none)], 8⟩),
  (122, ⟨.fn, 1, [.val .nilFunc], 8⟩)], fun _ => none⟩
theorem tt_ok : TabOk Try.prog TT := Tab.chk_sound (by kernel_rfl) (by kernel_rfl) (by kernel_rfl)

abbrev C0 : Ctr := ctrOf []
theorem C0_ok : CtrOk Try.prog TT C0 := ctrOf_ok trivial
theorem noG {w0 : Base} : GOk TT w0 := fun g v h => by cases h

end Go.Proofs.Ytegogiefokbmkaa
