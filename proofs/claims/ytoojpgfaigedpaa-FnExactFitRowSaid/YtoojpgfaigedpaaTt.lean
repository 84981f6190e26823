/- What types there are in a seat without package-level variables. No conditions. -/
import Derived.Test.YtoojpgfaigedpaaSl
set_option linter.unusedSimpArgs false
set_option linter.unusedVariables false
namespace Go.Proofs.Ytoojpgfaigedpaa
open Go.Sx Go.RowKit

def TT : Tab := ⟨[(2, ⟨.int .i64, 1, [.lit .i64 0], 8⟩),
  (3, ⟨.int .i64, 1, [.lit .i64 0], 8⟩),
  (4, ⟨.bool, 1, [.ff], 1⟩),
  (5, ⟨.int .u8, 1, [.lit .u8 0], 1⟩),
  (9, ⟨.str, 1, [.str ByteArray.empty], 16⟩),
  (22, ⟨.slice 70, 1, [.val (.slice none 0 0)], 24⟩),
  (23, ⟨.slice 70, 1, [.val (.slice none 0 0)], 24⟩),
  (35, ⟨.slice 85, 1, [.val (.slice none 0 0)], 24⟩),
  (41, ⟨.slice 91, 1, [.val (.slice none 0 0)], 24⟩),
  (57, ⟨.slice 2, 1, [.val (.slice none 0 0)], 24⟩),
  (67, ⟨.fn, 1, [.val .nilFunc], 8⟩),
  (69, ⟨.fn, 1, [.val .nilFunc], 8⟩),
  (70, ⟨.int .i16, 1, [.lit .i16 0], 2⟩),
  (73, ⟨.struct [(0, 2), (1, 2), (2, 2)], 3, [.lit .i64 0, .lit .i64 0, .lit .i64 0], 24⟩),
  (85, ⟨.struct [(0, 70), (1, 70)], 2, [.lit .i16 0, .lit .i16 0], 4⟩),
  (89, ⟨.fn, 1, [.val .nilFunc], 8⟩),
  (91, ⟨.arr 2 2, 2, [.run [.i64] 2 (List.replicate 2 0)], 16⟩),
  (93, ⟨.struct [(0, 85), (2, 85), (4, 91)], 6, [.lit .i16 0, .lit .i16 0, .lit .i16 0, .lit .i16 0, .run [.i64] 2 (List.replicate 2 0)], 24⟩),
  (98, ⟨.fn, 1, [.val .nilFunc], 8⟩),
  (102, ⟨.fn, 1, [.val .nilFunc], 8⟩),
  (104, ⟨.fn, 1, [.val .nilFunc], 8⟩),
  (107, ⟨.struct [(0, 2), (1, 2), (2, 57)], 3, [.lit .i64 0, .lit .i64 0, .val (.slice none 0 0)], 40⟩),
  (115, ⟨.fn, 1, [.val .nilFunc], 8⟩)], fun _ => none⟩
theorem tt_ok : TabOk Try.prog TT := Tab.chk_sound (by kernel_rfl) (by kernel_rfl) (by kernel_rfl)

abbrev C0 : Ctr := ctrOf []
theorem C0_ok : CtrOk Try.prog TT C0 := ctrOf_ok trivial
theorem noG {w0 : Base} : GOk TT w0 := fun g v h => by cases h

end Go.Proofs.Ytoojpgfaigedpaa
