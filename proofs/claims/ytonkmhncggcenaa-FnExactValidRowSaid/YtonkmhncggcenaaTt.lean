/- What types there are in a seat without package-level variables. No conditions. -/
import Derived.Test.YtonkmhncggcenaaSl
set_option linter.unusedSimpArgs false
set_option linter.unusedVariables false
namespace Go.Proofs.Ytonkmhncggcenaa
open Go.Sx Go.RowKit

def TT : Tab := ⟨[(2, ⟨.int .i64, 1, [.lit .i64 0], 8⟩),
  (3, ⟨.int .i64, 1, [.lit .i64 0], 8⟩),
  (4, ⟨.bool, 1, [.ff], 1⟩),
  (5, ⟨.int .u8, 1, [.lit .u8 0], 1⟩),
  (9, ⟨.str, 1, [.str ByteArray.empty], 16⟩),
  (22, ⟨.slice 65, 1, [.val (.slice none 0 0)], 24⟩),
  (24, ⟨.slice 65, 1, [.val (.slice none 0 0)], 24⟩),
  (32, ⟨.slice 75, 1, [.val (.slice none 0 0)], 24⟩),
  (48, ⟨.slice 97, 1, [.val (.slice none 0 0)], 24⟩),
  (65, ⟨.int .i16, 1, [.lit .i16 0], 2⟩),
  (75, ⟨.struct [(0, 65), (1, 65)], 2, [.lit .i16 0, .lit .i16 0], 4⟩),
  (83, ⟨.fn, 1, [.val .nilFunc], 8⟩),
  (89, ⟨.fn, 1, [.val .nilFunc], 8⟩),
  (95, ⟨.fn, 1, [.val .nilFunc], 8⟩),
  (97, ⟨.arr 2 2, 2, [.run [.i64] 2 (List.replicate 2 0)], 16⟩),
  (99, ⟨.struct [(0, 75), (2, 75), (4, 97)], 6, [.lit .i16 0, .lit .i16 0, .lit .i16 0, .lit .i16 0, .run [.i64] 2 (List.replicate 2 0)], 24⟩),
  (108, ⟨.struct [(0, 2), (1, 2), (2, 2)], 3, [.lit .i64 0, .lit .i64 0, .lit .i64 0], 24⟩),
  (113, ⟨.slice 2, 1, [.val (.slice none 0 0)], 24⟩)], fun _ => none⟩
theorem tt_ok : TabOk Try.prog TT := Tab.chk_sound (by kernel_rfl) (by kernel_rfl) (by kernel_rfl)

abbrev C0 : Ctr := ctrOf []
theorem C0_ok : CtrOk Try.prog TT C0 := ctrOf_ok trivial
theorem noG {w0 : Base} : GOk TT w0 := fun g v h => by cases h

end Go.Proofs.Ytonkmhncggcenaa
