/- What types there are in a seat without package-level variables. No conditions. -/
import Derived.Test.YtagdkibmlfjggaaSl
set_option linter.unusedSimpArgs false
set_option linter.unusedVariables false
namespace Go.Proofs.Ytagdkibmlfjggaa
open Go.Sx Go.RowKit

def gvT : Nat → Option Value := fun _ => none
def TT : Tab := ⟨[(2, ⟨.int .i64, 1, [.lit .i64 0], 8⟩),
  (3, ⟨.int .i64, 1, [.lit .i64 0], 8⟩),
  (4, ⟨.bool, 1, [.ff], 1⟩),
  (5, ⟨.int .u8, 1, [.lit .u8 0], 1⟩),
  (9, ⟨.str, 1, [.str ByteArray.empty], 16⟩),
  (20, ⟨.ifc, 1, [.val .nilIface], 16⟩),
  (22, ⟨.slice 41, 1, [.val (.slice none 0 0)], 24⟩),
  (25, ⟨.slice 39, 1, [.val (.slice none 0 0)], 24⟩),
  (29, ⟨.slice 54, 1, [.val (.slice none 0 0)], 24⟩),
  (32, ⟨.slice 52, 1, [.val (.slice none 0 0)], 24⟩),
  (36, ⟨.int .i8, 1, [.lit .i8 0], 1⟩),
  (37, ⟨.int .u16, 1, [.lit .u16 0], 2⟩),
  (39, ⟨.struct [(0, 36), (1, 37)], 2, [.lit .i8 0, .lit .u16 0], 4⟩),
  (41, ⟨.struct [(0, 36), (1, 37)], 2, [.lit .i8 0, .lit .u16 0], 4⟩),
  (42, ⟨.slice 85, 1, [.val (.slice none 0 0)], 24⟩),
  (43, ⟨.slice 85, 1, [.val (.slice none 0 0)], 24⟩),
  (45, ⟨.ifc, 1, [.val .nilIface], 16⟩),
  (49, ⟨.fn, 1, [.val .nilFunc], 8⟩),
  (50, ⟨.int .i16, 1, [.lit .i16 0], 2⟩),
  (52, ⟨.struct [(0, 36), (1, 50)], 2, [.lit .i8 0, .lit .i16 0], 4⟩),
  (54, ⟨.struct [(0, 36), (1, 50)], 2, [.lit .i8 0, .lit .i16 0], 4⟩),
  (56, ⟨.struct [(0, 43), (1, 2)], 2, [.val (.slice none 0 0), .lit .i64 0], 32⟩),
  (57, ⟨.int .u16, 1, [.lit .u16 0], 2⟩),
  (58, ⟨.arr 12 52, 24, [.run [.i8, .i16] 24 (List.replicate 24 0)], 48⟩),
  (60, ⟨.struct [(0, 56), (2, 57), (3, 58)], 27, [.val (.slice none 0 0), .lit .i64 0, .lit .u16 0, .run [.i8, .i16] 24 (List.replicate 24 0)], 88⟩),
  (65, ⟨.int .u64, 1, [.lit .u64 0], 8⟩),
  (66, ⟨.slice 2, 1, [.val (.slice none 0 0)], 24⟩),
  (73, ⟨.int .i64, 1, [.lit .i64 0], 8⟩),
  (82, ⟨.struct [(0, 36), (1, 37)], 2, [.lit .i8 0, .lit .u16 0], 4⟩),
  (83, ⟨.int .i64, 1, [.lit .i64 0], 8⟩),
  (85, ⟨.struct [(0, 83), (1, 57)], 2, [.lit .i64 0, .lit .u16 0], 16⟩),
  (91, ⟨.fn, 1, [.val .nilFunc], 8⟩),
  (92, ⟨.fn, 1, [.val .nilFunc], 8⟩),
  (98, ⟨.struct [(0, 2)], 1, [.lit .i64 0], 8⟩),
  (101, ⟨.fn, 1, [.val .nilFunc], 8⟩)], gvT⟩
theorem tt_ok : TabOk Try.prog TT := Tab.chk_sound (by kernel_rfl) (by kernel_rfl) (by kernel_rfl)

abbrev C0 : Ctr := ctrOf []
theorem C0_ok : CtrOk Try.prog TT C0 := ctrOf_ok trivial
theorem noG {w0 : Base} : GOk TT w0 := fun g v h => by cases h

end Go.Proofs.Ytagdkibmlfjggaa
