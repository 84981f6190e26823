/- What types there are in a seat without package-level variables. No conditions. -/
import Derived.Test.YtkajcofpdlicaaaSl
set_option linter.unusedSimpArgs false
set_option linter.unusedVariables false
namespace Go.Proofs.Ytkajcofpdlicaaa
open Go.Sx Go.RowKit

def gvT : Nat → Option Value := fun _ => none
def mthA : List (TypeId × String × FuncId) := []
def mthB : List (TypeId × String × FuncId) := [(213, "loop.example/g01322/impl.farFrom", 228), (48, "loop.example/g01322/impl.farFrom", 226)]
def TT : Tab := ⟨[(2, ⟨.int .i64, 1, [.lit .i64 0], 8⟩),
  (3, ⟨.int .i64, 1, [.lit .i64 0], 8⟩),
  (4, ⟨.bool, 1, [.ff], 1⟩),
  (5, ⟨.int .u8, 1, [.lit .u8 0], 1⟩),
  (9, ⟨.str, 1, [.str ByteArray.empty], 16⟩),
  (20, ⟨.ifc, 1, [.val .nilIface], 16⟩),
  (22, ⟨.int .i8, 1, [.lit .i8 0], 1⟩),
  (23, ⟨.arr 144 5, 144, [.run [.u8] 144 (List.replicate 144 0)], 144⟩),
  (25, ⟨.struct [(0, 22), (1, 22), (2, 23)], 146, [.lit .i8 0, .lit .i8 0, .run [.u8] 144 (List.replicate 144 0)], 146⟩),
  (26, ⟨.slice 2, 1, [.val (.slice none 0 0)], 24⟩),
  (29, ⟨.struct [(0, 22), (1, 22), (2, 23)], 146, [.lit .i8 0, .lit .i8 0, .run [.u8] 144 (List.replicate 144 0)], 146⟩),
  (34, ⟨.slice 26, 1, [.val (.slice none 0 0)], 24⟩),
  (40, ⟨.arr 3 5, 3, [.run [.u8] 3 (List.replicate 3 0)], 3⟩),
  (41, ⟨.arr 144 40, 432, [.run [.u8] 432 (List.replicate 432 0)], 432⟩),
  (43, ⟨.struct [(0, 22), (1, 22), (2, 41)], 434, [.lit .i8 0, .lit .i8 0, .run [.u8] 432 (List.replicate 432 0)], 434⟩),
  (44, ⟨.slice 40, 1, [.val (.slice none 0 0)], 24⟩),
  (48, ⟨.arr 3 5, 3, [.run [.u8] 3 (List.replicate 3 0)], 3⟩),
  (49, ⟨.arr 144 48, 432, [.run [.u8] 432 (List.replicate 432 0)], 432⟩),
  (51, ⟨.struct [(0, 22), (1, 22), (2, 49)], 434, [.lit .i8 0, .lit .i8 0, .run [.u8] 432 (List.replicate 432 0)], 434⟩),
  (53, ⟨.slice 48, 1, [.val (.slice none 0 0)], 24⟩),
  (54, ⟨.slice 48, 1, [.val (.slice none 0 0)], 24⟩),
  (71, ⟨.slice 169, 1, [.val (.slice none 0 0)], 24⟩),
  (72, ⟨.slice 176, 1, [.val (.slice none 0 0)], 24⟩),
  (75, ⟨.slice 169, 1, [.val (.slice none 0 0)], 24⟩),
  (85, ⟨.slice 75, 1, [.val (.slice none 0 0)], 24⟩),
  (91, ⟨.slice 71, 1, [.val (.slice none 0 0)], 24⟩),
  (96, ⟨.slice 25, 1, [.val (.slice none 0 0)], 24⟩),
  (100, ⟨.slice 29, 1, [.val (.slice none 0 0)], 24⟩),
  (105, ⟨.ptr, 1, [.val (.pointer none)], 8⟩),
  (106, ⟨.arr 144 4, 144, [.run [.bool] 144 (List.replicate 144 0)], 144⟩),
  (122, ⟨.ptr, 1, [.val (.pointer none)], 8⟩),
  (128, ⟨.fn, 1, [.val .nilFunc], 8⟩),
  (129, ⟨.fn, 1, [.val .nilFunc], 8⟩),
  (138, ⟨.ifc, 1, [.val .nilIface], 16⟩),
  (141, ⟨.arr 3 2, 3, [.run [.i64] 3 (List.replicate 3 0)], 24⟩),
  (142, ⟨.arr 144 141, 432, [.run [.i64] 432 (List.replicate 432 0)], 3456⟩),
  (145, ⟨.arr 4 141, 12, [.run [.i64] 12 (List.replicate 12 0)], 96⟩),
  (147, ⟨.fn, 1, [.val .nilFunc], 8⟩),
  (148, ⟨.arr 3 2, 3, [.run [.i64] 3 (List.replicate 3 0)], 24⟩),
  (149, ⟨.arr 144 148, 432, [.run [.i64] 432 (List.replicate 432 0)], 3456⟩),
  (155, ⟨.struct [(0, 2), (1, 2), (2, 2)], 3, [.lit .i64 0, .lit .i64 0, .lit .i64 0], 24⟩),
  (156, ⟨.arr 4 155, 12, [.run [.i64, .i64, .i64] 12 (List.replicate 12 0)], 96⟩),
  (161, ⟨.struct [(0, 2), (1, 2), (2, 26)], 3, [.lit .i64 0, .lit .i64 0, .val (.slice none 0 0)], 40⟩),
  (167, ⟨.fn, 1, [.val .nilFunc], 8⟩),
  (169, ⟨.int .i16, 1, [.lit .i16 0], 2⟩),
  (170, ⟨.fn, 1, [.val .nilFunc], 8⟩),
  (172, ⟨.fn, 1, [.val .nilFunc], 8⟩),
  (175, ⟨.struct [(0, 169), (1, 169)], 2, [.lit .i16 0, .lit .i16 0], 4⟩),
  (176, ⟨.arr 2 2, 2, [.run [.i64] 2 (List.replicate 2 0)], 16⟩),
  (178, ⟨.struct [(0, 175), (2, 175), (4, 176)], 6, [.lit .i16 0, .lit .i16 0, .lit .i16 0, .lit .i16 0, .run [.i64] 2 (List.replicate 2 0)], 24⟩),
  (183, ⟨.struct [(0, 2), (1, 2), (2, 2)], 3, [.lit .i64 0, .lit .i64 0, .lit .i64 0], 24⟩),
  (194, ⟨.struct [(0, 2), (1, 2)], 2, [.lit .i64 0, .lit .i64 0], 16⟩),
  (195, ⟨.fn, 1, [.val .nilFunc], 8⟩),
  (210, ⟨.map 48 4, 1, [.val (.map none)], 8⟩),
  (213, ⟨.struct [], 0, [], 0⟩),
  (216, ⟨.int .u64, 1, [.lit .u64 0], 8⟩),
  (220, ⟨.slice 175, 1, [.val (.slice none 0 0)], 24⟩),
  (223, ⟨.fn, 1, [.val .nilFunc], 8⟩),
  (226, ⟨.fn, 1, [.val .nilFunc], 8⟩),
  (228, ⟨.slice 5, 1, [.val (.slice none 0 0)], 24⟩),
  (230, ⟨.arr 4 176, 8, [.run [.i64] 8 (List.replicate 8 0)], 64⟩),
  (235, ⟨.arr 14 4, 14, [.run [.bool] 14 (List.replicate 14 0)], 14⟩),
  (237, ⟨.fn, 1, [.val .nilFunc], 8⟩),
  (249, ⟨.int .u64, 1, [.lit .u64 0], 8⟩),
  (251, ⟨.fn, 1, [.val .nilFunc], 8⟩)], gvT, mthA ++ mthB⟩
theorem tt_ok : TabOk Try.prog TT := Tab.chk_sound (by kernel_rfl) (by kernel_rfl) (by kernel_rfl) (by repeat' (first | exact trivial | refine ⟨fun v w => by kernel_rfl, ?_⟩))

abbrev C0 : Ctr := ctrOf []
theorem C0_ok : CtrOk Try.prog TT C0 := ctrOf_ok trivial
theorem noG {w0 : Base} : GOk TT w0 := fun g v h => by cases h

end Go.Proofs.Ytkajcofpdlicaaa
