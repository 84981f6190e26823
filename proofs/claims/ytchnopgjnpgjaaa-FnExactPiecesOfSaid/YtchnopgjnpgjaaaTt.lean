/- What types there are in a seat without package-level variables. No conditions. -/
import Derived.Test.YtchnopgjnpgjaaaSl
set_option linter.unusedSimpArgs false
set_option linter.unusedVariables false
namespace Go.Proofs.Ytchnopgjnpgjaaa
open Go.Sx Go.RowKit

def gvT : Nat → Option Value := fun _ => none
def mthA : List (TypeId × String × FuncId) := [(158, "loop.example/g01322/impl.entry", 174), (160, "loop.example/g01322/impl.entry", 175), (168, "loop.example/g01322/impl.entry", 176)]
def mthB : List (TypeId × String × FuncId) := [(177, "loop.example/g01322/impl.farFrom", 177), (58, "loop.example/g01322/impl.farFrom", 172)]
def TT : Tab := ⟨[(2, ⟨.int .i64, 1, [.lit .i64 0], 8⟩),
  (3, ⟨.int .i64, 1, [.lit .i64 0], 8⟩),
  (4, ⟨.bool, 1, [.ff], 1⟩),
  (5, ⟨.int .u8, 1, [.lit .u8 0], 1⟩),
  (9, ⟨.str, 1, [.str ByteArray.empty], 16⟩),
  (20, ⟨.ifc, 1, [.val .nilIface], 16⟩),
  (22, ⟨.slice 93, 1, [.val (.slice none 0 0)], 24⟩),
  (23, ⟨.slice 97, 1, [.val (.slice none 0 0)], 24⟩),
  (27, ⟨.slice 91, 1, [.val (.slice none 0 0)], 24⟩),
  (29, ⟨.slice 95, 1, [.val (.slice none 0 0)], 24⟩),
  (34, ⟨.slice 102, 1, [.val (.slice none 0 0)], 24⟩),
  (41, ⟨.slice 2, 1, [.val (.slice none 0 0)], 24⟩),
  (50, ⟨.slice 51, 1, [.val (.slice none 0 0)], 24⟩),
  (51, ⟨.arr 3 5, 3, [.run [.u8] 3 (List.replicate 3 0)], 3⟩),
  (55, ⟨.slice 58, 1, [.val (.slice none 0 0)], 24⟩),
  (56, ⟨.slice 58, 1, [.val (.slice none 0 0)], 24⟩),
  (58, ⟨.arr 3 5, 3, [.run [.u8] 3 (List.replicate 3 0)], 3⟩),
  (62, ⟨.int .i8, 1, [.lit .i8 0], 1⟩),
  (63, ⟨.arr 144 51, 432, [.run [.u8] 432 (List.replicate 432 0)], 432⟩),
  (65, ⟨.struct [(0, 62), (1, 62), (2, 63)], 434, [.lit .i8 0, .lit .i8 0, .run [.u8] 432 (List.replicate 432 0)], 434⟩),
  (66, ⟨.arr 144 5, 144, [.run [.u8] 144 (List.replicate 144 0)], 144⟩),
  (68, ⟨.struct [(0, 62), (1, 62), (2, 66)], 146, [.lit .i8 0, .lit .i8 0, .run [.u8] 144 (List.replicate 144 0)], 146⟩),
  (71, ⟨.arr 144 58, 432, [.run [.u8] 432 (List.replicate 432 0)], 432⟩),
  (73, ⟨.struct [(0, 62), (1, 62), (2, 71)], 434, [.lit .i8 0, .lit .i8 0, .run [.u8] 432 (List.replicate 432 0)], 434⟩),
  (77, ⟨.struct [(0, 62), (1, 62), (2, 66)], 146, [.lit .i8 0, .lit .i8 0, .run [.u8] 144 (List.replicate 144 0)], 146⟩),
  (89, ⟨.int .i16, 1, [.lit .i16 0], 2⟩),
  (91, ⟨.struct [(0, 62), (1, 62), (2, 89)], 3, [.lit .i8 0, .lit .i8 0, .lit .i16 0], 4⟩),
  (93, ⟨.struct [(0, 62), (1, 62), (2, 89)], 3, [.lit .i8 0, .lit .i8 0, .lit .i16 0], 4⟩),
  (95, ⟨.struct [(0, 62), (1, 62), (2, 62), (3, 62)], 4, [.lit .i8 0, .lit .i8 0, .lit .i8 0, .lit .i8 0], 4⟩),
  (97, ⟨.struct [(0, 62), (1, 62), (2, 62), (3, 62)], 4, [.lit .i8 0, .lit .i8 0, .lit .i8 0, .lit .i8 0], 4⟩),
  (102, ⟨.arr 2 2, 2, [.run [.i64] 2 (List.replicate 2 0)], 16⟩),
  (106, ⟨.struct [(0, 41), (1, 2), (2, 2)], 3, [.val (.slice none 0 0), .lit .i64 0, .lit .i64 0], 40⟩),
  (115, ⟨.ptr, 1, [.val (.pointer none)], 8⟩),
  (120, ⟨.fn, 1, [.val .nilFunc], 8⟩),
  (121, ⟨.fn, 1, [.val .nilFunc], 8⟩),
  (125, ⟨.ptr, 1, [.val (.pointer none)], 8⟩),
  (132, ⟨.ifc, 1, [.val .nilIface], 16⟩),
  (139, ⟨.arr 144 4, 144, [.run [.bool] 144 (List.replicate 144 0)], 144⟩),
  (145, ⟨.fn, 1, [.val .nilFunc], 8⟩),
  (149, ⟨.ifc, 1, [.val .nilIface], 16⟩),
  (154, ⟨.ifc, 1, [.val .nilIface], 16⟩),
  (158, ⟨.struct [(0, 62)], 1, [.lit .i8 0], 1⟩),
  (160, ⟨.struct [(0, 62), (1, 62), (2, 62), (3, 62)], 4, [.lit .i8 0, .lit .i8 0, .lit .i8 0, .lit .i8 0], 4⟩),
  (165, ⟨.struct [(0, 3), (1, 102)], 3, [.lit .i64 0, .run [.i64] 2 (List.replicate 2 0)], 24⟩),
  (166, ⟨.arr 2 165, 6, [.lit .i64 0, .run [.i64] 2 (List.replicate 2 0), .lit .i64 0, .run [.i64] 2 (List.replicate 2 0)], 48⟩),
  (168, ⟨.struct [], 0, [], 0⟩),
  (170, ⟨.map 58 4, 1, [.val (.map none)], 8⟩),
  (177, ⟨.struct [], 0, [], 0⟩),
  (182, ⟨.int .i64, 1, [.lit .i64 0], 8⟩),
  (184, ⟨.slice 5, 1, [.val (.slice none 0 0)], 24⟩),
  (186, ⟨.arr 4 102, 8, [.run [.i64] 8 (List.replicate 8 0)], 64⟩),
  (189, ⟨.int .u64, 1, [.lit .u64 0], 8⟩),
  (190, ⟨.arr 3 2, 3, [.run [.i64] 3 (List.replicate 3 0)], 24⟩),
  (191, ⟨.arr 3 2, 3, [.run [.i64] 3 (List.replicate 3 0)], 24⟩),
  (204, ⟨.int .u64, 1, [.lit .u64 0], 8⟩),
  (229, ⟨.fn, 1, [.val .nilFunc], 8⟩)], gvT, mthA ++ mthB⟩
theorem tt_ok : TabOk Try.prog TT := Tab.chk_sound (by kernel_rfl) (by kernel_rfl) (by kernel_rfl) (by repeat' (first | exact trivial | refine ⟨fun v w => by kernel_rfl, ?_⟩))

abbrev C0 : Ctr := ctrOf []
theorem C0_ok : CtrOk Try.prog TT C0 := ctrOf_ok trivial
theorem noG {w0 : Base} : GOk TT w0 := fun g v h => by cases h

end Go.Proofs.Ytchnopgjnpgjaaa
