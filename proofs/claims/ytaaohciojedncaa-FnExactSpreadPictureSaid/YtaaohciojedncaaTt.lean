/- What types there are in a seat without package-level variables. No conditions. -/
import Derived.Test.YtaaohciojedncaaSl
set_option linter.unusedSimpArgs false
set_option linter.unusedVariables false
namespace Go.Proofs.Ytaaohciojedncaa
open Go.Sx Go.RowKit

def gvP : Nat → Option Value := fun _ => none
def txT : Nat → Option (List Value) := fun _ => none
def gvT : Nat → Option Value := gvP
def mthA : List (TypeId × String × FuncId) := []
def mthB : List (TypeId × String × FuncId) := []
def TT : Tab := ⟨[(2, ⟨.int .i64, 1, [.lit .i64 0], 8⟩),
  (3, ⟨.int .i64, 1, [.lit .i64 0], 8⟩),
  (4, ⟨.bool, 1, [.ff], 1⟩),
  (5, ⟨.int .u8, 1, [.lit .u8 0], 1⟩),
  (9, ⟨.str, 1, [.str ByteArray.empty], 16⟩),
  (20, ⟨.ifc, 1, [.val .nilIface], 16⟩),
  (22, ⟨.int .i8, 1, [.lit .i8 0], 1⟩),
  (23, ⟨.arr 3 5, 3, [.run [.u8] 3 (List.replicate 3 0)], 3⟩),
  (24, ⟨.arr 144 23, 432, [.run [.u8] 432 (List.replicate 432 0)], 432⟩),
  (26, ⟨.struct [(0, 22), (1, 22), (2, 24)], 434, [.lit .i8 0, .lit .i8 0, .run [.u8] 432 (List.replicate 432 0)], 434⟩),
  (27, ⟨.slice 23, 1, [.val (.slice none 0 0)], 24⟩),
  (29, ⟨.arr 144 5, 144, [.run [.u8] 144 (List.replicate 144 0)], 144⟩),
  (31, ⟨.struct [(0, 22), (1, 22), (2, 29)], 146, [.lit .i8 0, .lit .i8 0, .run [.u8] 144 (List.replicate 144 0)], 146⟩),
  (34, ⟨.arr 3 5, 3, [.run [.u8] 3 (List.replicate 3 0)], 3⟩),
  (35, ⟨.arr 144 34, 432, [.run [.u8] 432 (List.replicate 432 0)], 432⟩),
  (37, ⟨.struct [(0, 22), (1, 22), (2, 35)], 434, [.lit .i8 0, .lit .i8 0, .run [.u8] 432 (List.replicate 432 0)], 434⟩),
  (39, ⟨.slice 34, 1, [.val (.slice none 0 0)], 24⟩),
  (40, ⟨.slice 34, 1, [.val (.slice none 0 0)], 24⟩),
  (46, ⟨.ptr, 1, [.val (.pointer none)], 8⟩),
  (47, ⟨.arr 3 2, 3, [.run [.i64] 3 (List.replicate 3 0)], 24⟩),
  (48, ⟨.arr 144 47, 432, [.run [.i64] 432 (List.replicate 432 0)], 3456⟩),
  (53, ⟨.arr 4 47, 12, [.run [.i64] 12 (List.replicate 12 0)], 96⟩),
  (55, ⟨.fn, 1, [.val .nilFunc], 8⟩),
  (61, ⟨.arr 3 2, 3, [.run [.i64] 3 (List.replicate 3 0)], 24⟩),
  (62, ⟨.arr 144 61, 432, [.run [.i64] 432 (List.replicate 432 0)], 3456⟩),
  (64, ⟨.fn, 1, [.val .nilFunc], 8⟩),
  (65, ⟨.fn, 1, [.val .nilFunc], 8⟩),
  (72, ⟨.struct [(0, 2), (1, 2), (2, 2)], 3, [.lit .i64 0, .lit .i64 0, .lit .i64 0], 24⟩),
  (73, ⟨.arr 4 72, 12, [.run [.i64, .i64, .i64] 12 (List.replicate 12 0)], 96⟩),
  (81, ⟨.fn, 1, [.val .nilFunc], 8⟩),
  (82, ⟨.map 34 4, 1, [.val (.map none)], 8⟩),
  (86, ⟨.int .u64, 1, [.lit .u64 0], 8⟩)], gvT, mthA ++ mthB, fun _ => false, txT⟩
theorem tt_ok : TabOk Try.prog TT := Tab.chk_sound (by kernel_rfl) (by kernel_rfl) (by kernel_rfl) (by repeat' (first | exact trivial | refine ⟨fun v w => by kernel_rfl, ?_⟩))

abbrev C0 : Ctr := ctrOf []
theorem C0_ok : CtrOk Try.prog TT C0 := ctrOf_ok trivial
theorem noG {w0 : Base} : GOk TT w0 := fun g v h => by cases h

end Go.Proofs.Ytaaohciojedncaa
