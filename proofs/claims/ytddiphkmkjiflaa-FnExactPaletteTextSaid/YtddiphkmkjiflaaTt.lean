/- What types there are in a seat without package-level variables. No conditions. -/
import Derived.Test.YtddiphkmkjiflaaSl
set_option linter.unusedSimpArgs false
set_option linter.unusedVariables false
namespace Go.Proofs.Ytddiphkmkjiflaa
open Go.Sx Go.RowKit

def gvP : Nat → Option Value := fun _ => none
def txT : Nat → Option (List Value) := fun _ => none
def gvT : Nat → Option Value := gvP
def mthA : List (TypeId × String × FuncId) := []
def mthB : List (TypeId × String × FuncId) := []
def TT : Tab := ⟨[(2, ⟨.int .i64, 1, [.lit .i64 0], 8⟩),
  (3, ⟨.int .i64, 1, [.lit .i64 0], 8⟩),
  (4, ⟨.bool, 1, [.ff], 1⟩),
  (5, ⟨.int .u8, 1, [.lit .u8 0], 1⟩),
  (9, ⟨.str, 1, [.str ByteArray.empty], 16⟩),
  (20, ⟨.ifc, 1, [.val .nilIface], 16⟩),
  (22, ⟨.slice 31, 1, [.val (.slice none 0 0)], 24⟩),
  (25, ⟨.slice 32, 1, [.val (.slice none 0 0)], 24⟩),
  (26, ⟨.slice 32, 1, [.val (.slice none 0 0)], 24⟩),
  (31, ⟨.arr 3 5, 3, [.run [.u8] 3 (List.replicate 3 0)], 3⟩),
  (32, ⟨.arr 3 5, 3, [.run [.u8] 3 (List.replicate 3 0)], 3⟩),
  (34, ⟨.slice 9, 1, [.val (.slice none 0 0)], 24⟩),
  (38, ⟨.map 32 4, 1, [.val (.map none)], 8⟩),
  (39, ⟨.slice 5, 1, [.val (.slice none 0 0)], 24⟩),
  (45, ⟨.ifc, 1, [.val .nilIface], 16⟩),
  (70, ⟨.fn, 1, [.val .nilFunc], 8⟩),
  (71, ⟨.fn, 1, [.val .nilFunc], 8⟩),
  (72, ⟨.fn, 1, [.val .nilFunc], 8⟩)], gvT, mthA ++ mthB, fun _ => false, txT⟩
theorem tt_ok : TabOk Try.prog TT := Tab.chk_sound (by kernel_rfl) (by kernel_rfl) (by kernel_rfl) (by repeat' (first | exact trivial | refine ⟨fun v w => by kernel_rfl, ?_⟩))

abbrev C0 : Ctr := ctrOf []
theorem C0_ok : CtrOk Try.prog TT C0 := ctrOf_ok trivial
theorem noG {w0 : Base} : GOk TT w0 := fun g v h => by cases h

end Go.Proofs.Ytddiphkmkjiflaa
