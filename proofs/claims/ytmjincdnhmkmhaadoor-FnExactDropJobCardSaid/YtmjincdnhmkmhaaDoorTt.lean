/- What types there are in a seat without package-level variables. No conditions. -/
import Derived.Test.YtmjincdnhmkmhaaDoorSl
set_option linter.unusedSimpArgs false
set_option linter.unusedVariables false
namespace Go.Proofs.YtmjincdnhmkmhaaDoor
open Go.Sx Go.RowKit

/-- What the package-level variable holds: the type error's handle. -/
def gvT : Nat → Option Value := fun g => if g = 0 then some (.iface 93 (.agg #[.pointer (some ⟨1, 43, none⟩)])) else none
def gvP : Nat → Option Value := fun _ => none
def txT : Nat → Option (List Value) := fun _ => none
def mthA : List (TypeId × String × FuncId) := []
def mthB : List (TypeId × String × FuncId) := []
def TT : Tab := ⟨[(2, ⟨.int .i64, 1, [.lit .i64 0], 8⟩),
  (3, ⟨.int .i64, 1, [.lit .i64 0], 8⟩),
  (4, ⟨.bool, 1, [.ff], 1⟩),
  (5, ⟨.int .u8, 1, [.lit .u8 0], 1⟩),
  (9, ⟨.str, 1, [.str ByteArray.empty], 16⟩),
  (20, ⟨.ifc, 1, [.val .nilIface], 16⟩),
  (22, ⟨.slice 39, 1, [.val (.slice none 0 0)], 24⟩),
  (24, ⟨.slice 35, 1, [.val (.slice none 0 0)], 24⟩),
  (32, ⟨.int .i8, 1, [.lit .i8 0], 1⟩),
  (33, ⟨.int .u16, 1, [.lit .u16 0], 2⟩),
  (35, ⟨.struct [(0, 32), (1, 33)], 2, [.lit .i8 0, .lit .u16 0], 4⟩),
  (37, ⟨.int .u64, 1, [.lit .u64 0], 8⟩),
  (39, ⟨.struct [(0, 32), (1, 33)], 2, [.lit .i8 0, .lit .u16 0], 4⟩),
  (40, ⟨.slice 53, 1, [.val (.slice none 0 0)], 24⟩),
  (41, ⟨.slice 53, 1, [.val (.slice none 0 0)], 24⟩),
  (43, ⟨.ifc, 1, [.val .nilIface], 16⟩),
  (47, ⟨.fn, 1, [.val .nilFunc], 8⟩),
  (50, ⟨.int .u16, 1, [.lit .u16 0], 2⟩),
  (51, ⟨.int .i64, 1, [.lit .i64 0], 8⟩),
  (53, ⟨.struct [(0, 51), (1, 50)], 2, [.lit .i64 0, .lit .u16 0], 16⟩),
  (62, ⟨.int .i64, 1, [.lit .i64 0], 8⟩),
  (64, ⟨.ptr, 1, [.val (.pointer none)], 8⟩),
  (65, ⟨.slice 2, 1, [.val (.slice none 0 0)], 24⟩),
  (69, ⟨.ifc, 1, [.val .nilIface], 16⟩),
  (72, ⟨.struct [(0, 32), (1, 33)], 2, [.lit .i8 0, .lit .u16 0], 4⟩),
  (88, ⟨.fn, 1, [.val .nilFunc], 8⟩),
  (89, ⟨.fn, 1, [.val .nilFunc], 8⟩),
  (125, ⟨.fn, 1, [.val .nilFunc], 8⟩)], gvT, mthA ++ mthB, fun _ => false, txT⟩
theorem tt_ok : TabOk Tryd.prog TT := Tab.chk_sound (by kernel_rfl) (by kernel_rfl) (by kernel_rfl) (by repeat' (first | exact trivial | refine ⟨fun v w => by kernel_rfl, ?_⟩))

abbrev C0 : Ctr := ctrOf []
theorem C0_ok : CtrOk Tryd.prog TT C0 := ctrOf_ok trivial

end Go.Proofs.YtmjincdnhmkmhaaDoor
