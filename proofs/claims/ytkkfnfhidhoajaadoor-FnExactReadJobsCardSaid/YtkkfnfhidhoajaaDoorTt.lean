/- What types there are in a seat without package-level variables. No conditions. -/
import Derived.Test.YtkkfnfhidhoajaaDoorSl
import Derived.Lib.ItoaNum
set_option linter.unusedSimpArgs false
set_option linter.unusedVariables false
namespace Go.Proofs.YtkkfnfhidhoajaaDoor
open Go.Sx Go.RowKit
variable {mx : Nat → Value}

/-- The powers of ten. -/
def gvP : Nat → Option Value := fun g => if g = 3 then some (.int .u64 1) else none
def txT : Nat → Option (List Value) := fun g => if g = 3 then some (Lib.pow10Tab.map (Value.int .u64)) else none
/-- The number that a value is. -/
def ivl : Value → Int
  | .int _ n => n
  | _ => 0
/-- The errors of the library, and a number of which nothing else is known. -/
def gvT (mx : Nat → Value) : Nat → Option Value := fun g =>
  if g = 1 then some (.iface 134 (mx g)) else if g = 2 then some (.iface 134 (mx g)) else
  if g = 0 then some (.int .i64 (ivl (mx g))) else gvP g
def mthA : List (TypeId × String × FuncId) := []
def mthB : List (TypeId × String × FuncId) := []
def TT (mx : Nat → Value) : Tab := ⟨[(2, ⟨.int .i64, 1, [.lit .i64 0], 8⟩),
  (3, ⟨.int .i64, 1, [.lit .i64 0], 8⟩),
  (4, ⟨.bool, 1, [.ff], 1⟩),
  (5, ⟨.int .u8, 1, [.lit .u8 0], 1⟩),
  (9, ⟨.str, 1, [.str ByteArray.empty], 16⟩),
  (20, ⟨.ifc, 1, [.val .nilIface], 16⟩),
  (22, ⟨.slice 36, 1, [.val (.slice none 0 0)], 24⟩),
  (28, ⟨.slice 9, 1, [.val (.slice none 0 0)], 24⟩),
  (32, ⟨.int .i8, 1, [.lit .i8 0], 1⟩),
  (34, ⟨.int .u16, 1, [.lit .u16 0], 2⟩),
  (36, ⟨.struct [(0, 32), (1, 34)], 2, [.lit .i8 0, .lit .u16 0], 4⟩),
  (37, ⟨.int .u64, 1, [.lit .u64 0], 8⟩),
  (45, ⟨.slice 2, 1, [.val (.slice none 0 0)], 24⟩),
  (54, ⟨.ifc, 1, [.val .nilIface], 16⟩),
  (57, ⟨.int .u16, 1, [.lit .u16 0], 2⟩),
  (60, ⟨.fn, 1, [.val .nilFunc], 8⟩),
  (61, ⟨.fn, 1, [.val .nilFunc], 8⟩),
  (65, ⟨.slice 5, 1, [.val (.slice none 0 0)], 24⟩),
  (69, ⟨.slice 116, 1, [.val (.slice none 0 0)], 24⟩),
  (70, ⟨.slice 116, 1, [.val (.slice none 0 0)], 24⟩),
  (73, ⟨.fn, 1, [.val .nilFunc], 8⟩),
  (86, ⟨.int .u64, 1, [.lit .u64 0], 8⟩),
  (96, ⟨.int .i64, 1, [.lit .i64 0], 8⟩),
  (110, ⟨.ifc, 1, [.val .nilIface], 16⟩),
  (113, ⟨.struct [(0, 32), (1, 34)], 2, [.lit .i8 0, .lit .u16 0], 4⟩),
  (114, ⟨.int .i64, 1, [.lit .i64 0], 8⟩),
  (116, ⟨.struct [(0, 114), (1, 57)], 2, [.lit .i64 0, .lit .u16 0], 16⟩),
  (157, ⟨.fn, 1, [.val .nilFunc], 8⟩)], gvT mx, mthA ++ mthB, fun _ => false, txT⟩
theorem tt_ok : TabOk Tryd.prog (TT mx) := Tab.chk_sound (by kernel_rfl) (by kernel_rfl) (by kernel_rfl) (by repeat' (first | exact trivial | refine ⟨fun v w => by kernel_rfl, ?_⟩))

abbrev C0 : Ctr := ctrOf []
theorem C0_ok : CtrOk Tryd.prog (TT mx) C0 := ctrOf_ok trivial

end Go.Proofs.YtkkfnfhidhoajaaDoor
