/- Texts that are parted at a byte: the document's function and strings.SplitN as contracts. No conditions beyond the ranges of the kinds. -/
import Derived.Test.YtghphlgfgblbeaaDoorWds
import Derived.Test.YtghphlgfgblbeaaDoorGqs
import Derived.Shelf.Strings.Split
import Derived.Shelf.LaysM
set_option linter.unusedSimpArgs false
set_option linter.unusedVariables false
namespace Go.Proofs.YtghphlgfgblbeaaDoor
open Go.Sx Go.RowKit

theorem ext_bsl (s : ByteArray) (a b : Nat) : s.extract a b = bsl ((s.data.toList.take b).drop a) := by
  have h : (s.extract a b).data.toList = (s.data.toList.take b).drop a := by
    rw [Lib.extract_data]
    simp [List.drop_take]
  rw [← bsl_of (s.extract a b), h]
theorem size_list (s : ByteArray) : s.data.toList.length = s.size := Array.length_toList
theorem byteAt_get (s : ByteArray) {k : Nat} (h : k < s.data.toList.length) : byteAt s (k : Int) = ((s.data.toList[k]'h).toNat : Int) := by
  unfold byteAt
  rw [Int.toNat_natCast, List.getD_eq_getElem?_getD, List.getElem?_eq_getElem h]; rfl
theorem take_snoc {l : List UInt8} {k : Nat} (h : k < l.length) : l.take (k + 1) = l.take k ++ [l[k]'h] := by
  rw [List.take_add_one, List.getElem?_eq_getElem h]; rfl
theorem encW_snoc (D : List (List UInt8)) (w : List UInt8) : encW (D ++ [w]) = encW D ++ [encS (bsl w)] := by simp [encW]



end Go.Proofs.YtghphlgfgblbeaaDoor
