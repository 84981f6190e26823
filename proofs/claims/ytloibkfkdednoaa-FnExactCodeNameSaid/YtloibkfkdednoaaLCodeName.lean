/- The law of CodeName: the result is always true. No conditions beyond the ranges of the kinds. -/
import Derived.Test.YtloibkfkdednoaaCod1
namespace Go.Proofs.Ytloibkfkdednoaa
open Go.Sx Go.RowKit

set_option maxRecDepth 100000 in
theorem law_CodeName (x0 : Int) (_ : -9223372036854775808 ≤ x0 ∧ x0 ≤ 9223372036854775807) : Fex true TTc (inlN true TTc (ctrOf ECod) (lookI ILc) 3) (ctrOf ECod) U0 Try.f5 [.a (.c (.int .i64 x0))] [] (fun lv _ => leL lv (.a (.c .tt))) := by
  refine Go.Sx.by_eq (q := True ∧ True ∧ True ∧ True ∧ True ∧ True ∧ True ∧ True ∧ True ∧ True ∧ ((!ByteArray.toList (Go.Proofs.Ytloibkfkdednoaa.nm x0) == ByteArray.toList (Go.Proofs.Ytloibkfkdednoaa.nm x0)) = Bool.true → True ∧ Go.Sx.Cel.ff = Go.Sx.Cel.tt) ∧ ((!ByteArray.toList (Go.Proofs.Ytloibkfkdednoaa.nm x0) == ByteArray.toList (Go.Proofs.Ytloibkfkdednoaa.nm x0)) = Bool.false → True ∧ True)) (by kernel_rfl) ?_
  simp

end Go.Proofs.Ytloibkfkdednoaa
