/- The law of BrightnessOf: the result is always true. No conditions beyond the ranges of the kinds. -/
import Derived.Test.YtloibkfkdednoaaTon1
namespace Go.Proofs.Ytloibkfkdednoaa
open Go.Sx Go.RowKit

set_option maxRecDepth 100000 in
theorem law_BrightnessOf (a0 b0 c0 : Int) (r0 : TB a0 b0 c0) : Fex true TTn (inlN true TTn (ctrOf EFar) (lookI ILn) 3) (ctrOf EFar) U0 Try.f4 [ton a0 b0 c0] [] (fun lv _ => leL lv (.a (.c .tt))) := by
  refine Go.Sx.by_eq (q := True ∧ True ∧ True ∧ True ∧ Go.Proofs.Ytloibkfkdednoaa.TB a0 b0 c0 ∧ True ∧ True ∧ True ∧ Go.Proofs.Ytloibkfkdednoaa.TB a0 b0 c0 ∧ True ∧ True ∧ True ∧ True ∧ ((Go.Proofs.Ytloibkfkdednoaa.briN a0 b0 c0 != Go.Proofs.Ytloibkfkdednoaa.briN a0 b0 c0) = Bool.true → True ∧ Go.Sx.Cel.ff = Go.Sx.Cel.tt) ∧ ((Go.Proofs.Ytloibkfkdednoaa.briN a0 b0 c0 != Go.Proofs.Ytloibkfkdednoaa.briN a0 b0 c0) = Bool.false → True ∧ True)) (by kernel_rfl) ?_
  simp [r0]

end Go.Proofs.Ytloibkfkdednoaa
