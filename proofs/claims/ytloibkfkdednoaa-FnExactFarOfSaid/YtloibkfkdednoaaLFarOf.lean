/- The law of FarOf: the result is always true. No conditions beyond the ranges of the kinds. -/
import Derived.Test.YtloibkfkdednoaaTon1
namespace Go.Proofs.Ytloibkfkdednoaa
open Go.Sx Go.RowKit

set_option maxRecDepth 100000 in
theorem law_FarOf (a0 b0 c0 : Int) (r0 : TB a0 b0 c0) (a1 b1 c1 : Int) (r1 : TB a1 b1 c1) : Fex true TTn (inlN true TTn (ctrOf EFar) (lookI ILn) 3) (ctrOf EFar) U0 Try.f3 [ton a0 b0 c0, ton a1 b1 c1] [] (fun lv _ => leL lv (.a (.c .tt))) := by
  refine Go.Sx.by_eq (q := True ∧ True ∧ True ∧ True ∧ True ∧ True ∧ True ∧ (Go.Proofs.Ytloibkfkdednoaa.TB a0 b0 c0 ∧ Go.Proofs.Ytloibkfkdednoaa.TB a1 b1 c1) ∧ True ∧ True ∧ True ∧ True ∧ True ∧ (Go.Proofs.Ytloibkfkdednoaa.TB a0 b0 c0 ∧ Go.Proofs.Ytloibkfkdednoaa.TB a1 b1 c1) ∧ True ∧ True ∧ True ∧ True ∧ ((Go.Proofs.Ytloibkfkdednoaa.farN a0 b0 c0 a1 b1 c1 != Go.Proofs.Ytloibkfkdednoaa.farN a0 b0 c0 a1 b1 c1) = Bool.true → True ∧ Go.Sx.Cel.ff = Go.Sx.Cel.tt) ∧ ((Go.Proofs.Ytloibkfkdednoaa.farN a0 b0 c0 a1 b1 c1 != Go.Proofs.Ytloibkfkdednoaa.farN a0 b0 c0 a1 b1 c1) = Bool.false → True ∧ True)) (by kernel_rfl) ?_
  simp [r0, r1]

end Go.Proofs.Ytloibkfkdednoaa
