/- The law of ValidImage: the result is always true. No conditions beyond the ranges of the kinds. -/
import Derived.Test.YtloibkfkdednoaaImg1
namespace Go.Proofs.Ytloibkfkdednoaa
open Go.Sx Go.RowKit

set_option maxRecDepth 100000 in
theorem law_ValidImage (w0 h0 : Int) (l0 : List Int) (r0 : RgI w0 h0 l0) : Fex true TTi (inlN true TTi (ctrOf Ei3) (lookI ILv) 3) (ctrOf Ei3) U0 Try.f14 [img w0 h0 l0] [] (fun lv _ => leL lv (.a (.c .tt))) := by
  refine Go.Sx.by_eq (q := True ∧ True ∧ True ∧ True ∧ True ∧ True ∧ Go.Proofs.Ytloibkfkdednoaa.RgI w0 h0 l0 ∧ True ∧ True ∧ True ∧ True ∧ Go.Proofs.Ytloibkfkdednoaa.RgI w0 h0 l0 ∧ True ∧ True ∧ True ∧ True ∧ ((!Go.Proofs.Ytloibkfkdednoaa.okI w0 h0 l0 == Go.Proofs.Ytloibkfkdednoaa.okI w0 h0 l0) = Bool.true → True ∧ Go.Sx.Cel.ff = Go.Sx.Cel.tt) ∧ ((!Go.Proofs.Ytloibkfkdednoaa.okI w0 h0 l0 == Go.Proofs.Ytloibkfkdednoaa.okI w0 h0 l0) = Bool.false → True ∧ True)) (by kernel_rfl) ?_
  simp [r0]

end Go.Proofs.Ytloibkfkdednoaa
