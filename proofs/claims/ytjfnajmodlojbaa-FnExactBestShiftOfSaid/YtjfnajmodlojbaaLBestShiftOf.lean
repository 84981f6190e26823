/- The law of BestShiftOf: the result is always true. No conditions beyond the ranges of the kinds. -/
import Derived.Test.YtjfnajmodlojbaaRp14
set_option linter.unusedSimpArgs false
set_option linter.unusedVariables false
namespace Go.Proofs.Ytjfnajmodlojbaa
open Go.Sx Go.RowKit

set_option maxRecDepth 100000 in
theorem law_BestShiftOf (w0 h0 : Int) (l0 : List Int) (r0 : Rg w0 h0 l0) (w1 h1 : Int) (l1 : List Int) (r1 : Rg w1 h1 l1) : Fex true TT (inlN true TT (ctrOf Ebs) (lookI ILz) 3) (ctrOf Ebs) U0 Try.f4 [pic w0 h0 l0, pic w1 h1 l1] [] (fun lv _ => leL lv (.a (.c .tt))) := by
  refine Go.Sx.by_eq (q := True ∧ True ∧ True ∧ True ∧ True ∧ True ∧ True ∧ (Rg w0 h0 l0 ∧ Rg w1 h1 l1) ∧ True ∧ True ∧ True ∧ True ∧ True ∧ True ∧ True ∧ True ∧ True ∧ True ∧ True ∧ True ∧ True ∧ (Rg w0 h0 l0 ∧ Rg w1 h1 l1) ∧ True ∧ True ∧ True ∧ True ∧ True ∧ True ∧ True ∧ True ∧ True ∧ True ∧ True ∧ True ∧ True ∧ ((bsX w0 h0 l0 w1 h1 l1 != bsX w0 h0 l0 w1 h1 l1) = Bool.false → True ∧ True ∧ True ∧ True ∧ True ∧ ((bsY w0 h0 l0 w1 h1 l1 != bsY w0 h0 l0 w1 h1 l1) = Bool.false → True ∧ True ∧ True ∧ True ∧ True ∧ ((bsN w0 h0 l0 w1 h1 l1 != bsN w0 h0 l0 w1 h1 l1) = Bool.false → True ∧ True ∧ True ∧ True ∧ ((bsE w0 h0 l0 w1 h1 l1 != bsE w0 h0 l0 w1 h1 l1) = Bool.true → True ∧ Go.Sx.Cel.ff = Go.Sx.Cel.tt) ∧ ((bsE w0 h0 l0 w1 h1 l1 != bsE w0 h0 l0 w1 h1 l1) = Bool.false → True ∧ True)) ∧ ((bsN w0 h0 l0 w1 h1 l1 != bsN w0 h0 l0 w1 h1 l1) = !Bool.false → True ∧ True ∧ Go.Sx.Cel.ff = Go.Sx.Cel.tt)) ∧ ((bsY w0 h0 l0 w1 h1 l1 != bsY w0 h0 l0 w1 h1 l1) = !Bool.false → True ∧ True ∧ True ∧ True ∧ Go.Sx.Cel.ff = Go.Sx.Cel.tt)) ∧ ((bsX w0 h0 l0 w1 h1 l1 != bsX w0 h0 l0 w1 h1 l1) = !Bool.false → True ∧ True ∧ True ∧ True ∧ True ∧ True ∧ Go.Sx.Cel.ff = Go.Sx.Cel.tt)) (by kernel_rfl) ?_
  simp [r0, r1]

end Go.Proofs.Ytjfnajmodlojbaa
