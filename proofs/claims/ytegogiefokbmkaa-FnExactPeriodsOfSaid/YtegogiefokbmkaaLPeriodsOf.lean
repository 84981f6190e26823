/- The law of PeriodsOf: the result is always true. No conditions beyond the ranges of the kinds. -/
import Derived.Test.YtegogiefokbmkaaRp7r
set_option linter.unusedSimpArgs false
set_option linter.unusedVariables false
namespace Go.Proofs.Ytegogiefokbmkaa
open Go.Sx Go.RowKit

set_option maxRecDepth 100000 in
theorem law_PeriodsOf (w0 h0 : Int) (l0 : List Int) (r0 : Rg w0 h0 l0) : Fex true TT (inlN true TT (ctrOf Erb) (lookI ILz) 3) (ctrOf Erb) U0 Try.f7 [pic w0 h0 l0] [] (fun lv _ => leL lv (.a (.c .tt))) := by
  refine Go.Sx.by_eq (q := True ∧ True ∧ True ∧ True ∧ Rg w0 h0 l0 ∧ True ∧ True ∧ True ∧ True ∧ True ∧ True ∧ True ∧ True ∧ True ∧ Rg w0 h0 l0 ∧ True ∧ True ∧ True ∧ True ∧ True ∧ True ∧ True ∧ True ∧ True ∧ True ∧ True ∧ ((peX w0 h0 l0 != peX w0 h0 l0) = Bool.false → True ∧ True ∧ True ∧ True ∧ True ∧ ((peY w0 h0 l0 != peY w0 h0 l0) = Bool.false → True ∧ True ∧ True ∧ True ∧ ((peE w0 h0 l0 != peE w0 h0 l0) = Bool.true → True ∧ Go.Sx.Cel.ff = Go.Sx.Cel.tt) ∧ ((peE w0 h0 l0 != peE w0 h0 l0) = Bool.false → True ∧ True)) ∧ ((peY w0 h0 l0 != peY w0 h0 l0) = !Bool.false → True ∧ True ∧ Go.Sx.Cel.ff = Go.Sx.Cel.tt)) ∧ ((peX w0 h0 l0 != peX w0 h0 l0) = !Bool.false → True ∧ True ∧ True ∧ True ∧ Go.Sx.Cel.ff = Go.Sx.Cel.tt)) (by kernel_rfl) ?_
  simp [r0]

end Go.Proofs.Ytegogiefokbmkaa
