/- The law of BestKind: the result is always true. No conditions beyond the ranges of the kinds. -/
import Derived.Test.YtegogiefokbmkaaRp15
set_option linter.unusedSimpArgs false
set_option linter.unusedVariables false
namespace Go.Proofs.Ytegogiefokbmkaa
open Go.Sx Go.RowKit

set_option maxRecDepth 100000 in
theorem law_BestKind (w0 h0 : Int) (l0 : List Int) (r0 : Rg w0 h0 l0) : Fex true TT (inlN true TT (ctrOf Ebk) (lookI ILz) 3) (ctrOf Ebk) U0 Try.f4 [pic w0 h0 l0] [] (fun lv _ => leL lv (.a (.c .tt))) := by
  refine Go.Sx.by_eq (q := True ∧ True ∧ True ∧ True ∧ Rg w0 h0 l0 ∧ True ∧ True ∧ True ∧ True ∧ True ∧ True ∧ True ∧ True ∧ True ∧ Rg w0 h0 l0 ∧ True ∧ True ∧ True ∧ True ∧ True ∧ True ∧ True ∧ True ∧ True ∧ True ∧ True ∧ ((bkK w0 h0 l0 != bkK w0 h0 l0) = Bool.false → True ∧ True ∧ True ∧ True ∧ True ∧ ((bkN w0 h0 l0 != bkN w0 h0 l0) = Bool.false → True ∧ True ∧ True ∧ True ∧ ((bkE w0 h0 l0 != bkE w0 h0 l0) = Bool.true → True ∧ Go.Sx.Cel.ff = Go.Sx.Cel.tt) ∧ ((bkE w0 h0 l0 != bkE w0 h0 l0) = Bool.false → True ∧ True)) ∧ ((bkN w0 h0 l0 != bkN w0 h0 l0) = !Bool.false → True ∧ True ∧ Go.Sx.Cel.ff = Go.Sx.Cel.tt)) ∧ ((bkK w0 h0 l0 != bkK w0 h0 l0) = !Bool.false → True ∧ True ∧ True ∧ True ∧ Go.Sx.Cel.ff = Go.Sx.Cel.tt)) (by kernel_rfl) ?_
  simp [r0]

end Go.Proofs.Ytegogiefokbmkaa
