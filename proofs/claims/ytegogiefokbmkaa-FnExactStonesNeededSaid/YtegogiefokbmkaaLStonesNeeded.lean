/- The law of StonesNeeded: the result is always true. No conditions beyond the ranges of the kinds. -/
import Derived.Test.YtegogiefokbmkaaRp9s
set_option linter.unusedSimpArgs false
set_option linter.unusedVariables false
namespace Go.Proofs.Ytegogiefokbmkaa
open Go.Sx Go.RowKit

set_option maxRecDepth 100000 in
theorem law_StonesNeeded (w0 h0 : Int) (l0 : List Int) (r0 : Rg w0 h0 l0) (w1 h1 : Int) (l1 : List Int) (r1 : Rg w1 h1 l1) : Fex true TT (inlN true TT (ctrOf Esn) (lookI ILz) 3) (ctrOf Esn) U0 Try.f9 [pic w0 h0 l0, pic w1 h1 l1] [] (fun lv _ => leL lv (.a (.c .tt))) := by
  refine Go.Sx.by_eq (q := True ∧ True ∧ True ∧ True ∧ True ∧ True ∧ True ∧ (Rg w0 h0 l0 ∧ Rg w1 h1 l1) ∧ True ∧ True ∧ True ∧ True ∧ True ∧ True ∧ True ∧ True ∧ True ∧ (Rg w0 h0 l0 ∧ Rg w1 h1 l1) ∧ True ∧ True ∧ True ∧ True ∧ True ∧ True ∧ True ∧ True ∧ True ∧ True ∧ ((!Decidable.decide (snL w0 h0 l0 w1 h1 l1 = snL w0 h0 l0 w1 h1 l1)) = Bool.false → True ∧ True ∧ True ∧ True ∧ ((szE w0 h0 l0 w1 h1 l1 != szE w0 h0 l0 w1 h1 l1) = Bool.true → True ∧ Go.Sx.Cel.ff = Go.Sx.Cel.tt) ∧ ((szE w0 h0 l0 w1 h1 l1 != szE w0 h0 l0 w1 h1 l1) = Bool.false → True ∧ True)) ∧ ((!Decidable.decide (snL w0 h0 l0 w1 h1 l1 = snL w0 h0 l0 w1 h1 l1)) = !Bool.false → True ∧ True ∧ Go.Sx.Cel.ff = Go.Sx.Cel.tt)) (by kernel_rfl) ?_
  simp [r0, r1]

end Go.Proofs.Ytegogiefokbmkaa
