/- The law of FillField: the result is always true. No conditions beyond the ranges of the kinds. -/
import Derived.Test.YtepblgefgdllfaaFl5
set_option linter.unusedSimpArgs false
set_option linter.unusedVariables false
namespace Go.Proofs.Ytepblgefgdllfaa
open Go.Sx Go.RowKit

set_option maxRecDepth 100000 in
theorem law_FillField (w0 h0 : Int) (l0 : List Int) (r0 : Rg w0 h0 l0) (x1 : Int) (b1 : -9223372036854775808 ≤ x1 ∧ x1 ≤ 9223372036854775807) (x2 : Int) (b2 : -9223372036854775808 ≤ x2 ∧ x2 ≤ 9223372036854775807) (x3 : Int) (b3 : -9223372036854775808 ≤ x3 ∧ x3 ≤ 9223372036854775807) : Fex true TT (inlN true TT (ctrOf E5f) (lookI IL) 3) (ctrOf E5f) U0 Try.f5 [pic w0 h0 l0, .a (.c (.int .i64 x1)), .a (.c (.int .i64 x2)), .a (.c (.int .i64 x3))] [] (fun lv _ => leL lv (.a (.c .tt))) := by
  refine Go.Sx.by_eq (q := True ∧ True ∧ True ∧ True ∧ True ∧ True ∧ True ∧ Rg w0 h0 l0 ∧ True ∧ True ∧ True ∧ True ∧ True ∧ True ∧ True ∧ True ∧ True ∧ True ∧ True ∧ Rg w0 h0 l0 ∧ True ∧ True ∧ True ∧ True ∧ True ∧ True ∧ True ∧ True ∧ True ∧ True ∧ True ∧ ((!Decidable.decide (((if flE w0 h0 l0 x1 x2 x3 = (0 : Int) then w0 else (0 : Int)) = if flE w0 h0 l0 x1 x2 x3 = (0 : Int) then w0 else (0 : Int)) ∧ ((if flE w0 h0 l0 x1 x2 x3 = (0 : Int) then h0 else (0 : Int)) = if flE w0 h0 l0 x1 x2 x3 = (0 : Int) then h0 else (0 : Int)) ∧ flV w0 h0 l0 x1 x2 x3 = flV w0 h0 l0 x1 x2 x3)) = Bool.false → True ∧ True ∧ True ∧ True ∧ ((flE w0 h0 l0 x1 x2 x3 != flE w0 h0 l0 x1 x2 x3) = Bool.true → True ∧ Go.Sx.Cel.ff = Go.Sx.Cel.tt) ∧ ((flE w0 h0 l0 x1 x2 x3 != flE w0 h0 l0 x1 x2 x3) = Bool.false → True ∧ True)) ∧ ((!Decidable.decide (((if flE w0 h0 l0 x1 x2 x3 = (0 : Int) then w0 else (0 : Int)) = if flE w0 h0 l0 x1 x2 x3 = (0 : Int) then w0 else (0 : Int)) ∧ ((if flE w0 h0 l0 x1 x2 x3 = (0 : Int) then h0 else (0 : Int)) = if flE w0 h0 l0 x1 x2 x3 = (0 : Int) then h0 else (0 : Int)) ∧ flV w0 h0 l0 x1 x2 x3 = flV w0 h0 l0 x1 x2 x3)) = !Bool.false → True ∧ True ∧ Go.Sx.Cel.ff = Go.Sx.Cel.tt)) (by kernel_rfl) ?_
  simp [r0, b1, b2, b3]

end Go.Proofs.Ytepblgefgdllfaa
