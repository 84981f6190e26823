/- The law of FillByKind: the result is always true. No conditions beyond the ranges of the kinds. -/
import Derived.Test.YtegogiefokbmkaaRp6
set_option linter.unusedSimpArgs false
set_option linter.unusedVariables false
namespace Go.Proofs.Ytegogiefokbmkaa
open Go.Sx Go.RowKit

set_option maxRecDepth 100000 in
theorem law_FillByKind (w0 h0 : Int) (l0 : List Int) (r0 : Rg w0 h0 l0) (x1 : Int) (b1 : -9223372036854775808 ≤ x1 ∧ x1 ≤ 9223372036854775807) : Fex true TT (inlN true TT (ctrOf Efb) (lookI ILz) 3) (ctrOf Efb) U0 Try.f5 [pic w0 h0 l0, .a (.c (.int .i64 x1))] [] (fun lv _ => leL lv (.a (.c .tt))) := by
  refine Go.Sx.by_eq (q := True ∧ True ∧ True ∧ True ∧ True ∧ Rg w0 h0 l0 ∧ True ∧ True ∧ True ∧ True ∧ True ∧ True ∧ True ∧ True ∧ True ∧ True ∧ True ∧ Rg w0 h0 l0 ∧ True ∧ True ∧ True ∧ True ∧ True ∧ True ∧ True ∧ True ∧ True ∧ True ∧ True ∧ True ∧ True ∧ ((!Decidable.decide (((if fbE w0 h0 l0 x1 = (0 : Int) then w0 else (0 : Int)) = if fbE w0 h0 l0 x1 = (0 : Int) then w0 else (0 : Int)) ∧ ((if fbE w0 h0 l0 x1 = (0 : Int) then h0 else (0 : Int)) = if fbE w0 h0 l0 x1 = (0 : Int) then h0 else (0 : Int)) ∧ fbV w0 h0 l0 x1 = fbV w0 h0 l0 x1)) = Bool.false → True ∧ True ∧ True ∧ True ∧ True ∧ ((fbN w0 h0 l0 x1 != fbN w0 h0 l0 x1) = Bool.false → True ∧ True ∧ True ∧ True ∧ ((fbE w0 h0 l0 x1 != fbE w0 h0 l0 x1) = Bool.true → True ∧ Go.Sx.Cel.ff = Go.Sx.Cel.tt) ∧ ((fbE w0 h0 l0 x1 != fbE w0 h0 l0 x1) = Bool.false → True ∧ True)) ∧ ((fbN w0 h0 l0 x1 != fbN w0 h0 l0 x1) = !Bool.false → True ∧ True ∧ Go.Sx.Cel.ff = Go.Sx.Cel.tt)) ∧ ((!Decidable.decide (((if fbE w0 h0 l0 x1 = (0 : Int) then w0 else (0 : Int)) = if fbE w0 h0 l0 x1 = (0 : Int) then w0 else (0 : Int)) ∧ ((if fbE w0 h0 l0 x1 = (0 : Int) then h0 else (0 : Int)) = if fbE w0 h0 l0 x1 = (0 : Int) then h0 else (0 : Int)) ∧ fbV w0 h0 l0 x1 = fbV w0 h0 l0 x1)) = !Bool.false → True ∧ True ∧ True ∧ True ∧ Go.Sx.Cel.ff = Go.Sx.Cel.tt)) (by kernel_rfl) ?_
  simp [r0, b1]

end Go.Proofs.Ytegogiefokbmkaa
