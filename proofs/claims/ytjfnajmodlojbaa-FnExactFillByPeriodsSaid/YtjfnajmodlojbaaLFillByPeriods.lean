/- The law of FillByPeriods: the result is always true. No conditions beyond the ranges of the kinds. -/
import Derived.Test.YtjfnajmodlojbaaRp13
set_option linter.unusedSimpArgs false
set_option linter.unusedVariables false
namespace Go.Proofs.Ytjfnajmodlojbaa
open Go.Sx Go.RowKit

set_option maxRecDepth 100000 in
theorem law_FillByPeriods (w0 h0 : Int) (l0 : List Int) (r0 : Rg w0 h0 l0) (x1 : Int) (b1 : -9223372036854775808 ≤ x1 ∧ x1 ≤ 9223372036854775807) (x2 : Int) (b2 : -9223372036854775808 ≤ x2 ∧ x2 ≤ 9223372036854775807) : Fex true TT (inlN true TT (ctrOf Efp) (lookI ILz) 3) (ctrOf Efp) U0 Try.f5 [pic w0 h0 l0, .a (.c (.int .i64 x1)), .a (.c (.int .i64 x2))] [] (fun lv _ => leL lv (.a (.c .tt))) := by
  refine Go.Sx.by_eq (q := True ∧ True ∧ True ∧ True ∧ True ∧ True ∧ Rg w0 h0 l0 ∧ True ∧ True ∧ True ∧ True ∧ True ∧ True ∧ True ∧ True ∧ True ∧ True ∧ True ∧ True ∧ Rg w0 h0 l0 ∧ True ∧ True ∧ True ∧ True ∧ True ∧ True ∧ True ∧ True ∧ True ∧ True ∧ True ∧ True ∧ True ∧ ((!Decidable.decide (((if fpE w0 h0 l0 x1 x2 = (0 : Int) then w0 else (0 : Int)) = if fpE w0 h0 l0 x1 x2 = (0 : Int) then w0 else (0 : Int)) ∧ ((if fpE w0 h0 l0 x1 x2 = (0 : Int) then h0 else (0 : Int)) = if fpE w0 h0 l0 x1 x2 = (0 : Int) then h0 else (0 : Int)) ∧ fpV w0 h0 l0 x1 x2 = fpV w0 h0 l0 x1 x2)) = Bool.false → True ∧ True ∧ True ∧ True ∧ True ∧ ((fpN w0 h0 l0 x1 x2 != fpN w0 h0 l0 x1 x2) = Bool.false → True ∧ True ∧ True ∧ True ∧ ((fpE w0 h0 l0 x1 x2 != fpE w0 h0 l0 x1 x2) = Bool.true → True ∧ Go.Sx.Cel.ff = Go.Sx.Cel.tt) ∧ ((fpE w0 h0 l0 x1 x2 != fpE w0 h0 l0 x1 x2) = Bool.false → True ∧ True)) ∧ ((fpN w0 h0 l0 x1 x2 != fpN w0 h0 l0 x1 x2) = !Bool.false → True ∧ True ∧ Go.Sx.Cel.ff = Go.Sx.Cel.tt)) ∧ ((!Decidable.decide (((if fpE w0 h0 l0 x1 x2 = (0 : Int) then w0 else (0 : Int)) = if fpE w0 h0 l0 x1 x2 = (0 : Int) then w0 else (0 : Int)) ∧ ((if fpE w0 h0 l0 x1 x2 = (0 : Int) then h0 else (0 : Int)) = if fpE w0 h0 l0 x1 x2 = (0 : Int) then h0 else (0 : Int)) ∧ fpV w0 h0 l0 x1 x2 = fpV w0 h0 l0 x1 x2)) = !Bool.false → True ∧ True ∧ True ∧ True ∧ Go.Sx.Cel.ff = Go.Sx.Cel.tt)) (by kernel_rfl) ?_
  simp [r0, b1, b2]

end Go.Proofs.Ytjfnajmodlojbaa
