/- The law of FirstConflict: the result is always true. No conditions beyond the ranges of the kinds. -/
import Derived.Test.YtegogiefokbmkaaRp12
set_option linter.unusedSimpArgs false
set_option linter.unusedVariables false
namespace Go.Proofs.Ytegogiefokbmkaa
open Go.Sx Go.RowKit

set_option maxRecDepth 100000 in
theorem law_FirstConflict (w0 h0 : Int) (l0 : List Int) (r0 : Rg w0 h0 l0) (x1 : Int) (b1 : -9223372036854775808 ≤ x1 ∧ x1 ≤ 9223372036854775807) (x2 : Int) (b2 : -9223372036854775808 ≤ x2 ∧ x2 ≤ 9223372036854775807) : Fex true TT (inlN true TT (ctrOf Efc) (lookI ILz) 3) (ctrOf Efc) U0 Try.f8 [pic w0 h0 l0, .a (.c (.int .i64 x1)), .a (.c (.int .i64 x2))] [] (fun lv _ => leL lv (.a (.c .tt))) := by
  refine Go.Sx.by_eq (q := True ∧ True ∧ True ∧ True ∧ True ∧ True ∧ Rg w0 h0 l0 ∧ True ∧ True ∧ True ∧ True ∧ True ∧ True ∧ True ∧ True ∧ True ∧ True ∧ True ∧ Rg w0 h0 l0 ∧ True ∧ True ∧ True ∧ True ∧ True ∧ True ∧ True ∧ True ∧ True ∧ True ∧ True ∧ ((fcX w0 h0 l0 x1 x2 != fcX w0 h0 l0 x1 x2) = Bool.false → True ∧ True ∧ True ∧ True ∧ True ∧ ((fcY w0 h0 l0 x1 x2 != fcY w0 h0 l0 x1 x2) = Bool.false → True ∧ True ∧ True ∧ True ∧ ((fcE w0 h0 l0 x1 x2 != fcE w0 h0 l0 x1 x2) = Bool.true → True ∧ Go.Sx.Cel.ff = Go.Sx.Cel.tt) ∧ ((fcE w0 h0 l0 x1 x2 != fcE w0 h0 l0 x1 x2) = Bool.false → True ∧ True)) ∧ ((fcY w0 h0 l0 x1 x2 != fcY w0 h0 l0 x1 x2) = !Bool.false → True ∧ True ∧ Go.Sx.Cel.ff = Go.Sx.Cel.tt)) ∧ ((fcX w0 h0 l0 x1 x2 != fcX w0 h0 l0 x1 x2) = !Bool.false → True ∧ True ∧ True ∧ True ∧ Go.Sx.Cel.ff = Go.Sx.Cel.tt)) (by kernel_rfl) ?_
  simp [r0, b1, b2]

end Go.Proofs.Ytegogiefokbmkaa
