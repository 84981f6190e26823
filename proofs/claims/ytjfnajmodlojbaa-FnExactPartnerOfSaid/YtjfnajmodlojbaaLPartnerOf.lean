/- The law of PartnerOf: the result is always true. No conditions beyond the ranges of the kinds. -/
import Derived.Test.YtjfnajmodlojbaaRp2
set_option linter.unusedSimpArgs false
set_option linter.unusedVariables false
namespace Go.Proofs.Ytjfnajmodlojbaa
open Go.Sx Go.RowKit

set_option maxRecDepth 100000 in
theorem law_PartnerOf (w0 h0 : Int) (l0 : List Int) (r0 : Rg w0 h0 l0) (x1 : Int) (b1 : -9223372036854775808 ≤ x1 ∧ x1 ≤ 9223372036854775807) (x2 : Int) (b2 : -9223372036854775808 ≤ x2 ∧ x2 ≤ 9223372036854775807) : Fex true TT (inlN true TT (ctrOf Epo) (lookI ILz) 3) (ctrOf Epo) U0 Try.f11 [pic w0 h0 l0, .a (.c (.int .i64 x1)), .a (.c (.int .i64 x2))] [] (fun lv _ => leL lv (.a (.c .tt))) := by
  refine Go.Sx.by_eq (q := True ∧ True ∧ True ∧ True ∧ True ∧ True ∧ (Rg w0 h0 l0 ∧ (-9223372036854775808 : Int) ≤ x2 ∧ x2 ≤ (9223372036854775807 : Int)) ∧ True ∧ True ∧ True ∧ True ∧ True ∧ True ∧ True ∧ True ∧ True ∧ (Rg w0 h0 l0 ∧ (-9223372036854775808 : Int) ≤ x2 ∧ x2 ≤ (9223372036854775807 : Int)) ∧ True ∧ True ∧ True ∧ True ∧ True ∧ True ∧ True ∧ True ∧ True ∧ ((poV w0 h0 l0 x1 x2 != poV w0 h0 l0 x1 x2) = Bool.false → True ∧ True ∧ True ∧ True ∧ ((poE w0 h0 l0 x1 x2 != poE w0 h0 l0 x1 x2) = Bool.true → True ∧ Go.Sx.Cel.ff = Go.Sx.Cel.tt) ∧ ((poE w0 h0 l0 x1 x2 != poE w0 h0 l0 x1 x2) = Bool.false → True ∧ True)) ∧ ((poV w0 h0 l0 x1 x2 != poV w0 h0 l0 x1 x2) = !Bool.false → True ∧ True ∧ Go.Sx.Cel.ff = Go.Sx.Cel.tt)) (by kernel_rfl) ?_
  simp [r0, b1, b2]

end Go.Proofs.Ytjfnajmodlojbaa
