/- The law of ClashesUnder: the result is always true. No conditions beyond the ranges of the kinds. -/
import Derived.Test.YtjfnajmodlojbaaRp5
set_option linter.unusedSimpArgs false
set_option linter.unusedVariables false
namespace Go.Proofs.Ytjfnajmodlojbaa
open Go.Sx Go.RowKit

set_option maxRecDepth 100000 in
theorem law_ClashesUnder (w0 h0 : Int) (l0 : List Int) (r0 : Rg w0 h0 l0) (x1 : Int) (b1 : -9223372036854775808 ≤ x1 ∧ x1 ≤ 9223372036854775807) : Fex true TT (inlN true TT (ctrOf Ecu) (lookI ILz) 3) (ctrOf Ecu) U0 Try.f14 [pic w0 h0 l0, .a (.c (.int .i64 x1))] [] (fun lv _ => leL lv (.a (.c .tt))) := by
  refine Go.Sx.by_eq (q := True ∧ True ∧ True ∧ True ∧ True ∧ Rg w0 h0 l0 ∧ True ∧ True ∧ True ∧ True ∧ True ∧ True ∧ True ∧ True ∧ Rg w0 h0 l0 ∧ True ∧ True ∧ True ∧ True ∧ True ∧ True ∧ True ∧ True ∧ True ∧ ((cuV w0 h0 l0 x1 != cuV w0 h0 l0 x1) = Bool.false → True ∧ True ∧ True ∧ True ∧ ((cuE w0 h0 l0 x1 != cuE w0 h0 l0 x1) = Bool.true → True ∧ Go.Sx.Cel.ff = Go.Sx.Cel.tt) ∧ ((cuE w0 h0 l0 x1 != cuE w0 h0 l0 x1) = Bool.false → True ∧ True)) ∧ ((cuV w0 h0 l0 x1 != cuV w0 h0 l0 x1) = !Bool.false → True ∧ True ∧ Go.Sx.Cel.ff = Go.Sx.Cel.tt)) (by kernel_rfl) ?_
  simp [r0, b1]

end Go.Proofs.Ytjfnajmodlojbaa
