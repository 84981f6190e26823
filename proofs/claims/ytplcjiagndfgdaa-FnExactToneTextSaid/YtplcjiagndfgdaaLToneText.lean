/- The law of ToneText: the result is always true. No conditions beyond the ranges of the kinds. -/
import Derived.Test.YtplcjiagndfgdaaTxt1
set_option linter.unusedSimpArgs false
set_option linter.unusedVariables false
namespace Go.Proofs.Ytplcjiagndfgdaa
open Go.Sx Go.RowKit

theorem law_ToneText (g : List Int) (tg : TBl g) :
    Fex true TT (inlN true TT Ctx (lookI ILtl) 3) Ctx U0 Try.f3 [tonL g] [] (fun lv _ => leL lv (.a (.c .tt))) := by
  refine Go.Sx.by_eq (q := True ∧ True ∧ True ∧ List.length g = (3 : Nat) ∧ TBl g ∧ True ∧ True ∧ List.length g = (3 : Nat) ∧ TBl g ∧ True ∧ True ∧ True ∧ True ∧ ((!ByteArray.toList (Go.Sx.bstr (txL g)) == ByteArray.toList (Go.Sx.bstr (txL g))) = Bool.true → True ∧ Go.Sx.Cel.ff = Go.Sx.Cel.tt) ∧ ((!ByteArray.toList (Go.Sx.bstr (txL g)) == ByteArray.toList (Go.Sx.bstr (txL g))) = Bool.false → True ∧ True)) (by kernel_rfl) ?_
  simp only [true_and, and_true, and_self, decide_eq_true_eq, decide_eq_false_iff_not, Bool.not_eq_true', Bool.not_eq_false', Bool.not_true, Bool.not_false, beq_iff_eq, beq_eq_false_iff_ne, bne_iff_ne, bne_eq_false_iff_eq, ne_eq, not_true_eq_false, not_false_eq_true, false_implies, true_implies, implies_true, forall_const, exists_const, ↓reduceIte, Int.reduceEq, Int.toNat_natCast, Bool.false_eq_true, Bool.true_eq_false, reduceCtorEq, beq_self_eq_true, bne_self_eq_false]
  repeat' (first | trivial | exact tg | exact tg.len | rfl | apply And.intro)

end Go.Proofs.Ytplcjiagndfgdaa
