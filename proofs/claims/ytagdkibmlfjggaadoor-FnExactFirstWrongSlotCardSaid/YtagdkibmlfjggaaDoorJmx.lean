/- The greater of two numbers, the end of a job: program side of the document's own text. -/
import Derived.Test.YtagdkibmlfjggaaDoorJb4
set_option linter.unusedSimpArgs false
set_option linter.unusedVariables false
namespace Go.Proofs.YtagdkibmlfjggaaDoor
open Go.Sx Go.RowKit

theorem x_max (a b : Int) : Fex true TT (inlN true TT C0 (lookI ILz) 4) C0 U0 Tryd.f92 [.a (.c (.int .i64 a)), .a (.c (.int .i64 b))] [] (fun lv _ => leL lv (.a (.c (.int .i64 (max a b))))) := by
  refine Go.Sx.by_eq (q := True ∧ True ∧ True ∧ True ∧ (Decidable.decide (b < a) = Bool.true → True ∧ True ∧ Go.IntKind.i64 = Go.IntKind.i64 ∧ a = Max.max a b) ∧ (Decidable.decide (b < a) = Bool.false → True ∧ True ∧ Go.IntKind.i64 = Go.IntKind.i64 ∧ b = Max.max a b)) (by kernel_rfl) ?_
  simp only [true_and, and_true, and_self, decide_eq_true_eq, decide_eq_false_iff_not, Bool.not_eq_true', Bool.not_eq_false', Bool.not_true, Bool.not_false, beq_iff_eq, beq_eq_false_iff_ne, bne_iff_ne, bne_eq_false_iff_eq, ne_eq, not_true_eq_false, not_false_eq_true, false_implies, true_implies, implies_true, forall_const, exists_const, ↓reduceIte, Int.reduceEq, Int.toNat_natCast, Bool.false_eq_true, Bool.true_eq_false, reduceCtorEq]
  omega
def gMx : Entry := fun args _ => match args with
  | [.a (.c (.int .i64 a)), .a (.c (.int .i64 b))] => some (True, .a (.c (.int .i64 (max a b))))
  | _ => none
theorem e_l00Max : EntryOk Tryd.prog TT 92 gMx := by
  refine ⟨fnOk Tryd.func92 (by kernel_rfl) rfl, ?_⟩
  intro args H p r he hp n0 w0 β w vals hG hH hA
  unfold gMx at he
  split at he
  · simp only [Option.some.injEq, Prod.mk.injEq] at he
    obtain ⟨rfl, rfl⟩ := he
    exact entry_bare tt_ok (inlN_ok tt_ok C0_ok mixed (ILz_ok).ok 4) C0_ok mixed Tryd.func92 (x_max _ _) rfl rfl hG hH hA
  · simp at he

theorem x_doneFrom (a b : Int) (h : -9223372036854775808 ≤ b + a ∧ b + a ≤ 9223372036854775807) : Fex true TT (inlN true TT C0 (lookI ILz) 4) C0 U0 Tryd.f97 [.a (.c (.int .i64 a)), .a (.c (.int .i64 b))] [] (fun lv _ => leL lv (.a (.c (.int .i64 (b + a))))) := by
  refine Go.Sx.by_eq (q := True ∧ True ∧ True ∧ ((-9223372036854775808 : Int) ≤ b + a ∧ b + a ≤ (9223372036854775807 : Int)) ∧ True ∧ Go.IntKind.i64 = Go.IntKind.i64 ∧ b + a = b + a) (by kernel_rfl) ?_
  simp only [true_and, and_true, and_self, decide_eq_true_eq, decide_eq_false_iff_not, Bool.not_eq_true', Bool.not_eq_false', Bool.not_true, Bool.not_false, beq_iff_eq, beq_eq_false_iff_ne, bne_iff_ne, bne_eq_false_iff_eq, ne_eq, not_true_eq_false, not_false_eq_true, false_implies, true_implies, implies_true, forall_const, exists_const, ↓reduceIte, Int.reduceEq, Int.toNat_natCast, Bool.false_eq_true, Bool.true_eq_false, reduceCtorEq]
  omega
def gDf : Entry := fun args _ => match args with
  | [.a (.c (.int .i64 a)), .a (.c (.int .i64 b))] => some (-9223372036854775808 ≤ b + a ∧ b + a ≤ 9223372036854775807, .a (.c (.int .i64 (b + a))))
  | _ => none
theorem e_doneFrom : EntryOk Tryd.prog TT 97 gDf := by
  refine ⟨fnOk Tryd.func97 (by kernel_rfl) rfl, ?_⟩
  intro args H p r he hp n0 w0 β w vals hG hH hA
  unfold gDf at he
  split at he
  · simp only [Option.some.injEq, Prod.mk.injEq] at he
    obtain ⟨rfl, rfl⟩ := he
    exact entry_bare tt_ok (inlN_ok tt_ok C0_ok mixed (ILz_ok).ok 4) C0_ok mixed Tryd.func97 (x_doneFrom _ _ hp) rfl rfl hG hH hA
  · simp at he

noncomputable def Ej6 : List (FuncId × Entry) := (92, gMx) :: (97, gDf) :: Ej4
theorem Ej6_ok : EntriesOk Tryd.prog TT Ej6 := ⟨e_l00Max, e_doneFrom, Ej4_ok⟩
noncomputable abbrev Cjm : Ctr := ctrOfM Ej6 Mj4
theorem Cjm_ok : CtrOk Tryd.prog TT Cjm := ctrOfM_ok Ej6_ok Mj4_ok

end Go.Proofs.YtagdkibmlfjggaaDoor
