/- The law of PictureText: the result is always true. No conditions beyond the ranges of the kinds. -/
import Derived.Test.YthnblkmfohcglaaPtx
set_option linter.unusedSimpArgs false
set_option linter.unusedVariables false
namespace Go.Proofs.Ythnblkmfohcglaa
open Go.Sx Go.RowKit

def gPtx : Entry := fun args _ => match args with
  | [.a (.agg [.int .i8 w, .int .i8 h, .run [.u8] 144 l])] => some (Rg w h l, .a (.c (.str (ptS w h l))))
  | _ => none
theorem e_PictureTextS : EntryOk Try.prog TT 4 gPtx := by
  refine ⟨fnOk Try.func4 (by kernel_rfl) rfl, ?_⟩
  intro args H p r he hp n0 w0 β w vals hG hH hA
  unfold gPtx at he
  split at he
  · rename_i wd hg l
    simp only [Option.some.injEq, Prod.mk.injEq] at he
    obtain ⟨rfl, rfl⟩ := he
    exact entry_bare tt_ok (inlN_ok tt_ok (ctrOf_ok E6_ok) mixed ILpt_ok.ok 4) (ctrOf_ok E6_ok) mixed Try.func4 (x_PictureTextS wd hg l hp) rfl rfl hG hH hA
  · simp at he
theorem e_PictureTextI : EntryOk Try.prog TT 6 gPtx := by
  refine ⟨fnOk Try.func6 (by kernel_rfl) rfl, ?_⟩
  intro args H p r he hp n0 w0 β w vals hG hH hA
  unfold gPtx at he
  split at he
  · rename_i wd hg l
    simp only [Option.some.injEq, Prod.mk.injEq] at he
    obtain ⟨rfl, rfl⟩ := he
    exact entry_bare tt_ok (inlN_ok tt_ok Cpt_ok mixed ILpi_ok.ok 4) Cpt_ok mixed Try.func6 (x_PictureTextI wd hg l hp) rfl rfl hG hH hA
  · simp at he
def Elx : List (FuncId × Entry) := (4, gPtx) :: (6, gPtx) :: E3
theorem Elx_ok : EntriesOk Try.prog TT Elx := ⟨e_PictureTextS, e_PictureTextI, E3_ok⟩
abbrev Clx : Ctr := ctrOf Elx
theorem Clx_ok : CtrOk Try.prog TT Clx := ctrOf_ok Elx_ok
noncomputable def ILlx  : List (FuncId × Func × (Nat → LM)) := [
  ]
theorem ILlx_ok  : InlsOk Try.prog ILlx := trivial
set_option maxRecDepth 100000 in
theorem law_PictureText (w h : Int) (l : List Int) (r : Rg w h l) : Fex true TT (inlN true TT Clx (lookI ILlx) 3) Clx U0 Try.f3 [pic w h l] [] (fun lv _ => leL lv (.a (.c .tt))) := by
  refine Go.Sx.by_eq (q := True ∧ True ∧ True ∧ True ∧ Rg w h l ∧ True ∧ True ∧ True ∧ Rg w h l ∧ True ∧ True ∧ True ∧ True ∧ ((!ByteArray.toList (ptS w h l) == ByteArray.toList (ptS w h l)) = Bool.true → True ∧ Go.Sx.Cel.ff = Go.Sx.Cel.tt) ∧ ((!ByteArray.toList (ptS w h l) == ByteArray.toList (ptS w h l)) = Bool.false → True ∧ True)) (by kernel_rfl) ?_
  simp only [true_and, and_true, and_self, decide_eq_true_eq, decide_eq_false_iff_not, Bool.not_eq_true', Bool.not_eq_false', Bool.not_true, Bool.not_false, beq_iff_eq, beq_eq_false_iff_ne, bne_iff_ne, bne_eq_false_iff_eq, ne_eq, not_true_eq_false, not_false_eq_true, false_implies, true_implies, implies_true, forall_const, exists_const, ↓reduceIte, Int.reduceEq, Int.toNat_natCast, Bool.false_eq_true, Bool.true_eq_false, reduceCtorEq]
  exact r

end Go.Proofs.Ythnblkmfohcglaa
