/- The law of ValidPicture: the result is always true. No conditions beyond the ranges of the kinds. -/
import Derived.Test.YtmagecekkihlfaaPic2
namespace Go.Proofs.Ytmagecekkihlfaa
open Go.Sx Go.RowKit

set_option maxRecDepth 100000 in
theorem x_ValidPictureS (w h : Int) (l : List Int) (r : Rg w h l) : Fex true TT (inlN true TT (ctrOf E7) (lookI IL) 3) (ctrOf E7) U0 Try.f7 [pic w h l] [] (fun lv _ => leL lv (.a (.c (.bool (okB w h l))))) := by
  refine Go.Sx.by_eq (q := True ∧ True ∧ Go.Proofs.Ytmagecekkihlfaa.Rg w h l ∧ True ∧ Go.Proofs.Ytmagecekkihlfaa.okB w h l = Go.Proofs.Ytmagecekkihlfaa.okB w h l) (by kernel_rfl) ?_
  simp
  exact r

theorem e_ValidPictureS : EntryOk Try.prog 7 gValid := by
  refine ⟨fnOk Try.func7 (by kernel_rfl) rfl, ?_⟩
  intro args H p r he hp n0 w0 β w vals hH hA
  unfold gValid at he
  split at he
  · rename_i wd hg l
    simp only [Option.some.injEq, Prod.mk.injEq] at he
    obtain ⟨rfl, rfl⟩ := he
    exact entry_bare tt_ok (inlN_ok tt_ok (ctrOf_ok E7_ok) mixed IL_ok.ok 3) (ctrOf_ok E7_ok) mixed Try.func7 (x_ValidPictureS wd hg l hp) rfl rfl hA
  · simp at he

def EV : List (FuncId × Entry) := (7, gValid) :: E7
theorem EV_ok : EntriesOk Try.prog EV := ⟨e_ValidPictureS, E7_ok⟩

set_option maxRecDepth 100000 in
theorem law_ValidPicture (w h : Int) (l : List Int) (r : Rg w h l) : Fex true TT (inlN true TT (ctrOf EV) (lookI IL) 3) (ctrOf EV) U0 Try.f3 [pic w h l] [] (fun lv _ => leL lv (.a (.c .tt))) := by
  refine Go.Sx.by_eq (q := True ∧ True ∧ True ∧ True ∧ Go.Proofs.Ytmagecekkihlfaa.Rg w h l ∧ True ∧ True ∧ True ∧ Go.Proofs.Ytmagecekkihlfaa.Rg w h l ∧ True ∧ True ∧ True ∧ True ∧ ((!Go.Proofs.Ytmagecekkihlfaa.okB w h l == Go.Proofs.Ytmagecekkihlfaa.okB w h l) = Bool.true → True ∧ Go.Sx.Cel.ff = Go.Sx.Cel.tt) ∧ ((!Go.Proofs.Ytmagecekkihlfaa.okB w h l == Go.Proofs.Ytmagecekkihlfaa.okB w h l) = Bool.false → True ∧ True)) (by kernel_rfl) ?_
  simp
  exact r

end Go.Proofs.Ytmagecekkihlfaa
