/- The law of SamePicture: the result is always true. -/
import Derived.Test.YtmagecekkihlfaaPic1
namespace Go.Proofs.Ytmagecekkihlfaa
open Go.Sx Go.RowKit

set_option maxRecDepth 100000 in
theorem law_SamePicture (w h : Int) (l : List Int) (w' h' : Int) (l' : List Int) : Fex true TT (inlN true TT (ctrOf E4s) (lookI IL) 3) (ctrOf E4s) U0 Try.f4 [pic w h l, pic w' h' l'] [] (fun lv _ => leL lv (.a (.c .tt))) := by
  refine Go.Sx.by_eq (q := True ∧ True ∧ True ∧ True ∧ True ∧ True ∧ True ∧ True ∧ True ∧ True ∧ True ∧ True ∧ True ∧ True ∧ True ∧ True ∧ True ∧ True ∧ ((!Decidable.decide (w = w' ∧ h = h' ∧ l = l') == Decidable.decide (w = w' ∧ h = h' ∧ l = l')) = Bool.true → True ∧ Go.Sx.Cel.ff = Go.Sx.Cel.tt) ∧ ((!Decidable.decide (w = w' ∧ h = h' ∧ l = l') == Decidable.decide (w = w' ∧ h = h' ∧ l = l')) = Bool.false → True ∧ True)) (by kernel_rfl) ?_
  simp

end Go.Proofs.Ytmagecekkihlfaa
