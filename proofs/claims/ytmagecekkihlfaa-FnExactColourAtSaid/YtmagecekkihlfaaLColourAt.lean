/- The law of ColourAt: the result is always true. No conditions beyond the ranges of the kinds. -/
import Derived.Test.YtmagecekkihlfaaPic2
namespace Go.Proofs.Ytmagecekkihlfaa
open Go.Sx Go.RowKit

set_option maxRecDepth 100000 in
theorem law_ColourAt (w h : Int) (l : List Int) (r : Rg w h l) (x : Int) (_ : -9223372036854775808 ≤ x ∧ x ≤ 9223372036854775807) (y : Int) (_ : -9223372036854775808 ≤ y ∧ y ≤ 9223372036854775807) : Fex true TT (inlN true TT (ctrOf E8) (lookI IL) 3) (ctrOf E8) U0 Try.f5 [pic w h l, .a (.c (.int .i64 x)), .a (.c (.int .i64 y))] [] (fun lv _ => leL lv (.a (.c .tt))) := by
  refine Go.Sx.by_eq (q := True ∧ True ∧ True ∧ True ∧ True ∧ True ∧ Go.Proofs.Ytmagecekkihlfaa.Rg w h l ∧ True ∧ True ∧ True ∧ True ∧ True ∧ True ∧ True ∧ True ∧ True ∧ Go.Proofs.Ytmagecekkihlfaa.Rg w h l ∧ True ∧ True ∧ True ∧ True ∧ True ∧ True ∧ True ∧ True ∧ True ∧ ((Go.Proofs.Ytmagecekkihlfaa.colAt w h l x y != Go.Proofs.Ytmagecekkihlfaa.colAt w h l x y) = Bool.false → True ∧ True ∧ True ∧ True ∧ ((Go.Proofs.Ytmagecekkihlfaa.placeE w h l x y != Go.Proofs.Ytmagecekkihlfaa.placeE w h l x y) = Bool.true → True ∧ Go.Sx.Cel.ff = Go.Sx.Cel.tt) ∧ ((Go.Proofs.Ytmagecekkihlfaa.placeE w h l x y != Go.Proofs.Ytmagecekkihlfaa.placeE w h l x y) = Bool.false → True ∧ True)) ∧ ((Go.Proofs.Ytmagecekkihlfaa.colAt w h l x y != Go.Proofs.Ytmagecekkihlfaa.colAt w h l x y) = !Bool.false → True ∧ True ∧ Go.Sx.Cel.ff = Go.Sx.Cel.tt)) (by kernel_rfl) ?_
  simp
  exact r

end Go.Proofs.Ytmagecekkihlfaa
