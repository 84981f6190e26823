/- The law of WithColour: the result is always true. No conditions beyond the ranges of the kinds. -/
import Derived.Test.YtmagecekkihlfaaPic3
namespace Go.Proofs.Ytmagecekkihlfaa
open Go.Sx Go.RowKit

set_option maxRecDepth 100000 in
theorem law_WithColour (w h : Int) (l : List Int) (r : Rg w h l) (x : Int) (_ : -9223372036854775808 ≤ x ∧ x ≤ 9223372036854775807) (y : Int) (_ : -9223372036854775808 ≤ y ∧ y ≤ 9223372036854775807) (c : Int) (_ : -9223372036854775808 ≤ c ∧ c ≤ 9223372036854775807) : Fex true TT (inlN true TT (ctrOf E9) (lookI IL) 3) (ctrOf E9) U0 Try.f6 [pic w h l, .a (.c (.int .i64 x)), .a (.c (.int .i64 y)), .a (.c (.int .i64 c))] [] (fun lv _ => leL lv (.a (.c .tt))) := by
  refine Go.Sx.by_eq (q := True ∧ True ∧ True ∧ True ∧ True ∧ True ∧ True ∧ Go.Proofs.Ytmagecekkihlfaa.Rg w h l ∧ True ∧ True ∧ True ∧ True ∧ True ∧ True ∧ True ∧ True ∧ True ∧ True ∧ True ∧ Go.Proofs.Ytmagecekkihlfaa.Rg w h l ∧ True ∧ True ∧ True ∧ True ∧ True ∧ True ∧ True ∧ True ∧ True ∧ True ∧ True ∧ ((!Decidable.decide (Go.Proofs.Ytmagecekkihlfaa.gate (Go.Proofs.Ytmagecekkihlfaa.withE w h l x y c) w = Go.Proofs.Ytmagecekkihlfaa.gate (Go.Proofs.Ytmagecekkihlfaa.withE w h l x y c) w ∧ Go.Proofs.Ytmagecekkihlfaa.gate (Go.Proofs.Ytmagecekkihlfaa.withE w h l x y c) h = Go.Proofs.Ytmagecekkihlfaa.gate (Go.Proofs.Ytmagecekkihlfaa.withE w h l x y c) h ∧ Go.Proofs.Ytmagecekkihlfaa.withL w h l x y c = Go.Proofs.Ytmagecekkihlfaa.withL w h l x y c)) = Bool.false → True ∧ True ∧ True ∧ True ∧ ((Go.Proofs.Ytmagecekkihlfaa.withE w h l x y c != Go.Proofs.Ytmagecekkihlfaa.withE w h l x y c) = Bool.true → True ∧ Go.Sx.Cel.ff = Go.Sx.Cel.tt) ∧ ((Go.Proofs.Ytmagecekkihlfaa.withE w h l x y c != Go.Proofs.Ytmagecekkihlfaa.withE w h l x y c) = Bool.false → True ∧ True)) ∧ ((!Decidable.decide (Go.Proofs.Ytmagecekkihlfaa.gate (Go.Proofs.Ytmagecekkihlfaa.withE w h l x y c) w = Go.Proofs.Ytmagecekkihlfaa.gate (Go.Proofs.Ytmagecekkihlfaa.withE w h l x y c) w ∧ Go.Proofs.Ytmagecekkihlfaa.gate (Go.Proofs.Ytmagecekkihlfaa.withE w h l x y c) h = Go.Proofs.Ytmagecekkihlfaa.gate (Go.Proofs.Ytmagecekkihlfaa.withE w h l x y c) h ∧ Go.Proofs.Ytmagecekkihlfaa.withL w h l x y c = Go.Proofs.Ytmagecekkihlfaa.withL w h l x y c)) = !Bool.false → True ∧ True ∧ Go.Sx.Cel.ff = Go.Sx.Cel.tt)) (by kernel_rfl) ?_
  simp
  exact r

end Go.Proofs.Ytmagecekkihlfaa
