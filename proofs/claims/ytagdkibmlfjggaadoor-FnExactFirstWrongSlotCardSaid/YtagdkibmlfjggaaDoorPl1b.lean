/- Sets that say nothing beyond the list. Mathematics, no function is named. No conditions. -/
import Derived.Test.YtagdkibmlfjggaaDoorPl1
set_option linter.unusedSimpArgs false
set_option linter.unusedVariables false
namespace Go.Proofs.YtagdkibmlfjggaaDoor
open Go.Sx Go.RowKit

theorem ad_up {l p : List Int} {s n : Nat} (h : ∀ k, s.testBit k = true → k < n) : ∀ d, adS l p s (n + d) = adS l p s n
  | 0 => rfl
  | d + 1 => by
    show adS l p s (n + d + 1) = _
    rw [adS, if_neg (fun hb => by have := h _ hb; omega), ad_up h d]

end Go.Proofs.YtagdkibmlfjggaaDoor
