/- RecolourPicture on both sides. No conditions beyond the ranges of the kinds. -/
import Derived.Test.YtnfjfgmicpkjaaaPic5
namespace Go.Proofs.Ytnfjfgmicpkjaaa
open Go.Sx Go.RowKit

theorem okB_facts {w h : Int} {l : List Int} (e : okB w h l = true) : 1 ≤ w ∧ w ≤ 12 ∧ 1 ≤ h ∧ h ≤ 12 ∧ ∀ i, i < 144 → l.getD i 0 < 16 ∧ (isB w h i = false → l.getD i 0 = 0) := by
  simp only [okB, Bool.and_eq_true, decide_eq_true_eq, List.all_eq_true, List.mem_range] at e
  refine ⟨e.1.1.1, e.1.1.2, e.1.2.1, e.1.2.2, fun i hi => ?_⟩
  have := e.2 i hi
  simp only [okC, Bool.and_eq_true, Bool.or_eq_true, decide_eq_true_eq, beq_iff_eq] at this
  exact ⟨this.1, fun hb => by rcases this.2 with h | h; rw [hb] at h; cases h; exact h⟩

end Go.Proofs.Ytnfjfgmicpkjaaa
