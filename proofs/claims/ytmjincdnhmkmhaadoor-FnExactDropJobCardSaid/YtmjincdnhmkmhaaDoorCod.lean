/- The code of an error: nil, a refusal, by errors.As. No conditions. -/
import Derived.Test.YtmjincdnhmkmhaaDoorTt
import Derived.Test.YtmjincdnhmkmhaaDoorAs
set_option linter.unusedSimpArgs false
set_option linter.unusedVariables false
namespace Go.Proofs.YtmjincdnhmkmhaaDoor
open Go.Sx Go.RowKit

abbrev errV : Value := .iface 93 (.agg #[.pointer (some ⟨1, 43, none⟩)])

theorem errCell {w0 : Base} (hG : GOk TT w0) {w : World} (hx : w0.X w) : w.cell? ⟨0, 0, none⟩ = some errV := by
  obtain ⟨t, fr, ht⟩ := hG 0 errV rfl w hx
  first
    | (simp [World.cell?, ht]; done)
    | (obtain ⟨cs, g1, g2, _⟩ := ht
       simp [World.cell?, g1, g2])

theorem code_nil (w : World) : Calls Tryd.prog 15 #[.nilIface] w fun e w' => e = .returned (.int .i64 0) ∧ Below w.heap.size w w' := by
  go_enter Tryd.func15, Tryd.ntmps15
  go_wp2_with (first | (go_at_call 27; refine (as_nil _ _).mono ?_; rintro e w' ⟨rfl, rfl⟩))
  go_ret
  exact ⟨rfl, (Below.refl _ w).alloc (Nat.le_refl _) _⟩

theorem code_hit (c : Int) (w : World) (hg : w.cell? ⟨0, 0, none⟩ = some errV) : Calls Tryd.prog 15 #[.iface 62 (.int .i64 c)] w fun e w' => e = .returned (.int .i64 c) ∧ Below w.heap.size w w' := by
  have hlt : 0 < w.heap.size := by
    rcases Nat.lt_or_ge 0 w.heap.size with h | h
    · exact h
    · simp [World.cell?, Array.getElem?_eq_none h] at hg
  have hgA : (w.alloc (.cells #[.int .i64 0] 62)).cell? ⟨0, 0, none⟩ = some errV := by
    rw [World.cell?_alloc_lt _ _ ⟨0, 0, none⟩ hlt]; exact hg
  have htA : (w.alloc (.cells #[.int .i64 0] 62)).cell? ⟨w.heap.size, 0, none⟩ = some (.int .i64 0) := by simp
  have hfA : (w.alloc (.cells #[.int .i64 0] 62)).frozen? ⟨w.heap.size, 0, none⟩ = false := by simp
  go_enter Tryd.func15, Tryd.ntmps15
  go_wp2_with (first | (go_at_call 27; refine (as_hit c _ _ _ hgA htA hfA).mono ?_; rintro e w' ⟨rfl, rfl⟩))
  go_ret
  refine ⟨rfl, ?_⟩
  refine Below.alloc ?_ (by simp; omega) _
  refine Below.alloc ?_ (by simp; omega) _
  refine Below.alloc ?_ (by simp; omega) _
  refine Below.alloc ?_ (by simp) _
  exact (Below.refl w.heap.size w).alloc (Nat.le_refl _) _

end Go.Proofs.YtmjincdnhmkmhaaDoor
