/- What the listed variables hold, and the one of which only the kind is known. No conditions. -/
import Derived.Test.YtdefimnflpceeaaDoorSpl
import Derived.Test.YtdefimnflpceeaaDoorRows
set_option linter.unusedSimpArgs false
set_option linter.unusedVariables false
namespace Go.Proofs.YtdefimnflpceeaaDoor
open Go.Sx Go.RowKit
variable {mx : Nat → Value}

def lst : List (String × DataW Unit) := [("unicode/utf8.acceptRanges", Rows.laid_unicode_utf8_acceptRanges), ("unicode/utf8.first", Rows.laid_unicode_utf8_first)]
theorem block_of_cell {W : World} {g : Nat} {v : Value} (h : W.cell? ⟨g, 0, none⟩ = some v) : ∃ t fr cs, W.heap[g]? = some (.cells cs t fr) ∧ cs[0]? = some v := by
  unfold World.cell? at h
  split at h
  · rename_i cs t fr hc
    exact ⟨t, fr, cs, hc, h⟩
  · cases h
theorem laid_gok {W : World} (_ : laidMet Tryd.prog lst W) (hsh : W.ShapedOpen Tryd.prog) : ∃ mx : Nat → Value, GOk (TT mx) (Base.pl W) := by
  obtain ⟨m, hm⟩ := laySplitN.s1_3 W hsh
  obtain ⟨t, fr, cs, h1, h2⟩ := block_of_cell hm
  refine ⟨fun _ => .int .i64 m, fun g v hg u hu => ?_⟩
  have hu : Below W.heap.size W u := hu
  have hg : gvT (fun _ => .int .i64 m) g = some v := hg
  unfold gvT at hg
  split at hg
  · rename_i e
    cases e
    obtain rfl := Option.some.inj hg
    exact ⟨t, fr, cs, (hu.block _ (Array.getElem?_eq_some_iff.1 h1).1).trans h1, h2, fun h => (by cases h), fun l hl => (by cases hl)⟩
  · cases hg

end Go.Proofs.YtdefimnflpceeaaDoor
