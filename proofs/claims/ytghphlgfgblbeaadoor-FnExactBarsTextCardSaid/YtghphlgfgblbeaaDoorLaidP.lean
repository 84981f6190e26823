/- What the listed variables hold: tables of numbers. No conditions. -/
import Derived.Test.YtghphlgfgblbeaaDoorTt
import Derived.Test.YtghphlgfgblbeaaDoorRows
import Derived.Lib.LaidTab
import Derived.Stop.LaidErr
set_option linter.unusedSimpArgs false
set_option linter.unusedVariables false
namespace Go.Proofs.YtghphlgfgblbeaaDoor
open Go.Sx Go.RowKit

def lst : List (String × DataW Unit) := [("math/bits.deBruijn32tab", Rows.laid_math_bits_deBruijn32tab), ("math/bits.deBruijn64tab", Rows.laid_math_bits_deBruijn64tab), ("internal/strconv.uint64pow10", Rows.laid_internal_strconv_uint64pow10)]
theorem pow_data : (Rows.laid_internal_strconv_uint64pow10 : DataW Unit) = Lib.tabData .u64 Lib.pow10Tab := rfl
theorem pow_named : Tryd.prog.globalNamed "internal/strconv.uint64pow10" = some 0 := by kernel_rfl

theorem laid_gok {W : World} (h : laidMet Tryd.prog lst W) : GOk TT (Base.pl W) := by
  have h3 : laidMet Tryd.prog [("internal/strconv.uint64pow10", Lib.tabData .u64 Lib.pow10Tab)] W := h.tail.tail
  have ht : Lib.TabIs Tryd.prog W "internal/strconv.uint64pow10" .u64 Lib.pow10Tab :=
    Lib.tabIs_of_head (t := 57) (e := 50) (n := 20) pow_named (by kernel_rfl) Tryd.underlying57 Tryd.underlying50 (by kernel_rfl) (by kernel_rfl) h3
  have e6 : ∃ t fr, W.heap[0]? = some (.cells (Lib.pow10Tab.map fun z => Value.int .u64 z).toArray t fr) := by
    have e5 := ht
    unfold Lib.TabIs World.var? at e5
    rw [pow_named, Option.bind_some] at e5
    split at e5
    · rename_i cs t fr hc
      simp only [Option.some.injEq] at e5
      subst e5
      exact ⟨t, fr, hc⟩
    · cases e5
  obtain ⟨t, fr, e6⟩ := e6
  intro g v hg u hu
  have hu : Below W.heap.size W u := hu
  have hg : gvP g = some v := hg
  unfold gvP at hg
  split at hg
  · rename_i e
    cases e
    obtain rfl := Option.some.inj hg
    refine ⟨t, fr, _, (hu.block _ (Array.getElem?_eq_some_iff.1 e6).1).trans e6, rfl, fun h => (by cases h), fun l hl => ?_⟩
    have hl : txT 0 = some l := hl
    unfold txT at hl
    rw [if_pos rfl] at hl
    obtain rfl := Option.some.inj hl
    rfl
  · cases hg

end Go.Proofs.YtghphlgfgblbeaaDoor
