/- What the listed variables hold: three tables of numbers that are nowhere read but one, two errors of the library; and the one of which only the kind is known. No conditions. -/
import Derived.Test.YtkkfnfhidhoajaaDoorNuc
import Derived.Test.YtkkfnfhidhoajaaDoorRows
import Derived.Stop.LaidErr
import Derived.Lib.LaidTab
set_option linter.unusedSimpArgs false
set_option linter.unusedVariables false
namespace Go.Proofs.YtkkfnfhidhoajaaDoor
open Go.Sx Go.RowKit
variable {mx : Nat → Value}

theorem laid_row {P : Program} {n : String} {d : DataW Unit} {r : List (String × DataW Unit)} {W : World} {g : Nat} {x : Value} (h : laidMet P ((n, d) :: r) W) (hg : P.globalNamed n = some g) (hv : W.var? P n = some #[x]) :
    ∃ t, W.heap[g]? = some (.cells #[x] t (0, 0)) := by
  obtain ⟨ps, ⟨g0, t0, cs0, f0, p0, q0, hg0, ht0, hv0, hd0, _, e0⟩, _, hrows⟩ := h
  obtain rfl := Option.some.inj (hg.symm.trans hg0)
  have ec : cs0 = #[x] := Option.some.inj (hv0.symm.trans hv)
  subst ec
  subst e0
  obtain ⟨⟨c, t, hc⟩, _⟩ := hrows g 0 (by simp [MemPlace.row])
  have hc' : W.var? P n = some c := by simp [World.var?, hg, hc]
  rw [hc'] at hv
  obtain rfl := Option.some.inj hv
  exact ⟨t, hc⟩

theorem star : "*" ++ "errors.errorString" = "*errors.errorString" := by decide
theorem rowErr (u : TypeId) (h : Tryd.prog.typeName? 3 u = some "*errors.errorString") : u = 134 :=
  typeName_ptr_named (nm := "errors.errorString") (by rw [star]; kernel_rfl) (by kernel_rfl) (by decide) u (by rw [star]; exact h)
theorem cellsE : Tryd.prog.cellsOf 136 = 1 := by kernel_rfl
theorem cellsS : Tryd.prog.cellsOf 9 = 1 := by kernel_rfl

def lst2 : List (String × DataW Unit) := [("unicode/utf8.acceptRanges", Rows.laid_unicode_utf8_acceptRanges), ("strconv.ErrRange", Rows.laid_strconv_ErrRange), ("strconv.ErrSyntax", Rows.laid_strconv_ErrSyntax), ("unicode/utf8.first", Rows.laid_unicode_utf8_first)]
def lst : List (String × DataW Unit) := [("math/bits.deBruijn32tab", Rows.laid_math_bits_deBruijn32tab), ("math/bits.deBruijn64tab", Rows.laid_math_bits_deBruijn64tab), ("internal/strconv.uint64pow10", Rows.laid_internal_strconv_uint64pow10)] ++ lst2
theorem pow_data : (Rows.laid_internal_strconv_uint64pow10 : DataW Unit) = Lib.tabData .u64 Lib.pow10Tab := rfl
theorem pow_named : Tryd.prog.globalNamed "internal/strconv.uint64pow10" = some 3 := by kernel_rfl
theorem pow_of {W : World} (h : laidMet Tryd.prog lst W) : ∃ t fr, W.heap[3]? = some (.cells (Lib.pow10Tab.map fun z => Value.int .u64 z).toArray t fr) := by
  have h3 : laidMet Tryd.prog (("internal/strconv.uint64pow10", Lib.tabData .u64 Lib.pow10Tab) :: lst2) W := h.tail.tail
  have ht : Lib.TabIs Tryd.prog W "internal/strconv.uint64pow10" .u64 Lib.pow10Tab :=
    Lib.tabIs_of_head (t := 120) (e := 86) (n := 20) pow_named (by kernel_rfl) Tryd.underlying120 Tryd.underlying86 (by kernel_rfl) (by kernel_rfl) h3
  have e5 := ht
  unfold Lib.TabIs World.var? at e5
  rw [pow_named, Option.bind_some] at e5
  split at e5
  · rename_i cs t fr hc
    simp only [Option.some.injEq] at e5
    subst e5
    exact ⟨t, fr, hc⟩
  · cases e5
theorem tail3 {W : World} (h : laidMet Tryd.prog lst W) : laidMet Tryd.prog lst2 W := h.tail.tail.tail
theorem noTx {g : Nat} {cs : Array Value} (h : g ≠ 3) : ∀ l, txT g = some l → cs.toList = l := by
  intro l hl
  unfold txT at hl
  rw [if_neg h] at hl
  cases hl
theorem block_of_cell {W : World} {g : Nat} {v : Value} (h : W.cell? ⟨g, 0, none⟩ = some v) : ∃ t fr cs, W.heap[g]? = some (.cells cs t fr) ∧ cs[0]? = some v := by
  unfold World.cell? at h
  split at h
  · rename_i cs t fr hc
    exact ⟨t, fr, cs, hc, h⟩
  · cases h
def mxW (m : Int) (a b : Value) : Nat → Value := fun g => if g = 1 then a else if g = 2 then b else .int .i64 m
theorem laid_gok {W : World} (hh : laidMet Tryd.prog lst W) (hsh : W.ShapedOpen Tryd.prog) : ∃ mx : Nat → Value, GOk (TT mx) (Base.pl W) := by
  obtain ⟨m, hm⟩ := laySplitN.s1_3 W hsh
  obtain ⟨t, fr, cs, h1, h2⟩ := block_of_cell hm
  obtain ⟨tp, fp, ep⟩ := pow_of hh
  have h := tail3 hh
  obtain ⟨a0, s0, v0, _⟩ := laid_sentinel (g := 2) (ti := 54) h.tail (by kernel_rfl) (by kernel_rfl) Tryd.underlying54 rowErr Tryd.underlying134 Tryd.underlying136 rfl rfl Tryd.underlying9 cellsE cellsS
  obtain ⟨a1, s1, v1, _⟩ := laid_sentinel (g := 1) (ti := 54) h.tail.tail (by kernel_rfl) (by kernel_rfl) Tryd.underlying54 rowErr Tryd.underlying134 Tryd.underlying136 rfl rfl Tryd.underlying9 cellsE cellsS
  obtain ⟨t0, h0⟩ := laid_row h.tail (g := 2) (by kernel_rfl) v0
  obtain ⟨t1, h1'⟩ := laid_row h.tail.tail (g := 1) (by kernel_rfl) v1
  refine ⟨mxW m (.pointer (some a1)) (.pointer (some a0)), fun g v hg u hu => ?_⟩
  have hu : Below W.heap.size W u := hu
  have k : ∀ {g : Nat} {x : Array Value} {t : TypeId} {f : Nat × Nat}, W.heap[g]? = some (.cells x t f) → u.heap[g]? = some (.cells x t f) := fun hh => (hu.block _ (Array.getElem?_eq_some_iff.1 hh).1).trans hh
  have hg : gvT (mxW m (.pointer (some a1)) (.pointer (some a0))) g = some v := hg
  unfold gvT at hg
  split at hg
  · rename_i e
    cases e
    obtain rfl := Option.some.inj hg
    exact ⟨t1, _, _, k h1', rfl, fun _ => rfl, fun l hl => noTx (g := 1) (by decide) l hl⟩
  · split at hg
    · rename_i e
      cases e
      obtain rfl := Option.some.inj hg
      exact ⟨t0, _, _, k h0, rfl, fun _ => rfl, fun l hl => noTx (g := 2) (by decide) l hl⟩
    · split at hg
      · rename_i e
        cases e
        obtain rfl := Option.some.inj hg
        exact ⟨t, fr, cs, k h1, h2, fun h => (by cases h), fun l hl => noTx (g := 0) (by decide) l hl⟩
      · unfold gvP at hg
        split at hg
        · rename_i e
          cases e
          obtain rfl := Option.some.inj hg
          refine ⟨tp, fp, _, k ep, rfl, fun h => (by cases h), fun l hl => ?_⟩
          have hl : txT 3 = some l := hl
          unfold txT at hl
          rw [if_pos rfl] at hl
          obtain rfl := Option.some.inj hl
          rfl
        · cases hg

end Go.Proofs.YtkkfnfhidhoajaaDoor
