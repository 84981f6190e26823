/- What the listed variables hold: three tables of numbers and three errors. No conditions. -/
import Derived.Test.YtkfcedkenhpnlaaDoorSto1d
import Derived.Test.YtkfcedkenhpnlaaDoorRows
import Derived.Stop.LaidErr
import Derived.Lib.LaidTab
set_option linter.unusedSimpArgs false
set_option linter.unusedVariables false
namespace Go.Proofs.YtkfcedkenhpnlaaDoor
open Go.Sx Go.RowKit

theorem laid_row {P : Program} {n : String} {d : DataW Unit} {r : List (String × DataW Unit)} {W : World} {g : Nat} {x : Value} (h : laidMet P ((n, d) :: r) W) (hg : P.globalNamed n = some g) (hv : W.var? P n = some #[x]) :
    ∃ t, W.heap[g]? = some (.cells #[x] t (0, 0)) := by
  obtain ⟨ps, ⟨g0, t0, cs0, f0, p0, q0, hg0, ht0, hv0, hd0, _, e0⟩, _, hrows⟩ := h
  obtain rfl := Option.some.inj (hg.symm.trans hg0)
  have ec : cs0 = #[x] := Option.some.inj (hv0.symm.trans hv)
  subst ec
  subst e0
  obtain ⟨⟨c, t, hc⟩, _⟩ := hrows g 0 (by simp [MemPlace.row])
  have hc' : W.var? P n = some c := by simp [World.var?, hg, hc]
  rw [hc'] at hv
  obtain rfl := Option.some.inj hv
  exact ⟨t, hc⟩

theorem star : "*" ++ "errors.errorString" = "*errors.errorString" := by decide
theorem rowErr (u : TypeId) (h : Tryd.prog.typeName? 3 u = some "*errors.errorString") : u = 86 :=
  typeName_ptr_named (nm := "errors.errorString") (by rw [star]; kernel_rfl) (by kernel_rfl) (by decide) u (by rw [star]; exact h)
theorem cellsE : Tryd.prog.cellsOf 103 = 1 := by kernel_rfl
theorem cellsS : Tryd.prog.cellsOf 9 = 1 := by kernel_rfl

def lst3 : List (String × DataW Unit) := [("loop.example/g01322/impl.errPlaces", Rows.laid_loop_example_g01322_impl_errPlaces), ("loop.example/g01322/impl.errShape", Rows.laid_loop_example_g01322_impl_errShape), ("loop.example/g01322/impl.errCorners", Rows.laid_loop_example_g01322_impl_errCorners)]

def lst : List (String × DataW Unit) := [("math/bits.deBruijn32tab", Rows.laid_math_bits_deBruijn32tab), ("math/bits.deBruijn64tab", Rows.laid_math_bits_deBruijn64tab), ("internal/strconv.uint64pow10", Rows.laid_internal_strconv_uint64pow10)] ++ lst3
theorem pow_data : (Rows.laid_internal_strconv_uint64pow10 : DataW Unit) = Lib.tabData .u64 Lib.pow10Tab := rfl
theorem pow_named : Tryd.prog.globalNamed "internal/strconv.uint64pow10" = some 3 := by kernel_rfl
theorem pow_of {W : World} (h : laidMet Tryd.prog lst W) : ∃ t fr, W.heap[3]? = some (.cells (Lib.pow10Tab.map fun z => Value.int .u64 z).toArray t fr) := by
  have h3 : laidMet Tryd.prog (("internal/strconv.uint64pow10", Lib.tabData .u64 Lib.pow10Tab) :: lst3) W := h.tail.tail
  have ht : Lib.TabIs Tryd.prog W "internal/strconv.uint64pow10" .u64 Lib.pow10Tab :=
    Lib.tabIs_of_head (t := 77) (e := 64) (n := 20) pow_named (by kernel_rfl) Tryd.underlying77 Tryd.underlying64 (by kernel_rfl) (by kernel_rfl) h3
  have e5 := ht
  unfold Lib.TabIs World.var? at e5
  rw [pow_named, Option.bind_some] at e5
  split at e5
  · rename_i cs t fr hc
    simp only [Option.some.injEq] at e5
    subst e5
    exact ⟨t, fr, hc⟩
  · cases e5

theorem noTx {g : Nat} {cs : Array Value} (h : g ≠ 3) : ∀ l, txT g = some l → cs.toList = l := by
  intro l hl
  unfold txT at hl
  rw [if_neg h] at hl
  cases hl
theorem sentinels {W : World} (hh : laidMet Tryd.prog lst W) : ∃ e : Nat → Value, GOk (TT e) (Base.pl W) := by
  obtain ⟨tp, fp, ep⟩ := pow_of hh
  have h : laidMet Tryd.prog lst3 W := hh.tail.tail.tail
  obtain ⟨a0, s0, v0, _⟩ := laid_sentinel (g := 0) (ti := 44) h (by kernel_rfl) (by kernel_rfl) Tryd.underlying44 rowErr Tryd.underlying86 Tryd.underlying103 rfl rfl Tryd.underlying9 cellsE cellsS
  obtain ⟨a1, s1, v1, _⟩ := laid_sentinel (g := 1) (ti := 44) h.tail (by kernel_rfl) (by kernel_rfl) Tryd.underlying44 rowErr Tryd.underlying86 Tryd.underlying103 rfl rfl Tryd.underlying9 cellsE cellsS
  obtain ⟨a2, s2, v2, _⟩ := laid_sentinel (g := 2) (ti := 44) h.tail.tail (by kernel_rfl) (by kernel_rfl) Tryd.underlying44 rowErr Tryd.underlying86 Tryd.underlying103 rfl rfl Tryd.underlying9 cellsE cellsS
  obtain ⟨t0, h0⟩ := laid_row h (g := 0) (by kernel_rfl) v0
  obtain ⟨t1, h1⟩ := laid_row h.tail (g := 1) (by kernel_rfl) v1
  obtain ⟨t2, h2⟩ := laid_row h.tail.tail (g := 2) (by kernel_rfl) v2
  refine ⟨fun g => if g = 0 then .pointer (some a0) else if g = 1 then .pointer (some a1) else .pointer (some a2), fun g v hg u hu => ?_⟩
  have hu : Below W.heap.size W u := hu
  have k : ∀ {g : Nat} {x : Value} {t : TypeId}, W.heap[g]? = some (.cells #[x] t (0, 0)) → u.heap[g]? = some (.cells #[x] t (0, 0)) := fun hh => (hu.block _ (Array.getElem?_eq_some_iff.1 hh).1).trans hh
  match g, hg with
  | 0, hg => simp only [TT, Option.some.injEq] at hg; subst hg; first | exact ⟨t0, _, _, k h0, rfl, fun _ => rfl, fun l hl => noTx (g := 0) (by decide) l hl⟩ | exact ⟨t1, _, _, k h1, rfl, fun _ => rfl, fun l hl => noTx (g := 1) (by decide) l hl⟩ | exact ⟨t2, _, _, k h2, rfl, fun _ => rfl, fun l hl => noTx (g := 2) (by decide) l hl⟩
  | 1, hg => simp only [TT, Option.some.injEq] at hg; subst hg; first | exact ⟨t0, _, _, k h0, rfl, fun _ => rfl, fun l hl => noTx (g := 0) (by decide) l hl⟩ | exact ⟨t1, _, _, k h1, rfl, fun _ => rfl, fun l hl => noTx (g := 1) (by decide) l hl⟩ | exact ⟨t2, _, _, k h2, rfl, fun _ => rfl, fun l hl => noTx (g := 2) (by decide) l hl⟩
  | 2, hg => simp only [TT, Option.some.injEq] at hg; subst hg; first | exact ⟨t0, _, _, k h0, rfl, fun _ => rfl, fun l hl => noTx (g := 0) (by decide) l hl⟩ | exact ⟨t1, _, _, k h1, rfl, fun _ => rfl, fun l hl => noTx (g := 1) (by decide) l hl⟩ | exact ⟨t2, _, _, k h2, rfl, fun _ => rfl, fun l hl => noTx (g := 2) (by decide) l hl⟩
  | 3, hg =>
    simp only [TT, Option.some.injEq] at hg; subst hg
    refine ⟨tp, fp, _, (hu.block _ (Array.getElem?_eq_some_iff.1 ep).1).trans ep, rfl, fun h => (by cases h), fun l hl => ?_⟩
    have hl : txT 3 = some l := hl
    unfold txT at hl
    rw [if_pos rfl] at hl
    obtain rfl := Option.some.inj hl
    rfl
  | _ + 4, hg => simp [TT] at hg

theorem three_vars {H : Type} {enc : TypeId × Value → H} {P : Program} {W : World} {sp : Nat → Bool} {a b c : String} {gs : List (DataW H)} {q : List MemPlace} (h : DataW.TrodVars enc P W sp [a, b, c] gs q) : ∃ g1 g2 g3 : DataW H, gs = [g1, g2, g3] := by
  match gs, h with
  | [], h => exact h.elim
  | [_], h => obtain ⟨_, _, _, _, _, _, _, _, _, _, h, _⟩ := h; exact h.elim
  | [_, _], h => obtain ⟨_, _, _, _, _, _, _, _, _, _, h, _⟩ := h; obtain ⟨_, _, _, _, _, _, _, _, _, _, h, _⟩ := h; exact h.elim
  | [g1, g2, g3], _ => exact ⟨g1, g2, g3, rfl⟩
  | _ :: _ :: _ :: _ :: _, h => obtain ⟨_, _, _, _, _, _, _, _, _, _, h, _⟩ := h; obtain ⟨_, _, _, _, _, _, _, _, _, _, h, _⟩ := h; obtain ⟨_, _, _, _, _, _, _, _, _, _, h, _⟩ := h; exact h.elim

end Go.Proofs.YtkfcedkenhpnlaaDoor
