/- What the listed variables hold: three errors. No conditions. -/
import Derived.Test.YtnoljgfnpabinaaDoorSto1d
import Derived.Test.YtnoljgfnpabinaaDoorRows
import Derived.Stop.LaidErr
set_option linter.unusedSimpArgs false
set_option linter.unusedVariables false
namespace Go.Proofs.YtnoljgfnpabinaaDoor
open Go.Sx Go.RowKit

theorem laid_row {P : Program} {n : String} {d : DataW Unit} {r : List (String × DataW Unit)} {W : World} {g : Nat} {x : Value} (h : laidMet P ((n, d) :: r) W) (hg : P.globalNamed n = some g) (hv : W.var? P n = some #[x]) :
    ∃ t, W.heap[g]? = some (.cells #[x] t (0, 0)) := by
  obtain ⟨ps, ⟨g0, t0, cs0, f0, p0, q0, hg0, ht0, hv0, hd0, _, e0⟩, _, hrows⟩ := h
  obtain rfl := Option.some.inj (hg.symm.trans hg0)
  have ec : cs0 = #[x] := Option.some.inj (hv0.symm.trans hv)
  subst ec
  subst e0
  obtain ⟨⟨c, t, hc⟩, _⟩ := hrows g 0 (by simp [MemPlace.row])
  have hc' : W.var? P n = some c := by simp [World.var?, hg, hc]
  rw [hc'] at hv
  obtain rfl := Option.some.inj hv
  exact ⟨t, hc⟩

theorem star : "*" ++ "errors.errorString" = "*errors.errorString" := by decide
theorem rowErr (u : TypeId) (h : Tryd.prog.typeName? 3 u = some "*errors.errorString") : u = 77 :=
  typeName_ptr_named (nm := "errors.errorString") (by rw [star]; kernel_rfl) (by kernel_rfl) (by decide) u (by rw [star]; exact h)
theorem cellsE : Tryd.prog.cellsOf 105 = 1 := by kernel_rfl
theorem cellsS : Tryd.prog.cellsOf 9 = 1 := by kernel_rfl

def lst : List (String × DataW Unit) := [("loop.example/g01322/impl.errPlaces", Rows.laid_loop_example_g01322_impl_errPlaces), ("loop.example/g01322/impl.errShape", Rows.laid_loop_example_g01322_impl_errShape), ("loop.example/g01322/impl.errCorners", Rows.laid_loop_example_g01322_impl_errCorners)]

theorem sentinels {W : World} (h : laidMet Tryd.prog lst W) : ∃ e : Nat → Value, GOk (TT e) (Base.pl W) := by
  obtain ⟨a0, s0, v0, _⟩ := laid_sentinel (g := 1) (ti := 53) h (by kernel_rfl) (by kernel_rfl) Tryd.underlying53 rowErr Tryd.underlying77 Tryd.underlying105 rfl rfl Tryd.underlying9 cellsE cellsS
  obtain ⟨a1, s1, v1, _⟩ := laid_sentinel (g := 0) (ti := 53) h.tail (by kernel_rfl) (by kernel_rfl) Tryd.underlying53 rowErr Tryd.underlying77 Tryd.underlying105 rfl rfl Tryd.underlying9 cellsE cellsS
  obtain ⟨a2, s2, v2, _⟩ := laid_sentinel (g := 2) (ti := 53) h.tail.tail (by kernel_rfl) (by kernel_rfl) Tryd.underlying53 rowErr Tryd.underlying77 Tryd.underlying105 rfl rfl Tryd.underlying9 cellsE cellsS
  obtain ⟨t0, h0⟩ := laid_row h (g := 1) (by kernel_rfl) v0
  obtain ⟨t1, h1⟩ := laid_row h.tail (g := 0) (by kernel_rfl) v1
  obtain ⟨t2, h2⟩ := laid_row h.tail.tail (g := 2) (by kernel_rfl) v2
  refine ⟨fun g => if g = 1 then .pointer (some a0) else if g = 0 then .pointer (some a1) else .pointer (some a2), fun g v hg u hu => ?_⟩
  have hu : Below W.heap.size W u := hu
  have k : ∀ {g : Nat} {x : Value} {t : TypeId}, W.heap[g]? = some (.cells #[x] t (0, 0)) → u.heap[g]? = some (.cells #[x] t (0, 0)) := fun hh => (hu.block _ (Array.getElem?_eq_some_iff.1 hh).1).trans hh
  match g, hg with
  | 0, hg => simp only [TT, Option.some.injEq] at hg; subst hg; first | exact ⟨t0, _, k h0⟩ | exact ⟨t1, _, k h1⟩ | exact ⟨t2, _, k h2⟩ | exact ⟨t0, _, _, k h0, rfl, fun _ => rfl⟩ | exact ⟨t0, _, _, k h0, rfl, fun _ => rfl, fun _ h => by cases h⟩ | exact ⟨t1, _, _, k h1, rfl, fun _ => rfl⟩ | exact ⟨t1, _, _, k h1, rfl, fun _ => rfl, fun _ h => by cases h⟩ | exact ⟨t2, _, _, k h2, rfl, fun _ => rfl⟩ | exact ⟨t2, _, _, k h2, rfl, fun _ => rfl, fun _ h => by cases h⟩
  | 1, hg => simp only [TT, Option.some.injEq] at hg; subst hg; first | exact ⟨t0, _, k h0⟩ | exact ⟨t1, _, k h1⟩ | exact ⟨t2, _, k h2⟩ | exact ⟨t0, _, _, k h0, rfl, fun _ => rfl⟩ | exact ⟨t0, _, _, k h0, rfl, fun _ => rfl, fun _ h => by cases h⟩ | exact ⟨t1, _, _, k h1, rfl, fun _ => rfl⟩ | exact ⟨t1, _, _, k h1, rfl, fun _ => rfl, fun _ h => by cases h⟩ | exact ⟨t2, _, _, k h2, rfl, fun _ => rfl⟩ | exact ⟨t2, _, _, k h2, rfl, fun _ => rfl, fun _ h => by cases h⟩
  | 2, hg => simp only [TT, Option.some.injEq] at hg; subst hg; first | exact ⟨t0, _, k h0⟩ | exact ⟨t1, _, k h1⟩ | exact ⟨t2, _, k h2⟩ | exact ⟨t0, _, _, k h0, rfl, fun _ => rfl⟩ | exact ⟨t0, _, _, k h0, rfl, fun _ => rfl, fun _ h => by cases h⟩ | exact ⟨t1, _, _, k h1, rfl, fun _ => rfl⟩ | exact ⟨t1, _, _, k h1, rfl, fun _ => rfl, fun _ h => by cases h⟩ | exact ⟨t2, _, _, k h2, rfl, fun _ => rfl⟩ | exact ⟨t2, _, _, k h2, rfl, fun _ => rfl, fun _ h => by cases h⟩
  | _ + 3, hg => simp [TT] at hg

theorem three_vars {H : Type} {enc : TypeId × Value → H} {P : Program} {W : World} {sp : Nat → Bool} {a b c : String} {gs : List (DataW H)} {q : List MemPlace} (h : DataW.TrodVars enc P W sp [a, b, c] gs q) : ∃ g1 g2 g3 : DataW H, gs = [g1, g2, g3] := by
  match gs, h with
  | [], h => exact h.elim
  | [_], h => obtain ⟨_, _, _, _, _, _, _, _, _, _, h, _⟩ := h; exact h.elim
  | [_, _], h => obtain ⟨_, _, _, _, _, _, _, _, _, _, h, _⟩ := h; obtain ⟨_, _, _, _, _, _, _, _, _, _, h, _⟩ := h; exact h.elim
  | [g1, g2, g3], _ => exact ⟨g1, g2, g3, rfl⟩
  | _ :: _ :: _ :: _ :: _, h => obtain ⟨_, _, _, _, _, _, _, _, _, _, h, _⟩ := h; obtain ⟨_, _, _, _, _, _, _, _, _, _, h, _⟩ := h; obtain ⟨_, _, _, _, _, _, _, _, _, _, h, _⟩ := h; exact h.elim

end Go.Proofs.YtnoljgfnpabinaaDoor
