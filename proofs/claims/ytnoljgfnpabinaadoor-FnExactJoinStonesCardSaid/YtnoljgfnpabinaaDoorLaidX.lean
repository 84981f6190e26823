/- What the listed variables hold: three errors, each one in a block of its own. No conditions. -/
import Derived.Test.YtnoljgfnpabinaaDoorLaid
import Derived.Test.YtnoljgfnpabinaaDoorMv1
import Derived.Stop.LaidTwo
set_option linter.unusedSimpArgs false
set_option linter.unusedVariables false
namespace Go.Proofs.YtnoljgfnpabinaaDoor
open Go.Sx Go.RowKit

/-- What lies first in a block. -/
def cOf (W : World) (g : Nat) : Value := match W.heap[g]? with
  | some (.cells cs _ _) => cs.getD 0 (.bool false)
  | _ => .bool false
theorem cOf_at {W : World} {x : Addr} {v : Value} {cs : Array Value} {t : TypeId} {fr : Nat × Nat} (h : W.cell? x = some v) (hb : W.heap[x.block]? = some (.cells cs t fr)) : cs[0]? = some (cOf W x.block) := by
  have hz : 0 < cs.size := by
    simp only [World.cell?, hb] at h
    split at h
    · cases h
    · have := (Array.getElem?_eq_some_iff.1 h).1
      omega
  rw [cOf, hb]
  simp [Array.getD, hz]

theorem sentinelsX {W : World} (h : laidMet Tryd.prog lst W) : ∃ (a : Nat → Addr) (c : Nat → Value), (a 0 ≠ a 1 ∧ a 1 ≠ a 2 ∧ a 0 ≠ a 2) ∧ GOk (TTx a c) (Base.pl W) := by
  obtain ⟨aP, aS, sP, sS, cP, cS, tP, tS, vP, vS, oP, xP, _, oS, xS, _, nPS, bP, bS⟩ := laid_sentinels2 (g0 := 1) (g1 := 0) (ti := 53) h (by kernel_rfl) (by kernel_rfl) (by kernel_rfl) (by kernel_rfl) Tryd.underlying53 rowErr Tryd.underlying77 Tryd.underlying105 rfl rfl Tryd.underlying9 cellsE cellsS
  obtain ⟨aS', aC, sS', sC, cS', cC, tS', tC, vS', vC, oS', xS', _, oC, xC, _, nSC, bS', bC⟩ := laid_sentinels2 (g0 := 0) (g1 := 2) (ti := 53) h.tail (by kernel_rfl) (by kernel_rfl) (by kernel_rfl) (by kernel_rfl) Tryd.underlying53 rowErr Tryd.underlying77 Tryd.underlying105 rfl rfl Tryd.underlying9 cellsE cellsS
  have eS : aS' = aS := by
    rw [vS] at vS'
    simpa using vS'.symm
  subst eS
  have nPC : aP ≠ aC := by
    intro e
    rw [e, oC] at oP
    have e2 : sC = sP := by simpa using oP
    rw [e2, xP] at xC
    exact absurd xC (by decide)
  obtain ⟨t0, h0⟩ := laid_row h (g := 1) (by kernel_rfl) vP
  obtain ⟨t1, h1⟩ := laid_row h.tail (g := 0) (by kernel_rfl) vS
  obtain ⟨t2, h2⟩ := laid_row h.tail.tail (g := 2) (by kernel_rfl) vC
  refine ⟨fun i => if i = 0 then aS' else if i = 1 then aP else aC, cOf W, ⟨fun e => nPS e.symm, nPC, nSC⟩, fun g v hg u hu => ?_⟩
  have hu : Below W.heap.size W u := hu
  have k : ∀ {g : Nat} {o : Obj}, W.heap[g]? = some o → u.heap[g]? = some o := fun hh => (hu.block _ (Array.getElem?_eq_some_iff.1 hh).1).trans hh
  have hb : ∀ {g : Nat} {x : Addr} {v : Value} {cs : Array Value} {t : TypeId}, g = x.block → W.cell? x = some v → W.heap[x.block]? = some (.cells cs t (0, 0)) → ∃ (t : TypeId) (cs : Array Value), u.heap[g]? = some (.cells cs t (0, 0)) ∧ cs[0]? = some (cOf W g) := fun {g x v cs t} e ho hh => by
    subst e
    exact ⟨t, _, k hh, cOf_at ho hh⟩
  match g, hg with
  | 0, hg => simp only [TTx, Option.some.injEq] at hg; subst hg; first | exact ⟨t1, _, _, k h1, rfl, fun _ => rfl⟩ | exact ⟨t1, _, _, k h1, rfl, fun _ => rfl, fun _ h => by cases h⟩ | exact ⟨t0, _, _, k h0, rfl, fun _ => rfl⟩ | exact ⟨t0, _, _, k h0, rfl, fun _ => rfl, fun _ h => by cases h⟩ | exact ⟨t2, _, _, k h2, rfl, fun _ => rfl⟩ | exact ⟨t2, _, _, k h2, rfl, fun _ => rfl, fun _ h => by cases h⟩
  | 1, hg => simp only [TTx, Option.some.injEq] at hg; subst hg; first | exact ⟨t0, _, _, k h0, rfl, fun _ => rfl⟩ | exact ⟨t0, _, _, k h0, rfl, fun _ => rfl, fun _ h => by cases h⟩ | exact ⟨t1, _, _, k h1, rfl, fun _ => rfl⟩ | exact ⟨t1, _, _, k h1, rfl, fun _ => rfl, fun _ h => by cases h⟩ | exact ⟨t2, _, _, k h2, rfl, fun _ => rfl⟩ | exact ⟨t2, _, _, k h2, rfl, fun _ => rfl, fun _ h => by cases h⟩
  | 2, hg => simp only [TTx, Option.some.injEq] at hg; subst hg; first | exact ⟨t2, _, _, k h2, rfl, fun _ => rfl⟩ | exact ⟨t2, _, _, k h2, rfl, fun _ => rfl, fun _ h => by cases h⟩ | exact ⟨t0, _, _, k h0, rfl, fun _ => rfl⟩ | exact ⟨t0, _, _, k h0, rfl, fun _ => rfl, fun _ h => by cases h⟩ | exact ⟨t1, _, _, k h1, rfl, fun _ => rfl⟩ | exact ⟨t1, _, _, k h1, rfl, fun _ => rfl, fun _ h => by cases h⟩
  | g + 3, hg =>
    have hg : (if isB (fun i => if i = 0 then aS' else if i = 1 then aP else aC) (g + 3) = true then some (cOf W (g + 3)) else none) = some v := hg
    split at hg
    · rename_i hi
      obtain rfl := Option.some.inj hg
      simp only [isB, Bool.or_eq_true, beq_iff_eq] at hi
      have hq : ∃ (t : TypeId) (cs : Array Value), u.heap[g + 3]? = some (.cells cs t (0, 0)) ∧ cs[0]? = some (cOf W (g + 3)) := by
        rcases hi with (hi | hi) | hi
        · exact hb (x := aS') hi oS bS
        · exact hb (x := aP) hi oP bP
        · exact hb (x := aC) hi oC bC
      obtain ⟨t, cs, q1, q2⟩ := hq
      first | exact ⟨t, _, cs, q1, q2, fun _ => rfl⟩ | exact ⟨t, _, cs, q1, q2, fun _ => rfl, fun _ h => by cases h⟩
    · cases hg

end Go.Proofs.YtnoljgfnpabinaaDoor
