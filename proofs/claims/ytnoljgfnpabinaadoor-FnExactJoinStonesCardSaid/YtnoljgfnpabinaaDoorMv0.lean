/- MoveStone: what it is, and the specification's side. No conditions beyond the ranges of the kinds. -/
import Derived.Test.YtnoljgfnpabinaaDoorTur1
set_option linter.unusedSimpArgs false
set_option linter.unusedVariables false
namespace Go.Proofs.YtnoljgfnpabinaaDoor
open Go.Sx Go.RowKit

variable {e : Nat → Value}

/-- A stone that is moved. -/
def mvC (ex sy : Int) (l : List Int) (i : Nat) : Int := l.getD i 0 + (if i % 2 = 0 then ex else sy)
theorem mvC0 {ex sy : Int} {l : List Int} {k : Nat} : mvC ex sy l (k * 2) = l.getD (k * 2) 0 + ex := by rw [mvC, if_pos (by omega)]
theorem mvC1 {ex sy : Int} {l : List Int} {k : Nat} : mvC ex sy l (k * 2 + 1) = l.getD (k * 2 + 1) 0 + sy := by rw [mvC, if_neg (by omega)]
/-- Are the first k corners places then? -/
def MvQ (ex sy : Int) (l : List Int) (k : Nat) : Prop := ∀ i, i < k → (-1000 ≤ mvC ex sy l (i * 2) ∧ mvC ex sy l (i * 2) ≤ 1000) ∧ -1000 ≤ mvC ex sy l (i * 2 + 1) ∧ mvC ex sy l (i * 2 + 1) ≤ 1000
def plN (x : Int) : Prop := -1000 ≤ x ∧ x ≤ 1000
open Classical in
noncomputable def mvE (ex sy : Int) (n : Nat) (l : List Int) : Int := if okB n l then (if plN ex ∧ plN sy then (if MvQ ex sy l n then 0 else 3) else 2) else 1
noncomputable def mvK (ex sy : Int) (n : Nat) (l : List Int) : Nat := if mvE ex sy n l = 0 then n else 0
noncomputable def mvF (ex sy : Int) (n : Nat) (l : List Int) : List Int := mkN (mvK ex sy n l * 2) (mvC ex sy l)
theorem mv_e {ex sy : Int} {n : Nat} {l : List Int} {E : Int} (h : mvE ex sy n l = E) (h0 : E ≠ 0) : mvK ex sy n l = 0 ∧ mvF ex sy n l = [] ∧ E = mvE ex sy n l := by
  have k : mvK ex sy n l = 0 := by rw [mvK, if_neg (by omega)]
  exact ⟨k, by rw [mvF, k]; rfl, h.symm⟩
theorem mv_1 {ex sy : Int} {n : Nat} {l : List Int} (h : okB n l = false) : mvE ex sy n l = 1 := by simp [mvE, h]
theorem mv_2 {ex sy : Int} {n : Nat} {l : List Int} (h : okB n l = true) (h2 : ¬ (plN ex ∧ plN sy)) : mvE ex sy n l = 2 := by rw [mvE, if_pos h, if_neg h2]
theorem mv_3 {ex sy : Int} {n : Nat} {l : List Int} (h : okB n l = true) (h2 : plN ex ∧ plN sy) (h3 : ¬ MvQ ex sy l n) : mvE ex sy n l = 3 := by rw [mvE, if_pos h, if_pos h2, if_neg h3]
theorem mv_0 {ex sy : Int} {n : Nat} {l : List Int} (h : okB n l = true) (h2 : plN ex ∧ plN sy) (h3 : MvQ ex sy l n) : mvE ex sy n l = 0 ∧ mvK ex sy n l = n ∧ mvF ex sy n l = mkN (n * 2) (mvC ex sy l) := by
  have e0 : mvE ex sy n l = 0 := by rw [mvE, if_pos h, if_pos h2, if_pos h3]
  have k0 : mvK ex sy n l = n := by rw [mvK, if_pos e0]
  exact ⟨e0, k0, by rw [mvF, k0]⟩
theorem mvQ_step {ex sy : Int} {l : List Int} {k : Nat} (h : MvQ ex sy l k) (hk : (-1000 ≤ mvC ex sy l (k * 2) ∧ mvC ex sy l (k * 2) ≤ 1000) ∧ -1000 ≤ mvC ex sy l (k * 2 + 1) ∧ mvC ex sy l (k * 2 + 1) ≤ 1000) : MvQ ex sy l (k + 1) := fun i hi => by
  rcases (show i < k ∨ i = k by omega) with h' | rfl
  · exact h i h'
  · exact hk

def lmMvS (ex sy : Int) (n : Nat) (l : List Int) : LAnn := { ι := Nat × Nat × List Int × Int, inv := fun _ x => x.1 ≤ n ∧ MvQ ex sy l x.1 ∧ Gs x.1 (mkN (x.1 * 2) (mvC ex sy l)) x.2.1 x.2.2.1 x.2.2.2, slots := fun _ x => [(8, .a (.c (.slc 2 0 0 2 x.1 x.2.2.2))), (9, .a (.c (.int .i64 x.1)))], blks := fun _ _ => [], μ := fun _ x => n - x.1, kills := [1], frs := fun _ x => [.cells true 35 [.run [.i16] x.2.1 x.2.2.1]], mv := fun st => [slotB st 8] }

end Go.Proofs.YtnoljgfnpabinaaDoor
