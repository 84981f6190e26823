/- TurnStone: both sides. No conditions beyond the ranges of the kinds. -/
import Derived.Test.YtnoljgfnpabinaaDoorMst
set_option linter.unusedSimpArgs false
set_option linter.unusedVariables false
namespace Go.Proofs.YtnoljgfnpabinaaDoor
open Go.Sx Go.RowKit

variable {e : Nat → Value}

/-- A stone that is turned. -/
def tuC (l : List Int) (i : Nat) : Int := if i % 2 = 0 then -(l.getD (i + 1) 0) else l.getD (i - 1) 0
noncomputable def tuK (n : Nat) (l : List Int) : Nat := if okB n l then n else 0
noncomputable def tuF (n : Nat) (l : List Int) : List Int := mkN (tuK n l * 2) (tuC l)
noncomputable def tuE (n : Nat) (l : List Int) : Int := if okB n l then 0 else 1

noncomputable def ILtz  : List (FuncId × Func × (Nat → LM)) := [
  ]
theorem ILtz_ok  : InlsOk Tryd.prog ILtz := trivial

def chF (n : Nat) (f : Nat → Int) (k : Nat) (i : Nat) : Int := if i < k * 2 then f i else 0
theorem ch_step {n k : Nat} {f : Nat → Int} {x y : Int} (hk : k < n) (hx : x = f (k * 2)) (hy : y = f (k * 2 + 1)) :
    List.take (k * 2) (mkN (n * 2) (chF n f k)) ++ [x, y] ++ List.drop (k * 2 + 2) (mkN (n * 2) (chF n f k)) = mkN (n * 2) (chF n f (k + 1)) := by
  subst hx hy
  refine mkN_put rfl (by omega) (fun i hi hne => ?_) fun j hj => ?_
  · simp only [chF]
    by_cases h : i < k * 2
    · rw [if_pos h, if_pos (by omega)]
    · rw [if_neg h, if_neg (by omega)]
  · simp only [List.length_cons, List.length_nil] at hj
    rcases (show j = 0 ∨ j = 1 by omega) with rfl | rfl <;> simp [chF] <;> omega
def lmCh (n : Nat) (f : Nat → Int) : LAnn := { ι := Nat, inv := fun _ k => k ≤ n, slots := fun _ k => [(13, .a (.c (.int .i64 k)))], blks := fun st k => [(slotB st 5, [.run [.i16] (n * 2) (mkN (n * 2) (chF n f k))])], μ := fun _ k => n - k }

end Go.Proofs.YtnoljgfnpabinaaDoor
