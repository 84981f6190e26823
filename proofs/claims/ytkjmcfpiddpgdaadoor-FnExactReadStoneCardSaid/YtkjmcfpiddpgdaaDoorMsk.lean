/- Slices of corners: what the laws ask of one that comes back. No conditions beyond the ranges of the kinds. -/
import Derived.Test.YtkjmcfpiddpgdaaDoorGqs
set_option linter.unusedSimpArgs false
set_option linter.unusedVariables false
namespace Go.Proofs.YtkjmcfpiddpgdaaDoor
open Go.Sx Go.RowKit
variable {mx : Nat → Value}

/-- A list of which the first numbers are a count, wrapped. -/
def mrkS (l : List Int) (f : Int) (k : Nat) : List Int := (List.range l.length).map fun i => if i < k * 2 then IntKind.i16.wrap (f + i) else l.getD i 0
theorem mrkS_len (l : List Int) (f : Int) (k : Nat) : (mrkS l f k).length = l.length := by simp [mrkS]
theorem mrkS_get {l : List Int} {f : Int} {k i : Nat} (h : i < l.length) : (mrkS l f k).getD i 0 = if i < k * 2 then IntKind.i16.wrap (f + i) else l.getD i 0 := by
  simp [mrkS, List.getD, h]
theorem mrkS_zero (l : List Int) (f : Int) : mrkS l f 0 = l := by
  refine list_ext (mrkS_len _ _ _) fun i hi => ?_
  rw [mrkS_get hi, if_neg (by omega)]
theorem mrkS_set {l : List Int} {f x y : Int} {k : Nat} (h : k * 2 + 1 < l.length) (hx : x = IntKind.i16.wrap (f + (k * 2 : Nat))) (hy : y = IntKind.i16.wrap (f + (k * 2 + 1 : Nat))) : ((mrkS l f k).set (k * 2) x).set (k * 2 + 1) y = mrkS l f (k + 1) := by
  subst hx hy
  refine list_ext (by simp [mrkS_len]) fun i hi => ?_
  have hi : i < l.length := by rw [mrkS_len] at hi; exact hi
  rw [mrkS_get hi, List.getD_eq_getElem?_getD, List.getElem?_set, List.getElem?_set]
  by_cases e1 : k * 2 + 1 = i
  · subst e1; simp [mrkS_len, h, show k * 2 + 1 < (k + 1) * 2 by omega]
  · rw [if_neg e1]
    by_cases e2 : k * 2 = i
    · subst e2; simp [mrkS_len, hi, show k * 2 < (k + 1) * 2 by omega]
    · rw [if_neg e2, ← List.getD_eq_getElem?_getD, mrkS_get hi]
      by_cases c : i < k * 2
      · rw [if_pos c, if_pos (by omega)]
      · rw [if_neg c, if_neg (by omega)]

/-! ### What the laws ask of a stone that comes back -/
theorem mark_st {d n' : Nat} {L : List Int} {R : Nat → Prop} (h1 : d * 2 ≤ n') (hl : L.length = n') (hd : d ≤ 1000000000000) (hR : R d) :
    (∃ x : Nat, ((x : Int) ≤ (d : Int) ∨ x = 0) ∧ (1 = 1 + ((x * 2 : Nat) : Int) ∧ 0 = (x : Int)) ∧ L = mrkS L 1 x) ∧ ∀ x : Nat, ((x : Int) ≤ (d : Int) ∨ x = 0) →
      ((x : Int) < (d : Int) → (0 ≤ (x : Int) ∧ (x : Int) < (d : Int)) ∧ (0 ≤ (x : Int) ∧ x * 2 < n') ∧ (-9223372036854775808 ≤ 1 + ((x * 2 : Nat) : Int) + 1 ∧ 1 + ((x * 2 : Nat) : Int) + 1 ≤ 9223372036854775807) ∧ (0 ≤ (x : Int) ∧ (x : Int) < (d : Int)) ∧ (0 ≤ (x : Int) ∧ x * 2 + 1 < n') ∧ (-9223372036854775808 ≤ 1 + ((x * 2 : Nat) : Int) + 1 + 1 ∧ 1 + ((x * 2 : Nat) : Int) + 1 + 1 ≤ 9223372036854775807) ∧ (-9223372036854775808 ≤ (x : Int) + 1 ∧ (x : Int) + 1 ≤ 9223372036854775807) ∧
        ∃ y : Nat, ((y : Int) ≤ (d : Int) ∨ y = 0) ∧ d - y < d - x ∧ (1 + ((x * 2 : Nat) : Int) + 1 + 1 = 1 + ((y * 2 : Nat) : Int) ∧ (x : Int) + 1 = (y : Int)) ∧ ((mrkS L 1 x).set (x * 2) (IntKind.i16.wrap (1 + ((x * 2 : Nat) : Int)))).set (x * 2 + 1) (IntKind.i16.wrap (1 + ((x * 2 : Nat) : Int) + 1)) = mrkS L 1 y) ∧ (¬ (x : Int) < (d : Int) → R x) :=
  ⟨⟨0, .inr rfl, ⟨rfl, rfl⟩, (mrkS_zero _ _).symm⟩, fun x hx => ⟨fun hlt => ⟨by omega, by omega, by omega, by omega, by omega, by omega, by omega, x + 1, .inl (by omega), by omega, ⟨by omega, by omega⟩, mrkS_set (by omega) rfl (by rw [show (1 : Int) + ((x * 2 : Nat) : Int) + 1 = 1 + ((x * 2 + 1 : Nat) : Int) by omega])⟩, fun hge => by
    obtain rfl : x = d := by omega
    exact hR⟩⟩

theorem held_st {d n' : Nat} {L : List Int} {R : Nat → Prop} (h1 : d * 2 ≤ n') (hl : L.length = n') (hd : d ≤ 1000000000000) (hR : R d) :
    (∃ x : Nat, ((x : Int) ≤ (d : Int) ∨ x = 0) ∧ 1 = 1 + ((x * 2 : Nat) : Int) ∧ 0 = (x : Int)) ∧ ∀ x : Nat, ((x : Int) ≤ (d : Int) ∨ x = 0) →
      ((x : Int) < (d : Int) → (0 ≤ (x : Int) ∧ (x : Int) < (d : Int)) ∧ (0 ≤ (x : Int) ∧ x * 2 < n') ∧ (¬ (mrkS L 1 d).getD (x * 2) 0 = IntKind.i16.wrap (1 + ((x * 2 : Nat) : Int)) → False) ∧ ((mrkS L 1 d).getD (x * 2) 0 = IntKind.i16.wrap (1 + ((x * 2 : Nat) : Int)) → (-9223372036854775808 ≤ 1 + ((x * 2 : Nat) : Int) + 1 ∧ 1 + ((x * 2 : Nat) : Int) + 1 ≤ 9223372036854775807) ∧ (0 ≤ (x : Int) ∧ (x : Int) < (d : Int)) ∧ (0 ≤ (x : Int) ∧ x * 2 + 1 < n') ∧ (¬ (mrkS L 1 d).getD (x * 2 + 1) 0 = IntKind.i16.wrap (1 + ((x * 2 : Nat) : Int) + 1) → False) ∧ ((mrkS L 1 d).getD (x * 2 + 1) 0 = IntKind.i16.wrap (1 + ((x * 2 : Nat) : Int) + 1) → (-9223372036854775808 ≤ 1 + ((x * 2 : Nat) : Int) + 1 + 1 ∧ 1 + ((x * 2 : Nat) : Int) + 1 + 1 ≤ 9223372036854775807) ∧ (-9223372036854775808 ≤ (x : Int) + 1 ∧ (x : Int) + 1 ≤ 9223372036854775807) ∧
        ∃ y : Nat, ((y : Int) ≤ (d : Int) ∨ y = 0) ∧ d - y < d - x ∧ 1 + ((x * 2 : Nat) : Int) + 1 + 1 = 1 + ((y * 2 : Nat) : Int) ∧ (x : Int) + 1 = (y : Int)))) ∧ (¬ (x : Int) < (d : Int) → R x) :=
  ⟨⟨0, .inr rfl, rfl, rfl⟩, fun x hx => ⟨fun hlt => ⟨by omega, by omega, fun h => h (by rw [mrkS_get (by omega), if_pos (by omega)]), fun _ => ⟨by omega, by omega, by omega, fun h => h (by rw [mrkS_get (by omega), if_pos (by omega), show (1 : Int) + ((x * 2 : Nat) : Int) + 1 = 1 + ((x * 2 + 1 : Nat) : Int) by omega]), fun _ => ⟨by omega, by omega, x + 1, .inl (by omega), by omega, by omega, by omega⟩⟩⟩, fun hge => by
    obtain rfl : x = d := by omega
    exact hR⟩⟩

def lmMkS : LAnn := { ι := Nat, inv := fun st k => (k : Int) ≤ slN st 0 ∨ k = 0, slots := fun st k => [(1, .a (.c (.int .i64 (slotI st 1 + (k * 2 : Nat))))), (5, .a (.c (.int .i64 k)))], blks := fun st k => slB st 0 [.run [.i16] (slM st 0) (mrkS (slL st 0) (slotI st 1) k)], μ := fun st k => (slN st 0).toNat - k }
def lmHeS : LAnn := { ι := Nat, inv := fun st k => (k : Int) ≤ slN st 0 ∨ k = 0, slots := fun st k => [(1, .a (.c (.int .i64 (slotI st 1 + (k * 2 : Nat))))), (5, .a (.c (.int .i64 k)))], blks := fun _ _ => [], μ := fun st k => (slN st 0).toNat - k }
noncomputable def ILmk  : List (FuncId × Func × (Nat → LM)) := [
  (7, Tryd.f7, fun _ => .inv lmMkS),
  (8, Tryd.f8, fun _ => .inv lmHeS)]
theorem ILmk_ok  : InlsOk Tryd.prog ILmk := ⟨⟨Tryd.func7, by kernel_rfl⟩, ⟨Tryd.func8, by kernel_rfl⟩, trivial⟩

end Go.Proofs.YtkjmcfpiddpgdaaDoor
