/- Slices of 16-bit numbers: what the laws ask of one that comes back. No function is named. No conditions. -/
import Derived.Test.YtbphlffjgbflcaaDoorGqs
set_option linter.unusedSimpArgs false
set_option linter.unusedVariables false
namespace Go.Proofs.YtbphlffjgbflcaaDoor
open Go.Sx Go.RowKit
variable {mx : Nat → Value}

/-- A list of which the first numbers are a count, wrapped. -/
def mrk1 (l : List Int) (f : Int) (k : Nat) : List Int := (List.range l.length).map fun i => if i < k then IntKind.i16.wrap (f + i) else l.getD i 0
theorem mrk1_len (l : List Int) (f : Int) (k : Nat) : (mrk1 l f k).length = l.length := by simp [mrk1]
theorem mrk1_get {l : List Int} {f : Int} {k i : Nat} (h : i < l.length) : (mrk1 l f k).getD i 0 = if i < k then IntKind.i16.wrap (f + i) else l.getD i 0 := by
  simp [mrk1, List.getD, h]
theorem mrk1_zero (l : List Int) (f : Int) : mrk1 l f 0 = l := by
  refine list_ext (mrk1_len _ _ _) fun i hi => ?_
  rw [mrk1_get hi, if_neg (by omega)]
theorem mrk1_set {l : List Int} {f : Int} {k : Nat} (h : k < l.length) : (mrk1 l f k).set k (IntKind.i16.wrap (f + k)) = mrk1 l f (k + 1) := by
  refine list_ext (by simp [mrk1_len]) fun i hi => ?_
  have hi : i < l.length := by rw [mrk1_len] at hi; exact hi
  rw [mrk1_get hi, List.getD_eq_getElem?_getD, List.getElem?_set]
  by_cases e : k = i
  · subst e; simp [mrk1_len, h]
  · rw [if_neg e, ← List.getD_eq_getElem?_getD, mrk1_get hi]
    by_cases c : i < k
    · rw [if_pos c, if_pos (by omega)]
    · rw [if_neg c, if_neg (by omega)]
def lmMkR : LAnn := { ι := Nat, inv := fun st k => (k : Int) ≤ slN st 0 ∨ k = 0, slots := fun st k => [(1, .a (.c (.int .i64 (slotI st 1 + k)))), (5, .a (.c (.int .i64 k)))], blks := fun st k => slB st 0 [.run [.i16] (slM st 0) (mrk1 (slL st 0) (slotI st 1) k)], μ := fun st k => (slN st 0).toNat - k }
def lmHeR : LAnn := { ι := Nat, inv := fun st k => (k : Int) ≤ slN st 0 ∨ k = 0, slots := fun st k => [(1, .a (.c (.int .i64 (slotI st 1 + k)))), (5, .a (.c (.int .i64 k)))], blks := fun _ _ => [], μ := fun st k => (slN st 0).toNat - k }

theorem mark_rw {d n' : Nat} {L : List Int} {f : Int} {R : Nat → Prop} (h1 : d ≤ n') (hl : L.length = n') (hd : d ≤ 1000000000000) (hf : 0 ≤ f ∧ f ≤ 10000000000000) (hR : R d) :
    (∃ x : Nat, ((x : Int) ≤ (d : Int) ∨ x = 0) ∧ (f = f + (x : Int) ∧ 0 = (x : Int)) ∧ L = mrk1 L f x) ∧ ∀ x : Nat, ((x : Int) ≤ (d : Int) ∨ x = 0) →
      ((x : Int) < (d : Int) → (0 ≤ (x : Int) ∧ (x : Int) < (d : Int)) ∧ (0 ≤ (x : Int) ∧ x < n') ∧ (-9223372036854775808 ≤ f + (x : Int) + 1 ∧ f + (x : Int) + 1 ≤ 9223372036854775807) ∧ (-9223372036854775808 ≤ (x : Int) + 1 ∧ (x : Int) + 1 ≤ 9223372036854775807) ∧
        ∃ y : Nat, ((y : Int) ≤ (d : Int) ∨ y = 0) ∧ d - y < d - x ∧ (f + (x : Int) + 1 = f + (y : Int) ∧ (x : Int) + 1 = (y : Int)) ∧ (mrk1 L f x).set x (IntKind.i16.wrap (f + (x : Int))) = mrk1 L f y) ∧ (¬ (x : Int) < (d : Int) → R x) :=
  ⟨⟨0, .inr rfl, ⟨by omega, rfl⟩, (mrk1_zero _ _).symm⟩, fun x hx => ⟨fun hlt => ⟨by omega, by omega, by omega, by omega, x + 1, .inl (by omega), by omega, ⟨by omega, by omega⟩, mrk1_set (by omega)⟩, fun hge => by
    obtain rfl : x = d := by omega
    exact hR⟩⟩

theorem held_rw {d n' : Nat} {L : List Int} {f : Int} {R : Nat → Prop} (h1 : d ≤ n') (hl : L.length = n') (hd : d ≤ 1000000000000) (hf : 0 ≤ f ∧ f ≤ 10000000000000) (hR : R d) :
    (∃ x : Nat, ((x : Int) ≤ (d : Int) ∨ x = 0) ∧ f = f + (x : Int) ∧ 0 = (x : Int)) ∧ ∀ x : Nat, ((x : Int) ≤ (d : Int) ∨ x = 0) →
      ((x : Int) < (d : Int) → (0 ≤ (x : Int) ∧ (x : Int) < (d : Int)) ∧ (0 ≤ (x : Int) ∧ x < n') ∧ (¬ (mrk1 L f d).getD x 0 = IntKind.i16.wrap (f + (x : Int)) → False) ∧ ((mrk1 L f d).getD x 0 = IntKind.i16.wrap (f + (x : Int)) → (-9223372036854775808 ≤ f + (x : Int) + 1 ∧ f + (x : Int) + 1 ≤ 9223372036854775807) ∧ (-9223372036854775808 ≤ (x : Int) + 1 ∧ (x : Int) + 1 ≤ 9223372036854775807) ∧
        ∃ y : Nat, ((y : Int) ≤ (d : Int) ∨ y = 0) ∧ d - y < d - x ∧ f + (x : Int) + 1 = f + (y : Int) ∧ (x : Int) + 1 = (y : Int))) ∧ (¬ (x : Int) < (d : Int) → R x) :=
  ⟨⟨0, .inr rfl, by omega, rfl⟩, fun x hx => ⟨fun hlt => ⟨by omega, by omega, fun h => h (by rw [mrk1_get (by omega), if_pos (by omega)]), fun _ => ⟨by omega, by omega, x + 1, .inl (by omega), by omega, by omega, by omega⟩⟩, fun hge => by
    obtain rfl : x = d := by omega
    exact hR⟩⟩

end Go.Proofs.YtbphlffjgbflcaaDoor
