/- Slices of records of two numbers that come back: what is written over them and read again. No conditions beyond the ranges of the kinds. -/
import Derived.Test.YtmjincdnhmkmhaaDoorGqs
set_option linter.unusedSimpArgs false
set_option linter.unusedVariables false
namespace Go.Proofs.YtmjincdnhmkmhaaDoor
open Go.Sx Go.RowKit

/-- A list of which the first numbers are a count, wrapped to two kinds by turns. -/
def mrkR (ka kb : IntKind) (l : List Int) (f : Int) (k : Nat) : List Int := (List.range l.length).map fun i => if i < k * 2 then (if i % 2 = 0 then ka.wrap (f + i) else kb.wrap (f + i)) else l.getD i 0
theorem mrkR_len (ka kb : IntKind) (l : List Int) (f : Int) (k : Nat) : (mrkR ka kb l f k).length = l.length := by simp [mrkR]
theorem mrkR_get {ka kb : IntKind} {l : List Int} {f : Int} {k i : Nat} (h : i < l.length) : (mrkR ka kb l f k).getD i 0 = if i < k * 2 then (if i % 2 = 0 then ka.wrap (f + i) else kb.wrap (f + i)) else l.getD i 0 := by
  simp [mrkR, List.getD, h]
theorem mrkR_a {ka kb : IntKind} {l : List Int} {f : Int} {k x : Nat} (h : x * 2 < l.length) (hx : x < k) : (mrkR ka kb l f k).getD (x * 2) 0 = ka.wrap (f + ((x * 2 : Nat) : Int)) := by
  rw [mrkR_get h, if_pos (by omega), if_pos (by omega)]
theorem mrkR_b {ka kb : IntKind} {l : List Int} {f : Int} {k x : Nat} (h : x * 2 + 1 < l.length) (hx : x < k) : (mrkR ka kb l f k).getD (x * 2 + 1) 0 = kb.wrap (f + ((x * 2 : Nat) : Int) + 1) := by
  rw [mrkR_get h, if_pos (by omega), if_neg (by omega), show f + ((x * 2 : Nat) : Int) + 1 = f + ((x * 2 + 1 : Nat) : Int) by omega]
theorem mrkR_zero (ka kb : IntKind) (l : List Int) (f : Int) : mrkR ka kb l f 0 = l := by
  refine list_ext (mrkR_len _ _ _ _ _) fun i hi => ?_
  rw [mrkR_get hi, if_neg (by omega)]
theorem mrkR_set {ka kb : IntKind} {l : List Int} {f x y : Int} {k : Nat} (h : k * 2 + 1 < l.length) (hx : x = ka.wrap (f + (k * 2 : Nat))) (hy : y = kb.wrap (f + (k * 2 : Nat) + 1)) : ((mrkR ka kb l f k).set (k * 2) x).set (k * 2 + 1) y = mrkR ka kb l f (k + 1) := by
  subst hx hy
  refine list_ext (by simp [mrkR_len]) fun i hi => ?_
  have hi : i < l.length := by rw [mrkR_len] at hi; exact hi
  rw [mrkR_get hi, List.getD_eq_getElem?_getD, List.getElem?_set, List.getElem?_set]
  by_cases e1 : k * 2 + 1 = i
  · subst e1
    rw [if_pos rfl, if_pos (by rw [List.length_set, mrkR_len]; exact hi), if_pos (by omega), if_neg (by omega), show f + ((k * 2 + 1 : Nat) : Int) = f + ((k * 2 : Nat) : Int) + 1 by omega]; rfl
  · rw [if_neg e1]
    by_cases e2 : k * 2 = i
    · subst e2
      rw [if_pos rfl, if_pos (by rw [mrkR_len]; exact hi), if_pos (by omega), if_pos (by omega)]; rfl
    · rw [if_neg e2, ← List.getD_eq_getElem?_getD, mrkR_get hi]
      by_cases c : i < k * 2
      · rw [if_pos c, if_pos (show i < (k + 1) * 2 by omega)]
      · rw [if_neg c, if_neg (show ¬ i < (k + 1) * 2 by omega)]

/-! ### What the laws ask of a slice of records that comes back -/
theorem mark_r {ka kb : IntKind} {d n' : Nat} {L : List Int} {f : Int} {R : Nat → Prop} (h1 : d * 2 ≤ n') (hl : L.length = n') (hd : d ≤ 1000000000000) (hf : 0 ≤ f ∧ f ≤ 10000000000000) (hR : R d) :
    (∃ x : Nat, ((x : Int) ≤ (d : Int) ∨ x = 0) ∧ (f = f + ((x * 2 : Nat) : Int) ∧ 0 = (x : Int)) ∧ L = mrkR ka kb L f x) ∧ ∀ x : Nat, ((x : Int) ≤ (d : Int) ∨ x = 0) →
      ((x : Int) < (d : Int) → (0 ≤ (x : Int) ∧ (x : Int) < (d : Int)) ∧ (0 ≤ (x : Int) ∧ x * 2 < n') ∧ (-9223372036854775808 ≤ f + ((x * 2 : Nat) : Int) + 1 ∧ f + ((x * 2 : Nat) : Int) + 1 ≤ 9223372036854775807) ∧ (0 ≤ (x : Int) ∧ (x : Int) < (d : Int)) ∧ (0 ≤ (x : Int) ∧ x * 2 + 1 < n') ∧ (-9223372036854775808 ≤ f + ((x * 2 : Nat) : Int) + 1 + 1 ∧ f + ((x * 2 : Nat) : Int) + 1 + 1 ≤ 9223372036854775807) ∧ (-9223372036854775808 ≤ (x : Int) + 1 ∧ (x : Int) + 1 ≤ 9223372036854775807) ∧
        ∃ y : Nat, ((y : Int) ≤ (d : Int) ∨ y = 0) ∧ d - y < d - x ∧ (f + ((x * 2 : Nat) : Int) + 1 + 1 = f + ((y * 2 : Nat) : Int) ∧ (x : Int) + 1 = (y : Int)) ∧ ((mrkR ka kb L f x).set (x * 2) (ka.wrap (f + ((x * 2 : Nat) : Int)))).set (x * 2 + 1) (kb.wrap (f + ((x * 2 : Nat) : Int) + 1)) = mrkR ka kb L f y) ∧ (¬ (x : Int) < (d : Int) → R x) :=
  ⟨⟨0, .inr rfl, ⟨by omega, rfl⟩, (mrkR_zero _ _ _ _).symm⟩, fun x hx => ⟨fun hlt => ⟨by omega, by omega, by omega, by omega, by omega, by omega, by omega, x + 1, .inl (by omega), by omega, ⟨by omega, by omega⟩, mrkR_set (by omega) rfl rfl⟩, fun hge => by
    obtain rfl : x = d := by omega
    exact hR⟩⟩

theorem held_r {ka kb : IntKind} {d n' : Nat} {L : List Int} {f : Int} {R : Nat → Prop} (h1 : d * 2 ≤ n') (hl : L.length = n') (hd : d ≤ 1000000000000) (hf : 0 ≤ f ∧ f ≤ 10000000000000) (hR : R d) :
    (∃ x : Nat, ((x : Int) ≤ (d : Int) ∨ x = 0) ∧ f = f + ((x * 2 : Nat) : Int) ∧ 0 = (x : Int)) ∧ ∀ x : Nat, ((x : Int) ≤ (d : Int) ∨ x = 0) →
      ((x : Int) < (d : Int) → (0 ≤ (x : Int) ∧ (x : Int) < (d : Int)) ∧ (0 ≤ (x : Int) ∧ x * 2 < n') ∧ (¬ (mrkR ka kb L f d).getD (x * 2) 0 = ka.wrap (f + ((x * 2 : Nat) : Int)) → False) ∧ ((mrkR ka kb L f d).getD (x * 2) 0 = ka.wrap (f + ((x * 2 : Nat) : Int)) → (-9223372036854775808 ≤ f + ((x * 2 : Nat) : Int) + 1 ∧ f + ((x * 2 : Nat) : Int) + 1 ≤ 9223372036854775807) ∧ (0 ≤ (x : Int) ∧ (x : Int) < (d : Int)) ∧ (0 ≤ (x : Int) ∧ x * 2 + 1 < n') ∧ (¬ (mrkR ka kb L f d).getD (x * 2 + 1) 0 = kb.wrap (f + ((x * 2 : Nat) : Int) + 1) → False) ∧ ((mrkR ka kb L f d).getD (x * 2 + 1) 0 = kb.wrap (f + ((x * 2 : Nat) : Int) + 1) → (-9223372036854775808 ≤ f + ((x * 2 : Nat) : Int) + 1 + 1 ∧ f + ((x * 2 : Nat) : Int) + 1 + 1 ≤ 9223372036854775807) ∧ (-9223372036854775808 ≤ (x : Int) + 1 ∧ (x : Int) + 1 ≤ 9223372036854775807) ∧
        ∃ y : Nat, ((y : Int) ≤ (d : Int) ∨ y = 0) ∧ d - y < d - x ∧ f + ((x * 2 : Nat) : Int) + 1 + 1 = f + ((y * 2 : Nat) : Int) ∧ (x : Int) + 1 = (y : Int)))) ∧ (¬ (x : Int) < (d : Int) → R x) :=
  ⟨⟨0, .inr rfl, by omega, rfl⟩, fun x hx => ⟨fun hlt => ⟨by omega, by omega, fun h => h (mrkR_a (by omega) (by omega)), fun _ => ⟨by omega, by omega, by omega, fun h => h (mrkR_b (by omega) (by omega)), fun _ => ⟨by omega, by omega, x + 1, .inl (by omega), by omega, by omega, by omega⟩⟩⟩, fun hge => by
    obtain rfl : x = d := by omega
    exact hR⟩⟩

/-- A slice of 64-bit numbers that is marked from any number on. -/
theorem mark_g {d n' : Nat} {L : List Int} {f : Int} {R : Nat → Prop} (h1 : d ≤ n') (hl : L.length = n') (hd : d ≤ 1000000000000) (hf : 0 ≤ f ∧ f ≤ 10000000000000) (hR : R d) :
    (∃ x : Nat, ((x : Int) ≤ (d : Int) ∨ x = 0) ∧ (f = f + (x : Int) ∧ 0 = (x : Int)) ∧ L = mrk L f x) ∧ ∀ x : Nat, ((x : Int) ≤ (d : Int) ∨ x = 0) →
      ((x : Int) < (d : Int) → (0 ≤ (x : Int) ∧ (x : Int) < (d : Int)) ∧ (0 ≤ (x : Int) ∧ x < n') ∧ (-9223372036854775808 ≤ f + (x : Int) + 1 ∧ f + (x : Int) + 1 ≤ 9223372036854775807) ∧ (-9223372036854775808 ≤ (x : Int) + 1 ∧ (x : Int) + 1 ≤ 9223372036854775807) ∧
        ∃ y : Nat, ((y : Int) ≤ (d : Int) ∨ y = 0) ∧ d - y < d - x ∧ (f + (x : Int) + 1 = f + (y : Int) ∧ (x : Int) + 1 = (y : Int)) ∧ (mrk L f x).set x (f + (x : Int)) = mrk L f y) ∧ (¬ (x : Int) < (d : Int) → R x) :=
  ⟨⟨0, .inr rfl, ⟨by omega, rfl⟩, (mrk_zero _ _).symm⟩, fun x hx => ⟨fun hlt => ⟨by omega, by omega, by omega, by omega, x + 1, .inl (by omega), by omega, ⟨by omega, by omega⟩, mrk_set (by omega)⟩, fun hge => by
    obtain rfl : x = d := by omega
    exact hR⟩⟩

def lmMkR (ks : List EK) (ka kb : IntKind) : LAnn := { ι := Nat, inv := fun st k => (k : Int) ≤ slN st 0 ∨ k = 0, slots := fun st k => [(1, .a (.c (.int .i64 (slotI st 1 + (k * 2 : Nat))))), (5, .a (.c (.int .i64 k)))], blks := fun st k => slB st 0 [.run ks (slM st 0) (mrkR ka kb (slL st 0) (slotI st 1) k)], μ := fun st k => (slN st 0).toNat - k }
def lmHeR : LAnn := { ι := Nat, inv := fun st k => (k : Int) ≤ slN st 0 ∨ k = 0, slots := fun st k => [(1, .a (.c (.int .i64 (slotI st 1 + (k * 2 : Nat))))), (5, .a (.c (.int .i64 k)))], blks := fun _ _ => [], μ := fun st k => (slN st 0).toNat - k }

end Go.Proofs.YtmjincdnhmkmhaaDoor
