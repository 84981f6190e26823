/- Slices that come back: records of numbers, and rows that are made. No conditions beyond the ranges of the kinds. -/
import Derived.Test.YtkajcofpdlicaaaRw2
set_option linter.unusedSimpArgs false
set_option linter.unusedVariables false
namespace Go.Proofs.Ytkajcofpdlicaaa
open Go.Sx Go.RowKit

/-- A slice's memory that holds so many records of s numbers, and maybe more room. -/
structure Gq (s k : Nat) (F : List Int) (n : Nat) (L : List Int) (cap : Int) : Prop where
  c : (k : Int) ≤ cap
  e : n = cap.toNat * s
  l : L.length = n
  t : L.take (k * s) = F
theorem Gq.nil {s : Nat} : Gq s 0 [] 0 [] 0 := ⟨by simp, by simp, rfl, by simp⟩
theorem Gq.room {s k : Nat} {F : List Int} {n : Nat} {L : List Int} {cap : Int} (g : Gq s k F n L cap) : k * s ≤ n := by
  rw [g.e]; exact Nat.mul_le_mul_right _ (by have := g.c; omega)
theorem Gq.eqs {s k : Nat} {F L L' : List Int} {n n' : Nat} {cap cap' : Int} (g : Gq s k F n L cap) (g' : Gq s k F n' L' cap') : eqSl s (k : Int) (k : Int) L L' = true :=
  eqSl_self (by rw [Int.toNat_natCast, g.t, g'.t])
theorem Gq.full {s k : Nat} {f : Nat → Int} : Gq s k (mkN (k * s) f) (k * s) (mkN (k * s) f) k :=
  ⟨by omega, by rw [Int.toNat_natCast], mkN_len _ _, List.take_of_length_le (by rw [mkN_len]; omega)⟩
theorem Gq.push {s k : Nat} {F xs : List Int} {n n' : Nat} {L L' : List Int} {cap cap' : Int} (g : Gq s k F n L cap) (h1 : (k : Int) + 1 ≤ cap') (h2 : n' = cap'.toNat * s) (h3 : L'.length = n') (h4 : L'.take ((k + 1) * s) = L.take (k * s) ++ xs) : Gq s (k + 1) (F ++ xs) n' L' cap' :=
  ⟨by omega, h2, h3, by rw [h4, g.t]⟩
theorem Gq.get {k : Nat} {F : List Int} {n : Nat} {L : List Int} {cap : Int} (g : Gq 1 k F n L cap) {i : Nat} (h : i < k) : L.getD i 0 = F.getD i 0 := by
  have t := g.t
  rw [Nat.mul_one] at t
  rw [← t, getD_take' h]
theorem mkN_one {k : Nat} {f : Nat → Int} : mkN (k + 1) f = mkN k f ++ [f k] := by simp [mkN, List.range_succ]

theorem gq_err {s K : Nat} {F : List Int} {E E' : Int} (hK : K = 0) (hF : F = []) (hE : E' = E) : ∃ x : Nat × List Int × Int, Gq s K F x.1 x.2.1 x.2.2 ∧ ((0 = (K : Int) ∧ 0 = x.2.2) ∧ E' = E) ∧ 0 = x.1 ∧ [] = x.2.1 := by
  subst hK hF; exact ⟨(0, [], 0), Gq.nil, ⟨⟨rfl, rfl⟩, hE⟩, rfl, rfl⟩
theorem gq_err' {s K : Nat} {F : List Int} {E E' : Int} (hK : K = 0) (hF : F = []) (hE : E' = E) : ∃ x : Nat × List Int × Int, Gq s K F x.1 x.2.1 x.2.2 ∧ (((K : Int) = 0 ∧ x.2.2 = 0) ∧ E' = E) ∧ x.1 = 0 ∧ x.2.1 = [] := by
  subst hK hF; exact ⟨(0, [], 0), Gq.nil, ⟨⟨rfl, rfl⟩, hE⟩, rfl, rfl⟩

theorem gq_errP {s K : Nat} {F : List Int} {P : Prop} (hK : K = 0) (hF : F = []) (hE : P) : ∃ x : Nat × List Int × Int, Gq s K F x.1 x.2.1 x.2.2 ∧ ((0 = (K : Int) ∧ 0 = x.2.2) ∧ P) ∧ 0 = x.1 ∧ [] = x.2.1 := by
  subst hK hF; exact ⟨(0, [], 0), Gq.nil, ⟨⟨rfl, rfl⟩, hE⟩, rfl, rfl⟩
theorem gq_errP' {s K : Nat} {F : List Int} {P : Prop} (hK : K = 0) (hF : F = []) (hE : P) : ∃ x : Nat × List Int × Int, Gq s K F x.1 x.2.1 x.2.2 ∧ (((K : Int) = 0 ∧ x.2.2 = 0) ∧ P) ∧ x.1 = 0 ∧ x.2.1 = [] := by
  subst hK hF; exact ⟨(0, [], 0), Gq.nil, ⟨⟨rfl, rfl⟩, hE⟩, rfl, rfl⟩

/-- A list of which the first numbers are a count, wrapped. -/
def mrk1 (l : List Int) (f : Int) (k : Nat) : List Int := (List.range l.length).map fun i => if i < k then IntKind.i16.wrap (f + i) else l.getD i 0
theorem mrk1_len (l : List Int) (f : Int) (k : Nat) : (mrk1 l f k).length = l.length := by simp [mrk1]
theorem mrk1_get {l : List Int} {f : Int} {k i : Nat} (h : i < l.length) : (mrk1 l f k).getD i 0 = if i < k then IntKind.i16.wrap (f + i) else l.getD i 0 := by
  simp [mrk1, List.getD, h]
theorem mrk1_zero (l : List Int) (f : Int) : mrk1 l f 0 = l := by
  refine list_ext (mrk1_len _ _ _) fun i hi => ?_
  rw [mrk1_get hi, if_neg (by omega)]
theorem mrk1_set {l : List Int} {f : Int} {k : Nat} (h : k < l.length) : (mrk1 l f k).set k (IntKind.i16.wrap (f + k)) = mrk1 l f (k + 1) := by
  refine list_ext (by simp [mrk1_len]) fun i hi => ?_
  have hi : i < l.length := by rw [mrk1_len] at hi; exact hi
  rw [mrk1_get hi, List.getD_eq_getElem?_getD, List.getElem?_set]
  by_cases e : k = i
  · subst e; simp [mrk1_len, h]
  · rw [if_neg e, ← List.getD_eq_getElem?_getD, mrk1_get hi]
    by_cases c : i < k
    · rw [if_pos c, if_pos (by omega)]
    · rw [if_neg c, if_neg (by omega)]
def lmMkR : LAnn := { ι := Nat, inv := fun st k => (k : Int) ≤ slN st 0 ∨ k = 0, slots := fun st k => [(1, .a (.c (.int .i64 (slotI st 1 + k)))), (5, .a (.c (.int .i64 k)))], blks := fun st k => slB st 0 [.run [.i16] (slM st 0) (mrk1 (slL st 0) (slotI st 1) k)], μ := fun st k => (slN st 0).toNat - k }
def lmHeR : LAnn := { ι := Nat, inv := fun st k => (k : Int) ≤ slN st 0 ∨ k = 0, slots := fun st k => [(1, .a (.c (.int .i64 (slotI st 1 + k)))), (5, .a (.c (.int .i64 k)))], blks := fun _ _ => [], μ := fun st k => (slN st 0).toNat - k }

theorem mark_rw {d n' : Nat} {L : List Int} {f : Int} {R : Nat → Prop} (h1 : d ≤ n') (hl : L.length = n') (hd : d ≤ 1000000000000) (hf : 0 ≤ f ∧ f ≤ 10000000000000) (hR : R d) :
    (∃ x : Nat, ((x : Int) ≤ (d : Int) ∨ x = 0) ∧ (f = f + (x : Int) ∧ 0 = (x : Int)) ∧ L = mrk1 L f x) ∧ ∀ x : Nat, ((x : Int) ≤ (d : Int) ∨ x = 0) →
      ((x : Int) < (d : Int) → (0 ≤ (x : Int) ∧ (x : Int) < (d : Int)) ∧ (0 ≤ (x : Int) ∧ x < n') ∧ (-9223372036854775808 ≤ f + (x : Int) + 1 ∧ f + (x : Int) + 1 ≤ 9223372036854775807) ∧ (-9223372036854775808 ≤ (x : Int) + 1 ∧ (x : Int) + 1 ≤ 9223372036854775807) ∧
        ∃ y : Nat, ((y : Int) ≤ (d : Int) ∨ y = 0) ∧ d - y < d - x ∧ (f + (x : Int) + 1 = f + (y : Int) ∧ (x : Int) + 1 = (y : Int)) ∧ (mrk1 L f x).set x (IntKind.i16.wrap (f + (x : Int))) = mrk1 L f y) ∧ (¬ (x : Int) < (d : Int) → R x) :=
  ⟨⟨0, .inr rfl, ⟨by omega, rfl⟩, (mrk1_zero _ _).symm⟩, fun x hx => ⟨fun hlt => ⟨by omega, by omega, by omega, by omega, x + 1, .inl (by omega), by omega, ⟨by omega, by omega⟩, mrk1_set (by omega)⟩, fun hge => by
    obtain rfl : x = d := by omega
    exact hR⟩⟩

theorem held_rw {d n' : Nat} {L : List Int} {f : Int} {R : Nat → Prop} (h1 : d ≤ n') (hl : L.length = n') (hd : d ≤ 1000000000000) (hf : 0 ≤ f ∧ f ≤ 10000000000000) (hR : R d) :
    (∃ x : Nat, ((x : Int) ≤ (d : Int) ∨ x = 0) ∧ f = f + (x : Int) ∧ 0 = (x : Int)) ∧ ∀ x : Nat, ((x : Int) ≤ (d : Int) ∨ x = 0) →
      ((x : Int) < (d : Int) → (0 ≤ (x : Int) ∧ (x : Int) < (d : Int)) ∧ (0 ≤ (x : Int) ∧ x < n') ∧ (¬ (mrk1 L f d).getD x 0 = IntKind.i16.wrap (f + (x : Int)) → False) ∧ ((mrk1 L f d).getD x 0 = IntKind.i16.wrap (f + (x : Int)) → (-9223372036854775808 ≤ f + (x : Int) + 1 ∧ f + (x : Int) + 1 ≤ 9223372036854775807) ∧ (-9223372036854775808 ≤ (x : Int) + 1 ∧ (x : Int) + 1 ≤ 9223372036854775807) ∧
        ∃ y : Nat, ((y : Int) ≤ (d : Int) ∨ y = 0) ∧ d - y < d - x ∧ f + (x : Int) + 1 = f + (y : Int) ∧ (x : Int) + 1 = (y : Int))) ∧ (¬ (x : Int) < (d : Int) → R x) :=
  ⟨⟨0, .inr rfl, by omega, rfl⟩, fun x hx => ⟨fun hlt => ⟨by omega, by omega, fun h => h (by rw [mrk1_get (by omega), if_pos (by omega)]), fun _ => ⟨by omega, by omega, x + 1, .inl (by omega), by omega, by omega, by omega⟩⟩, fun hge => by
    obtain rfl : x = d := by omega
    exact hR⟩⟩

def resB (lv : LV) : List Nat := match lv with
  | .tup (.c (.slc id _ _ _ _ _) :: .c (.slc id' _ _ _ _ _) :: _) => [id, id']
  | .tup (.c (.slc id _ _ _ _ _) :: _) => [id]
  | .a (.c (.slc id _ _ _ _ _)) => [id]
  | _ => [9999]

end Go.Proofs.Ytkajcofpdlicaaa
