/- Slices that come back: records of numbers. No conditions. -/
import Derived.Test.YtghphlgfgblbeaaDoorRec
set_option linter.unusedSimpArgs false
set_option linter.unusedVariables false
namespace Go.Proofs.YtghphlgfgblbeaaDoor
open Go.Sx Go.RowKit

/-- A slice's memory that holds so many records of s numbers, and maybe more room. -/
structure Gq (s k : Nat) (F : List Int) (n : Nat) (L : List Int) (cap : Int) : Prop where
  c : (k : Int) ≤ cap
  e : n = cap.toNat * s
  l : L.length = n
  t : L.take (k * s) = F
theorem Gq.nil {s : Nat} : Gq s 0 [] 0 [] 0 := ⟨by simp, by simp, rfl, by simp⟩
theorem Gq.room {s k : Nat} {F : List Int} {n : Nat} {L : List Int} {cap : Int} (g : Gq s k F n L cap) : k * s ≤ n := by
  rw [g.e]; exact Nat.mul_le_mul_right _ (by have := g.c; omega)
theorem Gq.eqs {s k : Nat} {F L L' : List Int} {n n' : Nat} {cap cap' : Int} (g : Gq s k F n L cap) (g' : Gq s k F n' L' cap') : eqSl s (k : Int) (k : Int) L L' = true :=
  eqSl_self (by rw [Int.toNat_natCast, g.t, g'.t])
theorem Gq.full {s k : Nat} {f : Nat → Int} : Gq s k (mkN (k * s) f) (k * s) (mkN (k * s) f) k :=
  ⟨by omega, by rw [Int.toNat_natCast], mkN_len _ _, List.take_of_length_le (by rw [mkN_len]; omega)⟩
theorem Gq.push {s k : Nat} {F xs : List Int} {n n' : Nat} {L L' : List Int} {cap cap' : Int} (g : Gq s k F n L cap) (h1 : (k : Int) + 1 ≤ cap') (h2 : n' = cap'.toNat * s) (h3 : L'.length = n') (h4 : L'.take ((k + 1) * s) = L.take (k * s) ++ xs) : Gq s (k + 1) (F ++ xs) n' L' cap' :=
  ⟨by omega, h2, h3, by rw [h4, g.t]⟩
theorem Gq.get {k : Nat} {F : List Int} {n : Nat} {L : List Int} {cap : Int} (g : Gq 1 k F n L cap) {i : Nat} (h : i < k) : L.getD i 0 = F.getD i 0 := by
  have t := g.t
  rw [Nat.mul_one] at t
  rw [← t, getD_take' h]
theorem mkN_one {k : Nat} {f : Nat → Int} : mkN (k + 1) f = mkN k f ++ [f k] := by simp [mkN, List.range_succ]

theorem gq_err {s K : Nat} {F : List Int} {E E' : Int} (hK : K = 0) (hF : F = []) (hE : E' = E) : ∃ x : Nat × List Int × Int, Gq s K F x.1 x.2.1 x.2.2 ∧ ((0 = (K : Int) ∧ 0 = x.2.2) ∧ E' = E) ∧ 0 = x.1 ∧ [] = x.2.1 := by
  subst hK hF; exact ⟨(0, [], 0), Gq.nil, ⟨⟨rfl, rfl⟩, hE⟩, rfl, rfl⟩
theorem gq_err' {s K : Nat} {F : List Int} {E E' : Int} (hK : K = 0) (hF : F = []) (hE : E' = E) : ∃ x : Nat × List Int × Int, Gq s K F x.1 x.2.1 x.2.2 ∧ (((K : Int) = 0 ∧ x.2.2 = 0) ∧ E' = E) ∧ x.1 = 0 ∧ x.2.1 = [] := by
  subst hK hF; exact ⟨(0, [], 0), Gq.nil, ⟨⟨rfl, rfl⟩, hE⟩, rfl, rfl⟩

theorem gq_errP {s K : Nat} {F : List Int} {P : Prop} (hK : K = 0) (hF : F = []) (hE : P) : ∃ x : Nat × List Int × Int, Gq s K F x.1 x.2.1 x.2.2 ∧ ((0 = (K : Int) ∧ 0 = x.2.2) ∧ P) ∧ 0 = x.1 ∧ [] = x.2.1 := by
  subst hK hF; exact ⟨(0, [], 0), Gq.nil, ⟨⟨rfl, rfl⟩, hE⟩, rfl, rfl⟩
theorem gq_errP' {s K : Nat} {F : List Int} {P : Prop} (hK : K = 0) (hF : F = []) (hE : P) : ∃ x : Nat × List Int × Int, Gq s K F x.1 x.2.1 x.2.2 ∧ (((K : Int) = 0 ∧ x.2.2 = 0) ∧ P) ∧ x.1 = 0 ∧ x.2.1 = [] := by
  subst hK hF; exact ⟨(0, [], 0), Gq.nil, ⟨⟨rfl, rfl⟩, hE⟩, rfl, rfl⟩

def resB (lv : LV) : List Nat := match lv with
  | .tup (.c (.slc id _ _ _ _ _) :: .c (.slc id' _ _ _ _ _) :: _) => [id, id']
  | .tup (.c (.slc id _ _ _ _ _) :: _) => [id]
  | .a (.c (.slc id _ _ _ _ _)) => [id]
  | _ => [9999]

end Go.Proofs.YtghphlgfgblbeaaDoor
