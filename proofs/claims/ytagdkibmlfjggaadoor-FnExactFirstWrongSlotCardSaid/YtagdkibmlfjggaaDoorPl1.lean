/- Plans: slots, faults. Mathematics, no function is named. No conditions. -/
import Derived.Test.YtagdkibmlfjggaaDoorJb0
set_option linter.unusedSimpArgs false
set_option linter.unusedVariables false
namespace Go.Proofs.YtagdkibmlfjggaaDoor
open Go.Sx Go.RowKit

def hd (p : List Int) (k : Nat) : Int := p.getD (k * 2) 0
def sg (p : List Int) (k : Nat) : Int := p.getD (k * 2 + 1) 0
/-- Numbers that fit the kinds of a slot. -/
structure SW (n : Nat) (p : List Int) : Prop where
  h : ∀ k, k < n → -128 ≤ hd p k ∧ hd p k ≤ 127
  s : ∀ k, k < n → -32768 ≤ sg p k ∧ sg p k ≤ 32767
/-- Is a slot as told by itself? -/
def okB (h : Int) (p : List Int) (k : Nat) : Bool := decide (0 ≤ hd p k) && decide (hd p k < h) && decide (0 ≤ sg p k) && decide (sg p k ≤ 1000)
theorem okB_t {h : Int} {p : List Int} {k : Nat} : okB h p k = true ↔ 0 ≤ hd p k ∧ hd p k < h ∧ 0 ≤ sg p k ∧ sg p k ≤ 1000 := by
  simp only [okB, Bool.and_eq_true, decide_eq_true_eq]; omega
theorem okB_f {h : Int} {p : List Int} {k : Nat} : okB h p k = false ↔ ¬ (0 ≤ hd p k ∧ hd p k < h ∧ 0 ≤ sg p k ∧ sg p k ≤ 1000) := by
  rw [← okB_t, Bool.not_eq_true]
/-- The day on which a job is done. -/
def dnP (l p : List Int) (k : Nat) : Int := sg p k + dy l k

/-- The set of those among the first c that are so. -/
def bsF (f : Nat → Bool) : Nat → Nat
  | 0 => 0
  | c + 1 => if f c = true then bsF f c ||| 2 ^ c else bsF f c
theorem bsF_bit {f : Nat → Bool} {k : Nat} : ∀ c, (bsF f c).testBit k = (decide (k < c) && f k)
  | 0 => by simp [bsF]
  | c + 1 => by
    have ih := bsF_bit (f := f) (k := k) c
    unfold bsF
    by_cases hc : f c = true
    · rw [if_pos hc, or_bit, ih]
      by_cases e : c = k
      · subst e; simp [hc]
      · have : decide (k < c + 1) = decide (k < c) := by
          by_cases h : k < c
          · rw [decide_eq_true h, decide_eq_true (by omega)]
          · rw [decide_eq_false h, decide_eq_false (by omega)]
        rw [this]; simp [e]
    · rw [if_neg hc, ih]
      by_cases e : c = k
      · subst e
        rw [Bool.not_eq_true] at hc
        simp [hc]
      · have : decide (k < c + 1) = decide (k < c) := by
          by_cases h : k < c
          · rw [decide_eq_true h, decide_eq_true (by omega)]
          · rw [decide_eq_false h, decide_eq_false (by omega)]
        rw [this]
theorem bsF_lt {f : Nat → Bool} {c : Nat} (hc : c ≤ 12) : bsF f c < 65536 := by
  have : bsF f c < 2 ^ 12 := by
    apply Nat.lt_pow_two_of_testBit
    intro i hi
    rw [bsF_bit, decide_eq_false (by omega)]; rfl
  exact Nat.lt_trans this (by decide)

/-- The greatest day on which one of a set, among the first c, is done; 0 if there is none. -/
def adS (l p : List Int) (s : Nat) : Nat → Int
  | 0 => 0
  | c + 1 => if s.testBit c = true then max (adS l p s c) (dnP l p c) else adS l p s c
theorem adS_nn {l p : List Int} {s : Nat} : ∀ c, 0 ≤ adS l p s c
  | 0 => Int.le_refl _
  | c + 1 => by
    have := adS_nn (l := l) (p := p) (s := s) c
    unfold adS
    split <;> omega
theorem adS_lt {l p : List Int} {s : Nat} {x : Int} (hx : 0 ≤ x) : ∀ c, x < adS l p s c ↔ ∃ j, j < c ∧ s.testBit j = true ∧ x < dnP l p j
  | 0 => ⟨fun h => by rw [adS] at h; omega, fun ⟨j, h, _⟩ => by omega⟩
  | c + 1 => by
    have ih := adS_lt (l := l) (p := p) (s := s) hx c
    unfold adS
    by_cases hc : s.testBit c = true
    · rw [if_pos hc]
      constructor
      · intro h
        by_cases h' : x < adS l p s c
        · obtain ⟨j, h1, h2, h3⟩ := ih.1 h'
          exact ⟨j, by omega, h2, h3⟩
        · exact ⟨c, by omega, hc, by omega⟩
      · rintro ⟨j, h1, h2, h3⟩
        rcases (show j < c ∨ j = c by omega) with h | rfl
        · have := ih.2 ⟨j, h, h2, h3⟩; omega
        · omega
    · rw [if_neg hc]
      constructor
      · intro h
        obtain ⟨j, h1, h2, h3⟩ := ih.1 h
        exact ⟨j, by omega, h2, h3⟩
      · rintro ⟨j, h1, h2, h3⟩
        rcases (show j < c ∨ j = c by omega) with h | rfl
        · exact ih.2 ⟨j, h, h2, h3⟩
        · exact absurd h2 hc
theorem adS_le {l p : List Int} {s : Nat} {b : Int} (hb : 0 ≤ b) : ∀ c, (∀ j, j < c → s.testBit j = true → dnP l p j ≤ b) → adS l p s c ≤ b
  | 0, _ => hb
  | c + 1, h => by
    have ih := adS_le (l := l) (p := p) (s := s) hb c fun j hj => h j (by omega)
    unfold adS
    split
    · rename_i hc; have := h c (by omega) hc; omega
    · exact ih

/-- Does job j stand against the slot of job i? -/
def fjB (l : List Int) (h : Int) (p : List Int) (i j : Nat) : Bool :=
  okB h p j && (((af l i).testBit j && decide (sg p i < dnP l p j)) || (decide (j < i) && decide (hd p j = hd p i) && decide (sg p i < dnP l p j) && decide (sg p j < dnP l p i)))
/-- Is the slot of job i wrong? -/
def ftB (l : List Int) (h : Int) (n : Nat) (p : List Int) (i : Nat) : Bool := !okB h p i || (List.range n).any (fjB l h p i)
theorem ftB_bad {l : List Int} {h : Int} {n : Nat} {p : List Int} {i : Nat} (hs : okB h p i = false) : ftB l h n p i = true := by rw [ftB, hs]; rfl
theorem ftB_at {l : List Int} {h : Int} {n : Nat} {p : List Int} {i j : Nat} (hj : j < n) (hf : fjB l h p i j = true) : ftB l h n p i = true := by
  rw [ftB, Bool.or_eq_true]
  exact .inr (List.any_eq_true.2 ⟨j, List.mem_range.2 hj, hf⟩)
theorem ftB_no {l : List Int} {h : Int} {n : Nat} {p : List Int} {i : Nat} (hs : okB h p i = true) (hf : ∀ j, j < n → fjB l h p i j = false) : ftB l h n p i = false := by
  rw [ftB, hs, Bool.not_true, Bool.false_or, Bool.eq_false_iff]
  intro hc
  obtain ⟨j, h1, h2⟩ := List.any_eq_true.1 hc
  rw [hf j (List.mem_range.1 h1)] at h2; cases h2
/-- The first job whose slot is wrong. -/
def fwO (l : List Int) (h : Int) (n : Nat) (p : List Int) : Option Nat := (List.range n).find? (ftB l h n p)
theorem fwO_is {l : List Int} {h : Int} {n : Nat} {p : List Int} {i : Nat} (hi : i < n) (hf : ftB l h n p i = true) (hj : ∀ j, j < i → ftB l h n p j = false) : fwO l h n p = some i := range_find hi hf hj
theorem fwO_no {l : List Int} {h : Int} {n : Nat} {p : List Int} (hj : ∀ j, j < n → ftB l h n p j = false) : fwO l h n p = none := by
  rw [fwO, List.find?_eq_none]
  intro x hx
  rw [hj x (List.mem_range.1 hx)]; simp
/-- Its number, or -1. -/
def fwI (l : List Int) (h : Int) (n : Nat) (p : List Int) : Int := match fwO l h n p with
  | some i => i
  | none => -1
theorem fwI_is {l : List Int} {h : Int} {n : Nat} {p : List Int} {i : Nat} (hi : i < n) (hf : ftB l h n p i = true) (hj : ∀ j, j < i → ftB l h n p j = false) : fwI l h n p = (i : Int) := by rw [fwI, fwO_is hi hf hj]
theorem fwI_no {l : List Int} {h : Int} {n : Nat} {p : List Int} (hj : ∀ j, j < n → ftB l h n p j = false) : fwI l h n p = -1 := by rw [fwI, fwO_no hj]

end Go.Proofs.YtagdkibmlfjggaaDoor
