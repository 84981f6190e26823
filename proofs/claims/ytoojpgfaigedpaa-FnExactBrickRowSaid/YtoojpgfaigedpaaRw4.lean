/- BrickRow: both sides. No conditions beyond the ranges of the kinds. -/
import Derived.Test.YtoojpgfaigedpaaRwg
set_option linter.unusedSimpArgs false
set_option linter.unusedVariables false
namespace Go.Proofs.Ytoojpgfaigedpaa
open Go.Sx Go.RowKit

/-- Where a stone and what is behind it end, after so many stones. -/
def bkA (f p : Int) : Nat → Int
  | 0 => f
  | j + 1 => bkA f p j + p
theorem bkA_le {f p : Int} (hf : 0 ≤ f) (hp : 1 ≤ p) : ∀ {j : Nat}, f + (j : Int) ≤ bkA f p j
  | 0 => by simp [bkA]
  | j + 1 => by have := bkA_le hf hp (j := j); rw [bkA]; omega
/-- How many stones of the width there are. -/
def bkQ (f p y : Int) : Nat := ((List.range 2001).find? fun j => decide (y < bkA f p (j + 1))).getD 0
theorem bk_q {f p y : Int} {j : Nat} (hj : j ≤ 2000) (h : ∀ i, i < j → bkA f p (i + 1) ≤ y) (hh : y < bkA f p (j + 1)) : bkQ f p y = j := by
  have e : (List.range 2001).find? (fun j => decide (y < bkA f p (j + 1))) = some j := by
    rw [List.find?_range_eq_some]
    refine ⟨by simpa using hh, by rw [List.mem_range]; omega, fun i hi => ?_⟩
    have := h i hi
    rw [Bool.not_eq_true', decide_eq_false_iff_not]; omega
  rw [bkQ, e]; rfl
theorem bk_key {f p y : Int} (hp : 1 ≤ p) (hf : 0 ≤ f) (hy : y ≤ 2000) : ∃ q, q ≤ 2000 ∧ (∀ i, i < q → bkA f p (i + 1) ≤ y) ∧ y < bkA f p (q + 1) := by
  have : ∀ d : Nat, ∃ q, q ≤ d ∧ (∀ i, i < q → bkA f p (i + 1) ≤ y) ∧ (q = d ∨ y < bkA f p (q + 1)) := by
    intro d
    induction d with
    | zero => exact ⟨0, by omega, fun i hi => by omega, .inl rfl⟩
    | succ d ih =>
      obtain ⟨q, h1, h2, h3⟩ := ih
      rcases h3 with rfl | h3
      · by_cases c : y < bkA f p (q + 1)
        · exact ⟨q, by omega, h2, .inr c⟩
        · exact ⟨q + 1, by omega, fun i hi => by
            rcases (show i < q ∨ i = q by omega) with h' | rfl
            · exact h2 i h'
            · omega, .inl rfl⟩
      · exact ⟨q, by omega, h2, .inr h3⟩
  obtain ⟨q, h1, h2, h3⟩ := this 2000
  rcases h3 with rfl | h3
  · exact ⟨2000, by omega, h2, by have := bkA_le hf hp (j := 2000 + 1); omega⟩
  · exact ⟨q, h1, h2, h3⟩
theorem bk_far {f p y : Int} {j : Nat} (hj : j ≤ 2000) (h : ∀ i, i < j → bkA f p (i + 1) ≤ y) (hp : 1 ≤ p) (hf : 0 ≤ f) (hy : y ≤ 2000) : j ≤ bkQ f p y := by
  obtain ⟨q, h1, h2, h3⟩ := bk_key hp hf hy
  rw [bk_q h1 h2 h3]
  rcases Nat.lt_or_ge q j with c | c
  · have := h q c; omega
  · exact c
theorem bk_le {f p y : Int} (hp : 1 ≤ p) (hf : 0 ≤ f) (hy : y ≤ 2000) (hfy : f ≤ y) : bkQ f p y ≤ 2000 ∧ bkA f p (bkQ f p y) ≤ y ∧ 0 ≤ bkA f p (bkQ f p y) := by
  obtain ⟨q, h1, h2, h3⟩ := bk_key hp hf hy
  rw [bk_q h1 h2 h3]
  have := bkA_le hf hp (j := q)
  refine ⟨h1, ?_, by omega⟩
  cases q with
  | zero => exact hfy
  | succ q => exact h2 q (by omega)

/-- What is left behind the last stone of the width. -/
def bkL (y s w f : Int) : Int := y - bkA f (s + w) (bkQ f (s + w) y)
def bkK (y s w f : Int) : Nat := if s < bkL y s w f then bkQ f (s + w) y + 2 else bkQ f (s + w) y + 1
def bkV (y s w f : Int) (i : Nat) : Int := (if i = 0 then f else if i ≤ bkQ f (s + w) y then w else bkL y s w f - s) + (if i = bkQ f (s + w) y ∧ bkL y s w f ≤ s then bkL y s w f else 0)
def bkW (w f : Int) (i : Nat) : Int := if i = 0 then f else w

def brC (y s w f : Int) : Prop := (1 ≤ y ∧ y ≤ 2000) ∧ (0 ≤ s ∧ s ≤ 200) ∧ (1 ≤ w ∧ w ≤ 200) ∧ 1 ≤ f ∧ f ≤ 200
instance (y s w f : Int) : Decidable (brC y s w f) := by unfold brC; infer_instance
noncomputable def brB (y s w f : Int) : Bool := rwB (bkK y s w (min f y)) (mkN (bkK y s w (min f y)) (bkV y s w (min f y)))
noncomputable def brE (y s w f : Int) : Int := if brC y s w f then (if brB y s w f then 0 else 6) else 2
noncomputable def brK (y s w f : Int) : Nat := if brE y s w f = 0 then bkK y s w (min f y) else 0
noncomputable def brF (y s w f : Int) : List Int := mkN (brK y s w f) (bkV y s w (min f y))
theorem br_e {y s w f E : Int} (he : brE y s w f = E) (hE : E ≠ 0) : brK y s w f = 0 ∧ brF y s w f = [] ∧ E = brE y s w f := by
  have k : brK y s w f = 0 := by rw [brK, if_neg (by omega)]
  exact ⟨k, by rw [brF, k]; rfl, he.symm⟩
theorem br_2 {y s w f : Int} (h : ¬ brC y s w f) : brK y s w f = 0 ∧ brF y s w f = [] ∧ 2 = brE y s w f := br_e (y := y) (s := s) (w := w) (f := f) (E := 2) (by rw [brE, if_neg h]) (by omega)
theorem br_6 {y s w f : Int} (h : brC y s w f) (hb : brB y s w f = false) : brK y s w f = 0 ∧ brF y s w f = [] ∧ 6 = brE y s w f := br_e (y := y) (s := s) (w := w) (f := f) (E := 6) (by rw [brE, if_pos h, hb]; rfl) (by omega)
theorem br_0 {y s w f : Int} (h : brC y s w f) (hb : brB y s w f = true) : brK y s w f = bkK y s w (min f y) ∧ brF y s w f = mkN (bkK y s w (min f y)) (bkV y s w (min f y)) ∧ 0 = brE y s w f := by
  have e : brE y s w f = 0 := by rw [brE, if_pos h, hb]; rfl
  have k : brK y s w f = bkK y s w (min f y) := by rw [brK, if_pos e]
  exact ⟨k, by rw [brF, k], e.symm⟩

theorem Gq.get {k : Nat} {F : List Int} {n : Nat} {L : List Int} {cap : Int} (g : Gq 1 k F n L cap) {i : Nat} (h : i < k) : L.getD i 0 = F.getD i 0 := by
  have t := g.t
  rw [Nat.mul_one] at t
  rw [← t, getD_take' h]
theorem set_take {j : Nat} {L : List Int} {v : Int} {f : Nat → Int} (hL : j + 1 ≤ L.length) (h : ∀ i, i < j → L.getD i 0 = f i) (hv : v = f j) : (L.set j v).take (j + 1) = mkN (j + 1) f := by
  subst hv
  refine mkN_ext (by simp; omega) fun i hi => ?_
  rw [getD_take' hi, List.getD_eq_getElem?_getD, List.getElem?_set]
  by_cases e : j = i
  · subst e; simp [show j < L.length by omega]
  · rw [if_neg e, ← List.getD_eq_getElem?_getD, h i (by omega)]
theorem rwB_congr {n : Nat} {l m : List Int} (h : ∀ i, i < n → l.getD i 0 = m.getD i 0) : rwB n l = rwB n m := by
  rw [Bool.eq_iff_iff, rwB_t, rwB_t]
  exact ⟨fun ⟨a, b⟩ => ⟨a, ⟨fun i hi => by rw [← h i hi]; exact b.ok i hi⟩⟩, fun ⟨a, b⟩ => ⟨a, ⟨fun i hi => by rw [h i hi]; exact b.ok i hi⟩⟩⟩
theorem bkV_lt {y s w f : Int} {i : Nat} (h : i < bkQ f (s + w) y) : bkV y s w f i = bkW w f i := by
  unfold bkV bkW
  rw [if_neg (show ¬ (i = bkQ f (s + w) y ∧ bkL y s w f ≤ s) by omega), Int.add_zero]
  split
  · rfl
  · rw [if_pos (by omega)]
theorem bkV_q {y s w f : Int} : bkV y s w f (bkQ f (s + w) y) = bkW w f (bkQ f (s + w) y) + (if bkL y s w f ≤ s then bkL y s w f else 0) := by
  unfold bkV bkW
  simp only [true_and, Nat.le_refl, ↓reduceIte]
theorem bkV_bd {y s w f : Int} {i : Nat} (hy : y ≤ 2000) (hs : 0 ≤ s ∧ s ≤ 200) (hw : 1 ≤ w ∧ w ≤ 200) (hf : 1 ≤ f ∧ f ≤ 200) (hfy : f ≤ y) : -5000 ≤ bkV y s w f i ∧ bkV y s w f i ≤ 5000 := by
  have := bk_le (f := f) (p := s + w) (by omega) (by omega) hy hfy
  have e : bkL y s w f = y - bkA f (s + w) (bkQ f (s + w) y) := rfl
  unfold bkV
  split <;> split <;> (try split) <;> omega
theorem bkK_le {y s w f : Int} (hy : y ≤ 2000) (hs : 0 ≤ s) (hw : 1 ≤ w) (hf : 0 ≤ f) (hfy : f ≤ y) : bkK y s w f ≤ 2002 := by
  have := bk_le (f := f) (p := s + w) (by omega) (by omega) hy hfy
  unfold bkK; split <;> omega
theorem bkV_last {y s w f : Int} : bkV y s w f (bkQ f (s + w) y + 1) = bkL y s w f - s := by
  unfold bkV
  rw [if_neg (by omega), if_neg (by omega), if_neg (by omega), Int.add_zero]

def lmBkI (y s w f : Int) : LAnn := { ι := Nat × Nat × List Int × Int, inv := fun _ x => x.1 ≤ 2000 ∧ bkA f (s + w) x.1 ≤ y ∧ (∀ i, i < x.1 → bkA f (s + w) (i + 1) ≤ y) ∧ Gq 1 (x.1 + 1) (mkN (x.1 + 1) (bkW w f)) x.2.1 x.2.2.1 x.2.2.2, slots := fun _ x => [(5, .a (.c (.slc 2 0 0 1 (x.1 + 1 : Nat) x.2.2.2))), (6, .a (.c (.int .i64 (y - bkA f (s + w) x.1))))], blks := fun _ _ => [], μ := fun _ x => 2001 - x.1, kills := [1], frs := fun _ x => [.cells true 70 [.run [.i16] x.2.1 x.2.2.1]], mv := fun st => [slotB st 5] }


end Go.Proofs.Ytoojpgfaigedpaa
