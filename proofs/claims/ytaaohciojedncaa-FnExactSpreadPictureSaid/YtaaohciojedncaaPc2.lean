/- Pictures: validity, parts, places, on both sides. Each is proved to compute a plain function. No conditions beyond the ranges of the kinds. -/
import Derived.Test.YtaaohciojedncaaPc1
set_option linter.unusedSimpArgs false
set_option linter.unusedVariables false
namespace Go.Proofs.Ytaaohciojedncaa
open Go.Sx Go.RowKit

theorem okC_iff {w h : Int} {l : List Int} {i : Nat} : okC w h l i = true ↔ l.getD i 0 < 16 ∧ ((((i % 12 : Nat) : Int) < w ∧ ((i / 12 : Nat) : Int) < h) ∨ l.getD i 0 = 0) := by
  simp [okC, isB]

theorem okB_side {w h : Int} {l : List Int} (hn : ¬ (1 ≤ w ∧ w ≤ 12 ∧ 1 ≤ h ∧ h ≤ 12)) : okB w h l = false := by
  rw [Bool.eq_false_iff, ne_eq]
  intro e
  simp only [okB, Bool.and_eq_true, decide_eq_true_eq] at e
  exact hn ⟨e.1.1.1, e.1.1.2, e.1.2.1, e.1.2.2⟩

theorem okB_bad {w h : Int} {l : List Int} {i : Nat} (hi : i < 144) (hb : okC w h l i = false) : okB w h l = false := by
  rw [Bool.eq_false_iff, ne_eq]
  intro e
  simp only [okB, Bool.and_eq_true, List.all_eq_true] at e
  have := e.2 i (by simpa using hi)
  rw [hb] at this; simp at this

/-- The part of a picture's cells, as many rows as said. -/
def partL (l : List Int) (x y wide : Int) (k : Nat) : List Int := (List.range 144).map fun i => if ((i % 12 : Nat) : Int) < wide ∧ i / 12 < k then l.getD (x.toNat + i % 12 + 12 * (y.toNat + i / 12)) 0 else 0

theorem partL_get {l : List Int} {x y wide : Int} {k i : Nat} (h : i < 144) : (partL l x y wide k)[i]? = some (if ((i % 12 : Nat) : Int) < wide ∧ i / 12 < k then l.getD (x.toNat + i % 12 + 12 * (y.toNat + i / 12)) 0 else 0) := by
  simp [partL, h]

theorem partL_len {l : List Int} {x y wide : Int} {k : Nat} : (partL l x y wide k).length = 144 := by simp [partL]

theorem partL_zero {l : List Int} {x y wide : Int} : List.replicate 144 0 = partL l x y wide 0 := by
  apply List.ext_getElem?
  intro i
  by_cases h : i < 144
  · rw [partL_get h, if_neg (by omega), List.getElem?_replicate, if_pos h]
  · rw [List.getElem?_eq_none (by rw [List.length_replicate]; omega), List.getElem?_eq_none (by rw [partL_len]; omega)]

theorem partL_step {l : List Int} {x y wide : Int} {k : Nat} (hl : l.length = 144) (x0 : 0 ≤ x) (y0 : 0 ≤ y) (w0 : 0 ≤ wide) (xw : x + wide ≤ 12) (yk : y + (k : Int) + 1 ≤ 12) :
    (partL l x y wide k).take (12 * k) ++ (l.drop (x.toNat + 12 * (y.toNat + k))).take wide.toNat ++ (partL l x y wide k).drop (12 * k + wide.toNat) = partL l x y wide (k + 1) := by
  have l1 : ((partL l x y wide k).take (12 * k)).length = 12 * k := by rw [List.length_take, partL_len]; omega
  have l2 : ((l.drop (x.toNat + 12 * (y.toNat + k))).take wide.toNat).length = wide.toNat := by rw [List.length_take, List.length_drop]; omega
  apply List.ext_getElem?
  intro i
  by_cases h : i < 144
  · rw [partL_get h]
    by_cases h1 : i < 12 * k
    · rw [List.append_assoc, List.getElem?_append_left (by omega), List.getElem?_take_of_lt h1, partL_get h]
      have : i / 12 < k := by omega
      have : i / 12 < k + 1 := by omega
      simp [*]
    · by_cases h2 : i < 12 * k + wide.toNat
      · rw [List.getElem?_append_left (by rw [List.length_append]; omega), List.getElem?_append_right (by omega), l1, List.getElem?_take_of_lt (by omega), List.getElem?_drop]
        have e1 : i / 12 = k := by omega
        have e2 : i % 12 = i - 12 * k := by omega
        have e3 : ((i % 12 : Nat) : Int) < wide ∧ i / 12 < k + 1 := by omega
        rw [if_pos e3, e1, e2, List.getD_eq_getElem?_getD, List.getElem?_eq_getElem (by omega), Option.some.injEq]
        rw [show x.toNat + (i - 12 * k) + 12 * (y.toNat + k) = x.toNat + 12 * (y.toNat + k) + (i - 12 * k) by omega, List.getElem?_eq_getElem (by omega)]
        rfl
      · rw [List.getElem?_append_right (by rw [List.length_append]; omega), List.length_append, l1, l2, List.getElem?_drop, show 12 * k + wide.toNat + (i - (12 * k + wide.toNat)) = i by omega, partL_get h]
        by_cases h3 : ((i % 12 : Nat) : Int) < wide ∧ i / 12 < k
        · rw [if_pos h3, if_pos ⟨h3.1, by omega⟩]
        · rw [if_neg h3, if_neg (by omega)]
  · rw [List.getElem?_eq_none (by simp only [List.length_append, l1, l2, List.length_drop, partL_len]; omega), List.getElem?_eq_none (by rw [partL_len]; omega)]

theorem getD_some {l : List Int} {i : Nat} (h : i < l.length) : l[i]? = some (l.getD i 0) := by
  rw [List.getD_eq_getElem?_getD, List.getElem?_eq_getElem h]; rfl

theorem partL_ok {w h : Int} {l : List Int} (hl : l.length = 144) (hs : 1 ≤ w ∧ w ≤ 12 ∧ 1 ≤ h ∧ h ≤ 12) (h16 : ∀ i, i < 144 → l.getD i 0 < 16) : (partL l 0 0 w h.toNat == l) = okB w h l := by
  have key : ∀ i, i < 144 → ((partL l 0 0 w h.toNat)[i]? = l[i]? ↔ okC w h l i = true) := by
    intro i hi
    rw [partL_get hi, getD_some (by omega), Option.some.injEq, okC_iff]
    have := h16 i hi
    have e : (0 : Int).toNat + i % 12 + 12 * ((0 : Int).toNat + i / 12) = i := by simp; omega
    rw [e]
    by_cases c : ((i % 12 : Nat) : Int) < w ∧ i / 12 < h.toNat
    · rw [if_pos c]; constructor
      · intro _; exact ⟨this, .inl (by omega)⟩
      · intro _; rfl
    · rw [if_neg c]; constructor
      · intro e; exact ⟨this, .inr e.symm⟩
      · rintro ⟨_, c' | c'⟩
        · exact absurd (by omega) c
        · exact c'.symm
  rw [Bool.eq_iff_iff, beq_iff_eq]
  constructor
  · intro e
    simp only [okB, Bool.and_eq_true, decide_eq_true_eq, List.all_eq_true, List.mem_range]
    exact ⟨⟨⟨hs.1, hs.2.1⟩, hs.2.2⟩, fun i hi => (key i hi).1 (by rw [e])⟩
  · intro e
    simp only [okB, Bool.and_eq_true, decide_eq_true_eq, List.all_eq_true, List.mem_range] at e
    apply List.ext_getElem?
    intro i
    by_cases hi : i < 144
    · exact (key i hi).2 (e.2 i hi)
    · rw [List.getElem?_eq_none (by rw [partL_len]; omega), List.getElem?_eq_none (by omega)]

def E6 : List (FuncId × Entry) := E4
theorem E6_ok : EntriesOk Try.prog TT E6 := E4_ok
/-- What ColourAt answers. -/
def placeE (w h : Int) (l : List Int) (x y : Int) : Int := if okB w h l then (if 0 ≤ x ∧ x < w ∧ 0 ≤ y ∧ y < h then 0 else 2) else 1
def colAt (w h : Int) (l : List Int) (x y : Int) : Int := if placeE w h l x y = 0 then l.getD (x + 12 * y).toNat 0 else 0

def E7 : List (FuncId × Entry) := E6
theorem E7_ok : EntriesOk Try.prog TT E7 := E6_ok

def colR (w h : Int) (l : List Int) (x y : Int) : LV := .tup [.c (.int .i64 (colAt w h l x y)), .c (.int .i64 (placeE w h l x y))]

theorem place_in {w h : Int} {l : List Int} {x y : Int} (e : placeE w h l x y = 0) : okB w h l = true ∧ 0 ≤ x ∧ x < w ∧ 0 ≤ y ∧ y < h ∧ w ≤ 12 ∧ h ≤ 12 := by
  unfold placeE at e
  split at e
  · rename_i h1
    split at e
    · rename_i h2
      have h3 := h1
      simp only [okB, Bool.and_eq_true, decide_eq_true_eq] at h3
      exact ⟨h1, h2.1, h2.2.1, h2.2.2.1, h2.2.2.2, h3.1.1.2, h3.1.2.2⟩
    · omega
  · omega

theorem colAt_ok {w h : Int} {l : List Int} {x y : Int} (e : placeE w h l x y = 0) : l.getD (x + 12 * y).toNat 0 = colAt w h l x y := by rw [colAt, if_pos e]
theorem colAt_no {w h : Int} {l : List Int} {x y : Int} (e : ¬ placeE w h l x y = 0) : 0 = colAt w h l x y := by rw [colAt, if_neg e]

end Go.Proofs.Ytaaohciojedncaa
