/- Rests that are spread: the mathematics. No conditions. -/
import Derived.Test.YtaaohciojedncaaImg3
set_option linter.unusedSimpArgs false
set_option linter.unusedVariables false
namespace Go.Proofs.Ytaaohciojedncaa
open Go.Sx Go.RowKit

def clV (x : Int) : Int := max 0 (min 255 x)
theorem clV_b (x : Int) : 0 ≤ clV x ∧ clV x ≤ 255 := by unfold clV; omega
def clT (V : Nat → Int) (c : Nat) : List Int := [clV (V (c * 3)), clV (V (c * 3 + 1)), clV (V (c * 3 + 2))]
theorem clT_t (V : Nat → Int) (c : Nat) : TBl (clT V c) := ⟨rfl, fun i hi => by
  rcases (show i = 0 ∨ i = 1 ∨ i = 2 by omega) with rfl | rfl | rfl
  · exact clV_b _
  · exact clV_b _
  · exact clV_b _⟩
/-- Which tone a cell gets (its index), by the values then. -/
def spA (n : Nat) (p : List Int) (V : Nat → Int) (c : Nat) : Nat := leastAt (farAt p (clT V c)) n
/-- The rest of a light. -/
def spR (n : Nat) (p : List Int) (V : Nat → Int) (c k : Nat) : Int := V (c * 3 + k) - p.getD (spA n p V c * 3 + k) 0
/-- The shares: to which cell, whether it is there, which part. -/
def shT (c m : Nat) : Nat := match m with | 0 => c + 1 | 1 => c + 11 | 2 => c + 12 | _ => c + 13
def shP (m : Nat) : Int := match m with | 0 => 7 | 1 => 3 | 2 => 5 | _ => 1
def shI (w h : Int) (c m : Nat) : Bool := match m with
  | 0 => decide (((c % 12 : Nat) : Int) + 1 < w)
  | 1 => decide (1 ≤ c % 12) && decide (((c / 12 : Nat) : Int) + 1 < h)
  | 2 => decide (((c / 12 : Nat) : Int) + 1 < h)
  | _ => decide (((c % 12 : Nat) : Int) + 1 < w) && decide (((c / 12 : Nat) : Int) + 1 < h)
/-- What a cell's share adds to a light, if that share has been given. -/
def shD (w h : Int) (R : Nat → Int) (c : Nat) (s : Nat → Nat → Bool) (m j : Nat) : Int := if shT c m = j / 3 ∧ shI w h c m = true ∧ s m (j % 3) = true then (shP m * R (j % 3)) / 16 else 0
def shA (w h : Int) (V : Nat → Int) (R : Nat → Int) (c : Nat) (s : Nat → Nat → Bool) (j : Nat) : Int := V j + (shD w h R c s 0 j + shD w h R c s 1 j + shD w h R c s 2 j + shD w h R c s 3 j)
def sAll (_ _ : Nat) : Bool := true
def spV (w h : Int) (l : List Int) (n : Nat) (p : List Int) : Nat → Nat → Int
  | 0 => fun j => l.getD j 0
  | c + 1 => fun j => if isB w h c = true then shA w h (spV w h l n p c) (spR n p (spV w h l n p c) c) c sAll j else spV w h l n p c j

theorem shA_congr {w h : Int} {V R : Nat → Int} {c : Nat} {s t : Nat → Nat → Bool} {j : Nat} (e : ∀ m, m < 4 → shI w h c m = true → shT c m = j / 3 → s m (j % 3) = t m (j % 3)) : shA w h V R c s j = shA w h V R c t j := by
  have one : ∀ m, m < 4 → shD w h R c s m j = shD w h R c t m j := fun m hm => by
    by_cases hi : shI w h c m = true
    · by_cases ht : shT c m = j / 3
      · simp only [shD, e m hm hi ht]
      · simp only [shD, ht, false_and]
    · simp [shD, hi]
  rw [shA, shA, one 0 (by omega), one 1 (by omega), one 2 (by omega), one 3 (by omega)]
theorem shA_none {w h : Int} {V R : Nat → Int} {c : Nat} {s : Nat → Nat → Bool} {j : Nat} (e : ∀ m, m < 4 → shI w h c m = true → shT c m = j / 3 → s m (j % 3) = false) : shA w h V R c s j = V j := by
  have one : ∀ m, m < 4 → shD w h R c s m j = 0 := fun m hm => by
    rw [shD, if_neg]
    rintro ⟨h1, h2, h3⟩
    rw [e m hm h2 h1] at h3; cases h3
  rw [shA, one 0 (by omega), one 1 (by omega), one 2 (by omega), one 3 (by omega)]; omega
/-- A cell's own lights stay. -/
theorem shA_own {w h : Int} {V R : Nat → Int} {c : Nat} {s : Nat → Nat → Bool} {j : Nat} (hj : j / 3 ≤ c) : shA w h V R c s j = V j := shA_none fun m hm _ ht => by
  exfalso
  rcases (show m = 0 ∨ m = 1 ∨ m = 2 ∨ m = 3 by omega) with rfl | rfl | rfl | rfl <;> simp only [shT] at ht <;> omega
theorem shT_inj {c m m' : Nat} (h1 : m < 4) (h2 : m' < 4) (e : shT c m = shT c m') : m = m' := by
  rcases (show m = 0 ∨ m = 1 ∨ m = 2 ∨ m = 3 by omega) with rfl | rfl | rfl | rfl <;> rcases (show m' = 0 ∨ m' = 1 ∨ m' = 2 ∨ m' = 3 by omega) with rfl | rfl | rfl | rfl <;> simp only [shT] at e <;> omega
/-- One share of one light is given. -/
theorem shA_step {w h : Int} {V R : Nat → Int} {c m k : Nat} {s t : Nat → Nat → Bool} (hm : m < 4) (hk : k < 3) (hi : shI w h c m = true) (hs : s m k = false) (ht : t m k = true) (hst : ∀ m' k', ¬ (m' = m ∧ k' = k) → t m' k' = s m' k') {x : Int} (hx : x = shA w h V R c s (shT c m * 3 + k) + (shP m * R k) / 16) :
    (mkN 432 (shA w h V R c s)).set (shT c m * 3 + k) x = mkN 432 (shA w h V R c t) := by
  refine mkN_set (fun _ => ?_) fun i _ hne => shA_congr fun m' hm' hi' ht' => ?_
  · have e3 : (shT c m * 3 + k) / 3 = shT c m := by omega
    have e4 : (shT c m * 3 + k) % 3 = k := by omega
    have z : ∀ (u : Nat → Nat → Bool) (m' : Nat), m' < 4 → m' ≠ m → shD w h R c u m' (shT c m * 3 + k) = 0 := fun u m' h1 h2 => by
      rw [shD, if_neg]
      rintro ⟨h3, _⟩
      rw [e3] at h3
      exact h2 (shT_inj h1 hm h3)
    have y1 : shD w h R c s m (shT c m * 3 + k) = 0 := by rw [shD, e4, if_neg]; rintro ⟨_, _, h3⟩; rw [hs] at h3; cases h3
    have y2 : shD w h R c t m (shT c m * 3 + k) = (shP m * R k) / 16 := by rw [shD, e3, e4, if_pos ⟨rfl, hi, ht⟩]
    rw [hx, shA, shA]
    rcases (show m = 0 ∨ m = 1 ∨ m = 2 ∨ m = 3 by omega) with rfl | rfl | rfl | rfl
    · rw [y1, y2, z s 1 (by omega) (by omega), z s 2 (by omega) (by omega), z s 3 (by omega) (by omega), z t 1 (by omega) (by omega), z t 2 (by omega) (by omega), z t 3 (by omega) (by omega)]; omega
    · rw [y1, y2, z s 0 (by omega) (by omega), z s 2 (by omega) (by omega), z s 3 (by omega) (by omega), z t 0 (by omega) (by omega), z t 2 (by omega) (by omega), z t 3 (by omega) (by omega)]; omega
    · rw [y1, y2, z s 0 (by omega) (by omega), z s 1 (by omega) (by omega), z s 3 (by omega) (by omega), z t 0 (by omega) (by omega), z t 1 (by omega) (by omega), z t 3 (by omega) (by omega)]; omega
    · rw [y1, y2, z s 0 (by omega) (by omega), z s 1 (by omega) (by omega), z s 2 (by omega) (by omega), z t 0 (by omega) (by omega), z t 1 (by omega) (by omega), z t 2 (by omega) (by omega)]; omega
  · refine (hst m' (i % 3) ?_).symm
    rintro ⟨rfl, h2⟩
    omega

/-! ### How great the values get -/
def spW (c i : Nat) : Int := if i ≤ c then 16 else if i < c + 11 then 9 else if i < c + 12 then 6 else if i < c + 13 then 1 else 0
theorem getD_byl {n : Nat} {p : List Int} (hp : byl (n * 3) p) {a k : Nat} (ha : a < n) (hk : k < 3) : 0 ≤ p.getD (a * 3 + k) 0 ∧ p.getD (a * 3 + k) 0 ≤ 255 := hp _ (by omega)
theorem spA_lt {n : Nat} {p : List Int} {V : Nat → Int} {c : Nat} (h1 : 1 ≤ n) : spA n p V c < n := leastAt_lt h1
theorem spV_bd {w h : Int} {l p : List Int} {n : Nat} (hl : byl 432 l) (hp : byl (n * 3) p) (h1 : 1 ≤ n) : ∀ {c : Nat}, c ≤ 144 → ∀ j, j < 432 → -(4080 + spW c (j / 3) * (526 * (c : Int) + 16)) ≤ 16 * spV w h l n p c j ∧ 16 * spV w h l n p c j ≤ 4080 + spW c (j / 3) * (526 * (c : Int) + 16)
  | 0, _, j, hj => by
    have := hl j hj
    simp only [spV, spW]
    split
    · omega
    · split
      · omega
      · split
        · omega
        · split <;> omega
  | c + 1, hc, j, hj => by
    have ih := spV_bd (w := w) (h := h) hl hp h1 (c := c) (by omega)
    have a := ih j hj
    have hR : -(526 * (c : Int) + 526) ≤ spR n p (spV w h l n p c) c (j % 3) ∧ spR n p (spV w h l n p c) c (j % 3) ≤ 526 * (c : Int) + 526 := by
      have b := ih (c * 3 + j % 3) (by omega)
      have d := getD_byl hp (spA_lt (n := n) (p := p) (V := spV w h l n p c) (c := c) h1) (show j % 3 < 3 by omega)
      rw [show (c * 3 + j % 3) / 3 = c by omega, spW, if_pos (Nat.le_refl c)] at b
      rw [spR]
      omega
    simp only [spV]
    have z : ∀ m, shT c m ≠ j / 3 → shD w h (spR n p (spV w h l n p c) c) c sAll m j = 0 := fun m hm => by rw [shD, if_neg (fun h => hm h.1)]
    have y : ∀ m, shD w h (spR n p (spV w h l n p c) c) c sAll m j = 0 ∨ shD w h (spR n p (spV w h l n p c) c) c sAll m j = (shP m * spR n p (spV w h l n p c) c (j % 3)) / 16 := fun m => by
      rw [shD]; split
      · exact .inr rfl
      · exact .inl rfl
    have y0 := y 0; have y1 := y 1; have y2 := y 2; have y3 := y 3
    have z0 := z 0; have z1 := z 1; have z2 := z 2; have z3 := z 3
    simp only [shP, shT] at y0 y1 y2 y3 z0 z1 z2 z3
    by_cases hb : isB w h c = true
    · rw [if_pos hb, shA]
      revert y0 y1 y2 y3 z0 z1 z2 z3
      generalize shD w h (spR n p (spV w h l n p c) c) c sAll 0 j = d0
      generalize shD w h (spR n p (spV w h l n p c) c) c sAll 1 j = d1
      generalize shD w h (spR n p (spV w h l n p c) c) c sAll 2 j = d2
      generalize shD w h (spR n p (spV w h l n p c) c) c sAll 3 j = d3
      generalize spR n p (spV w h l n p c) c (j % 3) = R at hR
      generalize spV w h l n p c j = v at a
      generalize j / 3 = i at a
      intro y0 y1 y2 y3 z0 z1 z2 z3
      clear z y ih hb hl hp
      rcases (show i ≤ c ∨ i = c + 1 ∨ (c + 1 < i ∧ i < c + 11) ∨ i = c + 11 ∨ i = c + 12 ∨ i = c + 13 ∨ c + 13 < i by omega) with q | q | q | q | q | q | q
      · rw [spW, if_pos (by omega)] at a ⊢
        rw [z0 (by omega), z1 (by omega), z2 (by omega), z3 (by omega)]
        omega
      · rw [spW, if_neg (by omega), if_pos (by omega)] at a
        rw [spW, if_pos (by omega), z1 (by omega), z2 (by omega), z3 (by omega)]
        omega
      · rw [spW, if_neg (by omega), if_pos (by omega)] at a ⊢
        rw [z0 (by omega), z1 (by omega), z2 (by omega), z3 (by omega)]
        omega
      · rw [spW, if_neg (by omega), if_neg (by omega), if_pos (by omega)] at a
        rw [spW, if_neg (by omega), if_pos (by omega), z0 (by omega), z2 (by omega), z3 (by omega)]
        omega
      · rw [spW, if_neg (by omega), if_neg (by omega), if_neg (by omega), if_pos (by omega)] at a
        rw [spW, if_neg (by omega), if_neg (by omega), if_pos (by omega), z0 (by omega), z1 (by omega), z3 (by omega)]
        omega
      · rw [spW, if_neg (by omega), if_neg (by omega), if_neg (by omega), if_neg (by omega)] at a
        rw [spW, if_neg (by omega), if_neg (by omega), if_neg (by omega), if_pos (by omega), z0 (by omega), z1 (by omega), z2 (by omega)]
        omega
      · rw [spW, if_neg (by omega), if_neg (by omega), if_neg (by omega), if_neg (by omega)] at a ⊢
        rw [z0 (by omega), z1 (by omega), z2 (by omega), z3 (by omega)]
        omega
    · rw [if_neg hb]
      generalize spV w h l n p c j = v at a
      generalize j / 3 = i at a
      clear z y y0 y1 y2 y3 z0 z1 z2 z3 ih hb hl hp
      simp only [spW] at a ⊢
      repeat' split at a
      all_goals (repeat' split) <;> omega
/-- All values that are met. -/
theorem spV_le {w h : Int} {l p : List Int} {n : Nat} (hl : byl 432 l) (hp : byl (n * 3) p) (h1 : 1 ≤ n) {c : Nat} (hc : c ≤ 144) {j : Nat} (hj : j < 432) : -76100 ≤ spV w h l n p c j ∧ spV w h l n p c j ≤ 76100 := by
  have := spV_bd (w := w) (h := h) hl hp h1 hc j hj
  revert this
  generalize spV w h l n p c j = v
  simp only [spW]
  repeat' split
  all_goals omega
theorem spR_le {w h : Int} {l p : List Int} {n : Nat} (hl : byl 432 l) (hp : byl (n * 3) p) (h1 : 1 ≤ n) {c : Nat} (hc : c < 144) {k : Nat} (hk : k < 3) : -76400 ≤ spR n p (spV w h l n p c) c k ∧ spR n p (spV w h l n p c) c k ≤ 76400 := by
  have a := spV_le (w := w) (h := h) hl hp h1 (c := c) (by omega) (j := c * 3 + k) (by omega)
  have d := getD_byl hp (spA_lt (n := n) (p := p) (V := spV w h l n p c) (c := c) h1) hk
  rw [spR]; omega
theorem shA_le {w h : Int} {l p : List Int} {n : Nat} (hl : byl 432 l) (hp : byl (n * 3) p) (h1 : 1 ≤ n) {c : Nat} (hc : c < 144) {s : Nat → Nat → Bool} {j : Nat} (hj : j < 432) : -300000 ≤ shA w h (spV w h l n p c) (spR n p (spV w h l n p c) c) c s j ∧ shA w h (spV w h l n p c) (spR n p (spV w h l n p c) c) c s j ≤ 300000 := by
  have a := spV_le (w := w) (h := h) hl hp h1 (c := c) (by omega) hj
  have b := spR_le (w := w) (h := h) hl hp h1 hc (show j % 3 < 3 by omega)
  have y : ∀ m, shD w h (spR n p (spV w h l n p c) c) c s m j = 0 ∨ shD w h (spR n p (spV w h l n p c) c) c s m j = (shP m * spR n p (spV w h l n p c) c (j % 3)) / 16 := fun m => by
    rw [shD]; split
    · exact .inr rfl
    · exact .inl rfl
  have y0 := y 0; have y1 := y 1; have y2 := y 2; have y3 := y 3
  simp only [shP] at y0 y1 y2 y3
  rw [shA]; omega

/-- The values then, as a list. -/
def spL (w h : Int) (l : List Int) (n : Nat) (p : List Int) (c : Nat) : List Int := mkN 432 (spV w h l n p c)
def spS (w h : Int) (l : List Int) (n : Nat) (p : List Int) (c : Nat) (s : Nat → Nat → Bool) : List Int := mkN 432 (shA w h (spV w h l n p c) (spR n p (spV w h l n p c) c) c s)
theorem spL_0 {w h : Int} {l p : List Int} {n : Nat} (hl : l.length = 432) : l = spL w h l n p 0 := mkN_ext hl fun _ _ => rfl
theorem spL_skip {w h : Int} {l p : List Int} {n N : Nat} : ∀ {M : Nat}, N ≤ M → (∀ i, N ≤ i → i < M → isB w h i = false) → spL w h l n p N = spL w h l n p M
  | 0, h, _ => by rw [show N = 0 by omega]
  | M + 1, h, hp => by
    by_cases e : N = M + 1
    · rw [e]
    · rw [spL_skip (M := M) (by omega) fun i h1 h2 => hp i h1 (by omega)]
      exact mkN_congr fun j _ => by show _ = (if isB w _ M = true then _ else _); rw [if_neg (by rw [hp M (by omega) (by omega)]; decide)]
theorem spS_0 {w h : Int} {l p : List Int} {n c : Nat} {s : Nat → Nat → Bool} (hs : ∀ m k, m < 4 → k < 3 → s m k = false) : spL w h l n p c = spS w h l n p c s := mkN_congr fun j _ => (shA_none fun m hm _ _ => hs m _ hm (by omega)).symm
theorem spS_congr {w h : Int} {l p : List Int} {n c : Nat} {s t : Nat → Nat → Bool} (hs : ∀ m k, m < 4 → k < 3 → shI w h c m = true → s m k = t m k) : spS w h l n p c s = spS w h l n p c t := mkN_congr fun j _ => shA_congr fun m hm hi _ => hs m _ hm (by omega) hi
theorem spS_all {w h : Int} {l p : List Int} {n c : Nat} {s : Nat → Nat → Bool} (hb : isB w h c = true) (hs : ∀ m k, m < 4 → k < 3 → shI w h c m = true → s m k = true) : spS w h l n p c s = spL w h l n p (c + 1) := by
  rw [spS_congr (t := sAll) hs]
  exact mkN_congr fun j _ => by show _ = (if isB w h c = true then _ else _); rw [if_pos hb]
theorem spS_own {w h : Int} {l p : List Int} {n c : Nat} {s : Nat → Nat → Bool} {j : Nat} (hc : c < 144) (hj : j / 3 = c) : (spS w h l n p c s).getD j 0 = spV w h l n p c j := by
  rw [spS, mkN_getD (by omega), shA_own (by omega)]
theorem spL_own {w h : Int} {l p : List Int} {n c : Nat} {j : Nat} (hj : j < 432) : (spL w h l n p c).getD j 0 = spV w h l n p c j := by
  rw [spL, mkN_getD hj]
theorem spS_step {w h : Int} {l p : List Int} {n c m k : Nat} {s t : Nat → Nat → Bool} (hc : shT c m * 3 + k < 432) (hm : m < 4) (hk : k < 3) (hi : shI w h c m = true) (hs : s m k = false) (ht : t m k = true) (hst : ∀ m' k', ¬ (m' = m ∧ k' = k) → t m' k' = s m' k') :
    (spS w h l n p c s).set (shT c m * 3 + k) ((spS w h l n p c s).getD (shT c m * 3 + k) 0 + (shP m * spR n p (spV w h l n p c) c k) / 16) = spS w h l n p c t :=
  shA_step hm hk hi hs ht hst (by rw [spS, mkN_getD hc])
/-- The colours, as far as the first cells. -/
def spF (w h : Int) (l : List Int) (n : Nat) (p : List Int) (k i : Nat) : Int := if i < k ∧ isB w h i = true then ((spA n p (spV w h l n p i) i : Nat) : Int) + 1 else 0
def spP (w h : Int) (l : List Int) (n : Nat) (p : List Int) (k : Nat) : List Int := mkN 144 (spF w h l n p k)
theorem spP_0 {w h : Int} {n : Nat} {p l : List Int} : List.replicate 144 0 = spP w h l n p 0 := mkN_zero fun i _ => by rw [spF, if_neg (by omega)]
theorem spP_t {w h : Int} {n k : Nat} {p l : List Int} (hb : isB w h k = true) : (spP w h l n p k).set k (((spA n p (spV w h l n p k) k : Nat) : Int) + 1) = spP w h l n p (k + 1) := by
  refine mkN_set (fun _ => by rw [spF, if_pos ⟨by omega, hb⟩]) fun i _ hne => ?_
  have : i < k ↔ i < k + 1 := by omega
  simp only [spF, this]
theorem spP_skip {w h : Int} {n : Nat} {p l : List Int} {N M : Nat} (h1 : N ≤ M) (hp : ∀ i, N ≤ i → i < M → isB w h i = false) : spP w h l n p N = spP w h l n p M := by
  refine mkN_congr fun j _ => ?_
  simp only [spF]
  by_cases hb : isB w h j = true
  · have : j < N ↔ j < M := by
      constructor
      · intro h'; omega
      · intro h'
        rcases Nat.lt_or_ge j N with h'' | h''
        · exact h''
        · rw [hp _ h'' h'] at hb; cases hb
    simp only [this]
  · simp [hb]
noncomputable def spRr (w h : Int) (l : List Int) (n : Nat) (p : List Int) : LV := .tup [.agg [.int .i8 (if okI w h l && palB n p then w else 0), .int .i8 (if okI w h l && palB n p then h else 0), .run [.u8] 144 (if okI w h l && palB n p then spP w h l n p 144 else List.replicate 144 0)], .c (.int .i64 (if okI w h l && palB n p then 0 else 1))]

end Go.Proofs.Ytaaohciojedncaa
