/- Pictures of which lost cells get the colours that a function tells: both sides. No conditions beyond the ranges of the kinds. -/
import Derived.Test.YtjfnajmodlojbaaRp3
set_option linter.unusedSimpArgs false
set_option linter.unusedVariables false
namespace Go.Proofs.Ytjfnajmodlojbaa
open Go.Sx Go.RowKit

/-! ### Plain mathematics -/
theorem selF_get {p : Nat → Bool} {N k : Nat} (h : (selF p k).length < (selF p N).length) (hk : k ≤ N) : ∃ c, k ≤ c ∧ c < N ∧ p c = true ∧ (∀ j, k ≤ j → j < c → p j = false) ∧ (selF p N).getD (selF p k).length 0 = (c : Int) := by
  induction N with
  | zero => rw [show k = 0 by omega] at h; omega
  | succ N ih =>
    by_cases e : k = N + 1
    · rw [e] at h; omega
    · by_cases hlt : (selF p k).length < (selF p N).length
      · obtain ⟨c, h1, h2, h3, h4, h5⟩ := ih hlt (by omega)
        refine ⟨c, h1, by omega, h3, h4, ?_⟩
        cases hp : p N with
        | true => rw [selF_yes hp, List.getD_eq_getElem?_getD, List.getElem?_append_left hlt, ← List.getD_eq_getElem?_getD, h5]
        | false => rw [selF_no hp, h5]
      · have mono : ∀ M, k ≤ M → (selF p k).length ≤ (selF p M).length ∧ ((selF p k).length = (selF p M).length → ∀ j, k ≤ j → j < M → p j = false) := by
          intro M hM
          induction M with
          | zero => rw [show k = 0 by omega]; exact ⟨Nat.le_refl _, fun _ j _ h => by omega⟩
          | succ M ihM =>
            by_cases e : k = M + 1
            · rw [e]; exact ⟨Nat.le_refl _, fun _ j h1 h2 => by omega⟩
            · obtain ⟨i1, i2⟩ := ihM (by omega)
              cases hp : p M with
              | true => rw [selF_yes hp, List.length_append]; exact ⟨by simp; omega, fun he => by simp at he; omega⟩
              | false =>
                rw [selF_no hp]
                refine ⟨i1, fun he j h1 h2 => ?_⟩
                rcases (show j < M ∨ j = M by omega) with h' | rfl
                · exact i2 he j h1 h'
                · exact hp
        obtain ⟨m1, m2⟩ := mono N (by omega)
        have e2 : (selF p k).length = (selF p N).length := by omega
        cases hp : p N with
        | true =>
          refine ⟨N, by omega, by omega, hp, fun j h1 h2 => m2 e2 j h1 h2, ?_⟩
          rw [selF_yes hp, e2, List.getD_eq_getElem?_getD, List.getElem?_append_right (Nat.le_refl _), Nat.sub_self]; rfl
        | false => rw [selF_no hp] at h; omega
theorem selF_rest {p : Nat → Bool} {k : Nat} : ∀ {N : Nat}, k ≤ N → (selF p N).length ≤ (selF p k).length → ∀ j, k ≤ j → j < N → p j = false
  | 0, _, _, j, _, h => by omega
  | N + 1, hk, hl, j, h1, h2 => by
    by_cases e : k = N + 1
    · omega
    · cases hp : p N with
      | true =>
        have mono : ∀ M, k ≤ M → (selF p k).length ≤ (selF p M).length := by
          intro M hM
          induction M with
          | zero => rw [show k = 0 by omega]; exact Nat.le_refl _
          | succ M ih =>
            by_cases e : k = M + 1
            · rw [e]; exact Nat.le_refl _
            · have := ih (by omega)
              cases hq : p M with
              | true => rw [selF_yes hq, List.length_append]; omega
              | false => rw [selF_no hq]; exact this
        have := mono N (by omega)
        rw [selF_yes hp, List.length_append, List.length_singleton] at hl; omega
      | false =>
        rw [selF_no hp] at hl
        rcases (show j < N ∨ j = N by omega) with h' | rfl
        · exact selF_rest (by omega) hl j h1 h'
        · exact hp

/-- The cells when the lost ones below a number have got their colours, and how many of these are stones. -/
def fiL (w h : Int) (l : List Int) (v : Nat → Int) : Nat → List Int
  | 0 => l
  | k + 1 => if lsB w h l k then (fiL w h l v k).set k (v k) else fiL w h l v k
def fiQ (w h : Int) (l : List Int) (v : Nat → Int) (i : Nat) : Bool := lsB w h l i && v i != 0
def fiN (w h : Int) (l : List Int) (v : Nat → Int) (k : Nat) : Int := cnF (fiQ w h l v) k
theorem fiL_len {w h : Int} {l : List Int} {v : Nat → Int} : ∀ {k : Nat}, (fiL w h l v k).length = l.length
  | 0 => rfl
  | k + 1 => by rw [fiL]; split <;> simp [fiL_len]
theorem fiL_y {w h : Int} {l : List Int} {v : Nat → Int} {k : Nat} (hl : lsB w h l k = true) : fiL w h l v (k + 1) = (fiL w h l v k).set k (v k) := by rw [fiL, if_pos hl]
theorem fiL_n {w h : Int} {l : List Int} {v : Nat → Int} {k : Nat} (hl : lsB w h l k = false) : fiL w h l v (k + 1) = fiL w h l v k := by rw [fiL, if_neg (by rw [hl]; decide)]
theorem fiL_skip {w h : Int} {l : List Int} {v : Nat → Int} {N : Nat} : ∀ {M : Nat}, N ≤ M → (∀ i, N ≤ i → i < M → lsB w h l i = false) → fiL w h l v M = fiL w h l v N
  | 0, h, _ => by rw [show N = 0 by omega]
  | M + 1, h, hp => by
    by_cases e : N = M + 1
    · rw [e]
    · rw [fiL_n (hp M (by omega) (by omega))]
      exact fiL_skip (by omega) fun i h1 h2 => hp i h1 (by omega)
theorem fiQ_n {w h : Int} {l : List Int} {v : Nat → Int} {i : Nat} (hl : lsB w h l i = false) : fiQ w h l v i = false := by rw [fiQ, hl]; rfl
theorem fiN_skip {w h : Int} {l : List Int} {v : Nat → Int} {N M : Nat} (h1 : N ≤ M) (h2 : ∀ i, N ≤ i → i < M → lsB w h l i = false) : fiN w h l v M = fiN w h l v N := cnF_skip h1 fun i a b => fiQ_n (h2 i a b)
theorem fiN_n {w h : Int} {l : List Int} {v : Nat → Int} {k : Nat} (hl : lsB w h l k = false) : fiN w h l v (k + 1) = fiN w h l v k := cnF_no (fiQ_n hl)
theorem fiN_y {w h : Int} {l : List Int} {v : Nat → Int} {k : Nat} (hl : lsB w h l k = true) (hv : ¬ v k = 0) : fiN w h l v (k + 1) = fiN w h l v k + 1 := cnF_yes (by rw [fiQ, hl, Bool.true_and]; exact bne_iff_ne.2 hv)
theorem fiN_z {w h : Int} {l : List Int} {v : Nat → Int} {k : Nat} (hv : v k = 0) : fiN w h l v (k + 1) = fiN w h l v k := cnF_no (by rw [fiQ, hv]; simp)
theorem fiN_bd {w h : Int} {l : List Int} {v : Nat → Int} {k : Nat} : 0 ≤ fiN w h l v k ∧ fiN w h l v k ≤ k := cnF_bd
theorem fiL_get {w h : Int} {l : List Int} {v : Nat → Int} (hl : l.length = 144) {i : Nat} (hi : i < 144) : ∀ {k : Nat}, (fiL w h l v k).getD i 0 = if i < k ∧ lsB w h l i = true then v i else l.getD i 0
  | 0 => by rw [if_neg (by omega)]; rfl
  | k + 1 => by
    have ih := fiL_get (v := v) (w := w) (h := h) hl hi (k := k)
    cases hk : lsB w h l k with
    | true =>
      rw [fiL_y hk, List.getD_eq_getElem?_getD, List.getElem?_set]
      by_cases e : k = i
      · subst e
        rw [if_pos rfl, if_pos (by rw [fiL_len]; omega), if_pos ⟨by omega, hk⟩]; rfl
      · rw [if_neg e, ← List.getD_eq_getElem?_getD, ih]
        by_cases c : i < k ∧ lsB w h l i = true
        · rw [if_pos c, if_pos ⟨by omega, c.2⟩]
        · rw [if_neg c, if_neg fun hh => c ⟨by omega, hh.2⟩]
    | false =>
      rw [fiL_n hk, ih]
      by_cases c : i < k ∧ lsB w h l i = true
      · rw [if_pos c, if_pos ⟨by omega, c.2⟩]
      · rw [if_neg c, if_neg fun hh => by
          rcases (show i < k ∨ i = k by omega) with h' | rfl
          · exact c ⟨h', hh.2⟩
          · rw [hk] at hh; cases hh.2]

/-! ### What the program's repaired leaves at a loop's head; B: the block of the repair -/
def lmFiR (B : Nat) (w h : Int) (l : List Int) (v : Nat → Int) : LAnn := { ι := Nat, inv := fun _ y => (y : Int) ≤ h, slots := fun _ y => [(13, .a (.c (.int .i64 y)))], blks := fun _ y => [(B, [.int .i8 w, .int .i8 h, .run [.u8] 144 (fiL w h l v (12 * y)), .int .i64 (fiN w h l v (12 * y))])], μ := fun _ y => h.toNat - y }
def lmFiC (B : Nat) (w h : Int) (l : List Int) (v : Nat → Int) : LAnn := { ι := Nat, inv := fun _ x => (x : Int) ≤ w, slots := fun _ x => [(17, .a (.c (.int .i64 x)))], blks := fun st x => [(B, [.int .i8 w, .int .i8 h, .run [.u8] 144 (fiL w h l v (12 * (slotI st 13).toNat + x)), .int .i64 (fiN w h l v (12 * (slotI st 13).toNat + x))])], μ := fun _ x => w.toNat - x }

/-- A row of cells walked, and its end. -/
theorem fi_end {w h : Int} {l : List Int} {v : Nat → Int} {x y : Nat} (hx : ¬ (x : Int) < w) (hx2 : x ≤ 12) : fiL w h l v (12 * y + x) = fiL w h l v (12 * (y + 1)) ∧ fiN w h l v (12 * y + x) = fiN w h l v (12 * (y + 1)) :=
  ⟨(fiL_skip (by omega) fun i h1 h2 => lsB_n (isB_row hx h1 h2)).symm, (fiN_skip (by omega) fun i h1 h2 => lsB_n (isB_row hx h1 h2)).symm⟩
theorem fi_all {w h : Int} {l : List Int} {v : Nat → Int} {y : Nat} (hy : ¬ (y : Int) < h) (hy2 : y ≤ 12) : fiL w h l v (12 * y) = fiL w h l v 144 ∧ fiN w h l v (12 * y) = fiN w h l v 144 :=
  ⟨(fiL_skip (by omega) fun i h1 h2 => lsB_n (isB_end hy h1)).symm, (fiN_skip (by omega) fun i h1 h2 => lsB_n (isB_end hy h1)).symm⟩
theorem ptn_in' {w h : Int} {k : Int} {i : Nat} (hw : w ≤ 12) (hh : h ≤ 12) (hi : isB w h i = true) : 0 ≤ ptn w h k (i : Int) ∧ ptn w h k (i : Int) ≤ 143 ∧ isB w h (ptn w h k (i : Int)).toNat = true := by
  have hb := isB_t.1 hi
  simp only [ptn, ptX, ptY, tm12, td12]
  rw [isB_t]
  split <;> split <;> omega

end Go.Proofs.Ytjfnajmodlojbaa
