/- Pictures of chapter 6: plain mathematics that no function is named in. No conditions. -/
import Derived.Test.YtepblgefgdllfaaPc2
import Derived.Test.YtepblgefgdllfaaI64
set_option linter.unusedSimpArgs false
set_option linter.unusedVariables false
namespace Go.Proofs.Ytepblgefgdllfaa
open Go.Sx Go.RowKit

theorem tm12 (k : Nat) : (k : Int).tmod 12 = ((k % 12 : Nat) : Int) := rfl
theorem td12 (k : Nat) : (k : Int).tdiv 12 = ((k / 12 : Nat) : Int) := rfl
theorem isB_t {w h : Int} {k : Nat} : isB w h k = true ↔ ((k % 12 : Nat) : Int) < w ∧ ((k / 12 : Nat) : Int) < h := by simp [isB]
theorem isB_f {w h : Int} {k : Nat} : isB w h k = false ↔ ¬ (((k % 12 : Nat) : Int) < w ∧ ((k / 12 : Nat) : Int) < h) := by rw [Bool.eq_false_iff, ne_eq, isB_t]

theorem isB_in {w h : Int} {x y : Nat} (h1 : (x : Int) < w) (h2 : (y : Int) < h) (h3 : w ≤ 12) : isB w h (12 * y + x) = true := isB_t.2 ⟨by omega, by omega⟩
theorem isB_row {w h : Int} {x y i : Nat} (h1 : ¬ (x : Int) < w) (h2 : 12 * y + x ≤ i) (h3 : i < 12 * (y + 1)) : isB w h i = false := isB_f.2 (by omega)
theorem isB_end {w h : Int} {y i : Nat} (h1 : ¬ (y : Int) < h) (h2 : 12 * y ≤ i) : isB w h i = false := isB_f.2 (by omega)

/-- The cells below a number for which something holds. -/
def selF (p : Nat → Bool) (N : Nat) : List Int := ((List.range N).filter p).map Int.ofNat
theorem selF_yes {p : Nat → Bool} {N : Nat} (h : p N = true) : selF p (N + 1) = selF p N ++ [(N : Int)] := by simp [selF, List.range_succ, List.filter_append, h]
theorem selF_no {p : Nat → Bool} {N : Nat} (h : p N = false) : selF p (N + 1) = selF p N := by simp [selF, List.range_succ, List.filter_append, h]
theorem selF_skip {p : Nat → Bool} {N : Nat} : ∀ {M : Nat}, N ≤ M → (∀ i, N ≤ i → i < M → p i = false) → selF p M = selF p N
  | 0, h, _ => by rw [show N = 0 by omega]
  | M + 1, h, hp => by
    by_cases e : N = M + 1
    · rw [e]
    · rw [selF_no (hp M (by omega) (by omega))]
      exact selF_skip (by omega) fun i h1 h2 => hp i h1 (by omega)
theorem selF_len (p : Nat → Bool) (N : Nat) : (selF p N).length ≤ N := by
  simp only [selF, List.length_map]
  exact Nat.le_trans (List.length_filter_le _ _) (by simp)
theorem selF_congr {p q : Nat → Bool} {N : Nat} (h : ∀ i, i < N → p i = q i) : selF p N = selF q N := by
  simp only [selF]
  rw [List.filter_congr (fun i hi => h i (by simpa using hi))]

/-- A slice's memory that holds a list, and maybe more room. -/
structure Gr (F : List Int) (n : Nat) (L : List Int) (cap : Int) : Prop where
  c : (F.length : Int) ≤ cap
  e : n = cap.toNat
  l : L.length = n
  t : L.take F.length = F

theorem Gr.nil : Gr [] 0 [] 0 := ⟨by simp, rfl, rfl, rfl⟩

theorem Gr.push {F : List Int} {n n' : Nat} {L L' : List Int} {cap cap' v : Int} (g : Gr F n L cap) (h1 : (F.length : Int) + 1 ≤ cap') (h2 : n' = cap'.toNat) (h3 : L'.length = n') (h4 : L'.take ((F.length : Int) + 1).toNat = L.take F.length ++ [v]) : Gr (F ++ [v]) n' L' cap' :=
  ⟨by simp; omega, h2, h3, by rw [List.length_append, List.length_singleton, show F.length + 1 = ((F.length : Int) + 1).toNat by omega, h4, g.t]⟩
theorem Gr.room {F : List Int} {n : Nat} {L : List Int} {cap : Int} (g : Gr F n L cap) : F.length ≤ n := by have := g.c; have := g.e; omega

theorem Gr.same {F : List Int} {n n' : Nat} {L L' : List Int} {cap cap' : Int} (g : Gr F n L cap) (g' : Gr F n' L' cap') {i : Nat} (h : i < F.length) : L.getD i 0 = L'.getD i 0 := by
  have e1 : L.getD i 0 = F.getD i 0 := by rw [← getD_take' h, g.t]
  have e2 : L'.getD i 0 = F.getD i 0 := by rw [← getD_take' h, g'.t]
  rw [e1, e2]


theorem okB_all {w h : Int} {l : List Int} (e : okB w h l = true) : (1 ≤ w ∧ w ≤ 12) ∧ (1 ≤ h ∧ h ≤ 12) ∧ ∀ i, i < 144 → l.getD i 0 < 16 ∧ (isB w h i = false → l.getD i 0 = 0) := by
  simp only [okB, Bool.and_eq_true, decide_eq_true_eq, List.all_eq_true, List.mem_range] at e
  refine ⟨e.1.1, e.1.2, fun i hi => ?_⟩
  have := okC_iff.1 (e.2 i hi)
  refine ⟨this.1, fun hb => ?_⟩
  have := isB_f.1 hb
  omega


def resB (lv : LV) : List Nat := match lv with
  | .tup (.c (.slc id _ _ _ _ _) :: _) => [id]
  | .a (.c (.slc id _ _ _ _ _)) => [id]
  | _ => [9999]


theorem gr_err {F : List Int} {E E' : Int} (hF : F = []) (he : E = E') : ∃ x : Nat × List Int × Int, Gr F x.1 x.2.1 x.2.2 ∧ ((0 = (F.length : Int) ∧ 0 = x.2.2) ∧ E = E') ∧ 0 = x.1 ∧ [] = x.2.1 := by
  subst hF; exact ⟨(0, [], 0), Gr.nil, ⟨⟨rfl, rfl⟩, he⟩, rfl, rfl⟩
theorem gr_err' {F : List Int} {E E' : Int} (hF : F = []) (he : E = E') : ∃ x : Nat × List Int × Int, Gr F x.1 x.2.1 x.2.2 ∧ (((F.length : Int) = 0 ∧ x.2.2 = 0) ∧ E = E') ∧ x.1 = 0 ∧ x.2.1 = [] := by
  subst hF; exact ⟨(0, [], 0), Gr.nil, ⟨⟨rfl, rfl⟩, he⟩, rfl, rfl⟩
theorem Gr.eqs {F L L' : List Int} {n n' : Nat} {cap cap' : Int} (g : Gr F n L cap) (g' : Gr F n' L' cap') : eqSl 1 (F.length : Int) (F.length : Int) L L' = true :=
  eqSl_self (by rw [Nat.mul_one, Int.toNat_natCast, g.t, g'.t])
theorem Gr.get {F : List Int} {n : Nat} {L : List Int} {cap : Int} (g : Gr F n L cap) {i : Nat} (h : i < F.length) : L.getD i 0 = F.getD i 0 := by rw [← getD_take' h, g.t]

/-- Of how many of the first cells something holds. -/
def cnF (p : Nat → Bool) : Nat → Int
  | 0 => 0
  | k + 1 => cnF p k + (if p k then 1 else 0)
theorem cnF_bd {p : Nat → Bool} : ∀ {k : Nat}, 0 ≤ cnF p k ∧ cnF p k ≤ (k : Int)
  | 0 => ⟨Int.le_refl 0, Int.le_refl 0⟩
  | k + 1 => by
    have := cnF_bd (p := p) (k := k)
    rw [cnF]; split <;> omega
theorem cnF_yes {p : Nat → Bool} {k : Nat} (h : p k = true) : cnF p (k + 1) = cnF p k + 1 := by rw [cnF, if_pos h]
theorem cnF_no {p : Nat → Bool} {k : Nat} (h : p k = false) : cnF p (k + 1) = cnF p k := by rw [cnF, if_neg (by rw [h]; decide)]; omega
theorem cnF_skip {p : Nat → Bool} {N : Nat} : ∀ {M : Nat}, N ≤ M → (∀ i, N ≤ i → i < M → p i = false) → cnF p M = cnF p N
  | 0, h, _ => by rw [show N = 0 by omega]
  | M + 1, h, hp => by
    by_cases e : N = M + 1
    · rw [e]
    · rw [cnF_no (hp M (by omega) (by omega))]
      exact cnF_skip (by omega) fun i h1 h2 => hp i h1 (by omega)
theorem cnF_congr {p q : Nat → Bool} : ∀ {k : Nat}, (∀ i, i < k → p i = q i) → cnF p k = cnF q k
  | 0, _ => rfl
  | k + 1, h => by rw [cnF, cnF, cnF_congr (k := k) fun i hi => h i (by omega), h k (by omega)]
theorem cnF_zero {p : Nat → Bool} : ∀ {k : Nat}, cnF p k = 0 ↔ ∀ i, i < k → p i = false
  | 0 => ⟨fun _ i hi => by omega, fun _ => rfl⟩
  | k + 1 => by
    have ih := cnF_zero (p := p) (k := k)
    have bd := cnF_bd (p := p) (k := k)
    rw [cnF]
    constructor
    · intro h i hi
      split at h
      · omega
      · rename_i hk
        rcases (show i < k ∨ i = k by omega) with h' | rfl
        · exact ih.1 (by omega) i h'
        · simpa using hk
    · intro h
      rw [if_neg (by rw [h k (by omega)]; decide), ih.2 fun i hi => h i (by omega)]; rfl
theorem selF_cn {p : Nat → Bool} : ∀ {k : Nat}, ((selF p k).length : Int) = cnF p k
  | 0 => rfl
  | k + 1 => by
    cases h : p k with
    | true => rw [selF_yes h, cnF_yes h, List.length_append, List.length_singleton, Int.natCast_add, selF_cn]; rfl
    | false => rw [selF_no h, cnF_no h, selF_cn]
theorem selF_mem {p : Nat → Bool} {N : Nat} {z : Int} : z ∈ selF p N ↔ ∃ i : Nat, i < N ∧ p i = true ∧ z = (i : Int) := by
  simp only [selF, List.mem_map, List.mem_filter, List.mem_range]
  constructor
  · rintro ⟨i, ⟨h1, h2⟩, rfl⟩; exact ⟨i, h1, h2, rfl⟩
  · rintro ⟨i, h1, h2, rfl⟩; exact ⟨i, ⟨h1, h2⟩, rfl⟩

theorem okB_w {w h : Int} {l : List Int} (e : okB w h l = true) : (1 ≤ w ∧ w ≤ 12) ∧ 1 ≤ h ∧ h ≤ 12 := ⟨(okB_all e).1, (okB_all e).2.1⟩
theorem okB_0 {w h : Int} {l : List Int} (e : okB w h l = true) {i : Nat} (hi : i < 144) (hb : isB w h i = false) : l.getD i 0 = 0 := ((okB_all e).2.2 i hi).2 hb
theorem okB_16 {w h : Int} {l : List Int} (e : okB w h l = true) {i : Nat} (hi : i < 144) : l.getD i 0 < 16 := ((okB_all e).2.2 i hi).1

end Go.Proofs.Ytepblgefgdllfaa
