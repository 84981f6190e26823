/- Jobs that are valid: the sums of the chains behind each job. Mathematics, no function is named. No conditions. -/
import Derived.Test.YtagdkibmlfjggaaDoorJb0
set_option linter.unusedSimpArgs false
set_option linter.unusedVariables false
namespace Go.Proofs.YtagdkibmlfjggaaDoor
open Go.Sx Go.RowKit

/-! ### The steps of the order -/
theorem VJ.lenr {n : Nat} {l : List Int} (v : VJ n l) {r : Nat} (hr : r ≤ n) : (Go.Proofs.YtagdkibmlfjggaaDoor.od l n r).1.length = r := by
  have h1 := (od_p l n r).le
  rcases Nat.lt_or_ge (Go.Proofs.YtagdkibmlfjggaaDoor.od l n r).1.length r with h | h
  · -- a step was not made: none after it
    exfalso
    have key : ∀ d, d ≤ n - r → (Go.Proofs.YtagdkibmlfjggaaDoor.od l n (r + d)).1.length ≤ (Go.Proofs.YtagdkibmlfjggaaDoor.od l n r).1.length + d := by
      intro d
      induction d with
      | zero => intro _; exact Nat.le_refl _
      | succ d ih =>
        intro hd
        have := ih (by omega)
        show (Go.Proofs.YtagdkibmlfjggaaDoor.od l n (r + d + 1)).1.length ≤ _
        rw [Go.Proofs.YtagdkibmlfjggaaDoor.od]
        split
        · rw [List.length_append, List.length_singleton]; omega
        · omega
    have := key (n - r) (Nat.le_refl _)
    rw [show r + (n - r) = n by omega, v.len] at this
    omega
  · omega
theorem VJ.step {n : Nat} {l : List Int} (v : VJ n l) {r : Nat} (hr : r < n) : ∃ j, j < n ∧ nx l n (Go.Proofs.YtagdkibmlfjggaaDoor.od l n r).2 = some j ∧ Go.Proofs.YtagdkibmlfjggaaDoor.od l n (r + 1) = ((Go.Proofs.YtagdkibmlfjggaaDoor.od l n r).1 ++ [j], (Go.Proofs.YtagdkibmlfjggaaDoor.od l n r).2 ||| 2 ^ j) := by
  cases h : nx l n (Go.Proofs.YtagdkibmlfjggaaDoor.od l n r).2 with
  | none => exact absurd v.od (od_short hr h)
  | some j => exact ⟨j, (nx_some h).1, rfl, od_some h⟩
theorem VJ.pre {n : Nat} {l : List Int} (v : VJ n l) {r : Nat} (hr : r ≤ n) : (Go.Proofs.YtagdkibmlfjggaaDoor.od l n r).1 = (Go.Proofs.YtagdkibmlfjggaaDoor.od l n n).1.take r := by
  have key : ∀ d, r + d ≤ n → (Go.Proofs.YtagdkibmlfjggaaDoor.od l n r).1 = (Go.Proofs.YtagdkibmlfjggaaDoor.od l n (r + d)).1.take r := by
    intro d
    induction d with
    | zero => intro _; rw [Nat.add_zero, List.take_of_length_le (by rw [v.lenr hr]; exact Nat.le_refl _)]
    | succ d ih =>
      intro hd
      obtain ⟨j, _, _, e⟩ := v.step (r := r + d) (by omega)
      show _ = (Go.Proofs.YtagdkibmlfjggaaDoor.od l n (r + d + 1)).1.take r
      rw [e, List.take_append_of_le_length (by rw [v.lenr (by omega)]; omega)]
      exact ih (by omega)
  have := key (n - r) (by omega)
  rwa [show r + (n - r) = n by omega] at this
/-- The r-th one of the order, and what is true of it. -/
theorem VJ.at {n : Nat} {l : List Int} (v : VJ n l) {r : Nat} (hr : r < n) : ∃ j, j < n ∧ (odI l n n).getD r 0 = (j : Int) ∧ (Go.Proofs.YtagdkibmlfjggaaDoor.od l n (r + 1)).1 = (Go.Proofs.YtagdkibmlfjggaaDoor.od l n r).1 ++ [j] ∧ j ∉ (Go.Proofs.YtagdkibmlfjggaaDoor.od l n r).1 ∧
    (∀ k, (Go.Proofs.YtagdkibmlfjggaaDoor.af l j).testBit k = true → k < n ∧ k ∈ (Go.Proofs.YtagdkibmlfjggaaDoor.od l n r).1) ∧ ∀ c, c < n → c ∈ (Go.Proofs.YtagdkibmlfjggaaDoor.od l n (r + 1)).1 → (Go.Proofs.YtagdkibmlfjggaaDoor.af l c).testBit j = false := by
  obtain ⟨j, h1, h2, e⟩ := v.step hr
  have p := od_p l n r
  have p1 := od_p l n (r + 1)
  obtain ⟨h3, h4⟩ := nxB_t (nx_some h2).2
  have hn : j ∉ (Go.Proofs.YtagdkibmlfjggaaDoor.od l n r).1 := fun hm => by rw [(p.bit j).2 hm] at h3; cases h3
  have ha : ∀ k, (Go.Proofs.YtagdkibmlfjggaaDoor.af l j).testBit k = true → k ∈ (Go.Proofs.YtagdkibmlfjggaaDoor.od l n r).1 := fun k hk => (p.bit k).1 (sub_bit h4 hk)
  refine ⟨j, h1, ?_, by rw [e], hn, fun k hk => ⟨p.lt k (ha k hk), ha k hk⟩, fun c _ hc => ?_⟩
  · have hp := v.pre (r := r + 1) (by omega)
    rw [e] at hp
    have hlen := v.len
    have : (Go.Proofs.YtagdkibmlfjggaaDoor.od l n n).1[r]? = some j := by
      have := congrArg (fun z => z[r]?) hp
      simp only at this
      rw [List.getElem?_append_right (by rw [v.lenr (by omega)]; exact Nat.le_refl _), v.lenr (by omega), Nat.sub_self, List.getElem?_take_of_lt (by omega)] at this
      rw [← this]; rfl
    rw [odI, List.getD_eq_getElem?_getD, List.getElem?_map, this]; rfl
  · rw [e, List.mem_append, List.mem_singleton] at hc
    rw [Bool.eq_false_iff]
    intro hb
    rcases hc with hc | rfl
    · exact hn (p.af c hc j hb)
    · exact hn (ha c hb)

/-! ### Sums -/
/-- The greatest one of the first c that wait for job k, or 0. -/
def mxU (l : List Int) (T : Nat → Int) (k : Nat) : Nat → Int
  | 0 => 0
  | c + 1 => if (af l c).testBit k = true then max (mxU l T k c) (T c) else mxU l T k c
theorem mxU_nn {l : List Int} {T : Nat → Int} {k : Nat} : ∀ c, 0 ≤ mxU l T k c
  | 0 => Int.le_refl _
  | c + 1 => by
    have := mxU_nn (l := l) (T := T) (k := k) c
    unfold mxU
    split <;> omega
theorem mxU_le {l : List Int} {T : Nat → Int} {k : Nat} {b : Int} (hb : 0 ≤ b) : ∀ c, (∀ i, i < c → T i ≤ b) → mxU l T k c ≤ b
  | 0, _ => hb
  | c + 1, h => by
    have h1 := mxU_le (l := l) (T := T) (k := k) hb c fun i hi => h i (by omega)
    have h2 := h c (by omega)
    unfold mxU
    split <;> omega
theorem mxU_congr {l : List Int} {T T' : Nat → Int} {k : Nat} : ∀ c, (∀ i, i < c → (af l i).testBit k = true → T i = T' i) → mxU l T k c = mxU l T' k c
  | 0, _ => rfl
  | c + 1, h => by
    have h1 := mxU_congr (l := l) (T := T) (T' := T') (k := k) c fun i hi => h i (by omega)
    unfold mxU
    split
    · rename_i hc; rw [h1, h c (by omega) hc]
    · exact h1
/-- One that counted nothing counts now. -/
theorem mxU_put {l : List Int} {T : Nat → Int} {k j : Nat} {v : Int} (h0 : T j = 0) (hv : 0 ≤ v) : ∀ c, mxU l (fun i => if i = j then v else T i) k c = if j < c ∧ (af l j).testBit k = true then max (mxU l T k c) v else mxU l T k c
  | 0 => by simp [mxU]
  | c + 1 => by
    have ih := mxU_put (l := l) (T := T) (k := k) (j := j) (v := v) h0 hv c
    have nn := mxU_nn (l := l) (T := T) (k := k) c
    unfold mxU
    by_cases hc : (af l c).testBit k = true
    · rw [if_pos hc, if_pos hc, ih]
      by_cases e : c = j
      · subst e
        rw [if_neg (by omega), if_pos rfl, if_pos ⟨by omega, hc⟩, h0]
        omega
      · rw [if_neg e]
        by_cases hj : j < c ∧ (af l j).testBit k = true
        · rw [if_pos hj, if_pos ⟨by omega, hj.2⟩]; omega
        · rw [if_neg hj, if_neg (fun h => hj ⟨by omega, h.2⟩)]
    · rw [if_neg hc, if_neg hc, ih]
      by_cases hj : j < c ∧ (af l j).testBit k = true
      · rw [if_pos hj, if_pos ⟨by omega, hj.2⟩]
      · rw [if_neg hj, if_neg (fun h => by
          rcases (show j < c ∨ j = c by omega) with h' | rfl
          · exact hj ⟨h', h.2⟩
          · exact hc h.2)]
/-- The greatest sum of days of a chain that begins with job k; so many steps are looked ahead. -/
def tlF (l : List Int) (n : Nat) : Nat → Nat → Int
  | 0, _ => 0
  | f + 1, k => dy l k + mxU l (tlF l n f) k n
def tl (l : List Int) (n k : Nat) : Int := tlF l n n k
theorem tlF_b {n : Nat} {l : List Int} (v : VJ n l) : ∀ f k, k < n → 0 ≤ tlF l n f k ∧ tlF l n f k ≤ 30 * f ∧ (0 < f → 1 ≤ tlF l n f k)
  | 0, _, _ => by simp [tlF]
  | f + 1, k, hk => by
    have h1 := mxU_nn (l := l) (T := tlF l n f) (k := k) n
    have h2 := mxU_le (l := l) (T := tlF l n f) (k := k) (b := 30 * f) (by omega) n fun i hi => (tlF_b v f i hi).2.1
    have h3 := v.dy k hk
    unfold tlF
    omega
theorem tl_b {n : Nat} {l : List Int} (v : VJ n l) {k : Nat} (hk : k < n) : 1 ≤ tl l n k ∧ tl l n k ≤ 360 := by
  have := tlF_b v n k hk
  have := v.hi
  unfold tl
  omega
theorem tlF_st {n : Nat} {l : List Int} (v : VJ n l) : ∀ d, d ≤ n → ∀ k, k < n → k ∉ (od l n (n - d)).1 → ∀ f, d ≤ f → tlF l n f k = tlF l n d k
  | 0, _, k, hk, hn, _, _ => by rw [Nat.sub_zero] at hn; exact absurd (v.od k hk) hn
  | d + 1, hd, k, hk, hn, f, hf => by
    obtain ⟨f, rfl⟩ : ∃ f', f = f' + 1 := ⟨f - 1, by omega⟩
    show dy l k + mxU l (tlF l n f) k n = dy l k + mxU l (tlF l n d) k n
    have hr : n - (d + 1) < n := by omega
    have er : n - (d + 1) + 1 = n - d := by omega
    obtain ⟨j, h1, h2, h3, h4, h5, h6⟩ := v.at hr
    rw [er] at h3 h6
    have hc : ∀ c, c < n → (af l c).testBit k = true → c ∉ (od l n (n - d)).1 := by
      intro c hcn hb hm
      rw [h3, List.mem_append, List.mem_singleton] at hm
      rcases hm with hm | rfl
      · exact hn ((od_p l n _).af c hm k hb)
      · exact hn (h5 k hb).2
    rw [mxU_congr n fun c hcn hb => (tlF_st v d (by omega) c hcn (hc c hcn hb) f (by omega))]
theorem tl_fix {n : Nat} {l : List Int} (v : VJ n l) {k : Nat} (hk : k < n) : tl l n k = dy l k + mxU l (tl l n) k n := by
  obtain ⟨n', rfl⟩ : ∃ n', n = n' + 1 := ⟨n - 1, by omega⟩
  show dy l k + mxU l (tlF l (n' + 1) n') k (n' + 1) = _
  have hn := tlF_st v (n' + 1) (Nat.le_refl _) k hk (by rw [Nat.sub_self]; simp [od])
  have h := hn (n' + 2) (by omega)
  show _ = dy l k + mxU l (tlF l (n' + 1) (n' + 1)) k (n' + 1)
  exact h.symm

end Go.Proofs.YtagdkibmlfjggaaDoor
