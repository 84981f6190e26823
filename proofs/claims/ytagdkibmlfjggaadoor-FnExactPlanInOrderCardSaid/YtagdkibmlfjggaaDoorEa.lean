/- With as many hands as jobs each job begins on the day on which it is ready. Mathematics, no function is named. No conditions. -/
import Derived.Test.YtagdkibmlfjggaaDoorPl7
import Derived.Test.YtagdkibmlfjggaaDoorJt
set_option linter.unusedSimpArgs false
set_option linter.unusedVariables false
namespace Go.Proofs.YtagdkibmlfjggaaDoor
open Go.Sx Go.RowKit

/-- The start of the best hand is never ahead of the ready day, and is that day if some hand is free. -/
theorem bh_ge {l p : List Int} {g j : Nat} (hr : adS l p (af l j) 12 ≤ 32767) : ∀ c, adS l p (af l j) 12 ≤ (bhW l p g j c).2
  | 0 => hr
  | c + 1 => by
    have ih := bh_ge (l := l) (p := p) (g := g) (j := j) hr c
    unfold bhW
    split
    · simp only [stW]; omega
    · exact ih
theorem bh_le {l p : List Int} {g j x : Nat} : ∀ c, x < c → (bhW l p g j c).2 ≤ stW l p g j x
  | 0, h => by omega
  | c + 1, h => by
    unfold bhW
    split
    · rename_i hc
      rcases (show x < c ∨ x = c by omega) with h' | rfl
      · have := bh_le (l := l) (p := p) (g := g) (j := j) c h'
        simp only; omega
      · exact Int.le_refl _
    · rename_i hc
      rcases (show x < c ∨ x = c by omega) with h' | rfl
      · exact bh_le c h'
      · omega
theorem bh_free {l p : List Int} {g j x h : Nat} (hx : x < h) (hr : adS l p (af l j) 12 ≤ 32767) (hf : ∀ k, g.testBit k = true → hd p k ≠ (x : Int)) : (bhW l p g j h).2 = adS l p (af l j) 12 := by
  have e : frW l p g x = 0 := by
    refine Int.le_antisymm (adS_le (Int.le_refl _) 12 fun k _ hk => ?_) (adS_nn 12)
    rw [bsF_bit, gvB] at hk
    simp only [Bool.and_eq_true, decide_eq_true_eq] at hk
    exact absurd hk.2.2 (hf k hk.2.1)
  have h1 := bh_ge (l := l) (p := p) (g := g) (j := j) hr h
  have h2 := bh_le (l := l) (p := p) (g := g) (j := j) h hx
  have h3 := adS_nn (l := l) (p := p) (s := af l j) 12
  rw [stW, e] at h2
  omega

theorem wtP_get {l p : List Int} {g j h : Nat} (hl : p.length = 24) (hj : j < 12) (i : Nat) : (wtP l p g j h).getD i 0 = if i = j * 2 + 1 then (bhW l p g j h).2 else if i = j * 2 then (bhW l p g j h).1 else p.getD i 0 := by
  rw [wtP, List.getD_eq_getElem?_getD, List.getElem?_set]
  by_cases e1 : j * 2 + 1 = i
  · rw [if_pos e1, if_pos e1.symm, if_pos (by rw [List.length_set]; omega)]; rfl
  · rw [if_neg e1, if_neg (fun e => e1 e.symm), List.getElem?_set]
    by_cases e2 : j * 2 = i
    · rw [if_pos e2, if_pos e2.symm, if_pos (by omega)]; rfl
    · rw [if_neg e2, if_neg (fun e => e2 e.symm), List.getD_eq_getElem?_getD]
theorem wtP_sg {l p : List Int} {g j h k : Nat} (hl : p.length = 24) (hj : j < 12) : sg (wtP l p g j h) k = if k = j then (bhW l p g j h).2 else sg p k := by
  unfold sg
  rw [wtP_get hl hj]
  by_cases e : k = j
  · rw [if_pos (by omega), if_pos e]
  · rw [if_neg (by omega), if_neg (by omega), if_neg e]
theorem wtP_hd {l p : List Int} {g j h k : Nat} (hl : p.length = 24) (hj : j < 12) : hd (wtP l p g j h) k = if k = j then (bhW l p g j h).1 else hd p k := by
  unfold hd
  rw [wtP_get hl hj, if_neg (by omega)]
  by_cases e : k = j
  · rw [if_pos (by omega), if_pos e]
  · rw [if_neg (by omega), if_neg e]
theorem bhW_hand {l p : List Int} {g j : Nat} : ∀ c, 0 < c → 0 ≤ (bhW l p g j c).1 ∧ (bhW l p g j c).1 < (c : Int)
  | 0, h => by omega
  | c + 1, _ => by
    unfold bhW
    split
    · exact ⟨by simp only; omega, by simp only; omega⟩
    · rcases Nat.eq_zero_or_pos c with rfl | h
      · simp [bhW]
      · have := bhW_hand (l := l) (p := p) (g := g) (j := j) c h
        omega
/-- What is true after so many steps. -/
structure EaP (l : List Int) (n i : Nat) : Prop where
  bit : ∀ k, (ioT (odI l n n) i).testBit k = true ↔ k ∈ (od l n i).1
  hd : ∀ k, k ∈ (od l n i).1 → 0 ≤ hd (roP l (odI l n n) n i) k ∧ Go.Proofs.YtagdkibmlfjggaaDoor.hd (roP l (odI l n n) n i) k < (n : Int)
  le : ∀ k, k ∈ (od l n i).1 → 0 ≤ sg (roP l (odI l n n) n i) k ∧ dnP l (roP l (odI l n n) n i) k ≤ 30 * i
theorem ea_ready {n i j : Nat} {l : List Int} (e : EaP l n i) (hi : i ≤ 12) (h : ∀ k, (af l j).testBit k = true → k ∈ (od l n i).1) : adS l (roP l (odI l n n) n i) (af l j) 12 ≤ 30 * i :=
  adS_le (by omega) 12 fun k _ hk => (e.le k (h k hk)).2
theorem ea_start {n i j : Nat} {l : List Int} (v : VJ n l) (e : EaP l n i) (hi : i < n) (h : ∀ k, (af l j).testBit k = true → k ∈ (od l n i).1) : (bhW l (roP l (odI l n n) n i) (ioT (odI l n n) i) j n).2 = adS l (roP l (odI l n n) n i) (af l j) 12 := by
  have hv := v.hi
  have hr := ea_ready e (by omega) h
  have : ∃ x, x < n ∧ ∀ k, k ∈ (od l n i).1 → Go.Proofs.YtagdkibmlfjggaaDoor.hd (roP l (odI l n n) n i) k ≠ (x : Int) := by
    apply Classical.byContradiction
    intro hc
    have hall : ∀ x, x < n → x ∈ (od l n i).1.map fun k => (Go.Proofs.YtagdkibmlfjggaaDoor.hd (roP l (odI l n n) n i) k).toNat := fun x hx => by
      apply Classical.byContradiction
      intro hm
      refine hc ⟨x, hx, fun k hk he => hm ?_⟩
      rw [List.mem_map]
      exact ⟨k, hk, by rw [he, Int.toNat_natCast]⟩
    have := all_len hall
    rw [List.length_map, v.lenr (by omega)] at this
    omega
  obtain ⟨x, hx, hf⟩ := this
  exact bh_free hx (by omega) fun k hk => hf k ((e.bit k).1 hk)
theorem ea_p {n : Nat} {l : List Int} (v : VJ n l) : ∀ i, i ≤ n → EaP l n i
  | 0, _ => ⟨by simp [ioT, od], by simp [od], by simp [od]⟩
  | i + 1, hi => by
    have e := ea_p v i (by omega)
    have hv := v.hi
    obtain ⟨j, j1, j2, j3, j4, j5, j6⟩ := v.at (r := i) (by omega)
    have hst := ea_start (j := j) v e (by omega) fun k hk => (j5 k hk).2
    have hrd := ea_ready (j := j) e (by omega) fun k hk => (j5 k hk).2
    have hnn := adS_nn (l := l) (p := roP l (odI l n n) n i) (s := af l j) 12
    have hdy := v.dy j j1
    have er : roP l (odI l n n) n (i + 1) = wtP l (roP l (odI l n n) n i) (ioT (odI l n n) i) j n := by rw [roP, j2, Int.toNat_natCast]
    have hl := roP_len (l := l) (o := odI l n n) (h := n) i
    refine ⟨fun k => ?_, fun k hk => ?_, fun k hk => ?_⟩
    · rw [ioT, j2, Int.toNat_natCast, or_bit, Bool.or_eq_true, decide_eq_true_eq, e.bit, j3, List.mem_append, List.mem_singleton]
      exact ⟨fun h => h.elim .inl fun h => .inr h.symm, fun h => h.elim .inl fun h => .inr h.symm⟩
    · rw [er, wtP_hd hl (by omega)]
      by_cases hkj : k = j
      · rw [if_pos hkj]; exact bhW_hand n (by omega)
      · rw [if_neg hkj]
        rw [j3, List.mem_append, List.mem_singleton] at hk
        exact e.hd k (hk.resolve_right hkj)
    · have es : ∀ k, sg (roP l (odI l n n) n (i + 1)) k = if k = j then (bhW l (roP l (odI l n n) n i) (ioT (odI l n n) i) j n).2 else sg (roP l (odI l n n) n i) k := fun k => by rw [er, wtP_sg hl (by omega)]
      by_cases hkj : k = j
      · rw [dnP, es, if_pos hkj, hst, hkj]
        omega
      · rw [dnP, es, if_neg hkj]
        rw [j3, List.mem_append, List.mem_singleton] at hk
        have := e.le k (hk.resolve_right hkj)
        rw [dnP] at this
        omega
/-- The day on which the next one of the order begins; the others stay. -/
theorem ea_next {n i j : Nat} {l : List Int} (v : VJ n l) (hi : i < n) (j2 : (odI l n n).getD i 0 = (j : Int)) (j1 : j < n) (h : ∀ k, (af l j).testBit k = true → k ∈ (od l n i).1) (k : Nat) :
    sg (roP l (odI l n n) n (i + 1)) k = if k = j then adS l (roP l (odI l n n) n i) (af l j) 12 else sg (roP l (odI l n n) n i) k := by
  have hv := v.hi
  rw [roP, j2, Int.toNat_natCast, wtP_sg (roP_len i) (by omega), ea_start v (ea_p v i (by omega)) hi h]

/-! ### Lists that say the same -/
theorem ad_up {l p : List Int} {s n : Nat} (h : ∀ k, s.testBit k = true → k < n) : ∀ d, adS l p s (n + d) = adS l p s n
  | 0 => rfl
  | d + 1 => by
    show adS l p s (n + d + 1) = _
    rw [adS, if_neg (fun hb => by have := h _ hb; omega), ad_up h d]
theorem Sm.ad {n : Nat} {l l' p : List Int} (s : Sm n l l') {b : Nat} (hb : ∀ k, b.testBit k = true → k < n) : ∀ c, adS l p b c = adS l' p b c
  | 0 => rfl
  | c + 1 => by
    rw [adS, adS, Sm.ad s hb c]
    by_cases h : b.testBit c = true
    · rw [if_pos h, if_pos h, dnP, dnP, s.dy (hb c h)]
    · rw [if_neg h, if_neg h]
theorem Sm.bh {n : Nat} {l l' p : List Int} (s : Sm n l l') {g j : Nat} (hj : j < n) (ha : ∀ k, (Go.Proofs.YtagdkibmlfjggaaDoor.af l j).testBit k = true → k < n) (hg : ∀ k, g.testBit k = true → k < n) : ∀ c, bhW l p g j c = bhW l' p g j c
  | 0 => rfl
  | c + 1 => by
    have e : stW l p g j c = stW l' p g j c := by
      rw [stW, stW, frW, frW, ← s.af hj, s.ad ha, s.ad fun k hk => by
        rw [bsF_bit, gvB] at hk
        simp only [Bool.and_eq_true, decide_eq_true_eq] at hk
        exact hg k hk.2.1]
    rw [bhW, bhW, Sm.bh s hj ha hg c, e]
theorem Sm.ro {n : Nat} {l l' o o' : List Int} (s : Sm n l l') {h : Nat} (ha : ∀ j, j < n → ∀ k, (Go.Proofs.YtagdkibmlfjggaaDoor.af l j).testBit k = true → k < n) : ∀ i, (∀ j, j < i → 0 ≤ o.getD j 0 ∧ o.getD j 0 < (n : Int)) → (∀ j, j < i → o.getD j 0 = o'.getD j 0) → ioT o i = ioT o' i ∧ roP l o h i = roP l' o' h i
  | 0, _, _ => ⟨rfl, rfl⟩
  | i + 1, hb, he => by
    obtain ⟨e1, e2⟩ := Sm.ro s ha i (fun j hj => hb j (by omega)) (fun j hj => he j (by omega))
    have h0 := hb i (by omega)
    have hj : (o.getD i 0).toNat < n := by omega
    refine ⟨by rw [ioT, ioT, e1, he i (by omega)], ?_⟩
    rw [roP, roP, wtP, wtP, s.bh hj (ha _ hj) fun k hk => ioT_bit i (fun j hj => hb j (by omega)) hk, e1, e2, he i (by omega)]

end Go.Proofs.YtagdkibmlfjggaaDoor
