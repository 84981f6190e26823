/- Orders that are asked for, and the slots that jobs get in them: mathematics, no function is named. No conditions. -/
import Derived.Test.YtagdkibmlfjggaaDoorEa
set_option linter.unusedSimpArgs false
set_option linter.unusedVariables false
namespace Go.Proofs.YtagdkibmlfjggaaDoor
open Go.Sx Go.RowKit

/-- Are the first i of an order such as can be taken one after the other? -/
def oiB (l : List Int) (n : Nat) (o : List Int) : Nat → Bool
  | 0 => true
  | i + 1 => oiB l n o i && (decide (0 ≤ o.getD i 0) && decide (o.getD i 0 < (n : Int)) && nxB l (ioT o i) (o.getD i 0).toNat)
def oL (o : List Int) (i : Nat) : List Nat := (List.range i).map fun j => (o.getD j 0).toNat
theorem oL_s {o : List Int} {i : Nat} : oL o (i + 1) = oL o i ++ [(o.getD i 0).toNat] := by simp [oL, List.range_succ]
theorem oL_len {o : List Int} {i : Nat} : (oL o i).length = i := by simp [oL]
theorem oiB_s {l : List Int} {n : Nat} {o : List Int} {i : Nat} : oiB l n o (i + 1) = true ↔ oiB l n o i = true ∧ (0 ≤ o.getD i 0 ∧ o.getD i 0 < (n : Int)) ∧ nxB l (ioT o i) (o.getD i 0).toNat = true := by
  simp only [oiB, Bool.and_eq_true, decide_eq_true_eq]
theorem oiB_lt {l : List Int} {n : Nat} {o : List Int} : ∀ {i : Nat}, oiB l n o i = true → ∀ j, j < i → 0 ≤ o.getD j 0 ∧ o.getD j 0 < (n : Int)
  | 0, _, j, hj => by omega
  | i + 1, h, j, hj => by
    obtain ⟨h1, h2, _⟩ := oiB_s.1 h
    rcases (show j < i ∨ j = i by omega) with h' | rfl
    · exact oiB_lt h1 j h'
    · exact h2
theorem oiB_le {l : List Int} {n : Nat} {o : List Int} {i : Nat} : ∀ {k : Nat}, oiB l n o k = true → i ≤ k → oiB l n o i = true
  | 0, h, hi => by obtain rfl : i = 0 := by omega
                   exact h
  | k + 1, h, hi => by
    rcases (show i ≤ k ∨ i = k + 1 by omega) with h' | rfl
    · exact oiB_le (oiB_s.1 h).1 h'
    · exact h
theorem ioT_mem {o : List Int} {k : Nat} : ∀ {i : Nat}, (ioT o i).testBit k = true ↔ k ∈ oL o i
  | 0 => by simp [ioT, oL]
  | i + 1 => by
    rw [ioT, or_bit, Bool.or_eq_true, decide_eq_true_eq, ioT_mem, oL_s, List.mem_append, List.mem_singleton]
    exact ⟨fun h => h.elim .inl fun h => .inr h.symm, fun h => h.elim .inl fun h => .inr h.symm⟩
theorem oL_nd {l : List Int} {n : Nat} {o : List Int} : ∀ {i : Nat}, oiB l n o i = true → (oL o i).Nodup
  | 0, _ => by simp [oL]
  | i + 1, h => by
    obtain ⟨h1, _, h3⟩ := oiB_s.1 h
    have h4 := (nxB_t h3).1
    rw [oL_s, List.nodup_append]
    refine ⟨oL_nd h1, by simp, fun a ha b hb e => ?_⟩
    rw [List.mem_singleton] at hb
    subst hb; subst e
    rw [ioT_mem.2 ha] at h4; cases h4
theorem oL_lt {l : List Int} {n : Nat} {o : List Int} {i : Nat} (h : oiB l n o i = true) : ∀ k ∈ oL o i, k < n := fun k hk => by
  simp only [oL, List.mem_map, List.mem_range] at hk
  obtain ⟨j, hj, rfl⟩ := hk
  have := oiB_lt h j hj
  omega
theorem oiB_no {l : List Int} {n : Nat} {o : List Int} {i : Nat} (h : oiB l n o i = true) : i ≤ n := by
  have := nodup_len (M := List.range n) (oL_nd h) fun x hx => List.mem_range.2 (oL_lt h x hx)
  rw [oL_len, List.length_range] at this; exact this
/-- An order has all jobs if it is as long as the list of jobs. -/
theorem io_all {l : List Int} {n : Nat} {o : List Int} {no : Nat} (h : oiB l n o no = true) : ioT o no = 2 ^ n - 1 ↔ no = n := by
  constructor
  · intro e
    have h1 := oiB_no h
    have h2 := all_len (L := oL o no) (n := n) fun k hk => by rw [← ioT_mem, e, Nat.testBit_two_pow_sub_one, decide_eq_true hk]
    rw [oL_len] at h2; omega
  · rintro rfl
    apply Nat.eq_of_testBit_eq
    intro k
    rw [Nat.testBit_two_pow_sub_one, Bool.eq_iff_iff, ioT_mem, decide_eq_true_eq]
    exact ⟨oL_lt h k, len_all (oL_nd h) (oL_lt h) (by rw [oL_len]; exact Nat.le_refl _) k⟩
/-- Is it an order? -/
def ioB (l : List Int) (n : Nat) (o : List Int) (no : Nat) : Bool := decide (no = n) && oiB l n o no
theorem ioB_no {l : List Int} {n : Nat} {o : List Int} {no i : Nat} (hi : i < no) (h : ¬ ((0 ≤ o.getD i 0 ∧ o.getD i 0 < (n : Int)) ∧ nxB l (ioT o i) (o.getD i 0).toNat = true)) : ioB l n o no = false := by
  rw [Bool.eq_false_iff]
  intro hc
  simp only [ioB, Bool.and_eq_true, decide_eq_true_eq] at hc
  have := (oiB_s.1 (oiB_le hc.2 (show i + 1 ≤ no by omega))).2
  exact h this
theorem ioB_end {l : List Int} {n : Nat} {o : List Int} {no : Nat} (h : oiB l n o no = true) : decide (ioT o no = 2 ^ n - 1) = ioB l n o no := by
  rw [ioB, h, Bool.and_true, Bool.eq_iff_iff, decide_eq_true_eq, decide_eq_true_eq]
  exact io_all h

theorem Sm.oi {n : Nat} {l l' : List Int} (s : Sm n l l') {o : List Int} : ∀ i, oiB l n o i = oiB l' n o i
  | 0 => rfl
  | i + 1 => by
    rw [oiB, oiB, Sm.oi s i]
    by_cases h : 0 ≤ o.getD i 0 ∧ o.getD i 0 < (n : Int)
    · rw [nxB, nxB, s.af (k := (o.getD i 0).toNat) (by omega)]
    · have : (decide (0 ≤ o.getD i 0) && decide (o.getD i 0 < (n : Int))) = false := by
        rw [Bool.eq_false_iff]; intro hc; simp only [Bool.and_eq_true, decide_eq_true_eq] at hc; exact h hc
      rw [this, Bool.false_and, Bool.false_and]
theorem Sm.io {n : Nat} {l l' : List Int} (s : Sm n l l') {o : List Int} {no : Nat} : ioB l n o no = ioB l' n o no := by rw [ioB, ioB, s.oi]

/-! ### The best hand -/
/-- The first hand of the first c that can begin earliest. -/
def ptA (s : Nat → Int) : Nat → Nat
  | 0 => 0
  | c + 1 => if s c < s (ptA s c) then c else ptA s c
theorem ptA_lt {s : Nat → Int} : ∀ c, 0 < c → ptA s c < c
  | 0, h => by omega
  | c + 1, _ => by
    unfold ptA
    split
    · omega
    · rcases Nat.eq_zero_or_pos c with rfl | h
      · simp [ptA]
      · have := ptA_lt (s := s) c h; omega
theorem bhW_pt {l p : List Int} {g j : Nat} {s : Nat → Int} : ∀ c, 0 < c → (∀ x, x < c → stW l p g j x = s x) → s 0 < 32767 → bhW l p g j c = ((ptA s c : Int), s (ptA s c))
  | 0, h, _, _ => by omega
  | c + 1, _, he, h0 => by
    rcases Nat.eq_zero_or_pos c with rfl | h
    · have e := he 0 (by omega)
      have e0 : bhW l p g j 0 = (0, 32767) := rfl
      have e1 : ptA s 0 = 0 := rfl
      rw [bhW, e0, ptA, e1, e, if_pos h0, if_neg (by omega)]
    · have ih := bhW_pt (l := l) (p := p) (g := g) (j := j) c h (fun x hx => he x (by omega)) h0
      have e := he c (by omega)
      rw [bhW, ih, ptA, e]
      simp only
      by_cases hc : s c < s (ptA s c)
      · rw [if_pos hc, if_pos hc]
      · rw [if_neg hc, if_neg hc]

/-- What is true of a roster when the first i of an order have been given. -/
structure RoP (l o : List Int) (n h i : Nat) : Prop where
  hd : ∀ k, (ioT o i).testBit k = true → 0 ≤ hd (roP l o h i) k ∧ Go.Proofs.YtagdkibmlfjggaaDoor.hd (roP l o h i) k < (h : Int)
  le : ∀ k, (ioT o i).testBit k = true → 0 ≤ sg (roP l o h i) k ∧ dnP l (roP l o h i) k ≤ 30 * i
theorem ro_ready {l o : List Int} {n h i j : Nat} (e : RoP l o n h i) (hj : nxB l (ioT o i) j = true) : adS l (roP l o h i) (af l j) 12 ≤ 30 * i :=
  adS_le (by omega) 12 fun k _ hk => (e.le k (sub_bit (nxB_t hj).2 hk)).2
theorem gv_bit {g k : Nat} {p : List Int} {x : Int} (h : (bsF (gvB g p x) 12).testBit k = true) : k < 12 ∧ g.testBit k = true ∧ hd p k = x := by
  rw [bsF_bit, gvB] at h
  simpa only [Bool.and_eq_true, decide_eq_true_eq] using h
theorem ro_free {l o : List Int} {n h i x : Nat} (e : RoP l o n h i) : frW l (roP l o h i) (ioT o i) x ≤ 30 * i :=
  adS_le (by omega) 12 fun k _ hk => (e.le k (gv_bit hk).2.1).2
/-- The hand and the day of the next one of the order. -/
theorem ro_best {l o : List Int} {n h i j : Nat} (e : RoP l o n h i) (hj : nxB l (ioT o i) j = true) (hi : i ≤ 12) (hh : 0 < h) : bhW l (roP l o h i) (ioT o i) j h = ((ptA (stW l (roP l o h i) (ioT o i) j) h : Int), stW l (roP l o h i) (ioT o i) j (ptA (stW l (roP l o h i) (ioT o i) j) h)) := by
  refine bhW_pt h hh (fun _ _ => rfl) ?_
  have h1 := ro_ready e hj
  have h2 := ro_free (x := 0) e
  unfold stW; omega
theorem ro_st {l o : List Int} {n h i j x : Nat} (e : RoP l o n h i) (hj : nxB l (ioT o i) j = true) : stW l (roP l o h i) (ioT o i) j x ≤ 30 * i := by
  have h1 := ro_ready e hj
  have h2 := ro_free (x := x) e
  unfold stW; omega
theorem ro_p {l o : List Int} {n h : Nat} (v : VJ n l) (hh : 0 < h) : ∀ i, i ≤ n → oiB l n o i = true → RoP l o n h i
  | 0, _, _ => ⟨by simp [ioT], by simp [ioT]⟩
  | i + 1, hi, ho => by
    obtain ⟨h1, h2, h3⟩ := oiB_s.1 ho
    have e := ro_p v hh i (by omega) h1
    have hv := v.hi
    obtain ⟨j, hj⟩ := Int.eq_ofNat_of_zero_le h2.1
    rw [hj, Int.toNat_natCast] at h3
    have hjn : j < n := by omega
    have hl := roP_len (l := l) (o := o) (h := h) i
    have er : roP l o h (i + 1) = wtP l (roP l o h i) (ioT o i) j h := by rw [roP, hj, Int.toNat_natCast]
    have eb := ro_best e h3 (by omega) hh
    have hs := ro_st (x := ptA (stW l (roP l o h i) (ioT o i) j) h) e h3
    have hs0 := stW_nn (l := l) (p := roP l o h i) (g := ioT o i) (j := j) (x := ptA (stW l (roP l o h i) (ioT o i) j) h)
    have hp := ptA_lt (s := stW l (roP l o h i) (ioT o i) j) h hh
    have hd0 := v.dy j hjn
    refine ⟨fun k hk => ?_, fun k hk => ?_⟩
    · rw [er, wtP_hd hl (by omega)]
      by_cases hkj : k = j
      · rw [if_pos hkj, eb]; simp only; omega
      · rw [if_neg hkj]
        rw [ioT, hj, Int.toNat_natCast, or_bit, Bool.or_eq_true, decide_eq_true_eq] at hk
        exact e.hd k (hk.resolve_right fun h => hkj h.symm)
    · rw [dnP, er, wtP_sg hl (by omega)]
      by_cases hkj : k = j
      · rw [if_pos hkj, eb, hkj]; simp only; omega
      · rw [if_neg hkj]
        rw [ioT, hj, Int.toNat_natCast, or_bit, Bool.or_eq_true, decide_eq_true_eq] at hk
        have := e.le k (hk.resolve_right fun h => hkj h.symm)
        rw [dnP] at this
        omega
/-- The days on which hands are free, after a step. -/
theorem ro_free_next {l o : List Int} {n h i j : Nat} (v : VJ n l) (e : RoP l o n h i) (hj : o.getD i 0 = (j : Int)) (hjn : j < n) (h3 : nxB l (ioT o i) j = true) (hi : i ≤ 12) (hh : 0 < h) (x : Nat) :
    frW l (roP l o h (i + 1)) (ioT o (i + 1)) x = if x = ptA (stW l (roP l o h i) (ioT o i) j) h then stW l (roP l o h i) (ioT o i) j x + dy l j else frW l (roP l o h i) (ioT o i) x := by
  have hv := v.hi
  have hl := roP_len (l := l) (o := o) (h := h) i
  have er : roP l o h (i + 1) = wtP l (roP l o h i) (ioT o i) j h := by rw [roP, hj, Int.toNat_natCast]
  have et : ioT o (i + 1) = ioT o i ||| 2 ^ j := by rw [ioT, hj, Int.toNat_natCast]
  have eb := ro_best e h3 hi hh
  have hT := (nxB_t h3).1
  have hs0 := stW_nn (l := l) (p := roP l o h i) (g := ioT o i) (j := j) (x := x)
  have hd0 := v.dy j hjn
  have hg : ∀ k, hd (roP l o h (i + 1)) k = if k = j then ((ptA (stW l (roP l o h i) (ioT o i) j) h : Nat) : Int) else hd (roP l o h i) k := fun k => by rw [er, wtP_hd hl (by omega), eb]
  have hsg : ∀ k, sg (roP l o h (i + 1)) k = if k = j then stW l (roP l o h i) (ioT o i) j (ptA (stW l (roP l o h i) (ioT o i) j) h) else sg (roP l o h i) k := fun k => by rw [er, wtP_sg hl (by omega), eb]
  have hold : ∀ k, (ioT o i).testBit k = true → k ≠ j := fun k hk e => by rw [e, hT] at hk; cases hk
  have hb : ∀ k, (ioT o (i + 1)).testBit k = true ↔ (ioT o i).testBit k = true ∨ j = k := fun k => by rw [et, or_bit, Bool.or_eq_true, decide_eq_true_eq]
  have hset : ∀ k, (bsF (gvB (ioT o (i + 1)) (roP l o h (i + 1)) x) 12).testBit k = true ↔ k < 12 ∧ (((ioT o i).testBit k = true ∧ hd (roP l o h i) k = x) ∨ (k = j ∧ ptA (stW l (roP l o h i) (ioT o i) j) h = x)) := fun k => by
    rw [bsF_bit, gvB, Bool.and_eq_true, Bool.and_eq_true, decide_eq_true_eq, decide_eq_true_eq, hb, hg]
    by_cases hkj : k = j
    · rw [if_pos hkj]
      constructor
      · rintro ⟨a, _, c⟩
        exact ⟨a, .inr ⟨hkj, by omega⟩⟩
      · rintro ⟨a, b | ⟨_, c⟩⟩
        · exact absurd hkj (hold k b.1)
        · exact ⟨a, .inr hkj.symm, by omega⟩
    · rw [if_neg hkj]
      constructor
      · rintro ⟨a, b, c⟩
        exact ⟨a, .inl ⟨b.resolve_right fun h => hkj h.symm, c⟩⟩
      · rintro ⟨a, b | ⟨b, _⟩⟩
        · exact ⟨a, .inl b.1, b.2⟩
        · exact absurd b hkj
  have hdn : ∀ k, k ≠ j → dnP l (roP l o h (i + 1)) k = dnP l (roP l o h i) k := fun k hk => by rw [dnP, dnP, hsg, if_neg hk]
  have hdj : dnP l (roP l o h (i + 1)) j = stW l (roP l o h i) (ioT o i) j (ptA (stW l (roP l o h i) (ioT o i) j) h) + dy l j := by rw [dnP, hsg, if_pos rfl]
  by_cases hx : x = ptA (stW l (roP l o h i) (ioT o i) j) h
  · rw [if_pos hx]
    refine Int.le_antisymm ?_ ?_
    · refine adS_le (by omega) 12 fun k _ hk => ?_
      rcases ((hset k).1 hk).2 with ⟨b, c⟩ | ⟨rfl, c⟩
      · rw [hdn k (hold k b)]
        have h12 := ((hset k).1 hk).1
        have : dnP l (roP l o h i) k ≤ frW l (roP l o h i) (ioT o i) x := by
          rw [← Int.not_lt]
          intro hc
          have := (adS_lt (l := l) (p := roP l o h i) (s := bsF (gvB (ioT o i) (roP l o h i) x) 12) (x := frW l (roP l o h i) (ioT o i) x) (adS_nn 12) 12).2 ⟨k, h12, by rw [bsF_bit, gvB, decide_eq_true h12, b, c]; simp, hc⟩
          exact absurd this (Int.lt_irrefl _)
        have hst : frW l (roP l o h i) (ioT o i) x ≤ stW l (roP l o h i) (ioT o i) j x := by unfold stW; omega
        omega
      · rw [hdj, c]; exact Int.le_refl _
    · rw [← Int.not_lt]
      intro hc
      have hnn : 0 ≤ frW l (roP l o h (i + 1)) (ioT o (i + 1)) x := adS_nn 12
      have := (adS_lt (l := l) (p := roP l o h (i + 1)) (s := bsF (gvB (ioT o (i + 1)) (roP l o h (i + 1)) x) 12) (x := frW l (roP l o h (i + 1)) (ioT o (i + 1)) x) hnn 12).2 ⟨j, by omega, (hset j).2 ⟨by omega, .inr ⟨rfl, hx.symm⟩⟩, by rw [hdj, ← hx]; exact hc⟩
      exact absurd this (Int.lt_irrefl _)
  · rw [if_neg hx]
    have key : ∀ c, c ≤ 12 → adS l (roP l o h (i + 1)) (bsF (gvB (ioT o (i + 1)) (roP l o h (i + 1)) x) 12) c = adS l (roP l o h i) (bsF (gvB (ioT o i) (roP l o h i) x) 12) c := by
      intro c
      induction c with
      | zero => intro _; rfl
      | succ c ih =>
        intro hc
        rw [adS, adS, ih (by omega)]
        by_cases hk : (bsF (gvB (ioT o i) (roP l o h i) x) 12).testBit c = true
        · have g := gv_bit hk
          rw [if_pos hk, if_pos ((hset c).2 ⟨g.1, .inl ⟨g.2.1, g.2.2⟩⟩), hdn c (hold c g.2.1)]
        · rw [if_neg hk, if_neg fun hk' => ?_]
          rcases ((hset c).1 hk').2 with ⟨b, d⟩ | ⟨_, d⟩
          · exact hk (by rw [bsF_bit, gvB, decide_eq_true (by omega : c < 12), b, d]; simp)
          · exact hx d.symm
    exact key 12 (Nat.le_refl _)

end Go.Proofs.YtagdkibmlfjggaaDoor
