/- Words of a text: where it is parted at a byte. No function is named. No conditions. -/
import Derived.Test.YtghphlgfgblbeaaDoorStr
import Derived.Lib.Split
set_option linter.unusedSimpArgs false
set_option linter.unusedVariables false
namespace Go.Proofs.YtghphlgfgblbeaaDoor
open Go.Sx Go.RowKit

/-- The words between the bytes c. -/
def wds (c : UInt8) : List UInt8 → List (List UInt8)
  | [] => [[]]
  | b :: l => if b = c then [] :: wds c l else match wds c l with
    | w :: ws => (b :: w) :: ws
    | [] => [[b]]
theorem wds_ne (c : UInt8) : ∀ l, wds c l ≠ []
  | [] => by simp [wds]
  | b :: l => by
    unfold wds
    split
    · simp
    · split <;> simp
theorem wds_hit (c : UInt8) (l : List UInt8) : wds c (c :: l) = [] :: wds c l := by rw [wds, if_pos rfl]
theorem wds_miss {c b : UInt8} (h : b ≠ c) (l : List UInt8) : ∃ w ws, wds c l = w :: ws ∧ wds c (b :: l) = (b :: w) :: ws := by
  obtain ⟨w, ws, e⟩ := List.exists_cons_of_ne_nil (wds_ne c l)
  exact ⟨w, ws, e, by rw [wds, if_neg h, e]⟩
/-- A byte behind: a new word, or one byte more of the last one. -/
theorem wds_snoc_hit (c : UInt8) : ∀ l, wds c (l ++ [c]) = wds c l ++ [[]]
  | [] => by rw [List.nil_append, wds_hit]; rfl
  | b :: l => by
    rw [List.cons_append]
    by_cases h : b = c
    · subst h; rw [wds_hit, wds_hit, wds_snoc_hit b l]; rfl
    · obtain ⟨w, ws, e1, e2⟩ := wds_miss h (l ++ [c])
      obtain ⟨v, vs, f1, f2⟩ := wds_miss h l
      rw [e2, f2]
      rw [wds_snoc_hit c l, f1] at e1
      simp only [List.cons_append, List.cons.injEq] at e1
      rw [← e1.1, ← e1.2]; rfl
theorem wds_snoc_miss {c d : UInt8} (hd : d ≠ c) : ∀ {l : List UInt8} {D : List (List UInt8)} {w : List UInt8}, wds c l = D ++ [w] → wds c (l ++ [d]) = D ++ [w ++ [d]]
  | [], D, w, h => by
    have h : [[]] = D ++ [w] := h
    have hD : D = [] := by
      cases D with
      | nil => rfl
      | cons a t => have := congrArg List.length h; simp at this
    subst hD
    simp only [List.nil_append, List.cons.injEq, and_true] at h
    subst h
    rw [List.nil_append, wds, if_neg hd]; rfl
  | b :: l, D, w, h => by
    rw [List.cons_append]
    by_cases hb : b = c
    · subst hb
      rw [wds_hit] at h ⊢
      cases D with
      | nil =>
        have := congrArg List.length h
        simp at this
        exact absurd this (wds_ne b l)
      | cons a t =>
        simp only [List.cons_append, List.cons.injEq] at h
        obtain ⟨rfl, h⟩ := h
        rw [wds_snoc_miss hd h]; rfl
    · obtain ⟨v, vs, e1, e2⟩ := wds_miss hb l
      obtain ⟨v', vs', f1, f2⟩ := wds_miss hb (l ++ [d])
      rw [e2] at h
      rw [f2]
      cases D with
      | nil =>
        simp only [List.nil_append, List.cons.injEq] at h
        obtain ⟨rfl, rfl⟩ := h
        have := wds_snoc_miss (D := []) hd (by rw [e1]; rfl)
        rw [f1] at this
        simp only [List.nil_append, List.cons.injEq] at this
        rw [this.1, this.2]; rfl
      | cons a t =>
        simp only [List.cons_append, List.cons.injEq] at h
        obtain ⟨rfl, rfl⟩ := h
        have := wds_snoc_miss (D := v :: t) hd (by rw [e1]; rfl)
        rw [f1] at this
        simp only [List.cons_append, List.cons.injEq] at this
        rw [this.1, this.2]; rfl
theorem wds_no {c : UInt8} : ∀ {l : List UInt8}, ∀ w ∈ wds c l, c ∉ w
  | [], w, hw => by
    have : w = [] := by simpa [wds] using hw
    subst this; simp
  | b :: l, w, hw => by
    by_cases h : b = c
    · subst h
      rw [wds_hit] at hw
      rcases List.mem_cons.1 hw with rfl | hw
      · simp
      · exact wds_no w hw
    · obtain ⟨v, vs, e1, e2⟩ := wds_miss h l
      rw [e2] at hw
      rcases List.mem_cons.1 hw with rfl | hw
      · have := wds_no (c := c) (l := l) v (by rw [e1]; exact List.mem_cons_self)
        intro hm
        rcases List.mem_cons.1 hm with rfl | hm
        · exact h rfl
        · exact this hm
      · exact wds_no w (by rw [e1]; exact List.mem_cons_of_mem _ hw)
theorem wds_free {c : UInt8} : ∀ {l : List UInt8}, c ∉ l → wds c l = [l]
  | [], _ => rfl
  | b :: l, h => by
    have hb : b ≠ c := fun e => h (by rw [e]; exact List.mem_cons_self)
    obtain ⟨v, vs, e1, e2⟩ := wds_miss hb l
    rw [wds_free (fun hm => h (List.mem_cons_of_mem _ hm))] at e1
    simp only [List.cons.injEq] at e1
    rw [e2, ← e1.1, ← e1.2]
theorem wds_app {c : UInt8} : ∀ {a l : List UInt8}, c ∉ a → wds c (a ++ c :: l) = a :: wds c l
  | [], l, _ => wds_hit c l
  | b :: a, l, h => by
    have hb : b ≠ c := fun e => h (by rw [e]; exact List.mem_cons_self)
    rw [List.cons_append]
    obtain ⟨v, vs, e1, e2⟩ := wds_miss hb (a ++ c :: l)
    rw [wds_app (fun hm => h (List.mem_cons_of_mem _ hm))] at e1
    simp only [List.cons.injEq] at e1
    rw [e2, ← e1.1, ← e1.2]
/-! ### The library's splitting at one byte -/
theorem index_one {c : UInt8} : ∀ {l : List UInt8}, (Lib.index l [c] = -1 ∧ c ∉ l) ∨ ∃ a r, l = a ++ c :: r ∧ c ∉ a ∧ Lib.index l [c] = a.length
  | [] => .inl ⟨by simp [Lib.index], by simp⟩
  | b :: l => by
    by_cases h : b = c
    · subst h
      refine .inr ⟨[], l, rfl, by simp, ?_⟩
      simp [Lib.index]
    · have hp : ([c] : List UInt8).isPrefixOf (b :: l) = false := by simp [List.isPrefixOf, Ne.symm h]
      rcases index_one (c := c) (l := l) with ⟨e, hn⟩ | ⟨a, r, rfl, hn, e⟩
      · refine .inl ⟨by rw [Lib.index, hp, e]; rfl, ?_⟩
        intro hm
        rcases List.mem_cons.1 hm with rfl | hm
        · exact h rfl
        · exact hn hm
      · refine .inr ⟨b :: a, r, rfl, ?_, ?_⟩
        · intro hm
          rcases List.mem_cons.1 hm with rfl | hm
          · exact h rfl
          · exact hn hm
        · rw [Lib.index, hp, e]
          have : ((a.length : Int) == -1) = false := by rw [beq_eq_false_iff_ne]; omega
          rw [if_neg (by decide), this, if_neg (by decide), List.length_cons]; omega
theorem splitK_le (c : UInt8) : ∀ k l, (Lib.splitK [c] 0 k l).length ≤ k + 1
  | 0, _ => Nat.le_refl _
  | k + 1, l => by
    unfold Lib.splitK
    split
    · simp
    · have := splitK_le c k (l.drop ((Lib.index l [c]).toNat + [c].length))
      rw [List.length_cons]; omega
/-- All words, if there are no more than may be; else one piece holds the byte. -/
theorem splitK_wds (c : UInt8) : ∀ k l, ((wds c l).length ≤ k + 1 ∧ Lib.splitK [c] 0 k l = wds c l) ∨ (k + 1 < (wds c l).length ∧ ∃ w ∈ Lib.splitK [c] 0 k l, c ∈ w)
  | 0, l => by
    by_cases h : c ∈ l
    · refine .inr ⟨?_, l, List.mem_cons_self, h⟩
      rcases index_one (c := c) (l := l) with ⟨_, hn⟩ | ⟨a, r, rfl, hn, _⟩
      · exact absurd h hn
      · rw [wds_app hn, List.length_cons]
        have := List.length_pos_iff.2 (wds_ne c r)
        omega
    · refine .inl ?_
      rw [wds_free h]
      exact ⟨Nat.le_refl _, rfl⟩
  | k + 1, l => by
    rcases index_one (c := c) (l := l) with ⟨e, hn⟩ | ⟨a, r, rfl, hn, e⟩
    · refine .inl ?_
      rw [wds_free hn, Lib.splitK, e]
      exact ⟨by simp, rfl⟩
    · have es : Lib.splitK [c] 0 (k + 1) (a ++ c :: r) = a :: Lib.splitK [c] 0 k r := by
        rw [Lib.splitK, e]
        have : ((a.length : Int) == -1) = false := by rw [beq_eq_false_iff_ne]; omega
        rw [this, if_neg (by decide), Int.toNat_natCast, Nat.add_zero, List.take_left, List.length_singleton]
        have : (a ++ c :: r).drop (a.length + 1) = r := by
          rw [show a ++ c :: r = (a ++ [c]) ++ r by simp]
          have : a.length + 1 = (a ++ [c]).length := by simp
          rw [this, List.drop_left]
        rw [this]
      rw [es, wds_app hn]
      rcases splitK_wds c k r with ⟨h1, h2⟩ | ⟨h1, w, hw, hc⟩
      · exact .inl ⟨by rw [List.length_cons]; omega, by rw [h2]⟩
      · exact .inr ⟨by rw [List.length_cons]; omega, w, List.mem_cons_of_mem _ hw, hc⟩

/-! ### Words as numbers of a run -/
def encW (V : List (List UInt8)) : List Int := V.map fun w => encS (bsl w)
theorem encW_len (V : List (List UInt8)) : (encW V).length = V.length := by simp [encW]
theorem encW_get {V : List (List UInt8)} {i : Nat} (h : i < V.length) : decS ((encW V).getD i 0) = bsl (V.getD i []) := by
  rw [List.getD_eq_getElem?_getD, encW, List.getElem?_map, List.getElem?_eq_getElem h, List.getD_eq_getElem?_getD, List.getElem?_eq_getElem h]
  simp [decS_encS]
theorem wds_len_le (c : UInt8) : ∀ l, (wds c l).length ≤ l.length + 1
  | [] => Nat.le_refl _
  | b :: l => by
    have ih := wds_len_le c l
    by_cases h : b = c
    · subst h; rw [wds_hit, List.length_cons, List.length_cons]; omega
    · obtain ⟨v, vs, e1, e2⟩ := wds_miss h l
      rw [e2, List.length_cons, List.length_cons]
      rw [e1, List.length_cons] at ih
      omega

theorem wds_sum (c : UInt8) : ∀ l, ((wds c l).map List.length).sum + (wds c l).length = l.length + 1
  | [] => rfl
  | b :: l => by
    have ih := wds_sum c l
    by_cases h : b = c
    · subst h
      rw [wds_hit, List.map_cons, List.sum_cons, List.length_cons, List.length_nil, List.length_cons]; omega
    · obtain ⟨v, vs, e1, e2⟩ := wds_miss h l
      rw [e1, List.map_cons, List.sum_cons, List.length_cons] at ih
      rw [e2, List.map_cons, List.sum_cons, List.length_cons, List.length_cons, List.length_cons]; omega
theorem sum_ge : ∀ {V : List (List UInt8)}, (∀ w ∈ V, 1 ≤ w.length) → V.length ≤ (V.map List.length).sum
  | [], _ => Nat.le_refl _
  | w :: V, h => by
    have h1 := h w List.mem_cons_self
    have h2 := sum_ge (V := V) fun x hx => h x (List.mem_cons_of_mem _ hx)
    rw [List.length_cons, List.map_cons, List.sum_cons]; omega
/-- If no word is empty there are few of them. -/
theorem wds_few {c : UInt8} {l : List UInt8} (h : ∀ w ∈ wds c l, 1 ≤ w.length) : 2 * (wds c l).length ≤ l.length + 1 := by
  have := wds_sum c l
  have := sum_ge h
  omega

end Go.Proofs.YtghphlgfgblbeaaDoor
