/- The field of a cell: plain mathematics of the walk that both sides go. No conditions. -/
import Derived.Test.YtepblgefgdllfaaRp0
set_option linter.unusedSimpArgs false
set_option linter.unusedVariables false
namespace Go.Proofs.Ytepblgefgdllfaa
open Go.Sx Go.RowKit

/-- What has been found, and the list in which it has been found. -/
abbrev FS := List Int × List Int
def fOn (F : List Int) (i : Nat) : Bool := F.getD i 0 != 0
theorem fOn_t {F : List Int} {i : Nat} : fOn F i = true ↔ ¬ F.getD i 0 = 0 := by simp [fOn]
theorem fOn_f {F : List Int} {i : Nat} : fOn F i = false ↔ F.getD i 0 = 0 := by simp [fOn]

theorem getD_set1 {F : List Int} {c i : Nat} (hc : c < F.length) : (F.set c 1).getD i 0 = if c = i then 1 else F.getD i 0 := by
  rw [List.getD_eq_getElem?_getD, List.getElem?_set, List.getD_eq_getElem?_getD]
  split
  · simp [hc]
  · rfl

theorem selF_add {p q : Nat → Bool} {c : Nat} (h1 : ∀ i, i ≠ c → q i = p i) (h2 : p c = false) (h3 : q c = true) : ∀ N, (selF q N).Perm (if c < N then selF p N ++ [(c : Int)] else selF p N)
  | 0 => by simp [selF]
  | N + 1 => by
    have ih := selF_add h1 h2 h3 N
    by_cases e : N = c
    · subst e
      rw [if_neg (Nat.lt_irrefl _)] at ih
      rw [if_pos (Nat.lt_succ_self _), selF_yes h3, selF_no h2]
      exact ih.append_right _
    · by_cases hlt : c < N
      · rw [if_pos hlt] at ih
        rw [if_pos (by omega)]
        cases hp : p N with
        | true =>
          rw [selF_yes ((h1 N e).trans hp), selF_yes hp]
          refine (ih.append_right _).trans ?_
          rw [List.append_assoc, List.append_assoc]
          exact List.Perm.append_left _ List.perm_append_comm
        | false =>
          rw [selF_no ((h1 N e).trans hp), selF_no hp]
          exact ih
      · rw [if_neg hlt] at ih
        rw [if_neg (by omega)]
        cases hp : p N with
        | true => rw [selF_yes ((h1 N e).trans hp), selF_yes hp]; exact ih.append_right _
        | false => rw [selF_no ((h1 N e).trans hp), selF_no hp]; exact ih

theorem selF_lt (p : Nat → Bool) : ∀ N, (selF p N).Pairwise (fun a b => decide (a ≤ b) = true) ∧ ∀ a ∈ selF p N, a < (N : Int)
  | 0 => ⟨List.Pairwise.nil, by simp [selF]⟩
  | N + 1 => by
    obtain ⟨h1, h2⟩ := selF_lt p N
    cases hp : p N with
    | true =>
      rw [selF_yes hp]
      refine ⟨List.pairwise_append.2 ⟨h1, List.pairwise_singleton _ _, fun a ha b hb => ?_⟩, fun a ha => ?_⟩
      · have := h2 a ha
        rw [List.mem_singleton] at hb
        subst hb
        rw [decide_eq_true_eq]; omega
      · rcases List.mem_append.1 ha with h | h
        · have := h2 a h; omega
        · rw [List.mem_singleton] at h; omega
    | false =>
      rw [selF_no hp]
      exact ⟨h1, fun a ha => by have := h2 a ha; omega⟩

theorem sort_selF {q : List Int} {p : Nat → Bool} {N : Nat} (h : q.Perm (selF p N)) : (q.mergeSort fun x y => decide (x ≤ y)) = selF p N := by
  refine List.Perm.eq_of_pairwise (le := fun a b : Int => decide (a ≤ b) = true) (fun a b _ _ h1 h2 => ?_) (List.pairwise_mergeSort (fun a b c h1 h2 => ?_) (fun a b => ?_) q) (selF_lt p N).1 ((List.mergeSort_perm q _).trans h)
  · simp only [decide_eq_true_eq] at h1 h2; omega
  · simp only [decide_eq_true_eq] at h1 h2 ⊢; omega
  · simp only [Bool.or_eq_true, decide_eq_true_eq]; omega

/-- A cell is looked at. -/
def ad1 (l : List Int) (col : Int) (s : FS) (c : Int) : FS := if s.1.getD c.toNat 0 = 0 ∧ l.getD c.toNat 0 = col then (s.1.set c.toNat 1, s.2 ++ [c]) else s
theorem ad1_y {l : List Int} {col : Int} {s : FS} {c : Int} (h1 : s.1.getD c.toNat 0 = 0) (h2 : l.getD c.toNat 0 = col) : ad1 l col s c = (s.1.set c.toNat 1, s.2 ++ [c]) := if_pos ⟨h1, h2⟩
theorem ad1_n {l : List Int} {col : Int} {s : FS} {c : Int} (h : ¬ (s.1.getD c.toNat 0 = 0 ∧ l.getD c.toNat 0 = col)) : ad1 l col s c = s := if_neg h

/-- The neighbour on one side: the north, the west, the east, the south. -/
def dr (w h : Int) (c k : Nat) : List Int :=
  if k = 0 then (if 12 ≤ c then [(c : Int) - 12] else [])
  else if k = 1 then (if 1 ≤ c % 12 then [(c : Int) - 1] else [])
  else if k = 2 then (if ((c % 12 : Nat) : Int) + 1 < w then [(c : Int) + 1] else [])
  else (if ((c / 12 : Nat) : Int) + 1 < h then [(c : Int) + 12] else [])
def nbk (w h : Int) (c : Nat) : Nat → List Int
  | 0 => []
  | k + 1 => nbk w h c k ++ dr w h c k
def nbs (w h : Int) (c : Nat) : List Int := nbk w h c 4

def Ce (w h : Int) (c : Int) : Prop := ∃ i : Nat, c = (i : Int) ∧ i < 144 ∧ isB w h i = true
theorem dr_in {w h : Int} (hw : w ≤ 12) (hh : h ≤ 12) {c k : Nat} (hb : isB w h c = true) : ∀ d ∈ dr w h c k, Ce w h d := by
  rw [isB_t] at hb
  intro d hd
  unfold dr at hd
  split at hd
  · split at hd
    · rw [List.mem_singleton] at hd; exact ⟨c - 12, by omega, by omega, isB_t.2 (by omega)⟩
    · simp at hd
  · split at hd
    · split at hd
      · rw [List.mem_singleton] at hd; exact ⟨c - 1, by omega, by omega, isB_t.2 (by omega)⟩
      · simp at hd
    · split at hd
      · split at hd
        · rw [List.mem_singleton] at hd; exact ⟨c + 1, by omega, by omega, isB_t.2 (by omega)⟩
        · simp at hd
      · split at hd
        · rw [List.mem_singleton] at hd; exact ⟨c + 12, by omega, by omega, isB_t.2 (by omega)⟩
        · simp at hd
theorem nbk_in {w h : Int} (hw : w ≤ 12) (hh : h ≤ 12) {c : Nat} (hb : isB w h c = true) : ∀ k, ∀ d ∈ nbk w h c k, Ce w h d
  | 0, d, hd => by simp [nbk] at hd
  | k + 1, d, hd => by
    rcases List.mem_append.1 hd with h' | h'
    · exact nbk_in hw hh hb k d h'
    · exact dr_in hw hh hb d h'
theorem dr_len {w h : Int} {c k : Nat} : (dr w h c k).length ≤ 1 := by
  unfold dr
  repeat' split
  all_goals simp
theorem nbs_len {w h : Int} {c : Nat} : (nbs w h c).length ≤ 4 := by
  have h0 := dr_len (w := w) (h := h) (c := c) (k := 0)
  have h1 := dr_len (w := w) (h := h) (c := c) (k := 1)
  have h2 := dr_len (w := w) (h := h) (c := c) (k := 2)
  have h3 := dr_len (w := w) (h := h) (c := c) (k := 3)
  simp only [nbs, nbk, List.length_append, List.length_nil]
  omega

structure FI (w h : Int) (l : List Int) (col : Int) (s : FS) : Prop where
  n : s.1.length = 144
  p : s.2.Perm (selF (fOn s.1) 144)
  b : ∀ i, fOn s.1 i = true → i < 144 ∧ isB w h i = true ∧ l.getD i 0 = col

theorem FI.len {w h : Int} {l : List Int} {col : Int} {s : FS} (g : FI w h l col s) : s.2.length ≤ 144 := by rw [g.p.length_eq]; exact selF_len _ _
theorem FI.mem {w h : Int} {l : List Int} {col : Int} {s : FS} (g : FI w h l col s) {c : Int} (hc : c ∈ s.2) : ∃ i : Nat, c = (i : Int) ∧ i < 144 ∧ isB w h i = true ∧ fOn s.1 i = true := by
  obtain ⟨i, h1, h2, h3⟩ := selF_mem.1 (g.p.mem_iff.1 hc)
  exact ⟨i, h3, h1, (g.b i h2).2.1, h2⟩
theorem FI.get {w h : Int} {l : List Int} {col : Int} {s : FS} (g : FI w h l col s) {i : Nat} (hi : i < s.2.length) : ∃ c : Nat, s.2.getD i 0 = (c : Int) ∧ c < 144 ∧ isB w h c = true := by
  have : s.2.getD i 0 ∈ s.2 := by
    rw [List.getD_eq_getElem?_getD, List.getElem?_eq_getElem hi]; exact List.getElem_mem hi
  obtain ⟨c, h1, h2, h3, _⟩ := g.mem this
  exact ⟨c, h1, h2, h3⟩

theorem FI.add {w h : Int} {l : List Int} {col : Int} {s : FS} (g : FI w h l col s) {c : Int} (hc : Ce w h c) : FI w h l col (ad1 l col s c) := by
  obtain ⟨i, rfl, hi, hb⟩ := hc
  by_cases e : s.1.getD i 0 = 0 ∧ l.getD i 0 = col
  · rw [ad1_y (by simpa using e.1) (by simpa using e.2), Int.toNat_natCast]
    have hl : i < s.1.length := by rw [g.n]; exact hi
    refine ⟨by simp [g.n], ?_, fun j hj => ?_⟩
    · have := selF_add (p := fOn s.1) (q := fOn (s.1.set i 1)) (c := i) (fun j hj => by simp only [fOn, getD_set1 hl]; rw [if_neg (fun h => hj h.symm)]) (fOn_f.2 e.1) (fOn_t.2 (by rw [getD_set1 hl, if_pos rfl]; decide)) 144
      rw [if_pos hi] at this
      exact (g.p.append_right _).trans this.symm
    · rw [fOn_t, getD_set1 hl] at hj
      split at hj
      · rename_i e'; subst e'; exact ⟨hi, hb, e.2⟩
      · exact g.b j (fOn_t.2 hj)
  · rw [ad1_n (by simpa using e)]; exact g

theorem FI.fold {w h : Int} {l : List Int} {col : Int} : ∀ {L : List Int} {s : FS}, FI w h l col s → (∀ d ∈ L, Ce w h d) → FI w h l col (L.foldl (ad1 l col) s)
  | [], _, g, _ => g
  | d :: L, s, g, hL => FI.fold (L := L) (s := ad1 l col s d) (g.add (hL d (by simp))) fun e he => hL e (by simp [he])

def stp (w h : Int) (l : List Int) (col : Int) (s : FS) (c : Nat) : FS := (nbs w h c).foldl (ad1 l col) s
def rn (w h : Int) (l : List Int) (col : Int) (s0 : FS) : Nat → FS
  | 0 => s0
  | i + 1 => if i < (rn w h l col s0 i).2.length then stp w h l col (rn w h l col s0 i) ((rn w h l col s0 i).2.getD i 0).toNat else rn w h l col s0 i
theorem FI.rn {w h : Int} (hw : w ≤ 12) (hh : h ≤ 12) {l : List Int} {col : Int} {s0 : FS} (g : FI w h l col s0) : ∀ i, FI w h l col (rn w h l col s0 i)
  | 0 => g
  | i + 1 => by
    have ih := FI.rn hw hh g i
    rw [Go.Proofs.Ytepblgefgdllfaa.rn]
    split
    · rename_i hi
      obtain ⟨c, h1, h2, h3⟩ := ih.get hi
      rw [h1, Int.toNat_natCast]
      exact ih.fold (nbk_in hw hh h3 4)
    · exact ih
theorem rn_end {w h : Int} {l : List Int} {col : Int} {s0 : FS} {i : Nat} (hi : (rn w h l col s0 i).2.length ≤ i) : ∀ {n}, i ≤ n → rn w h l col s0 n = rn w h l col s0 i
  | 0, hn => by rw [show i = 0 by omega]
  | n + 1, hn => by
    by_cases e : i = n + 1
    · rw [e]
    · have ih := rn_end hi (n := n) (by omega)
      rw [rn, ih, if_neg (by omega)]

/-- The field of a cell. -/
def fs0 (c : Nat) : FS := ((List.replicate 144 (0 : Int)).set c 1, [(c : Int)])
def fld (w h : Int) (l : List Int) (c : Nat) : FS := rn w h l (l.getD c 0) (fs0 c) 144
def fOf (w h : Int) (l : List Int) (c : Nat) : List Int := selF (fOn (fld w h l c).1) 144
theorem rep0 (i n : Nat) : (List.replicate n (0 : Int)).getD i 0 = 0 := by
  rw [List.getD_eq_getElem?_getD, List.getElem?_replicate]
  split <;> rfl
theorem FI.zero {w h : Int} {l : List Int} {c : Nat} (hc : c < 144) (hb : isB w h c = true) : FI w h l (l.getD c 0) (fs0 c) := by
  have hl : c < (List.replicate 144 (0 : Int)).length := by rw [List.length_replicate]; exact hc
  refine ⟨by simp [fs0], ?_, fun j hj => ?_⟩
  · have := selF_add (p := fun _ => false) (q := fOn (fs0 c).1) (c := c) (fun j hj => by simp only [fs0, fOn, getD_set1 hl]; rw [if_neg (fun h => hj h.symm), rep0]; rfl) rfl (fOn_t.2 (by simp only [fs0]; rw [getD_set1 hl, if_pos rfl]; decide)) 144
    rw [if_pos hc] at this
    have e : selF (fun _ => false) 144 = [] := by
      rw [selF]; simp
    rw [e, List.nil_append] at this
    exact this.symm
  · simp only [fs0] at hj
    rw [fOn_t, getD_set1 hl] at hj
    split at hj
    · rename_i e; subst e; exact ⟨hc, hb, rfl⟩
    · exact absurd (rep0 j 144) hj
theorem fld_FI {w h : Int} (hw : w ≤ 12) (hh : h ≤ 12) {l : List Int} {c : Nat} (hc : c < 144) (hb : isB w h c = true) : FI w h l (l.getD c 0) (fld w h l c) := FI.rn hw hh (FI.zero hc hb) 144
theorem fld_sort {w h : Int} (hw : w ≤ 12) (hh : h ≤ 12) {l : List Int} {c : Nat} (hc : c < 144) (hb : isB w h c = true) : ((fld w h l c).2.mergeSort fun x y => decide (x ≤ y)) = fOf w h l c := sort_selF (fld_FI hw hh hc hb).p
theorem fld_end {w h : Int} (hw : w ≤ 12) (hh : h ≤ 12) {l : List Int} {c : Nat} (hc : c < 144) (hb : isB w h c = true) {i : Nat} (hi : i ≤ (rn w h l (l.getD c 0) (fs0 c) i).2.length) (he : (rn w h l (l.getD c 0) (fs0 c) i).2.length ≤ i) : rn w h l (l.getD c 0) (fs0 c) i = fld w h l c := by
  have := (FI.rn hw hh (FI.zero (l := l) hc hb) i).len
  exact (rn_end he (by omega)).symm
/-- The walk's next step, as a fold. -/
theorem rn_step {w h : Int} {l : List Int} {col : Int} {s0 : FS} {i c : Nat} (hi : i < (rn w h l col s0 i).2.length) (hc : (rn w h l col s0 i).2.getD i 0 = (c : Int)) : rn w h l col s0 (i + 1) = (nbs w h c).foldl (ad1 l col) (rn w h l col s0 i) := by
  rw [rn, if_pos hi, hc, Int.toNat_natCast]; rfl
/-- What is found grows at its end. -/
theorem fold_pre {l : List Int} {col : Int} : ∀ {L : List Int} {s : FS}, ∃ t, (L.foldl (ad1 l col) s).2 = s.2 ++ t
  | [], s => ⟨[], by simp⟩
  | d :: L, s => by
    obtain ⟨t, ht⟩ := fold_pre (l := l) (col := col) (L := L) (s := ad1 l col s d)
    rw [List.foldl_cons, ht]
    unfold ad1
    split
    · exact ⟨d :: t, by simp⟩
    · exact ⟨t, rfl⟩

theorem take_one {L : List Int} {i : Nat} (h : i < L.length) : L.take (i + 1) = L.take i ++ [L.getD i 0] := by
  rw [List.take_add_one, List.getD_eq_getElem?_getD, List.getElem?_eq_getElem h]; rfl
def rq (w h : Int) (l : List Int) (c k : Nat) : FS := rn w h l (l.getD c 0) (fs0 c) k
def cq (w h : Int) (l : List Int) (c k : Nat) : Nat := ((rq w h l c k).2.getD k 0).toNat
def fo (w h : Int) (l : List Int) (c k i : Nat) : FS := ((nbs w h (cq w h l c k)).take i).foldl (ad1 l (l.getD c 0)) (rq w h l c k)
theorem rq_FI {w h : Int} (hw : w ≤ 12) (hh : h ≤ 12) {l : List Int} {c : Nat} (hc : c < 144) (hb : isB w h c = true) (k : Nat) : FI w h l (l.getD c 0) (rq w h l c k) := FI.rn hw hh (FI.zero hc hb) k
theorem cq_cell {w h : Int} (hw : w ≤ 12) (hh : h ≤ 12) {l : List Int} {c : Nat} (hc : c < 144) (hb : isB w h c = true) {k : Nat} (hk : k < (rq w h l c k).2.length) : cq w h l c k < 144 ∧ isB w h (cq w h l c k) = true ∧ (rq w h l c k).2.getD k 0 = ((cq w h l c k : Nat) : Int) := by
  obtain ⟨d, d1, d2, d3⟩ := (rq_FI hw hh (l := l) hc hb k).get hk
  have e : cq w h l c k = d := by rw [cq, d1, Int.toNat_natCast]
  rw [e]
  exact ⟨d2, d3, d1⟩
theorem nbs_get {w h : Int} (hw : w ≤ 12) (hh : h ≤ 12) {c : Nat} (hb : isB w h c = true) {i : Nat} (hi : i < (nbs w h c).length) : ∃ d : Nat, (nbs w h c).getD i 0 = (d : Int) ∧ d < 144 ∧ isB w h d = true := by
  have : (nbs w h c).getD i 0 ∈ nbs w h c := by
    rw [List.getD_eq_getElem?_getD, List.getElem?_eq_getElem hi]; exact List.getElem_mem hi
  exact nbk_in hw hh hb 4 _ this
theorem fo_succ {w h : Int} {l : List Int} {c k i : Nat} (hi : i < (nbs w h (cq w h l c k)).length) : fo w h l c k (i + 1) = ad1 l (l.getD c 0) (fo w h l c k i) ((nbs w h (cq w h l c k)).getD i 0) := by
  rw [fo, take_one hi, List.foldl_append]; rfl
theorem fo_all {w h : Int} {l : List Int} {c k : Nat} (hk : k < (rq w h l c k).2.length) : fo w h l c k (nbs w h (cq w h l c k)).length = rq w h l c (k + 1) := by
  rw [fo, List.take_length]
  have e : rq w h l c (k + 1) = stp w h l (l.getD c 0) (rq w h l c k) (cq w h l c k) := by
    rw [rq, rn]; exact if_pos hk
  rw [e]; rfl
theorem fo_FI {w h : Int} (hw : w ≤ 12) (hh : h ≤ 12) {l : List Int} {c : Nat} (hc : c < 144) (hb : isB w h c = true) {k : Nat} (hk : k < (rq w h l c k).2.length) (i : Nat) : FI w h l (l.getD c 0) (fo w h l c k i) :=
  (rq_FI hw hh hc hb k).fold fun d hd => nbk_in hw hh (cq_cell hw hh hc hb hk).2.1 4 d (List.mem_of_mem_take hd)
theorem rq_mono {w h : Int} {l : List Int} {c k : Nat} (hk : k < (rq w h l c k).2.length) : (rq w h l c k).2.length ≤ (rq w h l c (k + 1)).2.length := by
  rw [← fo_all hk]
  obtain ⟨t, ht⟩ := fold_pre (l := l) (col := l.getD c 0) (L := (nbs w h (cq w h l c k)).take (nbs w h (cq w h l c k)).length) (s := rq w h l c k)
  rw [fo, ht, List.length_append]; omega

theorem rq_pos {w h : Int} {l : List Int} {c : Nat} : ∀ k, 0 < (rq w h l c k).2.length
  | 0 => Nat.one_pos
  | k + 1 => by
    have ih := rq_pos (w := w) (h := h) (l := l) (c := c) k
    by_cases hk : k < (rq w h l c k).2.length
    · have := rq_mono hk; omega
    · have e : rq w h l c (k + 1) = rq w h l c k := by
        rw [rq, rn]; exact if_neg hk
      rw [e]; exact ih

@[irreducible] def fdF (w h : Int) (l : List Int) (c : Nat) : List Int := (fld w h l c).1
theorem fdF_eq {w h : Int} {l : List Int} {c : Nat} : fdF w h l c = (fld w h l c).1 := by unfold fdF; rfl

end Go.Proofs.Ytepblgefgdllfaa
