/- OutlineOf: plain mathematics. A field is closed: a neighbour of the same colour is of the same field. No conditions. -/
import Derived.Test.YtepblgefgdllfaaFl0
set_option linter.unusedSimpArgs false
set_option linter.unusedVariables false
namespace Go.Proofs.Ytepblgefgdllfaa
open Go.Sx Go.RowKit

/-! ### A field is closed -/
theorem ad1_keep {l : List Int} {col : Int} {s : FS} {c : Int} (hF : s.1.length = 144) (hc : c.toNat < 144) {i : Nat} (h : fOn s.1 i = true) : fOn (ad1 l col s c).1 i = true := by
  unfold ad1
  split
  · rw [fOn_t] at h ⊢
    simp only
    rw [getD_set1 (by rw [hF]; exact hc)]
    split
    · decide
    · exact h
  · exact h
theorem ad1_found {l : List Int} {col : Int} {s : FS} {c : Int} (hF : s.1.length = 144) (hc : c.toNat < 144) (h : l.getD c.toNat 0 = col) : fOn (ad1 l col s c).1 c.toNat = true := by
  unfold ad1
  split
  · rw [fOn_t]
    simp only
    rw [getD_set1 (by rw [hF]; exact hc), if_pos rfl]; decide
  · rename_i e
    rw [fOn_t]
    exact fun h0 => e ⟨h0, h⟩
theorem ad1_len {l : List Int} {col : Int} {s : FS} {c : Int} (hF : s.1.length = 144) : (ad1 l col s c).1.length = 144 := by
  unfold ad1
  split
  · simp [hF]
  · exact hF
theorem fold_keep {l : List Int} {col : Int} : ∀ {L : List Int} {s : FS}, s.1.length = 144 → (∀ d ∈ L, d.toNat < 144) → ∀ {i : Nat}, fOn s.1 i = true → fOn (L.foldl (ad1 l col) s).1 i = true
  | [], _, _, _, _, h => h
  | d :: L, s, hF, hL, i, h => fold_keep (L := L) (s := ad1 l col s d) (ad1_len hF) (fun e he => hL e (by simp [he])) (ad1_keep hF (hL d (by simp)) h)
theorem fold_found {l : List Int} {col : Int} : ∀ {L : List Int} {s : FS}, s.1.length = 144 → (∀ d ∈ L, d.toNat < 144) → ∀ d ∈ L, l.getD d.toNat 0 = col → fOn (L.foldl (ad1 l col) s).1 d.toNat = true
  | [], _, _, _, d, hd, _ => by simp at hd
  | e :: L, s, hF, hL, d, hd, hc => by
    rcases List.mem_cons.1 hd with rfl | hd
    · exact fold_keep (L := L) (s := ad1 l col s d) (ad1_len hF) (fun e he => hL e (by simp [he])) (ad1_found hF (hL d (by simp)) hc)
    · exact fold_found (L := L) (s := ad1 l col s e) (ad1_len hF) (fun e he => hL e (by simp [he])) d hd hc

def Cl (w h : Int) (l : List Int) (col : Int) (s : FS) (k : Nat) : Prop := ∀ j, j < k → j < s.2.length → ∀ d ∈ nbs w h (s.2.getD j 0).toNat, l.getD d.toNat 0 = col → fOn s.1 d.toNat = true
theorem ce_lt {w h d : Int} (hd : Ce w h d) : d.toNat < 144 := by
  obtain ⟨i, rfl, hi, _⟩ := hd
  simpa using hi
theorem rq_Cl {w h : Int} (hw : w ≤ 12) (hh : h ≤ 12) {l : List Int} {c : Nat} (hc : c < 144) (hb : isB w h c = true) : ∀ k, Cl w h l (l.getD c 0) (rq w h l c k) k
  | 0 => fun j hj => by omega
  | k + 1 => by
    have ih := rq_Cl hw hh (l := l) hc hb k
    by_cases hk : k < (rq w h l c k).2.length
    · obtain ⟨q1, q2, q3⟩ := cq_cell hw hh hc hb hk
      have hF := (rq_FI hw hh (l := l) hc hb k).n
      have hL : ∀ d ∈ nbs w h (cq w h l c k), d.toNat < 144 := fun d hd => ce_lt (nbk_in hw hh q2 4 d hd)
      have e : rq w h l c (k + 1) = (nbs w h (cq w h l c k)).foldl (ad1 l (l.getD c 0)) (rq w h l c k) := by
        rw [← fo_all hk, fo, List.take_length]
      obtain ⟨t, ht⟩ := fold_pre (l := l) (col := l.getD c 0) (L := nbs w h (cq w h l c k)) (s := rq w h l c k)
      intro j hj hjl d hd hdc
      by_cases hjk : j < (rq w h l c k).2.length
      · have eg : (rq w h l c (k + 1)).2.getD j 0 = (rq w h l c k).2.getD j 0 := by
          rw [e, ht, List.getD_eq_getElem?_getD, List.getElem?_append_left hjk, ← List.getD_eq_getElem?_getD]
        rw [eg] at hd
        rw [e]
        by_cases ej : j < k
        · exact fold_keep hF hL (ih j ej hjk d hd hdc)
        · obtain rfl : j = k := by omega
          exact fold_found hF hL d hd hdc
      · omega
    · have e : rq w h l c (k + 1) = rq w h l c k := by
        rw [rq, rn]; exact if_neg hk
      rw [e]
      intro j hj hjl
      exact ih j (by omega) hjl
/-- A neighbour has the same colour just if it is of the same field. -/
theorem fld_cl {w h : Int} (hw : w ≤ 12) (hh : h ≤ 12) {l : List Int} {c : Nat} (hc : c < 144) (hb : isB w h c = true) {i : Nat} (hi : fOn (fdF w h l c) i = true) : ∀ d ∈ nbs w h i, fOn (fdF w h l c) d.toNat = (l.getD d.toNat 0 == l.getD i 0) := by
  rw [fdF_eq] at *
  have g := fld_FI hw hh (l := l) hc hb
  obtain ⟨h1, h2, h3⟩ := g.b i hi
  intro d hd
  rw [h3, Bool.eq_iff_iff, beq_iff_eq]
  refine ⟨fun hx => (g.b _ hx).2.2, fun hx => ?_⟩
  have hm : (i : Int) ∈ (fld w h l c).2 := g.p.mem_iff.2 (selF_mem.2 ⟨i, h1, hi, rfl⟩)
  obtain ⟨j, hj, ej⟩ := List.mem_iff_getElem.1 hm
  have hl := g.len
  refine rq_Cl hw hh hc hb 144 j (by omega) hj d ?_ hx
  have : (rq w h l c 144).2.getD j 0 = (i : Int) := by
    rw [List.getD_eq_getElem?_getD, List.getElem?_eq_getElem (show j < (rq w h l c 144).2.length from hj)]
    exact ej
  rw [this, Int.toNat_natCast]; exact hd

/-! ### The outline -/
def oF (P : Nat → Bool) (n : Int) (L : List Int) : Int := L.foldl (fun n d => if P d.toNat = true then n - 1 else n) n
theorem oF_one {P : Nat → Bool} {n : Int} {L : List Int} {d : Int} : oF P n (L ++ [d]) = if P d.toNat = true then oF P n L - 1 else oF P n L := by rw [oF, List.foldl_append]; rfl
theorem oF_bd {P : Nat → Bool} : ∀ {L : List Int} {n : Int}, n - (L.length : Int) ≤ oF P n L ∧ oF P n L ≤ n
  | [], n => by simp [oF]
  | d :: L, n => by
    have h1 := oF_bd (P := P) (L := L) (n := n - 1)
    have h2 := oF_bd (P := P) (L := L) (n := n)
    have e : oF P n (d :: L) = if P d.toNat = true then oF P (n - 1) L else oF P n L := by
      simp only [oF, List.foldl_cons]; split <;> rfl
    rw [e, List.length_cons]
    split <;> omega
theorem oF_congr {P Q : Nat → Bool} : ∀ {L : List Int} {n : Int}, (∀ d ∈ L, P d.toNat = Q d.toNat) → oF P n L = oF Q n L
  | [], _, _ => rfl
  | d :: L, n, h => by
    simp only [oF, List.foldl_cons, h d (by simp)]
    exact oF_congr (L := L) fun e he => h e (by simp [he])
theorem nbk_len {w h : Int} {c : Nat} : ∀ k, (nbk w h c k).length ≤ k
  | 0 => Nat.le_refl 0
  | k + 1 => by
    have ih := nbk_len (w := w) (h := h) (c := c) k
    have h1 := dr_len (w := w) (h := h) (c := c) (k := k)
    rw [nbk, List.length_append]; omega
def spO (w h : Int) (F : List Int) : Nat → Int
  | 0 => 0
  | i + 1 => if fOn F i = true then oF (fOn F) (spO w h F i + 4) (nbs w h i) else spO w h F i
theorem spO_y {w h : Int} {F : List Int} {i : Nat} (e : fOn F i = true) : spO w h F (i + 1) = oF (fOn F) (spO w h F i + 4) (nbs w h i) := by rw [spO, if_pos e]
theorem spO_n {w h : Int} {F : List Int} {i : Nat} (e : fOn F i = false) : spO w h F (i + 1) = spO w h F i := by rw [spO, if_neg (by rw [e]; decide)]
theorem spO_bd {w h : Int} {F : List Int} : ∀ i : Nat, 0 ≤ spO w h F i ∧ spO w h F i ≤ 4 * (i : Int)
  | 0 => by simp [spO]
  | i + 1 => by
    have ih := spO_bd (w := w) (h := h) (F := F) i
    have hb := oF_bd (P := fOn F) (L := nbs w h i) (n := spO w h F i + 4)
    have hn := nbs_len (w := w) (h := h) (c := i)
    rw [spO]
    split <;> omega
def oP (l : List Int) (c : Int) (d : Nat) : Bool := l.getD d 0 == l.getD c.toNat 0
def imS (w h : Int) (l : List Int) (n c : Int) : Int := oF (oP l c) (n + 4) (nbs w h c.toNat)
def imO (w h : Int) (l q : List Int) : Int := q.foldl (imS w h l) 0
theorem imO_one {w h : Int} {l q : List Int} {c : Int} : imO w h l (q ++ [c]) = imS w h l (imO w h l q) c := by rw [imO, List.foldl_append]; rfl
theorem imO_sel {w h : Int} {l F : List Int} (hcl : ∀ i, fOn F i = true → ∀ d ∈ nbs w h i, fOn F d.toNat = (l.getD d.toNat 0 == l.getD i 0)) : ∀ k, imO w h l (selF (fOn F) k) = spO w h F k
  | 0 => rfl
  | k + 1 => by
    cases hk : fOn F k with
    | true =>
      rw [selF_yes hk, imO_one, imO_sel hcl, spO_y hk, imS, Int.toNat_natCast]
      exact oF_congr fun d hd => by rw [oP, Int.toNat_natCast]; exact (hcl k hk d hd).symm
    | false => rw [selF_no hk, imO_sel hcl, spO_n hk]
theorem imO_bd {w h : Int} {l : List Int} : ∀ {q : List Int} {n : Int}, 0 ≤ n → 0 ≤ q.foldl (imS w h l) n ∧ q.foldl (imS w h l) n ≤ n + 4 * (q.length : Int)
  | [], n, hn => by simp; omega
  | c :: q, n, hn => by
    have hb := oF_bd (P := oP l c) (L := nbs w h c.toNat) (n := n + 4)
    have hl := nbs_len (w := w) (h := h) (c := c.toNat)
    have ih := imO_bd (w := w) (h := h) (l := l) (q := q) (n := imS w h l n c) (by unfold imS; omega)
    rw [List.foldl_cons, List.length_cons]
    have : imS w h l n c ≤ n + 4 := hb.2
    omega

end Go.Proofs.Ytepblgefgdllfaa
