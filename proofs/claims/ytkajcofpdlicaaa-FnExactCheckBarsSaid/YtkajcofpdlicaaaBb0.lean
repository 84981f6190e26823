/- Plans of bars: mathematics. No conditions beyond the ranges of the kinds. -/
import Derived.Test.YtkajcofpdlicaaaBar0
import Derived.Test.YtkajcofpdlicaaaGqs
import Derived.Test.YtkajcofpdlicaaaNl2
set_option linter.unusedSimpArgs false
set_option linter.unusedVariables false
namespace Go.Proofs.Ytkajcofpdlicaaa
open Go.Sx Go.RowKit

/-- Bars as they are made. -/
structure BsL (L : List (Nat × List Int)) : Prop where
  ls : LsL (-9223372036854775808) 9223372036854775807 L
  sm : (smN L : Int) ≤ 1048576

/-- All of the first k lists, one behind the other. -/
def catL (L : List (Nat × List Int)) : Nat → List Int
  | 0 => []
  | k + 1 => catL L k ++ (stC L k).take (stN L k)
theorem sm_split {L : List (Nat × List Int)} {k n : Nat} {l : List Int} (h : L[k]? = some (n, l)) : smN (L.drop k) = n + smN (L.drop (k + 1)) := by
  rw [drop_some h, smN, smN, List.map_cons, List.sum_cons]
theorem cat_len {L : List (Nat × List Int)} (hL : BsL L) : ∀ {k : Nat}, k ≤ L.length → (catL L k).length + smN (L.drop k) = smN L
  | 0, _ => by simp [catL]
  | k + 1, hk => by
    have ih := cat_len hL (k := k) (by omega)
    have hj : L[k]? = some (stN L k, stC L k) := by
      rw [stN, stC, List.getElem?_eq_getElem (by omega), List.getD_eq_getElem?_getD, List.getElem?_eq_getElem (by omega)]; rfl
    have h2 := (hL.ls.en k _ _ hj).2.1
    rw [sm_split hj] at ih
    rw [catL, List.length_append, List.length_take, h2, Nat.min_self]
    omega
theorem cat_le {L : List (Nat × List Int)} (hL : BsL L) {k : Nat} (hk : k ≤ L.length) : ((catL L k).length : Int) ≤ 1048576 := by
  have := cat_len hL hk
  have := hL.sm
  omega
theorem cat_mem {L : List (Nat × List Int)} {j x i : Nat} (hx : x < stN L j) (hl : (stC L j).length = stN L j) : ∀ {k : Nat}, j < k → (stC L j).getD x 0 ∈ catL L k
  | 0, h => by omega
  | k + 1, h => by
    rw [catL, List.mem_append]
    rcases (show j < k ∨ j = k by omega) with h' | rfl
    · exact .inl (cat_mem (i := i) hx hl h')
    · refine .inr ?_
      rw [List.take_of_length_le (by omega), List.getD_eq_getElem?_getD, List.getElem?_eq_getElem (by omega)]
      exact List.getElem_mem _

/-- What is asked of a bar and its pieces, where what is used of it is counted. -/
structure UsP (saw : Int) (n : Nat) (p : List Int) (m : Nat) (b : List Int) : Prop where
  saw : 0 ≤ saw ∧ saw ≤ 10000
  ok : ∀ i, i < n → 1 ≤ p.getD i 0 ∧ p.getD i 0 ≤ 10000
  ix : ∀ i, i < m → 0 ≤ b.getD i 0 ∧ b.getD i 0 < n

theorem us_of {L : List (Nat × List Int)} (hL : BsL L) {Ln saw : Int} {n : Nat} {p : List Int} (sw : SwP Ln saw n p) {m : Nat} {A : List Int} (hm : (catL L L.length).length = m) (ix : IxP n m A) (hA : ∀ i, i < m → A.getD i 0 = (catL L L.length).getD i 0) {j n1 : Nat} {l1 : List Int} (hj : L[j]? = some (n1, l1)) : UsP saw n p n1 l1 := by
  obtain ⟨q1, q2⟩ := st_of hj
  have hjl : j < L.length := (List.getElem?_eq_some_iff.1 hj).1
  have hl := (hL.ls.en j n1 l1 hj).2.1
  refine ⟨sw.saw, fun i hi => ⟨(sw.ok i hi).1, by have := (sw.ok i hi).2; have := sw.len.2; omega⟩, fun i hi => ?_⟩
  have hmem := cat_mem (L := L) (j := j) (x := i) (i := 0) (by omega) (by rw [q1, q2]; exact hl) hjl
  rw [q2] at hmem
  obtain ⟨t, ht, he⟩ := List.getElem_of_mem hmem
  have h3 := (ix.ok t (by omega)).1
  rw [hA t (by omega), List.getD_eq_getElem?_getD, List.getElem?_eq_getElem ht] at h3
  simp only [Option.getD_some] at h3
  rw [he] at h3
  exact h3

theorem ixB_cg {n m : Nat} {a b : List Int} (h : ∀ i, i < m → a.getD i 0 = b.getD i 0) : ixB n m a = ixB n m b := by
  rw [Bool.eq_iff_iff, ixB_t, ixB_t]
  constructor
  · exact fun q => ⟨fun i hi => by rw [← h i hi]; exact ⟨(q.ok i hi).1, fun j hj => by rw [← h j (by omega)]; exact (q.ok i hi).2 j hj⟩⟩
  · exact fun q => ⟨fun i hi => by rw [h i hi]; exact ⟨(q.ok i hi).1, fun j hj => by rw [h j (by omega)]; exact (q.ok i hi).2 j hj⟩⟩

/-! ### A plan -/
structure PlP (Ln saw : Int) (n : Nat) (p : List Int) (L : List (Nat × List Int)) : Prop where
  ne : ∀ j, j < L.length → 0 < stN L j
  ln : (catL L L.length).length = n
  ix : IxP n n (catL L L.length)
  us : ∀ j, j < L.length → useE saw p (stC L j) (stN L j) ≤ Ln
open Classical in
noncomputable def plB (Ln saw : Int) (n : Nat) (p : List Int) (L : List (Nat × List Int)) : Bool := decide (PlP Ln saw n p L)
theorem plB_t {Ln saw : Int} {n : Nat} {p : List Int} {L : List (Nat × List Int)} : plB Ln saw n p L = true ↔ PlP Ln saw n p L := by simp [plB]
theorem plB_f {Ln saw : Int} {n : Nat} {p : List Int} {L : List (Nat × List Int)} : plB Ln saw n p L = false ↔ ¬ PlP Ln saw n p L := by simp [plB]

theorem gq_cat {L : List (Nat × List Int)} {k N n' n : Nat} {l A B : List Int} {c c' : Int} (hj : L[k]? = some (n, l)) (hl : l.length = n) (g : Gq 1 (catL L k).length (catL L k) N A c) (h1 : ((catL L k).length : Int) + n ≤ c') (h2 : n' = c'.toNat) (h3 : B.length = n') (h4 : B.take ((catL L k).length + n) = A.take (catL L k).length ++ l) :
    Gq 1 (catL L (k + 1)).length (catL L (k + 1)) n' B c' := by
  obtain ⟨q1, q2⟩ := st_of hj
  have e : catL L (k + 1) = catL L k ++ l := by rw [catL, q1, q2, List.take_of_length_le (by omega)]
  have t := g.t
  rw [Nat.mul_one] at t
  refine ⟨by rw [e, List.length_append]; omega, by omega, h3, ?_⟩
  rw [e, List.length_append, Nat.mul_one, hl, h4, t]
theorem Gq.get1 {k : Nat} {F : List Int} {n : Nat} {L : List Int} {cap : Int} (g : Gq 1 k F n L cap) {i : Nat} (h : i < k) : L.getD i 0 = F.getD i 0 := by
  have t := g.t
  rw [Nat.mul_one] at t
  rw [← t, getD_take' h]

/-- The sum of the first k pieces. -/
def smK (p : List Int) : Nat → Int
  | 0 => 0
  | k + 1 => smK p k + p.getD k 0
theorem smK_bd {p : List Int} {n : Nat} (h : ∀ i, i < n → 1 ≤ p.getD i 0 ∧ p.getD i 0 ≤ 10000) : ∀ {k : Nat}, k ≤ n → 0 ≤ smK p k ∧ smK p k ≤ 10000 * (k : Int)
  | 0, _ => by simp [smK]
  | k + 1, hk => by
    have := smK_bd h (k := k) (by omega)
    have := h k (by omega)
    rw [smK]; omega

end Go.Proofs.Ytkajcofpdlicaaa
