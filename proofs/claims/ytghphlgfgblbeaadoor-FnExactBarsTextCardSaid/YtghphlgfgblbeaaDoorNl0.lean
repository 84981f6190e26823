/- Lists of lists of numbers: what no function is named in. No conditions. -/
import Derived.Test.YtghphlgfgblbeaaDoorRec
set_option linter.unusedSimpArgs false
set_option linter.unusedVariables false
namespace Go.Proofs.YtghphlgfgblbeaaDoor
open Go.Sx Go.RowKit

abbrev NL := List (Nat × List Int)

/-- Lists as they are made: each one is all of its memory. -/
structure LsL (a b : Int) (L : List (Nat × List Int)) : Prop where
  lo : L.length ≤ 1048576
  en : ∀ (j n : Nat) (l : List Int), L[j]? = some (n, l) → n ≤ 1048576 ∧ l.length = n ∧ ∀ i, i < n → a ≤ l.getD i 0 ∧ l.getD i 0 ≤ b

/-- Slices of numbers as they come in. -/
structure NsR (a b : Int) (L : List (Nat × List Int)) : Prop where
  en : ∀ (j n : Nat) (l : List Int), L[j]? = some (n, l) → n ≤ l.length ∧ n ≤ 9223372036854775807 ∧ ∀ i, i < l.length → a ≤ l.getD i 0 ∧ l.getD i 0 ≤ b

abbrev Ns16 := NsR (-32768) 32767
abbrev Ns64 := NsR (-9223372036854775808) 9223372036854775807

theorem ns16_of {L : List (Nat × List Int)} (h : ∀ (j : Nat) (x : Nat × List Int), L[j]? = some x → x.1 * 1 ≤ x.2.length ∧ x.1 ≤ maxLen ∧ ∀ k, k < x.2.length → (Lit.int (([.i16] : List IntKind).getD (k % ([.i16] : List IntKind).length) .i64) (x.2.getD k 0)).wf = true) : Ns16 L :=
  ⟨fun j n l hj => by
    obtain ⟨h1, h2, h3⟩ := h j _ hj
    refine ⟨by simpa using h1, by simp only [maxLen] at h2; omega, fun i hi => ?_⟩
    have h := h3 i hi
    simp only [List.length_cons, List.length_nil, Nat.zero_add, Nat.mod_one, List.getD_cons_zero] at h
    simpa [Lit.wf, IntKind.min, IntKind.max, IntKind.signed, IntKind.bits] using h⟩
theorem ns64_of {L : List (Nat × List Int)} (h : ∀ (j : Nat) (x : Nat × List Int), L[j]? = some x → x.1 * 1 ≤ x.2.length ∧ x.1 ≤ maxLen ∧ ∀ k, k < x.2.length → (Lit.int (([.i64] : List IntKind).getD (k % ([.i64] : List IntKind).length) .i64) (x.2.getD k 0)).wf = true) : Ns64 L :=
  ⟨fun j n l hj => by
    obtain ⟨h1, h2, h3⟩ := h j _ hj
    refine ⟨by simpa using h1, by simp only [maxLen] at h2; omega, fun i hi => ?_⟩
    have h := h3 i hi
    simp only [List.length_cons, List.length_nil, Nat.zero_add, Nat.mod_one, List.getD_cons_zero] at h
    simpa [Lit.wf, IntKind.min, IntKind.max, IntKind.signed, IntKind.bits] using h⟩

def szG : List (Nat × List Int) → Int → Int
  | [], left => left
  | x :: r, left => if szF left x.1 < 0 then -1 else szG r (szF left x.1)
def szSS (L : List (Nat × List Int)) (left : Int) : Int := if szF left L.length < 0 then -1 else szG L (szF left L.length)

theorem drop_some {α : Type} {L : List α} {k : Nat} {x : α} (h : L[k]? = some x) : L.drop k = x :: L.drop (k + 1) := by
  obtain ⟨hk, rfl⟩ := List.getElem?_eq_some_iff.1 h
  exact List.drop_eq_getElem_cons hk
theorem szF_ps {left len : Int} (h : ¬ szF left len < 0) : szF left len = left - len ∧ len ≤ left := by
  unfold szF at h ⊢
  split at h
  · omega
  · rw [if_neg (by assumption)]; omega

theorem szG_bd : ∀ (L : List (Nat × List Int)) (left : Int), 0 ≤ left → ¬ szG L left < 0 → (∀ (j n : Nat) (l : List Int), L[j]? = some (n, l) → (n : Int) ≤ left)
  | [], left, _, _, j, n, l, h => by simp at h
  | x :: r, left, h0, h, j, n, l, hj => by
    unfold szG at h
    by_cases hs : szF left x.1 < 0
    · rw [if_pos hs] at h; omega
    · rw [if_neg hs] at h
      obtain ⟨s1, s2⟩ := szF_ps hs
      cases j with
      | zero =>
        simp at hj
        subst hj
        simp only at s1 s2
        omega
      | succ j =>
        have := szG_bd r _ (by omega) h j n l (by simpa using hj)
        omega
/-- All of them together are no more than what is left. -/
def smN (L : List (Nat × List Int)) : Nat := (L.map Prod.fst).sum
theorem szG_sm : ∀ (L : List (Nat × List Int)) (left : Int), 0 ≤ left → ¬ szG L left < 0 → (smN L : Int) ≤ left
  | [], left, h0, _ => by simpa [smN] using h0
  | x :: r, left, h0, h => by
    unfold szG at h
    by_cases hs : szF left x.1 < 0
    · rw [if_pos hs] at h; omega
    · rw [if_neg hs] at h
      obtain ⟨s1, s2⟩ := szF_ps hs
      have := szG_sm r _ (by omega) h
      rw [smN] at *
      simp only [List.map_cons, List.sum_cons] at *
      omega

/-- What is made of a slice of slices. -/
def trS (x : Nat × List Int) : Nat × List Int := (x.1, x.2.take x.1)
theorem sm_tr {L : List (Nat × List Int)} : smN (L.map trS) = smN L := by simp [smN, trS, Function.comp_def]
theorem lsL_tr {a b : Int} {L : List (Nat × List Int)} (h : NsR a b L) {left : Int} (hl : left ≤ 1048576) (hs : ¬ szSS L left < 0) : LsL a b (L.map trS) := by
  unfold szSS at hs
  by_cases h1 : szF left L.length < 0
  · rw [if_pos h1] at hs; omega
  · rw [if_neg h1] at hs
    obtain ⟨s1, s2⟩ := szF_ps h1
    refine ⟨by simp; omega, fun j n l hj => ?_⟩
    rw [List.getElem?_map] at hj
    obtain ⟨⟨n', l'⟩, hj', e1⟩ := Option.map_eq_some_iff.1 hj
    simp only [trS, Prod.mk.injEq] at e1
    obtain ⟨rfl, rfl⟩ := e1
    have hb := szG_bd L _ (by omega) hs j _ _ hj'
    obtain ⟨g1, _, g3⟩ := h.en j _ _ hj'
    refine ⟨by omega, by simp; omega, fun i hi => ?_⟩
    rw [getD_take' hi]
    exact g3 i (by omega)
theorem smN_tr {a b : Int} {L : List (Nat × List Int)} (h : NsR a b L) {left : Int} (hl : left ≤ 1048576) (hs : ¬ szSS L left < 0) : (L.map trS).length ≤ 1048576 ∧ (smN (L.map trS) : Int) ≤ 1048576 := by
  unfold szSS at hs
  by_cases h1 : szF left L.length < 0
  · rw [if_pos h1] at hs; omega
  · rw [if_neg h1] at hs
    obtain ⟨s1, s2⟩ := szF_ps h1
    have := szG_sm L _ (by omega) hs
    rw [sm_tr]
    exact ⟨by simp; omega, by omega⟩

/-- The first k slices are made. -/
def nsF (M : List (Nat × List Int)) (k : Nat) : List (Nat × List Int) := M.take k ++ List.replicate (M.length - k) (0, [])
theorem nsF_zero (M : List (Nat × List Int)) : nsF M 0 = List.replicate M.length (0, []) := by simp [nsF]
theorem nsF_all (M : List (Nat × List Int)) : nsF M M.length = M := by simp [nsF]
theorem nsF_len {M : List (Nat × List Int)} {k : Nat} (h : k ≤ M.length) : (nsF M k).length = M.length := by simp [nsF]; omega
theorem nsF_set {M : List (Nat × List Int)} {k : Nat} {x : Nat × List Int} (h : M[k]? = some x) : (nsF M k).set k x = nsF M (k + 1) := by
  have hk : k < M.length := (List.getElem?_eq_some_iff.1 h).1
  apply List.ext_getElem?
  intro i
  rw [List.getElem?_set, nsF_len (by omega)]
  unfold nsF
  by_cases e1 : k = i
  · subst e1
    rw [if_pos rfl, if_pos hk, List.getElem?_append_left (by simp; omega), List.getElem?_take_of_lt (by omega), h]
  · rw [if_neg e1]
    by_cases c1 : i < k
    · rw [List.getElem?_append_left (by simp; omega), List.getElem?_append_left (by simp; omega), List.getElem?_take_of_lt c1, List.getElem?_take_of_lt (by omega)]
    · rw [List.getElem?_append_right (by simp; omega), List.getElem?_append_right (by simp; omega), List.getElem?_replicate, List.getElem?_replicate]
      simp only [List.length_take]
      rw [Nat.min_eq_left (by omega), Nat.min_eq_left (by omega)]
      by_cases c2 : i < M.length
      · rw [if_pos (by omega), if_pos (by omega)]
      · rw [if_neg (by omega), if_neg (by omega)]

/-- The first number of which something holds. -/
def fstN (p : Nat → Bool) : Nat → Nat → Option Nat
  | 0, _ => none
  | n + 1, k => if p k then some k else fstN p n (k + 1)
theorem fstN_yes {p : Nat → Bool} {n k : Nat} (h : k < n) (hp : p k = true) : fstN p (n - k) k = some k := by
  rw [show n - k = (n - k - 1) + 1 by omega, fstN, if_pos hp]
theorem fstN_no {p : Nat → Bool} {n k : Nat} (h : k < n) (hp : p k = false) : fstN p (n - k) k = fstN p (n - (k + 1)) (k + 1) := by
  rw [show n - k = (n - (k + 1)) + 1 by omega, fstN, if_neg (by simp [hp])]
theorem fstN_end {p : Nat → Bool} {n k : Nat} (h : ¬ k < n) : fstN p (n - k) k = none := by
  rw [show n - k = 0 by omega, fstN]
def stN (L : List (Nat × List Int)) (i : Nat) : Nat := (L.getD i (0, [])).1
def stC (L : List (Nat × List Int)) (i : Nat) : List Int := (L.getD i (0, [])).2
theorem st_of {L : List (Nat × List Int)} {i n : Nat} {l : List Int} (h : L[i]? = some (n, l)) : stN L i = n ∧ stC L i = l := by
  simp [stN, stC, List.getD_eq_getElem?_getD, h]

/-! ### What copies and compares them -/
def lmSzS (L : List (Nat × List Int)) (R : Int) : LAnn := { ι := Nat × Int, inv := fun _ x => x.1 ≤ L.length ∧ 0 ≤ x.2 ∧ x.2 ≤ 1048576 ∧ szG (L.drop x.1) x.2 = R, slots := fun _ x => [(1, .a (.c (.int .i64 x.2))), (5, .a (.c (.int .i64 x.1)))], blks := fun _ _ => [], μ := fun _ x => L.length - x.1 }
def lmEqS (n : Nat) : LAnn := { ι := Nat, inv := fun _ k => k ≤ n, slots := fun _ k => [(5, .a (.c (.int .i64 k)))], blks := fun _ _ => [], μ := fun _ k => n - k }

def gSzN (a b : Int) (kk : EK) : Entry := fun args H => match args with
  | [.a (.c (.slc id o1 z s len _)), .a (.c (.int .i64 left))] => match getB H id with
    | .nst _ (_, none) o ks s2 L => some (o1 = o ∧ z = 0 ∧ s = 1 ∧ ks = [kk] ∧ s2 = 1 ∧ (L.length : Int) = len ∧ len ≤ 9223372036854775807 ∧ NsR a b L ∧ 0 ≤ left ∧ left ≤ 1048576, .a (.c (.int .i64 (szSS L left))))
    | _ => none
  | _ => none
def gToN (a b : Int) (kk : EK) (T u : TypeId) : EntryC := fun args H K => match args with
  | [.a (.c (.slc id o1 z s len _))] => match getB H id with
    | .nst _ (_, none) o ks s2 L => (o1 = o ∧ z = 0 ∧ s = 1 ∧ ks = [kk] ∧ s2 = 1 ∧ (L.length : Int) = len ∧ NsR a b L ∧ LsL a b (L.map trS)) ∧ withLenP H fun m => K (.a (.c (.slc m 0 0 1 len len))) (H ++ [.nst true (T, (some u : Option TypeId)) 0 [kk] 1 (L.map trS)])
    | _ => Stuck "to"
  | _ => Stuck "to"
open Classical in
noncomputable def gEqN (a b : Int) (kk : EK) (u : TypeId) : Entry := fun args H => match args with
  | [.a (.c (.slc i1 b1 z1 s1 len1 _)), .a (.c (.slc i2 b2 z2 s2 len2 _))] => match getB H i1, getB H i2 with
    | .nst _ t1 o1 k1 r1 L1, .nst _ t2 o2 k2 r2 L2 => some ((b1 = 0 ∧ z1 = 0 ∧ s1 = 1 ∧ b2 = 0 ∧ z2 = 0 ∧ s2 = 1 ∧ (L1.length : Int) = len1 ∧ (L2.length : Int) = len2) ∧ (t1 = t2 ∧ t1.2 = some u ∧ o1 = 0 ∧ o2 = 0 ∧ k1 = [kk] ∧ k2 = [kk] ∧ r1 = 1 ∧ r2 = 1) ∧ L1 = L2 ∧ LsL a b L1, .a (.c (.bool true)))
    | _, _ => none
  | _ => none

end Go.Proofs.YtghphlgfgblbeaaDoor
