/- Lists of numbers of which slices are made: lemmas that no function is named in. No conditions. -/
import Derived.Test.YtghphlgfgblbeaaDoorBas
set_option linter.unusedSimpArgs false
set_option linter.unusedVariables false
namespace Go.Proofs.YtghphlgfgblbeaaDoor
open Go.Sx Go.RowKit

def mkN (n : Nat) (f : Nat → Int) : List Int := (List.range n).map f

theorem mkN_len (n : Nat) (f : Nat → Int) : (mkN n f).length = n := by simp [mkN]
theorem mkN_get {n : Nat} {f : Nat → Int} {i : Nat} (h : i < n) : (mkN n f)[i]? = some (f i) := by simp [mkN, h]
theorem mkN_getD {n : Nat} {f : Nat → Int} {i : Nat} (h : i < n) : (mkN n f).getD i 0 = f i := by rw [List.getD_eq_getElem?_getD, mkN_get h]; rfl
theorem getD_some' {l : List Int} {i : Nat} (h : i < l.length) : l[i]? = some (l.getD i 0) := by
  rw [List.getD_eq_getElem?_getD, List.getElem?_eq_getElem h]; rfl
theorem mkN_ext {n : Nat} {f : Nat → Int} {l : List Int} (hl : l.length = n) (h : ∀ i, i < n → l.getD i 0 = f i) : l = mkN n f := by
  apply List.ext_getElem?
  intro i
  by_cases hi : i < n
  · rw [mkN_get hi, getD_some' (by omega), h i hi]
  · rw [List.getElem?_eq_none (by omega), List.getElem?_eq_none (by rw [mkN_len]; omega)]
theorem list_ext {l m : List Int} (hl : l.length = m.length) (h : ∀ i, i < m.length → l.getD i 0 = m.getD i 0) : l = m := by
  apply List.ext_getElem?
  intro i
  by_cases hi : i < m.length
  · rw [getD_some' (by omega), getD_some' hi, h i hi]
  · rw [List.getElem?_eq_none (by omega), List.getElem?_eq_none (by omega)]
theorem mkN_zero {n : Nat} {f : Nat → Int} (h : ∀ i, i < n → f i = 0) : List.replicate n 0 = mkN n f :=
  mkN_ext (by rw [List.length_replicate]) fun i hi => by rw [h i hi, List.getD_eq_getElem?_getD, List.getElem?_replicate, if_pos hi]; rfl
theorem mkN_congr {n : Nat} {f g : Nat → Int} (h : ∀ i, i < n → f i = g i) : mkN n f = mkN n g := mkN_ext (mkN_len n f) fun i hi => by rw [mkN_getD hi]; exact h i hi
theorem mkN_set {n : Nat} {f g : Nat → Int} {j : Nat} {x : Int} (hx : j < n → x = g j) (h : ∀ i, i < n → i ≠ j → f i = g i) : (mkN n f).set j x = mkN n g := by
  refine mkN_ext (by simp [mkN_len]) fun i hi => ?_
  rw [List.getD_eq_getElem?_getD, List.getElem?_set]
  by_cases e : j = i
  · subst e; simp [mkN_len, hi, hx hi]
  · rw [if_neg e, mkN_get hi]; exact h i hi (fun e' => e e'.symm)
/-- A piece put in. -/
theorem mkN_put {n : Nat} {f g : Nat → Int} {a : Nat} {xs : List Int} {c : Nat} (hc : c = a + xs.length) (hn : c ≤ n) (h1 : ∀ i, i < n → ¬ (a ≤ i ∧ i < c) → f i = g i) (h2 : ∀ j, j < xs.length → xs.getD j 0 = g (a + j)) :
    (mkN n f).take a ++ xs ++ (mkN n f).drop c = mkN n g := by
  subst hc
  refine mkN_ext (by simp [mkN_len]; omega) fun i hi => ?_
  rw [List.getD_eq_getElem?_getD]
  by_cases c1 : i < a
  · rw [List.append_assoc, List.getElem?_append_left (by simp [mkN_len]; omega), List.getElem?_take_of_lt c1, mkN_get hi]
    exact h1 i hi (by omega)
  · by_cases c2 : i < a + xs.length
    · rw [List.getElem?_append_left (by simp [mkN_len]; omega), List.getElem?_append_right (by simp [mkN_len]; omega)]
      have e : (List.take a (mkN n f)).length = a := by rw [List.length_take, mkN_len]; omega
      rw [e, ← List.getD_eq_getElem?_getD, h2 _ (by omega)]
      congr 1; omega
    · rw [List.getElem?_append_right (by simp [mkN_len]; omega)]
      have e : (List.take a (mkN n f) ++ xs).length = a + xs.length := by rw [List.length_append, List.length_take, mkN_len]; omega
      rw [e, List.getElem?_drop, show a + xs.length + (i - (a + xs.length)) = i by omega, mkN_get hi]
      exact h1 i hi (by omega)
theorem take_mkN {n : Nat} {l : List Int} (h : n ≤ l.length) : l.take n = mkN n (fun i => l.getD i 0) :=
  mkN_ext (by simp; omega) fun i hi => by rw [List.getD_eq_getElem?_getD, List.getElem?_take_of_lt hi, ← List.getD_eq_getElem?_getD]
theorem getD_take' {l : List Int} {n i : Nat} (h : i < n) : (l.take n).getD i 0 = l.getD i 0 := by
  rw [List.getD_eq_getElem?_getD, List.getElem?_take_of_lt h, ← List.getD_eq_getElem?_getD]
theorem getD_drop' {l : List Int} {n i : Nat} : (l.drop n).getD i 0 = l.getD (n + i) 0 := by
  rw [List.getD_eq_getElem?_getD, List.getElem?_drop, ← List.getD_eq_getElem?_getD]
/-- Lists that are compared from the beginning on. -/
theorem beq_lists {l m : List Int} {n : Nat} (hl : l.length = n) (hm : m.length = n) : (l == m) = decide (∀ i, i < n → l.getD i 0 = m.getD i 0) := by
  rw [Bool.eq_iff_iff, beq_iff_eq, decide_eq_true_eq]
  constructor
  · rintro rfl _ _; rfl
  · intro h; exact list_ext (by omega) fun i hi => h i (by omega)
theorem i16w {z : Int} (h1 : -32768 ≤ z) (h2 : z ≤ 32767) : IntKind.i16.wrap z = z := by
  simp [IntKind.wrap, IntKind.signed, IntKind.bits]; omega
theorem i8w {z : Int} (h1 : -128 ≤ z) (h2 : z ≤ 127) : IntKind.i8.wrap z = z := by
  simp [IntKind.wrap, IntKind.signed, IntKind.bits]; omega
theorem u8w {z : Int} (h1 : 0 ≤ z) (h2 : z ≤ 255) : IntKind.u8.wrap z = z := by
  simp [IntKind.wrap, IntKind.signed, IntKind.bits]; omega

/-- Two slices compared: by their lengths and their first numbers. -/
def eqSl (s : Nat) (n m : Int) (l k : List Int) : Bool := decide (n = m) && (l.take (n.toNat * s) == k.take (m.toNat * s))

theorem eqSl_ne {s : Nat} {n m : Int} {l k : List Int} (h : n ≠ m) : eqSl s n m l k = false := by simp [eqSl, h]
theorem eqSl_no {s : Nat} {n m : Int} {l k : List Int} {i : Nat} (hi : i < n.toNat * s) (h : l.getD i 0 ≠ k.getD i 0) : eqSl s n m l k = false := by
  unfold eqSl
  by_cases e : n = m
  · subst e
    simp only [decide_true, Bool.true_and, beq_eq_false_iff_ne]
    intro he
    have := congrArg (fun z => z.getD i 0) he
    simp only [getD_take' hi] at this
    exact h this
  · simp [e]
theorem eqSl_yes {s : Nat} {n m : Int} {l k : List Int} (e : n = m) (hl : n.toNat * s ≤ l.length) (hk : m.toNat * s ≤ k.length) (h : ∀ i, i < n.toNat * s → l.getD i 0 = k.getD i 0) : eqSl s n m l k = true := by
  subst e
  simp only [eqSl, decide_true, Bool.true_and, beq_iff_eq]
  exact list_ext (by simp; omega) fun i hi => by
    have hi' : i < n.toNat * s := by simp at hi; omega
    rw [getD_take' hi', getD_take' hi', h i hi']
theorem eqSl_self {s : Nat} {n : Int} {l k : List Int} (h : l.take (n.toNat * s) = k.take (n.toNat * s)) : eqSl s n n l k = true := by simp [eqSl, h]

/-- A slice that came in: its window. -/
structure WS (ks : List IntKind) (s n : Nat) (l : List Int) (len cap : Int) : Prop where
  h0 : 0 ≤ len
  hm : len ≤ 9223372036854775807
  hc : len ≤ cap
  hn : len.toNat * s ≤ n
  hl : l.length = n
  wf : ∀ j, j < n → (Lit.int (ks.getD (j % ks.length) .i64) (l.getD j 0)).wf = true

/-- What is left of a bound, or -1. -/
def szF (left len : Int) : Int := if left - len < 0 then -1 else left - len
theorem szF_pos {left len : Int} (h : ¬ szF left len < 0) : szF left len = left - len ∧ 0 ≤ left - len := by
  unfold szF at h ⊢
  split at h
  · omega
  · rename_i hh; exact ⟨by rw [if_neg hh], by omega⟩
theorem take_len {l : List Int} {n : Nat} (h : n ≤ l.length) : (l.take n).length = n := by simp; omega

/-- The head of a loop that compares two slices. -/
def lmEq (t s : Nat) (n : Int) (l m : List Int) : LAnn := { ι := Nat, inv := fun _ k => k ≤ n.toNat ∧ ∀ i, i < k * s → l.getD i 0 = m.getD i 0, slots := fun _ k => [(t, .a (.c (.int .i64 k)))], blks := fun _ k => [], μ := fun _ k => n.toNat - k }

end Go.Proofs.YtghphlgfgblbeaaDoor
