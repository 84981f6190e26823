/- What is written of bars: mathematics. No conditions beyond the ranges of the kinds. -/
import Derived.Test.YtghphlgfgblbeaaDoorGqs
import Derived.Test.YtghphlgfgblbeaaDoorNl2
import Derived.Test.YtghphlgfgblbeaaDoorDec
set_option linter.unusedSimpArgs false
set_option linter.unusedVariables false
namespace Go.Proofs.YtghphlgfgblbeaaDoor
open Go.Sx Go.RowKit

noncomputable def ILn  : List (FuncId × Func × (Nat → LM)) := [
  ]
theorem ILn_ok  : InlsOk Tryd.prog ILn := trivial

/-- Bars as they are made. -/
structure BsL (L : List (Nat × List Int)) : Prop where
  ls : LsL (-9223372036854775808) 9223372036854775807 L
  sm : (smN L : Int) ≤ 1048576

/-- All of the first k lists, one behind the other. -/
def catL (L : List (Nat × List Int)) : Nat → List Int
  | 0 => []
  | k + 1 => catL L k ++ (stC L k).take (stN L k)
theorem sm_split {L : List (Nat × List Int)} {k n : Nat} {l : List Int} (h : L[k]? = some (n, l)) : smN (L.drop k) = n + smN (L.drop (k + 1)) := by
  rw [drop_some h, smN, smN, List.map_cons, List.sum_cons]
theorem cat_len {L : List (Nat × List Int)} (hL : BsL L) : ∀ {k : Nat}, k ≤ L.length → (catL L k).length + smN (L.drop k) = smN L
  | 0, _ => by simp [catL]
  | k + 1, hk => by
    have ih := cat_len hL (k := k) (by omega)
    have hj : L[k]? = some (stN L k, stC L k) := by
      rw [stN, stC, List.getElem?_eq_getElem (by omega), List.getD_eq_getElem?_getD, List.getElem?_eq_getElem (by omega)]; rfl
    have h2 := (hL.ls.en k _ _ hj).2.1
    rw [sm_split hj] at ih
    rw [catL, List.length_append, List.length_take, h2, Nat.min_self]
    omega
theorem cat_le {L : List (Nat × List Int)} (hL : BsL L) {k : Nat} (hk : k ≤ L.length) : ((catL L k).length : Int) ≤ 1048576 := by
  have := cat_len hL hk
  have := hL.sm
  omega

/-- A bar's first pieces, as the document writes them. -/
def pcT (l : List Int) : Nat → List UInt8
  | 0 => []
  | k + 1 => pcT l k ++ ((if 0 < k then [32] else []) ++ Lib.itoa (l.getD k 0))
/-- A bar's first pieces, as the program writes them: each with the byte behind it. -/
def pcI (l : List Int) (n : Nat) : Nat → List UInt8
  | 0 => []
  | k + 1 => pcI l n k ++ Lib.itoa (l.getD k 0) ++ [if k + 1 = n then 10 else 32]
/-- The bars ahead. -/
def brT (L : List (Nat × List Int)) : Nat → List UInt8
  | 0 => []
  | i + 1 => brT L i ++ (pcT (stC L i) (stN L i) ++ [10])
theorem pcI_at {l : List Int} {n : Nat} : ∀ {k : Nat}, k < n → pcI l n k = pcT l k ++ (if 0 < k then [32] else [])
  | 0, _ => rfl
  | k + 1, h => by
    rw [pcI, pcI_at (k := k) (by omega), pcT, if_neg (show ¬ k + 1 = n by omega), if_pos (Nat.succ_pos k)]
    simp only [List.append_assoc]
theorem pcI_end {l : List Int} {n : Nat} (h : 0 < n) : pcI l n n = pcT l n ++ [10] := by
  obtain ⟨k, rfl⟩ : ∃ k, n = k + 1 := ⟨n - 1, by omega⟩
  rw [pcI, pcI_at (Nat.lt_succ_self k), pcT, if_pos rfl]
  simp only [List.append_assoc]
/-- The bytes as numbers. -/
def toI (l : List UInt8) : List Int := l.map fun b => (b.toNat : Int)
theorem toI_len (l : List UInt8) : (toI l).length = l.length := by rw [toI, List.length_map]
theorem toI_app (a b : List UInt8) : toI (a ++ b) = toI a ++ toI b := by rw [toI, toI, toI, List.map_append]
theorem toI_str (l : List UInt8) : strI (bsl l) = toI l := rfl
theorem toI_b (l : List UInt8) : ∀ x ∈ toI l, 0 ≤ x ∧ x ≤ 255 := fun x hx => by
  obtain ⟨b, _, rfl⟩ := List.mem_map.1 hx
  have := b.toNat_lt
  omega
theorem toI_back (l : List UInt8) : (toI l).map (fun x => UInt8.ofNat x.toNat) = l := by
  rw [toI, List.map_map]
  conv => rhs; rw [← List.map_id l]
  refine List.map_congr_left fun b _ => ?_
  simp
/-- What is asked of bars that are written. -/
def okPc (x : Int) : Prop := 0 ≤ x ∧ x ≤ 13
def okBar (L : List (Nat × List Int)) (i : Nat) : Prop := 0 < stN L i ∧ ∀ k, k < stN L i → okPc ((stC L i).getD k 0)
def WrP (L : List (Nat × List Int)) : Prop := ∀ i, i < L.length → okBar L i
open Classical in
noncomputable def wrB (L : List (Nat × List Int)) : Bool := decide (WrP L)
noncomputable def btS (L : List (Nat × List Int)) : ByteArray := if wrB L then bsl (brT L L.length) else bsl []
theorem wrB_t {L : List (Nat × List Int)} : wrB L = true ↔ WrP L := by simp [wrB]
theorem bt_no {L : List (Nat × List Int)} (h : ¬ WrP L) : bsl [] = btS L := by
  rw [btS, if_neg]; rw [wrB_t]; exact h
theorem bt_ok {L : List (Nat × List Int)} (h : WrP L) : bsl (brT L L.length) = btS L := by
  rw [btS, if_pos (wrB_t.2 h)]
theorem pcT_len {l : List Int} {n : Nat} (h : ∀ i, i < n → -9223372036854775808 ≤ l.getD i 0 ∧ l.getD i 0 ≤ 9223372036854775807) : ∀ {k : Nat}, k ≤ n → (pcT l k).length ≤ 21 * k
  | 0, _ => Nat.le_refl _
  | k + 1, hk => by
    have ih := pcT_len h (k := k) (by omega)
    have hb := h k (by omega)
    have := itoa_len (n := l.getD k 0) hb.1 hb.2
    rw [pcT, List.length_append, List.length_append]
    split
    · rw [List.length_singleton]; omega
    · rw [List.length_nil]; omega
theorem pcI_len {l : List Int} {n : Nat} (h : ∀ i, i < n → -9223372036854775808 ≤ l.getD i 0 ∧ l.getD i 0 ≤ 9223372036854775807) : ∀ {k : Nat}, k ≤ n → (pcI l n k).length ≤ 21 * k
  | 0, _ => Nat.le_refl _
  | k + 1, hk => by
    have ih := pcI_len h (k := k) (by omega)
    have hb := h k (by omega)
    have := itoa_len (n := l.getD k 0) hb.1 hb.2
    rw [pcI, List.length_append, List.length_append, List.length_singleton]; omega
theorem brT_len {L : List (Nat × List Int)} (hL : BsL L) : ∀ {i : Nat}, i ≤ L.length → (brT L i).length ≤ 21 * (catL L i).length + i
  | 0, _ => Nat.le_refl _
  | i + 1, hi => by
    have ih := brT_len hL (i := i) (by omega)
    have hj : L[i]? = some (stN L i, stC L i) := by
      rw [stN, stC, List.getElem?_eq_getElem (by omega), List.getD_eq_getElem?_getD, List.getElem?_eq_getElem (by omega)]; rfl
    obtain ⟨q0, q1, q2⟩ := hL.ls.en i _ _ hj
    have := pcT_len (l := stC L i) (n := stN L i) (fun x hx => by have := q2 x hx; omega) (Nat.le_refl _)
    rw [brT, catL, List.length_append, List.length_append, List.length_append, List.length_singleton, List.length_take, q1, Nat.min_self]
    omega
theorem br_bd {L : List (Nat × List Int)} (hL : BsL L) {i : Nat} (hi : i ≤ L.length) : (brT L i).length ≤ 23068672 := by
  have := brT_len hL hi
  have := cat_le hL hi
  have := hL.ls.lo
  omega

end Go.Proofs.YtghphlgfgblbeaaDoor
