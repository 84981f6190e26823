/- Strings as lists of bytes; decimal numerals and joined words as the shelf's contracts tell them. No conditions beyond the ranges of the kinds. -/
import Derived.Test.YthnblkmfohcglaaI64
import Derived.Lib.Join
import Derived.Lib.ItoaNum
import Derived.WalkSmall
set_option linter.unusedSimpArgs false
set_option linter.unusedVariables false
namespace Go.Proofs.Ythnblkmfohcglaa
open Go.Sx Go.RowKit


/-- A string by its bytes. -/
def bsl (l : List UInt8) : ByteArray := ⟨l.toArray⟩
theorem bsl_app (a b : List UInt8) : bsl a ++ bsl b = bsl (a ++ b) := by
  have : (bsl a ++ bsl b).data = (bsl (a ++ b)).data := by
    rw [show (bsl a ++ bsl b).data = (bsl a).data ++ (bsl b).data from ByteArray.data_append ..]
    simp [bsl]
  cases h1 : bsl a ++ bsl b with | mk d1 => cases h2 : bsl (a ++ b) with | mk d2 => rw [h1, h2] at this; exact congrArg ByteArray.mk this
theorem bsl_size (a : List UInt8) : (bsl a).size = a.length := by simp [bsl, ByteArray.size]
theorem bsl_list (a : List UInt8) : (bsl a).data.toList = a := rfl
theorem bsl_of (s : ByteArray) : bsl s.data.toList = s := rfl
theorem bsl_empty : ByteArray.empty = bsl [] := rfl
theorem bsl_nil : (⟨#[]⟩ : ByteArray) = bsl [] := rfl
theorem bstr_bsl : ∀ l : List Int, bstr l = bsl (l.map fun n => UInt8.ofNat n.toNat) := by
  suffices h : ∀ (l : List Int) (a : ByteArray), l.foldl (fun r n => r.push (UInt8.ofNat n.toNat)) a = a ++ bsl (l.map fun n => UInt8.ofNat n.toNat) by
    intro l
    rw [bstr, h, bsl_empty, bsl_app, List.nil_append]
  intro l
  induction l with
  | nil => intro a; rw [List.foldl_nil, List.map_nil, ← bsl_of a, bsl_app, List.append_nil]
  | cons n r ih =>
    intro a
    rw [List.foldl_cons, ih, List.map_cons, ← bsl_of a]
    have e : (bsl a.data.toList).push (UInt8.ofNat n.toNat) = bsl (a.data.toList ++ [UInt8.ofNat n.toNat]) := by
      simp only [bsl, ByteArray.push, ByteArray.mk.injEq]
      exact Array.toList_inj.1 (by simp)
    rw [e, bsl_app, bsl_app, List.append_assoc]; rfl

/-! ### Numerals -/
def itoaS (n : Int) : ByteArray := bsl (Lib.itoa n)
theorem itoa_nat (n : Nat) : Lib.itoa (n : Int) = Lib.decDigits n := by
  rw [Lib.itoa, if_neg (by omega), Int.toNat_natCast]
theorem itoa_one {n : Int} (h : 0 ≤ n) (h2 : n < 10) : Lib.itoa n = [UInt8.ofNat (48 + n).toNat] := by
  obtain ⟨k, rfl⟩ := Int.eq_ofNat_of_zero_le h
  rw [itoa_nat, Lib.decDigits, dif_pos (by omega), show (48 + (k : Int)).toNat = 48 + k by omega]
theorem itoa_more {n : Int} (h : 10 ≤ n) : Lib.itoa n = Lib.itoa (n / 10) ++ [UInt8.ofNat (48 + n % 10).toNat] := by
  obtain ⟨k, rfl⟩ := Int.eq_ofNat_of_zero_le (show 0 ≤ n by omega)
  rw [itoa_nat, Lib.decDigits, dif_neg (by omega), show ((k : Int) / 10) = ((k / 10 : Nat) : Int) by omega, itoa_nat, show (48 + (k : Int) % 10).toNat = 48 + k % 10 by omega]
theorem itoa_neg {n : Int} (h : n < 0) : Lib.itoa n = 45 :: Lib.itoa (-n) := by
  rw [Lib.itoa, if_pos h, Lib.itoa, if_neg (by omega), show (-n).toNat = n.natAbs by omega]
theorem nDig_le : ∀ (k u : Nat), u < 10 ^ (k + 1) → Lib.nDigits u ≤ k + 1
  | 0, u, h => by rw [Lib.nDigits_small (by simpa using h)]; omega
  | k + 1, u, h => by
    by_cases c : u < 10
    · rw [Lib.nDigits_small c]; omega
    · rw [Lib.nDigits_big c]
      have := nDig_le k (u / 10) (by rw [Nat.pow_succ] at h; omega)
      omega
theorem itoa_len {n : Int} (h : -9223372036854775808 ≤ n) (h2 : n ≤ 9223372036854775807) : (Lib.itoa n).length ≤ 20 := by
  unfold Lib.itoa
  split
  · rw [List.length_cons, Lib.decDigits_length]
    have := nDig_le 18 n.natAbs (by omega)
    omega
  · rw [Lib.decDigits_length]
    have := nDig_le 18 n.toNat (by omega)
    omega


/-! ### Words -/
def wordsL (l : List Int) : List (List UInt8) := l.map fun n => (decS n).data.toList
def joinS (l : List Int) (sep : ByteArray) : ByteArray := bsl (Lib.join (wordsL l) sep.data.toList)
/-- Words, one behind the other, with a separator between. -/
def jnL (W : Nat → List UInt8) (sep : List UInt8) : Nat → List UInt8
  | 0 => []
  | 1 => W 0
  | k + 2 => jnL W sep (k + 1) ++ (sep ++ W (k + 1))
theorem jnL_one (W : Nat → List UInt8) (sep : List UInt8) : jnL W sep 1 = W 0 := rfl
theorem jnL_succ (W : Nat → List UInt8) (sep : List UInt8) {k : Nat} (h : 1 ≤ k) : jnL W sep (k + 1) = jnL W sep k ++ (sep ++ W k) := by
  obtain ⟨k, rfl⟩ := Nat.exists_eq_add_of_le' h
  rfl
theorem jnL_len {W : Nat → List UInt8} {sep : List UInt8} {c n : Nat} (h : ∀ i, i < n → (W i).length + sep.length ≤ c) : ∀ {k : Nat}, k ≤ n → (jnL W sep k).length ≤ c * k
  | 0, _ => Nat.zero_le _
  | 1, hk => by have := h 0 (by omega); rw [jnL_one]; omega
  | k + 2, hk => by
    have h1 := jnL_len h (k := k + 1) (by omega)
    have h2 := h (k + 1) (by omega)
    rw [jnL, List.length_append, List.length_append, Nat.mul_succ c (k + 1)]
    omega
theorem jnL_congr {W V : Nat → List UInt8} {sep : List UInt8} {n : Nat} (h : ∀ i, i < n → W i = V i) : ∀ {k : Nat}, k ≤ n → jnL W sep k = jnL V sep k
  | 0, _ => rfl
  | 1, hk => h 0 (by omega)
  | k + 2, hk => by rw [jnL, jnL, jnL_congr h (by omega), h (k + 1) (by omega)]
theorem join_range (W : Nat → List UInt8) (sep : List UInt8) : ∀ n, Lib.join ((List.range n).map W) sep = jnL W sep n
  | 0 => rfl
  | 1 => Lib.join_one _ _
  | n + 2 => by
    have ih := join_range W sep (n + 1)
    rw [jnL, ← ih, List.range_succ (n := n + 1), List.map_append]
    have e : (List.range (n + 1)).map W = W 0 :: (List.range n).map fun i => W (i + 1) := by
      rw [List.range_succ_eq_map, List.map_cons, List.map_map]; rfl
    rw [e, List.cons_append, Lib.join_cons, Lib.join_cons, List.append_assoc]
    congr 1
    simp [Lib.joinTail]
theorem wordsL_mk (W : Nat → List UInt8) (n : Nat) : wordsL (mkN n fun i => encS (bsl (W i))) = (List.range n).map W := by
  simp only [wordsL, mkN, List.map_map]
  refine List.map_congr_left fun i _ => ?_
  simp only [Function.comp, decS_encS, bsl_list]
/-- What the contract of joined words is asked at a list of words that is whole. -/
theorem words_whole {W : Nat → List UInt8} {n : Nat} {f : Nat → Int} (h : ∀ i, i < n → f i = encS (bsl (W i))) : wordsL (List.take n (mkN n f)) = (List.range n).map W := by
  rw [List.take_of_length_le (by rw [mkN_len]; omega), mkN_congr h, wordsL_mk]

end Go.Proofs.Ythnblkmfohcglaa

