/- Words of a text, and pieces: how many, and how long. No function is named. No conditions. -/
import Derived.Test.YtkkfnfhidhoajaaDoorSpl
set_option linter.unusedSimpArgs false
set_option linter.unusedVariables false
namespace Go.Proofs.YtkkfnfhidhoajaaDoor
open Go.Sx Go.RowKit
variable {mx : Nat → Value}

theorem spK_cases (c : UInt8) (n : Nat) (s : ByteArray) (hn : 1 ≤ n) : (spK c n s = wds c s.data.toList ∧ (wds c s.data.toList).length ≤ n) ∨ (n < (wds c s.data.toList).length ∧ ∃ w ∈ spK c n s, c ∈ w) := by
  have hsz := size_list s
  have hl := wds_len_le c s.data.toList
  rcases splitK_wds c (min n (s.size + 1) - 1) s.data.toList with ⟨h1, h2⟩ | ⟨h1, h2⟩
  · exact .inl ⟨h2, by omega⟩
  · exact .inr ⟨by omega, h2⟩
theorem wds_pos (c : UInt8) (l : List UInt8) : 1 ≤ (wds c l).length := List.length_pos_iff.2 (wds_ne c l)
/-! ### Pieces are no longer than the text -/
theorem le_sum : ∀ {V : List (List UInt8)} {w : List UInt8}, w ∈ V → w.length ≤ (V.map List.length).sum
  | a :: V, w, h => by
    rw [List.map_cons, List.sum_cons]
    rcases List.mem_cons.1 h with rfl | h
    · omega
    · have := le_sum h; omega
theorem wds_le {c : UInt8} {l w : List UInt8} (h : w ∈ wds c l) : w.length ≤ l.length := by
  have h1 := le_sum h
  have h2 := wds_sum c l
  have h3 := wds_pos c l
  omega
theorem splitK_mem (c : UInt8) : ∀ k l w, w ∈ Lib.splitK [c] 0 k l → w.length ≤ l.length
  | 0, l, w, h => by
    have : w = l := by simpa [Lib.splitK] using h
    rw [this]; exact Nat.le_refl _
  | k + 1, l, w, h => by
    unfold Lib.splitK at h
    split at h
    · rw [List.mem_singleton.1 h]; exact Nat.le_refl _
    · rcases List.mem_cons.1 h with rfl | h
      · rw [List.length_take]; omega
      · have := splitK_mem c k _ w h
        rw [List.length_drop] at this
        omega
theorem getD_mem {V : List (List UInt8)} {i : Nat} (h : i < V.length) : V.getD i [] ∈ V := by
  rw [List.getD_eq_getElem?_getD, List.getElem?_eq_getElem h, Option.getD_some]; exact List.getElem_mem h
theorem wd_size {c : UInt8} {s : ByteArray} {i : Nat} (h : i < (wds c s.data.toList).length) : (bsl ((wds c s.data.toList).getD i [])).size ≤ s.size := by
  have := wds_le (getD_mem h)
  rw [bsl_size]; rwa [size_list] at this
theorem sp_size {c : UInt8} {n : Nat} {s : ByteArray} {i : Nat} (h : i < (spK c n s).length) : (bsl ((spK c n s).getD i [])).size ≤ s.size := by
  have := splitK_mem _ _ _ _ (getD_mem h)
  rw [bsl_size]; rwa [size_list] at this

/-! ### Records of two numbers, one behind the other -/
theorem mkN_two {k : Nat} {f : Nat → Int} : mkN ((k + 1) * 2) f = mkN (k * 2) f ++ [f (k * 2), f (k * 2 + 1)] := by
  simp [mkN, show (k + 1) * 2 = k * 2 + 1 + 1 by omega, List.range_succ]
/-- One more corner. -/
theorem co_push {f : Nat → Int} {v u : Int} {k N n' : Nat} {L L' : List Int} {cp cp' : Int} (g : Gq 2 k (mkN (k * 2) f) N L cp) (hv : v = f (k * 2)) (hu : u = f (k * 2 + 1)) (h1 : (k : Int) + ((1 : Nat) : Int) ≤ cp') (h2 : n' = cp'.toNat * 2) (h3 : L'.length = n') (h4 : L'.take (((k : Int) + ((1 : Nat) : Int)).toNat * 2) = L.take (k * 2) ++ [v, u]) : Gq 2 (k + 1) (mkN ((k + 1) * 2) f) n' L' cp' := by
  have e : ((k : Int) + ((1 : Nat) : Int)).toNat = k + 1 := by omega
  rw [e] at h4
  rw [mkN_two, ← hv, ← hu]
  exact g.push (by omega) (by omega) h3 h4

end Go.Proofs.YtkkfnfhidhoajaaDoor
