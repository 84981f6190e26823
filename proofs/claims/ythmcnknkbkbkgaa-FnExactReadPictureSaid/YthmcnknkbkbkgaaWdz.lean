/- Words of a text, and pieces: how many, and how long. No function is named. No conditions. -/
import Derived.Test.YthmcnknkbkbkgaaSpl
set_option linter.unusedSimpArgs false
set_option linter.unusedVariables false
namespace Go.Proofs.Ythmcnknkbkbkgaa
open Go.Sx Go.RowKit

theorem wds_pos (c : UInt8) (l : List UInt8) : 1 ≤ (wds c l).length := List.length_pos_iff.2 (wds_ne c l)
/-! ### Pieces are no longer than the text -/
theorem le_sum : ∀ {V : List (List UInt8)} {w : List UInt8}, w ∈ V → w.length ≤ (V.map List.length).sum
  | a :: V, w, h => by
    rw [List.map_cons, List.sum_cons]
    rcases List.mem_cons.1 h with rfl | h
    · omega
    · have := le_sum h; omega
theorem wds_le {c : UInt8} {l w : List UInt8} (h : w ∈ wds c l) : w.length ≤ l.length := by
  have h1 := le_sum h
  have h2 := wds_sum c l
  have h3 := wds_pos c l
  omega
theorem splitK_mem (c : UInt8) : ∀ k l w, w ∈ Lib.splitK [c] 0 k l → w.length ≤ l.length
  | 0, l, w, h => by
    have : w = l := by simpa [Lib.splitK] using h
    rw [this]; exact Nat.le_refl _
  | k + 1, l, w, h => by
    unfold Lib.splitK at h
    split at h
    · rw [List.mem_singleton.1 h]; exact Nat.le_refl _
    · rcases List.mem_cons.1 h with rfl | h
      · rw [List.length_take]; omega
      · have := splitK_mem c k _ w h
        rw [List.length_drop] at this
        omega
theorem getD_mem {V : List (List UInt8)} {i : Nat} (h : i < V.length) : V.getD i [] ∈ V := by
  rw [List.getD_eq_getElem?_getD, List.getElem?_eq_getElem h, Option.getD_some]; exact List.getElem_mem h
theorem wd_size {c : UInt8} {s : ByteArray} {i : Nat} (h : i < (wds c s.data.toList).length) : (bsl ((wds c s.data.toList).getD i [])).size ≤ s.size := by
  have := wds_le (getD_mem h)
  rw [bsl_size]; rwa [size_list] at this

end Go.Proofs.Ythmcnknkbkbkgaa
