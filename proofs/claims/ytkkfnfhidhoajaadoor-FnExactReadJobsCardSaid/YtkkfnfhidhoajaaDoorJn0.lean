/- Words put together: the mathematics. No function is named. No conditions. -/
import Derived.Test.YtkkfnfhidhoajaaDoorWds
set_option linter.unusedSimpArgs false
set_option linter.unusedVariables false
namespace Go.Proofs.YtkkfnfhidhoajaaDoor
open Go.Sx Go.RowKit
variable {mx : Nat → Value}

theorem str_nil (s : ByteArray) : (s.toList == (ByteArray.mk #[]).toList) = decide (s.size = 0) := by
  have e : s.size = s.data.toList.length := (Array.length_toList : s.data.toList.length = s.size).symm
  rw [ByteArray.toList_eq, ByteArray.toList_eq, e]
  show (s.data.toList == []) = _
  cases s.data.toList <;> rfl

/-! ### Words put together -/
theorem jnL_cons (f : Nat → List UInt8) (sep : List UInt8) : ∀ (n : Nat), 1 ≤ n → jnL f sep (n + 1) = f 0 ++ (sep ++ jnL (fun i => f (i + 1)) sep n)
  | 1, _ => rfl
  | n + 2, _ => by
    rw [jnL_succ _ _ (by omega), jnL_cons f sep (n + 1) (by omega), jnL_succ (fun i => f (i + 1)) sep (k := n + 1) (by omega)]
    simp only [List.append_assoc]
/-- Words without the byte, put together by it and parted again. -/
theorem wds_jnL {c : UInt8} : ∀ (n : Nat) (f : Nat → List UInt8), 1 ≤ n → (∀ i, i < n → c ∉ f i) → wds c (jnL f [c] n) = (List.range n).map f
  | 1, f, _, h => by
    rw [jnL_one, wds_free (h 0 (by omega))]; rfl
  | n + 2, f, _, h => by
    rw [jnL_cons f [c] (n + 1) (by omega), List.singleton_append, wds_app (h 0 (by omega)), wds_jnL (n + 1) (fun i => f (i + 1)) (by omega) fun i hi => h (i + 1) (by omega)]
    have e : (List.range (n + 2)).map f = f 0 :: (List.range (n + 1)).map (fun i => f (i + 1)) := by rw [List.range_succ_eq_map, List.map_cons, List.map_map]; rfl
    rw [e]
/-- A text is its words put together. -/
theorem jnL_wds (c : UInt8) : ∀ (l : List UInt8), jnL (fun i => (wds c l).getD i []) [c] (wds c l).length = l
  | [] => rfl
  | b :: l => by
    have ih := jnL_wds c l
    by_cases h : b = c
    · subst h
      obtain ⟨k, hk⟩ : ∃ k, (wds b l).length = k + 1 := ⟨(wds b l).length - 1, by have := List.length_pos_iff.2 (wds_ne b l); omega⟩
      rw [wds_hit, List.length_cons, jnL_cons _ _ _ (by omega)]
      exact congrArg (b :: ·) ih
    · obtain ⟨w, ws, e1, e2⟩ := wds_miss h l
      rw [e1] at ih
      rw [e2]
      match ws with
      | [] =>
        have ih : w = l := ih
        rw [ih]; rfl
      | v :: ws =>
        rw [List.length_cons, List.length_cons, jnL_cons _ _ _ (by omega)] at ih ⊢
        exact congrArg (b :: ·) ih

end Go.Proofs.YtkkfnfhidhoajaaDoor
