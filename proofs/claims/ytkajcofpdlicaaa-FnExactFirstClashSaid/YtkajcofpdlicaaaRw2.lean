/- Rows: their lengths, and stones that cover a place, both sides. No conditions beyond the ranges of the kinds. -/
import Derived.Test.YtkajcofpdlicaaaRw1
set_option linter.unusedSimpArgs false
set_option linter.unusedVariables false
namespace Go.Proofs.Ytkajcofpdlicaaa
open Go.Sx Go.RowKit

/-- The sum of the first numbers. -/
def smF (l : List Int) : Nat → Int
  | 0 => 0
  | k + 1 => smF l k + l.getD k 0
theorem sm_bd {n : Nat} {l : List Int} (h : InP 1 200 n l) : ∀ {k : Nat}, k ≤ n → (k : Int) ≤ smF l k ∧ smF l k ≤ 200 * (k : Int)
  | 0, _ => ⟨Int.le_refl 0, Int.le_refl 0⟩
  | k + 1, hk => by
    have := sm_bd h (k := k) (by omega)
    have := h.ok k (by omega)
    rw [smF]; omega
/-- Where stones begin. -/
def atF (seam : Int) (l : List Int) : Nat → Int
  | 0 => 0
  | k + 1 => atF seam l k + l.getD k 0 + seam
theorem at_bd {n : Nat} {l : List Int} {seam : Int} (h : InP 1 200 n l) (hs : 0 ≤ seam ∧ seam ≤ 200) : ∀ {k : Nat}, k ≤ n → 0 ≤ atF seam l k ∧ atF seam l k ≤ 400 * (k : Int)
  | 0, _ => ⟨Int.le_refl 0, Int.le_refl 0⟩
  | k + 1, hk => by
    have := at_bd h hs (k := k) (by omega)
    have := h.ok k (by omega)
    rw [atF]; omega

/-- The code of a row and a seam. -/
noncomputable def asE (n : Nat) (l : List Int) (seam : Int) : Int := if rwB n l then (if 0 ≤ seam ∧ seam ≤ 200 then 0 else 2) else 1
theorem asE_1 {n : Nat} {l : List Int} {seam : Int} (h : rwB n l = false) : asE n l seam = 1 := by simp [asE, h]
theorem asE_2 {n : Nat} {l : List Int} {seam : Int} (h : rwB n l = true) (hs : ¬ (0 ≤ seam ∧ seam ≤ 200)) : asE n l seam = 2 := by rw [asE, if_pos h, if_neg hs]
theorem asE_0 {n : Nat} {l : List Int} {seam : Int} (h : rwB n l = true) (hs : 0 ≤ seam ∧ seam ≤ 200) : asE n l seam = 0 := by rw [asE, if_pos h, if_pos hs]

/-! ### LengthOf -/
noncomputable def lnV (n : Nat) (l : List Int) (seam : Int) : Int := if asE n l seam = 0 then ((n : Int) - 1) * seam + smF l n else 0
theorem ln_1 {n : Nat} {l : List Int} {seam : Int} (h : rwB n l = false) : 0 = lnV n l seam ∧ 1 = asE n l seam := by rw [lnV, asE_1 h, if_neg (by omega)]; exact ⟨rfl, rfl⟩
theorem ln_2 {n : Nat} {l : List Int} {seam : Int} (h : rwB n l = true) (hs : ¬ (0 ≤ seam ∧ seam ≤ 200)) : 0 = lnV n l seam ∧ 2 = asE n l seam := by rw [lnV, asE_2 h hs, if_neg (by omega)]; exact ⟨rfl, rfl⟩
theorem ln_0 {n : Nat} {l : List Int} {seam : Int} (h : rwB n l = true) (hs : 0 ≤ seam ∧ seam ≤ 200) : ((n : Int) - 1) * seam + smF l n = lnV n l seam ∧ 0 = asE n l seam := by rw [lnV, asE_0 h hs, if_pos rfl]; exact ⟨rfl, rfl⟩

def lmLn (ts ti : Nat) (z : Int) (n : Nat) (l : List Int) : LAnn := { ι := Nat, inv := fun _ k => k ≤ n, slots := fun _ k => [(ts, .a (.c (.int .i64 (z + smF l k)))), (ti, .a (.c (.int .i64 k)))], blks := fun _ _ => [], μ := fun _ k => n - k }

/-! ### StoneOver -/
/-- The first stone that covers a place, or n. -/
def ovN (seam place : Int) (l : List Int) (n : Nat) : Nat := ((List.range n).find? fun k => decide (atF seam l k ≤ place ∧ place < atF seam l k + l.getD k 0)).getD n
theorem ov_no {seam place : Int} {l : List Int} {n : Nat} (h : ∀ j, j < n → ¬ (atF seam l j ≤ place ∧ place < atF seam l j + l.getD j 0)) : ovN seam place l n = n := by
  have e : (List.range n).find? (fun k => decide (atF seam l k ≤ place ∧ place < atF seam l k + l.getD k 0)) = none := by
    rw [List.find?_eq_none]; intro k hk
    have := h k (List.mem_range.1 hk)
    simpa using this
  rw [ovN, e]; rfl
theorem ov_at {seam place : Int} {l : List Int} {n k : Nat} (hk : k < n) (h : ∀ j, j < k → ¬ (atF seam l j ≤ place ∧ place < atF seam l j + l.getD j 0)) (hh : atF seam l k ≤ place ∧ place < atF seam l k + l.getD k 0) : ovN seam place l n = k := by
  have e : (List.range n).find? (fun k => decide (atF seam l k ≤ place ∧ place < atF seam l k + l.getD k 0)) = some k := by
    rw [List.find?_range_eq_some]
    refine ⟨by simpa using hh, by simpa using hk, fun j hj => ?_⟩
    have := h j hj
    rw [Bool.not_eq_true', decide_eq_false_iff_not]; exact this
  rw [ovN, e]; rfl
noncomputable def soE (n : Nat) (l : List Int) (seam place : Int) : Int := if asE n l seam = 0 then (if ovN seam place l n < n then 0 else 6) else asE n l seam
noncomputable def soV (n : Nat) (l : List Int) (seam place : Int) : Int := if soE n l seam place = 0 then (ovN seam place l n : Int) else 0
theorem so_1 {n : Nat} {l : List Int} {seam place : Int} (h : rwB n l = false) : 0 = soV n l seam place ∧ 1 = soE n l seam place := by
  have e : soE n l seam place = 1 := by rw [soE, asE_1 h, if_neg (by omega)]
  rw [soV, e, if_neg (by omega)]; exact ⟨rfl, rfl⟩
theorem so_2 {n : Nat} {l : List Int} {seam place : Int} (h : rwB n l = true) (hs : ¬ (0 ≤ seam ∧ seam ≤ 200)) : 0 = soV n l seam place ∧ 2 = soE n l seam place := by
  have e : soE n l seam place = 2 := by rw [soE, asE_2 h hs, if_neg (by omega)]
  rw [soV, e, if_neg (by omega)]; exact ⟨rfl, rfl⟩
theorem so_no {n : Nat} {l : List Int} {seam place : Int} (h : rwB n l = true) (hs : 0 ≤ seam ∧ seam ≤ 200) (hh : ∀ j, j < n → ¬ (atF seam l j ≤ place ∧ place < atF seam l j + l.getD j 0)) : 0 = soV n l seam place ∧ 6 = soE n l seam place := by
  have e : soE n l seam place = 6 := by rw [soE, asE_0 h hs, if_pos rfl, ov_no hh, if_neg (by omega)]
  rw [soV, e, if_neg (by omega)]; exact ⟨rfl, rfl⟩
theorem so_at {n k : Nat} {l : List Int} {seam place : Int} (h : rwB n l = true) (hs : 0 ≤ seam ∧ seam ≤ 200) (hk : k < n) (hh : ∀ j, j < k → ¬ (atF seam l j ≤ place ∧ place < atF seam l j + l.getD j 0)) (hc : atF seam l k ≤ place ∧ place < atF seam l k + l.getD k 0) : (k : Int) = soV n l seam place ∧ 0 = soE n l seam place := by
  have e : soE n l seam place = 0 := by rw [soE, asE_0 h hs, if_pos rfl, ov_at hk hh hc, if_pos hk]
  rw [soV, e, if_pos rfl, ov_at hk hh hc]; exact ⟨rfl, rfl⟩

structure SoP (seam place : Int) (l : List Int) (n k : Nat) : Prop where
  le : k ≤ n
  no : ∀ j, j < k → ¬ (atF seam l j ≤ place ∧ place < atF seam l j + l.getD j 0)
def lmSo (seam place : Int) (n : Nat) (l : List Int) : LAnn := { ι := Nat, inv := fun _ k => SoP seam place l n k, slots := fun _ k => [(9, .a (.c (.int .i64 (atF seam l k)))), (10, .a (.c (.int .i64 k)))], blks := fun _ _ => [], μ := fun _ k => n - k }

def gRwA (R : Nat → List Int → Int → LV) : Entry := fun args H => match args with
  | [.a (.c (.slc id b z s len _)), .a (.c (.int .i64 x))] => match getB H id with
    | .cells _ t [.run ks n l] => some ((t = 169 ∧ b = 0 ∧ z = 0 ∧ s = 1 ∧ ks = [.i16]) ∧ RwP len n l, R len.toNat l x)
    | _ => none
  | _ => none
theorem gRwA_inv {R : Nat → List Int → Int → LV} {args : List LV} {H : List Blk} {p : Prop} {r : LV} (he : gRwA R args H = some (p, r)) (hp : p) : ∃ (id m n : Nat) (o : Bool) (l : List Int) (cap x : Int),
    args = [.a (.c (.slc id 0 0 1 n cap)), .a (.c (.int .i64 x))] ∧ getB H id = .cells o 169 [.run [.i16] m l] ∧ r = R n l x ∧ n ≤ 1048576 ∧ n ≤ m ∧ l.length = m ∧ w16 n l := by
  unfold gRwA at he
  split at he
  · split at he
    · rename_i id b z s len cap x _ o t ks m l hg
      simp only [Option.some.injEq, Prod.mk.injEq] at he
      obtain ⟨rfl, rfl⟩ := he
      obtain ⟨⟨rfl, rfl, rfl, rfl, rfl⟩, h1, h2, h3, h4, h5⟩ := hp
      obtain ⟨n, rfl⟩ := Int.eq_ofNat_of_zero_le h1
      exact ⟨id, m, n, o, l, cap, x, rfl, hg, rfl, by omega, by simpa using h3, h4, by simpa using h5⟩
    · simp at he
  · simp at he
def gRwC (R : Nat → List Int → Int → Int → LV) : Entry := fun args H => match args with
  | [.a (.c (.slc id b z s len _)), .a (.c (.int .i64 x)), .a (.c (.int .i64 y))] => match getB H id with
    | .cells _ t [.run ks n l] => some ((t = 169 ∧ b = 0 ∧ z = 0 ∧ s = 1 ∧ ks = [.i16]) ∧ RwP len n l, R len.toNat l x y)
    | _ => none
  | _ => none
theorem gRwC_inv {R : Nat → List Int → Int → Int → LV} {args : List LV} {H : List Blk} {p : Prop} {r : LV} (he : gRwC R args H = some (p, r)) (hp : p) : ∃ (id m n : Nat) (o : Bool) (l : List Int) (cap x y : Int),
    args = [.a (.c (.slc id 0 0 1 n cap)), .a (.c (.int .i64 x)), .a (.c (.int .i64 y))] ∧ getB H id = .cells o 169 [.run [.i16] m l] ∧ r = R n l x y ∧ n ≤ 1048576 ∧ n ≤ m ∧ l.length = m ∧ w16 n l := by
  unfold gRwC at he
  split at he
  · split at he
    · rename_i id b z s len cap x y _ o t ks m l hg
      simp only [Option.some.injEq, Prod.mk.injEq] at he
      obtain ⟨rfl, rfl⟩ := he
      obtain ⟨⟨rfl, rfl, rfl, rfl, rfl⟩, h1, h2, h3, h4, h5⟩ := hp
      obtain ⟨n, rfl⟩ := Int.eq_ofNat_of_zero_le h1
      exact ⟨id, m, n, o, l, cap, x, y, rfl, hg, rfl, by omega, by simpa using h3, h4, by simpa using h5⟩
    · simp at he
  · simp at he
noncomputable def ILnone  : List (FuncId × Func × (Nat → LM)) := [
  ]
theorem ILnone_ok  : InlsOk Try.prog ILnone := trivial

end Go.Proofs.Ytkajcofpdlicaaa
