/- CountColours on both sides. No conditions beyond the ranges of the kinds. -/
import Derived.Test.YtloibkfkdednoaaPic6
namespace Go.Proofs.Ytloibkfkdednoaa
open Go.Sx Go.RowKit

/-- How many of the first k cells have a colour. -/
def cnt (w h : Int) (l : List Int) : Nat → Nat → Int
  | 0, _ => 0
  | k + 1, c => cnt w h l k c + (if isB w h k = true ∧ l.getD k 0 = (c : Int) then 1 else 0)
def cl (w h : Int) (l : List Int) (k : Nat) : List Int := (List.range 16).map (cnt w h l k)

theorem cnt_b {w h : Int} {l : List Int} {c : Nat} : ∀ k, 0 ≤ cnt w h l k c ∧ cnt w h l k c ≤ k
  | 0 => by simp [cnt]
  | k + 1 => by
    have := cnt_b (w := w) (h := h) (l := l) (c := c) k
    simp only [cnt]
    split <;> omega
theorem cl_len {w h : Int} {l : List Int} {k : Nat} : (cl w h l k).length = 16 := by simp [cl]
theorem cl_get {w h : Int} {l : List Int} {k c : Nat} (hc : c < 16) : (cl w h l k).getD c 0 = cnt w h l k c := by
  rw [List.getD_eq_getElem?_getD]; simp [cl, hc]
theorem cl_get? {w h : Int} {l : List Int} {k c : Nat} (hc : c < 16) : (cl w h l k)[c]? = some (cnt w h l k c) := by simp [cl, hc]
theorem cl_ext {w h : Int} {l m : List Int} {k : Nat} (hm : m.length = 16) (he : ∀ i, i < 16 → m[i]? = some (cnt w h l k i)) : m = cl w h l k := by
  apply List.ext_getElem?
  intro i
  by_cases hi : i < 16
  · rw [cl_get? hi, he i hi]
  · rw [List.getElem?_eq_none (by omega), List.getElem?_eq_none (by rw [cl_len]; omega)]
theorem cl_0 {w h : Int} {l : List Int} : List.replicate 16 0 = cl w h l 0 :=
  cl_ext (by rw [List.length_replicate]) fun i hi => by rw [List.getElem?_replicate, if_pos hi]; rfl
theorem cl_t {w h : Int} {l : List Int} {k c : Nat} (hc : c < 16) (hb : isB w h k = true) (he : l.getD k 0 = (c : Int)) : (cl w h l k).set c (cnt w h l k c + 1) = cl w h l (k + 1) := by
  refine cl_ext (by rw [List.length_set, cl_len]) fun i hi => ?_
  rw [List.getElem?_set]
  by_cases e : c = i
  · subst e
    rw [if_pos rfl, if_pos (by rw [cl_len]; exact hc), cnt, if_pos ⟨hb, he⟩]
  · rw [if_neg e, cl_get? hi, cnt, if_neg (fun h' => by rw [he] at h'; omega), Int.add_zero]
theorem cl_f {w h : Int} {l : List Int} {k : Nat} (hb : isB w h k = false) : cl w h l k = cl w h l (k + 1) := by
  simp only [cl]
  apply List.map_congr_left
  intro c _
  simp [cnt, hb]

def cntR (e : Int) (l : List Int) : LV := .tup [.agg [.run [.i64] 16 (if e = 0 then l else List.replicate 16 0)], .c (.int .i64 e)]
def okE9 (w h : Int) (l : List Int) : Int := if okB w h l = true then 0 else 1

def lmCnt (w h : Int) (l : List Int) : LAnn := { ι := Nat, inv := fun _ k => k ≤ 144, slots := fun _ k => [(4, .a (.c (.int .i64 k)))], blks := fun _ k => [(2, [.run [.i64] 16 (cl w h l k)])], μ := fun _ k => 144 - k }
def smCnt (w h : Int) (l : List Int) : SAnn := { ι := Unit, inv := fun _ _ _ => True, blks := fun _ k _ => [(2, [.run [.i64] 16 (cl w h l k)])] }

set_option maxRecDepth 100000 in
theorem x_l01Counts (w h : Int) (l : List Int) (r : Rg w h l) (ok : okB w h l = true) : Fex true TT (inlN true TT C7 (lookI IL) 4) C7 (fun _ => .inv (lmCnt w h l)) Try.f57 [.a (.c (.ptr 0 0))] [.cells false 34 (picB w h l)] (fun lv _ => leL lv (.a (.agg [.run [.i64] 16 (cl w h l 144)]))) := by
  refine Go.Sx.by_eq (q := True ∧ True ∧ True ∧ True ∧ True ∧ (∃ (x : Nat), x ≤ (144 : Nat) ∧ (Go.Sx.Cel.ptr (0 : Nat) (0 : Nat) = Go.Sx.Cel.ptr (0 : Nat) (0 : Nat) ∧ Go.Sx.Cel.val Go.undef = Go.Sx.Cel.val Go.undef ∧ Go.Sx.Cel.ptr (1 : Nat) (0 : Nat) = Go.Sx.Cel.ptr (1 : Nat) (0 : Nat) ∧ Go.Sx.Cel.ptr (2 : Nat) (0 : Nat) = Go.Sx.Cel.ptr (2 : Nat) (0 : Nat) ∧ (Go.IntKind.i64 = Go.IntKind.i64 ∧ (0 : Int) = (↑x : Int)) ∧ (([Go.IntKind.i64] = [Go.IntKind.i64] ∧ (16 : Nat) = (16 : Nat) ∧ List.replicate (16 : Nat) (0 : Int) = List.replicate (16 : Nat) (0 : Int)) ∧ True) ∧ True ∧ True ∧ True ∧ True ∧ True ∧ True ∧ True ∧ True ∧ True ∧ True ∧ True ∧ True ∧ True ∧ True ∧ True ∧ True ∧ True ∧ Go.Sx.Cel.val Go.undef = Go.Sx.Cel.val Go.undef ∧ True) ∧ (Bool.false = Bool.false ∧ (34 : Nat) = (34 : Nat) ∧ (Go.IntKind.i8 = Go.IntKind.i8 ∧ w = w) ∧ (Go.IntKind.i8 = Go.IntKind.i8 ∧ h = h) ∧ ([Go.IntKind.u8] = [Go.IntKind.u8] ∧ (144 : Nat) = (144 : Nat) ∧ l = l) ∧ True) ∧ (Bool.true = Bool.true ∧ (40 : Nat) = (40 : Nat) ∧ ([Go.IntKind.i64] = [Go.IntKind.i64] ∧ (16 : Nat) = (16 : Nat) ∧ List.replicate (16 : Nat) (0 : Int) = List.replicate (16 : Nat) (0 : Int)) ∧ True) ∧ (Bool.true = Bool.true ∧ (40 : Nat) = (40 : Nat) ∧ ([Go.IntKind.i64] = [Go.IntKind.i64] ∧ (16 : Nat) = (16 : Nat) ∧ List.replicate (16 : Nat) (0 : Int) = Go.Proofs.Ytloibkfkdednoaa.cl w h l x) ∧ True) ∧ True) ∧ ∀ (x : Nat), x ≤ (144 : Nat) → True ∧ True ∧ (Decidable.decide ((↑x : Int) < (144 : Int)) = Bool.true → True ∧ True ∧ True ∧ True ∧ True ∧ True ∧ True ∧ True ∧ True ∧ (Decidable.decide ((0 : Int) ≤ (↑x : Int)) = Bool.true → True ∧ True ∧ True ∧ True ∧ True ∧ True ∧ (Decidable.decide ((↑x : Int) ≤ (143 : Int)) = Bool.true → True ∧ (12 : Int) ≠ (0 : Int) ∧ True ∧ True ∧ True ∧ True ∧ ((-9223372036854775808 : Int) ≤ w ∧ w ≤ (9223372036854775807 : Int)) ∧ True ∧ True ∧ True ∧ (Decidable.decide (Int.tmod (↑x : Int) (12 : Int) < w) = Bool.true → True ∧ ((12 : Int) ≠ (0 : Int) ∧ (-9223372036854775808 : Int) ≤ Int.tdiv (↑x : Int) (12 : Int) ∧ Int.tdiv (↑x : Int) (12 : Int) ≤ (9223372036854775807 : Int)) ∧ True ∧ True ∧ True ∧ True ∧ ((-9223372036854775808 : Int) ≤ h ∧ h ≤ (9223372036854775807 : Int)) ∧ True ∧ True ∧ True ∧ (Decidable.decide (Int.tdiv (↑x : Int) (12 : Int) < h) = Bool.true → True ∧ True ∧ True ∧ True ∧ ((0 : Int) ≤ (↑x : Int) ∧ (↑x : Int) < (↑(144 : Nat) : Int)) ∧ ((0 : Int) ≤ (↑x : Int) ∧ Int.toNat (↑x : Int) < (144 : Nat)) ∧ ((0 : Int) ≤ List.getD l (Int.toNat (↑x : Int)) (0 : Int) ∧ List.getD l (Int.toNat (↑x : Int)) (0 : Int) < (↑(16 : Nat) : Int)) ∧ ((0 : Int) ≤ List.getD l (Int.toNat (↑x : Int)) (0 : Int) ∧ Int.toNat (List.getD l (Int.toNat (↑x : Int)) (0 : Int)) < (16 : Nat)) ∧ ((-9223372036854775808 : Int) ≤ List.getD (Go.Proofs.Ytloibkfkdednoaa.cl w h l x) (Int.toNat (List.getD l (Int.toNat (↑x : Int)) (0 : Int))) (0 : Int) + (1 : Int) ∧ List.getD (Go.Proofs.Ytloibkfkdednoaa.cl w h l x) (Int.toNat (List.getD l (Int.toNat (↑x : Int)) (0 : Int))) (0 : Int) + (1 : Int) ≤ (9223372036854775807 : Int)) ∧ ((0 : Int) ≤ List.getD l (Int.toNat (↑x : Int)) (0 : Int) ∧ List.getD l (Int.toNat (↑x : Int)) (0 : Int) < (↑(16 : Nat) : Int)) ∧ ((0 : Int) ≤ List.getD l (Int.toNat (↑x : Int)) (0 : Int) ∧ Int.toNat (List.getD l (Int.toNat (↑x : Int)) (0 : Int)) < (16 : Nat)) ∧ True ∧ ((-9223372036854775808 : Int) ≤ (↑x : Int) + (1 : Int) ∧ (↑x : Int) + (1 : Int) ≤ (9223372036854775807 : Int)) ∧ True ∧ ∃ (y : Nat), y ≤ (144 : Nat) ∧ (144 : Nat) - y < (144 : Nat) - x ∧ (Go.Sx.Cel.ptr (0 : Nat) (0 : Nat) = Go.Sx.Cel.ptr (0 : Nat) (0 : Nat) ∧ Go.Sx.Cel.val Go.undef = Go.Sx.Cel.val Go.undef ∧ Go.Sx.Cel.ptr (1 : Nat) (0 : Nat) = Go.Sx.Cel.ptr (1 : Nat) (0 : Nat) ∧ Go.Sx.Cel.ptr (2 : Nat) (0 : Nat) = Go.Sx.Cel.ptr (2 : Nat) (0 : Nat) ∧ (Go.IntKind.i64 = Go.IntKind.i64 ∧ (↑x : Int) + (1 : Int) = (↑y : Int)) ∧ (([Go.IntKind.i64] = [Go.IntKind.i64] ∧ (16 : Nat) = (16 : Nat) ∧ List.replicate (16 : Nat) (0 : Int) = List.replicate (16 : Nat) (0 : Int)) ∧ True) ∧ True ∧ True ∧ True ∧ True ∧ True ∧ True ∧ True ∧ True ∧ True ∧ True ∧ True ∧ True ∧ True ∧ True ∧ True ∧ True ∧ True ∧ Go.Sx.Cel.val Go.undef = Go.Sx.Cel.val Go.undef ∧ True) ∧ (Bool.false = Bool.false ∧ (34 : Nat) = (34 : Nat) ∧ (Go.IntKind.i8 = Go.IntKind.i8 ∧ w = w) ∧ (Go.IntKind.i8 = Go.IntKind.i8 ∧ h = h) ∧ ([Go.IntKind.u8] = [Go.IntKind.u8] ∧ (144 : Nat) = (144 : Nat) ∧ l = l) ∧ True) ∧ (Bool.true = Bool.true ∧ (40 : Nat) = (40 : Nat) ∧ ([Go.IntKind.i64] = [Go.IntKind.i64] ∧ (16 : Nat) = (16 : Nat) ∧ List.replicate (16 : Nat) (0 : Int) = List.replicate (16 : Nat) (0 : Int)) ∧ True) ∧ (Bool.true = Bool.true ∧ (40 : Nat) = (40 : Nat) ∧ ([Go.IntKind.i64] = [Go.IntKind.i64] ∧ (16 : Nat) = (16 : Nat) ∧ List.set (Go.Proofs.Ytloibkfkdednoaa.cl w h l x) (Int.toNat (List.getD l (Int.toNat (↑x : Int)) (0 : Int))) (List.getD (Go.Proofs.Ytloibkfkdednoaa.cl w h l x) (Int.toNat (List.getD l (Int.toNat (↑x : Int)) (0 : Int))) (0 : Int) + (1 : Int)) = Go.Proofs.Ytloibkfkdednoaa.cl w h l y) ∧ True) ∧ True) ∧ (Decidable.decide (Int.tdiv (↑x : Int) (12 : Int) < h) = Bool.false → True ∧ ((-9223372036854775808 : Int) ≤ (↑x : Int) + (1 : Int) ∧ (↑x : Int) + (1 : Int) ≤ (9223372036854775807 : Int)) ∧ True ∧ ∃ (y : Nat), y ≤ (144 : Nat) ∧ (144 : Nat) - y < (144 : Nat) - x ∧ (Go.Sx.Cel.ptr (0 : Nat) (0 : Nat) = Go.Sx.Cel.ptr (0 : Nat) (0 : Nat) ∧ Go.Sx.Cel.val Go.undef = Go.Sx.Cel.val Go.undef ∧ Go.Sx.Cel.ptr (1 : Nat) (0 : Nat) = Go.Sx.Cel.ptr (1 : Nat) (0 : Nat) ∧ Go.Sx.Cel.ptr (2 : Nat) (0 : Nat) = Go.Sx.Cel.ptr (2 : Nat) (0 : Nat) ∧ (Go.IntKind.i64 = Go.IntKind.i64 ∧ (↑x : Int) + (1 : Int) = (↑y : Int)) ∧ (([Go.IntKind.i64] = [Go.IntKind.i64] ∧ (16 : Nat) = (16 : Nat) ∧ List.replicate (16 : Nat) (0 : Int) = List.replicate (16 : Nat) (0 : Int)) ∧ True) ∧ True ∧ True ∧ True ∧ True ∧ True ∧ True ∧ True ∧ True ∧ True ∧ True ∧ True ∧ True ∧ True ∧ True ∧ True ∧ True ∧ True ∧ Go.Sx.Cel.val Go.undef = Go.Sx.Cel.val Go.undef ∧ True) ∧ (Bool.false = Bool.false ∧ (34 : Nat) = (34 : Nat) ∧ (Go.IntKind.i8 = Go.IntKind.i8 ∧ w = w) ∧ (Go.IntKind.i8 = Go.IntKind.i8 ∧ h = h) ∧ ([Go.IntKind.u8] = [Go.IntKind.u8] ∧ (144 : Nat) = (144 : Nat) ∧ l = l) ∧ True) ∧ (Bool.true = Bool.true ∧ (40 : Nat) = (40 : Nat) ∧ ([Go.IntKind.i64] = [Go.IntKind.i64] ∧ (16 : Nat) = (16 : Nat) ∧ List.replicate (16 : Nat) (0 : Int) = List.replicate (16 : Nat) (0 : Int)) ∧ True) ∧ (Bool.true = Bool.true ∧ (40 : Nat) = (40 : Nat) ∧ ([Go.IntKind.i64] = [Go.IntKind.i64] ∧ (16 : Nat) = (16 : Nat) ∧ Go.Proofs.Ytloibkfkdednoaa.cl w h l x = Go.Proofs.Ytloibkfkdednoaa.cl w h l y) ∧ True) ∧ True)) ∧ (Decidable.decide (Int.tmod (↑x : Int) (12 : Int) < w) = !Bool.true → True ∧ True ∧ True ∧ ((-9223372036854775808 : Int) ≤ (↑x : Int) + (1 : Int) ∧ (↑x : Int) + (1 : Int) ≤ (9223372036854775807 : Int)) ∧ True ∧ ∃ (y : Nat), y ≤ (144 : Nat) ∧ (144 : Nat) - y < (144 : Nat) - x ∧ (Go.Sx.Cel.ptr (0 : Nat) (0 : Nat) = Go.Sx.Cel.ptr (0 : Nat) (0 : Nat) ∧ Go.Sx.Cel.val Go.undef = Go.Sx.Cel.val Go.undef ∧ Go.Sx.Cel.ptr (1 : Nat) (0 : Nat) = Go.Sx.Cel.ptr (1 : Nat) (0 : Nat) ∧ Go.Sx.Cel.ptr (2 : Nat) (0 : Nat) = Go.Sx.Cel.ptr (2 : Nat) (0 : Nat) ∧ (Go.IntKind.i64 = Go.IntKind.i64 ∧ (↑x : Int) + (1 : Int) = (↑y : Int)) ∧ (([Go.IntKind.i64] = [Go.IntKind.i64] ∧ (16 : Nat) = (16 : Nat) ∧ List.replicate (16 : Nat) (0 : Int) = List.replicate (16 : Nat) (0 : Int)) ∧ True) ∧ True ∧ True ∧ True ∧ True ∧ True ∧ True ∧ True ∧ True ∧ True ∧ True ∧ True ∧ True ∧ True ∧ True ∧ True ∧ True ∧ True ∧ Go.Sx.Cel.val Go.undef = Go.Sx.Cel.val Go.undef ∧ True) ∧ (Bool.false = Bool.false ∧ (34 : Nat) = (34 : Nat) ∧ (Go.IntKind.i8 = Go.IntKind.i8 ∧ w = w) ∧ (Go.IntKind.i8 = Go.IntKind.i8 ∧ h = h) ∧ ([Go.IntKind.u8] = [Go.IntKind.u8] ∧ (144 : Nat) = (144 : Nat) ∧ l = l) ∧ True) ∧ (Bool.true = Bool.true ∧ (40 : Nat) = (40 : Nat) ∧ ([Go.IntKind.i64] = [Go.IntKind.i64] ∧ (16 : Nat) = (16 : Nat) ∧ List.replicate (16 : Nat) (0 : Int) = List.replicate (16 : Nat) (0 : Int)) ∧ True) ∧ (Bool.true = Bool.true ∧ (40 : Nat) = (40 : Nat) ∧ ([Go.IntKind.i64] = [Go.IntKind.i64] ∧ (16 : Nat) = (16 : Nat) ∧ Go.Proofs.Ytloibkfkdednoaa.cl w h l x = Go.Proofs.Ytloibkfkdednoaa.cl w h l y) ∧ True) ∧ True)) ∧ (Decidable.decide ((↑x : Int) ≤ (143 : Int)) = !Bool.true → True ∧ True ∧ True ∧ True ∧ True ∧ ((-9223372036854775808 : Int) ≤ (↑x : Int) + (1 : Int) ∧ (↑x : Int) + (1 : Int) ≤ (9223372036854775807 : Int)) ∧ True ∧ ∃ (y : Nat), y ≤ (144 : Nat) ∧ (144 : Nat) - y < (144 : Nat) - x ∧ (Go.Sx.Cel.ptr (0 : Nat) (0 : Nat) = Go.Sx.Cel.ptr (0 : Nat) (0 : Nat) ∧ Go.Sx.Cel.val Go.undef = Go.Sx.Cel.val Go.undef ∧ Go.Sx.Cel.ptr (1 : Nat) (0 : Nat) = Go.Sx.Cel.ptr (1 : Nat) (0 : Nat) ∧ Go.Sx.Cel.ptr (2 : Nat) (0 : Nat) = Go.Sx.Cel.ptr (2 : Nat) (0 : Nat) ∧ (Go.IntKind.i64 = Go.IntKind.i64 ∧ (↑x : Int) + (1 : Int) = (↑y : Int)) ∧ (([Go.IntKind.i64] = [Go.IntKind.i64] ∧ (16 : Nat) = (16 : Nat) ∧ List.replicate (16 : Nat) (0 : Int) = List.replicate (16 : Nat) (0 : Int)) ∧ True) ∧ True ∧ True ∧ True ∧ True ∧ True ∧ True ∧ True ∧ True ∧ True ∧ True ∧ True ∧ True ∧ True ∧ True ∧ True ∧ True ∧ True ∧ Go.Sx.Cel.val Go.undef = Go.Sx.Cel.val Go.undef ∧ True) ∧ (Bool.false = Bool.false ∧ (34 : Nat) = (34 : Nat) ∧ (Go.IntKind.i8 = Go.IntKind.i8 ∧ w = w) ∧ (Go.IntKind.i8 = Go.IntKind.i8 ∧ h = h) ∧ ([Go.IntKind.u8] = [Go.IntKind.u8] ∧ (144 : Nat) = (144 : Nat) ∧ l = l) ∧ True) ∧ (Bool.true = Bool.true ∧ (40 : Nat) = (40 : Nat) ∧ ([Go.IntKind.i64] = [Go.IntKind.i64] ∧ (16 : Nat) = (16 : Nat) ∧ List.replicate (16 : Nat) (0 : Int) = List.replicate (16 : Nat) (0 : Int)) ∧ True) ∧ (Bool.true = Bool.true ∧ (40 : Nat) = (40 : Nat) ∧ ([Go.IntKind.i64] = [Go.IntKind.i64] ∧ (16 : Nat) = (16 : Nat) ∧ Go.Proofs.Ytloibkfkdednoaa.cl w h l x = Go.Proofs.Ytloibkfkdednoaa.cl w h l y) ∧ True) ∧ True)) ∧ (Decidable.decide ((0 : Int) ≤ (↑x : Int)) = !Bool.true → True ∧ True ∧ True ∧ True ∧ True ∧ True ∧ True ∧ True ∧ ((-9223372036854775808 : Int) ≤ (↑x : Int) + (1 : Int) ∧ (↑x : Int) + (1 : Int) ≤ (9223372036854775807 : Int)) ∧ True ∧ ∃ (y : Nat), y ≤ (144 : Nat) ∧ (144 : Nat) - y < (144 : Nat) - x ∧ (Go.Sx.Cel.ptr (0 : Nat) (0 : Nat) = Go.Sx.Cel.ptr (0 : Nat) (0 : Nat) ∧ Go.Sx.Cel.val Go.undef = Go.Sx.Cel.val Go.undef ∧ Go.Sx.Cel.ptr (1 : Nat) (0 : Nat) = Go.Sx.Cel.ptr (1 : Nat) (0 : Nat) ∧ Go.Sx.Cel.ptr (2 : Nat) (0 : Nat) = Go.Sx.Cel.ptr (2 : Nat) (0 : Nat) ∧ (Go.IntKind.i64 = Go.IntKind.i64 ∧ (↑x : Int) + (1 : Int) = (↑y : Int)) ∧ (([Go.IntKind.i64] = [Go.IntKind.i64] ∧ (16 : Nat) = (16 : Nat) ∧ List.replicate (16 : Nat) (0 : Int) = List.replicate (16 : Nat) (0 : Int)) ∧ True) ∧ True ∧ True ∧ True ∧ True ∧ True ∧ True ∧ True ∧ True ∧ True ∧ True ∧ True ∧ True ∧ True ∧ True ∧ True ∧ True ∧ True ∧ Go.Sx.Cel.val Go.undef = Go.Sx.Cel.val Go.undef ∧ True) ∧ (Bool.false = Bool.false ∧ (34 : Nat) = (34 : Nat) ∧ (Go.IntKind.i8 = Go.IntKind.i8 ∧ w = w) ∧ (Go.IntKind.i8 = Go.IntKind.i8 ∧ h = h) ∧ ([Go.IntKind.u8] = [Go.IntKind.u8] ∧ (144 : Nat) = (144 : Nat) ∧ l = l) ∧ True) ∧ (Bool.true = Bool.true ∧ (40 : Nat) = (40 : Nat) ∧ ([Go.IntKind.i64] = [Go.IntKind.i64] ∧ (16 : Nat) = (16 : Nat) ∧ List.replicate (16 : Nat) (0 : Int) = List.replicate (16 : Nat) (0 : Int)) ∧ True) ∧ (Bool.true = Bool.true ∧ (40 : Nat) = (40 : Nat) ∧ ([Go.IntKind.i64] = [Go.IntKind.i64] ∧ (16 : Nat) = (16 : Nat) ∧ Go.Proofs.Ytloibkfkdednoaa.cl w h l x = Go.Proofs.Ytloibkfkdednoaa.cl w h l y) ∧ True) ∧ True)) ∧ (Decidable.decide ((↑x : Int) < (144 : Int)) = Bool.false → True ∧ True ∧ ([Go.IntKind.i64] = [Go.IntKind.i64] ∧ (16 : Nat) = (16 : Nat) ∧ Go.Proofs.Ytloibkfkdednoaa.cl w h l x = Go.Proofs.Ytloibkfkdednoaa.cl w h l (144 : Nat)) ∧ True)) (by kernel_rfl) ?_
  have rw1 := r.w1; have rw2 := r.w2; have rh1 := r.h1; have rh2 := r.h2; have rl := r.len
  obtain ⟨o1, o2, o3, o4, o5⟩ := okB_facts ok
  simp only [true_and, and_true, and_self, decide_eq_true_eq, decide_eq_false_iff_not, Bool.not_eq_true', Bool.not_eq_false', Bool.not_true, Bool.not_false, beq_iff_eq, beq_eq_false_iff_ne, bne_iff_ne, bne_eq_false_iff_eq, ne_eq, not_true_eq_false, not_false_eq_true, false_implies, true_implies, forall_const, exists_const, ↓reduceIte, Int.reduceEq, tm12, td12, Int.toNat_natCast, Bool.false_eq_true, Bool.true_eq_false, reduceCtorEq]
  refine ⟨⟨0, by omega, rfl, cl_0⟩, ?_⟩
  intro k hk
  refine ⟨fun hlt => ?_, fun hge => by rw [show k = 144 by omega]⟩
  have q1 := r.c k
  have q2 := (o5 k (by omega)).1
  obtain ⟨c, hc⟩ : ∃ c : Nat, l.getD k 0 = (c : Int) := ⟨(l.getD k 0).toNat, by omega⟩
  have hc16 : c < 16 := by omega
  have q3 := cnt_b (w := w) (h := h) (l := l) (c := c) k
  rw [hc]
  simp only [Int.toNat_natCast, cl_get hc16]
  repeat' (first | omega | apply And.intro | intro _)
  all_goals first
    | exact ⟨k + 1, by omega, by omega, by omega, cl_t hc16 (isB_t.2 (by omega)) hc⟩
    | exact ⟨k + 1, by omega, by omega, by omega, cl_f (isB_f.2 (by omega))⟩

def gS_Cnt : Entry := fun args H => match args with
  | [.a (.c (.ptr id 0))] => match getB H id with
    | .cells _ 34 [.int .i8 w, .int .i8 h, .run [.u8] 144 l] => some (Rg w h l ∧ okB w h l = true, .a (.agg [.run [.i64] 16 (cl w h l 144)]))
    | _ => none
  | _ => none

theorem e_l01Counts : EntryOk Try.prog 57 gS_Cnt := by
  refine ⟨fnOk Try.func57 (by kernel_rfl) rfl, ?_⟩
  intro args H p r he hp n0 w0 β w vals hH hA
  unfold gS_Cnt at he
  split at he
  · rename_i id
    split at he
    · rename_i own wd hg l hb
      simp only [Option.some.injEq, Prod.mk.injEq] at he
      obtain ⟨rfl, rfl⟩ := he
      exact entry_ptr tt_ok (inlN_ok tt_ok C7_ok mixed IL_ok.ok 4) C7_ok mixed Try.func57 (x_l01Counts wd hg l hp.1 hp.2) rfl rfl rfl hH hb hA
    · simp at he
  · simp at he

noncomputable abbrev CC : Ctr := ctrOfS ((57, gS_Cnt) :: E7) S1
theorem CC_ok : CtrOk Try.prog CC := ctrOfS_ok ⟨e_l01Counts, E7_ok⟩ S1_ok

set_option maxRecDepth 100000 in
theorem x_CountColoursS (w h : Int) (l : List Int) (r : Rg w h l) : Fex true TT (inlN true TT CC (lookI IL) 4) CC U0 Try.f25 [pic w h l] [] (fun lv _ => leL lv (cntR (okE9 w h l) (cl w h l 144))) := by
  refine Go.Sx.by_eq (q := True ∧ True ∧ True ∧ Go.Proofs.Ytloibkfkdednoaa.Rg w h l ∧ True ∧ ((!Go.Proofs.Ytloibkfkdednoaa.okB w h l) = Bool.true → True ∧ True ∧ True ∧ (([Go.IntKind.i64] = [Go.IntKind.i64] ∧ (16 : Nat) = (16 : Nat) ∧ List.replicate (16 : Nat) (0 : Int) = if Go.Proofs.Ytloibkfkdednoaa.okE9 w h l = (0 : Int) then Go.Proofs.Ytloibkfkdednoaa.cl w h l (144 : Nat) else List.replicate (16 : Nat) (0 : Int)) ∧ True) ∧ (Go.IntKind.i64 = Go.IntKind.i64 ∧ (1 : Int) = Go.Proofs.Ytloibkfkdednoaa.okE9 w h l) ∧ True) ∧ ((!Go.Proofs.Ytloibkfkdednoaa.okB w h l) = Bool.false → (Go.Proofs.Ytloibkfkdednoaa.Rg w h l ∧ Go.Proofs.Ytloibkfkdednoaa.okB w h l = Bool.true) ∧ True ∧ True ∧ (([Go.IntKind.i64] = [Go.IntKind.i64] ∧ (16 : Nat) = (16 : Nat) ∧ Go.Proofs.Ytloibkfkdednoaa.cl w h l (144 : Nat) = if Go.Proofs.Ytloibkfkdednoaa.okE9 w h l = (0 : Int) then Go.Proofs.Ytloibkfkdednoaa.cl w h l (144 : Nat) else List.replicate (16 : Nat) (0 : Int)) ∧ True) ∧ (Go.IntKind.i64 = Go.IntKind.i64 ∧ (0 : Int) = Go.Proofs.Ytloibkfkdednoaa.okE9 w h l) ∧ True)) (by kernel_rfl) ?_
  by_cases ok : okB w h l = true
  · have hE : okE9 w h l = 0 := if_pos ok
    simp only [true_and, and_true, and_self, decide_eq_true_eq, decide_eq_false_iff_not, Bool.not_eq_true', Bool.not_eq_false', Bool.not_true, Bool.not_false, beq_iff_eq, beq_eq_false_iff_ne, bne_iff_ne, bne_eq_false_iff_eq, ne_eq, not_true_eq_false, not_false_eq_true, false_implies, true_implies, forall_const, exists_const, ↓reduceIte, Int.reduceEq, tm12, td12, Int.toNat_natCast, Bool.false_eq_true, Bool.true_eq_false, reduceCtorEq, ok, hE, r]
  · have hE : okE9 w h l = 1 := if_neg ok
    have ok : okB w h l = false := by simpa using ok
    simp only [true_and, and_true, and_self, decide_eq_true_eq, decide_eq_false_iff_not, Bool.not_eq_true', Bool.not_eq_false', Bool.not_true, Bool.not_false, beq_iff_eq, beq_eq_false_iff_ne, bne_iff_ne, bne_eq_false_iff_eq, ne_eq, not_true_eq_false, not_false_eq_true, false_implies, true_implies, forall_const, exists_const, ↓reduceIte, Int.reduceEq, tm12, td12, Int.toNat_natCast, Bool.false_eq_true, Bool.true_eq_false, reduceCtorEq, ok, hE, r]

set_option maxRecDepth 100000 in
theorem x_CountColoursI (w h : Int) (l : List Int) (r : Rg w h l) : Fex true TT (inlN true TT CC (lookI (ILp (smPlain w h 0))) 4) CC (fun _ => .seq (smCnt w h l)) Try.f27 [pic w h l] [] (fun lv _ => leL lv (cntR (okE9 w h l) (cl w h l 144))) := by
  refine Go.Sx.by_eq (q := True ∧ True ∧ True ∧ True ∧ True ∧ Go.Proofs.Ytloibkfkdednoaa.Rg w h l ∧ True ∧ ((!Go.Proofs.Ytloibkfkdednoaa.okB w h l) = Bool.true → True ∧ True ∧ True ∧ (([Go.IntKind.i64] = [Go.IntKind.i64] ∧ (16 : Nat) = (16 : Nat) ∧ List.replicate (16 : Nat) (0 : Int) = if Go.Proofs.Ytloibkfkdednoaa.okE9 w h l = (0 : Int) then Go.Proofs.Ytloibkfkdednoaa.cl w h l (144 : Nat) else List.replicate (16 : Nat) (0 : Int)) ∧ True) ∧ (Go.IntKind.i64 = Go.IntKind.i64 ∧ (1 : Int) = Go.Proofs.Ytloibkfkdednoaa.okE9 w h l) ∧ True) ∧ ((!Go.Proofs.Ytloibkfkdednoaa.okB w h l) = Bool.false → True ∧ True ∧ True ∧ True ∧ True ∧ ((0 : Int) ≤ w ∧ w ≤ (12 : Int) ∧ (0 : Int) ≤ h ∧ h ≤ (12 : Int)) ∧ (∃ (x : Unit), True ∧ (Bool.true = Bool.true ∧ (34 : Nat) = (34 : Nat) ∧ (Go.IntKind.i8 = Go.IntKind.i8 ∧ w = w) ∧ (Go.IntKind.i8 = Go.IntKind.i8 ∧ h = h) ∧ ([Go.IntKind.u8] = [Go.IntKind.u8] ∧ (144 : Nat) = (144 : Nat) ∧ l = l) ∧ True) ∧ (Bool.true = Bool.true ∧ (40 : Nat) = (40 : Nat) ∧ ([Go.IntKind.i64] = [Go.IntKind.i64] ∧ (16 : Nat) = (16 : Nat) ∧ List.replicate (16 : Nat) (0 : Int) = List.replicate (16 : Nat) (0 : Int)) ∧ True) ∧ (Bool.true = Bool.true ∧ (40 : Nat) = (40 : Nat) ∧ ([Go.IntKind.i64] = [Go.IntKind.i64] ∧ (16 : Nat) = (16 : Nat) ∧ List.replicate (16 : Nat) (0 : Int) = Go.Proofs.Ytloibkfkdednoaa.cl w h l (0 : Nat)) ∧ True) ∧ (Bool.true = Bool.true ∧ (34 : Nat) = (34 : Nat) ∧ (Go.IntKind.i8 = Go.IntKind.i8 ∧ w = w) ∧ (Go.IntKind.i8 = Go.IntKind.i8 ∧ h = h) ∧ ([Go.IntKind.u8] = [Go.IntKind.u8] ∧ (144 : Nat) = (144 : Nat) ∧ l = l) ∧ True) ∧ True) ∧ (∀ (i : Nat) (x : Unit), i < (144 : Nat) → Go.Proofs.Ytloibkfkdednoaa.isB w h i = Bool.true → True → True ∧ True ∧ True ∧ ((0 : Int) ≤ (fun (i : Nat) => (↑i : Int)) i ∧ (fun (i : Nat) => (↑i : Int)) i < (↑(144 : Nat) : Int)) ∧ ((0 : Int) ≤ (fun (i : Nat) => (↑i : Int)) i ∧ Int.toNat ((fun (i : Nat) => (↑i : Int)) i) < (144 : Nat)) ∧ ((0 : Int) ≤ List.getD l (Int.toNat ((fun (i : Nat) => (↑i : Int)) i)) (0 : Int) ∧ List.getD l (Int.toNat ((fun (i : Nat) => (↑i : Int)) i)) (0 : Int) < (↑(16 : Nat) : Int)) ∧ ((0 : Int) ≤ List.getD l (Int.toNat ((fun (i : Nat) => (↑i : Int)) i)) (0 : Int) ∧ Int.toNat (List.getD l (Int.toNat ((fun (i : Nat) => (↑i : Int)) i)) (0 : Int)) < (16 : Nat)) ∧ ((-9223372036854775808 : Int) ≤ List.getD (Go.Proofs.Ytloibkfkdednoaa.cl w h l i) (Int.toNat (List.getD l (Int.toNat ((fun (i : Nat) => (↑i : Int)) i)) (0 : Int))) (0 : Int) + (1 : Int) ∧ List.getD (Go.Proofs.Ytloibkfkdednoaa.cl w h l i) (Int.toNat (List.getD l (Int.toNat ((fun (i : Nat) => (↑i : Int)) i)) (0 : Int))) (0 : Int) + (1 : Int) ≤ (9223372036854775807 : Int)) ∧ ((0 : Int) ≤ List.getD l (Int.toNat ((fun (i : Nat) => (↑i : Int)) i)) (0 : Int) ∧ List.getD l (Int.toNat ((fun (i : Nat) => (↑i : Int)) i)) (0 : Int) < (↑(16 : Nat) : Int)) ∧ ((0 : Int) ≤ List.getD l (Int.toNat ((fun (i : Nat) => (↑i : Int)) i)) (0 : Int) ∧ Int.toNat (List.getD l (Int.toNat ((fun (i : Nat) => (↑i : Int)) i)) (0 : Int)) < (16 : Nat)) ∧ ∃ (y : Unit), True ∧ (Bool.true = Bool.true ∧ (34 : Nat) = (34 : Nat) ∧ (Go.IntKind.i8 = Go.IntKind.i8 ∧ w = w) ∧ (Go.IntKind.i8 = Go.IntKind.i8 ∧ h = h) ∧ ([Go.IntKind.u8] = [Go.IntKind.u8] ∧ (144 : Nat) = (144 : Nat) ∧ l = l) ∧ True) ∧ (Bool.true = Bool.true ∧ (40 : Nat) = (40 : Nat) ∧ ([Go.IntKind.i64] = [Go.IntKind.i64] ∧ (16 : Nat) = (16 : Nat) ∧ List.replicate (16 : Nat) (0 : Int) = List.replicate (16 : Nat) (0 : Int)) ∧ True) ∧ (Bool.true = Bool.true ∧ (40 : Nat) = (40 : Nat) ∧ ([Go.IntKind.i64] = [Go.IntKind.i64] ∧ (16 : Nat) = (16 : Nat) ∧ List.set (Go.Proofs.Ytloibkfkdednoaa.cl w h l i) (Int.toNat (List.getD l (Int.toNat ((fun (i : Nat) => (↑i : Int)) i)) (0 : Int))) (List.getD (Go.Proofs.Ytloibkfkdednoaa.cl w h l i) (Int.toNat (List.getD l (Int.toNat ((fun (i : Nat) => (↑i : Int)) i)) (0 : Int))) (0 : Int) + (1 : Int)) = Go.Proofs.Ytloibkfkdednoaa.cl w h l (i + (1 : Nat))) ∧ True) ∧ (Bool.true = Bool.true ∧ (34 : Nat) = (34 : Nat) ∧ (Go.IntKind.i8 = Go.IntKind.i8 ∧ w = w) ∧ (Go.IntKind.i8 = Go.IntKind.i8 ∧ h = h) ∧ ([Go.IntKind.u8] = [Go.IntKind.u8] ∧ (144 : Nat) = (144 : Nat) ∧ l = l) ∧ True) ∧ True) ∧ (∀ (i : Nat) (x : Unit), i < (144 : Nat) → Go.Proofs.Ytloibkfkdednoaa.isB w h i = Bool.false → True → ∃ (y : Unit), True ∧ (Bool.true = Bool.true ∧ (34 : Nat) = (34 : Nat) ∧ (Go.IntKind.i8 = Go.IntKind.i8 ∧ w = w) ∧ (Go.IntKind.i8 = Go.IntKind.i8 ∧ h = h) ∧ ([Go.IntKind.u8] = [Go.IntKind.u8] ∧ (144 : Nat) = (144 : Nat) ∧ l = l) ∧ True) ∧ (Bool.true = Bool.true ∧ (40 : Nat) = (40 : Nat) ∧ ([Go.IntKind.i64] = [Go.IntKind.i64] ∧ (16 : Nat) = (16 : Nat) ∧ List.replicate (16 : Nat) (0 : Int) = List.replicate (16 : Nat) (0 : Int)) ∧ True) ∧ (Bool.true = Bool.true ∧ (40 : Nat) = (40 : Nat) ∧ ([Go.IntKind.i64] = [Go.IntKind.i64] ∧ (16 : Nat) = (16 : Nat) ∧ Go.Proofs.Ytloibkfkdednoaa.cl w h l i = Go.Proofs.Ytloibkfkdednoaa.cl w h l (i + (1 : Nat))) ∧ True) ∧ (Bool.true = Bool.true ∧ (34 : Nat) = (34 : Nat) ∧ (Go.IntKind.i8 = Go.IntKind.i8 ∧ w = w) ∧ (Go.IntKind.i8 = Go.IntKind.i8 ∧ h = h) ∧ ([Go.IntKind.u8] = [Go.IntKind.u8] ∧ (144 : Nat) = (144 : Nat) ∧ l = l) ∧ True) ∧ True) ∧ ∀ (x : Unit), True → True ∧ True ∧ True ∧ (([Go.IntKind.i64] = [Go.IntKind.i64] ∧ (16 : Nat) = (16 : Nat) ∧ Go.Proofs.Ytloibkfkdednoaa.cl w h l (144 : Nat) = if Go.Proofs.Ytloibkfkdednoaa.okE9 w h l = (0 : Int) then Go.Proofs.Ytloibkfkdednoaa.cl w h l (144 : Nat) else List.replicate (16 : Nat) (0 : Int)) ∧ True) ∧ (Go.IntKind.i64 = Go.IntKind.i64 ∧ (0 : Int) = Go.Proofs.Ytloibkfkdednoaa.okE9 w h l) ∧ True)) (by kernel_rfl) ?_
  by_cases ok : okB w h l = true
  · have hE : okE9 w h l = 0 := if_pos ok
    obtain ⟨o1, o2, o3, o4, o5⟩ := okB_facts ok
    simp only [true_and, and_true, and_self, decide_eq_true_eq, decide_eq_false_iff_not, Bool.not_eq_true', Bool.not_eq_false', Bool.not_true, Bool.not_false, beq_iff_eq, beq_eq_false_iff_ne, bne_iff_ne, bne_eq_false_iff_eq, ne_eq, not_true_eq_false, not_false_eq_true, false_implies, true_implies, forall_const, exists_const, ↓reduceIte, Int.reduceEq, tm12, td12, Int.toNat_natCast, Bool.false_eq_true, Bool.true_eq_false, reduceCtorEq, ok, hE, r]
    refine ⟨by omega, cl_0, fun k hk hb => ?_, fun k hk hb => cl_f hb⟩
    have q1 := r.c k
    have q2 := (o5 k (by omega)).1
    obtain ⟨c, hc⟩ : ∃ c : Nat, l.getD k 0 = (c : Int) := ⟨(l.getD k 0).toNat, by omega⟩
    have hc16 : c < 16 := by omega
    have q3 := cnt_b (w := w) (h := h) (l := l) (c := c) k
    rw [hc]
    simp only [Int.toNat_natCast, cl_get hc16]
    repeat' (first | omega | apply And.intro | intro _)
    all_goals exact cl_t hc16 hb hc
  · have hE : okE9 w h l = 1 := if_neg ok
    have ok : okB w h l = false := by simpa using ok
    simp only [true_and, and_true, and_self, decide_eq_true_eq, decide_eq_false_iff_not, Bool.not_eq_true', Bool.not_eq_false', Bool.not_true, Bool.not_false, beq_iff_eq, beq_eq_false_iff_ne, bne_iff_ne, bne_eq_false_iff_eq, ne_eq, not_true_eq_false, not_false_eq_true, false_implies, true_implies, forall_const, exists_const, ↓reduceIte, Int.reduceEq, tm12, td12, Int.toNat_natCast, Bool.false_eq_true, Bool.true_eq_false, reduceCtorEq, ok, hE, r]

def gCnt : Entry := fun args _ => match args with
  | [.a (.agg [.int .i8 w, .int .i8 h, .run [.u8] 144 l])] => some (Rg w h l, cntR (okE9 w h l) (cl w h l 144))
  | _ => none
theorem e_CountColoursS : EntryOk Try.prog 25 gCnt := by
  refine ⟨fnOk Try.func25 (by kernel_rfl) rfl, ?_⟩
  intro args H p r he hp n0 w0 β w vals hH hA
  unfold gCnt at he
  split at he
  · simp only [Option.some.injEq, Prod.mk.injEq] at he
    obtain ⟨rfl, rfl⟩ := he
    exact entry_bare tt_ok (inlN_ok tt_ok CC_ok mixed (IL_ok).ok 4) CC_ok mixed Try.func25 (x_CountColoursS _ _ _ hp) rfl rfl hA
  · simp at he

theorem e_CountColoursI : EntryOk Try.prog 27 gCnt := by
  refine ⟨fnOk Try.func27 (by kernel_rfl) rfl, ?_⟩
  intro args H p r he hp n0 w0 β w vals hH hA
  unfold gCnt at he
  split at he
  · simp only [Option.some.injEq, Prod.mk.injEq] at he
    obtain ⟨rfl, rfl⟩ := he
    exact entry_bare tt_ok (inlN_ok tt_ok CC_ok mixed (ILp_ok (smPlain _ _ 0)).ok 4) CC_ok mixed Try.func27 (x_CountColoursI _ _ _ hp) rfl rfl hA
  · simp at he


/-! ### Two lists of 16 numbers, compared -/

def lmEq16 (l m : List Int) : LAnn := { ι := Nat, inv := fun _ k => k ≤ 16 ∧ l.take k = m.take k, slots := fun _ k => [(5, .a (.c (.int .i64 k)))], blks := fun _ _ => [], μ := fun _ k => 16 - k }

set_option maxRecDepth 100000 in
theorem x_eq16 (l m : List Int) (hl : l.length = 16) (hm : m.length = 16) : Fex true TT (inlN true TT (ctrOf E2) (lookI IL) 3) (ctrOf E2) (fun _ => .inv (lmEq16 l m)) Try.f28 [.a (.agg [.run [.i64] 16 l]), .a (.agg [.run [.i64] 16 m])] [] (fun lv _ => leL lv (.a (.c (.bool (decide (l = m)))))) := by
  refine Go.Sx.by_eq (q := True ∧ True ∧ True ∧ True ∧ (∃ (x : Nat), (x ≤ (16 : Nat) ∧ List.take x l = List.take x m) ∧ ((([Go.IntKind.i64] = [Go.IntKind.i64] ∧ (16 : Nat) = (16 : Nat) ∧ l = l) ∧ True) ∧ (([Go.IntKind.i64] = [Go.IntKind.i64] ∧ (16 : Nat) = (16 : Nat) ∧ m = m) ∧ True) ∧ Go.Sx.Cel.ptr (0 : Nat) (0 : Nat) = Go.Sx.Cel.ptr (0 : Nat) (0 : Nat) ∧ Go.Sx.Cel.ptr (1 : Nat) (0 : Nat) = Go.Sx.Cel.ptr (1 : Nat) (0 : Nat) ∧ True ∧ (Go.IntKind.i64 = Go.IntKind.i64 ∧ (0 : Int) = (↑x : Int)) ∧ True ∧ True ∧ True ∧ True ∧ True ∧ True ∧ True ∧ True ∧ True ∧ True ∧ True ∧ True) ∧ (Bool.true = Bool.true ∧ (40 : Nat) = (40 : Nat) ∧ ([Go.IntKind.i64] = [Go.IntKind.i64] ∧ (16 : Nat) = (16 : Nat) ∧ l = l) ∧ True) ∧ (Bool.true = Bool.true ∧ (40 : Nat) = (40 : Nat) ∧ ([Go.IntKind.i64] = [Go.IntKind.i64] ∧ (16 : Nat) = (16 : Nat) ∧ m = m) ∧ True) ∧ True) ∧ ∀ (x : Nat), x ≤ (16 : Nat) ∧ List.take x l = List.take x m → True ∧ True ∧ (Decidable.decide ((↑x : Int) < (16 : Int)) = Bool.true → True ∧ ((0 : Int) ≤ (↑x : Int) ∧ (↑x : Int) < (↑(16 : Nat) : Int)) ∧ ((0 : Int) ≤ (↑x : Int) ∧ Int.toNat (↑x : Int) < (16 : Nat)) ∧ True ∧ ((0 : Int) ≤ (↑x : Int) ∧ (↑x : Int) < (↑(16 : Nat) : Int)) ∧ ((0 : Int) ≤ (↑x : Int) ∧ Int.toNat (↑x : Int) < (16 : Nat)) ∧ True ∧ ((List.getD l (Int.toNat (↑x : Int)) (0 : Int) != List.getD m (Int.toNat (↑x : Int)) (0 : Int)) = Bool.true → True ∧ Decidable.decide (l = m) = Bool.false) ∧ ((List.getD l (Int.toNat (↑x : Int)) (0 : Int) != List.getD m (Int.toNat (↑x : Int)) (0 : Int)) = Bool.false → True ∧ ((-9223372036854775808 : Int) ≤ (↑x : Int) + (1 : Int) ∧ (↑x : Int) + (1 : Int) ≤ (9223372036854775807 : Int)) ∧ True ∧ ∃ (y : Nat), (y ≤ (16 : Nat) ∧ List.take y l = List.take y m) ∧ (16 : Nat) - y < (16 : Nat) - x ∧ ((([Go.IntKind.i64] = [Go.IntKind.i64] ∧ (16 : Nat) = (16 : Nat) ∧ l = l) ∧ True) ∧ (([Go.IntKind.i64] = [Go.IntKind.i64] ∧ (16 : Nat) = (16 : Nat) ∧ m = m) ∧ True) ∧ Go.Sx.Cel.ptr (0 : Nat) (0 : Nat) = Go.Sx.Cel.ptr (0 : Nat) (0 : Nat) ∧ Go.Sx.Cel.ptr (1 : Nat) (0 : Nat) = Go.Sx.Cel.ptr (1 : Nat) (0 : Nat) ∧ True ∧ (Go.IntKind.i64 = Go.IntKind.i64 ∧ (↑x : Int) + (1 : Int) = (↑y : Int)) ∧ True ∧ True ∧ True ∧ True ∧ True ∧ True ∧ True ∧ True ∧ True ∧ True ∧ True ∧ True) ∧ (Bool.true = Bool.true ∧ (40 : Nat) = (40 : Nat) ∧ ([Go.IntKind.i64] = [Go.IntKind.i64] ∧ (16 : Nat) = (16 : Nat) ∧ l = l) ∧ True) ∧ (Bool.true = Bool.true ∧ (40 : Nat) = (40 : Nat) ∧ ([Go.IntKind.i64] = [Go.IntKind.i64] ∧ (16 : Nat) = (16 : Nat) ∧ m = m) ∧ True) ∧ True)) ∧ (Decidable.decide ((↑x : Int) < (16 : Int)) = Bool.false → True ∧ Decidable.decide (l = m) = Bool.true)) (by kernel_rfl) ?_
  simp only [true_and, and_true, and_self]
  refine ⟨⟨0, ⟨by omega, by simp⟩, rfl⟩, ?_⟩
  rintro k ⟨h1, h2⟩
  refine ⟨fun hlt => ?_, fun hge => ?_⟩
  · have hlt : k < 16 := by have := of_decide_eq_true hlt; omega
    refine ⟨by omega, by omega, by omega, by omega, fun hne => ?_, fun he => ?_⟩
    · have hne : l.getD k 0 ≠ m.getD k 0 := by simpa using hne
      exact decide_eq_false fun e => hne (by rw [e])
    · have he : l.getD k 0 = m.getD k 0 := by simpa using he
      refine ⟨by omega, k + 1, ⟨by omega, ?_⟩, by omega, by simp⟩
      rw [List.take_add_one, List.take_add_one, h2]
      have : l[k]? = m[k]? := by
        simp [List.getD, hl, hm, hlt] at he
        simp [hl, hm, hlt, he]
      rw [this]
  · have hge : ¬ (k : Int) < 16 := by simpa using hge
    have : k = 16 := by omega
    subst this
    rw [List.take_of_length_le (by omega), List.take_of_length_le (by omega)] at h2
    exact decide_eq_true h2

def gEq16 : Entry := fun args _ => match args with
  | [.a (.agg [.run [.i64] 16 l]), .a (.agg [.run [.i64] 16 m])] => some (True, .a (.c (.bool (decide (l = m)))))
  | _ => none

theorem e_eq16 : EntryOk Try.prog 28 gEq16 := by
  refine ⟨fnOk Try.func28 (by kernel_rfl) rfl, ?_⟩
  intro args H p r he hp n0 w0 β w vals hH hA
  unfold gEq16 at he
  split at he
  · rename_i l m
    simp only [Option.some.injEq, Prod.mk.injEq] at he
    obtain ⟨rfl, rfl⟩ := he
    have hl : l.length = 16 := by obtain ⟨v, _, _, h, _⟩ := hA; exact run_len h
    have hm : m.length = 16 := by obtain ⟨v, _, _, _, v2, _, _, h, _⟩ := hA; exact run_len h
    exact entry_bare tt_ok (inlN_ok tt_ok (ctrOf_ok E2_ok) mixed IL_ok.ok 3) (ctrOf_ok E2_ok) mixed Try.func28 (x_eq16 l m hl hm) rfl rfl hA
  · simp at he

def ECnt : List (FuncId × Entry) := (25, gCnt) :: (27, gCnt) :: (28, gEq16) :: E7
theorem ECnt_ok : EntriesOk Try.prog ECnt := ⟨e_CountColoursS, e_CountColoursI, e_eq16, E7_ok⟩

end Go.Proofs.Ytloibkfkdednoaa
