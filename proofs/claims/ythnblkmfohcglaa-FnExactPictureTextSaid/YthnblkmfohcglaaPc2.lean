/- Pictures: validity, parts, places, on both sides. Each is proved to compute a plain function. No conditions beyond the ranges of the kinds. -/
import Derived.Test.YthnblkmfohcglaaPc1
set_option linter.unusedSimpArgs false
set_option linter.unusedVariables false
namespace Go.Proofs.Ythnblkmfohcglaa
open Go.Sx Go.RowKit

theorem okC_iff {w h : Int} {l : List Int} {i : Nat} : okC w h l i = true ↔ l.getD i 0 < 16 ∧ ((((i % 12 : Nat) : Int) < w ∧ ((i / 12 : Nat) : Int) < h) ∨ l.getD i 0 = 0) := by
  simp [okC, isB]

theorem okB_side {w h : Int} {l : List Int} (hn : ¬ (1 ≤ w ∧ w ≤ 12 ∧ 1 ≤ h ∧ h ≤ 12)) : okB w h l = false := by
  rw [Bool.eq_false_iff, ne_eq]
  intro e
  simp only [okB, Bool.and_eq_true, decide_eq_true_eq] at e
  exact hn ⟨e.1.1.1, e.1.1.2, e.1.2.1, e.1.2.2⟩

theorem okB_bad {w h : Int} {l : List Int} {i : Nat} (hi : i < 144) (hb : okC w h l i = false) : okB w h l = false := by
  rw [Bool.eq_false_iff, ne_eq]
  intro e
  simp only [okB, Bool.and_eq_true, List.all_eq_true] at e
  have := e.2 i (by simpa using hi)
  rw [hb] at this; simp at this

def lmOk (w h : Int) (l : List Int) : LAnn := { ι := Nat, inv := fun _ k => k ≤ 144 ∧ (List.range k).all (okC w h l) = true, slots := fun _ k => [(3, .a (.c (.int .i64 k)))], blks := fun _ _ => [], μ := fun _ k => 144 - k }

set_option maxRecDepth 100000 in
set_option maxHeartbeats 4000000 in
theorem x_l01Ok (w h : Int) (l : List Int) (r : Rg w h l) : Fex true TT (inlN true TT (ctrOf E4) (lookI IL) 3) (ctrOf E4) (fun _ => .inv (lmOk w h l)) Try.f7 [.a (.c (.ptr 0 0))] [.cells false 27 (picB w h l)] (fun lv _ => leL lv (.a (.c (.bool (okB w h l))))) := by
  refine Go.Sx.by_eq (q := True ∧ True ∧ True ∧ True ∧ True ∧ ((-9223372036854775808 : Int) ≤ w ∧ w ≤ (9223372036854775807 : Int)) ∧ True ∧ True ∧ True ∧ True ∧ True ∧ (Decidable.decide ((1 : Int) ≤ w) = Bool.true → True ∧ True ∧ True ∧ True ∧ True ∧ True ∧ True ∧ ((!Decidable.decide (w ≤ (12 : Int))) = Bool.false → True ∧ True ∧ True ∧ True ∧ ((-9223372036854775808 : Int) ≤ h ∧ h ≤ (9223372036854775807 : Int)) ∧ True ∧ True ∧ True ∧ True ∧ True ∧ (Decidable.decide ((1 : Int) ≤ h) = Bool.true → True ∧ True ∧ True ∧ True ∧ True ∧ True ∧ True ∧ ((!Decidable.decide (h ≤ (12 : Int))) = Bool.true → True ∧ okB w h l = Bool.false) ∧ ((!Decidable.decide (h ≤ (12 : Int))) = Bool.false → True ∧ (∃ (x : Nat), (x ≤ (144 : Nat) ∧ List.all (List.range x) (okC w h l) = Bool.true) ∧ (Go.Sx.Cel.ptr (0 : Nat) (0 : Nat) = Go.Sx.Cel.ptr (0 : Nat) (0 : Nat) ∧ Go.Sx.Cel.val Go.undef = Go.Sx.Cel.val Go.undef ∧ True ∧ (Go.IntKind.i64 = Go.IntKind.i64 ∧ (0 : Int) = (↑x : Int)) ∧ Go.Sx.Cel.ptr (0 : Nat) (0 : Nat) = Go.Sx.Cel.ptr (0 : Nat) (0 : Nat) ∧ Go.Sx.Cel.ptr (0 : Nat) (0 : Nat) = Go.Sx.Cel.ptr (0 : Nat) (0 : Nat) ∧ Go.Sx.Cel.ptr (0 : Nat) (0 : Nat) = Go.Sx.Cel.ptr (0 : Nat) (0 : Nat) ∧ (Go.IntKind.i8 = Go.IntKind.i8 ∧ w = w) ∧ (Go.IntKind.i64 = Go.IntKind.i64 ∧ w = w) ∧ Decidable.decide (w ≤ (12 : Int)) = Decidable.decide (w ≤ (12 : Int)) ∧ (!Decidable.decide (w ≤ (12 : Int))) = !Decidable.decide (w ≤ (12 : Int)) ∧ True ∧ Go.Sx.Cel.ptr (0 : Nat) (0 : Nat) = Go.Sx.Cel.ptr (0 : Nat) (0 : Nat) ∧ Go.Sx.Cel.ptr (0 : Nat) (0 : Nat) = Go.Sx.Cel.ptr (0 : Nat) (0 : Nat) ∧ Go.Sx.Cel.ptr (0 : Nat) (1 : Nat) = Go.Sx.Cel.ptr (0 : Nat) (1 : Nat) ∧ (Go.IntKind.i8 = Go.IntKind.i8 ∧ h = h) ∧ (Go.IntKind.i64 = Go.IntKind.i64 ∧ h = h) ∧ Decidable.decide (h ≤ (12 : Int)) = Decidable.decide (h ≤ (12 : Int)) ∧ (!Decidable.decide (h ≤ (12 : Int))) = !Decidable.decide (h ≤ (12 : Int)) ∧ (!Decidable.decide (h ≤ (12 : Int))) = !Decidable.decide (h ≤ (12 : Int)) ∧ True ∧ True ∧ True ∧ True ∧ True ∧ True ∧ True ∧ True ∧ True ∧ True ∧ True ∧ True ∧ True ∧ True ∧ True ∧ True ∧ True ∧ True ∧ True ∧ True ∧ True ∧ True ∧ True ∧ True ∧ True ∧ True ∧ True) ∧ (Bool.false = Bool.false ∧ (27 : Nat) = (27 : Nat) ∧ (Go.IntKind.i8 = Go.IntKind.i8 ∧ w = w) ∧ (Go.IntKind.i8 = Go.IntKind.i8 ∧ h = h) ∧ ([Go.Sx.EK.u8] = [Go.Sx.EK.u8] ∧ (144 : Nat) = (144 : Nat) ∧ l = l) ∧ True) ∧ True) ∧ ∀ (x : Nat), x ≤ (144 : Nat) ∧ List.all (List.range x) (okC w h l) = Bool.true → True ∧ True ∧ (Decidable.decide ((↑x : Int) < (144 : Int)) = Bool.true → True ∧ True ∧ True ∧ True ∧ ((0 : Int) ≤ (↑x : Int) ∧ (↑x : Int) < (↑(144 : Nat) : Int)) ∧ ((0 : Int) ≤ (↑x : Int) ∧ Int.toNat (↑x : Int) < (144 : Nat)) ∧ True ∧ True ∧ (Decidable.decide ((16 : Int) ≤ List.getD l (Int.toNat (↑x : Int)) (0 : Int)) = Bool.false → True ∧ True ∧ True ∧ True ∧ True ∧ True ∧ True ∧ True ∧ True ∧ (Decidable.decide ((0 : Int) ≤ (↑x : Int)) = Bool.true → True ∧ True ∧ True ∧ True ∧ True ∧ True ∧ (Decidable.decide ((↑x : Int) ≤ (143 : Int)) = Bool.true → True ∧ (12 : Int) ≠ (0 : Int) ∧ True ∧ True ∧ True ∧ True ∧ ((-9223372036854775808 : Int) ≤ w ∧ w ≤ (9223372036854775807 : Int)) ∧ True ∧ True ∧ True ∧ (Decidable.decide (Int.tmod (↑x : Int) (12 : Int) < w) = Bool.true → True ∧ ((12 : Int) ≠ (0 : Int) ∧ (-9223372036854775808 : Int) ≤ Int.tdiv (↑x : Int) (12 : Int) ∧ Int.tdiv (↑x : Int) (12 : Int) ≤ (9223372036854775807 : Int)) ∧ True ∧ True ∧ True ∧ True ∧ ((-9223372036854775808 : Int) ≤ h ∧ h ≤ (9223372036854775807 : Int)) ∧ True ∧ True ∧ True ∧ True ∧ True ∧ ((!Decidable.decide (Int.tdiv (↑x : Int) (12 : Int) < h)) = Bool.true → True ∧ True ∧ True ∧ True ∧ ((0 : Int) ≤ (↑x : Int) ∧ (↑x : Int) < (↑(144 : Nat) : Int)) ∧ ((0 : Int) ≤ (↑x : Int) ∧ Int.toNat (↑x : Int) < (144 : Nat)) ∧ True ∧ True ∧ True ∧ ((List.getD l (Int.toNat (↑x : Int)) (0 : Int) != (0 : Int)) = Bool.true → True ∧ okB w h l = Bool.false) ∧ ((List.getD l (Int.toNat (↑x : Int)) (0 : Int) != (0 : Int)) = Bool.false → True ∧ ((-9223372036854775808 : Int) ≤ (↑x : Int) + (1 : Int) ∧ (↑x : Int) + (1 : Int) ≤ (9223372036854775807 : Int)) ∧ True ∧ ∃ (y : Nat), (y ≤ (144 : Nat) ∧ List.all (List.range y) (okC w h l) = Bool.true) ∧ (144 : Nat) - y < (144 : Nat) - x ∧ (Go.Sx.Cel.ptr (0 : Nat) (0 : Nat) = Go.Sx.Cel.ptr (0 : Nat) (0 : Nat) ∧ Go.Sx.Cel.val Go.undef = Go.Sx.Cel.val Go.undef ∧ True ∧ (Go.IntKind.i64 = Go.IntKind.i64 ∧ (↑x : Int) + (1 : Int) = (↑y : Int)) ∧ Go.Sx.Cel.ptr (0 : Nat) (0 : Nat) = Go.Sx.Cel.ptr (0 : Nat) (0 : Nat) ∧ Go.Sx.Cel.ptr (0 : Nat) (0 : Nat) = Go.Sx.Cel.ptr (0 : Nat) (0 : Nat) ∧ Go.Sx.Cel.ptr (0 : Nat) (0 : Nat) = Go.Sx.Cel.ptr (0 : Nat) (0 : Nat) ∧ (Go.IntKind.i8 = Go.IntKind.i8 ∧ w = w) ∧ (Go.IntKind.i64 = Go.IntKind.i64 ∧ w = w) ∧ Decidable.decide (w ≤ (12 : Int)) = Decidable.decide (w ≤ (12 : Int)) ∧ (!Decidable.decide (w ≤ (12 : Int))) = !Decidable.decide (w ≤ (12 : Int)) ∧ True ∧ Go.Sx.Cel.ptr (0 : Nat) (0 : Nat) = Go.Sx.Cel.ptr (0 : Nat) (0 : Nat) ∧ Go.Sx.Cel.ptr (0 : Nat) (0 : Nat) = Go.Sx.Cel.ptr (0 : Nat) (0 : Nat) ∧ Go.Sx.Cel.ptr (0 : Nat) (1 : Nat) = Go.Sx.Cel.ptr (0 : Nat) (1 : Nat) ∧ (Go.IntKind.i8 = Go.IntKind.i8 ∧ h = h) ∧ (Go.IntKind.i64 = Go.IntKind.i64 ∧ h = h) ∧ Decidable.decide (h ≤ (12 : Int)) = Decidable.decide (h ≤ (12 : Int)) ∧ (!Decidable.decide (h ≤ (12 : Int))) = !Decidable.decide (h ≤ (12 : Int)) ∧ (!Decidable.decide (h ≤ (12 : Int))) = !Decidable.decide (h ≤ (12 : Int)) ∧ True ∧ True ∧ True ∧ True ∧ True ∧ True ∧ True ∧ True ∧ True ∧ True ∧ True ∧ True ∧ True ∧ True ∧ True ∧ True ∧ True ∧ True ∧ True ∧ True ∧ True ∧ True ∧ True ∧ True ∧ True ∧ True ∧ True) ∧ (Bool.false = Bool.false ∧ (27 : Nat) = (27 : Nat) ∧ (Go.IntKind.i8 = Go.IntKind.i8 ∧ w = w) ∧ (Go.IntKind.i8 = Go.IntKind.i8 ∧ h = h) ∧ ([Go.Sx.EK.u8] = [Go.Sx.EK.u8] ∧ (144 : Nat) = (144 : Nat) ∧ l = l) ∧ True) ∧ True)) ∧ ((!Decidable.decide (Int.tdiv (↑x : Int) (12 : Int) < h)) = !Bool.true → True ∧ True ∧ True ∧ ((-9223372036854775808 : Int) ≤ (↑x : Int) + (1 : Int) ∧ (↑x : Int) + (1 : Int) ≤ (9223372036854775807 : Int)) ∧ True ∧ ∃ (y : Nat), (y ≤ (144 : Nat) ∧ List.all (List.range y) (okC w h l) = Bool.true) ∧ (144 : Nat) - y < (144 : Nat) - x ∧ (Go.Sx.Cel.ptr (0 : Nat) (0 : Nat) = Go.Sx.Cel.ptr (0 : Nat) (0 : Nat) ∧ Go.Sx.Cel.val Go.undef = Go.Sx.Cel.val Go.undef ∧ True ∧ (Go.IntKind.i64 = Go.IntKind.i64 ∧ (↑x : Int) + (1 : Int) = (↑y : Int)) ∧ Go.Sx.Cel.ptr (0 : Nat) (0 : Nat) = Go.Sx.Cel.ptr (0 : Nat) (0 : Nat) ∧ Go.Sx.Cel.ptr (0 : Nat) (0 : Nat) = Go.Sx.Cel.ptr (0 : Nat) (0 : Nat) ∧ Go.Sx.Cel.ptr (0 : Nat) (0 : Nat) = Go.Sx.Cel.ptr (0 : Nat) (0 : Nat) ∧ (Go.IntKind.i8 = Go.IntKind.i8 ∧ w = w) ∧ (Go.IntKind.i64 = Go.IntKind.i64 ∧ w = w) ∧ Decidable.decide (w ≤ (12 : Int)) = Decidable.decide (w ≤ (12 : Int)) ∧ (!Decidable.decide (w ≤ (12 : Int))) = !Decidable.decide (w ≤ (12 : Int)) ∧ True ∧ Go.Sx.Cel.ptr (0 : Nat) (0 : Nat) = Go.Sx.Cel.ptr (0 : Nat) (0 : Nat) ∧ Go.Sx.Cel.ptr (0 : Nat) (0 : Nat) = Go.Sx.Cel.ptr (0 : Nat) (0 : Nat) ∧ Go.Sx.Cel.ptr (0 : Nat) (1 : Nat) = Go.Sx.Cel.ptr (0 : Nat) (1 : Nat) ∧ (Go.IntKind.i8 = Go.IntKind.i8 ∧ h = h) ∧ (Go.IntKind.i64 = Go.IntKind.i64 ∧ h = h) ∧ Decidable.decide (h ≤ (12 : Int)) = Decidable.decide (h ≤ (12 : Int)) ∧ (!Decidable.decide (h ≤ (12 : Int))) = !Decidable.decide (h ≤ (12 : Int)) ∧ (!Decidable.decide (h ≤ (12 : Int))) = !Decidable.decide (h ≤ (12 : Int)) ∧ True ∧ True ∧ True ∧ True ∧ True ∧ True ∧ True ∧ True ∧ True ∧ True ∧ True ∧ True ∧ True ∧ True ∧ True ∧ True ∧ True ∧ True ∧ True ∧ True ∧ True ∧ True ∧ True ∧ True ∧ True ∧ True ∧ True) ∧ (Bool.false = Bool.false ∧ (27 : Nat) = (27 : Nat) ∧ (Go.IntKind.i8 = Go.IntKind.i8 ∧ w = w) ∧ (Go.IntKind.i8 = Go.IntKind.i8 ∧ h = h) ∧ ([Go.Sx.EK.u8] = [Go.Sx.EK.u8] ∧ (144 : Nat) = (144 : Nat) ∧ l = l) ∧ True) ∧ True)) ∧ (Decidable.decide (Int.tmod (↑x : Int) (12 : Int) < w) = !Bool.true → True ∧ True ∧ True ∧ True ∧ True ∧ True ∧ True ∧ True ∧ ((0 : Int) ≤ (↑x : Int) ∧ (↑x : Int) < (↑(144 : Nat) : Int)) ∧ ((0 : Int) ≤ (↑x : Int) ∧ Int.toNat (↑x : Int) < (144 : Nat)) ∧ True ∧ True ∧ True ∧ ((List.getD l (Int.toNat (↑x : Int)) (0 : Int) != (0 : Int)) = Bool.true → True ∧ okB w h l = Bool.false) ∧ ((List.getD l (Int.toNat (↑x : Int)) (0 : Int) != (0 : Int)) = Bool.false → True ∧ ((-9223372036854775808 : Int) ≤ (↑x : Int) + (1 : Int) ∧ (↑x : Int) + (1 : Int) ≤ (9223372036854775807 : Int)) ∧ True ∧ ∃ (y : Nat), (y ≤ (144 : Nat) ∧ List.all (List.range y) (okC w h l) = Bool.true) ∧ (144 : Nat) - y < (144 : Nat) - x ∧ (Go.Sx.Cel.ptr (0 : Nat) (0 : Nat) = Go.Sx.Cel.ptr (0 : Nat) (0 : Nat) ∧ Go.Sx.Cel.val Go.undef = Go.Sx.Cel.val Go.undef ∧ True ∧ (Go.IntKind.i64 = Go.IntKind.i64 ∧ (↑x : Int) + (1 : Int) = (↑y : Int)) ∧ Go.Sx.Cel.ptr (0 : Nat) (0 : Nat) = Go.Sx.Cel.ptr (0 : Nat) (0 : Nat) ∧ Go.Sx.Cel.ptr (0 : Nat) (0 : Nat) = Go.Sx.Cel.ptr (0 : Nat) (0 : Nat) ∧ Go.Sx.Cel.ptr (0 : Nat) (0 : Nat) = Go.Sx.Cel.ptr (0 : Nat) (0 : Nat) ∧ (Go.IntKind.i8 = Go.IntKind.i8 ∧ w = w) ∧ (Go.IntKind.i64 = Go.IntKind.i64 ∧ w = w) ∧ Decidable.decide (w ≤ (12 : Int)) = Decidable.decide (w ≤ (12 : Int)) ∧ (!Decidable.decide (w ≤ (12 : Int))) = !Decidable.decide (w ≤ (12 : Int)) ∧ True ∧ Go.Sx.Cel.ptr (0 : Nat) (0 : Nat) = Go.Sx.Cel.ptr (0 : Nat) (0 : Nat) ∧ Go.Sx.Cel.ptr (0 : Nat) (0 : Nat) = Go.Sx.Cel.ptr (0 : Nat) (0 : Nat) ∧ Go.Sx.Cel.ptr (0 : Nat) (1 : Nat) = Go.Sx.Cel.ptr (0 : Nat) (1 : Nat) ∧ (Go.IntKind.i8 = Go.IntKind.i8 ∧ h = h) ∧ (Go.IntKind.i64 = Go.IntKind.i64 ∧ h = h) ∧ Decidable.decide (h ≤ (12 : Int)) = Decidable.decide (h ≤ (12 : Int)) ∧ (!Decidable.decide (h ≤ (12 : Int))) = !Decidable.decide (h ≤ (12 : Int)) ∧ (!Decidable.decide (h ≤ (12 : Int))) = !Decidable.decide (h ≤ (12 : Int)) ∧ True ∧ True ∧ True ∧ True ∧ True ∧ True ∧ True ∧ True ∧ True ∧ True ∧ True ∧ True ∧ True ∧ True ∧ True ∧ True ∧ True ∧ True ∧ True ∧ True ∧ True ∧ True ∧ True ∧ True ∧ True ∧ True ∧ True) ∧ (Bool.false = Bool.false ∧ (27 : Nat) = (27 : Nat) ∧ (Go.IntKind.i8 = Go.IntKind.i8 ∧ w = w) ∧ (Go.IntKind.i8 = Go.IntKind.i8 ∧ h = h) ∧ ([Go.Sx.EK.u8] = [Go.Sx.EK.u8] ∧ (144 : Nat) = (144 : Nat) ∧ l = l) ∧ True) ∧ True))) ∧ (Decidable.decide ((↑x : Int) ≤ (143 : Int)) = !Bool.true → True ∧ True ∧ True ∧ True ∧ True ∧ True ∧ True ∧ True ∧ True ∧ True ∧ ((0 : Int) ≤ (↑x : Int) ∧ (↑x : Int) < (↑(144 : Nat) : Int)) ∧ ((0 : Int) ≤ (↑x : Int) ∧ Int.toNat (↑x : Int) < (144 : Nat)) ∧ True ∧ True ∧ True ∧ ((List.getD l (Int.toNat (↑x : Int)) (0 : Int) != (0 : Int)) = Bool.true → True ∧ okB w h l = Bool.false) ∧ ((List.getD l (Int.toNat (↑x : Int)) (0 : Int) != (0 : Int)) = Bool.false → True ∧ ((-9223372036854775808 : Int) ≤ (↑x : Int) + (1 : Int) ∧ (↑x : Int) + (1 : Int) ≤ (9223372036854775807 : Int)) ∧ True ∧ ∃ (y : Nat), (y ≤ (144 : Nat) ∧ List.all (List.range y) (okC w h l) = Bool.true) ∧ (144 : Nat) - y < (144 : Nat) - x ∧ (Go.Sx.Cel.ptr (0 : Nat) (0 : Nat) = Go.Sx.Cel.ptr (0 : Nat) (0 : Nat) ∧ Go.Sx.Cel.val Go.undef = Go.Sx.Cel.val Go.undef ∧ True ∧ (Go.IntKind.i64 = Go.IntKind.i64 ∧ (↑x : Int) + (1 : Int) = (↑y : Int)) ∧ Go.Sx.Cel.ptr (0 : Nat) (0 : Nat) = Go.Sx.Cel.ptr (0 : Nat) (0 : Nat) ∧ Go.Sx.Cel.ptr (0 : Nat) (0 : Nat) = Go.Sx.Cel.ptr (0 : Nat) (0 : Nat) ∧ Go.Sx.Cel.ptr (0 : Nat) (0 : Nat) = Go.Sx.Cel.ptr (0 : Nat) (0 : Nat) ∧ (Go.IntKind.i8 = Go.IntKind.i8 ∧ w = w) ∧ (Go.IntKind.i64 = Go.IntKind.i64 ∧ w = w) ∧ Decidable.decide (w ≤ (12 : Int)) = Decidable.decide (w ≤ (12 : Int)) ∧ (!Decidable.decide (w ≤ (12 : Int))) = !Decidable.decide (w ≤ (12 : Int)) ∧ True ∧ Go.Sx.Cel.ptr (0 : Nat) (0 : Nat) = Go.Sx.Cel.ptr (0 : Nat) (0 : Nat) ∧ Go.Sx.Cel.ptr (0 : Nat) (0 : Nat) = Go.Sx.Cel.ptr (0 : Nat) (0 : Nat) ∧ Go.Sx.Cel.ptr (0 : Nat) (1 : Nat) = Go.Sx.Cel.ptr (0 : Nat) (1 : Nat) ∧ (Go.IntKind.i8 = Go.IntKind.i8 ∧ h = h) ∧ (Go.IntKind.i64 = Go.IntKind.i64 ∧ h = h) ∧ Decidable.decide (h ≤ (12 : Int)) = Decidable.decide (h ≤ (12 : Int)) ∧ (!Decidable.decide (h ≤ (12 : Int))) = !Decidable.decide (h ≤ (12 : Int)) ∧ (!Decidable.decide (h ≤ (12 : Int))) = !Decidable.decide (h ≤ (12 : Int)) ∧ True ∧ True ∧ True ∧ True ∧ True ∧ True ∧ True ∧ True ∧ True ∧ True ∧ True ∧ True ∧ True ∧ True ∧ True ∧ True ∧ True ∧ True ∧ True ∧ True ∧ True ∧ True ∧ True ∧ True ∧ True ∧ True ∧ True) ∧ (Bool.false = Bool.false ∧ (27 : Nat) = (27 : Nat) ∧ (Go.IntKind.i8 = Go.IntKind.i8 ∧ w = w) ∧ (Go.IntKind.i8 = Go.IntKind.i8 ∧ h = h) ∧ ([Go.Sx.EK.u8] = [Go.Sx.EK.u8] ∧ (144 : Nat) = (144 : Nat) ∧ l = l) ∧ True) ∧ True))) ∧ (Decidable.decide ((0 : Int) ≤ (↑x : Int)) = !Bool.true → True ∧ True ∧ True ∧ True ∧ True ∧ True ∧ True ∧ True ∧ True ∧ True ∧ True ∧ True ∧ True ∧ ((0 : Int) ≤ (↑x : Int) ∧ (↑x : Int) < (↑(144 : Nat) : Int)) ∧ ((0 : Int) ≤ (↑x : Int) ∧ Int.toNat (↑x : Int) < (144 : Nat)) ∧ True ∧ True ∧ True ∧ ((List.getD l (Int.toNat (↑x : Int)) (0 : Int) != (0 : Int)) = Bool.true → True ∧ okB w h l = Bool.false) ∧ ((List.getD l (Int.toNat (↑x : Int)) (0 : Int) != (0 : Int)) = Bool.false → True ∧ ((-9223372036854775808 : Int) ≤ (↑x : Int) + (1 : Int) ∧ (↑x : Int) + (1 : Int) ≤ (9223372036854775807 : Int)) ∧ True ∧ ∃ (y : Nat), (y ≤ (144 : Nat) ∧ List.all (List.range y) (okC w h l) = Bool.true) ∧ (144 : Nat) - y < (144 : Nat) - x ∧ (Go.Sx.Cel.ptr (0 : Nat) (0 : Nat) = Go.Sx.Cel.ptr (0 : Nat) (0 : Nat) ∧ Go.Sx.Cel.val Go.undef = Go.Sx.Cel.val Go.undef ∧ True ∧ (Go.IntKind.i64 = Go.IntKind.i64 ∧ (↑x : Int) + (1 : Int) = (↑y : Int)) ∧ Go.Sx.Cel.ptr (0 : Nat) (0 : Nat) = Go.Sx.Cel.ptr (0 : Nat) (0 : Nat) ∧ Go.Sx.Cel.ptr (0 : Nat) (0 : Nat) = Go.Sx.Cel.ptr (0 : Nat) (0 : Nat) ∧ Go.Sx.Cel.ptr (0 : Nat) (0 : Nat) = Go.Sx.Cel.ptr (0 : Nat) (0 : Nat) ∧ (Go.IntKind.i8 = Go.IntKind.i8 ∧ w = w) ∧ (Go.IntKind.i64 = Go.IntKind.i64 ∧ w = w) ∧ Decidable.decide (w ≤ (12 : Int)) = Decidable.decide (w ≤ (12 : Int)) ∧ (!Decidable.decide (w ≤ (12 : Int))) = !Decidable.decide (w ≤ (12 : Int)) ∧ True ∧ Go.Sx.Cel.ptr (0 : Nat) (0 : Nat) = Go.Sx.Cel.ptr (0 : Nat) (0 : Nat) ∧ Go.Sx.Cel.ptr (0 : Nat) (0 : Nat) = Go.Sx.Cel.ptr (0 : Nat) (0 : Nat) ∧ Go.Sx.Cel.ptr (0 : Nat) (1 : Nat) = Go.Sx.Cel.ptr (0 : Nat) (1 : Nat) ∧ (Go.IntKind.i8 = Go.IntKind.i8 ∧ h = h) ∧ (Go.IntKind.i64 = Go.IntKind.i64 ∧ h = h) ∧ Decidable.decide (h ≤ (12 : Int)) = Decidable.decide (h ≤ (12 : Int)) ∧ (!Decidable.decide (h ≤ (12 : Int))) = !Decidable.decide (h ≤ (12 : Int)) ∧ (!Decidable.decide (h ≤ (12 : Int))) = !Decidable.decide (h ≤ (12 : Int)) ∧ True ∧ True ∧ True ∧ True ∧ True ∧ True ∧ True ∧ True ∧ True ∧ True ∧ True ∧ True ∧ True ∧ True ∧ True ∧ True ∧ True ∧ True ∧ True ∧ True ∧ True ∧ True ∧ True ∧ True ∧ True ∧ True ∧ True) ∧ (Bool.false = Bool.false ∧ (27 : Nat) = (27 : Nat) ∧ (Go.IntKind.i8 = Go.IntKind.i8 ∧ w = w) ∧ (Go.IntKind.i8 = Go.IntKind.i8 ∧ h = h) ∧ ([Go.Sx.EK.u8] = [Go.Sx.EK.u8] ∧ (144 : Nat) = (144 : Nat) ∧ l = l) ∧ True) ∧ True))) ∧ (Decidable.decide ((16 : Int) ≤ List.getD l (Int.toNat (↑x : Int)) (0 : Int)) = !Bool.false → True ∧ True ∧ okB w h l = Bool.false)) ∧ (Decidable.decide ((↑x : Int) < (144 : Int)) = Bool.false → True ∧ okB w h l = Bool.true))) ∧ (Decidable.decide ((1 : Int) ≤ h) = !Bool.true → True ∧ True ∧ True ∧ True ∧ True ∧ okB w h l = Bool.false)) ∧ ((!Decidable.decide (w ≤ (12 : Int))) = !Bool.false → True ∧ True ∧ okB w h l = Bool.false)) ∧ (Decidable.decide ((1 : Int) ≤ w) = !Bool.true → True ∧ True ∧ True ∧ True ∧ True ∧ True ∧ okB w h l = Bool.false)) (by kernel_rfl) ?_
  have rw1 := r.w1; have rw2 := r.w2; have rh1 := r.h1; have rh2 := r.h2
  simp only [true_and, and_true, and_self, decide_eq_true_eq, decide_eq_false_iff_not, Bool.not_eq_true', Bool.not_eq_false', Bool.not_true, Bool.not_false, bne_iff_ne, bne_eq_false_iff_eq, ne_eq, Int.toNat_natCast, not_false_eq_true, Int.reduceEq]
  refine ⟨by omega, fun a1 => ⟨fun a2 => ⟨by omega, fun a3 => ⟨fun a4 => okB_side (by omega), fun a4 => ⟨⟨0, by simp⟩, ?_⟩⟩, fun a3 => okB_side (by omega)⟩, fun a2 => okB_side (by omega)⟩, fun a1 => okB_side (by omega)⟩
  rintro k ⟨hk, hall⟩
  have step : k < 144 → okC w h l k = true → ∃ y : Nat, (y ≤ 144 ∧ (List.range y).all (okC w h l) = true) ∧ 144 - y < 144 - k ∧ (k : Int) + 1 = (y : Int) := by
    intro h1 h2
    exact ⟨k + 1, ⟨by omega, by rw [List.range_succ, List.all_append, hall]; simp [h2]⟩, by omega, by simp⟩
  have e1 : (k : Int).tmod 12 = ((k % 12 : Nat) : Int) := rfl
  have e2 : (k : Int).tdiv 12 = ((k / 12 : Nat) : Int) := rfl
  rw [e1, e2]
  refine ⟨fun hlt => ?_, fun hge => ?_⟩
  · have hlt : k < 144 := by omega
    repeat' (first | apply And.intro | intro _)
    all_goals first
      | omega
      | exact step hlt (okC_iff.2 (by omega))
      | exact okB_bad hlt (by rw [Bool.eq_false_iff, ne_eq, okC_iff]; omega)
  · have : k = 144 := by omega
    subst this
    simp [okB, a1, a2, a3, a4]
    simpa using hall

/-- The part of a picture's cells, as many rows as said. -/
def partL (l : List Int) (x y wide : Int) (k : Nat) : List Int := (List.range 144).map fun i => if ((i % 12 : Nat) : Int) < wide ∧ i / 12 < k then l.getD (x.toNat + i % 12 + 12 * (y.toNat + i / 12)) 0 else 0

theorem partL_get {l : List Int} {x y wide : Int} {k i : Nat} (h : i < 144) : (partL l x y wide k)[i]? = some (if ((i % 12 : Nat) : Int) < wide ∧ i / 12 < k then l.getD (x.toNat + i % 12 + 12 * (y.toNat + i / 12)) 0 else 0) := by
  simp [partL, h]

theorem partL_len {l : List Int} {x y wide : Int} {k : Nat} : (partL l x y wide k).length = 144 := by simp [partL]

theorem partL_zero {l : List Int} {x y wide : Int} : List.replicate 144 0 = partL l x y wide 0 := by
  apply List.ext_getElem?
  intro i
  by_cases h : i < 144
  · rw [partL_get h, if_neg (by omega), List.getElem?_replicate, if_pos h]
  · rw [List.getElem?_eq_none (by rw [List.length_replicate]; omega), List.getElem?_eq_none (by rw [partL_len]; omega)]

theorem partL_step {l : List Int} {x y wide : Int} {k : Nat} (hl : l.length = 144) (x0 : 0 ≤ x) (y0 : 0 ≤ y) (w0 : 0 ≤ wide) (xw : x + wide ≤ 12) (yk : y + (k : Int) + 1 ≤ 12) :
    (partL l x y wide k).take (12 * k) ++ (l.drop (x.toNat + 12 * (y.toNat + k))).take wide.toNat ++ (partL l x y wide k).drop (12 * k + wide.toNat) = partL l x y wide (k + 1) := by
  have l1 : ((partL l x y wide k).take (12 * k)).length = 12 * k := by rw [List.length_take, partL_len]; omega
  have l2 : ((l.drop (x.toNat + 12 * (y.toNat + k))).take wide.toNat).length = wide.toNat := by rw [List.length_take, List.length_drop]; omega
  apply List.ext_getElem?
  intro i
  by_cases h : i < 144
  · rw [partL_get h]
    by_cases h1 : i < 12 * k
    · rw [List.append_assoc, List.getElem?_append_left (by omega), List.getElem?_take_of_lt h1, partL_get h]
      have : i / 12 < k := by omega
      have : i / 12 < k + 1 := by omega
      simp [*]
    · by_cases h2 : i < 12 * k + wide.toNat
      · rw [List.getElem?_append_left (by rw [List.length_append]; omega), List.getElem?_append_right (by omega), l1, List.getElem?_take_of_lt (by omega), List.getElem?_drop]
        have e1 : i / 12 = k := by omega
        have e2 : i % 12 = i - 12 * k := by omega
        have e3 : ((i % 12 : Nat) : Int) < wide ∧ i / 12 < k + 1 := by omega
        rw [if_pos e3, e1, e2, List.getD_eq_getElem?_getD, List.getElem?_eq_getElem (by omega), Option.some.injEq]
        rw [show x.toNat + (i - 12 * k) + 12 * (y.toNat + k) = x.toNat + 12 * (y.toNat + k) + (i - 12 * k) by omega, List.getElem?_eq_getElem (by omega)]
        rfl
      · rw [List.getElem?_append_right (by rw [List.length_append]; omega), List.length_append, l1, l2, List.getElem?_drop, show 12 * k + wide.toNat + (i - (12 * k + wide.toNat)) = i by omega, partL_get h]
        by_cases h3 : ((i % 12 : Nat) : Int) < wide ∧ i / 12 < k
        · rw [if_pos h3, if_pos ⟨h3.1, by omega⟩]
        · rw [if_neg h3, if_neg (by omega)]
  · rw [List.getElem?_eq_none (by simp only [List.length_append, l1, l2, List.length_drop, partL_len]; omega), List.getElem?_eq_none (by rw [partL_len]; omega)]

theorem getD_some {l : List Int} {i : Nat} (h : i < l.length) : l[i]? = some (l.getD i 0) := by
  rw [List.getD_eq_getElem?_getD, List.getElem?_eq_getElem h]; rfl

theorem partL_ok {w h : Int} {l : List Int} (hl : l.length = 144) (hs : 1 ≤ w ∧ w ≤ 12 ∧ 1 ≤ h ∧ h ≤ 12) (h16 : ∀ i, i < 144 → l.getD i 0 < 16) : (partL l 0 0 w h.toNat == l) = okB w h l := by
  have key : ∀ i, i < 144 → ((partL l 0 0 w h.toNat)[i]? = l[i]? ↔ okC w h l i = true) := by
    intro i hi
    rw [partL_get hi, getD_some (by omega), Option.some.injEq, okC_iff]
    have := h16 i hi
    have e : (0 : Int).toNat + i % 12 + 12 * ((0 : Int).toNat + i / 12) = i := by simp; omega
    rw [e]
    by_cases c : ((i % 12 : Nat) : Int) < w ∧ i / 12 < h.toNat
    · rw [if_pos c]; constructor
      · intro _; exact ⟨this, .inl (by omega)⟩
      · intro _; rfl
    · rw [if_neg c]; constructor
      · intro e; exact ⟨this, .inr e.symm⟩
      · rintro ⟨_, c' | c'⟩
        · exact absurd (by omega) c
        · exact c'.symm
  rw [Bool.eq_iff_iff, beq_iff_eq]
  constructor
  · intro e
    simp only [okB, Bool.and_eq_true, decide_eq_true_eq, List.all_eq_true, List.mem_range]
    exact ⟨⟨⟨hs.1, hs.2.1⟩, hs.2.2⟩, fun i hi => (key i hi).1 (by rw [e])⟩
  · intro e
    simp only [okB, Bool.and_eq_true, decide_eq_true_eq, List.all_eq_true, List.mem_range] at e
    apply List.ext_getElem?
    intro i
    by_cases hi : i < 144
    · exact (key i hi).2 (e.2 i hi)
    · rw [List.getElem?_eq_none (by rw [partL_len]; omega), List.getElem?_eq_none (by omega)]

def lmPart (l : List Int) (x y wide high : Int) : LAnn := { ι := Nat, inv := fun _ k => (k : Int) ≤ high, slots := fun _ k => [(19, .a (.c (.int .i64 k)))], blks := fun _ k => [(2, [.int .i8 wide, .int .i8 high, .run [.u8] 144 (partL l x y wide k)])], μ := fun _ k => high.toNat - k }

set_option maxRecDepth 100000 in
set_option maxHeartbeats 4000000 in
theorem x_part (w h : Int) (l : List Int) (hl : l.length = 144) (x y wide high : Int) (x0 : 0 ≤ x) (y0 : 0 ≤ y) (w0 : 0 ≤ wide) (h0 : 0 ≤ high) (xw : x + wide ≤ 12) (yh : y + high ≤ 12) :
    Fex true TT (inlN true TT (ctrOf E4) (lookI IL) 3) (ctrOf E4) (fun _ => .inv (lmPart l x y wide high)) Try.f19 [pic w h l, .a (.c (.int .i64 x)), .a (.c (.int .i64 y)), .a (.c (.int .i64 wide)), .a (.c (.int .i64 high))] [] (fun lv _ => leL lv (pic wide high (partL l x y wide high.toNat))) := by
  refine Go.Sx.by_eq (q := True ∧ True ∧ True ∧ True ∧ True ∧ True ∧ True ∧ True ∧ True ∧ True ∧ True ∧ (∃ (x_1 : Nat), (↑x_1 : Int) ≤ high ∧ (((Go.IntKind.i8 = Go.IntKind.i8 ∧ w = w) ∧ (Go.IntKind.i8 = Go.IntKind.i8 ∧ h = h) ∧ ([Go.Sx.EK.u8] = [Go.Sx.EK.u8] ∧ (144 : Nat) = (144 : Nat) ∧ l = l) ∧ True) ∧ (Go.IntKind.i64 = Go.IntKind.i64 ∧ x = x) ∧ (Go.IntKind.i64 = Go.IntKind.i64 ∧ y = y) ∧ (Go.IntKind.i64 = Go.IntKind.i64 ∧ wide = wide) ∧ (Go.IntKind.i64 = Go.IntKind.i64 ∧ high = high) ∧ Go.Sx.Cel.ptr (0 : Nat) (0 : Nat) = Go.Sx.Cel.ptr (0 : Nat) (0 : Nat) ∧ Go.Sx.Cel.val Go.undef = Go.Sx.Cel.val Go.undef ∧ Go.Sx.Cel.val Go.undef = Go.Sx.Cel.val Go.undef ∧ Go.Sx.Cel.val Go.undef = Go.Sx.Cel.val Go.undef ∧ Go.Sx.Cel.val Go.undef = Go.Sx.Cel.val Go.undef ∧ Go.Sx.Cel.ptr (1 : Nat) (0 : Nat) = Go.Sx.Cel.ptr (1 : Nat) (0 : Nat) ∧ Go.Sx.Cel.ptr (2 : Nat) (0 : Nat) = Go.Sx.Cel.ptr (2 : Nat) (0 : Nat) ∧ True ∧ (Go.IntKind.i64 = Go.IntKind.i64 ∧ wide = wide) ∧ (Go.IntKind.i8 = Go.IntKind.i8 ∧ Go.IntKind.wrap Go.IntKind.i8 wide = Go.IntKind.wrap Go.IntKind.i8 wide) ∧ (Go.IntKind.i64 = Go.IntKind.i64 ∧ high = high) ∧ (Go.IntKind.i8 = Go.IntKind.i8 ∧ Go.IntKind.wrap Go.IntKind.i8 high = Go.IntKind.wrap Go.IntKind.i8 high) ∧ ((Go.IntKind.i8 = Go.IntKind.i8 ∧ Go.IntKind.wrap Go.IntKind.i8 wide = Go.IntKind.wrap Go.IntKind.i8 wide) ∧ (Go.IntKind.i8 = Go.IntKind.i8 ∧ Go.IntKind.wrap Go.IntKind.i8 high = Go.IntKind.wrap Go.IntKind.i8 high) ∧ ([Go.Sx.EK.u8] = [Go.Sx.EK.u8] ∧ (144 : Nat) = (144 : Nat) ∧ List.replicate (144 : Nat) (0 : Int) = List.replicate (144 : Nat) (0 : Int)) ∧ True) ∧ (Go.IntKind.i64 = Go.IntKind.i64 ∧ high = high) ∧ (Go.IntKind.i64 = Go.IntKind.i64 ∧ (0 : Int) = (↑x_1 : Int)) ∧ True ∧ True ∧ True ∧ True ∧ True ∧ True ∧ True ∧ True ∧ True ∧ True ∧ True ∧ True ∧ True ∧ Go.Sx.Cel.val Go.undef = Go.Sx.Cel.val Go.undef ∧ True) ∧ (Bool.true = Bool.true ∧ (27 : Nat) = (27 : Nat) ∧ (Go.IntKind.i8 = Go.IntKind.i8 ∧ w = w) ∧ (Go.IntKind.i8 = Go.IntKind.i8 ∧ h = h) ∧ ([Go.Sx.EK.u8] = [Go.Sx.EK.u8] ∧ (144 : Nat) = (144 : Nat) ∧ l = l) ∧ True) ∧ (Bool.true = Bool.true ∧ (27 : Nat) = (27 : Nat) ∧ (Go.IntKind.i8 = Go.IntKind.i8 ∧ (0 : Int) = (0 : Int)) ∧ (Go.IntKind.i8 = Go.IntKind.i8 ∧ (0 : Int) = (0 : Int)) ∧ ([Go.Sx.EK.u8] = [Go.Sx.EK.u8] ∧ (144 : Nat) = (144 : Nat) ∧ List.replicate (144 : Nat) (0 : Int) = List.replicate (144 : Nat) (0 : Int)) ∧ True) ∧ (Bool.true = Bool.true ∧ (27 : Nat) = (27 : Nat) ∧ (Go.IntKind.i8 = Go.IntKind.i8 ∧ Go.IntKind.wrap Go.IntKind.i8 wide = wide) ∧ (Go.IntKind.i8 = Go.IntKind.i8 ∧ Go.IntKind.wrap Go.IntKind.i8 high = high) ∧ ([Go.Sx.EK.u8] = [Go.Sx.EK.u8] ∧ (144 : Nat) = (144 : Nat) ∧ List.replicate (144 : Nat) (0 : Int) = partL l x y wide x_1) ∧ True) ∧ True) ∧ ∀ (x_1 : Nat), (↑x_1 : Int) ≤ high → True ∧ (Decidable.decide ((↑x_1 : Int) < high) = Bool.true → True ∧ True ∧ True ∧ True ∧ True ∧ True ∧ True ∧ True ∧ True ∧ True ∧ ((-9223372036854775808 : Int) ≤ (12 : Int) * (↑x_1 : Int) ∧ (12 : Int) * (↑x_1 : Int) ≤ (9223372036854775807 : Int)) ∧ ((-9223372036854775808 : Int) ≤ (0 : Int) + (12 : Int) * (↑x_1 : Int) ∧ (0 : Int) + (12 : Int) * (↑x_1 : Int) ≤ (9223372036854775807 : Int)) ∧ True ∧ True ∧ True ∧ True ∧ True ∧ True ∧ True ∧ True ∧ ((-9223372036854775808 : Int) ≤ (0 : Int) + (12 : Int) * (↑x_1 : Int) + wide ∧ (0 : Int) + (12 : Int) * (↑x_1 : Int) + wide ≤ (9223372036854775807 : Int)) ∧ True ∧ True ∧ ((-9223372036854775808 : Int) ≤ (0 : Int) + (12 : Int) * (↑x_1 : Int) + wide ∧ (0 : Int) + (12 : Int) * (↑x_1 : Int) + wide ≤ (9223372036854775807 : Int)) ∧ ((0 : Int) ≤ (0 : Int) + (12 : Int) * (↑x_1 : Int) ∧ (0 : Int) + (12 : Int) * (↑x_1 : Int) ≤ (0 : Int) + (12 : Int) * (↑x_1 : Int) + wide ∧ (0 : Int) + (12 : Int) * (↑x_1 : Int) + wide ≤ (0 : Int) + (12 : Int) * (↑x_1 : Int) + wide ∧ (0 : Int) + (12 : Int) * (↑x_1 : Int) + wide ≤ (↑(144 : Nat) : Int)) ∧ True ∧ True ∧ True ∧ True ∧ ((-9223372036854775808 : Int) ≤ y + (↑x_1 : Int) ∧ y + (↑x_1 : Int) ≤ (9223372036854775807 : Int)) ∧ True ∧ True ∧ True ∧ True ∧ True ∧ True ∧ True ∧ ((-9223372036854775808 : Int) ≤ (12 : Int) * (y + (↑x_1 : Int)) ∧ (12 : Int) * (y + (↑x_1 : Int)) ≤ (9223372036854775807 : Int)) ∧ ((-9223372036854775808 : Int) ≤ x + (12 : Int) * (y + (↑x_1 : Int)) ∧ x + (12 : Int) * (y + (↑x_1 : Int)) ≤ (9223372036854775807 : Int)) ∧ True ∧ True ∧ True ∧ True ∧ True ∧ True ∧ True ∧ True ∧ ((-9223372036854775808 : Int) ≤ x + (12 : Int) * (y + (↑x_1 : Int)) + wide ∧ x + (12 : Int) * (y + (↑x_1 : Int)) + wide ≤ (9223372036854775807 : Int)) ∧ True ∧ True ∧ ((-9223372036854775808 : Int) ≤ x + (12 : Int) * (y + (↑x_1 : Int)) + wide ∧ x + (12 : Int) * (y + (↑x_1 : Int)) + wide ≤ (9223372036854775807 : Int)) ∧ ((0 : Int) ≤ x + (12 : Int) * (y + (↑x_1 : Int)) ∧ x + (12 : Int) * (y + (↑x_1 : Int)) ≤ x + (12 : Int) * (y + (↑x_1 : Int)) + wide ∧ x + (12 : Int) * (y + (↑x_1 : Int)) + wide ≤ x + (12 : Int) * (y + (↑x_1 : Int)) + wide ∧ x + (12 : Int) * (y + (↑x_1 : Int)) + wide ≤ (↑(144 : Nat) : Int)) ∧ True ∧ ((0 : Int) ≤ (0 : Int) + (12 : Int) * (↑x_1 : Int) ∧ (0 : Int) ≤ x + (12 : Int) * (y + (↑x_1 : Int)) ∧ (0 : Int) + (12 : Int) * (↑x_1 : Int) + ((0 : Int) + (12 : Int) * (↑x_1 : Int) + wide - ((0 : Int) + (12 : Int) * (↑x_1 : Int))) ≤ (↑(144 : Nat) : Int) ∧ x + (12 : Int) * (y + (↑x_1 : Int)) + (x + (12 : Int) * (y + (↑x_1 : Int)) + wide - (x + (12 : Int) * (y + (↑x_1 : Int)))) ≤ (↑(144 : Nat) : Int)) ∧ ((-9223372036854775808 : Int) ≤ (↑x_1 : Int) + (1 : Int) ∧ (↑x_1 : Int) + (1 : Int) ≤ (9223372036854775807 : Int)) ∧ True ∧ ∃ (y_1 : Nat), (↑y_1 : Int) ≤ high ∧ Int.toNat high - y_1 < Int.toNat high - x_1 ∧ (((Go.IntKind.i8 = Go.IntKind.i8 ∧ w = w) ∧ (Go.IntKind.i8 = Go.IntKind.i8 ∧ h = h) ∧ ([Go.Sx.EK.u8] = [Go.Sx.EK.u8] ∧ (144 : Nat) = (144 : Nat) ∧ l = l) ∧ True) ∧ (Go.IntKind.i64 = Go.IntKind.i64 ∧ x = x) ∧ (Go.IntKind.i64 = Go.IntKind.i64 ∧ y = y) ∧ (Go.IntKind.i64 = Go.IntKind.i64 ∧ wide = wide) ∧ (Go.IntKind.i64 = Go.IntKind.i64 ∧ high = high) ∧ Go.Sx.Cel.ptr (0 : Nat) (0 : Nat) = Go.Sx.Cel.ptr (0 : Nat) (0 : Nat) ∧ Go.Sx.Cel.val Go.undef = Go.Sx.Cel.val Go.undef ∧ Go.Sx.Cel.val Go.undef = Go.Sx.Cel.val Go.undef ∧ Go.Sx.Cel.val Go.undef = Go.Sx.Cel.val Go.undef ∧ Go.Sx.Cel.val Go.undef = Go.Sx.Cel.val Go.undef ∧ Go.Sx.Cel.ptr (1 : Nat) (0 : Nat) = Go.Sx.Cel.ptr (1 : Nat) (0 : Nat) ∧ Go.Sx.Cel.ptr (2 : Nat) (0 : Nat) = Go.Sx.Cel.ptr (2 : Nat) (0 : Nat) ∧ True ∧ (Go.IntKind.i64 = Go.IntKind.i64 ∧ wide = wide) ∧ (Go.IntKind.i8 = Go.IntKind.i8 ∧ Go.IntKind.wrap Go.IntKind.i8 wide = Go.IntKind.wrap Go.IntKind.i8 wide) ∧ (Go.IntKind.i64 = Go.IntKind.i64 ∧ high = high) ∧ (Go.IntKind.i8 = Go.IntKind.i8 ∧ Go.IntKind.wrap Go.IntKind.i8 high = Go.IntKind.wrap Go.IntKind.i8 high) ∧ ((Go.IntKind.i8 = Go.IntKind.i8 ∧ Go.IntKind.wrap Go.IntKind.i8 wide = Go.IntKind.wrap Go.IntKind.i8 wide) ∧ (Go.IntKind.i8 = Go.IntKind.i8 ∧ Go.IntKind.wrap Go.IntKind.i8 high = Go.IntKind.wrap Go.IntKind.i8 high) ∧ ([Go.Sx.EK.u8] = [Go.Sx.EK.u8] ∧ (144 : Nat) = (144 : Nat) ∧ List.replicate (144 : Nat) (0 : Int) = List.replicate (144 : Nat) (0 : Int)) ∧ True) ∧ (Go.IntKind.i64 = Go.IntKind.i64 ∧ high = high) ∧ (Go.IntKind.i64 = Go.IntKind.i64 ∧ (↑x_1 : Int) + (1 : Int) = (↑y_1 : Int)) ∧ True ∧ True ∧ True ∧ True ∧ True ∧ True ∧ True ∧ True ∧ True ∧ True ∧ True ∧ True ∧ True ∧ Go.Sx.Cel.val Go.undef = Go.Sx.Cel.val Go.undef ∧ True) ∧ (Bool.true = Bool.true ∧ (27 : Nat) = (27 : Nat) ∧ (Go.IntKind.i8 = Go.IntKind.i8 ∧ w = w) ∧ (Go.IntKind.i8 = Go.IntKind.i8 ∧ h = h) ∧ ([Go.Sx.EK.u8] = [Go.Sx.EK.u8] ∧ (144 : Nat) = (144 : Nat) ∧ l = l) ∧ True) ∧ (Bool.true = Bool.true ∧ (27 : Nat) = (27 : Nat) ∧ (Go.IntKind.i8 = Go.IntKind.i8 ∧ (0 : Int) = (0 : Int)) ∧ (Go.IntKind.i8 = Go.IntKind.i8 ∧ (0 : Int) = (0 : Int)) ∧ ([Go.Sx.EK.u8] = [Go.Sx.EK.u8] ∧ (144 : Nat) = (144 : Nat) ∧ List.replicate (144 : Nat) (0 : Int) = List.replicate (144 : Nat) (0 : Int)) ∧ True) ∧ (Bool.true = Bool.true ∧ (27 : Nat) = (27 : Nat) ∧ (Go.IntKind.i8 = Go.IntKind.i8 ∧ wide = wide) ∧ (Go.IntKind.i8 = Go.IntKind.i8 ∧ high = high) ∧ ([Go.Sx.EK.u8] = [Go.Sx.EK.u8] ∧ (144 : Nat) = (144 : Nat) ∧ List.take (Int.toNat ((0 : Int) + (12 : Int) * (↑x_1 : Int))) (partL l x y wide x_1) ++ List.take (Min.min (Int.toNat (x + (12 : Int) * (y + (↑x_1 : Int)) + wide - (x + (12 : Int) * (y + (↑x_1 : Int))))) (Int.toNat ((0 : Int) + (12 : Int) * (↑x_1 : Int) + wide - ((0 : Int) + (12 : Int) * (↑x_1 : Int))))) (List.drop (Int.toNat (x + (12 : Int) * (y + (↑x_1 : Int)))) l) ++ List.drop (Int.toNat ((0 : Int) + (12 : Int) * (↑x_1 : Int)) + Min.min (Int.toNat (x + (12 : Int) * (y + (↑x_1 : Int)) + wide - (x + (12 : Int) * (y + (↑x_1 : Int))))) (Int.toNat ((0 : Int) + (12 : Int) * (↑x_1 : Int) + wide - ((0 : Int) + (12 : Int) * (↑x_1 : Int))))) (partL l x y wide x_1) = partL l x y wide y_1) ∧ True) ∧ True) ∧ (Decidable.decide ((↑x_1 : Int) < high) = Bool.false → True ∧ True ∧ (Go.IntKind.i8 = Go.IntKind.i8 ∧ wide = wide) ∧ (Go.IntKind.i8 = Go.IntKind.i8 ∧ high = high) ∧ ([Go.Sx.EK.u8] = [Go.Sx.EK.u8] ∧ (144 : Nat) = (144 : Nat) ∧ partL l x y wide x_1 = partL l x y wide (Int.toNat high)) ∧ True)) (by kernel_rfl) ?_
  have i8 : ∀ z : Int, 0 ≤ z → z ≤ 12 → IntKind.i8.wrap z = z := by
    intro z h1 h2
    simp [IntKind.wrap, IntKind.signed, IntKind.bits]
    omega
  have ww := i8 wide w0 (by omega)
  have wh := i8 high h0 (by omega)
  simp only [true_and, and_true, and_self, decide_eq_true_eq, decide_eq_false_iff_not, ww, wh]
  refine ⟨⟨0, by simpa using h0, by simp, partL_zero⟩, ?_⟩
  intro k hk
  refine ⟨fun hlt => ?_, fun hge => ?_⟩
  · have q1 : (0 + 12 * (k : Int)).toNat = 12 * k := by omega
    have q2 : (x + 12 * (y + (k : Int)) + wide - (x + 12 * (y + (k : Int)))).toNat = wide.toNat := by congr 1; omega
    have q3 : (0 + 12 * (k : Int) + wide - (0 + 12 * (k : Int))).toNat = wide.toNat := by congr 1; omega
    have q4 : (x + 12 * (y + (k : Int))).toNat = x.toNat + 12 * (y.toNat + k) := by omega
    rw [q1, q2, q3, q4, Nat.min_self, partL_step hl x0 y0 w0 xw (by omega)]
    refine ⟨by omega, by omega, by omega, by omega, by omega, by omega, by omega, by omega, by omega, by omega, by omega, by omega, by omega, k + 1, by omega, by omega, by omega, rfl⟩
  · rw [show high.toNat = k by omega]

def gPart : Entry := fun args _ => match args with
  | [.a (.agg [.int .i8 _, .int .i8 _, .run [.u8] 144 l]), .a (.c (.int .i64 x)), .a (.c (.int .i64 y)), .a (.c (.int .i64 wide)), .a (.c (.int .i64 high))] =>
    some (0 ≤ x ∧ 0 ≤ y ∧ 0 ≤ wide ∧ 0 ≤ high ∧ x + wide ≤ 12 ∧ y + high ≤ 12, pic wide high (partL l x y wide high.toNat))
  | _ => none

theorem e_part : EntryOk Try.prog TT 19 gPart := by
  refine ⟨fnOk Try.func19 (by kernel_rfl) rfl, ?_⟩
  intro args H p r he hp n0 w0 β w vals hG hH hA
  unfold gPart at he
  split at he
  · rename_i wd hg l x y wide high
    simp only [Option.some.injEq, Prod.mk.injEq] at he
    obtain ⟨rfl, rfl⟩ := he
    obtain ⟨x0, y0, w0, h0, xw, yh⟩ := hp
    have hl : l.length = 144 := by
      obtain ⟨v, _, _, ⟨arr, _, pr1, rs1, _, _, pr2, rs2, _, _, pr3, rs3, _, h3, _⟩, _⟩ := hA
      exact h3.1
    exact entry_bare tt_ok (inlN_ok tt_ok (ctrOf_ok E4_ok) mixed IL_ok.ok 3) (ctrOf_ok E4_ok) mixed Try.func19 (x_part wd hg l hl x y wide high x0 y0 w0 h0 xw yh) rfl rfl hG hH hA
  · simp at he

def gOk : Entry := fun args H => match args with
  | [.a (.c (.ptr id 0))] => match getB H id with
    | .cells _ 27 [.int .i8 w, .int .i8 h, .run [.u8] 144 l] => some (Rg w h l, .a (.c (.bool (okB w h l))))
    | _ => none
  | _ => none

def E5 : List (FuncId × Entry) := (19, gPart) :: E4
theorem E5_ok : EntriesOk Try.prog TT E5 := ⟨e_part, E4_ok⟩

def lmValid (l : List Int) : LAnn := { ι := Nat, inv := fun _ k => k ≤ 144 ∧ ∀ i, i < k → l.getD i 0 < 16, slots := fun _ k => [(22, .a (.c (.int .i64 k)))], blks := fun _ _ => [], μ := fun _ k => 144 - k }

set_option maxRecDepth 100000 in
theorem x_ValidPictureI (w h : Int) (l : List Int) (r : Rg w h l) : Fex true TT (inlN true TT (ctrOf E5) (lookI IL) 3) (ctrOf E5) (fun _ => .inv (lmValid l)) Try.f10 [pic w h l] [] (fun lv _ => leL lv (.a (.c (.bool (okB w h l))))) := by
  refine Go.Sx.by_eq (q := True ∧ True ∧ True ∧ True ∧ True ∧ True ∧ True ∧ True ∧ ((-9223372036854775808 : Int) ≤ w ∧ w ≤ (9223372036854775807 : Int)) ∧ True ∧ True ∧ ((-9223372036854775808 : Int) ≤ h ∧ h ≤ (9223372036854775807 : Int)) ∧ True ∧ True ∧ True ∧ True ∧ True ∧ True ∧ True ∧ True ∧ True ∧ True ∧ True ∧ True ∧ (Decidable.decide ((1 : Int) ≤ w) = Bool.true → True ∧ True ∧ True ∧ True ∧ True ∧ True ∧ ((!Decidable.decide (w ≤ (12 : Int))) = Bool.false → True ∧ True ∧ True ∧ True ∧ True ∧ (Decidable.decide ((1 : Int) ≤ h) = Bool.true → True ∧ True ∧ True ∧ True ∧ True ∧ True ∧ ((!Decidable.decide (h ≤ (12 : Int))) = Bool.true → True ∧ okB w h l = Bool.false) ∧ ((!Decidable.decide (h ≤ (12 : Int))) = Bool.false → True ∧ True ∧ True ∧ (∃ (x : Nat), (x ≤ (144 : Nat) ∧ ∀ (i : Nat), i < x → List.getD l i (0 : Int) < (16 : Int)) ∧ (((Go.IntKind.i8 = Go.IntKind.i8 ∧ w = w) ∧ (Go.IntKind.i8 = Go.IntKind.i8 ∧ h = h) ∧ ([Go.Sx.EK.u8] = [Go.Sx.EK.u8] ∧ (144 : Nat) = (144 : Nat) ∧ l = l) ∧ True) ∧ Go.Sx.Cel.ptr (0 : Nat) (0 : Nat) = Go.Sx.Cel.ptr (0 : Nat) (0 : Nat) ∧ True ∧ (Go.IntKind.i64 = Go.IntKind.i64 ∧ w = w) ∧ (Go.IntKind.i64 = Go.IntKind.i64 ∧ h = h) ∧ Go.Sx.Cel.val Go.undef = Go.Sx.Cel.val Go.undef ∧ True ∧ ((Go.IntKind.i64 = Go.IntKind.i64 ∧ w = w) ∧ (Go.IntKind.i64 = Go.IntKind.i64 ∧ h = h) ∧ True) ∧ ((Go.IntKind.i8 = Go.IntKind.i8 ∧ w = w) ∧ (Go.IntKind.i8 = Go.IntKind.i8 ∧ h = h) ∧ ([Go.Sx.EK.u8] = [Go.Sx.EK.u8] ∧ (144 : Nat) = (144 : Nat) ∧ l = l) ∧ True) ∧ ((Go.IntKind.i64 = Go.IntKind.i64 ∧ w = w) ∧ (Go.IntKind.i64 = Go.IntKind.i64 ∧ h = h) ∧ True) ∧ (Go.IntKind.i64 = Go.IntKind.i64 ∧ w = w) ∧ (Go.IntKind.i64 = Go.IntKind.i64 ∧ h = h) ∧ (Go.IntKind.i64 = Go.IntKind.i64 ∧ w = w) ∧ Decidable.decide (w ≤ (12 : Int)) = Decidable.decide (w ≤ (12 : Int)) ∧ (!Decidable.decide (w ≤ (12 : Int))) = !Decidable.decide (w ≤ (12 : Int)) ∧ True ∧ (Go.IntKind.i64 = Go.IntKind.i64 ∧ h = h) ∧ Decidable.decide (h ≤ (12 : Int)) = Decidable.decide (h ≤ (12 : Int)) ∧ (!Decidable.decide (h ≤ (12 : Int))) = !Decidable.decide (h ≤ (12 : Int)) ∧ (!Decidable.decide (h ≤ (12 : Int))) = !Decidable.decide (h ≤ (12 : Int)) ∧ Go.Sx.Cel.ptr (0 : Nat) (2 : Nat) = Go.Sx.Cel.ptr (0 : Nat) (2 : Nat) ∧ (([Go.Sx.EK.u8] = [Go.Sx.EK.u8] ∧ (144 : Nat) = (144 : Nat) ∧ l = l) ∧ True) ∧ (Go.IntKind.i64 = Go.IntKind.i64 ∧ (0 : Int) = (↑x : Int)) ∧ True ∧ True ∧ True ∧ True ∧ True ∧ Go.Sx.Cel.val Go.undef = Go.Sx.Cel.val Go.undef ∧ Go.Sx.Cel.val Go.undef = Go.Sx.Cel.val Go.undef ∧ Go.Sx.Cel.val Go.undef = Go.Sx.Cel.val Go.undef ∧ Go.Sx.Cel.val Go.undef = Go.Sx.Cel.val Go.undef ∧ Go.Sx.Cel.val Go.undef = Go.Sx.Cel.val Go.undef ∧ Go.Sx.Cel.val Go.undef = Go.Sx.Cel.val Go.undef ∧ Go.Sx.Cel.val Go.undef = Go.Sx.Cel.val Go.undef ∧ Go.Sx.Cel.val Go.undef = Go.Sx.Cel.val Go.undef ∧ True) ∧ (Bool.true = Bool.true ∧ (27 : Nat) = (27 : Nat) ∧ (Go.IntKind.i8 = Go.IntKind.i8 ∧ w = w) ∧ (Go.IntKind.i8 = Go.IntKind.i8 ∧ h = h) ∧ ([Go.Sx.EK.u8] = [Go.Sx.EK.u8] ∧ (144 : Nat) = (144 : Nat) ∧ l = l) ∧ True) ∧ (Bool.true = Bool.true ∧ (27 : Nat) = (27 : Nat) ∧ (Go.IntKind.i8 = Go.IntKind.i8 ∧ w = w) ∧ (Go.IntKind.i8 = Go.IntKind.i8 ∧ h = h) ∧ ([Go.Sx.EK.u8] = [Go.Sx.EK.u8] ∧ (144 : Nat) = (144 : Nat) ∧ l = l) ∧ True) ∧ True) ∧ ∀ (x : Nat), (x ≤ (144 : Nat) ∧ ∀ (i : Nat), i < x → List.getD l i (0 : Int) < (16 : Int)) → True ∧ (Decidable.decide ((↑x : Int) < (144 : Int)) = Bool.true → (((0 : Int) ≤ (↑x : Int) ∧ (↑x : Int) < (↑(144 : Nat) : Int)) ∧ (0 : Int) ≤ (↑x : Int) ∧ Int.toNat (↑x : Int) < (144 : Nat)) ∧ True ∧ True ∧ True ∧ (Decidable.decide ((16 : Int) ≤ List.getD l (Int.toNat (↑x : Int)) (0 : Int)) = Bool.true → True ∧ okB w h l = Bool.false) ∧ (Decidable.decide ((16 : Int) ≤ List.getD l (Int.toNat (↑x : Int)) (0 : Int)) = Bool.false → ((-9223372036854775808 : Int) ≤ (↑x : Int) + (1 : Int) ∧ (↑x : Int) + (1 : Int) ≤ (9223372036854775807 : Int)) ∧ True ∧ ∃ (y : Nat), (y ≤ (144 : Nat) ∧ ∀ (i : Nat), i < y → List.getD l i (0 : Int) < (16 : Int)) ∧ (144 : Nat) - y < (144 : Nat) - x ∧ (((Go.IntKind.i8 = Go.IntKind.i8 ∧ w = w) ∧ (Go.IntKind.i8 = Go.IntKind.i8 ∧ h = h) ∧ ([Go.Sx.EK.u8] = [Go.Sx.EK.u8] ∧ (144 : Nat) = (144 : Nat) ∧ l = l) ∧ True) ∧ Go.Sx.Cel.ptr (0 : Nat) (0 : Nat) = Go.Sx.Cel.ptr (0 : Nat) (0 : Nat) ∧ True ∧ (Go.IntKind.i64 = Go.IntKind.i64 ∧ w = w) ∧ (Go.IntKind.i64 = Go.IntKind.i64 ∧ h = h) ∧ Go.Sx.Cel.val Go.undef = Go.Sx.Cel.val Go.undef ∧ True ∧ ((Go.IntKind.i64 = Go.IntKind.i64 ∧ w = w) ∧ (Go.IntKind.i64 = Go.IntKind.i64 ∧ h = h) ∧ True) ∧ ((Go.IntKind.i8 = Go.IntKind.i8 ∧ w = w) ∧ (Go.IntKind.i8 = Go.IntKind.i8 ∧ h = h) ∧ ([Go.Sx.EK.u8] = [Go.Sx.EK.u8] ∧ (144 : Nat) = (144 : Nat) ∧ l = l) ∧ True) ∧ ((Go.IntKind.i64 = Go.IntKind.i64 ∧ w = w) ∧ (Go.IntKind.i64 = Go.IntKind.i64 ∧ h = h) ∧ True) ∧ (Go.IntKind.i64 = Go.IntKind.i64 ∧ w = w) ∧ (Go.IntKind.i64 = Go.IntKind.i64 ∧ h = h) ∧ (Go.IntKind.i64 = Go.IntKind.i64 ∧ w = w) ∧ Decidable.decide (w ≤ (12 : Int)) = Decidable.decide (w ≤ (12 : Int)) ∧ (!Decidable.decide (w ≤ (12 : Int))) = !Decidable.decide (w ≤ (12 : Int)) ∧ True ∧ (Go.IntKind.i64 = Go.IntKind.i64 ∧ h = h) ∧ Decidable.decide (h ≤ (12 : Int)) = Decidable.decide (h ≤ (12 : Int)) ∧ (!Decidable.decide (h ≤ (12 : Int))) = !Decidable.decide (h ≤ (12 : Int)) ∧ (!Decidable.decide (h ≤ (12 : Int))) = !Decidable.decide (h ≤ (12 : Int)) ∧ Go.Sx.Cel.ptr (0 : Nat) (2 : Nat) = Go.Sx.Cel.ptr (0 : Nat) (2 : Nat) ∧ (([Go.Sx.EK.u8] = [Go.Sx.EK.u8] ∧ (144 : Nat) = (144 : Nat) ∧ l = l) ∧ True) ∧ (Go.IntKind.i64 = Go.IntKind.i64 ∧ (↑x : Int) + (1 : Int) = (↑y : Int)) ∧ True ∧ True ∧ True ∧ True ∧ True ∧ Go.Sx.Cel.val Go.undef = Go.Sx.Cel.val Go.undef ∧ Go.Sx.Cel.val Go.undef = Go.Sx.Cel.val Go.undef ∧ Go.Sx.Cel.val Go.undef = Go.Sx.Cel.val Go.undef ∧ Go.Sx.Cel.val Go.undef = Go.Sx.Cel.val Go.undef ∧ Go.Sx.Cel.val Go.undef = Go.Sx.Cel.val Go.undef ∧ Go.Sx.Cel.val Go.undef = Go.Sx.Cel.val Go.undef ∧ Go.Sx.Cel.val Go.undef = Go.Sx.Cel.val Go.undef ∧ Go.Sx.Cel.val Go.undef = Go.Sx.Cel.val Go.undef ∧ True) ∧ (Bool.true = Bool.true ∧ (27 : Nat) = (27 : Nat) ∧ (Go.IntKind.i8 = Go.IntKind.i8 ∧ w = w) ∧ (Go.IntKind.i8 = Go.IntKind.i8 ∧ h = h) ∧ ([Go.Sx.EK.u8] = [Go.Sx.EK.u8] ∧ (144 : Nat) = (144 : Nat) ∧ l = l) ∧ True) ∧ (Bool.true = Bool.true ∧ (27 : Nat) = (27 : Nat) ∧ (Go.IntKind.i8 = Go.IntKind.i8 ∧ w = w) ∧ (Go.IntKind.i8 = Go.IntKind.i8 ∧ h = h) ∧ ([Go.Sx.EK.u8] = [Go.Sx.EK.u8] ∧ (144 : Nat) = (144 : Nat) ∧ l = l) ∧ True) ∧ True)) ∧ (Decidable.decide ((↑x : Int) < (144 : Int)) = Bool.false → True ∧ True ∧ True ∧ ((0 : Int) ≤ (0 : Int) ∧ (0 : Int) ≤ (0 : Int) ∧ (0 : Int) ≤ w ∧ (0 : Int) ≤ h ∧ (0 : Int) + w ≤ (12 : Int) ∧ (0 : Int) + h ≤ (12 : Int)) ∧ True ∧ True ∧ True ∧ True ∧ True ∧ (partL l (0 : Int) (0 : Int) w (Int.toNat h) == l) = okB w h l))) ∧ (Decidable.decide ((1 : Int) ≤ h) = !Bool.true → True ∧ True ∧ True ∧ True ∧ True ∧ okB w h l = Bool.false)) ∧ ((!Decidable.decide (w ≤ (12 : Int))) = !Bool.false → True ∧ True ∧ okB w h l = Bool.false)) ∧ (Decidable.decide ((1 : Int) ≤ w) = !Bool.true → True ∧ True ∧ True ∧ True ∧ True ∧ True ∧ okB w h l = Bool.false)) (by kernel_rfl) ?_
  have rw1 := r.w1; have rw2 := r.w2; have rh1 := r.h1; have rh2 := r.h2
  simp only [true_and, and_true, and_self, decide_eq_true_eq, decide_eq_false_iff_not, Bool.not_eq_true', Bool.not_eq_false', Bool.not_true, Bool.not_false, Int.toNat_natCast]
  refine ⟨by omega, by omega, fun a1 => ⟨fun a2 => ⟨fun a3 => ⟨fun a4 => okB_side (by omega), fun a4 => ⟨⟨0, ⟨by omega, fun i hi => by omega⟩, rfl⟩, ?_⟩⟩, fun a3 => okB_side (by omega)⟩, fun a2 => okB_side (by omega)⟩, fun a1 => okB_side (by omega)⟩
  rintro k ⟨hk, hall⟩
  refine ⟨fun hlt => ⟨by omega, fun hb => okB_bad (i := k) (by omega) (by rw [Bool.eq_false_iff, ne_eq, okC_iff]; omega), fun hs => ⟨by omega, k + 1, ⟨by omega, fun i hi => ?_⟩, by omega, by omega⟩⟩, fun hge => ⟨by omega, partL_ok r.len (by omega) (fun i hi => hall i (by omega))⟩⟩
  rcases Nat.lt_succ_iff_lt_or_eq.1 hi with h1 | rfl
  · exact hall i h1
  · omega

def gValid : Entry := fun args _ => match args with
  | [.a (.agg [.int .i8 w, .int .i8 h, .run [.u8] 144 l])] => some (Rg w h l, .a (.c (.bool (okB w h l))))
  | _ => none

theorem e_ValidPictureI : EntryOk Try.prog TT 10 gValid := by
  refine ⟨fnOk Try.func10 (by kernel_rfl) rfl, ?_⟩
  intro args H p r he hp n0 w0 β w vals hG hH hA
  unfold gValid at he
  split at he
  · rename_i wd hg l
    simp only [Option.some.injEq, Prod.mk.injEq] at he
    obtain ⟨rfl, rfl⟩ := he
    exact entry_bare tt_ok (inlN_ok tt_ok (ctrOf_ok E5_ok) mixed IL_ok.ok 3) (ctrOf_ok E5_ok) mixed Try.func10 (x_ValidPictureI wd hg l hp) rfl rfl hG hH hA
  · simp at he

theorem e_l01Ok : EntryOk Try.prog TT 7 gOk := by
  refine ⟨fnOk Try.func7 (by kernel_rfl) rfl, ?_⟩
  intro args H p r he hp n0 w0 β w vals hG hH hA
  unfold gOk at he
  split at he
  · rename_i id
    split at he
    · rename_i own wd hg l hb
      simp only [Option.some.injEq, Prod.mk.injEq] at he
      obtain ⟨rfl, rfl⟩ := he
      exact entry_ptr tt_ok (inlN_ok tt_ok (ctrOf_ok E4_ok) mixed IL_ok.ok 3) (ctrOf_ok E4_ok) mixed Try.func7 (x_l01Ok wd hg l hp) rfl rfl rfl hG hH hb hA
    · simp at he
  · simp at he

def E6 : List (FuncId × Entry) := (10, gValid) :: (7, gOk) :: E5
theorem E6_ok : EntriesOk Try.prog TT E6 := ⟨e_ValidPictureI, e_l01Ok, E5_ok⟩

/-- What ColourAt answers. -/
def placeE (w h : Int) (l : List Int) (x y : Int) : Int := if okB w h l then (if 0 ≤ x ∧ x < w ∧ 0 ≤ y ∧ y < h then 0 else 2) else 1
def colAt (w h : Int) (l : List Int) (x y : Int) : Int := if placeE w h l x y = 0 then l.getD (x + 12 * y).toNat 0 else 0

def E7 : List (FuncId × Entry) := E6
theorem E7_ok : EntriesOk Try.prog TT E7 := E6_ok

def colR (w h : Int) (l : List Int) (x y : Int) : LV := .tup [.c (.int .i64 (colAt w h l x y)), .c (.int .i64 (placeE w h l x y))]

theorem place_in {w h : Int} {l : List Int} {x y : Int} (e : placeE w h l x y = 0) : okB w h l = true ∧ 0 ≤ x ∧ x < w ∧ 0 ≤ y ∧ y < h ∧ w ≤ 12 ∧ h ≤ 12 := by
  unfold placeE at e
  split at e
  · rename_i h1
    split at e
    · rename_i h2
      have h3 := h1
      simp only [okB, Bool.and_eq_true, decide_eq_true_eq] at h3
      exact ⟨h1, h2.1, h2.2.1, h2.2.2.1, h2.2.2.2, h3.1.1.2, h3.1.2.2⟩
    · omega
  · omega

theorem colAt_ok {w h : Int} {l : List Int} {x y : Int} (e : placeE w h l x y = 0) : l.getD (x + 12 * y).toNat 0 = colAt w h l x y := by rw [colAt, if_pos e]
theorem colAt_no {w h : Int} {l : List Int} {x y : Int} (e : ¬ placeE w h l x y = 0) : 0 = colAt w h l x y := by rw [colAt, if_neg e]

end Go.Proofs.Ythnblkmfohcglaa
