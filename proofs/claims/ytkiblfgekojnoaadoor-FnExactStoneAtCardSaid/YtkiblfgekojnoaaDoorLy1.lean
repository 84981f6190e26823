/- Stones in a frame, and stones that overlap: contracts of both sides. No conditions beyond the ranges of the kinds. -/
import Derived.Test.YtkiblfgekojnoaaDoorOvl0
import Derived.Test.YtkiblfgekojnoaaDoorFrm1
import Derived.Test.YtkiblfgekojnoaaDoorLy0
set_option linter.unusedSimpArgs false
set_option linter.unusedVariables false
namespace Go.Proofs.YtkiblfgekojnoaaDoor
open Go.Sx Go.RowKit

variable {e : Nat → Value}

open Classical in
noncomputable def inB' (w h : Int) (n : Nat) (l : List Int) : Bool := decide (InP n l w h)
theorem inB_t {w h : Int} {n : Nat} {l : List Int} : inB' w h n l = true ↔ InP n l w h := by simp [inB']
theorem inB_f {w h : Int} {n : Nat} {l : List Int} : inB' w h n l = false ↔ ¬ InP n l w h := by simp [inB']

noncomputable def ILhs  : List (FuncId × Func × (Nat → LM)) := [
  (90, Tryd.f90, U0)]
theorem ILhs_ok  : InlsOk Tryd.prog ILhs := ⟨⟨Tryd.func90, by kernel_rfl⟩, trivial⟩

theorem x_l03In (w h : Int) (hf : Fr w h) (m n : Nat) (l : List Int) (cap : Int) (h1 : n ≤ 1048576) (h3 : n * 2 ≤ m) (h4 : l.length = m) (hw : wfl (n * 2) l) : Fex true (TT e) (inlN true (TT e) Cf (lookI ILhs) 4) Cf (fun _ => .inv (lmIn n l w h 5)) Tryd.f81 [frC w h, .a (.c (.slc 0 0 0 2 n cap))] [.cells false 66 [.run [.i16] m l]] (fun lv _ => leL lv (.a (.c (.bool (inB' w h n l))))) := by
  refine Go.Sx.by_eq (q := True ∧ True ∧ True ∧ (∃ (x : Nat), (x ≤ n ∧ ∀ (i : Nat), i < x → PtP w h (List.getD (cor l i) (0 : Nat) (0 : Int)) (List.getD (cor l i) (1 : Nat) (0 : Int))) ∧ (((Go.IntKind.i16 = Go.IntKind.i16 ∧ w = w) ∧ (Go.IntKind.i16 = Go.IntKind.i16 ∧ h = h) ∧ True) ∧ Go.Sx.Cel.slc (0 : Nat) (0 : Nat) (0 : Int) (2 : Nat) (↑n : Int) cap = Go.Sx.Cel.slc (0 : Nat) (0 : Nat) (0 : Int) (2 : Nat) (↑n : Int) cap ∧ Go.Sx.Cel.ptr (1 : Nat) (0 : Nat) = Go.Sx.Cel.ptr (1 : Nat) (0 : Nat) ∧ Go.Sx.Cel.val Go.undef = Go.Sx.Cel.val Go.undef ∧ True ∧ (Go.IntKind.i64 = Go.IntKind.i64 ∧ (0 : Int) = (↑x : Int)) ∧ True ∧ True ∧ True ∧ True ∧ True ∧ True ∧ True ∧ True ∧ True ∧ True ∧ True ∧ True ∧ True ∧ True ∧ True ∧ True ∧ True ∧ True ∧ True ∧ True ∧ True ∧ True) ∧ (Bool.false = Bool.false ∧ (66 : Nat) = (66 : Nat) ∧ ([Go.Sx.EK.i16] = [Go.Sx.EK.i16] ∧ m = m ∧ l = l) ∧ True) ∧ (Bool.true = Bool.true ∧ (48 : Nat) = (48 : Nat) ∧ (Go.IntKind.i16 = Go.IntKind.i16 ∧ w = w) ∧ (Go.IntKind.i16 = Go.IntKind.i16 ∧ h = h) ∧ True) ∧ True) ∧ ∀ (x : Nat), (x ≤ n ∧ ∀ (i : Nat), i < x → PtP w h (List.getD (cor l i) (0 : Nat) (0 : Int)) (List.getD (cor l i) (1 : Nat) (0 : Int))) → True ∧ True ∧ True ∧ True ∧ (Decidable.decide ((↑x : Int) < (↑n : Int)) = Bool.true → True ∧ True ∧ True ∧ ((0 : Int) ≤ (↑x : Int) ∧ (↑x : Int) < (↑n : Int)) ∧ True ∧ ((0 : Int) ≤ (0 : Int) + (↑x : Int) ∧ Int.toNat ((0 : Int) + (↑x : Int)) * (2 : Nat) + (0 : Nat) < m) ∧ ((-9223372036854775808 : Int) ≤ List.getD l (Int.toNat ((0 : Int) + (↑x : Int)) * (2 : Nat) + (0 : Nat)) (0 : Int) ∧ List.getD l (Int.toNat ((0 : Int) + (↑x : Int)) * (2 : Nat) + (0 : Nat)) (0 : Int) ≤ (9223372036854775807 : Int)) ∧ True ∧ True ∧ ((0 : Int) ≤ (↑x : Int) ∧ (↑x : Int) < (↑n : Int)) ∧ True ∧ ((0 : Int) ≤ (0 : Int) + (↑x : Int) ∧ Int.toNat ((0 : Int) + (↑x : Int)) * (2 : Nat) + (1 : Nat) < m) ∧ ((-9223372036854775808 : Int) ≤ List.getD l (Int.toNat ((0 : Int) + (↑x : Int)) * (2 : Nat) + (1 : Nat)) (0 : Int) ∧ List.getD l (Int.toNat ((0 : Int) + (↑x : Int)) * (2 : Nat) + (1 : Nat)) (0 : Int) ≤ (9223372036854775807 : Int)) ∧ Fr w h ∧ True ∧ ((!ptB w h (List.getD l (Int.toNat ((0 : Int) + (↑x : Int)) * (2 : Nat) + (0 : Nat)) (0 : Int)) (List.getD l (Int.toNat ((0 : Int) + (↑x : Int)) * (2 : Nat) + (1 : Nat)) (0 : Int))) = Bool.true → True ∧ inB' w h n l = Bool.false) ∧ ((!ptB w h (List.getD l (Int.toNat ((0 : Int) + (↑x : Int)) * (2 : Nat) + (0 : Nat)) (0 : Int)) (List.getD l (Int.toNat ((0 : Int) + (↑x : Int)) * (2 : Nat) + (1 : Nat)) (0 : Int))) = Bool.false → True ∧ ((-9223372036854775808 : Int) ≤ (↑x : Int) + (1 : Int) ∧ (↑x : Int) + (1 : Int) ≤ (9223372036854775807 : Int)) ∧ True ∧ ∃ (y : Nat), (y ≤ n ∧ ∀ (i : Nat), i < y → PtP w h (List.getD (cor l i) (0 : Nat) (0 : Int)) (List.getD (cor l i) (1 : Nat) (0 : Int))) ∧ n - y < n - x ∧ (((Go.IntKind.i16 = Go.IntKind.i16 ∧ w = w) ∧ (Go.IntKind.i16 = Go.IntKind.i16 ∧ h = h) ∧ True) ∧ Go.Sx.Cel.slc (0 : Nat) (0 : Nat) (0 : Int) (2 : Nat) (↑n : Int) cap = Go.Sx.Cel.slc (0 : Nat) (0 : Nat) (0 : Int) (2 : Nat) (↑n : Int) cap ∧ Go.Sx.Cel.ptr (1 : Nat) (0 : Nat) = Go.Sx.Cel.ptr (1 : Nat) (0 : Nat) ∧ Go.Sx.Cel.val Go.undef = Go.Sx.Cel.val Go.undef ∧ True ∧ (Go.IntKind.i64 = Go.IntKind.i64 ∧ (↑x : Int) + (1 : Int) = (↑y : Int)) ∧ True ∧ True ∧ True ∧ True ∧ True ∧ True ∧ True ∧ True ∧ True ∧ True ∧ True ∧ True ∧ True ∧ True ∧ True ∧ True ∧ True ∧ True ∧ True ∧ True ∧ True ∧ True) ∧ (Bool.false = Bool.false ∧ (66 : Nat) = (66 : Nat) ∧ ([Go.Sx.EK.i16] = [Go.Sx.EK.i16] ∧ m = m ∧ l = l) ∧ True) ∧ (Bool.true = Bool.true ∧ (48 : Nat) = (48 : Nat) ∧ (Go.IntKind.i16 = Go.IntKind.i16 ∧ w = w) ∧ (Go.IntKind.i16 = Go.IntKind.i16 ∧ h = h) ∧ True) ∧ True)) ∧ (Decidable.decide ((↑x : Int) < (↑n : Int)) = Bool.false → True ∧ inB' w h n l = Bool.true)) (by kernel_rfl) ?_
  have ec : ∀ i, List.take 2 (List.drop (i * 2) l) = cor l i := fun _ => rfl
  simp only [true_and, and_true, and_self, decide_eq_true_eq, decide_eq_false_iff_not, Bool.not_eq_true', Bool.not_eq_false', Bool.not_true, Bool.not_false, beq_iff_eq, beq_eq_false_iff_ne, bne_iff_ne, bne_eq_false_iff_eq, ne_eq, not_true_eq_false, not_false_eq_true, false_implies, true_implies, implies_true, forall_const, exists_const, ↓reduceIte, Int.reduceEq, Int.toNat_natCast, Bool.false_eq_true, Bool.true_eq_false, reduceCtorEq, Int.zero_add, Nat.add_zero, ec]
  refine ⟨⟨0, ⟨by omega, fun i hi => by omega⟩, rfl⟩, ?_⟩
  rintro i ⟨hi, hp⟩
  refine ⟨fun hlt => ?_, fun hge => inB_t.2 fun j hj => hp j (by omega)⟩
  have hc := hw (i * 2) (by omega)
  have hc1 := hw (i * 2 + 1) (by omega)
  refine ⟨⟨by omega, by omega⟩, ⟨by omega, by omega⟩, ⟨by omega, by omega⟩, ⟨by omega, by omega⟩, ⟨by omega, by omega⟩, ⟨by omega, by omega⟩, hf, fun hb => inB_f.2 fun h => ptB_f.1 hb ?_, fun hb => ⟨⟨by omega, by omega⟩, i + 1, ⟨by omega, fun j hj => ?_⟩, by omega, by omega⟩⟩
  · have := h i (by omega)
    rwa [cor0, cor1] at this
  · rcases (show j < i ∨ j = i by omega) with h' | rfl
    · exact hp j h'
    · rw [cor0, cor1]; exact ptB_t.1 hb

theorem x_hasAllOf (w h : Int) (hf : Fr w h) (m n : Nat) (l : List Int) (cap : Int) (h1 : n ≤ 1048576) (h3 : n * 2 ≤ m) (h4 : l.length = m) (hw : wfl (n * 2) l) : Fex true (TT e) (inlN true (TT e) Cf (lookI ILhs) 4) Cf (fun _ => .inv (lmIn n l w h 9)) Tryd.f83 [frC w h, .a (.c (.slc 0 0 0 2 n cap))] [.cells false 66 [.run [.i16] m l]] (fun lv _ => leL lv (.a (.c (.bool (inB' w h n l))))) := by
  obtain ⟨f1, f2, f3, f4⟩ := hf
  refine Go.Sx.by_eq (q := True ∧ True ∧ True ∧ True ∧ True ∧ (∃ (x : Nat), (x ≤ n ∧ ∀ (i : Nat), i < x → PtP w h (List.getD (cor l i) (0 : Nat) (0 : Int)) (List.getD (cor l i) (1 : Nat) (0 : Int))) ∧ (((Go.IntKind.i16 = Go.IntKind.i16 ∧ w = w) ∧ (Go.IntKind.i16 = Go.IntKind.i16 ∧ h = h) ∧ True) ∧ Go.Sx.Cel.slc (0 : Nat) (0 : Nat) (0 : Int) (2 : Nat) (↑n : Int) cap = Go.Sx.Cel.slc (0 : Nat) (0 : Nat) (0 : Int) (2 : Nat) (↑n : Int) cap ∧ Go.Sx.Cel.ptr (1 : Nat) (0 : Nat) = Go.Sx.Cel.ptr (1 : Nat) (0 : Nat) ∧ Go.Sx.Cel.val Go.undef = Go.Sx.Cel.val Go.undef ∧ True ∧ Go.Sx.Cel.val Go.undef = Go.Sx.Cel.val Go.undef ∧ True ∧ Go.Sx.Cel.slc (0 : Nat) (0 : Nat) (0 : Int) (2 : Nat) (↑n : Int) cap = Go.Sx.Cel.slc (0 : Nat) (0 : Nat) (0 : Int) (2 : Nat) (↑n : Int) cap ∧ (Go.IntKind.i64 = Go.IntKind.i64 ∧ (↑n : Int) = (↑n : Int)) ∧ (Go.IntKind.i64 = Go.IntKind.i64 ∧ (0 : Int) = (↑x : Int)) ∧ True ∧ True ∧ True ∧ True ∧ True ∧ True ∧ True ∧ True ∧ True ∧ True ∧ True ∧ True ∧ True ∧ True) ∧ (Bool.false = Bool.false ∧ (66 : Nat) = (66 : Nat) ∧ ([Go.Sx.EK.i16] = [Go.Sx.EK.i16] ∧ m = m ∧ l = l) ∧ True) ∧ (Bool.true = Bool.true ∧ (48 : Nat) = (48 : Nat) ∧ (Go.IntKind.i16 = Go.IntKind.i16 ∧ w = w) ∧ (Go.IntKind.i16 = Go.IntKind.i16 ∧ h = h) ∧ True) ∧ True) ∧ ∀ (x : Nat), (x ≤ n ∧ ∀ (i : Nat), i < x → PtP w h (List.getD (cor l i) (0 : Nat) (0 : Int)) (List.getD (cor l i) (1 : Nat) (0 : Int))) → True ∧ (Decidable.decide ((↑x : Int) < (↑n : Int)) = Bool.true → ((0 : Int) ≤ (↑x : Int) ∧ (↑x : Int) < (↑n : Int)) ∧ ((0 : Int) ≤ (0 : Int) + (↑x : Int) ∧ Int.toNat ((0 : Int) + (↑x : Int)) * (2 : Nat) + (0 : Nat) + (2 : Nat) ≤ m) ∧ True ∧ True ∧ True ∧ True ∧ True ∧ ((-9223372036854775808 : Int) ≤ List.getD (List.take (2 : Nat) (List.drop (Int.toNat ((0 : Int) + (↑x : Int)) * (2 : Nat) + (0 : Nat)) l)) (0 : Nat) (0 : Int) ∧ List.getD (List.take (2 : Nat) (List.drop (Int.toNat ((0 : Int) + (↑x : Int)) * (2 : Nat) + (0 : Nat)) l)) (0 : Nat) (0 : Int) ≤ (9223372036854775807 : Int)) ∧ True ∧ True ∧ ((-9223372036854775808 : Int) ≤ List.getD (List.take (2 : Nat) (List.drop (Int.toNat ((0 : Int) + (↑x : Int)) * (2 : Nat) + (0 : Nat)) l)) (1 : Nat) (0 : Int) ∧ List.getD (List.take (2 : Nat) (List.drop (Int.toNat ((0 : Int) + (↑x : Int)) * (2 : Nat) + (0 : Nat)) l)) (1 : Nat) (0 : Int) ≤ (9223372036854775807 : Int)) ∧ True ∧ True ∧ True ∧ True ∧ True ∧ (Decidable.decide ((0 : Int) ≤ List.getD (List.take (2 : Nat) (List.drop (Int.toNat ((0 : Int) + (↑x : Int)) * (2 : Nat) + (0 : Nat)) l)) (0 : Nat) (0 : Int)) = Bool.true → True ∧ True ∧ True ∧ ((-9223372036854775808 : Int) ≤ w ∧ w ≤ (9223372036854775807 : Int)) ∧ True ∧ True ∧ True ∧ (Decidable.decide (List.getD (List.take (2 : Nat) (List.drop (Int.toNat ((0 : Int) + (↑x : Int)) * (2 : Nat) + (0 : Nat)) l)) (0 : Nat) (0 : Int) ≤ w) = Bool.true → True ∧ True ∧ True ∧ True ∧ (Decidable.decide ((0 : Int) ≤ List.getD (List.take (2 : Nat) (List.drop (Int.toNat ((0 : Int) + (↑x : Int)) * (2 : Nat) + (0 : Nat)) l)) (1 : Nat) (0 : Int)) = Bool.true → True ∧ True ∧ True ∧ ((-9223372036854775808 : Int) ≤ h ∧ h ≤ (9223372036854775807 : Int)) ∧ True ∧ True ∧ True ∧ True ∧ ((!Decidable.decide (List.getD (List.take (2 : Nat) (List.drop (Int.toNat ((0 : Int) + (↑x : Int)) * (2 : Nat) + (0 : Nat)) l)) (1 : Nat) (0 : Int) ≤ h)) = Bool.true → True ∧ inB' w h n l = Bool.false) ∧ ((!Decidable.decide (List.getD (List.take (2 : Nat) (List.drop (Int.toNat ((0 : Int) + (↑x : Int)) * (2 : Nat) + (0 : Nat)) l)) (1 : Nat) (0 : Int) ≤ h)) = Bool.false → ((-9223372036854775808 : Int) ≤ (↑x : Int) + (1 : Int) ∧ (↑x : Int) + (1 : Int) ≤ (9223372036854775807 : Int)) ∧ True ∧ ∃ (y : Nat), (y ≤ n ∧ ∀ (i : Nat), i < y → PtP w h (List.getD (cor l i) (0 : Nat) (0 : Int)) (List.getD (cor l i) (1 : Nat) (0 : Int))) ∧ n - y < n - x ∧ (((Go.IntKind.i16 = Go.IntKind.i16 ∧ w = w) ∧ (Go.IntKind.i16 = Go.IntKind.i16 ∧ h = h) ∧ True) ∧ Go.Sx.Cel.slc (0 : Nat) (0 : Nat) (0 : Int) (2 : Nat) (↑n : Int) cap = Go.Sx.Cel.slc (0 : Nat) (0 : Nat) (0 : Int) (2 : Nat) (↑n : Int) cap ∧ Go.Sx.Cel.ptr (1 : Nat) (0 : Nat) = Go.Sx.Cel.ptr (1 : Nat) (0 : Nat) ∧ Go.Sx.Cel.val Go.undef = Go.Sx.Cel.val Go.undef ∧ True ∧ Go.Sx.Cel.val Go.undef = Go.Sx.Cel.val Go.undef ∧ True ∧ Go.Sx.Cel.slc (0 : Nat) (0 : Nat) (0 : Int) (2 : Nat) (↑n : Int) cap = Go.Sx.Cel.slc (0 : Nat) (0 : Nat) (0 : Int) (2 : Nat) (↑n : Int) cap ∧ (Go.IntKind.i64 = Go.IntKind.i64 ∧ (↑n : Int) = (↑n : Int)) ∧ (Go.IntKind.i64 = Go.IntKind.i64 ∧ (↑x : Int) + (1 : Int) = (↑y : Int)) ∧ True ∧ True ∧ True ∧ True ∧ True ∧ True ∧ True ∧ True ∧ True ∧ True ∧ True ∧ True ∧ True ∧ True) ∧ (Bool.false = Bool.false ∧ (66 : Nat) = (66 : Nat) ∧ ([Go.Sx.EK.i16] = [Go.Sx.EK.i16] ∧ m = m ∧ l = l) ∧ True) ∧ (Bool.true = Bool.true ∧ (48 : Nat) = (48 : Nat) ∧ (Go.IntKind.i16 = Go.IntKind.i16 ∧ w = w) ∧ (Go.IntKind.i16 = Go.IntKind.i16 ∧ h = h) ∧ True) ∧ True)) ∧ (Decidable.decide ((0 : Int) ≤ List.getD (List.take (2 : Nat) (List.drop (Int.toNat ((0 : Int) + (↑x : Int)) * (2 : Nat) + (0 : Nat)) l)) (1 : Nat) (0 : Int)) = !Bool.true → True ∧ True ∧ True ∧ True ∧ inB' w h n l = Bool.false)) ∧ (Decidable.decide (List.getD (List.take (2 : Nat) (List.drop (Int.toNat ((0 : Int) + (↑x : Int)) * (2 : Nat) + (0 : Nat)) l)) (0 : Nat) (0 : Int) ≤ w) = !Bool.true → True ∧ True ∧ True ∧ True ∧ True ∧ True ∧ inB' w h n l = Bool.false)) ∧ (Decidable.decide ((0 : Int) ≤ List.getD (List.take (2 : Nat) (List.drop (Int.toNat ((0 : Int) + (↑x : Int)) * (2 : Nat) + (0 : Nat)) l)) (0 : Nat) (0 : Int)) = !Bool.true → True ∧ True ∧ True ∧ True ∧ True ∧ True ∧ True ∧ True ∧ inB' w h n l = Bool.false)) ∧ (Decidable.decide ((↑x : Int) < (↑n : Int)) = Bool.false → True ∧ inB' w h n l = Bool.true)) (by kernel_rfl) ?_
  have ec : ∀ i, List.take 2 (List.drop (i * 2) l) = cor l i := fun _ => rfl
  simp only [true_and, and_true, and_self, decide_eq_true_eq, decide_eq_false_iff_not, Bool.not_eq_true', Bool.not_eq_false', Bool.not_true, Bool.not_false, beq_iff_eq, beq_eq_false_iff_ne, bne_iff_ne, bne_eq_false_iff_eq, ne_eq, not_true_eq_false, not_false_eq_true, false_implies, true_implies, implies_true, forall_const, exists_const, ↓reduceIte, Int.reduceEq, Int.toNat_natCast, Bool.false_eq_true, Bool.true_eq_false, reduceCtorEq, Int.zero_add, Nat.add_zero, ec]
  refine ⟨⟨0, ⟨by omega, fun i hi => by omega⟩, rfl⟩, ?_⟩
  rintro i ⟨hi, hp⟩
  refine ⟨fun hlt => ?_, fun hge => inB_t.2 fun j hj => hp j (by omega)⟩
  have hc := wfl_cor hw (show i < n by omega)
  have bad : (PtP w h ((cor l i).getD 0 0) ((cor l i).getD 1 0) → False) → inB' w h n l = false := fun hh => inB_f.2 fun h => hh (h i (by omega))
  refine ⟨⟨by omega, by omega⟩, ⟨by omega, by omega⟩, ⟨by omega, by omega⟩, ⟨by omega, by omega⟩, fun c1 => ⟨⟨by omega, by omega⟩, fun c2 => ⟨fun c3 => ⟨⟨by omega, by omega⟩, fun c4 => bad fun h => c4 h.y2, fun c4 => ⟨⟨by omega, by omega⟩, i + 1, ⟨by omega, fun j hj => ?_⟩, by omega, by omega⟩⟩, fun c3 => bad fun h => c3 h.y1⟩, fun c2 => bad fun h => c2 h.x2⟩, fun c1 => bad fun h => c1 h.x1⟩
  rcases (show j < i ∨ j = i by omega) with h' | rfl
  · exact hp j h'
  · exact ⟨c1, c2, c3, c4⟩

noncomputable def gIf : Entry := fun args H => match args with
  | [.a (.agg [.int .i16 w, .int .i16 h]), .a (.c (.slc id b z s len _))] => match getB H id with
    | .cells _ t [.run ks n l] => if t = 66 then some (Fr w h ∧ b = 0 ∧ z = 0 ∧ s = 2 ∧ ks = [.i16] ∧ 0 ≤ len ∧ len ≤ 1048576 ∧ len.toNat * 2 ≤ n ∧ l.length = n ∧ wfl (len.toNat * 2) l, .a (.c (.bool (inB' w h len.toNat l)))) else none
    | _ => none
  | _ => none
theorem gIf_inv {args : List LV} {H : List Blk} {p : Prop} {r : LV} (he : gIf args H = some (p, r)) (hp : p) : ∃ (w h : Int) (id m n : Nat) (o : Bool) (l : List Int) (cap : Int),
    args = [frC w h, .a (.c (.slc id 0 0 2 n cap))] ∧ getB H id = .cells o 66 [.run [.i16] m l] ∧ r = .a (.c (.bool (inB' w h n l))) ∧ Fr w h ∧ n ≤ 1048576 ∧ n * 2 ≤ m ∧ l.length = m ∧ wfl (n * 2) l := by
  unfold gIf at he
  split at he
  · split at he
    · rename_i w h id b z s len cap _ o t ks m l hg
      split at he
      · rename_i ht
        subst ht
        simp only [Option.some.injEq, Prod.mk.injEq] at he
        obtain ⟨rfl, rfl⟩ := he
        obtain ⟨h0, rfl, rfl, rfl, rfl, h1, h2, h3, h4, h5⟩ := hp
        obtain ⟨n, rfl⟩ := Int.eq_ofNat_of_zero_le h1
        exact ⟨w, h, id, m, n, o, l, cap, rfl, hg, rfl, h0, by omega, by simpa using h3, h4, by simpa using h5⟩
      · simp at he
    · simp at he
  · simp at he
theorem e_l03In : EntryOk Tryd.prog (TT e) 81 gIf := by
  refine ⟨fnOk Tryd.func81 (by kernel_rfl) rfl, ?_⟩
  intro args H p r he hp n0 w0 β w vals hG hH hA
  obtain ⟨w, h, id, m, n, o, l, cap, rfl, hg, rfl, h0, h1, h2, h3, h4⟩ := gIf_inv he hp
  exact entry_view tt_ok (inlN_ok tt_ok Cf_ok mixed (ILhs_ok).ok 4) Cf_ok mixed Tryd.func81 [id] (x_l03In w h h0 m n l cap h1 h2 h3 h4) rfl rfl ⟨.inr (by rw [hg]; rfl), trivial⟩ hG hH hA

theorem e_hasAllOf : EntryOk Tryd.prog (TT e) 83 gIf := by
  refine ⟨fnOk Tryd.func83 (by kernel_rfl) rfl, ?_⟩
  intro args H p r he hp n0 w0 β w vals hG hH hA
  obtain ⟨w, h, id, m, n, o, l, cap, rfl, hg, rfl, h0, h1, h2, h3, h4⟩ := gIf_inv he hp
  exact entry_view tt_ok (inlN_ok tt_ok Cf_ok mixed (ILhs_ok).ok 4) Cf_ok mixed Tryd.func83 [id] (x_hasAllOf w h h0 m n l cap h1 h2 h3 h4) rfl rfl ⟨.inr (by rw [hg]; rfl), trivial⟩ hG hH hA


/-! ### Overlap -/
noncomputable def ovl (n : Nat) (l : List Int) (n2 : Nat) (l2 : List Int) : Bool := decide (0 < dIn n l n2 l2)
noncomputable def ILdi  : List (FuncId × Func × (Nat → LM)) := [
  (105, Tryd.f105, U0)]
theorem ILdi_ok  : InlsOk Tryd.prog ILdi := ⟨⟨Tryd.func105, by kernel_rfl⟩, trivial⟩
theorem x_l03Over (m n : Nat) (l : List Int) (cap : Int) (h3 : n * 2 ≤ m) (h4 : l.length = m) (ok : OkP n l) (m2 n2 : Nat) (l2 : List Int) (cap2 : Int) (g3 : n2 * 2 ≤ m2) (g4 : l2.length = m2) (ok2 : OkP n2 l2) :
    Fex true (TT e) (inlN true (TT e) Cov (lookI ILdi) 4) Cov U0 Tryd.f72 [.a (.c (.slc 0 0 0 2 n cap)), .a (.c (.slc 1 0 0 2 n2 cap2))] [.cells false 66 [.run [.i16] m l], .cells false 66 [.run [.i16] m2 l2]] (fun lv _ => leL lv (.a (.c (.bool (ovl n l n2 l2))))) := by
  refine Go.Sx.by_eq (q := True ∧ True ∧ True ∧ (((0 : Nat) = (0 : Nat) ∧ (0 : Int) = (0 : Int) ∧ (2 : Nat) = (2 : Nat) ∧ [Go.Sx.EK.i16] = [Go.Sx.EK.i16] ∧ (0 : Nat) = (0 : Nat) ∧ (0 : Int) = (0 : Int) ∧ (2 : Nat) = (2 : Nat) ∧ [Go.Sx.EK.i16] = [Go.Sx.EK.i16]) ∧ ((0 : Int) ≤ (↑n : Int) ∧ Int.toNat (↑n : Int) * (2 : Nat) ≤ m ∧ List.length l = m ∧ OkP (Int.toNat (↑n : Int)) l) ∧ (0 : Int) ≤ (↑n2 : Int) ∧ Int.toNat (↑n2 : Int) * (2 : Nat) ≤ m2 ∧ List.length l2 = m2 ∧ OkP (Int.toNat (↑n2 : Int)) l2) ∧ True ∧ True ∧ ((!Decidable.decide (dptG (Int.toNat (↑n : Int)) l (Int.toNat (↑n2 : Int)) l2 (Int.toNat (↑n : Int)) < (1 : Int))) = Bool.true → True ∧ True ∧ (((0 : Nat) = (0 : Nat) ∧ (0 : Int) = (0 : Int) ∧ (2 : Nat) = (2 : Nat) ∧ [Go.Sx.EK.i16] = [Go.Sx.EK.i16] ∧ (0 : Nat) = (0 : Nat) ∧ (0 : Int) = (0 : Int) ∧ (2 : Nat) = (2 : Nat) ∧ [Go.Sx.EK.i16] = [Go.Sx.EK.i16]) ∧ ((0 : Int) ≤ (↑n2 : Int) ∧ Int.toNat (↑n2 : Int) * (2 : Nat) ≤ m2 ∧ List.length l2 = m2 ∧ OkP (Int.toNat (↑n2 : Int)) l2) ∧ (0 : Int) ≤ (↑n : Int) ∧ Int.toNat (↑n : Int) * (2 : Nat) ≤ m ∧ List.length l = m ∧ OkP (Int.toNat (↑n : Int)) l) ∧ True ∧ True ∧ True ∧ (!Decidable.decide (dptG (Int.toNat (↑n2 : Int)) l2 (Int.toNat (↑n : Int)) l (Int.toNat (↑n2 : Int)) < (1 : Int))) = ovl n l n2 l2) ∧ ((!Decidable.decide (dptG (Int.toNat (↑n : Int)) l (Int.toNat (↑n2 : Int)) l2 (Int.toNat (↑n : Int)) < (1 : Int))) = !Bool.true → True ∧ True ∧ ovl n l n2 l2 = Bool.false)) (by kernel_rfl) ?_
  simp only [true_and, and_true, and_self, decide_eq_true_eq, decide_eq_false_iff_not, Bool.not_eq_true', Bool.not_eq_false', Bool.not_true, Bool.not_false, beq_iff_eq, beq_eq_false_iff_ne, bne_iff_ne, bne_eq_false_iff_eq, ne_eq, not_true_eq_false, not_false_eq_true, false_implies, true_implies, implies_true, forall_const, exists_const, ↓reduceIte, Int.reduceEq, Int.toNat_natCast, Bool.false_eq_true, Bool.true_eq_false, reduceCtorEq, Int.zero_add, Nat.add_zero, Int.ofNat_eq_natCast, Int.toNat_natCast]
  have A : 0 ≤ (n : Int) ∧ n * 2 ≤ m ∧ List.length l = m ∧ OkP n l := ⟨by omega, h3, h4, ok⟩
  have B : 0 ≤ (n2 : Int) ∧ n2 * 2 ≤ m2 ∧ List.length l2 = m2 ∧ OkP n2 l2 := ⟨by omega, g3, g4, ok2⟩
  refine ⟨⟨A, B⟩, fun hh => ⟨⟨B, A⟩, ?_⟩, fun hh => ?_⟩
  · rw [ovl, ← decide_not, decide_eq_decide, dIn]; omega
  · rw [ovl, decide_eq_false_iff_not, dIn]; omega
theorem x_overlaps (m n : Nat) (l : List Int) (cap : Int) (h3 : n * 2 ≤ m) (h4 : l.length = m) (ok : OkP n l) (m2 n2 : Nat) (l2 : List Int) (cap2 : Int) (g3 : n2 * 2 ≤ m2) (g4 : l2.length = m2) (ok2 : OkP n2 l2) :
    Fex true (TT e) (inlN true (TT e) Cov (lookI ILdi) 4) Cov U0 Tryd.f74 [.a (.c (.slc 0 0 0 2 n cap)), .a (.c (.slc 1 0 0 2 n2 cap2))] [.cells false 66 [.run [.i16] m l], .cells false 66 [.run [.i16] m2 l2]] (fun lv _ => leL lv (.a (.c (.bool (ovl n l n2 l2))))) := by
  refine Go.Sx.by_eq (q := True ∧ True ∧ True ∧ True ∧ True ∧ True ∧ (((0 : Nat) = (0 : Nat) ∧ (0 : Int) = (0 : Int) ∧ (2 : Nat) = (2 : Nat) ∧ [Go.Sx.EK.i16] = [Go.Sx.EK.i16] ∧ (0 : Nat) = (0 : Nat) ∧ (0 : Int) = (0 : Int) ∧ (2 : Nat) = (2 : Nat) ∧ [Go.Sx.EK.i16] = [Go.Sx.EK.i16]) ∧ ((0 : Int) ≤ (↑n : Int) ∧ Int.toNat (↑n : Int) * (2 : Nat) ≤ m ∧ List.length l = m ∧ OkP (Int.toNat (↑n : Int)) l) ∧ (0 : Int) ≤ (↑n2 : Int) ∧ (↑n2 : Int) ≤ (1048576 : Int) ∧ Int.toNat (↑n2 : Int) * (2 : Nat) ≤ m2 ∧ List.length l2 = m2 ∧ ∀ (j : Nat), j < Int.toNat (↑n2 : Int) → PlC (cor l2 j)) ∧ True ∧ True ∧ (((0 : Nat) = (0 : Nat) ∧ (0 : Int) = (0 : Int) ∧ (2 : Nat) = (2 : Nat) ∧ [Go.Sx.EK.i16] = [Go.Sx.EK.i16] ∧ (0 : Nat) = (0 : Nat) ∧ (0 : Int) = (0 : Int) ∧ (2 : Nat) = (2 : Nat) ∧ [Go.Sx.EK.i16] = [Go.Sx.EK.i16]) ∧ ((0 : Int) ≤ (↑n2 : Int) ∧ Int.toNat (↑n2 : Int) * (2 : Nat) ≤ m2 ∧ List.length l2 = m2 ∧ OkP (Int.toNat (↑n2 : Int)) l2) ∧ (0 : Int) ≤ (↑n : Int) ∧ (↑n : Int) ≤ (1048576 : Int) ∧ Int.toNat (↑n : Int) * (2 : Nat) ≤ m ∧ List.length l = m ∧ ∀ (j : Nat), j < Int.toNat (↑n : Int) → PlC (cor l j)) ∧ True ∧ True ∧ True ∧ True ∧ Decidable.decide ((0 : Int) < Min.min (dptG (Int.toNat (↑n : Int)) l (Int.toNat (↑n2 : Int)) l2 (Int.toNat (↑n : Int))) (dptG (Int.toNat (↑n2 : Int)) l2 (Int.toNat (↑n : Int)) l (Int.toNat (↑n2 : Int)))) = ovl n l n2 l2) (by kernel_rfl) ?_
  simp only [true_and, and_true, and_self, decide_eq_true_eq, decide_eq_false_iff_not, Bool.not_eq_true', Bool.not_eq_false', Bool.not_true, Bool.not_false, beq_iff_eq, beq_eq_false_iff_ne, bne_iff_ne, bne_eq_false_iff_eq, ne_eq, not_true_eq_false, not_false_eq_true, false_implies, true_implies, implies_true, forall_const, exists_const, ↓reduceIte, Int.reduceEq, Int.toNat_natCast, Bool.false_eq_true, Bool.true_eq_false, reduceCtorEq, Int.zero_add, Nat.add_zero, Int.ofNat_eq_natCast, Int.toNat_natCast]
  have hi := ok.hi
  have hi2 := ok2.hi
  exact ⟨⟨⟨by omega, h3, h4, ok⟩, by omega, by omega, g3, g4, ok2.pl⟩, ⟨⟨by omega, g3, g4, ok2⟩, by omega, by omega, h3, h4, ok.pl⟩, rfl⟩

noncomputable def gOv : Entry := fun args H => match args with
  | [.a (.c (.slc i1 b1 z1 s1 len1 _)), .a (.c (.slc i2 b2 z2 s2 len2 _))] => match getB H i1, getB H i2 with
    | .cells _ t1 [.run k1 m1 l1], .cells _ t2 [.run k2 m2 l2] => if t1 = 66 ∧ t2 = 66 then some ((b1 = 0 ∧ z1 = 0 ∧ s1 = 2 ∧ k1 = [.i16] ∧ b2 = 0 ∧ z2 = 0 ∧ s2 = 2 ∧ k2 = [.i16]) ∧ (0 ≤ len1 ∧ len1.toNat * 2 ≤ m1 ∧ l1.length = m1 ∧ OkP len1.toNat l1) ∧ (0 ≤ len2 ∧ len2.toNat * 2 ≤ m2 ∧ l2.length = m2 ∧ OkP len2.toNat l2), .a (.c (.bool (ovl len1.toNat l1 len2.toNat l2)))) else none
    | _, _ => none
  | _ => none
theorem gOv_inv {args : List LV} {H : List Blk} {p : Prop} {r : LV} (he : gOv args H = some (p, r)) (hp : p) : ∃ (i1 i2 : Nat) (o1 o2 : Bool) (m1 m2 n1 n2 : Nat) (l1 l2 : List Int) (c1 c2 : Int),
    args = [.a (.c (.slc i1 0 0 2 n1 c1)), .a (.c (.slc i2 0 0 2 n2 c2))] ∧ getB H i1 = .cells o1 66 [.run [.i16] m1 l1] ∧ getB H i2 = .cells o2 66 [.run [.i16] m2 l2] ∧ r = .a (.c (.bool (ovl n1 l1 n2 l2))) ∧
    n1 * 2 ≤ m1 ∧ l1.length = m1 ∧ OkP n1 l1 ∧ n2 * 2 ≤ m2 ∧ l2.length = m2 ∧ OkP n2 l2 := by
  unfold gOv at he
  split at he
  · split at he
    · rename_i hg1 hg2
      split at he
      · rename_i ht
        obtain ⟨rfl, rfl⟩ := ht
        simp only [Option.some.injEq, Prod.mk.injEq] at he
        obtain ⟨rfl, rfl⟩ := he
        obtain ⟨⟨rfl, rfl, rfl, rfl, rfl, rfl, rfl, rfl⟩, ⟨h1, h2, h3, h4⟩, ⟨h5, h7, h8, h9⟩⟩ := hp
        obtain ⟨n1, rfl⟩ := Int.eq_ofNat_of_zero_le h1
        obtain ⟨n2, rfl⟩ := Int.eq_ofNat_of_zero_le h5
        exact ⟨_, _, _, _, _, _, n1, n2, _, _, _, _, rfl, hg1, hg2, rfl, by simpa using h2, h3, by simpa using h4, by simpa using h7, h8, by simpa using h9⟩
      · simp at he
    · simp at he
  · simp at he
theorem e_l03Over : EntryOk Tryd.prog (TT e) 72 gOv := by
  refine ⟨fnOk Tryd.func72 (by kernel_rfl) rfl, ?_⟩
  intro args H p r he hp n0 w0 β w vals hG hH hA
  obtain ⟨i1, i2, o1, o2, m1, m2, n1, n2, l1, l2, c1, c2, rfl, hg1, hg2, rfl, h1, h2, h3, h4, h5, h6⟩ := gOv_inv he hp
  exact entry_view tt_ok (inlN_ok tt_ok Cov_ok mixed ILdi_ok.ok 4) Cov_ok mixed Tryd.func72 [i1, i2] (x_l03Over m1 n1 l1 c1 h1 h2 h3 m2 n2 l2 c2 h4 h5 h6) rfl rfl ⟨.inr (by rw [hg1]; rfl), .inr (by rw [hg2]; rfl), trivial⟩ hG hH hA
theorem e_overlaps : EntryOk Tryd.prog (TT e) 74 gOv := by
  refine ⟨fnOk Tryd.func74 (by kernel_rfl) rfl, ?_⟩
  intro args H p r he hp n0 w0 β w vals hG hH hA
  obtain ⟨i1, i2, o1, o2, m1, m2, n1, n2, l1, l2, c1, c2, rfl, hg1, hg2, rfl, h1, h2, h3, h4, h5, h6⟩ := gOv_inv he hp
  exact entry_view tt_ok (inlN_ok tt_ok Cov_ok mixed ILdi_ok.ok 4) Cov_ok mixed Tryd.func74 [i1, i2] (x_overlaps m1 n1 l1 c1 h1 h2 h3 m2 n2 l2 c2 h4 h5 h6) rfl rfl ⟨.inr (by rw [hg1]; rfl), .inr (by rw [hg2]; rfl), trivial⟩ hG hH hA

noncomputable def Ely1 : List (FuncId × Entry) := (81, gIf) :: (83, gIf) :: (72, gOv) :: (74, gOv) :: Ef
theorem Ely1_ok : EntriesOk Tryd.prog (TT e) Ely1 := ⟨e_l03In, e_hasAllOf, e_l03Over, e_overlaps, Ef_ok⟩
noncomputable abbrev Cly1 : Ctr := ctrOfM Ely1 []
theorem Cly1_ok : CtrOk Tryd.prog (TT e) Cly1 := ctrOfM_ok Ely1_ok trivial

end Go.Proofs.YtkiblfgekojnoaaDoor
