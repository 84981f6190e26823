/- Places, convex lists and errors.Is as contracts; the table in which the errors' own blocks are listed. No conditions beyond the ranges of the kinds. -/
import Derived.Test.YtnoljgfnpabinaaDoorMv0
import Derived.Test.YtnoljgfnpabinaaDoorIsx
set_option linter.unusedSimpArgs false
set_option linter.unusedVariables false
namespace Go.Proofs.YtnoljgfnpabinaaDoor
open Go.Sx Go.RowKit

section
variable {e : Nat → Value}
open Classical in
noncomputable def apB (n : Nat) (l : List Int) : Bool := decide (∀ i, i < n → PlC (cor l i))
theorem apB_t {n : Nat} {l : List Int} : apB n l = true ↔ ∀ i, i < n → PlC (cor l i) := by simp [apB]
theorem apB_f {n : Nat} {l : List Int} : apB n l = false ↔ ¬ ∀ i, i < n → PlC (cor l i) := by rw [← Bool.not_eq_true, apB_t]
def CxP (n : Nat) (l : List Int) : Prop := ∀ i, i < n → ∀ j, j + 2 < n → 0 < sgn l i ((i + 1) % n) ((i + (j + 2)) % n)
open Classical in
noncomputable def cxB (n : Nat) (l : List Int) : Bool := decide (CxP n l)
theorem cxB_t {n : Nat} {l : List Int} : cxB n l = true ↔ CxP n l := by simp [cxB]
theorem cxB_f {n : Nat} {l : List Int} : cxB n l = false ↔ ¬ CxP n l := by simp [cxB]
noncomputable def ILap  : List (FuncId × Func × (Nat → LM)) := [
  (39, Tryd.f39, U0)]
theorem ILap_ok  : InlsOk Tryd.prog ILap := ⟨⟨Tryd.func39, by kernel_rfl⟩, trivial⟩
theorem x_arePlaces (m n : Nat) (l : List Int) (cap : Int) (h1 : n ≤ 1048576) (h3 : n * 2 ≤ m) (h4 : l.length = m) (hw : wfl (n * 2) l) : Fex true (TT e) (inlN true (TT e) C0 (lookI ILap) 4) C0 (fun _ => .inv (lmPl n l 7)) Tryd.f34 [.a (.c (.slc 0 0 0 2 n cap))] [.cells false 35 [.run [.i16] m l]] (fun lv _ => leL lv (.a (.c (.bool (apB n l))))) := by
  refine Go.Sx.by_eq (q := True ∧ True ∧ True ∧ True ∧ (∃ (x : Nat), (x ≤ n ∧ ∀ (i : Nat), i < x → PlC (cor l i)) ∧ (Cel.slc (0 : Nat) (0 : Nat) (0 : Int) (2 : Nat) (↑n : Int) cap = Cel.slc (0 : Nat) (0 : Nat) (0 : Int) (2 : Nat) (↑n : Int) cap ∧ Cel.val Go.undef = Cel.val Go.undef ∧ True ∧ Cel.val Go.undef = Cel.val Go.undef ∧ True ∧ Cel.slc (0 : Nat) (0 : Nat) (0 : Int) (2 : Nat) (↑n : Int) cap = Cel.slc (0 : Nat) (0 : Nat) (0 : Int) (2 : Nat) (↑n : Int) cap ∧ (IntKind.i64 = IntKind.i64 ∧ (↑n : Int) = (↑n : Int)) ∧ (IntKind.i64 = IntKind.i64 ∧ (0 : Int) = (↑x : Int)) ∧ True ∧ True ∧ True ∧ True ∧ True ∧ True ∧ True ∧ True ∧ True ∧ True ∧ True ∧ True ∧ True ∧ True ∧ True ∧ True ∧ True) ∧ (Bool.false = Bool.false ∧ (35 : Nat) = (35 : Nat) ∧ ([EK.i16] = [EK.i16] ∧ m = m ∧ l = l) ∧ True) ∧ True) ∧ ∀ (x : Nat), (x ≤ n ∧ ∀ (i : Nat), i < x → PlC (cor l i)) → True ∧ (Decidable.decide ((↑x : Int) < (↑n : Int)) = Bool.true → ((0 : Int) ≤ (↑x : Int) ∧ (↑x : Int) < (↑n : Int)) ∧ ((0 : Int) ≤ (0 : Int) + (↑x : Int) ∧ Int.toNat ((0 : Int) + (↑x : Int)) * (2 : Nat) + (0 : Nat) + (2 : Nat) ≤ m) ∧ True ∧ True ∧ True ∧ True ∧ ((-9223372036854775808 : Int) ≤ List.getD (List.take (2 : Nat) (List.drop (Int.toNat ((0 : Int) + (↑x : Int)) * (2 : Nat) + (0 : Nat)) l)) (0 : Nat) (0 : Int) ∧ List.getD (List.take (2 : Nat) (List.drop (Int.toNat ((0 : Int) + (↑x : Int)) * (2 : Nat) + (0 : Nat)) l)) (0 : Nat) (0 : Int) ≤ (9223372036854775807 : Int)) ∧ True ∧ True ∧ True ∧ True ∧ (Decidable.decide ((-1000 : Int) ≤ List.getD (List.take (2 : Nat) (List.drop (Int.toNat ((0 : Int) + (↑x : Int)) * (2 : Nat) + (0 : Nat)) l)) (0 : Nat) (0 : Int)) = Bool.true → True ∧ True ∧ True ∧ True ∧ True ∧ True ∧ ((!Decidable.decide (List.getD (List.take (2 : Nat) (List.drop (Int.toNat ((0 : Int) + (↑x : Int)) * (2 : Nat) + (0 : Nat)) l)) (0 : Nat) (0 : Int) ≤ (1000 : Int))) = Bool.false → True ∧ True ∧ ((-9223372036854775808 : Int) ≤ List.getD (List.take (2 : Nat) (List.drop (Int.toNat ((0 : Int) + (↑x : Int)) * (2 : Nat) + (0 : Nat)) l)) (1 : Nat) (0 : Int) ∧ List.getD (List.take (2 : Nat) (List.drop (Int.toNat ((0 : Int) + (↑x : Int)) * (2 : Nat) + (0 : Nat)) l)) (1 : Nat) (0 : Int) ≤ (9223372036854775807 : Int)) ∧ True ∧ True ∧ True ∧ True ∧ (Decidable.decide ((-1000 : Int) ≤ List.getD (List.take (2 : Nat) (List.drop (Int.toNat ((0 : Int) + (↑x : Int)) * (2 : Nat) + (0 : Nat)) l)) (1 : Nat) (0 : Int)) = Bool.true → True ∧ True ∧ True ∧ True ∧ True ∧ True ∧ ((!Decidable.decide (List.getD (List.take (2 : Nat) (List.drop (Int.toNat ((0 : Int) + (↑x : Int)) * (2 : Nat) + (0 : Nat)) l)) (1 : Nat) (0 : Int) ≤ (1000 : Int))) = Bool.true → True ∧ apB n l = Bool.false) ∧ ((!Decidable.decide (List.getD (List.take (2 : Nat) (List.drop (Int.toNat ((0 : Int) + (↑x : Int)) * (2 : Nat) + (0 : Nat)) l)) (1 : Nat) (0 : Int) ≤ (1000 : Int))) = Bool.false → ((-9223372036854775808 : Int) ≤ (↑x : Int) + (1 : Int) ∧ (↑x : Int) + (1 : Int) ≤ (9223372036854775807 : Int)) ∧ True ∧ ∃ (y : Nat), (y ≤ n ∧ ∀ (i : Nat), i < y → PlC (cor l i)) ∧ n - y < n - x ∧ (Cel.slc (0 : Nat) (0 : Nat) (0 : Int) (2 : Nat) (↑n : Int) cap = Cel.slc (0 : Nat) (0 : Nat) (0 : Int) (2 : Nat) (↑n : Int) cap ∧ Cel.val Go.undef = Cel.val Go.undef ∧ True ∧ Cel.val Go.undef = Cel.val Go.undef ∧ True ∧ Cel.slc (0 : Nat) (0 : Nat) (0 : Int) (2 : Nat) (↑n : Int) cap = Cel.slc (0 : Nat) (0 : Nat) (0 : Int) (2 : Nat) (↑n : Int) cap ∧ (IntKind.i64 = IntKind.i64 ∧ (↑n : Int) = (↑n : Int)) ∧ (IntKind.i64 = IntKind.i64 ∧ (↑x : Int) + (1 : Int) = (↑y : Int)) ∧ True ∧ True ∧ True ∧ True ∧ True ∧ True ∧ True ∧ True ∧ True ∧ True ∧ True ∧ True ∧ True ∧ True ∧ True ∧ True ∧ True) ∧ (Bool.false = Bool.false ∧ (35 : Nat) = (35 : Nat) ∧ ([EK.i16] = [EK.i16] ∧ m = m ∧ l = l) ∧ True) ∧ True)) ∧ (Decidable.decide ((-1000 : Int) ≤ List.getD (List.take (2 : Nat) (List.drop (Int.toNat ((0 : Int) + (↑x : Int)) * (2 : Nat) + (0 : Nat)) l)) (1 : Nat) (0 : Int)) = !Bool.true → True ∧ True ∧ True ∧ True ∧ True ∧ apB n l = Bool.false)) ∧ ((!Decidable.decide (List.getD (List.take (2 : Nat) (List.drop (Int.toNat ((0 : Int) + (↑x : Int)) * (2 : Nat) + (0 : Nat)) l)) (0 : Nat) (0 : Int) ≤ (1000 : Int))) = !Bool.false → True ∧ True ∧ apB n l = Bool.false)) ∧ (Decidable.decide ((-1000 : Int) ≤ List.getD (List.take (2 : Nat) (List.drop (Int.toNat ((0 : Int) + (↑x : Int)) * (2 : Nat) + (0 : Nat)) l)) (0 : Nat) (0 : Int)) = !Bool.true → True ∧ True ∧ True ∧ True ∧ True ∧ True ∧ apB n l = Bool.false)) ∧ (Decidable.decide ((↑x : Int) < (↑n : Int)) = Bool.false → True ∧ apB n l = Bool.true)) (by kernel_rfl) ?_
  have ec : ∀ i, List.take 2 (List.drop (i * 2) l) = cor l i := fun _ => rfl
  simp only [true_and, and_true, and_self, decide_eq_true_eq, decide_eq_false_iff_not, Bool.not_eq_true', Bool.not_eq_false', Bool.not_true, Bool.not_false, beq_iff_eq, beq_eq_false_iff_ne, bne_iff_ne, bne_eq_false_iff_eq, ne_eq, not_true_eq_false, not_false_eq_true, false_implies, true_implies, implies_true, forall_const, exists_const, ↓reduceIte, Int.reduceEq, Int.toNat_natCast, Bool.false_eq_true, Bool.true_eq_false, reduceCtorEq, Int.zero_add, Nat.add_zero, ec, Int.ofNat_eq_natCast]
  refine ⟨⟨0, ⟨by omega, fun i hi => by omega⟩, rfl⟩, ?_⟩
  rintro k ⟨hk, hp⟩
  refine ⟨fun hlt => ?_, fun hge => apB_t.2 fun i hi => hp i (by omega)⟩
  have hc := wfl_cor hw (show k < n by omega)
  have bad : ¬ PlC (cor l k) → apB n l = false := fun h => apB_f.2 fun q => h (q k (by omega))
  refine ⟨⟨by omega, by omega⟩, ⟨by omega, by omega⟩, ⟨by omega, by omega⟩, fun c1 => ⟨fun c2 => ⟨⟨by omega, by omega⟩, fun c3 => ⟨fun c4 => bad fun q => c4 q.y2, fun c4 => ⟨⟨by omega, by omega⟩, k + 1, ⟨by omega, fun i hi => ?_⟩, by omega, by omega⟩⟩, fun c3 => bad fun q => c3 q.y1⟩, fun c2 => bad fun q => c2 q.x2⟩, fun c1 => bad fun q => c1 q.x1⟩
  rcases (show i < k ∨ i = k by omega) with h | rfl
  · exact hp i h
  · exact ⟨c1, c2, c3, c4⟩
noncomputable def ILcx (n : Nat) (l : List Int) : List (FuncId × Func × (Nat → LM)) := [
  (27, Tryd.f27, fun _ => .inv (lmPt n l)),
  (26, Tryd.f26, U0)]
theorem ILcx_ok {n : Nat} {l : List Int} : InlsOk Tryd.prog (ILcx n l) := ⟨⟨Tryd.func27, by kernel_rfl⟩, ⟨Tryd.func26, by kernel_rfl⟩, trivial⟩
set_option maxHeartbeats 4000000 in
theorem x_isConvex (m n : Nat) (l : List Int) (cap : Int) (n3 : 3 ≤ n) (n8 : n ≤ 20) (h3 : n * 2 ≤ m) (h4 : l.length = m) (hP : ∀ i, i < n → PlC (cor l i)) : Fex true (TT e) (inlN true (TT e) Cs (lookI (ILcx n l)) 5) Cs (fun r => if r = 6 then .inv (lmCI n l) else .inv (lmCO n l)) Tryd.f35 [.a (.c (.slc 0 0 0 2 n cap))] [.cells false 35 [.run [.i16] m l]] (fun lv _ => leL lv (.a (.c (.bool (cxB n l))))) := by
  refine Go.Sx.by_eq (q := True ∧ True ∧ True ∧ True ∧ (∃ (x : Nat), (x ≤ n ∧ ∀ (i : Nat), i < x → ∀ (j : Nat), j + (2 : Nat) < n → (0 : Int) < sgn l i ((i + (1 : Nat)) % n) ((i + (j + (2 : Nat))) % n)) ∧ (Cel.slc (0 : Nat) (0 : Nat) (0 : Int) (2 : Nat) (↑n : Int) cap = Cel.slc (0 : Nat) (0 : Nat) (0 : Int) (2 : Nat) (↑n : Int) cap ∧ Cel.val Go.undef = Cel.val Go.undef ∧ True ∧ True ∧ True ∧ Cel.val Go.undef = Cel.val Go.undef ∧ True ∧ Cel.slc (0 : Nat) (0 : Nat) (0 : Int) (2 : Nat) (↑n : Int) cap = Cel.slc (0 : Nat) (0 : Nat) (0 : Int) (2 : Nat) (↑n : Int) cap ∧ (IntKind.i64 = IntKind.i64 ∧ (↑n : Int) = (↑n : Int)) ∧ (IntKind.i64 = IntKind.i64 ∧ (0 : Int) = (↑x : Int)) ∧ True ∧ True ∧ True ∧ True ∧ True ∧ True ∧ True ∧ True ∧ True ∧ True ∧ True ∧ True ∧ True ∧ True ∧ True ∧ True ∧ True ∧ True ∧ True ∧ True ∧ True ∧ True ∧ True ∧ True ∧ True ∧ True) ∧ (Bool.false = Bool.false ∧ (35 : Nat) = (35 : Nat) ∧ ([EK.i16] = [EK.i16] ∧ m = m ∧ l = l) ∧ True) ∧ True) ∧ ∀ (x : Nat), (x ≤ n ∧ ∀ (i : Nat), i < x → ∀ (j : Nat), j + (2 : Nat) < n → (0 : Int) < sgn l i ((i + (1 : Nat)) % n) ((i + (j + (2 : Nat))) % n)) → True ∧ (Decidable.decide ((↑x : Int) < (↑n : Int)) = Bool.true → True ∧ True ∧ True ∧ True ∧ True ∧ True ∧ True ∧ True ∧ ((0 : Int) ≤ (↑n : Int) ∧ (↑n : Int) ≤ (↑n : Int) ∧ (↑n : Int) ≤ (9223372036854775807 : Int) ∧ (↑(4 : Nat) : Int) * (↑n : Int) ≤ (281474976710656 : Int)) ∧ True ∧ True ∧ True ∧ (∃ (x_1 : Nat), x_1 ≤ Int.toNat (↑n : Int) ∧ (Cel.slc (0 : Nat) (0 : Nat) (0 : Int) (2 : Nat) (↑n : Int) cap = Cel.slc (0 : Nat) (0 : Nat) (0 : Int) (2 : Nat) (↑n : Int) cap ∧ (IntKind.i64 = IntKind.i64 ∧ (↑x : Int) = (↑x : Int)) ∧ (IntKind.i64 = IntKind.i64 ∧ (↑n : Int) = (↑n : Int)) ∧ Cel.val Go.undef = Cel.val Go.undef ∧ Cel.val Go.undef = Cel.val Go.undef ∧ Cel.val Go.undef = Cel.val Go.undef ∧ Cel.val (Go.Value.slice Option.none (0 : Nat) (0 : Nat)) = Cel.val (Go.Value.slice Option.none (0 : Nat) (0 : Nat)) ∧ Cel.slc (1 : Nat) (0 : Nat) (0 : Int) (2 : Nat) (↑n : Int) (↑n : Int) = Cel.slc (1 : Nat) (0 : Nat) (0 : Int) (2 : Nat) (↑n : Int) (↑n : Int) ∧ True ∧ (IntKind.i64 = IntKind.i64 ∧ (↑n : Int) = (↑n : Int)) ∧ Cel.slc (1 : Nat) (0 : Nat) (0 : Int) (2 : Nat) (↑n : Int) (↑n : Int) = Cel.slc (1 : Nat) (0 : Nat) (0 : Int) (2 : Nat) (↑n : Int) (↑n : Int) ∧ (IntKind.i64 = IntKind.i64 ∧ (↑n : Int) = (↑n : Int)) ∧ (IntKind.i64 = IntKind.i64 ∧ (0 : Int) = (↑x_1 : Int)) ∧ True ∧ True ∧ True ∧ True ∧ True ∧ True ∧ True ∧ True ∧ True ∧ True ∧ True ∧ Cel.val Go.undef = Cel.val Go.undef ∧ True) ∧ (Bool.false = Bool.false ∧ (35 : Nat) = (35 : Nat) ∧ ([EK.i16] = [EK.i16] ∧ m = m ∧ l = l) ∧ True) ∧ (Bool.true = Bool.true ∧ (35 : Nat) = (35 : Nat) ∧ ([EK.i16] = [EK.i16] ∧ Int.toNat (↑n : Int) * (2 : Nat) = Int.toNat (↑n : Int) * (2 : Nat) ∧ List.replicate (Int.toNat (↑n : Int) * (2 : Nat)) (0 : Int) = mkN (Int.toNat (↑n : Int) * (2 : Nat)) (ptF n l (Int.toNat (↑x : Int)) x_1)) ∧ True) ∧ True) ∧ ∀ (x_1 : Nat), x_1 ≤ Int.toNat (↑n : Int) → True ∧ (Decidable.decide ((↑x_1 : Int) < (↑n : Int)) = Bool.true → True ∧ True ∧ True ∧ True ∧ True ∧ True ∧ True ∧ ((-9223372036854775808 : Int) ≤ (↑x : Int) + (↑x_1 : Int) ∧ (↑x : Int) + (↑x_1 : Int) ≤ (9223372036854775807 : Int)) ∧ True ∧ True ∧ True ∧ True ∧ True ∧ True ∧ True ∧ ((-9223372036854775808 : Int) ≤ (↑x : Int) + (↑x_1 : Int) + (↑n : Int) ∧ (↑x : Int) + (↑x_1 : Int) + (↑n : Int) ≤ (9223372036854775807 : Int)) ∧ True ∧ (↑n : Int) ≠ (0 : Int) ∧ ((0 : Int) ≤ Int.tmod ((↑x : Int) + (↑x_1 : Int) + (↑n : Int)) (↑n : Int) ∧ Int.tmod ((↑x : Int) + (↑x_1 : Int) + (↑n : Int)) (↑n : Int) < (↑n : Int)) ∧ ((0 : Int) ≤ (0 : Int) + Int.tmod ((↑x : Int) + (↑x_1 : Int) + (↑n : Int)) (↑n : Int) ∧ Int.toNat ((0 : Int) + Int.tmod ((↑x : Int) + (↑x_1 : Int) + (↑n : Int)) (↑n : Int)) * (2 : Nat) + (0 : Nat) + (2 : Nat) ≤ m) ∧ True ∧ ((0 : Int) ≤ (↑x_1 : Int) ∧ (↑x_1 : Int) < (↑n : Int)) ∧ ((0 : Int) ≤ (0 : Int) + (↑x_1 : Int) ∧ Int.toNat ((0 : Int) + (↑x_1 : Int)) * (2 : Nat) + (0 : Nat) + (2 : Nat) ≤ Int.toNat (↑n : Int) * (2 : Nat)) ∧ ((-9223372036854775808 : Int) ≤ (↑x_1 : Int) + (1 : Int) ∧ (↑x_1 : Int) + (1 : Int) ≤ (9223372036854775807 : Int)) ∧ True ∧ ∃ (y : Nat), y ≤ Int.toNat (↑n : Int) ∧ Int.toNat (↑n : Int) - y < Int.toNat (↑n : Int) - x_1 ∧ (Cel.slc (0 : Nat) (0 : Nat) (0 : Int) (2 : Nat) (↑n : Int) cap = Cel.slc (0 : Nat) (0 : Nat) (0 : Int) (2 : Nat) (↑n : Int) cap ∧ (IntKind.i64 = IntKind.i64 ∧ (↑x : Int) = (↑x : Int)) ∧ (IntKind.i64 = IntKind.i64 ∧ (↑n : Int) = (↑n : Int)) ∧ Cel.val Go.undef = Cel.val Go.undef ∧ Cel.val Go.undef = Cel.val Go.undef ∧ Cel.val Go.undef = Cel.val Go.undef ∧ Cel.val (Go.Value.slice Option.none (0 : Nat) (0 : Nat)) = Cel.val (Go.Value.slice Option.none (0 : Nat) (0 : Nat)) ∧ Cel.slc (1 : Nat) (0 : Nat) (0 : Int) (2 : Nat) (↑n : Int) (↑n : Int) = Cel.slc (1 : Nat) (0 : Nat) (0 : Int) (2 : Nat) (↑n : Int) (↑n : Int) ∧ True ∧ (IntKind.i64 = IntKind.i64 ∧ (↑n : Int) = (↑n : Int)) ∧ Cel.slc (1 : Nat) (0 : Nat) (0 : Int) (2 : Nat) (↑n : Int) (↑n : Int) = Cel.slc (1 : Nat) (0 : Nat) (0 : Int) (2 : Nat) (↑n : Int) (↑n : Int) ∧ (IntKind.i64 = IntKind.i64 ∧ (↑n : Int) = (↑n : Int)) ∧ (IntKind.i64 = IntKind.i64 ∧ (↑x_1 : Int) + (1 : Int) = (↑y : Int)) ∧ True ∧ True ∧ True ∧ True ∧ True ∧ True ∧ True ∧ True ∧ True ∧ True ∧ True ∧ Cel.val Go.undef = Cel.val Go.undef ∧ True) ∧ (Bool.false = Bool.false ∧ (35 : Nat) = (35 : Nat) ∧ ([EK.i16] = [EK.i16] ∧ m = m ∧ l = l) ∧ True) ∧ (Bool.true = Bool.true ∧ (35 : Nat) = (35 : Nat) ∧ ([EK.i16] = [EK.i16] ∧ Int.toNat (↑n : Int) * (2 : Nat) = Int.toNat (↑n : Int) * (2 : Nat) ∧ List.take (Int.toNat ((0 : Int) + (↑x_1 : Int)) * (2 : Nat) + (0 : Nat)) (mkN (Int.toNat (↑n : Int) * (2 : Nat)) (ptF n l (Int.toNat (↑x : Int)) x_1)) ++ (List.take (2 : Nat) (List.drop (Int.toNat ((0 : Int) + Int.tmod ((↑x : Int) + (↑x_1 : Int) + (↑n : Int)) (↑n : Int)) * (2 : Nat) + (0 : Nat)) l) ++ []) ++ List.drop (Int.toNat ((0 : Int) + (↑x_1 : Int)) * (2 : Nat) + (0 : Nat) + (2 : Nat)) (mkN (Int.toNat (↑n : Int) * (2 : Nat)) (ptF n l (Int.toNat (↑x : Int)) x_1)) = mkN (Int.toNat (↑n : Int) * (2 : Nat)) (ptF n l (Int.toNat (↑x : Int)) y)) ∧ True) ∧ True) ∧ (Decidable.decide ((↑x_1 : Int) < (↑n : Int)) = Bool.false → True ∧ True ∧ True ∧ True ∧ ((0 : Int) ≤ (2 : Int) ∧ (2 : Int) ≤ (↑n : Int) ∧ (↑n : Int) ≤ (↑n : Int) ∧ (↑n : Int) ≤ (↑n : Int)) ∧ True ∧ True ∧ (∃ (x_2 : Nat), (x_2 + (2 : Nat) ≤ n ∧ ∀ (j : Nat), j < x_2 → (0 : Int) < sgn l (Int.toNat (↑x : Int)) ((Int.toNat (↑x : Int) + (1 : Nat)) % n) ((Int.toNat (↑x : Int) + (j + (2 : Nat))) % n)) ∧ (Cel.slc (0 : Nat) (0 : Nat) (0 : Int) (2 : Nat) (↑n : Int) cap = Cel.slc (0 : Nat) (0 : Nat) (0 : Int) (2 : Nat) (↑n : Int) cap ∧ Cel.val Go.undef = Cel.val Go.undef ∧ True ∧ (IntKind.i64 = IntKind.i64 ∧ (↑x : Int) = (↑x : Int)) ∧ Cel.slc (1 : Nat) (0 : Nat) (0 : Int) (2 : Nat) (↑n : Int) (↑n : Int) = Cel.slc (1 : Nat) (0 : Nat) (0 : Int) (2 : Nat) (↑n : Int) (↑n : Int) ∧ Cel.val Go.undef = Cel.val Go.undef ∧ True ∧ Cel.slc (0 : Nat) (0 : Nat) (0 : Int) (2 : Nat) (↑n : Int) cap = Cel.slc (0 : Nat) (0 : Nat) (0 : Int) (2 : Nat) (↑n : Int) cap ∧ (IntKind.i64 = IntKind.i64 ∧ (↑n : Int) = (↑n : Int)) ∧ (IntKind.i64 = IntKind.i64 ∧ (↑x : Int) = (↑x : Int)) ∧ Decidable.decide ((↑x : Int) < (↑n : Int)) = Decidable.decide ((↑x : Int) < (↑n : Int)) ∧ (IntKind.i64 = IntKind.i64 ∧ (↑x : Int) = (↑x : Int)) ∧ Cel.slc (0 : Nat) (0 : Nat) (0 : Int) (2 : Nat) (↑n : Int) cap = Cel.slc (0 : Nat) (0 : Nat) (0 : Int) (2 : Nat) (↑n : Int) cap ∧ (IntKind.i64 = IntKind.i64 ∧ (↑x : Int) = (↑x : Int)) ∧ Cel.slc (0 : Nat) (0 : Nat) (0 : Int) (2 : Nat) (↑n : Int) cap = Cel.slc (0 : Nat) (0 : Nat) (0 : Int) (2 : Nat) (↑n : Int) cap ∧ (IntKind.i64 = IntKind.i64 ∧ (↑n : Int) = (↑n : Int)) ∧ Cel.slc (1 : Nat) (0 : Nat) (0 : Int) (2 : Nat) (↑n : Int) (↑n : Int) = Cel.slc (1 : Nat) (0 : Nat) (0 : Int) (2 : Nat) (↑n : Int) (↑n : Int) ∧ Cel.slc (1 : Nat) (0 : Nat) (0 : Int) (2 : Nat) (↑n : Int) (↑n : Int) = Cel.slc (1 : Nat) (0 : Nat) (0 : Int) (2 : Nat) (↑n : Int) (↑n : Int) ∧ Cel.slc (1 : Nat) (0 : Nat) ((0 : Int) + (2 : Int)) (2 : Nat) ((↑n : Int) - (2 : Int)) ((↑n : Int) - (2 : Int)) = Cel.slc (1 : Nat) (0 : Nat) ((0 : Int) + (2 : Int)) (2 : Nat) ((↑n : Int) - (2 : Int)) ((↑n : Int) - (2 : Int)) ∧ (IntKind.i64 = IntKind.i64 ∧ (↑n : Int) - (2 : Int) = (↑n : Int) - (2 : Int)) ∧ (IntKind.i64 = IntKind.i64 ∧ (0 : Int) = (↑x_2 : Int)) ∧ True ∧ True ∧ True ∧ True ∧ True ∧ True ∧ True ∧ True ∧ True ∧ True ∧ True ∧ True ∧ True ∧ True ∧ True) ∧ (Bool.false = Bool.false ∧ (35 : Nat) = (35 : Nat) ∧ ([EK.i16] = [EK.i16] ∧ m = m ∧ l = l) ∧ True) ∧ (Bool.true = Bool.true ∧ (35 : Nat) = (35 : Nat) ∧ ([EK.i16] = [EK.i16] ∧ Int.toNat (↑n : Int) * (2 : Nat) = Int.toNat (↑n : Int) * (2 : Nat) ∧ mkN (Int.toNat (↑n : Int) * (2 : Nat)) (ptF n l (Int.toNat (↑x : Int)) x_1) = mkN (Int.toNat (↑n : Int) * (2 : Nat)) (ptF n l (Int.toNat (↑x : Int)) x_1)) ∧ True) ∧ True) ∧ ∀ (x_2 : Nat), (x_2 + (2 : Nat) ≤ n ∧ ∀ (j : Nat), j < x_2 → (0 : Int) < sgn l (Int.toNat (↑x : Int)) ((Int.toNat (↑x : Int) + (1 : Nat)) % n) ((Int.toNat (↑x : Int) + (j + (2 : Nat))) % n)) → True ∧ (Decidable.decide ((↑x_2 : Int) < (↑n : Int) - (2 : Int)) = Bool.true → ((0 : Int) ≤ (↑x_2 : Int) ∧ (↑x_2 : Int) < (↑n : Int) - (2 : Int)) ∧ ((0 : Int) ≤ (0 : Int) + (2 : Int) + (↑x_2 : Int) ∧ Int.toNat ((0 : Int) + (2 : Int) + (↑x_2 : Int)) * (2 : Nat) + (0 : Nat) + (2 : Nat) ≤ Int.toNat (↑n : Int) * (2 : Nat)) ∧ True ∧ True ∧ True ∧ True ∧ ((0 : Int) ≤ (0 : Int) ∧ (0 : Int) < (↑n : Int)) ∧ ((0 : Int) ≤ (0 : Int) + (0 : Int) ∧ Int.toNat ((0 : Int) + (0 : Int)) * (2 : Nat) + (0 : Nat) + (2 : Nat) ≤ Int.toNat (↑n : Int) * (2 : Nat)) ∧ True ∧ ((0 : Int) ≤ (1 : Int) ∧ (1 : Int) < (↑n : Int)) ∧ ((0 : Int) ≤ (0 : Int) + (1 : Int) ∧ Int.toNat ((0 : Int) + (1 : Int)) * (2 : Nat) + (0 : Nat) + (2 : Nat) ≤ Int.toNat (↑n : Int) * (2 : Nat)) ∧ (PlC (List.take (2 : Nat) (List.drop (Int.toNat ((0 : Int) + (0 : Int)) * (2 : Nat) + (0 : Nat)) (mkN (Int.toNat (↑n : Int) * (2 : Nat)) (ptF n l (Int.toNat (↑x : Int)) x_1)))) ∧ PlC (List.take (2 : Nat) (List.drop (Int.toNat ((0 : Int) + (1 : Int)) * (2 : Nat) + (0 : Nat)) (mkN (Int.toNat (↑n : Int) * (2 : Nat)) (ptF n l (Int.toNat (↑x : Int)) x_1)))) ∧ PlC (List.take (2 : Nat) (List.drop (Int.toNat ((0 : Int) + (2 : Int) + (↑x_2 : Int)) * (2 : Nat) + (0 : Nat)) (mkN (Int.toNat (↑n : Int) * (2 : Nat)) (ptF n l (Int.toNat (↑x : Int)) x_1))))) ∧ True ∧ (Decidable.decide (sd (List.take (2 : Nat) (List.drop (Int.toNat ((0 : Int) + (0 : Int)) * (2 : Nat) + (0 : Nat)) (mkN (Int.toNat (↑n : Int) * (2 : Nat)) (ptF n l (Int.toNat (↑x : Int)) x_1)))) (List.take (2 : Nat) (List.drop (Int.toNat ((0 : Int) + (1 : Int)) * (2 : Nat) + (0 : Nat)) (mkN (Int.toNat (↑n : Int) * (2 : Nat)) (ptF n l (Int.toNat (↑x : Int)) x_1)))) (List.take (2 : Nat) (List.drop (Int.toNat ((0 : Int) + (2 : Int) + (↑x_2 : Int)) * (2 : Nat) + (0 : Nat)) (mkN (Int.toNat (↑n : Int) * (2 : Nat)) (ptF n l (Int.toNat (↑x : Int)) x_1)))) ≤ (0 : Int)) = Bool.true → True ∧ cxB n l = Bool.false) ∧ (Decidable.decide (sd (List.take (2 : Nat) (List.drop (Int.toNat ((0 : Int) + (0 : Int)) * (2 : Nat) + (0 : Nat)) (mkN (Int.toNat (↑n : Int) * (2 : Nat)) (ptF n l (Int.toNat (↑x : Int)) x_1)))) (List.take (2 : Nat) (List.drop (Int.toNat ((0 : Int) + (1 : Int)) * (2 : Nat) + (0 : Nat)) (mkN (Int.toNat (↑n : Int) * (2 : Nat)) (ptF n l (Int.toNat (↑x : Int)) x_1)))) (List.take (2 : Nat) (List.drop (Int.toNat ((0 : Int) + (2 : Int) + (↑x_2 : Int)) * (2 : Nat) + (0 : Nat)) (mkN (Int.toNat (↑n : Int) * (2 : Nat)) (ptF n l (Int.toNat (↑x : Int)) x_1)))) ≤ (0 : Int)) = Bool.false → ((-9223372036854775808 : Int) ≤ (↑x_2 : Int) + (1 : Int) ∧ (↑x_2 : Int) + (1 : Int) ≤ (9223372036854775807 : Int)) ∧ True ∧ ∃ (y : Nat), (y + (2 : Nat) ≤ n ∧ ∀ (j : Nat), j < y → (0 : Int) < sgn l (Int.toNat (↑x : Int)) ((Int.toNat (↑x : Int) + (1 : Nat)) % n) ((Int.toNat (↑x : Int) + (j + (2 : Nat))) % n)) ∧ n - y < n - x_2 ∧ (Cel.slc (0 : Nat) (0 : Nat) (0 : Int) (2 : Nat) (↑n : Int) cap = Cel.slc (0 : Nat) (0 : Nat) (0 : Int) (2 : Nat) (↑n : Int) cap ∧ Cel.val Go.undef = Cel.val Go.undef ∧ True ∧ (IntKind.i64 = IntKind.i64 ∧ (↑x : Int) = (↑x : Int)) ∧ Cel.slc (1 : Nat) (0 : Nat) (0 : Int) (2 : Nat) (↑n : Int) (↑n : Int) = Cel.slc (1 : Nat) (0 : Nat) (0 : Int) (2 : Nat) (↑n : Int) (↑n : Int) ∧ Cel.val Go.undef = Cel.val Go.undef ∧ True ∧ Cel.slc (0 : Nat) (0 : Nat) (0 : Int) (2 : Nat) (↑n : Int) cap = Cel.slc (0 : Nat) (0 : Nat) (0 : Int) (2 : Nat) (↑n : Int) cap ∧ (IntKind.i64 = IntKind.i64 ∧ (↑n : Int) = (↑n : Int)) ∧ (IntKind.i64 = IntKind.i64 ∧ (↑x : Int) = (↑x : Int)) ∧ Decidable.decide ((↑x : Int) < (↑n : Int)) = Decidable.decide ((↑x : Int) < (↑n : Int)) ∧ (IntKind.i64 = IntKind.i64 ∧ (↑x : Int) = (↑x : Int)) ∧ Cel.slc (0 : Nat) (0 : Nat) (0 : Int) (2 : Nat) (↑n : Int) cap = Cel.slc (0 : Nat) (0 : Nat) (0 : Int) (2 : Nat) (↑n : Int) cap ∧ (IntKind.i64 = IntKind.i64 ∧ (↑x : Int) = (↑x : Int)) ∧ Cel.slc (0 : Nat) (0 : Nat) (0 : Int) (2 : Nat) (↑n : Int) cap = Cel.slc (0 : Nat) (0 : Nat) (0 : Int) (2 : Nat) (↑n : Int) cap ∧ (IntKind.i64 = IntKind.i64 ∧ (↑n : Int) = (↑n : Int)) ∧ Cel.slc (1 : Nat) (0 : Nat) (0 : Int) (2 : Nat) (↑n : Int) (↑n : Int) = Cel.slc (1 : Nat) (0 : Nat) (0 : Int) (2 : Nat) (↑n : Int) (↑n : Int) ∧ Cel.slc (1 : Nat) (0 : Nat) (0 : Int) (2 : Nat) (↑n : Int) (↑n : Int) = Cel.slc (1 : Nat) (0 : Nat) (0 : Int) (2 : Nat) (↑n : Int) (↑n : Int) ∧ Cel.slc (1 : Nat) (0 : Nat) ((0 : Int) + (2 : Int)) (2 : Nat) ((↑n : Int) - (2 : Int)) ((↑n : Int) - (2 : Int)) = Cel.slc (1 : Nat) (0 : Nat) ((0 : Int) + (2 : Int)) (2 : Nat) ((↑n : Int) - (2 : Int)) ((↑n : Int) - (2 : Int)) ∧ (IntKind.i64 = IntKind.i64 ∧ (↑n : Int) - (2 : Int) = (↑n : Int) - (2 : Int)) ∧ (IntKind.i64 = IntKind.i64 ∧ (↑x_2 : Int) + (1 : Int) = (↑y : Int)) ∧ True ∧ True ∧ True ∧ True ∧ True ∧ True ∧ True ∧ True ∧ True ∧ True ∧ True ∧ True ∧ True ∧ True ∧ True) ∧ (Bool.false = Bool.false ∧ (35 : Nat) = (35 : Nat) ∧ ([EK.i16] = [EK.i16] ∧ m = m ∧ l = l) ∧ True) ∧ (Bool.true = Bool.true ∧ (35 : Nat) = (35 : Nat) ∧ ([EK.i16] = [EK.i16] ∧ Int.toNat (↑n : Int) * (2 : Nat) = Int.toNat (↑n : Int) * (2 : Nat) ∧ mkN (Int.toNat (↑n : Int) * (2 : Nat)) (ptF n l (Int.toNat (↑x : Int)) x_1) = mkN (Int.toNat (↑n : Int) * (2 : Nat)) (ptF n l (Int.toNat (↑x : Int)) x_1)) ∧ True) ∧ True)) ∧ (Decidable.decide ((↑x_2 : Int) < (↑n : Int) - (2 : Int)) = Bool.false → ((-9223372036854775808 : Int) ≤ (↑x : Int) + (1 : Int) ∧ (↑x : Int) + (1 : Int) ≤ (9223372036854775807 : Int)) ∧ True ∧ ∃ (y : Nat), (y ≤ n ∧ ∀ (i : Nat), i < y → ∀ (j : Nat), j + (2 : Nat) < n → (0 : Int) < sgn l i ((i + (1 : Nat)) % n) ((i + (j + (2 : Nat))) % n)) ∧ n - y < n - x ∧ (Cel.slc (0 : Nat) (0 : Nat) (0 : Int) (2 : Nat) (↑n : Int) cap = Cel.slc (0 : Nat) (0 : Nat) (0 : Int) (2 : Nat) (↑n : Int) cap ∧ Cel.val Go.undef = Cel.val Go.undef ∧ True ∧ True ∧ True ∧ Cel.val Go.undef = Cel.val Go.undef ∧ True ∧ Cel.slc (0 : Nat) (0 : Nat) (0 : Int) (2 : Nat) (↑n : Int) cap = Cel.slc (0 : Nat) (0 : Nat) (0 : Int) (2 : Nat) (↑n : Int) cap ∧ (IntKind.i64 = IntKind.i64 ∧ (↑n : Int) = (↑n : Int)) ∧ (IntKind.i64 = IntKind.i64 ∧ (↑x : Int) + (1 : Int) = (↑y : Int)) ∧ True ∧ True ∧ True ∧ True ∧ True ∧ True ∧ True ∧ True ∧ True ∧ True ∧ True ∧ True ∧ True ∧ True ∧ True ∧ True ∧ True ∧ True ∧ True ∧ True ∧ True ∧ True ∧ True ∧ True ∧ True ∧ True) ∧ (Bool.false = Bool.false ∧ (35 : Nat) = (35 : Nat) ∧ ([EK.i16] = [EK.i16] ∧ m = m ∧ l = l) ∧ True) ∧ True))) ∧ (Decidable.decide ((↑x : Int) < (↑n : Int)) = Bool.false → True ∧ cxB n l = Bool.true)) (by kernel_rfl) ?_
  have ec : ∀ i, List.take 2 (List.drop (i * 2) l) = cor l i := fun _ => rfl
  simp only [true_and, and_true, and_self, decide_eq_true_eq, decide_eq_false_iff_not, Bool.not_eq_true', Bool.not_eq_false', Bool.not_true, Bool.not_false, beq_iff_eq, beq_eq_false_iff_ne, bne_iff_ne, bne_eq_false_iff_eq, ne_eq, not_true_eq_false, not_false_eq_true, false_implies, true_implies, implies_true, forall_const, exists_const, ↓reduceIte, Int.reduceEq, Int.toNat_natCast, Bool.false_eq_true, Bool.true_eq_false, reduceCtorEq, Int.zero_add, Nat.add_zero, ec, tmodP, Int.ofNat_eq_natCast]
  refine ⟨⟨0, ⟨by omega, fun i hi => by omega⟩, rfl⟩, ?_⟩
  rintro i ⟨hi, hx⟩
  refine ⟨fun hlt => ⟨⟨by omega, by omega, by omega, by omega⟩, ⟨0, by omega, rfl, mkN_zero fun _ _ => by simp [ptF]⟩, ?_⟩, fun hge => cxB_t.2 fun i' hi' => hx i' (by omega)⟩
  rintro c hc
  have hm : (i + c) % n < n := Nat.mod_lt _ (by omega)
  refine ⟨fun hlt' => ⟨⟨by omega, by omega⟩, ⟨by omega, by omega⟩, by omega, ⟨by omega, by omega⟩, ⟨by omega, by omega⟩, ⟨by omega, by omega⟩, ⟨by omega, by omega⟩, ⟨by omega, by omega⟩, c + 1, by omega, by omega, by omega, put_ptF (by omega) (by omega) (by omega)⟩, fun hge' => ⟨⟨by omega, by omega, by omega⟩, ⟨0, ⟨by omega, fun j hj => by omega⟩, rfl⟩, ?_⟩⟩
  rintro j ⟨hj, hy⟩
  refine ⟨fun hlt'' => ?_, fun hge'' => ⟨⟨by omega, by omega⟩, i + 1, ⟨by omega, fun i' hi' j' hj' => ?_⟩, by omega, by omega⟩⟩
  · have q2 : (2 + (j : Int)).toNat = j + 2 := by omega
    have hi0 : (i + 0) % n = i := Nat.mod_eq_of_lt (by omega)
    simp only [q2, show Int.toNat 0 = 0 from rfl, show Int.toNat 1 = 1 from rfl, cor_ptF (n := n) (N := n) (k := c) (f := i) (l := l) (j := 0) (by omega) (by omega) (by omega) (by omega), cor_ptF (n := n) (N := n) (k := c) (f := i) (l := l) (j := 1) (by omega) (by omega) (by omega) (by omega), cor_ptF (n := n) (N := n) (k := c) (f := i) (l := l) (j := j + 2) (by omega) (by omega) (by omega) (by omega), hi0]
    refine ⟨⟨by omega, by omega⟩, ⟨by omega, by omega⟩, ⟨by omega, by omega⟩, ⟨by omega, by omega⟩, ⟨by omega, by omega⟩, ⟨by omega, by omega⟩, ⟨hP _ (by omega), hP _ (Nat.mod_lt _ (by omega)), hP _ (Nat.mod_lt _ (by omega))⟩, fun hs => cxB_f.2 fun h => ?_, fun hs => ⟨⟨by omega, by omega⟩, j + 1, ⟨by omega, fun j' hj' => ?_⟩, by omega, by omega⟩⟩
    · have := h i (by omega) j (by omega)
      simp only [sgn] at this
      omega
    · rcases (show j' < j ∨ j' = j by omega) with h | rfl
      · exact hy j' h
      · simp only [sgn]; omega
  · rcases (show i' < i ∨ i' = i by omega) with h | rfl
    · exact hx i' h j' hj'
    · exact hy j' (by omega)

noncomputable def gAp0 (Q : Nat → List Int → Prop) (R : Nat → List Int → Bool) : Entry := fun args H => match args with
  | [.a (.c (.slc id b z s len _))] => match getB H id with
    | .cells _ t [.run ks n l] => some ((t = 35 ∧ b = 0 ∧ z = 0 ∧ s = 2 ∧ ks = [.i16]) ∧ 0 ≤ len ∧ len ≤ 1048576 ∧ len.toNat * 2 ≤ n ∧ l.length = n ∧ wfl (len.toNat * 2) l ∧ Q len.toNat l, .a (.c (.bool (R len.toNat l))))
    | _ => none
  | _ => none
theorem gAp0_inv {Q : Nat → List Int → Prop} {R : Nat → List Int → Bool} {args : List LV} {H : List Blk} {p : Prop} {r : LV} (he : gAp0 Q R args H = some (p, r)) (hp : p) : ∃ (id m n : Nat) (o : Bool) (l : List Int) (cap : Int),
    args = [.a (.c (.slc id 0 0 2 n cap))] ∧ getB H id = .cells o 35 [.run [.i16] m l] ∧ r = .a (.c (.bool (R n l))) ∧ n ≤ 1048576 ∧ n * 2 ≤ m ∧ l.length = m ∧ wfl (n * 2) l ∧ Q n l := by
  unfold gAp0 at he
  split at he
  · split at he
    · rename_i id b z s len cap _ o t ks m l hg
      simp only [Option.some.injEq, Prod.mk.injEq] at he
      obtain ⟨rfl, rfl⟩ := he
      obtain ⟨⟨rfl, rfl, rfl, rfl, rfl⟩, h1, h2, h3, h4, h5, h6⟩ := hp
      obtain ⟨n, rfl⟩ := Int.eq_ofNat_of_zero_le h1
      exact ⟨id, m, n, o, l, cap, rfl, hg, rfl, by omega, by simpa using h3, h4, by simpa using h5, by simpa using h6⟩
    · simp at he
  · simp at he
def qTr (_ : Nat) (_ : List Int) : Prop := True
def qCx (n : Nat) (l : List Int) : Prop := (3 ≤ n ∧ n ≤ 20) ∧ ∀ i, i < n → PlC (cor l i)
theorem e_arePlaces : EntryOk Tryd.prog (TT e) 34 (gAp0 qTr apB) := by
  refine ⟨fnOk Tryd.func34 (by kernel_rfl) rfl, ?_⟩
  intro args H p r he hp n0 w0 β w vals hG hH hA
  obtain ⟨id, m, n, o, l, cap, rfl, hg, rfl, h1, h2, h3, h4, _⟩ := gAp0_inv he hp
  exact entry_view tt_ok (inlN_ok tt_ok C0_ok mixed ILap_ok.ok 4) C0_ok mixed Tryd.func34 [id] (x_arePlaces m n l cap h1 h2 h3 h4) rfl rfl ⟨.inr (by rw [hg]; rfl), trivial⟩ hG hH hA
theorem e_isConvex : EntryOk Tryd.prog (TT e) 35 (gAp0 qCx cxB) := by
  refine ⟨fnOk Tryd.func35 (by kernel_rfl) rfl, ?_⟩
  intro args H p r he hp n0 w0 β w vals hG hH hA
  obtain ⟨id, m, n, o, l, cap, rfl, hg, rfl, h1, h2, h3, h4, h5⟩ := gAp0_inv he hp
  exact entry_view tt_ok (inlN_ok tt_ok Cs_ok mixed ILcx_ok.ok 5) Cs_ok mixed Tryd.func35 [id] (x_isConvex m n l cap h5.1.1 h5.1.2 h2 h3 h5.2) rfl rfl ⟨.inr (by rw [hg]; rfl), trivial⟩ hG hH hA
end

/-! ### The table that lists the errors' own blocks -/
def eP (a : Nat → Addr) : Nat → Value := fun i => .pointer (some (a i))
def isB (a : Nat → Addr) (g : Nat) : Bool := g == (a 0).block || g == (a 1).block || g == (a 2).block
def TTx (a : Nat → Addr) (c : Nat → Value) : Tab := { TT (eP a) with
  gv := fun g => match g with
    | 0 => some (.iface 77 (.pointer (some (a 0))))
    | 1 => some (.iface 77 (.pointer (some (a 1))))
    | 2 => some (.iface 77 (.pointer (some (a 2))))
    | g => if isB a g then some (c g) else none
  fz := isB a }
variable {a : Nat → Addr} {c : Nat → Value}
theorem ttx_ok : TabOk Tryd.prog (TTx a c) := Tab.chk_sound (by kernel_rfl) (by kernel_rfl) (by kernel_rfl) (trivial)
theorem gx {w0 : Base} (h : GOk (TTx a c) w0) : GOk (TT (eP a)) w0 := fun g v hg u hu => by
  have hv : (TTx a c).gv g = some v := by
    match g, hg with
    | 0, hg => exact hg
    | 1, hg => exact hg
    | 2, hg => exact hg
    | _ + 3, hg => simp [TT] at hg
  obtain ⟨t, fr, cs, h1, h2, _⟩ := h g v hv u hu
  first
    | exact ⟨t, fr, cs, h1, h2, fun h => by cases h⟩
    | exact ⟨t, fr, cs, h1, h2, (fun h => by cases h), fun l h => by cases h⟩
theorem liftE {f : FuncId} {g : Entry} (h : EntryOk Tryd.prog (TT (eP a)) f g) : EntryOk Tryd.prog (TTx a c) f g :=
  ⟨h.1, fun args H p r he hp n0 w0 β w vals hG hH hA => h.2 args H p r he hp n0 w0 β w vals (gx hG) hH hA⟩
theorem liftC {f : FuncId} {g : EntryC} (h : EntryCOk Tryd.prog (TT (eP a)) f g) : EntryCOk Tryd.prog (TTx a c) f g :=
  ⟨h.1, fun args H K hh n0 w0 β w vals hG hH hA => h.2 args H K hh n0 w0 β w vals (gx hG) hH hA⟩
theorem liftEs : ∀ {L : List (FuncId × Entry)}, EntriesOk Tryd.prog (TT (eP a)) L → EntriesOk Tryd.prog (TTx a c) L
  | [], _ => trivial
  | (_, _) :: _, h => ⟨liftE h.1, liftEs h.2⟩
theorem liftCs : ∀ {L : List (FuncId × EntryC)}, EntriesCOk Tryd.prog (TT (eP a)) L → EntriesCOk Tryd.prog (TTx a c) L
  | [], _ => trivial
  | (_, _) :: _, h => ⟨liftC h.1, liftCs h.2⟩

theorem blk_of {w0 : Base} {w : World} (h : GOk (TTx a c) w0) (hx : w0.X w) {i : Nat} (hi : i = 0 ∨ i = 1 ∨ i = 2) : ∃ cs t, w.heap[(a i).block]? = some (.cells cs t (0, 0)) := by
  have hb : isB a (a i).block = true := by rcases hi with rfl | rfl | rfl <;> simp [isB]
  have hv : ∃ v, (TTx a c).gv (a i).block = some v := by
    generalize (a i).block = b at hb
    match b, hb with
    | 0, _ => exact ⟨_, rfl⟩
    | 1, _ => exact ⟨_, rfl⟩
    | 2, _ => exact ⟨_, rfl⟩
    | b + 3, hb => exact ⟨c (b + 3), by simp [TTx, hb]⟩
  obtain ⟨v, hv⟩ := hv
  obtain ⟨t, fr, cs, h1, _, h3⟩ := h _ v hv w hx
  first
    | rw [h3 hb] at h1
    | rw [h3.1 hb] at h1
  exact ⟨cs, t, h1⟩

def inA (a : Nat → Addr) (x : Addr) : Prop := x = a 0 ∨ x = a 1 ∨ x = a 2
open Classical in
noncomputable def gIs (a : Nat → Addr) : Entry := fun args _ => match args with
  | [.a (.c (.val .nilIface)), .a (.c (.val (.iface t (.pointer (some _)))))] => some (t = 77, .a (.c (.bool false)))
  | [.a (.c (.val (.iface t1 (.pointer (some x))))), .a (.c (.val (.iface t2 (.pointer (some y)))))] => some ((t1 = 77 ∧ t2 = 77) ∧ inA a x ∧ inA a y, .a (.c (.bool (decide (x = y)))))
  | _ => none
theorem e_Is : EntryOk Tryd.prog (TTx a c) 29 (gIs a) := by
  refine ⟨fnOk Tryd.func29 (by kernel_rfl) rfl, ?_⟩
  intro args H p r he hp n0 w0 β w vals hG hH hA
  unfold gIs at he
  split at he
  · rename_i t y
    simp only [Option.some.injEq, Prod.mk.injEq] at he
    obtain ⟨rfl, rfl⟩ := he
    have ht : t = 77 := hp
    subst ht
    have hv : vals = #[.nilIface, .iface 77 (.pointer (some y))] := by
      obtain ⟨v1, r1, e1, q1, v2, r2, e2, q2, q3⟩ := hA
      have q1 : v1 = .nilIface := q1
      have q2 : v2 = .iface 77 (.pointer (some y)) := q2
      have q3 : r2 = [] := q3
      subst q1 q2 q3 e2
      exact Array.toList_inj.1 e1
    subst hv
    refine (isx_nil y w).mono ?_
    rintro ev w' ⟨rfl, rfl⟩
    exact ⟨_, rfl, Below.refl _ _, rfl⟩
  · rename_i t1 x t2 y
    simp only [Option.some.injEq, Prod.mk.injEq] at he
    obtain ⟨rfl, rfl⟩ := he
    obtain ⟨⟨rfl, rfl⟩, hx, hy⟩ := hp
    have hv : vals = #[.iface 77 (.pointer (some x)), .iface 77 (.pointer (some y))] := by
      obtain ⟨v1, r1, e1, q1, v2, r2, e2, q2, q3⟩ := hA
      have q1 : v1 = .iface 77 (.pointer (some x)) := q1
      have q2 : v2 = .iface 77 (.pointer (some y)) := q2
      have q3 : r2 = [] := q3
      subst q1 q2 q3 e2
      exact Array.toList_inj.1 e1
    subst hv
    by_cases hxy : x = y
    · subst hxy
      refine (isx_same x w).mono ?_
      rintro ev w' ⟨rfl, rfl⟩
      exact ⟨_, rfl, Below.refl _ _, by simp [LVR, AvR, CelR]⟩
    · have bx : ∃ cs t, w.heap[x.block]? = some (.cells cs t (0, 0)) := by
        rcases hx with rfl | rfl | rfl
        · exact blk_of hG hH.ext (.inl rfl)
        · exact blk_of hG hH.ext (.inr (.inl rfl))
        · exact blk_of hG hH.ext (.inr (.inr rfl))
      have by' : ∃ cs t, w.heap[y.block]? = some (.cells cs t (0, 0)) := by
        rcases hy with rfl | rfl | rfl
        · exact blk_of hG hH.ext (.inl rfl)
        · exact blk_of hG hH.ext (.inr (.inl rfl))
        · exact blk_of hG hH.ext (.inr (.inr rfl))
      obtain ⟨ca, ta, ha⟩ := bx
      obtain ⟨cb, tb, hb⟩ := by'
      refine (isx_other x y ca cb ta tb w hxy ha hb).mono ?_
      rintro ev w' ⟨rfl, rfl⟩
      exact ⟨_, rfl, Below.refl _ _, by simp [LVR, AvR, CelR, hxy]⟩
  · simp at he

end Go.Proofs.YtnoljgfnpabinaaDoor
