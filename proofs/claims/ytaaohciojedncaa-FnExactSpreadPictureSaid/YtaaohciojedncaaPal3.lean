/- Valid palettes and nearest tones: the functions of both sides. No conditions beyond the ranges of the kinds. -/
import Derived.Test.YtaaohciojedncaaPal2
set_option linter.unusedSimpArgs false
set_option linter.unusedVariables false
namespace Go.Proofs.Ytaaohciojedncaa
open Go.Sx Go.RowKit

def mapB (st : St) (t : Nat) : Nat := match getL st.tmps t with
  | .a (.c (.mpr id)) => id
  | _ => 9999

/-! ### ValidPalette of the specification -/
def lmPalO (n : Nat) (l : List Int) : LAnn := { ι := Nat, inv := fun _ k => k ≤ n ∧ ∀ i, i < k → ∀ j, j < i → rcd 3 l i ≠ rcd 3 l j, slots := fun _ k => [(3, .a (.c (.int .i64 k)))], blks := fun _ _ => [], μ := fun _ k => n - k }
def lmPalN (n : Nat) (l : List Int) : LAnn := { ι := Nat, inv := fun st k => (k : Int) ≤ slotI st 3 ∧ ∀ j, j < k → rcd 3 l (slotI st 3).toNat ≠ rcd 3 l j, slots := fun _ k => [(4, .a (.c (.int .i64 k)))], blks := fun _ _ => [], μ := fun _ k => n - k }
noncomputable def ILpi (n : Nat) (l : List Int) : List (FuncId × Func × (Nat → LM)) := [
  (16, Try.f16, U0),
  (44, Try.f44, fun r => if r = 5 then .inv (lmPalN n l) else .inv (lmPalO n l))]
theorem ILpi_ok {n : Nat} {l : List Int} : InlsOk Try.prog (ILpi n l) := ⟨⟨Try.func16, by kernel_rfl⟩, ⟨Try.func44, by kernel_rfl⟩, trivial⟩

theorem x_ValidPaletteS (m n : Nat) (l : List Int) (cap : Int) (h1 : n ≤ 1048576) (h3 : n * 3 ≤ m) (h4 : l.length = m) : Fex true TT (inlN true TT C0 (lookI (ILpi n l)) 4) C0 U0 Try.f36 [.a (.c (.slc 0 0 0 3 n cap))] [.cells false 34 [.run [.u8] m l]] (fun lv _ => leL lv (.a (.c (.bool (palB n l))))) := by
  refine Go.Sx.by_eq (q := True ∧ True ∧ True ∧ True ∧ True ∧ (Decidable.decide ((↑n : Int) ≤ (15 : Int)) = Bool.true → True ∧ True ∧ True ∧ (∃ (x : Nat), (x ≤ n ∧ ∀ (i : Nat), i < x → ∀ (j : Nat), j < i → rcd (3 : Nat) l i ≠ rcd (3 : Nat) l j) ∧ (Cel.slc (0 : Nat) (0 : Nat) (0 : Int) (3 : Nat) (↑n : Int) cap = Cel.slc (0 : Nat) (0 : Nat) (0 : Int) (3 : Nat) (↑n : Int) cap ∧ Cel.val Go.undef = Cel.val Go.undef ∧ True ∧ (IntKind.i64 = IntKind.i64 ∧ (0 : Int) = (↑x : Int)) ∧ True ∧ True ∧ True ∧ True ∧ True ∧ True ∧ True ∧ True ∧ True ∧ True ∧ True ∧ True ∧ True ∧ True ∧ True ∧ True ∧ True ∧ True ∧ True ∧ True ∧ True ∧ Cel.val Go.undef = Cel.val Go.undef ∧ Cel.val Go.undef = Cel.val Go.undef ∧ Cel.val Go.undef = Cel.val Go.undef ∧ True) ∧ (Bool.false = Bool.false ∧ (34 : Nat) = (34 : Nat) ∧ ([EK.u8] = [EK.u8] ∧ m = m ∧ l = l) ∧ True) ∧ True) ∧ ∀ (x : Nat), (x ≤ n ∧ ∀ (i : Nat), i < x → ∀ (j : Nat), j < i → rcd (3 : Nat) l i ≠ rcd (3 : Nat) l j) → True ∧ True ∧ True ∧ True ∧ (Decidable.decide ((↑x : Int) < (↑n : Int)) = Bool.true → True ∧ (∃ (x_1 : Nat), ((↑x_1 : Int) ≤ (↑x : Int) ∧ ∀ (j : Nat), j < x_1 → rcd (3 : Nat) l (Int.toNat (↑x : Int)) ≠ rcd (3 : Nat) l j) ∧ (Cel.slc (0 : Nat) (0 : Nat) (0 : Int) (3 : Nat) (↑n : Int) cap = Cel.slc (0 : Nat) (0 : Nat) (0 : Int) (3 : Nat) (↑n : Int) cap ∧ Cel.val Go.undef = Cel.val Go.undef ∧ True ∧ (IntKind.i64 = IntKind.i64 ∧ (↑x : Int) = (↑x : Int)) ∧ (IntKind.i64 = IntKind.i64 ∧ (0 : Int) = (↑x_1 : Int)) ∧ (IntKind.i64 = IntKind.i64 ∧ (↑x : Int) = (↑x : Int)) ∧ Cel.slc (0 : Nat) (0 : Nat) (0 : Int) (3 : Nat) (↑n : Int) cap = Cel.slc (0 : Nat) (0 : Nat) (0 : Int) (3 : Nat) (↑n : Int) cap ∧ (IntKind.i64 = IntKind.i64 ∧ (↑n : Int) = (↑n : Int)) ∧ Decidable.decide ((↑x : Int) < (↑n : Int)) = Decidable.decide ((↑x : Int) < (↑n : Int)) ∧ True ∧ True ∧ True ∧ True ∧ True ∧ True ∧ True ∧ True ∧ True ∧ True ∧ True ∧ True ∧ True ∧ True ∧ True ∧ True ∧ Cel.val Go.undef = Cel.val Go.undef ∧ Cel.val Go.undef = Cel.val Go.undef ∧ Cel.val Go.undef = Cel.val Go.undef ∧ True) ∧ (Bool.false = Bool.false ∧ (34 : Nat) = (34 : Nat) ∧ ([EK.u8] = [EK.u8] ∧ m = m ∧ l = l) ∧ True) ∧ True) ∧ ∀ (x_1 : Nat), ((↑x_1 : Int) ≤ (↑x : Int) ∧ ∀ (j : Nat), j < x_1 → rcd (3 : Nat) l (Int.toNat (↑x : Int)) ≠ rcd (3 : Nat) l j) → True ∧ True ∧ True ∧ (Decidable.decide ((↑x_1 : Int) < (↑x : Int)) = Bool.true → True ∧ True ∧ ((0 : Int) ≤ (↑x : Int) ∧ (↑x : Int) < (↑n : Int)) ∧ ((0 : Int) ≤ (0 : Int) + (↑x : Int) ∧ Int.toNat ((0 : Int) + (↑x : Int)) * (3 : Nat) + (0 : Nat) + (3 : Nat) ≤ m) ∧ True ∧ True ∧ ((0 : Int) ≤ (↑x_1 : Int) ∧ (↑x_1 : Int) < (↑n : Int)) ∧ ((0 : Int) ≤ (0 : Int) + (↑x_1 : Int) ∧ Int.toNat ((0 : Int) + (↑x_1 : Int)) * (3 : Nat) + (0 : Nat) + (3 : Nat) ≤ m) ∧ True ∧ ((List.take (3 : Nat) (List.drop (Int.toNat ((0 : Int) + (↑x : Int)) * (3 : Nat) + (0 : Nat)) l) == List.take (3 : Nat) (List.drop (Int.toNat ((0 : Int) + (↑x_1 : Int)) * (3 : Nat) + (0 : Nat)) l)) = Bool.true → True ∧ True ∧ True ∧ palB n l = Bool.false) ∧ ((List.take (3 : Nat) (List.drop (Int.toNat ((0 : Int) + (↑x : Int)) * (3 : Nat) + (0 : Nat)) l) == List.take (3 : Nat) (List.drop (Int.toNat ((0 : Int) + (↑x_1 : Int)) * (3 : Nat) + (0 : Nat)) l)) = Bool.false → True ∧ ((-9223372036854775808 : Int) ≤ (↑x_1 : Int) + (1 : Int) ∧ (↑x_1 : Int) + (1 : Int) ≤ (9223372036854775807 : Int)) ∧ True ∧ ∃ (y : Nat), ((↑y : Int) ≤ (↑x : Int) ∧ ∀ (j : Nat), j < y → rcd (3 : Nat) l (Int.toNat (↑x : Int)) ≠ rcd (3 : Nat) l j) ∧ n - y < n - x_1 ∧ (Cel.slc (0 : Nat) (0 : Nat) (0 : Int) (3 : Nat) (↑n : Int) cap = Cel.slc (0 : Nat) (0 : Nat) (0 : Int) (3 : Nat) (↑n : Int) cap ∧ Cel.val Go.undef = Cel.val Go.undef ∧ True ∧ (IntKind.i64 = IntKind.i64 ∧ (↑x : Int) = (↑x : Int)) ∧ (IntKind.i64 = IntKind.i64 ∧ (↑x_1 : Int) + (1 : Int) = (↑y : Int)) ∧ (IntKind.i64 = IntKind.i64 ∧ (↑x : Int) = (↑x : Int)) ∧ Cel.slc (0 : Nat) (0 : Nat) (0 : Int) (3 : Nat) (↑n : Int) cap = Cel.slc (0 : Nat) (0 : Nat) (0 : Int) (3 : Nat) (↑n : Int) cap ∧ (IntKind.i64 = IntKind.i64 ∧ (↑n : Int) = (↑n : Int)) ∧ Decidable.decide ((↑x : Int) < (↑n : Int)) = Decidable.decide ((↑x : Int) < (↑n : Int)) ∧ True ∧ True ∧ True ∧ True ∧ True ∧ True ∧ True ∧ True ∧ True ∧ True ∧ True ∧ True ∧ True ∧ True ∧ True ∧ True ∧ Cel.val Go.undef = Cel.val Go.undef ∧ Cel.val Go.undef = Cel.val Go.undef ∧ Cel.val Go.undef = Cel.val Go.undef ∧ True) ∧ (Bool.false = Bool.false ∧ (34 : Nat) = (34 : Nat) ∧ ([EK.u8] = [EK.u8] ∧ m = m ∧ l = l) ∧ True) ∧ True)) ∧ (Decidable.decide ((↑x_1 : Int) < (↑x : Int)) = Bool.false → True ∧ ((-9223372036854775808 : Int) ≤ (↑x : Int) + (1 : Int) ∧ (↑x : Int) + (1 : Int) ≤ (9223372036854775807 : Int)) ∧ True ∧ ∃ (y : Nat), (y ≤ n ∧ ∀ (i : Nat), i < y → ∀ (j : Nat), j < i → rcd (3 : Nat) l i ≠ rcd (3 : Nat) l j) ∧ n - y < n - x ∧ (Cel.slc (0 : Nat) (0 : Nat) (0 : Int) (3 : Nat) (↑n : Int) cap = Cel.slc (0 : Nat) (0 : Nat) (0 : Int) (3 : Nat) (↑n : Int) cap ∧ Cel.val Go.undef = Cel.val Go.undef ∧ True ∧ (IntKind.i64 = IntKind.i64 ∧ (↑x : Int) + (1 : Int) = (↑y : Int)) ∧ True ∧ True ∧ True ∧ True ∧ True ∧ True ∧ True ∧ True ∧ True ∧ True ∧ True ∧ True ∧ True ∧ True ∧ True ∧ True ∧ True ∧ True ∧ True ∧ True ∧ True ∧ Cel.val Go.undef = Cel.val Go.undef ∧ Cel.val Go.undef = Cel.val Go.undef ∧ Cel.val Go.undef = Cel.val Go.undef ∧ True) ∧ (Bool.false = Bool.false ∧ (34 : Nat) = (34 : Nat) ∧ ([EK.u8] = [EK.u8] ∧ m = m ∧ l = l) ∧ True) ∧ True)) ∧ (Decidable.decide ((↑x : Int) < (↑n : Int)) = Bool.false → True ∧ True ∧ True ∧ True ∧ True ∧ True ∧ True ∧ (Decidable.decide ((1 : Int) ≤ (↑n : Int)) = Bool.true → True ∧ True ∧ True ∧ True ∧ True ∧ True ∧ True ∧ True ∧ Decidable.decide ((↑n : Int) ≤ (15 : Int)) = palB n l) ∧ (Decidable.decide ((1 : Int) ≤ (↑n : Int)) = !Bool.true → True ∧ True ∧ True ∧ True ∧ True ∧ palB n l = Bool.false))) ∧ (Decidable.decide ((↑n : Int) ≤ (15 : Int)) = !Bool.true → True ∧ True ∧ palB n l = Bool.false)) (by kernel_rfl) ?_
  have er : ∀ k, List.take 3 (List.drop (k * 3) l) = rcd 3 l k := fun _ => rfl
  simp only [true_and, and_true, and_self, decide_eq_true_eq, decide_eq_false_iff_not, Bool.not_eq_true', Bool.not_eq_false', Bool.not_true, Bool.not_false, beq_iff_eq, beq_eq_false_iff_ne, bne_iff_ne, bne_eq_false_iff_eq, ne_eq, not_true_eq_false, not_false_eq_true, false_implies, true_implies, implies_true, forall_const, exists_const, ↓reduceIte, Int.reduceEq, Int.toNat_natCast, Bool.false_eq_true, Bool.true_eq_false, reduceCtorEq, Int.zero_add, Nat.add_zero, Int.ofNat_eq_natCast, er]
  refine ⟨fun h15 => ⟨⟨0, ⟨by omega, fun i hi => by omega⟩, rfl⟩, ?_⟩, fun h => palB_f.2 fun p => by have := p.hi; omega⟩
  rintro i ⟨hi, hp⟩
  refine ⟨fun hlt => ⟨⟨0, ⟨by omega, fun j hj => by omega⟩, rfl⟩, ?_⟩, fun hge => ⟨fun h => ?_, fun h => palB_f.2 fun p => by have := p.lo; omega⟩⟩
  · rintro k ⟨hk, hq⟩
    refine ⟨fun hlt' => ⟨by omega, by omega, by omega, by omega, fun hc => palB_f.2 fun p => p.df i (by omega) k (by omega) hc, fun hc => ⟨by omega, k + 1, ⟨by omega, fun j hj => ?_⟩, by omega, by omega⟩⟩, fun hge' => ⟨by omega, i + 1, ⟨by omega, fun i' hi' j hj => ?_⟩, by omega, by omega⟩⟩
    · rcases (show j < k ∨ j = k by omega) with h | rfl
      · exact hq j h
      · exact hc
    · rcases (show i' < i ∨ i' = i by omega) with h | rfl
      · exact hp i' h j hj
      · exact hq j (by omega)
  · rw [palB_t.2 ⟨by omega, by omega, fun a ha b hb => hp a (by omega) b hb⟩]
    simp; omega

/-! ### ValidPalette of the program -/
def lmPalM (n : Nat) (l : List Int) : LAnn := { ι := Nat, inv := fun _ k => k ≤ n, slots := fun _ k => [(3, .a (.c (.mpr 2))), (17, .a (.c (.int .i64 k)))], blks := fun _ _ => [], μ := fun _ k => n - k, kills := [1], frs := fun _ k => [.mp true [.u8, .u8, .u8] .bool (mpT l k)], mv := fun st => [mapB st 3] }

theorem x_ValidPaletteI (m n : Nat) (l : List Int) (cap : Int) (h1 : n ≤ 1048576) (h3 : n * 3 ≤ m) (h4 : l.length = m) : Fex true TT (inlN true TT C0 (lookI ILz) 4) C0 (fun _ => .inv (lmPalM n l)) Try.f21 [.a (.c (.slc 0 0 0 3 n cap))] [.cells false 34 [.run [.u8] m l]] (fun lv _ => leL lv (.a (.c (.bool (palB n l))))) := by
  refine Go.Sx.by_eq (q := True ∧ True ∧ True ∧ True ∧ True ∧ (Decidable.decide ((↑n : Int) < (1 : Int)) = Bool.false → True ∧ True ∧ True ∧ True ∧ (Decidable.decide ((15 : Int) < (↑n : Int)) = Bool.true → True ∧ palB n l = Bool.false) ∧ (Decidable.decide ((15 : Int) < (↑n : Int)) = Bool.false → True ∧ True ∧ True ∧ True ∧ True ∧ (∃ (x : Nat), x ≤ n ∧ (Cel.slc (0 : Nat) (0 : Nat) (0 : Int) (3 : Nat) (↑n : Int) cap = Cel.slc (0 : Nat) (0 : Nat) (0 : Int) (3 : Nat) (↑n : Int) cap ∧ Cel.val Go.undef = Cel.val Go.undef ∧ True ∧ Cel.mpr (1 : Nat) = Cel.mpr (1 : Nat) ∧ Cel.val Go.undef = Cel.val Go.undef ∧ True ∧ Cel.slc (0 : Nat) (0 : Nat) (0 : Int) (3 : Nat) (↑n : Int) cap = Cel.slc (0 : Nat) (0 : Nat) (0 : Int) (3 : Nat) (↑n : Int) cap ∧ (IntKind.i64 = IntKind.i64 ∧ (↑n : Int) = (↑n : Int)) ∧ Decidable.decide ((↑n : Int) < (1 : Int)) = Decidable.decide ((↑n : Int) < (1 : Int)) ∧ True ∧ Cel.slc (0 : Nat) (0 : Nat) (0 : Int) (3 : Nat) (↑n : Int) cap = Cel.slc (0 : Nat) (0 : Nat) (0 : Int) (3 : Nat) (↑n : Int) cap ∧ (IntKind.i64 = IntKind.i64 ∧ (↑n : Int) = (↑n : Int)) ∧ Decidable.decide ((15 : Int) < (↑n : Int)) = Decidable.decide ((15 : Int) < (↑n : Int)) ∧ Decidable.decide ((15 : Int) < (↑n : Int)) = Decidable.decide ((15 : Int) < (↑n : Int)) ∧ Cel.mpr (1 : Nat) = Cel.mpr (1 : Nat) ∧ Cel.slc (0 : Nat) (0 : Nat) (0 : Int) (3 : Nat) (↑n : Int) cap = Cel.slc (0 : Nat) (0 : Nat) (0 : Int) (3 : Nat) (↑n : Int) cap ∧ (IntKind.i64 = IntKind.i64 ∧ (↑n : Int) = (↑n : Int)) ∧ (IntKind.i64 = IntKind.i64 ∧ (0 : Int) = (↑x : Int)) ∧ True ∧ True ∧ True ∧ True ∧ True ∧ True ∧ Cel.val Go.undef = Cel.val Go.undef ∧ Cel.val Go.undef = Cel.val Go.undef ∧ Cel.val Go.undef = Cel.val Go.undef ∧ Cel.val Go.undef = Cel.val Go.undef ∧ Cel.val Go.undef = Cel.val Go.undef ∧ True) ∧ (Bool.false = Bool.false ∧ (34 : Nat) = (34 : Nat) ∧ ([EK.u8] = [EK.u8] ∧ m = m ∧ l = l) ∧ True) ∧ True ∧ (Bool.true = Bool.true ∧ [EK.u8, EK.u8, EK.u8] = [EK.u8, EK.u8, EK.u8] ∧ EK.bool = EK.bool ∧ [] = mpT l x) ∧ True) ∧ ∀ (x : Nat), x ≤ n → True ∧ (Decidable.decide ((↑x : Int) < (↑n : Int)) = Bool.true → ((0 : Int) ≤ (↑x : Int) ∧ (↑x : Int) < (↑n : Int)) ∧ ((0 : Int) ≤ (0 : Int) + (↑x : Int) ∧ Int.toNat ((0 : Int) + (↑x : Int)) * (3 : Nat) + (0 : Nat) + (3 : Nat) ≤ m) ∧ True ∧ True ∧ True ∧ True ∧ True ∧ ((-9223372036854775808 : Int) ≤ (↑x : Int) + (1 : Int) ∧ (↑x : Int) + (1 : Int) ≤ (9223372036854775807 : Int)) ∧ True ∧ ∃ (y : Nat), y ≤ n ∧ n - y < n - x ∧ (Cel.slc (0 : Nat) (0 : Nat) (0 : Int) (3 : Nat) (↑n : Int) cap = Cel.slc (0 : Nat) (0 : Nat) (0 : Int) (3 : Nat) (↑n : Int) cap ∧ Cel.val Go.undef = Cel.val Go.undef ∧ True ∧ Cel.mpr (2 : Nat) = Cel.mpr (2 : Nat) ∧ Cel.val Go.undef = Cel.val Go.undef ∧ True ∧ Cel.slc (0 : Nat) (0 : Nat) (0 : Int) (3 : Nat) (↑n : Int) cap = Cel.slc (0 : Nat) (0 : Nat) (0 : Int) (3 : Nat) (↑n : Int) cap ∧ (IntKind.i64 = IntKind.i64 ∧ (↑n : Int) = (↑n : Int)) ∧ Decidable.decide ((↑n : Int) < (1 : Int)) = Decidable.decide ((↑n : Int) < (1 : Int)) ∧ True ∧ Cel.slc (0 : Nat) (0 : Nat) (0 : Int) (3 : Nat) (↑n : Int) cap = Cel.slc (0 : Nat) (0 : Nat) (0 : Int) (3 : Nat) (↑n : Int) cap ∧ (IntKind.i64 = IntKind.i64 ∧ (↑n : Int) = (↑n : Int)) ∧ Decidable.decide ((15 : Int) < (↑n : Int)) = Decidable.decide ((15 : Int) < (↑n : Int)) ∧ Decidable.decide ((15 : Int) < (↑n : Int)) = Decidable.decide ((15 : Int) < (↑n : Int)) ∧ Cel.mpr (1 : Nat) = Cel.mpr (1 : Nat) ∧ Cel.slc (0 : Nat) (0 : Nat) (0 : Int) (3 : Nat) (↑n : Int) cap = Cel.slc (0 : Nat) (0 : Nat) (0 : Int) (3 : Nat) (↑n : Int) cap ∧ (IntKind.i64 = IntKind.i64 ∧ (↑n : Int) = (↑n : Int)) ∧ (IntKind.i64 = IntKind.i64 ∧ (↑x : Int) + (1 : Int) = (↑y : Int)) ∧ True ∧ True ∧ True ∧ True ∧ True ∧ True ∧ Cel.val Go.undef = Cel.val Go.undef ∧ Cel.val Go.undef = Cel.val Go.undef ∧ Cel.val Go.undef = Cel.val Go.undef ∧ Cel.val Go.undef = Cel.val Go.undef ∧ Cel.val Go.undef = Cel.val Go.undef ∧ True) ∧ (Bool.false = Bool.false ∧ (34 : Nat) = (34 : Nat) ∧ ([EK.u8] = [EK.u8] ∧ m = m ∧ l = l) ∧ True) ∧ True ∧ (Bool.true = Bool.true ∧ [EK.u8, EK.u8, EK.u8] = [EK.u8, EK.u8, EK.u8] ∧ EK.bool = EK.bool ∧ mpPut (mpT l x) (List.take (3 : Nat) (List.drop (Int.toNat ((0 : Int) + (↑x : Int)) * (3 : Nat) + (0 : Nat)) l) ++ []) (1 : Int) = mpT l y) ∧ True) ∧ (Decidable.decide ((↑x : Int) < (↑n : Int)) = Bool.false → True ∧ True ∧ True ∧ True ∧ True ∧ True ∧ ((↑(List.length (mpT l x)) : Int) == (↑n : Int)) = palB n l))) ∧ (Decidable.decide ((↑n : Int) < (1 : Int)) = !Bool.false → True ∧ True ∧ palB n l = Bool.false)) (by kernel_rfl) ?_
  have er : ∀ k, List.take 3 (List.drop (k * 3) l) = rcd 3 l k := fun _ => rfl
  simp only [true_and, and_true, and_self, decide_eq_true_eq, decide_eq_false_iff_not, Bool.not_eq_true', Bool.not_eq_false', Bool.not_true, Bool.not_false, beq_iff_eq, beq_eq_false_iff_ne, bne_iff_ne, bne_eq_false_iff_eq, ne_eq, not_true_eq_false, not_false_eq_true, false_implies, true_implies, implies_true, forall_const, exists_const, ↓reduceIte, Int.reduceEq, Int.toNat_natCast, Bool.false_eq_true, Bool.true_eq_false, reduceCtorEq, Int.zero_add, Nat.add_zero, Int.ofNat_eq_natCast, er, List.append_nil]
  refine ⟨fun hlo => ⟨fun h => palB_f.2 fun p => by have := p.hi; omega, fun h15 => ⟨⟨0, by omega, rfl, rfl⟩, ?_⟩⟩, fun h => palB_f.2 fun p => by have := p.lo; omega⟩
  intro k hk
  refine ⟨fun hlt => ⟨by omega, by omega, by omega, k + 1, by omega, by omega, by omega, rfl⟩, fun hge => ?_⟩
  obtain rfl : k = n := by omega
  rw [Bool.eq_iff_iff, beq_iff_eq, palB_t]
  constructor
  · intro h
    exact ⟨by omega, by omega, mpT_len.1 (by omega)⟩
  · intro p
    have := mpT_len.2 p.df
    omega

noncomputable def gPal : Entry := fun args H => match args with
  | [.a (.c (.slc id b z s len _))] => match getB H id with
    | .cells _ t [.run ks n l] => some ((t = 34 ∧ b = 0 ∧ z = 0 ∧ s = 3 ∧ ks = [.u8]) ∧ 0 ≤ len ∧ len ≤ 1048576 ∧ len.toNat * 3 ≤ n ∧ l.length = n, .a (.c (.bool (palB len.toNat l))))
    | _ => none
  | _ => none
theorem gPal_inv {args : List LV} {H : List Blk} {p : Prop} {r : LV} (he : gPal args H = some (p, r)) (hp : p) : ∃ (id m n : Nat) (o : Bool) (l : List Int) (cap : Int),
    args = [.a (.c (.slc id 0 0 3 n cap))] ∧ getB H id = .cells o 34 [.run [.u8] m l] ∧ r = .a (.c (.bool (palB n l))) ∧ n ≤ 1048576 ∧ n * 3 ≤ m ∧ l.length = m := by
  unfold gPal at he
  split at he
  · split at he
    · rename_i id b z s len cap _ o t ks m l hg
      simp only [Option.some.injEq, Prod.mk.injEq] at he
      obtain ⟨rfl, rfl⟩ := he
      obtain ⟨⟨rfl, rfl, rfl, rfl, rfl⟩, h1, h2, h3, h4⟩ := hp
      obtain ⟨n, rfl⟩ := Int.eq_ofNat_of_zero_le h1
      exact ⟨id, m, n, o, l, cap, rfl, hg, rfl, by omega, by simpa using h3, h4⟩
    · simp at he
  · simp at he

theorem e_ValidPaletteS : EntryOk Try.prog TT 36 gPal := by
  refine ⟨fnOk Try.func36 (by kernel_rfl) rfl, ?_⟩
  intro args H p r he hp n0 w0 β w vals hG hH hA
  obtain ⟨id, m, n, o, l, cap, rfl, hg, rfl, h1, h2, h3⟩ := gPal_inv he hp
  exact entry_view tt_ok (inlN_ok tt_ok C0_ok mixed ILpi_ok.ok 4) C0_ok mixed Try.func36 [id] (x_ValidPaletteS m n l cap h1 h2 h3) rfl rfl ⟨.inr (by rw [hg]; rfl), trivial⟩ hG hH hA
theorem e_ValidPaletteI : EntryOk Try.prog TT 21 gPal := by
  refine ⟨fnOk Try.func21 (by kernel_rfl) rfl, ?_⟩
  intro args H p r he hp n0 w0 β w vals hG hH hA
  obtain ⟨id, m, n, o, l, cap, rfl, hg, rfl, h1, h2, h3⟩ := gPal_inv he hp
  exact entry_view tt_ok (inlN_ok tt_ok C0_ok mixed ILz_ok.ok 4) C0_ok mixed Try.func21 [id] (x_ValidPaletteI m n l cap h1 h2 h3) rfl rfl ⟨.inr (by rw [hg]; rfl), trivial⟩ hG hH hA

/-! ### Palettes compared -/

/-! ### The nearest tone -/
theorem x_tone (m n : Nat) (l : List Int) (cap c : Int) (h1 : 1 ≤ c) (h2 : c ≤ n) (h3 : n * 3 ≤ m) (h4 : l.length = m) (h5 : n ≤ 1048576) : Fex true TT (inlN true TT C0 (lookI ILz) 4) C0 U0 Try.f28 [.a (.c (.slc 0 0 0 3 n cap)), .a (.c (.int .i64 c))] [.cells false 34 [.run [.u8] m l]] (fun lv _ => leL lv (tonL (rcd 3 l (c.toNat - 1)))) := by
  refine Go.Sx.by_eq (q := True ∧ True ∧ True ∧ ((-9223372036854775808 : Int) ≤ c - (1 : Int) ∧ c - (1 : Int) ≤ (9223372036854775807 : Int)) ∧ ((0 : Int) ≤ c - (1 : Int) ∧ c - (1 : Int) < (↑n : Int)) ∧ ((0 : Int) ≤ (0 : Int) + (c - (1 : Int)) ∧ Int.toNat ((0 : Int) + (c - (1 : Int))) * (3 : Nat) + (0 : Nat) + (3 : Nat) ≤ m) ∧ True ∧ ([EK.u8] = [EK.u8] ∧ (3 : Nat) = (3 : Nat) ∧ List.take (3 : Nat) (List.drop (Int.toNat ((0 : Int) + (c - (1 : Int))) * (3 : Nat) + (0 : Nat)) l) = rcd (3 : Nat) l (Int.toNat c - (1 : Nat))) ∧ True) (by kernel_rfl) ?_
  have e : (c - 1).toNat = c.toNat - 1 := by omega
  simp only [true_and, and_true, and_self, decide_eq_true_eq, decide_eq_false_iff_not, Bool.not_eq_true', Bool.not_eq_false', Bool.not_true, Bool.not_false, beq_iff_eq, beq_eq_false_iff_ne, bne_iff_ne, bne_eq_false_iff_eq, ne_eq, not_true_eq_false, not_false_eq_true, false_implies, true_implies, implies_true, forall_const, exists_const, ↓reduceIte, Int.reduceEq, Int.toNat_natCast, Bool.false_eq_true, Bool.true_eq_false, reduceCtorEq, Int.zero_add, Nat.add_zero, e, rcd]
  repeat' (first | trivial | omega | apply And.intro)

def gTn : Entry := fun args H => match args with
  | [.a (.c (.slc id b z s len _)), .a (.c (.int .i64 c))] => match getB H id with
    | .cells _ t [.run ks n l] => some ((t = 34 ∧ b = 0 ∧ z = 0 ∧ s = 3 ∧ ks = [.u8]) ∧ 1 ≤ c ∧ c ≤ len ∧ len ≤ 1048576 ∧ len.toNat * 3 ≤ n ∧ l.length = n, tonL (rcd 3 l (c.toNat - 1)))
    | _ => none
  | _ => none
theorem e_tone : EntryOk Try.prog TT 28 gTn := by
  refine ⟨fnOk Try.func28 (by kernel_rfl) rfl, ?_⟩
  intro args H p r he hp n0 w0 β w vals hG hH hA
  unfold gTn at he
  split at he
  · split at he
    · rename_i id b z s len cap c _ o t ks m l hg
      simp only [Option.some.injEq, Prod.mk.injEq] at he
      obtain ⟨rfl, rfl⟩ := he
      obtain ⟨⟨rfl, rfl, rfl, rfl, rfl⟩, h1, h2, h3, h4, h5⟩ := hp
      obtain ⟨n, rfl⟩ := Int.eq_ofNat_of_zero_le (show 0 ≤ len by omega)
      exact entry_view tt_ok (inlN_ok tt_ok C0_ok mixed ILz_ok.ok 4) C0_ok mixed Try.func28 [id] (x_tone m n l cap c h1 h2 (by simpa using h4) h5 (by omega)) rfl rfl ⟨.inr (by rw [hg]; rfl), trivial⟩ hG hH hA
    · simp at he
  · simp at he

def Ep2 : List (FuncId × Entry) := [(47, gFar), (37, gFar), (28, gTn)]
theorem Ep2_ok : EntriesOk Try.prog TT Ep2 := ⟨e_FarOfI, e_l02Far, e_tone, trivial⟩
abbrev Cp2 : Ctr := ctrOf Ep2
theorem Cp2_ok : CtrOk Try.prog TT Cp2 := ctrOf_ok Ep2_ok

def nrC (l a : List Int) (k : Nat) : Int := if k = 0 then 0 else ((leastAt (farAt l a) k : Nat) : Int) + 1
def nrF (l a : List Int) (k : Nat) : Int := if k = 0 then 0 else farAt l a (leastAt (farAt l a) k)
theorem nrC_z {l a : List Int} {k : Nat} : nrC l a k = 0 ↔ k = 0 := by
  unfold nrC; split
  · simp [*]
  · constructor
    · intro h; omega
    · intro h; omega
theorem nr_0 {l a : List Int} : nrC l a 1 = 1 ∧ nrF l a 1 = farAt l a 0 := by simp [nrC, nrF, leastAt_one]
theorem nr_lt {l a : List Int} {k : Nat} (hk : k ≠ 0) (d : farAt l a k < nrF l a k) : nrC l a (k + 1) = (k : Int) + 1 ∧ nrF l a (k + 1) = farAt l a k := by
  rw [nrF, if_neg hk] at d
  rw [nrC, nrF, if_neg (by omega), if_neg (by omega), leastAt, if_pos d]
  exact ⟨rfl, rfl⟩
theorem nr_ge {l a : List Int} {k : Nat} (hk : k ≠ 0) (d : ¬ farAt l a k < nrF l a k) : nrC l a (k + 1) = nrC l a k ∧ nrF l a (k + 1) = nrF l a k := by
  have d' := d
  rw [nrF, if_neg hk] at d'
  rw [nrC, nrF, if_neg (by omega), if_neg (by omega), leastAt, if_neg d', nrC, nrF, if_neg hk, if_neg hk]
  exact ⟨rfl, rfl⟩
def lmNrS (n : Nat) (l a : List Int) : LAnn := { ι := Nat, inv := fun _ k => 1 ≤ k ∧ k ≤ n, slots := fun _ k => [(6, .a (.c (.int .i64 (leastAt (farAt l a) k : Nat)))), (7, .a (.c (.int .i64 (farAt l a (leastAt (farAt l a) k))))), (8, .a (.c (.int .i64 k)))], blks := fun _ _ => [], μ := fun _ k => n - k }

theorem x_l02Nearest (m n : Nat) (l a : List Int) (cap : Int) (h1 : 1 ≤ n) (h2 : n ≤ 1048576) (h3 : n * 3 ≤ m) (h4 : l.length = m) (hb : byl (n * 3) l) (ta : TBl a) : Fex true TT (inlN true TT Cp2 (lookI ILz) 4) Cp2 (fun _ => .inv (lmNrS n l a)) Try.f15 [.a (.c (.slc 0 0 0 3 n cap)), tonL a] [.cells false 34 [.run [.u8] m l]] (fun lv _ => leL lv (nearR n l a)) := by
  refine Go.Sx.by_eq (q := True ∧ True ∧ True ∧ True ∧ True ∧ ((0 : Int) ≤ (0 : Int) ∧ (0 : Int) < (↑n : Int)) ∧ ((0 : Int) ≤ (0 : Int) + (0 : Int) ∧ Int.toNat ((0 : Int) + (0 : Int)) * (3 : Nat) + (0 : Nat) + (3 : Nat) ≤ m) ∧ True ∧ (TBl (List.take (3 : Nat) (List.drop (Int.toNat ((0 : Int) + (0 : Int)) * (3 : Nat) + (0 : Nat)) l)) ∧ TBl a) ∧ True ∧ True ∧ (∃ (x : Nat), ((1 : Nat) ≤ x ∧ x ≤ n) ∧ (Cel.slc (0 : Nat) (0 : Nat) (0 : Int) (3 : Nat) (↑n : Int) cap = Cel.slc (0 : Nat) (0 : Nat) (0 : Int) (3 : Nat) (↑n : Int) cap ∧ (([EK.u8] = [EK.u8] ∧ (3 : Nat) = (3 : Nat) ∧ a = a) ∧ True) ∧ Cel.val Go.undef = Cel.val Go.undef ∧ Cel.ptr (1 : Nat) (0 : Nat) = Cel.ptr (1 : Nat) (0 : Nat) ∧ (IntKind.i64 = IntKind.i64 ∧ (0 : Int) = (0 : Int)) ∧ (IntKind.i64 = IntKind.i64 ∧ (0 : Int) = (0 : Int)) ∧ (IntKind.i64 = IntKind.i64 ∧ (0 : Int) = (↑(leastAt (farAt l a) x) : Int)) ∧ (IntKind.i64 = IntKind.i64 ∧ far (List.take (3 : Nat) (List.drop (Int.toNat ((0 : Int) + (0 : Int)) * (3 : Nat) + (0 : Nat)) l)) a = farAt l a (leastAt (farAt l a) x)) ∧ (IntKind.i64 = IntKind.i64 ∧ (1 : Int) = (↑x : Int)) ∧ True ∧ Cel.slc (0 : Nat) (0 : Nat) (0 : Int) (3 : Nat) (↑n : Int) cap = Cel.slc (0 : Nat) (0 : Nat) (0 : Int) (3 : Nat) (↑n : Int) cap ∧ Cel.pti (0 : Nat) (0 : Nat) ((0 : Int) + (0 : Int)) (3 : Nat) (0 : Nat) = Cel.pti (0 : Nat) (0 : Nat) ((0 : Int) + (0 : Int)) (3 : Nat) (0 : Nat) ∧ (([EK.u8] = [EK.u8] ∧ (3 : Nat) = (3 : Nat) ∧ List.take (3 : Nat) (List.drop (Int.toNat ((0 : Int) + (0 : Int)) * (3 : Nat) + (0 : Nat)) l) = List.take (3 : Nat) (List.drop (Int.toNat ((0 : Int) + (0 : Int)) * (3 : Nat) + (0 : Nat)) l)) ∧ True) ∧ (([EK.u8] = [EK.u8] ∧ (3 : Nat) = (3 : Nat) ∧ a = a) ∧ True) ∧ (IntKind.i64 = IntKind.i64 ∧ far (List.take (3 : Nat) (List.drop (Int.toNat ((0 : Int) + (0 : Int)) * (3 : Nat) + (0 : Nat)) l)) a = far (List.take (3 : Nat) (List.drop (Int.toNat ((0 : Int) + (0 : Int)) * (3 : Nat) + (0 : Nat)) l)) a) ∧ True ∧ True ∧ True ∧ True ∧ True ∧ True ∧ True ∧ True ∧ True ∧ True ∧ True ∧ True ∧ True ∧ True ∧ True ∧ True ∧ True ∧ Cel.val Go.undef = Cel.val Go.undef ∧ Cel.val Go.undef = Cel.val Go.undef ∧ Cel.val Go.undef = Cel.val Go.undef ∧ True) ∧ (Bool.false = Bool.false ∧ (34 : Nat) = (34 : Nat) ∧ ([EK.u8] = [EK.u8] ∧ m = m ∧ l = l) ∧ True) ∧ (Bool.true = Bool.true ∧ (34 : Nat) = (34 : Nat) ∧ ([EK.u8] = [EK.u8] ∧ (3 : Nat) = (3 : Nat) ∧ a = a) ∧ True) ∧ True) ∧ ∀ (x : Nat), (1 : Nat) ≤ x ∧ x ≤ n → True ∧ True ∧ True ∧ True ∧ (Decidable.decide ((↑x : Int) < (↑n : Int)) = Bool.true → True ∧ True ∧ ((0 : Int) ≤ (↑x : Int) ∧ (↑x : Int) < (↑n : Int)) ∧ ((0 : Int) ≤ (0 : Int) + (↑x : Int) ∧ Int.toNat ((0 : Int) + (↑x : Int)) * (3 : Nat) + (0 : Nat) + (3 : Nat) ≤ m) ∧ True ∧ (TBl (List.take (3 : Nat) (List.drop (Int.toNat ((0 : Int) + (↑x : Int)) * (3 : Nat) + (0 : Nat)) l)) ∧ TBl a) ∧ True ∧ True ∧ True ∧ True ∧ (Decidable.decide (far (List.take (3 : Nat) (List.drop (Int.toNat ((0 : Int) + (↑x : Int)) * (3 : Nat) + (0 : Nat)) l)) a < farAt l a (leastAt (farAt l a) x)) = Bool.true → True ∧ True ∧ True ∧ True ∧ True ∧ ((-9223372036854775808 : Int) ≤ (↑x : Int) + (1 : Int) ∧ (↑x : Int) + (1 : Int) ≤ (9223372036854775807 : Int)) ∧ True ∧ ∃ (y : Nat), ((1 : Nat) ≤ y ∧ y ≤ n) ∧ n - y < n - x ∧ (Cel.slc (0 : Nat) (0 : Nat) (0 : Int) (3 : Nat) (↑n : Int) cap = Cel.slc (0 : Nat) (0 : Nat) (0 : Int) (3 : Nat) (↑n : Int) cap ∧ (([EK.u8] = [EK.u8] ∧ (3 : Nat) = (3 : Nat) ∧ a = a) ∧ True) ∧ Cel.val Go.undef = Cel.val Go.undef ∧ Cel.ptr (1 : Nat) (0 : Nat) = Cel.ptr (1 : Nat) (0 : Nat) ∧ (IntKind.i64 = IntKind.i64 ∧ (0 : Int) = (0 : Int)) ∧ (IntKind.i64 = IntKind.i64 ∧ (0 : Int) = (0 : Int)) ∧ (IntKind.i64 = IntKind.i64 ∧ (↑x : Int) = (↑(leastAt (farAt l a) y) : Int)) ∧ (IntKind.i64 = IntKind.i64 ∧ far (List.take (3 : Nat) (List.drop (Int.toNat ((0 : Int) + (↑x : Int)) * (3 : Nat) + (0 : Nat)) l)) a = farAt l a (leastAt (farAt l a) y)) ∧ (IntKind.i64 = IntKind.i64 ∧ (↑x : Int) + (1 : Int) = (↑y : Int)) ∧ True ∧ Cel.slc (0 : Nat) (0 : Nat) (0 : Int) (3 : Nat) (↑n : Int) cap = Cel.slc (0 : Nat) (0 : Nat) (0 : Int) (3 : Nat) (↑n : Int) cap ∧ Cel.pti (0 : Nat) (0 : Nat) ((0 : Int) + (0 : Int)) (3 : Nat) (0 : Nat) = Cel.pti (0 : Nat) (0 : Nat) ((0 : Int) + (0 : Int)) (3 : Nat) (0 : Nat) ∧ (([EK.u8] = [EK.u8] ∧ (3 : Nat) = (3 : Nat) ∧ List.take (3 : Nat) (List.drop (Int.toNat ((0 : Int) + (0 : Int)) * (3 : Nat) + (0 : Nat)) l) = List.take (3 : Nat) (List.drop (Int.toNat ((0 : Int) + (0 : Int)) * (3 : Nat) + (0 : Nat)) l)) ∧ True) ∧ (([EK.u8] = [EK.u8] ∧ (3 : Nat) = (3 : Nat) ∧ a = a) ∧ True) ∧ (IntKind.i64 = IntKind.i64 ∧ far (List.take (3 : Nat) (List.drop (Int.toNat ((0 : Int) + (0 : Int)) * (3 : Nat) + (0 : Nat)) l)) a = far (List.take (3 : Nat) (List.drop (Int.toNat ((0 : Int) + (0 : Int)) * (3 : Nat) + (0 : Nat)) l)) a) ∧ True ∧ True ∧ True ∧ True ∧ True ∧ True ∧ True ∧ True ∧ True ∧ True ∧ True ∧ True ∧ True ∧ True ∧ True ∧ True ∧ True ∧ Cel.val Go.undef = Cel.val Go.undef ∧ Cel.val Go.undef = Cel.val Go.undef ∧ Cel.val Go.undef = Cel.val Go.undef ∧ True) ∧ (Bool.false = Bool.false ∧ (34 : Nat) = (34 : Nat) ∧ ([EK.u8] = [EK.u8] ∧ m = m ∧ l = l) ∧ True) ∧ (Bool.true = Bool.true ∧ (34 : Nat) = (34 : Nat) ∧ ([EK.u8] = [EK.u8] ∧ (3 : Nat) = (3 : Nat) ∧ a = a) ∧ True) ∧ True) ∧ (Decidable.decide (far (List.take (3 : Nat) (List.drop (Int.toNat ((0 : Int) + (↑x : Int)) * (3 : Nat) + (0 : Nat)) l)) a < farAt l a (leastAt (farAt l a) x)) = Bool.false → True ∧ ((-9223372036854775808 : Int) ≤ (↑x : Int) + (1 : Int) ∧ (↑x : Int) + (1 : Int) ≤ (9223372036854775807 : Int)) ∧ True ∧ ∃ (y : Nat), ((1 : Nat) ≤ y ∧ y ≤ n) ∧ n - y < n - x ∧ (Cel.slc (0 : Nat) (0 : Nat) (0 : Int) (3 : Nat) (↑n : Int) cap = Cel.slc (0 : Nat) (0 : Nat) (0 : Int) (3 : Nat) (↑n : Int) cap ∧ (([EK.u8] = [EK.u8] ∧ (3 : Nat) = (3 : Nat) ∧ a = a) ∧ True) ∧ Cel.val Go.undef = Cel.val Go.undef ∧ Cel.ptr (1 : Nat) (0 : Nat) = Cel.ptr (1 : Nat) (0 : Nat) ∧ (IntKind.i64 = IntKind.i64 ∧ (0 : Int) = (0 : Int)) ∧ (IntKind.i64 = IntKind.i64 ∧ (0 : Int) = (0 : Int)) ∧ (IntKind.i64 = IntKind.i64 ∧ (↑(leastAt (farAt l a) x) : Int) = (↑(leastAt (farAt l a) y) : Int)) ∧ (IntKind.i64 = IntKind.i64 ∧ farAt l a (leastAt (farAt l a) x) = farAt l a (leastAt (farAt l a) y)) ∧ (IntKind.i64 = IntKind.i64 ∧ (↑x : Int) + (1 : Int) = (↑y : Int)) ∧ True ∧ Cel.slc (0 : Nat) (0 : Nat) (0 : Int) (3 : Nat) (↑n : Int) cap = Cel.slc (0 : Nat) (0 : Nat) (0 : Int) (3 : Nat) (↑n : Int) cap ∧ Cel.pti (0 : Nat) (0 : Nat) ((0 : Int) + (0 : Int)) (3 : Nat) (0 : Nat) = Cel.pti (0 : Nat) (0 : Nat) ((0 : Int) + (0 : Int)) (3 : Nat) (0 : Nat) ∧ (([EK.u8] = [EK.u8] ∧ (3 : Nat) = (3 : Nat) ∧ List.take (3 : Nat) (List.drop (Int.toNat ((0 : Int) + (0 : Int)) * (3 : Nat) + (0 : Nat)) l) = List.take (3 : Nat) (List.drop (Int.toNat ((0 : Int) + (0 : Int)) * (3 : Nat) + (0 : Nat)) l)) ∧ True) ∧ (([EK.u8] = [EK.u8] ∧ (3 : Nat) = (3 : Nat) ∧ a = a) ∧ True) ∧ (IntKind.i64 = IntKind.i64 ∧ far (List.take (3 : Nat) (List.drop (Int.toNat ((0 : Int) + (0 : Int)) * (3 : Nat) + (0 : Nat)) l)) a = far (List.take (3 : Nat) (List.drop (Int.toNat ((0 : Int) + (0 : Int)) * (3 : Nat) + (0 : Nat)) l)) a) ∧ True ∧ True ∧ True ∧ True ∧ True ∧ True ∧ True ∧ True ∧ True ∧ True ∧ True ∧ True ∧ True ∧ True ∧ True ∧ True ∧ True ∧ Cel.val Go.undef = Cel.val Go.undef ∧ Cel.val Go.undef = Cel.val Go.undef ∧ Cel.val Go.undef = Cel.val Go.undef ∧ True) ∧ (Bool.false = Bool.false ∧ (34 : Nat) = (34 : Nat) ∧ ([EK.u8] = [EK.u8] ∧ m = m ∧ l = l) ∧ True) ∧ (Bool.true = Bool.true ∧ (34 : Nat) = (34 : Nat) ∧ ([EK.u8] = [EK.u8] ∧ (3 : Nat) = (3 : Nat) ∧ a = a) ∧ True) ∧ True)) ∧ (Decidable.decide ((↑x : Int) < (↑n : Int)) = Bool.false → True ∧ ((-9223372036854775808 : Int) ≤ (↑(leastAt (farAt l a) x) : Int) + (1 : Int) ∧ (↑(leastAt (farAt l a) x) : Int) + (1 : Int) ≤ (9223372036854775807 : Int)) ∧ True ∧ True ∧ True ∧ (IntKind.i64 = IntKind.i64 ∧ (↑(leastAt (farAt l a) x) : Int) + (1 : Int) = (↑(leastAt (farAt l a) n) : Int) + (1 : Int)) ∧ (IntKind.i64 = IntKind.i64 ∧ farAt l a (leastAt (farAt l a) x) = farAt l a (leastAt (farAt l a) n)) ∧ True)) (by kernel_rfl) ?_
  have er : ∀ k, List.take 3 (List.drop (k * 3) l) = rcd 3 l k := fun _ => rfl
  have z : List.take 3 (List.drop 0 l) = rcd 3 l 0 := rfl
  have hf : ∀ k, far (rcd 3 l k) a = farAt l a k := fun _ => rfl
  simp only [true_and, and_true, and_self, decide_eq_true_eq, decide_eq_false_iff_not, Bool.not_eq_true', Bool.not_eq_false', Bool.not_true, Bool.not_false, beq_iff_eq, beq_eq_false_iff_ne, bne_iff_ne, bne_eq_false_iff_eq, ne_eq, not_true_eq_false, not_false_eq_true, false_implies, true_implies, implies_true, forall_const, exists_const, ↓reduceIte, Int.reduceEq, Int.toNat_natCast, Bool.false_eq_true, Bool.true_eq_false, reduceCtorEq, Int.zero_add, Nat.add_zero, Int.ofNat_eq_natCast, Int.toNat_zero, Nat.zero_mul, er, z, hf]
  have tb : ∀ k, k < n → TBl (rcd 3 l k) := fun k hk => byl_tb hb h3 h4 hk
  refine ⟨by omega, by omega, ⟨tb 0 (by omega), ta⟩, ⟨1, ⟨by omega, by omega⟩, ?_⟩, ?_⟩
  · rw [leastAt_one]; exact ⟨rfl, rfl, rfl⟩
  rintro k ⟨hk1, hk2⟩
  refine ⟨fun hlt => ⟨by omega, by omega, ⟨tb k (by omega), ta⟩, fun c => ⟨by omega, k + 1, by omega, by omega, ?_⟩, fun c => ⟨by omega, k + 1, by omega, by omega, ?_⟩⟩, fun hge => ?_⟩
  · rw [leastAt, if_pos c]; exact ⟨rfl, rfl, by omega⟩
  · rw [leastAt, if_neg c]; exact ⟨rfl, rfl, by omega⟩
  · obtain rfl : k = n := by omega
    have := leastAt_lt (f := farAt l a) (k := k) (by omega)
    exact ⟨by omega, rfl, rfl⟩

def lmNrI (n : Nat) (l a : List Int) : LAnn := { ι := Nat, inv := fun _ k => k ≤ n, slots := fun _ k => [(6, .a (.c (.int .i64 k)))], blks := fun _ k => [(5, [.int .i64 (nrC l a k)]), (6, [.int .i64 (nrF l a k)])], μ := fun _ k => n - k }
noncomputable def ILnr (n : Nat) (l : List Int) (a : List Int) : List (FuncId × Func × (Nat → LM)) := [
  (41, Try.f41, U0),
  (42, Try.f42, U0),
  (28, Try.f28, U0),
  (46, Try.f46, U0),
  (48, Try.f48, fun _ => .inv (lmNrI n l a))]
theorem ILnr_ok {n : Nat} {l : List Int} {a : List Int} : InlsOk Try.prog (ILnr n l a) := ⟨⟨Try.func41, by kernel_rfl⟩, ⟨Try.func42, by kernel_rfl⟩, ⟨Try.func28, by kernel_rfl⟩, ⟨Try.func46, by kernel_rfl⟩, ⟨Try.func48, by kernel_rfl⟩, trivial⟩

theorem x_nearest (m n : Nat) (l a : List Int) (cap : Int) (h1 : 1 ≤ n) (h2 : n ≤ 1048576) (h3 : n * 3 ≤ m) (h4 : l.length = m) (hb : byl (n * 3) l) (ta : TBl a) : Fex true TT (inlN true TT Cp2 (lookI (ILnr n l a)) 4) Cp2 U0 Try.f25 [.a (.c (.slc 0 0 0 3 n cap)), tonL a] [.cells false 34 [.run [.u8] m l]] (fun lv _ => leL lv (nearR n l a)) := by
  refine Go.Sx.by_eq (q := True ∧ True ∧ True ∧ True ∧ True ∧ True ∧ True ∧ True ∧ True ∧ True ∧ True ∧ True ∧ True ∧ True ∧ True ∧ True ∧ True ∧ True ∧ True ∧ True ∧ True ∧ True ∧ (∃ (x : Nat), x ≤ n ∧ (Cel.yld (8 : Nat) = Cel.yld (8 : Nat) ∧ Cel.ptr (7 : Nat) (0 : Nat) = Cel.ptr (7 : Nat) (0 : Nat) ∧ Cel.val Go.undef = Cel.val Go.undef ∧ True ∧ Cel.slc (0 : Nat) (0 : Nat) (0 : Int) (3 : Nat) (↑n : Int) cap = Cel.slc (0 : Nat) (0 : Nat) (0 : Int) (3 : Nat) (↑n : Int) cap ∧ (IntKind.i64 = IntKind.i64 ∧ (↑n : Int) = (↑n : Int)) ∧ (IntKind.i64 = IntKind.i64 ∧ (0 : Int) = (↑x : Int)) ∧ True ∧ True ∧ True ∧ True ∧ True ∧ True ∧ True ∧ True ∧ True) ∧ (Bool.false = Bool.false ∧ (34 : Nat) = (34 : Nat) ∧ ([EK.u8] = [EK.u8] ∧ m = m ∧ l = l) ∧ True) ∧ (Bool.true = Bool.true ∧ (34 : Nat) = (34 : Nat) ∧ ([EK.u8] = [EK.u8] ∧ (3 : Nat) = (3 : Nat) ∧ a = a) ∧ True) ∧ (Bool.true = Bool.true ∧ (40 : Nat) = (40 : Nat) ∧ Cel.slc (0 : Nat) (0 : Nat) (0 : Int) (3 : Nat) (↑n : Int) cap = Cel.slc (0 : Nat) (0 : Nat) (0 : Int) (3 : Nat) (↑n : Int) cap ∧ True) ∧ (Bool.true = Bool.true ∧ (34 : Nat) = (34 : Nat) ∧ ([EK.u8] = [EK.u8] ∧ (3 : Nat) = (3 : Nat) ∧ a = a) ∧ True) ∧ (Bool.true = Bool.true ∧ (81 : Nat) = (81 : Nat) ∧ Cel.fn (Go.Fn.func (42 : Nat)) [] = Cel.fn (Go.Fn.func (42 : Nat)) [] ∧ True) ∧ (Bool.true = Bool.true ∧ (2 : Nat) = (2 : Nat) ∧ (IntKind.i64 = IntKind.i64 ∧ (0 : Int) = nrC l a x) ∧ True) ∧ (Bool.true = Bool.true ∧ (2 : Nat) = (2 : Nat) ∧ (IntKind.i64 = IntKind.i64 ∧ (0 : Int) = nrF l a x) ∧ True) ∧ (Bool.true = Bool.true ∧ (40 : Nat) = (40 : Nat) ∧ Cel.slc (0 : Nat) (0 : Nat) (0 : Int) (3 : Nat) (↑n : Int) cap = Cel.slc (0 : Nat) (0 : Nat) (0 : Int) (3 : Nat) (↑n : Int) cap ∧ True) ∧ (Go.LoopState.ready = Go.LoopState.ready ∧ (Option.none : Option Go.Code) = Option.none) ∧ True) ∧ ∀ (x : Nat), x ≤ n → True ∧ (Decidable.decide ((↑x : Int) < (↑n : Int)) = Bool.true → True ∧ True ∧ True ∧ True ∧ ((-9223372036854775808 : Int) ≤ (↑x : Int) + (1 : Int) ∧ (↑x : Int) + (1 : Int) ≤ (9223372036854775807 : Int)) ∧ True ∧ True ∧ True ∧ True ∧ True ∧ True ∧ True ∧ True ∧ (((34 : Nat) = (34 : Nat) ∧ (0 : Nat) = (0 : Nat) ∧ (0 : Int) = (0 : Int) ∧ (3 : Nat) = (3 : Nat) ∧ [EK.u8] = [EK.u8]) ∧ (1 : Int) ≤ (↑x : Int) + (1 : Int) ∧ (↑x : Int) + (1 : Int) ≤ (↑n : Int) ∧ (↑n : Int) ≤ (1048576 : Int) ∧ Int.toNat (↑n : Int) * (3 : Nat) ≤ m ∧ List.length l = m) ∧ True ∧ (TBl (rcd (3 : Nat) l (Int.toNat ((↑x : Int) + (1 : Int)) - (1 : Nat))) ∧ TBl a) ∧ True ∧ True ∧ True ∧ True ∧ ((nrC l a x == (0 : Int)) = Bool.false → True ∧ True ∧ True ∧ True ∧ (Decidable.decide (far (rcd (3 : Nat) l (Int.toNat ((↑x : Int) + (1 : Int)) - (1 : Nat))) a < nrF l a x) = Bool.true → True ∧ True ∧ True ∧ True ∧ True ∧ ((-9223372036854775808 : Int) ≤ (↑x : Int) + (1 : Int) ∧ (↑x : Int) + (1 : Int) ≤ (9223372036854775807 : Int)) ∧ True ∧ ∃ (y : Nat), y ≤ n ∧ n - y < n - x ∧ (Cel.yld (8 : Nat) = Cel.yld (8 : Nat) ∧ Cel.ptr (7 : Nat) (0 : Nat) = Cel.ptr (7 : Nat) (0 : Nat) ∧ Cel.val Go.undef = Cel.val Go.undef ∧ True ∧ Cel.slc (0 : Nat) (0 : Nat) (0 : Int) (3 : Nat) (↑n : Int) cap = Cel.slc (0 : Nat) (0 : Nat) (0 : Int) (3 : Nat) (↑n : Int) cap ∧ (IntKind.i64 = IntKind.i64 ∧ (↑n : Int) = (↑n : Int)) ∧ (IntKind.i64 = IntKind.i64 ∧ (↑x : Int) + (1 : Int) = (↑y : Int)) ∧ True ∧ True ∧ True ∧ True ∧ True ∧ True ∧ True ∧ True ∧ True) ∧ (Bool.false = Bool.false ∧ (34 : Nat) = (34 : Nat) ∧ ([EK.u8] = [EK.u8] ∧ m = m ∧ l = l) ∧ True) ∧ (Bool.true = Bool.true ∧ (34 : Nat) = (34 : Nat) ∧ ([EK.u8] = [EK.u8] ∧ (3 : Nat) = (3 : Nat) ∧ a = a) ∧ True) ∧ (Bool.true = Bool.true ∧ (40 : Nat) = (40 : Nat) ∧ Cel.slc (0 : Nat) (0 : Nat) (0 : Int) (3 : Nat) (↑n : Int) cap = Cel.slc (0 : Nat) (0 : Nat) (0 : Int) (3 : Nat) (↑n : Int) cap ∧ True) ∧ (Bool.true = Bool.true ∧ (34 : Nat) = (34 : Nat) ∧ ([EK.u8] = [EK.u8] ∧ (3 : Nat) = (3 : Nat) ∧ a = a) ∧ True) ∧ (Bool.true = Bool.true ∧ (81 : Nat) = (81 : Nat) ∧ Cel.fn (Go.Fn.func (42 : Nat)) [] = Cel.fn (Go.Fn.func (42 : Nat)) [] ∧ True) ∧ (Bool.true = Bool.true ∧ (2 : Nat) = (2 : Nat) ∧ (IntKind.i64 = IntKind.i64 ∧ (↑x : Int) + (1 : Int) = nrC l a y) ∧ True) ∧ (Bool.true = Bool.true ∧ (2 : Nat) = (2 : Nat) ∧ (IntKind.i64 = IntKind.i64 ∧ far (rcd (3 : Nat) l (Int.toNat ((↑x : Int) + (1 : Int)) - (1 : Nat))) a = nrF l a y) ∧ True) ∧ (Bool.true = Bool.true ∧ (40 : Nat) = (40 : Nat) ∧ Cel.slc (0 : Nat) (0 : Nat) (0 : Int) (3 : Nat) (↑n : Int) cap = Cel.slc (0 : Nat) (0 : Nat) (0 : Int) (3 : Nat) (↑n : Int) cap ∧ True) ∧ (Go.LoopState.ready = Go.LoopState.ready ∧ (Option.none : Option Go.Code) = Option.none) ∧ True) ∧ (Decidable.decide (far (rcd (3 : Nat) l (Int.toNat ((↑x : Int) + (1 : Int)) - (1 : Nat))) a < nrF l a x) = Bool.false → True ∧ ((-9223372036854775808 : Int) ≤ (↑x : Int) + (1 : Int) ∧ (↑x : Int) + (1 : Int) ≤ (9223372036854775807 : Int)) ∧ True ∧ ∃ (y : Nat), y ≤ n ∧ n - y < n - x ∧ (Cel.yld (8 : Nat) = Cel.yld (8 : Nat) ∧ Cel.ptr (7 : Nat) (0 : Nat) = Cel.ptr (7 : Nat) (0 : Nat) ∧ Cel.val Go.undef = Cel.val Go.undef ∧ True ∧ Cel.slc (0 : Nat) (0 : Nat) (0 : Int) (3 : Nat) (↑n : Int) cap = Cel.slc (0 : Nat) (0 : Nat) (0 : Int) (3 : Nat) (↑n : Int) cap ∧ (IntKind.i64 = IntKind.i64 ∧ (↑n : Int) = (↑n : Int)) ∧ (IntKind.i64 = IntKind.i64 ∧ (↑x : Int) + (1 : Int) = (↑y : Int)) ∧ True ∧ True ∧ True ∧ True ∧ True ∧ True ∧ True ∧ True ∧ True) ∧ (Bool.false = Bool.false ∧ (34 : Nat) = (34 : Nat) ∧ ([EK.u8] = [EK.u8] ∧ m = m ∧ l = l) ∧ True) ∧ (Bool.true = Bool.true ∧ (34 : Nat) = (34 : Nat) ∧ ([EK.u8] = [EK.u8] ∧ (3 : Nat) = (3 : Nat) ∧ a = a) ∧ True) ∧ (Bool.true = Bool.true ∧ (40 : Nat) = (40 : Nat) ∧ Cel.slc (0 : Nat) (0 : Nat) (0 : Int) (3 : Nat) (↑n : Int) cap = Cel.slc (0 : Nat) (0 : Nat) (0 : Int) (3 : Nat) (↑n : Int) cap ∧ True) ∧ (Bool.true = Bool.true ∧ (34 : Nat) = (34 : Nat) ∧ ([EK.u8] = [EK.u8] ∧ (3 : Nat) = (3 : Nat) ∧ a = a) ∧ True) ∧ (Bool.true = Bool.true ∧ (81 : Nat) = (81 : Nat) ∧ Cel.fn (Go.Fn.func (42 : Nat)) [] = Cel.fn (Go.Fn.func (42 : Nat)) [] ∧ True) ∧ (Bool.true = Bool.true ∧ (2 : Nat) = (2 : Nat) ∧ (IntKind.i64 = IntKind.i64 ∧ nrC l a x = nrC l a y) ∧ True) ∧ (Bool.true = Bool.true ∧ (2 : Nat) = (2 : Nat) ∧ (IntKind.i64 = IntKind.i64 ∧ nrF l a x = nrF l a y) ∧ True) ∧ (Bool.true = Bool.true ∧ (40 : Nat) = (40 : Nat) ∧ Cel.slc (0 : Nat) (0 : Nat) (0 : Int) (3 : Nat) (↑n : Int) cap = Cel.slc (0 : Nat) (0 : Nat) (0 : Int) (3 : Nat) (↑n : Int) cap ∧ True) ∧ (Go.LoopState.ready = Go.LoopState.ready ∧ (Option.none : Option Go.Code) = Option.none) ∧ True)) ∧ ((nrC l a x == (0 : Int)) = !Bool.false → True ∧ True ∧ True ∧ True ∧ True ∧ True ∧ ((-9223372036854775808 : Int) ≤ (↑x : Int) + (1 : Int) ∧ (↑x : Int) + (1 : Int) ≤ (9223372036854775807 : Int)) ∧ True ∧ ∃ (y : Nat), y ≤ n ∧ n - y < n - x ∧ (Cel.yld (8 : Nat) = Cel.yld (8 : Nat) ∧ Cel.ptr (7 : Nat) (0 : Nat) = Cel.ptr (7 : Nat) (0 : Nat) ∧ Cel.val Go.undef = Cel.val Go.undef ∧ True ∧ Cel.slc (0 : Nat) (0 : Nat) (0 : Int) (3 : Nat) (↑n : Int) cap = Cel.slc (0 : Nat) (0 : Nat) (0 : Int) (3 : Nat) (↑n : Int) cap ∧ (IntKind.i64 = IntKind.i64 ∧ (↑n : Int) = (↑n : Int)) ∧ (IntKind.i64 = IntKind.i64 ∧ (↑x : Int) + (1 : Int) = (↑y : Int)) ∧ True ∧ True ∧ True ∧ True ∧ True ∧ True ∧ True ∧ True ∧ True) ∧ (Bool.false = Bool.false ∧ (34 : Nat) = (34 : Nat) ∧ ([EK.u8] = [EK.u8] ∧ m = m ∧ l = l) ∧ True) ∧ (Bool.true = Bool.true ∧ (34 : Nat) = (34 : Nat) ∧ ([EK.u8] = [EK.u8] ∧ (3 : Nat) = (3 : Nat) ∧ a = a) ∧ True) ∧ (Bool.true = Bool.true ∧ (40 : Nat) = (40 : Nat) ∧ Cel.slc (0 : Nat) (0 : Nat) (0 : Int) (3 : Nat) (↑n : Int) cap = Cel.slc (0 : Nat) (0 : Nat) (0 : Int) (3 : Nat) (↑n : Int) cap ∧ True) ∧ (Bool.true = Bool.true ∧ (34 : Nat) = (34 : Nat) ∧ ([EK.u8] = [EK.u8] ∧ (3 : Nat) = (3 : Nat) ∧ a = a) ∧ True) ∧ (Bool.true = Bool.true ∧ (81 : Nat) = (81 : Nat) ∧ Cel.fn (Go.Fn.func (42 : Nat)) [] = Cel.fn (Go.Fn.func (42 : Nat)) [] ∧ True) ∧ (Bool.true = Bool.true ∧ (2 : Nat) = (2 : Nat) ∧ (IntKind.i64 = IntKind.i64 ∧ (↑x : Int) + (1 : Int) = nrC l a y) ∧ True) ∧ (Bool.true = Bool.true ∧ (2 : Nat) = (2 : Nat) ∧ (IntKind.i64 = IntKind.i64 ∧ far (rcd (3 : Nat) l (Int.toNat ((↑x : Int) + (1 : Int)) - (1 : Nat))) a = nrF l a y) ∧ True) ∧ (Bool.true = Bool.true ∧ (40 : Nat) = (40 : Nat) ∧ Cel.slc (0 : Nat) (0 : Nat) (0 : Int) (3 : Nat) (↑n : Int) cap = Cel.slc (0 : Nat) (0 : Nat) (0 : Int) (3 : Nat) (↑n : Int) cap ∧ True) ∧ (Go.LoopState.ready = Go.LoopState.ready ∧ (Option.none : Option Go.Code) = Option.none) ∧ True)) ∧ (Decidable.decide ((↑x : Int) < (↑n : Int)) = Bool.false → True ∧ True ∧ True ∧ True ∧ True ∧ True ∧ True ∧ True ∧ (IntKind.i64 = IntKind.i64 ∧ nrC l a x = (↑(leastAt (farAt l a) n) : Int) + (1 : Int)) ∧ (IntKind.i64 = IntKind.i64 ∧ nrF l a x = farAt l a (leastAt (farAt l a) n)) ∧ True)) (by kernel_rfl) ?_
  have hf : ∀ k, far (rcd 3 l k) a = farAt l a k := fun _ => rfl
  have e1 : ∀ k : Nat, ((k : Int) + 1).toNat - 1 = k := fun k => by omega
  simp only [true_and, and_true, and_self, decide_eq_true_eq, decide_eq_false_iff_not, Bool.not_eq_true', Bool.not_eq_false', Bool.not_true, Bool.not_false, beq_iff_eq, beq_eq_false_iff_ne, bne_iff_ne, bne_eq_false_iff_eq, ne_eq, not_true_eq_false, not_false_eq_true, false_implies, true_implies, implies_true, forall_const, exists_const, ↓reduceIte, Int.reduceEq, Int.toNat_natCast, Bool.false_eq_true, Bool.true_eq_false, reduceCtorEq, Int.zero_add, Nat.add_zero, Int.ofNat_eq_natCast, Int.toNat_zero, Nat.zero_mul, e1, hf]
  have tb : ∀ k, k < n → TBl (rcd 3 l k) := fun k hk => byl_tb hb h3 h4 hk
  refine ⟨⟨0, by omega, rfl, rfl, rfl⟩, fun k hk => ⟨fun hlt => ⟨by omega, ⟨by omega, by omega, by omega, h3, h4⟩, ⟨tb k (by omega), ta⟩, fun c => ?_, fun c => ?_⟩, fun hge => ?_⟩⟩
  · have hk0 : k ≠ 0 := fun e => c (nrC_z.2 e)
    exact ⟨fun d => ⟨by omega, k + 1, by omega, by omega, by omega, (nr_lt hk0 d).1.symm, (nr_lt hk0 d).2.symm⟩, fun d => ⟨by omega, k + 1, by omega, by omega, by omega, (nr_ge hk0 d).1.symm, (nr_ge hk0 d).2.symm⟩⟩
  · obtain rfl := nrC_z.1 c
    exact ⟨by omega, 1, by omega, by omega, by omega, by rw [nr_0.1]; rfl, nr_0.2.symm⟩
  · obtain rfl : k = n := by omega
    rw [nrC, nrF, if_neg (by omega), if_neg (by omega)]
    exact ⟨rfl, rfl⟩

noncomputable def gNear : Entry := fun args H => match args with
  | [.a (.c (.slc id b z s len _)), .a (.agg [.run [.u8] 3 a])] => match getB H id with
    | .cells _ t [.run ks n l] => some ((t = 34 ∧ b = 0 ∧ z = 0 ∧ s = 3 ∧ ks = [.u8]) ∧ 1 ≤ len ∧ len ≤ 1048576 ∧ len.toNat * 3 ≤ n ∧ l.length = n ∧ byl (len.toNat * 3) l ∧ TBl a, nearR len.toNat l a)
    | _ => none
  | _ => none
theorem gNear_inv {args : List LV} {H : List Blk} {p : Prop} {r : LV} (he : gNear args H = some (p, r)) (hp : p) : ∃ (id m n : Nat) (o : Bool) (l a : List Int) (cap : Int),
    args = [.a (.c (.slc id 0 0 3 n cap)), tonL a] ∧ getB H id = .cells o 34 [.run [.u8] m l] ∧ r = nearR n l a ∧ 1 ≤ n ∧ n ≤ 1048576 ∧ n * 3 ≤ m ∧ l.length = m ∧ byl (n * 3) l ∧ TBl a := by
  unfold gNear at he
  split at he
  · split at he
    · rename_i id b z s len cap a _ o t ks m l hg
      simp only [Option.some.injEq, Prod.mk.injEq] at he
      obtain ⟨rfl, rfl⟩ := he
      obtain ⟨⟨rfl, rfl, rfl, rfl, rfl⟩, h1, h2, h3, h4, h5, h6⟩ := hp
      obtain ⟨n, rfl⟩ := Int.eq_ofNat_of_zero_le (show 0 ≤ len by omega)
      exact ⟨id, m, n, o, l, a, cap, rfl, hg, rfl, by omega, by omega, by simpa using h3, h4, by simpa using h5, h6⟩
    · simp at he
  · simp at he

theorem e_l02Nearest : EntryOk Try.prog TT 15 gNear := by
  refine ⟨fnOk Try.func15 (by kernel_rfl) rfl, ?_⟩
  intro args H p r he hp n0 w0 β w vals hG hH hA
  obtain ⟨id, m, n, o, l, a, cap, rfl, hg, rfl, h1, h2, h3, h4, h5, h6⟩ := gNear_inv he hp
  exact entry_view tt_ok (inlN_ok tt_ok Cp2_ok mixed ILz_ok.ok 4) Cp2_ok mixed Try.func15 [id] (x_l02Nearest m n l a cap h1 h2 h3 h4 h5 h6) rfl rfl ⟨.inr (by rw [hg]; rfl), trivial⟩ hG hH hA
theorem e_nearest : EntryOk Try.prog TT 25 gNear := by
  refine ⟨fnOk Try.func25 (by kernel_rfl) rfl, ?_⟩
  intro args H p r he hp n0 w0 β w vals hG hH hA
  obtain ⟨id, m, n, o, l, a, cap, rfl, hg, rfl, h1, h2, h3, h4, h5, h6⟩ := gNear_inv he hp
  exact entry_view tt_ok (inlN_ok tt_ok Cp2_ok mixed ILnr_ok.ok 4) Cp2_ok mixed Try.func25 [id] (x_nearest m n l a cap h1 h2 h3 h4 h5 h6) rfl rfl ⟨.inr (by rw [hg]; rfl), trivial⟩ hG hH hA

/-! ### The tables of the laws -/
noncomputable def Ep3 : List (FuncId × Entry) := (4, gSzR) :: (10, gEqR 34 3 [.u8]) :: (36, gPal) :: (21, gPal) :: (15, gNear) :: (25, gNear) :: (19, gTone) :: (34, gEqT) :: Ep2
theorem Ep3_ok : EntriesOk Try.prog TT Ep3 := ⟨e_szPalette, e_eqPalette, e_ValidPaletteS, e_ValidPaletteI, e_l02Nearest, e_nearest, e_toTone, e_eqTone, Ep2_ok⟩
def Mp3 : List (FuncId × EntryC) := [(7, gToR 34 3 [.u8])]
theorem Mp3_ok : EntriesCOk Try.prog TT Mp3 := ⟨e_toPalette, trivial⟩
noncomputable abbrev Cp3 : Ctr := ctrOfM Ep3 Mp3
theorem Cp3_ok : CtrOk Try.prog TT Cp3 := ctrOfM_ok Ep3_ok Mp3_ok
noncomputable def ILp  : List (FuncId × Func × (Nat → LM)) := [
  ]
theorem ILp_ok  : InlsOk Try.prog ILp := trivial

theorem ws_byl {n : Nat} {l : List Int} {len cap : Int} (ws : WS [.u8] 3 n l len cap) : byl (len.toNat * 3) (l.take (len.toNat * 3)) := by
  intro i hi
  rw [getD_take' hi]
  have h := ws.wf i (by have := ws.hn; omega)
  simp only [List.length_cons, List.length_nil, Nat.zero_add, Nat.mod_one, List.getD_cons_zero] at h
  simpa [Lit.wf, IntKind.min, IntKind.max, IntKind.signed, IntKind.bits] using h

end Go.Proofs.Ytaaohciojedncaa
