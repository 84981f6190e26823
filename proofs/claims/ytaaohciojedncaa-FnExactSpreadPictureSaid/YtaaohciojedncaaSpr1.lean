/- SpreadPicture: small functions of both sides. No conditions beyond the ranges of the kinds. -/
import Derived.Test.YtaaohciojedncaaSpr0
set_option linter.unusedSimpArgs false
set_option linter.unusedVariables false
namespace Go.Proofs.Ytaaohciojedncaa
open Go.Sx Go.RowKit

/-! ### Quotients that are rounded down -/
theorem x_l02Down (x : Int) (h1 : -9000000000000000000 ≤ x) (h2 : x ≤ 9000000000000000000) : Fex true TT (inlN true TT C0 (lookI ILz) 4) C0 U0 Try.f17 [.a (.c (.int .i64 x))] [] (fun lv _ => leL lv (.a (.c (.int .i64 (x / 16))))) := by
  refine Go.Sx.by_eq (q := True ∧ True ∧ ((16 : Int) ≠ (0 : Int) ∧ (-9223372036854775808 : Int) ≤ Int.tdiv x (16 : Int) ∧ Int.tdiv x (16 : Int) ≤ (9223372036854775807 : Int)) ∧ True ∧ True ∧ (16 : Int) ≠ (0 : Int) ∧ True ∧ (Decidable.decide (Int.tmod x (16 : Int) < (0 : Int)) = Bool.true → True ∧ ((-9223372036854775808 : Int) ≤ Int.tdiv x (16 : Int) - (1 : Int) ∧ Int.tdiv x (16 : Int) - (1 : Int) ≤ (9223372036854775807 : Int)) ∧ True ∧ True ∧ True ∧ IntKind.i64 = IntKind.i64 ∧ Int.tdiv x (16 : Int) - (1 : Int) = x / (16 : Int)) ∧ (Decidable.decide (Int.tmod x (16 : Int) < (0 : Int)) = Bool.false → True ∧ True ∧ IntKind.i64 = IntKind.i64 ∧ Int.tdiv x (16 : Int) = x / (16 : Int))) (by kernel_rfl) ?_
  simp only [true_and, and_true, and_self, decide_eq_true_eq, decide_eq_false_iff_not, Bool.not_eq_true', Bool.not_eq_false', Bool.not_true, Bool.not_false, beq_iff_eq, beq_eq_false_iff_ne, bne_iff_ne, bne_eq_false_iff_eq, ne_eq, not_true_eq_false, not_false_eq_true, false_implies, true_implies, implies_true, forall_const, exists_const, ↓reduceIte, Int.reduceEq, Int.toNat_natCast, Bool.false_eq_true, Bool.true_eq_false, reduceCtorEq]
  have e1 := Int.tdiv_eq_ediv (a := x) (b := 16)
  have e2 := Int.tmod_eq_emod (a := x) (b := 16)
  have e3 : (16 : Int) ∣ x ↔ x % 16 = 0 := Int.dvd_iff_emod_eq_zero
  have e4 : (16 : Int).sign = 1 := rfl
  have e5 : ((16 : Int).natAbs : Int) = 16 := rfl
  rw [e4] at e1
  by_cases h0 : 0 ≤ x
  · rw [if_pos (.inl h0)] at e1 e2
    omega
  · by_cases h3 : (16 : Int) ∣ x
    · rw [if_pos (.inr h3)] at e1 e2
      omega
    · rw [if_neg (by simp [h0, h3])] at e1 e2
      rw [e5] at e2
      omega
def gDwn : Entry := fun args _ => match args with
  | [.a (.c (.int .i64 x))] => some (-9000000000000000000 ≤ x ∧ x ≤ 9000000000000000000, .a (.c (.int .i64 (x / 16))))
  | _ => none
theorem e_l02Down : EntryOk Try.prog TT 17 gDwn := by
  refine ⟨fnOk Try.func17 (by kernel_rfl) rfl, ?_⟩
  intro args H p r he hp n0 w0 β w vals hG hH hA
  unfold gDwn at he
  split at he
  · simp only [Option.some.injEq, Prod.mk.injEq] at he
    obtain ⟨rfl, rfl⟩ := he
    exact entry_bare tt_ok (inlN_ok tt_ok C0_ok mixed (ILz_ok).ok 4) C0_ok mixed Try.func17 (x_l02Down _ hp.1 hp.2) rfl rfl hG hH hA
  · simp at he

theorem x_l00MinS (x y : Int) : Fex true TT (inlN true TT C0 (lookI ILz) 4) C0 U0 Try.f14 [.a (.c (.int .i64 x)), .a (.c (.int .i64 y))] [] (fun lv _ => leL lv (.a (.c (.int .i64 (min x y))))) := by
  refine Go.Sx.by_eq (q := True ∧ True ∧ True ∧ True ∧ (Decidable.decide (x < y) = Bool.true → True ∧ True ∧ IntKind.i64 = IntKind.i64 ∧ x = Min.min x y) ∧ (Decidable.decide (x < y) = Bool.false → True ∧ True ∧ IntKind.i64 = IntKind.i64 ∧ y = Min.min x y)) (by kernel_rfl) ?_
  simp only [true_and, and_true, and_self, decide_eq_true_eq, decide_eq_false_iff_not, Bool.not_eq_true', Bool.not_eq_false', Bool.not_true, Bool.not_false, beq_iff_eq, beq_eq_false_iff_ne, bne_iff_ne, bne_eq_false_iff_eq, ne_eq, not_true_eq_false, not_false_eq_true, false_implies, true_implies, implies_true, forall_const, exists_const, ↓reduceIte, Int.reduceEq, Int.toNat_natCast, Bool.false_eq_true, Bool.true_eq_false, reduceCtorEq]
  omega
theorem x_l00MaxS (x y : Int) : Fex true TT (inlN true TT C0 (lookI ILz) 4) C0 U0 Try.f13 [.a (.c (.int .i64 x)), .a (.c (.int .i64 y))] [] (fun lv _ => leL lv (.a (.c (.int .i64 (max x y))))) := by
  refine Go.Sx.by_eq (q := True ∧ True ∧ True ∧ True ∧ (Decidable.decide (y < x) = Bool.true → True ∧ True ∧ IntKind.i64 = IntKind.i64 ∧ x = Max.max x y) ∧ (Decidable.decide (y < x) = Bool.false → True ∧ True ∧ IntKind.i64 = IntKind.i64 ∧ y = Max.max x y)) (by kernel_rfl) ?_
  simp only [true_and, and_true, and_self, decide_eq_true_eq, decide_eq_false_iff_not, Bool.not_eq_true', Bool.not_eq_false', Bool.not_true, Bool.not_false, beq_iff_eq, beq_eq_false_iff_ne, bne_iff_ne, bne_eq_false_iff_eq, ne_eq, not_true_eq_false, not_false_eq_true, false_implies, true_implies, implies_true, forall_const, exists_const, ↓reduceIte, Int.reduceEq, Int.toNat_natCast, Bool.false_eq_true, Bool.true_eq_false, reduceCtorEq]
  omega
theorem x_l00InS (x a b : Int) : Fex true TT (inlN true TT C0 (lookI ILz) 4) C0 U0 Try.f16 [.a (.c (.int .i64 x)), .a (.c (.int .i64 a)), .a (.c (.int .i64 b))] [] (fun lv _ => leL lv (.a (.c (.bool (decide (a ≤ x ∧ x ≤ b)))))) := by
  refine Go.Sx.by_eq (q := True ∧ True ∧ True ∧ True ∧ True ∧ (Decidable.decide (a ≤ x) = Bool.true → True ∧ True ∧ True ∧ True ∧ True ∧ Decidable.decide (x ≤ b) = Decidable.decide (a ≤ x ∧ x ≤ b)) ∧ (Decidable.decide (a ≤ x) = !Bool.true → True ∧ True ∧ Decidable.decide (a ≤ x ∧ x ≤ b) = Bool.false)) (by kernel_rfl) ?_
  by_cases c1 : a ≤ x <;> by_cases c2 : x ≤ b <;> simp [c1, c2]
def gIn : Entry := fun args _ => match args with
  | [.a (.c (.int .i64 x)), .a (.c (.int .i64 a)), .a (.c (.int .i64 b))] => some (True, .a (.c (.bool (decide (a ≤ x ∧ x ≤ b)))))
  | _ => none
theorem e_l00InS : EntryOk Try.prog TT 16 gIn := by
  refine ⟨fnOk Try.func16 (by kernel_rfl) rfl, ?_⟩
  intro args H p r he hp n0 w0 β w vals hG hH hA
  unfold gIn at he
  split at he
  · simp only [Option.some.injEq, Prod.mk.injEq] at he
    obtain ⟨rfl, rfl⟩ := he
    exact entry_bare tt_ok (inlN_ok tt_ok C0_ok mixed (ILz_ok).ok 4) C0_ok mixed Try.func16 (x_l00InS _ _ _) rfl rfl hG hH hA
  · simp at he

def gMn : Entry := fun args _ => match args with
  | [.a (.c (.int .i64 x)), .a (.c (.int .i64 y))] => some (True, .a (.c (.int .i64 (min x y))))
  | _ => none
def gMx : Entry := fun args _ => match args with
  | [.a (.c (.int .i64 x)), .a (.c (.int .i64 y))] => some (True, .a (.c (.int .i64 (max x y))))
  | _ => none
theorem e_l00MinS : EntryOk Try.prog TT 14 gMn := by
  refine ⟨fnOk Try.func14 (by kernel_rfl) rfl, ?_⟩
  intro args H p r he hp n0 w0 β w vals hG hH hA
  unfold gMn at he
  split at he
  · simp only [Option.some.injEq, Prod.mk.injEq] at he
    obtain ⟨rfl, rfl⟩ := he
    exact entry_bare tt_ok (inlN_ok tt_ok C0_ok mixed (ILz_ok).ok 4) C0_ok mixed Try.func14 (x_l00MinS _ _) rfl rfl hG hH hA
  · simp at he

theorem e_l00MaxS : EntryOk Try.prog TT 13 gMx := by
  refine ⟨fnOk Try.func13 (by kernel_rfl) rfl, ?_⟩
  intro args H p r he hp n0 w0 β w vals hG hH hA
  unfold gMx at he
  split at he
  · simp only [Option.some.injEq, Prod.mk.injEq] at he
    obtain ⟨rfl, rfl⟩ := he
    exact entry_bare tt_ok (inlN_ok tt_ok C0_ok mixed (ILz_ok).ok 4) C0_ok mixed Try.func13 (x_l00MaxS _ _) rfl rfl hG hH hA
  · simp at he


/-! ### The program's lights -/
def clOf (a : List Int) : List Int := [clV (a.getD 0 0), clV (a.getD 1 0), clV (a.getD 2 0)]
def mnOf (a b : List Int) : List Int := [a.getD 0 0 - b.getD 0 0, a.getD 1 0 - b.getD 1 0, a.getD 2 0 - b.getD 2 0]
theorem x_lToneI (a : List Int) (h : a.length = 3) : Fex true TT (inlN true TT C0 (lookI ILz) 4) C0 (fun _ => .unroll 4) Try.f26 [ligL a] [] (fun lv _ => leL lv (tonL (clOf a))) := by
  obtain ⟨x, y, z, rfl⟩ := list3 h
  refine Go.Sx.by_eq (q := True ∧ True ∧ True ∧ True ∧ True ∧ True ∧ True ∧ True ∧ True ∧ True ∧ True ∧ True ∧ True ∧ True ∧ True ∧ True ∧ True ∧ True ∧ True ∧ True ∧ True ∧ True ∧ True ∧ True ∧ True ∧ True ∧ True ∧ True ∧ True ∧ True ∧ True ∧ True ∧ True ∧ True ∧ True ∧ True ∧ True ∧ True ∧ True ∧ True ∧ True ∧ True ∧ True ∧ True ∧ True ∧ True ∧ True ∧ True ∧ True ∧ True ∧ ([EK.u8] = [EK.u8] ∧ (3 : Nat) = (3 : Nat) ∧ List.set (List.set (List.set (List.replicate (3 : Nat) (0 : Int)) (0 : Nat) (IntKind.wrap IntKind.u8 (Min.min (Max.max (List.getD [x, y, z] (Int.toNat (0 : Int) * (1 : Nat)) (0 : Int)) (0 : Int)) (255 : Int)))) (1 : Nat) (IntKind.wrap IntKind.u8 (Min.min (Max.max (List.getD [x, y, z] (Int.toNat (IntKind.wrap IntKind.i64 ((0 : Int) + (1 : Int))) * (1 : Nat)) (0 : Int)) (0 : Int)) (255 : Int)))) (2 : Nat) (IntKind.wrap IntKind.u8 (Min.min (Max.max (List.getD [x, y, z] (Int.toNat (IntKind.wrap IntKind.i64 (IntKind.wrap IntKind.i64 ((0 : Int) + (1 : Int)) + (1 : Int))) * (1 : Nat)) (0 : Int)) (0 : Int)) (255 : Int))) = clOf [x, y, z]) ∧ True) (by kernel_rfl) ?_
  simp only [true_and, and_true, and_self, decide_eq_true_eq, decide_eq_false_iff_not, Bool.not_eq_true', Bool.not_eq_false', Bool.not_true, Bool.not_false, beq_iff_eq, beq_eq_false_iff_ne, bne_iff_ne, bne_eq_false_iff_eq, ne_eq, not_true_eq_false, not_false_eq_true, false_implies, true_implies, implies_true, forall_const, exists_const, ↓reduceIte, Int.reduceEq, Int.toNat_natCast, Bool.false_eq_true, Bool.true_eq_false, reduceCtorEq]
  have w1 : IntKind.i64.wrap (0 + 1) = 1 := by decide
  have w2 : IntKind.i64.wrap (1 + 1) = 2 := by decide
  have cw : ∀ v : Int, IntKind.u8.wrap (min (max v 0) 255) = clV v := fun v => by
    rw [u8w (by omega) (by omega), clV]; omega
  simp only [w1, w2, cw]
  rfl
def gLtn : Entry := fun args _ => match args with
  | [.a (.agg [.run [.i64] 3 a])] => some (a.length = 3, tonL (clOf a))
  | _ => none
theorem e_lTone : EntryOk Try.prog TT 26 gLtn := by
  refine ⟨fnOk Try.func26 (by kernel_rfl) rfl, ?_⟩
  intro args H p r he hp n0 w0 β w vals hG hH hA
  unfold gLtn at he
  split at he
  · simp only [Option.some.injEq, Prod.mk.injEq] at he
    obtain ⟨rfl, rfl⟩ := he
    exact entry_bare tt_ok (inlN_ok tt_ok C0_ok mixed (ILz_ok).ok 4) C0_ok mixed Try.func26 (x_lToneI _ hp) rfl rfl hG hH hA
  · simp at he


structure L3 (a : List Int) : Prop where
  len : a.length = 3
  b : ∀ i, i < 3 → -1000000000 ≤ a.getD i 0 ∧ a.getD i 0 ≤ 1000000000
theorem x_minusW (a b : List Int) (r : L3 a) (s : TBl b) : Fex true TT (inlN true TT C0 (lookI []) 4) C0 (fun _ => .unroll 4) Try.f27 [ligL a, tonL b] [] (fun lv _ => leL lv (ligL (mnOf a b))) := by
  have a0 := r.b 0 (by omega); have a1 := r.b 1 (by omega); have a2 := r.b 2 (by omega)
  have b0 := s.b 0 (by omega); have b1 := s.b 1 (by omega); have b2 := s.b 2 (by omega)
  obtain ⟨x, y, z, rfl⟩ := list3 r.len
  obtain ⟨x', y', z', rfl⟩ := list3 s.len
  simp only [List.getD_cons_zero, List.getD_cons_succ] at a0 a1 a2 b0 b1 b2
  have w1 : IntKind.i64.wrap 1 = 1 := by decide
  have w2 : IntKind.i64.wrap 2 = 2 := by decide
  refine Go.Sx.by_eq (q := True ∧ True ∧ True ∧ True ∧ True ∧ True ∧ True ∧ True ∧ True ∧ True ∧ True ∧ True ∧ True ∧ True ∧ ((-9223372036854775808 : Int) ≤ List.getD [x', y', z'] (Int.toNat (0 : Int) * (1 : Nat)) (0 : Int) ∧ List.getD [x', y', z'] (Int.toNat (0 : Int) * (1 : Nat)) (0 : Int) ≤ (9223372036854775807 : Int)) ∧ ((-9223372036854775808 : Int) ≤ List.getD [x, y, z] (0 : Nat) (0 : Int) - List.getD [x', y', z'] (Int.toNat (0 : Int) * (1 : Nat)) (0 : Int) ∧ List.getD [x, y, z] (0 : Nat) (0 : Int) - List.getD [x', y', z'] (Int.toNat (0 : Int) * (1 : Nat)) (0 : Int) ≤ (9223372036854775807 : Int)) ∧ True ∧ True ∧ True ∧ True ∧ True ∧ True ∧ True ∧ True ∧ True ∧ True ∧ True ∧ True ∧ True ∧ ((-9223372036854775808 : Int) ≤ List.getD [x', y', z'] (Int.toNat (IntKind.wrap IntKind.i64 ((0 : Int) + (1 : Int))) * (1 : Nat)) (0 : Int) ∧ List.getD [x', y', z'] (Int.toNat (IntKind.wrap IntKind.i64 ((0 : Int) + (1 : Int))) * (1 : Nat)) (0 : Int) ≤ (9223372036854775807 : Int)) ∧ ((-9223372036854775808 : Int) ≤ List.getD (List.set [x, y, z] (0 : Nat) (List.getD [x, y, z] (0 : Nat) (0 : Int) - List.getD [x', y', z'] (Int.toNat (0 : Int) * (1 : Nat)) (0 : Int))) (1 : Nat) (0 : Int) - List.getD [x', y', z'] (Int.toNat (IntKind.wrap IntKind.i64 ((0 : Int) + (1 : Int))) * (1 : Nat)) (0 : Int) ∧ List.getD (List.set [x, y, z] (0 : Nat) (List.getD [x, y, z] (0 : Nat) (0 : Int) - List.getD [x', y', z'] (Int.toNat (0 : Int) * (1 : Nat)) (0 : Int))) (1 : Nat) (0 : Int) - List.getD [x', y', z'] (Int.toNat (IntKind.wrap IntKind.i64 ((0 : Int) + (1 : Int))) * (1 : Nat)) (0 : Int) ≤ (9223372036854775807 : Int)) ∧ True ∧ True ∧ True ∧ True ∧ True ∧ True ∧ True ∧ True ∧ True ∧ True ∧ True ∧ True ∧ True ∧ ((-9223372036854775808 : Int) ≤ List.getD [x', y', z'] (Int.toNat (IntKind.wrap IntKind.i64 (IntKind.wrap IntKind.i64 ((0 : Int) + (1 : Int)) + (1 : Int))) * (1 : Nat)) (0 : Int) ∧ List.getD [x', y', z'] (Int.toNat (IntKind.wrap IntKind.i64 (IntKind.wrap IntKind.i64 ((0 : Int) + (1 : Int)) + (1 : Int))) * (1 : Nat)) (0 : Int) ≤ (9223372036854775807 : Int)) ∧ ((-9223372036854775808 : Int) ≤ List.getD (List.set (List.set [x, y, z] (0 : Nat) (List.getD [x, y, z] (0 : Nat) (0 : Int) - List.getD [x', y', z'] (Int.toNat (0 : Int) * (1 : Nat)) (0 : Int))) (1 : Nat) (List.getD (List.set [x, y, z] (0 : Nat) (List.getD [x, y, z] (0 : Nat) (0 : Int) - List.getD [x', y', z'] (Int.toNat (0 : Int) * (1 : Nat)) (0 : Int))) (1 : Nat) (0 : Int) - List.getD [x', y', z'] (Int.toNat (IntKind.wrap IntKind.i64 ((0 : Int) + (1 : Int))) * (1 : Nat)) (0 : Int))) (2 : Nat) (0 : Int) - List.getD [x', y', z'] (Int.toNat (IntKind.wrap IntKind.i64 (IntKind.wrap IntKind.i64 ((0 : Int) + (1 : Int)) + (1 : Int))) * (1 : Nat)) (0 : Int) ∧ List.getD (List.set (List.set [x, y, z] (0 : Nat) (List.getD [x, y, z] (0 : Nat) (0 : Int) - List.getD [x', y', z'] (Int.toNat (0 : Int) * (1 : Nat)) (0 : Int))) (1 : Nat) (List.getD (List.set [x, y, z] (0 : Nat) (List.getD [x, y, z] (0 : Nat) (0 : Int) - List.getD [x', y', z'] (Int.toNat (0 : Int) * (1 : Nat)) (0 : Int))) (1 : Nat) (0 : Int) - List.getD [x', y', z'] (Int.toNat (IntKind.wrap IntKind.i64 ((0 : Int) + (1 : Int))) * (1 : Nat)) (0 : Int))) (2 : Nat) (0 : Int) - List.getD [x', y', z'] (Int.toNat (IntKind.wrap IntKind.i64 (IntKind.wrap IntKind.i64 ((0 : Int) + (1 : Int)) + (1 : Int))) * (1 : Nat)) (0 : Int) ≤ (9223372036854775807 : Int)) ∧ True ∧ True ∧ True ∧ True ∧ True ∧ True ∧ True ∧ ([EK.i64] = [EK.i64] ∧ (3 : Nat) = (3 : Nat) ∧ List.set (List.set (List.set [x, y, z] (0 : Nat) (List.getD [x, y, z] (0 : Nat) (0 : Int) - List.getD [x', y', z'] (Int.toNat (0 : Int) * (1 : Nat)) (0 : Int))) (1 : Nat) (List.getD (List.set [x, y, z] (0 : Nat) (List.getD [x, y, z] (0 : Nat) (0 : Int) - List.getD [x', y', z'] (Int.toNat (0 : Int) * (1 : Nat)) (0 : Int))) (1 : Nat) (0 : Int) - List.getD [x', y', z'] (Int.toNat (IntKind.wrap IntKind.i64 ((0 : Int) + (1 : Int))) * (1 : Nat)) (0 : Int))) (2 : Nat) (List.getD (List.set (List.set [x, y, z] (0 : Nat) (List.getD [x, y, z] (0 : Nat) (0 : Int) - List.getD [x', y', z'] (Int.toNat (0 : Int) * (1 : Nat)) (0 : Int))) (1 : Nat) (List.getD (List.set [x, y, z] (0 : Nat) (List.getD [x, y, z] (0 : Nat) (0 : Int) - List.getD [x', y', z'] (Int.toNat (0 : Int) * (1 : Nat)) (0 : Int))) (1 : Nat) (0 : Int) - List.getD [x', y', z'] (Int.toNat (IntKind.wrap IntKind.i64 ((0 : Int) + (1 : Int))) * (1 : Nat)) (0 : Int))) (2 : Nat) (0 : Int) - List.getD [x', y', z'] (Int.toNat (IntKind.wrap IntKind.i64 (IntKind.wrap IntKind.i64 ((0 : Int) + (1 : Int)) + (1 : Int))) * (1 : Nat)) (0 : Int)) = mnOf [x, y, z] [x', y', z']) ∧ True) (by kernel_rfl) ?_
  simp [w1, w2, mnOf]
  omega
def gMinusW : Entry := fun args _ => match args with
  | [.a (.agg [.run [.i64] 3 a]), .a (.agg [.run [.u8] 3 b])] => some (L3 a ∧ TBl b, ligL (mnOf a b))
  | _ => none
theorem e_minusW : EntryOk Try.prog TT 27 gMinusW := by
  refine ⟨fnOk Try.func27 (by kernel_rfl) rfl, ?_⟩
  intro args H p r he hp n0 w0 β w vals hG hH hA
  unfold gMinusW at he
  split at he
  · simp only [Option.some.injEq, Prod.mk.injEq] at he
    obtain ⟨rfl, rfl⟩ := he
    exact entry_bare tt_ok (inlN_ok tt_ok C0_ok mixed (ILz_ok).ok 4) C0_ok mixed Try.func27 (x_minusW _ _ hp.1 hp.2) rfl rfl hG hH hA
  · simp at he


/-! ### The values at the start -/
def lmVr (w h : Int) (l : List Int) : LAnn := { ι := Nat, inv := fun _ y => (y : Int) ≤ h, slots := fun _ y => [(13, .a (.c (.int .i64 y)))], blks := fun _ y => [(2, [.run [.i64] 432 (kep w h l (12 * y))])], μ := fun _ y => h.toNat - y }
def lmVc (w h : Int) (l : List Int) : LAnn := { ι := Nat, inv := fun _ x => (x : Int) ≤ w, slots := fun _ x => [(17, .a (.c (.int .i64 x)))], blks := fun st x => [(2, [.run [.i64] 432 (kep w h l (12 * (slotI st 13).toNat + x))])], μ := fun _ x => w.toNat - x }
noncomputable def ILvs (w h : Int) (l : List Int) : List (FuncId × Func × (Nat → LM)) := [
  (24, Try.f24, U0),
  (22, Try.f22, U0),
  (40, Try.f40, U0),
  (45, Try.f45, fun r => if r = 2 then .inv (lmVr w h l) else .inv (lmVc w h l)),
  (43, Try.f43, U0),
  (31, Try.f31, U0)]
theorem ILvs_ok {w h : Int} {l : List Int} : InlsOk Try.prog (ILvs w h l) := ⟨⟨Try.func24, by kernel_rfl⟩, ⟨Try.func22, by kernel_rfl⟩, ⟨Try.func40, by kernel_rfl⟩, ⟨Try.func45, by kernel_rfl⟩, ⟨Try.func43, by kernel_rfl⟩, ⟨Try.func31, by kernel_rfl⟩, trivial⟩
def Esv : List (FuncId × Entry) := [(39, gLights)]
theorem Esv_ok : EntriesOk Try.prog TT Esv := ⟨e_lightsOf, trivial⟩
abbrev Csv : Ctr := ctrOf Esv
theorem Csv_ok : CtrOk Try.prog TT Csv := ctrOf_ok Esv_ok
set_option maxRecDepth 100000 in
set_option maxHeartbeats 4000000 in
theorem x_values (w h : Int) (l : List Int) (r : RgI w h l) (ho : okI w h l = true) : Fex true TT (inlN true TT Csv (lookI (ILvs w h l)) 4) Csv U0 Try.f23 [img w h l] [] (fun lv _ => leL lv (.a (.agg [.run [.i64] 432 l]))) := by
  refine Go.Sx.by_eq (q := True ∧ True ∧ True ∧ True ∧ True ∧ True ∧ True ∧ True ∧ True ∧ True ∧ True ∧ True ∧ True ∧ True ∧ True ∧ True ∧ True ∧ True ∧ True ∧ True ∧ True ∧ True ∧ True ∧ True ∧ True ∧ True ∧ ((-9223372036854775808 : Int) ≤ w ∧ w ≤ (9223372036854775807 : Int)) ∧ True ∧ True ∧ ((-9223372036854775808 : Int) ≤ h ∧ h ≤ (9223372036854775807 : Int)) ∧ True ∧ True ∧ True ∧ True ∧ True ∧ True ∧ True ∧ True ∧ True ∧ (∃ (x : Nat), (↑x : Int) ≤ h ∧ (Cel.yld (7 : Nat) = Cel.yld (7 : Nat) ∧ Cel.ptr (6 : Nat) (0 : Nat) = Cel.ptr (6 : Nat) (0 : Nat) ∧ Cel.val Go.undef = Cel.val Go.undef ∧ (IntKind.i64 = IntKind.i64 ∧ w = w) ∧ (IntKind.i64 = IntKind.i64 ∧ h = h) ∧ True ∧ True ∧ ((IntKind.i64 = IntKind.i64 ∧ w = w) ∧ (IntKind.i64 = IntKind.i64 ∧ h = h) ∧ True) ∧ ((IntKind.i8 = IntKind.i8 ∧ w = w) ∧ (IntKind.i8 = IntKind.i8 ∧ h = h) ∧ ([EK.u8] = [EK.u8] ∧ (144 : Nat) = (144 : Nat) ∧ List.replicate (144 : Nat) (0 : Int) = List.replicate (144 : Nat) (0 : Int)) ∧ True) ∧ ((IntKind.i64 = IntKind.i64 ∧ w = w) ∧ (IntKind.i64 = IntKind.i64 ∧ h = h) ∧ True) ∧ (IntKind.i64 = IntKind.i64 ∧ w = w) ∧ (IntKind.i64 = IntKind.i64 ∧ h = h) ∧ (IntKind.i64 = IntKind.i64 ∧ h = h) ∧ (IntKind.i64 = IntKind.i64 ∧ (0 : Int) = (↑x : Int)) ∧ True ∧ True ∧ True ∧ True ∧ True ∧ True ∧ True ∧ True ∧ True ∧ True ∧ True ∧ True ∧ True ∧ True ∧ True) ∧ (Bool.true = Bool.true ∧ (37 : Nat) = (37 : Nat) ∧ (IntKind.i8 = IntKind.i8 ∧ w = w) ∧ (IntKind.i8 = IntKind.i8 ∧ h = h) ∧ ([EK.u8] = [EK.u8] ∧ (432 : Nat) = (432 : Nat) ∧ l = l) ∧ True) ∧ (Bool.true = Bool.true ∧ (62 : Nat) = (62 : Nat) ∧ ([EK.i64] = [EK.i64] ∧ (432 : Nat) = (432 : Nat) ∧ List.replicate (432 : Nat) (0 : Int) = List.replicate (432 : Nat) (0 : Int)) ∧ True) ∧ (Bool.true = Bool.true ∧ (62 : Nat) = (62 : Nat) ∧ ([EK.i64] = [EK.i64] ∧ (432 : Nat) = (432 : Nat) ∧ List.replicate (432 : Nat) (0 : Int) = kep w h l ((12 : Nat) * x)) ∧ True) ∧ (Bool.true = Bool.true ∧ (37 : Nat) = (37 : Nat) ∧ (IntKind.i8 = IntKind.i8 ∧ w = w) ∧ (IntKind.i8 = IntKind.i8 ∧ h = h) ∧ ([EK.u8] = [EK.u8] ∧ (432 : Nat) = (432 : Nat) ∧ l = l) ∧ True) ∧ (Bool.true = Bool.true ∧ (37 : Nat) = (37 : Nat) ∧ (IntKind.i8 = IntKind.i8 ∧ w = w) ∧ (IntKind.i8 = IntKind.i8 ∧ h = h) ∧ ([EK.u8] = [EK.u8] ∧ (432 : Nat) = (432 : Nat) ∧ l = l) ∧ True) ∧ (Bool.true = Bool.true ∧ (31 : Nat) = (31 : Nat) ∧ (IntKind.i8 = IntKind.i8 ∧ w = w) ∧ (IntKind.i8 = IntKind.i8 ∧ h = h) ∧ ([EK.u8] = [EK.u8] ∧ (144 : Nat) = (144 : Nat) ∧ List.replicate (144 : Nat) (0 : Int) = List.replicate (144 : Nat) (0 : Int)) ∧ True) ∧ (Bool.true = Bool.true ∧ (31 : Nat) = (31 : Nat) ∧ (IntKind.i8 = IntKind.i8 ∧ w = w) ∧ (IntKind.i8 = IntKind.i8 ∧ h = h) ∧ ([EK.u8] = [EK.u8] ∧ (144 : Nat) = (144 : Nat) ∧ List.replicate (144 : Nat) (0 : Int) = List.replicate (144 : Nat) (0 : Int)) ∧ True) ∧ (Go.LoopState.ready = Go.LoopState.ready ∧ (Option.none : Option Go.Code) = Option.none) ∧ (Bool.true = Bool.true ∧ (31 : Nat) = (31 : Nat) ∧ (IntKind.i8 = IntKind.i8 ∧ w = w) ∧ (IntKind.i8 = IntKind.i8 ∧ h = h) ∧ ([EK.u8] = [EK.u8] ∧ (144 : Nat) = (144 : Nat) ∧ List.replicate (144 : Nat) (0 : Int) = List.replicate (144 : Nat) (0 : Int)) ∧ True) ∧ True) ∧ ∀ (x : Nat), (↑x : Int) ≤ h → True ∧ (Decidable.decide ((↑x : Int) < h) = Bool.true → True ∧ True ∧ True ∧ True ∧ (∃ (x_1 : Nat), (↑x_1 : Int) ≤ w ∧ (Cel.yld (7 : Nat) = Cel.yld (7 : Nat) ∧ Cel.ptr (6 : Nat) (0 : Nat) = Cel.ptr (6 : Nat) (0 : Nat) ∧ Cel.val Go.undef = Cel.val Go.undef ∧ (IntKind.i64 = IntKind.i64 ∧ w = w) ∧ (IntKind.i64 = IntKind.i64 ∧ h = h) ∧ (IntKind.i64 = IntKind.i64 ∧ (↑x : Int) = (↑x : Int)) ∧ True ∧ ((IntKind.i64 = IntKind.i64 ∧ w = w) ∧ (IntKind.i64 = IntKind.i64 ∧ h = h) ∧ True) ∧ ((IntKind.i8 = IntKind.i8 ∧ w = w) ∧ (IntKind.i8 = IntKind.i8 ∧ h = h) ∧ ([EK.u8] = [EK.u8] ∧ (144 : Nat) = (144 : Nat) ∧ List.replicate (144 : Nat) (0 : Int) = List.replicate (144 : Nat) (0 : Int)) ∧ True) ∧ ((IntKind.i64 = IntKind.i64 ∧ w = w) ∧ (IntKind.i64 = IntKind.i64 ∧ h = h) ∧ True) ∧ (IntKind.i64 = IntKind.i64 ∧ w = w) ∧ (IntKind.i64 = IntKind.i64 ∧ h = h) ∧ (IntKind.i64 = IntKind.i64 ∧ h = h) ∧ (IntKind.i64 = IntKind.i64 ∧ (↑x : Int) = (↑x : Int)) ∧ Decidable.decide ((↑x : Int) < h) = Decidable.decide ((↑x : Int) < h) ∧ (IntKind.i64 = IntKind.i64 ∧ (↑x : Int) = (↑x : Int)) ∧ (IntKind.i64 = IntKind.i64 ∧ w = w) ∧ (IntKind.i64 = IntKind.i64 ∧ (0 : Int) = (↑x_1 : Int)) ∧ True ∧ True ∧ True ∧ True ∧ True ∧ True ∧ True ∧ True ∧ True ∧ True ∧ True) ∧ (Bool.true = Bool.true ∧ (37 : Nat) = (37 : Nat) ∧ (IntKind.i8 = IntKind.i8 ∧ w = w) ∧ (IntKind.i8 = IntKind.i8 ∧ h = h) ∧ ([EK.u8] = [EK.u8] ∧ (432 : Nat) = (432 : Nat) ∧ l = l) ∧ True) ∧ (Bool.true = Bool.true ∧ (62 : Nat) = (62 : Nat) ∧ ([EK.i64] = [EK.i64] ∧ (432 : Nat) = (432 : Nat) ∧ List.replicate (432 : Nat) (0 : Int) = List.replicate (432 : Nat) (0 : Int)) ∧ True) ∧ (Bool.true = Bool.true ∧ (62 : Nat) = (62 : Nat) ∧ ([EK.i64] = [EK.i64] ∧ (432 : Nat) = (432 : Nat) ∧ kep w h l ((12 : Nat) * x) = kep w h l ((12 : Nat) * Int.toNat (↑x : Int) + x_1)) ∧ True) ∧ (Bool.true = Bool.true ∧ (37 : Nat) = (37 : Nat) ∧ (IntKind.i8 = IntKind.i8 ∧ w = w) ∧ (IntKind.i8 = IntKind.i8 ∧ h = h) ∧ ([EK.u8] = [EK.u8] ∧ (432 : Nat) = (432 : Nat) ∧ l = l) ∧ True) ∧ (Bool.true = Bool.true ∧ (37 : Nat) = (37 : Nat) ∧ (IntKind.i8 = IntKind.i8 ∧ w = w) ∧ (IntKind.i8 = IntKind.i8 ∧ h = h) ∧ ([EK.u8] = [EK.u8] ∧ (432 : Nat) = (432 : Nat) ∧ l = l) ∧ True) ∧ (Bool.true = Bool.true ∧ (31 : Nat) = (31 : Nat) ∧ (IntKind.i8 = IntKind.i8 ∧ w = w) ∧ (IntKind.i8 = IntKind.i8 ∧ h = h) ∧ ([EK.u8] = [EK.u8] ∧ (144 : Nat) = (144 : Nat) ∧ List.replicate (144 : Nat) (0 : Int) = List.replicate (144 : Nat) (0 : Int)) ∧ True) ∧ (Bool.true = Bool.true ∧ (31 : Nat) = (31 : Nat) ∧ (IntKind.i8 = IntKind.i8 ∧ w = w) ∧ (IntKind.i8 = IntKind.i8 ∧ h = h) ∧ ([EK.u8] = [EK.u8] ∧ (144 : Nat) = (144 : Nat) ∧ List.replicate (144 : Nat) (0 : Int) = List.replicate (144 : Nat) (0 : Int)) ∧ True) ∧ (Go.LoopState.ready = Go.LoopState.ready ∧ (Option.none : Option Go.Code) = Option.none) ∧ (Bool.true = Bool.true ∧ (31 : Nat) = (31 : Nat) ∧ (IntKind.i8 = IntKind.i8 ∧ w = w) ∧ (IntKind.i8 = IntKind.i8 ∧ h = h) ∧ ([EK.u8] = [EK.u8] ∧ (144 : Nat) = (144 : Nat) ∧ List.replicate (144 : Nat) (0 : Int) = List.replicate (144 : Nat) (0 : Int)) ∧ True) ∧ True) ∧ ∀ (x_1 : Nat), (↑x_1 : Int) ≤ w → True ∧ (Decidable.decide ((↑x_1 : Int) < w) = Bool.true → True ∧ True ∧ True ∧ True ∧ True ∧ True ∧ True ∧ True ∧ ((-9223372036854775808 : Int) ≤ (12 : Int) * (↑x : Int) ∧ (12 : Int) * (↑x : Int) ≤ (9223372036854775807 : Int)) ∧ ((-9223372036854775808 : Int) ≤ (↑x_1 : Int) + (12 : Int) * (↑x : Int) ∧ (↑x_1 : Int) + (12 : Int) * (↑x : Int) ≤ (9223372036854775807 : Int)) ∧ True ∧ True ∧ True ∧ True ∧ True ∧ ((0 : Int) ≤ (↑x_1 : Int) + (12 : Int) * (↑x : Int) ∧ (↑x_1 : Int) + (12 : Int) * (↑x : Int) < (↑(144 : Nat) : Int)) ∧ ((0 : Int) ≤ (↑x_1 : Int) + (12 : Int) * (↑x : Int) ∧ Int.toNat ((↑x_1 : Int) + (12 : Int) * (↑x : Int)) * (3 : Nat) + (0 : Nat) + (3 : Nat) ≤ (432 : Nat)) ∧ TBl (List.take (3 : Nat) (List.drop (Int.toNat ((↑x_1 : Int) + (12 : Int) * (↑x : Int)) * (3 : Nat) + (0 : Nat)) l)) ∧ ((0 : Int) ≤ (↑x_1 : Int) + (12 : Int) * (↑x : Int) ∧ (↑x_1 : Int) + (12 : Int) * (↑x : Int) < (↑(144 : Nat) : Int)) ∧ ((0 : Int) ≤ (↑x_1 : Int) + (12 : Int) * (↑x : Int) ∧ Int.toNat ((↑x_1 : Int) + (12 : Int) * (↑x : Int)) * (3 : Nat) + (0 : Nat) + (3 : Nat) ≤ (432 : Nat)) ∧ True ∧ ((-9223372036854775808 : Int) ≤ (↑x_1 : Int) + (1 : Int) ∧ (↑x_1 : Int) + (1 : Int) ≤ (9223372036854775807 : Int)) ∧ True ∧ ∃ (y : Nat), (↑y : Int) ≤ w ∧ Int.toNat w - y < Int.toNat w - x_1 ∧ (Cel.yld (7 : Nat) = Cel.yld (7 : Nat) ∧ Cel.ptr (6 : Nat) (0 : Nat) = Cel.ptr (6 : Nat) (0 : Nat) ∧ Cel.val Go.undef = Cel.val Go.undef ∧ (IntKind.i64 = IntKind.i64 ∧ w = w) ∧ (IntKind.i64 = IntKind.i64 ∧ h = h) ∧ (IntKind.i64 = IntKind.i64 ∧ (↑x : Int) = (↑x : Int)) ∧ True ∧ ((IntKind.i64 = IntKind.i64 ∧ w = w) ∧ (IntKind.i64 = IntKind.i64 ∧ h = h) ∧ True) ∧ ((IntKind.i8 = IntKind.i8 ∧ w = w) ∧ (IntKind.i8 = IntKind.i8 ∧ h = h) ∧ ([EK.u8] = [EK.u8] ∧ (144 : Nat) = (144 : Nat) ∧ List.replicate (144 : Nat) (0 : Int) = List.replicate (144 : Nat) (0 : Int)) ∧ True) ∧ ((IntKind.i64 = IntKind.i64 ∧ w = w) ∧ (IntKind.i64 = IntKind.i64 ∧ h = h) ∧ True) ∧ (IntKind.i64 = IntKind.i64 ∧ w = w) ∧ (IntKind.i64 = IntKind.i64 ∧ h = h) ∧ (IntKind.i64 = IntKind.i64 ∧ h = h) ∧ (IntKind.i64 = IntKind.i64 ∧ (↑x : Int) = (↑x : Int)) ∧ Decidable.decide ((↑x : Int) < h) = Decidable.decide ((↑x : Int) < h) ∧ (IntKind.i64 = IntKind.i64 ∧ (↑x : Int) = (↑x : Int)) ∧ (IntKind.i64 = IntKind.i64 ∧ w = w) ∧ (IntKind.i64 = IntKind.i64 ∧ (↑x_1 : Int) + (1 : Int) = (↑y : Int)) ∧ True ∧ True ∧ True ∧ True ∧ True ∧ True ∧ True ∧ True ∧ True ∧ True ∧ True) ∧ (Bool.true = Bool.true ∧ (37 : Nat) = (37 : Nat) ∧ (IntKind.i8 = IntKind.i8 ∧ w = w) ∧ (IntKind.i8 = IntKind.i8 ∧ h = h) ∧ ([EK.u8] = [EK.u8] ∧ (432 : Nat) = (432 : Nat) ∧ l = l) ∧ True) ∧ (Bool.true = Bool.true ∧ (62 : Nat) = (62 : Nat) ∧ ([EK.i64] = [EK.i64] ∧ (432 : Nat) = (432 : Nat) ∧ List.replicate (432 : Nat) (0 : Int) = List.replicate (432 : Nat) (0 : Int)) ∧ True) ∧ (Bool.true = Bool.true ∧ (62 : Nat) = (62 : Nat) ∧ ([EK.i64] = [EK.i64] ∧ (432 : Nat) = (432 : Nat) ∧ List.take (Int.toNat ((↑x_1 : Int) + (12 : Int) * (↑x : Int)) * (3 : Nat) + (0 : Nat)) (kep w h l ((12 : Nat) * Int.toNat (↑x : Int) + x_1)) ++ (List.take (3 : Nat) (List.drop (Int.toNat ((↑x_1 : Int) + (12 : Int) * (↑x : Int)) * (3 : Nat) + (0 : Nat)) l) ++ []) ++ List.drop (Int.toNat ((↑x_1 : Int) + (12 : Int) * (↑x : Int)) * (3 : Nat) + (0 : Nat) + (3 : Nat)) (kep w h l ((12 : Nat) * Int.toNat (↑x : Int) + x_1)) = kep w h l ((12 : Nat) * Int.toNat (↑x : Int) + y)) ∧ True) ∧ (Bool.true = Bool.true ∧ (37 : Nat) = (37 : Nat) ∧ (IntKind.i8 = IntKind.i8 ∧ w = w) ∧ (IntKind.i8 = IntKind.i8 ∧ h = h) ∧ ([EK.u8] = [EK.u8] ∧ (432 : Nat) = (432 : Nat) ∧ l = l) ∧ True) ∧ (Bool.true = Bool.true ∧ (37 : Nat) = (37 : Nat) ∧ (IntKind.i8 = IntKind.i8 ∧ w = w) ∧ (IntKind.i8 = IntKind.i8 ∧ h = h) ∧ ([EK.u8] = [EK.u8] ∧ (432 : Nat) = (432 : Nat) ∧ l = l) ∧ True) ∧ (Bool.true = Bool.true ∧ (31 : Nat) = (31 : Nat) ∧ (IntKind.i8 = IntKind.i8 ∧ w = w) ∧ (IntKind.i8 = IntKind.i8 ∧ h = h) ∧ ([EK.u8] = [EK.u8] ∧ (144 : Nat) = (144 : Nat) ∧ List.replicate (144 : Nat) (0 : Int) = List.replicate (144 : Nat) (0 : Int)) ∧ True) ∧ (Bool.true = Bool.true ∧ (31 : Nat) = (31 : Nat) ∧ (IntKind.i8 = IntKind.i8 ∧ w = w) ∧ (IntKind.i8 = IntKind.i8 ∧ h = h) ∧ ([EK.u8] = [EK.u8] ∧ (144 : Nat) = (144 : Nat) ∧ List.replicate (144 : Nat) (0 : Int) = List.replicate (144 : Nat) (0 : Int)) ∧ True) ∧ (Go.LoopState.ready = Go.LoopState.ready ∧ (Option.none : Option Go.Code) = Option.none) ∧ (Bool.true = Bool.true ∧ (31 : Nat) = (31 : Nat) ∧ (IntKind.i8 = IntKind.i8 ∧ w = w) ∧ (IntKind.i8 = IntKind.i8 ∧ h = h) ∧ ([EK.u8] = [EK.u8] ∧ (144 : Nat) = (144 : Nat) ∧ List.replicate (144 : Nat) (0 : Int) = List.replicate (144 : Nat) (0 : Int)) ∧ True) ∧ True) ∧ (Decidable.decide ((↑x_1 : Int) < w) = Bool.false → ((-9223372036854775808 : Int) ≤ (↑x : Int) + (1 : Int) ∧ (↑x : Int) + (1 : Int) ≤ (9223372036854775807 : Int)) ∧ True ∧ ∃ (y : Nat), (↑y : Int) ≤ h ∧ Int.toNat h - y < Int.toNat h - x ∧ (Cel.yld (7 : Nat) = Cel.yld (7 : Nat) ∧ Cel.ptr (6 : Nat) (0 : Nat) = Cel.ptr (6 : Nat) (0 : Nat) ∧ Cel.val Go.undef = Cel.val Go.undef ∧ (IntKind.i64 = IntKind.i64 ∧ w = w) ∧ (IntKind.i64 = IntKind.i64 ∧ h = h) ∧ True ∧ True ∧ ((IntKind.i64 = IntKind.i64 ∧ w = w) ∧ (IntKind.i64 = IntKind.i64 ∧ h = h) ∧ True) ∧ ((IntKind.i8 = IntKind.i8 ∧ w = w) ∧ (IntKind.i8 = IntKind.i8 ∧ h = h) ∧ ([EK.u8] = [EK.u8] ∧ (144 : Nat) = (144 : Nat) ∧ List.replicate (144 : Nat) (0 : Int) = List.replicate (144 : Nat) (0 : Int)) ∧ True) ∧ ((IntKind.i64 = IntKind.i64 ∧ w = w) ∧ (IntKind.i64 = IntKind.i64 ∧ h = h) ∧ True) ∧ (IntKind.i64 = IntKind.i64 ∧ w = w) ∧ (IntKind.i64 = IntKind.i64 ∧ h = h) ∧ (IntKind.i64 = IntKind.i64 ∧ h = h) ∧ (IntKind.i64 = IntKind.i64 ∧ (↑x : Int) + (1 : Int) = (↑y : Int)) ∧ True ∧ True ∧ True ∧ True ∧ True ∧ True ∧ True ∧ True ∧ True ∧ True ∧ True ∧ True ∧ True ∧ True ∧ True) ∧ (Bool.true = Bool.true ∧ (37 : Nat) = (37 : Nat) ∧ (IntKind.i8 = IntKind.i8 ∧ w = w) ∧ (IntKind.i8 = IntKind.i8 ∧ h = h) ∧ ([EK.u8] = [EK.u8] ∧ (432 : Nat) = (432 : Nat) ∧ l = l) ∧ True) ∧ (Bool.true = Bool.true ∧ (62 : Nat) = (62 : Nat) ∧ ([EK.i64] = [EK.i64] ∧ (432 : Nat) = (432 : Nat) ∧ List.replicate (432 : Nat) (0 : Int) = List.replicate (432 : Nat) (0 : Int)) ∧ True) ∧ (Bool.true = Bool.true ∧ (62 : Nat) = (62 : Nat) ∧ ([EK.i64] = [EK.i64] ∧ (432 : Nat) = (432 : Nat) ∧ kep w h l ((12 : Nat) * Int.toNat (↑x : Int) + x_1) = kep w h l ((12 : Nat) * y)) ∧ True) ∧ (Bool.true = Bool.true ∧ (37 : Nat) = (37 : Nat) ∧ (IntKind.i8 = IntKind.i8 ∧ w = w) ∧ (IntKind.i8 = IntKind.i8 ∧ h = h) ∧ ([EK.u8] = [EK.u8] ∧ (432 : Nat) = (432 : Nat) ∧ l = l) ∧ True) ∧ (Bool.true = Bool.true ∧ (37 : Nat) = (37 : Nat) ∧ (IntKind.i8 = IntKind.i8 ∧ w = w) ∧ (IntKind.i8 = IntKind.i8 ∧ h = h) ∧ ([EK.u8] = [EK.u8] ∧ (432 : Nat) = (432 : Nat) ∧ l = l) ∧ True) ∧ (Bool.true = Bool.true ∧ (31 : Nat) = (31 : Nat) ∧ (IntKind.i8 = IntKind.i8 ∧ w = w) ∧ (IntKind.i8 = IntKind.i8 ∧ h = h) ∧ ([EK.u8] = [EK.u8] ∧ (144 : Nat) = (144 : Nat) ∧ List.replicate (144 : Nat) (0 : Int) = List.replicate (144 : Nat) (0 : Int)) ∧ True) ∧ (Bool.true = Bool.true ∧ (31 : Nat) = (31 : Nat) ∧ (IntKind.i8 = IntKind.i8 ∧ w = w) ∧ (IntKind.i8 = IntKind.i8 ∧ h = h) ∧ ([EK.u8] = [EK.u8] ∧ (144 : Nat) = (144 : Nat) ∧ List.replicate (144 : Nat) (0 : Int) = List.replicate (144 : Nat) (0 : Int)) ∧ True) ∧ (Go.LoopState.ready = Go.LoopState.ready ∧ (Option.none : Option Go.Code) = Option.none) ∧ (Bool.true = Bool.true ∧ (31 : Nat) = (31 : Nat) ∧ (IntKind.i8 = IntKind.i8 ∧ w = w) ∧ (IntKind.i8 = IntKind.i8 ∧ h = h) ∧ ([EK.u8] = [EK.u8] ∧ (144 : Nat) = (144 : Nat) ∧ List.replicate (144 : Nat) (0 : Int) = List.replicate (144 : Nat) (0 : Int)) ∧ True) ∧ True)) ∧ (Decidable.decide ((↑x : Int) < h) = Bool.false → True ∧ True ∧ ([EK.i64] = [EK.i64] ∧ (432 : Nat) = (432 : Nat) ∧ kep w h l ((12 : Nat) * x) = l) ∧ True)) (by kernel_rfl) ?_
  have rw1 := r.w1; have rw2 := r.w2; have rh1 := r.h1; have rh2 := r.h2; have rl := r.len
  have er : ∀ k, List.take 3 (List.drop (k * 3) l) = rcd 3 l k := fun _ => rfl
  simp only [true_and, and_true, and_self, decide_eq_true_eq, decide_eq_false_iff_not, Bool.not_eq_true', Bool.not_eq_false', Bool.not_true, Bool.not_false, beq_iff_eq, beq_eq_false_iff_ne, bne_iff_ne, bne_eq_false_iff_eq, ne_eq, not_true_eq_false, not_false_eq_true, false_implies, true_implies, implies_true, forall_const, exists_const, ↓reduceIte, Int.reduceEq, Int.toNat_natCast, Bool.false_eq_true, Bool.true_eq_false, reduceCtorEq, Nat.add_zero, Int.zero_add, er, Int.toNat_natCast, Int.ofNat_eq_natCast, List.append_nil]
  obtain ⟨⟨w1, w12⟩, h1, h12⟩ := okI_t ho
  refine ⟨by omega, by omega, ⟨0, by omega, rfl, kep_0⟩, ?_⟩
  intro y hy
  refine ⟨fun hlt => ⟨⟨0, by omega, rfl, rfl⟩, ?_⟩, fun hge => ?_⟩
  · intro x hx
    have ei : ((x : Int) + 12 * (y : Int)).toNat = 12 * y + x := by omega
    simp only [ei]
    refine ⟨fun hlx => ⟨by omega, by omega, by omega, by omega, r.tb (by omega), by omega, by omega, by omega, x + 1, by omega, by omega, by simp, ?_⟩, fun hgx => ⟨by omega, y + 1, by omega, by omega, by simp, ?_⟩⟩
    · exact kep_t rl (by omega) (isB_in hlx hlt (by omega)) rfl
    · exact kep_skip (by omega) fun i h1 h2 => isB_row hgx h1 h2
  · rw [kep_skip (N := 12 * y) (M := 144) (by omega) fun i h1 h2 => isB_end hge h1]
    have := kep_ok (l := l) rl ⟨w1, w12, h1, h12⟩
    rw [ho] at this
    exact eq_of_beq this
def gVals : Entry := fun args _ => match args with
  | [.a (.agg [.int .i8 w, .int .i8 h, .run [.u8] 432 l])] => some (RgI w h l ∧ okI w h l = true, .a (.agg [.run [.i64] 432 l]))
  | _ => none
theorem e_values : EntryOk Try.prog TT 23 gVals := by
  refine ⟨fnOk Try.func23 (by kernel_rfl) rfl, ?_⟩
  intro args H p r he hp n0 w0 β w vals hG hH hA
  unfold gVals at he
  split at he
  · simp only [Option.some.injEq, Prod.mk.injEq] at he
    obtain ⟨rfl, rfl⟩ := he
    exact entry_bare tt_ok (inlN_ok tt_ok Csv_ok mixed (ILvs_ok).ok 4) Csv_ok mixed Try.func23 (x_values _ _ _ hp.1 hp.2) rfl rfl hG hH hA
  · simp at he

theorem x_cnI (x y : Int) (h : (-1000000 ≤ x ∧ x ≤ 1000000) ∧ -1000000 ≤ y ∧ y ≤ 1000000) : Fex true TT (inlN true TT C0 (lookI ILz) 4) C0 U0 Try.f31 [.a (.c (.int .i64 x)), .a (.c (.int .i64 y))] [] (fun lv _ => leL lv (.a (.c (.int .i64 (x + 12 * y))))) := by
  refine Go.Sx.by_eq (q := True ∧ True ∧ True ∧ ((-9223372036854775808 : Int) ≤ (12 : Int) * y ∧ (12 : Int) * y ≤ (9223372036854775807 : Int)) ∧ ((-9223372036854775808 : Int) ≤ x + (12 : Int) * y ∧ x + (12 : Int) * y ≤ (9223372036854775807 : Int)) ∧ True ∧ IntKind.i64 = IntKind.i64 ∧ x + (12 : Int) * y = x + (12 : Int) * y) (by kernel_rfl) ?_
  simp only [true_and, and_true, and_self, decide_eq_true_eq, decide_eq_false_iff_not, Bool.not_eq_true', Bool.not_eq_false', Bool.not_true, Bool.not_false, beq_iff_eq, beq_eq_false_iff_ne, bne_iff_ne, bne_eq_false_iff_eq, ne_eq, not_true_eq_false, not_false_eq_true, false_implies, true_implies, implies_true, forall_const, exists_const, ↓reduceIte, Int.reduceEq, Int.toNat_natCast, Bool.false_eq_true, Bool.true_eq_false, reduceCtorEq]
  omega
def gCnI : Entry := fun args _ => match args with
  | [.a (.c (.int .i64 x)), .a (.c (.int .i64 y))] => some ((-1000000 ≤ x ∧ x ≤ 1000000) ∧ -1000000 ≤ y ∧ y ≤ 1000000, .a (.c (.int .i64 (x + 12 * y))))
  | _ => none
theorem e_cnI : EntryOk Try.prog TT 31 gCnI := by
  refine ⟨fnOk Try.func31 (by kernel_rfl) rfl, ?_⟩
  intro args H p r he hp n0 w0 β w vals hG hH hA
  unfold gCnI at he
  split at he
  · simp only [Option.some.injEq, Prod.mk.injEq] at he
    obtain ⟨rfl, rfl⟩ := he
    exact entry_bare tt_ok (inlN_ok tt_ok C0_ok mixed (ILz_ok).ok 4) C0_ok mixed Try.func31 (x_cnI _ _ hp) rfl rfl hG hH hA
  · simp at he

def tabIv : List Int := [7, 1, 0, 3, -1, 1, 5, 0, 1, 1, 1, 1]
set_option maxRecDepth 100000 in
theorem x_shareT : Fex true TT (inlN true TT C0 (lookI ILz) 4) C0 U0 Try.f29 [] [] (fun lv _ => leL lv (.a (.agg [.run [.i64, .i64, .i64] 12 tabIv]))) := by
  refine Go.Sx.by_eq (q := True ∧ True ∧ True ∧ True ∧ True ∧ True ∧ True ∧ ([EK.i64, EK.i64, EK.i64] = [EK.i64, EK.i64, EK.i64] ∧ (12 : Nat) = (12 : Nat) ∧ List.take ((3 : Nat) * (3 : Nat)) (List.take ((2 : Nat) * (3 : Nat)) (List.take ((1 : Nat) * (3 : Nat)) (List.take ((0 : Nat) * (3 : Nat)) (List.replicate (12 : Nat) (0 : Int)) ++ [(7 : Int), (1 : Int), (0 : Int)] ++ List.drop ((0 : Nat) * (3 : Nat) + List.length [(7 : Int), (1 : Int), (0 : Int)]) (List.replicate (12 : Nat) (0 : Int))) ++ [(3 : Int), (-1 : Int), (1 : Int)] ++ List.drop ((1 : Nat) * (3 : Nat) + List.length [(3 : Int), (-1 : Int), (1 : Int)]) (List.take ((0 : Nat) * (3 : Nat)) (List.replicate (12 : Nat) (0 : Int)) ++ [(7 : Int), (1 : Int), (0 : Int)] ++ List.drop ((0 : Nat) * (3 : Nat) + List.length [(7 : Int), (1 : Int), (0 : Int)]) (List.replicate (12 : Nat) (0 : Int)))) ++ [(5 : Int), (0 : Int), (1 : Int)] ++ List.drop ((2 : Nat) * (3 : Nat) + List.length [(5 : Int), (0 : Int), (1 : Int)]) (List.take ((1 : Nat) * (3 : Nat)) (List.take ((0 : Nat) * (3 : Nat)) (List.replicate (12 : Nat) (0 : Int)) ++ [(7 : Int), (1 : Int), (0 : Int)] ++ List.drop ((0 : Nat) * (3 : Nat) + List.length [(7 : Int), (1 : Int), (0 : Int)]) (List.replicate (12 : Nat) (0 : Int))) ++ [(3 : Int), (-1 : Int), (1 : Int)] ++ List.drop ((1 : Nat) * (3 : Nat) + List.length [(3 : Int), (-1 : Int), (1 : Int)]) (List.take ((0 : Nat) * (3 : Nat)) (List.replicate (12 : Nat) (0 : Int)) ++ [(7 : Int), (1 : Int), (0 : Int)] ++ List.drop ((0 : Nat) * (3 : Nat) + List.length [(7 : Int), (1 : Int), (0 : Int)]) (List.replicate (12 : Nat) (0 : Int))))) ++ [(1 : Int), (1 : Int), (1 : Int)] ++ List.drop ((3 : Nat) * (3 : Nat) + List.length [(1 : Int), (1 : Int), (1 : Int)]) (List.take ((2 : Nat) * (3 : Nat)) (List.take ((1 : Nat) * (3 : Nat)) (List.take ((0 : Nat) * (3 : Nat)) (List.replicate (12 : Nat) (0 : Int)) ++ [(7 : Int), (1 : Int), (0 : Int)] ++ List.drop ((0 : Nat) * (3 : Nat) + List.length [(7 : Int), (1 : Int), (0 : Int)]) (List.replicate (12 : Nat) (0 : Int))) ++ [(3 : Int), (-1 : Int), (1 : Int)] ++ List.drop ((1 : Nat) * (3 : Nat) + List.length [(3 : Int), (-1 : Int), (1 : Int)]) (List.take ((0 : Nat) * (3 : Nat)) (List.replicate (12 : Nat) (0 : Int)) ++ [(7 : Int), (1 : Int), (0 : Int)] ++ List.drop ((0 : Nat) * (3 : Nat) + List.length [(7 : Int), (1 : Int), (0 : Int)]) (List.replicate (12 : Nat) (0 : Int)))) ++ [(5 : Int), (0 : Int), (1 : Int)] ++ List.drop ((2 : Nat) * (3 : Nat) + List.length [(5 : Int), (0 : Int), (1 : Int)]) (List.take ((1 : Nat) * (3 : Nat)) (List.take ((0 : Nat) * (3 : Nat)) (List.replicate (12 : Nat) (0 : Int)) ++ [(7 : Int), (1 : Int), (0 : Int)] ++ List.drop ((0 : Nat) * (3 : Nat) + List.length [(7 : Int), (1 : Int), (0 : Int)]) (List.replicate (12 : Nat) (0 : Int))) ++ [(3 : Int), (-1 : Int), (1 : Int)] ++ List.drop ((1 : Nat) * (3 : Nat) + List.length [(3 : Int), (-1 : Int), (1 : Int)]) (List.take ((0 : Nat) * (3 : Nat)) (List.replicate (12 : Nat) (0 : Int)) ++ [(7 : Int), (1 : Int), (0 : Int)] ++ List.drop ((0 : Nat) * (3 : Nat) + List.length [(7 : Int), (1 : Int), (0 : Int)]) (List.replicate (12 : Nat) (0 : Int))))) = tabIv) ∧ True) (by kernel_rfl) ?_
  simp only [true_and, and_true, and_self, decide_eq_true_eq, decide_eq_false_iff_not, Bool.not_eq_true', Bool.not_eq_false', Bool.not_true, Bool.not_false, beq_iff_eq, beq_eq_false_iff_ne, bne_iff_ne, bne_eq_false_iff_eq, ne_eq, not_true_eq_false, not_false_eq_true, false_implies, true_implies, implies_true, forall_const, exists_const, ↓reduceIte, Int.reduceEq, Int.toNat_natCast, Bool.false_eq_true, Bool.true_eq_false, reduceCtorEq]
  rfl
def gShT : Entry := fun args _ => match args with
  | [] => some (True, .a (.agg [.run [.i64, .i64, .i64] 12 tabIv]))
  | _ => none
theorem e_shareT : EntryOk Try.prog TT 29 gShT := by
  refine ⟨fnOk Try.func29 (by kernel_rfl) rfl, ?_⟩
  intro args H p r he hp n0 w0 β w vals hG hH hA
  unfold gShT at he
  split at he
  · simp only [Option.some.injEq, Prod.mk.injEq] at he
    obtain ⟨rfl, rfl⟩ := he
    exact entry_bare tt_ok (inlN_ok tt_ok C0_ok mixed (ILz_ok).ok 4) C0_ok mixed Try.func29 (x_shareT) rfl rfl hG hH hA
  · simp at he

noncomputable def ILce  : List (FuncId × Func × (Nat → LM)) := [
  (16, Try.f16, U0)]
theorem ILce_ok  : InlsOk Try.prog ILce := ⟨⟨Try.func16, by kernel_rfl⟩, trivial⟩
theorem x_l02CellS (w h : Int) (l : List Int) (r : RgI w h l) (c : Int) (h0 : 0 ≤ c ∧ c ≤ 143) : Fex true TT (inlN true TT C0 (lookI ILce) 4) C0 U0 Try.f12 [.a (.c (.ptr 0 0)), .a (.c (.int .i64 c))] [.cells false 37 (imgB w h l)] (fun lv _ => leL lv (.a (.c (.bool (isB w h c.toNat))))) := by
  refine Go.Sx.by_eq (q := True ∧ True ∧ True ∧ True ∧ True ∧ True ∧ True ∧ (Decidable.decide ((0 : Int) ≤ c) = Bool.true → True ∧ True ∧ True ∧ True ∧ True ∧ True ∧ (Decidable.decide (c ≤ (143 : Int)) = Bool.true → True ∧ (12 : Int) ≠ (0 : Int) ∧ True ∧ True ∧ True ∧ True ∧ ((-9223372036854775808 : Int) ≤ w ∧ w ≤ (9223372036854775807 : Int)) ∧ True ∧ True ∧ True ∧ (Decidable.decide (Int.tmod c (12 : Int) < w) = Bool.true → True ∧ ((12 : Int) ≠ (0 : Int) ∧ (-9223372036854775808 : Int) ≤ Int.tdiv c (12 : Int) ∧ Int.tdiv c (12 : Int) ≤ (9223372036854775807 : Int)) ∧ True ∧ True ∧ True ∧ True ∧ ((-9223372036854775808 : Int) ≤ h ∧ h ≤ (9223372036854775807 : Int)) ∧ True ∧ True ∧ True ∧ Decidable.decide (Int.tdiv c (12 : Int) < h) = isB w h (Int.toNat c)) ∧ (Decidable.decide (Int.tmod c (12 : Int) < w) = !Bool.true → True ∧ True ∧ isB w h (Int.toNat c) = Bool.false)) ∧ (Decidable.decide (c ≤ (143 : Int)) = !Bool.true → True ∧ True ∧ True ∧ True ∧ isB w h (Int.toNat c) = Bool.false)) ∧ (Decidable.decide ((0 : Int) ≤ c) = !Bool.true → True ∧ True ∧ True ∧ True ∧ True ∧ True ∧ True ∧ isB w h (Int.toNat c) = Bool.false)) (by kernel_rfl) ?_
  obtain ⟨k, rfl⟩ := Int.eq_ofNat_of_zero_le h0.1
  have e3 : (k : Int).tmod 12 = ((k % 12 : Nat) : Int) := rfl
  have e4 : (k : Int).tdiv 12 = ((k / 12 : Nat) : Int) := rfl
  have rw1 := r.w1; have rw2 := r.w2; have rh1 := r.h1; have rh2 := r.h2
  have yes : ((k % 12 : Nat) : Int) < w → ((k / 12 : Nat) : Int) < h → isB w h k = true := fun a b => isB_t.2 ⟨a, b⟩
  have no1 : ¬ ((k % 12 : Nat) : Int) < w → isB w h k = false := fun a => isB_f.2 (by omega)
  have no2 : ¬ ((k / 12 : Nat) : Int) < h → isB w h k = false := fun a => isB_f.2 (by omega)
  simp only [true_and, and_true, and_self, decide_eq_true_eq, decide_eq_false_iff_not, Bool.not_eq_true', Bool.not_eq_false', Bool.not_true, Bool.not_false, beq_iff_eq, beq_eq_false_iff_ne, bne_iff_ne, bne_eq_false_iff_eq, ne_eq, not_true_eq_false, not_false_eq_true, false_implies, true_implies, implies_true, forall_const, exists_const, ↓reduceIte, Int.reduceEq, Int.toNat_natCast, Bool.false_eq_true, Bool.true_eq_false, reduceCtorEq, Int.ofNat_eq_natCast]
  simp only [e3, e4]
  by_cases c1 : ((k % 12 : Nat) : Int) < w <;> by_cases c2 : ((k / 12 : Nat) : Int) < h <;> simp_all <;> omega
def gCeS : Entry := fun args H => match args with
  | [.a (.c (.ptr id 0)), .a (.c (.int .i64 c))] => match getB H id with
    | .cells _ 37 [.int .i8 w, .int .i8 h, .run [.u8] 432 l] => some (RgI w h l ∧ 0 ≤ c ∧ c ≤ 143, .a (.c (.bool (isB w h c.toNat))))
    | _ => none
  | _ => none
theorem e_l02CellS : EntryOk Try.prog TT 12 gCeS := by
  refine ⟨fnOk Try.func12 (by kernel_rfl) rfl, ?_⟩
  intro args H p r he hp n0 w0 β w vals hG hH hA
  unfold gCeS at he
  split at he
  · rename_i id c
    split at he
    · rename_i own wd hg l hb
      simp only [Option.some.injEq, Prod.mk.injEq] at he
      obtain ⟨rfl, rfl⟩ := he
      exact entry_ptr tt_ok (inlN_ok tt_ok C0_ok mixed ILce_ok.ok 4) C0_ok mixed Try.func12 (x_l02CellS wd hg l hp.1 c hp.2) rfl rfl rfl hG hH hb hA
    · simp at he
  · simp at he
noncomputable def Esp : List (FuncId × Entry) := (12, gCeS) :: (29, gShT) :: (31, gCnI) :: (16, gIn) :: (23, gVals) :: (27, gMinusW) :: (26, gLtn) :: (13, gMx) :: (14, gMn) :: (17, gDwn) :: Ei3
theorem Esp_ok : EntriesOk Try.prog TT Esp := ⟨e_l02CellS, e_shareT, e_cnI, e_l00InS, e_values, e_minusW, e_lTone, e_l00MaxS, e_l00MinS, e_l02Down, Ei3_ok⟩
noncomputable abbrev Csp : Ctr := ctrOfM Esp Mp3
theorem Csp_ok : CtrOk Try.prog TT Csp := ctrOfM_ok Esp_ok Mp3_ok

/-- What the table of the shares tells. -/
theorem tabX {w h : Int} {k N : Nat} (hk : k < 144) (hw : w ≤ 12) (hh : h ≤ 12) (hN : N < 4) (X Y P : Int) (hX : X = [((k % 12 : Nat) : Int) + 1, ((k / 12 : Nat) : Int), 7, ((k % 12 : Nat) : Int) - 1, ((k / 12 : Nat) : Int) + 1, 3, ((k % 12 : Nat) : Int), ((k / 12 : Nat) : Int) + 1, 5, ((k % 12 : Nat) : Int) + 1, ((k / 12 : Nat) : Int) + 1, 1].getD (N * 3) 0) (hY : Y = [((k % 12 : Nat) : Int) + 1, ((k / 12 : Nat) : Int), 7, ((k % 12 : Nat) : Int) - 1, ((k / 12 : Nat) : Int) + 1, 3, ((k % 12 : Nat) : Int), ((k / 12 : Nat) : Int) + 1, 5, ((k % 12 : Nat) : Int) + 1, ((k / 12 : Nat) : Int) + 1, 1].getD (N * 3 + 1) 0) (hP : P = [((k % 12 : Nat) : Int) + 1, ((k / 12 : Nat) : Int), 7, ((k % 12 : Nat) : Int) - 1, ((k / 12 : Nat) : Int) + 1, 3, ((k % 12 : Nat) : Int), ((k / 12 : Nat) : Int) + 1, 5, ((k % 12 : Nat) : Int) + 1, ((k / 12 : Nat) : Int) + 1, 1].getD (N * 3 + 2) 0) (hb : isB w h k = true) :
    P = shP N ∧ ((0 ≤ X ∧ X ≤ w - 1) ∧ Y < h ↔ shI w h k N = true) ∧ (-20 ≤ X ∧ X ≤ 20) ∧ (0 ≤ Y ∧ Y ≤ 20) ∧ (shI w h k N = true → X + 12 * Y = ((shT k N : Nat) : Int) ∧ shT k N < 144) := by
  have hb := isB_t.1 hb
  rcases (show N = 0 ∨ N = 1 ∨ N = 2 ∨ N = 3 by omega) with rfl | rfl | rfl | rfl <;> simp only [Nat.zero_mul, Nat.one_mul, Nat.reduceMul, Nat.reduceAdd, Nat.zero_add, List.getD_cons_zero, List.getD_cons_succ] at hX hY hP <;> subst hX hY hP <;> simp only [shP, shI, shT, Bool.and_eq_true, decide_eq_true_eq] <;> refine ⟨by trivial, ?_, ?_, ?_, ?_⟩ <;> omega

end Go.Proofs.Ytaaohciojedncaa
