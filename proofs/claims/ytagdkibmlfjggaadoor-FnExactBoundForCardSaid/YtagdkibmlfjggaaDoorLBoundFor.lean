/- The law of BoundFor: the result is always true. No conditions beyond the ranges of the kinds. -/
import Derived.Test.YtagdkibmlfjggaaDoorJc1
import Derived.Test.YtagdkibmlfjggaaDoorJm
set_option linter.unusedSimpArgs false
set_option linter.unusedVariables false
namespace Go.Proofs.YtagdkibmlfjggaaDoor
open Go.Sx Go.RowKit

noncomputable def Ev : List (FuncId × Entry) := (33, gBo) :: (34, gBo) :: Em1
theorem Ev_ok : EntriesOk Tryd.prog TT Ev := ⟨e_BoundForS, e_BoundForI, Em1_ok⟩
noncomputable abbrev Cj_BoundFor : Ctr := ctrOfM Ev Mm1
theorem Cj_BoundFor_ok : CtrOk Tryd.prog TT Cj_BoundFor := ctrOfM_ok Ev_ok Mm1_ok
noncomputable def ILml  : List (FuncId × Func × (Nat → LM)) := [
  ]
theorem ILml_ok  : InlsOk Tryd.prog ILml := trivial

theorem law_BoundFor (b1 n1 : Nat) (l1 : List Int) (len1 cap1 : Int) (ws1 : WS [.i8, .u16] 2 n1 l1 len1 cap1) (x2 : Int) (hx2 : -9223372036854775808 ≤ x2 ∧ x2 ≤ 9223372036854775807) :
    Fex true TT (inlN true TT Cj_BoundFor (lookI ILml) 3) Cj_BoundFor U0 Tryd.f8 [.a (.c (.slc 0 b1 0 2 len1 cap1)), .a (.c (.int .i64 x2))] [.wnd b1 [.i8, .u16] n1 l1] (fun lv _ => leL lv (.a (.c .tt))) := by
  have jw := ws_jw ws1
  obtain ⟨h1, h2, hcap, h3, h4, _⟩ := ws1
  obtain ⟨len1, rfl⟩ := Int.eq_ofNat_of_zero_le h1
  refine Go.Sx.by_eq (q := True ∧ True ∧ True ∧ True ∧ ((0 : Int) ≤ (↑len1 : Int) ∧ (↑len1 : Int) ≤ (9223372036854775807 : Int) ∧ (0 : Int) ≤ (1048576 : Int) ∧ (1048576 : Int) ≤ (1048576 : Int)) ∧ True ∧ True ∧ True ∧ (Decidable.decide (szF (1048576 : Int) (↑len1 : Int) < (0 : Int)) = Bool.true → True ∧ True) ∧ (Decidable.decide (szF (1048576 : Int) (↑len1 : Int) < (0 : Int)) = Bool.false → True ∧ (b1 = b1 ∧ (0 : Int) = (0 : Int) ∧ (2 : Nat) = (2 : Nat) ∧ [Go.Sx.EK.i8, Go.Sx.EK.u16] = [Go.Sx.EK.i8, Go.Sx.EK.u16] ∧ List.length l1 = n1 ∧ (0 : Int) ≤ (↑len1 : Int) ∧ (↑len1 : Int) ≤ (1048576 : Int) ∧ Int.toNat (↑len1 : Int) * (2 : Nat) ≤ n1) ∧ True ∧ (((64 : Nat) = (64 : Nat) ∧ (0 : Nat) = (0 : Nat) ∧ (0 : Int) = (0 : Int) ∧ (2 : Nat) = (2 : Nat) ∧ [Go.Sx.EK.i8, Go.Sx.EK.u16] = [Go.Sx.EK.i8, Go.Sx.EK.u16]) ∧ (0 : Int) ≤ (↑len1 : Int) ∧ Jx (Int.toNat (↑len1 : Int)) (Int.toNat (↑len1 : Int) * (2 : Nat)) (List.take (Int.toNat (↑len1 : Int) * (2 : Nat)) l1)) ∧ True ∧ True ∧ True ∧ True ∧ True ∧ True ∧ (b1 = b1 ∧ (0 : Int) = (0 : Int) ∧ (2 : Nat) = (2 : Nat) ∧ [Go.Sx.EK.i8, Go.Sx.EK.u16] = [Go.Sx.EK.i8, Go.Sx.EK.u16] ∧ List.length l1 = n1 ∧ (0 : Int) ≤ (↑len1 : Int) ∧ (↑len1 : Int) ≤ (1048576 : Int) ∧ Int.toNat (↑len1 : Int) * (2 : Nat) ≤ n1) ∧ True ∧ True ∧ True ∧ (((64 : Nat) = (64 : Nat) ∧ (0 : Nat) = (0 : Nat) ∧ (0 : Int) = (0 : Int) ∧ (2 : Nat) = (2 : Nat) ∧ [Go.Sx.EK.i8, Go.Sx.EK.u16] = [Go.Sx.EK.i8, Go.Sx.EK.u16]) ∧ (0 : Int) ≤ (↑len1 : Int) ∧ Jx (Int.toNat (↑len1 : Int)) (Int.toNat (↑len1 : Int) * (2 : Nat)) (List.take (Int.toNat (↑len1 : Int) * (2 : Nat)) l1)) ∧ True ∧ True ∧ True ∧ True ∧ True ∧ True ∧ True ∧ True ∧ True ∧ ((boM (Int.toNat (↑len1 : Int)) (List.take (Int.toNat (↑len1 : Int) * (2 : Nat)) l1) x2 != boM (Int.toNat (↑len1 : Int)) (List.take (Int.toNat (↑len1 : Int) * (2 : Nat)) l1) x2) = Bool.false → True ∧ True ∧ True ∧ True ∧ ((akE (Int.toNat (↑len1 : Int)) (List.take (Int.toNat (↑len1 : Int) * (2 : Nat)) l1) x2 != akE (Int.toNat (↑len1 : Int)) (List.take (Int.toNat (↑len1 : Int) * (2 : Nat)) l1) x2) = Bool.true → True ∧ Go.Sx.Cel.ff = Go.Sx.Cel.tt) ∧ ((akE (Int.toNat (↑len1 : Int)) (List.take (Int.toNat (↑len1 : Int) * (2 : Nat)) l1) x2 != akE (Int.toNat (↑len1 : Int)) (List.take (Int.toNat (↑len1 : Int) * (2 : Nat)) l1) x2) = Bool.false → True ∧ True ∧ (b1 = b1 ∧ (0 : Int) = (0 : Int) ∧ (2 : Nat) = (2 : Nat) ∧ [Go.Sx.EK.i8, Go.Sx.EK.u16] = [Go.Sx.EK.i8, Go.Sx.EK.u16] ∧ List.length l1 = n1 ∧ (0 : Int) ≤ (↑len1 : Int) ∧ (↑len1 : Int) ≤ (1048576 : Int) ∧ Int.toNat (↑len1 : Int) * (2 : Nat) ≤ n1) ∧ (((64 : Nat) = (64 : Nat) ∧ (64 : Nat) = (64 : Nat) ∧ (0 : Nat) = (0 : Nat) ∧ (0 : Nat) = (0 : Nat) ∧ (0 : Int) = (0 : Int) ∧ (0 : Int) = (0 : Int) ∧ (2 : Nat) = (2 : Nat) ∧ (2 : Nat) = (2 : Nat) ∧ [Go.Sx.EK.i8, Go.Sx.EK.u16] = [Go.Sx.EK.i8, Go.Sx.EK.u16] ∧ [Go.Sx.EK.i8, Go.Sx.EK.u16] = [Go.Sx.EK.i8, Go.Sx.EK.u16]) ∧ (0 : Int) ≤ (↑len1 : Int) ∧ (↑len1 : Int) ≤ (1048576 : Int) ∧ (0 : Int) ≤ (↑len1 : Int) ∧ Int.toNat (↑len1 : Int) * (2 : Nat) ≤ Int.toNat (↑len1 : Int) * (2 : Nat) ∧ Int.toNat (↑len1 : Int) * (2 : Nat) ≤ Int.toNat (↑len1 : Int) * (2 : Nat) ∧ List.length (List.take (Int.toNat (↑len1 : Int) * (2 : Nat)) l1) = Int.toNat (↑len1 : Int) * (2 : Nat) ∧ List.length (List.take (Int.toNat (↑len1 : Int) * (2 : Nat)) l1) = Int.toNat (↑len1 : Int) * (2 : Nat)) ∧ True ∧ ((!eqSl (2 : Nat) (↑len1 : Int) (↑len1 : Int) (List.take (Int.toNat (↑len1 : Int) * (2 : Nat)) l1) (List.take (Int.toNat (↑len1 : Int) * (2 : Nat)) l1)) = Bool.true → True ∧ Go.Sx.Cel.ff = Go.Sx.Cel.tt) ∧ ((!eqSl (2 : Nat) (↑len1 : Int) (↑len1 : Int) (List.take (Int.toNat (↑len1 : Int) * (2 : Nat)) l1) (List.take (Int.toNat (↑len1 : Int) * (2 : Nat)) l1)) = Bool.false → True ∧ True))) ∧ ((boM (Int.toNat (↑len1 : Int)) (List.take (Int.toNat (↑len1 : Int) * (2 : Nat)) l1) x2 != boM (Int.toNat (↑len1 : Int)) (List.take (Int.toNat (↑len1 : Int) * (2 : Nat)) l1) x2) = !Bool.false → True ∧ True ∧ Go.Sx.Cel.ff = Go.Sx.Cel.tt))) (by kernel_rfl) ?_
  rw [Int.toNat_natCast] at jw h3
  have t1 : (l1.take (len1 * 2)).length = len1 * 2 := take_len (by omega)
  simp only [true_and, and_true, and_self, decide_eq_true_eq, decide_eq_false_iff_not, Bool.not_eq_true', Bool.not_eq_false', Bool.not_true, Bool.not_false, beq_iff_eq, beq_eq_false_iff_ne, bne_iff_ne, bne_eq_false_iff_eq, ne_eq, not_true_eq_false, not_false_eq_true, false_implies, true_implies, implies_true, forall_const, exists_const, ↓reduceIte, Int.reduceEq, Int.toNat_natCast, Bool.false_eq_true, Bool.true_eq_false, reduceCtorEq, eqSl_self, beq_self_eq_true, Int.zero_add, Nat.add_zero, Int.toNat_natCast, Int.ofNat_eq_natCast, Nat.mul_one]
  refine ⟨by omega, fun hs => ?_⟩
  have hs' := szF_pos hs
  have jx : Jx len1 (len1 * 2) (List.take (len1 * 2) l1) := ⟨by omega, Nat.le_refl _, t1, ⟨jw.1, jw.2⟩⟩
  have b0 : (l1.length = n1 ∧ 0 ≤ (len1 : Int) ∧ (len1 : Int) ≤ 1048576 ∧ len1 * 2 ≤ n1) := ⟨h4, by omega, by omega, h3⟩
  exact ⟨b0, ⟨by omega, jx⟩, b0, ⟨by omega, jx⟩, b0, by omega, by omega, by omega, Nat.le_refl _, Nat.le_refl _, t1⟩

end Go.Proofs.YtagdkibmlfjggaaDoor
