/- The law of FirstWrongSlot: the result is always true. No conditions beyond the ranges of the kinds. -/
import Derived.Test.YtagdkibmlfjggaaDoorFws
import Derived.Test.YtagdkibmlfjggaaDoorJm
import Derived.Test.YtagdkibmlfjggaaDoorJms
set_option linter.unusedSimpArgs false
set_option linter.unusedVariables false
namespace Go.Proofs.YtagdkibmlfjggaaDoor
open Go.Sx Go.RowKit

theorem ws_sw {n : Nat} {l : List Int} {len cap : Int} (ws : WS [.i8, .i16] 2 n l len cap) : SW len.toNat (l.take (len.toNat * 2)) := by
  have hn := ws.hn
  constructor
  · intro k hk
    unfold hd
    rw [getD_take' (by omega)]
    have h := ws.wf (k * 2) (by omega)
    generalize l.getD (k * 2) 0 = v at *
    have e : k * 2 % 2 = 0 := by omega
    simp [e, Lit.wf, IntKind.min, IntKind.max, IntKind.signed, IntKind.bits] at h
    omega
  · intro k hk
    unfold sg
    rw [getD_take' (by omega)]
    have h := ws.wf (k * 2 + 1) (by omega)
    generalize l.getD (k * 2 + 1) 0 = v at *
    have e : (k * 2 + 1) % 2 = 1 := by omega
    simp [e, Lit.wf, IntKind.min, IntKind.max, IntKind.signed, IntKind.bits] at h
    omega
noncomputable def Ev : List (FuncId × Entry) := (45, gJp fwP) :: (46, gJp fwP) :: (41, gSzR) :: (38, gEqR 89 2 [.i8, .i16]) :: Em1
theorem Ev_ok : EntriesOk Tryd.prog TT Ev := ⟨e_FirstWrongSlotS, e_FirstWrongSlotI, e_szSlotS, e_eqSlotS, Em1_ok⟩
noncomputable def Mv : List (FuncId × EntryC) := (43, gToR 89 2 [.i8, .i16]) :: Mm1
theorem Mv_ok : EntriesCOk Tryd.prog TT Mv := ⟨e_toSlotS, Mm1_ok⟩
noncomputable abbrev Cj_FirstWrongSlot : Ctr := ctrOfM Ev Mv
theorem Cj_FirstWrongSlot_ok : CtrOk Tryd.prog TT Cj_FirstWrongSlot := ctrOfM_ok Ev_ok Mv_ok
noncomputable def ILml  : List (FuncId × Func × (Nat → LM)) := [
  ]
theorem ILml_ok  : InlsOk Tryd.prog ILml := trivial

theorem law_FirstWrongSlot (b1 n1 : Nat) (l1 : List Int) (len1 cap1 : Int) (ws1 : WS [.i8, .u16] 2 n1 l1 len1 cap1) (x2 : Int) (hx2 : -9223372036854775808 ≤ x2 ∧ x2 ≤ 9223372036854775807) (b3 n3 : Nat) (l3 : List Int) (len3 cap3 : Int) (ws3 : WS [.i8, .i16] 2 n3 l3 len3 cap3) :
    Fex true TT (inlN true TT Cj_FirstWrongSlot (lookI ILml) 3) Cj_FirstWrongSlot U0 Tryd.f11 [.a (.c (.slc 0 b1 0 2 len1 cap1)), .a (.c (.int .i64 x2)), .a (.c (.slc 1 b3 0 2 len3 cap3))] [.wnd b1 [.i8, .u16] n1 l1, .wnd b3 [.i8, .i16] n3 l3] (fun lv _ => leL lv (.a (.c .tt))) := by
  have jw := ws_jw ws1
  have sw := ws_sw ws3
  obtain ⟨h1, h2, hcap, h3, h4, _⟩ := ws1
  obtain ⟨g1, g2, gcap, g3, g4, _⟩ := ws3
  obtain ⟨len1, rfl⟩ := Int.eq_ofNat_of_zero_le h1
  obtain ⟨len3, rfl⟩ := Int.eq_ofNat_of_zero_le g1
  refine Go.Sx.by_eq (q := True ∧ True ∧ True ∧ True ∧ ((0 : Int) ≤ (↑len1 : Int) ∧ (↑len1 : Int) ≤ (9223372036854775807 : Int) ∧ (0 : Int) ≤ (1048576 : Int) ∧ (1048576 : Int) ≤ (1048576 : Int)) ∧ True ∧ True ∧ True ∧ (Decidable.decide (szF (1048576 : Int) (↑len1 : Int) < (0 : Int)) = Bool.true → True ∧ True) ∧ (Decidable.decide (szF (1048576 : Int) (↑len1 : Int) < (0 : Int)) = Bool.false → True ∧ True ∧ ((0 : Int) ≤ (↑len3 : Int) ∧ (↑len3 : Int) ≤ (9223372036854775807 : Int) ∧ (0 : Int) ≤ szF (1048576 : Int) (↑len1 : Int) ∧ szF (1048576 : Int) (↑len1 : Int) ≤ (1048576 : Int)) ∧ True ∧ True ∧ True ∧ (Decidable.decide (szF (szF (1048576 : Int) (↑len1 : Int)) (↑len3 : Int) < (0 : Int)) = Bool.true → True ∧ True) ∧ (Decidable.decide (szF (szF (1048576 : Int) (↑len1 : Int)) (↑len3 : Int) < (0 : Int)) = Bool.false → True ∧ (b1 = b1 ∧ (0 : Int) = (0 : Int) ∧ (2 : Nat) = (2 : Nat) ∧ [Go.Sx.EK.i8, Go.Sx.EK.u16] = [Go.Sx.EK.i8, Go.Sx.EK.u16] ∧ List.length l1 = n1 ∧ (0 : Int) ≤ (↑len1 : Int) ∧ (↑len1 : Int) ≤ (1048576 : Int) ∧ Int.toNat (↑len1 : Int) * (2 : Nat) ≤ n1) ∧ True ∧ True ∧ (b3 = b3 ∧ (0 : Int) = (0 : Int) ∧ (2 : Nat) = (2 : Nat) ∧ [Go.Sx.EK.i8, Go.Sx.EK.i16] = [Go.Sx.EK.i8, Go.Sx.EK.i16] ∧ List.length l3 = n3 ∧ (0 : Int) ≤ (↑len3 : Int) ∧ (↑len3 : Int) ≤ (1048576 : Int) ∧ Int.toNat (↑len3 : Int) * (2 : Nat) ≤ n3) ∧ ((((64 : Nat) = (64 : Nat) ∧ (0 : Nat) = (0 : Nat) ∧ (0 : Int) = (0 : Int) ∧ (2 : Nat) = (2 : Nat) ∧ [Go.Sx.EK.i8, Go.Sx.EK.u16] = [Go.Sx.EK.i8, Go.Sx.EK.u16]) ∧ (89 : Nat) = (89 : Nat) ∧ (0 : Nat) = (0 : Nat) ∧ (0 : Int) = (0 : Int) ∧ (2 : Nat) = (2 : Nat) ∧ [Go.Sx.EK.i8, Go.Sx.EK.i16] = [Go.Sx.EK.i8, Go.Sx.EK.i16]) ∧ (0 : Int) ≤ (↑len1 : Int) ∧ Jx (Int.toNat (↑len1 : Int)) (Int.toNat (↑len1 : Int) * (2 : Nat)) (List.take (Int.toNat (↑len1 : Int) * (2 : Nat)) l1) ∧ (0 : Int) ≤ (↑len3 : Int) ∧ Pq (Int.toNat (↑len3 : Int)) (Int.toNat (↑len3 : Int) * (2 : Nat)) (List.take (Int.toNat (↑len3 : Int) * (2 : Nat)) l3)) ∧ True ∧ True ∧ True ∧ True ∧ True ∧ True ∧ (b1 = b1 ∧ (0 : Int) = (0 : Int) ∧ (2 : Nat) = (2 : Nat) ∧ [Go.Sx.EK.i8, Go.Sx.EK.u16] = [Go.Sx.EK.i8, Go.Sx.EK.u16] ∧ List.length l1 = n1 ∧ (0 : Int) ≤ (↑len1 : Int) ∧ (↑len1 : Int) ≤ (1048576 : Int) ∧ Int.toNat (↑len1 : Int) * (2 : Nat) ≤ n1) ∧ True ∧ True ∧ (b3 = b3 ∧ (0 : Int) = (0 : Int) ∧ (2 : Nat) = (2 : Nat) ∧ [Go.Sx.EK.i8, Go.Sx.EK.i16] = [Go.Sx.EK.i8, Go.Sx.EK.i16] ∧ List.length l3 = n3 ∧ (0 : Int) ≤ (↑len3 : Int) ∧ (↑len3 : Int) ≤ (1048576 : Int) ∧ Int.toNat (↑len3 : Int) * (2 : Nat) ≤ n3) ∧ True ∧ True ∧ True ∧ True ∧ ((((64 : Nat) = (64 : Nat) ∧ (0 : Nat) = (0 : Nat) ∧ (0 : Int) = (0 : Int) ∧ (2 : Nat) = (2 : Nat) ∧ [Go.Sx.EK.i8, Go.Sx.EK.u16] = [Go.Sx.EK.i8, Go.Sx.EK.u16]) ∧ (89 : Nat) = (89 : Nat) ∧ (0 : Nat) = (0 : Nat) ∧ (0 : Int) = (0 : Int) ∧ (2 : Nat) = (2 : Nat) ∧ [Go.Sx.EK.i8, Go.Sx.EK.i16] = [Go.Sx.EK.i8, Go.Sx.EK.i16]) ∧ (0 : Int) ≤ (↑len1 : Int) ∧ Jx (Int.toNat (↑len1 : Int)) (Int.toNat (↑len1 : Int) * (2 : Nat)) (List.take (Int.toNat (↑len1 : Int) * (2 : Nat)) l1) ∧ (0 : Int) ≤ (↑len3 : Int) ∧ Pq (Int.toNat (↑len3 : Int)) (Int.toNat (↑len3 : Int) * (2 : Nat)) (List.take (Int.toNat (↑len3 : Int) * (2 : Nat)) l3)) ∧ True ∧ True ∧ True ∧ True ∧ True ∧ True ∧ True ∧ True ∧ True ∧ ((fwV (Int.toNat (↑len1 : Int)) (List.take (Int.toNat (↑len1 : Int) * (2 : Nat)) l1) x2 (Int.toNat (↑len3 : Int)) (List.take (Int.toNat (↑len3 : Int) * (2 : Nat)) l3) != fwV (Int.toNat (↑len1 : Int)) (List.take (Int.toNat (↑len1 : Int) * (2 : Nat)) l1) x2 (Int.toNat (↑len3 : Int)) (List.take (Int.toNat (↑len3 : Int) * (2 : Nat)) l3)) = Bool.false → True ∧ True ∧ True ∧ True ∧ ((fwE (Int.toNat (↑len1 : Int)) (List.take (Int.toNat (↑len1 : Int) * (2 : Nat)) l1) x2 (Int.toNat (↑len3 : Int)) (List.take (Int.toNat (↑len3 : Int) * (2 : Nat)) l3) != fwE (Int.toNat (↑len1 : Int)) (List.take (Int.toNat (↑len1 : Int) * (2 : Nat)) l1) x2 (Int.toNat (↑len3 : Int)) (List.take (Int.toNat (↑len3 : Int) * (2 : Nat)) l3)) = Bool.true → True ∧ Go.Sx.Cel.ff = Go.Sx.Cel.tt) ∧ ((fwE (Int.toNat (↑len1 : Int)) (List.take (Int.toNat (↑len1 : Int) * (2 : Nat)) l1) x2 (Int.toNat (↑len3 : Int)) (List.take (Int.toNat (↑len3 : Int) * (2 : Nat)) l3) != fwE (Int.toNat (↑len1 : Int)) (List.take (Int.toNat (↑len1 : Int) * (2 : Nat)) l1) x2 (Int.toNat (↑len3 : Int)) (List.take (Int.toNat (↑len3 : Int) * (2 : Nat)) l3)) = Bool.false → True ∧ True ∧ (b1 = b1 ∧ (0 : Int) = (0 : Int) ∧ (2 : Nat) = (2 : Nat) ∧ [Go.Sx.EK.i8, Go.Sx.EK.u16] = [Go.Sx.EK.i8, Go.Sx.EK.u16] ∧ List.length l1 = n1 ∧ (0 : Int) ≤ (↑len1 : Int) ∧ (↑len1 : Int) ≤ (1048576 : Int) ∧ Int.toNat (↑len1 : Int) * (2 : Nat) ≤ n1) ∧ (((64 : Nat) = (64 : Nat) ∧ (64 : Nat) = (64 : Nat) ∧ (0 : Nat) = (0 : Nat) ∧ (0 : Nat) = (0 : Nat) ∧ (0 : Int) = (0 : Int) ∧ (0 : Int) = (0 : Int) ∧ (2 : Nat) = (2 : Nat) ∧ (2 : Nat) = (2 : Nat) ∧ [Go.Sx.EK.i8, Go.Sx.EK.u16] = [Go.Sx.EK.i8, Go.Sx.EK.u16] ∧ [Go.Sx.EK.i8, Go.Sx.EK.u16] = [Go.Sx.EK.i8, Go.Sx.EK.u16]) ∧ (0 : Int) ≤ (↑len1 : Int) ∧ (↑len1 : Int) ≤ (1048576 : Int) ∧ (0 : Int) ≤ (↑len1 : Int) ∧ Int.toNat (↑len1 : Int) * (2 : Nat) ≤ Int.toNat (↑len1 : Int) * (2 : Nat) ∧ Int.toNat (↑len1 : Int) * (2 : Nat) ≤ Int.toNat (↑len1 : Int) * (2 : Nat) ∧ List.length (List.take (Int.toNat (↑len1 : Int) * (2 : Nat)) l1) = Int.toNat (↑len1 : Int) * (2 : Nat) ∧ List.length (List.take (Int.toNat (↑len1 : Int) * (2 : Nat)) l1) = Int.toNat (↑len1 : Int) * (2 : Nat)) ∧ True ∧ ((!eqSl (2 : Nat) (↑len1 : Int) (↑len1 : Int) (List.take (Int.toNat (↑len1 : Int) * (2 : Nat)) l1) (List.take (Int.toNat (↑len1 : Int) * (2 : Nat)) l1)) = Bool.true → True ∧ Go.Sx.Cel.ff = Go.Sx.Cel.tt) ∧ ((!eqSl (2 : Nat) (↑len1 : Int) (↑len1 : Int) (List.take (Int.toNat (↑len1 : Int) * (2 : Nat)) l1) (List.take (Int.toNat (↑len1 : Int) * (2 : Nat)) l1)) = Bool.false → True ∧ True ∧ (b3 = b3 ∧ (0 : Int) = (0 : Int) ∧ (2 : Nat) = (2 : Nat) ∧ [Go.Sx.EK.i8, Go.Sx.EK.i16] = [Go.Sx.EK.i8, Go.Sx.EK.i16] ∧ List.length l3 = n3 ∧ (0 : Int) ≤ (↑len3 : Int) ∧ (↑len3 : Int) ≤ (1048576 : Int) ∧ Int.toNat (↑len3 : Int) * (2 : Nat) ≤ n3) ∧ (((89 : Nat) = (89 : Nat) ∧ (89 : Nat) = (89 : Nat) ∧ (0 : Nat) = (0 : Nat) ∧ (0 : Nat) = (0 : Nat) ∧ (0 : Int) = (0 : Int) ∧ (0 : Int) = (0 : Int) ∧ (2 : Nat) = (2 : Nat) ∧ (2 : Nat) = (2 : Nat) ∧ [Go.Sx.EK.i8, Go.Sx.EK.i16] = [Go.Sx.EK.i8, Go.Sx.EK.i16] ∧ [Go.Sx.EK.i8, Go.Sx.EK.i16] = [Go.Sx.EK.i8, Go.Sx.EK.i16]) ∧ (0 : Int) ≤ (↑len3 : Int) ∧ (↑len3 : Int) ≤ (1048576 : Int) ∧ (0 : Int) ≤ (↑len3 : Int) ∧ Int.toNat (↑len3 : Int) * (2 : Nat) ≤ Int.toNat (↑len3 : Int) * (2 : Nat) ∧ Int.toNat (↑len3 : Int) * (2 : Nat) ≤ Int.toNat (↑len3 : Int) * (2 : Nat) ∧ List.length (List.take (Int.toNat (↑len3 : Int) * (2 : Nat)) l3) = Int.toNat (↑len3 : Int) * (2 : Nat) ∧ List.length (List.take (Int.toNat (↑len3 : Int) * (2 : Nat)) l3) = Int.toNat (↑len3 : Int) * (2 : Nat)) ∧ True ∧ ((!eqSl (2 : Nat) (↑len3 : Int) (↑len3 : Int) (List.take (Int.toNat (↑len3 : Int) * (2 : Nat)) l3) (List.take (Int.toNat (↑len3 : Int) * (2 : Nat)) l3)) = Bool.true → True ∧ Go.Sx.Cel.ff = Go.Sx.Cel.tt) ∧ ((!eqSl (2 : Nat) (↑len3 : Int) (↑len3 : Int) (List.take (Int.toNat (↑len3 : Int) * (2 : Nat)) l3) (List.take (Int.toNat (↑len3 : Int) * (2 : Nat)) l3)) = Bool.false → True ∧ True)))) ∧ ((fwV (Int.toNat (↑len1 : Int)) (List.take (Int.toNat (↑len1 : Int) * (2 : Nat)) l1) x2 (Int.toNat (↑len3 : Int)) (List.take (Int.toNat (↑len3 : Int) * (2 : Nat)) l3) != fwV (Int.toNat (↑len1 : Int)) (List.take (Int.toNat (↑len1 : Int) * (2 : Nat)) l1) x2 (Int.toNat (↑len3 : Int)) (List.take (Int.toNat (↑len3 : Int) * (2 : Nat)) l3)) = !Bool.false → True ∧ True ∧ Go.Sx.Cel.ff = Go.Sx.Cel.tt)))) (by kernel_rfl) ?_
  rw [Int.toNat_natCast] at jw h3 sw g3
  have t1 : (l1.take (len1 * 2)).length = len1 * 2 := take_len (by omega)
  have t3 : (l3.take (len3 * 2)).length = len3 * 2 := take_len (by omega)
  simp only [true_and, and_true, and_self, decide_eq_true_eq, decide_eq_false_iff_not, Bool.not_eq_true', Bool.not_eq_false', Bool.not_true, Bool.not_false, beq_iff_eq, beq_eq_false_iff_ne, bne_iff_ne, bne_eq_false_iff_eq, ne_eq, not_true_eq_false, not_false_eq_true, false_implies, true_implies, implies_true, forall_const, exists_const, ↓reduceIte, Int.reduceEq, Int.toNat_natCast, Bool.false_eq_true, Bool.true_eq_false, reduceCtorEq, eqSl_self, beq_self_eq_true, Int.zero_add, Nat.add_zero, Int.toNat_natCast, Int.ofNat_eq_natCast, Nat.mul_one]
  refine ⟨by omega, fun hs => ?_⟩
  have hs' := szF_pos hs
  rw [hs'.1]
  refine ⟨by omega, fun hs2 => ?_⟩
  have hs2' := szF_pos hs2
  have jx : Jx len1 (len1 * 2) (List.take (len1 * 2) l1) := ⟨by omega, Nat.le_refl _, t1, ⟨jw.1, jw.2⟩⟩
  have px : Pq len3 (len3 * 2) (List.take (len3 * 2) l3) := ⟨Nat.le_refl _, t3, sw⟩
  have b0 : (l1.length = n1 ∧ 0 ≤ (len1 : Int) ∧ (len1 : Int) ≤ 1048576 ∧ len1 * 2 ≤ n1) := ⟨h4, by omega, by omega, h3⟩
  have b3 : (l3.length = n3 ∧ 0 ≤ (len3 : Int) ∧ (len3 : Int) ≤ 1048576 ∧ len3 * 2 ≤ n3) := ⟨g4, by omega, by omega, g3⟩
  exact ⟨b0, b3, ⟨by omega, jx, by omega, px⟩, b0, b3, ⟨by omega, jx, by omega, px⟩, b0, ⟨by omega, by omega, by omega, Nat.le_refl _, Nat.le_refl _, t1⟩, b3, by omega, by omega, by omega, Nat.le_refl _, Nat.le_refl _, t3⟩

end Go.Proofs.YtagdkibmlfjggaaDoor
