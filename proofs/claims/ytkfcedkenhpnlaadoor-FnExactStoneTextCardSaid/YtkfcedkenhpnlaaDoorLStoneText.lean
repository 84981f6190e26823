/- The law of StoneText: the result is always true. No conditions beyond the ranges of the kinds. -/
import Derived.Test.YtkfcedkenhpnlaaDoorSttx
set_option linter.unusedSimpArgs false
set_option linter.unusedVariables false
namespace Go.Proofs.YtkfcedkenhpnlaaDoor
open Go.Sx Go.RowKit

variable {e : Nat → Value}

theorem ws_wfl {n : Nat} {l : List Int} {len cap : Int} (ws : WS [.i16] 2 n l len cap) : wfl (len.toNat * 2) (l.take (len.toNat * 2)) := by
  intro i hi
  rw [getD_take' hi]
  have h := ws.wf i (by have := ws.hn; omega)
  simp only [List.length_cons, List.length_nil, Nat.zero_add, Nat.mod_one, List.getD_cons_zero] at h
  simpa [Lit.wf, IntKind.min, IntKind.max, IntKind.signed, IntKind.bits] using h

theorem law_StoneText (b1 n1 : Nat) (l1 : List Int) (len1 cap1 : Int) (ws1 : WS [.i16] 2 n1 l1 len1 cap1) :
    Fex true (TT e) (inlN true (TT e) Cst2 (lookI ILse) 3) Cst2 U0 Tryd.f3 [.a (.c (.slc 0 b1 0 2 len1 cap1))] [.wnd b1 [.i16] n1 l1] (fun lv _ => leL lv (.a (.c .tt))) := by
  have hw := ws_wfl ws1
  obtain ⟨h1, h2, _, h3, h4, _⟩ := ws1
  refine Go.Sx.by_eq (q := True ∧ True ∧ True ∧ True ∧ ((0 : Int) ≤ len1 ∧ len1 ≤ (9223372036854775807 : Int) ∧ (0 : Int) ≤ (1048576 : Int) ∧ (1048576 : Int) ≤ (1048576 : Int)) ∧ True ∧ True ∧ True ∧ (Decidable.decide (szF (1048576 : Int) len1 < (0 : Int)) = Bool.true → True ∧ True) ∧ (Decidable.decide (szF (1048576 : Int) len1 < (0 : Int)) = Bool.false → True ∧ (b1 = b1 ∧ (0 : Int) = (0 : Int) ∧ (2 : Nat) = (2 : Nat) ∧ [Go.Sx.EK.i16] = [Go.Sx.EK.i16] ∧ List.length l1 = n1 ∧ (0 : Int) ≤ len1 ∧ len1 ≤ (1048576 : Int) ∧ Int.toNat len1 * (2 : Nat) ≤ n1) ∧ ((0 : Nat) = (0 : Nat) ∧ (0 : Int) = (0 : Int) ∧ (2 : Nat) = (2 : Nat) ∧ [Go.Sx.EK.i16] = [Go.Sx.EK.i16] ∧ (0 : Int) ≤ len1 ∧ len1 ≤ (1048576 : Int) ∧ Int.toNat len1 * (2 : Nat) ≤ Int.toNat len1 * (2 : Nat) ∧ List.length (List.take (Int.toNat len1 * (2 : Nat)) l1) = Int.toNat len1 * (2 : Nat) ∧ ∀ (i : Nat), i < Int.toNat len1 * (2 : Nat) → (-32768 : Int) ≤ List.getD (List.take (Int.toNat len1 * (2 : Nat)) l1) i (0 : Int) ∧ List.getD (List.take (Int.toNat len1 * (2 : Nat)) l1) i (0 : Int) ≤ (32767 : Int)) ∧ True ∧ True ∧ (b1 = b1 ∧ (0 : Int) = (0 : Int) ∧ (2 : Nat) = (2 : Nat) ∧ [Go.Sx.EK.i16] = [Go.Sx.EK.i16] ∧ List.length l1 = n1 ∧ (0 : Int) ≤ len1 ∧ len1 ≤ (1048576 : Int) ∧ Int.toNat len1 * (2 : Nat) ≤ n1) ∧ True ∧ True ∧ ((0 : Nat) = (0 : Nat) ∧ (0 : Int) = (0 : Int) ∧ (2 : Nat) = (2 : Nat) ∧ [Go.Sx.EK.i16] = [Go.Sx.EK.i16] ∧ (0 : Int) ≤ len1 ∧ len1 ≤ (1048576 : Int) ∧ Int.toNat len1 * (2 : Nat) ≤ Int.toNat len1 * (2 : Nat) ∧ List.length (List.take (Int.toNat len1 * (2 : Nat)) l1) = Int.toNat len1 * (2 : Nat) ∧ ∀ (i : Nat), i < Int.toNat len1 * (2 : Nat) → (-32768 : Int) ≤ List.getD (List.take (Int.toNat len1 * (2 : Nat)) l1) i (0 : Int) ∧ List.getD (List.take (Int.toNat len1 * (2 : Nat)) l1) i (0 : Int) ≤ (32767 : Int)) ∧ True ∧ True ∧ True ∧ True ∧ ((!ByteArray.toList (stxS (Int.toNat len1) (List.take (Int.toNat len1 * (2 : Nat)) l1)) == ByteArray.toList (stxS (Int.toNat len1) (List.take (Int.toNat len1 * (2 : Nat)) l1))) = Bool.true → True ∧ Go.Sx.Cel.ff = Go.Sx.Cel.tt) ∧ ((!ByteArray.toList (stxS (Int.toNat len1) (List.take (Int.toNat len1 * (2 : Nat)) l1)) == ByteArray.toList (stxS (Int.toNat len1) (List.take (Int.toNat len1 * (2 : Nat)) l1))) = Bool.false → True ∧ True ∧ (b1 = b1 ∧ (0 : Int) = (0 : Int) ∧ (2 : Nat) = (2 : Nat) ∧ [Go.Sx.EK.i16] = [Go.Sx.EK.i16] ∧ List.length l1 = n1 ∧ (0 : Int) ≤ len1 ∧ len1 ≤ (1048576 : Int) ∧ Int.toNat len1 * (2 : Nat) ≤ n1) ∧ ((0 : Int) = (0 : Int) ∧ (0 : Int) = (0 : Int) ∧ (0 : Int) ≤ len1 ∧ len1 ≤ (1048576 : Int) ∧ (0 : Int) ≤ len1 ∧ Int.toNat len1 * (2 : Nat) ≤ Int.toNat len1 * (2 : Nat) ∧ Int.toNat len1 * (2 : Nat) ≤ Int.toNat len1 * (2 : Nat) ∧ List.length (List.take (Int.toNat len1 * (2 : Nat)) l1) = Int.toNat len1 * (2 : Nat) ∧ List.length (List.take (Int.toNat len1 * (2 : Nat)) l1) = Int.toNat len1 * (2 : Nat)) ∧ True ∧ ((!eqSl (2 : Nat) len1 len1 (List.take (Int.toNat len1 * (2 : Nat)) l1) (List.take (Int.toNat len1 * (2 : Nat)) l1)) = Bool.true → True ∧ Go.Sx.Cel.ff = Go.Sx.Cel.tt) ∧ ((!eqSl (2 : Nat) len1 len1 (List.take (Int.toNat len1 * (2 : Nat)) l1) (List.take (Int.toNat len1 * (2 : Nat)) l1)) = Bool.false → True ∧ True)))) (by kernel_rfl) ?_
  have t1 : len1.toNat * 2 ≤ n1 → (l1.take (len1.toNat * 2)).length = len1.toNat * 2 := fun h => take_len (by omega)
  simp only [true_and, and_true, and_self, decide_eq_true_eq, decide_eq_false_iff_not, Bool.not_eq_true', Bool.not_eq_false', Bool.not_true, Bool.not_false, beq_iff_eq, beq_eq_false_iff_ne, bne_iff_ne, bne_eq_false_iff_eq, ne_eq, not_true_eq_false, not_false_eq_true, false_implies, true_implies, implies_true, forall_const, exists_const, ↓reduceIte, Int.reduceEq, Int.toNat_natCast, Bool.false_eq_true, Bool.true_eq_false, reduceCtorEq, eqSl_self, beq_self_eq_true]
  refine ⟨⟨by omega, by omega, by omega, by omega⟩, fun hs => ?_⟩
  obtain ⟨s1, s2⟩ := szF_pos hs
  have t2 := t1 h3
  have hw' := hw
  simp only [wfl] at hw'
  repeat' (first | trivial | omega | apply And.intro)
  all_goals first | exact t2 | exact hw'

end Go.Proofs.YtkfcedkenhpnlaaDoor
