/- Images that are alike, for the laws. No conditions. -/
import Derived.Test.YtkajcofpdlicaaaImp
set_option linter.unusedSimpArgs false
set_option linter.unusedVariables false
namespace Go.Proofs.Ytkajcofpdlicaaa
open Go.Sx Go.RowKit

def lmTe : LAnn := { ι := Nat, inv := fun _ k => k ≤ 144, slots := fun _ k => [(5, .a (.c (.int .i64 k)))], blks := fun _ _ => [], μ := fun _ k => 144 - k }
set_option maxRecDepth 100000 in
theorem x_eqTones (l : List Int) (hl : l.length = 432) : Fex true TT (inlN true TT Csk0 (lookI ILz) 4) Csk0 (fun _ => .inv lmTe) Try.f99 [.a (.agg [.run [.u8] 432 l]), .a (.agg [.run [.u8] 432 l])] [] (fun lv _ => leL lv (.a (.c (.bool true)))) := by
  refine Go.Sx.by_eq (q := True ∧ True ∧ True ∧ True ∧ (∃ (x : Nat), x ≤ (144 : Nat) ∧ ((([Go.Sx.EK.u8] = [Go.Sx.EK.u8] ∧ (432 : Nat) = (432 : Nat) ∧ l = l) ∧ True) ∧ (([Go.Sx.EK.u8] = [Go.Sx.EK.u8] ∧ (432 : Nat) = (432 : Nat) ∧ l = l) ∧ True) ∧ Go.Sx.Cel.ptr (0 : Nat) (0 : Nat) = Go.Sx.Cel.ptr (0 : Nat) (0 : Nat) ∧ Go.Sx.Cel.ptr (1 : Nat) (0 : Nat) = Go.Sx.Cel.ptr (1 : Nat) (0 : Nat) ∧ True ∧ (Go.IntKind.i64 = Go.IntKind.i64 ∧ (0 : Int) = (↑x : Int)) ∧ True ∧ True ∧ True ∧ True ∧ True ∧ True ∧ True ∧ True ∧ True ∧ True ∧ True ∧ True ∧ True) ∧ (Bool.true = Bool.true ∧ (49 : Nat) = (49 : Nat) ∧ ([Go.Sx.EK.u8] = [Go.Sx.EK.u8] ∧ (432 : Nat) = (432 : Nat) ∧ l = l) ∧ True) ∧ (Bool.true = Bool.true ∧ (49 : Nat) = (49 : Nat) ∧ ([Go.Sx.EK.u8] = [Go.Sx.EK.u8] ∧ (432 : Nat) = (432 : Nat) ∧ l = l) ∧ True) ∧ True) ∧ ∀ (x : Nat), x ≤ (144 : Nat) → True ∧ True ∧ (Decidable.decide ((↑x : Int) < (144 : Int)) = Bool.true → True ∧ ((0 : Int) ≤ (↑x : Int) ∧ (↑x : Int) < (↑(144 : Nat) : Int)) ∧ ((0 : Int) ≤ (↑x : Int) ∧ Int.toNat (↑x : Int) * (3 : Nat) + (0 : Nat) + (3 : Nat) ≤ (432 : Nat)) ∧ True ∧ ((0 : Int) ≤ (↑x : Int) ∧ (↑x : Int) < (↑(144 : Nat) : Int)) ∧ ((0 : Int) ≤ (↑x : Int) ∧ Int.toNat (↑x : Int) * (3 : Nat) + (0 : Nat) + (3 : Nat) ≤ (432 : Nat)) ∧ True ∧ True ∧ ((!eqE (3 : Nat) (List.take (3 : Nat) (List.drop (Int.toNat (↑x : Int) * (3 : Nat) + (0 : Nat)) l)) (List.take (3 : Nat) (List.drop (Int.toNat (↑x : Int) * (3 : Nat) + (0 : Nat)) l))) = Bool.true → True ∧ Bool.true = Bool.false) ∧ ((!eqE (3 : Nat) (List.take (3 : Nat) (List.drop (Int.toNat (↑x : Int) * (3 : Nat) + (0 : Nat)) l)) (List.take (3 : Nat) (List.drop (Int.toNat (↑x : Int) * (3 : Nat) + (0 : Nat)) l))) = Bool.false → True ∧ ((-9223372036854775808 : Int) ≤ (↑x : Int) + (1 : Int) ∧ (↑x : Int) + (1 : Int) ≤ (9223372036854775807 : Int)) ∧ True ∧ ∃ (y : Nat), y ≤ (144 : Nat) ∧ (144 : Nat) - y < (144 : Nat) - x ∧ ((([Go.Sx.EK.u8] = [Go.Sx.EK.u8] ∧ (432 : Nat) = (432 : Nat) ∧ l = l) ∧ True) ∧ (([Go.Sx.EK.u8] = [Go.Sx.EK.u8] ∧ (432 : Nat) = (432 : Nat) ∧ l = l) ∧ True) ∧ Go.Sx.Cel.ptr (0 : Nat) (0 : Nat) = Go.Sx.Cel.ptr (0 : Nat) (0 : Nat) ∧ Go.Sx.Cel.ptr (1 : Nat) (0 : Nat) = Go.Sx.Cel.ptr (1 : Nat) (0 : Nat) ∧ True ∧ (Go.IntKind.i64 = Go.IntKind.i64 ∧ (↑x : Int) + (1 : Int) = (↑y : Int)) ∧ True ∧ True ∧ True ∧ True ∧ True ∧ True ∧ True ∧ True ∧ True ∧ True ∧ True ∧ True ∧ True) ∧ (Bool.true = Bool.true ∧ (49 : Nat) = (49 : Nat) ∧ ([Go.Sx.EK.u8] = [Go.Sx.EK.u8] ∧ (432 : Nat) = (432 : Nat) ∧ l = l) ∧ True) ∧ (Bool.true = Bool.true ∧ (49 : Nat) = (49 : Nat) ∧ ([Go.Sx.EK.u8] = [Go.Sx.EK.u8] ∧ (432 : Nat) = (432 : Nat) ∧ l = l) ∧ True) ∧ True)) ∧ (Decidable.decide ((↑x : Int) < (144 : Int)) = Bool.false → True ∧ Bool.true = Bool.true)) (by kernel_rfl) ?_
  simp only [true_and, and_true, and_self, decide_eq_true_eq, decide_eq_false_iff_not, Bool.not_eq_true', Bool.not_eq_false', Bool.not_true, Bool.not_false, beq_iff_eq, beq_eq_false_iff_ne, bne_iff_ne, bne_eq_false_iff_eq, ne_eq, not_true_eq_false, not_false_eq_true, false_implies, true_implies, implies_true, forall_const, exists_const, ↓reduceIte, Int.reduceEq, Int.toNat_natCast, Bool.false_eq_true, Bool.true_eq_false, reduceCtorEq, Nat.add_zero, Int.zero_add, Int.toNat_natCast, Int.ofNat_eq_natCast, List.append_nil]
  refine ⟨⟨0, by omega, rfl⟩, ?_⟩
  intro k hk
  intro hlt
  have hlt : k < 144 := by omega
  exact ⟨by omega, by omega, by omega, by omega, fun hh => (by rw [eqE_y fun _ _ => rfl] at hh; cases hh), fun _ => ⟨by omega, k + 1, by omega, by omega, by omega⟩⟩
def gEqTs : Entry := fun args _ => match args with
  | [.a (.agg [.run [.u8] 432 l]), .a (.agg [.run [.u8] 432 m])] => some (l = m ∧ l.length = 432, .a (.c (.bool true)))
  | _ => none
theorem e_eqTs : EntryOk Try.prog TT 99 gEqTs := by
  refine ⟨fnOk Try.func99 (by kernel_rfl) rfl, ?_⟩
  intro args H p r he hp n0 w0 β w vals hG hH hA
  unfold gEqTs at he
  split at he
  · simp only [Option.some.injEq, Prod.mk.injEq] at he
    obtain ⟨rfl, rfl⟩ := he
    obtain ⟨rfl, hl⟩ := hp
    exact entry_bare tt_ok (inlN_ok tt_ok Csk0_ok mixed (ILz_ok).ok 4) Csk0_ok mixed Try.func99 (x_eqTones _ hl) rfl rfl hG hH hA
  · simp at he
noncomputable def Ee0 : List (FuncId × Entry) := (99, gEqTs) :: Esk0
theorem Ee0_ok : EntriesOk Try.prog TT Ee0 := ⟨e_eqTs, Esk0_ok⟩
noncomputable abbrev Ce0 : Ctr := ctrOfM Ee0 Mp3
theorem Ce0_ok : CtrOk Try.prog TT Ce0 := ctrOfM_ok Ee0_ok Mp3_ok
set_option maxRecDepth 100000 in
theorem x_eqImage (w h : Int) (l : List Int) (hl : l.length = 432) : Fex true TT (inlN true TT Ce0 (lookI ILz) 4) Ce0 U0 Try.f36 [.a (.agg [.int .i8 w, .int .i8 h, .run [.u8] 432 l]), .a (.agg [.int .i8 w, .int .i8 h, .run [.u8] 432 l])] [] (fun lv _ => leL lv (.a (.c (.bool true)))) := by
  refine Go.Sx.by_eq (q := True ∧ True ∧ True ∧ True ∧ True ∧ True ∧ True ∧ True ∧ ((w != w) = Bool.true → True ∧ Bool.true = Bool.false) ∧ ((w != w) = Bool.false → True ∧ True ∧ True ∧ True ∧ True ∧ ((h != h) = Bool.true → True ∧ Bool.true = Bool.false) ∧ ((h != h) = Bool.false → True ∧ True ∧ True ∧ True ∧ (l = l ∧ List.length l = (432 : Nat)) ∧ True ∧ ((!Bool.true) = Bool.true → True ∧ Bool.true = Bool.false) ∧ ((!Bool.true) = Bool.false → True ∧ Bool.true = Bool.true)))) (by kernel_rfl) ?_
  simp only [true_and, and_true, and_self, decide_eq_true_eq, decide_eq_false_iff_not, Bool.not_eq_true', Bool.not_eq_false', Bool.not_true, Bool.not_false, beq_iff_eq, beq_eq_false_iff_ne, bne_iff_ne, bne_eq_false_iff_eq, ne_eq, not_true_eq_false, not_false_eq_true, false_implies, true_implies, implies_true, forall_const, exists_const, ↓reduceIte, Int.reduceEq, Int.toNat_natCast, Bool.false_eq_true, Bool.true_eq_false, reduceCtorEq, hl]
  try simp [hl]
def gEqIm : Entry := fun args _ => match args with
  | [.a (.agg [.int .i8 w, .int .i8 h, .run [.u8] 432 l]), .a (.agg [.int .i8 w2, .int .i8 h2, .run [.u8] 432 m])] => some (w = w2 ∧ h = h2 ∧ l = m ∧ l.length = 432, .a (.c (.bool true)))
  | _ => none
theorem e_eqIm : EntryOk Try.prog TT 36 gEqIm := by
  refine ⟨fnOk Try.func36 (by kernel_rfl) rfl, ?_⟩
  intro args H p r he hp n0 w0 β w vals hG hH hA
  unfold gEqIm at he
  split at he
  · simp only [Option.some.injEq, Prod.mk.injEq] at he
    obtain ⟨rfl, rfl⟩ := he
    obtain ⟨rfl, rfl, rfl, hl⟩ := hp
    exact entry_bare tt_ok (inlN_ok tt_ok Ce0_ok mixed (ILz_ok).ok 4) Ce0_ok mixed Try.func36 (x_eqImage _ _ _ hl) rfl rfl hG hH hA
  · simp at he
noncomputable def Eim3 : List (FuncId × Entry) := (36, gEqIm) :: Eim2
theorem Eim3_ok : EntriesOk Try.prog TT Eim3 := ⟨e_eqIm, Eim2_ok⟩
noncomputable abbrev Cim3 : Ctr := ctrOfM Eim3 Mp3
theorem Cim3_ok : CtrOk Try.prog TT Cim3 := ctrOfM_ok Eim3_ok Mp3_ok
theorem imR_len {w h : Int} {l p g : List Int} {n : Nat} : (if hsE w h l n p = 0 then imL w h l p g 144 else List.replicate 432 0).length = 432 := by
  split
  · exact mkN_len _ _
  · exact List.length_replicate
end Go.Proofs.Ytkajcofpdlicaaa
