/- The law of ReadPicture: the result is always true. No conditions beyond the ranges of the kinds. -/
import Derived.Test.YthmcnknkbkbkgaaRpd
import Derived.Test.YthmcnknkbkbkgaaEqp
set_option linter.unusedSimpArgs false
set_option linter.unusedVariables false
namespace Go.Proofs.Ythmcnknkbkbkgaa
open Go.Sx Go.RowKit

noncomputable def gRpc : Entry := fun args _ => match args with
  | [.a (.c (.str s))] => some (s.size ≤ 1048576, pcR s)
  | _ => none
theorem e_ReadPictureS : EntryOk Try.prog TT 4 gRpc := by
  refine ⟨fnOk Try.func4 (by kernel_rfl) rfl, ?_⟩
  intro args H p r he hp n0 w0 β w vals hG hH hA
  unfold gRpc at he
  split at he
  · simp only [Option.some.injEq, Prod.mk.injEq] at he
    obtain ⟨rfl, rfl⟩ := he
    exact entry_bare tt_ok (inlN_ok tt_ok Cpc_ok mixed (ILpc_ok).ok 4) Cpc_ok mixed Try.func4 (x_ReadPictureS _ hp) rfl rfl hG hH hA
  · simp at he

theorem e_ReadPictureI : EntryOk Try.prog TT 5 gRpc := by
  refine ⟨fnOk Try.func5 (by kernel_rfl) rfl, ?_⟩
  intro args H p r he hp n0 w0 β w vals hG hH hA
  unfold gRpc at he
  split at he
  · simp only [Option.some.injEq, Prod.mk.injEq] at he
    obtain ⟨rfl, rfl⟩ := he
    exact entry_bare tt_ok (inlN_ok tt_ok Cpc_ok mixed (ILpc_ok).ok 4) Cpc_ok mixed Try.func5 (x_ReadPictureI _ hp) rfl rfl hG hH hA
  · simp at he

noncomputable def Elp : List (FuncId × Entry) := [(4, gRpc), (5, gRpc), (6, gSame)]
theorem Elp_ok : EntriesOk Try.prog TT Elp := ⟨e_ReadPictureS, e_ReadPictureI, e_eqPicture, trivial⟩
noncomputable abbrev Clp : Ctr := ctrOf Elp
theorem Clp_ok : CtrOk Try.prog TT Clp := ctrOf_ok Elp_ok
noncomputable def ILlp  : List (FuncId × Func × (Nat → LM)) := [
  ]
theorem ILlp_ok  : InlsOk Try.prog ILlp := trivial

set_option maxRecDepth 100000 in
theorem law_ReadPicture (s : ByteArray) : Fex true TT (inlN true TT Clp (lookI ILlp) 3) Clp U0 Try.f3 [.a (.c (.str s))] [] (fun lv _ => leL lv (.a (.c .tt))) := by
  refine Go.Sx.by_eq (q := True ∧ True ∧ True ∧ True ∧ (Decidable.decide ((1048576 : Int) < (↑(ByteArray.size s) : Int)) = Bool.true → True ∧ True) ∧ (Decidable.decide ((1048576 : Int) < (↑(ByteArray.size s) : Int)) = Bool.false → True ∧ ByteArray.size s ≤ (1048576 : Nat) ∧ True ∧ True ∧ True ∧ True ∧ True ∧ True ∧ True ∧ ByteArray.size s ≤ (1048576 : Nat) ∧ True ∧ True ∧ True ∧ True ∧ True ∧ True ∧ True ∧ True ∧ True ∧ True ∧ True ∧ ((!Decidable.decide (((if pcB s = Bool.true then (↑(pcW s) : Int) else (0 : Int)) = if pcB s = Bool.true then (↑(pcW s) : Int) else (0 : Int)) ∧ ((if pcB s = Bool.true then (↑(pcH s) : Int) else (0 : Int)) = if pcB s = Bool.true then (↑(pcH s) : Int) else (0 : Int)) ∧ (if pcB s = Bool.true then pcL s (pcW s) (pcH s) else mkN (144 : Nat) fun (x : Nat) => (0 : Int)) = if pcB s = Bool.true then pcL s (pcW s) (pcH s) else mkN (144 : Nat) fun (x : Nat) => (0 : Int))) = Bool.false → True ∧ True ∧ True ∧ True ∧ (((if pcB s = Bool.true then (0 : Int) else (5 : Int)) != if pcB s = Bool.true then (0 : Int) else (5 : Int)) = Bool.true → True ∧ Go.Sx.Cel.ff = Go.Sx.Cel.tt) ∧ (((if pcB s = Bool.true then (0 : Int) else (5 : Int)) != if pcB s = Bool.true then (0 : Int) else (5 : Int)) = Bool.false → True ∧ True)) ∧ ((!Decidable.decide (((if pcB s = Bool.true then (↑(pcW s) : Int) else (0 : Int)) = if pcB s = Bool.true then (↑(pcW s) : Int) else (0 : Int)) ∧ ((if pcB s = Bool.true then (↑(pcH s) : Int) else (0 : Int)) = if pcB s = Bool.true then (↑(pcH s) : Int) else (0 : Int)) ∧ (if pcB s = Bool.true then pcL s (pcW s) (pcH s) else mkN (144 : Nat) fun (x : Nat) => (0 : Int)) = if pcB s = Bool.true then pcL s (pcW s) (pcH s) else mkN (144 : Nat) fun (x : Nat) => (0 : Int))) = !Bool.false → True ∧ True ∧ Go.Sx.Cel.ff = Go.Sx.Cel.tt))) (by kernel_rfl) ?_
  simp only [true_and, and_true, and_self, decide_eq_true_eq, decide_eq_false_iff_not, Bool.not_eq_true', Bool.not_eq_false', Bool.not_true, Bool.not_false, beq_iff_eq, beq_eq_false_iff_ne, bne_iff_ne, bne_eq_false_iff_eq, ne_eq, not_true_eq_false, not_false_eq_true, false_implies, true_implies, implies_true, forall_const, exists_const, ↓reduceIte, Int.reduceEq, Int.toNat_natCast, Bool.false_eq_true, Bool.true_eq_false, reduceCtorEq]
  omega

end Go.Proofs.Ythmcnknkbkbkgaa
