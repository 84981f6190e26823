/- TurnsOf, both sides. No conditions beyond the ranges of the kinds. -/
import Derived.Test.YtkgdkfilhlbcaaaDoorPth
set_option linter.unusedSimpArgs false
set_option linter.unusedVariables false
namespace Go.Proofs.YtkgdkfilhlbcaaaDoor
open Go.Sx Go.RowKit

noncomputable def gPs : EntryC := fun args H K => match args with
  | [.a (.c (.str s))] => s.size ≤ 1048576 ∧ withLenP H fun h => ∀ N L cp, Gq 1 (psK s) (psF s) N L cp → K (.tup [.c (.slc h 0 0 1 (psK s) cp), .c (.bool (ptB s))]) (H ++ [.cells true 2 [.run [.i64] N L]])
  | _ => Stuck "path"
theorem e_l05Path : EntryCOk Tryd.prog TT 15 gPs := by
  refine ⟨fnOk Tryd.func15 (by kernel_rfl) rfl, ?_⟩
  intro args H K h n0 w0 β w vals hG hH hA
  unfold gPs at h
  split at h
  · obtain ⟨hp, hk⟩ := h
    have hk := withLenP_sound hk
    refine (entry_fresh tt_ok (inlN_ok tt_ok C0_ok mixed (ILps_ok).ok 4) C0_ok mixed Tryd.func15 [] (x_l05Path _ hp) rfl (fun _ => rfl) (fun _ => rfl) trivial hG hH (by rw [map_self _ fun c hc => rnL_in0 _ c (List.all_eq_true.1 (show (List.all _ (inL 0)) = true from rfl) c hc)]; exact hA)).mono ?_
    rintro e w' ⟨v, γ, x, rfl, h4, h5, h6⟩
    exact ⟨v, γ, _, _, rfl, hk _ _ _ h4, h5, h6⟩
  · exact h.elim

def gStr : EntryC := fun args H K => match args with
  | [.a (.c (.str s))] => s.size ≤ 1048576 ∧ withLenP H fun h => ∀ N L cp, Gq 1 (stp s s.size).length (stp s s.size) N L cp → K (.a (.c (.slc h 0 0 1 (stp s s.size).length cp))) (H ++ [.cells true 2 [.run [.i64] N L]])
  | _ => Stuck "path"
theorem e_straight : EntryCOk Tryd.prog TT 17 gStr := by
  refine ⟨fnOk Tryd.func17 (by kernel_rfl) rfl, ?_⟩
  intro args H K h n0 w0 β w vals hG hH hA
  unfold gStr at h
  split at h
  · obtain ⟨hp, hk⟩ := h
    have hk := withLenP_sound hk
    refine (entry_fresh tt_ok (inlN_ok tt_ok C0_ok mixed (ILps_ok).ok 4) C0_ok mixed Tryd.func17 [] (x_straight _ hp) rfl (fun _ => rfl) (fun _ => rfl) trivial hG hH (by rw [map_self _ fun c hc => rnL_in0 _ c (List.all_eq_true.1 (show (List.all _ (inL 0)) = true from rfl) c hc)]; exact hA)).mono ?_
    rintro e w' ⟨v, γ, x, rfl, h4, h5, h6⟩
    exact ⟨v, γ, _, _, rfl, hk _ _ _ h4, h5, h6⟩
  · exact h.elim

noncomputable def gIsP : Entry := fun args _ => match args with
  | [.a (.c (.str s))] => some (s.size ≤ 1048576, .a (.c (.bool (ptB s))))
  | _ => none
theorem e_isPath : EntryOk Tryd.prog TT 16 gIsP := by
  refine ⟨fnOk Tryd.func16 (by kernel_rfl) rfl, ?_⟩
  intro args H p r he hp n0 w0 β w vals hG hH hA
  unfold gIsP at he
  split at he
  · simp only [Option.some.injEq, Prod.mk.injEq] at he
    obtain ⟨rfl, rfl⟩ := he
    exact entry_bare tt_ok (inlN_ok tt_ok Cpt_ok mixed (ILps_ok).ok 4) Cpt_ok mixed Tryd.func16 (x_isPath _ hp) rfl rfl hG hH hA
  · simp at he


noncomputable def Etn : List (FuncId × Entry) := [(16, gIsP)]
theorem Etn_ok : EntriesOk Tryd.prog TT Etn := ⟨e_isPath, trivial⟩
noncomputable def Mtn : List (FuncId × EntryC) := [(15, gPs), (17, gStr)]
theorem Mtn_ok : EntriesCOk Tryd.prog TT Mtn := ⟨e_l05Path, e_straight, trivial⟩
noncomputable abbrev Ctn : Ctr := ctrOfM Etn Mtn
theorem Ctn_ok : CtrOk Tryd.prog TT Ctn := ctrOfM_ok Etn_ok Mtn_ok

/-! ### TurnsOf -/
noncomputable def tuK (s : ByteArray) : Nat := if ptB s then (stp s s.size).length else 0
noncomputable def tuF (s : ByteArray) : List Int := if ptB s then stp s s.size else []
noncomputable def tuM (s : ByteArray) : Int := if ptB s then ((stp s s.size).length : Int) - 1 else 0
noncomputable def tuE (s : ByteArray) : Int := if ptB s then 0 else 5
theorem tu_no {s : ByteArray} (h : ptB s = false) : tuK s = 0 ∧ tuF s = [] ∧ tuM s = 0 ∧ tuE s = 5 := by simp [tuK, tuF, tuM, tuE, h]
theorem tu_ok {s : ByteArray} (h : ptB s = true) : tuK s = (stp s s.size).length ∧ tuF s = stp s s.size ∧ tuM s = ((stp s s.size).length : Int) - 1 ∧ tuE s = 0 := by simp [tuK, tuF, tuM, tuE, h]
theorem ps_ok {s : ByteArray} (h : ptB s = true) : psK s = (stp s s.size).length ∧ psF s = stp s s.size := by
  have : stB s = true := by rw [ptB, Bool.and_eq_true] at h; exact h.2
  simp [psK, psF, this]
theorem psK_le (s : ByteArray) : psK s ≤ s.size := by
  unfold psK
  split
  · exact (st_q s s.size).le
  · omega
/-- The block of the list in a number, a list and a code. -/
def resM (lv : LV) : List Nat := match lv with
  | .tup (_ :: .c (.slc id _ _ _ _ _) :: _) => [id]
  | _ => [9999]
theorem x_TurnsOfS (s : ByteArray) (hs : s.size ≤ 1048576) : Fex true TT (inlN true TT Ctn (lookI ILps) 4) Ctn U0 Tryd.f5 [.a (.c (.str s))] []
    (fun lv H' => ∃ x : Nat × List Int × Int, Gq 1 (tuK s) (tuF s) x.1 x.2.1 x.2.2 ∧ leSt ⟨[lv], H'⟩ ⟨[rnL (([] : List Nat).length + ·) (.tup [.c (.int .i64 (tuM s)), .c (.slc 0 0 0 1 (tuK s) x.2.2), .c (.int .i64 (tuE s))])], deadsN ([] : List Nat).length ++ [.cells true 2 [.run [.i64] x.1 x.2.1]]⟩ ([] : List Nat).length (resM lv)) := by
  refine Go.Sx.by_eq (q := True ∧ True ∧ True ∧ True ∧ ByteArray.size s ≤ (1048576 : Nat) ∧ ∀ (N : Nat) (L : List Int) (cp : Int), Gq (1 : Nat) (psK s) (psF s) N L cp → True ∧ True ∧ True ∧ True ∧ True ∧ True ∧ True ∧ ((!ptB s) = Bool.true → True ∧ True ∧ True ∧ True ∧ ∃ (x : Nat × List Int × Int), Gq (1 : Nat) (tuK s) (tuF s) x.fst x.snd.fst x.snd.snd ∧ (((Go.IntKind.i64 = Go.IntKind.i64 ∧ (0 : Int) = tuM s) ∧ Go.Sx.Cel.slc (1 : Nat) (0 : Nat) (0 : Int) (1 : Nat) (0 : Int) (0 : Int) = Go.Sx.Cel.slc (1 : Nat) (0 : Nat) (0 : Int) (1 : Nat) (↑(tuK s) : Int) x.snd.snd ∧ (Go.IntKind.i64 = Go.IntKind.i64 ∧ (5 : Int) = tuE s) ∧ True) ∧ True) ∧ (Bool.true = Bool.true ∧ (2 : Nat) = (2 : Nat) ∧ ([Go.Sx.EK.i64] = [Go.Sx.EK.i64] ∧ (0 : Nat) = x.fst ∧ [] = x.snd.fst) ∧ True) ∧ True) ∧ ((!ptB s) = Bool.false → True ∧ True ∧ ((-9223372036854775808 : Int) ≤ (↑(psK s) : Int) - (1 : Int) ∧ (↑(psK s) : Int) - (1 : Int) ≤ (9223372036854775807 : Int)) ∧ True ∧ True ∧ True ∧ True ∧ ∃ (x : Nat × List Int × Int), Gq (1 : Nat) (tuK s) (tuF s) x.fst x.snd.fst x.snd.snd ∧ (((Go.IntKind.i64 = Go.IntKind.i64 ∧ (↑(psK s) : Int) - (1 : Int) = tuM s) ∧ Go.Sx.Cel.slc (0 : Nat) (0 : Nat) (0 : Int) (1 : Nat) (↑(psK s) : Int) cp = Go.Sx.Cel.slc (0 : Nat) (0 : Nat) (0 : Int) (1 : Nat) (↑(tuK s) : Int) x.snd.snd ∧ (Go.IntKind.i64 = Go.IntKind.i64 ∧ (0 : Int) = tuE s) ∧ True) ∧ True) ∧ (Bool.true = Bool.true ∧ (2 : Nat) = (2 : Nat) ∧ ([Go.Sx.EK.i64] = [Go.Sx.EK.i64] ∧ N = x.fst ∧ L = x.snd.fst) ∧ True) ∧ True)) (by kernel_rfl) ?_
  simp only [true_and, and_true, and_self, decide_eq_true_eq, decide_eq_false_iff_not, Bool.not_eq_true', Bool.not_eq_false', Bool.not_true, Bool.not_false, beq_iff_eq, beq_eq_false_iff_ne, bne_iff_ne, bne_eq_false_iff_eq, ne_eq, not_true_eq_false, not_false_eq_true, false_implies, true_implies, implies_true, forall_const, exists_const, ↓reduceIte, Int.reduceEq, Int.toNat_natCast, Bool.false_eq_true, Bool.true_eq_false, reduceCtorEq, Int.zero_add, Nat.add_zero, Nat.mul_one, Cel.slc.injEq]
  have hk := psK_le s
  refine ⟨hs, fun N L cp g => ⟨fun h => ?_, fun h => ?_⟩⟩
  · obtain ⟨e1, e2, e3, e4⟩ := tu_no h
    rw [e1, e2, e3, e4]
    exact ⟨(0, [], 0), Gq.nil, ⟨rfl, ⟨rfl, rfl⟩, rfl⟩, rfl, rfl⟩
  · obtain ⟨e1, e2, e3, e4⟩ := tu_ok h
    obtain ⟨f1, f2⟩ := ps_ok h
    rw [f1] at hk
    rw [f1, f2] at g
    rw [e1, e2, e3, e4, f1]
    exact ⟨by omega, (N, L, cp), g, ⟨rfl, ⟨rfl, rfl⟩, rfl⟩, rfl, rfl⟩
theorem x_TurnsOfI (s : ByteArray) (hs : s.size ≤ 1048576) : Fex true TT (inlN true TT Ctn (lookI ILps) 4) Ctn U0 Tryd.f6 [.a (.c (.str s))] []
    (fun lv H' => ∃ x : Nat × List Int × Int, Gq 1 (tuK s) (tuF s) x.1 x.2.1 x.2.2 ∧ leSt ⟨[lv], H'⟩ ⟨[rnL (([] : List Nat).length + ·) (.tup [.c (.int .i64 (tuM s)), .c (.slc 0 0 0 1 (tuK s) x.2.2), .c (.int .i64 (tuE s))])], deadsN ([] : List Nat).length ++ [.cells true 2 [.run [.i64] x.1 x.2.1]]⟩ ([] : List Nat).length (resM lv)) := by
  refine Go.Sx.by_eq (q := True ∧ True ∧ True ∧ True ∧ ByteArray.size s ≤ (1048576 : Nat) ∧ True ∧ ((!ptB s) = Bool.true → True ∧ True ∧ True ∧ ∃ (x : Nat × List Int × Int), Gq (1 : Nat) (tuK s) (tuF s) x.fst x.snd.fst x.snd.snd ∧ (((Go.IntKind.i64 = Go.IntKind.i64 ∧ (0 : Int) = tuM s) ∧ ((0 : Int) = (0 : Int) ∧ (↑(tuK s) : Int) = (0 : Int) ∧ x.snd.snd = (0 : Int)) ∧ (Go.IntKind.i64 = Go.IntKind.i64 ∧ (5 : Int) = tuE s) ∧ True) ∧ True) ∧ (x.fst = (0 : Nat) ∧ x.snd.fst = []) ∧ True) ∧ ((!ptB s) = Bool.false → True ∧ ByteArray.size s ≤ (1048576 : Nat) ∧ ∀ (N : Nat) (L : List Int) (cp : Int), Gq (1 : Nat) (List.length (stp s (ByteArray.size s))) (stp s (ByteArray.size s)) N L cp → True ∧ True ∧ True ∧ ((-9223372036854775808 : Int) ≤ (↑(List.length (stp s (ByteArray.size s))) : Int) - (1 : Int) ∧ (↑(List.length (stp s (ByteArray.size s))) : Int) - (1 : Int) ≤ (9223372036854775807 : Int)) ∧ True ∧ True ∧ True ∧ True ∧ ∃ (x : Nat × List Int × Int), Gq (1 : Nat) (tuK s) (tuF s) x.fst x.snd.fst x.snd.snd ∧ (((Go.IntKind.i64 = Go.IntKind.i64 ∧ (↑(List.length (stp s (ByteArray.size s))) : Int) - (1 : Int) = tuM s) ∧ Go.Sx.Cel.slc (0 : Nat) (0 : Nat) (0 : Int) (1 : Nat) (↑(List.length (stp s (ByteArray.size s))) : Int) cp = Go.Sx.Cel.slc (0 : Nat) (0 : Nat) (0 : Int) (1 : Nat) (↑(tuK s) : Int) x.snd.snd ∧ (Go.IntKind.i64 = Go.IntKind.i64 ∧ (0 : Int) = tuE s) ∧ True) ∧ True) ∧ (Bool.true = Bool.true ∧ (2 : Nat) = (2 : Nat) ∧ ([Go.Sx.EK.i64] = [Go.Sx.EK.i64] ∧ N = x.fst ∧ L = x.snd.fst) ∧ True) ∧ True)) (by kernel_rfl) ?_
  simp only [true_and, and_true, and_self, decide_eq_true_eq, decide_eq_false_iff_not, Bool.not_eq_true', Bool.not_eq_false', Bool.not_true, Bool.not_false, beq_iff_eq, beq_eq_false_iff_ne, bne_iff_ne, bne_eq_false_iff_eq, ne_eq, not_true_eq_false, not_false_eq_true, false_implies, true_implies, implies_true, forall_const, exists_const, ↓reduceIte, Int.reduceEq, Int.toNat_natCast, Bool.false_eq_true, Bool.true_eq_false, reduceCtorEq, Int.zero_add, Nat.add_zero, Nat.mul_one, Cel.slc.injEq]
  have hk := (st_q s s.size).le
  refine ⟨hs, fun h => ?_, fun h => ⟨hs, fun N L cp g => ?_⟩⟩
  · obtain ⟨e1, e2, e3, e4⟩ := tu_no h
    rw [e1, e2, e3, e4]
    exact ⟨(0, [], 0), Gq.nil, ⟨rfl, ⟨rfl, rfl⟩, rfl⟩, rfl, rfl⟩
  · obtain ⟨e1, e2, e3, e4⟩ := tu_ok h
    rw [e1, e2, e3, e4]
    exact ⟨by omega, (N, L, cp), g, ⟨rfl, ⟨rfl, rfl⟩, rfl⟩, rfl, rfl⟩
noncomputable def gTu : EntryC := fun args H K => match args with
  | [.a (.c (.str s))] => s.size ≤ 1048576 ∧ withLenP H fun h => ∀ N L cp, Gq 1 (tuK s) (tuF s) N L cp → K (.tup [.c (.int .i64 (tuM s)), .c (.slc h 0 0 1 (tuK s) cp), .c (.int .i64 (tuE s))]) (H ++ [.cells true 2 [.run [.i64] N L]])
  | _ => Stuck "turns"
theorem e_TurnsOfS : EntryCOk Tryd.prog TT 5 gTu := by
  refine ⟨fnOk Tryd.func5 (by kernel_rfl) rfl, ?_⟩
  intro args H K h n0 w0 β w vals hG hH hA
  unfold gTu at h
  split at h
  · obtain ⟨hp, hk⟩ := h
    have hk := withLenP_sound hk
    refine (entry_fresh tt_ok (inlN_ok tt_ok Ctn_ok mixed (ILps_ok).ok 4) Ctn_ok mixed Tryd.func5 [] (x_TurnsOfS _ hp) rfl (fun _ => rfl) (fun _ => rfl) trivial hG hH (by rw [map_self _ fun c hc => rnL_in0 _ c (List.all_eq_true.1 (show (List.all _ (inL 0)) = true from rfl) c hc)]; exact hA)).mono ?_
    rintro e w' ⟨v, γ, x, rfl, h4, h5, h6⟩
    exact ⟨v, γ, _, _, rfl, hk _ _ _ h4, h5, h6⟩
  · exact h.elim

theorem e_TurnsOfI : EntryCOk Tryd.prog TT 6 gTu := by
  refine ⟨fnOk Tryd.func6 (by kernel_rfl) rfl, ?_⟩
  intro args H K h n0 w0 β w vals hG hH hA
  unfold gTu at h
  split at h
  · obtain ⟨hp, hk⟩ := h
    have hk := withLenP_sound hk
    refine (entry_fresh tt_ok (inlN_ok tt_ok Ctn_ok mixed (ILps_ok).ok 4) Ctn_ok mixed Tryd.func6 [] (x_TurnsOfI _ hp) rfl (fun _ => rfl) (fun _ => rfl) trivial hG hH (by rw [map_self _ fun c hc => rnL_in0 _ c (List.all_eq_true.1 (show (List.all _ (inL 0)) = true from rfl) c hc)]; exact hA)).mono ?_
    rintro e w' ⟨v, γ, x, rfl, h4, h5, h6⟩
    exact ⟨v, γ, _, _, rfl, hk _ _ _ h4, h5, h6⟩
  · exact h.elim


end Go.Proofs.YtkgdkfilhlbcaaaDoor
