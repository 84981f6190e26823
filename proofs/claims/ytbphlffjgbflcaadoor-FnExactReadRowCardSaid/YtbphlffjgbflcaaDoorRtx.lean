/- RowText, both sides. No conditions beyond the ranges of the kinds. -/
import Derived.Test.YtbphlffjgbflcaaDoorRw1
import Derived.Test.YtbphlffjgbflcaaDoorStr
set_option linter.unusedSimpArgs false
set_option linter.unusedVariables false
namespace Go.Proofs.YtbphlffjgbflcaaDoor
open Go.Sx Go.RowKit
variable {mx : Nat → Value}

/-- The word of a width. -/
def rtW (l : List Int) (i : Nat) : List UInt8 := Lib.itoa (l.getD i 0)
theorem rtW_len {l : List Int} {n : Nat} (h : InP 1 200 n l) : ∀ i, i < n → (rtW l i).length + [(44 : UInt8)].length ≤ 21 := fun i hi => by
  have := h.ok i hi
  have := itoa_len (n := l.getD i 0) (by omega) (by omega)
  rw [rtW, List.length_singleton]; omega
def rowS (n : Nat) (l : List Int) : ByteArray := bsl (jnL (rtW l) [44] n)
noncomputable def rtxS (n : Nat) (l : List Int) : ByteArray := if rwB n l then rowS n l else bsl []
theorem rtx_no {n : Nat} {l : List Int} (h : rwB n l = false) : bsl [] = rtxS n l := by simp [rtxS, h]
theorem rtx_ok {n : Nat} {l : List Int} (h : rwB n l = true) : rowS n l = rtxS n l := by simp [rtxS, h]

noncomputable def Ert : List (FuncId × Entry) := (22, gItoa) :: (23, gJoin) :: Er0
theorem Ert_ok : EntriesOk Tryd.prog (TT mx) Ert := ⟨e_Itoa, e_Join, Er0_ok⟩
noncomputable abbrev Crt : Ctr := ctrOfM Ert Mr0
theorem Crt_ok : CtrOk Tryd.prog (TT mx) Crt := ctrOfM_ok Ert_ok Mr0_ok


def wdF (l : List Int) (k i : Nat) : Int := if i < k then encS (itoaS (l.getD i 0)) else 0
def lmTi (n : Nat) (l : List Int) : LAnn := { ι := Nat, inv := fun _ k => k ≤ n, slots := fun _ k => [(14, .a (.c (.int .i64 k)))], blks := fun _ k => [(1, [.run [.str] n (mkN n (wdF l k))])], μ := fun _ k => n - k }
theorem x_RowTextI (m n : Nat) (l : List Int) (cap : Int) (h1 : n ≤ 1048576) (h3 : n ≤ m) (h4 : l.length = m) (hw : w16 n l) : Fex true (TT mx) (inlN true (TT mx) Crt (lookI []) 4) Crt (fun _ => .inv (lmTi n l)) Tryd.f16 [.a (.c (.slc 0 0 0 1 n cap))] [.cells false 34 [.run [.i16] m l]] (fun lv _ => leL lv (.a (.c (.str (rtxS n l))))) := by
  refine Go.Sx.by_eq (q := True ∧ True ∧ (((34 : Nat) = (34 : Nat) ∧ (0 : Nat) = (0 : Nat) ∧ (0 : Int) = (0 : Int) ∧ (1 : Nat) = (1 : Nat) ∧ [Go.Sx.EK.i16] = [Go.Sx.EK.i16]) ∧ RwP (↑n : Int) m l) ∧ True ∧ ((!rwB (Int.toNat (↑n : Int)) l) = Bool.true → True ∧ ByteArray.mk #[] = rtxS n l) ∧ ((!rwB (Int.toNat (↑n : Int)) l) = Bool.false → True ∧ True ∧ ((0 : Int) ≤ (↑n : Int) ∧ (↑n : Int) ≤ (↑n : Int) ∧ (↑n : Int) ≤ (9223372036854775807 : Int) ∧ (↑(16 : Nat) : Int) * (↑n : Int) ≤ (281474976710656 : Int)) ∧ True ∧ True ∧ True ∧ True ∧ (∃ (x : Nat), x ≤ n ∧ (Go.Sx.Cel.slc (0 : Nat) (0 : Nat) (0 : Int) (1 : Nat) (↑n : Int) cap = Go.Sx.Cel.slc (0 : Nat) (0 : Nat) (0 : Int) (1 : Nat) (↑n : Int) cap ∧ Go.Sx.Cel.val Go.undef = Go.Sx.Cel.val Go.undef ∧ ByteArray.mk #[] = ByteArray.mk #[] ∧ Go.Sx.Cel.slc (1 : Nat) (0 : Nat) (0 : Int) (1 : Nat) (↑n : Int) (↑n : Int) = Go.Sx.Cel.slc (1 : Nat) (0 : Nat) (0 : Int) (1 : Nat) (↑n : Int) (↑n : Int) ∧ True ∧ True ∧ Go.Sx.Cel.slc (0 : Nat) (0 : Nat) (0 : Int) (1 : Nat) (↑n : Int) cap = Go.Sx.Cel.slc (0 : Nat) (0 : Nat) (0 : Int) (1 : Nat) (↑n : Int) cap ∧ rwB (Int.toNat (↑n : Int)) l = rwB (Int.toNat (↑n : Int)) l ∧ (!rwB (Int.toNat (↑n : Int)) l) = !rwB (Int.toNat (↑n : Int)) l ∧ Go.Sx.Cel.slc (0 : Nat) (0 : Nat) (0 : Int) (1 : Nat) (↑n : Int) cap = Go.Sx.Cel.slc (0 : Nat) (0 : Nat) (0 : Int) (1 : Nat) (↑n : Int) cap ∧ (Go.IntKind.i64 = Go.IntKind.i64 ∧ (↑n : Int) = (↑n : Int)) ∧ Go.Sx.Cel.slc (1 : Nat) (0 : Nat) (0 : Int) (1 : Nat) (↑n : Int) (↑n : Int) = Go.Sx.Cel.slc (1 : Nat) (0 : Nat) (0 : Int) (1 : Nat) (↑n : Int) (↑n : Int) ∧ Go.Sx.Cel.slc (0 : Nat) (0 : Nat) (0 : Int) (1 : Nat) (↑n : Int) cap = Go.Sx.Cel.slc (0 : Nat) (0 : Nat) (0 : Int) (1 : Nat) (↑n : Int) cap ∧ (Go.IntKind.i64 = Go.IntKind.i64 ∧ (↑n : Int) = (↑n : Int)) ∧ (Go.IntKind.i64 = Go.IntKind.i64 ∧ (0 : Int) = (↑x : Int)) ∧ True ∧ True ∧ True ∧ True ∧ True ∧ True ∧ True ∧ True ∧ True ∧ True ∧ True ∧ Go.Sx.Cel.val Go.undef = Go.Sx.Cel.val Go.undef ∧ Go.Sx.Cel.val Go.undef = Go.Sx.Cel.val Go.undef ∧ True) ∧ (Bool.false = Bool.false ∧ (34 : Nat) = (34 : Nat) ∧ ([Go.Sx.EK.i16] = [Go.Sx.EK.i16] ∧ m = m ∧ l = l) ∧ True) ∧ (Bool.true = Bool.true ∧ (9 : Nat) = (9 : Nat) ∧ ([Go.Sx.EK.str] = [Go.Sx.EK.str] ∧ Int.toNat (↑n : Int) * (1 : Nat) = n ∧ List.replicate (Int.toNat (↑n : Int) * (1 : Nat)) (0 : Int) = mkN n (wdF l x)) ∧ True) ∧ True) ∧ ∀ (x : Nat), x ≤ n → True ∧ (Decidable.decide ((↑x : Int) < (↑n : Int)) = Bool.true → True ∧ ((0 : Int) ≤ (↑x : Int) ∧ (↑x : Int) < (↑n : Int)) ∧ ((0 : Int) ≤ (0 : Int) + (↑x : Int) ∧ Int.toNat ((0 : Int) + (↑x : Int)) < m) ∧ True ∧ True ∧ True ∧ True ∧ True ∧ ((-9223372036854775808 : Int) ≤ List.getD l (Int.toNat ((0 : Int) + (↑x : Int))) (0 : Int) ∧ List.getD l (Int.toNat ((0 : Int) + (↑x : Int))) (0 : Int) ≤ (9223372036854775807 : Int)) ∧ ((-9223372036854775808 : Int) ≤ List.getD l (Int.toNat ((0 : Int) + (↑x : Int))) (0 : Int) ∧ List.getD l (Int.toNat ((0 : Int) + (↑x : Int))) (0 : Int) ≤ (9223372036854775807 : Int)) ∧ ((0 : Int) ≤ (↑x : Int) ∧ (↑x : Int) < (↑n : Int)) ∧ ((0 : Int) ≤ (0 : Int) + (↑x : Int) ∧ Int.toNat ((0 : Int) + (↑x : Int)) < n) ∧ ((-9223372036854775808 : Int) ≤ (↑x : Int) + (1 : Int) ∧ (↑x : Int) + (1 : Int) ≤ (9223372036854775807 : Int)) ∧ True ∧ ∃ (y : Nat), y ≤ n ∧ n - y < n - x ∧ (Go.Sx.Cel.slc (0 : Nat) (0 : Nat) (0 : Int) (1 : Nat) (↑n : Int) cap = Go.Sx.Cel.slc (0 : Nat) (0 : Nat) (0 : Int) (1 : Nat) (↑n : Int) cap ∧ Go.Sx.Cel.val Go.undef = Go.Sx.Cel.val Go.undef ∧ ByteArray.mk #[] = ByteArray.mk #[] ∧ Go.Sx.Cel.slc (1 : Nat) (0 : Nat) (0 : Int) (1 : Nat) (↑n : Int) (↑n : Int) = Go.Sx.Cel.slc (1 : Nat) (0 : Nat) (0 : Int) (1 : Nat) (↑n : Int) (↑n : Int) ∧ True ∧ True ∧ Go.Sx.Cel.slc (0 : Nat) (0 : Nat) (0 : Int) (1 : Nat) (↑n : Int) cap = Go.Sx.Cel.slc (0 : Nat) (0 : Nat) (0 : Int) (1 : Nat) (↑n : Int) cap ∧ rwB (Int.toNat (↑n : Int)) l = rwB (Int.toNat (↑n : Int)) l ∧ (!rwB (Int.toNat (↑n : Int)) l) = !rwB (Int.toNat (↑n : Int)) l ∧ Go.Sx.Cel.slc (0 : Nat) (0 : Nat) (0 : Int) (1 : Nat) (↑n : Int) cap = Go.Sx.Cel.slc (0 : Nat) (0 : Nat) (0 : Int) (1 : Nat) (↑n : Int) cap ∧ (Go.IntKind.i64 = Go.IntKind.i64 ∧ (↑n : Int) = (↑n : Int)) ∧ Go.Sx.Cel.slc (1 : Nat) (0 : Nat) (0 : Int) (1 : Nat) (↑n : Int) (↑n : Int) = Go.Sx.Cel.slc (1 : Nat) (0 : Nat) (0 : Int) (1 : Nat) (↑n : Int) (↑n : Int) ∧ Go.Sx.Cel.slc (0 : Nat) (0 : Nat) (0 : Int) (1 : Nat) (↑n : Int) cap = Go.Sx.Cel.slc (0 : Nat) (0 : Nat) (0 : Int) (1 : Nat) (↑n : Int) cap ∧ (Go.IntKind.i64 = Go.IntKind.i64 ∧ (↑n : Int) = (↑n : Int)) ∧ (Go.IntKind.i64 = Go.IntKind.i64 ∧ (↑x : Int) + (1 : Int) = (↑y : Int)) ∧ True ∧ True ∧ True ∧ True ∧ True ∧ True ∧ True ∧ True ∧ True ∧ True ∧ True ∧ Go.Sx.Cel.val Go.undef = Go.Sx.Cel.val Go.undef ∧ Go.Sx.Cel.val Go.undef = Go.Sx.Cel.val Go.undef ∧ True) ∧ (Bool.false = Bool.false ∧ (34 : Nat) = (34 : Nat) ∧ ([Go.Sx.EK.i16] = [Go.Sx.EK.i16] ∧ m = m ∧ l = l) ∧ True) ∧ (Bool.true = Bool.true ∧ (9 : Nat) = (9 : Nat) ∧ ([Go.Sx.EK.str] = [Go.Sx.EK.str] ∧ n = n ∧ List.set (mkN n (wdF l x)) (Int.toNat ((0 : Int) + (↑x : Int))) (Go.Sx.encS (itoaS (List.getD l (Int.toNat ((0 : Int) + (↑x : Int))) (0 : Int)))) = mkN n (wdF l y)) ∧ True) ∧ True) ∧ (Decidable.decide ((↑x : Int) < (↑n : Int)) = Bool.false → True ∧ (((0 : Nat) = (0 : Nat) ∧ (0 : Int) = (0 : Int) ∧ (1 : Nat) = (1 : Nat) ∧ [Go.Sx.EK.str] = [Go.Sx.EK.str]) ∧ (0 : Int) ≤ (↑n : Int) ∧ Int.toNat (↑n : Int) ≤ n ∧ List.length (mkN n (wdF l x)) = n ∧ (↑n : Int) ≤ (1048576 : Int) ∧ List.length (Go.Lib.join (wordsL (List.take (Int.toNat (↑n : Int)) (mkN n (wdF l x)))) (ByteArray.mk #[(44 : UInt8)]).data.toList) ≤ (140737488355328 : Nat)) ∧ True ∧ joinS (List.take (Int.toNat (↑n : Int)) (mkN n (wdF l x))) (ByteArray.mk #[(44 : UInt8)]) = rtxS n l))) (by kernel_rfl) ?_
  simp only [true_and, and_true, and_self, decide_eq_true_eq, decide_eq_false_iff_not, Bool.not_eq_true', Bool.not_eq_false', Bool.not_true, Bool.not_false, beq_iff_eq, beq_eq_false_iff_ne, bne_iff_ne, bne_eq_false_iff_eq, ne_eq, not_true_eq_false, not_false_eq_true, false_implies, true_implies, implies_true, forall_const, exists_const, ↓reduceIte, Int.reduceEq, Int.toNat_natCast, Bool.false_eq_true, Bool.true_eq_false, reduceCtorEq, Int.zero_add, Nat.add_zero, Int.ofNat_eq_natCast, Int.toNat_natCast, Nat.mul_one]
  have rp : RwP (n : Int) m l := ⟨by omega, by omega, by simpa using h3, h4, by simpa using hw⟩
  refine ⟨rp, fun q => rtx_no q, fun q => ?_⟩
  have hr := rwB_t.1 q
  have hb : ∀ i, i < n → 1 ≤ l.getD i 0 ∧ l.getD i 0 ≤ 200 := fun i hi => hr.2.ok i hi
  refine ⟨by omega, ⟨0, by omega, rfl, mkN_zero fun i hi => by rw [wdF, if_neg (by omega)]⟩, fun k hk => ⟨fun hlt => ?_, fun hge => ?_⟩⟩
  · have bk := hb k (by omega)
    refine ⟨by omega, by omega, by omega, by omega, by omega, by omega, by omega, k + 1, by omega, by omega, by omega, mkN_set (fun _ => by rw [wdF, if_pos (by omega)]) fun i hi hne => ?_⟩
    by_cases c : i < k
    · rw [wdF, wdF, if_pos c, if_pos (by omega)]
    · rw [wdF, wdF, if_neg c, if_neg (by omega)]
  · obtain rfl : k = n := by omega
    have hw : wordsL (List.take k (mkN k (wdF l k))) = (List.range k).map (rtW l) := words_whole fun i hi => by rw [wdF, if_pos hi]; rfl
    have c1 := jnL_len (rtW_len hr.2) (Nat.le_refl k)
    refine ⟨⟨by omega, Nat.le_refl _, mkN_len _ _, by omega, ?_⟩, ?_⟩
    · rw [hw, join_range]; omega
    · rw [joinS, hw, join_range, ← rtx_ok q]; rfl

noncomputable abbrev gRtx : Entry := gRw (fun n l => .a (.c (.str (rtxS n l))))
noncomputable def ILnil  : List (FuncId × Func × (Nat → LM)) := [
  ]
theorem ILnil_ok  : InlsOk Tryd.prog ILnil := trivial
theorem e_RowTextI : EntryOk Tryd.prog (TT mx) 16 gRtx := by
  refine ⟨fnOk Tryd.func16 (by kernel_rfl) rfl, ?_⟩
  intro args H p r he hp n0 w0 β w vals hG hH hA
  obtain ⟨id, m, n, o, l, cap, rfl, hg, rfl, h1, h2, h3, h4⟩ := gRw_inv he hp
  exact entry_view tt_ok (inlN_ok tt_ok Crt_ok mixed (ILnil_ok).ok 4) Crt_ok mixed Tryd.func16 [id] (x_RowTextI m n l cap h1 h2 h3 h4) rfl rfl ⟨.inr (by rw [hg]; rfl), trivial⟩ hG hH hA

noncomputable def Ert2 : List (FuncId × Entry) := (16, gRtx) :: Er0
theorem Ert2_ok : EntriesOk Tryd.prog (TT mx) Ert2 := ⟨e_RowTextI, Er0_ok⟩
noncomputable abbrev Crt2 : Ctr := ctrOfM Ert2 Mr0
theorem Crt2_ok : CtrOk Tryd.prog (TT mx) Crt2 := ctrOfM_ok Ert2_ok Mr0_ok

end Go.Proofs.YtbphlffjgbflcaaDoor
