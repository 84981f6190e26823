/- Lists of jobs in the laws: copies, comparisons, marks. No conditions beyond the ranges of the kinds. -/
import Derived.Test.YtmjincdnhmkmhaaDoorRec
import Derived.Test.YtmjincdnhmkmhaaDoorJmk
set_option linter.unusedSimpArgs false
set_option linter.unusedVariables false
namespace Go.Proofs.YtmjincdnhmkmhaaDoor
open Go.Sx Go.RowKit

def jbL (a : List Int) : LV := .a (.agg [.run [.i8, .u16] 2 a])
noncomputable def ILjm  : List (FuncId × Func × (Nat → LM)) := [
  ]
theorem ILjm_ok  : InlsOk Tryd.prog ILjm := trivial
def jbI (a : List Int) : LV := .a (.agg [.int .i8 (a.getD 0 0), .int .u16 (a.getD 1 0)])
theorem x_toJob (a : List Int) : Fex true TT (inlN true TT C0 (lookI []) 4) C0 U0 Tryd.f13 [jbL a] [] (fun lv _ => leL lv (jbI a)) := by
  refine Go.Sx.by_eq (q := True ∧ True ∧ True ∧ True ∧ True ∧ True ∧ True ∧ True ∧ True ∧ True ∧ True ∧ True ∧ True ∧ (IntKind.i8 = IntKind.i8 ∧ List.getD a (0 : Nat) (0 : Int) = List.getD a (0 : Nat) (0 : Int)) ∧ (IntKind.u16 = IntKind.u16 ∧ List.getD a (1 : Nat) (0 : Int) = List.getD a (1 : Nat) (0 : Int)) ∧ True) (by kernel_rfl) ?_
  simp
theorem x_eqJob (a b : List Int) : Fex true TT (inlN true TT C0 (lookI []) 4) C0 U0 Tryd.f21 [jbL a, jbL b] [] (fun lv _ => leL lv (.a (.c (.bool (eqE 2 a b))))) := by
  refine Go.Sx.by_eq (q := True ∧ True ∧ True ∧ True ∧ True ∧ True ∧ True ∧ True ∧ ((List.getD a (0 : Nat) (0 : Int) != List.getD b (0 : Nat) (0 : Int)) = Bool.true → True ∧ eqE (2 : Nat) a b = Bool.false) ∧ ((List.getD a (0 : Nat) (0 : Int) != List.getD b (0 : Nat) (0 : Int)) = Bool.false → True ∧ True ∧ True ∧ True ∧ True ∧ ((List.getD a (1 : Nat) (0 : Int) != List.getD b (1 : Nat) (0 : Int)) = Bool.true → True ∧ eqE (2 : Nat) a b = Bool.false) ∧ ((List.getD a (1 : Nat) (0 : Int) != List.getD b (1 : Nat) (0 : Int)) = Bool.false → True ∧ eqE (2 : Nat) a b = Bool.true))) (by kernel_rfl) ?_
  simp only [eqE2]
  cases h0 : (a.getD 0 0 == b.getD 0 0) <;> cases h1 : (a.getD 1 0 == b.getD 1 0) <;> simp_all
def gJob : Entry := fun args _ => match args with
  | [.a (.agg [.run [.i8, .u16] 2 a])] => some (True, jbI a)
  | _ => none
def gEqJb : Entry := fun args _ => match args with
  | [.a (.agg [.run [.i8, .u16] 2 a]), .a (.agg [.run [.i8, .u16] 2 b])] => some (True, .a (.c (.bool (eqE 2 a b))))
  | _ => none
theorem e_toJob : EntryOk Tryd.prog TT 13 gJob := by
  refine ⟨fnOk Tryd.func13 (by kernel_rfl) rfl, ?_⟩
  intro args H p r he hp n0 w0 β w vals hG hH hA
  unfold gJob at he
  split at he
  · simp only [Option.some.injEq, Prod.mk.injEq] at he
    obtain ⟨rfl, rfl⟩ := he
    exact entry_bare tt_ok (inlN_ok tt_ok C0_ok mixed (ILjm_ok).ok 4) C0_ok mixed Tryd.func13 (x_toJob _) rfl rfl hG hH hA
  · simp at he

theorem e_eqJob : EntryOk Tryd.prog TT 21 gEqJb := by
  refine ⟨fnOk Tryd.func21 (by kernel_rfl) rfl, ?_⟩
  intro args H p r he hp n0 w0 β w vals hG hH hA
  unfold gEqJb at he
  split at he
  · simp only [Option.some.injEq, Prod.mk.injEq] at he
    obtain ⟨rfl, rfl⟩ := he
    exact entry_bare tt_ok (inlN_ok tt_ok C0_ok mixed (ILjm_ok).ok 4) C0_ok mixed Tryd.func21 (x_eqJob _ _) rfl rfl hG hH hA
  · simp at he

def Em0 : List (FuncId × Entry) := [(13, gJob), (21, gEqJb)]
theorem Em0_ok : EntriesOk Tryd.prog TT Em0 := ⟨e_toJob, e_eqJob, trivial⟩
abbrev Cm0 : Ctr := ctrOf Em0
theorem Cm0_ok : CtrOk Tryd.prog TT Cm0 := ctrOf_ok Em0_ok

theorem x_szJobS (b : Nat) (i : Int) (s : Nat) (len cap left : Int) (h1 : 0 ≤ len) (h2 : len ≤ 9223372036854775807) (h3 : 0 ≤ left) (h4 : left ≤ 1048576) : Fex true TT (inlN true TT C0 (lookI []) 1) C0 U0 Tryd.f4 [.a (.c (.slc 0 b i s len cap)), .a (.c (.int .i64 left))] [.dead] (fun lv _ => leL lv (.a (.c (.int .i64 (szF left len))))) := by
  refine Go.Sx.by_eq (q := True ∧ True ∧ True ∧ True ∧ ((-9223372036854775808 : Int) ≤ left - len ∧ left - len ≤ (9223372036854775807 : Int)) ∧ True ∧ True ∧ True ∧ (Decidable.decide (left - len < (0 : Int)) = Bool.true → True ∧ IntKind.i64 = IntKind.i64 ∧ (-1 : Int) = szF left len) ∧ (Decidable.decide (left - len < (0 : Int)) = Bool.false → True ∧ True ∧ IntKind.i64 = IntKind.i64 ∧ left - len = szF left len)) (by kernel_rfl) ?_
  simp only [true_and, and_true, and_self, decide_eq_true_eq, decide_eq_false_iff_not, Bool.not_eq_true', Bool.not_eq_false', Bool.not_true, Bool.not_false, beq_iff_eq, beq_eq_false_iff_ne, bne_iff_ne, bne_eq_false_iff_eq, ne_eq, not_true_eq_false, not_false_eq_true, false_implies, true_implies, implies_true, forall_const, exists_const, ↓reduceIte, Int.reduceEq, Int.toNat_natCast, Bool.false_eq_true, Bool.true_eq_false, reduceCtorEq]
  refine ⟨⟨by omega, by omega⟩, fun h => by simp [szF, h], fun h => ?_⟩
  rw [szF, if_neg h]

theorem e_szJobS : EntryOk Tryd.prog TT 4 gSzR := by
  refine ⟨fnOk Tryd.func4 (by kernel_rfl) rfl, ?_⟩
  intro args H p r he hp n0 w0 β w vals hG hH hA
  unfold gSzR at he
  split at he
  · rename_i id b i s len cap left
    simp only [Option.some.injEq, Prod.mk.injEq] at he
    obtain ⟨rfl, rfl⟩ := he
    obtain ⟨h1, h2, h3, h4⟩ := hp
    exact entry_view tt_ok (inlN_ok tt_ok C0_ok mixed (InlsOk.ok (L := []) trivial) 1) C0_ok mixed Tryd.func4 [id] (x_szJobS b i s len cap left h1 h2 h3 h4) rfl rfl ⟨.inl rfl, trivial⟩ hG hH hA
  · simp at he

theorem x_toJobS (b n : Nat) (l : List Int) (len cap : Int) (h1 : 0 ≤ len) (h2 : len ≤ 1048576) (h3 : len.toNat * 2 ≤ n) (h4 : l.length = n) : Fex true TT (inlN true TT Cm0 (lookI ILjm) 4) Cm0 (fun _ => .inv (lmToR 2 [.i8, .u16] 4 1 len l)) Tryd.f6 [.a (.c (.slc 0 b 0 2 len cap))] [.wnd b [.i8, .u16] n l] (fun lv H' => ∃ _ : Unit, True ∧ leSt ⟨[lv], H'⟩ ⟨[rnL ([0].length + ·) (.a (.c (.slc 0 0 0 2 len len)))], deadsN [0].length ++ [.cells true 35 [.run [.i8, .u16] (len.toNat * 2) (l.take (len.toNat * 2))]]⟩ [0].length [1]) := by
  refine Go.Sx.by_eq (q := True ∧ True ∧ True ∧ ((0 : Int) ≤ len ∧ len ≤ len ∧ len ≤ (9223372036854775807 : Int) ∧ (↑(4 : Nat) : Int) * len ≤ (281474976710656 : Int)) ∧ True ∧ True ∧ (∃ (x : Nat), x ≤ Int.toNat len ∧ (Cel.slc (0 : Nat) b (0 : Int) (2 : Nat) len cap = Cel.slc (0 : Nat) b (0 : Int) (2 : Nat) len cap ∧ Cel.val Go.undef = Cel.val Go.undef ∧ Cel.val (Go.Value.slice Option.none (0 : Nat) (0 : Nat)) = Cel.val (Go.Value.slice Option.none (0 : Nat) (0 : Nat)) ∧ Cel.slc (1 : Nat) (0 : Nat) (0 : Int) (2 : Nat) len len = Cel.slc (1 : Nat) (0 : Nat) (0 : Int) (2 : Nat) len len ∧ (IntKind.i64 = IntKind.i64 ∧ (0 : Int) = (↑x : Int)) ∧ Cel.slc (0 : Nat) b (0 : Int) (2 : Nat) len cap = Cel.slc (0 : Nat) b (0 : Int) (2 : Nat) len cap ∧ (IntKind.i64 = IntKind.i64 ∧ len = len) ∧ Cel.slc (1 : Nat) (0 : Nat) (0 : Int) (2 : Nat) len len = Cel.slc (1 : Nat) (0 : Nat) (0 : Int) (2 : Nat) len len ∧ True ∧ True ∧ True ∧ True ∧ True ∧ True ∧ True ∧ True ∧ True ∧ True ∧ True ∧ True ∧ True ∧ True ∧ Cel.val Go.undef = Cel.val Go.undef ∧ True) ∧ (b = b ∧ [EK.i8, EK.u16] = [EK.i8, EK.u16] ∧ n = n ∧ l = l) ∧ (Bool.true = Bool.true ∧ (35 : Nat) = (35 : Nat) ∧ ([EK.i8, EK.u16] = [EK.i8, EK.u16] ∧ Int.toNat len * (2 : Nat) = Int.toNat len * (2 : Nat) ∧ List.replicate (Int.toNat len * (2 : Nat)) (0 : Int) = mkN (Int.toNat len * (2 : Nat)) (toFr (x * (2 : Nat)) l)) ∧ True) ∧ True) ∧ ∀ (x : Nat), x ≤ Int.toNat len → True ∧ True ∧ True ∧ True ∧ (Decidable.decide ((↑x : Int) < len) = Bool.true → True ∧ True ∧ True ∧ True ∧ ((0 : Int) ≤ (↑x : Int) ∧ (↑x : Int) < len) ∧ (b = b ∧ (0 : Int) ≤ (0 : Int) + (↑x : Int) ∧ Int.toNat ((0 : Int) + (↑x : Int)) * (2 : Nat) + (0 : Nat) + (2 : Nat) ≤ n) ∧ True ∧ ((0 : Int) ≤ (↑x : Int) ∧ (↑x : Int) < len) ∧ ((0 : Int) ≤ (0 : Int) + (↑x : Int) ∧ Int.toNat ((0 : Int) + (↑x : Int)) * (2 : Nat) + (0 : Nat) + (2 : Nat) ≤ Int.toNat len * (2 : Nat)) ∧ True ∧ ((-9223372036854775808 : Int) ≤ (↑x : Int) + (1 : Int) ∧ (↑x : Int) + (1 : Int) ≤ (9223372036854775807 : Int)) ∧ True ∧ ∃ (y : Nat), y ≤ Int.toNat len ∧ Int.toNat len - y < Int.toNat len - x ∧ (Cel.slc (0 : Nat) b (0 : Int) (2 : Nat) len cap = Cel.slc (0 : Nat) b (0 : Int) (2 : Nat) len cap ∧ Cel.val Go.undef = Cel.val Go.undef ∧ Cel.val (Go.Value.slice Option.none (0 : Nat) (0 : Nat)) = Cel.val (Go.Value.slice Option.none (0 : Nat) (0 : Nat)) ∧ Cel.slc (1 : Nat) (0 : Nat) (0 : Int) (2 : Nat) len len = Cel.slc (1 : Nat) (0 : Nat) (0 : Int) (2 : Nat) len len ∧ (IntKind.i64 = IntKind.i64 ∧ (↑x : Int) + (1 : Int) = (↑y : Int)) ∧ Cel.slc (0 : Nat) b (0 : Int) (2 : Nat) len cap = Cel.slc (0 : Nat) b (0 : Int) (2 : Nat) len cap ∧ (IntKind.i64 = IntKind.i64 ∧ len = len) ∧ Cel.slc (1 : Nat) (0 : Nat) (0 : Int) (2 : Nat) len len = Cel.slc (1 : Nat) (0 : Nat) (0 : Int) (2 : Nat) len len ∧ True ∧ True ∧ True ∧ True ∧ True ∧ True ∧ True ∧ True ∧ True ∧ True ∧ True ∧ True ∧ True ∧ True ∧ Cel.val Go.undef = Cel.val Go.undef ∧ True) ∧ (b = b ∧ [EK.i8, EK.u16] = [EK.i8, EK.u16] ∧ n = n ∧ l = l) ∧ (Bool.true = Bool.true ∧ (35 : Nat) = (35 : Nat) ∧ ([EK.i8, EK.u16] = [EK.i8, EK.u16] ∧ Int.toNat len * (2 : Nat) = Int.toNat len * (2 : Nat) ∧ List.take (Int.toNat ((0 : Int) + (↑x : Int)) * (2 : Nat) + (0 : Nat)) (mkN (Int.toNat len * (2 : Nat)) (toFr (x * (2 : Nat)) l)) ++ [List.getD (List.take (2 : Nat) (List.drop (Int.toNat ((0 : Int) + (↑x : Int)) * (2 : Nat) + (0 : Nat)) l)) (0 : Nat) (0 : Int), List.getD (List.take (2 : Nat) (List.drop (Int.toNat ((0 : Int) + (↑x : Int)) * (2 : Nat) + (0 : Nat)) l)) (1 : Nat) (0 : Int)] ++ List.drop (Int.toNat ((0 : Int) + (↑x : Int)) * (2 : Nat) + (0 : Nat) + (2 : Nat)) (mkN (Int.toNat len * (2 : Nat)) (toFr (x * (2 : Nat)) l)) = mkN (Int.toNat len * (2 : Nat)) (toFr (y * (2 : Nat)) l)) ∧ True) ∧ True) ∧ (Decidable.decide ((↑x : Int) < len) = Bool.false → True ∧ True ∧ ∃ (x_1 : Unit), True ∧ (Cel.slc (1 : Nat) (0 : Nat) (0 : Int) (2 : Nat) len len = Cel.slc (1 : Nat) (0 : Nat) (0 : Int) (2 : Nat) len len ∧ True) ∧ True ∧ (Bool.true = Bool.true ∧ (35 : Nat) = (35 : Nat) ∧ ([EK.i8, EK.u16] = [EK.i8, EK.u16] ∧ Int.toNat len * (2 : Nat) = Int.toNat len * (2 : Nat) ∧ mkN (Int.toNat len * (2 : Nat)) (toFr (x * (2 : Nat)) l) = List.take (Int.toNat len * (2 : Nat)) l) ∧ True) ∧ True)) (by kernel_rfl) ?_
  simp only [true_and, and_true, and_self, decide_eq_true_eq, decide_eq_false_iff_not, Bool.not_eq_true', Bool.not_eq_false', Bool.not_true, Bool.not_false, beq_iff_eq, beq_eq_false_iff_ne, bne_iff_ne, bne_eq_false_iff_eq, ne_eq, not_true_eq_false, not_false_eq_true, false_implies, true_implies, implies_true, forall_const, exists_const, ↓reduceIte, Int.reduceEq, Int.toNat_natCast, Bool.false_eq_true, Bool.true_eq_false, reduceCtorEq, Int.zero_add, Nat.add_zero, getD_take', getD_drop', List.append_nil]
  have hlen : (len.toNat : Int) = len := by omega
  refine ⟨⟨by omega, by omega, by omega, by omega⟩, ⟨0, by omega, rfl, ?_⟩, ?_⟩
  · exact to_zero
  intro k hk
  refine ⟨fun hlt => ?_, fun hge => ?_⟩
  · have hstep : ∀ (xs : List Int) (c : Nat), xs.length = 2 → (∀ j, j < 2 → xs.getD j 0 = l.getD (k * 2 + j) 0) → c = k * 2 + 2 → (mkN (len.toNat * 2) (toFr (k * 2) l)).take (k * 2) ++ xs ++ (mkN (len.toNat * 2) (toFr (k * 2) l)).drop c = mkN (len.toNat * 2) (toFr ((k + 1) * 2) l) := fun xs c h1 h2 h3 => to_step h1 (by omega) h2 h3
    repeat' (first | omega | apply And.intro)
    all_goals try (first | exact tk_len (by omega))
    refine ⟨k + 1, by omega, by omega, by omega, ?_⟩
    refine hstep _ _ ?_ (fun j hj => ?_) (by omega)
    · first | rfl | exact tk_len (by omega)
    · first | exact rcd_get hj | (rcases (show j = 0 ∨ j = 1 by omega) with rfl | rfl <;> simp)
  · first | exact to_end (by omega) (by omega) | exact (to_end (by omega) (by omega)).symm

theorem e_toJobS : EntryCOk Tryd.prog TT 6 (gToR 35 2 [.i8, .u16]) := by
  refine ⟨fnOk Tryd.func6 (by kernel_rfl) rfl, ?_⟩
  intro args H K h n0 w0 β w vals hG hH hA
  unfold gToR at h
  split at h
  · split at h
    · rename_i id b i s len cap _ o ks n l hg
      obtain ⟨⟨rfl, rfl, rfl, rfl, hl, h1, h2, h3⟩, hk⟩ := h
      have hk := withLenP_sound hk
      refine (entry_fresh tt_ok (inlN_ok tt_ok Cm0_ok mixed ILjm_ok.ok 4) Cm0_ok mixed Tryd.func6 [id] (x_toJobS b n l len cap h1 h2 h3 hl) rfl (fun _ => rfl) (fun _ => rfl) ⟨.inr (by rw [hg]; rfl), trivial⟩ hG hH hA).mono ?_
      rintro e w' ⟨v, γ, x, rfl, _, h5, h6⟩
      exact ⟨v, γ, _, _, rfl, hk, h5, h6⟩
    · exact h.elim
  · exact h.elim

theorem x_eqJobS (n1 n2 : Nat) (l1 l2 : List Int) (c1 c2 len1 len2 : Int) (h1 : 0 ≤ len1) (h2 : len1 ≤ 1048576) (h3 : 0 ≤ len2) (h4 : len1.toNat * 2 ≤ n1) (h5 : len2.toNat * 2 ≤ n2) (e1 : l1.length = n1) (e2 : l2.length = n2) : Fex true TT (inlN true TT Cm0 (lookI ILjm) 4) Cm0 (fun _ => .inv (lmEq 5 2 len1 l1 l2)) Tryd.f8 [.a (.c (.slc 0 0 0 2 len1 c1)), .a (.c (.slc 1 0 0 2 len2 c2))] [.cells false 35 [.run [.i8, .u16] n1 l1], .cells false 35 [.run [.i8, .u16] n2 l2]] (fun lv _ => leL lv (.a (.c (.bool (eqSl 2 len1 len2 l1 l2))))) := by
  refine Go.Sx.by_eq (q := True ∧ True ∧ True ∧ True ∧ True ∧ True ∧ ((len1 != len2) = Bool.true → True ∧ eqSl (2 : Nat) len1 len2 l1 l2 = Bool.false) ∧ ((len1 != len2) = Bool.false → True ∧ (∃ (x : Nat), (x ≤ Int.toNat len1 ∧ ∀ (i : Nat), i < x * (2 : Nat) → List.getD l1 i (0 : Int) = List.getD l2 i (0 : Int)) ∧ (Cel.slc (0 : Nat) (0 : Nat) (0 : Int) (2 : Nat) len1 c1 = Cel.slc (0 : Nat) (0 : Nat) (0 : Int) (2 : Nat) len1 c1 ∧ Cel.slc (1 : Nat) (0 : Nat) (0 : Int) (2 : Nat) len2 c2 = Cel.slc (1 : Nat) (0 : Nat) (0 : Int) (2 : Nat) len2 c2 ∧ Cel.val Go.undef = Cel.val Go.undef ∧ Cel.val Go.undef = Cel.val Go.undef ∧ True ∧ (IntKind.i64 = IntKind.i64 ∧ (0 : Int) = (↑x : Int)) ∧ Cel.slc (0 : Nat) (0 : Nat) (0 : Int) (2 : Nat) len1 c1 = Cel.slc (0 : Nat) (0 : Nat) (0 : Int) (2 : Nat) len1 c1 ∧ (IntKind.i64 = IntKind.i64 ∧ len1 = len1) ∧ Cel.slc (1 : Nat) (0 : Nat) (0 : Int) (2 : Nat) len2 c2 = Cel.slc (1 : Nat) (0 : Nat) (0 : Int) (2 : Nat) len2 c2 ∧ (IntKind.i64 = IntKind.i64 ∧ len2 = len2) ∧ (len1 != len2) = (len1 != len2) ∧ True ∧ True ∧ True ∧ True ∧ True ∧ True ∧ True ∧ True ∧ True ∧ True ∧ True ∧ True ∧ True ∧ True ∧ True ∧ True ∧ True) ∧ (Bool.false = Bool.false ∧ (35 : Nat) = (35 : Nat) ∧ ([EK.i8, EK.u16] = [EK.i8, EK.u16] ∧ n1 = n1 ∧ l1 = l1) ∧ True) ∧ (Bool.false = Bool.false ∧ (35 : Nat) = (35 : Nat) ∧ ([EK.i8, EK.u16] = [EK.i8, EK.u16] ∧ n2 = n2 ∧ l2 = l2) ∧ True) ∧ True) ∧ ∀ (x : Nat), (x ≤ Int.toNat len1 ∧ ∀ (i : Nat), i < x * (2 : Nat) → List.getD l1 i (0 : Int) = List.getD l2 i (0 : Int)) → True ∧ True ∧ True ∧ True ∧ (Decidable.decide ((↑x : Int) < len1) = Bool.true → True ∧ True ∧ ((0 : Int) ≤ (↑x : Int) ∧ (↑x : Int) < len1) ∧ ((0 : Int) ≤ (0 : Int) + (↑x : Int) ∧ Int.toNat ((0 : Int) + (↑x : Int)) * (2 : Nat) + (0 : Nat) + (2 : Nat) ≤ n1) ∧ True ∧ True ∧ ((0 : Int) ≤ (↑x : Int) ∧ (↑x : Int) < len2) ∧ ((0 : Int) ≤ (0 : Int) + (↑x : Int) ∧ Int.toNat ((0 : Int) + (↑x : Int)) * (2 : Nat) + (0 : Nat) + (2 : Nat) ≤ n2) ∧ True ∧ True ∧ ((!eqE (2 : Nat) (List.take (2 : Nat) (List.drop (Int.toNat ((0 : Int) + (↑x : Int)) * (2 : Nat) + (0 : Nat)) l1)) (List.take (2 : Nat) (List.drop (Int.toNat ((0 : Int) + (↑x : Int)) * (2 : Nat) + (0 : Nat)) l2))) = Bool.true → True ∧ eqSl (2 : Nat) len1 len2 l1 l2 = Bool.false) ∧ ((!eqE (2 : Nat) (List.take (2 : Nat) (List.drop (Int.toNat ((0 : Int) + (↑x : Int)) * (2 : Nat) + (0 : Nat)) l1)) (List.take (2 : Nat) (List.drop (Int.toNat ((0 : Int) + (↑x : Int)) * (2 : Nat) + (0 : Nat)) l2))) = Bool.false → True ∧ ((-9223372036854775808 : Int) ≤ (↑x : Int) + (1 : Int) ∧ (↑x : Int) + (1 : Int) ≤ (9223372036854775807 : Int)) ∧ True ∧ ∃ (y : Nat), (y ≤ Int.toNat len1 ∧ ∀ (i : Nat), i < y * (2 : Nat) → List.getD l1 i (0 : Int) = List.getD l2 i (0 : Int)) ∧ Int.toNat len1 - y < Int.toNat len1 - x ∧ (Cel.slc (0 : Nat) (0 : Nat) (0 : Int) (2 : Nat) len1 c1 = Cel.slc (0 : Nat) (0 : Nat) (0 : Int) (2 : Nat) len1 c1 ∧ Cel.slc (1 : Nat) (0 : Nat) (0 : Int) (2 : Nat) len2 c2 = Cel.slc (1 : Nat) (0 : Nat) (0 : Int) (2 : Nat) len2 c2 ∧ Cel.val Go.undef = Cel.val Go.undef ∧ Cel.val Go.undef = Cel.val Go.undef ∧ True ∧ (IntKind.i64 = IntKind.i64 ∧ (↑x : Int) + (1 : Int) = (↑y : Int)) ∧ Cel.slc (0 : Nat) (0 : Nat) (0 : Int) (2 : Nat) len1 c1 = Cel.slc (0 : Nat) (0 : Nat) (0 : Int) (2 : Nat) len1 c1 ∧ (IntKind.i64 = IntKind.i64 ∧ len1 = len1) ∧ Cel.slc (1 : Nat) (0 : Nat) (0 : Int) (2 : Nat) len2 c2 = Cel.slc (1 : Nat) (0 : Nat) (0 : Int) (2 : Nat) len2 c2 ∧ (IntKind.i64 = IntKind.i64 ∧ len2 = len2) ∧ (len1 != len2) = (len1 != len2) ∧ True ∧ True ∧ True ∧ True ∧ True ∧ True ∧ True ∧ True ∧ True ∧ True ∧ True ∧ True ∧ True ∧ True ∧ True ∧ True ∧ True) ∧ (Bool.false = Bool.false ∧ (35 : Nat) = (35 : Nat) ∧ ([EK.i8, EK.u16] = [EK.i8, EK.u16] ∧ n1 = n1 ∧ l1 = l1) ∧ True) ∧ (Bool.false = Bool.false ∧ (35 : Nat) = (35 : Nat) ∧ ([EK.i8, EK.u16] = [EK.i8, EK.u16] ∧ n2 = n2 ∧ l2 = l2) ∧ True) ∧ True)) ∧ (Decidable.decide ((↑x : Int) < len1) = Bool.false → True ∧ eqSl (2 : Nat) len1 len2 l1 l2 = Bool.true))) (by kernel_rfl) ?_
  have e0 : ∀ a b : List Int, eqE 2 a b = eqE 2 a b := fun a b => by rfl
  simp only [e0]
  simp only [true_and, and_true, and_self, decide_eq_true_eq, decide_eq_false_iff_not, Bool.not_eq_true', Bool.not_eq_false', Bool.not_true, Bool.not_false, beq_iff_eq, beq_eq_false_iff_ne, bne_iff_ne, bne_eq_false_iff_eq, ne_eq, not_true_eq_false, not_false_eq_true, false_implies, true_implies, implies_true, forall_const, exists_const, ↓reduceIte, Int.reduceEq, Int.toNat_natCast, Bool.false_eq_true, Bool.true_eq_false, reduceCtorEq, Int.zero_add, Nat.add_zero]
  refine ⟨fun h => eqSl_ne h, fun hn => ⟨⟨0, ⟨by omega, fun i hi => by omega⟩, rfl⟩, ?_⟩⟩
  rintro k ⟨hk, hp⟩
  refine ⟨fun hlt => ?_, fun hge => eqSl_yes hn (by omega) (by omega) fun i hi => hp i (by omega)⟩
  repeat' (first | omega | apply And.intro)
  · exact fun hc => by first | exact eqE_stop (by omega) hc | exact eqE_stop' (by omega) (by omega) (by omega) hc
  · exact fun hc => ⟨by omega, k + 1, ⟨by omega, by first | exact eqE_step hp hc | exact eqE_step' (by omega) (by omega) hp hc⟩, by omega, by omega⟩

theorem e_eqJobS : EntryOk Tryd.prog TT 8 (gEqR 35 2 [.i8, .u16]) := by
  refine ⟨fnOk Tryd.func8 (by kernel_rfl) rfl, ?_⟩
  intro args H p r he hp n0 w0 β w vals hG hH hA
  obtain ⟨i1, i2, o1, o2, n1, n2, l1, l2, c1, c2, len1, len2, rfl, hg1, hg2, rfl, h1, h2, h3, h4, h5, h6, h7⟩ := gEqR_inv he hp
  exact entry_view tt_ok (inlN_ok tt_ok Cm0_ok mixed ILjm_ok.ok 4) Cm0_ok mixed Tryd.func8 [i1, i2] (x_eqJobS n1 n2 l1 l2 c1 c2 len1 len2 h1 h2 h3 h4 h5 h6 h7) rfl rfl ⟨.inr (by rw [hg1]; rfl), .inr (by rw [hg2]; rfl), trivial⟩ hG hH hA

def Em1 : List (FuncId × Entry) := (4, gSzR) :: (8, gEqR 35 2 [.i8, .u16]) :: Em0
theorem Em1_ok : EntriesOk Tryd.prog TT Em1 := ⟨e_szJobS, e_eqJobS, Em0_ok⟩
def Mm1 : List (FuncId × EntryC) := [(6, gToR 35 2 [.i8, .u16])]
theorem Mm1_ok : EntriesCOk Tryd.prog TT Mm1 := ⟨e_toJobS, trivial⟩

/-- A copy that is marked: what it holds then is of no account. -/
theorem ws_jw {n : Nat} {l : List Int} {len cap : Int} (ws : WS [.i8, .u16] 2 n l len cap) : (∀ k, k < len.toNat → -128 ≤ (l.take (len.toNat * 2)).getD (k * 2) 0 ∧ (l.take (len.toNat * 2)).getD (k * 2) 0 ≤ 127) ∧ ∀ k, k < len.toNat → 0 ≤ (l.take (len.toNat * 2)).getD (k * 2 + 1) 0 ∧ (l.take (len.toNat * 2)).getD (k * 2 + 1) 0 ≤ 65535 := by
  have hn := ws.hn
  constructor
  · intro k hk
    rw [getD_take' (by omega)]
    have h := ws.wf (k * 2) (by omega)
    generalize l.getD (k * 2) 0 = v at *
    have e : k * 2 % 2 = 0 := by omega
    simp [e, Lit.wf, IntKind.min, IntKind.max, IntKind.signed, IntKind.bits] at h
    omega
  · intro k hk
    rw [getD_take' (by omega)]
    have h := ws.wf (k * 2 + 1) (by omega)
    generalize l.getD (k * 2 + 1) 0 = v at *
    have e : (k * 2 + 1) % 2 = 1 := by omega
    simp [e, Lit.wf, IntKind.min, IntKind.max, IntKind.signed, IntKind.bits] at h
    omega

end Go.Proofs.YtmjincdnhmkmhaaDoor
