/- Kinds of pieces: copies, comparisons, ValidKinds on both sides. No conditions beyond the ranges of the kinds. -/
import Derived.Test.YtchnopgjnpgjaaaRec
set_option linter.unusedSimpArgs false
set_option linter.unusedVariables false
namespace Go.Proofs.Ytchnopgjnpgjaaa
open Go.Sx Go.RowKit

def kdL (a : List Int) : LV := .a (.agg [.run [.i8, .i8, .i16] 3 a])
theorem list3 {a : List Int} (h : a.length = 3) : ∃ x y z, a = [x, y, z] := match a, h with | [x, y, z], _ => ⟨x, y, z, rfl⟩
noncomputable def ILz  : List (FuncId × Func × (Nat → LM)) := [
  ]
theorem ILz_ok  : InlsOk Try.prog ILz := trivial

def kdI (a : List Int) : LV := .a (.agg [.int .i8 (a.getD 0 0), .int .i8 (a.getD 1 0), .int .i16 (a.getD 2 0)])
theorem x_toKind (a : List Int) : Fex true TT (inlN true TT C0 (lookI []) 4) C0 U0 Try.f62 [kdL a] [] (fun lv _ => leL lv (kdI a)) := by
  refine Go.Sx.by_eq (q := True ∧ True ∧ True ∧ True ∧ True ∧ True ∧ True ∧ True ∧ True ∧ True ∧ True ∧ True ∧ True ∧ True ∧ True ∧ True ∧ True ∧ (Go.IntKind.i8 = Go.IntKind.i8 ∧ List.getD a (0 : Nat) (0 : Int) = List.getD a (0 : Nat) (0 : Int)) ∧ (Go.IntKind.i8 = Go.IntKind.i8 ∧ List.getD a (1 : Nat) (0 : Int) = List.getD a (1 : Nat) (0 : Int)) ∧ (Go.IntKind.i16 = Go.IntKind.i16 ∧ List.getD a (2 : Nat) (0 : Int) = List.getD a (2 : Nat) (0 : Int)) ∧ True) (by kernel_rfl) ?_
  simp
theorem x_eqKind (a b : List Int) : Fex true TT (inlN true TT C0 (lookI []) 4) C0 U0 Try.f64 [kdL a, kdL b] [] (fun lv _ => leL lv (.a (.c (.bool (eqE 3 a b))))) := by
  refine Go.Sx.by_eq (q := True ∧ True ∧ True ∧ True ∧ True ∧ True ∧ True ∧ True ∧ ((List.getD a (0 : Nat) (0 : Int) != List.getD b (0 : Nat) (0 : Int)) = Bool.true → True ∧ eqE (3 : Nat) a b = Bool.false) ∧ ((List.getD a (0 : Nat) (0 : Int) != List.getD b (0 : Nat) (0 : Int)) = Bool.false → True ∧ True ∧ True ∧ True ∧ True ∧ ((List.getD a (1 : Nat) (0 : Int) != List.getD b (1 : Nat) (0 : Int)) = Bool.true → True ∧ eqE (3 : Nat) a b = Bool.false) ∧ ((List.getD a (1 : Nat) (0 : Int) != List.getD b (1 : Nat) (0 : Int)) = Bool.false → True ∧ True ∧ True ∧ True ∧ True ∧ ((List.getD a (2 : Nat) (0 : Int) != List.getD b (2 : Nat) (0 : Int)) = Bool.true → True ∧ eqE (3 : Nat) a b = Bool.false) ∧ ((List.getD a (2 : Nat) (0 : Int) != List.getD b (2 : Nat) (0 : Int)) = Bool.false → True ∧ eqE (3 : Nat) a b = Bool.true)))) (by kernel_rfl) ?_
  simp only [eqE3]
  cases h0 : (a.getD 0 0 == b.getD 0 0) <;> cases h1 : (a.getD 1 0 == b.getD 1 0) <;> cases h2 : (a.getD 2 0 == b.getD 2 0) <;> simp_all

def gKd : Entry := fun args _ => match args with
  | [.a (.agg [.run [.i8, .i8, .i16] 3 a])] => some (True, kdI a)
  | _ => none
def gEqK : Entry := fun args _ => match args with
  | [.a (.agg [.run [.i8, .i8, .i16] 3 a]), .a (.agg [.run [.i8, .i8, .i16] 3 b])] => some (True, .a (.c (.bool (eqE 3 a b))))
  | _ => none
theorem e_toKind : EntryOk Try.prog TT 62 gKd := by
  refine ⟨fnOk Try.func62 (by kernel_rfl) rfl, ?_⟩
  intro args H p r he hp n0 w0 β w vals hG hH hA
  unfold gKd at he
  split at he
  · simp only [Option.some.injEq, Prod.mk.injEq] at he
    obtain ⟨rfl, rfl⟩ := he
    exact entry_bare tt_ok (inlN_ok tt_ok C0_ok mixed (ILz_ok).ok 4) C0_ok mixed Try.func62 (x_toKind _) rfl rfl hG hH hA
  · simp at he

theorem e_eqKind : EntryOk Try.prog TT 64 gEqK := by
  refine ⟨fnOk Try.func64 (by kernel_rfl) rfl, ?_⟩
  intro args H p r he hp n0 w0 β w vals hG hH hA
  unfold gEqK at he
  split at he
  · simp only [Option.some.injEq, Prod.mk.injEq] at he
    obtain ⟨rfl, rfl⟩ := he
    exact entry_bare tt_ok (inlN_ok tt_ok C0_ok mixed (ILz_ok).ok 4) C0_ok mixed Try.func64 (x_eqKind _ _) rfl rfl hG hH hA
  · simp at he

def Ek0 : List (FuncId × Entry) := [(62, gKd), (64, gEqK)]
theorem Ek0_ok : EntriesOk Try.prog TT Ek0 := ⟨e_toKind, e_eqKind, trivial⟩
abbrev Ck0 : Ctr := ctrOf Ek0
theorem Ck0_ok : CtrOk Try.prog TT Ck0 := ctrOf_ok Ek0_ok

theorem x_szKindS (b : Nat) (i : Int) (s : Nat) (len cap left : Int) (h1 : 0 ≤ len) (h2 : len ≤ 9223372036854775807) (h3 : 0 ≤ left) (h4 : left ≤ 1048576) : Fex true TT (inlN true TT C0 (lookI []) 1) C0 U0 Try.f15 [.a (.c (.slc 0 b i s len cap)), .a (.c (.int .i64 left))] [.dead] (fun lv _ => leL lv (.a (.c (.int .i64 (szF left len))))) := by
  refine Go.Sx.by_eq (q := True ∧ True ∧ True ∧ True ∧ ((-9223372036854775808 : Int) ≤ left - len ∧ left - len ≤ (9223372036854775807 : Int)) ∧ True ∧ True ∧ True ∧ (Decidable.decide (left - len < (0 : Int)) = Bool.true → True ∧ Go.IntKind.i64 = Go.IntKind.i64 ∧ (-1 : Int) = szF left len) ∧ (Decidable.decide (left - len < (0 : Int)) = Bool.false → True ∧ True ∧ Go.IntKind.i64 = Go.IntKind.i64 ∧ left - len = szF left len)) (by kernel_rfl) ?_
  simp only [true_and, and_true, and_self, decide_eq_true_eq, decide_eq_false_iff_not, Bool.not_eq_true', Bool.not_eq_false', Bool.not_true, Bool.not_false, beq_iff_eq, beq_eq_false_iff_ne, bne_iff_ne, bne_eq_false_iff_eq, ne_eq, not_true_eq_false, not_false_eq_true, false_implies, true_implies, implies_true, forall_const, exists_const, ↓reduceIte, Int.reduceEq, Int.toNat_natCast, Bool.false_eq_true, Bool.true_eq_false, reduceCtorEq]
  refine ⟨⟨by omega, by omega⟩, fun h => by simp [szF, h], fun h => ?_⟩
  rw [szF, if_neg h]

theorem e_szKindS : EntryOk Try.prog TT 15 gSzR := by
  refine ⟨fnOk Try.func15 (by kernel_rfl) rfl, ?_⟩
  intro args H p r he hp n0 w0 β w vals hG hH hA
  unfold gSzR at he
  split at he
  · rename_i id b i s len cap left
    simp only [Option.some.injEq, Prod.mk.injEq] at he
    obtain ⟨rfl, rfl⟩ := he
    obtain ⟨h1, h2, h3, h4⟩ := hp
    exact entry_view tt_ok (inlN_ok tt_ok C0_ok mixed (InlsOk.ok (L := []) trivial) 1) C0_ok mixed Try.func15 [id] (x_szKindS b i s len cap left h1 h2 h3 h4) rfl rfl ⟨.inl rfl, trivial⟩ hG hH hA
  · simp at he

theorem x_toKindS (b n : Nat) (l : List Int) (len cap : Int) (h1 : 0 ≤ len) (h2 : len ≤ 1048576) (h3 : len.toNat * 3 ≤ n) (h4 : l.length = n) : Fex true TT (inlN true TT Ck0 (lookI ILz) 4) Ck0 (fun _ => .inv (lmToR 3 [.i8, .i8, .i16] 4 1 len l)) Try.f18 [.a (.c (.slc 0 b 0 3 len cap))] [.wnd b [.i8, .i8, .i16] n l] (fun lv H' => ∃ _ : Unit, True ∧ leSt ⟨[lv], H'⟩ ⟨[rnL ([0].length + ·) (.a (.c (.slc 0 0 0 3 len len)))], deadsN [0].length ++ [.cells true 91 [.run [.i8, .i8, .i16] (len.toNat * 3) (l.take (len.toNat * 3))]]⟩ [0].length [1]) := by
  refine Go.Sx.by_eq (q := True ∧ True ∧ True ∧ ((0 : Int) ≤ len ∧ len ≤ len ∧ len ≤ (9223372036854775807 : Int) ∧ (↑(4 : Nat) : Int) * len ≤ (281474976710656 : Int)) ∧ True ∧ True ∧ (∃ (x : Nat), x ≤ Int.toNat len ∧ (Go.Sx.Cel.slc (0 : Nat) b (0 : Int) (3 : Nat) len cap = Go.Sx.Cel.slc (0 : Nat) b (0 : Int) (3 : Nat) len cap ∧ Go.Sx.Cel.val Go.undef = Go.Sx.Cel.val Go.undef ∧ Go.Sx.Cel.val (Go.Value.slice Option.none (0 : Nat) (0 : Nat)) = Go.Sx.Cel.val (Go.Value.slice Option.none (0 : Nat) (0 : Nat)) ∧ Go.Sx.Cel.slc (1 : Nat) (0 : Nat) (0 : Int) (3 : Nat) len len = Go.Sx.Cel.slc (1 : Nat) (0 : Nat) (0 : Int) (3 : Nat) len len ∧ (Go.IntKind.i64 = Go.IntKind.i64 ∧ (0 : Int) = (↑x : Int)) ∧ Go.Sx.Cel.slc (0 : Nat) b (0 : Int) (3 : Nat) len cap = Go.Sx.Cel.slc (0 : Nat) b (0 : Int) (3 : Nat) len cap ∧ (Go.IntKind.i64 = Go.IntKind.i64 ∧ len = len) ∧ Go.Sx.Cel.slc (1 : Nat) (0 : Nat) (0 : Int) (3 : Nat) len len = Go.Sx.Cel.slc (1 : Nat) (0 : Nat) (0 : Int) (3 : Nat) len len ∧ True ∧ True ∧ True ∧ True ∧ True ∧ True ∧ True ∧ True ∧ True ∧ True ∧ True ∧ True ∧ True ∧ True ∧ Go.Sx.Cel.val Go.undef = Go.Sx.Cel.val Go.undef ∧ True) ∧ (b = b ∧ [Go.Sx.EK.i8, Go.Sx.EK.i8, Go.Sx.EK.i16] = [Go.Sx.EK.i8, Go.Sx.EK.i8, Go.Sx.EK.i16] ∧ n = n ∧ l = l) ∧ (Bool.true = Bool.true ∧ (91 : Nat) = (91 : Nat) ∧ ([Go.Sx.EK.i8, Go.Sx.EK.i8, Go.Sx.EK.i16] = [Go.Sx.EK.i8, Go.Sx.EK.i8, Go.Sx.EK.i16] ∧ Int.toNat len * (3 : Nat) = Int.toNat len * (3 : Nat) ∧ List.replicate (Int.toNat len * (3 : Nat)) (0 : Int) = mkN (Int.toNat len * (3 : Nat)) (toFr (x * (3 : Nat)) l)) ∧ True) ∧ True) ∧ ∀ (x : Nat), x ≤ Int.toNat len → True ∧ True ∧ True ∧ True ∧ (Decidable.decide ((↑x : Int) < len) = Bool.true → True ∧ True ∧ True ∧ True ∧ ((0 : Int) ≤ (↑x : Int) ∧ (↑x : Int) < len) ∧ (b = b ∧ (0 : Int) ≤ (0 : Int) + (↑x : Int) ∧ Int.toNat ((0 : Int) + (↑x : Int)) * (3 : Nat) + (0 : Nat) + (3 : Nat) ≤ n) ∧ True ∧ ((0 : Int) ≤ (↑x : Int) ∧ (↑x : Int) < len) ∧ ((0 : Int) ≤ (0 : Int) + (↑x : Int) ∧ Int.toNat ((0 : Int) + (↑x : Int)) * (3 : Nat) + (0 : Nat) + (3 : Nat) ≤ Int.toNat len * (3 : Nat)) ∧ True ∧ ((-9223372036854775808 : Int) ≤ (↑x : Int) + (1 : Int) ∧ (↑x : Int) + (1 : Int) ≤ (9223372036854775807 : Int)) ∧ True ∧ ∃ (y : Nat), y ≤ Int.toNat len ∧ Int.toNat len - y < Int.toNat len - x ∧ (Go.Sx.Cel.slc (0 : Nat) b (0 : Int) (3 : Nat) len cap = Go.Sx.Cel.slc (0 : Nat) b (0 : Int) (3 : Nat) len cap ∧ Go.Sx.Cel.val Go.undef = Go.Sx.Cel.val Go.undef ∧ Go.Sx.Cel.val (Go.Value.slice Option.none (0 : Nat) (0 : Nat)) = Go.Sx.Cel.val (Go.Value.slice Option.none (0 : Nat) (0 : Nat)) ∧ Go.Sx.Cel.slc (1 : Nat) (0 : Nat) (0 : Int) (3 : Nat) len len = Go.Sx.Cel.slc (1 : Nat) (0 : Nat) (0 : Int) (3 : Nat) len len ∧ (Go.IntKind.i64 = Go.IntKind.i64 ∧ (↑x : Int) + (1 : Int) = (↑y : Int)) ∧ Go.Sx.Cel.slc (0 : Nat) b (0 : Int) (3 : Nat) len cap = Go.Sx.Cel.slc (0 : Nat) b (0 : Int) (3 : Nat) len cap ∧ (Go.IntKind.i64 = Go.IntKind.i64 ∧ len = len) ∧ Go.Sx.Cel.slc (1 : Nat) (0 : Nat) (0 : Int) (3 : Nat) len len = Go.Sx.Cel.slc (1 : Nat) (0 : Nat) (0 : Int) (3 : Nat) len len ∧ True ∧ True ∧ True ∧ True ∧ True ∧ True ∧ True ∧ True ∧ True ∧ True ∧ True ∧ True ∧ True ∧ True ∧ Go.Sx.Cel.val Go.undef = Go.Sx.Cel.val Go.undef ∧ True) ∧ (b = b ∧ [Go.Sx.EK.i8, Go.Sx.EK.i8, Go.Sx.EK.i16] = [Go.Sx.EK.i8, Go.Sx.EK.i8, Go.Sx.EK.i16] ∧ n = n ∧ l = l) ∧ (Bool.true = Bool.true ∧ (91 : Nat) = (91 : Nat) ∧ ([Go.Sx.EK.i8, Go.Sx.EK.i8, Go.Sx.EK.i16] = [Go.Sx.EK.i8, Go.Sx.EK.i8, Go.Sx.EK.i16] ∧ Int.toNat len * (3 : Nat) = Int.toNat len * (3 : Nat) ∧ List.take (Int.toNat ((0 : Int) + (↑x : Int)) * (3 : Nat) + (0 : Nat)) (mkN (Int.toNat len * (3 : Nat)) (toFr (x * (3 : Nat)) l)) ++ [List.getD (List.take (3 : Nat) (List.drop (Int.toNat ((0 : Int) + (↑x : Int)) * (3 : Nat) + (0 : Nat)) l)) (0 : Nat) (0 : Int), List.getD (List.take (3 : Nat) (List.drop (Int.toNat ((0 : Int) + (↑x : Int)) * (3 : Nat) + (0 : Nat)) l)) (1 : Nat) (0 : Int), List.getD (List.take (3 : Nat) (List.drop (Int.toNat ((0 : Int) + (↑x : Int)) * (3 : Nat) + (0 : Nat)) l)) (2 : Nat) (0 : Int)] ++ List.drop (Int.toNat ((0 : Int) + (↑x : Int)) * (3 : Nat) + (0 : Nat) + (3 : Nat)) (mkN (Int.toNat len * (3 : Nat)) (toFr (x * (3 : Nat)) l)) = mkN (Int.toNat len * (3 : Nat)) (toFr (y * (3 : Nat)) l)) ∧ True) ∧ True) ∧ (Decidable.decide ((↑x : Int) < len) = Bool.false → True ∧ True ∧ ∃ (x_1 : Unit), True ∧ (Go.Sx.Cel.slc (1 : Nat) (0 : Nat) (0 : Int) (3 : Nat) len len = Go.Sx.Cel.slc (1 : Nat) (0 : Nat) (0 : Int) (3 : Nat) len len ∧ True) ∧ True ∧ (Bool.true = Bool.true ∧ (91 : Nat) = (91 : Nat) ∧ ([Go.Sx.EK.i8, Go.Sx.EK.i8, Go.Sx.EK.i16] = [Go.Sx.EK.i8, Go.Sx.EK.i8, Go.Sx.EK.i16] ∧ Int.toNat len * (3 : Nat) = Int.toNat len * (3 : Nat) ∧ mkN (Int.toNat len * (3 : Nat)) (toFr (x * (3 : Nat)) l) = List.take (Int.toNat len * (3 : Nat)) l) ∧ True) ∧ True)) (by kernel_rfl) ?_
  simp only [true_and, and_true, and_self, decide_eq_true_eq, decide_eq_false_iff_not, Bool.not_eq_true', Bool.not_eq_false', Bool.not_true, Bool.not_false, beq_iff_eq, beq_eq_false_iff_ne, bne_iff_ne, bne_eq_false_iff_eq, ne_eq, not_true_eq_false, not_false_eq_true, false_implies, true_implies, implies_true, forall_const, exists_const, ↓reduceIte, Int.reduceEq, Int.toNat_natCast, Bool.false_eq_true, Bool.true_eq_false, reduceCtorEq, Int.zero_add, Nat.add_zero, getD_take', getD_drop', List.append_nil]
  have hlen : (len.toNat : Int) = len := by omega
  refine ⟨⟨by omega, by omega, by omega, by omega⟩, ⟨0, by omega, rfl, ?_⟩, ?_⟩
  · exact to_zero
  intro k hk
  refine ⟨fun hlt => ?_, fun hge => ?_⟩
  · have hstep : ∀ (xs : List Int) (c : Nat), xs.length = 3 → (∀ j, j < 3 → xs.getD j 0 = l.getD (k * 3 + j) 0) → c = k * 3 + 3 → (mkN (len.toNat * 3) (toFr (k * 3) l)).take (k * 3) ++ xs ++ (mkN (len.toNat * 3) (toFr (k * 3) l)).drop c = mkN (len.toNat * 3) (toFr ((k + 1) * 3) l) := fun xs c h1 h2 h3 => to_step h1 (by omega) h2 h3
    repeat' (first | omega | apply And.intro)
    all_goals try (first | exact tk_len (by omega))
    refine ⟨k + 1, by omega, by omega, by omega, ?_⟩
    refine hstep _ _ ?_ (fun j hj => ?_) (by omega)
    · first | rfl | exact tk_len (by omega)
    · first | exact rcd_get hj | (rcases (show j = 0 ∨ j = 1 ∨ j = 2 by omega) with rfl | rfl | rfl <;> simp)
  · first | exact to_end (by omega) (by omega) | exact (to_end (by omega) (by omega)).symm

theorem e_toKindS : EntryCOk Try.prog TT 18 (gToR 91 3 [.i8, .i8, .i16]) := by
  refine ⟨fnOk Try.func18 (by kernel_rfl) rfl, ?_⟩
  intro args H K h n0 w0 β w vals hG hH hA
  unfold gToR at h
  split at h
  · split at h
    · rename_i id b i s len cap _ o ks n l hg
      obtain ⟨⟨rfl, rfl, rfl, rfl, hl, h1, h2, h3⟩, hk⟩ := h
      have hk := withLenP_sound hk
      refine (entry_fresh tt_ok (inlN_ok tt_ok Ck0_ok mixed ILz_ok.ok 4) Ck0_ok mixed Try.func18 [id] (x_toKindS b n l len cap h1 h2 h3 hl) rfl (fun _ => rfl) (fun _ => rfl) ⟨.inr (by rw [hg]; rfl), trivial⟩ hG hH hA).mono ?_
      rintro e w' ⟨v, γ, x, rfl, _, h5, h6⟩
      exact ⟨v, γ, _, _, rfl, hk, h5, h6⟩
    · exact h.elim
  · exact h.elim

theorem x_eqKindS (n1 n2 : Nat) (l1 l2 : List Int) (c1 c2 len1 len2 : Int) (h1 : 0 ≤ len1) (h2 : len1 ≤ 1048576) (h3 : 0 ≤ len2) (h4 : len1.toNat * 3 ≤ n1) (h5 : len2.toNat * 3 ≤ n2) (e1 : l1.length = n1) (e2 : l2.length = n2) : Fex true TT (inlN true TT Ck0 (lookI ILz) 4) Ck0 (fun _ => .inv (lmEq 5 3 len1 l1 l2)) Try.f21 [.a (.c (.slc 0 0 0 3 len1 c1)), .a (.c (.slc 1 0 0 3 len2 c2))] [.cells false 91 [.run [.i8, .i8, .i16] n1 l1], .cells false 91 [.run [.i8, .i8, .i16] n2 l2]] (fun lv _ => leL lv (.a (.c (.bool (eqSl 3 len1 len2 l1 l2))))) := by
  refine Go.Sx.by_eq (q := True ∧ True ∧ True ∧ True ∧ True ∧ True ∧ ((len1 != len2) = Bool.true → True ∧ eqSl (3 : Nat) len1 len2 l1 l2 = Bool.false) ∧ ((len1 != len2) = Bool.false → True ∧ (∃ (x : Nat), (x ≤ Int.toNat len1 ∧ ∀ (i : Nat), i < x * (3 : Nat) → List.getD l1 i (0 : Int) = List.getD l2 i (0 : Int)) ∧ (Go.Sx.Cel.slc (0 : Nat) (0 : Nat) (0 : Int) (3 : Nat) len1 c1 = Go.Sx.Cel.slc (0 : Nat) (0 : Nat) (0 : Int) (3 : Nat) len1 c1 ∧ Go.Sx.Cel.slc (1 : Nat) (0 : Nat) (0 : Int) (3 : Nat) len2 c2 = Go.Sx.Cel.slc (1 : Nat) (0 : Nat) (0 : Int) (3 : Nat) len2 c2 ∧ Go.Sx.Cel.val Go.undef = Go.Sx.Cel.val Go.undef ∧ Go.Sx.Cel.val Go.undef = Go.Sx.Cel.val Go.undef ∧ True ∧ (Go.IntKind.i64 = Go.IntKind.i64 ∧ (0 : Int) = (↑x : Int)) ∧ Go.Sx.Cel.slc (0 : Nat) (0 : Nat) (0 : Int) (3 : Nat) len1 c1 = Go.Sx.Cel.slc (0 : Nat) (0 : Nat) (0 : Int) (3 : Nat) len1 c1 ∧ (Go.IntKind.i64 = Go.IntKind.i64 ∧ len1 = len1) ∧ Go.Sx.Cel.slc (1 : Nat) (0 : Nat) (0 : Int) (3 : Nat) len2 c2 = Go.Sx.Cel.slc (1 : Nat) (0 : Nat) (0 : Int) (3 : Nat) len2 c2 ∧ (Go.IntKind.i64 = Go.IntKind.i64 ∧ len2 = len2) ∧ (len1 != len2) = (len1 != len2) ∧ True ∧ True ∧ True ∧ True ∧ True ∧ True ∧ True ∧ True ∧ True ∧ True ∧ True ∧ True ∧ True ∧ True ∧ True ∧ True ∧ True) ∧ (Bool.false = Bool.false ∧ (91 : Nat) = (91 : Nat) ∧ ([Go.Sx.EK.i8, Go.Sx.EK.i8, Go.Sx.EK.i16] = [Go.Sx.EK.i8, Go.Sx.EK.i8, Go.Sx.EK.i16] ∧ n1 = n1 ∧ l1 = l1) ∧ True) ∧ (Bool.false = Bool.false ∧ (91 : Nat) = (91 : Nat) ∧ ([Go.Sx.EK.i8, Go.Sx.EK.i8, Go.Sx.EK.i16] = [Go.Sx.EK.i8, Go.Sx.EK.i8, Go.Sx.EK.i16] ∧ n2 = n2 ∧ l2 = l2) ∧ True) ∧ True) ∧ ∀ (x : Nat), (x ≤ Int.toNat len1 ∧ ∀ (i : Nat), i < x * (3 : Nat) → List.getD l1 i (0 : Int) = List.getD l2 i (0 : Int)) → True ∧ True ∧ True ∧ True ∧ (Decidable.decide ((↑x : Int) < len1) = Bool.true → True ∧ True ∧ ((0 : Int) ≤ (↑x : Int) ∧ (↑x : Int) < len1) ∧ ((0 : Int) ≤ (0 : Int) + (↑x : Int) ∧ Int.toNat ((0 : Int) + (↑x : Int)) * (3 : Nat) + (0 : Nat) + (3 : Nat) ≤ n1) ∧ True ∧ True ∧ ((0 : Int) ≤ (↑x : Int) ∧ (↑x : Int) < len2) ∧ ((0 : Int) ≤ (0 : Int) + (↑x : Int) ∧ Int.toNat ((0 : Int) + (↑x : Int)) * (3 : Nat) + (0 : Nat) + (3 : Nat) ≤ n2) ∧ True ∧ True ∧ ((!eqE (3 : Nat) (List.take (3 : Nat) (List.drop (Int.toNat ((0 : Int) + (↑x : Int)) * (3 : Nat) + (0 : Nat)) l1)) (List.take (3 : Nat) (List.drop (Int.toNat ((0 : Int) + (↑x : Int)) * (3 : Nat) + (0 : Nat)) l2))) = Bool.true → True ∧ eqSl (3 : Nat) len1 len2 l1 l2 = Bool.false) ∧ ((!eqE (3 : Nat) (List.take (3 : Nat) (List.drop (Int.toNat ((0 : Int) + (↑x : Int)) * (3 : Nat) + (0 : Nat)) l1)) (List.take (3 : Nat) (List.drop (Int.toNat ((0 : Int) + (↑x : Int)) * (3 : Nat) + (0 : Nat)) l2))) = Bool.false → True ∧ ((-9223372036854775808 : Int) ≤ (↑x : Int) + (1 : Int) ∧ (↑x : Int) + (1 : Int) ≤ (9223372036854775807 : Int)) ∧ True ∧ ∃ (y : Nat), (y ≤ Int.toNat len1 ∧ ∀ (i : Nat), i < y * (3 : Nat) → List.getD l1 i (0 : Int) = List.getD l2 i (0 : Int)) ∧ Int.toNat len1 - y < Int.toNat len1 - x ∧ (Go.Sx.Cel.slc (0 : Nat) (0 : Nat) (0 : Int) (3 : Nat) len1 c1 = Go.Sx.Cel.slc (0 : Nat) (0 : Nat) (0 : Int) (3 : Nat) len1 c1 ∧ Go.Sx.Cel.slc (1 : Nat) (0 : Nat) (0 : Int) (3 : Nat) len2 c2 = Go.Sx.Cel.slc (1 : Nat) (0 : Nat) (0 : Int) (3 : Nat) len2 c2 ∧ Go.Sx.Cel.val Go.undef = Go.Sx.Cel.val Go.undef ∧ Go.Sx.Cel.val Go.undef = Go.Sx.Cel.val Go.undef ∧ True ∧ (Go.IntKind.i64 = Go.IntKind.i64 ∧ (↑x : Int) + (1 : Int) = (↑y : Int)) ∧ Go.Sx.Cel.slc (0 : Nat) (0 : Nat) (0 : Int) (3 : Nat) len1 c1 = Go.Sx.Cel.slc (0 : Nat) (0 : Nat) (0 : Int) (3 : Nat) len1 c1 ∧ (Go.IntKind.i64 = Go.IntKind.i64 ∧ len1 = len1) ∧ Go.Sx.Cel.slc (1 : Nat) (0 : Nat) (0 : Int) (3 : Nat) len2 c2 = Go.Sx.Cel.slc (1 : Nat) (0 : Nat) (0 : Int) (3 : Nat) len2 c2 ∧ (Go.IntKind.i64 = Go.IntKind.i64 ∧ len2 = len2) ∧ (len1 != len2) = (len1 != len2) ∧ True ∧ True ∧ True ∧ True ∧ True ∧ True ∧ True ∧ True ∧ True ∧ True ∧ True ∧ True ∧ True ∧ True ∧ True ∧ True ∧ True) ∧ (Bool.false = Bool.false ∧ (91 : Nat) = (91 : Nat) ∧ ([Go.Sx.EK.i8, Go.Sx.EK.i8, Go.Sx.EK.i16] = [Go.Sx.EK.i8, Go.Sx.EK.i8, Go.Sx.EK.i16] ∧ n1 = n1 ∧ l1 = l1) ∧ True) ∧ (Bool.false = Bool.false ∧ (91 : Nat) = (91 : Nat) ∧ ([Go.Sx.EK.i8, Go.Sx.EK.i8, Go.Sx.EK.i16] = [Go.Sx.EK.i8, Go.Sx.EK.i8, Go.Sx.EK.i16] ∧ n2 = n2 ∧ l2 = l2) ∧ True) ∧ True)) ∧ (Decidable.decide ((↑x : Int) < len1) = Bool.false → True ∧ eqSl (3 : Nat) len1 len2 l1 l2 = Bool.true))) (by kernel_rfl) ?_
  have e0 : ∀ a b : List Int, eqE 3 a b = eqE 3 a b := fun a b => by rfl
  simp only [e0]
  simp only [true_and, and_true, and_self, decide_eq_true_eq, decide_eq_false_iff_not, Bool.not_eq_true', Bool.not_eq_false', Bool.not_true, Bool.not_false, beq_iff_eq, beq_eq_false_iff_ne, bne_iff_ne, bne_eq_false_iff_eq, ne_eq, not_true_eq_false, not_false_eq_true, false_implies, true_implies, implies_true, forall_const, exists_const, ↓reduceIte, Int.reduceEq, Int.toNat_natCast, Bool.false_eq_true, Bool.true_eq_false, reduceCtorEq, Int.zero_add, Nat.add_zero]
  refine ⟨fun h => eqSl_ne h, fun hn => ⟨⟨0, ⟨by omega, fun i hi => by omega⟩, rfl⟩, ?_⟩⟩
  rintro k ⟨hk, hp⟩
  refine ⟨fun hlt => ?_, fun hge => eqSl_yes hn (by omega) (by omega) fun i hi => hp i (by omega)⟩
  repeat' (first | omega | apply And.intro)
  · exact fun hc => by first | exact eqE_stop (by omega) hc | exact eqE_stop' (by omega) (by omega) (by omega) hc
  · exact fun hc => ⟨by omega, k + 1, ⟨by omega, by first | exact eqE_step hp hc | exact eqE_step' (by omega) (by omega) hp hc⟩, by omega, by omega⟩

theorem e_eqKindS : EntryOk Try.prog TT 21 (gEqR 91 3 [.i8, .i8, .i16]) := by
  refine ⟨fnOk Try.func21 (by kernel_rfl) rfl, ?_⟩
  intro args H p r he hp n0 w0 β w vals hG hH hA
  obtain ⟨i1, i2, o1, o2, n1, n2, l1, l2, c1, c2, len1, len2, rfl, hg1, hg2, rfl, h1, h2, h3, h4, h5, h6, h7⟩ := gEqR_inv he hp
  exact entry_view tt_ok (inlN_ok tt_ok Ck0_ok mixed ILz_ok.ok 4) Ck0_ok mixed Try.func21 [i1, i2] (x_eqKindS n1 n2 l1 l2 c1 c2 len1 len2 h1 h2 h3 h4 h5 h6 h7) rfl rfl ⟨.inr (by rw [hg1]; rfl), .inr (by rw [hg2]; rfl), trivial⟩ hG hH hA


/-! ### Valid kinds -/
def kdOk (l : List Int) (k : Nat) : Prop := (1 ≤ l.getD (k * 3) 0 ∧ l.getD (k * 3) 0 ≤ 24) ∧ (1 ≤ l.getD (k * 3 + 1) 0 ∧ l.getD (k * 3 + 1) 0 ≤ 24) ∧ 0 ≤ l.getD (k * 3 + 2) 0 ∧ l.getD (k * 3 + 2) 0 ≤ 1000
structure KdP (n : Nat) (l : List Int) : Prop where
  hi : n ≤ 8
  ok : ∀ i, i < n → kdOk l i
open Classical in
noncomputable def kdB (n : Nat) (l : List Int) : Bool := decide (KdP n l)
theorem kdB_t {n : Nat} {l : List Int} : kdB n l = true ↔ KdP n l := by simp [kdB]
theorem kdB_f {n : Nat} {l : List Int} : kdB n l = false ↔ ¬ KdP n l := by simp [kdB]
theorem kdB_no {n k : Nat} {l : List Int} (hk : k < n) (h : ¬ kdOk l k) : kdB n l = false := kdB_f.2 fun p => h (p.ok k hk)

/-- Numbers that fit into 64 bits. -/
def bd64 (n : Nat) (l : List Int) : Prop := ∀ i, i < n → -9223372036854775808 ≤ l.getD i 0 ∧ l.getD i 0 ≤ 9223372036854775807

def lmKd (t n : Nat) (l : List Int) : LAnn := { ι := Nat, inv := fun _ k => k ≤ n ∧ ∀ i, i < k → kdOk l i, slots := fun _ k => [(t, .a (.c (.int .i64 k)))], blks := fun _ _ => [], μ := fun _ k => n - k }

noncomputable def ILks (n : Nat) (l : List Int) : List (FuncId × Func × (Nat → LM)) := [
  (105, Try.f105, U0),
  (104, Try.f104, U0),
  (71, Try.f71, fun _ => .inv (lmKd 3 n l))]
theorem ILks_ok {n : Nat} {l : List Int} : InlsOk Try.prog (ILks n l) := ⟨⟨Try.func105, by kernel_rfl⟩, ⟨Try.func104, by kernel_rfl⟩, ⟨Try.func71, by kernel_rfl⟩, trivial⟩
noncomputable def ILki  : List (FuncId × Func × (Nat → LM)) := [
  (72, Try.f72, U0)]
theorem ILki_ok  : InlsOk Try.prog ILki := ⟨⟨Try.func72, by kernel_rfl⟩, trivial⟩

theorem x_ValidKindsS (m n : Nat) (l : List Int) (cap : Int) (h1 : n ≤ 1048576) (h3 : n * 3 ≤ m) (h4 : l.length = m) (hb : bd64 (n * 3) l) : Fex true TT (inlN true TT C0 (lookI (ILks n l)) 4) C0 U0 Try.f41 [.a (.c (.slc 0 0 0 3 n cap))] [.cells false 91 [.run [.i8, .i8, .i16] m l]] (fun lv _ => leL lv (.a (.c (.bool (kdB n l))))) := by
  refine Go.Sx.by_eq (q := True ∧ True ∧ True ∧ True ∧ (∃ (x : Nat), (x ≤ n ∧ ∀ (i : Nat), i < x → ((1 : Int) ≤ List.getD l (i * (3 : Nat)) (0 : Int) ∧ List.getD l (i * (3 : Nat)) (0 : Int) ≤ (24 : Int)) ∧ ((1 : Int) ≤ List.getD l (i * (3 : Nat) + (1 : Nat)) (0 : Int) ∧ List.getD l (i * (3 : Nat) + (1 : Nat)) (0 : Int) ≤ (24 : Int)) ∧ (0 : Int) ≤ List.getD l (i * (3 : Nat) + (2 : Nat)) (0 : Int) ∧ List.getD l (i * (3 : Nat) + (2 : Nat)) (0 : Int) ≤ (1000 : Int)) ∧ (Go.Sx.Cel.slc (0 : Nat) (0 : Nat) (0 : Int) (3 : Nat) (↑n : Int) cap = Go.Sx.Cel.slc (0 : Nat) (0 : Nat) (0 : Int) (3 : Nat) (↑n : Int) cap ∧ Go.Sx.Cel.val Go.undef = Go.Sx.Cel.val Go.undef ∧ True ∧ (Go.IntKind.i64 = Go.IntKind.i64 ∧ (0 : Int) = (↑x : Int)) ∧ True ∧ True ∧ True ∧ True ∧ True ∧ True ∧ True ∧ True ∧ True ∧ True ∧ True ∧ True ∧ True ∧ True ∧ True ∧ True ∧ True ∧ True ∧ True ∧ True ∧ True ∧ True ∧ True ∧ True ∧ True ∧ True ∧ True ∧ True ∧ True ∧ True ∧ True ∧ True ∧ True ∧ True ∧ Go.Sx.Cel.val Go.undef = Go.Sx.Cel.val Go.undef ∧ Go.Sx.Cel.val Go.undef = Go.Sx.Cel.val Go.undef ∧ Go.Sx.Cel.val Go.undef = Go.Sx.Cel.val Go.undef ∧ True) ∧ (Bool.false = Bool.false ∧ (91 : Nat) = (91 : Nat) ∧ ([Go.Sx.EK.i8, Go.Sx.EK.i8, Go.Sx.EK.i16] = [Go.Sx.EK.i8, Go.Sx.EK.i8, Go.Sx.EK.i16] ∧ m = m ∧ l = l) ∧ True) ∧ True) ∧ ∀ (x : Nat), (x ≤ n ∧ ∀ (i : Nat), i < x → ((1 : Int) ≤ List.getD l (i * (3 : Nat)) (0 : Int) ∧ List.getD l (i * (3 : Nat)) (0 : Int) ≤ (24 : Int)) ∧ ((1 : Int) ≤ List.getD l (i * (3 : Nat) + (1 : Nat)) (0 : Int) ∧ List.getD l (i * (3 : Nat) + (1 : Nat)) (0 : Int) ≤ (24 : Int)) ∧ (0 : Int) ≤ List.getD l (i * (3 : Nat) + (2 : Nat)) (0 : Int) ∧ List.getD l (i * (3 : Nat) + (2 : Nat)) (0 : Int) ≤ (1000 : Int)) → True ∧ True ∧ True ∧ True ∧ (Decidable.decide ((↑x : Int) < (↑n : Int)) = Bool.true → True ∧ True ∧ ((0 : Int) ≤ (↑x : Int) ∧ (↑x : Int) < (↑n : Int)) ∧ True ∧ ((0 : Int) ≤ (0 : Int) + (↑x : Int) ∧ Int.toNat ((0 : Int) + (↑x : Int)) * (3 : Nat) + (0 : Nat) < m) ∧ ((-9223372036854775808 : Int) ≤ List.getD l (Int.toNat ((0 : Int) + (↑x : Int)) * (3 : Nat) + (0 : Nat)) (0 : Int) ∧ List.getD l (Int.toNat ((0 : Int) + (↑x : Int)) * (3 : Nat) + (0 : Nat)) (0 : Int) ≤ (9223372036854775807 : Int)) ∧ True ∧ True ∧ True ∧ True ∧ True ∧ True ∧ True ∧ (Decidable.decide ((1 : Int) ≤ List.getD l (Int.toNat ((0 : Int) + (↑x : Int)) * (3 : Nat) + (0 : Nat)) (0 : Int)) = Bool.true → True ∧ True ∧ True ∧ True ∧ True ∧ True ∧ True ∧ True ∧ ((!Decidable.decide (List.getD l (Int.toNat ((0 : Int) + (↑x : Int)) * (3 : Nat) + (0 : Nat)) (0 : Int) ≤ (24 : Int))) = Bool.false → True ∧ True ∧ ((0 : Int) ≤ (↑x : Int) ∧ (↑x : Int) < (↑n : Int)) ∧ True ∧ ((0 : Int) ≤ (0 : Int) + (↑x : Int) ∧ Int.toNat ((0 : Int) + (↑x : Int)) * (3 : Nat) + (1 : Nat) < m) ∧ ((-9223372036854775808 : Int) ≤ List.getD l (Int.toNat ((0 : Int) + (↑x : Int)) * (3 : Nat) + (1 : Nat)) (0 : Int) ∧ List.getD l (Int.toNat ((0 : Int) + (↑x : Int)) * (3 : Nat) + (1 : Nat)) (0 : Int) ≤ (9223372036854775807 : Int)) ∧ True ∧ True ∧ True ∧ True ∧ True ∧ True ∧ True ∧ (Decidable.decide ((1 : Int) ≤ List.getD l (Int.toNat ((0 : Int) + (↑x : Int)) * (3 : Nat) + (1 : Nat)) (0 : Int)) = Bool.true → True ∧ True ∧ True ∧ True ∧ True ∧ True ∧ True ∧ True ∧ True ∧ ((!Decidable.decide (List.getD l (Int.toNat ((0 : Int) + (↑x : Int)) * (3 : Nat) + (1 : Nat)) (0 : Int) ≤ (24 : Int))) = Bool.false → True ∧ True ∧ ((0 : Int) ≤ (↑x : Int) ∧ (↑x : Int) < (↑n : Int)) ∧ True ∧ ((0 : Int) ≤ (0 : Int) + (↑x : Int) ∧ Int.toNat ((0 : Int) + (↑x : Int)) * (3 : Nat) + (2 : Nat) < m) ∧ ((-9223372036854775808 : Int) ≤ List.getD l (Int.toNat ((0 : Int) + (↑x : Int)) * (3 : Nat) + (2 : Nat)) (0 : Int) ∧ List.getD l (Int.toNat ((0 : Int) + (↑x : Int)) * (3 : Nat) + (2 : Nat)) (0 : Int) ≤ (9223372036854775807 : Int)) ∧ True ∧ True ∧ True ∧ True ∧ True ∧ (Decidable.decide ((0 : Int) ≤ List.getD l (Int.toNat ((0 : Int) + (↑x : Int)) * (3 : Nat) + (2 : Nat)) (0 : Int)) = Bool.true → True ∧ True ∧ True ∧ True ∧ True ∧ True ∧ True ∧ ((!Decidable.decide (List.getD l (Int.toNat ((0 : Int) + (↑x : Int)) * (3 : Nat) + (2 : Nat)) (0 : Int) ≤ (1000 : Int))) = Bool.true → True ∧ True ∧ kdB n l = Bool.false) ∧ ((!Decidable.decide (List.getD l (Int.toNat ((0 : Int) + (↑x : Int)) * (3 : Nat) + (2 : Nat)) (0 : Int) ≤ (1000 : Int))) = Bool.false → True ∧ ((-9223372036854775808 : Int) ≤ (↑x : Int) + (1 : Int) ∧ (↑x : Int) + (1 : Int) ≤ (9223372036854775807 : Int)) ∧ True ∧ ∃ (y : Nat), (y ≤ n ∧ ∀ (i : Nat), i < y → ((1 : Int) ≤ List.getD l (i * (3 : Nat)) (0 : Int) ∧ List.getD l (i * (3 : Nat)) (0 : Int) ≤ (24 : Int)) ∧ ((1 : Int) ≤ List.getD l (i * (3 : Nat) + (1 : Nat)) (0 : Int) ∧ List.getD l (i * (3 : Nat) + (1 : Nat)) (0 : Int) ≤ (24 : Int)) ∧ (0 : Int) ≤ List.getD l (i * (3 : Nat) + (2 : Nat)) (0 : Int) ∧ List.getD l (i * (3 : Nat) + (2 : Nat)) (0 : Int) ≤ (1000 : Int)) ∧ n - y < n - x ∧ (Go.Sx.Cel.slc (0 : Nat) (0 : Nat) (0 : Int) (3 : Nat) (↑n : Int) cap = Go.Sx.Cel.slc (0 : Nat) (0 : Nat) (0 : Int) (3 : Nat) (↑n : Int) cap ∧ Go.Sx.Cel.val Go.undef = Go.Sx.Cel.val Go.undef ∧ True ∧ (Go.IntKind.i64 = Go.IntKind.i64 ∧ (↑x : Int) + (1 : Int) = (↑y : Int)) ∧ True ∧ True ∧ True ∧ True ∧ True ∧ True ∧ True ∧ True ∧ True ∧ True ∧ True ∧ True ∧ True ∧ True ∧ True ∧ True ∧ True ∧ True ∧ True ∧ True ∧ True ∧ True ∧ True ∧ True ∧ True ∧ True ∧ True ∧ True ∧ True ∧ True ∧ True ∧ True ∧ True ∧ True ∧ Go.Sx.Cel.val Go.undef = Go.Sx.Cel.val Go.undef ∧ Go.Sx.Cel.val Go.undef = Go.Sx.Cel.val Go.undef ∧ Go.Sx.Cel.val Go.undef = Go.Sx.Cel.val Go.undef ∧ True) ∧ (Bool.false = Bool.false ∧ (91 : Nat) = (91 : Nat) ∧ ([Go.Sx.EK.i8, Go.Sx.EK.i8, Go.Sx.EK.i16] = [Go.Sx.EK.i8, Go.Sx.EK.i8, Go.Sx.EK.i16] ∧ m = m ∧ l = l) ∧ True) ∧ True)) ∧ (Decidable.decide ((0 : Int) ≤ List.getD l (Int.toNat ((0 : Int) + (↑x : Int)) * (3 : Nat) + (2 : Nat)) (0 : Int)) = !Bool.true → True ∧ True ∧ True ∧ True ∧ True ∧ True ∧ kdB n l = Bool.false)) ∧ ((!Decidable.decide (List.getD l (Int.toNat ((0 : Int) + (↑x : Int)) * (3 : Nat) + (1 : Nat)) (0 : Int) ≤ (24 : Int))) = !Bool.false → True ∧ True ∧ True ∧ kdB n l = Bool.false)) ∧ (Decidable.decide ((1 : Int) ≤ List.getD l (Int.toNat ((0 : Int) + (↑x : Int)) * (3 : Nat) + (1 : Nat)) (0 : Int)) = !Bool.true → True ∧ True ∧ True ∧ True ∧ True ∧ True ∧ True ∧ True ∧ True ∧ kdB n l = Bool.false)) ∧ ((!Decidable.decide (List.getD l (Int.toNat ((0 : Int) + (↑x : Int)) * (3 : Nat) + (0 : Nat)) (0 : Int) ≤ (24 : Int))) = !Bool.false → True ∧ True ∧ True ∧ True ∧ True ∧ kdB n l = Bool.false)) ∧ (Decidable.decide ((1 : Int) ≤ List.getD l (Int.toNat ((0 : Int) + (↑x : Int)) * (3 : Nat) + (0 : Nat)) (0 : Int)) = !Bool.true → True ∧ True ∧ True ∧ True ∧ True ∧ True ∧ True ∧ True ∧ True ∧ True ∧ kdB n l = Bool.false)) ∧ (Decidable.decide ((↑x : Int) < (↑n : Int)) = Bool.false → True ∧ True ∧ True ∧ True ∧ True ∧ Decidable.decide ((↑n : Int) ≤ (8 : Int)) = kdB n l)) (by kernel_rfl) ?_
  simp only [true_and, and_true, and_self, decide_eq_true_eq, decide_eq_false_iff_not, Bool.not_eq_true', Bool.not_eq_false', Bool.not_true, Bool.not_false, beq_iff_eq, beq_eq_false_iff_ne, bne_iff_ne, bne_eq_false_iff_eq, ne_eq, not_true_eq_false, not_false_eq_true, false_implies, true_implies, implies_true, forall_const, exists_const, ↓reduceIte, Int.reduceEq, Int.toNat_natCast, Bool.false_eq_true, Bool.true_eq_false, reduceCtorEq, Int.zero_add, Nat.add_zero, Int.ofNat_eq_natCast, Int.toNat_natCast]
  have b0 : ∀ k, k < n → -9223372036854775808 ≤ l.getD (k * 3) 0 ∧ l.getD (k * 3) 0 ≤ 9223372036854775807 := fun k hk => hb _ (by omega)
  have b1 : ∀ k, k < n → -9223372036854775808 ≤ l.getD (k * 3 + 1) 0 ∧ l.getD (k * 3 + 1) 0 ≤ 9223372036854775807 := fun k hk => hb _ (by omega)
  have b2 : ∀ k, k < n → -9223372036854775808 ≤ l.getD (k * 3 + 2) 0 ∧ l.getD (k * 3 + 2) 0 ≤ 9223372036854775807 := fun k hk => hb _ (by omega)
  refine ⟨⟨0, ⟨by omega, fun i hi => by omega⟩, rfl⟩, ?_⟩
  rintro k ⟨hk, hp⟩
  have bad : k < n → ¬ kdOk l k → kdB n l = false := kdB_no
  have step : k < n → kdOk l k → ∃ y : Nat, (y ≤ n ∧ ∀ i, i < y → kdOk l i) ∧ n - y < n - k ∧ (k : Int) + 1 = (y : Int) := fun hlt h => ⟨k + 1, ⟨by omega, fun i hi => by
    rcases (show i < k ∨ i = k by omega) with h' | rfl
    · exact hp i h'
    · exact h⟩, by omega, by omega⟩
  refine ⟨fun hlt => ?_, fun hge => ?_⟩
  · have c0 := b0 k (by omega); have c1 := b1 k (by omega); have c2 := b2 k (by omega)
    repeat' (first | omega | exact bad (by omega) (fun hh => by obtain ⟨q1, q2, q3⟩ := hh; omega) | exact step (by omega) ⟨by omega, by omega, by omega⟩ | apply And.intro | intro _)
  · rw [Bool.eq_iff_iff, decide_eq_true_eq, kdB_t]
    exact ⟨fun h => ⟨by omega, fun i hi => hp i (by omega)⟩, fun q => by have := q.hi; omega⟩
theorem x_ValidKindsI (m n : Nat) (l : List Int) (cap : Int) (h1 : n ≤ 1048576) (h3 : n * 3 ≤ m) (h4 : l.length = m) (hb : bd64 (n * 3) l) : Fex true TT (inlN true TT C0 (lookI ILki) 4) C0 (fun _ => .inv (lmKd 10 n l)) Try.f42 [.a (.c (.slc 0 0 0 3 n cap))] [.cells false 91 [.run [.i8, .i8, .i16] m l]] (fun lv _ => leL lv (.a (.c (.bool (kdB n l))))) := by
  refine Go.Sx.by_eq (q := True ∧ True ∧ True ∧ True ∧ (Decidable.decide ((8 : Int) < (↑n : Int)) = Bool.true → True ∧ kdB n l = Bool.false) ∧ (Decidable.decide ((8 : Int) < (↑n : Int)) = Bool.false → True ∧ True ∧ True ∧ (∃ (x : Nat), (x ≤ n ∧ ∀ (i : Nat), i < x → ((1 : Int) ≤ List.getD l (i * (3 : Nat)) (0 : Int) ∧ List.getD l (i * (3 : Nat)) (0 : Int) ≤ (24 : Int)) ∧ ((1 : Int) ≤ List.getD l (i * (3 : Nat) + (1 : Nat)) (0 : Int) ∧ List.getD l (i * (3 : Nat) + (1 : Nat)) (0 : Int) ≤ (24 : Int)) ∧ (0 : Int) ≤ List.getD l (i * (3 : Nat) + (2 : Nat)) (0 : Int) ∧ List.getD l (i * (3 : Nat) + (2 : Nat)) (0 : Int) ≤ (1000 : Int)) ∧ (Go.Sx.Cel.slc (0 : Nat) (0 : Nat) (0 : Int) (3 : Nat) (↑n : Int) cap = Go.Sx.Cel.slc (0 : Nat) (0 : Nat) (0 : Int) (3 : Nat) (↑n : Int) cap ∧ Go.Sx.Cel.val Go.undef = Go.Sx.Cel.val Go.undef ∧ True ∧ Go.Sx.Cel.val Go.undef = Go.Sx.Cel.val Go.undef ∧ True ∧ Go.Sx.Cel.slc (0 : Nat) (0 : Nat) (0 : Int) (3 : Nat) (↑n : Int) cap = Go.Sx.Cel.slc (0 : Nat) (0 : Nat) (0 : Int) (3 : Nat) (↑n : Int) cap ∧ (Go.IntKind.i64 = Go.IntKind.i64 ∧ (↑n : Int) = (↑n : Int)) ∧ Decidable.decide ((8 : Int) < (↑n : Int)) = Decidable.decide ((8 : Int) < (↑n : Int)) ∧ Go.Sx.Cel.slc (0 : Nat) (0 : Nat) (0 : Int) (3 : Nat) (↑n : Int) cap = Go.Sx.Cel.slc (0 : Nat) (0 : Nat) (0 : Int) (3 : Nat) (↑n : Int) cap ∧ (Go.IntKind.i64 = Go.IntKind.i64 ∧ (↑n : Int) = (↑n : Int)) ∧ (Go.IntKind.i64 = Go.IntKind.i64 ∧ (0 : Int) = (↑x : Int)) ∧ True ∧ True ∧ True ∧ True ∧ True ∧ True ∧ True ∧ True ∧ True ∧ True ∧ True ∧ True ∧ True ∧ True ∧ True ∧ True ∧ True ∧ True ∧ True ∧ True ∧ True ∧ True ∧ True) ∧ (Bool.false = Bool.false ∧ (91 : Nat) = (91 : Nat) ∧ ([Go.Sx.EK.i8, Go.Sx.EK.i8, Go.Sx.EK.i16] = [Go.Sx.EK.i8, Go.Sx.EK.i8, Go.Sx.EK.i16] ∧ m = m ∧ l = l) ∧ True) ∧ True) ∧ ∀ (x : Nat), (x ≤ n ∧ ∀ (i : Nat), i < x → ((1 : Int) ≤ List.getD l (i * (3 : Nat)) (0 : Int) ∧ List.getD l (i * (3 : Nat)) (0 : Int) ≤ (24 : Int)) ∧ ((1 : Int) ≤ List.getD l (i * (3 : Nat) + (1 : Nat)) (0 : Int) ∧ List.getD l (i * (3 : Nat) + (1 : Nat)) (0 : Int) ≤ (24 : Int)) ∧ (0 : Int) ≤ List.getD l (i * (3 : Nat) + (2 : Nat)) (0 : Int) ∧ List.getD l (i * (3 : Nat) + (2 : Nat)) (0 : Int) ≤ (1000 : Int)) → True ∧ (Decidable.decide ((↑x : Int) < (↑n : Int)) = Bool.true → ((0 : Int) ≤ (↑x : Int) ∧ (↑x : Int) < (↑n : Int)) ∧ ((0 : Int) ≤ (0 : Int) + (↑x : Int) ∧ Int.toNat ((0 : Int) + (↑x : Int)) * (3 : Nat) + (0 : Nat) + (3 : Nat) ≤ m) ∧ True ∧ True ∧ True ∧ True ∧ ((-9223372036854775808 : Int) ≤ List.getD (List.take (3 : Nat) (List.drop (Int.toNat ((0 : Int) + (↑x : Int)) * (3 : Nat) + (0 : Nat)) l)) (0 : Nat) (0 : Int) ∧ List.getD (List.take (3 : Nat) (List.drop (Int.toNat ((0 : Int) + (↑x : Int)) * (3 : Nat) + (0 : Nat)) l)) (0 : Nat) (0 : Int) ≤ (9223372036854775807 : Int)) ∧ True ∧ True ∧ ((-9223372036854775808 : Int) ≤ List.getD (List.take (3 : Nat) (List.drop (Int.toNat ((0 : Int) + (↑x : Int)) * (3 : Nat) + (0 : Nat)) l)) (1 : Nat) (0 : Int) ∧ List.getD (List.take (3 : Nat) (List.drop (Int.toNat ((0 : Int) + (↑x : Int)) * (3 : Nat) + (0 : Nat)) l)) (1 : Nat) (0 : Int) ≤ (9223372036854775807 : Int)) ∧ True ∧ True ∧ True ∧ True ∧ (Decidable.decide ((1 : Int) ≤ List.getD (List.take (3 : Nat) (List.drop (Int.toNat ((0 : Int) + (↑x : Int)) * (3 : Nat) + (0 : Nat)) l)) (0 : Nat) (0 : Int)) = Bool.true → True ∧ True ∧ True ∧ True ∧ (Decidable.decide (List.getD (List.take (3 : Nat) (List.drop (Int.toNat ((0 : Int) + (↑x : Int)) * (3 : Nat) + (0 : Nat)) l)) (0 : Nat) (0 : Int) ≤ (24 : Int)) = Bool.true → True ∧ True ∧ True ∧ True ∧ (Decidable.decide ((1 : Int) ≤ List.getD (List.take (3 : Nat) (List.drop (Int.toNat ((0 : Int) + (↑x : Int)) * (3 : Nat) + (0 : Nat)) l)) (1 : Nat) (0 : Int)) = Bool.true → True ∧ True ∧ True ∧ True ∧ True ∧ True ∧ ((!Decidable.decide (List.getD (List.take (3 : Nat) (List.drop (Int.toNat ((0 : Int) + (↑x : Int)) * (3 : Nat) + (0 : Nat)) l)) (1 : Nat) (0 : Int) ≤ (24 : Int))) = Bool.false → True ∧ True ∧ True ∧ True ∧ True ∧ (Decidable.decide (List.getD (List.take (3 : Nat) (List.drop (Int.toNat ((0 : Int) + (↑x : Int)) * (3 : Nat) + (0 : Nat)) l)) (2 : Nat) (0 : Int) < (0 : Int)) = Bool.false → True ∧ True ∧ True ∧ True ∧ (Decidable.decide ((1000 : Int) < List.getD (List.take (3 : Nat) (List.drop (Int.toNat ((0 : Int) + (↑x : Int)) * (3 : Nat) + (0 : Nat)) l)) (2 : Nat) (0 : Int)) = Bool.true → True ∧ kdB n l = Bool.false) ∧ (Decidable.decide ((1000 : Int) < List.getD (List.take (3 : Nat) (List.drop (Int.toNat ((0 : Int) + (↑x : Int)) * (3 : Nat) + (0 : Nat)) l)) (2 : Nat) (0 : Int)) = Bool.false → ((-9223372036854775808 : Int) ≤ (↑x : Int) + (1 : Int) ∧ (↑x : Int) + (1 : Int) ≤ (9223372036854775807 : Int)) ∧ True ∧ ∃ (y : Nat), (y ≤ n ∧ ∀ (i : Nat), i < y → ((1 : Int) ≤ List.getD l (i * (3 : Nat)) (0 : Int) ∧ List.getD l (i * (3 : Nat)) (0 : Int) ≤ (24 : Int)) ∧ ((1 : Int) ≤ List.getD l (i * (3 : Nat) + (1 : Nat)) (0 : Int) ∧ List.getD l (i * (3 : Nat) + (1 : Nat)) (0 : Int) ≤ (24 : Int)) ∧ (0 : Int) ≤ List.getD l (i * (3 : Nat) + (2 : Nat)) (0 : Int) ∧ List.getD l (i * (3 : Nat) + (2 : Nat)) (0 : Int) ≤ (1000 : Int)) ∧ n - y < n - x ∧ (Go.Sx.Cel.slc (0 : Nat) (0 : Nat) (0 : Int) (3 : Nat) (↑n : Int) cap = Go.Sx.Cel.slc (0 : Nat) (0 : Nat) (0 : Int) (3 : Nat) (↑n : Int) cap ∧ Go.Sx.Cel.val Go.undef = Go.Sx.Cel.val Go.undef ∧ True ∧ Go.Sx.Cel.val Go.undef = Go.Sx.Cel.val Go.undef ∧ True ∧ Go.Sx.Cel.slc (0 : Nat) (0 : Nat) (0 : Int) (3 : Nat) (↑n : Int) cap = Go.Sx.Cel.slc (0 : Nat) (0 : Nat) (0 : Int) (3 : Nat) (↑n : Int) cap ∧ (Go.IntKind.i64 = Go.IntKind.i64 ∧ (↑n : Int) = (↑n : Int)) ∧ Decidable.decide ((8 : Int) < (↑n : Int)) = Decidable.decide ((8 : Int) < (↑n : Int)) ∧ Go.Sx.Cel.slc (0 : Nat) (0 : Nat) (0 : Int) (3 : Nat) (↑n : Int) cap = Go.Sx.Cel.slc (0 : Nat) (0 : Nat) (0 : Int) (3 : Nat) (↑n : Int) cap ∧ (Go.IntKind.i64 = Go.IntKind.i64 ∧ (↑n : Int) = (↑n : Int)) ∧ (Go.IntKind.i64 = Go.IntKind.i64 ∧ (↑x : Int) + (1 : Int) = (↑y : Int)) ∧ True ∧ True ∧ True ∧ True ∧ True ∧ True ∧ True ∧ True ∧ True ∧ True ∧ True ∧ True ∧ True ∧ True ∧ True ∧ True ∧ True ∧ True ∧ True ∧ True ∧ True ∧ True ∧ True) ∧ (Bool.false = Bool.false ∧ (91 : Nat) = (91 : Nat) ∧ ([Go.Sx.EK.i8, Go.Sx.EK.i8, Go.Sx.EK.i16] = [Go.Sx.EK.i8, Go.Sx.EK.i8, Go.Sx.EK.i16] ∧ m = m ∧ l = l) ∧ True) ∧ True)) ∧ (Decidable.decide (List.getD (List.take (3 : Nat) (List.drop (Int.toNat ((0 : Int) + (↑x : Int)) * (3 : Nat) + (0 : Nat)) l)) (2 : Nat) (0 : Int) < (0 : Int)) = !Bool.false → True ∧ True ∧ kdB n l = Bool.false)) ∧ ((!Decidable.decide (List.getD (List.take (3 : Nat) (List.drop (Int.toNat ((0 : Int) + (↑x : Int)) * (3 : Nat) + (0 : Nat)) l)) (1 : Nat) (0 : Int) ≤ (24 : Int))) = !Bool.false → True ∧ True ∧ True ∧ True ∧ kdB n l = Bool.false)) ∧ (Decidable.decide ((1 : Int) ≤ List.getD (List.take (3 : Nat) (List.drop (Int.toNat ((0 : Int) + (↑x : Int)) * (3 : Nat) + (0 : Nat)) l)) (1 : Nat) (0 : Int)) = !Bool.true → True ∧ True ∧ True ∧ True ∧ True ∧ True ∧ True ∧ True ∧ kdB n l = Bool.false)) ∧ (Decidable.decide (List.getD (List.take (3 : Nat) (List.drop (Int.toNat ((0 : Int) + (↑x : Int)) * (3 : Nat) + (0 : Nat)) l)) (0 : Nat) (0 : Int) ≤ (24 : Int)) = !Bool.true → True ∧ True ∧ True ∧ True ∧ True ∧ True ∧ True ∧ True ∧ True ∧ True ∧ kdB n l = Bool.false)) ∧ (Decidable.decide ((1 : Int) ≤ List.getD (List.take (3 : Nat) (List.drop (Int.toNat ((0 : Int) + (↑x : Int)) * (3 : Nat) + (0 : Nat)) l)) (0 : Nat) (0 : Int)) = !Bool.true → True ∧ True ∧ True ∧ True ∧ True ∧ True ∧ True ∧ True ∧ True ∧ True ∧ True ∧ True ∧ kdB n l = Bool.false)) ∧ (Decidable.decide ((↑x : Int) < (↑n : Int)) = Bool.false → True ∧ kdB n l = Bool.true))) (by kernel_rfl) ?_
  have er : ∀ k, List.take 3 (List.drop (k * 3) l) = rcd 3 l k := fun _ => rfl
  have g0 : ∀ k, (rcd 3 l k).getD 0 0 = l.getD (k * 3) 0 := fun k => rcd_get (by omega)
  have g1 : ∀ k, (rcd 3 l k).getD 1 0 = l.getD (k * 3 + 1) 0 := fun k => rcd_get (by omega)
  have g2 : ∀ k, (rcd 3 l k).getD 2 0 = l.getD (k * 3 + 2) 0 := fun k => rcd_get (by omega)
  simp only [true_and, and_true, and_self, decide_eq_true_eq, decide_eq_false_iff_not, Bool.not_eq_true', Bool.not_eq_false', Bool.not_true, Bool.not_false, beq_iff_eq, beq_eq_false_iff_ne, bne_iff_ne, bne_eq_false_iff_eq, ne_eq, not_true_eq_false, not_false_eq_true, false_implies, true_implies, implies_true, forall_const, exists_const, ↓reduceIte, Int.reduceEq, Int.toNat_natCast, Bool.false_eq_true, Bool.true_eq_false, reduceCtorEq, er, g0, g1, g2, Int.zero_add, Nat.add_zero, Int.ofNat_eq_natCast, Int.toNat_natCast]
  have b0 : ∀ k, k < n → -9223372036854775808 ≤ l.getD (k * 3) 0 ∧ l.getD (k * 3) 0 ≤ 9223372036854775807 := fun k hk => hb _ (by omega)
  have b1 : ∀ k, k < n → -9223372036854775808 ≤ l.getD (k * 3 + 1) 0 ∧ l.getD (k * 3 + 1) 0 ≤ 9223372036854775807 := fun k hk => hb _ (by omega)
  have b2 : ∀ k, k < n → -9223372036854775808 ≤ l.getD (k * 3 + 2) 0 ∧ l.getD (k * 3 + 2) 0 ≤ 9223372036854775807 := fun k hk => hb _ (by omega)
  refine ⟨fun h8 => kdB_f.2 fun q => by have := q.hi; omega, fun h8 => ⟨⟨0, ⟨by omega, fun i hi => by omega⟩, rfl⟩, ?_⟩⟩
  rintro k ⟨hk, hp⟩
  have bad : k < n → ¬ kdOk l k → kdB n l = false := kdB_no
  have step : k < n → kdOk l k → ∃ y : Nat, (y ≤ n ∧ ∀ i, i < y → kdOk l i) ∧ n - y < n - k ∧ (k : Int) + 1 = (y : Int) := fun hlt h => ⟨k + 1, ⟨by omega, fun i hi => by
    rcases (show i < k ∨ i = k by omega) with h' | rfl
    · exact hp i h'
    · exact h⟩, by omega, by omega⟩
  refine ⟨fun hlt => ?_, fun hge => ?_⟩
  · have c0 := b0 k (by omega); have c1 := b1 k (by omega); have c2 := b2 k (by omega)
    repeat' (first | omega | exact bad (by omega) (fun hh => by obtain ⟨q1, q2, q3⟩ := hh; omega) | exact step (by omega) ⟨by omega, by omega, by omega⟩ | apply And.intro | intro _)
  · exact kdB_t.2 ⟨by omega, fun i hi => hp i (by omega)⟩

noncomputable def gVk : Entry := fun args H => match args with
  | [.a (.c (.slc id b z s len _))] => match getB H id with
    | .cells _ t [.run ks n l] => some ((t = 91 ∧ b = 0 ∧ z = 0 ∧ s = 3 ∧ ks = [.i8, .i8, .i16]) ∧ 0 ≤ len ∧ len ≤ 1048576 ∧ len.toNat * 3 ≤ n ∧ l.length = n ∧ bd64 (len.toNat * 3) l, .a (.c (.bool (kdB len.toNat l))))
    | _ => none
  | _ => none
theorem gVk_inv {args : List LV} {H : List Blk} {p : Prop} {r : LV} (he : gVk args H = some (p, r)) (hp : p) : ∃ (id m n : Nat) (o : Bool) (l : List Int) (cap : Int),
    args = [.a (.c (.slc id 0 0 3 n cap))] ∧ getB H id = .cells o 91 [.run [.i8, .i8, .i16] m l] ∧ r = .a (.c (.bool (kdB n l))) ∧ n ≤ 1048576 ∧ n * 3 ≤ m ∧ l.length = m ∧ bd64 (n * 3) l := by
  unfold gVk at he
  split at he
  · split at he
    · rename_i id b z s len cap _ o t ks m l hg
      simp only [Option.some.injEq, Prod.mk.injEq] at he
      obtain ⟨rfl, rfl⟩ := he
      obtain ⟨⟨rfl, rfl, rfl, rfl, rfl⟩, h1, h2, h3, h4, h5⟩ := hp
      obtain ⟨n, rfl⟩ := Int.eq_ofNat_of_zero_le h1
      exact ⟨id, m, n, o, l, cap, rfl, hg, rfl, by omega, by simpa using h3, h4, by simpa using h5⟩
    · simp at he
  · simp at he
theorem e_ValidKindsS : EntryOk Try.prog TT 41 gVk := by
  refine ⟨fnOk Try.func41 (by kernel_rfl) rfl, ?_⟩
  intro args H p r he hp n0 w0 β w vals hG hH hA
  obtain ⟨id, m, n, o, l, cap, rfl, hg, rfl, h1, h2, h3, h4⟩ := gVk_inv he hp
  exact entry_view tt_ok (inlN_ok tt_ok C0_ok mixed (ILks_ok).ok 4) C0_ok mixed Try.func41 [id] (x_ValidKindsS m n l cap h1 h2 h3 h4) rfl rfl ⟨.inr (by rw [hg]; rfl), trivial⟩ hG hH hA

theorem e_ValidKindsI : EntryOk Try.prog TT 42 gVk := by
  refine ⟨fnOk Try.func42 (by kernel_rfl) rfl, ?_⟩
  intro args H p r he hp n0 w0 β w vals hG hH hA
  obtain ⟨id, m, n, o, l, cap, rfl, hg, rfl, h1, h2, h3, h4⟩ := gVk_inv he hp
  exact entry_view tt_ok (inlN_ok tt_ok C0_ok mixed (ILki_ok).ok 4) C0_ok mixed Try.func42 [id] (x_ValidKindsI m n l cap h1 h2 h3 h4) rfl rfl ⟨.inr (by rw [hg]; rfl), trivial⟩ hG hH hA


noncomputable def Ek1 : List (FuncId × Entry) := (15, gSzR) :: (21, gEqR 91 3 [.i8, .i8, .i16]) :: (41, gVk) :: (42, gVk) :: Ek0
theorem Ek1_ok : EntriesOk Try.prog TT Ek1 := ⟨e_szKindS, e_eqKindS, e_ValidKindsS, e_ValidKindsI, Ek0_ok⟩
def Mk1 : List (FuncId × EntryC) := [(18, gToR 91 3 [.i8, .i8, .i16])]
theorem Mk1_ok : EntriesCOk Try.prog TT Mk1 := ⟨e_toKindS, trivial⟩
noncomputable abbrev Ck1 : Ctr := ctrOfM Ek1 Mk1
theorem Ck1_ok : CtrOk Try.prog TT Ck1 := ctrOfM_ok Ek1_ok Mk1_ok

theorem ws_kd {n : Nat} {l : List Int} {len cap : Int} (ws : WS [.i8, .i8, .i16] 3 n l len cap) : bd64 (len.toNat * 3) (l.take (len.toNat * 3)) := by
  intro i hi
  rw [getD_take' hi]
  have h := ws.wf i (by have := ws.hn; omega)
  simp only [List.length_cons, List.length_nil, Nat.zero_add] at h
  generalize l.getD i 0 = v at *
  rcases (show i % 3 = 0 ∨ i % 3 = 1 ∨ i % 3 = 2 by omega) with e | e | e <;> simp [e, Lit.wf, IntKind.min, IntKind.max, IntKind.signed, IntKind.bits] at h <;> omega

end Go.Proofs.Ytchnopgjnpgjaaa
