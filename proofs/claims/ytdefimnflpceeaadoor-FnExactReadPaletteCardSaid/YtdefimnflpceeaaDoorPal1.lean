/- Tones and palettes: copies, comparisons, how far tones are apart. No conditions beyond the ranges of the kinds. -/
import Derived.Test.YtdefimnflpceeaaDoorRec
set_option linter.unusedSimpArgs false
set_option linter.unusedVariables false
namespace Go.Proofs.YtdefimnflpceeaaDoor
open Go.Sx Go.RowKit
variable {mx : Nat → Value}

def tonL (a : List Int) : LV := .a (.agg [.run [.u8] 3 a])
def ligL (a : List Int) : LV := .a (.agg [.run [.i64] 3 a])

/-- What the kind of a tone's lights allows. -/
structure TBl (a : List Int) : Prop where
  len : a.length = 3
  b : ∀ i, i < 3 → 0 ≤ a.getD i 0 ∧ a.getD i 0 ≤ 255

theorem list3 {a : List Int} (h : a.length = 3) : ∃ x y z, a = [x, y, z] := match a, h with | [x, y, z], _ => ⟨x, y, z, rfl⟩

theorem sq {x : Int} (h1 : -255 ≤ x) (h2 : x ≤ 255) : 0 ≤ x * x ∧ x * x ≤ 65025 := by
  have key : ∀ y : Int, 0 ≤ y → y ≤ 255 → 0 ≤ y * y ∧ y * y ≤ 65025 := fun y h h' => ⟨Int.mul_nonneg h h, Int.mul_le_mul h' h' h (by omega)⟩
  rcases Int.le_total 0 x with h | h
  · exact key x h h2
  · have := key (-x) (by omega) (by omega)
    rwa [Int.neg_mul_neg] at this

/-! ### Copies and comparisons -/
noncomputable def ILz  : List (FuncId × Func × (Nat → LM)) := [
  ]
theorem ILz_ok  : InlsOk Tryd.prog ILz := trivial

theorem x_eqTone (a b : List Int) : Fex true (TT mx) (inlN true (TT mx) C0 (lookI []) 4) C0 (fun _ => .unroll 4) Tryd.f15 [tonL a, tonL b] [] (fun lv _ => leL lv (.a (.c (.bool (eqE 3 a b))))) := by
  refine Go.Sx.by_eq (q := True ∧ True ∧ True ∧ True ∧ True ∧ True ∧ True ∧ True ∧ True ∧ True ∧ True ∧ True ∧ True ∧ ((List.getD a (0 : Nat) (0 : Int) != List.getD b (0 : Nat) (0 : Int)) = Bool.true → True ∧ eqE (3 : Nat) a b = Bool.false) ∧ ((List.getD a (0 : Nat) (0 : Int) != List.getD b (0 : Nat) (0 : Int)) = Bool.false → True ∧ True ∧ True ∧ True ∧ True ∧ True ∧ True ∧ True ∧ True ∧ True ∧ True ∧ True ∧ ((List.getD a (1 : Nat) (0 : Int) != List.getD b (1 : Nat) (0 : Int)) = Bool.true → True ∧ eqE (3 : Nat) a b = Bool.false) ∧ ((List.getD a (1 : Nat) (0 : Int) != List.getD b (1 : Nat) (0 : Int)) = Bool.false → True ∧ True ∧ True ∧ True ∧ True ∧ True ∧ True ∧ True ∧ True ∧ True ∧ True ∧ True ∧ ((List.getD a (2 : Nat) (0 : Int) != List.getD b (2 : Nat) (0 : Int)) = Bool.true → True ∧ eqE (3 : Nat) a b = Bool.false) ∧ ((List.getD a (2 : Nat) (0 : Int) != List.getD b (2 : Nat) (0 : Int)) = Bool.false → True ∧ True ∧ True ∧ True ∧ True ∧ True ∧ eqE (3 : Nat) a b = Bool.true)))) (by kernel_rfl) ?_
  simp only [eqE3]
  cases h0 : (a.getD 0 0 == b.getD 0 0) <;> cases h1 : (a.getD 1 0 == b.getD 1 0) <;> cases h2 : (a.getD 2 0 == b.getD 2 0) <;> simp_all

def gEqT : Entry := fun args _ => match args with
  | [.a (.agg [.run [.u8] 3 a]), .a (.agg [.run [.u8] 3 b])] => some (True, .a (.c (.bool (eqE 3 a b))))
  | _ => none
theorem e_eqTone : EntryOk Tryd.prog (TT mx) 15 gEqT := by
  refine ⟨fnOk Tryd.func15 (by kernel_rfl) rfl, ?_⟩
  intro args H p r he hp n0 w0 β w vals hG hH hA
  unfold gEqT at he
  split at he
  · simp only [Option.some.injEq, Prod.mk.injEq] at he
    obtain ⟨rfl, rfl⟩ := he
    exact entry_bare tt_ok (inlN_ok tt_ok C0_ok mixed (ILz_ok).ok 4) C0_ok mixed Tryd.func15 (x_eqTone _ _) rfl rfl hG hH hA
  · simp at he


def Ep0 : List (FuncId × Entry) := [(15, gEqT)]
theorem Ep0_ok : EntriesOk Tryd.prog (TT mx) Ep0 := ⟨e_eqTone, trivial⟩
abbrev Cp0 : Ctr := ctrOf Ep0
theorem Cp0_ok : CtrOk Tryd.prog (TT mx) Cp0 := ctrOf_ok Ep0_ok

theorem x_eqPalette (n1 n2 : Nat) (l1 l2 : List Int) (c1 c2 len1 len2 : Int) (h1 : 0 ≤ len1) (h2 : len1 ≤ 1048576) (h3 : 0 ≤ len2) (h4 : len1.toNat * 3 ≤ n1) (h5 : len2.toNat * 3 ≤ n2) (e1 : l1.length = n1) (e2 : l2.length = n2) : Fex true (TT mx) (inlN true (TT mx) Cp0 (lookI ILz) 4) Cp0 (fun _ => .inv (lmEq 5 3 len1 l1 l2)) Tryd.f6 [.a (.c (.slc 0 0 0 3 len1 c1)), .a (.c (.slc 1 0 0 3 len2 c2))] [.cells false 32 [.run [.u8] n1 l1], .cells false 32 [.run [.u8] n2 l2]] (fun lv _ => leL lv (.a (.c (.bool (eqSl 3 len1 len2 l1 l2))))) := by
  refine Go.Sx.by_eq (q := True ∧ True ∧ True ∧ True ∧ True ∧ True ∧ ((len1 != len2) = Bool.true → True ∧ eqSl (3 : Nat) len1 len2 l1 l2 = Bool.false) ∧ ((len1 != len2) = Bool.false → True ∧ (∃ (x : Nat), (x ≤ Int.toNat len1 ∧ ∀ (i : Nat), i < x * (3 : Nat) → List.getD l1 i (0 : Int) = List.getD l2 i (0 : Int)) ∧ (Go.Sx.Cel.slc (0 : Nat) (0 : Nat) (0 : Int) (3 : Nat) len1 c1 = Go.Sx.Cel.slc (0 : Nat) (0 : Nat) (0 : Int) (3 : Nat) len1 c1 ∧ Go.Sx.Cel.slc (1 : Nat) (0 : Nat) (0 : Int) (3 : Nat) len2 c2 = Go.Sx.Cel.slc (1 : Nat) (0 : Nat) (0 : Int) (3 : Nat) len2 c2 ∧ Go.Sx.Cel.val Go.undef = Go.Sx.Cel.val Go.undef ∧ Go.Sx.Cel.val Go.undef = Go.Sx.Cel.val Go.undef ∧ True ∧ (Go.IntKind.i64 = Go.IntKind.i64 ∧ (0 : Int) = (↑x : Int)) ∧ Go.Sx.Cel.slc (0 : Nat) (0 : Nat) (0 : Int) (3 : Nat) len1 c1 = Go.Sx.Cel.slc (0 : Nat) (0 : Nat) (0 : Int) (3 : Nat) len1 c1 ∧ (Go.IntKind.i64 = Go.IntKind.i64 ∧ len1 = len1) ∧ Go.Sx.Cel.slc (1 : Nat) (0 : Nat) (0 : Int) (3 : Nat) len2 c2 = Go.Sx.Cel.slc (1 : Nat) (0 : Nat) (0 : Int) (3 : Nat) len2 c2 ∧ (Go.IntKind.i64 = Go.IntKind.i64 ∧ len2 = len2) ∧ (len1 != len2) = (len1 != len2) ∧ True ∧ True ∧ True ∧ True ∧ True ∧ True ∧ True ∧ True ∧ True ∧ True ∧ True ∧ True ∧ True ∧ True ∧ True ∧ True ∧ True) ∧ (Bool.false = Bool.false ∧ (32 : Nat) = (32 : Nat) ∧ ([Go.Sx.EK.u8] = [Go.Sx.EK.u8] ∧ n1 = n1 ∧ l1 = l1) ∧ True) ∧ (Bool.false = Bool.false ∧ (32 : Nat) = (32 : Nat) ∧ ([Go.Sx.EK.u8] = [Go.Sx.EK.u8] ∧ n2 = n2 ∧ l2 = l2) ∧ True) ∧ True) ∧ ∀ (x : Nat), (x ≤ Int.toNat len1 ∧ ∀ (i : Nat), i < x * (3 : Nat) → List.getD l1 i (0 : Int) = List.getD l2 i (0 : Int)) → True ∧ True ∧ True ∧ True ∧ (Decidable.decide ((↑x : Int) < len1) = Bool.true → True ∧ True ∧ ((0 : Int) ≤ (↑x : Int) ∧ (↑x : Int) < len1) ∧ ((0 : Int) ≤ (0 : Int) + (↑x : Int) ∧ Int.toNat ((0 : Int) + (↑x : Int)) * (3 : Nat) + (0 : Nat) + (3 : Nat) ≤ n1) ∧ True ∧ True ∧ ((0 : Int) ≤ (↑x : Int) ∧ (↑x : Int) < len2) ∧ ((0 : Int) ≤ (0 : Int) + (↑x : Int) ∧ Int.toNat ((0 : Int) + (↑x : Int)) * (3 : Nat) + (0 : Nat) + (3 : Nat) ≤ n2) ∧ True ∧ True ∧ ((!eqE (3 : Nat) (List.take (3 : Nat) (List.drop (Int.toNat ((0 : Int) + (↑x : Int)) * (3 : Nat) + (0 : Nat)) l1)) (List.take (3 : Nat) (List.drop (Int.toNat ((0 : Int) + (↑x : Int)) * (3 : Nat) + (0 : Nat)) l2))) = Bool.true → True ∧ eqSl (3 : Nat) len1 len2 l1 l2 = Bool.false) ∧ ((!eqE (3 : Nat) (List.take (3 : Nat) (List.drop (Int.toNat ((0 : Int) + (↑x : Int)) * (3 : Nat) + (0 : Nat)) l1)) (List.take (3 : Nat) (List.drop (Int.toNat ((0 : Int) + (↑x : Int)) * (3 : Nat) + (0 : Nat)) l2))) = Bool.false → True ∧ ((-9223372036854775808 : Int) ≤ (↑x : Int) + (1 : Int) ∧ (↑x : Int) + (1 : Int) ≤ (9223372036854775807 : Int)) ∧ True ∧ ∃ (y : Nat), (y ≤ Int.toNat len1 ∧ ∀ (i : Nat), i < y * (3 : Nat) → List.getD l1 i (0 : Int) = List.getD l2 i (0 : Int)) ∧ Int.toNat len1 - y < Int.toNat len1 - x ∧ (Go.Sx.Cel.slc (0 : Nat) (0 : Nat) (0 : Int) (3 : Nat) len1 c1 = Go.Sx.Cel.slc (0 : Nat) (0 : Nat) (0 : Int) (3 : Nat) len1 c1 ∧ Go.Sx.Cel.slc (1 : Nat) (0 : Nat) (0 : Int) (3 : Nat) len2 c2 = Go.Sx.Cel.slc (1 : Nat) (0 : Nat) (0 : Int) (3 : Nat) len2 c2 ∧ Go.Sx.Cel.val Go.undef = Go.Sx.Cel.val Go.undef ∧ Go.Sx.Cel.val Go.undef = Go.Sx.Cel.val Go.undef ∧ True ∧ (Go.IntKind.i64 = Go.IntKind.i64 ∧ (↑x : Int) + (1 : Int) = (↑y : Int)) ∧ Go.Sx.Cel.slc (0 : Nat) (0 : Nat) (0 : Int) (3 : Nat) len1 c1 = Go.Sx.Cel.slc (0 : Nat) (0 : Nat) (0 : Int) (3 : Nat) len1 c1 ∧ (Go.IntKind.i64 = Go.IntKind.i64 ∧ len1 = len1) ∧ Go.Sx.Cel.slc (1 : Nat) (0 : Nat) (0 : Int) (3 : Nat) len2 c2 = Go.Sx.Cel.slc (1 : Nat) (0 : Nat) (0 : Int) (3 : Nat) len2 c2 ∧ (Go.IntKind.i64 = Go.IntKind.i64 ∧ len2 = len2) ∧ (len1 != len2) = (len1 != len2) ∧ True ∧ True ∧ True ∧ True ∧ True ∧ True ∧ True ∧ True ∧ True ∧ True ∧ True ∧ True ∧ True ∧ True ∧ True ∧ True ∧ True) ∧ (Bool.false = Bool.false ∧ (32 : Nat) = (32 : Nat) ∧ ([Go.Sx.EK.u8] = [Go.Sx.EK.u8] ∧ n1 = n1 ∧ l1 = l1) ∧ True) ∧ (Bool.false = Bool.false ∧ (32 : Nat) = (32 : Nat) ∧ ([Go.Sx.EK.u8] = [Go.Sx.EK.u8] ∧ n2 = n2 ∧ l2 = l2) ∧ True) ∧ True)) ∧ (Decidable.decide ((↑x : Int) < len1) = Bool.false → True ∧ eqSl (3 : Nat) len1 len2 l1 l2 = Bool.true))) (by kernel_rfl) ?_
  have e0 : ∀ a b : List Int, eqE 3 a b = eqE 3 a b := fun a b => by rfl
  simp only [e0]
  simp only [true_and, and_true, and_self, decide_eq_true_eq, decide_eq_false_iff_not, Bool.not_eq_true', Bool.not_eq_false', Bool.not_true, Bool.not_false, beq_iff_eq, beq_eq_false_iff_ne, bne_iff_ne, bne_eq_false_iff_eq, ne_eq, not_true_eq_false, not_false_eq_true, false_implies, true_implies, implies_true, forall_const, exists_const, ↓reduceIte, Int.reduceEq, Int.toNat_natCast, Bool.false_eq_true, Bool.true_eq_false, reduceCtorEq, Int.zero_add, Nat.add_zero]
  refine ⟨fun h => eqSl_ne h, fun hn => ⟨⟨0, ⟨by omega, fun i hi => by omega⟩, rfl⟩, ?_⟩⟩
  rintro k ⟨hk, hp⟩
  refine ⟨fun hlt => ?_, fun hge => eqSl_yes hn (by omega) (by omega) fun i hi => hp i (by omega)⟩
  repeat' (first | omega | apply And.intro)
  · exact fun hc => by first | exact eqE_stop (by omega) hc | exact eqE_stop' (by omega) (by omega) (by omega) hc
  · exact fun hc => ⟨by omega, k + 1, ⟨by omega, by first | exact eqE_step hp hc | exact eqE_step' (by omega) (by omega) hp hc⟩, by omega, by omega⟩

theorem e_eqPalette : EntryOk Tryd.prog (TT mx) 6 (gEqR 32 3 [.u8]) := by
  refine ⟨fnOk Tryd.func6 (by kernel_rfl) rfl, ?_⟩
  intro args H p r he hp n0 w0 β w vals hG hH hA
  obtain ⟨i1, i2, o1, o2, n1, n2, l1, l2, c1, c2, len1, len2, rfl, hg1, hg2, rfl, h1, h2, h3, h4, h5, h6, h7⟩ := gEqR_inv he hp
  exact entry_view tt_ok (inlN_ok tt_ok Cp0_ok mixed ILz_ok.ok 4) Cp0_ok mixed Tryd.func6 [i1, i2] (x_eqPalette n1 n2 l1 l2 c1 c2 len1 len2 h1 h2 h3 h4 h5 h6 h7) rfl rfl ⟨.inr (by rw [hg1]; rfl), .inr (by rw [hg2]; rfl), trivial⟩ hG hH hA



end Go.Proofs.YtdefimnflpceeaaDoor
