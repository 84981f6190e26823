/- Slices of 64-bit numbers compared: a contract. No conditions beyond the ranges of the kinds. -/
import Derived.Test.YtghphlgfgblbeaaDoorRec
set_option linter.unusedSimpArgs false
set_option linter.unusedVariables false
namespace Go.Proofs.YtghphlgfgblbeaaDoor
open Go.Sx Go.RowKit

theorem x_eqInt64S (n1 n2 : Nat) (l1 l2 : List Int) (c1 c2 len1 len2 : Int) (h1 : 0 ≤ len1) (h2 : len1 ≤ 1048576) (h3 : 0 ≤ len2) (h4 : len1.toNat * 1 ≤ n1) (h5 : len2.toNat * 1 ≤ n2) (e1 : l1.length = n1) (e2 : l2.length = n2) : Fex true TT (inlN true TT C0 (lookI []) 4) C0 (fun _ => .inv (lmEq 5 1 len1 l1 l2)) Tryd.f17 [.a (.c (.slc 0 0 0 1 len1 c1)), .a (.c (.slc 1 0 0 1 len2 c2))] [.cells false 2 [.run [.i64] n1 l1], .cells false 2 [.run [.i64] n2 l2]] (fun lv _ => leL lv (.a (.c (.bool (eqSl 1 len1 len2 l1 l2))))) := by
  refine Go.Sx.by_eq (q := True ∧ True ∧ True ∧ True ∧ True ∧ True ∧ ((len1 != len2) = Bool.true → True ∧ eqSl (1 : Nat) len1 len2 l1 l2 = Bool.false) ∧ ((len1 != len2) = Bool.false → True ∧ (∃ (x : Nat), (x ≤ Int.toNat len1 ∧ ∀ (i : Nat), i < x * (1 : Nat) → List.getD l1 i (0 : Int) = List.getD l2 i (0 : Int)) ∧ (Cel.slc (0 : Nat) (0 : Nat) (0 : Int) (1 : Nat) len1 c1 = Cel.slc (0 : Nat) (0 : Nat) (0 : Int) (1 : Nat) len1 c1 ∧ Cel.slc (1 : Nat) (0 : Nat) (0 : Int) (1 : Nat) len2 c2 = Cel.slc (1 : Nat) (0 : Nat) (0 : Int) (1 : Nat) len2 c2 ∧ Cel.val Go.undef = Cel.val Go.undef ∧ Cel.val Go.undef = Cel.val Go.undef ∧ True ∧ (IntKind.i64 = IntKind.i64 ∧ (0 : Int) = (↑x : Int)) ∧ Cel.slc (0 : Nat) (0 : Nat) (0 : Int) (1 : Nat) len1 c1 = Cel.slc (0 : Nat) (0 : Nat) (0 : Int) (1 : Nat) len1 c1 ∧ (IntKind.i64 = IntKind.i64 ∧ len1 = len1) ∧ Cel.slc (1 : Nat) (0 : Nat) (0 : Int) (1 : Nat) len2 c2 = Cel.slc (1 : Nat) (0 : Nat) (0 : Int) (1 : Nat) len2 c2 ∧ (IntKind.i64 = IntKind.i64 ∧ len2 = len2) ∧ (len1 != len2) = (len1 != len2) ∧ True ∧ True ∧ True ∧ True ∧ True ∧ True ∧ True ∧ True ∧ True ∧ True ∧ True ∧ True ∧ True ∧ True ∧ True ∧ True) ∧ (Bool.false = Bool.false ∧ (2 : Nat) = (2 : Nat) ∧ ([EK.i64] = [EK.i64] ∧ n1 = n1 ∧ l1 = l1) ∧ True) ∧ (Bool.false = Bool.false ∧ (2 : Nat) = (2 : Nat) ∧ ([EK.i64] = [EK.i64] ∧ n2 = n2 ∧ l2 = l2) ∧ True) ∧ True) ∧ ∀ (x : Nat), (x ≤ Int.toNat len1 ∧ ∀ (i : Nat), i < x * (1 : Nat) → List.getD l1 i (0 : Int) = List.getD l2 i (0 : Int)) → True ∧ True ∧ True ∧ True ∧ (Decidable.decide ((↑x : Int) < len1) = Bool.true → True ∧ True ∧ ((0 : Int) ≤ (↑x : Int) ∧ (↑x : Int) < len1) ∧ ((0 : Int) ≤ (0 : Int) + (↑x : Int) ∧ Int.toNat ((0 : Int) + (↑x : Int)) < n1) ∧ True ∧ True ∧ ((0 : Int) ≤ (↑x : Int) ∧ (↑x : Int) < len2) ∧ ((0 : Int) ≤ (0 : Int) + (↑x : Int) ∧ Int.toNat ((0 : Int) + (↑x : Int)) < n2) ∧ True ∧ ((List.getD l1 (Int.toNat ((0 : Int) + (↑x : Int))) (0 : Int) != List.getD l2 (Int.toNat ((0 : Int) + (↑x : Int))) (0 : Int)) = Bool.true → True ∧ eqSl (1 : Nat) len1 len2 l1 l2 = Bool.false) ∧ ((List.getD l1 (Int.toNat ((0 : Int) + (↑x : Int))) (0 : Int) != List.getD l2 (Int.toNat ((0 : Int) + (↑x : Int))) (0 : Int)) = Bool.false → True ∧ ((-9223372036854775808 : Int) ≤ (↑x : Int) + (1 : Int) ∧ (↑x : Int) + (1 : Int) ≤ (9223372036854775807 : Int)) ∧ True ∧ ∃ (y : Nat), (y ≤ Int.toNat len1 ∧ ∀ (i : Nat), i < y * (1 : Nat) → List.getD l1 i (0 : Int) = List.getD l2 i (0 : Int)) ∧ Int.toNat len1 - y < Int.toNat len1 - x ∧ (Cel.slc (0 : Nat) (0 : Nat) (0 : Int) (1 : Nat) len1 c1 = Cel.slc (0 : Nat) (0 : Nat) (0 : Int) (1 : Nat) len1 c1 ∧ Cel.slc (1 : Nat) (0 : Nat) (0 : Int) (1 : Nat) len2 c2 = Cel.slc (1 : Nat) (0 : Nat) (0 : Int) (1 : Nat) len2 c2 ∧ Cel.val Go.undef = Cel.val Go.undef ∧ Cel.val Go.undef = Cel.val Go.undef ∧ True ∧ (IntKind.i64 = IntKind.i64 ∧ (↑x : Int) + (1 : Int) = (↑y : Int)) ∧ Cel.slc (0 : Nat) (0 : Nat) (0 : Int) (1 : Nat) len1 c1 = Cel.slc (0 : Nat) (0 : Nat) (0 : Int) (1 : Nat) len1 c1 ∧ (IntKind.i64 = IntKind.i64 ∧ len1 = len1) ∧ Cel.slc (1 : Nat) (0 : Nat) (0 : Int) (1 : Nat) len2 c2 = Cel.slc (1 : Nat) (0 : Nat) (0 : Int) (1 : Nat) len2 c2 ∧ (IntKind.i64 = IntKind.i64 ∧ len2 = len2) ∧ (len1 != len2) = (len1 != len2) ∧ True ∧ True ∧ True ∧ True ∧ True ∧ True ∧ True ∧ True ∧ True ∧ True ∧ True ∧ True ∧ True ∧ True ∧ True ∧ True) ∧ (Bool.false = Bool.false ∧ (2 : Nat) = (2 : Nat) ∧ ([EK.i64] = [EK.i64] ∧ n1 = n1 ∧ l1 = l1) ∧ True) ∧ (Bool.false = Bool.false ∧ (2 : Nat) = (2 : Nat) ∧ ([EK.i64] = [EK.i64] ∧ n2 = n2 ∧ l2 = l2) ∧ True) ∧ True)) ∧ (Decidable.decide ((↑x : Int) < len1) = Bool.false → True ∧ eqSl (1 : Nat) len1 len2 l1 l2 = Bool.true))) (by kernel_rfl) ?_
  simp only [true_and, and_true, and_self, decide_eq_true_eq, decide_eq_false_iff_not, Bool.not_eq_true', Bool.not_eq_false', Bool.not_true, Bool.not_false, beq_iff_eq, beq_eq_false_iff_ne, bne_iff_ne, bne_eq_false_iff_eq, ne_eq, not_true_eq_false, not_false_eq_true, false_implies, true_implies, implies_true, forall_const, exists_const, ↓reduceIte, Int.reduceEq, Int.toNat_natCast, Bool.false_eq_true, Bool.true_eq_false, reduceCtorEq, Int.zero_add, Nat.add_zero, Nat.mul_one, Int.toNat_natCast]
  refine ⟨fun h => eqSl_ne h, fun hn => ⟨⟨0, ⟨by omega, fun i hi => by omega⟩, rfl⟩, ?_⟩⟩
  rintro k ⟨hk, hp⟩
  refine ⟨fun hlt => ?_, fun hge => eqSl_yes hn (by omega) (by omega) fun i hi => hp i (by omega)⟩
  repeat' (first | omega | apply And.intro)
  · exact fun hc => eqSl_no (i := k) (by omega) hc
  · refine fun hc => ⟨by omega, k + 1, ⟨by omega, fun i hi => ?_⟩, by omega, by omega⟩
    rcases (show i < k ∨ i = k by omega) with h | rfl
    · exact hp i h
    · exact hc
theorem e_eqInt64S : EntryOk Tryd.prog TT 17 (gEqR 2 1 [.i64]) := by
  refine ⟨fnOk Tryd.func17 (by kernel_rfl) rfl, ?_⟩
  intro args H p r he hp n0 w0 β w vals hG hH hA
  obtain ⟨i1, i2, o1, o2, n1, n2, l1, l2, c1, c2, len1, len2, rfl, hg1, hg2, rfl, h1, h2, h3, h4, h5, h6, h7⟩ := gEqR_inv he hp
  exact entry_view tt_ok (inlN_ok tt_ok C0_ok mixed (InlsOk.ok (L := []) trivial) 4) C0_ok mixed Tryd.func17 [i1, i2] (x_eqInt64S n1 n2 l1 l2 c1 c2 len1 len2 h1 h2 h3 h4 h5 h6 h7) rfl rfl ⟨.inr (by rw [hg1]; rfl), .inr (by rw [hg2]; rfl), trivial⟩ hG hH hA

/-! ### What the laws ask of a slice that comes back, eqInt64S by its contract -/
theorem mark_tl {d n' : Nat} {L : List Int} {R : Nat → Prop} (h1 : d ≤ n') (hl : L.length = n') (hd : d ≤ 1000000000000) (hR : R d) :
    (∃ x : Nat, ((x : Int) ≤ (d : Int) ∨ x = 0) ∧ (1 = 1 + (x : Int) ∧ 0 = (x : Int)) ∧ L = mrk L 1 x) ∧ ∀ x : Nat, ((x : Int) ≤ (d : Int) ∨ x = 0) →
      ((x : Int) < (d : Int) → (0 ≤ (x : Int) ∧ (x : Int) < (d : Int)) ∧ (0 ≤ (x : Int) ∧ x < n') ∧ (-9223372036854775808 ≤ 1 + (x : Int) + 1 ∧ 1 + (x : Int) + 1 ≤ 9223372036854775807) ∧ (-9223372036854775808 ≤ (x : Int) + 1 ∧ (x : Int) + 1 ≤ 9223372036854775807) ∧
        ∃ y : Nat, ((y : Int) ≤ (d : Int) ∨ y = 0) ∧ d - y < d - x ∧ (1 + (x : Int) + 1 = 1 + (y : Int) ∧ (x : Int) + 1 = (y : Int)) ∧ (mrk L 1 x).set x (1 + (x : Int)) = mrk L 1 y) ∧ (¬ (x : Int) < (d : Int) → R x) :=
  ⟨⟨0, .inr rfl, ⟨rfl, rfl⟩, (mrk_zero _ _).symm⟩, fun x hx => ⟨fun hlt => ⟨by omega, by omega, by omega, by omega, x + 1, .inl (by omega), by omega, ⟨by omega, by omega⟩, mrk_set (by omega)⟩, fun hge => by
    obtain rfl : x = d := by omega
    exact hR⟩⟩

theorem held_tl {d n' : Nat} {L : List Int} {R : Nat → Prop} (h1 : d ≤ n') (hl : L.length = n') (hd : d ≤ 1000000000000) (hR : R d) :
    (∃ x : Nat, ((x : Int) ≤ (d : Int) ∨ x = 0) ∧ 1 = 1 + (x : Int) ∧ 0 = (x : Int)) ∧ ∀ x : Nat, ((x : Int) ≤ (d : Int) ∨ x = 0) →
      ((x : Int) < (d : Int) → (0 ≤ (x : Int) ∧ (x : Int) < (d : Int)) ∧ (0 ≤ (x : Int) ∧ x < n') ∧ (¬ (mrk L 1 d).getD x 0 = 1 + (x : Int) → False) ∧ ((mrk L 1 d).getD x 0 = 1 + (x : Int) → (-9223372036854775808 ≤ 1 + (x : Int) + 1 ∧ 1 + (x : Int) + 1 ≤ 9223372036854775807) ∧ (-9223372036854775808 ≤ (x : Int) + 1 ∧ (x : Int) + 1 ≤ 9223372036854775807) ∧
        ∃ y : Nat, ((y : Int) ≤ (d : Int) ∨ y = 0) ∧ d - y < d - x ∧ 1 + (x : Int) + 1 = 1 + (y : Int) ∧ (x : Int) + 1 = (y : Int))) ∧ (¬ (x : Int) < (d : Int) → R x) :=
  ⟨⟨0, .inr rfl, rfl, rfl⟩, fun x hx => ⟨fun hlt => ⟨by omega, by omega, fun h => h (by rw [mrk_get (by omega), if_pos (by omega)]), fun _ => ⟨by omega, by omega, x + 1, .inl (by omega), by omega, by omega, by omega⟩⟩, fun hge => by
    obtain rfl : x = d := by omega
    exact hR⟩⟩

end Go.Proofs.YtghphlgfgblbeaaDoor
